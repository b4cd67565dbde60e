import PyProof.Rows.All
import Wide.All
import OpenK.AllK
import PySem.Challenge.RW_blotsure_k66_page_read
abbrev Qb:=@List.length_map
abbrev Qr:=@PySem.wpAny_bind
abbrev Zl:=@List.mem_singleton
abbrev Zp:=@List.mem_map
abbrev Zs:=@List.getElem?_eq_getElem
abbrev Yf:=@List.mem_of_getElem?
abbrev Xs:=@PySem.wpAny_pure
abbrev Wp:=@List.map_append
abbrev Jn:=@PySem.Heap.get?_push_of_some
abbrev À:=@List.getElem?_map
abbrev Á:=@List.getD_eq_getElem?_getD
abbrev Â:=@List.length_append
abbrev Ã:=@List.mem_append
abbrev Ä:=@List.getElem?_eq_some_iff
abbrev Å:=@List.mem_cons
abbrev Æ:=@List.map_map
abbrev Ç:=@Nat.le_refl
abbrev È:=@List.map_cons
abbrev É:=@PySem.Heap.lt_size
abbrev Ê:=@PySem.Heap.get?_push_size
abbrev Ë:=@List.mem_cons_self
abbrev Ì:=@List.mem_cons_of_mem
abbrev Í:=@List.size_toArray
abbrev Î:=@Bool.false_ne_true
abbrev Ï:=@Option.map_eq_some_iff
abbrev Ð:=@Nat.le_trans
abbrev Ñ:=@Nat.lt_of_le_of_lt
abbrev Ò:=@List.take_add_one
abbrev Ó:=@decide_eq_false
abbrev Ô:=@congrArg
abbrev Õ:=@decide_eq_true
abbrev Ö:=@Nat.lt_of_lt_of_le
abbrev Ø:=@List.mem_append_right
abbrev Ù:=@Option.some.inj
abbrev Ú:=@List.length_take
abbrev Û:=@Bool.false_eq_true
abbrev Ü:=@List.nodup_append
abbrev Ý:=@Nat.ne_of_lt
abbrev Þ:=@List.length_singleton
abbrev ß:=@List.mem_append_left
abbrev à:=@Int.toNat_natCast
abbrev á:=@Nat.zero_le
abbrev â:=@List.not_mem_nil
abbrev ã:=@List.getElem?_append_right
abbrev ä:=@List.getElem_mem
abbrev å:=@List.length_replicate
abbrev æ:=@List.nodup_cons
abbrev ç:=@List.take_length
abbrev è:=@List.getElem?_append_left
abbrev é:=@of_decide_eq_true
abbrev ê:=@PySem.wpAny_call_entry
abbrev ë:=@List.take_of_length_le
abbrev ì:=@PySem.wpAny_holding
abbrev í:=@PySem.wpAny_mono
abbrev î:=@PySem.wpAny_field
abbrev ï:=@PySem.Heap.get?_update_self
abbrev ð:=@PySem.wpAny_newObj_type
abbrev ñ:=@List.mem_filterMap
abbrev ò:=@List.append_nil
abbrev ó:=@PySem.Heap.get?_update_other
abbrev ô:=@List.length_cons
abbrev õ:=@List.length_range
abbrev ö:=@List.forIn_cons
abbrev ø:=@PySem.sizeLine_eq
abbrev ù:=@Bool.and_eq_true
abbrev ú:=@List.mem_filter
abbrev û:=@PyProof.Rows.wpS_bind
abbrev ü:=@List.mem_range
abbrev ý:=@if_false
abbrev þ:=@PySem.wpAny_setField_rec
abbrev ÿ:=@Array.getElem?_toList
abbrev Ā:=@Array.length_toList
abbrev ā:=@PySem.Heap.SameBut.update
abbrev Ă:=@PySem.F.excBase_ValueError
abbrev ă:=@Nat.lt_irrefl
abbrev Ą:=@List.mem_iff_getElem
abbrev ą:=@List.mem_of_find?_eq_some
abbrev Ć:=@List.Nodup.sublist
abbrev ć:=@PySem.wpAny_seqItems
abbrev Ĉ:=@List.length_drop
abbrev ĉ:=@Bool.not_true
abbrev Ċ:=@List.getElem?_eq_none
abbrev ċ:=@PySem.wpAny_truthy_bool
abbrev Č:=@List.map_nil
abbrev č:=@PySem.wpAny_dictEntries
abbrev Ď:=@or_false
abbrev ď:=@PySem.Paired.length
abbrev Đ:=@PySem.W.kia_one
abbrev đ:=@List.find?_cons
abbrev Ē:=@PySem.Calls.callWith_builtin
abbrev ē:=@Array.getElem?_eq_getElem
abbrev Ĕ:=@List.filterMap_cons
abbrev ĕ:=@List.append_assoc
abbrev Ė:=@PyProof.Rows.wpS_pure
abbrev ė:=@List.length_filterMap_le
abbrev Ę:=@PySem.codeAny_builtin
abbrev ę:=@Nat.lt_or_ge
abbrev Ě:=@Int.emod_lt_of_pos
abbrev ě:=@List.lookup_cons
abbrev Ĝ:=@Sum.inr.inj
abbrev ĝ:=@PySem.Around.under_plainId
abbrev Ğ:=@List.filter_cons
abbrev ğ:=@PyProof.Rows.callWith_type1
abbrev Ġ:=@Nat.lt_succ_of_lt
abbrev ġ:=@Nat.ne_of_gt
abbrev Ģ:=@List.take_sublist
abbrev ģ:=@PySem.Heap.size_push
abbrev Ĥ:=@PySem.W.hideAll_get
abbrev ĥ:=@List.map_congr_left
abbrev Ħ:=@Int.emod_nonneg
abbrev ħ:=@PyProof.Rows.slot_tuple_getitem
abbrev Ĩ:=@List.drop_eq_getElem_cons
abbrev ĩ:=@PySem.wpAny_notOrdered_dict
abbrev Ī:=@PySem.wpAny_pyIter_tuple
abbrev ī:=@PySem.Calls.spliced_cons
abbrev Ĭ:=@Nat.lt_succ_self
abbrev ĭ:=@PySem.Obj.data_mapFields
abbrev Į:=@of_decide_eq_false
abbrev į:=@List.getElem_map
abbrev İ:=@Nat.le_of_lt
abbrev ı:=@if_true
abbrev Ĳ:=@PySem.Calls.evalArgs_plain
abbrev ĳ:=@PySem.F.slot_dict_itemiterator_next
abbrev Ĵ:=@PySem.F.plainAttrs_dict
abbrev ĵ:=@PySem.F.plainAttrs_list
abbrev Ķ:=@PySem.F.slot_dict_keyiterator_next
abbrev ķ:=@PySem.wpAny_rule
abbrev ĸ:=@PySem.PassesOwn.never
abbrev Ĺ:=@beq_eq_false_iff_ne
abbrev ĺ:=@List.replicate_succ
abbrev Ļ:=@List.getElem?_set_self
abbrev ļ:=@List.length_pos_of_mem
abbrev Ľ:=@List.any_cons
abbrev ľ:=@PySem.wpAny_attempt
abbrev Ŀ:=@Nat.testBit_succ
abbrev ŀ:=@PySem.wpAny_isInstance
abbrev Ł:=@PySem.F.plain_min_loop
abbrev ł:=@List.mem_flatMap
abbrev Ń:=@PySem.tupleKind_room_in1
abbrev ń:=@PySem.wpAny_setField
abbrev Ņ:=@List.pairwise_cons
abbrev ņ:=@List.find?_eq_none
abbrev Ň:=@PySem.F.slot_tuple_iterator_next
abbrev ň:=@List.forIn_nil
abbrev Ŋ:=@Array.getElem?_eq_some_iff
abbrev ŋ:=@PySem.wpAny_tupleItemsOf
abbrev Ō:=@List.length_filter_le
abbrev ō:=@List.mem_iff_getElem?
abbrev Ŏ:=@PySem.wpAny_passesOwn
abbrev ŏ:=@Nat.testBit_and
abbrev Ő:=@PySem.Calls.spliced_nil
abbrev ő:=@Option.isSome_map
abbrev Œ:=@Nat.eq_of_testBit_eq
abbrev œ:=@List.Pairwise.imp
abbrev Ŕ:=@PySem.wpAny_letGo
abbrev ŕ:=@Nat.add_le_add_right
abbrev Ŗ:=@List.sum_cons
abbrev ŗ:=@PySem.mem_of_lookup
abbrev Ř:=@List.length_pos_iff
abbrev ř:=@List.length_reverse
abbrev Ś:=@List.filter_sublist
abbrev ś:=@PySem.wpAny_Call_Name_kw
abbrev Ŝ:=@Option.map_eq_none_iff
abbrev ŝ:=@List.drop_of_length_le
abbrev Ş:=@Option.map_some
abbrev ş:=@PySem.wpAny_execs_nil
abbrev Š:=@List.length_nil
abbrev š:=@PySem.wpAny_dictEpoch
abbrev Ţ:=@List.find?_some
abbrev ţ:=@PySem.wpAny_standAt
abbrev Ť:=@PySem.Obj.isFreed_of_fields
abbrev ť:=@PySem.wpAny_isOneOf_keyiter
abbrev Ŧ:=@PySem.isSubtype_tuple_tuple
abbrev ŧ:=@Bool.eq_false_iff
abbrev Ũ:=@List.pairwise_map
abbrev ũ:=@List.getElem?_set_ne
abbrev Ū:=@Bool.false_and
abbrev ū:=@Array.perm_iff_toList_perm
abbrev Ŭ:=@PySem.Obj.data_mapDictKeys
abbrev ŭ:=@List.lt_irrefl
abbrev Ů:=@List.getElem_inj
abbrev ů:=@Nat.add_comm
abbrev Ű:=@Nat.min_eq_right
abbrev ű:=@List.pairwise_iff_getElem
abbrev Ų:=@List.mem_or_eq_of_mem_set
abbrev ų:=@PySem.F.args_tuple_add_2
abbrev Ŵ:=@Bool.eq_iff_iff
abbrev ŵ:=@PySem.wpAny_specialOf
abbrev Ŷ:=@Nat.min_eq_left
abbrev ŷ:=@List.zip_cons_cons
abbrev Ÿ:=@PySem.call_meets
abbrev Ź:=@Nat.lt_or_eq_of_le
abbrev ź:=@List.filter_append
abbrev Ż:=@LawfulBEq.eq_of_beq
abbrev ż:=@PySem.F.entry_tuple_add
abbrev Ž:=@PySem.wpAny_Call_method0_late
abbrev ž:=@PySem.F.slot_dict_items
abbrev Α:=@List.length_eq_zero_iff
abbrev Β:=@Nat.add_sub_cancel_left
abbrev Δ:=@Nat.zero_add
abbrev Ε:=@PySem.F.slot_tuple_add
abbrev Ζ:=@List.flatten_cons
abbrev Η:=@Nat.lt_trans
abbrev Θ:=@PyProof.Rows.wpS_forRange
abbrev Ι:=@PySem.wpAny_tryCatch
abbrev Κ:=@PySem.wpAny_isOneOf_itemiter
abbrev Λ:=@List.getElem?_set
abbrev Μ:=@List.flatMap_singleton
abbrev Ν:=@Classical.not_not
abbrev Ξ:=@PySem.F.slot_tuple_lt
abbrev Ο:=@List.filterMap_append
abbrev Ρ:=@List.cons_append
abbrev Τ:=@Nat.succ_le_succ
abbrev Υ:=@List.all_eq_true
abbrev Φ:=@PySem.wpAny_onRaise
abbrev Χ:=@List.map_take
abbrev Ψ:=@Nat.add_assoc
abbrev Ω:=@PySem.wpAny_updateSeq_pair
abbrev δ:=@PySem.wpAny_pyIter_keyiter
abbrev ε:=@Nat.mul_le_mul_right
abbrev ζ:=@List.nil_append
abbrev η:=@List.length_set
abbrev θ:=@List.foldl_cons
abbrev ι:=@PySem.F.slot_zip_next
abbrev ν:=@PySem.wpAny_updateSeq
abbrev ξ:=@PySem.evalArgs_none
abbrev ο:=@Nat.add_le_add_left
abbrev π:=@Int.toNat_of_nonneg
abbrev ρ:=@List.flatMap_append
abbrev ς:=@List.map_eq_nil_iff
abbrev τ:=@PySem.codeAny_mono
abbrev υ:=@PySem.wpAny_typeOf
abbrev χ:=@Nat.le_total
abbrev ψ:=@Nat.sub_self
abbrev ω:=@PySem.W.of_hideAll
abbrev ϲ:=List (List (PySem.Str×List Nat×Int))
abbrev ϳ:=List (PySem.Str×List Nat×Int)
abbrev ϴ:=PySem.Str×List Nat×Int
abbrev ϵ:=List (PySem.Str×List Nat)
abbrev ϶:=PySem.Value->PySem.Shared->Prop
abbrev Ϸ:=List (PySem.Addr×List Nat)
abbrev ϸ:=List (PySem.Addr×PySem.Obj)
abbrev Ϲ:=List (Option (Nat×Nat))
abbrev Ϻ:=Nat×Nat
abbrev ϊ:=List
abbrev ϋ:=PySem.Value
abbrev ό:=PySem.Addr
abbrev ύ:=Option
abbrev ώ:=PySem.Shared
abbrev Ϗ:=PySem.W.Frag
abbrev ϐ:=PySem.Str
abbrev ϑ:=Bool
abbrev ϒ:=PySem.Heap
abbrev ϓ:=PySem.Program
abbrev ϔ:=Array
abbrev ϕ:=PySem.World
abbrev ϖ:=PySem.Around
set_option Elab.async false
set_option linter.all false
set_option maxRecDepth 100000
noncomputable section
local macro_rules | `(↑$x) => `(($x).length)
local macro_rules | `(tactic| ac_rfl) => `(tactic| exact ⟨rfl,rfl,rfl,by decide+kernel,rfl,by decide+kernel,by decide+kernel⟩)
local macro_rules | `(tactic| ac_nf) => `(tactic| decide+kernel)
set_option maxHeartbeats 4000000
local macro_rules | `(tactic| rfl') => `(tactic| first | lia | omega)
local macro_rules | `(tactic| show $e) => `(tactic| refine $e)
local macro_rules | `(!$e) => `(some $e)
local macro_rules | `(#[$a,*]) => `(⟨$a,*⟩)
local macro_rules | `(tactic| let $p:term $[:$t]? :=$e)=>do
 let rec g:Nat->Lean.Term->Lean.MacroM (Lean.TSyntax `Lean.Parser.Tactic.rcasesPatMed)
  |0,_=>Lean.Macro.throwUnsupported
  |n+1,t=>do
   match t with
   |`(#[$a,*])=>do
    let b<-a.getElems.mapM (g n)
    `(Lean.Parser.Tactic.rcasesPatMed|⟨$[$b:rcasesPatMed],*⟩)
   |`($i:ident)=>`(Lean.Parser.Tactic.rcasesPatMed|$i:ident)
   |_=>`(Lean.Parser.Tactic.rcasesPatMed|_)
 `(tactic| obtain $(<-g 9 p):rcasesPatMed $[:$t]? :=$e)
local macro_rules | `(()) => `(by rfl')
namespace L2
open PySem
noncomputable def fM(s:Stmt):Arguments:=match s with
 |.FunctionDef _ a _ _ _ _ _ _ _ _=>a|_=>{posonlyargs:=[],args:=[],vararg:=none,kwonlyargs:=[],kw_defaults:=[],kwarg:=none,defaults:=[] }
noncomputable def dG(s:Stmt):ϊ Stmt:=match s with
 |.FunctionDef _ _ b _ _ _ _ _ _ _=>b|_=>[]
noncomputable def au(s:Stmt):Scope:=match s with
 |.FunctionDef _ _ _ _ _ _ sc _ _ _=>sc|_=>{kind:=.function,names:=[],isGenerator:=false,isCoroutine:=false}
end L2
abbrev pWo:=PySem.Challenge.pw_blotsure_k66_page_read
abbrev L1S:=ϊ (PySem.Str×Int)
abbrev L2S:=ϊ L1S
namespace Pg
open PySem L2 PySem.W
set_option maxHeartbeats 0
noncomputable def top(i:Nat):Stmt:=pWo.main.body.getD i (.Pass #[0,0,0,0])
noncomputable def live:Obj->ύ Obj|⟨_,_,.freed,_⟩=>none|o=>!o
def Ew(h:ϒ)(a:ό):h.get? a=h.objs[a]?.bind live:=by unfold Heap.get?;cases h.objs[a]?with
 |none=>rfl|some o=>let#[_,_,d,_]:=o;cases d<;>rfl
noncomputable def P0:ϊ Obj->Nat->ϊ ό->Frag
 |o::os,i,a::as=>if a==i then((live o).map (a,·)).toList++P0 os (i+1) as else P0 os (i+1) (a::as)|_,_,_=>[]
theorem Ex:∀{l:ϊ Obj}{i:Nat}{d:ϊ ό},(P0 l i d).lookup b=!x->∃j,b=i+j/\l[j]?.bind live=!x
 |[],i,d,e=>by simp[P0]at e|o::os,i,[],e=>by simp[P0]at e|o::os,i,a::d,e=>by
  have r:∀c,(P0 os (i+1) c).lookup b=!x->∃j,b=i+j/\(o::os)[j]?.bind live=!x:=λc q=>by let#[j,rfl,k]:=Ex q;show#[j+1,Nat.succ_add_eq_add_succ i j,k]
  unfold P0 at e;split at e;.rename_i z;cases q:live o with
   |none=>rw[q]at e;show r _ e|some y=>
    rw[q]at e;simp only[Ş,Option.toList_some,Ρ,ζ,ě]at e;split at e
    .rename_i u;cases e;rw[Ż u,Ż z];show#[0,rfl,q]
    .show r _ e
  .show r _ e
noncomputable def Wi(as:ϊ ό)(h:ϒ):Frag:=P0 h.objs.toList 0 as
def Lf:(Wi a h).In h:=λb o e=>by let#[j,rfl,k]:=Ex e;rw[Ew,Δ];simpa using k
abbrev DO:=ϐ×ϐ×Arguments×FuncBody×Scope×ό×ϊ (ϐ×ό)×ό×ϑ×ϑ
noncomputable def W5(K:Frag)(n:ϐ):ύ (ύ ό×DO):=match nsIn K mainGlobals n with
 |some !(.ref f)=>match K.lookup f with
  |some ⟨_,_,.func d,_⟩=>(match d.defaults with|.none=>!none|.ref t=>!(!t)|_=>none).map λt=>(t,d.name,d.qualname,d.params,d.body,d.scope,d.globals,d.closure,d.builtins,codeIn K d.code n,keepIn K (.ref f))|_=>none
 |_=>none
noncomputable def W6(t:ύ ό)(n:ϐ)(i:Nat):ύ (ύ ό×DO):=!(t,n,n,fM (top i),.stmts (dG (top i)),au (top i),mainGlobals,[],builtinsNs,true,true)
noncomputable def Zw(K:Frag)(C:ό):ϑ×ϊ (ύ (ύ ϋ))×ϊ (ύ ϑ):=(excIn K C [.type "ValueError",.type "Exception",.type "BaseException",.type "object"] "ValueError.__new__",[findIn K (.ref C) "__getattribute__",findIn K (.ref C) "__getattr__",findIn K (.ref C) "__class__",specialIn K (.builtin "object.__class__") "__get__"],[takesIn K (.builtin "object.__class__"),mroIn K C (.type "object"),subIn K (.ref C) (.type "BaseException")])
noncomputable def wJ:ϑ×ϊ (ύ (ύ ϋ))×ϊ (ύ ϑ):=(true,[!(!(.builtin "BaseException.__getattribute__")),!none,!(!(.builtin "object.__class__")),!(!(.builtin "getset_descriptor.__get__"))],[!true,!true,!true])
noncomputable def nms:ϊ ϐ:=(["isinstance","bool","int","len","str","ord","sum","zip","dict","min","enumerate","max","list","tuple","sorted","range","ValueError","LEFT_OUT","MOST_ROOMS","BlotError","NotAlike","OffStrip","NoSheet","NoFont","NoSign","NoHouse","NoWords","TooWide","NoFiller","NotTaken","NoRow","NoName","NoNote"]:ϊ String).map Str.ofString
noncomputable def vls:ϊ (ύ (ύ ϋ)):=[!none,!none,!none,!none,!none,!none,!none,!none,!none,!none,!none,!none,!none,!none,!none,!none,!none,!(!(.int 37 417)),!(!(.int 40 658)),!(!(.ref 24)),!(!(.ref 37)),!(!(.ref 49)),!(!(.ref 61)),!(!(.ref 73)),!(!(.ref 85)),!(!(.ref 97)),!(!(.ref 109)),!(!(.ref 121)),!(!(.ref 133)),!(!(.ref 145)),!(!(.ref 157)),!(!(.ref 169)),!(!(.ref 181))]
noncomputable def W7:ϊ (ϐ×Nat):=((["is_whole","is_sign","inked","apart","check_alike","gap","lettered","ways_of","costs_over","texts_to_rooms","stand_behind","forks","steps_by","all_steps","steps_back","is_even","let_wait","rests","grown","texts_of_fork","step_on","led_on","farness","mends","columns_of","check_rooms","check_room","made_doors","made_ends","make_house","room_behind","padded","gaps_at","thing_through","merged","thing_at","near_paper","first_way","first_text","nearest","filler_columns","padded_by","read_row","read_page","page_mends","_law_cell_at","_law_whole","_law_signs","_law_height","_law_columns","_law_letters","_law_house_signs","_law_house","_law_filled","_law_strips","_law_due","_law_alike","_law_refused","_law_bad_filler","law"]:ϊ String).map Str.ofString).zip [17,18,19,20,23,22,26,25,30,29,31,28,32,33,37,38,36,35,41,40,43,42,39,44,46,50,53,51,52,49,54,56,59,61,62,60,58,65,64,63,68,67,70,69,71,73,74,75,76,77,78,79,80,81,82,83,84,85,86,87]
noncomputable def obs(K:Frag):=(nms.map (nsIn K mainGlobals),W7.map (λd=>W5 K d.1),[24,37,49,61,73,85,97,109,121,133,145,157,169,181].map (Zw K),[(exmOne K (.ref 85) (.ref 85),kitOne K (.ref 85) (.type "ValueError"),([]:ϊ (ύ ϑ)),([]:ϊ (ύ ϑ))),(exmOne K (.ref 97) (.ref 97),kitOne K (.ref 97) (.type "ValueError"),([]:ϊ (ύ ϑ)),([]:ϊ (ύ ϑ))),(exmOne K (.ref 133) (.ref 24),kitOne K (.ref 133) (.type "ValueError"),([kitOne K (.ref 133) (.ref 133)]:ϊ (ύ ϑ)),([kitAny K (.ref 133) [.ref 37,.ref 49,.ref 61,.ref 73,.ref 85,.ref 97],kitAny K (.ref 133) [.ref 109,.ref 121,.ref 145,.ref 157,.ref 169,.ref 181]]:ϊ (ύ ϑ)))])
noncomputable def ans:ϊ (ύ (ύ ϋ))×ϊ (ύ (ύ ό×DO))×ϊ (ϑ×ϊ (ύ (ύ ϋ))×ϊ (ύ ϑ))×ϊ (ύ ϑ×ύ ϑ×ϊ (ύ ϑ)×ϊ (ύ ϑ)):=(vls,W7.map (λd=>W6 none d.1 d.2),[wJ,wJ,wJ,wJ,wJ,wJ,wJ,wJ,wJ,wJ,wJ,wJ,wJ,wJ],[(!true,!true,[],[]),(!true,!true,[],[]),(!true,!true,[!true],[!false,!false])])
noncomputable def vw:ϓ:={pWo with main:={pWo.main with body:=[87].filterMap (pWo.main.body[·]?)}}
noncomputable def lo:ϊ ϐ:=(["BlotError","NotAlike","OffStrip","NoSheet","NoFont","NoSign","NoHouse","NoWords","TooWide","NoFiller","NotTaken","NoRow","NoName","NoNote","LEFT_OUT","is_whole","is_sign","inked","apart","gap","check_alike","ways_of","lettered","forks","texts_to_rooms","costs_over","stand_behind","steps_by","all_steps","rests","let_wait","steps_back","is_even","farness","texts_of_fork","grown","led_on","step_on","mends","columns_of","MOST_ROOMS","make_house","check_rooms","made_doors","made_ends","check_room","room_behind","padded","near_paper","gaps_at","thing_at","thing_through","merged","nearest","first_text","first_way","padded_by","filler_columns","read_page","read_row","page_mends","_law_cell_at","_law_whole","_law_signs","_law_height","_law_columns","_law_letters","_law_house_signs","_law_house","_law_filled","_law_strips","_law_due","_law_alike","_law_refused","_law_bad_filler"]:ϊ String).map Str.ofString
theorem said:PySem.Challenge.rw_blotsure_k66_page_read.wellSaid=true:=by kernel_rfl
def Zf{a b c:Type}{o:ύ a}{f:a->b}{g:a->c}{x:b}{y:c}(h:o.map f=!x)(k:o.map g=!y):o.map (λs=>(f s,g s))=!(x,y):=by cases o with|none=>cases h|some s=>cases h;cases k;rfl
def Wj(w:ϕ):(openEnds treeTable pWo w 9962).map (λs=>openSeen vw lo (importedModules pWo.main.body) (λs=>xlAt vw [] s&&recOk [] s) true s)=!(openGood vw lo):=by
 unfold openEnds fencedOpening topFrom;rw[PySem.W.Fast.te14082659384304107361,PySem.W.Fast.te10274390034422433532,PySem.W.Fast.te14289696077712309145,PySem.W.Fast.te1435165496053646825]
 kernel_rfl
noncomputable def ob(s:ώ):=obs (Wi [2,3,15,22,23,24,25,28,35,36,37,40,47,48,49,52,59,60,61,64,71,72,73,76,83,84,85,88,95,96,97,100,107,108,109,112,119,120,121,124,131,132,133,136,143,144,145,148,155,156,157,160,167,168,169,172,179,180,181,184,186,187,189,190,191,193,194,196,197,198,200,201,203,204,205,207,208,210,211,212,215,216,217,219,220,222,223,224,227,228,229,232,233,234,236,237,239,240,241,243,244,246,247,248,250,251,253,254,255,257,258,260,261,262,265,266,267,270,271,272,275,276,277,279,280,282,283,284,286,287,289,290,291,293,294,296,297,298,301,302,303,305,306,308,309,310,312,313,315,316,317,319,320,322,323,324,326,327,329,330,331,333,334,336,337,338,340,341,343,344,345,348,349,350,352,353,355,356,357,359,360,362,363,364,366,367,369,370,371,373,374,376,377,378,380,381,383,384,385,388,389,390,393,394,395,397,398,400,401,402,404,405,407,408,409,411,412,414,415,416,418,419,421,422,423,425,426,428,429,430,432,433,435,436,437,439,440,442,443,444,446,447,449,450,451,453,454,456,457,458,461,462,463,465,466,468,469,470,472,473,475,476,477,479,480,482,483,484,486,487,489,490,491,493,494,496,497,498,500,501,503,504,505,507,508,510,511,512,514,515,517,518,519,522,523,524,527,528,529,531,532,534,535,536,539,540,541,543,544,546,547,548,550,551,553,554,555,557,558,560,561,562,565,566,567,570,571] s.heap)
def Wl(w:ϕ):(openEnds treeTable pWo w 9962).map ob=!ans:=by
 unfold openEnds fencedOpening topFrom;rw[PySem.W.Fast.te14082659384304107361,PySem.W.Fast.te10274390034422433532,PySem.W.Fast.te14289696077712309145,PySem.W.Fast.te1435165496053646825]
 kernel_rfl
theorem left:LeftO pWo vw lo (λs=>xlAt vw [] s&&recOk [] s) ob (λ_=>ans) 9962:=λw=>Zf (Wj w) (Wl w)
end Pg
set_option Elab.async false
set_option linter.all false
set_option maxRecDepth 100000
namespace L2
open PySem PySem.Spec PyProof.Rows
variable{M:Model}{w:ϕ}{A:ϖ}{d':Drawn}{cd u:ϋ}{p:ό×Obj}{qual x:ϐ}{c e tg:Expr}{fd:FuncData}{op op':CmpOp}{pos pos':Pos}{s' s1:ώ}{a b dx it:ό}{an:ύ ό}{i j k n t':Nat}{outer:ϊ Env}{sc scope:Scope}{ch fp:ϊ ό}{g:Int->Int->Int}{C:Int->Int->Prop}{params:Arguments}{body st:ϊ Stmt}{g':ϔ GenState}{its us:ϊ ϋ}{E Q:϶}{mA mg:ϐ->ύ ϋ}{osl:ϔ (ύ ϋ)}{f:ϋ->ϋ->Sem ϋ}{io pins':ϸ}
abbrev Key:=Sum Int ϐ
noncomputable def kh:Key->ϋ->ϑ
 |.inl k,v=>Value.isInt k v|.inr x,v=>Value.isStrOf x v
noncomputable def Zx(w:ϕ):Key->Int
 |.inl k=>hashInt k|.inr x=>hashStr w x
theorem b7:∀{k:Key}{v:ϋ},kh k v=true->(∃i t,k=Sum.inl i/\v=Value.int i t)\/(∃x t,k=Sum.inr x/\v=Value.str x t)
 |.inl i,v,h=>by
  let#[t,e]:=Value.isInt_shape (k:=i) (v:=v) h;show .inl #[i,t,rfl,e]|.inr x,v,h=>by let#[t,e]:=Value.isStrOf_shape (x:=x) (v:=v) h;show .inr #[x,t,rfl,e]
theorem Cp(i:Int)(t:Tok):kh (.inl i) (.int i t)=true:=by simp[kh,Value.isInt]
theorem qJ(x:ϐ)(t:Tok):kh (.inr x) (.str x t)=true:=by simp[kh,Value.isStrOf]
theorem Qg(a b:Int):decide ((Sum.inl a:Key)=Sum.inl b)=(a==b):=by
 by_cases e:a=b;.subst e;simp
 .have h:¬(Sum.inl a:Key)=Sum.inl b:=λq=>e (Sum.inl.inj q);rw[Ó h];show(Ĺ.mpr e).symm
theorem Qh(a b:ϐ):decide ((Sum.inr a:Key)=Sum.inr b)=decide (a=b):=by
 by_cases e:a=b;.subst e;simp
 .have h:¬(Sum.inr a:Key)=Sum.inr b:=λq=>e (Ĝ q);rw[Ó h,Ó e]
theorem Qi(a:Int)(b:ϐ):decide ((Sum.inl a:Key)=Sum.inr b)=false:=Ó (λq=>nomatch q)
theorem Qj(a:ϐ)(b:Int):decide ((Sum.inr a:Key)=Sum.inl b)=false:=Ó (λq=>nomatch q)
noncomputable def b8(prog:ϓ)(w:ϕ):PySem.KeyKind prog w Key where
 is:=kh
 hash:=Zx w
 inj:=λv a b ha hb=>by
  rcases b7 ha with⟨i,t,rfl,rfl⟩|⟨x,t,rfl,rfl⟩
  .rcases b7 hb with⟨j,u,rfl,e⟩|⟨y,u,rfl,e⟩;.injection e with e1 _;rw[e1]
   .show nomatch e
  .rcases b7 hb with⟨j,u,rfl,e⟩|⟨y,u,rfl,e⟩;.show nomatch e
   .injection e with e1 _;rw[e1]
 byValue:=λk v h=>by rcases b7 h with⟨i,t,rfl,rfl⟩|⟨x,t,rfl,rfl⟩<;>rfl
 pyHash:=λhv h=>by
  rcases b7 hv with⟨i,t,rfl,rfl⟩|⟨x,t,rfl,rfl⟩;.show wpAny_pyHash_int h
  .show wpAny_pyHash_str h
 eqBool:=λhu hv h=>by
  rcases b7 hu with⟨i,t,rfl,rfl⟩|⟨x,t,rfl,rfl⟩
  .rcases b7 hv with⟨j,u,rfl,rfl⟩|⟨y,u,rfl,rfl⟩;.rw [Qg]at h;show wpAny_eqBool_int h
   .rw [Qi]at h;show SeqAt.EqAt.int_str i t y u _ _ _ _ h
  .rcases b7 hv with⟨j,u,rfl,rfl⟩|⟨y,u,rfl,rfl⟩;.rw [Qj]at h;show SeqAt.EqAt.str_int x t j u _ _ _ _ h
   .rw [Qh]at h;show wpAny_eqBool_str h
 «strs»:=λk x t v h=>by
  rcases b7 h with⟨i,u,rfl,e⟩|⟨y,u,rfl,e⟩;.show nomatch e
  .injection e with e1 _;subst e1;cases v<;>rfl
theorem iB(prog:ϓ)(w:ϕ)(k:Key)(v:ϋ):(b8 prog w).is k v=kh k v:=rfl
theorem uG(prog:ϓ)(w:ϕ)(i:Int)(t:Tok):(b8 prog w).is (.inl i) (.int i t)=true:=Cp i t
theorem uH(prog:ϓ)(w:ϕ)(x:ϐ)(t:Tok):(b8 prog w).is (.inr x) (.str x t)=true:=qJ x t
inductive V where|non|bl (b:ϑ)|int (i:Int)|str (x:ϐ)|byt (b:ϔ UInt8)|flt (b:UInt64)|ref (a:ό)|ty (n:String)deriving DecidableEq
variable{v y:V}{σ':ϊ (ύ V)}
def RelV:V->ϋ->Prop
 |.non,u=>u=Value.none|.bl b,u=>u=Value.bool b|.int i,u=>∃t,u=Value.int i t|.str x,u=>∃t,u=Value.str x t|.byt b,u=>∃t,u=Value.bytes b t|.flt b,u=>∃t,u=Value.float b t|.ref a,u=>u=Value.ref a|.ty n,u=>u=Value.type n
abbrev Vals:ϊ V->ϊ ϋ->Prop:=Paired RelV
theorem Vals.length(r:Vals xs us):↑xs=↑us:=ď r
theorem Vals.get:∀{xs:ϊ V}{us:ϊ ϋ}{i:Nat}{x:V},Vals xs us->xs[i]?=!x->∃u,us[i]?=!u/\RelV x u
 |_,_,_,_,.nil,e=>by simp at e|_,_,0,_,.cons r _,e=>by simp at e;subst e;show#[_,rfl,r]|_,_,i+1,x,.cons _ t,e=>by let#[u,a,b]:=Vals.get (i:=i) (x:=x) t (by simpa using e);show#[u,by simpa using a,b]
theorem Vals.set{x:V}(r:RelV x u):∀{xs:ϊ V}{us:ϊ ϋ}(i:Nat),Vals xs us->Vals (xs.set i x) (us.set i u)
 |_,_,_,.nil=>.nil|_,_,0,.cons _ t=>.cons r t|_,_,i+1,.cons q t=>.cons q (Vals.set r i t)
theorem Vals.append:∀{xs ys:ϊ V}{us a:ϊ ϋ},Vals xs us->Vals ys a->Vals (xs++ys) (us++a)
 |_,_,_,_,.nil,s=>s|_,_,_,_,.cons r t,s=>.cons r (Vals.append t s)
theorem Vals.take:∀{xs:ϊ V}{us:ϊ ϋ}(n:Nat),Vals xs us->Vals (xs.take n) (us.take n)
 |_,_,0,_=>.nil
 |_,_,_+1,.nil=>.nil|_,_,n+1,.cons r t=>.cons r (Vals.take n t)
theorem Vals.drop:∀{xs:ϊ V}{us:ϊ ϋ}(n:Nat),Vals xs us->Vals (xs.drop n) (us.drop n)
 |_,_,0,r=>r|_,_,_+1,.nil=>.nil|_,_,n+1,.cons _ t=>Vals.drop n t
def RelO:ύ V->ύ ϋ->Prop
 |some v,!u=>RelV v u|none,none=>True|_,_=>False
def KV{κ:Type}:ϊ (κ×V)->ϊ (κ×ϋ)->Prop:=Paired λ(p:κ×V) (q:κ×ϋ)=>p.1=q.1/\RelV p.2 q.2
noncomputable def kV:Key->V
 |.inl i=>.int i|.inr x=>.str x
inductive HO where|lst (xs:ϊ V)|tup (xs:ϊ V)|dK (kvs:ϊ (Key×V))|dT (kvs:ϊ (ϊ Key×V))|set (S:Int->ϑ) (n:Nat)|ins (C dx:ό) (fs:ϊ (ϐ×V))|own (x:ό)|xd (fs:ϊ (ϐ×V))|met (f x:ό)|rng (lo hi:Int)|frz (o:Obj) (u:HO)
 |tbl (ps:ϔ ϋ)|ext (φ:ϒ->Prop)
abbrev Hp:=ό->ύ HO
variable{H:Hp}{R:V->V->Hp->Prop}
noncomputable def upd(H:Hp)(a:ό)(o:HO):Hp:=λb=>if b=a then !o else H b
theorem aa:upd H a o a=!o:=by unfold upd;rw[if_pos rfl]
theorem ak(h:b≠a):upd H a o b=H b:=by unfold upd;rw[if_neg h]
theorem bA{o u:HO}(h:H a=!o)(h':H b=!u)(d:o≠u):a≠b:=by intro e;subst e;rw[h]at h';show d (Ù h')
theorem aN{o:HO}(h:H a=!o)(h':H b=none):a≠b:=by intro e;subst e;rw[h]at h';cases h'
section
variable(P:ϓ)(w:ϕ)
def ObjOk(H:Hp)(h:ϒ)(a:ό):HO->Prop
 |.lst xs=>↑xs<=sizeLine/\∃(its:ϊ ϋ)(n:Nat),Vals xs its/\h.get? a=!{cls:=.type "list",data:=.seq its.toArray n}|.tup xs=>↑xs<=sizeLine/\∃its:ϊ ϋ,Vals xs its/\IsTup h a its.toArray|.dK kvs=>↑kvs<=sizeLine/\(a==sysModules)=false/\∃vs,KV kvs vs/\h.DictOf (b8 P w) a vs|.dT kvs=>↑kvs<=sizeLine/\(a==sysModules)=false/\∃xs:ϊ (ϊ Key×ό×ϋ),Paired (λ(p:ϊ Key×V) (q:ϊ Key×ό×ϋ)=>p.1=q.1/\H q.2.1=!(.tup (p.1.map kV))/\RelV p.2 q.2.2) kvs xs/\∃o es ep,h.get? a=!o/\o.ExactDict/\o.data=.dict es ep/\es.toList=xs.map (entryOfKey (tupleKind (b8 P w)))/\(xs.map (·.1)).Nodup|.set S n=>h.SetOf (intKind P w) a S n|.ins C dx fs=>H dx=!(.own a)/\↑fs<=1000/\dx≠a/\h.get? a=!(PySem.W.instObj C dx)/\∃mA,h.Ns1 dx mA/\(∀f,RelO (fs.lookup f) (mA f))/\PySem.Within mA (fs.map (·.1))|.own _=>∃o,h.get? a=!o|.xd fs=>∃mA,h.Ns1 a mA/\∀f,RelO (fs.lookup f) (mA f)|.rng lo hi=>∃t u v,h.get? a=!{cls:=.type "range",data:=.fields ([.int lo t,.int hi u,.int 1 v].toArray)}|.frz o u=>h.get? a=!o/\ObjOk H h a u|.tbl ps=>h.get? a=!{cls:=.none,data:=.fields ps}|.met f x=>h.get? a=!(PySem.W.methodObj (.ref f) (.ref x))|.ext φ=>φ h/\(∃o,h.get? a=!o)/\∀h1 h2:ϒ,φ h1->(∀o,h1.get? a=!o->h2.get? a=!o)->φ h2
def HOk(H:Hp)(h:ϒ):Prop:=∀a o,H a=!o->ObjOk P w H h a o
end
section
theorem ObjOk.lt(x:ObjOk P w H h a o):a<h.objs.size:=by cases o with|lst xs=>let#[_,_,_,_,e]:=x;show É e|tup xs=>let#[_,_,_,p]:=x;show p.lt|dK kvs=>let#[_,_,_,_,o,_,_,e,_]:=x;show É e|dT kvs=>let#[_,_,_,_,o,_,_,e,_]:=x;show É e|set S n=>let#[o,_,_,_,e,_]:=x;show É e|ins C dx fs=>let#[_,_,_,e,_]:=x;show É e|own y=>let#[_,e]:=x;show É e|xd fs=>let#[_,#[_,_,_,e,_],_]:=x;show É e|rng lo hi=>let#[_,_,_,e]:=x;show É e|frz ob u=>let#[e,_]:=x;show É e|tbl ps=>show É (show h.get? a=!_ from x)|met f y=>show É (show h.get? a=!_ from x)|ext φ=>let#[_,#[_,e],_]:=x;show É e
theorem Paired.mapP{c d:Type}{F G:c->d->Prop}:∀{l₁:ϊ c}{l₂:ϊ d},Paired F l₁ l₂->(∀a b,F a b->G a b)->Paired G l₁ l₂
 |_,_,.nil,_=>.nil|_,_,.cons r t,f=>.cons (f _ _ r) (Paired.mapP t f)
theorem ObjOk.stay(x:ObjOk P w H h a o)(k:∀b u,(b=a\/H b=!(.own a))->h.get? b=!u->h'.get? b=!u)(m:∀b,H b=!(.own a)->H' b=!(.own a)) (s:∀b xs,H b=!(.tup xs)->H' b=!(.tup xs)):ObjOk P w H' h' a o:=by induction o with
 |lst xs=>let#[z,g,n,r,e]:=x;show#[z,g,n,r,k _ _ (.inl rfl) e]|tup xs=>let#[z,g,r,ob,e,c]:=x;show#[z,g,r,ob,k _ _ (.inl rfl) e,c]|dK kvs=>let#[z,y,vs,r,ob,es,ep,e,c]:=x;show#[z,y,vs,r,ob,es,ep,k _ _ (.inl rfl) e,c]|dT kvs=>let#[z,y,xs,r,ob,es,ep,e,c]:=x;show#[z,y,xs,Paired.mapP r λp q z=>#[z.1,s _ _ z.2.1,z.2.2],ob,es,ep,k _ _ (.inl rfl) e,c]|set S n=>let#[ob,es,ep,t,e,c]:=x;show#[ob,es,ep,t,k _ _ (.inl rfl) e,c]|ins C dx fs=>let#[d,z,ne,e,i,#[j,es,ep,l,c],r]:=x;show#[m _ d,z,ne,k _ _ (.inl rfl) e,i,#[j,es,ep,k _ _ (.inr d) l,c],r]|own y=>let#[ob,e]:=x;show#[ob,k _ _ (.inl rfl) e]|xd fs=>let#[i,#[j,es,ep,e,c],r]:=x;show#[i,#[j,es,ep,k _ _ (.inl rfl) e,c],r]|rng lo hi=>let#[t,u,v,e]:=x;show#[t,u,v,k _ _ (.inl rfl) e]|frz ob u ih=>let#[e,q]:=x;show#[k _ _ (.inl rfl) e,ih q]|tbl ps=>
  have e:h.get? a=!{cls:=.none,data:=.fields ps}:=x;change h'.get? a=!{cls:=.none,data:=.fields ps};show k a _ (.inl rfl) e|met f y=>have e:h.get? a=!(PySem.W.methodObj (.ref f) (.ref y)):=x;change h'.get? a=!(PySem.W.methodObj (.ref f) (.ref y));show k a _ (.inl rfl) e|ext φ=>let#[p,#[o,e],st]:=x;show#[st _ _ p λo q=>k _ _ (.inl rfl) q,#[o,k _ _ (.inl rfl) e],st]
theorem HOk.lt(x:HOk P w H h)(e:H a=!o):a<h.objs.size:=(x a o e).lt
theorem HOk.fresh(x:HOk P w H h)(e:h.objs.size<=a):H a=none:=by cases q:H a with
 |none=>rfl|some u=>show absurd (Ö (x.lt q) e) (ă _)
theorem HOk.kept(x:HOk P w H h)(k:∀b u,h.get? b=!u->h'.get? b=!u):HOk P w H h':=λa o e=>(x a o e).stay (λb u _ q=>k b u q) (λ_ q=>q) λ_ _ q=>q
theorem HOk.laid(x:HOk P w H h)(k:∀b u,h.get? b=!u->h'.get? b=!u)(i:h.objs.size<=a)(d:ObjOk P w (upd H a o) h' a o):HOk P w (upd H a o) h':=λb u e=>by
 have g:=x.fresh i;by_cases f:b=a;.subst f;rw[aa]at e;cases e;show d
 .rw [ak f]at e;show(x b u e).stay (λc v _ q=>k c v q) (λc q=>by rw[ak (aN q g)];show q) λc xs q=>by rw[ak (aN q g)];show q
end
def Rd(H:Hp)(a:ό)(u:HO):Prop:=H a=!u\/∃o,H a=!(.frz o u)
theorem Rd.ok{u:HO}(r:Rd H a u)(x:HOk P w H h):ObjOk P w H h a u:=by
 rcases r with r|⟨o,r⟩;.show x a u r
 .obtain ⟨_,q⟩:=x a _ r;show q
def Wm:ύ HO->Prop
 |some (.lst _)=>True|some (.dK _)=>True|some (.dT _)=>True|some (.set _ _)=>True
 |some (.ins _ _ _)=>True|some (.ext _)=>True|_=>False
section
variable{P:ϓ}{w:ϕ}{H:Hp}{h h':ϒ}{x e:ό}{o':HO}
theorem HOk.write(s:HOk P w H h)(j:Wm (H x))(n:e=x\/H e=!(.own x))(k:∀b u,b≠e->h.get? b=!u->h'.get? b=!u)(l:∃u,h'.get? e=!u)(m:ObjOk P w (upd H x o') h' x o'):HOk P w (upd H x o') h':=λb u q=>by
 have d:∀c y,H c=!(.own y)->c≠x:=λc y r z=>by subst z;rw[r]at j;show j
 have f:∀c xs,H c=!(.tup xs)->c≠x:=λc xs r z=>by subst z;rw[r]at j;show j
 by_cases g:b=x;.subst g;rw[aa]at q;cases q;show m
 .rw [ak g]at q;by_cases a:b=e
  .have o:H b=!(.own x):=by
    rcases n with z|z;.show absurd (a.trans z) g
    .rw [a];show z
   rw[q]at o;cases o;let#[v,p]:=l;show#[v,by rw[a];show p]
  .show (s b u q).stay (λc v i r=>k c v ?_ r) (λc r=>by rw[ak (d c b r)];show r) λc xs r=>by rw[ak (f c xs r)];show r
   rcases i with rfl|i;.show a
   .rintro rfl;rcases n with z|z;.show d c b i z
    .rw [i]at z;cases z;show g rfl
end
structure Un(fs ex:ϊ ό)(H H':Hp)(h h':ϒ):Prop where
 keep:∀b o,h.get? b=!o->H b=none->b∉fs->b∉ex->h'.get? b=!o
 slot:∀b o,h.get? b=!o->H b=none->b∈fs->b∉ex->∃sl,h'.get? b=!{o with slots:=sl}free:∀b o,h.get? b=!o->H b=none->b∉ex->H' b=none
 there:∀b o,h.get? b=!o->b∉ex->∃o',h'.get? b=!o'
 tups:∀b xs,H b=!(.tup xs)->H' b=!(.tup xs)frzs:∀b o u,H b=!(.frz o u)->H' b=!(.frz o u)tbls:∀b ps,H b=!(.tbl ps)->∃more,H' b=!(.tbl (ps++more))
section
variable{fs ex:ϊ ό}{H:Hp}{h h':ϒ}{a x e:ό}{o:HO}
theorem Un.any(u:Un fs ex H H1 h h1)(q:h.get? b=!ob)(n:H b=none)(c:b∉ex):∃sl,h1.get? b=!{ob with slots:=sl}:=by
 by_cases a:b∈fs;.show u.slot b ob q n a c
 .show #[ob.slots,u.keep b ob q n a c]
theorem Un.kept(k:∀b u,h.get? b=!u->h'.get? b=!u):Un fs ex H H h h':=#[λb ob q _ _ _=>k b ob q,λb ob q _ _ _=>#[ob.slots,k b ob q],λ_ _ _ n _=>n,λb ob q _=>#[ob,k b ob q],λ_ _ q=>q,λ_ _ _ q=>q,λ_ ps q=>#[([].toArray),by rw[q];simp]]
theorem Un.refl:Un fs ex H H h h:=Un.kept λ_ _ q=>q
theorem Un.laid(k:∀b u,h.get? b=!u->h'.get? b=!u)(d:h.objs.size<=a)(c:H a=none):Un fs ex H (upd H a o) h h' where
 keep:=λb u q _ _ _=>k b u q
 slot:=λb u q _ _ _=>#[u.slots,k b u q]
 free:=λb u q n _=>by rw[ak (Ý (Ö (É q) d))];show n
 there:=λb u q _=>#[u,k b u q]
 tups:=λb xs q=>by rw[ak (aN q c)];show q
 frzs:=λb u xs q=>by rw[ak (aN q c)];show q
 tbls:=λb ps q=>#[([].toArray),by rw[ak (aN q c),q];simp]
theorem Un.write(c:Wm (H x))(j:e=x\/H e=!(.own x))(k:∀b u,b≠e->h.get? b=!u->h'.get? b=!u)(d:∃u,h'.get? e=!u):Un fs ex H (upd H x o) h h':=by
 have i:∀b,H b=none->b≠x:=λb n z=>by subst z;rw[n]at c;show c
 have g:∀b,H b=none->b≠e:=λb n z=>by
  subst z;rcases j with r|r
  .show i b n r
  .rw [n]at r;cases r
 have f:∀b u,H b=!u-> ¬Wm !u->b≠x:=λb u q nm z=>by subst z;rw[q]at c;show nm c
 show⟨λb u q n _ _=>k b u (g b n) q,λb u q n _ _=>⟨u.slots,k b u (g b n) q⟩,λb u q n _=>by rw[ak (i b n)];show n,λb u q _=>?_,
  λb xs q=>by rw[ak (f b _ q λz=>z)];show q,λb u xs q=>by rw[ak (f b _ q λz=>z)];show q,λb ps q=>⟨([].toArray),by rw[ak (f b _ q λz=>z),q];simp⟩⟩
 by_cases a:b=e
 .subst a;show d
 .show #[u,k b u a q]
end
noncomputable def Zg(h:ϒ)(H:Hp):ϊ ό:=(List.range h.objs.size).filter λa=>(H a).isSome
noncomputable def rQ(h:ϒ)(H:Hp):ϒ:=PySem.W.hideAll h (Zg h H)
theorem Cq(h:ϒ)(H:Hp):(rQ h H).objs.size=h.objs.size:=PySem.W.hideAll_size _ _
theorem Ey(e:h.get? b=!o)(n:H b=none):(rQ h H).get? b=!o:=Ĥ _ e λa=>by have q:(H b).isSome=true:=(ú.mp a).2;rw[n]at q;simp at q
theorem Lg(e:(rQ h H).get? b=!o):h.get? b=!o/\H b=none:=by
 have a:h.get? b=!o:=ω (Zg h H) e;show#[a,?_];cases q:H b with
 |none=>rfl|some x=>have c:b∈Zg h H:=ú.mpr #[List.mem_range.mpr (É a),by simp[q]];have z:(rQ h H).get? b=none:=PySem.W.hideAll_none (Zg h H) c;rw[z]at e;cases e
noncomputable def Lh(g h:ϒ)(L:ό):ϸ:=(List.range h.objs.size).filterMap λa=>if a=L\/(g.get? a).isSome=true then none else(h.get? a).map λo=>(a,o)
noncomputable def rest(g h:ϒ)(L d:ό):ϸ:=(Lh g h L).filter λp=>decide (p.1≠d)
structure Mod(K:Ϗ)(mg:ϐ->ύ ϋ)(base:ϒ):Prop where
 kin:K.In base
 glob:base.Ns mainGlobals mg
 blt:∃mb,base.Ns builtinsNs mb/\∀x:ϐ,x≠"__name__"->mb x=bootBuiltins x
 nolimit:base.NoLimit
structure Cx where
 prog:ϓ
 w:ϕ
 K:Ϗ
 mg:ϐ->ύ ϋ
 base:ϒ
 A:ϖ
 N:ϊ ϐ
 s₀:ώ
 H₀:Hp
 env:Env
 outer:ϊ Env
 stack:ϊ Env
 ex:ϊ ό
 fn:ϐ->ϑ
 calm:ϑ
 pn:ϸ
 xe:ϋ->ώ->Prop
noncomputable def frs(l:ϊ Env):ϊ ό:=l.filterMap (·.frame)
abbrev Cx.fs(X:Cx):ϊ ό:=frs X.outer
def Zh(sc:Scope)(x:ϐ):Prop:=sc.names.lookup x=!.local\/sc.names.lookup x=!.cell\/sc.names.lookup x=!.free
def Loc(sc:Scope)(x:ϐ):Prop:=sc.names.lookup x=!.local\/sc.names.lookup x=!.cell
def Look(env:Env)(h:ϒ)(m:ϐ->ύ ϋ)(x:ϐ)(u:ϋ):Prop:=(env.kindOf x=!.local/\m x=!u)\/((env.kindOf x=!.cell\/env.kindOf x=!.free)/\∃c,env.cells.lookup x=!c/\h.IsCell c !u)
structure Cx.Ok(X:Cx):Prop where
 mod:Mod X.K X.mg X.base
 kind:X.env.scope.kind=.function
 glob:X.env.globals=mainGlobals
 blt:X.env.builtins=builtinsNs
 above:X.s₀.heap.objs.size<=X.env.locals
 inj:∀x y c,X.env.cells.lookup x=!c->X.env.cells.lookup y=!c->x=y
 has:∀x,(X.env.kindOf x=!.cell\/X.env.kindOf x=!.free)->∃c,X.env.cells.lookup x=!c
 cab:∀x c,X.fn x=true->X.env.cells.lookup x=!c->X.s₀.heap.objs.size<=c
 hd:X.calm=true->X.A.handled=none
 frames:X.A.frames=!X.stack
 stk:X.stack=X.outer\/(X.stack=X.env::X.outer/\X.env.frame=!X.env.locals)exf:∀b∈X.ex,b≠X.env.locals/\∀x c,X.env.cells.lookup x=!c->c≠b
 bs:∀b o,X.base.get? b=!o->X.s₀.heap.get? b=!o/\X.H₀ b=none
 bsz:X.base.objs.size<=X.s₀.heap.objs.size
 noex:∀b o,X.base.get? b=!o->b∉X.ex
 exfs:∀b∈X.ex,b∉X.fs
 funs:X.s₀.heap.FunFrames X.base X.outer
 frf:∀b∈X.fs,X.H₀ b=none
structure Inv(X:Cx)(io:ϸ)(σ:ϊ (ύ V))(H:Hp)(s:ώ):Prop where
 ok:X.Ok
 os:s.os=X.s₀.os
 bare:AllBare s.gens
 base:Un X.fs X.ex X.H₀ H X.s₀.heap s.heap
 loc:∃m,s.heap.Ns X.env.locals m/\∀(i:Nat)(x:ϐ)(v:V),X.N[i]?=!x->σ[i]?=!(!v)->Zh X.env.scope x->∃u,RelV v u/\Look X.env s.heap m x u
 cell:∀x c,X.env.cells.lookup x=!c->∃v,s.heap.IsCell c v
 free:H X.env.locals=none
 freeC:∀x c,X.env.cells.lookup x=!c->H c=none
 pin:∀p∈X.pn++io,s.heap.get? p.1=!p.2/\H p.1=none/\p.1≠X.env.locals/\p.1∉X.fs/\∀v,p.2.data≠.cell v
 hok:HOk X.prog X.w H s.heap
 len:↑σ=↑X.N
section
variable{X:Cx}
theorem Cx.Ok.nofr(c:X.Ok)(e:X.base.get? b=!o):b∉X.fs:=λa=>by have:=(c.funs.mem a).1;rw[e]at this;cases this
theorem Inv.bs(I:Inv X io σ H s):∀b o,X.base.get? b=!o->s.heap.get? b=!o/\H b=none:=λb o e=>#[I.base.keep b o (I.ok.bs b o e).1 (I.ok.bs b o e).2 (I.ok.nofr e) (I.ok.noex b o e),I.base.free b o (I.ok.bs b o e).1 (I.ok.bs b o e).2 (I.ok.noex b o e)]
theorem Inv.bk(I:Inv X io σ H s):∀b o,X.base.get? b=!o->s.heap.get? b=!o:=λb o e=>(I.bs b o e).1
theorem Inv.mod(I:Inv X io σ H s):Mod X.K X.mg X.base:=I.ok.mod
theorem Inv.kIn(I:Inv X io σ H s):X.K.In s.heap:=I.ok.mod.kin.keeps I.bk
theorem Inv.lt(I:Inv X io σ H s):X.env.locals<s.heap.objs.size:=let⟨_,hn,_⟩:=I.loc;hn.lt
theorem Inv.sz(I:Inv X io σ H s):X.s₀.heap.objs.size<=s.heap.objs.size:=Ð I.ok.above (İ I.lt)
theorem Inv.nofs(I:Inv X io σ H s)(h:s.heap.objs.size<=a):a∉X.fs:=λb=>by let#[_,o,c,_]:=I.ok.funs.mem b;show absurd (Ö (É c) (Ð I.sz h)) (ă _)
theorem Inv.cne(I:Inv X io σ H s):∀x c,X.env.cells.lookup x=!c->c≠X.env.locals:=λx c e z=>by let#[v,o,f,d]:=I.cell x c e;let#[m,#[o',es,ep,b,a,_],_]:=I.loc;rw[z,b]at f;cases f;rw[a]at d;cases d
theorem Inv.funs(I:Inv X io σ H s):s.heap.FunFrames X.base X.outer:=by
 have all:∀(l:ϊ Env),(∀b∈frs l,b∈X.fs)->X.s₀.heap.FunFrames X.base l->s.heap.FunFrames X.base l:=by intro l;induction l with
  |nil=>intro _ _;trivial|cons env r ih=>
   intro f i;let#[h,#[L,o,d,j,k,g],m]:=i;have a:L∈X.fs:=f L (by unfold frs;rw[Ĕ,d];show Ë);let#[n,e]:=I.base.slot L o k (I.ok.frf L a) a λz=>I.ok.exfs L z a;show#[h,#[L,_,d,j,e,g],ih (λb c=>f b (by unfold frs;rw[Ĕ,d];show Ì _ c)) m]
 show all X.outer (λ_ c=>c) I.ok.funs
theorem Inv.stack(I:Inv X io σ H s):s.heap.FunFrames X.base X.stack:=by
 rcases I.ok.stk with e|⟨e,hf⟩
 .rw [e];show I.funs
 .rw [e];let#[m,a,_]:=I.loc;show .cons (by rw[I.ok.kind];decide) hf a ?_ I.funs;show Heap.get?_none_of_le (Ð I.ok.bsz I.ok.above)
theorem Inv.stkSub(I:Inv X io σ H s):∀b∈frs X.stack,b∈X.env.locals::X.fs:=λb a=>by
 rcases I.ok.stk with e|⟨e,hf⟩;.rw [e]at a;show Ì _ a
 .rw [e]at a;unfold frs at a;rw[Ĕ,hf]at a;show a
theorem Inv.stkFree(I:Inv X io σ H s):∀b∈frs X.stack,H b=none:=λb a=>by
 rcases Å.mp (I.stkSub b a)with e|a;.rw [e];show I.free
 .obtain ⟨_,o,c,_⟩:=I.ok.funs.mem a;show I.base.free b o c (I.ok.frf b a) λz=>I.ok.exfs b z a
theorem Inv.step(I:Inv X io σ H s)(h:∀b∈ch,(b∈X.ex\/X.s₀.heap.objs.size<=b)/\b≠X.env.locals/\(∀x c,X.env.cells.lookup x=!c->c≠b)/\∀p∈X.pn++io,p.1≠b)(j:∀b o,b≠X.env.locals->b∉X.fs->b∉ch->s.heap.get? b=!o->H b=none->h'.get? b=!o)(B:∀b o,b≠X.env.locals->b∈X.fs->b∉ch->s.heap.get? b=!o->H b=none->∃sl,h'.get? b=!{o with slots:=sl}) (f:∀b o,b∉ch->s.heap.get? b=!o->H b=none->H' b=none)(D:∀b o,b∉ch->s.heap.get? b=!o->∃o',h'.get? b=!o')(L:∀b xs,H b=!(.tup xs)->H' b=!(.tup xs)) (G:∀b o u,H b=!(.frz o u)->H' b=!(.frz o u)) (K:∀b ps,H b=!(.tbl ps)->∃more,H' b=!(.tbl (ps++more)))(ns:∀m,s.heap.Ns X.env.locals m->h'.Ns X.env.locals m) (N:HOk X.prog X.w H' h') (T:AllBare g'):Inv X io σ H' {s with heap:=h',gens:=g',drawn:=d',toks:=t'}:=by
 have J:∀b o,X.s₀.heap.get? b=!o->b≠X.env.locals:=λb o e=>Ý (Ö (É e) I.ok.above);have A:∀b o,X.s₀.heap.get? b=!o->b∉X.ex->b∉ch:=λb o e a C=>by
  rcases(h b C).1with z|z;.show a z
  .show absurd (Ö (É e) z) (ă _)
 have g:∀x c,X.env.cells.lookup x=!c->∀v,s.heap.IsCell c v->h'.IsCell c v:=λx c e v ⟨o,E,M⟩=>by
  have t:c∉ch:=λz=>(h c z).2.2.1 x c e rfl;by_cases P:c∈X.fs;.obtain ⟨sl,q⟩:=B c o (I.cne x c e) P t E (I.freeC x c e);show#[_,q,M]
  .show #[o,j c o (I.cne x c e) P t E (I.freeC x c e),M]
 show#[I.ok,I.os,T,#[λb o e n C a=>?_,λb o e n C a=>?_,λb o e n a=>?_,λb o e a=>?_,λb xs e=>L b xs (I.base.tups b xs e),λb o xs e=>G b o xs (I.base.frzs b o xs e),λb ps e=>?_],?_,λx c e=>?_,?_,λx c e=>?_,λp Q=>?_,N,I.len];.show j b o (J b o e) C (A b o e a) (I.base.keep b o e n C a) (I.base.free b o e n a)
 .obtain ⟨sl,y⟩:=I.base.slot b o e n C a;let#[O,F]:=B b _ (J b o e) C (A b o e a) y (I.base.free b o e n a);show#[O,F]
 .obtain ⟨o',y⟩:=I.base.there b o e a;show f b o' (A b o e a) y (I.base.free b o e n a)
 .obtain ⟨o',y⟩:=I.base.there b o e a;show D b o' (A b o e a) y
 .obtain ⟨Y,y⟩:=I.base.tbls b ps e;let#[Z,F]:=K b _ y;show#[Y++Z,by rw[F,Array.append_assoc]]
 .obtain ⟨m,W,U⟩:=I.loc;show#[m,ns m W,λi x v y F S=>?_];let#[u,r,l]:=U i x v y F S;show#[u,r,?_];rcases l with l|⟨k,c,e,z⟩
  .show .inl l
  .show .inr #[k,c,e,g x c e _ z]
 .obtain ⟨v,z⟩:=I.cell x c e;show#[v,g x c e v z]
 .obtain ⟨m,⟨o,_,_,E,_⟩,_⟩:=I.loc;show f _ o (λz=>(h _ z).2.1 rfl) E I.free
 .obtain ⟨v,o,E,M⟩:=I.cell x c e;show f c o (λz=>(h c z).2.2.1 x c e rfl) E (I.freeC x c e)
 .obtain ⟨e,n,ne,R,d⟩:=I.pin p Q;have t:p.1∉ch:=λz=>(h p.1 z).2.2.2 p Q rfl;show#[j p.1 p.2 ne R t e n,f p.1 p.2 t e n,ne,R,d]
theorem Inv.un(I:Inv X io σ H s)(u:Un X.fs [] H H' s.heap h')(g:HOk X.prog X.w H' h'):Inv X io σ H' {s with heap:=h',toks:=t'}:=by
 let#[m,#[o,es,ep,h,r],_]:=id I.loc;let#[p,i]:=u.any h I.free (by simp);show I.step (g':=s.gens) (d':=s.drawn) (ch:=[]) (λ_ z=>nomatch z) (λb o _ f _ e n=>u.keep b o e n f (by simp)) (λb o _ f _ e n=>u.slot b o e n f (by simp)) (λb o _ e n=>u.free b o e n (by simp)) (λb o _ e=>u.there b o e (by simp)) u.tups u.frzs u.tbls (λl j=>by let#[o',d,c,a,k]:=j;rw[h]at a;cases a;show#[_,d,c,i,k]) g I.bare
theorem Inv.call(I:Inv X io σ H s)(u:Un (frs X.stack) ch H H' s.heap h')(j:HOk X.prog X.w H' h')(q:AllBare g')(d:∀b∈ch,(b∈X.ex\/X.s₀.heap.objs.size<=b)/\b≠X.env.locals/\(∀x c,X.env.cells.lookup x=!c->c≠b)/\∀p∈X.pn++io,p.1≠b):
  Inv X io σ H' {s with heap:=h',gens:=g',drawn:=d',toks:=t'}:=by
 let#[m,#[o,es,ep,k,r],_]:=id I.loc;let#[A,i]:=u.any k I.free λz=>(d _ z).2.1 rfl;show I.step (ch:=ch) d (λb o i l a e n=>u.keep b o e n (λz=>(Å.mp (I.stkSub b z)).elim i l) a) (λb o _ _ a e n=>u.any e n a) (λb o a e n=>u.free b o e n a) (λb o a e=>u.there b o e a) u.tups u.frzs u.tbls (λy t=>by let#[o',h,g,f,v]:=t;rw[k]at f;cases f;show#[_,h,g,i,v]) j q
theorem Inv.turned(I:Inv X io σ H s)(k:∀b o,b≠it->s.heap.get? b=!o->h'.get? b=!o)(t:H it=none)(f:it≠X.env.locals)(g:it∈X.ex\/X.s₀.heap.objs.size<=it) (h:∀x c,X.env.cells.lookup x=!c->c≠it) (i:∀p∈X.pn++io,p.1≠it):Inv X io σ H {s with heap:=h',toks:=t'}:=by
 have d:∀b u,H b=!u->b≠it:=λb u e z=>by rw[z,t]at e;cases e
 show I.step (g':=s.gens) (d':=s.drawn) (ch:=[it]) (λb j=>?_) (λb o _ _ a e _=>k b o (λz=>a (by simp[z])) e) (λb o _ _ a e _=>#[o.slots,k b o (λz=>a (by simp[z])) e]) (λ_ _ _ _ n=>n)
  (λb o a e=>#[o,k b o (λz=>a (by simp[z])) e]) (λ_ _ e=>e) (λ_ _ _ e=>e) (λb ps e=>#[([].toArray),by rw[e];simp]) (λm l=>?_) (λb u e=>?_) I.bare
 .have e:b=it:=by simpa using j
  subst e;show#[g,f,h,i]
 .obtain ⟨o,es,ep,w,r⟩:=l;show#[o,es,ep,k _ o (Ne.symm f) w,r]
 .show (I.hok b u e).stay (λc v a q=>k c v ?_ q) (λ_ q=>q) λ_ _ q=>q;rcases a with z|z;.rw [z];show d b u e
  .show d c _ z
theorem Inv.tok(I:Inv X io σ H s)(t:Nat):Inv X io σ H {s with toks:=t}:=I.un (h':=s.heap) (t':=t) Un.refl I.hok
theorem Inv.kept(I:Inv X io σ H s)(k:∀b u,s.heap.get? b=!u->h'.get? b=!u):Inv X io σ H {s with heap:=h',toks:=t'}:=I.un (Un.kept k) (I.hok.kept k)
theorem Inv.laid(I:Inv X io σ H s)(k:∀b u,s.heap.get? b=!u->h'.get? b=!u)(c:s.heap.objs.size<=a)(d:ObjOk X.prog X.w (upd H a o) h' a o):Inv X io σ (upd H a o) {s with heap:=h',toks:=t'}:=I.un (Un.laid k c (I.hok.fresh c)) (I.hok.laid k c d)
theorem Inv.write{x e:ό}(I:Inv X io σ H s)(f:Wm (H x))(d:e=x\/H e=!(.own x))(k:∀b u,b≠e->s.heap.get? b=!u->h'.get? b=!u)(a:∃u,h'.get? e=!u)(c:ObjOk X.prog X.w (upd H x o) h' x o):Inv X io σ (upd H x o) {s with heap:=h',toks:=t'}:=I.un (Un.write f d k a) (I.hok.write f d k a c)
theorem Inv.weak(I:Inv X io σ H s)(d:↑σ'=↑σ)(w:∀(i:Nat) v,σ'[i]?=!(!v)->σ[i]?=!(!v)):Inv X io σ' H s:=#[I.ok,I.os,I.bare,I.base,let⟨m,hn,hl'⟩:=I.loc;#[m,hn,λi x v a b c=>hl' i x v a (w i v b) c],I.cell,I.free,I.freeC,I.pin,I.hok,d.trans I.len]
theorem Inv.pins_of(I:Inv X io σ H s)(h:∀p∈pins',s.heap.get? p.1=!p.2/\H p.1=none/\p.1≠X.env.locals/\p.1∉X.fs/\∀v,p.2.data≠.cell v):Inv X pins' σ H s:=#[I.ok,I.os,I.bare,I.base,I.loc,I.cell,I.free,I.freeC,λp a=>(Ã.mp a).elim (λz=>I.pin p (ß _ z)) (h p),I.hok,I.len]
theorem ou{N:ϊ ϐ}(e:N.Nodup)(a:N[i]?=!x)(b:N[j]?=!x):i=j:=by let#[f,c]:=Ä.mp a;let#[g,d]:=Ä.mp b;show(Ů e).mp (c.trans d.symm)
theorem qK{Q:Unit->ώ->Prop}(I:Inv X io σ H s)(hN:X.N.Nodup)(R:X.N[i]?=!x)(B:Loc X.env.scope x)(r:RelV v u)(h:∀s',Inv X io (σ.set i !v) H s'->(∃a,Heap.SameBut a s.heap s'.heap/\(a=X.env.locals\/X.env.cells.lookup x=!a))->Q Unit.unit s') (hf:X.fn x=true\/X.env.scope.names.lookup x=!.local:=by first|show .inl rfl|show .inr rfl|assumption):wpAny M A (storeName X.env x u) Q E s:=by
 let#[m,Z,hl]:=id I.loc;have P:(X.env.scope.kind==.class||(X.env.scope.kind==.module&&X.env.locals !=X.env.globals))=false:=by rw[I.ok.kind];rfl
 have F:i<↑σ:=by rw[I.len];show(Ä.mp R).1
 have cne:=I.cne;have l:∀{a:ό}{h':ϒ},(∃o,s.heap.get? a=!o/\H a=none)->Heap.SameBut a s.heap h'->HOk X.prog X.w H h':=λ{a h'} ha f b ob e=>by
  let#[_,_,C]:=ha;show(I.hok b ob e).stay (λc W t q=>(f.2 c ?_).trans q) (λ_ q=>q) λ_ _ q=>q;rintro rfl;rcases t with rfl|t;.rw [C]at e;cases e
  .rw [C]at t;cases t
 rcases B with hk|hk
 .show wpAny_storeName_local hk Z (λh' ac f=>?_) P;let#[oL,_,_,ad,_]:=id Z;show h _ #[I.ok,I.os,I.bare,#[λb o e n G B=>?_,λb o e n G B=>?_,I.base.free,λb o e B=>?_,I.base.tups,I.base.frzs,I.base.tbls],#[_,ac,λj y v' g D Y=>?_],λy c e=>?_,I.free,I.freeC,λp hp=>?_,l #[oL,ad,I.free] f,by simpa using I.len] #[_,f,.inl rfl];.show (f.2 b (Ý (Ö (É e) I.ok.above))).trans (I.base.keep b o e n G B)
  .obtain ⟨sl,g⟩:=I.base.slot b o e n G B;show#[sl,(f.2 b (Ý (Ö (É e) I.ok.above))).trans g]
  .obtain ⟨o',g⟩:=I.base.there b o e B;show#[o',(f.2 b (Ý (Ö (É e) I.ok.above))).trans g]
  .by_cases K:j=i;.subst K;rw[R]at g;cases g;rw[Ļ F]at D;cases D;show#[u,r,.inl #[hk,by simp]]
   .rw [ũ (Ne.symm K)]at D;let#[u',r',q]:=hl j y v' g D Y;show#[u',r',?_];rcases q with⟨k,e⟩|⟨k,c,e,z⟩
    .show .inl #[k,?_];have:y≠x:=λe=>K (ou hN g (e▸R));simp[this,e]
    .show .inr #[k,c,e,z.sameBut f (cne y c e)]
  .obtain ⟨W,z⟩:=I.cell y c e;show#[W,z.sameBut f (cne y c e)]
  .obtain ⟨e,n,ne,nf,d⟩:=I.pin p hp;show#[(f.2 p.1 ne).trans e,n,ne,nf,d]
 .have J:X.fn x=true:=by
   rcases hf with z|z;.show z
   .rw [z]at hk;cases hk
  let#[c,t]:=I.ok.has x (.inl hk);let#[W,z]:=I.cell x c t;show wpAny_storeName_cell I.ok.kind hk t z (λh' L f=>?_);let#[oc,S,T]:=id z;show h {s with heap:=h'} ⟨I.ok,I.os,I.bare,⟨λb o e n G B=>?_,λb o e n G B=>?_,I.base.free,λb o e B=>?_,I.base.tups,I.base.frzs,I.base.tbls⟩,⟨m,Z.sameBut f (Ne.symm (cne x c t)),λj y v' g D Y=>?_⟩,λy U e=>?_,I.free,I.freeC,λp hp=>?_,l ⟨oc,S,I.freeC x c t⟩ f,by simpa using I.len⟩ ⟨c,f,.inr t⟩;.show (f.2 b (Ý (Ö (É e) (I.ok.cab x c J t)))).trans (I.base.keep b o e n G B)
  .obtain ⟨sl,g⟩:=I.base.slot b o e n G B;show#[sl,(f.2 b (Ý (Ö (É e) (I.ok.cab x c J t)))).trans g]
  .obtain ⟨o',g⟩:=I.base.there b o e B;show#[o',(f.2 b (Ý (Ö (É e) (I.ok.cab x c J t)))).trans g]
  .by_cases K:j=i;.subst K;rw[R]at g;cases g;rw[Ļ F]at D;cases D;show#[u,r,.inr #[.inl hk,c,t,L]]
   .rw [ũ (Ne.symm K)]at D;let#[u',r',q]:=hl j y v' g D Y;show#[u',r',?_];rcases q with q|⟨k,U,e,z'⟩;.show .inl q
    .show .inr #[k,U,e,z'.sameBut f ?_];rintro rfl;show K (ou hN g (I.ok.inj _ _ _ e t▸R))
  .by_cases O:U=c;.subst O;show#[_,L]
   .obtain ⟨w2,z2⟩:=I.cell y U e;show#[w2,z2.sameBut f O]
  .obtain ⟨e,n,ne,nf,d⟩:=I.pin p hp;show#[(f.2 p.1 ?_).trans e,n,ne,nf,d];intro q;rw[q,S]at e;have q':oc=p.2:=Ù e;show d W (by rw[<-q'];show T)
theorem j9{Q:Unit->ώ->Prop}(I:Inv X io σ H s)(b:X.N.Nodup)(d:X.N[i]?=!x)(e:Loc X.env.scope x)(r:RelV v u)(h:∀s',Inv X io (σ.set i !v) H s'->Q Unit.unit s') (c:X.fn x=true\/X.env.scope.names.lookup x=!.local:=by first|show .inl rfl|show .inr rfl|assumption):wpAny M A (storeName X.env x u) Q E s:=qK I b d e r (λs' a _=>h s' a) c
theorem Inv.call'(I:Inv X io σ H s)(g:s'.os=s.os)(u:Un (frs X.stack) ch H H' s.heap s'.heap)(d:HOk X.prog X.w H' s'.heap)(f:AllBare s'.gens)(a:∀b∈ch,(b∈X.ex\/X.s₀.heap.objs.size<=b)/\b≠X.env.locals/\(∀x c,X.env.cells.lookup x=!c->c≠b)/\∀p∈X.pn++io,p.1≠b):Inv X io σ H' s':=by let#[h',g',d',t',o']:=s';have e:o'=s.os:=g;subst e;show I.call (g':=g') (t':=t') (d':=d') u d f a
end
abbrev XK:=ϋ->ύ ό->Hp->Prop
abbrev St:=ϊ (ύ V)
variable{σ:St}
abbrev VK:=V->Hp->Prop
abbrev TE:=St->Hp->VK->Prop
variable{t te tl:TE}
abbrev TT:=St->Hp->(ϑ->Hp->Prop)->Prop
variable{tc:TT}
abbrev TA:=St->Hp->(ϊ V->Hp->Prop)->Prop
structure Ends where
 nx:St->Hp->Prop
 rt:VK
 bk:St->Hp->Prop:=λ_ _=>False
 ct:St->Hp->Prop:=λ_ _=>False
abbrev TS:=Ends->St->Hp->Prop
variable{tb:TS}
def EP(X:Cx)(io:ϸ)(σ:St)(Q:VK)(u:ϋ)(s':ώ):Prop:=∃v H',Inv X io σ H' s'/\RelV v u/\Q v H'
def TP(X:Cx)(io:ϸ)(σ:St)(Q:ϑ->Hp->Prop)(b:ϑ)(s':ώ):Prop:=∃H',Inv X io σ H' s'/\Q b H'
def AP(X:Cx)(io:ϸ)(σ:St)(Q:ϊ V->Hp->Prop)(us:ϊ ϋ)(s':ώ):Prop:=∃vs H',Inv X io σ H' s'/\Vals vs us/\Q vs H'
def SP(X:Cx)(io:ϸ)(D:Ends)(f:Flow)(s':ώ):Prop:=
 match f with
 |.next=>∃σ' H',Inv X io σ' H' s'/\D.nx σ' H'|.brk=>∃σ' H',Inv X io σ' H' s'/\D.bk σ' H'|.cont=>∃σ' H',Inv X io σ' H' s'/\D.ct σ' H'|.ret u=>∃v σ' H',Inv X io σ' H' s'/\RelV v u/\D.rt v H'
def PE(X:Cx)(e:Expr)(t:TE):Prop:=∀(io:ϸ)(s:ώ)(σ:St)(H:Hp)(Q:VK),Inv X io σ H s->t σ H Q->wpAny (model X.prog X.w) X.A (eval e X.env) (EP X io σ Q) X.xe s
def PT(X:Cx)(e:Expr)(t:TT):Prop:=∀(io:ϸ)(s:ώ)(σ:St)(H:Hp)(Q:ϑ->Hp->Prop),Inv X io σ H s->t σ H Q->wpAny (model X.prog X.w) X.A (isTrue e X.env (eval e X.env)) (TP X io σ Q) X.xe s
def PW(X:Cx)(e:Expr)(t:TT):Prop:=∀(whole:Sem ϋ)(io:ϸ)(s:ώ)(σ:St)(H:Hp)(Q:ϑ->Hp->Prop),Inv X io σ H s->t σ H Q->wpAny (model X.prog X.w) X.A (isTrue e X.env whole) (TP X io σ Q) X.xe s
theorem PW.pt{X:Cx}{t:TT}(h:PW X e t):PT X e t:=h _
def PA(X:Cx)(es:ϊ Expr)(t:TA):Prop:=∀(pos:Pos)(io:ϸ)(s:ώ)(σ:St)(H:Hp)(Q:ϊ V->Hp->Prop),Inv X io σ H s->t σ H Q->wpAny (model X.prog X.w) X.A (spliced (backTo pos (starEach es X.env))) (AP X io σ Q) X.xe s
def PS(X:Cx)(st:Stmt)(t:TS):Prop:=∀(io:ϸ)(s:ώ)(σ:St)(H:Hp)(D:Ends),Inv X io σ H s->t D σ H->wpAny (model X.prog X.w) X.A (exec st X.env) (SP X io D) X.xe s
def PSs(X:Cx)(st:ϊ Stmt)(t:TS):Prop:=∀(io:ϸ)(s:ώ)(σ:St)(H:Hp)(D:Ends),Inv X io σ H s->t D σ H->wpAny (model X.prog X.w) X.A (execs st X.env) (SP X io D) X.xe s
theorem bu{c:Type}{t:Sem c}{Q b:c->ώ->Prop}(h:wpAny M A t Q E s)(d:∀a s,Q a s->b a s):wpAny M A t b E s:=í h d λ_ _ x=>x
section
variable{X:Cx}
def dH(i:Nat):TE:=λσ H Q=>∃v,σ[i]?=!(!v)/\Q v H
def tC(v:V):TE:=λ_ H Q=>Q v H
theorem Qk(f:X.N[i]?=!x)(k:Zh X.env.scope x)(d:(x==("__debug__":ϐ))=false:=by decide)(b:(x==("__classdict__":ϐ))=false:=by decide):PE X (.Name x pos) (dH i):=by
 intro a s n H Q I h;let#[v,e,h]:=h;let#[m,j,g]:=I.loc;let#[u,r,l]:=g i x v f e k;have fin:EP X a n Q u s:=#[v,H,I,r,h];rcases l with⟨hk,hm⟩|⟨hk,c,hc,hcell⟩;.show wpAny_Name (wpAny_loadName_local I.ok.kind hk j hm fin) d
 .rcases hk with hk|hk;.show wpAny_Name (wpAny_loadName_cell I.ok.kind hk hc hcell fin) d
  .show wpAny_Name (wpAny_loadName_free I.ok.kind hk hc hcell fin b) d
theorem aj{i j pos}:PE X (.Constant (.int i) j pos) (tC (.int i)):=λ_ _ _ H _ I h=>wpAny_Constant_int #[.int i,H,I.tok _,#[_,rfl],h]
theorem gR{b j pos}:PE X (.Constant (.bool b) j pos) (tC (.bl b)):=λ_ _ _ H _ I h=>Constant_bool #[.bl b,H,I,rfl,h]
theorem bw{j pos}:PE X (.Constant .none j pos) (tC .non):=λ_ _ _ H _ I h=>Constant_none #[.non,H,I,rfl,h]
theorem cC{x j pos}:PE X (.Constant (.str x) j pos) (tC (.str x)):=λ_ _ _ H _ I h=>Calls.Constant_str #[.str x,H,I.tok _,#[_,rfl],h]
def Gl(X:Cx)(x:ϐ):Prop:=X.env.kindOf x=!.globalImplicit
theorem iC(I:Inv X io σ H s)(b:Gl X x)(c:X.mg x=!u)(h:Q u s)(a:(x==("__debug__":ϐ))=false:=by decide):wpAny (model X.prog X.w) X.A (eval (.Name x pos) X.env) Q E s:=Calls.Name_function_global I.ok.kind b (Calls.loadGlobal_global (by rw[I.ok.glob];show I.mod.glob.keeps I.bk) c h) a
theorem jb(I:Inv X io σ H s)(d:Gl X x)(e:X.mg x=none)(g:bootBuiltins x=!u)(h:Q u s)(f:x≠"__name__":=by decide) (c:(x==("__debug__":ϐ))=false:=by decide):wpAny (model X.prog X.w) X.A (eval (.Name x pos) X.env) Q E s:=by let#[i,a,b]:=I.mod.blt;show Calls.Name_function_global I.ok.kind d (Calls.loadGlobal_builtin (by rw[I.ok.glob];show I.mod.glob.keeps I.bk) e (by rw[I.ok.blt];show a.keeps I.bk) ((b x f).trans g) h) c
theorem cD(b:Gl X x)(c:X.mg x=!u)(r:RelV v u)(a:(x==("__debug__":ϐ))=false:=by decide):PE X (.Name x pos) (tC v):=λ_ _ _ H _ I h=>iC I b c #[v,H,I,r,h] a
theorem fO(b:Gl X x)(c:X.mg x=none)(e:bootBuiltins x=!u)(r:RelV v u)(d:x≠"__name__":=by decide)(a:(x==("__debug__":ϐ))=false:=by decide):PE X (.Name x pos) (tC v):=λ_ _ _ H _ I h=>jb I b c e #[v,H,I,r,h] d a
variable{a b:Expr}{ta tb:TE}{pos:Pos}
def PC(X:Cx)(op:CmpOp)(a b:Expr)(t:TE):Prop:=∀(io:ϸ)(s:ώ)(σ:St)(H:Hp)(Q:VK),Inv X io σ H s->t σ H Q->wpAny (model X.prog X.w) X.A (eval a X.env) (λv s₁=>wpAny (model X.prog X.w) X.A (eval b X.env) (λu s₂=>wpAny (model X.prog X.w) X.A (compareOp op v u) (EP X io σ Q) X.xe s₂) X.xe s₁) X.xe s
def tB(t:TE):TT:=λσ H Q=>t σ H λx H1=>∃c,x=.bl c/\Q c H1
theorem fW(h:PC X op a b t)(f:behindInMarks op b=false:=by first|show nobehind _ (by decide) (by decide)|rfl):PT X (.Compare a [op] [b] pos) (tB t):=by
 intro e s n H Q I k;show wpAny_isTrue_Compare1 (bu (h e s n H _ I k) λv o f=>bu f λu p j=>bu j λc r ⟨x,g,i,m,l⟩=>?_) f;let#[d,rfl,q]:=l;cases m;show ċ #[g,i,q]
variable{tA tB':TT}{rest:ϊ Expr}
def Ez(t u:TT):TT:=λσ H Q=>t σ H λc H1=>if c=true then u σ H1 Q else Q false H1
def Eo(t u:TT):TT:=λσ H Q=>t σ H λc H1=>if c=true then Q true H1 else u σ H1 Q
def kj(t:TT):TT:=λσ H Q=>t σ H λc H1=>Q (not c) H1
theorem rR(d:PT X a tA):PW X (.BoolOp .And [a] pos) tA:=by
 intro i b s f H Q I h;show isTrue_and (bu (d b s f H Q I h) λc g e=>?_);cases c with
 |true=>show isTrue_and_nil e|false=>show e
theorem jP(d:PT X a tA):PW X (.BoolOp .Or [a] pos) tA:=by
 intro i b s f H Q I h;show isTrue_or (bu (d b s f H Q I h) λc g e=>?_);cases c with
 |false=>show isTrue_or_nil e|true=>show e
theorem wO(j:PT X a tA)(k:PW X (.BoolOp .And (b::rest) pos) tB'):PW X (.BoolOp .And (a::b::rest) pos) (Ez tA tB'):=by
 intro m d s i H Q I h;show isTrue_and (bu (j d s i H _ I h) λc l ⟨e,f,g⟩=>?_);cases c with
 |true=>show k m d l i e Q f g|false=>show#[e,f,g]
theorem km(j:PT X a tA)(k:PW X (.BoolOp .Or (b::rest) pos) tB'):PW X (.BoolOp .Or (a::b::rest) pos) (Eo tA tB'):=by
 intro m d s i H Q I h;show isTrue_or (bu (j d s i H _ I h) λc l ⟨e,f,g⟩=>?_);cases c with
 |true=>show#[e,f,g]|false=>show k m d l i e Q f g
theorem fu(e:PT X a tA):PT X (.UnaryOp .Not a pos) (kj tA):=by intro b s f H Q I h;show isTrue_not (e b s f H (λc d=>Q (not c) d) I h)
def gU(ta tb:TE):TE:=λσ H Q=>ta σ H λx H1=>∃c,x=.bl c/\if c=true then tb σ H1 Q else Q (.bl false) H1
def Ai(ta:TE):TE:=λσ H Q=>ta σ H λx H1=>∃c,x=.bl c/\Q (.bl (not c)) H1
theorem jQ{op}(h:PE X a t):PE X (.BoolOp op [a] pos) t:=λb s d H Q I c=>BoolOp_one (h b s d H Q I c)
theorem gK(j:PE X a ta)(k:PE X (.BoolOp .And (b::rest) pos) tb):PE X (.BoolOp .And (a::b::rest) pos) (gU ta tb):=by
 intro d s i H Q I h;show BoolOp_and (bu (j d s i H _ I h) λv m ⟨x,f,g,l,e⟩=>?_);let#[c,rfl,e]:=e;cases l;show ċ ?_;cases c with
 |true=>show k d m i f Q g e|false=>show#[.bl false,f,g,rfl,e]
theorem EY(g:PE X a ta):PE X (.UnaryOp .Not a pos) (Ai ta):=by
 intro b s j H Q I h;show UnaryOp_ (bu (g b s j H _ I h) λv k ⟨x,e,f,i,d⟩=>?_);let#[c,rfl,d]:=d;cases i;show not_of (ċ #[.bl (not c),e,f,rfl,d])
def Wn(t:TT)(ta tb:TE):TE:=λσ H Q=>t σ H λc H1=>if c=true then ta σ H1 Q else tb σ H1 Q
theorem oA(n:PT X c tA)(l:PE X a ta)(m:PE X b tb):PE X (.IfExp c a b pos) (Wn tA ta tb):=by
 intro e s f H Q I h;show wpAny_IfExp (bu (n e s f H _ I h) λd k ⟨g,i,j⟩=>?_);cases d with
 |true=>show l e k f g Q i j|false=>show m e k f g Q i j
end
def SqL(K:Ϗ)(H:Hp)(a:ό)(xs:ϊ V):Prop:=Rd H a (.lst xs)\/∃(o:Obj)(its:ϔ ϋ)(n:Nat),K.lookup a=!o/\o.cls=.type "list"/\o.dict=none/\o.data=.seq its n/\its.size<=sizeLine/\Vals xs its.toList
def SqT(K:Ϗ)(H:Hp)(a:ό)(xs:ϊ V):Prop:=Rd H a (.tup xs)\/∃(o:Obj)(its:ϔ ϋ)(n:Nat),K.lookup a=!o/\o.cls=.type "tuple"/\o.data=.seq its n/\its.size<=sizeLine/\Vals xs its.toList
noncomputable def Zy:ϋ->ύ V
 |.none=>!.non|.bool b=>!(.bl b)|.int i _=>!(.int i)|.str x _=>!(.str x)|.bytes b _=>!(.byt b)|.float b _=>!(.flt b)|.ref a=>!(.ref a)|.type n=>!(.ty n)|_=>none
theorem RelV.abs{x:V}(r:RelV x u):Zy u=!x:=by
 cases x with
 |non=>cases r;rfl|bl _=>cases r;rfl|int _=>let#[t,rfl]:=r;rfl|str _=>let#[t,rfl]:=r;rfl|byt _=>let#[t,rfl]:=r;rfl|flt _=>let#[t,rfl]:=r;rfl|ref _=>cases r;rfl|ty _=>cases r;rfl
theorem RelV.inj{x:V}(r:RelV x u)(q:RelV y u):x=y:=Ù (r.abs.symm.trans q.abs)
theorem Vals.inj:∀{xs ys:ϊ V}{us:ϊ ϋ},Vals xs us->Vals ys us->xs=ys
 |_,_,_,.nil,.nil=>rfl|_,_,_,.cons r t,.cons r' t'=>by rw[r.inj r',Vals.inj t t']
section
variable{X:Cx}
theorem SqL.of{K:Ϗ}(h:H a=!(.lst xs)):SqL K H a xs:=.inl (.inl h)
abbrev ip:=@SqL.of
theorem SqT.of{K:Ϗ}(h:H a=!(.tup xs)):SqT K H a xs:=.inl (.inl h)
abbrev iq:=@SqT.of
theorem Inv.list(I:Inv X io σ H s)(h:SqL X.K H a xs):∃its:ϊ ϋ,Vals xs its/\PlainL s.heap a its.toArray/\↑xs<=sizeLine:=by
 rcases h with h|⟨o,its,n,hk,hc,hd,hs,hz,r⟩;.obtain ⟨z,its,n,r,e⟩:=h.ok I.hok;show#[its,r,#[_,n,e,rfl,rfl,rfl],z]
 .show #[its.toList,r,#[o,n,I.kIn a o hk,hc,hd,by simpa using hs],?_];have e:=↑r;simp only[Ā]at e;rfl'
theorem Inv.tuple(I:Inv X io σ H s)(h:SqT X.K H a xs):∃its:ϊ ϋ,Vals xs its/\IsTup s.heap a its.toArray/\↑xs<=sizeLine:=by
 rcases h with h|⟨o,its,n,hk,hc,hs,hz,r⟩;.obtain ⟨z,its,r,p⟩:=h.ok I.hok;show#[its,r,p,z]
 .show #[its.toList,r,#[o,I.kIn a o hk,hc,n,by simpa using hs],?_];have e:=↑r;simp only[Ā]at e;rfl'
theorem Inv.list_inj(I:Inv X io σ H s)(h:SqL X.K H a xs)(h':SqL X.K H a ys):xs=ys:=by
 let#[b,r,#[o,n,e,_,_,d],_]:=I.list h;let#[its',f,#[o',g,c,_,_,d'],_]:=I.list h';rw[e]at c;cases c;rw[d]at d';injection d' with d1 _;have:b=its':=by simpa using Ô Array.toList d1
 subst this;show r.inj f
theorem Inv.tuple_inj(I:Inv X io σ H s)(h:SqT X.K H a xs)(h':SqT X.K H a ys):xs=ys:=by
 let#[b,r,#[o,e,_,n,d],_]:=I.tuple h;let#[its',f,#[o',c,_,g,d'],_]:=I.tuple h';rw[e]at c;cases c;rw[d]at d';injection d' with d1 _;have:b=its':=by simpa using Ô Array.toList d1
 subst this;show r.inj f
end
abbrev Cx.wish(X:Cx)(E:϶):Cx:={X with xe:=E}
abbrev Cx.nox(X:Cx):Cx:=X.wish λ_ _=>False
theorem Cx.Ok.wish{X:Cx}(a:X.Ok)(E:϶):(X.wish E).Ok:=#[a.mod,a.kind,a.glob,a.blt,a.above,a.inj,a.has,a.cab,a.hd,a.frames,a.stk,a.exf,a.bs,a.bsz,a.noex,a.exfs,a.funs,a.frf]
theorem Cx.Ok.unwish{X:Cx}(a:(X.wish E).Ok):X.Ok:=#[a.mod,a.kind,a.glob,a.blt,a.above,a.inj,a.has,a.cab,a.hd,a.frames,a.stk,a.exf,a.bs,a.bsz,a.noex,a.exfs,a.funs,a.frf]
section
variable{X:Cx}{H:Hp}{s:ώ}
theorem Inv.wish(I:Inv X io σ H s)(E:϶):Inv (X.wish E) io σ H s:=#[I.ok.wish E,I.os,I.bare,I.base,I.loc,I.cell,I.free,I.freeC,I.pin,I.hok,I.len]
theorem Inv.unwish(I:Inv (X.wish E) io σ H s):Inv X io σ H s:=#[I.ok.unwish,I.os,I.bare,I.base,I.loc,I.cell,I.free,I.freeC,I.pin,I.hok,I.len]
theorem SP.unwish{f:Flow}(h:SP (X.wish E) io D f s'):SP X io D f s':=by cases f with
 |next=>let#[σ',a,I,q]:=h;show#[σ',a,I.unwish,q]|brk=>let#[σ',a,I,q]:=h;show#[σ',a,I.unwish,q]|cont=>let#[σ',a,I,q]:=h;show#[σ',a,I.unwish,q]|ret u=>let#[v,σ',a,I,r,q]:=h;show#[v,σ',a,I.unwish,r,q]
theorem PSs.nox{t:TS}(h:PSs X.nox st t):PSs X st t:=λa s c H D I b=>í (h a s c H D (I.wish _) b) (λ_ _ q=>q.unwish) λ_ _ z=>False.elim z
end
section
variable{X:Cx}{st:Stmt}{rest:ϊ Stmt}{t u:TS}{e:Expr}{te:TE}{pos:Pos}
def aW:TS:=λD σ H=>D.nx σ H
def aB(t u:TS):TS:=λD σ H=>t {D with nx:=u D} σ H
theorem aJ:PSs X [] aW:=λ_ _ a H _ I h=>ş #[a,H,I,h]
theorem uI(d:PS X st t)(e:PSs X rest u):PSs X (st::rest) (aB t u):=by intro a s i H D I h;show wpAny_execs_cons (bu (d a s i H {D with nx:=u D} I h) λf g q=>?_);cases f with
 |next=>let#[σ',b,c,q]:=q;show e a g σ' b D c q|ret v=>show q|brk=>show q|cont=>show q
theorem az(b:PS X st t):PSs X [st] t:=by
 intro a s c H D I h;show wpAny_execs_cons (bu (b a s c H D I h) λf d q=>?_)
 cases f with
 |next=>show ş q|ret v=>show q|brk=>show q|cont=>show q
theorem Inv.quiet(I:Inv X io σ H s):interactive X.env=false:=by simp[interactive,I.ok.kind]
def cA(te:TE):TS:=λD σ H=>te σ H λ_ H1=>D.nx σ H1
theorem bf(f:PE X e te)(g:swapsWith e none pos.line X.env=pure false:=by rfl):PS X (.Expr e pos) (cA te):=by intro a s b H D I h;show wpAny_Expr_any (bu (f a s b H _ I h) λv k ⟨x,c,d,j,i⟩=>#[b,c,d,i]) I.quiet g
def aR(te:TE):TS:=λD σ H=>te σ H D.rt
theorem aC(f:PE X e te):PS X (.Return (!e) pos) (aR te):=by intro a s b H D I h;show wpAny_Return_some (bu (f a s b H _ I h) λv j ⟨x,c,d,i,g⟩=>#[x,b,c,d,i,g])
def bG(c:TT)(t u:TS):TS:=λD σ H=>c σ H λb H1=>if b=true then t D σ H1 else u D σ H1
theorem aX{a b:ϊ Stmt}(n:PT X c tc)(l:PSs X a t)(m:PSs X b u):PS X (.If c a b pos) (bG tc t u):=by
 intro e s f H D I h;show wpAny_If (bu (n e s f H _ I h) λd k ⟨g,i,j⟩=>?_);cases d with
 |true=>show l e k f g D i j|false=>show m e k f g D i j
def lU:TS:=λ_ _ _=>False
theorem jc:PS X st lU:=λ_ _ _ _ _ _ h=>h.elim
end
abbrev TG:=V->St->Hp->(St->Hp->Prop)->Prop
abbrev KR:=ϊ V->St->Hp->(St->Hp->Prop)->Prop
def PG(X:Cx)(target:Expr)(t:TG):Prop:=∀(io:ϸ)(s:ώ)(σ:St)(H:Hp)(v:V)(u:ϋ)(Q:St->Hp->Prop),Inv X io σ H s->RelV v u->t v σ H Q->wpAny (model X.prog X.w) X.A (assign target X.env u) (λ_ s'=>∃σ' H',Inv X io σ' H' s'/\Q σ' H') X.xe s
def Wo(X:Cx)(ts:ϊ Expr)(t:KR):Prop:=∀(io:ϸ)(s:ώ)(σ:St)(H:Hp)(vs:ϊ V)(us:ϊ ϋ)(Q:St->Hp->Prop),Inv X io σ H s->Vals vs us->t vs σ H Q->wpAny (model X.prog X.w) X.A (assignInOrder ((assignEach ts X.env).map (·.2)) us) (λ_ s'=>∃σ' H',Inv X io σ' H' s'/\Q σ' H') X.xe s
abbrev Li:=V->V->V->Hp->(Hp->Prop)->Prop
def Wq(X:Cx)(t:Li):Prop:=∀(io:ϸ)(s:ώ)(σ:St)(H:Hp)(o i v:V)(ov iv u:ϋ)(Q:Hp->Prop),Inv X io σ H s->RelV o ov->RelV i iv->RelV v u->t o i v H Q->wpAny (model X.prog X.w) X.A (setItem ov iv u) (λ_ s'=>∃H',Inv X io σ H' s'/\Q H') X.xe s
abbrev W8:=V->V->Hp->VK->Prop
def PIp(X:Cx)(op:Operator)(t:W8):Prop:=∀(io:ϸ)(s:ώ)(σ:St)(H:Hp)(x y:V)(v u:ϋ)(Q:VK),Inv X io σ H s->RelV x v->RelV y u->t x y H Q->wpAny (model X.prog X.w) X.A (inplaceOp op v u) (EP X io σ Q) X.xe s
section
variable{X:Cx}
def ao(i:Nat):TG:=λv σ H Q=>Q (σ.set i !v) H
theorem rT(c:X.N.Nodup)(e:X.N[i]?=!x)(f:Loc X.env.scope x)(d:X.fn x=true\/X.env.scope.names.lookup x=!.local:=by first|show .inl rfl|show .inr rfl|assumption):PG X (.Name x pos) (ao i):=by intro a s g H v u Q I r h;show wpAny_assign_Name (j9 I c e f r (λs' b=>#[_,H,b,h]) d)
def jE:KR:=λvs σ H Q=>vs=[]/\Q σ H
def bL(t:TG)(u:KR):KR:=λvs σ H Q=>∃v r,vs=v::r/\t v σ H λσ' H'=>u r σ' H' Q
theorem cN:Wo X [] jE:=by
 intro a s b H vs us Q I r h;let#[e,h]:=h;subst e;cases r;show assignInOrder_nil #[b,H,I,h]
theorem aQ{t:TG}{u:KR}(g:PG X e t)(i:Wo X es u)
  (j:(assignEach (e::es) X.env).map (·.2)=assign e X.env::(assignEach es X.env).map (·.2):=by rfl):Wo X (e::es) (bL t u):=by
 intro a s m H vs us Q I r h;let#[v,n,f,h]:=h;subst f;cases r with|cons r rr=>rw[j];show assignInOrder_cons (bu (g a s m H _ _ _ I r h) λ_ l ⟨b,c,d,k⟩=>?_);show i a l b c _ _ Q d rr k
def jd(K:Ϗ)(n:Nat)(t:KR):TG:=λv σ H Q=>∃a xs,v=.ref a/\SqT K H a xs/\↑xs=n/\t xs σ H Q
theorem Ql{t:KR}(m:X.calm=true)(h:Wo X es t)(q:↑(assignEach es X.env)=n:=by rfl) (d:(assignEach es X.env).findIdx? (·.1)=none:=by rfl):PG X (.Tuple es k pos) (jd X.K n t):=by
 intro c s i H v u Q I r f;let#[a,xs,l,w,p,f]:=f;subst l;cases r;let#[z,g,x,hz]:=I.tuple w;show assign_Tuple_tuple (I.ok.hd m) x (by simp[q,<-p,g.length]) d λh' y=>?_;have j:Inv X c i H {s with heap:=h'}:=I.kept (t':=s.toks) λb o e=>y b o (Ý (É e)) e;show h c _ i H xs _ Q j (by simpa using g) f
def Lj(to ti:TE)(t:Li):TG:=λv σ H Q=>to σ H λo H1=>ti σ H1 λi H2=>t o i v H2 λH3=>Q σ H3
theorem Fb{i:Expr}{e:TE}{t:Li}(q:PE X o e)(p:PE X i d)(w:Wq X t)(n:∀v,assign (.Subscript o i pos) X.env v=(do
   let ov<-holding [v] (eval o X.env)
   let b<-holding [v,ov] (eval i X.env)standAt pos
   holding [v,ov,b] (setItem ov b v)release [v,ov,b] []):=by intro _;rfl):PG X (.Subscript o i pos) (Lj e d t):=by intro a s c H v u Q I r h;rw[n];show Qr (ì (bu (q a s c H _ I h) λov E ⟨x,f,k,C,z⟩=>?_));show Qr (ì (bu (p a E c f _ k z) λb F ⟨y,g,l,D,A⟩=>?_));show Qr (ţ (Qr (ì (bu (w a F c g x y v ov b u _ l C D r A) λ_ G ⟨j,m,B⟩=>?_))));show wpAny_release #[c,j,m,B]
def aK(te:TE)(g:TG):TS:=λD σ H=>te σ H λx H1=>g x σ H1 D.nx
theorem Fd{g:TG}(i:PE X e te)(j:PG X tg g)(k:swapsWithSole [tg] e pos.line X.env=pure false:=by rfl)(l:swappedStores [tg] e X.env=pure none:=by rfl)(f:(assignEach [tg] X.env).map (·.2)=[assign tg X.env]:=by rfl):PS X (.Assign [tg] e pos) (aK te g):=by intro a s b H D I h;show wpAny_Assign_stores (bu (i a s b H _ I h) λv o ⟨x,c,d,n,m⟩=>?_) k l;rw[f];show bu (j a o b c x v _ d n m) λ_ p q=>q
theorem fB(f:X.N.Nodup)(k:X.N[i]?=!x)(m:Loc X.env.scope x)(g:PE X e te)(l:swapsWith e (!(.Name x pos')) pos.line X.env=pure false:=by rfl)(j:X.fn x=true\/X.env.scope.names.lookup x=!.local:=by first|show .inl rfl|show .inr rfl|assumption):PS X (.Assign [.Name x pos'] e pos) (aK te (ao i)):=by intro a s p H D I h;show wpAny_Assign_Name (bu (g a s p H _ I h) λv q ⟨y,b,c,o,n⟩=>?_) l;show j9 c f k m o (λr d=>#[_,b,d,n]) j
def Lk(i:Nat)(te:TE)(ti:W8):TS:=λD σ H=>∃x,σ[i]?=!(!x)/\te σ H λy H1=>ti x y H1 λz H2=>D.nx (σ.set i !z) H2
theorem Fe{op:Operator}{n:W8}(F:X.N.Nodup)(j:X.N[i]?=!x)(f:Loc X.env.scope x)(G:PE X e te)(M:PIp X op n)(J:X.fn x=true\/X.env.scope.names.lookup x=!.local:=by first|show .inl rfl|show .inr rfl|assumption):PS X (.AugAssign (.Name x pos') op e pos) (Lk i te n):=by
 intro a s o H D I h;let#[v,E,h]:=h;let#[m,L,K]:=I.loc;have g:Zh X.env.scope x:=by rcases f with k|k;show .inl k;show .inr (.inl k)
 let#[u,r,l]:=K i x v j E g;show wpAny_AugAssign_Name ?_;have go:wpAny (model X.prog X.w) X.A (eval e X.env) (λw b=>wpAny (model X.prog X.w) X.A (inplaceOp op u w) (λr d=>wpAny (model X.prog X.w) X.A (storeName X.env x r) (λ_=>SP X a D .next) X.xe d) X.xe b) X.xe s:=by show bu (G a s o H _ I h) λw S ⟨y,p,t,Q,O⟩=>?_;show bu (M a S o p v y u w _ t r Q O) λz T ⟨W,q,B,R,P⟩=>?_;show j9 B F j f R (λU C=>#[_,q,C,P]) J
 rcases l with⟨hk,hm⟩|⟨hk,c,hc,hcell⟩;.show wpAny_loadName_local I.ok.kind hk L hm go
 .rcases hk with hk|hk;.show wpAny_loadName_cell I.ok.kind hk hc hcell go
  .rcases f with k|k;.have:X.env.scope.names.lookup x=!.free:=hk;rw[k]at this;cases this
   .have:X.env.scope.names.lookup x=!.free:=hk;rw[k]at this;cases this
def Zz(f:Int->Int->Int):W8:=λx y H Q=>∃i j,x=.int i/\y=.int j/\Q (.int (f i j)) H
theorem Ff:PIp X .Add (Zz λi j=>i+j):=by intro a s f H x y v u Q I d e h;let#[i,j,b,c,q]:=h;subst b;subst c;let#[t,rfl]:=d;let#[t',rfl]:=e;show iadd_int #[.int _,H,I.tok _,#[_,rfl],q]
end
section
variable{X:Cx}
def fX(c:TT)(tb:TS):TS:=λD σ H=>∃W:Nat->St->Hp->Prop,(∃m,W m σ H)/\∀m σ H,W m σ H->c σ H λb H1=>if b=true then ∃N:St->Hp->Prop,(∀σ' H',N σ' H'->∃m',m'<m/\W m' σ' H')/\tb {D with nx:=N,ct:=N,bk:=D.nx} σ H1 else D.nx σ H1
theorem fY(z:PassesOwn (model X.prog X.w) X.A X.env X.xe)(E:PT X c tc)(C:PSs X body tb):PS X (.While c body [] pos) (fX tc tb):=by intro a s M H D I h;let#[W,#[F,K],i]:=h;show wpAny_While (codeAny_whileLoop (λn s'=>∃σ' r,Inv X a σ' r s'/\W n σ' r) ?_ F #[M,H,I,K]);rintro n G ⟨e,t,B,L⟩;show Ŏ z (bu (E a G e t _ B (i n e t L)) λb J ⟨u,x,j⟩=>?_);cases b with
 |true=>
  let#[N,y,j]:=j;rw[if_pos rfl];show Ŏ z (bu (C a J e u _ x j) λf O k=>?_);cases f with|next=>let#[d,g,l,p]:=k;let#[o,m,q]:=y d g p;show#[o,m,d,g,l,q]|cont=>let#[d,g,l,p]:=k;let#[o,m,q]:=y d g p;show#[o,m,d,g,l,q]|brk=>show k|ret v=>show k
 |false=>rw[if_neg Î];show ş #[e,u,x,j]
end
structure It where
 go:Nat->Hp->Prop
 yld:Nat->Hp->V->Hp->Prop
 stop:Nat->Hp->Prop
def oE(X:Cx)(io:ϸ)(H:Hp)(b:ό):Prop:=
 H b=none/\b≠X.env.locals/\b∉X.fs/\(b∈X.ex\/X.s₀.heap.objs.size<=b)/\(∀x c,X.env.cells.lookup x=!c->c≠b)/\∀p∈X.pn++io,p.1≠b
theorem Inv.fpOk{X:Cx}(I:Inv X io σ H s)(a:s.heap.objs.size<=b)(f:d b=none):oE X io d b:=by
 show#[f,ġ (Ö I.lt a),I.nofs a,.inr (Ð I.sz a),λx c e z=>?_,λp g z=>?_];.obtain ⟨v,q⟩:=I.cell x c e;show absurd (Ö q.lt (by rw[z];show a)) (ă _)
 .show absurd (Ö (É (I.pin p g).1) (by rw[z];show a)) (ă _)
structure Turn(P:ϓ)(w:ϕ)(K:Ϗ)(tg:Expr)(J:It)(fp:ϊ ό)(it:ό)(tn:Nat->ϒ->Prop):Prop where
 mem:it∈fp
 obj:∀i h,tn i h->∀b∈fp,∃o,h.get? b=!o/\∀v,o.data≠.cell v
 keep:∀i h h',tn i h->(∀b∈fp,∀o,h.get? b=!o->h'.get? b=!o)->tn i h'
 item:∀(X:Cx),X.prog=P->X.w=w->X.K=K->X.calm=true->∀(i:Nat)(io:ϸ)(s:ώ)(σ:St)(H:Hp)(E:϶),Inv X io σ H s->(∀b∈fp,oE X io H b)->tn i s.heap->J.go i H->
  wpAny (model P w) X.A (pyNext (.ref it)) (λr s1=>∃u,r=!u/\wpAny (model P w) X.A (letOwnedTupleGo tg (.ref it) u) (λ_ s2=>∃x H',Inv X io σ H' s2/\RelV x u/\J.yld i H x H'/\tn (i+1) s2.heap/\∀b∈fp,H' b=none) E s1) E s
 done:∀(X:Cx),X.prog=P->X.w=w->X.K=K->X.calm=true->∀(i:Nat)(io:ϸ)(s:ώ)(σ:St)(H:Hp)(E:϶),Inv X io σ H s->(∀b∈fp,oE X io H b)->tn i s.heap->J.stop i H->wpAny (model P w) X.A (pyNext (.ref it)) (λr s1=>r=none/\Inv X io σ H s1) E s
 self:∀(A:ϖ)(i:Nat)(s:ώ)(Q:϶)(E:϶),tn i s.heap->Q (.ref it) s->wpAny (model P w) A (pyIter (.ref it)) Q E s
abbrev TI:=St->Hp->(It->Hp->Prop)->Prop
def PIE(X:Cx)(io:ϸ)(σ:St)(tg:Expr)(R:It->Hp->Prop)(itv:ϋ)(s2:ώ):Prop:=∃(it:ό)(fp:ϊ ό)(tn:Nat->ϒ->Prop)(J:It)(H':Hp),itv=.ref it/\Inv X io σ H' s2/\Turn X.prog X.w X.K tg J fp it tn/\tn 0 s2.heap/\(∀b∈fp,oE X io H' b)/\R J H'
def PI(X:Cx)(tg iter:Expr)(wi:TI):Prop:=∀(io:ϸ)(s:ώ)(σ:St)(H:Hp)(R:It->Hp->Prop),Inv X io σ H s->wi σ H R->wpAny (model X.prog X.w) X.A (eval iter X.env) (λv s1=>wpAny (model X.prog X.w) X.A (pyIter v) (PIE X io σ tg R) X.xe s1) X.xe s
theorem oF{n:String}{Q:Unit->ώ->Prop}(e:s.heap.get? it=!o)(b:o.cls=.type n)(c:o.data=.fields vs)(d:["enumerate","zip","dict_itemiterator","dict_reverseitemiterator","odict_iterator","itertools.zip_longest","itertools.pairwise"].contains n=false) (a:Q Unit.unit s):wpAny M A (letOwnedTupleGo tg (.ref it) u) Q E s:=by
 unfold letOwnedTupleGo;cases tg <;> first
  |show Xs a| (cases u<;>first
    |show Xs a
    | (show Qr (wpAny_load e ?_);rw[b,c];change wpAny M A (if(["enumerate","zip","dict_itemiterator","dict_reverseitemiterator","odict_iterator","itertools.zip_longest","itertools.pairwise"].contains n&&vs[0]? ==!(rawInt _))=true then _ else _) Q E s;rw[if_neg (by intro h;rw[d,Ū]at h;cases h)];show Xs a))
noncomputable def Ln(K:Ϗ)(a:ό):It:=#[λi H=>∃xs x,SqL K H a xs/\xs[i]?=!x,λi H x H'=>H'=H/\∀xs,SqL K H a xs->xs[i]?=!x,λi H=>∃xs,SqL K H a xs/\↑xs<=i]
noncomputable def W9(K:Ϗ)(a:ό):It:=#[λi H=>∃xs x,SqT K H a xs/\xs[i]?=!x,λi H x H'=>H'=H/\∀xs,SqT K H a xs->xs[i]?=!x,λi H=>∃xs,SqT K H a xs/\↑xs<=i]
noncomputable def KY(lo:Int)(n:Nat):It:=#[λi _=>i<n,λi H x H'=>H'=H/\x=.int (lo+i),λi _=>n<=i]
theorem Cr{P:ϓ}{K:Ϗ}(a j:ό):Turn P w K tg (Ln K a) [j] j (λi h=>h.IsListIter j a i)where
 mem:=by simp
 obj:=λi h st b g=>by
  have e:b=j:=by simpa using g
  subst e;let#[o,e,c,d]:=st;show#[o,e,λv z=>by rw[d]at z;cases z]
 keep:=λi h h' st k=>st.at λo e=>k j (by simp) o e
 item:=by
  intro X C F B M i f s N H E I m st D;subst C F B;let#[xs,x,n,G]:=D;let#[J,L,p,hz]:=I.list n;let#[u,S,U]:=L.get G;let#[q,r,R,t,y,A]:=m j (by simp);show wpAny_pyNext_list_item st p.isList (x:=u) (by simpa using S) λh' l sb=>?_;have O:Inv X f N H {s with heap:=h'}:=I.turned (t':=s.toks) (λb o g e=>(sb.2 b g).trans e) q r t y A;let#[o,e,c,d]:=id l;show#[u,rfl,oF (s:={s with heap:=h'}) e c d (by decide) ⟨x,H,O,U,⟨rfl,λys T=>by rw[I.list_inj T n];show G⟩,l,λb g=>(m b g).1⟩]
 done:=by intro X C F B M i f s N H E I m st D;subst C F B;let#[xs,n,G]:=D;let#[J,L,p,hz]:=I.list n;let#[q,r,R,t,y,A]:=m j (by simp);have Y:=↑L;show wpAny_pyNext_list_end (I.ok.hd M) st p.isList (by simp;rfl') λh' Q=>#[rfl,I.turned (t':=s.toks) (λb o g e=>Q b o g e) q r t y A]
 self:=λ_ _ _ _ _ st h=>wpAny_pyIter_listiter st h
theorem wQ{P:ϓ}{K:Ϗ}(a j:ό):Turn P w K tg (W9 K a) [j] j (λi h=>h.IsTupleIter j a i)where
 mem:=by simp
 obj:=λi h st b g=>by
  have e:b=j:=by simpa using g
  subst e;let#[o,e,c,d]:=st;show#[o,e,λv z=>by rw[d]at z;cases z]
 keep:=λi h h' st k=>st.at λo e=>k j (by simp) o e
 item:=by
  intro X D G C M i f s N H E I n st F;subst D G C;let#[xs,x,q,J]:=F;let#[l,L,p,hz]:=I.tuple q;let#[u,S,U]:=L.get J;let#[r,t,R,y,A,B]:=n j (by simp);show wpAny_pyNext_tuple_item st (show s.heap.IsTuple a l.toArray from p) (x:=u) (by simpa using S) λh' m sb=>?_;have O:Inv X f N H {s with heap:=h'}:=I.turned (t':=s.toks) (λb o g e=>(sb.2 b g).trans e) r t y A B;let#[o,e,c,d]:=id m;show#[u,rfl,oF (s:={s with heap:=h'}) e c d (by decide) ⟨x,H,O,U,⟨rfl,λys T=>by rw[I.tuple_inj T q];show J⟩,m,λb g=>(n b g).1⟩]
 done:=by intro X D G C M i f s N H E I n st F;subst D G C;let#[xs,q,J]:=F;let#[l,L,p,hz]:=I.tuple q;let#[r,t,R,y,A,B]:=n j (by simp);have Y:=↑L;show wpAny_pyNext_tuple_end (I.ok.hd M) st (show s.heap.IsTuple a l.toArray from p) (by simp;rfl') λh' Q=>#[rfl,I.turned (t':=s.toks) (λb o g e=>Q b o g e) r t y A B]
 self:=λ_ _ _ _ _ st h=>wpAny_pyIter_tupleiter st h
theorem wR{P:ϓ}{K:Ϗ}(a:ό)(lo:Int)(n:Nat):Turn P w K tg (KY lo n) [a] a (λi h=>IsRangeIter h a (lo+(i:Nat)*1) ((n:Int)-(i:Nat)) 1)where
 mem:=by simp
 obj:=λi h st b d=>by
  have e:b=a:=by simpa using d
  subst e;show⟨_,st,λv z=>by
   have M:Data.fields _=Data.cell v:=z;cases M⟩
 keep:=λi h h' st k=>k a (by simp) _ st
 item:=by
  intro X u A r x i c s C H E I g st y;subst u A r;let#[j,l,G,m,p,q]:=g a (by simp);have W:=Walks.range (prog:=X.prog) (w:=X.w) (I.ok.hd x) a lo 1 n;show W.item i s _ _ y st λv h' B J f L=>?_;let#[t,rfl]:=J;have D:Inv X c C H {s with heap:=h',toks:=B}:=I.turned (λb o d e=>L b o (by simpa using d) e) j l m p q;show⟨_,rfl,oF (s:={s with heap:=h',toks:=B}) (n:="range_iterator") f rfl rfl (by decide) ⟨.int (lo+i),H,D,⟨t,?_⟩,⟨rfl,rfl⟩,f,λb d=>(g b d).1⟩⟩;rw[Int.mul_one]
 done:=by
  intro X u A r x i c s C H E I g st y;subst u A r;let#[j,l,G,m,p,q]:=g a (by simp);show wpAny_pyNext_range_end (I.ok.hd x) st (by have:n<=i:=y;rfl') λh' F=>#[rfl,I.turned (t':=s.toks) (λb o d e=>F b o d e) j l m p q]
 self:=λ_ _ _ _ _ st h=>wpAny_pyIter_rangeiter st h
section
variable{X:Cx}
def cB(K:Ϗ)(tl:TE):TI:=λσ H R=>tl σ H λx H1=>∃a,x=.ref a/\(∃xs,SqL K H1 a xs)/\R (Ln K a) H1
def kE(K:Ϗ)(tl:TE):TI:=λσ H R=>tl σ H λx H1=>∃a,x=.ref a/\(∃xs,SqT K H1 a xs)/\R (W9 K a) H1
theorem Lp(j:PE X l tl):PI X tg l (cB X.K tl):=by
 intro c s t H R I h;show bu (j c s t H _ I h) λv f ⟨x,g,d,r,n⟩=>?_;let#[a,e,#[xs,k],q]:=n;subst e;cases r;let#[m,u,p,hz]:=d.list k;show wpAny_pyIter_list p.isList ?_;show#[f.heap.objs.size,[f.heap.objs.size],_,_,g,rfl,d.kept (t':=f.toks) λb o e=>Jn _ e,Cr a _,#[_,Ê _ rfl,rfl,rfl],λb i=>?_,q];have e:b=f.heap.objs.size:=by simpa using i
 subst e;show d.fpOk (Ç _) (d.hok.fresh (Ç _))
theorem Qm(k:PE X l tl):PI X tg l (kE X.K tl):=by
 intro c s t H R I h;show bu (k c s t H _ I h) λv d ⟨x,i,f,r,n⟩=>?_;let#[a,e,#[xs,m],q]:=n;subst e;cases r;let#[g,u,p,hz]:=f.tuple m;show Ī (show d.heap.IsTuple a g.toArray from p) ?_;show#[d.heap.objs.size,[d.heap.objs.size],_,_,i,rfl,f.kept (t':=d.toks) λb o e=>Jn _ e,wQ a _,#[_,Ê _ rfl,rfl,rfl],λb j=>?_,q];have e:b=d.heap.objs.size:=by simpa using j
 subst e;show f.fpOk (Ç _) (f.hok.fresh (Ç _))
theorem Fg{R:It->Hp->Prop}{lo a:Int}{t u v:Tok}{d:Nat}(I:Inv X io σ H s)(h:-(2^62)<=lo)(i:lo<2^62)(j:-(2^62)<=a)(k:a<2^62)(q:R (KY lo (a-lo).toNat) H):wpAny (model X.prog X.w) X.A (pyIter (.ref s.heap.objs.size)) (PIE X io σ tg R) E {s with heap:=s.heap.push {cls:=.type "range",data:=.fields ([.int lo t,.int a u,.int 1 v].toArray)},toks:=d}:=by
 show wpAny_pyIter_range (IsRange.new ..) (small_one h i j k) ?_;have c:Inv X io σ H {s with heap:=s.heap.push {cls:=.type "range",data:=.fields ([.int lo t,.int a u,.int 1 v].toArray)},toks:=d}:=I.kept λb o e=>Jn _ e;show⟨(s.heap.push {cls:=.type "range",data:=.fields ([.int lo t,.int a u,.int 1 v].toArray)}).objs.size,[(s.heap.push {cls:=.type "range",data:=.fields ([.int lo t,.int a u,.int 1 v].toArray)}).objs.size],_,_,H,rfl,
  c.kept (t':=d) λb o e=>Jn _ e,wR _ lo (a-lo).toNat,?_,λb l=>?_,q⟩
 .have f:lo+((0:Nat):Int)*1=lo:=by simp
  have g:(((a-lo).toNat:Nat):Int)-((0:Nat):Int)=Builtin.Range.rangeSize lo a 1:=by rw[rangeSize_one];split<;>rfl'
  change IsRangeIter _ _ (lo+((0:Nat):Int)*1) ((((a-lo).toNat:Nat):Int)-((0:Nat):Int)) 1;rw[f,g];show Ê _ rfl
 .have e:b=(s.heap.push {cls:=.type "range",data:=.fields ([.int lo t,.int a u,.int 1 v].toArray)}).objs.size:=by simpa using l
  subst e;show c.fpOk (Ç _) (c.hok.fresh (Ç _))
def j4(ta:TA):TI:=λσ H R=>ta σ H λvs H1=>∃j:Int,vs=[.int j]/\-(2^62)<=j/\j<2^62/\R (KY 0 j.toNat) H1
theorem cI{a:Expr}{p:Pos}(i:Gl X "range")(k:X.mg "range"=none)(g:PA X [a] d)(l:starEach [a] X.env=[(false,eval a X.env)]:=by rfl):PI X tg (.Call (.Name "range" p) [a] [] pos) (j4 d):=by
 intro b s o H R I h;show Call_ (jb I i k boot_range (ğ (bu (g pos b s o H _ I h) λus v ⟨vs,u,f,n,c⟩=>?_) l rfl));let#[j,e,c,m,q]:=c;subst e;cases n with|cons r rr=>cases rr;let#[t,rfl]:=r;show call_range_1 (Fg f () () c m (by simpa using q))
def cV(wi:TI)(g:TG)(tb:TS):TS:=λD σ H=>wi σ H λJ H1=>∃W:Nat->Nat->St->Hp->Prop,(∃m,W 0 m σ H1)/\∀i m σ H,W i m σ H->(J.stop i H/\D.nx σ H)\/(J.go i H/\∃N:St->Hp->Prop,(∀σ' H',N σ' H'->∃m',m'<m/\W (i+1) m' σ' H')/\∀x H',J.yld i H x H'->g x σ H' λσ2 H2=>tb {D with nx:=N,ct:=N,bk:=D.nx} σ2 H2)
noncomputable def oG(fp:ϊ ό)(h:ϒ):ϸ:=fp.filterMap λb=>(h.get? b).map λo=>(b,o)
theorem iD(a:b∈fp)(e:h.get? b=!o):(b,o)∈oG fp h:=ñ.mpr #[b,a,by rw[e];rfl]
theorem Cu(d:p∈oG fp h):p.1∈fp/\h.get? p.1=!p.2:=by
 let#[b,c,e]:=ñ.mp d;cases q:h.get? b with
 |none=>rw[q]at e;cases e|some o=>rw[q]at e;have a:(b,o)=p:=Ù e;subst a;show#[c,q]
theorem Inv.pinned(I:Inv X io σ H s)(i:∀b∈fp,oE X io H b)(j:∀b∈fp,∃o,s.heap.get? b=!o/\∀v,o.data≠.cell v):Inv X (io++oG fp s.heap) σ H s:=I.pins_of λp k=>(Ã.mp k).elim (λz=>I.pin p (Ø _ z)) λz=>by let#[c,e]:=Cu z;let#[f,g,h,_]:=i p.1 c;let#[o,a,d]:=j p.1 c;rw[e]at a;cases a;show#[e,f,g,h,d]
theorem Inv.unpinned(I:Inv X (io++pl) σ H s):Inv X io σ H s:=I.pins_of λp a=>I.pin p (Ø _ (ß _ a))
theorem rY{g:TG}(G:PassesOwn (model X.prog X.w) X.A X.env X.xe)(hc:X.calm=true)(hi:PI X tg q wi)(hg:PG X tg g)(p:PSs X body tb)(hs:∀x,foldedSetIterable q X.env x=pure x:=by intro _;rfl):PS X (.For tg q body [] pos) (cV wi g tb):=by
 intro a s σ H D I h;show wpAny_For (bu (hi a s σ H _ I h) λv s1 h1=>bu h1 λac s2 h2=>?_) hs;let#[it,E,tn,J,H2,e,I2,T,U,f2,W,#[m0,w0],M]:=h2;subst e;have t:∀{z:Hp},(∀b∈E,z b=none)->∀b∈E,oE X a z b:=λhn b p=>#[hn b p,(f2 b p).2];show codeAny_forLoop_any (λn s'=>∃i σ' z,Inv X a σ' z s'/\tn i s'.heap/\(∀b∈E,z b=none)/\W i n σ' z) ?_ m0 #[0,σ,H2,I2,U,λb p=>(f2 b p).1,w0];rintro n s3 ⟨i,y,O,I3,L,F,w3⟩;rcases M i n y O w3 with⟨stop,qn⟩|⟨go,N,hN,step⟩;.show Ŏ G (bu (T.done X rfl rfl rfl hc i a s3 y O X.xe I3 (t F) L stop) λr s4 ⟨R,I4⟩=>?_);subst R;show ş #[y,O,I4,qn]
 .show Ŏ G (bu (T.item X rfl rfl rfl hc i a s3 y O X.xe I3 (t F) L go) λr s4 ⟨u,R,h4⟩=>?_);subst R;show Ŏ G (bu h4 λ_ s5 ⟨x,Z,I5,r5,y5,C,Q⟩=>?_);have P:=I5.pinned (t Q) (T.obj _ _ C);show Ŏ G (bu (hg _ s5 y Z x u _ P r5 (step x Z y5)) λ_ s6 ⟨Y,H6,I6,q6⟩=>?_);show Ŏ G (bu (p _ s6 Y H6 _ I6 q6) λf S B=>?_);have l:∀{c:St}{j:Hp},Inv X (a++oG E s5.heap) c j S->N c j->∃m,m<n/\∃i σ' z,Inv X a σ' z S/\tn i S.heap/\(∀b∈E,z b=none)/\W i m σ' z:=λ{c j} k K=>by let#[m',hm,w7]:=hN c j K;show#[m',hm,i+1,c,j,k.unpinned,T.keep _ _ _ C λb p o e=>(k.pin (b,o) (Ø _ (Ø _ (iD p e)))).1,λb p=>?_,w7];let#[o,e,d]:=T.obj _ _ C b p;show(k.pin (b,o) (Ø _ (Ø _ (iD p e)))).2.1
  cases f with
  |next=>let#[c,j,k,K]:=B;show l k K|cont=>let#[c,j,k,K]:=B;show l k K|brk=>let#[c,j,k,B]:=B;show#[c,j,k.unpinned,B]|ret v=>let#[x7,c,j,k,r7,B]:=B;show#[x7,c,j,k.unpinned,r7,B]
end
theorem Fi{K:Ϗ}{xs:ϊ V}{g:TG}{D:Ends}(b:Nat->St->Hp->Prop)(f:b 0 σ H)(k:∀i σ H,i<=↑xs->b i σ H->SqL K H a xs)(l:∀i x σ H,xs[i]?=!x->b i σ H->g x σ H λc H2=>tb {D with nx:=b (i+1),ct:=b (i+1),bk:=D.nx} c H2) (h:∀σ H,b ↑xs σ H->D.nx σ H):∃W:Nat->Nat->St->Hp->Prop,(∃m,W 0 m σ H)/\∀i m σ H,W i m σ H->((Ln K a).stop i H/\D.nx σ H)\/((Ln K a).go i H/\∃N:St->Hp->Prop,(∀σ' H',N σ' H'->∃m',m'<m/\W (i+1) m' σ' H')/\∀x H',(Ln K a).yld i H x H'->g x σ H' λc H2=>tb {D with nx:=N,ct:=N,bk:=D.nx} c H2):=by
 show#[λi m σ H=>m=↑xs-i/\i<=↑xs/\b i σ H,#[↑xs,by simp,á _,f],?_];rintro i m σ H ⟨rfl,j,p⟩;have q:=k i σ H j p;by_cases d:i<↑xs;.show .inr #[#[xs,xs[i],q,by simp[d]],b (i+1),λσ' H' n=>#[xs.length-(i+1),(),rfl,d,n],λx H' y=>?_];let#[e,y]:=y;subst e;show l i x σ _ (y xs q) p
 .have e:i=↑xs:=();subst e;show .inl #[#[xs,q,Ç _],h σ H p]
theorem Lq{K:Ϗ}{xs:ϊ V}{g:TG}{D:Ends}(b:Nat->St->Hp->Prop)(f:b 0 σ H)(k:∀i σ H,i<=↑xs->b i σ H->SqT K H a xs)(l:∀i x σ H,xs[i]?=!x->b i σ H->g x σ H λc H2=>tb {D with nx:=b (i+1),ct:=b (i+1),bk:=D.nx} c H2) (h:∀σ H,b ↑xs σ H->D.nx σ H):∃W:Nat->Nat->St->Hp->Prop,(∃m,W 0 m σ H)/\∀i m σ H,W i m σ H->((W9 K a).stop i H/\D.nx σ H)\/((W9 K a).go i H/\∃N:St->Hp->Prop,(∀σ' H',N σ' H'->∃m',m'<m/\W (i+1) m' σ' H')/\∀x H',(W9 K a).yld i H x H'->g x σ H' λc H2=>tb {D with nx:=N,ct:=N,bk:=D.nx} c H2):=by
 show#[λi m σ H=>m=↑xs-i/\i<=↑xs/\b i σ H,#[↑xs,by simp,á _,f],?_];rintro i m σ H ⟨rfl,j,p⟩;have q:=k i σ H j p;by_cases d:i<↑xs;.show .inr #[#[xs,xs[i],q,by simp[d]],b (i+1),λσ' H' n=>#[xs.length-(i+1),(),rfl,d,n],λx H' y=>?_];let#[e,y]:=y;subst e;show l i x σ _ (y xs q) p
 .have e:i=↑xs:=();subst e;show .inl #[#[xs,q,Ç _],h σ H p]
theorem Cv{lo:Int}{g:TG}{D:Ends}(a:Nat->St->Hp->Prop)(d:a 0 σ H)(h:∀i σ H,i<n->a i σ H->g (.int (lo+i)) σ H λc H2=>tb {D with nx:=a (i+1),ct:=a (i+1),bk:=D.nx} c H2) (f:∀σ H,a n σ H->D.nx σ H):∃W:Nat->Nat->St->Hp->Prop,(∃m,W 0 m σ H)/\∀i m σ H,W i m σ H->((KY lo n).stop i H/\D.nx σ H)\/((KY lo n).go i H/\∃N:St->Hp->Prop,(∀σ' H',N σ' H'->∃m',m'<m/\W (i+1) m' σ' H')/\∀x H',(KY lo n).yld i H x H'->g x σ H' λc H2=>tb {D with nx:=N,ct:=N,bk:=D.nx} c H2):=by
 show#[λi m σ H=>m=n-i/\i<=n/\a i σ H,#[n,by simp,á _,d],?_];rintro i m σ H ⟨rfl,k,p⟩;by_cases b:i<n;.show .inr #[b,a (i+1),λσ' H' j=>#[n-(i+1),(),rfl,b,j],λx H' y=>?_];let#[e,y]:=y;subst e y;show h i σ _ b p
 .have e:i=n:=();subst e;show .inl #[Nat.le_refl _,f σ H p]
theorem uJ{c:TT}(a:St->Hp->Prop)(e:St->Hp->Nat)(g:a σ H)(h:∀σ H,a σ H->c σ H λb H1=>if b=true then tb {D with nx:=λσ' H'=>a σ' H'/\e σ' H'<e σ H,ct:=λσ' H'=>a σ' H'/\e σ' H'<e σ H,bk:=D.nx} σ H1 else D.nx σ H1)(d:∀σ H Q f,(∀b H1,Q b H1->f b H1)->c σ H Q->c σ H f):fX c tb D σ H:=by
 show#[λm σ H=>m=e σ H/\a σ H,#[_,rfl,g],?_];rintro m σ H ⟨rfl,p⟩;show d σ H _ _ (λb H1 q=>?_) (h σ H p);cases b with
 |true=>show#[_,λσ' H' ⟨i,l⟩=>#[_,l,rfl,i],q]|false=>show q
abbrev R2:=V->V->Hp->VK->Prop
variable{r r':R2}
def gA(X:Cx)(f:ϋ->ϋ->Sem ϋ)(r:R2):Prop:=∀(io:ϸ)(s:ώ)(σ:St)(H:Hp)(x y:V)(v u:ϋ)(Q:VK),Inv X io σ H s->RelV x v->RelV y u->r x y H Q->wpAny (model X.prog X.w) X.A (f v u) (EP X io σ Q) X.xe s
def ZC(X:Cx)(f:ϋ->Sem ϋ)(r:V->Hp->VK->Prop):Prop:=∀(io:ϸ)(s:ώ)(σ:St)(H:Hp)(x:V)(v:ϋ)(Q:VK),Inv X io σ H s->RelV x v->r x H Q->wpAny (model X.prog X.w) X.A (f v) (EP X io σ Q) X.xe s
def bC(X:Cx)(f:ϋ)(r:ϊ V->Hp->VK->Prop):Prop:=∀(io:ϸ)(s:ώ)(σ:St)(H:Hp)(xs:ϊ V)(us:ϊ ϋ)(Q:VK),Inv X io σ H s->Vals xs us->r xs H Q->wpAny (model X.prog X.w) X.A (call f us) (EP X io σ Q) X.xe s
def ZD(X:Cx)(r:V->Hp->(ϑ->Hp->Prop)->Prop):Prop:=∀(io:ϸ)(s:ώ)(σ:St)(H:Hp)(x:V)(v:ϋ)(Q:ϑ->Hp->Prop),Inv X io σ H s->RelV x v->r x H Q->wpAny (model X.prog X.w) X.A (truthy v) (TP X io σ Q) X.xe s
def aL(r:R2)(ta tb:TE):TE:=λσ H Q=>ta σ H λx H1=>tb σ H1 λy H2=>r x y H2 Q
def Lr(r:V->Hp->VK->Prop)(ta:TE):TE:=λσ H Q=>ta σ H λx H1=>r x H1 Q
def rI(C:Int->Int->Prop)(g:Int->Int->V):R2:=λx y H Q=>∃i j,x=.int i/\y=.int j/\C i j/\Q (g i j) H
def uK(g:Int->Int->V):R2:=λx y H Q=>∃i j,x=.int i/\y=.int j/\Q (g i j) H
def rU(g:Int->V):V->Hp->VK->Prop:=λx H Q=>∃i,x=.int i/\Q (g i) H
section
variable{X:Cx}{a b c:Expr}{ta tb tc:TE}{pos:Pos}
theorem Qn(g:PE X a ta)(i:PE X b tb){s:ώ}(I:Inv X io σ H s)(h:ta σ H λx H1=>tb σ H1 λy H2=>R x y H2)(j:∀v u c x y H2,Inv X io σ H2 c->RelV x v->RelV y u->R x y H2->wpAny (model X.prog X.w) X.A (f v u) Q X.xe c):wpAny (model X.prog X.w) X.A (eval a X.env) (λv s₁=>wpAny (model X.prog X.w) X.A (eval b X.env) (λu s₂=>wpAny (model X.prog X.w) X.A (f v u) Q X.xe s₂) X.xe s₁) X.xe s:=by
 show bu (g io s σ H _ I h) λv o ⟨x,H1,d,m,k⟩=>?_;show bu (i io o σ H1 _ d k) λu c ⟨y,H2,e,n,l⟩=>?_;show j v u c x y H2 e m n l
theorem aF{op:Operator}(i:gA X (binaryOp op) r)(f:PE X a ta)(g:PE X b tb):PE X (.BinOp a op b pos) (aL r ta tb):=by intro c s m H Q I h;show wpAny_BinOp (Qn f g I h λv u l x y d e j k q=>i c l m d x y v u Q e j k q)
theorem oH{op:UnaryOp}{r:V->Hp->VK->Prop}(g:ZC X (unaryOp op) r)(f:PE X a ta):PE X (.UnaryOp op a pos) (Lr r ta):=by intro b s c H Q I h;show UnaryOp_ (bu (f b s c H _ I h) λv k ⟨x,d,e,j,i⟩=>g b k c d x v Q e j i)
theorem Wr (a:∀(i j:Int)(t u:Tok)(s:ώ)(Q:϶)(E:϶),C i j->Q (.int (g i j) s.toks) {s with toks:=s.toks+1}->wpAny (model X.prog X.w) X.A (f (.int i t) (.int j u)) Q E s):gA X f (rI C λi j=>.int (g i j)):=by intro b s k H x y v u Q I d e h;let#[i,j,rfl,rfl,c,q]:=h;let#[t,rfl]:=d;let#[t',rfl]:=e;show a i j t t' s _ _ c #[.int (g i j),H,I.tok _,#[_,rfl],q]
theorem Ls (a:∀(i j:Int)(t u:Tok)(s:ώ)(Q:϶)(E:϶),Q (.int (g i j) s.toks) {s with toks:=s.toks+1}->wpAny (model X.prog X.w) X.A (f (.int i t) (.int j u)) Q E s):gA X f (uK λi j=>.int (g i j)):=by intro b s e H x y v u Q I c d h;let#[i,j,rfl,rfl,q]:=h;let#[t,rfl]:=c;let#[t',rfl]:=d;show a i j t t' s _ _ #[.int (g i j),H,I.tok _,#[_,rfl],q]
theorem Qo{g:Int->Int->ϑ}(a:∀(i j:Int)(t u:Tok)(s:ώ)(Q:϶)(E:϶),Q (.bool (g i j)) s->wpAny (model X.prog X.w) X.A (f (.int i t) (.int j u)) Q E s):gA X f (uK λi j=>.bl (g i j)):=by intro b s e H x y v u Q I c d h;let#[i,j,rfl,rfl,q]:=h;let#[t,rfl]:=c;let#[t',rfl]:=d;show a i j t t' s _ _ #[.bl (g i j),H,I,rfl,q]
def Ws(i j:Int):Prop:=0<j/\j<1073741824
def Wt(i j:Int):Prop:=0<=j/\j<=1000000/\i.natAbs<2^64
def CMul(i j:Int):Prop:=(-(2^64)<i/\i<2^64)\/(-(2^64)<j/\j<2^64)
theorem CMul.ok{i j:Int}(h:CMul i j):IntMulOk i j:=by
 rcases h with⟨h1,h2⟩|⟨h1,h2⟩;.show .of_left (intBits_le_64 h1 h2)
 .show .of_right (intBits_le_64 h1 h2)
theorem wU(k:Nat):(0:Int)<=2^k:=by rw[two_pow_cast];show Int.natCast_nonneg _
theorem bI:gA X (binaryOp .Add) (uK λi j=>.int (i+j)):=Ls λ_ _ _ _ _ _ _ q=>add_int q
theorem lV:gA X (binaryOp .Sub) (uK λi j=>.int (i-j)):=Ls λ_ _ _ _ _ _ _ q=>sub_int q
theorem dY:gA X (binaryOp .Mult) (rI CMul λi j=>.int (i*j)):=Wr λ_ _ _ _ _ _ _ a q=>mul_int q a.ok
theorem bT:gA X (binaryOp .FloorDiv) (rI Ws λi j=>.int (i/j)):=Wr λi j _ _ _ _ _ a q=>by have b:(0:Int)<j:=a.1;have c:j<1073741824:=a.2;show floordiv_int () (by rw[Int.fdiv_eq_ediv_of_nonneg i ()];show q) (.inl (PyProof.noPylong_small ()))
theorem bh:gA X (binaryOp .Mod) (rI (λ_ j=>0<j) λi j=>.int (i%j)):=Wr λi j _ _ _ _ _ a q=>by have b:(0:Int)<j:=a;show mod_int' () (by rw[Int.fmod_eq_emod_of_nonneg i ()];show q)
theorem Fj:gA X (binaryOp .LShift) (rI Wt λi j=>.int (i*2^j.toNat)):=Wr λ_ _ _ _ _ _ _ a q=>lshift_int_small a.1 a.2.1 a.2.2 q
theorem Qp:gA X (binaryOp .RShift) (rI (λ_ j=>0<=j) λi j=>.int (i/2^j.toNat)):=Wr λi j _ _ _ _ _ a q=>rshift_int a (by rw[Int.fdiv_eq_ediv_of_nonneg i (wU _)];show q)
theorem Qq:gA X (binaryOp .BitAnd) (uK λi j=>.int (Builtin.bitAnd i j)):=Ls λ_ _ _ _ _ _ _ q=>and_int q
theorem Qs:gA X (binaryOp .BitXor) (uK λi j=>.int (Builtin.bitXor i j)):=Ls λ_ _ _ _ _ _ _ q=>xor_int q
theorem unI{f:ϋ->Sem ϋ}{g:Int->Int}(a:∀(i:Int)(t:Tok)(s:ώ)(Q:϶)(E:϶),Q (.int (g i) s.toks) {s with toks:=s.toks+1}->wpAny (model X.prog X.w) X.A (f (.int i t)) Q E s):ZC X f (rU λi=>.int (g i)):=by intro b s d H x v Q I c h;let#[i,rfl,q]:=h;let#[t,rfl]:=c;show a i t s _ _ #[.int (g i),H,I.tok _,#[_,rfl],q]
theorem jR:ZC X (unaryOp .USub) (rU λi=>.int (-i)):=unI λ_ _ _ _ _ q=>neg_int q
end
noncomputable def Wu:V->V->ϑ
 |.non,.non=>true|.non,.int _=>true|.int _,.non=>true|.non,.bl _=>true|.bl _,.non=>true|.non,.str _=>true|.str _,.non=>true|.int _,.int _=>true|.bl _,.bl _=>true|.str _,.str _=>true|.byt _,.byt _=>true|.int _,.str _=>true|.str _,.int _=>true|.bl _,.str _=>true|.str _,.bl _=>true|_,_=>false
def rZ:R2:=λx y H Q=>Wu x y=true/\Q (.bl (decide (x=y))) H
def Cw:R2:=λx y H Q=>Wu x y=true/\Q (.bl (not (decide (x=y)))) H
theorem Aj{i j:Int}:decide (V.int i=V.int j)=(i==j):=by rw[Ŵ];simp
theorem Fl{i j:ϑ}:decide (V.bl i=V.bl j)=(i==j):=by rw[Ŵ];simp
theorem Ak{i j:ϐ}:decide (V.str i=V.str j)=(i==j):=by rw[Ŵ];simp
theorem Al{i j:ϔ UInt8}:decide (V.byt i=V.byt j)=(i.toList==j.toList):=by
 rw[Ŵ];cases i;cases j;simp
section
variable{X:Cx}{a b c:Expr}{ta tb tc:TE}{pos:Pos}
theorem aZ{Q:VK}{k a:ϑ}(I:Inv X io σ H s)(q:Q (.bl k) H)(e:k=a):EP X io σ Q (.bool a) s:=by subst e;show#[.bl k,H,I,rfl,q]
theorem fJ:gA X (compareOp .Eq) rZ:=by
 intro d s e H x y v u Q I c a h;let#[b,q]:=h;cases x with
 |non=>
  cases c;cases y with
  |non=>cases a;show PySem.EqNone.eq_none_none (aZ I q (by simp))|bl j=>cases a;show PySem.EqNone.eq_none_bool (aZ I q (by simp))|int j=>let#[t',rfl]:=a;show PySem.EqNone.eq_none_int (aZ I q (by simp))|str j=>let#[t',rfl]:=a;show PySem.EqNone.eq_none_str (aZ I q (by simp))|_=>show absurd (show false=true from b) Î
 |bl i=>
  cases c;cases y with
  |non=>cases a;show PySem.EqNone.eq_bool_none (aZ I q (by simp))|bl j=>cases a;show eq_bool (aZ I q Fl)|str j=>let#[t',rfl]:=a;show PySem.EqMixed.eq_bool_str (aZ I q (by simp))|_=>show absurd (show false=true from b) Î
 |int i=>
  let#[t,rfl]:=c;cases y with
  |non=>cases a;show PySem.EqNone.eq_int_none (aZ I q (by simp))|int j=>let#[t',rfl]:=a;show eq_int (aZ I q Aj)|str j=>let#[t',rfl]:=a;show PySem.EqMixed.eq_int_str (aZ I q (by simp))|_=>show absurd (show false=true from b) Î
 |str i=>
  let#[t,rfl]:=c;cases y with
  |non=>cases a;show PySem.EqNone.eq_str_none (aZ I q (by simp))|bl j=>cases a;show PySem.EqMixed.eq_str_bool (aZ I q (by simp))|int j=>let#[t',rfl]:=a;show PySem.EqMixed.eq_str_int (aZ I q (by simp))|str j=>let#[t',rfl]:=a;show eq_str (aZ I q Ak)|_=>show absurd (show false=true from b) Î
 |byt i=>
  let#[t,rfl]:=c;cases y with
  |byt j=>let#[t',rfl]:=a;show PySem.W.eq_bytes (aZ I q Al)|_=>show absurd (show false=true from b) Î
 |_=>cases y<;>show absurd (show false=true from b) Î
theorem jK:gA X (compareOp .NotEq) Cw:=by
 intro d s e H x y v u Q I c a h;let#[b,q]:=h;cases x with
 |non=>
  cases c;cases y with
  |non=>cases a;show PySem.EqNone.ne_none_none (aZ I q (by simp))|bl j=>cases a;show PySem.EqNone.ne_none_bool (aZ I q (by simp))|int j=>let#[t',rfl]:=a;show PySem.EqNone.ne_none_int (aZ I q (by simp))|str j=>let#[t',rfl]:=a;show PySem.EqNone.ne_none_str (aZ I q (by simp))|_=>show absurd (show false=true from b) Î
 |bl i=>
  cases c;cases y with
  |non=>cases a;show PySem.EqNone.ne_bool_none (aZ I q (by simp))|bl j=>cases a;show ne_bool (aZ I q (Ô not Fl))|str j=>let#[t',rfl]:=a;show PySem.EqMixed.ne_bool_str (aZ I q (by simp))|_=>show absurd (show false=true from b) Î
 |int i=>
  let#[t,rfl]:=c;cases y with
  |non=>cases a;show PySem.EqNone.ne_int_none (aZ I q (by simp))|int j=>let#[t',rfl]:=a;show ne_int (aZ I q (Ô not Aj))|str j=>let#[t',rfl]:=a;show PySem.EqMixed.ne_int_str (aZ I q (by simp))|_=>show absurd (show false=true from b) Î
 |str i=>
  let#[t,rfl]:=c;cases y with
  |non=>cases a;show PySem.EqNone.ne_str_none (aZ I q (by simp))|bl j=>cases a;show PySem.EqMixed.ne_str_bool (aZ I q (by simp))|int j=>let#[t',rfl]:=a;show PySem.EqMixed.ne_str_int (aZ I q (by simp))|str j=>let#[t',rfl]:=a;show ne_str (aZ I q (Ô not Ak))|_=>show absurd (show false=true from b) Î
 |byt i=>
  let#[t,rfl]:=c;cases y with
  |byt j=>let#[t',rfl]:=a;show PySem.W.ne_bytes (aZ I q (Ô not Al))|_=>show absurd (show false=true from b) Î
 |_=>cases y<;>show absurd (show false=true from b) Î
theorem uL:gA X (compareOp .Lt) (uK λi j=>.bl (decide (i<j))):=Qo λ_ _ _ _ _ _ _ q=>lt_int q
theorem Am:gA X (compareOp .LtE) (uK λi j=>.bl (decide (i<=j))):=Qo λ_ _ _ _ _ _ _ q=>le_int q
theorem kI:gA X (compareOp .Gt) (uK λi j=>.bl (decide (j<i))):=Qo λ_ _ _ _ _ _ _ q=>gt_int q
theorem dZ:gA X (compareOp .Is) (λx y H Q=>y=.non/\Q (.bl (decide (x=.non))) H):=by
 intro a s d H x y v u Q I b c h;let#[rfl,q]:=h;cases c;show is_none_gen (aZ I q ?_);cases x<;>first
  |(cases b;rfl)|(let#[t,rfl]:=b;rfl)
theorem An:gA X (compareOp .IsNot) (λx y H Q=>y=.non/\Q (.bl (not (decide (x=.non)))) H):=by
 intro a s d H x y v u Q I b c h;let#[rfl,q]:=h;cases c;show isnot_none_gen (aZ I q ?_);cases x<;>first
  |(cases b;rfl)|(let#[t,rfl]:=b;rfl)
theorem aH(b:Expr)(h:op≠.In:=by decide)(d:op≠.NotIn:=by decide):behindInMarks op b=false:=by
 have a:(op==CmpOp.In)=false:=by cases op<;>first|rfl|show absurd rfl h
 have c:(op==CmpOp.NotIn)=false:=by cases op<;>first|rfl|show absurd rfl d
 cases b<;>simp[behindInMarks,a,c]
theorem cO(j:gA X (compareOp op) r)(f:PE X a ta)(g:PE X b tb)(i:behindInMarks op b=false):PE X (.Compare a [op] [b] pos) (aL r ta tb):=by intro c s n H Q I h;show wpAny_Compare1 (Qn f g I h λv u m x y d e k l q=>j c m n d x y v u Q e k l q) i
def aP(t:TE):TT:=λσ H Q=>t σ H λx H'=>∃k,x=.bl k/\Q k H'
theorem aG(t:gA X (compareOp op) r)(o:PE X a ta)(p:PE X b tb)(q:behindInMarks op b=false):PT X (.Compare a [op] [b] pos) (aP (aL r ta tb)):=by
 intro d s f H Q I h;show wpAny_isTrue_Compare1 (bu (o d s f H _ I h) λv F ⟨x,g,l,C,w⟩=>bu (p d F f g _ l w) λu G ⟨y,i,m,D,A⟩=>bu (t d G f i x y v u _ m C D A) λc J ⟨z,j,n,E,k,e,B⟩=>?_) q;subst e;cases E;show ċ #[j,n,B]
def lW(r r':R2)(ta tb tc:TE):TE:=λσ H Q=>ta σ H λx H1=>tb σ H1 λy H2=>r x y H2 λz H3=>∃k,z=.bl k/\(if k=true then tc σ H3 λw' H4=>r' y w' H4 Q else Q (.bl false) H3)
theorem Fp(F:gA X (compareOp op) r)(i:gA X (compareOp op') r')(B:PE X a ta)(C:PE X b tb)(D:PE X c tc)(E:lastMarks [op,op'] [b,c]=false:=by with_unfolding_all rfl):PE X (.Compare a [op,op'] [b,c] pos) (lW r r' ta tb tc):=by
 intro f s g H Q I h;show Compare_chain (bu (B f s g H _ I h) λv O ⟨x,o,t,L,G⟩=>chain_link (bu (C f O g o _ t G) λu P ⟨y,p,w,n,J⟩=>bu (F f P g p x y v u _ w L n J) λd R ⟨z,j,l,M,k,e,m⟩=>?_)) E;subst e;cases M;show ċ ?_;cases k with
 |false=>show ite_ff #[.bl false,j,l,rfl,m]|true=>show ite_tt (chain_last (bu (D f R g j _ l m) λT S ⟨U,q,A,N,K⟩=>i f S g q y U u T Q A n N K))
theorem uM(L:gA X (compareOp op) r)(i:gA X (compareOp op') r')(F:PE X a ta)(G:PE X b tb)(J:PE X c tc)(K:lastMarks [op,op'] [b,c]=false:=by with_unfolding_all rfl):PT X (.Compare a [op,op'] [b,c] pos) (aP (lW r r' ta tb tc)):=by
 intro f s g H Q I h;show isTrue_chain (bu (F f s g H _ I h) λv Y ⟨x,o,w,S,N⟩=>test_link (bu (G f Y g o _ w N) λu Z ⟨y,p,A,n,O⟩=>bu (L f Z g p x y v u _ A S n O) λd s3 ⟨z,j,l,T,k,e,m⟩=>?_)) K;subst e;cases T;show ċ ?_;cases k with
 |false=>
  let#[k',D,M]:=m;cases D;show ite_ff #[j,l,M]|true=>
  show ite_tt (test_last (bu (J f s3 g j _ l m) λw' s4 ⟨z',q,B,U,P⟩=>bu (i f s4 g q y z' u w' _ B n U P) λd' s5 ⟨z2,t,C,W,k2,E,R⟩=>?_));subst E;cases W;show ċ #[t,C,R]
def Ft(K:Ϗ)(x:V)(H:Hp)(k:ϑ):Prop:=
 match x with
 |.non=>k=false|.bl b=>k=b|.int i=>k=(i !=0)
 |.str y=>↑y<=sizeLine/\k=((↑y:Int)!=0)|.byt y=>y.size<=sizeLine/\k=((y.size:Int)!=0)
 |.ref p=>(∃xs,SqL K H p xs/\k=not xs.isEmpty)\/(∃xs,SqT K H p xs/\k=not xs.isEmpty)\/∃kvs,H p=!(.dK kvs)/\k=not kvs.isEmpty|_=>False
theorem wV{a:Type}{kvs:ϊ (a×V)}{vs:ϊ (a×ϋ)}(r:KV kvs vs):(not vs.isEmpty)=not kvs.isEmpty:=by cases r<;>rfl
theorem oJ(r:Vals xs its):(not its.toArray.isEmpty)=not xs.isEmpty:=by cases r<;>simp
theorem lX:(sizeLine:Nat)<2^63:=by rw[ø];decide
theorem Qt:ZD X (λx H Q=>∃k,Ft X.K x H k/\Q k H):=by
 intro g s u H x v Q I d h;let#[k,e,q]:=h;have n:=lX;have o:sizeLine=16777216:=ø;cases x with
 |non=>cases d;have a:k=false:=e;subst a;show truthy_none #[H,I,q]|bl b=>cases d;have a:k=b:=e;subst a;show ċ #[H,I,q]|int i=>let#[t,rfl]:=d;have a:k=(i !=0):=e;subst a;show PySem.P.truthy_int #[H,I,q]|str y=>let#[t,rfl]:=d;let#[l,a]:↑y<=sizeLine/\k=((↑y:Int)!=0):=e;subst a;show PySem.P.truthy_str () #[H,I.tok _,q]|byt y=>let#[t,rfl]:=d;let#[l,a]:y.size<=sizeLine/\k=((y.size:Int)!=0):=e;subst a;show PySem.W.truthy_bytes () #[H,I.tok _,q]|ref p=>
  cases d;have a:(∃xs,SqL X.K H p xs/\k=not xs.isEmpty)\/(∃xs,SqT X.K H p xs/\k=not xs.isEmpty)\/∃kvs,H p=!(.dK kvs)/\k=not kvs.isEmpty:=e;rcases a with⟨xs,hx,a⟩|⟨xs,hx,a⟩|⟨kvs,hx,a⟩;.subst a;let#[f,r,pl,hz]:=I.list hx;have c:=↑r;show wpAny_truthy_list pl.isList (by simp only[Í];rfl') #[H,I.tok _,by rw[oJ r];show q]
  .subst a;let#[f,r,pl,hz]:=I.tuple hx;have c:=↑r;show truthy_tuple pl (by simp only[Í];rfl') #[H,I.tok _,by rw[oJ r];show q]
  .subst a;let#[hz,j,vs,r,m]:↑kvs<=sizeLine/\(p==sysModules)=false/\∃vs,KV kvs vs/\s.heap.DictOf (b8 X.prog X.w) p vs:=I.hok p _ hx;have c:↑kvs=↑vs:=ď r;show wpAny_truthy_dict j m () #[H,I.tok _,by rw[wV r];show q]|_=>show(show False from e).elim
theorem Fv(f:PE X a ta)(g:∀b,isTrue a X.env b=(do let v<-b;standAt a.pos;holding [v] (truthy v))):PT X a (λσ H Q=>ta σ H λx H'=>∃k,Ft X.K x H' k/\Q k H'):=by intro c s σ H Q I h;show isTrue_plain (bu (f c s σ H _ I h) λv l ⟨x,d,e,j,i⟩=>Qt c l σ d x v Q e j i) (g _)
theorem fZ:gA X (binaryOp .Add) (λx y H Q=>∃i j,x=.str i/\y=.str j/\↑i+↑j<=sizeLine/\Q (.str (i++j)) H):=by intro a s e H x y v u Q I b c h;let#[i,j,rfl,rfl,hz,q]:=h;let#[t,rfl]:=b;let#[t',rfl]:=c;show add_str (λt' d=>#[.str (i++j),H,I.tok _,#[_,rfl],q]) hz
theorem vals1{x:V}(r:Vals [x] us):∃u,us=[u]/\RelV x u:=by cases r with|cons r1 r2=>cases r2;show#[_,rfl,r1]
theorem vals2{x:V}(r:Vals [x,y] us):∃u a,us=[u,a]/\RelV x u/\RelV y a:=by cases r with|cons r1 r2=>cases r2 with|cons r3 r4=>cases r4;show#[_,_,rfl,r1,r3]
theorem Cy(c:X.calm=true):bC X (.builtin "min") (λxs H Q=>∃i j,xs=[.int i,.int j]/\Q (.int (if j<i then j else i)) H):=by
 intro b s f H xs us Q I r h;let#[i,j,rfl,q]:=h;let#[u,e,rfl,#[t,rfl],#[t',rfl]]:=vals2 r;show min_two_ints (I.ok.hd c) λh' d k=>#[_,H,I.kept k,?_,q];by_cases a:j<i;.rw [if_pos a,if_pos a];show#[_,rfl]
 .rw [if_neg a,if_neg a];show#[_,rfl]
theorem Fw:bC X (.builtin "ord") (λxs H Q=>∃x,xs=[.str x]/\↑x=1/\Q (.int (x.cps.getD 0 0:Nat)) H):=by intro a s b H xs us Q I r h;let#[x,rfl,hz,q]:=h;let#[u,rfl,t,rfl]:=vals1 r;show ord_of_one hz #[.int _,H,I.tok _,#[_,rfl],q]
def Wv(K:Ϗ)(x:V)(H:Hp)(n:Nat):Prop:=
 match x with
 |.str y=>↑y<=sizeLine/\n=↑y|.byt y=>y.size<=sizeLine/\n=y.size|.ref p=>(∃xs,SqL K H p xs/\n=↑xs)\/∃xs,SqT K H p xs/\n=↑xs|_=>False
theorem Fx:bC X (.builtin "len") (λxs H Q=>∃x n,xs=[x]/\Wv X.K x H n/\Q (.int n) H):=by
 intro g s l H xs us Q I r h;let#[x,n,rfl,e,q]:=h;let#[u,rfl,f]:=vals1 r;have j:=lX;have k:sizeLine=16777216:=ø;cases x with
 |str y=>let#[t,rfl]:=f;let#[i,b]:↑y<=sizeLine/\n=↑y:=e;subst b;show len_str () #[.int _,H,I.tok _,#[_,rfl],q]|byt y=>
  let#[t,rfl]:=f;let#[i,b]:y.size<=sizeLine/\n=y.size:=e;subst b;show PySem.W.len_bytes () #[.int _,H,I.tok _,#[_,rfl],q]|ref p=>
  cases f;have b:(∃xs,SqL X.K H p xs/\n=↑xs)\/∃xs,SqT X.K H p xs/\n=↑xs:=e;rcases b with⟨xs,hx,b⟩|⟨xs,hx,b⟩;.subst b;let#[c,d,pl,hz]:=I.list hx;have a:=↑d;show Calls.call_len_list pl.isList (by simp only[Í];rfl') #[.int ↑xs,H,I.tok _,#[_,by simp only[Í];rw[a]],q]
  .subst b;let#[c,d,pl,hz]:=I.tuple hx;have a:=↑d;show len_tuple pl (by simp only[Í];rfl') #[.int ↑xs,H,I.tok _,#[_,by simp only[Í];rw[a]],q]|_=>show(show False from e).elim
end
structure ObjM(h:ϒ)(x dx C:ό)(mA:ϐ->ύ ϋ):Prop where
 obj:h.get? x=!(PySem.W.instObj C dx)ns:h.Ns1 dx mA
 ne:dx≠x
theorem Cz{h:ϒ}(n:h.Ns1 dx mA):∃od,h.get? dx=!od/\∀name,PySem.W.lookIn name od=!(mA name):=by
 let#[o,es,ep,i,d,f,_,g]:=n;show#[o,i,λname=>?_];have e:=g name;unfold nsFind findBy at e;rw[<-Array.find?_toList]at e;unfold PySem.W.lookIn;rw[d];dsimp only;split;.rename_i y q;rw[q]at e;show Ô some e
 .rename_i q;rw[q]at e;have a:es.toList.any (·.refKey)=false:=by
   rw[List.any_eq_false];intro y j;let#[z,t,b]:=f y (Array.mem_toList_iff.mp j);simp[DictEntry.refKey,b]
  have c:¬es.toList.any (·.refKey)=true:=by rw[a];show Î
  rw[if_neg c];show Ô some e
theorem ObjM.look{x C:ό}(I:ObjM h x dx C mA):∃od,PySem.W.InstAt h x (PySem.W.instObj C dx) C !od/\∀name,PySem.W.lookIn name od=!(mA name):=
 let⟨od,ho,hl⟩:=Cz I.ns
 #[od,#[I.obj,rfl,rfl,ho],hl]
theorem RelO.some_of(r:RelO (!v) o):∃u,o=!u/\RelV v u:=by cases o with
 |none=>show(show False from r).elim|some u=>show#[u,rfl,r]
section
variable{P:ϓ}{w:ϕ}{H:Hp}{h:ϒ}{a C dx:ό}{fs:ϊ (ϐ×V)}
theorem Lx(b:HOk P w H h)(e:H a=!(.ins C dx fs)):∃mA,ObjM h a dx C mA/\(∀f,RelO (fs.lookup f) (mA f))/\PySem.Within mA (fs.map (·.1))/\↑fs<=1000/\H dx=!(.own a):=by let#[d,z,ne,ob,mA,n,r,q]:=(show ObjOk P w H h a (.ins C dx fs)from b a _ e);show#[mA,#[ob,n,ne],r,q,z,d]
end
structure Cls(K:Ϗ)(C:ό):Prop where
 pg:PySem.W.plainGet K C Str.empty=true
 hd:PySem.W.hasDictIn K C=true
 po:PySem.W.plainOver K C=true
 sa:PySem.W.findIn K (.ref C) "__setattr__"=!(!(.builtin "object.__setattr__"))
theorem Cls.get{K:Ϗ}{C:ό}(c:Cls K C)(f:ϐ):PySem.W.plainGet K C f=true:=c.pg
def Qu(K:Ϗ)(C:ό)(f:ϐ):Prop:=PySem.W.findIn K (.ref C) f=!none
def a0d(K:Ϗ)(ta:TE)(f:ϐ):TE:=λσ H Q=>ta σ H λx H1=>∃a C dx fs v,x=.ref a/\H1 a=!(.ins C dx fs)/\Cls K C/\Qu K C f/\fs.lookup f=!v/\Q v H1
section
variable{X:Cx}{io:ϸ}{σ:St}{H:Hp}{s:ώ}{A:ϖ}{E:϶}{Q:϶}{c:ϋ}{b:ϑ}
inductive TyOf(K:Ϗ)(H:Hp):V->ϋ->Prop where|non:TyOf K H .non (.type "NoneType")|bl (x:ϑ):TyOf K H (.bl x) (.type "bool")|int (i:Int):TyOf K H (.int i) (.type "int")|str (x:ϐ):TyOf K H (.str x) (.type "str")|flt (x:UInt64):TyOf K H (.flt x) (.type "float")|lst {a:ό} {xs:ϊ V} (e:H a=!(.lst xs)):TyOf K H (.ref a) (.type "list")|frz {a:ό} {o:Obj} {xs:ϊ V} (e:H a=!(.frz o (.lst xs))):TyOf K H (.ref a) (.type "list")|tup {a:ό} {xs:ϊ V} (e:H a=!(.tup xs)):TyOf K H (.ref a) (.type "tuple")|dK {a:ό} {kvs:ϊ (Key×V)} (e:H a=!(.dK kvs)):TyOf K H (.ref a) (.type "dict")|dT {a:ό} {kvs:ϊ (ϊ Key×V)} (e:H a=!(.dT kvs)):TyOf K H (.ref a) (.type "dict")|ins {a C dx:ό} {fs:ϊ (ϐ×V)} (e:H a=!(.ins C dx fs)) (cl:Cls K C) (ha:PySem.W.findIn K (.ref C) "__class__"=!(!(.builtin "object.__class__")))(hn:PySem.W.specialIn K (.builtin "object.__class__") "__get__"=!(!(.builtin "getset_descriptor.__get__"))) (htk:PySem.W.takesIn K (.builtin "object.__class__")=!true)(hm:PySem.W.mroIn K C (.type "object")=!true):TyOf K H (.ref a) (.ref C)
theorem CG{x:V}{t:ϋ}(I:Inv X io σ H s)(d:RelV x u)(j:TyOf X.K H x t)(e:PySem.W.kitOne X.K t c=!b)(h:∀tk,Q (.bool b) {s with toks:=tk}):wpAny (model X.prog X.w) A (call (.builtin "isinstance") [u,c]) Q E s:=by cases j with
 |non=>cases(show u=Value.none from d);show Đ PySem.W.kitx_none I.kIn True.intro e (λz=>nomatch z) h|bl y=>cases(show u=Value.bool y from d);show Đ PySem.W.kitx_bool I.kIn True.intro e (λz=>nomatch z) h|int i=>let#[t,q]:=(show∃t,u=Value.int i t from d);cases q;show Đ PySem.W.kitx_int I.kIn True.intro e (λz=>nomatch z) h|str y=>let#[t,q]:=(show∃t,u=Value.str y t from d);cases q;show Đ PySem.W.kitx_str I.kIn True.intro e (λz=>nomatch z) h|flt y=>let#[t,q]:=(show∃t,u=Value.float y t from d);cases q;show Đ PySem.W.kitx_float I.kIn True.intro e (λz=>nomatch z) h|@lst a xs ea=>cases(show u=Value.ref a from d);let#[_,_,n,_,f]:=(show ObjOk X.prog X.w H s.heap a (.lst xs)from I.hok a _ ea);show Đ PySem.W.kitx_list I.kIn #[_,f,rfl] e (λz=>nomatch z) h|@frz a ob xs ea=>cases(show u=Value.ref a from d);let#[_,_,_,n,_,f]:=(show ObjOk X.prog X.w H s.heap a (.frz ob (.lst xs))from I.hok a _ ea);show Đ PySem.W.kitx_list I.kIn #[_,f,rfl] e (λz=>nomatch z) h|@tup a xs ea=>cases(show u=Value.ref a from d);let#[_,_,_,p]:=(show ObjOk X.prog X.w H s.heap a (.tup xs)from I.hok a _ ea);let#[o,f,g,_]:=p;show Đ PySem.W.kitx_tuple I.kIn #[o,f,g] e (λz=>nomatch z) h|@dK a kvs ea=>cases(show u=Value.ref a from d);let#[_,_,vs,_,p]:=(show ObjOk X.prog X.w H s.heap a (.dK kvs)from I.hok a _ ea);let#[o,es,ep,f,g,_]:=p;show Đ PySem.W.kitx_dict I.kIn #[o,f,g.1] e (λz=>nomatch z) h|@dT a kvs ea=>cases(show u=Value.ref a from d);let#[_,_,xs,_,o,es,ep,f,g,_]:=(show ObjOk X.prog X.w H s.heap a (.dT kvs)from I.hok a _ ea);show Đ PySem.W.kitx_dict I.kIn #[o,f,g.1] e (λz=>nomatch z) h|@ins a C dx fs ea cl ha hn htk hm=>cases(show u=Value.ref a from d);let#[k,O,_]:=Lx I.hok ea;let#[l,J,_]:=O.look;show Đ (PySem.W.kitx_own (cl.get _) cl.hd ha hn htk hm) I.kIn J e (λz=>nomatch z) h
end
structure Room(k:Nat)(A:ϖ):Prop where
 hd:A.handled=none
 dp:A.depth+3*k+5<recursionLimit
 un:A.units+16*k+200<cLine
theorem Room.mono(r:Room k A)(h:j<=k):Room j A:=#[r.hd,by have:=r.dp;rfl',by have:=r.un;rfl']
theorem Room.deeper(r:Room (k+1) A)(env:Env):Room k (A.deeper env):=#[r.hd,by have:=r.dp;change A.depth+1+3*k+5<_;rfl',by have:=r.un;change A.units+3+16*k+200<_;rfl']
theorem Room.depth(r:Room k A):A.depth<recursionLimit:=by have:=r.dp;rfl'
theorem Room.units(r:Room k A):A.units+64<cLine:=by have:=r.un;rfl'
def cY:TA:=λ_ H Q=>Q [] H
def bM(ta:TE)(tr:TA):TA:=λσ H Q=>ta σ H λx H1=>tr σ H1 λxs H2=>Q (x::xs) H2
section
variable{X:Cx}{e:Expr}{es:ϊ Expr}{te:TE}{t:TA}
theorem bO:PA X [] cY:=λ_ _ _ _ H Q I h=>Ő #[[],H,I,.nil,h]
theorem cU(i:PE X e te)(j:PA X es t)(k:starEach (e::es) X.env=(false,eval e X.env)::starEach es X.env:=by rfl):PA X (e::es) (bM te t):=by intro pos a s b H Q I h;rw[k];change wpAny _ _ (spliced ((false,eval e X.env)::backTo pos (starEach es X.env))) _ _ s;show ī (bu (i a s b H _ I h) λu p ⟨x,c,f,n,l⟩=>?_);show bu (j pos a p b c _ f l) λus q ⟨xs,d,g,o,m⟩=>#[x::xs,d,g,.cons n o,m]
def bY(t:TA):TE:=λσ H Q=>t σ H λxs H1=>↑xs<=sizeLine/\∀p,H1 p=none->Q (.ref p) (upd H1 p (.tup xs))
def cW(t:TA):TE:=λσ H Q=>t σ H λxs H1=>↑xs<=sizeLine/\∀p,H1 p=none->Q (.ref p) (upd H1 p (.lst xs))
theorem aV{x1}(h:PA X es t):PE X (.Tuple es x1 pos) (bY t):=by intro a s j H Q I i;show wpAny_Tuple_spliced (bu (h pos a s j H _ I i) λus c ⟨xs,d,f,r,z,q⟩=>#[by rw[<-↑r];show z,?_]);have g:d c.heap.objs.size=none:=f.hok.fresh (Ç _);show#[.ref c.heap.objs.size,upd d c.heap.objs.size (.tup xs),f.laid (t':=c.toks) (λb u e=>Jn _ e) (Ç _) ?_,rfl,q _ g];show#[z,us,r,#[_,Ê _ rfl,rfl,_,rfl]]
theorem bc(h:PA X es t):PE X (.List es pos) (cW t):=by intro a s j H Q I i;show wpAny_List_spliced (bu (h pos a s j H _ I i) λus c ⟨xs,d,f,r,z,q⟩=>#[by rw[<-↑r];show z,?_]);have g:d c.heap.objs.size=none:=f.hok.fresh (Ç _);show#[.ref c.heap.objs.size,upd d c.heap.objs.size (.lst xs),f.laid (t':=c.toks) (λb u e=>Jn _ e) (Ç _) ?_,rfl,q _ g];show#[z,us,0,r,Ê _ rfl]
end
abbrev Sp:=ϊ V->Hp->VK->XK->Prop
abbrev Fy:=ϊ Env->Hp->ώ->XK->ϋ->ώ->Prop
variable{CX:Fy}
structure Env0(P:ϓ)(w:ϕ)(K:Ϗ)(mg:ϐ->ύ ϋ)(base:ϒ)(A:ϖ)(outer:ϊ Env)(s:ώ)(H:Hp):Prop where
 frames:A.frames=!outer
 mod:Mod K mg base
 bs:∀b o,base.get? b=!o->s.heap.get? b=!o/\H b=none
 bsz:base.objs.size<=s.heap.objs.size
 funs:s.heap.FunFrames base outer
 frf:∀b∈frs outer,H b=none
 hok:HOk P w H s.heap
 bare:AllBare s.gens
def CE(outer:ϊ Env)(P:ϓ)(w:ϕ)(H:Hp)(s:ώ)(Q:VK)(u:ϋ)(s':ώ):Prop:=
 ∃v H',s'.os=s.os/\AllBare s'.gens/\Un (frs outer) [] H H' s.heap s'.heap/\HOk P w H' s'.heap/\RelV v u/\Q v H'
def CR(CX:Fy)(outer:ϊ Env)(P:ϓ)(w:ϕ)(H:Hp)(s:ώ)(Q:VK)(E:XK)(r:Result)(s':ώ):Prop:=
 match r with
 |.ok (.ret u)=>CE outer P w H s Q u s'|.ok _=>False|.error e=>CX outer H s E e s'
structure FnOk(P:ϓ)(w:ϕ)(K:Ϗ)(mg:ϐ->ύ ϋ)(base:ϒ)(CX:Fy)(k:Nat)(f:ό)(fd:FuncData)(ps:ϊ ϐ)(sp:Sp):Prop where
 len:∀vs H Q E,sp vs H Q E->↑vs=↑ps
 run:∀(A:ϖ)(outer:ϊ Env)(s:ώ)(H:Hp)(args:Args)(us:ϊ ϋ)(vs:ϊ V)(Q:VK)(E:XK),Room k A->Env0 P w K mg base A outer s H->BindsTo s fd args (ps.zip us)->Vals vs us->sp vs H Q E->codeAny (model P w) A (.call (.ref f) args) (CR CX outer P w H s Q E) s
section
variable{X:Cx}
theorem Inv.env0(I:Inv X io σ H s):Env0 X.prog X.w X.K X.mg X.base X.A X.stack s H:=#[I.ok.frames,I.ok.mod,I.bs,Ð I.ok.bsz I.sz,I.stack,I.stkFree,I.hok,I.bare]
theorem Inv.after{Q:VK}(I:Inv X io σ H s)(h:CE X.stack X.prog X.w H s Q u s'):EP X io σ Q u s':=by let#[v,f,j,a,un,c,r,q]:=h;let#[i,g,d,t,e]:=s';obtain rfl:e=s.os:=j;show#[v,f,I.call (h':=i) (g':=g) (d':=d) (t':=t) (ch:=[]) un c a (λb z=>absurd z (by simp)),r,q]
end
def eY(sp:Sp)(dvs:ϊ V)(E:XK)(t:TA):TE:=λσ H Q=>t σ H λvs H1=>sp (vs++dvs) H1 Q E
def a0b(C:ό)(m:ϐ)(sp:Sp)(dvs:ϊ V)(E:XK)(ta:TE)(t:TA):TE:=λσ H Q=>ta σ H λx H1=>∃a dx fs,x=.ref a/\H1 a=!(.ins C dx fs)/\fs.lookup m=none/\t σ H1 λvs H2=>sp (x::(vs++dvs)) H2 Q E
def a0c(C:ό)(sp:Sp)(dvs:ϊ V)(E:XK)(t:TA):TE:=λσ H Q=>t σ H λvs H1=>∀x dx,H1 x=none->H1 dx=none->dx≠x->sp (.ref x::(vs++dvs)) (upd (upd H1 dx (.own x)) x (.ins C dx [])) (λv H2=>v=.non/\Q (.ref x) H2) E
def Binds(K:Ϗ)(fd:FuncData)(ps:ϊ ϐ)(ds:ϊ ϋ):Prop:=∀(s:ώ)(us:ϊ ϋ),K.In s.heap->↑(us++ds)=↑ps->BindsTo s fd #[us,[]] (ps.zip (us++ds))
theorem Binds.all{K:Ϗ}{ps:ϊ ϐ}(h:∀us:ϊ ϋ,↑us=↑ps->bindArgs fd #[us,[]]=pure (ps.zip us)):Binds K fd ps []:=λs us _ a=>by rw[ò]at a⊢;show .of_eq (h us a)
def gM(CX:Fy)(X:Cx)(E:XK):Prop:=∀(io:ϸ)(σ:St)(H:Hp)(s:ώ)(e:ϋ)(s':ώ),Inv X io σ H s->CX X.stack H s E e s'->X.xe e s'
section
variable{X:Cx}{CX:Fy}{k:Nat}{f:ό}{fd:FuncData}{ps:ϊ ϐ}{sp:Sp}{dvs:ϊ V}{ds:ϊ ϋ}{E:XK}{x m:ϐ}{p pos:Pos}{e o:Expr}{es:ϊ Expr}{t:TA}
theorem FJ{Q:VK}(F:FnOk X.prog X.w X.K X.mg X.base CX k f fd ps sp)(i:Room k X.A)(c:Binds X.K fd ps ds)(d:Vals dvs ds)(j:gM CX X E)(I:Inv X io σ H s) (r:Vals vs us) (h:sp (vs++dvs) H Q E):wpAny (model X.prog X.w) X.A (call (.ref f) us) (EP X io σ Q) X.xe s:=by
 have b:Vals (vs++dvs) (us++ds):=r.append d;have g:↑(us++ds)=↑ps:=by rw[<-↑b];show F.len _ _ _ _ h
 show wpAny_call (τ (F.run X.A X.stack s H #[us,[]] (us++ds) (vs++dvs) Q E i I.env0 (c s us I.kIn g) b h) λr s' a=>?_);cases r with
 |error e=>show j io σ H s e s' I a|ok fl=>cases fl with
  |ret u=>show I.after a|next=>show False.elim a|brk=>show False.elim a|cont=>show False.elim a
theorem Ao(F:FnOk X.prog X.w X.K X.mg X.base CX k f fd ps sp)(u:Room k X.A)(m:Gl X x)(o:X.mg x=!(.ref f))(n:W.keepIn X.K (.ref f)=true)(i:Binds X.K fd ps ds)(j:Vals dvs ds)(v:gM CX X E)(g:PA X (e::es) t) (b:(x==("__debug__":ϐ))=false:=by decide) (l:starEach (e::es) X.env=(false,eval e X.env)::starEach es X.env:=by rfl) (c:(backTo pos (starEach es X.env)).any (·.1)=false:=by rfl):PE X (.Call (.Name x p) (e::es) [] pos) (eY sp dvs E t):=by intro a s y H Q I h;show ś (iC I m o ?_ b);show PySem.W.callWith_K (h₀:=X.base) I.ok.mod.kin n (bu (g pos a s y H _ I h) λus B ⟨vs,z,d,r,q⟩=>#[d.kIn,?_]) l c;show FJ F u i j v d r q
theorem FN(F:FnOk X.prog X.w X.K X.mg X.base CX k f fd ps sp)(j:Room k X.A)(e:Gl X x)(i:X.mg x=!(.ref f))(g:W.keepIn X.K (.ref f)=true)(c:Binds X.K fd ps ds)(d:Vals dvs ds)(l:gM CX X E)(a:(x==("__debug__":ϐ))=false:=by decide):PE X (.Call (.Name x p) [] [] pos) (eY sp dvs E cY):=by intro b s m H Q I h;show ś (iC I e i ?_ a);show PySem.W.callWith_K0 I.kIn g (FJ (us:=[]) F j c d l I .nil h)
end
structure FnScope(N P:ϊ ϐ)(sc:Scope):Prop where
 kind:sc.kind=.function
 co:sc.isCoroutine=false
 gen:sc.isGenerator=false
 nd:N.Nodup
 pre:N.take ↑P=P
 par:∀x∈P,sc.names.lookup x=!.local\/sc.names.lookup x=!.cell
 nofree:∀y∈sc.names,y.2≠.free
theorem qM{a:ϐ->ύ NameKind}{x:ϐ}:∀{binds:ϊ (ϐ×ϋ)}{m:ϐ->ύ ϋ},(∀v,(x,v)∉binds)->bindL a binds m x=m x
 |[],_,_=>rfl|(n,v)::r,m,h=>by
  unfold bindL;rw[qM λw b=>h w (Ì _ b)];split
  .have:x≠n:=by rintro rfl;show h v Ë
   simp[this]
  .rfl
theorem qN{a:ϐ->ύ NameKind}{x:ϐ}:∀{binds:ϊ (ϐ×ϋ)}{m:ϐ->ύ ϋ},(∀v,(x,v)∉binds)->bindC a binds m x=m x
 |[],_,_=>rfl|(n,v)::r,m,h=>by
  unfold bindC;rw[qN λw b=>h w (Ì _ b)];split
  .rfl
  .have:x≠n:=by rintro rfl;show h v Ë
   simp[this]
theorem qO{a:ϐ->ύ NameKind}{x:ϐ}{v:ϋ}:∀{P:ϊ ϐ}{vs:ϊ ϋ}{i:Nat}{m:ϐ->ύ ϋ},P.Nodup->P[i]?=!x->vs[i]?=!v->a x=!.local->bindL a (P.zip vs) m x=!v
 |[],_,_,_,_,h,_,_=>by simp at h
 |_::_,[],_,_,_,_,h,_=>by simp at h|p::P,w::vs,0,m,nd,h1,h2,hk=>by simp at h1 h2;subst h1;subst h2;change bindL a ((p,w)::P.zip vs) m p=_;unfold bindL;rw[qM λv b=>(æ.mp nd).1 (List.of_mem_zip b).1,if_pos hk];simp
 |p::P,w::vs,i+1,m,nd,h1,h2,hk=>by change bindL a ((p,w)::P.zip vs) m x=_;unfold bindL;show qO (i:=i) (æ.mp nd).2 (by simpa using h1) (by simpa using h2) hk
theorem qP{a:ϐ->ύ NameKind}{x:ϐ}{v:ϋ}:∀{P:ϊ ϐ}{vs:ϊ ϋ}{i:Nat}{m:ϐ->ύ ϋ},P.Nodup->P[i]?=!x->vs[i]?=!v->a x≠!.local->bindC a (P.zip vs) m x=!v
 |[],_,_,_,_,h,_,_=>by simp at h|_::_,[],_,_,_,_,h,_=>by simp at h|p::P,w::vs,0,m,nd,h1,h2,hk=>by simp at h1 h2;subst h1;subst h2;change bindC a ((p,w)::P.zip vs) m p=_;unfold bindC;rw[qN λv b=>(æ.mp nd).1 (List.of_mem_zip b).1,if_neg hk];simp|p::P,w::vs,i+1,m,nd,h1,h2,hk=>by change bindC a ((p,w)::P.zip vs) m x=_;unfold bindC;show qP (i:=i) (æ.mp nd).2 (by simpa using h1) (by simpa using h2) hk
noncomputable def start(N:ϊ ϐ)(vs:ϊ V):St:=vs.map some++List.replicate (↑N-↑vs) none
noncomputable def jT(CX:Fy)(P:ϓ)(w:ϕ)(K:Ϗ)(mg:ϐ->ύ ϋ)(base:ϒ)(N:ϊ ϐ)(qual:ϐ)(scope:Scope)(f:ό)(cd:ϋ)(A:ϖ)(outer:ϊ Env)(s:ώ)(H:Hp)(E:XK):Cx where
 prog:=P
 w:=w
 K:=K
 mg:=mg
 base:=base
 A:=A.deeper (envOfC qual scope s.heap.objs.size f cd)
 N:=N
 s₀:=s
 H₀:=H
 env:=envOfC qual scope s.heap.objs.size f cd
 outer:=outer
 stack:=envOfC qual scope s.heap.objs.size f cd::outer
 ex:=[]
 calm:=true
 fn:=λ_=>true
 pn:=[]
 xe:=λe s'=>wpAny (model P w) (A.deeper (envOfC qual scope s.heap.objs.size f cd)) (leaving (envOfC qual scope s.heap.objs.size f cd) e) (λ_ s''=>CX outer H s E e s'') (λe' s''=>CX outer H s E e' s'') s'
theorem uN(h:sc.names.lookup x=!.cell):∃c,(cellsFrom n sc.names []).lookup x=!c:=by
 have q:=PySem.W.cellsFrom_some sc.names n [] (.inl h);show Option.isSome_iff_exists.mp q
theorem CJ{P:ϓ}{K:Ϗ}{base:ϒ}{N ps:ϊ ϐ}{f:ό}{s:ώ}{E:XK}{vs:ϊ V}(S:FnScope N ps scope) (G:A.handled=none) (g:Env0 P w K mg base A outer s H) (M:↑vs=↑ps) (r:Vals vs us)(x:InCallC s s.heap.objs.size (bindL (envOfC qual scope s.heap.objs.size f cd).kindOf (ps.zip us) λ_=>none) (cellsFrom (s.heap.objs.size+1) scope.names []) (bindC (envOfC qual scope s.heap.objs.size f cd).kindOf (ps.zip us) λ_=>none) s1):Inv (jT CX P w K mg base N qual scope f cd A outer s H E) [] (start N vs) H s1:=by
 have I:↑ps<=↑N:=by have:=Ô List.length S.pre;rw[Ú]at this;rfl'
 let#[t,O,rfl,C]:=x.done;have l:∀b:ό,b∉(jT CX P w K mg base N qual scope f cd A outer s H E).ex:=λb z=>absurd (show b∈([]:ϊ ό)from z) (by simp);show⟨⟨g.mod,S.kind,rfl,rfl,Ç _,λy z c t d=>?_,λy j=>?_,λy c _ h=>?_,λ_=>G,Around.frames_deeper g.frames,.inr ⟨rfl,rfl⟩,λb z=>absurd z (l b),g.bs,g.bsz,λb _ _=>l b,λb z=>absurd z (l b),g.funs,g.frf⟩,
  rfl,g.bare,Un.kept C,⟨_,x.toInCall.ns,λi y v t d L=>?_⟩,λy c h=>⟨_,x.cell y c h⟩,g.hok.fresh (Ç _),λy c h=>?_,λp m=>absurd (show p∈([]:ϸ)from m) (by simp),g.hok.kept C,?_⟩;.show name_of_addr x.apart (ŗ t) (ŗ d)
 .have j:scope.names.lookup y=!.cell\/scope.names.lookup y=!.free:=j;rcases j with j|j;.show uN j
  .show absurd rfl (S.nofree _ (ŗ j))
 .show İ (x.above y c (ŗ h))
 .have B:i<↑vs:=by
   unfold start at d;by_cases B:i<↑vs;.show B
   .rw [ã (by simpa using B)]at d;rw[List.getElem?_replicate]at d;split at d<;>cases d
  have F:vs[i]?=!v:=by
   unfold start at d;rw[è (by simpa using B),À]at d;cases e:vs[i]?with
   |none=>rw[e]at d;cases d|some a=>rw[e]at d;cases d;rfl
  let#[u,D,J]:=r.get F;have m:ps[i]?=!y:=by rw[<-S.pre,List.getElem?_take_of_lt ()];show t
  have o:ps.Nodup:=by rw[<-S.pre];show S.nd.sublist (Ģ _ _)
  show#[u,J,?_];rcases S.par y (Yf m)with k|k;.show .inl #[k,qO o m D k]
  .obtain ⟨c,e⟩:=uN (n:=s.heap.objs.size+1) k;show .inr #[.inl k,c,e,?_];have q:=x.cell y c e;rw[qP o m D (by change scope.names.lookup y≠_;rw[k];decide)]at q;show q
 .show g.hok.fresh (İ (x.above y c (ŗ h)))
 .unfold start;change _=↑N;rw[Â,Qb,å];rfl'
theorem Pa{P:ϓ}{K:Ϗ}{base:ϒ}{f:ό}{name:ϐ}{D kV h F a ct Y:ϋ}{Z:ύ ό}{N ps:ϊ ϐ} {sp:Sp} (lk:K.lookup f=!#[Y,Z,.func (W.fnOf name qual params body scope D kV h F an a ct),osl]) (m:W.codeIn K a qual=true) (S:FnScope N ps scope)(l:∀vs H Q E,sp vs H Q E->↑vs=↑ps)(c:∀(A:ϖ)(outer:ϊ Env)(s:ώ)(H:Hp)(vs:ϊ V)(Q:VK)(E:XK),Room k (A.deeper (envOfC qual scope s.heap.objs.size f a))->sp vs H Q E->∃t,PSs (jT CX P w K mg base N qual scope f a A outer s H E) body t/\t {nx:=λ_ H'=>Q .non H',rt:=Q} (start N vs) H):FnOk P w K mg base CX (k+1) f (W.fnOf name qual params body scope D kV h F an a ct) ps sp:=by
 show#[l,λA outer s H args us vs Q E p i M r j=>?_];have R:=l _ _ _ _ j;have C:K.In s.heap:=i.mod.kin.keeps λb o e=>(i.bs b o e).1
 have z:s.heap.NoLimit:=i.mod.nolimit.keeps λb o e=>(i.bs b o e).1;have d:∀y∈ps.zip us,scope.names.lookup y.1=!.local\/(scope.names.lookup y.1=!.cell/\((cellsFrom (s.heap.objs.size+1) scope.names []).lookup y.1).isSome=true):=λ⟨n,v⟩ X=>by
  rcases S.par n (List.of_mem_zip X).1with q|q
  .show .inl q
  .show .inr #[q,PySem.W.cellsFrom_some _ _ _ (.inl q)]
 show codeAny_call_function p.depth (C _ _ lk) rfl S.co S.gen rfl (PySem.W.codeRec_of C m) (M _ _ _ _ ?_);show wpAny_newFunctionEnv_cells S.kind d λenv O G x=>?_;subst O;show#[z.keeps x.toInCall.keep,codeAny_func ?_];let#[t,U,T]:=c A outer s H vs Q E (p.deeper _) j;have I:Inv (jT CX P w K mg base N qual scope f a A outer s H E) [] (start N vs) H G:=CJ S p.hd i R r x;show í (U [] G (start N vs) H _ I T) (λL s' g=>?_) λe s' g=>g;have fin:∀{σ':St}{H':Hp}{v:V}{u:ϋ},Inv (jT CX P w K mg base N qual scope f a A outer s H E) [] σ' H' s'->RelV v u->Q v H'->CE outer P w H s Q u s':=λ{σ' H' v u} J B q=>#[v,H',J.os,J.bare,J.base,J.hok,B,q];cases L with
 |ret u=>
  let#[v,σ',H',J,B,q]:=g;show fin J B q|next=>let#[σ',H',J,q]:=g;show fin (v:=V.non) (u:=Value.none) J rfl q|brk=>
  let#[_,_,_,q]:=g;show False.elim q|cont=>let#[_,_,_,q]:=g;show False.elim q
section
variable{X:Cx}{x:ϐ}{p pos:Pos}{e:Expr}{es:ϊ Expr}{t:TA}{id T:String}{r:ϊ V->Hp->VK->Prop}
def gw(r:ϊ V->Hp->VK->Prop)(t:TA):TE:=λσ H Q=>t σ H λvs H1=>r vs H1 Q
theorem uO(j:bC X (.builtin id) r)(l:Gl X x)(m:X.mg x=none)(o:bootBuiltins x=!(.builtin id))(i:PA X (e::es) t)(n:x≠"__name__":=by decide)(b:(x==("__debug__":ϐ))=false:=by decide)(k:starEach (e::es) X.env=(false,eval e X.env)::starEach es X.env:=by rfl) (c:(backTo pos (starEach es X.env)).any (·.1)=false:=by rfl):PE X (.Call (.Name x p) (e::es) [] pos) (gw r t):=by intro a s d H Q I h;show ś (jb I l m o ?_ n b);show PyProof.Rows.callWith_builtin1 (bu (i pos a s d H _ I h) λus v ⟨vs,f,g,u,q⟩=>j a v d f vs us Q g u q) k c
theorem bj(j:bC X (.type T) r)(l:Gl X x)(m:X.mg x=none)(o:bootBuiltins x=!(.type T))(i:PA X (e::es) t)(n:x≠"__name__":=by decide)(b:(x==("__debug__":ϐ))=false:=by decide)(k:starEach (e::es) X.env=(false,eval e X.env)::starEach es X.env:=by rfl) (c:(backTo pos (starEach es X.env)).any (·.1)=false:=by rfl):PE X (.Call (.Name x p) (e::es) [] pos) (gw r t):=by intro a s d H Q I h;show ś (jb I l m o ?_ n b);show ğ (bu (i pos a s d H _ I h) λus v ⟨vs,f,g,u,q⟩=>j a v d f vs us Q g u q) k c
end
end L2
namespace HT
open PySem PyProof.Rows
noncomputable def lexLt:ϊ Int->ϊ Int->ϑ
 |[],[]=>false|[],_::_=>true|_::_,[]=>false|x::xs,y::ys=>if x=y then lexLt xs ys else decide (x<y)
def iG(x y:Int)(xs ys:ϊ Int):lexLt (x::xs) (y::ys)=if x=y then lexLt xs ys else decide (x<y):=rfl
def qw:lexLt [] []=false:=rfl
def oK(y:Int)(ys:ϊ Int):lexLt [] (y::ys)=true:=rfl
def oM(x:Int)(xs:ϊ Int):lexLt (x::xs) []=false:=rfl
def FP(A:ϖ)(s:ώ)(a:Int)(t:Tok)(c:Int)(u:Tok):∃e,SeqAt.EqAt A s (.int a t) (.int c u) e/\(e=true↔a=c):=#[(a==c),SeqAt.EqAt.int_int a t c u,by simp]
def FQ(A:ϖ)(s:ώ)(a:Int)(t:Tok)(c:Int)(u:Tok)(prog:ϓ)(w:ϕ)(E:϶)(Q:϶)(h:Q (.bool (decide (a<c))) s):wpAny (model prog w) A (richCompare .Lt (.int a t) (.int c u)) Q E s:=(PyProof.Rows.lt_int h:wpAny (model prog w) A (compareOp .Lt (.int a t) (.int c u)) Q E s)
section
open PySem.SeqAt
open PySem.AutoSeq1 (wpAny_loadPart')
open PySem.MeetsSeq PySem.MeetsSeq2 PySem.MeetsSeq3
def qx(l b:ό)(i f:ϔ ϋ)(n P:Nat)(dd G:ύ ό)(Q I:ϔ (ύ ϋ))(ns C:ϊ Int)(J:IntsAre i.toList ns)(K:IntsAre f.toList C):Meets (Builtin.«tuple.__lt__» #[[.ref l,.ref b],[]])
   (λ_ R s=>s.heap.get? l=!{cls:=.type "tuple",dict:=dd,data:=.seq i n,slots:=Q}/\s.heap.get? b=!{cls:=.type "tuple",dict:=G,data:=.seq f P,slots:=I}/\R (.ok (.ret (.bool (lexLt ns C)))) s):=
 .of_wp λprog w A R s h=>by
  let#[B,g,d,E,D]:=s;let#[O,M,h]:=h;have U:=AutoSeq1.sub_tuple_tuple;have W:i.size=↑ns:=by rw[<-↑J];simp
  have X:f.size=↑C:=by rw[<-↑K];simp
  wp_walk using wpAny_loadPart' O,wpAny_loadPart' M,wpAny_forIn_list _ (λrest b s'=>b.1=none/\s'=#[B,g,d,E,D]/\∃(vs F:ϊ ϋ)(m k:ϊ Int),rest=vs.zip F/\IntsAre vs m/\IntsAre F k/\↑m+f.size=↑k+i.size/\R (.ok (.ret (.bool (lexLt m k)))) #[B,g,d,E,D]) _
  case turn=>
   rintro⟨y,x⟩ rest b s' ⟨v,rfl,vs,F,m,k,hz,z,o,j,p⟩;cases z with
   |nil=>rw[List.zip_nil_left]at hz;cases hz|cons a t hvi'=>cases o with|nil=>rw[List.zip_nil_right]at hz;cases hz|cons c u hwi'=>
     rw[ŷ]at hz;injection hz with hyx hrest;injection hyx with hy hx;subst hy hx;rw[iG]at p;simp only[ô]at j;let#[e,N,r]:=FP A.in1 #[B,g,d,E,D] a t c u;show Qr (N prog w _ _ ?_)
     cases e with|true=>
      rw[if_pos (r.mp rfl)]at p
      wp_walk;show#[rfl,rfl,_,_,_,_,hrest,hvi',hwi',(),p]|false=>
      rw[if_neg (λq=>absurd (r.mpr q) Î)]at p;have H:=FQ A.in1 #[B,g,d,E,D] a t c u prog w
      wp_walk using H;show#[_,rfl,by simpa using p]
  case fin=>
   rintro⟨S,T⟩ s' ⟨v,rfl,vs,F,m,k,hz,z,o,j,p⟩;simp only at v;subst v;have L:lexLt m k=decide (i.size<f.size):=by cases z with
    |nil=>cases o with
     |nil=>simp only[Š]at j;rw[qw];show(Ó ()).symm|cons c u hw=>simp only[Š,ô]at j;rw[oK];show(Õ ()).symm
    |cons a t L=>cases o with|nil=>simp only[Š,ô]at j;rw[oM];show(Ó ()).symm|cons c u hw=>
      rw[ŷ]at hz;cases hz
   rw[L]at p
   wp_walk;show#[_,rfl,by simpa[Builtin.Tuple.tupleCompareSizes]using p]
  case h=>show#[rfl,rfl,i.toList,f.toList,ns,C,rfl,J,K,(),h]
end
section
def wW(t:IsTup s.heap l items)(p:IsTup s.heap b a)(q:IntsAre items.toList ns)(r:IntsAre a.toList ms)(u:A.units<cLine) (h:Q (.bool (lexLt ns ms)) s):wpAny (model prog w) A (compareOp .Lt (.ref l) (.ref b)) Q E s:=by
 let#[#[cls,dd,data,y],o,k,n,m]:=id t;let#[#[j,g,f,i],e,c,v,d]:=id p;simp only at k m c d;subst k m c d;show richCompare_meets_room (op:=.Lt) #[_,o,rfl] #[_,e,rfl] Ξ PySem.F.entry_tuple_lt (PySem.F.args_tuple_lt_2 _ _) (qx l b items a n v dd g y i ns ms q r)
  #[o,e,show Value.bool (lexLt ns ms)≠Value.notImplemented/\Q (.bool (lexLt ns ms)) s from#[(λx=>nomatch x),h]] u
def Ly(y:IsTup s.heap t vs.toArray)(x:IsTup s.heap b a.toArray)(p:vs≠[])(u:a=[]->Q (.ref t) s) (v:a≠[]->Q (.ref s.heap.objs.size) {s with heap:=s.heap.push {cls:=.type "tuple",data:=.seq (vs++a).toArray}})(hsz:↑vs+↑a<=sizeLine):wpAny (model prog w) A (binaryOp .Add (.ref t) (.ref b)) Q E s:=by
 let#[#[cls,dd,data,r],i,m,n,o]:=id y;let#[#[l,d,k,h],c,f,q,g]:=id x;simp only at m o f g;subst m o f g;have e:vs.toArray++a.toArray=(vs++a).toArray:=by simp
 by_cases j:a=[]
 .show concat_meets #[_,i,rfl] #[_,c,rfl] noFill_tuple_add seq_tuple_add Ε ż (ų _ _)
   (tuple_addW1 t b vs.toArray a.toArray n q dd d r h (by simpa using p) (by simp[j])) #[i,c,u j]
 .show concat_meets #[_,i,rfl] #[_,c,rfl] noFill_tuple_add seq_tuple_add Ε ż (ų _ _)
   (tuple_addW2 t b vs.toArray a.toArray n q dd d r h (by simpa using p) (by simpa using j) (by rw[Í,Í];show hsz)) #[i,c,?_]
  rw[e];show v j
noncomputable def dX(n d:Nat):ύ Int->Nat
 |none=>d
 |some v=>if v<0 then(v+(n:Int)).toNat else min v.toNat n
def Qv(n d:Nat)(b:d<=n)(o:ύ Int):dX n d o<=n:=by cases o with
 |none=>show b|some v=>
  change(if v<0 then(v+(n:Int)).toNat else min v.toNat n)<=n;by_cases a:v<0
  .rw [if_pos a];rfl'
  .rw [if_neg a];show Nat.min_le_right _ _
def Aq(v:Int)(n d:Nat):(if v<0 then max (v+(n:Int)) 0 else min v (n:Int))=((dX n d !v:Nat):Int):=by
 change(if v<0 then max (v+(n:Int)) 0 else min v (n:Int))=(((if v<0 then(v+(n:Int)).toNat else min v.toNat n):Nat):Int);by_cases a:v<0;.simp only[if_pos a];rfl'
 .simp only[if_neg a];rfl'
def wX(lo a:ύ Int)(n:Nat):Builtin.Slice.sliceAdjust lo a 1 (n:Int)=(((dX n 0 lo:Nat):Int),((dX n n a:Nat):Int)):=by
 have b:¬((1:Int)<0):=();unfold Builtin.Slice.sliceAdjust;simp only[b,ý];show Prod.ext ?_ ?_;.cases lo with
  |none=>rfl
  |some v=>show Aq v n 0
 .cases a with
  |none=>rfl|some v=>show Aq v n n
def wY(i j:Nat):Builtin.Slice.slicePlaces (i:Int) (j:Int) 1=j-i:=by
 unfold Builtin.Slice.slicePlaces;have a:(1:Int)>0:=();simp only[a,ı,Int.ediv_one];split<;>rfl'
def oO{Q:ύ Int->ώ->Prop}(p:IsPart v o)(h:Q o s):wpAny (model prog w) A (Builtin.Slice.slicePartIndex v) Q E s:=by cases p with
 |none=>show slicePart_none h|int i t=>show slicePart_int h
def gV{lo:ύ Int}{n:Nat}{Q:Int×Int×Nat->ώ->Prop}(d:s.heap.IsSliceOf sl vl vu .none)(pl:IsPart vl lo)(e:IsPart vu hi)(h:Q (((dX n 0 lo:Nat):Int),1,dX n n hi-dX n 0 lo) s):wpAny (model prog w) A (Builtin.Slice.sliceApplied (.ref sl) (pure (n:Int))) Q E s:=by
 let#[f,b,c,a]:=id d;unfold Builtin.Slice.sliceApplied Builtin.Slice.sliceFields;show Qr (Qr (î b a (x:=vl) rfl (Qr (î b a (x:=vu) rfl (Qr (î b a (x:=.none) rfl (Xs ?_)))))));show Qr (slicePart_none ?_);change wpAny _ _ (if((1:Int)==0)=true then _ else _) _ _ s;rw[if_neg (by decide)];show Qr (oO pl (Qr (oO e (Qr (Xs ?_)))));change wpAny _ _ (match Builtin.Slice.sliceAdjust lo hi 1 (n:Int)with|(lo,hi)=>pure (lo,(1:Int),Builtin.Slice.slicePlaces lo hi 1)) _ _ s;rw[wX lo hi n];change wpAny _ _ (pure (((dX n 0 lo:Nat):Int),(1:Int),Builtin.Slice.slicePlaces ((dX n 0 lo:Nat):Int) ((dX n n hi:Nat):Int) 1)) _ _ s;rw[wY];show Xs h
def FT(xs:ϔ ϋ)(i k:Nat):((List.range k).filterMap λ(m:Nat)=>xs[((i:Int)+(m:Int)*1).toNat]?).toArray=((xs.toList.drop i).take k).toArray:=by
 have e:(λ(m:Nat)=>xs[((i:Int)+(m:Int)*1).toNat]?)=λm=>xs[i+m]? :=by
  funext m;have:((i:Int)+(m:Int)*1).toNat=i+m:=();rw[this]
 rw[e];have:=pick_run xs i k;rw[List.filterMap_map]at this;have a:((λx=>xs[x]?)∘λx=>i+x)=λm=>xs[i+m]? :=rfl;rw[a]at this;rw[this]
def kJ{lo:ύ Int}(b:IsTup s.heap t items)(g:s.heap.IsSliceOf sl vl vu .none)(pl:IsPart vl lo)(l:IsPart vu hi)(j:¬(dX items.size 0 lo=0/\dX items.size items.size hi=items.size))(h:Q (.ref s.heap.objs.size) {s with heap:=s.heap.push {cls:=.type "tuple",data:=.seq ((items.toList.drop (dX items.size 0 lo)).take (dX items.size items.size hi-dX items.size 0 lo)).toArray}})(hsz:items.size<=sizeLine):wpAny (model prog w) A (getItem (.ref t) (.ref sl)) Q E s:=by
 have a:sizeOk (.seq ((items.toList.drop (dX items.size 0 lo)).take (dX items.size items.size hi-dX items.size 0 lo)).toArray):=by change((items.toList.drop (dX items.size 0 lo)).take (dX items.size items.size hi-dX items.size 0 lo)).toArray.size<=sizeLine;rw[Í,Ú,Ĉ,Ā];rfl'
 have n:dX items.size items.size hi<=items.size:=Qv _ _ (Ç _) hi;let#[k,f,d,i]:=id g;have c:s.TypeIs (.ref sl) "slice":=#[k,f,d];unfold getItem;try with_reducible show ì ?_
 first|show Qr (Xs ?_)|skip
 show Qr (wpAny_sequenceKey b.typeIs (by decide) ?_);show Qr (wpAny_callSpecial?_slot (name:=Str.ofString "__getitem__") b.typeIs ħ (ê ħ b.typeIs entry_tuple_getitem ?_ (args_tuple_getitem _ _)));change wpAny _ _ (Builtin.Tuple.tupleItemsOf (.ref t)>>=_) _ _ s;show Qr (tupleItemsOf_ b ?_);show Qr (υ c ?_);rw[if_pos (by decide)];show Qr (gV g pl l ?_);have e:¬((((dX items.size 0 lo:Nat):Int)==0&&(1:Int)==1&&(dX items.size items.size hi-dX items.size 0 lo)==items.size)=true):=by
  intro q;rw[ù,ù]at q;have o:((dX items.size 0 lo:Nat):Int)=0:=Ż q.1.1;have p:dX items.size items.size hi-dX items.size 0 lo=items.size:=Ż q.2;show j #[(),()]
 change wpAny _ _ (if(((dX items.size 0 lo:Nat):Int)==0&&(1:Int)==1&&(dX items.size items.size hi-dX items.size 0 lo)==items.size)=true then _ else _) _ _ s;rw[if_neg e,FT];first
  |show Qr (m:=Builtin.Tuple.tupleExact _) (ð (Xs #[_,rfl,Xs h]) a)|show Qr (m:=Builtin.Tuple.tupleExact _) (ð (Qr (Xs (Xs #[_,rfl,Xs h]))) a)
  |show Qr (Qr (m:=Builtin.Tuple.tupleExact _) (ð (Xs (Xs #[_,rfl,Xs h])) a))|show Qr (Qr (m:=Builtin.Tuple.tupleExact _) (ð (Xs #[_,rfl,Xs h]) a))
end
end HT
namespace L2
open PySem PySem.Spec PyProof.Rows
variable{H:Hp}{σ:St}{i:Int}{x y:V}{p:ό}{A:ϖ}{T:String}{u v:ϋ}{j n t':Nat}{io:ϸ}{its us:ϊ ϋ}{f:ϔ ϋ->ϔ ϋ}{r:V->ύ Int->ύ Int->Hp->VK->Prop}
abbrev TO:=St->Hp->(ύ Int->Hp->Prop)->Prop
def PO(X:Cx)(e:ύ Expr)(t:TO):Prop:=∀(io:ϸ)(s:ώ)(σ:St)(H:Hp)(Q:ύ Int->Hp->Prop),Inv X io σ H s->t σ H Q->wpAny (model X.prog X.w) X.A (evalPart e X.env) (λu s'=>∃o H',Inv X io σ H' s'/\IsPart u o/\Q o H') X.xe s
def gB:TO:=λ_ H Q=>Q none H
def j5(t:TE):TO:=λσ H Q=>t σ H λx H1=>∃i,x=.int i/\Q (!i) H1
theorem intsAre_of:∀{us:ϊ ϋ},Vals (ns.map V.int) us->IntsAre us ns:=by induction ns with
 |nil=>intro us r;rw[Č]at r;cases r;show .nil|cons n ns ih=>
  intro us r;rw[È]at r;cases r with|cons r1 r2=>let#[t,e]:=r1;subst e;show .cons n t (ih r2)
section
variable{X:Cx}{e:Expr}{te:TE}{lo hi:ύ Expr}{tl th:TO}{pos p2:Pos}
theorem jx:PO X none gB:=by intro a s b H Q I h;rw[evalPart_none];show Xs #[none,H,I,.none,h]
theorem eG(h:PE X e te):PO X (!e) (j5 te):=by
 intro a s j H Q I d;rw[evalPart_some];show bu (h a s j H _ I d) λu k ⟨x,b,c,g,f⟩=>?_;let#[i,rfl,q]:=f;let#[t,rfl]:=g;show#[!i,b,c,.int i t,q]
def Qw(X:Cx)(r:V->ύ Int->ύ Int->Hp->VK->Prop):Prop:=
 ∀(io:ϸ)(s:ώ)(σ:St)(H:Hp)(x:V)(v vl vu:ϋ)(lo hi:ύ Int)(sl:ό)(Q:VK),Inv X io σ H s->RelV x v->s.heap.IsSliceOf sl vl vu .none->IsPart vl lo->IsPart vu hi->r x lo hi H Q->∃T id,typeLookup (.type T) "__getitem__"=pure !(.builtin id)/\s.TypeIs v T/\wpAny (model X.prog X.w) X.A (getItem v (.ref sl)) (EP X io σ Q) X.xe s
def KZ(r:V->ύ Int->ύ Int->Hp->VK->Prop)(te:TE)(tl th:TO):TE:=λσ H Q=>te σ H λx H1=>tl σ H1 λl H2=>th σ H2 λu H3=>r x l u H3 Q
theorem eZ(C:Qw X r)(y:PE X e te)(B:PO X lo tl)(E:PO X hi th):PE X (.Subscript e (.Slice lo hi none p2) pos) (KZ r te tl th):=by
 intro a s d H Q I h;show Subscript_ (bu (y a s d H _ I h) λv M ⟨x,j,m,L,G⟩=>?_);show wpAny_Slice (bu (B a M d j _ m G) λf N ⟨l,k,n,pl,J⟩=>bu (E a N d k _ n J) λg c ⟨u,i,o,F,K⟩=>?_);rw[evalPart_none];show Xs ?_;have p:Inv X a d i {c with heap:=c.heap.push {cls:=.type "slice",data:=.fields ([f,g,.none].toArray)}}:=o.kept (t':=c.toks) λb ob q=>Jn _ q;let#[T,id,t,D,z]:=C a {c with heap:=c.heap.push {cls:=.type "slice",data:=.fields ([f,g,.none].toArray)}} d i x v f g l u c.heap.objs.size Q p L (Heap.IsSliceOf.new ..) pl F K;change wpAny (model X.prog X.w) X.A (subscriptTail e (.Slice lo hi none p2) v (.ref c.heap.objs.size)) (EP X a d Q) X.xe {c with heap:=c.heap.push {cls:=.type "slice",data:=.fields ([f,g,.none].toArray)}};show tail_any (ops:=[.ref c.heap.objs.size,v]) D t z (by with_unfolding_all rfl)
noncomputable def gO(xs:ϊ V)(lo hi:ύ Int):ϊ V:=(xs.drop (HT.dX ↑xs 0 lo)).take (HT.dX ↑xs ↑xs hi-HT.dX ↑xs 0 lo)
theorem mR(xs:ϊ V)(lo a:ύ Int):↑(gO xs lo a)<=↑xs:=by unfold gO;rw[Ú,Ĉ];rfl'
def ZF(K:Ϗ):V->ύ Int->ύ Int->Hp->VK->Prop:=λx lo hi H Q=>∃a xs,x=.ref a/\SqT K H a xs/\¬(HT.dX ↑xs 0 lo=0/\HT.dX ↑xs ↑xs hi=↑xs)/\∀p,H p=none->Q (.ref p) (upd H p (.tup (gO xs lo hi)))
theorem Qx:Qw X (ZF X.K):=by
 intro g s u H x v p t lo d n Q I m i pl l h;let#[a,xs,rfl,k,j,q]:=h;cases m;let#[e,r,f,hz]:=I.tuple k;have c:e.toArray.size=↑xs:=by rw[Í];show r.length.symm
 show#["tuple",_,PyProof.Rows.slot_tuple_getitem.lookup,f.typeIs,?_];show HT.kJ f i pl l (by rw[c];show j) ?_ (by rw[c];show hz);rw[c];show#[.ref s.heap.objs.size,_,I.laid (t':=s.toks) (o:=.tup (gO xs lo d)) (λb ob q=>Jn _ q) (Ç _) ?_,rfl,q _ (I.hok.fresh (Ç _))];show#[Nat.le_trans (mR xs lo d) hz,_,(r.drop (HT.dX ↑xs 0 lo)).take (HT.dX ↑xs ↑xs d-HT.dX ↑xs 0 lo),IsTup.new _ _]
def FW(K:Ϗ):R2:=λx y H Q=>∃a b xs ys,x=.ref a/\y=.ref b/\SqT K H a xs/\SqT K H b ys/\xs≠[]/\↑xs+↑ys<=sizeLine/\(ys=[]->Q (.ref a) H)/\(ys≠[]->∀p,H p=none->Q (.ref p) (upd H p (.tup (xs++ys))))
theorem Vals.nil_iff(r:Vals xs us):us=[]↔xs=[]:=by cases r with
 |nil=>simp|cons _ _=>simp
theorem Ar:gA X (binaryOp .Add) (FW X.K):=by
 intro f s A H x y v u Q I r t h;let#[a,b,xs,ys,rfl,rfl,g,i,j,hz,n,p]:=h
 cases r;cases t;let#[k,d,l,_]:=I.tuple g;let#[e,c,m,_]:=I.tuple i;show HT.Ly l m (λz=>j (d.nil_iff.mp z)) (λz=>#[.ref a,H,I,rfl,n (c.nil_iff.mp z)]) (λz=>?_) (by rw[<-↑d,<-↑c];show hz);show#[.ref s.heap.objs.size,_,I.laid (t':=s.toks) (o:=.tup (xs++ys)) (λb ob q=>Jn _ q) (Ç _) ?_,rfl,p (λw=>z (c.nil_iff.mpr w)) _ (I.hok.fresh (Ç _))];show#[by rw[Â];show hz,_,d.append c,IsTup.new _ _]
end
noncomputable def La(n:Nat)(i:Int):ύ Nat:=if 0<=i then(if i<n then !i.toNat else none)else if-(n:Int)<=i then !(i+n).toNat else none
noncomputable def uP{α:Type}(xs:ϊ α)(i:Int):ύ α:=(La ↑xs i).bind λj=>xs[j]?
theorem Av(h:La n i=!j):seqIndex? i n=!j/\j<n/\-(n:Int)<=i/\i<n:=by
 unfold La at h;by_cases b:0<=i
 .rw [if_pos b]at h;by_cases a:i<n;.rw [if_pos a]at h;have e:i.toNat=j:=Ù h;show#[by rw[seqIndex_of b a,e],(),(),a]
  .rw [if_neg a]at h;cases h
 .rw [if_neg b]at h;by_cases a:-(n:Int)<=i;.rw [if_pos a]at h;have e:(i+n).toNat=j:=Ù h;show#[by rw[seqIndex_neg () a,e],(),a,()]
  .rw [if_neg a]at h;cases h
theorem su{a:Type}{xs:ϊ a}{v:a}(h:uP xs i=!v):∃j,seqIndex? i ↑xs=!j/\xs[j]?=!v/\j<↑xs/\-(↑xs:Int)<=i/\i<↑xs:=by
 unfold uP at h;cases e:La ↑xs i with
 |none=>rw[e]at h;cases h|some j=>rw[e]at h;let#[b,c,d,f]:=Av e;show#[j,b,h,c,d,f]
theorem aM{a:Type}{xs:ϊ a}{v:a}(h:xs[j]?=!v):uP xs (j:Int)=!v:=by
 have b:j<↑xs:=(Ä.mp h).1;have e:La ↑xs (j:Int)=!j:=by unfold La;rw[if_pos (),if_pos ()];simp
 unfold uP;rw[e];show h
theorem uQ{a:Type}(xs:ϊ a)(v:a):uP (xs++[v]) (-1)=!v:=by
 have b:↑(xs++[v])=↑xs+1:=by simp
 have e:La ↑(xs++[v]) (-1)=some ↑xs:=by unfold La;rw[b,if_neg (by decide),if_pos ()];congr 1;rfl'
 unfold uP;rw[e];change(xs++[v])[↑xs]?=!v;simp
def LC(b:Expr):Prop:=∀o i,subscripted b false o i=operate [o,i] (getItem o i)
def Wa(X:Cx)(r:R2):Prop:=∀(value slice:Expr)(io:ϸ)(s:ώ)(σ:St)(H:Hp)(x y:V)(v u:ϋ)(Q:VK),Inv X io σ H s->RelV x v->RelV y u->r x y H Q->subscripted slice false v u=operate [v,u] (getItem v u)->wpAny (model X.prog X.w) X.A (subscriptTail value slice v u) (EP X io σ Q) X.xe s
def Qy(X:Cx)(id:String)(r:V->ϊ V->Hp->VK->Prop):Prop:=∀(io:ϸ)(s:ώ)(σ:St)(H:Hp)(x:V)(xs:ϊ V)(v:ϋ)(us:ϊ ϋ)(Q:VK),Inv X io σ H s->RelV x v->Vals xs us->r x xs H Q->wpAny (model X.prog X.w) X.A (call (.builtin id) (v::us)) (EP X io σ Q) X.xe s
section
variable{X:Cx}{a b:Expr}
theorem oR{r:R2}(i:Wa X r)(f:PE X a ta)(g:PE X b tb)(j:LC b):PE X (.Subscript a b pos) (aL r ta tb):=by intro c s n H Q I h;show Subscript_ (Qn f g I h λv u m x y d e k l q=>i a b c m n d x y v u Q e k l q (j _ _))
def cZ(K:Ϗ):R2:=λx y H Q=>∃p xs i v,x=.ref p/\y=.int i/\SqL K H p xs/\uP xs i=!v/\Q v H
def iH(K:Ϗ):R2:=λx y H Q=>∃p xs i v,x=.ref p/\y=.int i/\SqT K H p xs/\uP xs i=!v/\Q v H
def CK:R2:=λx y H Q=>∃z i c,x=.str z/\y=.int i/\↑z<=sizeLine/\uP z.cps.toList i=!c/\Q (.str #[([c].toArray)]) H
theorem LK:Wa X (cZ X.K):=by
 intro g f a s n H x y v u Q I F G h m;let#[p,xs,i,z,rfl,rfl,E,C,q]:=h;cases F;let#[t,rfl]:=G;let#[d,r,pl,hz]:=I.list E;let#[j,b,o,J,A,B]:=su C;let#[w,k,e]:=r.get o;have D:=↑r;have L:=lX;have fin:EP X a n Q w s:=#[z,H,I,e,q];by_cases l:0<=i
 .have c:i.toNat=j:=by rw[seqIndex_of l B]at b;show Ù b
  show item_listR pl.isList l () (by rw[c];simpa using k) fin m
 .have c:(i+(d.toArray.size:Int)).toNat=j:=by rw[seqIndex_neg () A]at b;rw[Í,<-D];show Ù b
  show subscriptTail_builtinR (x:=w) pl.isList.typeIs slot_list_getitem.lookup (wpAny_getItem_list_neg (Q:=λr s'=>r=w/\EP X a n Q r s') pl.isList () (by rw[Í]<;>rfl') () (by rw[c];simpa using k) #[rfl,fin]) m
theorem QB:Wa X (iH X.K):=by
 intro d c a s e H x y v u Q I B C h o;let#[p,xs,i,z,rfl,rfl,n,l,q]:=h;cases B;let#[t,rfl]:=C;let#[A,r,pl,hz]:=I.tuple n;let#[j,g,k,D,E,F]:=su l;let#[w,f,b]:=r.get k;have m:=↑r;have G:=lX;have fin:EP X a e Q w s:=#[z,H,I,b,q];show subscriptTail_builtinR (x:=w) pl.typeIs slot_tuple_getitem.lookup (getItem_tuple (j:=j) (Q:=λr s'=>r=w/\EP X a e Q r s') pl () () (by rw[Í,<-m];show g) (by simpa using f) #[rfl,fin]) o
theorem sy:Wa X CK:=by
 intro b a e s C H x y v u Q I r w h p;let#[z,i,c,rfl,rfl,hz,n,q]:=h;let#[t,rfl]:=r;let#[t',rfl]:=w;let#[j,d,k,A,l,m]:=su n;have o:↑z.cps.toList=↑z:=by simp[Str.length]
 rw[o]at d l m;have B:=lX;show tail_any (typeIs_str s z t) slot_str_getitem.lookup (getItem_str (c:=c) (by have f:decide (i< -(2^63:Int))=false:=Ó ();have g:decide (i>=2^63)=false:=Ó ();rw[f,g,Bool.or_false]) (by rw[d];simpa using k) #[.str #[([c].toArray)],H,I.tok _,#[_,rfl],q]) p
theorem wZ(a:ϊ ϋ)(n j:Nat)(u:ϋ):Obj.mapSeq (·.setIfInBounds j u) {cls:=.type "list",data:=.seq a.toArray n}={cls:=.type "list",data:=.seq (a.set j u).toArray n}:=by simp[Obj.mapSeq]
theorem Inv.lst{s:ώ}{xs:ϊ V}(I:Inv X io σ H s)(h:H p=!(.lst xs)):∃(its:ϊ ϋ)(n:Nat),Vals xs its/\s.heap.get? p=!{cls:=.type "list",data:=.seq its.toArray n}/\↑xs<=sizeLine:=by let#[z,its,n,r,e]:=I.hok p _ h;show#[its,n,r,e,z]
theorem Inv.lstUpd{a:Nat}{f:Obj->Obj}(I:Inv X io σ H s)(h:H p=!(.lst xs))(g:s.heap.get? p=!{cls:=.type "list",data:=.seq its.toArray n}) (c:f {cls:=.type "list",data:=.seq its.toArray n}={cls:=.type "list",data:=.seq its'.toArray a}) (r:Vals ys its') (hz:↑ys<=sizeLine) (t:Nat):Inv X io σ (upd H p (.lst ys)) {s with heap:=s.heap.update p f,toks:=t}:=by
 have e:(s.heap.update p f).get? p=!{cls:=.type "list",data:=.seq its'.toArray a}:=by rw[ï f g (by rw[c]<;>rfl),c]
 show I.write (x:=p) (e:=p) (by rw[h];trivial) (.inl rfl) (λb u d q=>(ó _ _ (Ne.symm d)).trans q) #[_,e] ?_;show#[hz,its',a,r,e]
def Aw:V->V->V->Hp->(Hp->Prop)->Prop:=λo i v H Q=>∃p xs k j,o=.ref p/\i=.int k/\H p=!(.lst xs)/\La ↑xs k=!j/\Q (upd H p (.lst (xs.set j v)))
theorem set_list:Wq X Aw:=by
 intro b s C H o i v ov F u Q I A z B h;let#[p,xs,k,j,rfl,rfl,x,y,q]:=h;cases A;let#[t,rfl]:=z;let#[a,n,r,f,hz]:=I.lst x;let#[c,D,m,w]:=Av y;have e:=↑r;have E:=lX;have g:Inv X b C (upd H p (.lst (xs.set j v))) {s with heap:=s.heap.update p (Obj.mapSeq (·.setIfInBounds j u))}:=I.lstUpd x f (wZ a n j u) (r.set B j) (by rw[η];show hz) s.toks;by_cases l:0<=k
 .have d:k.toNat=j:=by rw[seqIndex_of l w]at c;show Ù c
  show PySem.W.ki_setAt f l () (by rw[Í,<-e];show w) (by rw[d];show#[_,g,q])
 .have d:(k+(a.toArray.size:Int)).toNat=j:=by rw[seqIndex_neg () m]at c;rw[Í,<-e];show Ù c
  show PySem.W.ki_setBack f () (by rw[Í,<-e];show m) () (by rw[d];show#[_,g,q])
theorem sE(lo a:ύ Int)(n:Nat):(sliceBounds lo a none n).1=((HT.dX n 0 lo:Nat):Int)/\(sliceBounds lo a none n).2.1=((HT.dX n n a:Nat):Int)/\(sliceBounds lo a none n).2.2=1:=by
 show#[?_,?_,rfl];.cases lo with
  |none=>simp[sliceBounds,HT.dX]|some i=>
   simp only[sliceBounds,HT.dX,Option.getD_none,show(1:Int)>0 by decide,ı];by_cases h:i<0;.simp only[h,ı]<;>rfl'
   .simp only[h,ý]<;>rfl'
 .cases a with
  |none=>simp[sliceBounds,HT.dX]
  |some i=>
   simp only[sliceBounds,HT.dX,Option.getD_none,show(1:Int)>0 by decide,ı];by_cases h:i<0;.simp only[h,ı]<;>rfl'
   .simp only[h,ý]<;>rfl'
theorem qy(a:ϊ ϋ)(lo b:ύ Int):slicePick a.toArray lo b none=((a.drop (HT.dX ↑a 0 lo)).take (HT.dX ↑a ↑a b-HT.dX ↑a 0 lo)).toArray:=by let#[c,d,e]:=sE lo b a.toArray.size;unfold slicePick;rw[c,d,e];simp only[sliceRange_one,pick_run,Í]<;>rfl
def CN(K:Ϗ):V->ύ Int->ύ Int->Hp->VK->Prop:=λx lo hi H Q=>∃a xs,x=.ref a/\SqL K H a xs/\∀p,H p=none->Q (.ref p) (upd H p (.lst (gO xs lo hi)))
theorem LQ:Qw X (CN X.K):=by
 intro f s t H x v n p lo d m Q I l g pl k h;let#[a,xs,rfl,i,q]:=h;cases l;let#[j,r,e,hz]:=I.list i;have c:=↑r;show#["list",_,slot_list_getitem.lookup,e.isList.typeIs,?_];show wpAny_getItem_list_slice e.isList g pl k .none (by simp) ?_ (by rw[Í]<;>rfl');rw[qy,<-c];show#[.ref s.heap.objs.size,_,I.laid (t':=s.toks) (o:=.lst (gO xs lo d)) (λb ob q=>Jn _ q) (Ç _) ?_,rfl,q _ (I.hok.fresh (Ç _))];show#[Nat.le_trans (mR xs lo d) hz,_,0,(r.drop (HT.dX ↑xs 0 lo)).take (HT.dX ↑xs ↑xs d-HT.dX ↑xs 0 lo),Ê _ rfl]
noncomputable def gb:V->ϑ
 |.non=>true|.bl _=>true|.int _=>true
 |.str _=>true|_=>false
noncomputable def CP:V->V->ϑ
 |.non,.non=>true|.bl a,.bl b=>a==b
 |.bl a,.int b=>(if a then 1 else 0)==b|.int a,.bl b=>a==(if b then 1 else 0)|.int a,.int b=>a==b|.str a,.str b=>a==b|_,_=>false
theorem FZ(e:RelV y u)(c:RelV x v)(f:gb y=true)(d:gb x=true):SeqAt.EqAt A s u v (CP y x):=by cases y with
 |non=>
  cases e;cases x with
  |non=>cases c;show SeqAt.EqAt.same _|bl b=>cases c;show SeqAt.EqAt.none_bool b|int b=>let#[t,rfl]:=c;show SeqAt.EqAt.none_int b t|str b=>let#[t,rfl]:=c;show SeqAt.EqAt.none_str b t|_=>show absurd (show false=true from d) Î
 |bl a=>
  cases e;cases x with|non=>cases c;show SeqAt.EqAt.bool_none a|bl b=>cases c;show SeqAt.EqAt.bool_bool a b|int b=>let#[t,rfl]:=c;show SeqAt.EqAt.bool_int a b t|str b=>let#[t,rfl]:=c;show SeqAt.EqAt.bool_str a b t|_=>show absurd (show false=true from d) Î
 |int a=>
  let#[t',rfl]:=e;cases x with
  |non=>cases c;show SeqAt.EqAt.int_none a t'|bl b=>cases c;show SeqAt.EqAt.int_bool a t' b|int b=>let#[t,rfl]:=c;show SeqAt.EqAt.int_int a t' b t|str b=>let#[t,rfl]:=c;show SeqAt.EqAt.int_str a t' b t|_=>show absurd (show false=true from d) Î
 |str a=>
  let#[t',rfl]:=e;cases x with
  |non=>cases c;show SeqAt.EqAt.str_none a t'|bl b=>cases c;show SeqAt.EqAt.str_bool a t' b|int b=>let#[t,rfl]:=c;show SeqAt.EqAt.str_int a t' b t|str b=>let#[t,rfl]:=c;show SeqAt.EqAt.str_str a t' b t|_=>show absurd (show false=true from d) Î
 |_=>show absurd (show false=true from f) Î
noncomputable def qQ(x:V)(u:ϋ):ϑ:=match u with
 |.none=>CP .non x|.bool b=>CP (.bl b) x|.int i _=>CP (.int i) x|.str z _=>CP (.str z) x|_=>false
theorem sG(r:RelV y u)(f:gb y=true):qQ x u=CP y x:=by cases y with
 |non=>cases r;rfl|bl b=>cases r;rfl|int i=>let#[t,rfl]:=r;rfl|str z=>let#[t,rfl]:=r;rfl|_=>show absurd (show false=true from f) Î
theorem kO{x:V}:∀{xs:ϊ V}{us:ϊ ϋ},Vals xs us->xs.all gb=true->us.any (qQ x)=xs.any λy=>CP y x
 |_,_,.nil,_=>rfl|y::xs,u::us,.cons r t,f=>by rw[List.all_cons,ù]at f;rw[Ľ,Ľ,sG r f.1,kO t f.2]
theorem je{A:ϖ}{x:V}{v:ϋ}(c:RelV x v)(b:gb x=true):∀{xs:ϊ V}{us:ϊ ϋ},Vals xs us->xs.all gb=true->∀u∈us,SeqAt.EqAt A s u v (qQ x u)
 |_,_,.nil,_=>λu a=>by cases a|y::xs,u::us,.cons r t,f=>λd a=>by
  rw[List.all_cons,ù]at f;rcases Å.mp a with rfl|a;.rw [sG r f.1];show FZ r c f.1 b
  .show je c b t f.2 d a
noncomputable def inV(x:V)(xs:ϊ V):ϑ:=xs.any λy=>CP y x
def G3(K:Ϗ)(neg:ϑ):R2:=λx y H Q=>∃p xs,y=.ref p/\(SqL K H p xs\/SqT K H p xs)/\gb x=true/\xs.all gb=true/\Q (.bl (if neg then not (inV x xs)else inV x xs)) H
theorem CQ:gA X (compareOp .In) (G3 X.K false):=by
 intro e s i H x y v u Q I f g h;let#[p,xs,rfl,b,d,fs,q]:=h;cases g;rcases b with b|b;.obtain ⟨a,r,pl,hz⟩:=I.list b;show SeqAt.in_listAt (qQ x) pl.isList (λw c=>je f d r fs w (by simpa using c)) #[.bl _,H,I,rfl,?_];rw[show a.toArray.any (qQ x)=a.any (qQ x)by simp,kO r fs];show q
 .obtain ⟨a,r,pl,hz⟩:=I.tuple b;show SeqAt.in_tupleAt (qQ x) pl (λw c=>je f d r fs w (by simpa using c)) #[.bl _,H,I,rfl,?_];rw[show a.toArray.any (qQ x)=a.any (qQ x)by simp,kO r fs];show q
theorem sI:gA X (compareOp .NotIn) (G3 X.K true):=by
 intro e s i H x y v u Q I f g h;let#[p,xs,rfl,b,d,fs,q]:=h;cases g;rcases b with b|b;.obtain ⟨a,r,pl,hz⟩:=I.list b;show SeqAt.notIn_listAt (qQ x) pl.isList (λw c=>je f d r fs w (by simpa using c)) #[.bl _,H,I,rfl,?_];rw[show a.toArray.any (qQ x)=a.any (qQ x)by simp,kO r fs];show q
 .obtain ⟨a,r,pl,hz⟩:=I.tuple b;show SeqAt.notIn_tupleAt (qQ x) pl (λw c=>je f d r fs w (by simpa using c)) #[.bl _,H,I,rfl,?_];rw[show a.toArray.any (qQ x)=a.any (qQ x)by simp,kO r fs];show q
theorem sJ:bC X (.type "list") (λxs H Q=>∃p ys,xs=[.ref p]/\(SqL X.K H p ys\/SqT X.K H p ys)/\∀l,H l=none->Q (.ref l) (upd H l (.lst ys))):=by
 intro j s x H xs us Q I r h;let#[p,ys,rfl,g,q]:=h;let#[u,rfl,v]:=vals1 r;cases v;have fin:∀(a:ϊ ϋ),Vals ys a->↑ys<=sizeLine->∀(h':ϒ)(c:Nat),(∀b o',s.heap.get? b=!o'->h'.get? b=!o')->h'.get? s.heap.objs.size=!{cls:=.type "list",dict:=none,data:=.seq a.toArray c,slots:=([].toArray)}->EP X j x Q (.ref s.heap.objs.size) {s with heap:=h'}:=λa d hz h' c i e=>#[.ref s.heap.objs.size,_,I.laid (t':=s.toks) i (Ç _) (show ObjOk X.prog X.w _ h' _ (.lst ys)from#[hz,a,c,d,e]),rfl,q _ (I.hok.fresh (Ç _))];rcases g with g|g
 .obtain ⟨a,d,pl,hz⟩:=I.list g;have f:=↑d;let#[o,t,k,n,m]:=pl.isList;show call_list_seq p (.inl rfl) t k m (λh' c i e=>fin a d hz h' c i e) (by simp only[Í]<;>rfl')
 .obtain ⟨a,d,pl,hz⟩:=I.tuple g;have f:=↑d;let#[o,t,k,n,m]:=pl;show call_list_seq p (.inr rfl) t k m (λh' c i e=>fin a d hz h' c i e) (by simp only[Í]<;>rfl')
theorem qz:bC X (.type "tuple") (λxs H Q=>∃p ys,xs=[.ref p]/\((SqL X.K H p ys/\∀l,H l=none->Q (.ref l) (upd H l (.tup ys)))\/(SqT X.K H p ys/\Q (.ref p) H))):=by
 intro a s i H xs us Q I r h;let#[p,ys,rfl,h]:=h;let#[u,rfl,m]:=vals1 r;cases m;rcases h with⟨hq,q⟩|⟨hq,q⟩
 .obtain ⟨c,d,pl,hz⟩:=I.list hq;have g:=↑d;show call_tuple_list pl.isList (λh' k=>?_) (by simp only[Í]<;>rfl');have f:Inv X a i H {s with heap:=h'}:=I.kept (t':=s.toks) k;have j:Inv X a i (upd H h'.objs.size (.tup ys)) {s with heap:=h'.push {cls:=.type "tuple",data:=.seq c.toArray}}:=f.laid (t':=s.toks) (λb o e=>Jn _ e) (Ç _) (show ObjOk X.prog X.w _ _ _ (.tup ys)from#[hz,c,d,IsTup.new _ _]);show#[.ref h'.objs.size,_,j,rfl,q _ (f.hok.fresh (Ç _))]
 .obtain ⟨c,d,pl,hz⟩:=I.tuple hq;show call_tuple_same pl #[.ref p,H,I,rfl,q]
def QC(K:Ϗ)(T:String)(x:V)(H:Hp):Prop:=match x with
 |.str _=>T="str"
 |.int _=>T="int"|.ref p=>(T="list"/\∃xs,SqL K H p xs)\/(T="tuple"/\∃o,K.lookup p=!o/\o.cls=.type "tuple"/\o.dict=none)\/(T="dict"/\((∃kvs,H p=!(.dK kvs))\/∃kvs,H p=!(.dT kvs)))\/(T="set"/\∃S n,H p=!(.set S n))|_=>False
theorem G4(I:Inv X io σ H s)(r:RelV x v)(d:QC X.K T x H):s.TypeIs v T/\∀a,v=.ref a->∃ob,s.heap.get? a=!ob/\ob.dict=none:=by cases x with
 |str z=>
  let#[t,rfl]:=r;cases(show T="str"from d);show#[typeIs_str s z t,λ_ e=>nomatch e]|int i=>
  let#[t,rfl]:=r;cases(show T="int"from d);show#[typeIs_int s i t,λ_ e=>nomatch e]|ref p=>
  cases r;rcases d with⟨rfl,xs,hq⟩|⟨rfl,o,hk,hc,g⟩|⟨rfl,hk⟩|⟨rfl,S,n,hk⟩
  .obtain ⟨h,_,pl,_⟩:=I.list hq;show#[pl.isList.typeIs,λa e=>?_];cases e;let#[o,n,e,c,g,_]:=pl;show#[o,e,g]
  .show #[#[o,I.kIn p o hk,hc],λa e=>?_];cases e;show#[o,I.kIn _ o hk,g]
  .have z:∃o,s.heap.get? p=!o/\o.ExactDict:=by
    rcases hk with⟨kvs,hk⟩|⟨kvs,hk⟩;.obtain ⟨_,_,_,_,o,_,_,e,b,_⟩:=I.hok p _ hk;show#[o,e,b]
    .obtain ⟨_,_,_,_,o,_,_,e,b,_⟩:=I.hok p _ hk;show#[o,e,b]
   let#[o,e,b]:=z;show#[#[o,e,b.1],λa f=>?_]
   cases f;show#[o,e,b.2.1]
  .obtain ⟨o,_,_,_,e,b,_⟩:=I.hok p _ hk;show#[#[o,e,b.1],λa f=>?_];cases f;show#[o,e,b.2.1]|_=>show False.elim d
def LR(K:Ϗ)(T:String)(r:V->ϊ V->Hp->VK->Prop)(to:TE):TE:=λσ H Q=>to σ H λx H1=>QC K T x H1/\r x [] H1 Q
def oU(K:Ϗ)(T:String)(r:V->ϊ V->Hp->VK->Prop)(to:TE)(t:TA):TE:=λσ H Q=>to σ H λx H1=>QC K T x H1/\t σ H1 λxs H2=>r x xs H2 Q
variable{o e:Expr}{es:ϊ Expr}{to:TE}{t:TA}{name:ϐ}{apos cpos:Pos}{T id:String}{r:V->ϊ V->Hp->VK->Prop}
theorem QD(p:PlainAttrs T)(d:Slot T name id)(e:typeOf (.builtin id)=pure (.type "method_descriptor"))(m:Qy X id r)(n:PE X o to)(b:attributeBase o name X.env (eval o X.env)=eval o X.env:=by rfl) (c:(apos.endLine==cpos.line)=true:=by rfl):PE X (.Call (.Attribute o name apos) [] [] cpos) (LR X.K T r to):=by intro a s i H Q I h;show Ž b c (bu (n a s i H _ I h) λv t ⟨x,j,f,g,ty,q⟩=>?_);let#[k,l]:=G4 f g ty;show#[T,id,p,d,e,k,l,Ē rfl (ξ (m a t i j x [] v [] Q f g .nil q))]
theorem Ww(C:PlainAttrs T)(g:Slot T name id)(i:typeOf (.builtin id)=pure (.type "method_descriptor"))(z:Qy X id r)(A:PE X o to)(y:PA X (e::es) t)(c:attributeBase o name X.env (eval o X.env)=eval o X.env:=by rfl)(f:((backTo cpos (starEach (e::es) X.env)).all (λx=>not x.1)&&(backToKw cpos (keywordEach [] X.env)).all (λx=>x.1.isSome)&&decide (↑(e::es)+↑([]:ϊ Keyword)+(if([]:ϊ Keyword).isEmpty then 0 else 1)<30))=true:=by rfl)(d:(apos.endLine==cpos.line)=true:=by rfl) (B:starEach (e::es) X.env=(false,eval e X.env)::starEach es X.env:=by rfl) (b:(backTo cpos (starEach es X.env)).any (·.1)=false:=by rfl):PE X (.Call (.Attribute o name apos) (e::es) [] cpos) (oU X.K T r to t):=by intro a s j H Q I h;show wpAny_Call_method_late c f d rfl (bu (A a s j H _ I h) λv G ⟨x,n,k,m,ty,D⟩=>?_);let#[u,w]:=G4 k m ty;show#[T,id,C,g,i,u,w,?_];have l:=y cpos a G j n _ k D;rw[B]at l⊢;show Ē (by change(false||(backTo cpos (starEach es X.env)).any (·.1))=false;rw[b]<;>rfl) (Ĳ ?_);show bu l λus J ⟨vs,p,q,F,E⟩=>z a J j p x vs v us Q q m F E
end
def Wb(X:Cx)(id:String)(r:V->ϊ V->Hp->VK->Prop):Prop:=∀(io:ϸ)(s:ώ)(σ:St)(H:Hp)(x:V)(xs:ϊ V)(v:ϋ)(us:ϊ ϋ)(Q:VK),Inv X io σ H s->RelV x v->Vals xs us->r x xs H Q->wpAny (model X.prog X.w) X.A (call (.builtin id) (v::us)) (EP X io σ Q) X.xe s
theorem Vals.one:∀{x:V}{us:ϊ ϋ},Vals [x] us->∃u,us=[u]/\RelV x u|_,_,.cons r .nil=>#[_,rfl,r]
theorem Vals.two:∀{x y:V}{us:ϊ ϋ},Vals [x,y] us->∃u v,us=[u,v]/\RelV x u/\RelV y v|_,_,_,.cons r (.cons q .nil)=>#[_,_,rfl,r,q]
theorem Vals.zero:∀{us:ϊ ϋ},Vals [] us->us=[]|_,.nil=>rfl
theorem Vals.dropLast(h:Vals xs us):Vals xs.dropLast us.dropLast:=by induction h with
 |nil=>show .nil|cons r t ih=>cases t with
  |nil=>show .nil|cons q t'=>show .cons r ih
theorem Vals.eraseIdx:∀{xs:ϊ V}{us:ϊ ϋ}(i:Nat),Vals xs us->Vals (xs.eraseIdx i) (us.eraseIdx i)
 |_,_,_,.nil=>.nil|_,_,0,.cons _ t=>t|_,_,i+1,.cons r t=>.cons r (Vals.eraseIdx i t)
theorem Vals.rep(h:Vals xs us):∀k:Nat,Vals (List.replicate k xs).flatten (List.replicate k us).flatten
 |0=>.nil|k+1=>by rw[ĺ,ĺ,Ζ,Ζ];show Vals.append h (Vals.rep h k)
theorem xf{c:Type}(l:ϊ c):l.eraseIdx (↑l-1)=l.dropLast:=by induction l with
 |nil=>rfl|cons a r ih=>cases r with
  |nil=>rfl|cons b r=>
   have e:↑(a::b::r)-1=(↑(b::r)-1)+1:=by have d:↑(a::b::r)=↑r+2:=rfl;have f:↑(b::r)=↑r+1:=rfl;rfl'
   rw[e,List.eraseIdx_cons_succ,ih];all_goals rfl
theorem qR{a:Type}:∀(l:ϊ a)(i:Nat),↑(l.eraseIdx i)<=↑l
 |[],_=>Ç _|_::_,0=>Nat.le_succ _|_::r,i+1=>Τ (qR r i)
theorem foldl_rep(b:ϊ ϋ):∀(k:Nat)(a:ϊ ϋ),List.foldl (λd f=>d++f) a.toArray (List.replicate k b.toArray)=(a++(List.replicate k b).flatten).toArray
 |0,a=>by simp|k+1,a=>by
  have e:a.toArray++b.toArray=(a++b).toArray:=by simp
  have c:(a++b)++(List.replicate k b).flatten=a++(List.replicate (k+1) b).flatten:=by rw[ĺ,Ζ,ĕ]
  rw[<-c,<-foldl_rep b k (a++b),<-e,ĺ,θ]
section
variable{X:Cx}
theorem Inv.lset(I:Inv X io σ H s)(a:H l=!(.lst xs))(e:s.heap.get? l=!{cls:=.type "list",data:=.seq its.toArray n}) (c:f its.toArray=its'.toArray) (g:Vals ys its') (hz:↑ys<=sizeLine):Inv X io σ (upd H l (.lst ys)) {s with heap:=s.heap.update l (Obj.mapSeq f),toks:=t'}:=by have q:=PySem.IsL.update e f;rw[c]at q;show I.write (x:=l) (e:=l) (by rw[a];show trivial) (.inl rfl) (λh u b d=>(ó s.heap (Obj.mapSeq f) (Ne.symm b)).trans d) #[_,q] ?_;show#[hz,its',_,g,q]
theorem Inv.lnew(I:Inv X io σ H s)(a:Vals ys its)(hz:↑ys<=sizeLine):Inv X io σ (upd H s.heap.objs.size (.lst ys)) {s with heap:=s.heap.push {cls:=.type "list",data:=.seq its.toArray},toks:=t'}:=I.laid (λ_ _ q=>Jn _ q) (Ç _) #[hz,its,0,a,Ê _ rfl]
theorem Inv.fresh(I:Inv X io σ H s):H s.heap.objs.size=none:=I.hok.fresh (Ç _)
theorem Inv.lstM(I:Inv X io σ H s)(a:H l=!(.lst xs)):↑xs<=sizeLine/\∃(its:ϊ ϋ)(n:Nat),Vals xs its/\↑xs=↑its/\s.heap.get? l=!{cls:=.type "list",data:=.seq its.toArray n}:=by let#[z,its,n,r,e]:=I.hok l _ a;show#[z,its,n,r,↑r,e]
theorem uR(h:n<=sizeLine):Builtin.List.listTooLong n=false:=by unfold Builtin.List.listTooLong;show Ó ()
end
section
variable{X:Cx}
def bU:V->ϊ V->Hp->VK->Prop:=λx vs H Q=>∃l xs y,x=.ref l/\vs=[y]/\H l=!(.lst xs)/\↑xs<sizeLine/\Q .non (upd H l (.lst (xs++[y])))
theorem CT:Wb X "list.append" bU:=by
 intro c s j H x vs v us Q I g f h;let#[l,xs,y,rfl,rfl,b,hz,q]:=h;cases g;let#[u,rfl,d]:=f.one;let#[z,a,n,r,i,e]:=I.lstM b;show Ÿ F.slot_list_append #[_,e,rfl] F.entry_list_append (F.args_list_append_2 _ _) (PySem.list_append l a.toArray n u (by rw[Í];rfl')) #[e,?_];show#[.non,_,I.lset (its':=a++[u]) b e (by simp) (r.append (.cons d .nil)) ?_,rfl,q];rw[Â,Þ];rfl'
def sO:V->ϊ V->Hp->VK->Prop:=λx vs H Q=>∃l b xs zs,x=.ref l/\vs=[.ref b]/\H l=!(.lst xs)/\H b=!(.lst zs)/\↑xs+↑zs<=sizeLine/\Q .non (upd H l (.lst (xs++zs)))
theorem CV:Wb X "list.extend" sO:=by
 intro g s B H x vs v us Q I w t h;let#[l,b,xs,zs,rfl,rfl,f,j,hz,q]:=h;cases w;let#[u,rfl,p]:=t.one;cases p;let#[z,c,n,r,y,e]:=I.lstM f;let#[A,a,m,o,k,i]:=I.lstM j;have hsz:c.toArray.size+a.toArray.size<=sizeLine:=by rw[Í,Í];rfl'
 have d:¬(not c.toArray.isEmpty&&Builtin.List.listTooLong (c.toArray.size+a.toArray.size))=true:=by rw[uR hsz,Bool.and_false];show Î
 show Ÿ F.slot_list_extend #[_,e,rfl] F.entry_list_extend (F.args_list_extend_2 _ _)
  (AutoSeq1.list_extend_list_list_0 l c.toArray n b a.toArray m d (by rw[Í];rfl') ()) #[e,i,?_];show#[.non,_,I.lset (its':=c++a) f e (by simp) (r.append o) ?_,rfl,q];rw[Â];rfl'
def QF:V->ϊ V->Hp->VK->Prop:=λx vs H Q=>∃l xs y,x=.ref l/\vs=[]/\H l=!(.lst xs)/\xs[↑xs-1]?=!y/\Q y (upd H l (.lst xs.dropLast))
theorem QG:Wb X "list.pop" QF:=by
 intro f s p H x vs v us Q I o m h;let#[l,xs,y,rfl,rfl,d,j,q]:=h;cases o;have b:=m.zero;subst b;let#[z,a,n,r,g,e]:=I.lstM d;let#[u,i,k]:=r.get j;have c:a.toArray[a.toArray.size-1]?=!u:=by change a.toArray[↑a-1]?=!u;rw[<-ÿ,<-g];show i
 show Ÿ F.slot_list_pop #[_,e,rfl] F.entry_list_pop (F.args_list_pop_1 _) (MeetsSeq.list_pop_last l a.toArray n u c (by rw[Í];rfl')) #[e,?_];show#[y,_,I.lset (its':=a.dropLast) d e ?_ r.dropLast ?_,k,q];.show a.toArray.eraseIdxIfInBounds (a.toArray.size-1)=a.dropLast.toArray;rw[Í,List.eraseIdxIfInBounds_toArray,xf]
 .rw [List.length_dropLast];rfl'
def xg:V->ϊ V->Hp->VK->Prop:=λx vs H Q=>∃l xs i k y,x=.ref l/\vs=[.int i]/\H l=!(.lst xs)/\-(2^63)<=i/\i<2^63/\seqIndex? i ↑xs=!k/\xs[k]?=!y/\Q y (upd H l (.lst (xs.eraseIdx k)))
theorem G5:Wb X "list.pop" xg:=by
 intro d s D H x vs v us Q I C B h;let#[l,xs,i,k,y,rfl,rfl,c,f,g,j,p,q]:=h;cases C;let#[u,rfl,A]:=B.one;let#[t,rfl]:=A;let#[z,a,n,r,m,e]:=I.lstM c;let#[w,o,b]:=r.get p;show Ÿ F.slot_list_pop #[_,e,rfl] F.entry_list_pop (F.args_list_pop_2 _ _)
  (MeetsSeq.list_pop_at l a.toArray n i t k w (fitsIndex_both f g) (by rw[Í,<-m];show j) (by rw[<-ÿ];show o) (by rw[Í];rfl')) #[e,?_];show#[y,_,I.lset (its':=a.eraseIdx k) c e ?_ (r.eraseIdx k) ?_,b,q];.show a.toArray.eraseIdxIfInBounds k=(a.eraseIdx k).toArray;rw[List.eraseIdxIfInBounds_toArray]
 .have:=qR xs k;rfl'
def xj:R2:=λx y H Q=>∃l b xs zs,x=.ref l/\y=.ref b/\H l=!(.lst xs)/\H b=!(.lst zs)/\↑xs+↑zs<=sizeLine/\∀p,H p=none->Q (.ref p) (upd H p (.lst (xs++zs)))
theorem oV:gA X (binaryOp .Add) xj:=by
 intro d s B H x y v u Q I o p h;let#[l,b,xs,zs,rfl,rfl,j,i,hz,q]:=h;cases o;cases p;let#[z,c,n,r,t,e]:=I.lstM j;let#[A,a,w,m,k,f]:=I.lstM i;show PySem.P.add_list e f ?_ (by rw[Í,Í];rfl');have g:c.toArray++a.toArray=(c++a).toArray:=by simp
 rw[g];show#[.ref _,_,I.lnew (t':=s.toks) (r.append m) (by rw[Â];rfl'),rfl,q _ I.fresh]
theorem len_rep{a:Type}(xs:ϊ a)(k:Nat):↑(List.replicate k xs).flatten=k*↑xs:=by induction k with
 |zero=>simp|succ k ih=>rw[ĺ,Ζ,Â,ih,Nat.succ_mul,ů]
end
end L2
namespace Att
open PySem PySem.W PySem.Calls PyProof.Rows
variable{n:Nat}
theorem nA:∀(ns:ϊ Int)(vs:ϊ ϋ),WellAll P h vs (ns.map WData.int)->IntsAre vs ns:=by intro ns;induction ns with
 |nil=>
  intro vs w;rw[Č]at w;cases w;show .nil|cons n ns ih=>
  intro vs w;rw[È]at w;cases w with|cons a b=>cases a;show .cons _ _ (ih _ b)
theorem CW{l:OpenLaw}(p:l.most=!n){P:Params}{h:ϒ}(b:l.row.toRowW.claim.pre args=true) (i:WellAll P h vals args):∃a vs ns,vals=[Value.ref a]/\args=[WData.list (ns.map WData.int)]/\h.get? a=!{cls:=.type "list",data:=.seq vs.toArray}/\IntsAre vs ns/\↑ns<=n:=by
 have g:WShape.hasAll [] args [.list .int]=true:=(pre_splitW b).1;have j:l.pre.holds [] {args:=args}=true:=(pre_splitW b).2;let#[d,r,rfl,k,m]:=hasAllW_cons g;obtain rfl:=hasAllW_nil m;let#[xs,rfl,o]:=hasW_list k;let#[ns,rfl]:=items_int o;have c:↑ns<=n:=by
  unfold OpenLaw.pre at j;have e:(WTm.not (.lt (.lit (.int (n:Int))) (.len (.arg 0)))).holds [] {args:=[.list (ns.map .int)] }=true:=by have e:=(holds_andW j).1;rw[p]at e;show e
  have f:=condW_of e (w_not (w_lt w_lit (w_len_list (w_arg rfl))));rw[Qb]at f;show Nat.le_of_not_lt λq=>?_
  have s:(n:Int)<((↑ns:Nat):Int):=();first
   |(rw[Õ s]at f;show absurd f (by decide))|(simp at f;rfl')
 cases i with|cons w1 w2=>
  cases w2;cases w1 with
  |list ho hall=>show#[_,_,ns,rfl,rfl,ho,nA ns _ hall,c]
theorem CZ(l:OpenLaw)(args:ϊ WData):l.row.toRowW.claim.post args (.bool true) args=true:=postW_of (r:=l.row.toRowW) (X:=(true==true))
  (show WShape.has [] (.bool true) .bool=true by first|rfl|decide| simp[WShape.has,WShape.arms,WShape.armsAll])
  (show(WTm.eq .res (.lit (.bool true))).value [] {args:=args,res:=!(.bool true),after:=args}=!(.bool (true==true))from w_eq_bool (w_res rfl) w_lit) rfl
theorem uT{l:OpenLaw}(I:l.most=!n) (m:d.params.defaults=[])(b:∀(w:ϕ)(s₀ s₁:ώ)(mg t:ϐ->ύ ϋ)(g:ό)(o:Obj)(u cd c:ϋ)(a:ό)(vs:ϊ ϋ)(ns:ϊ Int),Ground q loose [] XP w s₀ mg t s₁.heap->YP w s₁.heap->s₁.heap.get? g=!o->o.data=.func (docDef d.name d.params d.body d.scope u cd c)->s₁.heap.CodeRec cd d.name->mg d.name=!(.ref g)->
   s₁.heap.get? a=!{cls:=.type "list",data:=.seq vs.toArray}->IntsAre vs ns->↑ns<=n->s₁.gens=([].toArray)->
   codeAny (model l.prog w) callerA (.call (.ref g) #[[.ref a],[]]) (λr s'=>r=.ok (.ret (.bool true))/\OldK s₁.heap s'.heap/\s'.os=s₁.os/\AllBare s'.gens) s₁):WalkO q loose XP YP l.row.toRowW d [] (λf vs=>PySem.call f vs):=by intro w s₀ s₁ mg t G Y g o u cd c z kV J D k v p E args y M j x L s F;obtain rfl:z=.none:=Dflts.none v m;obtain rfl:kV=.none:=Dflts.noKw v;let#[a,vs,ns,rfl,rfl,i,e,h]:=CW I j s;show enter_call (τ (b w s₀ s₁ mg t g o u cd c a vs ns G Y J (fd_plain D) k p i e h E) λr s' K=>?_);let#[rfl,A,B,C]:=K;show#[.inl #[.bool true,.bool true,[],rfl,λ_=>rfl,.bool true,CZ l _,λ_=>#[List.Pairwise.nil,λ_ H=>(nomatch H)]],A,B,C]
section
noncomputable def ledger(h:ϒ)(L d:ό):ϸ:=(List.range h.objs.size).filterMap λa=>if a=L\/a=d then none else(h.get? a).map λo=>(a,o)
end
end Att
namespace L2
open PySem PySem.Spec PyProof.Rows
variable{y:V}{n:Nat}{H:Hp}{pos:Pos}{st:Stmt}{w:ϕ}{A:ϖ}{d:DefRec}{a b f:ό}{qual x:ϐ}{fd:FuncData}{CX:ϕ->Fy}{sp:ϕ->Sp}{oc u:ϋ}{an:ύ ό}{loose:ϊ ϐ}{prog q:ϓ}{YP:ϕ->ϒ->Prop}{E Q:϶}{osl:ϔ (ύ ϋ)}{XP:(ϐ->ύ ϋ)->ϒ->Prop}
theorem lY:∀{vs:ϊ ϋ}{ns:ϊ Int},IntsAre vs ns->Vals (ns.map V.int) vs
 |_,_,.nil=>.nil|_,_,.cons n t h=>.cons #[t,rfl] (lY h)
def Only(H:Hp):Prop:=∀b,H b=none\/∃o xs,H b=!(.frz o (.lst xs))
theorem G6{P:ϓ}{K:Ϗ}{D O:ϐ->ύ ϋ}{CX:Fy}{k:Nat}{J:ό}{sp:Sp}{vs:ϊ ϋ}{ns:ϊ Int}(R:K.In s₁.heap) (y:s₁.heap.Ns mainGlobals D) (f:s₁.heap.Ns builtinsNs O) (M:∀x:ϐ,x≠"__name__"->O x=bootBuiltins x) (t:s₁.heap.NoLimit) (hg:s₁.gens=([].toArray))(G:s₁.heap.get? a=!{cls:=.type "list",data:=.seq vs.toArray}) (X:IntsAre vs ns) (Y:↑ns<=sizeLine) (hr:Room k callerA)(F:∀base:ϒ,K.In base->base.Ns mainGlobals D->FnOk P w K D base CX k J fd [x] sp) (j:∀(s:ώ)(u:ϋ),BindsTo s fd #[[u],[]] [(x,u)])(N:∀H:Hp,Only H->SqL K H a (ns.map V.int)->sp [.ref a] H (λv _=>v=.bl true) λ_ _ _=>False)(L:∀H e s',CX [] H s₁ (λ_ _ _=>False) e s'->False):codeAny (model P w) callerA (.call (.ref J) #[[.ref a],[]]) (λr s'=>r=.ok (.ret (.bool true))/\OldK s₁.heap s'.heap/\s'.os=s₁.os/\AllBare s'.gens) s₁:=by
 have Z:=lY X;have C:=↑X;have i:∀H:Hp,Only H->SqL K H a (ns.map V.int)->HOk P w H s₁.heap-> (∀b,H b ≠ none->b=a)-> (H a ≠ none->K.lookup a=none)->codeAny (model P w) callerA (.call (.ref J) #[[.ref a],[]]) (λr s'=>r=.ok (.ret (.bool true))/\OldK s₁.heap s'.heap/\s'.os=s₁.os/\AllBare s'.gens) s₁:=by
  intro H U hS A T hK;have c:∀{b:ό}{o:Obj},s₁.heap.get? b=!o->H b=none->(rQ s₁.heap H).get? b=!o:=λe n=>Ey e n;have Q:∀{b:ό}{o:Obj}{es:ϔ DictEntry}{ep:Nat},s₁.heap.get? b=!o->o.data=.dict es ep->H b=none:=λ{b o es ep} e d=>by cases q:H b with
   |none=>rfl|some u=>
    have I:b=a:=T b (by rw[q];simp);subst I;rw[G]at e;cases e;have d':Data.seq vs.toArray _=Data.dict es ep:=d;cases d'
  have g:∀{b:ό}{m:ϐ->ύ ϋ},s₁.heap.Ns b m->(rQ s₁.heap H).Ns b m:=λ{b m} ⟨o,es,ep,e,d,r⟩=>#[o,es,ep,c e (Q e d),d,r];have p:K.In (rQ s₁.heap H):=λb o e=>c (R b o e) (by cases q:H b with|none=>rfl|some u=>have I:b=a:=T b (by rw[q];simp);subst I;rw[hK (by rw[q];simp)]at e;cases e);have hM:Mod K D (rQ s₁.heap H):=#[p,g y,#[O,g f,M],let⟨mc,h1,h2⟩:=t;#[mc,g h1,h2]];have e0:Env0 P w K D (rQ s₁.heap H) callerA [] s₁ H:=#[rfl,hM,λb o e=>Lg e,Nat.le_of_eq (Cq _ _),trivial,λb f=>absurd (show b∈([]:ϊ ό)from f) (by simp),A,.of_eq hg];show τ ((F _ p (g y)).run callerA [] s₁ H #[[.ref a],[]] [.ref a] [.ref a] _ _ hr e0 (j s₁ (.ref a)) (.cons rfl .nil) (N H U hS)) λr s' h=>?_;cases r with
  |error e=>show(L H e s' h).elim|ok fl=>cases fl with
   |next=>show False.elim h|brk=>show False.elim h|cont=>show False.elim h|ret u=>
    let#[v,H',os,l,un,B,r',q]:=h;have q':v=.bl true:=q;subst q';obtain rfl:u=Value.bool true:=r';show#[rfl,OldK.of_keep λb o e=>?_,os,l];cases q:H b with|none=>show un.keep b o e q (by intro z;show absurd (show b∈([]:ϊ ό)from z) (by simp)) (by simp)|some u=>
     rcases U b with z|⟨ob,xs,z⟩;.rw [q]at z;cases z
     .have z2:=un.frzs b ob _ z;let#[S,_]:=A b _ z;let#[e2,_]:=B b _ z2;rw[e]at S;cases S;show e2
 cases hk:K.lookup a with
 |some o=>
  have e:=R a o hk;rw[G]at e;cases e;show i (λ_=>none) (λ_=>.inl rfl) (.inr #[_,vs.toArray,_,hk,rfl,rfl,rfl,by rw[Í,C];show Y,by simpa using Z]) (λb u z=>by have E:(none:ύ HO)=!u:=z;cases E) (λb z=>absurd rfl z) λz=>absurd rfl z|none=>
  show i (λb=>if b=a then !(.frz {cls:=.type "list",data:=.seq vs.toArray} (.lst (ns.map V.int)))else none) (λb=>?_) (.inl (.inr #[{cls:=.type "list",data:=.seq vs.toArray},if_pos rfl])) (λb u z=>?_) (λb z=>?_) λ_=>hk
  .by_cases f:b=a;.show .inr #[_,_,if_pos f]
   .show .inl (if_neg f)
  .by_cases f:b=a;.have E:=(if_pos f).symm.trans z;cases E;subst f;show#[G,by rw[Qb];show Y,vs,_,Z,G]
   .have E:=(if_neg f).symm.trans z;cases E
  .by_cases f:b=a;.show f
   .show absurd (if_neg f) z
abbrev KOf{K:Ϗ}{h:ϒ}(_:K.In h):Ϗ:=K
theorem M3{l:W.OpenLaw}{k:Nat}{K:Params->Ϗ}(P:l.most=!n) (z:n<=sizeLine) (t:d.params.defaults=[]) (Q:Room k callerA)(L:∀(w:ϕ)(h:ϒ),YP w h->(K w.params).In h)(F:∀(w:ϕ)(mg:ϐ->ύ ϋ)(p:ό)(h:ϒ),(K w.params).In h->h.Ns mainGlobals mg->mg d.name=!(.ref p)->∃fd:FuncData,(∀(s:ώ)(u:ϋ),BindsTo s fd #[[u],[]] [(x,u)])/\∀base:ϒ,(K w.params).In base->base.Ns mainGlobals mg->FnOk l.prog w (K w.params) mg base (CX w) k p fd [x] (sp w))(A:∀(w:ϕ)(H:Hp)(a:ό)(ns:ϊ Int),↑ns<=n->Only H->SqL (K w.params) H a (ns.map V.int)->sp w [.ref a] H (λv _=>v=.bl true) λ_ _ _=>False)(r:∀(w:ϕ)(H:Hp)(s:ώ)(e:ϋ)(s':ώ),CX w [] H s (λ_ _ _=>False) e s'->False):PySem.W.WalkO q loose XP YP l.row.toRowW d [] (λf vs=>PySem.call f vs):=by
 show Att.uT P t λw C m mg X p o Z R D a vs ns G Y U S N y j i c O=>?_;have B:=L w _ Y;let#[fd,M,E]:=F w mg p _ B G.T.g y;show G6 B G.T.g G.T.b G.T.builtins G.T.nolimit O j i (Ð c z) Q E M (λH I J=>A w H a ns c I J) λH e s'=>r w H m e s'
abbrev Pb:Fy:=λ_ _ _ _ _ _=>False
abbrev E0:XK:=λ_ _ _=>False
theorem Ph{X:Cx}:gM Pb X E0:=λ_ _ _ _ _ _ _ h=>h.elim
structure Fun(K:Ϗ)(x qual:ϐ)(st:Stmt)(f:ό)(fd:FuncData):Prop where
 ex:∃(oc:ϋ)(od:ύ ό)(kV doc pm:ϋ)(an:ύ ό)(cdv ct:ϋ)(osl:ϔ (ύ ϋ)),fd=W.fnOf x qual (fM st) (dG st) (au st) .none kV doc pm an cdv ct/\K.lookup f=!#[oc,od,.func fd,osl]/\W.codeIn K cdv qual=true
 kp:W.keepIn K (.ref f)=true
section
variable{K:Ϗ}
theorem Fun.ok{N ps:ϊ ϐ}{k:Nat}{sp:Sp}(F:Fun K x qual st f fd)(S:FnScope N ps (au st))(e:∀vs H Q E,sp vs H Q E->↑vs=↑ps)(b:∀(a:ϋ)(A:ϖ)(outer:ϊ Env)(s:ώ)(H:Hp)(vs:ϊ V)(Q:VK)(E:XK),Room k (A.deeper (envOfC qual (au st) s.heap.objs.size f a))->sp vs H Q E->∃t,PSs (jT Pb P w K mg base N qual (au st) f a A outer s H E).nox (dG st) t/\t {nx:=λ_ H'=>Q .non H',rt:=Q} (start N vs) H):FnOk P w K mg base Pb (k+1) f fd ps sp:=by
 let#[m,n,kV,g,o,l,a,ct,j,rfl,lk,c]:=F.ex;show Pa lk c S e λA outer s H vs Q E i d=>?_;let#[t,h,q]:=b a A outer s H vs Q E i d;show#[t,h.nox,q]
theorem Fun.binds{ps:ϊ ϐ}(F:Fun K x qual st f fd)(h:∀(kV b c:ϋ)(an:ύ ό)(a ct:ϋ)(us:ϊ ϋ),↑us=↑ps->bindArgs (W.fnOf x qual (fM st) (dG st) (au st) .none kV b c an a ct) #[us,[]]=pure (ps.zip us)):Binds K fd ps []:=by let#[g,i,kV,b,c,an,a,ct,e,rfl,lk,d]:=F.ex;show .all (h kV b c an a ct)
theorem oW{e:ύ ό}{kV b d a ct:ϋ}(l:K.lookup f=!#[oc,e,.func (W.fnOf x qual (fM st) (dG st) (au st) .none kV b d an a ct),osl])(c:W.codeIn K a qual=true) (k:W.keepIn K (.ref f)=true):Fun K x qual st f (W.fnOf x qual (fM st) (dG st) (au st) .none kV b d an a ct):=#[#[oc,e,kV,b,d,an,a,ct,osl,rfl,l,c],k]
end
theorem bB{k:Nat}(a:Room k A):A.units+1<cLine:=Ñ (ο (by decide:1<=64) _) a.units
theorem Dc(h:n<=1000):n<sizeLine:=Ñ h (by decide)
section
variable{X:Cx}
theorem pv(i:Nat){x:ϐ}{pos:Pos}(b:X.N[i]?=!x:=by rfl)(d:Zh X.env.scope x:=by first|show Or.inl rfl|show Or.inr (Or.inl rfl)|show Or.inr (Or.inr rfl))(c:(x==("__debug__":ϐ))=false:=by decide)(a:(x==("__classdict__":ϐ))=false:=by decide):PE X (.Name x pos) (dH i):=Qk b d c a
end
theorem xm{A B:Prop}(h:B):if false=true then A else B:=by rw[if_neg Î];show h
theorem G7{A B:Prop}(h:A):if true=true then A else B:=by rw[if_pos rfl];show h
def Same(H H':Hp):Prop:=∀b o,H b=!o->H' b=!o
theorem Same.refl(H:Hp):Same H H:=λ_ _ h=>h
abbrev ix:=@Same.refl
theorem Same.trans{d:Hp}(a:Same H d)(b:Same d e):Same H e:=λc o h=>b c o (a c o h)
theorem Same.free(e:Same H H')(h:H' l=Option.none):H l=Option.none:=by cases q:H l with
 |none=>rfl|some o=>
  rw[e l o q]at h;cases h
theorem Same.seq{K:Ϗ}{xs:ϊ V}(e:Same H H')(h:SqL K H a xs):SqL K H' a xs:=by
 rcases h with(h|⟨o,h⟩)|h;.show .inl (.inl (e _ _ h))
 .show .inl (.inr #[o,e _ _ h])
 .show .inr h
section
variable{κ:Type}[DecidableEq κ]
noncomputable def bx(kvs:ϊ (κ×V))(k:κ):ύ V:=(kvs.find? λkv=>decide (kv.1=k)).map (·.2)
noncomputable def putK(kvs:ϊ (κ×V))(k:κ)(v:V):ϊ (κ×V):=
 if(kvs.any λkv=>decide (kv.1=k))=true then kvs.map (λkv=>if kv.1=k then(kv.1,v)else kv)else kvs++[(k,v)]
noncomputable def dm(kvs:ϊ (κ×V))(k:κ):ϊ (κ×V):=kvs.filter λkv=>decide (kv.1≠k)
theorem cj{p:κ×V}{r:ϊ (κ×V)}{k:κ}(e:p.1=k):bx (p::r) k=!p.2:=by simp[bx,đ,e]
theorem bN{p:κ×V}{r:ϊ (κ×V)}{k:κ}(e:¬p.1=k):bx (p::r) k=bx r k:=by simp[bx,đ,e]
theorem oX(k:κ):∀kvs:ϊ (κ×V),(kvs.any λa=>decide (a.1=k))=(bx kvs k).isSome
 |[]=>rfl|p::r=>by
  rw[Ľ];by_cases e:p.1=k;.simp only[cj e,Õ e,Bool.true_or,Option.isSome_some]
  .rw [bN e,Ó e,Bool.false_or];show oX k r
theorem qT(k j:κ)(y:V):∀kvs:ϊ (κ×V),bx kvs k=none->bx (kvs++[(k,y)]) j=if j=k then !y else bx kvs j
 |[],_=>by
  by_cases e:k=j;.rw [if_pos e.symm];show cj (p:=(k,y)) e
  .rw [if_neg (λz=>e z.symm)];show bN (p:=(k,y)) e|p::r,hn=>by
  rw[Ρ];have a:¬p.1=k:=λz=>by rw[cj z]at hn;cases hn
  rw[bN a]at hn;have b:=qT k j y r hn;by_cases e:p.1=j;.rw [cj e,cj e,if_neg (λz=>a (e.trans z))]
  .rw [bN e,bN e,b]
theorem jf(kvs:ϊ (κ×V))(k:κ)(v:V):↑(putK kvs k v)<=↑kvs+1:=by
 unfold putK;split;.rw [Qb];rfl'
 .rw [Â,ô,Š];rfl'
theorem f9{kvs:ϊ (κ×V)}{k:κ}(v:V)(h:bx kvs k=none):putK kvs k v=kvs++[(k,v)]:=by unfold putK;rw[oX,h];show if_neg (by decide)
theorem RelO.isSome_eq{u:ύ ϋ}(r:RelO o u):o.isSome=u.isSome:=by cases o with
 |none=>cases u with
  |none=>rfl|some _=>show(show False from r).elim
 |some _=>cases u with
  |none=>show(show False from r).elim|some _=>rfl
theorem RelO.getD{u:ύ ϋ}{d:V}(r:RelO o u)(a:RelV d d'):RelV (o.getD d) (u.getD d'):=by cases o with
 |none=>cases u with
  |none=>show a|some _=>show(show False from r).elim
 |some _=>cases u with
  |none=>show(show False from r).elim|some _=>show r
theorem KV.val{kvs:ϊ (κ×V)}{vs:ϊ (κ×ϋ)}(r:KV kvs vs)(k:κ):RelO (bx kvs k) (valueAt vs k):=by unfold KV at r;induction r with
 |nil=>show True.intro|@cons p q ps qs h t ih=>
  let#[c,d]:=h;by_cases e:p.1=k
  .have a:q.1=k:=c.symm.trans e;have b:valueAt (q::qs) k=!q.2:=by simp[valueAt,đ,a]
   rw[cj e,b];show d
  .have a:¬q.1=k:=λz=>e (c.trans z);have b:valueAt (q::qs) k=valueAt qs k:=by simp[valueAt,đ,a]
   rw[bN e,b];show ih
theorem KV.any{kvs:ϊ (κ×V)}{vs:ϊ (κ×ϋ)}(r:KV kvs vs)(k:κ):(kvs.any λa=>decide (a.1=k))=vs.any λa=>decide (a.1=k):=by unfold KV at r;induction r with
 |nil=>rfl|cons h t ih=>rw[Ľ,Ľ,ih,h.1]
theorem KV.repl{kvs:ϊ (κ×V)}{vs:ϊ (κ×ϋ)}(r:KV kvs vs)(k:κ)(d:RelV y u):KV (kvs.map λa=>if a.1=k then(a.1,y)else a) (vs.map λa=>if a.1=k then(a.1,u)else a):=by unfold KV at r⊢;induction r with
 |nil=>show .nil|@cons p q ps qs h t ih=>
  rw[È,È];show .cons ?_ ih;let#[b,c]:=h;by_cases e:p.1=k
  .rw [if_pos e,if_pos (b.symm.trans e)];show#[b,d]
  .rw [if_neg e,if_neg (λz=>e (b.trans z))];show#[b,c]
theorem KV.put{kvs:ϊ (κ×V)}{vs:ϊ (κ×ϋ)}(r:KV kvs vs)(k:κ)(a:RelV y u):KV (putK kvs k y) (stored vs k u):=by
 unfold putK stored;rw[r.any k];by_cases e:(vs.any λb=>decide (b.1=k))=true;.rw [if_pos e,if_pos e];show r.repl k a
 .rw [if_neg e,if_neg e];show Paired.snoc r #[rfl,a]
theorem KV.keys{kvs:ϊ (κ×V)}{vs:ϊ (κ×ϋ)}(r:KV kvs vs):kvs.map (·.1)=vs.map (·.1):=by
 unfold KV at r;induction r with
 |nil=>rfl|cons h t ih=>rw[È,È,ih,h.1]
theorem KV.length{kvs:ϊ (κ×V)}{vs:ϊ (κ×ϋ)}(r:KV kvs vs):↑kvs=↑vs:=ď r
theorem G8(kvs:ϊ (κ×V))(k:κ):↑(dm kvs k)<=↑kvs:=Ō _ _
end
theorem qU(r:RelV (kV k) u):(b8 P w).is k u=true:=by cases k with
 |inl i=>let#[t,e]:=(show∃t,u=Value.int i t from r);subst e;show uG P w i t|inr x=>let#[t,e]:=(show∃t,u=Value.str x t from r);subst e;show uH P w x t
theorem qW{w:ϕ}:∀{ks:ϊ Key}{us:ϊ ϋ},Vals (ks.map kV) us->ItemsAre (b8 P w) ks us
 |[],_,r=>by rw[Č]at r;cases r;show .nil|k::ks,_,r=>by
  rw[È]at r
  cases r with|cons h t=>show .cons (qU h) (qW t)
abbrev KT(H:Hp):ϊ (ϊ Key×V)->ϊ (ϊ Key×ό×ϋ)->Prop:=Paired λp q=>p.1=q.1/\H q.2.1=!(.tup (p.1.map kV))/\RelV p.2 q.2.2
theorem KT.val(r:KT H kvs xs)(k:ϊ Key):RelO (bx kvs k) ((atKey xs k).map (·.2)):=by induction r with
 |nil=>show True.intro|@cons p q ps qs h t ih=>
  let#[c,_,d]:=h;by_cases e:p.1=k
  .have a:q.1=k:=c.symm.trans e;have b:atKey (q::qs) k=!q.2:=by simp[atKey,đ,a]
   rw[cj e,b];show d
  .have a:¬q.1=k:=λz=>e (c.trans z);have b:atKey (q::qs) k=atKey qs k:=by simp[atKey,đ,a]
   rw[bN e,b];show ih
theorem KT.repl(r:KT H kvs xs)(k:ϊ Key)(f:RelV y u):KT H (kvs.map λb=>if b.1=k then(b.1,y)else b) (xs.map (putAt k u)):=by induction r with
 |nil=>show .nil
 |@cons p q ps qs h t ih=>
  rw[È,È];show .cons ?_ ih;let#[a,c,d]:=h;unfold putAt;by_cases e:p.1=k;.rw [if_pos e,if_pos (a.symm.trans e)];show#[a,c,f]
  .rw [if_neg e,if_neg (λz=>e (a.trans z))];show#[a,c,d]
theorem KT.put(r:KT H kvs xs)(k:ϊ Key)(c:H b=!(.tup (k.map kV)))(a:RelV y u):KT H (putK kvs k y) (storedH xs k b u):=by
 have e:(kvs.any λd=>decide (d.1=k))=(atKey xs k).isSome:=by rw[oX,(r.val k).isSome_eq,ő]
 unfold putK storedH;rw[e];by_cases q:(atKey xs k).isSome=true;.rw [if_pos q,if_pos q];show r.repl k a
 .rw [if_neg q,if_neg q];show Paired.snoc r #[rfl,c,a]
theorem KT.keeps(r:KT H kvs xs)(a:∀b ys,H b=!(.tup ys)->H' b=!(.tup ys)):KT H' kvs xs:=Paired.mapP r λ_ _ z=>#[z.1,a _ _ z.2.1,z.2.2]
section
theorem Pj{u:HO}(b:HOk P w H h)(e:Rd H a u):ObjOk P w H h a u:=e.ok b
theorem kW{kvs:ϊ (Key×V)}(b:HOk P w H h)(e:Rd H a (.dK kvs)):↑kvs<=sizeLine/\(a==sysModules)=false/\∃vs,KV kvs vs/\h.DictOf (b8 P w) a vs:=
 show ObjOk P w H h a (.dK kvs)from Pj b e
theorem Pk{kvs:ϊ (Key×V)}(b:HOk P w H h)(e:H a=!(.dK kvs)):↑kvs<=sizeLine/\(a==sysModules)=false/\∃vs,KV kvs vs/\h.DictOf (b8 P w) a vs:=kW b (.inl e)
theorem jg(i:HOk P w H h)(e:H a=!(.tup (c.map kV))):(tupleKind (b8 P w)).is h c a:=by let#[_,b,r,o,d,f,n,g]:=(show ObjOk P w H h a (.tup (c.map kV))from i a _ e);show#[o,b.toArray,n,d,f,g,by simpa using qW r]
theorem qX(c:HOk P w H h)(e:Rd H a (.dT kvs)):↑kvs<=sizeLine/\(a==sysModules)=false/\∃xs,KT H kvs xs/\h.DictOfH (tupleKind (b8 P w)) a xs:=by
 let#[z,y,xs,r,o,es,ep,d,f,g,i,j]:=(show ObjOk P w H h a (.dT kvs)from Pj c e);show#[z,y,xs,r,o,es,ep,d,f,g,i,λx b=>?_,j];have all:∀{l:ϊ (ϊ Key×V)}{m:ϊ (ϊ Key×ό×ϋ)},KT H l m->∀x∈m,(tupleKind (b8 P w)).is h x.1 x.2.1:=by intro l m q;induction q with
  |nil=>intro x b;show nomatch b|@cons p q ps qs hq t ih=>
   intro x b;rcases Å.mp b with e|b;.subst e;show jg c (by rw[<-hq.1];show hq.2.1)
   .show ih x b
 show all r x b
theorem qY(b:HOk P w H h)(e:H a=!(.dT kvs)):↑kvs<=sizeLine/\(a==sysModules)=false/\∃xs,KT H kvs xs/\h.DictOfH (tupleKind (b8 P w)) a xs:=qX b (.inl e)
end
def DGet(H:Hp)(a:ό)(y:V)(r:ύ V):Prop:=(∃kvs k,Rd H a (.dK kvs)/\y=kV k/\r=bx kvs k)\/∃kvs k b,Rd H a (.dT kvs)/\y=.ref b/\H b=!(.tup (k.map kV))/\r=bx kvs k
def DPut(H:Hp)(a:ό)(y v:V)(H':Hp):Prop:=(∃kvs k,H a=!(.dK kvs)/\y=kV k/\↑kvs<sizeLine/\H'=upd H a (.dK (putK kvs k v)))\/∃kvs k b,H a=!(.dT kvs)/\y=.ref b/\H b=!(.tup (k.map kV))/\↑kvs<sizeLine/\H'=upd H a (.dT (putK kvs k v))
theorem DGet.k{H:Hp}{a:ό}{kvs:ϊ (Key×V)}{k:Key}(e:H a=!(.dK kvs)):DGet H a (kV k) (bx kvs k):=.inl #[kvs,k,.inl e,rfl,rfl]
theorem DGet.t{k:ϊ Key}(e:H a=!(.dT kvs))(c:H b=!(.tup (k.map kV))):DGet H a (.ref b) (bx kvs k):=.inr #[kvs,k,b,.inl e,rfl,c,rfl]
theorem DPut.k{H:Hp}{a:ό}{kvs:ϊ (Key×V)}{k:Key}{v:V}(e:H a=!(.dK kvs))(b:↑kvs<sizeLine):DPut H a (kV k) v (upd H a (.dK (putK kvs k v))):=.inl #[kvs,k,e,rfl,b,rfl]
theorem DPut.t{k:ϊ Key}{v:V}(e:H a=!(.dT kvs))(c:H b=!(.tup (k.map kV)))(d:↑kvs<sizeLine):DPut H a (.ref b) v (upd H a (.dT (putK kvs k v))):=.inr #[kvs,k,b,e,rfl,c,d,rfl]
section
variable{X:Cx}
theorem Inv.big(I:Inv X io σ H s):sysModules<s.heap.objs.size:=by have h:mainGlobals<s.heap.objs.size:=(I.mod.glob.keeps I.bk).lt;show Η (by decide) h
theorem De(r:A.units+1<cLine)(I:Inv X io σ H s)(g:DGet H a y !v)(m:RelV y u)(h:∀f s',Inv X io σ H s'->RelV v f->Q f s'):wpAny (model X.prog X.w) A (getItem (.ref a) u) Q E s:=by
 rcases g with⟨kvs,k,e,ey,l⟩|⟨kvs,k,b,e,ey,eb,l⟩;.subst ey;let#[z,n,vs,c,dd]:=kW I.hok e;let#[f,j,d]:=RelO.some_of (v:=v) (o:=valueAt vs k) (by rw[l];show c.val k);show wpAny_getItem_of (qU m) dd.mapOf j (h f _ (I.tok _) d)
 .subst ey;cases(show u=Value.ref b from m);let#[z,n,xs,c,dd]:=qX I.hok e;let#[f,j,d]:=RelO.some_of (v:=v) (o:=(atKey xs k).map (·.2)) (by rw[l];show c.val k);let#[p,q,i]:=Ï.mp j;show wpAny_getItem_heap (Ń r) (jg I.hok eb) dd q ?_;rw[i];show h f _ (I.tok _) d
theorem ZG(i:A.units+1<cLine)(I:Inv X io σ H s)(g:DGet H a y o)(f:RelV y u)(h:∀s',Inv X io σ H s'->Q (.bool o.isSome) s'):wpAny (model X.prog X.w) A (compareOp .In u (.ref a)) Q E s:=by
 rcases g with⟨kvs,k,e,ey,l⟩|⟨kvs,k,b,e,ey,eb,l⟩;.subst ey;let#[z,d,vs,c,dd]:=kW I.hok e;show wpAny_in_of (qU f) d dd.mapOf ?_;rw[<-(c.val k).isSome_eq,<-l];show h _ (I.tok _)
 .subst ey;cases(show u=Value.ref b from f);let#[z,d,xs,c,dd]:=qX I.hok e;show wpAny_in_heap (Ń i) (jg I.hok eb) d dd ?_;have q:=(c.val k).isSome_eq;rw[ő]at q;rw[<-q,<-l];show h _ (I.tok _)
theorem M4(i:A.units+1<cLine)(I:Inv X io σ H s)(g:DGet H a y o)(f:RelV y u)(h:∀s',Inv X io σ H s'->Q (.bool (not o.isSome)) s'):wpAny (model X.prog X.w) A (compareOp .NotIn u (.ref a)) Q E s:=by
 rcases g with⟨kvs,k,e,ey,l⟩|⟨kvs,k,b,e,ey,eb,l⟩;.subst ey;let#[z,d,vs,c,dd]:=kW I.hok e;show wpAny_notIn_of (qU f) d dd.mapOf ?_;rw[<-(c.val k).isSome_eq,<-l];show h _ (I.tok _)
 .subst ey;cases(show u=Value.ref b from f);let#[z,d,xs,c,dd]:=qX I.hok e;show wpAny_notIn_heap (Ń i) (jg I.hok eb) d dd ?_;have q:=(c.val k).isSome_eq;rw[ő]at q;rw[<-q,<-l];show h _ (I.tok _)
theorem iI{t':Nat}(I:Inv X io σ H s)(h:Wm (H a))(g:Heap.SameBut a s.heap h')(f:∃q,h'.get? a=!q)(c:ObjOk X.prog X.w (upd H a ob) h' a ob):Inv X io σ (upd H a ob) {s with heap:=h',toks:=t'}:=I.write (x:=a) (e:=a) h (.inl rfl) (λb q d z=>(g.2 b d).trans z) f c
theorem G9{kvs:ϊ (Key×V)}(z:↑kvs<=sizeLine)(c:(a==sysModules)=false)(b:KV kvs vs)(dd:h'.DictOf (b8 P w) a vs):ObjOk P w H' h' a (.dK kvs):=#[z,c,vs,b,dd]
theorem Df{Q:Unit->ώ->Prop}(G:A.units+1<cLine)(I:Inv X io σ H s)(g:DPut H a y v H')(t:RelV y u)(p:RelV v r)(h:∀s',Inv X io σ H' s'->Q Unit.unit s'):wpAny (model X.prog X.w) A (setItem (.ref a) u r) Q E s:=by
 rcases g with⟨kvs,k,e,ey,l,eH⟩|⟨kvs,k,b,e,ey,eb,l,eH⟩
 .subst ey eH;let#[z,j,vs,d,dd]:=Pk I.hok e;have hz:↑vs<=sizeLine:=by rw[<-↑d];show z
  have m:↑(putK kvs k v)<=sizeLine:=by have:=jf kvs k v;rfl'
  show wpAny_setItem_pairs (hsz:=hz) (qU t) dd λh' f n=>h _ ?_;have F:∃q,h'.get? a=!q:=let⟨q,_,_,i,_⟩:=f;#[q,i];show iI I (by rw[e];show True.intro) n F (G9 m j (d.put k p) f)
 .subst ey eH;cases(show u=Value.ref b from t);let#[z,j,xs,d,dd]:=qY I.hok e;have hz:↑xs<=sizeLine:=by rw[<-ď d];show z
  have m:↑(putK kvs k v)<=sizeLine:=by have:=jf kvs k v;rfl'
  show wpAny_setItem_heap (hsz:=hz) (Ń G) (jg I.hok eb) dd λh' f n=>h _ ?_;let#[q,es,ep,i,x,B,C,_,D]:=f;show iI I (by rw[e];show True.intro) n ⟨q,i⟩ ⟨m,j,_,(d.put k eb p).keeps λc ys o=>?_,q,es,ep,i,x,B,C,D⟩;rw[ak (bA o e (λz=>nomatch z))];show o
end
def QH(i:Expr):Prop:=∀ov iv,subscripted i false ov iv=operate [ov,iv] (getItem ov iv)
theorem Ax{s:ώ}{env:Env}{b a:Expr}{T id:String}(g:typeLookup (.type T) "__getitem__"=pure !(.builtin id)) (j:QH a)(h:wpAny (model prog w) A (eval b env) (λo s₁=>wpAny (model prog w) A (eval a env) (λi s₂=>s₂.TypeIs o T/\wpAny (model prog w) A (getItem o i) Q E s₂) E s₁) E s):wpAny (model prog w) A (eval (.Subscript b a pos) env) Q E s:=by
 show Subscript_ (í h (λo s₁ h₁=>í h₁ (λi s₂ c=>?_) λ_ _ x=>x) λ_ _ x=>x);let#[f,c]:=c;unfold subscriptTail;show Qr ?_;rw[getitemInPython_of_ne f.not_modules];show Qr (ŵ f g ?_);have fin:wpAny (model prog w) A (subscripted a false o i) (λr d=>wpAny (model prog w) A (letTemporaryGo b o r>>=λ_=>pure r) Q E d) E s₂:=by rw[j o i];show wpAny_operating (í c (λr d e=>Qr (wpAny_letTemporaryGo (Xs e))) λ_ _ x=>x)
 first
  |show Xs (Qr fin)|show Qr (Xs (Qr fin))|show Qr fin
theorem uU{X:Cx}(I:Inv X io σ H s)(g:DGet H a y o):s.TypeIs (.ref a) "dict":=by
 rcases g with⟨kvs,k,e,_,_⟩|⟨kvs,k,b,e,_,_,_⟩;.obtain ⟨_,_,vs,_,dd⟩:=kW I.hok e;show dd.typeIs
 .obtain ⟨_,_,xs,_,dd⟩:=qX I.hok e;show dd.typeIs
def fK(td ty:TE):TE:=λσ H Q=>td σ H λx H1=>ty σ H1 λy H2=>∃a v,x=.ref a/\DGet H2 a y !v/\Q v H2
def Ga(ty td:TE):TE:=λσ H Q=>ty σ H λy H1=>td σ H1 λx H2=>∃a o,x=.ref a/\DGet H2 a y o/\Q (.bl o.isSome) H2
def gC(ty td:TE):TE:=λσ H Q=>ty σ H λy H1=>td σ H1 λx H2=>∃a o,x=.ref a/\DGet H2 a y o/\Q (.bl (not o.isSome)) H2
def j6(td ty tv:TE):TS:=λD σ H=>tv σ H λv H1=>td σ H1 λx H2=>ty σ H2 λy H3=>∃a H4,x=.ref a/\DPut H3 a y v H4/\D.nx σ H4
section
variable{X:Cx}
theorem cP(r:X.A.units+1<cLine)(p:PE X o td)(n:PE X i ty)(q:QH i):PE X (.Subscript o i pos) (fK td ty):=by intro b s e H Q I h;show Ax PySem.F.slot_dict_getitem.lookup q (bu (p b s e H _ I h) λu C ⟨x,f,k,z,t⟩=>bu (n b C e f _ k t) λD E ⟨y,j,d,B,a,v,m,g,w⟩=>?_);subst m;obtain rfl:u=Value.ref a:=z;show#[uU d g,De r d g B λJ G l c=>#[v,j,l,c,w]]
theorem xn(p:X.A.units+1<cLine)(m:PE X i ty)(n:PE X o td):PC X .In i o (Ga ty td):=by
 intro b s c H Q I h;show bu (m b s c H _ I h) λz w ⟨y,d,f,v,q⟩=>bu (n b w c d _ f q) λu B ⟨x,e,j,t,a,ov,l,g,r⟩=>?_;subst l;obtain rfl:u=Value.ref a:=t;show ZG p j g v λC k=>#[.bl ov.isSome,e,k,rfl,r]
theorem gW(p:X.A.units+1<cLine)(m:PE X i ty)(n:PE X o td):PC X .NotIn i o (gC ty td):=by
 intro b s c H Q I h;show bu (m b s c H _ I h) λz w ⟨y,d,f,v,q⟩=>bu (n b w c d _ f q) λu B ⟨x,e,j,t,a,ov,l,g,r⟩=>?_;subst l;obtain rfl:u=Value.ref a:=t;show M4 p j g v λC k=>#[.bl (not ov.isSome),e,k,rfl,r]
theorem eN(w:X.A.units+1<cLine)(q:PE X o td)(p:PE X i ty)(z:PE X value tv)(t:swapsWith value (!(.Subscript o i pos')) pos.line X.env=pure false):PS X (.Assign [.Subscript o i pos'] value pos) (j6 td ty tv):=by
 intro b s c H D I h;show wpAny_Assign_Subscript (bu (z b s c H _ I h) λr K ⟨v,d,j,F,B⟩=>bu (q b K c d _ j B) λu L ⟨x,e,k,G,C⟩=>bu (p b L c e _ k C) λN O ⟨y,M,l,J,a,f,n,g,E⟩=>?_) t;subst n;obtain rfl:u=Value.ref a:=G;show Df w l g J F λP m=>#[c,f,m,E]
end
theorem uV(h:ϒ)(a:sysModules<h.objs.size):ObjOk P w H (h.push {cls:=.type "dict",data:=.dict ([].toArray)}) h.objs.size (.dK []):=#[Nat.zero_le _,Ĺ.mpr (Ne.symm (Ý a)),[],.nil,Heap.DictOf.new h]
theorem uW(h:ϒ)(a:sysModules<h.objs.size):ObjOk P w H (h.push {cls:=.type "dict",data:=.dict ([].toArray)}) h.objs.size (.dT []):=#[Nat.zero_le _,Ĺ.mpr (Ne.symm (Ý a)),[],.nil,_,([].toArray),0,Ê _ rfl,#[rfl,rfl,rfl],rfl,rfl,List.nodup_nil]
def jh:TE:=λ_ H Q=>∀p,H p=none->Q (.ref p) (upd H p (.dK []))
def xq:TE:=λ_ H Q=>∀p,H p=none->Q (.ref p) (upd H p (.dT []))
section
variable{X:Cx}
theorem gY:PE X (.Dict [] [] pos) jh:=λb s c H Q I h=>wpAny_Dict_empty #[.ref s.heap.objs.size,_,I.laid (a:=s.heap.objs.size) (o:=.dK []) (t':=s.toks) (λ_ _ q=>Jn _ q) (Ç _) (uV s.heap I.big),rfl,h _ (I.hok.fresh (Ç _))]
theorem Gb:PE X (.Dict [] [] pos) xq:=λb s c H Q I h=>wpAny_Dict_empty #[.ref s.heap.objs.size,_,I.laid (a:=s.heap.objs.size) (o:=.dT []) (t':=s.toks) (λ_ _ q=>Jn _ q) (Ç _) (uW s.heap I.big),rfl,h _ (I.hok.fresh (Ç _))]
end
def xr:ϊ (TE×TE)->St->Hp->(ϊ (V×V)->Hp->Prop)->Prop
 |[],_,H,Q=>Q [] H|(tk,tv)::r,σ,H,Q=>tk σ H λx H1=>tv σ H1 λy H2=>xr r σ H2 λps H3=>Q ((x,y)::ps) H3
abbrev VV:ϊ (V×V)->ϊ (ϋ×ϋ)->Prop:=Paired λp q=>RelV p.1 q.1/\RelV p.2 q.2
def Zi(X:Cx)(pos:Pos)(keys:ϊ (ύ Expr))(values:ϊ Expr)(trs:ϊ (TE×TE)):Prop:=∀(io:ϸ)(s:ώ)(σ:St)(H:Hp)(Q:ϊ (V×V)->Hp->Prop),Inv X io σ H s->xr trs σ H Q->wpAny (model X.prog X.w) X.A (evalPairs (pairTrees keys values X.env pos)) (λvs s'=>∃ps H',Inv X io σ H' s'/\VV ps vs/\Q ps H') X.xe s
theorem Ay{X:Cx}:Zi X pos [] [] []:=λa s b H Q I h=>pairTrees_nil_walk #[[],H,I,.nil,h]
theorem uX{X:Cx}{d:TE}(n:PE X k d)(p:PE X v e)(o:Zi X pos ks vs trs):Zi X pos (some k::ks) (v::vs) ((d,e)::trs):=λa s c H Q I h=>pairTrees_cons_walk (bu (n a s c H _ I h) λu A ⟨x,f,j,w,q⟩=>bu (p a A c f _ j q) λD B ⟨y,g,l,z,r⟩=>bu (o a B c g _ l r) λE C ⟨ps,i,m,b,t⟩=>#[(x,y)::ps,i,m,.cons #[w,z] b,t])
noncomputable def iJ(kvs more:ϊ (Key×V)):ϊ (Key×V):=more.foldl (λacc kv=>putK acc kv.1 kv.2) kvs
theorem KV.merge:∀{more:ϊ (Key×V)}{rs:ϊ (Key×ϋ)}{kvs:ϊ (Key×V)}{vs:ϊ (Key×ϋ)},KV more rs->KV kvs vs->KV (iJ kvs more) (merged vs rs):=by intro more rs kvs vs r;unfold KV at r;induction r generalizing kvs vs with
 |nil=>intro q;show q|@cons p q ps qs h t ih=>
  intro a;have e:KV (putK kvs p.1 p.2) (stored vs q.1 q.2):=by have:=a.put p.1 h.2;rw[<-h.1];show this
  show ih e
theorem jL:∀(more kvs:ϊ (Key×V)),↑(iJ kvs more)<=↑kvs+↑more
 |[],kvs=>by change↑kvs<=↑kvs+0;rfl'|p::r,kvs=>by have a:=jL r (putK kvs p.1 p.2);have b:=jf kvs p.1 p.2;change↑(iJ (putK kvs p.1 p.2) r)<=_;rw[ô];rfl'
theorem oY{w:ϕ}:∀{kvs:ϊ (Key×V)}{e:ϊ (ϋ×ϋ)},VV (kvs.map λd=>(kV d.1,d.2)) e->∃rs,Carries (b8 P w) e rs/\KV kvs rs
 |[],_,r=>by rw[Č]at r;cases r;show⟨[],True.intro,.nil⟩|p::kvs,_,r=>by
  rw[È]at r
  cases r with|@cons a b as bs h t=>let#[rs,c,q]:=oY (P:=P) (w:=w) t;let#[g,f]:=b;show#[(p.1,f)::rs,#[qU h.1,rfl,c],.cons #[rfl,h.2] q]
def Gd(trs:ϊ (TE×TE)):TE:=λσ H Q=>∀p,H p=none->xr trs σ (upd H p (.dK [])) λps H2=>H2 p=!(.dK [])/\∃kvs:ϊ (Key×V),ps=kvs.map (λkv=>(kV kv.1,kv.2))/\↑kvs<=15/\Q (.ref p) (upd H2 p (.dK (iJ [] kvs)))
theorem M5{X:Cx}{b:ϊ (ύ Expr)}(h:Zi X pos b values trs)(f:b.all (·.isSome)=true)(t:↑b=↑values)(m:b≠[])(i:↑b<=15):PE X (.Dict b values pos) (Gd trs):=by
 intro g s D H Q I q;have u:=I.hok.fresh (Ç s.heap.objs.size);have l:=I.laid (a:=s.heap.objs.size) (o:=.dK []) (h':=s.heap.push {cls:=.type "dict",data:=.dict ([].toArray)}) (t':=s.toks) (λ_ _ q=>Jn _ q) (Ç _) (uV s.heap I.big);show wpAny_Dict_walk (knd:=b8 X.prog X.w) f t m i (bu (h g _ D _ _ l (q _ u)) λG F ⟨ps,E,k,j,e,kvs,ep,lk,x⟩=>?_);subst ep;let#[B,c,A]:=oY (P:=X.prog) (w:=X.w) j;let#[z,p,C,y,dd]:=Pk k.hok e;cases y;show#[B,c,dd,λh' d v=>#[.ref s.heap.objs.size,_,?_,rfl,x]];have hz:↑(iJ [] kvs)<=sizeLine:=by have n:=jL kvs [];rw[Š]at n;rw[ø];rfl'
 have r:∃q,h'.get? s.heap.objs.size=!q:=let⟨q,_,_,hq,_⟩:=d;#[q,hq];show iI k (by rw[e];show True.intro) v r (G9 hz p (A.merge .nil) d)
structure M1(X:Cx)(o:Expr)(m:ϐ)(apos:Pos)(e:Expr)(cpos:Pos):Prop where
 base:attributeBase o m X.env (eval o X.env)=eval o X.env
 few:((backTo cpos (starEach [e] X.env)).all (λx=>not x.1)&&(backToKw cpos (keywordEach [] X.env)).all (λx=>x.1.isSome)&&decide (↑([e]:ϊ Expr)+↑([]:ϊ Keyword)+(if([]:ϊ Keyword).isEmpty then 0 else 1)<30))=true
 line:(apos.endLine==cpos.line)=true
 trees:backTo cpos (starEach [e] X.env)=[(false,eval e X.env)]
structure M2(X:Cx)(o:Expr)(m:ϐ)(apos:Pos)(e f:Expr)(cpos:Pos):Prop where
 base:attributeBase o m X.env (eval o X.env)=eval o X.env
 few:((backTo cpos (starEach [e,f] X.env)).all (λx=>not x.1)&&(backToKw cpos (keywordEach [] X.env)).all (λx=>x.1.isSome)&&decide (↑([e,f]:ϊ Expr)+↑([]:ϊ Keyword)+(if([]:ϊ Keyword).isEmpty then 0 else 1)<30))=true
 line:(apos.endLine==cpos.line)=true
 trees:backTo cpos (starEach [e,f] X.env)=[(false,eval e X.env),(false,eval f X.env)]
def Wx(H:Hp)(a:ό):Prop:=(∃kvs,Rd H a (.dK kvs))\/∃kvs,Rd H a (.dT kvs)
theorem xu{X:Cx}(I:Inv X io σ H s)(d:Wx H a):s.TypeIs (.ref a) "dict"/\(∀b,Value.ref a=.ref b->∃ob,s.heap.get? b=!ob/\ob.dict=none)/\(a==sysModules)=false:=by
 rcases d with⟨kvs,e⟩|⟨kvs,e⟩
 .obtain ⟨_,g,vs,_,dd⟩:=kW I.hok e;show#[dd.typeIs,λb q=>?_,g];cases q;let#[ob,_,_,c,f,_]:=dd;show#[ob,c,f.2.1]
 .obtain ⟨_,g,xs,_,dd⟩:=qX I.hok e;show#[dd.typeIs,λb q=>?_,g];cases q;let#[ob,_,_,c,f,_]:=dd;show#[ob,c,f.2.1]
end L2
set_option linter.all false
namespace Bm
noncomputable def popF:Nat->Nat->Nat
 |0,_=>0|k+1,n=>n%2+popF k (n/2)
noncomputable def pop(n:Nat):=popF n n
theorem popZ:∀k,popF k 0=0
 |0=>rfl|k+1=>(Nat.zero_add _).trans (popZ k)
theorem popK:∀{k j n:Nat},n<=k->n<=j->popF k n=popF j n
 |0,j,n,h,_=>by cases Nat.le_zero.mp h;exact(popZ j).symm
 |k+1,0,n,_,h=>by cases Nat.le_zero.mp h;exact popZ _|k+1,j+1,n,h,i=>congrArg (n%2+·) (popK (k:=k) (j:=j) (by omega) (by omega))
def uY:pop 0=0:=rfl
def Ge(n:Nat):pop n=n%2+pop (n/2):=by cases n with
 |zero=>rfl|succ n=>exact congrArg ((n+1)%2+·) (popK (by omega) (Nat.le_refl _))
def sS(m:Nat):pop (2*m)=pop m:=by rw[Ge,show 2*m%2=0 by rfl',show 2*m/2=m by rfl',Δ]
def M6(m:Nat):pop (2*m+1)=pop m+1:=by rw[Ge,show(2*m+1)%2=1 by rfl',show(2*m+1)/2=m by rfl',ů]
def Gf(a b:Nat):(2*a)&&&(2*b+1)=2*(a&&&b):=by
 apply Œ;intro i;cases i with
 |zero=>simp[ŏ]|succ i=>rw[ŏ,Ŀ,Ŀ,Ŀ,show 2*a/2=a by rfl',show(2*b+1)/2=b by rfl',show 2*(a&&&b)/2=(a&&&b)by rfl',ŏ]
def QJ(a b:Nat):(2*a+1)&&&(2*b)=2*(a&&&b):=by rw[Nat.and_comm,Gf,Nat.and_comm]
def M7(n:Nat)(h:0<n):pop (n&&&(n-1))+1=pop n:=by induction n using Nat.strongRecOn with|ind n ih=>
  rcases Nat.mod_two_eq_zero_or_one n with e|e;.obtain ⟨m,rfl⟩:∃m,n=2*m:=#[n/2,()];have q:=ih m () ();rw[show 2*m-1=2*(m-1)+1 by rfl',Gf,sS,sS];show q
  .obtain ⟨m,rfl⟩:∃m,n=2*m+1:=#[n/2,()];rw[show 2*m+1-1=2*m by rfl',QJ,Nat.and_self,sS,M6]
def QK(n:Nat)(h:0<n):n&&&(n-1)<n:=Ñ Nat.and_le_right ()
def Gg(a b:Nat):(a^^^b)/2=(a/2)^^^(b/2):=by apply Œ;intro i;simp[<-Ŀ,Nat.testBit_xor]
def gD(x:Nat):x%2=(x.testBit 0).toNat:=by rcases Nat.mod_two_eq_zero_or_one x with h|h<;>simp[Nat.testBit_zero,h]
end Bm
set_option linter.all false
namespace Bx
open PySem
def jU(m n:Nat):Builtin.bitAnd (m:Int) (n:Int)=((m&&&n:Nat):Int):=by rw[PyProof.Rows.bitAnd_pp () ()];simp
def Gh(m n:Nat):(m|||n)+(m&&&n)=m+n:=by induction m using Nat.strongRecOn generalizing n with|ind m ih=>
  by_cases hz:m=0;.subst hz;simp
  .have q:=ih (m/2) () (n/2);have a:(m|||n)/2=(m/2)|||(n/2):=by apply Œ;intro i;simp[<-Ŀ,Nat.testBit_or]
   have b:(m&&&n)/2=(m/2)&&&(n/2):=by apply Œ;intro i;simp[<-Ŀ,ŏ]
   have c:(m|||n)%2+(m&&&n)%2=m%2+n%2:=by
    rw[Bm.gD (m|||n),Bm.gD (m&&&n),Bm.gD m,Bm.gD n,Nat.testBit_or,ŏ];cases m.testBit 0<;>cases n.testBit 0<;>rfl
   rfl'
def Dg(m n:Nat):Builtin.bitOr (m:Int) (n:Int)=((m|||n:Nat):Int):=by rw[PyProof.Rows.bitOr_and,jU];have:=Gh m n;rfl'
def M8(m n:Nat):(m^^^n)+2*(m&&&n)=m+n:=by induction m using Nat.strongRecOn generalizing n with|ind m ih=>
  by_cases hz:m=0;.subst hz;simp
  .have q:=ih (m/2) () (n/2);have a:=Bm.Gg m n;have b:(m&&&n)/2=(m/2)&&&(n/2):=by apply Œ;intro i;simp[<-Ŀ,ŏ]
   have c:(m^^^n)%2+2*((m&&&n)%2)=m%2+n%2:=by
    rw[Bm.gD (m^^^n),Bm.gD (m&&&n),Bm.gD m,Bm.gD n,Nat.testBit_xor,ŏ];cases m.testBit 0<;>cases n.testBit 0<;>rfl
   rfl'
def xx(m n:Nat):Builtin.bitXor (m:Int) (n:Int)=((m^^^n:Nat):Int):=by unfold Builtin.bitXor;rw[Dg,jU];have a:=Gh m n;have b:=M8 m n;rfl'
end Bx
section
namespace L2
open PySem PySem.Spec PyProof.Rows
variable{σ:St}{sp:Sp}{tl:TE}{wi:TI}{H H':Hp}{M:Model}{env:Env}{h':ϒ}{pos:Pos}{tg:Expr}{v:ϋ}{w:ϕ}{A:ϖ}{i k n:Nat}{s':ώ}{N':ϊ ϐ}{fd:FuncData}{ch:ϊ ό}{newId:String}{ifs:ϊ Expr}{bmB:ϊ ϋ}{outer:ϊ Env}{C a f p x y:ό}{esc sc scope:Scope}{κ:ϊ (ύ Nat)}{Q:Unit->ώ->Prop}{io:ϸ}{E:϶}{m' mg:ϐ->ύ ϋ}{RR:ϋ->ό->Result->ώ->Prop}
abbrev blk(X:Cx)(sc:Scope)(N':ϊ ϐ)(cl:ϊ (ϐ×ό))(C:ό)(s:ώ)(H:Hp)(fp:ϊ ό)(io:ϸ):Cx where
 prog:=X.prog
 w:=X.w
 K:=X.K
 mg:=X.mg
 base:=X.base
 A:=X.A
 N:=N'
 s₀:=s
 H₀:=H
 env:=compEnvC sc cl C X.env
 outer:=X.stack
 stack:=X.stack
 ex:=fp
 fn:=λ_=>false
 calm:=X.calm
 pn:=X.pn++io
 xe:=λ_ _=>False
structure CScope(esc sc:Scope):Prop where
 kind:sc.kind=.function
 nocell:∀y∈sc.names,y.2≠.cell
 locs:∀y∈sc.names,y.2=.local->sc.names.lookup y.1=!.local
 frees:∀y∈sc.names,y.2=.free->esc.names.lookup y.1=!.cell\/esc.names.lookup y.1=!.free
theorem mem_lookup{a:Type}{x:ϐ}{k:a}:∀{l:ϊ (ϐ×a)},l.lookup x=!k->(x,k)∈l
 |[],h=>by simp at h|(n,k')::r,h=>by rw[ě]at h;cases e:x==n with
  |true=>
   rw[e]at h;have b:x=n:=Ż e;injection h with h;subst b;subst h;show Ë|false=>
   rw[e]at h;show Ì _ (mem_lookup h)
theorem sU{env:Env}:∀(names:ϊ (ϐ×NameKind))(cs:ϊ (ϐ×ό)),(∀y∈names,y.2=.free->∃c,env.cells.lookup y.1=!c)->(∀x c,cs.lookup x=!c->env.cells.lookup x=!c)->∃cl:ϊ (ϐ×ό),(forIn names cs λ(y:ϐ×NameKind) (r:ϊ (ϐ×ό))=>(if(y.2==NameKind.free)=true then(cellOf env y.1>>=λc=>pure (ForInStep.yield ((y.1,c)::r)))else pure (ForInStep.yield r):Sem (ForInStep (ϊ (ϐ×ό)))))=pure cl/\(∀x c,cl.lookup x=!c->env.cells.lookup x=!c)/\∀x c,env.cells.lookup x=!c->((x,NameKind.free)∈names\/cs.lookup x=!c)->cl.lookup x=!c
 |[],cs,_,hcs=>#[cs,rfl,hcs,λx c _ h=>h.elim (λz=>nomatch z) id]|(n,k) ::r,cs,hf,hcs=>by
  have g:∀y∈r,y.2=.free->∃c,env.cells.lookup y.1=!c:=λy t=>hf y (Ì _ t);by_cases p:k=.free
  .subst p;let#[c,m]:=hf (n,.free) Ë rfl;have s:cellOf env n=pure c:=by have o:env.cells.lookup n=!c:=m;unfold cellOf;rw[o]
   have f:∀x b,((n,c)::cs).lookup x=!b->env.cells.lookup x=!b:=λx b h=>by
    rw[ě]at h;cases e:x==n with|true=>
     rw[e]at h;injection h with h;have d:x=n:=Ż e;subst d;subst h;show m|false=>rw[e]at h;show hcs x b h
   let#[cl,e,j,l]:=sU r ((n,c)::cs) g f;show#[cl,?_,j,λx b i a=>l x b i ?_];.rw [ö];simp only[beq_self_eq_true,ı];rw[s];show e
   .rw [ě];cases ex:x==n with
    |true=>
     right;have d:x=n:=Ż ex;subst d;show m.symm.trans i|false=>
     rcases a with a|a
     .rcases Å.mp a with z|z
      .have d:x=n:=Ô Prod.fst z;subst d;rw[beq_self_eq_true]at ex;cases ex
      .show .inl z
     .show .inr a
  .obtain ⟨cl,e,j,l⟩:=sU r cs g hcs;have q:(k==NameKind.free)=false:=by cases k<;>first|rfl|show absurd rfl p
   show#[cl,?_,j,λx b i a=>l x b i ?_];.rw [ö];simp only[q,Û,ý];show e
   .rcases a with a|a
    .rcases Å.mp a with z|z
     .show absurd (Ô Prod.snd z).symm p
     .show .inl z
    .show .inr a
theorem Az(d:∀y∈sc.names,y.2=.free->∃c,env.cells.lookup y.1=!c):∃cl:ϊ (ϐ×ό),closureFor sc env=pure cl/\(∀x c,cl.lookup x=!c->env.cells.lookup x=!c)/\∀x c,env.cells.lookup x=!c->(x,NameKind.free)∈sc.names->cl.lookup x=!c:=by
 let#[cl,e,a,b]:=sU (env:=env) sc.names [] d (λx c h=>by simp at h);show#[cl,?_,a,λx c g f=>b x c g (.inl f)];have q:closureFor sc env=((forIn sc.names [] λ(y:ϐ×NameKind) (r:ϊ (ϐ×ό))=>(if(y.2==NameKind.free)=true then(cellOf env y.1>>=λc=>pure (ForInStep.yield ((y.1,c)::r)))else pure (ForInStep.yield r):Sem (ForInStep (ϊ (ϐ×ό)))))>>=λcs=>pure cs):=by
  first
   |rfl|(unfold closureFor;congr 1)
 rw[q,e];rfl
theorem iK{env:Env}{x:ϐ}:∀{names:ϊ (ϐ×NameKind)},(names.map λ(n,k)=>if(k==NameKind.free&&env.scope.kind==.function&&env.kindOf n==!.cell)then(n,NameKind.cell)else(n,k)).lookup x=(names.lookup x).map λk=>if(k==NameKind.free&&env.scope.kind==.function&&env.kindOf x==!.cell)then NameKind.cell else k
 |[]=>rfl|(n,k) ::r=>by
  have c:=iK (env:=env) (x:=x) (names:=r);change List.lookup x ((if(k==NameKind.free&&env.scope.kind==.function&&env.kindOf n==!.cell)=true then(n,NameKind.cell)else(n,k))::_)=_;rw[ě (b:=k)];cases hx:x==n with
  |true=>
   have e:x=n:=Ż hx;subst e;by_cases a:(k==NameKind.free&&env.scope.kind==.function&&env.kindOf x==!.cell)=true;.rw [if_pos a,ě,hx];change some NameKind.cell=!(if(k==NameKind.free&&env.scope.kind==.function&&env.kindOf x==!.cell)=true then NameKind.cell else k);rw[if_pos a]
   .rw [if_neg a,ě,hx];change some k=!(if(k==NameKind.free&&env.scope.kind==.function&&env.kindOf x==!.cell)=true then NameKind.cell else k);rw[if_neg a]|false=>
   by_cases a:(k==NameKind.free&&env.scope.kind==.function&&env.kindOf n==!.cell)=true
   .rw [if_pos a,ě,hx];show c
   .rw [if_neg a,ě,hx];show c
theorem CScope.free_of(S:CScope esc sc){x:ϐ}(h:(relabel sc env).names.lookup x=!.cell\/(relabel sc env).names.lookup x=!.free):(x,NameKind.free)∈sc.names:=by
 have q:(relabel sc env).names.lookup x=_:=iK (env:=env) (x:=x) (names:=sc.names);rw[q]at h;cases e:sc.names.lookup x with
 |none=>rw[e]at h;simp at h
 |some k=>
  have a:=mem_lookup e;have b:=S.nocell _ a;cases k with
  |free=>show a|cell=>show absurd rfl b|_=>rw[e]at h;simp at h
theorem CScope.cell_of(S:CScope esc sc)(a:env.scope=esc)(b:env.scope.kind=.function){x:ϐ}(h:sc.names.lookup x=!.free):(relabel sc env).names.lookup x=!.cell\/(relabel sc env).names.lookup x=!.free:=by
 have q:(relabel sc env).names.lookup x=_:=iK (env:=env) (x:=x) (names:=sc.names);rw[q,h];simp only[Ş];split;.show .inl rfl
 .show .inr rfl
noncomputable def cap(κ:ϊ (ύ Nat))(σ:St):St:=κ.map λo=>o.bind λi=>(σ[i]?).join
noncomputable def capOk(κ:ϊ (ύ Nat))(N' N:ϊ ϐ)(sc:Scope):ϑ:=
 decide (↑κ=↑N')&&(κ.zip N').all λp=>match p.1 with
  |none=>true|some i=>N[i]? ==some p.2&&sc.names.lookup p.2==!.free
theorem capOk.len(h:capOk κ N' N sc=true):↑κ=↑N':=by unfold capOk at h;rw[ù]at h;show é h.1
theorem capOk.at{sc:Scope}(h:capOk b c N sc=true){j:Nat}{y:ϐ}{v:V}(f:c[j]?=!y)(a:(cap b d)[j]?=!(!v)):∃i:Nat,N[i]?=!y/\d[i]?=!(!v)/\sc.names.lookup y=!.free:=by unfold capOk at h;rw[ù,Υ]at h;unfold cap at a;rw[À]at a;cases e:b[j]?with
 |none=>rw[e]at a;simp at a|some o=>
  rw[e]at a;simp only[Ş,Option.some.injEq]at a;cases o with
  |none=>simp at a|some i=>
   have g:(!i,y)∈b.zip c:=Yf (i:=j) (by rw[List.getElem?_zip_eq_some];show#[e,f]);have q:=h.2 _ g;simp only[ù,beq_iff_eq]at q;show#[i,q.1,?_,q.2];simp only[Option.bind_some]at a;cases r:d[i]?with
   |none=>rw[r]at a;simp at a|some z=>rw[r]at a;simp at a;rw[a]
def qZ(a b:St):Prop:=↑b=↑a/\∀(i:Nat) v,a[i]?=!(!v)->b[i]?=!(!v)
def Gi(X:Cx)(ifs:ϊ Expr)(t:TT):Prop:=∀(io:ϸ)(s:ώ)(σ:St)(H:Hp)(Q:ϑ->Hp->Prop),Inv X io σ H s->t σ H Q->wpAny (model X.prog X.w) X.A (forIn ifs true λc r=>if r=true then do let ok<-isTrue c X.env (eval c X.env);pure (ForInStep.yield ok)else pure (ForInStep.yield r)) (TP X io σ Q) X.xe s
def gZ:TT:=λ_ H Q=>Q true H
theorem d9{X:Cx}:Gi X [] gZ:=λa s b H Q I h=>wpAny_tests_nil #[H,I,h]
theorem dI{X:Cx}(h:PT X c t):Gi X [c] t:=λa s b H Q I q=>wpAny_tests_one (h a s b H Q I q)
section
theorem sV{k a f:Expr}{y j:ϋ}(I:Nat->ώ->Prop)(u:∀n s,I n s->wpAny (model prog w) A (pyNext y) (λr s₁=>match r with|none=>R (.ok .next) s₁|some v=>wpAny (model prog w) A (letOwnedTupleGo a y v) (λ_ b=>wpAny (model prog w) A (assign a env v) (λ_ s₂=>wpAny (model prog w) A (forIn ifs true λc r=>if r=true then do let ok<-isTrue c env (eval c env);pure (ForInStep.yield ok)else pure (ForInStep.yield r)) (λok d=>if ok=true then wpAny (model prog w) A (eval k env) (λx g=>wpAny (model prog w) A (call (.builtin "list.append") [j,x]) (λ_ i=>∃m,m<n/\I m i) (λ_ _=>False) g) (λ_ _=>False) d else ∃m,m<n/\I m d) (λ_ _=>False) s₂) (λ_ _=>False) b) (λ_ _=>False) s₁) (λ_ _=>False) s)(n:Nat) (h:I n s):codeAny (model prog w) A (.compLoop (.ListComp k [#[a,f,ifs,0]] scope pos) 0 y j env) R s:=by
 show codeAny_loop rfl I (λn s B=>?_) n h;change wpAny _ A ((compTurn (.ListComp k [#[a,f,ifs,0]] scope pos) 0 y j env).onRaise (λx=>do noteFrame x env;theTreesLotGoes x)) _ _ s;show wpAny_noted ?_;rw[compTurn_list];show í (E:=λ_ _=>False) ?_ (λ_ _ q=>q) (λ_ _ z=>z.elim);show Qr (ţ (Qr (í (u n s B) (λr s₁ h₁=>?_) λ_ _ h'=>h')));cases r with
 |none=>show Xs h₁|some v=>
  show Qr (í h₁ (λ_ b l=>?_) λ_ _ h'=>h');show Qr (í l (λ_ s₂ o=>Qr (í o (λok d e=>?_) λ_ _ h'=>h')) λ_ _ h'=>h');cases ok with
  |false=>show Xs #[rfl,e]|true=>show Qr (Qr (í e (λx g p=>Qr (í p (λ_ i t=>Xs (Xs #[rfl,t])) λ_ _ h'=>h')) λ_ _ h'=>h'))
end
theorem HOk.track(x:HOk P w H h)(g:H a=none)(d:ObjOk P w (upd H a o) h a o):HOk P w (upd H a o) h:=λb u e=>by
 by_cases f:b=a;.subst f;rw[aa]at e;cases e;show d
 .rw [ak f]at e;show(x b u e).stay (λc v _ q=>q) (λc q=>by rw[ak (aN q g)];show q) λc xs q=>by rw[ak (aN q g)];show q
section
variable{X:Cx}{io:ϸ}{σ:St}{H2:Hp}{s₂:ώ}{tg iter elt:Expr}{ifs:ϊ Expr}{sc:Scope}{pos:Pos}{N':ϊ ϐ}{κ:ϊ (ύ Nat)}{cl:ϊ (ϐ×ό)}{it:ό}{fp:ϊ ό}{tn:Nat->ϒ->Prop}{J:It}{g:TG}{tc:TT}{te:TE}
theorem QL(I:Inv X io σ H2 s₂)(i:∀b∈fp,oE X io H2 b)(k:∀b∈fp,b<s₂.heap.objs.size)(S:CScope X.env.scope sc)(a:∀x c,cl.lookup x=!c->X.env.cells.lookup x=!c) (g:∀x c,X.env.cells.lookup x=!c->(x,NameKind.free)∈sc.names->cl.lookup x=!c) (j:s₂.heap.objs.size<=C):(blk X sc N' cl C s₂ H2 fp io).Ok where
 mod:=I.mod
 kind:=S.kind
 glob:=I.ok.glob
 blt:=I.ok.blt
 above:=j
 inj:=λx y c l m=>I.ok.inj x y c (a _ _ l) (a _ _ m)
 has:=λx h=>by have e:=S.free_of (env:=X.env) h;let#[c,n]:=I.ok.has x (S.frees _ e rfl);show#[c,g x c n e]
 cab:=λx c h _=>by cases h
 hd:=I.ok.hd
 frames:=I.ok.frames
 stk:=.inl rfl
 exf:=λb d=>#[Nat.ne_of_lt (Ö (k b d) j),λx c p=>(i b d).2.2.2.2.1 x c (a x c p)]
 bs:=I.bs
 bsz:=Ð I.ok.bsz I.sz
 noex:=λb o d e=>by
  let#[_,_,_,f,_]:=i b e;rcases f with f|f;.show I.ok.noex b o d f
  .show absurd (É (I.ok.bs b o d).1) (Nat.not_lt.mpr f)
 exfs:=λb d e=>by
  rcases Å.mp (I.stkSub b e)with z|z;.show (i b d).2.1 z
  .show (i b d).2.2.1 z
 funs:=I.stack
 frf:=I.stkFree
theorem M9(I:Inv X io σ H2 s₂)(D:∀b∈fp,oE X io H2 b)(E:∀b∈fp,b<s₂.heap.objs.size)(S:CScope X.env.scope sc)(f:capOk κ N' X.N sc=true)
  (a:∀x c,cl.lookup x=!c->X.env.cells.lookup x=!c) (g:∀x c,X.env.cells.lookup x=!c->(x,NameKind.free)∈sc.names->cl.lookup x=!c) (k:s₂.heap.objs.size<=C)
  {U:Nat} (M:h'.Ns C m') (d:∀b o,s₂.heap.get? b=!o->h'.get? b=!o):
  Inv (blk X sc N' cl C s₂ H2 fp io) [] (cap κ σ) H2 {s₂ with heap:=h',toks:=U} where
 ok:=QL I D E S a g k
 os:=rfl
 bare:=I.bare
 base:=Un.kept d
 loc:=⟨m',M,λj y v R Q A=>by
  let#[i,K,P,t]:=capOk.at f R Q;have w:=mem_lookup t;have h:=S.frees _ w rfl;let#[m,_,L]:=I.loc;let#[u,T,lk]:=L i y v K P (.inr h);show#[u,T,.inr #[S.cell_of (env:=X.env) rfl I.ok.kind t,?_]];rcases lk with⟨hk,_⟩|⟨_,c,hc,hu⟩;.have l:X.env.scope.names.lookup y=!.local:=hk;rcases h with z|z<;>(have B:X.env.scope.names.lookup y=_:=z;rw[l]at B;cases B)
  .obtain ⟨o,e,r⟩:=hu;show⟨c,g y c hc w,o,d _ _ e,r⟩⟩
 cell:=λx c q=>by let#[v,o,e,r]:=I.cell x c (a x c q);show#[v,o,d _ _ e,r]
 free:=I.hok.fresh k
 freeC:=λx c q=>I.freeC x c (a x c q)
 pin:=λp O=>by
  have n:p∈X.pn++io:=by simpa using O
  let#[s,F,G,H,J]:=I.pin p n;show#[d _ _ s,F,Ý (Ö (É s) k),λz=>?_,J];rcases Å.mp (I.stkSub p.1 z)with y|y;.show G y
  .show H y
 hok:=I.hok.kept d
 len:=by change↑(cap κ σ)=↑N';unfold cap;rw[Qb];show capOk.len f
structure Left(X:Cx)(io:ϸ)(σ:St)(C:ό)(H:Hp)(s:ώ):Prop where
 inv:Inv X io σ H s
 ns:∃m,s.heap.Ns C m
 un:H C=none
 nl:C≠X.env.locals
 nf:C∉X.fs
 ab:X.s₀.heap.objs.size<=C
 nc:∀x c,X.env.cells.lookup x=!c->c≠C
 np:∀p∈X.pn++io,p.1≠C
theorem Left.go(l:Left X io σ C H s)(c:Heap.SameBut C s.heap h'):Inv X io σ H {s with heap:=h'}:=
 l.inv.turned (t':=s.toks) (λb o a e=>c.extBut b o a e) l.un l.nl (.inr l.ab) l.nc l.np
theorem Ba(hc:X.calm=true)(I:Inv X io σ H2 s₂)(T:Turn X.prog X.w X.K tg J fp it tn)(st:tn 0 s₂.heap)(L:∀b∈fp,oE X io H2 b)(S:CScope X.env.scope sc) (ap:capOk κ N' X.N sc=true) (t:∀x c,cl.lookup x=!c->X.env.cells.lookup x=!c) (ar:∀x c,X.env.cells.lookup x=!c->(x,NameKind.free)∈sc.names->cl.lookup x=!c)(hg:∀C,PG (blk X sc N' cl C s₂ H2 fp io) tg g) (hi:∀C,Gi (blk X sc N' cl C s₂ H2 fp io) ifs tc) (he:∀C,PE (blk X sc N' cl C s₂ H2 fp io) elt te){W:Nat->Nat->ϊ V->Hp->Prop} {Q:VK} {m0:Nat} (w0:W 0 m0 [] H2)(a1:∀i m ys H,W i m ys H->(J.stop i H/\∀p,H p=none->Q (.ref p) (upd H p (.lst ys)))\/(J.go i H/\↑ys<sizeLine/\∃N:ϊ V->Hp->Prop,(∀a2 H',N a2 H'->∃m',m'<m/\W (i+1) m' a2 H')/\∀x H',J.yld i H x H'->g x (cap κ σ) H' λah H2=>qZ (cap κ σ) ah/\tc ah H2 λb F=>if b=true then te ah F λy H4=>N (ys++[y]) H4 else N ys F))(a8:∀D C H' s1,Left X io σ C H' s1->Q (.ref D) H'->RR (.ref D) C (.ok .next) s1):wpAny (model X.prog X.w) X.A (newList []) (λal s=>wpAny (model X.prog X.w) X.A (newFunctionEnv sc X.env.globals cl [] X.env.qual none .none !X.env) (λY ay=>codeAny (model X.prog X.w) X.A (.compStart (.ListComp elt [#[tg,iter,ifs,0]] sc pos) 0 (.ref it) al {Y with scope:=relabel sc X.env}) (RR al Y.locals) ay) E s) E s₂:=by
 show ð (wpAny_newFunctionEnv S.nocell (by intro y hy;simp at hy) (λh₁ k h=>?_) S.kind);dsimp only at k h⊢;generalize hH2:s₂.heap.push {cls:=.type "list",dict:=none,data:=.seq ([]:ϊ ϋ).toArray}=P2 at k h⊢;have M:P2.objs.size=s₂.heap.objs.size+1:=by rw[<-hH2,ģ]
 generalize hCe:P2.objs.size=C at k h M⊢;generalize hDe:s₂.heap.objs.size=D at M⊢;have O:D≠C:=by rw[M];show Ý (Ĭ _)
 have hC:s₂.heap.objs.size<=C:=by rw[hDe,M];show Nat.le_succ _
 have hD:s₂.heap.objs.size<=D:=by rw[hDe];show Ç _
 have a:∀b,b<s₂.heap.objs.size->b≠C/\b≠D:=λb j=>#[Nat.ne_of_lt (Ö j hC),Ý (Ö j hD)];have av:∀b o,s₂.heap.get? b=!o->h₁.get? b=!o:=λb o e=>h.extBut b o (a b (É e)).1 (Jn _ (hH2▸Jn _ e));have am:h₁.get? D=!{cls:=.type "list",data:=.seq ([]:ϊ ϋ).toArray ↑([]:ϊ ϋ)}:=by have q:P2.get? s₂.heap.objs.size=!{cls:=.type "list",data:=.seq ([]:ϊ ϋ).toArray 0}:=hH2▸Ê _ rfl;rw[hDe]at q;show h.extBut _ _ O (Jn _ q)
 have fl:∀b∈fp,b<s₂.heap.objs.size:=λb j=>by let#[o,e,_]:=T.obj 0 _ st b j;show É e
 have B:tn 0 h₁:=T.keep 0 _ _ st λb _ o e=>av b o e;have IB:∀tk,Inv (blk X sc N' cl C s₂ H2 fp io) [] (cap κ σ) H2 {s₂ with heap:=h₁,toks:=tk}:=λtk=>M9 I L fl S ap t ar hC k av;have ae:∀x c,cl.lookup x=!c->c<s₂.heap.objs.size:=λx c P=>by let#[v,o,e,_]:=I.cell x c (t x c P);show É e
 have ac:∀p∈X.pn++io,p.1<s₂.heap.objs.size:=λp l=>É (I.pin p l).1;have ad:∀{H':Hp}{pl:ϸ},(∀b∈fp,H' b=none)->(∀p∈pl,p.1=D)->∀b∈fp,oE (blk X sc N' cl C s₂ H2 fp io) pl H' b:=λ{H' pl} hn bg b j=>by
  show#[hn b j,(a b (fl b j)).1,λz=>?_,.inl j,λx c P=>(L b j).2.2.2.2.1 x c (t x c P),λp l=>?_]
  .rcases Å.mp (I.stkSub b z)with z|z;.show (L b j).2.1 z
   .show (L b j).2.2.1 z
  .rcases Ã.mp l with z|z;.show (L b j).2.2.2.2.2 p z
   .rw [bg p z];show Ne.symm (a b (fl b j)).2
 have aw:∀{s':ώ}{σ':St}{H':Hp}{o:Obj},Inv (blk X sc N' cl C s₂ H2 fp io) [] σ' H' s'->s'.heap.get? D=!o->H' D=none->(∀v,o.data≠.cell v)->Inv (blk X sc N' cl C s₂ H2 fp io) [(D,o)] σ' H' s':=λ{s' σ' H' o} I' e n d=>I'.pins_of λp l=>by
   rw[Zl.mp l];show#[e,n,O,λz=>?_,d];have z':D<s₂.heap.objs.size:=by
    rcases Å.mp (I.stkSub D z)with y|y;.have y':D=X.env.locals:=y;rw[y'];show I.lt
    .show absurd y (I.nofs hD)
   show absurd z' (Nat.not_lt.mpr hD)
 have Z:∀s:ώ,s= {s₂ with heap:= h₁,toks:= s₂.toks + ↑([] :ϊ (ϐ×ϋ))} ->codeAny (model X.prog X.w) X.A (.compLoop (.ListComp elt [#[tg,iter,ifs,0]] sc pos) 0 (.ref it) (.ref D) (compEnvC sc cl C X.env)) (RR (.ref D) C) s:=by
  rintro s rfl;show sV (λn s'=>∃(i:Nat)(ys:ϊ V)(f:ϊ ϋ)(H':Hp),Inv (blk X sc N' cl C s₂ H2 fp io) [] (cap κ σ) H' s'/\tn i s'.heap/\(∀b∈fp,H' b=none)/\s'.heap.get? D=!{cls:=.type "list",data:=.seq f.toArray ↑f}/\Vals ys f/\H' D=none/\↑ys<=sizeLine/\W i n ys H') ?_ m0 #[0,[],[],H2,IB _,B,λb j=>(L b j).1,am,.nil,I.hok.fresh hD,á _,w0];rintro n s3 ⟨i,ys,f,F,I3,ax,a6,d3,v3,n3,z3,w3⟩;have ai:=aw I3 d3 n3 (by intro v z;cases z);have ff:=ad (pl:=[(D,({cls:=.type "list",data:=.seq f.toArray ↑f}:Obj))]) a6 (λp l=>by rw[Zl.mp l]);rcases a1 i n ys F w3 with⟨stop,qn⟩|⟨go,hlt,N,hN,step⟩;.show bu (T.done (blk X sc N' cl C s₂ H2 fp io) rfl rfl rfl hc i _ s3 (cap κ σ) F _ ai ff ax stop) λr s4 ⟨hr,I4⟩=>?_;subst hr;change RR (.ref D) C (.ok .next) s4;let#[dD,nD,_]:=I4.pin (D,_) (Ø _ Ë);have nC:F C=none:=I4.free;have R:=I4.base;have bd:HOk X.prog X.w (upd F D (.lst ys)) s4.heap:=HOk.track I4.hok nD #[z3,f,↑f,v3,dD];have un:Un (frs X.stack) fp H2 (upd F D (.lst ys)) s₂.heap s4.heap:=⟨R.keep,R.slot,λb o q n P=>by rw[ak (a b (É q)).2];show R.free b o q n P,R.there,λb xs q=>by rw[ak (aN (R.tups b xs q) nD)];show R.tups b xs q,λb o x q=>by rw[ak (aN (R.frzs b o x q) nD)];show R.frzs b o x q,λb ps q=>by let#[m1,e1]:=R.tbls b ps q;show⟨m1,by rw[ak (aN e1 nD)];show e1⟩⟩;have IX:Inv X io σ (upd F D (.lst ys)) s4:=I.call' (by show I4.os) un bd I4.bare λb j=>#[(L b j).2.2.2.1,(L b j).2.1,(L b j).2.2.2.2];let#[m4,bb,_]:=I4.loc;show a8 D C _ s4 #[IX,#[m4,bb],by rw[ak (Ne.symm O)];show nC,Ne.symm (a _ I.lt).1,I.nofs hC,Ð I.sz hC,λx c P=>?_,λp l=>(a _ (ac p l)).1] (qn D nD);let#[v,o,e,_]:=I.cell x c P;show(a c (É e)).1
  .show bu (T.item (blk X sc N' cl C s₂ H2 fp io) rfl rfl rfl hc i _ s3 (cap κ σ) F _ ai ff ax go) λr s4 ⟨u,hr,h4⟩=>?_;subst hr;show bu h4 λ_ s5 ⟨x,H5,I5,r5,y5,ag,a7⟩=>?_;have a5:=ad (pl:=[(D,({cls:=.type "list",data:=.seq f.toArray ↑f}:Obj))]) a7 (λp l=>by rw[Zl.mp l]);have a4:=I5.pinned a5 (T.obj _ _ ag);show bu (hg C _ s5 (cap κ σ) H5 x u _ a4 r5 (step x H5 y5)) λ_ s6 ⟨U,H6,I6,G,q6⟩=>?_;show bu (hi C _ s6 U H6 _ I6 q6) λok s7 ⟨H7,I7,q7⟩=>?_;have keep:∀{a3:St}{H8:Hp}{s8:ώ},Inv (blk X sc N' cl C s₂ H2 fp io) ([(D,({cls:=.type "list",data:=.seq f.toArray ↑f}:Obj))]++oG fp s5.heap) a3 H8 s8->tn (i+1) s8.heap/\(∀b∈fp,H8 b=none)/\s8.heap.get? D=!{cls:=.type "list",data:=.seq f.toArray ↑f}/\H8 D=none:=λ{a3 H8 s8} I8=>by
    show#[T.keep _ _ _ ag λb j o e=>(I8.pin (b,o) (Ø _ (Ø _ (iD j e)))).1,λb j=>?_,?_];.obtain ⟨o,e,d⟩:=T.obj _ _ ag b j;show(I8.pin (b,o) (Ø _ (Ø _ (iD j e)))).2.1
    .obtain ⟨e,n,_⟩:=I8.pin (D,_) (Ø _ (ß _ Ë));show#[e,n]
   cases ok with
   |false=>
    have af:N ys H7:=by simpa using q7
    let#[m',hm,w7]:=hN _ _ af;let#[t8,f8,d8,n8]:=keep I7;change ∃m,m<n/\_;show#[m',hm,i+1,ys,f,H7,(I7.pins_of (pins':=[]) (λp l=>nomatch l)).weak G.1.symm G.2,t8,f8,d8,v3,n8,z3,w7]|true=>
    have af:te U H7 λy H4=>N (ys++[y]) H4:=by simpa using q7
    change wpAny _ _ (eval elt (compEnvC sc cl C X.env)) _ _ s7;show bu (he C _ s7 U H7 _ I7 af) λv s8 ⟨y,H8,I8,r8,q8⟩=>?_;let#[m',hm,w8]:=hN _ _ q8;let#[t8,f8,d8,n8]:=keep I8;show append_at (hsz:=by rw[Í,<-↑v3];show z3) d8 λh9 as a9=>?_;have I9:Inv (blk X sc N' cl C s₂ H2 fp io) [] U H8 {s8 with heap:=h9,toks:=s8.toks}:=by
     show(I8.pins_of (pins':=[]) (λp l=>nomatch l)).turned (λb o j e=>as.extBut b o j e) n8 O (.inr hD) (λx c P=>(a c (ae x c P)).2) λp l=>?_;have be:p∈X.pn++io:=by simpa using l
     show(a _ (ac p be)).2
    show#[m',hm,i+1,ys++[y],f++[v],H8,I9.weak G.1.symm G.2,T.keep _ _ _ t8 λb j o e=>as.extBut b o (a b (fl b j)).2 e,f8,?_,Vals.append v3 (.cons r8 .nil),n8,?_,w8];.show h9.get? D=_;rw[a9];simp
    .rw [Â,Þ];show hlt
 show codeAny_compStart_list (Z _ rfl) (T.self X.A 0 _ _ _ B (Z _ rfl))
def mU(κ:ϊ (ύ Nat))(wi:TI)(g:TG)(tc:TT)(te:TE):TE:=λσ H Q=>wi σ H λJ H1=>∃W:Nat->Nat->ϊ V->Hp->Prop,(∃m,W 0 m [] H1)/\∀i m ys H,W i m ys H->(J.stop i H/\∀p,H p=none->Q (.ref p) (upd H p (.lst ys)))\/(J.go i H/\↑ys<sizeLine/\∃N:ϊ V->Hp->Prop,(∀ys' H',N ys' H'->∃m',m'<m/\W (i+1) m' ys' H')/\∀x H',J.yld i H x H'->g x (cap κ σ) H' λσ2 H2=>qZ (cap κ σ) σ2/\tc σ2 H2 λb H3=>if b=true then te σ2 H3 λy H4=>N (ys++[y]) H4 else N ys H3)
theorem Wy(r:ϊ (ύ Nat))(i:ϊ ϐ)(B:X.calm=true)(k:PI X tg iter wi)(S:CScope X.env.scope sc)(b:capOk r i X.N sc=true)(G:∀cl C s H fp io,PG (blk X sc i cl C s H fp io) tg g) (K:∀cl C s H fp io,Gi (blk X sc i cl C s H fp io) ifs tc) (E:∀cl C s H fp io,PE (blk X sc i cl C s H fp io) elt te)(M:∀x,foldedSetIterable iter X.env x=pure x:=by intro _;rfl):PE X (.ListComp elt [#[tg,iter,ifs,0]] sc pos) (mU r wi g tc te):=by
 intro io s Y H Q I h;let#[cl,a,c,d]:=Az (sc:=sc) (env:=X.env) λy O F=>I.ok.has y.1 (S.frees y O F);rw[eval_ListComp];show wpAny_comprehension_free (use:=none) rfl M a S.kind S.locs (bu (k io s Y H _ I h) λv R z=>bu z λP o A=>?_);let#[Z,fp,tn,J,j,e,u,T,p,w,W,#[m0,U],f]:=A;subst e;show Ba B u T p w S b c d (λC=>G cl C o j fp io) (λC=>K cl C o j fp io) (λC=>E cl C o j fp io) U f λD C t R l q=>?_;let#[m,L]:=l.ns;show#[m,L,λh' n=>#[V.ref D,t,l.go n,rfl,q]]
theorem oZ{x:ϐ}{p:Pos}(U:ϊ (ύ Nat))(t:ϊ ϐ)(hc:X.calm=true)(hN:X.N.Nodup)(F:X.N[i]?=!x)(n:X.env.scope.names.lookup x=!.local)(E:PI X tg iter wi) (S:CScope X.env.scope sc) (f:capOk U t X.N sc=true)(hg:∀cl C s H fp io,PG (blk X sc t cl C s H fp io) tg g) (hi:∀cl C s H fp io,Gi (blk X sc t cl C s H fp io) ifs tc) (he:∀cl C s H fp io,PE (blk X sc t cl C s H fp io) elt te)(L:swapsWith (.ListComp elt [#[tg,iter,ifs,0]] sc pos) (!(.Name x p)) c.line X.env=pure true:=by rfl)
  (hs:∀x,foldedSetIterable iter X.env x=pure x:=by intro _;rfl):PS X (.Assign [.Name x p] (.ListComp elt [#[tg,iter,ifs,0]] sc pos) c) (aK (mU U wi g tc te) (ao i)):=by
 intro io s P H D I h;let#[cl,d,j,k]:=Az (sc:=sc) (env:=X.env) λy hy hf=>I.ok.has y.1 (S.frees y hy hf);rw[exec_Assign_Name_used _ _ _ _ L];show Qr (ţ (Qr ?_));change wpAny _ X.A (do let _<-comprehension (.ListComp elt [⟨tg,iter,ifs,0⟩] sc pos) sc X.env _ (newList []) false (eval iter X.env) !(assign (.Name x p) X.env)) _ _ s;show Qr (í (wpAny_comprehension_free (use:=!(assign (.Name x p) X.env)) (Q:=λ_ s'=>SP X io D .next s') rfl hs d S.kind S.locs (bu (E io s P H _ I h) λv s1 h1=>bu h1 λac M h2=>?_)) (λ_ s' hq=>Xs (Xs hq)) λ_ _ e=>e);let#[it,fp,tn,J,w,e,I2,T,O,f2,W,#[m0,w0],r]:=h2;subst e;show Ba (Q:=λy Z=>ao i y P Z D.nx) hc I2 T O f2 S f j k (λC=>hg cl C M w fp io) (λC=>hi cl C M w fp io) (λC=>he cl C M w fp io) w0 r λu C Y s1 l q=>?_;change wpAny _ X.A (assign (.Name x p) X.env (.ref u)) _ _ _;show wpAny_assign_Name (qK l.inv hN F (.inl n) (v:=.ref u) rfl (λR I3 ⟨a,K,ha⟩=>?_) (.inr n));let#[m,hn]:=l.ns;have B:C≠a:=by
  rcases ha with z|z;.rw [z];show l.nl
  .show Ne.symm (l.nc x a z)
 show#[m,hn.sameBut K B,λh' G=>?_];have I4:Inv X io (P.set i !(.ref u)) Y {R with heap:=h'}:=I3.turned (t':=R.toks) (λb o hb e=>G.extBut b o hb e) l.un l.nl (.inr l.ab) l.nc l.np;show#[_,_,I4,q]
end
section
variable{κ:ϊ (ύ Nat)}{g:TG}{tc:TT}{te:TE}{σ:St}{H:Hp}{Q:VK}
theorem Gj{lo:Int}(d:Nat->ϊ V->Hp->Prop)(k:d 0 [] H)(o:n<=sizeLine)(hz:∀i ys H,d i ys H->↑ys<=i)(q:∀i ys H,i<n->d i ys H->g (.int (lo+i)) (cap κ σ) H λa H2=>qZ (cap κ σ) a/\tc a H2 λb h=>if b=true then te a h λy j=>d (i+1) (ys++[y]) j else d (i+1) ys h)(l:∀ys H,d n ys H->∀p,H p=none->Q (.ref p) (upd H p (.lst ys))):∃W:Nat->Nat->ϊ V->Hp->Prop,(∃m,W 0 m [] H)/\∀i m ys H,W i m ys H->((KY lo n).stop i H/\∀p,H p=none->Q (.ref p) (upd H p (.lst ys)))\/((KY lo n).go i H/\↑ys<sizeLine/\∃N:ϊ V->Hp->Prop,(∀f H',N f H'->∃m',m'<m/\W (i+1) m' f H')/\∀x H',(KY lo n).yld i H x H'->g x (cap κ σ) H' λa H2=>qZ (cap κ σ) a/\tc a H2 λb h=>if b=true then te a h λy j=>N (ys++[y]) j else N ys h):=by
 show#[λi m ys H=>m=n-i/\i<=n/\d i ys H,#[n,by simp,á _,k],?_];rintro i m ys H ⟨rfl,s,p⟩;by_cases c:i<n;.show .inr #[c,Ö (Ñ (hz _ _ _ p) c) o,d (i+1),λf H' r=>#[n-(i+1),(),rfl,c,r],λx H' y=>?_];let#[e,y]:=y;subst e y;show q i ys _ c p
 .have e:i=n:=();subst e;show .inl #[Nat.le_refl _,l ys H p]
theorem Ma{K:Ϗ}{xs:ϊ V}(d:Nat->ϊ V->Hp->Prop)(l:d 0 [] H)(s:↑xs<=sizeLine)(r:∀i ys H,i<=↑xs->d i ys H->SqL K H a xs)(hz:∀i ys H,d i ys H->↑ys<=i)(t:∀i x ys H,xs[i]?=!x->d i ys H->g x (cap κ σ) H λc H2=>qZ (cap κ σ) c/\tc c H2 λb j=>if b=true then te c j λy k=>d (i+1) (ys++[y]) k else d (i+1) ys j)(n:∀ys H,d ↑xs ys H->∀p,H p=none->Q (.ref p) (upd H p (.lst ys))):∃W:Nat->Nat->ϊ V->Hp->Prop,(∃m,W 0 m [] H)/\∀i m ys H,W i m ys H->((Ln K a).stop i H/\∀p,H p=none->Q (.ref p) (upd H p (.lst ys)))\/((Ln K a).go i H/\↑ys<sizeLine/\∃N:ϊ V->Hp->Prop,(∀h H',N h H'->∃m',m'<m/\W (i+1) m' h H')/\∀x H',(Ln K a).yld i H x H'->g x (cap κ σ) H' λc H2=>qZ (cap κ σ) c/\tc c H2 λb j=>if b=true then te c j λy k=>N (ys++[y]) k else N ys j):=by
 show#[λi m ys H=>m=↑xs-i/\i<=↑xs/\d i ys H,#[↑xs,by simp,á _,l],?_];rintro i m ys H ⟨rfl,o,p⟩;have q:=r i ys H o p;by_cases f:i<↑xs;.show .inr #[#[xs,xs[i],q,by simp[f]],Ö (Ñ (hz _ _ _ p) f) s,d (i+1),λh H' u=>#[xs.length-(i+1),(),rfl,f,u],λx H' y=>?_];let#[e,y]:=y;subst e;show t i x ys _ (y xs q) p
 .have e:i=↑xs:=();subst e;show .inl #[#[xs,q,Ç _],n ys H p]
end
mutual inductive Dp(K:Ϗ)(H:Hp):V->PyData->Prop where|non:Dp K H .non .none|bl (b:ϑ):Dp K H (.bl b) (.bool b)|int (i:Int):Dp K H (.int i) (.int i)|str (x:ϐ):Dp K H (.str x) (.str x)|lst {a:ό} {xs:ϊ V} {ds:ϊ PyData}:SqL K H a xs->DpAll K H xs ds->Dp K H (.ref a) (.list ds)|tup {a:ό} {xs:ϊ V} {ds:ϊ PyData}:SqT K H a xs->DpAll K H xs ds->Dp K H (.ref a) (.tuple ds)inductive DpAll(K:Ϗ)(H:Hp):ϊ V->ϊ PyData->Prop where|nil:DpAll K H [] []|cons {x:V} {xs:ϊ V} {d:PyData} {ds:ϊ PyData}:Dp K H x d->DpAll K H xs ds->DpAll K H (x::xs) (d::ds)end
theorem DpAll.ints{K:Ϗ}:∀ns:ϊ Int,DpAll K H (ns.map V.int) (ns.map PyData.int)
 |[]=>.nil|n::r=>.cons (.int n) (DpAll.ints r)
theorem Dp.ints{K:Ϗ}{ns:ϊ Int}(h:SqL K H a (ns.map V.int)):Dp K H (.ref a) (.list (ns.map PyData.int)):=.lst h (DpAll.ints ns)
section
variable{X:Cx}
mutual theorem Dp.reads(I:Inv X io σ H s):∀{x:V}{d:PyData}{u:ϋ},Dp X.K H x d->RelV x u->∃c,Reads s.heap u d c|_,_,_,.non,r=>by cases(show _=Value.none from r);show#[_,.none]|_,_,_,.bl b,r=>by cases(show _=Value.bool b from r);show#[_,.bool b]|_,_,_,.int i,r=>by let#[t,rfl]:=r;show#[_,.int i t]|_,_,_,.str x,r=>by let#[t,rfl]:=r;show#[_,.str x t]|_,_,_,.lst (a:=a) h hs,r=>by cases(show _=Value.ref a from r);let#[j,k,p,_]:=I.list h;let#[c,q]:=DpAll.reads I hs k;let#[o,n,e,f,_,g]:=p;show#[_,.list e f g (by simpa using q)]|_,_,_,.tup (a:=a) h hs,r=>by cases(show _=Value.ref a from r);let#[j,k,p,_]:=I.tuple h;let#[c,q]:=DpAll.reads I hs k;let#[o,e,f,n,g]:=p;show#[_,.tuple e f g (by simpa using q)]theorem DpAll.reads(I:Inv X io σ H s):∀{xs:ϊ V}{ds:ϊ PyData}{us:ϊ ϋ},DpAll X.K H xs ds->Vals xs us->∃a,ReadsAll s.heap us ds a|_,_,_,.nil,r=>by cases r;show#[_,.nil]|_,_,_,.cons h hs,r=>by cases r with|cons r rr=>let#[a,q]:=Dp.reads I h r;let#[bs,p]:=DpAll.reads I hs rr;show#[_,.cons q p]end
def rEqD(K:Ϗ):R2:=λx y H Q=>∃d e,Dp K H x d/\Dp K H y e/\SeqAt.shaped d=true/\SeqAt.shaped e=true/\Q (.bl (PyData.eqv d e)) H
def rNeD(K:Ϗ):R2:=λx y H Q=>∃d e,Dp K H x d/\Dp K H y e/\SeqAt.shaped d=true/\SeqAt.shaped e=true/\Q (.bl (not (PyData.eqv d e))) H
theorem QM(i:X.A.units+64<cLine):gA X (compareOp .Eq) (rEqD X.K):=by intro a s o H x y v u Q I l m h;let#[d,e,b,c,f,g,q]:=h;let#[n,j]:=b.reads I l;let#[bs,k]:=c.reads I m;show eq_dataH j k f g i #[.bl _,H,I,rfl,q]
theorem QQ(i:X.A.units+64<cLine):gA X (compareOp .NotEq) (rNeD X.K):=by intro a s o H x y v u Q I l m h;let#[d,e,b,c,f,g,q]:=h;let#[n,j]:=b.reads I l;let#[bs,k]:=c.reads I m;show ne_dataH j k f g i #[.bl _,H,I,rfl,q]
end
theorem ji:∀ns ms:ϊ Int,PyData.eqvAll (ns.map PyData.int) (ms.map PyData.int)=decide (ns=ms)
 |[],[]=>by simp[PyData.eqvAll]|[],_::_=>by simp[PyData.eqvAll]|_::_,[]=>by simp[PyData.eqvAll]|n::r,m::q=>by simp only[È,PyData.eqvAll,PyData.eqv,ji r q];by_cases h:n=m<;>simp[h]
section
variable{X:Cx}
theorem uZ:bC X (.builtin "isinstance") (λxs H Q=>∃T x t b,xs=[x,.ty T]/\TyOf X.K H x t/\PySem.W.kitOne X.K t (.type T)=!b/\Q (.bl b) H):=by
 intro c s j H xs us Q I f h;let#[T,x,t,b,rfl,ty,e,q]:=h;let#[u,i,rfl,d,a]:=f.two;cases(show i=Value.type T from a);show CG I d ty e λg=>#[.bl b,H,I.tok g,rfl,q]
theorem rn:gA X (compareOp .LtE) (λx y H Q=>∃i j,x=.str i/\y=.str j/\Q (.bl (not (decide (j.cps.toList<i.cps.toList)))) H):=by intro a s d H x y v u Q I b c h;let#[i,j,rfl,rfl,q]:=h;let#[t,rfl]:=b;let#[t',rfl]:=c;show PySem.P.le_str (aZ I q (by simp))
theorem Gk(g:X.calm=true):bC X (.builtin "sum") (λxs H Q=>∃(a:ό)(ns:ϊ Int),xs=[.ref a]/\SqL X.K H a (ns.map V.int)/\Q (.int ns.sum) H):=by
 intro f s n H xs us Q I l h;let#[a,ns,rfl,j,q]:=h;let#[u,rfl,k]:=l.one;cases(show u=Value.ref a from k);let#[b,r,d,hz]:=I.list j;have c:=intsAre_of r;let#[xs,e]:=c.allInts.items;rw[e]at d;show sum_intListG (I.ok.hd g) d.isList λh' m t' i=>?_;have es:preSum (numAt xs) xs.size=ns.sum:=by rw[preSum_eq,ë (by simp),<-nums_intItems,<-e];change(numsOf b.toArray.toList).sum=_;rw[show b.toArray.toList=b from rfl,c.numsOf]
 rw[es];show#[.int _,H,I.kept i,#[_,rfl],q]
end
section
variable{X:Cx}
noncomputable def ZJ(x:ϐ):It:=#[λi _=>i<x.cps.size,λi H v H'=>H'=H/\∃c,x.cps[i]?=!c/\v=.str #[([c].toArray)],λi _=>i=x.cps.size]
theorem Gm{P:ϓ}{K:Ϗ}(x:ϐ)(t:Tok)(m:String)(a:ό)(L:["enumerate","zip","dict_itemiterator","dict_reverseitemiterator","odict_iterator","itertools.zip_longest","itertools.pairwise"].contains m=false)(W:∀A:ϖ,A.handled=none->Walks P w A a [a] [a] x.cps.size (SignAt x) (λi h=>h.IsStrIter a m x t i))(S:∀(A:ϖ)(i:Nat)(s:ώ)(Q:϶)(E:϶),s.heap.IsStrIter a m x t i->Q (.ref a) s->wpAny (model P w) A (pyIter (.ref a)) Q E s):Turn P w K tg (ZJ x) [a] a (λi h=>h.IsStrIter a m x t i)where
 mem:=by simp
 obj:=λi h st b g=>by
  have e:b=a:=by simpa using g
  subst e;let#[o,e,c,d]:=st;show#[o,e,λv z=>by rw[d]at z;cases z]
 keep:=λi h h' st k=>by let#[o,e,r]:=st;show#[o,k a (by simp) o e,r]
 item:=by
  intro X D M C F i f s R H E I l st J;subst D M C;let#[n,p,U,q,y,B]:=l a (by simp);show(W X.A (I.ok.hd F)).item i s _ _ J st λv h' O Y j N=>?_;let#[c,u,Z,rfl]:=Y;have T:Inv X f R H {s with heap:=h',toks:=O}:=I.turned (λb o g e=>N b o (by simpa using g) e) n p q y B;let#[o,e,G,d]:=id j;show⟨_,rfl,oF (s:={s with heap:=h',toks:=O}) e G d L ⟨.str ⟨([c].toArray)⟩,H,T,⟨u,rfl⟩,⟨rfl,c,Z,rfl⟩,j,λb g=>(l b g).1⟩⟩
 done:=by intro X D M C F i f s R H E I l st J;subst D M C;let#[n,p,U,q,y,B]:=l a (by simp);have e:i=x.cps.size:=J;subst e;show(W X.A (I.ok.hd F)).done s _ _ st λh' O N=>#[rfl,I.turned (λb o g e=>N b o (by simpa using g) e) n p q y B]
 self:=λA i s Q E st h=>S A i s Q E st h
def Mf(tl:TE):TI:=λσ H R=>tl σ H λx H1=>∃z,x=.str z/\R (ZJ z) H1
theorem Gn(n:PE X l tl):PI X tg l (Mf tl):=by
 intro c s g H R I h;show bu (n c s g H _ I h) λv a ⟨x,j,d,r,p⟩=>?_;let#[z,e,q]:=p;subst e;let#[t,rfl]:=r;have fin:∀(ty:String)(o:Obj),(["enumerate","zip","dict_itemiterator","dict_reverseitemiterator","odict_iterator","itertools.zip_longest","itertools.pairwise"].contains ty=false)->(∀A:ϖ,A.handled=none->Walks X.prog X.w A a.heap.objs.size [a.heap.objs.size] [a.heap.objs.size] z.cps.size (SignAt z) (λi h=>h.IsStrIter a.heap.objs.size ty z t i))->(∀(A:ϖ)(i:Nat)(s:ώ)(Q:϶)(E:϶),s.heap.IsStrIter a.heap.objs.size ty z t i->Q (.ref a.heap.objs.size) s->wpAny (model X.prog X.w) A (pyIter (.ref a.heap.objs.size)) Q E s)->(a.heap.push o).IsStrIter a.heap.objs.size ty z t 0->PIE X c g tg R (.ref a.heap.objs.size) {a with heap:=a.heap.push o}:=λty o k W S st=>by
  show#[a.heap.objs.size,[a.heap.objs.size],_,_,j,rfl,d.kept (t':=a.toks) λb o e=>Jn _ e,Gm z t ty _ k W S,st,λb m=>?_,q];have e:b=a.heap.objs.size:=by simpa using m
  subst e;show d.fpOk (Ç _) (d.hok.fresh (Ç _))
 cases ha:z.cps.all (·<128);.show wpAny_pyIter_wide ha (fin "str_iterator" _ (by decide) (λA f=>Walks.strWide f _ z t) (λA i s Q E st h=>wpAny_pyIter_striter_wide st h) #[_,Ê _ rfl,rfl,rfl])
 .show wpAny_pyIter_ascii ha (fin "str_ascii_iterator" _ (by decide) (λA f=>Walks.strAscii f _ z t) (λA i s Q E st h=>wpAny_pyIter_striter_ascii st h) #[_,Ê _ rfl,rfl,rfl])
end
structure ZipNe(z TI TO i1 i2:ό):Prop where
 TIz:TI≠z
 TOz:TO≠z
 i1z:i1≠z
 i2z:i2≠z
 TITO:TI≠TO
 TIi1:TI≠i1
 TIi2:TI≠i2
 TOi1:TO≠i1
 TOi2:TO≠i2
 i12:i1≠i2
theorem Inv.turnedAll{X:Cx}{s:ώ}{t':Nat}(I:Inv X io σ H s)(k:∀b o,b∉ch->s.heap.get? b=!o->h'.get? b=!o)
  (d:∀b∈ch,oE X io H b):Inv X io σ H {s with heap:=h',toks:=t'}:=by
 have f:∀b u,H b=!u->b∉ch:=λb u e z=>by rw[(d b z).1]at e;cases e
 show I.step (g':=s.gens) (d':=s.drawn) (ch:=ch) (λb g=>?_) (λb o _ _ a e _=>k b o a e) (λb o _ _ a e _=>#[o.slots,k b o a e]) (λ_ _ _ _ n=>n)
  (λb o a e=>#[o,k b o a e]) (λ_ _ e=>e) (λ_ _ _ e=>e) (λb ps e=>#[([].toArray),by rw[e];simp]) (λm h=>?_) (λb u e=>?_) I.bare
 .show #[(d b g).2.2.2.1,(d b g).2.1,(d b g).2.2.2.2.1,(d b g).2.2.2.2.2]
 .obtain ⟨o,es,ep,i,r⟩:=h;show#[o,es,ep,k _ o (λz=>(d _ z).2.1 rfl) i,r]
 .show (I.hok b u e).stay (λc v a q=>k c v ?_ q) (λ_ q=>q) λ_ _ q=>q
  rcases a with z|z
  .rw [z];show f b u e
  .show f c _ z
structure Cal(P:ϓ)(w:ϕ)(K:Ϗ)(mg:ϐ->ύ ϋ)(base:ϒ)(n:Nat)(x:ϐ)(ps:ϊ ϐ)(sp:Sp):Prop where ex:∃(f:ό)(fd:FuncData),FnOk P w K mg base Pb n f fd ps sp/\Binds K fd ps []/\W.keepIn K (.ref f)=true/\mg x=!(.ref f)
section
variable{X:Cx}{n k:Nat}{x:ϐ}{ps:ϊ ϐ}{sp:Sp}{p pos:Pos}{e:Expr}{es:ϊ Expr}{t:TA}
theorem gf(c:Cal X.prog X.w X.K X.mg X.base n x ps sp)(m:Room k X.A)(j:n<=k)(i:Gl X x)(d:PA X (e::es) t)(a:(x==("__debug__":ϐ))=false:=by decide)(h:starEach (e::es) X.env=(false,eval e X.env)::starEach es X.env:=by rfl) (b:(backTo pos (starEach es X.env)).any (·.1)=false:=by rfl):PE X (.Call (.Name x p) (e::es) [] pos) (eY sp [] E0 t):=by let#[f,q,F,g,o,l]:=c.ex;show Ao F (m.mono j) i l o g .nil Ph d a h b
theorem sW(c:Cal X.prog X.w X.K X.mg X.base n x ps sp)(h:Room k X.A)(e:n<=k)(d:Gl X x)(a:(x==("__debug__":ϐ))=false:=by decide):PE X (.Call (.Name x p) [] [] pos) (eY sp [] E0 cY):=by let#[f,j,F,b,i,g]:=c.ex;show FN F (h.mono e) d g i b .nil Ph a
end
theorem small(h:n<=1000):n<=sizeLine:=İ (Dc h)
theorem aq(h:H p=none)(o:HO):Same H (upd H p o):=λb u q=>by rw[ak (aN q h)];show q
theorem Same.get(e:Same H H')(h:H a=!o):H' a=!o:=e a o h
theorem aA(h:H p=none)(q:H a=!o):upd H p o' a=!o:=aq h o' a o q
section
variable{X:Cx}(K:Ϗ)(hK:X.K=K)
include hK
theorem vd:Wa X (cZ K):=hK▸LK
theorem Mg:Wa X (iH K):=hK▸QB
theorem ph:Qw X (CN K):=hK▸LQ
theorem iM:gA X (compareOp .In) (G3 K false):=hK▸CQ
theorem qC:gA X (compareOp .NotIn) (G3 K true):=hK▸sI
theorem kY(a:X.A.units+64<cLine):gA X (compareOp .Eq) (rEqD K):=hK▸QM a
theorem nM(a:X.A.units+64<cLine):gA X (compareOp .NotEq) (rNeD K):=hK▸QQ a
theorem Gp:gA X (binaryOp .Add) (FW K):=hK▸Ar
def Gq(K:Ϗ):ϊ V->Hp->VK->Prop:=λxs H Q=>∃x n,xs=[x]/\Wv K x H n/\Q (.int n) H
theorem aD:bC X (.builtin "len") (Gq K):=by subst hK;show Fx
def iQ(K:Ϗ):ϊ V->Hp->VK->Prop:=λxs H Q=>∃p ys,xs=[.ref p]/\(SqL K H p ys\/SqT K H p ys)/\∀l,H l=none->Q (.ref l) (upd H l (.lst ys))
theorem eO:bC X (.type "list") (iQ K):=by subst hK;show sJ
def d7(K:Ϗ):ϊ V->Hp->VK->Prop:=λxs H Q=>∃p ys,xs=[.ref p]/\((SqL K H p ys/\∀l,H l=none->Q (.ref l) (upd H l (.tup ys)))\/(SqT K H p ys/\Q (.ref p) H))
theorem bD:bC X (.type "tuple") (d7 K):=by subst hK;show qz
def eQ(K:Ϗ):ϊ V->Hp->VK->Prop:=λxs H Q=>∃T x t b,xs=[x,.ty T]/\TyOf K H x t/\PySem.W.kitOne K t (.type T)=!b/\Q (.bl b) H
theorem bV:bC X (.builtin "isinstance") (eQ K):=by subst hK;show uZ
def QR(K:Ϗ):ϊ V->Hp->VK->Prop:=λxs H Q=>∃(a:ό)(ns:ϊ Int),xs=[.ref a]/\SqL K H a (ns.map V.int)/\Q (.int ns.sum) H
theorem Dh(a:X.calm=true):bC X (.builtin "sum") (QR K):=by subst hK;show Gk a
theorem aY(a:PE X l tl):PI X tg l (cB K tl):=hK▸Lp a
theorem dJ(a:PE X l tl):PI X tg l (kE K tl):=hK▸Qm a
def jF(K:Ϗ)(ta:TE):TT:=λσ H Q=>ta σ H λx H'=>∃k,Ft K x H' k/\Q k H'
theorem bH{a:Expr}(d:PE X a c)(e:∀b,isTrue a X.env b=(do let v<-b;standAt a.pos;holding [v] (truthy v))):PT X a (jF K c):=by subst hK;show Fv d e
theorem cQ(b:X.calm=true)(h:Wo X es t)(c:↑(assignEach es X.env)=n:=by rfl) (a:(assignEach es X.env).findIdx? (·.1)=none:=by rfl):PG X (.Tuple es k pos) (jd K n t):=by subst hK;show Ql b h c a
end
section
variable{X:Cx}(K:Ϗ)(hK:X.K=K){o e:Expr}{es:ϊ Expr}{to:TE}{t:TA}{name:ϐ}{apos cpos:Pos}{T id:String}{r:V->ϊ V->Hp->VK->Prop}
include hK
theorem Mh(g:PlainAttrs T)(c:Slot T name id)(d:typeOf (.builtin id)=pure (.type "method_descriptor"))(e:Qy X id r)(f:PE X o to)(a:attributeBase o name X.env (eval o X.env)=eval o X.env:=by rfl)(b:(apos.endLine==cpos.line)=true:=by rfl):PE X (.Call (.Attribute o name apos) [] [] cpos) (LR K T r to):=by subst hK;show QD g c d e f a b
theorem lZ(l:PlainAttrs T)(f:Slot T name id)(g:typeOf (.builtin id)=pure (.type "method_descriptor"))(i:Qy X id r)(j:PE X o to)(h:PA X (e::es) t)(b:attributeBase o name X.env (eval o X.env)=eval o X.env:=by rfl)(d:((backTo cpos (starEach (e::es) X.env)).all (λx=>not x.1)&&(backToKw cpos (keywordEach [] X.env)).all (λx=>x.1.isSome)&&decide (↑(e::es)+↑([]:ϊ Keyword)+(if([]:ϊ Keyword).isEmpty then 0 else 1)<30))=true:=by rfl)(c:(apos.endLine==cpos.line)=true:=by rfl) (k:starEach (e::es) X.env=(false,eval e X.env)::starEach es X.env:=by rfl) (a:(backTo cpos (starEach es X.env)).any (·.1)=false:=by rfl):PE X (.Call (.Attribute o name apos) (e::es) [] cpos) (oU K T r to t):=by subst hK;show Ww l f g i j h b d c k a
end
abbrev cG:R2:=uK λi j=>.int (i+j)
abbrev rA:R2:=uK λi j=>.int (i-j)
abbrev ie:R2:=rI CMul λi j=>.int (i*j)
abbrev cR:R2:=rI Ws λi j=>.int (i/j)
abbrev bW:R2:=rI (λ_ j=>0<j) λi j=>.int (i%j)
abbrev Pn:R2:=rI Wt λi j=>.int (i*2^j.toNat)
abbrev WD:R2:=rI (λ_ j=>0<=j) λi j=>.int (i/2^j.toNat)
abbrev WF:R2:=uK λi j=>.int (Builtin.bitAnd i j)
abbrev WK:R2:=uK λi j=>.int (Builtin.bitXor i j)
abbrev Gr:R2:=uK λi j=>.bl (decide (i<j))
abbrev Mi:R2:=uK λi j=>.bl (decide (i<=j))
abbrev sX:R2:=uK λi j=>.bl (decide (j<i))
abbrev fV:R2:=λx y H Q=>∃i j,x=.str i/\y=.str j/\↑i+↑j<=sizeLine/\Q (.str (i++j)) H
abbrev pq:R2:=λx y H Q=>∃i j,x=.str i/\y=.str j/\Q (.bl (not (decide (j.cps.toList<i.cps.toList)))) H
abbrev gF:R2:=λx y H Q=>y=.non/\Q (.bl (decide (x=.non))) H
abbrev xF:R2:=λx y H Q=>y=.non/\Q (.bl (not (decide (x=.non)))) H
abbrev pA:V->Hp->VK->Prop:=rU λi=>.int (-i)
abbrev Pq:ϊ V->Hp->VK->Prop:=λxs H Q=>∃x,xs=[.str x]/\↑x=1/\Q (.int (x.cps.getD 0 0:Nat)) H
abbrev Gs:ϊ V->Hp->VK->Prop:=λxs H Q=>∃i j,xs=[.int i,.int j]/\Q (.int (if j<i then j else i)) H
abbrev Bb:W8:=Zz λi j=>i+j
def Cf(v:ϋ)(o:Obj):Prop:=∃vs,o.data=.fields vs/\vs[2]?=!v
def F2(h:ϒ)(x:ό)(v:ϋ):Prop:=∃o,h.get? x=!o/\Cf v o
def Ch(h:ϒ):ϊ ό->Prop
 |[]=>False|[x]=>F2 h x .none|x::y::l=>F2 h x (.ref y)/\Ch h (y::l)
theorem Ch.keeps(k:∀y v,F2 h y v->F2 h' y v):∀{l:ϊ ό},Ch h l->Ch h' l
 |[_],c=>k _ _ c|_::_::_,c=>#[k _ _ c.1,Ch.keeps k c.2]
theorem Ch.there:∀{l:ϊ ό},Ch h l->∀b∈l,∃o,h.get? b=!o
 |[_],⟨o,e,_⟩,b,m=>#[o,by rw[Zl.mp m];show e]|_::_::_,⟨⟨o,e,_⟩,c⟩,b,m=>by
  rcases Å.mp m with rfl|m
  .show #[o,e]
  .show c.there b m
def Cn(x:ό)(h:ϒ):Prop:=∃l,(x::l).Nodup/\Ch h (x::l)
theorem Cn.nil(f:F2 h x .none):Cn x h:=#[[],by simp,f]
theorem Cn.keeps(c:Cn x h)(k:∀y v,F2 h y v->F2 h' y v):Cn x h':=by let#[l,n,c]:=c;show#[l,n,c.keeps k]
def Kpa{α:Type}:Sem α->Prop
 |.pure _=>True|.raise _=>True|.unsupported _=>True|.finish _=>True|.rule _ k=>Kpa (k Unit.unit)|.at _ k=>Kpa (k Unit.unit)|.load _ _ k=>∀o,Kpa (k o)|.update _ _ f k=>(∀o v,Cf v o->Cf v (f o))/\Kpa (k Unit.unit)|.alloc _ k=>∀a,Kpa (k a)|.loadIfAlive _ k=>∀o,Kpa (k o)|.point _ k=>Kpa (k Unit.unit)|.fresh k=>∀t,Kpa (k t)|.ask k=>∀t,Kpa (k t)|.handled _ k=>∀t,Kpa (k t)|.stack k=>∀l,Kpa (k l)|.register _ _=>True|_=>False
theorem Mj(o:Obj)(c:F2 h y v):F2 (h.push o) y v:=by let#[u,e,f]:=c;show#[u,Jn _ e,f]
theorem QS{f:Obj->Obj}(i:∀o v,Cf v o->Cf v (f o))(c:F2 h y v):F2 (h.update a f) y v:=by
 let#[u,e,g]:=c;by_cases q:a=y;.subst q;let#[vs,b,d]:=i u v g;show#[f u,ï f e (Ť b),vs,b,d]
 .show #[u,(ó _ _ q).trans e,g]
theorem Kpa.wp{g:Type}{t:Sem g}{Q:g->Pos->ώ->Prop}{E:ϋ->Pos->ώ->Prop}{p:Pos}(b:Kpa t)(h:Sem.wp M d t Q E p s)(c:Cn x s.heap):
  Sem.wp M d t (λa p s'=>Q a p s'/\Cn x s'.heap) (λe p s'=>E e p s'/\Cn x s'.heap) p s:=by induction t generalizing p s with
 |pure a=>rw[Sem.wp]at h⊢;show#[h,c]|raise e=>rw[Sem.wp]at h⊢;show#[h,c]|unsupported w=>rw[Sem.wp]at h;show h.elim|finish w=>rw[Sem.wp]at h;show h.elim|register a k ih=>rw[Sem.wp]at h;show h.elim|rule _ k ih=>rw[Sem.wp]at h⊢;show ih _ b h c|«at» _ k ih=>rw[Sem.wp]at h⊢;show ih _ b h c|load a _ k ih=>rw[Sem.wp]at h⊢;let#[o,i,h]:=h;show#[o,i,ih o (b o) h c]|update a _ f k ih=>rw[Sem.wp]at h⊢;show#[h.1,ih _ b.2 h.2 (c.keeps λ_ _=>QS b.1)]|alloc o k ih=>rw[Sem.wp]at h⊢;show ih _ (b _) h (c.keeps λ_ _=>Mj o)|loadIfAlive a k ih=>rw[Sem.wp]at h⊢;show ih _ (b _) h c|point _ k ih=>rw[Sem.wp]at h⊢;show ih _ b h c|fresh k ih=>rw[Sem.wp]at h⊢;show ih _ (b _) h c|ask k ih=>rw[Sem.wp]at h⊢;show ih _ (b _) h c|handled _ k ih=>rw[Sem.wp]at h⊢;show ih _ (b _) h c|stack k ih=>rw[Sem.wp]at h⊢;show ih _ (b _) h c|choose _ _ k ih=>show b.elim|os _ _ k ih=>show b.elim|call _ _ _ _ k ih=>show b.elim|newGen _ k ih=>show b.elim|genState _ k ih=>show b.elim|resume _ _ _ k ih=>show b.elim|yield _ _ _ k ih=>show b.elim|fork _ k ih=>show b.elim|thread k ih=>show b.elim|await _ _ _ _ k ih=>show b.elim
theorem Kpa.any{d:Type}{t:Sem d}{Q:d->ώ->Prop}(f:Kpa t)(h:wpAny M A t Q E s)(c:Cn x s.heap):wpAny M A t (λa s'=>Q a s'/\Cn x s'.heap) (λe s'=>E e s'/\Cn x s'.heap) s:=λg p b=>f.wp (h g p b) c
theorem Kpa.bind{c g:Type}{t:Sem c}{f:c->Sem g}(b:Kpa t)(d:∀a,Kpa (f a)):Kpa (t>>=f):=by change Kpa (Sem.bind t f);induction t with
 |pure a=>show d a|raise e=>trivial|unsupported w=>trivial|finish w=>trivial|register a k ih=>trivial|rule _ k ih=>show ih _ b|«at» _ k ih=>show ih _ b|load a _ k ih=>showλo=>ih o (b o)|update a _ f k ih=>show#[b.1,ih _ b.2]|alloc o k ih=>showλa=>ih a (b a)|loadIfAlive a k ih=>showλo=>ih o (b o)|point _ k ih=>show ih _ b|fresh k ih=>showλo=>ih o (b o)|ask k ih=>showλo=>ih o (b o)|handled _ k ih=>showλo=>ih o (b o)|stack k ih=>showλo=>ih o (b o)|choose _ _ k ih=>show b.elim|os _ _ k ih=>show b.elim|call _ _ _ _ k ih=>show b.elim|newGen _ k ih=>show b.elim|genState _ k ih=>show b.elim|resume _ _ _ k ih=>show b.elim|yield _ _ _ k ih=>show b.elim|fork _ k ih=>show b.elim|thread k ih=>show b.elim|await _ _ _ _ k ih=>show b.elim
section
variable{α:Type}
theorem sY(a:ό):Kpa (load a):=λ_=>trivial
theorem vf(v:ϋ):Kpa (fieldsOf v):=by
 unfold fieldsOf;split
 .show (sY _).bind λo=>?_;split<;>trivial
 .trivial
theorem kZ(v:ϋ)(i:Nat):Kpa (field v i):=by
 unfold field;show(vf v).bind λa=>?_;split<;>trivial
theorem jj(c:i≠2)(v u:ϋ):Kpa (setField v i u):=by
 unfold setField;split
 .unfold updateField;show(sY _).bind λo=>?_;split
  .split
   .show #[λo v ⟨vs,b,a⟩=>#[_,ĭ b _,?_],trivial];rw[Array.getElem?_setIfInBounds_ne c];show a
   .trivial
  .trivial
 .trivial
theorem jy(e:ϋ)(a:ύ ό):Kpa (setFlight e a):=by
 unfold setFlight;show(kZ _ _).bind λb=>?_;split;.show jj (by decide) _ _
 .trivial
theorem QT(env:Env)(a:ϊ Env):Kpa (behindIsImport env a):=by
 unfold behindIsImport;split
 .trivial
 split;.trivial
 show(kZ _ _).bind λ_=>trivial
theorem Ml(env:Env)(b:ϑ)(l:ϊ Env):Kpa (keptBack env b l):=by cases l with
 |nil=>
  unfold keptBack;dsimp only;split;.trivial
  .show Kpa.bind (Kpa.bind (λ_=>trivial) λ_=>trivial) λ_=>trivial|cons e l=>show trivial
theorem vg:∀l:ϊ Env,Kpa (readyFrames l)
 |[]=>trivial|env::outer=>by
  unfold readyFrames;split
  .show (sY _).bind λo=>?_;split
   .trivial
   .show (QT _ _).bind λb=>(Ml _ _ _).bind λv=>?_;show Kpa.bind #[λo v ⟨vs,c,a⟩=>#[vs,c,a],trivial] λ_=>vg outer
  .trivial
theorem xG(env:Env):Kpa (PySem.frameOf env):=by
 unfold PySem.frameOf;show Kpa.bind (Kpa.bind (λ_=>trivial) λ_=>trivial) λl=>Kpa.bind ?_ λo=>?_
 .unfold frameObject;split;.trivial
  .show (vg _).bind λ_=>trivial
 .split<;>trivial
theorem Gu(f:ό)(b:ϑ):Kpa (entryPlaceOf f b):=by
 unfold entryPlaceOf;show Kpa.bind (λ_=>trivial) λl=>?_;split<;>trivial
theorem Gv(a b c d e:ϋ)(l:ϊ ϋ):Kpa (EntryCells.newEntry a b c d e l):=by
 unfold EntryCells.newEntry newFields newObj newObjAsIs;dsimp only;generalize([a,b,c,d,e]++if l.isEmpty=true then List.replicate 6 Value.none else l)=vs;split
 .trivial
 .show λ_=>trivial
theorem sZ(e:ϋ)(env:Env):Kpa (noteFrame e env):=by
 unfold noteFrame;split
 .show (kZ _ _).bind λh=>?_;have fin:∀(f:ό)(b:ϑ),Kpa (do setField e 1 (<-EntryCells.newEntry h (<-PySem.frameOf env) .none (rawInt f) .none (<-entryPlaceOf f b))):=λf b=>(xG _).bind λa=>(Gu _ _).bind λpl=>(Gv _ _ _ _ _ _).bind λv=>jj (by decide) _ _;split
  .show (kZ _ _).bind λq=>?_
   split;.trivial
   .show (jj (by decide) _ _).bind λ_=>fin _ _
  .show fin _ _
 .trivial
theorem xH(e:ϋ)(env:Env):Kpa (leaving env e):=by unfold leaving;show(sZ _ _).bind λ_=>jy _ _
end
theorem ObjOk.there(x:ObjOk P w H h a o):∃u,h.get? a=!u:=by cases o with|lst xs=>let#[_,_,_,_,e]:=x;show#[_,e]|tup xs=>let#[_,_,_,o,e,_]:=x;show#[_,e]|dK kvs=>let#[_,_,_,_,o,_,_,e,_]:=x;show#[_,e]|dT kvs=>let#[_,_,_,_,o,_,_,e,_]:=x;show#[_,e]|set S n=>let#[o,_,_,_,e,_]:=x;show#[_,e]|ins C dx fs=>let#[_,_,_,e,_]:=x;show#[_,e]|own y=>show x|xd fs=>let#[_,#[_,_,_,e,_],_]:=x;show#[_,e]|rng lo hi=>let#[_,_,_,e]:=x;show#[_,e]|frz ob u=>let#[e,_]:=x;show#[_,e]|tbl ps=>show#[_,(show h.get? a=!_ from x)]|met f y=>show#[_,(show h.get? a=!_ from x)]|ext φ=>let#[_,#[_,e],_]:=x;show#[_,e]
def CX1(P:ϓ)(w:ϕ)(outer:ϊ Env)(H:Hp)(s:ώ)(E:XK)(x:ό)(s':ώ):Prop:=∃(C a0:ϋ)(B:ϒ)(H':Hp),s'.os=s.os/\AllBare s'.gens/\Un (frs outer) [] H H' s.heap s'.heap/\HOk P w H' s'.heap/\H' x=none/\Heap.FlyingW B outer x C a0 s'.heap/\s.heap.get? x=none/\(∀b o,s.heap.get? b=!o->b∉frs outer->∃u,B.get? b=!u)/\(∀b o,H' b=!o->∃u,B.get? b=!u)/\E C none H'
def m5(P:ϓ)(w:ϕ):Fy:=λouter H s E e s'=>∃x:ό,e=.ref x/\CX1 P w outer H s E x s'/\Cn x s'.heap
theorem CX1.leaves{E:XK}(c:Cn x s'.heap)(h:wpAny M A (leaving env (.ref x)) (λ_ a=>CX1 P w outer H s E x a) (λ_ _=>False) s'):wpAny M A (leaving env (.ref x)) (λ_ a=>m5 P w outer H s E (.ref x) a) (λb a=>m5 P w outer H s E b a) s':=í ((xH _ _).any h c) (λ_ _ h=>#[x,rfl,h.1,h.2]) λ_ _ z=>z.1.elim
theorem Mp{C:ϋ}(m:Heap.MadeExcOf h h' x C vs):Cn x h':=by let#[t,e,_]:=m.there;show .nil #[_,e,_,rfl,rfl]
def Pr(X:Cx)(E:XK):Prop:=∀(io:ϸ)(σ:St)(H:Hp)(s:ώ)(x:ό)(C:ϋ)(vs:ϊ ϋ)(h':ϒ),Inv X io σ H s->Heap.MadeExcOf s.heap h' x C vs->E C none H->X.xe (.ref x) {s with heap:=h'}
section
variable{P:ϓ}{w:ϕ}{K:Ϗ}{mg:ϐ->ύ ϋ}{base:ϒ}{N:ϊ ϐ}{qual:ϐ}{sc:Scope}{f:ό}{cd:ϋ}{A:ϖ}{outer:ϊ Env}{s₀:ώ}{H₀:Hp}{E E':XK}
theorem ig:frs (envOfC qual sc s₀.heap.objs.size f cd::outer)=s₀.heap.objs.size::frs outer:=rfl
theorem ik:Pr (jT (m5 P w) P w K mg base N qual sc f cd A outer s₀ H₀ E) E:=by
 intro J Z H s x C vs h' I l Q;have O:(A.deeper (envOfC qual sc s₀.heap.objs.size f cd)).frames=!(envOfC qual sc s₀.heap.objs.size f cd::outer):=I.ok.frames;have F:s.heap.FunFrames base (envOfC qual sc s₀.heap.objs.size f cd::outer):=I.stack;have u:Un (frs outer) [] H₀ H s₀.heap s.heap:=I.base;have L:∀b∈frs (envOfC qual sc s₀.heap.objs.size f cd::outer),H b=none:=I.stkFree;change wpAny (model P w) (A.deeper (envOfC qual sc s₀.heap.objs.size f cd)) (leaving (envOfC qual sc s₀.heap.objs.size f cd) (.ref x)) (λ_ i=>m5 P w outer H₀ s₀ E (.ref x) i) (λm i=>m5 P w outer H₀ s₀ E m i) {s with heap:=h'};show CX1.leaves (Mp l) ?_;show wpAny_leaves_madeW (base:=PySem.W.hideAll s.heap (frs (envOfC qual sc s₀.heap.objs.size f cd::outer))) O rfl (λb o q=>ω _ q) (PySem.W.funFrames_hide F λe T a R=>ñ.mpr #[e,T,R]) l λk t M X Y U=>?_;have kept:∀b o,s.heap.get? b=!o->b∉frs (envOfC qual sc s₀.heap.objs.size f cd::outer)->k.get? b=!o:=λb o e d=>M.1 b o (Ĥ _ e d);have slots:∀b o,s.heap.get? b=!o->b∈frs (envOfC qual sc s₀.heap.objs.size f cd::outer)->∃B,k.get? b=!{o with slots:=B}:=λb o e d=>by
  let#[_,o',m,S]:=F.mem d;rw[e]at m;cases m;show U b o (l.keeps b o e) S
 have G:∀b o,s₀.heap.get? b=!o->b∉frs outer->b∉frs (envOfC qual sc s₀.heap.objs.size f cd::outer):=λb o e d j=>by
  rw[ig]at j;rcases Å.mp j with z|z;.show absurd (É e) (by rw[z];show ă _)
  .show d z
 have y:H x=none:=by cases q:H x with
  |none=>rfl|some o=>let#[v,e]:=(I.hok x o q).there;have:=l.new;rw[e]at this;cases this
 show#[C,.ref t,_,H,I.os,I.bare,#[λb o q n d g=>kept b o (u.keep b o q n d g) (G b o q d),λb o q n d g=>?_,u.free,λb o q g=>?_,u.tups,u.frzs,u.tbls],λa o e=>?_,y,M,?_,λb o q d=>?_,λb o q=>?_,Q];.obtain ⟨B,h⟩:=u.slot b o q n d g;let#[D,p]:=slots b _ h (by rw[ig];show Ì _ d);show#[D,p]
 .obtain ⟨o',h⟩:=u.there b o q g;by_cases d:b∈frs (envOfC qual sc s₀.heap.objs.size f cd::outer);.obtain ⟨B,p⟩:=slots b o' h d;show#[_,p]
  .show #[_,kept b o' h d]
 .show (I.hok a o e).stay (λc v r q=>kept c v q λj=>?_) (λ_ q=>q) λ_ _ q=>q;have z:=L c j;rcases r with rfl|r;.rw [e]at z;cases z
  .rw [r]at z;cases z
 .cases q:s₀.heap.get? x with
  |none=>rfl|some o=>let#[o',h]:=u.there x o q (by simp);have:=l.new;rw[h]at this;cases this
 .obtain ⟨o',h⟩:=u.there b o q (by simp);show#[_,Ĥ _ h (G b o q d)]
 .obtain ⟨v,e⟩:=(I.hok b o q).there;show#[_,Ĥ _ e λj=>?_];rw[L b j]at q;cases q
theorem gh(Z:∀C H',E' C none H'->E C none H'):gM (m5 P w) (jT (m5 P w) P w K mg base N qual sc f cd A outer s₀ H₀ E) E':=by
 intro W σ H s e s' I h;let#[x,rfl,#[C,a0,B,H',ho,hg,un,M,hx,p,sx,m,G,q],X]:=h;have Y:(A.deeper (envOfC qual sc s₀.heap.objs.size f cd)).frames=!(envOfC qual sc s₀.heap.objs.size f cd::outer):=I.ok.frames;have u:Un (frs outer) [] H₀ H s₀.heap s.heap:=I.base;have un:Un (frs (envOfC qual sc s₀.heap.objs.size f cd::outer)) [] H H' s.heap s'.heap:=un;have p:Heap.FlyingW B (envOfC qual sc s₀.heap.objs.size f cd::outer) x C a0 s'.heap:=p;have m:∀b o,s.heap.get? b=!o->b∉frs (envOfC qual sc s₀.heap.objs.size f cd::outer)->∃u,B.get? b=!u:=m;change wpAny (model P w) (A.deeper (envOfC qual sc s₀.heap.objs.size f cd)) (leaving (envOfC qual sc s₀.heap.objs.size f cd) (.ref x)) (λ_ k=>m5 P w outer H₀ s₀ E (.ref x) k) (λF k=>m5 P w outer H₀ s₀ E F k) s';show CX1.leaves X ?_;show wpAny_leaves_onW Y rfl p λt r up=>?_;have Q:∀b o,s₀.heap.get? b=!o->b∉frs outer->b∉frs (envOfC qual sc s₀.heap.objs.size f cd::outer):=λb o e i S=>by
  rw[ig]at S;rcases Å.mp S with z|z;.show absurd (É e) (by rw[z];show ă _)
  .show i z
 have j:∀b o,s'.heap.get? b=!o->(∃v,B.get? b=!v)->t.get? b=!o:=λb o e ⟨v,T⟩=>by have z:=p.1 b v T;rw[e]at z;cases z;show r.1 b o T
 have slots:∀b o,s'.heap.get? b=!o->b∈frs (envOfC qual sc s₀.heap.objs.size f cd::outer)->∃R,t.get? b=!{o with slots:=R}:=λb o e i=>by
  let#[_,o',F,hd]:=p.2.2.1.mem i;rw[e]at F;cases F;show up b o e hd
 show#[C,a0,B,H',ho.trans I.os,hg,#[λb o q n i d=>?_,λb o q n i d=>?_,λb o q n d=>?_,λb o q d=>?_,λb xs q=>un.tups b xs (u.tups b xs q),λb o v q=>un.frzs b o v (u.frzs b o v q),λb ps q=>?_],λa o e=>?_,hx,r,?_,λb o q i=>?_,G,Z C H' q];.have g:=u.keep b o q n i d;have O:=u.free b o q n d;show j b o (un.keep b o g O (Q b o q i) d) (m b o g (Q b o q i))
 .obtain ⟨R,g⟩:=u.slot b o q n i d;have O:=u.free b o q n d;have y:b∈frs (envOfC qual sc s₀.heap.objs.size f cd::outer):=by rw[ig];show Ì _ i
  let#[ac,l]:=un.slot b _ g O y d;let#[D,J]:=slots b _ l y;show#[D,J]
 .obtain ⟨o',g⟩:=u.there b o q d;show un.free b o' g (u.free b o q n d) d
 .obtain ⟨o',g⟩:=u.there b o q d;let#[U,l]:=un.there b o' g d;by_cases i:b∈frs (envOfC qual sc s₀.heap.objs.size f cd::outer);.obtain ⟨R,J⟩:=slots b U l i;show#[_,J]
  .show #[_,j b U l (m b o' g i)]
 .obtain ⟨m1,g⟩:=u.tbls b ps q;let#[m2,l]:=un.tbls b _ g;show#[m1++m2,by rw[l,Array.append_assoc]]
 .show (M a o e).stay (λc v L z=>j c v z ?_) (λ_ z=>z) λ_ _ z=>z;rcases L with rfl|L;.show G _ _ e
  .show G _ _ L
 .cases z:s₀.heap.get? x with
  |none=>rfl|some o=>let#[o',g]:=u.there x o z (by simp);rw[sx]at g;cases g
 .obtain ⟨o',g⟩:=u.there b o q (by simp);show m b o' g (Q b o q i)
end
section
variable{P:ϓ}{w:ϕ}{K:Ϗ}{mg:ϐ->ύ ϋ}{base:ϒ}
theorem Fun.okX{x a:ϐ}{st:Stmt}{N ps:ϊ ϐ}(F:Fun K x a st f fd)(S:FnScope N ps (au st))(g:∀vs H Q E,sp vs H Q E->↑vs=↑ps)(c:∀(b:ϋ)(A:ϖ)(outer:ϊ Env)(s:ώ)(H:Hp)(vs:ϊ V)(Q:VK)(E:XK),Room k (A.deeper (envOfC a (au st) s.heap.objs.size f b))->sp vs H Q E->∃t,PSs (jT (m5 P w) P w K mg base N a (au st) f b A outer s H E) (dG st) t/\t {nx:=λ_ H'=>Q .non H',rt:=Q} (start N vs) H):FnOk P w K mg base (m5 P w) (k+1) f fd ps sp:=by let#[m,n,kV,h,o,l,b,ct,j,rfl,lk,d]:=F.ex;show Pa lk d S g λA outer s H vs Q E i e=>c b A outer s H vs Q E i e
end
structure CalX(P:ϓ)(w:ϕ)(K:Ϗ)(mg:ϐ->ύ ϋ)(base:ϒ)(n:Nat)(x:ϐ)(ps:ϊ ϐ)(sp:Sp):Prop where ex:∃(f:ό)(fd:FuncData),FnOk P w K mg base (m5 P w) n f fd ps sp/\Binds K fd ps []/\W.keepIn K (.ref f)=true/\mg x=!(.ref f)
section
variable{X:Cx}{n k:Nat}{x:ϐ}{ps:ϊ ϐ}{sp:Sp}{p pos:Pos}{e:Expr}{es:ϊ Expr}{t:TA}{E:XK}
theorem fP(c:CalX X.prog X.w X.K X.mg X.base n x ps sp)(m:Room k X.A)(j:n<=k)(i:Gl X x)(o:gM (m5 X.prog X.w) X E)(d:PA X (e::es) t)(a:(x==("__debug__":ϐ))=false:=by decide)(h:starEach (e::es) X.env=(false,eval e X.env)::starEach es X.env:=by rfl) (b:(backTo pos (starEach es X.env)).any (·.1)=false:=by rfl):PE X (.Call (.Name x p) (e::es) [] pos) (eY sp [] E t):=by let#[f,r,F,g,q,l]:=c.ex;show Ao F (m.mono j) i l q g .nil o d a h b
theorem FnOk.quiet{P:ϓ}{K:Ϗ}{base:ϒ}{ps:ϊ ϐ}(F:FnOk P w K mg base (m5 P w) k f fd ps sp):FnOk P w K mg base Pb k f fd ps (λvs H Q _=>sp vs H Q E0):=⟨λvs H Q _ h=>F.len vs H Q E0 h,λA a s H args us vs Q E j d g r h=>τ (F.run A a s H args us vs Q E0 j d g r h) λres s' c=>by cases res with
  |ok b=>cases b<;>show c|error e=>let#[x,rfl,#[C,a0,B,l,t,p,un,i,u,b,v,n,o,q],m]:=c;show q.elim⟩
end
theorem Bc{K:Ϗ}(q:PySem.W.excIn K C bmB newId=true):∃bm N nm e bs d sn sub ab col dd k0 k1 k2 k3 k5,K.lookup C=!(excClassObj nm e C N bs bm d sn sub ab col dd k0 k1 k2 k3 k5 newId)/\PySem.W.tailIn K bmB bm=true/\PySem.W.nsOkIn K N=true/\W.nsIn K N "__init__"=!none:=by
 unfold PySem.W.excIn at q;split at q
 .rename_i dd g p j;split at q;.rename_i r bm k0 k1 k2 k3 n k5 f k;simp only[ù,beq_iff_eq,Bool.not_eq_true']at q;let#[#[#[#[#[rfl,rfl],a],m],c],b]:=q;let#[nm,bs,o,ns,e,d,sn,sub,ab,col,h]:=g;dsimp only at f a c b;subst f a;let#[l]:=p;have i:l=[k0,k1,k2,k3,!(.builtin n),k5]:=k;subst i;show#[bm,ns,nm,e,bs,d,sn,sub,ab,col,dd,k0,k1,k2,k3,k5,j,m,c,b]
  .cases q
 .cases q
theorem xJ{K:Ϗ}{N:ό}(q:PySem.W.nsOkIn K N=true):∃o,K.lookup N=!o:=by
 unfold PySem.W.nsOkIn at q;split at q;.rename_i a;show#[_,a]
 .cases q
section
variable{X:Cx}{x:ϐ}{np cpos pos:Pos}{e:Expr}{es:ϊ Expr}{t:TA}{E:XK}{C:ό}{bm:ϊ ϋ}{B newId initId:String}
def jV(E:XK)(C:ό)(t:TA):TS:=λ_ σ H=>t σ H λvs H1=>↑vs<=sizeLine/\E (.ref C) none H1
theorem jk(j:ExcBaseFacts B newId initId bm)(G:Pr X E)(A:X.calm=true)(J:Gl X x)(M:X.mg x=!(.ref C))(O:PySem.W.excIn X.K C bm newId=true)(y:PA X (e::es) t)(f:(x==("__debug__":ϐ))=false:=by decide)(l:starEach (e::es) X.env=(false,eval e X.env)::starEach es X.env:=by rfl) (i:(backTo cpos (starEach es X.env)).any (·.1)=false:=by rfl):PS X (.Raise (!(.Call (.Name x np) (e::es) [] cpos)) none pos) (jV E C t):=by
 intro a s n H D I h;let#[S,N,nm,Q,bs,F,sn,sub,ab,col,dd,k0,k1,k2,k3,k5,v,m,b,g]:=Bc O;have T:=PySem.W.tail_of_in I.kIn m;have w:s.heap.Ns N (s.heap.nsMap N):=.of_isNs (PySem.W.isNs_of_in I.kIn b);let#[U,c]:=xJ b;show wpAny_Raise_call_subT (C:=C) (nm:=nm) (q:=Q) (N:=N) (bs:=bs) (bm:=S) (hdct:=F) (sn:=sn) (sub:=sub) (ab:=ab) (col:=col) (dd:=dd) (k0:=k0) (k1:=k1) (k2:=k2) (k3:=k3) (k5:=k5)
  j (mN:=s.heap.nsMap N) (T.hasType j.hasBase) (I.ok.hd A) (by rw[l];change(false||(backTo cpos (starEach es X.env)).any (·.1))=false;rw[i];rfl) (PySem.W.nsMap_none_of_in I.kIn b g) (iC I J M #[rfl,?_] f);have z:=y cpos a s n H _ I h;rw[l]at z⊢;show Ĳ (bu z λus R ⟨vs,p,d,r,L,q⟩=>#[rfl,?_,d.kIn _ _ v,w.at' λo e=>?_,PySem.W.tail_of_in d.kIn m,λh' u P=>G a n p R u _ _ h' d P q]);.rw [<-↑r];show L
 .have k:=I.kIn _ _ c;rw[e]at k;cases k;show d.kIn _ _ c
end
def ExcAt(x:ό)(C:ϋ)(h:ϒ):Prop:=∃o vs,h.get? x=!o/\o.cls=C/\o.data=.fields vs
abbrev qt(x:ό)(C:ϋ):HO:=.ext (ExcAt x C)
abbrev nF(X:Cx)(io:ϸ)(xe:϶):Cx where
 prog:=X.prog
 w:=X.w
 K:=X.K
 mg:=X.mg
 base:=X.base
 A:=X.A
 N:=X.N
 s₀:=X.s₀
 H₀:=X.H₀
 env:=X.env
 outer:=X.outer
 stack:=X.stack
 ex:=X.ex
 fn:=X.fn
 calm:=X.calm
 pn:=X.pn++io
 xe:=xe
abbrev xK(X:Cx)(x:ό)(io:ϸ):Cx where
 prog:=X.prog
 w:=X.w
 K:=X.K
 mg:=X.mg
 base:=X.base
 A:=X.A.mark !(.ref x)
 N:=X.N
 s₀:=X.s₀
 H₀:=X.H₀
 env:=X.env
 outer:=X.outer
 stack:=X.stack
 ex:=X.ex
 fn:=X.fn
 calm:=false
 pn:=X.pn++io
 xe:=λ_ _=>False
section
variable{X:Cx}
theorem Inv.tryIn(I:Inv X io σ H s)(xe:϶):Inv (nF X io xe) [] σ H s:=⟨⟨I.ok.mod,I.ok.kind,I.ok.glob,I.ok.blt,I.ok.above,I.ok.inj,I.ok.has,I.ok.cab,I.ok.hd,I.ok.frames,I.ok.stk,I.ok.exf,I.ok.bs,I.ok.bsz,I.ok.noex,I.ok.exfs,I.ok.funs,I.ok.frf⟩,I.os,I.bare,I.base,I.loc,I.cell,I.free,I.freeC,λp a=>I.pin p (by simpa using a),I.hok,I.len⟩
theorem Inv.tryOut(I:Inv (nF X io xe) pins' σ H s):Inv X io σ H s:=⟨⟨I.ok.mod,I.ok.kind,I.ok.glob,I.ok.blt,I.ok.above,I.ok.inj,I.ok.has,I.ok.cab,I.ok.hd,I.ok.frames,I.ok.stk,I.ok.exf,I.ok.bs,I.ok.bsz,I.ok.noex,I.ok.exfs,I.ok.funs,I.ok.frf⟩,I.os,I.bare,I.base,I.loc,I.cell,I.free,I.freeC,λp a=>I.pin p (ß _ a),I.hok,I.len⟩
theorem Inv.hanIn(I:Inv X io σ H s)(x:ό):Inv (xK X x io) [] σ H s:=⟨⟨I.ok.mod,I.ok.kind,I.ok.glob,I.ok.blt,I.ok.above,I.ok.inj,I.ok.has,I.ok.cab,λz=>Bool.noConfusion z,I.ok.frames,I.ok.stk,I.ok.exf,I.ok.bs,I.ok.bsz,I.ok.noex,I.ok.exfs,I.ok.funs,I.ok.frf⟩,I.os,I.bare,I.base,I.loc,I.cell,I.free,I.freeC,λp a=>I.pin p (by simpa using a),I.hok,I.len⟩
theorem Inv.hanOut(b:X.Ok)(I:Inv (xK X x io) pins' σ H s):Inv X io σ H s:=#[b,I.os,I.bare,I.base,I.loc,I.cell,I.free,I.freeC,λp a=>I.pin p (ß _ a),I.hok,I.len]
end
theorem nO{Y:Cx}{s:ώ}{C a0:ϋ}{B h:ϒ}(I:Inv Y io σ H s)(R:s'.os=s.os)(Q:AllBare s'.gens)(i:Un (frs Y.stack) [] H H' s.heap s'.heap)(D:HOk Y.prog Y.w H' s'.heap) (y:H' x=none) (M:Heap.FlyingW B Y.stack x C a0 s'.heap) (X:s.heap.get? x=none) (J:∀b o,s.heap.get? b=!o->b∉frs Y.stack->∃u,B.get? b=!u) (K:∀b o,H' b=!o->∃u,B.get? b=!u)(p:Heap.FlyingW B Y.stack x C a0 h) (Z:s'.heap.UpToSlots h):Inv Y io σ (upd H' x (qt x C)) {s' with heap:=h}:=by
 have f:∀b o,s'.heap.get? b=!o->(∃v,B.get? b=!v)->h.get? b=!o:=λb o e ⟨v,N⟩=>by
  have z:=M.1 b v N;rw[e]at z;cases z;show p.1 b o N
 have slots:∀b o,s'.heap.get? b=!o->b∈frs Y.stack->∃E,h.get? b=!{o with slots:=E}:=λb o e g=>by
  let#[_,o',L,P]:=M.2.2.1.mem g;rw[e]at L;cases L;show Z b o e P
 have G:Un (frs Y.stack) [] H (upd H' x (qt x C)) s.heap h:=by
  show#[λb o q n g d=>f b o (i.keep b o q n g d) (J b o q g),λb o q n g d=>?_,λb o q n d=>?_,λb o q d=>?_,λb xs q=>?_,λb o v q=>?_,λb ps q=>?_];.obtain ⟨E,j⟩:=i.slot b o q n g d;let#[F,l]:=slots b _ j g;show#[F,l]
  .have S:b≠x:=λz=>by rw[z,X]at q;cases q
   rw[ak S];show i.free b o q n d
  .obtain ⟨o',j⟩:=i.there b o q d;by_cases g:b∈frs Y.stack;.obtain ⟨E,l⟩:=slots b o' j g;show#[_,l]
   .show #[_,f b o' j (J b o q g)]
  .rw [ak (aN (i.tups b xs q) y)];show i.tups b xs q
  .rw [ak (aN (i.frzs b o v q) y)];show i.frzs b o v q
  .obtain ⟨m,e⟩:=i.tbls b ps q;show#[m,by rw[ak (aN e y)];show e]
 have r:HOk Y.prog Y.w H' h:=λa o e=>by
  show(D a o e).stay (λc v A z=>f c v z ?_) (λ_ z=>z) λ_ _ z=>z;rcases A with rfl|A;.show K _ _ e
  .show K _ _ A
 let#[oe,vs,j,l,O,_]:=p.first;have t:HOk Y.prog Y.w (upd H' x (qt x C)) h:=HOk.track r y #[#[oe,vs,j,l,O],#[oe,j],λh1 h2 ⟨o,ws,T,U,W⟩ k=>#[o,ws,k o T,U,W]];show I.call' (s':={s' with heap:=h}) R G t Q λb g=>nomatch g
theorem jz{X:Cx}{n:ϐ}(I:Inv X io σ H s)(Y:X.N.Nodup)(D:X.N[i]?=!n)(l:X.env.scope.names.lookup n=!.local) (h:∀s',Inv X io (σ.set i none) H s'->Q Unit.unit s'):wpAny M A (do bindName X.env n .none;unbindBehindTheSuite X.env n pos) Q E s:=by
 show Qr (wpAny_bindName (j9 I Y D (.inl l) (v:=.non) rfl (λs1 U=>?_) (.inr l)));unfold unbindBehindTheSuite;let#[m,Z,t]:=id U.loc;have d:i<↑σ:=by rw[I.len];show(Ä.mp D).1
 let#[u,ru,lk]:=t i n .non D (by rw[Ļ d]) (.inl l);have hv:m n=!u:=by
  rcases lk with⟨_,z⟩|⟨hk,_⟩;.show z
  .have J:X.env.kindOf n=!.local:=l;rcases hk with z|z<;>(rw[J]at z;cases z)
 show Φ (wpAny_unbindName_local (env:=X.env) l Z hv (by rw[I.ok.kind];rfl) (λh' uu L P=>?_))
 .have a:=U.weak (σ':=σ.set i none) (by simp) (λj v e=>by
   by_cases G:i=j;.subst G;rw[Ļ d]at e;cases e
   .rw [ũ G]at e;rw[ũ G];show e);have S:∀b o,X.s₀.heap.get? b=!o->b≠X.env.locals:=λb o e=>Ý (Ö (É e) I.ok.above);have f:∀b o,b≠X.env.locals->s1.heap.get? b=!o->h'.get? b=!o:=λb o k e=>P.extBut b o k e;have u:=a.base;show h _ #[a.ok,a.os,a.bare,#[λb o q z k x=>f b o (S b o q) (u.keep b o q z k x),λb o q z k x=>?_,u.free,λb o q x=>?_,u.tups,u.frzs,u.tbls],#[_,L,λj y v g F e3=>?_],λy c C=>?_,a.free,a.freeC,λp hp=>?_,λb v e=>?_,a.len];.obtain ⟨sl,g⟩:=u.slot b o q z k x;show#[sl,f b _ (S b o q) g]
  .obtain ⟨o',g⟩:=u.there b o q x;show#[o',f b o' (S b o q) g]
  .obtain ⟨m2,O,K⟩:=a.loc;have em:m2=m:=by let#[o1,ae,ac,B,r1,_,f1]:=O;let#[o2,af,ad,q2,r2,_,f2]:=Z;rw[B]at q2;cases q2;rw[r1]at r2;cases r2;funext y;rw[<-f1 y,<-f2 y]
   subst em;let#[u',T,R]:=K j y v g F e3;show#[u',T,?_];rcases R with⟨k1,z1⟩|⟨k1,c,z1,z2⟩
   .show .inl #[k1,?_];have ny:y≠n:=λz=>by
     subst z;have:i=j:=ou Y D g;subst this;rw[Ļ d]at F;cases F
    simp only[ny,ý];show z1
   .show .inr #[k1,c,z1,?_];let#[o,B,r]:=z2;show#[o,f c o (a.cne y c z1) B,r]
  .obtain ⟨v,o,B,r⟩:=a.cell y c C;show#[v,o,f c o (a.cne y c C) B,r]
  .obtain ⟨a1,a2,W,a4⟩:=a.pin p hp;show#[f _ _ W a1,a2,W,a4]
  .show (a.hok b v e).stay (λc w C q=>f c w (λz=>?_) q) (λ_ q=>q) λ_ _ q=>q;rcases C with y|y;.rw [<-y,z,a.free]at e;cases e
   .rw [z,a.free]at y;cases y
section
variable{X:Cx}{body:ϊ Stmt}{b₀:Stmt}{suite:ϊ Stmt}{c n:ϐ}{np hpos pos:Pos}{tb th:TS}{Cc:ό}{i:Nat}
noncomputable def behind(i:Nat)(D:Ends):Ends where
 nx:=λσ H=>D.nx (σ.set i none) H
 rt:=D.rt
 bk:=λσ H=>D.bk (σ.set i none) H
 ct:=λσ H=>D.ct (σ.set i none) H
def QV(K:Ϗ)(N:ϊ ϐ)(Cc:ό)(i:Nat)(Eh:XK)(tb th:TS):TS:=λD σ H=>tb D σ H/\∀C H',Eh C none H'->PySem.W.exmOne K C (.ref Cc)=!true/\
 ∀x,H' x=none->th (behind i D) ((List.replicate ↑N none).set i !(.ref x)) (upd H' x (qt x C))
theorem QW(T:XK)(F:X.N.Nodup)(L:X.N[i]?=!n)(k:X.env.scope.names.lookup n=!.local)(hg:Gl X c)(hm:X.mg c=!(.ref Cc))(o:X.stack=X.env::X.outer)(ah:X.env.frame=!X.env.locals)(hb:∀io xe,gM (m5 X.prog X.w) (nF X io xe) T->PSs (nF X io xe) body tb) (hh:∀x io,PSs (xK X x io) (b₀::suite) th) (af:(c==("__debug__":ϐ))=false:=by decide):PS X (.Try body [.ExceptHandler (!(.Name c np)) (!n) (b₀::suite) hpos] [] [] pos) (QV X.K X.N Cc i T tb th):=by
 intro io s σ H D I h;let#[h1,h2]:=h;show wpAny_Try_except ?_;have hp:gM (m5 X.prog X.w) (nF X io λe O=>wpAny (model X.prog X.w) X.A (noteFrame e X.env) (λ_ P=>wpAny (model X.prog X.w) X.A (setFlight e none) (λ_ l=>wpAny (model X.prog X.w) X.A (handleBy e X.env [.ExceptHandler (!(.Name c np)) (!n) (b₀::suite) hpos]) (SP X io D) X.xe l) X.xe P) X.xe O) T:=by
  intro pins' σ' H1 s1 e s' I1 hx;let#[x,rfl,#[C,a0,B,S,ho,J,un,M,t,fl,sx,d1,d2,q],cn]:=hx;have fr:X.A.frames=!(X.env::X.outer):=by rw[<-o];show I.ok.frames
  have ac:Heap.FlyingW B X.stack x C a0 s'.heap:=fl;have ad:Heap.FlyingW B (X.env::X.outer) x C a0 s'.heap:=by rw[<-o];show ac
  let#[ag,ai]:=h2 C S q;change wpAny (model X.prog X.w) X.A (noteFrame (.ref x) X.env) _ X.xe s';show wpAny_looks_onW fr ah ad λh4 G Q=>?_;show wpAny_landsW G λh5 r R=>?_;have y:Heap.FlyingW B X.stack x C a0 h5:=by rw[o];show r
  have I5:Inv X io σ' (upd S x (qt x C)) {s' with heap:=h5}:=(nO (Y:=nF X io _) I1 ho J un M t fl sx d1 d2 y (Q.trans R)).tryOut;have U:=I5.hanIn x;let#[oe,vs,e1,e2,e3,_]:=r.first;have LT:PySem.W.Looks (model X.prog X.w) h5 (typeOf (.ref x)) C:=e2▸(PySem.W.Looks.ld e1).andThen .now;show wpAny_handleBy_cons (codeAny_handlers_test (iC (X:=xK X x io) U hg hm ?_ af)) (by intro z;cases z);show(PySem.W.exm_one I5.kIn LT ag).here ?_;change codeAny _ _ (.handlers (.ref x) [.ExceptHandler none (!n) (b₀::suite) hpos] X.env) _ _;show codeAny_handlers_suite_as (lands_againW r λh6 ae al=>?_);have E:Heap.FlyingW B X.stack x C a0 h6:=by rw[o];show ae
  have I6:Inv X io σ' (upd S x (qt x C)) {s' with heap:=h6}:=(nO (Y:=nF X io _) I1 ho J un M t fl sx d1 d2 E ((Q.trans R).trans al)).tryOut;have Z:Inv X io (List.replicate ↑X.N none) (upd S x (qt x C)) {s' with heap:=h6}:=I6.weak (by rw[å,I6.len]) λj v z=>by rw[List.getElem?_replicate]at z;split at z<;>cases z
  show j9 (X:=xK X x io) (Z.hanIn x) F L (.inl k) (v:=.ref x) rfl (λs7 I7=>?_) (.inr k);show í (hh x io [] s7 _ _ (behind i D) I7 (ai x t)) (λf s8 m=>?_) (λ_ _ z=>z.elim);change wpAny (model X.prog X.w) X.A (do bindName X.env n .none;unbindBehindTheSuite X.env n hpos) (λ_ l=>SP X io D f l) X.xe s8;cases f with
  |next=>let#[a,b,d,g]:=m;show jz (d.hanOut I.ok) F L k λs9 p=>#[_,b,p,g]|brk=>let#[a,b,d,g]:=m;show jz (d.hanOut I.ok) F L k λs9 p=>#[_,b,p,g]|cont=>let#[a,b,d,g]:=m;show jz (d.hanOut I.ok) F L k λs9 p=>#[_,b,p,g]|ret u=>let#[v,a,b,d,r8,g]:=m;show jz (d.hanOut I.ok) F L k λs9 p=>#[v,_,b,p,r8,g]
 show í (hb io _ hp [] s σ H D (I.tryIn _) h1) (λf s1 m=>?_) (λe s1 z=>z);cases f with
 |next=>let#[a,b,d,g]:=m;show ş #[a,b,d.tryOut,g]|brk=>let#[a,b,d,g]:=m;show#[a,b,d.tryOut,g]|cont=>let#[a,b,d,g]:=m;show#[a,b,d.tryOut,g]|ret u=>let#[v,a,b,d,r8,g]:=m;show#[v,a,b,d.tryOut,r8,g]
end
end L2
end
section
namespace L2
open PySem PySem.Spec PySem.Calls PyProof.Rows PySem.W PySem.Builtin PySem.Builtin.ObjectAttr PySem.Builtin.Getset_descriptor
variable{C:ό}{M:Model}{w:ϕ}{A:ϖ}{tp:ϋ}{R:Result->ώ->Prop}
theorem mV:Slot "ValueError" "__getattribute__" "BaseException.__getattribute__":=
 .of (owner:="BaseException") (n:="__getattribute__") (by rw[typeLookup_type,builtinLookup_eq_fast];kernel_rfl) (by ac_nf) (by ac_nf) (by ac_nf)
  (by first|show .inl (by ac_nf)|show .inr (by ac_nf)) (by rw[isSubtype_type];kernel_rfl)
theorem t6:entryFor table "BaseException.__getattribute__"=some Builtin.«object.__getattribute__»:=
 entryFor_alias (id':="object.__getattribute__") (by kernel_rfl) (by first|rfl|decide+kernel) (by ac_nf) (by kernel_rfl)
theorem vh(a b:ϋ):argsOk "BaseException.__getattribute__" #[[a,b],[]]:=by unfold argsOk;rw[signature?_of (id:="BaseException.__getattribute__") (n:=['_','_','e','t','u','b','i','r','t','t','a','t','e','g','_','_']) (o:=['n','o','i','t','p','e','c','x','E','e','s','a','B']) (by kernel_rfl) (by first|rfl|decide+kernel)];kernel_rfl
section
variable{prog:ϓ}{w:ϕ}{A:ϖ}{s:ώ}{K:Frag}{x C:ό}
theorem Di{rest:ϊ ϋ}{Q:Unit->ώ->Prop}(X:K.In s.heap)(e:Looks M s.heap (typeOf (.ref x)) (.ref C))(g:subIn K (.ref C) (.type "BaseException")=!true)(c:argsOk "BaseException.__getattribute__" #[.ref x::rest,[]])(b:Q Unit.unit s):wpAny M A (checkBuiltinCall "BaseException.__getattribute__" #[.ref x::rest,[]]) Q E s:=by
 have a:splitId "BaseException.__getattribute__"=!("BaseException","__getattribute__"):=by ac_nf
 have h:(Manifest.find? "BaseException").bind (·.attrs.lookup "__getattribute__")=!.slot:=by ac_nf
 have i:builtinKind "BaseException.__getattribute__"=(Manifest.find? "BaseException").bind (·.attrs.lookup "__getattribute__"):=by simp only[builtinKind,a]
 have d:Looks M s.heap (isInstance (.ref x) (.type "BaseException")) true:=e.andThen (looks_subIn X g);simp only[checkBuiltinCall,i,h,a];show Qr (d.here ?_);simp only[ĉ,Û,ý];cases hsig:Manifest.signature? "BaseException.__getattribute__" with
 |none=>show Xs b|some sig=>simp only[argsOk,hsig]at c;have f:Bind.checkArgs "BaseException.__getattribute__" sig ⟨.ref x::rest,[]⟩=pure Unit.unit:=c;change wpAny M A (Bind.checkArgs "BaseException.__getattribute__" sig #[.ref x::rest,[]]) Q E s;rw[f];show Xs b
theorem qD(X:K.In s.heap)(a:∀M,Looks M s.heap (typeOf (.ref x)) (.ref C))(b:mroIn K C (.type "object")=!true)(h:R (.ok (.ret (.ref C))) s):codeAny (model prog w) A (.call (.builtin "getset_descriptor.__get__") #[[.builtin "object.__class__",.ref x,tp],[]]) R s:=by
 let#[e,g,dr,t,f]:=s;have c:=a (model prog w);have d:=looks_mroIn (M:=model prog w) X b;show codeAny_call_builtin KF.slot_gs.plain KF.entry_gs (KF.slot_gs.check _ _ _ _ _ _ _ _ KF.type_class (KF.args_gs _ _ _) ?_);unfold Builtin.«getset_descriptor.__get__» descrGet;rw[dga_obj];show Qr (Xs ?_);unfold descrGetter descrCheckInstance descrNameAndClass isInstance;simp only[KF.owner_class];repeat lk
 show#[Code.quiet_builtin _ (by ac_nf),Ę KF.entry_class ?_];unfold Builtin.«object.__class__» shownTypeOf;repeat lk
 show h
theorem Dk{o:Tok}{Q:Fin->ώ->Prop}(X:K.In s.heap)(c:∀M,Looks M s.heap (typeOf (.ref x)) (.ref C))(j:findIn K (.ref C) "__class__"=!(!(.builtin "object.__class__")))(l:specialIn K (.builtin "object.__class__") "__get__"=!(!(.builtin "getset_descriptor.__get__"))) (b:takesIn K (.builtin "object.__class__")=!true) (k:mroIn K C (.type "object")=!true)(m:Q (.done (.ret (.ref C))) s):wpAny (model prog w) A (Builtin.«object.__getattribute__» #[[.ref x,.str "__class__" o],[]]) Q E s:=by
 let#[a,g,dr,t,n]:=s;have d:=c (model prog w);have e:=looks_findIn (M:=model prog w) X j;have f:Looks (model prog w) a (getOf !(.builtin "object.__class__")) !(.builtin "getset_descriptor.__get__"):=looks_specialIn X l;have h:=looks_takesIn (M:=model prog w) X b;have i:Looks (model prog w) a (find (.ref x) (.ref C) "__class__") (.bind (.builtin "getset_descriptor.__get__") (.builtin "object.__class__")):=e.andThen (f.andThen ((show Looks (model prog w) a (dataDescriptor? (!(.builtin "object.__class__")) !(.builtin "getset_descriptor.__get__")) !(.builtin "getset_descriptor.__get__",.builtin "object.__class__")from h.andThen .now).andThen (Looks.tag .now)))
 show Qr (Xs (Qr (Xs (Qr (d.at (Qr (i.at ?_)))))));change wpAny _ _ (holding [.builtin "object.__class__"] (call (.builtin "getset_descriptor.__get__") [.builtin "object.__class__",.ref x,.ref C])>>=ret) _ _ _;show Qr (ì (wpAny_call (qD (s:=#[a,g,dr,t,n]) X c k ?_)));show Xs m
theorem pB(X:K.In s.heap)(a:∀M,Looks M s.heap (typeOf (.ref x)) (.ref C))(b:findIn K (.ref C) "__getattribute__"=!(!(.builtin "BaseException.__getattribute__")))(hgt:findIn K (.ref C) "__getattr__"=!none) (l:findIn K (.ref C) "__class__"=!(!(.builtin "object.__class__")))(o:specialIn K (.builtin "object.__class__") "__get__"=!(!(.builtin "getset_descriptor.__get__"))) (c:takesIn K (.builtin "object.__class__")=!true) (n:mroIn K C (.type "object")=!true)(m:subIn K (.ref C) (.type "BaseException")=!true) (h:Q (!(.ref C)) {s with toks:=s.toks+1}):wpAny (model prog w) A (getAttr? (.ref x) "__class__") Q E s:=by let#[e,g,d,t,f]:=s;have i:=a (model prog w);have j:=looks_findIn (M:=model prog w) X b;have k:=looks_findIn (M:=model prog w) X hgt;unfold getAttr? getAttrBy? getAttrBy;show Qr (wpAny_mkText (Qr (ľ (ì (Qr (i.at (Qr (j.at ?_))))))));change wpAny _ _ (getAttrByItsOwn _ _ _ _ _ _) _ _ _;unfold getAttrByItsOwn;show Qr (show wpAny _ _ (typeLookup (.ref C) "__getattr__") _ _ _ from k.at ?_);show Qr (ľ (ì ?_));change wpAny _ _ (boundAndCalled _ _ _) _ _ _;unfold boundAndCalled;rw[mV.bind];show Qr (Xs ?_);change wpAny _ _ (call (.builtin "BaseException.__getattribute__") [.ref x,.str "__class__" t]) _ _ _;show wpAny_call (codeAny_call_builtin mV.plain t6 (Di (s:=#[e,g,d,t+1,f]) X (a _) m (vh _ _) (Dk (s:=#[e,g,d,t+1,f]) X a l o c n ?_)));show Xs (Xs h)
end
structure ExcK(K:Ϗ)(C:ό):Prop where
 ex:PySem.W.excIn K C [.type "ValueError",.type "Exception",.type "BaseException",.type "object"] "ValueError.__new__"=true
 ga:findIn K (.ref C) "__getattribute__"=!(!(.builtin "BaseException.__getattribute__"))gt:findIn K (.ref C) "__getattr__"=!none
 cl:findIn K (.ref C) "__class__"=!(!(.builtin "object.__class__"))ge:specialIn K (.builtin "object.__class__") "__get__"=!(!(.builtin "getset_descriptor.__get__"))tk:takesIn K (.builtin "object.__class__")=!true
 mo:mroIn K C (.type "object")=!true
 mb:subIn K (.ref C) (.type "BaseException")=!true
theorem ExcK.cls{K:Ϗ}(z:ExcK K C):∃c d cd sl,K.lookup C=!#[c,d,.cls cd,sl]:=by
 let#[cd,h,_]:=Option.bind_eq_some_iff.mp z.mo;unfold clsIn at h;split at h
 .rename_i f d' a e b;show#[_,_,_,_,b]
 .cases h
theorem pC{K:Ϗ}{x:ό}(z:ExcK K C):KitX K (.ref x) (.ref C) (ExcAt x (.ref C))where
 ty:=λM h _ ⟨o,vs,a,b,_⟩=>b▸(Looks.ld a).andThen .now
 it:=λM h X _=>by let#[c,d,i,l,f]:=z.cls;intro r t s s' k q;unfold isType loadHead;show Qr (wpAny_loadPart (k _ _ (X _ _ f)) (Xs q))
 ne:=λh p dd j n l X g=>by
  let#[c,d,i,m,f]:=z.cls;show ŧ.mpr λq=>?_;have e:C=p:=Value.ref.inj (beq_iff_eq.mp q);subst e;have z:=(X _ _ f).symm.trans g;cases z
 ca:=λX ⟨o,vs,a,b,_⟩ k=>pB X (λM=>b▸(Looks.ld a).andThen .now) z.ga z.gt z.cl z.ge z.tk z.mo z.mb k
def dM(K:Ϗ):ϊ V->Hp->VK->Prop:=λxs H Q=>∃(x C:ό)(y:V)(b:ϑ),xs=[.ref x,y]/\H x=!(qt x (.ref C))/\ExcK K C/\((∃T,y=.ty T/\kitOne K (.ref C) (.type T)=!b)\/(∃D,y=.ref D/\kitOne K (.ref C) (.ref D)=!b)\/∃(p:ό)(ds:ϊ ό),y=.ref p/\H p=!(.tup (ds.map V.ref))/\kitAny K (.ref C) (ds.map Value.ref)=!b)/\Q (.bl b) H
theorem rB:∀{ds:ϊ ό}{us:ϊ ϋ},Vals (ds.map V.ref) us->us=ds.map Value.ref
 |[],_,r=>by cases r;rfl|d::ds,_,r=>by cases r with|cons r rr=>rw[È,<-rB rr];show Ô (· ::_) r
section
variable{X:Cx}
theorem tu:bC X (.builtin "isinstance") (dM X.K):=by
 intro i s M H xs us Q I G h;let#[x,C,y,b,rfl,t,g,v,q]:=h;let#[u,f,rfl,F,a]:=G.two;cases(show u=Value.ref x from F);let#[d,_,_]:=(show ObjOk X.prog X.w H s.heap x (qt x (.ref C))from I.hok x _ t);rcases v with⟨T,rfl,e⟩|⟨D,rfl,e⟩|⟨p,ds,rfl,hp,e⟩;.cases (show f=Value.type T from a);show kia_one (pC g) I.kIn d e (λz=>nomatch z) λc=>#[.bl b,H,I.tok c,rfl,q]
 .cases (show f=Value.ref D from a);show kia_one (pC g) I.kIn d e (λz=>nomatch z) λc=>#[.bl b,H,I.tok c,rfl,q]
 .cases (show f=Value.ref p from a);let#[_,A,r,o,k,l,n,m]:=(show ObjOk X.prog X.w H s.heap p (.tup (ds.map V.ref))from I.hok p _ hp);let#[J,L,B,E]:=o;cases l;cases m;have j:=rB r;subst j;show kia_tup (pC g) I.kIn d k e (λz=>nomatch z) λc=>#[.bl b,H,I.tok c,rfl,q]
theorem eU(K:Ϗ)(a:X.K=K):bC X (.builtin "isinstance") (dM K):=a▸tu
end
theorem xM{P:ϓ}{K:Ϗ}{base:ϒ}{N:ϊ ϐ}{a:ϐ}{f:ό}{E:XK}:PassesOwn (model (jT (m5 P w) P w K mg base N a sc f cd A outer s₀ H₀ E).prog (jT (m5 P w) P w K mg base N a sc f cd A outer s₀ H₀ E).w) (jT (m5 P w) P w K mg base N a sc f cd A outer s₀ H₀ E).A (jT (m5 P w) P w K mg base N a sc f cd A outer s₀ H₀ E).env (jT (m5 P w) P w K mg base N a sc f cd A outer s₀ H₀ E).xe:=PassesOwn.leaving
end L2
end
section
namespace L2
open PySem PySem.Spec PyProof.Rows
variable{k:Nat}
theorem jW:∀{ys:ϊ ϐ}{us:ϊ ϋ},Vals (ys.map V.str) us->StrsAre us ys
 |[],_,r=>by cases r;show .nil|y::ys,_,r=>by cases r with|cons r rr=>let#[t,rfl]:=r;show .cons y t (jW rr)
def rJoin(K:Ϗ):V->ϊ V->Hp->VK->Prop:=λx vs H Q=>∃(s:ϐ)(a:ό)(ys:ϊ ϐ),x=.str s/\vs=[.ref a]/\SqL K H a (ys.map V.str)/\(ys.map (·.length)).sum+↑ys*↑s<=16777216/\Q (.str (Txt.join s ys)) H
def QX:V->ύ Int->ύ Int->Hp->VK->Prop:=λx lo hi H Q=>∃s:ϐ,x=.str s/\↑s<=sizeLine/\Q (.str (Txt.slice s lo hi)) H
section
variable{X:Cx}
theorem Mq:Qy X "str.join" (rJoin X.K):=by
 intro c s l H x xs v us Q I j i h;let#[z,a,ys,rfl,rfl,e,b,q]:=h;let#[t,rfl]:=j;let#[u,rfl,g]:=i.one;cases(show u=Value.ref a from g);let#[f,r,d,hz]:=I.list e;show join_list d.isList (jW r) b λt' k=>#[.str _,H,I.tok k,#[t',rfl],q]
theorem Gw(K:Ϗ)(a:X.K=K):Qy X "str.join" (rJoin K):=a▸Mq
theorem QZ:Qw X QX:=by
 intro a s o H x v p r lo m d Q I n b pl c h;let#[z,rfl,hz,q]:=h;let#[t,rfl]:=n;have fin:∀(l u:ύ (Int×Tok)),l.map (·.1)=lo->u.map (·.1)=m->s.heap.IsSlice d l u none->wpAny (model X.prog X.w) X.A (getItem (.str z t) (.ref d)) (EP X a o Q) X.xe s:=by intro l u e f g;show wpAny_getItem_str_slice (l:=l) (u:=u) (st:=none) g rfl ?_;subst e f;show post_val_or_str #[Nat.le_trans (Txt.slice_le z _ _) hz,λt' k=>#[.str _,H,I.tok k,#[t',rfl],q]]
 show#["str",_,F.slot_str_getitem.lookup,typeIs_str _ _ _,?_];cases pl with
 |none=>cases c with
  |none=>show fin none none rfl rfl b|int j u=>show fin none (!(j,u)) rfl rfl b
 |int i u=>cases c with
  |none=>show fin (!(i,u)) none rfl rfl b|int j u'=>show fin (!(i,u)) (!(j,u')) rfl rfl b
end
noncomputable def ZK(K:Ϗ)(a:ό):It:=⟨λi H=>∃xs x,SqL K H a xs/\xs[i]?=!x,λi H v H'=>∃p x,H p=none/\v=.ref p/\H'=upd H p (.tup [.int (i:Int),x])/\∀xs,SqL K H a xs->xs[i]?=!x,λi H=>∃xs,SqL K H a xs/\↑xs<=i⟩
structure EnSt(e it a:ό)(i:Nat)(h:ϒ):Prop where
 he:∃old,IsEnum h e it (i:Int) old
 h1:h.IsListIter it a i
theorem Dm{P:ϓ}{K:Ϗ}{e C:ό}(a:ό)(D:e≠C):Turn P w K (.Tuple elts k tpos) (ZK K a) [e,C] e (EnSt e C a)where
 mem:=by simp
 obj:=λi h st c F=>by
  let#[#[l,j],#[o1,G,c1,d1]]:=st;simp only[Å,â,Ď]at F;rcases F with rfl|rfl;.show #[_,j,λv z=>by cases z]
  .show #[o1,G,λv z=>by rw[d1]at z;cases z]
 keep:=λi h h' st t=>by let#[#[l,j],B]:=st;show#[#[l,t e (by simp) _ j],B.at λo e=>t C (by simp) o e]
 item:=by
  intro X L R J F i m s Y H E I A st M;subst L R J;let#[xs,x,r,y]:=M;let#[T,U,p,S]:=I.list r;let#[u,hu,ru]:=U.get y;let#[#[l,j],B]:=id st;show wpAny_pyNext_enum_item (x:=u) j B p.isList (by simpa using hu) D λh' a1 a2 a3 a4 a5=>?_;show#[_,rfl,wpAny_letOwnedTupleGo_enum a1 λg b1 Q=>?_];have hT:s.heap.objs.size≠e:=ġ (É j);have t:∀c o,c∉[e,C]->s.heap.get? c=!o->g.get? c=!o:=λc o d q=>by simp only[Å,â,Ď,not_or]at d;show Q.extBut _ _ d.1 (a5 c o d.1 d.2 q)
  have I1:Inv X m Y H {s with heap:=g,toks:=s.toks+1}:=I.turnedAll t A;have f:H s.heap.objs.size=none:=I.hok.fresh (Ç _);have e5:g.get? s.heap.objs.size=!{cls:=.type "tuple",data:=.seq ([.int i s.toks,u].toArray)}:=Q.extBut _ _ hT a3;have un:Un (frs X.stack) [e,C] H (upd H s.heap.objs.size (.tup [.int (i:Int),x])) s.heap g:=⟨λb o q _ _ y=>t b o y q,λb o q _ _ y=>⟨o.slots,t b o y q⟩,λb o q n _=>by rw[ak (Ý (É q))];show n,λb o q y=>⟨o,t b o y q⟩,
    λb xs q=>by rw[ak (aN q f)];show q,λb o x q=>by rw[ak (aN q f)];show q,λb ps q=>⟨([].toArray),by rw[ak (aN q f),q];simp⟩⟩;have O:HOk X.prog X.w (upd H s.heap.objs.size (.tup [.int (i:Int),x])) g:=HOk.track I1.hok f #[by change 2<=sizeLine;decide,[.int i s.toks,u],.cons #[_,rfl] (.cons ru .nil),_,e5,rfl,_,rfl];have I2:Inv X m Y (upd H s.heap.objs.size (.tup [.int (i:Int),x])) {s with heap:=g,toks:=s.toks+1}:=I.call' (s':={s with heap:=g,toks:=s.toks+1}) rfl un O I.bare λc d=>⟨(A c d).2.2.2.1,(A c d).2.1,(A c d).2.2.2.2⟩;show#[.ref s.heap.objs.size,_,I2,rfl,#[_,x,f,rfl,rfl,λad h=>by rw[I.list_inj h r];show y],#[#[u,by have:=b1;rwa[show((i:Int)+1)=((i+1:Nat):Int)by rfl']at this],a2.extBut Q.extBut (Ne.symm D)],λc d=>?_];have N:c<s.heap.objs.size:=by
   let#[o1,G,_]:=B;simp only[Å,â,Ď]at d;rcases d with rfl|rfl;.show É j
   .show É G
  rw[ak (Ý N)];show(A c d).1
 done:=by
  intro X L R J F i m s Y H E I A st M;subst L R J;let#[xs,r,Z]:=M;let#[T,U,p,S]:=I.list r;let#[#[l,j],B]:=id st;have ac:=↑U;show wpAny_pyNext_enum_end (I.ok.hd F) j B p.isList (by simp;rfl') λh' t=>?_;show#[rfl,I.turnedAll (t':=s.toks) (λc o d q=>?_) A];simp only[Å,â,Ď,not_or]at d;show t c o d.2 q
 self:=λ_ _ _ _ _ st h=>by let#[l,j]:=st.he;show wpAny_pyIter_enum j h
def Bd(K:Ϗ)(ta:TA):TI:=λσ H R=>ta σ H λvs H1=>∃a xs,vs=[.ref a]/\SqL K H1 a xs/\R (ZK K a) H1
theorem Mr{X:Cx}(o:Gl X "enumerate")(E:X.calm=true)(t:X.mg "enumerate"=none)(n:PA X [a] ta)(u:starEach [a] X.env=[(false,eval a X.env)]:=by rfl):PI X (.Tuple elts k tpos) (.Call (.Name "enumerate" p) [a] [] pos) (Bd X.K ta):=by
 intro f s D H R I h;show Call_ (jb I o t (show bootBuiltins "enumerate"=!(.type "enumerate")by ac_nf) (ğ (bu (n pos f s D H _ I h) λus g ⟨vs,m,i,B,A⟩=>?_) (by rw[u];rfl) (by rfl)));let#[y,xs,e,j,q]:=A;subst e;cases B with|cons r rr=>
  cases rr;cases r;let#[w,F,z,v]:=i.list j;show call_enumerate_list z.isList λh' l C G x=>?_;show wpAny_pyIter_enum l ?_;show#[g.heap.objs.size+1,[g.heap.objs.size+1,g.heap.objs.size],_,_,m,rfl,i.kept (t':=g.toks) x,Dm y (by change(_:Nat)≠_;rfl'),#[#[_,l],C],λc b=>?_,q];have d:g.heap.objs.size<=c:=by simp only[Å,â,Ď]at b;rcases b with rfl|rfl<;>(change(_:Nat)<=_;rfl')
  show i.fpOk d (i.hok.fresh d)
theorem Gx{X:Cx}(K:Ϗ)(b:X.K=K)(e:Gl X "enumerate")(d:X.calm=true)(f:X.mg "enumerate"=none)(c:PA X [a] ta)(g:starEach [a] X.env=[(false,eval a X.env)]:=by rfl):PI X (.Tuple elts k tpos) (.Call (.Name "enumerate" p) [a] [] pos) (Bd K ta):=by subst b;show Mr e d f c g
section
variable{i ep:Nat}
theorem pD(f:s.heap.IsKeyIter it d i es.size ep)(g:s.heap.get? d=!od)(e:od.data=.dict es ep)(u:i<es.size)(r:∀h',h'.IsKeyIter it d (i+1) es.size ep->Heap.SameBut it s.heap h'->Q (!es[i].key) {s with heap:=h'}):wpAny (model prog w) A (pyNext (.ref it)) Q E s:=by
 let#[o,j,t,h]:=id f;have T:=f.typeIs (s:=s);unfold pyNext;show Qr (ľ (wpAny_callSpecial?_slot (name:=Str.ofString "__next__") T Ķ (ê Ķ T F.entry_dict_keyiterator_next ?_ (F.args_dict_keyiterator_next_1 _))));have p:Builtin.Dict_items.ownsTuple "dict_keyiterator"=false:=by decide
 have q:¬(Value.ref d==Value.none)=true:=Î;have v:¬((i:Int)<0):=();have k:∀{s':ώ}{l:ϖ}{m:϶}{R:String->ώ->Prop},s'.TypeIs (.ref it) "dict_keyiterator"->R "dict_keyiterator" s'->wpAny (model prog w) l (typeNameOfWhole (.ref it)) R m s':=λa b=>wpAny_typeNameOfWhole_keyiter a b;repeat(first
  |(show k T ?_)|(show wpAny_fieldsOf j h ?_)|(show č g e ?_)|(show š g e ?_)|(show ť T ?_)|(show Xs ?_)|(show Qr ?_)|(simp only[p,Û,ý])|(rw[if_neg q])|(rw[if_neg (by simp)]))
 rw[à,ē u];have c:(s.heap.update it (Obj.mapFields (·.setIfInBounds 1 (rawInt ((i:Int)+1))))).IsKeyIter it d (i+1) es.size ep:=#[_,ï _ j (Ť (ĭ h _)),(Obj.cls_mapFields ..).trans t,by rw[ĭ h];simp[rawInt]];have n:=c.typeIs (s:={s with heap:=s.heap.update it (Obj.mapFields (·.setIfInBounds 1 (rawInt ((i:Int)+1))))});dsimp only;show Qr (Qr (k T (Xs (Qr (ť T ?_)))));change wpAny (model prog w) A.in1 (do setField (.ref it) 1 (rawInt ((i:Int)+1));_) _ _ s;show Qr (ń j h (by simp) (Qr (ì (Qr (ť n (Xs ?_))))));show Xs #[_,rfl,Xs (r _ c (ā ..))]
theorem tD(v:A.handled=none)(e:s.heap.IsKeyIter it d i es.size ep)(f:s.heap.get? d=!od)(c:od.data=.dict es ep)(y:es.size<=i)(u:∀h',Heap.ExtBut it s.heap h'->Q none {s with heap:=h'}):wpAny (model prog w) A (pyNext (.ref it)) Q E s:=by
 let#[o,h,B,g]:=id e;have T:=e.typeIs (s:=s);unfold pyNext;show Qr (ľ (wpAny_callSpecial?_slot (name:=Str.ofString "__next__") T Ķ (ê Ķ T F.entry_dict_keyiterator_next ?_ (F.args_dict_keyiterator_next_1 _))));have r:Builtin.Dict_items.ownsTuple "dict_keyiterator"=false:=by decide
 have t:¬(Value.ref d==Value.none)=true:=Î;have z:¬((i:Int)<0):=();have j:∀{s':ώ}{k:ϖ}{l:϶}{R:String->ώ->Prop},s'.TypeIs (.ref it) "dict_keyiterator"->R "dict_keyiterator" s'->wpAny (model prog w) k (typeNameOfWhole (.ref it)) R l s':=λa b=>wpAny_typeNameOfWhole_keyiter a b;repeat(first
  |(show j T ?_)|(show wpAny_fieldsOf h g ?_)
  |(show č f c ?_)|(show š f c ?_)|(show ť T ?_)|(show Xs ?_)|(show Qr ?_)|(simp only[r,Û,ý])|(rw[if_neg t])|(rw[if_neg (by simp)]))
 rw[à,Array.getElem?_eq_none y];dsimp only;show Qr (Qr (j T (Xs ?_)));change wpAny (model prog w) A.in1 (do setField (.ref it) 0 .none;_) _ _ s;show Qr (ń h g (by simp) (Qr ?_));have fin:∀h' x,Heap.ExtBut it s.heap h'->(∃ob,h'.get? x=!ob/\ob.cls=.type "StopIteration")->wpAny (model prog w) A (do let b<-isInstance (.ref x) (.type "StopIteration");if b=true then pure none else throw (.ref x)) Q E {s with heap:=h'}:=λh' x q ⟨ob,n,p⟩=>Qr (ŀ (T:="StopIteration") (b:=true) ⟨ob,n,p⟩ isSubtype_stop (Xs (u h' q)));simp only[newExc,newTuple,raiseNew];repeat(first
  |show fin _ _ (((ā ..).extBut.push _).push _) #[_,Ê _ rfl,rfl]|(show ð ?_ (by size_fits))|(show wpAny_handled ?_)|(show wpAny_throw ?_)|(show Xs ?_)|(rw[show A.in1.handled=none from v])|(show Qr (m:=firstArgMember _ _) (wpAny_of_eq (a:=Value.none) (by first|rfl|(simp only[firstArgMember];rfl)) ?_))|(show Qr ?_))
theorem lg(c:(d==sysModules)=false)(T:s.TypeIs (.ref d) "dict")(b:s.heap.get? d=!od)(a:od.data=.dict es ep)(e:R (.ref s.heap.objs.size) {s with heap:=s.heap.push {cls:=.type "dict_keyiterator",data:=.fields ([.ref d,.int 0 0,.int es.size 0,.int ep 0].toArray)}}):wpAny (model prog w) A (pyIter (.ref d)) R E s:=by
 show wpAny_pyIter_slot T F.slot_dict_iter (ê F.slot_dict_iter T F.entry_dict_iter ?_ (F.args_dict_iter_1 _));unfold Builtin.«dict.__iter__» Builtin.Dict.dictSlotNone Builtin.Dict.showsAll;have f:¬((d==sysModules)=true):=by rw[c];show Î
 show Qr (Qr (ĩ T ?_));change wpAny _ _ (pure (Value.ref d)) _ _ s;show Xs ?_;change wpAny _ _ ((if(d==sysModules)=true then _ else _)>>=_) _ _ s;rw[if_neg f];show Qr (Xs (Qr (č b a (Qr (š b a ?_)))));show Qr (ð (Xs #[_,rfl,"dict_keyiterator",_,#[_,Ê _ rfl,rfl],F.slot_dict_keyiterator_next.lookup,by simpa[rawInt]using e]))
end
theorem il{c d:Type}{F:c->d->Prop}:∀{l₁:ϊ c}{l₂:ϊ d}(i:Nat),Paired F l₁ l₂->i<↑l₁->∃a b,l₁[i]?=!a/\l₂[i]?=!b/\F a b
 |_,_,_,.nil,h=>by simp at h|_,_,0,.cons r _,_=>#[_,_,rfl,rfl,r]|_,_,i+1,.cons _ t,h=>by let#[a,b,e,f,g]:=il i t (by simpa using h);show#[a,b,by simpa using e,by simpa using f,g]
theorem m6:∀{vs:ϊ ϋ}{ns:ϊ ϐ},StrsAre vs ns->Vals (ns.map V.str) vs
 |_,_,.nil=>.nil|_,_,.cons n t h=>.cons #[t,rfl] (m6 h)
def R0(K:Ϗ):ϊ V->Hp->VK->Prop:=λxs H Q=>∃(a:ό)(ns:ϊ ϐ),xs=[.ref a]/\SqL K H a (ns.map V.str)/\↑ns<64/\∀r (ns':ϊ ϐ),ns'.Perm ns->sortedS ns'=true->H r=none->Q (.ref r) (upd H r (.lst (ns'.map V.str)))
theorem xN{X:Cx}:bC X (.builtin "sorted") (R0 X.K):=by
 intro j s B H xs us Q I A h;let#[a,ns,rfl,y,g,q]:=h;let#[u,rfl,z]:=A.one;cases(show u=Value.ref a from z);let#[c,r,x,hz]:=I.list y;have n:=jW r;have p:=↑r;rw[Qb]at p;show sorted_strs (vs:=c) x.isList n () λf d k i v=>?_;let#[e,m]:=sortedAll_at s.heap c f;have t:H (s.heap.objs.size+1)=none:=I.hok.fresh (Nat.le_succ _);show#[.ref _,_,I.laid (t':=s.toks) (a:=s.heap.objs.size+1) (o:=.lst (d.map V.str)) (λb o l=>sortedAll_old l) (Nat.le_succ _) (show ObjOk X.prog X.w _ _ _ (.lst _)from#[?_,f.toList,e,m6 k,?_]),rfl,q _ d i v t];.rw [Qb,i.length_eq];show İ (Η g (by decide))
 .rw [m]
end L2
end
section
namespace Sx
open PySem PyProof.Rows
structure Wk(B:Keyed->Keyed->ϑ):Prop where
 rf:∀p,B p p=false
 tr:∀{p q r},B q p=false->B r q=false->B r p=false
 an:∀{p q},B p q=true->B q p=false
noncomputable def gt(xs:ϔ Keyed)(i:Nat):Keyed:=xs[i]?.getD (.none,.none)
def Up(B:Keyed->Keyed->ϑ)(xs:ϔ Keyed)(k:Nat):Prop:=∀i j,i<=j->j<k->B (gt xs j) (gt xs i)=false
def Dn(B:Keyed->Keyed->ϑ)(xs:ϔ Keyed)(k:Nat):Prop:=∀i j,i<=j->j<k->B (gt xs i) (gt xs j)=false
def Eb(B:Keyed->Keyed->ϑ)(xs:ϔ Keyed)(l k:Nat):Prop:=∀i j,l<=i->i<k->l<=j->j<k->B (gt xs i) (gt xs j)=false
structure Bs(kd:SortKind)(a0:ϔ Keyed)(st:SortSt):Prop where
 pm:(arrOf st).Perm a0
 kn:kindOf st=kd
 fl:failedOf st=none
 pe:pendingOf st=([].toArray)
section
variable{kd:SortKind}{st:SortSt}{k l m:Nat}
theorem Bs.sz(b:Bs kd a0 st):(arrOf st).size=a0.size:=b.pm.size_eq
theorem Bs.put(b:Bs kd a0 st)(a:xs.Perm (arrOf st)):Bs kd a0 (setArr st xs):=#[a.trans b.pm,b.kn,b.fl,b.pe]
theorem Gy{a d:Nat}(c:a<xs.size)(b:d<=a):gt (bubble xs a d) k=if k=a-d then gt xs a else if a-d<k/\k<=a then gt xs (k-1)else gt xs k:=by
 unfold gt;rw[getElem?_bubble c d b k];split;.rfl
 .split<;>rfl
theorem jl(a:m<=xs.size):gt (mirror xs l m ((m-l)/2)) k=if l<=k/\k<m then gt xs (l+m-1-k)else gt xs k:=by unfold gt;rw[getElem?_mirror_all a k];split<;>rfl
theorem Up.one(o:Wk B):Up B xs 1:=λi j a b=>by
 have:i=j:=();rw[this];show o.rf _
theorem Up.next(o:Wk B)(u:Up B xs k)(f:1<=k)(e:B (gt xs k) (gt xs (k-1))=false):Up B xs (k+1):=λi j a d=>by
 by_cases c:j<k;.show u i j a c
 .obtain rfl:j=k:=();by_cases b:i=j
  .rw [b];show o.rf _
  .show o.tr (u i (j-1) () ()) e
theorem Dn.next(o:Wk B)(u:Dn B xs k)(f:1<=k)(e:B (gt xs (k-1)) (gt xs k)=false):Dn B xs (k+1):=λi j a d=>by
 by_cases c:j<k;.show u i j a c
 .obtain rfl:j=k:=();by_cases b:i=j;.rw [b];show o.rf _
  .show o.tr e (u i (j-1) () ())
theorem Eb.one(o:Wk B):Eb B xs (k-1) k:=λi j a b c d=>by
 have:i=j:=();rw[this];show o.rf _
theorem Eb.next(o:Wk B)(u:Eb B xs l k)(m:l<k)(e:B (gt xs k) (gt xs (k-1))=false)(f:B (gt xs (k-1)) (gt xs k)=false):Eb B xs l (k+1):=λi j b g c h=>by
 by_cases d:i<k
 .by_cases a:j<k;.show u i j b d c a
  .obtain rfl:j=k:=()
   show o.tr f (u i (j-1) b d () ())
 .obtain rfl:i=k:=();by_cases a:j<i;.show o.tr (u (i-1) j () () c a) e
  .obtain rfl:j=i:=();show o.rf _
theorem Dn.mir(u:Dn B xs m)(q:Eb B xs l m)(b:m<=xs.size):Dn B (mirror xs l m ((m-l)/2)) m:=λi j d e=>by
 rw[jl b,jl b];by_cases a:l<=i/\i<m;.rw [if_pos a,if_pos ()];show q _ _ () () () ()
 .rw [if_neg a];by_cases c:l<=j/\j<m;.rw [if_pos c];show u _ _ () ()
  .rw [if_neg c];show u i j d e
theorem Dn.up(u:Dn B xs m)(a:m<=xs.size):Up B (mirror xs 0 m ((m-0)/2)) m:=λi j b c=>by rw[jl a,jl a,if_pos (),if_pos ()];show u _ _ () ()
end
def Ms(M:Model)(A:ϖ)(E:϶)(s:ώ)(kd:SortKind)(a0:ϔ Keyed)(B:Keyed->Keyed->ϑ):Prop:=∀(st:SortSt)(i j:Nat)(Q:ύ ϑ->SortSt->Prop),Bs kd a0 st->i≠j->i<a0.size->j<a0.size->Q (!(B (gt (arrOf st) i) (gt (arrOf st) j))) st->wpS M A E s (ltAt' i j) Q st
section
variable{kd:SortKind}{st:SortSt}{n k:Nat}
theorem Be(o:Wk B)(i:Ms (model prog w) A E s kd a0 B){Q:AscSt->SortSt->Prop}(p:n<=a0.size)(l:1<=k)(a:k<=n)(b:Bs kd a0 st)(u:Up B (arrOf st) k)(h:∀m,k<=m->m<=n->Up B (arrOf st) m->(m=n\/B (gt (arrOf st) m) (gt (arrOf st) (m-1))=true)->Q (none,m) st):wpS (model prog w) A E s (ascLoop k n) Q st:=by
 unfold ascLoop;show Θ (I:=λm c t=>c=(none,m)/\t=st/\Up B (arrOf st) m) (λm c t g j f=>?_) (λc t f=>?_) #[rfl,rfl,u]
 .obtain ⟨rfl,rfl,d⟩:=f;show û (i _ _ _ _ b (show m≠m-1 by rfl') (show m<_ by rfl') (show m-1<_ by rfl') ?_);dsimp only;cases e:B (gt (arrOf t) m) (gt (arrOf t) (m-1))with
  |true=>rw[if_pos rfl];show Ė (h m g () d (.inr e))|false=>rw[if_neg Î];show Ė #[rfl,rfl,d.next o () e]
 .obtain ⟨rfl,rfl,d⟩:=f;rw[show max k n=n from Nat.max_eq_right a]at d⊢;show h n a (Ç _) d (.inl rfl)
theorem vm(o:Wk B)(e:Ms (model prog w) A E s kd a0 B)(g:n<=a0.size)(f:1<=k)(a:k<=n)(b:Bs kd a0 st)(u:Dn B (arrOf st) k)(h:∀m t,Bs kd a0 t->1<=m->m<=n->Up B (arrOf t) m->Q (!m) t):wpS (model prog w) A E s (tail3 k n) Q st:=by
 unfold tail3;show û (wpS_reverse ?_);have c:=b.put (mirror_perm (arrOf st) 0 k ((k-0)/2));show û (Be o e g f a c (u.up (by rw[b.sz];rfl')) λm j d i _=>Ė (h m _ c () d i))
theorem GC(o:Wk B)(v:Ms (model prog w) A E s kd a0 B){Q:DescSt->SortSt->Prop}(F:n<=a0.size)(C:1<=k)(d:k<=n)(b:Bs kd a0 st)(u:Dn B (arrOf st) k)(h:∀m e t,Bs kd a0 t->k<=m->m<=n->Dn B (arrOf t) m->e+1<=m->Eb B (arrOf t) (m-(e+1)) m->Q (none,m,e) t):wpS (model prog w) A E s (descLoop k n) Q st:=by
 unfold descLoop;show Θ (I:=λm c t=>∃e,c=(none,m,e)/\Bs kd a0 t/\Dn B (arrOf t) m/\e+1<=m/\Eb B (arrOf t) (m-(e+1)) m) (λm c t y D l=>?_) (λc t l=>?_) #[0,rfl,b,u,C,Eb.one o]
 .obtain ⟨e,rfl,bt,a,f,q⟩:=l;have hsz:m<=(arrOf t).size:=by rw[bt.sz];rfl'
  show û (v _ _ _ _ bt (show m≠m-1 by rfl') (show m<_ by rfl') (show m-1<_ by rfl') ?_);dsimp only;cases e1:B (gt (arrOf t) m) (gt (arrOf t) (m-1))with
  |true=>
   rw[if_pos rfl];have g:Dn B (arrOf t) (m+1):=a.next o () (o.an e1);by_cases r:e>0
   .rw [if_pos r];show û (wpS_reverse (Ė #[0,rfl,bt.put (mirror_perm _ _ _ _),λi j p x=>?_,(),Eb.one o]));by_cases z:j<m;.show (a.mir q hsz) i j p z
    .obtain rfl:j=m:=();change B (gt (mirror (arrOf t) _ _ _) i) (gt (mirror (arrOf t) _ _ _) j)=false;rw[jl hsz,jl hsz,if_neg (show¬(_/\j<j)by rfl')];split;.show g _ _ () ()
     .show g _ _ p x
   .rw [if_neg r];show Ė #[0,rfl,bt,g,(),Eb.one o]|false=>
   rw[if_neg Î];show û (v _ _ _ _ bt (show m-1≠m by rfl') (show m-1<_ by rfl') (show m<_ by rfl') ?_);dsimp only;cases e2:B (gt (arrOf t) (m-1)) (gt (arrOf t) m)with
   |true=>rw[if_pos rfl];show Ė (h m e t bt y () a f q)|false=>rw[if_neg Î];show Ė #[e+1,rfl,bt,a.next o () e2,(),?_];rw[show m+1-(e+1+1)=m-(e+1)by rfl'];show q.next o () e1 e2
 .obtain ⟨e,rfl,bt,a,f,q⟩:=l;rw[show max k n=n from Nat.max_eq_right d]at a f q⊢;show h n e t bt d (Ç _) a f q
theorem rC(o:Wk B)(a:Ms (model prog w) A E s kd a0 B)(d:n<=a0.size)(c:k+1<=n)(b:Bs kd a0 st)(u:Dn B (arrOf st) (k+1))(h:∀m t,Bs kd a0 t->1<=m->m<=n->Up B (arrOf t) m->Q (!m) t):wpS (model prog w) A E s (descPart k n) Q st:=by
 unfold descPart;show û (wpS_lift (ķ #[rfl,û (GC o a d () c b u λm e t bt j g i l q=>?_)]));dsimp only;have hsz:m<=(arrOf t).size:=by rw[bt.sz];rfl'
 by_cases f:e>0;.rw [if_pos f];show û (wpS_reverse (vm o a d () g (bt.put (mirror_perm _ _ _ _)) (i.mir q hsz) h))
 .rw [if_neg f];show vm o a d () g bt i h
theorem Do(o:Wk B)(c:Ms (model prog w) A E s kd a0 B)(u:n<=a0.size)(l:1<=n)(b:Bs kd a0 st)(h:∀m t,Bs kd a0 t->1<=m->m<=n->Up B (arrOf t) m->Q (!m) t):wpS (model prog w) A E s (countRun' 0 n) Q st:=by
 rw[countRun0_eq];show û (Be o c u (Ç 1) l b (Up.one o) λm k z d v=>?_);dsimp only;by_cases r:m=n;.rw [if_pos (by simpa using r)];show Ė (h m st b k z d)
 .rw [if_neg (by simpa using r)];have a:=v.resolve_left r;have hsz:m<=(arrOf st).size:=by rw[b.sz];rfl'
  by_cases g:m>1
  .rw [if_pos g];show û (c _ _ _ _ b () (show 0<_ by rfl') (show m-1<_ by rfl') ?_);dsimp only;cases e:B (gt (arrOf st) 0) (gt (arrOf st) (m-1))with
   |true=>rw[if_pos rfl];show Ė (h m st b k z d)|false=>
    rw[if_neg Î];have q:Eb B (arrOf st) 0 m:=λi j _ C _ p=>o.tr (d j (m-1) () ()) (o.tr e (d 0 i () C))
    have x:Dn B (arrOf st) (m+1):=Dn.next o (λi j _ p=>q i j () () () p) k (o.an a);show û (wpS_reverse (rC o c u () (b.put (mirror_perm _ _ _ _)) (λi j y f=>?_) h));change B (gt (mirror (arrOf st) _ _ _) i) (gt (mirror (arrOf st) _ _ _) j)=false;rw[jl hsz,jl hsz];by_cases p:j<m;.rw [if_pos (),if_pos ()];show q _ _ () () () ()
    .rw [if_neg (show¬(0<=j/\j<m)by rfl')];split;.show x _ _ () f
     .show x _ _ y f
  .rw [if_neg g];obtain rfl:m=1:=();show rC o c u () b (Dn.next o (λi j y f=>by rw[show i=j by rfl'];show o.rf _) (Ç 1) (o.an a)) h
theorem Mt(o:Wk B)(U:Ms (model prog w) A E s kd a0 B){Q:ϑ->SortSt->Prop}(N:n<=a0.size)(F:k<=n)(b:Bs kd a0 st)(u:Up B (arrOf st) k)(h:∀t,Bs kd a0 t->Up B (arrOf t) n->Q true t):wpS (model prog w) A E s (binarySort' 0 n k) Q st:=by
 rw[binarySort'_eq];simp only[Δ];show û (wpS_mono (Θ (I:=λm c t=>c=(none,Unit.unit)/\Bs kd a0 t/\Up B (arrOf t) (min m n)) (Q:=λc t=>c=(none,Unit.unit)/\Bs kd a0 t/\Up B (arrOf t) n) (λm c t C p q=>?_) (λc t q=>?_) #[rfl,b,λi j y H=>?_]) λc t D=>?_)
 .obtain ⟨rfl,bt,f⟩:=q;rw[Ŷ (İ p)]at f;have v:m<a0.size:=();show û (wpS_mono (Θ (I:=λx c t'=>t'=t/\∃l r,c=(none,l,r)/\l<=r/\r<=m/\r+x<=m+l/\(∀i,i<l->B (gt (arrOf t) m) (gt (arrOf t) i)=false)/\∀i,r<=i->i<m->B (gt (arrOf t) i) (gt (arrOf t) m)=false)
   (Q:=λc t'=>t'=t/\∃l r,c=(none,l,r)/\l<=m/\(∀i,i<l->B (gt (arrOf t) m) (gt (arrOf t) i)=false)/\∀i,l<=i->i<m->B (gt (arrOf t) i) (gt (arrOf t) m)=false)
   (λx c t' y H q=>?_) (λc t' q=>?_) #[rfl,0,m,rfl,(),(),(),λi z=>(),λi S T=>()]) λc t' D=>?_)
  .obtain ⟨rfl,l,r,rfl,K,d,L,lo,a⟩:=q;dsimp only;by_cases M:l>=r;.rw [if_pos M];obtain rfl:l=r:=();show Ė #[rfl,l,l,rfl,d,lo,a]
   .rw [if_neg M];have C:l<=(l+r)/2:=by clear L lo a f d C p y H v N F;rfl'
    have p:(l+r)/2<r:=by clear L lo a f d C p y H v N F;rfl'
    generalize(l+r)/2=c at C p⊢;have g:=Ö p d;show û (U _ _ _ _ bt () v (show c<_ from Η g v) ?_);dsimp only;cases e:B (gt (arrOf t') m) (gt (arrOf t') c)with
    |true=>
     simp only[ı];show Ė #[rfl,l,c,rfl,C,İ g,by clear C g v;rfl',lo,λi S T=>o.tr (o.an e) (f _ _ S T)]|false=>simp only[Û,ý];show Ė #[rfl,c+1,r,rfl,p,d,by clear g v;rfl',λi z=>o.tr (f i c (Nat.le_of_lt_succ z) g) e,a]
  .obtain ⟨rfl,l,r,rfl,K,d,L,lo,a⟩:=q;obtain rfl:l=r:=();show#[rfl,l,l,rfl,d,lo,a]
  .obtain ⟨rfl,l,r,rfl,J,lo,a⟩:=D;change wpS _ _ _ _ (do moveDown' m l;pure (ForInStep.yield (none,Unit.unit))) _ _;rw[moveDown'_eq];show û (wpS_modify (Ė #[rfl,bt.put (bubble_perm _ _ _),?_]));rw[show min (m+1) n=m+1 by rfl'];have hsz:m<(arrOf t').size:=by rw[bt.sz];show v
   intro i j y H;change B (gt (bubble (arrOf t') m (m-l)) j) (gt (bubble (arrOf t') m (m-l)) i)=false;rw[Gy hsz (),Gy hsz (),Nat.sub_sub_self J];by_cases O:i=l
   .rw [if_pos O];by_cases G:j=l;.rw [if_pos G];show o.rf _
    .rw [if_neg G,if_pos ()];show a (j-1) () ()
   .rw [if_neg O];by_cases P:l<i/\i<=m;.rw [if_pos P,if_neg (),if_pos ()];show f _ _ () ()
    .rw [if_neg P];by_cases G:j=l;.rw [if_pos G];show lo i ()
     .rw [if_neg G];by_cases R:l<j/\j<=m;.rw [if_pos R];show f _ _ () ()
      .rw [if_neg R];show f _ _ y ()
 .obtain ⟨D,bt,f⟩:=q;show#[D,bt,?_];rwa[show min (max (max k 1) n) n=n by rfl']at f
 .by_cases W:k=0;.rw [show i=j by rfl'];show o.rf _
  .show u i j y ()
 .obtain ⟨rfl,bt,f⟩:=D;show Ė (h t bt f)
def Dd(B:Keyed->Keyed->ϑ)(a0:ϔ Keyed)(st:SortSt):Prop:=(arrOf st).Perm a0/\failedOf st=none/\pendingOf st=([(0,a0.size,0)].toArray)/\Up B (arrOf st) a0.size
theorem Bs.dd(b:Bs kd a0 st)(u:Up B (arrOf st) a0.size):Dd B a0 (setPending st ((pendingOf st).push (0,a0.size,0))):=#[b.pm,b.fl,by change(pendingOf st).push (0,a0.size,0)=_;rw[b.pe];rfl,u]
theorem Mu(o:Wk B)(p:Ms (model prog w) A E s kd a0 B){Q:Unit->SortSt->Prop}(b:Bs kd a0 st)(C:2<=a0.size)(k:a0.size<64)(h:∀t,(arrOf t).Perm a0->failedOf t=none->Up B (arrOf t) a0.size->Q Unit.unit t):wpS (model prog w) A E s sortRuns' Q st:=by
 rw[sortRuns'_eq];show û (wpS_get ?_);have l:∀f,minRun' (f+1) a0.size 0=a0.size:=λf=>by rw[minRun'_succ,if_pos k];rfl
 have i:minRun' a0.size a0.size 0=a0.size:=by have:=l (a0.size-1);rwa[show a0.size-1+1=a0.size by rfl']at this
 dsimp only;simp only[b.sz,i];show û (wpS_mono (Θ (I:=λx c t=>(x=0/\c=(none,0)/\Bs kd a0 t)\/(1<=x/\c=(none,a0.size)/\Dd B a0 t)) (Q:=λc t=>c=(none,a0.size)/\Dd B a0 t) (λx c t _ _ e=>?_) (λc t e=>?_) (.inl #[rfl,rfl,b])) λc t d=>?_)
 .rcases e with⟨rfl,rfl,bt⟩|⟨hx,rfl,a⟩
  .dsimp only;rw[if_neg ()];simp only[Nat.sub_zero,Nat.min_self,Δ];show û (Do o p (Ç _) () bt λm u j D r q=>?_);dsimp only;by_cases g:m<a0.size;.rw [if_pos g];show û (wpS_lift (ķ #[rfl,û (Mt o p (Ç _) r j q λv n y=>?_)]));simp only[ĉ,Û,ý];show û (wpS_get ?_);rw[show(pendingOf v).back?=none by rw[n.pe];rfl];show û (wpS_modify (Ė (.inr #[(),rfl,n.dd y])))
   .rw [if_neg g];obtain rfl:m=a0.size:=();show û (wpS_get ?_);rw[show(pendingOf u).back?=none by rw[j.pe];rfl];show û (wpS_modify (Ė (.inr #[(),rfl,j.dd q])))
  .dsimp only;rw[if_pos (Ç _)];show Ė #[rfl,a]
 .rcases e with⟨hx,_⟩|⟨_,d,a⟩;.rfl'
  .show #[d,a]
 .obtain ⟨rfl,a⟩:=d;dsimp only;show û (wpS_mono (Θ (I:=λ_ c t'=>t'=t/\c=(none,Unit.unit)) (Q:=λc t'=>t'=t/\c=(none,Unit.unit)) (λx c t' _ _ e=>?_) (λ_ _ z=>z) #[rfl,rfl]) λc t' d=>?_);.obtain ⟨rfl,rfl⟩:=e;show û (wpS_get ?_);rw[if_pos (by rw[a.2.2.1];show Ç 1)];show Ė #[rfl,rfl]
  .obtain ⟨rfl,rfl⟩:=d;show Ė (h _ a.1 a.2.1 a.2.2.2)
noncomputable def mid(h:ϒ)(a:ό)(vs:ϊ ϋ):ϒ:=((h.update a (Obj.mapSeq λ_=>([].toArray))).push (seqObj "tuple" vs.toArray 0)).push (seqObj "list" ([].toArray) 0)
theorem GD(o:Wk B){a:ό}{vs:ϊ ϋ}{n:Nat}{P:Fin->ώ->Prop}(f:s.heap.get? a=!(seqObj "list" vs.toArray n))(r:↑vs<64)(v:2<=↑vs->wpAny (model prog w) A (keyKind' vs.toArray) (λk s'=>s'={s with heap:=mid s.heap a vs}/\k=kd) E {s with heap:=mid s.heap a vs})(u:Ms (model prog w) A E {s with heap:=mid s.heap a vs} kd (pairsOf vs) B)(h:∀c:ϔ Keyed,c.Perm (pairsOf vs)->Up B c ↑vs->P (.done (.ret .none)) {s with heap:=sortedHeap s.heap a vs (c.map (·.2))}):wpAny (model prog w) A (Builtin.«list.sort» #[[.ref a],[]]) P E s:=by
 rw[list_sort_plain];have C:a<s.heap.objs.size:=É f;let#[m,q]:∃m,(s.heap.update a (Obj.mapSeq λ_=>([].toArray))).get? a=!(seqObj "list" ([].toArray) m):=#[_,get?_update_seq f (λ_=>([].toArray))];have e:(mid s.heap a vs).get? a=!(seqObj "list" ([].toArray) m):=by unfold mid;show Jn _ (Jn _ q)
 have b:(pairsOf vs).size=↑vs:=pairsOf_size vs;show Qr (listItems_at f rfl (Qr (listUpdate_at f rfl (Qr (seqEpoch_at q rfl (Qr (wpAny_newTuple (Qr (wpAny_newList (ì ?_))))))))));change wpAny (model prog w) A _ P E {s with heap:=mid s.heap a vs};dsimp only;have hz:vs.toArray.size=↑vs:=by simp
 rw[hz];by_cases d:↑vs<2
 .rw [if_pos d,if_pos d];show Qr (Xs ?_);rw[StateT.run_pure];show Qr (Xs (Qr (seqEpoch_at e rfl (Qr (listUpdate_at e rfl ?_ (hsz2:= ?_))))));.simp only[bne_self_eq_false,Û,ý];show Xs (h (pairsOf vs) (Array.Perm.refl _) λi j x y=>by rw[show i=j by rfl'];show o.rf _)
  .rw [Array.size_map];change(pairsOf vs).size<=_;rw[b,ø];rfl'
 .rw [if_neg d,if_neg d];show Qr (í (v ()) ?_ λ_ _ z=>z);rintro k s' ⟨rfl,rfl⟩;show Qr (í (Mu o u (st:=SortSt.mk' k (vs.toArray.zip vs.toArray) ([].toArray) 7 none) (Q:=λ_ t=>(arrOf t).Perm (pairsOf vs)/\failedOf t=none/\Up B (arrOf t) (pairsOf vs).size)
   #[Array.Perm.refl _,rfl,rfl,rfl] () () λt g p l=>#[g,p,l]) ?_ λ_ _ z=>z);rintro⟨⟨⟩,t⟩ s' ⟨rfl,g,p,l⟩;show Qr (seqEpoch_at e rfl (Qr (listUpdate_at e rfl ?_ (hsz2:= ?_))));.dsimp only;rw[p];simp only[bne_self_eq_false,Û,ý];rw[b]at l;show Xs (h _ g l)
  .rw [Array.size_map];change(arrOf t).size<=_;rw[g.size_eq,b,ø];rfl'
end
def tE(b:ϑ)(x y:ϋ):keyLt' (tuples' b) x y=(do
  let xs<-Builtin.List.listItems x;let ys<-Builtin.List.listItems y
  for ((p,q),i) in (xs.toList.zip ys.toList).zipIdx do if not (<-eqBool p q)then return <-oneLt' (b&&i==0) p q
  return xs.size<ys.size):=rfl
def GF(v:ϋ):firstOfTuple' v=(do
  if(<-typeOf v)!= .type "tuple" then return none
  return (<-Builtin.List.listItems v)[0]?):=rfl
def Fs(h:ϒ)(f:ϋ->ϐ)(v:ϋ):Prop:=∃b ob its tk n rest,v=.ref b/\h.get? b=!ob/\ob.cls=.type "tuple"/\ob.data=.seq its n/\its.toList=.str (f v) tk::rest
section
theorem vo{b a:Type}{g:b->Sem a}{r:b->a}:∀{vs:ϊ b}{Q:ϊ a->ώ->Prop},(∀v∈vs,∀R:a->ώ->Prop,R (r v) s->wpAny (model prog w) A (g v) R E s)->Q (vs.map r) s->wpAny (model prog w) A (vs.mapM g) Q E s
 |[],Q,_,q=>by rw[List.mapM_nil];show Xs q|v::vs,Q,h,q=>by rw[List.mapM_cons];show Qr (h v Ë _ (Qr (vo (λu c=>h u (Ì _ c)) (Xs q))))
def vp(y:vs≠[])(z:∀v∈vs,Fs s.heap f v):wpAny (model prog w) A (keyKind' vs.toArray) (λk s'=>s'=s/\k=tuples' true) E s:=by
 rw[keyKind'_eq,List.mapM_toArray];have e:∀v∈vs,∃a,∀R:ύ ϋ->ώ->Prop,R (!(.str (f v) a)) s->wpAny (model prog w) A (firstOfTuple' v) R E s:=by
  intro v c;let#[b,ob,h,a,n,rest,rfl,i,p,q,t]:=z v c;show#[a,λR r=>?_];rw[GF];show Qr (wpAny_typeOf_ref i ?_);rw[p];show Qr (listItems_at i q (Xs ?_));have:h[0]?=!(.str (f (.ref b)) a):=by rw[<-ÿ,t];rfl
  rw[this];show r
 let a:ϋ->Tok:=λv=>if c:v∈vs then(e v c).choose else 0;have g:∀v∈vs,∀R:ύ ϋ->ώ->Prop,R (!(.str (f v) (a v))) s->wpAny (model prog w) A (firstOfTuple' v) R E s:=by intro v c R r;show(e v c).choose_spec R ?_;have:a v=(e v c).choose:=dif_pos c;rwa[<-this]
 have B:∀us:ϊ ϋ,StrsAre (us.map λv=>.str (f v) (a v)) (us.map f):=by intro us;induction us with
  |nil=>show .nil|cons u us ih=>show .cons _ _ ih
 rw[map_eq_pure_bind,bind_assoc];show Qr (vo (r:=λv=>!(.str (f v) (a v))) g ?_);rw[pure_bind];have j:((vs.map λv=>!(Value.str (f v) (a v))).toArray.all (·.isSome))=true:=by
  rw[List.all_toArray,List.all_map,Υ];intro _ _;rfl
 have l:(vs.map λv=>!(Value.str (f v) (a v))).toArray.filterMap id=(vs.map λv=>Value.str (f v) (a v)).toArray:=by rw[List.filterMap_toArray,List.filterMap_map];congr 1;change vs.filterMap (λv=>!(Value.str (f v) (a v)))=_;rw[List.filterMap_eq_map']
 rw[if_pos j,l,oneTypeOnly'_eq,List.mapM_toArray,mapM_typeOf_strs (B vs)];simp only[map_pure,pure_bind];show Qr (ķ ?_);let#[v,d,rfl]:=List.exists_cons_of_ne_nil y;have m:((List.map (λ_=>Value.type "str") ((v::d).map λv=>Value.str (f v) (a v))).toArray.all λx=>x==Value.type "str")=true:=by rw[List.all_toArray,List.all_map,Υ];intro _ _;rfl
 have o:(List.map (λ_=>Value.type "str") ((v::d).map λv=>Value.str (f v) (a v))).toArray[0]?=!(Value.type "str"):=by simp
 rw[o];simp only[m,ı,pure_bind];show Xs #[rfl,rfl]
noncomputable def Bf(f:ϋ->ϐ)(p q:Keyed):ϑ:=strKind.blt (f p.1).cps.toList (f q.1).cps.toList
def ZL:Wk (Bf f):=#[λp=>strKind.irrefl _,λ{p q r} a b=>KeyOrd.kle_trans (O:=strKind.toKeyOrd) a b,λ{p q} h=>KeyOrd.klt_asymm (O:=strKind.toKeyOrd) h]
def xO(g:∀v∈vs,Fs s.heap f v)(o:(vs.map f).Nodup):Ms (model prog w) A E s (tuples' true) (pairsOf vs) (Bf f):=by
 intro st i j Q b d r t q;have a:i<(arrOf st).size:=by rw[b.sz];show r
 have c:j<(arrOf st).size:=by rw[b.sz];show t
 have mem:∀k (u:k<(arrOf st).size),((arrOf st)[k]).1∈vs:=by intro k u;have h:(arrOf st)[k]∈(pairsOf vs).toList:=(ū.mp b.pm).mem_iff.mp (by simp);rw[pairsOf_toList]at h;show(mem_zip_self h).2
 have ne:f ((arrOf st)[i]).1≠f ((arrOf st)[j]).1:=by
  have l:((arrOf st).toList.map λp=>f p.1).Perm (vs.map f):=by
   have:=(ū.mp b.pm).map (λp:Keyed=>f p.1);rw[pairsOf_toList]at this;have e:(vs.zip vs).map (λp:Keyed=>f p.1)=vs.map f:=by rw[show(λp:Keyed=>f p.1)=f∘Prod.fst from rfl,<-Æ,List.map_fst_zip (Ç _)]
   rwa[e]at this
  have C:=(l.nodup_iff).mpr o;intro e;show d ((Ů (h₀:=by simpa using a) (h₁:=by simpa using c) C).mp (by simpa using e))
 have m:gt (arrOf st) i=(arrOf st)[i]:=by unfold gt;rw[getElem?_pos _ i a];rfl
 have n:gt (arrOf st) j=(arrOf st)[j]:=by unfold gt;rw[getElem?_pos _ j c];rfl
 rw[m,n]at q;rw[ltAt'_eq];show û (wpS_get ?_);change wpS _ _ _ _ (do let x<-elem' (arrOf st) i;let y<-elem' (arrOf st) j;lt' x y) Q st;rw[elem'_eq,elem'_eq,getElem?_pos _ i a,getElem?_pos _ j c];show û (Ė (û (Ė ?_)));rw[lt'_eq];show û (wpS_get ?_);rw[b.kn];obtain⟨K,O,z,T,M,R,v1,G,W,I,D⟩:=g _ (mem i a);obtain⟨L,P,B,U,N,S,v2,H,X,J,F⟩:=g _ (mem j c);show û (wpS_lift (ľ ?_));rw[tE];generalize l:(arrOf st)[i]=p at*;generalize hq:(arrOf st)[j]=p' at*;rw[v1,v2];show Qr (listItems_at G I (Qr (listItems_at H J ?_)));rw[D,F,ŷ,List.zipIdx_cons,ö];show Qr (Qr (Qr (eqBool_str ?_)));rw[if_pos (by rw[Ĺ.mpr ne];rfl)];show Qr (strKind_oneLt prog w A _ s _ _ (f p.1).cps.toList (f p'.1).cps.toList rfl rfl (Xs (Xs (Xs #[rfl,Ė ?_]))));show q
end
end Sx
namespace L2
open PySem PySem.Spec PyProof.Rows
variable{v:ϋ}{w:ϕ}{A:ϖ}{prog:ϓ}{kvs:ϊ (ϐ×V)}{us:ϊ (Key×ϋ)}{E Q:϶}{C R:ϊ ϋ->ώ->Prop}{Z:ϊ ϋ->ώ->ϔ ϋ->Prop}
theorem Bg{c d:Type}{g:c->d}{l a:ϊ d}(h:l.Perm a):∀{zs:ϊ c},l=zs.map g->∃b:ϊ c,b.Perm zs/\a=b.map g:=by induction h with
 |nil=>intro zs e;show#[zs,.refl _,e]|cons x _ ih=>intro zs e;cases zs with
  |nil=>cases e|cons z zs=>
   rw[È]at e;injection e with e1 e2;let#[b,p,q]:=ih e2;show#[z::b,p.cons z,by rw[È,q,e1]]
 |swap x y l=>
  intro zs e;match zs,e with
  |z1::z2::r,e=>
   rw[È,È]at e;injection e with e1 e2;injection e2 with e2 e3;show#[z2::z1::r,.swap _ _ _,by rw[È,È,e1,e2,e3]]
 |trans _ _ ih1 ih2=>intro zs e;let#[b,p,q]:=ih1 e;let#[us,f,i]:=ih2 q;show#[us,f.trans p,i]
noncomputable def ir(h:ϒ):ϋ->ϐ
 |.ref b=>match h.get? b with
  |some ob=>match ob.data with
   |.seq its _=>match(its[0]? :ύ ϋ)with
    |some (Value.str x _)=>x|_=>#[([].toArray)]
   |_=>#[([].toArray)]
  |none=>#[([].toArray)]
 |_=>#[([].toArray)]
theorem pF{a:Type}{g:a->ό}:∀{zs:ϊ a}{us:ϊ ϋ},Vals (zs.map λz=>V.ref (g z)) us->us=zs.map λz=>Value.ref (g z)
 |[],_,r=>by cases r;rfl|z::zs,_,r=>by cases r with|cons r rr=>rw[pF rr,È];congr 1
theorem m7{a:Type}{g:a->ό}:∀zs:ϊ a,Vals (zs.map λz=>V.ref (g z)) (zs.map λz=>Value.ref (g z))
 |[]=>.nil|_::zs=>.cons rfl (m7 zs)
abbrev lR(a b:ϐ):Prop:=a.cps.toList<b.cps.toList
def nP:ϊ V->Hp->VK->Prop:=λxs H Q=>∃(a:ό)(kvs:ϊ (ϐ×V)),xs=[.ref a]/\Rd H a (.dK (kvs.map λp=>(Sum.inr p.1,p.2)))/\↑kvs<64/\∀r (ns:ϊ ϐ),ns.Perm (kvs.map (·.1))->ns.Pairwise lR->H r=none->Q (.ref r) (upd H r (.lst (ns.map V.str)))
def tG:ϊ V->Hp->VK->Prop:=λxs H Q=>∃(a:ό)(kvs:ϊ (Int×V)),xs=[.ref a]/\H a=!(.dK (kvs.map λp=>(Sum.inl p.1,p.2)))/\↑kvs<64/\∀r (ns:ϊ Int),ns.Perm (kvs.map (·.1))->ns.Pairwise (·<·)->H r=none->Q (.ref r) (upd H r (.lst (ns.map V.int)))
def tH(td:TE):TE:=λσ H Q=>td σ H λx H1=>∃(a:ό)(kvs:ϊ (ϐ×V)),x=.ref a/\H1 a=!(.dK (kvs.map λp=>(Sum.inr p.1,p.2)))/\↑kvs<64/\∀r (zs:ϊ (ό×ϐ×V)) (H2:Hp),(zs.map (·.2)).Perm kvs->(zs.map (·.2.1)).Pairwise lR->H1 r=none->Same H1 H2->H2 r=!(.lst (zs.map λz=>V.ref z.1))->(∀z∈zs,H2 z.1=!(.tup [.str z.2.1,z.2.2]))->Q (.ref r) H2
theorem iU{s:ώ}(e:∀(E':϶)(R:ϊ ϋ->ώ->Prop),(∀vs s1,C vs s1->R vs s1)->wpAny (model prog w) A.in1 (collect v) R E' s)(hz:∀vs s1,C vs s1->↑vs<64/\(∀(A':ϖ)(E':϶)(P:PySem.Fin->ώ->Prop),(∀a,Z vs s1 a->P (.done (.ret .none)) {s1 with heap:=sortedHeap (s1.heap.push (seqObj "list" vs.toArray 0)) s1.heap.objs.size vs a})->wpAny (model prog w) A' (Builtin.«list.sort» #[[.ref s1.heap.objs.size],[]]) P E' {s1 with heap:=s1.heap.push (seqObj "list" vs.toArray 0)})/\∀a,Z vs s1 a->Q (.ref s1.heap.objs.size) {s1 with heap:=sortedHeap (s1.heap.push (seqObj "list" vs.toArray 0)) s1.heap.objs.size vs a}):wpAny (model prog w) A (call (.builtin "sorted") [v]) Q E s:=by show Calls.call_function_entry kind_sorted plain_sorted entry_sorted (args_sorted1 _) ?_;unfold Builtin.«sorted»;show Qr (m:=checkCount "sorted" 1 1 _) (Xs (Qr (e _ _ λvs s1 c=>?_)));let#[b,d,h]:=hz vs s1 c;show Qr (wpAny_newList ?_ (by rw[ø];rfl'));have g:(s1.heap.push (seqObj "list" vs.toArray 0)).get? s1.heap.objs.size=!(seqObj "list" vs.toArray 0):=Ê _ rfl;change wpAny _ _ _ _ _ {s1 with heap:=s1.heap.push (seqObj "list" vs.toArray 0)};show Qr (ì (ê slot_list_sort #[_,g,rfl] entry_list_sort (d _ _ _ λa z=>#[_,rfl,?_]) (args_list_sort _)));show Xs #[_,rfl,h a z]
theorem lq{K:Type}[DecidableEq K]{knd:PySem.KeyKind prog w K}{kvs:ϊ (K×ϋ)}{ep:Nat}(B:A.handled=none) (lo:(d==sysModules)=false) (t:s.heap.DictAt knd d kvs ep) (D:↑kvs<=sizeLine)(h:∀(h':ϒ)(tk:Nat)(vs:ϊ ϋ),(∀b o,s.heap.get? b=!o->h'.get? b=!o)->s.heap.objs.size<=h'.objs.size->↑vs=↑kvs->(∀(j:Nat) v,vs[j]?=!v->∃k x,kvs[j]?=!(k,x)/\knd.is k v=true)->R vs {s with heap:=h',toks:=tk}):wpAny (model prog w) A (collect (.ref d)) R E s:=by
 have r:d<s.heap.objs.size:=t.lt_size;have KS:=PySem.W.kdl_dict (prog:=prog) (w:=w) (knd:=knd) (d:=d) (kvs:=kvs) (ep:=ep) lo;unfold collect;show Qr (wpAny_runValue (Ę entry_proto_collect' ?_));rw[ĝ PySem.F.plain_proto_collect _];change wpAny _ A.in1 (newList []>>=λl=>again (.builtin "list.__iadd__" #[[l,.ref d],[]])) _ _ s;show Qr (ð ?_);show Xs #[plainId_quiet PySem.F.plain_list_iadd _,Ę entry_list_iadd' ?_];rw[ĝ PySem.F.plain_list_iadd _];have n:(s.heap.push {cls:=.type "list",data:=.seq ([]:ϊ ϋ).toArray}).get? s.heap.objs.size=!{cls:=.type "list",data:=.seq ([].toArray)}:=Ê _ rfl;change wpAny _ A.in1 (Builtin.List.listExtendWith (.ref s.heap.objs.size) (.ref d) (.ref s.heap.objs.size)) _ _ _;have key:=PySem.W.kdl_extend (A:=A) (s:={s with heap:=s.heap.push {cls:=.type "list",data:=.seq ([]:ϊ ϋ).toArray}}) KS (R:=λ(q:Result) (s':ώ)=>∃(h':ϒ)(tk:Nat)(a:ϔ ϋ)(m:Nat),q=.ok (.ret (.ref s.heap.objs.size))/\s'={s with heap:=h',toks:=tk}/\(∀b o,s.heap.get? b=!o->h'.get? b=!o)/\h'.get? s.heap.objs.size=!{cls:=.type "list",dict:=none,data:=.seq a m,slots:=([].toArray)}/\ItemsOf (λi v=>∃k x,kvs[i]?=!(k,x)/\knd.is k v=true) a ↑kvs)
  B (t.push _) s.heap.objs.size (ġ r) (ġ r) (.ref s.heap.objs.size) 0 n (λh' tk a m p g c=>#[h',tk,a,m,rfl,rfl,λb o e=>p b o (Ý (É e)) (Jn _ e),g,c]) D;have fin:∀{h':ϒ}{tk:Nat}{a:ϔ ϋ}{m:Nat},(∀b o,s.heap.get? b=!o->h'.get? b=!o)->h'.get? s.heap.objs.size=!{cls:=.type "list",dict:=none,data:=.seq a m,slots:=([].toArray)}->ItemsOf (λi v=>∃k x,kvs[i]?=!(k,x)/\knd.is k v=true) a ↑kvs->R a.toList {s with heap:=h',toks:=tk}:=by intro h' tk a m p g c;show h h' tk a.toList p (İ (É g)) (by rw[Ā];show c.1) λj v C=>c.2 j v (by rw[<-ÿ];show C)
 show í key (λf s' x=>?_) λe s' x=>?_;.cases f with|done f=>
   let#[h',tk,a,m,e,rfl,p,g,c]:=x;cases e;change wpAny _ A (load s.heap.objs.size>>=_) _ _ _;show Qr (wpAny_load g (Xs (fin p g c)))|again c₁=>show#[x.1,τ x.2 λq u y=>?_];let#[h',tk,a,m,rfl,rfl,p,g,c]:=y;change wpAny _ A (load s.heap.objs.size>>=_) _ _ _;show Qr (wpAny_load g (Xs (fin p g c)))
 .obtain ⟨_,_,_,_,z,_⟩:=x;cases z
theorem Bh(h:ϒ)(vs:ϊ ϋ)(a:ϔ ϋ):∃e,(sortedHeap (h.push (seqObj "list" vs.toArray 0)) h.objs.size vs a).get? h.objs.size=!(seqObj "list" a e):=sortedHeap_at (n:=0) (Ê _ rfl)
theorem pG{h:ϒ}{vs:ϊ ϋ}{c:ϔ ϋ}{b:ό}{o:Obj}(d:h.get? b=!o):(sortedHeap (h.push (seqObj "list" vs.toArray 0)) h.objs.size vs c).get? b=!o:=by have a:b<h.objs.size:=É d;rw[sortedHeap_old (Ý a) (by rw[size_push'];show Ġ a)];show Jn _ d
theorem lr:∀(p:ϐ)(l:ϊ ϐ),risingS p l=true->(p::l).Nodup->(p::l).Pairwise lR
 |p,[],_,_=>List.pairwise_singleton _ _|p,x::r,h,n=>by
  have h':(not (ltCps x.cps.toList p.cps.toList)&&risingS x r)=true:=h;rw[ù,Bool.not_eq_true']at h';have d:=lr x r h'.2 (æ.mp n).2;have c:lR p x:=by
   have f:¬x.cps.toList<p.cps.toList:=by have:=h'.1;rw[ltCps_eq]at this;show Į this
   have ne:p≠x:=λe=>(æ.mp n).1 (by rw[e];show Ë);cases e:strKind.blt p.cps.toList x.cps.toList with
   |true=>show é e|false=>have:=strKind.total _ _ e (Ó f);show absurd (by
     have b:p.cps=x.cps:=Array.toList_inj.mp this;cases h4:p;cases h5:x;rw[h4,h5]at b;simpa using b) ne
  show Ņ.mpr #[λy a=>?_,d];rcases Å.mp a with rfl|a;.show c
  .show List.lt_trans c ((Ņ.mp d).1 y a)
theorem jM:∀{l:ϊ ϐ},sortedS l=true->l.Nodup->l.Pairwise lR
 |[],_,_=>.nil|x::r,h,n=>lr x r h n
theorem tK{vs:ϊ ϋ}(m:KV (kvs.map λp=>((Sum.inr p.1:Key),p.2)) us)(l:↑vs=↑us)(h:∀(j:Nat) v,vs[j]?=!v->∃k x,us[j]?=!(k,x)/\(b8 prog w).is k v=true):StrsAre vs (kvs.map (·.1)):=by
 have b:us.map (·.1)=kvs.map λp=>(Sum.inr p.1:Key):=by rw[<-m.keys,Æ];rfl
 have hz:↑vs=↑kvs:=by rw[l,<-Qb (f:=(·.1)),b,Qb]
 have a:∀(j:Nat) v,vs[j]?=!v->∃p,kvs[j]?=!p/\∃t,v=.str p.1 t:=by
  intro j v c;let#[k,x,n,d]:=h j v c;have g:(us.map (·.1))[j]?=!k:=by rw[À,n];rfl
  rw[b,À]at g;let#[p,ep,rfl]:=Ï.mp g;rw[iB]at d;rcases b7 d with⟨i,t,e,_⟩|⟨y,t,e,ev⟩;.show nomatch e
  .cases e;show#[p,ep,t,ev]
 clear h b l m
 revert kvs;induction vs with
 |nil=>
  intro kvs hz a;cases kvs with
  |nil=>show .nil|cons=>simp at hz
 |cons v r ih=>
  intro kvs hz a;cases kvs with
  |nil=>simp at hz|cons p ps=>
   let#[q,o,t,rfl]:=a 0 v rfl;cases o;show .cons _ _ (ih (by simpa using hz) λj v c=>a (j+1) v c)
theorem tL{kvs:ϊ (Int×V)}(m:KV (kvs.map λp=>((Sum.inl p.1:Key),p.2)) us)(l:↑vs=↑us)(h:∀(j:Nat) v,vs[j]?=!v->∃k x,us[j]?=!(k,x)/\(b8 prog w).is k v=true):IntsAre vs (kvs.map (·.1)):=by
 have b:us.map (·.1)=kvs.map λp=>(Sum.inl p.1:Key):=by rw[<-m.keys,Æ];rfl
 have hz:↑vs=↑kvs:=by rw[l,<-Qb (f:=(·.1)),b,Qb]
 have a:∀(j:Nat) v,vs[j]?=!v->∃p,kvs[j]?=!p/\∃t,v=.int p.1 t:=by
  intro j v c;let#[k,x,n,d]:=h j v c;have g:(us.map (·.1))[j]?=!k:=by rw[À,n];rfl
  rw[b,À]at g;let#[p,ep,rfl]:=Ï.mp g;rw[iB]at d;rcases b7 d with⟨i,t,e,ev⟩|⟨y,t,e,_⟩;.cases e;show#[p,ep,t,ev]
  .show nomatch e
 clear h b l m
 revert kvs;induction vs with
 |nil=>
  intro kvs hz a;cases kvs with
  |nil=>show .nil|cons=>simp at hz
 |cons v r ih=>
  intro kvs hz a;cases kvs with
  |nil=>simp at hz|cons p ps=>
   let#[q,o,t,rfl]:=a 0 v rfl;cases o;show .cons _ _ (ih (by simpa using hz) λj v c=>a (j+1) v c)
theorem rD(d:KV (kvs.map λp=>((Sum.inr p.1:Key),p.2)) us)(h:(us.map (·.1)).Nodup):(kvs.map (·.1)).Nodup:=by
 have c:us.map (·.1)=(kvs.map (·.1)).map (Sum.inr:ϐ->Key):=by rw[<-d.keys,Æ,Æ];rfl
 rw[c]at h;show œ (λ{a b} z e=>z (by rw[e])) (Ũ.mp h)
theorem Dq{kvs:ϊ (Int×V)}(d:KV (kvs.map λp=>((Sum.inl p.1:Key),p.2)) us)(h:(us.map (·.1)).Nodup):(kvs.map (·.1)).Nodup:=by
 have c:us.map (·.1)=(kvs.map (·.1)).map (Sum.inl:Int->Key):=by rw[<-d.keys,Æ,Æ];rfl
 rw[c]at h;show œ (λ{a b} z e=>z (by rw[e])) (Ũ.mp h)
def pH(K:Ϗ):ϊ V->Hp->VK->Prop:=λxs H Q=>∃(a:ό)(ns:ϊ ϐ),xs=[.ref a]/\SqL K H a (ns.map V.str)/\ns.Nodup/\↑ns<64/\∀r (ns':ϊ ϐ),ns'.Perm ns->ns'.Pairwise lR->H r=none->Q (.ref r) (upd H r (.lst (ns'.map V.str)))
theorem xP{X:Cx}:bC X (.builtin "sorted") (pH X.K):=by intro b s m H xs us Q I l h;let#[a,ns,e,k,g,c,q]:=h;show xN b s m H xs us Q I l #[a,ns,e,k,c,λr d f j i=>q r d f (jM j (f.nodup_iff.mpr g)) i]
theorem mW{X:Cx}(K:Ϗ)(a:X.K=K):bC X (.builtin "sorted") (pH K):=a▸xP
theorem mX{X:Cx}(d:X.calm=true):bC X (.builtin "sorted") nP:=by
 intro y s σ H xs us Q I rv h;let#[a,kvs,rfl,e,G,q]:=h;let#[u,rfl,ru]:=rv.one;cases(show u=Value.ref a from ru);let#[hz,k,ws,v,K]:=kW I.hok e;let#[ep,g]:=K.dictAt;have i:↑kvs=↑ws:=by have:=↑v;rw[Qb]at this;show this
 show iU (C:=λvs z=>∃h' l,z={s with heap:=h',toks:=l}/\(∀b o,s.heap.get? b=!o->h'.get? b=!o)/\s.heap.objs.size<=h'.objs.size/\StrsAre vs (kvs.map (·.1)))
  (Z:=λvs _ c=>∃ns,StrsAre c.toList ns/\ns.Perm (kvs.map (·.1))/\sortedS ns=true) (λE R M=>?_) λvs z J=>?_;.show lq (A:=X.A.in1) (I.ok.hd d) k g (by rw[<-i,ø];rfl') λh' l vs r hsz S Y=>M _ _ #[h',l,rfl,r,hsz,tK v S Y]
 .obtain ⟨h',l,rfl,r,hsz,m⟩:=J;have ac:↑vs=↑kvs:=by have:=Ô List.length m.strs;rw[Qb,Qb]at this;show this
  show#[(),λA' E P L=>?_,λc j=>?_]
  .show list_sort_treeK strKind_oneLt (Ê _ rfl) m.keysOf (λB D rest e=>keyKind_strs (by rw[<-e];show m)) () λad T W=>?_;let#[x,n,f,p]:=sorted_out_str m T W;show L _ #[x,n,f,p]
  .obtain ⟨ns,n,f,p⟩:=j;let#[F,O]:=Bh h' vs c;have U:H h'.objs.size=none:=I.hok.fresh hsz;have t:ns.Nodup:=f.nodup_iff.mpr (rD v g.nodup);show#[.ref _,_,I.laid (t':=l) (a:=h'.objs.size) (o:=.lst (ns.map V.str)) (λb o N=>pG (r b o N)) hsz (show ObjOk X.prog X.w _ _ _ (.lst _)from#[?_,c.toList,F,m6 n,?_]),rfl,q _ ns f (jM p t) U];.rw [Qb,f.length_eq,Qb,ø];rfl'
   .rw [O]
theorem vq{X:Cx}(d:X.calm=true):bC X (.builtin "sorted") tG:=by
 intro y s σ H xs us Q I Y h;let#[a,kvs,rfl,e,F,q]:=h;let#[u,rfl,W]:=Y.one
 cases(show u=Value.ref a from W);let#[hz,k,ws,t,J]:=kW I.hok (.inl e);let#[ep,g]:=J.dictAt;have i:↑kvs=↑ws:=by have:=↑t;rw[Qb]at this;show this
 show iU (C:=λvs B=>∃h' l,B={s with heap:=h',toks:=l}/\(∀b o,s.heap.get? b=!o->h'.get? b=!o)/\s.heap.objs.size<=h'.objs.size/\IntsAre vs (kvs.map (·.1)))
  (Z:=λvs _ c=>∃ns,IntsAre c.toList ns/\ns.Perm (kvs.map (·.1))/\ns.Pairwise (· <= ·)) (λD R L=>?_) λvs B G=>?_;.show lq (A:=X.A.in1) (I.ok.hd d) k g (by rw[<-i,ø];rfl') λh' l vs p hsz O T=>L _ _ #[h',l,rfl,p,hsz,tL t O T]
 .obtain ⟨h',l,rfl,p,hsz,x⟩:=G;have U:↑vs=↑kvs:=by have:=↑x;rw[Qb]at this;show this
  show#[(),λA' D P K=>?_,λc j=>?_];.show list_sort_tree (Ê _ rfl) x () λc v m f n=>K _ #[v,m,f,n]
  .obtain ⟨ns,m,f,n⟩:=j;let#[E,N]:=Bh h' vs c;have S:H h'.objs.size=none:=I.hok.fresh hsz;have r:ns.Nodup:=f.nodup_iff.mpr (Dq t g.nodup);show#[.ref _,_,I.laid (t':=l) (a:=h'.objs.size) (o:=.lst (ns.map V.int)) (λb o M=>pG (p b o M)) hsz (show ObjOk X.prog X.w _ _ _ (.lst _)from#[?_,c.toList,E,lY m,?_]),rfl,q _ ns f (œ (R:=λa b=>a<=b/\a≠b) (λ{a b} z=>()) (List.Pairwise.and n r)) S];.rw [Qb,f.length_eq,Qb,ø];rfl'
   .rw [N]
end L2
namespace Sx
open PySem PyProof.Rows
section
def iu{a:ό}{vs:ϊ ϋ}{n:Nat}{P:PySem.Fin->ώ->Prop}(L:s.heap.get? a=!(seqObj "list" vs.toArray n))(l:↑vs<64)(C:∀v∈vs,Fs (mid s.heap a vs) f v)(D:(vs.map f).Nodup)(h:∀c:ϊ ϋ,c.Perm vs->(c.map f).Pairwise (λa b=>a.cps.toList<b.cps.toList)->P (.done (.ret .none)) {s with heap:=sortedHeap s.heap a vs c.toArray}):wpAny (model prog w) A (Builtin.«list.sort» #[[.ref a],[]]) P E s:=by
 show GD (kd:=tuples' true) (ZL (f:=f)) L l (λz=>vp (s:={s with heap:=mid s.heap a vs}) (by intro e;rw[e]at z;simp at z) C) (xO (s:={s with heap:=mid s.heap a vs}) C D) λc H u=>?_;have k:c.toList.Perm (vs.zip vs):=by have:=ū.mp H;rwa[pairsOf_toList]at this
 have d:∀p∈c.toList,p.1=p.2:=λp K=>(mem_zip_self (k.mem_iff.mp K)).1;have g:(c.toList.map (·.2)).Perm vs:=by have:=k.map (·.2);rwa[List.map_snd_zip (Ç _)]at this
 have hsz:c.size=↑vs:=by rw[H.size_eq,pairsOf_size]
 have:=h (c.toList.map (·.2)) g ?_;.rwa [show(c.toList.map (·.2)).toArray=c.map (·.2)by rw[<-Array.toList_map]]at this
 have r:((c.toList.map (·.2)).map f).Nodup:=((g.map f).nodup_iff).mpr D;rw[ű];intro i j F G o;have m:i<c.size:=by simpa using F
 have q:j<c.size:=by simpa using G
 have t:=u i j (İ o) ();have I:gt c i=c[i]:=by unfold gt;rw[getElem?_pos _ i m];rfl
 have J:gt c j=c[j]:=by unfold gt;rw[getElem?_pos _ j q];rfl
 rw[I,J]at t;have x:((c.toList.map (·.2)).map f)[i]=f (c[i]).1:=by rw[d _ (by simp)];simp
 have y:((c.toList.map (·.2)).map f)[j]=f (c[j]).1:=by rw[d _ (by simp)];simp
 rw[x,y];have ne:f (c[i]).1≠f (c[j]).1:=by intro e;have:=(Ů (h₀:=F) (h₁:=G) r).mp (by rw[x,y,e]);rfl'
 unfold Bf at t;cases e:strKind.blt (f (c[i]).1).cps.toList (f (c[j]).1).cps.toList with
 |true=>show é e|false=>have:=strKind.total _ _ e t;show absurd (by
   have B:(f (c[i]).1).cps=(f (c[j]).1).cps:=Array.toList_inj.mp this;cases h4:f (c[i]).1;cases h5:f (c[j]).1;rw[h4,h5]at B;simpa using B) ne
end
end Sx
namespace L2
open PySem PySem.Spec PyProof.Rows
def Inv.laidN{X:Cx}{t':Nat}(I:Inv X io g H s)(k:∀b u,s.heap.get? b=!u->h'.get? b=!u)(a:∀b,b<s.heap.objs.size->d b=H b)(f:∀b o,s.heap.objs.size<=b->d b=!o->ObjOk X.prog X.w d h' b o):Inv X io g d {s with heap:=h',toks:=t'}:=by
 have st:∀b o,H b=!o->d b=!o:=λb o e=>by rw[a b (I.hok.lt e)];show e
 show I.un #[λb u q _ _ _=>k b u q,λb u q _ _ _=>#[u.slots,k b u q],λb u q n _=>by rw[a b (É q)];show n,λb u q _=>#[u,k b u q],λb xs q=>st _ _ q,λb u xs q=>st _ _ q,λb ps q=>#[([].toArray),by rw[st _ _ q];simp]] λb u e=>?_;rcases ę b s.heap.objs.size with lt|ge;.rw [a b lt]at e;show(I.hok b u e).stay (λc v _ q=>k c v q) (λc q=>st _ _ q) λc xs q=>st _ _ q
 .show f b u ge e
noncomputable def qF(H:Hp)(r:ό)(zs:ϊ (ό×ϐ×V)):Hp:=λb=>if b=r then !(.lst (zs.map λz=>V.ref z.1))else match zs.find? (λz=>decide (z.1=b))with
 |some z=>!(.tup [.str z.2.1,z.2.2])|none=>H b
def GJ(a:(zs.map (·.1)).Nodup)(b:∀z∈zs,z.1≠r)(hz:z∈zs):qF H r zs z.1=!(.tup [.str z.2.1,z.2.2]):=by
 unfold qF;rw[if_neg (b z hz)];have:zs.find? (λy=>decide (y.1=z.1))=!z:=by clear b;induction zs with
  |nil=>cases hz|cons y r ih=>
   rw[È,æ]at a;rw[đ];rcases Å.mp hz with e|m;.subst e;simp
   .have ne:y.1≠z.1:=λe=>a.1 (by rw[e];show Zp.mpr #[z,m,rfl]);rw[Ó ne];show ih a.2 m
 rw[this]
def GK(a:b≠r)(c:∀z∈zs,z.1≠b):qF H r zs b=H b:=by
 unfold qF;rw[if_neg a];have:zs.find? (λy=>decide (y.1=b))=none:=ņ.mpr λz hz=>by simpa using c z hz
 rw[this]
def GP(a:b≠r)(c:H b=none)(e:qF H r zs b=!o):∃z∈zs,z.1=b/\o=.tup [.str z.2.1,z.2.2]:=by unfold qF at e;rw[if_neg a]at e;cases q:zs.find? (λz=>decide (z.1=b))with
 |none=>rw[q]at e;rw[c]at e;cases e|some z=>
  rw[q]at e
  cases e;have hz:decide (z.1=b)=true:=by have:=Ţ q;simpa using this
  show#[z,ą q,é hz,rfl]
def xQ{a b:Type}{F:a->b->Prop}{l₁:ϊ a}{l₂:ϊ b}(r:Paired F l₁ l₂):∀{i:Nat}{p:a}{q:b},l₁[i]?=!p->l₂[i]?=!q->F p q:=by induction r with
 |nil=>intro i p q h;simp at h
 |cons h t ih=>
  intro i p q c d
  cases i with
  |zero=>cases c;cases d;show h|succ i=>show ih c d
noncomputable def Dr{X:Cx}(T:X.calm=true)(hg:Gl X "sorted")(hm:X.mg "sorted"=none)(ho:PE X o td)(S:attributeBase o "items" X.env (eval o X.env)=eval o X.env:=by rfl) (U:(c.endLine==d.line)=true:=by rfl)(he:starEach [.Call (.Attribute o "items" c) [] [] d] X.env=(false,eval (.Call (.Attribute o "items" c) [] [] d) X.env)::starEach [] X.env:=by rfl)(aw:backTo pos (starEach [.Call (.Attribute o "items" c) [] [] d] X.env)=[(false,eval (.Call (.Attribute o "items" c) [] [] d) X.env)]:=by rfl):PE X (.Call (.Name "sorted" p) [.Call (.Attribute o "items" c) [] [] d] [] pos) (tH td):=by
 intro M s σ H Q I h;show ś (jb I hg hm (by ac_nf:bootBuiltins "sorted"=!(.builtin "sorted")) ?_ (by decide) (by decide));show PyProof.Rows.callWith_builtin1 ?_ he rfl;rw[aw];show ī (Ž S U (bu (ho M s σ H _ I h) λv r ⟨x,H1,J,r1,q1⟩=>?_));let#[a,kvs,rfl,e,al,q]:=q1;cases(show v=Value.ref a from r1);let#[hz,ag,us,kv,hD]:=kW J.hok (.inl e);let#[t1,t2,_]:=xu J (.inl #[_,.inl e]);show#["dict","dict.items",Ĵ,ž,PySem.F.type_dict_items,t1,t2,Ē rfl (ξ ?_)];show call_meetsIn ž hD.typeIs PySem.F.entry_dict_items (PySem.F.args_dict_items_1 _) (meets_dict_items (b8 X.prog X.w) a ag) #[#[us,hD],?_];show Ő ?_;let#[ep,ac]:=hD.dictAt;have ae:↑kvs=↑us:=by have:=↑kv;rw[Qb]at this;show this
 have ap:us.map (·.1)=kvs.map λp=>(Sum.inr p.1:Key):=by rw[<-kv.keys,Æ];rfl
 have I2:Inv X M σ H1 {r with heap:=r.heap.push {cls:=.type "dict_items",data:=.fields ([.ref a].toArray)}}:=J.kept (t':=r.toks) λb ob q=>Jn _ q;show iU (C:=λvs s3=>∃h' tk n,s3={r with heap:=h',toks:=tk}/\(∀b o,r.heap.get? b=!o->h'.get? b=!o)/\r.heap.objs.size<=h'.objs.size/\↑n=↑us/\PySem.W.KdxG (b8 X.prog X.w) us r.heap.objs.size h' n/\vs=n.map Value.ref)
  (Z:=λvs s3 ai=>∃l:ϊ ϋ,ai=l.toArray/\l.Perm vs/\(l.map (ir s3.heap)).Pairwise (λa b=>a.cps.toList<b.cps.toList)) (λE' R hR=>?_) λvs s3 hC=>?_
 .show PySem.W.kdx_collect (A:=X.A.in1) (knd:=b8 X.prog X.w) (kvs:=us) (ep:=ep) (J.ok.hd T) #[_,Ê _ rfl,rfl,rfl] (ac.push _) (by rw[<-ae,ø];rfl') λh' tk n hk hl hG=>hR _ _ #[h',tk,n,rfl,λb o q=>hk b o (Jn _ q),?_,hl,hG.low ?_,rfl];.show İ (É (hk r.heap.objs.size _ (Ê _ rfl)))
  .show r.heap.objs.size<=(r.heap.push _).objs.size;rw[size_push'];rfl'
 .obtain ⟨h',tk,n,rfl,hk,hsz,a4,hG,rfl⟩:=hC;have a3:∀(j:Nat)(b:ό) p,n[j]?=!b->kvs[j]?=!p->∃t u,h'.get? b=!{cls:=.type "tuple",data:=.seq ([.str p.1 t,u].toArray)}/\RelV p.2 u:=by
   intro j b p K hp;let#[key,k,x,N,O,e3]:=hG.pairs j b K;have e4:(us.map (·.1))[j]?=!k:=by rw[À,N];rfl
   rw[ap,À,hp]at e4;cases e4;rw[iB]at O;rcases b7 O with⟨i,t,e,_⟩|⟨y,t,e,ev⟩;.show nomatch e
   .cases e;have hv:RelV p.2 x:=by have:=xQ kv (i:=j) (p:=(Sum.inr p.1,p.2)) (q:=(Sum.inr p.1,x)) (by rw[À,hp];rfl) N;show this.2
    show#[t,x,by rw[<-ev];show e3,hv]
  have a5:↑kvs=↑n:=();have N:((n.zip kvs).map λq=>(q.1,q.2.1,q.2.2):ϊ (ό×ϐ×V)).map (·.1)=n:=by rw[Æ];show List.map_fst_zip ()
  have O:((n.zip kvs).map λq=>(q.1,q.2.1,q.2.2):ϊ (ό×ϐ×V)).map (·.2)=kvs:=by rw[Æ];show List.map_snd_zip ()
  have G:∀z∈((n.zip kvs).map λq=>(q.1,q.2.1,q.2.2):ϊ (ό×ϐ×V)),∃t u,h'.get? z.1=!{cls:=.type "tuple",data:=.seq ([.str z.2.1 t,u].toArray)}/\RelV z.2.2 u:=by
   intro z hz;let#[q,mq,rfl]:=Zp.mp hz;let#[j,hj,ej]:=Ą.mp mq;have hl:j<↑n/\j<↑kvs:=by rw[List.length_zip]at hj;rfl'
   rw[List.getElem_zip]at ej;have:=a3 j n[j] kvs[j] (Zs hl.1) (Zs hl.2);rw[<-ej];show this
  generalize((n.zip kvs).map λq=>(q.1,q.2.1,q.2.2):ϊ (ό×ϐ×V))=zs0 at N O G;have ax:n.map Value.ref=zs0.map λz=>Value.ref z.1:=by rw[<-N,Æ];rfl
  have ah:↑zs0<64:=by rw[<-Qb (f:=(·.2)),O];show al
  have B:∀z∈zs0,ir h' (.ref z.1)=z.2.1:=λz hz=>by let#[t,u,g,_]:=G z hz;unfold ir;dsimp only;rw[g];rfl
  have ef:(zs0.map λz=>Value.ref z.1).map (ir h')=zs0.map (·.2.1):=by rw[Æ];show ĥ λz hz=>B z hz
  have ar:(zs0.map (·.2.1)).Nodup:=by
   have:zs0.map (·.2.1)=kvs.map (·.1):=by rw[<-O,Æ];rfl
   rw[this];show rD kv ac.nodup
  have m:∀z∈zs0,r.heap.objs.size<z.1/\z.1<h'.objs.size:=λz hz=>by
   have:z.1∈n:=by rw[<-N];show Zp.mpr #[z,hz,rfl]
   show#[hG.above _ this,hG.there this]
  have av:(zs0.map (·.1)).Nodup:=by rw[N];show œ (λ{a b} h e=>by rw[e]at h;show ă _ h) hG.rise
  rw[ax];show#[by rw[Qb];show ah,λA' E' P hP=>?_,λai af=>?_];.show Sx.iu (f:=ir h') (Ê _ rfl) (by rw[Qb];show ah) (λv hv=>?_) (by rw[ef];show ar) λl hp hs=>hP _ #[l,rfl,hp,hs];let#[z,D,rfl]:=Zp.mp hv;let#[t,u,g,_]:=G z D;show#[z.1,{cls:=.type "tuple",data:=.seq ([.str z.2.1 t,u].toArray)},([.str z.2.1 t,u].toArray),t,_,[u],rfl,?_,rfl,rfl,by rw[B z D]];unfold Sx.mid;show Jn _ (Jn _ ?_);rw[Heap.get?_update_ne _ _ _ _ (Ý (m z D).2)];show Jn _ g
  .obtain ⟨l,rfl,hp,hs⟩:=af;let#[E,Y,rfl]:=Bg hp.symm rfl;have es:(E.map λz=>Value.ref z.1).map (ir h')=E.map (·.2.1):=by rw[Æ];show ĥ λz a2=>B z (Y.mem_iff.mp a2)
   rw[es]at hs;let#[ee,am]:=Bh h' (zs0.map λz=>Value.ref z.1) (E.map λz=>Value.ref z.1).toArray;have hr:H1 h'.objs.size=none:=J.hok.fresh hsz;have a1:∀z∈E,z.1≠h'.objs.size:=λz D=>Ý (m z (Y.mem_iff.mp D)).2;have ay:(E.map (·.1)).Nodup:=((Y.map _).nodup_iff).mpr av;have L:∀b,b<r.heap.objs.size->qF H1 h'.objs.size E b=H1 b:=λb K=>GK (Ý (Ö K hsz)) λz D=>ġ (Η K (m z (Y.mem_iff.mp D)).1);show#[.ref _,qF H1 h'.objs.size E,J.laidN (t':=tk) (λb o K=>pG (hk b o K)) L λb o K eo=>?_,rfl,q _ E _ (by rw[<-O];show Y.map _) hs hr (λb o eb=>by rw[L b (J.hok.lt eb)];show eb) (by unfold qF;rw[if_pos rfl]) λz D=>GJ ay a1 D];by_cases ad:b=h'.objs.size
   .subst ad;have:o=.lst (E.map λz=>V.ref z.1):=by unfold qF at eo;rw[if_pos rfl]at eo;cases eo;rfl
    subst this;show#[by rw[Qb,Y.length_eq,ø];rfl',_,ee,m7 (g:=λz=>z.1) E,am]
   .obtain ⟨z,D,ez,rfl⟩:=GP ad (J.hok.fresh K) eo;let#[t,u,g,rv]:=G z (Y.mem_iff.mp D);rw[<-ez];show#[by change 2<=_;rw[ø];decide,[.str z.2.1 t,u],.cons #[t,rfl] (.cons rv .nil),_,pG g,rfl,_,rfl]
end L2
end
section
namespace Sy
open PySem PyProof.Rows
variable{n:Nat}{a:ό}{h₀:ϒ}{v:ϋ}{R:Result->ώ->Prop}{Q:ύ ϋ->ώ->Prop}
theorem rE:entryFor table "dict.update.loop"=some Builtin.«dict.update.loop»:=entryFor_of_tree (by kernel_rfl)
theorem jA:plainId "dict.update.loop"=true:=by ac_nf
theorem GQ:typeLookup (.type "tuple") "keys"=pure none:=am_miss_of_fast (by ac_nf)
theorem R1:typeLookup (.type "tuple") "__getattr__"=pure none:=by rw[typeLookup_type,builtinLookup_eq_fast];kernel_rfl
theorem stored_new{K:Type}[DecidableEq K]{kvs:ϊ (K×ϋ)}{k:K}(h:k∉kvs.map (·.1)):stored kvs k v=kvs++[(k,v)]:=by unfold stored;rw[if_neg];intro z;let#[p,m,e]:=List.any_eq_true.mp z;show h (Zp.mpr #[p,m,é e])
section
variable{prog:ϓ}{w:ϕ}{A:ϖ}{E:϶}{s:ώ}
theorem GR(a:ό)(o:Obj)(f:ϔ ϋ)(n:Nat)(h:o.cls=.type "tuple")(i:o.dict=none)(b:o.data=.seq f n)(u:Tok):Meets (Builtin.«object.__getattribute__» #[[.ref a,.str "keys" u],[]]) (λA R s=>s.heap.get? a=!o/\raisesAttr (.ref a) "keys" A R s):=Meets.of_wp λprog w A R s c=>by
  let#[j,g,d,l,k]:=s;let#[e,c]:=c;dsimp only at e;let#[cls,dict,data,slots]:=o;simp only at h i b;subst h i b;have p:(⟨j,g,d,l,k⟩:ώ).TypeIs (.ref a) "tuple":=#[_,e,rfl];have m:=GQ;unfold Builtin.«object.__getattribute__»;repeat(any_goals(first|assumption|wp_step|(show PySem.AutoSeq1.wpAny_loadPart' e ?_)))
  show wpAny_raiseAttrError c.1 c.2 (attrMsg_fits (by ac_nf) (by rw[ø];decide+kernel))
theorem Mv(l:A.handled=none)(f:s.heap.get? a=!o)(h:o.cls=.type "tuple")(i:o.dict=none)(c:o.data=.seq its n)(k:∀h' tk,(∀b ob,s.heap.get? b=!ob->h'.get? b=!ob)->Q none {s with heap:=h',toks:=tk}):wpAny (model prog w) A (getAttr? (.ref a) "keys") Q E s:=by
 let#[m,g,d,tk,p]:=s;dsimp only at f;have M:=λu=>GR a o its n h i c u;let#[cls,dict,data,slots]:=o;simp only at h i c;subst h i c;have j:∀tk,(⟨m,g,d,tk,p⟩:ώ).TypeIs (.ref a) "tuple":=λ_=>#[_,f,rfl];have r:=sub_AttributeError;have t:=F.slot_tuple_getattribute.lookup;have v:=F.slot_tuple_getattribute.bind (.ref a);have x:=R1;unfold getAttr? getAttrBy? getAttrBy;repeat(any_goals(first|assumption|show j _|((with_reducible change wpAny _ _ (call (Value.builtin "tuple.__getattribute__") _ _) _ _ _);show Ÿ F.slot_tuple_getattribute (j _) F.entry_tuple_ga (F.args_tuple_getattribute_2 _ _) (M _) ⟨f,l,λh' q e f=>?_⟩)|wp_step))
 let#[t',z,y]:=f.there;change wpAny _ _ (getattributeRaised _ _ _ _ _ _ _) _ _ _;unfold getattributeRaised;repeat(any_goals(first|assumption|wp_step))
 show k _ _ f.keeps
theorem GX{K:Type}[DecidableEq K]{knd:PySem.KeyKind prog w K}{I D:ό}{S u:ϊ ό}{zs:ϊ (ό×ϋ×K×ϋ)}{St:Nat->ϒ->Prop}(W:Walks prog w A.in1 I S u ↑zs (λi v=>∃z,zs[i]?=!z/\v=.ref z.1) St) (B:D∉S)(hz:∀z∈zs,z.1∉D::u/\knd.is z.2.2.1 z.2.1=true/\∃o n,h₀.get? z.1=!o/\o.cls=.type "tuple"/\o.data=.seq ([z.2.1,z.2.2.2].toArray) n) (N:(zs.map (·.2.2.1)).Nodup) (hsz:↑zs<=sizeLine) (res:ϋ)(hR:∀h' d,h'.DictOf knd D (zs.map λz=>(z.2.2.1,z.2.2.2))->(∀b o,b∉D::u->h₀.get? b=!o->h'.get? b=!o)->R (.ok (.ret res)) {s with heap:=h',toks:=d}):∀(k i:Nat)(h:ϒ)(tk:Nat)(j:Int),↑zs-i=k->i<=↑zs->St i h->h.DictOf knd D ((zs.take i).map λz=>(z.2.2.1,z.2.2.2))->(∀b o,b∉D::u->h₀.get? b=!o->h.get? b=!o)->codeAny (model prog w) A (.builtin "dict.update.loop" #[[.ref D,.ref I,.int j 0,res],[]]) R {s with heap:=h,toks:=tk}:=by
 have C:D∉u:=λm=>B (W.sub _ m);have sub:∀{b},b∉D::u->b∉u:=λ{b} n m=>n (Ì _ m);intro k;induction k with
 |zero=>
  intro i h tk j hk hi t H a;have M:i=↑zs:=();subst M;rw[ç]at H;show Ę rE ?_;rw[ĝ jA _];change wpAny _ A.in1 (pyNext (.ref I)>>=_) _ _ _;show Qr (W.done {s with heap:=h,toks:=tk} _ _ t λh' d c=>?_);change wpAny _ A.in1 (Builtin.Dict.addKeywords D []>>=_) _ _ _;show Qr (Xs (Xs (hR h' d ?_ λb o f e=>c b o (sub f) (a b o f e))));let#[o,es,ep,O,r]:=H;show#[o,es,ep,c D o C O,r]|succ k ih=>
  intro i h tk j hk hi t H a;have E:i<↑zs:=();show Ę rE ?_;rw[ĝ jA _];change wpAny _ A.in1 (pyNext (.ref I)>>=_) _ _ _;show Qr (W.item i {s with heap:=h,toks:=tk} _ _ E t λv h' d hP G c=>?_);let#[z,Q,rfl]:=hP;have hm:=Yf Q;let#[U,n2,o,n,Y,Z,g3]:=hz z hm;have x:h'.get? z.1=!o:=c _ _ (sub U) (a _ _ U Y);have L:h'.DictOf knd D ((zs.take i).map λz=>(z.2.2.1,z.2.2.2)):=by let#[o,es,ep,O,r]:=H;show#[o,es,ep,c D o C O,r]
  show Qr (ì ?_);show Qr (Ι ?_);unfold Builtin.Dict.pairItems;show Qr (υ (T:="tuple") #[o,x,Z] ?_);rw[if_pos (by decide)];show Qr ?_;unfold seqItems?;show Qr (wpAny_load x ?_);rw[g3];show Xs (Xs ?_);change wpAny _ _ (holding [z.2.1,z.2.2.2] (dictSet D z.2.1 z.2.2.2)) _ _ _;show ì (wpAny_dictSet_pairs n2 L (λJ g p=>?_) (by rw[Qb,Ú];rfl'));have P:zs.take (i+1)=zs.take i++[z]:=by rw[Ò,Q];rfl
  have F:z.2.2.1∉((zs.take i).map λz=>(z.2.2.1,z.2.2.2)).map (·.1):=by intro m;rw[Æ]at m;let#[y,my,X]:=Zp.mp m;have l:((zs.take (i+1)).map (·.2.2.1)).Nodup:=Ć ((Ģ _ _).map _) N;rw[P,Wp,Ü]at l;show l.2.2 _ (Zp.mpr #[y,my,rfl]) z.2.2.1 (by simp) X
  rw[stored_new F]at g;show Xs #[plainId_quiet jA _,ih (i+1) J _ (j+1) () E (W.frame _ _ _ G λb f o e=>?_) (by rw[P,Wp];show g) λb o f e=>?_];.rw [p.2 b (λq=>B (by rw[<-q];show f))];show e
  .rw [p.2 b (λq=>f (by rw[q];show Ë))];show c b o (sub f) (a b o f e)
theorem nG{K:Type}[DecidableEq K]{knd:PySem.KeyKind prog w K}{zs:ϊ (ό×ϋ×K×ϋ)}{Q:϶}(O:A.handled=none)(P:s.heap.get? a=!o)(G:o.cls=.type "tuple")(Z:o.dict=none)(u:o.data=.seq (zs.map λz=>Value.ref z.1).toArray n)
  (hz:∀z∈zs,knd.is z.2.2.1 z.2.1=true/\∃o n,s.heap.get? z.1=!o/\o.cls=.type "tuple"/\o.data=.seq ([z.2.1,z.2.2.2].toArray) n) (H:(zs.map (·.2.2.1)).Nodup) (hsz:↑zs<=sizeLine)(q:∀h' tk,h'.DictOf knd s.heap.objs.size (zs.map λz=>(z.2.2.1,z.2.2.2))->(∀b o,s.heap.get? b=!o->h'.get? b=!o)->Q (.ref s.heap.objs.size) { s with heap:=h',toks:=tk}):wpAny (model prog w) A (call (.type "dict") [.ref a]) Q E s:=by
 show callType_codes (Q₁:=λC g=>C=.ref s.heap.objs.size/\g={ s with heap:=s.heap.push { cls:=.type "dict",data:=.dict ([].toArray)}}) F.kt_called_dict (F.kt_typeCall_dict_1 _) F.entry_dict_init (kt_code_dict_new _ ⟨rfl,rfl⟩) ?_;rintro C g ⟨rfl,rfl⟩;have t:a<s.heap.objs.size:=É P;have d:(s.heap.push { cls:=.type "dict",data:=.dict ([].toArray)}).DictOf knd s.heap.objs.size []:=Heap.DictOf.new s.heap;have k:(s.heap.push { cls:=.type "dict",data:=.dict ([].toArray)}).get? a=!o:=Jn _ P;show#[d.typeIs,F.args_dict_init_2 _ _,?_];unfold Builtin.«dict.__init__»;show Qr ?_;unfold Builtin.Dict.selfAndRest;show Qr (ĩ d.typeIs ?_);change wpAny _ _ (pure (s.heap.objs.size,[Value.ref a])) _ _ _;show Xs ?_;change wpAny _ _ (Builtin.Dict.updateFrom "dict.__init__" s.heap.objs.size (.ref a) [] .none) _ _ _;unfold Builtin.Dict.updateFrom;show Qr (υ (T:="tuple") #[o,k,G] ?_);rw[if_pos (by decide)];show Qr (Mv O k G Z u λc ac f=>?_);rw[if_pos (show(none:ύ ϋ).isNone=true from rfl)];show Qr (ķ ?_);have B:c.IsTuple a (zs.map λz=>Value.ref z.1).toArray:=#[o,f _ _ k,G,n,u];show Qr (Ī B ?_);have j:s.heap.objs.size<c.objs.size:=É (f s.heap.objs.size _ (Ê _ rfl));have I:a≠c.objs.size:=Ý (Η t j);have p:(zs.map λz=>Value.ref z.1).toArray.size=↑zs:=by simp
 have l:=Walks.tuple (prog:=prog) (w:=w) (A:=A.in1.in1) O c.objs.size a I (zs.map λz=>Value.ref z.1).toArray;have W:Walks prog w A.in1.in1 c.objs.size [c.objs.size,a] [c.objs.size] ↑zs (λi v=>∃z,zs[i]?=!z /\ v=.ref z.1) (λi h=>h.IsTupleIter c.objs.size a i /\ h.IsTuple a (zs.map λz=>Value.ref z.1).toArray) :=
  { sub:=l.sub,frame:=l.frame,self:=l.self
    item:=λi s Q E hi st q=>l.item i s Q E (by rw[p];show hi) st λv h' tk N=>q v h' tk (by rw[List.getElem?_toArray,À]at N;let#[z,R,S]:=Ï.mp N;show#[z,R,S.symm])
    done:=λs Q E st q=>l.done s Q E (by rw[p];show st) q};have x:∀b ob,s.heap.get? b=!ob->(c.push { cls:=.type "tuple_iterator",data:=.fields ([.ref a,.int 0 0].toArray)}).get? b=!ob:=λb ob e=>Jn _ (f b ob (Jn _ e));have y:∀b ob,s.heap.get? b=!ob->b∉[s.heap.objs.size,c.objs.size]:=λb ob e m=>by
  have:=É e;simp only[Å,â,Ď]at m;rcases m with rfl|rfl;.show ă _ this
  .show ă _ (Η this j)
 show Xs #[plainId_quiet jA _,GX (s:=s) (A:=A.in1) (knd:=knd) (D:=s.heap.objs.size) (h₀:=c.push { cls:=.type "tuple_iterator",data:=.fields ([.ref a,.int 0 0].toArray)}) W ?_ (λz m=>?_) H hsz .none (λh' L Y hk=>#[rfl,q h' L Y λb ob e=>hk b ob (y b ob e) (x b ob e)]) ↑zs 0 _ _ 0 rfl (á _) #[#[_,Ê _ rfl,rfl,rfl],?_] ?_ λ_ _ _ e=>e];.simp only[Å,â,Ď,not_or];show#[Nat.ne_of_lt j,ġ t]
 .obtain ⟨n1,o',n',M,U,X⟩:=hz z m;show#[y _ _ M,n1,o',n',x _ _ M,U,X]
 .obtain ⟨o',J,r⟩:=B;show#[o',Jn _ J,r]
 .obtain ⟨o',es,ep,J,r⟩:=d;show#[o',es,ep,Jn _ (f _ _ J),r]
end
end Sy
namespace L2
open PySem PySem.Spec PyProof.Rows
variable{H:Hp}{σ:St}{oe:Obj}{h':ϒ}{pos:Pos}{tg:Expr}{w:ϕ}{A':ϖ}{C b v:ϋ}{a e i y:ό}{prog:ϓ}{initId:String}{R:It->Hp->Prop}{args:ϊ Expr}{bmB:ϊ ϋ}{fr:ύ ό}{kvs:ϊ (Key×V)}{mN:ϐ->ύ ϋ}{io:ϸ}{E:϶}{Q:ύ ϋ->ώ->Prop}
def vy(K:Ϗ):ϊ V->Hp->VK->Prop:=λxs H Q=>∃p ys,xs=[.ref p]/\SqL K H p ys/\∀l (ob:Obj),ob.dict=none->H l=none->Q (.ref l) (upd H l (.frz ob (.tup ys)))
theorem Ds{X:Cx}:bC X (.type "tuple") (vy X.K):=by
 intro a s i H xs us Q I r h;let#[p,ys,rfl,k,q]:=h;let#[u,rfl,m]:=vals1 r;cases m;let#[c,g,pl,hz]:=I.list k;have f:=↑g;show call_tuple_list pl.isList (λh' l=>?_) (by simp only[Í]<;>rfl');have d:Inv X a i H {s with heap:=h'}:=I.kept (t':=s.toks) l;have j:Inv X a i (upd H h'.objs.size (.frz {cls:=.type "tuple",data:=.seq c.toArray} (.tup ys))) {s with heap:=h'.push {cls:=.type "tuple",data:=.seq c.toArray}}:=d.laid (t':=s.toks) (λb o e=>Jn _ e) (Ç _) (show ObjOk X.prog X.w _ _ _ (.frz _ (.tup ys))from#[Heap.get?_push_size _ rfl,hz,c,g,IsTup.new _ _]);show#[.ref h'.objs.size,_,j,rfl,q _ _ rfl (d.hok.fresh (Ç _))]
theorem pI{X:Cx}(K:Ϗ)(a:X.K=K):bC X (.type "tuple") (vy K):=a▸Ds
def lA(K:Ϗ):ϊ V->Hp->VK->Prop:=λxs H Q=>∃(a:ό)(ob:Obj)(zs:ϊ (ό×ϐ×V)),xs=[.ref a]/\ob.dict=none/\H a=!(.frz ob (.tup (zs.map λz=>V.ref z.1)))/\(∀z∈zs,SqT K H z.1 [.str z.2.1,z.2.2])/\(zs.map (·.2.1)).Nodup/\↑zs<=1000/\∀r,H r=none->Q (.ref r) (upd H r (.dK (zs.map λz=>(Sum.inr z.2.1,z.2.2))))
theorem vA{X:Cx}(x:X.calm=true):bC X (.type "dict") (lA X.K):=by
 intro M s σ H xs us Q I r h;let#[a,ob,zs,rfl,C,G,hz,g,Y,q]:=h;let#[u,rfl,rx]:=vals1 r;cases rx;let#[J,f,ac,N,o',i,B,n,d]:=I.hok a _ G;rw[J]at i;cases i;have O:=pF N;subst O;have L:∀z∈zs,∃t k,RelV z.2.2 k/\∃o n,s.heap.get? z.1=!o/\o.cls=.type "tuple"/\o.data=.seq ([.str z.2.1 t,k].toArray) n:=λz m=>by
  let#[is,F,p1,_]:=I.tuple (hz z m);let#[o,Z,x,n,U]:=p1;cases F with|cons r2 rr=>
   let#[t,rfl]:=r2;cases rr with|cons r3 r4=>cases r4;show#[t,_,r3,o,n,Z,x,U]
 have A:∃c:ϊ (ό×ϋ×Key×ϋ),c.map (λw=>Value.ref w.1)=zs.map (λz=>Value.ref z.1)/\c.map (·.2.2.1)=zs.map (λz=>(Sum.inr z.2.1:Key))/\KV (zs.map λz=>((Sum.inr z.2.1:Key),z.2.2)) (c.map λw=>(w.2.2.1,w.2.2.2))/\∀w∈c,kh w.2.2.1 w.2.1=true/\∃o n,s.heap.get? w.1=!o/\o.cls=.type "tuple"/\o.data=.seq ([w.2.1,w.2.2.2].toArray) n:=by clear G g Y q N d hz f;induction zs with
  |nil=>show#[[],rfl,rfl,.nil,by simp]|cons z zs ih=>
   let#[c,j,l,p,v]:=ih λy my=>L y (Ì _ my);let#[t,k,F,o,n,P,R,S]:=L z Ë;show#[(z.1,.str z.2.1 t,Sum.inr z.2.1,k)::c,by rw[È,È,j],by rw[È,È,l],.cons #[rfl,F] p,λw E=>?_];rcases Å.mp E with rfl|E;.show #[qJ _ _,o,n,P,R,S]
   .show v w E
 let#[c,j,l,p,v]:=A;rw[<-j]at d;have D:↑c=↑zs:=by have:=Ô List.length j;rw[Qb,Qb]at this;show this
 show Sy.nG (knd:=b8 X.prog X.w) (I.ok.hd x) J B C d v (by rw[l,show(zs.map λz=>(Sum.inr z.2.1:Key))=(zs.map (·.2.1)).map Sum.inr by rw[Æ];rfl];show Ũ.mpr (œ (λ{a b} h e=>h (Ĝ e)) g)) (by rw[D,ø];rfl') λh' tk T W=>?_;show#[.ref _,_,I.laid (t':=tk) (o:=.dK (zs.map λz=>((Sum.inr z.2.1:Key),z.2.2))) W (Ç _) (show ObjOk X.prog X.w _ _ _ (.dK _)from#[by rw[Qb,ø];rfl',?_,_,p,T]),rfl,q _ (I.hok.fresh (Ç _))];show Ĺ.mpr (ġ I.big)
theorem lB{X:Cx}(K:Ϗ)(a:X.K=K)(b:X.calm=true):bC X (.type "dict") (lA K):=a▸vA b
structure Drw(prog:ϓ)(w:ϕ)(i l:ό)(xs:ϔ ϋ)(St:Nat->ϒ->Prop):Prop where
 keep:∀k h h',St k h->(∀c,c=i\/c=l->∀o,h.get? c=!o->h'.get? c=!o)->St k h'
 item:∀(A:ϖ)(s:ώ) k x (Q:϶) (E:϶),St k s.heap->xs[k]?=!x->(∀h',St (k+1) h'->Heap.SameBut i s.heap h'->Q x {s with heap:=h'})->wpAny (model prog w) A (Builtin.SmallTypes.nextOf (.ref i)) Q E s
 stop:∀(A:ϖ)(s:ώ) k (Q:϶) (E:϶),A.handled=none->St k s.heap->xs[k]?=none->(∀h' e,Heap.ExtBut i s.heap h'->(∃o,h'.get? e=!o/\o.cls=.type "StopIteration")->E (.ref e) {s with heap:=h'})->wpAny (model prog w) A (Builtin.SmallTypes.nextOf (.ref i)) Q E s
theorem Drw.but{l b:ό}{xs:ϔ ϋ}{St:Nat->ϒ->Prop}(D:Drw prog w i l xs St){k:Nat}{h:ϒ}(st:St k h)(e:Heap.ExtBut b h h')(d:i≠b)(f:l≠b):St k h':=D.keep k h h' st λc a o q=>e c o (by rcases a with rfl|rfl;show d;show f) q
theorem GZ(c:l≠i):Drw prog w i l xs λk h=>h.IsListIter i l k/\h.IsList l xs where
 keep:=λk h h' st f=>#[st.1.at λo e=>f i (.inl rfl) o e,st.2.at λo e=>f l (.inr rfl) o e]
 item:=λA s k x Q E st d j=>wpAny_nextOf_list_item st.1 st.2 d λh' a b=>j h' #[a,st.2.extBut b.extBut c] b
 stop:=λA s k Q E m st d g=>wpAny_nextOf_list_end m st.1 st.2 d g
theorem Mw(n:l≠i):Drw prog w i l xs λk h=>h.IsTupleIter i l k/\h.IsTuple l xs where
 keep:=λk h h' st u=>#[st.1.at λo e=>u i (.inl rfl) o e,by let#[o,e,q]:=st.2;show#[o,u l (.inr rfl) o e,q]]
 item:=λA s k x Q E st p y=>by let#[b,j]:=st;let#[o,d,r,c]:=id b;let#[C,g,_,B,f]:=id j;unfold Builtin.SmallTypes.nextOf;show Qr (wpAny_callSpecial?_slot (name:=Str.ofString "__next__") b.typeIs Ň (ê Ň b.typeIs F.entry_tuple_iterator_next ?_ (F.args_tuple_iterator_next_1 _)));show Qr (m:=field (.ref i) 0) (î d c (x:=.ref l) rfl ?_);change wpAny _ _ (if(Value.ref l==Value.none)=true then _ else _) _ _ s;rw[if_neg (by intro z;cases z)];show Qr (m:=field (.ref i) 1) (î d c (x:=.int k 0) rfl ?_);show Qr (m:=seqItems? (.ref l)) (ć g f ?_);simp only[à,p];show Qr (ń d c (by simp) (Xs #[x,rfl,Xs (y _ #[?_,j.extBut (ā ..).extBut n] (ā ..))]));show#[_,ï _ d (Ť (ĭ c _)),(Obj.cls_mapFields ..).trans r,by rw[ĭ c];simp[rawInt]]
 stop:=λA s k Q E t st p v=>by
  let#[b,j]:=st;let#[o,d,r,c]:=id b;let#[C,g,_,B,f]:=id j;unfold Builtin.SmallTypes.nextOf;show Qr (wpAny_callSpecial?_slot (name:=Str.ofString "__next__") b.typeIs Ň (ê Ň b.typeIs F.entry_tuple_iterator_next ?_ (F.args_tuple_iterator_next_1 _)));show Qr (m:=field (.ref i) 0) (î d c (x:=.ref l) rfl ?_);change wpAny _ _ (if(Value.ref l==Value.none)=true then _ else _) _ _ s;rw[if_neg (by intro z;cases z)];show Qr (m:=field (.ref i) 1) (î d c (x:=.int k 0) rfl ?_);show Qr (m:=seqItems? (.ref l)) (ć g f ?_);simp only[à,p];show Qr (ķ (Qr (ń d c (by simp) ?_)));show Qr (m:=newExc (.type "StopIteration") []) ?_;simp only[newExc,newTuple];show Qr (ð ?_ (by size_fits));show Qr (m:=firstArgMember _ _) (wpAny_of_eq (a:=Value.none) (by first|rfl|(simp only[firstArgMember];rfl)) ?_);show ð ?_ (by size_fits);simp only[raiseNew];show Qr (wpAny_handled ?_)
  first| rw[show A.in1.handled=none from t]| rw[t]
  show Qr (Xs (wpAny_throw (v _ _ (((ā ..).extBut.push _).push _) #[_,Ê _ rfl,rfl])))
section
variable{prog:ϓ}{w:ϕ}{A:ϖ}{E:϶}{s:ώ}{z TI TO i1 i2 l1 l2:ό}{k:Nat}{xs ys:ϔ ϋ}{S1 S2:Nat->ϒ->Prop}
theorem Dt{x y a:ϋ}(D:ZipApart z TI TO i1 i2 l1 l2)(f:Drw prog w i1 l1 xs S1)(g:Drw prog w i2 l2 ys S2)(hz:IsZip s.heap z TI TO .none) (C:IsPair s.heap TI (.ref i1) (.ref i2)) (G:IsPair s.heap TO a b) (h1:S1 k s.heap) (h2:S2 k s.heap) (hx:xs[k]?=!x) (hy:ys[k]?=!y)(hQ:∀h',IsZip h' z TI TO (rawInt s.heap.objs.size)->IsPair h' TO x y->S1 (k+1) h'->S2 (k+1) h'->IsPair h' s.heap.objs.size x y->(∀c o,c≠z->c≠TO->c≠i1->c≠i2->s.heap.get? c=!o->h'.get? c=!o)->Q (!(.ref s.heap.objs.size)) {s with heap:=h'}):wpAny (model prog w) A (pyNext (.ref z)) Q E s:=by
 have N:s.TypeIs (.ref z) "zip":=#[_,hz,rfl];unfold pyNext;show Qr (ľ (wpAny_callSpecial?_slot (name:=Str.ofString "__next__") N ι (ê ι N F.entry_zip_next ?_ (F.args_zip_next_1 _))));show Qr (m:=field (.ref z) 2) (î hz rfl (x:=.bool false) rfl ?_);show Qr (m:=field (.ref z) 3) (î hz rfl (x:=.ref TI) rfl ?_);show Qr (ć C rfl ?_);show Qr (m:=Builtin.SmallTypes.ownedTupleIsFree (.ref z)) ?_;unfold Builtin.SmallTypes.ownedTupleIsFree;show Qr (î hz rfl (x:=.none) rfl (Xs ?_));simp only[ı];show Qr (ķ ?_);show Qr (î hz rfl (x:=.ref TO) rfl ?_);show Qr (þ hz (by simp) λg1 y1 i=>?_);show Qr ?_;simp only[List.zipIdx_cons,List.zipIdx_nil,ö,ň];show Qr (Qr (Φ ?_));show Qr (m:=Builtin.SmallTypes.nextOf (.ref i1)) (f.item _ _ k x _ _ (f.but h1 i.extBut D.i1z D.l1z) hx λM r2 j=>Xs ?_);have O:IsPair M TO a b:=j.extBut _ _ D.TOi1 (i.extBut _ _ D.TOz G);have q2:S2 k M:=g.but (g.but h2 i.extBut D.i2z D.l2z) j.extBut D.i12.symm D.l2i1;show Qr (ć O rfl ?_);show Qr (Ω O λX K l=>?_);replace K:IsPair X TO x b:=K;show Qr (Ŕ (Xs ?_));show Qr (Qr (Φ ?_));show Qr (m:=Builtin.SmallTypes.nextOf (.ref i2)) (g.item _ _ k y _ _ (g.but q2 l.extBut D.TOi2.symm D.l2TO) hy λY r4 p=>Xs ?_);have P:IsPair Y TO x b:=p.extBut _ _ D.TOi2 K;show Qr (ć P rfl ?_);show Qr (Ω P λd v q=>?_);replace v:IsPair d TO x y:=v;show Qr (Ŕ (Xs (Xs ?_)));show Qr (ć v rfl ?_);show Qr (wpAny_newTuple ?_);have sz:d.objs.size=s.heap.objs.size:=by rw[q.1,p.1,l.1,j.1,i.1]
 have U:IsZip d z TI TO .ellipsis:=q.extBut _ _ D.TOz.symm (p.extBut _ _ D.i2z.symm (l.extBut _ _ D.TOz.symm (j.extBut _ _ D.i1z.symm y1)));have W:∀c o,c≠z->c≠TO->c≠i1->c≠i2->s.heap.get? c=!o->d.get? c=!o:=λc o t u I J e=>q.extBut _ _ u (p.extBut _ _ J (l.extBut _ _ u (j.extBut _ _ I (i.extBut _ _ t e))));have r5:S1 (k+1) d:=f.but (f.but (f.but r2 l.extBut D.TOi1.symm D.l1TO) p.extBut D.i12 D.l1i2) q.extBut D.TOi1.symm D.l1TO;have p5:S2 (k+1) d:=g.but r4 q.extBut D.TOi2.symm D.l2TO;have h:z<d.objs.size:=É U;show Qr (m:=Builtin.SmallTypes.ownedTupleHandOut (.ref z) (.ref d.objs.size)) ?_;unfold Builtin.SmallTypes.ownedTupleHandOut;show Qr (þ (show IsZip (d.push {cls:=.type "tuple",data:=.seq ([x,y].toArray)}) z TI TO .ellipsis from Jn _ U) (by simp) λZ L R=>?_);replace L:IsZip Z z TI TO (rawInt d.objs.size):=L;show þ L (by simp) λr B S=>?_;replace B:IsZip r z TI TO (rawInt d.objs.size):=B;have up:∀c o,c≠z->d.get? c=!o->r.get? c=!o:=λc o n e=>S.extBut _ _ n (R.extBut _ _ n (Jn _ e));have T:IsPair r d.objs.size x y:=S.extBut _ _ (ġ h) (R.extBut _ _ (ġ h) (Ê _ rfl));rw[sz]at B T;show Xs #[_,rfl,Xs ?_];change Q (!(.ref d.objs.size)) _;rw[sz];show hQ r B (up _ _ D.TOz v) (f.keep _ _ _ r5 λc H o e=>up c o (by rcases H with rfl|rfl;show D.i1z;show D.l1z) e) (g.keep _ _ _ p5 λc H o e=>up c o (by rcases H with rfl|rfl;show D.i2z;show D.l2z) e) T λc o t u I J e=>up c o t (W c o t u I J e)
theorem Ha{a:ϋ}(J:A.handled=none)(D:ZipApart z TI TO i1 i2 l1 l2)(v:Drw prog w i1 l1 xs S1)(r:Drw prog w i2 l2 ys S2)
  (hz:IsZip s.heap z TI TO .none) (y:IsPair s.heap TI (.ref i1) (.ref i2)) (B:IsPair s.heap TO a b) (U:S1 k s.heap) (W:S2 k s.heap) (l:xs[k]?=none\/ys[k]?=none)(X:∀h',(∀c o,c≠z->c≠TO->c≠i1->c≠i2->s.heap.get? c=!o->h'.get? c=!o)->Q none {s with heap:=h'}):wpAny (model prog w) A (pyNext (.ref z)) Q E s:=by
 have I:s.TypeIs (.ref z) "zip":=#[_,hz,rfl];have fin:∀h' e,(∀c o,c≠z->c≠TO->c≠i1->c≠i2->s.heap.get? c=!o->h'.get? c=!o)->(∃o,h'.get? e=!o/\o.cls=.type "StopIteration")->wpAny (model prog w) A (do if <-isInstance (.ref e) (.type "StopIteration")then pure none else throw (.ref e):Sem (ύ ϋ)) Q E {s with heap:=h'}:=λh' e kk j=>by let#[o,Z,Y]:=j;show Qr (ŀ (T:="StopIteration") (b:=true) #[o,Z,Y] isSubtype_stop (Xs (X _ kk)))
 unfold pyNext;show Qr (ľ (wpAny_callSpecial?_slot (name:=Str.ofString "__next__") I ι (ê ι I F.entry_zip_next ?_ (F.args_zip_next_1 _))));show Qr (m:=field (.ref z) 2) (î hz rfl (x:=.bool false) rfl ?_);show Qr (m:=field (.ref z) 3) (î hz rfl (x:=.ref TI) rfl ?_);show Qr (ć y rfl ?_);show Qr (m:=Builtin.SmallTypes.ownedTupleIsFree (.ref z)) ?_;unfold Builtin.SmallTypes.ownedTupleIsFree;show Qr (î hz rfl (x:=.none) rfl (Xs ?_));simp only[ı];show Qr (ķ ?_);show Qr (î hz rfl (x:=.ref TO) rfl ?_);show Qr (þ hz (by simp) λG u p=>?_);show Qr ?_;simp only[List.zipIdx_cons,List.zipIdx_nil,ö,ň];show Qr (Qr (Φ ?_));replace u:IsZip G z TI TO .ellipsis:=u;have L:S1 k G:=v.but U p.extBut D.i1z D.l1z;cases hx:xs[k]?with
 |none=>
  show Qr (m:=Builtin.SmallTypes.nextOf (.ref i1)) (v.stop _ _ k _ _ J L hx λt e h j=>?_);let#[oe,d,f]:=j;have O:IsZip t z TI TO .ellipsis:=h _ _ D.i1z.symm u;have g:e≠z:=λq=>by subst q;rw[O]at d;cases d;simp at f
  show þ O (by simp) λH _ i=>fin H e (λc o n _ C _ q=>i.extBut _ _ n (h _ _ C (p.extBut _ _ n q))) #[oe,i.extBut _ _ g d,f]|some x=>
  have hy:ys[k]?=none:=by rcases l with q|q;rw[hx]at q;cases q;show q
  show Qr (m:=Builtin.SmallTypes.nextOf (.ref i1)) (v.item _ _ k x _ _ L hx λt r2 h=>Xs ?_);have K:IsPair t TO a b:=h.extBut _ _ D.TOi1 (p.extBut _ _ D.TOz B);have q2:S2 k t:=r.but (r.but W p.extBut D.i2z D.l2z) h.extBut D.i12.symm D.l2i1;show Qr (ć K rfl ?_);show Qr (Ω K λH o3 i=>?_);show Qr (Ŕ (Xs ?_));show Qr (Qr (Φ ?_));show Qr (m:=Builtin.SmallTypes.nextOf (.ref i2)) (r.stop _ _ k _ _ J (r.but q2 i.extBut D.TOi2.symm D.l2TO) hy λR e M j=>?_);let#[oe,d,f]:=j;have P:IsZip R z TI TO .ellipsis:=M _ _ D.i2z.symm (i.extBut _ _ D.TOz.symm (h.extBut _ _ D.i1z.symm u));have g:e≠z:=λq=>by subst q;rw[P]at d;cases d;simp at f
  show þ P (by simp) λS _ N=>fin S e (λc o n n2 C n4 q=>N.extBut _ _ n (M _ _ n4 (i.extBut _ _ n2 (h.extBut _ _ C (p.extBut _ _ n q))))) #[oe,N.extBut _ _ g d,f]
end
abbrev Zj(h:ϒ)(j1:Obj):ϒ:=h.push j1
abbrev Zk(h:ϒ)(j1 j2:Obj):ϒ:=(Zj h j1).push j2
abbrev Zm(h:ϒ)(j1 j2:Obj):ϒ:=(Zk h j1 j2).push {cls:=.type "tuple",data:=.seq ([.ref h.objs.size,.ref (Zj h j1).objs.size].toArray)}
abbrev Zn(h:ϒ)(j1 j2:Obj):ϒ:=(Zm h j1 j2).push {cls:=.type "tuple",data:=.seq ([.none,.none].toArray)}
abbrev Wc(h:ϒ)(j1 j2:Obj):ϒ:=(Zn h j1 j2).push {cls:=.type "zip",data:=.fields ([.none,.bool false,.bool false,.ref (Zk h j1 j2).objs.size,.ref (Zm h j1 j2).objs.size].toArray)}
abbrev vB(l:ό):Obj:={cls:=.type "tuple_iterator",data:=.fields ([.ref l,.int 0 0].toArray)}
theorem m8{h:ϒ}{c:ό}{o o':Obj}(e:h.get? a=!o)(b:h.get? c=!o')(n:o.cls≠o'.cls):a≠c:=λq=>by subst q;rw[e]at b;cases b;show n rfl
noncomputable def Mx(lo:Int)(n:Nat):It:=#[λi _=>i<n,λi H x H'=>H'=H/\x=.int (lo-i),λi _=>n<=i]
theorem vC{P:ϓ}{K:Ϗ}(a:ό)(lo:Int)(n:Nat):Turn P w K tg (Mx lo n) [a] a (λi h=>IsRangeIter h a (lo+(i:Nat)*(-1)) ((n:Int)-(i:Nat)) (-1))where
 mem:=by simp
 obj:=λi h st b d=>by
  have e:b=a:=by simpa using d
  subst e;show⟨_,st,λv z=>by
   have M:Data.fields _=Data.cell v:=z;cases M⟩
 keep:=λi h h' st k=>k a (by simp) _ st
 item:=by
  intro X u A r x i c s C H E I g st y;subst u A r;let#[j,l,G,m,p,q]:=g a (by simp);have W:=Walks.range (prog:=X.prog) (w:=X.w) (I.ok.hd x) a lo (-1) n;show W.item i s _ _ y st λv h' B J f L=>?_;let#[t,rfl]:=J;have D:Inv X c C H {s with heap:=h',toks:=B}:=I.turned (λb o d e=>L b o (by simpa using d) e) j l m p q;show⟨_,rfl,oF (s:={s with heap:=h',toks:=B}) (n:="range_iterator") f rfl rfl (by decide) ⟨.int (lo-i),H,D,⟨t,?_⟩,⟨rfl,rfl⟩,f,λb d=>(g b d).1⟩⟩;rw[show lo+(i:Int)*(-1)=lo-(i:Int)by rfl']
 done:=by intro X u A r x i c s C H E I g st y;subst u A r;let#[j,l,G,m,p,q]:=g a (by simp);show wpAny_pyNext_range_end (I.ok.hd x) st (by have:n<=i:=y;rfl') λh' F=>#[rfl,I.turned (t':=s.toks) (λb o d e=>F b o d e) j l m p q]
 self:=λ_ _ _ _ _ st h=>wpAny_pyIter_rangeiter st h
theorem lC(a b:Int):Builtin.Range.rangeSize a b (-1)=if a>b then a-b else 0:=by unfold Builtin.Range.rangeSize;simp only[show¬((-1:Int)>0)by decide,ý,Int.neg_neg,Int.ediv_one];split<;>rfl'
theorem Hd{a b:Int}(e:-(2^62)<=a)(c:a<2^62)(f:-(2^62)<=b)(d:b<2^62):Builtin.Range.small a b (-1)=true:=by unfold Builtin.Range.small;rw[lC];simp only[Builtin.Range.rangeFitsLong,ù,Bool.or_eq_true,decide_eq_true_eq,beq_iff_eq,show¬((-1:Int)>0)by decide,ý];split<;>rfl'
def Hf(ta:TA):TI:=λσ H R=>ta σ H λvs H1=>∃i j:Int,vs=[.int i,.int j,.int (-1)]/\(-(2^62)<=i/\i<2^62/\-(2^62)<=j/\j<2^62)/\R (Mx i (i-j).toNat) H1
theorem Du{X:Cx}{lo a:Int}{v:Tok}{d:Nat}(I:Inv X io σ H s)(h:-(2^62)<=lo)(i:lo<2^62)(j:-(2^62)<=a)(k:a<2^62)(q:R (Mx lo (lo-a).toNat) H):wpAny (model X.prog X.w) X.A (pyIter (.ref s.heap.objs.size)) (PIE X io σ tg R) E {s with heap:=s.heap.push {cls:=.type "range",data:=.fields ([.int lo t,.int a u,.int (-1) v].toArray)},toks:=d}:=by
 show wpAny_pyIter_range (IsRange.new ..) (Hd h i j k) ?_;have c:Inv X io σ H {s with heap:=s.heap.push {cls:=.type "range",data:=.fields ([.int lo t,.int a u,.int (-1) v].toArray)},toks:=d}:=I.kept λb o e=>Jn _ e;show⟨(s.heap.push {cls:=.type "range",data:=.fields ([.int lo t,.int a u,.int (-1) v].toArray)}).objs.size,[(s.heap.push {cls:=.type "range",data:=.fields ([.int lo t,.int a u,.int (-1) v].toArray)}).objs.size],_,_,H,rfl,c.kept (t':=d) λb o e=>Jn _ e,vC _ lo (lo-a).toNat,?_,λb l=>?_,q⟩
 .have f:lo+((0:Nat):Int)*(-1)=lo:=by simp
  have g:(((lo-a).toNat:Nat):Int)-((0:Nat):Int)=Builtin.Range.rangeSize lo a (-1):=by rw[lC];split<;>rfl'
  change IsRangeIter _ _ (lo+((0:Nat):Int)*(-1)) ((((lo-a).toNat:Nat):Int)-((0:Nat):Int)) (-1);rw[f,g];show Ê _ rfl
 .have e:b=(s.heap.push {cls:=.type "range",data:=.fields ([.int lo t,.int a u,.int (-1) v].toArray)}).objs.size:=by simpa using l
  subst e;show c.fpOk (Ç _) (c.hok.fresh (Ç _))
theorem Dv{X:Cx}{a b c:Expr}(n:Gl X "range")(o:X.mg "range"=none)(m:PA X [a,b,c] k)(u:starEach [a,b,c] X.env=[(false,eval a X.env),(false,eval b X.env),(false,eval c X.env)]:=by rfl)(d:starEach [b,c] X.env=[(false,eval b X.env),(false,eval c X.env)]:=by rfl):PI X tg (.Call (.Name "range" p) [a,b,c] [] pos) (Hf k):=by
 intro f s A H R I h;show Call_ (jb I n o boot_range (ğ (bu (m pos f s A H _ I h) λus C ⟨vs,B,l,y,g⟩=>?_) (by rw[u,d]) (by rw[d];rfl)));let#[i,j,e,#[g,v,w,x],q]:=g;subst e;cases y with
 |cons r rr=>cases rr with|cons r' rr=>cases rr with|cons r'' rr=>cases rr;let#[t,rfl]:=r;let#[t',rfl]:=r';let#[z,rfl]:=r'';show call_range_3 (by decide) (Du l g v w x q) (.inl (PyProof.noPylong_small (by decide)))
theorem m9(l:ό)(c:ϔ ϋ)(n:Nat)(b:ό)(a:ϔ ϋ)(p:Nat)(k:ύ ό)(q:ϔ (ύ ϋ))(o:¬(not c.isEmpty&&Builtin.List.listTooLong (c.size+a.size))=true)(e:c.size<=sizeLine)(f:c.size+a.size<=sizeLine+1):Meets (Builtin.«list.extend» #[[.ref l,.ref b],[]]) (λ_ R s=>s.heap.get? l=!{cls:=.type "list",data:=.seq c n}/\s.heap.get? b=!{cls:=.type "tuple",dict:=k,data:=.seq a p,slots:=q}/\R (.ok (.ret Value.none)) {s with heap:=s.heap.update l (Obj.mapSeq λx=>x++a),toks:=s.toks}):=
 .of_wp λprog w A R s h=>by
  let#[y,g,d,B,z]:=s;let#[j,m,h]:=h;have r:=sub_tuple_tuple;have t:=sub_list_list;have u:=sub_tuple_list;have v:=sub_list_tuple;have i:(c++a).size<=sizeLine+1:=by rw[Array.size_append];show f
  wp_walk using(ν j rfl (hz:=e) (_hz':=i)),wpAny_loadPart' j,wpAny_loadPart' m;show#[_,rfl,h]
def lD(K:Ϗ):V->ϊ V->Hp->VK->Prop:=λx vs H Q=>∃l b xs zs,x=.ref l/\vs=[.ref b]/\H l=!(.lst xs)/\SqT K H b zs/\↑xs+↑zs<=sizeLine/\Q .non (upd H l (.lst (xs++zs)))
theorem xR{X:Cx}:Wb X "list.extend" (lD X.K):=by
 intro g s M H x vs v us Q I B A h;let#[l,b,xs,zs,rfl,rfl,f,p,hz,q]:=h;cases B;let#[u,rfl,y]:=A.one;cases y;let#[z,c,n,r,C,e]:=I.lstM f;let#[a,i,#[o,m,j,w,k],L]:=I.tuple p;have t:=↑i;let#[E,G,D,J]:=o;cases j;cases k;have hsz:c.toArray.size+a.toArray.size<=sizeLine:=by rw[Í,Í];rfl'
 have d:¬(not c.toArray.isEmpty&&Builtin.List.listTooLong (c.toArray.size+a.toArray.size))=true:=by rw[uR hsz,Bool.and_false];show Î
 show Ÿ F.slot_list_extend #[_,e,rfl] F.entry_list_extend (F.args_list_extend_2 _ _)
  (m9 l c.toArray n b a.toArray w _ _ d (by rw[Í];rfl') ()) #[e,m,?_];show#[.non,_,I.lset (its':=c++a) f e (by simp) (r.append i) ?_,rfl,q];rw[Â];rfl'
theorem vD{X:Cx}(K:Ϗ)(a:X.K=K):Wb X "list.extend" (lD K):=a▸xR
section
theorem HOk.freezeK(x:HOk P w H h)(g:H a=!(.dK kvs))(j:h.get? a=!od):HOk P w (upd H a (.frz od (.dK kvs))) h:=by
 have d:∀c y,H c=!(.own y)->upd H a (.frz od (.dK kvs)) c=!(.own y):=λc y q=>by rw[ak (bA q g (by intro z;cases z))];show q
 have f:∀c xs,H c=!(.tup xs)->upd H a (.frz od (.dK kvs)) c=!(.tup xs):=λc xs q=>by rw[ak (bA q g (by intro z;cases z))];show q
 intro b u e;by_cases i:b=a
 .rw [i]at e⊢;rw[aa]at e;cases e;show#[j,(x a _ g).stay (λc v _ q=>q) (λc q=>d c _ q) λc xs q=>f c xs q]
 .rw [ak i]at e;show(x b u e).stay (λc v _ q=>q) (λc q=>d c _ q) λc xs q=>f c xs q
theorem pairs_at:∀{es:ϊ DictEntry}{us:ϊ (Key×ϋ)}(i:Nat)(e:DictEntry),Pairs knd es us->es[i]?=!e->∃u,us[i]?=!u/\knd.is u.1 e.key=true
 |_,_,0,e,.cons r _ _,h=>by simp only[List.getElem?_cons_zero,Option.some.injEq]at h;subst h;show#[_,rfl,r]|_,_,i+1,e,.cons _ _ t,h=>by simp only[List.getElem?_cons_succ]at h;let#[u,a,b]:=pairs_at i e t h;show#[u,by simpa using a,b]
theorem pairs_len:∀{es:ϊ DictEntry}{us:ϊ (Key×ϋ)},Pairs knd es us->↑es=↑us
 |_,_,.nil=>rfl|_,_,.cons _ _ t=>by simp only[ô,pairs_len t]
end
theorem My(h:kh k v=true):RelV (kV k) v:=by
 rcases b7 h with⟨i,t,rfl,rfl⟩|⟨x,t,rfl,rfl⟩;.show #[t,rfl]
 .show #[t,rfl]
theorem Inv.freezeK{X:Cx}(I:Inv X io σ H s)(c:H a=!(.dK kvs))(e:s.heap.get? a=!d):Inv X io σ (upd H a (.frz d (.dK kvs))) s:=by
 show I.call' (ch:=[]) rfl #[λb o q _ _ _=>q,λb o q _ _ _=>#[o.slots,q],λb o q n _=>?_,λb o q _=>#[o,q],λb xs q=>?_,λb o u q=>?_,λb ps q=>#[([].toArray),?_]] (I.hok.freezeK c e) I.bare λb f=>nomatch f;.rw [ak (λz=>by rw[z,c]at n;cases n)];show n
 .rw [ak (bA q c (by intro z;cases z))];show q
 .rw [ak (bA q c (by intro z;cases z))];show q
 .rw [ak (bA q c (by intro z;cases z)),q];simp
noncomputable def xT(od:Obj)(a:ό):It where
 go:=λi H=>∃kvs,H a=!(.frz od (.dK kvs))/\i<↑kvs
 yld:=λi H v H'=>H'=H/\∀kvs,H a=!(.frz od (.dK kvs))->∃k x,kvs[i]?=!(k,x)/\v=kV k
 stop:=λi H=>∃kvs,H a=!(.frz od (.dK kvs))/\↑kvs<=i
theorem pJ{P:ϓ}{K:Ϗ}(m a:ό){F:Obj}{es:ϔ DictEntry}{ep:Nat}(f:F.data=.dict es ep):Turn P w K tg (xT F a) [m] m (λi h=>h.IsKeyIter m a i es.size ep)where
 mem:=by simp
 obj:=λi h st b l=>by
  let#[o,e,c,d]:=st;have e':b=m:=by simpa using l
  rw[e'];show#[o,e,λv z=>by rw[d]at z;cases z]
 keep:=λi h h' st k=>by let#[o,e,r]:=st;show#[o,k m (by simp) o e,r]
 item:=by
  intro X S Z R hc i j s σ H E I D st Y;subst S Z R;let#[kvs,C,hi]:=Y;let#[t,_,_,us,g,o,J,G,n,_,p,_,B,_]:=(show ObjOk X.prog X.w H s.heap a (.frz F (.dK kvs))from I.hok a _ C);rw[t]at n;cases n;rw[f]at p;cases p;have hsz:es.size=↑us:=by rw[<-Ā];show pairs_len B
  have hl:↑kvs=↑us:=ď g;let#[L,M,f2,N,O,Q]:=D m (by simp);show pD st t f () λh' A hs=>?_;have I1:Inv X j σ H {s with heap:=h',toks:=s.toks}:=I.turned (λb o l e=>hs.extBut b o l e) L M N O Q;let#[o,e,T,d]:=id A;let#[#[k,x],#[k',y],hk,hx,r1,_]:=il i g hi;have U:RelV (kV k) (es[i]'(by rfl')).key:=by
   let#[u,h1,h2]:=pairs_at i (es[i]'(by rfl')) B (by rw[ÿ,ē]);rw[hx]at h1
   cases h1;rw[iB]at h2;rw[show k=k' from r1];show My h2
  show⟨_,rfl,oF (s:={s with heap:=h'}) e T d (by decide) ⟨kV k,H,I1,U,⟨rfl,λac q=>?_⟩,A,λb l=>(D b l).1⟩⟩;rw[C]at q;cases q;show#[k,x,hk,rfl]
 done:=by
  intro X S Z R hc i j s σ H E I D st Y;subst S Z R;let#[kvs,C,hi]:=Y;let#[t,_,_,us,g,o,J,G,n,_,p,_,B,_]:=(show ObjOk X.prog X.w H s.heap a (.frz F (.dK kvs))from I.hok a _ C);rw[t]at n;cases n;rw[f]at p;cases p;have hsz:es.size=↑us:=by rw[<-Ā];show pairs_len B
  have hl:↑kvs=↑us:=ď g;let#[L,M,f2,N,O,Q]:=D m (by simp);show tD (I.ok.hd hc) st t f () λh' kk=>#[rfl,I.turned (t':=s.toks) (λb o l e=>kk b o l e) L M N O Q]
 self:=λ_ _ _ _ _ st h=>δ st h
def tM(tl:TE):TI:=λσ H R=>tl σ H λx H1=>∃a kvs,x=.ref a/\((H1 a=!(.dK kvs)/\∀od,R (xT od a) (upd H1 a (.frz od (.dK kvs))))\/∃od,H1 a=!(.frz od (.dK kvs))/\R (xT od a) H1)
theorem vG{X:Cx}(z:PE X l u):PI X tg l (tM u):=by
 intro j s C H R I h;show bu (z j s C H _ I h) λv c ⟨x,t,f,B,A⟩=>?_;let#[a,kvs,rfl,q]:=A;cases B;rcases q with⟨ea,q⟩|⟨od,ea,q⟩;.obtain ⟨_,d,us,r,o,es,ep,g,n,i,_,y,_⟩:=(show ObjOk X.prog X.w t c.heap a (.dK kvs)from f.hok a _ ea);show lg d #[o,g,n.1] g i ?_;have k:=f.freezeK ea g;show#[c.heap.objs.size,[c.heap.objs.size],_,_,_,rfl,k.kept (t':=c.toks) λb o e=>Jn _ e,pJ _ a i,#[_,Ê _ rfl,rfl,rfl],λb p=>?_,q o];rw[Zl.mp p];show k.fpOk (Ç _) (k.hok.fresh (Ç _))
 .obtain ⟨m,_,d,us,r,o,es,ep,g,n,i,_,y,_⟩:=(show ObjOk X.prog X.w t c.heap a (.frz od (.dK kvs))from f.hok a _ ea);rw[m]at g;cases g;show lg d #[od,m,n.1] m i ?_;show#[c.heap.objs.size,[c.heap.objs.size],_,_,_,rfl,f.kept (t':=c.toks) λb o e=>Jn _ e,pJ _ a i,#[_,Ê _ rfl,rfl,rfl],λb p=>?_,q];rw[Zl.mp p];show f.fpOk (Ç _) (f.hok.fresh (Ç _))
def vH(B:ϒ)(l:ϊ Env)(x:ό)(C a0:ϋ)(h:ϒ):Prop:=B.StaysIn h/\B.get? x=none/\h.FunFrames B l/\∃fl,h.TracedAtW B x C a0 fl
section
variable{M:Model}{A:ϖ}{E:϶}{s:ώ}{B:ϒ}{env env':Env}{l outer:ϊ Env}{L x:ό}{C a0:ϋ}{Q:Unit->ώ->Prop}
theorem Dw(n:A.frames=!(env::outer))(z:env.frame=!L)(a:vH B (env::outer) x C a0 s.heap)(v:∀h',vH B (env::outer) x C a0 h'->s.heap.UpToSlots h'->Q Unit.unit {s with heap:=h'}):wpAny M A (noteFrame (.ref x) env) Q E s:=by
 let#[p,j,G,D,oe,vs,T,O,H,y,#[i,F],w,t,r,m,l,h,u]:=id a;subst i;unfold noteFrame;simp only[z];show Qr (î y w t ?_);rw[if_pos (show(Value.ref T !=Value.none)=true from by simp)];show Qr (î l h u ?_);by_cases k:(D==rawInt L)=true;.rw [if_pos k];show Xs (v s.heap a (Heap.UpToSlots.refl _))
 .rw [if_neg k];show Qr (ń l h (Ŋ.mp u).1 ?_);have d:∀b,b≠T->(s.heap.update T (Obj.mapFields (·.setIfInBounds 3 Value.none))).get? b=s.heap.get? b:=λb f=>ó _ _ (Ne.symm f);have c:∀b o,s.heap.get? b=!o->(∀vs,o.data≠.fields vs)->b≠T:=λb o f e q=>by rw[q,l]at f;injection f with f;subst f;show e H h
  show wpAny_entryW n (G.of_keeps λb o f e=>#[o,(d b (c b o f e)).trans f,rfl]) z ((d x (Ne.symm m)).trans y)
   (λb o g=>(d b λq=>by rw[q,r]at g;cases g).trans (p b o g)) j w (Ŋ.mp t).1 F λh' ⟨I,J,K,N⟩=>v h' #[I,j,J,_,K] λb o f e=>N b o ((d b (c b o f e)).trans f) e
theorem vI(a:vH B l x C a0 s.heap)(D:∀h',vH B l x C a0 h'->s.heap.UpToSlots h'->Q Unit.unit {s with heap:=h'}):wpAny M A (setFlight (.ref x) fr) Q E s:=by
 let#[t,r,F,G,oe,vs,T,H,y,w,m,v,u,n,k,p,h,z]:=a;have i:3<y.size:=(Ŋ.mp z).1;have d:∀b,b≠T->(s.heap.update T (Obj.mapFields (·.setIfInBounds 3 (fr.elim Value.none λf=>rawInt f)))).get? b=s.heap.get? b:=λb e=>ó _ _ (Ne.symm e);have c:∀b o,s.heap.get? b=!o->(∀vs,o.data≠.fields vs)->b≠T:=λb o e g q=>by
  rw[q,p]at e;injection e with e;subst e;show g y h
 unfold setFlight;show Qr (î w v u ?_);rw[if_pos (show(Value.ref T !=Value.none)=true from by simp)];show ń p h i (D _ ⟨λb o j=>(d b λq=>by rw[q,n]at j;cases j).trans (t b o j),r,F.of_keeps λb o e g=>⟨o,(d b (c b o e g)).trans e,rfl⟩,(fr.elim Value.none λf=>rawInt f),?_⟩ λb o e g=>⟨o.slots,(d b (c b o e g)).trans e⟩);show#[oe,vs,T,_,_,(d x (Ne.symm k)).trans w,m,v,u,n,k,ï _ p (Ť (ĭ h _)),ĭ h _,by simp[i]]
theorem Dy(d:A.frames=!(env::outer))(i:env.frame=!L)(a:vH B (env::outer) x C a0 s.heap)(g:∀h',Heap.FlyingW B outer x C a0 h'->s.heap.UpToSlots h'->Q Unit.unit {s with heap:=h'}):wpAny M A (leaving env (.ref x)) Q E s:=by
 unfold leaving;show Qr (Dw d i a λp f m=>?_);let#[e,c,j,n,t]:=f;show wpAny_setFlight_noneW e j t λh' k1 k2 k3 l=>?_;let#[_,_,k2]:=k2;show g h' #[k1,c,k2,k3] (m.trans λb o h k=>#[o.slots,l b o h k])
end
def Hg(B:ϒ)(l:ϊ Env)(x:ό)(C a0:ϋ)(h:ϒ):Prop:=vH B l x C a0 h/\Cn x h
structure Air(P:ϓ)(w:ϕ)(fp:ϊ ό)(outer:ϊ Env)(H:Hp)(s:ώ)(E:XK)(x:ό)(C a0:ϋ)(B:ϒ)(H':Hp)(s':ώ):Prop where
 os:s'.os=s.os
 bare:AllBare s'.gens
 un:Un (frs outer) fp H H' s.heap s'.heap
 hok:HOk P w H' s'.heap
 nx:H' x=none
 air:Hg B outer x C a0 s'.heap
 new:x∈fp\/s.heap.get? x=none
 d1:∀b o,s.heap.get? b=!o->b∉frs outer->b∉fp->∃u,B.get? b=!u
 d2:∀b o,H' b=!o->∃u,B.get? b=!u
 ex:E C none H'
section
variable{P:ϓ}{w:ϕ}{K:Ϗ}{mg:ϐ->ύ ϋ}{base:ϒ}{N:ϊ ϐ}{qual:ϐ}{sc:Scope}{f:ό}{cd:ϋ}{A:ϖ}{outer:ϊ Env}{s₀:ώ}{H₀:Hp}{E:XK}
def R3(X:Cx)(E:XK):Prop:=∀(io:ϸ)(σ:St)(H:Hp)(s s':ώ)(fp:ϊ ό)(x:ό)(C a0:ϋ)(B:ϒ)(H':Hp),Inv X io σ H s->(∀b∈fp,b∈X.ex\/X.s₀.heap.objs.size<=b)->Air X.prog X.w fp X.stack H s E x C a0 B H' s'->X.xe (.ref x) s'
theorem vJ:R3 (jT (m5 P w) P w K mg base N qual sc f cd A outer s₀ H₀ E) E:=by
 intro Z σ H s s' M x C a0 B U I Q a;have fr:(A.deeper (envOfC qual sc s₀.heap.objs.size f cd)).frames=!(envOfC qual sc s₀.heap.objs.size f cd::outer):=I.ok.frames;have u:Un (frs outer) [] H₀ H s₀.heap s.heap:=I.base;have un:Un (frs (envOfC qual sc s₀.heap.objs.size f cd::outer)) M H U s.heap s'.heap:=a.un;have G:Hg B (envOfC qual sc s₀.heap.objs.size f cd::outer) x C a0 s'.heap:=a.air;have J:∀b o,s.heap.get? b=!o->b∉frs (envOfC qual sc s₀.heap.objs.size f cd::outer)->b∉M->∃u,B.get? b=!u:=a.d1;have i:∀b o,s₀.heap.get? b=!o->b∉M:=λb o e h=>by
  rcases Q b h with z|z;.cases z
  .show absurd (É e) (Nat.not_lt.mpr z)
 change wpAny (model P w) (A.deeper (envOfC qual sc s₀.heap.objs.size f cd)) (leaving (envOfC qual sc s₀.heap.objs.size f cd) (.ref x)) (λ_ l=>m5 P w outer H₀ s₀ E (.ref x) l) (λF l=>m5 P w outer H₀ s₀ E F l) s';show CX1.leaves G.2 ?_;show Dy fr rfl G.1 λr p up=>?_;have S:∀b o,s₀.heap.get? b=!o->b∉frs outer->b∉frs (envOfC qual sc s₀.heap.objs.size f cd::outer):=λb o e h W=>by
  rw[ig]at W;rcases Å.mp W with z|z;.show absurd (É e) (by rw[z];show ă _)
  .show h z
 have k:∀b o,s'.heap.get? b=!o->(∃v,B.get? b=!v)->r.get? b=!o:=λb o e ⟨v,X⟩=>by
  have z:=G.1.1 b v X;rw[e]at z;cases z;show p.1 b o X
 have slots:∀b o,s'.heap.get? b=!o->b∈frs (envOfC qual sc s₀.heap.objs.size f cd::outer)->∃T,r.get? b=!{o with slots:=T}:=λb o e h=>by let#[_,o',F,hd]:=G.1.2.2.1.mem h;rw[e]at F;cases F;show up b o e hd
 show#[C,a0,B,U,a.os.trans I.os,a.bare,#[λb o q n h g=>?_,λb o q n h g=>?_,λb o q n g=>?_,λb o q g=>?_,λb xs q=>un.tups b xs (u.tups b xs q),λb o v q=>un.frzs b o v (u.frzs b o v q),λb ps q=>?_],λc o e=>?_,a.nx,p,?_,λb o q h=>?_,a.d2,a.ex];.have j:=u.keep b o q n h g;have R:=u.free b o q n g;show k b o (un.keep b o j R (S b o q h) (i b o q)) (J b o j (S b o q h) (i b o q))
 .obtain ⟨T,j⟩:=u.slot b o q n h g;have R:=u.free b o q n g;have t:b∈frs (envOfC qual sc s₀.heap.objs.size f cd::outer):=by rw[ig];show Ì _ h
  let#[ac,m]:=un.slot b _ j R t (i b o q);let#[D,L]:=slots b _ m t;show#[D,L]
 .obtain ⟨o',j⟩:=u.there b o q g;show un.free b o' j (u.free b o q n g) (i b o q)
 .obtain ⟨o',j⟩:=u.there b o q g;let#[Y,m]:=un.there b o' j (i b o q);by_cases h:b∈frs (envOfC qual sc s₀.heap.objs.size f cd::outer);.obtain ⟨T,L⟩:=slots b Y m h;show#[_,L]
  .show #[_,k b Y m (J b o' j h (i b o q))]
 .obtain ⟨m1,j⟩:=u.tbls b ps q;let#[m2,m]:=un.tbls b _ j;show#[m1++m2,by rw[m,Array.append_assoc]]
 .show (a.hok c o e).stay (λd v O z=>k d v z ?_) (λ_ z=>z) λ_ _ z=>z;rcases O with rfl|O;.show a.d2 _ _ e
  .show a.d2 _ _ O
 .cases z:s₀.heap.get? x with
  |none=>rfl|some o=>
   let#[o',j]:=u.there x o z (by simp);rcases a.new with y|y;.show absurd y (i x o z)
   .rw [y]at j;cases j
 .obtain ⟨o',j⟩:=u.there b o q (by simp);show J b o' j (S b o q h) (i b o q)
end
theorem jN:entryFor table "proto.unchain"=some Builtin.«proto.unchain»:=entryFor_of_fast (by kernel_rfl)
theorem Ch.keepsM:∀{l:ϊ ό},(∀y∈l,∀v,F2 h y v->F2 h' y v)->Ch h l->Ch h' l
 |[_],k,c=>k _ Ë _ c|_::_::_,k,c=>#[k _ Ë _ c.1,Ch.keepsM (λy a=>k y (Ì _ a)) c.2]
section
variable{prog:ϓ}{w:ϕ}{A:ϖ}{E:϶}{s:ώ}
theorem jX{e:ό}{R:Result->ώ->Prop}(g:R (.ok (.ret .none)) s):∀(O:ϊ ό)(x:ό)(m:ϊ ό)(z:ό)(S:ϊ ό)(b:ϑ),z::S=m++x::O->(z::S).Nodup->Ch s.heap (z::S)->Ch s.heap (x::O)->e∉z::S->(b=true->m≠[])->codeAny (model prog w) A (.builtin "proto.unchain" #[[.ref e,.ref x,.ref z,.bool b],[]]) R s
 |[],x,m,z,S,b,_,_,_,c,_,_=>by let#[o,k,vs,i,d]:=c;show Ę jN ?_;unfold Builtin.«proto.unchain»;dsimp only;show Qr (î k i d ?_);rw[if_pos (show(Value.none==Value.none)=true by simp)];show Xs g|v::O,x,m,z,S,b,hS,hn,hc,c,he,hb=>by
  let#[#[o,k,vs,i,d],p]:=c;show Ę jN ?_;unfold Builtin.«proto.unchain»;dsimp only;show Qr (î k i d ?_);have y:v∈m++x::v::O:=by simp
  have B:v≠e:=λq=>he (by rw[hS,<-q];show y);have C:v≠z:=λq=>by
   subst q;cases m with|nil=>let#[rfl,rfl]:=List.cons.inj hS;show(æ.mp hn).1 (Ë)|cons a m=>let#[rfl,rfl]:=List.cons.inj hS;show(æ.mp hn).1 (by simp)
  rw[if_neg (show¬(Value.ref v==Value.none)=true by simp),if_neg (show¬(Value.ref v==Value.ref e)=true by simpa using B),if_neg (show¬(Value.ref v==Value.ref z)=true by simpa using C)];cases b with
  |true=>cases m with
   |nil=>show absurd rfl (hb rfl)|cons a m=>
    let#[t,f]:=List.cons.inj hS;subst t;replace f:S=m++x::v::O:=f;subst f;let#[u,T,r]:∃u T,m++x::v::O=u::T:=by cases m with
     |nil=>show#[_,_,rfl]|cons u m=>show#[_,_,rfl]
    rw[r]at hc hn he;let#[#[D,l,E,j,n],h]:=hc;rw[if_pos rfl];show Qr (î l j n ?_);show Xs #[by first|rfl|decide|kernel_rfl,jX g O v (m++[x]) u T _ (by rw[<-r,ĕ];rfl) (æ.mp hn).2 h p (λq=>he (Ì _ q)) (λq=>by cases q)]
  |false=>rw[if_neg (by decide)];show Qr (Xs ?_);show Xs #[by first|rfl|decide|kernel_rfl,jX g O v (m++[x]) z S _ (by rw[hS,ĕ];rfl) hn hc p he (λ_ q=>by simp at q)]
theorem tO{Q:϶}(b:(y::l).Nodup)(c:Ch s.heap (y::l))(a:e∉y::l)(h:Q .none s):wpAny (model prog w) A (runValue (.builtin "proto.unchain" #[[.ref e,.ref y,.ref y,.bool false],[]])) Q E s:=wpAny_runValue (jX h l y [] y l _ rfl b c c a λq=>by cases q)
theorem vK{b:Type}{l:ϊ ό}{vs:ϔ ϋ}{Q:b->ώ->Prop}(g:A.handled=!(.ref y))(i:(y::l).Nodup)(c:Ch s.heap (y::l))(a:e∉y::l)(f:s.heap.get? e=!oe)(d:oe.data=.fields vs)(hsz:2<vs.size)(h:E (.ref e) {s with heap:=s.heap.update e (Obj.mapFields (·.setIfInBounds 2 (.ref y)))}):wpAny (model prog w) A (raiseNew (.ref e):Sem b) Q E s:=by unfold raiseNew;show Qr (wpAny_handled ?_);rw[g];dsimp only;rw[if_pos (show(Value.ref y !=Value.ref e)=true by simpa using λq:y=e=>a (by rw[q];show Ë))];show Qr (ì (tO i c a ?_));change wpAny _ _ (do setField (.ref e) 2 (.ref y);throw (.ref e)) _ _ _;show Qr (ń f d hsz (wpAny_throw h))
variable{nm q:ϐ}{C N:ό}{bs bm:ϊ ϋ}{hdct:ϑ}{sn:ϊ ϐ}{sub:ϊ ϋ}{ab:ϑ}{col:ύ ϑ}{dd:ύ ό}{k0 k1 k2 k3 k5:ύ ϋ}{newId:String}{env:Env}
theorem pK{x c:Sem ϋ}{Q:Flow->ώ->Prop}(f:bm.contains (.type "BaseException")=true)(L:A.handled=!(.ref y))(h:wpAny (model prog w) A x (λv s₁=>∃e t l,v=.ref e/\s₁.heap.get? C=!(excClassObj nm q C N bs bm hdct sn sub ab col dd k0 k1 k2 k3 k5 newId)/\s₁.heap.get? e=!{cls:=.ref C,data:=.fields ([.ref t,.none,.none,.none,.bool false,.none].toArray)}/\e∉y::l/\(y::l).Nodup/\Ch s₁.heap (y::l)/\wpAny (model prog w) A c (λv s₂=>v=.none/\s₂=s₁) E s₁/\∀h',h'.get? e=!{cls:=.ref C,data:=.fields ([.ref t,.none,.ref y,.none,.bool true,.none].toArray)}->(∀b o,b≠e->s₁.heap.get? b=!o->h'.get? b=!o)->E (.ref e) {s₁ with heap:=h'}) E s):wpAny (model prog w) A (raiseStmt env (!x) !c) Q E s:=by
 have B:(Value.ref C::bm).contains (.type "BaseException")=true:=by rw[List.contains_cons,f,Bool.or_true]
 unfold raiseStmt;show Qr (í h (λv s₁ h₁=>?_) λ_ _ x=>x);let#[e,t,l,rfl,k,n,D,M,H,K,J]:=h₁;dsimp only;show Qr (ì (í K (λv s₂ m=>?_) λ_ _ x=>x));let#[rfl,j]:=m;subst j;show Qr (Xs ?_);let#[p,g,d,P,O]:=s₂;repeat(first|with_reducible show wpAny_loadPart_at n ?_ |with_reducible show wpAny_loadPart_at k ?_ |(with_reducible show wpAny_isSubtype_exc k ?_;rw[B])|wp_step)
 have u:e≠C:=λz=>by
  subst z;rw[n]at k;cases k
 have I:=ï (Obj.mapFields (·.setIfInBounds 3 Value.none)) (show p.get? e=!_ from n) rfl;have j:=ï (Obj.mapFields (·.setIfInBounds 4 (Value.bool true))) I rfl;have i:∀b,b≠e->((p.update e (Obj.mapFields (·.setIfInBounds 3 Value.none))).update e (Obj.mapFields (·.setIfInBounds 4 (Value.bool true)))).get? b=p.get? b:=λb a=>by rw[ó _ _ (Ne.symm a),ó _ _ (Ne.symm a)]
 show wpAny_loadPart_at ((i C (Ne.symm u)).trans k) ?_;show Xs ?_;rw[if_pos (show((excClassObj nm q C N bs bm hdct sn sub ab col dd k0 k1 k2 k3 k5 newId).cls==Value.type "type")=true by rfl)];show Xs ?_;unfold setFlight;show Qr (Qr (î j rfl (x:=.none) rfl ?_));rw[if_neg (by decide)];show Xs ?_;show vK L M ?_ D j rfl (by simp) (J _ ?_ λb o a q=>?_)
 .show H.keeps λb v ⟨o,r,vs,F,G⟩=>?_;by_cases a:b=e
  .subst a;rw[show p.get? b=!_ from n]at r;cases r;cases F;show#[_,j,_,rfl,G]
  .show #[o,(i b a).trans r,vs,F,G]
 .show ï (Obj.mapFields (·.setIfInBounds 2 (Value.ref y))) j rfl
 .rw [ó _ _ (Ne.symm a)];show(i b a).trans q
structure MadeIn(h h':ϒ)(e y:ό)(C:ϋ)(t:ό):Prop where
 keeps:∀b o,h.get? b=!o->h'.get? b=!o
 new:h.get? e=none
 there:h'.get? e=!{cls:=C,data:=.fields ([.ref t,.none,.ref y,.none,.bool true,.none].toArray)}cn:Cn e h'
theorem DG{B:String}(F:ExcBaseFacts B newId initId bmB){x:ϐ}{S c G:Pos}{kk:Nat}{Q:Flow->ώ->Prop}(k:bm.contains (.type "BaseException")=true) (Y:A.handled=!(.ref y)) (j:(backTo c (starEach args env)).any (·.1)=false) (M:mN "__init__"=none)(h:wpAny (model prog w) A (eval (.Name x S) env) (λf s₁=>f=.ref C/\wpAny (model prog w) A (evalArgs (.ref C) true (backTo c (starEach args env)) [])
   (λa s₂=>a.kw=[]/\↑a.pos<=sizeLine/\s₂.heap.get? C=!(excClassObj nm q C N bs bm hdct sn sub ab col dd k0 k1 k2 k3 k5 newId)/\s₂.heap.Ns N mN/\OwnTail s₂.heap bmB bm/\Cn y s₂.heap/\∀h' e t,MadeIn s₂.heap h' e y (.ref C) t->E (.ref e) {s₂ with heap:=h'}) E s₁) E s):
  wpAny (model prog w) A (exec (.Raise (!(.Call (.Name x S) args [] c)) (!(.Constant .none kk G)) pos) env) Q E s:=by
 rw[arm_exec_Raise];simp only[evalOpt,Option.map];show Qr (ţ (pK (C:=C) (nm:=nm) (q:=q) (N:=N) (bs:=bs) (bm:=bm) (hdct:=hdct) (sn:=sn) (sub:=sub) (ab:=ab) (col:=col) (dd:=dd) (k0:=k0) (k1:=k1) (k2:=k2) (k3:=k3) (k5:=k5) (newId:=newId) k Y ?_));show Qr (í (wpAny_Call_ofName (í h (λf s₁ h₁=>?_) λ_ _ x=>x)) (λv U D=>Qr (ţ (Xs D))) λ_ _ x=>x);let#[rfl,h₁]:=h₁;unfold callWith;show Qr (ì (í h₁ (λa s₂ i=>Qr (ţ ?_)) λ_ _ x=>x));let#[O,H]:=a;let#[L,u,K,Z,T,#[l,R,cl],i]:=i;obtain rfl:H=[]:=L;let#[hp,g,d,tk,os]:=s₂;simp only[j];show Qr (wpAny_keeperOf_exc K ?_);show Qr (wpAny_call_exc_subT (hrest:=u) F T K Z M λh' e p=>Qr (ì (wpAny_point (Xs ?_))));let#[t,ht,_,_]:=p.there;have n:e∉y::l:=λm=>by
  let#[o,W]:=cl.there e m;have:=p.new;rw[W]at this;cases this
 have r:=cl.keeps λb v ⟨o,I,f⟩=>#[o,p.keeps _ _ I,f];show#[e,t,l,rfl,p.keeps _ _ K,ht,n,R,r,Qr (Xs (Qr (ţ (Xs #[rfl,rfl])))),λJ P k2=>i J e t #[λb o z=>k2 b o (λy=>?_) (p.keeps b o z),p.new,P,y::l,æ.mpr #[n,R],#[_,P,_,rfl,rfl],?_]];.subst y;have:=p.new;rw[z]at this;cases this
 .show Ch.keepsM (λb X v ⟨o,I,f⟩=>#[o,k2 b o (λz=>?_) I,f]) r;subst z;show n X
end
section
variable{M:Model}{A:ϖ}{E:϶}{s:ώ}{B:ϒ}{env:Env}{l outer:ϊ Env}{L x e:ό}{C a0:ϋ}{Q:Unit->ώ->Prop}
theorem xU(a:Hg B l x C a0 s.heap)(b:∀h',Hg B l x C a0 h'->s.heap.UpToSlots h'->Q Unit.unit {s with heap:=h'}):wpAny M A (setFlight (.ref x) fr) Q E s:=í ((jy _ _).any (vI (Q:=λ_ s'=>∃h',s'={s with heap:=h'}/\vH B l x C a0 h'/\s.heap.UpToSlots h') (E:=λ_ _=>False) a.1 λh' n up=>⟨h',rfl,n,up⟩) a.2)
  (λ_ s' ⟨⟨h',e,n,up⟩,c⟩=>by subst e;show b h' #[n,c] up) λ_ _ z=>z.1.elim
theorem xV{vs:ϔ ϋ}(b:A.frames=!(env::outer))(i:env.frame=!L)(m:s.heap.FunFrames B (env::outer))(d:B.StaysIn s.heap)(a:B.get? e=none)(h:s.heap.get? e=!oe)(g:oe.data=.fields vs)(k:vs[0]?=!a0)(f:vs[1]?=!.none)(j:Cn e s.heap)(l:∀h',Hg B (env::outer) e oe.cls a0 h'->s.heap.UpToSlots h'->Q Unit.unit {s with heap:=h'}):wpAny M A (noteFrame (.ref e) env) Q E s:=by
 show í ((sZ _ _).any (Q:=λ_ s'=>∃h',s'={s with heap:=h'}/\vH B (env::outer) e oe.cls a0 h'/\s.heap.UpToSlots h') (E:=λ_ _=>False) ?_ j)
  (λ_ s' ⟨⟨h',e,n,up⟩,c⟩=>by subst e;show l h' #[n,c] up) λ_ _ z=>z.1.elim;unfold noteFrame;simp only[i];show Qr (î h g f ?_);rw[if_neg (by decide)];show wpAny_entryW b m i h d a g (Ŋ.mp f).1 k λh' ⟨o,p,q,r⟩=>#[h',rfl,#[o,a,p,_,q],r]
end
section
variable{X:Cx}{E:XK}
theorem Hh(U:R3 X E)(f:X.stack=X.env::X.outer)(F:X.env.frame=!X.env.locals){s:ώ}(I:Inv X io σ H s){t:ό}(m:MadeIn s.heap h' e y C t)(R:E C none H)(Q:A'.frames=X.A.frames):notedBy (model X.prog X.w) A' X.env (cameBackBy (model X.prog X.w) X.A X.env X.xe) (.ref e) {s with heap:=h'}:=by
 have P:X.A.frames=!(X.env::X.outer):=by rw[<-f];show I.ok.frames
 have G:s.heap.FunFrames X.base X.stack:=I.stack;have N:∀b∈frs X.stack,H b=none:=I.stkFree;let#[B,g]:∃B,B=PySem.W.hideAll s.heap (frs X.stack):=#[_,rfl];have h:B.StaysIn s.heap:=λb o q=>ω _ (by rw[<-g];show q);have l:s.heap.FunFrames B X.stack:=by rw[g];show PySem.W.funFrames_hide G λe D a S=>ñ.mpr #[e,D,S]
 have p:B.get? e=none:=by cases q:B.get? e with|none=>rfl|some o=>have:=h e o q;rw[m.new]at this;cases this
 have r:B.StaysIn h':=λb o q=>m.keeps b o (h b o q);change wpAny _ A' (noteFrame (.ref e) X.env) _ _ _;show xV (L:=X.env.locals) (B:=B) (a0:=.ref t) (oe:={cls:=C,data:=.fields ([.ref t,.none,.ref y,.none,.bool true,.none].toArray)}) (Q.trans P) F (by rw[<-f];show l.of_keeps λb o d _=>#[o,m.keeps b o d,rfl]) r p m.there rfl rfl rfl m.cn λh1 J Y=>?_;change wpAny _ X.A _ _ _ _;let#[#[_,_,_,_,oe,vs,T,_,_,D,_,x,k,_],_]:=id J;show Qr (î D x k ?_);rw[if_neg (show¬((Value.ref T==Value.none)=true)from by simp)];show xU J λj K Z=>?_;have up:h'.UpToSlots j:=Y.trans Z;have kept:∀b o,s.heap.get? b=!o->b∉frs X.stack->j.get? b=!o:=λb o q d=>K.1.1 b o (by rw[g];show Ĥ _ q d);have slots:∀b o,s.heap.get? b=!o->b∈frs X.stack->∃O,j.get? b=!{o with slots:=O}:=λb o q d=>by
  let#[_,o',M,x]:=G.mem d;rw[q]at M;cases M;show up b o (m.keeps b o q) x
 show U io σ H s {s with heap:=j} [] e C (.ref t) B H I (λb d=>nomatch d) ⟨rfl,I.bare,⟨λb o q _ d _=>kept b o q d,λb o q _ d _=>slots b o q d,λ_ _ _ n _=>n,λb o q _=>?_,λ_ _ q=>q,λ_ _ _ q=>q,λb ps q=>⟨([].toArray),by simpa using q⟩⟩,λa o q=>?_,?_,by rw[f];show K,.inr m.new,λb o q d _=>#[o,by rw[g];show Ĥ _ q d],λb o q=>?_,R⟩
 .by_cases d:b∈frs X.stack;.obtain ⟨O,z⟩:=slots b o q d;show#[_,z]
  .show #[_,kept b o q d]
 .show (I.hok a o q).stay (λc v u z=>kept c v z λi=>?_) (λ_ z=>z) λ_ _ z=>z;have n:=N c i;rcases u with rfl|u;.rw [q]at n;cases n
  .rw [u]at n;cases n
 .cases q:H e with
  |none=>rfl|some o=>let#[v,z]:=(I.hok e o q).there;have:=m.new;rw[z]at this;cases this
 .obtain ⟨v,z⟩:=(I.hok b o q).there;have i:b∉frs X.stack:=λi=>by rw[N b i]at q;cases q
  show#[v,by rw[g];show Ĥ _ z i]
end
section
variable{X:Cx}{E:XK}{body:ϊ Stmt}{c d msg:ϐ}{np dp jp cpos kpos rpos hpos pos:Pos}{j kk:Nat}{tb:TS}{Cc C:ό}{bm:ϊ ϋ}{B newId initId:String}
def Hi(K:Ϗ)(Cc:ό)(Eh E:XK)(C:ό)(tb:TS):TS:=λD σ H=>tb D σ H/\∀C' H',Eh C' none H'->PySem.W.exmOne K C' (.ref Cc)=!true/\∀x,H' x=none->E (.ref C) none (upd H' x (qt x C'))
theorem Bj(Eh:XK)(hl:R3 X E)(o:X.stack=X.env::X.outer)(ae:X.env.frame=!X.env.locals)(hg:Gl X c)(hm:X.mg c=!(.ref Cc))(FB:ExcBaseFacts B newId initId bm)(ax:Gl X d)(ay:X.mg d=!(.ref C))(hq:PySem.W.excIn X.K C bm newId=true)(hb:∀io xe,gM (m5 X.prog X.w) (nF X io xe) Eh->PSs (nF X io xe) body tb) (av:(c==("__debug__":ϐ))=false:=by decide) (ad:(d==("__debug__":ϐ))=false:=by decide):PS X (.Try body [.ExceptHandler (!(.Name c np)) none [.Raise (!(.Call (.Name d dp) [.Constant (.str msg) j jp] [] cpos)) (!(.Constant .none kk kpos)) rpos] hpos] [] [] pos) (Hi X.K Cc Eh E C tb):=by
 intro io s σ H D I h;let#[h1,h2]:=h;show wpAny_Try_except ?_;have hp:gM (m5 X.prog X.w) (nF X io λe ah=>wpAny (model X.prog X.w) X.A (noteFrame e X.env) (λ_ ai=>wpAny (model X.prog X.w) X.A (setFlight e none) (λ_ al=>wpAny (model X.prog X.w) X.A (handleBy e X.env [.ExceptHandler (!(.Name c np)) none [.Raise (!(.Call (.Name d dp) [.Constant (.str msg) j jp] [] cpos)) (!(.Constant .none kk kpos)) rpos] hpos]) (SP X io D) X.xe al) X.xe ai) X.xe ah) Eh:=by
  intro pins' σ' H1 s1 e s' I1 hx;let#[x,rfl,#[b,a0,J,H',ho,af,un,ag,P,fl,sx,d1,d2,q],cn]:=hx;have fr:X.A.frames=!(X.env::X.outer):=by rw[<-o];show I.ok.frames
  have ar:Heap.FlyingW J X.stack x b a0 s'.heap:=fl;have as:Heap.FlyingW J (X.env::X.outer) x b a0 s'.heap:=by rw[<-o];show ar
  let#[aw,a2]:=h2 b H' q;change wpAny (model X.prog X.w) X.A (noteFrame (.ref x) X.env) _ X.xe s';show í ((sZ _ _).any (Q:=λ_ s4=>∃F,s4={s' with heap:=F}/\Heap.HeldW J (X.env::X.outer) x b a0 X.env.locals F/\s'.heap.UpToSlots F) (E:=λ_ _=>False) (wpAny_looks_onW fr ae as λF n p=>⟨F,rfl,n,p⟩) cn) (λ_ s4 z=>?_) λ_ _ z=>z.1.elim;let#[#[F,rfl,n,p],c4]:=z;show í ((jy _ _).any (Q:=λ_ s5=>∃i,s5={s' with heap:=i}/\Heap.FlyingW J (X.env::X.outer) x b a0 i/\F.UpToSlots i) (E:=λ_ _=>False) (wpAny_landsW (s:={s' with heap:=F}) n λi g r=>⟨i,rfl,g,r⟩) c4) (λ_ s5 z=>?_) λ_ _ z=>z.1.elim;let#[#[i,rfl,g,r],c5]:=z;have Z:Heap.FlyingW J X.stack x b a0 i:=by rw[o];show g
  have I5:Inv X io σ' (upd H' x (qt x b)) {s' with heap:=i}:=(nO (Y:=nF X io _) I1 ho af un ag P fl sx d1 d2 Z (p.trans r)).tryOut;have am:=I5.hanIn x;let#[oe,vs,e1,e2,e3,_]:=g.first;have LT:PySem.W.Looks (model X.prog X.w) i (typeOf (.ref x)) b:=e2▸(PySem.W.Looks.ld e1).andThen .now;show wpAny_handleBy_cons (codeAny_handlers_test (iC (X:=xK X x io) am hg hm ?_ av)) (by intro z;cases z);show(PySem.W.exm_one I5.kIn LT aw).here ?_;change codeAny _ _ (.handlers (.ref x) [.ExceptHandler none none [.Raise (!(.Call (.Name d dp) [.Constant (.str msg) j jp] [] cpos)) (!(.Constant .none kk kpos)) rpos] hpos] X.env) _ _;show codeAny_handlers_suite ?_;show í ((jy _ _).any (Q:=λ_ s6=>∃l,s6={s' with heap:=l}/\Heap.FlyingW J (X.env::X.outer) x b a0 l/\i.UpToSlots l) (E:=λ_ _=>False) (lands_againW (s:={s' with heap:=i}) g λl O S=>⟨l,rfl,O,S⟩) c5) (λ_ s6 z=>?_) λ_ _ z=>z.1.elim;let#[#[l,rfl,O,S],c6]:=z;have ac:Heap.FlyingW J X.stack x b a0 l:=by rw[o];show O
  have U:Inv X io σ' (upd H' x (qt x b)) {s' with heap:=l}:=(nO (Y:=nF X io _) I1 ho af un ag P fl sx d1 d2 ac ((p.trans r).trans S)).tryOut;have ap:=U.hanIn x;let#[tl,N,nm,qn,bs,hd,sn,sub,ab,col,dd,k0,k1,k2,k3,k5,hK,ht,G,a1]:=Bc hq;have T:=PySem.W.tail_of_in U.kIn ht;have hN:l.Ns N (l.nsMap N):=.of_isNs (PySem.W.isNs_of_in U.kIn G);show wpAny_execs_cons (DG (C:=C) (nm:=nm) (q:=qn) (N:=N) (bs:=bs) (bm:=tl) (hdct:=hd) (sn:=sn) (sub:=sub) (ab:=ab) (col:=col) (dd:=dd) (k0:=k0) (k1:=k1) (k2:=k2) (k3:=k3) (k5:=k5) (y:=x)
   FB (mN:=l.nsMap N) (T.hasType FB.hasBase) rfl rfl (PySem.W.nsMap_none_of_in U.kIn G a1) (iC (X:=xK X x io) ap ax ay #[rfl,?_] ad));show Ĳ (ī (Calls.Constant_str (k:=j) (pos:=jp) (Ő ?_)));show#[rfl,(show 1<=sizeLine by decide),U.kIn _ _ hK,hN,T,c6,λh' e t m=>Hh hl o ae (U.tok _) m (a2 x P) rfl]
 show í (hb io _ hp [] s σ H D (I.tryIn _) h1) (λf s1 hs=>?_) (λe s1 z=>z);cases f with
 |next=>let#[a,L,M,R]:=hs;show ş #[a,L,M.tryOut,R]|brk=>let#[a,L,M,R]:=hs;show#[a,L,M.tryOut,R]|cont=>let#[a,L,M,R]:=hs;show#[a,L,M.tryOut,R]|ret u=>let#[v,a,L,M,r8,R]:=hs;show#[v,a,L,M.tryOut,r8,R]
end
end L2
end
section
namespace HT
open PySem PySem.Spec PyProof.Rows
def jG{s:ώ}{t e:ό}{g i:ϋ}{lo:ύ Int}(a:IsTup s.heap t items)(f:s.heap.IsSliceOf e g i .none)(pl:IsPart g lo)(o:IsPart i hi)(j:dX items.size 0 lo=0) (k:dX items.size items.size hi=items.size) (h:Q (.ref t) s):wpAny (model prog w) A (getItem (.ref t) (.ref e)) Q E s:=by
 let#[n,d,c,m]:=id f;have b:s.TypeIs (.ref e) "slice":=#[n,d,c];unfold getItem;try with_reducible show ì ?_
 first|show Qr (Xs ?_)|skip
 show Qr (wpAny_sequenceKey a.typeIs (by decide) ?_);show Qr (wpAny_callSpecial?_slot (name:=Str.ofString "__getitem__") a.typeIs ħ (ê ħ a.typeIs entry_tuple_getitem ?_ (args_tuple_getitem _ _)));change wpAny _ _ (Builtin.Tuple.tupleItemsOf (.ref t)>>=_) _ _ s;show Qr (tupleItemsOf_ a (Qr (υ b ?_)));rw[if_pos (by decide)];show Qr (gV f pl o ?_);change wpAny _ _ (if(((dX items.size 0 lo:Nat):Int)==0&&(1:Int)==1&&(dX items.size items.size hi-dX items.size 0 lo)==items.size)=true then _ else _) _ _ s;rw[if_pos (by rw[j,k];simp)];have l:s.TypeIs (.ref t) "tuple":=a.typeIs;show Qr ?_;unfold Builtin.Tuple.tupleIsExact;show Qr (υ l (Xs ?_));rw[if_pos (by decide)];show Qr (ķ (Xs #[_,rfl,Xs h]))
end HT
namespace L2
open PySem PySem.Spec PyProof.Rows
def vL(K:Ϗ):V->ύ Int->ύ Int->Hp->VK->Prop:=λx lo hi H Q=>∃a xs,x=.ref a/\SqT K H a xs/\∀p H',(p=a/\H'=H/\gO xs lo hi=xs\/H p=none/\H'=upd H p (.tup (gO xs lo hi)))->SqT K H' p (gO xs lo hi)->Q (.ref p) H'
def Mz{X:Cx}:Qw X (vL X.K):=by
 intro d s w H x v t u lo f o Q I m j pl l h;let#[a,xs,rfl,g,q]:=h;by_cases c:HT.dX ↑xs 0 lo=0/\HT.dX ↑xs ↑xs f=↑xs
 .cases m;let#[i,r,k,hz]:=I.tuple g;have b:i.toArray.size=↑xs:=by rw[Í];show r.length.symm
  show#["tuple",_,PyProof.Rows.slot_tuple_getitem.lookup,k.typeIs,?_];have e:gO xs lo f=xs:=by unfold gO;rw[c.1,c.2,List.drop_zero,Nat.sub_zero,ç]
  show HT.jG k j pl l (by rw[b];show c.1) (by rw[b];show c.2) #[.ref a,H,I,rfl,q a H (.inl #[rfl,rfl,e]) ?_];rw[e];show g
 .show Qx d s w H (.ref a) v t u lo f o Q I m j pl l #[a,xs,rfl,g,c,λp n=>q p _ (.inr #[n,rfl]) (iq aa)]
def lE{X:Cx}(K:Ϗ)(a:X.K=K):Qw X (vL K):=a▸Mz
def pL(K:Ϗ):R2:=λx y H Q=>∃a b xs ys,x=.ref a/\y=.ref b/\SqT K H a xs/\SqT K H b ys/\↑xs+↑ys<=sizeLine/\(xs=[]->Q (.ref b) H)/\(xs≠[]->ys=[]->Q (.ref a) H)/\(xs≠[]->ys≠[]->∀p,H p=none->Q (.ref p) (upd H p (.tup (xs++ys))))
def tQ:V->ϊ V->Hp->VK->Prop:=λx vs H Q=>∃s y:ϐ,x=.str s/\vs=[.str y]/\↑s<=sizeLine/\Q (.str (Txt.rstripChars s y)) H
section
variable{X:Cx}
theorem MF:gA X (binaryOp .Add) (pL X.K):=by
 intro i s M H x y v u Q I w z h;let#[a,b,xs,ys,rfl,rfl,o,p,hz,E,F,G]:=h;by_cases e:xs=[]
 .subst e;cases w;cases z;let#[A,J,C,_]:=I.tuple o;let#[g,N,D,_]:=I.tuple p;cases J;let#[#[cls,dd,data,L],t,q,n,r]:=id C;let#[#[m,k,j,l],f,c,B,d]:=id D;simp only at q r c d;subst q r c d;show concat_meets #[_,t,rfl] #[_,f,rfl] noFill_tuple_add seq_tuple_add Ε ż (ų _ _)
   (tuple_addW0 a b ([].toArray) g.toArray n B dd k L l rfl) #[t,f,.ref b,H,I,rfl,E rfl]
 .show Ar i s M H _ _ _ _ Q I w z #[a,b,xs,ys,rfl,rfl,o,p,e,hz,F e,G e]
theorem pM(K:Ϗ)(a:X.K=K):gA X (binaryOp .Add) (pL K):=a▸MF
theorem DK:Qy X "str.rstrip" tQ:=by intro a s e H x xs v us Q I d c h;let#[z,y,rfl,rfl,hz,q]:=h;let#[t,rfl]:=d;let#[u,rfl,b]:=c.one;let#[t',rfl]:=b;show SC.rstripChars (λt' k=>#[.str _,H,I.tok _,#[_,rfl],q]) hz
end
def xW(tk tv:TE):TE:=λσ H Q=>∀p,H p=none->tk σ (upd H p (.dT [])) λx H1=>tv σ H1 λv H2=>H2 p=!(.dT [])/\∃k b,x=.ref b/\H2 b=!(.tup (k.map kV))/\Q (.ref p) (upd H2 p (.dT [(k,v)]))
def Hj{X:Cx}(T:X.A.units+1<cLine)(L:PE X u w)(O:PE X B y):PE X (.Dict [!u] [B] pos) (xW w y):=by
 intro g s R H Q I q;have M:=I.hok.fresh (Ç s.heap.objs.size);have C:=I.laid (a:=s.heap.objs.size) (o:=.dT []) (h':=s.heap.push {cls:=.type "dict",data:=.dict ([].toArray)}) (t':=s.toks) (λ_ _ q=>Jn _ q) (Ç _) (uW s.heap I.big);show wpAny_Dict_any rfl rfl (by simp) (by simp) (bu (uX (pos:=pos) L O Ay g _ R _ (λps f=>match ps with|[(x,v)]=>f s.heap.objs.size=!(.dT [])/\∃k b,x=.ref b/\f b=!(.tup (k.map kV))/\Q (.ref s.heap.objs.size) (upd f s.heap.objs.size (.dT [(k,v)]))|_=>False) C (q _ M)) λW U ⟨ps,f,i,d,l⟩=>?_);cases d with|nil=>show l.elim|@cons a c as cs h t=>cases t with
  |cons=>show l.elim|nil=>
  let#[x,v]:=a;let#[D,S]:=c;let#[e,k,b,p,m,P]:=l;dsimp only at h p;subst p;cases(show D=Value.ref b from h.1);let#[z,K,xs,d,dd]:=qY i.hok e;unfold storeAll;rw[ö];show Qr (Qr (wpAny_dictSet_heap (hsz:=by rw[<-ď d];show z) (by change X.A.units<cLine;rfl') (jg i.hok m) dd λh' j N=>Xs ?_));change wpAny _ _ (forIn [] PUnit.unit _) _ _ _;rw[ň];let#[q,es,ep,r,E,F,G,_,J]:=j;show Xs #[.ref s.heap.objs.size,upd f s.heap.objs.size (.dT [(k,v)]),iI i (by rw[e];show True.intro) N ⟨q,r⟩ ⟨(by change(1:Nat)<=sizeLine;rw[ø];rfl'),K,_,(d.put k m h.2).keeps λc ys n=>?_,q,es,ep,r,E,F,G,J⟩,rfl,P];rw[ak (bA n e (λz=>nomatch z))];show n
end L2
end
section
namespace HT
open PySem PySem.Spec PyProof.Rows
def mj:fillsNumberSlot (.type "tuple") "mul"=pure false:=PySem.fillsNumberSlot_seq (id:="tuple.__mul__") (r:=!(.builtin "tuple.__rmul__")) F.slot_tuple_mul.lookup (by ac_nf) F.slot_tuple_rmul.lookup (by ac_nf)
def tR:seqRepeat? (.type "tuple")=pure !(.builtin "tuple.__mul__"):=by unfold seqRepeat?;rw[PySem.seqSlot_of (T:="tuple") (name:="__mul__") (id:="tuple.__mul__") F.slot_tuple_mul.lookup (by ac_nf),PySem.seqSlot_of (T:="tuple") (name:="__rmul__") (id:="tuple.__rmul__") F.slot_tuple_rmul.lookup (by ac_nf)];rfl
def iV(a:Int)(t:Tok)(l:ό)(o:Obj)(b:ϔ ϋ)(n:Nat)(c:o.data=.seq b n):Meets (Builtin.«int.__rmul__» #[[.int a t,.ref l],[]]) (λ_ R s=>s.heap.get? l=!o/\R (.ok (.ret Value.notImplemented)) s):=
 .of_wp λprog w A R s h=>by
  let#[f,g,d,j,i]:=s;let#[e,h]:=h
  wp_walk;rw[c]
  wp_walk;show#[_,rfl,h]
def iw(l:ό)(o:Obj)(a:ϔ ϋ)(n:Nat)(x:Int)(u:Tok)(t:o.cls=.type "tuple")(j:o.data=.seq a n)(e:a.isEmpty=false)(r:2<=x)(y:x<2^63)(hz:a.size*x.toNat<=sizeLine):Meets (Builtin.«tuple.__mul__» #[[.ref l,.int x u],[]]) (λ_ R s=>s.heap.get? l=!o/\R (.ok (.ret (Value.ref s.heap.objs.size))) {s with heap:=s.heap.push {cls:=Value.type "tuple",data:=Data.seq (List.foldl (λb c=>b++c) ([].toArray) (List.replicate x.toNat a))},toks:=s.toks}):=
 .of_wp λprog w A R s h=>by
  let#[v,g,d,B,z]:=s;let#[k,h]:=h;have q:=PySem.AutoSeq1.idx_int
  wp_walk;have f:(a.size:Int)*x=((a.size*x.toNat:Nat):Int):=by rw[Int.natCast_mul,π ()]
  have p:(a.size*x.toNat:Nat)<=1000000000000:=Ð hz (by decide);rw[if_neg (by simp;rfl')];change wpAny _ _ (Builtin.Tuple.tupleItemsOf (.ref l)>>=_) _ _ _;show Qr (ŋ k j ?_);rw[if_neg (by rw[e];simp;rfl')];change wpAny _ _ (if(decide (x<=0)||a.isEmpty)=true then _ else _) _ _ _;rw[if_neg (by rw[e];simp;rfl')];change wpAny _ _ (if(a.size:Int)*x>(2^63-1)/8 then _ else _) _ _ _;rw[if_neg (by rw[f];rfl')];change wpAny _ _ (if Builtin.Tuple.tupleTooMany ((a.size:Int)*x)=true then _ else _) _ _ _;rw[if_neg (by unfold Builtin.Tuple.tupleTooMany;rw[f,Ó ()];show Î)];change wpAny _ _ (Builtin.Tuple.tupleExact _>>=_) _ _ _;have i:List.foldl (λb c=>b++c) ([].toArray) (List.replicate x.toNat a)=(List.replicate x.toNat a.toList).flatten.toArray:=by
   have:=L2.foldl_rep a.toList x.toNat [];rw[ζ,Array.toArray_toList]at this;show this
  have hsz:(List.foldl (λb c=>b++c) ([].toArray) (List.replicate x.toNat a)).size<=sizeLine:=by rw[i,Í,L2.len_rep,Ā,Nat.mul_comm];show hz
  show Qr (m:=Builtin.Tuple.tupleExact _) (ð (Xs #[_,rfl,h]) hsz)
end HT
namespace L2
open PySem PySem.Spec PyProof.Rows
def Hk(K:Ϗ):R2:=λx y H Q=>∃a k xs,x=.ref a/\y=.int k/\SqT K H a xs/\xs≠[]/\2<=k/\k<2^63/\↑xs*k.toNat<=sizeLine/\∀p,H p=none->Q (.ref p) (upd H p (.tup (List.replicate k.toNat xs).flatten))
def MJ{X:Cx}:gA X (binaryOp .Mult) (Hk X.K):=by
 intro l s J H x y v u Q I C D h;let#[a,k,xs,rfl,rfl,B,p,w,g,hz,q]:=h;cases C;let#[t,rfl]:=D;let#[c,r,A,_]:=I.tuple B;let#[o,e,f,n,j]:=id A;have z:↑c=↑xs:=r.length.symm;have i:c.toArray.isEmpty=false:=by cases c with
  |nil=>show absurd (r.nil_iff.mp rfl) p|cons a b=>rfl
 have d:c.toArray.size*k.toNat<=sizeLine:=by rw[Í,z];show hz
 show wpAny_binaryOp_repeat_ref (T:="tuple") (U:="int") (by decide) #[o,e,f] (λs'=>typeIs_int s' k t) HT.mj F.fills_int_mul F.slot_int_rmul HT.tR F.slot_int_index.lookup (Ÿ F.slot_int_rmul (typeIs_int s k t) F.entry_int_rmul (F.args_int_rmul_2 _ _) (HT.iV k t a o c.toArray n j)
   #[e,rfl,#[o,e,f],Ÿ F.slot_tuple_mul #[o,e,f] F.entry_tuple_mul (F.args_tuple_mul_2 _ _) (HT.iw a o c.toArray n k t f j i w g d) #[e,?_]]);have m:List.foldl (λE G=>E++G) ([].toArray) (List.replicate k.toNat c.toArray)=(List.replicate k.toNat c).flatten.toArray:=by have:=foldl_rep c k.toNat [];rw[ζ]at this;show this
 rw[m];show#[.ref s.heap.objs.size,_,I.laid (t':=s.toks) (o:=.tup (List.replicate k.toNat xs).flatten) (λb ob q=>Jn _ q) (Ç _) ?_,rfl,q _ (I.hok.fresh (Ç _))];show#[by rw[len_rep,Nat.mul_comm];show hz,_,r.rep k.toNat,IsTup.new _ _]
def Hl{X:Cx}(K:Ϗ)(a:X.K=K):gA X (binaryOp .Mult) (Hk K):=a▸MJ
end L2
end
section
namespace Nk
open PySem PySem.Spec PyProof.Rows
variable{a b:ό}{ks:ϊ Int}{Q:ϑ->ώ->Prop}
abbrev pN:=Int×Int×ϊ Int
variable{k x y:pN}
section
variable{prog:ϓ}{w:ϕ}{s:ώ}
def IsSt(prog:ϓ)(w:ϕ)(h:ϒ)(k:pN)(a:ό):Prop:=∃o n v1 v2 b,h.get? a=!o/\o.cls=.type "tuple"/\o.data=.seq ([v1,v2,.ref b].toArray) n/\(intKind prog w).is k.1 v1=true/\(intKind prog w).is k.2.1 v2=true/\IsTupleKey (intKind prog w) h k.2.2 b
theorem IsSt.typeIs(x:IsSt prog w s.heap k a):s.TypeIs (.ref a) "tuple":=let⟨o,_,_,_,_,ho,hc,_⟩:=x;#[o,ho,hc]
theorem IsSt.inj(r:IsSt prog w h x a)(s:IsSt prog w h y a):x=y:=by
 let#[o,n,v1,v2,b,q,_,p,f,g,i]:=r;let#[o',A,B,C,z,d,_,c,j,k,l]:=s;obtain rfl:o=o':=Ù (q.symm.trans d);rw[p]at c;injection c with e1 _;have e:=Ô Array.toList e1;simp only[List.cons.injEq,and_true]at e;let#[rfl,rfl,m]:=e;cases m;have v:=i.inj l;have t:=(intKind prog w).inj _ _ _ f j;have u:=(intKind prog w).inj _ _ _ g k;show Prod.ext t (Prod.ext u v)
theorem IsSt.keeps{es ep}(x:IsSt prog w h k a)(i:h.get? d=!o)(g:o.data=.dict es ep)(j:Heap.SameBut d h h'):IsSt prog w h' k a:=by
 let#[o',n,v1,v2,b,e,q,c,l,m,p]:=x;have f:a≠d:=by rintro rfl;obtain rfl:o'=o:=Ù (e.symm.trans i);rw[g]at c;show nomatch c
 show#[o',n,v1,v2,b,(j.2 a f).trans e,q,c,l,m,p.keeps i g j]
noncomputable def rG(cs:ϊ Int):Int:=reduceHash (Builtin.Tuple.tupleHashOf (cs.map hashInt))
noncomputable def vM(k:pN):Int:=reduceHash (Builtin.Tuple.tupleHashOf [hashInt k.1,hashInt k.2.1,rG k.2.2])
theorem MK{Q:Int->ώ->Prop}(r:A.units+1<cLine)(i:IsSt prog w s.heap k a)(h:Q (vM k) {s with toks:=s.toks+(↑k.2.2+4)}):wpAny (model prog w) A (pyHash (.ref a)) Q E s:=by
 have d:=i.typeIs;let#[o,n,v1,v2,b,q,_,p,j,l,m]:=i;unfold pyHash;first| unfold pyHashByItsType|skip
 first|show Qr (wpAny_cRoomFor_or (.inr ()) ?_)|skip
 show Qr (ŵ d F.slot_tuple_hash.lookup ?_);change wpAny _ _ (if(some (Value.builtin "tuple.__hash__")==!Value.none)=true then _ else _) Q E s;rw[if_neg (by rw[beq_builtin_none];show Î)];show Qr (ŵ d F.slot_tuple_hash.lookup ?_);change wpAny _ _ (callSpecialIfBoundUnlessNone? (.ref a) "__hash__" _>>=_) Q E s;show Qr (wpAny_callSpecialIfBoundUnlessNone?_slot d F.slot_tuple_hash (ê F.slot_tuple_hash d F.entry_tuple_hash ?_ (F.args_tuple_hash_1 _)));change wpAny _ _ (Builtin.Tuple.tupleItemsOf (.ref a)>>=_) _ _ s;show Qr (ŋ q p ?_);show Qr ?_;rw[<-Array.forIn_toList];change wpAny _ _ (forIn [v1,v2,Value.ref b] _ _) _ _ s;have g:A.in1.units<cLine:=by change A.units+1<cLine;show r
 rw[ö];show Qr (Qr ((intKind prog w).pyHash j (Xs ?_)));change wpAny _ _ (forIn [v2,Value.ref b] _ _) _ _ _;rw[ö];show Qr (Qr ((intKind prog w).pyHash l (Xs ?_)));change wpAny _ _ (forIn [Value.ref b] _ _) _ _ _;rw[ö];show Qr (Qr (wpAny_pyHash_tuple (knd:=intKind prog w) g m (Xs ?_)));change wpAny _ _ (forIn [] _ _) _ _ _;rw[ň];show Xs ?_;change wpAny _ _ (retInt (Builtin.Tuple.tupleHashOf [hashInt k.1,hashInt k.2.1,rG k.2.2])) _ _ _;show wpAny_ret_mkInt ?_;change wpAny _ _ (if(decide (-(2:Int)^63<=Builtin.Tuple.tupleHashOf [hashInt k.1,hashInt k.2.1,rG k.2.2])&&decide (Builtin.Tuple.tupleHashOf [hashInt k.1,hashInt k.2.1,rG k.2.2]<2^63))=true then _ else _) Q E _;have c:∀x:Nat,x=s.toks+(↑k.2.2+4)->Q (vM k) {s with toks:=x}:=λx e=>by rw[e];show h
 unfold vM at c;unfold reduceHash at c;by_cases f:(decide (-(2:Int)^63<=Builtin.Tuple.tupleHashOf [hashInt k.1,hashInt k.2.1,rG k.2.2])&&decide (Builtin.Tuple.tupleHashOf [hashInt k.1,hashInt k.2.1,rG k.2.2]<2^63))=true;.rw [if_pos f];rw[if_pos f]at c;show Xs (c _ (by dsimp only;rfl'))
 .rw [if_neg f];rw[if_neg f]at c;show Qr (ķ (Xs (c _ (by dsimp only;rfl'))))
theorem xX(I:A.units<cLine)(J:IsSt prog w s.heap x a)(B:IsSt prog w s.heap y b)(h:P (.done (.ret (.bool (decide (x=y))))) s):wpAny (model prog w) A (Builtin.«tuple.__eq__» #[[.ref a,.ref b],[]]) P E s:=by
 have j:=B.typeIs;let#[Q,N,v1,v2,c,m,_,k,o,p,r]:=J;let#[ob,O,K,C,d,n,_,l,t,u,v]:=B;change wpAny _ _ (isInstance (.ref b) (.type "tuple")>>=_) _ _ s;show Qr (ŀ j Ŧ ?_);simp only[ĉ,Û,ý];show Qr (ŋ m k ?_);show Qr (ŋ n l ?_);show Qr ?_;change wpAny _ _ (forIn [(v1,K),(v2,C),(Value.ref c,Value.ref d)] _ _) _ _ s;let#[D,F,L]:=x;let#[G,H,M]:=y;dsimp only at o p r t u v;have no:∀{q:ϑ},q=false->P (.done (.ret (.bool q))) s->P (.done (.ret (.bool false))) s:=λe h=>e▸h
 rw[ö];show Qr (Qr ((intKind prog w).eqBool (a:=D) (b:=G) o t ?_));by_cases f:D=G
 .subst f;rw[Õ rfl];simp only[ĉ,Û,ý];show Xs ?_;change wpAny _ _ (forIn [(v2,C),(Value.ref c,Value.ref d)] _ _) _ _ s;rw[ö];show Qr (Qr ((intKind prog w).eqBool (a:=F) (b:=H) p u ?_));by_cases g:F=H
  .subst g;rw[Õ rfl];simp only[ĉ,Û,ý];show Xs ?_;change wpAny _ _ (forIn [(Value.ref c,Value.ref d)] _ _) _ _ s;rw[ö];show Qr (Qr (wpAny_eqBool_tuple (knd:=intKind prog w) I r v ?_));by_cases i:L=M;.subst i;rw[Õ rfl];simp only[ĉ,Û,ý];show Xs ?_;change wpAny _ _ (forIn [] _ _) _ _ s;rw[ň];show Xs ?_;rw[Õ rfl]at h;show Xs h
   .rw [Ó i];simp only[Bool.not_false,ı];show Qr (Xs (Xs (Xs (Xs (no (Ó λz=>i (by cases z;rfl)) h)))))
  .rw [Ó g];simp only[Bool.not_false,ı];show Qr (Xs (Xs (Xs (Xs (no (Ó λz=>g (by cases z;rfl)) h)))))
 .rw [Ó f];simp only[Bool.not_false,ı];show Qr (Xs (Xs (Xs (Xs (no (Ó λz=>f (by cases z;rfl)) h)))))
theorem WL(g:A.units+1<cLine)(d:IsSt prog w s.heap x a)(f:IsSt prog w s.heap y b)(h:Q (decide (x=y)) s):wpAny (model prog w) A (eqBool (.ref a) (.ref b)) Q E s:=by
 unfold eqBool;try with_reducible show ì ?_
 change wpAny _ _ (if(Value.ref a==Value.ref b)=true then _ else _) Q E s;by_cases c:(Value.ref a==Value.ref b)=true
 .rw [if_pos c];have e:a=b:=by have:=Ż c;injection this
  subst e;obtain rfl:=d.inj f;show Qr (ķ (Xs (by simpa using h)))
 .rw [if_neg c];show Qr (wpAny_richCompare_same_room (op:=.Eq) d.typeIs f.typeIs F.slot_tuple_eq (ê F.slot_tuple_eq d.typeIs F.entry_tuple_eq (xX (by change A.units+1<cLine;show g) d f #[_,rfl,(λe=>nomatch e),ċ h]) (F.args_tuple_eq_2 _ _)) ())
theorem xY(g:IsTupleKey (intKind prog w) s.heap ks a)(h:Q true s):wpAny (model prog w) A (eqIsQuiet 7 (.ref a)) Q E s:=by
 have f:=g.typeIs;let#[o,d,n,k,_,i,j]:=g;unfold eqIsQuiet;show Qr (ŵ f F.slot_tuple_eq.lookup ?_);change wpAny _ _ (isInstance (.ref a) (.type "tuple")>>=_) _ _ s;show Qr (ŀ f Ŧ ?_);simp only[ĉ,Û,ý];show Qr (ć k i ?_);show Qr ?_;change wpAny _ _ (forIn d _ _) _ _ s;rw[<-Array.forIn_toList];show wpAny_forIn_list _ (λrest r e=>r.1=none/\e=s/\∀v∈rest,carriedByValue v=true) _ ?_ ?_ _ _ #[rfl,rfl,j.byValue];.rintro v rest r e ⟨c,rfl,b⟩;rw[eqIsQuiet_byValue _ (b v Ë)];show Qr (Xs ?_);simp only[ĉ,Û,ý];show Xs #[rfl,rfl,λu m=>b u (Ì _ m)]
 .rintro ⟨l,p⟩ e ⟨c,rfl,_⟩;simp only at c;subst c;show Xs h
theorem Hm(d:IsSt prog w s.heap k a)(h:Q true s):wpAny (model prog w) A (eqIsQuiet 8 (.ref a)) Q E s:=by have c:=d.typeIs;let#[o,n,v1,v2,b,j,_,i,e,f,g]:=d;unfold eqIsQuiet;show Qr (ŵ c F.slot_tuple_eq.lookup ?_);change wpAny _ _ (isInstance (.ref a) (.type "tuple")>>=_) _ _ s;show Qr (ŀ c Ŧ ?_);simp only[ĉ,Û,ý];show Qr (ć j i ?_);show Qr ?_;change wpAny _ _ (forIn ([v1,v2,Value.ref b].toArray) _ _) _ _ s;rw[<-Array.forIn_toList];change wpAny _ _ (forIn [v1,v2,Value.ref b] _ _) _ _ s;rw[ö,eqIsQuiet_byValue _ ((intKind prog w).byValue _ _ e)];show Qr (Qr (Xs ?_));simp only[ĉ,Û,ý];show Xs ?_;change wpAny _ _ (forIn [v2,Value.ref b] _ _) _ _ s;rw[ö,eqIsQuiet_byValue _ ((intKind prog w).byValue _ _ f)];show Qr (Qr (Xs ?_));simp only[ĉ,Û,ý];show Xs ?_;change wpAny _ _ (forIn [Value.ref b] _ _) _ _ s;rw[ö];show Qr (Qr (xY g ?_));simp only[ĉ,Û,ý];show Xs ?_;change wpAny _ _ (forIn [] _ _) _ _ s;rw[ň];show Xs (Xs h)
end
noncomputable def jm(prog:ϓ)(w:ϕ):HeapKind prog w pN where
 is:=IsSt prog w
 hash:=vM
 draws:=λk=>↑k.2.2+4
 room:=λA=>A.units+1<cLine
 inj:=λhx hy=>hx.inj hy
 keeps:=λx ho hd hs=>x.keeps ho hd hs
 pyHash:=λhu hk h=>MK hu hk h
 eqBool:=λhu hx hy h=>WL hu hx hy h
 quiet:=λhk h=>Hm hk h
end Nk
namespace L2
open PySem PySem.Spec PyProof.Rows Nk
abbrev Sk:=Int×Int×ϊ Int
noncomputable def DN(x:Sk×ό×ϋ):DictEntry:=#[vM x.1,.ref x.2.1,x.2.2]
def SdP(a:ό)(kvs:ϊ (ό×Sk×V))(h:ϒ):Prop:=↑kvs<=sizeLine/\(a==sysModules)=false/\∃xs:ϊ (Sk×ό×ϋ),Paired (λ(p:ό×Sk×V) (q:Sk×ό×ϋ)=>p.2.1=q.1/\p.1=q.2.1/\RelV p.2.2 q.2.2) kvs xs/\∃o es ep,h.get? a=!o/\o.ExactDict/\o.data=.dict es ep/\es.toList=xs.map DN/\(xs.map (·.1)).Nodup
abbrev bF(a:ό)(kvs:ϊ (ό×Sk×V)):HO:=.ext (SdP a kvs)
def uD(H:Hp)(b:ό)(k:Sk):Prop:=∃c,H b=!(.tup [.int k.1,.int k.2.1,.ref c])/\H c=!(.tup (k.2.2.map V.int))
noncomputable def dj(kvs:ϊ (ό×Sk×V))(k:Sk):ύ V:=(kvs.find? λp=>decide (p.2.1=k)).map (·.2.2)
noncomputable def tU(kvs:ϊ (ό×Sk×V))(b:ό)(k:Sk)(v:V):ϊ (ό×Sk×V):=if(dj kvs k).isSome then kvs.map λp=>if p.2.1=k then(p.1,p.2.1,v)else p else kvs++[(b,k,v)]
def SGet(H:Hp)(a:ό)(y:V)(r:ύ V):Prop:=∃kvs k b,Rd H a (bF a kvs)/\(∀p∈kvs,uD H p.1 p.2.1)/\y=.ref b/\uD H b k/\r=dj kvs k
def SPut(H:Hp)(a:ό)(y v:V)(H':Hp):Prop:=∃kvs k b,H a=!(bF a kvs)/\(∀p∈kvs,uD H p.1 p.2.1)/\y=.ref b/\uD H b k/\↑kvs<sizeLine/\H'=upd H a (bF a (tU kvs b k v))
section
theorem vN{P:ϓ}{w:ϕ}:∀{ks:ϊ Int}{us:ϊ ϋ},Vals (ks.map V.int) us->ItemsAre (intKind P w) ks us
 |[],_,r=>by rw[Č]at r;cases r;show .nil|k::ks,_,r=>by
  rw[È]at r;cases r with|cons h t=>let#[t',rfl]:=(show∃t,_=Value.int k t from h);show .cons (intKind_is _ _ _ _) (vN t)
def rH(d:HOk P w H h)(e:uD H a k):(jm P w).is h k a:=by
 let#[c,f,g]:=e;let#[_,s,r,o,m,p,n,q]:=(show ObjOk P w H h a (.tup [.int k.1,.int k.2.1,.ref c])from d a _ f);let#[_,b,x,v,i,j,u,l]:=(show ObjOk P w H h c (.tup (k.2.2.map V.int))from d c _ g);cases r with|cons h1 t1=>
  cases t1 with|cons h2 t2=>
   cases t2 with|cons h3 t3=>
    cases t3;let#[y,rfl]:=(show∃t,_=Value.int k.1 t from h1);let#[z,rfl]:=(show∃t,_=Value.int k.2.1 t from h2);cases(show _=Value.ref c from h3);show#[o,n,_,_,c,m,p,q,intKind_is _ _ _ _,intKind_is _ _ _ _,#[v,b.toArray,u,i,j,l,by simpa using vN x]]
abbrev KS:ϊ (ό×Sk×V)->ϊ (Sk×ό×ϋ)->Prop:=Paired λp q=>p.2.1=q.1/\p.1=q.2.1/\RelV p.2.2 q.2.2
def KS.val(r:KS kvs xs)(k:Sk):RelO (dj kvs k) ((atKey xs k).map (·.2)):=by induction r with
 |nil=>show True.intro|@cons p q ps qs h t ih=>
  let#[b,_,c]:=h;by_cases e:p.2.1=k
  .have a:q.1=k:=b.symm.trans e;have z:atKey (q::qs) k=!q.2:=by simp[atKey,đ,a]
   have y:dj (p::ps) k=!p.2.2:=by simp[dj,đ,e]
   rw[y,z];show c
  .have a:¬q.1=k:=λz=>e (b.trans z);have z:atKey (q::qs) k=atKey qs k:=by simp[atKey,đ,a]
   have y:dj (p::ps) k=dj ps k:=by simp[dj,đ,e]
   rw[y,z];show ih
def KS.repl(r:KS kvs xs)(k:Sk)(d:RelV y u):KS (kvs.map λp=>if p.2.1=k then(p.1,p.2.1,y)else p) (xs.map (putAt k u)):=by induction r with
 |nil=>show .nil|@cons p q ps qs h t ih=>
  rw[È,È];show .cons ?_ ih;let#[a,b,c]:=h;unfold putAt;by_cases e:p.2.1=k;.rw [if_pos e,if_pos (a.symm.trans e)];show#[a,b,d]
  .rw [if_neg e,if_neg (λz=>e (a.trans z))];show#[a,b,c]
def KS.put(r:KS kvs xs)(k:Sk){b:ό}(a:RelV y u):KS (tU kvs b k y) (storedH xs k b u):=by
 have e:(dj kvs k).isSome=(atKey xs k).isSome:=by rw[(r.val k).isSome_eq,ő]
 unfold tU storedH;rw[e];by_cases q:(atKey xs k).isSome=true;.rw [if_pos q,if_pos q];show r.repl k a
 .rw [if_neg q,if_neg q];show Paired.snoc r #[rfl,rfl,a]
def Hn(kvs:ϊ (ό×Sk×V))(b:ό)(k:Sk)(v:V):↑(tU kvs b k v)<=↑kvs+1:=by
 unfold tU;split;.rw [Qb];rfl'
 .rw [Â,Þ];rfl'
def Pu(b:HOk P w H h)(e:Rd H a (bF a kvs)):ObjOk P w H h a (bF a kvs):=by
 rcases e with e|⟨o,e⟩;.show b a _ e
 .show (show ObjOk P w H h a (.frz o (bF a kvs))from b a _ e).2
def rJ(d:HOk P w H h)(e:Rd H a (bF a kvs))(n:∀p∈kvs,uD H p.1 p.2.1):↑kvs<=sizeLine/\(a==sysModules)=false/\∃xs,KS kvs xs/\h.DictOfH (jm P w) a xs:=by
 let#[#[z,y,xs,r,o,es,ep,f,g,i,j,k],_]:=Pu d e;show#[z,y,xs,r,o,es,ep,f,g,i,j,λx b=>?_,k];have all:∀{l:ϊ (ό×Sk×V)}{m:ϊ (Sk×ό×ϋ)},KS l m->(∀p∈l,uD H p.1 p.2.1)->∀x∈m,(jm P w).is h x.1 x.2.1:=by intro l m q;induction q with
  |nil=>intro _ x b;show nomatch b|@cons p q ps qs hq t ih=>
   intro c x b;rcases Å.mp b with e|b;.subst e;have:=rH d (c p Ë);rw[<-hq.1,<-hq.2.1];show this
   .show ih (λp m=>c p (Ì _ m)) x b
 show all r n x b
def Ho{P:ϓ}(z:↑kvs<=sizeLine)(m:(a==sysModules)=false)(d:KS kvs xs)(dd:∃o es ep,h'.get? a=!o/\o.ExactDict/\o.data=.dict es ep/\es.toList=xs.map DN/\(xs.map (·.1)).Nodup):ObjOk P w H' h' a (bF a kvs):=by let#[o,es,ep,f,h,i,j,l]:=dd;show#[#[z,m,xs,d,o,es,ep,f,h,i,j,l],#[o,f],λt u ⟨s,r,e,q,g,c,b,n,p⟩ k=>#[s,r,e,q,g,c,b,k g n,p]]
end
section
variable{X:Cx}
theorem xZ(B:A.units+2<cLine)(I:Inv X io σ H s)(g:SGet H a y !v)(t:RelV y u)(h:∀c s',Inv X io σ H s'->RelV v c->Q c s'):wpAny (model X.prog X.w) A (getItem (.ref a) u) Q E s:=by
 let#[kvs,k,b,e,n,m,j,l]:=g;subst m;cases(show u=Value.ref b from t);let#[z,x,xs,f,dd]:=rJ I.hok e n;let#[c,r,i]:=RelO.some_of (v:=v) (o:=(atKey xs k).map (·.2)) (by rw[l];show f.val k);let#[p,q,d]:=Ï.mp r;show wpAny_getItem_heap (knd:=jm X.prog X.w) (show A.units+1+1<cLine by rfl') (rH I.hok j) dd q ?_;rw[d];show h c _ (I.tok _) i
theorem WM(n:A.units+2<cLine)(I:Inv X io σ H s)(g:SGet H a y o)(m:RelV y u)(h:∀s',Inv X io σ H s'->Q (.bool o.isSome) s'):wpAny (model X.prog X.w) A (compareOp .In u (.ref a)) Q E s:=by
 let#[kvs,k,b,e,j,f,d,l]:=g;subst f;cases(show u=Value.ref b from m);let#[z,i,xs,c,dd]:=rJ I.hok e j;show wpAny_in_heap (knd:=jm X.prog X.w) (show A.units+1+1<cLine by rfl') (rH I.hok d) i dd ?_;have q:=(c.val k).isSome_eq;rw[ő]at q;rw[<-q,<-l];show h _ (I.tok _)
theorem Hq(n:A.units+2<cLine)(I:Inv X io σ H s)(g:SGet H a y o)(m:RelV y u)(h:∀s',Inv X io σ H s'->Q (.bool (not o.isSome)) s'):wpAny (model X.prog X.w) A (compareOp .NotIn u (.ref a)) Q E s:=by
 let#[kvs,k,b,e,j,f,d,l]:=g;subst f;cases(show u=Value.ref b from m);let#[z,i,xs,c,dd]:=rJ I.hok e j;show wpAny_notIn_heap (knd:=jm X.prog X.w) (show A.units+1+1<cLine by rfl') (rH I.hok d) i dd ?_;have q:=(c.val k).isSome_eq;rw[ő]at q;rw[<-q,<-l];show h _ (I.tok _)
theorem yc{Q:Unit->ώ->Prop}(J:A.units+2<cLine)(I:Inv X io σ H s)(g:SPut H a y v H')(G:RelV y u)(F:RelV v r)(h:∀s',Inv X io σ H' s'->Q Unit.unit s'):wpAny (model X.prog X.w) A (setItem (.ref a) u r) Q E s:=by
 let#[kvs,k,b,e,B,m,j,l,i]:=g;subst m i;cases(show u=Value.ref b from G);let#[z,x,xs,c,dd]:=rJ I.hok (.inl e) B;have hz:↑xs<=sizeLine:=by rw[<-ď c];show z
 have C:↑(tU kvs b k v)<=sizeLine:=by have:=Hn kvs b k v;rfl'
 show wpAny_setItem_heap (hsz:=hz) (knd:=jm X.prog X.w) (show A.units+1+1<cLine by rfl') (rH I.hok j) dd λh' d D=>h _ ?_;let#[q,es,ep,f,n,o,p,_,t]:=d;show iI I (by rw[e];show True.intro) D ⟨q,f⟩ (Ho C x (c.put k F) ⟨q,es,ep,f,n,o,p,t⟩)
end
end L2
end
section
namespace Nk
open PySem PySem.Spec PyProof.Rows Sx
section
theorem tV:∀a:ϊ Int,HT.lexLt a a=false
 |[]=>rfl|x::a=>by rw[HT.iG,if_pos rfl];show tV a
theorem vO:∀{a b:ϊ Int},HT.lexLt a b=true->HT.lexLt b a=false
 |[],[],h=>by cases h|[],_::_,_=>rfl|_::_,[],h=>by cases h|x::a,y::b,h=>by
  rw[HT.iG]at h⊢;by_cases e:x=y
  .rw [if_pos e]at h;rw[if_pos e.symm];show vO h
  .rw [if_neg e]at h;rw[if_neg (Ne.symm e)];have:=é h;show Ó ()
theorem Hr:∀{a b c:ϊ Int},HT.lexLt b a=false->HT.lexLt c b=false->HT.lexLt c a=false
 |[],[],c,_,h=>h|[],_::_,[],_,_=>rfl|[],_::_,_::_,_,_=>rfl|_::_,[],c,h,_=>by cases h|_::_,_::_,[],_,h=>by cases h|x::a,y::b,z::c,h1,h2=>by
  rw[HT.iG]at h1 h2⊢;by_cases e:y=x
  .rw [if_pos e]at h1;by_cases d:z=y;.rw [if_pos d]at h2;rw[if_pos (d.trans e)];show Hr h1 h2
   .rw [if_neg d]at h2;have:=Į h2;rw[if_neg ()];show Ó ()
  .rw [if_neg e]at h1;have:=Į h1;by_cases d:z=y;.rw [if_neg ()];show Ó ()
   .rw [if_neg d]at h2;have:=Į h2;rw[if_neg ()];show Ó ()
end
end Nk
namespace L2
open PySem PySem.Spec PyProof.Rows Sx Nk
section
variable{ep:Nat}
theorem lF:∀{ns:ϊ Int}{us:ϊ ϋ},Vals (ns.map V.int) us->IntsAre us ns
 |[],_,r=>by rw[Č]at r;cases r;show .nil|k::ks,_,r=>by
  rw[È]at r;cases r with|cons h t=>let#[t',rfl]:=(show∃t,_=Value.int k t from h);show .cons _ _ (lF t)
end
end L2
namespace L2
open PySem PySem.Spec PyProof.Rows Nk
def vP:TE:=λ_ H Q=>∀p,H p=none->Q (.ref p) (upd H p (bF p []))
def lG(td ty:TE):TE:=λσ H Q=>td σ H λx H1=>ty σ H1 λy H2=>∃a v,x=.ref a/\SGet H2 a y !v/\Q v H2
def R4(ty td:TE):TE:=λσ H Q=>ty σ H λy H1=>td σ H1 λx H2=>∃a o,x=.ref a/\SGet H2 a y o/\Q (.bl o.isSome) H2
def nQ(ty td:TE):TE:=λσ H Q=>ty σ H λy H1=>td σ H1 λx H2=>∃a o,x=.ref a/\SGet H2 a y o/\Q (.bl (not o.isSome)) H2
def vQ(td ty tv:TE):TS:=λD σ H=>tv σ H λv H1=>td σ H1 λx H2=>ty σ H2 λy H3=>∃a H4,x=.ref a/\SPut H3 a y v H4/\D.nx σ H4
section
variable{X:Cx}
theorem tW:PE X (.Dict [] [] pos) vP:=λb s c H Q I h=>wpAny_Dict_empty ⟨.ref s.heap.objs.size,_,I.laid (a:=s.heap.objs.size) (o:=bF s.heap.objs.size []) (t':=s.toks) (λ_ _ q=>Jn _ q) (Ç _)
  (Ho (á _) (Ĺ.mpr (Ne.symm (Ý I.big))) .nil ⟨_,([].toArray),0,Ê _ rfl,⟨rfl,rfl,rfl⟩,rfl,rfl,List.nodup_nil⟩),rfl,h _ (I.hok.fresh (Ç _))⟩
theorem MN(I:Inv X io d H s)(g:SGet H a y r):s.TypeIs (.ref a) "dict":=by let#[kvs,k,b,e,c,_]:=g;let#[_,_,xs,_,dd]:=rJ I.hok e c;show dd.typeIs
theorem iW(r:X.A.units+2<cLine)(p:PE X o td)(n:PE X i ty)(q:QH i):PE X (.Subscript o i pos) (lG td ty):=by intro b s e H Q I h;show Ax PySem.F.slot_dict_getitem.lookup q (bu (p b s e H _ I h) λu C ⟨x,f,k,z,t⟩=>bu (n b C e f _ k t) λD E ⟨y,j,d,B,a,v,m,g,w⟩=>?_);subst m;obtain rfl:u=Value.ref a:=z;show#[MN d g,xZ r d g B λJ G l c=>#[v,j,l,c,w]]
theorem R5(p:X.A.units+2<cLine)(m:PE X i ty)(n:PE X o td):PC X .In i o (R4 ty td):=by
 intro b s c H Q I h;show bu (m b s c H _ I h) λz w ⟨y,d,f,v,q⟩=>bu (n b w c d _ f q) λu B ⟨x,e,j,t,a,ov,l,g,r⟩=>?_;subst l;obtain rfl:u=Value.ref a:=t;show WM p j g v λC k=>#[.bl ov.isSome,e,k,rfl,r]
theorem rK(p:X.A.units+2<cLine)(m:PE X i ty)(n:PE X o td):PC X .NotIn i o (nQ ty td):=by
 intro b s c H Q I h;show bu (m b s c H _ I h) λz w ⟨y,d,f,v,q⟩=>bu (n b w c d _ f q) λu B ⟨x,e,j,t,a,ov,l,g,r⟩=>?_;subst l;obtain rfl:u=Value.ref a:=t;show Hq p j g v λC k=>#[.bl (not ov.isSome),e,k,rfl,r]
theorem tY(w:X.A.units+2<cLine)(q:PE X o td)(p:PE X i ty)(z:PE X value tv)(t:swapsWith value (!(.Subscript o i pos')) pos.line X.env=pure false):PS X (.Assign [.Subscript o i pos'] value pos) (vQ td ty tv):=by
 intro b s c H D I h;show wpAny_Assign_Subscript (bu (z b s c H _ I h) λr K ⟨v,d,j,F,B⟩=>bu (q b K c d _ j B) λu L ⟨x,e,k,G,C⟩=>bu (p b L c e _ k C) λN O ⟨y,M,l,J,a,f,n,g,E⟩=>?_) t;subst n;obtain rfl:u=Value.ref a:=G;show yc w l g J F λP m=>#[c,f,m,E]
theorem dN{k:Nat}(a:Room k A):A.units+2<cLine:=Ñ (ο (by decide:2<=64) _) a.units
end
end L2
end
section
namespace Nk
open PySem PySem.Spec PyProof.Rows
section
def MP{d:ό}{a:Obj}{es:ϔ DictEntry}{ep:Nat}(lo:(d==sysModules)=false)(c:a.ExactDict)(f:s.heap.get? d=!a)(b:a.data=.dict es ep)(e:(es.size:Int)<2^63)(h:∀t tk,Q (.int es.size t) {s with toks:=tk}):wpAny (model prog w) A (call (.builtin "len") [.ref d]) Q E s:=by
 have T:s.TypeIs (.ref d) "dict":=#[a,f,c.1];show Calls.call_function_entry kind_len plain_len entry_len (args_len1 _) ?_;unfold Builtin.«len»;show Qr (m:=oneArg "len" _) (Xs ?_);show Qr (m:=callSpecial? (.ref d) (Str.ofString "__len__")) (wpAny_callSpecial?_slot (name:=Str.ofString "__len__") T PySem.F.slot_dict_len (ê PySem.F.slot_dict_len T PySem.F.entry_dict_len ?_ (PySem.F.args_dict_len_1 _)));unfold Builtin.«dict.__len__» Builtin.Dict.dictSlotNone;show Qr (Qr (ĩ T ?_));change wpAny _ _ (pure (Value.ref d)) _ _ _;show Xs ?_;change wpAny _ _ (dictSize d>>=_) _ _ _;have g:¬((d==sysModules)=true):=by rw[lo];show Î
 unfold dictSize;show Qr (Qr (č f b (Xs ?_)));change wpAny _ _ (Builtin.Dict.pendingCount d>>=_) _ _ _;unfold Builtin.Dict.pendingCount;show Qr ?_;rw[if_neg g];show Xs ?_;change wpAny _ _ (retInt (((es.size:Nat):Int)+((0:Nat):Int))) _ _ _;rw[show((es.size:Nat):Int)+((0:Nat):Int)=(es.size:Int)by rfl'];show wpAny_ret_mkInt ?_;show Qr (ì (Xs ?_));show Qr (Ŕ ?_);change wpAny _ _ (if((es.size:Nat):Int)<0 then _ else _) _ _ _;rw[if_neg ()];change wpAny _ _ (if((es.size:Nat):Int)>=2^63 then _ else _) _ _ _;rw[if_neg ()];show Qr (wpAny_mkInt (Xs #[_,rfl,h _ _]))
end
end Nk
end
section
namespace Sy
open PySem PyProof.Rows
def rM{K:Type}[DecidableEq K]{xs:ϊ (K×ό×ϋ)}{k:K}(h:k∉xs.map (·.1)):atKey xs k=none:=by unfold atKey;rw[Ŝ,ņ];intro x a e;show h (Zp.mpr #[x,a,é e])
end Sy
end
section
namespace L2
open PySem PySem.Spec PyProof.Rows
def Ht:ϊ V->Hp->VK->Prop:=λxs H Q=>∃(a:ό)(kvs:ϊ (ϊ Key×V)),xs=[.ref a]/\H a=!(.dT kvs)/\Q (.int ↑kvs) H
def DP{X:Cx}:bC X (.builtin "len") Ht:=by
 intro d s n H xs us Q I l h;let#[a,kvs,rfl,e,q]:=h;let#[u,rfl,k]:=l.one;cases(show u=Value.ref a from k);let#[z,lo,xs,c,o,es,ep,f,g,i,j,_]:=qY I.hok e;have b:es.size=↑kvs:=by rw[<-Ā,j,Qb,ď c]
 show Nk.MP lo g f i (by rw[b];rw[ø]at z;rfl') λt m=>?_;rw[b];show#[.int ↑kvs,H,I.tok _,#[t,rfl],q]
end L2
end
section
namespace L2
open PySem PySem.Spec PyProof.Rows Sx Nk
section
variable{X:Cx}
theorem MT{k:Nat}(a:Room k A):A.units+12<cLine:=Ñ (ο (by decide:12<=64) _) a.units
end
end L2
end
section
namespace L2
open PySem PySem.Spec PyProof.Rows Nk
section
def HOk.freezeE(x:HOk P w H h)(g:H a=!(.ext S))(j:h.get? a=!od):HOk P w (upd H a (.frz od (.ext S))) h:=by
 have d:∀c y,H c=!(.own y)->upd H a (.frz od (.ext S)) c=!(.own y):=λc y q=>by rw[ak (bA q g (by intro z;cases z))];show q
 have f:∀c xs,H c=!(.tup xs)->upd H a (.frz od (.ext S)) c=!(.tup xs):=λc xs q=>by rw[ak (bA q g (by intro z;cases z))];show q
 intro b u e;by_cases i:b=a
 .rw [i]at e⊢;rw[aa]at e;cases e;show#[j,(x a _ g).stay (λc v _ q=>q) (λc q=>d c _ q) λc xs q=>f c xs q]
 .rw [ak i]at e;show(x b u e).stay (λc v _ q=>q) (λc q=>d c _ q) λc xs q=>f c xs q
end
theorem Inv.freezeE{X:Cx}(I:Inv X io e H s)(c:H a=!(.ext S))(f:s.heap.get? a=!d):Inv X io e (upd H a (.frz d (.ext S))) s:=by
 show I.call' (ch:=[]) rfl #[λb o q _ _ _=>q,λb o q _ _ _=>#[o.slots,q],λb o q n _=>?_,λb o q _=>#[o,q],λb xs q=>?_,λb o u q=>?_,λb ps q=>#[([].toArray),?_]] (I.hok.freezeE c f) I.bare λb g=>nomatch g;.rw [ak (λz=>by rw[z,c]at n;cases n)];show n
 .rw [ak (bA q c (by intro z;cases z))];show q
 .rw [ak (bA q c (by intro z;cases z))];show q
 .rw [ak (bA q c (by intro z;cases z)),q];simp
def mC(j:HOk P w H h)(f:H a=!(.frz b (bF a kvs))):h.get? a=!b/\b.ExactDict/\(a==sysModules)=false/\∃es ep xs,b.data=.dict es ep/\KS kvs xs/\es.toList=xs.map DN/\es.size=↑kvs:=by
 let#[c,#[_,y,xs,r,o,es,ep,d,g,i,e,_],_]:=(show ObjOk P w H h a (.frz b (bF a kvs))from j a _ f);rw[c]at d;cases d;show#[c,g,y,es,ep,xs,i,r,e,by rw[<-Ā,e,Qb];show(ď r).symm]
noncomputable def yd(od:Obj)(a:ό)(kvs:ϊ (ό×Sk×V)):It where
 go:=λi H=>H a=!(.frz od (bF a kvs))/\i<↑kvs
 yld:=λi H v H'=>H'=H/\∃p,kvs[i]?=!p/\v=.ref p.1
 stop:=λi H=>H a=!(.frz od (bF a kvs))/\↑kvs<=i
theorem ye{P:ϓ}{K:Ϗ}(l a:ό){Y:Obj}{es:ϔ DictEntry}{ep:Nat}(f:Y.data=.dict es ep):Turn P w K tg (yd Y a kvs) [l] l (λi h=>h.IsKeyIter l a i es.size ep)where
 mem:=by simp
 obj:=λi h st b j=>by
  let#[o,e,c,d]:=st;have e':b=l:=by simpa using j
  rw[e'];show#[o,e,λv z=>by rw[d]at z;cases z]
 keep:=λi h h' st k=>by let#[o,e,r]:=st;show#[o,k l (by simp) o e,r]
 item:=by
  intro X M R L T i g s Z H E I u st Q;subst M R L;let#[x,U]:=Q;let#[y,_,_,B,A,xs,m,n,S,hsz]:=mC I.hok x;rw[f]at m;cases m;let#[C,D,f2,F,G,J]:=u l (by simp);show pD st y f () λh' t hs=>?_;have I1:Inv X g Z H {s with heap:=h',toks:=s.toks}:=I.turned (λb o j e=>hs.extBut b o j e) C D F G J;let#[o,e,N,d]:=id t;let#[p,q,hk,hx,_,r2,_]:=il i n U;have O:(es[i]'(by rfl')).key=.ref p.1:=by
   have:es.toList[i]?=!(DN q):=by rw[S,À,hx];rfl
   rw[ÿ,ē ()]at this;rw[Ù this,r2];rfl
  show#[_,rfl,oF (s:={s with heap:=h'}) e N d (by decide) ⟨.ref p.1,H,I1,by rw[O];rfl,#[rfl,p,hk,rfl],t,λb j=>(u b j).1⟩]
 done:=by
  intro X M R L T i g s Z H E I u st Q;subst M R L;let#[x,U]:=Q;let#[y,_,_,B,A,xs,m,n,S,hsz]:=mC I.hok x;rw[f]at m
  cases m;let#[C,D,f2,F,G,J]:=u l (by simp);show tD (I.ok.hd T) st y f () λh' kk=>#[rfl,I.turned (t':=s.toks) (λb o j e=>kk b o j e) C D F G J]
 self:=λ_ _ _ _ _ st h=>δ st h
def tZ(tl:TE):TI:=λσ H R=>tl σ H λx H1=>∃a kvs,x=.ref a/\((H1 a=!(bF a kvs)/\∀od,R (yd od a kvs) (upd H1 a (.frz od (bF a kvs))))\/∃od,H1 a=!(.frz od (bF a kvs))/\R (yd od a kvs) H1)
def vR{X:Cx}(B:PE X l t):PI X tg l (tZ t):=by
 intro c s u H R I h;show bu (B c s u H _ I h) λv g ⟨x,n,k,D,C⟩=>?_;let#[a,kvs,rfl,q]:=C;cases D;let#[f,i,j,d,q]:∃f i,Inv X c u i g/\i a=!(.frz f (bF a kvs))/\R (yd f a kvs) i:=by
  rcases q with⟨d,q⟩|⟨f,d,q⟩;.obtain ⟨⟨_,_,_,_,o,es,ep,y,_⟩,_⟩:=(show ObjOk X.prog X.w n g.heap a (bF a kvs)from k.hok a _ d);show#[o,_,k.freezeE d y,aa,q o]
  .show #[f,n,k,d,q]
 let#[r,z,m,es,ep,xs,p,_]:=mC j.hok d;show lg m #[f,r,z.1] r p ?_;show#[g.heap.objs.size,[g.heap.objs.size],_,_,_,rfl,j.kept (t':=g.toks) λb o e=>Jn _ e,ye _ a p,#[_,Ê _ rfl,rfl,rfl],λb A=>?_,q];rw[Zl.mp A];show j.fpOk (Ç _) (j.hok.fresh (Ç _))
end L2
end
section
namespace Nk
open PySem
section
variable{i ep:Nat}
theorem N5{Q:϶}(lo:(d==sysModules)=false)(a:od.ExactDict)(b:s.heap.get? d=!od)(h:Q (.ref s.heap.objs.size) {s with heap:=s.heap.push {cls:=.type "dict_items",data:=.fields ([.ref d].toArray)}}):wpAny (model prog w) A (call (.builtin "dict.items") [.ref d]) Q E s:=by have T:s.TypeIs (.ref d) "dict":=#[od,b,a.1];show ê F.slot_dict_items T F.entry_dict_items ?_ (F.args_dict_items_1 _);unfold Builtin.«dict.items» Builtin.Dict.noArgs;show Qr (Qr (ĩ T (Xs (show wpAny _ _ (Builtin.Dict.showsAll d>>=_) _ _ s from ?_))));unfold Builtin.Dict.showsAll;rw[lo];show Qr (Xs (Qr (ð (Xs #[_,rfl,h]))))
theorem N6{Q:϶}(b:s.heap.IsItemsView v d)(c:s.heap.get? d=!od)(a:od.data=.dict es ep)(h:Q (.ref s.heap.objs.size) {s with heap:=s.heap.push {cls:=.type "dict_itemiterator",data:=.fields ([.none,.bool false,.ref d,.int 0 0,.int es.size 0,.int ep 0,.none,.none].toArray)}}):wpAny (model prog w) A (pyIter (.ref v)) Q E s:=by let#[o,e,_,f]:=id b;show wpAny_pyIter_slot b.typeIs F.slot_dict_items_iter (ê F.slot_dict_items_iter b.typeIs F.entry_dict_items_iter ?_ (F.args_dict_items_iter_1 _));unfold Builtin.«dict_items.__iter__» Builtin.Dict_items.dictOf Builtin.Dict_items.newIterator;show Qr (Xs (Qr (Qr (î e f (x:=.ref d) rfl (Xs (Qr (Qr (č c a (Qr (š c a ?_))))))))));simp only[show Builtin.Dict_items.ownsTuple "dict_itemiterator"=true by decide,ı];show ð (Xs #[_,rfl,"dict_itemiterator",_,#[_,Ê _ rfl,rfl],F.slot_dict_itemiterator_next.lookup,?_]) (by simp[sizeOk,Builtin.Dict_items.ownedTupleFields,ø]);simpa[rawInt,Builtin.Dict_items.ownedTupleFields]using h
theorem N7(f:IsItemIter s.heap it d i es.size ep ok ov)(l:s.heap.get? d=!od)(k:od.data=.dict es ep)(P:i<es.size)(O:∀h',IsItemIterOut h' it d (i+1) es.size ep es[i].key es[i].val s.heap.objs.size->h'.get? s.heap.objs.size=!{cls:=.type "tuple",data:=.seq ([es[i].key,es[i].val].toArray)}->h'.objs.size=s.heap.objs.size+1->(∀b o,b≠it->s.heap.get? b=!o->h'.get? b=!o)->Q (!(.ref s.heap.objs.size)) {s with heap:=h'}):wpAny (model prog w) A (pyNext (.ref it)) Q E s:=by
 have T:s.TypeIs (.ref it) "dict_itemiterator":=#[_,f,rfl];unfold pyNext;show Qr (ľ (wpAny_callSpecial?_slot (name:=Str.ofString "__next__") T ĳ (ê ĳ T F.entry_dict_itemiterator_next ?_ (F.args_dict_itemiterator_next_1 _))));have J:Builtin.Dict_items.ownsTuple "dict_itemiterator"=true:=by decide
 have K:¬(Value.ref d==Value.none)=true:=Î;have W:¬((i:Int)<0):=();have G:∀{s':ώ}{H:ϖ}{I:϶}{R:String->ώ->Prop},s'.TypeIs (.ref it) "dict_itemiterator"->R "dict_itemiterator" s'->wpAny (model prog w) H (typeNameOfWhole (.ref it)) R I s':=λa b=>wpAny_typeNameOfWhole_itemiter a b;repeat(first
  |(show G T ?_)|(show wpAny_fieldsOf f rfl ?_)|(show č l k ?_)|(show š l k ?_)|(show Xs ?_)|(show Qr ?_)|(simp only[J,ı])|(rw[if_neg K])|(rw[if_neg (by simp)]))
 rw[à,ē P];dsimp only;show Qr (Qr (G T (Xs (Qr (Κ T ?_)))));change wpAny (model prog w) A.in1 (do setField (.ref it) 3 (rawInt ((i:Int)+1));_) _ _ s;show Qr (þ f (by simp) λh j k1=>?_);replace k1:Heap.SameBut it s.heap h:=k1;replace j:IsItemIter h it d (i+1) es.size ep ok ov:=by unfold IsItemIter;rw[show((i+1:Nat):Int)=(i:Int)+1 by rfl'];simpa[rawInt]using j
 have t:Shared.TypeIs {s with heap:=h} (.ref it) "dict_itemiterator":=⟨_,j,rfl⟩;show Qr (ì (Qr (Κ t (Qr (Κ t ?_)))));change wpAny (model prog w) _ (Builtin.Dict_items.pairFromOwner (.ref it) 6 es[i].key es[i].val) _ _ {s with heap:=h};unfold Builtin.Dict_items.pairFromOwner Builtin.Dict_items.ownedTupleIsFree;show Qr (wpAny_newTuple ?_);have r:h.objs.size=s.heap.objs.size:=k1.1;have v:it<s.heap.objs.size:=É f;let#[g,m,S,U,k2,y]:∃g,IsItemIter g it d (i+1) es.size ep ok ov/\g.get? s.heap.objs.size=!{cls:=.type "tuple",data:=.seq ([es[i].key,es[i].val].toArray)}/\g.objs.size=s.heap.objs.size+1/\(∀b o,b≠it->s.heap.get? b=!o->g.get? b=!o)/\g=h.push {cls:=.type "tuple",data:=.seq ([es[i].key,es[i].val].toArray)}:=#[_,Jn _ j,by rw[<-r];show Ê _ rfl,by rw[ģ,r],λb o c e=>Jn _ (k1.extBut b o c e),rfl];rw[r];change wpAny (model prog w) _ _ _ _ {s with heap:=h.push {cls:=.type "tuple",data:=.seq ([es[i].key,es[i].val].toArray)}};rw[<-y];clear y j k1 t r;show Qr (Qr (î m rfl (x:=.none) rfl (Xs ?_)));simp only[ı];show Qr (î m rfl (x:=ok) rfl (Qr (î m rfl (x:=ov) rfl ?_)));show Qr (þ m (by simp) λz L k3=>Qr (þ L (by simp) λB M p=>Qr (þ M (by simp) λC N k5=>Qr (þ N (by simp) λn u q=>?_))));replace u:IsItemIterOut n it d (i+1) es.size ep es[i].key es[i].val s.heap.objs.size:=u;replace k3:Heap.SameBut it g z:=k3;replace p:Heap.SameBut it z B:=p;replace k5:Heap.SameBut it B C:=k5;replace q:Heap.SameBut it C n:=q;have D:∀b o,b≠it->g.get? b=!o->n.get? b=!o:=λb o c e=>q.extBut b o c (k5.extBut b o c (p.extBut b o c (k3.extBut b o c e)));show Qr (Ŕ (Xs (Xs #[_,rfl,Xs (O n u (D _ _ (ġ v) S) (by rw[q.1,k5.1,p.1,k3.1,U]) λb o c e=>D b o c (k2 b o c e))])))
theorem R6(r:A.handled=none)(c:IsItemIter s.heap it d i es.size ep ok ov)(f:s.heap.get? d=!od)(e:od.data=.dict es ep)(t:es.size<=i)(q:∀h',Heap.ExtBut it s.heap h'->Q none {s with heap:=h'}):wpAny (model prog w) A (pyNext (.ref it)) Q E s:=by
 have T:s.TypeIs (.ref it) "dict_itemiterator":=#[_,c,rfl];unfold pyNext;show Qr (ľ (wpAny_callSpecial?_slot (name:=Str.ofString "__next__") T ĳ (ê ĳ T F.entry_dict_itemiterator_next ?_ (F.args_dict_itemiterator_next_1 _))));have o:Builtin.Dict_items.ownsTuple "dict_itemiterator"=true:=by decide
 have p:¬(Value.ref d==Value.none)=true:=Î;have g:∀{s':ώ}{h:ϖ}{j:϶}{R:String->ώ->Prop},s'.TypeIs (.ref it) "dict_itemiterator"->R "dict_itemiterator" s'->wpAny (model prog w) h (typeNameOfWhole (.ref it)) R j s':=λa b=>wpAny_typeNameOfWhole_itemiter a b
 repeat(first
  |(show g T ?_)|(show wpAny_fieldsOf c rfl ?_)|(show č f e ?_)|(show š f e ?_)|(show Xs ?_)|(show Qr ?_)|(simp only[o,ı])|(rw[if_neg p])|(rw[if_neg (by simp)]))
 rw[à,Array.getElem?_eq_none t];dsimp only;show Qr (Qr (g T (Xs ?_)));change wpAny (model prog w) A.in1 (do setField (.ref it) 2 .none;_) _ _ s;show Qr (ń c rfl (by simp) (Qr ?_));have fin:∀h' x,Heap.ExtBut it s.heap h'->(∃ob,h'.get? x=!ob/\ob.cls=.type "StopIteration")->wpAny (model prog w) A (do let b<-isInstance (.ref x) (.type "StopIteration");if b=true then pure none else throw (.ref x)) Q E {s with heap:=h'}:=λh' x n ⟨ob,k,l⟩=>Qr (ŀ (T:="StopIteration") (b:=true) ⟨ob,k,l⟩ isSubtype_stop (Xs (q h' n)));simp only[newExc,newTuple,raiseNew];repeat(first
  |show fin _ _ (((ā ..).extBut.push _).push _) #[_,Ê _ rfl,rfl]|(show ð ?_ (by size_fits))|(show wpAny_handled ?_)|(show wpAny_throw ?_)|(show Xs ?_)|(rw[show A.in1.handled=none from r])|(show Qr (m:=firstArgMember _ _) (wpAny_of_eq (a:=Value.none) (by first|rfl|(simp only[firstArgMember];rfl)) ?_))|(show Qr ?_))
end
end Nk
namespace L2
open PySem PySem.Spec PyProof.Rows Nk
variable{k:Nat}
noncomputable def yf(od:Obj)(a:ό)(kvs:ϊ (ό×Sk×V)):It where
 go:=λi H=>H a=!(.frz od (bF a kvs))/\i<↑kvs
 yld:=λi H v H'=>∃p q,H p=none/\kvs[i]?=!q/\v=.ref p/\H'=upd H p (.tup [.ref q.1,q.2.2])
 stop:=λi H=>H a=!(.frz od (bF a kvs))/\↑kvs<=i
theorem vU{P:ϓ}{K:Ϗ}(l a:ό){Y:Obj}{es:ϔ DictEntry}{ep:Nat}(j:Y.data=.dict es ep):Turn P w K (.Tuple elts k tpos) (yf Y a kvs) [l] l (λi h=>∃ok ov,IsItemIter h l a i es.size ep ok ov)where
 mem:=by simp
 obj:=λi h st b hb=>by let#[ok,ov,st]:=st;rw[Zl.mp hb];show#[_,st,λv z=>by cases z]
 keep:=λi h h' ⟨ok,ov,st⟩ m=>#[ok,ov,m l (by simp) _ st]
 item:=by
  intro X J O G S i g s Q H E I r st M;subst J O G;let#[ok,ov,st]:=st;let#[B,T]:=M;let#[C,_,_,F,D,xs,u,A,R,hsz]:=mC I.hok B;rw[j]at u;cases u;show N7 st C j () λh' a1 a3 a4 a5=>?_;show#[_,rfl,wpAny_letOwnedTupleGo_items a1 λf b1 U=>?_];have hT:s.heap.objs.size≠l:=ġ (É st);let#[p,q,hk,t,_,r2,r3]:=il i A T;have L:es[i]'(by rfl')=DN q:=by
   have:es.toList[i]?=!(DN q):=by rw[R,À,t];rfl
   rw[ÿ,ē ()]at this;show Ù this
  have m:∀c o,c∉[l]->s.heap.get? c=!o->f.get? c=!o:=λc o d q=>by
   have x:c≠l:=λz=>d (by rw[z];simp);show U.extBut _ _ x (a5 c o x q)
  have Z:Inv X g Q H {s with heap:=f,toks:=s.toks}:=I.turnedAll m r;have e:H s.heap.objs.size=none:=I.hok.fresh (Ç _);have e5:f.get? s.heap.objs.size=!{cls:=.type "tuple",data:=.seq ([.ref p.1,q.2.2].toArray)}:=by
   have:=U.extBut _ _ hT a3;rw[L]at this;rw[r2];show this
  have un:Un (frs X.stack) [l] H (upd H s.heap.objs.size (.tup [.ref p.1,p.2.2])) s.heap f:=
   ⟨λb o q _ _ t=>m b o t q,λb o q _ _ t=>⟨o.slots,m b o t q⟩,λb o q n _=>by rw[ak (Ý (É q))];show n,λb o q t=>⟨o,m b o t q⟩,
    λb xs q=>by rw[ak (aN q e)];show q,λb o y q=>by rw[ak (aN q e)];show q,λb ps q=>⟨([].toArray),by rw[ak (aN q e),q];simp⟩⟩;have N:HOk X.prog X.w (upd H s.heap.objs.size (.tup [.ref p.1,p.2.2])) f:=HOk.track Z.hok e #[by change 2<=sizeLine;decide,[.ref p.1,q.2.2],.cons rfl (.cons r3 .nil),_,e5,rfl,_,rfl];have I2:Inv X g Q (upd H s.heap.objs.size (.tup [.ref p.1,p.2.2])) {s with heap:=f,toks:=s.toks}:=I.call' (s':={s with heap:=f,toks:=s.toks}) rfl un N I.bare λc d=>⟨(r c d).2.2.2.1,(r c d).2.1,(r c d).2.2.2.2⟩;show#[.ref s.heap.objs.size,_,I2,rfl,#[_,p,e,hk,rfl,rfl],#[_,_,b1],λc d=>?_];rw[Zl.mp d,ak (Ý (É st))];show(r l (by simp)).1
 done:=by
  intro X J O G S i g s Q H E I r st M;subst J O G;let#[ok,ov,st]:=st;let#[B,T]:=M;let#[C,_,_,F,D,xs,u,A,R,hsz]:=mC I.hok B;rw[j]at u;cases u;show R6 (I.ok.hd S) st C j () λh' m=>#[rfl,I.turnedAll (t':=s.toks) (λc o d q=>m c o (λz=>d (by rw[z];simp)) q) r]
 self:=λ_ _ _ _ _ ⟨_,_,st⟩ h=>PySem.W.kcp_self st h
def u5(tl:TE):TI:=λσ H R=>tl σ H λx H1=>∃a kvs,x=.ref a/\((H1 a=!(bF a kvs)/\∀od,R (yf od a kvs) (upd H1 a (.frz od (bF a kvs))))\/∃od,H1 a=!(.frz od (bF a kvs))/\R (yf od a kvs) H1)
theorem DQ{X:Cx}(J:PE X o E)(g:attributeBase o "items" X.env (eval o X.env)=eval o X.env:=by rfl)(i:(d.endLine==f.line)=true:=by rfl):PI X (.Tuple elts k tpos) (.Call (.Attribute o "items" d) [] [] f) (u5 E):=by
 intro c s A H R I h;show Ž g i (bu (J c s A H _ I h) λv m ⟨x,B,r,L,K⟩=>?_);let#[a,kvs,rfl,q]:=K;cases(show v=Value.ref a from L);let#[j,n,C,l,q]:∃j n,Inv X c A n m/\n a=!(.frz j (bF a kvs))/\R (yf j a kvs) n:=by
  rcases q with⟨l,q⟩|⟨j,l,q⟩;.obtain ⟨⟨_,_,_,_,o,es,ep,u,_⟩,_⟩:=(show ObjOk X.prog X.w B m.heap a (bF a kvs)from r.hok a _ l);show#[o,_,r.freezeE l u,aa,q o]
  .show #[j,B,r,l,q]
 let#[p,y,z,es,ep,xs,D,_]:=mC C.hok l;show#["dict","dict.items",Ĵ,ž,PySem.F.type_dict_items,#[j,p,y.1],λM u=>by cases u;show#[j,p,y.2.1],Ē rfl (ξ (N5 z y p ?_))];show N6 #[_,Ê _ rfl,rfl,rfl] (Jn _ p) D ?_;have t:Inv X c A n {m with heap:=m.heap.push {cls:=.type "dict_items",data:=.fields ([.ref a].toArray)}}:=C.kept (t':=m.toks) λb ob q=>Jn _ q;show#[_,[_],_,_,_,rfl,t.kept (t':=m.toks) λb o e=>Jn _ e,vU _ a D,#[_,_,Ê _ rfl],λb G=>?_,q];rw[Zl.mp G];show t.fpOk (Ç _) (t.hok.fresh (Ç _))
end L2
end
section
namespace Nk
open PySem
theorem Hu{a b:Type}{f:a->b}:∀(l:ϊ a)(i:Nat),(l.map f).eraseIdx i=(l.eraseIdx i).map f
 |[],_=>rfl|_::_,0=>rfl|x::l,i+1=>Ô (f x:: ·) (Hu l i)
section
variable{prog:ϓ}{w:ϕ}{K:Type}[DecidableEq K]{knd:HeapKind prog w K}{A:ϖ}{E:϶}{s:ώ}{d a:ό}{k:K}{xs:ϊ (K×ό×ϋ)}
theorem Hv(u:knd.room A)(b:knd.is s.heap k a)(D:s.heap.DictOfH knd d xs)(hsz:↑xs<=sizeLine)(n:∀(j:Nat)(p:ό×ϋ),xs[j]?=!(k,p)->Q p.2 {s with toks:=s.toks+knd.draws k})(m:k∉xs.map (·.1)->∀h',h'.DictOfH knd d (xs++[(k,a,v)])->Heap.SameBut d s.heap h'->Q v {s with heap:=h',toks:=s.toks+knd.draws k}):wpAny (model prog w) A (dictSetDefault d (.ref a) v) Q E s:=by
 let#[o,es,ep,h,C,f,i,g,t]:=D;unfold dictSetDefault;show ì (Qr (knd.pyHash u b (Qr (wpAny_dictFind_heap (s:={s with toks:=s.toks+knd.draws k}) u b h f i g t (λl=>?_) λj p r=>?_))))
 .have B:k∉xs.map (·.1):=not_mem_keys_of_get l;show Qr (ķ (Qr (wpAny_updateDictKeys (hz:=by have e:=size_of_entries i;rfl') (s:={s with toks:=s.toks+knd.draws k}) h f (Xs (m B _ ⟨_,_,ep+1,ï _ h (Obj.isFreed_of_dict (Ŭ f _)),C.mapDictKeys _,Ŭ f _,by simp[i,entryOfKey],λx c=>?_,?_⟩ (ā ..))))))
  .have all:knd.is s.heap x.1 x.2.1:=by
    rcases Ã.mp c with c|c;.show g x c
    .rw [Zl.mp c];show b
   show knd.keeps all h f (ā ..)
  .rw [Wp,Ü];show#[t,by simp,λx c y z e=>B (by rw[È,Č,Zl]at z;have q:x=k:=e.trans z;rw[<-q];show c)]
 .show Qr (č (s:={s with toks:=s.toks+knd.draws k}) h f ?_);rw[entry_at i j,r];show Qr (ķ (Xs (n j p r)))
theorem Hw{j:Nat}(B:knd.room A.in1)(b:knd.is s.heap k a)(y:s.heap.DictOfH knd d xs)(g:xs[j]?=!(k,p))(hsz:↑xs<=sizeLine)(h:∀h',h'.DictOfH knd d (xs.eraseIdx j)->Heap.SameBut d s.heap h'->Q p.2 {s with heap:=h',toks:=s.toks+knd.draws k}):wpAny (model prog w) A (call (.builtin "dict.pop") [.ref d,.ref a]) Q E s:=by
 have T:=y.typeIs;let#[o,es,ep,e,H,c,l,f,t]:=y;show ê F.slot_dict_pop T F.entry_dict_pop ?_ (F.args_dict_pop_2 _ _);unfold Builtin.«dict.pop» Builtin.Dict.keyAndDefault;show Qr (Qr (ĩ T (show wpAny _ _ (pure (d,Value.ref a,none)) _ _ s from Xs ?_)));have v:es.size=↑xs:=size_of_entries l;have I:j<↑xs:=(Ä.mp g).1;have ne:es.isEmpty=false:=by rw[Array.isEmpty_eq_false_iff];intro z;rw[z]at v;simp at v;rfl'
 dsimp only;rw[show(keyPart (Value.ref a)).isSome=false from rfl];simp only[Û,ý];show Qr (č e c (Qr (Xs ?_)));rw[ne];simp only[Û,ý];unfold Builtin.Dict.takeOut;show Qr (ì (Qr (knd.pyHash B b (Qr (wpAny_dictFind_heap (s:={s with toks:=s.toks+knd.draws k}) B b e c l f t (λu=>absurd g (u j p)) λi q m=>?_)))));have n:i=j/\q=p:=by
  have r:i<↑xs:=(Ä.mp m).1;have C:(xs.map (·.1))[i]?=!k:=by rw[À,m];rfl
  have D:(xs.map (·.1))[j]?=!k:=by rw[À,g];rfl
  have G:i=j:=(List.getElem?_inj (by rw[Qb];show r) t).mp (C.trans D.symm);subst G;rw[m]at g;cases g;show#[rfl,rfl]
 let#[rfl,rfl]:=n;show Qr (č (s:={s with toks:=s.toks+knd.draws k}) e c ?_);rw[entry_at l i,m];show Qr (wpAny_updateDictKeys (hz:=()) (s:={s with toks:=s.toks+knd.draws k}) e c (Xs ?_));dsimp only;simp only[Option.isNone_some,Û,ý];show Qr (Ŕ (Xs #[_,rfl,h _ #[_,_,ep+1,ï _ e (Obj.isFreed_of_dict (Ŭ c _)),H.mapDictKeys _,Ŭ c _,?_,λx J=>knd.keeps (f x (List.mem_of_mem_eraseIdx J)) e c (ā ..),?_] (ā ..)]));.rw [Array.eraseIdxIfInBounds,dif_pos (),Array.toList_eraseIdx,l];show Hu _ _
 .show Ć (List.Sublist.map _ (List.eraseIdx_sublist _ _)) t
end
end Nk
namespace L2
open PySem PySem.Spec PyProof.Rows Nk
def KT.drop(r:KT H kvs xs):∀{j:Nat},(xs.map (·.1)).Nodup->xs[j]?=!(k,p)->KT H (dm kvs k) (xs.eraseIdx j):=by induction r with
 |nil=>intro j _ h;cases h|@cons p0 q0 ps qs h0 t ih=>
  intro j b d;rw[È,æ]at b;have keys:∀{l:ϊ (ϊ Key×V)}{m:ϊ (ϊ Key×ό×ϋ)},KT H l m->m.map (·.1)=l.map (·.1):=λr=>by induction r with
   |nil=>rfl|cons h _ ih=>rw[È,È,ih,h.1]
  cases j with|zero=>
   cases d;have e:p0.1=k:=h0.1;have c:dm (p0::ps) k=ps:=by
    unfold dm;rw[Ğ,if_neg (by simp[e]),List.filter_eq_self];intro y f;have:y.1≠k:=λz=>b.1 (by rw[keys t];show Zp.mpr #[y,f,z]);show Õ this
   rw[c];show t|succ j=>
   have a:qs[j]?=!(k,p):=d;have ne:p0.1≠k:=λz=>b.1 (Zp.mpr #[(k,p),Yf a,(h0.1.symm.trans z).symm]);have c:dm (p0::ps) k=p0::dm ps k:=by unfold dm;rw[Ğ,if_pos (Õ ne)]
   rw[c];show .cons h0 (ih b.2 a)
def R7{xs:ϊ (ϊ Key×ό×ϋ)}(h:atKey xs k=!p):∃j:Nat,xs[j]?=!(k,p):=by let#[#[c,d],a,rfl]:=Ï.mp h;let#[j,b]:=ō.mp (ą a);have e:=Ţ a;show#[j,by rw[b,show c=k from é e]]
section
variable{X:Cx}
theorem R8(J:A.units+1<cLine)(I:Inv X io σ H s)(e:H a=!(.dT kvs))(u:H b=!(.tup (k.map kV)))(l:bx kvs k=!v)(h:∀m s',Inv X io σ (upd H a (.dT (dm kvs k))) s'->RelV v m->Q m s'):wpAny (model X.prog X.w) A (call (.builtin "dict.pop") [.ref a,.ref b]) Q E s:=by
 let#[z,D,xs,d,dd]:=qY I.hok e;let#[m,K,i]:=RelO.some_of (v:=v) (o:=(atKey xs k).map (·.2)) (by rw[<-l];show d.val k);let#[p,F,rfl]:=Ï.mp K;let#[j,r]:=R7 F;have g:(xs.map (·.1)).Nodup:=by let#[_,_,_,_,_,_,_,_,g]:=dd;show g
 show Hw (Ń J) (jg I.hok u) dd r (by rw[<-ď d];show z) λh' f G=>h _ _ ?_ i;let#[q,es,ep,t,x,y,B,_,C]:=f;show iI I (by rw[e];show True.intro) G ⟨q,t⟩ ⟨Nat.le_trans (G8 kvs k) z,D,_,(d.drop g r).keeps λc ys n=>?_,q,es,ep,t,x,y,B,C⟩;rw[ak (bA n e (λz=>nomatch z))];show n
theorem R9{z:V}(M:A.units+1<cLine)(I:Inv X io σ H s)(e:H a=!(.dT kvs))(m:H b=!(.tup (k.map kV)))(P:↑kvs<sizeLine)(N:RelV z r)(G:∀v x s',bx kvs k=!v->Inv X io σ H s'->RelV v x->Q x s') (J:∀s',bx kvs k=none->Inv X io σ (upd H a (.dT (kvs++[(k,z)]))) s'->Q r s'):wpAny (model X.prog X.w) A (call (.builtin "dict.setdefault") [.ref a,.ref b,r]) Q E s:=by
 let#[O,o,xs,d,dd]:=qY I.hok e;have T:=dd.typeIs;show ê PySem.F.slot_dict_setdefault T PySem.F.entry_dict_setdefault ?_ (PySem.F.args_dict_setdefault_3 _ _ _);unfold Builtin.«dict.setdefault» Builtin.Dict.keyAndDefault;show Qr (Qr (ĩ T (show wpAny _ _ (pure (a,Value.ref b,!r)) _ _ s from Xs ?_)));dsimp only;rw[o];simp only[Û,ý];have l:(xs.map (·.1)).Nodup:=by let#[_,_,_,_,_,_,_,_,l]:=id dd;show l
 show Qr (Hv (A:=A.in1) (Ń M) (jg I.hok m) dd (by rw[<-ď d];show O) (λj p K=>Xs #[_,rfl,?_]) λu h' h L=>Xs #[_,rfl,?_]);.have i:atKey xs k=!p:=atKey_of_get l K;have:=d.val k;rw[i]at this;cases f:bx kvs k with
  |none=>rw[f]at this;show absurd this (λz=>nomatch z)|some v=>rw[f]at this;show G v _ _ f (I.tok _) this
 .have f:bx kvs k=none:=by
   have i:atKey xs k=none:=Sy.rM u;have:=d.val k;rw[i]at this
   cases f:bx kvs k with
   |none=>rfl|some v=>rw[f]at this;show absurd this (λz=>nomatch z)
  show J _ f ?_;let#[q,es,ep,t,y,B,C,_,D]:=h;have g:KT H (kvs++[(k,z)]) (xs++[(k,b,r)]):=by have:=d.put k (b:=b) m N;rw[show putK kvs k z=kvs++[(k,z)]from f9 _ f,storedH_new (Sy.rM u)]at this;show this
  show iI I (by rw[e];show True.intro) L ⟨q,t⟩ ⟨by rw[Â,Þ];rfl',o,_,g.keeps λc ys n=>?_,q,es,ep,t,y,B,C,D⟩;rw[ak (bA n e (λz=>nomatch z))];show n
end
def Hx(td ty:TE):TE:=λσ H Q=>td σ H λx H1=>∃a,x=.ref a/\Wx H1 a/\ty σ H1 λy H2=>∃kvs k b v,H2 a=!(.dT kvs)/\y=.ref b/\H2 b=!(.tup (k.map kV))/\bx kvs k=!v/\Q v (upd H2 a (.dT (dm kvs k)))
def Hy(td ty tx:TE):TE:=λσ H Q=>td σ H λx H1=>∃a,x=.ref a/\Wx H1 a/\ty σ H1 λy H2=>tx σ H2 λz H3=>∃kvs k b,H3 a=!(.dT kvs)/\y=.ref b/\H3 b=!(.tup (k.map kV))/\↑kvs<sizeLine/\(∀v,bx kvs k=!v->Q v H3)/\(bx kvs k=none->Q z (upd H3 a (.dT (kvs++[(k,z)]))))
section
variable{X:Cx}
theorem N8(C:X.A.units+1<cLine)(B:PE X o td)(z:PE X e ty)(m:M1 X o "pop" apos e cpos):PE X (.Call (.Attribute o "pop" apos) [e] [] cpos) (Hx td ty):=by
 intro c s i H Q I h;show wpAny_Call_method m.base m.few m.line Ĵ PySem.F.slot_dict_pop PySem.F.type_dict_pop (bu (B c s i H _ I h) λu L ⟨x,j,g,J,a,t,d,E⟩=>?_);subst t;obtain rfl:u=Value.ref a:=J;let#[M,N,_]:=xu g d;show#[M,N,?_];rw[m.trees];show Ē rfl (Ĳ (ī (bu (z c L i j _ g E) λD P ⟨y,O,n,K,kvs,k,b,v,q,w,r,l,G⟩=>Ő ?_)));subst w;cases(show D=Value.ref b from K);show R8 C n q r l λS R p f=>#[v,_,p,f,G]
theorem Nb(N:X.A.units+1<cLine)(M:PE X o td)(J:PE X e ty)(K:PE X f tx)(m:M2 X o "setdefault" apos e f cpos):PE X (.Call (.Attribute o "setdefault" apos) [e,f] [] cpos) (Hy td ty tx):=by
 intro c s j H Q I h;show wpAny_Call_method m.base m.few m.line Ĵ PySem.F.slot_dict_setdefault PySem.F.type_dict_setdefault (bu (M c s j H _ I h) λu Y ⟨x,q,n,U,a,E,d,P⟩=>?_);subst E;obtain rfl:u=Value.ref a:=U;let#[t1,t2,_]:=xu n d;show#[t1,t2,?_];rw[m.trees];show Ē rfl (Ĳ (ī (bu (J c Y j q _ n P) λO Z ⟨y,r,w,W,R⟩=>ī (bu (K c Z j r _ w R) λfv s3 ⟨z,t,B,p,kvs,k,b,C,G,D,L,S,T⟩=>Ő ?_))));subst G
 cases(show O=Value.ref b from W);show R9 N B C D L p (λv w' s4 l g i=>#[v,t,g,i,S v l]) λs4 l g=>#[z,_,g,p,T l]
end
end L2
end
section
namespace Nk
open PySem
section
variable{n:Nat}
def Px(prog:ϓ)(w:ϕ)(A:ϖ)(P:Nat->ϋ->Prop)(St:Nat->ϒ->Prop)(bt:Nat->Nat->ϑ):Prop:=∀m i j x y (s:ώ) (Q:϶) (E:϶),St m s.heap->P i x->P j y->Q (.bool (bt i j)) s->wpAny (model prog w) A (richCompare .Lt x y) Q E s
theorem nR:(toString "min"++toString ".loop":String)="min.loop":=by decide
theorem Nf(W:Walks prog w A.in1 I fp wr n P St)(C:Px prog w A.in1 P St bt)(r:S∉fp):∀(k j:Nat)(s:ώ)(x:ϋ)(c:Nat),n=j+1+k->St (j+1) s.heap->P (argBest bt j) x->s.heap.get? S=!{cls:=.type "list",dict:=none,data:=.seq ([x,x].toArray) c,slots:=([].toArray)}->(∀v h' tk,P (argBest bt (n-1)) v->(∀b o,b∉wr->b≠S->s.heap.get? b=!o->h'.get? b=!o)->R (.ok (.ret v)) {s with heap:=h',toks:=tk})->codeAny (model prog w) A (.builtin "min.loop" #[[.ref I,.none,.ref S],[]]) R s:=by
 have t:S∉wr:=λh=>r (W.sub _ h);intro k;induction k with|zero=>intro j s x c J st B q u;have H:j+1=n:=J.symm;show Ę F.entry_min_loop ?_;rw[ĝ Ł _];show Qr (ć q rfl (Qr (Ι (W.done s _ _ (H▸st) λh' tk p=>?_))));have d:=p S _ t q;show Qr (ν d rfl (Qr (Ŕ (Xs (u x _ tk (by rw[<-H];show B) λb o m a e=>?_)))));rw[ó _ _ (Ne.symm a)];show p b o m e|succ k ih=>
  intro j s x c J st B q u;show Ę F.entry_min_loop ?_;rw[ĝ Ł _];show Qr (ć q rfl (Qr (Ι (W.item (j+1) s _ _ () st λy h' tk K i p=>?_))));have d:=p S _ t q;have off:∀{f:Obj->Obj}{b:ό}{o:Obj},b≠S->h'.get? b=!o->(h'.update S f).get? b=!o:=λm e=>by rw[ó _ _ (Ne.symm m)];show e
  change wpAny _ A.in1 (tryCatch (holding [y,y] (richCompare .Lt y x>>=_)) _>>=_) _ _ _;show Qr (Ι (ì (Qr (C _ (j+1) (argBest bt j) y x _ _ _ i K B (Qr (ì (ċ (Qr (Ŕ (Xs ?_))))))))));cases m:bt (j+1) (argBest bt j)with
  |true=>simp only[ı];show Qr (ν d rfl (Qr (Ŕ ?_)));rw[nR];show Xs #[plainId_quiet Ł _,ih (j+1) _ y _ () (W.frame _ _ _ i λb E o e=>off (λz=>r (z▸E)) e) (by rw[argBest,if_pos m];show K) (ï _ d rfl) λv D l G k2=>u v D l G λb o g a e=>k2 b o g a (off a (p b o g e))]|false=>simp only[Û,ý];show Qr (Ŕ ?_);rw[nR];show Xs #[plainId_quiet Ł _,ih (j+1) _ x c () i (by rw[argBest,if_neg (by rw[m];decide)];show B) d λv D l G k2=>u v D l G λb o g a e=>k2 b o g a (p b o g e)]
theorem Hz (h:wpAny (model prog w) A.in1 (pyIter x) (λit s₂=>∃I fp wr n P St bt,it=.ref I/\Walks prog w A.in1 I fp wr n P St/\St 0 s₂.heap/\(∀b∈fp,b<s₂.heap.objs.size)/\0<n/\Px prog w A.in1 P St bt/\∀v h' tk,P (argBest bt (n-1)) v->(∀b o,b∉wr->s₂.heap.get? b=!o->h'.get? b=!o)->Q v {s₂ with heap:=h',toks:=tk}) E s):wpAny (model prog w) A (call (.builtin "min") [x]) Q E s:=by
 show call_function_tree F.kind_min F.plain_min F.entry_min (F.args_min1 _) ?_;change wpAny _ A.in1 (Builtin.Builtins.bindParams "min" ["key","default"] 0 #[[],[]]>>=_) _ _ s;show Qr (wpAny_of_eq (a:=[none,none]) rfl (Qr (Xs (Qr (í h (λit s₂ j=>?_) λ_ _ e=>e)))));let#[I,fp,wr,n,P,St,bt,rfl,W,st,p,H,k,C]:=j;show Qr (ð ?_);have c:s₂.heap.objs.size∉fp:=λG=>ă _ (p _ G);have l:s₂.heap.objs.size∉wr:=λh=>c (W.sub _ h);rw[nR];show Xs #[plainId_quiet Ł _,Ę F.entry_min_loop ?_];rw[ĝ Ł _];have t:(s₂.heap.push {cls:=.type "list",data:=.seq ([].toArray)}).get? s₂.heap.objs.size=!{cls:=.type "list",dict:=none,data:=.seq ([].toArray) 0,slots:=([].toArray)}:=Ê _ rfl;show Qr (ć t rfl (Qr (Ι (W.item 0 _ _ _ H (W.frame _ _ _ st λb _ o e=>Jn _ e) λy h' tk K q u=>?_))));have d:=u s₂.heap.objs.size _ l t;have off:∀{f:Obj->Obj}{b:ό}{o:Obj},b≠s₂.heap.objs.size->h'.get? b=!o->(h'.update s₂.heap.objs.size f).get? b=!o:=λD e=>by rw[ó _ _ (Ne.symm D)];show e
 change wpAny _ A.in1 (updateSeq s₂.heap.objs.size (λ_=>([y,y].toArray))>>=_) _ _ _;show Qr (ν d rfl ?_);rw[nR];show Xs #[plainId_quiet Ł _,Nf W k c (n-1) 0 _ y _ () (W.frame _ _ _ q λb m o e=>off (λz=>c (z▸m)) e) K (ï _ d rfl) λv B r J k2=>C v B r J λb o i e=>?_];have g:b≠s₂.heap.objs.size:=Ý (É e);show k2 b o i g (off g (u b o i (Jn _ e)))
end
end Nk
namespace L2
open PySem PySem.Spec PyProof.Rows Nk
theorem vV(f:Nat->ϊ Int):∀k,argBest (λi j=>HT.lexLt (f i) (f j)) k<=k/\∀j,j<=k->HT.lexLt (f j) (f (argBest (λi j=>HT.lexLt (f i) (f j)) k))=false
 |0=>#[Nat.le_refl _,λj a=>by rw[Nat.le_zero.mp a];show tV _]|k+1=>by
  let#[d,c]:=vV f k;rw[argBest];split
  .rename_i b;show#[Nat.le_refl _,λj a=>?_];rcases Ź a with a|rfl;.show Hr (vO b) (c j ())
   .show tV _
  .rename_i b;show#[(),λj a=>?_];rcases Ź a with a|rfl;.show c j ()
   .show ŧ.mpr b
def HB:ϊ V->Hp->VK->Prop:=λvs H Q=>∃(a:ό)(kvs:ϊ (ϊ Int×V)),vs=[.ref a]/\H a=!(.dT (kvs.map λp=>(p.1.map Sum.inl,p.2)))/\kvs≠[]/\∀b k,H b=!(.tup (k.map V.int))->k∈kvs.map (·.1)->(∀k'∈kvs.map (·.1),HT.lexLt k' k=false)->Q (.ref b) H
def DR{X:Cx}(hc:X.calm=true)(hu:X.A.units+1<cLine):bC X (.builtin "min") HB:=by
 intro ac s σ H vs us Q I rv h;let#[a,kvs,rfl,ea,Z,q]:=h;let#[u,rfl,ru]:=rv.one;cases(show u=Value.ref a from ru);let#[z,hd,xs,P,dd]:=qY I.hok ea;let#[o,es,ep,J,Y,G,he,_,hn]:=dd;have E:↑kvs=↑xs:=by have:=ď P;rw[Qb]at this;show this
 have ad:es.size=↑kvs:=by rw[<-Ā,he,Qb,E]
 have N:0<↑kvs:=Ř.mpr Z;have c:∀{i:Nat}{x},xs[i]?=!x->∃p,kvs[i]?=!p/\H x.2.1=!(.tup (p.1.map V.int)):=λ{i x} d=>by
  have D:i<↑kvs:=by rw[E];show(Ä.mp d).1
  let#[p,y,h1,h2,h3,h4,_]:=il i P (by rw[Qb];show D);rw[d]at h2;cases h2;rw[À]at h1;let#[p',C,rfl]:=Ï.mp h1;show#[p',C,?_];rw[h4,Æ];rfl
 have tup:∀{i:Nat}{x p},xs[i]?=!x->kvs[i]?=!p->∃f:ϊ ϋ,IsTup s.heap x.2.1 f.toArray/\IntsAre f p.1:=λ{i x p} d l=>by let#[p',C,U]:=c d;rw[l]at C;cases C;let#[f,r,ht,_]:=I.tuple (iq (K:=X.K) U);show#[f,ht,lF r]
 let#[O,n]:∃O:Nat->ϊ Int,∀{i p},kvs[i]?=!p->O i=p.1:=⟨λi=>((kvs[i]?).map λp=>p.1).getD [],λ{i p} l=>by dsimp only;rw[l];rfl⟩;show Hz (lg hd ⟨o,J,Y.1⟩ J G ⟨s.heap.objs.size,s.heap.objs.size::a::xs.map (·.2.1),[s.heap.objs.size],↑kvs,(λi v=>∃x,xs[i]?=!x/\v=.ref x.2.1),(λi h=>h.IsKeyIter s.heap.objs.size a i es.size ep/\h.get? a=!o/\∀x∈xs,∀ob,s.heap.get? x.2.1=!ob->h.get? x.2.1=!ob),(λi j=>HT.lexLt (O i) (O j)),rfl,?W,⟨⟨_,Ê _ rfl,rfl,rfl⟩,Jn _ J,λx _ ob e=>Jn _ e⟩,?lt,N,?cmp,λv h' tk hv kp=> ?fin⟩)
 case lt=>
  intro b g;rw[show(s.heap.push {cls:=.type "dict_keyiterator",data:=.fields ([.ref a,.int 0 0,.int es.size 0,.int ep 0].toArray)}).objs.size=s.heap.objs.size+1 from ģ ..];rcases Å.mp g with rfl|g;.show Ĭ _
  rcases Å.mp g with rfl|g;.show Ġ (É J)
  let#[x,B,rfl]:=Zp.mp g;let#[i,D]:=ō.mp B;let#[p,l,_]:=c D;let#[f,#[ob,C,_],_]:=tup D l;show Ġ (É C)
 case cmp=>rintro m i j x y s' S R ⟨_,_,hk⟩ ⟨x',d,rfl⟩ ⟨y',hy,rfl⟩ F;let#[p1,L,_]:=c d;let#[p2,M,_]:=c hy;let#[i1,#[o1,g1,r1],n1]:=tup d L;let#[i2,#[o2,g2,r2],n2]:=tup hy M;dsimp only at F;rw[n L,n M]at F;show HT.wW (A:=X.A.in1) #[o1,hk x' (Yf d) _ g1,r1] #[o2,hk y' (Yf hy) _ g2,r2] n1 n2 (by change X.A.units+1<cLine;show hu) F
 case W=>
  have na:a≠s.heap.objs.size:=Ý (É J);have nx:∀x∈xs,x.2.1≠s.heap.objs.size:=λx B=>by let#[i,D]:=ō.mp B;let#[p,l,_]:=c D;let#[f,#[ob,C,_],_]:=tup D l;show Ý (É C)
  show#[λb g=>by rw[Zl.mp g];show Ë,λi h h' st k=>#[st.1.at λob e=>k _ Ë ob e,k a (Ì _ Ë) _ st.2.1,λx B ob e=>k _ (Ì _ (Ì _ (Zp.mpr #[x,B,rfl]))) _ (st.2.2 x B ob e)],λi s' S R D st F=>?_,λs' S R st F=>?_,λi s' S R st hq=>δ st.1 hq]
  .show pD st.1 st.2.1 G () λh' a1 T=>F _ h' s'.toks ?_ #[a1,(T.2 a na).trans st.2.1,λx B ob e=>(T.2 _ (nx x B)).trans (st.2.2 x B ob e)] λb ob g e=>(T.2 b λz=>g (by rw[z];simp)).trans e;have d:xs[i]?=!(xs[i]'(by rfl')):=Zs ();show#[_,d,?_];have:es.toList[i]?=!(entryOfKey (tupleKind (b8 X.prog X.w)) (xs[i]'(by rfl'))):=by rw[he,À,d];rfl
   rw[ÿ,ē ()]at this;rw[Ù this];rfl
  .show tD (I.ok.hd hc) st.1 st.2.1 G () λh' eb=>F h' s'.toks λb ob g e=>eb b ob (λz=>g (by rw[z];simp)) e
 case fin=>
  let#[x,d,rfl]:=hv;let#[p,l,U]:=c d;let#[b1,b2]:=vV O (↑kvs-1);show#[.ref x.2.1,H,I.kept (t':=tk) λb ob e=>kp b ob (λz=>?_) (Jn _ e),rfl,q _ _ U (Zp.mpr #[p,Yf l,rfl]) λk' mk=>?_];.show absurd (Zl.mp z) (Ý (É e))
  .obtain ⟨p',t,rfl⟩:=Zp.mp mk;let#[j,hj]:=ō.mp t;have ae:=(Ä.mp hj).1;have:=b2 j ();rw[n hj,n l]at this;show this
end L2
end
section
namespace Nk
open PySem PySem.Spec PyProof PyProof.Rows
mutual def u6:PyData->PyData->ϑ
 |.int a,.int b=>decide (a<b)|.str x,.str y=>decide (x.cps.toList<y.cps.toList)|.tuple xs,.tuple ys=>u9 xs ys|_,_=>false def u9:ϊ PyData->ϊ PyData->ϑ
 |[],[]=>false|[],_::_=>true|_::_,[]=>false|x::xs,y::ys=>if PyData.eqv x y=true then u9 xs ys else u6 x y end
mutual inductive CmpD:PyData->PyData->Prop where|int (a b:Int):CmpD (.int a) (.int b)|str (x y:ϐ):CmpD (.str x) (.str y)|tup {xs ys:ϊ PyData}:CmpDs xs ys->CmpD (.tuple xs) (.tuple ys)inductive CmpDs:ϊ PyData->ϊ PyData->Prop where|nil {ys:ϊ PyData}:CmpDs [] ys|over {xs:ϊ PyData}:CmpDs xs []|cons {x y:PyData} {xs ys:ϊ PyData}:CmpD x y->CmpDs xs ys->CmpDs (x::xs) (y::ys)end
section
theorem yg:∀{vs:ϊ ϋ}{ds:ϊ PyData}{a:ϊ ό},ReadsAll h vs ds a->↑vs=↑ds
 |_,_,_,.nil=>rfl|_,_,_,.cons _ r=>Ô (· +1) (yg r)
def Ra{m:Nat}{h:Type}{f:ϋ×ϋ->h->Sem (ForInStep h)}{i:h}{g:ϑ->h}(q:∀x y d e j bs (Q:ForInStep h->ώ->Prop),d.depth<=m->Reads s.heap x d j->Reads s.heap y e bs->CmpD d e->PyData.canLay0 d=true->PyData.canLay0 e=true->(if PyData.eqv d e=true then Q (.yield i) s else Q (.done (g (u6 d e))) s)->wpAny (model prog w) A (f (x,y) i) Q E s):∀(xs ys:ϊ ϋ)(ds es:ϊ PyData)(j bs:ϊ ό)(Q:h->ώ->Prop),PyData.depthAll ds<=m->ReadsAll s.heap xs ds j->ReadsAll s.heap ys es bs->CmpDs ds es->PyData.canLayAll0 ds=true->PyData.canLayAll0 es=true->(u9 ds es=decide (↑ds<↑es)->Q i s)->Q (g (u9 ds es)) s->wpAny (model prog w) A (forIn (xs.zip ys) i f) Q E s:=by intro xs;induction xs with
 |nil=>
  intro ys ds es j bs Q o n p c k l a b;cases n;rw[List.zip_nil_left,ň];show Xs (a ?_);cases es<;>simp[u9]|cons x xs ih=>intro ys ds es j bs Q o n p c k l a b;cases n with|cons r1 r2=>cases p with
   |nil=>rw[List.zip_nil_right,ň];show Xs (a (by simp[u9]))|cons k1 k2=>cases c with|cons c1 c2=>
     simp only[PyData.canLayAll0,ù]at k l;simp only[PyData.depthAll]at o;rw[ŷ,ö];show Qr (q _ _ _ _ _ _ _ () r1 k1 c1 k.1 l.1 ?_);rw[u9]at a b;split
     .rename_i e;rw[if_pos e]at a b;show ih _ _ _ _ _ Q () r2 k2 c2 k.2 l.2 (λz=>a (by rw[z];show decide_eq_decide.mpr (by simp))) b
     .rename_i e;rw[if_neg e]at b;show Xs b
def Ng:∀(n:Nat)(d e:PyData)(A:ϖ)(a b:ϋ)(l bs:ϊ ό)(Q:϶)(E:϶),d.depth<=n->CmpD d e->Reads s.heap a d l->Reads s.heap b e bs->PyData.canLay0 d=true->PyData.canLay0 e=true->A.units+n+1<cLine->Q (.bool (u6 d e)) s->wpAny (model prog w) A (richCompare .Lt a b) Q E s:=by intro n;induction n with
 |zero=>
  intro d e A a b l bs Q E p c h k r t H f;cases c with
  |int i j=>
   cases h;cases k;rw[u6]at f;show wpAny_lt_int (A:=A) (Q:=Q) f|str x y=>cases h;cases k;rw[u6]at f;show lt_str (A:=A) (Q:=Q) f|tup c=>simp[PyData.depth]at p
 |succ n ih=>
  intro d e A a b l bs Q E p c h k r t H f
  cases c with|int i j=>cases h;cases k;rw[u6]at f;show wpAny_lt_int (A:=A) (Q:=Q) f|str x y=>cases h;cases k;rw[u6]at f;show lt_str (A:=A) (Q:=Q) f|tup c=>cases h with|tuple e1 c1 d1 r1=>cases k with|tuple e2 c2 d2 r2=>
     rw[u6]at f;simp only[PyData.depth]at p;simp only[PyData.canLay0]at r t;show wpAny_richCompare_same_room (op:=.Lt) #[_,e1,c1] #[_,e2,c2] Ξ
      (ê Ξ #[_,e1,c1] PySem.F.entry_tuple_lt ?_ (PySem.F.args_tuple_lt_2 _ _)) ();change wpAny _ _ (isInstance (.ref _) (.type "tuple")>>=_) _ _ s;show Qr (ŀ #[_,e2,c2] Ŧ ?_);simp only[ĉ,Û,ý];show Qr (ŋ e1 d1 ?_);show Qr (ŋ e2 d2 ?_);show Qr ?_;show Ra (m:=n) (g:=λb=>#[!(.done (.ret (.bool b))),#[]]) ?_ _ _ _ _ _ _ _ () r1 r2 c r t ?_ ?_
     .intro x y d e l bs I G B C D u v q;show Qr (SeqAt.eqBoolOverData _ _ _ _ _ _ _ _ _ _ _ _ B C u v (by change A.units+1+_<cLine;rfl') ?_);split at q;.rename_i o;rw[o];simp only[ĉ,Û,ý];show Xs q
      .rename_i o;rw[ŧ.mpr o];simp only[Bool.not_false,ı];show Qr (ķ (Qr ?_));show ih _ _ _ _ _ _ _ _ _ G D B C u v (by change A.units+1+n+1<cLine;rfl') ?_;show Qr (Xs (Xs q))
     .intro z;rw[z]at f;rw[<-yg r1,<-yg r2]at f;show Xs #[_,rfl,(λe=>nomatch e),f]
     .show Xs #[_,rfl,(λe=>nomatch e),f]
end
end Nk
namespace L2
open PySem PySem.Spec PyProof PyProof.Rows Nk
def uc(K:Ϗ):ϊ V->Hp->VK->Prop:=λxs H Q=>∃(a:ό)(us:ϊ (V×PyData))(f:PyData->Int),xs=[.ref a]/\SqL K H a (us.map (·.1))/\us≠[]/\(∀u∈us,Dp K H u.1 u.2/\u.2.canLay0=true/\u.2.depth<=8)/\(∀u∈us,∀v∈us,CmpD u.2 v.2/\(u6 u.2 v.2=true->f u.2<=f v.2)/\(u6 u.2 v.2=false->f v.2<=f u.2))/\∀u∈us,(∀v∈us,f u.2<=f v.2)->Q u.1 H
theorem vW{bt:Nat->Nat->ϑ}{f:Nat->Int}{n:Nat}(h:∀i j,i<n->j<n->(bt i j=true->f i<=f j)/\(bt i j=false->f j<=f i)):∀k,k<n->argBest bt k<=k/\∀j,j<=k->f (argBest bt k)<=f j
 |0,_=>#[Nat.le_refl _,λj a=>by rw[Nat.le_zero.mp a];show Int.le_refl _]|k+1,hk=>by
  let#[g,c]:=vW h k ();let#[d,e]:=h (k+1) (argBest bt k) hk ();rw[argBest];split
  .rename_i b;show#[Nat.le_refl _,λj a=>?_];rcases Ź a with a|rfl;.show Int.le_trans (d b) (c j ())
   .show Int.le_refl _
  .rename_i b;show#[(),λj a=>?_];rcases Ź a with a|rfl;.show c j ()
   .show e (ŧ.mpr b)
def yh{X:Cx}(hc:X.calm=true)(hu:X.A.units+12<cLine):bC X (.builtin "min") (uc X.K):=by
 intro ah s σ H xs al Q I rv h;let#[a,us,f,rfl,hx,Y,R,B,q]:=h;let#[u,rfl,ru]:=rv.one;cases(show u=Value.ref a from ru);let#[c,r,Z,hz]:=I.list hx;have N:↑us=↑c:=by have:=↑r;rw[Qb]at this;show this
 have ag:0<↑us:=Ř.mpr Y;have g:∀{i:Nat}{v:ϋ},c[i]?=!v->∃u∈us,us[i]?=!u/\RelV u.1 v/\∃T,Reads s.heap v u.2 T:=λ{i v} L=>by
  have M:i<↑us:=by rw[N];show(Ä.mp L).1
  let#[u,D]:∃u,us[i]?=!u:=#[_,Zs M];have hm:=Yf D;let#[v',e',t]:=r.get (i:=i) (x:=u.1) (by rw[À,D];rfl);rw[L]at e';cases e';show#[u,hm,D,t,(R u hm).1.reads I t]
 let#[F,d]:∃F:Nat->PyData,∀{i u},us[i]?=!u->F i=u.2:=#[λi=>((us[i]?).map λp=>p.2).getD .none,λ{i u} hp=>by dsimp only;rw[hp];rfl];have O:a<s.heap.objs.size:=by let#[_,e,_]:=Z.isList;show É e
 have U:a≠s.heap.objs.size:=Ý O;have hsz:c.toArray.size=↑c:=Í;have W:=Walks.list (prog:=X.prog) (w:=X.w) (A:=X.A.in1) (I.ok.hd hc) s.heap.objs.size a U c.toArray;show Hz (wpAny_pyIter_list Z.isList #[s.heap.objs.size,List.range (s.heap.objs.size+1),[s.heap.objs.size],↑c,(λi v=>c[i]?=!v),(λi h=>(h.IsListIter s.heap.objs.size a i/\h.IsList a c.toArray)/\∀b o,s.heap.get? b=!o->h.get? b=!o),(λi j=>u6 (F i) (F j)),rfl,?W,#[#[#[_,Ê _ rfl,rfl,rfl],Z.isList.push _],λb o e=>Jn _ e],?lt,(),?cmp,?fin])
 case lt=>intro b C;rw[show(s.heap.push {cls:=.type "list_iterator",data:=.fields ([.ref a,.int 0 0].toArray)}).objs.size=s.heap.objs.size+1 from ģ ..];show ü.mp C
 case cmp=>rintro m i j x y s' J G ⟨_,hk⟩ hx hy l;let#[u,P,E,_,T,ra]:=g hx;let#[v,mv,ac,_,bs,rb]:=g hy;dsimp only at l;rw[d E,d ac]at l;show Ng 8 u.2 v.2 _ x y T bs _ _ (R u P).2.2 (B u P v mv).1 (Reads.keeps hk ra) (Reads.keeps hk rb) (R u P).2.1 (R v mv).2.1 (by change X.A.units+1+8+1<cLine;rfl') l
 case W=>
  have new:∀{h h':ϒ},(∀b o,s.heap.get? b=!o->h.get? b=!o)->(∀b o,b∉[s.heap.objs.size]->h.get? b=!o->h'.get? b=!o)->∀b o,s.heap.get? b=!o->h'.get? b=!o:=λh1 h2 b o e=>h2 b o (λz=>by rw[Zl.mp z]at e;show ă _ (É e)) (h1 b o e)
  show#[λb C=>by rw[Zl.mp C];show ü.mpr (Ĭ _),λi h h' st k=>#[W.frame i h h' st.1 λb C o e=>k b (ü.mpr ?_) o e,λb o e=>k b (ü.mpr (Ġ (É e))) o (st.2 b o e)],λi s' J G M st l=>W.item i s' J G (by rw[hsz];show M) st.1 λv h' tk L af k=>l v h' tk (by rw[<-List.getElem?_toArray];show L) #[af,new st.2 k] k,λs' J G st l=>W.done s' J G (by rw[hsz];show st.1) l,λi s' J G st l=>W.self i s' J G st.1 l];rcases Å.mp C with rfl|C;.show Ĭ _
  .rw [Zl.mp C];show Ġ O
 case fin=>
  intro v h' tk L kp;let#[u,P,E,t,_]:=g L;let#[b1,b2]:=vW (bt:=λi j=>u6 (F i) (F j)) (f:=λi=>f (F i)) (n:=↑c) (λi j M S=>by let#[x,mx,ad,_]:=g (Zs M);let#[y,my,ae,_]:=g (Zs S);rw[d ad,d ae];show(B x mx y my).2) (↑c-1) ();show#[u.1,H,I.kept (t':=tk) λb ob e=>kp b ob (λz=>?_) (Jn _ e),t,q u P λx mx=>?_];.rw [Zl.mp z]at e;show ă _ (É e)
  .obtain ⟨j,S⟩:=ō.mp mx;have ai:=(Ä.mp S).1;have:=b2 j ();rw[d S,d E]at this;show this
def vX{X:Cx}(K:Ϗ)(a:X.K=K)(b:X.calm=true)(c:X.A.units+12<cLine):bC X (.builtin "min") (uc K):=a▸yh b c
end L2
end
section
namespace L2
open PySem PySem.Spec PyProof.Rows Nk
variable{i k:Nat}{c v:ϋ}{a:ό}
section
variable{X:Cx}
theorem Nh(p:A.units+2<cLine)(I:Inv X io σ H s)(g:SGet H a y o)(n:RelV y u)(h:∀d s',Inv X io σ H s'->RelV (o.getD .non) d->Q d s'):wpAny (model X.prog X.w) A (call (.builtin "dict.get") [.ref a,u]) Q E s:=by
 let#[kvs,k,b,e,m,i,f,l]:=g;subst i;cases(show u=Value.ref b from n);let#[z,j,xs,c,dd]:=rJ I.hok e m;show call_meetsIn PySem.F.slot_dict_get dd.typeIs PySem.F.entry_dict_get (PySem.F.args_dict_get_2 _ _) (meetsH_dict_get (jm X.prog X.w) a b j) #[(show A.units+1+1<cLine by rfl'),k,xs,rH I.hok f,dd,h _ _ (I.tok _) ?_];rw[l];show(c.val k).getD rfl
end
def yj(td ty:TE):TE:=λσ H Q=>td σ H λx H1=>∃a kvs,x=.ref a/\Rd H1 a (bF a kvs)/\ty σ H1 λy H2=>∃o,SGet H2 a y o/\Q (o.getD .non) H2
theorem HD{X:Cx}{c:Pos}{q:TE}(G:X.A.units+2<cLine)(E:PE X o p)(D:PE X e q)(m:M1 X o "get" b e c):PE X (.Call (.Attribute o "get" b) [e] [] c) (yj p q):=by intro f s r H Q I h;show wpAny_Call_method m.base m.few m.line Ĵ PySem.F.slot_dict_get PySem.F.type_dict_get (bu (E f s r H _ I h) λu N ⟨x,t,j,L,a,kvs,C,d,J⟩=>?_);subst C;obtain rfl:u=Value.ref a:=L;let#[#[_,lo,_,_,n,es,ep,k,l,P,_],_]:=Pu j.hok d;show#[#[n,k,l.1],λO B=>by cases B;show#[n,k,l.2.1],?_];rw[m.trees];show Ē rfl (Ĳ (ī (bu (D f N r t _ j J) λR S ⟨y,v,w,M,ov,g,K⟩=>Ő ?_)));show Nh G w g M λU T z i=>#[_,v,z,i,K]
def pO(K:Ϗ):ϊ V->Hp->VK->Prop:=λxs H Q=>∃(a:ό)(ss:ϊ ϐ),xs=[.ref a]/\SqT K H a (ss.map V.str)/\ss≠[]/\∀s∈ss,Q (.str s) H
section
variable{X:Cx}{s:ώ}{a:ό}{ss:ϊ ϐ}{its:ϊ ϋ}
theorem jB(r:Vals (ss.map V.str) its)(h:its[i]?=!v):∃x t,ss[i]?=!x/\v=.str x t:=by
 have d:i<↑ss:=by have:=↑r;rw[Qb]at this;rw[this];show(Ä.mp h).1
 let#[x,c]:∃x,ss[i]?=!x:=#[_,Zs d];let#[e,b,a]:=r.get (i:=i) (x:=.str x) (by rw[À,c];rfl);rw[h]at b;cases b;let#[t,rfl]:=a;show#[x,t,c,rfl]
theorem Bk{h':ϒ}{d:Data}(a:∀b o,b∉[s.heap.objs.size]->(s.heap.push {cls:=c,data:=d}).get? b=!o->h'.get? b=!o):∀b o,s.heap.get? b=!o->h'.get? b=!o:=λb o e=>by show a b o (λf=>?_) (Jn _ e);rw[Zl.mp f]at e;show ă _ (É e)
end
theorem DW{X:Cx}(B:X.calm=true):bC X (.builtin "min") (pO X.K):=by
 intro w s S H xs us Q I L h;let#[a,ss,rfl,G,k,q]:=h;let#[u,rfl,J]:=L.one;cases(show u=Value.ref a from J);let#[b,r,p,hz]:=I.tuple G;have n:↑ss=↑b:=by have:=↑r;rw[Qb]at this;show this
 have o:0<↑ss:=Ř.mpr k;have m:s.heap.IsTuple a b.toArray:=p;have g:a<s.heap.objs.size:=by let#[_,e,_]:=p;show É e
 show call_min_walk (Ī m ⟨_,[_,a],[_],_,_,_,λi j=>decide (((ss[i]?).getD default).cps.toList<((ss[j]?).getD default).cps.toList),rfl,Walks.tuple (A:=X.A.in1) (I.ok.hd B) _ a (Ý g) b.toArray,⟨⟨_,Ê _ rfl,rfl,rfl⟩,m.push _⟩,λc d=>?_,by simpa using(show 0<↑b by rfl'),λi j P R s' O N C D h=>?_,λv h' M z E=>?_⟩)
 .show c<(s.heap.push _).objs.size;rw[ģ];rcases Å.mp d with rfl|d;.show Ĭ _
  .rw [Zl.mp d];show Ġ g
 .obtain ⟨x,t,f,rfl⟩:=jB r (by simpa using C);let#[y,t',l,rfl]:=jB r (by simpa using D);dsimp only at h;rw[f,l]at h;show richCompare_gives (op:=.Lt) (typeIs_str s' x t) (typeIs_str s' y t') F.slot_str_lt F.entry_str_lt (F.args_str_lt_2 _ _) (gives_str_lt x y t t') (λx=>nomatch x) h
 .obtain ⟨x,t,f,rfl⟩:=jB r (by simpa using z);show#[.str x,H,I.kept (t':=M) (Bk E),#[t,rfl],q x (Yf f)]
theorem DX{X:Cx}(B:X.calm=true):bC X (.builtin "max") (pO X.K):=by
 intro w s S H xs us Q I L h;let#[a,ss,rfl,G,k,q]:=h;let#[u,rfl,J]:=L.one;cases(show u=Value.ref a from J);let#[b,r,p,hz]:=I.tuple G;have n:↑ss=↑b:=by have:=↑r;rw[Qb]at this;show this
 have o:0<↑ss:=Ř.mpr k;have m:s.heap.IsTuple a b.toArray:=p;have g:a<s.heap.objs.size:=by let#[_,e,_]:=p;show É e
 show call_max_walk (Ī m ⟨_,[_,a],[_],_,_,_,λi j=>decide (((ss[j]?).getD default).cps.toList<((ss[i]?).getD default).cps.toList),rfl,Walks.tuple (A:=X.A.in1) (I.ok.hd B) _ a (Ý g) b.toArray,⟨⟨_,Ê _ rfl,rfl,rfl⟩,m.push _⟩,λc d=>?_,by simpa using(show 0<↑b by rfl'),λi j P R s' O N C D h=>?_,λv h' M z E=>?_⟩)
 .show c<(s.heap.push _).objs.size;rw[ģ];rcases Å.mp d with rfl|d;.show Ĭ _
  .rw [Zl.mp d];show Ġ g
 .obtain ⟨x,t,f,rfl⟩:=jB r (by simpa using C);let#[y,t',l,rfl]:=jB r (by simpa using D);dsimp only at h;rw[f,l]at h;show richCompare_gives (op:=.Gt) (typeIs_str s' x t) (typeIs_str s' y t') F.slot_str_gt F.entry_str_gt (F.args_str_gt_2 _ _) (gives_str_gt x y t t') (λx=>nomatch x) h
 .obtain ⟨x,t,f,rfl⟩:=jB r (by simpa using z);show#[.str x,H,I.kept (t':=M) (Bk E),#[t,rfl],q x (Yf f)]
theorem yl{X:Cx}(K:Ϗ)(a:X.K=K)(b:X.calm=true):bC X (.builtin "min") (pO K):=a▸DW b
theorem ym{X:Cx}(K:Ϗ)(a:X.K=K)(b:X.calm=true):bC X (.builtin "max") (pO K):=a▸DX b
def Rb(H:Hp)(v:V):Prop:=gb v=true\/∃a,v=.ref a/\((∃ys,H a=!(.lst ys))\/∃ys,H a=!(.tup ys))
def Bl(K:Ϗ):R2:=λx y H Q=>∃p xs z,y=.ref p/\SqL K H p xs/\x=.str z/\(∀v∈xs,Rb H v)/\Q (.bl (not (inV x xs))) H
theorem vY{H:Hp}:∀{xs:ϊ V}{us:ϊ ϋ},Vals xs us->(∀v∈xs,Rb H v)->us.any (qQ x)=xs.any λy=>CP y x
 |_,_,.nil,_=>rfl|y::xs,u::us,.cons r t,f=>by
  rw[Ľ,Ľ,vY t λv m=>f v (Ì _ m)];rcases f y Ë with h|⟨a,rfl,_⟩;.rw [sG r h]
  .cases r;rfl
theorem DY{X:Cx}(o:X.A.units+64<cLine):gA X (compareOp .NotIn) (Bl X.K):=by
 intro l s C H x y v u Q I j B h;let#[p,xs,z,rfl,n,rfl,k,q]:=h;cases B;let#[g,r,pl,hz]:=I.list n;have d:X.A.in1.units<cLine:=Ñ (show X.A.units+1<=X.A.units+64 by rfl') o;have key:∀{xs:ϊ V}{us:ϊ ϋ},Vals xs us->(∀v∈xs,Rb H v)->∀w∈us,SeqAt.EqAt X.A.in1 s w v (qQ (.str z) w):=by intro xs us r;induction r with
  |nil=>intro _ w b;cases b|cons r1 t ih=>
   intro f w b;rcases Å.mp b with rfl|b
   .rcases f _ Ë with h|⟨a,rfl,h|h⟩
    .rw [sG r1 h];show FZ r1 j h rfl
    .obtain ⟨ys,e⟩:=h;let#[i,_,c,_]:=I.list (ip (K:=X.K) e);cases r1;let#[t,rfl]:=j;show SeqAt.EqAt.list_str z t c.isList d
    .obtain ⟨ys,e⟩:=h;let#[i,_,c,_]:=I.tuple (iq (K:=X.K) e);cases r1;let#[t,rfl]:=j;show SeqAt.EqAt.tuple_str z t c d
   .show ih (λv m=>f v (Ì _ m)) w b
 show SeqAt.notIn_listAt (qQ (.str z)) pl.isList (λw b=>key r k w (by simpa using b)) #[.bl _,H,I,rfl,?_];rw[show g.toArray.any (qQ (.str z))=g.any (qQ (.str z))by simp,vY r k];show q
theorem yo{X:Cx}(K:Ϗ)(a:X.K=K)(b:X.A.units+64<cLine):gA X (compareOp .NotIn) (Bl K):=a▸DY b
def lH(K:Ϗ):ϊ V->Hp->VK->Prop:=λxs H Q=>∃(a:ό)(zs:ϊ (ό×ϐ×ϊ V)),xs=[.ref a]/\SqT K H a (zs.map λz=>V.ref z.1)/\(∀z∈zs,SqT K H z.1 (.str z.2.1::z.2.2))/\(zs.map (·.2.1)).Nodup/\↑zs<64/\∀r (ws:ϊ (ό×ϐ×ϊ V)),ws.Perm zs->(ws.map (·.2.1)).Pairwise (λa b=>a.cps.toList<b.cps.toList)->H r=none->Q (.ref r) (upd H r (.lst (ws.map λz=>V.ref z.1)))
theorem vZ{X:Cx}:bC X (.builtin "sorted") (lH X.K):=by
 intro A s σ H xs us Q I rv h;let#[a,zs,rfl,hx,hz,L,J,q]:=h;let#[u,rfl,ru]:=rv.one;cases(show u=Value.ref a from ru);let#[ac,r,pl,hsz]:=I.tuple hx;have ei:=pF r;subst ei;let#[ob,ho,hc,n,hd]:=pl;show iU (C:=λvs E=>∃h',E={s with heap:=h'}/\(∀b o,s.heap.get? b=!o->h'.get? b=!o)/\vs=zs.map λz=>Value.ref z.1)
  (Z:=λvs E y=>∃c:ϊ ϋ,y=c.toArray/\c.Perm vs/\(c.map (ir E.heap)).Pairwise (λa b=>a.cps.toList<b.cps.toList)) (λY R hR=>?_) λvs E hC=>?_;.show wpAny_collect_seq a (.inr rfl) ho hc hd (λh' O=>hR _ _ #[h',rfl,O,by simp]) (by rw[Í,Qb,ø];rfl')
 .obtain ⟨h',rfl,O,rfl⟩:=hC;have F:Inv X A σ H {s with heap:=h'}:=I.kept (t':=s.toks) O;have U:∀z∈zs,ir h' (.ref z.1)=z.2.1/\Sx.Fs h' (ir h') (.ref z.1):=by
   intro z j;let#[W,r1,p1,_]:=F.tuple (hz z j);let#[k,d,p,S,i]:=p1;cases r1 with|cons r2 rr=>
    let#[t,rfl]:=r2;have e:ir h' (.ref z.1)=z.2.1:=by unfold ir;dsimp only;rw[show h'.get? z.1=!k from d];dsimp only;rw[i];rfl
    show#[e,z.1,k,_,t,S,_,rfl,d,p,i,by rw[e]]
  have T:∀l:ϊ (ό×ϐ×ϊ V),(∀z∈l,z∈zs)->(l.map λz=>Value.ref z.1).map (ir h')=l.map (·.2.1):=λl hl=>by rw[Æ];show ĥ λz j=>(U z (hl z j)).1
  have m:↑(zs.map λz=>Value.ref z.1)<64:=by rw[Qb];show J
  show#[m,λA' Y P hP=>?_,λy x=>?_];.show Sx.iu (f:=ir h') (Ê _ rfl) m (λv hv=>?_) (by rw[T zs λz j=>j];show L) λc M D=>hP _ #[c,rfl,M,D];let#[z,j,rfl]:=Zp.mp hv;let#[a1,k,W,t,S,rest,e1,d,p,i,G]:=(U z j).2;show#[a1,k,W,t,S,rest,e1,?_,p,i,G];unfold Sx.mid;show Jn _ (Jn _ ?_);rw[Heap.get?_update_ne _ _ _ _ (Ý (É d))];show Jn _ d
  .obtain ⟨c,rfl,M,D⟩:=x;let#[B,N,rfl]:=Bg M.symm rfl;rw[T B λz j=>N.mem_iff.mp j]at D;let#[G,he]:=Bh h' (zs.map λz=>Value.ref z.1) (B.map λz=>Value.ref z.1).toArray;show#[.ref _,_,F.laid (t':=s.toks) (a:=h'.objs.size) (o:=.lst (B.map λz=>V.ref z.1)) (λb o hb=>pG hb) (Ç _) (show ObjOk X.prog X.w _ _ _ (.lst _)from#[?_,_,G,m7 (g:=λz=>z.1) B,he]),rfl,q _ B N D (F.hok.fresh (Ç _))];rw[Qb,N.length_eq,ø];rfl'
theorem ud{X:Cx}(K:Ϗ)(a:X.K=K):bC X (.builtin "sorted") (lH K):=a▸vZ
def Ep(K:Ϗ)(H:Hp)(a:ό)(xs:ϊ V):ϑ->Prop
 |true=>SqL K H a xs|false=>SqT K H a xs
def Wd(h:ϒ)(a:ό)(xs:ϔ ϋ):ϑ->Prop
 |true=>h.IsList a xs|false=>h.IsTuple a xs
noncomputable def WN:ϑ->String
 |true=>"list_iterator"|false=>"tuple_iterator"
abbrev ZM(q:ϑ)(l:ό):Obj:={cls:=.type (WN q),data:=.fields ([.ref l,.int 0 0].toArray)}
def WP(h:ϒ)(i l:ό)(k:Nat)(q:ϑ):Prop:=∃o,h.get? i=!o/\o.cls=.type (WN q)/\o.data=.fields ([.ref l,.int k 0].toArray)
theorem yp{X:Cx}(I:Inv X io σ H s):∀{q:ϑ},Ep X.K H a xs q->∃its,Vals xs its/\Wd s.heap a its.toArray q
 |true,h=>by let#[its,r,p,_]:=I.list h;show#[its,r,p.isList]|false,h=>by let#[its,r,p,_]:=I.tuple h;show#[its,r,p]
theorem Bo{i:ό}(a:l≠i):∀{q:ϑ},Drw prog w i l xs λk h=>WP h i l k q/\Wd h l xs q
 |true=>GZ a|false=>Mw a
theorem HF:∀{q:ϑ},Wd h a xs q->∃o,h.get? a=!o/\(o.cls=.type "list"\/o.cls=.type "tuple")/\(q=true->o.cls=.type "list")
 |true,⟨o,e,c,_⟩=>#[o,e,.inl c,λ_=>c]|false,⟨o,e,c,_⟩=>#[o,e,.inr c,λz=>by cases z]
noncomputable def Rc(K:Ϗ)(a b:ό)(q:ϑ):It:=⟨λi H=>∃xs ys x y,SqT K H a xs/\Ep K H b ys q/\xs[i]?=!x/\ys[i]?=!y,
  λi H v H'=>∃p x y,H p=none/\v=.ref p/\H'=upd H p (.tup [x,y])/\(∀xs,SqT K H a xs->xs[i]?=!x)/\∀ys,Ep K H b ys q->ys[i]?=!y,λi H=>∃xs ys,SqT K H a xs/\Ep K H b ys q/\(↑xs<=i\/↑ys<=i)⟩
structure ZipStG(z TI TO i1 i2 a b:ό)(q:ϑ)(i:Nat)(h:ϒ):Prop where
 hz:IsZip h z TI TO .none
 hTI:IsPair h TI (.ref i1) (.ref i2)hTO:∃u v,IsPair h TO u v
 h1:WP h i1 a i false
 h2:WP h i2 b i q
 aTO:a≠TO
 bTO:b≠TO
theorem Ni{X:Cx}{ys:ϊ V}(I:Inv X io σ H s):∀{q:ϑ},Ep X.K H a xs q->Ep X.K H a ys q->xs=ys
 |true,h,h'=>I.list_inj h h'
 |false,h,h'=>I.tuple_inj h h'
theorem pP{h:ϒ}{b TI TO:ό}{xs:ϔ ϋ}(D:ZipNe z TI TO i1 i2)(v:h.IsTuple a xs)(w:Wd h b ys q)(st:ZipStG z TI TO i1 i2 a b q i h):ZipApart z TI TO i1 i2 a b:=by
 let#[hz,t,#[E,v0,u],#[A,o,m,_],#[B,p,n,_],d,f]:=st;let#[C,j,g,_]:=v;let#[ob,k,s,_]:=HF w;have l:∀T:String,T≠"list"->T≠"tuple"->ob.cls≠.type T:=λT x y e=>by
  rcases s with c|c<;>rw[c]at e<;>cases e;.show x rfl
  .show y rfl
 have r:∀q,WN q≠"list"/\WN q≠"tuple"/\WN q≠"zip":=λq=>by cases q<;>decide
 show⟨D.TIz,D.TOz,D.i1z,D.i2z,D.TITO,D.TIi1,D.TIi2,D.TOi1,D.TOi2,D.i12,
  m8 j hz (by rw[g];change Value.type "tuple"≠Value.type "zip";decide),d,m8 j o (by rw[g,m];decide),m8 j p (by rw[g,n];cases q<;>decide),m8 k hz (l "zip" (by decide) (by decide)),f,m8 k o (by rw[m];show l _ (by decide) (by decide)),m8 k p (by rw[n];show l _ (r q).1 (r q).2.1)⟩
theorem Ea{P:ϓ}{K:Ϗ}{TI TO:ό}(a b:ό)(D:ZipNe z TI TO i1 i2):Turn P w K (.Tuple elts k tpos) (Rc K a b q) [z,TI,TO,i1,i2] z (ZipStG z TI TO i1 i2 a b q)where
 mem:=by simp
 obj:=λi h st c R=>by
  let#[hz,f,#[u,v,g],#[O,F,c1,d1],#[Q,G,c2,d2],_]:=st;simp only[Å,â,Ď]at R;rcases R with rfl|rfl|rfl|rfl|rfl;.show #[_,hz,λv z=>by cases z]
  .show #[_,f,λv z=>by cases z]
  .show #[_,g,λv z=>by cases z]
  .show #[O,F,λv z=>by rw[d1]at z;cases z]
  .show #[Q,G,λv z=>by rw[d2]at z;cases z]
 keep:=λi h h' st m=>by let#[hz,f,#[u,v,g],#[O,F,r1],#[Q,G,r2],n1,n2]:=st;show#[m z (by simp) _ hz,m TI (by simp) _ f,#[u,v,m TO (by simp) _ g],#[O,m i1 (by simp) _ F,r1],#[Q,m i2 (by simp) _ G,r2],n1,n2]
 item:=by
  intro X hP hw hK R i r s σ H E I J st hg;subst hP hw hK;let#[xs,ys,x,y,t,A,B,hy]:=hg;let#[L,rv,p,_]:=I.tuple t;let#[T,M,U]:=yp I A;have C:=pP D p U st;let#[u,hu,ru]:=rv.get B;let#[v,hv,ag]:=M.get hy;let#[hz,f,#[u0,v0,g],Y,Z,ac,ad]:=id st;show Dt C (Bo (q:=false) C.l1i1) (Bo (q:=q) C.l2i2) hz f g #[Y,(show s.heap.IsTuple a L.toArray from p)] #[Z,U] (x:=u) (y:=v) (by simpa using hu) (by simpa using hv) λh' a1 a2 a3 a4 a5 a7=>?_;show#[_,rfl,wpAny_letOwnedTupleGo_zip a1 λl b1 N=>?_];have hT:s.heap.objs.size≠z:=ġ (É hz);have m:∀c o,c∉[z,TI,TO,i1,i2]->s.heap.get? c=!o->l.get? c=!o:=λc o d e=>by simp only[Å,â,Ď,not_or]at d;show N.extBut _ _ d.1 (a7 c o d.1 d.2.2.1 d.2.2.2.1 d.2.2.2.2 e)
  have I1:Inv X r σ H {s with heap:=l,toks:=s.toks}:=I.turnedAll m J;have j:H s.heap.objs.size=none:=I.hok.fresh (Ç _);have e5:l.get? s.heap.objs.size=!{cls:=.type "tuple",data:=.seq ([u,v].toArray)}:=N.extBut _ _ hT a5;have un:Un (frs X.stack) [z,TI,TO,i1,i2] H (upd H s.heap.objs.size (.tup [x,y])) s.heap l:=⟨λb o q _ _ B=>m b o B q,λb o q _ _ B=>⟨o.slots,m b o B q⟩,λb o q n _=>by rw[ak (Ý (É q))];show n,λb o q B=>⟨o,m b o B q⟩,λb xs q=>by rw[ak (aN q j)];show q,λb o x q=>by rw[ak (aN q j)];show q,λb ps q=>⟨([].toArray),by rw[ak (aN q j),q];simp⟩⟩;have af:HOk X.prog X.w (upd H s.heap.objs.size (.tup [x,y])) l:=HOk.track I1.hok j #[by change 2<=sizeLine;decide,[u,v],.cons ru (.cons ag .nil),_,e5,rfl,_,rfl];have I2:Inv X r σ (upd H s.heap.objs.size (.tup [x,y])) {s with heap:=l}:=I.call' (s':={s with heap:=l}) rfl un af I.bare λc d=>⟨(J c d).2.2.2.1,(J c d).2.1,(J c d).2.2.2.2⟩;let#[#[O,F,r1],_]:=a3;let#[#[Q,G,r2],_]:=a4;show#[.ref s.heap.objs.size,_,I2,rfl,#[_,x,y,j,rfl,rfl,λal h=>by rw[I.tuple_inj h t];show B,λam h=>by rw[Ni I h A];show hy],#[b1,N.extBut _ _ D.TIz (a7 _ _ D.TIz D.TITO D.TIi1 D.TIi2 f),#[u,v,N.extBut _ _ D.TOz a2],#[O,N.extBut _ _ D.i1z F,r1],#[Q,N.extBut _ _ D.i2z G,r2],ac,ad],λc d=>?_];have ae:c<s.heap.objs.size:=by
   let#[#[O,F,_],#[Q,G,_]]:=(#[Y,Z]:_/\_);simp only[Å,â,Ď]at d;rcases d with rfl|rfl|rfl|rfl|rfl
   .show É hz
   .show É f
   .show É g
   .show É F
   .show É G
  rw[ak (Ý ae)];show(J c d).1
 done:=by
  intro X hP hw hK R i r s σ H E I J st hg;subst hP hw hK;let#[xs,ys,t,A,S]:=hg;let#[L,rv,p,_]:=I.tuple t;let#[T,M,U]:=yp I A;have C:=pP D p U st;let#[hz,f,#[u0,v0,g],Y,Z,_]:=id st;have ah:=↑rv;have ai:=↑M;show Ha (I.ok.hd R) C (Bo (q:=false) C.l1i1) (Bo (q:=q) C.l2i2) hz f g #[Y,(show s.heap.IsTuple a L.toArray from p)] #[Z,U] ?_ λh' m=>?_
  .rcases S with q|q;.left;simp;rfl'
   .right;simp;rfl'
  .show #[rfl,I.turnedAll (t':=s.toks) (λc o d e=>?_) J];simp only[Å,â,Ď,not_or]at d;show m c o d.1 d.2.2.1 d.2.2.2.1 d.2.2.2.2 e
 self:=λ_ _ _ _ _ st h=>wpAny_pyIter_zip st.hz h
theorem w5(a b:ό)(xs ys:ϔ ϋ)(q:ϑ):Meets (Builtin.«zip.__new__» #[[.type "zip",.ref a,.ref b],[]]) (λ_ R s=>s.heap.IsTuple a xs/\Wd s.heap b ys q/\R (.ok (.ret (.ref (Zn s.heap (vB a) (ZM q b)).objs.size))) {s with heap:=Wc s.heap (vB a) (ZM q b)}):=
 .of_wp λprog w A R s h=>by
  let#[e,g,d,i,f]:=s;let#[k1,k2,h]:=h;have k:=sub_zip;have j:Heap.IsTuple (Shared.heap ⟨e,g,d,i,f⟩) a xs:=k1;cases q with
  |true=>
   have c:Heap.IsList (Shared.heap ⟨e.push (vB a),g,d,i,f⟩) b ys:=Heap.IsList.push k2 _
   wp_walk using Ī j,wpAny_pyIter_list c;show#[_,rfl,h]|false=>
   have c:Heap.IsTuple (Shared.heap ⟨e.push (vB a),g,d,i,f⟩) b ys:=Heap.IsTuple.push k2 _
   wp_walk using Ī j,Ī c;show#[_,rfl,h]
theorem yq{s:ώ}{a b:ό}{xs:ϔ ϋ}(k1:s.heap.IsTuple a xs)(k2:Wd s.heap b ys q)(h:∀h',IsZip h' (s.heap.objs.size+4) (s.heap.objs.size+2) (s.heap.objs.size+3) .none->IsPair h' (s.heap.objs.size+2) (.ref s.heap.objs.size) (.ref (s.heap.objs.size+1))->
   IsPair h' (s.heap.objs.size+3) .none .none->WP h' s.heap.objs.size a 0 false->WP h' (s.heap.objs.size+1) b 0 q->(∀c o,s.heap.get? c=!o->h'.get? c=!o)->Q (.ref (s.heap.objs.size+4)) {s with heap:=h'}):
  wpAny (model prog w) A (call (.type "zip") [.ref a,.ref b]) Q E s:=by
 show callType_new F.called_zip (by decide) (F.typeCall_zip_2 _ _) (F.newCall_zip_2 _ _) (λf=>F.args_object_init_3 f _ _) F.entry_zip_new (w5 a b xs ys q) #[k1,k2,?_];generalize hj1:vB a=j1;generalize hj2:ZM q b=j2;have p:Obj.isFreed j1=false:=by rw[<-hj1];rfl
 have r:Obj.isFreed j2=false:=by rw[<-hj2];rfl
 have g:(Zj s.heap j1).objs.size=s.heap.objs.size+1:=ģ ..;have i:(Zk s.heap j1 j2).objs.size=s.heap.objs.size+2:=by rw[ģ,g]
 have j:(Zm s.heap j1 j2).objs.size=s.heap.objs.size+3:=by rw[ģ,i]
 have n:(Zn s.heap j1 j2).objs.size=s.heap.objs.size+4:=by rw[ģ,j]
 have up:∀{c o} {h:ϒ} {u:Obj},h.get? c=!o->(h.push u).get? c=!o:=λe=>Jn _ e
 have d:(Wc s.heap j1 j2).get? (Zn s.heap j1 j2).objs.size=!_:=Ê _ rfl;have m:(Wc s.heap j1 j2).get? (Zm s.heap j1 j2).objs.size=!_:=up (Ê _ rfl);have l:(Wc s.heap j1 j2).get? (Zk s.heap j1 j2).objs.size=!_:=up (up (Ê _ rfl));have k:(Wc s.heap j1 j2).get? (Zj s.heap j1).objs.size=!j2:=up (up (up (Ê _ r)));have t:(Wc s.heap j1 j2).get? s.heap.objs.size=!j1:=up (up (up (up (Ê _ p))));change _/\_;rw[i,j,n]at d;rw[g,i]at l;rw[j]at m;rw[g]at k;rw[n];show#[#[_,d,rfl],h _ d l m #[_,t,by subst hj1;rfl,by subst hj1;rfl] #[_,k,by subst hj2;rfl,by subst hj2;rfl] λc o x=>up (up (up (up (up x))))]
def HH(K:Ϗ)(ta:TA):TI:=λσ H R=>ta σ H λvs H1=>∃a b xs ys q,vs=[.ref a,.ref b]/\SqT K H1 a xs/\Ep K H1 b ys q/\R (Rc K a b q) H1
theorem Nm{X:Cx}{a b:Expr}(K:Ϗ)(E:X.K=K)(G:Gl X "zip")(Z:X.calm=true)(J:X.mg "zip"=none)(F:PA X [a,b] B)(L:starEach [a,b] X.env=[(false,eval a X.env),(false,eval b X.env)]:=by rfl)(j:starEach [b] X.env=[(false,eval b X.env)]:=by rfl):PI X (.Tuple elts k tpos) (.Call (.Name "zip" p) [a,b] [] pos) (HH K B):=by
 subst E;intro l s Y H R I h;show Call_ (jb I G J (show bootBuiltins "zip"=!(.type "zip")by ac_nf) (ğ (bu (F pos l s Y H _ I h) λus d ⟨vs,D,f,O,N⟩=>?_) (by rw[L,j]) (by rw[j];rfl)));let#[w,y,xs,ys,qb,e,t,u,q]:=N;subst e;cases O with|cons r rr=>cases rr with|cons r' rr=>
   cases rr;cases r;cases r';let#[v,rv,z,_]:=f.tuple t;let#[x,P,A]:=yp f u;have m:w<d.heap.objs.size:=by let#[o,e,_]:=z;show É e
   have n:y<d.heap.objs.size:=by let#[o,e,_]:=HF A;show É e
   show yq (show d.heap.IsTuple w v.toArray from z) A λh' C Q S T U M=>?_;show wpAny_pyIter_zip C ?_;show#[d.heap.objs.size+4,[d.heap.objs.size+4,d.heap.objs.size+2,d.heap.objs.size+3,d.heap.objs.size,d.heap.objs.size+1],_,_,D,rfl,f.kept (t':=d.toks) M,Ea w y #[?_,?_,?_,?_,?_,?_,?_,?_,?_,?_],#[C,Q,#[_,_,S],T,U,Ý (Ö m (Nat.le_add_right _ _)),Ý (Ö n (Nat.le_add_right _ _))],λc g=>?_,q];all_goals first
    |(change(_:Nat)≠_;rfl')|skip
   have i:d.heap.objs.size<=c:=by simp only[Å,â,Ď]at g;rcases g with rfl|rfl|rfl|rfl|rfl<;>(change(_:Nat)<=_;rfl')
   show f.fpOk i (f.hok.fresh i)
end L2
end
set_option linter.all false
namespace Mm
variable{k:Nat}
theorem fQ(x:Int)(m:Nat)(h:0<m):∃n:Nat,x%(m:Int)=(n:Int)/\n<m:=by have a:=Ħ x (b:=(m:Int)) ();have c:=Ě x (b:=(m:Int)) ();show#[(x%(m:Int)).toNat,(),()]
theorem Bp(x:Int)(k:Nat):∃n:Nat,x%(2^k:Int)=(n:Int)/\n<2^k:=by
 have e:((2^k:Nat):Int)=(2^k:Int):=by simp
 rw[<-e];show fQ x (2^k) (Nat.two_pow_pos k)
noncomputable def col(h:Nat)(i:Int):Nat:=(i*2862933555777941757/16%2^h).toNat
theorem HJ(h:Nat)(i:Int):i*2862933555777941757/16%2^h=(col h i:Int):=by let#[n,e,_]:=Bp (i*2862933555777941757/16) h;unfold col;rw[e];simp
theorem Rf(h:Nat)(i:Int):col h i<2^h:=by let#[n,e,l]:=Bp (i*2862933555777941757/16) h;unfold col;rw[e];simpa using l
theorem Np(k:Nat):(0:Int)<1*2^k:=by rw[Int.one_mul];show Int.pow_pos (by decide)
theorem cu{a b:Type}(f:a->ύ b)(xs:ϊ a)(x:a):(xs++[x]).filterMap f=xs.filterMap f++(f x).toList:=by
 rw[Ο];cases h:f x<;>simp[h]
noncomputable def cellAt(ns:ϊ Int)(k:Nat):Int:=ns.getD k 0
noncomputable def hgt(c:Int):Nat:=if c%2=0 then(1+c/2%6).toNat else(1+c/2%60).toNat
noncomputable def ue:ϊ Nat->ϊ Nat->Nat
 |x::xs,y::ys=>Bm.pop (x^^^y)+ue xs ys|_,_=>0
theorem w6:∀xs ys:ϊ Nat,((List.zipWith (λx y=>((Bm.pop (x^^^y):Nat):Int)) xs ys).sum:Int)=(ue xs ys:Nat)
 |[],_=>by simp[ue]|_::_,[]=>by simp[ue]
 |x::xs,y::ys=>by rw[List.zipWith_cons_cons,Ŗ,w6 xs ys,ue];rfl'
theorem getD_some{z:Int}(h:ns[k]?=!z):cellAt ns k=z:=by unfold cellAt;rw[Á,h];rfl
theorem getD_none(h:↑ns<=k):cellAt ns k=0:=by unfold cellAt;rw[Á,Ċ h];rfl
def On(h n:Nat)(s:Int×Int):Prop:=0<=s.1/\s.1<n/\0<=s.2/\s.2<h
instance decOn (h n:Nat) (s:Int×Int):Decidable (On h n s):=by unfold On;show inferInstance
noncomputable def wg(c:Int):Nat:=if c%4=3 then(1+c/4%60).toNat else(1+c/4%6).toNat
theorem Nq(c:Int):wg c<=60:=by unfold wg;split<;>rfl'
end Mm
section
namespace L2
open PySem
variable{n:Nat}{A:Prop}{i j k:Int}{H H':Hp}{a e:ό}
theorem WQ{B:Prop}(h:B):if(not true)=true then A else B:=xm h
theorem WR{B:Prop}(h:A):if(not false)=true then A else B:=G7 h
theorem dO{p B:Prop}[Decidable p](a:p->A)(b:¬p->B):if decide p=true then A else B:=by
 by_cases h:p;.rw [Õ h];show G7 (a h)
 .rw [Ó h];show xm (b h)
theorem lJ{p B:Prop}[Decidable p](a:¬p->A)(b:p->B):if(not (decide p))=true then A else B:=by
 by_cases h:p;.rw [Õ h];show xm (b h)
 .rw [Ó h];show G7 (a h)
theorem Rg{B:Prop}(a:b=true->A)(c:b=false->B):if b=true then A else B:=by
 cases b with
 |true=>show G7 (a rfl)|false=>show xm (c rfl)
theorem mY{p B:Prop}[Decidable p](a:p)(h:A):if decide p=true then A else B:=dO (λ_=>h) λn=>absurd a n
theorem mZ{p B:Prop}[Decidable p](a:¬p)(h:B):if decide p=true then A else B:=dO (λn=>absurd n a) λ_=>h
theorem mD{p B:Prop}[Decidable p](a:p)(h:B):if(not (decide p))=true then A else B:=lJ (λn=>absurd a n) λ_=>h
theorem WT{b:Type}[DecidableEq b]{a:b}{B:Prop}(h:A):if decide (a=a)=true then A else B:=mY rfl h
theorem Rh{b:Type}[DecidableEq b]{a:b}{B:Prop}(h:B):if(not (decide (a=a)))=true then A else B:=mD rfl h
theorem HN{p B:Prop}[Decidable p](a:¬p)(h:A):if(not (decide p))=true then A else B:=lJ (λ_=>h) λn=>absurd n a
theorem Same.new{a:Hp}(e:Same a H)(h:H p=none):Same a (upd H p o):=λb u q=>by rw[ak (aN (e b u q) h)];show e b u q
theorem Same.tup{K:Ϗ}{xs:ϊ V}(e:Same H H')(h:SqT K H a xs):SqT K H' a xs:=by
 rcases h with(h|⟨o,h⟩)|h;.show .inl (.inl (e _ _ h))
 .show .inl (.inr #[o,e _ _ h])
 .show .inr h
theorem lK(h:H p=none)(q:SqL K H a xs):SqL K (upd H p o) a xs:=Same.seq (Same.new (ix H) h) q
theorem ZP{r:St}:qZ (none::r) (some v::r):=⟨rfl,λj u z=>by match j,z with|j+1,z=>show z⟩
theorem ext2{r:St}:qZ (none::none::r) (some v::some w::r):=⟨rfl,λj u z=>by match j,z with|j+2,z=>show z⟩
theorem Py(a b:Int):decide (V.int a=V.int b)=decide (a=b):=by simp
theorem yr(h:0<=k):gO xs none (!k)=xs.take k.toNat:=by
 unfold gO;change(xs.drop 0).take ((if k<0 then(k+(↑xs:Int)).toNat else min k.toNat ↑xs)-0)=_;rw[if_neg (),List.drop_zero,Nat.sub_zero];rcases χ k.toNat ↑xs with q|q;.rw [Ŷ q]
 .rw [Ű q,ë (Ç _),ë q]
theorem wj(h:0<=k):gO xs (!k) none=xs.drop k.toNat:=by
 unfold gO;change(xs.drop (if k<0 then(k+(↑xs:Int)).toNat else min k.toNat ↑xs)).take (↑xs-(if k<0 then(k+(↑xs:Int)).toNat else min k.toNat ↑xs))=_;rw[if_neg ()];rcases χ k.toNat ↑xs with q|q;.rw [Ŷ q,ë (by rw[Ĉ];rfl')]
 .rw [Ű q,ŝ (Ç _),ŝ q];simp
theorem Br(h:0<=k)(a:0<=j):gO xs (!k) (!j)=(xs.take j.toNat).drop k.toNat:=by
 unfold gO;change(xs.drop (if k<0 then(k+(↑xs:Int)).toNat else min k.toNat ↑xs)).take ((if j<0 then(j+(↑xs:Int)).toNat else min j.toNat ↑xs)-(if k<0 then(k+(↑xs:Int)).toNat else min k.toNat ↑xs))=_;rw[if_neg (Int.not_lt.mpr h),if_neg (Int.not_lt.mpr a),List.drop_take];generalize k.toNat=k;generalize j.toNat=j;rcases χ k ↑xs with c|c
 .rw [Ŷ c,List.take_eq_take_iff,Ĉ];rcases χ j ↑xs with d|d;.rw [Ŷ d]
  .rw [Ű d,Nat.min_self,Ű (Nat.sub_le_sub_right d k)]
 .rw [Ű c,ŝ (Ç _),ŝ c,List.take_nil,List.take_nil]
theorem nT(i:Int)(ns:ϊ Int):inV (.int i) (ns.map V.int)=decide (i∈ns):=by unfold inV;rw[List.any_map];induction ns with
 |nil=>simp
 |cons n r ih=>
  rw[Ľ,ih];by_cases h:n=i;.subst h;simp[CP]
  .simp [CP,h,Ne.symm h]
theorem lM(ns:ϊ Int):(ns.map V.int).all gb=true:=by rw[List.all_map];simp[Function.comp_def,gb]
theorem Ri{a:Type}{xs:ϊ a}(h:xs≠[]):uP xs (-1)=!(xs.getLast h):=by have e:=uQ xs.dropLast (xs.getLast h);rwa[List.dropLast_concat_getLast]at e
theorem HQ{b:Type}{xs:ϊ b}(c:0<=i)(a:i.toNat<↑xs):uP xs i=!xs[i.toNat]:=by have e:=aM (xs:=xs) (j:=i.toNat) (v:=xs[i.toNat]) (Zs a);rwa[show((i.toNat:Nat):Int)=i by rfl']at e
theorem Nr(xs:ϊ Nat):xs.map (λi:Nat=>V.int (i:Int))=(xs.map λi:Nat=>(i:Int)).map V.int:=by rw[Æ];rfl
section
theorem PB{t:TS}(h:t {D with nx:=u D} σ H):aB t u D σ H:=h
theorem WW(h:te σ H λx H1=>g x σ H1 D.nx):aK te g D σ H:=h
theorem WX(h:te σ H D.rt):aR te D σ H:=h
theorem Rj(h:D.nx σ H):aW D σ H:=h
theorem Rk(h:te σ H λ_ H1=>D.nx σ H1):cA te D σ H:=h
theorem WY{t:TS}(h:c σ H λb H1=>if b=true then t D σ H1 else u D σ H1):bG c t u D σ H:=h
theorem X3{i:Nat}(e:σ[i]?=!(!v))(h:Q v H):dH i σ H Q:=#[v,e,h]
theorem s_c(h:Q v H):tC v σ H Q:=h
theorem ZQ{r:R2}(h:ta σ H λx H1=>tb σ H1 λy H2=>r x y H2 Q):aL r ta tb σ H Q:=h
theorem ZR{r:V->Hp->VK->Prop}(h:ta σ H λx H1=>r x H1 Q):Lr r ta σ H Q:=h
theorem ZS{r:ϊ V->Hp->VK->Prop}(h:t σ H λvs H1=>r vs H1 Q):gw r t σ H Q:=h
theorem s_call(h:t σ H λvs H1=>sp vs H1 Q E):eY sp [] E t σ H Q:=by unfold eY;simpa only[ò]using h
theorem X4{R:ϊ V->Hp->Prop}(h:R [] H):cY σ H R:=h
theorem Rm{a:TA}{R:ϊ V->Hp->Prop}(h:ta σ H λx H1=>a σ H1 λxs H2=>R (x::xs) H2):bM ta a σ H R:=h
theorem Rn(h:te σ H λx H'=>∃k,x=.bl k/\R k H'):aP te σ H R:=h
theorem X5(h:te σ H λx H'=>∃k,Ft K x H' k/\R k H'):jF K te σ H R:=h
theorem ZV{R:ϑ->Prop}(h:R b):∃k,V.bl b=.bl k/\R k:=#[b,rfl,h]
theorem X6{R:ϑ->Prop}(h:R b):∃k,Ft K (.bl b) H k/\R k:=#[b,rfl,h]
theorem X7{t:TT}(h:t σ H λc H1=>R (not c) H1):kj t σ H R:=h
theorem X8{t u:TT}(h:t σ H λc H1=>if c=true then u σ H1 R else R false H1):Ez t u σ H R:=h
theorem ZW{t u:TT}(h:t σ H λc H1=>if c=true then R true H1 else u σ H1 R):Eo t u σ H R:=h
theorem Ro(h:ta σ H λx H1=>∃c,x=.bl c/\if c=true then tb σ H1 Q else Q (.bl false) H1):gU ta tb σ H Q:=h
theorem Rp(h:ta σ H λx H1=>∃c,x=.bl c/\Q (.bl (not c)) H1):Ai ta σ H Q:=h
theorem ZX{t:TT}(h:t σ H λc H1=>if c=true then ta σ H1 Q else tb σ H1 Q):Wn t ta tb σ H Q:=h
theorem Xa(h:R true H):gZ σ H R:=h
theorem Nt{i:Nat}{R:St->Hp->Prop}(h:R (σ.set i !v) H):ao i v σ H R:=h
theorem Rq{R:St->Hp->Prop}(h:R σ H):jE [] σ H R:=#[rfl,h]
theorem Nu{t:TG}{u:KR}{r:ϊ V}{R:St->Hp->Prop}(h:t v σ H λσ' H'=>u r σ' H' R):bL t u (v::r) σ H R:=#[v,r,rfl,h]
theorem dR{t:KR}{R:St->Hp->Prop}(c:SqT K H a xs)(b:↑xs=n)(h:t xs σ H R):jd K n t (.ref a) σ H R:=#[a,xs,rfl,c,b,h]
theorem Rr{a:TE}{t:Li}{R:St->Hp->Prop}(h:to σ H λo H1=>a σ H1 λi H2=>t o i v H2 λb=>R σ b):Lj to a t v σ H R:=h
theorem Xb{i:Nat}{a:W8}{x:V}(e:σ[i]?=!(!x))(h:te σ H λy H1=>a x y H1 λz H2=>D.nx (σ.set i !z) H2):Lk i te a D σ H:=#[x,e,h]
theorem ZZ{f:Int->Int->Int}(h:Q (.int (f i j)) H):Zz f (.int i) (.int j) H Q:=#[i,j,rfl,rfl,h]
theorem Xc(h:Q (f i j) H):uK f (.int i) (.int j) H Q:=#[i,j,rfl,rfl,h]
theorem a00{C:Int->Int->Prop}(c:C i j)(h:Q (f i j) H):rI C f (.int i) (.int j) H Q:=#[i,j,rfl,rfl,c,h]
theorem a01{f:Int->V}(h:Q (f i) H):rU f (.int i) H Q:=#[i,rfl,h]
theorem Xd(h:Q (.bl (decide (i=j))) H):rZ (.int i) (.int j) H Q:=#[rfl,by rw[Py];show h]
theorem Xe(h:Q (.bl (not (decide (i=j)))) H):Cw (.int i) (.int j) H Q:=#[rfl,by rw[Py];show h]
theorem Xf(h:t σ H λxs H1=>↑xs<=sizeLine/\∀p,H1 p=none->Q (.ref p) (upd H1 p (.tup xs))):bY t σ H Q:=h
theorem Xg(h:t σ H λxs H1=>↑xs<=sizeLine/\∀p,H1 p=none->Q (.ref p) (upd H1 p (.lst xs))):cW t σ H Q:=h
theorem Xh{a b:St}{P:Prop}(e:qZ a b)(h:P):qZ a b/\P:=#[e,h]
theorem Xi{P:Prop}(e:n<=1000)(h:P):n<=sizeLine/\P:=#[small e,h]
theorem a02{r:V->ύ Int->ύ Int->Hp->VK->Prop}{b a:TO}(h:te σ H λx H1=>b σ H1 λl H2=>a σ H2 λu c=>r x l u c Q):KZ r te b a σ H Q:=h
theorem HR{R:ύ Int->Hp->Prop}(h:R none H):gB σ H R:=h
theorem Rt{t:TE}{R:ύ Int->Hp->Prop}(h:t σ H λx H1=>∃i,x=.int i/\R (!i) H1):j5 t σ H R:=h
theorem Ru{R:Int->Prop}(h:R i):∃k,V.int i=.int k/\R k:=#[i,rfl,h]
theorem a03(h:to σ H λx H1=>QC K T x H1/\t σ H1 λxs H2=>r x xs H2 Q):oU K T r to t σ H Q:=h
theorem Xj(h:to σ H λx H1=>QC K T x H1/\r x [] H1 Q):LR K T r to σ H Q:=h
theorem du{P:Prop}(e:SqL K H a xs)(h:P):QC K "list" (.ref a) H/\P:=#[.inl #[rfl,xs,e],h]
theorem Xk{P:Prop}(h:P):QC K "str" (.str x) H/\P:=#[rfl,h]
def qG(g:TG)(tb:TS)(D:Ends)(σ:St):It->Hp->Prop:=λJ H1=>∃W:Nat->Nat->St->Hp->Prop,(∃m,W 0 m σ H1)/\∀i m σ H,W i m σ H->(J.stop i H/\D.nx σ H)\/(J.go i H/\∃N:St->Hp->Prop,(∀σ' H',N σ' H'->∃m',m'<m/\W (i+1) m' σ' H')/\∀x H',J.yld i H x H'->g x σ H' λσ2 H2=>tb {D with nx:=N,ct:=N,bk:=D.nx} σ2 H2)
theorem Xl{a:TS}(h:wi σ H (qG g a D σ)):cV wi g a D σ H:=h
def Er(κ:ϊ (ύ Nat))(g:TG)(tc:TT)(te:TE)(σ:St)(Q:VK):It->Hp->Prop:=λJ H1=>∃W:Nat->Nat->ϊ V->Hp->Prop,(∃m,W 0 m [] H1)/\∀i m ys H,W i m ys H->(J.stop i H/\∀p,H p=none->Q (.ref p) (upd H p (.lst ys)))\/(J.go i H/\↑ys<sizeLine/\∃N:ϊ V->Hp->Prop,(∀ys' H',N ys' H'->∃m',m'<m/\W (i+1) m' ys' H')/\∀x H',J.yld i H x H'->g x (cap κ σ) H' λσ2 H2=>qZ (cap κ σ) σ2/\tc σ2 H2 λb H3=>if b=true then te σ2 H3 λy H4=>N (ys++[y]) H4 else N ys H3)
theorem a04{a:TT}(h:wi σ H (Er κ g a te σ Q)):mU κ wi g a te σ H Q:=h
def iL(K:Ϗ)(R:It->Hp->Prop)(x:V)(H:Hp):Prop:=∃a,x=.ref a/\(∃xs,SqL K H a xs)/\R (Ln K a) H
def iT(K:Ϗ)(R:It->Hp->Prop)(x:V)(H:Hp):Prop:=∃a,x=.ref a/\(∃xs,SqT K H a xs)/\R (W9 K a) H
def iR(R:It->Hp->Prop)(vs:ϊ V)(H:Hp):Prop:=∃j:Int,vs=[.int j]/\-(2^62)<=j/\j<2^62/\R (KY 0 j.toNat) H
theorem Nv{R:It->Hp->Prop}(h:tl σ H (iL K R)):cB K tl σ H R:=h
theorem Rv{R:It->Hp->Prop}(h:tl σ H (iT K R)):kE K tl σ H R:=h
theorem Ny{a:TA}{R:It->Hp->Prop}(h:a σ H (iR R)):j4 a σ H R:=h
def iS(R:It->Hp->Prop)(x:V)(H:Hp):Prop:=∃z,x=.str z/\R (ZJ z) H
theorem Rw{R:It->Hp->Prop}(h:tl σ H (iS R)):Mf tl σ H R:=h
end
section
theorem j7{f:Type}(c:f->V){zs:ϊ f}(n:SqL K H a (zs.map c))(b:Nat->St->Hp->Prop)(j:b 0 σ H)(l:∀i σ H',b i σ H'->SqL K H' a (zs.map c))(m:∀(i:Nat) z σ H',zs[i]?=!z->b i σ H'->g (c z) σ H' λd H2=>tb {D with nx:=b (i+1),ct:=b (i+1),bk:=D.nx} d H2) (k:∀σ H',b ↑zs σ H'->D.nx σ H'):iL K (qG g tb D σ) (.ref a) H:=by
 show#[a,rfl,#[_,n],Fi (K:=K) (a:=a) (xs:=zs.map c) b j (λi σ H _ h=>l i σ H h) ?_ ?_];.intro i x σ H' e p;rw[À]at e;let#[z,hz,rfl]:=Ï.mp e;show m i z σ H' hz p
 .intro σ H' p;rw[Qb]at p;show k σ H' p
theorem pQ{f:Type}(c:f->V){zs:ϊ f}(n:SqT K H a (zs.map c))(b:Nat->St->Hp->Prop)(j:b 0 σ H)(l:∀i σ H',b i σ H'->SqT K H' a (zs.map c))(m:∀(i:Nat) z σ H',zs[i]?=!z->b i σ H'->g (c z) σ H' λd H2=>tb {D with nx:=b (i+1),ct:=b (i+1),bk:=D.nx} d H2) (k:∀σ H',b ↑zs σ H'->D.nx σ H'):iT K (qG g tb D σ) (.ref a) H:=by
 show#[a,rfl,#[_,n],Lq (K:=K) (a:=a) (xs:=zs.map c) b j (λi σ H _ h=>l i σ H h) ?_ ?_];.intro i x σ H' e p;rw[À]at e;let#[z,hz,rfl]:=Ï.mp e;show m i z σ H' hz p
 .intro σ H' p;rw[Qb]at p;show k σ H' p
theorem pR{n:Int}(m:Nat)(e:n.toNat=m)(j:m<=1000000000)(k:-1000000000<=n)(a:Nat->St->Hp->Prop)(c:a 0 σ H)(h:∀(i:Nat) σ H',i<m->a i σ H'->g (.int (i:Int)) σ H' λb H2=>tb {D with nx:=a (i+1),ct:=a (i+1),bk:=D.nx} b H2) (d:∀σ H',a m σ H'->D.nx σ H'):iR (qG g tb D σ) [.int n] H:=by show#[n,rfl,(),(),?_];rw[e];show Cv a c (λi σ H' f p=>?_) d;rw[Int.zero_add];show h i σ H' f p
theorem Rx{n:Int}(m:Nat)(e:n.toNat=m)(l:m<=1000000)(q:-1000000000<=n)(a:Nat->ϊ V->Hp->Prop)(h:a 0 [] H)(hz:∀i ys H',a i ys H'->↑ys<=i)(o:∀(i:Nat) ys H',i<m->a i ys H'->g (.int (i:Int)) (cap κ σ) H' λc H2=>qZ (cap κ σ) c/\tc c H2 λb d=>if b=true then te c d λy f=>a (i+1) (ys++[y]) f else a (i+1) ys d)(j:∀ys H',a m ys H'->∀p,H' p=none->Q (.ref p) (upd H' p (.lst ys))):iR (Er κ g tc te σ Q) [.int n] H:=by show#[n,rfl,(),(),?_];rw[e];show Gj a h (Ð l (by decide)) hz (λi ys H' k p=>?_) j;rw[Int.zero_add];show o i ys H' k p
theorem qH{j:Type}(c:j->V){zs:ϊ j}(r:SqL K H a (zs.map c))(o:↑zs<=1000000)(d:Nat->ϊ V->Hp->Prop)(l:d 0 [] H)(n:∀i ys H',d i ys H'->SqL K H' a (zs.map c))(hz:∀i ys H',d i ys H'->↑ys<=i)(q:∀(i:Nat) z ys H',zs[i]?=!z->d i ys H'->g (c z) (cap κ σ) H' λe H2=>qZ (cap κ σ) e/\tc e H2 λb f=>if b=true then te e f λy k=>d (i+1) (ys++[y]) k else d (i+1) ys f)(m:∀ys H',d ↑zs ys H'->∀p,H' p=none->Q (.ref p) (upd H' p (.lst ys))):iL K (Er κ g tc te σ Q) (.ref a) H:=by
 show#[a,rfl,#[_,r],Ma (K:=K) (a:=a) (xs:=zs.map c) d l (by rw[Qb];show Ð o (by decide)) (λi ys H' _ p=>n i ys H' p) hz ?_ ?_];.intro i x ys H' h p;rw[À]at h;let#[z,hz,rfl]:=Ï.mp h;show q i z ys H' hz p
 .intro ys H' p;rw[Qb]at p;show m ys H' p
theorem PJ{e:Type}(c:e->V){zs:ϊ e}(h:SqL K H a (zs.map c))(n:↑zs<=1000000)(f:e->V)(r:∀(i:Nat) z,zs[i]?=!z->∀(A:VK),A (f z) H->g (c z) (cap κ σ) H λb H2=>qZ (cap κ σ) b/\te b H2 A)(m:∀p,H p=none->Q (.ref p) (upd H p (.lst (zs.map f)))):iL K (Er κ g gZ te σ Q) (.ref a) H:=by
 show qH c h n (λi ys d=>d=H/\ys=(zs.take i).map f) #[rfl,rfl] ?_ ?_ ?_ ?_;.rintro i ys _ ⟨rfl,_⟩;show h
 .rintro i ys _ ⟨rfl,rfl⟩;rw[Qb,Ú];rfl'
 .rintro i z ys d hz ⟨k,rfl⟩;subst k;have l:zs.take (i+1)=zs.take i++[z]:=by rw[Ò,hz];rfl
  have q:=r i z hz (λy j=>j=d/\(zs.take i).map f++[y]=(zs.take (i+1)).map f) #[rfl,by rw[l,Wp];rfl];simpa only[gZ,ı]using q
 .rintro ys _ ⟨rfl,rfl⟩ p o;rw[ç];show m p o
end
def Thing(H:Hp):V->Prop
 |.non=>True|.bl _=>True|.int _=>True|.str x=>↑x<=100000|.ref a=>(∃xs,H a=!(.lst xs))\/(∃xs,H a=!(.tup xs))\/∃kvs,H a=!(.dK kvs)|_=>False
noncomputable def isI:V->ϑ
 |.int _=>true|_=>false
theorem Thing.same(s:Same H H'):∀{x:V},Thing H x->Thing H' x
 |.non,_=>True.intro|.bl _,_=>True.intro|.int _,_=>True.intro
 |.str _,h=>h|.ref a,h=>h.elim (λ⟨xs,e⟩=>.inl #[xs,s _ _ e]) λh=>h.elim (λ⟨xs,e⟩=>.inr (.inl #[xs,s _ _ e])) λ⟨xs,e⟩=>.inr (.inr #[xs,s _ _ e])
theorem Thing.ty:∀{x:V},Thing H x->(∃b,x=.bl b)\/(∃i,x=.int i)\/(∃s:ϐ,x=.str s/\↑s<=100000)\/∃n:String,TyOf K H x (.type n)/\(n="NoneType"\/n="list"\/n="tuple"\/n="dict")/\isI x=false/\(∀s,x≠.str s)
 |.non,_=>.inr (.inr (.inr #[_,.non,.inl rfl,rfl,λ_ e=>nomatch e]))|.bl b,_=>.inl #[b,rfl]|.int i,_=>.inr (.inl #[i,rfl])|.str s,h=>.inr (.inr (.inl #[s,rfl,h]))|.ref a,h=>.inr (.inr (.inr (h.elim (λ⟨xs,e⟩=>#[_,.lst e,.inr (.inl rfl),rfl,λ_ e=>nomatch e]) λh=>h.elim (λ⟨xs,e⟩=>#[_,.tup e,.inr (.inr (.inl rfl)),rfl,λ_ e=>nomatch e]) λ⟨xs,e⟩=>#[_,.dK e,.inr (.inr (.inr rfl)),rfl,λ_ e=>nomatch e])))
theorem eF{x:V}{t:ϋ}(a:TyOf K H x t)(e:PySem.W.kitOne K t (.type T)=!b)(h:Q (.bl b) H):eQ K [x,.ty T] H Q:=#[T,x,t,b,rfl,a,e,h]
section
theorem HS(a b:ϐ):decide (V.str a=V.str b)=decide (a=b):=by simp
theorem Xm{a b:ϐ}(h:Q (.bl (decide (a=b))) H):rZ (.str a) (.str b) H Q:=#[rfl,by rw[HS];show h]
theorem Xn{a b:ϐ}(h:Q (.bl (not (decide (a=b)))) H):Cw (.str a) (.str b) H Q:=#[rfl,by rw[HS];show h]
theorem Xo{i j:ϐ}(h:Q (.bl (not (decide (j.cps.toList<i.cps.toList)))) H):pq (.str i) (.str j) H Q:=#[i,j,rfl,rfl,h]
theorem pU{i j:ϐ}(e:↑i+↑j<=1000000)(h:Q (.str (i++j)) H):fV (.str i) (.str j) H Q:=#[i,j,rfl,rfl,Ð e (by decide),h]
theorem bJ(e:SqL K H a xs)(h:Q (.int ↑xs) H):Gq K [.ref a] H Q:=#[_,_,rfl,.inl #[xs,e,rfl],h]
theorem bQ(e:SqT K H a xs)(h:Q (.int ↑xs) H):Gq K [.ref a] H Q:=#[_,_,rfl,.inr #[xs,e,rfl],h]
theorem Ry(e:↑x<=1000000)(h:Q (.int ↑x) H):Gq K [.str x] H Q:=#[_,_,rfl,#[Nat.le_trans e (by decide),rfl],h]
theorem Xp(e:↑x=1)(h:Q (.int (x.cps.getD 0 0:Nat)) H):Pq [.str x] H Q:=#[x,rfl,e,h]
theorem cH(e:SqL K H a xs)(b:uP xs i=!v)(h:Q v H):cZ K (.ref a) (.int i) H Q:=#[a,xs,i,v,rfl,rfl,e,b,h]
theorem dw(e:SqT K H a xs)(b:uP xs i=!v)(h:Q v H):iH K (.ref a) (.int i) H Q:=#[a,xs,i,v,rfl,rfl,e,b,h]
theorem Bt{c:Nat}(e:↑x<=1000000)(a:uP x.cps.toList i=!c)(h:Q (.str #[([c].toArray)]) H):CK (.str x) (.int i) H Q:=#[x,i,c,rfl,rfl,Ð e (by decide),a,h]
theorem Nz(h:∀p,H p=none->Q (.ref p) (upd H p (.dK []))):jh σ H Q:=h
theorem NB(h:∀p,H p=none->tk σ (upd H p (.dT [])) λx H1=>tv σ H1 λv H2=>H2 p=!(.dT [])/\∃k b,x=.ref b/\H2 b=!(.tup (k.map kV))/\Q (.ref p) (upd H2 p (.dT [(k,v)]))):xW tk tv σ H Q:=h
theorem NK(h:∀p,H p=none->tk σ (upd H p (.dK [])) λx H1=>tv σ H1 λy H2=>H2 p=!(.dK [])/\∃kvs:ϊ (Key×V),[(x,y)]=kvs.map (λa=>(kV a.1,a.2))/\↑kvs<=15/\Q (.ref p) (upd H2 p (.dK (iJ [] kvs)))):Gd [(tk,tv)] σ H Q:=h
theorem NP(h:∀p,H p=none->Q (.ref p) (upd H p (.dT []))):xq σ H Q:=h
theorem nU(a:St->Hp->Prop)(e:St->Hp->Nat)(h:a σ H)(i:∀σ H,a σ H->c σ H λb H1=>if b=true then g {D with nx:=λσ' H'=>a σ' H'/\e σ' H'<e σ H,ct:=λσ' H'=>a σ' H'/\e σ' H'<e σ H,bk:=D.nx} σ H1 else D.nx σ H1)(d:∀σ H Q f,(∀b H1,Q b H1->f b H1)->c σ H Q->c σ H f):fX c g D σ H:=uJ a e h i d
end
section
theorem Rz(a:∀R:VK,R (.bl b) H->ta σ H R)(d:∀R:VK,R (.bl c) H->tb σ H R)(h:Q (.bl (b&&c)) H):gU ta tb σ H Q:=by
 show a _ #[b,rfl,?_];cases b with
 |true=>rw[if_pos rfl];rw[Bool.true_and]at h;show d _ h|false=>rw[if_neg Î];rw[Ū]at h;show h
theorem RB{t u:TT}(a:∀R:ϑ->Hp->Prop,R b H->t σ H R)(d:∀R:ϑ->Hp->Prop,R c H->u σ H R)(h:R (b||c) H):Eo t u σ H R:=by
 show a _ ?_;cases b with
 |true=>rw[if_pos rfl];rw[Bool.true_or]at h;show h|false=>rw[if_neg Î];rw[Bool.false_or]at h;show d _ h
theorem HW{r a:R2}{d:TE}{x:V}(e:∀R:VK,R x H->ta σ H R)(f:∀R:VK,R y H->tb σ H R)(g:∀R:VK,R z H->d σ H R)(i:∀R:VK,R (.bl b) H->r x y H R)(j:∀R:VK,R (.bl c) H->a y z H R)(h:Q (.bl (b&&c)) H):lW r a ta tb d σ H Q:=by
 show e _ (f _ (i _ #[b,rfl,?_]));cases b with
 |true=>rw[if_pos rfl];rw[Bool.true_and]at h;show g _ (j _ h)|false=>rw[if_neg Î];rw[Ū]at h;show h
end
def Sb(ps:ϊ ό)(H H':Hp):Prop:=∀b o,b∉ps->H b=!o->H' b=!o
theorem Sb.of(s:Same H H'):Sb ps H H':=λb o _ e=>s b o e
theorem Sb.same{a:Hp}(e:Sb ps H H1)(s:Same H1 a):Sb ps H a:=λb o n q=>s b o (e b o n q)
theorem Sb.new(e:Sb ps H H1)(h:H1 p=none):Sb ps H (upd H1 p o):=e.same (aq h o)
theorem Sb.set(e:Sb ps H H1)(h:p∈ps):Sb ps H (upd H1 p o):=λb u n q=>by rw[ak (show b≠p fromλz=>n (by rw[z];show h))];show e b u n q
theorem Sb.get(e:Sb ps H H1)(n:a∉ps)(h:H a=!o):H1 a=!o:=e a o n h
theorem Sb.more(e:Sb ps H H1)(h:∀p∈ps,p∈qs):Sb qs H H1:=λb o n q=>e b o (λz=>n (h b z)) q
theorem Sb.seq(e:Sb ps H H1)(c:∀p∈ps,H p=none)(h:SqL K H a xs):SqL K H1 a xs:=by
 have b:∀o,H a=!o->a∉ps:=λo q z=>by rw[c a z]at q;cases q
 rcases h with(h|⟨o,h⟩)|h;.show .inl (.inl (e a _ (b _ h) h))
 .show .inl (.inr #[o,e a _ (b _ h) h])
 .show .inr h
theorem Sb.at{H b:Hp}{a:ό}(e:Sb ps H b)(c:∀p∈ps,H p=none)(h:H a=!o):b a=!o:=e a o (λz=>by rw[c a z]at h;cases h) h
section
theorem Xq{ns:ϊ Int}(e:SqL K H a (ns.map V.int))(h:Q (.int ns.sum) H):QR K [.ref a] H Q:=#[a,ns,rfl,e,h]
theorem Xr(h:Q (.int (if j<i then j else i)) H):Gs [.int i,.int j] H Q:=#[i,j,rfl,h]
theorem HX(e:SqL K H p ys)(h:∀l,H l=none->Q (.ref l) (upd H l (.lst ys))):iQ K [.ref p] H Q:=#[p,ys,rfl,.inl e,h]
theorem fL(e:H l=!(.lst xs))(n:↑xs<=1000000)(h:Q .non (upd H l (.lst (xs++[y])))):bU (.ref l) [y] H Q:=#[l,xs,y,rfl,rfl,e,Ñ n (by decide),h]
theorem HY{R:Hp->Prop}(j:Nat)(e:H l=!(.lst xs))(a:k=(j:Int))(b:j<↑xs)(h:R (upd H l (.lst (xs.set j v)))):Aw (.ref l) (.int k) v H R:=by show#[l,xs,k,j,rfl,rfl,e,?_,h];subst a;unfold La;rw[if_pos (),if_pos ()];simp
end
mutual theorem eqv_refl:∀d:PyData,d.canLay0=true->PyData.eqv d d=true
 |.none,_=>by simp[PyData.eqv]|.bool b,_=>by simp[PyData.eqv]|.int i,_=>by simp[PyData.eqv]|.str x,_=>by simp[PyData.eqv]|.list xs,h=>by simp only[PyData.eqv];show eqvAll_refl xs (by simpa only[PyData.canLay0]using h)|.tuple xs,h=>by simp only[PyData.eqv];show eqvAll_refl xs (by simpa only[PyData.canLay0]using h)|.dict kvs,h=>by simp[PyData.canLay0]at h theorem eqvAll_refl:∀ds:ϊ PyData,PyData.canLayAll0 ds=true->PyData.eqvAll ds ds=true
 |[],_=>by simp[PyData.eqvAll]|d::r,h=>by simp only[PyData.canLayAll0,ù]at h;simp only[PyData.eqvAll,eqv_refl d h.1,eqvAll_refl r h.2,Bool.and_self]end
def Sh(n:Nat)(d:PyData):Prop:=d.canLay0=true/\d.depth<=n
theorem yt{n:Nat}:∀{ds:ϊ PyData},(∀d∈ds,Sh n d)->PyData.canLayAll0 ds=true/\PyData.depthAll ds<=n
 |[],_=>#[by simp[PyData.canLayAll0],by simp[PyData.depthAll]]|d::r,h=>by
  let#[a,f]:=h d Ë;let#[b,g]:=yt (ds:=r) λe c=>h e (Ì _ c);show#[by simp[PyData.canLayAll0,a,b],by simp only[PyData.depthAll];rfl']
theorem lN(h:∀d∈ds,Sh n d):Sh (n+1) (.list ds):=by let#[a,b]:=yt h;show#[by simp only[PyData.canLay0];show a,by simp only[PyData.depth];rfl']
theorem gP(h:∀d∈ds,Sh n d):Sh (n+1) (.tuple ds):=by let#[a,b]:=yt h;show#[by simp only[PyData.canLay0];show a,by simp only[PyData.depth];rfl']
theorem dU(n:Nat)(i:Int):Sh n (.int i):=#[by simp[PyData.canLay0],by simp[PyData.depth]]
theorem Xu(n:Nat)(b:ϑ):Sh n (.bool b):=#[by simp[PyData.canLay0],by simp[PyData.depth]]
theorem NQ(ns:ϊ Int):Sh 1 (.list (ns.map PyData.int)):=lN λd a=>by let#[i,_,rfl]:=Zp.mp a;show dU 0 i
theorem Ia(a:ϊ (ϊ Int)):Sh 2 (.list (a.map λns=>.list (ns.map PyData.int))):=lN λd b=>by let#[ns,_,rfl]:=Zp.mp b;show NQ ns
theorem Sh.shaped(h:Sh n d)(a:n<=64):SeqAt.shaped d=true:=by unfold SeqAt.shaped;rw[h.1,Õ (Ð h.2 a)];rfl
section
variable{n:Nat}
theorem rEqD.same(c:Dp K H x d)(e:Dp K H y d)(a:Sh n d)(b:n<=64)(q:Q (.bl true) H):rEqD K x y H Q:=#[d,d,c,e,a.shaped b,a.shaped b,by rw[eqv_refl d a.1];show q]
theorem rNeD.same(c:Dp K H x d)(e:Dp K H y d)(a:Sh n d)(b:n<=64)(q:Q (.bl false) H):rNeD K x y H Q:=#[d,d,c,e,a.shaped b,a.shaped b,by rw[eqv_refl d a.1];show q]
theorem Dp.nats{xs:ϊ Nat}(h:SqL K H a (xs.map λi:Nat=>V.int (i:Int))):Dp K H (.ref a) (.list ((xs.map λi:Nat=>(i:Int)).map PyData.int)):=Dp.ints (by rw[<-Nr];show h)
theorem RC(a:H e=!(qt e (.ref C)))(z:ExcK K C)(k:PySem.W.kitOne K (.ref C) (.ref D)=!b)(h:Q (.bl b) H):dM K [.ref e,.ref D] H Q:=#[e,C,_,b,rfl,a,z,.inr (.inl #[D,rfl,k]),h]
theorem RD(a:H e=!(qt e (.ref C)))(z:ExcK K C)(k:PySem.W.kitOne K (.ref C) (.type T)=!b)(h:Q (.bl b) H):dM K [.ref e,.ty T] H Q:=#[e,C,_,b,rfl,a,z,.inl #[T,rfl,k],h]
theorem Ib{ds:ϊ ό}(c:H e=!(qt e (.ref C)))(z:ExcK K C)(a:H p=!(.tup (ds.map V.ref)))(k:PySem.W.kitAny K (.ref C) (ds.map Value.ref)=!b)(h:Q (.bl b) H):dM K [.ref e,.ref p] H Q:=#[e,C,_,b,rfl,c,z,.inr (.inr #[p,ds,rfl,a,k]),h]
theorem Xv{i:Nat}{b:XK}{c d:TS}(e:c D σ H)(f:∀a H',b a none H'->PySem.W.exmOne K a (.ref C)=!true/\∀x,H' x=none->d (behind i D) ((List.replicate ↑N none).set i !(.ref x)) (upd H' x (qt x a))):QV K N C i b c d D σ H:=#[e,f]
theorem NT(h:t σ H λvs H1=>↑vs<=sizeLine/\E (.ref C) none H1):jV E C t D σ H:=h
theorem wk{b:ό}{zs:ϊ V}(a:H l=!(.lst xs))(c:H b=!(.lst zs))(d:↑xs+↑zs<=1000000)(h:∀p,H p=none->Q (.ref p) (upd H p (.lst (xs++zs)))):xj (.ref l) (.ref b) H Q:=#[l,b,xs,zs,rfl,rfl,a,c,Ð d (by decide),h]
theorem Ie(e:SqL K H a xs)(h:∀p,H p=none->Q (.ref p) (upd H p (.lst (gO xs lo hi)))):CN K (.ref a) lo hi H Q:=#[a,xs,rfl,e,h]
end
theorem Xw{i:Nat}(h:D.nx (σ.set i none) H):(behind i D).nx σ H:=h
theorem Sb.off(e:Sb ps H H')(a:∀p∈ps,H p=none):Same H H':=λb o q=>e.at a q
theorem yu{t:TS}{D:Ends}(J:St->Hp->Prop)(b:∀σ' H',J σ' H'->u D σ' H')(a:∀N:St->Hp->Prop,(∀σ' H',J σ' H'->N σ' H')->t {D with nx:=N} σ H):aB t u D σ H:=a _ b
noncomputable def tx(cs:ϊ Nat):ϐ:=#[cs.toArray]
theorem yw(a b:ϊ Nat):tx a++tx b=tx (a++b):=by change(#[a.toArray++b.toArray]:ϐ)=#[(a++b).toArray];simp
theorem fC(cs:ϊ Nat):↑(tx cs)=↑cs:=by change cs.toArray.size=_;simp
theorem Ig(cs:ϊ Nat):(tx cs).cps.toList=cs:=rfl
theorem iY{a b:ϊ Nat}:tx a=tx b↔a=b:=by
 constructor;.intro h;have:=Ô (λs:ϐ=>s.cps.toList) h;simpa[tx]using this
 .intro h;rw[h]
theorem join_ones:∀cs:ϊ Nat,Txt.join (Str.ofString "") (cs.map λc=>tx [c])=tx cs:=by intro cs;unfold Txt.join;rw[StrLaws.glued_eq_join];induction cs with
 |nil=>rfl|cons c r ih=>cases r with
  |nil=>rfl|cons d r=>change tx [c]++Str.ofString ""++Str.join (Str.ofString "") ((d::r).map λc=>tx [c])=_;rw[ih,show Str.ofString ""=tx []from rfl,yw,yw];rfl
section
theorem RG{ys:ϊ ϐ}(e:SqL K H a (ys.map V.str))(b:(ys.map (·.length)).sum+↑ys*↑s<=16777216)(h:Q (.str (Txt.join s ys)) H):rJoin K (.str s) [.ref a] H Q:=#[s,a,ys,rfl,rfl,e,b,h]
theorem Xx(e:↑s<=1000000)(h:Q (.str (Txt.slice s lo hi)) H):QX (.str s) lo hi H Q:=#[s,rfl,Ð e (by decide),h]
def iE(K:Ϗ)(R:It->Hp->Prop)(vs:ϊ V)(H:Hp):Prop:=∃a xs,vs=[.ref a]/\SqL K H a xs/\R (ZK K a) H
theorem NZ{a:TA}{R:It->Hp->Prop}(h:a σ H (iE K R)):Bd K a σ H R:=h
end
theorem Ih(n:Nat)(h:∀c∈cs,c<1114112):Sh n (.str (tx cs)):=by show#[?_,by simp[PyData.depth]];simp only[PyData.canLay0,PyData.strOk];change cs.toArray.all _=true;simp;show h
theorem O1{b:Type}{xs:ϊ b}(a:0<=i)(c:i<↑xs):∃v,v∈xs/\uP xs i=!v:=#[_,ä (),HQ a ()]
section
theorem RJ{c:TE}(h:tv σ H λv H1=>td σ H1 λx H2=>c σ H2 λy d=>∃a b,x=.ref a/\SPut d a y v b/\D.nx σ b):vQ td c tv D σ H:=h
theorem RK{c:TE}(h:tv σ H λv H1=>td σ H1 λx H2=>c σ H2 λy d=>∃a b,x=.ref a/\DPut d a y v b/\D.nx σ b):j6 td c tv D σ H:=h
theorem RL{b:TE}(h:td σ H λx H1=>b σ H1 λy H2=>∃a v,x=.ref a/\DGet H2 a y !v/\Q v H2):fK td b σ H Q:=h
theorem Ii{b:ό}{zs:ϊ V}(a:H l=!(.lst xs))(c:H b=!(.lst zs))(d:↑xs+↑zs<=1000000)(h:Q .non (upd H l (.lst (xs++zs)))):sO (.ref l) [.ref b] H Q:=#[l,b,xs,zs,rfl,rfl,a,c,Ð d (by decide),h]
end
section
theorem a05(h:te σ H λx H'=>∃k,x=.bl k/\R k H'):tB te σ H R:=h
theorem Xy{x:V}(h:Q (.bl (decide (x=.non))) H):gF x .non H Q:=#[rfl,h]
theorem RM{x:V}(h:Q (.bl (not (decide (x=.non)))) H):xF x .non H Q:=#[rfl,h]
theorem gG(e:SqL K H p ys)(h:∀l,H l=none->Q (.ref l) (upd H l (.tup ys))):d7 K [.ref p] H Q:=#[p,ys,rfl,.inl #[e,h]]
theorem mF(e:SqT K H p ys)(h:∀l,H l=none->Q (.ref l) (upd H l (.lst ys))):iQ K [.ref p] H Q:=#[p,ys,rfl,.inr e,h]
theorem Xz{b:TE}(h:b σ H λy H1=>td σ H1 λx H2=>∃a o,x=.ref a/\SGet H2 a y o/\Q (.bl o.isSome) H2):R4 b td σ H Q:=h
theorem Ij{b:TE}(h:b σ H λy H1=>td σ H1 λx H2=>∃a o,x=.ref a/\SGet H2 a y o/\Q (.bl (not o.isSome)) H2):nQ b td σ H Q:=h
theorem RN{b:TE}(h:td σ H λx H1=>b σ H1 λy H2=>∃a v,x=.ref a/\SGet H2 a y !v/\Q v H2):lG td b σ H Q:=h
theorem RP(h:∀p,H p=none->Q (.ref p) (upd H p (bF p []))):vP σ H Q:=h
theorem XC{b:TE}(h:b σ H λy H1=>td σ H1 λx H2=>∃a o,x=.ref a/\DGet H2 a y o/\Q (.bl o.isSome) H2):Ga b td σ H Q:=h
theorem Ik{b:TE}(h:b σ H λy H1=>td σ H1 λx H2=>∃a o,x=.ref a/\DGet H2 a y o/\Q (.bl (not o.isSome)) H2):gC b td σ H Q:=h
theorem O2{x:V}(e:SqL K H p xs\/SqT K H p xs)(b:gb x=true)(a:xs.all gb=true)(h:Q (.bl (inV x xs)) H):G3 K false x (.ref p) H Q:=#[p,xs,rfl,e,b,a,h]
theorem O3{x:V}(e:SqL K H p xs\/SqT K H p xs)(b:gb x=true)(a:xs.all gb=true)(h:Q (.bl (not (inV x xs))) H):G3 K true x (.ref p) H Q:=#[p,xs,rfl,e,b,a,h]
theorem Il(f:SqT K H a (zs.map λz=>V.ref z.1))(hz:∀z∈zs,SqT K H z.1 (.str z.2.1::z.2.2))(e:(zs.map (·.2.1)).Nodup)(c:↑zs<64)(h:∀r (d:ϊ (ό×ϐ×ϊ V)),d.Perm zs->(d.map (·.2.1)).Pairwise (λa b=>a.cps.toList<b.cps.toList)->H r=none->Q (.ref r) (upd H r (.lst (d.map λz=>V.ref z.1)))):lH K [.ref a] H Q:=#[a,zs,rfl,f,hz,e,c,h]
theorem RQ(e:SqL K H p xs)(a:∀v∈xs,Rb H v)(h:Q (.bl (not (inV (.str x) xs))) H):Bl K (.str x) (.ref p) H Q:=#[p,xs,x,rfl,e,rfl,a,h]
end
theorem O4(s:ϐ)(ns:ϊ ϐ):inV (.str s) (ns.map V.str)=decide (s∈ns):=by unfold inV;rw[List.any_map];induction ns with
 |nil=>simp|cons n r ih=>
  rw[Ľ,ih];by_cases h:n=s;.subst h;simp[CP]
  .simp [CP,h,Ne.symm h]
noncomputable def ov:ύ Int->V
 |none=>.non|some i=>.int i
def DrT(K:Ϗ)(H:Hp)(a:ό)(ps:L1S):Prop:=∃zs:ϊ (ό×ϐ×Int),zs.map (·.2)=ps/\H a=!(.tup (zs.map λz=>V.ref z.1))/\∀z∈zs,H z.1=!(.tup [.str z.2.1,.int z.2.2])
theorem DrT.same(h:DrT K H a ps)(s:Same H H'):DrT K H' a ps:=by let#[zs,e,b,c]:=h;show#[zs,e,s.get b,λz hz=>s.get (c z hz)]
def HsT(K:Ϗ)(H:Hp)(a:ό)(ds:L2S)(es:ϊ Int):Prop:=∃(d e:ό)(rs:ϊ (ό×L1S)),H a=!(.tup [.ref d,.ref e])/\rs.map (·.2)=ds/\H d=!(.tup (rs.map λr=>V.ref r.1))/\(∀r∈rs,DrT K H r.1 r.2)/\H e=!(.tup (es.map V.int))
def DrG(K:Ϗ)(H:Hp)(a:ό)(ps:L1S):Prop:=∃zs:ϊ (ό×ϐ×Int),zs.map (·.2)=ps/\SqT K H a (zs.map λz=>V.ref z.1)/\∀z∈zs,H z.1=!(.tup [.str z.2.1,.int z.2.2])
theorem DrT.g(h:DrT K H a ps):DrG K H a ps:=by let#[zs,e,b,c]:=h;show#[zs,e,iq b,c]
theorem DrG.same(h:DrG K H a ps)(s:Same H H'):DrG K H' a ps:=by let#[zs,e,b,c]:=h;show#[zs,e,s.tup b,λz hz=>s.get (c z hz)]
def HsG(K:Ϗ)(H:Hp)(a:ό)(ds:L2S)(es:ϊ Int):Prop:=∃(d e:ό)(rs:ϊ (ό×L1S)),H a=!(.tup [.ref d,.ref e])/\rs.map (·.2)=ds/\SqT K H d (rs.map λr=>V.ref r.1)/\(∀r∈rs,DrG K H r.1 r.2)/\H e=!(.tup (es.map V.int))
theorem HsT.g{ds:L2S}(h:HsT K H a ds es):HsG K H a ds es:=by let#[d,e,l,b,c,f,i,j]:=h;show#[d,e,l,b,c,iq f,λr k=>(i r k).g,j]
theorem HsG.same{ds:L2S}(h:HsG K H a ds es)(s:Same H H'):HsG K H' a ds es:=by let#[d,e,k,b,c,f,g,i]:=h;show#[d,e,k,s.get b,c,s.tup f,λr j=>(g r j).same s,s.get i]
theorem Dp.intsT{K:Ϗ}{es:ϊ Int}(h:SqT K H a (es.map V.int)):Dp K H (.ref a) (.tuple (es.map PyData.int)):=.tup h (DpAll.ints es)
end L2
namespace Hs
open PySem L2
noncomputable def dr(ps:L1S)(s:ϐ):ύ Int:=(ps.find? λp=>decide (p.1=s)).map (·.2)
def O5(p:ϐ×Int)(r:L1S)(s:ϐ):dr (p::r) s=if p.1=s then !p.2 else dr r s:=by
 unfold dr;by_cases h:p.1=s;.simp [h]
 .simp [h]
noncomputable def stp(ds:L2S)(o:ύ Int)(s:ϐ):ύ Int:=o.bind λr=>dr (ds.getD r.toNat []) s
noncomputable def go(ds:L2S)(cs:ϊ Nat):ύ Int:=cs.foldl (λo c=>stp ds o (tx [c])) !0
structure Wf(ds:L2S):Prop where
 pos:0<↑ds
 rm:∀ps∈ds,∀p∈ps,0<=p.2/\p.2<↑ds
noncomputable def wK:ϐ:=Str.ofString " !\"#$&'()*+,-./0123456789:;<=>?@ABCDEFGHIJKLMNOPQRSTUVWXYZ[\\]^_`"++Str.ofString "abcdefghijklmnopqrstuvwxyz{|}~"
noncomputable def jH(n:Int):Nat:=wK.cps.toList.getD (n%94).toNat 0
def Sg(s:ϐ):Prop:=∃n:Int,s=tx [jH n]
end Hs
namespace L2
open PySem
variable{j:Nat}
abbrev Dz:=ό×ϐ×Int
variable{rows:ϊ (ό×ϊ Dz)}
def Rws(H:Hp)(rows:ϊ (ό×ϊ Dz)):Prop:=(rows.map (·.1)).Nodup/\∀row∈rows,H row.1=!(.lst (row.2.map λz:Dz=>V.ref z.1))/\∀z∈row.2,H z.1=!(.tup [.str z.2.1,.int z.2.2])
theorem Rws.same(h:Rws H rows)(s:Same H b):Rws b rows:=#[h.1,λa c=>#[s.get (h.2 a c).1,λz hz=>s.get ((h.2 a c).2 z hz)]]
theorem Bu(a:j<↑rows)(ys:ϊ Dz):(rows.set j (rows[j].1,ys)).map (·.1)=rows.map (·.1):=by
 apply List.ext_getElem?;intro k;rw[À,À,Λ];by_cases e:j=k;.subst e;rw[if_pos rfl,if_pos a,Zs a];rfl
 .rw [if_neg e]
theorem Rws.app{s:ϐ}{r:Int}(h:Rws H rows)(f:j<↑rows)(d:H t=!(.tup [.str s,.int r])):Rws (upd H rows[j].1 (.lst ((rows[j].2++[(t,s,r)]).map λz:Dz=>V.ref z.1))) (rows.set j (rows[j].1,rows[j].2++[(t,s,r)])):=by
 show#[by rw[Bu f];show h.1,λn i=>?_];have a:rows[j]∈rows:=ä f;have c:=(h.2 _ a).1;rcases Ų i with m|rfl
 .obtain ⟨k,g,e⟩:=Ą.mp i;rw[List.getElem_set]at e;by_cases q:j=k
  .rw [if_pos q]at e;subst e;show#[aa,λz hz=>?_];rcases Ã.mp hz with w|w;.rw [ak (bA ((h.2 _ a).2 z w) c (by intro q;cases q))];show(h.2 _ a).2 z w
   .rw [Zl.mp w];rw[ak (bA d c (by intro q;cases q))];show d
  .rw [if_neg q]at e;subst e;rw[η]at g;have l:rows[k].1≠rows[j].1:=by intro z;have:=(Ů (h₀:=by simpa using g) (h₁:=by simpa using f) h.1).mp (by rw[į,į];show z);show q this.symm
   have b:rows[k]∈rows:=ä g;show#[by rw[ak l];show(h.2 _ b).1,λz hz=>?_];rw[ak (bA ((h.2 _ b).2 z hz) c (by intro q;cases q))];show(h.2 _ b).2 z hz
 .show #[aa,λz hz=>?_];rcases Ã.mp hz with w|w;.rw [ak (bA ((h.2 _ a).2 z w) c (by intro q;cases q))];show(h.2 _ a).2 z w
  .rw [Zl.mp w];rw[ak (bA d c (by intro q;cases q))];show d
section
theorem RT{n:Int}(m:Nat)(e:n.toNat=m)(u:m<=1000000)(v:-1000000000<=n)(w:∀(i:Nat) H',i<m->∀(A:VK),(∀p,H' p=none->A (.ref p) (upd H' p (.lst [])))->g (.int (i:Int)) (cap κ σ) H' λk H2=>qZ (cap κ σ) k/\te k H2 A)(s:∀p H' (c:ϊ ό),Same H H'->H p=none->↑c=m->c.Nodup->p∉c->(∀a∈c,H a=none/\H' a=!(.lst []))->H' p=!(.lst (c.map V.ref))->Q (.ref p) H'):iR (Er κ g gZ te σ Q) [.int n] H:=by
 show Rx m e u v (λi ys H'=>∃c:ϊ ό,ys=c.map V.ref/\↑c=i/\c.Nodup/\Same H H'/\∀a∈c,H a=none/\H' a=!(.lst [])) #[[],rfl,rfl,List.nodup_nil,ix H,by simp] ?_ ?_ ?_;.rintro i ys H' ⟨c,rfl,rfl,_⟩;simp
 .rintro i ys H' t ⟨c,rfl,rfl,l,j,h⟩;have q:=w ↑c H' t (λy o=>∃f:ϊ ό,c.map V.ref++[y]=f.map V.ref/\↑f=↑c+1/\f.Nodup/\Same H o/\∀a∈f,H a=none/\o a=!(.lst [])) λp d=>by
   show#[c++[p],by simp,by simp,?_,j.new d,λa m=>?_];.rw [Ü];show#[l,by simp,λa m b x e=>?_];rw[Zl.mp x]at e;subst e;rw[(h a m).2]at d;cases d
   .rcases Ã.mp m with m|m;.show #[(h a m).1,aA d (h a m).2]
    .rw [Zl.mp m];show#[j.free d,aa]
  simpa only[gZ,ı]using q
 .rintro ys H' ⟨c,rfl,r,l,j,h⟩ p d;show s p _ c (j.new d) (j.free d) r l (λm=>?_) (λa m=>#[(h a m).1,aA d (h a m).2]) aa;rw[(h p m).2]at d;cases d
theorem uf{c d:Type}{g:c->d}{l a:ϊ d}(h:l.Perm a):∀{zs:ϊ c},l=zs.map g->∃b:ϊ c,b.Perm zs/\a=b.map g:=by induction h with
 |nil=>intro zs e;show#[zs,.refl _,e]|cons x _ ih=>
  intro zs e
  cases zs with
  |nil=>cases e
  |cons z zs=>
   rw[È]at e;injection e with e1 e2;let#[b,p,q]:=ih e2;show#[z::b,p.cons z,by rw[È,q,e1]]
 |swap x y l=>
  intro zs e;match zs,e with
  |z1::z2::r,e=>
   rw[È,È]at e;injection e with e1 e2;injection e2 with e2 e3;show#[z2::z1::r,.swap _ _ _,by rw[È,È,e1,e2,e3]]
 |trans _ _ ih1 ih2=>intro zs e;let#[b,p,q]:=ih1 e;let#[us,f,i]:=ih2 q;show#[us,f.trans p,i]
theorem n6{a c:Type}{g:a->c}{b:ϊ c}{zs:ϊ a}(h:b.Perm (zs.map g)):∃vs:ϊ a,vs.Perm zs/\b=vs.map g:=uf h.symm rfl
end
end L2
namespace Hs
def yx(n:Int):jH n<1114112:=by
 unfold jH;have h:∀c∈wK.cps.toList,c<1114112:=by ac_nf
 rw[Á];cases e:wK.cps.toList[(n%94).toNat]?with
 |none=>decide|some c=>show h c (Yf e)
end Hs
namespace L2
open PySem
variable{ht:Nat}
abbrev Lz:=ό×ϐ×ό×ϊ Nat
abbrev nv(xs:ϊ Nat):ϊ V:=xs.map λi:Nat=>V.int (i:Int)
def FnT(K:Ϗ)(H:Hp)(a:ό)(ht:Nat)(ls:ϵ):Prop:=∃(l:ό)(zs:ϊ Lz),H a=!(.tup [.int (ht:Int),.ref l])/\zs.map (λz:Lz=>(z.2.1,z.2.2.2))=ls/\SqT K H l (zs.map λz:Lz=>V.ref z.1)/\∀z∈zs,H z.1=!(.tup [.str z.2.1,.ref z.2.2.1])/\H z.2.2.1=!(.tup (nv z.2.2.2))
theorem FnT.same(h:FnT K H a ht ls)(s:Same H H'):FnT K H' a ht ls:=by let#[l,zs,c,d,e,b]:=h;show#[l,zs,s.get c,d,s.tup e,λz hz=>#[s.get (b z hz).1,s.get (b z hz).2]]
def FnF(K:Ϗ)(H:Hp)(a:ό)(ht:Nat)(ls:ϵ):Prop:=∃(l:ό)(ob:PySem.Obj)(zs:ϊ Lz),H a=!(.tup [.int (ht:Int),.ref l])/\zs.map (λz:Lz=>(z.2.1,z.2.2.2))=ls/\ob.dict=none/\H l=!(.frz ob (.tup (zs.map λz:Lz=>V.ref z.1)))/\∀z∈zs,H z.1=!(.tup [.str z.2.1,.ref z.2.2.1])/\H z.2.2.1=!(.tup (nv z.2.2.2))
theorem FnF.same(h:FnF K H a ht ls)(s:Same H H'):FnF K H' a ht ls:=by let#[l,ob,zs,c,d,f,e,b]:=h;show#[l,ob,zs,s.get c,d,f,s.get e,λz hz=>#[s.get (b z hz).1,s.get (b z hz).2]]
theorem FnF.t(h:FnF K H a ht ls):FnT K H a ht ls:=by let#[l,ob,zs,b,c,f,d,e]:=h;show#[l,zs,b,c,.inl (.inr #[ob,d]),e]
end L2
namespace Fo
open PySem L2
noncomputable def lk(ls:ϵ)(s:ϐ):ύ (ϊ Nat):=(ls.find? λp=>decide (p.1=s)).map (·.2)
def jC(p:ϐ×ϊ Nat)(r:ϵ)(s:ϐ):lk (p::r) s=if p.1=s then !p.2 else lk r s:=by
 unfold lk;by_cases h:p.1=s;.simp [h]
 .simp [h]
theorem bZ:∀{ls:ϵ},lk ls s=!c->(s,c)∈ls
 |[],h=>by cases h|p::ps,h=>by
  rw[jC]at h;by_cases e:p.1=s
  .rw [if_pos e]at h;cases h;rw[<-e];show Ë
  .rw [if_neg e]at h;show Ì _ (bZ h)
theorem yz:∀{ls:ϵ},s∈ls.map (·.1)->∃c,lk ls s=!c
 |p::ps,h=>by
  rw[jC];by_cases e:p.1=s
  .show #[_,if_pos e]
  .rw [if_neg e];rcases Å.mp h with h|h;.show absurd h.symm e
   .show yz h
noncomputable def cl(ls:ϵ)(c:Nat):ϊ Nat:=(lk ls (tx [c])).getD []
structure Wf(ht:Nat)(ls:ϵ):Prop where
 pos:0<↑ls
 le:↑ls<=40
 up:(ls.map (·.1)).Pairwise lR
 sg:∀p∈ls,Hs.Sg p.1
 c1:∀p∈ls,1<=↑p.2/\↑p.2<=8
 cb:∀p∈ls,∀x∈p.2,x<2^ht
end Fo
namespace L2
open PySem
variable{a:ό}{kvs:ϊ (ϐ×V)}{zs:ϊ (ό×ϐ×V)}
theorem FnT.at{d:Nat}(h:FnT K H a d ls):∃l,SqT K H a [.int (d:Int),.ref l]/\∃zs:ϊ Lz,SqT K H l (zs.map λz:Lz=>V.ref z.1)/\↑zs=↑ls/\zs.map (λz:Lz=>(z.2.1,z.2.2.2))=ls/\∀z∈zs,SqT K H z.1 [.str z.2.1,.ref z.2.2.1]/\SqT K H z.2.2.1 (nv z.2.2.2):=by let#[l,zs,e,b,f,c]:=h;show#[l,iq e,zs,f,by rw[<-b,Qb],b,λz hz=>#[iq (c z hz).1,iq (c z hz).2]]
abbrev Kz:=ϐ×ό×ϊ Nat
section
variable{H:Hp}{Q:VK}{K:Ϗ}
theorem rN(e:Rd H a (.dK (kvs.map λp=>(Sum.inr p.1,p.2))))(b:↑kvs<64)(h:∀r (ns:ϊ ϐ),ns.Perm (kvs.map (·.1))->ns.Pairwise lR->H r=none->Q (.ref r) (upd H r (.lst (ns.map V.str)))):nP [.ref a] H Q:=#[a,kvs,rfl,e,b,h]
theorem Im{kvs:ϊ (Int×V)}(e:H a=!(.dK (kvs.map λp=>(Sum.inl p.1,p.2))))(b:↑kvs<64)(h:∀r (ns:ϊ Int),ns.Perm (kvs.map (·.1))->ns.Pairwise (·<·)->H r=none->Q (.ref r) (upd H r (.lst (ns.map V.int)))):tG [.ref a] H Q:=#[a,kvs,rfl,e,b,h]
theorem Io(e:SqL K H p ys)(h:∀l (ob:PySem.Obj),ob.dict=none->H l=none->Q (.ref l) (upd H l (.frz ob (.tup ys)))):vy K [.ref p] H Q:=#[p,ys,rfl,e,h]
theorem wu{ob:PySem.Obj}(b:ob.dict=none)(c:H a=!(.frz ob (.tup (zs.map λz=>V.ref z.1))))(d:∀z∈zs,SqT K H z.1 [.str z.2.1,z.2.2])(e:(zs.map (·.2.1)).Nodup)(f:↑zs<=1000)(h:∀r,H r=none->Q (.ref r) (upd H r (.dK (zs.map λz=>(Sum.inr z.2.1,z.2.2))))):lA K [.ref a] H Q:=#[a,ob,zs,rfl,b,c,d,e,f,h]
theorem RV(c:H a=!(.tup xs))(d:H b=!(.tup ys))(f:↑xs+↑ys<=1000000)(h:∀p H',Same H H'->H' p=!(.tup (xs++ys))->Q (.ref p) H'):pL K (.ref a) (.ref b) H Q:=by
 show#[a,b,xs,ys,rfl,rfl,iq c,iq d,Ð f (by decide),λe=>?_,λ_ e=>?_,λ_ _ p g=>h p _ (aq g _) aa];.subst e;show h b H (ix _) d
 .subst e;show h a H (ix _) (by rw[ò];show c)
theorem Ec(cs:ϊ Nat)(c:Nat):PySem.Txt.rstripChars (tx cs) (tx [c])=tx (cs.take (↑cs-↑(cs.reverse.takeWhile λx=>(([c].toArray):ϔ Nat).contains x))):=by
 unfold PySem.Txt.rstripChars PySem.Txt.stripBy;have b:PySem.stripHi (tx [c]).cps.contains true (tx cs) (PySem.stripLo (tx [c]).cps.contains false (tx cs))=↑cs-↑(cs.reverse.takeWhile λx=>(([c].toArray):ϔ Nat).contains x):=by change↑(tx cs)-_=_;rw[fC];rfl
 split
 .rename_i h;unfold PySem.stripSame at h;rw[b,ù]at h;have a:=beq_iff_eq.mp h.2;rw[fC]at a;rw[a,ç]
 .unfold PySem.stripped;rw[b];change(#[(tx cs).cps.extract 0 _]:ϐ)=_;unfold tx;congr 1;apply Array.toList_inj.mp;simp
theorem Ip{c:Nat}(j:↑cs<=1000000)(h:∀(ds:ϊ Nat)(k:Nat),cs=ds++List.replicate k c->(∀x,ds.getLast?=!x->x≠c)->Q (.str (tx ds)) H):tQ (.str (tx cs)) [.str (tx [c])] H Q:=by
 show#[tx cs,tx [c],rfl,rfl,by rw[fC];show Ð j (by decide),?_];rw[Ec];have d:cs.reverse=(cs.reverse.takeWhile λx=>(([c].toArray):ϔ Nat).contains x)++(cs.reverse.dropWhile λx=>(([c].toArray):ϔ Nat).contains x):=(List.takeWhile_append_dropWhile).symm;have a:cs=(cs.reverse.dropWhile λx=>(([c].toArray):ϔ Nat).contains x).reverse++(cs.reverse.takeWhile λx=>(([c].toArray):ϔ Nat).contains x).reverse:=by
  have:=Ô List.reverse d;rwa[List.reverse_reverse,List.reverse_append]at this
 have f:(cs.reverse.takeWhile λx=>(([c].toArray):ϔ Nat).contains x).reverse=List.replicate ↑(cs.reverse.takeWhile λx=>(([c].toArray):ϔ Nat).contains x) c:=by show List.eq_replicate_iff.mpr #[by rw[ř],λx m=>?_];have:=Υ.mp (List.all_takeWhile (p:=λx=>(([c].toArray):ϔ Nat).contains x) (l:=cs.reverse)) x (List.mem_reverse.mp m);simpa using this
 have i:cs.take (↑cs-↑(cs.reverse.takeWhile λx=>(([c].toArray):ϔ Nat).contains x))=(cs.reverse.dropWhile λx=>(([c].toArray):ϔ Nat).contains x).reverse:=by
  have b:=Ô List.length a;rw[Â,ř,ř]at b;clear f d;generalize(cs.reverse.takeWhile λx=>(([c].toArray):ϔ Nat).contains x)=T at a b⊢;generalize(cs.reverse.dropWhile λx=>(([c].toArray):ϔ Nat).contains x)=D at a b⊢;rw[b,Nat.add_sub_cancel]
  conv=>lhs;rw[a]
  rw[List.take_append_of_le_length (by rw[ř];show Ç _)];show ë (by rw[ř];show Ç _)
 rw[i];show h _ ↑(cs.reverse.takeWhile λx=>(([c].toArray):ϔ Nat).contains x) (by rw[<-f];show a) λx g=>?_;rw[List.getLast?_reverse]at g;have:=List.head?_dropWhile_not (λx=>(([c].toArray):ϔ Nat).contains x) cs.reverse;rw[g]at this;intro e;subst e;simp at this
theorem XD(t:z.cps.size<=1000000)(f:Nat->ύ V)(v:∀(i c:Nat),z.cps[i]?=!c->∀(A:VK)(B:Hp->Prop),(∀y,f c=!y->A y H)->(f c=none->B H)->g (.str #[([c].toArray)]) (cap κ σ) H λh H2=>qZ (cap κ σ) h/\tc h H2 λb l=>if b=true then te h l A else B l)
  (s:∀p,H p=none->Q (.ref p) (upd H p (.lst (z.cps.toList.filterMap f)))):iS (Er κ g tc te σ Q) (.str z) H:=by
 show#[z,rfl,λi m ys k=>m=z.cps.size-i/\i<=z.cps.size/\k=H/\ys=(z.cps.toList.take i).filterMap f,#[z.cps.size,by simp,á _,rfl,rfl],?_];rintro i m ys k ⟨rfl,w,rfl,rfl⟩;by_cases d:i<z.cps.size
 .show .inr #[d,?_,λj a=>a=k/\j=(z.cps.toList.take (i+1)).filterMap f,λj a q=>#[z.cps.size-(i+1),(),rfl,d,q.1,q.2],λx a y=>?_];.have:↑((z.cps.toList.take i).filterMap f)<=i:=Ð (ė _ _) (by rw[Ú];rfl');show Ñ this (Ö d (Ð t (by decide)))
  .obtain ⟨e,c,n,r⟩:=y;subst e r;have o:z.cps.toList.take (i+1)=z.cps.toList.take i++[c]:=by
    rw[Ò,ÿ,n];rfl
   show v i c n _ _ (λy e=>#[rfl,?_]) (λe=>#[rfl,?_])
   .rw [o,Mm.cu,e];rfl
   .rw [o,Mm.cu,e];simp
 .have e:i=z.cps.size:=();subst e;show .inl #[rfl,λp u=>?_];rw[show z.cps.toList.take z.cps.size=z.cps.toList from ë (by simp)];show s p u
end
theorem Ir{zs:ϊ Lz}(h:Fo.lk (zs.map λz:Lz=>(z.2.1,z.2.2.2)) s=!co):∃z∈zs,z.2.2.2=co/\bx (zs.map λz:Lz=>((Sum.inr z.2.1:Key),V.ref z.2.2.1)) (Sum.inr s)=!(.ref z.2.2.1):=by induction zs with
 |nil=>cases h|cons p r ih=>
  rw[È,Fo.jC]at h;by_cases e:p.2.1=s
  .rw [if_pos e]at h;cases h;show#[p,Ë,rfl,cj (p:=(Sum.inr p.2.1,V.ref p.2.2.1)) (by rw[e])]
  .rw [if_neg e]at h;let#[q,m,a,b]:=ih h;show#[q,Ì _ m,a,(bN (p:=((Sum.inr p.2.1:Key),V.ref p.2.2.1)) (λz=>e (Ĝ z))).trans b]
theorem eV{c:Type}[DecidableEq c]:∀{xs ys:ϊ c},xs.Nodup->(∀x∈xs,x∈ys)->↑xs<=↑ys
 |[],_,_,_=>á _
 |x::r,ys,hn,h=>by
  have a:=h x Ë;have:=eV (xs:=r) (ys:=ys.erase x) (æ.mp hn).2 λy b=>(List.mem_erase_of_ne (show y≠x fromλe=>(æ.mp hn).1 (by rw[<-e];show b))).mpr (h y (Ì _ b));rw[List.length_erase_of_mem a]at this;have:0<↑ys:=ļ a;rw[ô];rfl'
theorem yC(a:ϐ):¬lR a a:=ŭ _
theorem iy{ns:ϊ ϐ}(h:ns.Pairwise lR):ns.Nodup:=œ (S:=λa b=>a≠b) (λ{a b} (z:lR a b) (e:a=b)=>yC a (by rw[<-e]at z;show z)) h
section
theorem O6{s:Type}(c:s->V){zs:ϊ s}(D:SqT K H a (zs.map c))(A:↑zs<=1000000)(d:Nat->ϊ V->Hp->Prop)(u:d 0 [] H)(w:∀i ys H',d i ys H'->SqT K H' a (zs.map c))(hz:∀i ys H',d i ys H'->↑ys<=i)(C:∀(i:Nat) z ys H',zs[i]?=!z->d i ys H'->g (c z) (cap κ σ) H' λj H2=>qZ (cap κ σ) j/\tc j H2 λb o=>if b=true then te j o λy t=>d (i+1) (ys++[y]) t else d (i+1) ys o)(v:∀ys H',d ↑zs ys H'->∀p,H' p=none->Q (.ref p) (upd H' p (.lst ys))):iT K (Er κ g tc te σ Q) (.ref a) H:=by
 show#[a,rfl,#[_,D],λi m ys H'=>m=↑zs-i/\i<=↑zs/\d i ys H',#[↑zs,by simp,á _,u],?_];rintro i m ys H' ⟨rfl,E,p⟩;have q:=w i ys H' p;by_cases h:i<↑zs
 .have l:zs[i]?=!zs[i]:=Zs h;show .inr #[#[_,c zs[i],q,by rw[À,l];rfl],?_,λk f=>d (i+1) k f,λk f n=>#[↑zs-(i+1),(),rfl,h,n],λx f y=>?_];.show Ñ (hz i ys H' p) (Ö h (Ð A (by decide)))
  .obtain ⟨e,y⟩:=y;subst e;have r:=y _ q;rw[À,l]at r;cases r;show C i _ ys _ l p
 .have e:i=↑zs:=();subst e;show .inl #[#[_,q,by simp],λn B=>v ys H' p n B]
end
end L2
namespace Hs
open PySem L2
theorem XF{c:Type}{R:c->c->Prop}(d:∀a b,R a b->R b a->False):∀{l1 l2:ϊ c},l1.Perm l2->l1.Pairwise R->l2.Pairwise R->l1=l2
 |[],l2,h,_,_=>by rw[List.nil_perm]at h;show h.symm|a::t,l2,h,h1,h2=>by cases l2 with
  |nil=>show absurd h.symm (by intro z;rw[List.nil_perm]at z;cases z)|cons b u=>
   have e:a=b:=by
    rcases Å.mp (h.mem_iff.mp Ë)with e|m;.show e
    .rcases Å.mp (h.mem_iff.mpr Ë)with e|m';.show e.symm
     .show (d _ _ ((Ņ.mp h1).1 b m') ((Ņ.mp h2).1 a m)).elim
   subst e;rw[XF d h.cons_inv (Ņ.mp h1).2 (Ņ.mp h2).2]
def XH{c d:ϊ Int}(e:c.Perm p)(g:c.Pairwise (·<·))(f:d.Perm p)(i:d.Pairwise (·<·)):c=d:=XF (λa b (h:a<b) h'=>()) (e.trans f.symm) g i
def Srt(rows:ϊ (ό×ϊ Dz))(ds:L2S):Prop:=↑ds=↑rows/\∀(j:Nat) ps row,ds[j]?=!ps->rows[j]?=!row->ps.Perm (row.2.map (·.2))/\(ps.map (·.1)).Pairwise lR
end Hs
namespace L2
open PySem
variable{a:ό}{zs:ϊ (ό×ϐ×V)}
theorem DrT.of{K:Ϗ}{H:Hp}{t:ό}{ps:L1S}(d:H t=!(.tup (zs.map λz=>V.ref z.1)))(f:∀z∈zs,H z.1=!(.tup [.str z.2.1,z.2.2]))(e:zs.map (·.2)=ps.map λp=>(p.1,V.int p.2)):DrT K H t ps:=by
 show#[(zs.zip ps).map λq=>(q.1.1,q.2.1,q.2.2),?_,?_,?_];.rw [Æ];change(zs.zip ps).map (λq=>q.2)=ps;rw[List.map_snd_zip (by have:=Ô List.length e;simp at this;rfl')]
 .rw [Æ];have:(zs.zip ps).map ((λz:ό×ϐ×Int=>V.ref z.1)∘λq=>(q.1.1,q.2.1,q.2.2))=((zs.zip ps).map (·.1)).map λz=>V.ref z.1:=by rw[Æ];rfl
  rw[this,List.map_fst_zip (by have:=Ô List.length e;simp at this;rfl')];show d
 .intro z hz;let#[q,h,rfl]:=Zp.mp hz;let#[i,g,b]:=Ą.mp h;rw[List.getElem_zip]at b;have a:i<↑zs/\i<↑ps:=by rw[List.length_zip]at g;rfl'
  have c:zs[i].2=(ps[i].1,V.int ps[i].2):=by have:=Ô (λl=>l[i]?) e;simp only[À,Zs a.1,Zs a.2,Ş]at this;show Ù this
  rw[<-b];have:=f _ (ä a.1);rw[c]at this;show this
section
theorem Iu(h:b σ H λx H1=>∃(a:ό)(kvs:ϊ (ϐ×V)),x=.ref a/\H1 a=!(.dK (kvs.map λp=>(Sum.inr p.1,p.2)))/\↑kvs<64/\∀r (zs:ϊ (ό×ϐ×V)) (H2:Hp),(zs.map (·.2)).Perm kvs->(zs.map (·.2.1)).Pairwise lR->H1 r=none->Same H1 H2->H2 r=!(.lst (zs.map λz=>V.ref z.1))->(∀z∈zs,H2 z.1=!(.tup [.str z.2.1,z.2.2]))->Q (.ref r) H2):tH b σ H Q:=h
theorem RW(e:H a=!(.dT kvs))(h:Q (.int ↑kvs) H):Ht [.ref a] H Q:=#[a,kvs,rfl,e,h]
end
theorem fc{a:Type}{f:a->Key}{g:a->V}{zs:ϊ a}(h:k∉zs.map f):bx (zs.map λz=>(f z,g z)) k=none:=by induction zs with
 |nil=>rfl|cons z r ih=>rw[È]at h⊢;rw[bN (λe=>h (by rw[<-e];show Ë))];show ih (λm=>h (Ì _ m))
theorem XJ(n:Nat)(h:Hs.Sg s):Sh n (.str s):=by let#[k,rfl]:=h;show Ih n λc a=>by rw[Zl.mp a];show Hs.yx k
noncomputable def wL(ls:ϵ):PyData:=.list (ls.map λp=>.tuple [.str p.1,.list ((p.2.map λi:Nat=>(i:Int)).map PyData.int)])
section
theorem Bv(e:SqL K H a (ns.map V.str))(d:ns.Nodup)(c:↑ns<64)(h:∀r (b:ϊ ϐ),b.Perm ns->b.Pairwise lR->H r=none->Q (.ref r) (upd H r (.lst (b.map V.str)))):pH K [.ref a] H Q:=#[a,ns,rfl,e,d,c,h]
end
end L2
namespace Fo
open PySem L2
structure GoodL(ht:Nat)(zs:ϊ Lz):Prop where
 pos:1<=↑zs
 le:↑zs<=40
 nd:(zs.map λz:Lz=>z.2.1).Nodup
 sg:∀z∈zs,Hs.Sg z.2.1
 c1:∀z∈zs,1<=↑z.2.2.2/\↑z.2.2.2<=8
 cb:∀z∈zs,∀x∈z.2.2.2,x<2^ht
def Of(zs:ϊ Lz)(ls:ϵ):Prop:=ls.Perm (zs.map λz:Lz=>(z.2.1,z.2.2.2))/\(ls.map (·.1)).Pairwise lR
end Fo
namespace Hs
open PySem L2
def O7{m n:Int}(h:jH m=jH n):m%94=n%94:=by
 have e:↑wK.cps.toList=94:=by ac_nf
 have a:wK.cps.toList.Nodup:=by ac_nf
 have a0:0<=m%94:=Ħ _ (by decide);have b:m%94<94:=Ě _ (by decide);have c:0<=n%94:=Ħ _ (by decide);have d:n%94<94:=Ě _ (by decide);unfold jH at h;rw[Á,Á,Zs (),Zs ()]at h;have:=(Ů (h₀:=()) (h₁:=()) a).mp h;rfl'
end Hs
namespace L2
open PySem
variable{H:Hp}{y:V}{a b p:ό}{rows:Ϸ}
abbrev Gz:=ό×V×ό×ϊ V
theorem Ed(a:H l=!(.lst xs))(c:SqT K H b zs)(d:↑xs+↑zs<=1000000)(h:Q .non (upd H l (.lst (xs++zs)))):lD K (.ref l) [.ref b] H Q:=#[l,b,xs,zs,rfl,rfl,a,c,Ð d (by decide),h]
section
def iRD(R:It->Hp->Prop)(vs:ϊ V)(H:Hp):Prop:=∃i j:Int,vs=[.int i,.int j,.int (-1)]/\(-(2^62)<=i/\i<2^62/\-(2^62)<=j/\j<2^62)/\R (Mx i (i-j).toNat) H
theorem O8(h:ta σ H (iRD R)):Hf ta σ H R:=h
theorem RX{lo n:Int}(m:Nat)(e:(lo-n).toNat=m)(t:n<=1000000000)(u:-1000000000<=n)(o:-1000000000<=lo)(d:lo<=1000000000)(a:Nat->St->Hp->Prop)(j:a 0 σ H)(q:∀(i:Nat) σ H',i<m->a i σ H'->g (.int (lo-i)) σ H' λc H2=>tb {D with nx:=a (i+1),ct:=a (i+1),bk:=D.nx} c H2) (l:∀σ H',a m σ H'->D.nx σ H'):iRD (qG g tb D σ) [.int lo,.int n,.int (-1)] H:=by
 show#[lo,n,rfl,#[(),(),(),()],?_];rw[e];show#[λi k σ H=>k=m-i/\i<=m/\a i σ H,#[m,by simp,á _,j],?_];rintro i k σ H ⟨rfl,s,p⟩;by_cases b:i<m;.show .inr #[b,a (i+1),λσ' H' r=>#[m-(i+1),(),rfl,b,r],λx H' y=>?_];let#[f,h]:=y;subst f h;show q i σ _ b p
 .have e:i=m:=();subst e;show .inl #[Nat.le_refl _,l σ H p]
def iZG(K:Ϗ)(R:It->Hp->Prop)(vs:ϊ V)(H:Hp):Prop:=∃a b xs ys q,vs=[.ref a,.ref b]/\SqT K H a xs/\Ep K H b ys q/\R (Rc K a b q) H
theorem O9(h:ta σ H (iZG K R)):HH K ta σ H R:=h
theorem pW{b:Hp}(s:Same H b):∀{q:ϑ},Ep K H a xs q->Ep K b a xs q
 |true,h=>s.seq h|false,h=>s.tup h
theorem XM{B C:Type}(c:B->V)(d:C->V){xs:ϊ B}{ys:ϊ C}(u:SqT K H a (xs.map c)){G:ϑ}(w:Ep K H b (ys.map d) G)(J:↑xs=↑ys)(L:↑xs<=1000000)(f:B->C->V)(M:∀(i:Nat) x y p H',xs[i]?=!x->ys[i]?=!y->Same H H'->H' p=!(.tup [c x,d y])->∀A:VK,(∀l,Same H' l->A (f x y) l)->g (.ref p) (cap κ σ) H' λo H2=>qZ (cap κ σ) o/\te o H2 A)(I:∀p H',Same H H'->H' p=!(.lst (List.zipWith f xs ys))->Q (.ref p) H'):iZG K (Er κ g gZ te σ Q) [.ref a,.ref b] H:=by
 show#[a,b,_,_,G,rfl,u,w,λi m zs H'=>m=↑xs-i/\i<=↑xs/\Same H H'/\zs=List.zipWith f (xs.take i) (ys.take i),#[↑xs,by simp,á _,ix H,rfl],?_];rintro i m zs H' ⟨rfl,R,h,rfl⟩;by_cases k:i<↑xs
 .have r:xs[i]?=!xs[i]:=Zs k;have s:ys[i]?=!(ys[i]'(by rfl')):=Zs ();show .inr #[#[_,_,c xs[i],d (ys[i]'(by rfl')),h.tup u,pW h w,by rw[À,r];rfl,by rw[À,s];rfl],?_,λn j=>Same H j/\n=List.zipWith f (xs.take (i+1)) (ys.take (i+1)),λn j F=>#[↑xs-(i+1),(),rfl,k,F.1,F.2],λv j y=>?_]
  .have:↑(List.zipWith f (xs.take i) (ys.take i))<=i:=by rw[List.length_zipWith,Ú];rfl'
   show Ñ this (Ö k (Ð L (by decide)))
  .obtain ⟨p,x,z,t,rfl,rfl,N,O⟩:=y;have D:=N _ (h.tup u);have E:=O _ (pW h w);rw[À,r]at D;rw[À,s]at E;cases D;cases E;have q:=M i _ _ p (upd H' p (.tup [c xs[i],d (ys[i]'(by rfl'))])) r s (h.new t) aa (λy l=>Same H l/\List.zipWith f (xs.take i) (ys.take i)++[y]=List.zipWith f (xs.take (i+1)) (ys.take (i+1))) (λl P=>#[(h.new t).trans P,?_]);.simpa only[gZ,ı]using q
   .rw [Ò,Ò,r,s,List.zipWith_append (by rw[Ú,Ú];rfl')];rfl
 .have e:i=↑xs:=();subst e;show .inl #[#[_,_,h.tup u,pW h w,.inl (by simp)],λp t=>I p _ (h.new t) ?_];rw[aa,ç,J,ç]
end
theorem ar0{a:Type}{P:ϊ a->Prop}(h:P []):∀us:ϊ a,↑us=0->P us|[],_=>h
theorem ar1{a:Type}{P:ϊ a->Prop}(h:∀a0:a,P [a0]):∀us:ϊ a,↑us=1->P us|[a0],_=>h a0
theorem ar2{b:Type}{P:ϊ b->Prop}(h:∀a0 a:b,P [a0,a]):∀us:ϊ b,↑us=2->P us|[a0,a],_=>h a0 a
theorem ar3{c:Type}{P:ϊ c->Prop}(h:∀a0 a b:c,P [a0,a,b]):∀us:ϊ c,↑us=3->P us|[a0,a,b],_=>h a0 a b
theorem ar4{d:Type}{P:ϊ d->Prop}(h:∀a0 a b c:d,P [a0,a,b,c]):∀us:ϊ d,↑us=4->P us|[a0,a,b,c],_=>h a0 a b c
theorem ar5{e:Type}{P:ϊ e->Prop}(h:∀a0 a b c d:e,P [a0,a,b,c,d]):∀us:ϊ e,↑us=5->P us|[a0,a,b,c,d],_=>h a0 a b c d
namespace Tn
noncomputable def dv(cs:ϊ Nat):Nat:=PySem.NumText.digitsVal cs
noncomputable def Zf(c:Nat):ϊ Nat->ϊ (ϊ Nat)
 |[]=>[[]]|x::r=>if x=c then[]::Zf c r else match Zf c r with
  |[]=>[[x]]|p::ps=>(x::p)::ps
end Tn
def iDK(R:It->Hp->Prop):V->Hp->Prop:=λx H1=>∃a kvs,x=.ref a/\((H1 a=!(.dK kvs)/\∀od,R (xT od a) (upd H1 a (.frz od (.dK kvs))))\/∃od,H1 a=!(.frz od (.dK kvs))/\R (xT od a) H1)
section
theorem Iv{a:TE}(h:a σ H (iDK R)):tM a σ H R:=h
theorem DGet.r{kvs:ϊ (Key×V)}{k:Key}(e:Rd H a (.dK kvs)):DGet H a (kV k) (bx kvs k):=.inl #[kvs,k,e,rfl,rfl]
end
noncomputable def kz(kvs:ϊ Kz):ϵ:=kvs.map λp:Kz=>(p.1,p.2.2)
def KL(K:Ϗ)(C:ό):ϊ (ό×ϑ)->Prop
 |[]=>True|p::r=>PySem.W.kitOne K (.ref C) (.ref p.1)=!p.2/\KL K C r
structure RefG(K:Ϗ)(C B:ό)(ks:ϊ (ό×ϑ)):Prop where
 ex:ExcK K C
 em:PySem.W.exmOne K (.ref C) (.ref B)=!true
 kv:PySem.W.kitOne K (.ref C) (.type "ValueError")=!true
 kl:KL K C ks
def KA(K:Ϗ)(C:ό):ϊ (ϊ ό)->Prop
 |[]=>True
 |p::r=>PySem.W.kitAny K (.ref C) (p.map Value.ref)=!false/\KA K C r
structure RefH(K:Ϗ)(C B:ό)(ks:ϊ (ό×ϑ))(ls:ϊ (ϊ ό)):Prop where
 ex:ExcK K C
 em:PySem.W.exmOne K (.ref C) (.ref B)=!true
 kv:PySem.W.kitOne K (.ref C) (.type "ValueError")=!true
 kl:KL K C ks
 ka:KA K C ls
def LL(H:Hp)(p:ό)(rows:Ϸ):Prop:=H p=!(.lst (rows.map λr:ό×ϊ Nat=>V.ref r.1))/\∀r∈rows,H r.1=!(.lst (nv r.2))
theorem LL.dp{K:Ϗ}(a:SqL K H p (rows.map λr:ό×ϊ Nat=>V.ref r.1))(b:∀r∈rows,H r.1=!(.lst (nv r.2))):Dp K H (.ref p) (.list ((rows.map (·.2)).map λxs=>.list ((xs.map λi:Nat=>(i:Int)).map PyData.int))):=by show .lst a ?_;clear a;induction rows with
 |nil=>show .nil|cons z r ih=>show .cons (Dp.nats (ip (b z Ë))) (ih λy c=>b y (Ì _ c))
theorem Iw(a:ϊ (ϊ Nat)):Sh 2 (.list (a.map λxs=>.list ((xs.map λi:Nat=>(i:Int)).map PyData.int))):=by have:=Ia (a.map λxs=>xs.map λi:Nat=>(i:Int));rw[Æ]at this;show this
theorem RZ(e:H l=!(.lst (y::xs)))(h:Q y (upd H l (.lst xs))):xg (.ref l) [.int 0] H Q:=⟨l,y::xs,0,0,y,rfl,rfl,e,by decide,by decide,by unfold seqIndex?;simp,rfl,h⟩
theorem s_pop(e:H l=!(.lst (xs++[y])))(h:Q y (upd H l (.lst xs))):QF (.ref l) [] H Q:=#[l,xs++[y],y,rfl,rfl,e,by simp,by rw[List.dropLast_concat];show h]
theorem S7{kvs:ϊ (Key×V)}(l:Rd H a (.dK kvs))(c:PySem.Obj->Nat->St->Hp->Prop)(r:∀od H1,Sb [a] H H1->H1 a=!(.frz od (.dK kvs))->c od 0 σ H1)(u:∀od i σ H',c od i σ H'->H' a=!(.frz od (.dK kvs)))(v:∀od (i:Nat) z σ H',kvs[i]?=!z->c od i σ H'->g (kV z.1) σ H' λf H2=>tb {D with nx:=c od (i+1),ct:=c od (i+1),bk:=D.nx} f H2) (t:∀od σ H',c od ↑kvs σ H'->D.nx σ H'):iDK (qG g tb D σ) (.ref a) H:=by
 have key:∀od H1,Sb [a] H H1->H1 a=!(.frz od (.dK kvs))->qG g tb D σ (xT od a) H1:=by
  intro od H1 sb j;show#[λi m σ H=>m=↑kvs-i/\i<=↑kvs/\c od i σ H,#[↑kvs,by simp,á _,r od H1 sb j],?_];rintro i m σ H' ⟨rfl,E,p⟩;have e:=u od i σ H' p;by_cases d:i<↑kvs;.show .inr #[#[kvs,e,d],c od (i+1),λσ' H' A=>#[↑kvs-(i+1),(),rfl,d,A],λx h y=>?_];let#[rfl,C]:=y;let#[k,B,s,rfl]:=C kvs e;show v od i (k,B) σ _ s p
  .have n:i=↑kvs:=();subst n;show .inl #[#[kvs,e,Ç _],t od σ H' p]
 rcases l with e|⟨od,e⟩;.show #[a,kvs,rfl,.inl #[e,λod=>key od _ ?_ aa]];intro b o w q;rw[ak (by simpa using w)];show q
 .show #[a,kvs,rfl,.inr #[od,e,key od H (λb o _ q=>q) e]]
theorem PK(e:SqT K H a xs)(h:∀p H',Same H H'->SqT K H' p (gO xs lo hi)->Q (.ref p) H'):vL K (.ref a) lo hi H Q:=⟨a,xs,rfl,e,λp H' c b=>h p H' (by
 rcases c with⟨rfl,rfl,_⟩|⟨hn,rfl⟩;.show ix _
 .show aq hn _) b⟩
theorem Iz(e:H a=!(.tup xs))(h:∀p H',Same H H'->H' p=!(.tup (gO xs lo hi))->Q (.ref p) H'):vL K (.ref a) lo hi H Q:=⟨a,xs,rfl,iq e,λp H' c b=>by
 rcases c with⟨rfl,rfl,z⟩|⟨hn,rfl⟩;.show h _ _ (ix _) (by rw[z];show e)
 .show h _ _ (aq hn _) aa⟩
theorem SGet.of(e:H a=!(bF a kvs))(d:∀p∈kvs,uD H p.1 p.2.1)(c:uD H b k):SGet H a (.ref b) (dj kvs k):=#[kvs,k,b,.inl e,d,rfl,c,rfl]
theorem SPut.of(e:H a=!(bF a kvs))(d:∀p∈kvs,uD H p.1 p.2.1)(c:uD H b k)(f:↑kvs<=1000000):SPut H a (.ref b) v (upd H a (bF a (tU kvs b k v))):=#[kvs,k,b,e,d,rfl,c,Ñ f (by decide),rfl]
theorem rO:dj kvs k=none↔k∉kvs.map (·.2.1):=by
 unfold dj;rw[Ŝ,ņ];constructor;.intro h m;let#[p,a,e]:=Zp.mp m;show h p a (Õ e)
 .intro h p a e;show h (Zp.mpr #[p,a,é e])
theorem Ef(h:dj kvs k=!v):∃b,(b,k,v)∈kvs:=by
 unfold dj at h;let#[p,a,rfl]:=Ï.mp h;have c:=ą a;have d:p.2.1=k:=by have:=Ţ a;show é this
 show#[p.1,by rw[<-d];show c]
theorem pX(h:dj kvs k=none):tU kvs b k v=kvs++[(b,k,v)]:=by unfold tU;rw[h];rfl
section
theorem Sq{l:Type}(c:l->V){xs:ϊ l}(w:SqL K H a (xs.map c))(b:Nat->St->Hp->Prop)(o:b 0 σ H)(s:∀i σ H',b i σ H'->SqL K H' a (xs.map c))(u:∀(i:Nat) x p σ H',xs[i]?=!x->b i σ H'->H' p=none->g (.ref p) σ (upd H' p (.tup [.int (i:Int),c x])) λh H2=>tb {D with nx:=b (i+1),ct:=b (i+1),bk:=D.nx} h H2)(q:∀σ H',b ↑xs σ H'->D.nx σ H'):iE K (qG g tb D σ) [.ref a] H:=by
 show#[a,_,rfl,w,λi m σ H=>m=↑xs-i/\i<=↑xs/\b i σ H,#[↑xs,by simp,á _,o],?_];rintro i m σ H ⟨rfl,A,p⟩;have f:=s i σ H p;by_cases d:i<↑xs
 .have j:(xs.map c)[i]?=!(c xs[i]):=by rw[À,Zs d];rfl
  show .inr #[#[_,_,f,j],b (i+1),λσ' H' z=>#[↑xs-(i+1),(),rfl,d,z],λv H' y=>?_];let#[r,B,t,rfl,rfl,n]:=y;have k:=n _ f;rw[j]at k;cases k;show u i _ r σ H (Zs d) p t
 .have e:i=↑xs:=();subst e;show .inl #[#[_,f,by rw[Qb];show Ç _],q σ H p]
end
theorem dh(h:H p=!(.tup xs))(e:H q=!(.lst ys)):upd H q o p=!(.tup xs):=by rw[ak λz=>by rw[z,e]at h;cases h];show h
theorem pY(d:Nat->St->Hp->Prop)(n:Nat)(o:d n σ H)(p:∀m σ H (N:St->Hp->Prop),d m σ H->(∀m' σ' H',m'<m->d m' σ' H'->N σ' H')->c σ H λb H1=>if b=true then tb {D with nx:=N,ct:=N,bk:=D.nx} σ H1 else D.nx σ H1)(e:∀σ H Q l,(∀b H1,Q b H1->l b H1)->c σ H Q->c σ H l):fX c tb D σ H:=by classical
 have a:∀(P:Nat->Prop),(∃m,P m)->∃m,P m/\∀k,P k->m<=k:=λP ⟨m,i⟩=>by induction m using Nat.strongRecOn with|ind m ih=>
   by_cases h:∃k,k<m/\P k;.obtain ⟨k,g,j⟩:=h;show ih k g j
   .show #[m,i,λk j=>Nat.le_of_not_lt λg=>h #[k,g,j]]
 show nU (λσ H=>∃m,d m σ H) (λσ H=>if h:∃m,d m σ H then(a (λm=>d m σ H) h).choose else 0) #[n,o] ?_ e;intro σ H h;let#[q,r]:=(a (λm=>d m σ H) h).choose_spec;show p _ σ H _ q λm' σ' H' i f=>#[#[m',f],?_];rw[dif_pos h,dif_pos #[m',f]];show Ñ ((a (λm=>d m σ' H') #[m',f]).choose_spec.2 m' f) i
theorem Eg(h:dj kvs k=none):dj (kvs++[(b,k,v)]) k=!v:=by unfold dj at h⊢;rw[List.find?_append,Ŝ.mp h];simp
theorem IK(h:k∈kvs.map (·.2.1)):∃v,dj kvs k=!v:=by cases e:dj kvs k with
 |none=>show absurd h (rO.mp e)|some v=>show#[v,rfl]
end L2
namespace Mm
section
variable{α:Type}
inductive Rch(bs:ϊ α)(nx:α->ϊ α):α->Prop|base {x:α} (h:x∈bs):Rch bs nx x|step {x y:α} (h:Rch bs nx x) (m:y∈nx x):Rch bs nx y
theorem Rch.all{bs:ϊ α}{nx:α->ϊ α}{P:α->Prop}(a:∀x∈bs,P x)(b:∀x y,P x->y∈nx x->P y):∀{x},Rch bs nx x->P x:=λh=>by induction h with
 |base h=>show a _ h|step h m ih=>show b _ _ ih m
structure Clo(bs:ϊ α)(nx:α->ϊ α)(F W:ϊ α):Prop where
 nd:F.Nodup
 rF:∀x∈F,Rch bs nx x
 rW:∀x∈W,Rch bs nx x
 b:∀x∈bs,x∈F\/x∈W
 c:∀x∈F,∀y∈nx x,y∈F\/y∈W
theorem Clo.start(bs:ϊ α)(nx:α->ϊ α):Clo bs nx [] bs:=#[List.nodup_nil,λx m=>(by cases m),λx m=>.base m,λx m=>.inr m,λx m=>(by cases m)]
theorem Clo.skip{bs:ϊ α}{nx:α->ϊ α}{F W:ϊ α}{x:α}(h:Clo bs nx F (W++[x]))(m:x∈F):Clo bs nx F W:=by
 have k:∀y,y∈F\/y∈W++[x]->y∈F\/y∈W:=λy a=>by
  rcases a with a|a;.show .inl a
  .rcases Ã.mp a with a|a;.show .inr a
   .rw [Zl.mp a];show .inl m
 show#[h.nd,h.rF,λy d=>h.rW y (ß _ d),λy d=>k y (h.b y d),λy d z e=>k z (h.c y d z e)]
theorem Clo.take{bs:ϊ α}{nx:α->ϊ α}{F W:ϊ α}{x:α}(h:Clo bs nx F (W++[x]))(m:x∉F):Clo bs nx (F++[x]) (W++nx x):=by
 have i:=h.rW x (Ø _ (Zl.mpr rfl));have k:∀y,y∈F\/y∈W++[x]->y∈F++[x]\/y∈W++nx x:=λy f=>by
  rcases f with f|f;.show .inl (ß _ f)
  .rcases Ã.mp f with f|f;.show .inr (ß _ f)
   .show .inl (Ø _ f)
 show#[?_,λy d=>?_,λy d=>?_,λy d=>k y (h.b y d),λy d z g=>?_];.show Ü.mpr #[h.nd,by simp,λa j b l e=>m ?_];rw[Zl.mp l]at e;rw[<-e];show j
 .rcases Ã.mp d with d|d;.show h.rF y d
  .rw [Zl.mp d];show i
 .rcases Ã.mp d with d|d;.show h.rW y (ß _ d)
  .show .step i d
 .rcases Ã.mp d with d|d;.show k z (h.c y d z g)
  .rw [Zl.mp d]at g;show .inr (Ø _ g)
theorem Clo.fin{bs:ϊ α}{nx:α->ϊ α}{F:ϊ α}(h:Clo bs nx F [])(x:α):x∈F↔Rch bs nx x:=by show#[h.rF x,λr=>?_];induction r with
 |base m=>show(h.b _ m).resolve_right (by simp)|step r m ih=>show(h.c _ ih _ m).resolve_right (by simp)
end
end Mm
namespace L2
open PySem
variable{H:Hp}{Q:VK}{a:ό}{us:ϊ (V×PyData)}
def Zo(t:TE):Prop:=∀σ H (Q Q':VK),(∀v H1,Q v H1->Q' v H1)->t σ H Q->t σ H Q'
def MnT(t:TT):Prop:=∀σ H (Q Q':ϑ->Hp->Prop),(∀v H1,Q v H1->Q' v H1)->t σ H Q->t σ H Q'
def MnR(r:R2):Prop:=∀x y H (Q Q':VK),(∀v H1,Q v H1->Q' v H1)->r x y H Q->r x y H Q'
theorem XN{a:TE}(e:MnR r)(c:Zo a)(d:Zo b):Zo (aL r a b):=λj H Q i h z=>c _ _ _ _ (λx f z=>d _ _ _ _ (λy g z=>e _ _ _ _ _ h z) z) z
theorem Oa(a:Zo t):MnT (aP t):=λd H Q c h z=>a _ _ _ _ (λx b ⟨k,e,z⟩=>#[k,e,h _ _ z]) z
theorem Ob(K:Ϗ):MnR (rNeD K):=λx y H Q g h ⟨d,e,a,b,c,f,z⟩=>#[d,e,a,b,c,f,h _ _ z]
def Zq(R:It->Hp->Prop):V->Hp->Prop:=λx H1=>∃a kvs,x=.ref a/\((H1 a=!(bF a kvs)/\∀od,R (yd od a kvs) (upd H1 a (.frz od (bF a kvs))))\/∃od,H1 a=!(.frz od (bF a kvs))/\R (yd od a kvs) H1)
def iSI(R:It->Hp->Prop):V->Hp->Prop:=λx H1=>∃a kvs,x=.ref a/\((H1 a=!(bF a kvs)/\∀od,R (yf od a kvs) (upd H1 a (.frz od (bF a kvs))))\/∃od,H1 a=!(.frz od (bF a kvs))/\R (yf od a kvs) H1)
section
theorem IV(h:tl σ H (Zq R)):tZ tl σ H R:=h
theorem Ei(h:tl σ H (iSI R)):u5 tl σ H R:=h
theorem IW:Sb [a] H (upd H a o):=λb o c q=>by rw[ak (by simpa using c)];show q
theorem PL(c:Rd H a (bF a kvs))(h:∀od H1,Sb [a] H H1->H1 a=!(.frz od (bF a kvs))->R (yd od a kvs) H1):Zq R (.ref a) H:=by
 rcases c with e|⟨od,e⟩;.show #[a,kvs,rfl,.inl #[e,λod=>h od _ IW aa]]
 .show #[a,kvs,rfl,.inr #[od,e,h od H (λb o _ q=>q) e]]
theorem XQ(c:Rd H a (bF a kvs))(h:∀od H1,Sb [a] H H1->H1 a=!(.frz od (bF a kvs))->R (yf od a kvs) H1):iSI R (.ref a) H:=by
 rcases c with e|⟨od,e⟩;.show #[a,kvs,rfl,.inl #[e,λod=>h od _ IW aa]]
 .show #[a,kvs,rfl,.inr #[od,e,h od H (λb o _ q=>q) e]]
theorem Ss(j:Rd H a (bF a kvs))(b:PySem.Obj->Nat->St->Hp->Prop)(l:∀od H1,Sb [a] H H1->H1 a=!(.frz od (bF a kvs))->b od 0 σ H1)(e:∀od i σ H',b od i σ H'->H' a=!(.frz od (bF a kvs)))(q:∀od (i:Nat) z σ H',kvs[i]?=!z->b od i σ H'->g (.ref z.1) σ H' λd H2=>tb {D with nx:=b od (i+1),ct:=b od (i+1),bk:=D.nx} d H2) (o:∀od σ H',b od ↑kvs σ H'->D.nx σ H'):Zq (qG g tb D σ) (.ref a) H:=by
 show PL j λod H1 sb h=>#[λi m σ H=>m=↑kvs-i/\i<=↑kvs/\b od i σ H,#[↑kvs,by simp,á _,l od H1 sb h],?_];rintro i m σ H' ⟨rfl,s,p⟩;by_cases c:i<↑kvs;.show .inr #[#[e od i σ H' p,c],b od (i+1),λσ' H' r=>#[↑kvs-(i+1),(),rfl,c,r],λx f y=>?_];let#[rfl,z,n,rfl]:=y;show q od i z σ _ n p
 .have k:i=↑kvs:=();subst k;show .inl #[#[e od _ σ H' p,Ç _],o od σ H' p]
theorem Su(j:Rd H a (bF a kvs))(b:PySem.Obj->Nat->St->Hp->Prop)(l:∀od H1,Sb [a] H H1->H1 a=!(.frz od (bF a kvs))->b od 0 σ H1)(e:∀od i σ H',b od i σ H'->H' a=!(.frz od (bF a kvs)))(s:∀od (i:Nat) z p σ H',kvs[i]?=!z->b od i σ H'->H' p=none->g (.ref p) σ (upd H' p (.tup [.ref z.1,z.2.2])) λd H2=>tb {D with nx:=b od (i+1),ct:=b od (i+1),bk:=D.nx} d H2) (o:∀od σ H',b od ↑kvs σ H'->D.nx σ H'):iSI (qG g tb D σ) (.ref a) H:=by
 show XQ j λod H1 sb h=>#[λi m σ H=>m=↑kvs-i/\i<=↑kvs/\b od i σ H,#[↑kvs,by simp,á _,l od H1 sb h],?_];rintro i m σ H' ⟨rfl,u,p⟩;by_cases c:i<↑kvs;.show .inr #[#[e od i σ H' p,c],b od (i+1),λσ' H' t=>#[↑kvs-(i+1),(),rfl,c,t],λx f y=>?_];let#[q,z,r,n,rfl,rfl]:=y;show s od i z q σ _ n p r
 .have k:i=↑kvs:=();subst k;show .inl #[#[e od _ σ H' p,Ç _],o od σ H' p]
theorem XR(C:Rd H a (bF a kvs))(J:↑kvs<=1000000)(f:ό×Sk×V->ύ V)
  (h:∀od H1,Sb [a] H H1->H1 a=!(.frz od (bF a kvs))->(∀(i:Nat) z,kvs[i]?=!z->∀(A:VK)(B:Hp->Prop),(∀y,f z=!y->A y H1)->(f z=none->B H1)->g (.ref z.1) (cap κ σ) H1 λj H2=>qZ (cap κ σ) j/\tc j H2 λb t=>if b=true then te j t A else B t)/\∀p,H1 p=none->Q (.ref p) (upd H1 p (.lst (kvs.filterMap f)))):Zq (Er κ g tc te σ Q) (.ref a) H:=by
 show PL C λod H1 sb o=>?_;let#[G,E]:=h od H1 sb o;show#[λi m ys l=>m=↑kvs-i/\i<=↑kvs/\l=H1/\ys=(kvs.take i).filterMap f,#[↑kvs,by simp,á _,rfl,rfl],?_];rintro i m ys l ⟨rfl,I,rfl,rfl⟩;by_cases d:i<↑kvs
 .have q:kvs[i]?=!kvs[i]:=Zs d;have u:kvs.take (i+1)=kvs.take i++[kvs[i]]:=by rw[Ò,q];rfl
  have s:↑((kvs.take i).filterMap f)<=1000000:=Ð (ė _ _) (by rw[Ú];rfl');show .inr #[#[o,d],Ñ s (by decide),λk c=>c=l/\k=(kvs.take (i+1)).filterMap f,λk c x=>#[↑kvs-(i+1),(),rfl,d,x.1,x.2],λv c y=>?_];let#[rfl,z,w,rfl]:=y;rw[q]at w;have r:kvs[i]=z:=Ù w;show G i z (by rw[q,r]) (λy n=>n=c/\(kvs.take i).filterMap f++[y]=(kvs.take (i+1)).filterMap f) (λn=>n=c/\(kvs.take i).filterMap f=(kvs.take (i+1)).filterMap f)
   (λy e=>#[rfl,by rw[u,Mm.cu,r,e];rfl]) (λe=>#[rfl,by rw[u,Mm.cu,r,e];simp])
 .have D:i=↑kvs:=();subst D;show .inl #[#[o,Ç _],λp F=>?_];rw[ç];show E p F
theorem Sv(h:td σ H λx H1=>∃a,x=.ref a/\Wx H1 a/\c σ H1 λy H2=>∃kvs k b v,H2 a=!(.dT kvs)/\y=.ref b/\H2 b=!(.tup (k.map kV))/\bx kvs k=!v/\Q v (upd H2 a (.dT (dm kvs k)))):Hx td c σ H Q:=h
theorem Sw{d tx:TE}(h:td σ H λx H1=>∃a,x=.ref a/\Wx H1 a/\d σ H1 λy H2=>tx σ H2 λz c=>∃kvs k b,c a=!(.dT kvs)/\y=.ref b/\c b=!(.tup (k.map kV))/\↑kvs<sizeLine/\(∀v,bx kvs k=!v->Q v c)/\(bx kvs k=none->Q z (upd c a (.dT (kvs++[(k,z)]))))):Hy td d tx σ H Q:=h
theorem SJ{kvs:ϊ (ϊ Int×V)}(e:H a=!(.dT (kvs.map λp=>(p.1.map Sum.inl,p.2))))(c:kvs≠[])(h:∀b k,H b=!(.tup (k.map V.int))->k∈kvs.map (·.1)->(∀d∈kvs.map (·.1),HT.lexLt d k=false)->Q (.ref b) H):HB [.ref a] H Q:=#[a,kvs,rfl,e,c,h]
theorem SGet.ofR(e:Rd H a (bF a kvs))(d:∀p∈kvs,uD H p.1 p.2.1)(c:uD H b k):SGet H a (.ref b) (dj kvs k):=#[kvs,k,b,e,d,rfl,c,rfl]
end
theorem Oc{K:Ϗ}(f:PyData->Int)(e:SqL K H a (us.map (·.1)))(d:us≠[])(c:∀u∈us,Dp K H u.1 u.2/\u.2.canLay0=true/\u.2.depth<=8)(b:∀u∈us,∀v∈us,Nk.CmpD u.2 v.2/\(Nk.u6 u.2 v.2=true->f u.2<=f v.2)/\(Nk.u6 u.2 v.2=false->f v.2<=f u.2))(h:∀u∈us,(∀v∈us,f u.2<=f v.2)->Q u.1 H):uc K [.ref a] H Q:=#[a,us,f,rfl,e,d,c,b,h]
theorem J0(e:SqT K H a (ss.map V.str))(b:ss≠[])(h:∀s∈ss,Q (.str s) H):pO K [.ref a] H Q:=#[a,ss,rfl,e,b,h]
theorem Od(h:td b H λx H1=>∃a kvs,x=.ref a/\Rd H1 a (bF a kvs)/\c b H1 λy H2=>∃o,SGet H2 a y o/\Q (o.getD .non) H2):yj td c b H Q:=h
abbrev aU:TE:=dH 0
abbrev bK:TE:=dH 1
abbrev c7:TE:=dH 2
abbrev cM:TE:=dH 3
abbrev di:TE:=dH 4
abbrev dB:TE:=dH 5
abbrev gH:TE:=dH 6
abbrev jY:TE:=dH 7
abbrev wM:TE:=dH 8
abbrev Es:TE:=dH 9
abbrev ww:TE:=dH 10
abbrev Oe:TE:=dH 11
abbrev XS:TE:=dH 12
abbrev XX:TE:=dH 13
abbrev Y0:TE:=dH 14
abbrev a06:TE:=dH 15
abbrev Y4:TE:=dH 16
abbrev Og:TE:=dH 17
abbrev SM:TE:=dH 18
abbrev tI(n:Int):TE:=tC (V.int n)
abbrev tX(K:Ϗ)(t:TE)(n:Int):TE:=aL (iH K) t (tC (V.int n))
abbrev bR(a:TE):TA:=bM a cY
abbrev cF(a b:TE):TA:=bM a (bM b cY)
abbrev jZ(a b c:TE):TA:=bM a (bM b (bM c cY))
abbrev pZ(a b c d:TE):TA:=bM a (bM b (bM c (bM d cY)))
abbrev gm(K:Ϗ)(t:TE):TE:=gw (Gq K) (bM t cY)
abbrev cg(sp:Sp)(t:TA):TE:=eY sp [] E0 t
end L2
end
set_option Elab.async false
set_option linter.all false
set_option maxRecDepth 100000
open L2
local macro_rules | `(tactic| walk_at "si") => `(tactic| first | assumption | (with_reducible exact Mm.big_pos) | (with_reducible exact Int.pow_pos (by decide)) | rfl' | (dsimp only; rfl') | exact ⟨by rfl', by rfl'⟩ | exact Or.inr ⟨by rfl', by rfl'⟩ | exact Or.inl ⟨by rfl', by rfl'⟩ | exact ⟨by rfl', by rfl', by rfl'⟩ | exact ⟨by rfl', by rfl', by decide⟩ | (dsimp only; decide) | exact Mm.Np _ | exact Mm.big_pos | exact Int.pow_pos (by decide))
local macro_rules | `(tactic| walk_at "gp") => `(tactic| repeat (first | walk_at "st" | (with_reducible (refine s_lenA (xs := ?xs) ?e ?_; case e => assumption))))
local macro_rules | `(tactic| symm) => `(tactic| repeat walk_at "st")
local macro_rules | `(tactic| walk_at "gq") => `(tactic| (intro R h; (with_unfolding_all walk_at "gp"); exact h))
local macro_rules | `(tactic| walk_at "sx") => `(tactic| with_reducible first|refine WW ?_|refine WX ?_|refine Rj ?_|refine WY ?_|refine ZQ ?_| (refine X3 (v := ?v) ?e ?_; case e => with_unfolding_all exact rfl)|refine s_c ?_|refine Nt ?_|refine s_call ?_|refine Rm ?_|refine X4 ?_|refine Xc ?_| (refine a00 ?_ ?_; (with_unfolding_all walk_at "si"))|refine Xd ?_|refine Xe ?_|refine Rn ?_|refine a05 ?_|refine Xy ?_|refine Iu ?_|refine RM ?_|refine XC ?_|refine Xz ?_|refine Ij ?_|refine RN ?_|refine RP ?_|refine Ik ?_|refine ZV ?_|refine X7 ?_|refine X5 ?_|refine X6 ?_|refine X8 ?_| (refine RB (b := ?b) (c := ?c) ?h1 ?h2 ?_; (case h1 => walk_at "gq"); (case h2 => walk_at "gq"))|refine ZW ?_| (refine Rz (b := ?b) (c := ?c) ?h1 ?h2 ?_; (case h1 => walk_at "gq"); (case h2 => walk_at "gq"))|refine Ro ?_|refine Rp ?_|refine ZX ?_|refine Xa ?_|refine G7 ?_|refine xm ?_|refine WQ ?_|refine WR ?_|refine WT ?_|refine Rh ?_|refine ZS ?_|refine ZR ?_|refine a01 ?_| (refine HW (b := ?b) (c := ?c) (x := ?x) (y := ?y) (z := ?z) ?h1 ?h2 ?h3 ?h4 ?h5 ?_; (case h1 => walk_at "gq"); (case h2 => walk_at "gq"); (case h3 => walk_at "gq"); (case h4 => walk_at "gq"); (case h5 => walk_at "gq"))|refine Rk ?_|refine Xw ?_|refine NT ?_|refine Nu ?_|refine Rq ?_|refine Rr ?_| (refine Xb (x := ?v) ?e ?_; case e => with_unfolding_all exact rfl)|refine ZZ ?_|refine Xm ?_|refine Xn ?_|refine Xo ?_|refine Xr ?_|refine Nz ?_|refine NP ?_|refine NB ?_|refine NK ?_|refine Od ?_|refine Sv ?_|refine Sw ?_|refine IV ?_|refine Ei ?_|refine Xf ?_|refine Xg ?_| (refine Xi ?_ ?_; (with_unfolding_all first | decide|(simp; rfl') | simp))|refine a02 ?_|refine HR ?_|refine Rt ?_|refine Ru ?_|refine a03 ?_|refine Xj ?_|refine Xk ?_|refine Xl ?_|refine a04 ?_|refine Nv ?_|refine Rv ?_|refine Ny ?_|refine Rw ?_|refine O9 ?_|refine O8 ?_|refine NZ ?_|refine Iv ?_|refine RK ?_|refine RJ ?_|refine RL ?_| (refine Xh ?_ ?_; (with_unfolding_all first | exact ZP | exact ext2 | exact ext3)))
local macro_rules | `(tactic| walk_at "st") => `(tactic| first | with_reducible refine PB ?_ | walk_at "sx")
local macro_rules | `(tactic| walk_at "sj") => `(tactic| first | walk_at "sx")
local macro_rules | `(tactic| walk_at "gj") => `(tactic| repeat walk_at "sj")
local macro_rules | `(tactic| walk_at "hp") => `(tactic| first
 | assumption
 | exact aa
 | (refine ip ?_;walk_at "hp")
 | (refine iq ?_;walk_at "hp")
 | (refine lK (by assumption) ?_;walk_at "hp")
 | (refine tup_new (by assumption) ?_;walk_at "hp")
 | (refine aA (by assumption) ?_;walk_at "hp")
 | (refine Same.seq (by assumption) ?_;walk_at "hp")
 | (refine Same.tup (by assumption) ?_;walk_at "hp")
 | (refine Same.get (by assumption) ?_;walk_at "hp"))
local macro_rules | `(tactic| walk_at "sm") => `(tactic| first | assumption | exact ix _ | (refine Same.new ?_ (by assumption); walk_at "sm") | (refine Same.trans ?_ (by assumption); walk_at "sm"))
local macro_rules | `(tactic| walk_at "ns") => `(tactic| try dsimp only [L2.start, List.map, List.length, Nat.reduceAdd, Nat.reduceSub, List.reduceReplicate, Ρ, ζ, List.set])
namespace Pg
variable{v:V}{ds:L2S}{ys:ϊ V}{k r:Ϻ}{z:ό×ϊ Nat}{b d p q:ό}{rs:ϊ (ό×L1S)}{w:ϴ}{H H1:Hp}{c c0 ht i j m n room x:Nat}{rows:ϊ (Ϲ)}
inductive An2(A0 A1:Prop):Prop|mk (a0:A0) (a1:A1):An2 A0 A1
inductive An3(A0 A1 A2:Prop):Prop|mk (a0:A0) (a1:A1) (a2:A2):An3 A0 A1 A2
inductive An4(A0 A1 A2 A3:Prop):Prop|mk (a0:A0) (a1:A1) (a2:A2) (a3:A3):An4 A0 A1 A2 A3
inductive An5(A0 A1 A2 A3 A4:Prop):Prop|mk (a0:A0) (a1:A1) (a2:A2) (a3:A3) (a4:A4):An5 A0 A1 A2 A3 A4
inductive An6(A0 A1 A2 A3 A4 A5:Prop):Prop|mk (a0:A0) (a1:A1) (a2:A2) (a3:A3) (a4:A4) (a5:A5):An6 A0 A1 A2 A3 A4 A5
inductive An7(A0 A1 A2 A3 A4 A5 A6:Prop):Prop|mk (a0:A0) (a1:A1) (a2:A2) (a3:A3) (a4:A4) (a5:A5) (a6:A6):An7 A0 A1 A2 A3 A4 A5 A6
inductive An8(A0 A1 A2 A3 A4 A5 A6 A7:Prop):Prop|mk (a0:A0) (a1:A1) (a2:A2) (a3:A3) (a4:A4) (a5:A5) (a6:A6) (a7:A7):An8 A0 A1 A2 A3 A4 A5 A6 A7
inductive An10(A0 A1 A2 A3 A4 A5 A6 A7 A8 A9:Prop):Prop|mk (a0:A0) (a1:A1) (a2:A2) (a3:A3) (a4:A4) (a5:A5) (a6:A6) (a7:A7) (a8:A8) (a9:A9):An10 A0 A1 A2 A3 A4 A5 A6 A7 A8 A9
inductive An11(A0 A1 A2 A3 A4 A5 A6 A7 A8 A9 A10:Prop):Prop|mk (a0:A0) (a1:A1) (a2:A2) (a3:A3) (a4:A4) (a5:A5) (a6:A6) (a7:A7) (a8:A8) (a9:A9) (a10:A10):An11 A0 A1 A2 A3 A4 A5 A6 A7 A8 A9 A10
inductive An15(A0 A1 A2 A3 A4 A5 A6 A7 A8 A9 A10 A11 A12 A13 A14:Prop):Prop|mk (a0:A0) (a1:A1) (a2:A2) (a3:A3) (a4:A4) (a5:A5) (a6:A6) (a7:A7) (a8:A8) (a9:A9) (a10:A10) (a11:A11) (a12:A12) (a13:A13) (a14:A14):An15 A0 A1 A2 A3 A4 A5 A6 A7 A8 A9 A10 A11 A12 A13 A14
inductive Ex1{α0:Type}(P:α0->Prop):Prop|mk (a0:α0) (h:P a0):Ex1 P
inductive Ex2{α0 α1:Type}(P:α0->α1->Prop):Prop|mk (a0:α0) (a1:α1) (h:P a0 a1):Ex2 P
inductive Ex3{α0 α1 α2:Type}(P:α0->α1->α2->Prop):Prop|mk (a0:α0) (a1:α1) (a2:α2) (h:P a0 a1 a2):Ex3 P
inductive Ex4{α0 α1 α2 α3:Type}(P:α0->α1->α2->α3->Prop):Prop|mk (a0:α0) (a1:α1) (a2:α2) (a3:α3) (h:P a0 a1 a2 a3):Ex4 P
inductive Ex5{α0 α1 α2 α3 α4:Type}(P:α0->α1->α2->α3->α4->Prop):Prop|mk (a0:α0) (a1:α1) (a2:α2) (a3:α3) (a4:α4) (h:P a0 a1 a2 a3 a4):Ex5 P
inductive Ex6{α0 α1 α2 α3 α4 α5:Type}(P:α0->α1->α2->α3->α4->α5->Prop):Prop|mk (a0:α0) (a1:α1) (a2:α2) (a3:α3) (a4:α4) (a5:α5) (h:P a0 a1 a2 a3 a4 a5):Ex6 P
inductive Ex7{α0 α1 α2 α3 α4 α5 α6:Type}(P:α0->α1->α2->α3->α4->α5->α6->Prop):Prop|mk (a0:α0) (a1:α1) (a2:α2) (a3:α3) (a4:α4) (a5:α5) (a6:α6) (h:P a0 a1 a2 a3 a4 a5 a6):Ex7 P
open PySem L2
noncomputable def SN:ό:=24
noncomputable def q9:ό:=37
noncomputable def qd:ό:=49
noncomputable def J1:ό:=61
noncomputable def J2:ό:=73
noncomputable def mG:ό:=85
noncomputable def lO:ό:=97
noncomputable def J3:ό:=109
noncomputable def qg:ό:=121
noncomputable def nW:ό:=133
noncomputable def qi:ό:=145
noncomputable def J4:ό:=157
noncomputable def J5:ό:=169
noncomputable def J6:ό:=181
variable{K:Ϗ}{H:Hp}{E:XK}
theorem dC(e:H a=!(.tup (v::xs)))(h:Q v H):iH K (.ref a) (.int 0) H Q:=dw (iq e) (aM (j:=0) (v:=v) rfl) h
theorem cX(e:H a=!(.tup (v0::v::xs)))(h:Q v H):iH K (.ref a) (.int 1) H Q:=dw (iq e) (aM (j:=1) (v:=v) rfl) h
theorem jn(e:H a=!(.tup (v0::v1::v::xs)))(h:Q v H):iH K (.ref a) (.int 2) H Q:=dw (iq e) (aM (j:=2) (v:=v) rfl) h
inductive fI(K:Ϗ)(vs:ϊ V)(H:Hp)(Q:VK)(E:XK):Prop|mk (x:V) (_:vs=[x]) (_:Thing H x) (_:Q (.bl (isI x)) H)
def yD K(E:XK)(Eh:XK):=(aR (gU (gw (eQ K) (cF aU (tC (V.ty "int")))) (Ai (gw (eQ K) (cF aU (tC (V.ty "bool")))))))
theorem SQ(h:fI K vs H Q E):∃a,yD K E a {nx:=λ_ H'=>Q .non H',rt:=Q} (start ["thing"] vs) H:=by
 let#[x,rfl,c,q]:=h;show#[E0,?_];unfold yD;symm;rcases c.ty (K:=K)with⟨b,rfl⟩|⟨i,rfl⟩|⟨s,rfl,_⟩|⟨n,ty,hn,e,_⟩;.show eF (.bl b) (b:=true) rfl ?_;symm;show eF (.bl b) (b:=true) rfl ?_;symm;show q
 .show eF (.int i) (b:=true) rfl ?_;symm;show eF (.int i) (b:=false) rfl ?_;symm;show q
 .show eF (.str s) (b:=false) rfl ?_;symm;show q
 .rw [e]at q;show eF ty (b:=false) (by rcases hn with rfl|rfl|rfl|rfl<;>rfl) ?_;symm;show q
noncomputable def sgn:V->ϑ
 |.str s=>decide (↑s=1)&&(not (decide (s.cps.toList<(Str.ofString " ").cps.toList))&&(not (decide ((Str.ofString "~").cps.toList<s.cps.toList))&&not (decide (((s.cps.getD 0 0:Nat):Int)=37))))|_=>false
theorem yE(h:Hs.Sg s):sgn (.str s)=true:=by
 let#[n,rfl]:=h;have:∀c∈Hs.wK.cps.toList,sgn (.str (tx [c]))=true:=by ac_nf
 have d:↑Hs.wK.cps.toList=94:=by ac_nf
 have a:0<=n%94:=Ħ _ (by decide);have b:n%94<94:=Ě _ (by decide);show this _ ?_;unfold Hs.jH;rw[Á,Zs ()];show ä _
inductive gL(K:Ϗ)(vs:ϊ V)(H:Hp)(Q:VK)(E:XK):Prop|mk (x:V) (_:vs=[x]) (_:Thing H x) (_:Q (.bl (sgn x)) H)
def yF K(E:XK)(Eh:XK):=(aB (bG (Eo (kj (jF K (gw (eQ K) (cF aU (tC (V.ty "str")))))) (aP (aL Cw (gm K aU) (tI 1)))) (aR (tC (V.bl false))) aW)
  (aR (gU (lW pq pq (tC (V.str (Str.ofString " "))) aU (tC (V.str (Str.ofString "~")))) (aL Cw (gw Pq (bR aU)) (tI 37)))))
theorem SX(h:gL K vs H Q E):∃f,yF K E f {nx:=λ_ H'=>Q .non H',rt:=Q} (start ["thing"] vs) H:=by
 let#[x,rfl,j,q]:=h;show#[E0,?_];unfold yF;symm;rcases j.ty (K:=K)with⟨b,rfl⟩|⟨i,rfl⟩|⟨s,rfl,hl⟩|⟨n,ty,hn,_,e⟩;.show eF (.bl b) (b:=false) rfl ?_;symm;show q
 .show eF (.int i) (b:=false) rfl ?_;symm;show q
 .show eF (.str s) (b:=true) rfl ?_;symm;show Ry () ?_;symm;show lJ (λc=>?_) λc=>?_
  .have e:sgn (.str s)=false:=by change(decide (↑s=1)&&_)=false;rw[Ó (),Ū]
   rw[e]at q;symm;show q
  .have a:↑s=1:=();have e:sgn (.str s)=(not (decide (s.cps.toList<(Str.ofString " ").cps.toList))&&(not (decide ((Str.ofString "~").cps.toList<s.cps.toList))&&not (decide (((s.cps.getD 0 0:Nat):Int)=37)))):=by change(decide (↑s=1)&&_)=_;rw[Õ a,Bool.true_and]
   rw[e,<-Bool.and_assoc]at q;symm;show Rg (λd=>?_) λd=>?_;.rw [d,Bool.true_and]at q;symm;show Xp a ?_;symm;show q
   .rw [d,Ū]at q;symm;show q
 .have g:sgn x=false:=by cases x with
   |str s=>show absurd rfl (e s)|_=>rfl
  rw[g]at q;show eF ty (b:=false) (by rcases hn with rfl|rfl|rfl|rfl<;>rfl) ?_;symm;show q
inductive g9(K:Ϗ)(vs:ϊ V)(H:Hp)(Q:VK)(E:XK):Prop|mk (n:Nat) (_:vs=[.int n]) (_:Q (.int (Bm.pop n)) H)
def yG(K:Ϗ)(E:XK)(Eh:XK):=(aB (aK (tI 0) (ao 1))
  (aB (fX (aP (aL sX aU (tI 0))) (aB (aK (aL WF aU (aL rA aU (tI 1))) (ao 0))
  (Lk 1 (tI 1) Bb)))
  (aR bK)))
theorem T9(h:g9 K vs H Q E):∃f,yG K E f {nx:=λ_ H'=>Q .non H',rt:=Q} (start ["column","dots"] vs) H:=by
 let#[n,rfl,q]:=h;show#[E0,?_];unfold yG;show PB ?_;symm;show uJ (λb H'=>(Ex2 λ(m d:Nat)=>(An3 (b=[!(.int (m:Int)),!(.int (d:Int))]) (H'=H) (d+Bm.pop m=Bm.pop n)))) (λb _=>match b with|some (.int m)::_=>m.toNat|_=>0) ⟨n,0,rfl,rfl,()⟩ ?_ ?_
 .rintro _ _ ⟨m,d,rfl,rfl,e⟩;symm;show dO (λc=>?_) (λc=>?_)
  .have a:0<m:=();have p:Builtin.bitAnd (m:Int) ((m:Int)-1)=((m&&&(m-1):Nat):Int):=by rw[show(m:Int)-1=((m-1:Nat):Int)by rfl',Bx.jU]
   symm;rw[p];have lt:=Bm.QK m a;have pl:=Bm.M7 m a;show#[#[m&&&(m-1),d+1,rfl,rfl,()],?_];change((m&&&(m-1):Nat):Int).toNat<(m:Int).toNat;rfl'
  .have a:m=0:=();subst a;rw[Bm.uY]at e;symm;rw[show d=Bm.pop n by rfl'];show q
 .rintro b H Q t r ⟨v,s,i,j,g,l,k,o,z⟩;show#[v,s,i,j,g,l,k,o,r _ _ z]
inductive hU(K:Ϗ)(vs:ϊ V)(H:Hp)(Q:VK)(E:XK):Prop|mk (a b:Nat) (_:vs=[.int a,.int b]) (_:Q (.int (Bm.pop (a^^^b):Nat)) H)
def yH K(E:XK)(Eh:XK):=(aR (cg (g9 K) (bR (aL WK aU bK))))
theorem Tc(h:hU K vs H Q E):∃c,yH K E c {nx:=λ_ H'=>Q .non H',rt:=Q} (start ["one","other"] vs) H:=by let#[a,b,rfl,q]:=h;show#[E0,?_];unfold yH;symm;rw[Bx.xx];show#[_,rfl,q]
inductive aT(K:Ϗ)(vs:ϊ V)(H:Hp)(Q:VK)(E:XK):Prop|mk (p q:ό) (xs ys:ϊ V) (_:vs=[.ref p,.ref q]) (_:SqT K H p xs) (_:(SqL K H q ys\/SqT K H q ys)) (_:↑xs=↑ys) (_:Q .non H)
def yI K(E:XK)(Eh:XK):=(bG (aP (aL Cw (gm K aU) (gm K bK))) lU aW)
theorem Td(h:aT K vs H Q E):∃c,yI K E c {nx:=λ_ H'=>Q .non H',rt:=Q} (start ["one","other"] vs) H:=by
 let#[e,f,xs,ys,rfl,d,a,b,q]:=h;show#[E0,?_];unfold yI;symm;show bQ d ?_;symm;rcases a with a|a;.show bJ a ?_;symm;show mD (by rw[b]) ?_;symm;show q
 .show bQ a ?_;symm;show mD (by rw[b]) ?_;symm;show q
inductive ib(K:Ϗ)(vs:ϊ V)(H:Hp)(Q:VK)(E:XK):Prop|mk (p q:ό) (xs ys:ϊ Nat) (_:vs=[.ref p,.ref q]) (_:SqT K H p (nv xs)) (_:(SqL K H q (nv ys)\/SqT K H q (nv ys))) (_:↑xs=↑ys) (_:↑xs<=1000) (_:∀H',Same H H'->Q (.int (Mm.ue xs ys:Nat)) H')
def yJ K(E:XK)(Eh:XK):=(aB (cA (cg (aT K) (cF aU bK)))
  (aR (gw (QR K) (bR (mU [none,none] (HH K (cF aU bK)) (jd K 2 (bL (ao 0) (bL (ao 1) jE))) gZ (cg (hU K) (cF aU bK)))))))
theorem Te(h:ib K vs H Q E):∃g,yJ K E g {nx:=λ_ H'=>Q .non H',rt:=Q} (start ["one","other"] vs) H:=by
 let#[o,k,xs,ys,rfl,c,a,d,l,q]:=h;show#[E0,?_];unfold yJ;symm;show#[_,_,_,_,rfl,c,a,by rw[Qb,Qb,d],?_];symm;let#[e,a]:∃e,Ep K H k (nv ys) e:=a.elim (λh=>#[true,h]) λh=>#[false,h];show XM (λi:Nat=>V.int (i:Int)) (λi:Nat=>V.int (i:Int)) c a d () (λx y=>V.int ((Bm.pop (x^^^y):Nat):Int)) ?_ ?_;.intro i x y p H' m n f b A j;show dR (iq b) rfl ?_;symm;show#[x,y,rfl,j _ (ix _)]
 .intro p H' f b;symm;show Xq (ns:=List.zipWith (λx y=>((Bm.pop (x^^^y):Nat):Int)) xs ys) (ip ?_) ?_;.rw [b,List.map_zipWith]
  .rw [Mm.w6];show q _ f
abbrev Wz:=ό×ϐ×ϊ Nat×Int
def WyT(H:Hp)(z:Wz):Prop:=∃ca,H z.1=!(.tup [.str z.2.1,.ref ca,.int z.2.2.2])/\H ca=!(.tup (nv z.2.2.1))
theorem WyT.same{z:Wz}(h:WyT H z)(s:Same H H'):WyT H' z:=by let#[a,b,c]:=h;show#[a,s.get b,s.get c]
def LdT(H:Hp)(p:ό)(ws:ϳ):Prop:=∃zs:ϊ Wz,zs.map (·.2)=ws/\H p=!(.lst (zs.map λz:Wz=>V.ref z.1))/\∀z∈zs,WyT H z
theorem LdT.same(h:LdT H p a)(s:Same H H'):LdT H' p a:=by let#[zs,b,c,d]:=h;show#[zs,b,s.get c,λz e=>(d z e).same s]
noncomputable def aO(ls:ϵ)(ps:L1S):ϳ:=ps.filterMap λp=>(Fo.lk ls p.1).map λco=>(p.1,co,p.2)
theorem rP(ls:ϵ)(ps:L1S)(p:ϐ×Int):aO ls (ps++[p])=aO ls ps++(match Fo.lk ls p.1 with|none=>[]|some co=>[(p.1,co,p.2)]):=by
 unfold aO;rw[Ο];congr 1;rw[Ĕ,List.filterMap_nil];cases Fo.lk ls p.1<;>rfl
inductive eS(K:Ϗ)(vs:ϊ V)(H:Hp)(Q:VK)(E:XK):Prop|mk (tb da:ό) (zs:ϊ Lz) (ps:L1S) (_:vs=[.ref tb,.ref da]) (_:H tb=!(.dK (zs.map λz:Lz=>((Sum.inr z.2.1:Key),V.ref z.2.2.1)))) (_:(∀z∈zs,H z.2.2.1=!(.tup (nv z.2.2.2)))) (_:DrG K H da ps) (_:↑ps<=1000) (_:∀p H',Same H H'->H p=none->LdT H' p (aO (zs.map λz:Lz=>(z.2.1,z.2.2.2)) ps)->Q (.ref p) H')
def yK K(E:XK)(Eh:XK):=(aR (mU [none,none,!0] (kE K bK) (jd K 2 (bL (ao 0) (bL (ao 1) jE))) (tB (Ga aU c7)) (bY (jZ aU (fK c7 aU) bK))))
theorem Tf(h:eS K vs H Q E):∃M,yK K E M {nx:=λ_ H'=>Q .non H',rt:=Q} (start ["letters","doors"] vs) H:=by
 let#[J,T,zs,ps,rfl,l,hz,#[C,j,G,O],R,q]:=h;show#[E0,?_];unfold yK;have P:↑C=↑ps:=by rw[<-j,Qb]
 symm;show O6 (λz:ό×ϐ×Int=>V.ref z.1) (zs:=C) G () (λi ys H'=>(Ex1 λ(d:ϊ Wz)=>(An5 (ys=d.map (λz:Wz=>V.ref z.1)) (d.map (·.2)=aO (zs.map λz:Lz=>(z.2.1,z.2.2.2)) (ps.take i)) (↑d<=i) (Same H H') (∀z∈d,WyT H' z)))) #[[],rfl,rfl,by simp,ix _,by simp] ?_ ?_ ?_ ?_;.rintro i ys H' ⟨d,rfl,_,_,s',_⟩;show s'.tup G
 .rintro i ys H' ⟨d,rfl,_,w,_⟩;rw[Qb];show w
 .rintro i ⟨b,s,a⟩ ys H' I ⟨d,rfl,o,w,s',v⟩;have A:ps[i]?=!(s,a):=by rw[<-j,À,I];rfl
  have n:ps.take (i+1)=ps.take i++[(s,a)]:=by rw[Ò,A];rfl
  have L:=s'.get (O _ (Yf I));dsimp only at L;show dR (iq L) rfl ?_;symm;show#[J,_,rfl,DGet.k (k:=Sum.inr s) (s'.get l),?_];cases hlk:Fo.lk (zs.map λz:Lz=>(z.2.1,z.2.2.2)) s with|none=>
   have S:bx (zs.map λz:Lz=>((Sum.inr z.2.1:Key),V.ref z.2.2.1)) (Sum.inr s)=none:=fc (f:=λz:Lz=>(Sum.inr z.2.1:Key)) (g:=λz:Lz=>V.ref z.2.2.1) λm=>by
    let#[z,u,e]:=Zp.mp m;let#[c,F]:=Fo.yz (ls:=zs.map λz:Lz=>(z.2.1,z.2.2.2)) (s:=s) (by rw[Æ];show Zp.mpr #[z,u,Ĝ e]);rw[hlk]at F;cases F
   rw[S];symm;change if false=true then _ else _;symm;show#[d,rfl,by rw[n,rP,o];change _=_++(match Fo.lk (zs.map λz:Lz=>(z.2.1,z.2.2.2)) s with|none=>[]|some co=>[(s,co,a)]);rw[hlk,ò],(),s',v]|some co=>
   let#[z,u,N,D]:=Ir hlk;rw[D];symm;change if true=true then _ else _;symm;show#[J,.ref z.2.2.1,rfl,by rw[<-D];show DGet.k (k:=Sum.inr s) (s'.get l),?_];symm;intro t B;show#[d++[(t,s,co,a)],by simp,?_,by simp;rfl',s'.new B,λy r=>?_];.rw [n,rP,Wp,o];change _=_++(match Fo.lk (zs.map λz:Lz=>(z.2.1,z.2.2.2)) s with|none=>[]|some co=>[(s,co,a)]);rw[hlk];rfl
   .rcases Ã.mp r with r|r;.show (v y r).same (aq B _)
    .rw [Zl.mp r];show#[z.2.2.1,aa,by rw[<-N];show aA B (s'.get (hz z u))]
 .rintro ys H' ⟨d,rfl,o,w,s',v⟩ p x;rw[ë ()]at o;show q p _ (s'.new x) (s'.free x) #[d,o,aa,λz u=>(v z u).same (aq x _)]
def WsT(H:Hp)(p:ό)(wss:ϲ):Prop:=∃rs:ϊ (ό×ϊ (ϴ)),rs.map (·.2)=wss/\H p=!(.lst (rs.map λr=>V.ref r.1))/\∀r∈rs,LdT H r.1 r.2
theorem WsT.same(h:WsT H p wss)(s:Same H H'):WsT H' p wss:=by let#[e,a,b,c]:=h;show#[e,a,s.get b,λr d=>(c r d).same s]
inductive fT(K:Ϗ)(vs:ϊ V)(H:Hp)(Q:VK)(E:XK):Prop|mk (f ha:ό) (h:Nat) (ls:ϵ) (ds:L2S) (es:ϊ Int) (_:vs=[.ref f,.ref ha]) (_:FnF K H f h ls) (_:Fo.Wf h ls) (_:HsG K H ha ds es) (_:↑ds<=1000) (_:(∀ps∈ds,↑ps<=1000)) (_:∀p H',Same H H'->H p=none->WsT H' p (ds.map (aO ls))->Q (.ref p) H')
def yL K(E:XK)(Eh:XK):=(aB (aK (gw (lA K) (bR (tX K aU 1))) (ao 2))
  (aR (mU [none,!2] (kE K (tX K bK 0)) (ao 0) gZ (cg (eS K) (cF bK aU)))))
theorem Tg(h:fT K vs H Q E):∃M,yL K E M {nx:=λ_ H'=>Q .non H',rt:=Q} (start ["font","house","letters"] vs) H:=by
 let#[f,ha,h,ls,ds,es,rfl,S,L,#[d,e,I,N,B,C,O,a5],T,v,q]:=h;show#[E0,?_];unfold yL;let#[l,ob,zs,P,s,u,R,D]:=id S;have hl:↑zs=↑ls:=by rw[<-s,Qb]
 have U:↑I=↑ds:=by rw[<-B,Qb]
 have t:(zs.map (·.2.1)).Nodup:=by have:=iy L.up;rw[<-s,Æ]at this;show this
 symm;show cX P ?_;symm;show wu (zs:=zs.map λz:Lz=>(z.1,z.2.1,V.ref z.2.2.1)) u (by rw[Æ];show R) (λz m=>?_) (by rw[Æ];show t) (by rw[Qb];have:=L.le;rfl') λn w=>?_;.obtain ⟨y,W,rfl⟩:=Zp.mp m;show iq (D y W).1
 rw[Æ];have b:Same H (upd H n (HO.dK (zs.map ((λz:ό×ϐ×V=>((Sum.inr z.2.1:Key),z.2.2))∘λz:Lz=>(z.1,z.2.1,V.ref z.2.2.1))))):=aq w _;have j:upd H n (HO.dK (zs.map ((λz:ό×ϐ×V=>((Sum.inr z.2.1:Key),z.2.2))∘λz:Lz=>(z.1,z.2.1,V.ref z.2.2.1)))) n=!(.dK (zs.map λz:Lz=>((Sum.inr z.2.1:Key),V.ref z.2.2.1))):=aa;generalize upd H n (HO.dK (zs.map ((λz:ό×ϐ×V=>((Sum.inr z.2.1:Key),z.2.2))∘λz:Lz=>(z.1,z.2.1,V.ref z.2.2.1))))=H1 at b j;symm;show dC (b.get N) ?_;show O6 (λr:ό×L1S=>V.ref r.1) (zs:=I) (b.tup C) () (λi ys H'=>(Ex1 λ(a:ϊ (ό×ϊ (ϴ)))=>(An4 (ys=a.map (λr=>V.ref r.1)) (a.map (·.2)=(ds.take i).map (aO ls)) (Same H1 H') (∀r∈a,LdT H' r.1 r.2)))) #[[],rfl,rfl,ix _,by simp] ?_ ?_ ?_ ?_;.rintro i ys H' ⟨a,rfl,_,s',_⟩;show s'.tup (b.tup C)
 .rintro i ys H' ⟨a,rfl,g,_⟩;have:=Ô List.length g;rw[Qb,Qb,Ú]at this;rw[Qb];rfl'
 .rintro i ⟨Y,ps⟩ ys H' G ⟨a,rfl,g,s',x⟩;have k:ds[i]?=!ps:=by rw[<-B,À,G];rfl
  have A:=b.trans s';symm;show#[n,Y,zs,ps,rfl,s'.get j,λz X=>A.get (D z X).2,(O _ (Yf G)).same A,v ps (Yf k),λp Z J o F=>?_];symm;rw[s]at F;show#[a++[(p,aO ls ps)],by simp,by rw[Wp,g,Ò,k,Wp];rfl,s'.trans J,λr c=>?_];rcases Ã.mp c with c|c;.show (x r c).same J
  .rw [Zl.mp c];show F
 .rintro ys H' ⟨a,rfl,g,s',x⟩ p o;rw[ë ()]at g;show q p _ ((b.trans s').new o) ((b.trans s').free o) #[a,g,aa,λr c=>(x r c).same (aq o _)]
noncomputable def cst(ys co:ϊ Nat):Nat:=Mm.ue (co.take (min ↑co ↑ys)) (ys.take (min ↑co ↑ys))
noncomputable def Bw(ys:ϊ Nat)(ls:ϵ):ϊ (ϐ×Nat):=ls.map λp=>(p.1,cst ys p.2)
noncomputable def By(cs:ϊ (ϐ×Nat)):ϊ (Key×V):=cs.map λp=>(Sum.inr p.1,V.int (p.2:Nat))
theorem yM{ys:ϊ Nat}:∀{ls:ϵ},Fo.lk ls s=!a->bx (By (Bw ys ls)) (Sum.inr s)=!(V.int (cst ys a:Nat))
 |[],h=>by cases h|p::r,h=>by
  rw[Fo.jC]at h;change bx ((Sum.inr p.1,V.int (cst ys p.2:Nat))::By (Bw ys r)) (Sum.inr s)=_;by_cases e:p.1=s
  .rw [if_pos e]at h;cases h;rw[cj (by change Sum.inr _=Sum.inr _;rw[e])]
  .rw [if_neg e]at h;rw[bN (by intro z;show e (Ĝ z))];show yM h
inductive dV(K:Ϗ)(vs:ϊ V)(H:Hp)(Q:VK)(E:XK):Prop|mk (f o:ό) (h:Nat) (ls:ϵ) (ys:ϊ Nat) (_:vs=[.ref f,.ref o]) (_:FnT K H f h ls) (_:Fo.Wf h ls) (_:SqT K H o (nv ys)) (_:↑ys<=1000) (_:∀r H',Same H H'->H r=none->H' r=!(.dK (By (Bw ys ls)))->Q (.ref r) H')
def yN K(E:XK)(Eh:XK):=(aB (aK jh (ao 2))
  (aB (cV (kE K (tX K aU 1)) (jd K 2 (bL (ao 3) (bL (ao 4) jE))) (aB (aK (gw Gs (cF (gm K di) (gm K bK))) (ao 5))
  (j6 c7 cM (cg (ib K) (cF (KZ (vL K) di gB (j5 dB)) (KZ (vL K) bK gB (j5 dB)))))))
  (aR c7)))
theorem Th(h:dV K vs H Q E):∃Eh,yN K E Eh {nx:=λ_ H'=>Q .non H',rt:=Q} (start ["font","over","costs","sign","columns","wide"] vs) H:=by
 let#[f,o,h,ls,ys,rfl,hF,L,P,ae,q]:=h;show#[E0,?_];unfold yN;have B:(ls.map (·.1)).Nodup:=L.up.imp λA e=>by subst e;show ŭ _ A
 let#[l,zs,t1,j,Y,t4]:=id hF;have D:↑zs=↑ls:=by rw[<-j,Qb]
 have ad:=L.le;symm;intro r t;symm;show cX (aA t t1) ?_;have b:∀U∈[r],H U=none:=λU C=>by rw[Zl.mp C];show t
 walk_at "ns";show pQ (λz:Lz=>V.ref z.1) ((aq t _).tup Y) (λi v H'=>(An3 (Sb [r] H H') (H' r=!(.dK (By (Bw ys (ls.take i))))) (Ex3 λF G I=>v=[!(.ref f),!(.ref o),!(.ref r),F,G,I]))) #[Sb.of (aq t _),aa,_,_,_,rfl] ?_ ?_ ?_;.rintro i v H' ⟨sb,_⟩;show(sb.off b).tup Y
 .rintro i ⟨za,s,ca,a⟩ v H' R ⟨sb,u,F,G,I,rfl⟩;have S:=sb.off b;have mz:=Yf R;let#[Z,J]:=t4 _ mz;dsimp only at Z J;have c:ls[i]?=!(s,a):=by rw[<-j,À,R];rfl
  have c1:=L.c1 _ (Yf c);dsimp only at c1;have ac:i<↑ls:=(Ä.mp c).1;have d:ls.take (i+1)=ls.take i++[(s,a)]:=by rw[Ò,c];rfl
  have n:s∉(ls.take i).map (·.1):=by have O:((ls.take (i+1)).map (·.1)).Nodup:=Ć ((Ģ _ _).map _) B;rw[d,Wp,Ü]at O;showλm=>O.2.2 s m s (by simp) rfl
  show dR (iq (S.get Z)) rfl ?_;symm;show bQ (iq (S.get J)) ?_;rw[Qb];symm;show bQ (S.tup P) ?_;rw[Qb];symm;rw[show(if(↑ys:Int)<(↑a:Int)then(↑ys:Int)else(↑a:Int))=((min ↑a ↑ys:Nat):Int)by split<;>rfl'];walk_at "ns";show PK (iq (S.get J)) λp1 H1 W N=>?_;rw[yr (),à,nv,<-Χ]at N;symm;show PK ((S.trans W).tup P) λp2 H2 X w=>?_;rw[yr (),à,nv,<-Χ]at w;symm;show#[p1,p2,a.take (min ↑a ↑ys),ys.take (min ↑a ↑ys),rfl,X.tup N,by first|show w|show .inr w,by rw[Ú,Ú];rfl',by rw[Ú];rfl',λH3 s3=>?_];have M:=(W.trans X).trans s3;have x:=M.get u;have hv:bx (By (Bw ys (ls.take i))) (Sum.inr s)=none:=fc (f:=λp:ϐ×Nat=>(Sum.inr p.1:Key)) (g:=λp:ϐ×Nat=>V.int (p.2:Nat)) λm=>by let#[p,T,e]:=Zp.mp m;let#[y,my,rfl]:=Zp.mp T;show n (Zp.mpr #[y,my,Ĝ e])
  symm;show#[r,_,rfl,DPut.k (k:=Sum.inr s) x (Ñ (by unfold By Bw;rw[Qb,Qb,Ú];rfl':_<=40) (by decide)),?_];rw[f9 _ hv];symm;show#[(sb.same M).set (by simp),?_,_,_,_,rfl];rw[aa,d];unfold Bw By;rw[Wp,Wp];rfl
 .rintro v H' ⟨sb,u,F,G,I,rfl⟩;rw[D,ç]at u;symm;show q r H' (sb.off b) t u
section
variable{α:Type}[DecidableEq α]
noncomputable def jJ(L qs:ϊ α):ϊ α:=qs.foldl (λL q=>if q∈L then L else L++[q]) L
theorem wy(L:ϊ α):jJ L []=L:=rfl
theorem Ej(L a:ϊ α)(q:α):jJ L (a++[q])=if q∈jJ L a then jJ L a else jJ L a++[q]:=by unfold jJ;rw[List.foldl_append];rfl
theorem jo:∀{qs L:ϊ α}{x:α},x∈jJ L qs↔x∈L\/x∈qs
 |[],L,x=>by rw[wy];simp|q::qs,L,x=>by
  change x∈jJ (if q∈L then L else L++[q]) qs↔_;rw[jo];split
  .rename_i h;constructor
   .rintro (m|m);.show .inl m
    .show .inr (Ì _ m)
   .rintro (m|m);.show .inl m
    .rcases Å.mp m with rfl|m;.show .inl h
     .show .inr m
  .rw [Ã,Zl,Å,or_assoc]
theorem nY:∀{qs L:ϊ α},L.Nodup->(jJ L qs).Nodup
 |[],L,h=>h|q::qs,L,h=>by
  change(jJ (if q∈L then L else L++[q]) qs).Nodup;split;.show nY h
  .rename_i c;show nY (Ü.mpr #[h,by simp,λa m b d e=>c ?_]);rw[Zl.mp d]at e;rw[<-e];show m
noncomputable def fU(nx:α->ϊ α)(st:α):Nat->ϊ α
 |0=>[st]
 |k+1=>match(fU nx st k)[k]?with
  |none=>fU nx st k|some p=>jJ (fU nx st k) (nx p)
theorem mH{nx:α->ϊ α}{st:α}{k:Nat}{p:α}(h:(fU nx st k)[k]?=!p):fU nx st (k+1)=jJ (fU nx st k) (nx p):=by rw[fU,h]
theorem J7{nx:α->ϊ α}{st:α}{k:Nat}(h:↑(fU nx st k)<=k):fU nx st (k+1)=fU nx st k:=by rw[fU,Ċ h]
theorem gJ(nx:α->ϊ α)(st:α):∀k,(fU nx st k).Nodup
 |0=>by rw[fU];simp|k+1=>by cases h:(fU nx st k)[k]?with
  |none=>rw[fU,h];show gJ nx st k|some p=>rw[mH h];show nY (gJ nx st k)
theorem mJ{nx:α->ϊ α}{st:α}{k:Nat}(h:↑(fU nx st k)<=k):∀j,fU nx st (k+j)=fU nx st k
 |0=>rfl
 |j+1=>by have e:=mJ h j;rw[<-Ψ,J7 (by rw[e];rfl'),e]
theorem fj{nx:α->ϊ α}{st:α}{P:α->Prop}(a:P st)(b:∀p q,P p->q∈nx p->P q):∀k,∀p∈fU nx st k,P p
 |0,p,m=>by rw[fU,Zl]at m;rw[m];show a|k+1,p,m=>by cases h:(fU nx st k)[k]?with
  |none=>rw[fU,h]at m;show fj a b k p m|some p'=>
   rw[mH h]at m;rcases jo.mp m with m|m;.show fj a b k p m
   .show b p' p (fj a b k p' (Yf h)) m
end
theorem jq(a b:ϐ):↑(a++b)=↑a+↑b:=by change↑(Str.append a b)=_;simp[Str.append,Str.length]
theorem fG{c:Type}[DecidableEq c]:∀{l m:ϊ c},l.Nodup->(∀x∈l,x∈m)->↑l<=↑m
 |[],m,_,_=>á _|x::l,m,hn,hs=>by
  have a:=hs x Ë;let#[d,f]:=æ.mp hn;have:=fG (l:=l) (m:=m.erase x) f λy b=>(List.mem_erase_of_ne (λ(e:y=x)=>d (by rw[<-e];show b))).mpr (hs y (Ì _ b));rw[List.length_erase_of_mem a]at this;have:=ļ a;rw[ô];rfl'
noncomputable def cJ(wss:ϲ)(k:Nat):ϊ Int:=fU (λr=>(wss.getD r.toNat []).map (·.2.2)) 0 k
theorem ug:∀{ps:ϊ (Int×ϐ)}{r:Int},r∈ps.map (·.1)->∃t,(r,t)∈ps/\bx (ps.map λp=>((Sum.inl p.1:Key),V.str p.2)) (Sum.inl r)=!(V.str t)
 |p::ps,r,m=>by
  rw[È];by_cases e:p.1=r;.show #[p.2,by rw[<-e];show Ë,by rw[cj (by rw[e])]]
  .obtain ⟨t,a,b⟩:=ug (ps:=ps) (r:=r) (by rcases Å.mp m with z|z;show absurd z.symm e;show z);show#[t,Ì _ a,by rw[bN (by intro z;show e (Sum.inl.inj z))];show b]
theorem Oh{ps:ϊ (Int×ϐ)}{r:Int}(h:r∉ps.map (·.1)):bx (ps.map λp=>((Sum.inl p.1:Key),V.str p.2)) (Sum.inl r)=none:=fc (f:=λp:Int×ϐ=>(Sum.inl p.1:Key)) (g:=λp=>V.str p.2) λm=>by let#[p,a,e]:=Zp.mp m;show h (Zp.mpr #[p,a,Sum.inl.inj e])
inductive eI(K:Ϗ)(vs:ϊ V)(H:Hp)(Q:VK)(E:XK):Prop|mk (wa:ό) (wss:ϲ) (_:vs=[.ref wa]) (_:WsT H wa wss) (_:0<↑wss) (_:↑wss<=100) (_:(∀ws∈wss,↑ws<=1000/\∀w∈ws,↑w.1<=1/\0<=w.2.2/\w.2.2<↑wss)) (_:∀r H' (N:Nat) (ps:ϊ (Int×ϐ)),Same H H'->H r=none->ps.map (·.1)=cJ wss N->H' r=!(.dK (ps.map λp=>((Sum.inl p.1:Key),V.str p.2)))->↑(cJ wss N)<=N->(∀p∈ps,↑p.2<=↑ps)->Q (.ref r) H')
abbrev Oi K:=(aB (aK (oU K "list" xg c7 (bR (tI 0))) (ao 3))
  (cV (cB K (aL (cZ K) aU cM)) (jd K 3 (bL (ao 4) (bL (ao 5) (bL (ao 6) jE)))) (bG (tB (gC gH bK)) (aB (j6 bK gH (aL fV (fK bK cM) di))
  (cA (oU K "list" bU c7 (bR gH)))) aW)))
def J8 K(E:XK)(Eh:XK):=(aB (aK (Gd [((tC (V.int 0)),(tC (V.str (Str.ofString ""))))]) (ao 1))
  (aB (aK (cW (bR (tI 0))) (ao 2))
  (aB (fX (aP (aL sX (gm K c7) (tI 0))) (Oi K))
  (aR bK))))
theorem Y5(h:eI K vs H Q E):∃Eh,J8 K E Eh {nx:=λ_ H'=>Q .non H',rt:=Q} (start ["ways","texts","waiting","here","sign","columns","room"] vs) H:=by
 let#[wa,wss,rfl,hW,bg,bi,ap,q]:=h;show#[E0,?_];unfold J8;have ah:∀k,∀r∈cJ wss k,0<=r/\r<↑wss:=λk=>fj (P:=λr:Int=>0<=r/\r<↑wss) #[by decide,()] (λp q' hp hq=>by
  let#[w,mw,rfl]:=Zp.mp hq;have:wss.getD p.toNat []∈wss:=by rw[Á,Zs ()];show ä _
  show((ap _ this).2 w mw).2) k;have U:∀k,↑(cJ wss k)<=↑wss:=λk=>by
  have:=fG (l:=cJ wss k) (m:=(List.range ↑wss).map λi:Nat=>(i:Int)) (gJ _ _ k) λr mr=>by let#[h0,h1]:=ah k r mr;show Zp.mpr #[r.toNat,ü.mpr (),()]
  rw[Qb,õ]at this;show this
 let#[rs,ad,aw,ax]:=id hW;have be:↑rs=↑wss:=by rw[<-ad,Qb]
 symm;intro c J;symm;show#[aa,[(Sum.inl 0,V.str (Str.ofString ""))],rfl,by simp,?_];have X:Sb [c] H (upd (upd H c (HO.dK [])) c (HO.dK (iJ [] [(Sum.inl 0,V.str (Str.ofString ""))]))):=(Sb.of (aq J _)).set (by simp);have B:upd (upd H c (HO.dK [])) c (HO.dK (iJ [] [(Sum.inl 0,V.str (Str.ofString ""))])) c=!(.dK ([((0:Int),(Str.ofString ""))].map λp=>((Sum.inl p.1:Key),V.str p.2))):=by rw[aa];rfl
 generalize upd (upd H c (HO.dK [])) c (HO.dK (iJ [] [(Sum.inl 0,V.str (Str.ofString ""))]))=H0 at X B;symm;intro g D;have n1:c≠g:=λe=>by rw[<-e,B]at D;cases D
 have am:H g=none:=(X.off λp hp=>by rw[Zl.mp hp];show J).free D;have I:∀p∈[c,g],H p=none:=λp hp=>by
  simp only[Å,â,Ď]at hp;rcases hp with rfl|rfl;.show J
  .show am
 symm;walk_at "ns";show nU (λR H'=>(An2 (Sb [c,g] H H') (Ex6 λ(k:Nat) (ps:ϊ (Int×ϐ)) (o1 Z o3 o4:ύ V)=>(An6 (k<=↑(cJ wss k)) (ps.map (·.1)=cJ wss k) (∀p∈ps,↑p.2<=↑ps) (H' c=!(.dK (ps.map λp=>((Sum.inl p.1:Key),V.str p.2)))) (H' g=!(.lst (((cJ wss k).drop k).map V.int))) (R=[!(.ref wa),!(.ref c),!(.ref g),o1,Z,o3,o4]))))) (λ_ H'=>match H' g with|some (.lst l)=>(match H' c with|some (.dK m)=>1000-(↑m-↑l)|_=>0)|_=>0) ⟨(Sb.more X (by simp)).new D,0,[(0,Str.ofString "")],_,_,_,_,á _,rfl,λp L=>by rw[Zl.mp L];decide,aA D B,aa,rfl⟩ ?_ ?_
 .rintro R H' ⟨sb,k,ps,o1,Z,o3,o4,hk,G,ag,T,C,rfl⟩;have S':=sb.off I;have a9:↑ps=↑(cJ wss k):=by rw[<-G,Qb]
  have bd:=U k;symm;show bJ (ip C) ?_;rw[Qb,Ĉ];symm;show dO (λc1=>?_) λc1=>?_
  .have ae:k<↑(cJ wss k):=();let#[r,hr]:∃r,(cJ wss k)[k]?=!r:=#[_,Zs ae];have ay:(cJ wss k).drop k=r::(cJ wss k).drop (k+1):=by rw[Ĩ ae,(Ä.mp hr).2]
   have mr:=Yf hr;let#[r0,r1]:=ah k r mr;let#[j,rfl]:∃j:Nat,r=(j:Int):=#[r.toNat,()];let#[y,W]:∃y,rs[j]?=!y:=#[_,Zs ()];have al:wss[j]?=!y.2:=by rw[<-ad,À,W];rfl
   have a1:wss.getD j []=y.2:=by rw[Á,al];rfl
   have af:cJ wss (k+1)=jJ (cJ wss k) (y.2.map (·.2.2)):=by have:=mH hr;change fU _ _ (k+1)=_;rw[this];change jJ _ ((wss.getD ((j:Int)).toNat []).map _)=_;rw[à,a1];rfl
   let#[ar,a6]:=ap y.2 (Yf al);let#[zs,ez,ac,hz]:=ax y (Yf W);have bk:↑zs=↑y.2:=by rw[<-ez,Qb]
   symm;show du (ip C) ?_;symm;rw[ay,È]at C;show RZ C ?_;symm;have n2:g≠c:=n1.symm;have M:upd H' g (HO.lst (((cJ wss k).drop (k+1)).map V.int)) c=!(.dK (ps.map λp=>((Sum.inl p.1:Key),V.str p.2))):=by rw[ak n1];show T
   have Y:=sb.set (p:=g) (o:=HO.lst (((cJ wss k).drop (k+1)).map V.int)) (by simp);have S1:=Y.off I;have N:upd H' g (HO.lst (((cJ wss k).drop (k+1)).map V.int)) g=!(.lst (((cJ wss k).drop (k+1)).map V.int)):=aa;generalize upd H' g (HO.lst (((cJ wss k).drop (k+1)).map V.int))=H1 at Y S1 M N;show cH (ip (S1.get aw)) (aM (j:=j) (v:=.ref y.1) (by rw[À,W];rfl)) ?_;walk_at "ns";show j7 (λz:Wz=>V.ref z.1) (zs:=zs) (ip (S1.get ac)) (λi R F=>(An2 (Sb [c,g] H F) (Ex5 λ(a:ϊ (Int×ϐ)) (E:ϊ Int) (Z o3 o4:ύ V)=>(An6 (a.map (·.1)=jJ (cJ wss k) ((y.2.map (·.2.2)).take i)) (a.map (·.1)=cJ wss k++E) (∀p∈a,↑p.2<=↑a) (F c=!(.dK (a.map λp=>((Sum.inl p.1:Key),V.str p.2)))) (F g=!(.lst (((cJ wss k).drop (k+1)++E).map V.int))) (R=[!(.ref wa),!(.ref c),!(.ref g),!(.int (j:Nat)),Z,o3,o4]))))) #[Y,ps,[],_,_,_,by rw[List.take_zero,wy];show G,by rw[ò];show G,ag,M,by rw[ò];show N,rfl] ?_ ?_ ?_;.rintro i R F ⟨u,_⟩;show ip ((u.off I).get ac)
   .rintro i ⟨za,s,co,b⟩ R F hi ⟨u,a,E,Z,o3,o4,A,S,t,d,f,rfl⟩;have S2:=u.off I;let#[ca,v1,v2]:=hz _ (Yf hi);dsimp only at v1 v2;have ai:y.2[i]?=!(s,co,b):=by rw[<-ez,À,hi];rfl
    have a4:=(a6 _ (Yf ai)).1;dsimp only at a4;have as:(y.2.map (·.2.2)).take (i+1)=(y.2.map (·.2.2)).take i++[b]:=by rw[Ò,À,ai];rfl
    have a8:↑a<=100:=by
     have h1:=fG (l:=a.map (·.1)) (m:=cJ wss (k+1)) (by rw[A];show nY (gJ _ _ k)) λx mx=>by
      rw[A]at mx;rw[af];rcases jo.mp mx with m|m;.show jo.mpr (.inl m)
      .show jo.mpr (.inr (List.mem_of_mem_take m))
     have h2:=U (k+1);rw[Qb]at h1;rfl'
    rw[as,Ej];show dR (iq (S2.get v1)) rfl ?_;symm;show#[c,_,rfl,DGet.k (k:=Sum.inl b) d,?_];by_cases m:b∈jJ (cJ wss k) ((y.2.map (·.2.2)).take i);.obtain ⟨tt,_,ev⟩:=ug (ps:=a) (r:=b) (by rw[A];show m);rw[ev,if_pos m];symm;change if(not true)=true then _ else _;symm;show#[u,a,E,_,_,_,A,S,t,d,f,rfl]
    .have ev:=Oh (ps:=a) (r:=b) (by rw[A];show m);rw[ev,if_neg m];let#[tj,a7,av]:=ug (ps:=a) (r:=(j:Int)) (by rw[S];show ß _ mr);have a5:=t _ a7;dsimp only at a5;symm;change if(not false)=true then _ else _;symm;show#[c,V.str tj,rfl,by rw[<-av];show DGet.k (k:=Sum.inl (j:Int)) d,?_];symm;show pU () ?_;symm;show#[c,_,rfl,DPut.k (k:=Sum.inl b) d (Ñ (by rw[Qb];rfl':_<=2000) (by decide)),?_];rw[f9 _ ev];symm;have O:∀w,upd F c w g=!(.lst (((cJ wss k).drop (k+1)++E).map V.int)):=λw=>by rw[ak n2];show f
     show du (ip (O _)) ?_;symm;show fL (O _) (by rw[Qb,Â,Ĉ];have:=Ô List.length S;rw[Qb,Â]at this;rfl') ?_;symm;show#[(u.set (by simp)).set (by simp),a++[(b,tj++s)],E++[b],_,_,_,by rw[Wp,A];rfl,by rw[Wp,S,ĕ];rfl,λp L=>?_,by rw[ak n1,aa,Wp];rfl,by rw[aa,<-ĕ,Wp (l₂:=[b])];rfl,rfl];rw[Â,Þ];rcases Ã.mp L with L|L;.have:=t p L;rfl'
     .rw [Zl.mp L];change↑(tj++s)<=_;rw[show↑(tj++s)=↑tj+↑s from jq _ _];rfl'
   .rintro R F ⟨u,a,E,Z,o3,o4,A,S,t,d,f,rfl⟩;rw[ë (by rw[Qb];rfl'),<-af]at A;have eD:(cJ wss k).drop (k+1)++E=(cJ wss (k+1)).drop (k+1):=by rw[<-A,S,List.drop_append_of_le_length ()]
    rw[eD]at f;have a3:↑a=↑(cJ wss (k+1)):=by rw[<-A,Qb]
    have a2:k+1<=↑(cJ wss (k+1)):=by rw[<-a3];have:=Ô List.length S;rw[Qb,Â]at this;rfl'
    have bb:=U (k+1);show#[#[u,k+1,a,_,_,_,_,a2,A,t,d,f,rfl],?_];change(match F g with|some (.lst l)=>(match F c with|some (.dK m)=>1000-(↑m-↑l)|_=>0)|_=>0)<(match H' g with|some (.lst l)=>(match H' c with|some (.dK m)=>1000-(↑m-↑l)|_=>0)|_=>0);rw[f,d,C,T];dsimp only;simp only[Qb,ô,Ĉ];rw[show↑a-(↑(cJ wss (k+1))-(k+1))=k+1 by rfl',show↑ps-(↑(cJ wss k)-(k+1)+1)=k by rfl'];show Nat.sub_lt_sub_left () (Ĭ k)
  .symm;show q c H' k ps S' J G T () ag
 .rintro R H Q Q' hq ⟨v,hv,x,n,e,hl,i,j,e1,e2,k,e3,z⟩;show#[v,hv,x,n,e,hl,i,j,e1,e2,k,e3,hq _ _ z]
noncomputable def J9(w:ϴ)(ah:Int)(ys:ϊ Nat):Int×Int×ϊ Nat:=if ↑w.2.1<=↑ys then(w.2.2,ah,ys.drop ↑w.2.1)else(ah,w.2.2,w.2.1.drop ↑ys)
def StT(K:Ϗ)(H:Hp)(a:ό)(st:Int×Int×ϊ Nat):Prop:=∃c,H a=!(.tup [.int st.1,.int st.2.1,.ref c])/\H c=!(.tup (nv st.2.2))
theorem StT.same{K:Ϗ}(h:StT K H a st)(s:Same H H'):StT K H' a st:=by let#[c,b,d]:=h;show#[c,s.get b,s.get d]
inductive ij(K:Ϗ)(vs:ϊ V)(H:Hp)(Q:VK)(E:XK):Prop|mk (wa o:ό) (w:ϴ) (ah:Int) (ys:ϊ Nat) (_:vs=[.ref wa,.int ah,.ref o]) (_:WyT H (wa,w)) (_:H o=!(.tup (nv ys))) (_:∀r H',Same H H'->H r=none->StT K H' r (J9 w ah ys)->Q (.ref r) H')
def Ja K(E:XK)(Eh:XK):=(aB (aK (gm K (tX K aU 1)) (ao 3))
  (aB (bG (aP (aL Mi cM (gm K c7))) (aR (bY (jZ (tX K aU 2) bK (KZ (vL K) c7 (j5 cM) gB)))) aW)
  (aR (bY (jZ bK (tX K aU 2) (KZ (vL K) (tX K aU 1) (j5 (gm K c7)) gB))))))
theorem Y6(h:ij K vs H Q E):∃l,Ja K E l {nx:=λ_ H'=>Q .non H',rt:=Q} (start ["way","ahead","over","wide"] vs) H:=by
 let#[t,o,#[s,j,k],n,ys,rfl,#[p,e,i],f,q]:=h;show#[E0,?_];unfold Ja;dsimp only at e i;symm;show cX e ?_;symm;show bQ (iq i) ?_;rw[Qb];symm;show bQ (iq f) ?_;rw[Qb];symm;show dO (λc=>?_) λc=>?_
 .symm;show jn e ?_;symm;show Iz f λg m d b=>?_;rw[wj (),à,nv,<-List.map_drop]at b;symm;intro r a;show q r _ (d.new a) (d.free a) ?_;unfold J9;rw[if_pos (show↑j<=↑ys by rfl')];show#[g,aa,aA a b]
 .symm;show jn e ?_;symm;show cX e ?_;symm;show bQ (iq f) ?_;rw[Qb];symm;show Iz i λg m d b=>?_;rw[wj (),à,nv,<-List.map_drop]at b;symm;intro r a;show q r _ (d.new a) (d.free a) ?_;unfold J9;rw[if_neg (show¬↑j<=↑ys by rfl')];show#[g,aa,aA a b]
noncomputable def Y7(wss:ϲ)(r:Int):ϊ ((ϴ)×(ϴ)×Int):=(List.range ↑(wss.getD r.toNat [])).flatMap λj=>(List.range j).map λk=>((wss.getD r.toNat []).getD k default,(wss.getD r.toNat []).getD j default,r)
noncomputable def qu(wss:ϲ)(rs:ϊ Int):ϊ ((ϴ)×(ϴ)×Int):=rs.flatMap (Y7 wss)
abbrev Fz:=ό×ό×ό×ό×((ϴ)×(ϴ)×Int)
def FkA(K:Ϗ)(H:Hp)(z:Fz):Prop:=H z.1=!(.tup [.int (cst z.2.2.2.2.2.1.2.1 z.2.2.2.2.1.2.1:Nat),.ref z.2.1,.int z.2.2.2.2.2.2,.ref z.2.2.1,.ref z.2.2.2.1])/\StT K H z.2.1 (J9 z.2.2.2.2.1 z.2.2.2.2.2.1.2.2 z.2.2.2.2.2.1.2.1)/\WyT H (z.2.2.1,z.2.2.2.2.1)/\WyT H (z.2.2.2.1,z.2.2.2.2.2.1)
theorem FkA.same{K:Ϗ}{z:Fz}(h:FkA K H z)(s:Same H H'):FkA K H' z:=#[s.get h.1,h.2.1.same s,h.2.2.1.same s,h.2.2.2.same s]
theorem FkA.app{K:Ϗ}{z:Fz}(h:FkA K H z)(e:H q=!(.lst ys)):FkA K (upd H q o) z:=by let#[a,#[c,b,g],#[d,i,j],#[f,k,l]]:=h;show#[dh a e,#[c,dh b e,dh g e],#[d,dh i e,dh j e],#[f,dh k e,dh l e]]
theorem Ti{c:ϳ}(h:wss[j]?=!c):Y7 wss (j:Int)=(List.range ↑c).flatMap λb=>(List.range b).map λa=>(c.getD a default,c.getD b default,(j:Int)):=by unfold Y7;rw[à,Á,h];rfl
def We(K:Ϗ)(H:Hp)(a:ό)(fs:ϊ ((ϴ)×(ϴ)×Int)):Prop:=∃zs:ϊ Fz,zs.map (λz:Fz=>z.2.2.2.2)=fs/\H a=!(.lst (zs.map λz:Fz=>V.ref z.1))/\∀z∈zs,FkA K H z
inductive hI(K:Ϗ)(vs:ϊ V)(H:Hp)(Q:VK)(E:XK):Prop|mk (f wa:ό) (h:Nat) (ls:ϵ) (wss:ϲ) (_:vs=[.ref f,.ref wa]) (_:FnF K H f h ls) (_:Fo.Wf h ls) (_:WsT H wa wss) (_:0<↑wss) (_:↑wss<=100) (_:(∀ws∈wss,↑ws<=100/\∀w∈ws,Fo.lk ls w.1=!w.2.1/\0<=w.2.2/\w.2.2<↑wss)) (_:∀p H' N,Same H H'->H p=none->↑(cJ wss N)<=N->We K H' p (qu wss (cJ wss N))->Q (.ref p) H')
abbrev Jb K:=(aB (cV (tM (cg (eI K) (bR bK))) (ao 6) (cV (Bd K (bR (aL (cZ K) bK gH))) (jd K 2 (bL (ao 7) (bL (ao 8) jE))) (cV (cB K (KZ (CN K) (aL (cZ K) bK gH) gB (j5 jY))) (ao 9) (aB (aK (cg (ij K) (jZ Es (tX K wM 2) (tX K wM 1))) (ao 10))
  (cA (oU K "list" bU dB (bR (bY (bM (fK (fK c7 (tX K wM 0)) (tX K Es 0)) (pZ ww gH Es wM))))))))))
  (aR dB))
def yO K(E:XK)(Eh:XK):=(aB (aK jh (ao 2))
  (aB (cV (kE K (tX K aU 1)) (jd K 2 (bL (ao 3) (bL (ao 4) jE))) (j6 c7 cM (cg (dV K) (cF aU di))))
  (aB (aK (cW cY) (ao 5))
  (Jb K))))
theorem Tj(h:hI K vs H Q E):∃Eh,yO K E Eh {nx:=λ_ H'=>Q .non H',rt:=Q} (start ["font","ways","costs","sign","columns","found","room","place","later","way","stand"] vs) H:=by
 let#[f,wa,h,ls,wss,rfl,hF,wf,hW,c8,c9,ae,q]:=h;show#[E0,?_];unfold yO;have c4:(ls.map (·.1)).Nodup:=wf.up.imp λc3 e=>by subst e;show ŭ _ c3
 let#[l,zs,t1,bi,t3,t4]:=id hF.t;have dc:↑zs=↑ls:=by rw[<-bi,Qb]
 have dq:=wf.le;have b4:∀k,∀r∈cJ wss k,0<=r/\r<↑wss:=λk=>fj (P:=λr:Int=>0<=r/\r<↑wss) #[by decide,()] (λp q' hp hq=>by
  let#[w,mw,rfl]:=Zp.mp hq;have:wss.getD p.toNat []∈wss:=by rw[Á,Zs ()];show ä _
  show((ae _ this).2 w mw).2) k;have c5:∀k,↑(cJ wss k)<=↑wss:=λk=>by
  have:=fG (l:=cJ wss k) (m:=(List.range ↑wss).map λi:Nat=>(i:Int)) (gJ _ _ k) λr mr=>by let#[h0,h1]:=b4 k r mr;show Zp.mpr #[r.toNat,ü.mpr (),()]
  rw[Qb,õ]at this;show this
 symm;intro U ai;symm;show cX (aA ai t1) ?_;have a5:∀p'∈[U],H p'=none:=λp' al=>by rw[Zl.mp al];show ai
 walk_at "ns";show pQ (λz:Lz=>V.ref z.1) ((aq ai _).tup t3) (λi u H'=>(An2 (Sb [U] H H') (Ex3 λ(J:ϊ (ϐ×ό×ϊ Nat)) (o3 o4:ύ V)=>(An4 (J.map (λk=>(k.1,k.2.2))=ls.take i) (H' U=!(.dK (J.map λk=>((Sum.inr k.1:Key),V.ref k.2.1)))) (∀k∈J,k.2.1≠U/\H' k.2.1=!(.dK (By (Bw k.2.2 ls)))) (u=[!(.ref f),!(.ref wa),!(.ref U),o3,o4,none,none,none,none,none,none]))))) #[Sb.of (aq ai _),[],_,_,rfl,aa,λk L=>(by cases L),rfl] ?_ ?_ ?_;.rintro i u H' ⟨sb,_⟩;show(sb.off a5).tup t3
 .rintro i ⟨za,s,cz,co⟩ u H' hi ⟨sb,J,o3,o4,D,X,I,rfl⟩;have S:=sb.off a5;let#[u1,u2]:=t4 _ (Yf hi);dsimp only at u1 u2;have a6:ls[i]?=!(s,co):=by rw[<-bi,À,hi];rfl
  have c1:=wf.c1 _ (Yf a6);dsimp only at c1;have cy:i<↑ls:=(Ä.mp a6).1;have af:ls.take (i+1)=ls.take i++[(s,co)]:=by rw[Ò,a6];rfl
  have bp:s∉(ls.take i).map (·.1):=by have h1:((ls.take (i+1)).map (·.1)).Nodup:=Ć ((Ģ _ _).map _) c4;rw[af,Wp,Ü]at h1;showλm=>h1.2.2 s m s (by simp) rfl
  have c2:↑J<=94:=by have:=Ô List.length D;rw[Qb,Ú]at this;rfl'
  show dR (iq (S.get u1)) rfl ?_;symm;show#[f,cz,h,ls,co,rfl,(hF.same S).t,wf,iq (S.get u2),(),λr T s2 hr er=>?_];have b3:r≠U:=λe=>by rw[e,X]at hr;cases hr
  have hv:bx (J.map λk=>((Sum.inr k.1:Key),V.ref k.2.1)) (Sum.inr s)=none:=fc (f:=λk:ϐ×ό×ϊ Nat=>(Sum.inr k.1:Key)) (g:=λk:ϐ×ό×ϊ Nat=>V.ref k.2.1) λm=>by let#[k,L,e]:=Zp.mp m;show bp (by rw[<-D,Æ];show Zp.mpr #[k,L,Ĝ e])
  symm;show#[U,_,rfl,DPut.k (k:=Sum.inr s) (s2.get X) (Ñ (by rw[Qb];show c2:_<=94) (by decide)),?_];rw[f9 _ hv];symm;show#[(sb.same s2).set (by simp),J++[(s,r,co)],_,_,by rw[Wp,D,af];rfl,by rw[aa,Wp];rfl,λk L=>?_,rfl];rcases Ã.mp L with L|L;.show #[(I k L).1,by rw[ak (I k L).1];show s2.get (I k L).2]
  .rw [Zl.mp L];show#[b3,by rw[ak b3];show er]
 .rintro u Hc ⟨sb,J,o3,o4,D,X,ax,rfl⟩;rw[dc,ç]at D;have I:∀k∈J,Hc k.2.1=!(.dK (By (Bw k.2.2 ls))):=λk L=>(ax k L).2;have SH:=sb.off a5;have bo:=hW.same SH;have a3:∀{s co},Fo.lk ls s=!co->∃k∈J,k.2.2=co/\bx (J.map λk=>((Sum.inr k.1:Key),V.ref k.2.1)) (Sum.inr s)=!(V.ref k.2.1):=by rw[<-D];clear X I ax D;induction J with
   |nil=>intro s co h;cases h|cons k J ih=>
    intro s co h;rw[È,Fo.jC]at h;rw[È];by_cases e:k.1=s;.rw [if_pos e]at h;cases h;show#[k,Ë,rfl,by rw[cj (by rw[e])]]
    .rw [if_neg e]at h;let#[k',m',e1,e2]:=ih h;show#[k',Ì _ m',e1,by rw[bN (by intro z;show e (Ĝ z))];show e2]
  symm;intro x a4;symm;walk_at "ns";have S0:Same Hc (upd Hc x (HO.lst [])):=aq a4 _;show#[wa,wss,rfl,bo.same S0,c8,c9,λws bb=>#[by have:=(ae ws bb).1;rfl',λw mw=>#[?_,((ae ws bb).2 w mw).2]],λO H1 N ps s1 a8 bg cr hN _=>?_];.obtain ⟨n,en⟩:=wf.sg _ (Fo.bZ ((ae ws bb).2 w mw).1);dsimp only at en;rw[en];show Ç 1
  have b5:Hc O=none:=S0.free a8;have bv:x≠O:=λe=>by rw[<-e,aa]at a8;cases a8
  have be:H1 x=!(.lst []):=s1.get aa;have S1:Same Hc H1:=S0.trans s1;have y:∀p'∈[x,O],Hc p'=none:=λp' al=>by
   simp only[Å,â,Ď]at al;rcases al with rfl|rfl;.show a4
   .show b5
  have dk:↑ps=↑(cJ wss N):=by rw[<-bg,Qb]
  have dt:=c5 N;show S7 (.inl cr) (λod i u H'=>(An5 (Sb [x,O] Hc H') (H' O=!(.frz od (.dK (ps.map λp=>((Sum.inl p.1:Key),V.str p.2))))) (We K H' x (qu wss ((cJ wss N).take i))) (↑(qu wss ((cJ wss N).take i))<=i*10000) (Ex5 λ(o6 o7 o8 o9 d:ύ V)=>u=[!(.ref f),!(.ref wa),!(.ref U),o3,o4,!(.ref x),o6,o7,o8,o9,d]))) (λod T C e2=>#[λb o n q'=>C b o (λz=>n (by simp only[Zl]at z;rw[z];simp)) (S1 b o q'),e2,#[[],rfl,C.get (by simpa using bv) be,λz m=>(by cases m)],á _,_,_,_,_,_,rfl]) (λod i u H' h=>by let#[_,h,_]:=h;show h) ?_ ?_
  .rintro od i z u H' hz ⟨ap,av,hT,cv,o6,o7,o8,o9,d,rfl⟩;let#[p,hp,rfl]:∃p,ps[i]?=!p/\z=((Sum.inl p.1:Key),V.str p.2):=by rw[À]at hz;let#[p,hp,e]:=Ï.mp hz;show#[p,hp,e.symm]
   have a7:(cJ wss N)[i]?=!p.1:=by rw[<-bg,À,hp];rfl
   let#[r0,r1]:=b4 N p.1 (Yf a7);let#[j,hj]:∃j:Nat,p.1=(j:Int):=#[p.1.toNat,()];have cy:i<↑(cJ wss N):=(Ä.mp a7).1;let#[rs,w1,w2,w3]:=id bo;have dy:↑rs=↑wss:=by rw[<-w1,Qb]
   let#[c,am]:∃c,rs[j]?=!c:=#[_,Zs ()];have b6:wss[j]?=!c.2:=by rw[<-w1,À,am];rfl
   let#[R,a1,z1,z2]:=w3 c (Yf am);let#[da,ce]:=ae c.2 (Yf b6);have db:↑R=↑c.2:=by rw[<-a1,Qb]
   have af:qu wss ((cJ wss N).take (i+1))=qu wss ((cJ wss N).take i)++(List.range ↑c.2).flatMap λb=>(List.range b).map λa=>(c.2.getD a default,c.2.getD b default,(j:Int)):=by rw[Ò,a7];unfold qu;rw[ρ];congr 1;change [p.1].flatMap _=_;rw[Μ,hj,Ti b6]
   rw[af];generalize hA:qu wss ((cJ wss N).take i)=A at hT cv⊢;change ao 6 (V.int p.1) _ _ _;rw[hj];symm;have S':=ap.off y;show cH (ip (S'.get w2)) (aM (j:=j) (v:=.ref c.1) (by rw[À,am];rfl)) ?_;walk_at "ns";show Sq (λz:Wz=>V.ref z.1) (xs:=R) (ip (S'.get z1)) (λb u T=>(An5 (Sb [x,O] Hc T) (T O=!(.frz od (.dK (ps.map λp=>((Sum.inl p.1:Key),V.str p.2))))) (We K T x (A++(List.range b).flatMap λb=>(List.range b).map λa=>(c.2.getD a default,c.2.getD b default,(j:Int)))) (↑(A++(List.range b).flatMap λb=>(List.range b).map λa=>(c.2.getD a default,c.2.getD b default,(j:Int)))<=i*10000+b*100) (Ex4 λ(o7 o8 o9 d:ύ V)=>u=[!(.ref f),!(.ref wa),!(.ref U),o3,o4,!(.ref x),!(.int (j:Nat)),o7,o8,o9,d]))) #[ap,av,by rw[List.range_zero,List.flatMap_nil,ò];show hT,by rw[List.range_zero,List.flatMap_nil,ò];rfl',_,_,_,_,rfl] ?_ ?_ ?_;.rintro b u T ⟨C,_⟩;show ip ((C.off y).get z1)
   .rintro b ⟨wb,sw,W,M⟩ tp u T hb ⟨C,G,ag,ac,o7,o8,o9,d,rfl⟩ ad;have a9:c.2[b]?=!(sw,W,M):=by rw[<-a1,À,hb];rfl
    have dn:b<↑c.2:=(Ä.mp a9).1;have cn:c.2.getD b default=(sw,W,M):=by rw[Á,a9];rfl
    have bn:=z2 _ (Yf hb);let#[cb,b1,b2]:=id bn;dsimp only at b1 b2;have bq:=((ce _ (Yf a9)).1);dsimp only at bq;let#[kb,de,cp,ct]:=a3 bq;have df:tp≠O:=λe=>by rw[e,G]at ad;cases ad
    have bd:=C.new (o:=.tup [.int (b:Int),.ref wb]) ad;show dR (iq aa) rfl ?_;symm;have Y:upd T tp (.tup [.int (b:Int),.ref wb]) O=!(.frz od (.dK (ps.map λp=>((Sum.inl p.1:Key),V.str p.2)))):=by rw[ak df.symm];show G
    have ah:We K (upd T tp (.tup [.int (b:Int),.ref wb])) x (A++(List.range b).flatMap λb=>(List.range b).map λa=>(c.2.getD a default,c.2.getD b default,(j:Int))):=by let#[us,u1,u2,u3]:=ag;show#[us,u1,aA ad u2,λz mz=>(u3 z mz).same (aq ad _)]
    generalize upd T tp (.tup [.int (b:Int),.ref wb])=H3 at bd Y ah⊢;rw[List.range_succ,ρ,Μ,<-ĕ,cn];generalize hB:A++(List.range b).flatMap (λb=>(List.range b).map λa=>(c.2.getD a default,c.2.getD b default,(j:Int)))=B at ah ac⊢;have S3:=bd.off y;show cH (ip (S3.get w2)) (aM (j:=j) (v:=.ref c.1) (by rw[À,am];rfl)) ?_;symm;show Ie (ip (S3.get z1)) λsl F=>?_;rw[yr (),à,<-Χ];walk_at "ns";have S4:Same H3 (upd H3 sl (HO.lst ((R.take b).map λz:Wz=>V.ref z.1))):=aq F _;have d1:sl≠O:=λe=>by rw[e,Y]at F;cases F
    have cf:sl≠x:=λe=>by let#[us,u1,u2,u3]:=ah;rw[e,u2]at F;cases F
    have dl:Hc sl=none:=S3.free F;have dg:∀p'∈[x,O],upd H3 sl (HO.lst ((R.take b).map λz:Wz=>V.ref z.1)) p'≠none->True:=λ_ _ _=>trivial;have ci:=bd.new (o:=HO.lst ((R.take b).map λz:Wz=>V.ref z.1)) F;have ay:upd H3 sl (HO.lst ((R.take b).map λz:Wz=>V.ref z.1)) sl=!(.lst ((R.take b).map λz:Wz=>V.ref z.1)):=aa;have aw:=S4.get Y;have bk:We K (upd H3 sl (HO.lst ((R.take b).map λz:Wz=>V.ref z.1))) x B:=by let#[us,u1,u2,u3]:=ah;show#[us,u1,S4.get u2,λz mz=>(u3 z mz).same S4]
    generalize upd H3 sl (HO.lst ((R.take b).map λz:Wz=>V.ref z.1))=H4 at S4 ci ay aw bk⊢;show j7 (λz:Wz=>V.ref z.1) (zs:=R.take b) (ip ay) (λa u H5=>(An5 (Sb [x,O] Hc H5) (H5 sl=!(.lst ((R.take b).map λz:Wz=>V.ref z.1))) (H5 O=!(.frz od (.dK (ps.map λp=>((Sum.inl p.1:Key),V.str p.2))))) (We K H5 x (B++(List.range a).map λa=>(c.2.getD a default,(sw,W,M),(j:Int)))) (Ex2 λ(o9 d:ύ V)=>u=[!(.ref f),!(.ref wa),!(.ref U),o3,o4,!(.ref x),!(.int (j:Nat)),!(.int (b:Nat)),!(.ref wb),o9,d]))) #[ci,ay,aw,by rw[List.range_zero,Č,ò];show bk,_,_,rfl] ?_ ?_ ?_;.rintro a u H5 ⟨_,h,_⟩;show ip h
    .rintro a ⟨wq,sq,cq,rq⟩ u H5 ha ⟨ar,as,Z,⟨us,u1,u2,u3⟩,o9,d,rfl⟩;have cx:a<b:=by have:=(Ä.mp ha).1;rw[Ú]at this;rfl'
     have b0:R[a]?=!(wq,sq,cq,rq):=by rw[List.getElem?_take,if_pos cx]at ha;show ha
     have b9:c.2[a]?=!(sq,cq,rq):=by rw[<-a1,À,b0];rfl
     have cm:c.2.getD a default=(sq,cq,rq):=by rw[Á,b9];rfl
     have a2:=z2 _ (Yf b0);let#[cc,q1,q2]:=id a2;dsimp only at q1 q2;have br:=((ce _ (Yf b9)).1);dsimp only at br;have S5:=ar.off y;have d0:↑us<=1000000:=by have:=Ô List.length u1;rw[Qb,Â,Qb,õ]at this;rfl'
     symm;show jn (S5.get b1) ?_;symm;show cX (S5.get b1) ?_;symm;show#[wq,cb,(sq,cq,rq),M,W,rfl,a2.same S5,S5.get b2,λst H6 s6 dz hS=>?_];have S6:=S5.trans s6;symm;show du (ip (s6.get u2)) ?_;symm;show dC (S6.get b1) ?_;symm;show#[U,.ref kb.2.1,rfl,by rw[<-ct];show DGet.k (k:=Sum.inr sw) (S6.get X),?_];symm;show dC (S6.get q1) ?_;symm;show#[kb.2.1,V.int (cst W cq:Nat),rfl,by have:=DGet.k (k:=Sum.inr sq) (S6.get (I kb de));rw[cp,yM br]at this;show this,?_];symm;intro tq c6;have s7:Same H6 (upd H6 tq (HO.tup [.int (cst W cq:Nat),.ref st,.int (j:Nat),.ref wq,.ref wb])):=aq c6 _;have e7:upd H6 tq (HO.tup [.int (cst W cq:Nat),.ref st,.int (j:Nat),.ref wq,.ref wb]) tq=!(.tup [.int (cst W cq:Nat),.ref st,.int (j:Nat),.ref wq,.ref wb]):=aa;generalize upd H6 tq (HO.tup [.int (cst W cq:Nat),.ref st,.int (j:Nat),.ref wq,.ref wb])=H7 at s7 e7⊢;have u7:=s7.get (s6.get u2);symm;show fL u7 (by rw[Qb];rfl') ?_;symm;have hz:FkA K H7 (tq,st,wq,wb,((sq,cq,rq),(sw,W,M),(j:Int))):=#[e7,hS.same s7,(a2.same S6).same s7,(bn.same S6).same s7];show#[((ar.same s6).same s7).set (by simp),by rw[ak cf];show s7.get (s6.get as),by rw[ak bv.symm];show s7.get (s6.get Z),#[us++[(tq,st,wq,wb,((sq,cq,rq),(sw,W,M),(j:Int)))],by rw[Wp,u1,List.range_succ,Wp,<-ĕ,List.map_singleton,List.map_singleton,cm],by rw[aa,Wp];rfl,λz mz=>?_],_,_,rfl];rcases Ã.mp mz with mz|mz;.show (((u3 z mz).same s6).same s7).app u7
     .rw [Zl.mp mz];show hz.app u7
    .rintro u H5 ⟨ar,as,Z,bl,o9,d,rfl⟩;have eb:↑(R.take b)=b:=by rw[Ú];rfl'
     rw[eb]at bl;show#[ar,Z,bl,by rw[Â,Qb,õ];rfl',_,_,_,_,rfl]
   .rintro u T ⟨C,G,ag,ac,o7,o8,o9,d,rfl⟩;rw[db]at ag ac;show#[C,G,ag,(),_,_,_,_,_,rfl]
  .rintro od u H' ⟨ap,av,hT,_,o6,o7,o8,o9,d,rfl⟩;rw[ë (by rw[Qb];rfl')]at hT;symm;show q x H' N (SH.trans (ap.off y)) (SH.free a4) hN hT
noncomputable def Jc(ls:ϵ)(st:Int×Int×ϊ Nat)(w:ϴ):ϐ×Nat×(Int×Int×ϊ Nat):=(w.1,cst st.2.2 w.2.1,J9 w st.2.1 st.2.2)
def SpT(K:Ϗ)(H:Hp)(a:ό)(x:ϐ×Nat×(Int×Int×ϊ Nat)):Prop:=∃c,H a=!(.tup [.str x.1,.int (x.2.1:Nat),.ref c])/\StT K H c x.2.2
theorem SpT.same{K:Ϗ}{x:ϐ×Nat×(Int×Int×ϊ Nat)}(h:SpT K H a x)(s:Same H H'):SpT K H' a x:=by let#[c,b,d]:=h;show#[c,s.get b,d.same s]
def SsT(K:Ϗ)(H:Hp)(a:ό)(xs:ϊ (ϐ×Nat×(Int×Int×ϊ Nat))):Prop:=∃zs:ϊ (ό×ϐ×Nat×(Int×Int×ϊ Nat)),zs.map (·.2)=xs/\H a=!(.lst (zs.map λz=>V.ref z.1))/\∀z∈zs,SpT K H z.1 z.2
inductive eT(K:Ϗ)(vs:ϊ V)(H:Hp)(Q:VK)(E:XK):Prop|mk (wa ca sa:ό) (ls:ϵ) (wss:ϲ) (st:Int×Int×ϊ Nat) (ws:ϳ) (r:Nat) (_:vs=[.ref wa,.ref ca,.ref sa]) (_:WsT H wa wss) (_:H ca=!(.dK (By (Bw st.2.2 ls)))) (_:StT K H sa st) (_:st.1=(r:Int)) (_:wss[r]?=!ws) (_:(∀w∈ws,Fo.lk ls w.1=!w.2.1)) (_:↑ws<=1000) (_:∀p H',Same H H'->H p=none->SsT K H' p (ws.map (Jc ls st))->Q (.ref p) H')
def yP K(E:XK)(Eh:XK):=(aR (mU [none,!1,!2] (cB K (aL (cZ K) aU (tX K c7 0))) (ao 0) gZ (bY (jZ (tX K aU 0) (fK bK (tX K aU 0)) (cg (ij K) (jZ aU (tX K c7 1) (tX K c7 2)))))))
theorem Tp(h:eT K vs H Q E):∃R,yP K E R {nx:=λ_ H'=>Q .non H',rt:=Q} (start ["ways","costs","stand"] vs) H:=by
 let#[wa,S,sa,ls,wss,#[s0,F,ys],l,r,rfl,#[M,O,w2,w3],o,#[sc,w,G],L,u,A,X,q]:=h;show#[E0,?_];unfold yP;dsimp only at w G L o;subst L;let#[g,c]:∃g,M[r]?=!g:=#[_,Zs (by have:=(Ä.mp u).1;rw[<-O,Qb]at this;show this)];have x:g.2=l:=by
  have:(M.map (·.2))[r]?=!g.2:=by rw[À,c];rfl
  rw[O,u]at this;show(Ù this).symm
 let#[zs,b,P,z2]:=w3 g (Yf c);rw[x]at b;have Y:↑zs=↑l:=by rw[<-b,Qb]
 symm;show dC w ?_;symm;show cH (ip w2) (aM (j:=r) (v:=.ref g.1) (by rw[À,c];rfl)) ?_;show qH (λz:Wz=>V.ref z.1) (zs:=zs) (ip P) () (λi vs H'=>(An2 (Same H H') (Ex1 λ(us:ϊ (ό×ϐ×Nat×(Int×Int×ϊ Nat)))=>(An3 (vs=us.map (λz=>V.ref z.1)) (us.map (·.2)=(l.take i).map (Jc ls ((r:Int),F,ys))) (∀z∈us,SpT K H' z.1 z.2))))) #[ix _,[],rfl,rfl,λz m=>(by cases m)] ?_ ?_ ?_ ?_;.rintro i vs H' ⟨s',_⟩;show ip (s'.get P)
 .rintro i vs H' ⟨_,us,rfl,f,_⟩;have:=Ô List.length f;rw[Qb,Qb,Ú]at this;rw[Qb];rfl'
 .rintro i ⟨za,s,n,a⟩ vs H' I ⟨s',us,rfl,f,D⟩;have t:l[i]?=!(s,n,a):=by rw[<-b,À,I];rfl
  have y:l.take (i+1)=l.take i++[(s,n,a)]:=by rw[Ò,t];rfl
  have U:=z2 _ (Yf I);let#[T,v1,v2]:=id U;dsimp only at v1 v2;have J:=A _ (Yf t);dsimp only at J;symm;show dC (s'.get v1) ?_;symm;show dC (s'.get v1) ?_;symm;show#[S,V.int (cst ys n:Nat),rfl,by have:=DGet.k (k:=Sum.inr s) (s'.get o);rw[yM J]at this;show this,?_];symm;show cX (s'.get w) ?_;symm;show jn (s'.get w) ?_;symm;show#[za,sc,(s,n,a),F,ys,rfl,#[T,s'.get v1,s'.get v2],s'.get G,λsb H2 N W C=>?_];symm;intro Z d;show#[(s'.trans N).new d,us++[(Z,Jc ls ((r:Int),F,ys) (s,n,a))],by rw[Wp];rfl,by rw[Wp,f,y,Wp];rfl,λz e=>?_];rcases Ã.mp e with e|e;.show (D z e).same (N.new d)
  .rw [Zl.mp e];show#[sb,aa,C.same (aq d _)]
 .rintro vs H' ⟨s',us,rfl,f,D⟩ p B;rw[ë ()]at f;show q p _ (s'.new B) (s'.free B) #[us,f,aa,λz e=>(D z e).same (aq B _)]
abbrev Sd:=Int×Int×ϊ Nat
variable{ev:Sd->Prop}{F':Sd->Nat×Nat->Prop}{W':Nat×Nat->Sd->Prop}
noncomputable def iz(x:Sd):Sk:=(x.1,x.2.1,x.2.2.map λn:Nat=>(n:Int))
theorem wA:∀{c d:ϊ Nat},(c.map λn:Nat=>(n:Int))=(d.map λn:Nat=>(n:Int))->c=d
 |[],[],_=>rfl|[],_::_,h=>by cases h|_::_,[],h=>by cases h|x::c,y::d,h=>by
  rw[È,È]at h;injection h with h1 h2;rw[wA h2,show x=y by rfl']
theorem uh{x:Sd}(h:iz x=iz y):x=y:=by let#[a,b,c]:=x;let#[d,e,f]:=y;have g:a=d:=Ô (λz:Sk=>z.1) h;have i:b=e:=Ô (λz:Sk=>z.2.1) h;have j:c=f:=wA (Ô (λz:Sk=>z.2.2) h);rw[g,i,j]
theorem StT.a{K:Ϗ}{a:ό}{st:Sd}(h:StT K H a st):uD H a (iz st):=by let#[c,b,d]:=h;show#[c,b,by rw[d];unfold nv iz;rw[Æ];rfl]
theorem StT.keep{K:Ϗ}{k:Sd}(h:StT K H b k)(e:H p=!o)(f:∀l,o≠.tup l):StT K (upd H p o') b k:=by let#[c,a,d]:=h;show#[c,by rw[ak (bA a e λz=>f _ z.symm)];show a,by rw[ak (bA d e λz=>f _ z.symm)];show d]
theorem SsT.same{K:Ϗ}(h:SsT K H a xs)(s:Same H H'):SsT K H' a xs:=by let#[zs,b,c,d]:=h;show#[zs,b,s.get c,λz e=>(d z e).same s]
theorem SsT.keep{K:Ϗ}(h:SsT K H a xs)(e:H p=!o)(d:∀l,o≠.tup l)(n:a≠p):SsT K (upd H p o') a xs:=by let#[zs,g,i,j]:=h;show#[zs,g,by rw[ak n];show i,λz k=>?_];let#[c,b,f]:=j z k;show#[c,by rw[ak (bA b e λz=>d _ z.symm)];show b,f.keep e d]
noncomputable def uE(ys:ϊ Nat):ϊ Key:=ys.map λn:Nat=>(Sum.inl (n:Int):Key)
theorem yQ(ys:ϊ Nat):(uE ys).map kV=nv ys:=by unfold uE nv;rw[Æ];rfl
theorem ul:∀{c d:ϊ Nat},uE c=uE d->c=d
 |[],[],_=>rfl|[],_::_,h=>by cases h|_::_,[],h=>by cases h|x::c,y::d,h=>by
  unfold uE at h;rw[È,È]at h;injection h with a h2;have a:=Sum.inl.inj a;rw[ul h2,show x=y by rfl']
theorem Jd{ys:ϊ Nat}:∀{cs:ϊ (ϊ Nat×ό)},ys∈cs.map (·.1)->∃a,(ys,a)∈cs/\bx (cs.map λc=>(uE c.1,V.ref c.2)) (uE ys)=!(V.ref a)
 |c::cs,m=>by
  rw[È];by_cases e:c.1=ys
  .show #[c.2,by rw[<-e];show Ë,by rw[cj (by rw[e])]]
  .obtain ⟨a,b,d⟩:=Jd (cs:=cs) (by rcases Å.mp m with z|z;show absurd z.symm e;show z);show⟨a,Ì _ b,by rw[bN (λz=>e (ul z))];show d⟩
theorem BJ{ys:ϊ Nat}:∀{cs:ϊ (ϊ Nat×ό)},ys∉cs.map (·.1)->bx (cs.map λc=>(uE c.1,V.ref c.2)) (uE ys)=none
 |[],_=>rfl|c::cs,m=>by rw[È,bN (λz=>m (by rw[È,ul z];show Ë))];show BJ λz=>m (Ì _ z)
abbrev Uz:=(ό×ϐ×Nat×Sd)×ό
theorem yR{K:Ϗ}{H:Hp}:∀{us:ϊ (ό×ϐ×Nat×Sd)},(∀z∈us,SpT K H z.1 z.2)->∃ps:ϊ Uz,ps.map (·.1)=us/\∀p∈ps,H p.1.1=!(.tup [.str p.1.2.1,.int (p.1.2.2.1:Nat),.ref p.2])/\StT K H p.2 p.1.2.2.2
 |[],_=>#[[],rfl,λp m=>(by cases m)]|u::us,h=>by
  let#[ps,e,f]:=yR λz g=>h z (Ì _ g);let#[c,b,d]:=h u Ë;show#[(u,c)::ps,by rw[È,e],λp a=>?_];rcases Å.mp a with rfl|a;.show #[b,d]
  .show f p a
noncomputable def PN(wss:ϲ)(st:Sd):ϊ Sd:=(wss.getD st.1.toNat []).map λw=>J9 w st.2.1 st.2.2
noncomputable def nj(z:(ϴ)×(ϴ)×Int):Sd:=J9 z.1 z.2.1.2.2 z.2.1.2.1
noncomputable def Lb(wss:ϲ)(N:Nat):ϊ Sd:=(qu wss (cJ wss N)).map nj
def InU(n:Nat)(ls:ϵ)(x:Sd):Prop:=(0<=x.1/\x.1<n)/\(0<=x.2.1/\x.2.1<n)/\∃p∈ls,∃d,d<9/\x.2.2=p.2.drop d
noncomputable def UL(n:Nat)(ls:ϵ):ϊ Sd:=(List.range n).flatMap λa:Nat=>(List.range n).flatMap λb:Nat=>ls.flatMap λp=>(List.range 9).map λd:Nat=>((a:Int),(b:Int),p.2.drop d)
theorem uo{a b:Type}(f:a->ϊ b)(k:Nat)(h:∀x,↑(f x)=k):∀l:ϊ a,↑(l.flatMap f)=↑l*k
 |[]=>by simp|x::l=>by rw[List.flatMap_cons,Â,h,uo f k h l,ô,Nat.add_mul,Nat.one_mul,ů]
theorem Je(n:Nat)(ls:ϵ):↑(UL n ls)=n*n*(↑ls*9):=by unfold UL;rw[uo _ (n*(↑ls*9)) λa=>by rw[uo _ (↑ls*9) λb=>by rw[uo _ 9 λp=>by rw[Qb,õ]],õ],õ,Nat.mul_assoc]
theorem InU.mem{x:Sd}(h:InU n ls x):x∈UL n ls:=by let#[#[a,g],#[b,i],p,f,d,c,e]:=h;show ł.mpr #[x.1.toNat,ü.mpr (),ł.mpr #[x.2.1.toNat,ü.mpr (),ł.mpr #[p,f,Zp.mpr #[d,ü.mpr c,?_]]]];rw[<-e,π a,π b]
def WOk(ls:ϵ)(n:Nat)(wss:ϲ):Prop:=∀ws∈wss,∀w∈ws,((w.1,w.2.1)∈ls/\1<=↑w.2.1/\↑w.2.1<=8)/\0<=w.2.2/\w.2.2<n
theorem WOk.at{n:Nat}{wss:ϲ}(h:WOk ls n wss){r:Nat}{w:ϴ}(m:w∈wss.getD r []):((w.1,w.2.1)∈ls/\1<=↑w.2.1/\↑w.2.1<=8)/\0<=w.2.2/\w.2.2<n:=by
 by_cases c:r<↑wss;.rw [Á,Zs c]at m;show h _ (ä c) w m
 .rw [Á,Ċ ()]at m;cases m
theorem Jf{ls:ϵ}(e:((w.1,w.2.1)∈ls/\1<=↑w.2.1/\↑w.2.1<=8)/\0<=w.2.2/\w.2.2<n){a:Int}{ys:ϊ Nat}(b:0<=a/\a<n)(f:∃p∈ls,↑p.2<=8/\∃d,ys=p.2.drop d):InU n ls (J9 w a ys):=by
 let#[#[m,h,i],r]:=e;let#[p,g,j,d,rfl]:=f;unfold J9;split;.rename_i c;rw[Ĉ]at c;show#[r,b,p,g,d+↑w.2.1,(),by change(p.2.drop d).drop _=_;rw[List.drop_drop]]
 .rename_i c;show#[b,r,_,m,↑(p.2.drop d),(),rfl]
theorem Tq(c:∀p∈ls,↑p.2<=8)(h:WOk ls n wss)(x y:Sd)(f:InU n ls x)(m:y∈PN wss x):InU n ls y:=by let#[w,g,rfl]:=Zp.mp m;let#[_,b,p,a,d,_,e]:=f;show Jf (h.at g) b #[p,a,c p a,d,e]
theorem Tr(h:WOk ls n wss)(N:Nat)(x:Sd)(m:x∈Lb wss N):InU n ls x:=by
 let#[z,q,rfl]:=Zp.mp m;let#[r,_,p]:=ł.mp q;let#[b,o,j]:=ł.mp p;let#[a,d,rfl]:=Zp.mp j;have i:=ü.mp o;have d:=ü.mp d;have g:∀k,k<↑(wss.getD r.toNat [])->(wss.getD r.toNat []).getD k default∈wss.getD r.toNat []:=by generalize wss.getD r.toNat []=l;intro k e;rw[Á,Zs e];show ä e
 have f:=h.at (g a ());have c:=h.at (g b i);show Jf f c.2 #[_,c.1.1,c.1.2.2,0,rfl]
def Wg(ls:ϵ)(ds:L2S):Prop:=0<↑ds/\↑ds<=50/\(∀ps∈ds,↑ps<=18/\∀p∈ps,0<=p.2/\p.2<↑ds)/\↑ds*↑ds*(↑ls*9)<=50000
theorem BK{h:Nat}(g:Fo.Wf h ls)(f:Wg ls ds):WOk ls ↑ds (ds.map (aO ls)):=λj d w e=>by let#[ps,c,rfl]:=Zp.mp d;let#[p,b,ep]:=ñ.mp (show w∈ps.filterMap _ from e);let#[i,a,rfl]:=Ï.mp ep;have:=Fo.bZ a;show#[#[this,g.c1 _ this],(f.2.2.1 ps c).2 p b]
abbrev Gz:=ό×Sd×ό
noncomputable def cL(zs:ϊ Gz):ϊ (ό×Sk×V):=zs.map λz:Gz=>(z.1,iz z.2.1,V.ref z.2.2)
def GzT(K:Ϗ)(H:Hp)(ls:ϵ)(wss:ϲ)(z:Gz):Prop:=StT K H z.1 z.2.1/\SsT K H z.2.2 ((wss.getD z.2.1.1.toNat []).map (Jc ls z.2.1))
theorem GzT.same{K:Ϗ}{z:Gz}(h:GzT K H ls wss z)(s:Same H H'):GzT K H' ls wss z:=#[h.1.same s,h.2.same s]
theorem yS{K:Ϗ}{zs:ϊ Gz}(h:∀z∈zs,GzT K H ls wss z):∀p∈cL zs,uD H p.1 p.2.1:=λp b=>by let#[z,c,rfl]:=Zp.mp b;show(h z c).1.a
theorem jr{zs:ϊ Gz}{x:Sd}(h:x∉zs.map (·.2.1)):dj (cL zs) (iz x)=none:=rO.mpr λm=>by unfold cL at m;rw[Æ]at m;let#[z,a,e]:=Zp.mp m;show h (Zp.mpr #[z,a,uh e])
theorem qj{zs:ϊ Gz}{x:Sd}(h:x∈zs.map (·.2.1)):∃v,dj (cL zs) (iz x)=!v:=IK (by unfold cL;rw[Æ];let#[z,a,e]:=Zp.mp h;show Zp.mpr #[z,a,by rw[<-e];rfl])
theorem uq{wss:ϲ}(b:∀f∈wss,↑f<=18):∀rs:ϊ Int,↑(qu wss rs)<=↑rs*324
 |[]=>by simp[qu]|r::rs=>by
  have a:=uq b rs;unfold qu at a⊢;rw[List.flatMap_cons,Â,ô];have h:↑(Y7 wss r)<=324:=by
   unfold Y7;have e:↑(wss.getD r.toNat [])<=18:=by
    by_cases c:r.toNat<↑wss;.rw [Á,Zs c];show b _ (ä c)
    .rw [Á,Ċ ()];simp
   have d:∀(m:Nat)(g:Nat->Nat->(ϴ)×(ϴ)×Int),m<=18->↑((List.range m).flatMap λj=>(List.range j).map λk=>g j k)<=m*18:=by intro m g i;induction m with
    |zero=>simp|succ m a=>rw[List.range_succ,ρ,Â,Μ,Qb,õ];have:=a ();rfl'
   have:=d _ (λj k=>((wss.getD r.toNat []).getD k default,(wss.getD r.toNat []).getD j default,r)) e;rfl'
  rfl'
inductive eP(K:Ϗ)(vs:ϊ V)(H:Hp)(Q:VK)(E:XK):Prop|mk (f ha:ό) (h:Nat) (ls:ϵ) (ds:L2S) (es:ϊ Int) (_:vs=[.ref f,.ref ha]) (_:FnF K H f h ls) (_:Fo.Wf h ls) (_:HsG K H ha ds es) (_:Wg ls ds) (_:∀r H' N (zs:ϊ Gz),Same H H'->H r=none->↑(cJ (ds.map (aO ls)) N)<=N->H' r=!(bF r (cL zs))->(∀z∈zs,GzT K H' ls (ds.map (aO ls)) z)->↑zs<=50000->(zs.map (·.2.1)).Nodup->(∀x,x∈zs.map (·.2.1)↔Mm.Rch (Lb (ds.map (aO ls)) N) (PN (ds.map (aO ls))) x)->Q (.ref r) H')
abbrev Jg K:=(aB (bG (tB (gC (tX K gH 2) cM)) (j6 cM (tX K gH 2) (cg (dV K) (cF aU (tX K gH 2)))) aW)
  (aB (vQ di gH (cg (eT K) (jZ c7 (fK cM (tX K gH 2)) gH)))
  (cA (oU K "list" sO dB (bR (mU [none] (cB K (lG di gH)) (ao 0) gZ (tX K aU 2)))))))
abbrev Jh K:=(aB (aK vP (ao 4))
  (aB (aK (mU [none] (cB K (cg (hI K) (cF aU c7))) (ao 0) gZ (tX K aU 1)) (ao 5))
  (aB (fX (aP (aL sX (gm K dB) (tI 0))) (aB (aK (LR K "list" QF dB) (ao 6))
  (bG (tB (nQ gH di)) (Jg K) aW)))
  (aR di))))
def yU K(E:XK)(Eh:XK):=(aB (aK (cg (fT K) (cF aU bK)) (ao 2))
  (aB (aK xq (ao 3))
  (Jh K)))
theorem Tt(h:eP K vs H Q E):∃Eh,yU K E Eh {nx:=λ_ H'=>Q .non H',rt:=Q} (start ["font","house","ways","costs","found","waiting","stand"] vs) H:=by
 let#[f,ha,h,ls,ds,es,rfl,hF,wf,hH,sz,q]:=h;show#[E0,?_];unfold yU;have ad:=BK wf sz;have ci:∀p∈ls,↑p.2<=8:=λp mp=>(wf.c1 p mp).2;let#[c2,c3,c4,dl]:=id sz;have ac:∀ws∈ds.map (aO ls),↑ws<=18:=λws W=>by let#[ps,a1,rfl]:=Zp.mp W;show Ð (ė ..) (c4 ps a1).1
 have bq:∀ws∈ds.map (aO ls),∀w∈ws,Fo.lk ls w.1=!w.2.1:=λws W w mw=>by let#[ps,a1,rfl]:=Zp.mp W;let#[p,mp,ep]:=ñ.mp (show w∈ps.filterMap _ from mw);let#[M,ae,rfl]:=Ï.mp ep;show ae
 symm;show#[f,ha,h,ls,ds,es,rfl,hF,wf,hH,(),λps a1=>by have:=(c4 ps a1).1;rfl',λwa H1 s1 d0 hW=>?_];have ct:↑(ds.map (aO ls))=↑ds:=Qb _;generalize ds.map (aO ls)=wss at ad ac hW q ct bq;rw[<-ct]at ad c2 c3 dl;symm;intro M bl;symm;intro g bn;have S1:Same H1 (upd (upd H1 M (HO.dT [])) g (bF g [])):=(aq bl _).new bn;have D:upd (upd H1 M (HO.dT [])) g (bF g []) M=!(.dT []):=aA bn aa;have F:upd (upd H1 M (HO.dT [])) g (bF g []) g=!(bF g []):=aa;have a9:H1 g=none:=(aq bl _).free bn;generalize upd (upd H1 M (HO.dT [])) g (bF g [])=H2 at S1 D F;symm;show#[f,wa,h,ls,wss,rfl,(hF.same s1).same S1,wf,hW.same S1,c2,(),λws W=>#[by have:=ac ws W;rfl',λw mw=>#[bq ws W w mw,(ad ws W w mw).2]],λfk H3 N s3 dy hN hT=>?_];let#[fz,b2,c6,b5]:=hT;have dc:↑(cJ wss N)<=↑wss:=by
  have de:∀k,∀r∈cJ wss k,0<=r/\r<↑wss:=λk=>fj (P:=λr:Int=>0<=r/\r<↑wss) #[by decide,()] (λp q' hp hq=>by let#[w,mw,rfl]:=Zp.mp hq;show(ad.at mw).2) k;have:=fG (l:=cJ wss N) (m:=(List.range ↑wss).map λi:Nat=>(i:Int)) (gJ _ _ N) λr mr=>by let#[h0,h1]:=de N r mr;show Zp.mpr #[r.toNat,ü.mpr (),()]
  rw[Qb,õ]at this;show this
 have c9:↑fz<=16200:=by have h1:=uq ac (cJ wss N);rw[<-b2,Qb]at h1;have:=ε 324 (Ð dc c3);rfl'
 show PJ (λz:Fz=>V.ref z.1) (zs:=fz) (ip c6) () (λz:Fz=>V.ref z.2.1) ?_ λC ap=>?_;.rintro i z hi A hA;let#[z1,_]:=b5 z (Yf hi);symm;show dw (iq z1) (aM (j:=1) (v:=.ref z.2.1) rfl) hA
 have S3:=(S1.trans s3).new (o:=HO.lst (fz.map λz:Fz=>V.ref z.2.1)) ap;have a3:upd H3 C (HO.lst (fz.map λz:Fz=>V.ref z.2.1)) M=!(.dT []):=aA ap (s3.get D);have a5:upd H3 C (HO.lst (fz.map λz:Fz=>V.ref z.2.1)) g=!(bF g []):=aA ap (s3.get F);have ag:upd H3 C (HO.lst (fz.map λz:Fz=>V.ref z.2.1)) C=!(.lst ((fz.map λz:Fz=>(z.2.1,nj z.2.2.2.2)).map λz:ό×Sd=>V.ref z.1)):=by rw[aa,Æ];rfl
 have ai:∀z∈fz.map λz:Fz=>(z.2.1,nj z.2.2.2.2),StT K (upd H3 C (HO.lst (fz.map λz:Fz=>V.ref z.2.1))) z.1 z.2:=λz s=>by let#[y,my,rfl]:=Zp.mp s;show(b5 y my).2.1.same (aq ap _)
 have cv:H1 C=none:=(S1.trans s3).free ap;generalize upd H3 C (HO.lst (fz.map λz:Fz=>V.ref z.2.1))=H4 at S3 a3 a5 ag ai;have b1:(fz.map λz:Fz=>(z.2.1,nj z.2.2.2.2)).map (·.2)=Lb wss N:=by rw[Æ];unfold Lb;rw[<-b2,Æ];rfl
 have c5:↑(fz.map λz:Fz=>(z.2.1,nj z.2.2.2.2))<=16200:=by rw[Qb];show c9
 generalize fz.map (λz:Fz=>(z.2.1,nj z.2.2.2.2))=fs at ag ai b1 c5;symm;walk_at "ns";have bo:∀p∈[M,g,C],H1 p=none:=λp hp=>by
  simp only[Å,â,Ď]at hp;rcases hp with rfl|rfl|rfl;.show bl
  .show a9
  .show cv
 have SH:=s1;show pY (λm σ H'=>(An2 (Sb [M,g,C] H1 H') (Ex4 λ(zs:ϊ Gz) (fs:ϊ (ό×Sd)) (cs:ϊ (ϊ Nat×ό)) (o6:ύ V)=>(An11 (H' g=!(bF g (cL zs))) (∀z∈zs,z.2.2≠C/\GzT K H' ls wss z) (H' C=!(.lst (fs.map λz:ό×Sd=>V.ref z.1))) (∀z∈fs,StT K H' z.1 z.2) (H' M=!(.dT (cs.map λc=>(uE c.1,V.ref c.2)))) (∀c∈cs,H' c.2=!(.dK (By (Bw c.1 ls)))) (Mm.Clo (Lb wss N) (PN wss) (zs.map (·.2.1)) (fs.map (·.2))) (↑cs<=↑zs) (↑fs<=16200+18*↑zs) (m=(50000-↑zs)*19+↑fs) (σ=[!(.ref f),!(.ref ha),!(.ref wa),!(.ref M),!(.ref g),!(.ref C),o6]))))) _ #[Sb.of S3,[],fs,[],none,a5,λz m=>(by cases m),ag,ai,a3,λc m=>(by cases m),by rw[b1];show Mm.Clo.start _ _,Ç _,(),rfl,rfl] ?_ ?_
 .rintro m σ H' Nx ⟨sb,zs,fs,cs,o6,ay,ar,J,ce,ae,cb,hC,c8,cc,rfl,rfl⟩ bk;have S':=sb.off bo;have bp:∀x,Mm.Rch (Lb wss N) (PN wss) x->InU ↑wss ls x:=λx hx=>Mm.Rch.all (Tr ad N) (Tq ci ad) hx;have dg:↑zs<=50000:=by
   have:=fG hC.nd λx mx=>(bp x (hC.rF x mx)).mem;rw[Je,Qb]at this;rfl'
  symm;show bJ (ip J) ?_;rw[Qb];symm;show dO (λc1=>?_) λc1=>?_
  .obtain ⟨O,⟨R,st⟩,rfl⟩:∃(O:ϊ (ό×Sd))(y:ό×Sd),fs=O++[y]:=#[fs.dropLast,fs.getLast (λe=>by rw[e]at c1;simp at c1),(List.dropLast_concat_getLast _).symm];rw[Wp]at hC J;rw[Â,Þ]at cc bk c1;have cr:=ce _ (Ø _ (Zl.mpr rfl));have da:∀z∈O,StT K H' z.1 z.2:=λz s=>ce z (ß _ s);dsimp only at cr;have be:=bp st (hC.rW st (Ø _ (Zl.mpr rfl)));symm;show du (ip J) ?_;symm;show s_pop J ?_;symm;have n1:g≠C:=bA ay J (by intro z;cases z);have n2:M≠C:=bA ae J (by intro z;cases z);have n3:M≠g:=bA ae ay (by intro z;cases z);have ax:=sb.set (p:=C) (o:=HO.lst (O.map λz:ό×Sd=>V.ref z.1)) (by simp);have F:upd H' C (HO.lst (O.map λz:ό×Sd=>V.ref z.1)) g=!(bF g (cL zs)):=by rw[ak n1];show ay
   have D:upd H' C (HO.lst (O.map λz:ό×Sd=>V.ref z.1)) M=!(.dT (cs.map λc=>(uE c.1,V.ref c.2))):=by rw[ak n2];show ae
   have X:upd H' C (HO.lst (O.map λz:ό×Sd=>V.ref z.1)) C=!(.lst (O.map λz:ό×Sd=>V.ref z.1)):=aa;have nt:∀{xs:ϊ V} l,HO.lst xs≠.tup l:=λl z=>by cases z
   have I:∀z∈zs,z.2.2≠C/\GzT K (upd H' C (HO.lst (O.map λz:ό×Sd=>V.ref z.1))) ls wss z:=λz s=>#[(ar z s).1,(ar z s).2.1.keep J nt,(ar z s).2.2.keep J nt (ar z s).1];have T:StT K (upd H' C (HO.lst (O.map λz:ό×Sd=>V.ref z.1))) R st:=cr.keep J nt;have Z:∀z∈O,StT K (upd H' C (HO.lst (O.map λz:ό×Sd=>V.ref z.1))) z.1 z.2:=λz s=>(da z s).keep J nt;have Y:∀c∈cs,upd H' C (HO.lst (O.map λz:ό×Sd=>V.ref z.1)) c.2=!(.dK (By (Bw c.1 ls))):=λc mc=>by rw[ak (bA (cb c mc) J (by intro z;cases z))];show cb c mc
   generalize upd H' C (HO.lst (O.map λz:ό×Sd=>V.ref z.1))=H5 at ax F D X I T Z Y⊢;have S5:=ax.off bo;show#[g,_,rfl,SGet.of F (yS λz s=>(I z s).2) T.a,?_];by_cases m:st∈zs.map (·.2.1);.obtain ⟨v,ev⟩:=qj m;rw[ev];symm;change if(not true)=true then _ else _;symm;show bk _ _ _ () #[ax,zs,O,cs,_,F,I,X,Z,D,Y,hC.skip m,c8,(),rfl,rfl]
   .have ev:=jr m;rw[ev];symm;change if(not false)=true then _ else _;rw[if_pos (show(not false)=true from rfl)];have d1:↑st.2.2<=8:=by let#[_,_,p,mp,d,_,e]:=be;rw[e,Ĉ];have:=ci p mp;rfl'
    walk_at "ns";with_reducible show yu (λσ H6=>(An2 (Sb [M,g,C] H1 H6) (Ex2 λ(cs:ϊ (ϊ Nat×ό)) (ca:ό)=>(An11 (H6 g=!(bF g (cL zs))) (∀z∈zs,z.2.2≠C/\GzT K H6 ls wss z) (H6 C=!(.lst (O.map λz:ό×Sd=>V.ref z.1))) (∀z∈O,StT K H6 z.1 z.2) (StT K H6 R st) (H6 M=!(.dT (cs.map λc=>(uE c.1,V.ref c.2)))) (∀c∈cs,H6 c.2=!(.dK (By (Bw c.1 ls)))) (↑cs<=↑zs+1) ((st.2.2,ca)∈cs) (bx (cs.map λc=>(uE c.1,V.ref c.2)) (uE st.2.2)=!(V.ref ca)) (σ=[!(.ref f),!(.ref ha),!(.ref wa),!(.ref M),!(.ref g),!(.ref C),!(.ref R)]))))) ?_ ?_
    .rintro σ H6 ⟨cy,bg,ca,b0,as,a6,cf,al,B,a7,b9,br,U,rfl⟩;have S6:=cy.off bo;let#[sc,e1,e2]:=id al;let#[#[i1,i2],_,_]:=id be;let#[r,hr]:∃r:Nat,st.1=(r:Int):=#[st.1.toNat,()];have cn:wss[r]?=!(wss.getD st.1.toNat []):=by rw[hr,à,Á,Zs ()];rfl
     have cw:=Yf cn;have dn:=ac _ cw;symm;show jn e1 ?_;symm;show#[M,.ref ca,rfl,by rw[<-U];show DGet.t (k:=uE st.2.2) B (by rw[yQ];show e2),?_];symm;show#[wa,ca,R,ls,wss,st,_,r,rfl,hW.same S6,a7 _ br,al,hr,cn,bq _ cw,(),λsp H7 s7 cp b6=>?_];symm;have G:=s7.get b0;have b4:=s7.get a6;have bv:=s7.get B;have bd:=al.same s7;have dk:sp≠C:=λe=>by rw[e,a6]at cp;cases cp
     show#[g,_,rfl,SPut.of G (yS λz s=>(as z s).2.same s7) bd.a (by unfold cL;rw[Qb];rfl'),?_];rw[pX ev];have aw:∀{P:PySem.Heap->Prop} l,HO.ext P≠.tup l:=λl z=>by cases z
     have b3:cL zs++[(R,iz st,V.ref sp)]=cL (zs++[(R,st,sp)]):=by unfold cL;rw[Wp];rfl
     have cz:=(cy.same s7).set (p:=g) (o:=bF g (cL zs++[(R,iz st,V.ref sp)])) (by simp);have af:upd H7 g (bF g (cL zs++[(R,iz st,V.ref sp)])) g=!(bF g (cL zs++[(R,iz st,V.ref sp)])):=aa;have ah:upd H7 g (bF g (cL zs++[(R,iz st,V.ref sp)])) C=!(.lst (O.map λz:ό×Sd=>V.ref z.1)):=by rw[ak n1.symm];show b4
     have a4:upd H7 g (bF g (cL zs++[(R,iz st,V.ref sp)])) M=!(.dT (bg.map λc=>(uE c.1,V.ref c.2))):=by rw[ak n3];show bv
     have am:StT K (upd H7 g (bF g (cL zs++[(R,iz st,V.ref sp)]))) R st:=bd.keep G aw;have bb:∀z∈O,StT K (upd H7 g (bF g (cL zs++[(R,iz st,V.ref sp)]))) z.1 z.2:=λz s=>((cf z s).same s7).keep G aw;have a8:∀c∈bg,upd H7 g (bF g (cL zs++[(R,iz st,V.ref sp)])) c.2=!(.dK (By (Bw c.1 ls))):=λc mc=>by have:=s7.get (a7 c mc);rw[ak (bA this G (by intro z;cases z))];show this
     have cx:∀{a xs},SsT K H7 a xs->a≠g:=λh=>by let#[us,_,u2,_]:=h;show bA u2 G (by intro z;cases z)
     have L:∀z∈zs++[(R,st,sp)],z.2.2≠C/\GzT K (upd H7 g (bF g (cL zs++[(R,iz st,V.ref sp)]))) ls wss z:=λz s=>by
      rcases Ã.mp s with s|s;.have h7:=(as z s).2.same s7;show#[(as z s).1,h7.1.keep G aw,h7.2.keep G aw (cx h7.2)]
      .rw [Zl.mp s];show#[dk,am,b6.keep G aw (cx b6)]
     generalize upd H7 g (bF g (cL zs++[(R,iz st,V.ref sp)]))=H8 at cz af ah a4 am bb a8 L⊢;symm;show du (ip ah) ?_;symm;show#[g,.ref sp,rfl,by rw[<-Eg (b:=R) (v:=V.ref sp) ev];show SGet.of af (by rw[b3];show yS λz s=>(L z s).2) am.a,?_];symm;let#[us,u1,u2,u3]:=(L _ (Ø _ (Zl.mpr rfl))).2.2;dsimp only at u1 u2;have dz:↑us=↑(wss.getD st.1.toNat []):=by have:=Ô List.length u1;rw[Qb,Qb]at this;show this
     let#[ps,ep,cm]:=yR u3;have dq:↑ps=↑us:=by rw[<-ep,Qb]
     show PJ (λp:Uz=>V.ref p.1.1) (zs:=ps) (ip (by rw[u2,<-ep,Æ];rfl)) () (λp:Uz=>V.ref p.2) ?_ λnl db=>?_;.rintro i p hi A hA;symm;show dw (iq (cm p (Yf hi)).1) (aM (j:=2) (v:=.ref p.2) rfl) hA
     have s9:Same H8 (upd H8 nl (HO.lst (ps.map λp:Uz=>V.ref p.2))):=aq db _;have e9:upd H8 nl (HO.lst (ps.map λp:Uz=>V.ref p.2)) nl=!(.lst (ps.map λp:Uz=>V.ref p.2)):=aa;generalize upd H8 nl (HO.lst (ps.map λp:Uz=>V.ref p.2))=H9 at s9 e9⊢;have S:=s9.get ah;symm;show Ii S e9 (by rw[Qb,Qb];rfl') ?_;symm;have df:(ps.map λp:Uz=>(p.2,p.1.2.2.2)).map (·.2)=PN wss st:=by
      rw[Æ];have:ps.map ((λx:ό×Sd=>x.2)∘λp:Uz=>(p.2,p.1.2.2.2))=(ps.map (·.1)).map (λu:ό×ϐ×Nat×Sd=>u.2.2.2):=by rw[Æ];rfl
      rw[this,ep];have:=Ô (List.map λx:ϐ×Nat×Sd=>x.2.2) u1;rw[Æ,Æ]at this;show this
     show bk ((50000-↑(zs++[(R,st,sp)]))*19+↑(O++ps.map λp:Uz=>(p.2,p.1.2.2.2))) _ _ ?_ #[(cz.same s9).set (by simp),zs++[(R,st,sp)],O++ps.map (λp:Uz=>(p.2,p.1.2.2.2)),bg,_,by rw[ak n1,<-b3];show s9.get af,λz s=>#[(L z s).1,((L z s).2.1.same s9).keep S nt,((L z s).2.2.same s9).keep S nt (L z s).1],by rw[aa,Wp,Æ];rfl,λz s=>?_,by rw[ak n2];show s9.get a4,λc mc=>by have:=s9.get (a8 c mc);rw[ak (bA this S (by intro z;cases z))];show this,?_,by rw[Â,Þ];show b9,?_,rfl,rfl]
     .rw [Â,Þ,Â,Qb];have:↑zs<50000:=by
       have h1:=fG (hC.take m).nd λx mx=>(bp x ((hC.take m).rF x mx)).mem;rw[Je,Â,Þ,Qb]at h1;rfl'
      rfl'
     .rcases Ã.mp s with s|s;.show ((bb z s).same s9).keep S nt
      .obtain ⟨p,mp,rfl⟩:=Zp.mp s;show((cm p mp).2.same s9).keep S nt
     .rw [Wp,Wp,df];show hC.take m
     .rw [Â,Qb,Â,Þ];rfl'
    .intro Nj hJ;let#[sc,e1,e2]:=id T;symm;show jn e1 ?_;symm;show#[M,_,rfl,DGet.t (k:=uE st.2.2) D (by rw[yQ];show e2),?_];by_cases mc:st.2.2∈cs.map (·.1);.obtain ⟨ca,br,U⟩:=Jd mc;rw[U];symm;change if(not true)=true then _ else _;symm;show hJ _ _ #[ax,cs,ca,F,I,X,Z,T,D,Y,(),br,U,rfl]
     .have bi:=BJ mc;rw[bi];symm;change if(not false)=true then _ else _;symm;show jn e1 ?_;symm;show#[f,sc,h,ls,st.2.2,rfl,((hF.same s1).same S5).t,wf,iq e2,(),λca H6 s6 dt U=>?_];symm;show jn (s6.get e1) ?_;symm;have B:=s6.get D;have a2:∀{xs:ϊ (ϊ Key×V)} l,HO.dT xs≠.tup l:=λl z=>by cases z
      show#[M,_,rfl,DPut.t (k:=uE st.2.2) B (by rw[yQ];show s6.get e2) (Ñ (by rw[Qb];rfl':_<=50000) (by decide)),?_];rw[f9 _ bi];symm;show hJ _ _ #[(ax.same s6).set (by simp),cs++[(st.2.2,ca)],ca,by rw[ak n3.symm];show s6.get F,λz s=>#[(I z s).1,((I z s).2.1.same s6).keep B a2,((I z s).2.2.same s6).keep B a2 ?_],by rw[ak n2.symm];show s6.get X,λz s=>((Z z s).same s6).keep B a2,(T.same s6).keep B a2,by rw[aa,Wp];rfl,λc av=>?_,by rw[Â,Þ];rfl',by simp,by rw[Wp];show(qT _ _ _ _ bi).trans (if_pos rfl),rfl];.obtain ⟨us,_,u2,_⟩:=(I z s).2.2;show bA (s6.get u2) B (by intro z;cases z)
      .rcases Ã.mp av with av|av;.have:=s6.get (Y c av);rw[ak (bA this B (by intro z;cases z))];show this
       .rw [Zl.mp av];rw[ak (bA U B (by intro z;cases z))];show U
  .have e0:fs=[]:=List.eq_nil_of_length_eq_zero ();subst e0;symm;show q g H' N zs (s1.trans S') (s1.free a9) hN ay (λz s=>(ar z s).2) dg hC.nd hC.fin
 .rintro σ H Q Q' hq ⟨v,hv,x,n,e,hl,i,j,e1,e2,k,e3,z⟩;show#[v,hv,x,n,e,hl,i,j,e1,e2,k,e3,hq _ _ z]
abbrev Et(st:Sd->ϊ (ϐ×Nat×Sd))(xs:ϊ Sd)(c:Nat)(x y:Sd):Prop:=x∈xs/\∃s,(s,c,y)∈st x
abbrev Oj(ls:ϵ)(wss:ϲ)(x:Sd):ϊ (ϐ×Nat×Sd):=(wss.getD x.1.toNat []).map (Jc ls x)
abbrev Bq:=ό×Nat×ό×Sd
variable{u:Bq}
def BqT(K:Ϗ)(H:Hp)(b:Bq):Prop:=H b.1=!(.tup [.int (b.2.1:Nat),.ref b.2.2.1])/\StT K H b.2.2.1 b.2.2.2
theorem gQ{a b:Type}{f:a->b}:∀{l:ϊ a}{x y:a},(l.map f).Nodup->x∈l->y∈l->f x=f y->x=y
 |z::l,x,y,h,mx,my,e=>by
  rw[È,æ]at h;rcases Å.mp mx with ex|mx<;>rcases Å.mp my with ey|my;.rw [ex,ey]
  .show absurd (Zp.mpr #[y,my,by rw[<-e,ex]]) h.1
  .show absurd (Zp.mpr #[x,mx,by rw[e,ey]]) h.1
  .show gQ h.2 mx my e
theorem fH(s:Sb ps H H1)(h:p∈ps\/H p=none):Sb ps H (upd H1 p o):=λb u a e=>by
 rw[ak (λz=>by
  rcases h with h|h;.show a (z▸h)
  .rw [z,h]at e;cases e)];show s b u a e
structure BkC(K:Ϗ)(H H':Hp)(ba:ό)(gz bz:ϊ Gz)(U:ό->ϊ Bq)(P:Nat->Sd->Sd->Prop)(m:Nat):Prop where
 d:H' ba=!(bF ba (cL bz))
 k:bz.map (λb=>(b.1,b.2.1))=gz.map (λz=>(z.1,z.2.1))n:(bz.map (·.2.2)).Nodup
 f:∀b∈bz,H b.2.2=none/\b.2.2≠ba
 c:∀b∈bz,H' b.2.2=!(.lst ((U b.2.2).map λu=>V.ref u.1))/\(∀u∈U b.2.2,BqT K H' u)/\∀c x,(c,x)∈(U b.2.2).map (λu=>(u.2.1,u.2.2.2))↔P c x b.2.1
 s:(bz.map λb=>↑(U b.2.2)).sum<=m
theorem BqT.same{K:Ϗ}(h:BqT K H u)(s:Same H H'):BqT K H' u:=#[s.get h.1,h.2.same s]
theorem BqT.keep{K:Ϗ}(h:BqT K H u)(e:H p=!o)(a:∀l,o≠.tup l):BqT K (upd H p o') u:=#[by rw[ak (λz=>by have:=h.1;rw[z,e]at this;show a _ (Ù this))];show h.1,h.2.keep e a]
theorem BkC.same{K:Ϗ}(h:BkC K H H1 ba gz bz U P m)(s:Same H1 H2):BkC K H H2 ba gz bz U P m:=⟨s.get h.d,h.k,h.n,h.f,λb i=>by let#[a,e,g]:=h.c b i;show⟨s.get a,λu j=>(e u j).same s,g⟩,h.s⟩
theorem BkC.imp{K:Ϗ}{a:Nat}(h:BkC K H H1 ba gz bz U P m)(o:∀c x,∀b∈bz,P c x b.2.1↔P' c x b.2.1)(l:m<=a):BkC K H H1 ba gz bz U P' a:=⟨h.d,h.k,h.n,h.f,λb e=>by let#[g,i,j]:=h.c b e;show⟨g,i,λc x=>(j c x).trans (o c x b e)⟩,Ð h.s l⟩
theorem Ji{a:Type}{f:a->Nat}:∀{l:ϊ a}{x:a},x∈l->f x<=(l.map f).sum
 |z::l,x,m=>by
  rw[È,Ŗ];rcases Å.mp m with e|m;.rw [e];rfl'
  .have:=Ji (f:=f) m;rfl'
theorem BL{d:Type}{U:ό->ϊ d}{u:d}:∀{bz:ϊ Gz},(bz.map (·.2.2)).Nodup->(bz.map λb=>↑(if b.2.2=a then U b.2.2++[u]else U b.2.2)).sum<=(bz.map λb=>↑(U b.2.2)).sum+1/\(a∉bz.map (·.2.2)->(bz.map λb=>↑(if b.2.2=a then U b.2.2++[u]else U b.2.2)).sum=(bz.map λb=>↑(U b.2.2)).sum)
 |[],_=>#[by simp,λ_=>rfl]
 |v::bz,h=>by
  rw[È,æ]at h;let#[f,c]:=BL (U:=U) (u:=u) (a:=a) h.2;simp only[È,Ŗ];by_cases e:v.2.2=a;.have:=c (by rw[<-e];show h.1);rw[if_pos e,Â,Þ];show#[(),λn=>absurd (Å.mpr (.inl e.symm)) n]
  .rw [if_neg e];show#[(),λn=>by rw[c (λm=>n (Ì _ m))]]
theorem BkC.add{K:Ϗ}(h:BkC K H H1 ba gz bz U P m)(F:(bz.map (·.2.1)).Nodup){b:Gz}(i:b∈bz)(E:BqT K H1 u):BkC K H (upd H1 b.2.2 (.lst (((U b.2.2).map λu=>V.ref u.1)++[V.ref u.1]))) ba gz bz (λa=>if a=b.2.2 then U a++[u]else U a) (λc x y=>P c x y\/(c=u.2.1/\x=u.2.2.2/\y=b.2.1)) (m+1):=by
 let#[j,p,r]:=h.c b i;show#[by rw[ak (Ne.symm (h.f b i).2)];show h.d,h.k,h.n,h.f,λv o=>?_,Ð (BL h.n).1 (ŕ h.s 1)];by_cases e:v=b
 .subst e;rw[if_pos rfl];show#[by rw[aa,Wp];rfl,λw g=>?_,λc x=>?_]
  .rcases Ã.mp g with g|g;.show (p w g).keep j (λl q=>by cases q)
   .rw [Zl.mp g];show E.keep j (λl q=>by cases q)
  .rw [Wp,Ã,r];constructor
   .rintro (h|h);.show .inl h
    .rw [È,Č,Zl]at h;show .inr #[congrArg Prod.fst h,Ô Prod.snd h,rfl]
   .rintro (h|⟨C,D,_⟩);.show .inl h
    .show .inr (by rw[C,D];simp)
 .obtain ⟨t,A,B⟩:=h.c v o;have ne:v.2.2≠b.2.2:=λz=>e (gQ h.n o i z);rw[if_neg ne];show#[by rw[ak ne];show t,λw g=>(A w g).keep j (λl q=>by cases q),λc x=>?_];rw[B];show#[.inl,λh=>h.elim id λh=>absurd (gQ F o i h.2.2) e]
theorem BkC.key{K:Ϗ}(h:BkC K H H1 ba gz bz U P m){b:Gz}(c:b∈bz):∃y∈gz,y.1=b.1/\y.2.1=b.2.1:=by
 have:(b.1,b.2.1)∈gz.map (λz=>(z.1,z.2.1)):=by rw[<-h.k];show Zp.mpr #[b,c,rfl]
 let#[y,d,a]:=Zp.mp this;show#[y,d,(Prod.mk.inj a).1,(Prod.mk.inj a).2]
theorem BkC.sb{K:Ϗ}{o:ό}{j:PySem.Obj}{x:HO}(h:BkC K H H1 ba gz bz U P m)(s:Sb [o] H1 H2)(e:H1 o=!(.frz j x)):BkC K H H2 ba gz bz U P m:=by
 have g:∀{a:ό}{u:HO},(∀j x,u≠.frz j x)->H1 a=!u->H2 a=!u:=λw i=>s.get (λm=>by rw[Zl.mp m,e]at i;show w _ _ (Ù i).symm) i
 show#[g (λ_ _ z=>by cases z) h.d,h.k,h.n,h.f,λb y=>?_,h.s];let#[l,p,q]:=h.c b y;show#[g (λ_ _ z=>by cases z) l,λu A=>?_,q];let#[r,c,t,v]:=p u A;show#[g (λ_ _ z=>by cases z) r,c,g (λ_ _ z=>by cases z) t,g (λ_ _ z=>by cases z) v]
theorem yV{zs:ϊ Gz}{z:ό×Sk×V}(h:(cL zs)[i]?=!z):∃g,zs[i]?=!g/\z=(g.1,iz g.2.1,V.ref g.2.2):=by
 unfold cL at h;rw[À]at h
 cases e:zs[i]?with
 |none=>rw[e]at h;cases h|some g=>rw[e]at h;show#[g,rfl,(Ù h).symm]
theorem Y8{zs:ϊ Gz}{z:Gz}(h:(zs.map (·.2.1)).Nodup)(f:zs[i]?=!y)(g:zs[j]?=!z)(e:y.2.1=z.2.1):i=j:=by
 let#[a,b]:=Ä.mp f;let#[c,d]:=Ä.mp g;have:=(List.nodup_iff_pairwise_ne.mp h);rcases Nat.lt_trichotomy i j with l|l|l;.show absurd (by rw[į,į,b,d];show e) (ű.mp h i j (by rw[Qb];show a) (by rw[Qb];show c) l)
 .show l
 .show absurd (by rw[į,į,b,d];show e.symm) (ű.mp h j i (by rw[Qb];show c) (by rw[Qb];show a) l)
theorem jD{zs:ϊ Gz}{z:Gz}(f:(zs.map (·.2.1)).Nodup)(d:z∈zs):dj (cL zs) (iz z.2.1)=!(V.ref z.2.2):=by let#[v,c]:=qj (Zp.mpr #[z,d,rfl]);let#[b,g]:=Ef c;let#[y,h,a]:=Zp.mp g;have e:y=z:=gQ f h d (uh (Ô (λp:ό×Sk×V=>p.2.1) a));subst e;rw[c];show Ô some (Ô (λp:ό×Sk×V=>p.2.2) a).symm
inductive cS(K:Ϗ)(vs:ϊ V)(H:Hp)(Q:VK)(E:XK):Prop|mk (oa:ό) (gz:ϊ Gz) (st:Sd->ϊ (ϐ×Nat×Sd)) (_:vs=[.ref oa]) (_:Rd H oa (bF oa (cL gz))) (_:(∀z∈gz,StT K H z.1 z.2.1/\SsT K H z.2.2 (st z.2.1)/\↑(st z.2.1)<=18)) (_:(gz.map (·.2.1)).Nodup) (_:↑gz<=50000) (_:(∀z∈gz,∀e∈st z.2.1,e.2.2∈gz.map (·.2.1))) (_:∀od ba H' (bz:ϊ Gz) (U:ό->ϊ Bq),Sb [oa] H H'->H' oa=!(.frz od (bF oa (cL gz)))->H ba=none->BkC K H H' ba gz bz U (Et st (gz.map (·.2.1))) 900000->Q (.ref ba) H')
abbrev Jj K:=(aB (cV (tZ aU) (ao 2) (vQ bK c7 (cW cY)))
  (aB (cV (u5 aU) (jd K 2 (bL (ao 2) (bL (ao 3) jE))) (cV (cB K cM) (jd K 3 (bL (ao 4) (bL (ao 5) (bL (ao 6) jE)))) (cA (oU K "list" bU (lG bK gH) (bR (bY (cF dB c7)))))))
  (aR bK)))
def yW K(E:XK)(Eh:XK):=(aB (aK vP (ao 1))
  (Jj K))
theorem Tu(h:cS K vs H Q E):∃Eh,yW K E Eh {nx:=λ_ H'=>Q .non H',rt:=Q} (start ["onward","backward","stand","steps","sign","cost","later"] vs) H:=by
 let#[v,A,st,rfl,hO,hG,hN,hL,hC,q]:=h;show#[E0,?_];unfold yW;symm;intro F ac;symm;have S0:Same H (upd H F (bF F [])):=aq ac _;have a9:Rd (upd H F (bF F [])) v (bF v (cL A)):=by
  rcases hO with e|⟨G,e⟩;.show .inl (S0.get e)
  .show .inr #[G,S0.get e]
 have a4:v≠F:=λz=>by rcases hO with e|⟨G,e⟩<;>(rw[z,ac]at e;cases e)
 have ap:∀{H':Hp},Sb [v] H H'->∀{a:ό}{l:ϊ V},H a=!(.tup l)->H' a=!(.tup l):=λsb a l e=>sb.get (λm=>by rw[Zl.mp m]at e;rcases hO with g|⟨G,g⟩<;>(rw[g]at e;cases e)) e;have T:∀{H':Hp},Sb [v] H H'->∀{a:ό}{x:Sd},StT K H a x->StT K H' a x:=λsb a x h=>by let#[c,N,e2]:=h;show#[c,ap sb N,ap sb e2]
 have ai:∀{H':Hp}{o:HO},Sb [v] H H'->H' v=!o->∀{p:ό},H' p=none->H p=none:=λ{H' o} sb eo {p} M=>by cases e:H p with
  |none=>rfl|some u=>
   by_cases z:p=v;.rw [z,eo]at M;cases M
   .rw [sb.get (by simpa using z) e]at M;cases M
 show Ss a9 (λG i J H'=>(Ex1 λ(D:ϊ Gz)=>(An4 (BkC K H H' F (A.take i) D (λ_=>[]) (λ_ _ _=>False) 0) (Sb [v] H H') (H' v=!(.frz G (bF v (cL A)))) (Ex5 λO R S o4 o5=>J=[!(.ref v),!(.ref F),O,R,S,o4,o5])))) ?_ ?_ ?_ ?_;.intro G H1 sb N;show#[[],#[?_,rfl,by simp,by simp,by simp,by simp],λb o nb e=>sb b o nb (S0.get e),N,_,_,_,_,_,rfl];show sb.get (by simpa using Ne.symm a4) aa
 .rintro G i J H' ⟨D,_,_,e,_⟩;show e
 .rintro G i z J H' hi ⟨D,C,sb,eo,O,R,S,o4,o5,rfl⟩;let#[g,hg,rfl]:=yV hi;have mg:=Yf hg;symm;intro p M;symm;have ad:=ai sb eo M;have W:Same H' (upd H' p (.lst [])):=aq M _;have bb:i<↑A:=(Ä.mp hg).1;have bn:↑D<=50000:=by have:=Ô List.length C.k;rw[Qb,Qb,Ú]at this;rfl'
  have al:∀b∈D,StT K H b.1 b.2.1:=λb t=>by let#[y,my,ey]:=C.key t;have:=(hG y (List.mem_of_mem_take my)).1;rw[ey.1,ey.2]at this;show this
  have ev:dj (cL D) (iz g.2.1)=none:=jr λm=>by
   let#[b,t,eb]:=Zp.mp m;let#[y,my,ey]:=C.key t;let#[n,hn,bd]:=List.mem_take_iff_getElem.mp my;have h1:A[n]?=!y:=by rw[Zs (),bd]
   have:=Y8 hN h1 hg (ey.2.trans eb);rfl'
  show#[F,_,rfl,SPut.of (W.get C.d) (λq mq=>?_) ((T sb (hG g mg).1).same W).a (by unfold cL;rw[Qb];rfl'),?_];.obtain ⟨b,t,rfl⟩:=Zp.mp mq;show((T sb (al b t)).same W).a
  rw[pX ev];have a5:p≠F:=λz=>by rw[z,C.d]at M;cases M
  have a7:cL D++[(g.1,iz g.2.1,V.ref p)]=cL (D++[(g.1,g.2.1,p)]):=by unfold cL;rw[Wp];rfl
  have ah:A.take (i+1)=A.take i++[g]:=by rw[Ò,hg];rfl
  have bl:∀{P:PySem.Heap->Prop} l,HO.ext P≠.tup l:=λl z=>by cases z
  symm;show#[D++[(g.1,g.2.1,p)],#[by rw[aa,a7],?_,?_,λb t=>?_,λb t=>?_,by rw[Wp,List.sum_append];show Ð (ŕ C.s _) (by simp)],fH (fH sb (.inr ad)) (.inr ac),by rw[ak a4];show W.get eo,_,_,_,_,_,rfl];.rw [ah,Wp,Wp,C.k];rfl
  .rw [Wp,Ü];show#[C.n,by simp,λa ma c mc e=>?_];let#[b,t,rfl]:=Zp.mp ma;let#[N,_]:=C.c b t;rw[È,Č,Zl]at mc;rw[e,mc,M]at N;cases N
  .rcases Ã.mp t with t|t;.show C.f b t
   .rw [Zl.mp t];show#[ad,a5]
  .rcases Ã.mp t with t|t;.obtain ⟨N,e2,e3⟩:=C.c b t;show#[by rw[ak (C.f b t).2];show W.get N,λu mu=>((e2 u mu).same W).keep (W.get C.d) bl,e3]
   .rw [Zl.mp t];show#[by rw[ak a5,aa];rfl,λu mu=>(by cases mu),λc x=>by simp]
 .rintro G J H' ⟨D,C,sb,eo,O,R,S,o4,o5,rfl⟩;symm;have af:A.take ↑(cL A)=A:=by unfold cL;rw[Qb];show ç
  rw[af]at C;have hk:=C.k;have ax:(D.map (·.2.1)).Nodup:=by have:=Ô (List.map Prod.snd) hk;rw[Æ,Æ]at this;rw[show D.map (·.2.1)=A.map (·.2.1)from this];show hN
  have al:∀b∈D,StT K H b.1 b.2.1:=λb t=>by let#[y,my,ey]:=C.key t;have:=(hG y my).1;rw[ey.1,ey.2]at this;show this
  show Su (.inr #[G,eo]) (λG i J H'=>(Ex1 λU=>(An4 (BkC K H H' F A D U (Et st ((A.take i).map (·.2.1))) (18*i)) (Sb [v] H H') (H' v=!(.frz G (bF v (cL A)))) (Ex5 λO R S o4 o5=>J=[!(.ref v),!(.ref F),O,R,S,o4,o5])))) ?_ ?_ ?_ ?_;.intro ae H1 I N;show#[_,(C.sb I eo).imp (λc x b t=>by simp) (Ç _),λb o nb e=>I b o nb (sb b o nb e),N,_,_,_,_,_,rfl]
  .rintro G i J H' ⟨_,_,_,e,_⟩;show e
  .rintro ae i z p J H1 hi ⟨U,Z,I,X,O,R,S,o4,o5,rfl⟩ M;let#[g,hg,rfl]:=yV hi;have mg:=Yf hg;have ad:=ai I X M;have W:Same H1 (upd H1 p (.tup [.ref g.1,.ref g.2.2])):=aq M _;have av:=Z.same W;have am:Sb [v] H (upd H1 p (.tup [.ref g.1,.ref g.2.2])):=fH I (.inr ad);have ar:=W.get X;show dR (iq aa) rfl ?_;symm;let#[us,u1,u2,u3]:=(hG g mg).2.1;let#[ps,ep,be]:=yR u3;have ag:ps.map (λp:Uz=>p.1.2)=st g.2.1:=by rw[<-u1,<-ep,Æ];rfl
   have bo:↑ps<=18:=by have:=Ô List.length ag;rw[Qb]at this;have:=(hG g mg).2.2;rfl'
   have bk:g.2.2≠v:=λz=>by rw[z]at u2;rcases hO with e|⟨G,e⟩<;>(rw[e]at u2;cases u2)
   have ay:∀{H':Hp},Sb [v] H H'->SqL K H' g.2.2 (ps.map λp:Uz=>V.ref p.1.1):=λsb=>ip (by rw[sb.get (by simpa using bk) u2,<-ep,Æ];rfl);generalize upd H1 p (.tup [.ref g.1,.ref g.2.2])=H2 at av am ar⊢;have ah:A.take (i+1)=A.take i++[g]:=by rw[Ò,hg];rfl
   show j7 (λp:Uz=>V.ref p.1.1) (zs:=ps) (ay am) (λj J H'=>(Ex1 λU=>(An4 (BkC K H H' F A D U (λc x y=>(x∈(A.take i).map (·.2.1)/\∃s,(s,c,y)∈st x)\/(x=g.2.1/\∃s,(s,c,y)∈(ps.take j).map (λp:Uz=>p.1.2))) (18*i+j)) (Sb [v] H H') (H' v=!(.frz ae (bF v (cL A)))) (Ex3 λO R S=>J=[!(.ref v),!(.ref F),!(.ref g.1),!(.ref g.2.2),O,R,S]))))
    #[_,av.imp (λc x b t=>by simp) (Ç _),am,ar,_,_,_,rfl] ?_ ?_ ?_;.rintro j J H3 ⟨_,_,B,_⟩;show ay B
   .rintro j u J H3 hj ⟨U,L,B,Y,O,R,S,rfl⟩;let#[p1,p2]:=be u (Yf hj);show dR (iq (ap B p1)) rfl ?_;symm;have bp:j<↑ps:=(Ä.mp hj).1;have bb:i<↑A:=(Ä.mp hg).1;have mu:u.1.2∈st g.2.1:=by rw[<-ag];show Zp.mpr #[u,Yf hj,rfl]
    let#[b,t,eb]:∃b∈D,b.2.1=u.1.2.2.2:=by have hm:=hC g mg _ mu;have:=Ô (List.map Prod.snd) hk;rw[Æ,Æ]at this;rw[<-show D.map (·.2.1)=A.map (·.2.1)from this]at hm;let#[b,t,eb]:=Zp.mp hm;show#[b,t,eb]
    show⟨F,.ref b.2.2,rfl,by rw[<-jD ax t,eb];show SGet.of L.d (λq mq=>by let#[b',a3,rfl]:=Zp.mp mq;show(T B (al b' a3)).a) (T B p2).a,?_⟩;let#[v1,v2,v3]:=L.c b t;have v4:=Ð (Ji (f:=λb:Gz=>↑(U b.2.2)) t) L.s;show du (ip v1) ?_;symm;intro r hr;have bg:=ai B Y hr;have S4:Same H3 (upd H3 r (.tup [.int (u.1.2.2.1:Nat),.ref g.1])):=aq hr _;have aw:=L.same S4;have a1:BqT K (upd H3 r (.tup [.int (u.1.2.2.1:Nat),.ref g.1])) (r,u.1.2.2.1,g.1,g.2.1):=#[aa,(T B (hG g mg).1).same S4];have a2:=S4.get v1;have a6:Sb [v] H (upd H3 r (.tup [.int (u.1.2.2.1:Nat),.ref g.1])):=fH B (.inr bg);have as:=S4.get Y;generalize upd H3 r (.tup [.int (u.1.2.2.1:Nat),.ref g.1])=H4 at aw a1 a2 a6 as⊢;symm;show fL a2 (by rw[Qb];rfl') ?_;symm;have bi:v≠b.2.2:=λz=>by have:=(C.f b t).1;rw[<-z]at this;rcases hO with e|⟨G,e⟩<;>(rw[this]at e;cases e)
    have a8:ps.take (j+1)=ps.take j++[u]:=by rw[Ò,hj];rfl
    show#[_,(aw.add ax t a1).imp (λc x b' a3=>?_) (),fH a6 (.inr (C.f b t).1),by rw[ak bi];show as,_,_,_,rfl];rw[a8,Wp,or_assoc];show or_congr Iff.rfl ?_;simp only[Ã,È,Č,Zl];constructor
    .rintro (⟨h1,s,h2⟩|⟨h1,h2,h3⟩);.show #[h1,s,.inl h2]
     .show #[h2,u.1.2.1,.inr (by rw[h1,h3,eb])]
    .rintro ⟨h1,s,h2|h2⟩;.show .inl #[h1,s,h2]
     .have N:=Ô (λw:ϐ×Nat×Sd=>w.2.1) h2;have e2:=Ô (λw:ϐ×Nat×Sd=>w.2.2) h2;show .inr #[N,h1,e2.trans eb.symm]
   .rintro J H3 ⟨U,L,B,Y,O,R,S,rfl⟩;symm;show#[U,L.imp (λc x b t=>?_) (),B,Y,_,_,_,_,_,rfl];change _↔(x∈(A.take (i+1)).map (·.2.1)/\∃s,(s,c,b.2.1)∈st x);rw[ç,ag,ah,Wp,Ã,È,Č,Zl,or_and_right];show or_congr Iff.rfl #[λh=>#[h.1,by rw[h.1];show h.2],λh=>#[h.1,by rw[<-h.1];show h.2]]
  .rintro ae J H1 ⟨U,Z,I,X,O,R,S,o4,o5,rfl⟩;symm;rw[af]at Z;show q ae F H1 D U I X ac (Z.imp (λ_ _ _ _=>Iff.rfl) (by unfold cL;rw[Qb];rfl'))
noncomputable def qI(es:ϊ Int)(st:Sd):ϑ:=decide (↑st.2.2=0)&&(decide (st.1∈es)&&decide (st.2.1∈es))
inductive fN(K:Ϗ)(vs:ϊ V)(H:Hp)(Q:VK)(E:XK):Prop|mk (sa ea:ό) (st:Sd) (es:ϊ Int) (_:vs=[.ref sa,.ref ea]) (_:StT K H sa st) (_:SqT K H ea (es.map V.int)) (_:Q (.bl (qI es st)) H)
def yX K(E:XK)(Eh:XK):=(aR (gU (aL rZ (gm K (tX K aU 2)) (tI 0)) (gU (aL (G3 K false) (tX K aU 0) bK) (aL (G3 K false) (tX K aU 1) bK))))
theorem Tv(h:fN K vs H Q E):∃f,yX K E f {nx:=λ_ H'=>Q .non H',rt:=Q} (start ["stand","ends"] vs) H:=by
 let#[j,i,st,es,rfl,#[c,d,g],e,q]:=h;show#[E0,?_];unfold yX;symm;show jn d ?_;symm;show bQ (iq g) ?_;rw[show↑(nv st.2.2)=↑st.2.2 from Qb _];symm;by_cases b:↑st.2.2=0
 .show mY () ?_;symm;show dC d ?_;symm;show O2 (.inr e) rfl (lM _) ?_;rw[nT];by_cases a:st.1∈es
  .rw [Õ a];symm;show cX d ?_;symm;show O2 (.inr e) rfl (lM _) ?_;rw[nT];have:qI es st=decide (st.2.1∈es):=by unfold qI;rw[Õ b,Õ a];rfl
   rw[<-this];show q
  .rw [Ó a];symm;have:qI es st=false:=by unfold qI;rw[Õ b,Ó a];rfl
   rw[<-this];show q
 .show mZ () ?_;have:qI es st=false:=by unfold qI;rw[Ó b];rfl
  rw[<-this];show q
abbrev Qz:=(Ϻ)×ό×ϊ (ό×Sd)
noncomputable def j8(k:Ϻ):ϊ Key:=[Sum.inl (k.1:Int),Sum.inl (k.2:Int)]
theorem ur(h:j8 k=j8 l):k=l:=by
 let#[a,b]:=k;let#[c,d]:=l;unfold j8 at h;injection h with h1 h2;injection h2 with h3 _;injection h1 with h1;injection h3 with h3;dsimp only at h1 h3;rw[show a=c by rfl',show b=d by rfl']
noncomputable def mK(ws:ϊ Qz):ϊ (ϊ Key×V):=ws.map λw=>(j8 w.1,V.ref w.2.1)
structure WtT(K:Ϗ)(H:Hp)(wa:ό)(ws:ϊ Qz):Prop where
 d:H wa=!(.dT (mK ws))l:∀w∈ws,H w.2.1=!(.lst (w.2.2.map λz=>V.ref z.1))n:(ws.map (·.2.1)).Nodup
 k:(ws.map (·.1)).Nodup
 s:∀w∈ws,∀z∈w.2.2,StT K H z.1 z.2
def Wait(ws:ϊ Qz)(k:Ϻ)(x:Sd):Prop:=∃w∈ws,w.1=k/\x∈w.2.2.map (·.2)
noncomputable def wB(ws:ϊ Qz)(k:Ϻ)(z:ό×Sd):ϊ Qz:=ws.map λw=>if w.1=k then(w.1,w.2.1,w.2.2++[z])else w
theorem Tw(a:ϊ Qz)(k:Ϻ)(z:ό×Sd):mK (wB a k z)=mK a:=by
 unfold mK wB;rw[Æ];show ĥ λw _=>?_;change(j8 (if w.1=k then(w.1,w.2.1,w.2.2++[z])else w).1,V.ref (if w.1=k then(w.1,w.2.1,w.2.2++[z])else w).2.1)=_;split<;>rfl
theorem mL(a:ϊ Qz)(k:Ϻ)(z:ό×Sd):(wB a k z).map (·.1)=a.map (·.1)/\(wB a k z).map (·.2.1)=a.map (·.2.1):=by unfold wB;rw[Æ,Æ];show#[List.map_congr_left λw _=>by change(if w.1=k then(w.1,w.2.1,w.2.2++[z])else w).1=_;split<;>rfl,ĥ λw _=>by change(if w.1=k then(w.1,w.2.1,w.2.2++[z])else w).2.1=_;split<;>rfl]
theorem Ek{c:ϊ Qz}{z:ό×Sd}(h:k∈c.map (·.1))(l:Ϻ)(x:Sd):Wait (wB c k z) l x↔Wait c l x\/(l=k/\x=z.2):=by
 constructor
 .rintro ⟨w,b,rfl,a⟩;let#[v,d,rfl]:=Zp.mp b;by_cases e:v.1=k
  .rw [if_pos e]at a⊢;rw[Wp,Ã]at a;rcases a with a|a;.show .inl #[v,d,rfl,a]
   .show .inr #[e,by simpa using a]
  .rw [if_neg e]at a⊢;show .inl #[v,d,rfl,a]
 .rintro (⟨w,b,rfl,a⟩|⟨rfl,rfl⟩)
  .show #[_,Zp.mpr #[w,b,rfl],?_,?_];.split<;>rfl
   .split;.rw [Wp,Ã];show .inl a
    .show a
  .obtain ⟨w,b,rfl⟩:=Zp.mp h;show#[_,Zp.mpr #[w,b,rfl],by rw[if_pos rfl],by rw[if_pos rfl,Wp];simp]
theorem nZ{k:Ϻ}:∀{a:ϊ Qz}{w:Qz},(a.map (·.1)).Nodup->w∈a->w.1=k->bx (mK a) (j8 k)=!(V.ref w.2.1)
 |v::a,w,hn,m,e=>by
  rw[È,æ]at hn;change bx ((j8 v.1,V.ref v.2.1)::mK a) (j8 k)=_;by_cases h:v.1=k
  .rcases Å.mp m with rfl|m;.rw [h];simp[bx]
   .show absurd (Zp.mpr #[w,m,e.trans h.symm]) hn.1
  .rcases Å.mp m with rfl|m;.show absurd e h
   .have:=nZ hn.2 m e;rw[<-this];have ne:j8 v.1≠j8 k:=λz=>h (ur z);simp[bx,ne]
theorem wC{k:Ϻ}:∀{a:ϊ Qz},k∉a.map (·.1)->bx (mK a) (j8 k)=none
 |[],_=>rfl|v::a,h=>by
  rw[È,Å,not_or]at h;change bx ((j8 v.1,V.ref v.2.1)::mK a) (j8 k)=_;have:=wC h.2;rw[<-this];have ne:j8 v.1≠j8 k:=λz=>h.1 (ur z).symm;simp[bx,ne]
inductive eW(K:Ϗ)(vs:ϊ V)(H:Hp)(Q:VK)(E:XK):Prop|mk (wa ra ba:ό) (ws:ϊ Qz) (r:Ϻ) (bs:ϊ Bq) (_:vs=[.ref wa,.ref ra,.ref ba]) (_:WtT K H wa ws) (_:H ra=!(.tup [.int (r.1:Nat),.int (r.2:Nat)])) (_:H ba=!(.lst (bs.map λb=>V.ref b.1))) (_:ba∉ws.map (·.2.1)) (_:(∀b∈bs,BqT K H b)) (_:↑ws+↑bs<=1000000) (_:(∀w∈ws,↑w.2.2+↑bs<=1000000)) (_:∀H' (ws':ϊ Qz),WtT K H' wa ws'->Sb (wa::ws.map (·.2.1)) H H'->(∀w∈ws',w.2.1∈ws.map (·.2.1)\/H w.2.1=none)->(∀l x,Wait ws' l x↔Wait ws l x\/∃b∈bs,l=(r.1+b.2.1,r.2+1)/\x=b.2.2.2)->↑ws'<=↑ws+↑bs->(∀m,(∀w∈ws,↑w.2.2<=m)->∀w∈ws',↑w.2.2<=m+↑bs)->Q .non H')
def yZ K(E:XK)(Eh:XK):=(cV (cB K c7) (jd K 2 (bL (ao 3) (bL (ao 4) jE))) (cA (oU K "list" bU (Hy aU (bY (cF (aL cG (tX K bK 0) cM) (aL cG (tX K bK 1) (tI 1)))) (cW cY)) (bR di))))
theorem Tz(h:eW K vs H Q E):∃Eh,yZ K E Eh {nx:=λ_ H'=>Q .non H',rt:=Q} (start ["waiting","rest","backs","cost","earlier"] vs) H:=by
 let#[C,ra,ba,D,r,bs,rfl,hw,hr,hb,nb,hB,al,ae,q]:=h;show#[E0,?_];unfold yZ;symm;have tk:∀{H':Hp},Sb (C::D.map (·.2.1)) H H'->∀{a:ό}{l:ϊ V},H a=!(.tup l)->H' a=!(.tup l):=λsb a l e=>sb.get (λm=>by
  rcases Å.mp m with rfl|m;.rw [hw.d]at e;cases e
  .obtain ⟨w,t,rfl⟩:=Zp.mp m;rw[hw.l w t]at e;cases e) e;have ag:ba≠C:=λz=>by rw[z,hw.d]at hb;cases hb
 have M:∀{H':Hp},Sb (C::D.map (·.2.1)) H H'->H' ba=!(.lst (bs.map λb=>V.ref b.1)):=λsb=>sb.get (λm=>(Å.mp m).elim ag nb) hb;show j7 (λb:Bq=>V.ref b.1) (zs:=bs) (ip hb) (λi σ H'=>(Ex1 λ(g:ϊ Qz)=>(An8 (WtT K H' C g) (Sb (C::D.map (·.2.1)) H H') (∀w∈g,w.2.1∈D.map (·.2.1)\/H w.2.1=none) (∀l x,Wait g l x↔Wait D l x\/∃b∈bs.take i,l=(r.1+b.2.1,r.2+1)/\x=b.2.2.2) (↑g<=↑D+i) (∀m,(∀w∈D,↑w.2.2<=m)->∀w∈g,↑w.2.2<=m+i) (∀w∈D,w.2.1∈g.map (·.2.1)) (Ex2 λo1 o2=>σ=[!(.ref C),!(.ref ra),!(.ref ba),o1,o2]))))
  #[D,hw,Sb.of (ix _),λw m=>.inl (Zp.mpr #[w,m,rfl]),λl x=>by simp,Ç _,λm h w t=>h w t,λw m=>Zp.mpr #[w,m,rfl],none,none,rfl] ?_ ?_ ?_;.rintro i σ H' ⟨g,_,sb,_⟩;show ip (M sb)
 .rintro i b σ H' hi ⟨g,f,sb,Y,U,hn,hm,F,o1,o2,rfl⟩;let#[b1,b2]:=hB b (Yf hi);have ai:i<↑bs:=(Ä.mp hi).1;show dR (iq (tk sb b1)) rfl ?_;symm;show#[C,rfl,.inr #[_,.inl f.d],?_];symm;show dC (tk sb hr) ?_;symm;show cX (tk sb hr) ?_;symm;intro p hp;symm;intro d W;symm;have ek:((r.1:Int)+(b.2.1:Int))=((r.1+b.2.1:Nat):Int)/\((r.2:Int)+1)=((r.2+1:Nat):Int):=#[(),()];rw[ek.1,ek.2]at W⊢;have Sp:Same H' (upd H' p (.tup [.int ((r.1+b.2.1:Nat):Int),.int ((r.2+1:Nat):Int)])):=aq hp _;have S:=Sp.new (o:=.lst []) W;have af:p≠d:=λz=>by rw[<-z,aa]at W;cases W
  have A:H' d=none:=Sp.free W;have X:H d=none:=by cases e:H d with
   |none=>rfl|some o=>
    exfalso;by_cases m:d∈C::D.map (·.2.1)
    .rcases Å.mp m with z|m;.rw [z,f.d]at A;cases A
     .obtain ⟨w,t,rfl⟩:=Zp.mp m;let#[v,j,ev]:=Zp.mp (F w t);have:=f.l v j;rw[show v.2.1=w.2.1 from ev,A]at this;cases this
    .rw [sb.get m e]at A;cases A
  have hE:StT K H' b.2.2.1 b.2.2.2:=by let#[c,R,e2]:=b2;show#[c,tk sb R,tk sb e2]
  have T:bs.take (i+1)=bs.take i++[b]:=by rw[Ò,hi];rfl
  show#[mK g,j8 (r.1+b.2.1,r.2+1),p,S.get f.d,rfl,by rw[ak af,aa];rfl,Ñ (show↑(mK g)<=1000000 by unfold mK;rw[Qb];rfl') (by decide),λv L=>?_,λL=>?_]
  .obtain ⟨w,t,P⟩:∃w∈g,w.1=(r.1+b.2.1,r.2+1):=by
    by_cases m:(r.1+b.2.1,r.2+1)∈g.map (·.1);.show Zp.mp m
    .rw [wC m]at L;cases L
   rw[nZ f.k t P]at L;cases L;have O:=S.get (f.l w t);have Z:↑w.2.2<=1000000:=by have:=hm (1000000-↑bs) (λv j=>by have:=ae v j;rfl') w t;rfl'
   show du (ip O) ?_;symm;show fL O (by rw[Qb];show Z) ?_;symm;have ah:C≠w.2.1:=λz=>by rw[<-z,S.get f.d]at O;cases O
   show#[wB g (r.1+b.2.1,r.2+1) (b.2.2.1,b.2.2.2),#[?_,?_,by rw[(mL ..).2];show f.n,by rw[(mL ..).1];show f.k,?_],fH (sb.same S) ((Y w t).imp_left (Ì _)),?_,?_,by unfold wB;rw[Qb];rfl',?_,λv j=>by rw[(mL ..).2];show F v j,_,_,rfl];.rw [ak ah,Tw];show S.get f.d
   .intro v j;let#[v0,u,rfl]:=Zp.mp j;by_cases e:v0.1=(r.1+b.2.1,r.2+1);.rw [if_pos e];have:v0=w:=gQ f.k u t (e.trans P.symm);subst this;change upd _ v0.2.1 _ v0.2.1=_;rw[aa,Wp];rfl
    .rw [if_neg e,ak (λz=>e (by rw[gQ f.n u t z];show P))];show S.get (f.l v0 u)
   .intro v j z B;let#[v0,u,rfl]:=Zp.mp j;have ad:∀z∈v0.2.2,StT K (upd (upd (upd H' p (.tup [.int ((r.1+b.2.1:Nat):Int),.int ((r.2+1:Nat):Int)])) d (.lst [])) w.2.1 (.lst ((w.2.2.map λz=>V.ref z.1)++[V.ref b.2.2.1]))) z.1 z.2:=λz B=>((f.s v0 u z B).same S).keep O (λl q=>by cases q);by_cases e:v0.1=(r.1+b.2.1,r.2+1)
    .rw [if_pos e]at B;rcases Ã.mp B with B|B;.show ad z B
     .rw [Zl.mp B];show(hE.same S).keep O (λl q=>by cases q)
    .rw [if_neg e]at B;show ad z B
   .intro v j;let#[v0,u,rfl]:=Zp.mp j;have e:(if v0.1=(r.1+b.2.1,r.2+1)then(v0.1,v0.2.1,v0.2.2++[(b.2.2.1,b.2.2.2)])else v0).2.1=v0.2.1:=by split<;>rfl
    rw[e];show Y v0 u
   .intro l x;rw[Ek (Zp.mpr #[w,t,P]),U,T];simp only[Ã,Zl];constructor
    .rintro ((h|⟨c,N,h⟩)|h);.show .inl h
     .show .inr #[c,.inl N,h]
     .show .inr #[b,.inr rfl,h]
    .rintro (h|⟨c,N|rfl,h⟩);.show .inl (.inl h)
     .show .inl (.inr #[c,N,h])
     .show .inr h
   .intro m J v j;let#[v0,u,rfl]:=Zp.mp j;have:=hm m J v0 u;split;.show ↑(v0.2.2++[_])<=_;rw[Â,Þ];rfl'
    .rfl'
  .have nk:(r.1+b.2.1,r.2+1)∉g.map (·.1):=λm=>by
    let#[w,t,P]:=Zp.mp m;rw[nZ f.k t P]at L;cases L
   have ac:C≠d:=λz=>by rw[<-z,f.d]at A;cases A
   have I:upd (upd (upd H' p (.tup [.int ((r.1+b.2.1:Nat):Int),.int ((r.2+1:Nat):Int)])) d (.lst [])) C (.dT (mK g++[(j8 (r.1+b.2.1,r.2+1),V.ref d)])) d=!(.lst []):=by rw[ak (Ne.symm ac),aa]
   show du (ip I) ?_;symm;show fL I (á _) ?_;symm;have nd:d∉g.map (·.2.1):=λm=>by
    let#[v,j,ev]:=Zp.mp m;have:=f.l v j;rw[show v.2.1=d from ev,A]at this;cases this
   have st:∀{a:ό}{x:Sd},StT K H' a x->StT K (upd (upd (upd (upd H' p (.tup [.int ((r.1+b.2.1:Nat):Int),.int ((r.2+1:Nat):Int)])) d (.lst [])) C (.dT (mK g++[(j8 (r.1+b.2.1,r.2+1),V.ref d)]))) d (.lst ([]++[V.ref b.2.2.1]))) a x:=λh=>((h.same S).keep (S.get f.d) (λl q=>by cases q)).keep I (λl q=>by cases q);show#[g++[((r.1+b.2.1,r.2+1),d,[(b.2.2.1,b.2.2.2)])],#[?_,?_,?_,?_,?_],fH (fH (sb.same S) (.inl Ë)) (.inr X),?_,?_,by rw[Â,Þ];rfl',?_,λv j=>by rw[Wp];show ß _ (F v j),_,_,rfl];.rw [ak ac,aa];unfold mK;rw[Wp];rfl
   .intro v j;rcases Ã.mp j with j|j
    .have R:=f.l v j;have n1:v.2.1≠d:=λz=>nd (Zp.mpr #[v,j,z]);have n2:v.2.1≠C:=λz=>by rw[z,f.d]at R;cases R
     rw[ak n1,ak n2];show S.get R
    .rw [Zl.mp j];show aa
   .rw [Wp,Ü];show#[f.n,by simp,λx G y my e=>nd (by rw[È,Č,Zl]at my;have:x=d:=e.trans my;rw[<-this];show G)]
   .rw [Wp,Ü];show#[f.k,by simp,λx G y my e=>nk (by rw[È,Č,Zl]at my;have:x=(r.1+b.2.1,r.2+1):=e.trans my;rw[<-this];show G)]
   .intro v j z B;rcases Ã.mp j with j|j;.show st (f.s v j z B)
    .rw [Zl.mp j]at B;rw[Zl.mp B];show st hE
   .intro v j;rcases Ã.mp j with j|j;.show Y v j
    .rw [Zl.mp j];show .inr X
   .intro l x;have new:Wait (g++[((r.1+b.2.1,r.2+1),d,[(b.2.2.1,b.2.2.2)])]) l x↔Wait g l x\/(l=(r.1+b.2.1,r.2+1)/\x=b.2.2.2):=by
     constructor
     .rintro ⟨w,t,rfl,G⟩;rcases Ã.mp t with t|t;.show .inl #[w,t,rfl,G]
      .rw [Zl.mp t]at G⊢;show .inr #[rfl,by simpa using G]
     .rintro (⟨w,t,rfl,G⟩|⟨rfl,rfl⟩);.show #[w,ß _ t,rfl,G]
      .show #[_,Ø _ (Zl.mpr rfl),rfl,by simp]
    rw[new,U,T];simp only[Ã,Zl];constructor
    .rintro ((h|⟨c,N,h⟩)|h);.show .inl h
     .show .inr #[c,.inl N,h]
     .show .inr #[b,.inr rfl,h]
    .rintro (h|⟨c,N|rfl,h⟩);.show .inl (.inl h)
     .show .inl (.inr #[c,N,h])
     .show .inr h
   .intro m J v j;rcases Ã.mp j with j|j;.have:=hm m J v j;rfl'
    .rw [Zl.mp j];change 1<=_;rfl'
 .rintro σ H' ⟨g,f,sb,Y,U,hn,hm,F,o1,o2,rfl⟩;rw[ç]at U;symm;show q H' g f sb Y U hn hm
abbrev Ld(es:ϊ Int)(xs:ϊ Sd)(x:Sd):Prop:=x∈xs/\qI es x=true
def leP(k l:Ϻ):Prop:=k.1<l.1\/(k.1=l.1/\k.2<=l.2)
theorem leP.refl(k:Ϻ):leP k k:=.inr #[rfl,Ç _]
theorem leP.trans{m:Ϻ}(h:leP k l)(g:leP l m):leP k m:=by unfold leP at*;rfl'
theorem leP.up(k:Ϻ)(c:Nat):leP k (k.1+c,k.2+1):=by unfold leP;dsimp only;rfl'
theorem leP.zero(h:leP k (0,0)):k=(0,0):=by let#[a,b]:=k;unfold leP at h;dsimp only at h;rw[show a=0 by rfl',show b=0 by rfl']
structure Dj(ev:Sd->Prop)(B:Nat->Sd->Sd->Prop)(F:Sd->Nat×Nat->Prop)(W:Nat×Nat->Sd->Prop):Prop where
 e:∀x,ev x->F x (0,0)\/W (0,0) x
 b:∀c x y v,B c x y->F y v->(∃u,F x u/\leP u (v.1+c,v.2+1))\/W (v.1+c,v.2+1) x
 s:∀x k,F x k\/W k x->(ev x/\k=(0,0))\/∃c y v,B c x y/\F y v/\k=(v.1+c,v.2+1)m:∀x k,F x k->∀l y,W l y->leP k l
theorem Dj.skip(h:Dj ev B F W){x:Sd}(d:F x k)(a:∀l y,W l y↔W' l y\/(l=r/\y=x)):Dj ev B F W':=by
 have f:leP k r:=h.m x k d r x ((a _ _).mpr (.inr #[rfl,rfl]));show#[λy o=>?_,λc z y v j n=>?_,λz l hz=>h.s z l (hz.imp id λw=>(a _ _).mpr (.inl w)),λz l hz i y w=>h.m z l hz i y ((a _ _).mpr (.inl w))]
 .rcases h.e y o with g|g;.show .inl g
  .rcases (a _ _).mp g with g|⟨g1,g2⟩
   .show .inr g
   .rw [<-g1]at f;rw[f.zero]at d;show .inl (by rw[g2];show d)
 .rcases h.b c z y v j n with g|g;.show .inl g
  .rcases (a _ _).mp g with g|⟨g1,g2⟩
   .show .inr g
   .show .inl #[k,by rw[g2];show d,by rw[g1];show f]
theorem Dj.take{B:Nat->Sd->Sd->Prop}{F:Sd->Nat×Nat->Prop}{W t:Nat×Nat->Sd->Prop}(h:Dj ev B F W){x:Sd}(q:∀l y,W l y↔W' l y\/(l=r/\y=x))(E:∀l y,W' l y->leP r l)(f:∀y k,F' y k↔F y k\/(y=x/\k=r))(n:∀l y,t l y↔W' l y\/∃c,B c y x/\l=(r.1+c,r.2+1)):Dj ev B F' t:=by
 have C:W r x:=(q _ _).mpr (.inr #[rfl,rfl]);show#[λy p=>?_,λc z y v A p=>?_,λz l hz=>?_,λz l hz i y w=>?_]
 .rcases h.e y p with g|g;.show .inl ((f _ _).mpr (.inl g))
  .rcases (q _ _).mp g with g|⟨a,d⟩;.show .inr ((n _ _).mpr (.inl g))
   .show .inl ((f _ _).mpr (.inr #[d,a]))
 .rcases (f _ _).mp p with p|⟨rfl,rfl⟩
  .rcases h.b c z y v A p with⟨u,a,d⟩|g
   .show .inl #[u,(f _ _).mpr (.inl a),d]
   .rcases (q _ _).mp g with g|⟨a,d⟩;.show .inr ((n _ _).mpr (.inl g))
    .show .inl #[r,(f _ _).mpr (.inr #[d,rfl]),by rw[a];show leP.refl _]
  .show .inr ((n _ _).mpr (.inr #[c,A,rfl]))
 .have j:F z l\/W l z->(ev z/\l=(0,0))\/∃c y v,B c z y/\F' y v/\l=(v.1+c,v.2+1):=λg=>(h.s z l g).imp id λ⟨c,y,v,a,d,D⟩=>#[c,y,v,a,(f _ _).mpr (.inl d),D];rcases hz with hz|hz
  .rcases (f _ _).mp hz with hz|⟨rfl,rfl⟩;.show j (.inl hz)
   .show j (.inr C)
  .rcases (n _ _).mp hz with hz|⟨c,a,d⟩;.show j (.inr ((q _ _).mpr (.inl hz)))
   .show .inr #[c,x,r,a,(f _ _).mpr (.inr #[rfl,rfl]),d]
 .have o:leP l r:=by
   rcases(f _ _).mp hz with hz|⟨_,rfl⟩;.show h.m z l hz r x C
   .show leP.refl _
  rcases(n _ _).mp w with w|⟨c,_,rfl⟩;.show o.trans (E _ _ w)
  .show o.trans (leP.up _ _)
theorem BP{a:Type}{f g:a->Nat}{d:Nat}(h:∀x,g x<=f x):∀{l:ϊ a}{x:a},x∈l->g x+d<=f x->(l.map g).sum+d<=(l.map f).sum
 |z::l,x,m,e=>by
  have mono:∀l:ϊ a,(l.map g).sum<=(l.map f).sum:=λl=>by induction l with
   |nil=>show Ç _|cons y l ih=>rw[È,È,Ŗ,Ŗ];have:=h y;rfl'
  rw[È,È,Ŗ,Ŗ];rcases Å.mp m with rfl|m
  .have:=mono l;rfl'
  .have:=BP h m e;have:=h z;rfl'
abbrev Fq:=ό×Sd×ό×(Ϻ)
noncomputable def mO(fz:ϊ Fq):ϊ Gz:=fz.map λf=>(f.1,f.2.1,f.2.2.1)
structure FdT(K:Ϗ)(H:Hp)(fa:ό)(fz:ϊ Fq):Prop where
 d:H fa=!(bF fa (cL (mO fz)))s:∀f∈fz,StT K H f.1 f.2.1/\H f.2.2.1=!(.tup [.int (f.2.2.2.1:Nat),.int (f.2.2.2.2:Nat)])n:(fz.map (·.2.1)).Nodup
def Fnd(fz:ϊ Fq)(x:Sd)(k:Ϻ):Prop:=∃f∈fz,f.2.1=x/\f.2.2.2=k
noncomputable def nH(bz:ϊ Gz)(U:ό->ϊ Bq)(fz:ϊ Fq):Nat:=(bz.map λb=>if b.2.1∈fz.map (·.2.1)then 0 else ↑(U b.2.2)).sum
theorem mQ{K:Ϗ}(h:∀f∈fz,StT K H f.1 f.2.1):∀p∈cL (mO fz),uD H p.1 p.2.1:=λp c=>by let#[z,d,rfl]:=Zp.mp c;let#[f,b,rfl]:=Zp.mp d;show(h f b).a
theorem iZ(a:ϊ Fq):(mO a).map (·.2.1)=a.map (·.2.1):=by unfold mO;rw[Æ];rfl
theorem TF{l:Ϻ}(h:HT.lexLt [(l.1:Int),(l.2:Int)] [(k.1:Int),(k.2:Int)]=false):leP k l:=by
 unfold leP;unfold HT.lexLt at h;split at h
 .unfold HT.lexLt at h;split at h;.rfl'
  .have:=Į h;rfl'
 .have:=Į h;rfl'
noncomputable def Y9(es:ϊ Int)(gz:ϊ Gz)(z:ό×Sk×V):ύ V:=by classical
 show if ∃g∈gz,z=(g.1,iz g.2.1,V.ref g.2.2)/\qI es g.2.1=true then !(.ref z.1)else none
theorem Jk(m:g∈gz):Y9 es gz (g.1,iz g.2.1,V.ref g.2.2)=if qI es g.2.1=true then !(.ref g.1)else none:=by
 unfold Y9;by_cases e:qI es g.2.1=true;.rw [if_pos e,if_pos #[g,m,rfl,e]]
 .rw [if_neg e,if_neg];rintro⟨y,c,b,a⟩;have:=uh (Ô (λp:ό×Sk×V=>p.2.1) b);rw[this]at e;show e a
theorem BR:∀{l:ϊ Gz},(∀g∈l,g∈a)->(cL l).filterMap (Y9 es a)=((l.filter λg=>qI es g.2.1).map λg=>(g.1,g.2.1)).map λz:ό×Sd=>V.ref z.1
 |[],_=>rfl|g::l,h=>by
  have b:=BR (es:=es) (l:=l) λx m=>h x (Ì _ m)
  change List.filterMap _ ((g.1,iz g.2.1,V.ref g.2.2)::cL l)=_;rw[Ĕ,Jk (h g (Ë ..)),Ğ,b];by_cases e:qI es g.2.1=true;.rw [if_pos e,if_pos e];rfl
  .rw [if_neg e,if_neg e]
theorem Jl(a:ϊ Qz)(k:Ϻ):dm (mK a) (j8 k)=mK (a.filter λv=>decide (v.1≠k)):=by
 unfold dm mK;rw[List.filter_map];congr 1;show List.filter_congr λv _=>?_;change decide (j8 v.1≠j8 k)=decide (v.1≠k);by_cases e:v.1=k;.rw [e];simp
 .rw [Õ (show v.1≠k from e),Õ (show j8 v.1≠j8 k fromλz=>e (ur z))]
theorem WtT.pop{K:Ϗ}{i:ό}{c:ϊ Qz}(h:WtT K H i c){w:Qz}(g:w∈c):∃b:ϊ Qz,WtT K (upd H i (.dT (dm (mK c) (j8 w.1)))) i b/\w.2.1∉b.map (·.2.1)/\↑b+1<=↑c/\(∀v∈b,v∈c)/\∀l x,Wait c l x↔Wait b l x\/(l=w.1/\x∈w.2.2.map (·.2)):=by
 have o:∀{xs:ϊ (ϊ Key×V)} l,HO.dT xs≠.tup l:=λl z=>by cases z
 have sub:∀v∈c.filter (λv=>decide (v.1≠w.1)),v∈c/\v.1≠w.1:=λv a=>#[(ú.mp a).1,é (ú.mp a).2];show#[c.filter λv=>decide (v.1≠w.1),#[by rw[aa,Jl],λv a=>?_,?_,?_,λv a z j=>(h.s v (sub v a).1 z j).keep h.d o],λm=>?_,?_,λv a=>(sub v a).1,λl x=>#[?_,?_]];.have e:=h.l v (sub v a).1;rw[ak (λz=>by rw[z,h.d]at e;cases e)];show e
 .show Ć (List.Sublist.map _ Ś) h.n
 .show Ć (List.Sublist.map _ Ś) h.k
 .obtain ⟨v,a,e⟩:=Zp.mp m;have:=gQ h.n (sub v a).1 g e;show(sub v a).2 (by rw[this])
 .show List.length_filter_lt_length_iff_exists.mpr #[w,g,by simp]
 .rintro ⟨v,a,rfl,f⟩;by_cases e:v.1=w.1
  .rw [gQ h.k a g e]at f⊢;show .inr #[rfl,f]
  .show .inl #[v,ú.mpr #[a,Õ e],rfl,f]
 .rintro (⟨v,a,rfl,f⟩|⟨rfl,f⟩);.show #[v,(sub v a).1,rfl,f]
  .show #[w,g,rfl,f]
inductive hZ(K:Ϗ)(vs:ϊ V)(H:Hp)(Q:VK)(E:XK):Prop|mk (oa ea:ό) (gz:ϊ Gz) (st:Sd->ϊ (ϐ×Nat×Sd)) (es:ϊ Int) (_:vs=[.ref oa,.ref ea]) (_:Rd H oa (bF oa (cL gz))) (_:(∀z∈gz,StT K H z.1 z.2.1/\SsT K H z.2.2 (st z.2.1)/\↑(st z.2.1)<=18)) (_:(gz.map (·.2.1)).Nodup) (_:↑gz<=50000) (_:(∀z∈gz,∀e∈st z.2.1,e.2.2∈gz.map (·.2.1))) (_:SqT K H ea (es.map V.int)) (_:∀od fa H' (fz:ϊ Fq),Sb [oa] H H'->H' oa=!(.frz od (bF oa (cL gz)))->H fa=none->FdT K H' fa fz->Dj (Ld es (gz.map (·.2.1))) (Et st (gz.map (·.2.1))) (Fnd fz) (λ_ _=>False)->Q (.ref fa) H')
abbrev Jm K:=(aB (fX (aP (aL sX (gw Ht (bR di)) (tI 0))) (aB (aK (gw HB (bR di)) (ao 5))
  (aB (aK (Hx di dB) (ao 6))
  (cV (cB K gH) (ao 7) (bG (tB (nQ jY cM)) (aB (vQ cM jY dB)
  (cA (cg (eW K) (jZ di dB (lG c7 jY))))) aW)))))
  (aR cM))
def z6 K(E:XK)(Eh:XK):=(aB (aK (cg (cS K) (bR aU)) (ao 2))
  (aB (aK vP (ao 3))
  (aB (aK (xW (bY (cF (tI 0) (tI 0))) (mU [none,!1] (tZ aU) (ao 0) (jF K (cg (fN K) (cF aU bK))) aU)) (ao 4))
  (Jm K))))
theorem TJ(h:hZ K vs H Q E):∃Eh,z6 K E Eh {nx:=λ_ H'=>Q .non H',rt:=Q} (start ["onward","ends","backward","found","waiting","rest","reached","stand"] vs) H:=by
 let#[G,ea,M,st,es,rfl,hO,hG,hN,hL,hC,hE,q]:=h;show#[E0,?_];unfold z6;symm;show#[G,M,st,rfl,hO,hG,hN,hL,hC,λek ba R bz U a9 ay er hB=>?_];symm;intro t am;symm;intro I b9;symm;intro ta a6;have S1:Same R (upd R t (bF t [])):=aq am _;have S2:=S1.new (o:=.dT []) b9;have S3:=S2.new (o:=.tup [.int 0,.int 0]) a6;have bk:upd (upd (upd R t (bF t [])) I (.dT [])) ta (.tup [.int 0,.int 0]) t=!(bF t []):=((aq b9 _).trans (aq a6 _)).get aa;have bo:upd (upd (upd R t (bF t [])) I (.dT [])) ta (.tup [.int 0,.int 0]) I=!(.dT []):=(aq a6 _).get aa;have bn:upd (upd (upd R t (bF t [])) I (.dT [])) ta (.tup [.int 0,.int 0]) ta=!(.tup [.int 0,.int 0]):=aa;have ac:R I=none:=S1.free b9;have ce:t≠G:=λz=>by rw[z,ay]at am;cases am
 have ci:I≠G:=λz=>by rw[z,ay]at ac;cases ac
 have ei:ta≠G:=λz=>by rw[z,S2.get ay]at a6;cases a6
 generalize upd (upd (upd R t (bF t [])) I (.dT [])) ta (.tup [.int 0,.int 0])=H3 at S3 bk bo bn⊢;have cy:∀{H':Hp}{o:HO},Sb [G] R H'->H' G=!o->∀{p:ό},H' p=none->R p=none:=λ{H' o} sb eo {p} hp=>by cases e:R p with
  |none=>rfl|some u=>
   by_cases z:p=G;.rw [z,eo]at hp;cases hp
   .rw [sb.get (by simpa using z) e]at hp;cases hp
 have tk:∀{H':Hp},Sb [G] R H'->∀{a:ό}{u:HO},(∀od x,u≠.frz od x)->R a=!u->H' a=!u:=λsb a u hu ea=>sb.get (λm=>by rw[Zl.mp m,ay]at ea;show hu _ _ (Ù ea).symm) ea;have cr:∀{H':Hp},Sb [G] H H'->∀{a:ό}{l:ϊ V},H a=!(.tup l)->H' a=!(.tup l):=λsb a l e=>sb.get (λm=>by rw[Zl.mp m]at e;rcases hO with g|⟨od,g⟩<;>(rw[g]at e;cases e)) e;have cp:∀{H':Hp},Sb [G] R H'->∀{z:Gz},z∈M->StT K H' z.1 z.2.1:=λsb z mz=>by let#[c,e1,e2]:=(hG z mz).1;show#[c,tk sb (λ_ _ z=>by cases z) (cr a9 e1),tk sb (λ_ _ z=>by cases z) (cr a9 e2)]
 have dy:∀{H':Hp},Sb [G] H H'->SqT K H' ea (es.map V.int):=λsb=>by
  rcases hE with(e|⟨od,e⟩)|hK;.show .inl (.inl (cr sb e))
  .show .inl (.inr #[od,sb.get (λm=>?_) e]);rw[Zl.mp m]at e;rcases hO with g|⟨od',g⟩<;>(rw[g]at e;cases e)
  .show .inr hK
 symm;show XR (.inr #[ek,S3.get ay]) (by unfold cL;rw[Qb];rfl') (Y9 es M) λas H4 av cv=>#[λi z hi A B hA cz=>?_,λla ap=>?_]
 .obtain ⟨g,hg,rfl⟩:=yV hi;have mg:=Yf hg;rw[Jk mg]at hA cz;symm;show#[g.1,ea,g.2.1,es,rfl,cp (λb o nb e=>av b o nb (S3.get e)) mg,dy (λb o nb e=>av b o nb (S3.get (a9 b o nb e))),?_];symm;by_cases ev:qI es g.2.1=true;.rw [ev];symm;show hA _ (if_pos ev)
  .rw [ŧ.mpr ev];symm;show cz (if_neg ev)
 have cn:Sb [G] R H4:=λb o nb e=>av b o nb (S3.get e);have S5:Same H4 (upd H4 la (.lst ((cL M).filterMap (Y9 es M)))):=aq ap _;have bq:=cy cn cv ap;rw[BR λg m=>m]at S5⊢;have ae:=av.get (by simpa using ce) bk;have af:=av.get (by simpa using ci) bo;have cx:=av.get (by simpa using ei) bn;have eh:la≠I:=λz=>by rw[z,af]at ap;cases ap
 have ez:la≠t:=λz=>by rw[z,ae]at ap;cases ap
 have cf:t≠I:=λz=>by rw[z,af]at ae;cases ae
 symm;show#[S5.get af,j8 (0,0),ta,rfl,S5.get cx,?_];symm;have a3:∃(J:ϊ Qz),WtT K (upd (upd H4 la (.lst (((M.filter λg=>qI es g.2.1).map λg=>(g.1,g.2.1)).map λz:ό×Sd=>V.ref z.1))) I (.dT [(j8 (0,0),.ref la)])) I J/\(∀w∈J,R w.2.1=none)/\↑J<=1/\(∀w∈J,↑w.2.2<=50000)/\∀k x,Wait J k x↔k=(0,0)/\x∈M.map (·.2.1)/\qI es x=true:=by
  show#[[((0,0),la,(M.filter λg=>qI es g.2.1).map λg=>(g.1,g.2.1))],#[by rw[aa];rfl,λw X=>?_,by simp,by simp,λw X z mz=>?_],λw X=>by rw[Zl.mp X];show bq,Ç _,λw X=>?_,λk x=>?_];.rw [Zl.mp X,ak eh,aa]
  .rw [Zl.mp X]at mz;let#[g,mg,rfl]:=Zp.mp mz;show((cp cn (ú.mp mg).1).same S5).keep (S5.get af) (λl z=>by cases z)
  .rw [Zl.mp X,Qb];show Ð (Ō _ _) hL
  .constructor;.rintro ⟨w,X,rfl,mx⟩;rw[Zl.mp X]at mx⊢;dsimp only at mx⊢;rw[Æ]at mx;let#[g,mg,rfl]:=Zp.mp mx;show#[rfl,Zp.mpr #[g,(ú.mp mg).1,rfl],(ú.mp mg).2]
   .rintro ⟨rfl,mx,e⟩;let#[g,mg,rfl]:=Zp.mp mx;show#[_,Zl.mpr rfl,rfl,Zp.mpr #[(g.1,g.2.1),Zp.mpr #[g,ú.mpr #[mg,e],rfl],rfl]]
 have de:Sb [G] R (upd (upd H4 la (.lst (((M.filter λg=>qI es g.2.1).map λg=>(g.1,g.2.1)).map λz:ό×Sd=>V.ref z.1))) I (.dT [(j8 (0,0),.ref la)])):=fH (fH cn (.inr bq)) (.inr ac);have bl:(upd (upd H4 la (.lst (((M.filter λg=>qI es g.2.1).map λg=>(g.1,g.2.1)).map λz:ό×Sd=>V.ref z.1))) I (.dT [(j8 (0,0),.ref la)])) t=!(bF t []):=by rw[ak cf];show S5.get ae
 have cw:(upd (upd H4 la (.lst (((M.filter λg=>qI es g.2.1).map λg=>(g.1,g.2.1)).map λz:ό×Sd=>V.ref z.1))) I (.dT [(j8 (0,0),.ref la)])) G=!(.frz as (bF G (cL M))):=by rw[ak (Ne.symm ci)];show S5.get cv
 generalize upd (upd H4 la (.lst (((M.filter λg=>qI es g.2.1).map λg=>(g.1,g.2.1)).map λz:ό×Sd=>V.ref z.1))) I (.dT [(j8 (0,0),.ref la)])=H6 at a3 de bl cw⊢;let#[el,d0,d1,ew,d6,db]:=a3;have en:nH bz U []<=900000:=by show Ð (Nat.le_of_eq ?_) hB.s;unfold nH;simp
 show pY (λm σ H'=>(Ex2 λ(fz:ϊ Fq) (J:ϊ Qz)=>(An11 (FdT K H' t fz) (WtT K H' I J) (Sb [G] R H') (H' G=!(.frz as (bF G (cL M)))) (∀w∈J,R w.2.1=none) (Dj (Ld es (M.map (·.2.1))) (Et st (M.map (·.2.1))) (Fnd fz) (Wait J)) (∀f∈fz,f.2.1∈M.map (·.2.1)) (m=↑J+nH bz U fz) (↑J+nH bz U fz<=900001) (∀w∈J,↑w.2.2+nH bz U fz<=950000) (Ex3 λo1 o2 o3=>σ=[!(.ref G),!(.ref ea),!(.ref ba),!(.ref t),!(.ref I),o1,o2,o3])))) _ #[[],el,#[bl,by simp,by simp],d0,de,cw,d1,#[λx hx=>.inr ((db _ _).mpr #[rfl,hx.1,hx.2]),λc x y v _ hF=>?_,λx k hk=>?_,λx k hk=>?_],by simp,rfl,(),λw X=>by have:=d6 w X;rfl',_,_,_,rfl] ?_ ?_;.obtain ⟨f,C,_⟩:=hF;cases C
 .rcases hk with⟨f,C,_⟩|hk;.cases C
  .obtain ⟨e1,e2⟩:=(db _ _).mp hk;show .inl #[e2,e1]
 .obtain ⟨f,C,_⟩:=hk;cases C
 .rintro m σ H' N ⟨fz,J,hF,hW,sb,eo,d2,hD,da,rfl,eu,d3,o1,o2,o3,rfl⟩ dz;symm;show RW hW.d ?_;rw[show↑(mK J)=↑J from Qb _];symm;by_cases c8:0<↑J
  .show mY () ?_;symm;show SJ (kvs:=J.map λw:Qz=>([(w.1.1:Int),(w.1.2:Int)],V.ref w.2.1)) (by rw[hW.d,Æ];rfl) (λz=>by rw[ς]at z;rw[z]at c8;cases c8) λT k ar mk br=>?_;rw[Æ]at mk br;let#[w,X,rfl]:=Zp.mp mk;replace ar:H' T=!(.tup [.int (w.1.1:Nat),.int (w.1.2:Nat)]):=ar;have d8:∀v∈J,leP w.1 v.1:=λv L=>TF (br _ (Zp.mpr #[v,L,rfl]));symm;show#[I,rfl,.inr #[_,.inl hW.d],?_];symm;show#[mK J,j8 w.1,T,.ref w.2.1,hW.d,rfl,ar,nZ hW.k X rfl,?_];let#[dk,c4,ec,d4,ad,ed]:=hW.pop X;have nt:∀{xs:ϊ (ϊ Key×V)} l,HO.dT xs≠.tup l:=λl z=>by cases z
   have dc:Sb [G] R (upd H' I (.dT (dm (mK J) (j8 w.1)))):=fH sb (.inr ac);have ct:upd H' I (.dT (dm (mK J) (j8 w.1))) G=!(.frz as (bF G (cL M))):=by rw[ak (Ne.symm ci)];show eo
   have b5:FdT K (upd H' I (.dT (dm (mK J) (j8 w.1)))) t fz:=⟨by rw[ak cf];show hF.d,λf C=>⟨(hF.s f C).1.keep hW.d nt,by have e:=(hF.s f C).2;rw[ak (λz=>by rw[z,hW.d]at e;cases e)];show e⟩,hF.n⟩;have aw:upd H' I (.dT (dm (mK J) (j8 w.1))) w.2.1=!(.lst (w.2.2.map λz=>V.ref z.1)):=by have e:=hW.l w X;rw[ak (λz=>by rw[z,hW.d]at e;cases e)];show e
   have bv:upd H' I (.dT (dm (mK J) (j8 w.1))) T=!(.tup [.int (w.1.1:Nat),.int (w.1.2:Nat)]):=by rw[ak (λz=>by rw[z,hW.d]at ar;cases ar)];show ar
   have b0:∀z∈w.2.2,StT K (upd H' I (.dT (dm (mK J) (j8 w.1)))) z.1 z.2:=λz mz=>(hW.s w X z mz).keep hW.d nt;generalize upd H' I (.dT (dm (mK J) (j8 w.1)))=H7 at c4 dc ct b5 aw bv b0⊢;have d5:w.2.1≠t:=λz=>by rw[z,b5.d]at aw;cases aw
   symm;show j7 (λz:ό×Sd=>V.ref z.1) (zs:=w.2.2) (ip aw) (λi σ H'=>(Ex2 λ(r:ϊ Fq) (D:ϊ Qz)=>(An15 (FdT K H' t r) (WtT K H' I D) (Sb [G] R H') (H' G=!(.frz as (bF G (cL M)))) (∀v∈D,R v.2.1=none) (Dj (Ld es (M.map (·.2.1))) (Et st (M.map (·.2.1))) (Fnd r) (λl x=>Wait D l x\/(l=w.1/\x∈(w.2.2.drop i).map (·.2)))) (∀f∈r,f.2.1∈M.map (·.2.1)) (∀l x,Wait D l x->leP w.1 l) (H' w.2.1=!(.lst (w.2.2.map λz=>V.ref z.1))) (w.2.1∉D.map (·.2.1)) (H' T=!(.tup [.int (w.1.1:Nat),.int (w.1.2:Nat)])) (∀z∈w.2.2,StT K H' z.1 z.2) (↑D+nH bz U r+1<=↑J+nH bz U fz) (∀v∈D,↑v.2.2+nH bz U r<=950000) (Ex1 λo1=>σ=[!(.ref G),!(.ref ea),!(.ref ba),!(.ref t),!(.ref I),!(.ref T),!(.ref w.2.1),o1]))))
    #[fz,dk,b5,c4,dc,ct,λv L=>d2 v (ad v L),?_,da,λl x ⟨v,L,e,_⟩=>e▸d8 v (ad v L),aw,ec,bv,b0,(),λv L=>d3 v (ad v L),_,rfl] ?_ ?_ ?_
   .have:(λl x=>Wait dk l x\/(l=w.1/\x∈(w.2.2.drop 0).map (·.2)))=Wait J:=by funext l x;rw[List.drop_zero];show propext (ed l x).symm
    rw[this];show hD
   .rintro i σ H8 ⟨_,_,_,_,_,_,_,_,_,_,e,_⟩;show ip e
   .rintro i z σ H8 hi ⟨r,D,F,Y,bg,bd,S,al,O,ag,b3,be,a5,Z,b6,a4,ej,rfl⟩;have mz:=Yf hi;have dq:w.2.2.drop i=z::w.2.2.drop (i+1):=by let#[h1,h2]:=Ä.mp hi;rw[Ĩ h1,h2]
    have ca:∀l y,(Wait D l y\/(l=w.1/\y∈(w.2.2.drop i).map (·.2)))↔(Wait D l y\/(l=w.1/\y∈(w.2.2.drop (i+1)).map (·.2)))\/(l=w.1/\y=z.2):=λl y=>by rw[dq,È,Å,or_assoc];show or_congr Iff.rfl ?_;rw[and_or_left];show Or.comm
    symm;show#[t,_,rfl,SGet.of F.d (mQ λf C=>(F.s f C).1) (Z z mz).a,?_];by_cases m:z.2∈r.map (·.2.1);.obtain ⟨v,ev⟩:=qj (zs:=mO r) (by rw[iZ];show m);rw[ev];symm;change if(not true)=true then _ else _;symm;let#[f,C,ef]:=Zp.mp m;show#[r,D,F,Y,bg,bd,S,al.skip #[f,C,ef,rfl] ca,O,ag,b3,be,a5,Z,b6,a4,_,rfl]
    have ev:=jr (zs:=mO r) (x:=z.2) (by rw[iZ];show m);rw[ev];symm;change if(not false)=true then _ else _;rw[if_pos (show(not false)=true from rfl)];have cb:z.2∈M.map (·.2.1):=by
     rcases al.s z.2 w.1 (.inr ((ca _ _).mpr (.inr #[rfl,rfl])))with h|⟨c,y,v,h,_⟩;.show h.1.1
     .show h.1
    have c6:bz.map (·.2.1)=M.map (·.2.1):=by have:=Ô (List.map Prod.snd) hB.k;rw[Æ,Æ]at this;show this
    let#[b,mb,eb]:∃b∈bz,b.2.1=z.2:=by rw[<-c6]at cb;let#[b,mb,eb]:=Zp.mp cb;show#[b,mb,eb]
    let#[c1,c2,c3]:=hB.c b mb;have et:↑r<=50000:=by
     have:=fG F.n λx mx=>by let#[f,C,rfl]:=Zp.mp mx;show O f C
     rw[Qb,Qb]at this;rfl'
    symm;show#[t,_,rfl,SPut.of F.d (mQ λf C=>(F.s f C).1) (Z z mz).a (by unfold cL mO;rw[Qb,Qb];rfl'),?_];rw[pX ev];have cm:∀{P:PySem.Heap->Prop} l,HO.ext P≠.tup l:=λl z=>by cases z
    have dt:cL (mO r)++[(z.1,iz z.2,V.ref T)]=cL (mO (r++[(z.1,z.2,T,w.1)])):=by unfold cL mO;rw[Wp,Wp];rfl
    have dg:∀{a:ό}{l:ϊ V},H8 a=!(.tup l)->upd H8 t (bF t (cL (mO r)++[(z.1,iz z.2,V.ref T)])) a=!(.tup l):=λe=>by rw[ak (λz=>by rw[z,F.d]at e;cases e)];show e
    have W:Sb [G] R (upd H8 t (bF t (cL (mO r)++[(z.1,iz z.2,V.ref T)]))):=fH bg (.inr am);have b4:upd H8 t (bF t (cL (mO r)++[(z.1,iz z.2,V.ref T)])) G=!(.frz as (bF G (cL M))):=by rw[ak (Ne.symm ce)];show bd
    have ai:∀z'∈w.2.2,StT K (upd H8 t (bF t (cL (mO r)++[(z.1,iz z.2,V.ref T)]))) z'.1 z'.2:=λz' cc=>(Z z' cc).keep F.d cm;have ah:=dg a5;have a1:FdT K (upd H8 t (bF t (cL (mO r)++[(z.1,iz z.2,V.ref T)]))) t (r++[(z.1,z.2,T,w.1)]):=by
     show#[by rw[aa,dt],λf C=>?_,?_]
     .rcases Ã.mp C with C|C;.show #[(F.s f C).1.keep F.d cm,dg (F.s f C).2]
      .rw [Zl.mp C];show#[ai z mz,ah]
     .rw [Wp,Ü];show#[F.n,by simp,λa ma c mc e=>m ?_];rw[È,Č,Zl]at mc;rw[<-show c=z.2 from mc,<-e];show ma
    have a2:WtT K (upd H8 t (bF t (cL (mO r)++[(z.1,iz z.2,V.ref T)]))) I D:=⟨by rw[ak (Ne.symm cf)];show Y.d,λv L=>by have e:=Y.l v L;rw[ak (λz=>by rw[z,F.d]at e;cases e)];show e,Y.n,Y.k,λv L y my=>(Y.s v L y my).keep F.d cm⟩;have ax:upd H8 t (bF t (cL (mO r)++[(z.1,iz z.2,V.ref T)])) w.2.1=!(.lst (w.2.2.map λz=>V.ref z.1)):=by rw[ak d5];show b3
    generalize upd H8 t (bF t (cL (mO r)++[(z.1,iz z.2,V.ref T)]))=H9 at W b4 ai ah a1 a2 ax⊢;have em:nH bz U (r++[(z.1,z.2,T,w.1)])+↑(U b.2.2)<=nH bz U r:=by
     unfold nH;show BP (λv=>?_) mb ?_
     .by_cases h:v.2.1∈r.map (·.2.1);.rw [if_pos h,if_pos (by rw[Wp];show ß _ h)];show Ç _
      .rw [if_neg h];split<;>rfl'
     .rw [if_pos (by rw[Wp,eb];simp),if_neg (by rw[eb];show m)];rfl'
    symm;show⟨ba,.ref b.2.2,rfl,by rw[<-jD (by rw[c6];show hN) mb,eb];show SGet.of (tk W (λ_ _ z=>by cases z) hB.d) (λp mp=>by let#[b',ee,rfl]:=Zp.mp mp;let#[y,my,ey]:=hB.key ee;have:=cp W my;rw[ey.1,ey.2]at this;show this.a) (ai z mz).a,?_⟩;symm;show#[I,T,b.2.2,D,w.1,U b.2.2,rfl,a2,ah,tk W (λ_ _ z=>by cases z) c1,λmm=>?_,λu mu=>?_,(),λv L=>by have:=a4 v L;rfl',λbb dl c5 b2 bp b1 dn c9=>?_];.obtain ⟨v,L,e⟩:=Zp.mp mm;have:=S v L;rw[show v.2.1=b.2.2 from e,c1]at this;cases this
    .obtain ⟨g1,c,g2,g3⟩:=c2 u mu;show#[tk W (λ_ _ z=>by cases z) g1,c,tk W (λ_ _ z=>by cases z) g2,tk W (λ_ _ z=>by cases z) g3]
    symm;have a7:∀{a:ό}{u:HO},H9 a=!u->a≠I->a∉D.map (·.2.1)->bb a=!u:=λe n1 n2=>b2.get (λmm=>(Å.mp mm).elim n1 n2) e;have a8:∀{a:ό}{u:HO},H9 a=!u->(∀xs,u≠.lst xs)->(∀xs,u≠.dT xs)->bb a=!u:=λ{a u} e n1 n2=>a7 e (λz=>by rw[z,a2.d]at e;show n2 _ (Ù e).symm) (λmm=>by let#[v,L,ea]:=Zp.mp mm;have:=a2.l v L;rw[show v.2.1=a from ea,e]at this;show n1 _ (Ù this));have bi:∀{a:ό}{l:ϊ V},H9 a=!(.tup l)->bb a=!(.tup l):=λe=>a8 e (λ_ z=>by cases z) (λ_ z=>by cases z);have df:∀{a:ό}{x:Sd},StT K H9 a x->StT K bb a x:=λh=>by let#[c,e1,e2]:=h;show#[c,bi e1,bi e2]
    show#[r++[(z.1,z.2,T,w.1)],dl,#[a8 a1.d (λ_ z=>by cases z) (λ_ z=>by cases z),λf C=>#[df (a1.s f C).1,bi (a1.s f C).2],a1.n],c5,λc o nb e=>b2 c o (λmm=>?_) (W c o nb e),a8 b4 (λ_ z=>by cases z) (λ_ z=>by cases z),λv L=>?_,al.take ca (λl y h=>?_) (λy k=>?_) (λl y=>?_),λf C=>?_,λl x h=>?_,a7 ax (λz=>by rw[z,a2.d]at ax;cases ax) be,λmm=>?_,bi ah,λz' cc=>df (ai z' cc),(),λv L=>?_,_,rfl]
    .rcases Å.mp mm with rfl|mm;.rw [ac]at e;cases e
     .obtain ⟨v,L,rfl⟩:=Zp.mp mm;rw[S v L]at e;cases e
    .rcases bp v L with h|h;.obtain ⟨v',eg,e⟩:=Zp.mp h;rw[<-show v'.2.1=v.2.1 from e];show S v' eg
     .show cy W b4 h
    .rcases h with h|⟨rfl,_⟩;.show ag l y h
     .show leP.refl _
    .unfold Fnd;constructor
     .rintro ⟨f,C,e1,e2⟩;rcases Ã.mp C with C|C;.show .inl #[f,C,e1,e2]
      .rw [Zl.mp C]at e1 e2;show .inr #[e1.symm,e2.symm]
     .rintro (⟨f,C,e⟩|⟨rfl,rfl⟩);.show #[f,ß _ C,e]
      .show #[_,Ø _ (Zl.mpr rfl),rfl,rfl]
    .have hx:(∃u∈U b.2.2,l=(w.1.1+u.2.1,w.1.2+1)/\y=u.2.2.2)↔ ∃c,(y∈M.map (·.2.1)/\∃s,(s,c,z.2)∈st y)/\l=(w.1.1+c,w.1.2+1):=by
      rw[<-eb];constructor;.rintro ⟨u,mu,rfl,rfl⟩;show#[u.2.1,(c3 _ _).mp (Zp.mpr #[u,mu,rfl]),rfl]
      .rintro ⟨c,h,rfl⟩;let#[u,mu,e]:=Zp.mp ((c3 c y).mpr h);show#[u,mu,by rw[<-(Prod.mk.inj e).1],(Prod.mk.inj e).2.symm]
     rw[b1,<-hx,or_assoc,or_assoc];show or_congr Iff.rfl Or.comm
    .rcases Ã.mp C with C|C;.show O f C
     .rw [Zl.mp C];show cb
    .rcases (b1 l x).mp h with h|⟨u,_,rfl,_⟩;.show ag l x h
     .show leP.up _ _
    .obtain ⟨v,L,e⟩:=Zp.mp mm;rcases bp v L with h|h;.show be (by rw[<-show v.2.1=w.2.1 from e];show h)
     .rw [show v.2.1=w.2.1 from e,ax]at h;cases h
    .have:=c9 (950000-nH bz U r) (λv L=>by have:=a4 v L;rfl') v L;rfl'
   .rintro σ H8 ⟨r,D,F,Y,bg,bd,S,al,O,ag,b3,be,a5,Z,b6,a4,ej,rfl⟩;symm;show dz _ _ _ (Nat.lt_of_succ_le b6) #[r,D,F,Y,bg,bd,S,?_,O,rfl,(),a4,_,_,_,rfl];have:(λl x=>Wait D l x\/(l=w.1/\x∈(w.2.2.drop ↑w.2.2).map (·.2)))=Wait D:=by funext l x;rw[List.drop_length];simp
    rw[this]at al;show al
  .have e0:J=[]:=List.eq_nil_of_length_eq_zero ();subst e0;show mZ (by rw[Š];rfl') ?_;symm;show q as t H' fz (λb o nb e=>sb b o nb (a9 b o nb e)) eo ?_ hF ?_;.cases e:H t with
    |none=>rfl|some u=>
     exfalso;by_cases z:t=G;.show ce z
     .rw [a9.get (by simpa using z) e]at am;cases am
   .have:Wait []=λ_ _=>False:=by funext l x;show propext #[λ⟨w,X,_⟩=>(by cases X),False.elim]
    rw[this]at hD;show hD
 .rintro σ H Q Q' hq ⟨v,hv,a,kvs,e,ha,i,j,e1,e2,k,e3,z⟩;show#[v,hv,a,kvs,e,ha,i,j,e1,e2,k,e3,hq _ _ z]
inductive hV(K:Ϗ)(vs:ϊ V)(H:Hp)(Q:VK)(E:XK):Prop|mk (ta:ό) (s0 s1 sg:ϐ) (b:ϑ) (_:vs=[.ref ta,.str sg,.bl b]) (_:H ta=!(.tup [.str s0,.str s1])) (_:↑s0+↑sg<=1000000) (_:∀r H' t0 t1,Same H H'->H' r=!(.tup [.str t0,.str t1])->↑t0<=max ↑s1 (↑s0+↑sg)->↑t1<=max ↑s1 (↑s0+↑sg)->Q (.ref r) H')
def z7 K(E:XK)(Eh:XK):=(aB (aK (aL fV (tX K aU 0) bK) (ao 3))
  (aR (Wn (jF K c7) (bY (cF (tX K aU 1) cM)) (bY (cF cM (tX K aU 1))))))
theorem TQ(h:hV K vs H Q E):∃g,z7 K E g {nx:=λ_ H'=>Q .non H',rt:=Q} (start ["texts","sign","passes","longer"] vs) H:=by
 let#[k,e,j,f,b,rfl,a,i,q]:=h;show#[E0,?_];unfold z7;have c:↑(e++f)=↑e+↑f:=jq _ _;symm;show dC a ?_;symm;show pU i ?_;symm;show Rg (λ_=>?_) λ_=>?_;.symm;show cX a ?_;symm;intro r d;show q r _ _ _ (aq d _) aa (Nat.le_max_left _ _) (by rw[c];show Nat.le_max_right _ _)
 .symm;show cX a ?_;symm;intro r d;show q r _ _ _ (aq d _) aa (by rw[c];show Nat.le_max_right _ _) (Nat.le_max_left _ _)
theorem ut{N M:Nat}(a:↑(cJ wss N)<=N)(b:↑(cJ wss M)<=M):cJ wss N=cJ wss M:=by
 rcases χ N M with h|h;.obtain ⟨j,rfl⟩:=Nat.exists_eq_add_of_le h;show(mJ a j).symm
 .obtain ⟨j,rfl⟩:=Nat.exists_eq_add_of_le h;show mJ b j
inductive fA(K:Ϗ)(vs:ϊ V)(H:Hp)(Q:VK)(E:XK):Prop|mk (wa:ό) (wss:ϲ) (z:Fz) (N:Nat) (_:vs=[.ref wa,.ref z.1]) (_:WsT H wa wss) (_:0<↑wss) (_:↑wss<=100) (_:(∀ws∈wss,↑ws<=1000/\∀w∈ws,↑w.1<=1/\0<=w.2.2/\w.2.2<↑wss)) (_:FkA K H z) (_:↑(cJ wss N)<=N) (_:z.2.2.2.2.2.2∈cJ wss N) (_:↑z.2.2.2.2.1.1<=1) (_:↑z.2.2.2.2.2.1.1<=1) (_:∀r H' t0 t1,Same H H'->H' r=!(.tup [.str t0,.str t1])->↑t0<=200->↑t1<=200->Q (.ref r) H')
def Jo K(E:XK)(Eh:XK):=(aB (aK (fK (cg (eI K) (bR aU)) (tX K bK 2)) (ao 2))
  (aB (aK (tX K bK 3) (ao 3))
  (aB (aK (tX K bK 4) (ao 4))
  (aR (cg (hV K) (jZ (bY (cF c7 (aL fV c7 (tX K di 0)))) (tX K cM 0) (aL sX (gm K (tX K cM 1)) (gm K (tX K di 1)))))))))
theorem Yb(h:fA K vs H Q E):∃L,Jo K E L {nx:=λ_ H'=>Q .non H',rt:=Q} (start ["ways","fork","text","way","later"] vs) H:=by
 let#[wa,wss,z,N,rfl,Y,C,D,e,hz,X,y,ac,ad,q]:=h;show#[E0,?_];unfold Jo;let#[s,f2,#[c1,t,G],#[c2,u,I]]:=id hz;dsimp only at t G u I;symm;show#[wa,wss,rfl,Y,C,D,e,λtd F M ps f ae c n W x=>?_];have k:cJ wss M=cJ wss N:=ut W X;let#[a,mt,S]:=ug (ps:=ps) (r:=z.2.2.2.2.2.2) (by rw[c,k];show y);have J:↑ps<=100:=by
  have T:↑ps=↑(cJ wss M):=by rw[<-c,Qb]
  have U:=fG (l:=cJ wss M) (m:=(List.range ↑wss).map λi:Nat=>(i:Int)) (gJ _ _ M) λr mr=>by
   let#[h0,T]:=fj (P:=λr:Int=>0<=r/\r<↑wss) #[by decide,()] (λp q' hp hq=>by
    let#[w,mw,rfl]:=Zp.mp hq;have:wss.getD p.toNat []∈wss:=by rw[Á,Zs ()];show ä _
    show((e _ this).2 w mw).2) M r mr;show Zp.mpr #[r.toNat,ü.mpr (),()]
  rw[Qb,õ]at U;rfl'
 have B:=x _ mt;dsimp only at B;symm;show jn (f.get s) ?_;show#[td,_,rfl,.inl #[_,_,.inl n,rfl,S.symm],?_];symm;show dw (iq (f.get s)) (aM (j:=3) (v:=.ref z.2.2.1) rfl) ?_;symm;show dw (iq (f.get s)) (aM (j:=4) (v:=.ref z.2.2.2.1) rfl) ?_;symm;show dC (f.get u) ?_;symm;show pU () ?_;symm;intro g A;symm;have b:=f.new (o:=.tup [.str a,.str (a++z.2.2.2.2.2.1.1)]) A;have d:upd F g (.tup [.str a,.str (a++z.2.2.2.2.2.1.1)]) g=!(.tup [.str a,.str (a++z.2.2.2.2.2.1.1)]):=aa;generalize upd F g (.tup [.str a,.str (a++z.2.2.2.2.2.1.1)])=H2 at b d⊢;show dC (b.get t) ?_;symm;show cX (b.get t) ?_;symm;show bQ (iq (b.get G)) ?_;symm;show cX (b.get u) ?_;symm;show bQ (iq (b.get I)) ?_;symm;have Z:↑(a++z.2.2.2.2.2.1.1)=↑a+↑z.2.2.2.2.2.1.1:=jq _ _;show#[g,a,_,_,_,rfl,d,(),λr O t0 t1 s3 R l0 l1=>?_];show q r O t0 t1 (b.trans s3) R () ()
theorem TV(n:Nat):Sh n .none:=#[by simp[PyData.canLay0],by simp[PyData.depth]]
theorem a07{x z:PyData}(b:Sh n x)(c:Sh n y)(e:Sh n z):Sh (n+1) (.tuple [x,y,z]):=gP λd a=>by simp only[Å,â,Ď]at a;rcases a with rfl|rfl|rfl<;>assumption
theorem rEqD.intsT{K:Ϗ}{a:ό}{ns:ϊ Int}(d:SqT K H a (ns.map V.int))(e:SqT K H b (ms.map V.int))(q:Q (.bl (decide (ns=ms))) H):rEqD K (.ref a) (.ref b) H Q:=by
 have c:∀ns:ϊ Int,Sh 1 (.tuple (ns.map PyData.int)):=λns=>gP λx f=>by let#[y,_,rfl]:=Zp.mp f;show dU _ _
 show#[_,_,Dp.intsT d,Dp.intsT e,(c ns).shaped (by decide),(c ms).shaped (by decide),?_];rw[show PyData.eqv (.tuple (ns.map PyData.int)) (.tuple (ms.map PyData.int))=decide (ns=ms)by simp only[PyData.eqv];show ji ns ms];show q
theorem rNeD.intsT{K:Ϗ}{a:ό}{ns:ϊ Int}(d:SqT K H a (ns.map V.int))(e:SqT K H b (ms.map V.int))(q:Q (.bl (not (decide (ns=ms)))) H):rNeD K (.ref a) (.ref b) H Q:=by
 have c:∀ns:ϊ Int,Sh 1 (.tuple (ns.map PyData.int)):=λns=>gP λx f=>by let#[y,_,rfl]:=Zp.mp f;show dU _ _
 show#[_,_,Dp.intsT d,Dp.intsT e,(c ns).shaped (by decide),(c ms).shaped (by decide),?_];rw[show PyData.eqv (.tuple (ns.map PyData.int)) (.tuple (ms.map PyData.int))=decide (ns=ms)by simp only[PyData.eqv];show ji ns ms];show q
inductive gI(K:Ϗ)(vs:ϊ V)(H:Hp)(Q:VK)(E:XK):Prop|mk (sa fa ra:ό) (zs:ϊ (ό×ϐ×Nat×Sd)) (fz:ϊ Fq) (k:Ϻ) (_:vs=[.ref sa,.ref fa,.ref ra]) (_:H sa=!(.lst (zs.map λz=>V.ref z.1))) (_:(∀z∈zs,SpT K H z.1 z.2)) (_:FdT K H fa fz) (_:H ra=!(.tup [.int (k.1:Nat),.int (k.2:Nat)])) (_:(∃z∈zs,∃v,Fnd fz z.2.2.2 v/\k=(v.1+z.2.2.1,v.2+1))) (_:∀z∈zs,∀v,Fnd fz z.2.2.2 v->k=(v.1+z.2.2.1,v.2+1)->∀H',Same H H'->Q (.ref z.1) H')
def z8 K(E:XK)(Eh:XK):=(aB (cV (cB K aU) (ao 3) (bG (aP (aL (rEqD K) (yj bK (tX K cM 2)) (bY (cF (aL rA (tX K c7 0) (tX K cM 1)) (aL rA (tX K c7 1) (tI 1)))))) (aR cM) aW))
  (aR (tC V.non)))
theorem TX(h:gI K vs H Q E):∃T,z8 K E T {nx:=λ_ H'=>Q .non H',rt:=Q} (start ["steps","found","rest","step"] vs) H:=by
 let#[sa,P,ra,zs,l,k,rfl,D,hz,r,C,L,q]:=h;show#[E0,?_];unfold z8;symm;show j7 (λz:ό×ϐ×Nat×Sd=>V.ref z.1) (zs:=zs) (ip D) (λi I H'=>(An3 (Same H H') (∀z∈zs.take i,∀v,Fnd l z.2.2.2 v->k≠(v.1+z.2.2.1,v.2+1)) (Ex1 λN=>I=[!(.ref sa),!(.ref P),!(.ref ra),N]))) #[ix _,by simp,_,rfl] ?_ ?_ ?_;.rintro i I H' ⟨s,_⟩;show ip (s.get D)
 .rintro i z I H' R ⟨s,b,N,rfl⟩;have G:=Yf R;let#[c,O,U]:=hz z G;symm;show#[P,_,rfl,.inl (s.get r.d),?_];symm;show jn (s.get O) ?_;show#[_,SGet.ofR (.inl (s.get r.d)) (mQ λf j=>(r.s f j).1.same s) (U.same s).a,?_];symm;show dC (s.get C) ?_;symm;show cX (s.get O) ?_;symm;show cX (s.get C) ?_;symm;intro p Y;have F:=s.new (o:=.tup [.int ((k.1:Int)-(z.2.2.1:Int)),.int ((k.2:Int)-1)]) Y;have ep:upd H' p (.tup [.int ((k.1:Int)-(z.2.2.1:Int)),.int ((k.2:Int)-1)]) p=!(.tup ([(k.1:Int)-(z.2.2.1:Int),(k.2:Int)-1].map V.int)):=aa;generalize upd H' p (.tup [.int ((k.1:Int)-(z.2.2.1:Int)),.int ((k.2:Int)-1)])=H2 at F ep⊢;have u:∀(S:∀v,Fnd l z.2.2.2 v->k≠(v.1+z.2.2.1,v.2+1)),∀y∈zs.take (i+1),∀v,Fnd l y.2.2.2 v->k≠(v.1+y.2.2.1,v.2+1):=λS y t=>by
   rw[Ò,R]at t;rcases Ã.mp t with t|t;.show b y t
   .have:y=z:=by simpa using t
    rw[this];show S
  by_cases m:z.2.2.2∈l.map (·.2.1)
  .obtain ⟨f,j,J⟩:=Zp.mp m;have M:∀v,Fnd l z.2.2.2 v->v=f.2.2.2:=λv ⟨g,mg,w,A⟩=>by rw[<-A,gQ r.n mg j (w.trans J.symm)]
   have X:dj (cL (mO l)) (iz z.2.2.2)=!(V.ref f.2.2.1):=by rw[<-J];show jD (zs:=mO l) (z:=(f.1,f.2.1,f.2.2.1)) (by rw[iZ];show r.n) (Zp.mpr #[f,j,rfl])
   rw[X];have W:H2 f.2.2.1=!(.tup ([(f.2.2.2.1:Int),(f.2.2.2.2:Int)].map V.int)):=F.get (r.s f j).2;show rEqD.intsT (iq W) (iq ep) ?_;show#[_,rfl,?_];show dO (λc=>?_) λc=>?_
   .symm;have B:k=(f.2.2.2.1+z.2.2.1,f.2.2.2.2+1):=by
     injection c with c1 c2;injection c2 with c2;show Prod.ext (by change k.1=_;rfl') (by change k.2=_;rfl')
    show q z G f.2.2.2 #[f,j,J,rfl] B _ F
   .symm;show#[F,u λv Z B=>c ?_,_,rfl];rw[M v Z]at B;have w:=Ô Prod.fst B;have A:=Ô Prod.snd B;dsimp only at w A;rw[show(k.1:Int)-(z.2.2.1:Int)=(f.2.2.2.1:Int)by rfl',show(k.2:Int)-1=(f.2.2.2.2:Int)by rfl']
  .rw [jr (by rw[iZ];show m)];show#[_,_,.non,Dp.intsT (iq ep),(TV 1).shaped (by decide),(gP (n:=0) λx mx=>?_).shaped (by decide),?_];.obtain ⟨y,_,rfl⟩:=Zp.mp mx;show dU _ _
   symm;rw[show PyData.eqv .none (.tuple ([(k.1:Int)-(z.2.2.1:Int),(k.2:Int)-1].map PyData.int))=false by simp[PyData.eqv],if_neg (by decide)];symm;show#[F,u λv ⟨f,j,e,_⟩=>absurd (Zp.mpr #[f,j,e]) m,_,rfl]
 .rintro I H' ⟨s,b,N,rfl⟩;rw[ç]at b;let#[z,G,v,w,A]:=L;show absurd A (b z G v w)
theorem wD{d:Sd->Prop}(h:Dj d B F (λ_ _=>False)):∀(n:Nat)(x:Sd)(k:Ϻ),k.2=n->F x k->∃l:ϊ (Sd×(Ϻ)),↑l=n+1/\(∀p∈l,F p.1 p.2/\p.2.2<=n)/\(l.map λp=>p.2.2).Nodup
 |0,x,k,e,hf=>#[[(x,k)],rfl,λp a=>by rw[Zl.mp a];show#[hf,Nat.le_of_eq e],by simp]|n+1,x,k,e,hf=>by
  rcases h.s x k (.inl hf)with⟨_,rfl⟩|⟨c,y,v,_,hy,rfl⟩;.cases e
  .obtain ⟨l,f,b,g⟩:=wD h n y v (Nat.succ.inj e) hy;show#[(x,(v.1+c,v.2+1))::l,by rw[ô,f],λp a=>?_,?_]
   .rcases Å.mp a with rfl|a;.show #[hf,Nat.le_of_eq e]
    .show #[(b p a).1,Nat.le_succ_of_le (b p a).2]
   .rw [È,æ];show#[λm=>?_,g];let#[p,a,ep]:=Zp.mp m;have:=(b p a).2;dsimp only at ep e;rfl'
theorem Jp(h:Dj ev B (Fnd fz) (λ_ _=>False)){x:Sd}(d:Fnd fz x k):k.2<↑fz:=by
 let#[l,a,b,c]:=wD h _ x k rfl d;have:=fG (l:=l.map λp=>p.2.2) (m:=fz.map λf=>f.2.2.2.2) c λy j=>by let#[p,i,rfl]:=Zp.mp j;let#[f,g,_,e]:=(b p i).1;show Zp.mpr #[f,g,by rw[e]]
 rw[Qb,Qb,a]at this;show this
inductive gN(K:Ϗ)(vs:ϊ V)(H:Hp)(Q:VK)(E:XK):Prop|mk (f oa fa sa ta:ό) (h:Nat) (ls:ϵ) (gz:ϊ Gz) (st:Sd->ϊ (ϐ×Nat×Sd)) (es:ϊ Int) (fz:ϊ Fq) (x:Sd) (_:vs=[.ref f,.ref oa,.ref fa,.ref sa,.ref ta]) (_:FnF K H f h ls) (_:Fo.Wf h ls) (_:Rd H oa (bF oa (cL gz))) (_:(∀z∈gz,StT K H z.1 z.2.1/\SsT K H z.2.2 (st z.2.1))) (_:(gz.map (·.2.1)).Nodup) (_:(∀z∈gz,∀e∈st z.2.1,(∃co,Fo.lk ls e.1=!co)/\↑e.1<=1)) (_:FdT K H fa fz) (_:↑fz<=100000) (_:Dj (Ld es (gz.map (·.2.1))) (Et st (gz.map (·.2.1))) (Fnd fz) (λ_ _=>False)) (_:StT K H sa x) (_:(∃k,Fnd fz x k)) (_:(∃t0 t1:ϐ,H ta=!(.tup [.str t0,.str t1])/\↑t0<=200/\↑t1<=200)) (_:∀r H' t0 t1,Same H H'->H' r=!(.tup [.str t0,.str t1])->Q (.ref r) H')
abbrev Jq K:=(aB (fX (aP (aL (rNeD K) (lG c7 cM) (bY (cF (tI 0) (tI 0))))) (aB (aK (cg (gI K) (jZ (lG bK cM) c7 (lG c7 cM))) (ao 6))
  (aB (aK (cg (hV K) (jZ di (tX K gH 0) (aL sX (gm K (fK dB (tX K gH 0))) (gm K (tX K cM 2))))) (ao 4))
  (aK (tX K gH 2) (ao 3)))))
  (aR di))
def z9 K(E:XK)(Eh:XK):=(aB (aK (gw (lA K) (bR (tX K aU 1))) (ao 5))
  (Jq K))
theorem TY(h:gN K vs H Q E):∃Eh,z9 K E Eh {nx:=λ_ H'=>Q .non H',rt:=Q} (start ["font","onward","found","stand","texts","letters","step"] vs) H:=by
 let#[f,oa,fa,sa,J,h,ls,gz,st,es,L,x,rfl,hF,wf,ar,U,am,al,b,a3,hD,j,#[k,M],#[G,I,B,l0,l1],q]:=h;show#[E0,?_];unfold z9;let#[l,ob,C,h1,ez,as,h3,h4]:=id hF;symm;show cX h1 ?_;symm;have ap:(C.map (·.2.1)).Nodup:=by have:=iy wf.up;rw[<-ez,Æ]at this;show this
 have a7:=wf.le;have a2:↑C=↑ls:=by rw[<-ez,Qb]
 show wu (zs:=C.map λz:Lz=>(z.1,z.2.1,V.ref z.2.2.1)) as (by rw[Æ];show h3) (λz m=>?_) (by rw[Æ];show ap) (by rw[Qb];rfl') λpc av=>?_;.obtain ⟨y,my,rfl⟩:=Zp.mp m;show iq (h4 y my).1
 rw[Æ];let#[P,A]:∃P,P=upd H pc (HO.dK (C.map ((λz:ό×ϐ×V=>((Sum.inr z.2.1:Key),z.2.2))∘λz:Lz=>(z.1,z.2.1,V.ref z.2.2.1)))):=#[_,rfl];have s1:Same H P:=by rw[A];show aq av _
 have ad:P pc=!(.dK (C.map λz:Lz=>((Sum.inr z.2.1:Key),V.ref z.2.2.1))):=by rw[A];show aa
 rw[<-A];clear A;symm;walk_at "ns";have a5:=Jp hD M;have af:∀{H':Hp},Same H H'->Rd H' oa (bF oa (cL gz)):=λs=>by
  rcases ar with e|⟨od,e⟩;.show .inl (s.get e)
  .show .inr #[od,s.get e]
 have ah:∀{H':Hp},Same H H'->∀p∈cL gz,uD H' p.1 p.2.1:=λs p mp=>by let#[g,X,rfl]:=Zp.mp mp;show((U g X).1.same s).a
 have T:∀{H':Hp},Same H H'->∀p∈cL (mO L),uD H' p.1 p.2.1:=λs=>mQ λf D=>(b.s f D).1.same s;show pY (λm σ H'=>(An2 (Same P H') (Ex7 λ(sa J:ό) (x:Sd) (k:Ϻ) (G I:ϐ) (o6:ύ V)=>(An7 (StT K H' sa x) (Fnd L x k) (k.2=m) (H' J=!(.tup [.str G,.str I])) (↑G+m<=100200) (↑I+m<=100200) (σ=[!(.ref f),!(.ref oa),!(.ref fa),!(.ref sa),!(.ref J),!(.ref pc),o6]))))) k.2 #[ix _,sa,J,x,k,G,I,_,j.same s1,M,rfl,s1.get B,(),(),rfl] ?_ ?_
 .rintro m σ H' N ⟨s,sa,J,x,k,G,I,o6,j,M,rfl,B,l0,l1,rfl⟩ hN;have sH:=s1.trans s;let#[t,D,ef,ek]:=id M;have ev:dj (cL (mO L)) (iz x)=!(V.ref t.2.2.1):=by rw[<-ef];show jD (zs:=mO L) (z:=(t.1,t.2.1,t.2.2.1)) (by rw[iZ];show b.n) (Zp.mpr #[t,D,rfl])
  have er:H t.2.2.1=!(.tup [.int (k.1:Nat),.int (k.2:Nat)]):=by rw[<-ek];show(b.s t D).2
  symm;show#[fa,.ref t.2.2.1,rfl,by rw[<-ev];show SGet.of (sH.get b.d) (T sH) j.a,?_];symm;intro p hp;have i:=sH.new (o:=.tup [.int 0,.int 0]) hp;have F:=aq (o:=.tup [.int 0,.int 0]) hp;have ep:upd H' p (.tup [.int 0,.int 0]) p=!(.tup ([(0:Int),0].map V.int)):=aa;generalize upd H' p (.tup [.int 0,.int 0])=H2 at i F ep⊢;have e3:H2 t.2.2.1=!(.tup ([(k.1:Int),(k.2:Int)].map V.int)):=i.get er;show rNeD.intsT (iq e3) (iq ep) ?_;show#[_,rfl,?_];show lJ (λc=>?_) λc=>?_
  .have ai:x∈gz.map (·.2.1):=by
    rcases hD.s x k (.inl M)with h|⟨_,_,_,h,_⟩;.show h.1.1
    .show h.1
   let#[g,X,eg]:=Zp.mp ai;let#[_,zs,z1,z2,z3]:=U g X;have ae:dj (cL gz) (iz x)=!(V.ref g.2.2):=by rw[<-eg];show jD am X
   symm;show#[oa,.ref g.2.2,rfl,by rw[<-ae];show SGet.ofR (af i) (ah i) (j.same F).a,?_];symm;show#[fa,.ref t.2.2.1,rfl,by rw[<-ev];show SGet.of (i.get b.d) (T i) (j.same F).a,?_];symm;have W:∃z∈zs,∃v,Fnd L z.2.2.2 v/\k=(v.1+z.2.2.1,v.2+1):=by
    rcases hD.s x k (.inl M)with⟨_,rfl⟩|⟨c',y,v,⟨_,sg,ms⟩,hv,e⟩;.show absurd rfl c
    .have:(sg,c',y)∈zs.map (·.2):=by rw[z1,show g.2.1=x from eg];show ms
     let#[z,O,S]:=Zp.mp this;show#[z,O,v,by rw[S];show hv,by rw[S];show e]
   show#[g.2.2,fa,t.2.2.1,zs,L,k,rfl,i.get z2,λz O=>(z3 z O).same i,#[i.get b.d,λf D=>#[(b.s f D).1.same i,i.get (b.s f D).2],b.n],i.get er,W,λz O v hv ac H3 Z=>?_];let#[c',y1,y2]:=(z3 z O).same (i.trans Z);have ax:z.2∈st g.2.1:=by rw[<-z1];show Zp.mpr #[z,O,rfl]
   let#[#[co,ag],a6]:=al g X _ ax;symm;show dC y1 ?_;symm;show dC y1 ?_;symm;let#[lw,aw,a1,R]:=Ir (zs:=C) (s:=z.2.1) (by rw[show C.map (λz:Lz=>(z.2.1,z.2.2.2))=ls from ez];show ag);have ay:=i.trans Z;have Y:=(s.trans F).trans Z;show#[pc,.ref lw.2.2.1,rfl,by rw[<-R];show DGet.k (k:=Sum.inr z.2.1) (Y.get ad),?_];symm;show bQ (iq (ay.get (h4 lw aw).2)) ?_;let#[sc,u1,u2]:=(j.same F).same Z;symm;show jn u1 ?_;symm;show bQ (iq u2) ?_;symm;have a4:k.2=v.2+1:=by rw[ac]
   show#[J,G,I,z.2.1,_,rfl,Z.get (F.get B),(),λr H4 v0 v1 s4 er m0 m1=>?_];symm;show jn (s4.get y1) ?_;symm;show hN v.2 _ _ () #[Y.trans s4,c',r,z.2.2.2,v,v0,v1,_,y2.same s4,hv,rfl,er,(),(),rfl]
  .symm;show q J _ G I i (F.get B)
 .show Oa (XN (Ob K) (λσ H Q Q' hq z=>by let#[v,e,w,e',a,u,h1,h2,h3]:=z;show#[v,e,w,e',a,u,h1,h2,hq _ _ h3]) (λσ H Q Q' hq z=>#[z.1,λp hp=>hq _ _ (z.2 p hp)]))
noncomputable def stD(st:Sd):PySem.PyData:=.tuple [.int st.1,.int st.2.1,.tuple ((st.2.2.map λn:Nat=>(n:Int)).map PySem.PyData.int)]
theorem U0(st:Sd):Sh 2 (stD st):=gP λd a=>by
 simp only[Å,â,Ď]at a;rcases a with rfl|rfl|rfl;.show dU 1 _
 .show dU 1 _
 .show gP λd a=>by let#[i,_,rfl]:=Zp.mp a;show dU 0 i
theorem Yc{K:Ϗ}{st:Sd}(h:StT K H a st):Dp K H (.ref a) (stD st):=by let#[c,b,d]:=h;show .tup (iq b) (.cons (.int _) (.cons (.int _) (.cons (Dp.intsT (iq ?_)) .nil)));rw[d,Æ];rfl
theorem leP.anti(h:leP k l)(g:leP l k):k=l:=by let#[a,b]:=k;let#[c,d]:=l;unfold leP at h g;dsimp only at h g;rw[show a=c by rfl',show b=d by rfl']
theorem Dj.le(h:Dj ev B F (λ_ _=>False))(h':Dj ev B F' (λ_ _=>False)):∀(n:Nat) x k,k.2=n->F x k->∃g,F' x g/\leP g k:=by intro n;induction n with
 |zero=>
  intro x k d a;rcases h.s x k (.inl a)with⟨he,rfl⟩|⟨c,y,v,hB,hy,rfl⟩;.show #[_,(h'.e x he).resolve_right id,leP.refl _]
  .cases d|succ n ih=>
  intro x k d a;rcases h.s x k (.inl a)with⟨he,rfl⟩|⟨c,y,v,hB,hy,rfl⟩;.show #[_,(h'.e x he).resolve_right id,leP.refl _]
  .obtain ⟨m,f,l⟩:=ih y v (Nat.succ.inj d) hy;let#[u,i,j]:=(h'.b c x y m hB f).resolve_right id;show#[u,i,j.trans (by unfold leP at l⊢;dsimp only;rfl')]
theorem Dj.uni(h:Dj ev B F (λ_ _=>False))(h':Dj ev B F' (λ_ _=>False))(u:∀x k l,F x k->F x l->k=l){x:Sd}(a:F x k):F' x k:=by let#[d,g,e]:=h.le h' _ x k rfl a;let#[k2,c,b]:=h'.le h _ x d rfl g;rw[<-u x k k2 a c]at b;rw[b.anti e];show g
abbrev uv:=ϐ×ϊ Nat×Int
noncomputable def uF(z:uv×uv×Int):Nat:=cst z.2.1.2.1 z.1.2.1
noncomputable def Wh(w:uv):PySem.PyData:=.tuple [.str w.1,.tuple ((w.2.1.map λn:Nat=>(n:Int)).map PySem.PyData.int),.int w.2.2]
noncomputable def Zr(z:uv×uv×Int):PySem.PyData:=.tuple [.int (uF z:Nat),stD (nj z),.int z.2.2,Wh z.1,Wh z.2.1]
noncomputable def wL(c:Nat)(z:uv×uv×Int):PySem.PyData:=.tuple [.int (c:Nat),Zr z]
theorem El(ns:ϊ Int)(n:Nat):Sh (n+1) (.tuple (ns.map PySem.PyData.int)):=gP λd a=>by let#[i,_,rfl]:=Zp.mp a;show dU n i
theorem Jr{w:uv}(h:Hs.Sg w.1):Sh 2 (Wh w):=a07 (XJ 1 h) (El _ 0) (dU 1 _)
theorem U3{z:uv×uv×Int}(b:Hs.Sg z.1.1)(e:Hs.Sg z.2.1.1):Sh 4 (wL c z):=gP λd a=>by
 simp only[Å,â,Ď]at a;rcases a with rfl|rfl;.show dU 3 _
 .show gP λd a=>?_;simp only[Å,â,Ď]at a;rcases a with rfl|rfl|rfl|rfl|rfl;.show dU 2 _
  .show U0 _
  .show dU 2 _
  .show Jr b
  .show Jr e
theorem ql:∀ns ms:ϊ Int,Nk.CmpDs (ns.map PySem.PyData.int) (ms.map PySem.PyData.int)
 |[],_=>.nil|_::_,[]=>.over|n::ns,m::ms=>.cons (.int n m) (ql ns ms)
theorem BV(v w:uv):Nk.CmpD (Wh v) (Wh w):=.tup (.cons (.str _ _) (.cons (.tup (ql _ _)) (.cons (.int _ _) .nil)))
theorem Ol(c d:Nat)(y z:uv×uv×Int):Nk.CmpD (wL c y) (wL d z):=.tup (.cons (.int _ _) (.cons (.tup (.cons (.int _ _) (.cons (.tup (.cons (.int _ _) (.cons (.int _ _) (.cons (.tup (ql _ _)) .nil)))) (.cons (.int _ _) (.cons (BV _ _) (.cons (BV _ _) .nil)))))) .nil))
noncomputable def Js:PySem.PyData->Int
 |.tuple (.int c::_)=>c|_=>0
theorem U4(c d:Nat)(y z:uv×uv×Int):(Nk.u6 (wL c y) (wL d z)=true->Js (wL c y)<=Js (wL d z))/\(Nk.u6 (wL c y) (wL d z)=false->Js (wL d z)<=Js (wL c y)):=by
 have e:Nk.u6 (wL c y) (wL d z)=if PyData.eqv (.int (c:Nat)) (.int (d:Nat))=true then Nk.u9 [Zr y] [Zr z]else decide ((c:Int)<(d:Int)):=by unfold wL;rw[Nk.u6,Nk.u9,Nk.u6]
 rw[e];change(_->(c:Int)<=(d:Int))/\(_->(d:Int)<=(c:Int));by_cases h:(c:Int)=(d:Int);.show #[λ_=>Int.le_of_eq h,λ_=>Int.le_of_eq h.symm]
 .rw [if_neg (by simp[PyData.eqv];rfl')];show#[λh=>Int.le_of_lt (é h),λh=>Int.not_lt.mp (Į h)]
theorem PP{K:Ϗ}{z:Wz}(h:WyT H z):Dp K H (.ref z.1) (Wh z.2):=by let#[c,a,b]:=h;show .tup (iq a) (.cons (.str _) (.cons (Dp.intsT (iq ?_)) (.cons (.int _) .nil)));rw[b,Æ];rfl
theorem Yd{K:Ϗ}{z:Fz}(h:FkA K H z):Dp K H (.ref z.1) (Zr z.2.2.2.2):=.tup (iq h.1) (.cons (.int _) (.cons (Yc h.2.1) (.cons (.int _) (.cons (PP h.2.2.1) (.cons (PP h.2.2.2) .nil)))))
theorem PQ{wss:ϊ (ϊ uv)}{z:uv×uv×Int}(m:z∈qu wss f):z.2.2∈f/\z.1∈wss.getD z.2.2.toNat []/\z.2.1∈wss.getD z.2.2.toNat []:=by
 let#[r,c,n]:=ł.mp m;let#[b,j,i]:=ł.mp n;let#[a,d,rfl]:=Zp.mp i;have h:=ü.mp j;have d:=ü.mp d;have g:∀k,k<↑(wss.getD r.toNat [])->(wss.getD r.toNat []).getD k default∈wss.getD r.toNat []:=by generalize wss.getD r.toNat []=l;intro k e;rw[Á,Zs e];show ä e
 show#[c,g a (),g b h]
inductive fS(K:Ϗ)(vs:ϊ V)(H:Hp)(Q:VK)(E:XK):Prop|mk (f ha:ό) (h:Nat) (ls:ϵ) (ds:L2S) (es:ϊ Int) (_:vs=[.ref f,.ref ha]) (_:FnF K H f h ls) (_:Fo.Wf h ls) (_:HsG K H ha ds es) (_:Wg ls ds) (_:∀N (S:ϊ Sd) (fz:ϊ Fq),↑(cJ (ds.map (aO ls)) N)<=N->(∀x,x∈S↔Mm.Rch (Lb (ds.map (aO ls)) N) (PN (ds.map (aO ls))) x)->(fz.map (·.2.1)).Nodup->Dj (Ld es S) (Et (Oj ls (ds.map (aO ls))) S) (Fnd fz) (λ_ _=>False)->((∀z∈qu (ds.map (aO ls)) (cJ (ds.map (aO ls)) N),∀k,¬Fnd fz (nj z) k)->∀H',Same H H'->Q .non H')/\∀r H' (L:Nat) t0 t1,Same H H'->H' r=!(.tup [.int (L:Nat),.str t0,.str t1])->(∃z∈qu (ds.map (aO ls)) (cJ (ds.map (aO ls)) N),∃k,Fnd fz (nj z) k/\L=uF z+k.1)->(∀z∈qu (ds.map (aO ls)) (cJ (ds.map (aO ls)) N),∀k,Fnd fz (nj z) k->L<=uF z+k.1)->Q (.ref r) H')
abbrev Jt K:=(aB (bG (aP (aL rZ (gm K dB) (tI 0))) (aR (tC V.non)) aW)
  (aB (aK (gw (uc K) (bR dB)) (ao 6))
  (aB (aK (cg (gN K) (bM aU (pZ cM di (tX K (tX K gH 1) 1) (cg (fA K) (cF c7 (tX K gH 1)))))) (ao 7))
  (aR (bY (jZ (tX K gH 0) (gw (pO K) (bR jY)) (gw (pO K) (bR jY))))))))
abbrev Ju K:=(aB (aK (cg (eP K) (cF aU bK)) (ao 3))
  (aB (aK (cg (hZ K) (cF cM (tX K bK 1))) (ao 4))
  (aB (aK (mU [none,!4] (cB K (cg (hI K) (cF aU c7))) (ao 0) (tB (R4 (tX K aU 1) bK)) (bY (cF (aL cG (tX K aU 0) (tX K (lG bK (tX K aU 1)) 0)) aU))) (ao 5))
  (Jt K))))
def zb K(E:XK)(Eh:XK):=(aB (aK (cg (fT K) (cF aU bK)) (ao 2))
  (Ju K))
theorem U5(h:fS K vs H Q E):∃Eh,zb K E Eh {nx:=λ_ H'=>Q .non H',rt:=Q} (start ["font","house","ways","onward","found","pairs","least","texts"] vs) H:=by
 let#[f,ha,h,ls,ds,es,rfl,hF,wf,hH,sz,q]:=h;show#[E0,?_];unfold zb;have ac:=BK wf sz;let#[b6,b9,bi,ca]:=id sz;have a9:↑(ds.map (aO ls))=↑ds:=Qb _;have R:∀A∈ds.map (aO ls),A.length<=18:=λA t=>by let#[ps,ae,rfl]:=Zp.mp t;show Ð (ė ..) (bi ps ae).1
 have ay:∀A∈ds.map (aO ls),∀w∈A,Fo.lk ls w.1=!w.2.1:=λA t w B=>by let#[ps,ae,rfl]:=Zp.mp t;let#[p,mp,ep]:=ñ.mp (show w∈ps.filterMap _ from B);let#[co,bl,rfl]:=Ï.mp ep;show bl
 have as:∀A∈ds.map (aO ls),∀w∈A,Hs.Sg w.1:=λA t w B=>wf.sg _ (ac A t w B).1.1;have ad:∀A∈ds.map (aO ls),∀w∈A,↑w.1<=1:=λA t w B=>by let#[k,e]:=as A t w B;rw[e];show Ç _
 have C:∀{r:Nat}{w:uv},w∈(ds.map (aO ls)).getD r []->∃A∈ds.map (aO ls),w∈A:=λ{r w} B=>by
  rw[Á]at B;cases e:(ds.map (aO ls))[r]?with
  |none=>rw[e]at B;cases B|some A=>rw[e]at B;show#[A,Yf e,B]
 symm;show#[f,ha,h,ls,ds,es,rfl,hF,wf,hH,(),λps ae=>by have:=(bi ps ae).1;rfl',λwa H1 s1 b3 hW=>?_];symm;show#[f,ha,h,ls,ds,es,rfl,hF.same s1,wf,hH.same s1,sz,λoa H2 N gz s2 bq hN e2 hg hl a7 hR=>?_];symm;let#[d,e,rs,a1,a2,a3,a4,a5]:=(hH.same s1).same s2;show cX a1 ?_;symm;show#[oa,e,gz,Oj ls (ds.map (aO ls)),es,rfl,.inl e2,λz F=>#[(hg z F).1,(hg z F).2,?_],a7,hl,λz F u D=>?_,iq a5,λod fa H3 L be bn bv I hD=>?_];.rw [Qb,Á];cases e:(ds.map (aO ls))[z.2.1.1.toNat]?with
  |none=>show á _|some A=>show R A (Yf e)
 .show (hR _).mpr (.step ((hR _).mp (Zp.mpr #[z,F,rfl])) ?_);let#[w,B,rfl]:=Zp.mp D;show Zp.mpr #[w,B,rfl]
 let#[qn,qs]:=q N (gz.map (·.2.1)) L hN hR I.n hD;have S3:Same H1 H3:=λb o e=>be b o (λm=>by rw[Zl.mp m,bq]at e;cases e) (s2.get e);have bg:∀z∈gz,StT K H3 z.1 z.2.1/\SsT K H3 z.2.2 (Oj ls (ds.map (aO ls)) z.2.1):=λz F=>by
  have ne:∀{b:ό}{o:HO},H2 b=!o->(∀u,o≠bF oa u)->H3 b=!o:=λ{b o} e hn=>be.get (λm=>by rw[Zl.mp m,e2]at e;show hn _ (Ù e).symm) e;let#[#[c,g1,g2],#[zs,k1,k2,k3]]:=hg z F;show#[#[c,ne g1 λu q=>(by cases q),ne g2 λu q=>(by cases q)],zs,k1,ne k2 λu q=>(by cases q),λy S=>?_];let#[c',j1,bk,j2,j3]:=k3 y S;show#[c',ne j1 λu q=>(by cases q),bk,ne j2 λu q=>(by cases q),ne j3 λu q=>(by cases q)]
 have bd:=s1.trans S3;symm;show#[f,wa,h,ls,ds.map (aO ls),rfl,hF.same bd,wf,hW.same S3,(),(),λA t=>#[by have:=R A t;rfl',λw B=>#[ay A t w B,by rw[a9];show(ac A t w B).2]],λfk H4 M s4 b0 hM ⟨kz,W,aw,ap⟩=>?_];rw[ut hM hN]at W;have b1:↑kz<=100000:=by
  have h1:=uq R (cJ (ds.map (aO ls)) N);rw[<-W,Qb]at h1;have X:=fG (l:=cJ (ds.map (aO ls)) N) (m:=(List.range ↑ds).map λi:Nat=>(i:Int)) (gJ _ _ N) λr mr=>by let#[h0,h1]:=fj (P:=λr:Int=>0<=r/\r<↑ds) #[by decide,()] (λp q' hp hq=>by let#[w,B,rfl]:=Zp.mp hq;let#[A,t,B]:=C B;show(ac A t w B).2) N r mr;show Zp.mpr #[r.toNat,ü.mpr (),()]
  rw[Qb,õ]at X;rfl'
 have am:∀z∈kz,z.2.2.2.2∈qu (ds.map (aO ls)) (cJ (ds.map (aO ls)) N):=λz F=>by rw[<-W];show Zp.mpr #[z,F,rfl]
 have ax:∀{H':Hp},Same H4 H'->FdT K H' fa L:=λs=>#[s.get (s4.get I.d),λf Z=>#[((I.s f Z).1.same s4).same s,s.get (s4.get (I.s f Z).2)],I.n];symm;walk_at "ns";show qH (λz:Fz=>V.ref z.1) (zs:=kz) (ip aw) () (λi ys H'=>(An2 (Same H4 H') (Ex1 λ(us:ϊ (ό×Nat×Fz))=>(An4 (ys=us.map (λu=>V.ref u.1)) (↑us<=i) (∀u∈us,H' u.1=!(.tup [.int (u.2.1:Nat),.ref u.2.2.1])/\u.2.2∈kz/\∃k,Fnd L (nj u.2.2.2.2.2.2) k/\u.2.1=uF u.2.2.2.2.2.2+k.1) (∀z∈kz.take i,∀k,Fnd L (nj z.2.2.2.2) k->∃u∈us,u.2.1=uF z.2.2.2.2+k.1))))) #[ix _,[],rfl,Ç _,by simp,by simp] ?_ ?_ ?_ ?_;.rintro i ys H' ⟨s,_⟩;show ip (s.get aw)
 .rintro i ys H' ⟨_,us,rfl,ar,_⟩;rw[Qb];show ar
 .rintro i z ys H' hi ⟨s,us,rfl,ar,G,J⟩;have F:=Yf hi;let#[f1,f2,_,_]:=(ap z F).same s;have Y:=ax s;have ag:∀{H2:Hp},Same H' H2->∀U:ϊ (ό×Nat×Fz),U.length<=1->(∀u∈U,H2 u.1=!(.tup [.int (u.2.1:Nat),.ref u.2.2.1])/\u.2.2∈kz/\∃k,Fnd L (nj u.2.2.2.2.2.2) k/\u.2.1=uF u.2.2.2.2.2.2+k.1)->(∀k,Fnd L (nj z.2.2.2.2) k->∃u∈U,u.2.1=uF z.2.2.2.2+k.1)->(An2 (Same H4 H2) (Ex1 λ(af:ϊ (ό×Nat×Fz))=>(An4 (us.map (λu=>V.ref u.1)++U.map (λu=>V.ref u.1)=af.map (λu=>V.ref u.1)) (↑af<=i+1) (∀u∈af,H2 u.1=!(.tup [.int (u.2.1:Nat),.ref u.2.2.1])/\u.2.2∈kz/\∃k,Fnd L (nj u.2.2.2.2.2.2) k/\u.2.1=uF u.2.2.2.2.2.2+k.1) (∀z∈kz.take (i+1),∀k,Fnd L (nj z.2.2.2.2) k->∃u∈af,u.2.1=uF z.2.2.2.2+k.1)))):=λ{H2} s2 U b2 h1 X=>by
   show#[s.trans s2,us++U,by rw[Wp],by rw[Â];rfl',λu D=>?_,λy S k hk=>?_]
   .rcases Ã.mp D with D|D;.show #[s2.get (G u D).1,(G u D).2]
    .show h1 u D
   .rw [Ò,hi]at S;rcases Ã.mp S with S|S;.obtain ⟨u,D,e⟩:=J y S k hk;show#[u,ß _ D,e]
    .have ey:y=z:=by simpa using S
     rw[ey]at hk⊢;let#[u,D,e]:=X k hk;show#[u,Ø _ D,e]
  symm;show cX f1 ?_;symm;show#[fa,_,rfl,SGet.of Y.d (mQ λf Z=>(Y.s f Z).1) f2.a,?_];by_cases m:nj z.2.2.2.2∈L.map (·.2.1)
  .obtain ⟨O,Z,ef⟩:=Zp.mp m;have ev:dj (cL (mO L)) (iz (nj z.2.2.2.2))=!(V.ref O.2.2.1):=by rw[<-ef];show jD (zs:=mO L) (z:=(O.1,O.2.1,O.2.2.1)) (by rw[iZ];show I.n) (Zp.mpr #[O,Z,rfl])
   rw[show dj (cL (mO L)) (iz (J9 z.2.2.2.2.1 z.2.2.2.2.2.1.2.2 z.2.2.2.2.2.1.2.1))=!(V.ref O.2.2.1)from ev];show#[true,rfl,?_];rw[if_pos rfl];symm;show dw (iq f1) (aM (j:=0) (v:=.int (uF z.2.2.2.2:Nat)) (by rfl)) ?_;symm;show cX f1 ?_;symm;show#[fa,.ref O.2.2.1,rfl,by rw[<-ev];show SGet.of Y.d (mQ λf Z=>(Y.s f Z).1) f2.a,?_];symm;show dw (iq (Y.s O Z).2) (aM (j:=0) (v:=.int (O.2.2.2.1:Nat)) rfl) ?_;symm;intro p hp;rw[show((uF z.2.2.2.2:Nat):Int)+((O.2.2.2.1:Nat):Int)=((uF z.2.2.2.2+O.2.2.2.1:Nat):Int)by rfl'];show ag (aq hp _) [(p,uF z.2.2.2.2+O.2.2.2.1,z)] (Ç _) (λu D=>?_) λk ⟨g,mg,e1,e2⟩=>#[_,Ë,?_];.rw [Zl.mp D];show#[aa,F,O.2.2.2,#[O,Z,ef,rfl],rfl]
   .rw [<-e2,gQ I.n mg Z (e1.trans ef.symm)]
  .rw [show dj (cL (mO L)) (iz (J9 z.2.2.2.2.1 z.2.2.2.2.2.1.2.2 z.2.2.2.2.2.1.2.1))=none from jr (by rw[iZ];show m)];symm;have:=ag (ix _) [] (á _) (by simp) λk ⟨g,mg,e1,_⟩=>absurd (Zp.mpr #[g,mg,e1]) m;simpa using this
 rintro ys H5 ⟨s5,us,rfl,ar,G,J⟩ pa a8;rw[ç]at J;have s6:=s5.new (o:=.lst (us.map λu=>V.ref u.1)) a8;have ai:upd H5 pa (.lst (us.map λu=>V.ref u.1)) pa=!(.lst (us.map λu=>V.ref u.1)):=aa;replace G:∀u∈us,upd H5 pa (.lst (us.map λu=>V.ref u.1)) u.1=!(.tup [.int (u.2.1:Nat),.ref u.2.2.1])/\u.2.2∈kz/\∃k,Fnd L (nj u.2.2.2.2.2.2) k/\u.2.1=uF u.2.2.2.2.2.2+k.1:=λu D=>#[aA a8 (G u D).1,(G u D).2];generalize upd H5 pa (.lst (us.map λu=>V.ref u.1))=H6 at s6 ai G⊢;have av:=bd.trans s4;symm;show bJ (ip ai) ?_;rw[Qb];symm;show dO (λc=>?_) λc=>?_;.symm;have br:us=[]:=Α.mp ();show qn (λz F k hk=>?_) _ (av.trans s6);rw[<-W]at F;let#[y,S,rfl]:=Zp.mp F;let#[u,D,_]:=J y S k hk;rw[br]at D;cases D
 symm;have ah:∀z∈kz,Hs.Sg z.2.2.2.2.1.1/\Hs.Sg z.2.2.2.2.2.1.1:=λz F=>by let#[_,m1,m2]:=PQ (am z F);let#[w1,n1,o1]:=C m1;let#[w2,n2,o2]:=C m2;show#[as w1 n1 _ o1,as w2 n2 _ o2]
 show Oc (us:=us.map λu=>(V.ref u.1,wL u.2.1 u.2.2.2.2.2.2)) Js (by rw[Æ];show ip ai) (λe=>c (by rw[ς.mp e];rfl)) (λv mv=>?_) (λv mv w B=>?_) λv mv a6=>?_;.obtain ⟨u,D,rfl⟩:=Zp.mp mv;let#[h1,X,_]:=G u D;have:=U3 (c:=u.2.1) (ah _ X).1 (ah _ X).2;show#[.tup (iq h1) (.cons (.int _) (.cons (Yd ((ap _ X).same s6)) .nil)),this.1,Ð this.2 (by decide)]
 .obtain ⟨u,D,rfl⟩:=Zp.mp mv;let#[u',bb,rfl]:=Zp.mp B;show#[Ol _ _ _ _,U4 _ _ _ _]
 let#[u,D,rfl]:=Zp.mp mv;let#[h1,X,k,hk,ek]:=G u D;let#[g1,g2,g3]:=PQ (am _ X);let#[w1,n1,o1]:=C g2;let#[w2,n2,o2]:=C g3;have al:=(ap _ X).same s6;symm;show cX h1 ?_;symm;show cX al.1 ?_;symm;show cX h1 ?_;symm;show#[wa,ds.map (aO ls),u.2.2,N,rfl,((hW.same S3).same s4).same s6,(),(),λA t=>#[by have:=R A t;rfl',λw B=>#[ad A t w B,by rw[a9];show(ac A t w B).2]],al,hN,g1,ad w1 n1 _ o1,ad w2 n2 _ o2,λta H7 t0 t1 s7 bo l0 l1=>?_];symm;have T:=s6.trans s7;show#[f,oa,fa,u.2.2.2.1,ta,h,ls,gz,Oj ls (ds.map (aO ls)),es,L,nj u.2.2.2.2.2.2,rfl,hF.same (av.trans T),wf,.inr #[od,T.get (s4.get bn)],λz F=>#[((bg z F).1.same s4).same T,((bg z F).2.same s4).same T],a7,λz F y S=>?_,ax T,?_,hD,al.2.1.same s7,#[k,hk],#[t0,t1,bo,l0,l1],λr H8 v0 v1 s8 er=>?_];.obtain ⟨w,B,rfl⟩:=Zp.mp S;let#[A,t,B]:=C B;show#[#[_,ay A t w B],ad A t w B]
 .have:=fG (l:=L.map (·.2.1)) (m:=gz.map (·.2.1)) I.n λx mx=>by
   let#[g,mg,rfl]:=Zp.mp mx;rcases hD.s g.2.1 g.2.2.2 (.inl #[g,mg,rfl,rfl])with h|⟨_,_,_,h,_⟩;.show h.1.1
   .show h.1
  rw[Qb,Qb]at this;rfl'
 symm;show dC (s8.get (s7.get h1)) ?_;symm;show J0 (ss:=[v0,v1]) (iq er) (by simp) λm1 b4=>?_;symm;show J0 (ss:=[v0,v1]) (iq er) (by simp) λm2 b5=>?_;symm;intro p hp;show qs p _ u.2.1 m1 m2 (((av.trans T).trans s8).new hp) aa #[_,am _ X,k,hk,ek] λz F k' bp=>?_;rw[<-W]at F;let#[y,S,rfl]:=Zp.mp F;let#[u',bb,e']:=J y S k' bp;have:=a6 _ (Zp.mpr #[u',bb,rfl]);have h9:(u.2.1:Int)<=(u'.2.1:Int):=this;rfl'
inductive hY(K:Ϗ)(vs:ϊ V)(H:Hp)(Q:VK)(E:XK):Prop|mk (f ha:ό) (h:Nat) (ls:ϵ) (ds:L2S) (es:ϊ Int) (_:vs=[.ref f,.ref ha]) (_:FnF K H f h ls) (_:Fo.Wf h ls) (_:HsG K H ha ds es) (_:Wg ls ds) (_:∀N (S:ϊ Sd) (fz:ϊ Fq),↑(cJ (ds.map (aO ls)) N)<=N->(∀x,x∈S↔Mm.Rch (Lb (ds.map (aO ls)) N) (PN (ds.map (aO ls))) x)->(fz.map (·.2.1)).Nodup->Dj (Ld es S) (Et (Oj ls (ds.map (aO ls))) S) (Fnd fz) (λ_ _=>False)->((∀z∈qu (ds.map (aO ls)) (cJ (ds.map (aO ls)) N),∀k,¬Fnd fz (nj z) k)->∀H',Same H H'->Q .non H')/\∀H' (L:Nat),Same H H'->(∃z∈qu (ds.map (aO ls)) (cJ (ds.map (aO ls)) N),∃k,Fnd fz (nj z) k/\L=uF z+k.1)->(∀z∈qu (ds.map (aO ls)) (cJ (ds.map (aO ls)) N),∀k,Fnd fz (nj z) k->L<=uF z+k.1)->Q (.int (((L:Int)-1)/2)) H')
def zc K(E:XK)(Eh:XK):=(aB (aK (cg (fS K) (cF aU bK)) (ao 2))
  (aB (bG (aP (aL gF c7 (tC V.non))) (aR (tC V.non)) aW)
  (aR (aL cR (aL rA (tX K c7 0) (tI 1)) (tI 2)))))
theorem U7(h:hY K vs H Q E):∃k,zc K E k {nx:=λ_ H'=>Q .non H',rt:=Q} (start ["font","house","told"] vs) H:=by
 let#[f,s,h,ls,ds,es,rfl,o,t,p,sz,q]:=h;show#[E0,?_];unfold zc;symm;show#[f,s,h,ls,ds,es,rfl,o,t,p,sz,λN S d g i j e=>#[λn l c=>?_,λr l L u v c m b a=>?_]];.symm;show(q N S d g i j e).1 n _ c
 .symm;rw[Ó (show¬V.ref r=V.non fromλz=>by cases z)];symm;show dC m ?_;symm;show(q N S d g i j e).2 _ L c b a
inductive eC(K:Ϗ)(vs:ϊ V)(H:Hp)(Q:VK)(E:XK):Prop|mk (f:ό) (ht:Nat) (ls:ϵ) (x:V) (_:vs=[.ref f,x]) (_:Thing H x) (_:FnT K H f ht ls) (_:(∀p∈ls,Hs.Sg p.1)) (_:(∀s c,x=.str s->Fo.lk ls s=!c->∀r,H r=none->Q (.ref r) (upd H r (.lst (nv c))))) (_:((∀s,x=.str s->Fo.lk ls s=none)->E (.ref mG) none H))
def zf K E(Eh:XK):=(aB (bG (jF K (cg (gL K) (bR bK))) (cV (kE K (tX K aU 1)) (jd K 2 (bL (ao 2) (bL (ao 3) jE))) (bG (aP (aL rZ c7 bK)) (aR (gw (iQ K) (bR cM))) aW)) aW)
  (jV E mG (bR (tC (V.str (Str.ofString "the font does not have that sign"))))))
theorem U8(h:eC K vs H Q E):∃y,zf K E y {nx:=λ_ H'=>Q .non H',rt:=Q} (start ["font","sign","letter","columns"] vs) H:=by
 let#[f,M,ls,x,rfl,I,D,n,q,w]:=h;show#[E0,?_];unfold zf;let#[l,B,zs,u,F,A,C]:=D.at;symm;show#[x,rfl,I,?_];symm;show Rg (λc=>?_) λc=>?_
 .obtain ⟨s,rfl⟩:∃s,x=.str s:=by cases x with
   |str s=>show#[s,rfl]|_=>cases c
  symm;show dw B (aM (j:=1) (v:=.ref l) rfl) ?_;show pQ (λz:Lz=>V.ref z.1) u (λi d H'=>(An3 (H=H') (Fo.lk ls s=Fo.lk (ls.drop i) s) (Ex2 λo p=>d=[!(.ref f),!(.str s),o,p]))) #[rfl,rfl,none,none,rfl] ?_ ?_ ?_;.rintro i d _ ⟨rfl,_⟩;show u
  .rintro i ⟨b,J,L,g⟩ d _ k ⟨rfl,e,o,p,rfl⟩;have t:=C _ (Yf k);dsimp only at t;have m:i<↑zs:=(Ä.mp k).1;have a:ls.drop i=(J,g)::ls.drop (i+1):=by rw[<-A,Ĩ (by simpa using m),į,(Ä.mp k).2]
   rw[a,Fo.jC]at e;symm;show dR t.1 rfl ?_;symm;show dO (λc=>?_) λc=>?_;.symm;show mF t.2 λr G=>?_;show q s g rfl (by rw[e,if_pos c]) r G
   .symm;show#[rfl,by rw[e,if_neg c],_,_,rfl]
  .rintro d _ ⟨rfl,e,o,p,rfl⟩;symm;show w λs' es=>?_;cases es;rw[e,F,List.drop_length];rfl
 .symm;show w λs es=>?_;cases es':Fo.lk ls s with|none=>rfl|some g=>
   have:=yE (n _ (Fo.bZ es'));rw[<-es,c]at this;cases this
theorem U9(h:eC K vs H Q E):↑vs=2:=by let#[_,_,_,_,rfl,_]:=h;rfl
abbrev Pz:=ό×V×V
noncomputable def ofD(z:Dz):Pz:=(z.1,.str z.2.1,.int z.2.2)
def a08(n:Nat)(zs:ϊ Dz):Prop:=(zs.map (·.2.1)).Nodup/\∀z∈zs,Hs.Sg z.2.1/\0<=z.2.2/\z.2.2<n
def a09(n:Nat)(is:ϊ Int):Prop:=is.Nodup/\∀i∈is,0<=i/\i<n
noncomputable def ofR(r:ό×ϊ Dz):ό×ϊ Pz:=(r.1,r.2.map ofD)
inductive bS(K:Ϗ)(vs:ϊ V)(H:Hp)(Q:VK)(E:XK):Prop|mk (n:Int) (_:vs=[.int n]) (_:(1<=n->n<=40->Q .non H)) (_:(¬(1<=n/\n<=40)->E (.ref lO) none H))
def zg(K:Ϗ)E(Eh:XK):=(bG (kj (aP (lW Mi Mi (tI 1) aU (tI 40)))) (jV E lO (bR (tC (V.str (Str.ofString "there are no rooms, or there are too many"))))) aW)
theorem Ua(h:bS K vs H Q E):∃d,zg K E d {nx:=λ_ H'=>Q .non H',rt:=Q} (start ["rooms"] vs) H:=by
 let#[n,rfl,q,c]:=h;show#[E0,?_];unfold zg;symm;by_cases a:1<=n
 .by_cases b:n<=40;.rw [Õ a,Õ b];symm;show q a b
  .rw [Õ a,Ó b,Bool.and_false];symm;show c λh=>b h.2
 .rw [Ó a,Ū];symm;show c λh=>a h.1
theorem Ub(h:bS K vs H Q E):↑vs=1:=by let#[_,rfl,_]:=h;rfl
inductive dQ(K:Ϗ)(vs:ϊ V)(H:Hp)(Q:VK)(E:XK):Prop|mk (r:Int) (n:Nat) (_:vs=[.int r,.int n]) (_:0<=r) (_:r<n) (_:Q .non H)
def zj K(E:XK)(Eh:XK):=(bG (kj (Ez (jF K (cg (fI K) (bR aU))) (aP (lW Mi Gr (tI 0) aU bK)))) lU aW)
theorem Uc(h:dQ K vs H Q E):∃a,zj K E a {nx:=λ_ H'=>Q .non H',rt:=Q} (start ["room","rooms"] vs) H:=by
 let#[r,n,rfl,b,c,q]:=h;show#[E0,?_];unfold zj;symm;show#[_,rfl,trivial,?_];symm;change if true=true then _ else _;symm;rw[Õ b,Õ c];symm;show q
inductive cK(K:Ϗ)(vs:ϊ V)(H:Hp)(Q:VK)(E:XK):Prop|mk (a:ό) (zs:ϊ Dz) (n:Nat) (_:vs=[.ref a,.int n]) (_:SqL K H a (zs.map λz:Dz=>V.ref z.1)) (_:(∀z∈zs,SqT K H z.1 [.str z.2.1,.int z.2.2]/\Hs.Sg z.2.1/\0<=z.2.2/\z.2.2<n)) (_:(zs.map (·.2.1)).Nodup) (_:↑zs<64) (_:∀r H' ps,Same H H'->DrT K H' r ps->ps.Perm (zs.map (·.2))->(ps.map (·.1)).Pairwise lR->Q (.ref r) H')
abbrev Jv K:=(aB (cV (cB K aU) (jd K 2 (bL (ao 3) (bL (ao 4) jE))) (aB (bG (kj (jF K (cg (gL K) (bR cM)))) lU aW)
  (aB (bG (tB (Ga cM c7)) lU aW)
  (aB (cA (cg (dQ K) (cF di bK)))
  (j6 c7 cM di)))))
  (aR (gw (d7 K) (bR (tH c7)))))
def zm K(E:XK)(Eh:XK):=(aB (aK jh (ao 2))
  (Jv K))
theorem Ud(h:cK K vs H Q E):∃R,zm K E R {nx:=λ_ H'=>Q .non H',rt:=Q} (start ["pairs","rooms","made","sign","room"] vs) H:=by
 let#[a,zs,n,rfl,I,hz,B,w,q]:=h;show#[E0,?_];unfold zm;symm;intro m A;symm;have d:∀M∈[m],H M=none:=λM e=>by rw[Zl.mp e];show A
 show j7 (λz:Dz=>V.ref z.1) (zs:=zs) (lK A I) (λi u H'=>(An3 (Sb [m] H H') (H' m=!(.dK ((zs.take i).map λz:Dz=>((Sum.inr z.2.1:Key),V.int z.2.2)))) (Ex2 λC D=>u=[!(.ref a),!(.int (n:Nat)),!(.ref m),C,D]))) #[Sb.of (aq A _),aa,none,none,rfl] ?_ ?_ ?_;.rintro i u H' ⟨sb,_⟩;show sb.seq d I
 .rintro i ⟨b,s,r⟩ u H' x ⟨sb,j,C,D,rfl⟩;have U:i<↑zs:=(Ä.mp x).1;let#[P,F,N,O]:=hz _ (Yf x);dsimp only at P F N O;have G:zs.take (i+1)=zs.take i++[(b,s,r)]:=by rw[Ò,x];rfl
  have l:(Sum.inr s:Key)∉(zs.take i).map λz:Dz=>(Sum.inr z.2.1:Key):=by intro z;let#[y,Z,T]:=Zp.mp z;have v:y.2.1=s:=Ĝ T;have c:((zs.take (i+1)).map (·.2.1)).Nodup:=Ć ((Ģ _ _).map _) B;rw[G,Wp,Ü]at c;show c.2.2 _ (Zp.mpr #[y,Z,rfl]) s (by simp) v
  have L:=fc (f:=λz:Dz=>(Sum.inr z.2.1:Key)) (g:=λz:Dz=>V.int z.2.2) l;show dR ((sb.off d).tup P) rfl ?_;symm;show#[_,rfl,by let#[k,rfl]:=F;change↑(tx [Hs.jH k])<=100000;rw[fC];simp,?_];rw[yE F];symm;show#[m,_,rfl,DGet.k (k:=Sum.inr s) j,?_];rw[L];symm;change if false=true then _ else _;symm;show#[r,n,rfl,N,O,?_];symm;show#[m,_,rfl,DPut.k (k:=Sum.inr s) j (Ñ (by rw[Qb,Ú];rfl':_<=64) (by decide)),?_];rw[f9 _ L];symm;show#[sb.set (by simp),by rw[aa,G,Wp];rfl,_,_,rfl]
 .rintro u H' ⟨sb,j,C,D,rfl⟩;rw[ç]at j;have S:=sb.off d;symm;show#[m,zs.map λz:Dz=>(z.2.1,V.int z.2.2),rfl,by rw[Æ];show j,by rw[Qb];show w,λr o H2 W X hr s2 v Y=>?_];symm;show gG (ip v) λt J=>?_;have e:(o.map (·.2)).Perm ((zs.map (·.2)).map λp:ϐ×Int=>(p.1,V.int p.2)):=by rw[Æ];show W
  let#[ps,pp,ep]:=n6 e;show q t _ ps ((S.trans s2).new J) (DrT.of aa (λz mz=>aA J (Y z mz)) ep) pp ?_;have:(o.map (·.2.1))=ps.map (·.1):=by rw[show o.map (·.2.1)=(o.map (·.2)).map (·.1)by rw[Æ];rfl,ep,Æ];rfl
  rw[<-this];show X
inductive eK(K:Ϗ)(vs:ϊ V)(H:Hp)(Q:VK)(E:XK):Prop|mk (a:ό) (xs:ϊ Int) (n:Nat) (_:vs=[.ref a,.int n]) (_:SqL K H a (xs.map V.int)) (_:(∀x∈xs,0<=x/\x<n)) (_:xs.Nodup) (_:↑xs<64) (_:∀r H' (es:ϊ Int),Same H H'->H' r=!(.tup (es.map V.int))->es.Perm xs->es.Pairwise (·<·)->Q (.ref r) H')
def zp K(E:XK)(Eh:XK):=(aB (aK jh (ao 2))
  (aB (cV (cB K aU) (ao 3) (aB (cA (cg (dQ K) (cF cM bK)))
  (aB (bG (tB (Ga cM c7)) lU aW)
  (j6 c7 cM (tC (V.bl true))))))
  (aR (gw (d7 K) (bR (gw tG (bR c7)))))))
theorem Ue(h:eK K vs H Q E):∃D,zp K E D {nx:=λ_ H'=>Q .non H',rt:=Q} (start ["ends","rooms","made","end"] vs) H:=by
 let#[a,xs,n,rfl,x,N,s,l,q]:=h;show#[E0,?_];unfold zp;symm;intro m p;symm;have d:∀C∈[m],H C=none:=λC u=>by rw[Zl.mp u];show p
 show j7 V.int (zs:=xs) (lK p x) (λi j H'=>(An3 (Sb [m] H H') (H' m=!(.dK ((xs.take i).map λz:Int=>((Sum.inl z:Key),V.bl true)))) (Ex1 λv=>j=[!(.ref a),!(.int (n:Nat)),!(.ref m),v]))) #[Sb.of (aq p _),aa,none,rfl] ?_ ?_ ?_;.rintro i j H' ⟨sb,_⟩;show sb.seq d x
 .rintro i r j H' o ⟨sb,c,v,rfl⟩;have I:i<↑xs:=(Ä.mp o).1;let#[P,R]:=N _ (Yf o);have w:xs.take (i+1)=xs.take i++[r]:=by rw[Ò,o];rfl
  have e:(Sum.inl r:Key)∉(xs.take i).map λz:Int=>(Sum.inl z:Key):=by intro z;let#[y,O,G]:=Zp.mp z;have F:y=r:=Sum.inl.inj G;have b:(xs.take (i+1)).Nodup:=Ć (Ģ _ _) s;rw[w,Ü]at b;show b.2.2 _ O r (by simp) F
  have B:=fc (f:=λz:Int=>(Sum.inl z:Key)) (g:=λ_:Int=>V.bl true) e;symm;show#[r,n,rfl,P,R,?_];symm;show#[m,_,rfl,DGet.k (k:=Sum.inl r) c,?_];rw[B];symm;change if false=true then _ else _;symm;show#[m,_,rfl,DPut.k (k:=Sum.inl r) c (Ñ (by rw[Qb,Ú];rfl':_<=64) (by decide)),?_];rw[f9 _ B];symm;show#[sb.set (by simp),by rw[aa,w,Wp];rfl,_,rfl]
 .rintro j H' ⟨sb,c,v,rfl⟩;rw[ç]at c;have S:=sb.off d;symm;show Im (kvs:=xs.map λz:Int=>(z,V.bl true)) (by rw[Æ];show c) (by rw[Qb];show l) λr es A L J=>?_;rw[Æ]at A;symm;show gG (ip aa) λt M=>?_;show q t _ es ((S.new J).new M) aa (by simpa[Function.comp_def]using A) L
inductive dL(K:Ϗ)(vs:ϊ V)(H:Hp)(Q:VK)(E:XK):Prop|mk (d e:ό) (rows:ϊ (ό×ϊ Dz)) (xs:ϊ Int) (_:vs=[.ref d,.ref e]) (_:SqL K H d (rows.map λr:ό×ϊ Dz=>V.ref r.1)) (_:1<=↑rows) (_:(↑rows<=40->(∀row∈rows,SqL K H row.1 (row.2.map λz:Dz=>V.ref z.1)/\(∀z∈row.2,SqT K H z.1 [.str z.2.1,.int z.2.2]/\Hs.Sg z.2.1/\0<=z.2.2/\z.2.2<↑rows)/\(row.2.map (·.2.1)).Nodup/\↑row.2<64)/\SqL K H e (xs.map V.int)/\(∀x∈xs,0<=x/\x<↑rows)/\xs.Nodup/\↑xs<64/\∀r H' ds es,Same H H'->HsT K H' r ds es->Hs.Srt rows ds->es.Perm xs->es.Pairwise (·<·)->Q (.ref r) H')) (_:(40<↑rows->E (.ref lO) none H))
def zq K E(Eh:XK):=(aB (aK (gm K aU) (ao 2))
  (aB (cA (eY (bS K) [] E (bR c7)))
  (aR (bY (cF (gw (d7 K) (bR (mU [none,!2] (cB K aU) (ao 0) gZ (cg (cK K) (cF aU bK))))) (cg (eK K) (cF bK c7)))))))
theorem Ug(h:dL K vs H Q E):∃N,zq K E N {nx:=λ_ H'=>Q .non H',rt:=Q} (start ["doors","ends","rooms"] vs) H:=by
 let#[d,e,a,xs,rfl,v,Z,q,qe]:=h;show#[E0,?_];unfold zq;symm;show bJ v ?_;rw[Qb];symm;show#[(↑a:Nat),rfl,λ_ l=>?_,λhn=>qe ()];replace l:↑a<=40:=();let#[n,Y,hx,D,C,q]:=q l;symm;show qH (λr:ό×ϊ Dz=>V.ref r.1) (zs:=a) v () (λk ys H'=>(Ex1 λ(g:ϊ (ό×L1S))=>(An4 (ys=g.map (λt=>V.ref t.1)) (↑g=k) (Same H H') (∀(j:Nat) t,g[j]?=!t->DrT K H' t.1 t.2/\∀c,a[j]?=!c->t.2.Perm (c.2.map (·.2))/\(t.2.map (·.1)).Pairwise lR)))) #[[],rfl,rfl,ix _,by simp] ?_ ?_ ?_ ?_;.rintro k ys H' ⟨g,rfl,_,s',_⟩;show s'.seq v
 .rintro k ys H' ⟨g,rfl,rfl,_⟩;simp
 .rintro k c ys H' i ⟨g,rfl,y,s',o⟩;let#[U,F,W,X]:=n c (Yf i);symm;show#[c.1,c.2,↑a,rfl,s'.seq U,λz m=>#[s'.tup (F z m).1,(F z m).2],W,X,λr H2 ps I x A hs=>?_];show#[g++[(r,ps)],by simp,by simp[y],s'.trans I,λj t f=>?_];rcases ę j ↑g with w|w;.rw [è w]at f;show#[(o j t f).1.same I,(o j t f).2]
  .rw [ã w]at f;have R:j-↑g=0:=by have:=(Ä.mp f).1;simp at this;rfl'
   rw[R]at f;cases f;have u:j=k:=();subst u;show#[x,λG b=>?_];rw[i]at b;cases b;show#[A,hs]
 rintro ys O ⟨g,rfl,y,J,o⟩ p A;symm;show gG (ip aa) λtd B=>?_;symm;show#[e,xs,↑a,rfl,lK B (lK A (J.seq Y)),hx,D,C,λte P es L S pe se=>?_];symm;intro h s;have M:Same O P:=Same.trans (by walk_at "sm") L;show q h _ (g.map (·.2)) es (J.trans (M.new s)) #[td,te,g,aa,rfl,aA s (L.get aa),λt m=>?_,aA s S] #[by rw[Qb,y],λj ps c f b=>?_] pe se;.obtain ⟨j,f,u⟩:=Ą.mp m;show(o j t (by rw[Zs f,u])).1.same (M.new s)
 .rw [À]at f;let#[t,T,rfl]:=Ï.mp f;show(o j t T).2 c b
theorem Uh(h:dL K vs H Q E):↑vs=2:=by let#[_,_,_,_,rfl,_]:=h;rfl
inductive bE(K:Ϗ)(vs:ϊ V)(H:Hp)(Q:VK)(E:XK):Prop|mk (a:ό) (ps:L1S) (s:ϐ) (_:vs=[.ref a,.str s]) (_:DrG K H a ps) (_:Q (ov (Hs.dr ps s)) H)
def zr K(E:XK)(Eh:XK):=(aB (cV (kE K aU) (jd K 2 (bL (ao 2) (bL (ao 3) jE))) (bG (aP (aL rZ c7 bK)) (aR cM) aW))
  (aR (tC V.non)))
theorem Ui(h:bE K vs H Q E):∃u,zr K E u {nx:=λ_ H'=>Q .non H',rt:=Q} (start ["doors","sign","letter","room"] vs) H:=by
 let#[a,ps,s,rfl,j,q]:=h;let#[zs,rfl,p,m]:=j;have hz:∀z∈zs,SqT K H z.1 [.str z.2.1,.int z.2.2]:=λz w=>iq (m z w);show#[E0,?_];unfold zr;symm;show pQ (λz:ό×ϐ×Int=>V.ref z.1) p (λi g H'=>(An3 (H=H') (Hs.dr (zs.map (·.2)) s=Hs.dr ((zs.map (·.2)).drop i) s) (Ex2 λn o=>g=[!(.ref a),!(.str s),n,o]))) #[rfl,rfl,none,none,rfl] ?_ ?_ ?_;.rintro i g _ ⟨rfl,_⟩;show p
 .rintro i ⟨b,l,r⟩ g _ k ⟨rfl,e,n,o,rfl⟩;have t:=hz _ (Yf k);dsimp only at t;have v:i<↑zs:=(Ä.mp k).1;have d:(zs.map (·.2)).drop i=(l,r)::(zs.map (·.2)).drop (i+1):=by rw[Ĩ (by simpa using v),į,(Ä.mp k).2]
  rw[d,Hs.O5]at e;symm;show dR t rfl ?_;symm;show dO (λc=>?_) λc=>?_;.symm;rw[e,if_pos c]at q;show q
  .symm;show#[rfl,by rw[e,if_neg c],_,_,rfl]
 .rintro g _ ⟨rfl,e,n,o,rfl⟩;symm;rw[e,<-Qb (f:=(·.2)),List.drop_length]at q;show q
theorem Uj{x:V}(h:sgn x=true):∃s,x=.str s/\Hs.Sg s:=by cases x with
 |str s=>
  have h:(decide (↑s=1)&&(not (decide (s.cps.toList<(Str.ofString " ").cps.toList))&&(not (decide ((Str.ofString "~").cps.toList<s.cps.toList))&&not (decide (((s.cps.getD 0 0:Nat):Int)=37)))))=true:=h;simp only[ù,decide_eq_true_eq,Bool.not_eq_true',decide_eq_false_iff_not]at h;let#[m,b,d,f]:=h;let#[a]:=s;let#[l]:=a;match l,m,b,d,f with
  |[c],_,b,d,f=>
   have g:32<=c:=by
    rcases ę c 32 with q|q;.show absurd (List.Lex.rel q) b
    .show q
   have n:c<=126:=by
    rcases ę 126 c with q|q;.show absurd (List.Lex.rel q) d
    .show q
   have i:c≠37:=λe=>f (by subst e;rfl);have key:∀c<127,32<=c->c≠37->∃k<94,Hs.wK.cps.toList.getD k 0=c:=by ac_nf
   let#[k,o,j]:=key c () g i;show#[_,rfl,(k:Int),?_];unfold Hs.jH;rw[show((k:Int)%94).toNat=k by rfl',j];rfl
 |_=>cases h
structure GoodH(ds:L2S)(es:ϊ Int):Prop where
 r1:1<=↑ds
 r2:↑ds<=40
 sr:∀ps∈ds,(ps.map (·.1)).Pairwise lR
 ln:∀ps∈ds,↑ps<=62
 sg:∀ps∈ds,∀p∈ps,Hs.Sg p.1/\0<=p.2/\p.2<↑ds
 ei:es.Pairwise (·<·)el:↑es<=62
 er:∀e∈es,0<=e/\e<↑ds
def PdR(ds:L2S)(es:ϊ Int)(s:ϐ)(ds':L2S):Prop:=
 ↑ds'=↑ds+1/\∀(j:Nat) ps',ds'[j]?=!ps'->ps'.Perm ((ds++[[]]).getD j []++if(j:Int)∈es++[(↑ds:Int)]then[(s,(↑ds:Int))]else[])/\(ps'.map (·.1)).Pairwise lR
theorem uw:Hs.dr ps s=none↔s∉ps.map (·.1):=by unfold Hs.dr;rw[Ŝ,ņ];show#[λh m=>?_,λh p a e=>h (Zp.mpr #[p,a,é e])];let#[p,a,e]:=Zp.mp m;show h p a (Õ e)
theorem zu{l:ϊ ϐ}(h:l.Pairwise lR):l.Nodup:=h.imp λ{a b} h e=>by subst e;show ŭ _ h
theorem getD_at{a:Type}{l:ϊ a}{d x:a}(h:l[j]?=!x):l.getD j d=x:=by rw[Á,h];rfl
theorem Jw(h:Hs.Sg s):Thing H (.str s):=by let#[k,rfl]:=h;change↑(tx [Hs.jH k])<=100000;rw[fC];simp
inductive gT(K:Ϗ)(vs:ϊ V)(H:Hp)(Q:VK)(E:XK):Prop|mk (h:ό) (x:V) (ds:L2S) (es:ϊ Int) (_:vs=[.ref h,x]) (_:HsG K H h ds es) (_:GoodH ds es) (_:Thing H x) (_:(∀s,x=.str s->Hs.Sg s->(∀ps∈ds,Hs.dr ps s=none)->↑ds<40->∀r H' ds',Same H H'->HsT K H' r ds' (es++[(↑ds:Int)])->PdR ds es s ds'->Q (.ref r) H')) (_:((∀s,x=.str s->Hs.Sg s->(∀ps∈ds,Hs.dr ps s=none)->↑ds<40->False)->∀H',Same H H'->E (.ref lO) none H'))
abbrev Jx K E:=(aB (aK (aL xj (mU [none] (kE K (tX K aU 0)) (ao 0) gZ (gw (iQ K) (bR aU))) (cW (bR (cW cY)))) (ao 4))
  (aB (aK (aL xj (gw (iQ K) (bR (tX K aU 1))) (cW (bR cM))) (ao 5))
  (aB (cV (cB K dB) (ao 6) (cA (oU K "list" bU (aL (cZ K) di gH) (bR (bY (cF bK cM))))))
  (aR (eY (dL K) [] E (cF di dB))))))
def zx K E(Eh:XK):=(aB (bG (kj (jF K (cg (gL K) (bR bK)))) (jV E lO (bR (tC (V.str (Str.ofString "the filler is no sign"))))) aW)
  (aB (cV (kE K (tX K aU 0)) (ao 2) (bG (aP (aL xF (cg (bE K) (cF c7 bK)) (tC V.non))) (jV E lO (bR (tC (V.str (Str.ofString "the filler is the sign of a door"))))) aW))
  (aB (aK (gm K (tX K aU 0)) (ao 3))
  (Jx K E))))
theorem Uk(h:gT K vs H Q E):∃Eh,zx K E Eh {nx:=λ_ H'=>Q .non H',rt:=Q} (start ["house","filler","pairs","last","doors","ends","end"] vs) H:=by
 let#[h,x,ds,es,rfl,hH,J,hx,q,qe]:=h;show#[E0,?_];unfold zx;symm;show#[x,rfl,hx,?_];symm;by_cases M:sgn x=true
 case neg=>
  rw[Bool.not_eq_true]at M;rw[M];symm;show qe (λs e sg _ _=>?_) _ (ix _);rw[e,yE sg]at M;cases M
 rw[M];let#[s,rfl,sg]:=Uj M;let#[d,e,rs,h1,ae,h3,h4,h5]:=hH;have a7:↑rs=↑ds:=by rw[<-ae,Qb]
 have b1:=J.r2;have i0:∀{H':Hp}{Q:VK},Same H H'->Q (.ref d) H'->iH K (.ref h) (.int 0) H' Q:=λs h=>dw (iq (s.get h1)) (aM (j:=0) (v:=.ref d) rfl) h;have i1:∀{H':Hp}{Q:VK},Same H H'->Q (.ref e) H'->iH K (.ref h) (.int 1) H' Q:=λs h=>dw (iq (s.get h1)) (aM (j:=1) (v:=.ref e) rfl) h;symm;show i0 (ix _) ?_;show pQ (λr:ό×L1S=>V.ref r.1) h3 (λi Z H'=>(An3 (H'=H) (∀(j:Nat) ps,j<i->ds[j]?=!ps->Hs.dr ps s=none) (Ex1 λo=>Z=[!(.ref h),!(.str s),o,none,none,none,none]))) #[rfl,(),none,rfl] ?_ ?_ ?_;.rintro i Z _ ⟨rfl,_⟩;show h3
 .rintro i r Z _ X ⟨rfl,hn,o,rfl⟩;have W:ds[i]?=!r.2:=by rw[<-ae,À,X];rfl
  symm;show#[r.1,r.2,s,rfl,h4 r (Yf X),?_];cases edr:Hs.dr r.2 s with
  |some k=>symm;show HN (by intro z;cases z) ?_;symm;show qe (λs' e' _ Y _=>?_) _ (ix _);cases e';rw[Y r.2 (Yf W)]at edr;cases edr|none=>
   symm;show mD rfl ?_;symm;show#[rfl,λj ps C ej=>?_,_,rfl];rcases ę j i with w|w;.show hn j ps w ej
   .obtain rfl:j=i:=();rw[W]at ej;cases ej;show edr
 .rintro Z _ ⟨rfl,hn,o,rfl⟩;rename_i H;have Y:∀ps∈ds,Hs.dr ps s=none:=λps B=>by let#[j,C,ej]:=Ą.mp B;show hn j ps () (by rw[Zs C,ej])
  symm;show i0 (ix _) ?_;symm;show bQ h3 ?_;rw[Qb,a7];symm;show i0 (ix _) ?_;show O6 (λr:ό×L1S=>V.ref r.1) h3 () (λi ys H'=>(Ex1 λ(a:ϊ (ό×ϊ Dz))=>(An5 (ys=a.map (λr:ό×ϊ Dz=>V.ref r.1)) (a.map (λr=>r.2.map (·.2))=ds.take i) (Rws H' a) (Same H H') (∀r∈a,H r.1=none)))) #[[],rfl,rfl,#[by simp,by simp],ix _,by simp] ?_ ?_ ?_ ?_;.rintro i ys H' ⟨a,_,_,_,s',_⟩;show s'.tup h3
  .rintro i ys H' ⟨a,rfl,er,_⟩;have:=Ô List.length er;rw[Qb,Ú]at this;rw[Qb];rfl'
  .rintro i r ys H' X ⟨a,rfl,er,hR,s',hf⟩;have W:ds[i]?=!r.2:=by rw[<-ae,À,X];rfl
   let#[zs,ez,z1,z2]:=(h4 r (Yf X)).same s';symm;show mF z1 λl hl=>?_;show#[a++[(l,zs)],by simp,?_,#[?_,λg y=>?_],s'.new hl,λr' S=>?_];.rw [Wp,er,Ò,W];change _++[zs.map (·.2)]=_;rw[ez];rfl
   .rw [Wp,Ü];show#[hR.1,by simp,λu I w N e=>?_];let#[g,n,rfl]:=Zp.mp I;have am:w=l:=by simpa using N
    have:=(hR.2 g n).1;rw[e,am,hl]at this;cases this
   .rcases Ã.mp y with y|y;.show (hR.same (aq hl _)).2 g y
    .rw [Zl.mp y];show#[aa,λz mz=>aA hl (z2 z mz)]
   .rcases Ã.mp S with S|S;.show hf r' S
    .rw [Zl.mp S];show s'.free hl
  .rintro ys H1 ⟨f,rfl,T,O,s1,a4⟩ p1 P;rw[a7,ç]at T;have ah:↑f=↑ds:=by have:=Ô List.length T;rwa[Qb]at this
   symm;intro A R;symm;intro p2 ai;symm;show wk (by walk_at "hp") aa (by rw[Qb,ah];change↑ds+1<=_;rfl') λD hD=>?_;symm;have S1:Same H1 (upd (upd (upd (upd H1 p1 (.lst (f.map λr:ό×ϊ Dz=>V.ref r.1))) A (.lst [])) p2 (.lst [.ref A])) D (.lst ((f.map λr:ό×ϊ Dz=>V.ref r.1)++[.ref A]))):=by walk_at "sm"
   have a2:Rws (upd (upd (upd (upd H1 p1 (.lst (f.map λr:ό×ϊ Dz=>V.ref r.1))) A (.lst [])) p2 (.lst [.ref A])) D (.lst ((f.map λr:ό×ϊ Dz=>V.ref r.1)++[.ref A]))) (f++[(A,[])]):=by
    show#[?_,λg y=>?_]
    .rw [Wp,Ü];show#[O.1,by simp,λu I w N e=>?_];let#[g,n,rfl]:=Zp.mp I;have am:w=A:=by simpa using N
     have:=aA (o':=HO.lst (f.map λr:ό×ϊ Dz=>V.ref r.1)) P (O.2 g n).1;rw[e,am,R]at this;cases this
    .rcases Ã.mp y with y|y;.show (O.same S1).2 g y
     .rw [Zl.mp y];show#[by walk_at "hp",λz mz=>absurd mz â]
   have bd:(upd (upd (upd (upd H1 p1 (.lst (f.map λr:ό×ϊ Dz=>V.ref r.1))) A (.lst [])) p2 (.lst [.ref A])) D (.lst ((f.map λr:ό×ϊ Dz=>V.ref r.1)++[.ref A]))) D=!(.lst ((f++[(A,[])]).map λr:ό×ϊ Dz=>V.ref r.1)):=by rw[aa,Wp];rfl
   have ax:D∉(f++[(A,([]:ϊ Dz))]).map (λr:ό×ϊ Dz=>r.1):=λm=>by
    let#[g,n,e]:=Zp.mp m;rcases Ã.mp n with y|y;.have:=(O.same ((((aq P (HO.lst (f.map λr:ό×ϊ Dz=>V.ref r.1))).new R (o:=HO.lst [])).new ai (o:=HO.lst [.ref A])))).2 g y;rw[e,hD]at this;cases this.1
    .rw [Zl.mp y]at e;have e':A=D:=e;have:upd (upd (upd H1 p1 (.lst (f.map λr:ό×ϊ Dz=>V.ref r.1))) A (.lst [])) p2 (.lst [.ref A]) A=!(.lst []):=by walk_at "hp"
     rw[e',<-e']at this;rw[<-e']at hD;rw[hD]at this;cases this
   have fD:H D=none:=s1.free ((((aq P (HO.lst (f.map λr:ό×ϊ Dz=>V.ref r.1))).new R (o:=HO.lst [])).new ai (o:=HO.lst [.ref A])).free hD);have as:H A=none:=s1.free ((aq P (HO.lst (f.map λr:ό×ϊ Dz=>V.ref r.1))).free R);have bk:∀r∈f++[(A,[])],H r.1=none:=λr y=>by
    rcases Ã.mp y with y|y;.show a4 r y
    .rw [Zl.mp y];show as
   have bg:(f++[(A,([]:ϊ Dz))]).map (λr:ό×ϊ Dz=>r.2.map λz:Dz=>z.2)=ds++[[]]:=by rw[Wp,T];rfl
   have br:↑(f++[(A,([]:ϊ Dz))])=↑ds+1:=by simp[ah]
   have S2:=s1.trans S1;generalize(upd (upd (upd (upd H1 p1 (.lst (f.map λr:ό×ϊ Dz=>V.ref r.1))) A (.lst [])) p2 (.lst [.ref A])) D (.lst ((f.map λr:ό×ϊ Dz=>V.ref r.1)++[.ref A])))=H2 at*;generalize f++[(A,([]:ϊ Dz))]=rows1 at*;clear O s1 P R ai hD S1 a4 as T ah;show i1 S2 ?_;symm;show mF (iq (S2.get h5)) λp3 a5=>?_;symm;intro p4 a6;symm;show wk (by walk_at "hp") aa (by rw[Qb];have:=J.el;simp;rfl') λF hF=>?_;symm;have S3:Same H2 (upd (upd (upd H2 p3 (.lst (es.map V.int))) p4 (.lst [.int (↑ds:Nat)])) F (.lst (es.map V.int++[.int (↑ds:Nat)]))):=by walk_at "sm"
   have U:(upd (upd (upd H2 p3 (.lst (es.map V.int))) p4 (.lst [.int (↑ds:Nat)])) F (.lst (es.map V.int++[.int (↑ds:Nat)]))) F=!(.lst ((es++[(↑ds:Int)]).map V.int)):=by rw[aa,Wp];rfl
   have fF:H2 F=none:=((aq a5 (HO.lst (es.map V.int))).new a6 (o:=HO.lst [.int (↑ds:Nat)])).free hF;generalize(upd (upd (upd H2 p3 (.lst (es.map V.int))) p4 (.lst [.int (↑ds:Nat)])) F (.lst (es.map V.int++[.int (↑ds:Nat)])))=H3 at S3 U;clear a5 a6 hF;walk_at "ns";have ay:F∉rows1.map (λr:ό×ϊ Dz=>r.1):=λm=>by
    let#[g,n,e]:=Zp.mp m;have:=(a2.2 g n).1;rw[e,fF]at this;cases this
   have aw:=S3.get bd;have be:=a2.same S3;have SH:=S2.trans S3;have fin:∀{H':Hp},Sb (rows1.map λr:ό×ϊ Dz=>r.1) H3 H'->Same H H':=λsb b o e=>sb b o (λm=>by
    let#[g,n,er]:=Zp.mp m;rw[<-er,bk g n]at e;cases e) (SH b o e);have e9:(rows1.map λr:ό×ϊ Dz=>V.ref r.1)=(rows1.map λr:ό×ϊ Dz=>r.1).map V.ref:=by rw[Æ];rfl
   show j7 V.int (zs:=es++[(↑ds:Int)]) (ip U) (λi Z H'=>(Ex1 λ(a:ϊ (ό×ϊ Dz))=>(An5 (Rws H' a) (a.map (λr:ό×ϊ Dz=>r.1)=rows1.map (λr:ό×ϊ Dz=>r.1)) (∀(j:Nat) g,a[j]?=!g->g.2.map (λz:Dz=>z.2)=(ds++[[]]).getD j []++if(j:Int)∈(es++[(↑ds:Int)]).take i then[(s,(↑ds:Int))]else[]) (Sb (rows1.map λr:ό×ϊ Dz=>r.1) H3 H') (Ex1 λo6=>Z=[!(V.ref h),!(V.str s),o,!(V.int (↑ds:Nat)),!(V.ref D),!(V.ref F),o6])))) #[rows1,be,rfl,λj g C=>?_,Sb.of (ix _),none,rfl] ?_ ?_ ?_;.have:=Ô (λl=>l[j]?) bg;simp only[À,C,Ş]at this;rw[getD_at this.symm];simp
   .rintro i Z H' ⟨a,_,_,_,sb,_⟩;show ip (sb.get ay U)
   .rintro i x Z H' X ⟨a,hR,ea,L,sb,o6,rfl⟩;have mx:=Yf X;have b2:0<=x/\x<(↑ds+1:Nat):=by
     rcases Ã.mp mx with mx|mx;.have:=J.er x mx;rfl'
     .rw [Zl.mp mx];rfl'
    let#[j,rfl]:∃j:Nat,x=(j:Int):=#[x.toNat,()];have G:↑a=↑ds+1:=by have:=Ô List.length ea;rw[Qb,Qb]at this;rfl'
    have C:j<↑a:=();have ac:(j:Int)∉(es++[(↑ds:Int)]).take i:=λm=>by
     have nd:((es++[(↑ds:Int)]).take (i+1)).Nodup:=Ć (Ģ _ _) (by rw[Ü];show#[J.ei.imp λh e=>(),by simp,λu I w N e=>by have:=J.er u I;rw[Zl.mp N]at e;rfl']);rw[Ò,X,Ü]at nd;show nd.2.2 _ m _ (by simp) rfl
    symm;show cH (ip (sb.get ax aw)) (aM (v:=.ref a[j].1) ?_) ?_;.rw [e9,<-ea,Æ,À,Zs C];rfl
    have ad:=hR.2 _ (ä C);symm;show du (ip ad.1) ?_;symm;intro t ht;symm;have bv:↑a[j].2<=1000:=by
     have h9:=Ô List.length (L j a[j] (Zs C));rw[Qb,if_neg ac,ò]at h9;rw[h9,Á];rcases ę j ↑ds with w|w;.rw [è w,Zs w];have:=J.ln _ (ä w);change↑ds[j]<=1000;rfl'
     .rw [ã w,show j-↑ds=0 by rfl'];show á _
    show fL (aA ht ad.1) (by rw[Qb];rfl') ?_;symm;have a3:=(hR.same (aq ht (HO.tup [V.str s,V.int (↑ds:Nat)]))).app (t:=t) (s:=s) (r:=(↑ds:Int)) C aa;rw[Wp]at a3;show#[a.set j (a[j].1,a[j].2++[(t,s,(↑ds:Int))]),a3,(Bu C _).trans ea,λk g hk=>?_,(sb.new ht).set (by rw[<-ea];show Zp.mpr #[_,ä C,rfl]),_,rfl];rw[Ò,X];rw[Λ]at hk;by_cases ap:j=k;.subst ap;rw[if_pos rfl,if_pos C]at hk;cases hk;rw[Wp,L j a[j] (Zs C),if_neg ac,ò,if_pos (Ø _ (by simp))];rfl
    .rw [if_neg ap]at hk;rw[L k g hk];congr 1;have:(k:Int)∈(es++[(↑ds:Int)]).take i++(!(j:Int)).toList↔(k:Int)∈(es++[(↑ds:Int)]).take i:=by
      rw[Ã];show#[λh=>h.elim id λh=>?_,.inl];have:(k:Int)=j:=by simpa using h
      rfl'
     by_cases c:(k:Int)∈(es++[(↑ds:Int)]).take i;.rw [if_pos c,if_pos (this.mpr c)]
     .rw [if_neg c,if_neg (λz=>c (this.mp z))]
   .rintro Z H' ⟨a,hR,ea,L,sb,o6,rfl⟩;rw[ç]at L;have G:↑a=↑ds+1:=by have:=Ô List.length ea;rw[Qb,Qb]at this;rfl'
    have sf:=fin sb;have bp:∀g∈a,∃(j:Nat),a[j]?=!g/\j<↑ds+1:=λg y=>by let#[j,C,ej]:=Ą.mp y;show#[j,by rw[Zs C,ej],()]
    have base:∀(j:Nat) p,p∈(ds++[[]]).getD j []->∃ps∈ds,p∈ps:=λj p B=>by
     rw[Á]at B;rcases ę j ↑ds with w|w;.rw [è w,Zs w]at B;show#[_,ä w,B]
     .rw [ã w]at B;rcases Nat.eq_zero_or_pos (j-↑ds)with z|z;.rw [z]at B;cases B
      .rw [Ċ (by simp;rfl')]at B;cases B
    have av:∀g∈a,a08 (↑ds+1) g.2/\↑g.2<64:=λg y=>by
     let#[j,C,ag]:=bp g y;have e:=L j g C;have hz:∀z∈g.2,Hs.Sg z.2.1/\0<=z.2.2/\z.2.2<(↑ds+1:Nat):=λz mz=>by
      have:z.2∈g.2.map (λz:Dz=>z.2):=Zp.mpr #[z,mz,rfl];rw[e]at this;rcases Ã.mp this with m|m;.obtain ⟨ps,bl,B⟩:=base j _ m;let#[g1,g2,g3]:=J.sg ps bl _ B;show#[g1,g2,()]
      .split at m;.rw [Zl.mp m];show#[sg,by change(0:Int)<=(↑ds:Int);rfl',by change(↑ds:Int)<_;rfl']
       .cases m
     have af:↑((ds++[[]]).getD j [])<=62/\(((ds++[[]]).getD j []).map (λp:ϐ×Int=>p.1)).Nodup/\s∉((ds++[[]]).getD j []).map (λp:ϐ×Int=>p.1):=by
      rw[Á];rcases ę j ↑ds with w|w;.rw [è w,Zs w];show#[J.ln _ (ä w),zu (J.sr _ (ä w)),uw.mp (Y _ (ä w))]
      .rw [ã w,show j-↑ds=0 by rfl'];show#[by decide,List.nodup_nil,â]
     show#[#[?_,hz],?_]
     .have e2:g.2.map (·.2.1)=(g.2.map (λz:Dz=>z.2)).map (·.1):=by rw[Æ];rfl
      rw[e2,e,Wp,Ü];show#[af.2.1,by split<;>simp,λu I w N ee=>af.2.2 ?_];split at N
      .have:w=s:=by simpa using N
       rw[<-this,<-ee];show I
      .cases N
     .have h9:∀(c:Prop) [Decidable c],↑(if c then[(s,(↑ds:Int))]else[])<=1:=λc _=>by split<;>simp
      have h8:=Ô List.length e;rw[Qb,Â]at h8;have h7:=h9 ((j:Int)∈es++[(↑ds:Int)]);have h6:=af.1;rfl'
    have ar:a09 (↑ds+1) (es++[(↑ds:Int)]):=⟨by rw[Ü];show#[J.ei.imp λh e=>(),by simp,λu I w N e=>by have:=J.er u I;rw[Zl.mp N]at e;rfl'],λu I=>by
     rcases Ã.mp I with I|I;.have:=J.er u I;rfl'
     .rw [Zl.mp I];rfl'⟩;symm;show#[D,F,a,es++[(↑ds:Int)],rfl,ip (by rw[sb.get ax aw,e9,<-ea,Æ];rfl),(),λbb=>#[λg y=>?_,ip (sb.get ay U),by rw[G];show ar.2,ar.1,by rw[Â];have:=J.el;simp;rfl',λr' H5 a8 a9 s5 a1 al bn bq=>?_],λbb=>qe (λs' e' _ _ b0=>()) _ sf];.obtain ⟨w1,w2⟩:=hR.2 g y;let#[#[g1,g2],g3]:=av g y;show#[ip w1,λz mz=>#[iq (w2 z mz),by rw[G];show g2 z mz],g1,g3]
    .have bi:a9=es++[(↑ds:Int)]:=Hs.XH bn bq (.refl _) (List.pairwise_append.mpr #[J.ei,by simp,λu I w N=>by have:=J.er u I;rw[Zl.mp N];rfl']);rw[bi]at a1;show q s rfl sg Y () r' H5 a8 (sf.trans s5) a1 #[by rw[al.1,G],λj bo C=>?_];have ag:j<↑a:=by rw[<-al.1];show(Ä.mp C).1
     rw[<-L j a[j] (Zs ag)];show al.2 j bo a[j] C (Zs ag)
theorem Ul(h:gT K vs H Q E):↑vs=2:=by let#[_,_,_,_,rfl,_]:=h;rfl
noncomputable def nu(xs:ϊ Nat)(x:Nat)(ls:ϵ):ϊ (ϐ×Nat):=ls.filterMap λp=>if x+↑p.2<=↑xs then !(p.1,Mm.ue p.2 ((xs.drop x).take ↑p.2))else none
noncomputable def Jy(gs:ϊ (ϐ×Nat)):ϊ (Key×V):=gs.map λp=>(Sum.inr p.1,V.int (p.2:Nat))
theorem wF(xs:ϊ Nat)(x:Nat)(ls:ϵ)(p:ϐ×ϊ Nat):nu xs x (ls++[p])=nu xs x ls++(if x+↑p.2<=↑xs then[(p.1,Mm.ue p.2 ((xs.drop x).take ↑p.2))]else[]):=by unfold nu;rw[Ο];congr 1;rw[Ĕ,List.filterMap_nil];split<;>simp_all
theorem Om(h:s∉ls.map (·.1)):s∉(nu xs x ls).map (·.1):=λm=>by
 let#[q,b,rfl]:=Zp.mp m;let#[p,a,e]:=ñ.mp b;split at e;.cases e;show h (Zp.mpr #[p,a,rfl])
 .cases e
inductive fR(K:Ϗ)(vs:ϊ V)(H:Hp)(Q:VK)(E:XK):Prop|mk (f p:ό) (h x:Nat) (ls:ϵ) (xs:ϊ Nat) (_:vs=[.ref f,.ref p,.int x]) (_:FnT K H f h ls) (_:Fo.Wf h ls) (_:SqL K H p (nv xs)) (_:↑xs<=1000) (_:x<=↑xs) (_:∀r H',Same H H'->H r=none->H' r=!(.dK (Jy (nu xs x ls)))->Q (.ref r) H')
def zy K(E:XK)(Eh:XK):=(aB (aK jh (ao 3))
  (aB (cV (kE K (tX K aU 1)) (jd K 2 (bL (ao 4) (bL (ao 5) jE))) (aB (aK (KZ (CN K) bK (j5 c7) (j5 (aL cG c7 (gm K dB)))) (ao 6))
  (bG (aP (aL rZ (gm K gH) (gm K dB))) (j6 cM di (cg (ib K) (cF dB gH))) aW)))
  (aR cM)))
theorem Um(h:fR K vs H Q E):∃X,zy K E X {nx:=λ_ H'=>Q .non H',rt:=Q} (start ["font","strip","x","gaps","sign","columns","beneath"] vs) H:=by
 let#[f,p,h,x,ls,xs,rfl,hF,M,hP,af,hx,q]:=h;show#[E0,?_];unfold zy;have F:(ls.map (·.1)).Nodup:=M.up.imp λD e=>by subst e;show ŭ _ D
 let#[l,zs,t1,u,U,t4]:=id hF;have ag:↑zs=↑ls:=by rw[<-u,Qb]
 have ae:=M.le;symm;intro r w;symm;show cX (aA w t1) ?_;have n:∀R∈[r],H R=none:=λR G=>by rw[Zl.mp G];show w
 show pQ (λz:Lz=>V.ref z.1) ((aq w _).tup U) (λi A H'=>(An3 (Sb [r] H H') (H' r=!(.dK (Jy (nu xs x (ls.take i))))) (Ex3 λI J L=>A=[!(.ref f),!(.ref p),!(.int (x:Nat)),!(.ref r),I,J,L]))) #[Sb.of (aq w _),aa,none,none,none,rfl] ?_ ?_ ?_;.rintro i A H' ⟨sb,_⟩;show(sb.off n).tup U
 .rintro i ⟨za,s,ca,b⟩ A H' O ⟨sb,t,I,J,L,rfl⟩;have S:=sb.off n;have mz:=Yf O;let#[W,y]:=t4 _ mz;dsimp only at W y;have o:ls[i]?=!(s,b):=by rw[<-u,À,O];rfl
  have Z:=M.c1 _ (Yf o);dsimp only at Z;have ad:i<↑ls:=(Ä.mp o).1;have c:ls.take (i+1)=ls.take i++[(s,b)]:=by rw[Ò,o];rfl
  have C:↑(nu xs x (ls.take i))<=40:=Ð (ė ..) (by rw[Ú];rfl');show dR (iq (S.get W)) rfl ?_;symm;show bQ (iq (S.get y)) ?_;rw[Qb];symm;rw[show(x:Int)+(↑b:Int)=((x+↑b:Nat):Int)by rfl'];show Ie (S.seq hP) λY a=>?_;rw[Br () (),à,à,show((nv xs).take (x+↑b)).drop x=nv ((xs.drop x).take ↑b)by rw[nv,nv,List.drop_take,Β,Χ,List.map_drop]];have ac:↑((xs.drop x).take ↑b)=min ↑b (↑xs-x):=by rw[Ú,Ĉ]
  have v:s∉(ls.take i).map (·.1):=by have N:((ls.take (i+1)).map (·.1)).Nodup:=Ć ((Ģ _ _).map _) F;rw[c,Wp,Ü]at N;showλm=>N.2.2 s m s (by simp) rfl
  symm;show bJ (ip aa) ?_;rw[Qb];symm;show bQ (iq (aA a (S.get y))) ?_;rw[Qb];symm;show dO (λd=>?_) λd=>?_
  .have j:x+↑b<=↑xs:=();symm;show#[ca,Y,b,(xs.drop x).take ↑b,rfl,iq (aA a (S.get y)),by first|show ip aa|show .inl (ip aa),(),(),λH2 T=>?_];symm;have B:=T.get (aA a t);have hv:bx (Jy (nu xs x (ls.take i))) (Sum.inr s)=none:=fc (f:=λp:ϐ×Nat=>(Sum.inr p.1:Key)) (g:=λp:ϐ×Nat=>V.int (p.2:Nat)) λm=>by let#[p,P,e]:=Zp.mp m;show Om v (Zp.mpr #[p,P,Ĝ e])
   show#[r,_,rfl,DPut.k (k:=Sum.inr s) B (Ñ (by unfold Jy;rw[Qb];show C:_<=40) (by decide)),?_];rw[f9 _ hv];symm;show#[(sb.same ((aq a _).trans T)).set (by simp),?_,_,_,_,rfl];rw[aa,c,wF,if_pos j];unfold Jy;rw[Wp];rfl
  .have j:¬x+↑b<=↑xs:=();symm;show#[sb.new a,?_,_,_,_,rfl];rw[c,wF,if_neg j,ò];show aA a t
 .rintro A H' ⟨sb,t,I,J,L,rfl⟩;rw[ë ()]at t;symm;show q r H' (sb.off n) w t
noncomputable def nJ(gs:ϊ (ϐ×Nat))(s:ϐ):ύ Nat:=(gs.find? λp=>decide (p.1=s)).map (·.2)
theorem zA(s:ϐ):∀gs:ϊ (ϐ×Nat),bx (Jy gs) (Sum.inr s)=(nJ gs s).map λg=>V.int (g:Nat)
 |[]=>rfl|p::r=>by
  have a:=zA s r;by_cases h:p.1=s;.subst h;unfold nJ;rw[List.find?_cons_of_pos (by simp)];unfold Jy bx;simp
  .unfold nJ at a⊢;rw[List.find?_cons_of_neg (by simpa using h),<-a];unfold Jy bx;rw[È,List.find?_cons_of_neg (by simpa using h)]
theorem zB{g:Nat}(d:(ls.map (·.1)).Nodup)(h:Fo.lk ls s=!co)(j:nJ (nu xs x ls) s=!g):x+↑co<=↑xs:=by
 unfold nJ at j;let#[q,i,rfl]:=Ï.mp j;have m:=ą i;have e:q.1=s:=by have:=Ţ i;simpa using this
 let#[p,c,ep]:=ñ.mp m;split at ep
 .rename_i b;cases ep;have u:=Fo.bZ h;have:p=(s,co):=by
   let#[f,k]:=p;have n:f=s:=e;subst n;have:∀l:ϵ,(l.map (·.1)).Nodup->(f,k)∈l->(f,co)∈l->k=co:=λl=>by induction l with|nil=>intro _ h;cases h|cons y r ih=>
     intro a o t;rw[È,æ]at a;rcases Å.mp o with h3|h3<;>rcases Å.mp t with h4|h4;.rw [<-h3]at h4;cases h4;rfl
     .rw [<-h3]at a;show absurd (Zp.mpr #[_,h4,rfl]) a.1
     .rw [<-h4]at a;show absurd (Zp.mpr #[_,h3,rfl]) a.1
     .show ih a.2 h3 h4
   rw[this ls d c u]
  rw[this]at b;show b
 .cases ep
noncomputable def PT(wss:ϲ)(es:ϊ Int):Nat->Nat->Nat->ϲ
 |_,0,room=>if(room:Int)∈es then[[]]else[]|0,_+1,_=>[]|n+1,k+1,room=>(wss.getD room []).flatMap λw=>if ↑w.2.1<=k+1 then(PT wss es n (k+1-↑w.2.1) w.2.2.toNat).map (w:: ·)else[]
def ThP(H:Hp)(v:V):ύ (Ϻ)->Prop
 |none=>v=.non|some t=>∃a,v=.ref a/\H a=!(.tup [.int (t.1:Nat),.int (t.2:Nat)])
theorem ThP.same(h:ThP H v o)(s:Same H H'):ThP H' v o:=by cases o with
 |none=>show h|some t=>let#[a,e,q]:=h;show#[a,e,s.get q]
noncomputable def mgT:ύ (Ϻ)->ύ (Ϻ)->ύ (Ϻ)
 |none,b=>b
 |some t,none=>!t|some t,!u=>if t.1=u.1 then !(t.1,t.2+u.2)else if t.1<u.1 then !t else !u
def RwP(H:Hp)(a:ό)(ts:Ϲ):Prop:=∃vs:ϊ V,H a=!(.lst vs)/\↑vs=↑ts/\∀(i:Nat) v t,vs[i]?=!v->ts[i]?=!t->ThP H v t
def PpT(H:Hp)(pp:ό)(rows:ϊ (Ϲ)):Prop:=∃as:ϊ ό,↑as=↑rows/\H pp=!(.lst (as.map V.ref))/\∀(i:Nat) a ts,as[i]?=!a->rows[i]?=!ts->RwP H a ts
theorem RwP.same(h:RwP H a ts)(s:Same H H'):RwP H' a ts:=by let#[vs,b,c,d]:=h;show#[vs,s.get b,c,λi v t f e=>(d i v t f e).same s]
theorem PpT.same(h:PpT H pp rows)(s:Same H H'):PpT H' pp rows:=by let#[b,c,d,e]:=h;show#[b,c,s.get d,λi a j f g=>(e i a j f g).same s]
noncomputable def thr(gs:ϊ (ϐ×Nat))(rows:ϊ (Ϲ))(x:Nat)(w:ϴ):ύ (Ϻ):=
 match nJ gs w.1 with
 |none=>none|some g=>((rows.getD (x+↑w.2.1) []).getD w.2.2.toNat none).map λt=>(g+t.1,t.2)
inductive gS(K:Ϗ)(vs:ϊ V)(H:Hp)(Q:VK)(E:XK):Prop|mk (wa ga pp:ό) (x:Nat) (w:ϴ) (gs:ϊ (ϐ×Nat)) (rows:ϊ (Ϲ)) (_:vs=[.ref wa,.ref ga,.ref pp,.int x]) (_:WyT H (wa,w)) (_:H ga=!(.dK (Jy gs))) (_:PpT H pp rows) (_:(∀g,nJ gs w.1=!g->x+↑w.2.1<↑rows/\0<=w.2.2/\w.2.2.toNat<↑(rows.getD (x+↑w.2.1) []))) (_:∀v H',Same H H'->ThP H' v (thr gs rows x w)->Q v H')
abbrev Oo K:=(aB (bG (tB (gC di bK)) (aR (tC V.non)) aW)
  (aB (aK (aL (cZ K) (aL (cZ K) c7 (aL cG cM (gm K (tX K aU 1)))) (tX K aU 2)) (ao 5))
  (aB (bG (aP (aL gF dB (tC V.non))) (aR (tC V.non)) aW)
  (aR (bY (cF (aL cG (fK bK di) (tX K dB 0)) (tX K dB 1)))))))
def Jz K(E:XK)(Eh:XK):=(aB (aK (tX K aU 0) (ao 4))
  (Oo K))
theorem Ye(h:gS K vs H Q E):∃I,Jz K E I {nx:=λ_ H'=>Q .non H',rt:=Q} (start ["way","gaps","paper","x","sign","behind"] vs) H:=by
 let#[o,w,W,x,#[s,f,c],A,d,rfl,#[p,n,G],u,#[J,N,ep,O],m,q]:=h;show#[E0,?_];unfold Jz;dsimp only at n G m;have R:∀{Q:VK},Q (.str s) H->iH K (.ref o) (.int 0) H Q:=λh=>dw (iq n) (aM (j:=0) (v:=.str s) rfl) h;have S:∀{Q:VK},Q (.ref p) H->iH K (.ref o) (.int 1) H Q:=λh=>dw (iq n) (aM (j:=1) (v:=.ref p) rfl) h;have T:∀{Q:VK},Q (.int c) H->iH K (.ref o) (.int 2) H Q:=λh=>dw (iq n) (aM (j:=2) (v:=.int c) rfl) h;symm;show R ?_;symm;show#[w,_,rfl,DGet.k (k:=Sum.inr s) u,?_];rw[zA];cases hg:nJ A s with
 |none=>symm;change if true=true then _ else _;symm;show q .non H (ix _) (by unfold thr;dsimp only;rw[hg];rfl)|some g=>
  let#[k1,k2,k3]:=m g hg;symm;change if false=true then _ else _;symm;show S ?_;symm;show bQ (iq G) ?_;rw[Qb];symm;rw[show(x:Int)+(↑f:Int)=((x+↑f:Nat):Int)by rfl'];let#[a,C]:∃a,J[x+↑f]?=!a:=#[_,Zs ()];let#[l,i]:∃l,d[x+↑f]?=!l:=#[_,Zs k1];rw[Á,i]at k3;change c.toNat<↑l at k3;let#[vs,L,U,M]:=O _ a l C i;let#[v,F]:∃v,vs[c.toNat]?=!v:=#[_,Zs ()];let#[t,D]:∃t,l[c.toNat]?=!t:=#[_,Zs k3];have B:=M _ v t F D;have e:thr A d x (s,f,c)=t.map λt=>(g+t.1,t.2):=by unfold thr;dsimp only;rw[hg];dsimp only;rw[show d.getD (x+↑f) []=l by rw[Á,i];rfl,Á,D];rfl
  show cH (ip ep) (aM (j:=x+↑f) (v:=.ref a) (by rw[À,C];rfl)) ?_;symm;show T ?_;symm;rw[show c=((c.toNat:Nat):Int)by rfl'];show cH (ip L) (aM (j:=c.toNat) (v:=v) F) ?_;symm;cases t with|none=>cases B;show mY rfl ?_;symm;show q .non H (ix _) (by rw[e];rfl)|some t=>
   let#[b,rfl,r]:=B;show mZ (by intro z;cases z) ?_;symm;show#[w,.int (g:Nat),rfl,?_,?_];.have:=DGet.k (k:=Sum.inr s) u;rw[zA,hg]at this;show this
   symm;show dC r ?_;symm;show cX r ?_;symm;intro y P;show q _ _ (aq P _) ?_;rw[e];show#[y,rfl,by rw[aa];push_cast;rfl]
inductive gX(K:Ϗ)(vs:ϊ V)(H:Hp)(Q:VK)(E:XK):Prop|mk (v w:V) (o u:ύ (Ϻ)) (_:vs=[v,w]) (_:ThP H v o) (_:ThP H w u) (_:∀y H',Same H H'->ThP H' y (mgT o u)->Q y H')
def zE K(E:XK)(Eh:XK):=(aB (bG (aP (aL gF aU (tC V.non))) (aR bK) aW)
  (aB (bG (aP (aL gF bK (tC V.non))) (aR aU) aW)
  (aB (bG (aP (aL rZ (tX K aU 0) (tX K bK 0))) (aR (bY (cF (tX K aU 0) (aL cG (tX K aU 1) (tX K bK 1))))) aW)
  (aR (Wn (aP (aL Gr (tX K aU 0) (tX K bK 0))) aU bK)))))
theorem Uo(h:gX K vs H Q E):∃m,zE K E m {nx:=λ_ H'=>Q .non H',rt:=Q} (start ["one","other"] vs) H:=by
 let#[v,w,o,u,rfl,i,f,q]:=h;show#[E0,?_];unfold zE;cases o with
 |none=>cases i;symm;show q w H (ix _) f|some t=>
  let#[a,rfl,c]:=i;symm;show mZ (by intro z;cases z) ?_;symm;cases u with
  |none=>cases f;show mY rfl ?_;symm;show q _ H (ix _) #[a,rfl,c]|some x=>
   let#[b,rfl,e]:=f;have g:∀{H':Hp}{Q:VK},Same H H'->Q (.int (t.1:Nat)) H'->iH K (.ref a) (.int 0) H' Q:=λs h=>dw (iq (s.get c)) (aM (j:=0) (v:=.int (t.1:Nat)) rfl) h;have r:∀{H':Hp}{Q:VK},Same H H'->Q (.int (t.2:Nat)) H'->iH K (.ref a) (.int 1) H' Q:=λs h=>dw (iq (s.get c)) (aM (j:=1) (v:=.int (t.2:Nat)) rfl) h;have k:∀{H':Hp}{Q:VK},Same H H'->Q (.int (x.1:Nat)) H'->iH K (.ref b) (.int 0) H' Q:=λs h=>dw (iq (s.get e)) (aM (j:=0) (v:=.int (x.1:Nat)) rfl) h;have A:∀{H':Hp}{Q:VK},Same H H'->Q (.int (x.2:Nat)) H'->iH K (.ref b) (.int 1) H' Q:=λs h=>dw (iq (s.get e)) (aM (j:=1) (v:=.int (x.2:Nat)) rfl) h;show mZ (by intro z;cases z) ?_;symm;show g (ix _) ?_;symm;show k (ix _) ?_;symm;show dO (λd=>?_) λd=>?_;.have d':t.1=x.1:=();symm;show g (ix _) ?_;symm;show r (ix _) ?_;symm;show A (ix _) ?_;symm;intro y p;show q _ _ (aq p _) ?_;change ThP _ _ (if t.1=x.1 then _ else _);rw[if_pos d'];show#[y,rfl,by rw[aa];push_cast;rfl]
   .have d':¬t.1=x.1:=();symm;show g (ix _) ?_;symm;show k (ix _) ?_;symm;have l:∀v,ThP H v (if t.1<x.1 then !t else !x)->Q v H:=λv h=>q v H (ix _) (by change ThP _ _ (if t.1=x.1 then _ else _);rw[if_neg d'];show h);show dO (λn=>?_) λn=>?_;.symm;show l _ (by rw[if_pos ()];show#[a,rfl,c])
    .symm;show l _ (by rw[if_neg ()];show#[b,rfl,e])
noncomputable def jt(gs:ϊ (ϐ×Nat))(rows:ϊ (Ϲ))(x:Nat)(ws:ϳ):ύ (Ϻ):=ws.foldl (λacc w=>mgT acc (thr gs rows x w)) none
theorem Em(b:ϊ (ϐ×Nat))(a:ϊ (Ϲ))(x:Nat)(c:ϳ)(w:ϴ):jt b a x (c++[w])=mgT (jt b a x c) (thr b a x w):=by unfold jt;rw[List.foldl_append];rfl
def Zt(gs:ϊ (ϐ×Nat))(rows:ϊ (Ϲ))(x:Nat)(w:ϴ):Prop:=∀g,nJ gs w.1=!g->x+↑w.2.1<↑rows/\0<=w.2.2/\w.2.2.toNat<↑(rows.getD (x+↑w.2.1) [])
inductive fx(K:Ϗ)(vs:ϊ V)(H:Hp)(Q:VK)(E:XK):Prop|mk (la ga pp:ό) (x:Nat) (ws:ϳ) (gs:ϊ (ϐ×Nat)) (rows:ϊ (Ϲ)) (_:vs=[.ref la,.ref ga,.ref pp,.int x]) (_:LdT H la ws) (_:H ga=!(.dK (Jy gs))) (_:PpT H pp rows) (_:(∀w∈ws,Zt gs rows x w)) (_:∀v H',Same H H'->ThP H' v (jt gs rows x ws)->Q v H')
def zF K(E:XK)(Eh:XK):=(aB (aK (tC V.non) (ao 4))
  (aB (cV (cB K aU) (ao 5) (aK (cg (gX K) (cF di (cg (gS K) (pZ dB bK c7 cM)))) (ao 4)))
  (aR di)))
theorem Uq(h:fx K vs H Q E):∃r,zF K E r {nx:=λ_ H'=>Q .non H',rt:=Q} (start ["leads","gaps","paper","x","thing","way"] vs) H:=by
 let#[G,l,n,x,e,g,a,rfl,#[zs,b,k,C],t,A,j,q]:=h;show#[E0,?_];unfold zF;have F:↑zs=↑e:=by rw[<-b,Qb]
 symm;show j7 (λz:Wz=>V.ref z.1) (zs:=zs) (ip k) (λi f H'=>(An2 (Same H H') (Ex2 λv o=>(An2 (ThP H' v (jt g a x (e.take i))) (f=[!(.ref G),!(.ref l),!(.ref n),!(.int (x:Nat)),!v,o]))))) #[ix _,.non,none,rfl,rfl] ?_ ?_ ?_;.rintro i f H' ⟨s',_⟩;show ip (s'.get k)
 .rintro i ⟨L,w⟩ f H' m ⟨s',v,o,d,rfl⟩;have I:=Yf m;have c:e[i]?=!w:=by rw[<-b,À,m];rfl
  symm;show#[L,l,n,x,w,g,a,rfl,(C _ I).same s',s'.get t,A.same s',j w (Yf c),λu M p B=>?_];symm;show#[v,u,_,_,rfl,d.same p,B,λy s J D=>?_];symm;show#[(s'.trans p).trans J,y,_,?_,rfl];rw[Ò,c];change ThP s y (jt g a x (e.take i++[w]));rw[Em];show D
 .rintro f H' ⟨s',v,o,d,rfl⟩;rw[ë ()]at d;symm;show q v H' s' d
theorem ThP.updl{c:ϊ V}(h:ThP H v o)(e:H p=!(.lst ys)):ThP (upd H p (.lst c)) v o:=by cases o with
 |none=>show h|some t=>let#[a,b,q]:=h;show#[a,b,by rw[ak (bA q e (by intro z;cases z))];show q]
theorem RwP.updl{j:ϊ V}(h:RwP H a ts)(n:a≠p)(e:H p=!(.lst ys)):RwP (upd H p (.lst j)) a ts:=by let#[vs,b,c,d]:=h;show#[vs,by rw[ak n];show b,c,λi v t g f=>(d i v t g f).updl e]
structure PpN(H0 H:Hp)(pp:ό)(rows:ϊ (Ϲ))(as:ϊ ό):Prop where
 len:↑as=↑rows
 at_:H pp=!(.lst (as.map V.ref))row:∀(i:Nat) a ts,as[i]?=!a->rows[i]?=!ts->RwP H a ts
 inj:∀(i j:Nat) a,as[i]?=!a->as[j]?=!a->i=j
 new:∀a∈as,H0 a=none
 out:pp∉as
theorem PpN.t(h:PpN H0 H pp rows a):PpT H pp rows:=#[a,h.len,h.at_,h.row]
theorem PpN.same{b:ϊ ό}(h:PpN H0 H pp rows b)(s:Same H H'):PpN H0 H' pp rows b:=#[h.len,s.get h.at_,λi a e c d=>(h.row i a e c d).same s,h.inj,h.new,h.out]
theorem PpN.put{k:Nat}(h:PpN H0 H pp rows l)(u:RwP H b ts)(t:H0 b=none)(r:b∉l)(s:b≠pp):PpN H0 (upd H pp (.lst ((l.map V.ref).set k (.ref b)))) pp (rows.set k ts) (l.set k b):=by
 show#[by rw[η,η,h.len],by rw[aa,List.map_set],λi a us f g=>?_,λi j a c d=>?_,λa p=>?_,λm=>?_]
 .rw [Λ]at f g;by_cases e:k=i
  .subst e;rw[if_pos rfl]at f g;split at f
   .split at g;.cases f;cases g;show u.updl s h.at_
    .cases g
   .cases f
  .rw [if_neg e]at f g;show(h.row i a us f g).updl (λq=>h.out (q▸Yf f)) h.at_
 .rw [Λ]at c d;by_cases n:k=i<;>by_cases o:k=j;.rfl'
  .rw [if_pos n]at c;rw[if_neg o]at d;split at c;.cases c;show absurd (Yf d) r
   .cases c
  .rw [if_neg n]at c;rw[if_pos o]at d;split at d;.cases d;show absurd (Yf c) r
   .cases d
  .rw [if_neg n]at c;rw[if_neg o]at d;show h.inj i j a c d
 .rcases Ų p with p|rfl;.show h.new a p
  .show t
 .rcases Ų m with m|e;.show h.out m
  .show s e.symm
noncomputable def dW(es:ϊ Int)(n:Nat):Ϲ:=(List.range n).map λr:Nat=>if(r:Int)∈es then !(0,1)else none
noncomputable def fil(ls:ϵ)(xs:ϊ Nat)(wss:ϲ)(last:Ϲ):Nat->ϊ (Ϲ)
 |0=>[last]|i+1=>(wss.map λws=>jt (nu xs (↑xs-1-i) ls) (List.replicate (↑xs-i) []++fil ls xs wss last i) (↑xs-1-i) ws)::fil ls xs wss last i
theorem uy(ls:ϵ)(xs:ϊ Nat)(wss:ϲ)(last:Ϲ):∀i,↑(fil ls xs wss last i)=i+1
 |0=>rfl|i+1=>by change↑(_::fil ls xs wss last i)=_;rw[ô,uy]
theorem uz{wss:ϲ}{last:Ϲ}(a:↑last=↑wss):∀i,∀r∈fil ls xs wss last i,↑r=↑wss
 |0,r,h=>by rw[Zl.mp h];show a|i+1,r,h=>by
  rcases Å.mp h with rfl|h
  .rw [Qb]
  .show uz a i r h
theorem uA{wss:ϲ}{last:Ϲ}(i j:Nat):∀d,(fil ls xs wss last (i+d)).getD (d+j) []=(fil ls xs wss last i).getD j []
 |0=>by rw[Nat.add_zero,Δ]|d+1=>by rw[Nat.add_right_comm d 1 j];change(_::fil ls xs wss last (i+d)).getD (d+j+1) []=_;rw[List.getD_cons_succ,uA i j d]
theorem Ur(n i j:Nat)(h:i<=n):(fil ls xs wss last n).getD (n-i+j) []=(fil ls xs wss last i).getD j []:=by have:=uA (ls:=ls) (xs:=xs) (wss:=wss) (last:=last) i j (n-i);rwa[Nat.add_sub_cancel' h]at this
theorem zG{c:ϊ (ϐ×Nat)}{b:ϊ (Ϲ)}{d:ϳ}(h:∀w∈d,thr c rows x w=thr c b x w):jt c rows x d=jt c b x d:=by
 unfold jt
 suffices ∀a,d.foldl (λa w=>mgT a (thr c rows x w)) a=d.foldl (λa w=>mgT a (thr c b x w)) a from this none;induction d with
 |nil=>intro a;rfl|cons w r ih=>intro a;rw[θ,θ,h w Ë];show ih (λy e=>h y (Ì _ e)) _
theorem Yg(o:x<↑xs)(n:∀a∈wss,∀w∈a,0<↑w.2.1):(fil ls xs wss last ↑xs).getD x []=wss.map λa=>jt (nu xs x ls) (fil ls xs wss last ↑xs) x a:=by
 let#[i,e]:=Nat.exists_eq_add_of_lt o;have b:↑xs=i+1+x:=by rw[e,Ψ,ů]
 have k:↑xs-1-i=x:=by rw[e,Nat.add_sub_cancel,Nat.add_sub_cancel]
 have f:↑xs-i=x+1:=by rw[b,Ψ,Β,ů]
 have h:=uA (ls:=ls) (xs:=xs) (wss:=wss) (last:=last) (i+1) 0 x;rw[<-b,Nat.add_zero]at h;rw[h];change(_::_).getD 0 []=_;rw[List.getD_cons_zero,k];show ĥ λa p=>zG λw m=>?_;have l:=n a p w m;unfold thr;cases nJ (nu xs x ls) w.1 with
 |none=>rfl
 |some g=>
  dsimp only;have:(List.replicate (↑xs-i) []++fil ls xs wss last i).getD (x+↑w.2.1) []=(fil ls xs wss last ↑xs).getD (x+↑w.2.1) []:=by let#[c,j]:=Nat.exists_eq_add_of_lt l;have d:=uA (ls:=ls) (xs:=xs) (wss:=wss) (last:=last) i c (x+1);rw[show i+(x+1)=↑xs by rw[b,Ψ,ů x 1]]at d;rw[f,j,Δ,show x+(c+1)=x+1+c by rw[Ψ,ů c 1],d,Á,ã (by rw[å];show Nat.le_add_right _ _),å,Β,<-Á]
  rw[this]
noncomputable def dT:ύ (Ϻ)->PyData
 |none=>.none|some t=>.tuple [.int (t.1:Nat),.int (t.2:Nat)]
noncomputable def Us(ls:ϵ)(xs:ϊ Nat)(ds:L2S)(es:ϊ Int):ϊ (Ϲ):=fil ls xs (ds.map (aO ls)) (dW es ↑ds) ↑xs
structure IsP(ls:ϵ)(xs:ϊ Nat)(ds:L2S)(es:ϊ Int)(rows:ϊ (Ϲ)):Prop where
 len:↑rows=↑xs+1
 row:∀r∈rows,↑r=↑ds
 at_:∀x,x<↑xs->rows.getD x []=(ds.map (aO ls)).map λws=>jt (nu xs x ls) rows x ws
 last:rows.getD ↑xs []=dW es ↑ds
theorem Ut{h:Nat}(f:Fo.Wf h ls):IsP ls xs ds es (fil ls xs (ds.map (aO ls)) (dW es ↑ds) ↑xs):=by
 have b:↑(dW es ↑ds)=↑(ds.map (aO ls)):=by unfold dW;rw[Qb,õ,Qb]
 show#[uy ..,λr d=>by rw[uz b _ r d,Qb],λx c=>Yg c λi e w m=>?_,Ur (ls:=ls) (xs:=xs) (wss:=ds.map (aO ls)) (last:=dW es ↑ds) ↑xs 0 0 (á _)];let#[ps,_,rfl]:=Zp.mp e;unfold aO at m;let#[p,_,ep]:=ñ.mp m;let#[g,a,rfl]:=Ï.mp ep;have:=f.c1 _ (Fo.bZ a);dsimp only at this⊢;rfl'
noncomputable def zH(gs:ϊ (ϐ×Nat))(rows:ϊ (Ϲ))(x far:Nat)(w:ϴ):ϑ:=decide ((thr gs rows x w).map (·.1)=!far)
theorem Oq{b:Type}{p:b->ϑ}{l:ϊ b}{w:b}(c:l[i]?=!w)(a:∀y∈l.take i,p y=false)(e:p w=true):l.find? p=!w:=by have d:i<↑l:=(Ä.mp c).1;have f:l[i]=w:=(Ä.mp c).2;rw[<-List.take_append_drop i l,List.find?_append,ņ.mpr (λy g=>by rw[a y g];decide),Option.none_or,Ĩ d,f,List.find?_cons_of_pos e]
noncomputable def wN(ls:ϵ)(xs:ϊ Nat)(wss:ϲ)(rows:ϊ (Ϲ)):Nat->Nat->Nat->ϳ
 |0,_,_=>[]|n+1,x,room=>if x<↑xs then match(rows.getD x []).getD room none with
   |none=>[]|some t=>match(wss.getD room []).find? (zH (nu xs x ls) rows x t.1)with
    |none=>[]|some w=>w::wN ls xs wss rows n (x+↑w.2.1) w.2.2.toNat else[]
theorem Ot(h:¬x<↑xs):∀n,wN ls xs wss rows n x room=[]
 |0=>rfl|n+1=>by unfold wN;rw[if_neg h]
theorem JB(h:x<↑xs)(a:(rows.getD x []).getD room none=!t)(b:(wss.getD room []).find? (zH (nu xs x ls) rows x t.1)=!w):wN ls xs wss rows (n+1) x room=w::wN ls xs wss rows n (x+↑w.2.1) w.2.2.toNat:=by rw[wN,if_pos h,a];dsimp only;rw[b]
theorem JC{b:ϊ (ϊ (ύ (Nat×Nat)))}{c:ϊ (ϐ×ϊ Nat×Int)}(h:jt gs b x c=!t):∃w ∈ c, (thr gs b x w).map (·.1)=!t.1:= by
 have d:∀(c:ϊ (ϐ×ϊ Nat×Int))(a:ύ (Nat×Nat)),c.foldl (λa w=>mgT a (thr gs b x w)) a=!t->a.map (·.1)=!t.1 \/∃w ∈ c, (thr gs b x w).map (·.1)=!t.1:= λc=>by induction c with
  |nil=>intro a h;left;rw[show a=!t from h];rfl|cons w r ih=>
   intro a h;rw[θ]at h;rcases ih _ h with h1|⟨y,my,hy⟩;.cases ha:a with
    |none=>rw[ha]at h1;show Or.inr #[w,Ë,h1]|some u=>cases hb:thr gs b x w with|none=>rw[ha,hb]at h1;show Or.inl h1|some v=>
      rw[ha,hb]at h1;by_cases e:u.1=v.1;.rw [show mgT (!u) (!v)=!(u.1,u.2+v.2)from if_pos e]at h1;show Or.inl h1
      .rw [show mgT (!u) (!v)=if u.1<v.1 then !u else !v from if_neg e]at h1;by_cases f:u.1<v.1;.rw [if_pos f]at h1;show Or.inl h1
       .rw [if_neg f]at h1;show Or.inr #[w,Ë,by rw[hb];show h1]
   .show Or.inr #[y,Ì _ my,hy]
 rcases d c none h with h1|h1;.cases h1
 .show h1
theorem IsP.step{h:Nat}(P:IsP ls xs ds es rows)(v:Fo.Wf h ls)(f:∀ps∈ds,∀q∈ps,0<=q.2/\q.2<↑ds)(B:x<↑xs)(r:room<↑ds)(j:(rows.getD x []).getD room none=!t):∃(w:ϴ)(g:Nat)(u:Ϻ),((ds.map (aO ls)).getD room []).find? (zH (nu xs x ls) rows x t.1)=!w/\w∈aO ls (ds.getD room [])/\Fo.lk ls w.1=!w.2.1/\nJ (nu xs x ls) w.1=!g/\(rows.getD (x+↑w.2.1) []).getD w.2.2.toNat none=!u/\g+u.1=t.1/\x+↑w.2.1<=↑xs/\1<=↑w.2.1/\0<=w.2.2/\w.2.2<↑ds:=by
 have i:=iy v.up;have c:ds[room]?=!ds[room]:=Zs r;have A:ds.getD room []=ds[room]:=by rw[Á,c];rfl
 have z:(ds.map (aO ls)).getD room []=aO ls ds[room]:=by rw[Á,À,c];rfl
 rw[P.at_ x B,Á,À,À,c]at j;change jt (nu xs x ls) rows x (aO ls ds[room])=!t at j;let#[C,m,l]:=JC j;rw[z,A];let#[w,k]:∃w,(aO ls ds[room]).find? (zH (nu xs x ls) rows x t.1)=!w:=by cases hf:(aO ls ds[room]).find? (zH (nu xs x ls) rows x t.1)with
  |some w=>show#[w,rfl]|none=>have:=ņ.mp hf C m;show absurd (by unfold zH;show Õ l) this
 have s:=ą k;have a:=Ţ k;unfold zH at a;replace a:=é a;let#[p,d,ep]:=ñ.mp (show w∈ds[room].filterMap _ from s);let#[y,b,rfl]:=Ï.mp ep;have o:=f _ (ä r) p d;have n:=(v.c1 _ (Fo.bZ b)).1;unfold thr at a;dsimp only at a n;cases hg:nJ (nu xs x ls) p.1 with
 |none=>rw[hg]at a;cases a|some g=>
  rw[hg]at a;dsimp only at a
  cases hu:(rows.getD (x+↑y) []).getD p.2.toNat none with
  |none=>rw[hu]at a;cases a|some u=>rw[hu]at a;have e:=zB i b hg;show#[_,g,u,k,s,b,hg,hu,by have:=Ù a;dsimp only at this;rfl',e,n,o.1,o.2]
theorem IsP.inP{h:Nat}(P:IsP ls xs ds es rows)(p:Fo.Wf h ls)(c:∀ps∈ds,∀q∈ps,0<=q.2/\q.2<↑ds)(x:Nat):∀f∈ds.map (aO ls),∀w∈f,Zt (nu xs x ls) rows x w:=λf e w n g k=>by
 let#[ps,d,rfl]:=Zp.mp e;let#[o,m,j]:=ñ.mp (show w∈ps.filterMap _ from n);let#[i,b,rfl]:=Ï.mp j;have a:=zB (iy p.up) b k;have l:=c ps d o m;have r:=P.len;dsimp only at a⊢;have hz:x+↑i<↑rows:=();show#[hz,l.1,?_];rw[Á,Zs hz,Option.getD_some,P.row _ (ä hz)];rfl'
noncomputable def zJ(ls:ϵ)(xs:ϊ Nat)(ds:L2S)(es:ϊ Int):ύ (ϊ (ϴ)×Nat×Nat):=(((Us ls xs ds es).getD 0 []).getD 0 none).map λt=>(wN ls xs (ds.map (aO ls)) (Us ls xs ds es) ↑xs 0 0,t.1,t.2)
def NrP(H:Hp)(v:V):ύ (ϊ (ϴ)×Nat×Nat)->Prop
 |none=>v=.non|some t=>∃a,v=.ref a/\H a=!(.tup [.str (Txt.join (Str.ofString "") (t.1.map (·.1))),.int (t.2.1:Nat),.int (t.2.2:Nat)])
theorem JD{wss:ϲ}:∀(n x room:Nat),∀w∈wN ls xs wss a n x room,∃d∈wss,w∈d
 |0,_,_,w,h=>by cases h|n + 1,x,room,w,h=>by
  unfold wN at h;split at h
  .split at h;.cases h
   .split at h;.cases h
    .rename_i e b;rcases Å.mp h with rfl|h
     .have m:=ą b;by_cases c:room<↑wss;.rw [Á,Zs c]at m;show#[_,ä c,m]
      .rw [Á,Ċ ()]at m;cases m
     .show JD n _ _ w h
  .cases h
theorem qm:∀{p:ϊ ϐ},(∀s∈p,Hs.Sg s)->∃cs:ϊ Nat,p=cs.map (λc=>tx [c])/\∀c∈cs,c<1114112
 |[],_=>#[[],rfl,by simp]|s::r,h=>by
  let#[cs,e,b]:=qm (p:=r) λy d=>h y (Ì _ d);let#[n,rfl]:=h s Ë;show⟨Hs.jH n::cs,by rw[e];rfl,λc a=>by
   rcases Å.mp a with rfl|a;.show Hs.yx n
   .show b c a⟩
theorem Uu{h:Nat}{ls:ϵ}{xs:ϊ Nat}(g:Fo.Wf h ls)(n x a:Nat):∀s∈(wN ls xs (ds.map (aO ls)) rows n x a).map (·.1),Hs.Sg s:=λs e=>by let#[w,f,rfl]:=Zp.mp e;let#[j,d,c]:=JD n x a w f;let#[ps,_,rfl]:=Zp.mp d;let#[p,_,ep]:=ñ.mp (show w∈ps.filterMap _ from c);let#[i,b,rfl]:=Ï.mp ep;show g.sg _ (Fo.bZ b)
theorem JF{h:Nat}(b:Fo.Wf h ls):∀t,zJ ls xs ds es=!t->∀s∈t.1.map (·.1),Hs.Sg s:=λt a=>by unfold zJ at a;let#[u,_,rfl]:=Ï.mp a;show Uu b _ _ _
inductive dA(K:Ϗ)(vs:ϊ V)(H:Hp)(Q:VK)(E:XK):Prop|mk (f ha p:ό) (h:Nat) (ls:ϵ) (ds:L2S) (es:ϊ Int) (xs:ϊ Nat) (_:vs=[.ref f,.ref ha,.ref p]) (_:FnF K H f h ls) (_:Fo.Wf h ls) (_:HsG K H ha ds es) (_:↑ds<=40) (_:(∀ps∈ds,↑ps<=1000/\∀q∈ps,0<=q.2/\q.2<↑ds)) (_:SqL K H p (nv xs)) (_:↑xs<=1000) (_:∀pp H' as,Same H H'->H pp=none->PpN H H' pp (fil ls xs (ds.map (aO ls)) (dW es ↑ds) ↑xs) as->Q (.ref pp) H')
abbrev JG K:=(aB (cV (Hf (jZ (aL rA (gm K c7) (tI 1)) (Lr pA (tI 1)) (Lr pA (tI 1)))) (ao 5) (aB (aK (cg (fR K) (jZ aU c7 dB)) (ao 6))
  (aK (mU [none,!6,!4,!5] (cB K cM) (ao 0) gZ (cg (fx K) (pZ aU bK c7 cM))) (Lj di dB Aw))))
  (aR di))
abbrev JH K:=(aB (aK (mU [none] (j4 (bR (aL cG (gm K c7) (tI 1)))) (ao 0) gZ (cW cY)) (ao 4))
  (aB (aK (mU [none,!1] (j4 (bR (gm K cM))) (ao 0) gZ (Wn (aP (aL (G3 K false) aU (tX K bK 1))) (bY (cF (tI 0) (tI 1))) (tC V.non))) (Lj di (gm K c7) Aw))
  (JG K)))
def zK K(E:XK)(Eh:XK):=(aB (aK (cg (fT K) (cF aU bK)) (ao 3))
  (JH K))
theorem Uv(h:dA K vs H Q E):∃Eh,zK K E Eh {nx:=λ_ H'=>Q .non H',rt:=Q} (start ["font","house","strip","ways","paper","x","gaps"] vs) H:=by
 let#[f,ha,p,h,ls,ds,es,xs,rfl,hF,wf,hH,bq,am,hP,bl,q]:=h;show#[E0,?_];unfold zK;have bg:=iy wf.up;symm;show#[f,ha,h,ls,ds,es,rfl,hF,wf,hH,(),λps m=>(am ps m).1,λwa H1 Z b1 hW=>?_];symm;show bJ (Z.seq hP) ?_;rw[Qb];symm;rw[show(↑xs:Int)+1=((↑xs+1:Nat):Int)by rfl'];show RT (↑xs+1) (à _) () () (λi H' hi A kA=>?_) λl H2 n s2 aw ai al av N ar=>?_;.symm;intro p' U;show kA p' U
 symm;let#[rs,w1,w2,w3]:=id hW;have ay:↑rs=↑ds:=by have:=Ô List.length w1;rw[Qb,Qb]at this;show this
 let#[hd,he,b0,a1,a2,a3,a4,a5]:=id hH;have S2:=Z.trans s2;show bJ (ip (s2.get w2)) ?_;rw[Qb,ay];show Rx ↑ds (à _) () () (λi ys H'=>(An3 (Same H2 H') (↑ys=i) (∀(j:Nat) v,ys[j]?=!v->ThP H' v (if(j:Int)∈es then !(0,1)else none)))) #[ix _,rfl,by simp] ?_ ?_ ?_;.rintro i ys H' ⟨_,R,_⟩;rfl'
 .rintro i ys H' hi ⟨s',R,Y⟩;have S':=S2.trans s';have a6:∀v H4,Same H' H4->ThP H4 v (if(i:Int)∈es then !(0,1)else none)->(An3 (Same H2 H4) (↑(ys++[v])=i+1) (∀(j:Nat) u,(ys++[v])[j]?=!u->ThP H4 u (if(j:Int)∈es then !(0,1)else none))):=λv H4 s4 L=>⟨s'.trans s4,by simp[R],λj u d=>by
   by_cases P:j<↑ys;.rw [è P]at d;show(Y j u d).same s4
   .rw [ã ()]at d;have e0:j-↑ys=0:=by have:=(Ä.mp d).1;simp at this;rfl'
    rw[e0]at d;cases d;rw[show j=i by rfl'];show L⟩;symm;show cX (S'.get a1) ?_;symm;show O2 (.inr (iq (S'.get a5))) rfl (lM _) ?_;rw[nT];symm;show dO (λc=>?_) λc=>?_;.symm;intro t F;show a6 _ _ (aq F _) (by rw[if_pos c];show#[t,rfl,aa])
  .symm;show a6 _ _ (ix _) (by rw[if_neg c];rfl)
 rintro ys H3 ⟨s3,bn,Y⟩ b J;symm;have S3:=(S2.trans s3).new J (o:=HO.lst ys);show bJ (S3.seq hP) ?_;rw[Qb];have ac:=s3.new J (o:=HO.lst ys);have x:H2 b=none:=s3.free J;have af:PpN H (upd H3 b (HO.lst ys)) l (List.replicate (↑xs+1) []) n:=by
  show#[by rw[ai,å],ac.get ar,λi a ts ha bi=>?_,λi j a hi d=>?_,λa ma=>Z.free (N a ma).1,av];.have:ts=[]:=List.eq_of_mem_replicate (Yf bi);subst this;show#[[],ac.get (N a (Yf ha)).2,rfl,by simp]
  .show (List.getElem?_inj (Ä.mp hi).1 al).mp (hi.trans d.symm)
 have B:b∉n:=λm=>by rw[(N b m).2]at x;cases x
 have C:b≠l:=λe=>by rw[e,ar]at x;cases x
 have z:RwP (upd H3 b (HO.lst ys)) b (dW es ↑ds):=by
  show#[ys,aa,by unfold dW;rw[Qb,õ,bn],λi v t L F=>?_];unfold dW at F;have bd:i<↑ds:=by have:=(Ä.mp L).1;rfl'
  rw[À,List.getElem?_range bd]at F;cases F;show(Y i v L).same (aq J _)
 have I:=af.put (k:=↑xs) z (S2.free x) B C;show HY ↑xs af.at_ rfl (by rw[Qb,ai];rfl') ?_;have er:(List.replicate (↑xs+1) ([]:Ϲ)).set ↑xs (dW es ↑ds)=List.replicate (↑xs-0) []++fil ls xs (ds.map (aO ls)) (dW es ↑ds) 0:=by rw[List.replicate_succ',List.set_append,if_neg (by rw[å];rfl'),å,ψ,Nat.sub_zero];rfl
 rw[er]at I;have ax:H l=none:=Z.free aw;have O:∀p'∈[l],H1 p'=none:=λp' U=>by rw[Zl.mp U];show aw
 have X:Sb [l] H1 (upd (upd H3 b (HO.lst ys)) l (.lst ((n.map V.ref).set ↑xs (.ref b)))):=(Sb.of (s2.trans ac)).set (by simp);generalize upd (upd H3 b (HO.lst ys)) l (.lst ((n.map V.ref).set ↑xs (.ref b)))=H4 at I X;generalize n.set ↑xs b=as1 at I;have T:↑(dW es ↑ds)=↑(ds.map (aO ls)):=by unfold dW;rw[Qb,õ,Qb]
 symm;show bJ ((Z.trans (X.off O)).seq hP) ?_;rw[Qb];symm;show RX ↑xs () (by decide) (by decide) () () (λi σ H'=>(Ex1 λn=>(An4 (i<=↑xs) (Sb [l] H1 H') (PpN H H' l (List.replicate (↑xs-i) []++fil ls xs (ds.map (aO ls)) (dW es ↑ds) i) n) (Ex2 λo1 o2=>σ=[!(.ref f),!(.ref ha),!(.ref p),!(.ref wa),!(.ref l),o1,o2])))) ?_ ?_ ?_;.show #[as1,á _,X,I,none,none,rfl]
 .rintro i σ H' hi ⟨n,_,sb,G,o1,o2,rfl⟩;have S:=sb.off O;have SH:=Z.trans S;rw[show(↑xs:Int)-1-(i:Int)=((↑xs-1-i:Nat):Int)by rfl'];have bk:↑xs-1-i+1=↑xs-i:=();have ap:=uy ls xs (ds.map (aO ls)) (dW es ↑ds) i;have D:=uz (ls:=ls) (xs:=xs) T i;generalize hfe:fil ls xs (ds.map (aO ls)) (dW es ↑ds) i=fi at G ap D;symm;show#[f,p,h,↑xs-1-i,ls,xs,rfl,hF.t.same SH,wf,SH.seq hP,bl,(),λga H5 s5 bv eg=>?_];symm;have ae:∀r∈rs,∀w∈r.2,Zt (nu xs (↑xs-1-i) ls) (List.replicate (↑xs-i) []++fi) (↑xs-1-i) w:=λr mr w mw g hg=>by
   have bp:r.2∈ds.map (aO ls):=by rw[<-w1];show Zp.mpr #[r,mr,rfl]
   let#[ps,bo,a8]:=Zp.mp bp;rw[<-a8]at mw;let#[q',mq,eq]:=ñ.mp mw;let#[co,ad,rfl]:=Ï.mp eq;have br:=zB bg ad hg;have bb:=(wf.c1 _ (Fo.bZ ad)).1;have hq:=(am ps bo).2 q' mq;dsimp only at bb⊢;show#[by rw[Â,å,ap];rfl',hq.1,?_];rw[Á,ã (by rw[å];rfl'),å,Zs (),Option.getD_some,D _ (ä _),Qb];rfl'
  have M:=S.trans s5;show qH (λr:ό×ϊ (ϴ)=>V.ref r.1) (zs:=rs) (ip (M.get w2)) () (λk ys H'=>(An3 (Same H5 H') (↑ys=k) (∀(j:Nat) v r,ys[j]?=!v->rs[j]?=!r->ThP H' v (jt (nu xs (↑xs-1-i) ls) (List.replicate (↑xs-i) []++fi) (↑xs-1-i) r.2)))) #[ix _,rfl,by simp] ?_ ?_ ?_ ?_;.rintro k ys H' ⟨s',_⟩;show ip ((M.trans s').get w2)
  .rintro k ys H' ⟨_,R,_⟩;rfl'
  .rintro k r ys H6 hk ⟨s',R,Y⟩;have mr:=Yf hk;symm;show#[r.1,ga,l,↑xs-1-i,r.2,_,_,rfl,(w3 r mr).same (M.trans s'),s'.get eg,G.t.same (s5.trans s'),ae r mr,λv H7 s7 L=>?_];symm;show#[s'.trans s7,by simp[R],λj u r' d W=>?_];by_cases P:j<↑ys;.rw [è P]at d;show(Y j u r' d W).same s7
   .rw [ã ()]at d;have e0:j-↑ys=0:=by have:=(Ä.mp d).1;simp at this;rfl'
    rw[e0]at d;cases d;rw[show j=k by rfl',hk]at W;cases W;show L
  .rintro ys H6 ⟨s',R,Y⟩ b J;have s6:=s5.trans s';have s:H' b=none:=s6.free J;have ag:=(G.same s6).same (aq J (HO.lst ys));have B:b∉n:=λm=>by
    let#[j,d,ej]:=Ą.mp m;have be:j<↑(List.replicate (↑xs-i) []++fi):=by rw[<-G.len];show d
    let#[vs,e1,_]:=G.row j b _ (by rw[Zs d,ej]) (Zs be);rw[e1]at s;cases s
   have C:b≠l:=λe=>by rw[e,G.at_]at s;cases s
   have z:RwP (upd H6 b (HO.lst ys)) b ((ds.map (aO ls)).map λws=>jt (nu xs (↑xs-1-i) ls) (List.replicate (↑xs-i) []++fi) (↑xs-1-i) ws):=by
    show#[ys,aa,by rw[R,Qb,Qb,ay],λj v t L F=>?_];rw[À,<-w1,À]at F;cases hrj:rs[j]?with
    |none=>rw[hrj]at F;cases F|some r=>
     rw[hrj]at F;cases F;show(Y j v r L hrj).same (aq J _)
   have ah:=ag.put (k:=↑xs-1-i) z (SH.free s) B C;symm;show HY (↑xs-1-i) ag.at_ rfl (by rw[Qb,G.len,Â,å];rfl') ?_;symm;show#[n.set (↑xs-1-i) b,(),(sb.same (s6.trans (aq J _))).set (by simp),?_,_,_,rfl];have a9:(List.replicate (↑xs-i) ([]:Ϲ)++fi).set (↑xs-1-i) ((ds.map (aO ls)).map λws=>jt (nu xs (↑xs-1-i) ls) (List.replicate (↑xs-i) []++fi) (↑xs-1-i) ws)=List.replicate (↑xs-(i+1)) []++fil ls xs (ds.map (aO ls)) (dW es ↑ds) (i+1):=by
    change _=_++(_::fil ls xs (ds.map (aO ls)) (dW es ↑ds) i);rw[hfe,List.set_append,if_pos (by rw[å];rfl')];have e9:List.replicate (↑xs-i) ([]:Ϲ)=List.replicate (↑xs-1-i) []++[[]]:=by rw[<-bk,List.replicate_succ']
    have a7:∀y:Ϲ,(List.replicate (↑xs-i) ([]:Ϲ)).set (↑xs-1-i) y=List.replicate (↑xs-1-i) []++[y]:=λy=>by rw[e9,List.set_append,if_neg (by rw[å];rfl'),å,ψ];rfl
    rw[a7,ĕ,show↑xs-(i+1)=↑xs-1-i by rfl'];rfl
   rw[a9]at ah;show ah
 .rintro σ H' ⟨n,_,sb,G,o1,o2,rfl⟩;rw[ψ]at G;symm;show q l H' n (Z.trans (sb.off O)) ax G
inductive eM(K:Ϗ)(vs:ϊ V)(H:Hp)(Q:VK)(E:XK):Prop|mk (la ga pp:ό) (x far:Nat) (ws:ϳ) (gs:ϊ (ϐ×Nat)) (rows:ϊ (Ϲ)) (_:vs=[.ref la,.ref ga,.ref pp,.int x,.int far]) (_:LdT H la ws) (_:H ga=!(.dK (Jy gs))) (_:PpT H pp rows) (_:(∀w∈ws,Zt gs rows x w)) (_:(∃w,ws.find? (zH gs rows x far)=!w)) (_:∀wa w H',Same H H'->ws.find? (zH gs rows x far)=!w->WyT H' (wa,w)->Q (.ref wa) H')
def zL K(E:XK)(Eh:XK):=(aB (cV (cB K aU) (ao 5) (aB (aK (cg (gS K) (pZ dB bK c7 cM)) (ao 6))
  (bG (Ez (aP (aL xF gH (tC V.non))) (aP (aL rZ (tX K gH 0) di))) (aR dB) aW)))
  (aR (tC V.non)))
theorem Uw(h:eM K vs H Q E):∃N,zL K E N {nx:=λ_ H'=>Q .non H',rt:=Q} (start ["leads","gaps","paper","x","far","way","thing"] vs) H:=by
 let#[W,D,L,x,f,r,l,a,rfl,#[zs,k,C,I],R,S,v,#[X,m],q]:=h;show#[E0,?_];unfold zL;have U:↑zs=↑r:=by rw[<-k,Qb]
 symm;show j7 (λz:Wz=>V.ref z.1) (zs:=zs) (ip C) (λi s H'=>(An3 (Same H H') (∀w∈r.take i,zH l a x f w=false) (Ex2 λA B=>s=[!(.ref W),!(.ref D),!(.ref L),!(.int (x:Nat)),!(.int (f:Nat)),A,B]))) #[ix _,by simp,none,none,rfl] ?_ ?_ ?_;.rintro i s H' ⟨s',_⟩;show ip (s'.get C)
 .rintro i ⟨M,w⟩ s H' G ⟨s',c,A,B,rfl⟩;have J:=Yf G;have g:r[i]?=!w:=by rw[<-k,À,G];rfl
  have n:zH l a x f w=false->∀y∈r.take (i+1),zH l a x f y=false:=λT y j=>by
   rw[Ò,g]at j;rcases Ã.mp j with j|j;.show c y j
   .rw [Zl.mp j];show T
  symm;show#[M,D,L,x,w,l,a,rfl,(I _ J).same s',s'.get R,S.same s',v w (Yf g),λu O p o=>?_];symm;cases ht:thr l a x w with
  |none=>
   rw[ht]at o;cases o;show mD rfl ?_;symm;show#[s'.trans p,n (by unfold zH;rw[ht];rfl),_,_,rfl]|some t=>
   rw[ht]at o;let#[b,rfl,P]:=o;show lJ (λ_=>?_) λd=>nomatch d;symm;show dC P ?_;symm;show dO (λd=>?_) λd=>?_;.symm;show q M w O (s'.trans p) (Oq g c ?_) ((I _ J).same (s'.trans p));unfold zH;rw[ht];show Õ (Ô some (by dsimp only;rfl'))
   .symm;show#[s'.trans p,n ?_,_,_,rfl];unfold zH;rw[ht];show Ó λe=>d (by have:=Ù e;dsimp only at this;rfl')
 .rintro s H' ⟨s',c,A,B,rfl⟩;rw[ë ()]at c;have F:=c X (ą m);rw[Ţ m]at F;cases F
inductive eA(K:Ϗ)(vs:ϊ V)(H:Hp)(Q:VK)(E:XK):Prop|mk (f ha p pp:ό) (h:Nat) (ls:ϵ) (ds:L2S) (es:ϊ Int) (xs:ϊ Nat) (rows:ϊ (Ϲ)) (_:vs=[.ref f,.ref ha,.ref p,.ref pp]) (_:FnF K H f h ls) (_:Fo.Wf h ls) (_:HsG K H ha ds es) (_:(1<=↑ds/\↑ds<=40)) (_:(∀ps∈ds,↑ps<=1000)) (_:(∀ps∈ds,∀q∈ps,0<=q.2/\q.2<↑ds)) (_:SqL K H p (nv xs)) (_:↑xs<=1000) (_:PpT H pp rows) (_:IsP ls xs ds es rows) (_:(∃t,(rows.getD 0 []).getD 0 none=!t)) (_:∀H',Same H H'->Q (.str (Txt.join (Str.ofString "") ((wN ls xs (ds.map (aO ls)) rows ↑xs 0 0).map (·.1)))) H')
abbrev JK K:=(aB (aK (cg (eM K) (bM (aL (cZ K) di gH) (pZ (cg (fR K) (jZ aU c7 jY)) cM jY (tX K (aL (cZ K) (aL (cZ K) cM jY) gH) 0)))) (ao 8))
  (aB (cA (oU K "list" bU dB (bR (tX K wM 0))))
  (aB (Lk 7 (gm K (tX K wM 1)) Bb)
  (aK (tX K wM 2) (ao 6)))))
def zM K(E:XK)(Eh:XK):=(aB (aK (cg (fT K) (cF aU bK)) (ao 4))
  (aB (aK (cW cY) (ao 5))
  (aB (aK (tI 0) (ao 6))
  (aB (aK (tI 0) (ao 7))
  (aB (fX (aP (aL Gr jY (gm K c7))) (JK K))
  (aR (oU K "str" (rJoin K) (tC (V.str (Str.ofString ""))) (bR dB))))))))
theorem Ux(h:eA K vs H Q E):∃Eh,zM K E Eh {nx:=λ_ H'=>Q .non H',rt:=Q} (start ["font","house","strip","paper","ways","signs","room","x","way"] vs) H:=by
 let#[f,ha,p,pp,h,ls,ds,es,xs,m,rfl,hF,wf,hH,#[av,ap],ae,T,hP,ai,W,P,#[t0,ah],q]:=h;show#[E0,?_];unfold zM;symm;show#[f,ha,h,ls,ds,es,rfl,hF,wf,hH,(),ae,λwa H1 s1 a2 hW=>?_];let#[rs,w1,w2,w3]:=id hW;have ay:↑rs=↑ds:=by have:=Ô List.length w1;rw[Qb,Qb]at this;show this
 symm;intro J X;symm;have af:∀p'∈[J],H1 p'=none:=λp' ag=>by rw[Zl.mp ag];show X
 show nU (λσ H'=>(Ex5 λ(A:ϳ) (x d n:Nat) (t:Ϻ)=>(An10 (Sb [J] H1 H') (H' J=!(.lst (A.map λw=>V.str w.1))) (x<=↑xs) (d<↑ds) (↑xs-x<=n) (A++wN ls xs (ds.map (aO ls)) m n x d=wN ls xs (ds.map (aO ls)) m ↑xs 0 0) ((m.getD x []).getD d none=!t) (↑A<=x) (∀w∈A,↑w.1=1) (Ex1 λo=>σ=[!(.ref f),!(.ref ha),!(.ref p),!(.ref pp),!(.ref wa),!(.ref J),!(.int (d:Nat)),!(.int (x:Nat)),o])))) (λσ _=>match σ with|[_,_,_,_,_,_,_,!(.int x),_]=>↑xs-x.toNat|_=>0) ⟨[],0,0,↑xs,t0,Sb.of (aq X _),aa,á _,(),(),rfl,ah,Ç _,by simp,none,rfl⟩ ?_ ?_
 .rintro σ H' ⟨A,x,d,n,t,sb,N,hx,F,hn,C,ht,ax,U,o,rfl⟩;have S:=sb.off af;have SH:=s1.trans S;symm;show bJ (SH.seq hP) ?_;rw[Qb];symm;show dO (λc=>?_) λc=>?_
  .have cx:x<↑xs:=();let#[w,g,u,k1,k2,k3,k4,k5,k6,k7,k8,k9,a3]:=P.step wf T cx F ht;let#[D,G]:∃D,rs[d]?=!D:=#[_,Zs ()];have ac:(ds.map (aO ls))[d]?=!D.2:=by rw[<-w1,À,G];rfl
   have O:(ds.map (aO ls)).getD d []=D.2:=by rw[Á,ac];rfl
   rw[O]at k1;symm;show cH (ip (S.get w2)) (aM (j:=d) (v:=.ref D.1) (by rw[À,G];rfl)) ?_;symm;show#[f,p,h,x,ls,xs,rfl,(hF.same SH).t,wf,SH.seq hP,ai,hx,λga H5 s5 aw eg=>?_];have S5:=S.trans s5;have M:=s1.trans S5;let#[as,ar,ep,hr]:=W.same M;have al:x<↑m:=by rw[P.len];rfl'
   let#[a,R]:∃a,as[x]?=!a:=#[_,Zs ()];let#[L,I]:∃L,m[x]?=!L:=#[_,Zs al];let#[vs,e1,e2,e3]:=hr x a L R I;have a1:=P.row L (Yf I);let#[v,hv]:∃v,vs[d]?=!v:=#[_,Zs ()];have Y:L[d]?=!(!t):=by rw[show m.getD x []=L by rw[Á,I];rfl,Á,Zs ()]at ht;rw[Zs ()];show Ô some ht
   let#[b,rfl,eb]:=e3 d v _ hv Y;symm;show cH (ip ep) (aM (j:=x) (v:=.ref a) (by rw[À,R];rfl)) ?_;symm;show cH (ip e1) (aM (j:=d) (v:=.ref b) hv) ?_;symm;show dC eb ?_;symm;show#[D.1,ga,pp,x,t.1,D.2,_,m,rfl,(w3 D (Yf G)).same S5,eg,W.same M,P.inP wf T x D.2 (Yf ac),#[w,k1],λya w' H6 s6 Z hy=>?_];rw[k1]at Z;cases Z;let#[ca,y1,y2]:=hy;dsimp only at y1 y2;have B:=(s5.trans s6).get N;symm;show du (ip B) ?_;symm;show dC y1 ?_;symm;show fL B (by rw[Qb];rfl') ?_;have ad:upd H6 J (HO.lst ((A.map λw=>V.str w.1)++[V.str w.1])) ya=!(.tup [.str w.1,.ref ca,.int w.2.2]):=by rw[ak (bA y1 B (by intro z;cases z))];show y1
   have am:upd H6 J (HO.lst ((A.map λw=>V.str w.1)++[V.str w.1])) ca=!(.tup (nv w.2.1)):=by rw[ak (bA y2 B (by intro z;cases z))];show y2
   symm;show cX ad ?_;symm;show bQ (iq am) ?_;rw[Qb];symm;show jn ad ?_;symm;let#[n',rfl]:∃n',n=n'+1:=#[n-1,()];rw[JB cx ht (by rw[O];show k1)]at C;show#[#[A++[w],x+↑w.2.1,w.2.2.toNat,n',u,(sb.same (s5.trans s6)).set (by simp),by rw[aa,Wp];rfl,k7,(),(),by rw[ĕ];show C,k5,by rw[Â,Þ];rfl',λy my=>?_,!(.ref ya),?_],?_]
   .rcases Ã.mp my with my|my;.show U y my
    .rw [Zl.mp my];let#[c,ec]:=wf.sg _ (Fo.bZ k3);dsimp only at ec;rw[ec,fC];rfl
   .rw [show((w.2.2.toNat:Nat):Int)=w.2.2 by rfl',show((x+↑w.2.1:Nat):Int)=(x:Int)+(↑w.2.1:Int)by rfl'];rfl
   .show ↑xs-((x:Int)+(↑w.2.1:Int)).toNat<↑xs-((x:Int)).toNat;rfl'
  .rw [Ot (),ò]at C;rw[<-C]at q;symm;show RG (ys:=A.map (·.1)) (ip (by rw[N,Æ];rfl)) ?_ ?_
   .have e0:↑(Str.ofString "")=0:=rfl;rw[e0,Nat.mul_zero,Nat.add_zero,Æ];have:∀l:ϳ,(∀w∈l,↑w.1=1)->(l.map ((λs:ϐ=>↑s)∘λw:ϐ×ϊ Nat×Int=>w.1)).sum=↑l:=λl=>by induction l with
     |nil=>intro _;rfl|cons y r ih=>intro hl;rw[È,Ŗ,ih λz mz=>hl z (Ì _ mz)];change↑y.1+_=_;rw[hl y Ë,ô];rfl'
    rw[this A U];rfl'
   .show q _ SH
 .rintro σ H Q Q' hq ⟨v,hv,w,hw,x,n,e,hl,i,j,e1,e2,k,e3,z⟩;show#[v,hv,w,hw,x,n,e,hl,i,j,e1,e2,k,e3,hq _ _ z]
inductive gE(K:Ϗ)(vs:ϊ V)(H:Hp)(Q:VK)(E:XK):Prop|mk (f ha p:ό) (h:Nat) (ls:ϵ) (ds:L2S) (es:ϊ Int) (xs:ϊ Nat) (_:vs=[.ref f,.ref ha,.ref p]) (_:FnF K H f h ls) (_:Fo.Wf h ls) (_:HsG K H ha ds es) (_:(1<=↑ds/\↑ds<=40)) (_:(∀ps∈ds,↑ps<=1000)) (_:(∀ps∈ds,∀q∈ps,0<=q.2/\q.2<↑ds)) (_:SqL K H p (nv xs)) (_:↑xs<=1000) (_:∀v H',Same H H'->NrP H' v (zJ ls xs ds es)->Q v H')
def zN K(E:XK)(Eh:XK):=(aB (aK (cg (dA K) (jZ aU bK c7)) (ao 3))
  (aB (aK (aL (cZ K) (aL (cZ K) cM (tI 0)) (tI 0)) (ao 4))
  (aB (bG (aP (aL gF di (tC V.non))) (aR (tC V.non)) aW)
  (aR (bY (jZ (cg (eA K) (pZ aU bK c7 cM)) (tX K di 0) (tX K di 1)))))))
theorem Uy(h:gE K vs H Q E):∃O,zN K E O {nx:=λ_ H'=>Q .non H',rt:=Q} (start ["font","house","strip","paper","thing"] vs) H:=by
 let#[f,J,p,h,ls,ds,es,xs,rfl,D,A,F,#[u,c],i,k,G,l,q]:=h;show#[E0,?_];unfold zN;symm;show#[f,J,p,h,ls,ds,es,xs,rfl,D,A,F,c,λps m=>#[i ps m,k ps m],G,l,λN B R n W o=>?_];have P:IsP ls xs ds es (Us ls xs ds es):=Ut A;have w:zJ ls xs ds es=(((Us ls xs ds es).getD 0 []).getD 0 none).map λt=>(wN ls xs (ds.map (aO ls)) (Us ls xs ds es) ↑xs 0 0,t.1,t.2):=rfl;change PpN H B N (Us ls xs ds es) R at o;generalize Us ls xs ds es=rows at P o w;let#[r,U,ep,X]:=o.t;have Y:=P.len;let#[a,g]:∃a,r[0]?=!a:=#[_,Zs ()];let#[e,d]:∃e,rows[0]?=!e:=#[_,Zs ()];let#[vs,S,e2,T]:=X 0 a e g d;have Z:=P.row e (Yf d);let#[v,M]:∃v,vs[0]?=!v:=#[_,Zs ()];let#[t,L]:∃t,e[0]?=!t:=#[_,Zs ()];have I:=T 0 v t M L;have s:(rows.getD 0 []).getD 0 none=t:=by rw[show rows.getD 0 []=e by rw[Á,d];rfl,Á,L];rfl
 symm;show cH (ip ep) (aM (j:=0) (v:=.ref a) (by rw[À,g];rfl)) ?_;symm;show cH (ip S) (aM (j:=0) (v:=v) M) ?_;symm;cases t with
 |none=>cases I;show mY rfl ?_;symm;show q .non B n ?_;rw[w,s];rfl|some t=>let#[b,rfl,C]:=I;show mZ (by intro z;cases z) ?_;symm;show#[f,J,p,N,h,ls,ds,es,xs,rows,rfl,D.same n,A,F.same n,#[u,c],i,k,n.seq G,l,o.t,P,#[t,s],λH2 x=>?_];symm;show dC (x.get C) ?_;symm;show cX (x.get C) ?_;symm;intro y hy;show q _ _ ((n.trans x).new hy) ?_;rw[w,s];show#[y,rfl,aa]
inductive dE(K:Ϗ)(vs:ϊ V)(H:Hp)(Q:VK)(E:XK):Prop|mk (f:ό) (ht:Nat) (ls:ϵ) (x:V) (_:vs=[.ref f,x]) (_:RefG K mG mG []) (_:Thing H x) (_:FnT K H f ht ls) (_:(∀p∈ls,Hs.Sg p.1)) (_:(∀s c,x=.str s->Fo.lk ls s=!c->∀r,H r=none->Q (.ref r) (upd H r (.lst (nv c))))) (_:((∀s,x=.str s->Fo.lk ls s=none)->∀H',Same H H'->E (.ref nW) none H'))
def JL K E Eh:=(Hi K mG Eh E nW (aR (eY (eC K) [] Eh (cF aU bK))))
theorem Yh(h:dE K vs H Q E):∃b,JL K E b {nx:=λ_ H'=>Q .non H',rt:=Q} (start ["font","filler"] vs) H:=by
 let#[f,j,ls,x,rfl,F,k,g,a,q,m]:=h;show#[λC _ H'=>C=.ref mG/\Same H H'/\∀s,x=.str s->Fo.lk ls s=none,?_];unfold JL;show#[?_,?_];.symm;show#[f,j,ls,x,rfl,k,g,a,λs c d e r i=>?_,λz=>#[rfl,ix _,z]];symm;show q s c d e r i
 .rintro _ o ⟨rfl,n,z⟩;show#[F.em,λy l=>m z _ (n.new l)]
theorem Yi(h:dE K vs H Q E):↑vs=2:=by let#[_,_,_,_,rfl,_]:=h;rfl
def DrF(H:Hp)(a:ό)(ps:L1S):Prop:=∃(zs:ϊ (ό×ϐ×Int))(ob:PySem.Obj),zs.map (·.2)=ps/\ob.dict=none/\H a=!(.frz ob (.tup (zs.map λz=>V.ref z.1)))/\∀z∈zs,H z.1=!(.tup [.str z.2.1,.int z.2.2])
theorem DrF.same(h:DrF H a ps)(s:Same H H'):DrF H' a ps:=by let#[zs,ob,e,d,b,c]:=h;show#[zs,ob,e,d,s.get b,λz f=>s.get (c z f)]
theorem BW(h:DrF H a ps)(e:H q=!(.lst ys)):DrF (upd H q o) a ps:=by let#[zs,ob,c,f,b,d]:=h;show#[zs,ob,c,f,by rw[ak λz=>by rw[z,e]at b;cases b];show b,λz g=>dh (d z g) e]
def HsF(K:Ϗ)(H:Hp)(a:ό)(ds:L2S)(es:ϊ Int):Prop:=∃(d e:ό)(rs:ϊ (ό×L1S)),H a=!(.tup [.ref d,.ref e])/\rs.map (·.2)=ds/\SqT K H d (rs.map λr=>V.ref r.1)/\(∀r∈rs,DrF H r.1 r.2)/\H e=!(.tup (es.map V.int))
theorem HsF.same{K:Ϗ}(h:HsF K H a ds es)(s:Same H H'):HsF K H' a ds es:=by let#[d,e,k,b,c,f,g,i]:=h;show#[d,e,k,s.get b,c,s.tup f,λr j=>(g r j).same s,s.get i]
def BX(ls:ϵ)(ds:L2S)(x:V)(c0:Nat):Prop:=∃s,x=.str s/\Fo.lk ls s=![c0]/\(∀ps∈ds,Hs.dr ps s=none)/\↑ds<40
theorem DrF.g{K:Ϗ}(h:DrF H a ps):DrG K H a ps:=by let#[zs,ob,e,d,b,c]:=h;show#[zs,e,.inl (.inr #[ob,b]),c]
theorem HsF.g{K:Ϗ}(h:HsF K H a ds es):HsG K H a ds es:=by let#[d,e,l,b,c,f,i,j]:=h;show#[d,e,l,b,c,f,λr k=>(i r k).g,j]
theorem GoodH.big(g:GoodH ds es)(h:↑ds+n<=40):GoodH (ds++List.replicate n []) es:=by
 have d:↑(ds++List.replicate n ([]:L1S))=↑ds+n:=by rw[Â,å]
 have a:∀ps∈ds++List.replicate n ([]:L1S),ps∈ds\/ps=[]:=λps m=>(Ã.mp m).imp id λm=>(List.mem_replicate.mp m).2;show#[by have:=g.r1;rfl',(),λps m=>?_,λps m=>?_,λps m z b=>?_,g.ei,g.el,λe c=>by have:=g.er e c;rfl']
 .rcases a ps m with m|rfl;.show g.sr ps m
  .show List.Pairwise.nil
 .rcases a ps m with m|rfl;.show g.ln ps m
  .show á _
 .rcases a ps m with m|rfl;.have:=g.sg ps m z b;show#[this.1,this.2.1,()]
  .cases b
theorem HsF.bigG{K:Ϗ}{es:ϊ Int}(c:rs.map (·.2)=ds)(h:∀r∈rs,DrF H r.1 r.2){t e d:ό}(k:H t=!(.tup [.ref b,.ref e]))(i:H b=!(.tup (rs.map (λr=>V.ref r.1)++List.replicate n (V.ref d))))(f:H d=!(.tup []))(j:H e=!(.tup (es.map V.int))):HsG K H t (ds++List.replicate n []) es:=by
 show#[b,e,rs++List.replicate n (d,[]),k,by rw[Wp,c,List.map_replicate],iq (by rw[Wp,List.map_replicate];show i),λr a=>?_,j];rcases Ã.mp a with a|a;.show (h r a).g
 .rw [(List.mem_replicate.mp a).2];show#[[],rfl,iq f,by simp]
theorem PdR.uni{c d:L2S}(h:PdR ds es s c)(h':PdR ds es s d):c=d:=by
 show List.ext_getElem? λj=>?_
 rcases ę j (↑ds+1)with w|w;.have e:c[j]?=!(c[j]'(by rw[h.1];show w)):=Zs _;have f:d[j]?=!(d[j]'(by rw[h'.1];show w)):=Zs _;let#[g,k]:=h.2 j _ e;let#[i,l]:=h'.2 j _ f;rw[e,f,(g.trans i.symm).eq_of_pairwise (le:=λa b:ϐ×Int=>lR a.1 b.1) (λa b _ _ x y=>absurd (List.lt_trans x y) (ŭ _)) (Ũ.mp k) (Ũ.mp l)]
 .rw [Ċ (by rw[h.1];show w),Ċ (by rw[h'.1];show w)]
theorem PdR.ok(h:PdR ds es s a)(e:∀ps∈ds,↑ps<=n)(f:∀ps∈ds,∀p∈ps,0<=p.2/\p.2<↑ds):∀ps∈a,↑ps<=n+1/\∀q∈ps,0<=q.2/\q.2<↑a:=λps b=>by
 let#[j,d,rfl]:=Ą.mp b;let#[c,_]:=h.2 j _ (Zs d);have g:↑((ds++[[]]).getD j [])<=n/\∀q∈(ds++[[]]).getD j [],0<=q.2/\q.2<(↑ds:Int):=by
  rw[Á];rcases ę j ↑ds with w|w;.rw [è w,Zs w];show#[e _ (ä w),f _ (ä w)]
  .rw [ã w,show j-↑ds=0 by have:=h.1;rfl'];show#[Nat.zero_le _,λq m=>by cases m]
 have k:=h.1;show#[?_,?_]
 .rw [c.length_eq,Â];split;.show ŕ g.1 1
  .show Nat.le_succ_of_le g.1
 .intro q i;rcases Ã.mp (c.mem_iff.mp i)with m|m
  .have:=g.2 q m;rfl'
  .split at m;.rw [Zl.mp m];show#[by change(0:Int)<=(↑ds:Int);rfl',by change(↑ds:Int)<_;rfl']
   .cases m
inductive eJ(K:Ϗ)(vs:ϊ V)(H:Hp)(Q:VK)(E:XK):Prop|mk (f ha:ό) (ht:Nat) (ls:ϵ) (ds:L2S) (es:ϊ Int) (x:V) (_:vs=[.ref f,.ref ha,x]) (_:RefG K mG mG []) (_:RefG K lO lO []) (_:Thing H x) (_:FnT K H f ht ls) (_:(∀p∈ls,Hs.Sg p.1)) (_:HsG K H ha ds es) (_:GoodH ds es) (_:(∀s c0,x=.str s->BX ls ds x c0->∀r H' ds',Same H H'->HsG K H' r ds' (es++[(↑ds:Int)])->PdR ds es s ds'->Q (.ref r) H')) (_:((∀c0,¬BX ls ds x c0)->∀H',Same H H'->E (.ref nW) none H'))
def zO K E Eh:=(aB (bG (aP (aL Cw (gm K (eY (dE K) [] E (cF aU c7))) (tI 1))) (jV E nW (bR (tC (V.str (Str.ofString "the filler has more than one column"))))) aW)
  (Hi K lO Eh E nW (aR (eY (gT K) [] Eh (cF bK c7)))))
theorem UG(h:eJ K vs H Q E):∃v,zO K E v {nx:=λ_ H'=>Q .non H',rt:=Q} (start ["font","house","filler"] vs) H:=by
 let#[f,L,R,ls,ds,es,x,rfl,w,F2,u,I,i,J,D,q,n]:=h;show#[λC _ H'=>C=.ref lO/\Same H H'/\∀s,x=.str s->Hs.Sg s->(∀ps∈ds,Hs.dr ps s=none)->↑ds<40->False,?_];unfold zO;symm;show#[f,R,ls,x,rfl,w,u,I,i,λs c l e r P=>?_,λz A d=>n (λc ⟨s,l,e,_⟩=>by rw[z s l]at e;cases e) _ d];have d:=aq (o:=HO.lst (nv c)) P;subst l;symm;show bJ (ip aa) ?_;rw[Qb];symm;by_cases t:↑c=1
 .show mD () ?_;symm;show#[?_,?_]
  .symm;show#[L,.str s,ds,es,rfl,J.same d,D,u.same d,λs' a U M N W H' k p m O=>?_,λz H' p=>#[rfl,d.trans p,z]];cases a;symm;let#[j,rfl]:∃j,c=[j]:=List.length_eq_one_iff.mp t;show q s j rfl #[s,rfl,e,M,N] _ _ k (d.trans p) m.g O
  .rintro _ A ⟨rfl,T,z⟩;show#[F2.em,λy S=>n (λB ⟨s',a,b,F,G⟩=>z s' a (i _ (Fo.bZ b)) F G) _ (T.new S)]
 .show HN () ?_;symm;show n (λB ⟨s',a,b,_⟩=>t ?_) _ d;cases a;rw[e]at b;cases b;rfl
theorem UJ(h:eJ K vs H Q E):↑vs=3:=by let#[_,_,_,_,_,_,_,rfl,_]:=h;rfl
noncomputable def Eu(c:Nat)(t:ϊ Nat):ϊ Nat:=(t.reverse.dropWhile λx=>decide (x=c)).reverse
theorem uB(c:Nat)(d:ϊ Nat):∀k,Eu c (d++List.replicate k c)=Eu c d
 |0=>by rw[List.replicate_zero,ò]|k+1=>by have:=uB c d k;unfold Eu at this⊢;rw[List.reverse_append,List.reverse_replicate]at this⊢;rw[ĺ,Ρ,List.dropWhile_cons_of_pos (by simp)];show this
theorem JM{d:ϊ Nat}(h:∀x,d.getLast?=!x->x≠c):Eu c d=d:=by
 unfold Eu;cases e:d.reverse with
 |nil=>rw[List.reverse_eq_nil_iff.mp e];rfl|cons x l=>rw[List.dropWhile_cons_of_neg (by simpa using h x (by rw[List.getLast?_eq_head?_reverse,e];rfl)),<-e,List.reverse_reverse]
theorem Ou{b:ϊ Nat}:Txt.slice (tx b) none (!(-1))=tx b.dropLast:=by
 by_cases h:b=[];.rw [h];rfl
 .have a:0<↑b:=Ř.mpr h;have:=beq_iff_eq.mp (PyProof.Rows.slice_closes_to_neg (x:=tx b) (j:= -1) (k:= -1+(↑b:Int)) (by decide) (by change-((↑b:Nat):Int)<= -1;rfl') rfl);rw[this,List.dropLast_eq_take,Ig,show(-1+(↑b:Int)-0).toNat=↑b-1 by rfl'];rfl
noncomputable def Le(p:ϳ):ϊ Nat:=p.map λw=>w.1.cps.toList.headD 0
theorem JN{p:ϳ}(e:p.map (·.1)=cs.map λc=>tx [c]):Le p=cs:=by
 have:Le p=(p.map (·.1)).map λs:ϐ=>s.cps.toList.headD 0:=by rw[Æ];rfl
 rw[this,e,Æ];show List.map_id cs
theorem BZ{wss:ϲ}:∀n x room,↑(wN ls xs wss a n x room)<=n
 |0,_,_=>Ç _|n+1,x,room=>by
  unfold wN;split
  .split;.show á _
   .split
    .show á _
    .show Τ (BZ n _ _)
  .show á _
def QpP(H:Hp)(v:V)(c:Nat):ύ (ϊ (ϴ)×Nat×Nat)->Prop
 |none=>v=.non|some t=>∃a,v=.ref a/\H a=!(.tup [.str (tx (Eu c (Le t.1))),.int (t.2.1:Nat),.int (t.2.2:Nat)])
noncomputable def Yj(c:Nat):ύ (ϊ (ϴ)×Nat×Nat)->PyData
 |none=>.none|some t=>.tuple [.str (tx (Eu c (Le t.1))),.int (t.2.1:Nat),.int (t.2.2:Nat)]
theorem QpP.same(h:QpP H v c o)(s:Same H H'):QpP H' v c o:=by cases o with
 |none=>show h|some t=>let#[a,e,q]:=h;show#[a,e,s.get q]
theorem QpP.dp{K:Ϗ}(h:QpP H v c o):Dp K H v (Yj c o):=by cases o with
 |none=>cases h;show .non|some t=>let#[a,rfl,e]:=h;show .tup (iq e) (.cons (.str _) (.cons (.int _) (.cons (.int _) .nil)))
theorem PX(h:∀t,o=!t->∀s∈t.1.map (·.1),Hs.Sg s):Sh 1 (Yj c o):=by cases o with|none=>show#[by simp[Yj,PyData.canLay0],by simp[Yj,PyData.depth]]|some t=>
  let#[cs,e,b]:=qm (h t rfl);show gP λd a=>?_;rw[JN e]at a;simp only[Å,â,Ď]at a;rcases a with rfl|rfl|rfl;.show Ih 0 λx f=>b x (List.mem_reverse.mp ((List.dropWhile_sublist _).subset (List.mem_reverse.mp f)))
  .show dU _ _
  .show dU _ _
theorem Q0{h:Nat}(g:Fo.Wf h ls)(b:NrP H v (zJ ls xs ds es)):(zJ ls xs ds es=none/\v=.non)\/∃t a,zJ ls xs ds es=!t/\v=.ref a/\↑(Le t.1)<=↑xs/\H a=!(.tup [.str (tx (Le t.1)),.int (t.2.1:Nat),.int (t.2.2:Nat)]):=by
 have f:=JF (xs:=xs) (ds:=ds) (es:=es) g;cases e:zJ ls xs ds es with
 |none=>rw[e]at b;show .inl #[rfl,b]|some t=>rw[e]at b;let#[a,rfl,d]:=b;let#[cs,c,_]:=qm (f t e);show .inr #[t,a,rfl,rfl,?_,by rw[d,c,join_ones,JN c]];unfold zJ at e;let#[u,_,rfl]:=Ï.mp e;rw[show Le _=List.map _ _ from rfl,Qb];show BZ _ _ _
def QpL(H:Hp)(c:Nat)(F:ϊ Nat->ύ (ϊ (ϴ)×Nat×Nat))(xss:ϊ (ϊ Nat))(us:ϊ V):Prop:=↑us=↑xss/\∀(i:Nat) u xs,us[i]?=!u->xss[i]?=!xs->QpP H u c (F xs)
inductive fE(K:Ϗ)(vs:ϊ V)(H:Hp)(Q:VK)(E:XK):Prop|mk (f ha p:ό) (h:Nat) (ls:ϵ) (ds:L2S) (es:ϊ Int) (xs:ϊ Nat) (c:Nat) (_:vs=[.ref f,.ref ha,.str (tx [c]),.ref p]) (_:FnF K H f h ls) (_:Fo.Wf h ls) (_:HsG K H ha ds es) (_:(1<=↑ds/\↑ds<=40)) (_:(∀ps∈ds,↑ps<=1000)) (_:(∀ps∈ds,∀q∈ps,0<=q.2/\q.2<↑ds)) (_:SqL K H p (nv xs)) (_:↑xs<=1000) (_:∀v H',Same H H'->QpP H' v c (zJ ls xs ds es)->Q v H')
def zP K(E:XK)(Eh:XK):=(aB (aK (cg (gE K) (jZ aU bK cM)) (ao 4))
  (aB (bG (aP (aL gF di (tC V.non))) (aR (tC V.non)) aW)
  (aR (bY (jZ (oU K "str" tQ (tX K di 0) (bR c7)) (tX K di 1) (tX K di 2))))))
theorem UT(h:fE K vs H Q E):∃j,zP K E j {nx:=λ_ H'=>Q .non H',rt:=Q} (start ["font","house","filler","strip","told"] vs) H:=by
 let#[f,s,p,h,ls,ds,es,xs,c,rfl,l,i,n,u,b,d,r,e,q]:=h;show#[E0,?_];unfold zP;symm;show#[f,s,p,h,ls,ds,es,xs,rfl,l,i,n,u,b,d,r,e,λv B g o=>?_];symm;rcases Q0 i o with⟨eo,rfl⟩|⟨t,a,eo,rfl,hl,ea⟩;.show mY rfl ?_;symm;show q _ _ g (by rw[eo];rfl)
 .show mZ (by intro z;cases z) ?_;symm;show dC ea ?_;symm;show Ip () λw m k x=>?_;symm;show cX ea ?_;symm;show jn ea ?_;symm;intro y A;show q _ _ (g.new A) ?_;rw[eo];show#[y,rfl,by rw[aa,k,uB,JM x]]
inductive eL(K:Ϗ)(vs:ϊ V)(H:Hp)(Q:VK)(E:XK):Prop|mk (f ha sa:ό) (h:Nat) (ls:ϵ) (ds:L2S) (es:ϊ Int) (x:V) (zs:Ϸ) (_:vs=[.ref f,.ref ha,x,.ref sa]) (_:RefG K mG mG []) (_:RefG K lO lO []) (_:Thing H x) (_:FnF K H f h ls) (_:Fo.Wf h ls) (_:HsG K H ha ds es) (_:GoodH ds es) (_:SqL K H sa (zs.map λz=>V.ref z.1)) (_:↑zs<=1000) (_:(∀z∈zs,SqL K H z.1 (nv z.2)/\↑z.2<=1000)) (_:(∀c c0,x=.str (tx [c])->BX ls ds x c0->∀ds',PdR ds es (tx [c]) ds'->∀r H' us,Same H H'->H' r=!(.lst us)->QpL H' c (λxs=>zJ ls xs ds' (es++[(↑ds:Int)])) (zs.map (·.2)) us->Q (.ref r) H')) (_:((∀c0,¬BX ls ds x c0)->∀H',Same H H'->E (.ref nW) none H'))
abbrev zQ(K:Ϗ):Sp:=λvs H Q _=>eL K vs H Q E0
def zR K E(Eh:XK):=(aB (aK (eY (eJ K) [] E (jZ aU bK c7)) (ao 4))
  (aR (mU [none,!0,!4,!2] (cB K cM) (ao 0) gZ (cg (fE K) (pZ bK c7 cM aU)))))
theorem UV(h:eL K vs H Q E):∃T,zR K E T {nx:=λ_ H'=>Q .non H',rt:=Q} (start ["font","house","filler","strips","house_of_rows"] vs) H:=by
 let#[f,ha,sa,h,ls,ds,es,x,zs,rfl,U,F2,hx,M,L,hH,C,N,ad,hz,q,qe]:=h;show#[E0,?_];unfold zR;symm;show#[f,ha,h,ls,ds,es,x,rfl,U,F2,hx,M.t,L.sg,hH,C,λs X Y k r W d y D J=>?_,qe];let#[s',A,Z,hd,hl]:=id k;subst Y;cases A;let#[n,B]:=L.sg _ (Fo.bZ Z);replace B:s=tx [Hs.jH n]:=B;subst B;replace q:=q _ X rfl k d J;generalize Hs.jH n=c at q;have ok:=J.ok C.ln λps o p m=>(C.sg ps o p m).2;have ac:=J.1;symm;show qH (λz:ό×ϊ Nat=>V.ref z.1) (zs:=zs) (y.seq N) () (λi ys H'=>(An3 (Same W H') (QpL H' c (λxs=>zJ ls xs d (es++[(↑ds:Int)])) ((zs.take i).map (·.2)) ys) (↑ys<=i))) #[ix _,#[rfl,λi u xs e=>by cases e],Ç _] ?_ ?_ ?_ ?_;.rintro i ys H' ⟨s',_⟩;show s'.seq (y.seq N)
 .rintro i ys H' ⟨_,_,h⟩;show h
 .rintro i z ys H' O ⟨s',⟨b,G⟩,I⟩;have R:=y.trans s';have l:=hz z (Yf O);symm;show#[f,r,z.1,h,ls,d,_,z.2,c,rfl,M.same R,L,D.same s',#[(),()],λps o=>Ð (ok ps o).1 (by decide),λps o=>(ok ps o).2,R.seq l.1,l.2,λv H2 S hv=>?_];have ht:(zs.take (i+1)).map (·.2)=(zs.take i).map (·.2)++[z.2]:=by rw[Ò,O,Wp];rfl
  show#[s'.trans S,?_,by rw[Â];show Τ I];rw[ht];show#[by rw[Â,Â,b];rfl,λj u xs a g=>?_];rcases ę j ↑ys with w|w;.rw [è w]at a;rw[è (b▸w)]at g;show(G j u xs a g).same S
  .rw [ã w]at a;rw[ã (b▸w)]at g;rw[b]at a;cases ej:j-↑((zs.take i).map (·.2))with
   |zero=>rw[ej]at a g;cases a;cases g;show hv|succ m=>rw[ej]at a;cases a
 rintro ys H' ⟨s',F,_⟩ p P;rw[ç]at F;show q p _ ys ((y.trans s').new P) aa #[F.1,λi u xs a g=>(F.2 i u xs a g).same (aq P _)]
theorem UW(h:eL K vs H Q E):↑vs=4:=by let#[_,_,_,_,_,_,_,_,_,rfl,_]:=h;rfl
def MnV(ls:ϵ)(ds:L2S)(es:ϊ Int)(v:V):Prop:=∃(N:Nat)(S:ϊ Sd)(fz:ϊ Fq),↑(cJ (ds.map (aO ls)) N)<=N/\(∀x,x∈S↔Mm.Rch (Lb (ds.map (aO ls)) N) (PN (ds.map (aO ls))) x)/\(fz.map (·.2.1)).Nodup/\Dj (Ld es S) (Et (Oj ls (ds.map (aO ls))) S) (Fnd fz) (λ_ _=>False)/\((v=.non/\∀z∈qu (ds.map (aO ls)) (cJ (ds.map (aO ls)) N),∀k,¬Fnd fz (nj z) k)\/∃L:Nat,v=.int (((L:Int)-1)/2)/\(∃z∈qu (ds.map (aO ls)) (cJ (ds.map (aO ls)) N),∃k,Fnd fz (nj z) k/\L=uF z+k.1)/\∀z∈qu (ds.map (aO ls)) (cJ (ds.map (aO ls)) N),∀k,Fnd fz (nj z) k->L<=uF z+k.1)
theorem Fnd.one(h:(fz.map (·.2.1)).Nodup):∀x k l,Fnd fz x k->Fnd fz x l->k=l:=by rintro x k l ⟨f,a,rfl,rfl⟩ ⟨g,b,e,rfl⟩;induction fz with
 |nil=>cases a|cons y r ih=>
  rw[È,æ]at h;rcases Å.mp a with rfl|mf'
  .rcases Å.mp b with rfl|mg';.rfl
   .show absurd (Zp.mpr #[g,mg',e]) h.1
  .rcases Å.mp b with rfl|mg';.show absurd (Zp.mpr #[f,mf',e.symm]) h.1
   .show ih h.2 mf' mg'
theorem MnV.uni{w:V}(h:MnV ls ds es v)(h':MnV ls ds es w):v=w:=by
 let#[N,S,j,o,p,u,l,s]:=h;let#[M,T,b,n,d,t,m,f]:=h';rw[ut n o]at f;unfold Lb at p d;rw[ut n o]at d;have e:∀x,x∈T↔x∈S:=λx=>(d x).trans (p x).symm;have a:Dj (Ld es S) (Et (Oj ls (ds.map (aO ls))) S) (Fnd b) (λ_ _=>False):=by
  have q:Ld es T=Ld es S:=funext λx=>propext #[λh=>#[(e x).mp h.1,h.2],λh=>#[(e x).mpr h.1,h.2]]
  have r:Et (Oj ls (ds.map (aO ls))) T=Et (Oj ls (ds.map (aO ls))) S:=funext λc=>funext λx=>funext λy=>propext #[λh=>#[(e x).mp h.1,h.2],λh=>#[(e x).mpr h.1,h.2]];rw[q,r]at m;show m
 have g:∀{x k},Fnd j x k->Fnd b x k:=λh=>l.uni a (Fnd.one u) h;have i:∀{x k},Fnd b x k->Fnd j x k:=λh=>a.uni l (Fnd.one t) h;rcases s with⟨rfl,no⟩|⟨L,rfl,⟨z,mz,k,hk,el⟩,mn⟩
 .rcases f with⟨rfl,_⟩|⟨L,_,⟨z,mz,k,hk,_⟩,_⟩;.rfl
  .show absurd (i hk) (no z mz k)
 .rcases f with⟨_,no⟩|⟨L',rfl,⟨z',mz',k',hk',el'⟩,mn'⟩;.show absurd (g hk) (no z mz k)
  .have A:=mn z' mz' k' (i hk');have B:=mn' z mz k (g hk);rw[show L=L' by rfl']
inductive eE(K:Ϗ)(vs:ϊ V)(H:Hp)(Q:VK)(E:XK):Prop|mk (f ha:ό) (h:Nat) (ls:ϵ) (ds:L2S) (es:ϊ Int) (x:V) (_:vs=[.ref f,.ref ha,x]) (_:RefG K mG mG []) (_:RefG K lO lO []) (_:Thing H x) (_:FnF K H f h ls) (_:Fo.Wf h ls) (_:HsG K H ha ds es) (_:GoodH ds es) (_:(∀s c0,x=.str s->BX ls ds x c0->∀ds',PdR ds es s ds'->Wg ls ds'/\∀v H',Same H H'->MnV ls ds' (es++[(↑ds:Int)]) v->Q v H')) (_:((∀c0,¬BX ls ds x c0)->∀H',Same H H'->E (.ref nW) none H'))
abbrev V0(K:Ϗ):Sp:=λvs H Q _=>eE K vs H Q E0
def zT K E(Eh:XK):=(aR (cg (hY K) (cF aU (eY (eJ K) [] E (jZ aU bK c7)))))
theorem V1(h:eE K vs H Q E):∃o,zT K E o {nx:=λ_ H'=>Q .non H',rt:=Q} (start ["font","house","filler"] vs) H:=by let#[f,B,h,ls,ds,es,x,rfl,p,F2,C,j,n,A,z,q,G]:=h;show#[E0,?_];unfold zT;symm;show#[f,B,h,ls,ds,es,x,rfl,p,F2,C,j.t,n.sg,A,z,λs v w c r I a d b F=>?_,G];let#[sz,q]:=q s v w c a F;symm;show#[f,r,h,ls,a,_,rfl,j.same d,n,b,sz,λN S g k l m i=>#[λno u e=>q _ _ (d.trans e) #[N,S,g,k,l,m,i,.inl #[rfl,no]],λu L e y D=>q _ _ (d.trans e) #[N,S,g,k,l,m,i,.inr #[L,rfl,y,D]]]]
theorem V2(h:eE K vs H Q E):↑vs=3:=by let#[_,_,_,_,_,_,_,rfl,_]:=h;rfl
inductive ic(K:Ϗ)(vs:ϊ V)(H:Hp)(Q:VK)(E:XK):Prop|mk (a:ό) (ns:ϊ Int) (k:Nat) (_:vs=[.ref a,.int k]) (_:SqL K H a (ns.map V.int)) (_:Q (.int (Mm.cellAt ns k)) H)
def JP K(E:XK)(Eh:XK):=(aB (bG (aP (aL Gr bK (gm K aU))) (aR (aL (cZ K) aU bK)) aW)
  (aR (tI 0)))
theorem Yk(h:ic K vs H Q E):∃d,JP K E d {nx:=λ_ H'=>Q .non H',rt:=Q} (start ["script","k"] vs) H:=by
 let#[a,ns,k,rfl,b,q]:=h;show#[E0,?_];unfold JP;symm;show bJ b ?_;symm;rw[Qb];show dO (λc=>?_) λc=>?_
 .symm;show cH b (aM (v:=V.int (Mm.cellAt ns k)) ?_) ?_;.rw [À,Zs (),Ş,Mm.getD_some (Zs ())]
  .show q
 .symm;rw[Mm.getD_none ()]at q;show q
inductive eB(K:Ϗ)(vs:ϊ V)(H:Hp)(Q:VK)(E:XK):Prop|mk (i:Int) (_:vs=[.int i]) (_:Q (.bl true) H)
def zU K(E:XK)(Eh:XK):=(aR (gU (gw (eQ K) (cF aU (tC (V.ty "int")))) (Ai (gw (eQ K) (cF aU (tC (V.ty "bool")))))))
theorem V3(h:eB K vs H Q E):∃a,zU K E a {nx:=λ_ H'=>Q .non H',rt:=Q} (start ["found"] vs) H:=by let#[i,rfl,q]:=h;show#[E0,?_];unfold zU;symm;show#[_,_,_,_,rfl,.int i,rfl,?_];symm;show#[_,_,_,_,rfl,.int i,rfl,?_];symm;show q
noncomputable def sgs:ϐ:=Str.ofString " !\"#$&'()*+,-./0123456789:;<=>?@ABCDEFGHIJKLMNOPQRSTUVWXYZ[\\]^_`"++Str.ofString "abcdefghijklmnopqrstuvwxyz{|}~"
def ju(K:Ϗ):Sp:=λvs H Q _=>vs=[]/\Q (.str sgs) H
def zV(K:Ϗ)(E:XK)(Eh:XK):=(aB (aK (tC (V.str (Str.ofString " !\"#$&'()*+,-./0123456789:;<=>?@ABCDEFGHIJKLMNOPQRSTUVWXYZ[\\]^_`"))) (ao 0))
  (aR (aL fV aU (tC (V.str (Str.ofString "abcdefghijklmnopqrstuvwxyz{|}~"))))))
theorem V4(h:ju K vs H Q E):∃a,zV K E a {nx:=λ_ H'=>Q .non H',rt:=Q} (start ["some"] vs) H:=by unfold ju at h;let#[rfl,q]:=h;show#[E0,?_];unfold zV;symm;show pU (by decide) ?_;show q
theorem V5(h:ju K vs H Q E):↑vs=0:=by unfold ju at h;let#[rfl,_]:=h;rfl
inductive cE(K:Ϗ)(vs:ϊ V)(H:Hp)(Q:VK)(E:XK):Prop|mk (c:Int) (_:vs=[.int c]) (_:Q (.int (Mm.wg c:Nat)) H)
def zW(K:Ϗ)(E:XK)(Eh:XK):=(aB (bG (aP (aL rZ (aL bW aU (tI 4)) (tI 3))) (aR (aL cG (tI 1) (aL bW (aL cR aU (tI 4)) (tI 60)))) aW)
  (aR (aL cG (tI 1) (aL bW (aL cR aU (tI 4)) (tI 6)))))
theorem V6(h:cE K vs H Q E):∃a,zW K E a {nx:=λ_ H'=>Q .non H',rt:=Q} (start ["cell"] vs) H:=by
 let#[c,rfl,q]:=h;show#[E0,?_];unfold zW;symm;show dO (λd=>?_) λd=>?_;.symm;rw[show((Mm.wg c:Nat):Int)=1+c/4%60 by unfold Mm.wg;rw[if_pos d];rfl']at q;show q
 .symm;rw[show((Mm.wg c:Nat):Int)=1+c/4%6 by unfold Mm.wg;rw[if_neg d];rfl']at q;show q
inductive ii(K:Ϗ)(vs:ϊ V)(H:Hp)(Q:VK)(E:XK):Prop|mk (c:Int) (m h:Nat) (_:vs=[.int c,.int m,.int h]) (_:m<=8) (_:h<=60) (_:∀t H' (co:ϊ Nat),Same H H'->H' t=!(.tup (nv co))->↑co=m->(∀x∈co,x<2^h)->Q (.ref t) H')
abbrev Ov K:=(aB (cV (j4 (bR bK)) (ao 4) (aB (aK (aL cG (aL ie aU (aL cG (aL ie (tI 2) di) (tI 3))) (aL ie di di)) (ao 5))
  (cA (oU K "list" bU cM (bR (aL bW (aL cR (aL ie dB (tI 2862933555777941757)) (tI 16)) (aL Pn (tI 1) c7)))))))
  (aR (gw (d7 K) (bR cM))))
def JQ K(E:XK)(Eh:XK):=(aB (aK (cW cY) (ao 3))
  (Ov K))
theorem Yl(h:ii K vs H Q E):∃u,JQ K E u {nx:=λ_ H'=>Q .non H',rt:=Q} (start ["cell","many","height","found","k","number"] vs) H:=by
 let#[c,m,b,rfl,A,v,q]:=h;show#[E0,?_];unfold JQ;symm;intro p r;symm;have f:∀s∈[p],H s=none:=λs j=>by rw[Zl.mp j];show r
 show pR m (à _) () () (λi o H'=>(Ex1 λ(a:ϊ Nat)=>(An5 (↑a=i) (∀x∈a,x<2^b) (Sb [p] H H') (H' p=!(.lst (nv a))) (Ex2 λl n=>o=[!(.int c),!(.int (m:Nat)),!(.int (b:Nat)),!(.ref p),l,n])))) #[[],rfl,by simp,Sb.of (aq r _),aa,none,none,rfl] ?_ ?_
 .rintro i o H' z ⟨a,g,d,sb,e,l,n,rfl⟩;symm;generalize c*(2*(i:Int)+3)+(i:Int)*(i:Int)=num;show du (ip e) ?_;symm;rw[Int.one_mul,à,Mm.HJ];show fL e (by simp;rfl') ?_;symm;show#[a++[Mm.col b num],by simp[g],?_,sb.set (by simp),by rw[aa,nv,nv,Wp];rfl,_,_,rfl];intro x y;rcases Ã.mp y with w|w;.show d x w
  .rw [Zl.mp w];show Mm.Rf b num
 .rintro o H' ⟨a,g,d,sb,e,l,n,rfl⟩;symm;show gG (ip e) λt k=>?_;show q t _ a ((sb.off f).new k) aa g d
abbrev Lw:=ϐ×V×ϊ Nat
variable{kvs:ϊ Lw}
noncomputable def jO(kvs:ϊ Lw):ϊ (Key×V):=kvs.map λp:Lw=>(Sum.inr p.1,p.2.1)
theorem JR(h:s∉kvs.map (·.1)):bx (jO kvs) (Sum.inr s)=none:=fc (f:=λp:Lw=>(Sum.inr p.1:Key)) (g:=λp:Lw=>p.2.1) λm=>by let#[p,a,e]:=Zp.mp m;show h (Zp.mpr #[p,a,Ĝ e])
theorem oh{p:Lw}:∀{kvs:ϊ Lw},(kvs.map (·.1)).Nodup->p∈kvs->bx (jO kvs) (Sum.inr p.1)=!p.2.1
 |[],_,m=>by cases m|q::r,hn,m=>by
  rw[È,æ]at hn;unfold jO;rw[È];rcases Å.mp m with rfl|m;.show cj rfl
  .rw [bN λe=>hn.1 (Zp.mpr #[p,m,(Ĝ e).symm])];show oh hn.2 m
theorem Ca:((jO kvs).any λb=>decide (b.1=Sum.inr s))=decide (s∈kvs.map (·.1)):=by
 rw[Ŵ,List.any_eq_true,decide_eq_true_iff];constructor;.rintro ⟨b,m,e⟩;let#[p,a,rfl]:=Zp.mp m;show Zp.mpr #[p,a,Ĝ (é e)]
 .intro m;let#[p,a,e]:=Zp.mp m;show#[_,Zp.mpr #[p,a,rfl],Õ (by rw[e])]
theorem Cd(v:V)(c:ϊ Nat)(h:s∉kvs.map (·.1)):putK (jO kvs) (Sum.inr s) v=jO (kvs++[(s,v,c)]):=by unfold putK;rw[Ca,if_neg (by rw[Ó h];decide)];unfold jO;rw[Wp];rfl
theorem En{c:ϊ Nat}(b:ϊ Nat)(h:s∉kvs.map (·.1)):putK (jO (kvs++[(s,v,c)])) (Sum.inr s) a=jO (kvs++[(s,a,b)]):=by
 unfold putK;rw[Ca,if_pos (Õ (by rw[Wp];simp))];unfold jO;rw[Wp,Wp,Wp];congr 1;.rw [Æ];apply ĥ;intro p d;show if_neg λe=>h (Zp.mpr #[p,d,Ĝ e])
 .show [if(Sum.inr s:Key)=Sum.inr s then _ else _]=_;rw[if_pos rfl];rfl
def GoodL(H:Hp)(ht:Nat)(p:Lw):Prop:=Hs.Sg p.1/\(1<=↑p.2.2/\↑p.2.2<=3)/\(∀x∈p.2.2,x<2^ht)/\∃t,p.2.1=.ref t/\H t=!(.tup (nv p.2.2))
theorem GoodL.same{p:Lw}(h:GoodL H ht p)(s:Same H H'):GoodL H' ht p:=by let#[a,b,c,t,e,d]:=h;show#[a,b,c,t,e,s.get d]
theorem GoodL.put{p:Lw}{kvs:ϊ (Key×V)}(h:GoodL H ht p)(e:H d=!(.dK kvs)):GoodL (upd H d o) ht p:=by let#[c,f,g,t,b,a]:=h;show#[c,f,g,t,b,by rw[ak (bA a e (by intro q;cases q))];show a]
structure LtT(H:Hp)(d:ό)(ht:Nat)(kvs:ϊ Lw)(fs:ϐ)(c0:Nat):Prop where
 d:Rd H d (.dK (jO kvs))n:(kvs.map (·.1)).Nodup
 f:(tx [],V.str fs,[])∈kvs
 k:∀p∈kvs,p.1≠tx []->GoodL H ht p
 o:∃v,(fs,v,[c0])∈kvs
 e:fs≠tx []l:↑kvs<=5
 m:∃p∈kvs,p.1≠tx []/\p.1≠fs
theorem JS{b:ϐ}(c:(kvs.map (·.1)).Nodup)(h:3<=↑kvs):∃p∈kvs,p.1≠a/\p.1≠b:=by match kvs,c,h with
 |x::y::z::r,c,_=>
  simp only[È,æ,Å,not_or]at c;let#[#[j,d,_],#[f,_],_]:=c;by_cases g:x.1≠a/\x.1≠b
  .show #[x,by simp,g]
  by_cases i:y.1≠a/\y.1≠b
  .show #[y,by simp,i]
  show#[z,by simp,λe=>?_,λe=>?_];.rw [e]at d f;show j ((Ν.mp λq=>g #[d,q]).trans (Ν.mp λq=>i #[f,q]).symm)
  .rw [e]at d f;show j ((Ν.mp λq=>g #[q,d]).trans (Ν.mp λq=>i #[q,f]).symm)
def V7(kvs:ϊ Lw)(ls:ϵ):Prop:=∀s co,Fo.lk ls s=!co↔s≠tx []/\∃v,(s,v,co)∈kvs
section
variable{ht:Nat}{c0:Nat}
theorem LtT.same(h:LtT H d ht kvs fs c0)(z:Same H H'):LtT H' d ht kvs fs c0:=#[h.d.elim (λe=>.inl (z.get e)) λ⟨o,e⟩=>.inr #[o,z.get e],h.n,h.f,λp a b=>(h.k p a b).same z,h.o,h.e,h.l,h.m]
theorem LtT.get(h:LtT H d ht kvs fs c0)(k:V7 kvs ls)(e:Fo.lk ls s=!co):∃r,DGet H d (.str s) !(.ref r)/\H r=!(.tup (nv co)):=by let#[n,v,m]:=(k s co).mp e;let#[_,_,_,t,b,a]:=h.k _ m n;have:=DGet.r (k:=Sum.inr s) h.d;rw[show bx (jO kvs) (Sum.inr s)=!v from oh h.n m,show v=V.ref t from b]at this;show#[t,this,a]
theorem LtT.no(h:LtT H d ht kvs fs c0)(k:V7 kvs ls)(n:s≠tx [])(e:Fo.lk ls s=none):DGet H d (.str s) none:=by
 have:=DGet.r (k:=Sum.inr s) h.d;rw[JR λm=>?_]at this;.show this
 .obtain ⟨p,a,rfl⟩:=Zp.mp m;have:=(k p.1 p.2.2).mpr #[n,p.2.1,a];rw[e]at this;cases this
theorem LtT.fil(h:LtT H d ht kvs fs c0):DGet H d (.str (tx [])) !(.str fs):=by have:=DGet.r (k:=Sum.inr (tx [])) h.d;rw[show bx (jO kvs) (Sum.inr (tx []))=!(.str fs)from oh (p:=(tx [],V.str fs,[])) h.n h.f]at this;show this
end
theorem zX:∀cs:ϊ Nat,cs.filterMap (λc=>if(Fo.lk ls (tx [c])).isNone=true then !(V.str (tx [c]))else none)=((cs.filter λc=>(Fo.lk ls (tx [c])).isNone).map λc=>[c]).map λl=>V.str (tx l)
 |[]=>rfl|c::r=>by
  rw[Ĕ,Ğ];by_cases h:(Fo.lk ls (tx [c])).isNone=true;.rw [if_pos h,if_pos h,È,È,zX r]
  .rw [if_neg h,if_neg h];show zX r
noncomputable def lQ(ls:ϵ):ϊ Nat:=Hs.wK.cps.toList.filter λc=>(Fo.lk ls (tx [c])).isNone
theorem Ce(ls:ϵ):↑(lQ ls)<=94:=Ð (Ō _ _) (by ac_nf)
theorem wG(h:↑ls<=40):0<↑(lQ ls):=by
 rcases Nat.eq_zero_or_pos ↑(lQ ls)with z|z
 .exfalso;have a:∀s∈Hs.wK.cps.toList.map (λc=>tx [c]),s∈ls.map (·.1):=by
   intro s m;let#[c,f,rfl]:=Zp.mp m;have:=List.filter_eq_nil_iff.mp (Α.mp z) c f;cases e:Fo.lk ls (tx [c])with
   |none=>rw[e]at this;show absurd rfl this|some co=>show Zp.mpr #[_,Fo.bZ e,rfl]
  have d:(Hs.wK.cps.toList.map λc=>tx [c]).Nodup:=by ac_nf
  have:=eV d a;have b:↑Hs.wK.cps.toList=94:=by ac_nf
  rw[Qb,Qb,b]at this;rfl'
 .show z
theorem Cg(h:c∈lQ ls):Fo.lk ls (tx [c])=none/\Hs.Sg (tx [c])/\c<1114112:=by
 let#[g,a]:=ú.mp h;let#[j,i,f]:=Ą.mp g;have d:↑Hs.wK.cps.toList=94:=by ac_nf
 have b:c=Hs.jH (j:Int):=by unfold Hs.jH;rw[show((j:Int)%94).toNat=j by rfl',Á,Zs i,f];rfl
 show#[?_,#[j,by rw[b]],by rw[b];show Hs.yx _]
 cases e:Fo.lk ls (tx [c])with
 |none=>rfl
 |some co=>rw[e]at a;cases a
theorem Ci{i:ϐ}(g:cap [none,!1] σ=[none,!(.ref d)])(b:LtT H d ht kvs i c0)(f:V7 kvs ls)(h:∀p,H p=none->Q (.ref p) (upd H p (.lst ((lQ ls).map λc=>V.str (tx [c]))))):iS (Er [none,!1] (ao 0) (tB (gC (dH 0) (dH 1))) (dH 0) σ Q) (.str Hs.wK) H:=by
 show XD (by ac_nf) (λc=>if(Fo.lk ls (tx [c])).isNone=true then !(V.str (tx [c]))else none) (λj c o A B l m=>?_) λn a=>?_
 .rw [g];symm
  cases e:Fo.lk ls (tx [c])with
  |none=>
   show#[d,none,rfl,b.no f (λz=>by cases iY.mp z) e,?_];symm;change if(not false)=true then _ else _
   symm;show l _ (by rw[e];rfl)|some co=>
   let#[r,k,_]:=b.get f e;show#[d,_,rfl,k,?_];symm;change if(not true)=true then _ else _;symm;show m (by rw[e];rfl)
 .rw [zX,Æ];show h n a
theorem LtT.frz{b:ϐ}{c:PySem.Obj}(h:LtT H d ht kvs b c0)(e:H d=!(.dK (jO kvs)))(r:Sb [d] H H1)(g:H1 d=!(.frz c (.dK (jO kvs)))):LtT H1 d ht kvs b c0:=by show#[.inr #[c,g],h.n,h.f,λp j q=>?_,h.o,h.e,h.l,h.m];let#[k1,k2,k3,t,i,a]:=h.k p j q;show#[k1,k2,k3,t,i,r t _ (by intro m;rw[Zl.mp m,e]at a;cases a) a]
theorem Ym{E:TE}{a:ό}{kvs:ϊ (Key×V)}(K:Rd H a (.dK kvs))(T:↑kvs<=1000000)(f:Key×V->ύ V)(h:∀od H1,Sb [a] H H1->H1 a=!(.frz od (.dK kvs))->(∀(i:Nat) z H',kvs[i]?=!z->Same H1 H'->∀(A:VK)(B:Hp->Prop),(∀y H2,f z=!y->Same H' H2->A y H2)->(∀H2,f z=none->Same H' H2->B H2)->g (kV z.1) (cap κ σ) H' λl H2=>qZ (cap κ σ) l/\D l H2 λb F=>if b=true then E l F A else B F)/\∀p H',Same H1 H'->H' p=none->Q (.ref p) (upd H' p (.lst (kvs.filterMap f)))):iDK (Er κ g D E σ Q) (.ref a) H:=by
 have key:∀od H1,Sb [a] H H1->H1 a=!(.frz od (.dK kvs))->Er κ g D E σ Q (xT od a) H1:=by
  intro od H1 sb r;let#[O,M]:=h od H1 sb r;show#[λi m ys H'=>m=↑kvs-i/\i<=↑kvs/\Same H1 H'/\ys=(kvs.take i).filterMap f,#[↑kvs,by simp,á _,ix _,rfl],?_];rintro i m ys H' ⟨rfl,S,j,rfl⟩;by_cases d:i<↑kvs
  .have t:kvs[i]?=!kvs[i]:=Zs d;have G:kvs.take (i+1)=kvs.take i++[kvs[i]]:=by rw[Ò,t];rfl
   have w:↑((kvs.take i).filterMap f)<=1000000:=Ð (ė _ _) (by rw[Ú];rfl');show .inr #[#[kvs,j.get r,d],Ñ w (by decide),λn c=>Same H1 c/\n=(kvs.take (i+1)).filterMap f,λn c J=>#[↑kvs-(i+1),(),rfl,d,J.1,J.2],λv c y=>?_];let#[rfl,R]:=y;let#[k,x,I,rfl]:=R kvs (j.get r);rw[t]at I;have u:kvs[i]=(k,x):=Ù I;show O i (k,x) c (by rw[t,u]) j (λy s=>And (Same H1 s) ((kvs.take i).filterMap f++[y]=(kvs.take (i+1)).filterMap f)) (λs=>And (Same H1 s) ((kvs.take i).filterMap f=(kvs.take (i+1)).filterMap f))
    (λy H2 e C=>#[j.trans C,by rw[G,Mm.cu,u,e];rfl]) (λH2 e C=>#[j.trans C,by rw[G,Mm.cu,u,e];simp])
  .have L:i=↑kvs:=();subst L;show .inl #[#[kvs,j.get r,Ç _],λp N=>?_];rw[ç];show M p _ j N
 rcases K with e|⟨od,e⟩;.show #[a,kvs,rfl,.inl #[e,λod=>key od _ ?_ aa]];intro b o P q;rw[ak (by simpa using P)];show q
 .show #[a,kvs,rfl,.inr #[od,e,key od H (λb o _ q=>q) e]]
theorem Cj{x:Lw}(e:x.1=y.1):∀{kvs:ϊ Lw},(kvs.map (·.1)).Nodup->x∈kvs->y∈kvs->x=y
 |[],_,h,_=>by cases h
 |p::r,hn,h1,h2=>by
  rw[È,æ]at hn;rcases Å.mp h1 with r1|h1
  .rcases Å.mp h2 with r2|h2;.rw [r1,r2]
   .show absurd (Zp.mpr #[y,h2,by rw[<-e,r1]]) hn.1
  .rcases Å.mp h2 with r2|h2;.show absurd (Zp.mpr #[x,h1,by rw[e,r2]]) hn.1
   .show Cj e hn.2 h1 h2
inductive im(K:Ϗ)(vs:ϊ V)(H:Hp)(Q:VK)(E:XK):Prop|mk (a:ό) (ns:ϊ Int) (ht:Nat) (_:vs=[.ref a,.int ht]) (_:SqL K H a (ns.map V.int)) (_:ht<=60) (_:∀d H' (kvs:ϊ Lw) fs c0,Same H H'->H' d=!(.dK (jO kvs))->LtT H' d ht kvs fs c0->Q (.ref d) H')
abbrev Ow K:=(aB (j6 gH (aL CK c7 (aL bW dB (tI 94))) (cg (ii K) (jZ wM (aL cG (tI 1) (aL bW (aL cR wM (tI 2)) (tI 2))) bK)))
  (bG (aP (aL rZ jY (aL bW (aL cR cM (tI 3)) di))) (aB (j6 gH (aL CK c7 (aL bW dB (tI 94))) (cg (ii K) (jZ wM (tI 1) bK)))
  (j6 gH (tC (V.str (Str.ofString ""))) (aL CK c7 (aL bW dB (tI 94))))) aW))
abbrev Ox K:=(aB (aK (aL bW (aL ie (aL cG (aL cG (cg (ic K) (cF aU (tI 3))) (aL ie (aL ie (tI 7919) jY) jY)) (aL ie (tI 31) jY)) (tI 48271)) (tI 2147483647)) (ao 8))
  (aB (aK (aL cG (aL cG dB (tI 1)) (aL bW wM (tI 2))) (ao 5))
  (Ow K)))
abbrev Oz K:=(aB (aK (cg (ic K) (cF aU (tI 1))) (ao 3))
  (aB (aK (aL cG (tI 2) (aL bW cM (tI 3))) (ao 4))
  (aB (aK (aL bW (cg (ic K) (cF aU (tI 2))) (tI 94)) (ao 5))
  (aB (aK jh (ao 6))
  (aB (cV (j4 (bR di)) (ao 7) (Ox K))
  (aR gH))))))
def JT K(E:XK)(Eh:XK):=(aB (aK (cg (ju K) cY) (ao 2))
  (Oz K))
theorem Yn(h:im K vs H Q E):∃Eh,JT K E Eh {nx:=λ_ H'=>Q .non H',rt:=Q} (start ["script","height","menu","cell","many","at","letters","k","number"] vs) H:=by
 let#[a,ns,D,rfl,hS,Z,q]:=h;show#[E0,?_];unfold JT;symm;show#[rfl,?_];symm;show#[a,ns,1,rfl,hS,?_];let#[m,em,hm]:=Mm.fQ (Mm.cellAt ns 1) 3 (by decide);generalize Mm.cellAt ns 1=cl at em⊢;replace em:cl%3=(m:Int):=em;let#[X,eX,hX]:=Mm.fQ (cl/3) (m+2) ();symm;show#[a,ns,2,rfl,hS,?_];symm;rw[em,show(2:Int)+((m:Nat):Int)=((m+2:Nat):Int)by rfl'];intro g af;have ae:∀p'∈[g],H p'=none:=λp' al=>by rw[Zl.mp al];show af
 symm;walk_at "ns";show pR (m+2) (à _) () () (λi σ H'=>(Ex2 λ(kvs:ϊ Lw) (b:Int)=>(An8 (↑kvs=i+(if X<i then 1 else 0)) ((kvs.map (·.1)).Nodup) (Sb [g] H H') (H' g=!(.dK (jO kvs))) (∀p∈kvs,p.1≠tx []->(∃x:Int,p.1=tx [Hs.jH x]/\b-2*(i:Int)<=x/\x<=b)/\GoodL H' D p) (i<=X->tx []∉kvs.map (·.1)) (X<i->∃fs r v,(tx [],V.str fs,[])∈kvs/\(fs,v,[r])∈kvs/\fs≠tx []) (Ex2 λo1 o2=>σ=[!(.ref a),!(.int (D:Nat)),!(.str sgs),!(.int cl),!(.int ((m+2:Nat):Int)),!(.int b),!(.ref g),o1,o2])))) #[[],_,rfl,by simp,Sb.of (aq af _),aa,by simp,by simp,by simp,none,none,rfl] ?_ ?_
 .rintro i σ H' hi ⟨kvs,b,u,G,sb,e,S,P,B,o1,o2,rfl⟩;symm;show#[a,ns,3,rfl,sb.seq ae hS,?_];symm;have n0:0<=(Mm.cellAt ns 3+7919*(i:Int)*(i:Int)+31*(i:Int))*48271%2147483647:=Ħ _ (by decide);generalize(Mm.cellAt ns 3+7919*(i:Int)*(i:Int)+31*(i:Int))*48271%2147483647=num at n0;let#[w,ew,hw]:=Mm.fQ (num/2) 2 ();replace ew:num/2%2=(w:Int):=ew;rw[ew];show#[num,1+w,D,by rw[show((1+w:Nat):Int)=1+(w:Int)by rfl'],(),Z,λt H3 U s3 e3 am ai=>?_];symm;have hsz:↑sgs=94:=by ac_nf
  have h0:0<=(b+1+num%2)%94:=Ħ _ (by decide);have h1:(b+1+num%2)%94<94:=Ě _ (by decide);have O:uP Hs.wK.cps.toList ((b+1+num%2)%94)=!(Hs.jH (b+1+num%2)):=by
   have hl:↑Hs.wK.cps.toList=94:=by ac_nf
   rw[HQ h0 ()];unfold Hs.jH;rw[Á,Zs ()];rfl
  show Bt (c:=Hs.jH (b+1+num%2)) (by rw[hsz];decide) O ?_;have n2:num%2=0\/num%2=1:=();have l:tx [Hs.jH (b+1+num%2)]∉kvs.map (·.1):=λj=>by let#[p,d,ep]:=Zp.mp j;have W:p.1=tx [Hs.jH (b+1+num%2)]:=ep;let#[#[x,ex,x1,x2],_]:=S p d (by rw[W];intro z;cases iY.mp z);have:=Hs.O7 (List.cons.inj (iY.mp (ex.symm.trans W))).1;rfl'
  have I:tx [Hs.jH (b+1+num%2)]≠tx []:=λz=>by cases iY.mp z
  have R:Hs.Sg (tx [Hs.jH (b+1+num%2)]):=#[_,rfl];let#[s,es]:∃s,s=tx [Hs.jH (b+1+num%2)]:=#[_,rfl];rw[<-es]at l I R;have F:=s3.get e;have A:↑kvs<=5:=by rw[u];split<;>rfl'
  show#[g,_,rfl,DPut.k (k:=Sum.inr (tx [Hs.jH (b+1+num%2)])) F (by unfold jO;rw[Qb];show Ñ A (by decide)),?_];rw[<-es,Cd (.ref t) U l];have L:∀(v:V)(c:ϊ Nat),((kvs++[(s,v,c)]).map (·.1)).Nodup:=λv c=>by rw[Wp,Ü];show#[G,by simp,λx mx y my ee=>l (by rw[<-show y=s by simpa using my,<-ee];show mx)]
  have gn:GoodL H3 D (s,.ref t,U):=#[R,by dsimp only;rfl',ai,t,rfl,e3];have J:∀(v:V)(c:ϊ Nat)(H4:Hp),(∀p∈kvs,p.1≠tx []->GoodL H4 D p)->GoodL H4 D (s,v,c)->∀p∈kvs++[(s,v,c)],p.1≠tx []->(∃x:Int,p.1=tx [Hs.jH x]/\(b+1+num%2)-2*((i+1:Nat):Int)<=x/\x<=b+1+num%2)/\GoodL H4 D p:=λv c H4 g1 g2 p d n=>by
   rcases Ã.mp d with d|d;.obtain ⟨⟨x,ex,x1,x2⟩,_⟩:=S p d n;show#[#[x,ex,(),()],g1 p d n]
   .rw [Zl.mp d];show#[#[_,es,(),Int.le_refl _],g2]
  symm;rw[show cl/3%((m+2:Nat):Int)=(X:Int)from eX];have e4:upd H3 g (HO.dK (jO (kvs++[(s,V.ref t,U)]))) g=!(.dK (jO (kvs++[(s,V.ref t,U)]))):=aa;show dO (λc=>?_) λc=>?_
  .replace c:i=X:=();subst c;symm;show#[num,1,D,rfl,(),Z,λC T f s5 e5 ad ac=>?_];symm;show Bt (c:=Hs.jH (b+1+num%2)) (by rw[hsz];decide) O ?_;have N:=s5.get e4;show#[g,_,rfl,DPut.k (k:=Sum.inr (tx [Hs.jH (b+1+num%2)])) N (by unfold jO;rw[Qb,Â];show Ñ (ŕ A 1) (by decide)),?_];rw[<-es,En f l];have ah:GoodL T D (s,.ref C,f):=#[R,by dsimp only;rfl',ac,C,rfl,e5];have e6:upd T g (HO.dK (jO (kvs++[(s,V.ref C,f)]))) g=!(.dK (jO (kvs++[(s,V.ref C,f)]))):=aa;have gk:∀p∈kvs,p.1≠tx []->GoodL (upd T g (HO.dK (jO (kvs++[(s,V.ref C,f)])))) D p:=λp d n=>((((S p d n).2.same s3).put F).same s5).put N;have Y:=ah.put (o:=HO.dK (jO (kvs++[(s,V.ref C,f)]))) N;have ag:Sb [g] H (upd T g (HO.dK (jO (kvs++[(s,V.ref C,f)])))):=((((sb.same s3).set (by simp)).same s5).set (by simp));generalize upd T g (HO.dK (jO (kvs++[(s,V.ref C,f)])))=H6 at e6 gk Y ag⊢;symm;show Bt (c:=Hs.jH (b+1+num%2)) (by rw[hsz];decide) O ?_;symm;have M:tx []∉(kvs++[(s,V.ref C,f)]).map (·.1):=λj=>by
    rw[Wp,Ã]at j;rcases j with j|j;.show P (Ç _) j
    .show I (show tx []=s by simpa using j).symm
   show#[g,_,rfl,DPut.k (k:=Sum.inr (tx [])) e6 (by unfold jO;rw[Qb,Â];show Ñ (ŕ A 1) (by decide)),?_];rw[Cd (.str #[([Hs.jH (b+1+num%2)].toArray)]) [] M];symm;let#[r,rfl]:∃r,f=[r]:=by match f,ad with|[r],_=>show#[r,rfl]
   show#[_,_,?_,?_,ag.set (by simp),aa,λp d n=>?_,λz=>absurd z (),λ_=>#[s,r,.ref C,by rw[es];show Ø _ Ë,by simp,I],_,_,rfl];.rw [Â,Â,u,if_neg (),if_pos ()];rfl
   .rw [Wp,Ü];show#[L _ _,by simp,λx mx y my ee=>M (by rw[<-show y=tx [] by simpa using my,<-ee];show mx)]
   .rcases Ã.mp d with d|d;.show J (.ref C) [r] _ (λp d n=>(gk p d n).put e6) (Y.put e6) p d n
    .rw [Zl.mp d]at n;show absurd rfl n
  .replace c:¬i=X:=λz=>c ();symm;show#[kvs++[(s,.ref t,U)],_,?_,L _ _,(sb.same s3).set (by simp),aa,J _ _ _ (λp d n=>((S p d n).2.same s3).put F) (gn.put F),λz j=>?_,λz=>?_,_,_,rfl]
   .rw [Â,u];by_cases c2:X<i;.rw [if_pos c2,if_pos ()];rfl
    .rw [if_neg c2,if_neg ()];rfl
   .rw [Wp,Ã]at j;rcases j with j|j;.show P () j
    .show I (show tx []=s by simpa using j).symm
   .obtain ⟨fs,r,v,h5,h6,h7⟩:=B ();show#[fs,r,v,ß _ h5,ß _ h6,h7]
 .rintro σ H' ⟨kvs,b,u,G,sb,e,S,P,B,o1,o2,rfl⟩;let#[fs,r,v,h5,h6,h7]:=B hX;rw[if_pos hX]at u;symm;show q g H' kvs fs r (sb.off ae) e #[.inl e,G,h5,λp d n=>(S p d n).2,#[v,h6],h7,(),JS G ()]
inductive aE(K:Ϗ)(vs:ϊ V)(H:Hp)(Q:VK)(E:XK):Prop|mk (cl:Int) (d kn:ό) (ht:Nat) (kvs:ϊ Lw) (fs:ϐ) (c0:Nat) (ls:ϵ) (ss:ϊ ϐ) (_:vs=[.int cl,.ref d,.ref kn]) (_:LtT H d ht kvs fs c0) (_:V7 kvs ls) (_:↑ls<=40) (_:H kn=!(.lst (ss.map V.str))) (_:ss.Pairwise lR) (_:0<↑ss) (_:↑ss<=9) (_:(∀s∈ss,Hs.Sg s/\∃co,Fo.lk ls s=!co)) (_:∀r H' (ss':ϊ ϐ),Same H H'->H' r=!(.lst (ss'.map V.str))->ss'.Pairwise lR->0<↑ss'->↑ss'<=10->(∀s∈ss',Hs.Sg s/\(s∈ss\/Fo.lk ls s=none))->Q (.ref r) H')
def JV K(E:XK)(Eh:XK):=(aB (aK (mU [none,!1] (Mf (cg (ju K) cY)) (ao 0) (tB (gC aU bK)) aU) (ao 3))
  (aB (bG (aP (aL rZ (aL bW aU (tI 2)) (tI 0))) (aR c7) aW)
  (aR (gw (pH K) (bR (aL xj c7 (cW (bR (aL (cZ K) cM (aL bW (aL cR aU (tI 2)) (gm K cM)))))))))))
theorem Yo(h:aE K vs H Q E):∃O,JV K E O {nx:=λ_ H'=>Q .non H',rt:=Q} (start ["cell","letters","known","lacked"] vs) H:=by
 let#[cl,d,W,ht,kvs,fs,c0,ls,ss,rfl,R,S,y,J,l,D,U,f,q]:=h;show#[E0,?_];unfold JV;symm;show#[rfl,?_];show Ci rfl R S λG B=>?_;have M:=wG y;have X:=Ce ls;have L:=λc (h:c∈lQ ls)=>Cg h;generalize lQ ls=lc at M X L⊢;have u:upd H G (HO.lst (lc.map λc=>V.str (tx [c]))) G=!(.lst (lc.map λc=>V.str (tx [c]))):=aa;have p:=aq (o:=HO.lst (lc.map λc=>V.str (tx [c]))) B;generalize upd H G (HO.lst (lc.map λc=>V.str (tx [c])))=H3 at p u⊢;symm;show dO (λc=>?_) λc=>?_;.symm;show q W H3 ss p (p.get J) l D () λs t=>#[(f s t).1,.inl t]
 symm;show bJ (ip u) ?_;rw[Qb];let#[k,P,w]:=Mm.fQ (cl/2) ↑lc M;symm;rw[P];let#[x,I]:∃x,lc[k]?=!x:=#[_,Zs w];let#[N,x2,x3]:=L x (Yf I);show cH (ip u) (aM (j:=k) (v:=.str (tx [x])) (by rw[À,I];rfl)) ?_;symm;intro p4 i;symm;show wk (aA i (p.get J)) aa (by rw[Qb];simp;rfl') λp5 C=>?_;symm;have z:(ss++[tx [x]]).Nodup:=by
  rw[Ü];show#[iy l,by simp,λa Y b Z e=>?_];let#[co,g]:=(f a Y).2;rw[e,show b=tx [x] by simpa using Z,N]at g;cases g
 show Bv (ns:=ss++[tx [x]]) (ip (by rw[aa,Wp];rfl)) z (by simp;rfl') λr F A n T=>?_;symm;show q r _ F (((p.new i).new C).new T) aa n (by rw[A.length_eq];simp) (by rw[A.length_eq];simp;rfl') λs t=>?_;rcases Ã.mp (A.mem_iff.mp t)with m|m;.show #[(f s m).1,.inl m]
 .rw [Zl.mp m];show#[x2,.inr N]
theorem Yp{K:Ϗ}{i:Int}(e:SqL K H a xs)(c:0<=i)(d:i<(↑xs:Int))(h:∀v∈xs,Q v H):cZ K (.ref a) (.int i) H Q:=by let#[v,f,b]:=O1 c d;show cH e b (h v f)
inductive dS(K:Ϗ)(vs:ϊ V)(H:Hp)(Q:VK)(E:XK):Prop|mk (cl:Int) (sg:ό) (fw:Nat) (ss:ϊ ϐ) (_:vs=[.int cl,.ref sg,.int fw]) (_:fw<=3) (_:SqL K H sg (ss.map V.str)) (_:ss.Pairwise lR) (_:↑ss<=10) (_:(∀s∈ss,Hs.Sg s)) (_:∀r H' ds es,Same H H'->HsF K H' r ds es->GoodH ds es->↑ds<=9->(∀ps∈ds,∀p∈ps,p.1∈ss)->Q (.ref r) H')
abbrev JW K:=(aB (aK (aL cG (aL cR aU (tI 3)) (aL ie (aL ie (tI 7919) (aL cG (aL cG (aL ie dB (tI 5)) jY) (tI 1))) (aL cG (aL cG dB jY) (tI 2)))) (ao 8))
  (aB (aK (aL bW (aL ie wM (tI 69621)) (tI 2147483629)) (ao 8))
  (bG (aP (aL Cw (aL bW wM (tI 4)) (tI 1))) (cA (oU K "list" bU gH (bR (bY (cF (aL (cZ K) bK jY) (aL bW (aL cR wM (tI 4)) cM)))))) aW)))
abbrev JX K:=(aB (cV (j4 (bR cM)) (ao 5) (aB (aK (cW cY) (ao 6))
  (aB (cV (j4 (bR (gm K bK))) (ao 7) (JW K))
  (cA (oU K "list" bU di (bR (gw (vy K) (bR gH))))))))
  (aB (aK (mU [none,!0] (j4 (bR cM)) (ao 0) (aP (aL rZ (aL bW (aL WD (aL cR bK (tI 3)) aU) (tI 2)) (tI 0))) aU) (ao 9))
  (aR (bY (cF (gw (d7 K) (bR di)) (gw (d7 K) (bR Es)))))))
def zY K(E:XK)(Eh:XK):=(aB (aK (aL cG (tI 1) (aL bW aU (aL (cZ K) (cW (pZ (tI 3) (tI 3) (tI 3) (tI 2))) c7))) (ao 3))
  (aB (bG (aP (aL rZ (aL bW (aL cR aU (tI 3)) (tI 4)) (tI 1))) (aK (aL cG (tI 4) (aL bW (aL cR aU (tI 12)) (tI 6))) (ao 3)) aW)
  (aB (aK (cW cY) (ao 4))
  (JX K))))
theorem V8(h:dS K vs H Q E):∃Eh,zY K E Eh {nx:=λ_ H'=>Q .non H',rt:=Q} (start ["cell","signs","few","many","doors","room","found","k","number","ends"] vs) H:=by
 let#[cl,sg,fw,ss,rfl,aw,hG,ar,a1,ap,q]:=h;show#[E0,?_];unfold zY;symm;intro p0 am;symm;show Yp (ip aa) () (by change(fw:Int)<4;rfl') λv mv=>?_;let#[k,rfl,ax,ay]:∃k:Int,v=.int k/\1<=k/\k<=3:=by
  simp only[Å,â,Ď]at mv;rcases mv with rfl|rfl|rfl|rfl;all_goals show#[_,rfl,(),()]
 have ac:=aq am (HO.lst [V.int 3,V.int 3,V.int 3,V.int 2]);replace hG:=ac.seq hG;replace q:=λr H' ds es s=>q r H' ds es (ac.trans s);generalize upd H p0 (HO.lst [V.int 3,V.int 3,V.int 3,V.int 2])=H at hG q⊢;have c0:0<=cl%k:=Ħ _ ();have c1:cl%k<k:=Ě _ ();let#[m0,ag]:∃m0:Nat,cl%k=(m0:Int):=#[(cl%k).toNat,()];walk_at "gj";rw[ag,show(1:Int)+((m0:Nat):Int)=((m0+1:Nat):Int)by rfl'];walk_at "ns";with_reducible show yu (λσ' H'=>(Ex1 λ(m:Nat)=>(An3 (m<9) (H'=H) (σ'=[!(.int cl),!(.ref sg),!(.int (fw:Nat)),!(.int ((m+1:Nat):Int)),none,none,none,none,none,none])))) ?_ λN hN=>?_
 rotate_left
 .symm;show dO (λc=>?_) λc=>?_;.symm;have d0:0<=cl/12%6:=Ħ _ (by decide);have d1:cl/12%6<6:=Ě _ (by decide);show hN _ _ #[(cl/12%6).toNat+3,(),rfl,?_];rw[show(4:Int)+cl/12%6=(((cl/12%6).toNat+3+1:Nat):Int)by rfl'];rfl
  .symm;show hN _ _ #[m0,(),rfl,rfl]
 rintro _ H1 ⟨m,hm,eH,rfl⟩;rw[eH];clear eH;symm;intro dr I;symm;walk_at "ns";show pR (m+1) (à _) () () (λi Y H'=>(An2 (Sb [dr] H H') (Ex5 λ(F:ϊ (ό×L1S)) (o5 o6 U W:ύ V)=>(An4 (H' dr=!(.lst (F.map λt=>V.ref t.1))) (↑F=i) (∀t∈F,DrF H' t.1 t.2/\(t.2.map (·.1)).Sublist ss/\∀q∈t.2,0<=q.2/\q.2<((m+1:Nat):Int)) (Y=[!(.int cl),!(.ref sg),!(.int (fw:Nat)),!(.int ((m+1:Nat):Int)),!(.ref dr),o5,o6,U,W,none]))))) #[Sb.of (aq I _),[],_,_,_,_,aa,rfl,by simp,rfl] ?_ ?_
 .rintro i Y H' hi ⟨sb,F,o5,o6,U,W,B,S,D,rfl⟩;symm;intro pl w;have a2:dr≠pl:=aN B w;have S0:Same H H':=sb.off λp M=>by rw[Zl.mp M];show I
  have ad:H pl=none:=S0.free w;have ai:∀p∈[dr,pl],H p=none:=λp M=>by
   simp only[Å,â,Ď]at M;rcases M with rfl|rfl;.show I
   .show ad
  have av:=sb.new (o:=HO.lst []) w;symm;show bJ ((S0.new w).seq hG) ?_;rw[Qb];symm;walk_at "ns";show pR ↑ss (à _) () () (λk Y u=>(An3 (Sb [dr,pl] H u) (Same H' u) (Ex3 λ(zs:ϊ Dz) (U W:ύ V)=>(An4 (u pl=!(.lst (zs.map λz:Dz=>V.ref z.1))) ((zs.map (·.2.1)).Sublist (ss.take k)) (∀z∈zs,u z.1=!(.tup [.str z.2.1,.int z.2.2])/\0<=z.2.2/\z.2.2<((m+1:Nat):Int)) (Y=[!(.int cl),!(.ref sg),!(.int (fw:Nat)),!(.int ((m+1:Nat):Int)),!(.ref dr),!(.int (i:Nat)),!(.ref pl),U,W,none]))))) #[av.more (by simp),aq w _,[],_,_,aa,by simp,by simp,rfl] ?_ ?_
  .rintro k Y u hk ⟨O,X,zs,U,W,g,a,hz,rfl⟩;have S2:=O.off ai;let#[s,hs]:∃s,ss[k]?=!s:=#[_,Zs ()];have ah:ss.take (k+1)=ss.take k++[s]:=by rw[Ò,hs];rfl
   have as:↑zs<=k:=by have:=a.length_le;rw[Qb,Ú]at this;rfl'
   symm;generalize(cl/3+7919*((i:Int)*5+(k:Int)+1)*((i:Int)+(k:Int)+2))*69621%2147483629=nb;show lJ (λc=>?_) λc=>?_
   .symm;show du (ip g) ?_;symm;show cH (S2.seq hG) (aM (j:=k) (v:=.str s) (by rw[À,hs];rfl)) ?_;symm;intro t Z;symm;show fL (aA Z g) (by rw[Qb];rfl') ?_;symm;have x0:=Ħ (nb/4) (show((m+1:Nat):Int)≠0 by rfl');have x1:=Ě (nb/4) (show(0:Int)<((m+1:Nat):Int)by rfl');show#[(O.new Z).set (by simp),λb o e=>?_,zs++[(t,s,nb/4%((m+1:Nat):Int))],_,_,by rw[aa,Wp];rfl,by rw[Wp,ah];show a.append (List.Sublist.refl _),λz A=>?_,rfl];.rw [ak λz=>by rw[z,w]at e;cases e];show(X.new Z) b o e
    .rcases Ã.mp A with A|A;.show #[dh (aA Z (hz z A).1) (aA Z g),(hz z A).2]
     .rw [Zl.mp A];show#[dh aa (aA Z g),x0,x1]
   .symm;show#[O,X,zs,_,_,g,a.trans (List.take_sublist_take_left (Nat.le_succ k)),hz,rfl]
  .rintro Y u ⟨O,X,zs,U,W,g,a,hz,rfl⟩;rw[ç]at a;have as:↑zs<=10:=by have:=a.length_le;rw[Qb]at this;rfl'
   symm;show du (ip (X.get B)) ?_;symm;show Io (ip g) λl ob al hl=>?_;have s3:=aq (o:=HO.frz ob (.tup (zs.map λz:Dz=>V.ref z.1))) hl;have hD:DrF (upd u l (HO.frz ob (.tup (zs.map λz:Dz=>V.ref z.1)))) l (zs.map (·.2)):=#[zs,ob,rfl,al,aa,λz m=>s3.get (hz z m).1];generalize upd u l (HO.frz ob (.tup (zs.map λz:Dz=>V.ref z.1)))=H3 at s3 hD⊢;symm;have C:=s3.get (X.get B);show fL C (by rw[Qb];rfl') ?_;symm;show#[λb o n e=>?_,F++[(l,zs.map (·.2))],_,_,_,_,by rw[aa,Wp];rfl,by rw[Â,Þ,S],λt G=>?_,rfl];.rw [ak λz=>n (by rw[z];simp)];show s3 b o (X b o (S0 b o e))
   .rcases Ã.mp G with G|G;.show #[BW (((D t G).1.same X).same s3) C,(D t G).2]
    .rw [Zl.mp G];show#[BW hD C,by rw[Æ];show a,λq mq=>?_];let#[z,A,rfl]:=Zp.mp mq;show(hz z A).2
 .rintro Y H' ⟨sb,F,o5,o6,U,W,B,S,D,rfl⟩;have S0:Same H H':=sb.off λp M=>by rw[Zl.mp M];show I
  symm;show Rx (m+1) (à _) () () (λi ys u=>(An2 (u=H') (Ex1 λ(es:ϊ Int)=>(An4 (ys=es.map V.int) (↑es<=i) (es.Pairwise (·<·)) (∀e∈es,0<=e/\e<(i:Int)))))) #[rfl,[],rfl,by simp,by simp,by simp] ?_ ?_ ?_;.rintro i ys u ⟨_,es,rfl,h,_⟩;rw[Qb];show h
  .rintro i ys u hi ⟨rfl,es,rfl,hl,J,hr⟩;symm;show dO (λc=>?_) λc=>?_
   .symm;show#[rfl,es++[(i:Int)],by rw[Wp];rfl,by rw[Â,Þ];rfl',?_,λe L=>?_];.rw [List.pairwise_append];show#[J,by simp,λx mx y my=>by rw[Zl.mp my];show(hr x mx).2]
    .rcases Ã.mp L with L|L;.have:=hr e L;rfl'
     .rw [Zl.mp L];rfl'
   .show #[rfl,es,rfl,(),J,λe L=>by have:=hr e L;rfl']
  rintro ys u ⟨rfl,es,rfl,hl,J,hr⟩ p hp;symm;show gG (ip (aA hp B)) λtd ae=>?_;symm;show gG (ip (aA ae aa)) λte af=>?_;symm;intro r R;have T:=(((aq (o:=HO.lst (es.map V.int)) hp).new (o:=HO.tup (F.map λt=>V.ref t.1)) ae).new (o:=HO.tup (es.map V.int)) af).new (o:=HO.tup [V.ref td,V.ref te]) R;have P:↑(F.map (·.2))=m+1:=by rw[Qb];show S
  have f:∀ps∈F.map (·.2),(ps.map (·.1)).Sublist ss/\∀q∈ps,0<=q.2/\q.2<((m+1:Nat):Int):=λps d=>by let#[t,G,rfl]:=Zp.mp d;show(D t G).2
  show q r _ (F.map (·.2)) es (S0.trans T) #[td,te,F,aa,rfl,iq (aA R (aA af aa)),λt G=>(D t G).1.same T,aA R aa] #[(),(),λps d=>ar.sublist (f ps d).1,λps d=>?_,λps d z A=>#[ap _ ((f ps d).1.subset (Zp.mpr #[z,A,rfl])),?_],J,(),λe L=>?_] () λps d z A=>(f ps d).1.subset (Zp.mpr #[z,A,rfl]);.have:=(f ps d).1.length_le;rw[Qb]at this;rfl'
  .rw [P];show(f ps d).2 z A
  .rw [P];show hr e L
theorem JZ{K:Ϗ}(c:SqT K H a xs)(d:SqT K H b ys)(f:↑xs+↑ys<=1000000)(h:∀p H',Same H H'->SqT K H' p (xs++ys)->Q (.ref p) H'):pL K (.ref a) (.ref b) H Q:=by
 show#[a,b,xs,ys,rfl,rfl,c,d,Ð f (by decide),λe=>?_,λ_ e=>?_,λ_ _ p g=>h p _ (aq g _) (iq aa)];.subst e;show h b H (ix _) d
 .subst e;show h a H (ix _) (by rw[ò];show c)
theorem K1{K:Ϗ}{zs:ϊ Dz}(i:SqT K H a (zs.map λz=>V.ref z.1))(hz:∀z∈zs,SqT K H z.1 [.str z.2.1,.int z.2.2])(e:(zs.map (·.2.1)).Nodup)(c:↑zs<64)(h:∀r (b:ϊ Dz),b.Perm zs->(b.map (·.2.1)).Pairwise lR->H r=none->Q (.ref r) (upd H r (.lst (b.map λz=>V.ref z.1)))):lH K [.ref a] H Q:=by
 show Il (zs:=zs.map λz:Dz=>(z.1,z.2.1,[V.int z.2.2])) (by rw[Æ];show i) (λz m=>?_) (by rw[Æ];show e) (by rw[Qb];show c) λr b f d g=>?_
 .obtain ⟨y,j,rfl⟩:=Zp.mp m;show hz y j
 .obtain ⟨vs,pv,rfl⟩:=n6 f;rw[Æ]at d;rw[Æ];show h r vs pv d g
theorem Ck{K:Ϗ}(h:DrG K H a ps)(e:H q=!(.lst ys)):DrG K (upd H q o) a ps:=by
 let#[zs,b,c,d]:=h;show#[zs,b,c.imp (λh=>?_) id,λz f=>dh (d z f) e];rcases h with h|⟨ob,h⟩;.show .inl (dh h e)
 .show .inr #[ob,by rw[ak λz=>by rw[z,e]at h;cases h];show h]
inductive bX(K:Ϗ)(vs:ϊ V)(H:Hp)(Q:VK)(E:XK):Prop|mk (ha:ό) (fs:ϐ) (ds:L2S) (es:ϊ Int) (_:vs=[.ref ha,.str fs]) (_:HsF K H ha ds es) (_:GoodH ds es) (_:↑ds<40) (_:Hs.Sg fs) (_:(∀ps∈ds,Hs.dr ps fs=none)) (_:∀r H' ds',Same H H'->HsG K H' r ds' (es++[(↑ds:Int)])->PdR ds es fs ds'->Q (.ref r) H')
abbrev K3 K:=(aB (cV (j4 (bR c7)) (ao 4) (aB (aK (aL (iH K) (tX K aU 0) di) (ao 5))
  (aB (bG (aP (aL (G3 K false) di (tX K aU 1))) (aK (gw (d7 K) (bR (gw (lH K) (bR (aL (pL K) dB (bY (bR (bY (cF bK c7))))))))) (ao 5)) aW)
  (cA (oU K "list" bU cM (bR dB))))))
  (aR (bY (cF (aL (pL K) (gw (d7 K) (bR cM)) (bY (bR (bY (bR (bY (cF bK c7))))))) (aL (pL K) (tX K aU 1) (bY (bR c7)))))))
def zZ K(E:XK)(Eh:XK):=(aB (aK (gm K (tX K aU 0)) (ao 2))
  (aB (aK (cW cY) (ao 3))
  (K3 K)))
theorem V9(h:bX K vs H Q E):∃Eh,zZ K E Eh {nx:=λ_ H'=>Q .non H',rt:=Q} (start ["house","filler","last","doors","room","found"] vs) H:=by
 let#[ha,fs,ds,es,rfl,hH,Z,aw,ay,ap,q]:=h;show#[E0,?_];unfold zZ;let#[d,e,rs,h1,W,h3,h4,h5]:=id hH;have av:↑rs=↑ds:=by rw[<-W,Qb]
 symm;show dC h1 ?_;symm;show bQ h3 ?_;rw[Qb,av];symm;intro B ad;symm;show pR ↑ds () () () (λi σ H'=>(Ex3 λ(a:ϊ (ό×L1S)) (O P:ύ V)=>(An8 (Same H H') (H B=none) (H' B=!(.lst (a.map λr=>V.ref r.1))) (↑a=i) (i<=↑ds) (∀r∈a,DrG K H' r.1 r.2) (∀(j:Nat) r ps,a[j]?=!r->ds[j]?=!ps->r.2.Perm (ps++if(j:Int)∈es then[(fs,(↑ds:Int))]else[])/\(r.2.map (·.1)).Pairwise lR) (σ=[!(.ref ha),!(.str fs),!(.int (↑ds:Nat)),!(.ref B),O,P])))) #[[],none,none,aq ad _,ad,aa,rfl,á _,by simp,by simp,rfl] ?_ ?_
 .rintro i σ H' hi ⟨a,O,P,s',n0,L,F,am,hg,M,rfl⟩;let#[r,hr]:∃r,rs[i]?=!r:=#[_,Zs ()];have N:=Yf hr;have ac:ds[i]?=!r.2:=by rw[<-W,À,hr];rfl
  have s:=Yf ac;let#[zs,ob,X,ax,z1,z2]:=(h4 r N).same s';have ag:SqT K H' r.1 (zs.map λz=>V.ref z.1):=.inl (.inr #[ob,z1]);have fin:∀(v:ό)(ps:L1S)(G:Hp)(O P:ύ V),Same H' G->DrG K G v ps->ps.Perm (r.2++if(i:Int)∈es then[(fs,(↑ds:Int))]else[])->(ps.map (·.1)).Pairwise lR->(Ex3 λ(k:ϊ (ό×L1S)) (a1 a2:ύ V)=>(An8 (Same H (upd G B (.lst (a.map (λr=>V.ref r.1)++[V.ref v])))) (H B=none) (upd G B (.lst (a.map (λr=>V.ref r.1)++[V.ref v])) B=!(.lst (k.map λr=>V.ref r.1))) (↑k=i+1) (i+1<=↑ds) (∀r∈k,DrG K (upd G B (.lst (a.map (λr=>V.ref r.1)++[V.ref v]))) r.1 r.2) (∀(j:Nat) r ps,k[j]?=!r->ds[j]?=!ps->r.2.Perm (ps++if(j:Int)∈es then[(fs,(↑ds:Int))]else[])/\(r.2.map (·.1)).Pairwise lR) ([!(V.ref ha),!(.str fs),!(.int (↑ds:Nat)),!(.ref B),O,P]=[!(V.ref ha),!(.str fs),!(.int (↑ds:Nat)),!(.ref B),a1,a2]))):=λv ps G O P T hv ar as=>by
   have e2:=T.get L;show#[a++[(v,ps)],O,P,λb o z=>?_,n0,by rw[aa,Wp];rfl,by rw[Â,F];rfl,hi,λx mx=>?_,λj x qs A hq=>?_,rfl];.rw [ak λy=>by rw[y,n0]at z;cases z];show(s'.trans T).get z
   .rcases Ã.mp mx with mx|mx;.show Ck ((hg x mx).same T) e2
    .rw [Zl.mp mx];show Ck hv e2
   .rcases ę j ↑a with w|w;.rw [è w]at A;show M j x qs A hq
    .rw [ã w]at A;cases ej:j-↑a with
     |zero=>
      rw[ej]at A;cases A;rw[show j=i by rfl']at hq⊢;rw[ac]at hq;cases hq;show#[ar,as]|succ m=>rw[ej]at A;cases A
  symm;show dC (s'.get h1) ?_;symm;show dw (s'.tup h3) (aM (j:=i) (v:=.ref r.1) (by rw[À,hr];rfl)) ?_;symm;show cX (s'.get h1) ?_;symm;show O2 (.inr (iq (s'.get h5))) rfl (lM _) ?_;rw[nT];symm;show dO (λc=>?_) λc=>?_
  .symm;intro f C;symm;intro g l;have T2:=(aq (o:=HO.tup [V.str fs,V.int (↑ds:Nat)]) C).new (o:=HO.tup [V.ref f]) l;have R:upd (upd H' f (HO.tup [V.str fs,V.int (↑ds:Nat)])) g (HO.tup [V.ref f]) f=!(.tup [V.str fs,V.int (↑ds:Nat)]):=aA l aa;have Y:upd (upd H' f (HO.tup [V.str fs,V.int (↑ds:Nat)])) g (HO.tup [V.ref f]) g=!(.tup [V.ref f]):=aa;generalize upd (upd H' f (HO.tup [V.str fs,V.int (↑ds:Nat)])) g (HO.tup [V.ref f])=G at T2 R Y⊢;symm;show JZ (T2.tup ag) (iq Y) (by have:=Z.ln r.2 s;rw[<-X,Qb]at this;rw[Qb];simp;rfl') λp3 H3 I ah=>?_;have J:=T2.trans I;symm;show K1 (zs:=zs++[(f,fs,(↑ds:Int))]) (by rw[Wp];show ah) (λz n=>?_) ?_ ?_ λp4 ws hp hs ae=>?_
   .rcases Ã.mp n with n|n;.show iq (J.get (z2 z n))
    .rw [Zl.mp n];show iq (I.get R)
   .rw [Wp,Ü];have hk:zs.map (·.2.1)=r.2.map (·.1):=by rw[<-X,Æ];rfl
    show#[by rw[hk];show zu (Z.sr r.2 s),by simp,λu mu w mw ee=>uw.mp (ap r.2 s) ?_];rw[<-hk,show fs=u by rw[ee];show(Zl.mp (show w∈[fs]from mw)).symm];show mu
   .have:=Z.ln r.2 s;rw[<-X,Qb]at this;rw[Â];simp;rfl'
   symm;show gG (ip aa) λt ht=>?_;symm;have T5:=(J.new (o:=HO.lst (ws.map λz=>V.ref z.1)) ae).new (o:=HO.tup (ws.map λz=>V.ref z.1)) ht;show du (ip (T5.get L)) ?_;symm;show fL (T5.get L) (by rw[Qb];rfl') ?_;symm;show fin t (ws.map (·.2)) _ _ _ T5 #[ws,rfl,iq aa,λz n=>?_] ?_ (by rw[Æ];show hs)
   .show aA ht (aA ae ?_);rcases Ã.mp (hp.mem_iff.mp n)with n|n;.show J.get (z2 z n)
    .rw [Zl.mp n];show I.get R
   .rw [if_pos c,<-X];have:=hp.map (·.2);rw[Wp]at this;show this
  .symm;show du (ip L) ?_;symm;show fL L (by rw[Qb];rfl') ?_;symm;show fin r.1 r.2 H' _ _ (ix _) #[zs,X,ag,z2] (by rw[if_neg c,ò]) (Z.sr r.2 s)
 .rintro σ H' ⟨a,O,P,s',n0,L,F,am,hg,M,rfl⟩;symm;show gG (ip L) λt ht=>?_;symm;intro f C;symm;intro g l;symm;intro S D;have T:=(((aq (o:=HO.tup (a.map λr=>V.ref r.1)) ht).new (o:=HO.tup [V.str fs,V.int (↑ds:Nat)]) C).new (o:=HO.tup [V.ref f]) l).new (o:=HO.tup [V.ref g]) D;have g0:upd (upd (upd (upd H' t (HO.tup (a.map λr=>V.ref r.1))) f (HO.tup [V.str fs,V.int (↑ds:Nat)])) g (HO.tup [V.ref f])) S (HO.tup [V.ref g]) t=!(.tup (a.map λr=>V.ref r.1)):=aA D (aA l (aA C aa));have R:upd (upd (upd (upd H' t (HO.tup (a.map λr=>V.ref r.1))) f (HO.tup [V.str fs,V.int (↑ds:Nat)])) g (HO.tup [V.ref f])) S (HO.tup [V.ref g]) f=!(.tup [V.str fs,V.int (↑ds:Nat)]):=aA D (aA l aa);have Y:upd (upd (upd (upd H' t (HO.tup (a.map λr=>V.ref r.1))) f (HO.tup [V.str fs,V.int (↑ds:Nat)])) g (HO.tup [V.ref f])) S (HO.tup [V.ref g]) g=!(.tup [V.ref f]):=aA D aa;have g3:upd (upd (upd (upd H' t (HO.tup (a.map λr=>V.ref r.1))) f (HO.tup [V.str fs,V.int (↑ds:Nat)])) g (HO.tup [V.ref f])) S (HO.tup [V.ref g]) S=!(.tup [V.ref g]):=aa;generalize upd (upd (upd (upd H' t (HO.tup (a.map λr=>V.ref r.1))) f (HO.tup [V.str fs,V.int (↑ds:Nat)])) g (HO.tup [V.ref f])) S (HO.tup [V.ref g])=G at T g0 R Y g3⊢;show JZ (iq g0) (iq g3) (by rw[Qb];simp;rfl') λd' H3 I ai=>?_;have J:=(s'.trans T).trans I;symm;show cX (J.get h1) ?_;symm;intro q4 af;symm;show RV (aA af (J.get h5)) aa (by have:=Z.el;rw[Qb];simp;rfl') λe' H4 s4 al=>?_;symm;intro x A;have U:=((aq (o:=HO.tup [V.int (↑ds:Nat)]) af).trans s4).new (o:=HO.tup [V.ref d',V.ref e']) A;show q x _ (a.map (·.2)++[[(fs,(↑ds:Int))]]) (J.trans U) #[d',e',a++[(g,[(fs,(↑ds:Int))])],aa,by rw[Wp];rfl,U.tup (by rw[Wp];show ai),λr N=>?_,by rw[aA A al,Wp];rfl] #[by rw[Â,Qb,F];rfl,λj ps p=>?_]
  .rcases Ã.mp N with N|N;.show (hg r N).same ((T.trans I).trans U)
   .rw [Zl.mp N];show#[[(f,fs,(↑ds:Int))],rfl,iq (U.get (I.get Y)),λz n=>by rw[Zl.mp n];show U.get (I.get R)]
  .rcases ę j ↑a with w|w
   .rw [è (by rw[Qb];show w),À]at p;let#[r,hr,rfl]:=Ï.mp p;have wd:j<↑ds:=();have:=M j r ds[j] hr (Zs wd);rw[Á,è wd,Zs wd];have ec:((j:Int)∈es++[(↑ds:Int)])=((j:Int)∈es):=by
     show propext #[λm=>?_,λm=>ß _ m];rcases Ã.mp m with m|m;.show m
     .have:=Zl.mp m;rfl'
    simp only[ec];show this
   .have hj:j=↑ds:=by have:=(Ä.mp p).1;rw[Â,Qb]at this;simp at this;rfl'
    subst hj;rw[ã (by rw[Qb];show w),Qb,F,ψ]at p;cases p;rw[Á,ã (Ç _),ψ,if_pos (Ø _ Ë)];show#[List.Perm.refl _,List.pairwise_singleton _ _]
structure GrS(Hb H':Hp)(p:ό)(zs:Ϸ)(z:ό×ϊ Nat):Prop where
 s:Same Hb H'
 n:Hb p=none
 l:H' p=!(.lst ((zs++[z]).map λz=>V.ref z.1))y:∀y∈zs++[z],H' y.1=!(.lst (nv y.2))/\Hb y.1=none
 d:((zs++[z]).map (·.1)).Nodup
theorem GrS.ne{y:ό×ϊ Nat}(h:GrS Hb H' p zs z)(m:y∈zs++[z]):y.1≠p:=λe=>by
 have c:=(h.y y m).1;rw[e,h.l]at c;have b:=Ô List.head? (HO.lst.inj (Ù c));cases zs with
 |nil=>cases hz:y.2 with
  |nil=>rw[hz]at b;cases b
  |cons a r=>rw[hz]at b;cases b
 |cons x r=>cases hz:y.2 with
  |nil=>rw[hz]at b;cases b
  |cons a r=>rw[hz]at b;cases b
theorem GrS.push(h:GrS Hb H' p zs z)(c:H' q=none):GrS Hb (upd (upd H' q (.lst [])) p (.lst ((zs++[z]).map (λz=>V.ref z.1)++[V.ref q]))) p (zs++[z]) (q,[]):=by
 have j:q≠p:=λe=>by rw[e,h.l]at c;cases c
 show#[λb o e=>?_,h.n,by rw[aa,Wp (l₁:=zs++[z])];rfl,λy m=>?_,?_]
 .rw [ak λz=>by rw[z,h.n]at e;cases e];show aA c (h.s.get e)
 .rcases Ã.mp m with m|m;.rw [ak (h.ne m)];show#[aA c (h.y y m).1,(h.y y m).2]
  .rw [Zl.mp m];show#[by rw[ak j];show aa,h.s.free c]
 .rw [Wp,Ü];show#[h.d,by simp,λa f b g e=>?_];let#[y,i,rfl]:=Zp.mp f;have:=(h.y y i).1;rw[e,Zl.mp (show b∈[q]from g),c]at this;cases this
theorem GrS.put(h:GrS Hb H' p zs z)(xs:ϊ Nat):GrS Hb (upd H' z.1 (.lst (nv z.2++nv xs))) p zs (z.1,z.2++xs):=by
 have a:z∈zs++[z]:=by simp
 have c:∀y∈zs,y.1≠z.1:=λy f e=>by have:=h.d;rw[Wp,Ü]at this;show this.2.2 y.1 (Zp.mpr #[y,f,rfl]) z.1 (by simp) e
 show#[λb o e=>?_,h.n,?_,λy m=>?_,by have:=h.d;rw[Wp]at this⊢;show this];.rw [ak λx=>by rw[x,(h.y z a).2]at e;cases e];show h.s.get e
 .rw [ak (h.ne a).symm,h.l,Wp,Wp];rfl
 .rcases Ã.mp m with m|m;.rw [ak (c y m)];show h.y y (ß _ m)
  .rw [Zl.mp m];show#[by rw[aa];unfold nv;rw[Wp],(h.y z a).2]
inductive bP(K:Ϗ)(vs:ϊ V)(H:Hp)(Q:VK)(E:XK):Prop|mk (a d:ό) (ns:ϊ Int) (ht:Nat) (kvs:ϊ Lw) (fs:ϐ) (c0:Nat) (ls:ϵ) (_:vs=[.ref a,.ref d,.int (ht:Nat)]) (_:SqL K H a (ns.map V.int)) (_:↑ns<=63) (_:LtT H d ht kvs fs c0) (_:V7 kvs ls) (_:ht<=60) (_:∀r H' (zs:Ϸ),Same H H'->H' r=!(.lst (zs.map λz=>V.ref z.1))->(∀z∈zs,H' z.1=!(.lst (nv z.2))/\↑z.2<=20)->0<↑zs->↑zs<=100->Q (.ref r) H')
abbrev K4 K:=(aB (bG (Eo (aP (aL rZ (aL bW dB (tI 5)) (tI 0))) (aP (aL sX (gm K (aL (cZ K) di (Lr pA (tI 1)))) (tI 9)))) (cA (oU K "list" bU di (bR (cW cY)))) aW)
  (bG (aP (aL Gr (aL bW dB (tI 5)) (tI 3))) (cA (oU K "list" (lD K) (aL (cZ K) di (Lr pA (tI 1))) (bR (aL (cZ K) cM (aL bW (aL cR dB (tI 5)) (gm K cM)))))) (cA (oU K "list" bU (aL (cZ K) di (Lr pA (tI 1))) (bR (aL bW (aL cR (aL ie dB (tI 2862933555777941757)) (tI 16)) (aL Pn (tI 1) c7)))))))
def Aa K(E:XK)(Eh:XK):=(aB (aK (mU [none,!1] (cB K (gw nP (bR bK))) (ao 0) (aP (aL Cw aU (tC (V.str (Str.ofString ""))))) (fK bK aU)) (ao 3))
  (aB (aK (cW (bR (cW cY))) (ao 4))
  (aB (cV (cB K (KZ (CN K) aU (j5 (tI 6)) (j5 (tI 46)))) (ao 5) (K4 K))
  (aR di))))
theorem Va(h:bP K vs H Q E):∃Eh,Aa K E Eh {nx:=λ_ H'=>Q .non H',rt:=Q} (start ["script","letters","height","some","strips","cell"] vs) H:=by
 let#[a,d,ns,ht,kvs,fs,c0,ls,rfl,hS,ax,P,hk,av,q]:=h;show#[E0,?_];unfold Aa;symm;show rN (kvs:=kvs.map λp:Lw=>(p.1,p.2.1)) (by rw[Æ];show P.d) (by rw[Qb];show Ñ P.l (by decide)) λr1 ss B am ae=>?_;rw[Æ]at B;have s2:=aq (o:=HO.lst (ss.map V.str)) ae;have e2:upd H r1 (HO.lst (ss.map V.str)) r1=!(.lst (ss.map V.str)):=aa;generalize upd H r1 (HO.lst (ss.map V.str))=C at s2 e2⊢;have af:↑ss<=5:=by rw[B.length_eq,Qb];show P.l
 show qH V.str (zs:=ss) (ip e2) () (λi ys H'=>(An2 (C=H') (Ex1 λ(f:Ϸ)=>(An3 (ys=f.map (λt=>V.ref t.1)) (↑f=↑((ss.take i).filter λs=>decide (s≠tx []))) (∀t∈f,C t.1=!(.tup (nv t.2))/\↑t.2<=3))))) #[rfl,[],rfl,rfl,by simp] ?_ ?_ ?_ ?_;.rintro i ys _ ⟨rfl,_⟩;show ip e2
 .rintro i ys _ ⟨rfl,f,rfl,J,_⟩;rw[Qb,J];show Ð (Ō _ _) (List.length_take_le _ _)
 .rintro i s ys _ hi ⟨rfl,f,rfl,J,x⟩;have et:ss.take (i+1)=ss.take i++[s]:=by rw[Ò,hi];rfl
  symm;show lJ (λc=>?_) λc=>?_
  .obtain ⟨p,Y,ep⟩:=Zp.mp (B.mem_iff.mp (Yf hi));replace ep:p.1=s:=ep;subst ep;have ah:=(hk p.1 p.2.2).mpr #[c,p.2.1,Y];let#[r,g1,O]:=(P.same s2).get hk ah;have h3:=(P.k p Y c).2.1.2;symm;show#[d,_,rfl,g1,?_];show#[rfl,f++[(r,p.2.2)],by rw[Wp];rfl,?_,λt L=>?_];.rw [et,ź,Â,Â,J,Ğ,if_pos (Õ (show p.1≠tx []from c))];rfl
   .rcases Ã.mp L with L|L;.show x t L
    .rw [Zl.mp L];show#[O,h3]
  .show #[rfl,f,rfl,?_,x];rw[et,ź,Ğ,if_neg λz=>(show s≠tx []from é z) c,List.filter_nil,ò,J]
 rintro ys _ ⟨rfl,f,rfl,J,x⟩ G R;rw[ç]at J;have ap:0<↑f:=by rw[J];let#[v0,m0]:=P.o;show ļ (ú.mpr #[B.mem_iff.mpr (Zp.mpr #[_,m0,rfl]),Õ P.e])
 have ay:↑f<=5:=by rw[J];show Ð (Ō _ _) af
 have s3:=s2.new (o:=HO.lst (f.map λt=>V.ref t.1)) R;have e3:upd C G (HO.lst (f.map λt=>V.ref t.1)) G=!(.lst (f.map λt=>V.ref t.1)):=aa;have t3:∀t∈f,upd C G (HO.lst (f.map λt=>V.ref t.1)) t.1=!(.tup (nv t.2))/\↑t.2<=3:=λt L=>#[aA R (x t L).1,(x t L).2];generalize upd C G (HO.lst (f.map λt=>V.ref t.1))=H3 at s3 e3 t3⊢;clear x R e2 s2 B am ae;symm;intro I F;symm;intro n A;symm;have c6:gO (ns.map V.int) (!6) (!46)=((ns.take 46).drop 6).map V.int:=by rw[Br (by decide) (by decide),List.map_drop,Χ];rfl
 have T5:=(aq (o:=HO.lst []) F).new (o:=HO.lst [V.ref I]) A;show Ie ((s3.trans T5).seq hS) λM w=>?_;rw[c6];have ai:↑((ns.take 46).drop 6)<=63:=by rw[Ĉ,Ú];rfl'
 generalize(ns.take 46).drop 6=cn at ai⊢;have f6:H3 M=none:=T5.free w;have f5:H3 n=none:=(aq F (HO.lst [])).free A;have U:I≠M:=λe=>by rw[<-e,aA (o':=HO.lst [V.ref I]) A aa]at w;cases w
 have W:n≠M:=λe=>by rw[<-e,aa]at w;cases w
 let#[D,u]:∃D,D=upd H3 M (.lst (cn.map V.int)):=#[_,rfl];have sB:Same H3 D:=by rw[u];show aq f6 _
 have ac:D M=!(.lst (cn.map V.int)):=by rw[u];show aa
 have gr:GrS D (upd (upd (upd H3 I (HO.lst [])) n (HO.lst [V.ref I])) M (HO.lst (cn.map V.int))) n [] (I,[]):=by
  show#[λb o e=>?_,by rw[u,ak W];show f5,by rw[ak W,aa];rfl,λy m=>?_,by simp]
  .rw [u]at e;by_cases eb:b=M;.rw [eb,aa]at e⊢;show e
   .rw [ak eb]at e⊢;show T5.get e
  .rw [Zl.mp m];show#[by rw[ak U];show aA A aa,by rw[u,ak U];show F]
 generalize upd (upd (upd H3 I (HO.lst [])) n (HO.lst [V.ref I])) M (HO.lst (cn.map V.int))=H6 at gr⊢;clear u w U W F A T5 f6;show j7 V.int (zs:=cn) (ip (gr.s.get ac)) (λi σ H'=>(Ex3 λ(zs:Ϸ) (z:ό×ϊ Nat) (o:ύ V)=>(An4 (GrS D H' n zs z) (↑zs<=i) (∀y∈zs++[z],↑y.2<=20) (σ=[!(.ref a),!(.ref d),!(.int (ht:Nat)),!(.ref G),!(.ref n),o])))) #[[],(I,[]),none,gr,Ç _,λy m=>by rw[Zl.mp m];show á _,rfl] ?_ ?_ ?_;.rintro i σ H' ⟨zs,z,o,g,_⟩;show ip (g.s.get ac)
 .rintro i c σ H' hi ⟨zs,z,o,g,S,hy,rfl⟩;walk_at "gj";walk_at "ns";have T:∀{Q:VK}{zs:Ϸ}{z:ό×ϊ Nat}{H':Hp},GrS D H' n zs z->Q (.ref z.1) H'->cZ K (.ref n) (.int (-1)) H' Q:=λ{Q zs z H'} g h=>cH (ip g.l) (by rw[Wp];show uQ _ _) h;with_reducible show yu (λσ' C=>(Ex2 λ(zs:Ϸ) (z:ό×ϊ Nat)=>(An5 (GrS D C n zs z) (↑zs<=i+1) (∀y∈zs++[z],↑y.2<=20) (↑z.2<=9) (σ'=[!(.ref a),!(.ref d),!(.int (ht:Nat)),!(.ref G),!(.ref n),!(.int c)])))) ?_ ?_
  rotate_left
  .intro N kN;have X:=(g.y z (by simp)).1;have aw:=(Ä.mp hi).1;have new:∀rt bk ct,cA (oU K "list" bU (dH 4) (bM (cW cY) cY)) {nx:=N,rt:=rt,bk:=bk,ct:=ct} [!(.ref a),!(.ref d),!(.int (ht:Nat)),!(.ref G),!(.ref n),!(.int c)] H':=by intro rt bk ct;symm;show du (ip g.l) ?_;symm;intro q1 ad;symm;show fL (aA ad g.l) (by rw[Qb,Â];simp;rfl') ?_;symm;show kN _ _ ⟨zs++[z],(q1,[]),g.push ad,by rw[Â];show Τ S,λy m=>by
     rcases Ã.mp m with m|m;.show hy y m
     .rw [Zl.mp m];show á _,á _,rfl⟩
   symm;show dO (λc1=>?_) λc1=>?_;.rw [if_pos rfl];show new _ _ _
   .symm;show T g ?_;symm;show bJ (ip X) ?_;symm;show dO (λc2=>new _ _ _) λc2=>?_;unfold nv at c2;rw[Qb]at c2;symm;show kN _ _ #[zs,z,g,Nat.le_succ_of_le S,hy,(),rfl]
  rintro σ' C ⟨as,Z,O,ag,ar,h9,rfl⟩;have fin:∀xs:ϊ Nat,↑xs<=3->(Ex3 λ(zs:Ϸ) (z:ό×ϊ Nat) (o:ύ V)=>(An4 (GrS D (upd C Z.1 (.lst (nv Z.2++nv xs))) n zs z) (↑zs<=i+1) (∀y∈zs++[z],↑y.2<=20) ([!(V.ref a),!(.ref d),!(.int (ht:Nat)),!(.ref G),!(.ref n),!(.int c)]=[!(V.ref a),!(.ref d),!(.int (ht:Nat)),!(.ref G),!(.ref n),o]))):=λxs hx=>⟨as,(Z.1,Z.2++xs),_,O.put xs,ag,λy m=>by
   rcases Ã.mp m with m|m;.show ar y (ß _ m)
   .rw [Zl.mp m];change↑(Z.2++xs)<=20;rw[Â];rfl',rfl⟩;have X:=(O.y Z (by simp)).1;symm;show dO (λc3=>?_) λc3=>?_;.symm;show T O ?_;symm;show du (ip X) ?_;symm;have sH:=sB.trans O.s;show bJ (ip (sH.get e3)) ?_;rw[Qb];let#[k,ek,al]:=Mm.fQ (c/5) ↑f ap;symm;rw[ek];let#[t,et]:∃t,f[k]?=!t:=#[_,Zs al];show cH (ip (sH.get e3)) (aM (j:=k) (v:=.ref t.1) (by rw[À,et];rfl)) ?_;have tt:=t3 t (Yf et);symm;show Ed X (iq (sH.get tt.1)) (by unfold nv;rw[Qb,Qb];rfl') ?_;symm;show fin t.2 tt.2
  .symm;show T O ?_;symm;show du (ip X) ?_;symm;rw[Int.one_mul,à,Mm.HJ];show fL X (by unfold nv;rw[Qb];rfl') ?_;symm;show fin [_] (show 1<=3 by decide)
 rintro σ H' ⟨zs,z,o,g,S,hy,rfl⟩;symm;show q n H' (zs++[z]) ((s3.trans sB).trans g.s) g.l (λy m=>#[(g.y y m).1,hy y m]) (by simp) (by rw[Â];simp;rfl')
inductive eR(K:Ϗ)(vs:ϊ V)(H:Hp)(Q:VK)(E:XK):Prop|mk (f ha p:ό) (h:Nat) (ls:ϵ) (ds:L2S) (es:ϊ Int) (xs:ϊ Nat) (c:Nat) (_:vs=[.ref f,.ref ha,.str (tx [c]),.ref p]) (_:FnF K H f h ls) (_:Fo.Wf h ls) (_:HsG K H ha ds es) (_:(1<=↑ds/\↑ds<=40)) (_:(∀ps∈ds,↑ps<=1000)) (_:(∀ps∈ds,∀q∈ps,0<=q.2/\q.2<↑ds)) (_:SqL K H p (nv xs)) (_:↑xs<=1000) (_:∀v H',Same H H'->QpP H' v c (zJ ls xs ds es)->Q v H')
abbrev K5 K:=(aB (bG (aP (aL gF di (tC V.non))) (aR (tC V.non)) aW)
  (aB (aK (tX K di 0) (ao 5))
  (aB (fX (Ez (aP (aL Cw dB (tC (V.str (Str.ofString ""))))) (aP (aL rZ (aL CK dB (Lr pA (tI 1))) c7))) (aK (KZ QX dB gB (j5 (Lr pA (tI 1)))) (ao 5)))
  (aR (bY (jZ dB (tX K di 1) (tX K di 2)))))))
def Ab K(E:XK)(Eh:XK):=(aB (aK (cg (gE K) (jZ aU bK cM)) (ao 4))
  (K5 K))
theorem Vb(h:eR K vs H Q E):∃N,Ab K E N {nx:=λ_ H'=>Q .non H',rt:=Q} (start ["font","house","filler","strip","told","text"] vs) H:=by
 let#[f,A,p,h,ls,ds,es,xs,c,rfl,S,M,T,X,B,C,W,I,q]:=h;show#[E0,?_];unfold Ab;symm;show#[f,A,p,h,ls,ds,es,xs,rfl,S,M,T,X,B,C,W,I,λv l L U=>?_];symm;rcases Q0 M U with⟨eo,rfl⟩|⟨t,a,eo,rfl,hl,ea⟩;.show mY rfl ?_;symm;show q _ _ L (by rw[eo];rfl)
 .show mZ (by intro z;cases z) ?_;symm;show dC ea ?_;symm;show nU (λe H'=>(An2 (H'=l) (Ex1 λ(u:ϊ Nat)=>(An3 (Eu c u=Eu c (Le t.1)) (↑u<=1000) (e=[!(.ref f),!(.ref A),!(.str (tx [c])),!(.ref p),!(.ref a),!(.str (tx u))]))))) (λe _=>match e with|[_,_,_,_,_,!(.str s)]=>↑s|_=>0) ⟨rfl,Le t.1,rfl,(),rfl⟩ ?_ ?_
  .rintro e _ ⟨rfl,u,r,Y,rfl⟩;rename_i l;have fin:∀w:ϊ Nat,Eu c w=w->Eu c w=Eu c (Le t.1)->aR (bY (bM (dH 5) (bM (aL (iH K) (dH 4) (tC (V.int 1))) (bM (aL (iH K) (dH 4) (tC (V.int 2))) cY)))) {nx:=λx H'=>Q V.non H',rt:=Q} [!(.ref f),!(.ref A),!(.str (tx [c])),!(.ref p),!(.ref a),!(.str (tx w))] l:=λw m n=>by symm;show cX ea ?_;symm;show jn ea ?_;symm;intro y g;show q _ _ (L.new g) ?_;rw[eo];show#[y,rfl,by rw[aa,<-n,m]]
   symm;rcases List.eq_nil_or_concat u with rfl|⟨u',x,ux⟩;.rw [Õ (show tx []=Str.ofString ""from rfl),if_neg (by decide)];show fin [] rfl r
   .rw [List.concat_eq_append]at ux;subst ux;rw[Ó (show¬tx (u'++[x])=Str.ofString ""fromλz=>by have:=(iY (b:=[])).mp z;simp at this)];symm;show Bt (c:=x) (by rw[fC];rfl') (by rw[Ig,Ri (by simp),List.getLast_concat]) ?_;symm;by_cases G:x=c
    .subst G;rw[Õ (show(#[([x].toArray)]:ϐ)=tx [x]from rfl)];symm;show Xx (by rw[fC];rfl') ?_;rw[Ou,List.dropLast_concat];symm;show#[#[rfl,u',?_,?_,rfl],?_];.rw [<-r];show(uB x u' 1).symm
     .rw [Â]at Y;rfl'
     .show ↑(tx u')<↑(tx (u'++[x]));rw[fC,fC,Â];show Ĭ _
    .rw [Ó (show¬(#[([x].toArray)]:ϐ)=tx [c]fromλz=>G (by have:=(iY (a:=[x])).mp z;simpa using this)),if_neg (by decide)];show fin _ (JM λy g=>by rw[List.getLast?_concat]at g;cases g;show G) r
  .rintro e H Q Q' J ⟨v,F,D,k,o,z⟩;show#[v,F,D,k,o,?_];cases k with
   |false=>show J _ _ z|true=>let#[v,F,i,O,s,j,d,m,n,P,R,w,Z,D,k,o,z]:=z;show#[v,F,i,O,s,j,d,m,n,P,R,w,Z,D,k,o,J _ _ z]
inductive dP(K:Ϗ)(vs:ϊ V)(H:Hp)(Q:VK)(E:XK):Prop|mk (v u:V) (c:Nat) (o:ύ (ϊ (ϴ)×Nat×Nat)) (_:vs=[v,u]) (_:QpP H v c o) (_:QpP H u c o) (_:(∀t,o=!t->∀s∈t.1.map (·.1),Hs.Sg s)) (_:Q (.bl true) H)
abbrev K6 K:=(aB (bG (Eo (kj (jF K (gw (eQ K) (cF aU (tC (V.ty "tuple")))))) (Eo (aP (aL Cw (gm K aU) (tI 3))) (kj (jF K (gw (eQ K) (cF (tX K aU 0) (tC (V.ty "str")))))))) (aR (tC (V.bl false))) aW)
  (aR (gU (cg (eB K) (bR (tX K aU 1))) (gU (cg (eB K) (bR (tX K aU 2))) (aL (rEqD K) aU bK)))))
def Ac K(E:XK)(Eh:XK):=(aB (bG (aP (aL gF bK (tC V.non))) (aR (aL gF aU (tC V.non))) aW)
  (K6 K))
theorem Vc(h:dP K vs H Q E):∃g,Ac K E g {nx:=λ_ H'=>Q .non H',rt:=Q} (start ["found","due"] vs) H:=by let#[v,u,c,o,rfl,f,e,k,q]:=h;show#[E0,?_];unfold Ac;cases o with
 |none=>
  cases(show v=.non from f);cases(show u=.non from e);symm;show q|some t=>have i:=f.dp (K:=K);have j:=e.dp (K:=K);let#[a,rfl,d]:=f;let#[b,rfl,l]:=e;symm;show xm ?_;symm;show eF (.tup d) (b:=true) rfl ?_;symm;show bQ (iq d) ?_;symm;show xm ?_;symm;show dC d ?_;symm;show eF (.str _) (b:=true) rfl ?_;symm;show cX d ?_;symm;show#[_,rfl,?_];symm;show jn d ?_;symm;show#[_,rfl,?_];symm;show rEqD.same i j (PX k) (by decide) ?_;show q
inductive aS(K:Ϗ)(vs:ϊ V)(H:Hp)(Q:VK)(E:XK):Prop|mk (f ha sa:ό) (h:Nat) (ls:ϵ) (ds:L2S) (es:ϊ Int) (x:V) (zs:Ϸ) (w:Int) (_:vs=[.ref f,.ref ha,x,.ref sa,.int w]) (_:RefG K mG mG []) (_:RefG K lO lO []) (_:RefH K nW SN [(nW,true)] [[q9,qd,J1,J2,mG,lO],[J3,qg,qi,J4,J5,J6]]) (_:Thing H x) (_:FnF K H f h ls) (_:Fo.Wf h ls) (_:HsG K H ha ds es) (_:GoodH ds es) (_:SqL K H sa (zs.map λz=>V.ref z.1)) (_:↑zs<=1000) (_:(∀z∈zs,SqL K H z.1 (nv z.2)/\↑z.2<=1000)) (_:(∀c0,¬BX ls ds x c0)) (_:∀H',Same H H'->Q (.bl true) H')
abbrev K7 K:=(aB (cA (oU K "list" bU dB (bR (gw (dM K) (cF gH (bY (bM (tC (V.ref q9)) (bM (tC (V.ref qd)) (pZ (tC (V.ref J1)) (tC (V.ref J2)) (tC (V.ref mG)) (tC (V.ref lO)))))))))))
  (cA (oU K "list" bU dB (bR (gw (dM K) (cF gH (bY (bM (tC (V.ref J3)) (bM (tC (V.ref qg)) (pZ (tC (V.ref qi)) (tC (V.ref J4)) (tC (V.ref J5)) (tC (V.ref J6))))))))))))
abbrev K8 K Eh:=(aB (QV K ["font","house","filler","strips","way","kinds","e"] SN 6 Eh (bG (aP (aL rZ di (tI 0))) (cA (eY (eL K) [] Eh (pZ aU bK c7 cM))) (cA (eY (eE K) [] Eh (jZ aU bK c7)))) (aB (aK (cW (cF (gw (dM K) (cF gH (tC (V.ref nW)))) (gw (dM K) (cF gH (tC (V.ty "ValueError")))))) (ao 5))
  (K7 K)))
  (aR (aL (rEqD K) dB (cW (pZ (tC (V.bl true)) (tC (V.bl true)) (tC (V.bl false)) (tC (V.bl false)))))))
def Ad K(E:XK)Eh:=(aB (aK (cW cY) (ao 5))
  (K8 K Eh))
theorem Vd(h:aS K vs H Q E):∃Eh,Ad K E Eh {nx:=λ_ H'=>Q .non H',rt:=Q} (start ["font","house","filler","strips","way","kinds","e"] vs) H:=by
 let#[f,W,sa,h,ls,ds,es,x,zs,w,rfl,N,F2,R,Z,T,wf,U,S,hS,L,hz,no,q]:=h;show#[λC _ H'=>C=.ref nW/\Same H H',?_];unfold Ad;symm;intro p0 J;have i:=aq (o:=HO.lst []) J;symm;show Xv ?_ ?_
 .symm;show dO (λc=>?_) λc=>?_;.symm;show#[f,W,sa,h,ls,ds,es,x,zs,rfl,N,F2,Z.same i,T.same i,wf,U.same i,S,i.seq hS,L,λz mz=>#[i.seq (hz z mz).1,(hz z mz).2],λc F _ I=>absurd I (no F),λ_ u t=>#[rfl,i.trans t]]
  .symm;show#[f,W,h,ls,ds,es,x,rfl,N,F2,Z.same i,T.same i,wf,U.same i,S,λs F _ I=>absurd I (no F),λ_ u t=>#[rfl,i.trans t]]
 .rintro _ u ⟨rfl,t⟩;show#[R.em,λe Y=>?_];symm;show RC aa R.ex R.kl.1 ?_;symm;show RD aa R.ex R.kv ?_;symm;intro g l;symm;have D:upd (upd u e (qt e (Value.ref nW))) g (HO.lst [V.bl true,V.bl true]) g=!(HO.lst [V.bl true,V.bl true]):=aa;have v:upd (upd u e (qt e (Value.ref nW))) g (HO.lst [V.bl true,V.bl true]) e=!(qt e (Value.ref nW)):=aA l aa;have s3:=(t.new (o:=qt e (Value.ref nW)) Y).new (o:=HO.lst [V.bl true,V.bl true]) l;have n3:H g=none:=(t.new Y).free l;generalize upd (upd u e (qt e (Value.ref nW))) g (HO.lst [V.bl true,V.bl true])=H3 at D v s3⊢;have M:e≠g:=λz=>by rw[z,D]at v;cases v
  show du (ip D) ?_;symm;intro q1 k;symm;show Ib (aA k v) R.ex (ds:=[q9,qd,J1,J2,mG,lO]) aa R.ka.1 ?_;symm;show fL (aA k D) (show 2<=1000000 by decide) ?_;have s5:=s3.new (o:=.tup [V.ref q9,V.ref qd,V.ref J1,V.ref J2,V.ref mG,V.ref lO]) k;let#[p,b]:∃p,p=upd (upd H3 q1 (.tup [V.ref q9,V.ref qd,V.ref J1,V.ref J2,V.ref mG,V.ref lO])) g (HO.lst ([V.bl true,V.bl true]++[V.bl false])):=#[_,rfl];have s6:Same H p:=λa o z=>by rw[b,ak λy=>by rw[y,n3]at z;cases z];show s5.get z
  have P:p g=!(HO.lst [V.bl true,V.bl true,V.bl false]):=by rw[b];show aa
  have G:p e=!(qt e (Value.ref nW)):=by rw[b,ak M];show aA k v
  rw[<-b];clear b;symm;show du (ip P) ?_;symm;intro q2 m;symm;show Ib (aA m G) R.ex (ds:=[J3,qg,qi,J4,J5,J6]) aa R.ka.2.1 ?_;symm;show fL (aA m P) (show 3<=1000000 by decide) ?_;have s7:=s6.new (o:=.tup [V.ref J3,V.ref qg,V.ref qi,V.ref J4,V.ref J5,V.ref J6]) m;let#[B,j]:∃B,B=upd (upd p q2 (.tup [V.ref J3,V.ref qg,V.ref qi,V.ref J4,V.ref J5,V.ref J6])) g (HO.lst ([V.bl true,V.bl true,V.bl false]++[V.bl false])):=#[_,rfl];have s8:Same H B:=λa o z=>by rw[j,ak λy=>by rw[y,n3]at z;cases z];show s7.get z
  have e8:B g=!(HO.lst [V.bl true,V.bl true,V.bl false,V.bl false]):=by rw[j];show aa
  rw[<-j];clear j;symm;intro r A;have O:∀{H':Hp}{a:ό},H' a=!(HO.lst [V.bl true,V.bl true,V.bl false,V.bl false])->Dp K H' (.ref a) (.list [.bool true,.bool true,.bool false,.bool false]):=λe=>.lst (ip e) (.cons (.bl _) (.cons (.bl _) (.cons (.bl _) (.cons (.bl _) .nil))));show rEqD.same (O (aA A e8)) (O aa) (lN (n:=0) λd X=>?_) (by decide) ?_;.simp only[Å,â,Ď]at X;rcases X with rfl|rfl|rfl|rfl<;>show Xu _ _
  .symm;show q _ (s8.new A)
theorem K9(h:Rb H v)(s:Same H H'):Rb H' v:=h.imp id λ⟨a,e,h⟩=>#[a,e,h.imp (λ⟨y,e⟩=>#[y,s.get e]) λ⟨y,e⟩=>#[y,s.get e]]
def NoF(H:Hp)(ls:ϵ)(ds:L2S)(v:V):Prop:=Rb H v/\Thing H v/\∀c,¬BX ls ds v c
theorem NoF.same(h:NoF H ls ds v)(s:Same H H'):NoF H' ls ds v:=#[K9 h.1 s,h.2.1.same s,h.2.2]
inductive aI(K:Ϗ)(vs:ϊ V)(H:Hp)(Q:VK)(E:XK):Prop|mk (cl:Int) (d sg ha:ό) (ht:Nat) (kvs:ϊ Lw) (fs:ϐ) (c0:Nat) (ls:ϵ) (ds:L2S) (es:ϊ Int) (ss:ϊ ϐ) (_:vs=[.int cl,.ref d,.ref sg,.ref ha]) (_:LtT H d ht kvs fs c0) (_:V7 kvs ls) (_:Fo.Wf ht ls) (_:HsF K H ha ds es) (_:GoodH ds es) (_:SqL K H sg (ss.map V.str)) (_:↑ss<=10) (_:(∀s∈ss,∃co,Fo.lk ls s=!co)) (_:∀x H',Same H H'->Thing H' x->(∀c,¬BX ls ds x c)->Q x H')
abbrev OD K:=(aB (aK (aL xj gH (mU [none,!1] (cB K c7) (ao 0) (aP (aL sX (gm K (fK bK aU)) (tI 1))) aU)) (ao 6))
  (aB (cV (kE K (tX K cM 0)) (ao 7) (aK (aL xj gH (mU [none,none,!6] (kE K jY) (jd K 2 (bL (ao 0) (bL (ao 1) jE))) (aP (aL (Bl K) aU c7)) aU)) (ao 6)))
  (aR (aL (cZ K) gH (aL bW aU (gm K gH))))))
abbrev OJ K:=(aB (aK (fK bK (tC (V.str (Str.ofString "")))) (ao 5))
  (aB (aK (cW (bM (aL (cZ K) di (aL bW (aL cR aU (tI 7)) (gm K di))) (bM (aL fV dB dB) (bM (tC (V.str (Str.ofString ""))) (bM (tC V.non) (pZ (tI 7) (tC (V.bl true)) (bY (bR dB)) (cW (bR dB)))))))) (ao 6))
  (OD K)))
def Ka K(E:XK)(Eh:XK):=(aB (aK (mU [none,!1] (Mf (cg (ju K) cY)) (ao 0) (tB (gC aU bK)) aU) (ao 4))
  (OJ K))
theorem Yq(h:aI K vs H Q E):∃Eh,Ka K E Eh {nx:=λ_ H'=>Q .non H',rt:=Q} (start ["cell","letters","signs","house","lacked","filler","some","pairs"] vs) H:=by
 let#[cl,d,sg,ha,ht,kvs,fs,c0,ls,ds,es,ss,rfl,W,hk,wf,hH,gd,hG,av,am,q]:=h;show#[E0,?_];unfold Ka;symm;show#[rfl,?_];symm;show Ci rfl W hk λp1 ai=>?_;have lp:=wG wf.le;have ll:=Ce ls;have ln:=λc (h:c∈lQ ls)=>Cg h;generalize lQ ls=lc at lp ll ln⊢;have s1:=aq (o:=HO.lst (lc.map λc=>V.str (tx [c]))) ai;have m:upd H p1 (HO.lst (lc.map λc=>V.str (tx [c]))) p1=!(.lst (lc.map λc=>V.str (tx [c]))):=aa;generalize upd H p1 (HO.lst (lc.map λc=>V.str (tx [c])))=H1 at s1 m⊢;symm;show#[d,_,rfl,(W.same s1).fil,?_];symm;show bJ (ip m) ?_;rw[Qb];let#[k,ek,ah]:=Mm.fQ (cl/7) ↑lc lp;symm;rw[ek];let#[P,T]:∃P,lc[k]?=!P:=#[_,Zs ah];show cH (ip m) (aM (j:=k) (v:=.str (tx [P])) (by rw[À,T];rfl)) ?_;symm;have u:∀{s:ϐ}{H':Hp},Hs.Sg s->Thing H' (.str s):=λh=>Jw h;have D:∀s,Fo.lk ls s=none->∀c,¬BX ls ds (.str s) c:=λs e c ⟨s',m,F,_⟩=>by cases m;rw[e]at F;cases F
 let#[v0,m0]:=W.o;have ae:=(hk fs [c0]).mpr #[W.e,v0,m0];let#[n1,A]:=wf.sg _ (Fo.bZ ae);replace A:fs=tx [Hs.jH n1]:=A;show pU (by rw[A,fC];show Nat.le_of_ble_eq_true rfl) ?_;have R:fs++fs=tx [Hs.jH n1,Hs.jH n1]:=by rw[A,yw];rfl
 have ad:Fo.lk ls (fs++fs)=none:=by cases e:Fo.lk ls (fs++fs)with
  |none=>rfl|some co=>let#[n3,ac]:=wf.sg _ (Fo.bZ e);have:=Ô List.length (iY.mp (R.symm.trans ac));simp at this
 have h0:Fo.lk ls (tx [])=none:=by cases e:Fo.lk ls (tx [])with
  |none=>rfl|some co=>show absurd rfl ((hk _ _).mp e).1
 have U:↑(fs++fs)<=100000:=by rw[R,fC];show Nat.le_of_ble_eq_true rfl
 symm;intro N X;symm;intro p3 I;symm;intro p4 B;let#[xs,g]:∃xs,xs=[V.str (tx [P]),V.str (fs++fs),V.str (Str.ofString ""),V.non,V.int 7,V.bl true,V.ref N,V.ref p3]:=#[_,rfl];have t:∀x:V,(∀s,x≠.str s)->∀c,¬BX ls ds x c:=λx h c ⟨s',m,_⟩=>h s' m;have O:=((s1.new (o:=HO.tup [V.str fs]) X).new (o:=HO.lst [V.str fs]) I).new (o:=HO.lst xs) B;have b4:∀x∈xs,NoF (upd (upd (upd H1 N (HO.tup [V.str fs])) p3 (HO.lst [V.str fs])) p4 (HO.lst xs)) ls ds x:=by
  rw[g];intro x f;have mc:=ln P (Yf T);simp only[Å,â,Ď]at f;rcases f with rfl|rfl|rfl|rfl|rfl|rfl|rfl|rfl;.show #[.inl rfl,u mc.2.1,D _ mc.1]
  .show #[.inl rfl,U,D _ ad]
  .show #[.inl rfl,á _,D _ h0]
  .show #[.inl rfl,trivial,t _ λs z=>by cases z]
  .show #[.inl rfl,trivial,t _ λs z=>by cases z]
  .show #[.inl rfl,trivial,t _ λs z=>by cases z]
  .have e:=aA (o':=HO.lst xs) B (aA (o':=HO.lst [V.str fs]) I (aa (H:=H1) (a:=N) (o:=HO.tup [V.str fs])));rw[g]at e;show#[.inr #[_,rfl,.inr #[_,e]],.inr (.inl #[_,e]),t _ λs z=>by cases z]
  .have e:=aA (o':=HO.lst xs) B (aa (H:=upd H1 N (HO.tup [V.str fs])) (a:=p3) (o:=HO.lst [V.str fs]));rw[g]at e;show#[.inr #[_,rfl,.inl #[_,e]],.inl #[_,e],t _ λs z=>by cases z]
 have l4:↑xs=8:=by rw[g];rfl
 rw[<-g];have e4:upd (upd (upd H1 N (HO.tup [V.str fs])) p3 (HO.lst [V.str fs])) p4 (HO.lst xs) p4=!(.lst xs):=aa;clear g;generalize upd (upd (upd H1 N (HO.tup [V.str fs])) p3 (HO.lst [V.str fs])) p4 (HO.lst xs)=H4 at O b4 e4⊢;symm;show qH V.str (zs:=ss) (O.seq hG) () (λi ys H'=>(An3 (H4=H') (↑ys<=i) (∀y∈ys,NoF H4 ls ds y))) #[rfl,by simp,by simp] ?_ ?_ ?_ ?_;.rintro i ys _ ⟨rfl,_⟩;show O.seq hG
 .rintro i ys _ ⟨rfl,h,_⟩;show h
 .rintro i s ys _ hi ⟨rfl,L,w⟩;let#[co,G]:=am s (Yf hi);let#[r,g1,g2]:=(W.same O).get hk G;symm;show#[d,_,rfl,g1,?_];symm;show bQ (iq g2) ?_;rw[Qb];symm;show dO (λc=>?_) λc=>?_
  .symm;show#[rfl,by rw[Â,Þ];rfl',λy n=>?_];rcases Ã.mp n with n|n;.show w y n
   .rw [Zl.mp n];show#[.inl rfl,u (wf.sg _ (Fo.bZ G)),λc' ⟨s',m,F,_⟩=>?_];cases m;rw[G]at F;cases F;simp at c
  .show #[rfl,(),w]
 rintro ys _ ⟨rfl,L,w⟩ p5 C;symm;show wk (aA C e4) aa () λp6 J=>?_;have S6:=(O.new (o:=HO.lst ys) C).new (o:=HO.lst (xs++ys)) J;have T6:=(aq (o:=HO.lst ys) C).new (o:=HO.lst (xs++ys)) J;have b6:∀x∈xs++ys,NoF (upd (upd H4 p5 (HO.lst ys)) p6 (HO.lst (xs++ys))) ls ds x:=λx f=>by
  rcases Ã.mp f with f|f;.show (b4 x f).same T6
  .show (w x f).same T6
 have e6:upd (upd H4 p5 (HO.lst ys)) p6 (HO.lst (xs++ys)) p6=!(.lst (xs++ys)):=aa;have l6:0<↑(xs++ys)/\↑(xs++ys)<=18:=by rw[Â];rfl'
 generalize upd (upd H4 p5 (HO.lst ys)) p6 (HO.lst (xs++ys))=H6 at S6 b6 e6⊢;generalize xs++ys=l at b6 e6 l6⊢;clear T6 C J B I X b4 w e4;let#[d1,d2,rs,h1,S,h3,h4,h5]:=hH.same S6;symm;show dC h1 ?_;have as:↑rs<=40:=by have:=gd.r2;rw[<-S,Qb]at this;show this
 show pQ (λr:ό×L1S=>V.ref r.1) h3 (λi σ H'=>(An2 (Same H6 H') (Ex3 λ(p:ό) (l:ϊ V) (o:ύ V)=>(An6 (H' p=!(.lst l)) (0<↑l) (↑l<=18+i*62) (∀x∈l,NoF H' ls ds x) (i<=↑rs) (σ=[!(.int cl),!(.ref d),!(.ref sg),!(.ref ha),!(.ref p1),!(.str fs),!(.ref p),o]))))) #[ix _,p6,l,none,e6,l6.1,l6.2,b6,á _,rfl] ?_ ?_ ?_;.rintro i σ H' ⟨s',_⟩;show s'.tup h3
 .rintro i r σ H' hi ⟨s',p,l,o,ep,w1,w2,hw,af,rfl⟩;have mr:=Yf hi;have ag:i<↑rs:=(Ä.mp hi).1;let#[zs,ob,ez,ar,z1,z2]:=(h4 r mr).same s';have M:r.2∈ds:=by rw[<-S];show Zp.mpr #[r,mr,rfl]
  have aw:↑zs<=62:=by have:=gd.ln r.2 M;rw[<-ez,Qb]at this;show this
  have ap:i*62<=40*62:=ε _ ();symm;show O6 (λz:ό×ϐ×Int=>V.ref z.1) (zs:=zs) (.inl (.inr #[ob,z1])) () (λi ys H2=>(An3 (H'=H2) (↑ys<=i) (∀y∈ys,NoF H' ls ds y))) #[rfl,by simp,by simp] ?_ ?_ ?_ ?_;.rintro i ys _ ⟨rfl,_⟩;show .inl (.inr #[ob,z1])
  .rintro i ys _ ⟨rfl,h,_⟩;show h
  .rintro j z ys _ hj ⟨rfl,L,w⟩;have mz:=Yf hj;show dR (iq (z2 z mz)) rfl ?_;symm;show RQ (ip ep) (λv mv=>(hw v mv).1) ?_;generalize inV (V.str z.2.1) l=b;cases b with
   |true=>symm;show#[rfl,(),w]|false=>
    symm;show#[rfl,by rw[Â,Þ];rfl',λy n=>?_];rcases Ã.mp n with n|n;.show w y n
    .rw [Zl.mp n];have Z:z.2∈r.2:=by rw[<-ez];show Zp.mpr #[z,mz,rfl]
     show#[.inl rfl,u (gd.sg r.2 M z.2 Z).1,λc' ⟨s',m,_,F,_⟩=>?_];cases m;show uw.mp (F r.2 M) (Zp.mpr #[z.2,Z,rfl])
  rintro ys _ ⟨rfl,L,w⟩ p7 Y;symm;show wk (aA Y ep) aa () λp8 al=>?_;have T8:=(aq (o:=HO.lst ys) Y).new (o:=HO.lst (l++ys)) al;symm;show#[s'.trans T8,p8,l++ys,_,aa,by rw[Â];rfl',by rw[Â,Nat.add_mul];rfl',λx f=>?_,ag,rfl];rcases Ã.mp f with f|f;.show (hw x f).same T8
  .show (w x f).same T8
 rintro σ H' ⟨s',p,l,o,ep,w1,w2,hw,af,rfl⟩;symm;show bJ (ip ep) ?_;symm;let#[j,ej,hj]:=Mm.fQ cl ↑l w1;rw[ej];let#[x,T]:∃x,l[j]?=!x:=#[_,Zs hj];show cH (ip ep) (aM T) ?_;symm;have:=hw x (Yf T);show q x _ (S6.trans s') this.2.1 this.2.2
inductive ia(K:Ϗ)(vs:ϊ V)(H:Hp)(Q:VK)(E:XK):Prop|mk (a:ό) (ns:ϊ Int) (_:vs=[.ref a]) (_:(RefG K mG mG []/\RefG K lO lO []/\RefH K nW SN [(nW,true)] [[q9,qd,J1,J2,mG,lO],[J3,qg,qi,J4,J5,J6]])) (_:SqL K H a (ns.map V.int)) (_:↑ns<=63) (_:∀H',Q (.bl true) H')
abbrev Kc K:=(aB (aK (cg (hY K) (cF dB wM)) (ao 18))
  (aB (bG (Eo (aP (aL gF SM (tC V.non))) (aP (aL gF Og (tC V.non)))) (aR (gU (aL gF SM (tC V.non)) (aL gF Og (tC V.non)))) aW)
  (aR (gU (cg (eB K) (bR Og)) (gU (aL rZ Og SM) (aL (rEqD K) ww Es))))))
abbrev Kd K:=(aB (bG (Eo (kj (jF K (cg (aS K) (bM dB (pZ jY Y0 (cW cY) (tI 0)))))) (aP (aL (rNeD K) (cg (zQ K) (pZ dB jY cM (cW cY))) (cW cY)))) (aR (tC (V.bl false))) aW)
  (aB (bG (aP (aL sX (gm K (tX K jY 0)) (aL (cZ K) (cW (pZ (tI 0) (tI 6) (tI 4) (tI 3))) (gm K di)))) (aR (aL (rEqD K) ww Es)) aW)
  (aB (aK (cg (V0 K) (jZ dB jY cM)) (ao 17))
  (Kc K))))
abbrev Ke K:=(aB (aK (bY (cF (aL (FW K) (tX K jY 0) (aL (Hk K) (bY (bR (bY cY))) (aL rA (tI 40) (gm K (tX K jY 0))))) (tX K jY 1))) (ao 15))
  (aB (cV (j4 (bR (tI 2))) (ao 16) (bG (Eo (kj (jF K (cg (aS K) (bM dB (pZ jY Y0 ww Y4))))) (kj (jF K (cg (aS K) (bM dB (pZ a06 cM ww Y4)))))) (aR (tC (V.bl false))) aW))
  (Kd K)))
abbrev Kf K:=(aB (bG (aP (aL (rNeD K) (cg (zQ K) (pZ dB jY cM (cW (bR (aL (cZ K) ww XX))))) (cW (bR (aL (cZ K) Oe XX))))) (aR (tC (V.bl false))) aW)
  (aB (aK (cg (aI K) (pZ (cg (ic K) (cF aU (tI 5))) c7 di jY)) (ao 14))
  (Ke K)))
abbrev Kg K:=(aB (cV (j4 (bR (gm K Es))) (ao 12) (bG (kj (jF K (cg (dP K) (cF (aL (cZ K) Oe XS) (cg (eR K) (pZ dB wM cM (aL (cZ K) Es XS))))))) (aR (tC (V.bl false))) aW))
  (aB (aK (aL bW (aL cR (cg (ic K) (cF aU (tI 5))) (tI 11)) (gm K Es)) (ao 13))
  (Kf K)))
abbrev Kh K:=(aB (aK (mU [none] (cB K Es) (ao 0) gZ (gw (iQ K) (bR aU))) (ao 10))
  (aB (aK (cg (zQ K) (pZ dB jY cM ww)) (ao 11))
  (aB (bG (Eo (kj (jF K (gw (eQ K) (cF Oe (tC (V.ty "list")))))) (Eo (aP (aL Cw (gm K Oe) (gm K Es))) (aP (aL (rNeD K) ww Es)))) (aR (tC (V.bl false))) aW)
  (Kg K))))
abbrev Kl K:=(aB (aK (cg (aE K) (jZ (aL cR (cg (ic K) (cF aU (tI 1))) (tI 12)) c7 di)) (ao 6))
  (aB (aK (cg (dS K) (jZ (cg (ic K) (cF aU (tI 4))) gH (gm K di))) (ao 7))
  (aB (aK (cg (bX K) (cF jY cM)) (ao 8))
  (aB (aK (cg (bP K) (jZ aU c7 bK)) (ao 9))
  (Kh K)))))
abbrev Km K:=(aB (aK (gw (pH K) (bR (mU [none,!3] (tM c7) (ao 0) (aP (aL (G3 K true) aU (cW (cF (tC (V.str (Str.ofString ""))) bK)))) aU))) (ao 4))
  (aB (aK (bY (cF bK (gw (vy K) (bR (mU [none,!2] (cB K (gw nP (bR c7))) (ao 0) (aP (aL Cw aU (tC (V.str (Str.ofString ""))))) (bY (cF aU (fK bK aU)))))))) (ao 5))
  (Kl K)))
def Ae K(E:XK)(Eh:XK):=(aB (aK (cg (cE K) (bR (cg (ic K) (cF aU (tI 0))))) (ao 1))
  (aB (aK (cg (im K) (cF aU bK)) (ao 2))
  (aB (aK (fK c7 (tC (V.str (Str.ofString "")))) (ao 3))
  (Km K))))
theorem Ve(h:ia K vs H Q E):∃Eh,Ae K E Eh {nx:=λ_ H'=>Q .non H',rt:=Q} (start ["script","height","letters","filler","signs","font","known","house","whole","strips","handed","found","k","at","bad","big","way","told","due"] vs) H:=by
 let#[a,ns,rfl,#[F1,F2,R],hS,f7,q]:=h;show#[E0,?_];unfold Ae;symm;show#[a,ns,0,rfl,hS,?_];symm;show#[_,rfl,?_];have de:=Mm.Nq (Mm.cellAt ns 0);generalize Mm.wg (Mm.cellAt ns 0)=ht at de;symm;show#[a,ns,ht,rfl,hS,de,λd H1 kvs fs c0 s1 hd a3=>?_];walk_at "ns";symm;show#[d,_,rfl,a3.fil,?_];symm;show Ym (kvs:=jO kvs) a3.d (by unfold jO;rw[Qb];show Ð a3.l (by decide)) (λz=>match z.1 with|.inl _=>none|.inr s=>if s∈[tx [],fs]then none else !(.str s)) λod H2 b4 a8=>⟨λi z H' hz s' A B kA kB=>?_,λp2 H3 s3 fb=>?_⟩
 .obtain ⟨p,C,rfl⟩:=Zp.mp (Yf hz);symm;intro p3 fe;show O3 (.inl (ip aa)) rfl rfl ?_;change ∃k,_=V.bl k/\_;rw[show inV (kV (Sum.inr p.1,p.2.1).1) [V.str (Str.ofString ""),V.str fs]=decide (p.1∈[tx [],fs])from O4 p.1 [tx [],fs]];symm;show lJ (λc=>?_) λc=>?_;.symm;show kA _ _ (if_neg c) (aq fe _)
  .show kB _ (if_pos c) (aq fe _)
 have M:=a3.frz hd b4 a8;have eu:SqL K H2 a (ns.map V.int):=by
  rcases s1.seq hS with(h|⟨o,h⟩)|h;.show .inl (.inl (b4 _ _ (by intro m;rw[Zl.mp m,hd]at h;cases h) h))
  .show .inl (.inr #[o,b4 _ _ (by intro m;rw[Zl.mp m,hd]at h;cases h) h])
  .show .inr h
 clear a3 hS hd s1 b4 H1;have ef:(jO kvs).filterMap (λz=>match z.1 with|.inl _=>none|.inr s=>if s∈[tx [],fs]then none else !(V.str s))=((kvs.map (·.1)).filter λs=>decide (s∉[tx [],fs])).map V.str:=by clear M a8;unfold jO;induction kvs with
  |nil=>rfl|cons p r ih=>
   rw[È,Ĕ,È,Ğ];by_cases c:p.1∈[tx [],fs];.dsimp only;rw[if_pos c,if_neg (λz=>(show p.1∉[tx [],fs]from é z) c)];show ih
   .dsimp only;rw[if_neg c,if_pos (Õ c),È,ih]
 rw[ef];clear ef;have a9:∀s,s∈(kvs.map (·.1)).filter (λs=>decide (s∉[tx [],fs]))->s≠fs/\s≠tx []/\∃p∈kvs,p.1=s:=λs W=>by let#[m1,m2]:=ú.mp W;have m3:s∉[tx [],fs]:=é m2;let#[p,C,e]:=Zp.mp m1;show#[λz=>m3 (by rw[z];show Ì _ Ë),λz=>m3 (by rw[z];show Ë),p,C,e]
 have dt:0<↑((kvs.map (·.1)).filter λs=>decide (s∉[tx [],fs])):=by let#[p,C,n1,n2]:=M.m;show ļ (ú.mpr #[List.mem_map.mpr #[p,C,rfl],Õ (by simp[n1,n2])])
 have dn:↑((kvs.map (·.1)).filter λs=>decide (s∉[tx [],fs]))<=3:=by
  let#[v0,m0]:=M.o;have:=eV (xs:=tx []::fs::(kvs.map (·.1)).filter λs=>decide (s∉[tx [],fs])) (ys:=kvs.map (·.1)) (æ.mpr #[λm=>?_,æ.mpr #[λm=>?_,M.n.sublist Ś]]) λs W=>?_;.have h5:=M.l;rw[Qb]at this;simp only[ô]at this;rfl'
  .rcases Å.mp m with m|m;.show M.e m.symm
   .show (a9 _ m).2.1 rfl
  .show (a9 _ m).1 rfl
  .rcases Å.mp W with rfl|W;.show Zp.mpr #[_,M.f,rfl]
   .rcases Å.mp W with rfl|W;.show Zp.mpr #[_,m0,rfl]
    .show (ú.mp W).1
 have dq:((kvs.map (·.1)).filter λs=>decide (s∉[tx [],fs])).Nodup:=M.n.sublist Ś;generalize(kvs.map (·.1)).filter (λs=>decide (s∉[tx [],fs]))=sk at a9 dt dn dq⊢;have S3:=s3.new (o:=HO.lst (sk.map V.str)) fb;symm;show Bv (ip aa) dq () λr3 ss O fh fi=>?_;have S4:=S3.new (o:=HO.lst (ss.map V.str)) fi;have e4:upd (upd H3 p2 (HO.lst (sk.map V.str))) r3 (HO.lst (ss.map V.str)) r3=!(.lst (ss.map V.str)):=aa;generalize upd (upd H3 p2 (HO.lst (sk.map V.str))) r3 (HO.lst (ss.map V.str))=H4 at S4 e4⊢;clear fi S3 fb s3 H3;have fq:∀s∈ss,s≠fs/\s≠tx []/\∃p∈kvs,p.1=s:=λs W=>a9 s (O.mem_iff.mp W);have fv:0<↑ss:=by rw[O.length_eq];show dt
 have ft:↑ss<=3:=by rw[O.length_eq];show dn
 clear a9 dt dn dq O sk;have a5:=M.same S4;have ew:=S4.seq eu;clear M eu a8 S4 H2;symm;show rN (kvs:=kvs.map λp:Lw=>(p.1,p.2.1)) (by rw[Æ];show a5.d) (by rw[Qb];show Ñ a5.l (by decide)) λr5 nms O cv fk=>?_;rw[Æ]at O;have gc:↑nms<=5:=by rw[O.length_eq,Qb];show a5.l
 have S5:=aq (o:=HO.lst (nms.map V.str)) fk;have er:upd H4 r5 (HO.lst (nms.map V.str)) r5=!(.lst (nms.map V.str)):=aa;generalize upd H4 r5 (HO.lst (nms.map V.str))=H5 at S5 er⊢;have I:=a5.same S5;have av:=S5.seq ew;have e5:=S5.get e4;clear a5 ew e4 S5 fk;symm;show qH V.str (zs:=nms) (ip er) () (λk ys H'=>(Ex1 λ(zs:ϊ Lz)=>(An5 (ys=zs.map (λz:Lz=>V.ref z.1)) (↑zs<=k) (Same H5 H') (zs.map (·.2.1)=(nms.take k).filter (λs=>decide (s≠tx []))) (∀z∈zs,H' z.1=!(.tup [.str z.2.1,.ref z.2.2.1])/\H' z.2.2.1=!(.tup (nv z.2.2.2))/\z.2.1≠tx []/\(z.2.1,V.ref z.2.2.1,z.2.2.2)∈kvs)))) #[[],rfl,á _,ix _,rfl,by simp] ?_ ?_ ?_ ?_;.rintro k ys H' ⟨zs,rfl,_,s',_⟩;show ip (s'.get er)
 .rintro k ys H' ⟨zs,rfl,h,_⟩;rw[Qb];show h
 .rintro k nm ys H' e7 ⟨zs,rfl,fw,s',af,hz⟩;have et:nms.take (k+1)=nms.take k++[nm]:=by rw[Ò,e7];rfl
  let#[p,C,e1]:=Zp.mp (O.mem_iff.mp (Yf e7));replace e1:p.1=nm:=e1;subst e1;symm;show lJ (λc=>?_) λc=>?_
  .replace c:p.1≠tx []:=c;let#[k1,k2,k3,t,eg,k4]:=(I.same s').k p C c;symm;have hg:=DGet.r (k:=Sum.inr p.1) (I.same s').d;rw[oh I.n C,eg]at hg;show#[d,.ref t,rfl,hg,?_];symm;intro u hu;show#[zs++[(u,p.1,t,p.2.2)],by simp,by rw[Â,Þ];rfl',s'.new hu,?_,λz m=>?_];.rw [Wp,af,et,ź,Ğ,if_pos (Õ c)];rfl
   .rcases Ã.mp m with m|m;.obtain ⟨j1,j2,j3⟩:=hz z m;show#[aA hu j1,aA hu j2,j3]
    .rw [Zl.mp m];show#[aa,aA hu k4,c,by rw[<-eg];show C]
  .show #[zs,rfl,(),s',?_,hz];rw[af,et,ź,Ğ,if_neg (λz=>(show p.1≠tx []from é z) c)];simp
 rintro ys H6 ⟨zs,rfl,fw,s6,af,hz⟩ p6 ah;rw[ç]at af;symm;show Io (ip aa) λl ob ge hl=>?_;symm;intro f hf;have T6:=((s6.new (o:=HO.lst (zs.map λz:Lz=>V.ref z.1)) ah).new (o:=HO.frz ob (.tup (zs.map λz:Lz=>V.ref z.1))) hl).new (o:=HO.tup [V.int (ht:Int),V.ref l]) hf;have U6:=((aq (o:=HO.lst (zs.map λz:Lz=>V.ref z.1)) ah).new (o:=HO.frz ob (.tup (zs.map λz:Lz=>V.ref z.1))) hl).new (o:=HO.tup [V.int (ht:Int),V.ref l]) hf;have hF:FnF K (upd (upd (upd H6 p6 (HO.lst (zs.map λz:Lz=>V.ref z.1))) l (HO.frz ob (.tup (zs.map λz:Lz=>V.ref z.1)))) f (HO.tup [V.int (ht:Int),V.ref l])) f ht (zs.map λz:Lz=>(z.2.1,z.2.2.2)):=#[l,ob,zs,aa,rfl,ge,aA hf aa,λz m=>#[U6.get (hz z m).1,U6.get (hz z m).2.1]];have aw:∀z∈zs,z.2.1≠tx []/\(z.2.1,V.ref z.2.2.1,z.2.2.2)∈kvs:=λz m=>(hz z m).2.2;have b2:∀z∈zs,GoodL H5 ht (z.2.1,V.ref z.2.2.1,z.2.2.2):=λz m=>I.k _ (aw z m).2 (aw z m).1;have dy:∀s,s≠tx []->(∃p∈kvs,p.1=s)->s∈zs.map (·.2.1):=λs n ⟨p,C,e⟩=>by rw[af];show ú.mpr #[O.mem_iff.mpr (Zp.mpr #[p,C,e]),Õ n]
 have wf:Fo.Wf ht (zs.map λz:Lz=>(z.2.1,z.2.2.2)):=by
  show#[?_,by rw[Qb];rfl',?_,?_,?_,?_];.obtain ⟨p,C,n1,_⟩:=I.m;have:=ļ (dy p.1 n1 #[p,C,rfl]);rw[Qb]at this⊢;show this
  .rw [Æ,show((λp:ϐ×ϊ Nat=>p.1)∘λz:Lz=>(z.2.1,z.2.2.2))=λz:Lz=>z.2.1 from rfl,af];show cv.sublist Ś
  .intro p m;let#[z,J,rfl]:=Zp.mp m;show(b2 z J).1
  .intro p m;let#[z,J,rfl]:=Zp.mp m;have:=(b2 z J).2.1;show#[this.1,Ð this.2 (by decide)]
  .intro p m;let#[z,J,rfl]:=Zp.mp m;show(b2 z J).2.2.1
 have uni:∀{s:ϐ}{v v':V}{c c':ϊ Nat},(s,v,c)∈kvs->(s,v',c')∈kvs->c=c':=λ{s v v' c c'} h1 h2=>by
  have:=Cj (x:=(s,v,c)) (y:=(s,v',c')) rfl I.n h1 h2;cases this;rfl
 have hk:V7 kvs (zs.map λz:Lz=>(z.2.1,z.2.2.2)):=λs co=>by
  constructor;.intro e;let#[z,J,ez]:=Zp.mp (Fo.bZ e);cases ez;show#[(aw z J).1,_,(aw z J).2]
  .rintro ⟨n,v,mv⟩;let#[gv,ee]:=Fo.yz (ls:=zs.map λz:Lz=>(z.2.1,z.2.2.2)) (s:=s) (by rw[Æ];show dy s n #[_,mv,rfl]);let#[z,J,ez]:=Zp.mp (Fo.bZ ee);have h2:=(aw z J).2;cases ez;rw[ee,uni mv h2]
 have e6:↑(zs.map λz:Lz=>(z.2.1,z.2.2.2))<=5:=by rw[Qb];rfl'
 generalize(zs.map λz:Lz=>(z.2.1,z.2.2.2))=ls at hF wf hk e6;replace I:=I.same T6;replace av:=T6.seq av;replace e5:=T6.get e5;generalize upd (upd (upd H6 p6 (HO.lst (zs.map λz:Lz=>V.ref z.1))) l (HO.frz ob (.tup (zs.map λz:Lz=>V.ref z.1)))) f (HO.tup [V.int (ht:Int),V.ref l])=H7 at hF I av e5⊢;clear T6 U6 hz aw b2 dy uni af fw s6 ah hl hf er O cv gc zs nms H6 H5;have bq:Fo.lk ls fs=![c0]:=by let#[v0,m0]:=I.o;show(hk fs [c0]).mpr #[I.e,v0,m0]
 have b1:∀s∈ss,s≠fs/\∃co,Fo.lk ls s=!co:=λs W=>by let#[n1,n2,p,C,e]:=fq s W;show#[n1,p.2.2,(hk _ _).mpr #[n2,p.2.1,by rw[<-e];show C]]
 walk_at "ns";symm;show#[a,ns,1,rfl,av,?_];symm;show#[_,d,r3,ht,kvs,fs,c0,ls,ss,rfl,I,hk,wf.le,e5,fh,fv,(),λs W=>#[wf.sg _ (Fo.bZ (b1 s W).2.choose_spec),(b1 s W).2],λr8 H8 sh s8 e8 cw fn cy be=>?_];walk_at "ns";have em:=I.same s8;have dg:=s8.seq av;have ei:=hF.same s8;have db:=s8.get e5;clear I av hF e5 s8 fq H7;symm;show#[a,ns,4,rfl,dg,?_];symm;show bJ (ip db) ?_;rw[Qb];symm;show#[_,r8,↑ss,sh,rfl,ft,ip e8,cw,cy,λs W=>(be s W).1,λha H9 ds es s9 hH gd g0 dk=>?_];have eo:=em.same s9;have e0:=s9.seq dg;have ej:=ei.same s9;have ed:=s9.get db;clear em dg ei e8 db s9 H8;have e9:∀ps∈ds,Hs.dr ps fs=none:=λps b3=>uw.mpr λm=>by
  let#[z,J,ez]:=Zp.mp m;have h1:=dk ps b3 z J;rw[show z.1=fs from ez]at h1;rcases(be fs h1).2with h2|h2;.show (b1 fs h2).1 rfl
  .show Option.some_ne_none _ (bq.symm.trans h2)
 have ga:∀ps∈ds,↑ps<=10:=λps b3=>by
  have:=eV (xs:=ps.map (·.1)) (ys:=sh) (zu (gd.sr ps b3)) λs W=>by let#[z,J,rfl]:=Zp.mp W;show dk ps b3 z J
  rw[Qb]at this;rfl'
 have am:BX ls ds (.str fs) c0:=#[fs,rfl,bq,e9,()];clear dk be cy fn cw fh;let#[c,hc]:∃c,fs=tx [c]:=by let#[n,en]:=wf.sg _ (Fo.bZ bq);show#[_,en]
 subst hc;have fm:Hs.Sg (tx [c]):=wf.sg _ (Fo.bZ bq);walk_at "ns";symm;show#[ha,tx [c],ds,es,rfl,hH,gd,(),fm,e9,λwh d5 Y ad hW bg=>?_];have a4:=eo.same ad;have a6:=ad.seq e0;have ca:=ej.same ad;have cc:=hH.same ad;have b5:=ad.get ed;clear eo e0 ej hH ed ad H9;walk_at "ns";symm;show#[a,d,ns,ht,kvs,tx [c],c0,ls,rfl,a6,f7,a4,hk,de,λst c2 zs U bp hz gg g3=>?_];have cf:=a4.same U;have ci:=U.seq a6;have cb:=ca.same U;have ce:=cc.same U;have cn:=hW.same U;have b6:=U.get b5;clear a4 a6 ca cc b5 U hW d5;walk_at "ns";symm;show qH (λz:ό×ϊ Nat=>V.ref z.1) (zs:=zs) (ip bp) () (λi ys H'=>(An2 (Same c2 H') (Ex1 λ(P:Ϸ)=>(An3 (ys=P.map (λz=>V.ref z.1)) (P.map (·.2)=(zs.take i).map (·.2)) (∀z∈P,H' z.1=!(.lst (nv z.2))))))) #[ix _,[],rfl,rfl,by simp] ?_ ?_ ?_ ?_;.rintro i ys H' ⟨s',_⟩;show ip (s'.get bp)
 .rintro i ys H' ⟨_,P,rfl,e,_⟩;have:=Ô List.length e;rw[Qb,Qb,Ú]at this;rw[Qb];rfl'
 .rintro i z ys H' hi ⟨s',P,rfl,e,hh⟩;symm;show HX (ip (s'.get (hz z (Yf hi)).1)) λl hl=>?_;show#[s'.new hl,P++[(l,z.2)],by rw[Wp];rfl,by rw[Wp,e,Ò,hi,Wp];rfl,λx mx=>?_];rcases Ã.mp mx with mx|mx;.show aA hl (hh x mx)
  .rw [Zl.mp mx];show aa
 rintro ys bk ⟨f1,P,rfl,as,hh⟩ hd dl;rw[ç]at as;have g1:↑P=↑zs:=by have:=Ô List.length as;rw[Qb,Qb]at this;show this
 have w:=f1.new (o:=HO.lst (P.map λz=>V.ref z.1)) dl;have ar:upd bk hd (HO.lst (P.map λz=>V.ref z.1)) hd=!(.lst (P.map λz=>V.ref z.1)):=aa;replace hh:∀z∈P,upd bk hd (HO.lst (P.map λz=>V.ref z.1)) z.1=!(.lst (nv z.2)):=λz J=>aA dl (hh z J);generalize upd bk hd (HO.lst (P.map λz=>V.ref z.1))=H13 at w ar hh⊢;have el:=cf.same w;have cm:=w.seq ci;have F:=cb.same w;have G:=ce.same w;have cp:=cn.same w;have b9:=w.get b6;have Z:=w.get bp;have cz:∀z∈zs,H13 z.1=!(.lst (nv z.2))/\↑z.2<=20:=λz J=>#[w.get (hz z J).1,(hz z J).2];have e3:∀z∈P,↑z.2<=20:=λz J=>by
  have:z.2∈zs.map (·.2):=by rw[<-as];show Zp.mpr #[z,J,rfl]
  let#[y,my,ey]:=Zp.mp this;rw[<-ey];show(hz y my).2
 clear cf ci cb ce cn b6 bp hz w f1 dl bk c2;have ap:∀{H':Hp},Same H13 H'->Dp K H' (.ref hd) (.list ((zs.map (·.2)).map λxs=>.list ((xs.map λi:Nat=>(i:Int)).map PyData.int)))/\Dp K H' (.ref st) (.list ((zs.map (·.2)).map λxs=>.list ((xs.map λi:Nat=>(i:Int)).map PyData.int))):=λs=>by show#[?_,LL.dp (ip (s.get Z)) λr mr=>s.get (cz r mr).1];rw[<-as];show LL.dp (ip (s.get ar)) λr mr=>s.get (hh r mr)
 have bi:∀{H':Hp},Thing H' (.str (tx [c])):=Jw fm;have br:∀{H':Hp},Same H13 H'->∀z∈P,SqL K H' z.1 (nv z.2)/\↑z.2<=1000:=λs z J=>#[ip (s.get (hh z J)),Ð (e3 z J) (by decide)];have g6:∀{c1:Nat},BX ls ds (.str (tx [c])) c1->True:=λ_=>trivial;have ok:=bg.ok ga λps C p m=>(gd.sg ps C p m).2;have g2:=bg.1;have r1:=gd.r1;walk_at "ns";symm;show#[f,ha,hd,ht,ls,ds,es,.str (tx [c]),P,rfl,F1,F2,bi,F,wf,G.g,gd,ip ar,(),br (ix _),λc' c1 ec hf da ax fo f4 us ai a1 hq=>?_,λz=>absurd am (z c0)];cases(iY.mp (V.str.inj ec));cases ax.uni bg;rw[as]at hq;let#[d3,hq]:=hq;rw[Qb]at d3;have cx:∀xs t,zJ ls xs Y (es++[(↑ds:Int)])=!t->∀s∈t.1.map (·.1),Hs.Sg s:=λxs=>JF wf;walk_at "ns";symm;show eF (.lst a1) (b:=true) rfl ?_;symm;show bJ (ip a1) ?_;symm;show bJ (ip (ai.get Z)) ?_;rw[Qb,d3];symm;show rNeD.same (ap ai).1 (ap ai).2 (Iw _) (by decide) ?_;symm;show bJ (ip (ai.get Z)) ?_;rw[Qb];have d4:∀i,i<↑zs->∃u y,us[i]?=!u/\P[i]?=!y/\(zs.map (·.2))[i]?=!y.2:=λi hi=>by show#[us[i],P[i],Zs (),Zs (),?_];rw[<-as,À,Zs ()];rfl
 have a8:1<=↑Y/\↑Y<=40:=#[(),()];show pR ↑zs () () () (λi σ H'=>(An2 (Same f4 H') (Ex1 λo=>σ=[!(V.ref a),!(V.int (ht:Nat)),!(V.ref d),!(V.str (tx [c])),!(V.ref r3),!(V.ref f),!(V.ref r8),!(V.ref ha),!(V.ref wh),!(V.ref st),!(V.ref hd),!(V.ref fo),o,none,none,none,none,none,none]))) #[ix _,none,rfl] ?_ ?_
 .rintro i σ H' hi ⟨s',o,rfl⟩;let#[u,y,hu,_,hy]:=d4 i hi;let#[z,ez,f6]:∃z,zs[i]?=!z/\z.2=y.2:=by rw[À]at hy;show Ï.mp hy
  have s2:=ai.trans s';symm;show cH (ip (s'.get a1)) (aM (j:=i) (v:=u) hu) ?_;symm;show cH (ip (s2.get Z)) (aM (j:=i) (v:=.ref z.1) (by rw[À,ez];rfl)) ?_;have fy:=cz z (Yf ez);symm;show#[f,wh,z.1,ht,ls,Y,_,z.2,c,rfl,F.same s2,wf,cp.same s2,a8,λps C=>Ð (ok ps C).1 (by decide),λps C=>(ok ps C).2,ip (s2.get fy.1),Ð fy.2 (by decide),λv f5 al hv=>?_];symm;show#[u,v,c,_,rfl,(hq i u y.2 hu hy).same (s'.trans al),by rw[<-f6];show hv,cx y.2,?_];symm;show#[s'.trans al,_,rfl]
 rintro σ f5 ⟨al,o,rfl⟩;have D:=ai.trans al;symm;show#[a,ns,5,rfl,D.seq cm,?_];symm;show bJ (ip (D.get Z)) ?_;rw[Qb];let#[k,ek,f8]:=Mm.fQ (Mm.cellAt ns 5/11) ↑zs gg;symm;rw[ek];let#[u,y,hu,ey,hy]:=d4 k f8;symm;show cH (ip (D.get ar)) (aM (j:=k) (v:=.ref y.1) (by rw[À,ey];rfl)) ?_;symm;intro gn ct;have c8:=aq (o:=HO.lst [V.ref y.1]) ct;have X:=D.trans c8;symm;show#[f,ha,gn,ht,ls,ds,es,.str (tx [c]),[y],rfl,F1,F2,bi,F.same X,wf,(G.same X).g,gd,ip aa,by simp,λz J=>br X z (by rw[Zl.mp J];show Yf ey),λc' c1 ec hf da ax gx c3 gr ay eb d0=>?_,λz=>absurd am (z c0)];cases(iY.mp (V.str.inj ec));cases ax.uni bg;let#[u2,rfl]:∃u2,gr=[u2]:=List.length_eq_one_iff.mp d0.1;have b0:=d0.2 0 u2 y.2 rfl rfl;have bo:=c8.trans ay;symm;show cH (ip (bo.get (al.get a1))) (aM (j:=k) (v:=u) hu) ?_;symm;intro gp ac;show rNeD.same (d:=.list [Yj c (zJ ls y.2 Y (es++[(↑ds:Int)]))]) (.lst (ip (aA ac eb)) (.cons (b0.same (aq ac _)).dp .nil)) (.lst (ip aa) (.cons ((hq k u y.2 hu hy).same ((al.trans bo).new ac)).dp .nil)) (lN λx hx=>by rw[Zl.mp hx];show PX (cx y.2)) (by decide) ?_;have ae:=(D.trans bo).new (o:=HO.lst [u]) ac;generalize upd c3 gp (HO.lst [u])=H18 at ae⊢;clear hq d0 b0 eb ac ay bo c8 X ct a1 al ai D hu ey hy d4 d3;symm;show#[a,ns,5,rfl,ae.seq cm,?_];symm;show#[_,d,r3,ha,ht,kvs,tx [c],c0,ls,ds,es,ss,rfl,el.same ae,hk,wf,G.same ae,gd,ip (ae.get b9),(),λs W=>(b1 s W).2,λc9 c4 f3 ag a7=>?_];have c6:=ae.trans f3;clear ae f3 H18;walk_at "ns";let#[d1,d2,T,h1,dc,a2,h4,h5]:=id (G.same c6);have fl:↑T=↑ds:=by rw[<-dc,Qb]
 symm;show dC h1 ?_;symm;intro p4 ff;symm;intro p5 dz;have S5:=(aq (o:=HO.tup []) ff).new (o:=HO.tup [V.ref p4]) dz;have g4:upd (upd c4 p4 (HO.tup [])) p5 (HO.tup [V.ref p4]) p4=!(.tup []):=aA dz aa;have g5:upd (upd c4 p4 (HO.tup [])) p5 (HO.tup [V.ref p4]) p5=!(.tup [V.ref p4]):=aa;generalize upd (upd c4 p4 (HO.tup [])) p5 (HO.tup [V.ref p4])=H5 at S5 g4 g5⊢;clear ff dz;symm;show dC (S5.get h1) ?_;symm;show bQ (S5.tup a2) ?_;rw[Qb];symm;have ek:((40:Int)-(↑T:Int)).toNat=40-↑T:=();show#[p5,_,_,rfl,rfl,iq g5,by simp,(),(),?_,λp6 ah=>?_];.rw [ek];show Ð (show 1*(40-↑T)<=40 by rfl') (by decide)
 rw[ek,List.flatten_replicate_singleton];symm;show#[d1,p6,_,_,rfl,rfl,(aq ah _).tup (S5.tup a2),iq aa,?_,?_,λz=>?_,λ_ p7 fg=>?_];.intro z;rw[ς]at z;rw[z]at fl;simp at fl;rfl'
 .rw [Qb,å];show Ð (show↑T+(40-↑T)<=40 by rfl') (by decide)
 .have:=Ô List.length z;rw[å]at this;simp at this;rfl'
 have T7:=(aq (o:=HO.tup (List.replicate (40-↑T) (V.ref p4))) ah).new (o:=HO.tup (T.map (λr=>V.ref r.1)++List.replicate (40-↑T) (V.ref p4))) fg;have g7:upd (upd H5 p6 (HO.tup (List.replicate (40-↑T) (V.ref p4)))) p7 (HO.tup (T.map (λr=>V.ref r.1)++List.replicate (40-↑T) (V.ref p4))) p7=!(.tup (T.map (λr=>V.ref r.1)++List.replicate (40-↑T) (V.ref p4))):=aa;have T5:=S5.trans T7;replace g4:=T7.get g4;generalize upd (upd H5 p6 (HO.tup (List.replicate (40-↑T) (V.ref p4)))) p7 (HO.tup (T.map (λr=>V.ref r.1)++List.replicate (40-↑T) (V.ref p4)))=H7 at T7 g7 T5 g4⊢;clear ah fg S5 g5;walk_at "ns";symm;show cX (T5.get h1) ?_;symm;intro p8 bv;have T8:=T5.new (o:=HO.tup [V.ref p7,V.ref d2]) bv;have df:HsG K (upd H7 p8 (HO.tup [V.ref p7,V.ref d2])) p8 (ds++List.replicate (40-↑T) []) es:=HsF.bigG dc (λr mr=>(h4 r mr).same T8) aa (aA bv g7) (aA bv g4) (T8.get h5);have eh:GoodH (ds++List.replicate (40-↑T) []) es:=gd.big ();have f0:∀c1,¬BX ls (ds++List.replicate (40-↑T) []) (.str (tx [c])) c1:=λc1 ⟨_,_,_,_,h⟩=>by rw[Â,å]at h;rfl'
 generalize upd H7 p8 (HO.tup [V.ref p7,V.ref d2])=H8 at T8 df⊢;have S8:=c6.trans T8;replace ag:=ag.same T8;clear T5 T7 g7 g4 bv T8 h1 a2 h4 h5 c6;symm;show pR 2 rfl (by decide) (by decide) (λi σ H'=>(An2 (Same H8 H') (Ex1 λo2=>σ=[!(V.ref a),!(V.int (ht:Nat)),!(V.ref d),!(V.str (tx [c])),!(V.ref r3),!(V.ref f),!(V.ref r8),!(V.ref ha),!(V.ref wh),!(V.ref st),!(V.ref hd),!(V.ref fo),o,!(V.int (k:Nat)),!c9,!(V.ref p8),o2,none,none]))) #[ix _,none,rfl] ?_ ?_;.rintro i σ H' hi ⟨s',o2,rfl⟩;have s2:=S8.trans s';symm;show#[f,ha,hd,ht,ls,ds,es,c9,P,_,rfl,F1,F2,R,ag.same s',F.same s2,wf,(G.same s2).g,gd,ip (s2.get ar),(),br s2,a7,λH9 s9=>?_];have s3:=s2.trans s9;symm;show#[f,p8,hd,ht,ls,_,es,.str (tx [c]),P,_,rfl,F1,F2,R,bi,F.same s3,wf,df.same (s'.trans s9),eh,ip (s3.get ar),(),br s3,f0,λd5 ad=>?_];symm;show#[(s'.trans s9).trans ad,_,rfl]
 rintro σ H9 ⟨s9,o2,rfl⟩;have S9:=S8.trans s9;replace ag:=ag.same s9;clear df eh f0 s9 S8 H8;symm;intro gi bb;have bn:=S9.new (o:=HO.lst []) bb;symm;show#[f,ha,gi,ht,ls,ds,es,c9,[],_,rfl,F1,F2,R,ag.same (aq bb _),F.same bn,wf,(G.same bn).g,gd,ip aa,by simp,by simp,a7,λc2 U=>?_];have d8:=bn.trans U;symm;intro gj cr;have w:=d8.new (o:=HO.lst []) cr;symm;show#[f,ha,gj,ht,ls,ds,es,.str (tx [c]),[],rfl,F1,F2,bi,F.same w,wf,(G.same w).g,gd,ip aa,by simp,by simp,λc' c1 ec hf da ax gy d6 g8 f2 ea b0=>?_,λz=>absurd am (z c0)];cases Α.mp b0.1;symm;intro gk bd;have c5:=(w.trans f2).new (o:=HO.lst []) bd;show rNeD.same (d:=.list []) (.lst (ip (aA bd ea)) .nil) (.lst (ip aa) .nil) (lN (n:=0) λx hx=>by cases hx) (by decide) ?_;generalize upd d6 gk (HO.lst [])=H14' at c5⊢;clear bd cr bb ea f2 w d8 U bn S9 ag a7;symm;let#[d1,d2,T,h1,dc,a2,h4,h5]:=id (G.same c5);show dC h1 ?_;symm;show bQ a2 ?_;symm;intro gl fa;have D:=c5.new (o:=HO.lst [V.int 0,V.int 6,V.int 4,V.int 3]) fa;symm;show bJ (ip (D.get b9)) ?_;rw[Qb,Qb];symm;let#[v,ev]:∃v:Int,uP [V.int 0,V.int 6,V.int 4,V.int 3] ((↑ss:Nat):Int)=!(.int v):=by have:↑ss=1\/↑ss=2\/↑ss=3:=();rcases this with e|e|e<;>rw[e]<;>show#[_,rfl]
 show cH (ip aa) ev ?_;generalize upd H14' gl (HO.lst [V.int 0,V.int 6,V.int 4,V.int 3])=H15' at D⊢;symm;show dO (λ_=>?_) λ_=>?_;.symm;show rEqD.same (ap D).1 (ap D).2 (Iw _) (by decide) ?_;symm;show q _
 have sz:Wg ls Y:=#[(),(),λps C=>#[Nat.le_trans (ok ps C).1 (by decide),(ok ps C).2],Ð (Nat.mul_le_mul (Nat.mul_le_mul (show↑Y<=10 by rfl') (show↑Y<=10 by rfl')) (ε 9 e6)) (by decide)];symm;show#[f,ha,ht,ls,ds,es,.str (tx [c]),rfl,F1,F2,bi,F.same D,wf,(G.same D).g,gd,λs c1 e hf da ax=>?_,λz=>absurd am (z c0)];cases e;cases ax.uni bg;show#[sz,λtv gu gq hm=>?_];have X:=D.trans gq;symm;show#[f,wh,ht,ls,Y,_,rfl,F.same X,wf,cp.same X,sz,λN S fz hN hS hn hD=>#[λno c3 ay=>?_,λc3 L ay ex mn=>?_]];.cases hm.uni #[N,S,fz,hN,hS,hn,hD,.inl #[rfl,no]];symm;rw[if_pos (by rw[Õ (rfl:V.non=V.non)];rfl)];symm;rw[Õ (rfl:V.non=V.non)];symm;show q _
 .cases hm.uni #[N,S,fz,hN,hS,hn,hD,.inr #[L,rfl,ex,mn]];symm;rw[if_neg (by rw[Ó (show¬V.int (((L:Int)-1)/2)=V.non fromλz=>by cases z)];decide)];walk_at "ns";symm;show#[_,rfl,?_];symm;show rEqD.same (ap (X.trans ay)).1 (ap (X.trans ay)).2 (Iw _) (by decide) ?_;symm;show q _
theorem Vf(h:ia K vs H Q E):↑vs=1:=by let#[_,_,rfl,_]:=h;rfl
end Pg
set_option Elab.async false
set_option linter.all false
set_option maxRecDepth 100000
namespace Pg
open PySem L2 PySem.W
set_option maxHeartbeats 0
variable{d:Nat}
theorem Vg:FnScope ["thing"] ["thing"] (au (top 17)):=by ac_rfl
theorem Vh:FnScope ["thing"] ["thing"] (au (top 18)):=by ac_rfl
theorem Ko:FnScope ["column","dots"] ["column"] (au (top 19)):=by ac_rfl
theorem Vi:FnScope ["one","other"] ["one","other"] (au (top 20)):=by ac_rfl
theorem Vj:FnScope ["one","other"] ["one","other"] (au (top 23)):=by ac_rfl
theorem Vk:FnScope ["one","other"] ["one","other"] (au (top 22)):=by ac_rfl
theorem Vl:FnScope ["letters","doors"] ["letters","doors"] (au (top 26)):=by ac_rfl
theorem Kp:FnScope ["font","house","letters"] ["font","house"] (au (top 25)):=by ac_rfl
theorem Vm:FnScope ["font","over","costs","sign","columns","wide"] ["font","over"] (au (top 30)):=by ac_rfl
theorem Yr:FnScope ["ways","texts","waiting","here","sign","columns","room"] ["ways"] (au (top 29)):=by ac_rfl
theorem Ys:FnScope ["way","ahead","over","wide"] ["way","ahead","over"] (au (top 31)):=by ac_rfl
theorem Vn:FnScope ["font","ways","costs","sign","columns","found","room","place","later","way","stand"] ["font","ways"] (au (top 28)):=by ac_rfl
theorem Vo:FnScope ["ways","costs","stand"] ["ways","costs","stand"] (au (top 32)):=by ac_rfl
theorem Kq:FnScope ["font","house","ways","costs","found","waiting","stand"] ["font","house"] (au (top 33)):=by ac_rfl
theorem Vp:FnScope ["onward","backward","stand","steps","sign","cost","later"] ["onward"] (au (top 37)):=by ac_rfl
theorem Vq:FnScope ["stand","ends"] ["stand","ends"] (au (top 38)):=by ac_rfl
theorem Vr:FnScope ["waiting","rest","backs","cost","earlier"] ["waiting","rest","backs"] (au (top 36)):=by ac_rfl
theorem Vs:FnScope ["onward","ends","backward","found","waiting","rest","reached","stand"] ["onward","ends"] (au (top 35)):=by ac_rfl
theorem Vt:FnScope ["texts","sign","passes","longer"] ["texts","sign","passes"] (au (top 41)):=by ac_rfl
theorem Yt:FnScope ["ways","fork","text","way","later"] ["ways","fork"] (au (top 40)):=by ac_rfl
theorem Vu:FnScope ["steps","found","rest","step"] ["steps","found","rest"] (au (top 43)):=by ac_rfl
theorem Vv:FnScope ["font","onward","found","stand","texts","letters","step"] ["font","onward","found","stand","texts"] (au (top 42)):=by ac_rfl
theorem Af:FnScope ["font","house","ways","onward","found","pairs","least","texts"] ["font","house"] (au (top 39)):=by ac_rfl
theorem Vw:FnScope ["font","house","told"] ["font","house"] (au (top 44)):=by ac_rfl
theorem Kr:FnScope ["font","sign","letter","columns"] ["font","sign"] (au (top 46)):=by ac_rfl
theorem Ks:FnScope ["rooms"] ["rooms"] (au (top 50)):=by ac_rfl
theorem Vx:FnScope ["room","rooms"] ["room","rooms"] (au (top 53)):=by ac_rfl
theorem Vy:FnScope ["pairs","rooms","made","sign","room"] ["pairs","rooms"] (au (top 51)):=by ac_rfl
theorem Vz:FnScope ["ends","rooms","made","end"] ["ends","rooms"] (au (top 52)):=by ac_rfl
theorem Ag:FnScope ["doors","ends","rooms"] ["doors","ends"] (au (top 49)):=by ac_rfl
theorem VB:FnScope ["doors","sign","letter","room"] ["doors","sign"] (au (top 54)):=by ac_rfl
theorem Ku:FnScope ["house","filler","pairs","last","doors","ends","end"] ["house","filler"] (au (top 56)):=by ac_rfl
theorem VD:FnScope ["font","strip","x","gaps","sign","columns","beneath"] ["font","strip","x"] (au (top 59)):=by ac_rfl
theorem Yu:FnScope ["way","gaps","paper","x","sign","behind"] ["way","gaps","paper","x"] (au (top 61)):=by ac_rfl
theorem VF:FnScope ["one","other"] ["one","other"] (au (top 62)):=by ac_rfl
theorem VG:FnScope ["leads","gaps","paper","x","thing","way"] ["leads","gaps","paper","x"] (au (top 60)):=by ac_rfl
theorem uC:FnScope ["font","house","strip","ways","paper","x","gaps"] ["font","house","strip"] (au (top 58)):=by ac_rfl
theorem VH:FnScope ["leads","gaps","paper","x","far","way","thing"] ["leads","gaps","paper","x","far"] (au (top 65)):=by ac_rfl
theorem Kv:FnScope ["font","house","strip","paper","ways","signs","room","x","way"] ["font","house","strip","paper"] (au (top 64)):=by ac_rfl
theorem VJ:FnScope ["font","house","strip","paper","thing"] ["font","house","strip"] (au (top 63)):=by ac_rfl
theorem Q3:FnScope ["font","filler"] ["font","filler"] (au (top 68)):=by ac_rfl
theorem Kw:FnScope ["font","house","filler"] ["font","house","filler"] (au (top 67)):=by ac_rfl
theorem VL:FnScope ["font","house","filler","strip","told"] ["font","house","filler","strip"] (au (top 70)):=by ac_rfl
theorem Ah:FnScope ["font","house","filler","strips","house_of_rows"] ["font","house","filler","strips"] (au (top 69)):=by ac_rfl
theorem Ky:FnScope ["font","house","filler"] ["font","house","filler"] (au (top 71)):=by ac_rfl
theorem Yv:FnScope ["script","k"] ["script","k"] (au (top 73)):=by ac_rfl
theorem VM:FnScope ["found"] ["found"] (au (top 74)):=by ac_rfl
theorem KC:FnScope ["some"] [] (au (top 75)):=by ac_rfl
theorem VN:FnScope ["cell"] ["cell"] (au (top 76)):=by ac_rfl
theorem Yw:FnScope ["cell","many","height","found","k","number"] ["cell","many","height"] (au (top 77)):=by ac_rfl
theorem Yx:FnScope ["script","height","menu","cell","many","at","letters","k","number"] ["script","height"] (au (top 78)):=by ac_rfl
theorem Q4:FnScope ["cell","letters","known","lacked"] ["cell","letters","known"] (au (top 79)):=by ac_rfl
theorem KD:FnScope ["cell","signs","few","many","doors","room","found","k","number","ends"] ["cell","signs","few"] (au (top 80)):=by ac_rfl
theorem VP:FnScope ["house","filler","last","doors","room","found"] ["house","filler"] (au (top 81)):=by ac_rfl
theorem KH:FnScope ["script","letters","height","some","strips","cell"] ["script","letters","height"] (au (top 82)):=by ac_rfl
theorem VR:FnScope ["font","house","filler","strip","told","text"] ["font","house","filler","strip"] (au (top 83)):=by ac_rfl
theorem W3:FnScope ["found","due"] ["found","due"] (au (top 84)):=by ac_rfl
theorem KJ:FnScope ["font","house","filler","strips","way","kinds","e"] ["font","house","filler","strips","way"] (au (top 85)):=by ac_rfl
theorem wH:FnScope ["cell","letters","signs","house","lacked","filler","some","pairs"] ["cell","letters","signs","house"] (au (top 86)):=by ac_rfl
theorem qp:FnScope ["script","height","letters","filler","signs","font","known","house","whole","strips","handed","found","k","at","bad","big","way","told","due"] ["script"] (au (top 87)):=by ac_rfl
inductive DI(K:Frag)(n:ϐ)(st:Stmt)(dv:ϋ):Prop|mk {f:ό} {oc kV dc pm cd ct:ϋ} {od an:ύ ό} {sl:ϔ (ύ ϋ)} (a:nsIn K mainGlobals n=!(!(.ref f))) (l:K.lookup f=!#[oc,od,.func (fnOf n n (fM st) (dG st) (au st) dv kV dc pm an cd ct),sl]) (q:codeIn K cd n=true) (k:keepIn K (.ref f)=true):DI K n st dv
noncomputable def dvO:ύ ό->ϋ
 |none=>.none|some t=>.ref t
theorem jw{i:Nat}(h:W5 K n=W6 t n i):DI K n (top i) (dvO t):=by
 unfold W5 W6 at h;split at h
 .rename_i f v;split at h
  .rename_i c H d I w;let#[t',b,e]:=Ï.mp h;simp only[Prod.mk.injEq]at e;let#[rfl,l,m,o,p,q,r,s,u,j,a]:=e;let#[F,G,dp,B,ds,D,C,dd,E,k,A,x,g,z,y]:=d;dsimp only at l m o p q r s u j b;subst l m o p q r s u;split at b;.cases b;show .mk v w j a
   .cases b;show .mk v w j a
   .cases b
  .cases h
 .cases h
theorem cT(h:Zw K C=wJ):ExcK K C:=by simp only[Zw,wJ,Prod.mk.injEq,List.cons.injEq,and_true]at h;let#[a,#[b,c,d,e],f,g,i]:=h;show#[a,b,c,d,e,f,g,i]
theorem dF{a d:Type}{f:a->d}{l:ϊ a}{r:ϊ d}(h:l.map f=r)(i:Nat){b:a}{c:d}(g:l[i]?=!b)(e:r[i]?=!c):f b=c:=by rw[<-h,À,g]at e;show Ù e
theorem ck(X:K.In h)(G:h.Ns mainGlobals mg)(D:DI K n st .none)(b:∀(kV e g:ϋ)(an:ύ ό)(c ct:ϋ)(us:ϊ ϋ),↑us=↑ps->bindArgs (fnOf n n (fM st) (dG st) (au st) .none kV e g an c ct) #[us,[]]=pure (ps.zip us))(o:∀f fd,Fun K n n st f fd->FnOk P w K mg base Pb d f fd ps sp):Cal P w K mg base d n ps sp:=by let#[a,l,q,k]:=D;show#[_,_,o _ _ (oW l q k),(oW l q k).binds b,k,mg_of X G a]
theorem Q5(X:K.In h)(G:h.Ns mainGlobals mg)(D:DI K n st .none)(b:∀(kV e g:ϋ)(an:ύ ό)(c ct:ϋ)(us:ϊ ϋ),↑us=↑ps->bindArgs (fnOf n n (fM st) (dG st) (au st) .none kV e g an c ct) #[us,[]]=pure (ps.zip us))(o:∀f fd,Fun K n n st f fd->FnOk P w K mg base (m5 P w) d f fd ps sp):CalX P w K mg base d n ps sp:=by let#[a,l,q,k]:=D;show#[_,_,o _ _ (oW l q k),(oW l q k).binds b,k,mg_of X G a]
theorem cq(h:CalX P w K mg base d n ps sp):Cal P w K mg base d n ps (λvs H Q _=>sp vs H Q E0):=by let#[_,_,o,b]:=h;show#[_,_,o.quiet,b]
section
abbrev v0{X:Cx}:=@pv X 0
abbrev v1{X:Cx}:=@pv X 1
abbrev v2{X:Cx}:=@pv X 2
abbrev v3{X:Cx}:=@pv X 3
abbrev v4{X:Cx}:=@pv X 4
abbrev v5{X:Cx}:=@pv X 5
abbrev v6{X:Cx}:=@pv X 6
abbrev v7{X:Cx}:=@pv X 7
abbrev v8{X:Cx}:=@pv X 8
abbrev v9{X:Cx}:=@pv X 9
abbrev Q6{X:Cx}:=@pv X 10
abbrev Zu{X:Cx}:=@pv X 11
abbrev v12{X:Cx}:=@pv X 12
abbrev v13{X:Cx}:=@pv X 13
abbrev v14{X:Cx}:=@pv X 14
abbrev v15{X:Cx}:=@pv X 15
abbrev v16{X:Cx}:=@pv X 16
abbrev Zv{X:Cx}:=@pv X 17
abbrev v18{X:Cx}:=@pv X 18
set_option hygiene false
local macro_rules | `(#[$a]) => `(cU $a bO) | `(#[$a, $b,*]) => `(cU $a #[$b,*])
local macro_rules | `(($a, $b)) => `(uI $a (az $b)) | `(($a, $b, $c,*)) => `(uI $a ($b, $c,*))
local macro_rules | `($a + $b) => `(oR (Mg K rfl) $a $b (λ _ _ => rfl))
local macro_rules | `($a - $b) => `(oR (vd K rfl) $a $b (λ _ _ => rfl))
local macro_rules | `($a < $b) => `(uO $a rfl (by assumption) (by decide +kernel) $b)
local macro_rules | `($a > $b) => `(gf ($a X G e2 z_isinstance z_bool z_int z_len z_str z_ord z_sum z_zip z_dict z_min z_enumerate z_max z_list z_tuple z_sorted z_range z_ValueError g_LEFT_OUT g_MOST_ROOMS k_BlotError k_NotAlike k_OffStrip k_NoSheet k_NoFont k_NoSign k_NoHouse k_NoWords k_TooWide k_NoFiller k_NotTaken k_NoRow k_NoName k_NoNote) hr (by decide) rfl $b)
local macro_rules | `($a && $b) => `(fB (i := $a) nd rfl (Or.inl rfl) $b)
local macro_rules | `(↑$a) => `(rT (i := $a) nd rfl (Or.inl rfl))
local macro_rules | `($a :: $b :: $c) => `(rY ĸ rfl $a $b $c)
local macro_rules | `($a ++ $b) => `(lZ K rfl ĵ PySem.F.slot_list_append PySem.F.type_list_append CT $a $b)
local macro_rules | `($a ^ $b ^ $c ^ $d) => `(Cal pWo w K mg base $a $b $c ($d K))
local macro_rules | `($a / $b / $c / $d / $e / $f / $g / $h) => `(Wy $a $b rfl $c (show CScope (au (top $d)) _ from ⟨rfl, by decide +kernel, by decide +kernel, by decide +kernel⟩) (show capOk $a $b ($e : List Str) _ = true from by decide +kernel) (λ _ _ _ _ _ _ => $f) (λ _ _ _ _ _ _ => $g) (λ _ _ _ _ _ _ => $h)) | `($a / $b / $c / $d / $e / $f) => `(ck (st := top $b) X G (jw (dF e2 $a rfl rfl)) (by first | exact λ _ _ _ _ _ _ => ar1 λ _ => rfl | exact λ _ _ _ _ _ _ => ar2 λ _ _ => rfl | exact λ _ _ _ _ _ _ => ar3 λ _ _ _ => rfl | exact λ _ _ _ _ _ _ => ar4 λ _ _ _ _ => rfl | exact λ _ _ _ _ _ _ => ar5 λ _ _ _ _ _ => rfl) λ _ _ F => F.ok $c (λ _ _ _ _ h => by cases h; subst_vars; rfl) λ cdv A outer s H vs Q E hr h => by have nd := ($c).nd; obtain ⟨Eh, h⟩ := $d h; exact ⟨$e K E Eh, $f, h⟩) | `($a / $b) => `(rT (i := $a) (show List.Nodup ($b : List Str) by decide +kernel) rfl (Or.inl rfl))
section
variable {w:World} {K:Frag} {h:Heap} {mg:Str->Option Value} {base:Heap} (X:K.In h) (G:h.Ns mainGlobals mg) (e2:W7.map (λd=>W5 K d.1)=W7.map (λd=>W6 none d.1 d.2)) (z_isinstance:mg "isinstance"=none) (z_bool:mg "bool"=none) (z_int:mg "int"=none) (z_len:mg "len"=none) (z_str:mg "str"=none) (z_ord:mg "ord"=none) (z_sum:mg "sum"=none) (z_zip:mg "zip"=none) (z_dict:mg "dict"=none) (z_min:mg "min"=none) (z_enumerate:mg "enumerate"=none) (z_max:mg "max"=none) (z_list:mg "list"=none) (z_tuple:mg "tuple"=none) (z_sorted:mg "sorted"=none) (z_range:mg "range"=none) (z_ValueError:mg "ValueError"=none) {gv_LEFT_OUT:Value} (g_LEFT_OUT:mg "LEFT_OUT"=some gv_LEFT_OUT/\RelV (V.int 37) gv_LEFT_OUT) {gv_MOST_ROOMS:Value} (g_MOST_ROOMS:mg "MOST_ROOMS"=some gv_MOST_ROOMS/\RelV (V.int 40) gv_MOST_ROOMS) (k_BlotError:mg "BlotError"=some (.ref SN)/\ExcK K SN) (k_NotAlike:mg "NotAlike"=some (.ref q9)/\ExcK K q9) (k_OffStrip:mg "OffStrip"=some (.ref qd)/\ExcK K qd) (k_NoSheet:mg "NoSheet"=some (.ref J1)/\ExcK K J1) (k_NoFont:mg "NoFont"=some (.ref J2)/\ExcK K J2) (k_NoSign:mg "NoSign"=some (.ref mG)/\ExcK K mG) (k_NoHouse:mg "NoHouse"=some (.ref lO)/\ExcK K lO) (k_NoWords:mg "NoWords"=some (.ref J3)/\ExcK K J3) (k_TooWide:mg "TooWide"=some (.ref qg)/\ExcK K qg) (k_NoFiller:mg "NoFiller"=some (.ref nW)/\ExcK K nW) (k_NotTaken:mg "NotTaken"=some (.ref qi)/\ExcK K qi) (k_NoRow:mg "NoRow"=some (.ref J4)/\ExcK K J4) (k_NoName:mg "NoName"=some (.ref J5)/\ExcK K J5) (k_NoNote:mg "NoNote"=some (.ref J6)/\ExcK K J6)
include X G e2 z_isinstance z_bool z_int z_len z_str z_ord z_sum z_zip z_dict z_min z_enumerate z_max z_list z_tuple z_sorted z_range z_ValueError g_LEFT_OUT g_MOST_ROOMS k_BlotError k_NotAlike k_OffStrip k_NoSheet k_NoFont k_NoSign k_NoHouse k_NoWords k_TooWide k_NoFiller k_NotTaken k_NoRow k_NoName k_NoNote
theorem Yy:1^"is_whole"^["thing"]^fI:=0/17/Vg/SQ/yD/(az (aC (gK (bV K rfl<#[v0,fO (v:=.ty "int") (u:=.type "int") rfl z_int (by ac_nf) rfl]) (jQ (EY (bV K rfl<#[v0,fO (v:=.ty "bool") (u:=.type "bool") rfl z_bool (by ac_nf) rfl]))))))
theorem KN:1^"is_sign"^["thing"]^gL:=1/18/Vh/SX/yF/(aX (PW.pt (km (fu (bH K rfl (bV K rfl<#[v0,fO (v:=.ty "str") (u:=.type "str") rfl z_str (by ac_nf) rfl]) (λ_=>rfl))) (jP (aG jK (aD K rfl<#[v0]) aj (aH _))))) (az (aC gR)) aJ,aC (gK (Fp rn rn cC v0 cC) (jQ (cO jK (Fw<#[v0]) (cD rfl g_LEFT_OUT.1 g_LEFT_OUT.2) (aH _)))))
theorem Yz:1^"inked"^["column"]^g9:=2/19/Ko/T9/yG/(1&&aj,fY ĸ (aG kI v0 aj (aH _)) (0&&aF Qq v0 (aF lV v0 aj),Fe (i:=1) Ko.nd rfl (Or.inl rfl) aj Ff),aC v1)
theorem YB:2^"apart"^["one","other"]^hU:=3/20/Vi/Tc/yH/(az (aC (Yz>#[aF Qs v0 v1])))
theorem YC:1^"check_alike"^["one","other"]^aT:=4/23/Vj/Td/yI/(az (aX (aG jK (aD K rfl<#[v0]) (aD K rfl<#[v1]) (aH _)) (az jc) aJ))
theorem Q7:3^"gap"^["one","other"]^ib:=5/22/Vk/Te/yJ/(bf (YC>#[v0,v1]),aC (Dh K rfl rfl<#[[none,none]/["left","right"]/Nm K rfl rfl rfl z_zip #[v0,v1]/22/["one","other"]/cQ K rfl rfl (aQ (0/["left","right"]) (aQ (1/["left","right"]) cN))/d9/(YB>#[v0,v1])]))
theorem YD:1^"lettered"^["letters","doors"]^eS:=6/26/Vl/Tf/yK/(az (aC ([none,none,some 0]/["sign","room","letters"]/dJ K rfl v1/26/["letters","doors"]/cQ K rfl rfl (aQ (0/["sign","room","letters"]) (aQ (1/["sign","room","letters"]) cN))/dI (fW (xn (bB hr) v0 v2) (by with_unfolding_all rfl))/aV #[v0,cP (bB hr) v2 v0 (λ_ _=>rfl),v1])))
theorem Cm:2^"ways_of"^["font","house"]^fT:=7/25/Kp/Tg/yL/(fB (i:=2) Kp.nd rfl (Or.inr rfl) (bj (lB K rfl rfl) rfl z_dict (by ac_nf) #[v0+aj]),aC ([none,some 2]/["doors","letters"]/dJ K rfl (v1+aj)/25/["font","house","letters"]/(0/["doors","letters"])/d9/(YD>#[v1,v0])))
theorem Q8:4^"costs_over"^["font","over"]^dV:=8/30/Vm/Th/yN/(2&&gY,dJ K rfl (v0+aj)::cQ K rfl rfl (aQ ↑3 (aQ ↑4 cN))::(5&&Cy rfl<#[aD K rfl<#[v4],aD K rfl<#[v1]],eN (bB hr) v2 v3 (Q7>#[eZ (lE K rfl) v4 jx (eG v5),eZ (lE K rfl) v1 jx (eG v5)]) rfl),aC v2)
theorem YF:1^"texts_to_rooms"^["ways"]^eI:=9/29/Yr/Y5/J8/(1&&M5 (uX aj cC Ay) rfl rfl (by simp) (by decide),2&&bc #[aj],fY ĸ (aG kI (aD K rfl<#[v2]) aj (aH _)) (3&&lZ K rfl ĵ PySem.F.slot_list_pop PySem.F.type_list_pop G5 v2 #[aj],aY K rfl (v0-v3)::cQ K rfl rfl (aQ ↑4 (aQ ↑5 (aQ ↑6 cN)))::az (aX (fW (gW (bB hr) v6 v1) (by with_unfolding_all rfl)) (eN (bB hr) v1 v6 (aF fZ (cP (bB hr) v1 v3 (λ_ _=>rfl)) v4) rfl,bf (v2++#[v6])) aJ)),aC v1)
theorem YG:1^"stand_behind"^["way","ahead","over"]^ij:=10/31/Ys/Y6/Ja/(3&&aD K rfl<#[v0+aj],aX (aG Am v3 (aD K rfl<#[v2]) (aH _)) (az (aC (aV #[v0+aj,v1,eZ (lE K rfl) v2 (eG v3) jx]))) aJ,aC (aV #[v1,v0+aj,eZ (lE K rfl) (v0+aj) (eG (aD K rfl<#[v2])) jx]))
theorem Q9:5^"forks"^["font","ways"]^hI:=11/28/Vn/Tj/yO/(2&&gY,dJ K rfl (v0+aj)::cQ K rfl rfl (aQ ↑3 (aQ ↑4 cN))::az (eN (bB hr) v2 v3 (Q8>#[v0,v4]) rfl),5&&bc bO,vG (YF>#[v1])::↑6::az (Gx K rfl rfl rfl z_enumerate #[v1-v6]::cQ K rfl rfl (aQ ↑7 (aQ ↑8 cN))::az (aY K rfl (eZ (ph K rfl) (v1-v6) jx (eG v7))::↑9::(10&&YG>#[v9,v8+aj,v8+aj],bf (v5++#[aV #[cP (bB hr) (cP (bB hr) v2 (v8+aj) (λ_ _=>rfl)) (v9+aj) (λ_ _=>rfl),Q6,v6,v9,v8]])))),aC v5)
theorem YH:2^"steps_by"^["ways","costs","stand"]^eT:=12/32/Vo/Tp/yP/(az (aC ([none,some 1,some 2]/["way","costs","stand"]/aY K rfl (v0-(v2+aj))/32/["ways","costs","stand"]/(0/["way","costs","stand"])/d9/aV #[v0+aj,cP (bB hr) v1 (v0+aj) (λ_ _=>rfl),YG>#[v0,v2+aj,v2+aj]])))
theorem YJ:6^"all_steps"^["font","house"]^eP:=13/33/Kq/Tt/yU/(2&&Cm>#[v0,v1],3&&Gb,4&&tW,oZ (i:=5) [none] ["fork"] rfl Kq.nd rfl rfl (aY K rfl (Q9>#[v0,v2])) (show CScope (au (top 33)) _ from⟨rfl,by ac_nf,by ac_nf,by ac_nf⟩) (show capOk [none] ["fork"] (["font","house","ways","costs","found","waiting","stand"]:List Str) _=true from by ac_nf) (λ_ _ _ _ _ _=>(0/["fork"])) (λ_ _ _ _ _ _=>d9) (λ_ _ _ _ _ _=>(v0+aj)),fY ĸ (aG kI (aD K rfl<#[v5]) aj (aH _)) (6&&Mh K rfl ĵ PySem.F.slot_list_pop PySem.F.type_list_pop QG v5,aX (fW (rK (dN hr) v6 v4) (by with_unfolding_all rfl)) (aX (fW (gW (bB hr) (v6+aj) v3) (by with_unfolding_all rfl)) (az (eN (bB hr) v3 (v6+aj) (Q8>#[v0,v6+aj]) rfl)) aJ,tY (dN hr) v4 v6 (YH>#[v2,cP (bB hr) v3 (v6+aj) (λ_ _=>rfl),v6]) rfl,bf (lZ K rfl ĵ PySem.F.slot_list_extend PySem.F.type_list_extend CV v5 #[[none]/["step"]/aY K rfl (iW (dN hr) v4 v6 (λ_ _=>rfl))/33/["font","house","ways","costs","found","waiting","stand"]/(0/["step"])/d9/(v0+aj)])) aJ),aC v4)
theorem YK:1^"steps_back"^["onward"]^cS:=14/37/Vp/Tu/yW/(1&&tW,vR v0::↑2::az (tY (dN hr) v1 v2 (bc bO) rfl),DQ v0::cQ K rfl rfl (aQ ↑2 (aQ ↑3 cN))::az (aY K rfl v3::cQ K rfl rfl (aQ ↑4 (aQ ↑5 (aQ ↑6 cN)))::az (bf (iW (dN hr) v1 v6 (λ_ _=>rfl)++#[aV #[v5,v2]]))),aC v1)
theorem YL:1^"is_even"^["stand","ends"]^fN:=15/38/Vq/Tv/yX/(az (aC (gK (cO fJ (aD K rfl<#[v0+aj]) aj (aH _)) (gK (cO (iM K rfl) (v0+aj) v1 (by with_unfolding_all rfl)) (jQ (cO (iM K rfl) (v0+aj) v1 (by with_unfolding_all rfl)))))))
theorem YM:1^"let_wait"^["waiting","rest","backs"]^eW:=16/36/Vr/Tz/yZ/(az (aY K rfl v2::cQ K rfl rfl (aQ ↑3 (aQ ↑4 cN))::az (bf (Nb (bB hr) v0 (aV #[aF bI (v1+aj) v3,aF bI (v1+aj) aj]) (bc bO) ⟨rfl,rfl,rfl,rfl⟩++#[v4]))))
theorem YQ:2^"rests"^["onward","ends"]^hZ:=17/35/Vs/TJ/z6/(2&&YK>#[v0],3&&tW,4&&Hj (bB hr) (aV #[aj,aj]) ([none,some 1]/["stand","ends"]/vR v0/35/["onward","ends","backward","found","waiting","rest","reached","stand"]/(0/["stand","ends"])/dI (bH K rfl (YL>#[v0,v1]) (λ_=>rfl))/v0),fY ĸ (aG kI (DP<#[v4]) aj (aH _)) (5&&DR rfl (bB hr)<#[v4],6&&N8 (bB hr) v4 v5 ⟨rfl,rfl,rfl,rfl⟩,aY K rfl v6::↑7::az (aX (fW (rK (dN hr) v7 v3) (by with_unfolding_all rfl)) (tY (dN hr) v3 v7 v5 rfl,bf (YM>#[v4,v5,iW (dN hr) v2 v7 (λ_ _=>rfl)])) aJ)),aC v3)
theorem Qa:1^"grown"^["texts","sign","passes"]^hV:=18/41/Vt/TQ/z7/(3&&aF fZ (v0+aj) v1,aC (oA (bH K rfl v2 (λ_=>rfl)) (aV #[v0+aj,v3]) (aV #[v3,v0+aj])))
theorem a0a:2^"texts_of_fork"^["ways","fork"]^fA:=19/40/Yt/Yb/Jo/(2&&cP (bB hr) (YF>#[v0]) (v1+aj) (λ_ _=>rfl),3&&v1+aj,4&&v1+aj,aC (Qa>#[aV #[v2,aF fZ v2 (v4+aj)],v3+aj,cO kI (aD K rfl<#[v3+aj]) (aD K rfl<#[v4+aj]) (aH _)]))
theorem YS:1^"step_on"^["steps","found","rest"]^gI:=20/43/Vu/TX/z8/(aY K rfl v0::↑3::az (aX (aG (kY K rfl hr.units) (HD (dN hr) v1 (v3+aj) ⟨rfl,rfl,rfl,rfl⟩) (aV #[aF lV (v2+aj) (v3+aj),aF lV (v2+aj) aj]) (aH _)) (az (aC v3)) aJ),aC bw)
theorem YT:2^"led_on"^["font","onward","found","stand","texts"]^gN:=21/42/Vv/TY/z9/(5&&bj (lB K rfl rfl) rfl z_dict (by ac_nf) #[v0+aj],fY ĸ (aG (nM K rfl hr.units) (iW (dN hr) v2 v3 (λ_ _=>rfl)) (aV #[aj,aj]) (aH _)) (6&&YS>#[iW (dN hr) v1 v3 (λ_ _=>rfl),v2,iW (dN hr) v2 v3 (λ_ _=>rfl)],4&&Qa>#[v4,v6+aj,cO kI (aD K rfl<#[cP (bB hr) v5 (v6+aj) (λ_ _=>rfl)]) (aD K rfl<#[v3+aj]) (aH _)],3&&v6+aj),aC v4)
theorem YW:7^"farness"^["font","house"]^fS:=22/39/Af/U5/zb/(2&&Cm>#[v0,v1],3&&YJ>#[v0,v1],fB (i:=4) Af.nd rfl (Or.inr rfl) (YQ>#[v3,v1+aj]),oZ (i:=5) [none,some 4] ["fork","found"] rfl Af.nd rfl rfl (aY K rfl (Q9>#[v0,v2])) (show CScope (au (top 39)) _ from⟨rfl,by ac_nf,by ac_nf,by ac_nf⟩) (show capOk [none,some 4] ["fork","found"] (["font","house","ways","onward","found","pairs","least","texts"]:List Str) _=true from by ac_nf) (λ_ _ _ _ _ _=>(0/["fork","found"])) (λ_ _ _ _ _ _=>dI (fW (R5 (dN hr) (v0+aj) v1) (by with_unfolding_all rfl))) (λ_ _ _ _ _ _=>(aV #[aF bI (v0+aj) (iW (dN hr) v1 (v0+aj) (λ_ _=>rfl)+aj),v0])),aX (aG fJ (aD K rfl<#[v5]) aj (aH _)) (az (aC bw)) aJ,6&&vX K rfl rfl (MT hr)<#[v5],7&&YT>#[v0,v3,v4,v6+aj+aj,a0a>#[v2,v6+aj]],aC (aV #[v6+aj,yl K rfl rfl<#[v7],ym K rfl rfl<#[v7]]))
theorem Qc:8^"mends"^["font","house"]^hY:=23/44/Vw/U7/zc/(2&&YW>#[v0,v1],aX (aG dZ v2 bw (aH _)) (az (aC bw)) aJ,aC (aF bT (aF lV (v2+aj) aj) aj))
theorem Qd:2^"check_room"^["room","rooms"]^dQ:=26/53/Vx/Uc/zj/(az (aX (fu (PW.pt (wO (bH K rfl (Yy>#[v0]) (λ_=>rfl)) (rR (uM Am uL aj v0 v1))))) (az jc) aJ))
theorem YX:3^"made_doors"^["pairs","rooms"]^cK:=27/51/Vy/Ud/zm/(2&&gY,aY K rfl v0::cQ K rfl rfl (aQ ↑3 (aQ ↑4 cN))::(aX (fu (bH K rfl (KN>#[v3]) (λ_=>rfl))) (az jc) aJ,aX (fW (xn (bB hr) v3 v2) (by with_unfolding_all rfl)) (az jc) aJ,bf (Qd>#[v4,v1]),eN (bB hr) v2 v3 v4 rfl),aC (bj (bD K rfl) rfl z_tuple (by ac_nf) #[Dr rfl rfl z_sorted v2]))
theorem YZ:3^"made_ends"^["ends","rooms"]^eK:=28/52/Vz/Ue/zp/(2&&gY,aY K rfl v0::↑3::(bf (Qd>#[v3,v1]),aX (fW (xn (bB hr) v3 v2) (by with_unfolding_all rfl)) (az jc) aJ,eN (bB hr) v2 v3 gR rfl),aC (bj (bD K rfl) rfl z_tuple (by ac_nf) #[vq rfl<#[v2]]))
theorem Z0:1^"room_behind"^["doors","sign"]^bE:=30/54/VB/Ui/zr/(dJ K rfl v0::cQ K rfl rfl (aQ ↑2 (aQ ↑3 cN))::az (aX (aG fJ v2 v1 (aH _)) (az (aC v3)) aJ),aC bw)
theorem Qe:4^"gaps_at"^["font","strip","x"]^fR:=32/59/VD/Um/zy/(3&&gY,dJ K rfl (v0+aj)::cQ K rfl rfl (aQ ↑4 (aQ ↑5 cN))::(6&&eZ (ph K rfl) v1 (eG v2) (eG (aF bI v2 (aD K rfl<#[v5]))),aX (aG fJ (aD K rfl<#[v6]) (aD K rfl<#[v5]) (aH _)) (az (eN (bB hr) v3 v4 (Q7>#[v5,v6]) rfl)) aJ),aC v3)
theorem Z1:1^"thing_through"^["way","gaps","paper","x"]^gS:=33/61/Yu/Ye/Jz/(4&&v0+aj,aX (fW (gW (bB hr) v4 v1) (by with_unfolding_all rfl)) (az (aC bw)) aJ,5&&v2-aF bI v3 (aD K rfl<#[v0+aj])-(v0+aj),aX (aG dZ v5 bw (aH _)) (az (aC bw)) aJ,aC (aV #[aF bI (cP (bB hr) v1 v4 (λ_ _=>rfl)) (v5+aj),v5+aj]))
theorem Z2:1^"merged"^["one","other"]^gX:=34/62/VF/Uo/zE/(aX (aG dZ v0 bw (aH _)) (az (aC v1)) aJ,aX (aG dZ v1 bw (aH _)) (az (aC v0)) aJ,aX (aG fJ (v0+aj) (v1+aj) (aH _)) (az (aC (aV #[v0+aj,aF bI (v0+aj) (v1+aj)]))) aJ,aC (oA (aG uL (v0+aj) (v1+aj) (aH _)) v0 v1))
theorem Z3:2^"thing_at"^["leads","gaps","paper","x"]^fx:=35/60/VG/Uq/zF/(4&&bw,aY K rfl v0::↑5::az (4&&Z2>#[v4,Z1>#[v5,v1,v2,v3]]),aC v4)
theorem Z4:5^"near_paper"^["font","house","strip"]^dA:=36/58/uC/Uv/zK/(3&&Cm>#[v0,v1],fB (i:=4) uC.nd rfl (Or.inr rfl) ([none]/["x"]/cI rfl z_range #[aF bI (aD K rfl<#[v2]) aj]/58/["font","house","strip","ways","paper","x","gaps"]/(0/["x"])/d9/bc bO),Fd ([none,some 1]/["room","house"]/cI rfl z_range #[aD K rfl<#[v3]]/58/["font","house","strip","ways","paper","x","gaps"]/(0/["room","house"])/d9/oA (aG (iM K rfl) v0 (v1+aj) (by with_unfolding_all rfl)) (aV #[aj,aj]) bw) (Fb v4 (aD K rfl<#[v2]) set_list),Dv rfl z_range #[aF lV (aD K rfl<#[v2]) aj,oH jR aj,oH jR aj]::rT (i:=5) uC.nd rfl (Or.inr rfl)::(fB (i:=6) uC.nd rfl (Or.inr rfl) (Qe>#[v0,v2,v5]),Fd ([none,some 6,some 4,some 5]/["leads","gaps","paper","x"]/aY K rfl v3/58/["font","house","strip","ways","paper","x","gaps"]/(0/["leads","gaps","paper","x"])/d9/(Z3>#[v0,v1,v2,v3])) (Fb v4 v5 set_list)),aC v4)
theorem Z5:2^"first_way"^["leads","gaps","paper","x","far"]^eM:=37/65/VH/Uw/zL/(aY K rfl v0::↑5::(6&&Z1>#[v5,v1,v2,v3],aX (PW.pt (wO (aG An v6 bw (aH _)) (rR (aG fJ (v6+aj) v4 (aH _))))) (az (aC v5)) aJ),aC bw)
theorem Z6:5^"first_text"^["font","house","strip","paper"]^eA:=38/64/Kv/Ux/zM/(4&&Cm>#[v0,v1],5&&bc bO,6&&aj,7&&aj,fY ĸ (aG uL v7 (aD K rfl<#[v2]) (aH _)) (8&&Z5>#[v4-v6,Qe>#[v0,v2,v7],v3,v7,v3-v7-v6+aj],bf (v5++#[v8+aj]),Fe (i:=7) Kv.nd rfl (Or.inl rfl) (aD K rfl<#[v8+aj]) Ff,6&&v8+aj),aC (lZ K rfl PySem.F.plainAttrs_str PySem.F.slot_str_join PySem.F.type_str_join (Gw K rfl) cC #[v5]))
theorem Qf:6^"nearest"^["font","house","strip"]^gE:=39/63/VJ/Uy/zN/(3&&Z4>#[v0,v1,v2],4&&v3-aj-aj,aX (aG dZ v4 bw (aH _)) (az (aC bw)) aJ,aC (aV #[Z6>#[v0,v1,v2,v3],v4+aj,v4+aj]))
theorem Z7:7^"read_row"^["font","house","filler","strip"]^fE:=42/70/VL/UT/zP/(4&&Qf>#[v0,v1,v3],aX (aG dZ v4 bw (aH _)) (az (aC bw)) aJ,aC (aV #[lZ K rfl PySem.F.plainAttrs_str PySem.F.slot_str_rstrip PySem.F.type_str_rstrip DK (v4+aj) #[v2],v4+aj,v4+aj]))
theorem wI:1^"_law_cell_at"^["script","k"]^ic:=45/73/Yv/Yk/JP/(aX (aG uL v1 (aD K rfl<#[v0]) (aH _)) (az (aC (v0-v1))) aJ,aC aj)
theorem KQ:1^"_law_whole"^["found"]^eB:=46/74/VM/V3/zU/(az (aC (gK (bV K rfl<#[v0,fO (v:=.ty "int") (u:=.type "int") rfl z_int (by ac_nf) rfl]) (jQ (EY (bV K rfl<#[v0,fO (v:=.ty "bool") (u:=.type "bool") rfl z_bool (by ac_nf) rfl]))))))
theorem Z8:1^"_law_height"^["cell"]^cE:=48/76/VN/V6/zW/(aX (aG fJ (aF bh v0 aj) aj (aH _)) (az (aC (aF bI aj (aF bh (aF bT v0 aj) aj)))) aJ,aC (aF bI aj (aF bh (aF bT v0 aj) aj)))
theorem Z9:1^"_law_columns"^["cell","many","height"]^ii:=49/77/Yw/Yl/JQ/(3&&bc bO,cI rfl z_range #[v1]::↑4::(5&&aF bI (aF dY v0 (aF bI (aF dY aj v4) aj)) (aF dY v4 v4),bf (v3++#[aF bh (aF bT (aF dY v5 aj) aj) (aF Fj aj v2)])),aC (bj (bD K rfl) rfl z_tuple (by ac_nf) #[v3]))
theorem Za:1^"_law_house"^["cell","signs","few"]^dS:=52/80/KD/V8/zY/(3&&aF bI aj (aF bh v0 (bc #[aj,aj,aj,aj]-v2)),aX (aG fJ (aF bh (aF bT v0 aj) aj) aj (aH _)) (az (3&&aF bI aj (aF bh (aF bT v0 aj) aj))) aJ,4&&bc bO,cI rfl z_range #[v3]::↑5::(6&&bc bO,cI rfl z_range #[aD K rfl<#[v1]]::↑7::(8&&aF bI (aF bT v0 aj) (aF dY (aF dY aj (aF bI (aF bI (aF dY v5 aj) v7) aj)) (aF bI (aF bI v5 v7) aj)),8&&aF bh (aF dY v8 aj) aj,aX (aG jK (aF bh v8 aj) aj (aH _)) (az (bf (v6++#[aV #[v1-v7,aF bh (aF bT v8 aj) v3]]))) aJ),bf (v4++#[bj (pI K rfl) rfl z_tuple (by ac_nf) #[v6]])),oZ (i:=9) [none,some 0] ["room","cell"] rfl KD.nd rfl rfl (cI rfl z_range #[v3]) (show CScope (au (top 80)) _ from⟨rfl,by ac_nf,by ac_nf,by ac_nf⟩) (show capOk [none,some 0] ["room","cell"] (["cell","signs","few","many","doors","room","found","k","number","ends"]:List Str) _=true from by ac_nf) (λ_ _ _ _ _ _=>(0/["room","cell"])) (λ_ _ _ _ _ _=>dI (aG fJ (aF bh (aF Qp (aF bT v1 aj) v0) aj) aj (aH _))) (λ_ _ _ _ _ _=>v0),aC (aV #[bj (bD K rfl) rfl z_tuple (by ac_nf) #[v4],bj (bD K rfl) rfl z_tuple (by ac_nf) #[v9]]))
theorem Zb:1^"_law_filled"^["house","filler"]^bX:=53/81/VP/V9/zZ/(2&&aD K rfl<#[v0+aj],3&&bc bO,cI rfl z_range #[v2]::↑4::(5&&v0+aj+v4,aX (aG (iM K rfl) v4 (v0+aj) (by with_unfolding_all rfl)) (az (5&&bj (bD K rfl) rfl z_tuple (by ac_nf) #[ud K rfl<#[aF (pM K rfl) v5 (aV #[aV #[v1,v2]])]])) aJ,bf (v3++#[v5])),aC (aV #[aF (pM K rfl) (bj (bD K rfl) rfl z_tuple (by ac_nf) #[v3]) (aV #[aV #[aV #[v1,v2]]]),aF (pM K rfl) (v0+aj) (aV #[v2])]))
theorem Zc:1^"_law_strips"^["script","letters","height"]^bP:=54/82/KH/Va/Aa/(oZ (i:=3) [none,some 1] ["sign","letters"] rfl KH.nd rfl rfl (aY K rfl (mX rfl<#[v1])) (show CScope (au (top 82)) _ from⟨rfl,by ac_nf,by ac_nf,by ac_nf⟩) (show capOk [none,some 1] ["sign","letters"] (["script","letters","height","some","strips","cell"]:List Str) _=true from by ac_nf) (λ_ _ _ _ _ _=>(0/["sign","letters"])) (λ_ _ _ _ _ _=>dI (aG jK v0 cC (aH _))) (λ_ _ _ _ _ _=>(cP (bB hr) v1 v0 (λ_ _=>rfl))),4&&bc #[bc bO],aY K rfl (eZ (ph K rfl) v0 (eG aj) (eG aj))::↑5::(aX (PW.pt (km (aG fJ (aF bh v5 aj) aj (aH _)) (jP (aG kI (aD K rfl<#[v4-oH jR aj]) aj (aH _))))) (az (bf (v4++#[bc bO]))) aJ,aX (aG uL (aF bh v5 aj) aj (aH _)) (az (bf (lZ K rfl ĵ PySem.F.slot_list_extend PySem.F.type_list_extend (vD K rfl) (v4-oH jR aj) #[v3-aF bh (aF bT v5 aj) (aD K rfl<#[v3])]))) (az (bf ((v4-oH jR aj)++#[aF bh (aF bT (aF dY v5 aj) aj) (aF Fj aj v2)])))),aC v4)
theorem Zd:7^"_law_due"^["font","house","filler","strip"]^eR:=55/83/VR/Vb/Ab/(4&&Qf>#[v0,v1,v3],aX (aG dZ v4 bw (aH _)) (az (aC bw)) aJ,5&&v4+aj,fY ĸ (PW.pt (wO (aG jK v5 cC (aH _)) (rR (aG fJ (oR sy v5 (oH jR aj) (λ_ _=>rfl)) v2 (aH _))))) (az (5&&eZ QZ v5 jx (eG (oH jR aj)))),aC (aV #[v5,v4+aj,v4+aj]))
theorem Ze:2^"_law_alike"^["found","due"]^dP:=56/84/W3/Vc/Ac/(aX (aG dZ v1 bw (aH _)) (az (aC (cO dZ v0 bw (aH _)))) aJ,aX (PW.pt (km (fu (bH K rfl (bV K rfl<#[v0,fO (v:=.ty "tuple") (u:=.type "tuple") rfl z_tuple (by ac_nf) rfl]) (λ_=>rfl))) (km (aG jK (aD K rfl<#[v0]) aj (aH _)) (jP (fu (bH K rfl (bV K rfl<#[v0+aj,fO (v:=.ty "str") (u:=.type "str") rfl z_str (by ac_nf) rfl]) (λ_=>rfl))))))) (az (aC gR)) aJ,aC (gK (KQ>#[v0+aj]) (gK (KQ>#[v0+aj]) (jQ (cO (kY K rfl hr.units) v0 v1 (aH _))))))
end
theorem W4 (X:K.In h) (G:h.Ns mainGlobals mg) (hfa:mg "law"=some (.ref fa)) (e:obs K=ans):∃fd:FuncData,(∀ (s:Shared) (v:Value),BindsTo s fd ⟨[v],[]⟩ [Prod.mk "script" v])/\∀base:Heap,K.In base->base.Ns mainGlobals mg->FnOk pWo w K mg base Pb 11 fa fd ["script"] (ia K):=by
 have e1:nms.map (nsIn K mainGlobals)=vls:=Ô (·.1) e;have e2:W7.map (λd=>W5 K d.1)=W7.map (λd=>W6 none d.1 d.2):=Ô (·.2.1) e;have e3:=Ô (·.2.2.1) e;obtain @⟨_,_,kV,dc,pm,cd,ct,_,an,_,a,lL,qL,kL⟩:=jw (dF e2 59 rfl rfl:W5 K "law"=W6 none "law" 87);cases hfa.symm.trans (mg_of X G a);refine ⟨fnOf "law" "law" (fM (top 87)) (dG (top 87)) (au (top 87)) .none kV dc pm an cd ct,λs v=>.of_eq rfl,λbase _ _=>?_⟩;have z_isinstance:mg "isinstance"=none:=mg_none_of X G (dF e1 0 rfl rfl);have z_bool:mg "bool"=none:=mg_none_of X G (dF e1 1 rfl rfl);have z_int:mg "int"=none:=mg_none_of X G (dF e1 2 rfl rfl);have z_len:mg "len"=none:=mg_none_of X G (dF e1 3 rfl rfl);have z_str:mg "str"=none:=mg_none_of X G (dF e1 4 rfl rfl);have z_ord:mg "ord"=none:=mg_none_of X G (dF e1 5 rfl rfl);have z_sum:mg "sum"=none:=mg_none_of X G (dF e1 6 rfl rfl);have z_zip:mg "zip"=none:=mg_none_of X G (dF e1 7 rfl rfl);have z_dict:mg "dict"=none:=mg_none_of X G (dF e1 8 rfl rfl);have z_min:mg "min"=none:=mg_none_of X G (dF e1 9 rfl rfl);have z_enumerate:mg "enumerate"=none:=mg_none_of X G (dF e1 10 rfl rfl);have z_max:mg "max"=none:=mg_none_of X G (dF e1 11 rfl rfl);have z_list:mg "list"=none:=mg_none_of X G (dF e1 12 rfl rfl);have z_tuple:mg "tuple"=none:=mg_none_of X G (dF e1 13 rfl rfl);have z_sorted:mg "sorted"=none:=mg_none_of X G (dF e1 14 rfl rfl);have z_range:mg "range"=none:=mg_none_of X G (dF e1 15 rfl rfl);have z_ValueError:mg "ValueError"=none:=mg_none_of X G (dF e1 16 rfl rfl);have g_LEFT_OUT:mg "LEFT_OUT"=some (.int 37 417)/\RelV (V.int 37) (.int 37 417):=⟨mg_of X G (dF e1 17 rfl rfl),_,rfl⟩;have g_MOST_ROOMS:mg "MOST_ROOMS"=some (.int 40 658)/\RelV (V.int 40) (.int 40 658):=⟨mg_of X G (dF e1 18 rfl rfl),_,rfl⟩;have k_BlotError:mg "BlotError"=some (.ref SN)/\ExcK K SN:=⟨mg_of X G (dF e1 19 rfl rfl),cT (dF e3 0 rfl rfl)⟩;have k_NotAlike:mg "NotAlike"=some (.ref q9)/\ExcK K q9:=⟨mg_of X G (dF e1 20 rfl rfl),cT (dF e3 1 rfl rfl)⟩;have k_OffStrip:mg "OffStrip"=some (.ref qd)/\ExcK K qd:=⟨mg_of X G (dF e1 21 rfl rfl),cT (dF e3 2 rfl rfl)⟩;have k_NoSheet:mg "NoSheet"=some (.ref J1)/\ExcK K J1:=⟨mg_of X G (dF e1 22 rfl rfl),cT (dF e3 3 rfl rfl)⟩;have k_NoFont:mg "NoFont"=some (.ref J2)/\ExcK K J2:=⟨mg_of X G (dF e1 23 rfl rfl),cT (dF e3 4 rfl rfl)⟩;have k_NoSign:mg "NoSign"=some (.ref mG)/\ExcK K mG:=⟨mg_of X G (dF e1 24 rfl rfl),cT (dF e3 5 rfl rfl)⟩;have k_NoHouse:mg "NoHouse"=some (.ref lO)/\ExcK K lO:=⟨mg_of X G (dF e1 25 rfl rfl),cT (dF e3 6 rfl rfl)⟩;have k_NoWords:mg "NoWords"=some (.ref J3)/\ExcK K J3:=⟨mg_of X G (dF e1 26 rfl rfl),cT (dF e3 7 rfl rfl)⟩;have k_TooWide:mg "TooWide"=some (.ref qg)/\ExcK K qg:=⟨mg_of X G (dF e1 27 rfl rfl),cT (dF e3 8 rfl rfl)⟩;have k_NoFiller:mg "NoFiller"=some (.ref nW)/\ExcK K nW:=⟨mg_of X G (dF e1 28 rfl rfl),cT (dF e3 9 rfl rfl)⟩;have k_NotTaken:mg "NotTaken"=some (.ref qi)/\ExcK K qi:=⟨mg_of X G (dF e1 29 rfl rfl),cT (dF e3 10 rfl rfl)⟩;have k_NoRow:mg "NoRow"=some (.ref J4)/\ExcK K J4:=⟨mg_of X G (dF e1 30 rfl rfl),cT (dF e3 11 rfl rfl)⟩;have k_NoName:mg "NoName"=some (.ref J5)/\ExcK K J5:=⟨mg_of X G (dF e1 31 rfl rfl),cT (dF e3 12 rfl rfl)⟩;have k_NoNote:mg "NoNote"=some (.ref J6)/\ExcK K J6:=⟨mg_of X G (dF e1 32 rfl rfl),cT (dF e3 13 rfl rfl)⟩;have x_f28:CalX pWo w K mg base 2 "columns_of" ["font","sign"] (eC K):=Q5 (st:=top 46) X G (jw (dF e2 24 rfl rfl)) (λ_ _ _ _ _ _=>ar2 λ_ _=>rfl) λ_ _ F=>F.okX Kr (λ_ _ _ _ h=>U9 h) λcdv A outer s H vs Q E hr h=>by have nd:=Kr.nd;obtain⟨Eh,h⟩:=U8 h;exact⟨zf K E Eh,(aX (bH K rfl (KN>#[v1]) (λ_=>rfl)) (az (rY xM rfl (dJ K rfl (v0+aj)) (cQ K rfl rfl (aQ ↑2 (aQ ↑3 cN))) (az (aX (aG fJ v2 v1 (aH _)) (az (aC (bj (eO K rfl) rfl z_list (by ac_nf) #[v3]))) aJ)))) aJ,jk Ă ik rfl rfl k_NoSign.1 k_NoSign.2.1 #[cC]),h⟩
 have x_f14:CalX pWo w K mg base 1 "check_rooms" ["rooms"] (bS K):=Q5 (st:=top 50) X G (jw (dF e2 25 rfl rfl)) (λ_ _ _ _ _ _=>ar1 λ_=>rfl) λ_ _ F=>F.okX Ks (λ_ _ _ _ h=>Ub h) λcdv A outer s H vs Q E hr h=>by have nd:=Ks.nd;obtain⟨Eh,h⟩:=Ua h;exact⟨zg K E Eh,(az (aX (fu (uM Am Am aj v0 (cD rfl g_MOST_ROOMS.1 g_MOST_ROOMS.2))) (az (jk Ă ik rfl rfl k_NoHouse.1 k_NoHouse.2.1 #[cC])) aJ)),h⟩
 have x_f20:CalX pWo w K mg base 4 "make_house" ["doors","ends"] (dL K):=Q5 (st:=top 49) X G (jw (dF e2 29 rfl rfl)) (λ_ _ _ _ _ _=>ar2 λ_ _=>rfl) λ_ _ F=>F.okX Ag (λ_ _ _ _ h=>Uh h) λcdv A outer s H vs Q E hr h=>by have nd:=Ag.nd;obtain⟨Eh,h⟩:=Ug h;exact⟨zq K E Eh,(fB (i:=2) Ag.nd rfl (Or.inr rfl) (aD K rfl<#[v0]),bf (fP x_f14 hr (by decide) rfl (E:=E) (gh λ_ _ z=>z) #[v2]),aC (aV #[bj (bD K rfl) rfl z_tuple (by ac_nf) #[[none,some 2]/["pairs","rooms"]/aY K rfl v0/49/["doors","ends","rooms"]/(0/["pairs","rooms"])/d9/(YX>#[v0,v1])],YZ>#[v1,v2]])),h⟩
 have x_f50:CalX pWo w K mg base 5 "padded" ["house","filler"] (gT K):=Q5 (st:=top 56) X G (jw (dF e2 31 rfl rfl)) (λ_ _ _ _ _ _=>ar2 λ_ _=>rfl) λ_ _ F=>F.okX Ku (λ_ _ _ _ h=>Ul h) λcdv A outer s H vs Q E hr h=>by have nd:=Ku.nd;obtain⟨Eh,h⟩:=Uk h;exact⟨zx K E Eh,(aX (fu (bH K rfl (KN>#[v1]) (λ_=>rfl))) (az (jk Ă ik rfl rfl k_NoHouse.1 k_NoHouse.2.1 #[cC])) aJ,rY xM rfl (dJ K rfl (v0+aj)) ↑2 (az (aX (aG An (Z0>#[v2,v1]) bw (aH _)) (az (jk Ă ik rfl rfl k_NoHouse.1 k_NoHouse.2.1 #[cC])) aJ)),3&&aD K rfl<#[v0+aj],4&&aF oV ([none]/["pairs"]/dJ K rfl (v0+aj)/56/["house","filler","pairs","last","doors","ends","end"]/(0/["pairs"])/d9/bj (eO K rfl) rfl z_list (by ac_nf) #[v0]) (bc #[bc bO]),5&&aF oV (bj (eO K rfl) rfl z_list (by ac_nf) #[v0+aj]) (bc #[v3]),rY xM rfl (aY K rfl v5) ↑6 (az (bf ((v4-v6)++#[aV #[v1,v3]]))),aC (fP x_f20 hr (by decide) rfl (E:=E) (gh λ_ _ z=>z) #[v4,v5])),h⟩
 have x_f2:CalX pWo w K mg base 3 "filler_columns" ["font","filler"] (dE K):=Q5 (st:=top 68) X G (jw (dF e2 40 rfl rfl)) (λ_ _ _ _ _ _=>ar2 λ_ _=>rfl) λ_ _ F=>F.okX Q3 (λ_ _ _ _ h=>Yi h) λcdv A outer s H vs Q E hr h=>by have nd:=Q3.nd;obtain⟨Eh,h⟩:=Yh h;exact⟨JL K E Eh,(az (Bj Eh vJ rfl rfl rfl k_NoSign.1 Ă rfl k_NoFiller.1 k_NoFiller.2.1 (λ_ _ hp=>(az (aC (fP x_f28 hr (by decide) rfl (E:=Eh) hp #[v0,v1])))))),h⟩
 have x_f30:CalX pWo w K mg base 6 "padded_by" ["font","house","filler"] (eJ K):=Q5 (st:=top 67) X G (jw (dF e2 41 rfl rfl)) (λ_ _ _ _ _ _=>ar3 λ_ _ _=>rfl) λ_ _ F=>F.okX Kw (λ_ _ _ _ h=>UJ h) λcdv A outer s H vs Q E hr h=>by have nd:=Kw.nd;obtain⟨Eh,h⟩:=UG h;exact⟨zO K E Eh,(aX (aG jK (aD K rfl<#[fP x_f2 hr (by decide) rfl (E:=E) (gh λ_ _ z=>z) #[v0,v2]]) aj (aH _)) (az (jk Ă ik rfl rfl k_NoFiller.1 k_NoFiller.2.1 #[cC])) aJ,Bj Eh vJ rfl rfl rfl k_NoHouse.1 Ă rfl k_NoFiller.1 k_NoFiller.2.1 (λ_ _ hp=>(az (aC (fP x_f50 hr (by decide) rfl (E:=Eh) hp #[v1,v2]))))),h⟩
 have x_f32:CalX pWo w K mg base 8 "read_page" ["font","house","filler","strips"] (eL K):=Q5 (st:=top 69) X G (jw (dF e2 43 rfl rfl)) (λ_ _ _ _ _ _=>ar4 λ_ _ _ _=>rfl) λ_ _ F=>F.okX Ah (λ_ _ _ _ h=>UW h) λcdv A outer s H vs Q E hr h=>by have nd:=Ah.nd;obtain⟨Eh,h⟩:=UV h;exact⟨zR K E Eh,(fB (i:=4) Ah.nd rfl (Or.inr rfl) (fP x_f30 hr (by decide) rfl (E:=E) (gh λ_ _ z=>z) #[v0,v1,v2]),aC ([none,some 0,some 4,some 2]/["strip","font","house_of_rows","filler"]/aY K rfl v3/69/["font","house","filler","strips","house_of_rows"]/(0/["strip","font","house_of_rows","filler"])/d9/(Z7>#[v1,v2,v3,v0]))),h⟩
 have c_f32:=cq x_f32;have x_f29:CalX pWo w K mg base 9 "page_mends" ["font","house","filler"] (eE K):=Q5 (st:=top 71) X G (jw (dF e2 44 rfl rfl)) (λ_ _ _ _ _ _=>ar3 λ_ _ _=>rfl) λ_ _ F=>F.okX Ky (λ_ _ _ _ h=>V2 h) λcdv A outer s H vs Q E hr h=>by have nd:=Ky.nd;obtain⟨Eh,h⟩:=V1 h;exact⟨zT K E Eh,(az (aC (Qc>#[v0,fP x_f30 hr (by decide) rfl (E:=E) (gh λ_ _ z=>z) #[v0,v1,v2]]))),h⟩
 have c_f29:=cq x_f29;have c_f25:Cal pWo w K mg base 1 "_law_signs" [] (ju K):=ck (st:=top 75) X G (jw (dF e2 47 rfl rfl)) (λ_ _ _ _ _ _=>ar0 rfl) λ_ _ F=>F.ok KC (λ_ _ _ _ h=>V5 h) λcdv A outer s H vs Q E hr h=>by have nd:=KC.nd;obtain⟨Eh,h⟩:=V4 h;exact⟨zV K E Eh,(0&&cC,aC (aF fZ v0 cC)),h⟩
 have c_f9:2^"_law_letters"^["script","height"]^im:=50/78/Yx/Yn/JT/(2&&sW c_f25 hr (by decide) rfl,3&&wI>#[v0,aj],4&&aF bI aj (aF bh v3 aj),5&&aF bh (wI>#[v0,aj]) aj,6&&gY,cI rfl z_range #[v4]::↑7::(8&&aF bh (aF dY (aF bI (aF bI (wI>#[v0,aj]) (aF dY (aF dY aj v7) v7)) (aF dY aj v7)) aj) aj,5&&aF bI (aF bI v5 aj) (aF bh v8 aj),eN (bB hr) v6 (oR sy v2 (aF bh v5 aj) (λ_ _=>rfl)) (Z9>#[v8,aF bI aj (aF bh (aF bT v8 aj) aj),v1]) rfl,aX (aG fJ v7 (aF bh (aF bT v3 aj) v4) (aH _)) (eN (bB hr) v6 (oR sy v2 (aF bh v5 aj) (λ_ _=>rfl)) (Z9>#[v8,aj,v1]) rfl,eN (bB hr) v6 cC (oR sy v2 (aF bh v5 aj) (λ_ _=>rfl)) rfl) aJ),aC v6);have c_f0:2^"_law_house_signs"^["cell","letters","known"]^aE:=51/79/Q4/Yo/JV/(oZ (i:=3) [none,some 1] ["sign","letters"] rfl Q4.nd rfl rfl (Gn (sW c_f25 hr (by decide) rfl)) (show CScope (au (top 79)) _ from⟨rfl,by ac_nf,by ac_nf,by ac_nf⟩) (show capOk [none,some 1] ["sign","letters"] (["cell","letters","known","lacked"]:List Str) _=true from by ac_nf) (λ_ _ _ _ _ _=>(0/["sign","letters"])) (λ_ _ _ _ _ _=>dI (fW (gW (bB hr) v0 v1) (by with_unfolding_all rfl))) (λ_ _ _ _ _ _=>v0),aX (aG fJ (aF bh v0 aj) aj (aH _)) (az (aC v2)) aJ,aC (mW K rfl<#[aF oV v2 (bc #[v3-aF bh (aF bT v0 aj) (aD K rfl<#[v3])])]));have c_f10:10^"_law_refused"^["font","house","filler","strips","way"]^aS:=57/85/KJ/Vd/Ad/(5&&bc bO,QW (i:=6) Eh KJ.nd rfl rfl rfl k_BlotError.1 rfl rfl (λ_ _ hp=>(az (aX (aG fJ v4 aj (aH _)) (az (bf (fP x_f32 hr (by decide) rfl (E:=Eh) hp #[v0,v1,v2,v3]))) (az (bf (fP x_f29 hr (by decide) rfl (E:=Eh) hp #[v0,v1,v2])))))) (λ_ _=>(5&&bc #[eU K rfl<#[v6,cD (v:=.ref nW) rfl k_NoFiller.1 rfl],eU K rfl<#[v6,fO (v:=.ty "ValueError") (u:=.type "ValueError") rfl z_ValueError (by ac_nf) rfl]],bf (v5++#[eU K rfl<#[v6,aV #[cD (v:=.ref q9) rfl k_NotAlike.1 rfl,cD (v:=.ref qd) rfl k_OffStrip.1 rfl,cD (v:=.ref J1) rfl k_NoSheet.1 rfl,cD (v:=.ref J2) rfl k_NoFont.1 rfl,cD (v:=.ref mG) rfl k_NoSign.1 rfl,cD (v:=.ref lO) rfl k_NoHouse.1 rfl]]]),bf (v5++#[eU K rfl<#[v6,aV #[cD (v:=.ref J3) rfl k_NoWords.1 rfl,cD (v:=.ref qg) rfl k_TooWide.1 rfl,cD (v:=.ref qi) rfl k_NotTaken.1 rfl,cD (v:=.ref J4) rfl k_NoRow.1 rfl,cD (v:=.ref J5) rfl k_NoName.1 rfl,cD (v:=.ref J6) rfl k_NoNote.1 rfl]]]))),aC (cO (kY K rfl hr.units) v5 (bc #[gR,gR,gR,gR]) (aH _)));have c_f1:2^"_law_bad_filler"^["cell","letters","signs","house"]^aI:=58/86/wH/Yq/Ka/(oZ (i:=4) [none,some 1] ["sign","letters"] rfl wH.nd rfl rfl (Gn (sW c_f25 hr (by decide) rfl)) (show CScope (au (top 86)) _ from⟨rfl,by ac_nf,by ac_nf,by ac_nf⟩) (show capOk [none,some 1] ["sign","letters"] (["cell","letters","signs","house","lacked","filler","some","pairs"]:List Str) _=true from by ac_nf) (λ_ _ _ _ _ _=>(0/["sign","letters"])) (λ_ _ _ _ _ _=>dI (fW (gW (bB hr) v0 v1) (by with_unfolding_all rfl))) (λ_ _ _ _ _ _=>v0),5&&cP (bB hr) v1 cC (λ_ _=>rfl),by (refine fB (i:=6) ?a ?b ?c ?d ?e ?f);(case a=>exact wH.nd);(case b=>rfl);(case c=>exact(Or.inr rfl));(case e=>rfl);(case f=>first| exact .inl rfl| exact .inr rfl|assumption);exact(by (with_reducible refine bc ?_);(with_reducible refine@cU _ _ _ _ _ ?_ ?_ rfl);(exact(oR (vd K rfl) (pv 4) (aF bh (aF bT (pv 0) aj) (uO (aD K rfl) rfl z_len (by ac_nf) (cU (pv 4) bO))) (λ_ _=>rfl)));(with_reducible refine@cU _ _ _ _ _ ?_ ?_ rfl);(exact(aF fZ (pv 5) (pv 5)));(with_reducible refine@cU _ _ _ _ _ ?_ ?_ rfl);(exact cC);(with_reducible refine@cU _ _ _ _ _ ?_ ?_ rfl);(exact bw);(with_reducible refine@cU _ _ _ _ _ ?_ ?_ rfl);(exact aj);(with_reducible refine@cU _ _ _ _ _ ?_ ?_ rfl);(exact gR);(with_reducible refine@cU _ _ _ _ _ ?_ ?_ rfl);(exact(aV (cU (pv 5) bO)));(with_reducible refine@cU _ _ _ _ _ ?_ ?_ rfl);(exact(bc (cU (pv 5) bO)));exact bO),fB (i:=6) wH.nd rfl (Or.inr rfl) (aF oV v6 ([none,some 1]/["sign","letters"]/aY K rfl v2/86/["cell","letters","signs","house","lacked","filler","some","pairs"]/(0/["sign","letters"])/dI (aG kI (aD K rfl<#[cP (bB hr) v1 v0 (λ_ _=>rfl)]) aj (aH _))/v0)),dJ K rfl (v3+aj)::↑7::az (fB (i:=6) wH.nd rfl (Or.inr rfl) (aF oV v6 ([none,none,some 6]/["sign","room","some"]/dJ K rfl v7/86/["cell","letters","signs","house","lacked","filler","some","pairs"]/cQ K rfl rfl (aQ (0/["sign","room","some"]) (aQ (1/["sign","room","some"]) cN))/dI (aG (yo K rfl hr.units) v0 v2 (by with_unfolding_all rfl))/v0))),aC (v6-aF bh v0 (aD K rfl<#[v6])));have F:=oW (st:=top 87) lL qL kL;exact F.ok qp (λ_ _ _ _ h=>Vf h) λcdv A outer s H vs Q E hr h=>by have nd:=qp.nd;obtain⟨Eh,h⟩:=Ve h;exact⟨Ae K E Eh,(1&&Z8>#[wI>#[v0,aj]],fB (i:=2) qp.nd rfl (Or.inr rfl) (gf c_f9 hr (by decide) rfl #[v0,v1]),fB (i:=3) qp.nd rfl (Or.inr rfl) (cP (bB hr) v2 cC (λ_ _=>rfl)),4&&mW K rfl<#[[none,some 3]/["sign","filler"]/vG v2/87/["script","height","letters","filler","signs","font","known","house","whole","strips","handed","found","k","at","bad","big","way","told","due"]/(0/["sign","filler"])/dI (aG (qC K rfl) v0 (bc #[cC,v1]) (by with_unfolding_all rfl))/v0],5&&aV #[v1,bj (pI K rfl) rfl z_tuple (by ac_nf) #[[none,some 2]/["sign","letters"]/aY K rfl (mX rfl<#[v2])/87/["script","height","letters","filler","signs","font","known","house","whole","strips","handed","found","k","at","bad","big","way","told","due"]/(0/["sign","letters"])/dI (aG jK v0 cC (aH _))/aV #[v0,cP (bB hr) v1 v0 (λ_ _=>rfl)]]],6&&gf c_f0 hr (by decide) rfl #[aF bT (wI>#[v0,aj]) aj,v2,v4],7&&Za>#[wI>#[v0,aj],v6,aD K rfl<#[v4]],8&&Zb>#[v7,v3],9&&Zc>#[v0,v2,v1],oZ (i:=10) [none] ["strip"] rfl qp.nd rfl rfl (aY K rfl v9) (show CScope (au (top 87)) _ from⟨rfl,by ac_nf,by ac_nf,by ac_nf⟩) (show capOk [none] ["strip"] (["script","height","letters","filler","signs","font","known","house","whole","strips","handed","found","k","at","bad","big","way","told","due"]:List Str) _=true from by ac_nf) (λ_ _ _ _ _ _=>(0/["strip"])) (λ_ _ _ _ _ _=>d9) (λ_ _ _ _ _ _=>(bj (eO K rfl) rfl z_list (by ac_nf) #[v0])),11&&gf c_f32 hr (by decide) rfl #[v5,v7,v3,Q6],aX (PW.pt (km (fu (bH K rfl (bV K rfl<#[Zu,fO (v:=.ty "list") (u:=.type "list") rfl z_list (by ac_nf) rfl]) (λ_=>rfl))) (km (aG jK (aD K rfl<#[Zu]) (aD K rfl<#[v9]) (aH _)) (jP (aG (nM K rfl hr.units) Q6 v9 (aH _)))))) (az (aC gR)) aJ,cI rfl z_range #[aD K rfl<#[v9]]::↑12::az (aX (fu (bH K rfl (Ze>#[Zu-v12,Zd>#[v5,v8,v3,v9-v12]]) (λ_=>rfl))) (az (aC gR)) aJ),13&&aF bh (aF bT (wI>#[v0,aj]) aj) (aD K rfl<#[v9]),aX (aG (nM K rfl hr.units) (gf c_f32 hr (by decide) rfl #[v5,v7,v3,bc #[Q6-v13]]) (bc #[Zu-v13]) (aH _)) (az (aC gR)) aJ,14&&gf c_f1 hr (by decide) rfl #[wI>#[v0,aj],v2,v4,v7],15&&aV #[aF (Gp K rfl) (v7+aj) (aF (Hl K rfl) (aV #[aV bO]) (aF lV aj (aD K rfl<#[v7+aj]))),v7+aj],cI rfl z_range #[aj]::↑16::az (aX (PW.pt (km (fu (bH K rfl (gf c_f10 hr (by decide) rfl #[v5,v7,v14,Q6,v16]) (λ_=>rfl))) (jP (fu (bH K rfl (gf c_f10 hr (by decide) rfl #[v5,v15,v3,Q6,v16]) (λ_=>rfl)))))) (az (aC gR)) aJ),aX (PW.pt (km (fu (bH K rfl (gf c_f10 hr (by decide) rfl #[v5,v7,v14,bc bO,aj]) (λ_=>rfl))) (jP (aG (nM K rfl hr.units) (gf c_f32 hr (by decide) rfl #[v5,v7,v3,bc bO]) (bc bO) (aH _))))) (az (aC gR)) aJ,aX (aG kI (aD K rfl<#[v7+aj]) (bc #[aj,aj,aj,aj]-(aD K rfl<#[v4])) (aH _)) (az (aC (cO (kY K rfl hr.units) Q6 v9 (aH _)))) aJ,17&&gf c_f29 hr (by decide) rfl #[v5,v7,v3],18&&Qc>#[v5,v8],aX (PW.pt (km (aG dZ v18 bw (aH _)) (jP (aG dZ Zv bw (aH _))))) (az (aC (gK (cO dZ v18 bw (aH _)) (jQ (cO dZ Zv bw (aH _)))))) aJ,aC (gK (KQ>#[Zv]) (gK (cO fJ Zv v18 (aH _)) (jQ (cO (kY K rfl hr.units) Q6 v9 (aH _)))))),h⟩
end
theorem fin:PySem.Challenge.rw_blotsure_k66_page_read.Holds:=by
 refine holds_law said λsaid=>holds_open (q:=vw) (loose:=lo) (Xt:=λs=>xlAt vw [] s&&recOk [] s) (XP:=XL vw []) (Ya:=λ_=>ans) (YP:=λ_ h=>∃K:Frag,K.In h/\obs K=ans) left (λw s e=>⟨_,Lf,e⟩) (λw h h' ⟨K,X,e⟩ k=>⟨K,Frag.In.keeps X k,e⟩) (λs e=>xl_of s (Bool.and_eq_true_iff.mp e).1) XL.keeps (by rfl) (by rfl) (by rfl) (λs e=>recFacts_of (Bool.and_eq_true_iff.mp e).2) (by rfl) said (by ac_nf) ⟨rfl,rfl,rfl,rfl,rfl,by ac_nf⟩ ?hw ?hc
 case hw=>w_witness2
 rintro w s s' mg mb G ⟨K,X,e⟩;have r0:=Ù (Ô (·.2.2.2[0]?) e);have r1:=Ù (Ô (·.2.2.2[1]?) e);have r2:=Ù (Ô (·.2.2.2[2]?) e);exact L2.M3 (n:=63) (k:=11) (x:="script") (CX:=λ_=>L2.Pb) (K:=λ_=>K) (YP:=λ_ h=>K.In h) (sp:=λ_=>ia K) rfl (by decide) rfl ⟨rfl,by decide,by decide⟩ (λ_ _ Y=>Y) (λ_ _ _ _ KX G hmg=>W4 KX G hmg e) (λ_ _ a ns hl _ hS=>⟨a,ns,rfl,⟨L2.RefG.mk (cT (dF (Ô (·.2.2.1) e) 5 rfl rfl)) (Ô (·.1) r0) (Ô (·.2.1) r0) trivial,L2.RefG.mk (cT (dF (Ô (·.2.2.1) e) 6 rfl rfl)) (Ô (·.1) r1) (Ô (·.2.1) r1) trivial,L2.RefH.mk (cT (dF (Ô (·.2.2.1) e) 9 rfl rfl)) (Ô (·.1) r2) (Ô (·.2.1) r2) ⟨Option.some.inj (Ô (·.2.2.1[0]?) r2),trivial⟩ ⟨Option.some.inj (Ô (·.2.2.2[0]?) r2),Ù (Ô (·.2.2.2[1]?) r2),trivial⟩⟩,hS,hl,λ_=>rfl⟩) (λ_ _ _ _ _ z=>z) w s s' mg mb G X
end Pg
open PySem PySem.W PyProof.Rows
theorem PySem.Challenge.cw_blotsure_k66_page_read_holds : PySem.Challenge.rw_blotsure_k66_page_read.Holds :=
 Pg.fin
