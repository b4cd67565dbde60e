import PyProof.Rows.All
import Wide.All
import OpenK.AllK
import PySem.Challenge.RW_blotsure_k82_whole_no_greater
abbrev Qb:=@List.length_map
abbrev Qr:=@PySem.wpAny_bind
abbrev Zl:=@List.getElem?_eq_getElem
abbrev Zp:=@List.mem_map
abbrev Zs:=@List.mem_singleton
abbrev Yf:=@List.getD_eq_getElem?_getD
abbrev Xs:=@PySem.wpAny_pure
abbrev Wp:=@List.mem_of_getElem?
abbrev Jn:=@PySem.Heap.get?_push_of_some
abbrev À:=@List.getElem?_map
abbrev Á:=@List.map_append
abbrev Â:=@List.getElem?_eq_some_iff
abbrev Ã:=@Nat.le_refl
abbrev Ä:=@List.map_map
abbrev Å:=@PySem.Heap.get?_push_size
abbrev Æ:=@List.mem_cons
abbrev Ç:=@List.mem_cons_of_mem
abbrev È:=@List.map_cons
abbrev É:=@PySem.Heap.lt_size
abbrev Ê:=@List.mem_append
abbrev Ë:=@List.length_append
abbrev Ì:=@List.mem_cons_self
abbrev Í:=@Bool.false_ne_true
abbrev Î:=@Option.map_eq_some_iff
abbrev Ï:=@decide_eq_true
abbrev Ð:=@Nat.le_trans
abbrev Ñ:=@List.length_take
abbrev Ò:=@List.take_add_one
abbrev Ó:=@Nat.lt_of_lt_of_le
abbrev Ô:=@Int.toNat_natCast
abbrev Õ:=@List.size_toArray
abbrev Ö:=@congrArg
abbrev Ø:=@decide_eq_false
abbrev Ù:=@Bool.false_eq_true
abbrev Ú:=@Nat.ne_of_lt
abbrev Û:=@List.getElem_mem
abbrev Ü:=@Option.some.inj
abbrev Ý:=@Nat.lt_of_le_of_lt
abbrev Þ:=@List.take_length
abbrev ß:=@List.mem_append_right
abbrev à:=@List.length_singleton
abbrev á:=@List.not_mem_nil
abbrev â:=@Nat.zero_le
abbrev ã:=@Array.length_toList
abbrev ä:=@List.nodup_append
abbrev å:=@PySem.Heap.SameBut.update
abbrev æ:=@PySem.wpAny_call_entry
abbrev ç:=@PySem.wpAny_newObj_type
abbrev è:=@List.take_of_length_le
abbrev é:=@List.mem_append_left
abbrev ê:=@List.length_cons
abbrev ë:=@PySem.Heap.get?_update_self
abbrev ì:=@Nat.le_of_lt
abbrev í:=@List.append_nil
abbrev î:=@List.nodup_cons
abbrev ï:=@List.length_range
abbrev ð:=@PySem.wpAny_holding
abbrev ñ:=@List.mem_range
abbrev ò:=@List.length_replicate
abbrev ó:=@List.mem_filterMap
abbrev ô:=@of_decide_eq_true
abbrev õ:=@PySem.sizeLine_eq
abbrev ö:=@PySem.Obj.data_mapFields
abbrev ø:=@List.getElem?_append_right
abbrev ù:=@PySem.Around.under_plainId
abbrev ú:=@List.length_drop
abbrev û:=@List.mem_flatMap
abbrev ü:=@List.getElem_map
abbrev ý:=@List.forIn_cons
abbrev þ:=@Array.getElem?_eq_getElem
abbrev ÿ:=@List.mem_iff_getElem
abbrev Ā:=@List.mem_of_mem_take
abbrev ā:=@Bool.and_eq_true
abbrev Ă:=@PyProof.Rows.wpS_bind
abbrev ă:=@List.map_nil
abbrev Ą:=@Array.getElem?_toList
abbrev ą:=@Nat.lt_irrefl
abbrev Ć:=@PySem.codeAny_builtin
abbrev ć:=@PySem.wpAny_truthy_bool
abbrev Ĉ:=@if_false
abbrev ĉ:=@PySem.Heap.get?_update_other
abbrev Ċ:=@PySem.wpAny_mono
abbrev ċ:=@PySem.wpAny_setField_rec
abbrev Č:=@PyProof.Rows.callWith_type1
abbrev č:=@PySem.wpAny_field
abbrev Ď:=@List.take_append_drop
abbrev ď:=@PySem.wpAny_seqItems
abbrev Đ:=@List.take_sublist
abbrev đ:=@Bool.not_true
abbrev Ē:=@List.append_assoc
abbrev ē:=@List.mem_of_find?_eq_some
abbrev Ĕ:=@List.Nodup.sublist
abbrev ĕ:=@or_false
abbrev Ė:=@PySem.wpAny_isInstance
abbrev ė:=@List.map_congr_left
abbrev Ę:=@List.length_filter_le
abbrev ę:=@List.getElem?_eq_none
abbrev Ě:=@List.mem_iff_getElem?
abbrev ě:=@Nat.ne_of_gt
abbrev Ĝ:=@PySem.wpAny_dictEntries
abbrev ĝ:=@List.pairwise_map
abbrev Ğ:=@PySem.F.plainAttrs_list
abbrev ğ:=@PySem.Paired.length
abbrev Ġ:=@PySem.W.kia_one
abbrev ġ:=@List.find?_cons
abbrev Ģ:=@List.sum_cons
abbrev ģ:=@PySem.Calls.callWith_builtin
abbrev Ĥ:=@List.getElem?_append_left
abbrev ĥ:=@List.filterMap_cons
abbrev Ħ:=@Nat.lt_succ_of_lt
abbrev ħ:=@List.Pairwise.imp
abbrev Ĩ:=@PySem.Heap.size_push
abbrev ĩ:=@PySem.wpAny_setField
abbrev Ī:=@PyProof.Rows.wpS_pure
abbrev ī:=@List.mem_filter
abbrev Ĭ:=@PySem.wpAny_rule
abbrev ĭ:=@of_decide_eq_false
abbrev Į:=@List.find?_eq_none
abbrev į:=@List.lookup_cons
abbrev İ:=@Sum.inr.inj
abbrev ı:=@List.getElem_inj
abbrev Ĳ:=@Nat.lt_succ_self
abbrev ĳ:=@if_true
abbrev Ĵ:=@List.foldl_append
abbrev ĵ:=@PyProof.Rows.slot_tuple_getitem
abbrev Ķ:=@List.drop_eq_getElem_cons
abbrev ķ:=@PySem.Obj.isFreed_of_fields
abbrev ĸ:=@PySem.wpAny_notOrdered_dict
abbrev Ĺ:=@List.getElem?_toArray
abbrev ĺ:=@PySem.wpAny_pyIter_tuple
abbrev Ļ:=@PySem.Calls.spliced_cons
abbrev ļ:=@PySem.wpAny_Call_Name_kw
abbrev Ľ:=@Nat.testBit_succ
abbrev ľ:=@Nat.zero_add
abbrev Ŀ:=@List.length_filterMap_le
abbrev ŀ:=@List.map_take
abbrev Ł:=@Nat.eq_of_testBit_eq
abbrev ł:=@List.eq_nil_of_length_eq_zero
abbrev Ń:=@PySem.F.slot_dict_itemiterator_next
abbrev ń:=@bne_self_eq_false
abbrev Ņ:=@PySem.F.plainAttrs_dict
abbrev ņ:=@List.length_nil
abbrev Ň:=@PySem.F.slot_dict_keyiterator_next
abbrev ň:=@Nat.min_eq_left
abbrev Ŋ:=@List.range_succ
abbrev ŋ:=@beq_eq_false_iff_ne
abbrev Ō:=@List.flatMap_append
abbrev ō:=@Nat.add_comm
abbrev Ŏ:=@List.length_pos_of_mem
abbrev ŏ:=@List.drop_of_length_le
abbrev Ő:=@Nat.succ_le_succ
abbrev ő:=@PySem.F.plain_min_loop
abbrev Œ:=@Bool.false_and
abbrev œ:=@PySem.tupleKind_room_in1
abbrev Ŕ:=@Nat.mod_two_eq_zero_or_one
abbrev ŕ:=@List.filter_append
abbrev Ŗ:=@PySem.F.slot_tuple_iterator_next
abbrev ŗ:=@List.forIn_nil
abbrev Ř:=@List.lt_irrefl
abbrev ř:=@PySem.builtinLookup_eq_fast
abbrev Ś:=@List.pairwise_iff_getElem
abbrev ś:=@List.mem_or_eq_of_mem_set
abbrev Ŝ:=@Option.map_some
abbrev ŝ:=@PySem.wpAny_passesOwn
abbrev Ş:=@Nat.testBit_and
abbrev ş:=@Nat.testBit_xor
abbrev Š:=@List.foldl_cons
abbrev š:=@PySem.PassesOwn.never
abbrev Ţ:=@PySem.wpAny_pyIter_list
abbrev ţ:=@PySem.Calls.spliced_nil
abbrev Ť:=@PySem.codeAny_mono
abbrev ť:=@Option.isSome_map
abbrev Ŧ:=@PySem.wpAny_letGo
abbrev ŧ:=@PySem.wpAny_setState_of
abbrev Ũ:=@List.flatMap_cons
abbrev ũ:=@PySem.wpAny_attempt
abbrev Ū:=@PySem.F.slot_list_extend
abbrev ū:=@PySem.F.type_list_extend
abbrev Ŭ:=@PySem.mem_of_lookup
abbrev ŭ:=@List.getElem?_range
abbrev Ů:=@PyProof.Rows.callWith_builtin1
abbrev ů:=@List.filter_cons
abbrev Ű:=@PySem.F.plain_list_iadd
abbrev ű:=@PySem.wpAny_askSetting
abbrev Ų:=@Nat.min_eq_right
abbrev ų:=@List.countP_cons_of_pos
abbrev Ŵ:=@List.getElem?_set_self
abbrev ŵ:=@PySem.wpAny_typeOf
abbrev Ŷ:=@Nat.sub_zero
abbrev ŷ:=@Nat.add_sub_cancel
abbrev Ÿ:=@PySem.wpAny_tupleItemsOf
abbrev Ź:=@Option.map_eq_none_iff
abbrev ź:=@Int.emod_lt_of_pos
abbrev Ż:=@List.flatMap_singleton
abbrev ż:=@List.map_singleton
abbrev Ž:=@List.find?_cons_of_pos
abbrev ž:=@List.find?_cons_of_neg
abbrev Α:=@PySem.wpAny_specialOf
abbrev Β:=@PySem.wpAny_dictEpoch
abbrev Δ:=@List.find?_some
abbrev Ε:=@Bool.true_and
abbrev Ζ:=@PySem.wpAny_isOneOf_keyiter
abbrev Η:=@PySem.isSubtype_tuple_tuple
abbrev Θ:=@List.Pairwise.sublist
abbrev Ι:=@PySem.Obj.cls_mapFields
abbrev Κ:=@List.getElem?_set_ne
abbrev Λ:=@PySem.Calls.evalArgs_plain
abbrev Μ:=@List.nodup_nil
abbrev Ν:=@Nat.pow_le_pow_right
abbrev Ξ:=@Array.perm_iff_toList_perm
abbrev Ο:=@PySem.Obj.data_mapDictKeys
abbrev Ρ:=@List.cons_append
abbrev Τ:=@Nat.le_of_eq
abbrev Υ:=@Nat.lt_trans
abbrev Φ:=@List.all_eq_true
abbrev Χ:=@Nat.le_add_right
abbrev Ψ:=@Nat.sub_self
abbrev Ω:=@Nat.add_le_add_left
abbrev δ:=@Int.toNat_of_nonneg
abbrev ε:=@List.any_cons
abbrev ζ:=@List.length_erase_of_mem
abbrev η:=@Nat.add_assoc
abbrev θ:=@Bool.eq_iff_iff
abbrev ι:=@PySem.typeLookup_type
abbrev ν:=@PySem.wpAny_updateSeq
abbrev ξ:=@List.zip_cons_cons
abbrev ο:=@List.pairwise_cons
abbrev π:=@Nat.lt_or_eq_of_le
abbrev ρ:=@LawfulBEq.eq_of_beq
abbrev ς:=@PySem.wpAny_Call_method0_late
abbrev τ:=@PySem.wpAny_of_eq
abbrev υ:=@PySem.F.slot_dict_items
abbrev χ:=@PyProof.Rows.F.plain_set_update_loop
abbrev ψ:=@Nat.add_sub_cancel_left
abbrev ω:=@PySem.wpAny_pyIter_enum
abbrev ϲ:=List<|List<|PySem.Str×List Nat×Int
abbrev ϳ:=List<|PySem.Str×List Nat×Int
abbrev ϴ:=PySem.Str×List Nat×Int
abbrev ϵ:=List<|PySem.Str×List Nat
abbrev ϶:=PySem.Value->PySem.Shared->Prop
abbrev Ϸ:=List<|PySem.Addr×PySem.Obj
abbrev ϸ:=List<|Option<|Nat×Nat
abbrev Ϲ:=Option<|Nat×Nat
abbrev ϊ:=List
abbrev ϋ:=PySem.Value
abbrev ό:=PySem.Addr
abbrev ύ:=Option
abbrev ώ:=PySem.Shared
abbrev Ϗ:=PySem.W.Frag
abbrev ϐ:=PySem.Str
abbrev ϑ:=Bool
abbrev ϒ:=PySem.Heap
abbrev ϓ:=PySem.Program
abbrev ϔ:=Array
abbrev ϕ:=PySem.World
abbrev ϖ:=PySem.Around
set_option Elab.async false
set_option linter.all false
set_option maxRecDepth 100000
noncomputable section
local macro_rules|`(↑$x)=>`(($x).length)
local macro_rules|`(tactic|ac_nf)=>`(tactic|decide+kernel)
set_option maxHeartbeats 4000000
local macro_rules|`(tactic|rfl')=>`(tactic|first|lia|omega)
local macro_rules|`(tactic|show $e)=>`(tactic|refine $e)
local macro_rules|`(!$e)=>`(some $e)
local macro_rules|`(#[$a,*])=>`(⟨$a,*⟩)
local macro_rules | `(tactic| let $p:term $[:$t]? :=$e)=>do
 let rec g:Nat->Lean.Term->Lean.MacroM (Lean.TSyntax `Lean.Parser.Tactic.rcasesPatMed)
  |0,_=>Lean.Macro.throwUnsupported
  |n+1,t=>do
   match t with
   |`(#[$a,*])=>do
    let b<-a.getElems.mapM (g n)
    `(Lean.Parser.Tactic.rcasesPatMed|⟨$[$b:rcasesPatMed],*⟩)
   |`($i:ident)=>`(Lean.Parser.Tactic.rcasesPatMed|$i:ident)
   |_=>`(Lean.Parser.Tactic.rcasesPatMed|_)
 `(tactic| obtain $(<-g 9 p):rcasesPatMed $[:$t]? :=$e)
local macro_rules|`(())=>`(by rfl')
namespace L2
open PySem
noncomputable def dC(s:Stmt):Arguments:=match s with
 |.FunctionDef _ a _ _ _ _ _ _ _ _=>a
 |_=>{posonlyargs:=[],args:=[],vararg:=none,kwonlyargs:=[],kw_defaults:=[],kwarg:=none,defaults:=[] }
noncomputable def cU(s:Stmt):ϊ Stmt:=match s with
 |.FunctionDef _ _ b _ _ _ _ _ _ _=>b
 |_=>[]
noncomputable def aZ(s:Stmt):Scope:=match s with
 |.FunctionDef _ _ _ _ _ _ sc _ _ _=>sc
 |_=>{kind:=.function,names:=[],isGenerator:=false,isCoroutine:=false}
end L2
noncomputable abbrev pWo:=PySem.Challenge.pw_blotsure_k82_whole_no_greater
abbrev L1S:=ϊ<|PySem.Str×Int
abbrev L2S:=ϊ L1S
namespace Pg
open PySem L2 PySem.W
set_option maxHeartbeats 0
def top(i:Nat):Stmt:=pWo.main.body.getD i<|.Pass #[0,0,0,0]
noncomputable def live:Obj->ύ Obj|⟨_,_,.freed,_⟩=>none|o=>!o
def Ie(h:ϒ)(a:ό):h.get? a=h.objs[a]?.bind live:=by
 unfold Heap.get?;cases h.objs[a]?with
 |none=>rfl
 |some o=>let#[_,_,d,_]:=o;cases d<;>rfl
def RM:ϊ Obj->Nat->ϊ ό->Frag
 |o::os,i,a::as=>if a==i then((live o).map (a,·)).toList++RM os (i+1) as else RM os (i+1) (a::as)
 |_,_,_=>[]
theorem Ig:∀{l:ϊ Obj}{i:Nat}{d:ϊ ό},(RM l i d).lookup b=!x->∃j,b=i+j/\l[j]?.bind live=!x
 |[],i,d,e=>by simp[RM]at e
 |o::os,i,[],e=>by simp[RM]at e
 |o::os,i,a::d,e=>by
  have r:∀c,(RM os (i+1) c).lookup b=!x->∃j,b=i+j/\(o::os)[j]?.bind live=!x:=λc q=>by
   let#[j,rfl,k]:=Ig q;show#[j+1,Nat.succ_add_eq_add_succ i j,k]
  unfold RM at e;split at e
  .rename_i z;cases q:live o with
   |none=>rw[q]at e;show r _ e
   |some y=>
    rw[q]at e;simp only[Ŝ,Option.toList_some,Ρ,List.nil_append,į]at e;split at e
    .rename_i u;cases e;rw[ρ u,ρ z];show#[0,rfl,q]
    .show r _ e
  .show r _ e
def Y9(as:ϊ ό)(h:ϒ):Frag:=RM h.objs.toList 0 as
def Oj:(Y9 a h).In h:=λb o e=>by
 let#[j,rfl,k]:=Ig e;rw[Ie,ľ];simpa using k
abbrev DO:=ϐ×ϐ×Arguments×FuncBody×Scope×ό×ϊ (ϐ×ό)×ό×ϑ×ϑ
noncomputable def RN(K:Frag)(n:ϐ):ύ (ύ ό×DO):=match nsIn K mainGlobals n with
 |some !(.ref f)=>match K.lookup f with
  |some ⟨_,_,.func d,_⟩=>(match d.defaults with|.none=>!none|.ref t=>!(!t)|_=>none).map λt=>(t,d.name,d.qualname,d.params,d.body,d.scope,d.globals,d.closure,d.builtins,codeIn K d.code n,keepIn K<|.ref f)
  |_=>none
 |_=>none
def RP(t:ύ ό)(n:ϐ)(i:Nat):ύ (ύ ό×DO):=!(t,n,n,dC<|top i,.stmts<|cU<|top i,aZ<|top i,mainGlobals,[],builtinsNs,true,true)
noncomputable def exB(K:Frag)(C:ό):ϑ×ϊ (ύ<|ύ ϋ)×ϊ (ύ ϑ):=
 (excIn K C [.type "ValueError",.type "Exception",.type "BaseException",.type "object"] "ValueError.__new__",[findIn K (.ref C) "__getattribute__",findIn K (.ref C) "__getattr__",findIn K (.ref C) "__class__",specialIn K (.builtin "object.__class__") "__get__"],[takesIn K<|.builtin "object.__class__",mroIn K C<|.type "object",subIn K (.ref C)<|.type "BaseException"])
noncomputable def RQ:ϑ×ϊ (ύ<|ύ ϋ)×ϊ (ύ ϑ):=(true,[!(!(.builtin "BaseException.__getattribute__")),!none,!(!(.builtin "object.__class__")),!(!(.builtin "getset_descriptor.__get__"))],[!true,!true,!true])
noncomputable def obT(K:Frag)(a:ό):ύ (ϋ×ϊ ϋ):=match K.lookup a with
 |some ⟨c,_,.seq its _,_⟩=>!(c,its.toList)
 |_=>none
noncomputable def nms:ϊ ϐ:=(["isinstance","bool","int","len","str","ord","range","sum","zip","list","dict","min","enumerate","max","tuple","sorted","set","all","GREATEST_HEIGHT","LEFT_OUT","MOST_COLUMNS","MOST_LETTERS","MOST_ROOMS","GREATEST_ON_WHEEL","BlotError","NotAlike","OffStrip","NoFont","NoSign","NoHouse","PLAIN_WHEEL"]:ϊ String).map Str.ofString
noncomputable def vls:ϊ (ύ<|ύ ϋ):=[!none,!none,!none,!none,!none,!none,!none,!none,!none,!none,!none,!none,!none,!none,!none,!none,!none,!none,!(!(.int 60 189)),!(!(.int 37 191)),!(!(.int 8 561)),!(!(.int 40 559)),!(!(.int 40 595)),!(!(.int 1000 643)),!(!(.ref 71)),!(!(.ref 84)),!(!(.ref 96)),!(!(.ref 108)),!(!(.ref 120)),!(!(.ref 132)),!(!(.ref 327))]
noncomputable def XJ:ϊ (ϐ×Nat):=((["is_whole","is_height","is_sign","is_column","inked","lines_of","apart","check_alike","gap","spots_apart","turned","lettered","ways_of","costs_over","texts_to_rooms","stand_behind","forks","steps_by","all_steps","steps_back","is_even","let_wait","rests","grown","texts_of_fork","step_on","led_on","farness","mends","made_letter","make_font","columns_of","check_rooms","check_room","made_doors","made_ends","make_house","free","beginnings","numbers_of","book","check_wheel","sums_doors","gaps_at","thing_through","merged","thing_at","near_paper","first_way","first_text","nearest","set_text","halfway","_law_cell_at","_law_mixed","_law_signs_by","_law_letters_by","_law_drawn_house","_law_word_by","_law_house_by","_law_takes","_law_picture","_law_unlike","_law_whole","_law_pair_good","_law_reading_good","law"]:ϊ String).map Str.ofString).zip [3,4,5,6,7,8,9,20,18,19,21,24,23,28,27,29,26,30,31,35,36,34,33,39,38,41,40,37,42,47,46,48,52,55,53,54,51,59,61,62,60,64,65,68,70,71,69,67,74,73,72,76,78,80,81,82,83,84,85,86,87,88,89,90,91,92,93]
noncomputable def obs(K:Frag):=(nms.map<|nsIn K mainGlobals,XJ.map<|λd=>RN K d.1,[71,84,96,108,120,132].map<|exB K,[RN K "sums"],[352,327].map<|obT K)
noncomputable def ans:ϊ (ύ (ύ ϋ))×ϊ (ύ (ύ ό×DO))×ϊ (ϑ×ϊ (ύ (ύ ϋ))×ϊ (ύ ϑ))×ϊ (ύ (ύ ό×DO))×ϊ (ύ (ϋ×ϊ ϋ)):=(vls,XJ.map (λd=>RP none d.1 d.2),[RQ,RQ,RQ,RQ,RQ,RQ],[RP (!352) "sums" 63],[!(.type "tuple",[.none]),!(.type "tuple",[.int 1 641])])
def vw:ϓ:={pWo with main:={pWo.main with body:=[93].filterMap (pWo.main.body[·]?)}}
noncomputable def lo:ϊ ϐ:=(["GREATEST_HEIGHT","LEFT_OUT","is_whole","is_height","is_sign","is_column","inked","lines_of","apart","BlotError","NotAlike","OffStrip","NoFont","NoSign","NoHouse","gap","spots_apart","check_alike","turned","ways_of","lettered","forks","texts_to_rooms","costs_over","stand_behind","steps_by","all_steps","rests","let_wait","steps_back","is_even","farness","texts_of_fork","grown","led_on","step_on","mends","MOST_LETTERS","MOST_COLUMNS","make_font","made_letter","columns_of","MOST_ROOMS","make_house","check_rooms","made_doors","made_ends","check_room","PLAIN_WHEEL","GREATEST_ON_WHEEL","free","book","beginnings","numbers_of","sums","check_wheel","sums_doors","near_paper","gaps_at","thing_at","thing_through","merged","nearest","first_text","first_way","set_text","halfway","_law_cell_at","_law_mixed","_law_signs_by","_law_letters_by","_law_drawn_house","_law_word_by","_law_house_by","_law_takes","_law_picture","_law_unlike","_law_whole","_law_pair_good","_law_reading_good"]:ϊ String).map Str.ofString
theorem said:PySem.Challenge.rw_blotsure_k82_whole_no_greater.wellSaid=true:=by kernel_rfl
def spl{a b c:Type}{o:ύ a}{f:a->b}{g:a->c}{x:b}{y:c}(h:o.map f=!x)(k:o.map g=!y):o.map (λs=>(f s,g s))=!(x,y):=by cases o with|none=>cases h|some s=>cases h;cases k;rfl
def Yb(w:ϕ):(openEnds treeTable pWo w 7142).map (λs=>openSeen vw lo (importedModules pWo.main.body) (λs=>xlAt vw [] s&&recOk [] s) true s)=!(openGood vw lo):=by
 unfold openEnds fencedOpening topFrom;rw[PySem.W.Fast.te14082659384304107361,PySem.W.Fast.te10274390034422433532,PySem.W.Fast.te14289696077712309145,PySem.W.Fast.te1435165496053646825]
 kernel_rfl
noncomputable def ob(s:ώ):=obs<|Y9 [2,3,15,17,18,20,21,22,24,25,27,28,29,31,32,34,35,36,38,39,41,42,43,45,46,48,49,50,53,54,55,57,58,60,61,62,69,70,71,72,75,82,83,84,87,94,95,96,99,106,107,108,111,118,119,120,123,130,131,132,135,138,139,140,143,144,145,147,148,150,151,152,154,155,157,158,159,162,163,164,167,168,169,171,172,174,175,176,178,179,181,182,183,185,186,188,189,190,192,193,195,196,197,200,201,202,205,206,207,210,211,212,214,215,217,218,219,221,222,224,225,226,228,229,231,232,233,236,237,238,240,241,243,244,245,247,248,250,251,252,254,255,257,258,259,261,262,264,265,266,268,269,271,272,273,275,276,278,279,280,282,283,285,286,287,289,290,292,293,294,297,298,299,301,302,304,305,306,308,309,311,312,313,315,316,318,319,320,322,323,325,326,327,328,331,332,333,336,337,338,340,341,343,344,345,347,348,350,351,352,353,356,357,358,360,361,363,364,365,368,369,370,373,374,375,377,378,380,381,382,384,385,387,388,389,391,392,394,395,396,398,399,401,402,403,405,406,408,409,410,412,413,415,416,417,419,420,422,423,424,426,427,429,430,431,433,434,436,437,438,440,441,443,444,445,447,448,450,451,452,454,455,457,458,459,461,462,464,465,466,469,470,471,473,474,476,477,478,481,482,483,486,487,488,490,491,493,494,495,497,498,500,501,502,504,505,507,508,509,511,512,514,515,516,518,519,521,522,523,526,527] s.heap
def Yc(w:ϕ):(openEnds treeTable pWo w 7142).map ob=!ans:=by
 unfold openEnds fencedOpening topFrom;rw[PySem.W.Fast.te14082659384304107361,PySem.W.Fast.te10274390034422433532,PySem.W.Fast.te14289696077712309145,PySem.W.Fast.te1435165496053646825]
 kernel_rfl
theorem left:LeftO pWo vw lo (λs=>xlAt vw [] s&&recOk [] s) ob (λ_=>ans) 7142:=λw=>spl (Yb w)<|Yc w
end Pg
set_option Elab.async false
set_option linter.all false
set_option maxRecDepth 100000
namespace L2
open PySem PySem.Spec PyProof.Rows
variable{M:Model}{w:ϕ}{A:ϖ}{d':Drawn}{cd u:ϋ}{p:ό×Obj}{qual x:ϐ}{c e tg:Expr}{fd:FuncData}{i j n t':Nat}{op op':CmpOp}{pos pos':Pos}{s' s1:ώ}{a b dx it:ό}{an:ύ ό}{its:ϊ ϋ}{outer:ϊ Env}{sc scope:Scope}{ch fp:ϊ ό}{g:Int->Int->Int}{C:Int->Int->Prop}{params:Arguments}{body st:ϊ Stmt}{g':ϔ GenState}{E Q:϶}{mA mg:ϐ->ύ ϋ}{osl:ϔ (ύ ϋ)}{f:ϋ->ϋ->Sem ϋ}{gE pins':Ϸ}
abbrev Key:=Sum Int ϐ
noncomputable def lC:Key->ϋ->ϑ
 |.inl k,v=>Value.isInt k v
 |.inr x,v=>Value.isStrOf x v
noncomputable def a1k(w:ϕ):Key->Int
 |.inl k=>hashInt k
 |.inr x=>hashStr w x
theorem bu:∀{k:Key}{v:ϋ},lC k v=true->(∃i t,k=Sum.inl i/\v=Value.int i t)\/(∃x t,k=Sum.inr x/\v=Value.str x t)
 |.inl i,v,h=>by
  let#[t,e]:=Value.isInt_shape (k:=i) (v:=v) h;show .inl #[i,t,rfl,e]
 |.inr x,v,h=>by
  let#[t,e]:=Value.isStrOf_shape (x:=x) (v:=v) h;show .inr #[x,t,rfl,e]
theorem Gb(i:Int)(t:Tok):lC (.inl i) (.int i t)=true:=by simp[lC,Value.isInt]
theorem qR(x:ϐ)(t:Tok):lC (.inr x) (.str x t)=true:=by simp[lC,Value.isStrOf]
theorem Tq(a b:Int):decide ((Sum.inl a:Key)=Sum.inl b)=(a==b):=by
 by_cases e:a=b
 .subst e;simp
 .have h:¬(Sum.inl a:Key)=Sum.inl b:=λq=>e<|Sum.inl.inj q
  rw[Ø h];show(ŋ.mpr e).symm
theorem Tr(a b:ϐ):decide ((Sum.inr a:Key)=Sum.inr b)=decide (a=b):=by
 by_cases e:a=b
 .subst e;simp
 .have h:¬(Sum.inr a:Key)=Sum.inr b:=λq=>e<|İ q
  rw[Ø h,Ø e]
def Tt(a:Int)(b:ϐ):decide ((Sum.inl a:Key)=Sum.inr b)=false:=Ø<|λq=>nomatch q
def Tu(a:ϐ)(b:Int):decide ((Sum.inr a:Key)=Sum.inl b)=false:=Ø<|λq=>nomatch q
def bw(prog:ϓ)(w:ϕ):PySem.KeyKind prog w Key where
 is:=lC
 hash:=a1k w
 inj:=λv a b ha hb=>by
  rcases bu ha with⟨i,t,rfl,rfl⟩|⟨x,t,rfl,rfl⟩
  .rcases bu hb with⟨j,u,rfl,e⟩|⟨y,u,rfl,e⟩
   .injection e with e1 _;rw[e1]
   .show nomatch e
  .rcases bu hb with⟨j,u,rfl,e⟩|⟨y,u,rfl,e⟩
   .show nomatch e
   .injection e with e1 _;rw[e1]
 byValue:=λk v h=>by
  rcases bu h with⟨i,t,rfl,rfl⟩|⟨x,t,rfl,rfl⟩<;>rfl
 pyHash:=λhv h=>by
  rcases bu hv with⟨i,t,rfl,rfl⟩|⟨x,t,rfl,rfl⟩
  .show wpAny_pyHash_int h
  .show wpAny_pyHash_str h
 eqBool:=λhu hv h=>by
  rcases bu hu with⟨i,t,rfl,rfl⟩|⟨x,t,rfl,rfl⟩
  .rcases bu hv with⟨j,u,rfl,rfl⟩|⟨y,u,rfl,rfl⟩
   .rw [Tq]at h;show wpAny_eqBool_int h
   .rw [Tt]at h;show SeqAt.EqAt.int_str i t y u _ _ _ _ h
  .rcases bu hv with⟨j,u,rfl,rfl⟩|⟨y,u,rfl,rfl⟩
   .rw [Tu]at h;show SeqAt.EqAt.str_int x t j u _ _ _ _ h
   .rw [Tr]at h;show wpAny_eqBool_str h
 «strs»:=λk x t v h=>by
  rcases bu h with⟨i,u,rfl,e⟩|⟨y,u,rfl,e⟩
  .show nomatch e
  .injection e with e1 _
   subst e1
   cases v<;>rfl
def iC(a:ϓ)(w:ϕ)(k:Key)(v:ϋ):(bw a w).is k v=lC k v:=rfl
def vK(a:ϓ)(w:ϕ)(i:Int)(t:Tok):(bw a w).is (.inl i) (.int i t)=true:=Gb i t
def vL(a:ϓ)(w:ϕ)(x:ϐ)(t:Tok):(bw a w).is (.inr x) (.str x t)=true:=qR x t
inductive V where
 |non|bl (b:ϑ)|int (i:Int)|str (x:ϐ)|byt (b:ϔ UInt8)|flt (b:UInt64)|ref (a:ό)|ty (n:String)
 deriving DecidableEq
variable{v y:V}{σ':ϊ (ύ V)}
def RelV:V->ϋ->Prop
 |.non,u=>u=Value.none
 |.bl b,u=>u=Value.bool b
 |.int i,u=>∃t,u=Value.int i t
 |.str x,u=>∃t,u=Value.str x t
 |.byt b,u=>∃t,u=Value.bytes b t
 |.flt b,u=>∃t,u=Value.float b t
 |.ref a,u=>u=Value.ref a
 |.ty n,u=>u=Value.type n
abbrev Vals:ϊ V->ϊ ϋ->Prop:=Paired RelV
def Vals.length{b:ϊ V}{a:ϊ ϋ}(r:Vals b a):↑b=↑a:=ğ r
theorem Vals.get:∀{xs:ϊ V}{us:ϊ ϋ}{i:Nat}{x:V},Vals xs us->xs[i]?=!x->∃u,us[i]?=!u/\RelV x u
 |_,_,_,_,.nil,e=>by simp at e
 |_,_,0,_,.cons r _,e=>by simp at e;subst e;show#[_,rfl,r]
 |_,_,i+1,x,.cons _ t,e=>by
  let#[u,a,b]:=Vals.get (i:=i) (x:=x) t (by simpa using e);show#[u,by simpa using a,b]
theorem Vals.set{x:V}(r:RelV x u):∀{xs:ϊ V}{us:ϊ ϋ}(i:Nat),Vals xs us->Vals (xs.set i x) (us.set i u)
 |_,_,_,.nil=>.nil
 |_,_,0,.cons _ t=>.cons r t
 |_,_,i+1,.cons q t=>.cons q (Vals.set r i t)
theorem Vals.append:∀{xs ys:ϊ V}{us a:ϊ ϋ},Vals xs us->Vals ys a->Vals (xs++ys) (us++a)
 |_,_,_,_,.nil,s=>s
 |_,_,_,_,.cons r t,s=>.cons r (Vals.append t s)
theorem Vals.take:∀{xs:ϊ V}{us:ϊ ϋ}(n:Nat),Vals xs us->Vals (xs.take n) (us.take n)
 |_,_,0,_=>.nil
 |_,_,_+1,.nil=>.nil
 |_,_,n+1,.cons r t=>.cons r (Vals.take n t)
theorem Vals.drop:∀{xs:ϊ V}{us:ϊ ϋ}(n:Nat),Vals xs us->Vals (xs.drop n) (us.drop n)
 |_,_,0,r=>r
 |_,_,_+1,.nil=>.nil
 |_,_,n+1,.cons _ t=>Vals.drop n t
def RelO:ύ V->ύ ϋ->Prop
 |some v,!u=>RelV v u
 |none,none=>True
 |_,_=>False
def KV{κ:Type}:ϊ (κ×V)->ϊ (κ×ϋ)->Prop:=Paired λ(p:κ×V) (q:κ×ϋ)=>p.1=q.1/\RelV p.2 q.2
noncomputable def kV:Key->V
 |.inl i=>.int i
 |.inr x=>.str x
inductive HO where
 |lst (xs:ϊ V)
 |tup (xs:ϊ V)
 |dK (kvs:ϊ<|Key×V)|dT (kvs:ϊ<|ϊ Key×V)
 |set (S:Int->ϑ) (n:Nat)
 |ins (C dx:ό) (fs:ϊ<|ϐ×V)
 |own (x:ό)
 |xd (fs:ϊ<|ϐ×V)
 |met (f x:ό)
 |rng (lo hi:Int)
 |frz (o:Obj) (u:HO)
 |tbl (ps:ϔ ϋ)
 |ext (φ:ϒ->Prop)
abbrev Hp:=ό->ύ HO
variable{H:Hp}{R:V->V->Hp->Prop}
noncomputable def upd(H:Hp)(a:ό)(o:HO):Hp:=λb=>if b=a then !o else H b
theorem aa:upd H a o a=!o:=by unfold upd;rw[if_pos rfl]
theorem ao(h:b≠a):upd H a o b=H b:=by unfold upd;rw[if_neg h]
theorem Ol{u:HO}:upd (upd H a o) a u=upd H a u:=by
 funext b;unfold upd;split<;>rfl
theorem bC{o u:HO}(h:H a=!o)(c:H b=!u)(d:o≠u):a≠b:=by
 intro e;subst e;rw[h]at c;show d<|Ü c
theorem aN{o:HO}(h:H a=!o)(c:H b=none):a≠b:=by
 intro e;subst e;rw[h]at c;cases c
section
variable(P:ϓ)(w:ϕ)
def ObjOk(H:Hp)(h:ϒ)(a:ό):HO->Prop
 |.lst xs=>↑xs<=sizeLine/\∃(its:ϊ ϋ)(n:Nat),Vals xs its/\h.get? a=!{cls:=.type "list",data:=.seq its.toArray n}
 |.tup xs=>↑xs<=sizeLine/\∃its:ϊ ϋ,Vals xs its/\IsTup h a its.toArray
 |.dK kvs=>↑kvs<=sizeLine/\(a==sysModules)=false/\∃vs,KV kvs vs/\h.DictOf (bw P w) a vs
 |.dT kvs=>↑kvs<=sizeLine/\(a==sysModules)=false/\∃xs:ϊ<|ϊ Key×ό×ϋ,
   Paired (λ(p:ϊ Key×V) (q:ϊ Key×ό×ϋ)=>p.1=q.1/\H q.2.1=!(.tup<|p.1.map kV)/\RelV p.2 q.2.2) kvs xs/\
   ∃o es ep,h.get? a=!o/\o.ExactDict/\o.data=.dict es ep/\es.toList=xs.map (entryOfKey<|tupleKind<|bw P w)/\(xs.map (·.1)).Nodup
 |.set S n=>h.SetOf (intKind P w) a S n
 |.ins C dx fs=>H dx=!(.own a)/\↑fs<=1000/\dx≠a/\h.get? a=!(PySem.W.instObj C dx)/\
   ∃mA,h.Ns1 dx mA/\(∀f,RelO (fs.lookup f)<|mA f)/\PySem.Within mA (fs.map (·.1))
 |.own _=>∃o,h.get? a=!o
 |.xd fs=>∃mA,h.Ns1 a mA/\∀f,RelO (fs.lookup f)<|mA f
 |.rng lo hi=>∃t u v,h.get? a=!{cls:=.type "range",data:=.fields<|[.int lo t,.int hi u,.int 1 v].toArray}
 |.frz o u=>h.get? a=!o/\ObjOk H h a u
 |.tbl ps=>h.get? a=!{cls:=.none,data:=.fields ps}
 |.met f x=>h.get? a=!(PySem.W.methodObj (.ref f)<|.ref x)
 |.ext φ=>φ h/\(∃o,h.get? a=!o)/\∀h1 h2:ϒ,φ h1->(∀o,h1.get? a=!o->h2.get? a=!o)->φ h2
def HOk(H:Hp)(h:ϒ):Prop:=∀a o,H a=!o->ObjOk P w H h a o
end
section
theorem ObjOk.lt(x:ObjOk P w H h a o):a<h.objs.size:=by
 cases o with
 |lst xs=>let#[_,_,_,_,e]:=x;show É e
 |tup xs=>let#[_,_,_,p]:=x;show p.lt
 |dK kvs=>let#[_,_,_,_,o,_,_,e,_]:=x;show É e
 |dT kvs=>let#[_,_,_,_,o,_,_,e,_]:=x;show É e
 |set S n=>let#[o,_,_,_,e,_]:=x;show É e
 |ins C dx fs=>let#[_,_,_,e,_]:=x;show É e
 |own y=>let#[_,e]:=x;show É e
 |xd fs=>let#[_,#[_,_,_,e,_],_]:=x;show É e
 |rng lo hi=>let#[_,_,_,e]:=x;show É e
 |frz ob u=>let#[e,_]:=x;show É e
 |tbl ps=>show É<|show h.get? a=!_ from x
 |met f y=>show É<|show h.get? a=!_ from x
 |ext φ=>let#[_,#[_,e],_]:=x;show É e
theorem Paired.mapP{d e:Type}{F G:d->e->Prop}:∀{c:ϊ d}{l₂:ϊ e},Paired F c l₂->(∀a b,F a b->G a b)->Paired G c l₂
 |_,_,.nil,_=>.nil
 |_,_,.cons r t,f=>.cons (f _ _ r)<|Paired.mapP t f
theorem ObjOk.stay(x:ObjOk P w H h a o)(k:∀b u,(b=a\/H b=!(.own a))->h.get? b=!u->h'.get? b=!u)
  (B:∀b,H b=!(.own a)->H' b=!(.own a)) (D:∀b xs,H b=!(.tup xs)->H' b=!(.tup xs)):ObjOk P w H' h' a o:=by
 induction o with
 |lst xs=>let#[z,j,n,r,e]:=x;show#[z,j,n,r,k _ _ (.inl rfl) e]
 |tup xs=>let#[z,j,r,ob,e,c]:=x;show#[z,j,r,ob,k _ _ (.inl rfl) e,c]
 |dK kvs=>let#[z,y,F,r,ob,i,g,e,c]:=x;show#[z,y,F,r,ob,i,g,k _ _ (.inl rfl) e,c]
 |dT kvs=>
  let#[z,y,xs,r,ob,i,g,e,c]:=x;show#[z,y,xs,Paired.mapP r λp q z=>#[z.1,D _ _ z.2.1,z.2.2],ob,i,g,k _ _ (.inl rfl) e,c]
 |set S n=>let#[ob,i,g,t,e,c]:=x;show#[ob,i,g,t,k _ _ (.inl rfl) e,c]
 |ins C dx fs=>
  let#[d,z,E,e,l,#[m,i,g,A,c],r]:=x;show#[B _ d,z,E,k _ _ (.inl rfl) e,l,#[m,i,g,k _ _ (.inr d) A,c],r]
 |own y=>let#[ob,e]:=x;show#[ob,k _ _ (.inl rfl) e]
 |xd fs=>let#[l,#[m,i,g,e,c],r]:=x;show#[l,#[m,i,g,k _ _ (.inl rfl) e,c],r]
 |rng lo hi=>let#[t,u,v,e]:=x;show#[t,u,v,k _ _ (.inl rfl) e]
 |frz ob u ih=>let#[e,q]:=x;show#[k _ _ (.inl rfl) e,ih q]
 |tbl ps=>
  have e:h.get? a=!{cls:=.none,data:=.fields ps}:=x;change h'.get? a=!{cls:=.none,data:=.fields ps};show k a _ (.inl rfl) e
 |met f y=>
  have e:h.get? a=!(PySem.W.methodObj (.ref f)<|.ref y):=x;change h'.get? a=!(PySem.W.methodObj (.ref f)<|.ref y);show k a _ (.inl rfl) e
 |ext φ=>let#[p,#[o,e],s]:=x;show#[s _ _ p λo q=>k _ _ (.inl rfl) q,#[o,k _ _ (.inl rfl) e],s]
theorem HOk.lt(x:HOk P w H h)(e:H a=!o):a<h.objs.size:=(x a o e).lt
theorem HOk.fresh(x:HOk P w H h)(e:h.objs.size<=a):H a=none:=by
 cases q:H a with
 |none=>rfl
 |some u=>show absurd (Ó (x.lt q) e)<|ą _
theorem HOk.kept(x:HOk P w H h)(k:∀b u,h.get? b=!u->h'.get? b=!u):HOk P w H h':=λa o e=>
 (x a o e).stay (λb u _ q=>k b u q) (λ_ q=>q) λ_ _ q=>q
theorem HOk.laid(x:HOk P w H h)(k:∀b u,h.get? b=!u->h'.get? b=!u)(i:h.objs.size<=a)(d:ObjOk P w (upd H a o) h' a o):HOk P w (upd H a o) h':=λb u e=>by
 have g:=x.fresh i;by_cases f:b=a
 .subst f;rw[aa]at e;cases e;show d
 .rw [ao f]at e;show(x b u e).stay (λc v _ q=>k c v q) (λc q=>by rw[ao<|aN q g];show q) λc j q=>by rw[ao<|aN q g];show q
end
def Rd(H:Hp)(a:ό)(u:HO):Prop:=H a=!u\/∃o,H a=!(.frz o u)
def Rd.of{u:HO}(h:H a=!u):Rd H a u:=.inl h
theorem Rd.ok{u:HO}(r:Rd H a u)(x:HOk P w H h):ObjOk P w H h a u:=by
 rcases r with r|⟨o,r⟩
 .show x a u r
 .obtain ⟨_,q⟩:=x a _ r;show q
def Yd:ύ HO->Prop
 |some (.lst _)=>True
 |some (.dK _)=>True
 |some (.dT _)=>True
 |some (.set _ _)=>True
 |some (.ins _ _ _)=>True
 |some (.ext _)=>True
 |_=>False
section
variable{P:ϓ}{w:ϕ}{H:Hp}{h h':ϒ}{x e:ό}{o':HO}
theorem HOk.write(s:HOk P w H h)(i:Yd<|H x)(n:e=x\/H e=!(.own x))(k:∀b u,b≠e->h.get? b=!u->h'.get? b=!u)(l:∃u,h'.get? e=!u)
  (m:ObjOk P w (upd H x o') h' x o'):HOk P w (upd H x o') h':=λb u q=>by
 have d:∀c y,H c=!(.own y)->c≠x:=λc y r z=>by subst z;rw[r]at i;show i
 have f:∀c j,H c=!(.tup j)->c≠x:=λc j r z=>by subst z;rw[r]at i;show i
 by_cases g:b=x
 .subst g;rw[aa]at q;cases q;show m
 .rw [ao g]at q;by_cases a:b=e
  .have o:H b=!(.own x):=by
    rcases n with z|z
    .show absurd (a.trans z) g
    .rw [a];show z
   rw[q]at o;cases o;let#[v,p]:=l;show#[v,by rw[a];show p]
  .show (s b u q).stay (λc v hc r=>k c v ?_ r) (λc r=>by rw[ao<|d c b r];show r) λc j r=>by rw[ao<|f c j r];show r
   rcases hc with rfl|hc
   .show a
   .rintro rfl;rcases n with z|z
    .show d c b hc z
    .rw [hc]at z;cases z;show g rfl
end
structure Un(fs ex:ϊ ό)(H H':Hp)(h h':ϒ):Prop where
 keep:∀b o,h.get? b=!o->H b=none->b∉fs->b∉ex->h'.get? b=!o
 slot:∀b o,h.get? b=!o->H b=none->b∈fs->b∉ex->∃sl,h'.get? b=!{o with slots:=sl}
 free:∀b o,h.get? b=!o->H b=none->b∉ex->H' b=none
 there:∀b o,h.get? b=!o->b∉ex->∃o',h'.get? b=!o'
 tups:∀b xs,H b=!(.tup xs)->H' b=!(.tup xs)
 frzs:∀b o u,H b=!(.frz o u)->H' b=!(.frz o u)
 tbls:∀b ps,H b=!(.tbl ps)->∃more,H' b=!(.tbl<|ps++more)
section
variable{fs ex:ϊ ό}{H:Hp}{h h':ϒ}{a x e:ό}{o:HO}
theorem Un.any(u:Un fs ex H H1 h h1)(q:h.get? b=!ob)(n:H b=none)(c:b∉ex):∃sl,h1.get? b=!{ob with slots:=sl}:=by
 by_cases a:b∈fs
 .show u.slot b ob q n a c
 .show #[ob.slots,u.keep b ob q n a c]
theorem Un.kept(k:∀b u,h.get? b=!u->h'.get? b=!u):Un fs ex H H h h':=
 #[λb ob q _ _ _=>k b ob q,λb ob q _ _ _=>#[ob.slots,k b ob q],λ_ _ _ n _=>n,λb ob q _=>#[ob,k b ob q],λ_ _ q=>q,λ_ _ _ q=>q,λ_ a q=>#[([].toArray),by rw[q];simp]]
def Un.refl:Un fs ex H H h h:=Un.kept λ_ _ q=>q
theorem Un.laid(k:∀b u,h.get? b=!u->h'.get? b=!u)(d:h.objs.size<=a)(c:H a=none):Un fs ex H (upd H a o) h h' where
 keep:=λb u q _ _ _=>k b u q
 slot:=λb u q _ _ _=>#[u.slots,k b u q]
 free:=λb u q n _=>by rw[ao<|Ú<|Ó (É q) d];show n
 there:=λb u q _=>#[u,k b u q]
 tups:=λb e q=>by rw[ao<|aN q c];show q
 frzs:=λb u e q=>by rw[ao<|aN q c];show q
 tbls:=λb f q=>#[([].toArray),by rw[ao<|aN q c,q];simp]
theorem Un.write(c:Yd<|H x)(j:e=x\/H e=!(.own x))(k:∀b u,b≠e->h.get? b=!u->h'.get? b=!u)(d:∃u,h'.get? e=!u):Un fs ex H (upd H x o) h h':=by
 have i:∀b,H b=none->b≠x:=λb n z=>by subst z;rw[n]at c;show c
 have g:∀b,H b=none->b≠e:=λb n z=>by
  subst z;rcases j with r|r
  .show i b n r
  .rw [n]at r;cases r
 have f:∀b u,H b=!u-> ¬Yd !u->b≠x:=λb u q l z=>by subst z;rw[q]at c;show l c
 show⟨λb u q n _ _=>k b u (g b n) q,λb u q n _ _=>⟨u.slots,k b u (g b n) q⟩,λb u q n _=>by rw[ao<|i b n];show n,λb u q _=>?_,
  λb m q=>by rw[ao<|f b _ q λz=>z];show q,λb u m q=>by rw[ao<|f b _ q λz=>z];show q,λb p q=>⟨([].toArray),by rw[ao<|f b _ q λz=>z,q];simp⟩⟩
 by_cases a:b=e
 .subst a;show d
 .show #[u,k b u a q]
end
noncomputable def trk(h:ϒ)(H:Hp):ϊ ό:=(List.range h.objs.size).filter λa=>(H a).isSome
def tH(h:ϒ)(H:Hp):ϒ:=PySem.W.hideAll h<|trk h H
def Gd(h:ϒ)(H:Hp):(tH h H).objs.size=h.objs.size:=PySem.W.hideAll_size _ _
theorem Ih(e:h.get? b=!o)(n:H b=none):(tH h H).get? b=!o:=
 PySem.W.hideAll_get _ e λa=>by
  have q:(H b).isSome=true:=(ī.mp a).2;rw[n]at q;simp at q
theorem Om(e:(tH h H).get? b=!o):h.get? b=!o/\H b=none:=by
 have a:h.get? b=!o:=PySem.W.of_hideAll (trk h H) e;show#[a,?_]
 cases q:H b with
 |none=>rfl
 |some x=>
  have c:b∈trk h H:=ī.mpr #[List.mem_range.mpr<|É a,by simp[q]];have z:(tH h H).get? b=none:=PySem.W.hideAll_none (trk h H) c;rw[z]at e;cases e
noncomputable def Oo(g h:ϒ)(L:ό):Ϸ:=(List.range h.objs.size).filterMap λa=>if a=L\/(g.get? a).isSome=true then none else(h.get? a).map λo=>(a,o)
def rest(g h:ϒ)(L d:ό):Ϸ:=(Oo g h L).filter λp=>decide<|p.1≠d
structure Mod(K:Ϗ)(mg:ϐ->ύ ϋ)(base:ϒ):Prop where
 kin:K.In base
 glob:base.Ns mainGlobals mg
 blt:∃mb,base.Ns builtinsNs mb/\∀x:ϐ,x≠"__name__"->mb x=bootBuiltins x
 nolimit:base.NoLimit
structure Cx where
 prog:ϓ
 w:ϕ
 K:Ϗ
 mg:ϐ->ύ ϋ
 base:ϒ
 A:ϖ
 N:ϊ ϐ
 s₀:ώ
 H₀:Hp
 env:Env
 outer:ϊ Env
 stack:ϊ Env
 ex:ϊ ό
 fn:ϐ->ϑ
 calm:ϑ
 pn:Ϸ
 xe:ϋ->ώ->Prop
noncomputable def frs(l:ϊ Env):ϊ ό:=l.filterMap (·.frame)
abbrev Cx.fs(X:Cx):ϊ ό:=frs X.outer
def Vis(sc:Scope)(x:ϐ):Prop:=sc.names.lookup x=!.local\/sc.names.lookup x=!.cell\/sc.names.lookup x=!.free
def Loc(sc:Scope)(x:ϐ):Prop:=sc.names.lookup x=!.local\/sc.names.lookup x=!.cell
def Look(env:Env)(h:ϒ)(m:ϐ->ύ ϋ)(x:ϐ)(u:ϋ):Prop:=
 (env.kindOf x=!.local/\m x=!u)\/((env.kindOf x=!.cell\/env.kindOf x=!.free)/\∃c,env.cells.lookup x=!c/\h.IsCell c !u)
structure Cx.Ok(X:Cx):Prop where
 mod:Mod X.K X.mg X.base
 kind:X.env.scope.kind=.function
 glob:X.env.globals=mainGlobals
 blt:X.env.builtins=builtinsNs
 above:X.s₀.heap.objs.size<=X.env.locals
 inj:∀x y c,X.env.cells.lookup x=!c->X.env.cells.lookup y=!c->x=y
 has:∀x,(X.env.kindOf x=!.cell\/X.env.kindOf x=!.free)->∃c,X.env.cells.lookup x=!c
 cab:∀x c,X.fn x=true->X.env.cells.lookup x=!c->X.s₀.heap.objs.size<=c
 hd:X.calm=true->X.A.handled=none
 frames:X.A.frames=!X.stack
 stk:X.stack=X.outer\/(X.stack=X.env::X.outer/\X.env.frame=!X.env.locals)
 exf:∀b∈X.ex,b≠X.env.locals/\∀x c,X.env.cells.lookup x=!c->c≠b
 bs:∀b o,X.base.get? b=!o->X.s₀.heap.get? b=!o/\X.H₀ b=none
 bsz:X.base.objs.size<=X.s₀.heap.objs.size
 noex:∀b o,X.base.get? b=!o->b∉X.ex
 exfs:∀b∈X.ex,b∉X.fs
 funs:X.s₀.heap.FunFrames X.base X.outer
 frf:∀b∈X.fs,X.H₀ b=none
structure Inv(X:Cx)(gE:Ϸ)(σ:ϊ (ύ V))(H:Hp)(s:ώ):Prop where
 ok:X.Ok
 os:s.os=X.s₀.os
 bare:AllBare s.gens
 base:Un X.fs X.ex X.H₀ H X.s₀.heap s.heap
 loc:∃m,s.heap.Ns X.env.locals m/\∀(i:Nat)(x:ϐ)(v:V),X.N[i]?=!x->σ[i]?=!(!v)->Vis X.env.scope x->∃u,RelV v u/\Look X.env s.heap m x u
 cell:∀x c,X.env.cells.lookup x=!c->∃v,s.heap.IsCell c v
 free:H X.env.locals=none
 freeC:∀x c,X.env.cells.lookup x=!c->H c=none
 pin:∀p∈X.pn++gE,s.heap.get? p.1=!p.2/\H p.1=none/\p.1≠X.env.locals/\p.1∉X.fs/\∀v,p.2.data≠.cell v
 hok:HOk X.prog X.w H s.heap
 len:↑σ=↑X.N
section
variable{X:Cx}
theorem Cx.Ok.nofr(c:X.Ok)(e:X.base.get? b=!o):b∉X.fs:=λa=>by
 have:=(c.funs.mem a).1;rw[e]at this;cases this
theorem Inv.bs(I:Inv X gE σ H s):∀b o,X.base.get? b=!o->s.heap.get? b=!o/\H b=none:=λb o e=>
 #[I.base.keep b o (I.ok.bs b o e).1 (I.ok.bs b o e).2 (I.ok.nofr e)<|I.ok.noex b o e,I.base.free b o (I.ok.bs b o e).1 (I.ok.bs b o e).2<|I.ok.noex b o e]
theorem Inv.bk(I:Inv X gE σ H s):∀b o,X.base.get? b=!o->s.heap.get? b=!o:=λb o e=>(I.bs b o e).1
theorem Inv.mod(I:Inv X gE σ H s):Mod X.K X.mg X.base:=I.ok.mod
def Inv.kIn(I:Inv X gE σ H s):X.K.In s.heap:=I.ok.mod.kin.keeps I.bk
theorem Inv.lt(I:Inv X gE σ H s):X.env.locals<s.heap.objs.size:=let⟨_,hn,_⟩:=I.loc;hn.lt
def Inv.sz(I:Inv X gE σ H s):X.s₀.heap.objs.size<=s.heap.objs.size:=Ð I.ok.above<|ì I.lt
theorem Inv.nofs(I:Inv X gE σ H s)(h:s.heap.objs.size<=a):a∉X.fs:=λb=>by
 let#[_,o,c,_]:=I.ok.funs.mem b;show absurd (Ó (É c)<|Ð I.sz h)<|ą _
theorem Inv.cne(I:Inv X gE σ H s):∀x c,X.env.cells.lookup x=!c->c≠X.env.locals:=λx c e z=>by
 let#[v,o,f,d]:=I.cell x c e;let#[m,#[i,h,g,b,a,_],_]:=I.loc;rw[z,b]at f;cases f;rw[a]at d;cases d
theorem Inv.funs(I:Inv X gE σ H s):s.heap.FunFrames X.base X.outer:=by
 have a:∀(l:ϊ Env),(∀b∈frs l,b∈X.fs)->X.s₀.heap.FunFrames X.base l->s.heap.FunFrames X.base l:=by
  intro l;induction l with
  |nil=>intro _ _;trivial
  |cons env r ih=>
   intro g j;let#[i,#[L,o,f,k,m,h],n]:=j;have c:L∈X.fs:=g L (by unfold frs;rw[ĥ,f];show Ì);let#[p,e]:=I.base.slot L o m (I.ok.frf L c) c λz=>I.ok.exfs L z c
   show#[i,#[L,_,f,k,e,h],ih (λb d=>g b<|by unfold frs;rw[ĥ,f];show Ç _ d) n]
 show a X.outer (λ_ d=>d) I.ok.funs
theorem Inv.stack(I:Inv X gE σ H s):s.heap.FunFrames X.base X.stack:=by
 rcases I.ok.stk with e|⟨e,hf⟩
 .rw [e];show I.funs
 .rw [e];let#[m,a,_]:=I.loc;show .cons (by rw[I.ok.kind];decide) hf a ?_ I.funs;show Heap.get?_none_of_le<|Ð I.ok.bsz I.ok.above
theorem Inv.stkSub(I:Inv X gE σ H s):∀b∈frs X.stack,b∈X.env.locals::X.fs:=λb a=>by
 rcases I.ok.stk with e|⟨e,hf⟩
 .rw [e]at a;show Ç _ a
 .rw [e]at a;unfold frs at a;rw[ĥ,hf]at a;show a
theorem Inv.stkFree(I:Inv X gE σ H s):∀b∈frs X.stack,H b=none:=λb hb=>by
 rcases Æ.mp (I.stkSub b hb)with e|hb
 .rw [e];show I.free
 .obtain ⟨_,o,a,_⟩:=I.ok.funs.mem hb;show I.base.free b o a (I.ok.frf b hb) λz=>I.ok.exfs b z hb
theorem Inv.step(I:Inv X gE σ H s)
  (h:∀b∈ch,(b∈X.ex\/X.s₀.heap.objs.size<=b)/\b≠X.env.locals/\(∀x c,X.env.cells.lookup x=!c->c≠b)/\∀p∈X.pn++gE,p.1≠b)
  (j:∀b o,b≠X.env.locals->b∉X.fs->b∉ch->s.heap.get? b=!o->H b=none->h'.get? b=!o)
  (A:∀b o,b≠X.env.locals->b∈X.fs->b∉ch->s.heap.get? b=!o->H b=none->∃sl,h'.get? b=!{o with slots:=sl}) (f:∀b o,b∉ch->s.heap.get? b=!o->H b=none->H' b=none)
  (C:∀b o,b∉ch->s.heap.get? b=!o->∃o',h'.get? b=!o')
  (L:∀b xs,H b=!(.tup xs)->H' b=!(.tup xs)) (F:∀b o u,H b=!(.frz o u)->H' b=!(.frz o u)) (K:∀b ps,H b=!(.tbl ps)->∃G,H' b=!(.tbl<|ps++G))
  (ns:∀m,s.heap.Ns X.env.locals m->h'.Ns X.env.locals m) (N:HOk X.prog X.w H' h') (U:AllBare g'):
  Inv X gE σ H' {s with heap:=h',gens:=g',drawn:=d',toks:=t'}:=by
 have J:∀b o,X.s₀.heap.get? b=!o->b≠X.env.locals:=λb o e=>Ú<|Ó (É e) I.ok.above
 have y:∀b o,X.s₀.heap.get? b=!o->b∉X.ex->b∉ch:=λb o e a B=>by
  rcases(h b B).1with z|z
  .show a z
  .show absurd (Ó (É e) z)<|ą _
 have g:∀x c,X.env.cells.lookup x=!c->∀v,s.heap.IsCell c v->h'.IsCell c v:=λx c e v ⟨o,D,M⟩=>by
  have t:c∉ch:=λz=>(h c z).2.2.1 x c e rfl
  by_cases P:c∈X.fs
  .obtain ⟨sl,q⟩:=A c o (I.cne x c e) P t D<|I.freeC x c e;show#[_,q,M]
  .show #[o,j c o (I.cne x c e) P t D<|I.freeC x c e,M]
 show#[I.ok,I.os,U,#[λb o e n B a=>?_,λb o e n B a=>?_,λb o e n a=>?_,λb o e a=>?_,λb xs e=>L b xs<|I.base.tups b xs e,λb o xs e=>F b o xs<|I.base.frzs b o xs e,λb ps e=>?_],?_,λx c e=>?_,?_,λx c e=>?_,λp Q=>?_,N,I.len]
 .show j b o (J b o e) B (y b o e a) (I.base.keep b o e n B a)<|I.base.free b o e n a
 .obtain ⟨sl,w⟩:=I.base.slot b o e n B a;let#[O,E]:=A b _ (J b o e) B (y b o e a) w<|I.base.free b o e n a;show#[O,E]
 .obtain ⟨o',w⟩:=I.base.there b o e a;show f b o' (y b o e a) w<|I.base.free b o e n a
 .obtain ⟨o',w⟩:=I.base.there b o e a;show C b o' (y b o e a) w
 .obtain ⟨Z,w⟩:=I.base.tbls b ps e;let#[m2,E]:=K b _ w;show#[Z++m2,by rw[E,Array.append_assoc]]
 .obtain ⟨m,Y,W⟩:=I.loc;show#[m,ns m Y,λi x v w E T=>?_];let#[u,r,l]:=W i x v w E T;show#[u,r,?_];rcases l with l|⟨k,c,e,z⟩
  .show .inl l
  .show .inr #[k,c,e,g x c e _ z]
 .obtain ⟨v,z⟩:=I.cell x c e;show#[v,g x c e v z]
 .obtain ⟨m,⟨o,_,_,D,_⟩,_⟩:=I.loc;show f _ o (λz=>(h _ z).2.1 rfl) D I.free
 .obtain ⟨v,o,D,M⟩:=I.cell x c e;show f c o (λz=>(h c z).2.2.1 x c e rfl) D<|I.freeC x c e
 .obtain ⟨e,n,R,S,d⟩:=I.pin p Q;have t:p.1∉ch:=λz=>(h p.1 z).2.2.2 p Q rfl
  show#[j p.1 p.2 R S t e n,f p.1 p.2 t e n,R,S,d]
theorem Inv.un(I:Inv X gE σ H s)(u:Un X.fs [] H H' s.heap h')(g:HOk X.prog X.w H' h'):Inv X gE σ H' {s with heap:=h',toks:=t'}:=by
 let#[m,#[o,p,l,h,r],_]:=id I.loc;let#[v,i]:=u.any h I.free (by simp);show I.step (g':=s.gens) (d':=s.drawn) (ch:=[]) (λ_ z=>nomatch z) (λb o _ f _ e n=>u.keep b o e n f<|by simp) (λb o _ f _ e n=>u.slot b o e n f<|by simp) (λb o _ e n=>u.free b o e n<|by simp) (λb o _ e=>u.there b o e<|by simp) u.tups u.frzs u.tbls (λq j=>by
  let#[t,d,c,a,k]:=j;rw[h]at a;cases a;show#[_,d,c,i,k]) g I.bare
theorem Inv.call(I:Inv X gE σ H s)(u:Un (frs X.stack) ch H H' s.heap h')(j:HOk X.prog X.w H' h')(q:AllBare g')
  (d:∀b∈ch,(b∈X.ex\/X.s₀.heap.objs.size<=b)/\b≠X.env.locals/\(∀x c,X.env.cells.lookup x=!c->c≠b)/\∀p∈X.pn++gE,p.1≠b):
  Inv X gE σ H' {s with heap:=h',gens:=g',drawn:=d',toks:=t'}:=by
 let#[m,#[o,y,w,k,r],_]:=id I.loc;let#[C,i]:=u.any k I.free λz=>(d _ z).2.1 rfl
 show I.step (ch:=ch) d (λb o i l a e n=>u.keep b o e n (λz=>(Æ.mp<|I.stkSub b z).elim i l) a) (λb o _ _ a e n=>u.any e n a) (λb o a e n=>u.free b o e n a) (λb o a e=>u.there b o e a) u.tups u.frzs u.tbls (λA t=>by
  let#[B,h,g,f,v]:=t;rw[k]at f;cases f;show#[_,h,g,i,v]) j q
theorem Inv.turned(I:Inv X gE σ H s)(k:∀b o,b≠it->s.heap.get? b=!o->h'.get? b=!o)(y:H it=none)(f:it≠X.env.locals)
  (i:it∈X.ex\/X.s₀.heap.objs.size<=it) (j:∀x c,X.env.cells.lookup x=!c->c≠it) (l:∀p∈X.pn++gE,p.1≠it):Inv X gE σ H {s with heap:=h',toks:=t'}:=by
 have d:∀b u,H b=!u->b≠it:=λb u e z=>by rw[z,y]at e;cases e
 show I.step (g':=s.gens) (d':=s.drawn) (ch:=[it]) (λb t=>?_) (λb o _ _ a e _=>k b o (λz=>a<|by simp[z]) e) (λb o _ _ a e _=>#[o.slots,k b o (λz=>a<|by simp[z]) e]) (λ_ _ _ _ n=>n)
  (λb o a e=>#[o,k b o (λz=>a<|by simp[z]) e]) (λ_ _ e=>e) (λ_ _ _ e=>e) (λb B e=>#[([].toArray),by rw[e];simp]) (λm w=>?_) (λb u e=>?_) I.bare
 .have e:b=it:=by simpa using t
  subst e;show#[i,f,j,l]
 .obtain ⟨o,h,g,A,r⟩:=w;show#[o,h,g,k _ o (Ne.symm f) A,r]
 .show (I.hok b u e).stay (λc v a q=>k c v ?_ q) (λ_ q=>q) λ_ _ q=>q
  rcases a with z|z
  .rw [z];show d b u e
  .show d c _ z
theorem Inv.tok(I:Inv X gE σ H s)(t:Nat):Inv X gE σ H {s with toks:=t}:=I.un (h':=s.heap) (t':=t) Un.refl I.hok
theorem Inv.kept(I:Inv X gE σ H s)(k:∀b u,s.heap.get? b=!u->h'.get? b=!u):Inv X gE σ H {s with heap:=h',toks:=t'}:=I.un (Un.kept k)<|I.hok.kept k
theorem Inv.laid(I:Inv X gE σ H s)(k:∀b u,s.heap.get? b=!u->h'.get? b=!u)(c:s.heap.objs.size<=a)(d:ObjOk X.prog X.w (upd H a o) h' a o):
  Inv X gE σ (upd H a o) {s with heap:=h',toks:=t'}:=I.un (Un.laid k c<|I.hok.fresh c)<|I.hok.laid k c d
theorem Inv.write{x e:ό}(I:Inv X gE σ H s)(f:Yd<|H x)(d:e=x\/H e=!(.own x))(k:∀b u,b≠e->s.heap.get? b=!u->h'.get? b=!u)(a:∃u,h'.get? e=!u)
  (c:ObjOk X.prog X.w (upd H x o) h' x o):Inv X gE σ (upd H x o) {s with heap:=h',toks:=t'}:=I.un (Un.write f d k a)<|I.hok.write f d k a c
theorem Inv.weak(I:Inv X gE σ H s)(d:↑σ'=↑σ)(w:∀(i:Nat) v,σ'[i]?=!(!v)->σ[i]?=!(!v)):Inv X gE σ' H s:=
 #[I.ok,I.os,I.bare,I.base,let⟨m,hn,hl'⟩:=I.loc;#[m,hn,λi x v a b c=>hl' i x v a (w i v b) c],I.cell,I.free,I.freeC,I.pin,I.hok,d.trans I.len]
theorem Inv.pins_of(I:Inv X gE σ H s)(h:∀p∈pins',s.heap.get? p.1=!p.2/\H p.1=none/\p.1≠X.env.locals/\p.1∉X.fs/\∀v,p.2.data≠.cell v):Inv X pins' σ H s:=
 #[I.ok,I.os,I.bare,I.base,I.loc,I.cell,I.free,I.freeC,λp a=>(Ê.mp a).elim (λz=>I.pin p<|é _ z)<|h p,I.hok,I.len]
theorem vM{N:ϊ ϐ}(e:N.Nodup)(a:N[i]?=!x)(b:N[j]?=!x):i=j:=by
 let#[f,c]:=Â.mp a;let#[g,d]:=Â.mp b;show(ı e).mp<|c.trans d.symm
theorem qT{Q:Unit->ώ->Prop}(I:Inv X gE σ H s)(hN:X.N.Nodup)(P:X.N[i]?=!x)(t:Loc X.env.scope x)(r:RelV v u)
  (h:∀s',Inv X gE (σ.set i !v) H s'->(∃a,Heap.SameBut a s.heap s'.heap/\(a=X.env.locals\/X.env.cells.lookup x=!a))->Q Unit.unit s') (hf:X.fn x=true\/X.env.scope.names.lookup x=!.local:=by first|show .inl rfl|show .inr rfl|assumption):wpAny M A (storeName X.env x u) Q E s:=by
 let#[m,Z,hl]:=id I.loc;have O:(X.env.scope.kind==.class||(X.env.scope.kind==.module&&X.env.locals !=X.env.globals))=false:=by rw[I.ok.kind];rfl
 have C:i<↑σ:=by rw[I.len];show(Â.mp P).1
 have D:=I.cne;have l:∀{a:ό}{K:ϒ},(∃o,s.heap.get? a=!o/\H a=none)->Heap.SameBut a s.heap K->HOk X.prog X.w H K:=λ{a K} ha f b ob e=>by
  let#[_,_,w]:=ha;show(I.hok b ob e).stay (λc W hc q=>(f.2 c ?_).trans q) (λ_ q=>q) λ_ _ q=>q
  rintro rfl;rcases hc with rfl|hc
  .rw [w]at e;cases e
  .rw [w]at hc;cases hc
 rcases t with hk|hk
 .show wpAny_storeName_local hk Z (λK ab f=>?_) O;let#[oL,_,_,ac,_]:=id Z;show h _ #[I.ok,I.os,I.bare,#[λb o e n F t=>?_,λb o e n F t=>?_,I.base.free,λb o e t=>?_,I.base.tups,I.base.frzs,I.base.tbls],#[_,ab,λj y v' g B Y=>?_],λy c e=>?_,I.free,I.freeC,λp hp=>?_,l #[oL,ac,I.free] f,by simpa using I.len] #[_,f,.inl rfl]
  .show (f.2 b<|Ú<|Ó (É e) I.ok.above).trans<|I.base.keep b o e n F t
  .obtain ⟨sl,g⟩:=I.base.slot b o e n F t;show#[sl,(f.2 b<|Ú<|Ó (É e) I.ok.above).trans g]
  .obtain ⟨o',g⟩:=I.base.there b o e t;show#[o',(f.2 b<|Ú<|Ó (É e) I.ok.above).trans g]
  .by_cases J:j=i
   .subst J;rw[P]at g;cases g;rw[Ŵ C]at B
    cases B;show#[u,r,.inl #[hk,by simp]]
   .rw [Κ<|Ne.symm J]at B;let#[u',r',q]:=hl j y v' g B Y;show#[u',r',?_];rcases q with⟨k,e⟩|⟨k,c,e,z⟩
    .show .inl #[k,?_];have:y≠x:=λe=>J<|vM hN g<|e▸P
     simp[this,e]
    .show .inr #[k,c,e,z.sameBut f<|D y c e]
  .obtain ⟨W,z⟩:=I.cell y c e;show#[W,z.sameBut f<|D y c e]
  .obtain ⟨e,n,U,nf,d⟩:=I.pin p hp;show#[(f.2 p.1 U).trans e,n,U,nf,d]
 .have G:X.fn x=true:=by
   rcases hf with z|z
   .show z
   .rw [z]at hk;cases hk
  let#[c,hc]:=I.ok.has x<|.inl hk;let#[W,z]:=I.cell x c hc;show wpAny_storeName_cell I.ok.kind hk hc z<|λK L f=>?_;let#[oc,R,S]:=id z;show h {s with heap:=K} ⟨I.ok,I.os,I.bare,⟨λb o e n F t=>?_,λb o e n F t=>?_,I.base.free,λb o e t=>?_,I.base.tups,I.base.frzs,I.base.tbls⟩,⟨m,Z.sameBut f<|Ne.symm<|D x c hc,λj y v' g B Y=>?_⟩,λy T e=>?_,I.free,I.freeC,λp hp=>?_,l ⟨oc,R,I.freeC x c hc⟩ f,by simpa using I.len⟩ ⟨c,f,.inr hc⟩
  .show (f.2 b<|Ú<|Ó (É e)<|I.ok.cab x c G hc).trans<|I.base.keep b o e n F t
  .obtain ⟨sl,g⟩:=I.base.slot b o e n F t;show#[sl,(f.2 b<|Ú<|Ó (É e)<|I.ok.cab x c G hc).trans g]
  .obtain ⟨o',g⟩:=I.base.there b o e t;show#[o',(f.2 b<|Ú<|Ó (É e)<|I.ok.cab x c G hc).trans g]
  .by_cases J:j=i
   .subst J;rw[P]at g;cases g;rw[Ŵ C]at B
    cases B;show#[u,r,.inr #[.inl hk,c,hc,L]]
   .rw [Κ<|Ne.symm J]at B;let#[u',r',q]:=hl j y v' g B Y;show#[u',r',?_];rcases q with q|⟨k,T,e,z'⟩
    .show .inl q
    .show .inr #[k,T,e,z'.sameBut f ?_];rintro rfl;show J<|vM hN g<|I.ok.inj _ _ _ e hc▸P
  .by_cases N:T=c
   .subst N;show#[_,L]
   .obtain ⟨w2,z2⟩:=I.cell y T e;show#[w2,z2.sameBut f N]
  .obtain ⟨e,n,U,nf,d⟩:=I.pin p hp;show#[(f.2 p.1 ?_).trans e,n,U,nf,d];intro q;rw[q,R]at e;have q':oc=p.2:=Ü e;show d W<|by rw[<-q'];show S
theorem oX{Q:Unit->ώ->Prop}(I:Inv X gE σ H s)(b:X.N.Nodup)(d:X.N[i]?=!x)(e:Loc X.env.scope x)(r:RelV v u)
  (h:∀s',Inv X gE (σ.set i !v) H s'->Q Unit.unit s') (c:X.fn x=true\/X.env.scope.names.lookup x=!.local:=by first|show .inl rfl|show .inr rfl|assumption):wpAny M A (storeName X.env x u) Q E s:=
 qT I b d e r (λs' a _=>h s' a) c
theorem Inv.call'(I:Inv X gE σ H s)(j:s'.os=s.os)(u:Un (frs X.stack) ch H H' s.heap s'.heap)(d:HOk X.prog X.w H' s'.heap)(i:AllBare s'.gens)
  (a:∀b∈ch,(b∈X.ex\/X.s₀.heap.objs.size<=b)/\b≠X.env.locals/\(∀x c,X.env.cells.lookup x=!c->c≠b)/\∀p∈X.pn++gE,p.1≠b):Inv X gE σ H' s':=by
 let#[l,g,f,h,k]:=s';have e:k=s.os:=j;subst e;show I.call (g':=g) (t':=h) (d':=f) u d i a
end
abbrev XK:=ϋ->ύ ό->Hp->Prop
abbrev St:=ϊ<|ύ V
variable{σ:St}
abbrev VK:=V->Hp->Prop
abbrev TE:=St->Hp->VK->Prop
variable{t te tl:TE}
abbrev TT:=St->Hp->(ϑ->Hp->Prop)->Prop
variable{tc:TT}
abbrev TA:=St->Hp->(ϊ V->Hp->Prop)->Prop
variable{ta:TA}
structure Ends where
 nx:St->Hp->Prop
 rt:VK
 bk:St->Hp->Prop:=λ_ _=>False
 ct:St->Hp->Prop:=λ_ _=>False
abbrev TS:=Ends->St->Hp->Prop
variable{tb:TS}
def EP(X:Cx)(gE:Ϸ)(σ:St)(Q:VK)(u:ϋ)(s':ώ):Prop:=∃v H',Inv X gE σ H' s'/\RelV v u/\Q v H'
def TP(X:Cx)(gE:Ϸ)(σ:St)(Q:ϑ->Hp->Prop)(b:ϑ)(s':ώ):Prop:=∃H',Inv X gE σ H' s'/\Q b H'
def AP(X:Cx)(gE:Ϸ)(σ:St)(Q:ϊ V->Hp->Prop)(us:ϊ ϋ)(s':ώ):Prop:=∃vs H',Inv X gE σ H' s'/\Vals vs us/\Q vs H'
def SP(X:Cx)(gE:Ϸ)(D:Ends)(f:Flow)(s':ώ):Prop:=
 match f with
 |.next=>∃σ' H',Inv X gE σ' H' s'/\D.nx σ' H'
 |.brk=>∃σ' H',Inv X gE σ' H' s'/\D.bk σ' H'
 |.cont=>∃σ' H',Inv X gE σ' H' s'/\D.ct σ' H'
 |.ret u=>∃v σ' H',Inv X gE σ' H' s'/\RelV v u/\D.rt v H'
def PE(X:Cx)(e:Expr)(t:TE):Prop:=
 ∀(gE:Ϸ)(s:ώ)(σ:St)(H:Hp)(Q:VK),Inv X gE σ H s->t σ H Q->wpAny (model X.prog X.w) X.A (eval e X.env) (EP X gE σ Q) X.xe s
def PT(X:Cx)(e:Expr)(t:TT):Prop:=
 ∀(gE:Ϸ)(s:ώ)(σ:St)(H:Hp)(Q:ϑ->Hp->Prop),Inv X gE σ H s->t σ H Q->wpAny (model X.prog X.w) X.A (isTrue e X.env<|eval e X.env) (TP X gE σ Q) X.xe s
def PW(X:Cx)(e:Expr)(t:TT):Prop:=
 ∀(whole:Sem ϋ)(gE:Ϸ)(s:ώ)(σ:St)(H:Hp)(Q:ϑ->Hp->Prop),Inv X gE σ H s->t σ H Q->wpAny (model X.prog X.w) X.A (isTrue e X.env whole) (TP X gE σ Q) X.xe s
def PW.pt{X:Cx}{t:TT}(h:PW X e t):PT X e t:=h _
def PA(X:Cx)(es:ϊ Expr)(t:TA):Prop:=
 ∀(pos:Pos)(gE:Ϸ)(s:ώ)(σ:St)(H:Hp)(Q:ϊ V->Hp->Prop),Inv X gE σ H s->t σ H Q->wpAny (model X.prog X.w) X.A (spliced<|backTo pos<|starEach es X.env) (AP X gE σ Q) X.xe s
def PS(X:Cx)(st:Stmt)(t:TS):Prop:=
 ∀(gE:Ϸ)(s:ώ)(σ:St)(H:Hp)(D:Ends),Inv X gE σ H s->t D σ H->wpAny (model X.prog X.w) X.A (exec st X.env) (SP X gE D) X.xe s
def PSs(X:Cx)(st:ϊ Stmt)(t:TS):Prop:=
 ∀(gE:Ϸ)(s:ώ)(σ:St)(H:Hp)(D:Ends),Inv X gE σ H s->t D σ H->wpAny (model X.prog X.w) X.A (execs st X.env) (SP X gE D) X.xe s
theorem bB{c:Type}{t:Sem c}{Q b:c->ώ->Prop}(h:wpAny M A t Q E s)(d:∀a s,Q a s->b a s):wpAny M A t b E s:=Ċ h d λ_ _ x=>x
section
variable{X:Cx}
def gA(i:Nat):TE:=λσ H Q=>∃v,σ[i]?=!(!v)/\Q v H
def tC(v:V):TE:=λ_ H Q=>Q v H
theorem Tv(f:X.N[i]?=!x)(k:Vis X.env.scope x)(d:(x==("__debug__":ϐ))=false:=by decide)(b:(x==("__classdict__":ϐ))=false:=by decide):PE X (.Name x pos) (gA i):=by
 intro a s n H Q I h;let#[v,e,h]:=h;let#[m,j,g]:=I.loc;let#[u,r,l]:=g i x v f e k;have fin:EP X a n Q u s:=#[v,H,I,r,h];rcases l with⟨hk,hm⟩|⟨hk,c,hc,hcell⟩
 .show wpAny_Name (wpAny_loadName_local I.ok.kind hk j hm fin) d
 .rcases hk with hk|hk
  .show wpAny_Name (wpAny_loadName_cell I.ok.kind hk hc hcell fin) d
  .show wpAny_Name (wpAny_loadName_free I.ok.kind hk hc hcell fin b) d
theorem aj{i j pos}:PE X (.Constant (.int i) j pos) (tC<|.int i):=λ_ _ _ H _ I h=>wpAny_Constant_int #[.int i,H,I.tok _,#[_,rfl],h]
theorem fY{b j pos}:PE X (.Constant (.bool b) j pos) (tC<|.bl b):=λ_ _ _ H _ I h=>Constant_bool #[.bl b,H,I,rfl,h]
theorem cI{j pos}:PE X (.Constant .none j pos) (tC .non):=λ_ _ _ H _ I h=>Constant_none #[.non,H,I,rfl,h]
theorem iD{x j pos}:PE X (.Constant (.str x) j pos) (tC<|.str x):=λ_ _ _ H _ I h=>Calls.Constant_str #[.str x,H,I.tok _,#[_,rfl],h]
def Gl(X:Cx)(x:ϐ):Prop:=X.env.kindOf x=!.globalImplicit
theorem Ed(I:Inv X gE σ H s)(b:Gl X x)(c:X.mg x=!u)(h:Q u s)
  (a:(x==("__debug__":ϐ))=false:=by decide):wpAny (model X.prog X.w) X.A (eval (.Name x pos) X.env) Q E s:=
 Calls.Name_function_global I.ok.kind b (Calls.loadGlobal_global (by rw[I.ok.glob];show I.mod.glob.keeps I.bk) c h) a
theorem fG(I:Inv X gE σ H s)(d:Gl X x)(e:X.mg x=none)(g:bootBuiltins x=!u)(h:Q u s)
  (f:x≠"__name__":=by decide) (c:(x==("__debug__":ϐ))=false:=by decide):wpAny (model X.prog X.w) X.A (eval (.Name x pos) X.env) Q E s:=by
 let#[i,a,b]:=I.mod.blt;show Calls.Name_function_global I.ok.kind d (Calls.loadGlobal_builtin (by rw[I.ok.glob];show I.mod.glob.keeps I.bk) e (by rw[I.ok.blt];show a.keeps I.bk) ((b x f).trans g) h) c
theorem iG(b:Gl X x)(c:X.mg x=!u)(r:RelV v u)(a:(x==("__debug__":ϐ))=false:=by decide):PE X (.Name x pos) (tC v):=
 λ_ _ _ H _ I h=>Ed I b c #[v,H,I,r,h] a
theorem eZ(b:Gl X x)(c:X.mg x=none)(e:bootBuiltins x=!u)(r:RelV v u)(d:x≠"__name__":=by decide)(a:(x==("__debug__":ϐ))=false:=by decide):PE X (.Name x pos) (tC v):=
 λ_ _ _ H _ I h=>fG I b c e #[v,H,I,r,h] d a
variable{a b:Expr}{ta tb:TE}{pos:Pos}
def PC(X:Cx)(op:CmpOp)(a b:Expr)(t:TE):Prop:=
 ∀(gE:Ϸ)(s:ώ)(σ:St)(H:Hp)(Q:VK),Inv X gE σ H s->t σ H Q->
  wpAny (model X.prog X.w) X.A (eval a X.env) (λv s₁=>wpAny (model X.prog X.w) X.A (eval b X.env) (λu s₂=>wpAny (model X.prog X.w) X.A (compareOp op v u) (EP X gE σ Q) X.xe s₂) X.xe s₁) X.xe s
def tB(t:TE):TT:=λσ H Q=>t σ H λx H1=>∃c,x=.bl c/\Q c H1
theorem fZ(h:PC X op a b t)(f:behindInMarks op b=false:=by first|show nobehind _ (by decide) (by decide)|rfl):PT X (.Compare a [op] [b] pos) (tB t):=by
 intro e s n H Q I k;show wpAny_isTrue_Compare1 (bB (h e s n H _ I k) λv o f=>bB f λu p j=>bB j λc r ⟨x,g,i,m,l⟩=>?_) f;let#[d,rfl,q]:=l
 cases m;show ć #[g,i,q]
variable{tA tB':TT}{rest:ϊ Expr}
def tK(t u:TT):TT:=λσ H Q=>t σ H λc H1=>if c=true then u σ H1 Q else Q false H1
def yp(t u:TT):TT:=λσ H Q=>t σ H λc H1=>if c=true then Q true H1 else u σ H1 Q
def eQ(t:TT):TT:=λσ H Q=>t σ H λc H1=>Q (not c) H1
theorem jH(d:PT X a tA):PW X (.BoolOp .And [a] pos) tA:=by
 intro i b s f H Q I h;show isTrue_and<|bB (d b s f H Q I h) λc g e=>?_
 cases c with
 |true=>show isTrue_and_nil e
 |false=>show e
theorem kW(d:PT X a tA):PW X (.BoolOp .Or [a] pos) tA:=by
 intro i b s f H Q I h;show isTrue_or<|bB (d b s f H Q I h) λc g e=>?_
 cases c with
 |false=>show isTrue_or_nil e
 |true=>show e
theorem m8(j:PT X a tA)(k:PW X (.BoolOp .And (b::rest) pos) tB'):PW X (.BoolOp .And (a::b::rest) pos) (tK tA tB'):=by
 intro m d s i H Q I h;show isTrue_and<|bB (j d s i H _ I h) λc l ⟨e,f,g⟩=>?_
 cases c with
 |true=>show k m d l i e Q f g
 |false=>show#[e,f,g]
theorem gR(j:PT X a tA)(k:PW X (.BoolOp .Or (b::rest) pos) tB'):PW X (.BoolOp .Or (a::b::rest) pos) (yp tA tB'):=by
 intro m d s i H Q I h;show isTrue_or<|bB (j d s i H _ I h) λc l ⟨e,f,g⟩=>?_
 cases c with
 |true=>show#[e,f,g]
 |false=>show k m d l i e Q f g
theorem bO(e:PT X a tA):PT X (.UnaryOp .Not a pos) (eQ tA):=by
 intro b s f H Q I h;show isTrue_not<|e b s f H (λc d=>Q (not c) d) I h
def gU(ta tb:TE):TE:=λσ H Q=>ta σ H λx H1=>∃c,x=.bl c/\if c=true then tb σ H1 Q else Q (.bl false) H1
def Tz(ta tb:TE):TE:=λσ H Q=>ta σ H λx H1=>∃c,x=.bl c/\if c=true then Q (.bl true) H1 else tb σ H1 Q
def Ef(ta:TE):TE:=λσ H Q=>ta σ H λx H1=>∃c,x=.bl c/\Q (.bl<|not c) H1
theorem jl{op}(h:PE X a t):PE X (.BoolOp op [a] pos) t:=λb s d H Q I c=>BoolOp_one<|h b s d H Q I c
theorem gJ(j:PE X a ta)(k:PE X (.BoolOp .And (b::rest) pos) tb):PE X (.BoolOp .And (a::b::rest) pos) (gU ta tb):=by
 intro d s i H Q I h;show BoolOp_and<|bB (j d s i H _ I h) λv m ⟨x,f,g,l,e⟩=>?_;let#[c,rfl,e]:=e
 cases l;show ć ?_
 cases c with
 |true=>show k d m i f Q g e
 |false=>show#[.bl false,f,g,rfl,e]
theorem Ye(j:PE X a ta)(k:PE X (.BoolOp .Or (b::rest) pos) tb):PE X (.BoolOp .Or (a::b::rest) pos) (Tz ta tb):=by
 intro d s i H Q I h;show BoolOp_or<|bB (j d s i H _ I h) λv m ⟨x,f,g,l,e⟩=>?_;let#[c,rfl,e]:=e
 cases l;show ć ?_
 cases c with
 |false=>show k d m i f Q g e
 |true=>show#[.bl true,f,g,rfl,e]
theorem Ii(g:PE X a ta):PE X (.UnaryOp .Not a pos) (Ef ta):=by
 intro b s j H Q I h;show UnaryOp_<|bB (g b s j H _ I h) λv k ⟨x,e,f,i,d⟩=>?_;let#[c,rfl,d]:=d
 cases i;show not_of<|ć #[.bl<|not c,e,f,rfl,d]
def XM(t:TT)(ta tb:TE):TE:=λσ H Q=>t σ H λc H1=>if c=true then ta σ H1 Q else tb σ H1 Q
theorem lD(n:PT X c tA)(l:PE X a ta)(m:PE X b tb):PE X (.IfExp c a b pos) (XM tA ta tb):=by
 intro e s f H Q I h;show wpAny_IfExp<|bB (n e s f H _ I h) λd k ⟨g,i,j⟩=>?_
 cases d with
 |true=>show l e k f g Q i j
 |false=>show m e k f g Q i j
end
def SqL(K:Ϗ)(H:Hp)(a:ό)(xs:ϊ V):Prop:=
 Rd H a (.lst xs)\/
  ∃(o:Obj)(its:ϔ ϋ)(n:Nat),K.lookup a=!o/\o.cls=.type "list"/\o.dict=none/\o.data=.seq its n/\its.size<=sizeLine/\Vals xs its.toList
def SqT(K:Ϗ)(H:Hp)(a:ό)(xs:ϊ V):Prop:=
 Rd H a (.tup xs)\/
  ∃(o:Obj)(its:ϔ ϋ)(n:Nat),K.lookup a=!o/\o.cls=.type "tuple"/\o.data=.seq its n/\its.size<=sizeLine/\Vals xs its.toList
noncomputable def a1l:ϋ->ύ V
 |.none=>!.non
 |.bool b=>!(.bl b)
 |.int i _=>!(.int i)
 |.str x _=>!(.str x)
 |.bytes b _=>!(.byt b)
 |.float b _=>!(.flt b)
 |.ref a=>!(.ref a)
 |.type n=>!(.ty n)
 |_=>none
theorem RelV.abs{x:V}(r:RelV x u):a1l u=!x:=by
 cases x with
 |non=>cases r;rfl
 |bl _=>cases r;rfl
 |int _=>let#[t,rfl]:=r;rfl
 |str _=>let#[t,rfl]:=r;rfl
 |byt _=>let#[t,rfl]:=r;rfl
 |flt _=>let#[t,rfl]:=r;rfl
 |ref _=>cases r;rfl
 |ty _=>cases r;rfl
def RelV.inj{x:V}(r:RelV x u)(q:RelV y u):x=y:=Ü<|r.abs.symm.trans q.abs
theorem Vals.inj:∀{xs ys:ϊ V}{us:ϊ ϋ},Vals xs us->Vals ys us->xs=ys
 |_,_,_,.nil,.nil=>rfl
 |_,_,_,.cons r t,.cons r' t'=>by rw[r.inj r',Vals.inj t t']
section
variable{X:Cx}
def SqL.of{K:Ϗ}(h:H a=!(.lst xs)):SqL K H a xs:=.inl<|.inl h
abbrev gI:=@SqL.of
def SqT.of{K:Ϗ}(h:H a=!(.tup xs)):SqT K H a xs:=.inl<|.inl h
abbrev gL:=@SqT.of
theorem Inv.list(I:Inv X gE σ H s)(h:SqL X.K H a xs):∃its:ϊ ϋ,Vals xs its/\PlainL s.heap a its.toArray/\↑xs<=sizeLine:=by
 rcases h with h|⟨o,its,n,hk,hc,hd,hs,hz,r⟩
 .obtain ⟨z,its,n,r,e⟩:=h.ok I.hok;show#[its,r,#[_,n,e,rfl,rfl,rfl],z]
 .show #[its.toList,r,#[o,n,I.kIn a o hk,hc,hd,by simpa using hs],?_];have e:=↑r;simp only[ã]at e;rfl'
theorem Inv.tuple(I:Inv X gE σ H s)(h:SqT X.K H a xs):∃its:ϊ ϋ,Vals xs its/\IsTup s.heap a its.toArray/\↑xs<=sizeLine:=by
 rcases h with h|⟨o,its,n,hk,hc,hs,hz,r⟩
 .obtain ⟨z,its,r,p⟩:=h.ok I.hok;show#[its,r,p,z]
 .show #[its.toList,r,#[o,I.kIn a o hk,hc,n,by simpa using hs],?_];have e:=↑r;simp only[ã]at e;rfl'
theorem Inv.list_inj(I:Inv X gE σ H s)(h:SqL X.K H a xs)(i:SqL X.K H a ys):xs=ys:=by
 let#[c,r,#[o,n,e,_,_,d],_]:=I.list h;let#[b,j,#[l,k,g,_,_,f],_]:=I.list i;rw[e]at g;cases g;rw[d]at f;injection f with d1 _
 have:c=b:=by simpa using Ö Array.toList d1
 subst this;show r.inj j
theorem Inv.tuple_inj(I:Inv X gE σ H s)(h:SqT X.K H a xs)(i:SqT X.K H a ys):xs=ys:=by
 let#[c,r,#[o,e,_,n,d],_]:=I.tuple h;let#[b,j,#[l,g,_,k,f],_]:=I.tuple i;rw[e]at g;cases g;rw[d]at f;injection f with d1 _
 have:c=b:=by simpa using Ö Array.toList d1
 subst this;show r.inj j
end
abbrev Cx.wish(X:Cx)(E:϶):Cx:={X with xe:=E}
abbrev Cx.nox(X:Cx):Cx:=X.wish λ_ _=>False
def Cx.Ok.wish{X:Cx}(a:X.Ok)(E:϶):(X.wish E).Ok:=
 #[a.mod,a.kind,a.glob,a.blt,a.above,a.inj,a.has,a.cab,a.hd,a.frames,a.stk,a.exf,a.bs,a.bsz,a.noex,a.exfs,a.funs,a.frf]
def Cx.Ok.unwish{X:Cx}(a:(X.wish E).Ok):X.Ok:=
 #[a.mod,a.kind,a.glob,a.blt,a.above,a.inj,a.has,a.cab,a.hd,a.frames,a.stk,a.exf,a.bs,a.bsz,a.noex,a.exfs,a.funs,a.frf]
section
variable{X:Cx}{H:Hp}{s:ώ}
theorem Inv.wish(I:Inv X gE σ H s)(E:϶):Inv (X.wish E) gE σ H s:=#[I.ok.wish E,I.os,I.bare,I.base,I.loc,I.cell,I.free,I.freeC,I.pin,I.hok,I.len]
theorem Inv.unwish(I:Inv (X.wish E) gE σ H s):Inv X gE σ H s:=#[I.ok.unwish,I.os,I.bare,I.base,I.loc,I.cell,I.free,I.freeC,I.pin,I.hok,I.len]
theorem SP.unwish{f:Flow}(h:SP (X.wish E) gE D f s'):SP X gE D f s':=by
 cases f with
 |next=>let#[a,b,I,q]:=h;show#[a,b,I.unwish,q]
 |brk=>let#[a,b,I,q]:=h;show#[a,b,I.unwish,q]
 |cont=>let#[a,b,I,q]:=h;show#[a,b,I.unwish,q]
 |ret u=>let#[v,a,b,I,r,q]:=h;show#[v,a,b,I.unwish,r,q]
theorem PSs.nox{t:TS}(h:PSs X.nox st t):PSs X st t:=λa s c H D I b=>
 Ċ (h a s c H D (I.wish _) b) (λ_ _ q=>q.unwish) λ_ _ z=>False.elim z
end
section
variable{X:Cx}{st:Stmt}{rest:ϊ Stmt}{t u:TS}{e:Expr}{te:TE}{pos:Pos}
def aU:TS:=λD σ H=>D.nx σ H
def az(t u:TS):TS:=λD σ H=>t {D with nx:=u D} σ H
theorem aG:PSs X [] aU:=λ_ _ a H _ I h=>wpAny_execs_nil #[a,H,I,h]
theorem vN(e:PS X st t)(g:PSs X rest u):PSs X (st::rest) (az t u):=by
 intro a s j H D I h;show wpAny_execs_cons<|bB (e a s j H {D with nx:=u D} I h) λf i q=>?_
 cases f with
 |next=>
  let#[b,c,d,q]:=q;show g a i b c D d q
 |ret v=>show q
 |brk=>show q
 |cont=>show q
theorem au(b:PS X st t):PSs X [st] t:=by
 intro a s c H D I h;show wpAny_execs_cons<|bB (b a s c H D I h) λf d q=>?_
 cases f with
 |next=>show wpAny_execs_nil q
 |ret v=>show q
 |brk=>show q
 |cont=>show q
theorem Inv.quiet(I:Inv X gE σ H s):interactive X.env=false:=by simp[interactive,I.ok.kind]
def cL(te:TE):TS:=λD σ H=>te σ H λ_ H1=>D.nx σ H1
theorem bA(f:PE X e te)(g:swapsWith e none pos.line X.env=pure false:=by rfl):PS X (.Expr e pos) (cL te):=by
 intro a s b H D I h;show wpAny_Expr_any (bB (f a s b H _ I h) λv k ⟨x,c,d,j,i⟩=>#[b,c,d,i]) I.quiet g
def aP(te:TE):TS:=λD σ H=>te σ H D.rt
theorem aA(f:PE X e te):PS X (.Return (!e) pos) (aP te):=by
 intro a s b H D I h;show wpAny_Return_some<|bB (f a s b H _ I h) λv j ⟨x,c,d,i,g⟩=>#[x,b,c,d,i,g]
def bH(c:TT)(t u:TS):TS:=λD σ H=>c σ H λb H1=>if b=true then t D σ H1 else u D σ H1
theorem aW{a b:ϊ Stmt}(n:PT X c tc)(l:PSs X a t)(m:PSs X b u):PS X (.If c a b pos) (bH tc t u):=by
 intro e s f H D I h;show wpAny_If<|bB (n e s f H _ I h) λd k ⟨g,i,j⟩=>?_
 cases d with
 |true=>show l e k f g D i j
 |false=>show m e k f g D i j
def cT:TS:=λ_ _ _=>False
def bK:PS X st cT:=λ_ _ _ _ _ _ h=>h.elim
end
abbrev TG:=V->St->Hp->(St->Hp->Prop)->Prop
abbrev Ob:=ϊ V->St->Hp->(St->Hp->Prop)->Prop
def PG(X:Cx)(target:Expr)(t:TG):Prop:=
 ∀(gE:Ϸ)(s:ώ)(σ:St)(H:Hp)(v:V)(u:ϋ)(Q:St->Hp->Prop),Inv X gE σ H s->RelV v u->t v σ H Q->
  wpAny (model X.prog X.w) X.A (assign target X.env u) (λ_ s'=>∃σ' H',Inv X gE σ' H' s'/\Q σ' H') X.xe s
def Yg(X:Cx)(ts:ϊ Expr)(t:Ob):Prop:=
 ∀(gE:Ϸ)(s:ώ)(σ:St)(H:Hp)(vs:ϊ V)(us:ϊ ϋ)(Q:St->Hp->Prop),Inv X gE σ H s->Vals vs us->t vs σ H Q->
  wpAny (model X.prog X.w) X.A (assignInOrder ((assignEach ts X.env).map (·.2)) us) (λ_ s'=>∃σ' H',Inv X gE σ' H' s'/\Q σ' H') X.xe s
abbrev Oq:=V->V->V->Hp->(Hp->Prop)->Prop
def Yh(X:Cx)(t:Oq):Prop:=
 ∀(gE:Ϸ)(s:ώ)(σ:St)(H:Hp)(o i v:V)(ov iv u:ϋ)(Q:Hp->Prop),Inv X gE σ H s->RelV o ov->RelV i iv->RelV v u->t o i v H Q->
  wpAny (model X.prog X.w) X.A (setItem ov iv u) (λ_ s'=>∃H',Inv X gE σ H' s'/\Q H') X.xe s
abbrev XN:=V->V->Hp->VK->Prop
def PIp(X:Cx)(op:Operator)(t:XN):Prop:=
 ∀(gE:Ϸ)(s:ώ)(σ:St)(H:Hp)(x y:V)(v u:ϋ)(Q:VK),Inv X gE σ H s->RelV x v->RelV y u->t x y H Q->
  wpAny (model X.prog X.w) X.A (inplaceOp op v u) (EP X gE σ Q) X.xe s
section
variable{X:Cx}
def ak(i:Nat):TG:=λv σ H Q=>Q (σ.set i !v) H
theorem jJ(c:X.N.Nodup)(e:X.N[i]?=!x)(f:Loc X.env.scope x)(d:X.fn x=true\/X.env.scope.names.lookup x=!.local:=by first|show .inl rfl|show .inr rfl|assumption):PG X (.Name x pos) (ak i):=by
 intro a s j H v u Q I r h;show wpAny_assign_Name<|oX I c e f r (λg b=>#[_,H,b,h]) d
def gK:Ob:=λvs σ H Q=>vs=[]/\Q σ H
def bf(t:TG)(u:Ob):Ob:=λvs σ H Q=>∃v r,vs=v::r/\t v σ H λσ' H'=>u r σ' H' Q
theorem bR:Yg X [] gK:=by
 intro a s b H d c Q I r h;let#[e,h]:=h;subst e
 cases r;show assignInOrder_nil #[b,H,I,h]
theorem aJ{b:ϊ Expr}{t:TG}{u:Ob}(i:PG X e t)(j:Yg X b u)
  (k:(assignEach (e::b) X.env).map (·.2)=assign e X.env::(assignEach b X.env).map (·.2):=by rfl):Yg X (e::b) (bf t u):=by
 intro a s n H q o Q I r h;let#[v,p,g,h]:=h;subst g
 cases r with
 |cons r rr=>
  rw[k];show assignInOrder_cons<|bB (i a s n H _ _ _ I r h) λ_ m ⟨c,d,f,l⟩=>?_;show j a m c d _ _ Q f rr l
def gB(K:Ϗ)(n:Nat)(t:Ob):TG:=λv σ H Q=>∃a xs,v=.ref a/\SqT K H a xs/\↑xs=n/\t xs σ H Q
theorem TF{k:Nat}{t:Ob}(q:X.calm=true)(h:Yg X d t)
  (x:↑(assignEach d X.env)=n:=by rfl) (f:(assignEach d X.env).findIdx? (·.1)=none:=by rfl):PG X (.Tuple d k pos) (gB X.K n t):=by
 intro c s j H v u Q I r g;let#[a,C,m,y,w,g]:=g;subst m
 cases r;let#[B,i,z,D]:=I.tuple y;show assign_Tuple_tuple (I.ok.hd q) z (by simp[x,<-w,i.length]) f λp A=>?_
 have l:Inv X c j H {s with heap:=p}:=I.kept (t':=s.toks) λb o e=>A b o (Ú<|É e) e
 show h c _ j H C _ Q l (by simpa using i) g
def Ge(to ti:TE)(t:Oq):TG:=λv σ H Q=>to σ H λo H1=>ti σ H1 λi H2=>t o i v H2 λH3=>Q σ H3
theorem tL{i:Expr}{e:TE}{t:Oq}(q:PE X o e)(p:PE X i d)(w:Yh X t)
  (n:∀v,assign (.Subscript o i pos) X.env v=(do
   let ov<-holding [v]<|eval o X.env
   let b<-holding [v,ov]<|eval i X.env
   standAt pos
   holding [v,ov,b]<|setItem ov b v
   release [v,ov,b] []):=by intro _;rfl):PG X (.Subscript o i pos) (Ge e d t):=by
 intro a s c H v u Q I r h;rw[n];show Qr<|ð<|bB (q a s c H _ I h) λov E ⟨x,f,k,C,z⟩=>?_;show Qr<|ð<|bB (p a E c f _ k z) λb F ⟨y,g,l,D,A⟩=>?_;show Qr<|wpAny_standAt<|Qr<|ð<|bB (w a F c g x y v ov b u _ l C D r A) λ_ G ⟨j,m,B⟩=>?_;show wpAny_release #[c,j,m,B]
def aL(te:TE)(g:TG):TS:=λD σ H=>te σ H λx H1=>g x σ H1 D.nx
theorem oY{g:TG}(i:PE X e te)(j:PG X tg g)(k:swapsWithSole [tg] e pos.line X.env=pure false:=by rfl)(l:swappedStores [tg] e X.env=pure none:=by rfl)
  (f:(assignEach [tg] X.env).map (·.2)=[assign tg X.env]:=by rfl):PS X (.Assign [tg] e pos) (aL te g):=by
 intro a s b H D I h;show wpAny_Assign_stores (bB (i a s b H _ I h) λv o ⟨x,c,d,n,m⟩=>?_) k l;rw[f];show bB (j a o b c x v _ d n m) λ_ p q=>q
theorem iH(f:X.N.Nodup)(k:X.N[i]?=!x)(m:Loc X.env.scope x)(g:PE X e te)(l:swapsWith e (!(.Name x pos')) pos.line X.env=pure false:=by rfl)(j:X.fn x=true\/X.env.scope.names.lookup x=!.local:=by first|show .inl rfl|show .inr rfl|assumption):
  PS X (.Assign [.Name x pos'] e pos) (aL te<|ak i):=by
 intro a s p H D I h;show wpAny_Assign_Name (bB (g a s p H _ I h) λv q ⟨y,b,c,o,n⟩=>?_) l;show oX c f k m o (λr d=>#[_,b,d,n]) j
def Ot(i:Nat)(te:TE)(ti:XN):TS:=λD σ H=>∃x,σ[i]?=!(!x)/\te σ H λy H1=>ti x y H1 λz H2=>D.nx (σ.set i !z) H2
theorem Ij{g:Operator}(F:X.N.Nodup)(n:X.N[i]?=!x)(f:Loc X.env.scope x)(G:PE X e te)(M:PIp X g o)(J:X.fn x=true\/X.env.scope.names.lookup x=!.local:=by first|show .inl rfl|show .inr rfl|assumption):
  PS X (.AugAssign (.Name x pos') g e pos) (Ot i te o):=by
 intro a s p H D I h;let#[v,E,h]:=h;let#[m,L,K]:=I.loc;have j:Vis X.env.scope x:=by rcases f with k|k;show .inl k;show .inr<|.inl k
 let#[u,r,l]:=K i x v n E j;show wpAny_AugAssign_Name ?_;have go:wpAny (model X.prog X.w) X.A (eval e X.env) (λw b=>wpAny (model X.prog X.w) X.A (inplaceOp g u w) (λr d=>wpAny (model X.prog X.w) X.A (storeName X.env x r) (λ_=>SP X a D .next) X.xe d) X.xe b) X.xe s:=by
  show bB (G a s p H _ I h) λw R ⟨y,q,A,P,N⟩=>?_
  show bB (M a R p q v y u w _ A r P N) λz S ⟨U,t,B,Q,O⟩=>?_
  show oX B F n f Q (λT C=>#[_,t,C,O]) J
 rcases l with⟨hk,hm⟩|⟨hk,c,hc,hcell⟩
 .show wpAny_loadName_local I.ok.kind hk L hm go
 .rcases hk with hk|hk
  .show wpAny_loadName_cell I.ok.kind hk hc hcell go
  .rcases f with k|k
   .have:X.env.scope.names.lookup x=!.free:=hk;rw[k]at this;cases this
   .have:X.env.scope.names.lookup x=!.free:=hk;rw[k]at this;cases this
def ipI(f:Int->Int->Int):XN:=λx y H Q=>∃i j,x=.int i/\y=.int j/\Q (.int<|f i j) H
theorem Ik:PIp X .Add (ipI λi j=>i+j):=by
 intro a s g H x y v u Q I d e h;let#[i,j,b,c,q]:=h;subst b;subst c;let#[t,rfl]:=d;let#[f,rfl]:=e;show iadd_int #[.int _,H,I.tok _,#[_,rfl],q]
end
section
variable{X:Cx}
def gM(c:TT)(tb:TS):TS:=λD σ H=>∃W:Nat->St->Hp->Prop,(∃m,W m σ H)/\∀m σ H,W m σ H->
 c σ H λb H1=>if b=true then ∃N:St->Hp->Prop,(∀σ' H',N σ' H'->∃m',m'<m/\W m' σ' H')/\tb {D with nx:=N,ct:=N,bk:=D.nx} σ H1 else D.nx σ H1
theorem gW(z:PassesOwn (model X.prog X.w) X.A X.env X.xe)(C:PT X c tc)(B:PSs X body tb):PS X (.While c body [] pos) (gM tc tb):=by
 intro a s M H D I h;let#[W,#[E,K],i]:=h;show wpAny_While<|codeAny_whileLoop (λn F=>∃j t,Inv X a j t F/\W n j t) ?_ E #[M,H,I,K];rintro n G ⟨e,u,A,L⟩;show ŝ z<|bB (C a G e u _ A<|i n e u L) λb J ⟨w,x,k⟩=>?_
 cases b with
 |true=>
  let#[N,y,k]:=k;rw[if_pos rfl];show ŝ z<|bB (B a J e w _ x k) λf O l=>?_
  cases f with
  |next=>
   let#[d,g,m,q]:=l;let#[p,o,r]:=y d g q;show#[p,o,d,g,m,r]
  |cont=>
   let#[d,g,m,q]:=l;let#[p,o,r]:=y d g q;show#[p,o,d,g,m,r]
  |brk=>show l
  |ret v=>show l
 |false=>
  rw[if_neg Í];show wpAny_execs_nil #[e,w,x,k]
end
structure It where
 go:Nat->Hp->Prop
 yld:Nat->Hp->V->Hp->Prop
 stop:Nat->Hp->Prop
def oZ(X:Cx)(gE:Ϸ)(H:Hp)(b:ό):Prop:=
 H b=none/\b≠X.env.locals/\b∉X.fs/\(b∈X.ex\/X.s₀.heap.objs.size<=b)/\(∀x c,X.env.cells.lookup x=!c->c≠b)/\∀p∈X.pn++gE,p.1≠b
theorem Inv.fpOk{X:Cx}(I:Inv X gE σ H s)(a:s.heap.objs.size<=b)(f:d b=none):oZ X gE d b:=by
 show#[f,ě<|Ó I.lt a,I.nofs a,.inr<|Ð I.sz a,λx c e z=>?_,λp g z=>?_]
 .obtain ⟨v,q⟩:=I.cell x c e;show absurd (Ó q.lt<|by rw[z];show a)<|ą _
 .show absurd (Ó (É (I.pin p g).1)<|by rw[z];show a)<|ą _
structure Turn(P:ϓ)(w:ϕ)(K:Ϗ)(tg:Expr)(J:It)(fp:ϊ ό)(it:ό)(tn:Nat->ϒ->Prop):Prop where
 mem:it∈fp
 obj:∀i h,tn i h->∀b∈fp,∃o,h.get? b=!o/\∀v,o.data≠.cell v
 keep:∀i h h',tn i h->(∀b∈fp,∀o,h.get? b=!o->h'.get? b=!o)->tn i h'
 item:∀(X:Cx),X.prog=P->X.w=w->X.K=K->X.calm=true->∀(i:Nat)(gE:Ϸ)(s:ώ)(σ:St)(H:Hp)(E:϶),Inv X gE σ H s->(∀b∈fp,oZ X gE H b)->tn i s.heap->J.go i H->
  wpAny (model P w) X.A (pyNext<|.ref it) (λr s1=>∃u,r=!u/\
   wpAny (model P w) X.A (letOwnedTupleGo tg (.ref it) u) (λ_ s2=>∃x H',Inv X gE σ H' s2/\RelV x u/\J.yld i H x H'/\tn (i+1) s2.heap/\∀b∈fp,H' b=none) E s1) E s
 done:∀(X:Cx),X.prog=P->X.w=w->X.K=K->X.calm=true->∀(i:Nat)(gE:Ϸ)(s:ώ)(σ:St)(H:Hp)(E:϶),Inv X gE σ H s->(∀b∈fp,oZ X gE H b)->tn i s.heap->J.stop i H->
  wpAny (model P w) X.A (pyNext<|.ref it) (λr s1=>r=none/\Inv X gE σ H s1) E s
 self:∀(A:ϖ)(i:Nat)(s:ώ)(Q:϶)(E:϶),tn i s.heap->Q (.ref it) s->wpAny (model P w) A (pyIter<|.ref it) Q E s
abbrev TI:=St->Hp->(It->Hp->Prop)->Prop
def PIE(X:Cx)(gE:Ϸ)(σ:St)(tg:Expr)(R:It->Hp->Prop)(itv:ϋ)(s2:ώ):Prop:=
 ∃(it:ό)(fp:ϊ ό)(tn:Nat->ϒ->Prop)(J:It)(H':Hp),itv=.ref it/\Inv X gE σ H' s2/\Turn X.prog X.w X.K tg J fp it tn/\tn 0 s2.heap/\(∀b∈fp,oZ X gE H' b)/\R J H'
def PI(X:Cx)(tg iter:Expr)(wi:TI):Prop:=
 ∀(gE:Ϸ)(s:ώ)(σ:St)(H:Hp)(R:It->Hp->Prop),Inv X gE σ H s->wi σ H R->
  wpAny (model X.prog X.w) X.A (eval iter X.env) (λv s1=>wpAny (model X.prog X.w) X.A (pyIter v) (PIE X gE σ tg R) X.xe s1) X.xe s
theorem p6{n:String}{b:ϔ ϋ}{Q:Unit->ώ->Prop}(f:s.heap.get? it=!o)(c:o.cls=.type n)(d:o.data=.fields b)
  (e:["enumerate","zip","dict_itemiterator","dict_reverseitemiterator","odict_iterator","itertools.zip_longest","itertools.pairwise"].contains n=false) (a:Q Unit.unit s):wpAny M A (letOwnedTupleGo tg (.ref it) u) Q E s:=by
 unfold letOwnedTupleGo
 cases tg <;> first
  |show Xs a
  | (cases u<;>first
    |show Xs a
    | (show Qr<|wpAny_load f ?_
       rw[c,d];change wpAny M A (if(["enumerate","zip","dict_itemiterator","dict_reverseitemiterator","odict_iterator","itertools.zip_longest","itertools.pairwise"].contains n&&b[0]? ==!(rawInt _))=true then _ else _) Q E s;rw[if_neg<|by intro h;rw[e,Œ]at h;cases h];show Xs a))
noncomputable def Ou(K:Ϗ)(a:ό):It:=
 #[λi H=>∃xs x,SqL K H a xs/\xs[i]?=!x,λi H x H'=>H'=H/\∀xs,SqL K H a xs->xs[i]?=!x,λi H=>∃xs,SqL K H a xs/\↑xs<=i]
noncomputable def XQ(K:Ϗ)(a:ό):It:=
 #[λi H=>∃xs x,SqT K H a xs/\xs[i]?=!x,λi H x H'=>H'=H/\∀xs,SqT K H a xs->xs[i]?=!x,λi H=>∃xs,SqT K H a xs/\↑xs<=i]
def yq(lo:Int)(n:Nat):It:=#[λi _=>i<n,λi H x H'=>H'=H/\x=.int (lo+i),λi _=>n<=i]
theorem Gf{P:ϓ}{K:Ϗ}(a l:ό):Turn P w K tg (Ou K a) [l] l (λi h=>h.IsListIter l a i)where
 mem:=by simp
 obj:=λi h f b j=>by
  have e:b=l:=by simpa using j
  subst e;let#[o,e,c,d]:=f;show#[o,e,λv z=>by rw[d]at z;cases z]
 keep:=λi h n f k=>f.at λo e=>k l (by simp) o e
 item:=by
  intro X F J D O i g s Q H E I q f G;subst F J D;let#[xs,x,r,L]:=G;let#[M,N,p,Z]:=I.list r;let#[u,U,ru]:=N.get L;let#[t,y,T,A,B,C]:=q l (by simp);show wpAny_pyNext_list_item f p.isList (x:=u) (by simpa using U) λn m sb=>?_
  have R:Inv X g Q H {s with heap:=n}:=I.turned (t':=s.toks) (λb o j e=>(sb.2 b j).trans e) t y A B C;let#[o,e,c,d]:=id m;show#[u,rfl,p6 (s:={s with heap:=n}) e c d (by decide) ⟨x,H,R,ru,⟨rfl,λys Y=>by rw[I.list_inj Y r];show L⟩,m,λb j=>(q b j).1⟩]
 done:=by
  intro X F J D O i g s Q H E I q f G;subst F J D;let#[xs,r,L]:=G;let#[M,N,p,Z]:=I.list r;let#[t,y,T,A,B,C]:=q l (by simp);have hl:=↑N;show wpAny_pyNext_list_end (I.ok.hd O) f p.isList (by simp;rfl') λn S=>#[rfl,I.turned (t':=s.toks) (λb o j e=>S b o j e) t y A B C]
 self:=λ_ _ _ _ _ f h=>wpAny_pyIter_listiter f h
theorem yr{P:ϓ}{K:Ϗ}(a l:ό):Turn P w K tg (XQ K a) [l] l (λi h=>h.IsTupleIter l a i)where
 mem:=by simp
 obj:=λi h f b j=>by
  have e:b=l:=by simpa using j
  subst e;let#[o,e,c,d]:=f;show#[o,e,λv z=>by rw[d]at z;cases z]
 keep:=λi h q f k=>f.at λo e=>k l (by simp) o e
 item:=by
  intro X G L F O i g s Q H E I r f J;subst G L F;let#[xs,x,t,M]:=J;let#[m,N,p,Z]:=I.tuple t;let#[u,U,ru]:=N.get M;let#[y,A,T,B,C,D]:=r l (by simp);show wpAny_pyNext_tuple_item f (show s.heap.IsTuple a m.toArray from p) (x:=u) (by simpa using U) λq n sb=>?_
  have R:Inv X g Q H {s with heap:=q}:=I.turned (t':=s.toks) (λb o j e=>(sb.2 b j).trans e) y A B C D;let#[o,e,c,d]:=id n;show#[u,rfl,p6 (s:={s with heap:=q}) e c d (by decide) ⟨x,H,R,ru,⟨rfl,λys Y=>by rw[I.tuple_inj Y t];show M⟩,n,λb j=>(r b j).1⟩]
 done:=by
  intro X G L F O i g s Q H E I r f J;subst G L F;let#[xs,t,M]:=J;let#[m,N,p,Z]:=I.tuple t;let#[y,A,T,B,C,D]:=r l (by simp);have hl:=↑N;show wpAny_pyNext_tuple_end (I.ok.hd O) f (show s.heap.IsTuple a m.toArray from p) (by simp;rfl') λq S=>#[rfl,I.turned (t':=s.toks) (λb o j e=>S b o j e) y A B C D]
 self:=λ_ _ _ _ _ f h=>wpAny_pyIter_tupleiter f h
theorem yt{P:ϓ}{K:Ϗ}(c:ό)(lo:Int)(n:Nat):Turn P w K tg (yq lo n) [c] c (λi h=>IsRangeIter h c (lo+(i:Nat)*1) ((n:Int)-(i:Nat)) 1)where
 mem:=by simp
 obj:=λi h a b f=>by
  have e:b=c:=by simpa using f
  subst e;show⟨_,a,λv z=>by
   have O:Data.fields _=Data.cell v:=z
   cases O⟩
 keep:=λi h j a k=>k c (by simp) _ a
 item:=by
  intro X y C x A i d s F H E I l a B;subst y C x;let#[m,p,L,q,r,u]:=l c (by simp);have W:=Walks.range (prog:=X.prog) (w:=X.w) (I.ok.hd A) c lo 1 n;show W.item i s _ _ B a λv j D M g N=>?_
  let#[t,rfl]:=M;have G:Inv X d F H {s with heap:=j,toks:=D}:=I.turned (λb o f e=>N b o (by simpa using f) e) m p q r u;show⟨_,rfl,p6 (s:={s with heap:=j,toks:=D}) (n:="range_iterator") g rfl rfl (by decide) ⟨.int<|lo+i,H,G,⟨t,?_⟩,⟨rfl,rfl⟩,g,λb f=>(l b f).1⟩⟩;rw[Int.mul_one]
 done:=by
  intro X y C x A i d s F H E I l a B;subst y C x;let#[m,p,L,q,r,u]:=l c (by simp);show wpAny_pyNext_range_end (I.ok.hd A) a (by have:n<=i:=B;rfl') λj J=>#[rfl,I.turned (t':=s.toks) (λb o f e=>J b o f e) m p q r u]
 self:=λ_ _ _ _ _ a h=>wpAny_pyIter_rangeiter a h
section
variable{X:Cx}
def cB(K:Ϗ)(tl:TE):TI:=λσ H R=>tl σ H λx H1=>∃a,x=.ref a/\(∃xs,SqL K H1 a xs)/\R (Ou K a) H1
def nY(K:Ϗ)(tl:TE):TI:=λσ H R=>tl σ H λx H1=>∃a,x=.ref a/\(∃xs,SqT K H1 a xs)/\R (XQ K a) H1
theorem Ov(j:PE X l tl):PI X tg l (cB X.K tl):=by
 intro c s t H R I h;show bB (j c s t H _ I h) λv f ⟨x,g,d,r,n⟩=>?_
 let#[a,e,#[y,k],q]:=n;subst e
 cases r;let#[m,w,p,u]:=d.list k;show Ţ p.isList ?_;show#[f.heap.objs.size,[f.heap.objs.size],_,_,g,rfl,d.kept (t':=f.toks) λb o e=>Jn _ e,Gf a _,#[_,Å _ rfl,rfl,rfl],λb i=>?_,q];have e:b=f.heap.objs.size:=by simpa using i
 subst e;show d.fpOk (Ã _)<|d.hok.fresh<|Ã _
theorem TJ(k:PE X l tl):PI X tg l (nY X.K tl):=by
 intro c s t H R I h;show bB (k c s t H _ I h) λv d ⟨x,i,f,r,n⟩=>?_
 let#[a,e,#[y,m],q]:=n;subst e
 cases r;let#[g,w,p,u]:=f.tuple m;show ĺ (show d.heap.IsTuple a g.toArray from p) ?_;show#[d.heap.objs.size,[d.heap.objs.size],_,_,i,rfl,f.kept (t':=d.toks) λb o e=>Jn _ e,yr a _,#[_,Å _ rfl,rfl,rfl],λb j=>?_,q];have e:b=d.heap.objs.size:=by simpa using j
 subst e;show f.fpOk (Ã _)<|f.hok.fresh<|Ã _
theorem vO{R:It->Hp->Prop}{lo a:Int}{t u v:Tok}{d:Nat}(I:Inv X gE σ H s)(h:-(2^62)<=lo)(i:lo<2^62)(j:-(2^62)<=a)(k:a<2^62)
  (q:R (yq lo (a-lo).toNat) H):wpAny (model X.prog X.w) X.A (pyIter<|.ref s.heap.objs.size) (PIE X gE σ tg R) E {s with heap:=s.heap.push {cls:=.type "range",data:=.fields<|[.int lo t,.int a u,.int 1 v].toArray},toks:=d}:=by
 show wpAny_pyIter_range (IsRange.new ..) (small_one h i j k) ?_;have c:Inv X gE σ H {s with heap:=s.heap.push {cls:=.type "range",data:=.fields<|[.int lo t,.int a u,.int 1 v].toArray},toks:=d}:=I.kept λb o e=>Jn _ e
 show⟨(s.heap.push {cls:=.type "range",data:=.fields<|[.int lo t,.int a u,.int 1 v].toArray}).objs.size,[(s.heap.push {cls:=.type "range",data:=.fields<|[.int lo t,.int a u,.int 1 v].toArray}).objs.size],_,_,H,rfl,
  c.kept (t':=d) λb o e=>Jn _ e,yt _ lo (a-lo).toNat,?_,λb l=>?_,q⟩
 .have f:lo+((0:Nat):Int)*1=lo:=by simp
  have g:(((a-lo).toNat:Nat):Int)-((0:Nat):Int)=Builtin.Range.rangeSize lo a 1:=by rw[rangeSize_one];split<;>rfl'
  change IsRangeIter _ _ (lo+((0:Nat):Int)*1) ((((a-lo).toNat:Nat):Int)-((0:Nat):Int)) 1;rw[f,g];show Å _ rfl
 .have e:b=(s.heap.push {cls:=.type "range",data:=.fields<|[.int lo t,.int a u,.int 1 v].toArray}).objs.size:=by simpa using l
  subst e;show c.fpOk (Ã _)<|c.hok.fresh<|Ã _
def eG(ta:TA):TI:=λσ H R=>ta σ H λvs H1=>∃j:Int,vs=[.int j]/\-(2^62)<=j/\j<2^62/\R (yq 0 j.toNat) H1
def Il(ta:TA):TI:=λσ H R=>ta σ H λvs H1=>∃i j:Int,vs=[.int i,.int j]/\(-(2^62)<=i/\i<2^62/\-(2^62)<=j/\j<2^62)/\R (yq i (j-i).toNat) H1
theorem bF{a:Expr}{p:Pos}(g:Gl X "range")(i:X.mg "range"=none)(f:PA X [a] ta)(k:starEach [a] X.env=[(false,eval a X.env)]:=by rfl):PI X tg (.Call (.Name "range" p) [a] [] pos) (eG ta):=by
 intro b s n H R I h;show Call_<|fG I g i boot_range<|Č (bB (f pos b s n H _ I h) λv u ⟨w,o,d,m,c⟩=>?_) k rfl;let#[j,e,c,l,q]:=c;subst e
 cases m with
 |cons r rr=>
  cases rr;let#[t,rfl]:=r;show call_range_1<|vO d () () c l<|by simpa using q
theorem Gg{a b:Expr}{p:Pos}(l:Gl X "range")(m:X.mg "range"=none)(k:PA X [a,b] ta)(n:starEach [a,b] X.env=[(false,eval a X.env),(false,eval b X.env)]:=by rfl)(c:starEach [b] X.env=[(false,eval b X.env)]:=by rfl):
  PI X tg (.Call (.Name "range" p) [a,b] [] pos) (Il ta):=by
 intro d s x H R I h;show Call_ (fG I l m boot_range (Č (bB (k pos d s x H _ I h) λB z ⟨C,y,g,w,f⟩=>?_) (by rw[n,c]) (by rw[c];rfl)));let#[i,j,e,#[f,o,u,v],q]:=f;subst e
 cases w with
 |cons r rr=>
  cases rr with
  |cons r' rr=>
   cases rr;let#[t,rfl]:=r;let#[A,rfl]:=r';show call_range_2<|vO g f o u v q
def cC(wi:TI)(g:TG)(tb:TS):TS:=λD σ H=>wi σ H λJ H1=>∃W:Nat->Nat->St->Hp->Prop,(∃m,W 0 m σ H1)/\∀i m σ H,W i m σ H->
 (J.stop i H/\D.nx σ H)\/(J.go i H/\∃N:St->Hp->Prop,(∀σ' H',N σ' H'->∃m',m'<m/\W (i+1) m' σ' H')/\∀x H',J.yld i H x H'->g x σ H' λσ2 H2=>tb {D with nx:=N,ct:=N,bk:=D.nx} σ2 H2)
noncomputable def p7(fp:ϊ ό)(h:ϒ):Ϸ:=fp.filterMap λb=>(h.get? b).map λo=>(b,o)
theorem iI(a:b∈fp)(e:h.get? b=!o):(b,o)∈p7 fp h:=ó.mpr #[b,a,by rw[e];rfl]
theorem Gh(d:p∈p7 fp h):p.1∈fp/\h.get? p.1=!p.2:=by
 let#[b,c,e]:=ó.mp d
 cases q:h.get? b with
 |none=>rw[q]at e;cases e
 |some o=>
  rw[q]at e;have a:(b,o)=p:=Ü e;subst a;show#[c,q]
theorem Inv.pinned(I:Inv X gE σ H s)(i:∀b∈fp,oZ X gE H b)(j:∀b∈fp,∃o,s.heap.get? b=!o/\∀v,o.data≠.cell v):Inv X (gE++p7 fp s.heap) σ H s:=
 I.pins_of λp k=>(Ê.mp k).elim (λz=>I.pin p<|ß _ z) λz=>by
  let#[c,e]:=Gh z;let#[f,g,h,_]:=i p.1 c;let#[o,a,d]:=j p.1 c;rw[e]at a;cases a;show#[e,f,g,h,d]
theorem Inv.unpinned{b:Ϸ}(I:Inv X (gE++b) σ H s):Inv X gE σ H s:=I.pins_of λp a=>I.pin p<|ß _<|é _ a
theorem TQ{g:TG}(F:PassesOwn (model X.prog X.w) X.A X.env X.xe)(hc:X.calm=true)(hi:PI X tg q wi)(hg:PG X tg g)(p:PSs X body tb)
  (hs:∀x,foldedSetIterable q X.env x=pure x:=by intro _;rfl):PS X (.For tg q body [] pos) (cC wi g tb):=by
 intro a s σ H D I h;show wpAny_For (bB (hi a s σ H _ I h) λv s1 h1=>bB h1 λab s2 h2=>?_) hs;let#[it,C,tn,J,H2,e,I2,T,S,f2,W,#[m0,w0],L]:=h2;subst e;have t:∀{z:Hp},(∀b∈C,z b=none)->∀b∈C,oZ X a z b:=λhn b p=>#[hn b p,(f2 b p).2]
 show codeAny_forLoop_any (λn s'=>∃i w z,Inv X a w z s'/\tn i s'.heap/\(∀b∈C,z b=none)/\W i n w z) ?_ m0 #[0,σ,H2,I2,S,λb p=>(f2 b p).1,w0];rintro n s3 ⟨i,y,M,Z,K,E,w3⟩;rcases L i n y M w3 with⟨stop,qn⟩|⟨go,N,hN,step⟩
 .show ŝ F<|bB (T.done X rfl rfl rfl hc i a s3 y M X.xe Z (t E) K stop) λr s4 ⟨Q,I4⟩=>?_;subst Q;show wpAny_execs_nil #[y,M,I4,qn]
 .show ŝ F<|bB (T.item X rfl rfl rfl hc i a s3 y M X.xe Z (t E) K go) λr s4 ⟨u,Q,h4⟩=>?_;subst Q;show ŝ F<|bB h4 λ_ s5 ⟨x,Y,I5,r5,y5,B,P⟩=>?_;have O:=I5.pinned (t P)<|T.obj _ _ B;show ŝ F<|bB (hg _ s5 y Y x u _ O r5<|step x Y y5) λ_ s6 ⟨U,H6,I6,q6⟩=>?_;show ŝ F<|bB (p _ s6 U H6 _ I6 q6) λf R A=>?_;have l:∀{c:St}{j:Hp},Inv X (a++p7 C s5.heap) c j R->N c j->∃m,m<n/\∃i w z,Inv X a w z R/\tn i R.heap/\(∀b∈C,z b=none)/\W i m w z:=λ{c j} k G=>by
   let#[m',hm,w7]:=hN c j G;show#[m',hm,i+1,c,j,k.unpinned,T.keep _ _ _ B λb p o e=>(k.pin (b,o)<|ß _<|ß _<|iI p e).1,λb p=>?_,w7];let#[o,e,d]:=T.obj _ _ B b p;show(k.pin (b,o)<|ß _<|ß _<|iI p e).2.1
  cases f with
  |next=>let#[c,j,k,G]:=A;show l k G
  |cont=>let#[c,j,k,G]:=A;show l k G
  |brk=>let#[c,j,k,A]:=A;show#[c,j,k.unpinned,A]
  |ret v=>let#[x7,c,j,k,r7,A]:=A;show#[x7,c,j,k.unpinned,r7,A]
end
theorem Im{K:Ϗ}{xs:ϊ V}{g:TG}{D:Ends}(b:Nat->St->Hp->Prop)(f:b 0 σ H)(k:∀i σ H,i<=↑xs->b i σ H->SqL K H a xs)
  (l:∀i x σ H,xs[i]?=!x->b i σ H->g x σ H λc H2=>tb {D with nx:=b<|i+1,ct:=b<|i+1,bk:=D.nx} c H2) (h:∀σ H,b ↑xs σ H->D.nx σ H):
  ∃W:Nat->Nat->St->Hp->Prop,(∃m,W 0 m σ H)/\∀i m σ H,W i m σ H->
   ((Ou K a).stop i H/\D.nx σ H)\/((Ou K a).go i H/\∃N:St->Hp->Prop,(∀σ' H',N σ' H'->∃m',m'<m/\W (i+1) m' σ' H')/\∀x H',(Ou K a).yld i H x H'->g x σ H' λc H2=>tb {D with nx:=N,ct:=N,bk:=D.nx} c H2):=by
 show#[λi m σ H=>m=↑xs-i/\i<=↑xs/\b i σ H,#[↑xs,by simp,â _,f],?_];rintro i m σ H ⟨rfl,j,p⟩;have q:=k i σ H j p;by_cases d:i<↑xs
 .show .inr #[#[xs,xs[i],q,by simp[d]],b<|i+1,λσ' H' n=>#[xs.length-(i+1),(),rfl,d,n],λx H' y=>?_];let#[e,y]:=y;subst e;show l i x σ _ (y xs q) p
 .have e:i=↑xs:=()
  subst e;show .inl #[#[xs,q,Ã _],h σ H p]
theorem Ow{K:Ϗ}{xs:ϊ V}{g:TG}{D:Ends}(b:Nat->St->Hp->Prop)(f:b 0 σ H)(k:∀i σ H,i<=↑xs->b i σ H->SqT K H a xs)
  (l:∀i x σ H,xs[i]?=!x->b i σ H->g x σ H λc H2=>tb {D with nx:=b<|i+1,ct:=b<|i+1,bk:=D.nx} c H2) (h:∀σ H,b ↑xs σ H->D.nx σ H):
  ∃W:Nat->Nat->St->Hp->Prop,(∃m,W 0 m σ H)/\∀i m σ H,W i m σ H->
   ((XQ K a).stop i H/\D.nx σ H)\/((XQ K a).go i H/\∃N:St->Hp->Prop,(∀σ' H',N σ' H'->∃m',m'<m/\W (i+1) m' σ' H')/\∀x H',(XQ K a).yld i H x H'->g x σ H' λc H2=>tb {D with nx:=N,ct:=N,bk:=D.nx} c H2):=by
 show#[λi m σ H=>m=↑xs-i/\i<=↑xs/\b i σ H,#[↑xs,by simp,â _,f],?_];rintro i m σ H ⟨rfl,j,p⟩;have q:=k i σ H j p;by_cases d:i<↑xs
 .show .inr #[#[xs,xs[i],q,by simp[d]],b<|i+1,λσ' H' n=>#[xs.length-(i+1),(),rfl,d,n],λx H' y=>?_];let#[e,y]:=y;subst e;show l i x σ _ (y xs q) p
 .have e:i=↑xs:=()
  subst e;show .inl #[#[xs,q,Ã _],h σ H p]
theorem qU{lo:Int}{g:TG}{D:Ends}(a:Nat->St->Hp->Prop)(d:a 0 σ H)
  (h:∀i σ H,i<n->a i σ H->g (.int<|lo+i) σ H λc H2=>tb {D with nx:=a<|i+1,ct:=a<|i+1,bk:=D.nx} c H2) (f:∀σ H,a n σ H->D.nx σ H):
  ∃W:Nat->Nat->St->Hp->Prop,(∃m,W 0 m σ H)/\∀i m σ H,W i m σ H->
   ((yq lo n).stop i H/\D.nx σ H)\/((yq lo n).go i H/\∃N:St->Hp->Prop,(∀σ' H',N σ' H'->∃m',m'<m/\W (i+1) m' σ' H')/\∀x H',(yq lo n).yld i H x H'->g x σ H' λc H2=>tb {D with nx:=N,ct:=N,bk:=D.nx} c H2):=by
 show#[λi m σ H=>m=n-i/\i<=n/\a i σ H,#[n,by simp,â _,d],?_];rintro i m σ H ⟨rfl,k,p⟩;by_cases b:i<n
 .show .inr #[b,a<|i+1,λσ' H' j=>#[n-(i+1),(),rfl,b,j],λx H' y=>?_];let#[e,y]:=y;subst e y;show h i σ _ b p
 .have e:i=n:=()
  subst e;show .inl #[Nat.le_refl _,f σ H p]
theorem vP{c:TT}(a:St->Hp->Prop)(e:St->Hp->Nat)(g:a σ H)
  (h:∀σ H,a σ H->c σ H λb H1=>if b=true then tb {D with nx:=λσ' H'=>a σ' H'/\e σ' H'<e σ H,ct:=λσ' H'=>a σ' H'/\e σ' H'<e σ H,bk:=D.nx} σ H1 else D.nx σ H1)
  (d:∀σ H Q f,(∀b H1,Q b H1->f b H1)->c σ H Q->c σ H f):gM c tb D σ H:=by
 show#[λm σ H=>m=e σ H/\a σ H,#[_,rfl,g],?_];rintro m σ H ⟨rfl,p⟩;show d σ H _ _ (λb H1 q=>?_)<|h σ H p
 cases b with
 |true=>show#[_,λσ' H' ⟨i,l⟩=>#[_,l,rfl,i],q]
 |false=>show q
abbrev R2:=V->V->Hp->VK->Prop
variable{r r':R2}
def jj(X:Cx)(f:ϋ->ϋ->Sem ϋ)(r:R2):Prop:=
 ∀(gE:Ϸ)(s:ώ)(σ:St)(H:Hp)(x y:V)(v u:ϋ)(Q:VK),Inv X gE σ H s->RelV x v->RelV y u->r x y H Q->
  wpAny (model X.prog X.w) X.A (f v u) (EP X gE σ Q) X.xe s
def UnR(X:Cx)(f:ϋ->Sem ϋ)(r:V->Hp->VK->Prop):Prop:=
 ∀(gE:Ϸ)(s:ώ)(σ:St)(H:Hp)(x:V)(v:ϋ)(Q:VK),Inv X gE σ H s->RelV x v->r x H Q->
  wpAny (model X.prog X.w) X.A (f v) (EP X gE σ Q) X.xe s
def bY(X:Cx)(f:ϋ)(r:ϊ V->Hp->VK->Prop):Prop:=
 ∀(gE:Ϸ)(s:ώ)(σ:St)(H:Hp)(xs:ϊ V)(us:ϊ ϋ)(Q:VK),Inv X gE σ H s->Vals xs us->r xs H Q->
  wpAny (model X.prog X.w) X.A (call f us) (EP X gE σ Q) X.xe s
def a1m(X:Cx)(r:V->Hp->(ϑ->Hp->Prop)->Prop):Prop:=
 ∀(gE:Ϸ)(s:ώ)(σ:St)(H:Hp)(x:V)(v:ϋ)(Q:ϑ->Hp->Prop),Inv X gE σ H s->RelV x v->r x H Q->
  wpAny (model X.prog X.w) X.A (truthy v) (TP X gE σ Q) X.xe s
def aO(r:R2)(ta tb:TE):TE:=λσ H Q=>ta σ H λx H1=>tb σ H1 λy H2=>r x y H2 Q
def RT(r:V->Hp->VK->Prop)(ta:TE):TE:=λσ H Q=>ta σ H λx H1=>r x H1 Q
def rI(C:Int->Int->Prop)(g:Int->Int->V):R2:=λx y H Q=>∃i j,x=.int i/\y=.int j/\C i j/\Q (g i j) H
def tM(g:Int->Int->V):R2:=λx y H Q=>∃i j,x=.int i/\y=.int j/\Q (g i j) H
def rU(g:Int->V):V->Hp->VK->Prop:=λx H Q=>∃i,x=.int i/\Q (g i) H
section
variable{X:Cx}{a b c:Expr}{ta tb:TE}{pos:Pos}
theorem TV(g:PE X a ta)(i:PE X b tb){s:ώ}(I:Inv X gE σ H s)
  (h:ta σ H λx H1=>tb σ H1 λy H2=>R x y H2)
  (j:∀v u c x y H2,Inv X gE σ H2 c->RelV x v->RelV y u->R x y H2->wpAny (model X.prog X.w) X.A (f v u) Q X.xe c):
  wpAny (model X.prog X.w) X.A (eval a X.env) (λv s₁=>wpAny (model X.prog X.w) X.A (eval b X.env) (λu s₂=>wpAny (model X.prog X.w) X.A (f v u) Q X.xe s₂) X.xe s₁) X.xe s:=by
 show bB (g gE s σ H _ I h) λv o ⟨x,H1,d,m,k⟩=>?_
 show bB (i gE o σ H1 _ d k) λu c ⟨y,H2,e,n,l⟩=>?_
 show j v u c x y H2 e m n l
theorem aC{d:Operator}(j:jj X (binaryOp d) r)(g:PE X a ta)(i:PE X b tb):PE X (.BinOp a d b pos) (aO r ta tb):=by
 intro c s n H Q I h;show wpAny_BinOp<|TV g i I h λv u m x y e f k l q=>j c m n e x y v u Q f k l q
theorem qW{c:UnaryOp}{r:V->Hp->VK->Prop}(i:UnR X (unaryOp c) r)(g:PE X a ta):PE X (.UnaryOp c a pos) (RT r ta):=by
 intro b s d H Q I h;show UnaryOp_<|bB (g b s d H _ I h) λv l ⟨x,e,f,k,j⟩=>i b l d e x v Q f k j
theorem Yi
  (a:∀(i j:Int)(t u:Tok)(s:ώ)(Q:϶)(E:϶),C i j->Q (.int (g i j) s.toks) {s with toks:=s.toks+1}->wpAny (model X.prog X.w) X.A (f (.int i t)<|.int j u) Q E s):
  jj X f (rI C λi j=>.int<|g i j):=by
 intro b s l H x y v u Q I d e h;let#[i,j,rfl,rfl,c,q]:=h;let#[t,rfl]:=d;let#[k,rfl]:=e;show a i j t k s _ _ c #[.int<|g i j,H,I.tok _,#[_,rfl],q]
theorem Ox
  (a:∀(i j:Int)(t u:Tok)(s:ώ)(Q:϶)(E:϶),Q (.int (g i j) s.toks) {s with toks:=s.toks+1}->wpAny (model X.prog X.w) X.A (f (.int i t)<|.int j u) Q E s):
  jj X f (tM λi j=>.int<|g i j):=by
 intro b s k H x y v u Q I c d h;let#[i,j,rfl,rfl,q]:=h;let#[t,rfl]:=c;let#[e,rfl]:=d;show a i j t e s _ _ #[.int<|g i j,H,I.tok _,#[_,rfl],q]
theorem Oz{g:Int->Int->ϑ}
  (a:∀(i j:Int)(t u:Tok)(s:ώ)(Q:϶)(E:϶),Q (.bool<|g i j) s->wpAny (model X.prog X.w) X.A (f (.int i t)<|.int j u) Q E s):
  jj X f (tM λi j=>.bl<|g i j):=by
 intro b s k H x y v u Q I c d h;let#[i,j,rfl,rfl,q]:=h;let#[t,rfl]:=c;let#[e,rfl]:=d;show a i j t e s _ _ #[.bl<|g i j,H,I,rfl,q]
def Yj(i j:Int):Prop:=0<j/\j<1073741824
def Yk(i j:Int):Prop:=0<=j/\j<=1000000/\i.natAbs<2^64
def CMul(i j:Int):Prop:=(-(2^64)<i/\i<2^64)\/(-(2^64)<j/\j<2^64)
theorem CMul.ok{i j:Int}(h:CMul i j):IntMulOk i j:=by
 rcases h with⟨h1,h2⟩|⟨h1,h2⟩
 .show .of_left<|intBits_le_64 h1 h2
 .show .of_right<|intBits_le_64 h1 h2
theorem yu(k:Nat):(0:Int)<=2^k:=by
 rw[two_pow_cast];show Int.natCast_nonneg _
def b7:jj X (binaryOp .Add) (tM λi j=>.int<|i+j):=Ox λ_ _ _ _ _ _ _ q=>add_int q
def m9:jj X (binaryOp .Sub) (tM λi j=>.int<|i-j):=Ox λ_ _ _ _ _ _ _ q=>sub_int q
theorem eU:jj X (binaryOp .Mult) (rI CMul λi j=>.int<|i*j):=Yi λ_ _ _ _ _ _ _ a q=>mul_int q a.ok
theorem lE:jj X (binaryOp .FloorDiv) (rI Yj λi j=>.int<|i/j):=Yi λi j _ _ _ _ _ a q=>by
 have b:(0:Int)<j:=a.1;have c:j<1073741824:=a.2;show floordiv_int () (by rw[Int.fdiv_eq_ediv_of_nonneg i ()];show q)<|.inl<|PyProof.noPylong_small ()
theorem cG:jj X (binaryOp .Mod) (rI (λ_ j=>0<j) λi j=>.int<|i%j):=Yi λi j _ _ _ _ _ a q=>by
 have b:(0:Int)<j:=a;show mod_int' ()<|by rw[Int.fmod_eq_emod_of_nonneg i ()];show q
theorem yw:jj X (binaryOp .LShift) (rI Yk λi j=>.int<|i*2^j.toNat):=Yi λ_ _ _ _ _ _ _ a q=>lshift_int_small a.1 a.2.1 a.2.2 q
theorem yx:jj X (binaryOp .RShift) (rI (λ_ j=>0<=j) λi j=>.int<|i/2^j.toNat):=Yi λi j _ _ _ _ _ a q=>
 rshift_int a<|by rw[Int.fdiv_eq_ediv_of_nonneg i<|yu _];show q
def tO:jj X (binaryOp .BitAnd) (tM λi j=>.int<|Builtin.bitAnd i j):=Ox λ_ _ _ _ _ _ _ q=>and_int q
def tQ:jj X (binaryOp .BitXor) (tM λi j=>.int<|Builtin.bitXor i j):=Ox λ_ _ _ _ _ _ _ q=>xor_int q
theorem unI{f:ϋ->Sem ϋ}{g:Int->Int}
  (a:∀(i:Int)(t:Tok)(s:ώ)(Q:϶)(E:϶),Q (.int (g i) s.toks) {s with toks:=s.toks+1}->wpAny (model X.prog X.w) X.A (f<|.int i t) Q E s):
  UnR X f (rU λi=>.int<|g i):=by
 intro b s d H x v Q I c h;let#[i,rfl,q]:=h;let#[t,rfl]:=c;show a i t s _ _ #[.int<|g i,H,I.tok _,#[_,rfl],q]
def mj:UnR X (unaryOp .USub) (rU λi=>.int<|-i):=unI λ_ _ _ _ _ q=>neg_int q
end
noncomputable def TX:V->V->ϑ
 |.non,.non=>true|.non,.int _=>true|.int _,.non=>true|.non,.bl _=>true|.bl _,.non=>true|.non,.str _=>true|.str _,.non=>true
 |.int _,.int _=>true|.bl _,.bl _=>true|.str _,.str _=>true|.byt _,.byt _=>true
 |.int _,.str _=>true|.str _,.int _=>true|.bl _,.str _=>true|.str _,.bl _=>true
 |_,_=>false
def vQ:R2:=λx y H Q=>TX x y=true/\Q (.bl<|decide<|x=y) H
def yz:R2:=λx y H Q=>TX x y=true/\Q (.bl<|not (decide<|x=y)) H
theorem Eg{i j:Int}:decide (V.int i=V.int j)=(i==j):=by
 rw[θ];simp
theorem Io{i j:ϑ}:decide (V.bl i=V.bl j)=(i==j):=by
 rw[θ];simp
theorem Ei{i j:ϐ}:decide (V.str i=V.str j)=(i==j):=by
 rw[θ];simp
theorem Ej{i j:ϔ UInt8}:decide (V.byt i=V.byt j)=(i.toList==j.toList):=by
 rw[θ]
 cases i
 cases j;simp
section
variable{X:Cx}{a b c:Expr}{ta tb tc:TE}{pos:Pos}
theorem b8{Q:VK}{a:ϑ}(I:Inv X gE σ H s)(q:Q (.bl k) H)(e:k=a):EP X gE σ Q (.bool a) s:=by
 subst e;show#[.bl k,H,I,rfl,q]
theorem gC:jj X (compareOp .Eq) vQ:=by
 intro e s f H x y v u Q I d a h;let#[c,q]:=h
 cases x with
 |non=>
  cases d
  cases y with
  |non=>cases a;show PySem.EqNone.eq_none_none<|b8 I q<|by simp
  |bl j=>cases a;show PySem.EqNone.eq_none_bool<|b8 I q<|by simp
  |int j=>let#[b,rfl]:=a;show PySem.EqNone.eq_none_int<|b8 I q<|by simp
  |str j=>let#[b,rfl]:=a;show PySem.EqNone.eq_none_str<|b8 I q<|by simp
  |_=>show absurd (show false=true from c) Í
 |bl i=>
  cases d
  cases y with
  |non=>cases a;show PySem.EqNone.eq_bool_none<|b8 I q<|by simp
  |bl j=>cases a;show eq_bool<|b8 I q Io
  |str j=>let#[b,rfl]:=a;show PySem.EqMixed.eq_bool_str<|b8 I q<|by simp
  |_=>show absurd (show false=true from c) Í
 |int i=>
  let#[t,rfl]:=d
  cases y with
  |non=>cases a;show PySem.EqNone.eq_int_none<|b8 I q<|by simp
  |int j=>let#[b,rfl]:=a;show eq_int<|b8 I q Eg
  |str j=>let#[b,rfl]:=a;show PySem.EqMixed.eq_int_str<|b8 I q<|by simp
  |_=>show absurd (show false=true from c) Í
 |str i=>
  let#[t,rfl]:=d
  cases y with
  |non=>cases a;show PySem.EqNone.eq_str_none<|b8 I q<|by simp
  |bl j=>cases a;show PySem.EqMixed.eq_str_bool<|b8 I q<|by simp
  |int j=>let#[b,rfl]:=a;show PySem.EqMixed.eq_str_int<|b8 I q<|by simp
  |str j=>let#[b,rfl]:=a;show eq_str<|b8 I q Ei
  |_=>show absurd (show false=true from c) Í
 |byt i=>
  let#[t,rfl]:=d
  cases y with
  |byt j=>let#[b,rfl]:=a;show PySem.W.eq_bytes<|b8 I q Ej
  |_=>show absurd (show false=true from c) Í
 |_=>cases y<;>show absurd (show false=true from c) Í
theorem jm:jj X (compareOp .NotEq) yz:=by
 intro e s f H x y v u Q I d a h;let#[c,q]:=h
 cases x with
 |non=>
  cases d
  cases y with
  |non=>cases a;show PySem.EqNone.ne_none_none<|b8 I q<|by simp
  |bl j=>cases a;show PySem.EqNone.ne_none_bool<|b8 I q<|by simp
  |int j=>let#[b,rfl]:=a;show PySem.EqNone.ne_none_int<|b8 I q<|by simp
  |str j=>let#[b,rfl]:=a;show PySem.EqNone.ne_none_str<|b8 I q<|by simp
  |_=>show absurd (show false=true from c) Í
 |bl i=>
  cases d
  cases y with
  |non=>cases a;show PySem.EqNone.ne_bool_none<|b8 I q<|by simp
  |bl j=>cases a;show ne_bool<|b8 I q<|Ö not Io
  |str j=>let#[b,rfl]:=a;show PySem.EqMixed.ne_bool_str<|b8 I q<|by simp
  |_=>show absurd (show false=true from c) Í
 |int i=>
  let#[t,rfl]:=d
  cases y with
  |non=>cases a;show PySem.EqNone.ne_int_none<|b8 I q<|by simp
  |int j=>let#[b,rfl]:=a;show ne_int<|b8 I q<|Ö not Eg
  |str j=>let#[b,rfl]:=a;show PySem.EqMixed.ne_int_str<|b8 I q<|by simp
  |_=>show absurd (show false=true from c) Í
 |str i=>
  let#[t,rfl]:=d
  cases y with
  |non=>cases a;show PySem.EqNone.ne_str_none<|b8 I q<|by simp
  |bl j=>cases a;show PySem.EqMixed.ne_str_bool<|b8 I q<|by simp
  |int j=>let#[b,rfl]:=a;show PySem.EqMixed.ne_str_int<|b8 I q<|by simp
  |str j=>let#[b,rfl]:=a;show ne_str<|b8 I q<|Ö not Ei
  |_=>show absurd (show false=true from c) Í
 |byt i=>
  let#[t,rfl]:=d
  cases y with
  |byt j=>let#[b,rfl]:=a;show PySem.W.ne_bytes<|b8 I q<|Ö not Ej
  |_=>show absurd (show false=true from c) Í
 |_=>cases y<;>show absurd (show false=true from c) Í
def qX:jj X (compareOp .Lt) (tM λi j=>.bl<|decide<|i<j):=Oz λ_ _ _ _ _ _ _ q=>lt_int q
def fO:jj X (compareOp .LtE) (tM λi j=>.bl<|decide<|i<=j):=Oz λ_ _ _ _ _ _ _ q=>le_int q
def kh:jj X (compareOp .Gt) (tM λi j=>.bl<|decide<|j<i):=Oz λ_ _ _ _ _ _ _ q=>gt_int q
def Ip:jj X (compareOp .GtE) (tM λi j=>.bl<|decide<|j<=i):=Oz λ_ _ _ _ _ _ _ q=>ge_int q
theorem Gi:jj X (compareOp .Lt) (λx y H Q=>∃i j,x=.str i/\y=.str j/\Q (.bl<|decide<|i.cps.toList<j.cps.toList) H):=by
 intro a s e H x y v u Q I b c h;let#[i,j,rfl,rfl,q]:=h;let#[t,rfl]:=b;let#[d,rfl]:=c;show lt_str<|b8 I q rfl
theorem iJ:jj X (compareOp .Is) (λx y H Q=>y=.non/\Q (.bl<|decide<|x=.non) H):=by
 intro a s d H x y v u Q I b c h;let#[rfl,q]:=h
 cases c;show is_none_gen<|b8 I q ?_
 cases x<;>first
  |(cases b;rfl)
  |(let#[t,rfl]:=b;rfl)
theorem OD:jj X (compareOp .IsNot) (λx y H Q=>y=.non/\Q (.bl<|not (decide<|x=.non)) H):=by
 intro a s d H x y v u Q I b c h;let#[rfl,q]:=h
 cases c;show isnot_none_gen<|b8 I q ?_
 cases x<;>first
  |(cases b;rfl)
  |(let#[t,rfl]:=b;rfl)
theorem aM(b:Expr)(h:op≠.In:=by decide)(d:op≠.NotIn:=by decide):behindInMarks op b=false:=by
 have a:(op==CmpOp.In)=false:=by cases op<;>first|rfl|show absurd rfl h
 have c:(op==CmpOp.NotIn)=false:=by cases op<;>first|rfl|show absurd rfl d
 cases b<;>simp[behindInMarks,a,c]
theorem cV(j:jj X (compareOp op) r)(f:PE X a ta)(g:PE X b tb)(i:behindInMarks op b=false):PE X (.Compare a [op] [b] pos) (aO r ta tb):=by
 intro c s n H Q I h;show wpAny_Compare1 (TV f g I h λv u m x y d e k l q=>j c m n d x y v u Q e k l q) i
def aQ(t:TE):TT:=λσ H Q=>t σ H λx H'=>∃k,x=.bl k/\Q k H'
theorem aK(t:jj X (compareOp op) r)(o:PE X a ta)(p:PE X b tb)(q:behindInMarks op b=false):PT X (.Compare a [op] [b] pos) (aQ<|aO r ta tb):=by
 intro d s f H Q I h;show wpAny_isTrue_Compare1 (bB (o d s f H _ I h) λv F ⟨x,g,l,C,w⟩=>bB (p d F f g _ l w) λu G ⟨y,i,m,D,A⟩=>
  bB (t d G f i x y v u _ m C D A) λc J ⟨z,j,n,E,k,e,B⟩=>?_) q
 subst e
 cases E;show ć #[j,n,B]
def fH(r r':R2)(ta tb tc:TE):TE:=λσ H Q=>ta σ H λx H1=>tb σ H1 λy H2=>r x y H2 λz H3=>∃k,z=.bl k/\
 (if k=true then tc σ H3 λw' H4=>r' y w' H4 Q else Q (.bl false) H3)
theorem vR(F:jj X (compareOp op) r)(i:jj X (compareOp op') r')(B:PE X a ta)(C:PE X b tb)(D:PE X c tc)
  (E:lastMarks [op,op'] [b,c]=false:=by with_unfolding_all rfl):PE X (.Compare a [op,op'] [b,c] pos) (fH r r' ta tb tc):=by
 intro f s g H Q I h;show Compare_chain (bB (B f s g H _ I h) λv O ⟨x,o,t,L,G⟩=>chain_link (bB (C f O g o _ t G) λu P ⟨y,p,w,n,J⟩=>
  bB (F f P g p x y v u _ w L n J) λd R ⟨z,j,l,M,k,e,m⟩=>?_)) E
 subst e
 cases M;show ć ?_
 cases k with
 |false=>show ite_ff #[.bl false,j,l,rfl,m]
 |true=>show ite_tt<|chain_last<|bB (D f R g j _ l m) λT S ⟨U,q,A,N,K⟩=>i f S g q y U u T Q A n N K
theorem gb(L:jj X (compareOp op) r)(i:jj X (compareOp op') r')(F:PE X a ta)(G:PE X b tb)(J:PE X c tc)
  (K:lastMarks [op,op'] [b,c]=false:=by with_unfolding_all rfl):PT X (.Compare a [op,op'] [b,c] pos) (aQ<|fH r r' ta tb tc):=by
 intro f s g H Q I h;show isTrue_chain (bB (F f s g H _ I h) λv Y ⟨x,o,w,S,N⟩=>test_link (bB (G f Y g o _ w N) λu Z ⟨y,p,A,n,O⟩=>
  bB (L f Z g p x y v u _ A S n O) λd s3 ⟨z,j,l,T,k,e,m⟩=>?_)) K
 subst e
 cases T;show ć ?_
 cases k with
 |false=>
  let#[k',D,M]:=m
  cases D;show ite_ff #[j,l,M]
 |true=>
  show ite_tt<|test_last<|bB (J f s3 g j _ l m) λw' s4 ⟨z',q,B,U,P⟩=>bB (i f s4 g q y z' u w' _ B n U P) λd' s5 ⟨z2,t,C,W,k2,E,R⟩=>?_;subst E
  cases W;show ć #[t,C,R]
def Gj(K:Ϗ)(x:V)(H:Hp)(k:ϑ):Prop:=
 match x with
 |.non=>k=false
 |.bl b=>k=b
 |.int i=>k=(i !=0)
 |.str y=>↑y<=sizeLine/\k=((↑y:Int)!=0)
 |.byt y=>y.size<=sizeLine/\k=((y.size:Int)!=0)
 |.ref p=>(∃xs,SqL K H p xs/\k=not xs.isEmpty)\/(∃xs,SqT K H p xs/\k=not xs.isEmpty)\/∃kvs,H p=!(.dK kvs)/\k=not kvs.isEmpty
 |_=>False
theorem yC{c:Type}{a:ϊ<|c×V}{b:ϊ<|c×ϋ}(r:KV a b):(not b.isEmpty)=not a.isEmpty:=by
 cases r<;>rfl
theorem ph{a:ϊ V}(r:Vals a its):(not its.toArray.isEmpty)=not a.isEmpty:=by
 cases r<;>simp
theorem mC:(sizeLine:Nat)<2^63:=by rw[õ];decide
theorem TY:a1m X (λx H Q=>∃k,Gj X.K x H k/\Q k H):=by
 intro u s C H x v Q I g h;let#[k,e,q]:=h;have A:=mC;have B:sizeLine=16777216:=õ
 cases x with
 |non=>
  cases g;have a:k=false:=e;subst a;show truthy_none #[H,I,q]
 |bl b=>
  cases g;have a:k=b:=e;subst a;show ć #[H,I,q]
 |int i=>
  let#[t,rfl]:=g;have a:k=(i !=0):=e;subst a;show PySem.P.truthy_int #[H,I,q]
 |str y=>
  let#[t,rfl]:=g;let#[z,a]:↑y<=sizeLine/\k=((↑y:Int)!=0):=e;subst a;show PySem.P.truthy_str () #[H,I.tok _,q]
 |byt y=>
  let#[t,rfl]:=g;let#[z,a]:y.size<=sizeLine/\k=((y.size:Int)!=0):=e;subst a;show PySem.W.truthy_bytes () #[H,I.tok _,q]
 |ref p=>
  cases g;have a:(∃f,SqL X.K H p f/\k=not f.isEmpty)\/(∃f,SqT X.K H p f/\k=not f.isEmpty)\/∃c,H p=!(.dK c)/\k=not c.isEmpty:=e;rcases a with⟨f,hx,a⟩|⟨f,hx,a⟩|⟨c,hx,a⟩
  .subst a;let#[l,r,n,o]:=I.list hx;have d:=↑r;show wpAny_truthy_list n.isList (by simp only[Õ];rfl') #[H,I.tok _,by rw[ph r];show q]
  .subst a;let#[l,r,n,o]:=I.tuple hx;have d:=↑r;show truthy_tuple n (by simp only[Õ];rfl') #[H,I.tok _,by rw[ph r];show q]
  .subst a;let#[o,w,j,r,m]:↑c<=sizeLine/\(p==sysModules)=false/\∃j,KV c j/\s.heap.DictOf (bw X.prog X.w) p j:=I.hok p _ hx;have d:↑c=↑j:=ğ r;show wpAny_truthy_dict w m () #[H,I.tok _,by rw[yC r];show q]
 |_=>show(show False from e).elim
theorem Ir(f:PE X a ta)(g:∀b,isTrue a X.env b=(do let v<-b;standAt a.pos;holding [v]<|truthy v)):
  PT X a (λσ H Q=>ta σ H λx H'=>∃k,Gj X.K x H' k/\Q k H'):=by
 intro c s σ H Q I h;show isTrue_plain (bB (f c s σ H _ I h) λv l ⟨x,d,e,j,i⟩=>TY c l σ d x v Q e j i)<|g _
theorem eV:jj X (binaryOp .Add) (λx y H Q=>∃i j,x=.str i/\y=.str j/\↑i+↑j<=sizeLine/\Q (.str<|i++j) H):=by
 intro a s g H x y v u Q I c d h;let#[i,j,rfl,rfl,b,q]:=h;let#[t,rfl]:=c;let#[e,rfl]:=d;show add_str (λe f=>#[.str<|i++j,H,I.tok _,#[_,rfl],q]) b
theorem vals1{x:V}{a:ϊ ϋ}(r:Vals [x] a):∃u,a=[u]/\RelV x u:=by
 cases r with
 |cons r1 r2=>cases r2;show#[_,rfl,r1]
theorem vals2{x:V}{a:ϊ ϋ}(r:Vals [x,y] a):∃u b,a=[u,b]/\RelV x u/\RelV y b:=by
 cases r with
 |cons r1 r2=>
  cases r2 with
  |cons r3 r4=>cases r4;show#[_,_,rfl,r1,r3]
theorem Gk(c:X.calm=true):bY X (.builtin "min") (λxs H Q=>∃i j,xs=[.int i,.int j]/\Q (.int<|if j<i then j else i) H):=by
 intro b s m H xs g Q I r h;let#[i,j,rfl,q]:=h;let#[u,l,rfl,#[t,rfl],#[e,rfl]]:=vals2 r;show min_two_ints (I.ok.hd c) λd f k=>#[_,H,I.kept k,?_,q]
 by_cases a:j<i
 .rw [if_pos a,if_pos a];show#[_,rfl]
 .rw [if_neg a,if_neg a];show#[_,rfl]
theorem Iu:bY X (.builtin "ord") (λxs H Q=>∃x,xs=[.str x]/\↑x=1/\Q (.int (x.cps.getD 0 0:Nat)) H):=by
 intro a s d H xs c Q I r h;let#[x,rfl,b,q]:=h;let#[u,rfl,t,rfl]:=vals1 r;show ord_of_one b #[.int _,H,I.tok _,#[_,rfl],q]
def Yl(K:Ϗ)(x:V)(H:Hp)(n:Nat):Prop:=
 match x with
 |.str y=>↑y<=sizeLine/\n=↑y
 |.byt y=>y.size<=sizeLine/\n=y.size
 |.ref p=>(∃xs,SqL K H p xs/\n=↑xs)\/∃xs,SqT K H p xs/\n=↑xs
 |_=>False
theorem Iv:bY X (.builtin "len") (λxs H Q=>∃x n,xs=[x]/\Yl X.K x H n/\Q (.int n) H):=by
 intro i s v H xs o Q I r h;let#[x,n,rfl,e,q]:=h;let#[u,rfl,g]:=vals1 r;have l:=mC;have m:sizeLine=16777216:=õ
 cases x with
 |str y=>
  let#[t,rfl]:=g;let#[j,b]:↑y<=sizeLine/\n=↑y:=e;subst b;show len_str () #[.int _,H,I.tok _,#[_,rfl],q]
 |byt y=>
  let#[t,rfl]:=g;let#[j,b]:y.size<=sizeLine/\n=y.size:=e;subst b;show PySem.W.len_bytes () #[.int _,H,I.tok _,#[_,rfl],q]
 |ref p=>
  cases g;have b:(∃xs,SqL X.K H p xs/\n=↑xs)\/∃xs,SqT X.K H p xs/\n=↑xs:=e;rcases b with⟨xs,hx,b⟩|⟨xs,hx,b⟩
  .subst b;let#[c,f,d,k]:=I.list hx;have a:=↑f;show Calls.call_len_list d.isList (by simp only[Õ];rfl') #[.int ↑xs,H,I.tok _,#[_,by simp only[Õ];rw[a]],q]
  .subst b;let#[c,f,d,k]:=I.tuple hx;have a:=↑f;show len_tuple d (by simp only[Õ];rfl') #[.int ↑xs,H,I.tok _,#[_,by simp only[Õ];rw[a]],q]
 |_=>show(show False from e).elim
end
structure ObjM(h:ϒ)(x dx C:ό)(mA:ϐ->ύ ϋ):Prop where
 obj:h.get? x=!(PySem.W.instObj C dx)
 ns:h.Ns1 dx mA
 ne:dx≠x
theorem Gm{h:ϒ}(n:h.Ns1 dx mA):∃od,h.get? dx=!od/\∀name,PySem.W.lookIn name od=!(mA name):=by
 let#[o,c,l,j,f,g,_,i]:=n;show#[o,j,λname=>?_];have e:=i name;unfold nsFind findBy at e;rw[<-Array.find?_toList]at e;unfold PySem.W.lookIn;rw[f];dsimp only;split
 .rename_i y q;rw[q]at e;show Ö some e
 .rename_i q;rw[q]at e;have a:c.toList.any (·.refKey)=false:=by
   rw[List.any_eq_false];intro y k;let#[z,t,b]:=g y<|Array.mem_toList_iff.mp k;simp[DictEntry.refKey,b]
  have d:¬c.toList.any (·.refKey)=true:=by rw[a];show Í
  rw[if_neg d];show Ö some e
def ObjM.look{x C:ό}(I:ObjM h x dx C mA):∃od,PySem.W.InstAt h x (PySem.W.instObj C dx) C !od/\∀name,PySem.W.lookIn name od=!(mA name):=
 let⟨od,ho,hl⟩:=Gm I.ns
 #[od,#[I.obj,rfl,rfl,ho],hl]
theorem RelO.some_of(r:RelO (!v) o):∃u,o=!u/\RelV v u:=by
 cases o with
 |none=>show(show False from r).elim
 |some u=>show#[u,rfl,r]
section
variable{P:ϓ}{w:ϕ}{H:Hp}{h:ϒ}{a C dx:ό}{fs:ϊ (ϐ×V)}
theorem OJ(b:HOk P w H h)(e:H a=!(.ins C dx fs)):∃mA,ObjM h a dx C mA/\(∀f,RelO (fs.lookup f)<|mA f)/\PySem.Within mA (fs.map (·.1))/\↑fs<=1000/\H dx=!(.own a):=by
 let#[d,z,c,ob,mA,n,r,q]:=(show ObjOk P w H h a (.ins C dx fs)from b a _ e);show#[mA,#[ob,n,c],r,q,z,d]
end
structure Cls(K:Ϗ)(C:ό):Prop where
 pg:PySem.W.plainGet K C Str.empty=true
 hd:PySem.W.hasDictIn K C=true
 po:PySem.W.plainOver K C=true
 sa:PySem.W.findIn K (.ref C) "__setattr__"=!(!(.builtin "object.__setattr__"))
def Cls.get{K:Ϗ}{C:ό}(c:Cls K C)(f:ϐ):PySem.W.plainGet K C f=true:=c.pg
section
variable{X:Cx}{gE:Ϸ}{σ:St}{H:Hp}{s:ώ}{A:ϖ}{E:϶}{Q:϶}{c:ϋ}{b:ϑ}
inductive TyOf(K:Ϗ)(H:Hp):V->ϋ->Prop where
 |non:TyOf K H .non<|.type "NoneType"
 |bl (x:ϑ):TyOf K H (.bl x)<|.type "bool"
 |int (i:Int):TyOf K H (.int i)<|.type "int"
 |str (x:ϐ):TyOf K H (.str x)<|.type "str"
 |flt (x:UInt64):TyOf K H (.flt x)<|.type "float"
 |lst {a:ό} {xs:ϊ V} (e:H a=!(.lst xs)):TyOf K H (.ref a)<|.type "list"
 |frz {a:ό} {o:Obj} {xs:ϊ V} (e:H a=!(.frz o<|.lst xs)):TyOf K H (.ref a)<|.type "list"
 |tup {a:ό} {xs:ϊ V} (e:H a=!(.tup xs)):TyOf K H (.ref a)<|.type "tuple"
 |dK {a:ό} {kvs:ϊ<|Key×V} (e:H a=!(.dK kvs)):TyOf K H (.ref a)<|.type "dict"
 |dT {a:ό} {kvs:ϊ<|ϊ Key×V} (e:H a=!(.dT kvs)):TyOf K H (.ref a)<|.type "dict"
 |ins {a C dx:ό} {fs:ϊ<|ϐ×V} (e:H a=!(.ins C dx fs)) (cl:Cls K C) (ha:PySem.W.findIn K (.ref C) "__class__"=!(!(.builtin "object.__class__")))
   (hn:PySem.W.specialIn K (.builtin "object.__class__") "__get__"=!(!(.builtin "getset_descriptor.__get__"))) (htk:PySem.W.takesIn K (.builtin "object.__class__")=!true)
   (hm:PySem.W.mroIn K C (.type "object")=!true):TyOf K H (.ref a)<|.ref C
theorem Gn{x:V}{t:ϋ}(I:Inv X gE σ H s)(d:RelV x u)(m:TyOf X.K H x t)(e:PySem.W.kitOne X.K t c=!b)(h:∀tk,Q (.bool b) {s with toks:=tk}):
  wpAny (model X.prog X.w) A (call (.builtin "isinstance") [u,c]) Q E s:=by
 cases m with
 |non=>cases(show u=Value.none from d);show Ġ PySem.W.kitx_none I.kIn True.intro e (λz=>nomatch z) h
 |bl y=>cases(show u=Value.bool y from d);show Ġ PySem.W.kitx_bool I.kIn True.intro e (λz=>nomatch z) h
 |int i=>let#[t,q]:=(show∃t,u=Value.int i t from d);cases q;show Ġ PySem.W.kitx_int I.kIn True.intro e (λz=>nomatch z) h
 |str y=>let#[t,q]:=(show∃t,u=Value.str y t from d);cases q;show Ġ PySem.W.kitx_str I.kIn True.intro e (λz=>nomatch z) h
 |flt y=>let#[t,q]:=(show∃t,u=Value.float y t from d);cases q;show Ġ PySem.W.kitx_float I.kIn True.intro e (λz=>nomatch z) h
 |@lst a g ea=>
  cases(show u=Value.ref a from d);let#[_,_,n,_,f]:=(show ObjOk X.prog X.w H s.heap a (.lst g)from I.hok a _ ea);show Ġ PySem.W.kitx_list I.kIn #[_,f,rfl] e (λz=>nomatch z) h
 |@frz a ob g ea=>
  cases(show u=Value.ref a from d);let#[_,_,_,n,_,f]:=(show ObjOk X.prog X.w H s.heap a (.frz ob<|.lst g)from I.hok a _ ea);show Ġ PySem.W.kitx_list I.kIn #[_,f,rfl] e (λz=>nomatch z) h
 |@tup a g ea=>
  cases(show u=Value.ref a from d);let#[_,_,_,p]:=(show ObjOk X.prog X.w H s.heap a (.tup g)from I.hok a _ ea);let#[o,f,j,_]:=p;show Ġ PySem.W.kitx_tuple I.kIn #[o,f,j] e (λz=>nomatch z) h
 |@dK a kvs ea=>
  cases(show u=Value.ref a from d);let#[_,_,w,_,p]:=(show ObjOk X.prog X.w H s.heap a (.dK kvs)from I.hok a _ ea);let#[o,l,k,f,j,_]:=p;show Ġ PySem.W.kitx_dict I.kIn #[o,f,j.1] e (λz=>nomatch z) h
 |@dT a kvs ea=>
  cases(show u=Value.ref a from d);let#[_,_,g,_,o,l,k,f,j,_]:=(show ObjOk X.prog X.w H s.heap a (.dT kvs)from I.hok a _ ea);show Ġ PySem.W.kitx_dict I.kIn #[o,f,j.1] e (λz=>nomatch z) h
 |@ins a C dx fs ea cl ha hn htk hm=>
  cases(show u=Value.ref a from d);let#[r,O,_]:=OJ I.hok ea;let#[v,J,_]:=O.look;show Ġ (PySem.W.kitx_own (cl.get _) cl.hd ha hn htk hm) I.kIn J e (λz=>nomatch z) h
end
structure Room(k:Nat)(A:ϖ):Prop where
 hd:A.handled=none
 dp:A.depth+3*k+5<recursionLimit
 un:A.units+16*k+200<cLine
theorem Room.mono{k:Nat}(r:Room k A)(h:j<=k):Room j A:=#[r.hd,by have:=r.dp;rfl',by have:=r.un;rfl']
theorem Room.deeper{k:Nat}(r:Room (k+1) A)(a:Env):Room k (A.deeper a):=
 #[r.hd,by have:=r.dp;change A.depth+1+3*k+5<_;rfl',by have:=r.un;change A.units+3+16*k+200<_;rfl']
theorem Room.depth{k:Nat}(r:Room k A):A.depth<recursionLimit:=by have:=r.dp;rfl'
theorem Room.units{k:Nat}(r:Room k A):A.units+64<cLine:=by have:=r.un;rfl'
def gf:TA:=λ_ H Q=>Q [] H
def eN(ta:TE)(tr:TA):TA:=λσ H Q=>ta σ H λx H1=>tr σ H1 λxs H2=>Q (x::xs) H2
section
variable{X:Cx}{e:Expr}{es:ϊ Expr}{te:TE}{t:TA}{pos:Pos}
theorem dm:PA X [] gf:=λ_ _ _ _ H Q I h=>ţ #[[],H,I,.nil,h]
theorem Ek(j:PE X e te)(k:PA X es t)(l:starEach (e::es) X.env=(false,eval e X.env)::starEach es X.env:=by rfl):PA X (e::es) (eN te t):=by
 intro b a s c H Q I h;rw[l];change wpAny _ _ (spliced ((false,eval e X.env)::backTo b (starEach es X.env))) _ _ s;show Ļ (bB (j a s c H _ I h) λu q ⟨x,d,g,o,m⟩=>?_);show bB (k b a q c d _ g m) λw v ⟨r,f,i,p,n⟩=>#[x::r,f,i,.cons o p,n]
def dG(t:TA):TE:=λσ H Q=>t σ H λxs H1=>↑xs<=sizeLine/\∀p,H1 p=none->Q (.ref p) (upd H1 p<|.tup xs)
def gO(t:TA):TE:=λσ H Q=>t σ H λxs H1=>↑xs<=sizeLine/\∀p,H1 p=none->Q (.ref p) (upd H1 p<|.lst xs)
theorem bD{x1}(h:PA X es t):PE X (.Tuple es x1 pos) (dG t):=by
 intro a s l H Q I i;show wpAny_Tuple_spliced<|bB (h pos a s l H _ I i) λj c ⟨k,d,f,r,z,q⟩=>#[by rw[<-↑r];show z,?_];have g:d c.heap.objs.size=none:=f.hok.fresh<|Ã _;show#[.ref c.heap.objs.size,upd d c.heap.objs.size<|.tup k,f.laid (t':=c.toks) (λb u e=>Jn _ e) (Ã _) ?_,rfl,q _ g];show#[z,j,r,#[_,Å _ rfl,rfl,_,rfl]]
theorem cN(h:PA X es t):PE X (.List es pos) (gO t):=by
 intro a s l H Q I i;show wpAny_List_spliced<|bB (h pos a s l H _ I i) λj c ⟨k,d,f,r,z,q⟩=>#[by rw[<-↑r];show z,?_];have g:d c.heap.objs.size=none:=f.hok.fresh<|Ã _;show#[.ref c.heap.objs.size,upd d c.heap.objs.size<|.lst k,f.laid (t':=c.toks) (λb u e=>Jn _ e) (Ã _) ?_,rfl,q _ g];show#[z,j,0,r,Å _ rfl]
end
abbrev Sp:=ϊ V->Hp->VK->XK->Prop
abbrev Iw:=ϊ Env->Hp->ώ->XK->ϋ->ώ->Prop
variable{CX:Iw}
structure Env0(P:ϓ)(w:ϕ)(K:Ϗ)(mg:ϐ->ύ ϋ)(base:ϒ)(A:ϖ)(outer:ϊ Env)(s:ώ)(H:Hp):Prop where
 frames:A.frames=!outer
 mod:Mod K mg base
 bs:∀b o,base.get? b=!o->s.heap.get? b=!o/\H b=none
 bsz:base.objs.size<=s.heap.objs.size
 funs:s.heap.FunFrames base outer
 frf:∀b∈frs outer,H b=none
 hok:HOk P w H s.heap
 bare:AllBare s.gens
def CE(outer:ϊ Env)(P:ϓ)(w:ϕ)(H:Hp)(s:ώ)(Q:VK)(u:ϋ)(s':ώ):Prop:=
 ∃v H',s'.os=s.os/\AllBare s'.gens/\Un (frs outer) [] H H' s.heap s'.heap/\HOk P w H' s'.heap/\RelV v u/\Q v H'
def CR(CX:Iw)(outer:ϊ Env)(P:ϓ)(w:ϕ)(H:Hp)(s:ώ)(Q:VK)(E:XK)(r:Result)(s':ώ):Prop:=
 match r with
 |.ok (.ret u)=>CE outer P w H s Q u s'
 |.ok _=>False
 |.error e=>CX outer H s E e s'
structure FnOk(P:ϓ)(w:ϕ)(K:Ϗ)(mg:ϐ->ύ ϋ)(base:ϒ)(CX:Iw)(k:Nat)(f:ό)(fd:FuncData)(ps:ϊ ϐ)(sp:Sp):Prop where
 len:∀vs H Q E,sp vs H Q E->↑vs=↑ps
 run:∀(A:ϖ)(outer:ϊ Env)(s:ώ)(H:Hp)(args:Args)(us:ϊ ϋ)(vs:ϊ V)(Q:VK)(E:XK),Room k A->Env0 P w K mg base A outer s H->BindsTo s fd args (ps.zip us)->Vals vs us->sp vs H Q E->
  codeAny (model P w) A (.call (.ref f) args) (CR CX outer P w H s Q E) s
section
variable{X:Cx}
def Inv.env0(I:Inv X gE σ H s):Env0 X.prog X.w X.K X.mg X.base X.A X.stack s H:=
 #[I.ok.frames,I.ok.mod,I.bs,Ð I.ok.bsz I.sz,I.stack,I.stkFree,I.hok,I.bare]
theorem Inv.after{Q:VK}(I:Inv X gE σ H s)(h:CE X.stack X.prog X.w H s Q u s'):EP X gE σ Q u s':=by
 let#[v,f,j,a,k,c,r,q]:=h;let#[i,g,d,t,e]:=s';obtain rfl:e=s.os:=j;show#[v,f,I.call (h':=i) (g':=g) (d':=d) (t':=t) (ch:=[]) k c a<|λb z=>absurd z<|by simp,r,q]
end
def nH(sp:Sp)(dvs:ϊ V)(E:XK)(t:TA):TE:=λσ H Q=>t σ H λvs H1=>sp (vs++dvs) H1 Q E
def Binds(K:Ϗ)(fd:FuncData)(ps:ϊ ϐ)(ds:ϊ ϋ):Prop:=
 ∀(s:ώ)(us:ϊ ϋ),K.In s.heap->↑(us++ds)=↑ps->BindsTo s fd #[us,[]] (ps.zip<|us++ds)
theorem Binds.all{K:Ϗ}{a:ϊ ϐ}(h:∀us:ϊ ϋ,↑us=↑a->bindArgs fd #[us,[]]=pure (a.zip us)):Binds K fd a []:=λs us _ b=>by
 rw[í]at b⊢;show .of_eq (h us b)
def yD(CX:Iw)(X:Cx)(E:XK):Prop:=∀(gE:Ϸ)(σ:St)(H:Hp)(s:ώ)(e:ϋ)(s':ώ),Inv X gE σ H s->CX X.stack H s E e s'->X.xe e s'
section
variable{X:Cx}{CX:Iw}{k:Nat}{f:ό}{fd:FuncData}{ps:ϊ ϐ}{sp:Sp}{dvs:ϊ V}{ds:ϊ ϋ}{E:XK}{x m:ϐ}{p pos:Pos}{e o:Expr}{es:ϊ Expr}{t:TA}
theorem U3{s:ώ}{Q:VK}{a:ϊ ϋ}{c:ϊ V}(F:FnOk X.prog X.w X.K X.mg X.base CX k f fd ps sp)(l:Room k X.A)(g:Binds X.K fd ps ds)(i:Vals dvs ds)(m:yD CX X E)
  (I:Inv X gE σ H s) (r:Vals c a) (h:sp (c++dvs) H Q E):wpAny (model X.prog X.w) X.A (call (.ref f) a) (EP X gE σ Q) X.xe s:=by
 have d:Vals (c++dvs) (a++ds):=r.append i;have j:↑(a++ds)=↑ps:=by rw[<-↑d];show F.len _ _ _ _ h
 show wpAny_call<|Ť (F.run X.A X.stack s H #[a,[]] (a++ds) (c++dvs) Q E l I.env0 (g s a I.kIn j) d h) λr n b=>?_
 cases r with
 |error e=>show m gE σ H s e n I b
 |ok fl=>
  cases fl with
  |ret u=>show I.after b
  |next=>show False.elim b
  |brk=>show False.elim b
  |cont=>show False.elim b
theorem El(F:FnOk X.prog X.w X.K X.mg X.base CX k f fd ps sp)(u:Room k X.A)(m:Gl X x)(o:X.mg x=!(.ref f))(n:W.keepIn X.K (.ref f)=true)(i:Binds X.K fd ps ds)(j:Vals dvs ds)(v:yD CX X E)
  (g:PA X (e::es) t) (b:(x==("__debug__":ϐ))=false:=by decide) (l:starEach (e::es) X.env=(false,eval e X.env)::starEach es X.env:=by rfl) (c:(backTo pos<|starEach es X.env).any (·.1)=false:=by rfl):
  PE X (.Call (.Name x p) (e::es) [] pos) (nH sp dvs E t):=by
 intro a s w H Q I h;show ļ<|Ed I m o ?_ b;show PySem.W.callWith_K (h₀:=X.base) I.ok.mod.kin n (bB (g pos a s w H _ I h) λA z ⟨B,y,d,r,q⟩=>#[d.kIn,?_]) l c;show U3 F u i j v d r q
end
def PK(X:Cx)(kws:ϊ Keyword)(t:TA):Prop:=
 ∀(pos:Pos)(gE:Ϸ)(s:ώ)(σ:St)(H:Hp)(Q:ϊ V->Hp->Prop),Inv X gE σ H s->t σ H Q->wpAny (model X.prog X.w) X.A (evalAll ((backToKw pos<|keywordEach kws X.env).map (·.2))) (AP X gE σ Q) X.xe s
section
variable{X:Cx}{k:Nat}{f:ό}{x m:ϐ}{p kpos:Pos}{e o:Expr}{kws:ϊ Keyword}{te:TE}{t:TA}{nm:ύ ϐ}
theorem U4:PK X [] gf:=λ_ _ _ _ H Q I h=>wpAny_evalAll_nil #[[],H,I,.nil,h]
theorem P0(j:PE X e te)(k:PK X kws t):PK X (#[nm,e,kpos]::kws) (eN te t):=by
 intro b a s c H Q I h;change wpAny _ _ (evalAll ((do let v<-eval e X.env;standAt b;pure v)::(backToKw b<|keywordEach kws X.env).map (·.2))) _ _ s;show wpAny_evalAll_cons<|Qr<|bB (j a s c H _ I h) λu p ⟨x,d,g,n,l⟩=>Qr<|wpAny_standAt<|Xs ?_;show bB (k b a p c d _ g l) λw r ⟨q,f,i,o,m⟩=>⟨x::q,f,i,.cons n o,m⟩
end
structure FnScope(N P:ϊ ϐ)(sc:Scope):Prop where
 kind:sc.kind=.function
 co:sc.isCoroutine=false
 gen:sc.isGenerator=false
 nd:N.Nodup
 pre:N.take ↑P=P
 par:∀x∈P,sc.names.lookup x=!.local\/sc.names.lookup x=!.cell
 nofree:∀y∈sc.names,y.2≠.free
theorem qY{b:ϐ->ύ NameKind}{x:ϐ}:∀{a:ϊ<|ϐ×ϋ}{m:ϐ->ύ ϋ},(∀v,(x,v)∉a)->bindL b a m x=m x
 |[],_,_=>rfl
 |(n,v)::r,m,h=>by
  unfold bindL;rw[qY λw c=>h w<|Ç _ c];split
  .have:x≠n:=by rintro rfl;show h v Ì
   simp[this]
  .rfl
theorem qZ{b:ϐ->ύ NameKind}{x:ϐ}:∀{a:ϊ<|ϐ×ϋ}{m:ϐ->ύ ϋ},(∀v,(x,v)∉a)->bindC b a m x=m x
 |[],_,_=>rfl
 |(n,v)::r,m,h=>by
  unfold bindC;rw[qZ λw c=>h w<|Ç _ c];split
  .rfl
  .have:x≠n:=by rintro rfl;show h v Ì
   simp[this]
theorem rn{a:ϐ->ύ NameKind}{x:ϐ}{v:ϋ}:∀{P:ϊ ϐ}{vs:ϊ ϋ}{i:Nat}{m:ϐ->ύ ϋ},P.Nodup->P[i]?=!x->vs[i]?=!v->a x=!.local->
  bindL a (P.zip vs) m x=!v
 |[],_,_,_,_,h,_,_=>by simp at h
 |_::_,[],_,_,_,_,h,_=>by simp at h
 |p::P,w::vs,0,m,nd,h1,h2,hk=>by
  simp at h1 h2;subst h1;subst h2;change bindL a ((p,w)::P.zip vs) m p=_;unfold bindL;rw[qY λv b=>(î.mp nd).1 (List.of_mem_zip b).1,if_pos hk];simp
 |p::P,w::vs,i+1,m,nd,h1,h2,hk=>by
  change bindL a ((p,w)::P.zip vs) m x=_;unfold bindL;show rn (i:=i) (î.mp nd).2 (by simpa using h1) (by simpa using h2) hk
theorem rA{a:ϐ->ύ NameKind}{x:ϐ}{v:ϋ}:∀{P:ϊ ϐ}{vs:ϊ ϋ}{i:Nat}{m:ϐ->ύ ϋ},P.Nodup->P[i]?=!x->vs[i]?=!v->a x≠!.local->
  bindC a (P.zip vs) m x=!v
 |[],_,_,_,_,h,_,_=>by simp at h
 |_::_,[],_,_,_,_,h,_=>by simp at h
 |p::P,w::vs,0,m,nd,h1,h2,hk=>by
  simp at h1 h2;subst h1;subst h2;change bindC a ((p,w)::P.zip vs) m p=_;unfold bindC;rw[qZ λv b=>(î.mp nd).1 (List.of_mem_zip b).1,if_neg hk];simp
 |p::P,w::vs,i+1,m,nd,h1,h2,hk=>by
  change bindC a ((p,w)::P.zip vs) m x=_;unfold bindC;show rA (i:=i) (î.mp nd).2 (by simpa using h1) (by simpa using h2) hk
noncomputable def start(N:ϊ ϐ)(vs:ϊ V):St:=vs.map some++List.replicate (↑N-↑vs) none
noncomputable def yE(CX:Iw)(P:ϓ)(w:ϕ)(K:Ϗ)(mg:ϐ->ύ ϋ)(base:ϒ)(N:ϊ ϐ)(qual:ϐ)(scope:Scope)(f:ό)(cd:ϋ)(A:ϖ)(outer:ϊ Env)(s:ώ)(H:Hp)(E:XK):Cx where
 prog:=P
 w:=w
 K:=K
 mg:=mg
 base:=base
 A:=A.deeper<|envOfC qual scope s.heap.objs.size f cd
 N:=N
 s₀:=s
 H₀:=H
 env:=envOfC qual scope s.heap.objs.size f cd
 outer:=outer
 stack:=envOfC qual scope s.heap.objs.size f cd::outer
 ex:=[]
 calm:=true
 fn:=λ_=>true
 pn:=[]
 xe:=λe s'=>wpAny (model P w) (A.deeper<|envOfC qual scope s.heap.objs.size f cd) (leaving (envOfC qual scope s.heap.objs.size f cd) e) (λ_ s''=>CX outer H s E e s'') (λe' s''=>CX outer H s E e' s'') s'
theorem vU(h:sc.names.lookup x=!.cell):∃c,(cellsFrom n sc.names []).lookup x=!c:=by
 have q:=PySem.W.cellsFrom_some sc.names n []<|.inl h;show Option.isSome_iff_exists.mp q
theorem Gp{P:ϓ}{K:Ϗ}{g:ϒ}{N m:ϊ ϐ}{f:ό}{s:ώ}{E:XK}{F:ϊ ϋ}{o:ϊ V}
  (S:FnScope N m scope) (L:A.handled=none) (j:Env0 P w K mg g A outer s H) (R:↑o=↑m) (r:Vals o F)
  (x:InCallC s s.heap.objs.size (bindL (envOfC qual scope s.heap.objs.size f cd).kindOf (m.zip F) λ_=>none) (cellsFrom (s.heap.objs.size+1) scope.names []) (bindC (envOfC qual scope s.heap.objs.size f cd).kindOf (m.zip F) λ_=>none) s1):
  Inv (yE CX P w K mg g N qual scope f cd A outer s H E) [] (start N o) H s1:=by
 have M:↑m<=↑N:=by have:=Ö List.length S.pre;rw[Ñ]at this;rfl'
 let#[C,T,rfl,G]:=x.done;have l:∀b:ό,b∉(yE CX P w K mg g N qual scope f cd A outer s H E).ex:=λb z=>absurd (show b∈([]:ϊ ό)from z)<|by simp
 show⟨⟨j.mod,S.kind,rfl,rfl,Ã _,λy z c C d=>?_,λy hy=>?_,λy c _ h=>?_,λ_=>L,Around.frames_deeper j.frames,.inr ⟨rfl,rfl⟩,λb z=>absurd z<|l b,j.bs,j.bsz,λb _ _=>l b,λb z=>absurd z<|l b,j.funs,j.frf⟩,
  rfl,j.bare,Un.kept G,⟨_,x.toInCall.ns,λi y v C d Q=>?_⟩,λy c h=>⟨_,x.cell y c h⟩,j.hok.fresh<|Ã _,λy c h=>?_,λp t=>absurd (show p∈([]:Ϸ)from t)<|by simp,j.hok.kept G,?_⟩
 .show name_of_addr x.apart (Ŭ C)<|Ŭ d
 .have hy:scope.names.lookup y=!.cell\/scope.names.lookup y=!.free:=hy;rcases hy with hy|hy
  .show vU hy
  .show absurd rfl<|S.nofree _<|Ŭ hy
 .show ì<|x.above y c<|Ŭ h
 .have D:i<↑o:=by
   unfold start at d;by_cases D:i<↑o
   .show D
   .rw [ø<|by simpa using D]at d;rw[List.getElem?_replicate]at d;split at d<;>cases d
  have J:o[i]?=!v:=by
   unfold start at d;rw[Ĥ<|by simpa using D,À]at d
   cases e:o[i]?with
   |none=>rw[e]at d;cases d
   |some a=>rw[e]at d;cases d;rfl
  let#[u,I,O]:=r.get J;have t:m[i]?=!y:=by
   rw[<-S.pre,List.getElem?_take_of_lt ()];show C
  have B:m.Nodup:=by rw[<-S.pre];show S.nd.sublist<|Đ _ _
  show#[u,O,?_];rcases S.par y (Wp t)with k|k
  .show .inl #[k,rn B t I k]
  .obtain ⟨c,e⟩:=vU (n:=s.heap.objs.size+1) k;show .inr #[.inl k,c,e,?_];have q:=x.cell y c e;rw[rA B t I<|by change scope.names.lookup y≠_;rw[k];decide]at q;show q
 .show j.hok.fresh<|ì<|x.above y c<|Ŭ h
 .unfold start;change _=↑N;rw[Ë,Qb,ò];rfl'
theorem RV{P:ϓ}{K:Ϗ}{c:ϒ}{k:Nat}{f:ό}{g:ϐ}{U kV l X a T oc:ϋ}{od:ύ ό}
  {N B:ϊ ϐ} {M:Sp} (lk:K.lookup f=!#[oc,od,.func<|W.fnOf g qual params body scope U kV l X an a T,osl]) (C:W.codeIn K a qual=true) (S:FnScope N B scope)
  (z:∀vs H Q E,M vs H Q E->↑vs=↑B)
  (h:∀(A:ϖ)(outer:ϊ Env)(s:ώ)(H:Hp)(vs:ϊ V)(Q:VK)(E:XK),Room k (A.deeper<|envOfC qual scope s.heap.objs.size f a)->M vs H Q E->
   ∃t,PSs (yE CX P w K mg c N qual scope f a A outer s H E) body t/\t {nx:=λ_ H'=>Q .non H',rt:=Q} (start N vs) H):
  FnOk P w K mg c CX (k+1) f (W.fnOf g qual params body scope U kV l X an a T) B M:=by
 show#[z,λA outer s H R us vs Q E D m hb r p=>?_];have hl:=z _ _ _ _ p;have O:K.In s.heap:=m.mod.kin.keeps λb o e=>(m.bs b o e).1
 have F:s.heap.NoLimit:=m.mod.nolimit.keeps λb o e=>(m.bs b o e).1
 have i:∀y∈B.zip us,scope.names.lookup y.1=!.local\/(scope.names.lookup y.1=!.cell/\((cellsFrom (s.heap.objs.size+1) scope.names []).lookup y.1).isSome=true):=λ⟨n,v⟩ hy=>by
  rcases S.par n (List.of_mem_zip hy).1with q|q
  .show .inl q
  .show .inr #[q,PySem.W.cellsFrom_some _ _ _<|.inl q]
 show codeAny_call_function D.depth (O _ _ lk) rfl S.co S.gen rfl (PySem.W.codeRec_of O C)<|hb _ _ _ _ ?_;show wpAny_newFunctionEnv_cells S.kind i λZ he Y x=>?_
 subst he;show#[F.keeps x.toInCall.keep,codeAny_func ?_];let#[t,ht,hq]:=h A outer s H vs Q E (D.deeper _) p;have I:Inv (yE CX P w K mg c N qual scope f a A outer s H E) [] (start N vs) H Y:=Gp S D.hd m hl r x;show Ċ (ht [] Y (start N vs) H _ I hq) (λfl L j=>?_) λe L j=>j
 have fin:∀{d:St}{H':Hp}{v:V}{u:ϋ},Inv (yE CX P w K mg c N qual scope f a A outer s H E) [] d H' L->RelV v u->Q v H'->CE outer P w H s Q u L:=
  λ{d H' v u} J G q=>#[v,H',J.os,J.bare,J.base,J.hok,G,q]
 cases fl with
 |ret u=>
  let#[v,d,H',J,G,q]:=j;show fin J G q
 |next=>
  let#[d,H',J,q]:=j;show fin (v:=V.non) (u:=Value.none) J rfl q
 |brk=>
  let#[_,_,_,q]:=j;show False.elim q
 |cont=>
  let#[_,_,_,q]:=j;show False.elim q
section
variable{X:Cx}{x:ϐ}{p pos:Pos}{e:Expr}{es:ϊ Expr}{t:TA}{id:String}{r:ϊ V->Hp->VK->Prop}
def gY(r:ϊ V->Hp->VK->Prop)(t:TA):TE:=λσ H Q=>t σ H λvs H1=>r vs H1 Q
theorem Iz(j:bY X (.builtin id) r)(l:Gl X x)(m:X.mg x=none)(o:bootBuiltins x=!(.builtin id))(i:PA X (e::es) t)(n:x≠"__name__":=by decide)(b:(x==("__debug__":ϐ))=false:=by decide)
  (k:starEach (e::es) X.env=(false,eval e X.env)::starEach es X.env:=by rfl) (c:(backTo pos<|starEach es X.env).any (·.1)=false:=by rfl):PE X (.Call (.Name x p) (e::es) [] pos) (gY r t):=by
 intro a s d H Q I h;show ļ<|fG I l m o ?_ n b;show Ů (bB (i pos a s d H _ I h) λw v ⟨y,f,g,u,q⟩=>j a v d f y w Q g u q) k c
theorem cA(j:bY X (.type T) r)(l:Gl X x)(m:X.mg x=none)(o:bootBuiltins x=!(.type T))(i:PA X (e::es) t)(n:x≠"__name__":=by decide)(b:(x==("__debug__":ϐ))=false:=by decide)
  (k:starEach (e::es) X.env=(false,eval e X.env)::starEach es X.env:=by rfl) (c:(backTo pos<|starEach es X.env).any (·.1)=false:=by rfl):PE X (.Call (.Name x p) (e::es) [] pos) (gY r t):=by
 intro a s d H Q I h;show ļ<|fG I l m o ?_ n b;show Č (bB (i pos a s d H _ I h) λw v ⟨y,f,g,u,q⟩=>j a v d f y w Q g u q) k c
end
end L2
namespace HT
open PySem PyProof.Rows
noncomputable def lexLt:ϊ Int->ϊ Int->ϑ
 |[],[]=>false
 |[],_::_=>true
 |_::_,[]=>false
 |x::xs,y::ys=>if x=y then lexLt xs ys else decide<|x<y
def iK(x y:Int)(a b:ϊ Int):lexLt (x::a) (y::b)=if x=y then lexLt a b else decide (x<y):=rfl
def qI:lexLt [] []=false:=rfl
def pq(y:Int)(a:ϊ Int):lexLt [] (y::a)=true:=rfl
def pA(x:Int)(a:ϊ Int):lexLt (x::a) []=false:=rfl
def IK(A:ϖ)(s:ώ)(a:Int)(t:Tok)(c:Int)(u:Tok):∃e,SeqAt.EqAt A s (.int a t) (.int c u) e/\(e=true↔a=c):=
 #[(a==c),SeqAt.EqAt.int_int a t c u,by simp]
def IV(A:ϖ)(s:ώ)(a:Int)(t:Tok)(c:Int)(u:Tok)(b:ϓ)(w:ϕ)(E:϶)(Q:϶)(h:Q (.bool<|decide<|a<c) s):
  wpAny (model b w) A (richCompare .Lt (.int a t)<|.int c u) Q E s:=
 (PyProof.Rows.lt_int h:wpAny (model b w) A (compareOp .Lt (.int a t)<|.int c u) Q E s)
section
open PySem.SeqAt
open PySem.AutoSeq1 (wpAny_loadPart')
open PySem.MeetsSeq PySem.MeetsSeq2 PySem.MeetsSeq3
def qJ(l b:ό)(i f:ϔ ϋ)(n X:Nat)(S K:ύ ό)(Y N:ϔ<|ύ ϋ)(F E:ϊ Int)(O:IntsAre i.toList F)(P:IntsAre f.toList E):
  Meets (Builtin.«tuple.__lt__» #[[.ref l,.ref b],[]])
   (λ_ R s=>s.heap.get? l=!{cls:=.type "tuple",dict:=S,data:=.seq i n,slots:=Y}/\s.heap.get? b=!{cls:=.type "tuple",dict:=K,data:=.seq f X,slots:=N}/\
    R (.ok<|.ret<|.bool<|lexLt F E) s):=
 .of_wp λz w A R s h=>by
  let#[D,g,d,H,G]:=s;let#[W,T,h]:=h;have f2:=AutoSeq1.sub_tuple_tuple;have z1:i.size=↑F:=by rw[<-↑O];simp
  have z2:f.size=↑E:=by rw[<-↑P];simp
  wp_walk using wpAny_loadPart' W,wpAny_loadPart' T,wpAny_forIn_list _ (λrest b M=>b.1=none/\M=#[D,g,d,H,G]/\∃(I J:ϊ ϋ)(m k:ϊ Int),rest=I.zip J/\
   IntsAre I m/\IntsAre J k/\↑m+f.size=↑k+i.size/\R (.ok<|.ret<|.bool<|lexLt m k) #[D,g,d,H,G]) _
  case turn=>
   rintro⟨y,x⟩ rest b M ⟨B,rfl,I,J,m,k,p,C,o,j,r⟩
   cases C with
   |nil=>rw[List.zip_nil_left]at p;cases p
   |cons a t hvi'=>
    cases o with
    |nil=>rw[List.zip_nil_right]at p;cases p
    |cons c u hwi'=>
     rw[ξ]at p;injection p with hyx hrest
     injection hyx with hy hx
     subst hy hx;rw[iK]at r;simp only[ê]at j;let#[e,U,v]:=IK A.in1 #[D,g,d,H,G] a t c u;show Qr (U z w _ _ ?_)
     cases e with
     |true=>
      rw[if_pos<|v.mp rfl]at r
      wp_walk
      show#[rfl,rfl,_,_,_,_,hrest,hvi',hwi',(),r]
     |false=>
      rw[if_neg<|λq=>absurd (v.mpr q) Í]at r;have L:=IV A.in1 #[D,g,d,H,G] a t c u z w
      wp_walk using L
      show#[_,rfl,by simpa using r]
  case fin=>
   rintro⟨Z,b2⟩ M ⟨B,rfl,I,J,m,k,p,C,o,j,r⟩;simp only at B;subst B;have Q:lexLt m k=decide (i.size<f.size):=by
    cases C with
    |nil=>
     cases o with
     |nil=>
      simp only[ņ]at j;rw[qI];show(Ø ()).symm
     |cons c u hw=>
      simp only[ņ,ê]at j;rw[pq];show(Ï ()).symm
    |cons a t Q=>
     cases o with
     |nil=>
      simp only[ņ,ê]at j;rw[pA];show(Ø ()).symm
     |cons c u hw=>
      rw[ξ]at p
      cases p
   rw[Q]at r
   wp_walk
   show#[_,rfl,by simpa[Builtin.Tuple.tupleCompareSizes]using r]
  case h=>
   show#[rfl,rfl,i.toList,f.toList,F,E,rfl,O,P,(),h]
end
section
def yF(z:IsTup s.heap l items)(u:IsTup s.heap b a)(v:IntsAre items.toList f)(y:IntsAre a.toList ms)
  (B:A.units<cLine) (h:Q (.bool<|lexLt f ms) s):wpAny (model prog w) A (compareOp .Lt (.ref l)<|.ref b) Q E s:=by
 let#[#[r,t,m,D],q,o,n,p]:=id z;let#[#[k,i,g,j],e,c,C,d]:=id u;simp only at o p c d;subst o p c d;show richCompare_meets_room (op:=.Lt) #[_,q,rfl] #[_,e,rfl] PySem.F.slot_tuple_lt PySem.F.entry_tuple_lt (PySem.F.args_tuple_lt_2 _ _) (qJ l b items a n C t i D j f ms v y)
  #[q,e,show Value.bool (lexLt f ms)≠Value.notImplemented/\Q (.bool<|lexLt f ms) s from#[(λx=>nomatch x),h]] B
noncomputable def dY(n d:Nat):ύ Int->Nat
 |none=>d
 |some v=>if v<0 then(v+(n:Int)).toNat else min v.toNat n
def U5(n d:Nat)(b:d<=n)(o:ύ Int):dY n d o<=n:=by
 cases o with
 |none=>show b
 |some v=>
  change(if v<0 then(v+(n:Int)).toNat else min v.toNat n)<=n;by_cases a:v<0
  .rw [if_pos a];rfl'
  .rw [if_neg a];show Nat.min_le_right _ _
def Em(v:Int)(n d:Nat):(if v<0 then max (v+(n:Int)) 0 else min v (n:Int))=((dY n d !v:Nat):Int):=by
 change(if v<0 then max (v+(n:Int)) 0 else min v (n:Int))=(((if v<0 then(v+(n:Int)).toNat else min v.toNat n):Nat):Int);by_cases a:v<0
 .simp only[if_pos a];rfl'
 .simp only[if_neg a];rfl'
def yG(lo a:ύ Int)(n:Nat):Builtin.Slice.sliceAdjust lo a 1 (n:Int)=(((dY n 0 lo:Nat):Int),((dY n n a:Nat):Int)):=by
 have b:¬((1:Int)<0):=()
 unfold Builtin.Slice.sliceAdjust;simp only[b,Ĉ];show Prod.ext ?_ ?_
 .cases lo with
  |none=>rfl
  |some v=>show Em v n 0
 .cases a with
  |none=>rfl
  |some v=>show Em v n n
def yH(i j:Nat):Builtin.Slice.slicePlaces (i:Int) (j:Int) 1=j-i:=by
 unfold Builtin.Slice.slicePlaces;have a:(1:Int)>0:=()
 simp only[a,ĳ,Int.ediv_one];split<;>rfl'
def pB{Q:ύ Int->ώ->Prop}(p:IsPart v o)(h:Q o s):wpAny (model prog w) A (Builtin.Slice.slicePartIndex v) Q E s:=by
 cases p with
 |none=>show slicePart_none h
 |int i t=>show slicePart_int h
def gZ{lo:ύ Int}{n:Nat}{Q:Int×Int×Nat->ώ->Prop}(d:s.heap.IsSliceOf sl vl vu .none)(e:IsPart vl lo)(f:IsPart vu hi)
  (h:Q (((dY n 0 lo:Nat):Int),1,dY n n hi-dY n 0 lo) s):wpAny (model prog w) A (Builtin.Slice.sliceApplied (.ref sl)<|pure (n:Int)) Q E s:=by
 let#[g,b,c,a]:=id d;unfold Builtin.Slice.sliceApplied Builtin.Slice.sliceFields;show Qr<|Qr<|č b a (x:=vl) rfl<|Qr<|č b a (x:=vu) rfl<|Qr<|č b a (x:=.none) rfl<|Xs ?_;show Qr<|slicePart_none ?_;change wpAny _ _ (if((1:Int)==0)=true then _ else _) _ _ s;rw[if_neg<|by decide];show Qr<|pB e<|Qr<|pB f<|Qr<|Xs ?_;change wpAny _ _ (match Builtin.Slice.sliceAdjust lo hi 1 (n:Int)with|(lo,hi)=>pure (lo,(1:Int),Builtin.Slice.slicePlaces lo hi 1)) _ _ s;rw[yG lo hi n];change wpAny _ _ (pure (((dY n 0 lo:Nat):Int),(1:Int),Builtin.Slice.slicePlaces ((dY n 0 lo:Nat):Int) ((dY n n hi:Nat):Int) 1)) _ _ s;rw[yH];show Xs h
def IW(a:ϔ ϋ)(i k:Nat):((List.range k).filterMap λ(m:Nat)=>a[((i:Int)+(m:Int)*1).toNat]?).toArray=((a.toList.drop i).take k).toArray:=by
 have e:(λ(m:Nat)=>a[((i:Int)+(m:Int)*1).toNat]?)=λm=>a[i+m]? :=by
  funext m;have:((i:Int)+(m:Int)*1).toNat=i+m:=()
  rw[this]
 rw[e];have:=pick_run a i k;rw[List.filterMap_map]at this;have b:((λx=>a[x]?)∘λx=>i+x)=λm=>a[i+m]? :=rfl
 rw[b]at this;rw[this]
def lF{t:ό}{lo:ύ Int}(b:IsTup s.heap t items)(g:s.heap.IsSliceOf sl vl vu .none)(n:IsPart vl lo)(o:IsPart vu hi)
  (k:¬(dY items.size 0 lo=0/\dY items.size items.size hi=items.size))
  (h:Q (.ref s.heap.objs.size) {s with heap:=s.heap.push {cls:=.type "tuple",data:=.seq ((items.toList.drop<|dY items.size 0 lo).take<|dY items.size items.size hi-dY items.size 0 lo).toArray}})
  (j:items.size<=sizeLine):wpAny (model prog w) A (getItem (.ref t)<|.ref sl) Q E s:=by
 have a:sizeOk (.seq ((items.toList.drop<|dY items.size 0 lo).take<|dY items.size items.size hi-dY items.size 0 lo).toArray):=by
  change((items.toList.drop<|dY items.size 0 lo).take<|dY items.size items.size hi-dY items.size 0 lo).toArray.size<=sizeLine;rw[Õ,Ñ,ú,ã];rfl'
 have p:dY items.size items.size hi<=items.size:=U5 _ _ (Ã _) hi;let#[l,f,d,i]:=id g;have c:s.TypeIs (.ref sl) "slice":=#[l,f,d];unfold getItem;try with_reducible show ð ?_
 first|show Qr (Xs ?_)|skip
 show Qr<|wpAny_sequenceKey b.typeIs (by decide) ?_;show Qr (wpAny_callSpecial?_slot (name:=Str.ofString "__getitem__") b.typeIs ĵ
  (æ ĵ b.typeIs entry_tuple_getitem ?_<|args_tuple_getitem _ _))
 change wpAny _ _ (Builtin.Tuple.tupleItemsOf (.ref t)>>=_) _ _ s;show Qr<|tupleItemsOf_ b ?_;show Qr<|ŵ c ?_;rw[if_pos<|by decide];show Qr<|gZ g n o ?_;have e:¬((((dY items.size 0 lo:Nat):Int)==0&&(1:Int)==1&&(dY items.size items.size hi-dY items.size 0 lo)==items.size)=true):=by
  intro q;rw[ā,ā]at q;have r:((dY items.size 0 lo:Nat):Int)=0:=ρ q.1.1;have u:dY items.size items.size hi-dY items.size 0 lo=items.size:=ρ q.2;show k #[(),()]
 change wpAny _ _ (if(((dY items.size 0 lo:Nat):Int)==0&&(1:Int)==1&&(dY items.size items.size hi-dY items.size 0 lo)==items.size)=true then _ else _) _ _ s;rw[if_neg e,IW]
 first
  |show Qr (m:=Builtin.Tuple.tupleExact _)<|ç (Xs #[_,rfl,Xs h]) a
  |show Qr (m:=Builtin.Tuple.tupleExact _)<|ç (Qr<|Xs<|Xs #[_,rfl,Xs h]) a
  |show Qr<|Qr (m:=Builtin.Tuple.tupleExact _)<|ç (Xs<|Xs #[_,rfl,Xs h]) a
  |show Qr<|Qr (m:=Builtin.Tuple.tupleExact _)<|ç (Xs #[_,rfl,Xs h]) a
end
end HT
namespace L2
open PySem PySem.Spec PyProof.Rows
variable{H:Hp}{σ:St}{i:Int}{x y:V}{p:ό}{A:ϖ}{T:String}{u v:ϋ}{j n t':Nat}{its:ϊ ϋ}{gE:Ϸ}{f:ϔ ϋ->ϔ ϋ}{r:V->ύ Int->ύ Int->Hp->VK->Prop}
abbrev TO:=St->Hp->(ύ Int->Hp->Prop)->Prop
def PO(X:Cx)(e:ύ Expr)(t:TO):Prop:=
 ∀(gE:Ϸ)(s:ώ)(σ:St)(H:Hp)(Q:ύ Int->Hp->Prop),Inv X gE σ H s->t σ H Q->
  wpAny (model X.prog X.w) X.A (evalPart e X.env) (λu s'=>∃o H',Inv X gE σ H' s'/\IsPart u o/\Q o H') X.xe s
def cO:TO:=λ_ H Q=>Q none H
def dN(t:TE):TO:=λσ H Q=>t σ H λx H1=>∃i,x=.int i/\Q (!i) H1
theorem intsAre_of:∀{us:ϊ ϋ},Vals (a.map V.int) us->IntsAre us a:=by
 induction a with
 |nil=>intro us r;rw[ă]at r;cases r;show .nil
 |cons n a ih=>
  intro us r;rw[È]at r
  cases r with
  |cons r1 r2=>
   let#[t,e]:=r1;subst e;show .cons n t<|ih r2
section
variable{X:Cx}{e:Expr}{te:TE}{lo hi:ύ Expr}{tl th:TO}{pos p2:Pos}
theorem cZ:PO X none cO:=by
 intro a s b H Q I h;rw[evalPart_none];show Xs #[none,H,I,.none,h]
theorem cD(h:PE X e te):PO X (!e) (dN te):=by
 intro a s j H Q I d;rw[evalPart_some];show bB (h a s j H _ I d) λu k ⟨x,b,c,g,f⟩=>?_
 let#[i,rfl,q]:=f;let#[t,rfl]:=g;show#[!i,b,c,.int i t,q]
def U6(X:Cx)(r:V->ύ Int->ύ Int->Hp->VK->Prop):Prop:=
 ∀(gE:Ϸ)(s:ώ)(σ:St)(H:Hp)(x:V)(v vl vu:ϋ)(lo hi:ύ Int)(sl:ό)(Q:VK),Inv X gE σ H s->RelV x v->s.heap.IsSliceOf sl vl vu .none->IsPart vl lo->IsPart vu hi->r x lo hi H Q->
  ∃T id,typeLookup (.type T) "__getitem__"=pure !(.builtin id)/\s.TypeIs v T/\wpAny (model X.prog X.w) X.A (getItem v<|.ref sl) (EP X gE σ Q) X.xe s
def vV(r:V->ύ Int->ύ Int->Hp->VK->Prop)(te:TE)(tl th:TO):TE:=λσ H Q=>te σ H λx H1=>tl σ H1 λl H2=>th σ H2 λu H3=>r x l u H3 Q
theorem bZ(A:U6 X r)(w:PE X e te)(z:PO X lo tl)(C:PO X hi th):PE X (.Subscript e (.Slice lo hi none p2) pos) (vV r te tl th):=by
 intro a s d H Q I h;show Subscript_<|bB (w a s d H _ I h) λv L ⟨x,j,m,K,F⟩=>?_;show wpAny_Slice<|bB (z a L d j _ m F) λf M ⟨l,k,n,D,G⟩=>bB (C a M d k _ n G) λg c ⟨u,i,o,E,J⟩=>?_;rw[evalPart_none];show Xs ?_;have p:Inv X a d i {c with heap:=c.heap.push {cls:=.type "slice",data:=.fields<|[f,g,.none].toArray}}:=o.kept (t':=c.toks) λb ob q=>Jn _ q
 let#[T,N,t,B,y]:=A a {c with heap:=c.heap.push {cls:=.type "slice",data:=.fields<|[f,g,.none].toArray}} d i x v f g l u c.heap.objs.size Q p K (Heap.IsSliceOf.new ..) D E J;change wpAny (model X.prog X.w) X.A (subscriptTail e (.Slice lo hi none p2) v<|.ref c.heap.objs.size) (EP X a d Q) X.xe {c with heap:=c.heap.push {cls:=.type "slice",data:=.fields<|[f,g,.none].toArray}};show tail_any (ops:=[.ref c.heap.objs.size,v]) B t y<|by with_unfolding_all rfl
def gP(xs:ϊ V)(lo hi:ύ Int):ϊ V:=(xs.drop<|HT.dY ↑xs 0 lo).take<|HT.dY ↑xs ↑xs hi-HT.dY ↑xs 0 lo
theorem nJ(a:ϊ V)(lo b:ύ Int):↑(gP a lo b)<=↑a:=by
 unfold gP;rw[Ñ,ú];rfl'
def a1n(K:Ϗ):V->ύ Int->ύ Int->Hp->VK->Prop:=λx lo hi H Q=>∃a xs,x=.ref a/\SqT K H a xs/\
 ¬(HT.dY ↑xs 0 lo=0/\HT.dY ↑xs ↑xs hi=↑xs)/\∀p,H p=none->Q (.ref p) (upd H p<|.tup<|gP xs lo hi)
theorem U7:U6 X (a1n X.K):=by
 intro j s z H x v w y lo e u Q I t k n p h;let#[a,d,rfl,m,l,q]:=h
 cases t;let#[f,r,g,i]:=I.tuple m;have c:f.toArray.size=↑d:=by rw[Õ];show r.length.symm
 show#["tuple",_,PyProof.Rows.slot_tuple_getitem.lookup,g.typeIs,?_];show HT.lF g k n p (by rw[c];show l) ?_ (by rw[c];show i);rw[c];show#[.ref s.heap.objs.size,_,I.laid (t':=s.toks) (o:=.tup<|gP d lo e) (λb ob q=>Jn _ q) (Ã _) ?_,rfl,q _<|I.hok.fresh<|Ã _];show#[Nat.le_trans (nJ d lo e) i,_,(r.drop<|HT.dY ↑d 0 lo).take<|HT.dY ↑d ↑d e-HT.dY ↑d 0 lo,IsTup.new _ _]
end
noncomputable def Oc(n:Nat)(i:Int):ύ Nat:=if 0<=i then(if i<n then !i.toNat else none)else if-(n:Int)<=i then !(i+n).toNat else none
def vW{α:Type}(xs:ϊ α)(i:Int):ύ α:=(Oc ↑xs i).bind λj=>xs[j]?
theorem En(h:Oc n i=!j):seqIndex? i n=!j/\j<n/\-(n:Int)<=i/\i<n:=by
 unfold Oc at h;by_cases b:0<=i
 .rw [if_pos b]at h;by_cases a:i<n
  .rw [if_pos a]at h;have e:i.toNat=j:=Ü h;show#[by rw[seqIndex_of b a,e],(),(),a]
  .rw [if_neg a]at h;cases h
 .rw [if_neg b]at h;by_cases a:-(n:Int)<=i
  .rw [if_pos a]at h;have e:(i+n).toNat=j:=Ü h;show#[by rw[seqIndex_neg () a,e],(),a,()]
  .rw [if_neg a]at h;cases h
theorem tR{b:Type}{a:ϊ b}{v:b}(h:vW a i=!v):∃j,seqIndex? i ↑a=!j/\a[j]?=!v/\j<↑a/\-(↑a:Int)<=i/\i<↑a:=by
 unfold vW at h
 cases e:Oc ↑a i with
 |none=>rw[e]at h;cases h
 |some j=>
  rw[e]at h;let#[c,d,f,g]:=En e;show#[j,c,h,d,f,g]
theorem aH{a:Type}{xs:ϊ a}{v:a}(h:xs[j]?=!v):vW xs (j:Int)=!v:=by
 have b:j<↑xs:=(Â.mp h).1;have e:Oc ↑xs (j:Int)=!j:=by
  unfold Oc;rw[if_pos (),if_pos ()];simp
 unfold vW;rw[e];show h
theorem J0{b:Type}(a:ϊ b)(v:b):vW (a++[v]) (-1)=!v:=by
 have c:↑(a++[v])=↑a+1:=by simp
 have e:Oc ↑(a++[v]) (-1)=some ↑a:=by
  unfold Oc;rw[c,if_neg<|by decide,if_pos ()];congr 1;rfl'
 unfold vW;rw[e];change(a++[v])[↑a]?=!v;simp
def Pa(b:Expr):Prop:=∀o i,subscripted b false o i=operate [o,i] (getItem o i)
def XR(X:Cx)(r:R2):Prop:=
 ∀(value slice:Expr)(gE:Ϸ)(s:ώ)(σ:St)(H:Hp)(x y:V)(v u:ϋ)(Q:VK),Inv X gE σ H s->RelV x v->RelV y u->r x y H Q->
  subscripted slice false v u=operate [v,u] (getItem v u)->wpAny (model X.prog X.w) X.A (subscriptTail value slice v u) (EP X gE σ Q) X.xe s
def U8(X:Cx)(id:String)(r:V->ϊ V->Hp->VK->Prop):Prop:=
 ∀(gE:Ϸ)(s:ώ)(σ:St)(H:Hp)(x:V)(xs:ϊ V)(v:ϋ)(us:ϊ ϋ)(Q:VK),Inv X gE σ H s->RelV x v->Vals xs us->r x xs H Q->
  wpAny (model X.prog X.w) X.A (call (.builtin id) (v::us)) (EP X gE σ Q) X.xe s
section
variable{X:Cx}{a b:Expr}
theorem nM{r:R2}(i:XR X r)(f:PE X a ta)(g:PE X b tb)(j:Pa b):PE X (.Subscript a b pos) (aO r ta tb):=by
 intro c s n H Q I h;show Subscript_<|TV f g I h λv u m x y d e k l q=>i a b c m n d x y v u Q e k l q<|j _ _
def fu(K:Ϗ):R2:=λx y H Q=>∃p xs i v,x=.ref p/\y=.int i/\SqL K H p xs/\vW xs i=!v/\Q v H
def jV(K:Ϗ):R2:=λx y H Q=>∃p xs i v,x=.ref p/\y=.int i/\SqT K H p xs/\vW xs i=!v/\Q v H
def vX:R2:=λx y H Q=>∃z i c,x=.str z/\y=.int i/\↑z<=sizeLine/\vW z.cps.toList i=!c/\Q (.str #[([c].toArray)]) H
theorem Pb:XR X (fu X.K):=by
 intro k g a s o H x y v u Q I G J h n;let#[p,O,i,z,rfl,rfl,F,D,q]:=h
 cases G;let#[t,rfl]:=J;let#[d,r,e,N]:=I.list F;let#[j,b,A,L,B,C]:=tR D;let#[w,l,f]:=r.get A;have E:=↑r;have M:=mC;have fin:EP X a o Q w s:=#[z,H,I,f,q];by_cases m:0<=i
 .have c:i.toNat=j:=by
   rw[seqIndex_of m C]at b;show Ü b
  show item_listR e.isList m () (by rw[c];simpa using l) fin n
 .have c:(i+(d.toArray.size:Int)).toNat=j:=by
   rw[seqIndex_neg () B]at b;rw[Õ,<-E];show Ü b
  show subscriptTail_builtinR (x:=w) e.isList.typeIs slot_list_getitem.lookup
   (wpAny_getItem_list_neg (Q:=λr K=>r=w/\EP X a o Q r K) e.isList () (by rw[Õ]<;>rfl') () (by rw[c];simpa using l) #[rfl,fin]) n
theorem U9:XR X (jV X.K):=by
 intro d c a s f H x y v u Q I C D h A;let#[p,M,i,z,rfl,rfl,o,m,q]:=h
 cases C;let#[t,rfl]:=D;let#[B,r,e,L]:=I.tuple o;let#[j,k,l,F,G,J]:=tR m;let#[w,g,b]:=r.get l;have n:=↑r;have K:=mC;have fin:EP X a f Q w s:=#[z,H,I,b,q];show subscriptTail_builtinR (x:=w) e.typeIs slot_tuple_getitem.lookup
  (getItem_tuple (j:=j) (Q:=λr E=>r=w/\EP X a f Q r E) e () () (by rw[Õ,<-n];show k) (by simpa using g) #[rfl,fin]) A
theorem mD:XR X vX:=by
 intro b a e s E H x y v u Q I r w h p;let#[z,i,c,rfl,rfl,C,n,q]:=h;let#[t,rfl]:=r;let#[D,rfl]:=w;let#[j,d,k,A,l,m]:=tR n;have o:↑z.cps.toList=↑z:=by simp[Str.length]
 rw[o]at d l m;have B:=mC;show tail_any (typeIs_str s z t) slot_str_getitem.lookup (getItem_str (c:=c) (by
  have f:decide (i< -(2^63:Int))=false:=Ø ();have g:decide (i>=2^63)=false:=Ø ();rw[f,g,Bool.or_false]) (by rw[d];simpa using k) #[.str #[([c].toArray)],H,I.tok _,#[_,rfl],q]) p
theorem yI(a:ϊ ϋ)(n j:Nat)(u:ϋ):Obj.mapSeq (·.setIfInBounds j u) {cls:=.type "list",data:=.seq a.toArray n}={cls:=.type "list",data:=.seq (a.set j u).toArray n}:=by
 simp[Obj.mapSeq]
theorem Inv.lst{s:ώ}{a:ϊ V}(I:Inv X gE σ H s)(h:H p=!(.lst a)):
  ∃(its:ϊ ϋ)(n:Nat),Vals a its/\s.heap.get? p=!{cls:=.type "list",data:=.seq its.toArray n}/\↑a<=sizeLine:=by
 let#[z,its,n,r,e]:=I.hok p _ h;show#[its,n,r,e,z]
theorem Inv.lstUpd{a:Nat}{f:Obj->Obj}(I:Inv X gE σ H s)(h:H p=!(.lst k))
  (i:s.heap.get? p=!{cls:=.type "list",data:=.seq its.toArray n}) (d:f {cls:=.type "list",data:=.seq its.toArray n}={cls:=.type "list",data:=.seq its'.toArray a}) (r:Vals c its') (j:↑c<=sizeLine) (t:Nat):
  Inv X gE σ (upd H p<|.lst c) {s with heap:=s.heap.update p f,toks:=t}:=by
 have e:(s.heap.update p f).get? p=!{cls:=.type "list",data:=.seq its'.toArray a}:=by
  rw[ë f i<|by rw[d]<;>rfl,d]
 show I.write (x:=p) (e:=p) (by rw[h];trivial) (.inl rfl) (λb u g q=>(ĉ _ _<|Ne.symm g).trans q) #[_,e] ?_;show#[j,its',a,r,e]
def rB:V->V->V->Hp->(Hp->Prop)->Prop:=λo i v H Q=>∃p xs k j,o=.ref p/\i=.int k/\H p=!(.lst xs)/\Oc ↑xs k=!j/\Q (upd H p<|.lst<|xs.set j v)
theorem set_list:Yh X rB:=by
 intro b s E H o i v ov J u Q I B A C h;let#[p,D,k,j,rfl,rfl,x,y,q]:=h
 cases B;let#[t,rfl]:=A;let#[a,n,r,f,z]:=I.lst x;let#[c,F,m,w]:=En y;have e:=↑r;have G:=mC;have g:Inv X b E (upd H p<|.lst<|D.set j v) {s with heap:=s.heap.update p (Obj.mapSeq (·.setIfInBounds j u))}:=
  I.lstUpd x f (yI a n j u) (r.set C j) (by rw[List.length_set];show z) s.toks
 by_cases l:0<=k
 .have d:k.toNat=j:=by
   rw[seqIndex_of l w]at c;show Ü c
  show PySem.W.ki_setAt f l () (by rw[Õ,<-e];show w)<|by rw[d];show#[_,g,q]
 .have d:(k+(a.toArray.size:Int)).toNat=j:=by
   rw[seqIndex_neg () m]at c;rw[Õ,<-e];show Ü c
  show PySem.W.ki_setBack f () (by rw[Õ,<-e];show m) ()<|by rw[d];show#[_,g,q]
theorem tU(lo a:ύ Int)(n:Nat):(sliceBounds lo a none n).1=((HT.dY n 0 lo:Nat):Int)/\(sliceBounds lo a none n).2.1=((HT.dY n n a:Nat):Int)/\(sliceBounds lo a none n).2.2=1:=by
 show#[?_,?_,rfl]
 .cases lo with
  |none=>simp[sliceBounds,HT.dY]
  |some i=>
   simp only[sliceBounds,HT.dY,Option.getD_none,show(1:Int)>0 by decide,ĳ];by_cases h:i<0
   .simp only[h,ĳ]<;>rfl'
   .simp only[h,Ĉ]<;>rfl'
 .cases a with
  |none=>simp[sliceBounds,HT.dY]
  |some i=>
   simp only[sliceBounds,HT.dY,Option.getD_none,show(1:Int)>0 by decide,ĳ];by_cases h:i<0
   .simp only[h,ĳ]<;>rfl'
   .simp only[h,Ĉ]<;>rfl'
theorem qK(a:ϊ ϋ)(lo b:ύ Int):slicePick a.toArray lo b none=((a.drop<|HT.dY ↑a 0 lo).take<|HT.dY ↑a ↑a b-HT.dY ↑a 0 lo).toArray:=by
 let#[c,d,e]:=tU lo b a.toArray.size;unfold slicePick;rw[c,d,e];simp only[sliceRange_one,pick_run,Õ]<;>rfl
def vY(K:Ϗ):V->ύ Int->ύ Int->Hp->VK->Prop:=λx lo hi H Q=>∃a xs,x=.ref a/\SqL K H a xs/\∀p,H p=none->Q (.ref p) (upd H p<|.lst<|gP xs lo hi)
theorem Ph:U6 X (vY X.K):=by
 intro g s y H x v u w lo e t Q I p i m n h;let#[a,c,rfl,j,q]:=h
 cases p;let#[l,r,f,k]:=I.list j;have d:=↑r;show#["list",_,slot_list_getitem.lookup,f.isList.typeIs,?_];show wpAny_getItem_list_slice f.isList i m n .none (by simp) ?_ (by rw[Õ]<;>rfl');rw[qK,<-d];show#[.ref s.heap.objs.size,_,I.laid (t':=s.toks) (o:=.lst<|gP c lo e) (λb ob q=>Jn _ q) (Ã _) ?_,rfl,q _<|I.hok.fresh<|Ã _];show#[Nat.le_trans (nJ c lo e) k,_,0,(r.drop<|HT.dY ↑c 0 lo).take<|HT.dY ↑c ↑c e-HT.dY ↑c 0 lo,Å _ rfl]
noncomputable def jg:V->ϑ
 |.non=>true
 |.bl _=>true
 |.int _=>true
 |.str _=>true
 |_=>false
noncomputable def Od:V->V->ϑ
 |.non,.non=>true
 |.bl a,.bl b=>a==b
 |.bl a,.int b=>(if a then 1 else 0)==b
 |.int a,.bl b=>a==(if b then 1 else 0)
 |.int a,.int b=>a==b
 |.str a,.str b=>a==b
 |_,_=>false
theorem Ua(f:RelV y u)(c:RelV x v)(g:jg y=true)(e:jg x=true):SeqAt.EqAt A s u v (Od y x):=by
 cases y with
 |non=>
  cases f
  cases x with
  |non=>cases c;show SeqAt.EqAt.same _
  |bl b=>cases c;show SeqAt.EqAt.none_bool b
  |int b=>let#[t,rfl]:=c;show SeqAt.EqAt.none_int b t
  |str b=>let#[t,rfl]:=c;show SeqAt.EqAt.none_str b t
  |_=>show absurd (show false=true from e) Í
 |bl a=>
  cases f
  cases x with
  |non=>cases c;show SeqAt.EqAt.bool_none a
  |bl b=>cases c;show SeqAt.EqAt.bool_bool a b
  |int b=>let#[t,rfl]:=c;show SeqAt.EqAt.bool_int a b t
  |str b=>let#[t,rfl]:=c;show SeqAt.EqAt.bool_str a b t
  |_=>show absurd (show false=true from e) Í
 |int a=>
  let#[d,rfl]:=f
  cases x with
  |non=>cases c;show SeqAt.EqAt.int_none a d
  |bl b=>cases c;show SeqAt.EqAt.int_bool a d b
  |int b=>let#[t,rfl]:=c;show SeqAt.EqAt.int_int a d b t
  |str b=>let#[t,rfl]:=c;show SeqAt.EqAt.int_str a d b t
  |_=>show absurd (show false=true from e) Í
 |str a=>
  let#[d,rfl]:=f
  cases x with
  |non=>cases c;show SeqAt.EqAt.str_none a d
  |bl b=>cases c;show SeqAt.EqAt.str_bool a d b
  |int b=>let#[t,rfl]:=c;show SeqAt.EqAt.str_int a d b t
  |str b=>let#[t,rfl]:=c;show SeqAt.EqAt.str_str a d b t
  |_=>show absurd (show false=true from e) Í
 |_=>show absurd (show false=true from g) Í
def Pj(x:V)(u:ϋ):ϑ:=match u with
 |.none=>Od .non x
 |.bool b=>Od (.bl b) x
 |.int i _=>Od (.int i) x
 |.str z _=>Od (.str z) x
 |_=>false
theorem J1(r:RelV y u)(f:jg y=true):Pj x u=Od y x:=by
 cases y with
 |non=>cases r;rfl
 |bl b=>cases r;rfl
 |int i=>let#[t,rfl]:=r;rfl
 |str z=>let#[t,rfl]:=r;rfl
 |_=>show absurd (show false=true from f) Í
theorem tV{x:V}:∀{xs:ϊ V}{us:ϊ ϋ},Vals xs us->xs.all jg=true->us.any (Pj x)=xs.any λy=>Od y x
 |_,_,.nil,_=>rfl
 |y::xs,u::us,.cons r t,f=>by
  rw[List.all_cons,ā]at f;rw[ε,ε,J1 r f.1,tV t f.2]
theorem pC{A:ϖ}{x:V}{v:ϋ}(b:RelV x v)(a:jg x=true):∀{xs:ϊ V}{us:ϊ ϋ},Vals xs us->xs.all jg=true->∀u∈us,SeqAt.EqAt A s u v<|Pj x u
 |_,_,.nil,_=>λu hu=>by cases hu
 |y::xs,u::us,.cons r t,f=>λc hu=>by
  rw[List.all_cons,ā]at f;rcases Æ.mp hu with rfl|hu
  .rw [J1 r f.1];show Ua r b f.1 a
  .show pC b a t f.2 c hu
def inV(x:V)(xs:ϊ V):ϑ:=xs.any λy=>Od y x
def Ub(K:Ϗ)(neg:ϑ):R2:=λx y H Q=>∃p xs,y=.ref p/\(SqL K H p xs\/SqT K H p xs)/\jg x=true/\xs.all jg=true/\Q (.bl<|if neg then not (inV x xs)else inV x xs) H
theorem Gq:jj X (compareOp .In) (Ub X.K false):=by
 intro f s l H x y v u Q I g j h;let#[p,k,rfl,hq,e,b,q]:=h
 cases j;rcases hq with hq|hq
 .obtain ⟨a,r,d,i⟩:=I.list hq;show SeqAt.in_listAt (Pj x) d.isList (λw c=>pC g e r b w<|by simpa using c) #[.bl _,H,I,rfl,?_];rw[show a.toArray.any (Pj x)=a.any (Pj x)by simp,tV r b];show q
 .obtain ⟨a,r,d,i⟩:=I.tuple hq;show SeqAt.in_tupleAt (Pj x) d (λw c=>pC g e r b w<|by simpa using c) #[.bl _,H,I,rfl,?_];rw[show a.toArray.any (Pj x)=a.any (Pj x)by simp,tV r b];show q
theorem tW:bY X (.type "list") (λxs H Q=>∃p ys,xs=[.ref p]/\(SqL X.K H p ys\/SqT X.K H p ys)/\∀l,H l=none->Q (.ref l) (upd H l (.lst ys))):=by
 intro k s z H xs A Q I r h;let#[p,ys,rfl,hq,q]:=h;let#[u,rfl,y]:=vals1 r
 cases y;have fin:∀(a:ϊ ϋ),Vals ys a->↑ys<=sizeLine->∀(c:ϒ)(d:Nat),(∀b x,s.heap.get? b=!x->c.get? b=!x)->
   c.get? s.heap.objs.size=!{cls:=.type "list",dict:=none,data:=.seq a.toArray d,slots:=([].toArray)}->EP X k z Q (.ref s.heap.objs.size) {s with heap:=c}:=λa f i c d j e=>
  #[.ref s.heap.objs.size,_,I.laid (t':=s.toks) j (Ã _) (show ObjOk X.prog X.w _ c _ (.lst ys)from#[i,a,d,f,e]),rfl,q _ (I.hok.fresh (Ã _))]
 rcases hq with hq|hq
 .obtain ⟨a,f,w,i⟩:=I.list hq;have g:=↑f;let#[o,v,m,n,t]:=w.isList;show call_list_seq p (.inl rfl) v m t (λc d j e=>fin a f i c d j e) (by simp only[Õ]<;>rfl')
 .obtain ⟨a,f,w,i⟩:=I.tuple hq;have g:=↑f;let#[o,v,m,n,t]:=w;show call_list_seq p (.inr rfl) v m t (λc d j e=>fin a f i c d j e) (by simp only[Õ]<;>rfl')
theorem qM:bY X (.type "tuple") (λxs H Q=>∃p ys,xs=[.ref p]/\((SqL X.K H p ys/\∀l,H l=none->Q (.ref l) (upd H l (.tup ys)))\/(SqT X.K H p ys/\Q (.ref p) H))):=by
 intro a s m H xs w Q I r h;let#[p,ys,rfl,h]:=h;let#[u,rfl,v]:=vals1 r
 cases v;rcases h with⟨hq,q⟩|⟨hq,q⟩
 .obtain ⟨c,g,f,k⟩:=I.list hq;have j:=↑g;show call_tuple_list f.isList (λd t=>?_) (by simp only[Õ]<;>rfl');have i:Inv X a m H {s with heap:=d}:=I.kept (t':=s.toks) t;have n:Inv X a m (upd H d.objs.size (.tup ys)) {s with heap:=d.push {cls:=.type "tuple",data:=.seq c.toArray}}:=
   i.laid (t':=s.toks) (λb o e=>Jn _ e) (Ã _) (show ObjOk X.prog X.w _ _ _ (.tup ys)from#[k,c,g,IsTup.new _ _])
  show#[.ref d.objs.size,_,n,rfl,q _ (i.hok.fresh (Ã _))]
 .obtain ⟨c,g,f,k⟩:=I.tuple hq;show call_tuple_same f #[.ref p,H,I,rfl,q]
def RW(K:Ϗ)(T:String)(x:V)(H:Hp):Prop:=match x with
 |.str _=>T="str"
 |.int _=>T="int"
 |.ref p=>(T="list"/\∃xs,SqL K H p xs)\/(T="tuple"/\∃o,K.lookup p=!o/\o.cls=.type "tuple"/\o.dict=none)\/
   (T="dict"/\((∃kvs,H p=!(.dK kvs))\/∃kvs,H p=!(.dT kvs)))\/(T="set"/\∃S n,H p=!(.set S n))
 |_=>False
theorem J2(I:Inv X gE σ H s)(r:RelV x v)(d:RW X.K T x H):
  s.TypeIs v T/\∀a,v=.ref a->∃ob,s.heap.get? a=!ob/\ob.dict=none:=by
 cases x with
 |str z=>
  let#[t,rfl]:=r
  cases(show T="str" from d);show#[typeIs_str s z t,λ_ e=>nomatch e]
 |int i=>
  let#[t,rfl]:=r
  cases(show T="int" from d);show#[typeIs_int s i t,λ_ e=>nomatch e]
 |ref p=>
  cases r;rcases d with⟨rfl,xs,hq⟩|⟨rfl,o,hk,hc,g⟩|⟨rfl,hk⟩|⟨rfl,S,n,hk⟩
  .obtain ⟨j,_,h,_⟩:=I.list hq;show#[h.isList.typeIs,λa e=>?_]
   cases e;let#[o,n,e,c,g,_]:=h;show#[o,e,g]
  .show #[#[o,I.kIn p o hk,hc],λa e=>?_]
   cases e;show#[o,I.kIn _ o hk,g]
  .have z:∃o,s.heap.get? p=!o/\o.ExactDict:=by
    rcases hk with⟨kvs,hk⟩|⟨kvs,hk⟩
    .obtain ⟨_,_,_,_,o,_,_,e,b,_⟩:=I.hok p _ hk;show#[o,e,b]
    .obtain ⟨_,_,_,_,o,_,_,e,b,_⟩:=I.hok p _ hk;show#[o,e,b]
   let#[o,e,b]:=z;show#[#[o,e,b.1],λa f=>?_]
   cases f;show#[o,e,b.2.1]
  .obtain ⟨o,_,_,_,e,b,_⟩:=I.hok p _ hk;show#[#[o,e,b.1],λa f=>?_]
   cases f;show#[o,e,b.2.1]
 |_=>show False.elim d
def Gr(K:Ϗ)(T:String)(r:V->ϊ V->Hp->VK->Prop)(to:TE):TE:=λσ H Q=>to σ H λx H1=>RW K T x H1/\r x [] H1 Q
def rC(K:Ϗ)(T:String)(r:V->ϊ V->Hp->VK->Prop)(to:TE)(t:TA):TE:=λσ H Q=>to σ H λx H1=>RW K T x H1/\t σ H1 λxs H2=>r x xs H2 Q
variable{o e:Expr}{es:ϊ Expr}{to:TE}{t:TA}{name:ϐ}{apos cpos:Pos}{T id:String}{r:V->ϊ V->Hp->VK->Prop}
theorem Uc(p:PlainAttrs T)(d:Slot T name id)(e:typeOf (.builtin id)=pure (.type "method_descriptor"))(m:U8 X id r)(n:PE X o to)
  (b:attributeBase o name X.env (eval o X.env)=eval o X.env:=by rfl) (c:(apos.endLine==cpos.line)=true:=by rfl):PE X (.Call (.Attribute o name apos) [] [] cpos) (Gr X.K T r to):=by
 intro a s i H Q I h;show ς b c (bB (n a s i H _ I h) λv t ⟨x,j,f,g,u,q⟩=>?_);let#[k,l]:=J2 f g u;show#[T,id,p,d,e,k,l,ģ rfl (PySem.evalArgs_none (m a t i j x [] v [] Q f g .nil q))]
theorem Ym(C:PlainAttrs T)(g:Slot T name id)(i:typeOf (.builtin id)=pure (.type "method_descriptor"))(z:U8 X id r)(A:PE X o to)(y:PA X (e::es) t)
  (c:attributeBase o name X.env (eval o X.env)=eval o X.env:=by rfl)
  (f:((backTo cpos (starEach (e::es) X.env)).all (λx=>not x.1)&&(backToKw cpos (keywordEach [] X.env)).all (λx=>x.1.isSome)
   &&decide (↑(e::es)+↑([]:ϊ Keyword)+(if([]:ϊ Keyword).isEmpty then 0 else 1)<30))=true:=by rfl)
  (d:(apos.endLine==cpos.line)=true:=by rfl) (B:starEach (e::es) X.env=(false,eval e X.env)::starEach es X.env:=by rfl) (b:(backTo cpos (starEach es X.env)).any (·.1)=false:=by rfl):
  PE X (.Call (.Attribute o name apos) (e::es) [] cpos) (rC X.K T r to t):=by
 intro a s j H Q I h;show wpAny_Call_method_late c f d rfl (bB (A a s j H _ I h) λv G ⟨x,n,k,m,K,D⟩=>?_);let#[u,w]:=J2 k m K;show#[T,id,C,g,i,u,w,?_];have l:=y cpos a G j n _ k D;rw[B]at l⊢;show ģ (by change(false||(backTo cpos (starEach es X.env)).any (·.1))=false;rw[b]<;>rfl) (Λ ?_);show bB l λL J ⟨M,p,q,F,E⟩=>z a J j p x M v L Q q m F E
end
def MtM(X:Cx)(id:String)(r:V->ϊ V->Hp->VK->Prop):Prop:=
 ∀(gE:Ϸ)(s:ώ)(σ:St)(H:Hp)(x:V)(xs:ϊ V)(v:ϋ)(us:ϊ ϋ)(Q:VK),Inv X gE σ H s->RelV x v->Vals xs us->r x xs H Q->
  wpAny (model X.prog X.w) X.A (call (.builtin id) (v::us)) (EP X gE σ Q) X.xe s
theorem Vals.one:∀{x:V}{us:ϊ ϋ},Vals [x] us->∃u,us=[u]/\RelV x u
 |_,_,.cons r .nil=>#[_,rfl,r]
theorem Vals.two:∀{x y:V}{us:ϊ ϋ},Vals [x,y] us->∃u v,us=[u,v]/\RelV x u/\RelV y v
 |_,_,_,.cons r (.cons q .nil)=>#[_,_,rfl,r,q]
theorem Vals.zero:∀{us:ϊ ϋ},Vals [] us->us=[]
 |_,.nil=>rfl
theorem Vals.dropLast(h:Vals b a):Vals b.dropLast a.dropLast:=by
 induction h with
 |nil=>show .nil
 |cons r t ih=>
  cases t with
  |nil=>show .nil
  |cons q t'=>show .cons r ih
theorem Vals.eraseIdx:∀{xs:ϊ V}{us:ϊ ϋ}(i:Nat),Vals xs us->Vals (xs.eraseIdx i) (us.eraseIdx i)
 |_,_,_,.nil=>.nil
 |_,_,0,.cons _ t=>t
 |_,_,i+1,.cons r t=>.cons r (Vals.eraseIdx i t)
theorem yJ{c:Type}(l:ϊ c):l.eraseIdx (↑l-1)=l.dropLast:=by
 induction l with
 |nil=>rfl
 |cons a r ih=>
  cases r with
  |nil=>rfl
  |cons b r=>
   have e:↑(a::b::r)-1=(↑(b::r)-1)+1:=by
    have d:↑(a::b::r)=↑r+2:=rfl;have f:↑(b::r)=↑r+1:=rfl;rfl'
   rw[e,List.eraseIdx_cons_succ,ih];all_goals rfl
theorem rD{a:Type}:∀(l:ϊ a)(i:Nat),↑(l.eraseIdx i)<=↑l
 |[],_=>Ã _
 |_::_,0=>Nat.le_succ _
 |_::r,i+1=>Ő<|rD r i
section
variable{X:Cx}
theorem Inv.lset(I:Inv X gE σ H s)(a:H l=!(.lst xs))
  (e:s.heap.get? l=!{cls:=.type "list",data:=.seq its.toArray n}) (c:f its.toArray=its'.toArray) (g:Vals ys its') (h:↑ys<=sizeLine):
  Inv X gE σ (upd H l<|.lst ys) {s with heap:=s.heap.update l<|Obj.mapSeq f,toks:=t'}:=by
 have q:=PySem.IsL.update e f;rw[c]at q;show I.write (x:=l) (e:=l) (by rw[a];show trivial) (.inl rfl) (λi u b d=>(ĉ s.heap (Obj.mapSeq f)<|Ne.symm b).trans d) #[_,q] ?_;show#[h,its',_,g,q]
def Inv.lnew(I:Inv X gE σ H s)(a:Vals ys its)(b:↑ys<=sizeLine):
  Inv X gE σ (upd H s.heap.objs.size<|.lst ys) {s with heap:=s.heap.push {cls:=.type "list",data:=.seq its.toArray},toks:=t'}:=
 I.laid (λ_ _ q=>Jn _ q) (Ã _) #[b,its,0,a,Å _ rfl]
theorem Inv.fresh(I:Inv X gE σ H s):H s.heap.objs.size=none:=I.hok.fresh<|Ã _
theorem Inv.lstM(I:Inv X gE σ H s)(a:H l=!(.lst xs)):↑xs<=sizeLine/\∃(its:ϊ ϋ)(n:Nat),Vals xs its/\↑xs=↑its/\s.heap.get? l=!{cls:=.type "list",data:=.seq its.toArray n}:=by
 let#[z,its,n,r,e]:=I.hok l _ a;show#[z,its,n,r,↑r,e]
theorem J3(h:n<=sizeLine):Builtin.List.listTooLong n=false:=by
 unfold Builtin.List.listTooLong;show Ø ()
end
section
variable{X:Cx}
def d7:V->ϊ V->Hp->VK->Prop:=λx vs H Q=>∃l xs y,x=.ref l/\vs=[y]/\H l=!(.lst xs)/\↑xs<sizeLine/\Q .non (upd H l<|.lst<|xs++[y])
theorem Gs:MtM X "list.append" d7:=by
 intro c s p H x m v k Q I g f h;let#[l,o,y,rfl,rfl,b,j,q]:=h
 cases g;let#[u,rfl,d]:=f.one;let#[z,a,n,r,i,e]:=I.lstM b;show call_meets F.slot_list_append #[_,e,rfl] F.entry_list_append (F.args_list_append_2 _ _) (PySem.list_append l a.toArray n u<|by rw[Õ];rfl') #[e,?_];show#[.non,_,I.lset (its':=a++[u]) b e (by simp) (r.append<|.cons d .nil) ?_,rfl,q];rw[Ë,à];rfl'
def jK:V->ϊ V->Hp->VK->Prop:=λx vs H Q=>∃l b xs zs,x=.ref l/\vs=[.ref b]/\H l=!(.lst xs)/\H b=!(.lst zs)/\↑xs+↑zs<=sizeLine/\Q .non (upd H l<|.lst<|xs++zs)
theorem jL:MtM X "list.extend" jK:=by
 intro i s K H x D v C Q I y w h;let#[l,b,E,J,rfl,rfl,g,k,B,q]:=h
 cases y;let#[u,rfl,t]:=w.one
 cases t;let#[z,c,n,r,A,e]:=I.lstM g;let#[G,a,o,p,m,j]:=I.lstM k;have f:c.toArray.size+a.toArray.size<=sizeLine:=by rw[Õ,Õ];rfl'
 have d:¬(not c.toArray.isEmpty&&Builtin.List.listTooLong (c.toArray.size+a.toArray.size))=true:=by
  rw[J3 f,Bool.and_false];show Í
 show call_meets F.slot_list_extend #[_,e,rfl] F.entry_list_extend (F.args_list_extend_2 _ _)
  (AutoSeq1.list_extend_list_list_0 l c.toArray n b a.toArray o d (by rw[Õ];rfl') ()) #[e,j,?_]
 show#[.non,_,I.lset (its':=c++a) g e (by simp) (r.append p) ?_,rfl,q];rw[Ë];rfl'
def Ud:V->ϊ V->Hp->VK->Prop:=λx vs H Q=>∃l xs y,x=.ref l/\vs=[]/\H l=!(.lst xs)/\xs[↑xs-1]?=!y/\Q y (upd H l<|.lst xs.dropLast)
theorem Ue:MtM X "list.pop" Ud:=by
 intro f s A H x t v p Q I o m h;let#[l,w,y,rfl,rfl,d,j,q]:=h
 cases o;have b:=m.zero;subst b;let#[z,a,n,r,g,e]:=I.lstM d;let#[u,i,k]:=r.get j;have c:a.toArray[a.toArray.size-1]?=!u:=by
  change a.toArray[↑a-1]?=!u;rw[<-Ą,<-g];show i
 show call_meets F.slot_list_pop #[_,e,rfl] F.entry_list_pop (F.args_list_pop_1 _) (MeetsSeq.list_pop_last l a.toArray n u c<|by rw[Õ];rfl') #[e,?_];show#[y,_,I.lset (its':=a.dropLast) d e ?_ r.dropLast ?_,k,q]
 .show a.toArray.eraseIdxIfInBounds (a.toArray.size-1)=a.dropLast.toArray;rw[Õ,List.eraseIdxIfInBounds_toArray,yJ]
 .rw [List.length_dropLast];rfl'
def yK:V->ϊ V->Hp->VK->Prop:=λx vs H Q=>∃l xs i k y,x=.ref l/\vs=[.int i]/\H l=!(.lst xs)/\-(2^63)<=i/\i<2^63/\seqIndex? i ↑xs=!k/\xs[k]?=!y/\Q y (upd H l<|.lst<|xs.eraseIdx k)
theorem J4:MtM X "list.pop" yK:=by
 intro d s J H x G v E Q I C B h;let#[l,D,i,k,y,rfl,rfl,c,f,g,j,p,q]:=h
 cases C;let#[u,rfl,A]:=B.one;let#[t,rfl]:=A;let#[z,a,n,r,m,e]:=I.lstM c;let#[w,o,b]:=r.get p;show call_meets F.slot_list_pop #[_,e,rfl] F.entry_list_pop (F.args_list_pop_2 _ _)
  (MeetsSeq.list_pop_at l a.toArray n i t k w (fitsIndex_both f g) (by rw[Õ,<-m];show j) (by rw[<-Ą];show o)<|by rw[Õ];rfl') #[e,?_]
 show#[y,_,I.lset (its':=a.eraseIdx k) c e ?_ (r.eraseIdx k) ?_,b,q]
 .show a.toArray.eraseIdxIfInBounds k=(a.eraseIdx k).toArray;rw[List.eraseIdxIfInBounds_toArray]
 .have:=rD D k;rfl'
def Ug:R2:=λx y H Q=>∃l b xs zs,x=.ref l/\y=.ref b/\H l=!(.lst xs)/\H b=!(.lst zs)/\↑xs+↑zs<=sizeLine/\∀p,H p=none->Q (.ref p) (upd H p<|.lst<|xs++zs)
theorem Uh:jj X (binaryOp .Add) Ug:=by
 intro d s E H x y v u Q I o p h;let#[l,b,B,D,rfl,rfl,j,i,w,q]:=h
 cases o
 cases p;let#[z,c,n,r,t,e]:=I.lstM j;let#[C,a,A,m,k,f]:=I.lstM i;show PySem.P.add_list e f ?_ (by rw[Õ,Õ];rfl');have g:c.toArray++a.toArray=(c++a).toArray:=by simp
 rw[g];show#[.ref _,_,I.lnew (t':=s.toks) (r.append m)<|by rw[Ë];rfl',rfl,q _ I.fresh]
end
end L2
namespace Att
open PySem PySem.W PySem.Calls PyProof.Rows
variable{n:Nat}
theorem nZ:∀(ns:ϊ Int)(vs:ϊ ϋ),WellAll P h vs (ns.map WData.int)->IntsAre vs ns:=by
 intro ns;induction ns with
 |nil=>
  intro vs w;rw[ă]at w
  cases w;show .nil
 |cons n ns ih=>
  intro vs w;rw[È]at w
  cases w with
  |cons a b=>
   cases a;show .cons _ _<|ih _ b
theorem Gu{l:OpenLaw}(p:l.most=!n){P:Params}{h:ϒ}
  (b:l.row.toRowW.claim.pre args=true) (i:WellAll P h vals args):
  ∃a vs ns,vals=[Value.ref a]/\args=[WData.list<|ns.map WData.int]/\h.get? a=!{cls:=.type "list",data:=.seq vs.toArray}/\IntsAre vs ns/\↑ns<=n:=by
 have g:WShape.hasAll [] args [.list .int]=true:=(pre_splitW b).1;have j:l.pre.holds [] {args:=args}=true:=(pre_splitW b).2;let#[d,r,rfl,k,m]:=hasAllW_cons g;obtain rfl:=hasAllW_nil m;let#[t,rfl,o]:=hasW_list k;let#[ns,rfl]:=items_int o;have c:↑ns<=n:=by
  unfold OpenLaw.pre at j;have e:(WTm.not (.lt (.lit<|.int (n:Int))<|.len<|.arg 0)).holds [] {args:=[.list<|ns.map .int] }=true:=by
   have e:=(holds_andW j).1;rw[p]at e;show e
  have f:=condW_of e<|w_not<|w_lt w_lit<|w_len_list<|w_arg rfl;rw[Qb]at f;show Nat.le_of_not_lt λq=>?_
  have s:(n:Int)<((↑ns:Nat):Int):=()
  first
   |(rw[Ï s]at f;show absurd f<|by decide)
   |(simp at f;rfl')
 cases i with
 |cons w1 w2=>
  cases w2
  cases w1 with
  |list ho hall=>show#[_,_,ns,rfl,rfl,ho,nZ ns _ hall,c]
theorem Gv(l:OpenLaw)(a:ϊ WData):l.row.toRowW.claim.post a (.bool true) a=true:=
 postW_of (r:=l.row.toRowW) (X:=(true==true))
  (show WShape.has [] (.bool true) .bool=true by first|rfl| decide | simp[WShape.has,WShape.arms,WShape.armsAll])
  (show(WTm.eq .res<|.lit<|.bool true).value [] {args:=a,res:=!(.bool true),after:=a}=!(.bool<|true==true)from w_eq_bool (w_res rfl) w_lit) rfl
theorem vZ{l:OpenLaw}
  (K:l.most=!n) (p:d.params.defaults=[])
  (c:∀(w:ϕ)(b s₁:ώ)(mg u:ϐ->ύ ϋ)(h:ό)(o:Obj)(v cd e:ϋ)(a:ό)(vs:ϊ ϋ)(ns:ϊ Int),
   Ground q loose [] XP w b mg u s₁.heap->YP w s₁.heap->
   s₁.heap.get? h=!o->o.data=.func (docDef d.name d.params d.body d.scope v cd e)->s₁.heap.CodeRec cd d.name->mg d.name=!(.ref h)->
   s₁.heap.get? a=!{cls:=.type "list",data:=.seq vs.toArray}->IntsAre vs ns->↑ns<=n->s₁.gens=([].toArray)->
   codeAny (model l.prog w) callerA (.call (.ref h) #[[.ref a],[]]) (λr s'=>r=.ok (.ret<|.bool true)/\OldK s₁.heap s'.heap/\s'.os=s₁.os/\AllBare s'.gens) s₁):
  WalkO q loose XP YP l.row.toRowW d [] (λf vs=>PySem.call f vs):=by
 intro w b s₁ mg u G Y h o v cd e B kV L F m y s H x A O k z N t I;obtain rfl:B=.none:=Dflts.none y p;obtain rfl:kV=.none:=Dflts.noKw y;let#[a,vs,ns,rfl,rfl,j,g,i]:=Gu K k t;show enter_call<|Ť (c w b s₁ mg u h o v cd e a vs ns G Y L (fd_plain F) m s j g i H) λr s' M=>?_;let#[rfl,C,D,E]:=M;show#[.inl #[.bool true,.bool true,[],rfl,λ_=>rfl,.bool true,Gv l _,λ_=>#[List.Pairwise.nil,λ_ J=>(nomatch J)]],C,D,E]
section
end
end Att
namespace L2
open PySem PySem.Spec PyProof.Rows
variable{y:V}{n:Nat}{B:Prop}{H:Hp}{st:Stmt}{w:ϕ}{A:ϖ}{d:DefRec}{a b f:ό}{qual x:ϐ}{fd:FuncData}{CX:ϕ->Iw}{sp:ϕ->Sp}{oc u:ϋ}{an:ύ ό}{loose:ϊ ϐ}{prog q:ϓ}{YP:ϕ->ϒ->Prop}{E Q:϶}{osl:ϔ (ύ ϋ)}{XP:(ϐ->ύ ϋ)->ϒ->Prop}
theorem mF:∀{vs:ϊ ϋ}{ns:ϊ Int},IntsAre vs ns->Vals (ns.map V.int) vs
 |_,_,.nil=>.nil
 |_,_,.cons n t h=>.cons #[t,rfl]<|mF h
def Only(H:Hp):Prop:=∀b,H b=none\/∃o xs,H b=!(.frz o<|.lst xs)
theorem J5{P:ϓ}{K:Ϗ}{I T:ϐ->ύ ϋ}{X:Iw}{k:Nat}{O:ό}{sp:Sp}{l:ϊ ϋ}{J:ϊ Int}
  (Y:K.In s₁.heap) (C:s₁.heap.Ns mainGlobals I) (f:s₁.heap.Ns builtinsNs T) (R:∀x:ϐ,x≠"__name__"->T x=bootBuiltins x) (B:s₁.heap.NoLimit) (hg:s₁.gens=([].toArray))
  (M:s₁.heap.get? a=!{cls:=.type "list",data:=.seq l.toArray}) (hi:IntsAre l J) (hl:↑J<=sizeLine) (hr:Room k callerA)
  (F:∀base:ϒ,K.In base->base.Ns mainGlobals I->FnOk P w K I base X k O fd [x] sp) (j:∀(s:ώ)(u:ϋ),BindsTo s fd #[[u],[]] [(x,u)])
  (S:∀H:Hp,Only H->SqL K H a (J.map V.int)->sp [.ref a] H (λv _=>v=.bl true) λ_ _ _=>False)
  (Q:∀H e s',X [] H s₁ (λ_ _ _=>False) e s'->False):
  codeAny (model P w) callerA (.call (.ref O) #[[.ref a],[]]) (λr s'=>r=.ok (.ret<|.bool true)/\OldK s₁.heap s'.heap/\s'.os=s₁.os/\AllBare s'.gens) s₁:=by
 have rv:=mF hi;have G:=↑hi;have i:∀H:Hp,Only H->SqL K H a (J.map V.int)->HOk P w H s₁.heap-> (∀b,H b ≠ none->b=a)-> (H a ≠ none->K.lookup a=none)->
   codeAny (model P w) callerA (.call (.ref O) #[[.ref a],[]]) (λr s'=>r=.ok (.ret<|.bool true)/\OldK s₁.heap s'.heap/\s'.os=s₁.os/\AllBare s'.gens) s₁:=by
  intro H hO hS D hA hK;have c:∀{b:ό}{o:Obj},s₁.heap.get? b=!o->H b=none->(tH s₁.heap H).get? b=!o:=λe n=>Ih e n
  have U:∀{b:ό}{o:Obj}{y:ϔ DictEntry}{t:Nat},s₁.heap.get? b=!o->o.data=.dict y t->H b=none:=λ{b o y t} e d=>by
   cases q:H b with
   |none=>rfl
   |some u=>
    have N:b=a:=hA b (by rw[q];simp);subst N;rw[M]at e;cases e;have d':Data.seq l.toArray _=Data.dict y t:=d
    cases d'
  have g:∀{b:ό}{m:ϐ->ύ ϋ},s₁.heap.Ns b m->(tH s₁.heap H).Ns b m:=λ{b m} ⟨o,y,t,e,d,r⟩=>#[o,y,t,c e<|U e d,d,r]
  have A:K.In (tH s₁.heap H):=λb o e=>c (Y b o e) (by
   cases q:H b with
   |none=>rfl
   |some u=>
    have N:b=a:=hA b (by rw[q];simp);subst N;rw[hK (by rw[q];simp)]at e;cases e)
  have hM:Mod K I (tH s₁.heap H):=#[A,g C,#[T,g f,R],let⟨mc,h1,h2⟩:=B;#[mc,g h1,h2]];have e0:Env0 P w K I (tH s₁.heap H) callerA [] s₁ H:=#[rfl,hM,λb o e=>Om e,Τ<|Gd _ _,trivial,λb f=>absurd (show b∈([]:ϊ ό)from f) (by simp),D,.of_eq hg];show Ť ((F _ A<|g C).run callerA [] s₁ H #[[.ref a],[]] [.ref a] [.ref a] _ _ hr e0 (j s₁<|.ref a) (.cons rfl .nil)<|S H hO hS) λr s' h=>?_
  cases r with
  |error e=>show(Q H e s' h).elim
  |ok fl=>
   cases fl with
   |next=>show False.elim h
   |brk=>show False.elim h
   |cont=>show False.elim h
   |ret u=>
    let#[v,H',os,p,un,E,r',q]:=h;have q':v=.bl true:=q;subst q';obtain rfl:u=Value.bool true:=r';show#[rfl,OldK.of_keep λb o e=>?_,os,p]
    cases q:H b with
    |none=>show un.keep b o e q (by intro z;show absurd (show b∈([]:ϊ ό)from z) (by simp)) (by simp)
    |some u=>
     rcases hO b with z|⟨ob,xs,z⟩
     .rw [q]at z;cases z
     .have z2:=un.frzs b ob _ z;let#[Z,_]:=D b _ z;let#[e2,_]:=E b _ z2;rw[e]at Z;cases Z;show e2
 cases hk:K.lookup a with
 |some o=>
  have e:=Y a o hk;rw[M]at e
  cases e;show i (λ_=>none) (λ_=>.inl rfl) (.inr #[_,l.toArray,_,hk,rfl,rfl,rfl,by rw[Õ,G];show hl,by simpa using rv]) (λb u z=>by have L:(none:ύ HO)=!u:=z;cases L) (λb z=>absurd rfl z) λz=>absurd rfl z
 |none=>
  show i (λb=>if b=a then !(.frz {cls:=.type "list",data:=.seq l.toArray}<|.lst<|J.map V.int)else none) (λb=>?_) (.inl<|.inr #[{cls:=.type "list",data:=.seq l.toArray},if_pos rfl]) (λb u z=>?_) (λb z=>?_) λ_=>hk
  .by_cases f:b=a
   .show .inr #[_,_,if_pos f]
   .show .inl<|if_neg f
  .by_cases f:b=a
   .have L:=(if_pos f).symm.trans z
    cases L;subst f;show#[M,by rw[Qb];show hl,l,_,rv,M]
   .have L:=(if_neg f).symm.trans z
    cases L
  .by_cases f:b=a
   .show f
   .show absurd (if_neg f) z
theorem Pk{l:W.OpenLaw}{k:Nat}{K:Params->Ϗ}
  (N:l.most=!n) (t:n<=sizeLine) (p:d.params.defaults=[]) (O:Room k callerA)
  (I:∀(w:ϕ)(h:ϒ),YP w h->(K w.params).In h)
  (F:∀(w:ϕ)(mg:ϐ->ύ ϋ)(j:ό)(h:ϒ),(K w.params).In h->h.Ns mainGlobals mg->mg d.name=!(.ref j)->
   ∃fd:FuncData,(∀(s:ώ)(u:ϋ),BindsTo s fd #[[u],[]] [(x,u)])/\
    ∀base:ϒ,(K w.params).In base->base.Ns mainGlobals mg->FnOk l.prog w (K w.params) mg base (CX w) k j fd [x] (sp w))
  (y:∀(w:ϕ)(H:Hp)(a:ό)(ns:ϊ Int),↑ns<=n->Only H->SqL (K w.params) H a (ns.map V.int)->sp w [.ref a] H (λv _=>v=.bl true) λ_ _ _=>False)
  (m:∀(w:ϕ)(H:Hp)(s:ώ)(e:ϋ)(s':ώ),CX w [] H s (λ_ _ _=>False) e s'->False):
  PySem.W.WalkO q loose XP YP l.row.toRowW d [] (λf vs=>PySem.call f vs):=by
 show Att.vZ N p λw A i mg S j o T P B a vs ns G Y R Q L r g c b M=>?_
 have z:=I w _ Y;let#[fd,J,C]:=F w mg j _ z G.T.g r;show J5 z G.T.g G.T.b G.T.builtins G.T.nolimit M g c (Ð b t) O C J (λH D E=>y w H a ns b D E) λH e s'=>m w H i e s'
abbrev J6:Iw:=λ_ _ _ _ _ _=>False
abbrev E0:XK:=λ_ _ _=>False
def RX{X:Cx}:yD J6 X E0:=λ_ _ _ _ _ _ _ h=>h.elim
structure Fun(K:Ϗ)(x qual:ϐ)(st:Stmt)(f:ό)(fd:FuncData):Prop where
 ex:∃(oc:ϋ)(od:ύ ό)(kV doc pm:ϋ)(an:ύ ό)(cdv ct:ϋ)(osl:ϔ<|ύ ϋ),
  fd=W.fnOf x qual (dC st) (cU st) (aZ st) .none kV doc pm an cdv ct/\K.lookup f=!#[oc,od,.func fd,osl]/\W.codeIn K cdv qual=true
 kp:W.keepIn K (.ref f)=true
section
variable{K:Ϗ}
theorem Fun.ok{N g:ϊ ϐ}{k:Nat}{i:Sp}(F:Fun K x qual st f fd)(S:FnScope N g<|aZ st)(e:∀vs H Q E,i vs H Q E->↑vs=↑g)
  (b:∀(a:ϋ)(A:ϖ)(outer:ϊ Env)(s:ώ)(H:Hp)(vs:ϊ V)(Q:VK)(E:XK),Room k (A.deeper<|envOfC qual (aZ st) s.heap.objs.size f a)->i vs H Q E->
   ∃t,PSs (yE J6 P w K mg base N qual (aZ st) f a A outer s H E).nox (cU st) t/\t {nx:=λ_ H'=>Q .non H',rt:=Q} (start N vs) H):FnOk P w K mg base J6 (k+1) f fd g i:=by
 let#[p,r,kV,j,u,n,a,o,m,rfl,lk,c]:=F.ex;show RV lk c S e λA outer s H vs Q E l d=>?_
 let#[t,h,q]:=b a A outer s H vs Q E l d;show#[t,h.nox,q]
theorem Fun.binds{e:ϊ ϐ}(F:Fun K x qual st f fd)
  (h:∀(kV b d:ϋ)(an:ύ ό)(a c:ϋ)(us:ϊ ϋ),↑us=↑e->bindArgs (W.fnOf x qual (dC st) (cU st) (aZ st) .none kV b d an a c) #[us,[]]=pure (e.zip us)):Binds K fd e []:=by
 let#[j,k,kV,b,d,an,a,c,i,rfl,lk,g]:=F.ex;show .all (h kV b d an a c)
def yL{g:ύ ό}{kV b e a d:ϋ}(l:K.lookup f=!#[oc,g,.func<|W.fnOf x qual (dC st) (cU st) (aZ st) .none kV b e an a d,osl])
  (c:W.codeIn K a qual=true) (k:W.keepIn K (.ref f)=true):Fun K x qual st f (W.fnOf x qual (dC st) (cU st) (aZ st) .none kV b e an a d):=#[#[oc,g,kV,b,e,an,a,d,osl,rfl,l,c],k]
end
theorem bL{k:Nat}(a:Room k A):A.units+1<cLine:=Ý (Ω (by decide:1<=64) _) a.units
theorem Gx(h:n<=1000):n<sizeLine:=Ý h<|by decide
section
variable{X:Cx}
def pv(i:Nat){x:ϐ}{b:Pos}(c:X.N[i]?=!x:=by rfl)(e:Vis X.env.scope x:=by first|show Or.inl rfl|show Or.inr (Or.inl rfl)|show Or.inr<|Or.inr rfl)(d:(x==("__debug__":ϐ))=false:=by decide)
  (a:(x==("__classdict__":ϐ))=false:=by decide):PE X (.Name x b) (gA i):=Tv c e d a
end
theorem J7{A:Prop}(h:B):if false=true then A else B:=by
 rw[if_neg Í];show h
theorem J8{A:Prop}(h:A):if true=true then A else B:=by
 rw[if_pos rfl];show h
def Same(H H':Hp):Prop:=∀b o,H b=!o->H' b=!o
def Same.refl(H:Hp):Same H H:=λ_ _ h=>h
abbrev gN:=@Same.refl
def Same.trans{d:Hp}(a:Same H d)(b:Same d e):Same H e:=λc o h=>b c o<|a c o h
theorem Same.free(e:Same H H')(h:H' l=Option.none):H l=Option.none:=by
 cases q:H l with
 |none=>rfl
 |some o=>
  rw[e l o q]at h
  cases h
theorem Same.seq{K:Ϗ}{b:ϊ V}(e:Same H H')(h:SqL K H a b):SqL K H' a b:=by
 rcases h with(h|⟨o,h⟩)|h
 .show .inl<|.inl<|e _ _ h
 .show .inl<|.inr #[o,e _ _ h]
 .show .inr h
section
variable{κ:Type}[DecidableEq κ]
noncomputable def bh(kvs:ϊ<|κ×V)(k:κ):ύ V:=(kvs.find? λkv=>decide<|kv.1=k).map (·.2)
noncomputable def putK(kvs:ϊ<|κ×V)(k:κ)(v:V):ϊ (κ×V):=
 if(kvs.any λkv=>decide<|kv.1=k)=true then kvs.map (λkv=>if kv.1=k then(kv.1,v)else kv)else kvs++[(k,v)]
noncomputable def dM(kvs:ϊ<|κ×V)(k:κ):ϊ (κ×V):=kvs.filter λkv=>decide<|kv.1≠k
theorem cJ{p:κ×V}{r:ϊ<|κ×V}{k:κ}(e:p.1=k):bh (p::r) k=!p.2:=by simp[bh,ġ,e]
theorem c7{p:κ×V}{r:ϊ<|κ×V}{k:κ}(e:¬p.1=k):bh (p::r) k=bh r k:=by simp[bh,ġ,e]
theorem lG(k:κ):∀kvs:ϊ<|κ×V,(kvs.any λa=>decide<|a.1=k)=(bh kvs k).isSome
 |[]=>rfl
 |p::r=>by
  rw[ε];by_cases e:p.1=k
  .simp only[cJ e,Ï e,Bool.true_or,Option.isSome_some]
  .rw [c7 e,Ø e,Bool.false_or];show lG k r
theorem rE(k j:κ)(y:V):∀kvs:ϊ<|κ×V,bh kvs k=none->bh (kvs++[(k,y)]) j=if j=k then !y else bh kvs j
 |[],_=>by
  by_cases e:k=j
  .rw [if_pos e.symm];show cJ (p:=(k,y)) e
  .rw [if_neg<|λz=>e z.symm];show c7 (p:=(k,y)) e
 |p::r,hn=>by
  rw[Ρ];have a:¬p.1=k:=λz=>by rw[cJ z]at hn;cases hn
  rw[c7 a]at hn;have b:=rE k j y r hn;by_cases e:p.1=j
  .rw [cJ e,cJ e,if_neg<|λz=>a<|e.trans z]
  .rw [c7 e,c7 e,b]
theorem jn(a:ϊ<|κ×V)(k:κ)(v:V):↑(putK a k v)<=↑a+1:=by
 unfold putK;split
 .rw [Qb];rfl'
 .rw [Ë,ê,ņ];rfl'
theorem cW{a:ϊ<|κ×V}{k:κ}(v:V)(h:bh a k=none):putK a k v=a++[(k,v)]:=by
 unfold putK;rw[lG,h];show if_neg<|by decide
theorem RelO.isSome_eq{u:ύ ϋ}(r:RelO o u):o.isSome=u.isSome:=by
 cases o with
 |none=>cases u with
  |none=>rfl
  |some _=>show(show False from r).elim
 |some _=>cases u with
  |none=>show(show False from r).elim
  |some _=>rfl
theorem RelO.getD{u:ύ ϋ}{d:V}(r:RelO o u)(a:RelV d d'):RelV (o.getD d) (u.getD d'):=by
 cases o with
 |none=>cases u with
  |none=>show a
  |some _=>show(show False from r).elim
 |some _=>cases u with
  |none=>show(show False from r).elim
  |some _=>show r
theorem KV.val{a:ϊ<|κ×V}{f:ϊ<|κ×ϋ}(r:KV a f)(k:κ):RelO (bh a k) (valueAt f k):=by
 unfold KV at r;induction r with
 |nil=>show True.intro
 |@cons p q ps qs h t ih=>
  let#[d,g]:=h;by_cases e:p.1=k
  .have c:q.1=k:=d.symm.trans e;have b:valueAt (q::qs) k=!q.2:=by simp[valueAt,ġ,c]
   rw[cJ e,b];show g
  .have c:¬q.1=k:=λz=>e<|d.trans z
   have b:valueAt (q::qs) k=valueAt qs k:=by simp[valueAt,ġ,c]
   rw[c7 e,b];show ih
theorem KV.any{a:ϊ<|κ×V}{c:ϊ<|κ×ϋ}(r:KV a c)(k:κ):(a.any λb=>decide<|b.1=k)=c.any λb=>decide (b.1=k):=by
 unfold KV at r;induction r with
 |nil=>rfl
 |cons h t ih=>rw[ε,ε,ih,h.1]
theorem KV.repl{b:ϊ<|κ×V}{d:ϊ<|κ×ϋ}(r:KV b d)(k:κ)(g:RelV y u):
  KV (b.map λa=>if a.1=k then(a.1,y)else a) (d.map λa=>if a.1=k then(a.1,u)else a):=by
 unfold KV at r⊢;induction r with
 |nil=>show .nil
 |@cons p q ps qs h t ih=>
  rw[È,È];show .cons ?_ ih;let#[c,f]:=h;by_cases e:p.1=k
  .rw [if_pos e,if_pos<|c.symm.trans e];show#[c,g]
  .rw [if_neg e,if_neg<|λz=>e<|c.trans z];show#[c,f]
theorem KV.put{a:ϊ<|κ×V}{b:ϊ<|κ×ϋ}(r:KV a b)(k:κ)(c:RelV y u):KV (putK a k y) (stored b k u):=by
 unfold putK stored;rw[r.any k];by_cases e:(b.any λd=>decide<|d.1=k)=true
 .rw [if_pos e,if_pos e];show r.repl k c
 .rw [if_neg e,if_neg e];show Paired.snoc r #[rfl,c]
theorem KV.keys{a:ϊ<|κ×V}{b:ϊ<|κ×ϋ}(r:KV a b):a.map (·.1)=b.map (·.1):=by
 unfold KV at r;induction r with
 |nil=>rfl
 |cons h t ih=>rw[È,È,ih,h.1]
def KV.length{a:ϊ<|κ×V}{b:ϊ<|κ×ϋ}(r:KV a b):↑a=↑b:=ğ r
def J9(a:ϊ<|κ×V)(k:κ):↑(dM a k)<=↑a:=Ę _ _
end
theorem rG(r:RelV (kV k) u):(bw P w).is k u=true:=by
 cases k with
 |inl i=>let#[t,e]:=(show∃t,u=Value.int i t from r);subst e;show vK P w i t
 |inr x=>let#[t,e]:=(show∃t,u=Value.str x t from r);subst e;show vL P w x t
theorem rH{w:ϕ}:∀{ks:ϊ Key}{us:ϊ ϋ},Vals (ks.map kV) us->ItemsAre (bw P w) ks us
 |[],_,r=>by rw[ă]at r;cases r;show .nil
 |k::ks,_,r=>by
  rw[È]at r
  cases r with
  |cons h t=>show .cons (rG h)<|rH t
abbrev KT(H:Hp):ϊ (ϊ Key×V)->ϊ (ϊ Key×ό×ϋ)->Prop:=Paired λp q=>p.1=q.1/\H q.2.1=!(.tup<|p.1.map kV)/\RelV p.2 q.2.2
theorem KT.val{d:ϊ<|ϊ Key×ό×ϋ}(r:KT H kvs d)(k:ϊ Key):RelO (bh kvs k) ((atKey d k).map (·.2)):=by
 induction r with
 |nil=>show True.intro
 |@cons p q ps qs h t ih=>
  let#[c,_,f]:=h;by_cases e:p.1=k
  .have a:q.1=k:=c.symm.trans e;have b:atKey (q::qs) k=!q.2:=by simp[atKey,ġ,a]
   rw[cJ e,b];show f
  .have a:¬q.1=k:=λz=>e<|c.trans z
   have b:atKey (q::qs) k=atKey qs k:=by simp[atKey,ġ,a]
   rw[c7 e,b];show ih
theorem KT.repl{d:ϊ<|ϊ Key×ό×ϋ}(r:KT H kvs d)(k:ϊ Key)(g:RelV y u):
  KT H (kvs.map λb=>if b.1=k then(b.1,y)else b) (d.map<|putAt k u):=by
 induction r with
 |nil=>show .nil
 |@cons p q ps qs h t ih=>
  rw[È,È];show .cons ?_ ih;let#[a,c,f]:=h;unfold putAt;by_cases e:p.1=k
  .rw [if_pos e,if_pos<|a.symm.trans e];show#[a,c,g]
  .rw [if_neg e,if_neg<|λz=>e<|a.trans z];show#[a,c,f]
theorem KT.put{a:ϊ<|ϊ Key×ό×ϋ}(r:KT H kvs a)(k:ϊ Key)(d:H b=!(.tup<|k.map kV))(c:RelV y u):
  KT H (putK kvs k y) (storedH a k b u):=by
 have e:(kvs.any λf=>decide<|f.1=k)=(atKey a k).isSome:=by
  rw[lG,(r.val k).isSome_eq,ť]
 unfold putK storedH;rw[e];by_cases q:(atKey a k).isSome=true
 .rw [if_pos q,if_pos q];show r.repl k c
 .rw [if_neg q,if_neg q];show Paired.snoc r #[rfl,d,c]
def KT.keeps{a:ϊ<|ϊ Key×ό×ϋ}(r:KT H kvs a)(c:∀b ys,H b=!(.tup ys)->H' b=!(.tup ys)):KT H' kvs a:=
 Paired.mapP r λ_ _ z=>#[z.1,c _ _ z.2.1,z.2.2]
section
def RZ{u:HO}(b:HOk P w H h)(e:Rd H a u):ObjOk P w H h a u:=e.ok b
def kj{b:ϊ<|Key×V}(c:HOk P w H h)(e:Rd H a<|.dK b):↑b<=sizeLine/\(a==sysModules)=false/\∃vs,KV b vs/\h.DictOf (bw P w) a vs:=
 show ObjOk P w H h a (.dK b)from RZ c e
def S8{b:ϊ<|Key×V}(c:HOk P w H h)(e:H a=!(.dK b)):↑b<=sizeLine/\(a==sysModules)=false/\∃vs,KV b vs/\h.DictOf (bw P w) a vs:=kj c<|.inl e
theorem jo(i:HOk P w H h)(e:H a=!(.tup<|c.map kV)):(tupleKind<|bw P w).is h c a:=by
 let#[_,b,r,o,d,f,n,g]:=(show ObjOk P w H h a (.tup<|c.map kV)from i a _ e);show#[o,b.toArray,n,d,f,g,by simpa using rH r]
theorem rJ(c:HOk P w H h)(e:Rd H a<|.dT kvs):↑kvs<=sizeLine/\(a==sysModules)=false/\
  ∃xs,KT H kvs xs/\h.DictOfH (tupleKind<|bw P w) a xs:=by
 let#[z,y,xs,r,o,f,d,g,i,j,k,n]:=(show ObjOk P w H h a (.dT kvs)from RZ c e);show#[z,y,xs,r,o,f,d,g,i,j,k,λx hx=>?_,n];have b:∀{l:ϊ<|ϊ Key×V}{m:ϊ<|ϊ Key×ό×ϋ},KT H l m->∀x∈m,(tupleKind<|bw P w).is h x.1 x.2.1:=by
  intro l m q;induction q with
  |nil=>intro x hx;show nomatch hx
  |@cons p q ps qs hq t ih=>
   intro x hx;rcases Æ.mp hx with e|hx
   .subst e;show jo c<|by rw[<-hq.1];show hq.2.1
   .show ih x hx
 show b r x hx
def rK(b:HOk P w H h)(e:H a=!(.dT kvs)):↑kvs<=sizeLine/\(a==sysModules)=false/\
  ∃xs,KT H kvs xs/\h.DictOfH (tupleKind<|bw P w) a xs:=rJ b<|.inl e
end
def DGet(H:Hp)(a:ό)(y:V)(r:ύ V):Prop:=
 (∃kvs k,Rd H a (.dK kvs)/\y=kV k/\r=bh kvs k)\/∃kvs k b,Rd H a (.dT kvs)/\y=.ref b/\H b=!(.tup<|k.map kV)/\r=bh kvs k
def DPut(H:Hp)(a:ό)(y v:V)(H':Hp):Prop:=
 (∃kvs k,H a=!(.dK kvs)/\y=kV k/\↑kvs<sizeLine/\H'=upd H a (.dK (putK kvs k v)))\/
 ∃kvs k b,H a=!(.dT kvs)/\y=.ref b/\H b=!(.tup (k.map kV))/\↑kvs<sizeLine/\H'=upd H a (.dT (putK kvs k v))
theorem DGet.k{H:Hp}{a:ό}{b:ϊ<|Key×V}{k:Key}(e:H a=!(.dK b)):DGet H a (kV k) (bh b k):=.inl #[b,k,.inl e,rfl,rfl]
def DGet.t{k:ϊ Key}(e:H a=!(.dT kvs))(c:H b=!(.tup<|k.map kV)):DGet H a (.ref b) (bh kvs k):=.inr #[kvs,k,b,.inl e,rfl,c,rfl]
theorem DPut.k{H:Hp}{a:ό}{b:ϊ<|Key×V}{k:Key}{v:V}(e:H a=!(.dK b))(c:↑b<sizeLine):DPut H a (kV k) v (upd H a<|.dK<|putK b k v):=.inl #[b,k,e,rfl,c,rfl]
def DPut.t{k:ϊ Key}{v:V}(e:H a=!(.dT kvs))(c:H b=!(.tup<|k.map kV))(d:↑kvs<sizeLine):
  DPut H a (.ref b) v (upd H a<|.dT<|putK kvs k v):=.inr #[kvs,k,b,e,rfl,c,d,rfl]
section
variable{X:Cx}
theorem Inv.big(I:Inv X gE σ H s):sysModules<s.heap.objs.size:=by
 have h:mainGlobals<s.heap.objs.size:=(I.mod.glob.keeps I.bk).lt;show Υ (by decide) h
theorem Gy(t:A.units+1<cLine)(I:Inv X gE σ H s)(g:DGet H a y !v)(n:RelV y u)(h:∀f s',Inv X gE σ H s'->RelV v f->Q f s'):
  wpAny (model X.prog X.w) A (getItem (.ref a) u) Q E s:=by
 rcases g with⟨kvs,k,e,ey,l⟩|⟨kvs,k,b,e,ey,eb,l⟩
 .subst ey;let#[z,q,w,c,i]:=kj I.hok e;let#[f,m,d]:=RelO.some_of (v:=v) (o:=valueAt w k) (by rw[l];show c.val k);show wpAny_getItem_of (rG n) i.mapOf m<|h f _ (I.tok _) d
 .subst ey
  cases(show u=Value.ref b from n);let#[z,q,x,c,i]:=rJ I.hok e;let#[f,m,d]:=RelO.some_of (v:=v) (o:=(atKey x k).map (·.2)) (by rw[l];show c.val k);let#[p,r,j]:=Î.mp m;show wpAny_getItem_heap (œ t) (jo I.hok eb) i r ?_;rw[j];show h f _ (I.tok _) d
theorem a1o(j:A.units+1<cLine)(I:Inv X gE σ H s)(g:DGet H a y o)(i:RelV y u)(h:∀s',Inv X gE σ H s'->Q (.bool o.isSome) s'):
  wpAny (model X.prog X.w) A (compareOp .In u<|.ref a) Q E s:=by
 rcases g with⟨kvs,k,e,ey,l⟩|⟨kvs,k,b,e,ey,eb,l⟩
 .subst ey;let#[z,f,m,c,d]:=kj I.hok e;show wpAny_in_of (rG i) f d.mapOf ?_;rw[<-(c.val k).isSome_eq,<-l];show h _<|I.tok _
 .subst ey
  cases(show u=Value.ref b from i);let#[z,f,n,c,d]:=rJ I.hok e;show wpAny_in_heap (œ j) (jo I.hok eb) f d ?_;have q:=(c.val k).isSome_eq;rw[ť]at q;rw[<-q,<-l];show h _<|I.tok _
theorem Pn(j:A.units+1<cLine)(I:Inv X gE σ H s)(g:DGet H a y o)(i:RelV y u)(h:∀s',Inv X gE σ H s'->Q (.bool<|not o.isSome) s'):
  wpAny (model X.prog X.w) A (compareOp .NotIn u<|.ref a) Q E s:=by
 rcases g with⟨kvs,k,e,ey,l⟩|⟨kvs,k,b,e,ey,eb,l⟩
 .subst ey;let#[z,f,m,c,d]:=kj I.hok e;show wpAny_notIn_of (rG i) f d.mapOf ?_;rw[<-(c.val k).isSome_eq,<-l];show h _<|I.tok _
 .subst ey
  cases(show u=Value.ref b from i);let#[z,f,n,c,d]:=rJ I.hok e;show wpAny_notIn_heap (œ j) (jo I.hok eb) f d ?_;have q:=(c.val k).isSome_eq;rw[ť]at q;rw[<-q,<-l];show h _<|I.tok _
theorem iM{i:Nat}(I:Inv X gE σ H s)(h:Yd<|H a)(g:Heap.SameBut a s.heap h')(f:∃q,h'.get? a=!q)(c:ObjOk X.prog X.w (upd H a ob) h' a ob):
  Inv X gE σ (upd H a ob) {s with heap:=h',toks:=i}:=
 I.write (x:=a) (e:=a) h (.inl rfl) (λb q d z=>(g.2 b d).trans z) f c
def Ja{b:ϊ<|Key×V}{d:ϊ<|Key×ϋ}(z:↑b<=sizeLine)(f:(a==sysModules)=false)(c:KV b d)(e:h'.DictOf (bw P w) a d):
  ObjOk P w H' h' a (.dK b):=#[z,f,d,c,e]
theorem GC{Q:Unit->ώ->Prop}(M:A.units+1<cLine)(I:Inv X gE σ H s)(g:DPut H a y v H')(B:RelV y u)(x:RelV v r)(h:∀s',Inv X gE σ H' s'->Q Unit.unit s'):
  wpAny (model X.prog X.w) A (setItem (.ref a) u r) Q E s:=by
 rcases g with⟨kvs,k,e,ey,l,eH⟩|⟨kvs,k,b,e,ey,eb,l,eH⟩
 .subst ey eH;let#[z,m,N,d,j]:=S8 I.hok e;have p:↑N<=sizeLine:=by rw[<-↑d];show z
  have n:↑(putK kvs k v)<=sizeLine:=by have:=jn kvs k v;rfl'
  show wpAny_setItem_pairs (hsz:=p) (rG B) j λw f o=>h _ ?_
  have L:∃q,w.get? a=!q:=let⟨q,_,_,i,_⟩:=f;#[q,i];show iM I (by rw[e];show True.intro) o L<|Ja n m (d.put k x) f
 .subst ey eH
  cases(show u=Value.ref b from B);let#[z,m,O,d,j]:=rK I.hok e;have p:↑O<=sizeLine:=by rw[<-ğ d];show z
  have n:↑(putK kvs k v)<=sizeLine:=by have:=jn kvs k v;rfl'
  show wpAny_setItem_heap (hsz:=p) (œ M) (jo I.hok eb) j λw f o=>h _ ?_
  let#[q,D,C,i,F,G,J,_,K]:=f;show iM I (by rw[e];show True.intro) o ⟨q,i⟩ ⟨n,m,_,(d.put k eb x).keeps λc P t=>?_,q,D,C,i,F,G,J,K⟩;rw[ao<|bC t e<|λz=>nomatch z];show t
end
def Ui(i:Expr):Prop:=∀ov iv,subscripted i false ov iv=operate [ov,iv] (getItem ov iv)
theorem Eo{b a:Expr}
  (k:typeLookup (.type T) "__getitem__"=pure !(.builtin m)) (l:Ui a)
  (h:wpAny (model prog w) A (eval b e) (λo s₁=>wpAny (model prog w) A (eval a e) (λi s₂=>s₂.TypeIs o T/\wpAny (model prog w) A (getItem o i) Q E s₂) E s₁) E s):
  wpAny (model prog w) A (eval (.Subscript b a pos) e) Q E s:=by
 show Subscript_<|Ċ h (λo s₁ f=>Ċ f (λi s₂ c=>?_) λ_ _ x=>x) λ_ _ x=>x;let#[j,c]:=c;unfold subscriptTail;show Qr ?_;rw[getitemInPython_of_ne j.not_modules];show Qr<|Α j k ?_;have fin:wpAny (model prog w) A (subscripted a false o i) (λr d=>wpAny (model prog w) A (letTemporaryGo b o r>>=λ_=>pure r) Q E d) E s₂:=by
  rw[l o i];show wpAny_operating<|Ċ c (λr d g=>Qr<|wpAny_letTemporaryGo<|Xs g) λ_ _ x=>x
 first
  |show Xs<|Qr fin
  |show Qr<|Xs<|Qr fin
  |show Qr fin
theorem w5{X:Cx}(I:Inv X gE σ H s)(g:DGet H a y o):s.TypeIs (.ref a) "dict":=by
 rcases g with⟨kvs,k,e,_,_⟩|⟨kvs,k,b,e,_,_,_⟩
 .obtain ⟨_,_,d,_,c⟩:=kj I.hok e;show c.typeIs
 .obtain ⟨_,_,f,_,c⟩:=rJ I.hok e;show c.typeIs
def gh(td ty:TE):TE:=λσ H Q=>td σ H λx H1=>ty σ H1 λy H2=>∃a v,x=.ref a/\DGet H2 a y !v/\Q v H2
def GD(ty td:TE):TE:=λσ H Q=>ty σ H λy H1=>td σ H1 λx H2=>∃a o,x=.ref a/\DGet H2 a y o/\Q (.bl o.isSome) H2
def jM(ty td:TE):TE:=λσ H Q=>ty σ H λy H1=>td σ H1 λx H2=>∃a o,x=.ref a/\DGet H2 a y o/\Q (.bl<|not o.isSome) H2
def jh(td ty tv:TE):TS:=λD σ H=>tv σ H λv H1=>td σ H1 λx H2=>ty σ H2 λy H3=>∃a H4,x=.ref a/\DPut H3 a y v H4/\D.nx σ H4
section
variable{X:Cx}
theorem d9(r:X.A.units+1<cLine)(p:PE X o td)(n:PE X i ty)(q:Ui i):PE X (.Subscript o i pos) (gh td ty):=by
 intro b s e H Q I h;show Eo PySem.F.slot_dict_getitem.lookup q<|bB (p b s e H _ I h) λu B ⟨x,f,k,z,t⟩=>bB (n b B e f _ k t) λC D ⟨y,j,d,A,a,v,m,g,w⟩=>?_;subst m;obtain rfl:u=Value.ref a:=z;show#[w5 d g,Gy r d g A λF E l c=>#[v,j,l,c,w]]
theorem tY(p:X.A.units+1<cLine)(m:PE X i ty)(n:PE X o td):PC X .In i o (GD ty td):=by
 intro b s c H Q I h;show bB (m b s c H _ I h) λz w ⟨y,d,f,v,q⟩=>bB (n b w c d _ f q) λu A ⟨x,e,j,t,a,ov,l,g,r⟩=>?_
 subst l;obtain rfl:u=Value.ref a:=t;show a1o p j g v λB k=>#[.bl ov.isSome,e,k,rfl,r]
theorem jN(p:X.A.units+1<cLine)(m:PE X i ty)(n:PE X o td):PC X .NotIn i o (jM ty td):=by
 intro b s c H Q I h;show bB (m b s c H _ I h) λz w ⟨y,d,f,v,q⟩=>bB (n b w c d _ f q) λu A ⟨x,e,j,t,a,ov,l,g,r⟩=>?_
 subst l;obtain rfl:u=Value.ref a:=t;show Pn p j g v λB k=>#[.bl<|not ov.isSome,e,k,rfl,r]
theorem f9(w:X.A.units+1<cLine)(q:PE X o td)(p:PE X i ty)(z:PE X value tv)(t:swapsWith value (!(.Subscript o i pos')) pos.line X.env=pure false):
  PS X (.Assign [.Subscript o i pos'] value pos) (jh td ty tv):=by
 intro b s c H D I h;show wpAny_Assign_Subscript (bB (z b s c H _ I h) λr J ⟨v,d,j,E,A⟩=>bB (q b J c d _ j A) λu K ⟨x,e,k,F,B⟩=>bB (p b K c e _ k B) λM N ⟨y,L,l,G,a,f,n,g,C⟩=>?_) t;subst n;obtain rfl:u=Value.ref a:=F;show GC w l g G E λO m=>#[c,f,m,C]
end
def w6(h:ϒ)(a:sysModules<h.objs.size):ObjOk P w H (h.push {cls:=.type "dict",data:=.dict<|[].toArray}) h.objs.size (.dK []):=
 #[Nat.zero_le _,ŋ.mpr<|Ne.symm<|Ú a,[],.nil,Heap.DictOf.new h]
def wg(h:ϒ)(a:sysModules<h.objs.size):ObjOk P w H (h.push {cls:=.type "dict",data:=.dict<|[].toArray}) h.objs.size (.dT []):=
 #[Nat.zero_le _,ŋ.mpr<|Ne.symm<|Ú a,[],.nil,_,([].toArray),0,Å _ rfl,#[rfl,rfl,rfl],rfl,rfl,Μ]
def iQ:TE:=λ_ H Q=>∀p,H p=none->Q (.ref p) (upd H p<|.dK [])
def yM:TE:=λ_ H Q=>∀p,H p=none->Q (.ref p) (upd H p<|.dT [])
section
variable{X:Cx}
theorem gk:PE X (.Dict [] [] pos) iQ:=λb s c H Q I h=>
 wpAny_Dict_empty #[.ref s.heap.objs.size,_,I.laid (a:=s.heap.objs.size) (o:=.dK []) (t':=s.toks) (λ_ _ q=>Jn _ q) (Ã _)<|w6 s.heap I.big,rfl,h _<|I.hok.fresh<|Ã _]
theorem Jb:PE X (.Dict [] [] pos) yM:=λb s c H Q I h=>
 wpAny_Dict_empty #[.ref s.heap.objs.size,_,I.laid (a:=s.heap.objs.size) (o:=.dT []) (t':=s.toks) (λ_ _ q=>Jn _ q) (Ã _)<|wg s.heap I.big,rfl,h _<|I.hok.fresh<|Ã _]
end
def yN:ϊ (TE×TE)->St->Hp->(ϊ (V×V)->Hp->Prop)->Prop
 |[],_,H,Q=>Q [] H
 |(tk,tv)::r,σ,H,Q=>tk σ H λx H1=>tv σ H1 λy H2=>yN r σ H2 λps H3=>Q ((x,y)::ps) H3
abbrev VV:ϊ (V×V)->ϊ (ϋ×ϋ)->Prop:=Paired λp q=>RelV p.1 q.1/\RelV p.2 q.2
def PPs(X:Cx)(pos:Pos)(keys:ϊ<|ύ Expr)(values:ϊ Expr)(trs:ϊ<|TE×TE):Prop:=
 ∀(gE:Ϸ)(s:ώ)(σ:St)(H:Hp)(Q:ϊ (V×V)->Hp->Prop),Inv X gE σ H s->yN trs σ H Q->
  wpAny (model X.prog X.w) X.A (evalPairs<|pairTrees keys values X.env pos) (λvs s'=>∃ps H',Inv X gE σ H' s'/\VV ps vs/\Q ps H') X.xe s
theorem tZ{X:Cx}:PPs X pos [] [] []:=λa s b H Q I h=>pairTrees_nil_walk #[[],H,I,.nil,h]
theorem pD{X:Cx}{f:ϊ Expr}{d:TE}(o:PE X k d)(q:PE X v e)(p:PPs X pos ks f trs):
  PPs X pos (some k::ks) (v::f) ((d,e)::trs):=λa s c H Q I h=>
 pairTrees_cons_walk (bB (o a s c H _ I h) λu C ⟨x,g,l,A,t⟩=>bB (q a C c g _ l t) λF D ⟨y,i,m,B,w⟩=>
  bB (p a D c i _ m w) λG E ⟨r,j,n,b,z⟩=>#[(x,y)::r,j,n,.cons #[A,B] b,z])
def iU(kvs more:ϊ<|Key×V):ϊ (Key×V):=more.foldl (λacc kv=>putK acc kv.1 kv.2) kvs
theorem KV.merge:∀{a:ϊ<|Key×V}{rs:ϊ<|Key×ϋ}{kvs:ϊ<|Key×V}{vs:ϊ<|Key×ϋ},KV a rs->KV kvs vs->KV (iU kvs a) (merged vs rs):=by
 intro a rs kvs vs r;unfold KV at r;induction r generalizing kvs vs with
 |nil=>intro q;show q
 |@cons p q ps qs h t ih=>
  intro b;have e:KV (putK kvs p.1 p.2) (stored vs q.1 q.2):=by
   have:=b.put p.1 h.2;rw[<-h.1];show this
  show ih e
theorem km:∀(a kvs:ϊ<|Key×V),↑(iU kvs a)<=↑kvs+↑a
 |[],kvs=>by change↑kvs<=↑kvs+0;rfl'
 |p::r,kvs=>by
  have b:=km r<|putK kvs p.1 p.2;have c:=jn kvs p.1 p.2;change↑(iU (putK kvs p.1 p.2) r)<=_;rw[ê];rfl'
theorem pF{w:ϕ}:∀{kvs:ϊ<|Key×V}{e:ϊ<|ϋ×ϋ},VV (kvs.map λd=>(kV d.1,d.2)) e->∃rs,Carries (bw P w) e rs/\KV kvs rs
 |[],_,r=>by rw[ă]at r;cases r;show⟨[],True.intro,.nil⟩
 |p::kvs,_,r=>by
  rw[È]at r
  cases r with
  |@cons a b as bs h t=>
   let#[rs,c,q]:=pF (P:=P) (w:=w) t;let#[g,f]:=b;show#[(p.1,f)::rs,#[rG h.1,rfl,c],.cons #[rfl,h.2] q]
def Ep(trs:ϊ<|TE×TE):TE:=λσ H Q=>∀p,H p=none->yN trs σ (upd H p<|.dK []) λps H2=>H2 p=!(.dK [])/\∃kvs:ϊ<|Key×V,ps=kvs.map (λkv=>(kV kv.1,kv.2))/\↑kvs<=15/\Q (.ref p) (upd H2 p<|.dK<|iU [] kvs)
theorem Er{X:Cx}{b:ϊ<|ύ Expr}(h:PPs X pos b values trs)(f:b.all (·.isSome)=true)(y:↑b=↑values)(t:b≠[])
  (j:↑b<=15):PE X (.Dict b values pos) (Ep trs):=by
 intro i s K H Q I q;have A:=I.hok.fresh<|Ã s.heap.objs.size;have n:=I.laid (a:=s.heap.objs.size) (o:=.dK []) (h':=s.heap.push {cls:=.type "dict",data:=.dict<|[].toArray}) (t':=s.toks) (λ_ _ q=>Jn _ q) (Ã _)<|w6 s.heap I.big;show wpAny_Dict_walk (knd:=bw X.prog X.w) f y t j<|bB (h i _ K _ _ n<|q _ A) λO N ⟨M,L,l,k,e,g,r,lk,D⟩=>?_;subst r;let#[G,c,F]:=pF (P:=X.prog) (w:=X.w) k;let#[z,v,J,E,p]:=S8 l.hok e
 cases E;show#[G,c,p,λm d B=>#[.ref s.heap.objs.size,_,?_,rfl,D]];have C:↑(iU [] g)<=sizeLine:=by
  have u:=km g [];rw[ņ]at u;rw[õ];rfl'
 have x:∃q,m.get? s.heap.objs.size=!q:=let⟨q,_,_,hq,_⟩:=d;#[q,hq];show iM l (by rw[e];show True.intro) B x<|Ja C v (F.merge .nil) d
structure M1(X:Cx)(o:Expr)(m:ϐ)(apos:Pos)(e:Expr)(cpos:Pos):Prop where
 base:attributeBase o m X.env (eval o X.env)=eval o X.env
 few:((backTo cpos (starEach [e] X.env)).all (λx=>not x.1)&&(backToKw cpos (keywordEach [] X.env)).all (λx=>x.1.isSome)
  &&decide (↑([e]:ϊ Expr)+↑([]:ϊ Keyword)+(if([]:ϊ Keyword).isEmpty then 0 else 1)<30))=true
 line:(apos.endLine==cpos.line)=true
 trees:backTo cpos (starEach [e] X.env)=[(false,eval e X.env)]
structure M2(X:Cx)(o:Expr)(m:ϐ)(apos:Pos)(e f:Expr)(cpos:Pos):Prop where
 base:attributeBase o m X.env (eval o X.env)=eval o X.env
 few:((backTo cpos (starEach [e,f] X.env)).all (λx=>not x.1)&&(backToKw cpos (keywordEach [] X.env)).all (λx=>x.1.isSome)
  &&decide (↑([e,f]:ϊ Expr)+↑([]:ϊ Keyword)+(if([]:ϊ Keyword).isEmpty then 0 else 1)<30))=true
 line:(apos.endLine==cpos.line)=true
 trees:backTo cpos (starEach [e,f] X.env)=[(false,eval e X.env),(false,eval f X.env)]
def Yn(H:Hp)(a:ό):Prop:=(∃kvs,Rd H a<|.dK kvs)\/∃kvs,Rd H a<|.dT kvs
theorem yO{X:Cx}(I:Inv X gE σ H s)(d:Yn H a):
  s.TypeIs (.ref a) "dict"/\(∀b,Value.ref a=.ref b->∃ob,s.heap.get? b=!ob/\ob.dict=none)/\(a==sysModules)=false:=by
 rcases d with⟨kvs,e⟩|⟨kvs,e⟩
 .obtain ⟨_,h,i,_,c⟩:=kj I.hok e;show#[c.typeIs,λb q=>?_,h]
  cases q;let#[ob,_,_,f,g,_]:=c;show#[ob,f,g.2.1]
 .obtain ⟨_,h,j,_,c⟩:=rJ I.hok e;show#[c.typeIs,λb q=>?_,h]
  cases q;let#[ob,_,_,f,g,_]:=c;show#[ob,f,g.2.1]
end L2
set_option linter.all false
namespace Bm
variable{i n:Nat}
noncomputable def popF:Nat->Nat->Nat
 |0,_=>0
 |k+1,n=>n%2+popF k (n/2)
def pop(n:Nat):=popF n n
theorem popZ:∀k,popF k 0=0
 |0=>rfl
 |k+1=>(Nat.zero_add _).trans<|popZ k
theorem popK:∀{k j n:Nat},n<=k->n<=j->popF k n=popF j n
 |0,j,n,h,_=>by cases Nat.le_zero.mp h;exact (popZ j).symm
 |k+1,0,n,_,h=>by cases Nat.le_zero.mp h;exact popZ _
 |k+1,j+1,n,h,i=>congrArg (n%2+·)<|popK (k:=k) (j:=j) (by omega)<|by omega
def lH:pop 0=0:=rfl
theorem yP(n:Nat):pop n=n%2+pop (n/2):=by
 cases n with
 |zero=>rfl
 |succ n=>exact congrArg ((n+1)%2+·)<|popK (by omega)<|Nat.le_refl _
theorem u5(m:Nat):pop (2*m)=pop m:=by
 rw[yP,show 2*m%2=0 by rfl',show 2*m/2=m by rfl',ľ]
theorem Pq(m:Nat):pop (2*m+1)=pop m+1:=by
 rw[yP,show(2*m+1)%2=1 by rfl',show(2*m+1)/2=m by rfl',ō]
theorem Jc(a b:Nat):(2*a)&&&(2*b+1)=2*(a&&&b):=by
 apply Ł;intro i
 cases i with
 |zero=>simp[Ş]
 |succ i=>
  rw[Ş,Ľ,Ľ,Ľ,show 2*a/2=a by rfl',show(2*b+1)/2=b by rfl',show 2*(a&&&b)/2=(a&&&b)by rfl',Ş]
theorem Uj(a b:Nat):(2*a+1)&&&(2*b)=2*(a&&&b):=by rw[Nat.and_comm,Jc,Nat.and_comm]
theorem Pr(n:Nat)(h:0<n):pop (n&&&(n-1))+1=pop n:=by
 induction n using Nat.strongRecOn with
 |ind n ih=>
  rcases Ŕ n with e|e
  .obtain ⟨m,rfl⟩:∃m,n=2*m:=#[n/2,()];have q:=ih m () ();rw[show 2*m-1=2*(m-1)+1 by rfl',Jc,u5,u5];show q
  .obtain ⟨m,rfl⟩:∃m,n=2*m+1:=#[n/2,()];rw[show 2*m+1-1=2*m by rfl',Uj,Nat.and_self,u5,Pq]
def Uk(n:Nat)(h:0<n):n&&&(n-1)<n:=Ý Nat.and_le_right ()
theorem wj:∀(k n:Nat),n<2^k->↑((List.range k).filter λi=>n.testBit i)=pop n
 |0,n,h=>by
  have e:n=0:=by simpa using h
  subst e;simp[lH]
 |k+1,n,h=>by
  have q:=wj k (n/2) (by rw[Nat.pow_succ]at h;rfl');rw[List.range_succ_eq_map,yP n,<-q,ů];have e:((List.range k).map Nat.succ).filter (λi=>n.testBit i)=((List.range k).filter λi=>(n/2).testBit i).map Nat.succ:=by
   rw[List.filter_map];congr 1;apply List.filter_congr;intro x _;simp[Function.comp,Ľ]
  rw[e];rcases Ŕ n with z|z
  .have t:n.testBit 0=false:=by simp[Nat.testBit_zero,z]
   simp[t,z]
  .have t:n.testBit 0=true:=by simp[Nat.testBit_zero,z]
   simp[t,z];rfl'
theorem Jd(a b:Nat):(a^^^b)/2=(a/2)^^^(b/2):=by
 apply Ł;intro i;simp[<-Ľ,ş]
theorem fQ(x:Nat):x%2=(x.testBit 0).toNat:=by
 rcases Ŕ x with h|h<;>simp[Nat.testBit_zero,h]
noncomputable def bits(k n:Nat):ϊ Nat:=(List.range k).filter λi=>n.testBit i
theorem wk{k:Nat}:i∈bits k n↔i<k/\n.testBit i=true:=by simp[bits]
theorem u6{k:Nat}(h:n<2^k)(a:n.testBit i=true):i<k:=by
 apply Decidable.byContradiction;intro z;have q:n.testBit i=false:=Nat.testBit_lt_two_pow<|Ó h<|Ν () ();rw[q]at a;cases a
theorem GF{j k:Nat}(h:n<2^j)(c:j<=k):bits k n=bits j n:=by
 unfold bits;let#[d,rfl]:∃d,k=j+d:=#[k-j,()];rw[List.range_add,ŕ];have e:((List.range d).map λx=>j+x).filter (λi=>n.testBit i)=[]:=by
  rw[List.filter_eq_nil_iff];intro a b;let#[x,_,rfl]:=Zp.mp b;intro z;have:=u6 h z;rfl'
 rw[e,í]
end Bm
set_option linter.all false
namespace Bx
open PySem
def iV(m n:Nat):Builtin.bitAnd (m:Int) (n:Int)=((m&&&n:Nat):Int):=by
 rw[PyProof.Rows.bitAnd_pp () ()];simp
def Je(m n:Nat):(m|||n)+(m&&&n)=m+n:=by
 induction m using Nat.strongRecOn generalizing n with
 |ind m ih=>
  by_cases a:m=0
  .subst a;simp
  .have q:=ih (m/2) ()<|n/2;have b:(m|||n)/2=(m/2)|||(n/2):=by
    apply Ł;intro i;simp[<-Ľ,Nat.testBit_or]
   have c:(m&&&n)/2=(m/2)&&&(n/2):=by
    apply Ł;intro i;simp[<-Ľ,Ş]
   have d:(m|||n)%2+(m&&&n)%2=m%2+n%2:=by
    rw[Bm.fQ<|m|||n,Bm.fQ<|m&&&n,Bm.fQ m,Bm.fQ n,Nat.testBit_or,Ş]
    cases m.testBit 0<;>cases n.testBit 0<;>rfl
   rfl'
def GJ(m n:Nat):Builtin.bitOr (m:Int) (n:Int)=((m|||n:Nat):Int):=by
 rw[PyProof.Rows.bitOr_and,iV];have:=Je m n;rfl'
def Pu(m n:Nat):(m^^^n)+2*(m&&&n)=m+n:=by
 induction m using Nat.strongRecOn generalizing n with
 |ind m ih=>
  by_cases a:m=0
  .subst a;simp
  .have q:=ih (m/2) ()<|n/2;have b:=Bm.Jd m n;have c:(m&&&n)/2=(m/2)&&&(n/2):=by
    apply Ł;intro i;simp[<-Ľ,Ş]
   have d:(m^^^n)%2+2*((m&&&n)%2)=m%2+n%2:=by
    rw[Bm.fQ<|m^^^n,Bm.fQ<|m&&&n,Bm.fQ m,Bm.fQ n,ş,Ş]
    cases m.testBit 0<;>cases n.testBit 0<;>rfl
   rfl'
def iW(m n:Nat):Builtin.bitXor (m:Int) (n:Int)=((m^^^n:Nat):Int):=by
 unfold Builtin.bitXor;rw[GJ,iV];have a:=Je m n;have b:=Pu m n;rfl'
def ie(k:Nat):((2^k:Nat):Int)=(2:Int)^k:=by simp
def Px(n k:Nat):(n:Int)/2^k=((n/2^k:Nat):Int):=by
 rw[<-ie];rfl
def u9(n k:Nat):Builtin.bitAnd ((n:Int)/2^k) 1=(((n.testBit k).toNat:Nat):Int):=by
 rw[Px,show(1:Int)=((1:Nat):Int)from rfl,iV,Nat.and_one_is_mod,Bm.fQ];rw[show(n/2^k).testBit 0=n.testBit k by rw[Nat.testBit_div_two_pow];simp]
end Bx
section
namespace L2
open PySem PySem.Spec PyProof.Rows
variable{H:Hp}{n:Nat}{x:ϐ}{env:Env}{h':ϒ}{pos:Pos}{tg:Expr}{w:ϕ}{C a p:ό}{N':ϊ ϐ}{ch:ϊ ό}{ifs:ϊ Expr}{sc scope:Scope}{κ:ϊ (ύ Nat)}{m':ϐ->ύ ϋ}{gE:Ϸ}{E:϶}{RR:ϋ->ό->Result->ώ->Prop}
abbrev blk(X:Cx)(sc:Scope)(N':ϊ ϐ)(cl:ϊ<|ϐ×ό)(C:ό)(s:ώ)(H:Hp)(fp:ϊ ό)(gE:Ϸ):Cx where
 prog:=X.prog
 w:=X.w
 K:=X.K
 mg:=X.mg
 base:=X.base
 A:=X.A
 N:=N'
 s₀:=s
 H₀:=H
 env:=compEnvC sc cl C X.env
 outer:=X.stack
 stack:=X.stack
 ex:=fp
 fn:=λ_=>false
 calm:=X.calm
 pn:=X.pn++gE
 xe:=λ_ _=>False
structure CScope(esc sc:Scope):Prop where
 kind:sc.kind=.function
 nocell:∀y∈sc.names,y.2≠.cell
 locs:∀y∈sc.names,y.2=.local->sc.names.lookup y.1=!.local
 frees:∀y∈sc.names,y.2=.free->esc.names.lookup y.1=!.cell\/esc.names.lookup y.1=!.free
theorem mem_lookup{a:Type}{x:ϐ}{k:a}:∀{l:ϊ<|ϐ×a},l.lookup x=!k->(x,k)∈l
 |[],h=>by simp at h
 |(n,k')::r,h=>by
  rw[į]at h
  cases e:x==n with
  |true=>
   rw[e]at h;have b:x=n:=ρ e;injection h with h
   subst b;subst h;show Ì
  |false=>
   rw[e]at h;show Ç _<|mem_lookup h
theorem uc{env:Env}:∀(names:ϊ<|ϐ×NameKind)(cs:ϊ<|ϐ×ό),(∀y∈names,y.2=.free->∃c,env.cells.lookup y.1=!c)->(∀x c,cs.lookup x=!c->env.cells.lookup x=!c)->
  ∃cl:ϊ<|ϐ×ό,(forIn names cs λ(y:ϐ×NameKind) (r:ϊ<|ϐ×ό)=>(if(y.2==NameKind.free)=true then(cellOf env y.1>>=λc=>pure<|ForInStep.yield ((y.1,c)::r))else pure (ForInStep.yield r):Sem<|ForInStep<|ϊ<|ϐ×ό))=pure cl/\
   (∀x c,cl.lookup x=!c->env.cells.lookup x=!c)/\∀x c,env.cells.lookup x=!c->((x,NameKind.free)∈names\/cs.lookup x=!c)->cl.lookup x=!c
 |[],cs,_,hcs=>#[cs,rfl,hcs,λx c _ h=>h.elim (λz=>nomatch z) id]
 |(n,k) ::r,cs,hf,hcs=>by
  have f:∀y∈r,y.2=.free->∃c,env.cells.lookup y.1=!c:=λy s=>hf y<|Ç _ s
  by_cases o:k=.free
  .subst o;let#[c,l]:=hf (n,.free) Ì rfl;have q:cellOf env n=pure c:=by
    have m:env.cells.lookup n=!c:=l;unfold cellOf;rw[m]
   have d:∀x a,((n,c)::cs).lookup x=!a->env.cells.lookup x=!a:=λx a h=>by
    rw[į]at h
    cases e:x==n with
    |true=>
     rw[e]at h;injection h with h
     have b:x=n:=ρ e;subst b;subst h;show l
    |false=>rw[e]at h;show hcs x a h
   let#[cl,e,i,j]:=uc r ((n,c)::cs) f d;show#[cl,?_,i,λx a g hm=>j x a g ?_]
   .rw [ý];simp only[beq_self_eq_true,ĳ];rw[q];show e
   .rw [į]
    cases ex:x==n with
    |true=>
     right;have b:x=n:=ρ ex;subst b;show l.symm.trans g
    |false=>
     rcases hm with hm|hm
     .rcases Æ.mp hm with z|z
      .have b:x=n:=Ö Prod.fst z;subst b;rw[beq_self_eq_true]at ex
       cases ex
      .show .inl z
     .show .inr hm
  .obtain ⟨cl,e,i,j⟩:=uc r cs f hcs;have p:(k==NameKind.free)=false:=by
    cases k<;>first|rfl|show absurd rfl o
   show#[cl,?_,i,λx a g hm=>j x a g ?_]
   .rw [ý];simp only[p,Ù,Ĉ];show e
   .rcases hm with hm|hm
    .rcases Æ.mp hm with z|z
     .show absurd (Ö Prod.snd z).symm o
     .show .inl z
    .show .inr hm
theorem Es(f:∀y∈sc.names,y.2=.free->∃c,env.cells.lookup y.1=!c):
  ∃cl:ϊ<|ϐ×ό,closureFor sc env=pure cl/\(∀x c,cl.lookup x=!c->env.cells.lookup x=!c)/\∀x c,env.cells.lookup x=!c->(x,NameKind.free)∈sc.names->cl.lookup x=!c:=by
 let#[cl,e,b,d]:=uc (env:=env) sc.names [] f (λx c h=>by simp at h);show#[cl,?_,b,λx c i g=>d x c i<|.inl g];have q:closureFor sc env=((forIn sc.names [] λ(y:ϐ×NameKind) (r:ϊ<|ϐ×ό)=>(if(y.2==NameKind.free)=true then(cellOf env y.1>>=λc=>pure<|ForInStep.yield ((y.1,c)::r))else pure (ForInStep.yield r):Sem<|ForInStep<|ϊ<|ϐ×ό))>>=λa=>pure a):=by
  first
   |rfl
   |(unfold closureFor;congr 1)
 rw[q,e];rfl
theorem iY{env:Env}{x:ϐ}:∀{names:ϊ<|ϐ×NameKind},
  (names.map λ(n,k)=>if(k==NameKind.free&&env.scope.kind==.function&&env.kindOf n==!.cell)then(n,NameKind.cell)else(n,k)).lookup x=
   (names.lookup x).map λk=>if(k==NameKind.free&&env.scope.kind==.function&&env.kindOf x==!.cell)then NameKind.cell else k
 |[]=>rfl
 |(n,k) ::r=>by
  have c:=iY (env:=env) (x:=x) (names:=r);change List.lookup x ((if(k==NameKind.free&&env.scope.kind==.function&&env.kindOf n==!.cell)=true then(n,NameKind.cell)else(n,k))::_)=_;rw[į (b:=k)]
  cases hx:x==n with
  |true=>
   have e:x=n:=ρ hx;subst e;by_cases a:(k==NameKind.free&&env.scope.kind==.function&&env.kindOf x==!.cell)=true
   .rw [if_pos a,į,hx];change some NameKind.cell=!(if(k==NameKind.free&&env.scope.kind==.function&&env.kindOf x==!.cell)=true then NameKind.cell else k);rw[if_pos a]
   .rw [if_neg a,į,hx];change some k=!(if(k==NameKind.free&&env.scope.kind==.function&&env.kindOf x==!.cell)=true then NameKind.cell else k);rw[if_neg a]
  |false=>
   by_cases a:(k==NameKind.free&&env.scope.kind==.function&&env.kindOf n==!.cell)=true
   .rw [if_pos a,į,hx];show c
   .rw [if_neg a,į,hx];show c
theorem CScope.free_of(S:CScope esc sc)(h:(relabel sc env).names.lookup x=!.cell\/(relabel sc env).names.lookup x=!.free):(x,NameKind.free)∈sc.names:=by
 have q:(relabel sc env).names.lookup x=_:=iY (env:=env) (x:=x) (names:=sc.names);rw[q]at h
 cases e:sc.names.lookup x with
 |none=>rw[e]at h;simp at h
 |some k=>
  have a:=mem_lookup e;have b:=S.nocell _ a
  cases k with
  |free=>show a
  |cell=>show absurd rfl b
  |_=>rw[e]at h;simp at h
theorem CScope.cell_of(S:CScope esc sc)(a:env.scope=esc)(b:env.scope.kind=.function)(h:sc.names.lookup x=!.free):(relabel sc env).names.lookup x=!.cell\/(relabel sc env).names.lookup x=!.free:=by
 have q:(relabel sc env).names.lookup x=_:=iY (env:=env) (x:=x) (names:=sc.names);rw[q,h];simp only[Ŝ];split
 .show .inl rfl
 .show .inr rfl
noncomputable def cap(κ:ϊ<|ύ Nat)(σ:St):St:=κ.map λo=>o.bind λi=>(σ[i]?).join
noncomputable def capOk(κ:ϊ<|ύ Nat)(N' N:ϊ ϐ)(sc:Scope):ϑ:=
 decide (↑κ=↑N')&&(κ.zip N').all λp=>match p.1 with
  |none=>true
  |some i=>N[i]? ==some p.2&&sc.names.lookup p.2==!.free
theorem capOk.len(h:capOk κ N' N sc=true):↑κ=↑N':=by
 unfold capOk at h;rw[ā]at h;show ô h.1
theorem capOk.at(h:capOk b c N f=true){j:Nat}(g:c[j]?=!y)(a:(cap b d)[j]?=!(!v)):
  ∃i:Nat,N[i]?=!y/\d[i]?=!(!v)/\f.names.lookup y=!.free:=by
 unfold capOk at h;rw[ā,Φ]at h;unfold cap at a;rw[À]at a
 cases e:b[j]?with
 |none=>rw[e]at a;simp at a
 |some o=>
  rw[e]at a;simp only[Ŝ,Option.some.injEq]at a
  cases o with
  |none=>simp at a
  |some i=>
   have k:(!i,y)∈b.zip c:=Wp (i:=j) (by rw[List.getElem?_zip_eq_some];show#[e,g]);have q:=h.2 _ k;simp only[ā,beq_iff_eq]at q;show#[i,q.1,?_,q.2];simp only[Option.bind_some]at a
   cases r:d[i]?with
   |none=>rw[r]at a;simp at a
   |some z=>rw[r]at a;simp at a;rw[a]
def pG(a b:St):Prop:=↑b=↑a/\∀(i:Nat) v,a[i]?=!(!v)->b[i]?=!(!v)
def Jf(X:Cx)(ifs:ϊ Expr)(t:TT):Prop:=
 ∀(gE:Ϸ)(s:ώ)(σ:St)(H:Hp)(Q:ϑ->Hp->Prop),Inv X gE σ H s->t σ H Q->
  wpAny (model X.prog X.w) X.A (forIn ifs true λc r=>if r=true then do let ok<-isTrue c X.env<|eval c X.env;pure (ForInStep.yield ok)else pure<|ForInStep.yield r) (TP X gE σ Q) X.xe s
def du:TT:=λ_ H Q=>Q true H
theorem bT{X:Cx}:Jf X [] du:=λa s b H Q I h=>wpAny_tests_nil #[H,I,h]
theorem jO{X:Cx}(h:PT X c t):Jf X [c] t:=λa s b H Q I q=>wpAny_tests_one<|h a s b H Q I q
section
theorem ud{a:Expr}{C l:ϋ}(I:Nat->ώ->Prop)
  (B:∀n s,I n s->wpAny (model prog w) A (pyNext C) (λr s₁=>match r with
   |none=>R (.ok .next) s₁
   |some v=>wpAny (model prog w) A (letOwnedTupleGo a C v) (λ_ d=>wpAny (model prog w) A (assign a env v) (λ_ s₂=>
     wpAny (model prog w) A (forIn ifs true λc r=>if r=true then do let ok<-isTrue c env<|eval c env;pure (ForInStep.yield ok)else pure<|ForInStep.yield r) (λok e=>
      if ok=true then wpAny (model prog w) A (eval o env) (λx j=>
       wpAny (model prog w) A (call (.builtin "list.append") [l,x]) (λ_ k=>∃m,m<n/\I m k) (λ_ _=>False) j) (λ_ _=>False) e
      else ∃m,m<n/\I m e) (λ_ _=>False) s₂) (λ_ _=>False) d) (λ_ _=>False) s₁) (λ_ _=>False) s)
  (n:Nat) (h:I n s):
  codeAny (model prog w) A (.compLoop (.ListComp o [#[a,i,ifs,0]] scope pos) 0 C l env) R s:=by
 show codeAny_loop rfl I (λn s D=>?_) n h;change wpAny _ A ((compTurn (.ListComp o [#[a,i,ifs,0]] scope pos) 0 C l env).onRaise<|λx=>do noteFrame x env;theTreesLotGoes x) _ _ s;show wpAny_noted ?_;rw[compTurn_list];show Ċ (E:=λ_ _=>False) ?_ (λ_ _ q=>q)<|λ_ _ z=>z.elim;show Qr<|wpAny_standAt<|Qr<|Ċ (B n s D) (λr s₁ f=>?_) λ_ _ b=>b
 cases r with
 |none=>show Xs f
 |some v=>
  show Qr<|Ċ f (λ_ d p=>?_) λ_ _ b=>b;show Qr<|Ċ p (λ_ s₂ t=>Qr<|Ċ t (λok e g=>?_) λ_ _ b=>b) λ_ _ b=>b
  cases ok with
  |false=>show Xs #[rfl,g]
  |true=>
   show Qr<|Qr<|Ċ g (λx j u=>Qr<|Ċ u (λ_ k y=>Xs<|Xs #[rfl,y]) λ_ _ b=>b) λ_ _ b=>b
end
theorem HOk.track(x:HOk P w H h)(g:H a=none)(d:ObjOk P w (upd H a o) h a o):HOk P w (upd H a o) h:=λb u e=>by
 by_cases f:b=a
 .subst f;rw[aa]at e;cases e;show d
 .rw [ao f]at e;show(x b u e).stay (λc v _ q=>q) (λc q=>by rw[ao<|aN q g];show q) λc i q=>by rw[ao<|aN q g];show q
section
variable{X:Cx}{gE:Ϸ}{σ:St}{H2:Hp}{s₂:ώ}{tg iter elt:Expr}{ifs:ϊ Expr}{sc:Scope}{pos:Pos}{N':ϊ ϐ}{κ:ϊ (ύ Nat)}{cl:ϊ (ϐ×ό)}{it:ό}{fp:ϊ ό}{tn:Nat->ϒ->Prop}{J:It}{g:TG}{tc:TT}{te:TE}
theorem Ul(I:Inv X gE σ H2 s₂)(g:∀b∈fp,oZ X gE H2 b)(j:∀b∈fp,b<s₂.heap.objs.size)(S:CScope X.env.scope sc)
  (a:∀x c,cl.lookup x=!c->X.env.cells.lookup x=!c) (f:∀x c,X.env.cells.lookup x=!c->(x,NameKind.free)∈sc.names->cl.lookup x=!c) (i:s₂.heap.objs.size<=C):
  (blk X sc N' cl C s₂ H2 fp gE).Ok where
 mod:=I.mod
 kind:=S.kind
 glob:=I.ok.glob
 blt:=I.ok.blt
 above:=i
 inj:=λx y c k l=>I.ok.inj x y c (a _ _ k)<|a _ _ l
 has:=λx h=>by
  have e:=S.free_of (env:=X.env) h;let#[c,m]:=I.ok.has x<|S.frees _ e rfl;show#[c,f x c m e]
 cab:=λx c h _=>by cases h
 hd:=I.ok.hd
 frames:=I.ok.frames
 stk:=.inl rfl
 exf:=λb d=>#[Nat.ne_of_lt<|Ó (j b d) i,λx c n=>(g b d).2.2.2.2.1 x c<|a x c n]
 bs:=I.bs
 bsz:=Ð I.ok.bsz I.sz
 noex:=λb o d e=>by
  let#[_,_,_,h4,_]:=g b e;rcases h4 with h4|h4
  .show I.ok.noex b o d h4
  .show absurd (É (I.ok.bs b o d).1)<|Nat.not_lt.mpr h4
 exfs:=λb d e=>by
  rcases Æ.mp (I.stkSub b e)with z|z
  .show (g b d).2.1 z
  .show (g b d).2.2.1 z
 funs:=I.stack
 frf:=I.stkFree
theorem Py(I:Inv X gE σ H2 s₂)(D:∀b∈fp,oZ X gE H2 b)(E:∀b∈fp,b<s₂.heap.objs.size)(S:CScope X.env.scope sc)(f:capOk κ N' X.N sc=true)
  (a:∀x c,cl.lookup x=!c->X.env.cells.lookup x=!c) (g:∀x c,X.env.cells.lookup x=!c->(x,NameKind.free)∈sc.names->cl.lookup x=!c) (k:s₂.heap.objs.size<=C)
  {T:Nat} (M:h'.Ns C m') (d:∀b o,s₂.heap.get? b=!o->h'.get? b=!o):
  Inv (blk X sc N' cl C s₂ H2 fp gE) [] (cap κ σ) H2 {s₂ with heap:=h',toks:=T} where
 ok:=Ul I D E S a g k
 os:=rfl
 bare:=I.bare
 base:=Un.kept d
 loc:=⟨m',M,λj y v Q P A=>by
  let#[i,K,O,t]:=capOk.at f Q P;have w:=mem_lookup t;have h:=S.frees _ w rfl;let#[m,_,L]:=I.loc;let#[u,R,lk]:=L i y v K O<|.inr h;show#[u,R,.inr #[S.cell_of (env:=X.env) rfl I.ok.kind t,?_]];rcases lk with⟨hk,_⟩|⟨_,c,hc,hu⟩
  .have l:X.env.scope.names.lookup y=!.local:=hk;rcases h with z|z<;>(have B:X.env.scope.names.lookup y=_:=z;rw[l]at B;cases B)
  .obtain ⟨o,e,r⟩:=hu;show⟨c,g y c hc w,o,d _ _ e,r⟩⟩
 cell:=λx c q=>by
  let#[v,o,e,r]:=I.cell x c<|a x c q;show#[v,o,d _ _ e,r]
 free:=I.hok.fresh k
 freeC:=λx c q=>I.freeC x c<|a x c q
 pin:=λp N=>by
  have n:p∈X.pn++gE:=by simpa using N
  let#[s,F,G,H,J]:=I.pin p n;show#[d _ _ s,F,Ú<|Ó (É s) k,λz=>?_,J];rcases Æ.mp (I.stkSub p.1 z)with y|y
  .show G y
  .show H y
 hok:=I.hok.kept d
 len:=by
  change↑(cap κ σ)=↑N';unfold cap;rw[Qb];show capOk.len f
structure Left(X:Cx)(gE:Ϸ)(σ:St)(C:ό)(H:Hp)(s:ώ):Prop where
 inv:Inv X gE σ H s
 ns:∃m,s.heap.Ns C m
 un:H C=none
 nl:C≠X.env.locals
 nf:C∉X.fs
 ab:X.s₀.heap.objs.size<=C
 nc:∀x c,X.env.cells.lookup x=!c->c≠C
 np:∀p∈X.pn++gE,p.1≠C
theorem Left.go(l:Left X gE σ C H s)(c:Heap.SameBut C s.heap h'):Inv X gE σ H {s with heap:=h'}:=
 l.inv.turned (t':=s.toks) (λb o a e=>c.extBut b o a e) l.un l.nl (.inr l.ab) l.nc l.np
theorem Et(hc:X.calm=true)(I:Inv X gE σ H2 s₂)(T:Turn X.prog X.w X.K tg J fp it tn)(st:tn 0 s₂.heap)(G:∀b∈fp,oZ X gE H2 b)
  (S:CScope X.env.scope sc) (am:capOk κ N' X.N sc=true) (w:∀x c,cl.lookup x=!c->X.env.cells.lookup x=!c) (ap:∀x c,X.env.cells.lookup x=!c->(x,NameKind.free)∈sc.names->cl.lookup x=!c)
  (hg:∀C,PG (blk X sc N' cl C s₂ H2 fp gE) tg g) (hi:∀C,Jf (blk X sc N' cl C s₂ H2 fp gE) ifs tc) (he:∀C,PE (blk X sc N' cl C s₂ H2 fp gE) elt te)
  {W:Nat->Nat->ϊ V->Hp->Prop} {Q:VK} {m0:Nat} (w0:W 0 m0 [] H2)
  (ay:∀i m ys H,W i m ys H->(J.stop i H/\∀p,H p=none->Q (.ref p) (upd H p (.lst ys)))\/
   (J.go i H/\↑ys<sizeLine/\∃N:ϊ V->Hp->Prop,(∀a1 H',N a1 H'->∃m',m'<m/\W (i+1) m' a1 H')/\∀x H',J.yld i H x H'->g x (cap κ σ) H' λag H2=>pG (cap κ σ) ag/\tc ag H2 λb B=>if b=true then te ag B λy H4=>N (ys++[y]) H4 else N ys B))
  (a7:∀D C H' s1,Left X gE σ C H' s1->Q (.ref D) H'->RR (.ref D) C (.ok .next) s1):
  wpAny (model X.prog X.w) X.A (newList []) (λai t=>wpAny (model X.prog X.w) X.A (newFunctionEnv sc X.env.globals cl [] X.env.qual none .none !X.env) (λR ax=>
   codeAny (model X.prog X.w) X.A (.compStart (.ListComp elt [#[tg,iter,ifs,0]] sc pos) 0 (.ref it) ai {R with scope:=relabel sc X.env}) (RR ai R.locals) ax) E t) E s₂:=by
 show ç (wpAny_newFunctionEnv S.nocell (by intro y hy;simp at hy) (λs k h=>?_) S.kind);dsimp only at k h⊢;generalize hH2:s₂.heap.push {cls:=.type "list",dict:=none,data:=.seq ([]:ϊ ϋ).toArray}=P2 at k h⊢;have K:P2.objs.size=s₂.heap.objs.size+1:=by rw[<-hH2,Ĩ]
 generalize hCe:P2.objs.size=C at k h K⊢;generalize hDe:s₂.heap.objs.size=D at K⊢;have L:D≠C:=by rw[K];show Ú (Ĳ _)
 have hC:s₂.heap.objs.size<=C:=by rw[hDe,K];show Nat.le_succ _
 have hD:s₂.heap.objs.size<=D:=by rw[hDe];show Ã _
 have a:∀b,b<s₂.heap.objs.size->b≠C/\b≠D:=λb j=>#[Nat.ne_of_lt (Ó j hC),Ú (Ó j hD)]
 have as:∀b o,s₂.heap.get? b=!o->s.get? b=!o:=λb o e=>h.extBut b o (a b (É e)).1 (Jn _ (hH2▸Jn _ e))
 have al:s.get? D=!{cls:=.type "list",data:=.seq ([]:ϊ ϋ).toArray ↑([]:ϊ ϋ)}:=by
  have q:P2.get? s₂.heap.objs.size=!{cls:=.type "list",data:=.seq ([]:ϊ ϋ).toArray 0}:=hH2▸Å _ rfl;rw[hDe]at q;show h.extBut _ _ L (Jn _ q)
 have fl:∀b∈fp,b<s₂.heap.objs.size:=λb j=>by
  let#[o,e,_]:=T.obj 0 _ st b j;show É e
 have A:tn 0 s:=T.keep 0 _ _ st λb _ o e=>as b o e
 have IB:∀tk,Inv (blk X sc N' cl C s₂ H2 fp gE) [] (cap κ σ) H2 {s₂ with heap:=s,toks:=tk}:=λtk=>Py I G fl S am w ap hC k as
 have ac:∀x c,cl.lookup x=!c->c<s₂.heap.objs.size:=λx c M=>by
  let#[v,o,e,_]:=I.cell x c (w x c M);show É e
 have Z:∀p∈X.pn++gE,p.1<s₂.heap.objs.size:=λp l=>É (I.pin p l).1
 have ab:∀{H':Hp}{pl:Ϸ},(∀b∈fp,H' b=none)->(∀p∈pl,p.1=D)->∀b∈fp,oZ (blk X sc N' cl C s₂ H2 fp gE) pl H' b:=λ{H' pl} hn be b j=>by
  show#[hn b j,(a b (fl b j)).1,λz=>?_,.inl j,λx c M=>(G b j).2.2.2.2.1 x c (w x c M),λp l=>?_]
  .rcases Æ.mp (I.stkSub b z)with z|z
   .show (G b j).2.1 z
   .show (G b j).2.2.1 z
  .rcases Ê.mp l with z|z
   .show (G b j).2.2.2.2.2 p z
   .rw [be p z];show Ne.symm (a b (fl b j)).2
 have av:∀{s':ώ}{af:St}{H':Hp}{o:Obj},Inv (blk X sc N' cl C s₂ H2 fp gE) [] af H' s'->s'.heap.get? D=!o->H' D=none->(∀v,o.data≠.cell v)->Inv (blk X sc N' cl C s₂ H2 fp gE) [(D,o)] af H' s':=λ{s' af H' o} I' e n d=>
  I'.pins_of λp l=>by
   rw[Zs.mp l];show#[e,n,L,λz=>?_,d];have z':D<s₂.heap.objs.size:=by
    rcases Æ.mp (I.stkSub D z)with y|y
    .have y':D=X.env.locals:=y;rw[y'];show I.lt
    .show absurd y (I.nofs hD)
   show absurd z' (Nat.not_lt.mpr hD)
 have Y:∀t:ώ,t= {s₂ with heap:= s,toks:= s₂.toks + ↑([] :ϊ (ϐ×ϋ))} ->
   codeAny (model X.prog X.w) X.A (.compLoop (.ListComp elt [#[tg,iter,ifs,0]] sc pos) 0 (.ref it) (.ref D) (compEnvC sc cl C X.env)) (RR (.ref D) C) t:=by
  rintro t rfl;show ud (λn s'=>∃(i:Nat)(ys:ϊ V)(f:ϊ ϋ)(H':Hp),Inv (blk X sc N' cl C s₂ H2 fp gE) [] (cap κ σ) H' s'/\tn i s'.heap/\(∀b∈fp,H' b=none)/\
   s'.heap.get? D=!{cls:=.type "list",data:=.seq f.toArray ↑f}/\Vals ys f/\H' D=none/\↑ys<=sizeLine/\W i n ys H') ?_ m0
   #[0,[],[],H2,IB _,A,λb j=>(G b j).1,al,.nil,I.hok.fresh hD,â _,w0]
  rintro n s3 ⟨i,ys,f,B,I3,aw,a5,d3,v3,n3,z3,w3⟩;have ah:=av I3 d3 n3 (by intro v z;cases z);have ff:=ab (pl:=[(D,({cls:=.type "list",data:=.seq f.toArray ↑f}:Obj))]) a5 (λp l=>by rw[Zs.mp l]);rcases ay i n ys B w3 with⟨stop,qn⟩|⟨go,hlt,N,hN,step⟩
  .show bB (T.done (blk X sc N' cl C s₂ H2 fp gE) rfl rfl rfl hc i _ s3 (cap κ σ) B _ ah ff aw stop) λr s4 ⟨hr,I4⟩=>?_
   subst hr;change RR (.ref D) C (.ok .next) s4;let#[dD,nD,_]:=I4.pin (D,_) (ß _ Ì);have nC:B C=none:=I4.free;have O:=I4.base;have bb:HOk X.prog X.w (upd B D (.lst ys)) s4.heap:=HOk.track I4.hok nD #[z3,f,↑f,v3,dD];have un:Un (frs X.stack) fp H2 (upd B D (.lst ys)) s₂.heap s4.heap:=
    ⟨O.keep,O.slot,λb o q n M=>by rw[ao (a b (É q)).2];show O.free b o q n M,O.there,
     λb xs q=>by rw[ao (aN (O.tups b xs q) nD)];show O.tups b xs q,
     λb o x q=>by rw[ao (aN (O.frzs b o x q) nD)];show O.frzs b o x q,
     λb ps q=>by
      let#[m1,e1]:=O.tbls b ps q;show⟨m1,by rw[ao (aN e1 nD)];show e1⟩⟩
   have IX:Inv X gE σ (upd B D (.lst ys)) s4:=I.call' (by show I4.os) un bb I4.bare λb j=>#[(G b j).2.2.2.1,(G b j).2.1,(G b j).2.2.2.2]
   let#[m4,a9,_]:=I4.loc;show a7 D C _ s4 #[IX,#[m4,a9],by rw[ao (Ne.symm L)];show nC,Ne.symm (a _ I.lt).1,I.nofs hC,Ð I.sz hC,λx c M=>?_,λp l=>(a _ (Z p l)).1] (qn D nD);let#[v,o,e,_]:=I.cell x c M;show(a c (É e)).1
  .show bB (T.item (blk X sc N' cl C s₂ H2 fp gE) rfl rfl rfl hc i _ s3 (cap κ σ) B _ ah ff aw go) λr s4 ⟨u,hr,h4⟩=>?_
   subst hr;show bB h4 λ_ s5 ⟨x,H5,I5,r5,y5,ae,a6⟩=>?_
   have a4:=ab (pl:=[(D,({cls:=.type "list",data:=.seq f.toArray ↑f}:Obj))]) a6 (λp l=>by rw[Zs.mp l]);have a3:=I5.pinned a4 (T.obj _ _ ae);show bB (hg C _ s5 (cap κ σ) H5 x u _ a3 r5 (step x H5 y5)) λ_ s6 ⟨P,H6,I6,F,q6⟩=>?_
   show bB (hi C _ s6 P H6 _ I6 q6) λok s7 ⟨H7,I7,q7⟩=>?_
   have U:∀{a2:St}{H8:Hp}{s8:ώ},Inv (blk X sc N' cl C s₂ H2 fp gE) ([(D,({cls:=.type "list",data:=.seq f.toArray ↑f}:Obj))]++p7 fp s5.heap) a2 H8 s8->
     tn (i+1) s8.heap/\(∀b∈fp,H8 b=none)/\s8.heap.get? D=!{cls:=.type "list",data:=.seq f.toArray ↑f}/\H8 D=none:=λ{a2 H8 s8} I8=>by
    show#[T.keep _ _ _ ae λb j o e=>(I8.pin (b,o) (ß _ (ß _ (iI j e)))).1,λb j=>?_,?_]
    .obtain ⟨o,e,d⟩:=T.obj _ _ ae b j;show(I8.pin (b,o) (ß _ (ß _ (iI j e)))).2.1
    .obtain ⟨e,n,_⟩:=I8.pin (D,_) (ß _ (é _ Ì));show#[e,n]
   cases ok with
   |false=>
    have ad:N ys H7:=by simpa using q7
    let#[m',hm,w7]:=hN _ _ ad;let#[t8,f8,d8,n8]:=U I7;change ∃m,m<n/\_;show#[m',hm,i+1,ys,f,H7,(I7.pins_of (pins':=[]) (λp l=>nomatch l)).weak F.1.symm F.2,t8,f8,d8,v3,n8,z3,w7]
   |true=>
    have ad:te P H7 λy H4=>N (ys++[y]) H4:=by simpa using q7
    change wpAny _ _ (eval elt (compEnvC sc cl C X.env)) _ _ s7;show bB (he C _ s7 P H7 _ I7 ad) λv s8 ⟨y,H8,I8,r8,q8⟩=>?_
    let#[m',hm,w8]:=hN _ _ q8;let#[t8,f8,d8,n8]:=U I8;show append_at (hsz:=by rw[Õ,<-↑v3];show z3) d8 λh9 ar a8=>?_
    have I9:Inv (blk X sc N' cl C s₂ H2 fp gE) [] P H8 {s8 with heap:=h9,toks:=s8.toks}:=by
     show(I8.pins_of (pins':=[]) (λp l=>nomatch l)).turned (λb o j e=>ar.extBut b o j e) n8 L (.inr hD) (λx c M=>(a c (ac x c M)).2) λp l=>?_
     have bd:p∈X.pn++gE:=by simpa using l
     show(a _ (Z p bd)).2
    show#[m',hm,i+1,ys++[y],f++[v],H8,I9.weak F.1.symm F.2,T.keep _ _ _ t8 λb j o e=>ar.extBut b o (a b (fl b j)).2 e,f8,?_,Vals.append v3 (.cons r8 .nil),n8,?_,w8]
    .show h9.get? D=_;rw[a8];simp
    .rw [Ë,à];show hlt
 show codeAny_compStart_list (Y _ rfl) (T.self X.A 0 _ _ _ A (Y _ rfl))
def m6(κ:ϊ (ύ Nat))(wi:TI)(g:TG)(tc:TT)(te:TE):TE:=λσ H Q=>wi σ H λJ H1=>∃W:Nat->Nat->ϊ V->Hp->Prop,(∃m,W 0 m [] H1)/\∀i m ys H,W i m ys H->
 (J.stop i H/\∀p,H p=none->Q (.ref p) (upd H p (.lst ys)))\/
 (J.go i H/\↑ys<sizeLine/\∃N:ϊ V->Hp->Prop,(∀ys' H',N ys' H'->∃m',m'<m/\W (i+1) m' ys' H')/\∀x H',J.yld i H x H'->g x (cap κ σ) H' λσ2 H2=>pG (cap κ σ) σ2/\tc σ2 H2 λb H3=>if b=true then te σ2 H3 λy H4=>N (ys++[y]) H4 else N ys H3)
theorem Yo(r:ϊ<|ύ Nat)(i:ϊ ϐ)(B:X.calm=true)(k:PI X tg iter wi)(S:CScope X.env.scope sc)(b:capOk r i X.N sc=true)
  (G:∀cl C s H fp gE,PG (blk X sc i cl C s H fp gE) tg g) (K:∀cl C s H fp gE,Jf (blk X sc i cl C s H fp gE) ifs tc) (E:∀cl C s H fp gE,PE (blk X sc i cl C s H fp gE) elt te)
  (M:∀x,foldedSetIterable iter X.env x=pure x:=by intro _;rfl):PE X (.ListComp elt [#[tg,iter,ifs,0]] sc pos) (m6 r wi g tc te):=by
 intro gE s U H Q I h;let#[cl,a,c,d]:=Es (sc:=sc) (env:=X.env) λy N F=>I.ok.has y.1<|S.frees y N F
 rw[eval_ListComp];show wpAny_comprehension_free (use:=none) rfl M a S.kind S.locs<|bB (k gE s U H _ I h) λv P z=>bB z λO o A=>?_;let#[Z,fp,tn,J,j,e,u,T,p,w,W,#[m0,R],f]:=A;subst e;show Et B u T p w S b c d (λC=>G cl C o j fp gE) (λC=>K cl C o j fp gE) (λC=>E cl C o j fp gE) R f λD C t P l q=>?_
 let#[m,L]:=l.ns;show#[m,L,λY n=>#[V.ref D,t,l.go n,rfl,q]]
theorem Eu{i:Nat}{p:Pos}(R:ϊ<|ύ Nat)(t:ϊ ϐ)(hc:X.calm=true)(hN:X.N.Nodup)(E:X.N[i]?=!x)(n:X.env.scope.names.lookup x=!.local)
  (B:PI X tg iter wi) (S:CScope X.env.scope sc) (f:capOk R t X.N sc=true)
  (hg:∀cl C s H fp gE,PG (blk X sc t cl C s H fp gE) tg g) (hi:∀cl C s H fp gE,Jf (blk X sc t cl C s H fp gE) ifs tc) (he:∀cl C s H fp gE,PE (blk X sc t cl C s H fp gE) elt te)
  (K:swapsWith (.ListComp elt [#[tg,iter,ifs,0]] sc pos) (!(.Name x p)) c.line X.env=pure true:=by rfl)
  (hs:∀x,foldedSetIterable iter X.env x=pure x:=by intro _;rfl):PS X (.Assign [.Name x p] (.ListComp elt [#[tg,iter,ifs,0]] sc pos) c) (aL (m6 R wi g tc te)<|ak i):=by
 intro gE s N H D I h;let#[cl,d,j,k]:=Es (sc:=sc) (env:=X.env) λy hy hf=>I.ok.has y.1<|S.frees y hy hf
 rw[exec_Assign_Name_used _ _ _ _ K];show Qr<|wpAny_standAt<|Qr ?_;change wpAny _ X.A (do let _<-comprehension (.ListComp elt [⟨tg,iter,ifs,0⟩] sc pos) sc X.env _ (newList []) false (eval iter X.env) !(assign (.Name x p) X.env)) _ _ s;show Qr (Ċ (wpAny_comprehension_free (use:=!(assign (.Name x p) X.env)) (Q:=λ_ O=>SP X gE D .next O) rfl hs d S.kind S.locs
  (bB (B gE s N H _ I h) λv s1 h1=>bB h1 λab L h2=>?_)) (λ_ O hq=>Xs<|Xs hq) λ_ _ e=>e)
 let#[it,fp,tn,J,w,e,Z,T,M,f2,W,#[m0,w0],r]:=h2;subst e;show Et (Q:=λy Y=>ak i y N Y D.nx) hc Z T M f2 S f j k (λC=>hg cl C L w fp gE) (λC=>hi cl C L w fp gE) (λC=>he cl C L w fp gE) w0 r λu C U s1 l q=>?_
 change wpAny _ X.A (assign (.Name x p) X.env<|.ref u) _ _ _;show wpAny_assign_Name<|qT l.inv hN E (.inl n) (v:=.ref u) rfl (λP I3 ⟨a,G,ha⟩=>?_)<|.inr n;let#[m,hn]:=l.ns;have A:C≠a:=by
  rcases ha with z|z
  .rw [z];show l.nl
  .show Ne.symm<|l.nc x a z
 show#[m,hn.sameBut G A,λh' F=>?_];have I4:Inv X gE (N.set i !(.ref u)) U {P with heap:=h'}:=I3.turned (t':=P.toks) (λb o hb e=>F.extBut b o hb e) l.un l.nl (.inr l.ab) l.nc l.np;show#[_,_,I4,q]
end
section
variable{κ:ϊ (ύ Nat)}{g:TG}{tc:TT}{te:TE}{σ:St}{H:Hp}{Q:VK}
theorem Jg{lo:Int}(d:Nat->ϊ V->Hp->Prop)(k:d 0 [] H)(o:n<=sizeLine)(r:∀i ys H,d i ys H->↑ys<=i)
  (q:∀i ys H,i<n->d i ys H->g (.int (lo+i)) (cap κ σ) H λa H2=>pG (cap κ σ) a/\tc a H2 λb h=>if b=true then te a h λy j=>d (i+1) (ys++[y]) j else d (i+1) ys h)
  (l:∀ys H,d n ys H->∀p,H p=none->Q (.ref p) (upd H p (.lst ys))):
  ∃W:Nat->Nat->ϊ V->Hp->Prop,(∃m,W 0 m [] H)/\∀i m ys H,W i m ys H->
   ((yq lo n).stop i H/\∀p,H p=none->Q (.ref p) (upd H p (.lst ys)))\/
   ((yq lo n).go i H/\↑ys<sizeLine/\∃N:ϊ V->Hp->Prop,(∀f H',N f H'->∃m',m'<m/\W (i+1) m' f H')/\∀x H',(yq lo n).yld i H x H'->g x (cap κ σ) H' λa H2=>pG (cap κ σ) a/\tc a H2 λb h=>if b=true then te a h λy j=>N (ys++[y]) j else N ys h):=by
 show#[λi m ys H=>m=n-i/\i<=n/\d i ys H,#[n,by simp,â _,k],?_];rintro i m ys H ⟨rfl,t,p⟩;by_cases c:i<n
 .show .inr #[c,Ó (Ý (r _ _ _ p) c) o,d (i+1),λf H' s=>#[n-(i+1),(),rfl,c,s],λx H' y=>?_];let#[e,y]:=y;subst e y;show q i ys _ c p
 .have e:i=n:=()
  subst e;show .inl #[Nat.le_refl _,l ys H p]
theorem PB{K:Ϗ}{xs:ϊ V}(d:Nat->ϊ V->Hp->Prop)(l:d 0 [] H)(s:↑xs<=sizeLine)(r:∀i ys H,i<=↑xs->d i ys H->SqL K H a xs)(u:∀i ys H,d i ys H->↑ys<=i)
  (t:∀i x ys H,xs[i]?=!x->d i ys H->g x (cap κ σ) H λc H2=>pG (cap κ σ) c/\tc c H2 λb j=>if b=true then te c j λy k=>d (i+1) (ys++[y]) k else d (i+1) ys j)
  (n:∀ys H,d ↑xs ys H->∀p,H p=none->Q (.ref p) (upd H p (.lst ys))):
  ∃W:Nat->Nat->ϊ V->Hp->Prop,(∃m,W 0 m [] H)/\∀i m ys H,W i m ys H->
   ((Ou K a).stop i H/\∀p,H p=none->Q (.ref p) (upd H p (.lst ys)))\/
   ((Ou K a).go i H/\↑ys<sizeLine/\∃N:ϊ V->Hp->Prop,(∀h H',N h H'->∃m',m'<m/\W (i+1) m' h H')/\∀x H',(Ou K a).yld i H x H'->g x (cap κ σ) H' λc H2=>pG (cap κ σ) c/\tc c H2 λb j=>if b=true then te c j λy k=>N (ys++[y]) k else N ys j):=by
 show#[λi m ys H=>m=↑xs-i/\i<=↑xs/\d i ys H,#[↑xs,by simp,â _,l],?_];rintro i m ys H ⟨rfl,o,p⟩;have q:=r i ys H o p;by_cases f:i<↑xs
 .show .inr #[#[xs,xs[i],q,by simp[f]],Ó (Ý (u _ _ _ p) f) s,d (i+1),λh H' v=>#[xs.length-(i+1),(),rfl,f,v],λx H' y=>?_];let#[e,y]:=y;subst e;show t i x ys _ (y xs q) p
 .have e:i=↑xs:=()
  subst e;show .inl #[#[xs,q,Ã _],n ys H p]
end
mutual
inductive Dp(K:Ϗ)(H:Hp):V->PyData->Prop where
 |non:Dp K H .non .none
 |bl (b:ϑ):Dp K H (.bl b) (.bool b)
 |int (i:Int):Dp K H (.int i) (.int i)
 |str (x:ϐ):Dp K H (.str x) (.str x)
 |lst {a:ό} {xs:ϊ V} {ds:ϊ PyData}:SqL K H a xs->DpAll K H xs ds->Dp K H (.ref a) (.list ds)
 |tup {a:ό} {xs:ϊ V} {ds:ϊ PyData}:SqT K H a xs->DpAll K H xs ds->Dp K H (.ref a) (.tuple ds)
inductive DpAll(K:Ϗ)(H:Hp):ϊ V->ϊ PyData->Prop where
 |nil:DpAll K H [] []
 |cons {x:V} {xs:ϊ V} {d:PyData} {ds:ϊ PyData}:Dp K H x d->DpAll K H xs ds->DpAll K H (x::xs) (d::ds)
end
theorem DpAll.ints{K:Ϗ}:∀ns:ϊ Int,DpAll K H (ns.map V.int)<|ns.map PyData.int
 |[]=>.nil
 |n::r=>.cons (.int n)<|DpAll.ints r
theorem Dp.ints{K:Ϗ}{b:ϊ Int}(h:SqL K H a<|b.map V.int):Dp K H (.ref a) (.list<|b.map PyData.int):=.lst h<|DpAll.ints b
section
variable{X:Cx}
mutual
theorem Dp.reads(I:Inv X gE σ H s):∀{x:V}{d:PyData}{u:ϋ},Dp X.K H x d->RelV x u->∃c,Reads s.heap u d c
 |_,_,_,.non,r=>by cases(show _=Value.none from r);show#[_,.none]
 |_,_,_,.bl b,r=>by cases(show _=Value.bool b from r);show#[_,.bool b]
 |_,_,_,.int i,r=>by let#[t,rfl]:=r;show#[_,.int i t]
 |_,_,_,.str x,r=>by let#[t,rfl]:=r;show#[_,.str x t]
 |_,_,_,.lst (a:=a) h hs,r=>by
  cases(show _=Value.ref a from r);let#[j,k,p,_]:=I.list h;let#[c,q]:=DpAll.reads I hs k;let#[o,n,e,f,_,g]:=p;show#[_,.list e f g<|by simpa using q]
 |_,_,_,.tup (a:=a) h hs,r=>by
  cases(show _=Value.ref a from r);let#[j,k,p,_]:=I.tuple h;let#[c,q]:=DpAll.reads I hs k;let#[o,e,f,n,g]:=p;show#[_,.tuple e f g<|by simpa using q]
theorem DpAll.reads(I:Inv X gE σ H s):∀{xs:ϊ V}{ds:ϊ PyData}{us:ϊ ϋ},DpAll X.K H xs ds->Vals xs us->∃a,ReadsAll s.heap us ds a
 |_,_,_,.nil,r=>by cases r;show#[_,.nil]
 |_,_,_,.cons h hs,r=>by
  cases r with
  |cons r rr=>
   let#[a,q]:=Dp.reads I h r;let#[b,p]:=DpAll.reads I hs rr;show#[_,.cons q p]
end
def rEqD(K:Ϗ):R2:=λx y H Q=>∃d e,Dp K H x d/\Dp K H y e/\SeqAt.shaped d=true/\SeqAt.shaped e=true/\Q (.bl<|PyData.eqv d e) H
def rNeD(K:Ϗ):R2:=λx y H Q=>∃d e,Dp K H x d/\Dp K H y e/\SeqAt.shaped d=true/\SeqAt.shaped e=true/\Q (.bl<|not (PyData.eqv d e)) H
theorem Um(i:X.A.units+64<cLine):jj X (compareOp .Eq) (rEqD X.K):=by
 intro a s p H x y v u Q I l m h;let#[d,e,b,c,f,g,q]:=h;let#[n,j]:=b.reads I l;let#[o,k]:=c.reads I m;show eq_dataH j k f g i #[.bl _,H,I,rfl,q]
theorem Uo(i:X.A.units+64<cLine):jj X (compareOp .NotEq) (rNeD X.K):=by
 intro a s p H x y v u Q I l m h;let#[d,e,b,c,f,g,q]:=h;let#[n,j]:=b.reads I l;let#[o,k]:=c.reads I m;show ne_dataH j k f g i #[.bl _,H,I,rfl,q]
end
theorem jq:∀ns ms:ϊ Int,PyData.eqvAll (ns.map PyData.int) (ms.map PyData.int)=decide (ns=ms)
 |[],[]=>by simp[PyData.eqvAll]
 |[],_::_=>by simp[PyData.eqvAll]
 |_::_,[]=>by simp[PyData.eqvAll]
 |n::r,m::q=>by
  simp only[È,PyData.eqvAll,PyData.eqv,jq r q];by_cases h:n=m<;>simp[h]
section
variable{X:Cx}
theorem wu:bY X (.builtin "isinstance") (λxs H Q=>∃T x t b,xs=[x,.ty T]/\TyOf X.K H x t/\PySem.W.kitOne X.K t (.type T)=!b/\Q (.bl b) H):=by
 intro c s k H xs j Q I f h;let#[T,x,t,b,rfl,ty,e,q]:=h;let#[u,i,rfl,d,a]:=f.two
 cases(show i=Value.type T from a);show Gn I d ty e λg=>#[.bl b,H,I.tok g,rfl,q]
def plainAttrs_int:PlainAttrs "int":=#[#["int.__getattribute__",PyProof.Rows.ga_int,PyProof.Rows.canon_ga_int],PyProof.Rows.no_getattr_int]
theorem rM:U8 X "int.bit_length" (λx xs H Q=>∃i,x=.int i/\xs=[]/\Q (.int<|Builtin.Int.intBits i) H):=by
 intro a s e H x xs v d Q I c b h;let#[i,rfl,rfl,q]:=h;let#[t,rfl]:=c
 cases b;show call_int_bit_length #[.int _,H,I.tok _,#[_,rfl],q]
theorem rN:jj X (compareOp .LtE) (λx y H Q=>∃i j,x=.str i/\y=.str j/\Q (.bl<|not (decide<|j.cps.toList<i.cps.toList)) H):=by
 intro a s e H x y v u Q I b c h;let#[i,j,rfl,rfl,q]:=h;let#[t,rfl]:=b;let#[d,rfl]:=c;show PySem.P.le_str<|b8 I q<|by simp
theorem Jh(i:X.calm=true):bY X (.builtin "sum") (λxs H Q=>∃(a:ό)(ns:ϊ Int),xs=[.ref a]/\SqL X.K H a (ns.map V.int)/\Q (.int ns.sum) H):=by
 intro f s w H xs v Q I m h;let#[a,ns,rfl,k,q]:=h;let#[u,rfl,l]:=m.one
 cases(show u=Value.ref a from l);let#[b,r,d,o]:=I.list k;have c:=intsAre_of r;let#[xs,e]:=c.allInts.items;rw[e]at d;show sum_intListG (I.ok.hd i) d.isList λn t p j=>?_
 have g:preSum (numAt xs) xs.size=ns.sum:=by
  rw[preSum_eq,è<|by simp,<-nums_intItems,<-e];change(numsOf b.toArray.toList).sum=_;rw[show b.toArray.toList=b from rfl,c.numsOf]
 rw[g];show#[.int _,H,I.kept j,#[_,rfl],q]
end
section
variable{X:Cx}
noncomputable def Its(x:ϐ):It:=#[λi _=>i<x.cps.size,λi H v H'=>H'=H/\∃c,x.cps[i]?=!c/\v=.str #[([c].toArray)],λi _=>i=x.cps.size]
theorem Ji{P:ϓ}{K:Ϗ}(x:ϐ)(t:Tok)(p:String)(a:ό)(N:["enumerate","zip","dict_itemiterator","dict_reverseitemiterator","odict_iterator","itertools.zip_longest","itertools.pairwise"].contains p=false)
  (W:∀A:ϖ,A.handled=none->Walks P w A a [a] [a] x.cps.size (SignAt x) (λi h=>h.IsStrIter a p x t i))
  (S:∀(A:ϖ)(i:Nat)(s:ώ)(Q:϶)(E:϶),s.heap.IsStrIter a p x t i->Q (.ref a) s->wpAny (model P w) A (pyIter<|.ref a) Q E s):
  Turn P w K tg (Its x) [a] a (λi h=>h.IsStrIter a p x t i)where
 mem:=by simp
 obj:=λi h f b j=>by
  have e:b=a:=by simpa using j
  subst e;let#[o,e,c,d]:=f;show#[o,e,λv z=>by rw[d]at z;cases z]
 keep:=λi h m f k=>by
  let#[o,e,r]:=f;show#[o,k a (by simp) o e,r]
 item:=by
  intro X G O F J i g s U H E I n f M;subst G O F;let#[q,y,Z,B,C,D]:=n a (by simp);show(W X.A<|I.ok.hd J).item i s _ _ M f λv m T hv l R=>?_
  let#[c,u,hx,rfl]:=hv;have Y:Inv X g U H {s with heap:=m,toks:=T}:=I.turned (λb o j e=>R b o (by simpa using j) e) q y B C D;let#[o,e,L,d]:=id l;show⟨_,rfl,p6 (s:={s with heap:=m,toks:=T}) e L d N ⟨.str ⟨([c].toArray)⟩,H,Y,⟨u,rfl⟩,⟨rfl,c,hx,rfl⟩,l,λb j=>(n b j).1⟩⟩
 done:=by
  intro X G O F J i g s U H E I n f M;subst G O F;let#[q,y,Z,B,C,D]:=n a (by simp);have e:i=x.cps.size:=M;subst e;show(W X.A<|I.ok.hd J).done s _ _ f λm T R=>#[rfl,I.turned (λb o j e=>R b o (by simpa using j) e) q y B C D]
 self:=λA i s Q E f h=>S A i s Q E f h
def GK(tl:TE):TI:=λσ H R=>tl σ H λx H1=>∃z,x=.str z/\R (Its z) H1
theorem ue(r:PE X l tl):PI X tg l (GK tl):=by
 intro c s k H R I h;show bB (r c s k H _ I h) λv a ⟨x,m,g,w,u⟩=>?_
 let#[z,e,q]:=u;subst e;let#[t,rfl]:=w;have fin:∀(d:String)(o:Obj),(["enumerate","zip","dict_itemiterator","dict_reverseitemiterator","odict_iterator","itertools.zip_longest","itertools.pairwise"].contains d=false)->
   (∀A:ϖ,A.handled=none->Walks X.prog X.w A a.heap.objs.size [a.heap.objs.size] [a.heap.objs.size] z.cps.size (SignAt z) (λi h=>h.IsStrIter a.heap.objs.size d z t i))->
   (∀(A:ϖ)(i:Nat)(s:ώ)(Q:϶)(E:϶),s.heap.IsStrIter a.heap.objs.size d z t i->Q (.ref a.heap.objs.size) s->wpAny (model X.prog X.w) A (pyIter<|.ref a.heap.objs.size) Q E s)->
   (a.heap.push o).IsStrIter a.heap.objs.size d z t 0->PIE X c k tg R (.ref a.heap.objs.size) {a with heap:=a.heap.push o}:=λd o n W S f=>by
  show#[a.heap.objs.size,[a.heap.objs.size],_,_,m,rfl,g.kept (t':=a.toks) λb o e=>Jn _ e,Ji z t d _ n W S,f,λb p=>?_,q];have e:b=a.heap.objs.size:=by simpa using p
  subst e;show g.fpOk (Ã _)<|g.hok.fresh<|Ã _
 cases ha:z.cps.all (·<128)
 .show wpAny_pyIter_wide ha (fin "str_iterator" _ (by decide) (λA j=>Walks.strWide j _ z t) (λA i s Q E f h=>wpAny_pyIter_striter_wide f h) #[_,Å _ rfl,rfl,rfl])
 .show wpAny_pyIter_ascii ha (fin "str_ascii_iterator" _ (by decide) (λA j=>Walks.strAscii j _ z t) (λA i s Q E f h=>wpAny_pyIter_striter_ascii f h) #[_,Å _ rfl,rfl,rfl])
end
structure ZipNe(z TI TO i1 i2:ό):Prop where
 TIz:TI≠z
 TOz:TO≠z
 i1z:i1≠z
 i2z:i2≠z
 TITO:TI≠TO
 TIi1:TI≠i1
 TIi2:TI≠i2
 TOi1:TO≠i1
 TOi2:TO≠i2
 i12:i1≠i2
theorem Inv.turnedAll{X:Cx}{h:St}{s:ώ}{t':Nat}(I:Inv X gE h H s)(k:∀b o,b∉ch->s.heap.get? b=!o->h'.get? b=!o)
  (d:∀b∈ch,oZ X gE H b):Inv X gE h H {s with heap:=h',toks:=t'}:=by
 have f:∀b u,H b=!u->b∉ch:=λb u e z=>by rw[(d b z).1]at e;cases e
 show I.step (g':=s.gens) (d':=s.drawn) (ch:=ch) (λb g=>?_) (λb o _ _ a e _=>k b o a e) (λb o _ _ a e _=>#[o.slots,k b o a e]) (λ_ _ _ _ n=>n)
  (λb o a e=>#[o,k b o a e]) (λ_ _ e=>e) (λ_ _ _ e=>e) (λb t e=>#[([].toArray),by rw[e];simp]) (λm l=>?_) (λb u e=>?_) I.bare
 .show #[(d b g).2.2.2.1,(d b g).2.1,(d b g).2.2.2.2.1,(d b g).2.2.2.2.2]
 .obtain ⟨o,j,i,p,r⟩:=l;show#[o,j,i,k _ o (λz=>(d _ z).2.1 rfl) p,r]
 .show (I.hok b u e).stay (λc v a q=>k c v ?_ q) (λ_ q=>q) λ_ _ q=>q
  rcases a with z|z
  .rw [z];show f b u e
  .show f c _ z
structure Cal(P:ϓ)(w:ϕ)(K:Ϗ)(mg:ϐ->ύ ϋ)(base:ϒ)(n:Nat)(x:ϐ)(ps:ϊ ϐ)(sp:Sp):Prop where
 ex:∃(f:ό)(fd:FuncData),FnOk P w K mg base J6 n f fd ps sp/\Binds K fd ps []/\W.keepIn K (.ref f)=true/\mg x=!(.ref f)
section
variable{X:Cx}{n k:Nat}{x:ϐ}{ps:ϊ ϐ}{sp:Sp}{p pos:Pos}{e:Expr}{es:ϊ Expr}{t:TA}
theorem Jj(c:Cal X.prog X.w X.K X.mg X.base n x ps sp)(m:Room k X.A)(j:n<=k)(i:Gl X x)(d:PA X (e::es) t)(a:(x==("__debug__":ϐ))=false:=by decide)
  (h:starEach (e::es) X.env=(false,eval e X.env)::starEach es X.env:=by rfl) (b:(backTo pos<|starEach es X.env).any (·.1)=false:=by rfl):
  PE X (.Call (.Name x p) (e::es) [] pos) (nH sp [] E0 t):=by
 let#[f,q,F,g,o,l]:=c.ex;show El F (m.mono j) i l o g .nil RX d a h b
end
def small(h:n<=1000):n<=sizeLine:=ì<|Gx h
theorem aq(h:H p=none)(o:HO):Same H (upd H p o):=λb u q=>by rw[ao<|aN q h];show q
def Same.get(e:Same H b)(h:H a=!o):b a=!o:=e a o h
def aF(h:H p=none)(q:H a=!o):upd H p b a=!o:=aq h b a o q
section
variable{X:Cx}(K:Ϗ)(hK:X.K=K)
include hK
theorem Jk:XR X (fu K):=hK▸Pb
theorem PJ:XR X (jV K):=hK▸U9
theorem jr:U6 X (vY K):=hK▸Ph
theorem iZ:jj X (compareOp .In) (Ub K false):=hK▸Gq
theorem PL(a:X.A.units+64<cLine):jj X (compareOp .Eq) (rEqD K):=hK▸Um a
theorem Ew(a:X.A.units+64<cLine):jj X (compareOp .NotEq) (rNeD K):=hK▸Uo a
def yQ(K:Ϗ):ϊ V->Hp->VK->Prop:=λxs H Q=>∃x n,xs=[x]/\Yl K x H n/\Q (.int n) H
theorem aB:bY X (.builtin "len") (yQ K):=by subst hK;show Iv
def j5(K:Ϗ):ϊ V->Hp->VK->Prop:=λxs H Q=>∃p ys,xs=[.ref p]/\(SqL K H p ys\/SqT K H p ys)/\∀l,H l=none->Q (.ref l) (upd H l<|.lst ys)
theorem fc:bY X (.type "list") (j5 K):=by subst hK;show tW
def ig(K:Ϗ):ϊ V->Hp->VK->Prop:=λxs H Q=>∃p ys,xs=[.ref p]/\((SqL K H p ys/\∀l,H l=none->Q (.ref l) (upd H l (.tup ys)))\/(SqT K H p ys/\Q (.ref p) H))
theorem dO:bY X (.type "tuple") (ig K):=by subst hK;show qM
def dF(K:Ϗ):ϊ V->Hp->VK->Prop:=λxs H Q=>∃T x t b,xs=[x,.ty T]/\TyOf K H x t/\PySem.W.kitOne K t (.type T)=!b/\Q (.bl b) H
theorem bI:bY X (.builtin "isinstance") (dF K):=by subst hK;show wu
def Uq(K:Ϗ):ϊ V->Hp->VK->Prop:=λxs H Q=>∃(a:ό)(ns:ϊ Int),xs=[.ref a]/\SqL K H a (ns.map V.int)/\Q (.int ns.sum) H
theorem GP(a:X.calm=true):bY X (.builtin "sum") (Uq K):=by subst hK;show Jh a
theorem aX(a:PE X l tl):PI X tg l (cB K tl):=hK▸Ov a
theorem fU(a:PE X l tl):PI X tg l (nY K tl):=hK▸TJ a
def fB(K:Ϗ)(ta:TE):TT:=λσ H Q=>ta σ H λx H'=>∃k,Gj K x H' k/\Q k H'
theorem aR{a:Expr}(d:PE X a c)(e:∀b,isTrue a X.env b=(do let v<-b;standAt a.pos;holding [v]<|truthy v)):PT X a (fB K c):=by subst hK;show Ir d e
theorem bU{a:ϊ Expr}{k:Nat}(c:X.calm=true)(h:Yg X a t)
  (d:↑(assignEach a X.env)=n:=by rfl) (b:(assignEach a X.env).findIdx? (·.1)=none:=by rfl):PG X (.Tuple a k pos) (gB K n t):=by subst hK;show TF c h d b
end
section
variable{X:Cx}(K:Ϗ)(hK:X.K=K){o e:Expr}{es:ϊ Expr}{to:TE}{t:TA}{name:ϐ}{apos cpos:Pos}{T id:String}{r:V->ϊ V->Hp->VK->Prop}
include hK
theorem uf(g:PlainAttrs T)(c:Slot T name id)(d:typeOf (.builtin id)=pure (.type "method_descriptor"))(e:U8 X id r)(f:PE X o to)(a:attributeBase o name X.env (eval o X.env)=eval o X.env:=by rfl)
  (b:(apos.endLine==cpos.line)=true:=by rfl):PE X (.Call (.Attribute o name apos) [] [] cpos) (Gr K T r to):=by subst hK;show Uc g c d e f a b
theorem kY(l:PlainAttrs T)(f:Slot T name id)(g:typeOf (.builtin id)=pure (.type "method_descriptor"))(i:U8 X id r)(j:PE X o to)(h:PA X (e::es) t)(b:attributeBase o name X.env (eval o X.env)=eval o X.env:=by rfl)
  (d:((backTo cpos (starEach (e::es) X.env)).all (λx=>not x.1)&&(backToKw cpos (keywordEach [] X.env)).all (λx=>x.1.isSome)&&decide (↑(e::es)+↑([]:ϊ Keyword)+(if([]:ϊ Keyword).isEmpty then 0 else 1)<30))=true:=by rfl)
  (c:(apos.endLine==cpos.line)=true:=by rfl) (k:starEach (e::es) X.env=(false,eval e X.env)::starEach es X.env:=by rfl) (a:(backTo cpos (starEach es X.env)).any (·.1)=false:=by rfl):
  PE X (.Call (.Attribute o name apos) (e::es) [] cpos) (rC K T r to t):=by subst hK;show Ym l f g i j h b d c k a
end
abbrev bN:R2:=tM λi j=>.int<|i+j
abbrev rO:R2:=tM λi j=>.int<|i-j
abbrev ik:R2:=rI CMul λi j=>.int<|i*j
abbrev pH:R2:=rI Yj λi j=>.int<|i/j
abbrev dh:R2:=rI (λ_ j=>0<j) λi j=>.int<|i%j
abbrev Jl:R2:=rI Yk λi j=>.int<|i*2^j.toNat
abbrev Jm:R2:=rI (λ_ j=>0<=j) λi j=>.int<|i/2^j.toNat
abbrev Ex:R2:=tM λi j=>.int<|Builtin.bitAnd i j
abbrev Ey:R2:=tM λi j=>.int<|Builtin.bitXor i j
abbrev GQ:R2:=tM λi j=>.bl<|decide<|i<j
abbrev jW:R2:=tM λi j=>.bl<|decide<|i<=j
abbrev qN:R2:=tM λi j=>.bl<|decide<|j<i
abbrev Ur:R2:=tM λi j=>.bl<|decide<|j<=i
abbrev eX:R2:=λx y H Q=>∃i j,x=.str i/\y=.str j/\↑i+↑j<=sizeLine/\Q (.str<|i++j) H
abbrev Jo:R2:=λx y H Q=>∃i j,x=.str i/\y=.str j/\Q (.bl<|decide<|i.cps.toList<j.cps.toList) H
abbrev pI:R2:=λx y H Q=>∃i j,x=.str i/\y=.str j/\Q (.bl<|not (decide<|j.cps.toList<i.cps.toList)) H
abbrev kE:R2:=λx y H Q=>y=.non/\Q (.bl<|decide<|x=.non) H
abbrev Jp:R2:=λx y H Q=>y=.non/\Q (.bl<|not (decide<|x=.non)) H
abbrev rP:V->Hp->VK->Prop:=rU λi=>.int<|-i
abbrev pJ:V->ϊ V->Hp->VK->Prop:=λx xs H Q=>∃i,x=.int i/\xs=[]/\Q (.int<|Builtin.Int.intBits i) H
abbrev S9:ϊ V->Hp->VK->Prop:=λxs H Q=>∃x,xs=[.str x]/\↑x=1/\Q (.int (x.cps.getD 0 0:Nat)) H
abbrev Jq:ϊ V->Hp->VK->Prop:=λxs H Q=>∃i j,xs=[.int i,.int j]/\Q (.int<|if j<i then j else i) H
abbrev Ez:XN:=ipI λi j=>i+j
end L2
end
section
namespace L2
open PySem PySem.Spec PySem.Calls PyProof.Rows PySem.W PySem.Builtin PySem.Builtin.ObjectAttr PySem.Builtin.Getset_descriptor
structure ExcK(K:Ϗ)(C:ό):Prop where
 ex:PySem.W.excIn K C [.type "ValueError",.type "Exception",.type "BaseException",.type "object"] "ValueError.__new__"=true
 ga:findIn K (.ref C) "__getattribute__"=!(!(.builtin "BaseException.__getattribute__"))
 gt:findIn K (.ref C) "__getattr__"=!none
 cl:findIn K (.ref C) "__class__"=!(!(.builtin "object.__class__"))
 ge:specialIn K (.builtin "object.__class__") "__get__"=!(!(.builtin "getset_descriptor.__get__"))
 tk:takesIn K (.builtin "object.__class__")=!true
 mo:mroIn K C (.type "object")=!true
 mb:subIn K (.ref C) (.type "BaseException")=!true
end L2
end
section
namespace L2
open PySem PySem.Spec PyProof.Rows
theorem kZ:∀{ys:ϊ ϐ}{us:ϊ ϋ},Vals (ys.map V.str) us->StrsAre us ys
 |[],_,r=>by cases r;show .nil
 |y::ys,_,r=>by
  cases r with
  |cons r rr=>
   let#[t,rfl]:=r;show .cons y t<|kZ rr
def rJoin(K:Ϗ):V->ϊ V->Hp->VK->Prop:=λx vs H Q=>∃(s:ϐ)(a:ό)(ys:ϊ ϐ),x=.str s/\vs=[.ref a]/\SqL K H a (ys.map V.str)/\(ys.map (·.length)).sum+↑ys*↑s<=16777216/\Q (.str<|Txt.join s ys) H
def yR:V->ύ Int->ύ Int->Hp->VK->Prop:=λx lo hi H Q=>∃s:ϐ,x=.str s/\↑s<=sizeLine/\Q (.str<|Txt.slice s lo hi) H
section
variable{X:Cx}
theorem PN:U8 X "str.join" (rJoin X.K):=by
 intro c s w H x o v n Q I j i h;let#[z,a,p,rfl,rfl,e,b,q]:=h;let#[t,rfl]:=j;let#[u,rfl,g]:=i.one
 cases(show u=Value.ref a from g);let#[f,r,d,m]:=I.list e;show join_list d.isList (kZ r) b λl k=>#[.str _,H,I.tok k,#[l,rfl],q]
def Jr(K:Ϗ)(a:X.K=K):U8 X "str.join" (rJoin K):=a▸PN
theorem pK:U6 X yR:=by
 intro a s w H x v y A lo m d Q I p b o c h;let#[z,rfl,n,q]:=h;let#[t,rfl]:=p;have fin:∀(l u:ύ<|Int×Tok),l.map (·.1)=lo->u.map (·.1)=m->s.heap.IsSlice d l u none->wpAny (model X.prog X.w) X.A (getItem (.str z t)<|.ref d) (EP X a w Q) X.xe s:=by
  intro l u e f g;show wpAny_getItem_str_slice (l:=l) (u:=u) (st:=none) g rfl ?_;subst e f;show post_val_or_str #[Nat.le_trans (Txt.slice_le z _ _) n,λr k=>#[.str _,H,I.tok k,#[r,rfl],q]]
 show#["str",_,F.slot_str_getitem.lookup,typeIs_str _ _ _,?_]
 cases o with
 |none=>
  cases c with
  |none=>show fin none none rfl rfl b
  |int j u=>show fin none (!(j,u)) rfl rfl b
 |int i u=>
  cases c with
  |none=>show fin (!(i,u)) none rfl rfl b
  |int j u'=>show fin (!(i,u)) (!(j,u')) rfl rfl b
end
def Ite(K:Ϗ)(a:ό):It:=
 ⟨λi H=>∃xs x,SqL K H a xs/\xs[i]?=!x,
  λi H v H'=>∃p x,H p=none/\v=.ref p/\H'=upd H p (.tup [.int (i:Int),x])/\∀xs,SqL K H a xs->xs[i]?=!x,
  λi H=>∃xs,SqL K H a xs/\↑xs<=i⟩
structure EnSt(e it a:ό)(i:Nat)(h:ϒ):Prop where
 he:∃old,IsEnum h e it (i:Int) old
 h1:h.IsListIter it a i
theorem GR{P:ϓ}{K:Ϗ}{k:Nat}{e F:ό}(a:ό)(D:e≠F):
  Turn P w K (.Tuple elts k tpos) (Ite K a) [e,F] e (EnSt e F a)where
 mem:=by simp
 obj:=λi h y c G=>by
  let#[#[l,j],#[o1,J,c1,d1]]:=y;simp only[Æ,á,ĕ]at G;rcases G with rfl|rfl
  .show #[_,j,λv z=>by cases z]
  .show #[o1,J,λv z=>by rw[d1]at z;cases z]
 keep:=λi h h' y t=>by
  let#[#[l,j],C]:=y;show#[#[l,t e (by simp) _ j],C.at λo e=>t F (by simp) o e]
 item:=by
  intro X M S L G i m s Z H E I B y N;subst M S L;let#[xs,x,r,A]:=N;let#[U,Y,p,T]:=I.list r;let#[u,hu,ru]:=Y.get A;let#[#[l,j],C]:=id y;show wpAny_pyNext_enum_item (x:=u) j C p.isList (by simpa using hu) D λh' a1 a2 a3 a4 a5=>?_
  show#[_,rfl,wpAny_letOwnedTupleGo_enum a1 λg b1 R=>?_];have hT:s.heap.objs.size≠e:=ě<|É j;have t:∀c o,c∉[e,F]->s.heap.get? c=!o->g.get? c=!o:=λc o d q=>by
   simp only[Æ,á,ĕ,not_or]at d;show R.extBut _ _ d.1<|a5 c o d.1 d.2 q
  have I1:Inv X m Z H {s with heap:=g,toks:=s.toks+1}:=I.turnedAll t B;have f:H s.heap.objs.size=none:=I.hok.fresh<|Ã _;have e5:g.get? s.heap.objs.size=!{cls:=.type "tuple",data:=.seq<|[.int i s.toks,u].toArray}:=R.extBut _ _ hT a3;have un:Un (frs X.stack) [e,F] H (upd H s.heap.objs.size<|.tup [.int (i:Int),x]) s.heap g:=
   ⟨λb o q _ _ A=>t b o A q,λb o q _ _ A=>⟨o.slots,t b o A q⟩,λb o q n _=>by rw[ao<|Ú<|É q];show n,λb o q A=>⟨o,t b o A q⟩,
    λb xs q=>by rw[ao<|aN q f];show q,λb o x q=>by rw[ao<|aN q f];show q,λb ps q=>⟨([].toArray),by rw[ao<|aN q f,q];simp⟩⟩
  have Q:HOk X.prog X.w (upd H s.heap.objs.size<|.tup [.int (i:Int),x]) g:=HOk.track I1.hok f #[by change 2<=sizeLine;decide,[.int i s.toks,u],.cons #[_,rfl]<|.cons ru .nil,_,e5,rfl,_,rfl];have I2:Inv X m Z (upd H s.heap.objs.size<|.tup [.int (i:Int),x]) {s with heap:=g,toks:=s.toks+1}:=I.call' (s':={s with heap:=g,toks:=s.toks+1}) rfl un Q I.bare λc d=>⟨(B c d).2.2.2.1,(B c d).2.1,(B c d).2.2.2.2⟩
  show#[.ref s.heap.objs.size,_,I2,rfl,#[_,x,f,rfl,rfl,λad h=>by rw[I.list_inj h r];show A],#[#[u,by have:=b1;rwa[show((i:Int)+1)=((i+1:Nat):Int)by rfl']at this],a2.extBut R.extBut<|Ne.symm D],λc d=>?_];have O:c<s.heap.objs.size:=by
   let#[o1,J,_]:=C;simp only[Æ,á,ĕ]at d;rcases d with rfl|rfl
   .show É j
   .show É J
  rw[ao<|Ú O];show(B c d).1
 done:=by
  intro X M S L G i m s Z H E I B y N;subst M S L;let#[xs,r,ab]:=N;let#[U,Y,p,T]:=I.list r;let#[#[l,j],C]:=id y;have ac:=↑Y;show wpAny_pyNext_enum_end (I.ok.hd G) j C p.isList (by simp;rfl') λh' t=>?_
  show#[rfl,I.turnedAll (t':=s.toks) (λc o d q=>?_) B];simp only[Æ,á,ĕ,not_or]at d;show t c o d.2 q
 self:=λ_ _ _ _ _ y h=>by
  let#[l,j]:=y.he;show ω j h
def ww(K:Ϗ)(ta:TA):TI:=λσ H R=>ta σ H λvs H1=>∃a xs,vs=[.ref a]/\SqL K H1 a xs/\R (Ite K a) H1
def PP{X:Cx}{k:Nat}(o:Gl X "enumerate")(F:X.calm=true)(t:X.mg "enumerate"=none)(n:PA X [a] ta)(u:starEach [a] X.env=[(false,eval a X.env)]:=by rfl):
  PI X (.Tuple elts k tpos) (.Call (.Name "enumerate" p) [a] [] pos) (ww X.K ta):=by
 intro f s D H R I h;show Call_ (fG I o t (show bootBuiltins "enumerate"=!(.type "enumerate")by ac_nf) (Č (bB (n pos f s D H _ I h) λJ g ⟨K,m,i,B,A⟩=>?_) (by rw[u];rfl) (by rfl)));let#[y,L,e,j,q]:=A;subst e
 cases B with
 |cons r rr=>
  cases rr
  cases r;let#[w,G,z,v]:=i.list j;show call_enumerate_list z.isList λE l C M x=>?_
  show ω l ?_;show#[g.heap.objs.size+1,[g.heap.objs.size+1,g.heap.objs.size],_,_,m,rfl,i.kept (t':=g.toks) x,GR y (by change(_:Nat)≠_;rfl'),#[#[_,l],C],λc b=>?_,q];have d:g.heap.objs.size<=c:=by
   simp only[Æ,á,ĕ]at b;rcases b with rfl|rfl<;>(change(_:Nat)<=_;rfl')
  show i.fpOk d<|i.hok.fresh d
def wy{X:Cx}(K:Ϗ)(b:X.K=K){k:Nat}(e:Gl X "enumerate")(d:X.calm=true)(f:X.mg "enumerate"=none)(c:PA X [a] ta)(g:starEach [a] X.env=[(false,eval a X.env)]:=by rfl):
  PI X (.Tuple elts k tpos) (.Call (.Name "enumerate" p) [a] [] pos) (ww K ta):=by subst b;show PP e d f c g
section
variable{i ep:Nat}
theorem pL(f:s.heap.IsKeyIter it d i es.size ep)(g:s.heap.get? d=!od)(e:od.data=.dict es ep)(v:i<es.size)
  (t:∀h',h'.IsKeyIter it d (i+1) es.size ep->Heap.SameBut it s.heap h'->Q (!es[i].key) {s with heap:=h'}):wpAny (model prog w) A (pyNext<|.ref it) Q E s:=by
 let#[o,j,u,h]:=id f;have T:=f.typeIs (s:=s);unfold pyNext;show Qr<|ũ<|wpAny_callSpecial?_slot (name:=Str.ofString "__next__") T Ň<|æ Ň T F.entry_dict_keyiterator_next ?_<|F.args_dict_keyiterator_next_1 _;have q:Builtin.Dict_items.ownsTuple "dict_keyiterator"=false:=by decide
 have r:¬(Value.ref d==Value.none)=true:=Í;have x:¬((i:Int)<0):=()
 have l:∀{k:ώ}{m:ϖ}{n:϶}{R:String->ώ->Prop},k.TypeIs (.ref it) "dict_keyiterator"->R "dict_keyiterator" k->wpAny (model prog w) m (typeNameOfWhole<|.ref it) R n k:=λa b=>wpAny_typeNameOfWhole_keyiter a b
 repeat(first
  |(show l T ?_)
  |(show wpAny_fieldsOf j h ?_)
  |(show Ĝ g e ?_)
  |(show Β g e ?_)
  |(show Ζ T ?_)
  |(show Xs ?_)
  |(show Qr ?_)
  |(simp only[q,Ù,Ĉ])
  |(rw[if_neg r])
  |(rw[if_neg<|by simp]))
 rw[Ô,þ v];have c:(s.heap.update it (Obj.mapFields (·.setIfInBounds 1<|rawInt<|(i:Int)+1))).IsKeyIter it d (i+1) es.size ep:=#[_,ë _ j<|ķ<|ö h _,(Ι ..).trans u,by rw[ö h];simp[rawInt]];have p:=c.typeIs (s:={s with heap:=s.heap.update it (Obj.mapFields (·.setIfInBounds 1<|rawInt<|(i:Int)+1))});dsimp only;show Qr<|Qr<|l T<|Xs<|Qr<|Ζ T ?_;change wpAny (model prog w) A.in1 (do setField (.ref it) 1<|rawInt<|(i:Int)+1;_) _ _ s;show Qr<|ĩ j h (by simp)<|Qr<|ð<|Qr<|Ζ p<|Xs ?_;show Xs #[_,rfl,Xs<|t _ c<|å ..]
theorem ug(y:A.handled=none)(e:s.heap.IsKeyIter it d i es.size ep)(f:s.heap.get? d=!od)(c:od.data=.dict es ep)(z:es.size<=i)
  (v:∀h',Heap.ExtBut it s.heap h'->Q none {s with heap:=h'}):wpAny (model prog w) A (pyNext<|.ref it) Q E s:=by
 let#[o,j,C,h]:=id e;have T:=e.typeIs (s:=s);unfold pyNext;show Qr<|ũ<|wpAny_callSpecial?_slot (name:=Str.ofString "__next__") T Ň<|æ Ň T F.entry_dict_keyiterator_next ?_<|F.args_dict_keyiterator_next_1 _;have t:Builtin.Dict_items.ownsTuple "dict_keyiterator"=false:=by decide
 have u:¬(Value.ref d==Value.none)=true:=Í;have B:¬((i:Int)<0):=()
 have k:∀{g:ώ}{l:ϖ}{n:϶}{R:String->ώ->Prop},g.TypeIs (.ref it) "dict_keyiterator"->R "dict_keyiterator" g->wpAny (model prog w) l (typeNameOfWhole<|.ref it) R n g:=λa b=>wpAny_typeNameOfWhole_keyiter a b
 repeat(first
  |(show k T ?_)
  |(show wpAny_fieldsOf j h ?_)
  |(show Ĝ f c ?_)
  |(show Β f c ?_)
  |(show Ζ T ?_)
  |(show Xs ?_)
  |(show Qr ?_)
  |(simp only[t,Ù,Ĉ])
  |(rw[if_neg u])
  |(rw[if_neg<|by simp]))
 rw[Ô,Array.getElem?_eq_none z];dsimp only;show Qr<|Qr<|k T<|Xs ?_;change wpAny (model prog w) A.in1 (do setField (.ref it) 0 .none;_) _ _ s;show Qr<|ĩ j h (by simp)<|Qr ?_;have fin:∀h' x,Heap.ExtBut it s.heap h'->(∃ob,h'.get? x=!ob/\ob.cls=.type "StopIteration")->wpAny (model prog w) A (do let b<-isInstance (.ref x)<|.type "StopIteration";if b=true then pure none else throw<|.ref x) Q E {s with heap:=h'}:=λh' x r ⟨ob,p,q⟩=>Qr<|Ė (T:="StopIteration") (b:=true) ⟨ob,p,q⟩ isSubtype_stop<|Xs<|v h' r
 simp only[newExc,newTuple,raiseNew];repeat(first
  |show fin _ _ (((å ..).extBut.push _).push _) #[_,Å _ rfl,rfl]
  |(show ç ?_<|by size_fits)
  |(show wpAny_handled ?_)
  |(show wpAny_throw ?_)
  |(show Xs ?_)
  |(rw[show A.in1.handled=none from y])
  |(show Qr (m:=firstArgMember _ _)<|τ (a:=Value.none) (by first|rfl|(simp only[firstArgMember];rfl)) ?_)
  |(show Qr ?_))
theorem lJ(c:(d==sysModules)=false)(T:s.TypeIs (.ref d) "dict")(b:s.heap.get? d=!od)(a:od.data=.dict es ep)
  (e:R (.ref s.heap.objs.size) {s with heap:=s.heap.push {cls:=.type "dict_keyiterator",data:=.fields<|[.ref d,.int 0 0,.int es.size 0,.int ep 0].toArray}}):wpAny (model prog w) A (pyIter<|.ref d) R E s:=by
 show wpAny_pyIter_slot T F.slot_dict_iter<|æ F.slot_dict_iter T F.entry_dict_iter ?_<|F.args_dict_iter_1 _;unfold Builtin.«dict.__iter__» Builtin.Dict.dictSlotNone Builtin.Dict.showsAll;have f:¬((d==sysModules)=true):=by rw[c];show Í
 show Qr<|Qr<|ĸ T ?_;change wpAny _ _ (pure<|Value.ref d) _ _ s;show Xs ?_;change wpAny _ _ ((if(d==sysModules)=true then _ else _)>>=_) _ _ s;rw[if_neg f];show Qr<|Xs<|Qr<|Ĝ b a<|Qr<|Β b a ?_;show Qr<|ç<|Xs #[_,rfl,"dict_keyiterator",_,#[_,Å _ rfl,rfl],F.slot_dict_keyiterator_next.lookup,by simpa[rawInt]using e]
end
theorem il{d e:Type}{F:d->e->Prop}:∀{c:ϊ d}{l₂:ϊ e}(i:Nat),Paired F c l₂->i<↑c->∃a b,c[i]?=!a/\l₂[i]?=!b/\F a b
 |_,_,_,.nil,h=>by simp at h
 |_,_,0,.cons r _,_=>#[_,_,rfl,rfl,r]
 |_,_,i+1,.cons _ t,h=>by
  let#[a,b,f,g,j]:=il i t (by simpa using h);show#[a,b,by simpa using f,by simpa using g,j]
theorem mG:∀{vs:ϊ ϋ}{ns:ϊ ϐ},StrsAre vs ns->Vals (ns.map V.str) vs
 |_,_,.nil=>.nil
 |_,_,.cons n t h=>.cons #[t,rfl]<|mG h
end L2
end
section
namespace Sx
open PySem PyProof.Rows
structure Wk(B:Keyed->Keyed->ϑ):Prop where
 rf:∀p,B p p=false
 tr:∀{p q r},B q p=false->B r q=false->B r p=false
 an:∀{p q},B p q=true->B q p=false
noncomputable def gt(xs:ϔ Keyed)(i:Nat):Keyed:=xs[i]?.getD (.none,.none)
def Up(B:Keyed->Keyed->ϑ)(xs:ϔ Keyed)(k:Nat):Prop:=∀i j,i<=j->j<k->B (gt xs j) (gt xs i)=false
def Dn(B:Keyed->Keyed->ϑ)(xs:ϔ Keyed)(k:Nat):Prop:=∀i j,i<=j->j<k->B (gt xs i) (gt xs j)=false
def Eb(B:Keyed->Keyed->ϑ)(xs:ϔ Keyed)(l k:Nat):Prop:=∀i j,l<=i->i<k->l<=j->j<k->B (gt xs i) (gt xs j)=false
structure Bs(kd:SortKind)(a0:ϔ Keyed)(st:SortSt):Prop where
 pm:(arrOf st).Perm a0
 kn:kindOf st=kd
 fl:failedOf st=none
 pe:pendingOf st=([].toArray)
section
variable{kd:SortKind}{st:SortSt}{k l m:Nat}
def Bs.sz(b:Bs kd a0 st):(arrOf st).size=a0.size:=b.pm.size_eq
def Bs.put(b:Bs kd a0 st)(a:xs.Perm<|arrOf st):Bs kd a0 (setArr st xs):=#[a.trans b.pm,b.kn,b.fl,b.pe]
theorem Js{a d:Nat}(c:a<xs.size)(b:d<=a):gt (bubble xs a d) k=if k=a-d then gt xs a else if a-d<k/\k<=a then gt xs (k-1)else gt xs k:=by
 unfold gt;rw[getElem?_bubble c d b k];split
 .rfl
 .split<;>rfl
theorem jt(a:m<=xs.size):gt (mirror xs l m<|(m-l)/2) k=if l<=k/\k<m then gt xs (l+m-1-k)else gt xs k:=by
 unfold gt;rw[getElem?_mirror_all a k];split<;>rfl
theorem Up.one(o:Wk B):Up B xs 1:=λi j a b=>by
 have:i=j:=()
 rw[this];show o.rf _
theorem Up.next(o:Wk B)(u:Up B xs k)(f:1<=k)(e:B (gt xs k) (gt xs<|k-1)=false):Up B xs (k+1):=λi j a d=>by
 by_cases c:j<k
 .show u i j a c
 .obtain rfl:j=k:=()
  by_cases b:i=j
  .rw [b];show o.rf _
  .show o.tr (u i (j-1) () ()) e
theorem Dn.next(o:Wk B)(u:Dn B xs k)(f:1<=k)(e:B (gt xs<|k-1) (gt xs k)=false):Dn B xs (k+1):=λi j a d=>by
 by_cases c:j<k
 .show u i j a c
 .obtain rfl:j=k:=()
  by_cases b:i=j
  .rw [b];show o.rf _
  .show o.tr e<|u i (j-1) () ()
theorem Eb.one(o:Wk B):Eb B xs (k-1) k:=λi j a b c d=>by
 have:i=j:=()
 rw[this];show o.rf _
theorem Eb.next(o:Wk B)(u:Eb B xs l k)(m:l<k)(e:B (gt xs k) (gt xs<|k-1)=false)(f:B (gt xs<|k-1) (gt xs k)=false):Eb B xs l (k+1):=λi j b g c h=>by
 by_cases d:i<k
 .by_cases a:j<k
  .show u i j b d c a
  .obtain rfl:j=k:=()
   show o.tr f<|u i (j-1) b d () ()
 .obtain rfl:i=k:=()
  by_cases a:j<i
  .show o.tr (u (i-1) j () () c a) e
  .obtain rfl:j=i:=()
   show o.rf _
theorem Dn.mir(u:Dn B xs m)(q:Eb B xs l m)(b:m<=xs.size):Dn B (mirror xs l m<|(m-l)/2) m:=λi j d e=>by
 rw[jt b,jt b];by_cases a:l<=i/\i<m
 .rw [if_pos a,if_pos ()];show q _ _ () () () ()
 .rw [if_neg a];by_cases c:l<=j/\j<m
  .rw [if_pos c];show u _ _ () ()
  .rw [if_neg c];show u i j d e
theorem Dn.up(u:Dn B xs m)(a:m<=xs.size):Up B (mirror xs 0 m<|(m-0)/2) m:=λi j b c=>by
 rw[jt a,jt a,if_pos (),if_pos ()];show u _ _ () ()
end
def PQ(M:Model)(A:ϖ)(E:϶)(s:ώ)(kd:SortKind)(a0:ϔ Keyed)(B:Keyed->Keyed->ϑ):Prop:=
 ∀(st:SortSt)(i j:Nat)(Q:ύ ϑ->SortSt->Prop),Bs kd a0 st->i≠j->i<a0.size->j<a0.size->Q (!(B (gt (arrOf st) i)<|gt (arrOf st) j)) st->wpS M A E s (ltAt' i j) Q st
section
variable{kd:SortKind}{st:SortSt}{n k:Nat}
theorem EY(o:Wk B)(i:PQ (model prog w) A E s kd a0 B){Q:AscSt->SortSt->Prop}(p:n<=a0.size)(l:1<=k)(a:k<=n)(b:Bs kd a0 st)(u:Up B (arrOf st) k)
  (h:∀m,k<=m->m<=n->Up B (arrOf st) m->(m=n\/B (gt (arrOf st) m) (gt (arrOf st)<|m-1)=true)->Q (none,m) st):wpS (model prog w) A E s (ascLoop k n) Q st:=by
 unfold ascLoop;show wpS_forRange (I:=λm c t=>c=(none,m)/\t=st/\Up B (arrOf st) m) (λm c t g j f=>?_) (λc t f=>?_) #[rfl,rfl,u]
 .obtain ⟨rfl,rfl,d⟩:=f;show Ă<|i _ _ _ _ b (show m≠m-1 by rfl') (show m<_ by rfl') (show m-1<_ by rfl') ?_;dsimp only
  cases e:B (gt (arrOf t) m) (gt (arrOf t)<|m-1)with
  |true=>rw[if_pos rfl];show Ī<|h m g () d<|.inr e
  |false=>rw[if_neg Í];show Ī #[rfl,rfl,d.next o () e]
 .obtain ⟨rfl,rfl,d⟩:=f;rw[show max k n=n from Nat.max_eq_right a]at d⊢;show h n a (Ã _) d<|.inl rfl
theorem wA(o:Wk B)(e:PQ (model prog w) A E s kd a0 B)(g:n<=a0.size)(f:1<=k)(a:k<=n)(b:Bs kd a0 st)(u:Dn B (arrOf st) k)
  (h:∀m t,Bs kd a0 t->1<=m->m<=n->Up B (arrOf t) m->Q (!m) t):wpS (model prog w) A E s (tail3 k n) Q st:=by
 unfold tail3;show Ă<|wpS_reverse ?_;have c:=b.put<|mirror_perm (arrOf st) 0 k<|(k-0)/2;show Ă<|EY o e g f a c (u.up<|by rw[b.sz];rfl') λm j d i _=>Ī<|h m _ c () d i
theorem Jt(o:Wk B)(y:PQ (model prog w) A E s kd a0 B){Q:DescSt->SortSt->Prop}(H:n<=a0.size)(F:1<=k)(g:k<=n)(b:Bs kd a0 st)(u:Dn B (arrOf st) k)
  (h:∀m e t,Bs kd a0 t->k<=m->m<=n->Dn B (arrOf t) m->e+1<=m->Eb B (arrOf t) (m-(e+1)) m->Q (none,m,e) t):wpS (model prog w) A E s (descLoop k n) Q st:=by
 unfold descLoop;show wpS_forRange (I:=λm c t=>∃e,c=(none,m,e)/\Bs kd a0 t/\Dn B (arrOf t) m/\e+1<=m/\Eb B (arrOf t) (m-(e+1)) m) (λm c t C G r=>?_) (λc t r=>?_) #[0,rfl,b,u,F,Eb.one o]
 .obtain ⟨e,rfl,a,f,l,q⟩:=r;have d:m<=(arrOf t).size:=by rw[a.sz];rfl'
  show Ă<|y _ _ _ _ a (show m≠m-1 by rfl') (show m<_ by rfl') (show m-1<_ by rfl') ?_;dsimp only
  cases e1:B (gt (arrOf t) m) (gt (arrOf t)<|m-1)with
  |true=>
   rw[if_pos rfl];have p:Dn B (arrOf t) (m+1):=f.next o ()<|o.an e1;by_cases x:e>0
   .rw [if_pos x];show Ă<|wpS_reverse<|Ī #[0,rfl,a.put<|mirror_perm _ _ _ _,λi j v z=>?_,(),Eb.one o];by_cases D:j<m
    .show (f.mir q d) i j v D
    .obtain rfl:j=m:=()
     change B (gt (mirror (arrOf t) _ _ _) i) (gt (mirror (arrOf t) _ _ _) j)=false;rw[jt d,jt d,if_neg<|show¬(_/\j<j)by rfl'];split
     .show p _ _ () ()
     .show p _ _ v z
   .rw [if_neg x];show Ī #[0,rfl,a,p,(),Eb.one o]
  |false=>
   rw[if_neg Í];show Ă<|y _ _ _ _ a (show m-1≠m by rfl') (show m-1<_ by rfl') (show m<_ by rfl') ?_;dsimp only
   cases e2:B (gt (arrOf t)<|m-1) (gt (arrOf t) m)with
   |true=>rw[if_pos rfl];show Ī<|h m e t a C () f l q
   |false=>
    rw[if_neg Í];show Ī #[e+1,rfl,a,f.next o () e2,(),?_];rw[show m+1-(e+1+1)=m-(e+1)by rfl'];show q.next o () e1 e2
 .obtain ⟨e,rfl,a,f,l,q⟩:=r;rw[show max k n=n from Nat.max_eq_right g]at f l q⊢;show h n e t a g (Ã _) f l q
theorem rQ(o:Wk B)(c:PQ (model prog w) A E s kd a0 B)(f:n<=a0.size)(d:k+1<=n)(b:Bs kd a0 st)(u:Dn B (arrOf st)<|k+1)
  (h:∀m t,Bs kd a0 t->1<=m->m<=n->Up B (arrOf t) m->Q (!m) t):wpS (model prog w) A E s (descPart k n) Q st:=by
 unfold descPart;show Ă<|wpS_lift<|Ĭ #[rfl,Ă<|Jt o c f () d b u λm e t a p j l r q=>?_];dsimp only;have g:m<=(arrOf t).size:=by rw[a.sz];rfl'
 by_cases i:e>0
 .rw [if_pos i];show Ă<|wpS_reverse<|wA o c f () j (a.put<|mirror_perm _ _ _ _) (l.mir q g) h
 .rw [if_neg i];show wA o c f () j a l h
theorem GX(o:Wk B)(d:PQ (model prog w) A E s kd a0 B)(v:n<=a0.size)(p:1<=n)(b:Bs kd a0 st)
  (h:∀m t,Bs kd a0 t->1<=m->m<=n->Up B (arrOf t) m->Q (!m) t):wpS (model prog w) A E s (countRun' 0 n) Q st:=by
 rw[countRun0_eq];show Ă<|EY o d v (Ã 1) p b (Up.one o) λm l C f x=>?_;dsimp only;by_cases u:m=n
 .rw [if_pos<|by simpa using u];show Ī<|h m st b l C f
 .rw [if_neg<|by simpa using u];have a:=x.resolve_left u;have c:m<=(arrOf st).size:=by rw[b.sz];rfl'
  by_cases g:m>1
  .rw [if_pos g];show Ă<|d _ _ _ _ b () (show 0<_ by rfl') (show m-1<_ by rfl') ?_;dsimp only
   cases e:B (gt (arrOf st) 0) (gt (arrOf st)<|m-1)with
   |true=>rw[if_pos rfl];show Ī<|h m st b l C f
   |false=>
    rw[if_neg Í];have q:Eb B (arrOf st) 0 m:=λi j _ D _ r=>o.tr (f j (m-1) () ())<|o.tr e<|f 0 i () D
    have y:Dn B (arrOf st) (m+1):=Dn.next o (λi j _ r=>q i j () () () r) l<|o.an a;show Ă<|wpS_reverse<|rQ o d v () (b.put<|mirror_perm _ _ _ _) (λi j z k=>?_) h;change B (gt (mirror (arrOf st) _ _ _) i) (gt (mirror (arrOf st) _ _ _) j)=false;rw[jt c,jt c];by_cases r:j<m
    .rw [if_pos (),if_pos ()];show q _ _ () () () ()
    .rw [if_neg<|show¬(0<=j/\j<m)by rfl'];split
     .show y _ _ () k
     .show y _ _ z k
  .rw [if_neg g];obtain rfl:m=1:=()
   show rQ o d v () b (Dn.next o (λi j z k=>by rw[show i=j by rfl'];show o.rf _) (Ã 1)<|o.an a) h
theorem PX(o:Wk B)(Y:PQ (model prog w) A E s kd a0 B){Q:ϑ->SortSt->Prop}(R:n<=a0.size)(H:k<=n)(b:Bs kd a0 st)(u:Up B (arrOf st) k)
  (h:∀t,Bs kd a0 t->Up B (arrOf t) n->Q true t):wpS (model prog w) A E s (binarySort' 0 n k) Q st:=by
 rw[binarySort'_eq];simp only[ľ];show Ă (wpS_mono (wpS_forRange (I:=λm c t=>c=(none,Unit.unit)/\Bs kd a0 t/\Up B (arrOf t) (min m n)) (Q:=λc t=>c=(none,Unit.unit)/\Bs kd a0 t/\Up B (arrOf t) n) (λm c t F v y=>?_) (λc t y=>?_) #[rfl,b,λi j D L=>?_]) λc t G=>?_)
 .obtain ⟨rfl,q,f⟩:=y;rw[ň (ì v)]at f;have C:m<a0.size:=()
  show Ă (wpS_mono (wpS_forRange (I:=λx c p=>p=t/\∃l r,c=(none,l,r)/\l<=r/\r<=m/\r+x<=m+l/\(∀i,i<l->B (gt (arrOf t) m) (gt (arrOf t) i)=false)/\∀i,r<=i->i<m->B (gt (arrOf t) i) (gt (arrOf t) m)=false)
   (Q:=λc p=>p=t/\∃l r,c=(none,l,r)/\l<=m/\(∀i,i<l->B (gt (arrOf t) m) (gt (arrOf t) i)=false)/\∀i,l<=i->i<m->B (gt (arrOf t) i) (gt (arrOf t) m)=false)
   (λx c p D L y=>?_) (λc p y=>?_) #[rfl,0,m,rfl,(),(),(),λi z=>(),λi W X=>()]) λc p G=>?_)
  .obtain ⟨rfl,l,r,rfl,N,d,O,lo,a⟩:=y;dsimp only;by_cases P:l>=r
   .rw [if_pos P];obtain rfl:l=r:=()
    show Ī #[rfl,l,l,rfl,d,lo,a]
   .rw [if_neg P];have F:l<=(l+r)/2:=by clear O lo a f d F v D L C R H;rfl'
    have v:(l+r)/2<r:=by clear O lo a f d F v D L C R H;rfl'
    generalize(l+r)/2=c at F v⊢;have g:=Ó v d;show Ă (Y _ _ _ _ q () C (show c<_ from Υ g C) ?_);dsimp only
    cases e:B (gt (arrOf p) m) (gt (arrOf p) c)with
    |true=>
     simp only[ĳ];show Ī #[rfl,l,c,rfl,F,ì g,by clear F g C;rfl',lo,λi W X=>o.tr (o.an e) (f _ _ W X)]
    |false=>
     simp only[Ù,Ĉ];show Ī #[rfl,c+1,r,rfl,v,d,by clear g C;rfl',λi z=>o.tr (f i c (Nat.le_of_lt_succ z) g) e,a]
  .obtain ⟨rfl,l,r,rfl,N,d,O,lo,a⟩:=y;obtain rfl:l=r:=()
   show#[rfl,l,l,rfl,d,lo,a]
  .obtain ⟨rfl,l,r,rfl,M,lo,a⟩:=G;change wpS _ _ _ _ (do moveDown' m l;pure (ForInStep.yield (none,Unit.unit))) _ _;rw[moveDown'_eq];show Ă (wpS_modify (Ī #[rfl,q.put (bubble_perm _ _ _),?_]));rw[show min (m+1) n=m+1 by rfl'];have J:m<(arrOf p).size:=by rw[q.sz];show C
   intro i j D L;change B (gt (bubble (arrOf p) m (m-l)) j) (gt (bubble (arrOf p) m (m-l)) i)=false;rw[Js J (),Js J (),Nat.sub_sub_self M];by_cases S:i=l
   .rw [if_pos S];by_cases K:j=l
    .rw [if_pos K];show o.rf _
    .rw [if_neg K,if_pos ()];show a (j-1) () ()
   .rw [if_neg S];by_cases T:l<i/\i<=m
    .rw [if_pos T,if_neg (),if_pos ()];show f _ _ () ()
    .rw [if_neg T];by_cases K:j=l
     .rw [if_pos K];show lo i ()
     .rw [if_neg K];by_cases U:l<j/\j<=m
      .rw [if_pos U];show f _ _ () ()
      .rw [if_neg U];show f _ _ D ()
 .obtain ⟨G,q,f⟩:=y;show#[G,q,?_];rwa[show min (max (max k 1) n) n=n by rfl']at f
 .by_cases Z:k=0
  .rw [show i=j by rfl'];show o.rf _
  .show u i j D ()
 .obtain ⟨rfl,q,f⟩:=G;show Ī (h t q f)
def Dd(B:Keyed->Keyed->ϑ)(a0:ϔ Keyed)(st:SortSt):Prop:=(arrOf st).Perm a0/\failedOf st=none/\pendingOf st=([(0,a0.size,0)].toArray)/\Up B (arrOf st) a0.size
theorem Bs.dd(b:Bs kd a0 st)(u:Up B (arrOf st) a0.size):Dd B a0 (setPending st<|(pendingOf st).push (0,a0.size,0)):=#[b.pm,b.fl,by change(pendingOf st).push (0,a0.size,0)=_;rw[b.pe];rfl,u]
theorem Q0(o:Wk B)(q:PQ (model prog w) A E s kd a0 B){Q:Unit->SortSt->Prop}(b:Bs kd a0 st)(D:2<=a0.size)(l:a0.size<64)
  (h:∀t,(arrOf t).Perm a0->failedOf t=none->Up B (arrOf t) a0.size->Q Unit.unit t):wpS (model prog w) A E s sortRuns' Q st:=by
 rw[sortRuns'_eq];show Ă<|wpS_get ?_;have n:∀f,minRun' (f+1) a0.size 0=a0.size:=λf=>by rw[minRun'_succ,if_pos l];rfl
 have i:minRun' a0.size a0.size 0=a0.size:=by
  have:=n<|a0.size-1;rwa[show a0.size-1+1=a0.size by rfl']at this
 dsimp only;simp only[b.sz,i];show Ă<|wpS_mono (wpS_forRange (I:=λx c t=>(x=0/\c=(none,0)/\Bs kd a0 t)\/(1<=x/\c=(none,a0.size)/\Dd B a0 t)) (Q:=λc t=>c=(none,a0.size)/\Dd B a0 t) (λx c t _ _ e=>?_) (λc t e=>?_)<|.inl #[rfl,rfl,b]) λc t d=>?_
 .rcases e with⟨rfl,rfl,bt⟩|⟨hx,rfl,a⟩
  .dsimp only;rw[if_neg ()];simp only[Ŷ,Nat.min_self,ľ];show Ă<|GX o q (Ã _) () bt λm v k F u r=>?_;dsimp only;by_cases g:m<a0.size
   .rw [if_pos g];show Ă<|wpS_lift<|Ĭ #[rfl,Ă<|PX o q (Ã _) u k r λy p C=>?_];simp only[đ,Ù,Ĉ];show Ă<|wpS_get ?_;rw[show(pendingOf y).back?=none by rw[p.pe];rfl];show Ă<|wpS_modify<|Ī<|.inr #[(),rfl,p.dd C]
   .rw [if_neg g];obtain rfl:m=a0.size:=()
    show Ă<|wpS_get ?_;rw[show(pendingOf v).back?=none by rw[k.pe];rfl];show Ă<|wpS_modify<|Ī<|.inr #[(),rfl,k.dd r]
  .dsimp only;rw[if_pos<|Ã _];show Ī #[rfl,a]
 .rcases e with⟨hx,_⟩|⟨_,d,a⟩
  .rfl'
  .show #[d,a]
 .obtain ⟨rfl,a⟩:=d;dsimp only;show Ă<|wpS_mono (wpS_forRange (I:=λ_ c j=>j=t/\c=(none,Unit.unit)) (Q:=λc j=>j=t/\c=(none,Unit.unit)) (λx c j _ _ e=>?_) (λ_ _ z=>z) #[rfl,rfl]) λc j d=>?_
  .obtain ⟨rfl,rfl⟩:=e;show Ă<|wpS_get ?_;rw[if_pos<|by rw[a.2.2.1];show Ã 1];show Ī #[rfl,rfl]
  .obtain ⟨rfl,rfl⟩:=d;show Ī<|h _ a.1 a.2.1 a.2.2.2
noncomputable def mid(h:ϒ)(a:ό)(vs:ϊ ϋ):ϒ:=((h.update a<|Obj.mapSeq λ_=>([].toArray)).push<|seqObj "tuple" vs.toArray 0).push<|seqObj "list" ([].toArray) 0
theorem Ju(o:Wk B){a:ό}{b:ϊ ϋ}{n:Nat}{P:Fin->ώ->Prop}(g:s.heap.get? a=!(seqObj "list" b.toArray n))(u:↑b<64)
  (x:2<=↑b->wpAny (model prog w) A (keyKind' b.toArray) (λk s'=>s'={s with heap:=mid s.heap a b}/\k=kd) E {s with heap:=mid s.heap a b})
  (v:PQ (model prog w) A E {s with heap:=mid s.heap a b} kd (pairsOf b) B)
  (h:∀d:ϔ Keyed,d.Perm (pairsOf b)->Up B d ↑b->P (.done<|.ret .none) {s with heap:=sortedHeap s.heap a b (d.map (·.2))}):
  wpAny (model prog w) A (Builtin.«list.sort» #[[.ref a],[]]) P E s:=by
 rw[list_sort_plain];have F:a<s.heap.objs.size:=É g;let#[p,r]:∃p,(s.heap.update a<|Obj.mapSeq λ_=>([].toArray)).get? a=!(seqObj "list" ([].toArray) p):=#[_,get?_update_seq g<|λ_=>([].toArray)];have f:(mid s.heap a b).get? a=!(seqObj "list" ([].toArray) p):=by
  unfold mid;show Jn _<|Jn _ r
 have c:(pairsOf b).size=↑b:=pairsOf_size b;show Qr<|listItems_at g rfl<|Qr<|listUpdate_at g rfl<|Qr<|seqEpoch_at r rfl<|Qr<|wpAny_newTuple<|Qr<|wpAny_newList<|ð ?_;change wpAny (model prog w) A _ P E {s with heap:=mid s.heap a b};dsimp only;have y:b.toArray.size=↑b:=by simp
 rw[y];by_cases e:↑b<2
 .rw [if_pos e,if_pos e];show Qr<|Xs ?_;rw[StateT.run_pure];show Qr<|Xs<|Qr<|seqEpoch_at f rfl<|Qr<|listUpdate_at f rfl ?_ (hsz2:= ?_)
  .simp only[ń,Ù,Ĉ];show Xs<|h (pairsOf b) (Array.Perm.refl _) λi j C D=>by rw[show i=j by rfl'];show o.rf _
  .rw [Array.size_map];change(pairsOf b).size<=_;rw[c,õ];rfl'
 .rw [if_neg e,if_neg e];show Qr<|Ċ (x ()) ?_ λ_ _ z=>z;rintro k s' ⟨rfl,rfl⟩;show Qr (Ċ (Q0 o v (st:=SortSt.mk' k (b.toArray.zip b.toArray) ([].toArray) 7 none) (Q:=λ_ t=>(arrOf t).Perm (pairsOf b)/\failedOf t=none/\Up B (arrOf t) (pairsOf b).size)
   #[Array.Perm.refl _,rfl,rfl,rfl] () () λt l q m=>#[l,q,m]) ?_ λ_ _ z=>z)
  rintro⟨⟨⟩,t⟩ s' ⟨rfl,l,q,m⟩;show Qr<|seqEpoch_at f rfl<|Qr<|listUpdate_at f rfl ?_ (hsz2:= ?_)
  .dsimp only;rw[q];simp only[ń,Ù,Ĉ];rw[c]at m;show Xs<|h _ l m
  .rw [Array.size_map];change(arrOf t).size<=_;rw[l.size_eq,c,õ];rfl'
end
def uh(b:ϑ)(x y:ϋ):keyLt' (tuples' b) x y=(do
  let xs<-Builtin.List.listItems x;let ys<-Builtin.List.listItems y
  for ((p,q),i) in (xs.toList.zip ys.toList).zipIdx do
   if not (<-eqBool p q)then return <-oneLt' (b&&i==0) p q
  return xs.size<ys.size):=rfl
def Jv(v:ϋ):firstOfTuple' v=(do
  if(<-typeOf v)!= .type "tuple" then return none
  return (<-Builtin.List.listItems v)[0]?):=rfl
def Fs(h:ϒ)(f:ϋ->ϐ)(v:ϋ):Prop:=∃b ob its tk n rest,v=.ref b/\h.get? b=!ob/\ob.cls=.type "tuple"/\ob.data=.seq its n/\its.toList=.str (f v) tk::rest
section
theorem wB{b a:Type}{g:b->Sem a}{r:b->a}:∀{vs:ϊ b}{Q:ϊ a->ώ->Prop},(∀v∈vs,∀R:a->ώ->Prop,R (r v) s->wpAny (model prog w) A (g v) R E s)->Q (vs.map r) s->wpAny (model prog w) A (vs.mapM g) Q E s
 |[],Q,_,q=>by rw[List.mapM_nil];show Xs q
 |v::vs,Q,h,q=>by
  rw[List.mapM_cons];show Qr<|h v Ì _<|Qr<|wB (λu c=>h u<|Ç _ c)<|Xs q
def wC(B:c≠[])(C:∀v∈c,Fs s.heap f v):wpAny (model prog w) A (keyKind' c.toArray) (λk s'=>s'=s/\k=tuples' true) E s:=by
 rw[keyKind'_eq,List.mapM_toArray];have h:∀v∈c,∃a,∀R:ύ ϋ->ώ->Prop,R (!(.str (f v) a)) s->wpAny (model prog w) A (firstOfTuple' v) R E s:=by
  intro v d;let#[b,ob,j,a,n,rest,rfl,l,t,y,z]:=C v d;show#[a,λR r=>?_];rw[Jv];show Qr<|wpAny_typeOf_ref l ?_;rw[t];show Qr<|listItems_at l y<|Xs ?_;have:j[0]?=!(.str (f<|.ref b) a):=by rw[<-Ą,z];rfl
  rw[this];show r
 let a:ϋ->Tok:=λv=>if d:v∈c then(h v d).choose else 0
 have i:∀v∈c,∀R:ύ ϋ->ώ->Prop,R (!(.str (f v)<|a v)) s->wpAny (model prog w) A (firstOfTuple' v) R E s:=by
  intro v d R r;show(h v d).choose_spec R ?_;have:a v=(h v d).choose:=dif_pos d;rwa[<-this]
 have D:∀e:ϊ ϋ,StrsAre (e.map λv=>.str (f v)<|a v) (e.map f):=by
  intro e;induction e with
  |nil=>show .nil
  |cons u e ih=>show .cons _ _ ih
 rw[map_eq_pure_bind,bind_assoc];show Qr<|wB (r:=λv=>!(.str (f v)<|a v)) i ?_;rw[pure_bind];have m:((c.map λv=>!(Value.str (f v)<|a v)).toArray.all (·.isSome))=true:=by
  rw[List.all_toArray,List.all_map,Φ];intro _ _;rfl
 have o:(c.map λv=>!(Value.str (f v)<|a v)).toArray.filterMap id=(c.map λv=>Value.str (f v)<|a v).toArray:=by
  rw[List.filterMap_toArray,List.filterMap_map];congr 1;change c.filterMap (λv=>!(Value.str (f v)<|a v))=_;rw[List.filterMap_eq_map']
 rw[if_pos m,o,oneTypeOnly'_eq,List.mapM_toArray,mapM_typeOf_strs<|D c];simp only[map_pure,pure_bind];show Qr<|Ĭ ?_;let#[v,g,rfl]:=List.exists_cons_of_ne_nil B;have p:((List.map (λ_=>Value.type "str")<|(v::g).map λv=>Value.str (f v)<|a v).toArray.all λx=>x==Value.type "str")=true:=by
  rw[List.all_toArray,List.all_map,Φ];intro _ _;rfl
 have q:(List.map (λ_=>Value.type "str")<|(v::g).map λv=>Value.str (f v)<|a v).toArray[0]?=!(Value.type "str"):=by simp
 rw[q];simp only[p,ĳ,pure_bind];show Xs #[rfl,rfl]
noncomputable def Bf(f:ϋ->ϐ)(p q:Keyed):ϑ:=strKind.blt (f p.1).cps.toList (f q.1).cps.toList
def a1p:Wk (Bf f):=#[λp=>strKind.irrefl _,λ{p q r} a b=>KeyOrd.kle_trans (O:=strKind.toKeyOrd) a b,λ{p q} h=>KeyOrd.klt_asymm (O:=strKind.toKeyOrd) h]
def yS(m:∀v∈g,Fs s.heap f v)(u:(g.map f).Nodup):PQ (model prog w) A E s (tuples' true) (pairsOf g) (Bf f):=by
 intro a i j Q b l z B q;have c:i<(arrOf a).size:=by rw[b.sz];show z
 have d:j<(arrOf a).size:=by rw[b.sz];show B
 have h:∀k (C:k<(arrOf a).size),((arrOf a)[k]).1∈g:=by
  intro k C;have n:(arrOf a)[k]∈(pairsOf g).toList:=(Ξ.mp b.pm).mem_iff.mp (by simp);rw[pairsOf_toList]at n;show(mem_zip_self n).2
 have H:f ((arrOf a)[i]).1≠f ((arrOf a)[j]).1:=by
  have o:((arrOf a).toList.map λp=>f p.1).Perm (g.map f):=by
   have:=(Ξ.mp b.pm).map (λp:Keyed=>f p.1);rw[pairsOf_toList]at this;have e:(g.zip g).map (λp:Keyed=>f p.1)=g.map f:=by
    rw[show(λp:Keyed=>f p.1)=f∘Prod.fst from rfl,<-Ä,List.map_fst_zip<|Ã _]
   rwa[e]at this
  have G:=(o.nodup_iff).mpr u;intro e;show l ((ı (h₀:=by simpa using c) (h₁:=by simpa using d) G).mp (by simpa using e))
 have r:gt (arrOf a) i=(arrOf a)[i]:=by unfold gt;rw[getElem?_pos _ i c];rfl
 have t:gt (arrOf a) j=(arrOf a)[j]:=by unfold gt;rw[getElem?_pos _ j d];rfl
 rw[r,t]at q;rw[ltAt'_eq];show Ă<|wpS_get ?_;change wpS _ _ _ _ (do let x<-elem' (arrOf a) i;let y<-elem' (arrOf a) j;lt' x y) Q a;rw[elem'_eq,elem'_eq,getElem?_pos _ i c,getElem?_pos _ j d];show Ă<|Ī<|Ă<|Ī ?_;rw[lt'_eq];show Ă<|wpS_get ?_;rw[b.kn];obtain⟨O,T,D,Y,R,W,v1,K,y1,M,I⟩:=m _<|h i c;obtain⟨P,U,F,Z,S,X,v2,L,y2,N,J⟩:=m _<|h j d;show Ă<|wpS_lift<|ũ ?_;rw[uh];generalize o:(arrOf a)[i]=p at*;generalize hq:(arrOf a)[j]=p' at*;rw[v1,v2];show Qr<|listItems_at K M<|Qr<|listItems_at L N ?_;rw[I,J,ξ,List.zipIdx_cons,ý];show Qr<|Qr<|Qr<|eqBool_str ?_;rw[if_pos (by rw[ŋ.mpr H];rfl)];show Qr<|strKind_oneLt prog w A _ s _ _ (f p.1).cps.toList (f p'.1).cps.toList rfl rfl<|Xs<|Xs<|Xs #[rfl,Ī ?_];show q
end
end Sx
namespace L2
open PySem PySem.Spec PyProof.Rows
variable{v:ϋ}{w:ϕ}{A:ϖ}{prog:ϓ}{kvs:ϊ (ϐ×V)}{E Q:϶}{C R:ϊ ϋ->ώ->Prop}{Z:ϊ ϋ->ώ->ϔ ϋ->Prop}
theorem Q3{c d:Type}{g:c->d}{l a:ϊ d}(h:l.Perm a):∀{zs:ϊ c},l=zs.map g->∃b:ϊ c,b.Perm zs/\a=b.map g:=by
 induction h with
 |nil=>intro zs e;show#[zs,.refl _,e]
 |cons x _ ih=>
  intro zs e
  cases zs with
  |nil=>cases e
  |cons z zs=>
   rw[È]at e;injection e with e1 e2
   let#[b,p,q]:=ih e2;show#[z::b,p.cons z,by rw[È,q,e1]]
 |swap x y l=>
  intro zs e
  match zs,e with
  |z1::z2::r,e=>
   rw[È,È]at e;injection e with e1 e2
   injection e2 with e2 e3
   show#[z2::z1::r,.swap _ _ _,by rw[È,È,e1,e2,e3]]
 |trans _ _ ih1 ih2=>
  intro zs e;let#[b,p,q]:=ih1 e;let#[j,f,i]:=ih2 q;show#[j,f.trans p,i]
noncomputable def rR(h:ϒ):ϋ->ϐ
 |.ref b=>match h.get? b with
  |some ob=>match ob.data with
   |.seq its _=>match(its[0]? :ύ ϋ)with
    |some (Value.str x _)=>x
    |_=>#[([].toArray)]
   |_=>#[([].toArray)]
  |none=>#[([].toArray)]
 |_=>#[([].toArray)]
theorem pM{a:Type}{g:a->ό}:∀{zs:ϊ a}{us:ϊ ϋ},Vals (zs.map λz=>V.ref<|g z) us->us=zs.map λz=>Value.ref<|g z
 |[],_,r=>by cases r;rfl
 |z::zs,_,r=>by
  cases r with
  |cons r rr=>
   rw[pM rr,È];congr 1
theorem rT{a:Type}{g:a->ό}:∀zs:ϊ a,Vals (zs.map λz=>V.ref<|g z)<|zs.map λz=>Value.ref<|g z
 |[]=>.nil
 |_::zs=>.cons rfl<|rT zs
abbrev oJ(a b:ϐ):Prop:=a.cps.toList<b.cps.toList
def ul:ϊ V->Hp->VK->Prop:=λxs H Q=>∃(a:ό)(kvs:ϊ<|ϐ×V),xs=[.ref a]/\Rd H a (.dK<|kvs.map λp=>(Sum.inr p.1,p.2))/\↑kvs<64/\∀r (ns:ϊ ϐ),ns.Perm (kvs.map (·.1))->ns.Pairwise oJ->H r=none->Q (.ref r) (upd H r<|.lst<|ns.map V.str)
def uo:ϊ V->Hp->VK->Prop:=λxs H Q=>∃(a:ό)(kvs:ϊ<|Int×V),xs=[.ref a]/\H a=!(.dK<|kvs.map λp=>(Sum.inl p.1,p.2))/\↑kvs<64/\∀r (ns:ϊ Int),ns.Perm (kvs.map (·.1))->ns.Pairwise (·<·)->H r=none->Q (.ref r) (upd H r<|.lst<|ns.map V.int)
def oK(td:TE):TE:=λσ H Q=>td σ H λx H1=>∃(a:ό)(kvs:ϊ<|ϐ×V),x=.ref a/\H1 a=!(.dK<|kvs.map λp=>(Sum.inr p.1,p.2))/\↑kvs<64/\∀r (zs:ϊ<|ό×ϐ×V) (H2:Hp),(zs.map (·.2)).Perm kvs->(zs.map (·.2.1)).Pairwise oJ->H1 r=none->Same H1 H2->H2 r=!(.lst<|zs.map λz=>V.ref z.1)->(∀z∈zs,H2 z.1=!(.tup [.str z.2.1,z.2.2]))->Q (.ref r) H2
def Q4(K:Ϗ):ϊ V->Hp->VK->Prop:=λxs H Q=>∃(a:ό)(bs:ϊ ϑ),xs=[.ref a]/\SqL K H a (bs.map V.bl)/\Q (.bl<|bs.all id) H
theorem j6{s:ώ}
  (f:∀(E':϶)(R:ϊ ϋ->ώ->Prop),(∀vs s1,C vs s1->R vs s1)->wpAny (model prog w) A.in1 (collect v) R E' s)
  (i:∀vs s1,C vs s1->↑vs<64/\(∀(b:ϖ)(E':϶)(P:PySem.Fin->ώ->Prop),(∀a,Z vs s1 a->P (.done<|.ret .none) {s1 with heap:=sortedHeap (s1.heap.push<|seqObj "list" vs.toArray 0) s1.heap.objs.size vs a})->
    wpAny (model prog w) b (Builtin.«list.sort» #[[.ref s1.heap.objs.size],[]]) P E' {s1 with heap:=s1.heap.push<|seqObj "list" vs.toArray 0})/\
   ∀a,Z vs s1 a->Q (.ref s1.heap.objs.size) {s1 with heap:=sortedHeap (s1.heap.push<|seqObj "list" vs.toArray 0) s1.heap.objs.size vs a}):
  wpAny (model prog w) A (call (.builtin "sorted") [v]) Q E s:=by
 show Calls.call_function_entry kind_sorted plain_sorted entry_sorted (args_sorted1 _) ?_;unfold Builtin.«sorted»;show Qr (m:=checkCount "sorted" 1 1 _) (Xs (Qr (f _ _ λvs s1 d=>?_)));let#[c,e,h]:=i vs s1 d;show Qr (wpAny_newList ?_ (by rw[õ];rfl'));have g:(s1.heap.push<|seqObj "list" vs.toArray 0).get? s1.heap.objs.size=!(seqObj "list" vs.toArray 0):=Å _ rfl;change wpAny _ _ _ _ _ {s1 with heap:=s1.heap.push<|seqObj "list" vs.toArray 0};show Qr (ð (æ slot_list_sort #[_,g,rfl] entry_list_sort (e _ _ _ λa z=>#[_,rfl,?_])<|args_list_sort _));show Xs #[_,rfl,h a z]
theorem lK{K:Type}[DecidableEq K]{n:PySem.KeyKind prog w K}{g:ϊ<|K×ϋ}{u:Nat}
  (H:A.handled=none) (lo:(d==sysModules)=false) (D:s.heap.DictAt n d g u) (J:↑g<=sizeLine)
  (h:∀(h':ϒ)(tk:Nat)(vs:ϊ ϋ),(∀b o,s.heap.get? b=!o->h'.get? b=!o)->s.heap.objs.size<=h'.objs.size->↑vs=↑g->(∀(j:Nat) v,vs[j]?=!v->∃k x,g[j]?=!(k,x)/\n.is k v=true)->R vs {s with heap:=h',toks:=tk}):
  wpAny (model prog w) A (collect<|.ref d) R E s:=by
 have C:d<s.heap.objs.size:=D.lt_size;have KS:=PySem.W.kdl_dict (prog:=prog) (w:=w) (knd:=n) (d:=d) (kvs:=g) (ep:=u) lo;unfold collect;show Qr<|wpAny_runValue<|Ć entry_proto_collect' ?_;rw[ù PySem.F.plain_proto_collect _];change wpAny _ A.in1 (newList []>>=λl=>again<|.builtin "list.__iadd__" #[[l,.ref d],[]]) _ _ s;show Qr<|ç ?_;show Xs #[plainId_quiet Ű _,Ć entry_list_iadd' ?_];rw[ù Ű _];have r:(s.heap.push {cls:=.type "list",data:=.seq ([]:ϊ ϋ).toArray}).get? s.heap.objs.size=!{cls:=.type "list",data:=.seq<|[].toArray}:=Å _ rfl;change wpAny _ A.in1 (Builtin.List.listExtendWith (.ref s.heap.objs.size) (.ref d)<|.ref s.heap.objs.size) _ _ _;have z:=PySem.W.kdl_extend (A:=A) (s:={s with heap:=s.heap.push {cls:=.type "list",data:=.seq ([]:ϊ ϋ).toArray}}) KS
  (R:=λ(q:Result) (B:ώ)=>∃(h':ϒ)(tk:Nat)(a:ϔ ϋ)(p:Nat),q=.ok (.ret<|.ref s.heap.objs.size)/\B={s with heap:=h',toks:=tk}/\
   (∀b o,s.heap.get? b=!o->h'.get? b=!o)/\h'.get? s.heap.objs.size=!{cls:=.type "list",dict:=none,data:=.seq a p,slots:=([].toArray)}/\ItemsOf (λi v=>∃k x,g[i]?=!(k,x)/\n.is k v=true) a ↑g)
  H (D.push _) s.heap.objs.size (ě C) (ě C) (.ref s.heap.objs.size) 0 r
  (λh' tk a p t m c=>#[h',tk,a,p,rfl,rfl,λb o e=>t b o (Ú<|É e)<|Jn _ e,m,c]) J
 have fin:∀{h':ϒ}{tk:Nat}{a:ϔ ϋ}{p:Nat},(∀b o,s.heap.get? b=!o->h'.get? b=!o)->h'.get? s.heap.objs.size=!{cls:=.type "list",dict:=none,data:=.seq a p,slots:=([].toArray)}->ItemsOf (λi v=>∃k x,g[i]?=!(k,x)/\n.is k v=true) a ↑g->R a.toList {s with heap:=h',toks:=tk}:=by
  intro h' tk a p t m c;show h h' tk a.toList t (ì<|É m) (by rw[ã];show c.1) λj v I=>c.2 j v<|by rw[<-Ą];show I
 show Ċ z (λf B x=>?_) λe B x=>?_
 .cases f with
  |done f=>
   let#[h',tk,a,p,e,rfl,t,m,c]:=x
   cases e;change wpAny _ A (load s.heap.objs.size>>=_) _ _ _;show Qr<|wpAny_load m<|Xs<|fin t m c
  |again c₁=>
   show#[x.1,Ť x.2 λq F y=>?_];let#[h',tk,a,p,rfl,rfl,t,m,c]:=y;change wpAny _ A (load s.heap.objs.size>>=_) _ _ _;show Qr<|wpAny_load m<|Xs<|fin t m c
 .obtain ⟨_,_,_,_,G,_⟩:=x
  cases G
def Fb(h:ϒ)(b:ϊ ϋ)(a:ϔ ϋ):∃e,(sortedHeap (h.push<|seqObj "list" b.toArray 0) h.objs.size b a).get? h.objs.size=!(seqObj "list" a e):=sortedHeap_at (n:=0)<|Å _ rfl
theorem pN{h:ϒ}{e:ϊ ϋ}{c:ϔ ϋ}{b:ό}{o:Obj}(d:h.get? b=!o):(sortedHeap (h.push<|seqObj "list" e.toArray 0) h.objs.size e c).get? b=!o:=by
 have a:b<h.objs.size:=É d;rw[sortedHeap_old (Ú a)<|by rw[size_push'];show Ħ a];show Jn _ d
theorem lM:∀(p:ϐ)(l:ϊ ϐ),risingS p l=true->(p::l).Nodup->(p::l).Pairwise oJ
 |p,[],_,_=>List.pairwise_singleton _ _
 |p,x::r,h,n=>by
  have a:(not (ltCps x.cps.toList p.cps.toList)&&risingS x r)=true:=h;rw[ā,Bool.not_eq_true']at a;have d:=lM x r a.2 (î.mp n).2;have c:oJ p x:=by
   have f:¬x.cps.toList<p.cps.toList:=by
    have:=a.1;rw[ltCps_eq]at this;show ĭ this
   have g:p≠x:=λe=>(î.mp n).1<|by rw[e];show Ì
   cases e:strKind.blt p.cps.toList x.cps.toList with
   |true=>show ô e
   |false=>
    have:=strKind.total _ _ e<|Ø f;show absurd (by
     have b:p.cps=x.cps:=Array.toList_inj.mp this
     cases h4:p;cases h5:x;rw[h4,h5]at b;simpa using b) g
  show ο.mpr #[λy hy=>?_,d];rcases Æ.mp hy with rfl|hy
  .show c
  .show List.lt_trans c<|(ο.mp d).1 y hy
theorem kI:∀{l:ϊ ϐ},sortedS l=true->l.Nodup->l.Pairwise oJ
 |[],_,_=>.nil
 |x::r,h,n=>lM x r h n
theorem uq{c:ϊ<|Key×ϋ}{a:ϊ ϋ}(s:KV (kvs.map λp=>((Sum.inr p.1:Key),p.2)) c)(o:↑a=↑c)(h:∀(j:Nat) v,a[j]?=!v->∃k x,c[j]?=!(k,x)/\(bw prog w).is k v=true):StrsAre a (kvs.map (·.1)):=by
 have g:c.map (·.1)=kvs.map λp=>(Sum.inr p.1:Key):=by rw[<-s.keys,Ä];rfl
 have b:↑a=↑kvs:=by rw[o,<-Qb (f:=(·.1)),g,Qb]
 have d:∀(j:Nat) v,a[j]?=!v->∃p,kvs[j]?=!p/\∃t,v=.str p.1 t:=by
  intro j v l;let#[k,x,u,m]:=h j v l;have n:(c.map (·.1))[j]?=!k:=by rw[À,u];rfl
  rw[g,À]at n;let#[p,z,rfl]:=Î.mp n;rw[iC]at m;rcases bu m with⟨i,t,e,_⟩|⟨y,t,e,ev⟩
  .show nomatch e
  .cases e;show#[p,z,t,ev]
 clear h g o s
 revert kvs
 induction a with
 |nil=>
  intro kvs b d
  cases kvs with
  |nil=>show .nil
  |cons=>simp at b
 |cons v r ih=>
  intro kvs b d
  cases kvs with
  |nil=>simp at b
  |cons p ps=>
   let#[q,A,t,rfl]:=d 0 v rfl
   cases A;show .cons _ _<|ih (by simpa using b) λj v l=>d (j+1) v l
theorem ur{a:ϊ<|Int×V}{d:ϊ<|Key×ϋ}{b:ϊ ϋ}(u:KV (a.map λp=>((Sum.inl p.1:Key),p.2)) d)(s:↑b=↑d)(h:∀(j:Nat) v,b[j]?=!v->∃k x,d[j]?=!(k,x)/\(bw prog w).is k v=true):IntsAre b (a.map (·.1)):=by
 have l:d.map (·.1)=a.map λp=>(Sum.inl p.1:Key):=by rw[<-u.keys,Ä];rfl
 have c:↑b=↑a:=by rw[s,<-Qb (f:=(·.1)),l,Qb]
 have g:∀(j:Nat) v,b[j]?=!v->∃p,a[j]?=!p/\∃t,v=.int p.1 t:=by
  intro j v m;let#[k,x,z,n]:=h j v m;have o:(d.map (·.1))[j]?=!k:=by rw[À,z];rfl
  rw[l,À]at o;let#[p,A,rfl]:=Î.mp o;rw[iC]at n;rcases bu n with⟨i,t,e,ev⟩|⟨y,t,e,_⟩
  .cases e;show#[p,A,t,ev]
  .show nomatch e
 clear h l s u
 revert a
 induction b with
 |nil=>
  intro a c g
  cases a with
  |nil=>show .nil
  |cons=>simp at c
 |cons v r ih=>
  intro a c g
  cases a with
  |nil=>simp at c
  |cons p ps=>
   let#[q,B,t,rfl]:=g 0 v rfl
   cases B;show .cons _ _<|ih (by simpa using c) λj v m=>g (j+1) v m
theorem rY{c:ϊ<|Key×ϋ}(f:KV (kvs.map λp=>((Sum.inr p.1:Key),p.2)) c)(h:(c.map (·.1)).Nodup):(kvs.map (·.1)).Nodup:=by
 have d:c.map (·.1)=(kvs.map (·.1)).map (Sum.inr:ϐ->Key):=by rw[<-f.keys,Ä,Ä];rfl
 rw[d]at h;show ħ (λ{a b} z e=>z<|by rw[e])<|ĝ.mp h
theorem GZ{c:ϊ<|Int×V}{d:ϊ<|Key×ϋ}(g:KV (c.map λp=>((Sum.inl p.1:Key),p.2)) d)(h:(d.map (·.1)).Nodup):(c.map (·.1)).Nodup:=by
 have f:d.map (·.1)=(c.map (·.1)).map (Sum.inl:Int->Key):=by rw[<-g.keys,Ä,Ä];rfl
 rw[f]at h;show ħ (λ{a b} z e=>z<|by rw[e])<|ĝ.mp h
theorem wD{X:Cx}(i:X.calm=true):bY X (.builtin "sorted") ul:=by
 intro E s σ H xs us Q I rv h;let#[a,f,rfl,e,M,q]:=h;let#[u,rfl,ru]:=rv.one
 cases(show u=Value.ref a from ru);let#[hz,r,ws,B,O]:=kj I.hok e;let#[ep,m]:=O.dictAt;have n:↑f=↑ws:=by have:=↑B;rw[Qb]at this;show this
 show j6 (C:=λk F=>∃c t,F={s with heap:=c,toks:=t}/\(∀b o,s.heap.get? b=!o->c.get? b=!o)/\s.heap.objs.size<=c.objs.size/\StrsAre k (f.map (·.1)))
  (Z:=λk _ g=>∃j,StrsAre g.toList j/\j.Perm (f.map (·.1))/\sortedS j=true) (λK R T=>?_) λk F N=>?_
 .show lK (A:=X.A.in1) (I.ok.hd i) r m (by rw[<-n,õ];rfl') λc t k y d Y hv=>T _ _ #[c,t,rfl,y,d,uq B Y hv]
 .obtain ⟨c,t,rfl,y,d,v⟩:=N;have ab:↑k=↑f:=by have:=Ö List.length v.strs;rw[Qb,Qb]at this;show this
  show#[(),λA' K P S=>?_,λg p=>?_]
  .show list_sort_treeK strKind_oneLt (Å _ rfl) v.keysOf (λG J rest e=>keyKind_strs<|by rw[<-e];show v) () λac hp hs=>?_
   let#[D,w,l,x]:=sorted_out_str v hp hs;show S _ #[D,w,l,x]
  .obtain ⟨j,w,l,x⟩:=p;let#[L,W]:=Fb c k g;have hr:H c.objs.size=none:=I.hok.fresh d;have z:j.Nodup:=l.nodup_iff.mpr<|rY B m.nodup;show#[.ref _,_,I.laid (t':=t) (a:=c.objs.size) (o:=.lst<|j.map V.str) (λb o U=>pN<|y b o U) d<|show ObjOk X.prog X.w _ _ _ (.lst _)from#[?_,g.toList,L,mG w,?_],rfl,q _ j l (kI x z) hr]
   .rw [Qb,l.length_eq,Qb,õ];rfl'
   .rw [W]
theorem wF{X:Cx}(i:X.calm=true):bY X (.builtin "sorted") uo:=by
 intro F s σ H xs us Q I rv h;let#[a,g,rfl,e,L,q]:=h;let#[u,rfl,ru]:=rv.one
 cases(show u=Value.ref a from ru);let#[hz,r,ws,B,N]:=kj I.hok<|.inl e;let#[ep,m]:=N.dictAt;have n:↑g=↑ws:=by have:=↑B;rw[Qb]at this;show this
 show j6 (C:=λk G=>∃d t,G={s with heap:=d,toks:=t}/\(∀b o,s.heap.get? b=!o->d.get? b=!o)/\s.heap.objs.size<=d.objs.size/\IntsAre k (g.map (·.1)))
  (Z:=λk _ c=>∃j,IntsAre c.toList j/\j.Perm (g.map (·.1))/\j.Pairwise (· <= ·)) (λJ R S=>?_) λk G M=>?_
 .show lK (A:=X.A.in1) (I.ok.hd i) r m (by rw[<-n,õ];rfl') λd t k x f W hv=>S _ _ #[d,t,rfl,x,f,ur B W hv]
 .obtain ⟨d,t,rfl,x,f,E⟩:=M;have ab:↑k=↑g:=by have:=↑E;rw[Qb]at this;show this
  show#[(),λA' J P O=>?_,λc p=>?_]
  .show list_sort_tree (Å _ rfl) E () λc D v l w=>O _ #[D,v,l,w]
  .obtain ⟨j,v,l,w⟩:=p;let#[K,U]:=Fb d k c;have Y:H d.objs.size=none:=I.hok.fresh f;have y:j.Nodup:=l.nodup_iff.mpr<|GZ B m.nodup;show#[.ref _,_,I.laid (t':=t) (a:=d.objs.size) (o:=.lst<|j.map V.int) (λb o T=>pN<|x b o T) f<|show ObjOk X.prog X.w _ _ _ (.lst _)from#[?_,c.toList,K,mF v,?_],rfl,q _ j l (ħ (R:=λa b=>a<=b/\a≠b) (λ{a b} z=>())<|List.Pairwise.and w y) Y]
   .rw [Qb,l.length_eq,Qb,õ];rfl'
   .rw [U]
end L2
namespace Sx
open PySem PyProof.Rows
section
def mH{a:ό}{d:ϊ ϋ}{n:Nat}{P:PySem.Fin->ώ->Prop}(M:s.heap.get? a=!(seqObj "list" d.toArray n))(m:↑d<64)(D:∀v∈d,Fs (mid s.heap a d) f v)(F:(d.map f).Nodup)
  (h:∀c:ϊ ϋ,c.Perm d->(c.map f).Pairwise (λa b=>a.cps.toList<b.cps.toList)->P (.done<|.ret .none) {s with heap:=sortedHeap s.heap a d c.toArray}):
  wpAny (model prog w) A (Builtin.«list.sort» #[[.ref a],[]]) P E s:=by
 show Ju (kd:=tuples' true) (a1p (f:=f)) M m (λB=>wC (s:={s with heap:=mid s.heap a d}) (by intro e;rw[e]at B;simp at B) D) (yS (s:={s with heap:=mid s.heap a d}) D F) λc I u=>?_
 have l:c.toList.Perm (d.zip d):=by
  have:=Ξ.mp I;rwa[pairsOf_toList]at this
 have g:∀p∈c.toList,p.1=p.2:=λp L=>(mem_zip_self<|l.mem_iff.mp L).1
 have k:(c.toList.map (·.2)).Perm d:=by
  have:=l.map (·.2);rwa[List.map_snd_zip<|Ã _]at this
 have N:c.size=↑d:=by rw[I.size_eq,pairsOf_size]
 have:=h (c.toList.map (·.2)) k ?_
 .rwa [show(c.toList.map (·.2)).toArray=c.map (·.2)by rw[<-Array.toList_map]]at this
 have t:((c.toList.map (·.2)).map f).Nodup:=((k.map f).nodup_iff).mpr F;rw[Ś];intro i j G H q;have o:i<c.size:=by simpa using G
 have r:j<c.size:=by simpa using H
 have x:=u i j (ì q) ();have J:gt c i=c[i]:=by unfold gt;rw[getElem?_pos _ i o];rfl
 have K:gt c j=c[j]:=by unfold gt;rw[getElem?_pos _ j r];rfl
 rw[J,K]at x;have y:((c.toList.map (·.2)).map f)[i]=f (c[i]).1:=by
  rw[g _ (by simp)];simp
 have z:((c.toList.map (·.2)).map f)[j]=f (c[j]).1:=by
  rw[g _ (by simp)];simp
 rw[y,z];have O:f (c[i]).1≠f (c[j]).1:=by
  intro e;have:=(ı (h₀:=G) (h₁:=H) t).mp (by rw[y,z,e]);rfl'
 unfold Bf at x
 cases e:strKind.blt (f (c[i]).1).cps.toList (f (c[j]).1).cps.toList with
 |true=>show ô e
 |false=>
  have:=strKind.total _ _ e x;show absurd (by
   have C:(f (c[i]).1).cps=(f (c[j]).1).cps:=Array.toList_inj.mp this
   cases h4:f (c[i]).1;cases h5:f (c[j]).1;rw[h4,h5]at C;simpa using C) O
end
end Sx
namespace L2
open PySem PySem.Spec PyProof.Rows
def Inv.laidN{X:Cx}{t':Nat}(I:Inv X gE j H s)(k:∀b u,s.heap.get? b=!u->g.get? b=!u)(a:∀b,b<s.heap.objs.size->d b=H b)
  (h:∀b o,s.heap.objs.size<=b->d b=!o->ObjOk X.prog X.w d g b o):Inv X gE j d {s with heap:=g,toks:=t'}:=by
 have f:∀b o,H b=!o->d b=!o:=λb o e=>by rw[a b<|I.hok.lt e];show e
 show I.un #[λb u q _ _ _=>k b u q,λb u q _ _ _=>#[u.slots,k b u q],λb u q n _=>by rw[a b<|É q];show n,λb u q _=>#[u,k b u q],λb i q=>f _ _ q,λb u i q=>f _ _ q,λb l q=>#[([].toArray),by rw[f _ _ q];simp]] λb u e=>?_
 rcases Nat.lt_or_ge b s.heap.objs.size with lt|ge
 .rw [a b lt]at e;show(I.hok b u e).stay (λc v _ q=>k c v q) (λc q=>f _ _ q) λc i q=>f _ _ q
 .show h b u ge e
noncomputable def qO(H:Hp)(r:ό)(zs:ϊ<|ό×ϐ×V):Hp:=λb=>if b=r then !(.lst<|zs.map λz=>V.ref z.1)else match zs.find? (λz=>decide<|z.1=b)with
 |some z=>!(.tup [.str z.2.1,z.2.2])
 |none=>H b
def Jw(a:(zs.map (·.1)).Nodup)(c:∀z∈zs,z.1≠r)(b:z∈zs):qO H r zs z.1=!(.tup [.str z.2.1,z.2.2]):=by
 unfold qO;rw[if_neg<|c z b];have:zs.find? (λy=>decide<|y.1=z.1)=!z:=by
  clear c;induction zs with
  |nil=>cases b
  |cons y r ih=>
   rw[È,î]at a;rw[ġ];rcases Æ.mp b with e|m
   .subst e;simp
   .have d:y.1≠z.1:=λe=>a.1<|by rw[e];show Zp.mpr #[z,m,rfl]
    rw[Ø d];show ih a.2 m
 rw[this]
def Jx(a:b≠r)(c:∀z∈zs,z.1≠b):qO H r zs b=H b:=by
 unfold qO;rw[if_neg a];have:zs.find? (λy=>decide<|y.1=b)=none:=Į.mpr λz d=>by simpa using c z d
 rw[this]
def Jy(a:b≠r)(c:H b=none)(e:qO H r zs b=!o):∃z∈zs,z.1=b/\o=.tup [.str z.2.1,z.2.2]:=by
 unfold qO at e;rw[if_neg a]at e
 cases q:zs.find? (λz=>decide<|z.1=b)with
 |none=>rw[q]at e;rw[c]at e;cases e
 |some z=>
  rw[q]at e
  cases e;have d:decide (z.1=b)=true:=by have:=Δ q;simpa using this
  show#[z,ē q,ô d,rfl]
def yU{c d:Type}{F:c->d->Prop}{a:ϊ c}{b:ϊ d}(r:Paired F a b):∀{i:Nat}{p:c}{q:d},a[i]?=!p->b[i]?=!q->F p q:=by
 induction r with
 |nil=>intro i p q h;simp at h
 |cons h t ih=>
  intro i p q e f
  cases i with
  |zero=>cases e;cases f;show h
  |succ i=>show ih e f
def rZ{X:Cx}(U:X.calm=true)(hg:Gl X "sorted")(hm:X.mg "sorted"=none)(ho:PE X o td)
  (T:attributeBase o "items" X.env (eval o X.env)=eval o X.env:=by rfl) (W:(d.endLine==l.line)=true:=by rfl)
  (he:starEach [.Call (.Attribute o "items" d) [] [] l] X.env=(false,eval (.Call (.Attribute o "items" d) [] [] l) X.env)::starEach [] X.env:=by rfl)
  (ax:backTo al (starEach [.Call (.Attribute o "items" d) [] [] l] X.env)=[(false,eval (.Call (.Attribute o "items" d) [] [] l) X.env)]:=by rfl):
  PE X (.Call (.Name "sorted" p) [.Call (.Attribute o "items" d) [] [] l] [] al) (oK td):=by
 intro N s σ H Q I h;show ļ (fG I hg hm (by ac_nf:bootBuiltins "sorted"=!(.builtin "sorted")) ?_ (by decide) (by decide));show Ů ?_ he rfl;rw[ax];show Ļ (ς T W (bB (ho N s σ H _ I h) λv w ⟨x,H1,J,r1,q1⟩=>?_));let#[a,c,rfl,e,am,q]:=q1
 cases(show v=Value.ref a from r1);let#[M,af,us,kv,hD]:=kj J.hok<|.inl e;let#[t1,t2,_]:=yO J<|.inl #[_,.inl e];show#["dict","dict.items",Ņ,υ,PySem.F.type_dict_items,t1,t2,ģ rfl<|PySem.evalArgs_none ?_];show call_meetsIn υ hD.typeIs PySem.F.entry_dict_items (PySem.F.args_dict_items_1 _) (meets_dict_items (bw X.prog X.w) a af) #[#[us,hD],?_];show ţ ?_;let#[ep,ab]:=hD.dictAt;have ad:↑c=↑us:=by have:=↑kv;rw[Qb]at this;show this
 have ar:us.map (·.1)=c.map λp=>(Sum.inr p.1:Key):=by rw[<-kv.keys,Ä];rfl
 have I2:Inv X N σ H1 {w with heap:=w.heap.push {cls:=.type "dict_items",data:=.fields<|[.ref a].toArray}}:=J.kept (t':=w.toks) λb ob q=>Jn _ q
 show j6 (C:=λvs s3=>∃m tk u,s3={w with heap:=m,toks:=tk}/\(∀b o,w.heap.get? b=!o->m.get? b=!o)/\w.heap.objs.size<=m.objs.size/\↑u=↑us/\PySem.W.KdxG (bw X.prog X.w) us w.heap.objs.size m u/\vs=u.map Value.ref)
  (Z:=λvs s3 ai=>∃n:ϊ ϋ,ai=n.toArray/\n.Perm vs/\(n.map<|rR s3.heap).Pairwise (λa b=>a.cps.toList<b.cps.toList)) (λE' R hR=>?_) λvs s3 hC=>?_
 .show PySem.W.kdx_collect (A:=X.A.in1) (knd:=bw X.prog X.w) (kvs:=us) (ep:=ep) (J.ok.hd U) #[_,Å _ rfl,rfl,rfl] (ab.push _) (by rw[<-ad,õ];rfl') λm tk u hk hl hG=>hR _ _ #[m,tk,u,rfl,λb o q=>hk b o<|Jn _ q,?_,hl,hG.low ?_,rfl]
  .show ì<|É<|hk w.heap.objs.size _<|Å _ rfl
  .show w.heap.objs.size<=(w.heap.push _).objs.size;rw[size_push'];rfl'
 .obtain ⟨m,tk,u,rfl,hk,ag,a5,hG,rfl⟩:=hC;have a4:∀(j:Nat)(b:ό) p,u[j]?=!b->c[j]?=!p->∃t B,m.get? b=!{cls:=.type "tuple",data:=.seq<|[.str p.1 t,B].toArray}/\RelV p.2 B:=by
   intro j b p K hp;let#[a7,k,x,O,S,e3]:=hG.pairs j b K;have e4:(us.map (·.1))[j]?=!k:=by rw[À,O];rfl
   rw[ar,À,hp]at e4
   cases e4;rw[iC]at S;rcases bu S with⟨i,t,e,_⟩|⟨y,t,e,ev⟩
   .show nomatch e
   .cases e;have hv:RelV p.2 x:=by
     have:=yU kv (i:=j) (p:=(Sum.inr p.1,p.2)) (q:=(Sum.inr p.1,x)) (by rw[À,hp];rfl) O;show this.2
    show#[t,x,by rw[<-ev];show e3,hv]
  have a6:↑c=↑u:=()
  have O:((u.zip c).map λq=>(q.1,q.2.1,q.2.2):ϊ<|ό×ϐ×V).map (·.1)=u:=by rw[Ä];show List.map_fst_zip ()
  have S:((u.zip c).map λq=>(q.1,q.2.1,q.2.2):ϊ<|ό×ϐ×V).map (·.2)=c:=by rw[Ä];show List.map_snd_zip ()
  have G:∀z∈((u.zip c).map λq=>(q.1,q.2.1,q.2.2):ϊ<|ό×ϐ×V),∃t B,m.get? z.1=!{cls:=.type "tuple",data:=.seq<|[.str z.2.1 t,B].toArray}/\RelV z.2.2 B:=by
   intro z M;let#[q,mq,rfl]:=Zp.mp M;let#[j,hj,ej]:=ÿ.mp mq;have hl:j<↑u/\j<↑c:=by rw[List.length_zip]at hj;rfl'
   rw[List.getElem_zip]at ej;have:=a4 j u[j] c[j] (Zl hl.1)<|Zl hl.2;rw[<-ej];show this
  generalize((u.zip c).map λq=>(q.1,q.2.1,q.2.2):ϊ<|ό×ϐ×V)=zs0 at O S G;have ay:u.map Value.ref=zs0.map λz=>Value.ref z.1:=by rw[<-O,Ä];rfl
  have ah:↑zs0<64:=by rw[<-Qb (f:=(·.2)),S];show am
  have D:∀z∈zs0,rR m (.ref z.1)=z.2.1:=λz M=>by
   let#[t,B,g,_]:=G z M;unfold rR;dsimp only;rw[g];rfl
  have ef:(zs0.map λz=>Value.ref z.1).map (rR m)=zs0.map (·.2.1):=by
   rw[Ä];show ė λz M=>D z M
  have av:(zs0.map (·.2.1)).Nodup:=by
   have:zs0.map (·.2.1)=c.map (·.1):=by rw[<-S,Ä];rfl
   rw[this];show rY kv ab.nodup
  have r:∀z∈zs0,w.heap.objs.size<z.1/\z.1<m.objs.size:=λz M=>by
   have:z.1∈u:=by rw[<-O];show Zp.mpr #[z,M,rfl]
   show#[hG.above _ this,hG.there this]
  have aw:(zs0.map (·.1)).Nodup:=by
   rw[O];show ħ (λ{a b} h e=>by rw[e]at h;show ą _ h) hG.rise
  rw[ay];show#[by rw[Qb];show ah,λA' E' P hP=>?_,λai ae=>?_]
  .show Sx.mH (f:=rR m) (Å _ rfl) (by rw[Qb];show ah) (λv hv=>?_) (by rw[ef];show av) λn hp hs=>hP _ #[n,rfl,hp,hs]
   let#[z,E,rfl]:=Zp.mp hv;let#[t,B,g,_]:=G z E;show#[z.1,{cls:=.type "tuple",data:=.seq<|[.str z.2.1 t,B].toArray},([.str z.2.1 t,B].toArray),t,_,[B],rfl,?_,rfl,rfl,by rw[D z E]];unfold Sx.mid;show Jn _<|Jn _ ?_;rw[Heap.get?_update_ne _ _ _ _<|Ú (r z E).2];show Jn _ g
  .obtain ⟨n,rfl,hp,hs⟩:=ae;let#[F,Y,rfl]:=Q3 hp.symm rfl;have es:(F.map λz=>Value.ref z.1).map (rR m)=F.map (·.2.1):=by
    rw[Ä];show ė λz a3=>D z<|Y.mem_iff.mp a3
   rw[es]at hs;let#[ee,ap]:=Fb m (zs0.map λz=>Value.ref z.1) (F.map λz=>Value.ref z.1).toArray;have hr:H1 m.objs.size=none:=J.hok.fresh ag;have a2:∀z∈F,z.1≠m.objs.size:=λz E=>Ú (r z<|Y.mem_iff.mp E).2
   have a1:(F.map (·.1)).Nodup:=((Y.map _).nodup_iff).mpr aw;have L:∀b,b<w.heap.objs.size->qO H1 m.objs.size F b=H1 b:=λb K=>Jx (Ú<|Ó K ag) λz E=>ě<|Υ K (r z<|Y.mem_iff.mp E).1
   show#[.ref _,qO H1 m.objs.size F,J.laidN (t':=tk) (λb o K=>pN<|hk b o K) L λb o K eo=>?_,rfl,q _ F _ (by rw[<-S];show Y.map _) hs hr (λb o eb=>by rw[L b<|J.hok.lt eb];show eb) (by unfold qO;rw[if_pos rfl]) λz E=>Jw a1 a2 E];by_cases ac:b=m.objs.size
   .subst ac;have:o=.lst (F.map λz=>V.ref z.1):=by unfold qO at eo;rw[if_pos rfl]at eo;cases eo;rfl
    subst this;show#[by rw[Qb,Y.length_eq,õ];rfl',_,ee,rT (g:=λz=>z.1) F,ap]
   .obtain ⟨z,E,ez,rfl⟩:=Jy ac (J.hok.fresh K) eo;let#[t,B,g,rv]:=G z<|Y.mem_iff.mp E;rw[<-ez];show#[by change 2<=_;rw[õ];decide,[.str z.2.1 t,B],.cons #[t,rfl]<|.cons rv .nil,_,pN g,rfl,_,rfl]
def Jz{X:Cx}(C:X.calm=true):bY X (.builtin "all") (Q4 X.K):=by
 intro w s P H O N Q I K h;let#[a,d,rfl,p,q]:=h;let#[u,rfl,J]:=K.one
 cases(show u=Value.ref a from J);let#[c,r,k,G]:=I.list p;have l:a<s.heap.objs.size:=by let#[o,F,_]:=k.isList;show É F
 have j:c=d.map Value.bool:=by
  clear q p k G;induction d generalizing c with
  |nil=>cases r;rfl
  |cons b d ih=>
   cases r with
   |cons h t=>rw[ih _ t,È];congr 1
 have f:∀i v,c.toArray[i]?=!v->v=Value.bool ((d[i]?).getD true):=λi v n=>by
  rw[j,Ĺ,À]at n;let#[b,x,y]:=Î.mp n;rw[x,<-y];rfl
 show call_all_walk<|Ţ k.isList ?_;show#[_,_,_,_,_,_,λi=>(d[i]?).getD true,rfl,Walks.list (A:=X.A.in1) (I.ok.hd C) s.heap.objs.size a (Ú l) c.toArray,#[#[_,Å _ rfl,rfl,rfl],k.isList.push _],λi v s Q E z B=>by rw[f i v z];show ć B,λM L D=>?_];have e:(List.range c.toArray.size).all (λi=>(d[i]?).getD true)=d.all id:=by
  rw[j,Õ,Qb];rw[θ,Φ,Φ];constructor
  .intro h b f;let#[i,g,e]:=ÿ.mp f;have:=h i<|ñ.mpr g;rw[Zl g,e]at this;show this
  .intro h i g;have g:=ñ.mp g;rw[Zl g];show h _<|Û g
 rw[e];show#[.bl _,H,I.kept (t':=L) λb o f=>D b o (λm=>by rw[Zs.mp m]at f;show absurd (É f)<|ą _)<|Jn _ f,rfl,q]
def Ha{X:Cx}(K:Ϗ)(a:X.K=K)(b:X.calm=true):bY X (.builtin "all") (Q4 K):=a▸Jz b
end L2
end
section
namespace Sy
open PySem PyProof.Rows
variable{n:Nat}{a:ό}{h₀:ϒ}{v:ϋ}{T:String}{R:Result->ώ->Prop}{Q:ύ ϋ->ώ->Prop}
theorem sr:entryFor table "dict.update.loop"=some Builtin.«dict.update.loop»:=entryFor_of_tree<|by kernel_rfl
theorem jP:plainId "dict.update.loop"=true:=by ac_nf
theorem JB:typeLookup (.type "tuple") "keys"=pure none:=am_miss_of_fast<|by ac_nf
theorem Us:typeLookup (.type "tuple") "__getattr__"=pure none:=by rw[ι,ř];kernel_rfl
theorem JC:typeLookup (.type "list") "keys"=pure none:=am_miss_of_fast<|by ac_nf
theorem Ut:typeLookup (.type "list") "__getattr__"=pure none:=by rw[ι,ř];kernel_rfl
theorem stored_new{K:Type}[DecidableEq K]{a:ϊ<|K×ϋ}{k:K}(h:k∉a.map (·.1)):stored a k v=a++[(k,v)]:=by
 unfold stored;rw[if_neg];intro z;let#[p,m,e]:=List.any_eq_true.mp z;show h<|Zp.mpr #[p,m,ô e]
section
variable{prog:ϓ}{w:ϕ}{A:ϖ}{E:϶}{s:ώ}
theorem JD(a:ό)(o:Obj)(f:ϔ ϋ)(n:Nat)(k:o.cls=.type "tuple")(l:o.dict=none)(b:o.data=.seq f n)(u:Tok):Meets (Builtin.«object.__getattribute__» #[[.ref a,.str "keys" u],[]]) (λA R s=>s.heap.get? a=!o/\raisesAttr (.ref a) "keys" A R s):=
 Meets.of_wp λm w A R s c=>by
  let#[q,g,d,t,r]:=s;let#[e,c]:=c;dsimp only at e;let#[p,j,i,h]:=o;simp only at k l b;subst k l b;have x:(⟨q,g,d,t,r⟩:ώ).TypeIs (.ref a) "tuple":=#[_,e,rfl];have v:=JB;unfold Builtin.«object.__getattribute__»;repeat(any_goals(first|assumption|wp_step|(show PySem.AutoSeq1.wpAny_loadPart' e ?_)))
  show wpAny_raiseAttrError c.1 c.2<|attrMsg_fits (by ac_nf)<|by rw[õ];decide+kernel
theorem Q5(r:A.handled=none)(f:s.heap.get? a=!o)(h:o.cls=.type "tuple")(i:o.dict=none)(c:o.data=.seq its n)
  (q:∀h' tk,(∀b ob,s.heap.get? b=!ob->h'.get? b=!ob)->Q none {s with heap:=h',toks:=tk}):wpAny (model prog w) A (getAttr? (.ref a) "keys") Q E s:=by
 let#[t,g,d,tk,v]:=s;dsimp only at f;have M:=λu=>JD a o its n h i c u
 let#[p,l,k,j]:=o;simp only at h i c;subst h i c;have m:∀tk,(⟨t,g,d,tk,v⟩:ώ).TypeIs (.ref a) "tuple":=λ_=>#[_,f,rfl]
 have y:=sub_AttributeError;have z:=F.slot_tuple_getattribute.lookup;have B:=F.slot_tuple_getattribute.bind<|.ref a;have C:=Us;unfold getAttr? getAttrBy? getAttrBy;repeat(any_goals(first|assumption|show m _|((with_reducible change wpAny _ _ (call (Value.builtin "tuple.__getattribute__") _ _) _ _ _);show call_meets F.slot_tuple_getattribute (m _) F.entry_tuple_ga (F.args_tuple_getattribute_2 _ _) (M _) ⟨f,r,λh' x e f=>?_⟩)|wp_step))
 let#[G,H,D]:=f.there;change wpAny _ _ (getattributeRaised _ _ _ _ _ _ _) _ _ _;unfold getattributeRaised;repeat(any_goals(first|assumption|wp_step))
 show q _ _ f.keeps
theorem JF(a:ό)(o:Obj)(f:ϔ ϋ)(n:Nat)(k:o.cls=.type "list")(l:o.dict=none)(b:o.data=.seq f n)(u:Tok):Meets (Builtin.«object.__getattribute__» #[[.ref a,.str "keys" u],[]]) (λA R s=>s.heap.get? a=!o/\raisesAttr (.ref a) "keys" A R s):=
 Meets.of_wp λm w A R s c=>by
  let#[q,g,d,t,r]:=s;let#[e,c]:=c;dsimp only at e;let#[p,j,i,h]:=o;simp only at k l b;subst k l b;have x:(⟨q,g,d,t,r⟩:ώ).TypeIs (.ref a) "list":=#[_,e,rfl];have v:=JC;unfold Builtin.«object.__getattribute__»;repeat(any_goals(first|assumption|wp_step|(show PySem.AutoSeq1.wpAny_loadPart' e ?_)))
  show wpAny_raiseAttrError c.1 c.2<|attrMsg_fits (by ac_nf)<|by rw[õ];decide+kernel
theorem JG(r:A.handled=none)(f:s.heap.get? a=!o)(h:o.cls=.type "list")(i:o.dict=none)(c:o.data=.seq its n)
  (q:∀h' tk,(∀b ob,s.heap.get? b=!ob->h'.get? b=!ob)->Q none {s with heap:=h',toks:=tk}):wpAny (model prog w) A (getAttr? (.ref a) "keys") Q E s:=by
 let#[t,g,d,tk,v]:=s;dsimp only at f;have M:=λu=>JF a o its n h i c u
 let#[p,l,k,j]:=o;simp only at h i c;subst h i c;have m:∀tk,(⟨t,g,d,tk,v⟩:ώ).TypeIs (.ref a) "list":=λ_=>#[_,f,rfl]
 have y:=sub_AttributeError;have z:=F.slot_list_getattribute.lookup;have B:=F.slot_list_getattribute.bind<|.ref a;have C:=Ut;unfold getAttr? getAttrBy? getAttrBy;repeat(any_goals(first|assumption|show m _|((with_reducible change wpAny _ _ (call (Value.builtin "list.__getattribute__") _ _) _ _ _);show call_meets F.slot_list_getattribute (m _) F.entry_list_ga (F.args_list_getattribute_2 _ _) (M _) ⟨f,r,λh' x e f=>?_⟩)|wp_step))
 let#[G,H,D]:=f.there;change wpAny _ _ (getattributeRaised _ _ _ _ _ _ _) _ _ _;unfold getattributeRaised;repeat(any_goals(first|assumption|wp_step))
 show q _ _ f.keeps
theorem JH{K:Type}[DecidableEq K]{knd:PySem.KeyKind prog w K}{I D:ό}{fp B:ϊ ό}{c:ϊ<|ό×ϋ×K×ϋ}{St:Nat->ϒ->Prop}
  (W:Walks prog w A.in1 I fp B ↑c (λi v=>∃z,c[i]?=!z/\v=.ref z.1) St) (E:D∉fp)
  (hz:∀z∈c,z.1∉D::B/\knd.is z.2.2.1 z.2.1=true/\∃o n,h₀.get? z.1=!o/\o.cls=.type "tuple"/\o.data=.seq ([z.2.1,z.2.2.2].toArray) n) (U:(c.map (·.2.2.1)).Nodup) (ab:↑c<=sizeLine) (L:ϋ)
  (hR:∀h' f,h'.DictOf knd D (c.map λz=>(z.2.2.1,z.2.2.2))->(∀b o,b∉D::B->h₀.get? b=!o->h'.get? b=!o)->R (.ok<|.ret L) {s with heap:=h',toks:=f}):
  ∀(k i:Nat)(h:ϒ)(tk:Nat)(j:Int),↑c-i=k->i<=↑c->St i h->h.DictOf knd D ((c.take i).map λz=>(z.2.2.1,z.2.2.2))->(∀b o,b∉D::B->h₀.get? b=!o->h.get? b=!o)->
   codeAny (model prog w) A (.builtin "dict.update.loop" #[[.ref D,.ref I,.int j 0,L],[]]) R {s with heap:=h,toks:=tk}:=by
 have F:D∉B:=λm=>E<|W.sub _ m
 have x:∀{b},b∉D::B->b∉B:=λ{b} n m=>n<|Ç _ m
 intro k;induction k with
 |zero=>
  intro i h tk j hk hi u M a;have S:i=↑c:=()
  subst S;rw[Þ]at M;show Ć sr ?_;rw[ù jP _];change wpAny _ A.in1 (pyNext (.ref I)>>=_) _ _ _;show Qr (W.done {s with heap:=h,toks:=tk} _ _ u λh' f d=>?_);change wpAny _ A.in1 (Builtin.Dict.addKeywords D []>>=_) _ _ _;show Qr (Xs (Xs (hR h' f ?_ λb o g e=>d b o (x g)<|a b o g e)));let#[o,O,N,X,r]:=M;show#[o,O,N,d D o F X,r]
 |succ k ih=>
  intro i h tk j hk hi u M a;have G:i<↑c:=()
  show Ć sr ?_;rw[ù jP _];change wpAny _ A.in1 (pyNext (.ref I)>>=_) _ _ _;show Qr (W.item i {s with heap:=h,toks:=tk} _ _ G u λv h' f hP J d=>?_);let#[z,Z,rfl]:=hP;have hm:=Wp Z;let#[n1,n2,o,n,g1,g2,g3]:=hz z hm;have C:h'.get? z.1=!o:=d _ _ (x n1)<|a _ _ n1 g1;have Q:h'.DictOf knd D ((c.take i).map λz=>(z.2.2.1,z.2.2.2)):=by
   let#[o,O,N,X,r]:=M;show#[o,O,N,d D o F X,r]
  show Qr<|ð ?_;show Qr<|wpAny_tryCatch ?_;unfold Builtin.Dict.pairItems;show Qr<|ŵ (T:="tuple") #[o,C,g2] ?_;rw[if_pos (by decide)];show Qr ?_;unfold seqItems?;show Qr<|wpAny_load C ?_;rw[g3];show Xs<|Xs ?_;change wpAny _ _ (holding [z.2.1,z.2.2.2]<|dictSet D z.2.1 z.2.2.2) _ _ _;show ð (wpAny_dictSet_pairs n2 Q (λP l t=>?_) (by rw[Qb,Ñ];rfl'));have Y:c.take (i+1)=c.take i++[z]:=by rw[Ò,Z];rfl
  have H:z.2.2.1∉((c.take i).map λz=>(z.2.2.1,z.2.2.2)).map (·.1):=by
   intro m;rw[Ä]at m;let#[y,my,ey]:=Zp.mp m;have p:((c.take<|i+1).map (·.2.2.1)).Nodup:=Ĕ ((Đ _ _).map _) U;rw[Y,Á,ä]at p;show p.2.2 _ (Zp.mpr #[y,my,rfl]) z.2.2.1 (by simp) ey
  rw[stored_new H]at l;show Xs #[plainId_quiet jP _,ih (i+1) P _ (j+1) () G (W.frame _ _ _ J λb g o e=>?_) (by rw[Y,Á];show l) λb o g e=>?_]
  .rw [t.2 b (λq=>E (by rw[<-q];show g))];show e
  .rw [t.2 b (λq=>g (by rw[q];show Ì))];show d b o (x g)<|a b o g e
theorem oh{K:Type}[DecidableEq K]{knd:PySem.KeyKind prog w K}(N:T="tuple"\/T="list"){d:ϊ<|ό×ϋ×K×ϋ}{Q:϶}(G:A.handled=none)(hx:s.heap.get? a=!o)(p:o.cls=.type T)(hd:o.dict=none)(f:o.data=.seq (d.map λz=>Value.ref z.1).toArray n)
  (hz:∀z∈d,knd.is z.2.2.1 z.2.1=true/\∃o n,s.heap.get? z.1=!o/\o.cls=.type "tuple"/\o.data=.seq ([z.2.1,z.2.2.2].toArray) n) (O:(d.map (·.2.2.1)).Nodup) (P:↑d<=sizeLine)
  (B:∀h' tk,h'.DictOf knd s.heap.objs.size (d.map λz=>(z.2.2.1,z.2.2.2))->(∀b o,s.heap.get? b=!o->h'.get? b=!o)->Q (.ref s.heap.objs.size) { s with heap:=h',toks:=tk}):
  wpAny (model prog w) A (call (.type "dict") [.ref a]) Q E s:=by
 show callType_codes (Q₁:=λL l=>L=.ref s.heap.objs.size/\l={ s with heap:=s.heap.push { cls:=.type "dict",data:=.dict<|[].toArray}}) F.kt_called_dict (F.kt_typeCall_dict_1 _) F.entry_dict_init (kt_code_dict_new _ ⟨rfl,rfl⟩) ?_;rintro L l ⟨rfl,rfl⟩;have C:a<s.heap.objs.size:=É hx;have h:(s.heap.push { cls:=.type "dict",data:=.dict<|[].toArray}).DictOf knd s.heap.objs.size []:=Heap.DictOf.new s.heap;have u:(s.heap.push { cls:=.type "dict",data:=.dict<|[].toArray}).get? a=!o:=Jn _ hx;show#[h.typeIs,F.args_dict_init_2 _ _,?_];unfold Builtin.«dict.__init__»;show Qr ?_;unfold Builtin.Dict.selfAndRest;show Qr<|ĸ h.typeIs ?_;change wpAny _ _ (pure (s.heap.objs.size,[Value.ref a])) _ _ _;show Xs ?_;change wpAny _ _ (Builtin.Dict.updateFrom "dict.__init__" s.heap.objs.size (.ref a) [] .none) _ _ _;unfold Builtin.Dict.updateFrom;show Qr<|ŵ (T:=T) #[o,u,p] ?_;rw[if_pos<|by rcases N with rfl|rfl<;>decide];have nk:∀{A:ϖ}{E:϶}{s:ώ}{Q:ύ ϋ->ώ->Prop},A.handled=none->s.heap.get? a=!o->(∀h' tk,(∀b ob,s.heap.get? b=!ob->h'.get? b=!ob)->Q none { s with heap:=h',toks:=tk})->wpAny (model prog w) A (getAttr? (.ref a) "keys") Q E s:=by
  rcases N with rfl|rfl
  .show λc M=>Q5 c M p hd f
  .show λc M=>JG c M p hd f
 show Qr<|nk G u λc ab j=>?_;rw[if_pos<|show(none:ύ ϋ).isNone=true from rfl];show Qr<|Ĭ ?_;have q:s.heap.objs.size<c.objs.size:=É<|j s.heap.objs.size _<|Å _ rfl;have I:a≠c.objs.size:=Ú<|Υ C q;have y:(d.map λz=>Value.ref z.1).toArray.size=↑d:=by simp
 have it:∀{Y:ϖ}{E:϶}{s:ώ}{Q:϶},s.heap=c->A.handled=none->(∀(ob:Obj) St,Walks prog w A.in1.in1 c.objs.size [c.objs.size,a] [c.objs.size] (d.map λz=>Value.ref z.1).toArray.size (λi v=>(d.map λz=>Value.ref z.1).toArray[i]?=!v) St->St 0 (c.push ob)->Q (.ref c.objs.size) { s with heap:=c.push ob})->wpAny (model prog w) Y (pyIter<|.ref a) Q E s:=by
  have g:=j _ _ u;rintro Y E s Q rfl G k;rcases N with rfl|rfl
  .have t:s.heap.IsTuple a (d.map λz=>Value.ref z.1).toArray:=#[o,g,p,n,f];show ĺ t<|k _ _ (Walks.tuple (A:=A.in1.in1) G _ a I _) #[#[_,Å _ rfl,rfl,rfl],#[o,Jn _ g,p,n,f]]
  .have t:s.heap.IsList a (d.map λz=>Value.ref z.1).toArray:=#[o,g,p,n,f];show Ţ t<|k _ _ (Walks.list (A:=A.in1.in1) G _ a I _) #[#[_,Å _ rfl,rfl,rfl],#[o,Jn _ g,p,n,f]]
 show Qr<|it rfl G λio St x U=>?_;have W:Walks prog w A.in1.in1 c.objs.size [c.objs.size,a] [c.objs.size] ↑d (λi v=>∃z,d[i]?=!z /\ v=.ref z.1) St:=
  { sub:=x.sub,frame:=x.frame,self:=x.self
    item:=λi s Q E hi S B=>x.item i s Q E (by rw[y];show hi) S λv h' tk hP=>B v h' tk (by
      rw[Ĺ,À]at hP;let#[z,e1,e2]:=Î.mp hP;show#[z,e1,e2.symm])
    done:=λs Q E S B=>x.done s Q E (by rw[y];show S) B}
 have H:∀b ob,s.heap.get? b=!ob->(c.push io).get? b=!ob:=λb ob e=>Jn _<|j b ob<|Jn _ e
 have J:∀b ob,s.heap.get? b=!ob->b∉[s.heap.objs.size,c.objs.size]:=λb ob e m=>by
  have:=É e;simp only[Æ,á,ĕ]at m;rcases m with rfl|rfl
  .show ą _ this
  .show ą _<|Υ this q
 show Xs #[plainId_quiet jP _,JH (s:=s) (A:=A.in1) (knd:=knd) (D:=s.heap.objs.size) (h₀:=c.push io) W ?_ (λz m=>?_) O P .none (λh' X hD hk=>#[rfl,B h' X hD λb ob e=>hk b ob (J b ob e)<|H b ob e]) ↑d 0 _ _ 0 rfl (â _) U ?_ λ_ _ _ e=>e]
 .simp only[Æ,á,ĕ,not_or];show#[Nat.ne_of_lt q,ě C]
 .obtain ⟨n1,R,n',Z,g2,g3⟩:=hz z m;show#[J _ _ Z,n1,R,n',H _ _ Z,g2,g3]
 .obtain ⟨R,es,ep,ho,r⟩:=h;show#[R,es,ep,Jn _<|j _ _ ho,r]
end
end Sy
namespace L2
open PySem PySem.Spec PyProof.Rows
variable{H:Hp}{σ:St}{tg:Expr}{w:ϕ}{a i:ό}{b v:ϋ}{prog:ϓ}{R:It->Hp->Prop}{kvs:ϊ (Key×V)}{gE:Ϸ}{E:϶}{Q:ύ ϋ->ώ->Prop}
def Fd(K:Ϗ):ϊ V->Hp->VK->Prop:=λxs H Q=>∃p ys,xs=[.ref p]/\SqL K H p ys/\∀l (ob:Obj),ob.dict=none->H l=none->Q (.ref l) (upd H l<|.frz ob<|.tup ys)
theorem Hb{X:Cx}:bY X (.type "tuple") (Fd X.K):=by
 intro a s k H y x Q I r h;let#[p,j,rfl,m,q]:=h;let#[u,rfl,w]:=vals1 r
 cases w;let#[c,i,v,n]:=I.list m;have g:=↑i;show call_tuple_list v.isList (λd t=>?_) (by simp only[Õ]<;>rfl');have f:Inv X a k H {s with heap:=d}:=I.kept (t':=s.toks) t;have l:Inv X a k (upd H d.objs.size<|.frz {cls:=.type "tuple",data:=.seq c.toArray}<|.tup j) {s with heap:=d.push {cls:=.type "tuple",data:=.seq c.toArray}}:=
  f.laid (t':=s.toks) (λb o e=>Jn _ e) (Ã _)<|show ObjOk X.prog X.w _ _ _ (.frz _<|.tup j)from#[Heap.get?_push_size _ rfl,n,c,i,IsTup.new _ _]
 show#[.ref d.objs.size,_,l,rfl,q _ _ rfl<|f.hok.fresh<|Ã _]
def yV{X:Cx}(K:Ϗ)(a:X.K=K):bY X (.type "tuple") (Fd K):=a▸Hb
def j7(K:Ϗ):ϊ V->Hp->VK->Prop:=λxs H Q=>∃(a:ό)(zs:ϊ<|ό×ϐ×V),xs=[.ref a]/\((∃ob:Obj,ob.dict=none/\H a=!(.frz ob (.tup (zs.map λz=>V.ref z.1))))\/H a=!(.lst (zs.map λz=>V.ref z.1)))/\(∀z∈zs,SqT K H z.1 [.str z.2.1,z.2.2])/\(zs.map (·.2.1)).Nodup/\↑zs<=1000/\∀r,H r=none->Q (.ref r) (upd H r (.dK (zs.map λz=>(Sum.inr z.2.1,z.2.2))))
theorem wG{X:Cx}(C:X.calm=true):bY X (.type "dict") (j7 X.K):=by
 intro M s σ H xs us Q I r h;let#[a,d,rfl,ha,L,k,Y,q]:=h;let#[u,rfl,rx]:=vals1 r
 cases rx;let#[T,S,o,n,i,g,j,c]:∃T,(T="tuple"\/T="list")/\∃(o:Obj)(n:Nat),s.heap.get? a=!o/\o.cls=.type T/\o.dict=none/\o.data=.seq (d.map λz=>Value.ref z.1).toArray n:=by
  rcases ha with⟨ob,j,ha⟩|ha
  .obtain ⟨i,_,F,J,o',l,g,n,c⟩:=I.hok a _ ha;rw[i]at l
   cases l;rw[pM J]at c;show#[_,.inl rfl,_,n,i,g,j,c]
  .obtain ⟨_,F,n,J,i⟩:=(show ObjOk X.prog X.w H s.heap a (.lst<|d.map λz=>V.ref z.1)from I.hok a _ ha);rw[pM J]at i;show#[_,.inr rfl,_,n,i,rfl,rfl,rfl]
 have K:∀z∈d,∃t v,RelV z.2.2 v/\∃o n,s.heap.get? z.1=!o/\o.cls=.type "tuple"/\o.data=.seq ([.str z.2.1 t,v].toArray) n:=λz m=>by
  let#[is,G,p1,_]:=I.tuple<|L z m;let#[o,Z,C,n,U]:=p1
  cases G with
  |cons r2 rr=>
   let#[t,rfl]:=r2
   cases rr with
   |cons r3 r4=>
    cases r4;show#[t,_,r3,o,n,Z,C,U]
 have D:∃f:ϊ<|ό×ϋ×Key×ϋ,f.map (λw=>Value.ref w.1)=d.map (λz=>Value.ref z.1)/\f.map (·.2.2.1)=d.map (λz=>(Sum.inr z.2.1:Key))/\KV (d.map λz=>((Sum.inr z.2.1:Key),z.2.2)) (f.map λw=>(w.2.2.1,w.2.2.2))/\∀w∈f,lC w.2.2.1 w.2.1=true/\∃o n,s.heap.get? w.1=!o/\o.cls=.type "tuple"/\o.data=.seq ([w.2.1,w.2.2.2].toArray) n:=by
  clear ha k Y q c L;induction d with
  |nil=>show#[[],rfl,rfl,.nil,by simp]
  |cons z d ih=>
   let#[f,p,x,A,B]:=ih λy my=>K y<|Ç _ my
   let#[t,v,G,o,n,N,O,P]:=K z Ì;show#[(z.1,.str z.2.1 t,Sum.inr z.2.1,v)::f,by rw[È,È,p],by rw[È,È,x],.cons #[rfl,G] A,λw mw=>?_];rcases Æ.mp mw with rfl|mw
   .show #[qR _ _,o,n,N,O,P]
   .show B w mw
 let#[f,p,x,A,B]:=D;rw[<-p]at c;have E:↑f=↑d:=by have:=Ö List.length p;rw[Qb,Qb]at this;show this
 show Sy.oh (knd:=bw X.prog X.w) S (I.ok.hd C) i g j c B (by rw[x,show(d.map λz=>(Sum.inr z.2.1:Key))=(d.map (·.2.1)).map Sum.inr by rw[Ä];rfl];show ĝ.mpr<|ħ (λ{a b} h e=>h<|İ e) k) (by rw[E,õ];rfl') λh' tk R W=>?_
 show#[.ref _,_,I.laid (t':=tk) (o:=.dK<|d.map λz=>((Sum.inr z.2.1:Key),z.2.2)) W (Ã _)<|show ObjOk X.prog X.w _ _ _ (.dK _)from#[by rw[Qb,õ];rfl',?_,_,A,R],rfl,q _<|I.hok.fresh<|Ã _];show ŋ.mpr<|ě I.big
def j8{X:Cx}(K:Ϗ)(a:X.K=K)(b:X.calm=true):bY X (.type "dict") (j7 K):=a▸wG b
structure Drw(prog:ϓ)(w:ϕ)(i l:ό)(xs:ϔ ϋ)(St:Nat->ϒ->Prop):Prop where
 keep:∀k h h',St k h->(∀c,c=i\/c=l->∀o,h.get? c=!o->h'.get? c=!o)->St k h'
 item:∀(A:ϖ)(s:ώ) k x (Q:϶) (E:϶),St k s.heap->xs[k]?=!x->(∀h',St (k+1) h'->Heap.SameBut i s.heap h'->Q x {s with heap:=h'})->
  wpAny (model prog w) A (Builtin.SmallTypes.nextOf<|.ref i) Q E s
 stop:∀(A:ϖ)(s:ώ) k (Q:϶) (E:϶),A.handled=none->St k s.heap->xs[k]?=none->(∀h' e,Heap.ExtBut i s.heap h'->(∃o,h'.get? e=!o/\o.cls=.type "StopIteration")->E (.ref e) {s with heap:=h'})->
  wpAny (model prog w) A (Builtin.SmallTypes.nextOf<|.ref i) Q E s
theorem Drw.but{l b:ό}{m:ϔ ϋ}{St:Nat->ϒ->Prop}(D:Drw prog w i l m St){k:Nat}{h a:ϒ}(j:St k h)(e:Heap.ExtBut b h a)(f:i≠b)(g:l≠b):St k a:=
 D.keep k h a j λc d o q=>e c o (by rcases d with rfl|rfl;show f;show g) q
theorem JK(d:l≠i):Drw prog w i l m λk h=>h.IsListIter i l k/\h.IsList l m where
 keep:=λk h g c j=>#[c.1.at λo e=>j i (.inl rfl) o e,c.2.at λo e=>j l (.inr rfl) o e]
 item:=λA s k x Q E c f p=>wpAny_nextOf_list_item c.1 c.2 f λg a b=>p g #[a,c.2.extBut b.extBut d] b
 stop:=λA s k Q E q c f n=>wpAny_nextOf_list_end q c.1 c.2 f n
theorem Q6(p:l≠i):Drw prog w i l y λk h=>h.IsTupleIter i l k/\h.IsTuple l y where
 keep:=λk h H j v=>#[j.1.at λo e=>v i (.inl rfl) o e,by let#[o,e,q]:=j.2;show#[o,v l (.inr rfl) o e,q]]
 item:=λA s k x Q E j r C=>by
  let#[b,n]:=j;let#[o,d,t,c]:=id b;let#[G,g,_,D,f]:=id n;unfold Builtin.SmallTypes.nextOf;show Qr<|wpAny_callSpecial?_slot (name:=Str.ofString "__next__") b.typeIs Ŗ<|æ Ŗ b.typeIs F.entry_tuple_iterator_next ?_<|F.args_tuple_iterator_next_1 _;show Qr (m:=field (.ref i) 0)<|č d c (x:=.ref l) rfl ?_;change wpAny _ _ (if(Value.ref l==Value.none)=true then _ else _) _ _ s;rw[if_neg (by intro z;cases z)];show Qr (m:=field (.ref i) 1)<|č d c (x:=.int k 0) rfl ?_;show Qr (m:=seqItems?<|.ref l)<|ď g f ?_;simp only[Ô,r];show Qr (ĩ d c (by simp)<|Xs #[x,rfl,Xs<|C _ #[?_,n.extBut (å ..).extBut p]<|å ..]);show#[_,ë _ d<|ķ<|ö c _,(Ι ..).trans t,by rw[ö c];simp[rawInt]]
 stop:=λA s k Q E u j r B=>by
  let#[b,n]:=j;let#[o,d,t,c]:=id b;let#[G,g,_,D,f]:=id n;unfold Builtin.SmallTypes.nextOf;show Qr<|wpAny_callSpecial?_slot (name:=Str.ofString "__next__") b.typeIs Ŗ<|æ Ŗ b.typeIs F.entry_tuple_iterator_next ?_<|F.args_tuple_iterator_next_1 _;show Qr (m:=field (.ref i) 0)<|č d c (x:=.ref l) rfl ?_;change wpAny _ _ (if(Value.ref l==Value.none)=true then _ else _) _ _ s;rw[if_neg (by intro z;cases z)];show Qr (m:=field (.ref i) 1)<|č d c (x:=.int k 0) rfl ?_;show Qr (m:=seqItems?<|.ref l)<|ď g f ?_;simp only[Ô,r];show Qr (Ĭ (Qr (ĩ d c (by simp) ?_)));show Qr (m:=newExc (.type "StopIteration") []) ?_;simp only[newExc,newTuple];show Qr (ç ?_ (by size_fits));show Qr (m:=firstArgMember _ _) (τ (a:=Value.none) (by first|rfl|(simp only[firstArgMember];rfl)) ?_);show ç ?_ (by size_fits);simp only[raiseNew];show Qr<|wpAny_handled ?_
  first| rw[show A.in1.handled=none from u]| rw[u]
  show Qr<|Xs<|wpAny_throw<|B _ _ (((å ..).extBut.push _).push _) #[_,Å _ rfl,rfl]
section
variable{prog:ϓ}{w:ϕ}{A:ϖ}{E:϶}{s:ώ}{z TI TO i1 i2 l1 l2:ό}{k:Nat}{xs ys:ϔ ϋ}{S1 S2:Nat->ϒ->Prop}
theorem Hd{x y a:ϋ}(D:ZipApart z TI TO i1 i2 l1 l2)(f:Drw prog w i1 l1 xs S1)(g:Drw prog w i2 l2 ys S2)
  (h:IsZip s.heap z TI TO .none) (H:IsPair s.heap TI (.ref i1)<|.ref i2) (I:IsPair s.heap TO a b) (h1:S1 k s.heap) (h2:S2 k s.heap) (hx:xs[k]?=!x) (hy:ys[k]?=!y)
  (hQ:∀h',IsZip h' z TI TO (rawInt s.heap.objs.size)->IsPair h' TO x y->S1 (k+1) h'->S2 (k+1) h'->IsPair h' s.heap.objs.size x y->
   (∀c o,c≠z->c≠TO->c≠i1->c≠i2->s.heap.get? c=!o->h'.get? c=!o)->Q (!(.ref s.heap.objs.size)) {s with heap:=h'}):
  wpAny (model prog w) A (pyNext<|.ref z) Q E s:=by
 have P:s.TypeIs (.ref z) "zip":=#[_,h,rfl];unfold pyNext;show Qr<|ũ<|wpAny_callSpecial?_slot (name:=Str.ofString "__next__") P F.slot_zip_next<|æ F.slot_zip_next P F.entry_zip_next ?_<|F.args_zip_next_1 _;show Qr (m:=field (.ref z) 2)<|č h rfl (x:=.bool false) rfl ?_;show Qr (m:=field (.ref z) 3)<|č h rfl (x:=.ref TI) rfl ?_;show Qr<|ď H rfl ?_;show Qr (m:=Builtin.SmallTypes.ownedTupleIsFree<|.ref z) ?_;unfold Builtin.SmallTypes.ownedTupleIsFree;show Qr<|č h rfl (x:=.none) rfl<|Xs ?_;simp only[ĳ];show Qr<|Ĭ ?_;show Qr<|č h rfl (x:=.ref TO) rfl ?_;show Qr<|ċ h (by simp) λg1 y1 j=>?_;show Qr ?_;simp only[List.zipIdx_cons,List.zipIdx_nil,ý,ŗ];show Qr<|Qr<|wpAny_onRaise ?_;show Qr (m:=Builtin.SmallTypes.nextOf<|.ref i1)<|f.item _ _ k x _ _ (f.but h1 j.extBut D.i1z D.l1z) hx λO r2 l=>Xs ?_;have R:IsPair O TO a b:=l.extBut _ _ D.TOi1<|j.extBut _ _ D.TOz I;have q2:S2 k O:=g.but (g.but h2 j.extBut D.i2z D.l2z) l.extBut D.i12.symm D.l2i1;show Qr<|ď R rfl ?_;show Qr<|wpAny_updateSeq_pair R λg3 M p=>?_;replace M:IsPair g3 TO x b:=M;show Qr<|Ŧ<|Xs ?_;show Qr<|Qr<|wpAny_onRaise ?_;show Qr (m:=Builtin.SmallTypes.nextOf<|.ref i2)<|g.item _ _ k y _ _ (g.but q2 p.extBut D.TOi2.symm D.l2TO) hy λg4 r4 q=>Xs ?_;have S:IsPair g4 TO x b:=q.extBut _ _ D.TOi2 M;show Qr<|ď S rfl ?_;show Qr<|wpAny_updateSeq_pair S λd B r=>?_;replace B:IsPair d TO x y:=B;show Qr<|Ŧ<|Xs<|Xs ?_;show Qr<|ď B rfl ?_;show Qr<|wpAny_newTuple ?_;have T:d.objs.size=s.heap.objs.size:=by rw[r.1,q.1,p.1,l.1,j.1]
 have Y:IsZip d z TI TO .ellipsis:=r.extBut _ _ D.TOz.symm<|q.extBut _ _ D.i2z.symm<|p.extBut _ _ D.TOz.symm<|l.extBut _ _ D.i1z.symm y1;have Z:∀c o,c≠z->c≠TO->c≠i1->c≠i2->s.heap.get? c=!o->d.get? c=!o:=λc o u v K L e=>
  r.extBut _ _ v<|q.extBut _ _ L<|p.extBut _ _ v<|l.extBut _ _ K<|j.extBut _ _ u e
 have r5:S1 (k+1) d:=f.but (f.but (f.but r2 p.extBut D.TOi1.symm D.l1TO) q.extBut D.i12 D.l1i2) r.extBut D.TOi1.symm D.l1TO;have p5:S2 (k+1) d:=g.but r4 r.extBut D.TOi2.symm D.l2TO;have i:z<d.objs.size:=É Y;show Qr (m:=Builtin.SmallTypes.ownedTupleHandOut (.ref z)<|.ref d.objs.size) ?_;unfold Builtin.SmallTypes.ownedTupleHandOut;show Qr<|ċ (show IsZip (d.push {cls:=.type "tuple",data:=.seq<|[x,y].toArray}) z TI TO .ellipsis from Jn _ Y) (by simp) λg7 N U=>?_;replace N:IsZip g7 z TI TO (rawInt d.objs.size):=N;show ċ N (by simp) λt G W=>?_
 replace G:IsZip t z TI TO (rawInt d.objs.size):=G;have C:∀c o,c≠z->d.get? c=!o->t.get? c=!o:=λc o n e=>W.extBut _ _ n<|U.extBut _ _ n<|Jn _ e
 have X:IsPair t d.objs.size x y:=W.extBut _ _ (ě i)<|U.extBut _ _ (ě i)<|Å _ rfl;rw[T]at G X;show Xs #[_,rfl,Xs ?_];change Q (!(.ref d.objs.size)) _;rw[T];show hQ t G (C _ _ D.TOz B) (f.keep _ _ _ r5 λc J o e=>C c o (by rcases J with rfl|rfl;show D.i1z;show D.l1z) e) (g.keep _ _ _ p5 λc J o e=>C c o (by rcases J with rfl|rfl;show D.i2z;show D.l2z) e) X λc o u v K L e=>C c o u<|Z c o u v K L e
theorem JL{a:ϋ}(L:A.handled=none)(D:ZipApart z TI TO i1 i2 l1 l2)(y:Drw prog w i1 l1 xs S1)(t:Drw prog w i2 l2 ys S2)
  (i:IsZip s.heap z TI TO .none) (B:IsPair s.heap TI (.ref i1)<|.ref i2) (C:IsPair s.heap TO a b) (X:S1 k s.heap) (Y:S2 k s.heap) (n:xs[k]?=none\/ys[k]?=none)
  (Z:∀h',(∀c o,c≠z->c≠TO->c≠i1->c≠i2->s.heap.get? c=!o->h'.get? c=!o)->Q none {s with heap:=h'}):
  wpAny (model prog w) A (pyNext<|.ref z) Q E s:=by
 have K:s.TypeIs (.ref z) "zip":=#[_,i,rfl];have fin:∀h' e,(∀c o,c≠z->c≠TO->c≠i1->c≠i2->s.heap.get? c=!o->h'.get? c=!o)->(∃o,h'.get? e=!o/\o.cls=.type "StopIteration")->
   wpAny (model prog w) A (do if <-isInstance (.ref e) (.type "StopIteration")then pure none else throw (.ref e):Sem<|ύ ϋ) Q E {s with heap:=h'}:=λh' e kk l=>by
  let#[o,ho,hc]:=l;show Qr<|Ė (T:="StopIteration") (b:=true) #[o,ho,hc] isSubtype_stop<|Xs<|Z _ kk
 unfold pyNext;show Qr<|ũ<|wpAny_callSpecial?_slot (name:=Str.ofString "__next__") K F.slot_zip_next<|æ F.slot_zip_next K F.entry_zip_next ?_<|F.args_zip_next_1 _;show Qr (m:=field (.ref z) 2)<|č i rfl (x:=.bool false) rfl ?_;show Qr (m:=field (.ref z) 3)<|č i rfl (x:=.ref TI) rfl ?_;show Qr<|ď B rfl ?_;show Qr (m:=Builtin.SmallTypes.ownedTupleIsFree<|.ref z) ?_;unfold Builtin.SmallTypes.ownedTupleIsFree;show Qr<|č i rfl (x:=.none) rfl<|Xs ?_;simp only[ĳ];show Qr<|Ĭ ?_;show Qr<|č i rfl (x:=.ref TO) rfl ?_;show Qr<|ċ i (by simp) λI v r=>?_;show Qr ?_;simp only[List.zipIdx_cons,List.zipIdx_nil,ý,ŗ];show Qr<|Qr<|wpAny_onRaise ?_;replace v:IsZip I z TI TO .ellipsis:=v;have N:S1 k I:=y.but X r.extBut D.i1z D.l1z
 cases hx:xs[k]?with
 |none=>
  show Qr (m:=Builtin.SmallTypes.nextOf<|.ref i1)<|y.stop _ _ k _ _ L N hx λu e h l=>?_;let#[H,d,f]:=l;have R:IsZip u z TI TO .ellipsis:=h _ _ D.i1z.symm v;have g:e≠z:=λq=>by subst q;rw[R]at d;cases d;simp at f
  show ċ R (by simp) λJ _ j=>fin J e (λc o p _ G _ q=>j.extBut _ _ p<|h _ _ G<|r.extBut _ _ p q) #[H,j.extBut _ _ g d,f]
 |some x=>
  have hy:ys[k]?=none:=by rcases n with q|q;rw[hx]at q;cases q;show q
  show Qr (m:=Builtin.SmallTypes.nextOf<|.ref i1)<|y.item _ _ k x _ _ N hx λu r2 h=>Xs ?_;have M:IsPair u TO a b:=h.extBut _ _ D.TOi1<|r.extBut _ _ D.TOz C;have q2:S2 k u:=t.but (t.but Y r.extBut D.i2z D.l2z) h.extBut D.i12.symm D.l2i1;show Qr<|ď M rfl ?_;show Qr<|wpAny_updateSeq_pair M λJ o3 j=>?_;show Qr<|Ŧ<|Xs ?_;show Qr<|Qr<|wpAny_onRaise ?_;show Qr (m:=Builtin.SmallTypes.nextOf<|.ref i2)<|t.stop _ _ k _ _ L (t.but q2 j.extBut D.TOi2.symm D.l2TO) hy λU e O l=>?_;let#[H,d,f]:=l;have S:IsZip U z TI TO .ellipsis:=O _ _ D.i2z.symm<|j.extBut _ _ D.TOz.symm<|h.extBut _ _ D.i1z.symm v;have g:e≠z:=λq=>by subst q;rw[S]at d;cases d;simp at f
  show ċ S (by simp) λW _ P=>fin W e (λc o p n2 G n4 q=>P.extBut _ _ p<|O _ _ n4<|j.extBut _ _ n2<|h.extBut _ _ G<|r.extBut _ _ p q) #[H,P.extBut _ _ g d,f]
end
noncomputable abbrev zo1(h:ϒ)(j1:Obj):ϒ:=h.push j1
abbrev zo2(h:ϒ)(j1 j2:Obj):ϒ:=(zo1 h j1).push j2
abbrev zo3(h:ϒ)(j1 j2:Obj):ϒ:=(zo2 h j1 j2).push {cls:=.type "tuple",data:=.seq<|[.ref h.objs.size,.ref (zo1 h j1).objs.size].toArray}
abbrev zo4(h:ϒ)(j1 j2:Obj):ϒ:=(zo3 h j1 j2).push {cls:=.type "tuple",data:=.seq<|[.none,.none].toArray}
abbrev XS(h:ϒ)(j1 j2:Obj):ϒ:=(zo4 h j1 j2).push {cls:=.type "zip",data:=.fields<|[.none,.bool false,.bool false,.ref (zo2 h j1 j2).objs.size,.ref (zo3 h j1 j2).objs.size].toArray}
noncomputable abbrev wH(l:ό):Obj:={cls:=.type "tuple_iterator",data:=.fields<|[.ref l,.int 0 0].toArray}
theorem mJ{h:ϒ}{c:ό}{o d:Obj}(e:h.get? a=!o)(b:h.get? c=!d)(n:o.cls≠d.cls):a≠c:=λq=>by
 subst q;rw[e]at b;cases b;show n rfl
noncomputable def Q7(lo:Int)(n:Nat):It:=#[λi _=>i<n,λi H x H'=>H'=H/\x=.int (lo-i),λi _=>n<=i]
theorem wI{P:ϓ}{K:Ϗ}(c:ό)(lo:Int)(n:Nat):Turn P w K tg (Q7 lo n) [c] c (λi h=>IsRangeIter h c (lo+(i:Nat)*(-1)) ((n:Int)-(i:Nat))<|-1)where
 mem:=by simp
 obj:=λi h a b f=>by
  have e:b=c:=by simpa using f
  subst e;show⟨_,a,λv z=>by
   have O:Data.fields _=Data.cell v:=z
   cases O⟩
 keep:=λi h j a k=>k c (by simp) _ a
 item:=by
  intro X y C x A i d s F H E I l a B;subst y C x;let#[m,p,L,q,r,u]:=l c (by simp);have W:=Walks.range (prog:=X.prog) (w:=X.w) (I.ok.hd A) c lo (-1) n;show W.item i s _ _ B a λv j D M g N=>?_
  let#[t,rfl]:=M;have G:Inv X d F H {s with heap:=j,toks:=D}:=I.turned (λb o f e=>N b o (by simpa using f) e) m p q r u;show⟨_,rfl,p6 (s:={s with heap:=j,toks:=D}) (n:="range_iterator") g rfl rfl (by decide) ⟨.int<|lo-i,H,G,⟨t,?_⟩,⟨rfl,rfl⟩,g,λb f=>(l b f).1⟩⟩;rw[show lo+(i:Int)*(-1)=lo-(i:Int)by rfl']
 done:=by
  intro X y C x A i d s F H E I l a B;subst y C x;let#[m,p,L,q,r,u]:=l c (by simp);show wpAny_pyNext_range_end (I.ok.hd A) a (by have:n<=i:=B;rfl') λj J=>#[rfl,I.turned (t':=s.toks) (λb o f e=>J b o f e) m p q r u]
 self:=λ_ _ _ _ _ a h=>wpAny_pyIter_rangeiter a h
theorem lN(a b:Int):Builtin.Range.rangeSize a b (-1)=if a>b then a-b else 0:=by
 unfold Builtin.Range.rangeSize;simp only[show¬((-1:Int)>0)by decide,Ĉ,Int.neg_neg,Int.ediv_one];split<;>rfl'
theorem JM{a b:Int}(e:-(2^62)<=a)(c:a<2^62)(f:-(2^62)<=b)(d:b<2^62):Builtin.Range.small a b (-1)=true:=by
 unfold Builtin.Range.small;rw[lN];simp only[Builtin.Range.rangeFitsLong,ā,Bool.or_eq_true,decide_eq_true_eq,beq_iff_eq,show¬((-1:Int)>0)by decide,Ĉ];split<;>rfl'
def JN(ta:TA):TI:=λσ H R=>ta σ H λvs H1=>∃i j:Int,vs=[.int i,.int j,.int<|-1]/\(-(2^62)<=i/\i<2^62/\-(2^62)<=j/\j<2^62)/\R (Q7 i (i-j).toNat) H1
theorem Hf{X:Cx}{lo a:Int}{v:Tok}{d:Nat}(I:Inv X gE σ H s)(h:-(2^62)<=lo)(i:lo<2^62)(j:-(2^62)<=a)(k:a<2^62)
  (q:R (Q7 lo (lo-a).toNat) H):wpAny (model X.prog X.w) X.A (pyIter<|.ref s.heap.objs.size) (PIE X gE σ tg R) E {s with heap:=s.heap.push {cls:=.type "range",data:=.fields<|[.int lo t,.int a u,.int (-1) v].toArray},toks:=d}:=by
 show wpAny_pyIter_range (IsRange.new ..) (JM h i j k) ?_;have c:Inv X gE σ H {s with heap:=s.heap.push {cls:=.type "range",data:=.fields<|[.int lo t,.int a u,.int (-1) v].toArray},toks:=d}:=I.kept λb o e=>Jn _ e
 show⟨(s.heap.push {cls:=.type "range",data:=.fields<|[.int lo t,.int a u,.int (-1) v].toArray}).objs.size,[(s.heap.push {cls:=.type "range",data:=.fields<|[.int lo t,.int a u,.int (-1) v].toArray}).objs.size],_,_,H,rfl,
  c.kept (t':=d) λb o e=>Jn _ e,wI _ lo (lo-a).toNat,?_,λb l=>?_,q⟩
 .have f:lo+((0:Nat):Int)*(-1)=lo:=by simp
  have g:(((lo-a).toNat:Nat):Int)-((0:Nat):Int)=Builtin.Range.rangeSize lo a (-1):=by rw[lN];split<;>rfl'
  change IsRangeIter _ _ (lo+((0:Nat):Int)*(-1)) ((((lo-a).toNat:Nat):Int)-((0:Nat):Int))<|-1;rw[f,g];show Å _ rfl
 .have e:b=(s.heap.push {cls:=.type "range",data:=.fields<|[.int lo t,.int a u,.int (-1) v].toArray}).objs.size:=by simpa using l
  subst e;show c.fpOk (Ã _)<|c.hok.fresh<|Ã _
theorem Hg{X:Cx}{a b c:Expr}(o:Gl X "range")(u:X.mg "range"=none)(n:PA X [a,b,c] l)(v:starEach [a,b,c] X.env=[(false,eval a X.env),(false,eval b X.env),(false,eval c X.env)]:=by rfl)(d:starEach [b,c] X.env=[(false,eval b X.env),(false,eval c X.env)]:=by rfl):
  PI X tg (.Call (.Name "range" p) [a,b,c] [] g) (JN l):=by
 intro f s B H R I h;show Call_ (fG I o u boot_range<|Č (bB (n g f s B H _ I h) λF D ⟨G,C,m,z,k⟩=>?_) (by rw[v,d])<|by rw[d];rfl);let#[i,j,e,#[k,w,x,y],q]:=k;subst e
 cases z with
 |cons r rr=>
  cases rr with
  |cons r' rr=>
   cases rr with
   |cons r'' rr=>
    cases rr;let#[t,rfl]:=r;let#[E,rfl]:=r';let#[A,rfl]:=r'';show call_range_3 (by decide) (Hf m k w x y q) (.inl<|PyProof.noPylong_small<|by decide)
section
theorem HOk.freezeK(x:HOk P w H h)(i:H a=!(.dK kvs))(k:h.get? a=!od):HOk P w (upd H a<|.frz od<|.dK kvs) h:=by
 have d:∀c y,H c=!(.own y)->upd H a (.frz od<|.dK kvs) c=!(.own y):=λc y q=>by
  rw[ao<|bC q i<|by intro z;cases z];show q
 have f:∀c g,H c=!(.tup g)->upd H a (.frz od<|.dK kvs) c=!(.tup g):=λc g q=>by
  rw[ao<|bC q i<|by intro z;cases z];show q
 intro b u e;by_cases j:b=a
 .rw [j]at e⊢;rw[aa]at e
  cases e;show#[k,(x a _ i).stay (λc v _ q=>q) (λc q=>d c _ q) λc g q=>f c g q]
 .rw [ao j]at e;show(x b u e).stay (λc v _ q=>q) (λc q=>d c _ q) λc g q=>f c g q
theorem pairs_at{a:PySem.KeyKind P w Key}:∀{es:ϊ DictEntry}{us:ϊ<|Key×ϋ}(i:Nat)(e:DictEntry),Pairs a es us->es[i]?=!e->∃u,us[i]?=!u/\a.is u.1 e.key=true
 |_,_,0,e,.cons r _ _,h=>by
  simp only[List.getElem?_cons_zero,Option.some.injEq]at h;subst h;show#[_,rfl,r]
 |_,_,i+1,e,.cons _ _ t,h=>by
  simp only[List.getElem?_cons_succ]at h;let#[u,b,c]:=pairs_at i e t h;show#[u,by simpa using b,c]
theorem pairs_len{a:PySem.KeyKind P w Key}:∀{es:ϊ DictEntry}{us:ϊ<|Key×ϋ},Pairs a es us->↑es=↑us
 |_,_,.nil=>rfl
 |_,_,.cons _ _ t=>by simp only[ê,pairs_len t]
end
theorem Q8(h:lC k v=true):RelV (kV k) v:=by
 rcases bu h with⟨i,t,rfl,rfl⟩|⟨x,t,rfl,rfl⟩
 .show #[t,rfl]
 .show #[t,rfl]
theorem Inv.freezeK{X:Cx}(I:Inv X gE σ H s)(c:H a=!(.dK kvs))(e:s.heap.get? a=!d):
  Inv X gE σ (upd H a<|.frz d<|.dK kvs) s:=by
 show I.call' (ch:=[]) rfl #[λb o q _ _ _=>q,λb o q _ _ _=>#[o.slots,q],λb o q n _=>?_,λb o q _=>#[o,q],λb h q=>?_,λb o u q=>?_,λb g q=>#[([].toArray),?_]] (I.hok.freezeK c e) I.bare λb f=>nomatch f
 .rw [ao (λz=>by rw[z,c]at n;cases n)];show n
 .rw [ao (bC q c (by intro z;cases z))];show q
 .rw [ao (bC q c (by intro z;cases z))];show q
 .rw [ao (bC q c (by intro z;cases z)),q];simp
def yW(od:Obj)(a:ό):It where
 go:=λi H=>∃kvs,H a=!(.frz od<|.dK kvs)/\i<↑kvs
 yld:=λi H v H'=>H'=H/\∀kvs,H a=!(.frz od<|.dK kvs)->∃k x,kvs[i]?=!(k,x)/\v=kV k
 stop:=λi H=>∃kvs,H a=!(.frz od<|.dK kvs)/\↑kvs<=i
theorem pO{P:ϓ}{K:Ϗ}(p a:ό){N:Obj}{t:ϔ DictEntry}{ep:Nat}(g:N.data=.dict t ep):Turn P w K tg (yW N a) [p] p (λi h=>h.IsKeyIter p a i t.size ep)where
 mem:=by simp
 obj:=λi h l b n=>by
  let#[o,e,c,d]:=l;have e':b=p:=by simpa using n
  rw[e'];show#[o,e,λv z=>by rw[d]at z;cases z]
 keep:=λi h L l k=>by
  let#[o,e,r]:=l;show#[o,k p (by simp) o e,r]
 item:=by
  intro X hP hw Z hc i m s σ H E I M l hg;subst hP hw Z;let#[f,J,hi]:=hg;let#[C,_,_,F,j,o,Q,O,A,_,B,_,G,_]:=(show ObjOk X.prog X.w H s.heap a (.frz N<|.dK f)from I.hok a _ J);rw[C]at A
  cases A;rw[g]at B
  cases B;have ad:t.size=↑F:=by rw[<-ã];show pairs_len G
  have hl:↑f=↑F:=ğ j;let#[R,S,f2,T,U,Y]:=M p (by simp);show pL l C g () λL D hs=>?_
  have I1:Inv X m σ H {s with heap:=L,toks:=s.toks}:=I.turned (λb o n e=>hs.extBut b o n e) R S T U Y;let#[o,e,ab,d]:=id D;let#[#[k,x],#[k',y],hk,hx,r1,_]:=il i j hi;have ac:RelV (kV k) (t[i]'(by rfl')).key:=by
   let#[u,h1,h2]:=pairs_at i (t[i]'(by rfl')) G (by rw[Ą,þ]);rw[hx]at h1
   cases h1;rw[iC]at h2;rw[show k=k' from r1];show Q8 h2
  show⟨_,rfl,p6 (s:={s with heap:=L}) e ab d (by decide) ⟨kV k,H,I1,ac,⟨rfl,λae q=>?_⟩,D,λb n=>(M b n).1⟩⟩;rw[J]at q
  cases q;show#[k,x,hk,rfl]
 done:=by
  intro X hP hw Z hc i m s σ H E I M l hg;subst hP hw Z;let#[f,J,hi]:=hg;let#[C,_,_,F,j,o,Q,O,A,_,B,_,G,_]:=(show ObjOk X.prog X.w H s.heap a (.frz N<|.dK f)from I.hok a _ J);rw[C]at A
  cases A;rw[g]at B
  cases B;have ad:t.size=↑F:=by rw[<-ã];show pairs_len G
  have hl:↑f=↑F:=ğ j;let#[R,S,f2,T,U,Y]:=M p (by simp);show ug (I.ok.hd hc) l C g () λL kk=>#[rfl,I.turned (t':=s.toks) (λb o n e=>kk b o n e) R S T U Y]
 self:=λ_ _ _ _ _ l h=>wpAny_pyIter_keyiter l h
def pP(tl:TE):TI:=λσ H R=>tl σ H λx H1=>∃a kvs,x=.ref a/\((H1 a=!(.dK kvs)/\∀od,R (yW od a)<|upd H1 a<|.frz od<|.dK kvs)\/∃od,H1 a=!(.frz od<|.dK kvs)/\R (yW od a) H1)
theorem pQ{X:Cx}{w:TE}(B:PE X l w):PI X tg l (pP w):=by
 intro k s F H R I h;show bB (B k s F H _ I h) λv c ⟨x,u,f,D,C⟩=>?_
 let#[a,j,rfl,q]:=C
 cases D;rcases q with⟨ea,q⟩|⟨od,ea,q⟩
 .obtain ⟨_,d,E,t,o,A,z,g,p,i,_,y,_⟩:=(show ObjOk X.prog X.w u c.heap a (.dK j)from f.hok a _ ea);show lJ d #[o,g,p.1] g i ?_;have m:=f.freezeK ea g;show#[c.heap.objs.size,[c.heap.objs.size],_,_,_,rfl,m.kept (t':=c.toks) λb o e=>Jn _ e,pO _ a i,#[_,Å _ rfl,rfl,rfl],λb r=>?_,q o];rw[Zs.mp r];show m.fpOk (Ã _)<|m.hok.fresh<|Ã _
 .obtain ⟨n,_,d,E,t,o,A,z,g,p,i,_,y,_⟩:=(show ObjOk X.prog X.w u c.heap a (.frz od<|.dK j)from f.hok a _ ea);rw[n]at g
  cases g;show lJ d #[od,n,p.1] n i ?_;show#[c.heap.objs.size,[c.heap.objs.size],_,_,_,rfl,f.kept (t':=c.toks) λb o e=>Jn _ e,pO _ a i,#[_,Å _ rfl,rfl,rfl],λb r=>?_,q];rw[Zs.mp r];show f.fpOk (Ã _)<|f.hok.fresh<|Ã _
end L2
end
section
namespace PySem
open Sem (wp)
open AutoSeq1 (wpAny_loadPart')
noncomputable abbrev wJ(i:Int)(t:Tok):ϊ (ϐ×ϋ):=[(Str.ofString "start",.int i t)]
end PySem
namespace L2
open PySem PySem.Spec PyProof.Rows
theorem yX{P:ϓ}{d:ό}{n:Nat}{St:Nat->ϒ->Prop}(D:Draws P w A d fp n Pv St)(o:Nat):
  Draws P w A d fp (n+o) (λi=>Pv<|i-o) (λi h=>o<=i/\St (i-o) h)where
 live:=λi h a=>D.live _ h a.2
 frame:=λi h b a g=>#[a.1,D.frame _ h b a.2 g]
 item:=λi s Q E l a f=>D.item (i-o) s Q E () a.2 λx b k p c j=>f x b k p #[(),by rw[show i+1-o=i-o+1 by rfl'];show c] j
 done:=λs Q E a e=>D.done s Q E (by have:=a.2;rwa[ŷ]at this) e
def Q9{e:Expr}
  (h:wpAny M A (spliced (backTo c (starEach [e] b))) (λvs s1=>wpAny M A (evalAll ((backToKw c (keywordEach kws b)).map (·.2))) (λks g=>wpAny M A (call (.type T) vs (((backToKw c (keywordEach kws b)).filterMap (·.1)).zip ks)) Q E g) E s1) E s)
  (k:backTo c (starEach [e] b)=(false,eval e b)::backTo c (starEach [] b)) (l:(backTo c (starEach [e] b)).any (·.1)=false)
  (d:(backToKw c (keywordEach kws b)).all (·.1.isSome)=true) (f:(backToKw c (keywordEach kws b)).any (·.1.isNone)=false):
  wpAny M A (callWith c (.type T) [] (backTo c (starEach [e] b)) (backToKw c (keywordEach kws b))) Q E s:=by
 have j:wpAny M A (evalArgs (.type T) true (backTo c (starEach [e] b)) (backToKw c (keywordEach kws b))) (λa s1=>wpAny M A (call (.type T) ([]++a.pos) a.kw) Q E s1) E s:=by
  rw[k]at h⊢;show evalArgs_kwB d h
 unfold callWith;show Qr (ð (bB j λa s1 i=>Qr (wpAny_standAt ?_)));simp only[l,f,Bool.or_false];show Qr (Xs (Qr (bB i λr g m=>Qr (ð (wpAny_point (Xs m))))))
end L2
end
section
namespace HT
open PySem PySem.Spec PyProof.Rows
def jX{s:ώ}{t e:ό}{g i:ϋ}{lo:ύ Int}(a:IsTup s.heap t items)(f:s.heap.IsSliceOf e g i .none)(o:IsPart g lo)(p:IsPart i hi)
  (j:dY items.size 0 lo=0) (k:dY items.size items.size hi=items.size) (h:Q (.ref t) s):wpAny (model prog w) A (getItem (.ref t)<|.ref e) Q E s:=by
 let#[n,d,c,m]:=id f;have b:s.TypeIs (.ref e) "slice":=#[n,d,c];unfold getItem;try with_reducible show ð ?_
 first|show Qr (Xs ?_)|skip
 show Qr<|wpAny_sequenceKey a.typeIs (by decide) ?_;show Qr<|wpAny_callSpecial?_slot (name:=Str.ofString "__getitem__") a.typeIs ĵ<|æ ĵ a.typeIs entry_tuple_getitem ?_<|args_tuple_getitem _ _;change wpAny _ _ (Builtin.Tuple.tupleItemsOf (.ref t)>>=_) _ _ s;show Qr<|tupleItemsOf_ a<|Qr<|ŵ b ?_;rw[if_pos<|by decide];show Qr<|gZ f o p ?_;change wpAny _ _ (if(((dY items.size 0 lo:Nat):Int)==0&&(1:Int)==1&&(dY items.size items.size hi-dY items.size 0 lo)==items.size)=true then _ else _) _ _ s;rw[if_pos<|by rw[j,k];simp];have l:s.TypeIs (.ref t) "tuple":=a.typeIs;show Qr ?_;unfold Builtin.Tuple.tupleIsExact;show Qr<|ŵ l<|Xs ?_;rw[if_pos<|by decide];show Qr<|Ĭ<|Xs #[_,rfl,Xs h]
end HT
namespace L2
open PySem PySem.Spec PyProof.Rows
variable{n:Nat}{st:Stmt}{T f:ό}{qual x:ϐ}{ds:ϊ ϋ}
def ut(K:Ϗ):V->ύ Int->ύ Int->Hp->VK->Prop:=λx lo hi H Q=>∃a xs,x=.ref a/\SqT K H a xs/\∀p H',(p=a/\H'=H/\gP xs lo hi=xs\/H p=none/\H'=upd H p (.tup (gP xs lo hi)))->SqT K H' p (gP xs lo hi)->Q (.ref p) H'
theorem Qa{X:Cx}:U6 X (ut X.K):=by
 intro f s z H x v w y lo g u Q I o k m n h;let#[a,d,rfl,i,q]:=h;by_cases c:HT.dY ↑d 0 lo=0/\HT.dY ↑d ↑d g=↑d
 .cases o;let#[j,r,l,A]:=I.tuple i;have b:j.toArray.size=↑d:=by rw[Õ];show r.length.symm
  show#["tuple",_,PyProof.Rows.slot_tuple_getitem.lookup,l.typeIs,?_];have e:gP d lo g=d:=by
   unfold gP;rw[c.1,c.2,List.drop_zero,Ŷ,Þ]
  show HT.jX l k m n (by rw[b];show c.1) (by rw[b];show c.2) #[.ref a,H,I,rfl,q a H (.inl #[rfl,rfl,e]) ?_];rw[e];show i
 .show U7 f s z H (.ref a) v w y lo g u Q I o k m n #[a,d,rfl,i,c,λp t=>q p _ (.inr #[t,rfl])<|gL aa]
def ju{X:Cx}(K:Ϗ)(a:X.K=K):U6 X (ut K):=a▸Qa
structure FunD(K:Ϗ)(x qual:ϐ)(st:Stmt)(f:ό)(fd:FuncData)(T:ό)(ds:ϊ ϋ):Prop where
 ex:∃(oc:ϋ)(od:ύ ό)(kV doc pm:ϋ)(an:ύ ό)(cdv ct:ϋ)(osl:ϔ<|ύ ϋ),
  fd=W.fnOf x qual (dC st) (cU st) (aZ st) (.ref T) kV doc pm an cdv ct/\K.lookup f=!#[oc,od,.func fd,osl]/\W.codeIn K cdv qual=true
 kp:W.keepIn K (.ref f)=true
 tp:∃(o:Obj)(n:Nat),K.lookup T=!o/\o.data=.seq ds.toArray n
section
variable{K:Ϗ}
theorem FunD.ok{N e:ϊ ϐ}{k:Nat}{g:Sp}(F:FunD K x qual st f fd T ds)(S:FnScope N e<|aZ st)(d:∀vs H Q E,g vs H Q E->↑vs=↑e)
  (l:∀(a:ϋ)(A:ϖ)(outer:ϊ Env)(s:ώ)(H:Hp)(vs:ϊ V)(Q:VK)(E:XK),Room k (A.deeper<|envOfC qual (aZ st) s.heap.objs.size f a)->g vs H Q E->
   ∃t,PSs (yE J6 P w K mg base N qual (aZ st) f a A outer s H E).nox (cU st) t/\t {nx:=λ_ H'=>Q .non H',rt:=Q} (start N vs) H):FnOk P w K mg base J6 (k+1) f fd e g:=by
 let#[q,r,kV,h,u,o,a,p,n,rfl,lk,b]:=F.ex;show RV lk b S d λA outer s H vs Q E m c=>?_
 let#[t,i,j]:=l a A outer s H vs Q E m c;show#[t,i.nox,j]
theorem FunD.binds{es:ϊ ϋ}{e:ϊ ϐ}(F:FunD K x qual st f fd T ds)
  (h:∀(kV b d:ϋ)(an:ύ ό)(a c:ϋ)(us:ϊ ϋ),↑(us++es)=↑e->∃k:ύ (ϔ ϋ)->Sem (ϊ (ϐ×ϋ)),bindArgs (W.fnOf x qual (dC st) (cU st) (aZ st) (.ref T) kV b d an a c) #[us,[]]=seqItems? (.ref T)>>=k/\k (!ds.toArray)=pure (e.zip (us++es))):Binds K fd e es:=by
 let#[t,u,kV,b,d,an,a,c,r,rfl,lk,l]:=F.ex;let#[o,n,q,m]:=F.tp;intro s us j p;let#[k,g,i]:=h kV b d an a c us p;show .of_defaults (T:=T) (o:=o) rfl (j _ _ q) m g i
def Qc{m p:ϋ}{o e i:ύ ό}{d j:ϔ<|ύ ϋ}{kV b h a g:ϋ}(l:K.lookup f=!#[m,o,.func<|W.fnOf x qual (dC st) (cU st) (aZ st) (.ref T) kV b h e a g,d])
  (c:W.codeIn K a qual=true) (k:W.keepIn K (.ref f)=true) (t:K.lookup T=!#[p,i,.seq ds.toArray n,j]):FunD K x qual st f (W.fnOf x qual (dC st) (cU st) (aZ st) (.ref T) kV b h e a g) T ds:=#[#[m,o,kV,b,h,e,a,g,d,rfl,l,c],k,_,n,t,rfl]
end
structure CalD(P:ϓ)(w:ϕ)(K:Ϗ)(mg:ϐ->ύ ϋ)(base:ϒ)(n:Nat)(x:ϐ)(ps:ϊ ϐ)(dvs:ϊ V)(sp:Sp):Prop where
 ex:∃(f:ό)(fd:FuncData)(ds:ϊ ϋ),FnOk P w K mg base J6 n f fd ps sp/\Binds K fd ps ds/\Vals dvs ds/\W.keepIn K (.ref f)=true/\mg x=!(.ref f)
section
variable{X:Cx}{n k:Nat}
theorem Qd(c:CalD X.prog X.w X.K X.mg X.base n x ps dvs sp)(o:Room k X.A)(l:n<=k)(j:Gl X x)(d:PA X (e::es) t)(a:(x==("__debug__":ϐ))=false:=by decide)
  (i:starEach (e::es) X.env=(false,eval e X.env)::starEach es X.env:=by rfl) (b:(backTo pos<|starEach es X.env).any (·.1)=false:=by rfl):
  PE X (.Call (.Name x p) (e::es) [] pos) (nH sp dvs E0 t):=by
 let#[f,s,r,F,g,h,q,m]:=c.ex;show El F (o.mono l) j m q g h RX d a i b
end
def TupK(K:Ϗ)(a:ό)(xs:ϊ V):Prop:=∃(o:Obj)(its:ϔ ϋ)(n:Nat),K.lookup a=!o/\o.cls=.type "tuple"/\o.data=.seq its n/\its.size<=sizeLine/\Vals xs its.toList
theorem Sq{K:Ϗ}{a:ό}{b:ύ ό}{i:Int}{t:Tok}(l:K.lookup a=!#[.type "tuple",b,.seq ([.int i t].toArray) n,sl]):TupK K a [.int i]:=#[_,_,_,l,rfl,rfl,(by decide:1<=sizeLine),.cons #[t,rfl] .nil]
end L2
end
section
namespace PySem
open Sem (wp)
open AutoSeq1 (wpAny_loadPart')
noncomputable abbrev Qe(h:ϒ)(x:ϐ)(u:Tok):ϒ:=h.push {cls:=.type<|strIterType x,data:=.fields<|[.str x u,.int 0 0].toArray}
abbrev Qf(h:ϒ)(x:ϐ)(u:Tok)(i:Int):ϒ:=(Qe h x u).push {cls:=.type "enumerate",data:=.fields<|[.none,.bool false,.ref h.objs.size,rawInt i,.none,.none].toArray}
set_option maxHeartbeats 2000000 in
def pR(x:ϐ)(u:Tok)(i:Int)(t:Tok)(e:Builtin.SmallTypes.fitsIndex i=true):
  Meets (Builtin.«enumerate.__new__» #[[.type "enumerate",.str x u],wJ i t]) (λ_ R s=>R (.ok<|.ret<|.ref (Qe s.heap x u).objs.size) {s with heap:=Qf s.heap x u i}):=
 .of_wp λb w A R ⟨f,g,d,l,j⟩ h=>by
  have a:=sub_enumerate
  wp_walk
  show wpAny_stack_any λk=>Xs ?_
  split
  .rename_i c _ _ _ _ _
   cases(c==Value.type "enumerate")<;>(wp_walk using wpAny_pyIter_strU;show#[_,rfl,h])
  .wp_walk using wpAny_pyIter_strU;show#[_,rfl,h]
def JP(x:ϐ)(u:Tok)(i:Int)(t:Tok):checkTypeCall "enumerate" #[[.str x u],wJ i t]=pure Unit.unit:=by kernel_rfl
def JQ(x:ϐ)(u:Tok)(i:Int)(t:Tok):checkBuiltinCall "enumerate.__new__" #[[.type "enumerate",.str x u],wJ i t]=pure Unit.unit:=by kernel_rfl
def JR(o:ϋ)(x:ϐ)(u:Tok)(i:Int)(t:Tok):argsOk "object.__init__" #[[o,.str x u],wJ i t]:=by unfold argsOk;kernel_rfl
def ou(x:ϐ)(u:Tok)(i:Int)(t:Tok):Meets (Builtin.«object.__init__» #[[self,.str x u],wJ i t]) (λ_ R s=>s.TypeIs self "enumerate"/\R (.ok<|.ret .none) s):=by
 have e:=F.called_enumerate.init.lookup;have f:=F.called_enumerate.made;have b:(some "enumerate.__new__" !=!"object.__new__")=true:=by decide
 show Meets.of_wp λa w A R s ⟨d,c⟩=>?_
 repeat(any_goals(first|assumption|wp_step))
 show#[_,rfl,c]
section
def oA{x:ϐ}{u:Tok}{i:Int}{t:Tok}(B:Builtin.SmallTypes.fitsIndex i=true)
  (h:∀h',IsEnum h' (s.heap.objs.size+1) s.heap.objs.size i .none->h'.IsStrIter s.heap.objs.size (strIterType x) x u 0->(∀b o,s.heap.get? b=!o->h'.get? b=!o)->Q (.ref<|s.heap.objs.size+1) {s with heap:=h'}):
  wpAny (model prog w) A (call (.type "enumerate") [.str x u]<|wJ i t) Q E s:=by
 have a:=F.called_enumerate;let#[c,J,l]:=a.mro;have g:=a.made;have m:=a.sub;show wpAny_call<|codeAny_of_tree ?_;change wpAny _ _ (callAny (.type "enumerate") _) _ _ _;show Xs #[Code.quiet_builtin _<|by ac_nf,Ć F.entry_type_call ?_];rw[Around.under_plain (weight_type_call_type "enumerate" [.str x u]<|wJ i t)<|units_type_call_type "enumerate" [.str x u]<|wJ i t];have G:=a.notType;have H:=a.canCreate;have z:=JP x u i t;repeat(any_goals(first|assumption|wp_step))
 have n:(Qe s.heap x u).objs.size=s.heap.objs.size+1:=Ĩ ..;have f:=Å (Qe s.heap x u) (o:={cls:=.type "enumerate",data:=.fields<|[.none,.bool false,.ref s.heap.objs.size,rawInt i,.none,.none].toArray}) rfl;rw[n]at f;show Ť (codeAny_call_builtin a.plain F.entry_enumerate_new<|τ (JQ x u i t)<|pR x u i t B prog w A.in1 (wants (λo p=>o=.ref (s.heap.objs.size+1)/\p={s with heap:=Qf s.heap x u i}) E) s<|by change _/\_;rw[n];show#[rfl,rfl]) λr p j=>?_
 cases r with
 |error e=>show j
 |ok fl=>
  cases fl with
  |ret obj=>
   let#[rfl,rfl]:=j;have k:Shared.TypeIs {s with heap:=Qf s.heap x u i} (.ref<|s.heap.objs.size+1) "enumerate":=⟨_,f,rfl⟩;have C:=a.init.lookup;have v:=a.init.bind<|.ref<|s.heap.objs.size+1;repeat(any_goals(first|assumption|wp_step))
   show Ť (codeAny_call_builtin a.init.plain F.entry_object_init<|a.init.check _ _ _ _ _ _ _ _ k (JR _ x u i t)<|ou x u i t prog w A.in1 (wants (λr q=>r=.none/\q={s with heap:=Qf s.heap x u i}) E) _ ⟨k,rfl,rfl⟩) λD q d=>?_
   cases D with
   |error e=>show d
   |ok fl2=>
    cases fl2 with
    |ret r=>
     let#[rfl,rfl]:=d;have I:=h _ f #[_,Jn _<|Å _ rfl,rfl,rfl] λb o y=>Jn _<|Jn _ y
     repeat(any_goals(first|assumption|wp_step))
    |_=>show d.elim
  |_=>show j.elim
end
end PySem
namespace L2
open PySem PySem.Spec PyProof.Rows
def Uu(x:ϐ)(o:Nat):It:=
 ⟨λi _=>i<x.cps.size,
  λi H v H'=>∃p c,H p=none/\v=.ref p/\H'=upd H p (.tup [.int ((i+o:Nat):Int),.str #[([c].toArray)]])/\x.cps[i]?=!c,
  λi _=>i=x.cps.size⟩
structure EnSs(e it:ό)(x:ϐ)(u:Tok)(o i:Nat)(h:ϒ):Prop where
 he:∃old,IsEnum h e it ((i+o:Nat):Int) old
 h1:h.IsStrIter it (strIterType x) x u i
def su(b:A.handled=none)(a:ό)(x:ϐ)(t:Tok):Draws prog w A a [a] x.cps.size (λi v=>∃c u,x.cps[i]?=!c/\v=.str #[([c].toArray)] u) (λi h=>h.IsStrIter a (strIterType x) x t i):=by
 unfold strIterType;split
 .show Draws.strAscii b a x t
 .show Draws.strWide b a x t
theorem wK{P:ϓ}{K:Ϗ}{k:Nat}{e t:ό}(x:ϐ)(u:Tok)(o:Nat)(D:e≠t):
  Turn P w K (.Tuple elts k tpos) (Uu x o) [e,t] e (EnSs e t x u o)where
 mem:=by simp
 obj:=λi h r c G=>by
  let#[#[j,g],#[O,J,c1,d1]]:=r;simp only[Æ,á,ĕ]at G;rcases G with rfl|rfl
  .show #[_,g,λv z=>by cases z]
  .show #[O,J,λv z=>by rw[d1]at z;cases z]
 keep:=λi h h' r p=>by
  let#[#[j,g],F]:=r;let#[O,J,r1]:=F;show#[#[j,p e (by simp) _ g],O,p t (by simp) _ J,r1]
 item:=by
  intro X R hw Q G i l s σ H E I B r T;subst R hw Q;let#[#[j,g],F]:=id r;have L:i<x.cps.size:=T;show wpAny_pyNext_enum_itemD (yX (su (A:=X.A.in1) (I.ok.hd G) t x u) o) g #[Nat.le_add_left _ _,by rw[ŷ];show F] () D (by simp[D]) λx1 h' m N a1 ⟨_,a2⟩ a3 a4 a5=>?_
  rw[ŷ]at N;rw[show i+o+1-o=i+1 by rfl']at a2;let#[C,uu,S,rfl]:=N;show#[_,rfl,wpAny_letOwnedTupleGo_enum a1 λf b1 Z=>?_];have hT:s.heap.objs.size≠e:=ě<|É g;have p:∀c o,c∉[e,t]->s.heap.get? c=!o->f.get? c=!o:=λc o a q=>by
   simp only[Æ,á,ĕ,not_or]at a;show Z.extBut _ _ a.1<|a5 c o a.1 a.2 q
  have I1:Inv X l σ H {s with heap:=f,toks:=m+1}:=I.turnedAll p B;have d:H s.heap.objs.size=none:=I.hok.fresh<|Ã _;have e5:f.get? s.heap.objs.size=!{cls:=.type "tuple",data:=.seq<|[.int ((i+o:Nat):Int) m,.str #[([C].toArray)] uu].toArray}:=Z.extBut _ _ hT a3;have un:Un (frs X.stack) [e,t] H (upd H s.heap.objs.size<|.tup [.int ((i+o:Nat):Int),.str ⟨([C].toArray)⟩]) s.heap f:=
   ⟨λb o q _ _ M=>p b o M q,λb o q _ _ M=>⟨o.slots,p b o M q⟩,λb o q n _=>by rw[ao<|Ú<|É q];show n,λb o q M=>⟨o,p b o M q⟩,
    λb xs q=>by rw[ao<|aN q d];show q,λb o y q=>by rw[ao<|aN q d];show q,λb ps q=>⟨([].toArray),by rw[ao<|aN q d,q];simp⟩⟩
  have Y:HOk X.prog X.w (upd H s.heap.objs.size<|.tup [.int ((i+o:Nat):Int),.str ⟨([C].toArray)⟩]) f:=HOk.track I1.hok d #[by change 2<=sizeLine;decide,[.int ((i+o:Nat):Int) m,.str #[([C].toArray)] uu],.cons #[_,rfl]<|.cons #[_,rfl] .nil,_,e5,rfl,_,rfl];have I2:Inv X l σ (upd H s.heap.objs.size<|.tup [.int ((i+o:Nat):Int),.str ⟨([C].toArray)⟩]) {s with heap:=f,toks:=m+1}:=I.call' (s':={s with heap:=f,toks:=m+1}) rfl un Y I.bare λc a=>⟨(B c a).2.2.2.1,(B c a).2.1,(B c a).2.2.2.2⟩
  show#[.ref s.heap.objs.size,_,I2,rfl,#[_,C,d,rfl,rfl,S],#[#[_,by have:=b1;rwa[show(((i+o:Nat):Int)+1)=((i+1+o:Nat):Int)by rfl']at this],a2.extBut Z.extBut<|Ne.symm D],λc a=>?_];have U:c<s.heap.objs.size:=by
   let#[O,J,_]:=F;simp only[Æ,á,ĕ]at a;rcases a with rfl|rfl
   .show É g
   .show É J
  rw[ao<|Ú U];show(B c a).1
 done:=by
  intro X R hw Q G i l s σ H E I B r T;subst R hw Q;let#[#[j,g],F]:=id r;have L:i=x.cps.size:=T;show wpAny_pyNext_enum_endD (su (A:=X.A.in1) (I.ok.hd G) t x u) g (by rw[<-L];show F) λh' p=>?_
  show#[rfl,I.turnedAll (t':=s.toks) (λc o a q=>?_) B];simp only[Æ,á,ĕ,not_or]at a;show p c o a.2 q
 self:=λ_ _ _ _ _ r h=>by
  let#[j,g]:=r.he;show ω g h
def yZ(ta tk:TA):TI:=λσ H R=>ta σ H λvs H1=>tk σ H1 λks H2=>∃x o,vs=[.str x]/\ks=[.int ((o:Nat):Int)]/\o<=1000000000/\R (Uu x o) H2
def JS{X:Cx}{k:Nat}{a:Expr}(E:Gl X "enumerate")(U:X.calm=true)(F:X.mg "enumerate"=none)(C:PA X [a] n)(m:PK X kws r)
  (D:backTo pos (starEach [a] X.env)=(false,eval a X.env)::backTo pos (starEach [] X.env):=by rfl) (G:(backTo pos<|starEach [a] X.env).any (·.1)=false:=by rfl)
  (l:(backToKw pos<|keywordEach kws X.env).filterMap (·.1)=[Str.ofString "start"]:=by rfl)
  (d:(backToKw pos<|keywordEach kws X.env).all (·.1.isSome)=true:=by rfl) (j:(backToKw pos<|keywordEach kws X.env).any (·.1.isNone)=false:=by rfl):
  PI X (.Tuple elts k tpos) (.Call (.Name "enumerate" p) [a] kws pos) (yZ n r):=by
 intro b s y H R I h;show ļ<|fG I E F (show bootBuiltins "enumerate"=!(.type "enumerate")by ac_nf)<|Q9 (bB (C pos b s y H _ I h) λY P ⟨Z,z,B,M,K⟩=>bB (m pos b P y z _ B K) λws g ⟨zs,A,i,O,L⟩=>?_) D G d j;rw[l];let#[x,o,rfl,rfl,W,q]:=L;let#[u,rfl,N]:=M.one;let#[v,rfl,#[t,rfl]]:=O.one;let#[Q,rfl]:=N;show oA (by unfold Builtin.SmallTypes.fitsIndex;rw[ā];show#[decide_eq_true (),Ï ()]) λT w S J=>?_
 show ω w ?_;show#[g.heap.objs.size+1,[g.heap.objs.size+1,g.heap.objs.size],_,_,A,rfl,i.kept (t':=g.toks) J,wK x Q o<|by change(_:Nat)≠_;rfl',#[#[_,by rw[ľ];show w],S],λc e=>?_,q];have f:g.heap.objs.size<=c:=by
  simp only[Æ,á,ĕ]at e;rcases e with rfl|rfl<;>(change(_:Nat)<=_;rfl')
 show i.fpOk f<|i.hok.fresh f
def z6(tk tv:TE):TE:=λσ H Q=>∀p,H p=none->tk σ (upd H p<|.dT []) λx H1=>tv σ H1 λv H2=>H2 p=!(.dT [])/\∃k b,x=.ref b/\H2 b=!(.tup<|k.map kV)/\Q (.ref p) (upd H2 p<|.dT [(k,v)])
def JT{X:Cx}{A:TE}(Z:X.A.units+1<cLine)(P:PE X u y)(T:PE X B A):PE X (.Dict [!u] [B] pos) (z6 y A):=by
 intro g s W H Q I q;have R:=I.hok.fresh<|Ã s.heap.objs.size;have C:=I.laid (a:=s.heap.objs.size) (o:=.dT []) (h':=s.heap.push {cls:=.type "dict",data:=.dict<|[].toArray}) (t':=s.toks) (λ_ _ q=>Jn _ q) (Ã _)<|wg s.heap I.big;show wpAny_Dict_any rfl rfl (by simp) (by simp)<|bB (pD (pos:=pos) P T tZ g _ W _ (λw f=>match w with|[(x,v)]=>f s.heap.objs.size=!(.dT [])/\∃k b,x=.ref b/\f b=!(.tup<|k.map kV)/\Q (.ref s.heap.objs.size) (upd f s.heap.objs.size<|.dT [(k,v)])|_=>False) C<|q _ R) λws s2 ⟨w,f,i,d,l⟩=>?_
 cases d with
 |nil=>show l.elim
 |@cons a c as cs h t=>
  cases t with
  |cons=>show l.elim
  |nil=>
  let#[x,v]:=a;let#[D,Y]:=c;let#[e,k,b,p,m,U]:=l;dsimp only at h p;subst p
  cases(show D=Value.ref b from h.1);let#[z,O,xs,d,E]:=rK i.hok e;unfold storeAll;rw[ý];show Qr<|Qr<|wpAny_dictSet_heap (hsz:=by rw[<-ğ d];show z) (by change X.A.units<cLine;rfl') (jo i.hok m) E λJ j S=>Xs ?_;change wpAny _ _ (forIn [] PUnit.unit _) _ _ _;rw[ŗ];let#[q,G,F,r,K,L,M,_,N]:=j;show Xs #[.ref s.heap.objs.size,upd f s.heap.objs.size<|.dT [(k,v)],iM i (by rw[e];show True.intro) S ⟨q,r⟩ ⟨(by change(1:Nat)<=sizeLine;rw[õ];rfl'),O,_,(d.put k m h.2).keeps λc ys n=>?_,q,G,F,r,K,L,M,N⟩,rfl,U];rw[ao<|bC n e<|λz=>nomatch z];show n
end L2
end
section
namespace Nk
open PySem PySem.Spec PyProof.Rows
variable{a:ό}
abbrev pU:=Int×Int×ϊ Int
variable{x:pU}
section
variable{prog:ϓ}{w:ϕ}{s:ώ}
def IsSt(prog:ϓ)(w:ϕ)(h:ϒ)(k:pU)(a:ό):Prop:=∃o n v1 v2 b,h.get? a=!o/\o.cls=.type "tuple"/\o.data=.seq ([v1,v2,.ref b].toArray) n/\(intKind prog w).is k.1 v1=true/\(intKind prog w).is k.2.1 v2=true/\IsTupleKey (intKind prog w) h k.2.2 b
def IsSt.typeIs{k:pU}(x:IsSt prog w s.heap k a):s.TypeIs (.ref a) "tuple":=let⟨o,_,_,_,_,ho,hc,_⟩:=x;#[o,ho,hc]
theorem IsSt.inj(r:IsSt prog w h x a)(s:IsSt prog w h y a):x=y:=by
 let#[o,n,v1,v2,b,q,_,p,f,g,i]:=r;let#[t,B,C,D,A,d,_,c,j,k,l]:=s;obtain rfl:o=t:=Ü<|q.symm.trans d;rw[p]at c;injection c with e1 _
 have e:=Ö Array.toList e1;simp only[List.cons.injEq,and_true]at e;let#[rfl,rfl,m]:=e
 cases m;have z:=i.inj l;have u:=(intKind prog w).inj _ _ _ f j;have v:=(intKind prog w).inj _ _ _ g k;show Prod.ext u<|Prod.ext v z
theorem IsSt.keeps{es ep}(x:IsSt prog w h k a)(j:h.get? d=!o)(i:o.data=.dict es ep)(l:Heap.SameBut d h g):IsSt prog w g k a:=by
 let#[m,n,v1,v2,b,e,s,c,p,q,r]:=x;have f:a≠d:=by
  rintro rfl;obtain rfl:m=o:=Ü<|e.symm.trans j;rw[i]at c;show nomatch c
 show#[m,n,v1,v2,b,(l.2 a f).trans e,s,c,p,q,r.keeps j i l]
noncomputable def sy(cs:ϊ Int):Int:=reduceHash<|Builtin.Tuple.tupleHashOf<|cs.map hashInt
def wL(k:pU):Int:=reduceHash<|Builtin.Tuple.tupleHashOf [hashInt k.1,hashInt k.2.1,sy k.2.2]
theorem Qg{k:pU}{Q:Int->ώ->Prop}(r:A.units+1<cLine)(i:IsSt prog w s.heap k a)(h:Q (wL k) {s with toks:=s.toks+(↑k.2.2+4)}):wpAny (model prog w) A (pyHash (.ref a)) Q E s:=by
 have d:=i.typeIs;let#[o,n,v1,v2,b,q,_,p,j,l,m]:=i;unfold pyHash
 first| unfold pyHashByItsType|skip
 first|show Qr (wpAny_cRoomFor_or (.inr ()) ?_)|skip
 show Qr (Α d F.slot_tuple_hash.lookup ?_);change wpAny _ _ (if(some (Value.builtin "tuple.__hash__")==!Value.none)=true then _ else _) Q E s;rw[if_neg (by rw[beq_builtin_none];show Í)];show Qr (Α d F.slot_tuple_hash.lookup ?_);change wpAny _ _ (callSpecialIfBoundUnlessNone? (.ref a) "__hash__" _>>=_) Q E s;show Qr (wpAny_callSpecialIfBoundUnlessNone?_slot d F.slot_tuple_hash (æ F.slot_tuple_hash d F.entry_tuple_hash ?_ (F.args_tuple_hash_1 _)));change wpAny _ _ (Builtin.Tuple.tupleItemsOf (.ref a)>>=_) _ _ s;show Qr (Ÿ q p ?_);show Qr ?_;rw[<-Array.forIn_toList];change wpAny _ _ (forIn [v1,v2,Value.ref b] _ _) _ _ s;have g:A.in1.units<cLine:=by change A.units+1<cLine;show r
 rw[ý];show Qr (Qr ((intKind prog w).pyHash j (Xs ?_)));change wpAny _ _ (forIn [v2,Value.ref b] _ _) _ _ _;rw[ý];show Qr (Qr ((intKind prog w).pyHash l (Xs ?_)));change wpAny _ _ (forIn [Value.ref b] _ _) _ _ _;rw[ý];show Qr (Qr (wpAny_pyHash_tuple (knd:=intKind prog w) g m (Xs ?_)));change wpAny _ _ (forIn [] _ _) _ _ _;rw[ŗ];show Xs ?_;change wpAny _ _ (retInt (Builtin.Tuple.tupleHashOf [hashInt k.1,hashInt k.2.1,sy k.2.2])) _ _ _;show wpAny_ret_mkInt ?_;change wpAny _ _ (if(decide (-(2:Int)^63<=Builtin.Tuple.tupleHashOf [hashInt k.1,hashInt k.2.1,sy k.2.2])&&decide (Builtin.Tuple.tupleHashOf [hashInt k.1,hashInt k.2.1,sy k.2.2]<2^63))=true then _ else _) Q E _;have c:∀x:Nat,x=s.toks+(↑k.2.2+4)->Q (wL k) {s with toks:=x}:=λx e=>by rw[e];show h
 unfold wL at c;unfold reduceHash at c;by_cases f:(decide (-(2:Int)^63<=Builtin.Tuple.tupleHashOf [hashInt k.1,hashInt k.2.1,sy k.2.2])&&decide (Builtin.Tuple.tupleHashOf [hashInt k.1,hashInt k.2.1,sy k.2.2]<2^63))=true
 .rw [if_pos f];rw[if_pos f]at c;show Xs (c _ (by dsimp only;rfl'))
 .rw [if_neg f];rw[if_neg f]at c;show Qr (Ĭ (Xs (c _ (by dsimp only;rfl'))))
theorem z7(J:A.units<cLine)(K:IsSt prog w s.heap x a)(C:IsSt prog w s.heap y b)(h:P (.done<|.ret<|.bool<|decide<|x=y) s):
  wpAny (model prog w) A (Builtin.«tuple.__eq__» #[[.ref a,.ref b],[]]) P E s:=by
 have j:=C.typeIs;let#[R,O,v1,v2,c,m,_,k,p,r,t]:=K;let#[ob,Q,L,D,d,n,_,l,u,v,B]:=C;change wpAny _ _ (isInstance (.ref b) (.type "tuple")>>=_) _ _ s;show Qr<|Ė j Η ?_;simp only[đ,Ù,Ĉ];show Qr<|Ÿ m k ?_;show Qr<|Ÿ n l ?_;show Qr ?_;change wpAny _ _ (forIn [(v1,L),(v2,D),(Value.ref c,Value.ref d)] _ _) _ _ s;let#[F,G,M]:=x;let#[H,I,N]:=y;dsimp only at p r t u v B;have o:∀{q:ϑ},q=false->P (.done<|.ret<|.bool q) s->P (.done<|.ret<|.bool false) s:=λe h=>e▸h
 rw[ý];show Qr<|Qr<|(intKind prog w).eqBool (a:=F) (b:=H) p u ?_;by_cases f:F=H
 .subst f;rw[Ï rfl];simp only[đ,Ù,Ĉ];show Xs ?_;change wpAny _ _ (forIn [(v2,D),(Value.ref c,Value.ref d)] _ _) _ _ s;rw[ý];show Qr<|Qr<|(intKind prog w).eqBool (a:=G) (b:=I) r v ?_;by_cases g:G=I
  .subst g;rw[Ï rfl];simp only[đ,Ù,Ĉ];show Xs ?_;change wpAny _ _ (forIn [(Value.ref c,Value.ref d)] _ _) _ _ s;rw[ý];show Qr<|Qr<|wpAny_eqBool_tuple (knd:=intKind prog w) J t B ?_;by_cases i:M=N
   .subst i;rw[Ï rfl];simp only[đ,Ù,Ĉ];show Xs ?_;change wpAny _ _ (forIn [] _ _) _ _ s;rw[ŗ];show Xs ?_;rw[Ï rfl]at h;show Xs h
   .rw [Ø i];simp only[Bool.not_false,ĳ];show Qr<|Xs<|Xs<|Xs<|Xs<|o (Ø λz=>i<|by cases z;rfl) h
  .rw [Ø g];simp only[Bool.not_false,ĳ];show Qr<|Xs<|Xs<|Xs<|Xs<|o (Ø λz=>g<|by cases z;rfl) h
 .rw [Ø f];simp only[Bool.not_false,ĳ];show Qr<|Xs<|Xs<|Xs<|Xs<|o (Ø λz=>f<|by cases z;rfl) h
theorem Yq(g:A.units+1<cLine)(d:IsSt prog w s.heap x a)(f:IsSt prog w s.heap y b)(h:Q (decide<|x=y) s):wpAny (model prog w) A (eqBool (.ref a)<|.ref b) Q E s:=by
 unfold eqBool;try with_reducible show ð ?_
 change wpAny _ _ (if(Value.ref a==Value.ref b)=true then _ else _) Q E s;by_cases c:(Value.ref a==Value.ref b)=true
 .rw [if_pos c];have e:a=b:=by have:=ρ c;injection this
  subst e;obtain rfl:=d.inj f;show Qr<|Ĭ<|Xs<|by simpa using h
 .rw [if_neg c];show Qr (wpAny_richCompare_same_room (op:=.Eq) d.typeIs f.typeIs F.slot_tuple_eq
   (æ F.slot_tuple_eq d.typeIs F.entry_tuple_eq (z7 (by change A.units+1<cLine;show g) d f #[_,rfl,(λe=>nomatch e),ć h])<|F.args_tuple_eq_2 _ _) ())
theorem z8(g:IsTupleKey (intKind prog w) s.heap ks a)(h:Q true s):wpAny (model prog w) A (eqIsQuiet 7<|.ref a) Q E s:=by
 have f:=g.typeIs;let#[o,d,n,k,_,i,j]:=g;unfold eqIsQuiet;show Qr<|Α f F.slot_tuple_eq.lookup ?_;change wpAny _ _ (isInstance (.ref a) (.type "tuple")>>=_) _ _ s;show Qr<|Ė f Η ?_;simp only[đ,Ù,Ĉ];show Qr<|ď k i ?_;show Qr ?_;change wpAny _ _ (forIn d _ _) _ _ s;rw[<-Array.forIn_toList];show wpAny_forIn_list _ (λrest r e=>r.1=none/\e=s/\∀v∈rest,carriedByValue v=true) _ ?_ ?_ _ _ #[rfl,rfl,j.byValue]
 .rintro v rest r e ⟨c,rfl,b⟩;rw[eqIsQuiet_byValue _<|b v Ì];show Qr<|Xs ?_;simp only[đ,Ù,Ĉ];show Xs #[rfl,rfl,λu m=>b u<|Ç _ m]
 .rintro ⟨l,p⟩ e ⟨c,rfl,_⟩;simp only at c;subst c;show Xs h
theorem JV(d:IsSt prog w s.heap k a)(h:Q true s):wpAny (model prog w) A (eqIsQuiet 8<|.ref a) Q E s:=by
 have c:=d.typeIs;let#[o,n,v1,v2,b,j,_,i,e,f,g]:=d;unfold eqIsQuiet;show Qr<|Α c F.slot_tuple_eq.lookup ?_;change wpAny _ _ (isInstance (.ref a) (.type "tuple")>>=_) _ _ s;show Qr<|Ė c Η ?_;simp only[đ,Ù,Ĉ];show Qr<|ď j i ?_;show Qr ?_;change wpAny _ _ (forIn ([v1,v2,Value.ref b].toArray) _ _) _ _ s;rw[<-Array.forIn_toList];change wpAny _ _ (forIn [v1,v2,Value.ref b] _ _) _ _ s;rw[ý,eqIsQuiet_byValue _<|(intKind prog w).byValue _ _ e];show Qr<|Qr<|Xs ?_;simp only[đ,Ù,Ĉ];show Xs ?_;change wpAny _ _ (forIn [v2,Value.ref b] _ _) _ _ s;rw[ý,eqIsQuiet_byValue _<|(intKind prog w).byValue _ _ f];show Qr<|Qr<|Xs ?_;simp only[đ,Ù,Ĉ];show Xs ?_;change wpAny _ _ (forIn [Value.ref b] _ _) _ _ s;rw[ý];show Qr<|Qr<|z8 g ?_;simp only[đ,Ù,Ĉ];show Xs ?_;change wpAny _ _ (forIn [] _ _) _ _ s;rw[ŗ];show Xs<|Xs h
end
def jw(prog:ϓ)(w:ϕ):HeapKind prog w pU where
 is:=IsSt prog w
 hash:=wL
 draws:=λk=>↑k.2.2+4
 room:=λA=>A.units+1<cLine
 inj:=λhx hy=>hx.inj hy
 keeps:=λx ho hd hs=>x.keeps ho hd hs
 pyHash:=λhu hk h=>Qg hu hk h
 eqBool:=λhu hx hy h=>Yq hu hx hy h
 quiet:=λhk h=>JV hk h
end Nk
namespace L2
open PySem PySem.Spec PyProof.Rows Nk
abbrev Sk:=Int×Int×ϊ Int
def Hh(x:Sk×ό×ϋ):DictEntry:=#[wL x.1,.ref x.2.1,x.2.2]
def SdP(a:ό)(kvs:ϊ<|ό×Sk×V)(h:ϒ):Prop:=↑kvs<=sizeLine/\(a==sysModules)=false/\∃xs:ϊ<|Sk×ό×ϋ,Paired (λ(p:ό×Sk×V) (q:Sk×ό×ϋ)=>p.2.1=q.1/\p.1=q.2.1/\RelV p.2.2 q.2.2) kvs xs/\
 ∃o es ep,h.get? a=!o/\o.ExactDict/\o.data=.dict es ep/\es.toList=xs.map Hh/\(xs.map (·.1)).Nodup
noncomputable abbrev bM(a:ό)(kvs:ϊ<|ό×Sk×V):HO:=.ext<|SdP a kvs
def vH(H:Hp)(b:ό)(k:Sk):Prop:=∃c,H b=!(.tup [.int k.1,.int k.2.1,.ref c])/\H c=!(.tup<|k.2.2.map V.int)
noncomputable def dH(kvs:ϊ<|ό×Sk×V)(k:Sk):ύ V:=(kvs.find? λp=>decide<|p.2.1=k).map (·.2.2)
def uv(kvs:ϊ<|ό×Sk×V)(b:ό)(k:Sk)(v:V):ϊ (ό×Sk×V):=if(dH kvs k).isSome then kvs.map λp=>if p.2.1=k then(p.1,p.2.1,v)else p else kvs++[(b,k,v)]
def SGet(H:Hp)(a:ό)(y:V)(r:ύ V):Prop:=∃kvs k b,Rd H a (bM a kvs)/\(∀p∈kvs,vH H p.1 p.2.1)/\y=.ref b/\vH H b k/\r=dH kvs k
def SPut(H:Hp)(a:ό)(y v:V)(H':Hp):Prop:=∃kvs k b,H a=!(bM a kvs)/\(∀p∈kvs,vH H p.1 p.2.1)/\y=.ref b/\vH H b k/\↑kvs<sizeLine/\H'=upd H a (bM a<|uv kvs b k v)
section
theorem wM{P:ϓ}{w:ϕ}:∀{ks:ϊ Int}{us:ϊ ϋ},Vals (ks.map V.int) us->ItemsAre (intKind P w) ks us
 |[],_,r=>by rw[ă]at r;cases r;show .nil
 |k::ks,_,r=>by
  rw[È]at r
  cases r with
  |cons h t=>
   let#[a,rfl]:=(show∃t,_=Value.int k t from h);show .cons (intKind_is _ _ _ _)<|wM t
def sE(d:HOk P w H h)(e:vH H a k):(jw P w).is h k a:=by
 let#[c,f,g]:=e;let#[_,s,r,o,m,p,n,q]:=(show ObjOk P w H h a (.tup [.int k.1,.int k.2.1,.ref c])from d a _ f);let#[_,b,x,v,i,j,u,l]:=(show ObjOk P w H h c (.tup<|k.2.2.map V.int)from d c _ g)
 cases r with
 |cons h1 t1=>
  cases t1 with
  |cons h2 t2=>
   cases t2 with
   |cons h3 t3=>
    cases t3;let#[y,rfl]:=(show∃t,_=Value.int k.1 t from h1);let#[z,rfl]:=(show∃t,_=Value.int k.2.1 t from h2)
    cases(show _=Value.ref c from h3);show#[o,n,_,_,c,m,p,q,intKind_is _ _ _ _,intKind_is _ _ _ _,#[v,b.toArray,u,i,j,l,by simpa using wM x]]
abbrev KS:ϊ (ό×Sk×V)->ϊ (Sk×ό×ϋ)->Prop:=Paired λp q=>p.2.1=q.1/\p.1=q.2.1/\RelV p.2.2 q.2.2
def KS.val(r:KS kvs c)(k:Sk):RelO (dH kvs k) ((atKey c k).map (·.2)):=by
 induction r with
 |nil=>show True.intro
 |@cons p q ps qs h t ih=>
  let#[b,_,d]:=h;by_cases e:p.2.1=k
  .have a:q.1=k:=b.symm.trans e;have z:atKey (q::qs) k=!q.2:=by simp[atKey,ġ,a]
   have y:dH (p::ps) k=!p.2.2:=by simp[dH,ġ,e]
   rw[y,z];show d
  .have a:¬q.1=k:=λz=>e<|b.trans z
   have z:atKey (q::qs) k=atKey qs k:=by simp[atKey,ġ,a]
   have y:dH (p::ps) k=dH ps k:=by simp[dH,ġ,e]
   rw[y,z];show ih
def KS.repl(r:KS kvs c)(k:Sk)(f:RelV y u):KS (kvs.map λp=>if p.2.1=k then(p.1,p.2.1,y)else p) (c.map<|putAt k u):=by
 induction r with
 |nil=>show .nil
 |@cons p q ps qs h t ih=>
  rw[È,È];show .cons ?_ ih;let#[a,b,d]:=h;unfold putAt;by_cases e:p.2.1=k
  .rw [if_pos e,if_pos<|a.symm.trans e];show#[a,b,f]
  .rw [if_neg e,if_neg<|λz=>e<|a.trans z];show#[a,b,d]
def KS.put{a:ϊ<|Sk×ό×ϋ}(r:KS kvs a)(k:Sk){b:ό}(c:RelV y u):KS (uv kvs b k y) (storedH a k b u):=by
 have e:(dH kvs k).isSome=(atKey a k).isSome:=by rw[(r.val k).isSome_eq,ť]
 unfold uv storedH;rw[e];by_cases q:(atKey a k).isSome=true
 .rw [if_pos q,if_pos q];show r.repl k c
 .rw [if_neg q,if_neg q];show Paired.snoc r #[rfl,rfl,c]
def JW(a:ϊ<|ό×Sk×V)(b:ό)(k:Sk)(v:V):↑(uv a b k v)<=↑a+1:=by
 unfold uv;split
 .rw [Qb];rfl'
 .rw [Ë,à];rfl'
def Ss(b:HOk P w H h)(e:Rd H a<|bM a kvs):ObjOk P w H h a (bM a kvs):=by
 rcases e with e|⟨o,e⟩
 .show b a _ e
 .show (show ObjOk P w H h a (.frz o<|bM a kvs)from b a _ e).2
def sG(d:HOk P w H h)(e:Rd H a<|bM a kvs)(u:∀p∈kvs,vH H p.1 p.2.1):↑kvs<=sizeLine/\(a==sysModules)=false/\∃xs,KS kvs xs/\h.DictOfH (jw P w) a xs:=by
 let#[#[z,y,xs,r,o,g,f,i,j,k,n,s],_]:=Ss d e;show#[z,y,xs,r,o,g,f,i,j,k,n,λx hx=>?_,s];have b:∀{l:ϊ<|ό×Sk×V}{m:ϊ<|Sk×ό×ϋ},KS l m->(∀p∈l,vH H p.1 p.2.1)->∀x∈m,(jw P w).is h x.1 x.2.1:=by
  intro l m q;induction q with
  |nil=>intro _ x hx;show nomatch hx
  |@cons p q ps qs hq t ih=>
   intro c x hx;rcases Æ.mp hx with e|hx
   .subst e;have:=sE d<|c p Ì;rw[<-hq.1,<-hq.2.1];show this
   .show ih (λp m=>c p<|Ç _ m) x hx
 show b r u x hx
def JX{P:ϓ}{h:ϒ}{b:ϊ<|Sk×ό×ϋ}(z:↑kvs<=sizeLine)(q:(a==sysModules)=false)(e:KS kvs b)(p:∃o es ep,h.get? a=!o/\o.ExactDict/\o.data=.dict es ep/\es.toList=b.map Hh/\(b.map (·.1)).Nodup):ObjOk P w H' h a (bM a kvs):=by
 let#[o,es,ep,g,j,l,m,n]:=p;show#[#[z,q,b,e,o,es,ep,g,j,l,m,n],#[o,g],λx y ⟨v,u,f,t,i,d,c,r,s⟩ k=>#[v,u,f,t,i,d,c,k i r,s]]
end
section
variable{X:Cx}
theorem z9(D:A.units+2<cLine)(I:Inv X gE σ H s)(g:SGet H a y !v)(x:RelV y u)(h:∀c s',Inv X gE σ H s'->RelV v c->Q c s'):wpAny (model X.prog X.w) A (getItem (.ref a) u) Q E s:=by
 let#[w,k,b,e,q,n,m,l]:=g;subst n
 cases(show u=Value.ref b from x);let#[z,C,B,f,j]:=sG I.hok e q;let#[c,t,i]:=RelO.some_of (v:=v) (o:=(atKey B k).map (·.2)) (by rw[l];show f.val k);let#[p,r,d]:=Î.mp t;show wpAny_getItem_heap (knd:=jw X.prog X.w) (show A.units+1+1<cLine by rfl') (sE I.hok m) j r ?_;rw[d];show h c _ (I.tok _) i
theorem Yr(r:A.units+2<cLine)(I:Inv X gE σ H s)(g:SGet H a y o)(p:RelV y u)(h:∀s',Inv X gE σ H s'->Q (.bool o.isSome) s'):wpAny (model X.prog X.w) A (compareOp .In u<|.ref a) Q E s:=by
 let#[n,k,b,e,m,i,f,l]:=g;subst i
 cases(show u=Value.ref b from p);let#[z,j,t,c,d]:=sG I.hok e m;show wpAny_in_heap (knd:=jw X.prog X.w) (show A.units+1+1<cLine by rfl') (sE I.hok f) j d ?_;have q:=(c.val k).isSome_eq;rw[ť]at q;rw[<-q,<-l];show h _<|I.tok _
theorem JZ(r:A.units+2<cLine)(I:Inv X gE σ H s)(g:SGet H a y o)(p:RelV y u)(h:∀s',Inv X gE σ H s'->Q (.bool<|not o.isSome) s'):wpAny (model X.prog X.w) A (compareOp .NotIn u<|.ref a) Q E s:=by
 let#[n,k,b,e,m,i,f,l]:=g;subst i
 cases(show u=Value.ref b from p);let#[z,j,t,c,d]:=sG I.hok e m;show wpAny_notIn_heap (knd:=jw X.prog X.w) (show A.units+1+1<cLine by rfl') (sE I.hok f) j d ?_;have q:=(c.val k).isSome_eq;rw[ť]at q;rw[<-q,<-l];show h _<|I.tok _
theorem zb{Q:Unit->ώ->Prop}(P:A.units+2<cLine)(I:Inv X gE σ H s)(g:SPut H a y v H')(M:RelV y u)(L:RelV v r)(h:∀s',Inv X gE σ H' s'->Q Unit.unit s'):wpAny (model X.prog X.w) A (setItem (.ref a) u r) Q E s:=by
 let#[c,k,b,e,F,t,n,l,m]:=g;subst t m
 cases(show u=Value.ref b from M);let#[z,D,N,d,j]:=sG I.hok (.inl e) F;have K:↑N<=sizeLine:=by rw[<-ğ d];show z
 have G:↑(uv c b k v)<=sizeLine:=by have:=JW c b k v;rfl'
 show wpAny_setItem_heap (hsz:=K) (knd:=jw X.prog X.w) (show A.units+1+1<cLine by rfl') (sE I.hok n) j λO f J=>h _ ?_
 let#[q,p,o,i,w,x,B,_,C]:=f;show iM I (by rw[e];show True.intro) J ⟨q,i⟩<|JX G D (d.put k L) ⟨q,p,o,i,w,x,B,C⟩
end
end L2
end
section
namespace Nk
open PySem PySem.Spec PyProof.Rows Sx
section
theorem uw:∀a:ϊ Int,HT.lexLt a a=false
 |[]=>rfl
 |x::a=>by rw[HT.iK,if_pos rfl];show uw a
theorem wN:∀{a b:ϊ Int},HT.lexLt a b=true->HT.lexLt b a=false
 |[],[],h=>by cases h
 |[],_::_,_=>rfl
 |_::_,[],h=>by cases h
 |x::a,y::b,h=>by
  rw[HT.iK]at h⊢;by_cases e:x=y
  .rw [if_pos e]at h;rw[if_pos e.symm];show wN h
  .rw [if_neg e]at h;rw[if_neg<|Ne.symm e];have:=ô h;show Ø ()
theorem K1:∀{a b c:ϊ Int},HT.lexLt b a=false->HT.lexLt c b=false->HT.lexLt c a=false
 |[],[],c,_,h=>h
 |[],_::_,[],_,_=>rfl
 |[],_::_,_::_,_,_=>rfl
 |_::_,[],c,h,_=>by cases h
 |_::_,_::_,[],_,h=>by cases h
 |x::a,y::b,z::c,h1,h2=>by
  rw[HT.iK]at h1 h2⊢;by_cases e:y=x
  .rw [if_pos e]at h1;by_cases d:z=y
   .rw [if_pos d]at h2;rw[if_pos<|d.trans e];show K1 h1 h2
   .rw [if_neg d]at h2;have:=ĭ h2;rw[if_neg ()];show Ø ()
  .rw [if_neg e]at h1;have:=ĭ h1;by_cases d:z=y
   .rw [if_neg ()];show Ø ()
   .rw [if_neg d]at h2;have:=ĭ h2;rw[if_neg ()];show Ø ()
end
end Nk
namespace L2
open PySem PySem.Spec PyProof.Rows Sx Nk
section
variable{ep:Nat}
theorem lO:∀{ns:ϊ Int}{us:ϊ ϋ},Vals (ns.map V.int) us->IntsAre us ns
 |[],_,r=>by rw[ă]at r;cases r;show .nil
 |k::ks,_,r=>by
  rw[È]at r
  cases r with
  |cons h t=>
   let#[a,rfl]:=(show∃t,_=Value.int k t from h);show .cons _ _<|lO t
end
end L2
namespace L2
open PySem PySem.Spec PyProof.Rows Nk
def wO:TE:=λ_ H Q=>∀p,H p=none->Q (.ref p) (upd H p<|bM p [])
def lQ(td ty:TE):TE:=λσ H Q=>td σ H λx H1=>ty σ H1 λy H2=>∃a v,x=.ref a/\SGet H2 a y !v/\Q v H2
def Uv(ty td:TE):TE:=λσ H Q=>ty σ H λy H1=>td σ H1 λx H2=>∃a o,x=.ref a/\SGet H2 a y o/\Q (.bl o.isSome) H2
def oM(ty td:TE):TE:=λσ H Q=>ty σ H λy H1=>td σ H1 λx H2=>∃a o,x=.ref a/\SGet H2 a y o/\Q (.bl<|not o.isSome) H2
def wQ(td ty tv:TE):TS:=λD σ H=>tv σ H λv H1=>td σ H1 λx H2=>ty σ H2 λy H3=>∃a H4,x=.ref a/\SPut H3 a y v H4/\D.nx σ H4
section
variable{X:Cx}
def ux:PE X (.Dict [] [] pos) wO:=λb s c H Q I h=>
 wpAny_Dict_empty ⟨.ref s.heap.objs.size,_,I.laid (a:=s.heap.objs.size) (o:=bM s.heap.objs.size []) (t':=s.toks) (λ_ _ q=>Jn _ q) (Ã _)
  (JX (â _) (ŋ.mpr<|Ne.symm<|Ú I.big) .nil ⟨_,([].toArray),0,Å _ rfl,⟨rfl,rfl,rfl⟩,rfl,rfl,Μ⟩),rfl,h _<|I.hok.fresh<|Ã _⟩
theorem Qh(I:Inv X gE h H s)(g:SGet H a y r):s.TypeIs (.ref a) "dict":=by
 let#[f,k,b,e,d,_]:=g;let#[_,_,i,_,c]:=sG I.hok e d;show c.typeIs
theorem j9(r:X.A.units+2<cLine)(p:PE X o td)(n:PE X i ty)(q:Ui i):PE X (.Subscript o i pos) (lQ td ty):=by
 intro b s e H Q I h;show Eo PySem.F.slot_dict_getitem.lookup q<|bB (p b s e H _ I h) λu B ⟨x,f,k,z,t⟩=>bB (n b B e f _ k t) λC D ⟨y,j,d,A,a,v,m,g,w⟩=>?_;subst m;obtain rfl:u=Value.ref a:=z;show#[Qh d g,z9 r d g A λF E l c=>#[v,j,l,c,w]]
theorem Uw(p:X.A.units+2<cLine)(m:PE X i ty)(n:PE X o td):PC X .In i o (Uv ty td):=by
 intro b s c H Q I h;show bB (m b s c H _ I h) λz w ⟨y,d,f,v,q⟩=>bB (n b w c d _ f q) λu A ⟨x,e,j,t,a,ov,l,g,r⟩=>?_
 subst l;obtain rfl:u=Value.ref a:=t;show Yr p j g v λB k=>#[.bl ov.isSome,e,k,rfl,r]
theorem sI(p:X.A.units+2<cLine)(m:PE X i ty)(n:PE X o td):PC X .NotIn i o (oM ty td):=by
 intro b s c H Q I h;show bB (m b s c H _ I h) λz w ⟨y,d,f,v,q⟩=>bB (n b w c d _ f q) λu A ⟨x,e,j,t,a,ov,l,g,r⟩=>?_
 subst l;obtain rfl:u=Value.ref a:=t;show JZ p j g v λB k=>#[.bl<|not ov.isSome,e,k,rfl,r]
theorem uy(w:X.A.units+2<cLine)(q:PE X o td)(p:PE X i ty)(z:PE X value tv)(t:swapsWith value (!(.Subscript o i pos')) pos.line X.env=pure false):
  PS X (.Assign [.Subscript o i pos'] value pos) (wQ td ty tv):=by
 intro b s c H D I h;show wpAny_Assign_Subscript (bB (z b s c H _ I h) λr J ⟨v,d,j,E,A⟩=>bB (q b J c d _ j A) λu K ⟨x,e,k,F,B⟩=>bB (p b K c e _ k B) λM N ⟨y,L,l,G,a,f,n,g,C⟩=>?_) t;subst n;obtain rfl:u=Value.ref a:=F;show zb w l g G E λO m=>#[c,f,m,C]
theorem dR{k:Nat}(a:Room k A):A.units+2<cLine:=Ý (Ω (by decide:2<=64) _) a.units
end
end L2
end
section
namespace Nk
open PySem PySem.Spec PyProof.Rows
section
def Qi{d:ό}{b:Obj}{a:ϔ DictEntry}{i:Nat}(lo:(d==sysModules)=false)(e:b.ExactDict)(g:s.heap.get? d=!b)(c:b.data=.dict a i)(f:(a.size:Int)<2^63)
  (h:∀t tk,Q (.int a.size t) {s with toks:=tk}):wpAny (model prog w) A (call (.builtin "len") [.ref d]) Q E s:=by
 have T:s.TypeIs (.ref d) "dict":=#[b,g,e.1];show Calls.call_function_entry kind_len plain_len entry_len (args_len1 _) ?_;unfold Builtin.«len»;show Qr (m:=oneArg "len" _)<|Xs ?_;show Qr (m:=callSpecial? (.ref d)<|Str.ofString "__len__")<|wpAny_callSpecial?_slot (name:=Str.ofString "__len__") T PySem.F.slot_dict_len<|æ PySem.F.slot_dict_len T PySem.F.entry_dict_len ?_<|PySem.F.args_dict_len_1 _;unfold Builtin.«dict.__len__» Builtin.Dict.dictSlotNone;show Qr<|Qr<|ĸ T ?_;change wpAny _ _ (pure<|Value.ref d) _ _ _;show Xs ?_;change wpAny _ _ (dictSize d>>=_) _ _ _;have j:¬((d==sysModules)=true):=by rw[lo];show Í
 unfold dictSize;show Qr<|Qr<|Ĝ g c<|Xs ?_;change wpAny _ _ (Builtin.Dict.pendingCount d>>=_) _ _ _;unfold Builtin.Dict.pendingCount;show Qr ?_;rw[if_neg j];show Xs ?_;change wpAny _ _ (retInt<|((a.size:Nat):Int)+((0:Nat):Int)) _ _ _;rw[show((a.size:Nat):Int)+((0:Nat):Int)=(a.size:Int)by rfl'];show wpAny_ret_mkInt ?_;show Qr<|ð<|Xs ?_;show Qr<|Ŧ ?_;change wpAny _ _ (if((a.size:Nat):Int)<0 then _ else _) _ _ _;rw[if_neg ()];change wpAny _ _ (if((a.size:Nat):Int)>=2^63 then _ else _) _ _ _;rw[if_neg ()];show Qr<|wpAny_mkInt<|Xs #[_,rfl,h _ _]
end
end Nk
end
section
namespace Sy
open PySem PyProof.Rows
def sJ{K:Type}[DecidableEq K]{a:ϊ<|K×ό×ϋ}{k:K}(h:k∉a.map (·.1)):atKey a k=none:=by
 unfold atKey;rw[Ź,Į];intro x b e;show h<|Zp.mpr #[x,b,ô e]
end Sy
end
section
namespace St
open PySem PySem.Spec PyProof.Rows
variable{a:ό}{x:Int×ϋ}{ep given i n slot:Nat}{E':϶}
theorem slot_next:Slot "set_iterator" "__next__" "set_iterator.__next__":=
 .of (owner:="set_iterator") (n:="__next__") (by rw[ι,ř];kernel_rfl) (by ac_nf) (by ac_nf) (by ac_nf)
  (by first|show .inl (by ac_nf)|show .inr<|by ac_nf) (by rw[isSubtype_type];kernel_rfl)
theorem slot_self:Slot "set_iterator" "__iter__" "set_iterator.__iter__":=
 .of (owner:="set_iterator") (n:="__iter__") (by rw[ι,ř];kernel_rfl) (by ac_nf) (by ac_nf) (by ac_nf)
  (by first|show .inl (by ac_nf)|show .inr<|by ac_nf) (by rw[isSubtype_type];kernel_rfl)
theorem entry_next:entryFor table "set_iterator.__next__"=some Builtin.«set_iterator.__next__»:=entryFor_of_tree (by kernel_rfl)
theorem wR:Manifest.owners.lookup (String.ofList ['r','o','t','a','r','e','t','i','_','t','e','s'].reverse)=!Manifest.sig_set_iterator:=by kernel_rfl
theorem args_next(a:ϋ):argsOk "set_iterator.__next__" #[[a],[]]:=by
 unfold argsOk;rw[signature?_of (id:="set_iterator.__next__") (n:=['_','_','t','x','e','n','_','_']) (o:=['r','o','t','a','r','e','t','i','_','t','e','s']) (by kernel_rfl) wR];kernel_rfl
theorem zc:entryFor table "set.__iter__"=some Builtin.«frozenset.__iter__»:=entryFor_alias (id':="frozenset.__iter__") (by kernel_rfl) rfl (by ac_nf)<|by kernel_rfl
theorem Qj:typeLookup (.type "set") "__len__"=pure !(.builtin "set.__len__"):=by rw[ι,ř];kernel_rfl
def SetAt(h:ϒ)(a:ό)(es:ϔ<|Int×ϋ)(ep:Nat)(t:SetTable):Prop:=∃o,h.get? a=!o/\o.ExactSet/\o.data=.set es ep t/\t.fits es.size=true
def ItAt(h:ϒ)(I:ό)(f0:ϋ)(i:Nat)(a:ό)(n ep:Nat):Prop:=∃o,h.get? I=!o/\o.cls=.type "set_iterator"/\o.data=.fields ([f0,.int i 0,.ref a,.int n 0,.int ep 0].toArray)
def SetAt.typeIs{s:ώ}{b:ϔ<|Int×ϋ}(x:SetAt s.heap a b ep t):s.TypeIs (.ref a) "set":=let⟨o,ho,hc,_⟩:=x;#[o,ho,hc.1]
def ItAt.typeIs{s:ώ}(x:ItAt s.heap I f0 i a n ep):s.TypeIs (.ref I) "set_iterator":=let⟨o,ho,hc,_⟩:=x;#[o,ho,hc]
section
variable{prog:ϓ}{w:ϕ}{A:ϖ}{s:ώ}
theorem lg{a:Type}:∀{l:ϊ a}{i:Nat}(h:i<↑l),(l[i]::l.eraseIdx i).Perm l
 |x::r,0,_=>List.Perm.refl _
 |x::r,i+1,h=>by
  rw[List.getElem_cons_succ,List.eraseIdx_cons_succ];show(List.Perm.swap _ _ _).trans<|List.Perm.cons _<|lg<|Nat.lt_of_succ_lt_succ h
theorem Ys{Q:Nat->ώ->Prop}(a:n≠0)(h:∀i d,i<n->Q i {s with drawn:=d}):wpAny M A (choose src n) Q E s:=λb p _=>by
 unfold choose;rw[Sem.wp_choose];show#[a,h _ _<|Nat.mod_lt _<|Nat.pos_of_ne_zero a]
theorem K3{b:Type}:∀{n:Nat}{xs:ϊ b}{s:ώ}{Q:ϊ b->ώ->Prop},↑xs=n->(∀ys d,ys.Perm xs->Q ys {s with drawn:=d})->wpAny M A (drawOrder n xs) Q E s:=by
 intro n;induction n with
 |zero=>
  intro xs s Q e h;rw[ł e]at h⊢;unfold drawOrder;show Xs<|h [] s.drawn<|List.Perm.refl _
 |succ n ih=>
  intro xs s Q e h;let#[x,r,rfl]:=List.exists_cons_of_length_pos (show 0<↑xs by rw[e];show Nat.succ_pos n);unfold drawOrder;show Qr (Ys (by rw[e];show Nat.succ_ne_zero n) λi d a=>?_);rw[Zl a];show Qr (ih (by rw[List.length_eraseIdx,if_pos a,e];rfl) λys c p=>?_);show Xs<|h _ c ?_;show(List.Perm.cons _ p).trans<|lg a
theorem Qk{c:Type}(next:Nat->Nat):∀(m k:Nat)(l:ϊ c)(a:ϔ c),↑l=m->(pickOrder.go next m k l a).toList.Perm (a.toList++l):=by
 intro m;induction m with
 |zero=>intro k l a e;rw[ł e];unfold pickOrder.go;rw[í]
 |succ m ih=>
  intro k l a e;have d:0<↑l:=by rw[e];show Nat.succ_pos m
  have b:next k%↑l<↑l:=Nat.mod_lt _ d;unfold pickOrder.go;rw[Zl b];show(ih _ _ _<|by rw[List.length_eraseIdx,if_pos b,e];rfl).trans ?_;rw[Array.toList_push,Ē];show List.Perm.append_left _<|lg b
theorem Hi{b:Type}(next:Nat->Nat)(a:ϔ b):(pickOrder next a).toList.Perm a.toList:=by
 have:=Qk next a.size 0 a.toList ([].toArray)<|ã;simpa[pickOrder]using this
theorem wU{Q:ϑ->ώ->Prop}(c:SetAt s.heap a b ep t)
  (h:Q (not (w.params.followText "set-order")&&(not t.plain&&decide (b.size>1))) s):wpAny (model prog w) A (setDrawn a) Q E s:=by
 let#[o,f,g,d,e]:=c;unfold setDrawn setsByText;show Qr (ŧ f d e ?_);show Qr (Qr (ű (Xs (Xs h))))
theorem Hj{Q:ύ (ϋ×Nat)->ώ->Prop}(i:SetAt s.heap a b ep t)(c:w.params.followText "set-order"=true)
  (h:Q (((pickOrder (w.params.setOrder a ep) b)[given]?).map λe=>(e.2,slot)) s):wpAny (model prog w) A (setNext a slot given ep) Q E s:=by
 let#[o,g,j,d,f]:=i;unfold setNext setsByText;show Qr<|ŧ g d f ?_;show Qr<|Qr<|ű<|Xs ?_;change wpAny _ _ (if w.params.followText "set-order"=true then _ else _) _ _ _;rw[if_pos c];simp only[ń,Ù,↓reduceIte];show Qr ?_;unfold setWalk setsByText;show Qr<|ŧ g d f ?_;show Qr<|Qr<|ű<|Xs ?_;change wpAny _ _ (if w.params.followText "set-order"=true then _ else _) _ _ _;rw[if_pos c];show Qr<|ű<|Xs<|Xs h
theorem wV{Q:ύ (ϋ×Nat)->ώ->Prop}(c:SetAt s.heap a b ep t)(d:w.params.followText "set-order"=false)
  (i:(not t.plain&&decide (b.size>1))=false) (g:(not t.led&&not b.isEmpty)=false)
  (h:Q (match b[SetTable.below t.place slot]?,t.place[SetTable.below t.place slot]?with|some (_,x),!j=>!(x,j+1)|_,_=>none) s):wpAny (model prog w) A (setNext a slot given ep) Q E s:=by
 let#[o,k,l,e,f]:=c;unfold setNext setsByText;show Qr (ŧ k e f ?_);show Qr (Qr (ű (Xs ?_)));change wpAny _ _ (if w.params.followText "set-order"=true then _ else _) _ _ _;rw[if_neg (by rw[d];show Í)];change wpAny _ _ (if(not t.plain&&decide (b.size>1))=true then _ else _) _ _ _;rw[if_neg (by rw[i];show Í)];change wpAny _ _ ((if(not t.led&&not b.isEmpty)=true then unsupported "set:maker-not-led" else pure Unit.unit)>>=_) _ _ _;rw[if_neg (by rw[g];show Í)];show Qr (Xs (Xs h))
theorem zf{b:Nat}(d:SetAt s.heap a c ep t)(i:c[b]?=!x)
  (h:Q x.2 s):wpAny (model prog w) A (setNextDrawn a b ep) Q E s:=by
 let#[o,g,j,e,f]:=d;unfold setNextDrawn;show Qr<|ŧ g e f ?_;simp only[ń,Ù,↓reduceIte];rw[i];show Xs h
theorem entry_self:entryFor table "set_iterator.__iter__"=some Builtin.«dict_keyiterator.__iter__»:=entryFor_alias (id':="dict_keyiterator.__iter__") (by kernel_rfl) rfl (by ac_nf)<|by kernel_rfl
theorem args_self(a:ϋ):argsOk "set_iterator.__iter__" #[[a],[]]:=by
 unfold argsOk;rw[signature?_of (id:="set_iterator.__iter__") (n:=['_','_','r','e','t','i','_','_']) (o:=['r','o','t','a','r','e','t','i','_','t','e','s']) (by kernel_rfl) wR];kernel_rfl
theorem Ql(b:ItAt s.heap I f0 i a n ep)(h:Q (.ref I) s):wpAny (model prog w) A (pyIter<|.ref I) Q E s:=by
 show wpAny_pyIter_slot b.typeIs slot_self<|æ slot_self b.typeIs entry_self ?_<|args_self _;change wpAny _ _ (ret<|.ref I) _ _ s;show Xs #[_,rfl,"set_iterator",_,b.typeIs,slot_next.lookup,h]
def SetAt.at'(x:SetAt h a b ep t)(e:∀o,h.get? a=!o->h'.get? a=!o):SetAt h' a b ep t:=let⟨o,ho,r⟩:=x;#[o,e _ ho,r]
def ItAt.at'(x:ItAt h I f0 i a n ep)(e:∀o,h.get? I=!o->h'.get? I=!o):ItAt h' I f0 i a n ep:=let⟨o,ho,r⟩:=x;#[o,e _ ho,r]
theorem Ux(a:ϔ Nat)(h:a.size<=1):SetTable.below a 0=0:=by
 let#[l]:=a
 match l,h with
 |[],_=>rfl
 |[j],_=>simp[SetTable.below,SetTable.below.go]
theorem Uy(j:Nat):SetTable.below ([j].toArray) (j+1)=1:=by simp[SetTable.below,SetTable.below.go]
structure Go(prog:ϓ)(w:ϕ)(A:ϖ)(s:ώ)(a:ό)(vs:ϊ ϋ)(n:Nat)(I:ό)(s1:ώ):Prop where
 ex:∃(fp:ϊ ό)(P:Nat->ϋ->Prop)(St:Nat->ϒ->Prop),Walks prog w A I fp [I] n P St/\St 0 s1.heap/\(∀b∈fp,b=a\/s.heap.objs.size<=b)/\∀acc:ϔ ϋ,ItemsOf P acc n->acc.toList.Perm vs
 keep:∀b o,s.heap.get? b=!o->s1.heap.get? b=!o
 fresh:s.heap.objs.size<=I
 rest:∃d,s1={s with heap:=s1.heap,drawn:=d}
theorem stopped{d:Type}{P:d->ώ->Prop}(f:A.in1.handled=none)(h:∀(c b:Obj) x,((s.heap.push c).push b).get? x=!b->b.cls=.type "StopIteration"->E' (.ref x) {s with heap:=(s.heap.push c).push b}):wpAny (model prog w) A.in1 (newExc (.type "StopIteration") []>>=λe=>(raiseNew e:Sem d)) P E' s:=by
 show Qr ?_;simp only[newExc,newTuple];show Qr (ç ?_ (by size_fits));show Qr (m:=firstArgMember _ _) (τ (a:=Value.none) (by first|rfl|(simp only[firstArgMember];rfl)) ?_);show ç ?_ (by size_fits);simp only[raiseNew];show Qr<|wpAny_handled ?_;rw[f];show Qr<|Xs<|wpAny_throw<|h _ _ _ (Å _ rfl) rfl
def Nx(prog:ϓ)(w:ϕ)(a:ό)(es:ϔ<|Int×ϋ)(ep:Nat)(s:ώ)(f0:ϋ)(i:Nat)(o:ύ<|ϋ×ϋ):Prop:=
 (∃(k:Nat)(r:ύ<|ϋ×Nat),f0=.int k 0/\o=r.map (λp=>(p.1,Value.int p.2 0))/\∀(A:ϖ)(E:϶)(Q:ύ (ϋ×Nat)->ώ->Prop),Q r s->wpAny (model prog w) A (setNext a k i ep) Q E s)\/
 ∃(T:ό)(ys:ϊ Nat),f0=.ref T/\s.heap.IsTuple T (ys.map λi:Nat=>Value.int i 0).toArray/\(∀j∈ys,j<es.size)/\o=ys[i]?.bind λj=>es[j]?.map λe=>(e.2,f0)
theorem step{m:ϔ<|Int×ϋ}{o:ύ<|ϋ×ϋ}{Q:ύ ϋ->ώ->Prop}(F:A.handled=none)(g:ItAt s.heap I f0 i a m.size ep)(D:SetAt s.heap a m ep t)(h:Nx prog w a m ep s f0 i o)
  (C:∀x B h',o=!(x,B)->ItAt h' I B (i+1) a m.size ep->Heap.SameBut I s.heap h'->Q (!x) {s with heap:=h'})
  (H:∀h',o=none->Heap.ExtBut I s.heap h'->Q none {s with heap:=h'}):wpAny (model prog w) A (pyNext<|.ref I) Q E s:=by
 let#[ob,f,q,c]:=id g;let#[L,y,J,u,v]:=id D;have fin:∀n,o=none->Heap.SameBut I s.heap n->∀(z l:Obj) x,((n.push z).push l).get? x=!l->l.cls=.type "StopIteration"->wpAny (model prog w) A (do if <-isInstance (.ref x) (.type "StopIteration")then pure none else throw (.ref x):Sem<|ύ ϋ) Q E {s with heap:=(n.push z).push l}:=λn e K z l x h q=>
  Qr<|Ė (T:="StopIteration") (b:=true) #[_,h,q] isSubtype_stop<|Xs<|H _ e<|(K.extBut.push _).push _
 unfold pyNext;show Qr (ũ (wpAny_callSpecial?_slot (name:=Str.ofString "__next__") g.typeIs slot_next
  (æ slot_next g.typeIs entry_next ?_<|args_next _)))
 unfold Builtin.«set_iterator.__next__» slotArgs;simp only[List.isEmpty_nil,đ,Ù,↓reduceIte,bind_assoc,ņ,ń];show Qr<|Xs ?_;show Qr<|wpAny_fieldsOf f c ?_;dsimp only;show Qr<|wpAny_setEntries_of y u v ?_;simp only[ń,Ù,↓reduceIte,Ô];rcases h with⟨k,r,rfl,rfl,h⟩|⟨T,ys,rfl,⟨oT,hoT,hcT,nT,hdT⟩,hl,rfl⟩
 .simp only[Ô];show Qr<|h _ _ _ ?_
  cases r with
  |none=>show Qr<|ĩ f c (by simp)<|stopped F<|fin _ rfl<|å ..
  |some p=>
   show Qr<|ĩ f c (by simp) ?_;have d:=ë (Obj.mapFields (·.setIfInBounds 0<|rawInt (p.2:Int))) f<|ķ<|ö c _;show Qr<|ĩ d (ö c _) (by simp) ?_;show Xs #[_,rfl,Xs<|C _ _ _ rfl #[_,ë _ d<|ķ<|ö (ö c _) _,(Ι ..).trans<|(Ι ..).trans q,?_]<|(å ..).trans<|å ..];rw[ö<|ö c _];simp[rawInt]
 .show Qr<|ď hoT hdT ?_;dsimp only;rw[Ĺ,À]
  cases e:ys[i]?with
  |none=>
   show Qr<|ĩ f c (by simp) ?_;have d:=ë (Obj.mapFields (·.setIfInBounds 0<|rawInt 0)) f<|ķ<|ö c _;show Qr<|ĩ d (ö c _) (by simp)<|stopped F<|fin _ (by rw[e];rfl)<|(å ..).trans<|å ..
  |some j=>
   have G:=þ<|hl j<|Wp e;simp only[Ŝ,Ô];show Qr<|zf D G ?_;show Qr<|ĩ f c (by simp) ?_;show Xs #[_,rfl,Xs<|C _ _ _ (by rw[e,Option.bind_some,G];rfl) #[_,ë _ f<|ķ<|ö c _,(Ι ..).trans q,?_]<|å ..];rw[ö c];simp[rawInt]
theorem sO(y:A.handled=none){T:ό}(u:a≠I)(F:T≠I){d:ϔ<|Int×ϋ}{oT:Obj}{k:ϊ ϋ}(B:↑k=d.size)(f:Nat->ϋ)
  (C:∀i s,i<=d.size->SetAt s.heap a d ep t->s.heap.get? T=!oT->Nx prog w a d ep s (f i) i (k[i]?.map λx=>(x,f<|i+1))):
  Walks prog w A I [I,a,T] [I] d.size (λi v=>k[i]?=!v) (λi h=>ItAt h I (f i) i a d.size ep/\SetAt h a d ep t/\h.get? T=!oT)where
 sub:=λb j=>by simp at j;simp[j]
 frame:=λ_ _ _ c r=>#[c.1.at' λo e=>r I (by simp) o e,c.2.1.at' λo e=>r a (by simp) o e,r T (by simp) _ c.2.2]
 item:=λi s Q E z c m=>by
  have e:k[i]?=!k[i]:=Zl (by rw[B];show z);show step y c.1 c.2.1 (C i s (ì z) c.2.1 c.2.2) (λx D l q n g=>?_) λl q=>?_
  .rw [e]at q
   cases q;show m _ l s.toks e #[n,c.2.1.at' λo e=>g.extBut a o u e,g.extBut T _ F c.2.2] λb o j e=>g.extBut b o (λh=>j (by simp[h])) e
  .rw [e]at q;cases q
 done:=λs Q E c m=>by
  have e:k[d.size]?=none:=ę (by rw[B];show Ã _);show step y c.1 c.2.1 (C _ s (Ã _) c.2.1 c.2.2) (λx D l q=>?_) λl _ p=>m l s.toks λb o j e=>p b o (λh=>j (by simp[h])) e
  rw[e]at q;cases q
 self:=λ_ _ _ _ c m=>Ql c.1 m
theorem K4(S:A.handled=none)(D:SetAt s.heap a g ep t)(hz:g.size<=sizeLine)
  (Y:w.params.followText "set-order"=false->t.led=true) (Z:1<=g.size->t.plain=false) (h:∀I s1,Go prog w A s a (g.toList.map (·.2)) g.size I s1->Q (.ref I) s1):wpAny (model prog w) A (pyIter (.ref a)) Q E s:=by
 let#[o,K,hc,M,H]:=id D;have u:=É K;have k:∀{r:ϊ ϋ},r.Perm (g.toList.map (·.2))->∀k:ϔ ϋ,ItemsOf (λi v=>r[i]?=!v) k g.size->k.toList.Perm (g.toList.map (·.2)):=λ{r} p k R=>by
  have hv:↑r=g.size:=by rw[p.length_eq,Qb,ã]
  rw[show k.toList=r from List.ext_getElem (by rw[ã,R.1,hv]) λi C P=>by
   have:r[i]?=!k[i]:=R.2 i k[i] (þ (by simpa using C));rw[Zl P]at this;simpa using(Ü this).symm]
  show p
 show wpAny_pyIter_slot D.typeIs F.slot_set_iter (æ F.slot_set_iter D.typeIs zc ?_ (F.args_set_iter_1 _));unfold Builtin.«frozenset.__iter__» Builtin.Frozenset.slot0 slotArgs;simp only[List.isEmpty_nil,đ,Ù,↓reduceIte,bind_assoc,ņ,ń];unfold Builtin.Frozenset.addrOf Builtin.Frozenset.sizeOf;show Qr (Xs ?_);try dsimp only
 show Qr (Xs ?_);show Qr (Qr (wpAny_setEntries_of K M H (Xs ?_)));show Qr (wU D ?_)
 cases hn:(not (w.params.followText "set-order")&&(not t.plain&&decide (g.size>1)))with
 |true=>
  simp only[↓reduceIte];show Qr (K3 (ï) λG d p=>?_);have U:↑G=g.size:=by rw[p.length_eq,ï]
  have J:∀j∈G,j<g.size:=λj m=>ñ.mp (p.mem_iff.mp m)
  have N:(G.map λj=>(g[j]?.map (·.2)).getD .none).Perm (g.toList.map (·.2)):=by
   show(p.map _).trans (List.Perm.of_eq (List.ext_getElem (by simp) λi C P=>?_));rw[Qb,ï]at C;simp[C]
  show Qr (wpAny_newTuple ?_ (by rw[Qb,U];show hz));show Qr (wpAny_setEpoch_of (Jn _ K) M H ?_);show Qr (ç (Xs #[_,rfl,"set_iterator",_,#[_,Å _ rfl,rfl],slot_next.lookup,h _ _ #[#[_,_,_,sO (T:=s.heap.objs.size) (oT:={cls:=.type "tuple",data:=.seq (G.map λi:Nat=>Value.int i 0).toArray}) (t:=t) S (Ú (by rw[size_push'];show Ħ u)) (Ú (by rw[size_push'];show Ĳ _)) (by rw[Qb,U]) (λ_=>.ref s.heap.objs.size) λi s' _ _ X=>.inr #[_,G,rfl,#[_,X,rfl,_,rfl],J,?_],#[#[_,Å _ rfl,rfl,by simp[rawInt]],D.at' λo e=>Jn _ (Jn _ e),Jn _ (Å _ rfl)],?_,k N],λb o e=>Jn _ (Jn _ e),by rw[size_push'];show Nat.le_succ _,d,rfl]]))
  .rw [À]
   cases e:G[i]?with
   |none=>rfl
   |some j=>
    have:=þ (J j (Wp e));simp[this]
  .intro b n;simp at n;rcases n with rfl|rfl|rfl
   .show .inr (Nat.le_succ _)
   .show .inl rfl
   .show .inr (Ã _)
 |false=>
  simp only[Ù,↓reduceIte];show Qr (Xs ?_);show Qr (wpAny_setEpoch_of K M H ?_);have z:∀(r:ϊ ϋ)(f:Nat->ϋ),f 0=.int 0 0->r.Perm (g.toList.map (·.2))->(∀i s,i<=g.size->SetAt s.heap a g ep t->Nx prog w a g ep s (f i) i (r[i]?.map λx=>(x,f (i+1))))->Q (.ref s.heap.objs.size) {s with heap:=s.heap.push {cls:=.type "set_iterator",data:=.fields ([.int 0 0,.int 0 0,.ref a,.int g.size 0,.int ep 0].toArray)}}:=λr f W p hx=>
   h _ _ ⟨⟨_,_,_,sO (T:=a) (oT:=o) (t:=t) S (Ú u) (Ú u) (by rw[p.length_eq,Qb,ã]) f λi s L B _=>hx i s L B,⟨⟨_,Å _ rfl,rfl,by rw[W];rfl⟩,D.at' λo e=>Jn _ e,Jn _ K⟩,λb n=>by
    simp at n;rcases n with rfl|rfl
    .show .inr (Ã _)
    .show .inl rfl,k p⟩,λb o e=>Jn _ e,Ã _,s.drawn,rfl⟩
  show Qr (ç (Xs #[_,rfl,"set_iterator",_,#[_,Å _ rfl,rfl],slot_next.lookup,?_]));simp only[rawInt]
  cases n:w.params.followText "set-order" with
  |true=>
   show z ((pickOrder (w.params.setOrder a ep) g).toList.map (·.2)) (λ_=>.int 0 0) rfl ((Hi _ _).map _) λi s _ B=>.inl #[0,_,rfl,?_,λA E Q q=>Hj (slot:=0) B n q]
   rw[À,Ą]
   cases(pickOrder (w.params.setOrder a ep) g)[i]? <;>rfl
  |false=>
   have C:g.size<=1:=by
    rcases Nat.lt_or_ge 1 g.size with c|c
    .rw [n,Z (ì c),Ï c]at hn;cases hn
    .show c
   let#[l]:=g
   cases l with
   |nil=>show z [] (λ_=>.int 0 0) rfl (List.Perm.refl _) λi s _ B=>.inl #[0,none,rfl,rfl,λA E Q q=>wV B n (by simp) (by simp) (by simpa using q)]
   |cons x l=>
    cases l with
    |cons y l=>simp at C
    |nil=>
     have O:t.place.size=1:=by
      simp only[SetTable.fits,ā,beq_iff_eq]at H;show H.1
     let#[j,J]:∃j,t.place=([j].toArray):=Array.size_eq_one_iff.mp O;show z [x.2] (λi=>.int ((if i=0 then 0 else j+1:Nat):Int) 0) rfl (List.Perm.refl _) λi s L B=>.inl #[_,if i=0 then !(x.2,j+1)else none,rfl,?_,λA E Q q=>wV B n (by simp) (by simp[Y n]) ?_]
     .rcases Nat.le_one_iff_eq_zero_or_eq_one.mp L with rfl|rfl<;>rfl
     .rcases Nat.le_one_iff_eq_zero_or_eq_one.mp L with rfl|rfl
      .rw [J,if_pos rfl,Ux _ (Ã _)];show q
      .rw [J,if_neg Nat.one_ne_zero,Uy];show q
def yq(prog:ϓ)(w:ϕ)(a:ό)(es:ϔ<|Int×ϋ)(ep:Nat)(t:SetTable):Prop:=∀{A:ϖ}{E:϶}{s:ώ}{Q:϶},A.handled=none->SetAt s.heap a es ep t->(∀I s1,Go prog w A s a (es.toList.map (·.2)) es.size I s1->Q (.ref I) s1)->wpAny (model prog w) A (pyIter<|.ref a) Q E s
theorem K5{Q:ϑ->ώ->Prop}(c:s.TypeIs (.ref r) "set")(h:Q false s):wpAny (model prog w) A (Builtin.List.listLengthHint<|.ref r) Q E s:=by
 unfold Builtin.List.listLengthHint;show Qr<|Α c Qj ?_;generalize hid:("set.__len__":String)=id0
 wp_delta
 rw[show splitId id0=!("set","__len__")from by subst hid;decide+kernel];subst hid;show Qr<|Ė (T:="set") (b:=true) c (by rw[isSubtype_type];kernel_rfl) ?_;show wpAny_ite_split (λa=>absurd a<|by decide)<|λ_=>?_;show wpAny_ite_split (λ_=>?_)<|λa=>absurd (by ac_nf) a;show Qr<|ŵ c ?_;show Xs h
theorem zg(X:A.handled=none)(B:SetAt s.heap a q ep t)(K:q.size<=sizeLine)(Y:yq prog w a q ep t)(S:ό)(r:S≠a)(k:ϋ)(l:Nat)(J:s.heap.get? S=!{cls:=.type "list",data:=.seq ([].toArray) l})
  (Q:∀h' tk d g p,(∀b o,b≠S->s.heap.get? b=!o->h'.get? b=!o)->h'.get? S=!{cls:=.type "list",dict:=none,data:=.seq g p,slots:=([].toArray)}->g.toList.Perm (q.toList.map (·.2))->R (.ok<|.ret k) {s with heap:=h',toks:=tk,drawn:=d}):
  wpAny (model prog w) A.in1 (Builtin.List.listExtendWith (.ref S) (.ref a) k)
   (λfin s'=>match fin with|.done f=>R (.ok f) s'|.again p=>p.quiet=true/\codeAny (model prog w) A p R s') (λe s'=>R (.error e) s') s:=by
 unfold Builtin.List.listExtendWith;show Qr (ŵ (T:="set") B.typeIs ?_);have O:Builtin.List.listSameRef (.ref S) (.ref a)=false:=by simp[Builtin.List.listSameRef,r]
 simp only[O,show(Value.type "set"==Value.type "list")=false by decide,show(Value.type "set"==Value.type "tuple")=false by decide,Bool.or_false,Ù,Ĉ];show Qr (Y (A:=A.in1) X B λI s1 G=>?_);let#[N,P,St,W,L,F,v]:=G.ex;let#[d,M]:=G.rest;have y:S<s.heap.objs.size:=É J;have U:S≠I:=Ú (Ó y G.fresh);have u:S∉N:=λC=>by
  rcases F S C with e|e
  .show r e
  .show absurd y (Nat.not_lt.mpr e)
 have z:∀(h:ϒ)(i tk:Nat),St 0 h->(∀b o,b≠S->s.heap.get? b=!o->h.get? b=!o)->
   h.get? S=!{cls:=.type "list",data:=.seq ([].toArray) i}->codeAny (model prog w) A (.builtin "list.extend.loop" #[[.ref S,.ref I,k],[]]) R {s1 with heap:=h,toks:=tk}:=by
  intro h i tk H Z c;show codeAny_extend_loopS W.toS K S u k q.size 0 _ ([].toArray) i rfl (â _) H c (ItemsOf.nil _) λs' g p C D E=>?_
  rw[Moved.eq_with C];rw[M];show Q s'.heap s'.toks d g p (λb o n e=>C.heap b o (λhmem=>?_)<|Z b o n e) D (v _ E);rcases Æ.mp hmem with e'|hmem
  .show n e'
  .show absurd (É e) (by rw[Zs.mp hmem];show Nat.not_lt.mpr G.fresh)
 have c:=G.keep _ _ J;show Qr (ð<|K5 #[_,G.keep _ _ (Classical.choose_spec B.typeIs).1,(Classical.choose_spec B.typeIs).2] ?_);show wpAny_ite_split (λ_=>?_) (λ_=>Xs #[plainId_quiet PySem.F.plain_extend_loop _,z _ l _ L (λb o _ e=>G.keep _ _ e) c]);show Qr (Ĭ ?_);show Qr ?_;change wpAny _ _ (updateSeq S (·.push .none)>>=λ_=>updateSeq S (·.pop)) _ _ _;show Qr (ν c rfl ?_);have j:=ë (Obj.mapSeq (·.push Value.none)) c rfl;show ν (hz:=by seq_fits) j rfl ?_;have m:=ë (Obj.mapSeq (·.pop)) j rfl;show Xs #[plainId_quiet PySem.F.plain_extend_loop _,z _ _ _ ?_ (λb o n e=>?_) m]
 .show W.frame 0 _ _ L λb n o e=>?_
  have x:b≠S:=λh=>u (h▸n)
  show(ĉ _ _<|Ne.symm x).trans ((ĉ _ _<|Ne.symm x).trans e)
 .show (ĉ _ _<|Ne.symm n).trans ((ĉ _ _<|Ne.symm n).trans<|G.keep _ _ e)
theorem wW{n:ϔ<|Int×ϋ}{R:ϊ ϋ->ώ->Prop}(C:A.handled=none)(u:SetAt s.heap a n ep t)(F:n.size<=sizeLine)(D:yq prog w a n ep t)
  (h:∀(h':ϒ)(tk:Nat)(d:Drawn)(vs:ϊ ϋ),(∀b o,s.heap.get? b=!o->h'.get? b=!o)->s.heap.objs.size<=h'.objs.size->vs.Perm (n.toList.map (·.2))->R vs {s with heap:=h',toks:=tk,drawn:=d}):
  wpAny (model prog w) A (collect<|.ref a) R E s:=by
 have B:a<s.heap.objs.size:=let⟨_,ho,_⟩:=u;É ho;unfold collect;show Qr<|wpAny_runValue<|Ć entry_proto_collect' ?_;rw[ù PySem.F.plain_proto_collect _];change wpAny _ A.in1 (newList []>>=λl=>again<|.builtin "list.__iadd__" #[[l,.ref a],[]]) _ _ s;show Qr<|ç ?_;show Xs #[plainId_quiet Ű _,Ć entry_list_iadd' ?_];rw[ù Ű _];have k:(s.heap.push {cls:=.type "list",data:=.seq ([]:ϊ ϋ).toArray}).get? s.heap.objs.size=!{cls:=.type "list",data:=.seq<|[].toArray}:=Å _ rfl;change wpAny _ A.in1 (Builtin.List.listExtendWith (.ref s.heap.objs.size) (.ref a)<|.ref s.heap.objs.size) _ _ _;have p:=zg (prog:=prog) (w:=w) (A:=A) (s:={s with heap:=s.heap.push {cls:=.type "list",data:=.seq ([]:ϊ ϋ).toArray}})
  (R:=λ(q:Result) (r:ώ)=>∃(h':ϒ)(tk:Nat)(d:Drawn)(c:ϔ ϋ)(j:Nat),q=.ok (.ret<|.ref s.heap.objs.size)/\r={s with heap:=h',toks:=tk,drawn:=d}/\
   (∀b o,s.heap.get? b=!o->h'.get? b=!o)/\h'.get? s.heap.objs.size=!{cls:=.type "list",dict:=none,data:=.seq c j,slots:=([].toArray)}/\c.toList.Perm (n.toList.map (·.2)))
  C (u.at' λo e=>Jn _ e) F D s.heap.objs.size (ě B) (.ref s.heap.objs.size) 0 k
  (λh' tk d c j m i g=>#[h',tk,d,c,j,rfl,rfl,λb o e=>m b o (Ú<|É e)<|Jn _ e,i,g])
 have fin:∀{h':ϒ}{tk:Nat}{d:Drawn}{c:ϔ ϋ}{j:Nat},(∀b o,s.heap.get? b=!o->h'.get? b=!o)->h'.get? s.heap.objs.size=!{cls:=.type "list",dict:=none,data:=.seq c j,slots:=([].toArray)}->c.toList.Perm (n.toList.map (·.2))->R c.toList {s with heap:=h',toks:=tk,drawn:=d}:=by
  intro h' tk d c j m i g;show h h' tk d c.toList m (ì<|É i) g
 show Ċ p (λf r x=>?_) λe r x=>?_
 .cases f with
  |done f=>
   let#[h',tk,d,c,j,e,rfl,m,i,g]:=x
   cases e;change wpAny _ A (load s.heap.objs.size>>=_) _ _ _;show Qr<|wpAny_load i<|Xs<|fin m i g
  |again c₁=>
   show#[x.1,Ť x.2 λq v y=>?_];let#[h',tk,d,c,j,rfl,rfl,m,i,g]:=y;change wpAny _ A (load s.heap.objs.size>>=_) _ _ _;show Qr<|wpAny_load i<|Xs<|fin m i g
 .obtain ⟨_,_,_,_,_,z,_⟩:=x
  cases z
theorem Qm(t:SetTable)(a:ϔ<|Int×ϋ)(h:Int)(x:ϋ):(layNew t a h x).2.1.led=t.led:=by
 unfold layNew;split
 .dsimp only[SetTable.put,SetTable.orStandIn]
  repeat' split
  all_goals rfl
 .rfl
theorem Hk(t:SetTable)(a:ϔ<|Int×ϋ)(n:Nat):(relayAll t a n).2.1.led=t.led/\(t.plain=false->(relayAll t a n).2.1.plain=false):=by
 unfold relayAll;split
 .rename_i c b e;have h:c.led=t.led/\c.plain=t.plain:=by
   unfold SetTable.relaid SetTable.laid at e
   cases hc:SetTable.layClean (SetTable.sizeAbove n-1) (a.map (·.1))with
   |none=>rw[hc]at e;cases e
   |some ow=>rw[hc]at e;cases e;show#[rfl,rfl]
  dsimp only;split
  .show #[h.1,λd=>by rw[h.2];show d]
  .show #[rfl,λ_=>rfl]
 .show #[rfl,λ_=>rfl]
def tx:ϋ->ϐ
 |.str x _=>x
 |_=>#[([].toArray)]
theorem zj:(PySem.strKind prog w).is k v=true↔∃t,v=.str k t:=by
 constructor
 .intro h
  cases v<;>simp[PySem.strKind,Value.isStrOf]at h;show#[_,by rw[h]]
 .rintro ⟨t,rfl⟩;show strKind_is prog w k t
structure SetS(prog:ϓ)(w:ϕ)(h:ϒ)(a:ό)(ls:ϊ ϐ)(es:ϔ (Int×ϋ))(ep:Nat)(t:SetTable):Prop where
 at_:SetAt h a es ep t
 el:ElemsOf (PySem.strKind prog w) es.toList
 pm:(es.toList.map λe=>tx e.2).Perm ls
 nd:ls.Nodup
 sz:es.size<4096
 led:w.params.followText "set-order"=false->t.led=true
 pl:1<=es.size->t.plain=false
theorem wX(d:SetAt h a c ep t)(f:t'.fits es'.size=true):SetAt (h.update a<|Obj.putSet es' t') a es' (ep+1) t':=by
 let#[o,g,e,b,_]:=d;have:=ë (Obj.putSet es' t') g (by rw[putSet_of es' t' b];rfl);rw[putSet_of es' t' b]at this;show#[_,this,e,rfl,f]
theorem add_str{x:ϐ}{Q:ϑ->ώ->Prop}(l:SetS prog w s.heap a p D ep t)(n:D.size+1<4096)
  (h:∀b h' M es' ab t',Heap.SameBut a s.heap h'->SetS prog w h' a M es' ab t'->↑M<=↑p+1->(∀y,y∈M↔y∈p\/y=x)->Q b {s with heap:=h',toks:=s.toks+1}):wpAny (model prog w) A (setAdd a<|.str x N) Q E s:=by
 have q:(PySem.strKind prog w).is x (.str x N)=true:=strKind_is prog w x N;have P:D.size<scanBound:=l.sz;let#[o,ho,al,hd,hf]:=id l.at_;unfold setAdd;show ð<|Qr<|(PySem.strKind prog w).pyHash q ?_;unfold setAddHashed setAddHashedIn;show ð<|Qr<|ŧ ho hd hf ?_;dsimp only;rw[byScan_of rfl P l.el];simp only[↓reduceIte];unfold setAddByScan;show Qr ?_;show Qr<|Ĭ ?_;show Qr<|wpAny_setScan_of q ho hd hf l.el ?_
 cases W:List.findIdx? (λe=>(PySem.strKind prog w).is x e.2) D.toList with
 |some j=>
  dsimp only;let#[hj,ag,_]:=List.findIdx?_eq_some_iff_getElem.mp W;let#[Z,Y]:=zj.mp ag;have S:x∈p:=l.pm.mem_iff.mp (Zp.mpr #[_,Û hj,by rw[Y];rfl]);show Xs (Xs (h _ s.heap p D ep t (Heap.SameBut.refl a s.heap) l (Nat.le_succ _) λy=>#[.inl,λz=>z.elim id λe=>e▸S]))
 |none=>
  dsimp only;have S:x∉p:=λS=>by
   let#[e,he,e2]:=Zp.mp<|l.pm.mem_iff.mpr S;let#[#[k,hk,_],_]:=l.el e he;let#[Z,Y]:=zj.mp hk;rw[Y]at e2;have:(PySem.strKind prog w).is x e.2=false:=by have:=List.findIdx?_eq_none_iff.mp W e he;simpa using this
   rw[Y,show k=x from e2,strKind_is]at this
   cases this
  have R:∀(b:ϑ){C:ώ}{Q':Unit->ώ->Prop},Q' Unit.unit C->wpAny (model prog w) A (match b with|true=>rule "set.scan.the-table-gave-way" |false=>pure Unit.unit) Q' E C:=
   λb C Q' W=>by cases b<;>first|show Xs W|show Ĭ W
  have d:=layNew_perm t D ((PySem.strKind prog w).hash x)<|.str x N;have g:=layNew_fits t D ((PySem.strKind prog w).hash x)<|.str x N;have m:=Qm t D ((PySem.strKind prog w).hash x)<|.str x N;generalize hL:layNew t D ((PySem.strKind prog w).hash x) (.str x N)=L at d g m⊢;let#[c,Z,f,ah]:=L;dsimp only at d g m⊢;rw[Array.toList_push]at d;have H:ElemsOf (PySem.strKind prog w) c.toList:=(l.el.push q rfl).perm d;have G:c.size=D.size+1:=by rw[<-ã,d.length_eq,Ë,ã];rfl
  have U:(c.toList.map λe=>tx e.2).Perm (p++[x]):=(d.map _).trans (by rw[Á];show l.pm.append_right [x]);have T:(p++[x]).Nodup:=ä.mpr #[l.nd,by simp,λu hu v hv=>by rw[Zs.mp hv];intro e;rw[e]at hu;show S hu];have I:∀y,y∈p++[x]↔y∈p\/y=x:=λy=>by rw[Ê,Zs]
  show Qr<|R _ ?_;have J:∀i:SetTable,i.fits c.size=true->i.led=t.led->i.plain=false->wpAny (model prog w) A (do
    storeSet a c i
    if(not f&&i.tooFull)=true then do
      (match(relayAll i c<|SetTable.grown c.size).2.2with|true=>rule "set.scan.the-table-gave-way" |false=>pure Unit.unit)
      storeSet a (relayAll i c<|SetTable.grown c.size).1 (relayAll i c<|SetTable.grown c.size).2.1
      pure !true
     else pure !true) (λr s'=>∃b,r=!b/\Q b s') E {s with toks:=s.toks+1}:=by
   intro i f2 l2 p2;have S1:=wX (es':=c) (t':=i) l.at_ f2;let#[o1,ae,ai,ad,_]:=id S1;show Qr (wpAny_storeSet_of ho hd ?_ (fits_of_scanBound (by rw[G];show n)));by_cases hw:(not f&&i.tooFull)=true
   .rw [if_pos hw];have B:=relayAll_perm i c<|SetTable.grown c.size;have K:=relayAll_fits i c<|SetTable.grown c.size;have F:=Hk i c<|SetTable.grown c.size;generalize relayAll i c (SetTable.grown c.size)=Rl at B K F⊢;let#[O,t3,ac]:=Rl;dsimp only at B K F⊢;have X:O.size=c.size:=by rw[<-ã,B.length_eq,ã]
    show Qr (R _ (Qr (wpAny_storeSet_of ae ad ?_ (fits_of_scanBound (by rw[X,G];show n)))));show Xs #[true,rfl,h true _ (p++[x]) O _ t3 ((å ..).trans<|å ..) #[wX S1 K,H.perm B,(B.map _).trans U,T,by rw[X,G];show n,λP=>by rw[F.1,l2];show l.led P,λ_=>F.2 p2] (by rw[Ë];show Ã _) I]
   .rw [if_neg hw];show Xs #[true,rfl,h true _ (p++[x]) c _ i (å ..) #[S1,H,U,T,by rw[G];show n,λP=>by rw[l2];show l.led P,λ_=>p2] (by rw[Ë];show Ã _) I]
  split
  .show Qr ?_;rw[hashByValue_scannable 8 rfl];show Xs ?_;show Ċ (J {Z with plain:=false} (SetTable.fits_plain_off g) m rfl) (λr s' n=>?_) λ_ _ z=>z
   let#[b,rfl,n]:=n;show Xs n
  .rename_i af;show Qr<|Xs ?_;simp only[↓reduceIte];show Ċ (J Z g m (by simpa using af)) (λr s' n=>?_) λ_ _ z=>z
   let#[b,rfl,n]:=n;show Xs n
theorem SetS.at'(x:SetS prog w h a c b ep t)(e:∀o,h.get? a=!o->h'.get? a=!o):SetS prog w h' a c b ep t:=
 #[x.at_.at' e,x.el,x.pm,x.nd,x.sz,x.led,x.pl]
theorem gD{a:ϊ ϐ}(h:StrsAre b a):∀{i:Nat}{v:ϋ},b[i]?=!v->∃x t,v=.str x t/\a[i]?=!x:=by
 induction h with
 |nil=>intro i v e;cases e
 |cons x t _ ih=>
  intro i v e
  cases i with
  |zero=>cases e;show#[x,t,rfl,rfl]
  |succ i=>show ih e
theorem K6(Z:A.handled=none)(C:l≠I)(d:a≠I)(K:l≠a)(T:StrsAre items.toList j)(hz:↑j<4000):
  ∀(k i:Nat)(s:ώ)(ls:ϊ ϐ)(es:ϔ<|Int×ϋ)(ep:Nat)(t:SetTable),items.size-i=k->i<=items.size->(s.heap.IsListIter I l i/\s.heap.IsList l items)->SetS prog w s.heap a ls es ep t->(∀y,y∈ls↔y∈j.take i)->↑ls<=i->
  (∀h' tk ls es ep t,(∀b o,b∉[a,I]->s.heap.get? b=!o->h'.get? b=!o)->SetS prog w h' a ls es ep t->(∀y,y∈ls↔y∈j)->R (.ok<|.ret .none) {s with heap:=h',toks:=tk})->
  codeAny (model prog w) A (.builtin "set.update.loop" #[[.ref a,.ref I],[]]) R s:=by
 have g:items.size=↑j:=by have:=Ö List.length T.strs;rw[Qb,ã]at this;simpa using this
 have W:=Walks.list (prog:=prog) (w:=w) (A:=A.in1) Z I l C items;intro k;induction k with
 |zero=>
  intro i s ls es ep t hk hi Q n p hl D;have H:i=items.size:=()
  subst H;show Ć F.entry_set_update_loop ?_;rw[ù χ _];change wpAny _ A.in1 (pyNext (.ref I)>>=_) _ _ s;show Qr (W.done s _ _ Q λh' tk c=>?_);show Xs (D h' tk ls es ep t (λb o f e=>c b o (λz=>f<|Ç _ z) e) (n.at' λo e=>c a o (by simpa using d) e) (by rw[g,Þ]at p;show p))
 |succ k ih=>
  intro i s ls es ep t hk hi Q n p hl D;have h:i<items.size:=()
  show Ć F.entry_set_update_loop ?_;rw[ù χ _];change wpAny _ A.in1 (pyNext (.ref I)>>=_) _ _ s;show Qr (W.item i s _ _ h Q λv h' tk hv m c=>?_);let#[x,ac,rfl,hx]:=gD T (by rw[Ą];show hv);have E:=n.at' (h':=h') λo e=>c a o (by simpa using d) e
  have G:es.size=↑ls:=by rw[<-n.pm.length_eq,Qb,ã]
  show Qr (ð (add_str (s:={s with heap:=h',toks:=tk}) E (by rw[G];rfl') λb h2 N u q t2 P U ab L=>?_));show Xs #[plainId_quiet χ _,ih (i+1) _ N u q t2 () h #[m.1.at λo e=>P.extBut I o (Ne.symm d) e,m.2.at λo e=>P.extBut l o K e] U (λy=>?_) () λY S O B r t3 J X M=>?_]
  .rw [L,p,Ò,hx,Ê];simp
  .show D Y S O B r t3 (λb o f e=>J b o f (P.extBut b o (λz=>f (by simp[z])) (c b o (λz=>f<|Ç _ z) e))) X M
theorem Qn(c:w.params.followText "set-order"=false->led=true)(x:h.get? a=!{cls:=.type "set",dict:=none,data:=.set ([].toArray) 0<|.fresh 0 0 led}):SetS prog w h a [] ([].toArray) 0 (.fresh 0 0 led):=
 #[#[_,x,#[rfl,rfl,rfl],rfl,rfl],λe b=>by simp at b,List.Perm.refl _,Μ,by decide,c,λh=>absurd h<|by decide]
abbrev nS(w:ϕ):Obj:={cls:=.type "set",dict:=none,data:=.set ([].toArray) 0<|.fresh 0 0<|not (w.params.followText "set-order")}
theorem Hl
  (h:Q₁ (.ref s.heap.objs.size) {s with heap:=s.heap.push<|nS w}):
  codeAny (model prog w) A (.call (.builtin "set.__new__") #[[.type "set",v],[]]) (wants Q₁ E) s:=by
 show codeAny_of_tree ?_;change wpAny _ A.in1 (do checkBuiltinCall "set.__new__" #[[.type "set",v],[]];again<|.builtin "set.__new__" #[[.type "set",v],[]]) _ _ s;show Qr<|τ (F.newCall_set_1 v)<|Xs #[plainId_quiet PySem.F.plain_set_new _,Ć PySem.F.entry_set_new ?_];rw[ù PySem.F.plain_set_new _];unfold Builtin.«set.__new__» Builtin.Frozenset.newClass;have a:=sub_set_self;let#[b,g,d,e,c]:=s;dsimp only
 wp_walk
 show ű<|Xs ?_;dsimp only;simp only[newObj];show Qr<|wpAny_alloc<|Xs ?_;show Xs h
theorem Yt{Q:ώ->Prop}(q:A.handled=none)(f:SetS prog w s.heap a [] ([].toArray) 0<|.fresh 0 0 led)(d:s.heap.IsList l items)(i:l≠a)(z:StrsAre items.toList k)(B:↑k<4000)
  (h:∀h' tk ls es ep t,(∀b o,b≠a->s.heap.get? b=!o->h'.get? b=!o)->SetS prog w h' a ls es ep t->(∀y,y∈ls↔y∈k)->Q {s with heap:=h',toks:=tk}):
  wpAny (model prog w) A (Builtin.«set.__init__» #[[.ref a,.ref l],[]]) (λfin s'=>fin=.done (.ret .none)/\Q s') E s:=by
 have C:=f.at_.typeIs;let#[o,v,D,p,G]:=id f.at_;have c:s.TypeIs (.ref l) "list":=d.typeIs;unfold Builtin.«set.__init__» noKeywords
 wp_walk
 rw[p];show Xs<|Xs ?_;change wpAny _ _ (Builtin.Frozenset.updateFrom "set.__init__" a (.ref l)>>=λ_=>ret .none) _ _ s;show Qr ?_;unfold Builtin.Frozenset.updateFrom Builtin.Frozenset.isAnySet;show Qr<|Qr<|Ė (b:=false) c F.sub_list_set ?_;change wpAny _ _ (isInstance (.ref l)<|.type "frozenset") _ _ _;show Ė (b:=false) c F.sub_list_frozenset ?_;simp only[Ù,↓reduceIte];show Qr<|ŵ c ?_;rw[if_neg<|by decide];show Qr<|Ţ d ?_;have j:l<s.heap.objs.size:=let⟨_,x,_⟩:=d;É x;have g:a<s.heap.objs.size:=É v;show Qr<|wpAny_runValue<|K6 q (Ú j) (Ú g) i z B items.size 0 _ [] ([].toArray) 0 _ (Ŷ _) (â _) #[#[_,Å _ rfl,rfl,rfl],d.at λo e=>Jn _ e] (f.at' λo e=>Jn _ e) (by simp) (â _) λh' tk ls es ep t r m u=>?_;show Xs<|Xs #[rfl,h h' tk ls es ep t (λb o n e=>r b o (by simp;show#[n,Ú<|É e])<|Jn _ e) m u]
theorem Hm{n:ϊ ϐ}(J:A.handled=none)(u:s.heap.IsList l items)(N:StrsAre items.toList n)(O:↑n<4000)
  (h:∀h' tk ls es ep t,(∀b o,s.heap.get? b=!o->h'.get? b=!o)->s.heap.objs.size<h'.objs.size->SetS prog w h' s.heap.objs.size ls es ep t->(∀y,y∈ls↔y∈n)->Q (.ref s.heap.objs.size) {s with heap:=h',toks:=tk}):
  wpAny (model prog w) A (call (.type "set") [.ref l]) Q E s:=by
 let#[c,U,v]:=PySem.F.called_set.mro;have k:=PySem.F.called_set.made;have B:=PySem.F.called_set.sub;show wpAny_call<|codeAny_of_tree ?_;change wpAny _ _ (callAny (.type "set") _) _ _ _;show Xs #[Code.quiet_builtin _<|by ac_nf,Ć PySem.F.entry_type_call ?_];rw[Around.under_plain (weight_type_call_type "set" [.ref l] []) rfl];have P:=PySem.F.called_set.notType;have S:=PySem.F.called_set.canCreate;have I:=F.typeCall_set_1<|.ref l;repeat(any_goals(first|assumption|wp_step))
 show Ť (Hl (E:=E) (Q₁:=λg f=>g=.ref s.heap.objs.size/\f={s with heap:=s.heap.push<|nS w}) ⟨rfl,rfl⟩) λr f m=>?_
 cases r with
 |error e=>show m
 |ok fl=>
  cases fl with
  |ret g=>
   let#[rfl,rfl]:=m;have q:(s.heap.push<|nS w).get? s.heap.objs.size=!(nS w):=Å _ rfl;have D:Shared.TypeIs {s with heap:=s.heap.push<|nS w} (.ref s.heap.objs.size) "set":=⟨_,q,rfl⟩;have L:=PySem.F.called_set.init.lookup;have H:=PySem.F.called_set.init.bind<|.ref s.heap.objs.size;repeat(any_goals(first|assumption|wp_step))
   have j:l<s.heap.objs.size:=let⟨_,x,_⟩:=u;É x;show Ť (codeAny_call_builtin (R:=wants (λr a=>r=.none/\Q (.ref s.heap.objs.size) a) E) PySem.F.called_set.init.plain PySem.F.entry_set_init<|check_set_init_1 D ?_) λi a d=>?_
   .show Ċ (Yt (E:=λe C=>wants (λr a=>r=.none/\Q (.ref s.heap.objs.size) a) E (.error e) C) (Q:=λa=>Q (.ref s.heap.objs.size) a) J (Qn (prog:=prog) (w:=w) (λG=>by rw[G];rfl) q) (u.at λo e=>Jn _ e) (Ú j) N O λh' tk ls es ep t K p M=>?_) (λfin C z=>?_) λ_ _ z=>z
    .obtain ⟨_,x,_⟩:=id p.at_;show h h' tk ls es ep t (λb o e=>K b o (Ú<|É e)<|Jn _ e) (É x) p M
    .obtain ⟨rfl,z⟩:=z;show#[rfl,z]
   .cases i with
    |error e=>show d
    |ok fl₂=>
     cases fl₂ with
     |ret r=>
      let#[rfl,T]:=d;repeat(any_goals(first|assumption|wp_step))
     |_=>show d.elim
  |_=>show m.elim
end
end St
namespace L2
open PySem PySem.Spec PyProof.Rows
def lR(K:Ϗ):ϊ V->Hp->VK->Prop:=λxs H Q=>∃(a:ό)(ss:ϊ ϐ),xs=[.ref a]/\SqL K H a (ss.map V.str)/\↑ss<64/\∀r (ns:ϊ ϐ),ns.Nodup->(∀y,y∈ns↔y∈ss)->ns.Pairwise oJ->H r=none->Q (.ref r) (upd H r<|.lst<|ns.map V.str)
theorem sS{c:Type}[DecidableEq c]:∀{l m:ϊ c},l.Nodup->(∀x∈l,x∈m)->↑l<=↑m
 |[],_,_,_=>â _
 |x::l,m,hn,h=>by
  have a:=h x Ì;have:=sS (l:=l) (m:=m.erase x) (î.mp hn).2 λy b=>(List.mem_erase_of_ne<|λ(e:y=x)=>(î.mp hn).1<|by rw[<-e];show b).mpr<|h y<|Ç _ b
  rw[ζ a]at this;have:=Ŏ a;rw[ê];rfl'
theorem Fe:∀{vs:ϊ ϋ},(∀v∈vs,∃x t,v=.str x t)->StrsAre vs (vs.map St.tx)
 |[],_=>.nil
 |v::r,h=>by
  let#[x,t,rfl]:=h v Ì;show .cons x t (Fe λu a=>h u<|Ç _ a)
def Inv.drew{X:Cx}(I:Inv X gE σ H s)(d:Drawn):Inv X gE σ H {s with drawn:=d}:=
 #[I.ok,I.os,I.bare,I.base,I.loc,I.cell,I.free,I.freeC,I.pin,I.hok,I.len]
def zm{X:Cx}(g:X.calm=true)(hg:Gl X "sorted")(N:X.mg "sorted"=none)(Y:Gl X "set")(ab:X.mg "set"=none)(ha:PA X [e] t)
  (U:starEach [.Call (.Name "set" p2) [e] [] pos2] X.env=(false,eval (.Call (.Name "set" p2) [e] [] pos2) X.env)::starEach [] X.env:=by rfl)
  (ad:backTo pos (starEach [.Call (.Name "set" p2) [e] [] pos2] X.env)=[(false,eval (.Call (.Name "set" p2) [e] [] pos2) X.env)]:=by rfl)
  (W:starEach [e] X.env=(false,eval e X.env)::starEach [] X.env:=by rfl) (J:(backTo pos2<|starEach [] X.env).any (·.1)=false:=by rfl):
  PE X (.Call (.Name "sorted" p) [.Call (.Name "set" p2) [e] [] pos2] [] pos) (gY (lR X.K) t):=by
 intro M s σ H Q I h;show ļ (fG I hg N (by ac_nf:bootBuiltins "sorted"=!(.builtin "sorted")) ?_ (by decide) (by decide));show Ů ?_ U rfl;rw[ad];show Ļ ?_;show ļ (fG I Y ab (by ac_nf:bootBuiltins "set"=!(.type "set")) ?_ (by decide) (by decide));show Č (bB (ha pos2 M s σ H _ I h) λus s1 ⟨m,H1,D,r1,q1⟩=>?_) W J;let#[a,ss,rfl,hx,ah,q]:=q1;let#[u,rfl,ru]:=r1.one
 cases(show u=Value.ref a from ru);let#[am,r,ht,hz]:=D.list hx;have hi:=kZ r;show St.Hm (D.ok.hd g) ht.isList (by show hi) () λh' tk L es ep t' hk ac l N=>?_
 show ţ ?_;have E:es.size=↑L:=by rw[<-l.pm.length_eq,Qb,ã]
 have ai:↑L<=↑ss:=sS l.nd λy hy=>(N y).mp hy
 show j6 (C:=λm s3=>∃f i d x,s3={s1 with heap:=f,toks:=i,drawn:=d}/\(∀b o,s1.heap.get? b=!o->f.get? b=!o)/\s1.heap.objs.size<=f.objs.size/\StrsAre m x/\x.Perm L)
  (Z:=λm _ j=>∃x,StrsAre j.toList x/\x.Perm L/\sortedS x=true) (λE' R hR=>?_) λm s3 hC=>?_
 .show St.wW (A:=X.A.in1) (D.ok.hd g) l.at_ (by rw[E,õ];rfl') (λhh B h=>St.K4 hh B (by rw[E,õ];rfl') l.led l.pl h) λf i d m w c O=>hR _ _ #[f,i,d,m.map St.tx,rfl,λb o e=>w b o<|hk b o e,Ð (ì ac) c,Fe λv hv=>?_,?_]
  .obtain ⟨e,me,rfl⟩:=Zp.mp<|O.mem_iff.mp hv;let#[#[k,hk,_],_]:=l.el e me;let#[t1,e1]:=St.zj.mp hk;show#[k,t1,e1]
  .show (O.map _).trans ?_;rw[Ä];show l.pm
 .obtain ⟨f,i,d,x,rfl,w,c,B,K⟩:=hC;have al:↑m=↑L:=by have:=Ö List.length B.strs;rw[Qb]at this;rw[<-K.length_eq];show this
  show#[(),λA' E' P hP=>?_,λj G=>?_]
  .show list_sort_treeK strKind_oneLt (Å _ rfl) B.keysOf (λaf ag rest e=>keyKind_strs (by rw[<-e];show B)) () λap O hs=>?_
   let#[ae,S,f,T]:=sorted_out_str B O hs;show hP _ #[ae,S,f.trans K,T]
  .obtain ⟨z,S,n,T⟩:=G;let#[ee,U]:=Fb f m j;have hr:H1 f.objs.size=none:=D.hok.fresh c;have F:z.Nodup:=n.nodup_iff.mpr l.nd;show#[.ref _,_,(D.drew d).laid (t':=i) (a:=f.objs.size) (o:=.lst<|z.map V.str) (λb o hb=>pN<|w b o hb) c<|show ObjOk X.prog X.w _ _ _ (.lst _)from#[?_,j.toList,ee,mG S,?_],rfl,q _ z F (λy=>n.mem_iff.trans<|N y) (kI T F) hr]
   .rw [Qb,n.length_eq,õ];rfl'
   .rw [U]
def wY{X:Cx}(K:Ϗ)(h:X.K=K)(a:X.calm=true)(k:Gl X "sorted")(l:X.mg "sorted"=none)(d:Gl X "set")(f:X.mg "set"=none)(i:PA X [e] t)
  (j:starEach [.Call (.Name "set" p2) [e] [] pos2] X.env=(false,eval (.Call (.Name "set" p2) [e] [] pos2) X.env)::starEach [] X.env:=by rfl)
  (g:backTo pos (starEach [.Call (.Name "set" p2) [e] [] pos2] X.env)=[(false,eval (.Call (.Name "set" p2) [e] [] pos2) X.env)]:=by rfl)
  (c:starEach [e] X.env=(false,eval e X.env)::starEach [] X.env:=by rfl) (b:(backTo pos2<|starEach [] X.env).any (·.1)=false:=by rfl):
  PE X (.Call (.Name "sorted" p) [.Call (.Name "set" p2) [e] [] pos2] [] pos) (gY (lR K) t):=h▸zm a k l d f i j g c b
def K7:ϊ V->Hp->VK->Prop:=λxs H Q=>∃(a:ό)(kvs:ϊ<|Key×V),xs=[.ref a]/\Rd H a (.dK kvs)/\Q (.int ↑kvs) H
def Hn{X:Cx}:bY X (.builtin "len") K7:=by
 intro e s o H n l Q I k h;let#[a,c,rfl,f,q]:=h;let#[u,rfl,j]:=k.one
 cases(show u=Value.ref a from j);let#[i,b,m,d,g]:=kj I.hok f;show call_len_dict b g (by rw[<-↑d];rw[õ]at i;rfl') ?_;rw[<-↑d];show#[.int ↑c,H,I.tok _,#[_,rfl],q]
def K8:ϊ V->Hp->VK->Prop:=λxs H Q=>∃(a:ό)(kvs:ϊ<|ϊ Key×V),xs=[.ref a]/\H a=!(.dT kvs)/\Q (.int ↑kvs) H
def Ho{X:Cx}:bY X (.builtin "len") K8:=by
 intro e s x H p w Q I n h;let#[a,c,rfl,f,q]:=h;let#[u,rfl,m]:=n.one
 cases(show u=Value.ref a from m);let#[z,lo,p,d,o,g,r,i,j,k,l,_]:=rK I.hok f;have b:g.size=↑c:=by rw[<-ã,l,Qb,ğ d]
 show Nk.Qi lo j i k (by rw[b];rw[õ]at z;rfl') λt v=>?_
 rw[b];show#[.int ↑c,H,I.tok _,#[t,rfl],q]
end L2
end
section
namespace L2
open PySem PySem.Spec PyProof.Rows Sx Nk
section
variable{X:Cx}
theorem Qo{k:Nat}(a:Room k A):A.units+12<cLine:=Ý (Ω (by decide:12<=64) _) a.units
end
end L2
end
section
namespace L2
open PySem PySem.Spec PyProof.Rows Nk
section
def HOk.freezeE(x:HOk P w H h)(i:H a=!(.ext S))(k:h.get? a=!od):HOk P w (upd H a<|.frz od<|.ext S) h:=by
 have d:∀c y,H c=!(.own y)->upd H a (.frz od<|.ext S) c=!(.own y):=λc y q=>by
  rw[ao<|bC q i<|by intro z;cases z];show q
 have f:∀c g,H c=!(.tup g)->upd H a (.frz od<|.ext S) c=!(.tup g):=λc g q=>by
  rw[ao<|bC q i<|by intro z;cases z];show q
 intro b u e;by_cases j:b=a
 .rw [j]at e⊢;rw[aa]at e
  cases e;show#[k,(x a _ i).stay (λc v _ q=>q) (λc q=>d c _ q) λc g q=>f c g q]
 .rw [ao j]at e;show(x b u e).stay (λc v _ q=>q) (λc q=>d c _ q) λc g q=>f c g q
end
theorem Inv.freezeE{X:Cx}(I:Inv X gE e H s)(c:H a=!(.ext S))(f:s.heap.get? a=!d):
  Inv X gE e (upd H a<|.frz d<|.ext S) s:=by
 show I.call' (ch:=[]) rfl #[λb o q _ _ _=>q,λb o q _ _ _=>#[o.slots,q],λb o q n _=>?_,λb o q _=>#[o,q],λb i q=>?_,λb o u q=>?_,λb h q=>#[([].toArray),?_]] (I.hok.freezeE c f) I.bare λb g=>nomatch g
 .rw [ao (λz=>by rw[z,c]at n;cases n)];show n
 .rw [ao (bC q c (by intro z;cases z))];show q
 .rw [ao (bC q c (by intro z;cases z))];show q
 .rw [ao (bC q c (by intro z;cases z)),q];simp
def mK(j:HOk P w H h)(f:H a=!(.frz b<|bM a kvs)):
  h.get? a=!b/\b.ExactDict/\(a==sysModules)=false/\∃es ep xs,b.data=.dict es ep/\KS kvs xs/\es.toList=xs.map Hh/\es.size=↑kvs:=by
 let#[c,#[_,y,xs,r,o,es,ep,d,g,i,e,_],_]:=(show ObjOk P w H h a (.frz b<|bM a kvs)from j a _ f);rw[c]at d
 cases d;show#[c,g,y,es,ep,xs,i,r,e,by rw[<-ã,e,Qb];show(ğ r).symm]
def zp(od:Obj)(a:ό)(kvs:ϊ<|ό×Sk×V):It where
 go:=λi H=>H a=!(.frz od<|bM a kvs)/\i<↑kvs
 yld:=λi H v H'=>H'=H/\∃p,kvs[i]?=!p/\v=.ref p.1
 stop:=λi H=>H a=!(.frz od<|bM a kvs)/\↑kvs<=i
theorem zq{P:ϓ}{K:Ϗ}(m a:ό){od:Obj}{x:ϔ DictEntry}{ep:Nat}(f:od.data=.dict x ep):Turn P w K tg (zp od a kvs) [m] m (λi h=>h.IsKeyIter m a i x.size ep)where
 mem:=by simp
 obj:=λi h g b l=>by
  let#[o,e,c,d]:=g;have e':b=m:=by simpa using l
  rw[e'];show#[o,e,λv z=>by rw[d]at z;cases z]
 keep:=λi h y g k=>by
  let#[o,e,r]:=g;show#[o,k m (by simp) o e,r]
 item:=by
  intro X Q Y O hc i j s σ H E I A g T;subst Q Y O;let#[B,hi]:=T;let#[C,_,_,F,D,xs,n,t,Z,U]:=mK I.hok B;rw[f]at n
  cases n;let#[G,J,f2,L,M,N]:=A m (by simp);show pL g C f () λy u hs=>?_
  have I1:Inv X j σ H {s with heap:=y,toks:=s.toks}:=I.turned (λb o l e=>hs.extBut b o l e) G J L M N;let#[o,e,R,d]:=id u;let#[p,q,hk,hx,_,r2,_]:=il i t hi;have S:(x[i]'(by rfl')).key=.ref p.1:=by
   have:x.toList[i]?=!(Hh q):=by rw[Z,À,hx];rfl
   rw[Ą,þ ()]at this;rw[Ü this,r2];rfl
  show#[_,rfl,p6 (s:={s with heap:=y}) e R d (by decide) ⟨.ref p.1,H,I1,by rw[S];rfl,#[rfl,p,hk,rfl],u,λb l=>(A b l).1⟩]
 done:=by
  intro X Q Y O hc i j s σ H E I A g T;subst Q Y O;let#[B,hi]:=T;let#[C,_,_,F,D,xs,n,t,Z,U]:=mK I.hok B;rw[f]at n
  cases n;let#[G,J,f2,L,M,N]:=A m (by simp);show ug (I.ok.hd hc) g C f () λy kk=>#[rfl,I.turned (t':=s.toks) (λb o l e=>kk b o l e) G J L M N]
 self:=λ_ _ _ _ _ g h=>wpAny_pyIter_keyiter g h
def uz(tl:TE):TI:=λσ H R=>tl σ H λx H1=>∃a kvs,x=.ref a/\((H1 a=!(bM a kvs)/\∀od,R (zp od a kvs)<|upd H1 a<|.frz od<|bM a kvs)\/∃od,H1 a=!(.frz od<|bM a kvs)/\R (zp od a kvs) H1)
def wZ{X:Cx}(D:PE X l u):PI X tg l (uz u):=by
 intro c s w H R I h;show bB (D c s w H _ I h) λv i ⟨x,p,m,F,E⟩=>?_
 let#[a,d,rfl,q]:=E
 cases F;let#[g,j,k,f,q]:∃g j,Inv X c w j i/\j a=!(.frz g<|bM a d)/\R (zp g a d) j:=by
  rcases q with⟨f,q⟩|⟨g,f,q⟩
  .obtain ⟨⟨_,_,_,_,o,A,z,y,_⟩,_⟩:=(show ObjOk X.prog X.w p i.heap a (bM a d)from m.hok a _ f);show#[o,_,m.freezeE f y,aa,q o]
  .show #[g,p,m,f,q]
 let#[t,B,n,A,z,G,r,_]:=mK k.hok f;show lJ n #[g,t,B.1] t r ?_;show#[i.heap.objs.size,[i.heap.objs.size],_,_,_,rfl,k.kept (t':=i.toks) λb o e=>Jn _ e,zq _ a r,#[_,Å _ rfl,rfl,rfl],λb C=>?_,q];rw[Zs.mp C];show k.fpOk (Ã _)<|k.hok.fresh<|Ã _
end L2
end
section
namespace Nk
open PySem
section
variable{i ep:Nat}
theorem Qp{Q:϶}(lo:(d==sysModules)=false)(a:od.ExactDict)(b:s.heap.get? d=!od)
  (h:Q (.ref s.heap.objs.size) {s with heap:=s.heap.push {cls:=.type "dict_items",data:=.fields<|[.ref d].toArray}}):wpAny (model prog w) A (call (.builtin "dict.items") [.ref d]) Q E s:=by
 have T:s.TypeIs (.ref d) "dict":=#[od,b,a.1];show æ F.slot_dict_items T F.entry_dict_items ?_<|F.args_dict_items_1 _;unfold Builtin.«dict.items» Builtin.Dict.noArgs;show Qr<|Qr<|ĸ T<|Xs<|show wpAny _ _ (Builtin.Dict.showsAll d>>=_) _ _ s from ?_;unfold Builtin.Dict.showsAll;rw[lo];show Qr<|Xs<|Qr<|ç<|Xs #[_,rfl,h]
theorem Qq{Q:϶}(b:s.heap.IsItemsView v d)(c:s.heap.get? d=!od)(a:od.data=.dict es ep)
  (h:Q (.ref s.heap.objs.size) {s with heap:=s.heap.push {cls:=.type "dict_itemiterator",data:=.fields<|[.none,.bool false,.ref d,.int 0 0,.int es.size 0,.int ep 0,.none,.none].toArray}}):
  wpAny (model prog w) A (pyIter<|.ref v) Q E s:=by
 let#[o,e,_,f]:=id b;show wpAny_pyIter_slot b.typeIs F.slot_dict_items_iter<|æ F.slot_dict_items_iter b.typeIs F.entry_dict_items_iter ?_<|F.args_dict_items_iter_1 _;unfold Builtin.«dict_items.__iter__» Builtin.Dict_items.dictOf Builtin.Dict_items.newIterator;show Qr<|Xs<|Qr<|Qr<|č e f (x:=.ref d) rfl<|Xs<|Qr<|Qr<|Ĝ c a<|Qr<|Β c a ?_;simp only[show Builtin.Dict_items.ownsTuple "dict_itemiterator"=true by decide,ĳ];show ç (Xs #[_,rfl,"dict_itemiterator",_,#[_,Å _ rfl,rfl],F.slot_dict_itemiterator_next.lookup,?_]) (by simp[sizeOk,Builtin.Dict_items.ownedTupleFields,õ]);simpa[rawInt,Builtin.Dict_items.ownedTupleFields]using h
theorem Qs(f:IsItemIter s.heap it d i es.size ep ok ov)(l:s.heap.get? d=!od)(k:od.data=.dict es ep)(X:i<es.size)
  (W:∀h',IsItemIterOut h' it d (i+1) es.size ep es[i].key es[i].val s.heap.objs.size->h'.get? s.heap.objs.size=!{cls:=.type "tuple",data:=.seq<|[es[i].key,es[i].val].toArray}->h'.objs.size=s.heap.objs.size+1->
   (∀b o,b≠it->s.heap.get? b=!o->h'.get? b=!o)->Q (!(.ref s.heap.objs.size)) {s with heap:=h'}):wpAny (model prog w) A (pyNext<|.ref it) Q E s:=by
 have T:s.TypeIs (.ref it) "dict_itemiterator":=#[_,f,rfl];unfold pyNext;show Qr<|ũ<|wpAny_callSpecial?_slot (name:=Str.ofString "__next__") T Ń<|æ Ń T F.entry_dict_itemiterator_next ?_<|F.args_dict_itemiterator_next_1 _;have N:Builtin.Dict_items.ownsTuple "dict_itemiterator"=true:=by decide
 have O:¬(Value.ref d==Value.none)=true:=Í;have f2:¬((i:Int)<0):=()
 have K:∀{C:ώ}{L:ϖ}{M:϶}{R:String->ώ->Prop},C.TypeIs (.ref it) "dict_itemiterator"->R "dict_itemiterator" C->wpAny (model prog w) L (typeNameOfWhole<|.ref it) R M C:=λa b=>wpAny_typeNameOfWhole_itemiter a b
 repeat(first
  |(show K T ?_)
  |(show wpAny_fieldsOf f rfl ?_)
  |(show Ĝ l k ?_)
  |(show Β l k ?_)
  |(show Xs ?_)
  |(show Qr ?_)
  |(simp only[N,ĳ])
  |(rw[if_neg O])
  |(rw[if_neg<|by simp]))
 rw[Ô,þ X];dsimp only;show Qr<|Qr<|K T<|Xs<|Qr<|wpAny_isOneOf_itemiter T ?_;change wpAny (model prog w) A.in1 (do setField (.ref it) 3<|rawInt<|(i:Int)+1;_) _ _ s;show Qr<|ċ f (by simp) λh j m=>?_;replace m:Heap.SameBut it s.heap h:=m;replace j:IsItemIter h it d (i+1) es.size ep ok ov:=by
  unfold IsItemIter;rw[show((i+1:Nat):Int)=(i:Int)+1 by rfl'];simpa[rawInt]using j
 have y:Shared.TypeIs {s with heap:=h} (.ref it) "dict_itemiterator":=⟨_,j,rfl⟩;show Qr<|ð<|Qr<|wpAny_isOneOf_itemiter y<|Qr<|wpAny_isOneOf_itemiter y ?_;change wpAny (model prog w) _ (Builtin.Dict_items.pairFromOwner (.ref it) 6 es[i].key es[i].val) _ _ {s with heap:=h};unfold Builtin.Dict_items.pairFromOwner Builtin.Dict_items.ownedTupleIsFree;show Qr<|wpAny_newTuple ?_;have v:h.objs.size=s.heap.objs.size:=m.1;have B:it<s.heap.objs.size:=É f;let#[g,n,Z,z2,Y,D]:∃g,IsItemIter g it d (i+1) es.size ep ok ov/\g.get? s.heap.objs.size=!{cls:=.type "tuple",data:=.seq<|[es[i].key,es[i].val].toArray}/\g.objs.size=s.heap.objs.size+1/\(∀b o,b≠it->s.heap.get? b=!o->g.get? b=!o)/\g=h.push {cls:=.type "tuple",data:=.seq<|[es[i].key,es[i].val].toArray}:=
  #[_,Jn _ j,by rw[<-v];show Å _ rfl,by rw[Ĩ,v],λb o c e=>Jn _<|m.extBut b o c e,rfl]
 rw[v];change wpAny (model prog w) _ _ _ _ {s with heap:=h.push {cls:=.type "tuple",data:=.seq<|[es[i].key,es[i].val].toArray}};rw[<-D];clear D j m y v;show Qr<|Qr<|č n rfl (x:=.none) rfl<|Xs ?_;simp only[ĳ];show Qr<|č n rfl (x:=ok) rfl<|Qr<|č n rfl (x:=ov) rfl ?_;show Qr<|ċ n (by simp) λG P q=>Qr<|ċ P (by simp) λH S r=>Qr<|ċ S (by simp) λI U t=>Qr<|ċ U (by simp) λp z u=>?_;replace z:IsItemIterOut p it d (i+1) es.size ep es[i].key es[i].val s.heap.objs.size:=z;replace q:Heap.SameBut it g G:=q;replace r:Heap.SameBut it G H:=r;replace t:Heap.SameBut it H I:=t;replace u:Heap.SameBut it I p:=u;have J:∀b o,b≠it->g.get? b=!o->p.get? b=!o:=λb o c e=>u.extBut b o c<|t.extBut b o c<|r.extBut b o c<|q.extBut b o c e
 show Qr<|Ŧ<|Xs<|Xs #[_,rfl,Xs<|W p z (J _ _ (ě B) Z) (by rw[u.1,t.1,r.1,q.1,z2]) λb o c e=>J b o c<|Y b o c e]
theorem UG(t:A.handled=none)(c:IsItemIter s.heap it d i es.size ep ok ov)(f:s.heap.get? d=!od)(e:od.data=.dict es ep)(u:es.size<=i)
  (r:∀h',Heap.ExtBut it s.heap h'->Q none {s with heap:=h'}):wpAny (model prog w) A (pyNext<|.ref it) Q E s:=by
 have T:s.TypeIs (.ref it) "dict_itemiterator":=#[_,c,rfl];unfold pyNext;show Qr<|ũ<|wpAny_callSpecial?_slot (name:=Str.ofString "__next__") T Ń<|æ Ń T F.entry_dict_itemiterator_next ?_<|F.args_dict_itemiterator_next_1 _;have p:Builtin.Dict_items.ownsTuple "dict_itemiterator"=true:=by decide
 have q:¬(Value.ref d==Value.none)=true:=Í;have h:∀{g:ώ}{j:ϖ}{k:϶}{R:String->ώ->Prop},g.TypeIs (.ref it) "dict_itemiterator"->R "dict_itemiterator" g->wpAny (model prog w) j (typeNameOfWhole<|.ref it) R k g:=λa b=>wpAny_typeNameOfWhole_itemiter a b
 repeat(first
  |(show h T ?_)
  |(show wpAny_fieldsOf c rfl ?_)
  |(show Ĝ f e ?_)
  |(show Β f e ?_)
  |(show Xs ?_)
  |(show Qr ?_)
  |(simp only[p,ĳ])
  |(rw[if_neg q])
  |(rw[if_neg<|by simp]))
 rw[Ô,Array.getElem?_eq_none u];dsimp only;show Qr<|Qr<|h T<|Xs ?_;change wpAny (model prog w) A.in1 (do setField (.ref it) 2 .none;_) _ _ s;show Qr<|ĩ c rfl (by simp)<|Qr ?_;have fin:∀h' x,Heap.ExtBut it s.heap h'->(∃ob,h'.get? x=!ob/\ob.cls=.type "StopIteration")->wpAny (model prog w) A (do let b<-isInstance (.ref x)<|.type "StopIteration";if b=true then pure none else throw<|.ref x) Q E {s with heap:=h'}:=λh' x o ⟨ob,l,n⟩=>Qr<|Ė (T:="StopIteration") (b:=true) ⟨ob,l,n⟩ isSubtype_stop<|Xs<|r h' o
 simp only[newExc,newTuple,raiseNew];repeat(first
  |show fin _ _ (((å ..).extBut.push _).push _) #[_,Å _ rfl,rfl]
  |(show ç ?_<|by size_fits)
  |(show wpAny_handled ?_)
  |(show wpAny_throw ?_)
  |(show Xs ?_)
  |(rw[show A.in1.handled=none from t])
  |(show Qr (m:=firstArgMember _ _)<|τ (a:=Value.none) (by first|rfl|(simp only[firstArgMember];rfl)) ?_)
  |(show Qr ?_))
end
end Nk
namespace L2
open PySem PySem.Spec PyProof.Rows Nk
def zr(od:Obj)(a:ό)(kvs:ϊ<|ό×Sk×V):It where
 go:=λi H=>H a=!(.frz od<|bM a kvs)/\i<↑kvs
 yld:=λi H v H'=>∃p q,H p=none/\kvs[i]?=!q/\v=.ref p/\H'=upd H p (.tup [.ref q.1,q.2.2])
 stop:=λi H=>H a=!(.frz od<|bM a kvs)/\↑kvs<=i
theorem xf{P:ϓ}{K:Ϗ}{k:Nat}(m a:ό){od:Obj}{C:ϔ DictEntry}{Y:Nat}(l:od.data=.dict C Y):
  Turn P w K (.Tuple elts k tpos) (zr od a kvs) [m] m (λi h=>∃ok ov,IsItemIter h m a i C.size Y ok ov)where
 mem:=by simp
 obj:=λi h f b hb=>by
  let#[ok,ov,f]:=f;rw[Zs.mp hb];show#[_,f,λv z=>by cases z]
 keep:=λi h Z ⟨ok,ov,f⟩ r=>#[ok,ov,r m (by simp) _ f]
 item:=by
  intro X M S L hc i j s T H E I t f O;subst M S L;let#[ok,ov,f]:=f;let#[D,hi]:=O;let#[F,_,_,J,G,xs,x,B,U,R]:=mK I.hok D;rw[l]at x
  cases x;show Qs f F l () λZ a1 a3 a4 a5=>?_
  show#[_,rfl,wpAny_letOwnedTupleGo_items a1 λg b1 hs=>?_];have hT:s.heap.objs.size≠m:=ě<|É f;let#[p,q,hk,u,_,r2,r3]:=il i B hi;have N:C[i]'(by rfl')=Hh q:=by
   have:C.toList[i]?=!(Hh q):=by rw[U,À,u];rfl
   rw[Ą,þ ()]at this;show Ü this
  have r:∀c o,c∉[m]->s.heap.get? c=!o->g.get? c=!o:=λc o d q=>by
   have A:c≠m:=λz=>d<|by rw[z];simp
   show hs.extBut _ _ A<|a5 c o A q
  have I1:Inv X j T H {s with heap:=g,toks:=s.toks}:=I.turnedAll r t;have e:H s.heap.objs.size=none:=I.hok.fresh<|Ã _;have e5:g.get? s.heap.objs.size=!{cls:=.type "tuple",data:=.seq<|[.ref p.1,q.2.2].toArray}:=by
   have:=hs.extBut _ _ hT a3;rw[N]at this;rw[r2];show this
  have un:Un (frs X.stack) [m] H (upd H s.heap.objs.size<|.tup [.ref p.1,p.2.2]) s.heap g:=
   ⟨λb o q _ _ u=>r b o u q,λb o q _ _ u=>⟨o.slots,r b o u q⟩,λb o q n _=>by rw[ao<|Ú<|É q];show n,λb o q u=>⟨o,r b o u q⟩,
    λb xs q=>by rw[ao<|aN q e];show q,λb o y q=>by rw[ao<|aN q e];show q,λb ps q=>⟨([].toArray),by rw[ao<|aN q e,q];simp⟩⟩
  have Q:HOk X.prog X.w (upd H s.heap.objs.size<|.tup [.ref p.1,p.2.2]) g:=HOk.track I1.hok e #[by change 2<=sizeLine;decide,[.ref p.1,q.2.2],.cons rfl<|.cons r3 .nil,_,e5,rfl,_,rfl];have I2:Inv X j T (upd H s.heap.objs.size<|.tup [.ref p.1,p.2.2]) {s with heap:=g,toks:=s.toks}:=I.call' (s':={s with heap:=g,toks:=s.toks}) rfl un Q I.bare λc d=>⟨(t c d).2.2.2.1,(t c d).2.1,(t c d).2.2.2.2⟩
  show#[.ref s.heap.objs.size,_,I2,rfl,#[_,p,e,hk,rfl,rfl],#[_,_,b1],λc d=>?_];rw[Zs.mp d,ao<|Ú<|É f];show(t m<|by simp).1
 done:=by
  intro X M S L hc i j s T H E I t f O;subst M S L;let#[ok,ov,f]:=f;let#[D,hi]:=O;let#[F,_,_,J,G,xs,x,B,U,R]:=mK I.hok D;rw[l]at x
  cases x;show UG (I.ok.hd hc) f F l () λZ r=>#[rfl,I.turnedAll (t':=s.toks) (λc o d q=>r c o (λz=>d<|by rw[z];simp) q) t]
 self:=λ_ _ _ _ _ ⟨_,_,f⟩ h=>PySem.W.kcp_self f h
def uA(tl:TE):TI:=λσ H R=>tl σ H λx H1=>∃a kvs,x=.ref a/\((H1 a=!(bM a kvs)/\∀od,R (zr od a kvs)<|upd H1 a<|.frz od<|bM a kvs)\/∃od,H1 a=!(.frz od<|bM a kvs)/\R (zr od a kvs) H1)
def Hq{X:Cx}{k:Nat}(K:PE X o E)(g:attributeBase o "items" X.env (eval o X.env)=eval o X.env:=by rfl)(i:(d.endLine==f.line)=true:=by rfl):
  PI X (.Tuple elts k tpos) (.Call (.Attribute o "items" d) [] [] f) (uA E):=by
 intro c s A H R I h;show ς g i<|bB (K c s A H _ I h) λv n ⟨x,B,t,M,L⟩=>?_;let#[a,j,rfl,q]:=L
 cases(show v=Value.ref a from M);let#[l,p,C,m,q]:∃l p,Inv X c A p n/\p a=!(.frz l<|bM a j)/\R (zr l a j) p:=by
  rcases q with⟨m,q⟩|⟨l,m,q⟩
  .obtain ⟨⟨_,_,_,_,o,G,F,w,_⟩,_⟩:=(show ObjOk X.prog X.w B n.heap a (bM a j)from t.hok a _ m);show#[o,_,t.freezeE m w,aa,q o]
  .show #[l,B,t,m,q]
 let#[r,y,z,G,F,O,D,_]:=mK C.hok m;show#["dict","dict.items",Ņ,υ,PySem.F.type_dict_items,#[l,r,y.1],λN w=>by cases w;show#[l,r,y.2.1],ģ rfl<|PySem.evalArgs_none<|Qp z y r ?_];show Qq #[_,Å _ rfl,rfl,rfl] (Jn _ r) D ?_;have u:Inv X c A p {n with heap:=n.heap.push {cls:=.type "dict_items",data:=.fields<|[.ref a].toArray}}:=C.kept (t':=n.toks) λb ob q=>Jn _ q
 show#[_,[_],_,_,_,rfl,u.kept (t':=n.toks) λb o e=>Jn _ e,xf _ a D,#[_,_,Å _ rfl],λb J=>?_,q];rw[Zs.mp J];show u.fpOk (Ã _)<|u.hok.fresh<|Ã _
end L2
end
section
namespace Nk
open PySem
theorem K9{a b:Type}{f:a->b}:∀(l:ϊ a)(i:Nat),(l.map f).eraseIdx i=(l.eraseIdx i).map f
 |[],_=>rfl
 |_::_,0=>rfl
 |x::l,i+1=>Ö (f x::·)<|K9 l i
section
variable{prog:ϓ}{w:ϕ}{K:Type}[DecidableEq K]{knd:HeapKind prog w K}{A:ϖ}{E:϶}{s:ώ}{d a:ό}{k:K}{xs:ϊ (K×ό×ϋ)}
theorem Ka(u:knd.room A)(b:knd.is s.heap k a)(F:s.heap.DictOfH knd d xs)(G:↑xs<=sizeLine)
  (n:∀(j:Nat)(p:ό×ϋ),xs[j]?=!(k,p)->Q p.2 {s with toks:=s.toks+knd.draws k})
  (m:k∉xs.map (·.1)->∀h',h'.DictOfH knd d (xs++[(k,a,v)])->Heap.SameBut d s.heap h'->Q v {s with heap:=h',toks:=s.toks+knd.draws k}):wpAny (model prog w) A (dictSetDefault d (.ref a) v) Q E s:=by
 let#[o,H,C,g,D,c,h,f,t]:=F;unfold dictSetDefault;show ð<|Qr<|knd.pyHash u b<|Qr<|wpAny_dictFind_heap (s:={s with toks:=s.toks+knd.draws k}) u b g c h f t (λl=>?_) λj p r=>?_
 .have B:k∉xs.map (·.1):=not_mem_keys_of_get l;show Qr<|Ĭ<|Qr<|wpAny_updateDictKeys (hz:=by have e:=size_of_entries h;rfl') (s:={s with toks:=s.toks+knd.draws k}) g c<|Xs<|m B _ ⟨_,_,C+1,ë _ g<|Obj.isFreed_of_dict<|Ο c _,D.mapDictKeys _,Ο c _,by simp[h,entryOfKey],λx hx=>?_,?_⟩<|å ..
  .have i:knd.is s.heap x.1 x.2.1:=by
    rcases Ê.mp hx with hx|hx
    .show f x hx
    .rw [Zs.mp hx];show b
   show knd.keeps i g c<|å ..
  .rw [Á,ä];show#[t,by simp,λx hx y z e=>B (by rw[È,ă,Zs]at z;have q:x=k:=e.trans z;rw[<-q];show hx)]
 .show Qr<|Ĝ (s:={s with toks:=s.toks+knd.draws k}) g c ?_;rw[entry_at h j,r];show Qr<|Ĭ<|Xs<|n j p r
theorem Kc{j:Nat}(C:knd.room A.in1)(b:knd.is s.heap k a)(B:s.heap.DictOfH knd d xs)(g:xs[j]?=!(k,p))(L:↑xs<=sizeLine)
  (h:∀h',h'.DictOfH knd d (xs.eraseIdx j)->Heap.SameBut d s.heap h'->Q p.2 {s with heap:=h',toks:=s.toks+knd.draws k}):wpAny (model prog w) A (call (.builtin "dict.pop") [.ref d,.ref a]) Q E s:=by
 have T:=B.typeIs;let#[o,y,I,e,J,c,l,f,t]:=B;show æ F.slot_dict_pop T F.entry_dict_pop ?_<|F.args_dict_pop_2 _ _;unfold Builtin.«dict.pop» Builtin.Dict.keyAndDefault;show Qr<|Qr<|ĸ T<|show wpAny _ _ (pure (d,Value.ref a,none)) _ _ s from Xs ?_;have v:y.size=↑xs:=size_of_entries l;have K:j<↑xs:=(Â.mp g).1;have N:y.isEmpty=false:=by rw[Array.isEmpty_eq_false_iff];intro z;rw[z]at v;simp at v;rfl'
 dsimp only;rw[show(keyPart<|Value.ref a).isSome=false from rfl];simp only[Ù,Ĉ];show Qr<|Ĝ e c<|Qr<|Xs ?_;rw[N];simp only[Ù,Ĉ];unfold Builtin.Dict.takeOut;show Qr<|ð<|Qr<|knd.pyHash C b<|Qr<|wpAny_dictFind_heap (s:={s with toks:=s.toks+knd.draws k}) C b e c l f t (λu=>absurd g<|u j p) λi q m=>?_;have n:i=j/\q=p:=by
  have r:i<↑xs:=(Â.mp m).1;have D:(xs.map (·.1))[i]?=!k:=by rw[À,m];rfl
  have G:(xs.map (·.1))[j]?=!k:=by rw[À,g];rfl
  have H:i=j:=(List.getElem?_inj (by rw[Qb];show r) t).mp<|D.trans G.symm;subst H;rw[m]at g
  cases g;show#[rfl,rfl]
 let#[rfl,rfl]:=n;show Qr<|Ĝ (s:={s with toks:=s.toks+knd.draws k}) e c ?_;rw[entry_at l i,m];show Qr<|wpAny_updateDictKeys (hz:=()) (s:={s with toks:=s.toks+knd.draws k}) e c<|Xs ?_;dsimp only;simp only[Option.isNone_some,Ù,Ĉ];show Qr<|Ŧ<|Xs #[_,rfl,h _ #[_,_,I+1,ë _ e<|Obj.isFreed_of_dict<|Ο c _,J.mapDictKeys _,Ο c _,?_,λx M=>knd.keeps (f x<|List.mem_of_mem_eraseIdx M) e c<|å ..,?_]<|å ..]
 .rw [Array.eraseIdxIfInBounds,dif_pos (),Array.toList_eraseIdx,l];show K9 _ _
 .show Ĕ (List.Sublist.map _<|List.eraseIdx_sublist _ _) t
end
end Nk
namespace L2
open PySem PySem.Spec PyProof.Rows Nk
def KT.drop(r:KT H kvs d):∀{j:Nat},(d.map (·.1)).Nodup->d[j]?=!(k,p)->KT H (dM kvs k) (d.eraseIdx j):=by
 induction r with
 |nil=>intro j _ h;cases h
 |@cons p0 q0 ps qs h0 t ih=>
  intro j c f;rw[È,î]at c;have b:∀{l:ϊ<|ϊ Key×V}{m:ϊ<|ϊ Key×ό×ϋ},KT H l m->m.map (·.1)=l.map (·.1):=λr=>by
   induction r with
   |nil=>rfl
   |cons h _ ih=>rw[È,È,ih,h.1]
  cases j with
  |zero=>
   cases f;have g:p0.1=k:=h0.1;have e:dM (p0::ps) k=ps:=by
    unfold dM;rw[ů,if_neg<|by simp[g],List.filter_eq_self];intro y i;have:y.1≠k:=λz=>c.1<|by rw[b t];show Zp.mpr #[y,i,z]
    show Ï this
   rw[e];show t
  |succ j=>
   have a:qs[j]?=!(k,p):=f;have n:p0.1≠k:=λz=>c.1<|Zp.mpr #[(k,p),Wp a,(h0.1.symm.trans z).symm]
   have e:dM (p0::ps) k=p0::dM ps k:=by
    unfold dM;rw[ů,if_pos<|Ï n]
   rw[e];show .cons h0<|ih c.2 a
def UJ{b:ϊ<|ϊ Key×ό×ϋ}{k:ϊ Key}(h:atKey b k=!p):∃j:Nat,b[j]?=!(k,p):=by
 let#[#[d,f],a,rfl]:=Î.mp h;let#[j,c]:=Ě.mp<|ē a;have e:=Δ a;show#[j,by rw[c,show d=k from ô e]]
section
variable{X:Cx}
theorem UT(M:A.units+1<cLine)(I:Inv X gE σ H s)(e:H a=!(.dT kvs))(x:H b=!(.tup<|k.map kV))(l:bh kvs k=!v)
  (h:∀m s',Inv X gE σ (upd H a<|.dT<|dM kvs k) s'->RelV v m->Q m s'):wpAny (model X.prog X.w) A (call (.builtin "dict.pop") [.ref a,.ref b]) Q E s:=by
 let#[z,J,w,d,n]:=rK I.hok e;let#[m,N,i]:=RelO.some_of (v:=v) (o:=(atKey w k).map (·.2)) (by rw[<-l];show d.val k);let#[p,K,rfl]:=Î.mp N;let#[j,t]:=UJ K;have g:(w.map (·.1)).Nodup:=by let#[_,_,_,_,_,_,_,_,g]:=n;show g
 show Kc (œ M) (jo I.hok x) n t (by rw[<-ğ d];show z) λO f L=>h _ _ ?_ i
 let#[q,B,y,u,C,D,F,_,G]:=f;show iM I (by rw[e];show True.intro) L ⟨q,u⟩ ⟨Nat.le_trans (J9 kvs k) z,J,_,(d.drop g t).keeps λc P r=>?_,q,B,y,u,C,D,F,G⟩;rw[ao (bC r e (λz=>nomatch z))];show r
theorem UV{z:V}(O:A.units+1<cLine)(I:Inv X gE σ H s)(e:H a=!(.dT kvs))(o:H b=!(.tup<|k.map kV))(U:↑kvs<sizeLine)(P:RelV z r)
  (K:∀v y s',bh kvs k=!v->Inv X gE σ H s'->RelV v y->Q y s') (L:∀s',bh kvs k=none->Inv X gE σ (upd H a<|.dT<|kvs++[(k,z)]) s'->Q r s'):wpAny (model X.prog X.w) A (call (.builtin "dict.setdefault") [.ref a,.ref b,r]) Q E s:=by
 let#[R,u,h,d,i]:=rK I.hok e;have T:=i.typeIs;show æ PySem.F.slot_dict_setdefault T PySem.F.entry_dict_setdefault ?_<|PySem.F.args_dict_setdefault_3 _ _ _;unfold Builtin.«dict.setdefault» Builtin.Dict.keyAndDefault;show Qr<|Qr<|ĸ T<|show wpAny _ _ (pure (a,Value.ref b,!r)) _ _ s from Xs ?_;dsimp only;rw[u];simp only[Ù,Ĉ];have n:(h.map (·.1)).Nodup:=by let#[_,_,_,_,_,_,_,_,n]:=id i;show n
 show Qr<|Ka (A:=A.in1) (œ O) (jo I.hok o) i (by rw[<-ğ d];show R) (λj p M=>Xs #[_,rfl,?_]) λx S l N=>Xs #[_,rfl,?_]
 .have m:atKey h k=!p:=atKey_of_get n M;have:=d.val k;rw[m]at this
  cases f:bh kvs k with
  |none=>rw[f]at this;show absurd this<|λz=>nomatch z
  |some v=>rw[f]at this;show K v _ _ f (I.tok _) this
 .have f:bh kvs k=none:=by
   have m:atKey h k=none:=Sy.sJ x;have:=d.val k;rw[m]at this
   cases f:bh kvs k with
   |none=>rfl
   |some v=>rw[f]at this;show absurd this<|λz=>nomatch z
  show L _ f ?_;let#[q,C,B,w,D,F,G,_,J]:=l;have g:KT H (kvs++[(k,z)]) (h++[(k,b,r)]):=by
   have:=d.put k (b:=b) o P;rw[show putK kvs k z=kvs++[(k,z)]from cW _ f,storedH_new<|Sy.sJ x]at this;show this
  show iM I (by rw[e];show True.intro) N ⟨q,w⟩ ⟨by rw[Ë,à];rfl',u,_,g.keeps λc W t=>?_,q,C,B,w,D,F,G,J⟩;rw[ao<|bC t e<|λz=>nomatch z];show t
end
def Kd(td ty:TE):TE:=λσ H Q=>td σ H λx H1=>∃a,x=.ref a/\Yn H1 a/\ty σ H1 λy H2=>∃kvs k b v,H2 a=!(.dT kvs)/\y=.ref b/\H2 b=!(.tup<|k.map kV)/\bh kvs k=!v/\Q v (upd H2 a<|.dT<|dM kvs k)
def Ke(td ty tx:TE):TE:=λσ H Q=>td σ H λx H1=>∃a,x=.ref a/\Yn H1 a/\ty σ H1 λy H2=>tx σ H2 λz H3=>∃kvs k b,H3 a=!(.dT kvs)/\y=.ref b/\H3 b=!(.tup (k.map kV))/\↑kvs<sizeLine/\
 (∀v,bh kvs k=!v->Q v H3)/\(bh kvs k=none->Q z (upd H3 a (.dT (kvs++[(k,z)]))))
section
variable{X:Cx}
theorem Qt(B:X.A.units+1<cLine)(A:PE X o td)(z:PE X e ty)(m:M1 X o "pop" apos e cpos):PE X (.Call (.Attribute o "pop" apos) [e] [] cpos) (Kd td ty):=by
 intro c s i H Q I h;show wpAny_Call_method m.base m.few m.line Ņ PySem.F.slot_dict_pop PySem.F.type_dict_pop<|bB (A c s i H _ I h) λu K ⟨x,j,g,G,a,t,d,E⟩=>?_;subst t;obtain rfl:u=Value.ref a:=G;let#[L,M,_]:=yO g d;show#[L,M,?_];rw[m.trees];show ģ rfl<|Λ<|Ļ<|bB (z c K i j _ g E) λC O ⟨y,N,n,J,D,k,b,v,q,w,r,l,F⟩=>ţ ?_;subst w
 cases(show C=Value.ref b from J);show UT B n q r l λR P p f=>#[v,_,p,f,F]
theorem Qu(L:X.A.units+1<cLine)(K:PE X o td)(F:PE X e ty)(G:PE X f tx)(m:M2 X o "setdefault" apos e f cpos):PE X (.Call (.Attribute o "setdefault" apos) [e,f] [] cpos) (Ke td ty tx):=by
 intro c s j H Q I h;show wpAny_Call_method m.base m.few m.line Ņ PySem.F.slot_dict_setdefault PySem.F.type_dict_setdefault<|bB (K c s j H _ I h) λu W ⟨x,q,n,T,a,D,d,O⟩=>?_;subst D;obtain rfl:u=Value.ref a:=T;let#[t1,t2,_]:=yO n d;show#[t1,t2,?_];rw[m.trees];show ģ rfl (Λ (Ļ (bB (F c W j q _ n O) λM Y ⟨y,r,w,U,P⟩=>
  Ļ<|bB (G c Y j r _ w P) λfv s3 ⟨z,t,A,p,N,k,b,B,E,C,J,R,S⟩=>ţ ?_)))
 subst E
 cases(show M=Value.ref b from U);show UV L A B C J p (λv w' Z l g i=>#[v,t,g,i,R v l]) λZ l g=>#[z,_,g,p,S l]
end
end L2
end
section
namespace Nk
open PySem
section
variable{n:Nat}
def Su(prog:ϓ)(w:ϕ)(A:ϖ)(P:Nat->ϋ->Prop)(St:Nat->ϒ->Prop)(bt:Nat->Nat->ϑ):Prop:=
 ∀m i j x y (s:ώ) (Q:϶) (E:϶),St m s.heap->P i x->P j y->Q (.bool<|bt i j) s->wpAny (model prog w) A (richCompare .Lt x y) Q E s
theorem oN:(toString "min"++toString ".loop":String)="min.loop":=by decide
theorem Qv(W:Walks prog w A.in1 I fp wr n P St)(D:Su prog w A.in1 P St bt)(r:S∉fp):∀(k j:Nat)(s:ώ)(x:ϋ)(c:Nat),n=j+1+k->St (j+1) s.heap->P (argBest bt j) x->
  s.heap.get? S=!{cls:=.type "list",dict:=none,data:=.seq ([x,x].toArray) c,slots:=([].toArray)}->
  (∀v h' tk,P (argBest bt<|n-1) v->(∀b o,b∉wr->b≠S->s.heap.get? b=!o->h'.get? b=!o)->R (.ok<|.ret v) {s with heap:=h',toks:=tk})->
  codeAny (model prog w) A (.builtin "min.loop" #[[.ref I,.none,.ref S],[]]) R s:=by
 have t:S∉wr:=λh=>r<|W.sub _ h
 intro k;induction k with
 |zero=>
  intro j s x c M K C q B;have L:j+1=n:=M.symm;show Ć F.entry_min_loop ?_;rw[ù ő _];show Qr<|ď q rfl<|Qr<|wpAny_tryCatch<|W.done s _ _ (L▸K) λh' tk p=>?_;have d:=p S _ t q;show Qr<|ν d rfl<|Qr<|Ŧ<|Xs<|B x _ tk (by rw[<-L];show C) λb o m a e=>?_;rw[ĉ _ _<|Ne.symm a];show p b o m e
 |succ k ih=>
  intro j s x c M K C q B;show Ć F.entry_min_loop ?_;rw[ù ő _];show Qr<|ď q rfl<|Qr<|wpAny_tryCatch<|W.item (j+1) s _ _ () K λy h' tk N i p=>?_;have d:=p S _ t q;have u:∀{f:Obj->Obj}{b:ό}{o:Obj},b≠S->h'.get? b=!o->(h'.update S f).get? b=!o:=λm e=>by rw[ĉ _ _<|Ne.symm m];show e
  change wpAny _ A.in1 (tryCatch (holding [y,y]<|richCompare .Lt y x>>=_) _>>=_) _ _ _;show Qr<|wpAny_tryCatch<|ð<|Qr<|D _ (j+1) (argBest bt j) y x _ _ _ i N C<|Qr<|ð<|ć<|Qr<|Ŧ<|Xs ?_
  cases m:bt (j+1) (argBest bt j)with
  |true=>
   simp only[ĳ];show Qr<|ν d rfl<|Qr<|Ŧ ?_;rw[oN];show Xs #[plainId_quiet ő _,ih (j+1) _ y _ () (W.frame _ _ _ i λb G o e=>u (λz=>r<|z▸G) e) (by rw[argBest,if_pos m];show N) (ë _ d rfl) λv E l H J=>B v E l H λb o g a e=>J b o g a<|u a<|p b o g e]
  |false=>
   simp only[Ù,Ĉ];show Qr<|Ŧ ?_;rw[oN];show Xs #[plainId_quiet ő _,ih (j+1) _ x c () i (by rw[argBest,if_neg<|by rw[m];decide];show C) d λv E l H J=>B v E l H λb o g a e=>J b o g a<|p b o g e]
theorem Kf
  (h:wpAny (model prog w) A.in1 (pyIter x) (λit s₂=>∃I fp wr n P St bt,it=.ref I/\Walks prog w A.in1 I fp wr n P St/\St 0 s₂.heap/\(∀b∈fp,b<s₂.heap.objs.size)/\0<n/\Su prog w A.in1 P St bt/\
   ∀v h' tk,P (argBest bt<|n-1) v->(∀b o,b∉wr->s₂.heap.get? b=!o->h'.get? b=!o)->Q v {s₂ with heap:=h',toks:=tk}) E s):
  wpAny (model prog w) A (call (.builtin "min") [x]) Q E s:=by
 show call_function_tree F.kind_min F.plain_min F.entry_min (F.args_min1 _) ?_;change wpAny _ A.in1 (Builtin.Builtins.bindParams "min" ["key","default"] 0 #[[],[]]>>=_) _ _ s;show Qr<|τ (a:=[none,none]) rfl<|Qr<|Xs<|Qr<|Ċ h (λit s₂ j=>?_) λ_ _ e=>e;let#[I,fp,wr,n,P,St,bt,rfl,W,N,q,J,l,D]:=j;show Qr<|ç ?_;have c:s₂.heap.objs.size∉fp:=λH=>ą _<|q _ H
 have m:s₂.heap.objs.size∉wr:=λh=>c<|W.sub _ h
 rw[oN];show Xs #[plainId_quiet ő _,Ć F.entry_min_loop ?_];rw[ù ő _];have u:(s₂.heap.push {cls:=.type "list",data:=.seq<|[].toArray}).get? s₂.heap.objs.size=!{cls:=.type "list",dict:=none,data:=.seq ([].toArray) 0,slots:=([].toArray)}:=Å _ rfl;show Qr<|ď u rfl<|Qr<|wpAny_tryCatch<|W.item 0 _ _ _ J (W.frame _ _ _ N λb _ o e=>Jn _ e) λy h' tk L r B=>?_;have d:=B s₂.heap.objs.size _ m u;have k:∀{f:Obj->Obj}{b:ό}{o:Obj},b≠s₂.heap.objs.size->h'.get? b=!o->(h'.update s₂.heap.objs.size f).get? b=!o:=λG e=>by rw[ĉ _ _<|Ne.symm G];show e
 change wpAny _ A.in1 (updateSeq s₂.heap.objs.size (λ_=>([y,y].toArray))>>=_) _ _ _;show Qr<|ν d rfl ?_;rw[oN];show Xs #[plainId_quiet ő _,Qv W l c (n-1) 0 _ y _ () (W.frame _ _ _ r λb p o e=>k (λz=>c<|z▸p) e) L (ë _ d rfl) λv C t K M=>D v C t K λb o i e=>?_];have g:b≠s₂.heap.objs.size:=Ú<|É e;show M b o i g<|k g<|B b o i<|Jn _ e
end
end Nk
namespace L2
open PySem PySem.Spec PyProof.Rows Nk
theorem xg(f:Nat->ϊ Int):∀k,argBest (λi j=>HT.lexLt (f i)<|f j) k<=k/\∀j,j<=k->HT.lexLt (f j) (f<|argBest (λi j=>HT.lexLt (f i)<|f j) k)=false
 |0=>#[Nat.le_refl _,λj a=>by rw[Nat.le_zero.mp a];show uw _]
 |k+1=>by
  let#[d,c]:=xg f k;rw[argBest];split
  .rename_i b;show#[Nat.le_refl _,λj a=>?_];rcases π a with a|rfl
   .show K1 (wN b)<|c j ()
   .show uw _
  .rename_i b;show#[(),λj a=>?_];rcases π a with a|rfl
   .show c j ()
   .show Bool.eq_false_iff.mpr b
def Kg:ϊ V->Hp->VK->Prop:=λvs H Q=>∃(a:ό)(kvs:ϊ<|ϊ Int×V),vs=[.ref a]/\H a=!(.dT<|kvs.map λp=>(p.1.map Sum.inl,p.2))/\kvs≠[]/\
 ∀b k,H b=!(.tup<|k.map V.int)->k∈kvs.map (·.1)->(∀k'∈kvs.map (·.1),HT.lexLt k' k=false)->Q (.ref b) H
def Hr{X:Cx}(hc:X.calm=true)(hu:X.A.units+1<cLine):bY X (.builtin "min") Kg:=by
 intro ad s σ H vs us Q I rv h;let#[a,c,rfl,ea,ac,q]:=h;let#[u,rfl,ru]:=rv.one
 cases(show u=Value.ref a from ru);let#[z,hd,w,T,dd]:=rK I.hok ea;let#[o,Y,ep,N,ab,L,he,_,hn]:=dd;have G:↑c=↑w:=by have:=ğ T;rw[Qb]at this;show this
 have ae:Y.size=↑c:=by rw[<-ã,he,Qb,G]
 have R:0<↑c:=List.length_pos_iff.mpr ac;have d:∀{i:Nat}{x},w[i]?=!x->∃p,c[i]?=!p/\H x.2.1=!(.tup<|p.1.map V.int):=λ{i x} f=>by
  have F:i<↑c:=by rw[G];show(Â.mp f).1
  let#[p,y,h1,h2,h3,h4,_]:=il i T (by rw[Qb];show F);rw[f]at h2
  cases h2;rw[À]at h1;let#[p',E,rfl]:=Î.mp h1;show#[p',E,?_];rw[h4,Ä];rfl
 have n:∀{i:Nat}{x p},w[i]?=!x->c[i]?=!p->∃g:ϊ ϋ,IsTup s.heap x.2.1 g.toArray/\IntsAre g p.1:=λ{i x p} f t=>by
  let#[p',E,e2]:=d f;rw[t]at E
  cases E;let#[g,r,ht,_]:=I.tuple<|gL (K:=X.K) e2;show#[g,ht,lO r]
 let#[S,B]:∃S:Nat->ϊ Int,∀{i p},c[i]?=!p->S i=p.1:=⟨λi=>((c[i]?).map λp=>p.1).getD [],λ{i p} t=>by dsimp only;rw[t];rfl⟩;show Kf (lJ hd ⟨o,N,ab.1⟩ N L ⟨s.heap.objs.size,s.heap.objs.size::a::w.map (·.2.1),[s.heap.objs.size],↑c,(λi v=>∃x,w[i]?=!x/\v=.ref x.2.1),
  (λi h=>h.IsKeyIter s.heap.objs.size a i Y.size ep/\h.get? a=!o/\∀x∈w,∀ob,s.heap.get? x.2.1=!ob->h.get? x.2.1=!ob),(λi j=>HT.lexLt (S i)<|S j),rfl,?W,⟨⟨_,Å _ rfl,rfl,rfl⟩,Jn _ N,λx _ ob e=>Jn _ e⟩,?lt,R,?cmp,λv M tk hv kp=> ?fin⟩)
 case lt=>
  intro b hb;rw[show(s.heap.push {cls:=.type "dict_keyiterator",data:=.fields<|[.ref a,.int 0 0,.int Y.size 0,.int ep 0].toArray}).objs.size=s.heap.objs.size+1 from Ĩ ..];rcases Æ.mp hb with rfl|hb
  .show Ĳ _
  rcases Æ.mp hb with rfl|hb
  .show Ħ<|É N
  let#[x,D,rfl]:=Zp.mp hb;let#[i,F]:=Ě.mp D;let#[p,t,_]:=d F;let#[g,#[ob,E,_],_]:=n F t;show Ħ<|É E
 case cmp=>
  rintro m i j x y U Q' Z ⟨_,_,hk⟩ ⟨x',f,rfl⟩ ⟨y',hy,rfl⟩ J;let#[p1,O,_]:=d f;let#[p2,P,_]:=d hy;let#[i1,#[o1,g1,r1],n1]:=n f O;let#[i2,#[o2,g2,r2],n2]:=n hy P;dsimp only at J;rw[B O,B P]at J;show HT.yF (A:=X.A.in1) #[o1,hk x' (Wp f) _ g1,r1] #[o2,hk y' (Wp hy) _ g2,r2] n1 n2 (by change X.A.units+1<cLine;show hu) J
 case W=>
  have na:a≠s.heap.objs.size:=Ú<|É N;have nx:∀x∈w,x.2.1≠s.heap.objs.size:=λx D=>by
   let#[i,F]:=Ě.mp D;let#[p,t,_]:=d F;let#[g,#[ob,E,_],_]:=n F t;show Ú<|É E
  show#[λb hb=>by rw[Zs.mp hb];show Ì,λi h M l k=>#[l.1.at λob e=>k _ Ì ob e,k a (Ç _ Ì) _ l.2.1,λx D ob e=>k _ (Ç _<|Ç _<|Zp.mpr #[x,D,rfl]) _<|l.2.2 x D ob e],λi U Q' Z F l J=>?_,λU Q' Z l J=>?_,λi U Q' Z l hq=>wpAny_pyIter_keyiter l.1 hq]
  .show pL l.1 l.2.1 L () λM a1 a2=>J _ M U.toks ?_ #[a1,(a2.2 a na).trans l.2.1,λx D ob e=>(a2.2 _<|nx x D).trans<|l.2.2 x D ob e] λb ob hb e=>(a2.2 b λz=>hb (by rw[z];simp)).trans e
   have f:w[i]?=!(w[i]'(by rfl')):=Zl ();show#[_,f,?_];have:Y.toList[i]?=!(entryOfKey (tupleKind<|bw X.prog X.w) (w[i]'(by rfl'))):=by rw[he,À,f];rfl
   rw[Ą,þ ()]at this;rw[Ü this];rfl
  .show ug (I.ok.hd hc) l.1 l.2.1 L () λM eb=>J M U.toks λb ob hb e=>eb b ob (λz=>hb (by rw[z];simp)) e
 case fin=>
  let#[x,f,rfl]:=hv;let#[p,t,e2]:=d f;let#[b1,b2]:=xg S<|↑c-1;show#[.ref x.2.1,H,I.kept (t':=tk) λb ob e=>kp b ob (λz=>?_)<|Jn _ e,rfl,q _ _ e2 (Zp.mpr #[p,Wp t,rfl]) λk' mk=>?_]
  .show absurd (Zs.mp z)<|Ú<|É e
  .obtain ⟨p',C,rfl⟩:=Zp.mp mk;let#[j,hj]:=Ě.mp C;have af:=(Â.mp hj).1;have:=b2 j ();rw[B hj,B t]at this;show this
end L2
end
section
namespace Nk
open PySem PySem.Spec PyProof PyProof.Rows
mutual
def uB:PyData->PyData->ϑ
 |.int a,.int b=>decide<|a<b
 |.str x,.str y=>decide<|x.cps.toList<y.cps.toList
 |.tuple xs,.tuple ys=>uC xs ys
 |_,_=>false
def uC:ϊ PyData->ϊ PyData->ϑ
 |[],[]=>false
 |[],_::_=>true
 |_::_,[]=>false
 |x::xs,y::ys=>if PyData.eqv x y=true then uC xs ys else uB x y
end
mutual
inductive CmpD:PyData->PyData->Prop where
 |int (a b:Int):CmpD (.int a) (.int b)
 |str (x y:ϐ):CmpD (.str x) (.str y)
 |tup {xs ys:ϊ PyData}:CmpDs xs ys->CmpD (.tuple xs) (.tuple ys)
inductive CmpDs:ϊ PyData->ϊ PyData->Prop where
 |nil {ys:ϊ PyData}:CmpDs [] ys
 |over {xs:ϊ PyData}:CmpDs xs []
 |cons {x y:PyData} {xs ys:ϊ PyData}:CmpD x y->CmpDs xs ys->CmpDs (x::xs) (y::ys)
end
section
theorem zu:∀{vs:ϊ ϋ}{ds:ϊ PyData}{a:ϊ ό},ReadsAll h vs ds a->↑vs=↑ds
 |_,_,_,.nil=>rfl
 |_,_,_,.cons _ r=>Ö (· +1)<|zu r
def UW{m:Nat}{h:Type}{f:ϋ×ϋ->h->Sem (ForInStep h)}{i:h}{g:ϑ->h}
  (q:∀x y d e j bs (Q:ForInStep h->ώ->Prop),d.depth<=m->Reads s.heap x d j->Reads s.heap y e bs->CmpD d e->PyData.canLay0 d=true->PyData.canLay0 e=true->(if PyData.eqv d e=true then Q (.yield i) s else Q (.done<|g<|uB d e) s)->wpAny (model prog w) A (f (x,y) i) Q E s):
  ∀(xs ys:ϊ ϋ)(ds es:ϊ PyData)(j bs:ϊ ό)(Q:h->ώ->Prop),PyData.depthAll ds<=m->ReadsAll s.heap xs ds j->ReadsAll s.heap ys es bs->CmpDs ds es->PyData.canLayAll0 ds=true->PyData.canLayAll0 es=true->
   (uC ds es=decide (↑ds<↑es)->Q i s)->Q (g<|uC ds es) s->wpAny (model prog w) A (forIn (xs.zip ys) i f) Q E s:=by
 intro xs;induction xs with
 |nil=>
  intro ys ds es j bs Q o n p c k l a b
  cases n;rw[List.zip_nil_left,ŗ];show Xs (a ?_)
  cases es<;>simp[uC]
 |cons x xs ih=>
  intro ys ds es j bs Q o n p c k l a b
  cases n with
  |cons r1 r2=>
   cases p with
   |nil=>
    rw[List.zip_nil_right,ŗ];show Xs (a<|by simp[uC])
   |cons k1 k2=>
    cases c with
    |cons c1 c2=>
     simp only[PyData.canLayAll0,ā]at k l;simp only[PyData.depthAll]at o;rw[ξ,ý];show Qr (q _ _ _ _ _ _ _ () r1 k1 c1 k.1 l.1 ?_);rw[uC]at a b;split
     .rename_i e;rw[if_pos e]at a b;show ih _ _ _ _ _ Q () r2 k2 c2 k.2 l.2 (λz=>a<|by rw[z];show decide_eq_decide.mpr<|by simp) b
     .rename_i e;rw[if_neg e]at b;show Xs b
def Qw:∀(n:Nat)(d e:PyData)(A:ϖ)(a b:ϋ)(l bs:ϊ ό)(Q:϶)(E:϶),d.depth<=n->CmpD d e->Reads s.heap a d l->Reads s.heap b e bs->PyData.canLay0 d=true->PyData.canLay0 e=true->A.units+n+1<cLine->Q (.bool<|uB d e) s->wpAny (model prog w) A (richCompare .Lt a b) Q E s:=by
 intro n;induction n with
 |zero=>
  intro d e A a b l bs Q E p c h k r t G f
  cases c with
  |int i j=>
   cases h;cases k;rw[uB]at f;show wpAny_lt_int (A:=A) (Q:=Q) f
  |str x y=>
   cases h;cases k;rw[uB]at f;show lt_str (A:=A) (Q:=Q) f
  |tup c=>simp[PyData.depth]at p
 |succ n ih=>
  intro d e A a b l bs Q E p c h k r t G f
  cases c with
  |int i j=>
   cases h;cases k;rw[uB]at f;show wpAny_lt_int (A:=A) (Q:=Q) f
  |str x y=>
   cases h;cases k;rw[uB]at f;show lt_str (A:=A) (Q:=Q) f
  |tup c=>
   cases h with
   |tuple e1 c1 d1 r1=>
    cases k with
    |tuple e2 c2 d2 r2=>
     rw[uB]at f;simp only[PyData.depth]at p;simp only[PyData.canLay0]at r t;show wpAny_richCompare_same_room (op:=.Lt) #[_,e1,c1] #[_,e2,c2] PySem.F.slot_tuple_lt
      (æ PySem.F.slot_tuple_lt #[_,e1,c1] PySem.F.entry_tuple_lt ?_<|PySem.F.args_tuple_lt_2 _ _) ()
     change wpAny _ _ (isInstance (.ref _) (.type "tuple")>>=_) _ _ s;show Qr<|Ė #[_,e2,c2] Η ?_;simp only[đ,Ù,Ĉ];show Qr<|Ÿ e1 d1 ?_;show Qr<|Ÿ e2 d2 ?_;show Qr ?_;show UW (m:=n) (g:=λb=>#[!(.done<|.ret<|.bool b),#[]]) ?_ _ _ _ _ _ _ _ () r1 r2 c r t ?_ ?_
     .intro x y d e l bs H F B C D u v q;show Qr<|SeqAt.eqBoolOverData _ _ _ _ _ _ _ _ _ _ _ _ B C u v (by change A.units+1+_<cLine;rfl') ?_;split at q
      .rename_i o;rw[o];simp only[đ,Ù,Ĉ];show Xs q
      .rename_i o;rw[Bool.eq_false_iff.mpr o];simp only[Bool.not_false,ĳ];show Qr<|Ĭ<|Qr ?_;show ih _ _ _ _ _ _ _ _ _ F D B C u v (by change A.units+1+n+1<cLine;rfl') ?_;show Qr<|Xs<|Xs q
     .intro z;rw[z]at f;rw[<-zu r1,<-zu r2]at f;show Xs #[_,rfl,(λe=>nomatch e),f]
     .show Xs #[_,rfl,(λe=>nomatch e),f]
end
end Nk
namespace L2
open PySem PySem.Spec PyProof PyProof.Rows Nk
def uD(K:Ϗ):ϊ V->Hp->VK->Prop:=λxs H Q=>∃(a:ό)(us:ϊ<|V×PyData)(f:PyData->Int),xs=[.ref a]/\SqL K H a (us.map (·.1))/\us≠[]/\
 (∀u∈us,Dp K H u.1 u.2/\u.2.canLay0=true/\u.2.depth<=8)/\(∀u∈us,∀v∈us,CmpD u.2 v.2/\(uB u.2 v.2=true->f u.2<=f v.2)/\(uB u.2 v.2=false->f v.2<=f u.2))/\
 ∀u∈us,(∀v∈us,f u.2<=f v.2)->Q u.1 H
theorem xj{bt:Nat->Nat->ϑ}{f:Nat->Int}{n:Nat}(h:∀i j,i<n->j<n->(bt i j=true->f i<=f j)/\(bt i j=false->f j<=f i)):∀k,k<n->argBest bt k<=k/\∀j,j<=k->f (argBest bt k)<=f j
 |0,_=>#[Nat.le_refl _,λj a=>by rw[Nat.le_zero.mp a];show Int.le_refl _]
 |k+1,hk=>by
  let#[g,c]:=xj h k ();let#[d,e]:=h (k+1) (argBest bt k) hk ();rw[argBest];split
  .rename_i b;show#[Nat.le_refl _,λj a=>?_];rcases π a with a|rfl
   .show Int.le_trans (d b)<|c j ()
   .show Int.le_refl _
  .rename_i b;show#[(),λj a=>?_];rcases π a with a|rfl
   .show c j ()
   .show e<|Bool.eq_false_iff.mpr b
def zx{X:Cx}(hc:X.calm=true)(hu:X.A.units+12<cLine):bY X (.builtin "min") (uD X.K):=by
 intro al s σ H xs ap Q I rv h;let#[a,D,f,rfl,hx,ac,U,C,q]:=h;let#[u,rfl,ru]:=rv.one
 cases(show u=Value.ref a from ru);let#[c,r,ht,hz]:=I.list hx;have P:↑D=↑c:=by have:=↑r;rw[Qb]at this;show this
 have ai:0<↑D:=List.length_pos_iff.mpr ac;have g:∀{i:Nat}{v:ϋ},c[i]?=!v->∃u∈D,D[i]?=!u/\RelV u.1 v/\∃Z,Reads s.heap v u.2 Z:=λ{i v} M=>by
  have O:i<↑D:=by rw[P];show(Â.mp M).1
  let#[u,F]:∃u,D[i]?=!u:=#[_,Zl O];have hm:=Wp F;let#[v',e',t]:=r.get (i:=i) (x:=u.1) (by rw[À,F];rfl);rw[M]at e'
  cases e';show#[u,hm,F,t,(U u hm).1.reads I t]
 let#[J,d]:∃J:Nat->PyData,∀{i u},D[i]?=!u->J i=u.2:=#[λi=>((D[i]?).map λp=>p.2).getD .none,λ{i u} hp=>by dsimp only;rw[hp];rfl];have R:a<s.heap.objs.size:=by let#[_,e,_]:=ht.isList;show É e
 have ab:a≠s.heap.objs.size:=Ú R;have S:c.toArray.size=↑c:=Õ;have W:=Walks.list (prog:=X.prog) (w:=X.w) (A:=X.A.in1) (I.ok.hd hc) s.heap.objs.size a ab c.toArray;show Kf (Ţ ht.isList #[s.heap.objs.size,List.range<|s.heap.objs.size+1,[s.heap.objs.size],↑c,(λi v=>c[i]?=!v),(λi h=>(h.IsListIter s.heap.objs.size a i/\h.IsList a c.toArray)/\∀b o,s.heap.get? b=!o->h.get? b=!o),(λi j=>uB (J i)<|J j),rfl,?W,#[#[#[_,Å _ rfl,rfl,rfl],ht.isList.push _],λb o e=>Jn _ e],?lt,(),?cmp,?fin])
 case lt=>
  intro b hb;rw[show(s.heap.push {cls:=.type "list_iterator",data:=.fields<|[.ref a,.int 0 0].toArray}).objs.size=s.heap.objs.size+1 from Ĩ ..];show ñ.mp hb
 case cmp=>
  rintro m i j x y N L K ⟨_,hk⟩ hx hy l;let#[u,T,G,_,Z,ra]:=g hx;let#[v,mv,ad,_,bs,rb]:=g hy;dsimp only at l;rw[d G,d ad]at l;show Qw 8 u.2 v.2 _ x y Z bs _ _ (U u T).2.2 (C u T v mv).1 (Reads.keeps hk ra) (Reads.keeps hk rb) (U u T).2.1 (U v mv).2.1 (by change X.A.units+1+8+1<cLine;rfl') l
 case W=>
  have ag:∀{h E:ϒ},(∀b o,s.heap.get? b=!o->h.get? b=!o)->(∀b o,b∉[s.heap.objs.size]->h.get? b=!o->E.get? b=!o)->∀b o,s.heap.get? b=!o->E.get? b=!o:=λh1 h2 b o e=>h2 b o (λz=>by
   rw[Zs.mp z]at e;show ą _<|É e)<|h1 b o e
  show#[λb hb=>by rw[Zs.mp hb];show ñ.mpr<|Ĳ _,λi h E B k=>#[W.frame i h E B.1 λb hb o e=>k b (ñ.mpr ?_) o e,λb o e=>k b (ñ.mpr<|Ħ<|É e) o<|B.2 b o e],λi N L K O B l=>W.item i N L K (by rw[S];show O) B.1 λv E tk M ah k=>l v E tk (by rw[<-Ĺ];show M) #[ah,ag B.2 k] k,λN L K B l=>W.done N L K (by rw[S];show B.1) l,λi N L K B l=>W.self i N L K B.1 l];rcases Æ.mp hb with rfl|hb
  .show Ĳ _
  .rw [Zs.mp hb];show Ħ R
 case fin=>
  intro v E tk M kp;let#[u,T,G,t,_]:=g M;let#[b1,b2]:=xj (bt:=λi j=>uB (J i)<|J j) (f:=λi=>f<|J i) (n:=↑c) (λi j O Y=>by
   let#[x,mx,ae,_]:=g<|Zl O;let#[y,my,af,_]:=g<|Zl Y;rw[d ae,d af];show(C x mx y my).2) (↑c-1) ()
  show#[u.1,H,I.kept (t':=tk) λb ob e=>kp b ob (λz=>?_)<|Jn _ e,t,q u T λx mx=>?_]
  .rw [Zs.mp z]at e;show ą _<|É e
  .obtain ⟨j,Y⟩:=Ě.mp mx;have am:=(Â.mp Y).1;have:=b2 j ();rw[d Y,d G]at this;show this
def xm{X:Cx}(K:Ϗ)(a:X.K=K)(b:X.calm=true)(c:X.A.units+12<cLine):bY X (.builtin "min") (uD K):=a▸zx b c
end L2
end
section
namespace L2
open PySem PySem.Spec PyProof.Rows Nk
variable{i:Nat}{c v:ϋ}{a:ό}
section
variable{X:Cx}
theorem Qx(t:A.units+2<cLine)(I:Inv X gE σ H s)(g:SGet H a y o)(q:RelV y u)(h:∀f s',Inv X gE σ H s'->RelV (o.getD .non) f->Q f s'):wpAny (model X.prog X.w) A (call (.builtin "dict.get") [.ref a,u]) Q E s:=by
 let#[p,k,b,e,n,j,i,l]:=g;subst j
 cases(show u=Value.ref b from q);let#[z,m,r,c,d]:=sG I.hok e n;show call_meetsIn PySem.F.slot_dict_get d.typeIs PySem.F.entry_dict_get (PySem.F.args_dict_get_2 _ _) (meetsH_dict_get (jw X.prog X.w) a b m) #[(show A.units+1+1<cLine by rfl'),k,r,sE I.hok i,d,h _ _ (I.tok _) ?_];rw[l];show(c.val k).getD rfl
end
def zy(td ty:TE):TE:=λσ H Q=>td σ H λx H1=>∃a kvs,x=.ref a/\Rd H1 a (bM a kvs)/\ty σ H1 λy H2=>∃o,SGet H2 a y o/\Q (o.getD .non) H2
theorem Kh{X:Cx}{c:Pos}{q:TE}(E:X.A.units+2<cLine)(D:PE X o p)(C:PE X e q)(m:M1 X o "get" b e c):PE X (.Call (.Attribute o "get" b) [e] [] c) (zy p q):=by
 intro f s r H Q I h;show wpAny_Call_method m.base m.few m.line Ņ PySem.F.slot_dict_get PySem.F.type_dict_get<|bB (D f s r H _ I h) λu M ⟨x,t,j,K,a,F,B,d,G⟩=>?_;subst B;obtain rfl:u=Value.ref a:=K;let#[#[_,lo,_,_,n,P,O,k,l,R,_],_]:=Ss j.hok d;show#[#[n,k,l.1],λN A=>by cases A;show#[n,k,l.2.1],?_];rw[m.trees];show ģ rfl<|Λ<|Ļ<|bB (C f M r t _ j G) λS T ⟨y,v,w,L,ov,g,J⟩=>ţ ?_;show Qx E w g L λW U z i=>#[_,v,z,i,J]
section
variable{X:Cx}{s:ώ}{a:ό}{ss:ϊ ϐ}{its:ϊ ϋ}
theorem gD(r:Vals (ss.map V.str) its)(h:its[i]?=!v):∃x t,ss[i]?=!x/\v=.str x t:=by
 have d:i<↑ss:=by
  have:=↑r;rw[Qb]at this;rw[this];show(Â.mp h).1
 let#[x,c]:∃x,ss[i]?=!x:=#[_,Zl d];let#[e,b,a]:=r.get (i:=i) (x:=.str x) (by rw[À,c];rfl);rw[h]at b
 cases b;let#[t,rfl]:=a;show#[x,t,c,rfl]
theorem Ff{a:ϒ}{d:Data}(f:∀b o,b∉[s.heap.objs.size]->(s.heap.push {cls:=c,data:=d}).get? b=!o->a.get? b=!o):∀b o,s.heap.get? b=!o->a.get? b=!o:=λb o e=>by
 show f b o (λg=>?_)<|Jn _ e;rw[Zs.mp g]at e;show ą _<|É e
end
def Kl(K:Ϗ):ϊ V->Hp->VK->Prop:=λxs H Q=>∃(a:ό)(s t:ϐ),xs=[.ref a]/\SqT K H a [.str s,.str t]/\Q (.str<|if t.cps.toList<s.cps.toList then t else s) H
def Km(K:Ϗ):ϊ V->Hp->VK->Prop:=λxs H Q=>∃(a:ό)(s t:ϐ),xs=[.ref a]/\SqT K H a [.str s,.str t]/\Q (.str<|if s.cps.toList<t.cps.toList then t else s) H
theorem Ht{X:Cx}(J:X.calm=true):bY X (.builtin "min") (Kl X.K):=by
 intro D s σ H xs W Q I O h;let#[a,m,n,rfl,p,q]:=h;let#[g,f]:∃g,g=[m,n]:=#[_,rfl];replace p:SqT X.K H a (g.map V.str):=by rw[f];show p
 let#[u,rfl,N]:=O.one
 cases(show u=Value.ref a from N);let#[d,r,C,U]:=I.tuple p;have k:↑g=↑d:=by have:=↑r;rw[Qb]at this;show this
 have o:↑g=2:=by rw[f];rfl
 have B:s.heap.IsTuple a d.toArray:=C;have l:a<s.heap.objs.size:=by let#[_,e,_]:=C;show É e
 show call_min_walk (ĺ B ⟨_,[_,a],[_],_,_,_,λi j=>decide<|((g[i]?).getD default).cps.toList<((g[j]?).getD default).cps.toList,rfl,Walks.tuple (A:=X.A.in1) (I.ok.hd J) _ a (Ú l) d.toArray,
  ⟨⟨_,Å _ rfl,rfl,rfl⟩,B.push _⟩,λc hcc=>?_,by simpa using(show 0<↑d by rfl'),λi j Y Z E S R K L h=>?_,λv T P G M=>?_⟩)
 .show c<(s.heap.push _).objs.size;rw[Ĩ];rcases Æ.mp hcc with rfl|hcc
  .show Ĳ _
  .rw [Zs.mp hcc];show Ħ l
 .obtain ⟨x,t,b,rfl⟩:=gD r (by simpa using K);let#[y,z,w,rfl]:=gD r (by simpa using L);dsimp only at h;rw[b,w]at h;show richCompare_gives (op:=.Lt) (typeIs_str E x t) (typeIs_str E y z) F.slot_str_lt F.entry_str_lt (F.args_str_lt_2 _ _) (gives_str_lt x y t z) (λx=>nomatch x) h
 .obtain ⟨x,t,b,rfl⟩:=gD r (by rw[<-Ĺ];show G);show#[.str x,H,I.kept (t':=P)<|Ff M,#[t,rfl],?_];rw[Õ,<-k,o,f]at b;change[m,n][if decide (n.cps.toList<m.cps.toList)=true then 1 else 0]?=!x at b;by_cases c:n.cps.toList<m.cps.toList
  .rw [if_pos<|Ï c]at b;rw[if_pos c]at q
   cases b;show q
  .rw [if_neg (by rw[Ø c];show Í)]at b;rw[if_neg c]at q
   cases b;show q
theorem Hu{X:Cx}(J:X.calm=true):bY X (.builtin "max") (Km X.K):=by
 intro D s σ H xs W Q I O h;let#[a,m,n,rfl,p,q]:=h;let#[g,f]:∃g,g=[m,n]:=#[_,rfl];replace p:SqT X.K H a (g.map V.str):=by rw[f];show p
 let#[u,rfl,N]:=O.one
 cases(show u=Value.ref a from N);let#[d,r,C,U]:=I.tuple p;have k:↑g=↑d:=by have:=↑r;rw[Qb]at this;show this
 have o:↑g=2:=by rw[f];rfl
 have B:s.heap.IsTuple a d.toArray:=C;have l:a<s.heap.objs.size:=by let#[_,e,_]:=C;show É e
 show call_max_walk (ĺ B ⟨_,[_,a],[_],_,_,_,λi j=>decide<|((g[j]?).getD default).cps.toList<((g[i]?).getD default).cps.toList,rfl,Walks.tuple (A:=X.A.in1) (I.ok.hd J) _ a (Ú l) d.toArray,
  ⟨⟨_,Å _ rfl,rfl,rfl⟩,B.push _⟩,λc hcc=>?_,by simpa using(show 0<↑d by rfl'),λi j Y Z E S R K L h=>?_,λv T P G M=>?_⟩)
 .show c<(s.heap.push _).objs.size;rw[Ĩ];rcases Æ.mp hcc with rfl|hcc
  .show Ĳ _
  .rw [Zs.mp hcc];show Ħ l
 .obtain ⟨x,t,b,rfl⟩:=gD r (by simpa using K);let#[y,z,w,rfl]:=gD r (by simpa using L);dsimp only at h;rw[b,w]at h;show richCompare_gives (op:=.Gt) (typeIs_str E x t) (typeIs_str E y z) F.slot_str_gt F.entry_str_gt (F.args_str_gt_2 _ _) (gives_str_gt x y t z) (λx=>nomatch x) h
 .obtain ⟨x,t,b,rfl⟩:=gD r (by rw[<-Ĺ];show G);show#[.str x,H,I.kept (t':=P)<|Ff M,#[t,rfl],?_];rw[Õ,<-k,o,f]at b;change[m,n][if decide (m.cps.toList<n.cps.toList)=true then 1 else 0]?=!x at b;by_cases c:m.cps.toList<n.cps.toList
  .rw [if_pos<|Ï c]at b;rw[if_pos c]at q
   cases b;show q
  .rw [if_neg (by rw[Ø c];show Í)]at b;rw[if_neg c]at q
   cases b;show q
def zA{X:Cx}(K:Ϗ)(a:X.K=K)(b:X.calm=true):bY X (.builtin "min") (Kl K):=a▸Ht b
def zB{X:Cx}(K:Ϗ)(a:X.K=K)(b:X.calm=true):bY X (.builtin "max") (Km K):=a▸Hu b
def HY(K:Ϗ)(H:Hp)(a:ό)(xs:ϊ V):ϑ->Prop
 |true=>SqL K H a xs
 |false=>SqT K H a xs
def XX(h:ϒ)(a:ό)(xs:ϔ ϋ):ϑ->Prop
 |true=>h.IsList a xs
 |false=>h.IsTuple a xs
noncomputable def Yu:ϑ->String
 |true=>"list_iterator"
 |false=>"tuple_iterator"
abbrev itO(q:ϑ)(l:ό):Obj:={cls:=.type<|Yu q,data:=.fields<|[.ref l,.int 0 0].toArray}
def Yv(h:ϒ)(i l:ό)(k:Nat)(q:ϑ):Prop:=∃o,h.get? i=!o/\o.cls=.type (Yu q)/\o.data=.fields ([.ref l,.int k 0].toArray)
theorem zE{X:Cx}(I:Inv X gE σ H s):∀{q:ϑ},HY X.K H a b q->∃its,Vals b its/\XX s.heap a its.toArray q
 |true,h=>by let#[its,r,p,_]:=I.list h;show#[its,r,p.isList]
 |false,h=>by let#[its,r,p,_]:=I.tuple h;show#[its,r,p]
theorem Fg{i:ό}(a:l≠i):∀{q:ϑ},Drw prog w i l b λk h=>Yv h i l k q/\XX h l b q
 |true=>JK a
 |false=>Q6 a
theorem Ko:∀{q:ϑ},XX h a b q->∃o,h.get? a=!o/\(o.cls=.type "list"\/o.cls=.type "tuple")/\(q=true->o.cls=.type "list")
 |true,⟨o,e,c,_⟩=>#[o,e,.inl c,λ_=>c]
 |false,⟨o,e,c,_⟩=>#[o,e,.inr c,λz=>by cases z]
def V0(K:Ϗ)(a b:ό)(q:ϑ):It:=
 ⟨λi H=>∃xs ys x y,SqT K H a xs/\HY K H b ys q/\xs[i]?=!x/\ys[i]?=!y,
  λi H v H'=>∃p x y,H p=none/\v=.ref p/\H'=upd H p (.tup [x,y])/\(∀xs,SqT K H a xs->xs[i]?=!x)/\∀ys,HY K H b ys q->ys[i]?=!y,
  λi H=>∃xs ys,SqT K H a xs/\HY K H b ys q/\(↑xs<=i\/↑ys<=i)⟩
structure ZipStG(z TI TO i1 i2 a b:ό)(q:ϑ)(i:Nat)(h:ϒ):Prop where
 hz:IsZip h z TI TO .none
 hTI:IsPair h TI (.ref i1)<|.ref i2
 hTO:∃u v,IsPair h TO u v
 h1:Yv h i1 a i false
 h2:Yv h i2 b i q
 aTO:a≠TO
 bTO:b≠TO
theorem Qy{X:Cx}{c:ϊ V}(I:Inv X gE σ H s):∀{q:ϑ},HY X.K H a b q->HY X.K H a c q->b=c
 |true,h,h'=>I.list_inj h h'
 |false,h,h'=>I.tuple_inj h h'
theorem pW{h:ϒ}{b TI TO:ό}{C E:ϔ ϋ}(D:ZipNe z TI TO i1 i2)(w:h.IsTuple a C)(x:XX h b E q)(B:ZipStG z TI TO i1 i2 a b q i h):ZipApart z TI TO i1 i2 a b:=by
 let#[r,u,#[I,v0,v],#[F,o,m,_],#[G,p,n,_],d,f]:=B;let#[H,j,g,_]:=w;let#[ob,k,t,_]:=Ko x;have l:∀T:String,T≠"list"->T≠"tuple"->ob.cls≠.type T:=λT y A e=>by
  rcases t with c|c<;>rw[c]at e<;>cases e
  .show y rfl
  .show A rfl
 have s:∀q,Yu q≠"list"/\Yu q≠"tuple"/\Yu q≠"zip":=λq=>by cases q<;>decide
 show⟨D.TIz,D.TOz,D.i1z,D.i2z,D.TITO,D.TIi1,D.TIi2,D.TOi1,D.TOi2,D.i12,
  mJ j r<|by rw[g];change Value.type "tuple"≠Value.type "zip";decide,d,mJ j o<|by rw[g,m];decide,mJ j p<|by rw[g,n];cases q<;>decide,
  mJ k r<|l "zip" (by decide)<|by decide,f,mJ k o<|by rw[m];show l _ (by decide)<|by decide,mJ k p<|by rw[n];show l _ (s q).1 (s q).2.1⟩
theorem Hv{P:ϓ}{K:Ϗ}{k:Nat}{TI TO:ό}(a b:ό)(D:ZipNe z TI TO i1 i2):
  Turn P w K (.Tuple elts k tpos) (V0 K a b q) [z,TI,TO,i1,i2] z (ZipStG z TI TO i1 i2 a b q)where
 mem:=by simp
 obj:=λi h t c T=>by
  let#[C,f,#[u,v,g],#[R,J,c1,d1],#[S,L,c2,d2],_]:=t;simp only[Æ,á,ĕ]at T;rcases T with rfl|rfl|rfl|rfl|rfl
  .show #[_,C,λv z=>by cases z]
  .show #[_,f,λv z=>by cases z]
  .show #[_,g,λv z=>by cases z]
  .show #[R,J,λv z=>by rw[d1]at z;cases z]
  .show #[S,L,λv z=>by rw[d2]at z;cases z]
 keep:=λi h h' t m=>by
  let#[C,f,#[u,v,g],#[R,J,r1],#[S,L,r2],n1,n2]:=t;show#[m z (by simp) _ C,m TI (by simp) _ f,#[u,v,m TO (by simp) _ g],#[R,m i1 (by simp) _ J,r1],#[S,m i2 (by simp) _ L,r2],n1,n2]
 item:=by
  intro X hP hw hK T i r s σ H E I M t hg;subst hP hw hK;let#[xs,ys,x,y,A,B,F,hy]:=hg;let#[N,rv,p,_]:=I.tuple A;let#[Y,O,Z]:=zE I B;have G:=pW D p Z t;let#[u,hu,ru]:=rv.get F;let#[v,hv,af]:=O.get hy;let#[C,f,#[u0,v0,g],h1,h2,ab,ac]:=id t;show Hd G (Fg (q:=false) G.l1i1) (Fg (q:=q) G.l2i2) C f g #[h1,(show s.heap.IsTuple a N.toArray from p)] #[h2,Z] (x:=u) (y:=v) (by simpa using hu) (by simpa using hv) λh' a1 a2 a3 a4 a5 a7=>?_
  show#[_,rfl,wpAny_letOwnedTupleGo_zip a1 λl b1 Q=>?_];have hT:s.heap.objs.size≠z:=ě<|É C;have m:∀c o,c∉[z,TI,TO,i1,i2]->s.heap.get? c=!o->l.get? c=!o:=λc o d e=>by
   simp only[Æ,á,ĕ,not_or]at d;show Q.extBut _ _ d.1<|a7 c o d.1 d.2.2.1 d.2.2.2.1 d.2.2.2.2 e
  have I1:Inv X r σ H {s with heap:=l,toks:=s.toks}:=I.turnedAll m M;have j:H s.heap.objs.size=none:=I.hok.fresh<|Ã _;have e5:l.get? s.heap.objs.size=!{cls:=.type "tuple",data:=.seq<|[u,v].toArray}:=Q.extBut _ _ hT a5;have un:Un (frs X.stack) [z,TI,TO,i1,i2] H (upd H s.heap.objs.size<|.tup [x,y]) s.heap l:=
   ⟨λb o q _ _ F=>m b o F q,λb o q _ _ F=>⟨o.slots,m b o F q⟩,λb o q n _=>by rw[ao<|Ú<|É q];show n,λb o q F=>⟨o,m b o F q⟩,
    λb xs q=>by rw[ao<|aN q j];show q,λb o x q=>by rw[ao<|aN q j];show q,λb ps q=>⟨([].toArray),by rw[ao<|aN q j,q];simp⟩⟩
  have ae:HOk X.prog X.w (upd H s.heap.objs.size<|.tup [x,y]) l:=HOk.track I1.hok j #[by change 2<=sizeLine;decide,[u,v],.cons ru<|.cons af .nil,_,e5,rfl,_,rfl];have I2:Inv X r σ (upd H s.heap.objs.size<|.tup [x,y]) {s with heap:=l}:=I.call' (s':={s with heap:=l}) rfl un ae I.bare λc d=>⟨(M c d).2.2.2.1,(M c d).2.1,(M c d).2.2.2.2⟩
  let#[#[R,J,r1],_]:=a3;let#[#[S,L,r2],_]:=a4;show#[.ref s.heap.objs.size,_,I2,rfl,#[_,x,y,j,rfl,rfl,λai h=>by rw[I.tuple_inj h A];show F,λal h=>by rw[Qy I h B];show hy],#[b1,Q.extBut _ _ D.TIz<|a7 _ _ D.TIz D.TITO D.TIi1 D.TIi2 f,#[u,v,Q.extBut _ _ D.TOz a2],#[R,Q.extBut _ _ D.i1z J,r1],#[S,Q.extBut _ _ D.i2z L,r2],ab,ac],λc d=>?_];have ad:c<s.heap.objs.size:=by
   let#[#[R,J,_],#[S,L,_]]:=(#[h1,h2]:_/\_);simp only[Æ,á,ĕ]at d;rcases d with rfl|rfl|rfl|rfl|rfl
   .show É C
   .show É f
   .show É g
   .show É J
   .show É L
  rw[ao<|Ú ad];show(M c d).1
 done:=by
  intro X hP hw hK T i r s σ H E I M t hg;subst hP hw hK;let#[xs,ys,A,B,U]:=hg;let#[N,rv,p,_]:=I.tuple A;let#[Y,O,Z]:=zE I B;have G:=pW D p Z t;let#[C,f,#[u0,v0,g],h1,h2,_]:=id t;have ag:=↑rv;have ah:=↑O;show JL (I.ok.hd T) G (Fg (q:=false) G.l1i1) (Fg (q:=q) G.l2i2) C f g #[h1,(show s.heap.IsTuple a N.toArray from p)] #[h2,Z] ?_ λh' m=>?_
  .rcases U with q|q
   .left;simp;rfl'
   .right;simp;rfl'
  .show #[rfl,I.turnedAll (t':=s.toks) (λc o d e=>?_) M];simp only[Æ,á,ĕ,not_or]at d;show m c o d.1 d.2.2.1 d.2.2.2.1 d.2.2.2.2 e
 self:=λ_ _ _ _ _ t h=>wpAny_pyIter_zip t.hz h
theorem xn(a b:ό)(o j:ϔ ϋ)(q:ϑ):
  Meets (Builtin.«zip.__new__» #[[.type "zip",.ref a,.ref b],[]]) (λ_ R s=>s.heap.IsTuple a o/\XX s.heap b j q/\
   R (.ok<|.ret<|.ref (zo4 s.heap (wH a)<|itO q b).objs.size) {s with heap:=XS s.heap (wH a)<|itO q b}):=
 .of_wp λn w A R s h=>by
  let#[e,g,d,i,f]:=s;let#[p,m,h]:=h;have l:=sub_zip;have k:Heap.IsTuple (Shared.heap ⟨e,g,d,i,f⟩) a o:=p
  cases q with
  |true=>
   have c:Heap.IsList (Shared.heap ⟨e.push<|wH a,g,d,i,f⟩) b j:=Heap.IsList.push m _
   wp_walk using ĺ k,Ţ c
   show#[_,rfl,h]
  |false=>
   have c:Heap.IsTuple (Shared.heap ⟨e.push<|wH a,g,d,i,f⟩) b j:=Heap.IsTuple.push m _
   wp_walk using ĺ k,ĺ c
   show#[_,rfl,h]
theorem zF{s:ώ}{b d:ό}{p r:ϔ ϋ}(B:s.heap.IsTuple b p)(C:XX s.heap d r q)
  (h:∀h',IsZip h' (s.heap.objs.size+4) (s.heap.objs.size+2) (s.heap.objs.size+3) .none->IsPair h' (s.heap.objs.size+2) (.ref s.heap.objs.size) (.ref<|s.heap.objs.size+1)->
   IsPair h' (s.heap.objs.size+3) .none .none->Yv h' s.heap.objs.size b 0 false->Yv h' (s.heap.objs.size+1) d 0 q->
   (∀c o,s.heap.get? c=!o->h'.get? c=!o)->Q (.ref<|s.heap.objs.size+4) {s with heap:=h'}):
  wpAny (model prog w) A (call (.type "zip") [.ref b,.ref d]) Q E s:=by
 show callType_new F.called_zip (by decide) (F.typeCall_zip_2 _ _) (F.newCall_zip_2 _ _) (λg=>F.args_object_init_3 g _ _) F.entry_zip_new (xn b d p r q) #[B,C,?_];generalize hj1:wH b=j1;generalize hj2:itO q d=j2;have v:Obj.isFreed j1=false:=by rw[<-hj1];rfl
 have y:Obj.isFreed j2=false:=by rw[<-hj2];rfl
 have i:(zo1 s.heap j1).objs.size=s.heap.objs.size+1:=Ĩ ..;have j:(zo2 s.heap j1 j2).objs.size=s.heap.objs.size+2:=by rw[Ĩ,i]
 have k:(zo3 s.heap j1 j2).objs.size=s.heap.objs.size+3:=by rw[Ĩ,j]
 have t:(zo4 s.heap j1 j2).objs.size=s.heap.objs.size+4:=by rw[Ĩ,k]
 have a:∀{c o} {h:ϒ} {u:Obj},h.get? c=!o->(h.push u).get? c=!o:=λe=>Jn _ e
 have f:(XS s.heap j1 j2).get? (zo4 s.heap j1 j2).objs.size=!_:=Å _ rfl;have n:(XS s.heap j1 j2).get? (zo3 s.heap j1 j2).objs.size=!_:=a<|Å _ rfl;have m:(XS s.heap j1 j2).get? (zo2 s.heap j1 j2).objs.size=!_:=a<|a<|Å _ rfl;have l:(XS s.heap j1 j2).get? (zo1 s.heap j1).objs.size=!j2:=a<|a<|a<|Å _ y;have z:(XS s.heap j1 j2).get? s.heap.objs.size=!j1:=a<|a<|a<|a<|Å _ v;change _/\_;rw[j,k,t]at f;rw[i,j]at m;rw[k]at n;rw[i]at l;rw[t];show#[#[_,f,rfl],h _ f m n #[_,z,by subst hj1;rfl,by subst hj1;rfl] #[_,l,by subst hj2;rfl,by subst hj2;rfl] λc o x=>a<|a<|a<|a<|a x]
def Kp(K:Ϗ)(ta:TA):TI:=λσ H R=>ta σ H λvs H1=>∃a b xs ys q,vs=[.ref a,.ref b]/\SqT K H1 a xs/\HY K H1 b ys q/\R (V0 K a b q) H1
theorem QB{X:Cx}{k:Nat}{a b:Expr}(K:Ϗ)(F:X.K=K)(J:Gl X "zip")(hc:X.calm=true)(L:X.mg "zip"=none)(G:PA X [a,b] C)(M:starEach [a,b] X.env=[(false,eval a X.env),(false,eval b X.env)]:=by rfl)(j:starEach [b] X.env=[(false,eval b X.env)]:=by rfl):
  PI X (.Tuple elts k tpos) (.Call (.Name "zip" p) [a,b] [] m) (Kp K C):=by
 subst F;intro l s Z H R I h;show Call_ (fG I J L (show bootBuiltins "zip"=!(.type "zip")by ac_nf) (Č (bB (G m l s Z H _ I h) λus d ⟨vs,E,f,P,O⟩=>?_) (by rw[M,j]) (by rw[j];rfl)));let#[x,z,xs,ys,qb,e,u,v,q]:=O;subst e
 cases P with
 |cons r rr=>
  cases rr with
  |cons r' rr=>
   cases rr
   cases r
   cases r';let#[w,rv,A,_]:=f.tuple u;let#[y,Q,B]:=zE f v;have n:x<d.heap.objs.size:=by let#[o,e,_]:=A;show É e
   have t:z<d.heap.objs.size:=by let#[o,e,_]:=Ko B;show É e
   show zF (show d.heap.IsTuple x w.toArray from A) B λh' D S T U Y N=>?_
   show wpAny_pyIter_zip D ?_;show#[d.heap.objs.size+4,[d.heap.objs.size+4,d.heap.objs.size+2,d.heap.objs.size+3,d.heap.objs.size,d.heap.objs.size+1],_,_,E,rfl,f.kept (t':=d.toks) N,Hv x z #[?_,?_,?_,?_,?_,?_,?_,?_,?_,?_],#[D,S,#[_,_,T],U,Y,Ú<|Ó n<|Χ _ _,Ú<|Ó t<|Χ _ _],λc g=>?_,q];all_goals first
    |(change(_:Nat)≠_;rfl')
    |skip
   have i:d.heap.objs.size<=c:=by
    simp only[Æ,á,ĕ]at g;rcases g with rfl|rfl|rfl|rfl|rfl<;>(change(_:Nat)<=_;rfl')
   show f.fpOk i<|f.hok.fresh i
end L2
end
set_option linter.all false
namespace Mm
def dU(x:Int)(m:Nat)(h:0<m):∃n:Nat,x%(m:Int)=(n:Int)/\n<m:=by
 have a:=Int.emod_nonneg x (b:=(m:Int)) ();have c:=ź x (b:=(m:Int)) ();show#[(x%(m:Int)).toNat,(),()]
def QC(k:Nat):(0:Int)<1*2^k:=by
 rw[Int.one_mul];show Int.pow_pos<|by decide
def dW{a c:Type}(f:a->ύ c)(b:ϊ a)(x:a):(b++[x]).filterMap f=b.filterMap f++(f x).toList:=by
 rw[List.filterMap_append]
 cases h:f x<;>simp[h]
def Yw{b c:Type}(p:b->ϑ)(g:b->c)(a:ϊ b):a.filterMap (λx=>if p x=true then !(g x)else none)=(a.filter p).map g:=by
 induction a with
 |nil=>rfl
 |cons x r ih=>
  cases h:p x
  .simp [h,ih]
  .simp [h,ih]
noncomputable def cellAt(ns:ϊ Int)(k:Nat):Int:=ns.getD k 0
def hgt(c:Int):Nat:=if c%2=0 then(1+c/2%6).toNat else(1+c/2%60).toNat
def mL{h a b:Nat}(c:a<2^h)(d:b<2^h):a^^^b<2^h:=Nat.xor_lt_two_pow c d
def bc:ϊ Nat->ϊ Nat->Nat
 |x::xs,y::ys=>Bm.pop (x^^^y)+bc xs ys
 |_,_=>0
theorem xq:∀xs ys:ϊ Nat,((List.zipWith (λx y=>((Bm.pop (x^^^y):Nat):Int)) xs ys).sum:Int)=(bc xs ys:Nat)
 |[],_=>by simp[bc]
 |_::_,[]=>by simp[bc]
 |x::xs,y::ys=>by
  rw[List.zipWith_cons_cons,Ģ,xq xs ys,bc];rfl'
theorem ir:∀xs ys:ϊ Nat,bc xs ys=bc ys xs
 |[],[]=>rfl
 |[],_::_=>rfl
 |_::_,[]=>rfl
 |x::xs,y::ys=>by rw[bc,bc,ir xs ys,Nat.xor_comm]
theorem sU:∀xs:ϊ Nat,bc xs xs=0
 |[]=>rfl
 |x::xs=>by rw[bc,sU xs,Nat.xor_self,Bm.lH]
def getD_some{k:Nat}{z:Int}(h:a[k]?=!z):cellAt a k=z:=by
 unfold cellAt;rw[Yf,h];rfl
def getD_none{k:Nat}(h:↑a<=k):cellAt a k=0:=by
 unfold cellAt;rw[Yf,ę h];rfl
def On(h n:Nat)(s:Int×Int):Prop:=0<=s.1/\s.1<n/\0<=s.2/\s.2<h
instance decOn (h n:Nat) (s:Int×Int):Decidable (On h n s):=by unfold On;show inferInstance
noncomputable def gm(xs:ϊ Nat)(s:Int×Int):ϊ Nat:=xs.set s.1.toNat<|xs.getD s.1.toNat 0^^^2^s.2.toNat
def bV(xs:ϊ Nat)(ss:ϊ<|Int×Int):ϊ Nat:=ss.foldl gm xs
def mO(a:ϊ Nat)(s:Int×Int):↑(gm a s)=↑a:=by unfold gm;simp
theorem eY:∀(ss:ϊ<|Int×Int)(xs:ϊ Nat),↑(bV xs ss)=↑xs
 |[],_=>rfl
 |s::r,xs=>by
  change↑(bV (gm xs s) r)=_;rw[eY r,mO]
def pX(b:ϊ Nat)(a:ϊ<|Int×Int)(s:Int×Int):bV b (a++[s])=gm (bV b a) s:=by unfold bV;rw[Ĵ];rfl
def Kq{h:Nat}(b:∀x∈a,x<2^h)(d:On h ↑a s):∀x∈gm a s,x<2^h:=by
 intro x c;let#[e,f,g,i]:=d;rcases ś c with q|q
 .show b x q
 .rw [q];show mL ?_<|Nat.pow_lt_pow_right () ();rw[Yf,Zl ()];show b _<|Û _
theorem xr{h:Nat}:∀{ss:ϊ<|Int×Int}{xs:ϊ Nat},(∀x∈xs,x<2^h)->(∀s∈ss,On h ↑xs s)->∀x∈bV xs ss,x<2^h
 |[],_,hx,_=>hx
 |s::r,xs,hx,ho=>by
  change ∀x∈bV (gm xs s) r,_;show xr (Kq hx<|ho s Ì) λt a=>by rw[mO];show ho t<|Ç _ a
def zG(a:ϊ Nat)(s:Int×Int)(x:Nat)(b:s.1.toNat<↑a):(gm a s).getD x 0=if s.1.toNat=x then a.getD x 0^^^2^s.2.toNat else a.getD x 0:=by
 unfold gm;rw[Yf];by_cases h:s.1.toNat=x
 .subst h;rw[Ŵ b,if_pos rfl];rfl
 .rw [Κ h,if_neg h,Yf]
theorem mQ{h:Nat}(x y:Nat):∀(ss:ϊ (Int×Int))(xs:ϊ Nat),(∀s∈ss,On h ↑xs s)->
  ((bV xs ss).getD x 0).testBit y=((xs.getD x 0).testBit y^^decide (ss.count ((x:Int),(y:Int))%2=1))
 |[],xs,_=>by simp[bV]
 |s::r,xs,ho=>by
  have c:=ho s Ì;let#[i,j,k,l]:=c;change((bV (gm xs s) r).getD x 0).testBit y=_;rw[mQ x y r (gm xs s) (λt d=>by rw[mO];show ho t (Ç _ d)),zG xs s x (),List.count_cons];have e:(s==((x:Int),(y:Int)))=true↔s.1.toNat=x/\s.2.toNat=y:=by
   rw[beq_iff_eq];constructor
   .intro e;rw[e];show#[by simp,by simp]
   .rintro ⟨f,g⟩;apply Prod.ext
    .show s.1=(x:Int);rfl'
    .show s.2=(y:Int);rfl'
  by_cases a:s.1.toNat=x
  .rw [if_pos a,ş,Nat.testBit_two_pow];by_cases b:s.2.toNat=y
   .rw [if_pos (e.mpr #[a,b]),Ï b];rcases Ŕ (r.count ((x:Int),(y:Int)))with z|z
    .rw [z,show(r.count ((x:Int),(y:Int))+1)%2=1 by rfl'];cases(xs.getD x 0).testBit y<;>rfl
    .rw [z,show(r.count ((x:Int),(y:Int))+1)%2=0 by rfl'];cases(xs.getD x 0).testBit y<;>rfl
   .rw [if_neg (λq=>b (e.mp q).2),Ø b];simp
  .rw [if_neg a,if_neg (λq=>a (e.mp q).1)];simp
def Hw(c:ϊ Nat)(a b:ϊ<|Int×Int):bV (bV c a) b=bV c (a++b):=by unfold bV;rw[Ĵ]
def dX(xs ys:ϊ Nat)(x:Nat):ϊ (Int×Int):=(Bm.bits 60<|xs.getD x 0^^^ys.getD x 0).map λy:Nat=>((x:Int),(y:Int))
def aY(xs ys:ϊ Nat):ϊ (Int×Int):=(List.range ↑xs).flatMap<|dX xs ys
def jQ:s∈aY c d↔∃x y:Nat,s=((x:Int),(y:Int))/\x<↑c/\y<60/\(c.getD x 0^^^d.getD x 0).testBit y=true:=by
 unfold aY dX;rw[û];constructor
 .rintro ⟨x,a,h⟩;let#[y,b,rfl]:=Zp.mp h;let#[e,f]:=Bm.wk.mp b;show#[x,y,rfl,by simpa using a,e,f]
 .rintro ⟨x,y,rfl,a,b,g⟩;show#[x,by simpa using a,Zp.mpr #[y,Bm.wk.mpr #[b,g],rfl]]
def oO{h:Nat}{a:ϊ Nat}(b:∀x∈a,x<2^h)(i:Nat):a.getD i 0<2^h:=by
 rw[Yf];by_cases q:i<↑a
 .rw [Zl q];show b _<|Û q
 .rw [ę ()];show Nat.two_pow_pos h
def iu{h:Nat}(e:∀x∈a,x<2^h)(f:∀y∈b,y<2^h):∀s∈aY a b,On h ↑a s:=by
 intro s d;let#[x,y,rfl,g,i,c]:=jQ.mp d;have:=Bm.u6 (mL (oO e x)<|oO f x) c;show#[?_,?_,?_,?_]
 .show (0:Int)<=(x:Int);rfl'
 .show (x:Int)<(↑a:Int);rfl'
 .show (0:Int)<=(y:Int);rfl'
 .show (y:Int)<(h:Int);rfl'
def Lx(s t:Int×Int):Prop:=s.1<t.1\/(s.1=t.1/\s.2<t.2)
def xu(k n:Nat):(Bm.bits k n).Pairwise (·<·):=List.Pairwise.filter _ List.pairwise_lt_range
def fV(f g:ϊ Nat):(aY f g).Pairwise Lx:=by
 unfold aY;rw[List.pairwise_flatMap];constructor
 .intro x _;unfold dX;rw[ĝ];show(xu 60 _).imp λ{a b} h=>Or.inr #[rfl,?_]
  change(a:Int)<(b:Int);rfl'
 .show List.pairwise_lt_range.imp λ{a b} e s c t d=>?_
  unfold dX at c d;let#[y,_,rfl]:=Zp.mp c;let#[z,_,rfl]:=Zp.mp d;show Or.inl ?_;change(a:Int)<(b:Int);rfl'
def xx(c d:ϊ Nat):(aY c d).Nodup:=(fV c d).imp λ{a b} h e=>by
 subst e;rcases h with h|⟨_,h⟩<;>rfl'
def xF(a b:ϊ Nat)(s:Int×Int):(aY a b).count s=if s∈aY a b then 1 else 0:=by
 by_cases h:s∈aY a b
 .rw [if_pos h];have c:=List.nodup_iff_count.mp (xx a b) s;have d:=List.count_pos_iff.mpr h;rfl'
 .rw [if_neg h,List.count_eq_zero_of_not_mem h]
def zH{h:Nat}(t:h<=60)(u:↑a=↑b)(n:∀x∈a,x<2^h)(o:∀y∈b,y<2^h):bV a (aY a b)=b:=by
 apply List.ext_getElem
 .rw [eY,u]
 .intro i p k;apply Ł;intro y;have l:=mQ i y (aY a b) a<|iu n o;rw[Yf,Zl p,Option.getD_some,xF]at l;have f:a.getD i 0=a[i]'(by rfl'):=by rw[Yf,Zl ()];rfl
  have m:b.getD i 0=b[i]:=by rw[Yf,Zl k];rfl
  rw[l,f];by_cases d:((i:Int),(y:Int))∈aY a b
  .rw [if_pos d];let#[g,j,e,_,_,c]:=jQ.mp d;have r:g=i:=by have:=Ö Prod.fst e;simp at this;rfl'
   have s:j=y:=by have:=Ö Prod.snd e;simp at this;rfl'
   subst r s;rw[f,m,ş]at c
   revert c
   cases(a[g]'(by rfl')).testBit j<;>cases b[g].testBit j<;>simp
  .rw [if_neg d];have c:((a[i]'(by rfl'))^^^b[i]).testBit y=false:=by
    cases q:((a[i]'(by rfl'))^^^b[i]).testBit y with
    |false=>rfl
    |true=>
     have v:=Bm.u6 (mL (n _<|Û (by rfl':i<↑a))<|o _<|Û k) q;show absurd (jQ.mpr #[i,y,rfl,(),(),by rw[f,m];show q]) d
   rw[ş]at c
   revert c
   cases(a[i]'(by rfl')).testBit y<;>cases b[i].testBit y<;>simp
def Hx(c:∀x∈a,x<2^60)(d:∀y∈b,y<2^60):↑(aY a b)=((List.range ↑a).map λx=>Bm.pop<|a.getD x 0^^^b.getD x 0).sum:=by
 unfold aY;rw[List.length_flatMap];congr 1;apply ė;intro x _;unfold dX;rw[Qb];show Bm.wj 60 _<|mL (oO c x)<|oO d x
def jx(xs ys:ϊ Nat)(k:Nat):ϊ (Int×Int):=(List.range k).flatMap<|dX xs ys
def jy(a b:ϊ Nat)(k:Nat):jx a b (k+1)=jx a b k++dX a b k:=by
 unfold jx;rw[Ŋ,Ō];simp
theorem lq:∀k,↑(jx xs ys k)<=60*k
 |0=>by simp[jx]
 |k+1=>by
  rw[jy,Ë];have:=lq (xs:=xs) (ys:=ys) k;have:↑(dX xs ys k)<=60:=by
   unfold dX;rw[Qb];show Ð (Ę _ _)<|by simp
  rfl'
end Mm
section
namespace L2
open PySem
variable{E:XK}{Q:VK}{t:TA}{u:TS}{sp:Sp}{wi:TI}{i j:Int}{v x y:V}{A B:Prop}{T:String}{a p:ό}{d:PyData}{b c n:Nat}{H H' H1:Hp}{qs:ϊ ό}{f:Int->Int->V}{hi:ύ Int}{ds:ϊ PyData}{C:Int->Int->Prop}{R:ϑ->Hp->Prop}{κ:ϊ (ύ Nat)}{zs:ϊ (ό×Int×Int)}{r:V->ϊ V->Hp->VK->Prop}{ta tb td te tk tl to tv:TE}
def jb{a:Nat}(h:a<=b)(k:Nat.ble b c=true:=by rfl):a<=c:=Ð h<|Nat.le_of_ble_eq_true k
def Yx{a:Nat}(h:a<=b)(k:Nat.ble (b+1) c=true:=by rfl):a<c:=jb (Ő h) k
def qcL{a:Nat}(h:(a:Int)<=b):a<=b:=Int.ofNat_le.mp h
def V1{a:Nat}(h:(a:Int)<b):a<b:=Int.ofNat_lt.mp h
def QD{a:Nat}(h:(a:Int)=b):a=b:=Int.ofNat.inj h
def qdT{a:Nat}(h:a<b):(a:Int)<b:=Int.ofNat_lt.mpr h
def Oe(a:Nat):(0:Int)<=a:=Int.natCast_nonneg a
def Sv{a:Int}(h:0<=a):(a.toNat:Int)=a:=δ h
def qtT{a:Int}(h:0<=a)(k:a<b):a.toNat<b:=()
def Y0{a:Int}(h:0<=a/\a<b):a.toNat<b:=qtT h.1 h.2
def qtC{a:Int}(h:a<b)(k:0<b):a.toNat<b:=()
def V2{a:Nat}(h:¬a<b):b<=a:=Nat.le_of_not_lt h
def qnT{a:Nat}(h:¬a<=b):b<a:=Nat.lt_of_not_le h
def qnE{a:Nat}(h:a<=b)(k:¬a<b):a=b:=Nat.le_antisymm h<|V2 k
def qn0{a:Nat}(h:¬0<a):a=0:=Nat.eq_zero_of_not_pos h
def qz0{a:Nat}(h:a<=0):a=0:=Nat.eq_zero_of_le_zero h
def qP{a:Nat}(e:a=b)(h:b<=c):a<=c:=e▸h
def qfL{a:Nat}(h:a<=b)(e:c=b):a<=c:=e▸h
def Ia{a:Nat}(h:a<b)(e:c=b):a<c:=e▸h
def qgT{a:Nat}(h:a<b)(e:b=c):a<c:=e▸h
def Sw{a:Nat}(h:a<=b)(c:Nat):a<=b+c:=Nat.le_add_right_of_le h
def qsR{a:Nat}(h:a<=b)(c:Nat):a<=c+b:=Nat.le_add_left_of_le h
def qsT{a:Nat}(h:a<b)(c:Nat):a<b+c:=Nat.lt_add_right c h
def qmI{a:Int}(h:0<=a)(k:(-1000000000:Int)<=0:=by decide):-1000000000<=a:=Int.le_trans k h
def qmN(a:Nat):(-1000000000:Int)<=a:=qmI<|Oe a
def qp1{a:Nat}(h:0<a):a-1+1=a:=Nat.sub_add_cancel h
def Yy{a:Nat}(e:a=min b c):a<=b:=e▸Nat.min_le_left b c
def Y4{a:Nat}(h:b<=c):min a b<=c:=Ð (Nat.min_le_right ..) h
def qd0{a:Nat}(h:0<a):(0:Int)<a:=Int.ofNat_lt.mpr h
def qd1{a:Nat}(h:1<=a):(1:Int)<=a:=Int.ofNat_le.mpr h
def qdE{a:Nat}(h:a=b):(a:Int)=b:=Ö _ h
def qi1(a:Nat):(1:Int)+a=((a+1:Nat):Int):=Int.add_comm ..
def qnC{a:Nat}(h:¬(a:Int)<b):b<=a:=()
def qnD{a:Nat}(h:¬(a:Int)=b):¬a=b:=λe=>h<|Ö _ e
def qn1{a:Nat}(h:¬(0:Int)<a):a=0:=()
def Yz{a:Nat}(h:a=b+1):b<a:=h▸Ĳ b
def qkP{a:Nat}(h:a<b):b-1-a+1=b-a:=()
def qkQ{a:Nat}(h:a-b<=0)(k:b<=a):b=a:=()
def qkT{a:Nat}(h:a<=b)(k:c<=1):a+c<=b+1:=Nat.add_le_add h k
def qoI{a:Int}(e:a=b)(h:b<c):a<c:=e▸Int.ofNat_lt.mpr h
def YB(h:B):if(not true)=true then A else B:=J7 h
def YC(h:A):if(not false)=true then A else B:=J8 h
theorem fJ{p:Prop}[Decidable p](a:p->A)(b:¬p->B):if decide p=true then A else B:=by
 by_cases h:p
 .rw [Ï h];show J8<|a h
 .rw [Ø h];show J7<|b h
theorem nO{p:Prop}[Decidable p](a:¬p->A)(b:p->B):if(not (decide p))=true then A else B:=by
 by_cases h:p
 .rw [Ï h];show J7<|b h
 .rw [Ø h];show J8<|a h
theorem V3{b:ϑ}(a:b=true->A)(c:b=false->B):if b=true then A else B:=by
 cases b with
 |true=>show J8<|a rfl
 |false=>show J7<|c rfl
theorem nP{p:Prop}[Decidable p](a:p)(h:A):if decide p=true then A else B:=fJ (λ_=>h) λn=>absurd a n
theorem nQ{p:Prop}[Decidable p](a:¬p)(h:B):if decide p=true then A else B:=fJ (λn=>absurd n a) λ_=>h
theorem jz{p:Prop}[Decidable p](a:p)(h:B):if(not (decide p))=true then A else B:=nO (λn=>absurd a n) λ_=>h
def YD{b:Type}[DecidableEq b]{a:b}(h:A):if decide (a=a)=true then A else B:=nP rfl h
def V4{b:Type}[DecidableEq b]{a:b}(h:B):if(not (decide<|a=a))=true then A else B:=jz rfl h
theorem V5{p:Prop}[Decidable p](a:¬p)(h:A):if(not (decide p))=true then A else B:=nO (λ_=>h) λn=>absurd n a
theorem Same.new{a:Hp}(e:Same a H)(h:H p=none):Same a (upd H p o):=λb u q=>by rw[ao<|aN (e b u q) h];show e b u q
theorem Same.tup{K:Ϗ}{b:ϊ V}(e:Same H H')(h:SqT K H a b):SqT K H' a b:=by
 rcases h with(h|⟨o,h⟩)|h
 .show .inl<|.inl<|e _ _ h
 .show .inl<|.inr #[o,e _ _ h]
 .show .inr h
def fj{b:ϊ V}(h:H p=none)(q:SqL K H a b):SqL K (upd H p o) a b:=Same.seq (Same.new (gN H) h) q
def Fi{b:ϊ V}(h:H p=none)(q:SqT K H a b):SqT K (upd H p o) a b:=Same.tup (Same.new (gN H) h) q
theorem a1q{r:St}:pG (none::r) (some v::r):=⟨rfl,λj u z=>by
 match j,z with
 |j+1,z=>show z⟩
theorem ext2{r:St}:pG (none::none::r) (some v::some w::r):=⟨rfl,λj u z=>by
 match j,z with
 |j+2,z=>show z⟩
theorem V6(b:ϑ):(((b.toNat:Nat):Int)!=0)=b:=by cases b<;>rfl
theorem SJ(a b:Int):decide (V.int a=V.int b)=decide (a=b):=by simp
theorem pY{a:ϊ V}{k:Int}(h:0<=k):gP a none (!k)=a.take k.toNat:=by
 unfold gP;change(a.drop 0).take ((if k<0 then(k+(↑a:Int)).toNat else min k.toNat ↑a)-0)=_;rw[if_neg (),List.drop_zero,Ŷ];rcases Nat.le_total k.toNat ↑a with q|q
 .rw [ň q]
 .rw [Ų q,è<|Ã _,è q]
theorem xG{a:ϊ V}{k:Int}(h:0<=k):gP a (!k) none=a.drop k.toNat:=by
 unfold gP;change(a.drop<|if k<0 then(k+(↑a:Int)).toNat else min k.toNat ↑a).take (↑a-(if k<0 then(k+(↑a:Int)).toNat else min k.toNat ↑a))=_;rw[if_neg ()];rcases Nat.le_total k.toNat ↑a with q|q
 .rw [ň q,è<|by rw[ú];rfl']
 .rw [Ų q,ŏ<|Ã _,ŏ q];simp
theorem Fj{a:ϊ V}{k:Int}(h:0<=k)(b:0<=j):gP a (!k) (!j)=(a.take j.toNat).drop k.toNat:=by
 unfold gP;change(a.drop<|if k<0 then(k+(↑a:Int)).toNat else min k.toNat ↑a).take ((if j<0 then(j+(↑a:Int)).toNat else min j.toNat ↑a)-(if k<0 then(k+(↑a:Int)).toNat else min k.toNat ↑a))=_;rw[if_neg<|Int.not_lt.mpr h,if_neg<|Int.not_lt.mpr b,List.drop_take];generalize k.toNat=k;generalize j.toNat=j;rcases Nat.le_total k ↑a with c|c
 .rw [ň c,List.take_eq_take_iff,ú];rcases Nat.le_total j ↑a with d|d
  .rw [ň d]
  .rw [Ų d,Nat.min_self,Ų<|Nat.sub_le_sub_right d k]
 .rw [Ų c,ŏ<|Ã _,ŏ c,List.take_nil,List.take_nil]
theorem lU(i:Int)(a:ϊ Int):inV (.int i) (a.map V.int)=decide (i∈a):=by
 unfold inV;rw[List.any_map];induction a with
 |nil=>simp
 |cons n r ih=>
  rw[ε,ih];by_cases h:n=i
  .subst h;simp[Od]
  .simp [Od,h,Ne.symm h]
theorem lV(a:ϊ Int):(a.map V.int).all jg=true:=by
 rw[List.all_map];simp[Function.comp_def,jg]
theorem zJ{c:Type}{a:ϊ c}(d:0<=i)(b:i.toNat<↑a):vW a i=!a[i.toNat]:=by
 have e:=aH (xs:=a) (j:=i.toNat) (v:=a[i.toNat])<|Zl b;rwa[show((i.toNat:Nat):Int)=i by rfl']at e
theorem QF(a:ϊ Nat):a.map (λi:Nat=>V.int (i:Int))=(a.map λi:Nat=>(i:Int)).map V.int:=by rw[Ä];rfl
section
def SM{t:TS}(h:t {D with nx:=u D} σ H):az t u D σ H:=h
def YF(h:te σ H λx H1=>g x σ H1 D.nx):aL te g D σ H:=h
def YG(h:te σ H D.rt):aP te D σ H:=h
def V7(h:D.nx σ H):aU D σ H:=h
def V8(h:te σ H λ_ H1=>D.nx σ H1):cL te D σ H:=h
def YH{c:TT}{t:TS}(h:c σ H λb H1=>if b=true then t D σ H1 else u D σ H1):bH c t u D σ H:=h
def YJ{i:Nat}(e:σ[i]?=!(!v))(h:Q v H):gA i σ H Q:=#[v,e,h]
def s_c(h:Q v H):tC v σ H Q:=h
def a1r{r:R2}(h:ta σ H λx H1=>tb σ H1 λy H2=>r x y H2 Q):aO r ta tb σ H Q:=h
def a1s{r:V->Hp->VK->Prop}(h:ta σ H λx H1=>r x H1 Q):RT r ta σ H Q:=h
def a1t{r:ϊ V->Hp->VK->Prop}(h:t σ H λvs H1=>r vs H1 Q):gY r t σ H Q:=h
theorem s_call(h:t σ H λvs H1=>sp vs H1 Q E):nH sp [] E t σ H Q:=by
 unfold nH;simpa only[í]using h
def QG{a:ϊ V}(h:t σ H λvs H1=>sp (vs++a) H1 Q E):nH sp a E t σ H Q:=h
def YK{R:ϊ V->Hp->Prop}(h:R [] H):gf σ H R:=h
def V9{a:TA}{R:ϊ V->Hp->Prop}(h:ta σ H λx H1=>a σ H1 λxs H2=>R (x::xs) H2):eN ta a σ H R:=h
def Va(h:te σ H λx H'=>∃k,x=.bl k/\R k H'):aQ te σ H R:=h
def YL(h:te σ H λx H'=>∃k,Gj K x H' k/\R k H'):fB K te σ H R:=h
def a1u{b:ϑ}{R:ϑ->Prop}(h:R b):∃k,V.bl b=.bl k/\R k:=#[b,rfl,h]
def YM{b:ϑ}{R:ϑ->Prop}(h:R b):∃k,Gj K (.bl b) H k/\R k:=#[b,rfl,h]
def Vb{R:ϑ->Prop}(h:R<|i !=0):∃k,Gj K (.int i) H k/\R k:=#[_,rfl,h]
def YQ{t:TT}(h:t σ H λc H1=>R (not c) H1):eQ t σ H R:=h
def YS{t u:TT}(h:t σ H λc H1=>if c=true then u σ H1 R else R false H1):tK t u σ H R:=h
def a1v{t u:TT}(h:t σ H λc H1=>if c=true then R true H1 else u σ H1 R):yp t u σ H R:=h
def Vc(h:ta σ H λx H1=>∃c,x=.bl c/\if c=true then tb σ H1 Q else Q (.bl false) H1):gU ta tb σ H Q:=h
def YT(h:ta σ H λx H1=>∃c,x=.bl c/\if c=true then Q (.bl true) H1 else tb σ H1 Q):Tz ta tb σ H Q:=h
def Vd(h:ta σ H λx H1=>∃c,x=.bl c/\Q (.bl<|not c) H1):Ef ta σ H Q:=h
def a1w{t:TT}(h:t σ H λc H1=>if c=true then ta σ H1 Q else tb σ H1 Q):XM t ta tb σ H Q:=h
def YW(h:R true H):du σ H R:=h
def QH{i:Nat}{R:St->Hp->Prop}(h:R (σ.set i !v) H):ak i v σ H R:=h
def Ve{R:St->Hp->Prop}(h:R σ H):gK [] σ H R:=#[rfl,h]
def QJ{t:TG}{u:Ob}{r:ϊ V}{R:St->Hp->Prop}(h:t v σ H λσ' H'=>u r σ' H' R):bf t u (v::r) σ H R:=#[v,r,rfl,h]
def cP{t:Ob}{b:ϊ V}{R:St->Hp->Prop}(d:SqT K H a b)(c:↑b=n)(h:t b σ H R):gB K n t (.ref a) σ H R:=#[a,b,rfl,d,c,h]
def Vf{a:TE}{t:Oq}{R:St->Hp->Prop}(h:to σ H λo H1=>a σ H1 λi H2=>t o i v H2 λb=>R σ b):Ge to a t v σ H R:=h
def YX{i:Nat}{a:XN}(e:σ[i]?=!(!x))(h:te σ H λy H1=>a x y H1 λz H2=>D.nx (σ.set i !z) H2):Ot i te a D σ H:=#[x,e,h]
def a1x{f:Int->Int->Int}(h:Q (.int<|f i j) H):ipI f (.int i) (.int j) H Q:=#[i,j,rfl,rfl,h]
def YZ(h:Q (f i j) H):tM f (.int i) (.int j) H Q:=#[i,j,rfl,rfl,h]
def a1y(c:C i j)(h:Q (f i j) H):rI C f (.int i) (.int j) H Q:=#[i,j,rfl,rfl,c,h]
def a1z{f:Int->V}(h:Q (f i) H):rU f (.int i) H Q:=#[i,rfl,h]
theorem Z0(h:Q (.bl<|decide<|i=j) H):vQ (.int i) (.int j) H Q:=#[rfl,by rw[SJ];show h]
theorem Z1(h:Q (.bl<|not (decide<|i=j)) H):yz (.int i) (.int j) H Q:=#[rfl,by rw[SJ];show h]
def a2a(e:TX x y=true)(h:Q (.bl<|not (decide<|x=y)) H):yz x y H Q:=#[e,h]
def Z2(h:t σ H λxs H1=>↑xs<=sizeLine/\∀p,H1 p=none->Q (.ref p) (upd H1 p (.tup xs))):dG t σ H Q:=h
def Z3(h:t σ H λxs H1=>↑xs<=sizeLine/\∀p,H1 p=none->Q (.ref p) (upd H1 p (.lst xs))):gO t σ H Q:=h
def Z4{a b:St}{P:Prop}(e:pG a b)(h:P):pG a b/\P:=#[e,h]
def Z5{P:Prop}(e:n<=1000)(h:P):n<=sizeLine/\P:=#[small e,h]
def a2b{r:V->ύ Int->ύ Int->Hp->VK->Prop}{b a:TO}(h:te σ H λx H1=>b σ H1 λl H2=>a σ H2 λu c=>r x l u c Q):vV r te b a σ H Q:=h
def Kr{R:ύ Int->Hp->Prop}(h:R none H):cO σ H R:=h
def Vg{t:TE}{R:ύ Int->Hp->Prop}(h:t σ H λx H1=>∃i,x=.int i/\R (!i) H1):dN t σ H R:=h
def Vh{R:Int->Prop}(h:R i):∃k,V.int i=.int k/\R k:=#[i,rfl,h]
def a2c(h:to σ H λx H1=>RW K T x H1/\t σ H1 λxs H2=>r x xs H2 Q):rC K T r to t σ H Q:=h
def Z6(h:to σ H λx H1=>RW K T x H1/\r x [] H1 Q):Gr K T r to σ H Q:=h
def eO{b:ϊ V}{P:Prop}(e:SqL K H a b)(h:P):RW K "list" (.ref a) H/\P:=#[.inl #[rfl,b,e],h]
def Z7{P:Prop}(h:P):RW K "int" (.int i) H/\P:=#[rfl,h]
def Z8{x:ϐ}{P:Prop}(h:P):RW K "str" (.str x) H/\P:=#[rfl,h]
def Ks(h:Q (.int<|Builtin.Int.intBits i) H):pJ (.int i) [] H Q:=#[i,rfl,rfl,h]
def oE(g:TG)(tb:TS)(D:Ends)(σ:St):It->Hp->Prop:=λJ H1=>∃W:Nat->Nat->St->Hp->Prop,(∃m,W 0 m σ H1)/\∀i m σ H,W i m σ H->
 (J.stop i H/\D.nx σ H)\/(J.go i H/\∃N:St->Hp->Prop,(∀σ' H',N σ' H'->∃m',m'<m/\W (i+1) m' σ' H')/\∀x H',J.yld i H x H'->g x σ H' λσ2 H2=>tb {D with nx:=N,ct:=N,bk:=D.nx} σ2 H2)
def Z9{a:TS}(h:wi σ H<|oE g a D σ):cC wi g a D σ H:=h
def Fl(κ:ϊ (ύ Nat))(g:TG)(tc:TT)(te:TE)(σ:St)(Q:VK):It->Hp->Prop:=λJ H1=>∃W:Nat->Nat->ϊ V->Hp->Prop,(∃m,W 0 m [] H1)/\∀i m ys H,W i m ys H->
 (J.stop i H/\∀p,H p=none->Q (.ref p) (upd H p (.lst ys)))\/
 (J.go i H/\↑ys<sizeLine/\∃N:ϊ V->Hp->Prop,(∀ys' H',N ys' H'->∃m',m'<m/\W (i+1) m' ys' H')/\∀x H',J.yld i H x H'->g x (cap κ σ) H' λσ2 H2=>pG (cap κ σ) σ2/\tc σ2 H2 λb H3=>if b=true then te σ2 H3 λy H4=>N (ys++[y]) H4 else N ys H3)
def a2d{a:TT}(h:wi σ H<|Fl κ g a te σ Q):m6 κ wi g a te σ H Q:=h
def iL(K:Ϗ)(R:It->Hp->Prop)(x:V)(H:Hp):Prop:=∃a,x=.ref a/\(∃xs,SqL K H a xs)/\R (Ou K a) H
def iT(K:Ϗ)(R:It->Hp->Prop)(x:V)(H:Hp):Prop:=∃a,x=.ref a/\(∃xs,SqT K H a xs)/\R (XQ K a) H
def iR(R:It->Hp->Prop)(vs:ϊ V)(H:Hp):Prop:=∃j:Int,vs=[.int j]/\-(2^62)<=j/\j<2^62/\R (yq 0 j.toNat) H
def iR2(R:It->Hp->Prop)(vs:ϊ V)(H:Hp):Prop:=∃i j:Int,vs=[.int i,.int j]/\(-(2^62)<=i/\i<2^62/\-(2^62)<=j/\j<2^62)/\R (yq i (j-i).toNat) H
def QK{R:It->Hp->Prop}(h:tl σ H<|iL K R):cB K tl σ H R:=h
def Vi{R:It->Hp->Prop}(h:tl σ H<|iT K R):nY K tl σ H R:=h
def QL{a:TA}{R:It->Hp->Prop}(h:a σ H<|iR R):eG a σ H R:=h
def QM{a:TA}{R:It->Hp->Prop}(h:a σ H<|iR2 R):Il a σ H R:=h
def iS(R:It->Hp->Prop)(x:V)(H:Hp):Prop:=∃z,x=.str z/\R (Its z) H
def Vj{R:It->Hp->Prop}(h:tl σ H<|iS R):GK tl σ H R:=h
end
section
variable{σ:St}{H:Hp}{Q:VK}{D:Ends}{K:Ϗ}{g:TG}{tb:TS}{κ:ϊ (ύ Nat)}{tc:TT}{te:TE}
theorem gn{f:Type}(c:f->V){zs:ϊ f}(n:SqL K H a (zs.map c))(b:Nat->St->Hp->Prop)(j:b 0 σ H)(l:∀i σ H',b i σ H'->SqL K H' a (zs.map c))
  (m:∀(i:Nat) z σ H',zs[i]?=!z->b i σ H'->g (c z) σ H' λd H2=>tb {D with nx:=b (i+1),ct:=b (i+1),bk:=D.nx} d H2) (k:∀σ H',b ↑zs σ H'->D.nx σ H'):iL K (oE g tb D σ) (.ref a) H:=by
 show#[a,rfl,#[_,n],Im (K:=K) (a:=a) (xs:=zs.map c) b j (λi σ H _ h=>l i σ H h) ?_ ?_]
 .intro i x σ H' e p;rw[À]at e;let#[z,o,rfl]:=Î.mp e;show m i z σ H' o p
 .intro σ H' p;rw[Qb]at p;show k σ H' p
theorem sV{f:Type}(c:f->V){zs:ϊ f}(n:SqT K H a (zs.map c))(b:Nat->St->Hp->Prop)(j:b 0 σ H)(l:∀i σ H',b i σ H'->SqT K H' a (zs.map c))
  (m:∀(i:Nat) z σ H',zs[i]?=!z->b i σ H'->g (c z) σ H' λd H2=>tb {D with nx:=b (i+1),ct:=b (i+1),bk:=D.nx} d H2) (k:∀σ H',b ↑zs σ H'->D.nx σ H'):iT K (oE g tb D σ) (.ref a) H:=by
 show#[a,rfl,#[_,n],Ow (K:=K) (a:=a) (xs:=zs.map c) b j (λi σ H _ h=>l i σ H h) ?_ ?_]
 .intro i x σ H' e p;rw[À]at e;let#[z,o,rfl]:=Î.mp e;show m i z σ H' o p
 .intro σ H' p;rw[Qb]at p;show k σ H' p
theorem kJ{n:Int}(m:Nat)(e:n.toNat=m)(j:m<=1000000000)(k:-1000000000<=n)(a:Nat->St->Hp->Prop)(c:a 0 σ H)
  (h:∀(i:Nat) σ H',i<m->a i σ H'->g (.int (i:Int)) σ H' λb H2=>tb {D with nx:=a<|i+1,ct:=a<|i+1,bk:=D.nx} b H2) (d:∀σ H',a m σ H'->D.nx σ H'):iR (oE g tb D σ) [.int n] H:=by
 show#[n,rfl,(),(),?_];rw[e];show qU a c (λi σ H' f p=>?_) d;rw[Int.zero_add];show h i σ H' f p
theorem Vk{lo n:Int}(m:Nat)(e:(n-lo).toNat=m)(l:n<=1000000000)(o:-1000000000<=n)(j:-1000000000<=lo)(c:lo<=1000000000)(a:Nat->St->Hp->Prop)(d:a 0 σ H)
  (k:∀(i:Nat) σ H',i<m->a i σ H'->g (.int<|lo+i) σ H' λb H2=>tb {D with nx:=a<|i+1,ct:=a<|i+1,bk:=D.nx} b H2) (f:∀σ H',a m σ H'->D.nx σ H'):iR2 (oE g tb D σ) [.int lo,.int n] H:=by
 show#[lo,n,rfl,#[(),(),(),()],?_];rw[e];show qU a d (λi σ H' h p=>k i σ H' h p) f
theorem Hy{n:Int}(m:Nat)(e:n.toNat=m)(l:m<=1000000)(r:-1000000000<=n)(a:Nat->ϊ V->Hp->Prop)(h:a 0 [] H)(q:∀i ys H',a i ys H'->↑ys<=i)
  (o:∀(i:Nat) ys H',i<m->a i ys H'->g (.int (i:Int)) (cap κ σ) H' λc H2=>pG (cap κ σ) c/\tc c H2 λb d=>if b=true then te c d λy f=>a (i+1) (ys++[y]) f else a (i+1) ys d)
  (j:∀ys H',a m ys H'->∀p,H' p=none->Q (.ref p) (upd H' p (.lst ys))):iR (Fl κ g tc te σ Q) [.int n] H:=by
 show#[n,rfl,(),(),?_];rw[e];show Jg a h (Ð l (by decide)) q (λi ys H' k p=>?_) j;rw[Int.zero_add];show o i ys H' k p
theorem Za{n:Int}(m:Nat)(e:n.toNat=m)(l:m<=1000000)(o:-1000000000<=n)(f:Nat->ύ V)
  (r:∀i,i<m->∀(A:VK)(B:Hp->Prop),(∀y,f i=!y->A y H)->(f i=none->B H)->g (.int (i:Int)) (cap κ σ) H λa H2=>pG (cap κ σ) a/\tc a H2 λb d=>if b=true then te a d A else B d)
  (j:∀p,H p=none->Q (.ref p) (upd H p (.lst ((List.range m).filterMap f)))):iR (Fl κ g tc te σ Q) [.int n] H:=by
 show Hy m e l o (λi c h=>h=H/\c=(List.range i).filterMap f) #[rfl,rfl] ?_ ?_ ?_
 .rintro i c _ ⟨rfl,rfl⟩;show Ð (Ŀ _ _) (by simp)
 .rintro i c _ k ⟨rfl,rfl⟩;show r i k _ _ (λy e=>#[rfl,?_]) (λe=>#[rfl,?_])
  .rw [Ŋ,Mm.dW,e];rfl
  .rw [Ŋ,Mm.dW,e];simp
 .rintro c _ ⟨rfl,rfl⟩ p q;show j p q
theorem Zb{n:Int}(m:Nat)(e:n.toNat=m)(l:m<=1000000)(o:-1000000000<=n)(f:Nat->V)
  (s:∀i,i<m->∀(A:VK),A (f i) H->g (.int (i:Int)) (cap κ σ) H λa H2=>pG (cap κ σ) a/\te a H2 A)
  (j:∀p,H p=none->Q (.ref p) (upd H p (.lst ((List.range m).map f)))):iR (Fl κ g du te σ Q) [.int n] H:=by
 show Hy m e l o (λi b c=>c=H/\b=(List.range i).map f) #[rfl,rfl] ?_ ?_ ?_
 .rintro i b _ ⟨rfl,rfl⟩;simp
 .rintro i b c k ⟨h,rfl⟩;subst h;have q:=s i k (λy d=>d=c/\(List.range i).map f++[y]=(List.range (i+1)).map f) #[rfl,by rw[Ŋ,Á];rfl];simpa only[du,ĳ]using q
 .rintro b _ ⟨rfl,rfl⟩ p r;show j p r
theorem xH{k:Type}(c:k->V){zs:ϊ k}(s:SqL K H a (zs.map c))(q:↑zs<=1000000)(d:Nat->ϊ V->Hp->Prop)(m:d 0 [] H)(o:∀i ys H',d i ys H'->SqL K H' a (zs.map c))(f:∀i ys H',d i ys H'->↑ys<=i)
  (r:∀(i:Nat) z ys H',zs[i]?=!z->d i ys H'->g (c z) (cap κ σ) H' λe H2=>pG (cap κ σ) e/\tc e H2 λb h=>if b=true then te e h λy l=>d (i+1) (ys++[y]) l else d (i+1) ys h)
  (n:∀ys H',d ↑zs ys H'->∀p,H' p=none->Q (.ref p) (upd H' p (.lst ys))):iL K (Fl κ g tc te σ Q) (.ref a) H:=by
 show#[a,rfl,#[_,s],PB (K:=K) (a:=a) (xs:=zs.map c) d m (by rw[Qb];show Ð q (by decide)) (λi ys H' _ p=>o i ys H' p) f ?_ ?_]
 .intro i x ys H' j p;rw[À]at j;let#[z,f,rfl]:=Î.mp j;show r i z ys H' f p
 .intro ys H' p;rw[Qb]at p;show n ys H' p
theorem Fp{h:Type}(c:h->V){zs:ϊ h}(j:SqL K H a (zs.map c))(r:↑zs<=1000000)(f:h->V)
  (t:∀(i:Nat) z,zs[i]?=!z->∀(A:VK),A (f z) H->g (c z) (cap κ σ) H λd H2=>pG (cap κ σ) d/\te d H2 A)
  (o:∀p,H p=none->Q (.ref p) (upd H p (.lst (zs.map f)))):iL K (Fl κ g du te σ Q) (.ref a) H:=by
 show xH c j r (λi b e=>e=H/\b=(zs.take i).map f) #[rfl,rfl] ?_ ?_ ?_ ?_
 .rintro i b _ ⟨rfl,_⟩;show j
 .rintro i b _ ⟨rfl,rfl⟩;rw[Qb,Ñ];rfl'
 .rintro i z b e k ⟨m,rfl⟩;subst m;have n:zs.take (i+1)=zs.take i++[z]:=by rw[Ò,k];rfl
  have q:=t i z k (λy l=>l=e/\(zs.take i).map f++[y]=(zs.take (i+1)).map f) #[rfl,by rw[n,Á];rfl];simpa only[du,ĳ]using q
 .rintro b _ ⟨rfl,rfl⟩ p s;rw[Þ];show o p s
end
section
variable{σ:St}{H:Hp}{D:Ends}{g:TG}{tb:TS}
theorem Ku{z:ϐ}(a:Nat->St->Hp->Prop)(j:a 0 σ H)
  (l:∀(i:Nat) c σ H',z.cps[i]?=!c->a i σ H'->g (.str #[([c].toArray)]) σ H' λd H2=>tb {D with nx:=a<|i+1,ct:=a<|i+1,bk:=D.nx} d H2) (k:∀σ H',a z.cps.size σ H'->D.nx σ H'):iS (oE g tb D σ) (.str z) H:=by
 show#[z,rfl,λi m σ H=>m=z.cps.size-i/\i<=z.cps.size/\a i σ H,#[z.cps.size,by simp,â _,j],?_];rintro i m σ H ⟨rfl,q,p⟩;by_cases b:i<z.cps.size
 .show .inr #[b,a<|i+1,λo H' n=>#[z.cps.size-(i+1),(),rfl,b,n],λx H' y=>?_];let#[e,c,f,h]:=y;subst e h;show l i c σ _ f p
 .have e:i=z.cps.size:=()
  subst e;show .inl #[rfl,k σ H p]
end
def Thing(H:Hp):V->Prop
 |.non=>True
 |.bl _=>True
 |.int _=>True
 |.str x=>↑x<=100000
 |.ref a=>(∃xs,H a=!(.lst xs))\/(∃xs,H a=!(.tup xs))\/∃kvs,H a=!(.dK kvs)
 |_=>False
noncomputable def isI:V->ϑ
 |.int _=>true
 |_=>false
theorem Thing.ty:∀{x:V},Thing H x->(∃b,x=.bl b)\/(∃i,x=.int i)\/(∃s:ϐ,x=.str s/\↑s<=100000)\/∃n:String,TyOf K H x (.type n)/\(n="NoneType"\/n="list"\/n="tuple"\/n="dict")/\isI x=false/\(∀s,x≠.str s)
 |.non,_=>.inr<|.inr<|.inr #[_,.non,.inl rfl,rfl,λ_ e=>nomatch e]
 |.bl b,_=>.inl #[b,rfl]
 |.int i,_=>.inr<|.inl #[i,rfl]
 |.str s,h=>.inr<|.inr<|.inl #[s,rfl,h]
 |.ref a,h=>.inr<|.inr<|.inr<|h.elim (λ⟨c,e⟩=>#[_,.lst e,.inr<|.inl rfl,rfl,λ_ e=>nomatch e]) λh=>h.elim (λ⟨c,e⟩=>#[_,.tup e,.inr<|.inr<|.inl rfl,rfl,λ_ e=>nomatch e]) λ⟨c,e⟩=>#[_,.dK e,.inr<|.inr<|.inr rfl,rfl,λ_ e=>nomatch e]
def dI{t:ϋ}{b:ϑ}(a:TyOf K H x t)(e:PySem.W.kitOne K t (.type T)=!b)(h:Q (.bl b) H):dF K [x,.ty T] H Q:=#[T,x,t,b,rfl,a,e,h]
section
theorem Kv(a b:ϐ):decide (V.str a=V.str b)=decide (a=b):=by simp
theorem Zc{a b:ϐ}(h:Q (.bl<|decide<|a=b) H):vQ (.str a) (.str b) H Q:=#[rfl,by rw[Kv];show h]
theorem Zd{a b:ϐ}(h:Q (.bl<|not (decide<|a=b)) H):yz (.str a) (.str b) H Q:=#[rfl,by rw[Kv];show h]
def Ze{i j:ϐ}(h:Q (.bl<|not (decide<|j.cps.toList<i.cps.toList)) H):pI (.str i) (.str j) H Q:=#[i,j,rfl,rfl,h]
theorem mR{i j:ϐ}(e:↑i+↑j<=1000000)(h:Q (.str<|i++j) H):eX (.str i) (.str j) H Q:=#[i,j,rfl,rfl,Ð e<|by decide,h]
def cg{b:ϊ V}(e:SqL K H a b)(h:Q (.int ↑b) H):yQ K [.ref a] H Q:=#[_,_,rfl,.inl #[b,e,rfl],h]
def cj{b:ϊ V}(e:SqT K H a b)(h:Q (.int ↑b) H):yQ K [.ref a] H Q:=#[_,_,rfl,.inr #[b,e,rfl],h]
theorem uE{x:ϐ}(e:↑x<=1000000)(h:Q (.int ↑x) H):yQ K [.str x] H Q:=#[_,_,rfl,#[Nat.le_trans e<|by decide,rfl],h]
def Zf{x:ϐ}(e:↑x=1)(h:Q (.int (x.cps.getD 0 0:Nat)) H):S9 [.str x] H Q:=#[x,rfl,e,h]
def di{b:ϊ V}(e:SqL K H a b)(c:vW b i=!v)(h:Q v H):fu K (.ref a) (.int i) H Q:=#[a,b,i,v,rfl,rfl,e,c,h]
def cM{b:ϊ V}(e:SqT K H a b)(c:vW b i=!v)(h:Q v H):jV K (.ref a) (.int i) H Q:=#[a,b,i,v,rfl,rfl,e,c,h]
theorem sW{x:ϐ}(e:↑x<=1000000)(a:vW x.cps.toList i=!c)(h:Q (.str #[([c].toArray)]) H):vX (.str x) (.int i) H Q:=#[x,i,c,rfl,rfl,Ð e<|by decide,a,h]
def QQ(h:∀p,H p=none->Q (.ref p) (upd H p (.dK []))):iQ σ H Q:=h
def QR(h:∀p,H p=none->tk σ (upd H p (.dT [])) λx H1=>tv σ H1 λv H2=>H2 p=!(.dT [])/\∃k b,x=.ref b/\H2 b=!(.tup (k.map kV))/\Q (.ref p) (upd H2 p (.dT [(k,v)]))):z6 tk tv σ H Q:=h
def QS(h:∀p,H p=none->tk σ (upd H p (.dK [])) λx H1=>tv σ H1 λy H2=>H2 p=!(.dK [])/\∃kvs:ϊ (Key×V),[(x,y)]=kvs.map (λa=>(kV a.1,a.2))/\↑kvs<=15/\Q (.ref p) (upd H2 p (.dK (iU [] kvs)))):Ep [(tk,tv)] σ H Q:=h
def QT(h:∀p,H p=none->Q (.ref p) (upd H p (.dT []))):yM σ H Q:=h
def uF{c:TT}(a:St->Hp->Prop)(e:St->Hp->Nat)(h:a σ H)
  (i:∀σ H,a σ H->c σ H λb H1=>if b=true then g {D with nx:=λσ' H'=>a σ' H'/\e σ' H'<e σ H,ct:=λσ' H'=>a σ' H'/\e σ' H'<e σ H,bk:=D.nx} σ H1 else D.nx σ H1)
  (d:∀σ H Q f,(∀b H1,Q b H1->f b H1)->c σ H Q->c σ H f):gM c g D σ H:=vP a e h i d
end
section
variable{σ:St}{H:Hp}{Q:VK}{R:ϑ->Hp->Prop}{b c:ϑ}
theorem Vl(a:∀R:VK,R (.bl b) H->ta σ H R)(d:∀R:VK,R (.bl c) H->tb σ H R)(h:Q (.bl<|b&&c) H):gU ta tb σ H Q:=by
 show a _ #[b,rfl,?_]
 cases b with
 |true=>rw[if_pos rfl];rw[Ε]at h;show d _ h
 |false=>rw[if_neg Í];rw[Œ]at h;show h
theorem QV{t u:TT}(a:∀R:ϑ->Hp->Prop,R b H->t σ H R)(d:∀R:ϑ->Hp->Prop,R c H->u σ H R)(h:R (b&&c) H):tK t u σ H R:=by
 show a _ ?_
 cases b with
 |true=>rw[if_pos rfl];rw[Ε]at h;show d _ h
 |false=>rw[if_neg Í];rw[Œ]at h;show h
theorem Kw{r a:R2}{d:TE}{z:V}(e:∀R:VK,R x H->ta σ H R)(f:∀R:VK,R y H->tb σ H R)(g:∀R:VK,R z H->d σ H R)(i:∀R:VK,R (.bl b) H->r x y H R)(j:∀R:VK,R (.bl c) H->a y z H R)(h:Q (.bl<|b&&c) H):fH r a ta tb d σ H Q:=by
 show e _<|f _<|i _ #[b,rfl,?_]
 cases b with
 |true=>rw[if_pos rfl];rw[Ε]at h;show g _<|j _ h
 |false=>rw[if_neg Í];rw[Œ]at h;show h
end
def Sb(ps:ϊ ό)(H H':Hp):Prop:=∀b o,b∉ps->H b=!o->H' b=!o
theorem Sb.of{a:ϊ ό}(s:Same H H'):Sb a H H':=λb o _ e=>s b o e
theorem Sb.same{c:ϊ ό}{a:Hp}(e:Sb c H H1)(s:Same H1 a):Sb c H a:=λb o n q=>s b o<|e b o n q
def Sb.new{a:ϊ ό}(e:Sb a H H1)(h:H1 p=none):Sb a H (upd H1 p o):=e.same<|aq h o
theorem Sb.set{a:ϊ ό}(e:Sb a H H1)(h:p∈a):Sb a H (upd H1 p o):=λb u n q=>by
 rw[ao<|show b≠p fromλz=>n<|by rw[z];show h];show e b u n q
def Sb.get{b:ϊ ό}(e:Sb b H H1)(n:a∉b)(h:H a=!o):H1 a=!o:=e a o n h
theorem Sb.more{a:ϊ ό}(e:Sb a H H1)(h:∀p∈a,p∈qs):Sb qs H H1:=λb o n q=>e b o (λz=>n<|h b z) q
theorem Sb.seq{b:ϊ ό}{d:ϊ V}(e:Sb b H H1)(f:∀p∈b,H p=none)(h:SqL K H a d):SqL K H1 a d:=by
 have c:∀o,H a=!o->a∉b:=λo q z=>by rw[f a z]at q;cases q
 rcases h with(h|⟨o,h⟩)|h
 .show .inl<|.inl<|e a _ (c _ h) h
 .show .inl<|.inr #[o,e a _ (c _ h) h]
 .show .inr h
theorem Sb.at{c:ϊ ό}{H b:Hp}{a:ό}(e:Sb c H b)(d:∀p∈c,H p=none)(h:H a=!o):b a=!o:=e a o (λz=>by rw[d a z]at h;cases h) h
section
def Zg{ns:ϊ Int}(e:SqL K H a<|ns.map V.int)(h:Q (.int ns.sum) H):Uq K [.ref a] H Q:=#[a,ns,rfl,e,h]
def Zh(h:Q (.int<|if j<i then j else i) H):Jq [.int i,.int j] H Q:=#[i,j,rfl,h]
def pZ{a:ϊ V}(e:SqL K H p a)(h:∀l,H l=none->Q (.ref l) (upd H l (.lst a))):j5 K [.ref p] H Q:=#[p,a,rfl,.inl e,h]
theorem jA{a:ϊ V}(e:H l=!(.lst a))(n:↑a<=1000000)(h:Q .non<|upd H l<|.lst<|a++[y]):d7 (.ref l) [y] H Q:=#[l,a,y,rfl,rfl,e,Ý n<|by decide,h]
theorem uG{a:ϊ V}{k:Int}{R:Hp->Prop}(j:Nat)(e:H l=!(.lst a))(b:k=(j:Int))(c:j<↑a)(h:R<|upd H l<|.lst<|a.set j v):rB (.ref l) (.int k) v H R:=by
 show#[l,a,k,j,rfl,rfl,e,?_,h];subst b;unfold Oc;rw[if_pos (),if_pos ()];simp
end
mutual
theorem eqv_refl:∀d:PyData,d.canLay0=true->PyData.eqv d d=true
 |.none,_=>by simp[PyData.eqv]
 |.bool b,_=>by simp[PyData.eqv]
 |.int i,_=>by simp[PyData.eqv]
 |.str x,_=>by simp[PyData.eqv]
 |.list xs,h=>by
  simp only[PyData.eqv];show eqvAll_refl xs<|by simpa only[PyData.canLay0]using h
 |.tuple xs,h=>by
  simp only[PyData.eqv];show eqvAll_refl xs<|by simpa only[PyData.canLay0]using h
 |.dict kvs,h=>by simp[PyData.canLay0]at h
theorem eqvAll_refl:∀ds:ϊ PyData,PyData.canLayAll0 ds=true->PyData.eqvAll ds ds=true
 |[],_=>by simp[PyData.eqvAll]
 |d::r,h=>by
  simp only[PyData.canLayAll0,ā]at h;simp only[PyData.eqvAll,eqv_refl d h.1,eqvAll_refl r h.2,Bool.and_self]
end
def Sh(n:Nat)(d:PyData):Prop:=d.canLay0=true/\d.depth<=n
theorem zK{n:Nat}:∀{ds:ϊ PyData},(∀d∈ds,Sh n d)->PyData.canLayAll0 ds=true/\PyData.depthAll ds<=n
 |[],_=>#[by simp[PyData.canLayAll0],by simp[PyData.depthAll]]
 |d::r,h=>by
  let#[a,f]:=h d Ì;let#[b,g]:=zK (ds:=r) λe c=>h e<|Ç _ c
  show#[by simp[PyData.canLayAll0,a,b],by simp only[PyData.depthAll];rfl']
theorem QW(h:∀d∈ds,Sh n d):Sh (n+1) (.list ds):=by
 let#[a,b]:=zK h;show#[by simp only[PyData.canLay0];show a,by simp only[PyData.depth];rfl']
theorem jc(h:∀d∈ds,Sh n d):Sh (n+1) (.tuple ds):=by
 let#[a,b]:=zK h;show#[by simp only[PyData.canLay0];show a,by simp only[PyData.depth];rfl']
theorem fK(n:Nat)(i:Int):Sh n (.int i):=#[by simp[PyData.canLay0],by simp[PyData.depth]]
theorem QX(b:ϊ Int):Sh 1 (.list<|b.map PyData.int):=QW λd a=>by
 let#[i,_,rfl]:=Zp.mp a;show fK 0 i
theorem Sh.shaped(h:Sh n d)(a:n<=64):SeqAt.shaped d=true:=by
 unfold SeqAt.shaped;rw[h.1,Ï<|Ð h.2 a];rfl
section
variable{n:Nat}
theorem rNeD.same(c:Dp K H x d)(e:Dp K H y d)(a:Sh n d)(b:n<=64)(q:Q (.bl false) H):rNeD K x y H Q:=#[d,d,c,e,a.shaped b,a.shaped b,by rw[eqv_refl d a.1];show q]
theorem Dp.nats{b:ϊ Nat}(h:SqL K H a (b.map λi:Nat=>V.int (i:Int))):Dp K H (.ref a) (.list<|(b.map λi:Nat=>(i:Int)).map PyData.int):=Dp.ints<|by rw[<-QF];show h
theorem Zi{b:ό}{a c:ϊ V}(d:H l=!(.lst a))(e:H b=!(.lst c))(f:↑a+↑c<=1000000)(h:∀p,H p=none->Q (.ref p) (upd H p (.lst (a++c)))):Ug (.ref l) (.ref b) H Q:=#[l,b,a,c,rfl,rfl,d,e,Ð f (by decide),h]
def xJ{b:ϊ V}(e:SqL K H a b)(h:∀p,H p=none->Q (.ref p) (upd H p (.lst (gP b lo hi)))):vY K (.ref a) lo hi H Q:=#[a,b,rfl,e,h]
end
theorem Sb.off{a:ϊ ό}(e:Sb a H H')(c:∀p∈a,H p=none):Same H H':=λb o q=>e.at c q
def SpL(K:Ϗ)(H:Hp)(q:ό)(ss:ϊ<|Int×Int):Prop:=∃zs:ϊ<|ό×Int×Int,zs.map (·.2)=ss/\SqL K H q (zs.map λz=>V.ref z.1)/\∀z∈zs,SqT K H z.1 [.int z.2.1,.int z.2.2]
theorem Sb.tup{b:ϊ ό}{K:Ϗ}{d:ϊ V}(e:Sb b H H1)(f:∀p∈b,H p=none)(h:SqT K H a d):SqT K H1 a d:=by
 have c:∀o,H a=!o->a∉b:=λo q z=>by rw[f a z]at q;cases q
 rcases h with(h|⟨o,h⟩)|h
 .show .inl<|.inl<|e a _ (c _ h) h
 .show .inl<|.inr #[o,e a _ (c _ h) h]
 .show .inr h
def Vm(e:SqL K H a xs)(h:Q (.int ↑xs) H):yQ K [.ref a] H Q:=cg e h
def Ky{t:TS}{D:Ends}{a:St}(J:St->Hp->Prop)(c:∀σ' H',J σ' H'->u D σ' H')(b:∀N:St->Hp->Prop,(∀σ' H',J σ' H'->N σ' H')->t {D with nx:=N} a H):az t u D a H:=b _ c
def tx(cs:ϊ Nat):ϐ:=#[cs.toArray]
theorem q9(a b:ϊ Nat):tx a++tx b=tx (a++b):=by
 change(#[a.toArray++b.toArray]:ϐ)=#[(a++b).toArray];simp
theorem cX(a:ϊ Nat):↑(tx a)=↑a:=by change a.toArray.size=_;simp
def lA(a:ϊ Nat):(tx a).cps.toList=a:=rfl
theorem uH{a b:ϊ Nat}:tx a=tx b↔a=b:=by
 constructor
 .intro h;have:=Ö (λs:ϐ=>s.cps.toList) h;simpa[tx]using this
 .intro h;rw[h]
theorem join_ones:∀cs:ϊ Nat,Txt.join (Str.ofString "") (cs.map λc=>tx [c])=tx cs:=by
 intro cs;unfold Txt.join;rw[StrLaws.glued_eq_join];induction cs with
 |nil=>rfl
 |cons c r ih=>
  cases r with
  |nil=>rfl
  |cons d r=>
   change tx [c]++Str.ofString ""++Str.join (Str.ofString "") ((d::r).map λc=>tx [c])=_;rw[ih,show Str.ofString ""=tx []from rfl,q9,q9];rfl
theorem SN{a:ϊ Nat}{j:Nat}(h:j<=↑a):Txt.slice (tx a) none (!(j:Int))=tx (a.take j):=by
 have:=beq_iff_eq.mp<|PyProof.Rows.slice_closes_to (x:=tx a) (j:=(j:Int)) #[(),by rw[lA];rfl'];rw[this];simp[tx]
section
def Vn(e:SqL K H a<|ys.map V.str)(b:(ys.map (·.length)).sum+↑ys*↑s<=16777216)(h:Q (.str<|Txt.join s ys) H):rJoin K (.str s) [.ref a] H Q:=#[s,a,ys,rfl,rfl,e,b,h]
theorem xK(e:↑s<=1000000)(h:Q (.str<|Txt.slice s lo hi) H):yR (.str s) lo hi H Q:=#[s,rfl,Ð e<|by decide,h]
def iE(K:Ϗ)(R:It->Hp->Prop)(vs:ϊ V)(H:Hp):Prop:=∃a xs,vs=[.ref a]/\SqL K H a xs/\R (Ite K a) H
def QZ{a:TA}{R:It->Hp->Prop}(h:a σ H<|iE K R):ww K a σ H R:=h
end
theorem Vo(n:Nat){a:ϊ Nat}(h:∀c∈a,c<1114112):Sh n (.str<|tx a):=by
 show#[?_,by simp[PyData.depth]];simp only[PyData.canLay0,PyData.strOk];change a.toArray.all _=true;simp;show h
def R1{c:Type}{a:ϊ c}(b:0<=i)(d:i<↑a):∃v,v∈a/\vW a i=!v:=#[_,Û (),zJ b ()]
section
def Vp{c:TE}(h:tv σ H λv H1=>td σ H1 λx H2=>c σ H2 λy d=>∃a b,x=.ref a/\SPut d a y v b/\D.nx σ b):wQ td c tv D σ H:=h
def Vq{c:TE}(h:tv σ H λv H1=>td σ H1 λx H2=>c σ H2 λy d=>∃a b,x=.ref a/\DPut d a y v b/\D.nx σ b):jh td c tv D σ H:=h
def Vr{b:TE}(h:td σ H λx H1=>b σ H1 λy H2=>∃a v,x=.ref a/\DGet H2 a y !v/\Q v H2):gh td b σ H Q:=h
theorem lW{b:ό}{a c:ϊ V}(d:H l=!(.lst a))(e:H b=!(.lst c))(f:↑a+↑c<=1000000)(h:Q .non<|upd H l<|.lst<|a++c):jK (.ref l) [.ref b] H Q:=#[l,b,a,c,rfl,rfl,d,e,Ð f<|by decide,h]
def SpH(H:Hp)(zs:ϊ<|ό×Int×Int):Prop:=∀z∈zs,H z.1=!(.tup [.int z.2.1,.int z.2.2])
theorem SpH.nil:SpH H []:=λz a=>nomatch a
theorem SpH.same(h:SpH H zs)(s:Same H H'):SpH H' zs:=λz a=>s.get<|h z a
theorem SpH.spl(h:SpH H zs)(e:SqL K H q<|zs.map λz=>V.ref z.1):SpL K H q (zs.map (·.2)):=#[zs,rfl,e,λz a=>gL<|h z a]
theorem SpH.set{b c:ϊ V}(h:SpH H zs)(e:H l=!(.lst b)):SpH (upd H l<|.lst c) zs:=λz a=>by
 rw[ao<|bC (h z a) e<|by intro q;cases q];show h z a
theorem SpH.app{a:ϊ<|ό×Int×Int}(h:SpH H zs)(b:SpH H a):SpH H (zs++a):=λz c=>(Ê.mp c).elim (h z)<|b z
end
section
def a2e(h:te σ H λx H'=>∃k,x=.bl k/\R k H'):tB te σ H R:=h
def Zj(h:Q (.bl<|decide<|x=.non) H):kE x .non H Q:=#[rfl,h]
def Vs(h:Q (.bl<|not (decide<|x=.non)) H):Jp x .non H Q:=#[rfl,h]
def oR{a:ϊ V}(e:SqL K H p a)(h:∀l,H l=none->Q (.ref l) (upd H l (.tup a))):ig K [.ref p] H Q:=#[p,a,rfl,.inl #[e,h]]
def Hz{a:ϊ V}(e:SqT K H p a)(h:∀l,H l=none->Q (.ref l) (upd H l (.lst a))):j5 K [.ref p] H Q:=#[p,a,rfl,.inr e,h]
def Zk{b:TE}(h:b σ H λy H1=>td σ H1 λx H2=>∃a o,x=.ref a/\SGet H2 a y o/\Q (.bl o.isSome) H2):Uv b td σ H Q:=h
def KC{b:TE}(h:b σ H λy H1=>td σ H1 λx H2=>∃a o,x=.ref a/\SGet H2 a y o/\Q (.bl<|not o.isSome) H2):oM b td σ H Q:=h
def Vt{b:TE}(h:td σ H λx H1=>b σ H1 λy H2=>∃a v,x=.ref a/\SGet H2 a y !v/\Q v H2):lQ td b σ H Q:=h
def Vu(h:∀p,H p=none->Q (.ref p) (upd H p (bM p []))):wO σ H Q:=h
def Zm{b:TE}(h:b σ H λy H1=>td σ H1 λx H2=>∃a o,x=.ref a/\DGet H2 a y o/\Q (.bl o.isSome) H2):GD b td σ H Q:=h
def KD{b:TE}(h:b σ H λy H1=>td σ H1 λx H2=>∃a o,x=.ref a/\DGet H2 a y o/\Q (.bl<|not o.isSome) H2):jM b td σ H Q:=h
def R3{a:ϊ V}(e:SqL K H p a\/SqT K H p a)(c:jg x=true)(b:a.all jg=true)(h:Q (.bl<|inV x a) H):Ub K false x (.ref p) H Q:=#[p,a,rfl,e,c,b,h]
end
noncomputable def ov:ύ Int->V
 |none=>.non
 |some i=>.int i
def DrT(K:Ϗ)(H:Hp)(a:ό)(ps:L1S):Prop:=∃zs:ϊ<|ό×ϐ×Int,zs.map (·.2)=ps/\H a=!(.tup<|zs.map λz=>V.ref z.1)/\∀z∈zs,H z.1=!(.tup [.str z.2.1,.int z.2.2])
theorem DrT.same{b:L1S}(h:DrT K H a b)(s:Same H H'):DrT K H' a b:=by
 let#[g,e,c,d]:=h;show#[g,e,s.get c,λz f=>s.get<|d z f]
def HsT(K:Ϗ)(H:Hp)(a:ό)(ds:L2S)(es:ϊ Int):Prop:=∃(d e:ό)(rs:ϊ<|ό×L1S),H a=!(.tup [.ref d,.ref e])/\rs.map (·.2)=ds/\H d=!(.tup<|rs.map λr=>V.ref r.1)/\(∀r∈rs,DrT K H r.1 r.2)/\H e=!(.tup<|es.map V.int)
theorem HsT.same{b:L2S}{c:ϊ Int}(h:HsT K H a b c)(s:Same H H'):HsT K H' a b c:=by
 let#[d,e,m,f,g,i,j,k]:=h;show#[d,e,m,s.get f,g,s.get i,λr l=>(j r l).same s,s.get k]
def DrG(K:Ϗ)(H:Hp)(a:ό)(ps:L1S):Prop:=∃zs:ϊ<|ό×ϐ×Int,zs.map (·.2)=ps/\SqT K H a (zs.map λz=>V.ref z.1)/\∀z∈zs,H z.1=!(.tup [.str z.2.1,.int z.2.2])
theorem DrT.g{b:L1S}(h:DrT K H a b):DrG K H a b:=by
 let#[f,e,c,d]:=h;show#[f,e,gL c,d]
theorem DrG.same{b:L1S}(h:DrG K H a b)(s:Same H H'):DrG K H' a b:=by
 let#[g,e,c,d]:=h;show#[g,e,s.tup c,λz f=>s.get<|d z f]
def HsG(K:Ϗ)(H:Hp)(a:ό)(ds:L2S)(es:ϊ Int):Prop:=∃(d e:ό)(rs:ϊ<|ό×L1S),H a=!(.tup [.ref d,.ref e])/\rs.map (·.2)=ds/\SqT K H d (rs.map λr=>V.ref r.1)/\(∀r∈rs,DrG K H r.1 r.2)/\H e=!(.tup<|es.map V.int)
theorem HsT.g{b:L2S}{c:ϊ Int}(h:HsT K H a b c):HsG K H a b c:=by
 let#[d,e,n,f,i,j,k,l]:=h;show#[d,e,n,f,i,gL j,λr m=>(k r m).g,l]
theorem HsG.same{b:L2S}{c:ϊ Int}(h:HsG K H a b c)(s:Same H H'):HsG K H' a b c:=by
 let#[d,e,m,f,g,i,j,k]:=h;show#[d,e,m,s.get f,g,s.tup i,λr l=>(j r l).same s,s.get k]
def Dp.intsT{b:ϊ Int}(h:SqT K H a<|b.map V.int):Dp K H (.ref a) (.tuple<|b.map PyData.int):=.tup h<|DpAll.ints b
end L2
namespace Hs
open PySem L2
variable{r:Int}
noncomputable def dr(ps:L1S)(s:ϐ):ύ Int:=(ps.find? λp=>decide<|p.1=s).map (·.2)
theorem uI(p:ϐ×Int)(r:L1S)(s:ϐ):dr (p::r) s=if p.1=s then !p.2 else dr r s:=by
 unfold dr;by_cases h:p.1=s
 .simp [h]
 .simp [h]
theorem zL{r:Int}:∀{ps:L1S},dr ps s=!r->(s,r)∈ps
 |[],h=>by cases h
 |p::ps,h=>by
  rw[uI]at h;by_cases e:p.1=s
  .rw [if_pos e]at h
   cases h;rw[<-e];show Ì
  .rw [if_neg e]at h;show Ç _<|zL h
def stp(ds:L2S)(o:ύ Int)(s:ϐ):ύ Int:=o.bind λr=>dr (ds.getD r.toNat []) s
def go(ds:L2S)(cs:ϊ Nat):ύ Int:=cs.foldl (λo c=>stp ds o<|tx [c]) !0
structure Wf(ds:L2S):Prop where
 pos:0<↑ds
 rm:∀ps∈ds,∀p∈ps,0<=p.2/\p.2<↑ds
theorem Ft(a:L2S)(b:ϊ Nat)(c:Nat):go a (b++[c])=stp a (go a b) (tx [c]):=by
 unfold go;rw[Ĵ];rfl
theorem R4(h:go ds a=none):go ds (a++ys)=none:=by
 unfold go at h⊢;rw[Ĵ,h];clear h;induction ys with
 |nil=>rfl
 |cons y r ih=>show ih
theorem getD_at{b:Type}{a:ϊ b}{d:b}(c:0<=r)(e:r<↑a):a.getD r.toNat d=a[r.toNat]'(by rfl'):=by
 rw[Yf,Zl ()];rfl
theorem Zn(w:Wf ds):∀{cs:ϊ Nat},go ds cs=!r->0<=r/\r<↑ds:=by
 intro cs
 suffices ∀(cs:ϊ Nat)(a:Int),0<=a->a<↑ds->cs.foldl (λo c=>stp ds o<|tx [c]) (!a)=!r->0<=r/\r<↑ds by
  show this cs 0 (by decide) (by have:=w.pos;rfl')
 intro cs;induction cs with
 |nil=>intro a b d h;cases h;show#[b,d]
 |cons c rest ih=>
  intro a b d h;rw[Š]at h
  cases e:stp ds (!a) (tx [c])with
  |none=>
   rw[e]at h;have:∀l:ϊ Nat,l.foldl (λo c=>stp ds o<|tx [c]) none=none:=λl=>by
    induction l with
    |nil=>rfl
    |cons y r ih=>show ih
   rw[this]at h
   cases h
  |some r1=>
   rw[e]at h;have m:=zL<|show dr (ds.getD a.toNat []) (tx [c])=!r1 from e;rw[getD_at b d]at m;have:=w.rm _ (Û _) _ m;show ih r1 this.1 this.2 h
noncomputable def Og:ϐ:=Str.ofString " !\"#$&'()*+,-./0123456789:;<=>?@ABCDEFGHIJKLMNOPQRSTUVWXYZ[\\]^_`"++Str.ofString "abcdefghijklmnopqrstuvwxyz{|}~"
def xM(n:Int):Nat:=Og.cps.toList.getD (n%94).toNat 0
def Sg(s:ϐ):Prop:=∃n:Int,s=tx [xM n]
end Hs
namespace L2
open PySem
variable{j:Nat}
abbrev Dz:=ό×ϐ×Int
variable{rows:ϊ (ό×ϊ Dz)}
def Rws(H:Hp)(rows:ϊ<|ό×ϊ Dz):Prop:=(rows.map (·.1)).Nodup/\∀row∈rows,H row.1=!(.lst (row.2.map λz:Dz=>V.ref z.1))/\∀z∈row.2,H z.1=!(.tup [.str z.2.1,.int z.2.2])
def Rws.same(h:Rws H rows)(s:Same H b):Rws b rows:=#[h.1,λa c=>#[s.get (h.2 a c).1,λz d=>s.get<|(h.2 a c).2 z d]]
theorem Fv(a:j<↑rows)(b:ϊ Dz):(rows.set j (rows[j].1,b)).map (·.1)=rows.map (·.1):=by
 apply List.ext_getElem?;intro k;rw[À,À,List.getElem?_set];by_cases e:j=k
 .subst e;rw[if_pos rfl,if_pos a,Zl a];rfl
 .rw [if_neg e]
theorem Rws.app{s:ϐ}{r:Int}(h:Rws H rows)(g:j<↑rows)(f:H t=!(.tup [.str s,.int r])):
  Rws (upd H rows[j].1<|.lst ((rows[j].2++[(t,s,r)]).map λz:Dz=>V.ref z.1)) (rows.set j (rows[j].1,rows[j].2++[(t,s,r)])):=by
 show#[by rw[Fv g];show h.1,λo l=>?_];have a:rows[j]∈rows:=Û g;have d:=(h.2 _ a).1;rcases ś l with m|rfl
 .obtain ⟨k,i,e⟩:=ÿ.mp l;rw[List.getElem_set]at e;by_cases q:j=k
  .rw [if_pos q]at e;subst e;show#[aa,λz c=>?_];rcases Ê.mp c with w|w
   .rw [ao<|bC ((h.2 _ a).2 z w) d<|by intro q;cases q];show(h.2 _ a).2 z w
   .rw [Zs.mp w];rw[ao<|bC f d<|by intro q;cases q];show f
  .rw [if_neg q]at e;subst e;rw[List.length_set]at i;have n:rows[k].1≠rows[j].1:=by
    intro z;have:=(ı (h₀:=by simpa using i) (h₁:=by simpa using g) h.1).mp (by rw[ü,ü];show z);show q this.symm
   have b:rows[k]∈rows:=Û i;show#[by rw[ao n];show(h.2 _ b).1,λz c=>?_];rw[ao<|bC ((h.2 _ b).2 z c) d<|by intro q;cases q];show(h.2 _ b).2 z c
 .show #[aa,λz c=>?_];rcases Ê.mp c with w|w
  .rw [ao<|bC ((h.2 _ a).2 z w) d<|by intro q;cases q];show(h.2 _ a).2 z w
  .rw [Zs.mp w];rw[ao<|bC f d<|by intro q;cases q];show f
section
theorem Vv{n:Int}(m:Nat)(e:n.toNat=m)(v:m<=1000000)(w:-1000000000<=n)
  (x:∀(i:Nat) H',i<m->∀(A:VK),(∀p,H' p=none->A (.ref p) (upd H' p (.lst [])))->g (.int (i:Int)) (cap κ σ) H' λk H2=>pG (cap κ σ) k/\te k H2 A)
  (t:∀p H' (c:ϊ ό),Same H H'->H p=none->↑c=m->c.Nodup->p∉c->(∀a∈c,H a=none/\H' a=!(.lst []))->H' p=!(.lst (c.map V.ref))->Q (.ref p) H'):iR (Fl κ g du te σ Q) [.int n] H:=by
 show Hy m e v w (λi l H'=>∃c:ϊ ό,l=c.map V.ref/\↑c=i/\c.Nodup/\Same H H'/\∀a∈c,H a=none/\H' a=!(.lst [])) #[[],rfl,rfl,Μ,gN H,by simp] ?_ ?_ ?_
 .rintro i l H' ⟨c,rfl,rfl,_⟩;simp
 .rintro i l H' u ⟨c,rfl,rfl,o,j,h⟩;have q:=x ↑c H' u (λy r=>∃f:ϊ ό,c.map V.ref++[y]=f.map V.ref/\↑f=↑c+1/\f.Nodup/\Same H r/\∀a∈f,H a=none/\r a=!(.lst [])) λp d=>by
   show#[c++[p],by simp,by simp,?_,j.new d,λa m=>?_]
   .rw [ä];show#[o,by simp,λa m b z e=>?_];rw[Zs.mp z]at e;subst e;rw[(h a m).2]at d;cases d
   .rcases Ê.mp m with m|m
    .show #[(h a m).1,aF d (h a m).2]
    .rw [Zs.mp m];show#[j.free d,aa]
  simpa only[du,ĳ]using q
 .rintro l H' ⟨c,rfl,s,o,j,h⟩ p d;show t p _ c (j.new d) (j.free d) s o (λm=>?_) (λa m=>#[(h a m).1,aF d (h a m).2]) aa;rw[(h p m).2]at d;cases d
theorem uJ{c d:Type}{g:c->d}{l a:ϊ d}(h:l.Perm a):∀{zs:ϊ c},l=zs.map g->∃b:ϊ c,b.Perm zs/\a=b.map g:=by
 induction h with
 |nil=>intro zs e;show#[zs,.refl _,e]
 |cons x _ ih=>
  intro zs e
  cases zs with
  |nil=>cases e
  |cons z zs=>
   rw[È]at e;injection e with e1 e2
   let#[b,p,q]:=ih e2;show#[z::b,p.cons z,by rw[È,q,e1]]
 |swap x y l=>
  intro zs e
  match zs,e with
  |z1::z2::r,e=>
   rw[È,È]at e;injection e with e1 e2
   injection e2 with e2 e3
   show#[z2::z1::r,.swap _ _ _,by rw[È,È,e1,e2,e3]]
 |trans _ _ ih1 ih2=>
  intro zs e;let#[b,p,q]:=ih1 e;let#[j,f,i]:=ih2 q;show#[j,f.trans p,i]
def nR{a d:Type}{g:a->d}{b:ϊ d}{c:ϊ a}(h:b.Perm<|c.map g):∃vs:ϊ a,vs.Perm c/\b=vs.map g:=uJ h.symm rfl
end
end L2
namespace Hs
def KH(n:Int):xM n<1114112:=by
 unfold xM;have h:∀c∈Og.cps.toList,c<1114112:=by ac_nf
 rw[Yf]
 cases e:Og.cps.toList[(n%94).toNat]?with
 |none=>decide
 |some c=>show h c<|Wp e
end Hs
namespace L2
open PySem
variable{ht:Nat}
abbrev Lz:=ό×ϐ×ό×ϊ Nat
noncomputable abbrev nv(xs:ϊ Nat):ϊ V:=xs.map λi:Nat=>V.int (i:Int)
def FnT(K:Ϗ)(H:Hp)(a:ό)(ht:Nat)(ls:ϵ):Prop:=∃(l:ό)(zs:ϊ Lz),H a=!(.tup [.int (ht:Int),.ref l])/\zs.map (λz:Lz=>(z.2.1,z.2.2.2))=ls/\SqT K H l (zs.map λz:Lz=>V.ref z.1)/\∀z∈zs,H z.1=!(.tup [.str z.2.1,.ref z.2.2.1])/\H z.2.2.1=!(.tup<|nv z.2.2.2)
theorem FnT.same(h:FnT K H a ht d)(s:Same H H'):FnT K H' a ht d:=by
 let#[l,i,e,f,g,b]:=h;show#[l,i,s.get e,f,s.tup g,λz c=>#[s.get (b z c).1,s.get (b z c).2]]
def FnF(K:Ϗ)(H:Hp)(a:ό)(ht:Nat)(ls:ϵ):Prop:=∃(l:ό)(ob:PySem.Obj)(zs:ϊ Lz),H a=!(.tup [.int (ht:Int),.ref l])/\zs.map (λz:Lz=>(z.2.1,z.2.2.2))=ls/\ob.dict=none/\H l=!(.frz ob<|.tup (zs.map λz:Lz=>V.ref z.1))/\∀z∈zs,H z.1=!(.tup [.str z.2.1,.ref z.2.2.1])/\H z.2.2.1=!(.tup<|nv z.2.2.2)
theorem FnF.same(h:FnF K H a ht d)(s:Same H H'):FnF K H' a ht d:=by
 let#[l,ob,j,e,f,i,g,b]:=h;show#[l,ob,j,s.get e,f,i,s.get g,λz c=>#[s.get (b z c).1,s.get (b z c).2]]
theorem FnF.t(h:FnF K H a ht b):FnT K H a ht b:=by
 let#[l,ob,g,c,d,i,e,f]:=h;show#[l,g,c,d,.inl<|.inr #[ob,e],f]
end L2
namespace Fo
open PySem L2
variable{ht:Nat}
noncomputable def lk(ls:ϵ)(s:ϐ):ύ (ϊ Nat):=(ls.find? λp=>decide<|p.1=s).map (·.2)
theorem gF(p:ϐ×ϊ Nat)(r:ϵ)(s:ϐ):lk (p::r) s=if p.1=s then !p.2 else lk r s:=by
 unfold lk;by_cases h:p.1=s
 .simp [h]
 .simp [h]
theorem cH:∀{ls:ϵ},lk ls s=!c->(s,c)∈ls
 |[],h=>by cases h
 |p::ps,h=>by
  rw[gF]at h;by_cases e:p.1=s
  .rw [if_pos e]at h
   cases h;rw[<-e];show Ì
  .rw [if_neg e]at h;show Ç _<|cH h
theorem KJ:∀{ls:ϵ},s∈ls.map (·.1)->∃c,lk ls s=!c
 |p::ps,h=>by
  rw[gF];by_cases e:p.1=s
  .show #[_,if_pos e]
  .rw [if_neg e];rcases Æ.mp h with h|h
   .show absurd h.symm e
   .show KJ h
def cl(ls:ϵ)(c:Nat):ϊ Nat:=(lk ls<|tx [c]).getD []
def m7(ls:ϵ)(cs:ϊ Nat):ϊ Nat:=cs.flatMap<|cl ls
theorem R5(c:ϵ)(a b:ϊ Nat):m7 c (a++b)=m7 c a++m7 c b:=by unfold m7;rw[Ō]
theorem xN(b:ϵ)(a:ϊ Nat)(c:Nat):m7 b (a++[c])=m7 b a++cl b c:=by rw[R5];simp[m7]
structure Wf(ht:Nat)(ls:ϵ):Prop where
 pos:0<↑ls
 le:↑ls<=40
 up:(ls.map (·.1)).Pairwise oJ
 sg:∀p∈ls,Hs.Sg p.1
 c1:∀p∈ls,1<=↑p.2/\↑p.2<=8
 cb:∀p∈ls,∀x∈p.2,x<2^ht
theorem Wf.cl_le(w:Wf ht a)(c:Nat):↑(cl a c)<=8:=by
 unfold cl
 cases e:lk a (tx [c])with
 |none=>simp
 |some d=>show(w.c1 _<|cH e).2
theorem Wf.cl_lt(w:Wf ht a)(c:Nat):∀x∈cl a c,x<2^ht:=by
 unfold cl
 cases e:lk a (tx [c])with
 |none=>simp
 |some d=>show w.cb _<|cH e
theorem Wf.pic_le(w:Wf ht a):∀cs:ϊ Nat,↑(m7 a cs)<=8*↑cs
 |[]=>by simp[m7]
 |c::r=>by
  have h:=w.pic_le r;have b:=w.cl_le c;unfold m7 at h⊢;rw[Ũ,Ë,ê];rfl'
end Fo
namespace L2
open PySem
variable{a:ό}{kvs:ϊ (ϐ×V)}{zs:ϊ (ό×ϐ×V)}
theorem FnT.at{e:Nat}(h:FnT K H a e b):∃l,SqT K H a [.int (e:Int),.ref l]/\∃zs:ϊ Lz,SqT K H l (zs.map λz:Lz=>V.ref z.1)/\↑zs=↑b/\zs.map (λz:Lz=>(z.2.1,z.2.2.2))=b/\∀z∈zs,SqT K H z.1 [.str z.2.1,.ref z.2.2.1]/\SqT K H z.2.2.1 (nv z.2.2.2):=by
 let#[l,zs,g,c,i,d]:=h;show#[l,gL g,zs,i,by rw[<-c,Qb],c,λz f=>#[gL (d z f).1,gL (d z f).2]]
abbrev Kz:=ϐ×ό×ϊ Nat
noncomputable def dcK(kvs:ϊ Kz):ϊ (Key×V):=kvs.map λp:Kz=>(Sum.inr p.1,V.ref p.2.1)
section
variable{H:Hp}{Q:VK}{K:Ϗ}
def KN(e:H a=!(.dK (kvs.map λp=>(Sum.inr p.1,p.2))))(b:↑kvs<64)(h:∀r (ns:ϊ ϐ),ns.Perm (kvs.map (·.1))->ns.Pairwise oJ->H r=none->Q (.ref r) (upd H r (.lst (ns.map V.str)))):ul [.ref a] H Q:=#[a,kvs,rfl,.inl e,b,h]
def KQ{kvs:ϊ (Int×V)}(e:H a=!(.dK (kvs.map λp=>(Sum.inl p.1,p.2))))(b:↑kvs<64)(h:∀r (ns:ϊ Int),ns.Perm (kvs.map (·.1))->ns.Pairwise (·<·)->H r=none->Q (.ref r) (upd H r (.lst (ns.map V.int)))):uo [.ref a] H Q:=#[a,kvs,rfl,e,b,h]
def Vw{a:ϊ V}(e:SqL K H p a)(h:∀l (ob:PySem.Obj),ob.dict=none->H l=none->Q (.ref l) (upd H l (.frz ob (.tup a)))):Fd K [.ref p] H Q:=#[p,a,rfl,e,h]
noncomputable abbrev sN(l:ϊ String):ϊ ϐ:=l.map Str.ofString
abbrev RG(rd:XK->TS)(ns:ϊ ϐ)(vs:ϊ V)(H:Hp)(Q:VK):Prop:=∃Eh,rd Eh {nx:=λ_ H'=>Q .non H',rt:=Q} (start ns vs) H
def R6(b:H a=!(.lst (zs.map λz=>V.ref z.1)))(c:∀z∈zs,SqT K H z.1 [.str z.2.1,z.2.2])(d:(zs.map (·.2.1)).Nodup)(e:↑zs<=1000)(h:∀r,H r=none->Q (.ref r) (upd H r (.dK (zs.map λz=>(Sum.inr z.2.1,z.2.2))))):j7 K [.ref a] H Q:=#[a,zs,rfl,.inr b,c,d,e,h]
def xO{ob:PySem.Obj}(b:ob.dict=none)(c:H a=!(.frz ob (.tup (zs.map λz=>V.ref z.1))))(d:∀z∈zs,SqT K H z.1 [.str z.2.1,z.2.2])(e:(zs.map (·.2.1)).Nodup)(f:↑zs<=1000)(h:∀r,H r=none->Q (.ref r) (upd H r (.dK (zs.map λz=>(Sum.inr z.2.1,z.2.2))))):j7 K [.ref a] H Q:=#[a,zs,rfl,.inl #[ob,b,c],d,e,f,h]
def TupK.sq(h:TupK K a b):SqT K H a b:=.inr h
theorem a2f{a:ϊ Nat}(u:↑a<=1000000)(d:Nat->ϊ V->Hp->Prop)(s:d 0 [] H)(z:∀i ys H',d i ys H'->↑ys<=i)
  (w:∀(i c:Nat) ys H',a[i]?=!c->d i ys H'->g (.str (tx [c])) (cap κ σ) H' λj H2=>pG (cap κ σ) j/\tc j H2 λb n=>if b=true then te j n λy o=>d (i+1) (ys++[y]) o else d (i+1) ys n)
  (t:∀ys H',d ↑a ys H'->∀p,H' p=none->Q (.ref p) (upd H' p (.lst ys))):iS (Fl κ g tc te σ Q) (.str (tx a)) H:=by
 show#[tx a,rfl,λi m ys H'=>m=↑a-i/\i<=↑a/\d i ys H',#[↑a,by simp,â _,s],?_];rintro i m ys H' ⟨rfl,A,p⟩;by_cases h:i<↑a
 .show .inr #[h,?_,λk f=>d (i+1) k f,λk f l=>#[↑a-(i+1),(),rfl,h,l],λx f y=>?_]
  .show Ý (z i ys H' p) (Ó h (Ð u (by decide)))
  .obtain ⟨e,c,q,r⟩:=y;subst e r;show w i c ys _ (by simpa[tx]using q) p
 .have e:i=↑a:=()
  subst e;show .inl #[rfl,λl v=>t ys H' p l v]
end
theorem zM{zs:ϊ Lz}(h:Fo.lk (zs.map λz:Lz=>(z.2.1,z.2.2.2)) s=!co):∃z∈zs,z.2.2.2=co/\bh (zs.map λz:Lz=>((Sum.inr z.2.1:Key),V.ref z.2.2.1)) (Sum.inr s)=!(.ref z.2.2.1):=by
 induction zs with
 |nil=>cases h
 |cons p r ih=>
  rw[È,Fo.gF]at h;by_cases e:p.2.1=s
  .rw [if_pos e]at h
   cases h;show#[p,Ì,rfl,cJ (p:=(Sum.inr p.2.1,V.ref p.2.2.1))<|by rw[e]]
  .rw [if_neg e]at h;let#[q,m,a,b]:=ih h;show#[q,Ç _ m,a,(c7 (p:=((Sum.inr p.2.1:Key),V.ref p.2.2.1))<|λz=>e<|İ z).trans b]
def zN(a:ϐ):¬oJ a a:=Ř _
theorem dw{c:ϊ ϐ}(h:c.Pairwise oJ):c.Nodup:=ħ (S:=λa b=>a≠b) (λ{a b} (z:oJ a b) (e:a=b)=>zN a<|by rw[<-e]at z;show z) h
section
theorem Vx{s:Type}(c:s->V){zs:ϊ s}(D:SqT K H a (zs.map c))(A:↑zs<=1000000)(d:Nat->ϊ V->Hp->Prop)(u:d 0 [] H)(w:∀i ys H',d i ys H'->SqT K H' a (zs.map c))(E:∀i ys H',d i ys H'->↑ys<=i)
  (C:∀(i:Nat) z ys H',zs[i]?=!z->d i ys H'->g (c z) (cap κ σ) H' λj H2=>pG (cap κ σ) j/\tc j H2 λb o=>if b=true then te j o λy t=>d (i+1) (ys++[y]) t else d (i+1) ys o)
  (v:∀ys H',d ↑zs ys H'->∀p,H' p=none->Q (.ref p) (upd H' p (.lst ys))):iT K (Fl κ g tc te σ Q) (.ref a) H:=by
 show#[a,rfl,#[_,D],λi m ys H'=>m=↑zs-i/\i<=↑zs/\d i ys H',#[↑zs,by simp,â _,u],?_];rintro i m ys H' ⟨rfl,F,p⟩;have q:=w i ys H' p;by_cases h:i<↑zs
 .have l:zs[i]?=!zs[i]:=Zl h;show .inr #[#[_,c zs[i],q,by rw[À,l];rfl],?_,λk f=>d (i+1) k f,λk f n=>#[↑zs-(i+1),(),rfl,h,n],λx f y=>?_]
  .show Ý (E i ys H' p) (Ó h (Ð A (by decide)))
  .obtain ⟨e,y⟩:=y;subst e;have r:=y _ q;rw[À,l]at r
   cases r;show C i _ ys _ l p
 .have e:i=↑zs:=()
  subst e;show .inl #[#[_,q,by simp],λn B=>v ys H' p n B]
end
end L2
namespace Mm
theorem iw:∀{a b c d:ϊ Nat},↑a=↑c->bc (a++b) (c++d)=bc a c+bc b d
 |[],b,[],d,_=>by simp[bc]
 |x::a,b,y::c,d,h=>by
  rw[Ρ,Ρ,bc,bc,iw<|by simpa using h];rfl'
end Mm
namespace L2
open PySem
variable{a:ό}{zs:ϊ (ό×ϐ×V)}
theorem DrT.of{K:Ϗ}{H:Hp}{t:ό}{a:L1S}(f:H t=!(.tup<|zs.map λz=>V.ref z.1))(g:∀z∈zs,H z.1=!(.tup [.str z.2.1,z.2.2]))(e:zs.map (·.2)=a.map λp=>(p.1,V.int p.2)):DrT K H t a:=by
 show#[(zs.zip a).map λq=>(q.1.1,q.2.1,q.2.2),?_,?_,?_]
 .rw [Ä];change(zs.zip a).map (λq=>q.2)=a;rw[List.map_snd_zip (by have:=Ö List.length e;simp at this;rfl')]
 .rw [Ä];have:(zs.zip a).map ((λz:ό×ϐ×Int=>V.ref z.1)∘λq=>(q.1.1,q.2.1,q.2.2))=((zs.zip a).map (·.1)).map λz=>V.ref z.1:=by rw[Ä];rfl
  rw[this,List.map_fst_zip (by have:=Ö List.length e;simp at this;rfl')];show f
 .intro z k;let#[q,j,rfl]:=Zp.mp k;let#[i,h,c]:=ÿ.mp j;rw[List.getElem_zip]at c;have b:i<↑zs/\i<↑a:=by rw[List.length_zip]at h;rfl'
  have d:zs[i].2=(a[i].1,V.int a[i].2):=by
   have:=Ö (λl=>l[i]?) e;simp only[À,Zl b.1,Zl b.2,Ŝ]at this;show Ü this
  rw[<-c];have:=g _<|Û b.1;rw[d]at this;show this
section
def KR(h:b σ H λx H1=>∃(a:ό)(kvs:ϊ<|ϐ×V),x=.ref a/\H1 a=!(.dK<|kvs.map λp=>(Sum.inr p.1,p.2))/\↑kvs<64/\∀r (zs:ϊ<|ό×ϐ×V) (H2:Hp),(zs.map (·.2)).Perm kvs->(zs.map (·.2.1)).Pairwise oJ->H1 r=none->Same H1 H2->H2 r=!(.lst<|zs.map λz=>V.ref z.1)->(∀z∈zs,H2 z.1=!(.tup [.str z.2.1,z.2.2]))->Q (.ref r) H2):oK b σ H Q:=h
def Zo{bs:ϊ ϑ}(e:SqL K H a<|bs.map V.bl)(h:Q (.bl<|bs.all id) H):Q4 K [.ref a] H Q:=#[a,bs,rfl,e,h]
def Vy(e:H a=!(.dT kvs))(h:Q (.int ↑kvs) H):K8 [.ref a] H Q:=#[a,kvs,rfl,e,h]
def Vz(e:Rd H a<|.dK b)(h:Q (.int ↑b) H):K7 [.ref a] H Q:=#[a,b,rfl,e,h]
def HB{ss:ϊ ϐ}(e:SqL K H a (ss.map V.str))(b:↑ss<64)(h:∀r (ns:ϊ ϐ),ns.Nodup->(∀y,y∈ns↔y∈ss)->ns.Pairwise oJ->H r=none->Q (.ref r) (upd H r (.lst (ns.map V.str)))):lR K [.ref a] H Q:=#[a,ss,rfl,e,b,h]
end
theorem fC{b:Type}{f:b->Key}{g:b->V}{a:ϊ b}(h:k∉a.map f):bh (a.map λz=>(f z,g z)) k=none:=by
 induction a with
 |nil=>rfl
 |cons z r ih=>
  rw[È]at h⊢;rw[c7<|λe=>h<|by rw[<-e];show Ì];show ih<|λm=>h<|Ç _ m
theorem Zq(n:Nat)(h:Hs.Sg s):Sh n (.str s):=by
 let#[k,rfl]:=h;show Vo n λc a=>by rw[Zs.mp a];show Hs.KH k
def PrL(H:Hp)(p:ό)(zs:ϊ Lz):Prop:=H p=!(.lst (zs.map λz:Lz=>V.ref z.1))/\∀z∈zs,H z.1=!(.tup [.str z.2.1,.ref z.2.2.1])/\H z.2.2.1=!(.lst<|nv z.2.2.2)
def yj(ls:ϵ):PyData:=.list<|ls.map λp=>.tuple [.str p.1,.list<|(p.2.map λi:Nat=>(i:Int)).map PyData.int]
end L2
namespace Fo
open PySem L2
structure GoodL(ht:Nat)(zs:ϊ Lz):Prop where
 pos:1<=↑zs
 le:↑zs<=40
 nd:(zs.map λz:Lz=>z.2.1).Nodup
 sg:∀z∈zs,Hs.Sg z.2.1
 c1:∀z∈zs,1<=↑z.2.2.2/\↑z.2.2.2<=8
 cb:∀z∈zs,∀x∈z.2.2.2,x<2^ht
def Of(zs:ϊ Lz)(ls:ϵ):Prop:=ls.Perm (zs.map λz:Lz=>(z.2.1,z.2.2.2))/\(ls.map (·.1)).Pairwise oJ
def GoodL.wf{f:Nat}(g:GoodL f zs)(o:Of zs b):Wf f b:=by
 have d:↑b=↑zs:=by rw[o.1.length_eq,Qb]
 have c:∀p∈b,∃z∈zs,p=(z.2.1,z.2.2.2):=λp m=>by
  let#[z,a,e]:=Zp.mp<|o.1.mem_iff.mp m;show#[z,a,e.symm]
 show#[by rw[d];show g.pos,by rw[d];show g.le,o.2,λp m=>?_,λp m=>?_,λp m=>?_]
 .obtain ⟨z,a,rfl⟩:=c p m;show g.sg z a
 .obtain ⟨z,a,rfl⟩:=c p m;show g.c1 z a
 .obtain ⟨z,a,rfl⟩:=c p m;show g.cb z a
end Fo
namespace Hs
open PySem L2
def R7{m n:Int}(h:xM m=xM n):m%94=n%94:=by
 have f:↑Og.cps.toList=94:=by ac_nf
 have a:Og.cps.toList.Nodup:=by ac_nf
 have b:0<=m%94:=Int.emod_nonneg _ (by decide);have c:m%94<94:=ź _ (by decide);have d:0<=n%94:=Int.emod_nonneg _ (by decide);have e:n%94<94:=ź _ (by decide);unfold xM at h;rw[Yf,Yf,Zl (),Zl ()]at h;have:=(ı (h₀:=()) (h₁:=()) a).mp h;rfl'
end Hs
namespace L2
open PySem
abbrev Gz:=ό×V×ό×ϊ V
def KY{c:Int}{n m:Nat}(a:0<n)(e:c%(n:Int)=(m:Int))(h:Q (.int (m:Int)) H):dh (.int c) (.int (n:Int)) H Q:=#[c,n,rfl,rfl,(),by change Q (.int<|c%(n:Int)) H;rw[e];show h]
section
def iRD(R:It->Hp->Prop)(vs:ϊ V)(H:Hp):Prop:=∃i j:Int,vs=[.int i,.int j,.int<|-1]/\(-(2^62)<=i/\i<2^62/\-(2^62)<=j/\j<2^62)/\R (Q7 i (i-j).toNat) H
def R8(h:ta σ H<|iRD R):JN ta σ H R:=h
def VB{lo n:Int}(m:Nat)(e:(lo-n).toNat=m)(u:n<=1000000000)(v:-1000000000<=n)(o:-1000000000<=lo)(d:lo<=1000000000)(a:Nat->St->Hp->Prop)(j:a 0 σ H)
  (q:∀(i:Nat) σ H',i<m->a i σ H'->g (.int<|lo-i) σ H' λc H2=>tb {D with nx:=a<|i+1,ct:=a<|i+1,bk:=D.nx} c H2) (l:∀σ H',a m σ H'->D.nx σ H'):iRD (oE g tb D σ) [.int lo,.int n,.int<|-1] H:=by
 show#[lo,n,rfl,#[(),(),(),()],?_];rw[e];show#[λi k σ H=>k=m-i/\i<=m/\a i σ H,#[m,by simp,â _,j],?_];rintro i k σ H ⟨rfl,t,p⟩;by_cases b:i<m
 .show .inr #[b,a<|i+1,λs H' r=>#[m-(i+1),(),rfl,b,r],λx H' y=>?_];let#[f,h]:=y;subst f h;show q i σ _ b p
 .have e:i=m:=()
  subst e;show .inl #[Nat.le_refl _,l σ H p]
def iZG(K:Ϗ)(R:It->Hp->Prop)(vs:ϊ V)(H:Hp):Prop:=∃a b xs ys q,vs=[.ref a,.ref b]/\SqT K H a xs/\HY K H b ys q/\R (V0 K a b q) H
def R9(h:ta σ H<|iZG K R):Kp K ta σ H R:=h
theorem qd(s:Same H b):∀{q:ϑ},HY K H a c q->HY K b a c q
 |true,h=>s.seq h
 |false,h=>s.tup h
def Zr{D E:Type}(c:D->V)(d:E->V){h:ϊ D}{j:ϊ E}(B:SqT K H a (h.map c))(C:HY K H b (j.map d) J)(N:↑h=↑j)(O:↑h<=1000000)(f:D->E->V)
  (P:∀(i:Nat) x y p H',h[i]?=!x->j[i]?=!y->Same H H'->H' p=!(.tup [c x,d y])->∀A:VK,(∀o,Same H' o->A (f x y) o)->g (.ref p) (cap κ σ) H' λs H2=>pG (cap κ σ) s/\te s H2 A)
  (M:∀p H',Same H H'->H' p=!(.lst (List.zipWith f h j))->Q (.ref p) H'):iZG K (Fl κ g du te σ Q) [.ref a,.ref b] H:=by
 show#[a,b,_,_,J,rfl,B,C,λi m L H'=>m=↑h-i/\i<=↑h/\Same H H'/\L=List.zipWith f (h.take i) (j.take i),#[↑h,by simp,â _,gN H,rfl],?_];rintro i m L H' ⟨rfl,U,k,rfl⟩;by_cases n:i<↑h
 .have t:h[i]?=!h[i]:=Zl n;have u:j[i]?=!(j[i]'(by rfl')):=Zl ();show .inr #[#[_,_,c h[i],d (j[i]'(by rfl')),k.tup B,qd k C,by rw[À,t];rfl,by rw[À,u];rfl],?_,λr l=>Same H l/\r=List.zipWith f (h.take (i+1)) (j.take (i+1)),λr l I=>#[↑h-(i+1),(),rfl,n,I.1,I.2],λv l y=>?_]
  .have:↑(List.zipWith f (h.take i) (j.take i))<=i:=by
    rw[List.length_zipWith,Ñ];rfl'
   show Ý this (Ó n (Ð O (by decide)))
  .obtain ⟨p,x,z,w,rfl,rfl,R,S⟩:=y;have F:=R _ (k.tup B);have G:=S _ (qd k C);rw[À,t]at F;rw[À,u]at G
   cases F
   cases G;have q:=P i _ _ p (upd H' p (.tup [c h[i],d (j[i]'(by rfl'))])) t u (k.new w) aa (λy o=>Same H o/\List.zipWith f (h.take i) (j.take i)++[y]=List.zipWith f (h.take (i+1)) (j.take (i+1))) (λo T=>#[(k.new w).trans T,?_])
   .simpa only[du,ĳ]using q
   .rw [Ò,Ò,t,u,List.zipWith_append (by rw[Ñ,Ñ];rfl')];rfl
 .have e:i=↑h:=()
  subst e;show .inl #[#[_,_,k.tup B,qd k C,.inl (by simp)],λp w=>M p _ (k.new w) ?_];rw[aa,Þ,N,Þ]
end
theorem ar1{a:Type}{P:ϊ a->Prop}(h:∀a0:a,P [a0]):∀us:ϊ a,↑us=1->P us
 |[a0],_=>h a0
theorem ar2{b:Type}{P:ϊ b->Prop}(h:∀a0 a:b,P [a0,a]):∀us:ϊ b,↑us=2->P us
 |[a0,a],_=>h a0 a
theorem ar3{c:Type}{P:ϊ c->Prop}(h:∀a0 a b:c,P [a0,a,b]):∀us:ϊ c,↑us=3->P us
 |[a0,a,b],_=>h a0 a b
theorem ar4{d:Type}{P:ϊ d->Prop}(h:∀a0 a b c:d,P [a0,a,b,c]):∀us:ϊ d,↑us=4->P us
 |[a0,a,b,c],_=>h a0 a b c
theorem ar5{e:Type}{P:ϊ e->Prop}(h:∀a0 a b c d:e,P [a0,a,b,c,d]):∀us:ϊ e,↑us=5->P us
 |[a0,a,b,c,d],_=>h a0 a b c d
namespace Tn
noncomputable def dv(cs:ϊ Nat):Nat:=PySem.NumText.digitsVal cs
def spl(c:Nat):ϊ Nat->ϊ (ϊ Nat)
 |[]=>[[]]
 |x::r=>if x=c then[]::spl c r else match spl c r with
  |[]=>[[x]]
  |p::ps=>(x::p)::ps
end Tn
def iDK(R:It->Hp->Prop):V->Hp->Prop:=λx H1=>∃a kvs,x=.ref a/\((H1 a=!(.dK kvs)/\∀od,R (yW od a)<|upd H1 a<|.frz od<|.dK kvs)\/∃od,H1 a=!(.frz od<|.dK kvs)/\R (yW od a) H1)
section
def KZ{a:TE}(h:a σ H<|iDK R):pP a σ H R:=h
def Ra(D:Rd H a (.dK kvs))(S:↑kvs<=1000000)
  (I:∀(z:Key×V) H',z∈kvs->∀(A:VK),(∀p,H' p=none->A (.ref p) (upd H' p (.lst [])))->g (kV z.1) (cap κ σ) H' λt H2=>pG (cap κ σ) t/\te t H2 A)
  (G:∀p od H1 H' (c:ϊ ό),Sb [a] H H1->H1 a=!(.frz od (.dK kvs))->Same H1 H'->H1 p=none->↑c=↑kvs->c.Nodup->p∉c->(∀b∈c,H1 b=none/\H' b=!(.lst []))->H' p=!(.lst (c.map V.ref))->Q (.ref p) H'):iDK (Fl κ g du te σ Q) (.ref a) H:=by
 have r:∀od H1,Sb [a] H H1->H1 a=!(.frz od (.dK kvs))->Fl κ g du te σ Q (yW od a) H1:=by
  intro od H1 M u;show#[λi m C H'=>m=↑kvs-i/\i<=↑kvs/\∃c:ϊ ό,C=c.map V.ref/\↑c=i/\c.Nodup/\Same H1 H'/\∀b∈c,H1 b=none/\H' b=!(.lst []),#[↑kvs,by simp,â _,[],rfl,rfl,Μ,gN _,by simp],?_];rintro i m C H' ⟨rfl,R,c,rfl,E,B,l,n⟩;by_cases j:i<↑kvs
  .have P:kvs[i]?=!kvs[i]:=Zl j;show .inr #[#[kvs,l.get u,j],Ý (show↑(c.map V.ref)<=1000000 by rw[Qb];rfl') (by decide),λs d=>∃c:ϊ ό,s=c.map V.ref/\↑c=i+1/\c.Nodup/\Same H1 d/\∀b∈c,H1 b=none/\d b=!(.lst []),λs d L=>#[↑kvs-(i+1),(),rfl,j,L],λv d y=>?_];let#[rfl,N]:=y;let#[k,x,F,rfl]:=N kvs (l.get u);have q:=I (k,x) d (Wp F) (λy w=>∃h:ϊ ό,c.map V.ref++[y]=h.map V.ref/\↑h=i+1/\h.Nodup/\Same H1 w/\∀a∈h,H1 a=none/\w a=!(.lst [])) λp f=>by
    show#[c++[p],by simp,by simp[E],?_,l.new f,λa m=>?_]
    .rw [ä];show#[B,by simp,λa m b J e=>?_];rw[Zs.mp J]at e;subst e;rw[(n a m).2]at f;cases f
    .rcases Ê.mp m with m|m
     .show #[(n a m).1,aF f (n a m).2]
     .rw [Zs.mp m];show#[l.free f,aa]
   simpa only[du,ĳ]using q
  .have O:i=↑kvs:=()
   show .inl #[#[kvs,l.get u,()],λp f=>?_];show G p od H1 _ c M u (l.new f) (l.free f) () B (λm=>?_) (λa m=>#[(n a m).1,aF f (n a m).2]) aa;rw[(n p m).2]at f;cases f
 rcases D with e|⟨od,e⟩
 .show #[a,kvs,rfl,.inl #[e,λod=>r od _ ?_ aa]];intro b o K q;rw[ao (by simpa using K)];show q
 .show #[a,kvs,rfl,.inr #[od,e,r od H (λb o _ q=>q) e]]
def DGet.r{k:Key}(e:Rd H a<|.dK kvs):DGet H a (kV k) (bh kvs k):=.inl #[kvs,k,e,rfl,rfl]
end
end L2
namespace Mm
def Lx.irr(s:Int×Int):¬Lx s s:=λh=>by rcases h with h|⟨_,h⟩<;>rfl'
def Lx.asym(h:Lx s t)(a:Lx t s):False:=by
 rcases h with h|⟨h1,h2⟩<;>rcases a with g|⟨g1,g2⟩<;>rfl'
theorem qe:∀{l k:ϊ<|Int×Int},l.Pairwise Lx->k.Pairwise Lx->(∀s,s∈l↔s∈k)->l=k
 |[],[],_,_,_=>rfl
 |[],b::k,_,_,h=>absurd ((h b).mpr<|by simp)<|by simp
 |a::l,[],_,_,h=>absurd ((h a).mp<|by simp)<|by simp
 |a::l,b::k,hl,hk,h=>by
  let#[f,d]:=ο.mp hl;let#[g,c]:=ο.mp hk;have e:a=b:=by
   rcases Æ.mp ((h a).mp<|by simp)with e|m
   .show e
   .rcases Æ.mp ((h b).mpr<|by simp)with e|m'
    .show e.symm
    .show (Lx.asym (f b m')<|g a m).elim
  subst e;have i:l=k:=qe d c λs=>by
   constructor
   .intro m;rcases Æ.mp ((h s).mp<|Ç _ m)with e|m'
    .subst e;show absurd (f s m)<|Lx.irr s
    .show m'
   .intro m;rcases Æ.mp ((h s).mpr<|Ç _ m)with e|m'
    .subst e;show absurd (g s m)<|Lx.irr s
    .show m'
  rw[i]
def La{c:ϊ<|Int×Int}(h:c.Pairwise Lx):c.Nodup:=ħ (λ{a b} (h:Lx a b) (e:a=b)=>Lx.irr a<|by rw[<-e]at h;show h) h
def qg{h:Nat}(g:h<=60)(f:a.Pairwise Lx)(e:∀s∈a,On h ↑b s):aY b (bV b a)=a:=by
 show qe (fV _ _) f λs=>?_
 have c:∀x y:Nat,(b.getD x 0^^^(bV b a).getD x 0).testBit y=decide (((x:Int),(y:Int))∈a):=by
  intro x y;rw[ş,mQ x y a b e];have i:decide (a.count ((x:Int),(y:Int))%2=1)=decide (((x:Int),(y:Int))∈a):=by
   by_cases m:((x:Int),(y:Int))∈a
   .rw [(La f).count,if_pos m,Ï m];rfl
   .rw [List.count_eq_zero.mpr m,Ø m];rfl
  rw[i]
  cases(b.getD x 0).testBit y<;>simp
 rw[jQ];constructor
 .rintro ⟨x,y,rfl,_,_,d⟩;rw[c]at d;show ô d
 .intro m;let#[j,k,l,n]:=e s m;show#[s.1.toNat,s.2.toNat,?_,(),(),?_]
  .rw [show((s.1.toNat:Nat):Int)=s.1 by rfl',show((s.2.toNat:Nat):Int)=s.2 by rfl']
  .rw [c,show((s.1.toNat:Nat):Int)=s.1 by rfl',show((s.2.toNat:Nat):Int)=s.2 by rfl'];show Ï m
def Lb{h:Nat}(m:Nat)(c:h<=60)(d:∀x∈a,x<2^h)(e:∀y∈b,y<2^h):aY a (bV a<|(aY a b).take m)=(aY a b).take m:=
 qg c (Θ (Đ _ _)<|fV a b) λs f=>iu d e s<|Ā f
def Ld{h:Nat}(m:Nat)(c:h<=60)(g:↑a=↑b)(d:∀x∈a,x<2^h)(f:∀y∈b,y<2^h):aY (bV a<|(aY a b).take m) b=(aY a b).drop m:=by
 have e:b=bV (bV a<|(aY a b).take m) ((aY a b).drop m):=by
  rw[Hw,Ď,zH c g d f]
 generalize hP:aY a b=P at e⊢
 conv=>lhs;rw[e]
 show qg c ?_ λs i=>?_
 .rw [<-hP];show Θ (List.drop_sublist _ _)<|fV a b
 .rw [eY];show iu d f s<|by rw[hP];show List.mem_of_mem_drop i
def bits_le{h n:Nat}(f:h<=60)(b:n<2^h):(List.range h).filter n.testBit=Bm.bits 60 n:=by
 let#[d,e]:∃d,60=h+d:=#[60-h,()];unfold Bm.bits;have a:(List.map (λx=>h+x)<|List.range d).filter n.testBit=[]:=by
  apply List.filter_eq_nil_iff.mpr;intro k c;let#[j,_,rfl]:=Zp.mp c;rw[Nat.testBit_lt_two_pow<|Ó b<|Ν (by decide) ()];decide
 rw[e,List.range_add,ŕ,a,í]
end Mm
namespace L2
open PySem
noncomputable def kz(kvs:ϊ Kz):ϵ:=kvs.map λp:Kz=>(p.1,p.2.2)
def VD{a:ϊ V}(e:H l=!(.lst (y::a)))(h:Q y<|upd H l<|.lst a):yK (.ref l) [.int 0] H Q:=⟨l,y::a,0,0,y,rfl,rfl,e,by decide,by decide,by
 unfold seqIndex?;simp,rfl,h⟩
def s_pop{a:ϊ V}(e:H l=!(.lst<|a++[y]))(h:Q y<|upd H l<|.lst a):Ud (.ref l) [] H Q:=#[l,a++[y],y,rfl,rfl,e,by simp,by rw[List.dropLast_concat];show h]
section
def iES(R:It->Hp->Prop)(vs ks:ϊ V)(H:Hp):Prop:=∃x o,vs=[.str x]/\ks=[.int ((o:Nat):Int)]/\o<=1000000000/\R (Uu x o) H
def VF{a b:TA}(h:a σ H λvs H1=>b σ H1 λks H2=>iES R vs ks H2):yZ a b σ H R:=h
def Zt{a:ϊ Nat}{o:Nat}(A:o<=1000000000)(z:↑a<=1000000)(d:Nat->ϊ V->Hp->Prop)(v:d 0 [] H)(E:∀i ys H',d i ys H'->↑ys<=i)
  (D:∀(i c:Nat) p ys H',a[i]?=!c->d i ys H'->H' p=none->g (.ref p) (cap κ σ) (upd H' p (.tup [.int ((i+o:Nat):Int),.str (tx [c])])) λj H2=>pG (cap κ σ) j/\q j H2 λb n=>if b=true then s j n λy t=>d (i+1) (ys++[y]) t else d (i+1) ys n)
  (w:∀ys H',d ↑a ys H'->∀p,H' p=none->Q (.ref p) (upd H' p (.lst ys))):iES (Fl κ g q s σ Q) [.str (tx a)] [.int ((o:Nat):Int)] H:=by
 show#[tx a,o,rfl,rfl,A,λi m ys H'=>m=↑a-i/\i<=↑a/\d i ys H',#[↑a,by simp,â _,v],?_];rintro i m ys H' ⟨rfl,F,p⟩;by_cases h:i<↑a
 .show .inr #[h,?_,λk f=>d (i+1) k f,λk f l=>#[↑a-(i+1),(),rfl,h,l],λx f y=>?_]
  .show Ý (E i ys H' p) (Ó h (Ð z (by decide)))
  .obtain ⟨r,c,C,rfl,rfl,u⟩:=y;show D i c r ys _ (by simpa[tx]using u) p C
 .have e:i=↑a:=()
  subst e;show .inl #[rfl,λl B=>w ys H' p l B]
end
def Le(r:Rd H a<|.dK c)(d:PySem.Obj->Nat->St->Hp->Prop)(t:∀od H1,Sb [a] H H1->H1 a=!(.frz od<|.dK c)->d od 0 σ H1)(w:∀od i σ H',d od i σ H'->H' a=!(.frz od<|.dK c))
  (A:∀od (i:Nat) z σ H',c[i]?=!z->d od i σ H'->g (kV z.1) σ H' λj H2=>tb {D with nx:=d od<|i+1,ct:=d od<|i+1,bk:=D.nx} j H2) (v:∀od σ H',d od ↑c σ H'->D.nx σ H'):iDK (oE g tb D σ) (.ref a) H:=by
 have h:∀od H1,Sb [a] H H1->H1 a=!(.frz od<|.dK c)->oE g tb D σ (yW od a) H1:=by
  intro od H1 E n;show#[λi m σ H=>m=↑c-i/\i<=↑c/\d od i σ H,#[↑c,by simp,â _,t od H1 E n],?_];rintro i m σ H' ⟨rfl,J,p⟩;have e:=w od i σ H' p;by_cases f:i<↑c
  .show .inr #[#[c,e,f],d od<|i+1,λI H' C=>#[↑c-(i+1),(),rfl,f,C],λx l y=>?_];let#[rfl,G]:=y;let#[k,F,u,rfl]:=G c e;show A od i (k,F) σ _ u p
  .have s:i=↑c:=()
   subst s;show .inl #[#[c,e,Ã _],v od σ H' p]
 rcases r with e|⟨od,e⟩
 .show #[a,c,rfl,.inl #[e,λod=>h od _ ?_ aa]];intro b o B q;rw[ao<|by simpa using B];show q
 .show #[a,c,rfl,.inr #[od,e,h od H (λb o _ q=>q) e]]
def SQ{b:ϊ V}(e:SqT K H a b)(h:∀p H',Same H H'->SqT K H' p (gP b lo hi)->Q (.ref p) H'):ut K (.ref a) lo hi H Q:=⟨a,b,rfl,e,λp H' c d=>h p H' (by
 rcases c with⟨rfl,rfl,_⟩|⟨hn,rfl⟩
 .show gN _
 .show aq hn _) d⟩
def zO{b:ϊ V}(e:H a=!(.tup b))(h:∀p H',Same H H'->H' p=!(.tup<|gP b lo hi)->Q (.ref p) H'):ut K (.ref a) lo hi H Q:=⟨a,b,rfl,gL e,λp H' c d=>by
 rcases c with⟨rfl,rfl,z⟩|⟨hn,rfl⟩
 .show h _ _ (gN _)<|by rw[z];show e
 .show h _ _ (aq hn _) aa⟩
def SGet.of(e:H a=!(bM a kvs))(d:∀p∈kvs,vH H p.1 p.2.1)(c:vH H b k):SGet H a (.ref b) (dH kvs k):=#[kvs,k,b,.inl e,d,rfl,c,rfl]
def SPut.of(e:H a=!(bM a kvs))(d:∀p∈kvs,vH H p.1 p.2.1)(c:vH H b k)(f:↑kvs<=1000000):SPut H a (.ref b) v (upd H a<|bM a<|uv kvs b k v):=#[kvs,k,b,e,d,rfl,c,Ý f<|by decide,rfl]
def sX:dH kvs k=none↔k∉kvs.map (·.2.1):=by
 unfold dH;rw[Ź,Į];constructor
 .intro h m;let#[p,a,e]:=Zp.mp m;show h p a<|Ï e
 .intro h p a e;show h<|Zp.mpr #[p,a,ô e]
def HD(h:dH kvs k=!v):∃b,(b,k,v)∈kvs:=by
 unfold dH at h;let#[p,a,rfl]:=Î.mp h;have c:=ē a;have d:p.2.1=k:=by
  have:=Δ a;show ô this
 show#[p.1,by rw[<-d];show c]
def qi(h:dH kvs k=none):uv kvs b k v=kvs++[(b,k,v)]:=by
 unfold uv;rw[h];rfl
section
def Lf{l:Type}(c:l->V){xs:ϊ l}(w:SqL K H a (xs.map c))(b:Nat->St->Hp->Prop)(o:b 0 σ H)
  (s:∀i σ H',b i σ H'->SqL K H' a (xs.map c))
  (u:∀(i:Nat) x p σ H',xs[i]?=!x->b i σ H'->H' p=none->g (.ref p) σ (upd H' p (.tup [.int (i:Int),c x])) λh H2=>tb {D with nx:=b (i+1),ct:=b (i+1),bk:=D.nx} h H2)
  (q:∀σ H',b ↑xs σ H'->D.nx σ H'):iE K (oE g tb D σ) [.ref a] H:=by
 show#[a,_,rfl,w,λi m σ H=>m=↑xs-i/\i<=↑xs/\b i σ H,#[↑xs,by simp,â _,o],?_];rintro i m σ H ⟨rfl,B,p⟩;have f:=s i σ H p;by_cases d:i<↑xs
 .have j:(xs.map c)[i]?=!(c xs[i]):=by rw[À,Zl d];rfl
  show .inr #[#[_,_,f,j],b (i+1),λA H' z=>#[↑xs-(i+1),(),rfl,d,z],λv H' y=>?_];let#[r,C,t,rfl,rfl,n]:=y;have k:=n _ f;rw[j]at k
  cases k;show u i _ r σ H (Zl d) p t
 .have e:i=↑xs:=()
  subst e;show .inl #[#[_,f,by rw[Qb];show Ã _],q σ H p]
end
def jd{a b:ϊ V}(h:H p=!(.tup a))(e:H q=!(.lst b)):upd H q o p=!(.tup a):=by
 rw[ao λz=>by rw[z,e]at h;cases h];show h
def qj(d:Nat->St->Hp->Prop)(n:Nat)(o:d n σ H)
  (p:∀m σ H (N:St->Hp->Prop),d m σ H->(∀m' σ' H',m'<m->d m' σ' H'->N σ' H')->c σ H λb H1=>if b=true then tb {D with nx:=N,ct:=N,bk:=D.nx} σ H1 else D.nx σ H1)
  (e:∀σ H Q l,(∀b H1,Q b H1->l b H1)->c σ H Q->c σ H l):gM c tb D σ H:=by
 classical
 have a:∀(P:Nat->Prop),(∃m,P m)->∃m,P m/\∀k,P k->m<=k:=λP ⟨m,i⟩=>by
  induction m using Nat.strongRecOn with
  |ind m ih=>
   by_cases h:∃k,k<m/\P k
   .obtain ⟨k,g,j⟩:=h;show ih k g j
   .show #[m,i,λk j=>Nat.le_of_not_lt λg=>h #[k,g,j]]
 show uF (λσ H=>∃m,d m σ H) (λσ H=>if h:∃m,d m σ H then(a (λm=>d m σ H) h).choose else 0) #[n,o] ?_ e;intro σ H h;let#[q,r]:=(a (λm=>d m σ H) h).choose_spec;show p _ σ H _ q λm' σ' H' i f=>#[#[m',f],?_]
 rw[dif_pos h,dif_pos #[m',f]];show Ý ((a (λm=>d m σ' H') #[m',f]).choose_spec.2 m' f) i
def HF(h:dH kvs k=none):dH (kvs++[(b,k,v)]) k=!v:=by
 unfold dH at h⊢;rw[List.find?_append,Ź.mp h];simp
def Lg(h:k∈kvs.map (·.2.1)):∃v,dH kvs k=!v:=by
 cases e:dH kvs k with
 |none=>show absurd h<|sX.mp e
 |some v=>show#[v,rfl]
end L2
namespace Mm
section
variable{α:Type}
inductive Rch(bs:ϊ α)(nx:α->ϊ α):α->Prop
 |base {x:α} (h:x∈bs):Rch bs nx x
 |step {x y:α} (h:Rch bs nx x) (m:y∈nx x):Rch bs nx y
theorem Rch.all{a:ϊ α}{b:α->ϊ α}{P:α->Prop}(c:∀x∈a,P x)(d:∀x y,P x->y∈b x->P y):∀{x},Rch a b x->P x:=λh=>by
 induction h with
 |base h=>show c _ h
 |step h m ih=>show d _ _ ih m
structure Clo(bs:ϊ α)(nx:α->ϊ α)(F W:ϊ α):Prop where
 nd:F.Nodup
 rF:∀x∈F,Rch bs nx x
 rW:∀x∈W,Rch bs nx x
 b:∀x∈bs,x∈F\/x∈W
 c:∀x∈F,∀y∈nx x,y∈F\/y∈W
theorem Clo.start(a:ϊ α)(b:α->ϊ α):Clo a b [] a:=#[List.nodup_nil,λx m=>(by cases m),λx m=>.base m,λx m=>.inr m,λx m=>(by cases m)]
theorem Clo.skip{b:ϊ α}{c:α->ϊ α}{F W:ϊ α}{x:α}(h:Clo b c F<|W++[x])(m:x∈F):Clo b c F W:=by
 have k:∀y,y∈F\/y∈W++[x]->y∈F\/y∈W:=λy hy=>by
  rcases hy with hy|hy
  .show .inl hy
  .rcases Ê.mp hy with hy|hy
   .show .inr hy
   .rw [Zs.mp hy];show .inl m
 show#[h.nd,h.rF,λy a=>h.rW y<|é _ a,λy a=>k y<|h.b y a,λy a z d=>k z<|h.c y a z d]
theorem Clo.take{f:ϊ α}{c:α->ϊ α}{F W:ϊ α}{x:α}(h:Clo f c F<|W++[x])(m:x∉F):Clo f c (F++[x]) (W++c x):=by
 have g:=h.rW x<|ß _<|Zs.mpr rfl;have k:∀y,y∈F\/y∈W++[x]->y∈F++[x]\/y∈W++c x:=λy hy=>by
  rcases hy with hy|hy
  .show .inl<|é _ hy
  .rcases Ê.mp hy with hy|hy
   .show .inr<|é _ hy
   .show .inl<|ß _ hy
 show#[?_,λy my=>?_,λy my=>?_,λy my=>k y<|h.b y my,λy my z d=>?_]
 .show ä.mpr #[h.nd,by simp,λa i b j e=>m ?_];rw[Zs.mp j]at e;rw[<-e];show i
 .rcases Ê.mp my with my|my
  .show h.rF y my
  .rw [Zs.mp my];show g
 .rcases Ê.mp my with my|my
  .show h.rW y<|é _ my
  .show .step g my
 .rcases Ê.mp my with my|my
  .show k z<|h.c y my z d
  .rw [Zs.mp my]at d;show .inr<|ß _ d
theorem Clo.fin{a:ϊ α}{b:α->ϊ α}{F:ϊ α}(h:Clo a b F [])(x:α):x∈F↔Rch a b x:=by
 show#[h.rF x,λr=>?_];induction r with
 |base m=>show(h.b _ m).resolve_right<|by simp
 |step r m ih=>show(h.c _ ih _ m).resolve_right<|by simp
end
end Mm
namespace L2
open PySem
def MnE(t:TE):Prop:=∀σ H (Q Q':VK),(∀v H1,Q v H1->Q' v H1)->t σ H Q->t σ H Q'
def MnT(t:TT):Prop:=∀σ H (Q Q':ϑ->Hp->Prop),(∀v H1,Q v H1->Q' v H1)->t σ H Q->t σ H Q'
def MnR(r:R2):Prop:=∀x y H (Q Q':VK),(∀v H1,Q v H1->Q' v H1)->r x y H Q->r x y H Q'
def Zu{a:TE}(e:MnR r)(c:MnE a)(d:MnE b):MnE (aO r a b):=λj H Q i h z=>c _ _ _ _ (λx f z=>d _ _ _ _ (λy g z=>e _ _ _ _ _ h z) z) z
def Rb(a:MnE t):MnT (aQ t):=λd H Q c h z=>a _ _ _ _ (λx b ⟨k,e,z⟩=>#[k,e,h _ _ z]) z
def Rc(K:Ϗ):MnR (rNeD K):=λx y H Q g h ⟨d,e,a,b,c,f,z⟩=>#[d,e,a,b,c,f,h _ _ z]
def iSK(R:It->Hp->Prop):V->Hp->Prop:=λx H1=>∃a kvs,x=.ref a/\((H1 a=!(bM a kvs)/\∀od,R (zp od a kvs)<|upd H1 a<|.frz od<|bM a kvs)\/∃od,H1 a=!(.frz od<|bM a kvs)/\R (zp od a kvs) H1)
def iSI(R:It->Hp->Prop):V->Hp->Prop:=λx H1=>∃a kvs,x=.ref a/\((H1 a=!(bM a kvs)/\∀od,R (zr od a kvs)<|upd H1 a<|.frz od<|bM a kvs)\/∃od,H1 a=!(.frz od<|bM a kvs)/\R (zr od a kvs) H1)
section
def Lh(h:tl σ H<|iSK R):uz tl σ H R:=h
def HH(h:tl σ H<|iSI R):uA tl σ H R:=h
def Li:Sb [a] H (upd H a o):=λb o c q=>by rw[ao<|by simpa using c];show q
def SX(c:Rd H a<|bM a kvs)(h:∀od H1,Sb [a] H H1->H1 a=!(.frz od<|bM a kvs)->R (zp od a kvs) H1):iSK R (.ref a) H:=by
 rcases c with e|⟨od,e⟩
 .show #[a,kvs,rfl,.inl #[e,λod=>h od _ Li aa]]
 .show #[a,kvs,rfl,.inr #[od,e,h od H (λb o _ q=>q) e]]
def Zv(c:Rd H a<|bM a kvs)(h:∀od H1,Sb [a] H H1->H1 a=!(.frz od<|bM a kvs)->R (zr od a kvs) H1):iSI R (.ref a) H:=by
 rcases c with e|⟨od,e⟩
 .show #[a,kvs,rfl,.inl #[e,λod=>h od _ Li aa]]
 .show #[a,kvs,rfl,.inr #[od,e,h od H (λb o _ q=>q) e]]
def VG(j:Rd H a<|bM a kvs)(b:PySem.Obj->Nat->St->Hp->Prop)(l:∀od H1,Sb [a] H H1->H1 a=!(.frz od<|bM a kvs)->b od 0 σ H1)(e:∀od i σ H',b od i σ H'->H' a=!(.frz od<|bM a kvs))
  (q:∀od (i:Nat) z σ H',kvs[i]?=!z->b od i σ H'->g (.ref z.1) σ H' λd H2=>tb {D with nx:=b od<|i+1,ct:=b od<|i+1,bk:=D.nx} d H2) (o:∀od σ H',b od ↑kvs σ H'->D.nx σ H'):iSK (oE g tb D σ) (.ref a) H:=by
 show SX j λod H1 s h=>#[λi m σ H=>m=↑kvs-i/\i<=↑kvs/\b od i σ H,#[↑kvs,by simp,â _,l od H1 s h],?_]
 rintro i m σ H' ⟨rfl,u,p⟩;by_cases c:i<↑kvs
 .show .inr #[#[e od i σ H' p,c],b od<|i+1,λt H' r=>#[↑kvs-(i+1),(),rfl,c,r],λx f y=>?_];let#[rfl,z,n,rfl]:=y;show q od i z σ _ n p
 .have k:i=↑kvs:=()
  subst k;show .inl #[#[e od _ σ H' p,Ã _],o od σ H' p]
def VH(j:Rd H a<|bM a kvs)(b:PySem.Obj->Nat->St->Hp->Prop)(l:∀od H1,Sb [a] H H1->H1 a=!(.frz od<|bM a kvs)->b od 0 σ H1)(e:∀od i σ H',b od i σ H'->H' a=!(.frz od<|bM a kvs))
  (s:∀od (i:Nat) z p σ H',kvs[i]?=!z->b od i σ H'->H' p=none->g (.ref p) σ (upd H' p<|.tup [.ref z.1,z.2.2]) λd H2=>tb {D with nx:=b od<|i+1,ct:=b od<|i+1,bk:=D.nx} d H2) (o:∀od σ H',b od ↑kvs σ H'->D.nx σ H'):iSI (oE g tb D σ) (.ref a) H:=by
 show Zv j λod H1 u h=>#[λi m σ H=>m=↑kvs-i/\i<=↑kvs/\b od i σ H,#[↑kvs,by simp,â _,l od H1 u h],?_]
 rintro i m σ H' ⟨rfl,w,p⟩;by_cases c:i<↑kvs
 .show .inr #[#[e od i σ H' p,c],b od<|i+1,λv H' t=>#[↑kvs-(i+1),(),rfl,c,t],λx f y=>?_];let#[q,z,r,n,rfl,rfl]:=y;show s od i z q σ _ n p r
 .have k:i=↑kvs:=()
  subst k;show .inl #[#[e od _ σ H' p,Ã _],o od σ H' p]
def Zw(D:Rd H a (bM a kvs))(L:↑kvs<=1000000)(f:ό×Sk×V->ύ V)
  (h:∀od H1,Sb [a] H H1->H1 a=!(.frz od (bM a kvs))->
   (∀(i:Nat) z,kvs[i]?=!z->∀(A:VK)(B:Hp->Prop),(∀y,f z=!y->A y H1)->(f z=none->B H1)->g (.ref z.1) (cap κ σ) H1 λj H2=>pG (cap κ σ) j/\tc j H2 λb t=>if b=true then te j t A else B t)/\
   ∀p,H1 p=none->Q (.ref p) (upd H1 p (.lst (kvs.filterMap f)))):iSK (Fl κ g tc te σ Q) (.ref a) H:=by
 show SX D λod H1 J o=>?_
 let#[I,F]:=h od H1 J o;show#[λi m C l=>m=↑kvs-i/\i<=↑kvs/\l=H1/\C=(kvs.take i).filterMap f,#[↑kvs,by simp,â _,rfl,rfl],?_];rintro i m C l ⟨rfl,K,rfl,rfl⟩;by_cases d:i<↑kvs
 .have q:kvs[i]?=!kvs[i]:=Zl d;have u:kvs.take (i+1)=kvs.take i++[kvs[i]]:=by rw[Ò,q];rfl
  have s:↑((kvs.take i).filterMap f)<=1000000:=Ð (Ŀ _ _) (by rw[Ñ];rfl');show .inr #[#[o,d],Ý s (by decide),λk c=>c=l/\k=(kvs.take (i+1)).filterMap f,λk c x=>#[↑kvs-(i+1),(),rfl,d,x.1,x.2],λv c y=>?_];let#[rfl,z,w,rfl]:=y;rw[q]at w;have r:kvs[i]=z:=Ü w;show I i z (by rw[q,r]) (λy n=>n=c/\(kvs.take i).filterMap f++[y]=(kvs.take (i+1)).filterMap f) (λn=>n=c/\(kvs.take i).filterMap f=(kvs.take (i+1)).filterMap f)
   (λy e=>#[rfl,by rw[u,Mm.dW,r,e];rfl]) (λe=>#[rfl,by rw[u,Mm.dW,r,e];simp])
 .have E:i=↑kvs:=()
  subst E;show .inl #[#[o,Ã _],λp G=>?_];rw[Þ];show F p G
def VJ(h:td σ H λx H1=>∃a,x=.ref a/\Yn H1 a/\c σ H1 λy H2=>∃kvs k b v,H2 a=!(.dT kvs)/\y=.ref b/\H2 b=!(.tup (k.map kV))/\bh kvs k=!v/\Q v (upd H2 a (.dT (dM kvs k)))):Kd td c σ H Q:=h
def VL{d tx:TE}(h:td σ H λx H1=>∃a,x=.ref a/\Yn H1 a/\d σ H1 λy H2=>tx σ H2 λz c=>∃kvs k b,c a=!(.dT kvs)/\y=.ref b/\c b=!(.tup (k.map kV))/\↑kvs<sizeLine/\
 (∀v,bh kvs k=!v->Q v c)/\(bh kvs k=none->Q z (upd c a (.dT (kvs++[(k,z)]))))):Ke td d tx σ H Q:=h
def VM{kvs:ϊ<|ϊ Int×V}(e:H a=!(.dT<|kvs.map λp=>(p.1.map Sum.inl,p.2)))(c:kvs≠[])(h:∀b k,H b=!(.tup<|k.map V.int)->k∈kvs.map (·.1)->(∀d∈kvs.map (·.1),HT.lexLt d k=false)->Q (.ref b) H):Kg [.ref a] H Q:=#[a,kvs,rfl,e,c,h]
def SGet.ofR(e:Rd H a<|bM a kvs)(d:∀p∈kvs,vH H p.1 p.2.1)(c:vH H b k):SGet H a (.ref b) (dH kvs k):=#[kvs,k,b,e,d,rfl,c,rfl]
end
def Rf{K:Ϗ}{us:ϊ<|V×PyData}(f:PyData->Int)(e:SqL K H a (us.map (·.1)))(d:us≠[])(c:∀u∈us,Dp K H u.1 u.2/\u.2.canLay0=true/\u.2.depth<=8)(b:∀u∈us,∀v∈us,Nk.CmpD u.2 v.2/\(Nk.uB u.2 v.2=true->f u.2<=f v.2)/\(Nk.uB u.2 v.2=false->f v.2<=f u.2))(h:∀u∈us,(∀v∈us,f u.2<=f v.2)->Q u.1 H):uD K [.ref a] H Q:=#[a,us,f,rfl,e,d,c,b,h]
def Rg(h:td b H λx H1=>∃a kvs,x=.ref a/\Rd H1 a (bM a kvs)/\c b H1 λy H2=>∃o,SGet H2 a y o/\Q (o.getD .non) H2):zy td c b H Q:=h
abbrev aV:TE:=gA 0
abbrev bj:TE:=gA 1
abbrev bW:TE:=gA 2
abbrev cF:TE:=gA 3
abbrev dZ:TE:=gA 4
abbrev gw:TE:=gA 5
abbrev jk:TE:=gA 6
abbrev yl:TE:=gA 7
abbrev Lj:TE:=gA 8
abbrev Y5:TE:=gA 9
abbrev Lk:TE:=gA 10
abbrev VN:TE:=gA 11
abbrev Zx:TE:=gA 12
abbrev HJ:TE:=gA 13
abbrev Zy:TE:=gA 14
abbrev Zz:TE:=gA 15
abbrev ZC:TE:=gA 16
abbrev a2g:TE:=gA 17
abbrev Rh:TE:=gA 18
abbrev tI(n:Int):TE:=tC<|V.int n
abbrev tX(K:Ϗ)(t:TE)(n:Int):TE:=aO (jV K) t<|tC<|V.int n
abbrev cu(a:TE):TA:=eN a gf
abbrev bQ(a b:TE):TA:=eN a<|eN b gf
abbrev oF(a b c:TE):TA:=eN a<|eN b<|eN c gf
abbrev Ri(a b c d:TE):TA:=eN a<|eN b<|eN c<|eN d gf
abbrev fP(K:Ϗ)(t:TE):TE:=gY (yQ K)<|eN t gf
abbrev bG(sp:Sp)(t:TA):TE:=nH sp [] E0 t
end L2
end
set_option Elab.async false
set_option linter.all false
set_option maxRecDepth 100000
open L2
local macro_rules|`(tactic|walk_at "si")=>`(tactic|first|assumption|(with_reducible exact Mm.big_pos)|(with_reducible exact Int.pow_pos (by decide))|rfl'|(dsimp only;rfl')|exact ⟨by rfl',by rfl'⟩|exact Or.inr ⟨by rfl',by rfl'⟩|exact Or.inl ⟨by rfl',by rfl'⟩|exact ⟨by rfl',by rfl',by rfl'⟩|exact ⟨by rfl',by rfl',by decide⟩|(dsimp only;decide)|exact Mm.QC _|exact Mm.big_pos|exact Int.pow_pos (by decide))
local macro_rules|`(tactic|walk_at "gp")=>`(tactic|repeat (first|walk_at "st"|(with_reducible (refine Vm (xs:=?xs) ?e ?_;case e=>assumption))))
local macro_rules|`(tactic|symm)=>`(tactic|repeat walk_at "st")
local macro_rules|`(tactic|walk_at "gq")=>`(tactic|(intro R h;(with_unfolding_all walk_at "gp");exact h))
local macro_rules|`(tactic|walk_at "sx")=>do
 let f(s:String):=(s.splitOn " ").toArray.mapM λ n=>`(Lean.Parser.Tactic.tacticSeq|refine $(Lean.mkIdent (.str `L2 n)) ?_)
 let ta<-f "Ks YF YG V7 YH a1r"
 let tb<-f "s_c QH s_call QG V9 YK YZ"
 let tc<-f "Z0 Z1 Va a2e Zj KR Vs Zm Zk KC Vt Vu KD a1u YQ YL YM Vb"
 let td<-f "YS a1v"
 let te<-f "Vc YT Vd a1w YW J8 J7 YB YC YD V4 a1t a1s a1z"
 let tf<-f "V8 QJ Ve Vf"
 let tg<-f "a1x Zc Zd"
 let th<-f "Ze Zh QQ QT QR QS Rg VJ VL Lh HH Z2 Z3"
 let ti<-f "a2b Kr Vg Vh a2c Z6 Z7 Z8 Z9 a2d QK Vi QL QM Vj R9 R8 QZ VF KZ Vq Vp Vr"
 `(tactic|with_reducible first|(first $[|$ta]*)|(refine YJ (v := ?v) ?e ?_; case e => with_unfolding_all exact rfl)|(first $[|$tb]*)|(refine a1y ?_ ?_; (with_unfolding_all walk_at "si"))|(first $[|$tc]*)|(refine QV (b := ?b) (c := ?c) ?h1 ?h2 ?_; (case h1 => walk_at "gq"); (case h2 => walk_at "gq"))|(first $[|$td]*)|(refine Vl (b := ?b) (c := ?c) ?h1 ?h2 ?_; (case h1 => walk_at "gq"); (case h2 => walk_at "gq"))|(first $[|$te]*)|(refine Kw (b := ?b) (c := ?c) (x := ?x) (y := ?y) (z := ?z) ?h1 ?h2 ?h3 ?h4 ?h5 ?_; (case h1 => walk_at "gq"); (case h2 => walk_at "gq"); (case h3 => walk_at "gq"); (case h4 => walk_at "gq"); (case h5 => walk_at "gq"))|(first $[|$tf]*)|(refine YX (x := ?v) ?e ?_; case e => with_unfolding_all exact rfl)|(first $[|$tg]*)|(refine a2a ?_ ?_; with_unfolding_all exact rfl)|(first $[|$th]*)|(refine Z5 ?_ ?_; (with_unfolding_all first | decide|(simp; rfl') | simp))|(first $[|$ti]*)|(refine Z4 ?_ ?_; (with_unfolding_all first | exact a1q | exact ext2 | exact ext3)))
local macro_rules|`(tactic|walk_at "st")=>`(tactic|first|with_reducible refine SM ?_|walk_at "sx")
local macro_rules|`(tactic|walk_at "sj")=>`(tactic|first|walk_at "sx")
local macro_rules|`(tactic|walk_at "gj")=>`(tactic|repeat walk_at "sj")
local macro_rules|`(tactic|walk_at "hp")=>`(tactic|first
 | assumption
 | exact aa
 | (refine gI ?_;walk_at "hp")
 | (refine gL ?_;walk_at "hp")
 | (refine fj (by assumption) ?_;walk_at "hp")
 | (refine Fi (by assumption) ?_;walk_at "hp")
 | (refine aF (by assumption) ?_;walk_at "hp")
 | (refine Same.seq (by assumption) ?_;walk_at "hp")
 | (refine Same.tup (by assumption) ?_;walk_at "hp")
 | (refine Same.get (by assumption) ?_;walk_at "hp"))
local macro_rules|`(tactic|walk_at "sm")=>`(tactic|first|assumption|exact gN _|(refine Same.new ?_ (by assumption);walk_at "sm")|(refine Same.trans ?_ (by assumption);walk_at "sm"))
local macro_rules|`(tactic|walk_at "ns")=>`(tactic|try dsimp only [L2.start,List.map,List.length,Nat.reduceAdd,Nat.reduceSub,List.reduceReplicate,Ρ,List.nil_append,List.set])
local macro_rules|`(tactic|apply $e)=>`(tactic|(symm;refine $e))
namespace Pg
variable{v:V}{ds:L2S}{r:Nat×Nat}{p:ό}{w:ϴ}{b c y:ϊ Nat}{M ht i j m n room x:Nat}{wss:ϲ}
inductive An2(A0 A1:Prop):Prop
 |mk (a0:A0) (a1:A1):An2 A0 A1
inductive An3(A0 A1 A2:Prop):Prop
 |mk (a0:A0) (a1:A1) (a2:A2):An3 A0 A1 A2
inductive An4(A0 A1 A2 A3:Prop):Prop
 |mk (a0:A0) (a1:A1) (a2:A2) (a3:A3):An4 A0 A1 A2 A3
inductive An5(A0 A1 A2 A3 A4:Prop):Prop
 |mk (a0:A0) (a1:A1) (a2:A2) (a3:A3) (a4:A4):An5 A0 A1 A2 A3 A4
inductive An6(A0 A1 A2 A3 A4 A5:Prop):Prop
 |mk (a0:A0) (a1:A1) (a2:A2) (a3:A3) (a4:A4) (a5:A5):An6 A0 A1 A2 A3 A4 A5
inductive An7(A0 A1 A2 A3 A4 A5 A6:Prop):Prop
 |mk (a0:A0) (a1:A1) (a2:A2) (a3:A3) (a4:A4) (a5:A5) (a6:A6):An7 A0 A1 A2 A3 A4 A5 A6
inductive An8(A0 A1 A2 A3 A4 A5 A6 A7:Prop):Prop
 |mk (a0:A0) (a1:A1) (a2:A2) (a3:A3) (a4:A4) (a5:A5) (a6:A6) (a7:A7):An8 A0 A1 A2 A3 A4 A5 A6 A7
inductive An10(A0 A1 A2 A3 A4 A5 A6 A7 A8 A9:Prop):Prop
 |mk (a0:A0) (a1:A1) (a2:A2) (a3:A3) (a4:A4) (a5:A5) (a6:A6) (a7:A7) (a8:A8) (a9:A9):An10 A0 A1 A2 A3 A4 A5 A6 A7 A8 A9
inductive An11(A0 A1 A2 A3 A4 A5 A6 A7 A8 A9 A10:Prop):Prop
 |mk (a0:A0) (a1:A1) (a2:A2) (a3:A3) (a4:A4) (a5:A5) (a6:A6) (a7:A7) (a8:A8) (a9:A9) (a10:A10):An11 A0 A1 A2 A3 A4 A5 A6 A7 A8 A9 A10
inductive An15(A0 A1 A2 A3 A4 A5 A6 A7 A8 A9 A10 A11 A12 A13 A14:Prop):Prop
 |mk (a0:A0) (a1:A1) (a2:A2) (a3:A3) (a4:A4) (a5:A5) (a6:A6) (a7:A7) (a8:A8) (a9:A9) (a10:A10) (a11:A11) (a12:A12) (a13:A13) (a14:A14):An15 A0 A1 A2 A3 A4 A5 A6 A7 A8 A9 A10 A11 A12 A13 A14
inductive Ex1{α0:Type}(P:α0->Prop):Prop
 |mk (a0:α0) (h:P a0):Ex1 P
inductive Ex2{α0 α1:Type}(P:α0->α1->Prop):Prop
 |mk (a0:α0) (a1:α1) (h:P a0 a1):Ex2 P
inductive Ex3{α0 α1 α2:Type}(P:α0->α1->α2->Prop):Prop
 |mk (a0:α0) (a1:α1) (a2:α2) (h:P a0 a1 a2):Ex3 P
inductive Ex4{α0 α1 α2 α3:Type}(P:α0->α1->α2->α3->Prop):Prop
 |mk (a0:α0) (a1:α1) (a2:α2) (a3:α3) (h:P a0 a1 a2 a3):Ex4 P
inductive Ex5{α0 α1 α2 α3 α4:Type}(P:α0->α1->α2->α3->α4->Prop):Prop
 |mk (a0:α0) (a1:α1) (a2:α2) (a3:α3) (a4:α4) (h:P a0 a1 a2 a3 a4):Ex5 P
inductive Ex6{α0 α1 α2 α3 α4 α5:Type}(P:α0->α1->α2->α3->α4->α5->Prop):Prop
 |mk (a0:α0) (a1:α1) (a2:α2) (a3:α3) (a4:α4) (a5:α5) (h:P a0 a1 a2 a3 a4 a5):Ex6 P
inductive Ex8{α0 α1 α2 α3 α4 α5 α6 α7:Type}(P:α0->α1->α2->α3->α4->α5->α6->α7->Prop):Prop
 |mk (a0:α0) (a1:α1) (a2:α2) (a3:α3) (a4:α4) (a5:α5) (a6:α6) (a7:α7) (h:P a0 a1 a2 a3 a4 a5 a6 a7):Ex8 P
open PySem L2
noncomputable def aK0:ό:=71
noncomputable def aK4:ό:=84
noncomputable def aK5:ό:=96
noncomputable def aK1:ό:=108
noncomputable def aK3:ό:=120
noncomputable def aK2:ό:=132
noncomputable def bJ:ό:=327
theorem fW{b:ϊ V}(e:H a=!(.tup (v::b)))(h:Q v H):jV K (.ref a) (.int 0) H Q:=cM (gL e) (aH (j:=0) (v:=v) rfl) h
theorem dB{b:ϊ V}(e:H a=!(.tup (v0::v::b)))(h:Q v H):jV K (.ref a) (.int 1) H Q:=cM (gL e) (aH (j:=1) (v:=v) rfl) h
theorem jY{b:ϊ V}(e:H a=!(.tup (v0::v1::v::b)))(h:Q v H):jV K (.ref a) (.int 2) H Q:=cM (gL e) (aH (j:=2) (v:=v) rfl) h
inductive fh(K:Ϗ)(vs:ϊ V)(H:Hp)(Q:VK)(E:XK):Prop
 |mk (x:V) (a:vs=[x]) (b:Thing H x) (c:Q (.bl<|isI x) H)
def zP K(E:XK)(Eh:XK):=(aP<|gU (gY (dF K)<|bQ aV<|tC<|V.ty "int")<|Ef<|gY (dF K)<|bQ aV<|tC<|V.ty "bool")
abbrev zQ:ϊ ϐ:=sN ["thing"]
theorem VP(h:fh K vs H Q E):RG (zP K E) zQ vs H Q:=by
 let#[x,rfl,a,q]:=h;show#[E0,?_];unfold zP zQ sN;symm;rcases a.ty (K:=K)with⟨b,rfl⟩|⟨i,rfl⟩|⟨s,rfl,_⟩|⟨n,ty,hn,e,_⟩
 .show dI (.bl b) (b:=true) rfl ?_;apply dI (.bl b) (b:=true) rfl ?_;apply q
 .show dI (.int i) (b:=true) rfl ?_;apply dI (.int i) (b:=false) rfl ?_;apply q
 .show dI (.str s) (b:=false) rfl ?_;apply q
 .rw [e]at q;show dI ty (b:=false) (by rcases hn with rfl|rfl|rfl|rfl<;>rfl) ?_;apply q
def hgt:V->ϑ
 |.int i=>decide (1<=i)&&decide (i<=60)
 |_=>false
inductive eW(K:Ϗ)(vs:ϊ V)(H:Hp)(Q:VK)(E:XK):Prop
 |mk (x:V) (a:vs=[x]) (b:Thing H x) (c:Q (.bl<|hgt x) H)
def zR K(E:XK)(Eh:XK):=(aP<|gU (bG (fh K)<|cu aV)<|fH jW jW (tI 1) aV<|tI 60)
abbrev zT:ϊ ϐ:=sN ["thing"]
theorem VR(h:eW K vs H Q E):RG (zR K E) zT vs H Q:=by
 let#[x,rfl,a,q]:=h;show#[E0,?_];unfold zR zT sN;apply#[x,rfl,a,?_]
 cases x with
 |int i=>
  symm;change if true=true then _ else _
  apply q
 |_=>
  symm;change if false=true then _ else _
  apply q
noncomputable def sgn:V->ϑ
 |.str s=>decide (↑s=1)&&(not (decide<|s.cps.toList<(Str.ofString " ").cps.toList)&&(not (decide<|(Str.ofString "~").cps.toList<s.cps.toList)&&not (decide<|((s.cps.getD 0 0:Nat):Int)=37)))
 |_=>false
theorem zU(h:Hs.Sg s):sgn (.str s)=true:=by
 let#[n,rfl]:=h;have:∀c∈Hs.Og.cps.toList,sgn (.str<|tx [c])=true:=by ac_nf
 have d:↑Hs.Og.cps.toList=94:=by ac_nf
 have a:0<=n%94:=Int.emod_nonneg _ (by decide);have b:n%94<94:=ź _ (by decide);show this _ ?_;unfold Hs.xM;rw[Yf,Zl ()];show Û _
inductive fF(K:Ϗ)(vs:ϊ V)(H:Hp)(Q:VK)(E:XK):Prop
 |mk (x:V) (a:vs=[x]) (b:Thing H x) (c:Q (.bl<|sgn x) H)
def zV K(E:XK)(Eh:XK):=(az (bH (yp (eQ<|fB K<|gY (dF K)<|bQ aV<|tC<|V.ty "str")<|aQ<|aO yz (fP K aV)<|tI 1) (aP<|tC<|V.bl false) aU)
  (aP<|gU (fH pI pI (tC<|V.str<|Str.ofString " ") aV<|tC<|V.str<|Str.ofString "~")<|aO yz (gY S9<|cu aV)<|tI 37))
abbrev zW:ϊ ϐ:=sN ["thing"]
theorem W3(h:fF K vs H Q E):RG (zV K E) zW vs H Q:=by
 let#[x,rfl,g,q]:=h;show#[E0,?_];unfold zV zW sN;symm;rcases g.ty (K:=K)with⟨b,rfl⟩|⟨i,rfl⟩|⟨s,rfl,hl⟩|⟨n,ty,hn,_,e⟩
 .show dI (.bl b) (b:=false) rfl ?_;apply q
 .show dI (.int i) (b:=false) rfl ?_;apply q
 .show dI (.str s) (b:=true) rfl ?_;apply uE (jb hl) ?_;apply nO (λc=>?_) λc=>?_
  .have e:sgn (.str s)=false:=by
    change(decide (↑s=1)&&_)=false;rw[Ø<|qnD c,Œ]
   rw[e]at q;apply q
  .have a:↑s=1:=by show QD c
   have e:sgn (.str s)=(not (decide<|s.cps.toList<(Str.ofString " ").cps.toList)&&(not (decide<|(Str.ofString "~").cps.toList<s.cps.toList)&&not (decide<|((s.cps.getD 0 0:Nat):Int)=37))):=by
    change(decide (↑s=1)&&_)=_;rw[Ï a,Ε]
   rw[e,<-Bool.and_assoc]at q;apply V3 (λd=>?_) λd=>?_
   .rw [d,Ε]at q;apply Zf a ?_;apply q
   .rw [d,Œ]at q;apply q
 .have f:sgn x=false:=by
   cases x with
   |str s=>show absurd rfl<|e s
   |_=>rfl
  rw[f]at q;show dI ty (b:=false) (by rcases hn with rfl|rfl|rfl|rfl<;>rfl) ?_;apply q
noncomputable def isc(h:Nat):V->ϑ
 |.int i=>decide (0<=i)&&decide (i<2^h)
 |_=>false
inductive eM(K:Ϗ)(vs:ϊ V)(H:Hp)(Q:VK)(E:XK):Prop
 |mk (h:Nat) (x:V) (a:vs=[.int h,x]) (b:Thing H x) (c:Q (.bl<|isc h x) H)
def zX K(E:XK)(Eh:XK):=(aP<|gU (bG (fh K)<|cu bj)<|gU (aO Ur bj<|tI 0)<|aO jW (Gr K "int" pJ bj) aV)
abbrev zY:ϊ ϐ:=sN ["height","thing"]
theorem W4(h:eM K vs H Q E):RG (zX K E) zY vs H Q:=by
 let#[a,x,rfl,b,q]:=h;show#[E0,?_];unfold zX zY sN;apply#[x,rfl,b,?_]
 cases x with
 |int i=>
  symm;change if true=true then _ else _
  symm;by_cases c:0<=i
  .have e:decide (((Builtin.Int.intBits i:Nat):Int)<=(a:Int))=isc a (.int i):=by
    have z:(((Builtin.Int.intBits i:Nat):Int)<=(a:Int))↔i<2^a:=by
     rw[Int.ofNat_le,PySem.intBits_le_iff];let#[n,rfl]:∃n:Nat,i=n:=#[i.toNat,Eq.symm (Sv c)];rw[<-Bx.ie,Int.natAbs_natCast,Int.ofNat_lt]
    change _=(decide (0<=i)&&decide (i<2^a));rw[Ï c,Ε];show decide_eq_decide.mpr z
   rw[<-e]at q;rw[Ï c,Ε];show q
  .have e:isc a (.int i)=false:=by
    change(decide (0<=i)&&decide (i<2^a))=false;rw[Ø c,Œ]
   rw[e]at q;rw[Ø c,Œ];show q
 |_=>
  symm;change if false=true then _ else _
  apply q
inductive f7(K:Ϗ)(vs:ϊ V)(H:Hp)(Q:VK)(E:XK):Prop
 |mk (n:Nat) (a:vs=[.int n]) (b:Q (.int<|Bm.pop n) H)
def zZ(K:Ϗ)(E:XK)(Eh:XK):=(az (aL (tI 0)<|ak 1)
  (az (gM (aQ<|aO qN aV<|tI 0) (az (aL (aO Ex aV<|aO rO aV<|tI 1)<|ak 0)
  (Ot 1 (tI 1) Ez)))
  (aP bj)))
abbrev Aa:ϊ ϐ:=sN ["column","dots"]
theorem W5(h:f7 K vs H Q E):RG (zZ K E) Aa vs H Q:=by
 let#[n,rfl,q]:=h;show#[E0,?_];unfold zZ Aa sN;show SM ?_;apply vP (λb f=>(Ex2 λ(m d:Nat)=>(An3 (b=[!(.int (m:Int)),!(.int (d:Int))]) (f=H)<|d+Bm.pop m=Bm.pop n))) (λb _=>match b with|some (.int m)::_=>m.toNat|_=>0) ⟨n,0,rfl,rfl,Eq.trans (ō 0 _) rfl⟩ ?_ ?_
 .rintro _ _ ⟨m,d,rfl,rfl,e⟩;apply fJ (λc=>?_)<|λc=>?_
  .have a:0<m:=by show V1 c
   have p:Builtin.bitAnd (m:Int) ((m:Int)-1)=((m&&&(m-1):Nat):Int):=by
    rw[show(m:Int)-1=((m-1:Nat):Int)by rfl',Bx.iV]
   symm;rw[p];have t:=Bm.Uk m a;have w:=Bm.Pr m a;show#[#[m&&&(m-1),d+1,rfl,rfl,()],?_];change((m&&&(m-1):Nat):Int).toNat<(m:Int).toNat;show t
  .have a:m=0:=by show qn1 c
   subst a;rw[Bm.lH]at e;symm;rw[show d=Bm.pop n by show e];show q
 .rintro b H Q u r ⟨v,s,i,j,g,l,k,o,z⟩;show#[v,s,i,j,g,l,k,o,r _ _ z]
inductive fk(K:Ϗ)(vs:ϊ V)(H:Hp)(Q:VK)(E:XK):Prop
 |mk (n:Nat) (a:vs=[.int n]) (b:n<2^60) (c:∀r H',Same H H'->H' r=!(.lst ((Bm.bits 60 n).map λi:Nat=>V.int (i:Int)))->Q (.ref r) H')
def Ab K(E:XK)(Eh:XK):=(aP<|m6 [none,!0] (eG<|cu<|Gr K "int" pJ aV) (ak 0) (fB K<|aO Ex (aO Jm bj aV)<|tI 1) aV)
abbrev uK:ϊ ϐ:=sN ["column"]
theorem W6(h:fk K vs H Q E):RG (Ab K E) uK vs H Q:=by
 let#[n,rfl,d,q]:=h;show#[E0,?_];unfold Ab uK sN;have b:Builtin.Int.intBits (n:Int)<=60:=(PySem.intBits_le_iff (m:=60)).mpr (by simpa using d);have a:n<2^Builtin.Int.intBits (n:Int):=by
  have:=(PySem.intBits_le_iff (m:=Builtin.Int.intBits (n:Int)) (x:=(n:Int))).mp<|Ã _;simpa using this
 apply Za (Builtin.Int.intBits (n:Int)) (Ô _) () () (λi=>if n.testBit i=true then !(V.int (i:Nat))else none) (λi j A B f g=>?_) λp e=>?_
 .symm;rw[Bx.u9,V6,Ô];show V3 (λc=>?_) λc=>?_
  .symm;show f _ (by rw[if_pos c])
  .show g (by rw[c];rfl)
 .show q _ _ (aq e _) ?_;rw[aa,Mm.Yw,Bm.GF a b];rfl
inductive fS(K:Ϗ)(vs:ϊ V)(H:Hp)(Q:VK)(E:XK):Prop
 |mk (a b:Nat) (c:vs=[.int a,.int b]) (d:Q (.int (Bm.pop (a^^^b):Nat)) H)
def Ac K(E:XK)(Eh:XK):=(aP<|bG (f7 K)<|cu<|aO Ey aV bj)
abbrev Ad:ϊ ϐ:=sN ["one","other"]
theorem W7(h:fS K vs H Q E):RG (Ac K E) Ad vs H Q:=by
 let#[a,b,rfl,q]:=h;show#[E0,?_];unfold Ac Ad sN;symm;rw[Bx.iW];show#[_,rfl,q]
inductive cE(K:Ϗ)(vs:ϊ V)(H:Hp)(Q:VK)(E:XK):Prop
 |mk (p q:ό) (a b:ϊ V) (c:vs=[.ref p,.ref q]) (d:(SqL K H p a\/SqT K H p a)) (e:(SqL K H q b\/SqT K H q b)) (f:↑a=↑b) (g:Q .non H)
def Ae K(E:XK)(Eh:XK):=(bH (aQ<|aO yz (fP K aV)<|fP K bj) cT aU)
abbrev Af:ϊ ϐ:=sN ["one","other"]
theorem W8(h:cE K vs H Q E):RG (Ae K E) Af vs H Q:=by
 let#[g,i,b,j,rfl,d,e,f,q]:=h;show#[E0,?_];unfold Ae Af sN;have c:∀{H:Hp}{Q:VK}{a:ό}{b:ϊ V},(SqL K H a b\/SqT K H a b)->Q (.int ↑b) H->yQ K [.ref a] H Q:=λh q=>h.elim (λh=>cg h q) λh=>cj h q
 apply c d ?_;apply c e ?_;apply jz (by rw[f]) ?_;apply q
inductive gu(K:Ϗ)(vs:ϊ V)(H:Hp)(Q:VK)(E:XK):Prop
 |mk (p q:ό) (a b:ϊ Nat) (c:vs=[.ref p,.ref q]) (d:SqT K H p (nv a)) (e:(SqL K H q (nv b)\/SqT K H q (nv b))) (f:↑a=↑b) (g:↑a<=1000) (h:∀H',Same H H'->Q (.int (Mm.bc a b:Nat)) H')
def Ag K(E:XK)(Eh:XK):=(az (cL<|bG (cE K)<|bQ aV bj)
  (aP<|gY (Uq K)<|cu<|m6 [none,none] (Kp K<|bQ aV bj) (gB K 2<|bf (ak 0)<|bf (ak 1) gK) du<|bG (fS K)<|bQ aV bj))
abbrev uL:ϊ ϐ:=sN ["one","other"]
theorem W9(h:gu K vs H Q E):RG (Ag K E) uL vs H Q:=by
 let#[s,m,n,g,rfl,c,a,d,k,q]:=h;show#[E0,?_];unfold Ag uL sN;apply#[_,_,_,_,rfl,.inr c,a,by rw[Qb,Qb,d],?_];symm;let#[e,a]:∃e,HY K H m (nv g) e:=a.elim (λh=>#[true,h]) λh=>#[false,h]
 show Zr (λi:Nat=>V.int (i:Int)) (λi:Nat=>V.int (i:Int)) c a d (jb k) (λx y=>V.int ((Bm.pop (x^^^y):Nat):Int)) ?_ ?_
 .intro i x y p j o r f b A l;show cP (gL b) rfl ?_;apply#[x,y,rfl,l _<|gN _]
 .intro p j f b;apply Zg (ns:=List.zipWith (λx y=>((Bm.pop (x^^^y):Nat):Int)) n g) (gI ?_) ?_
  .rw [b,List.map_zipWith]
  .rw [Mm.xq];show q _ f
inductive bP(K:Ϗ)(vs:ϊ V)(H:Hp)(Q:VK)(E:XK):Prop
 |mk (p q:ό) (a b:ϊ Nat) (c:vs=[.ref p,.ref q]) (d:SqL K H p<|a.map (λi:Nat=>V.int (i:Int))) (e:SqL K H q<|b.map (λi:Nat=>V.int (i:Int))) (f:↑a=↑b) (g:↑a<=1000) (h:(∀x∈a,x<2^60)) (j:(∀y∈b,y<2^60)) (k:∀r H' (zs:ϊ<|ό×Int×Int),H r=none->Same H H'->H' r=!(.lst<|zs.map (λz:ό×Int×Int=>V.ref z.1))->zs.map (·.2)=Mm.aY a b->SpH H' zs->Q (.ref r) H')
def Ah K(E:XK)(Eh:XK):=(az (cL<|bG (cE K)<|bQ aV bj)
  (az (aL (gO gf)<|ak 2)
  (az (cC (eG<|cu<|fP K aV) (ak 3)<|cL<|rC K "list" jK bW<|cu<|m6 [none,!3] (cB K<|bG (fk K)<|cu<|aO Ey (aO (fu K) aV cF)<|aO (fu K) bj cF) (ak 0) du<|dG<|bQ bj aV)
  (aP bW))))
abbrev uM:ϊ ϐ:=sN ["one","other","spots","x"]
theorem Wa(h:bP K vs H Q E):RG (Ah K E) uM vs H Q:=by
 let#[Z,p2,b,f,rfl,D,P,X,hn,W,C,q]:=h;show#[E0,?_];unfold Ah uM sN;apply#[_,_,_,_,rfl,.inl D,.inl P,by rw[Qb,Qb,X],?_];symm;intro r B;apply cg (fj B D) ?_;rw[Qb];symm;have j:∀p∈[r],H p=none:=λp l=>by rw[Zs.mp l];show B
 show kJ ↑b (Ô _) () () (λi M m=>(Ex1 λ(g:ϊ<|ό×Int×Int)=>(An5 (Sb [r] H m) (m r=!(.lst (g.map (λz:ό×Int×Int=>V.ref z.1)))) (g.map (·.2)=Mm.jx b f i) (SpH m g) (Ex1 λo=>M=[!(.ref Z),!(.ref p2),!(.ref r),o])))) #[[],Sb.of<|aq B _,aa,rfl,SpH.nil,_,rfl] ?_ ?_
 .rintro i M m F ⟨g,x,e,A,w,o,rfl⟩;have T:=x.seq j D;have U:=x.seq j P;have G:b.getD i 0=b[i]:=by rw[Yf,Zl F];rfl
  have I:f.getD i 0=f[i]'(by rfl'):=by rw[Yf,Zl ()];rfl
  apply eO (gI e) ?_;apply di T (aH (v:=V.int ((b[i]:Nat):Int)) (by rw[À,Zl F];rfl)) ?_;apply di U (aH (v:=V.int ((f[i]'(by rfl'):Nat):Int)) (by rw[À,Zl ()];rfl)) ?_;symm;rw[Bx.iW];show#[_,rfl,Mm.mL (W _<|Û F)<|C _<|Û (),λr1 S J N=>?_];have L:=x.same J;show xH (λi:Nat=>V.int (i:Int)) (gI N) (Ð (Ę _ _) (by simp)) (λk vs n=>(Ex1 λ(a:ϊ<|ό×Int×Int)=>(An4 (vs=a.map (λz:ό×Int×Int=>V.ref z.1)) (a.map (·.2)=((Bm.bits 60 (b[i]^^^f[i]'(by rfl'))).take k).map (λy:Nat=>((i:Int),(y:Int)))) (Same S n)<|SpH n a))) #[[],rfl,rfl,gN _,SpH.nil] ?_ ?_ ?_ ?_
  .rintro k vs n ⟨a,rfl,c,d,u⟩;show gI<|d.get N
  .rintro k vs n ⟨a,rfl,c,d,u⟩;have:=Ö List.length c;rw[Qb,Qb,Ñ]at this;rw[Qb];rfl'
  .rintro k y vs n Y ⟨a,rfl,c,d,u⟩;symm;intro t R;show#[a++[(t,(i:Int),(y:Int))],by rw[Á];rfl,?_,d.new R,(u.same<|aq R _).app (λz w=>by rw[Zs.mp w];show aa)];rw[Ò,Y,Á,Á,c];rfl
  .rintro vs n ⟨a,rfl,c,d,u⟩ p l;rw[Þ]at c;have O:=d.get<|J.get e;have s:↑g+↑a<=1000000:=by
    have z1:=Ö List.length A;have z2:=Ö List.length c;have z3:=Mm.lq (xs:=b) (ys:=f) i;have z4:↑(Bm.bits 60 (b[i]^^^f[i]'(by rfl')))<=60:=Ð (Ę _ _) (by simp);rw[Qb]at z1;rw[Qb,Qb]at z2;rfl'
   apply lW (aF l O) aa (by rw[Qb,Qb];show s) ?_;apply#[g++a,((L.same d).new l).set (by simp),by rw[aa,Á],?_,?_,_,rfl]
   .rw [Á,A,c,Mm.jy];unfold Mm.dX;rw[G,I]
   .show ((((w.same J).same d).same<|aq l _).app<|u.same<|aq l _).set<|aF l O
 .rintro M m ⟨g,x,e,A,w,o,rfl⟩;apply q r m g B (x.off j) e A w
inductive fR(K:Ϗ)(vs:ϊ V)(H:Hp)(Q:VK)(E:XK):Prop
 |mk (h:Nat) (p q:ό) (a:ϊ Nat) (b:ϊ<|Int×Int) (c:vs=[.int h,.ref p,.ref q]) (d:SqL K H p (a.map λi:Nat=>V.int (i:Int))) (e:SpL K H q b) (f:h<=60) (g:↑a<=1000) (j:(∀s∈b,Mm.On h ↑a s)) (k:(∀r H',H r=none->Same H H'->H' r=!(.lst ((Mm.bV a b).map λi:Nat=>V.int (i:Int)))->Q (.ref r) H'))
abbrev Ln K:=(az (cC (cB K bW) (gB K 2<|bf (ak 4)<|bf (ak 5) gK) (az (bH (eQ<|tK (aQ<|fH jW GQ (tI 0) dZ<|fP K bj)<|aQ<|fH jW GQ (tI 0) gw aV) cT aU)
  (aL (aO Ey (aO (fu K) cF dZ)<|aO Jl (tI 1) gw)<|Ge cF dZ rB)))
  (aP cF))
def Ai K(E:XK)(Eh:XK):=(az (aL (gY (j5 K)<|cu bj)<|ak 3)
  (Ln K))
abbrev Aj:ϊ ϐ:=sN ["height","strip","spots","answer","x","y"]
theorem Wb(h:fR K vs H Q E):RG (Ai K E) Aj vs H Q:=by
 let#[s,Y,Z,k,ss,rfl,N,#[n,m,O,U],W,hn,l,q]:=h;show#[E0,?_];unfold Ai Aj sN;apply pZ N λr o=>?_
 symm;have d:∀p∈[r],H p=none:=λp X=>by rw[Zs.mp X];show o
 show gn (λz:ό×Int×Int=>V.ref z.1) (fj o O) (λi t j=>(An4 (Sb [r] H j) (∀z∈n.take i,Mm.On s ↑k z.2) (j r=!(.lst ((Mm.bV k ((n.take i).map (·.2))).map λi:Nat=>V.int (i:Int)))) (Ex2 λI J=>t=[!(.int (s:Nat)),!(.ref Y),!(.ref Z),!(.ref r),I,J]))) ?_ ?_ ?_ ?_
 .show #[Sb.of (aq o _),by simp,aa,_,_,rfl]
 .rintro i t j ⟨g,_⟩;show g.seq d O
 .rintro i ⟨b,x,y⟩ t j F ⟨g,f,e,I,J,rfl⟩;have D:=g.tup d (U _ (Wp F));have T:=g.seq d N;show cP D rfl ?_;symm;rw[Qb];have C:(decide (0<=x)&&decide (x<(↑k:Int))&&(decide (0<=y)&&decide (y<(s:Int))))=decide (Mm.On s ↑k (x,y)):=by
   rw[<-Bool.decide_and,<-Bool.decide_and,<-Bool.decide_and];show decide_eq_decide.mpr #[λ⟨⟨u,v⟩,A,B⟩=>#[u,v,A,B],λ⟨u,v,A,B⟩=>#[#[u,v],A,B]]
  dsimp only;rw[C];show nO (λc=>?_) λc=>?_
  .show absurd (l (x,y) (by rw[<-m];show Zp.mpr #[_,Wp F,rfl])) c
  .obtain ⟨L,P,R,S⟩:=id c;dsimp only at L P R S;have a:↑(Mm.bV k ((n.take i).map (·.2)))=↑k:=Mm.eY _ _;apply di (gI e) (zJ L (by rw[Qb,a];rfl')) ?_;rw[ü];apply uG x.toNat e () (by rw[Qb,a];rfl') ?_;rw[Int.one_mul,<-Bx.ie,Bx.iW,<-List.map_set];have M:n.take (i+1)=n.take i++[(b,x,y)]:=by rw[Ò,F];rfl
   show#[g.set (by simp),?_,?_,_,_,rfl]
   .rw [M];intro z G;rcases Ê.mp G with w|w
    .show f z w
    .rw [Zs.mp w];show c
   .rw [aa,M,Á,È,ă,Mm.pX];change _=!(HO.lst ((Mm.gm _ (x,y)).map _));unfold Mm.gm;rw[Yf,Zl (by rw[a];rfl')];rfl
 .rintro t j ⟨g,f,e,I,J,rfl⟩;rw[Þ]at f e;rw[m]at e;apply q r j o (g.off d) e
abbrev Wz:=ό×ϐ×ϊ Nat×Int
def WyT(H:Hp)(z:Wz):Prop:=∃ca,H z.1=!(.tup [.str z.2.1,.ref ca,.int z.2.2.2])/\H ca=!(.tup<|nv z.2.2.1)
theorem WyT.same(h:WyT H z)(s:Same H H'):WyT H' z:=by
 let#[a,b,c]:=h;show#[a,s.get b,s.get c]
def LdT(H:Hp)(p:ό)(ws:ϳ):Prop:=∃zs:ϊ Wz,zs.map (·.2)=ws/\H p=!(.lst (zs.map λz:Wz=>V.ref z.1))/\∀z∈zs,WyT H z
theorem LdT.same(h:LdT H p a)(s:Same H H'):LdT H' p a:=by
 let#[f,b,c,d]:=h;show#[f,b,s.get c,λz e=>(d z e).same s]
def aD(ls:ϵ)(ps:L1S):ϳ:=ps.filterMap λp=>(Fo.lk ls p.1).map λco=>(p.1,co,p.2)
theorem sY(a:ϵ)(b:L1S)(p:ϐ×Int):aD a (b++[p])=aD a b++(match Fo.lk a p.1 with|none=>[]|some co=>[(p.1,co,p.2)]):=by
 unfold aD;rw[List.filterMap_append];congr 1;rw[ĥ,List.filterMap_nil]
 cases Fo.lk a p.1<;>rfl
inductive fo(K:Ϗ)(vs:ϊ V)(H:Hp)(Q:VK)(E:XK):Prop
 |mk (d c:ό) (b:ϊ Lz) (a:L1S) (e:vs=[.ref d,.ref c]) (f:H d=!(.dK (b.map λz:Lz=>((Sum.inr z.2.1:Key),V.ref z.2.2.1)))) (g:(∀z∈b,H z.2.2.1=!(.tup<|nv z.2.2.2))) (h:DrG K H c a) (i:↑a<=1000) (j:∀p H',Same H H'->H p=none->LdT H' p (aD (b.map λz:Lz=>(z.2.1,z.2.2.2)) a)->Q (.ref p) H')
def Ak K(E:XK)(Eh:XK):=(aP<|m6 [none,none,!0] (nY K bj) (gB K 2<|bf (ak 0)<|bf (ak 1) gK) (tB<|GD aV bW)<|dG<|oF aV (gh bW aV) bj)
abbrev uN:ϊ ϐ:=sN ["letters","doors"]
theorem Wc(h:fo K vs H Q E):RG (Ak K E) uN vs H Q:=by
 let#[R,Y,l,B,rfl,r,X,#[L,o,O,U],I,q]:=h;show#[E0,?_];unfold Ak uN sN;have w:↑L=↑B:=by rw[<-o,Qb]
 apply Vx (λz:ό×ϐ×Int=>V.ref z.1) (zs:=L) O (jb (qP w I)) (λi C n=>(Ex1 λ(j:ϊ Wz)=>(An5 (C=j.map (λz:Wz=>V.ref z.1)) (j.map (·.2)=aD (l.map λz:Lz=>(z.2.1,z.2.2.2)) (B.take i)) (↑j<=i) (Same H n) (∀z∈j,WyT n z)))) #[[],rfl,rfl,by simp,gN _,by simp] ?_ ?_ ?_ ?_
 .rintro i C n ⟨j,rfl,_,_,d,_⟩;show d.tup O
 .rintro i C n ⟨j,rfl,_,x,_⟩;rw[Qb];show x
 .rintro i ⟨b,s,a⟩ C n P ⟨j,rfl,v,x,d,D⟩;have G:B[i]?=!(s,a):=by rw[<-o,À,P];rfl
  have u:B.take (i+1)=B.take i++[(s,a)]:=by rw[Ò,G];rfl
  have S:=d.get (U _ (Wp P));dsimp only at S;show cP (gL S) rfl ?_;apply#[R,_,rfl,DGet.k (k:=Sum.inr s) (d.get r),?_]
  cases hlk:Fo.lk (l.map λz:Lz=>(z.2.1,z.2.2.2)) s with
  |none=>
   have W:bh (l.map λz:Lz=>((Sum.inr z.2.1:Key),V.ref z.2.2.1)) (Sum.inr s)=none:=fC (f:=λz:Lz=>(Sum.inr z.2.1:Key)) (g:=λz:Lz=>V.ref z.2.2.1) λm=>by
    let#[z,A,e]:=Zp.mp m;let#[c,N]:=Fo.KJ (ls:=l.map λz:Lz=>(z.2.1,z.2.2.2)) (s:=s) (by rw[Ä];show Zp.mpr #[z,A,İ e]);rw[hlk]at N
    cases N
   rw[W];symm;change if false=true then _ else _
   apply#[j,rfl,by rw[u,sY,v];change _=_++(match Fo.lk (l.map λz:Lz=>(z.2.1,z.2.2.2)) s with|none=>[]|some co=>[(s,co,a)]);rw[hlk,í],Sw x _,d,D]
  |some co=>
   let#[z,A,T,M]:=zM hlk;rw[M];symm;change if true=true then _ else _
   apply#[R,.ref z.2.2.1,rfl,by rw[<-M];show DGet.k (k:=Sum.inr s) (d.get r),?_];symm;intro t J;show#[j++[(t,s,co,a)],by simp,?_,by simp;show x,d.new J,λy my=>?_]
   .rw [u,sY,Á,v];change _=_++(match Fo.lk (l.map λz:Lz=>(z.2.1,z.2.2.2)) s with|none=>[]|some co=>[(s,co,a)]);rw[hlk];rfl
   .rcases Ê.mp my with my|my
    .show (D y my).same (aq J _)
    .rw [Zs.mp my];show#[z.2.2.1,aa,by rw[<-T];show aF J (d.get (X z A))]
 .rintro C n ⟨j,rfl,v,x,d,D⟩ p F;rw[è (qP (w.symm) (Ã _))]at v;show q p _ (d.new F) (d.free F) #[j,v,aa,λz A=>(D z A).same (aq F _)]
def WsT(H:Hp)(p:ό)(wss:ϲ):Prop:=∃rs:ϊ (ό×ϊ (ϴ)),rs.map (·.2)=wss/\H p=!(.lst (rs.map λr=>V.ref r.1))/\∀r∈rs,LdT H r.1 r.2
theorem WsT.same(h:WsT H p wss)(s:Same H H'):WsT H' p wss:=by
 let#[e,a,b,c]:=h;show#[e,a,s.get b,λr d=>(c r d).same s]
inductive fv(K:Ϗ)(vs:ϊ V)(H:Hp)(Q:VK)(E:XK):Prop
 |mk (f c:ό) (h:Nat) (b:ϵ) (a:L2S) (d:ϊ Int) (e:vs=[.ref f,.ref c]) (g:FnF K H f h b) (i:Fo.Wf h b) (j:HsG K H c a d) (k:↑a<=1000) (l:(∀ps∈a,↑ps<=1000)) (m:∀p H',Same H H'->H p=none->WsT H' p (a.map<|aD b)->Q (.ref p) H')
def Al K(E:XK)(Eh:XK):=(az (aL (gY (j7 K)<|cu<|tX K aV 1)<|ak 2)
  (aP<|m6 [none,!2] (nY K<|tX K bj 0) (ak 0) du<|bG (fo K)<|bQ bj aV))
abbrev uO:ϊ ϐ:=sN ["font","house","letters"]
theorem Wd(h:fv K vs H Q E):RG (Al K E) uO vs H Q:=by
 let#[f,ha,h,J,x,es,rfl,hF,U,#[d,e,S,W,M,N,X,a5],B,F,q]:=h;show#[E0,?_];unfold Al uO sN;let#[l,ob,a,Y,A,D,Z,O]:=id hF;have hl:↑a=↑J:=by rw[<-A,Qb]
 have s:↑S=↑x:=by rw[<-M,Qb]
 have C:(a.map (·.2.1)).Nodup:=by
  have:=dw U.up;rw[<-A,Ä]at this;show this
 apply dB Y ?_;apply xO (zs:=a.map λz:Lz=>(z.1,z.2.1,V.ref z.2.2.1)) D (by rw[Ä];show Z) (λz m=>?_) (by rw[Ä];show C) (by rw[Qb];have:=U.le;show jb (qP hl this)) λt G=>?_
 .obtain ⟨y,my,rfl⟩:=Zp.mp m;show gL (O y my).1
 rw[Ä];have g:Same H (upd H t (HO.dK (a.map ((λz:ό×ϐ×V=>((Sum.inr z.2.1:Key),z.2.2))∘λz:Lz=>(z.1,z.2.1,V.ref z.2.2.1))))):=aq G _;have n:upd H t (HO.dK (a.map ((λz:ό×ϐ×V=>((Sum.inr z.2.1:Key),z.2.2))∘λz:Lz=>(z.1,z.2.1,V.ref z.2.2.1)))) t=!(.dK (a.map λz:Lz=>((Sum.inr z.2.1:Key),V.ref z.2.2.1))):=aa;generalize upd H t (HO.dK (a.map ((λz:ό×ϐ×V=>((Sum.inr z.2.1:Key),z.2.2))∘λz:Lz=>(z.1,z.2.1,V.ref z.2.2.1))))=H1 at g n;apply fW (g.get W) ?_;show Vx (λr:ό×L1S=>V.ref r.1) (zs:=S) (g.tup N) (jb (qP s B)) (λi u j=>(Ex1 λ(b:ϊ (ό×ϊ (ϴ)))=>(An4 (u=b.map (λr=>V.ref r.1)) (b.map (·.2)=(x.take i).map (aD J)) (Same H1 j) (∀r∈b,LdT j r.1 r.2)))) #[[],rfl,rfl,gN _,by simp] ?_ ?_ ?_ ?_
 .rintro i u j ⟨b,rfl,_,c,_⟩;show c.tup (g.tup N)
 .rintro i u j ⟨b,rfl,k,_⟩;have:=Ö List.length k;rw[Qb,Qb,Ñ]at this;rw[Qb];show Yy this
 .rintro i ⟨ra,w⟩ u j R ⟨b,rfl,k,c,I⟩;have o:x[i]?=!w:=by rw[<-M,À,R];rfl
  have L:=g.trans c;apply#[t,ra,a,w,rfl,c.get n,λz mz=>L.get (O z mz).2,(X _ (Wp R)).same L,F w (Wp o),λp H2 T v P=>?_];symm;rw[A]at P;show#[b++[(p,aD J w)],by simp,by rw[Á,k,Ò,o,Á];rfl,c.trans T,λr mr=>?_];rcases Ê.mp mr with mr|mr
  .show (I r mr).same T
  .rw [Zs.mp mr];show P
 .rintro u j ⟨b,rfl,k,c,I⟩ p v;rw[è (qP (s.symm) (Ã _))]at k;show q p _ ((g.trans c).new v) ((g.trans c).free v) #[b,k,aa,λr mr=>(I r mr).same (aq v _)]
def cst(ys co:ϊ Nat):Nat:=Mm.bc (co.take<|min ↑co ↑ys)<|ys.take<|min ↑co ↑ys
def Fw(ys:ϊ Nat)(ls:ϵ):ϊ (ϐ×Nat):=ls.map λp=>(p.1,cst ys p.2)
noncomputable def Fx(cs:ϊ<|ϐ×Nat):ϊ (Key×V):=cs.map λp=>(Sum.inr p.1,V.int (p.2:Nat))
theorem Am{b:ϊ Nat}:∀{ls:ϵ},Fo.lk ls s=!b->bh (Fx (Fw a ls)) (Sum.inr s)=!(V.int (cst a b:Nat))
 |[],h=>by cases h
 |p::r,h=>by
  rw[Fo.gF]at h;change bh ((Sum.inr p.1,V.int (cst a p.2:Nat))::Fx (Fw a r)) (Sum.inr s)=_;by_cases e:p.1=s
  .rw [if_pos e]at h
   cases h;rw[cJ (by change Sum.inr _=Sum.inr _;rw[e])]
  .rw [if_neg e]at h;rw[c7 (by intro z;show e (İ z))];show Am h
inductive dP(K:Ϗ)(vs:ϊ V)(H:Hp)(Q:VK)(E:XK):Prop
 |mk (f o:ό) (h:Nat) (a:ϵ) (b:ϊ Nat) (c:vs=[.ref f,.ref o]) (d:FnT K H f h a) (e:Fo.Wf h a) (g:SqT K H o<|nv b) (i:↑b<=1000) (j:∀r H',Same H H'->H r=none->H' r=!(.dK<|Fx<|Fw b a)->Q (.ref r) H')
def An K(E:XK)(Eh:XK):=(az (aL iQ<|ak 2)
  (az (cC (nY K<|tX K aV 1) (gB K 2<|bf (ak 3)<|bf (ak 4) gK) (az (aL (gY Jq<|bQ (fP K dZ)<|fP K bj)<|ak 5)
  (jh bW cF<|bG (gu K)<|bQ (vV (ut K) dZ cO<|dN gw)<|vV (ut K) bj cO<|dN gw)))
  (aP bW)))
abbrev Ao:ϊ ϐ:=sN ["font","over","costs","sign","columns","wide"]
theorem We(h:dP K vs H Q E):RG (An K E) Ao vs H Q:=by
 let#[f,o,h,a,c,rfl,hF,R,X,ac,q]:=h;show#[E0,?_];unfold An Ao sN;have I:(a.map (·.1)).Nodup:=R.up.imp λG e=>by subst e;show Ř _ G
 let#[l,zs,t1,v,t3,t4]:=id hF;have L:↑zs=↑a:=by rw[<-v,Qb]
 have F:=R.le;symm;intro r x;apply dB (aF x t1) ?_;have d:∀p'∈[r],H p'=none:=λp' J=>by rw[Zs.mp J];show x
 walk_at "ns";show sV (λz:Lz=>V.ref z.1) ((aq x _).tup t3) (λi B n=>(An3 (Sb [r] H n) (n r=!(.dK<|Fx<|Fw c<|a.take i))<|Ex3 λM N O=>B=[!(.ref f),!(.ref o),!(.ref r),M,N,O])) #[Sb.of<|aq x _,aa,_,_,_,rfl] ?_ ?_ ?_
 .rintro i B n ⟨t,_⟩;show(t.off d).tup t3
 .rintro i ⟨za,s,ca,b⟩ B n Y ⟨t,A,M,N,O,rfl⟩;have S:=t.off d;have mz:=Wp Y;let#[u1,P]:=t4 _ mz;dsimp only at u1 P;have j:a[i]?=!(s,b):=by rw[<-v,À,Y];rfl
  have c1:=R.c1 _<|Wp j;dsimp only at c1;have ab:i<↑a:=(Â.mp j).1;have u:a.take (i+1)=a.take i++[(s,b)]:=by rw[Ò,j];rfl
  have w:s∉(a.take i).map (·.1):=by
   have W:((a.take<|i+1).map (·.1)).Nodup:=Ĕ ((Đ _ _).map _) I;rw[u,Á,ä]at W;showλm=>W.2.2 s m s (by simp) rfl
  show cP (gL<|S.get u1) rfl ?_;apply cj (gL<|S.get P) ?_;rw[Qb];apply cj (S.tup X) ?_;rw[Qb];symm;rw[show(if(↑c:Int)<(↑b:Int)then(↑c:Int)else(↑b:Int))=((min ↑b ↑c:Nat):Int)by split<;>rfl'];walk_at "ns";show SQ (gL<|S.get P) λp1 H1 s1 U=>?_
  rw[pY<|Oe<|min _ _,Ô,nv,<-ŀ]at U;apply SQ ((S.trans s1).tup X) λp2 H2 s2 C=>?_
  rw[pY<|Oe<|min _ _,Ô,nv,<-ŀ]at C;apply#[p1,p2,b.take<|min ↑b ↑c,c.take<|min ↑b ↑c,rfl,s2.tup U,by first|show C|show .inr C,by rw[Ñ,Ñ];rfl',by rw[Ñ];rfl',λH3 s3=>?_];have T:=(s1.trans s2).trans s3;have D:=T.get A;have hv:bh (Fx<|Fw c<|a.take i) (Sum.inr s)=none:=fC (f:=λp:ϐ×Nat=>(Sum.inr p.1:Key)) (g:=λp:ϐ×Nat=>V.int (p.2:Nat)) λm=>by
   let#[p,Z,e]:=Zp.mp m;let#[y,my,rfl]:=Zp.mp Z;show w<|Zp.mpr #[y,my,İ e]
  apply#[r,_,rfl,DPut.k (k:=Sum.inr s) D<|Ý (by unfold Fx Fw;rw[Qb,Qb,Ñ];show Y4 F:_<=40)<|by decide,?_];rw[cW _ hv];apply#[(t.same T).set<|by simp,?_,_,_,_,rfl];rw[aa,u];unfold Fw Fx;rw[Á,Á];rfl
 .rintro B n ⟨t,A,M,N,O,rfl⟩;rw[L,Þ]at A;apply q r n (t.off d) x A
abbrev cQ:=ϐ×ϊ Nat×Int
variable{z:cQ×cQ×Int}
noncomputable def uP(p:ϊ cQ):Int:=(p.getLast?.map (·.2.2)).getD 0
noncomputable def tP(p:ϊ cQ):ϐ:=p.foldl (λt w=>t++w.1)<|Str.ofString ""
noncomputable def stP(p:ϊ cQ):ϊ Nat:=p.flatMap (·.2.1)
def Wk(wss:ϊ<|ϊ cQ)(p:ϊ cQ):Prop:=∀i w,p[i]?=!w->w∈wss.getD (uP<|p.take i).toNat []
def Lw(wss:ϊ<|ϊ cQ)(t:ϐ)(r:Int):Prop:=∃p,Wk wss p/\uP p=r/\t=tP p
theorem iy(p:ϊ cQ)(w:cQ):uP (p++[w])=w.2.2:=by
 unfold uP;rw[List.getLast?_concat];rfl
theorem jR(p:ϊ cQ)(w:cQ):tP (p++[w])=tP p++w.1:=by
 unfold tP;rw[Ĵ];rfl
theorem lX(p:ϊ cQ)(w:cQ):stP (p++[w])=stP p++w.2.1:=by
 unfold stP;rw[Ō,Ż]
theorem Wk.add{p:ϊ cQ}{w:cQ}(h:Wk a p)(m:w∈a.getD (uP p).toNat []):Wk a (p++[w]):=λi u e=>by
 by_cases c:i<↑p
 .rw [Ĥ c]at e;rw[List.take_append_of_le_length<|ì c];show h i u e
 .rw [ø ()]at e;have b:i=↑p/\w=u:=by
   cases hj:i-↑p with
   |zero=>rw[hj]at e;show#[(),Ü e]
   |succ j=>rw[hj]at e;simp at e
  rw[b.1,<-b.2,List.take_left']
  .show m
  .rfl
section
variable{α:Type}[DecidableEq α]
noncomputable def jZ(L qs:ϊ α):ϊ α:=qs.foldl (λL q=>if q∈L then L else L++[q]) L
def xP(L:ϊ α):jZ L []=L:=rfl
theorem HN(L a:ϊ α)(q:α):jZ L (a++[q])=if q∈jZ L a then jZ L a else jZ L a++[q]:=by
 unfold jZ;rw[Ĵ];rfl
theorem jB:∀{qs L:ϊ α}{x:α},x∈jZ L qs↔x∈L\/x∈qs
 |[],L,x=>by rw[xP];simp
 |q::qs,L,x=>by
  change x∈jZ (if q∈L then L else L++[q]) qs↔_;rw[jB];split
  .rename_i h;constructor
   .rintro (m|m)
    .show .inl m
    .show .inr<|Ç _ m
   .rintro (m|m)
    .show .inl m
    .rcases Æ.mp m with rfl|m
     .show .inl h
     .show .inr m
  .rw [Ê,Zs,Æ,or_assoc]
theorem oU:∀{qs L:ϊ α},L.Nodup->(jZ L qs).Nodup
 |[],L,h=>h
 |q::qs,L,h=>by
  change(jZ (if q∈L then L else L++[q]) qs).Nodup;split
  .show oU h
  .rename_i c;show oU<|ä.mpr #[h,by simp,λa m b d e=>c ?_];rw[Zs.mp d]at e;rw[<-e];show m
def fX(nx:α->ϊ α)(st:α):Nat->ϊ α
 |0=>[st]
 |k+1=>match(fX nx st k)[k]?with
  |none=>fX nx st k
  |some p=>jZ (fX nx st k)<|nx p
theorem mU{a:α->ϊ α}{b:α}{k:Nat}{p:α}(h:(fX a b k)[k]?=!p):fX a b (k+1)=jZ (fX a b k) (a p):=by
 rw[fX,h]
theorem Lp{a:α->ϊ α}{b:α}{k:Nat}(h:↑(fX a b k)<=k):fX a b (k+1)=fX a b k:=by
 rw[fX,ę h]
theorem gG(a:α->ϊ α)(b:α):∀k,(fX a b k).Nodup
 |0=>by rw[fX];simp
 |k+1=>by
  cases h:(fX a b k)[k]?with
  |none=>rw[fX,h];show gG a b k
  |some p=>rw[mU h];show oU<|gG a b k
theorem mV{a:α->ϊ α}{b:α}{k:Nat}(h:↑(fX a b k)<=k):∀j,fX a b (k+j)=fX a b k
 |0=>rfl
 |j+1=>by
  have e:=mV h j;rw[<-η,Lp<|by rw[e];show Sw h _,e]
theorem fD{c:α->ϊ α}{d:α}{P:α->Prop}(a:P d)(b:∀p q,P p->q∈c p->P q):∀k,∀p∈fX c d k,P p
 |0,p,m=>by rw[fX,Zs]at m;rw[m];show a
 |k+1,p,m=>by
  cases h:(fX c d k)[k]?with
  |none=>rw[fX,h]at m;show fD a b k p m
  |some p'=>
   rw[mU h]at m;rcases jB.mp m with m|m
   .show fD a b k p m
   .show b p' p (fD a b k p'<|Wp h) m
end
theorem xQ(a b:ϐ):↑(a++b)=↑a+↑b:=by
 change↑(Str.append a b)=_;simp[Str.append,Str.length]
theorem dJ{c:Type}[DecidableEq c]:∀{l m:ϊ c},l.Nodup->(∀x∈l,x∈m)->↑l<=↑m
 |[],m,_,_=>â _
 |x::l,m,hn,hs=>by
  have a:=hs x Ì;let#[d,f]:=î.mp hn;have:=dJ (l:=l) (m:=m.erase x) f λy b=>(List.mem_erase_of_ne<|λ(e:y=x)=>d<|by rw[<-e];show b).mpr<|hs y<|Ç _ b
  rw[ζ a]at this;have:=Ŏ a;rw[ê];rfl'
def cY(wss:ϲ)(k:Nat):ϊ Int:=fX (λr=>(wss.getD r.toNat []).map (·.2.2)) 0 k
theorem uQ:∀{ps:ϊ<|Int×ϐ}{r:Int},r∈ps.map (·.1)->∃t,(r,t)∈ps/\bh (ps.map λp=>((Sum.inl p.1:Key),V.str p.2)) (Sum.inl r)=!(V.str t)
 |p::ps,r,m=>by
  rw[È];by_cases e:p.1=r
  .show #[p.2,by rw[<-e];show Ì,by rw[cJ (by rw[e])]]
  .obtain ⟨t,a,b⟩:=uQ (ps:=ps) (r:=r) (by rcases Æ.mp m with z|z;show absurd z.symm e;show z);show#[t,Ç _ a,by rw[c7 (by intro z;show e<|Sum.inl.inj z)];show b]
theorem Rj{ps:ϊ<|Int×ϐ}{r:Int}(h:r∉ps.map (·.1)):bh (ps.map λp=>((Sum.inl p.1:Key),V.str p.2)) (Sum.inl r)=none:=fC (f:=λp:Int×ϐ=>(Sum.inl p.1:Key)) (g:=λp=>V.str p.2) λm=>by
 let#[p,a,e]:=Zp.mp m;show h<|Zp.mpr #[p,a,Sum.inl.inj e]
inductive eF(K:Ϗ)(vs:ϊ V)(H:Hp)(Q:VK)(E:XK):Prop
 |mk (b:ό) (a:ϲ) (d:vs=[.ref b]) (e:WsT H b a) (f:0<↑a) (g:↑a<=100) (h:(∀c∈a,↑c<=1000/\∀w∈c,↑w.1<=1/\0<=w.2.2/\w.2.2<↑a)) (i:∀r H' (N:Nat) (ps:ϊ<|Int×ϐ),Same H H'->H r=none->ps.map (·.1)=cY a N->H' r=!(.dK<|ps.map λp=>((Sum.inl p.1:Key),V.str p.2))->↑(cY a N)<=N->(∀p∈ps,↑p.2<=↑ps/\Lw a p.2 p.1)->Q (.ref r) H')
abbrev Rk K:=(az (aL (rC K "list" yK bW<|cu<|tI 0)<|ak 3)
  (cC (cB K<|aO (fu K) aV cF) (gB K 3<|bf (ak 4)<|bf (ak 5)<|bf (ak 6) gK) (bH (tB<|jM jk bj) (az (jh bj jk<|aO eX (gh bj cF) dZ)
  (cL<|rC K "list" d7 bW<|cu jk)) aU)))
def Lq K(E:XK)(Eh:XK):=(az (aL (Ep [((tC<|V.int 0),(tC<|V.str<|Str.ofString ""))])<|ak 1)
  (az (aL (gO<|cu<|tI 0)<|ak 2)
  (az (gM (aQ<|aO qN (fP K bW)<|tI 0)<|Rk K)
  (aP bj))))
abbrev Lr:ϊ ϐ:=sN ["ways","texts","waiting","here","sign","columns","room"]
theorem ZD(h:eF K vs H Q E):RG (Lq K E) Lr vs H Q:=by
 let#[wa,a,rfl,hW,bb,bd,aw,q]:=h;show#[E0,?_];unfold Lq Lr sN;have ar:∀k,∀r∈cY a k,0<=r/\r<↑a:=λk=>fD (P:=λr:Int=>0<=r/\r<↑a) #[by decide,qd0 bb] (λp q' hp hq=>by
  let#[w,mw,rfl]:=Zp.mp hq;have:a.getD p.toNat []∈a:=by rw[Yf,Zl<|Y0 hp];show Û _
  show((aw _ this).2 w mw).2) k
 have Z:∀k,↑(cY a k)<=↑a:=λk=>by
  have:=dJ (l:=cY a k) (m:=(List.range ↑a).map λi:Nat=>(i:Int)) (gG _ _ k) λr mr=>by
   let#[h0,h1]:=ar k r mr;show Zp.mpr #[r.toNat,ñ.mpr<|qtT h0 h1,Sv h0]
  rw[Qb,ï]at this;show this
 let#[rs,ag,a2,a3]:=id hW;have a7:↑rs=↑a:=by rw[<-ag,Qb]
 symm;intro d N;apply#[aa,[(Sum.inl 0,V.str<|Str.ofString "")],rfl,by simp,?_];have ad:Sb [d] H (upd (upd H d<|HO.dK []) d<|HO.dK<|iU [] [(Sum.inl 0,V.str<|Str.ofString "")]):=(Sb.of<|aq N _).set (by simp);have F:upd (upd H d<|HO.dK []) d (HO.dK<|iU [] [(Sum.inl 0,V.str<|Str.ofString "")]) d=!(.dK ([((0:Int),(Str.ofString ""))].map λp=>((Sum.inl p.1:Key),V.str p.2))):=by rw[aa];rfl
 generalize upd (upd H d<|HO.dK []) d (HO.dK<|iU [] [(Sum.inl 0,V.str<|Str.ofString "")])=H0 at ad F;symm;intro u I;have n1:d≠u:=λe=>by rw[<-e,F]at I;cases I
 have av:H u=none:=(ad.off λp hp=>by rw[Zs.mp hp];show N).free I;have M:∀p∈[d,u],H p=none:=λp hp=>by
  simp only[Æ,á,ĕ]at hp;rcases hp with rfl|rfl
  .show N
  .show av
 symm;walk_at "ns";show uF (λW B=>(An2 (Sb [d,u] H B) (Ex6 λ(k:Nat) (C:ϊ<|Int×ϐ) (o1 o2 o3 o4:ύ V)=>(An6 (k<=↑(cY a k)) (C.map (·.1)=cY a k) (∀p∈C,↑p.2<=↑C/\Lw a p.2 p.1) (B d=!(.dK (C.map λp=>((Sum.inl p.1:Key),V.str p.2)))) (B u=!(.lst<|((cY a k).drop k).map V.int))<|W=[!(.ref wa),!(.ref d),!(.ref u),o1,o2,o3,o4])))) (λ_ B=>match B u with|some (.lst l)=>(match B d with|some (.dK m)=>1000-(↑m-↑l)|_=>0)|_=>0) ⟨(Sb.more ad (by simp)).new I,0,[(0,Str.ofString "")],_,_,_,_,â _,rfl,λp mp=>by rw[Zs.mp mp];show#[by decide,[],λi w e=>(by simp at e),rfl,rfl],aF I F,aa,rfl⟩ ?_ ?_
 .rintro W B ⟨sb,k,C,o1,o2,o3,o4,hk,L,am,Y,G,rfl⟩;have S':=sb.off M;have bk:↑C=↑(cY a k):=by rw[<-L,Qb]
  have bm:=Z k;apply cg (gI G) ?_;rw[Qb,ú];apply fJ (λc1=>?_) λc1=>?_
  .have ai:k<↑(cY a k):=()
   let#[r,hr]:∃r,(cY a k)[k]?=!r:=#[_,Zl ai];have a4:(cY a k).drop k=r::(cY a k).drop (k+1):=by rw[Ķ ai,(Â.mp hr).2]
   have mr:=Wp hr;let#[r0,r1]:=ar k r mr;let#[j,rfl]:∃j:Nat,r=(j:Int):=#[r.toNat,Eq.symm<|Sv r0];let#[A,ab]:∃A,rs[j]?=!A:=#[_,Zl<|Ia (V1 r1) a7];have as:a[j]?=!A.2:=by rw[<-ag,À,ab];rfl
   have ah:a.getD j []=A.2:=by rw[Yf,as];rfl
   have al:cY a (k+1)=jZ (cY a k) (A.2.map (·.2.2)):=by
    have:=mU hr;change fX _ _ (k+1)=_;rw[this];change jZ _ ((a.getD ((j:Int)).toNat []).map _)=_;rw[Ô,ah];rfl
   let#[ax,be]:=aw A.2<|Wp as;let#[zs,ez,af,hz]:=a3 A<|Wp ab;have bn:↑zs=↑A.2:=by rw[<-ez,Qb]
   apply eO (gI G) ?_;symm;rw[a4,È]at G;show VD G ?_;symm;have n2:u≠d:=n1.symm;have O:upd B u (HO.lst<|((cY a k).drop<|k+1).map V.int) d=!(.dK (C.map λp=>((Sum.inl p.1:Key),V.str p.2))):=by rw[ao n1];show Y
   have ae:=sb.set (p:=u) (o:=HO.lst<|((cY a k).drop<|k+1).map V.int) (by simp);have S1:=ae.off M;have R:upd B u (HO.lst<|((cY a k).drop<|k+1).map V.int) u=!(.lst<|((cY a k).drop<|k+1).map V.int):=aa;generalize upd B u (HO.lst<|((cY a k).drop<|k+1).map V.int)=H1 at ae S1 O R;show di (gI<|S1.get a2) (aH (j:=j) (v:=.ref A.1) (by rw[À,ab];rfl)) ?_;walk_at "ns";show gn (λz:Wz=>V.ref z.1) (zs:=zs) (gI<|S1.get af) (λi W J=>(An2 (Sb [d,u] H J) (Ex5 λ(b:ϊ<|Int×ϐ) (E:ϊ Int) (o2 o3 o4:ύ V)=>(An6 (b.map (·.1)=jZ (cY a k) ((A.2.map (·.2.2)).take i)) (b.map (·.1)=cY a k++E) (∀p∈b,↑p.2<=↑b/\Lw a p.2 p.1) (J d=!(.dK (b.map λp=>((Sum.inl p.1:Key),V.str p.2)))) (J u=!(.lst<|((cY a k).drop (k+1)++E).map V.int))<|W=[!(.ref wa),!(.ref d),!(.ref u),!(.int (j:Nat)),o2,o3,o4])))) #[ae,C,[],_,_,_,by rw[List.take_zero,xP];show L,by rw[í];show L,am,O,by rw[í];show R,rfl] ?_ ?_ ?_
   .rintro i W J ⟨y,_⟩;show gI<|(y.off M).get af
   .rintro i ⟨za,s,co,c⟩ W J hi ⟨y,b,E,o2,o3,o4,D,X,t,f,g,rfl⟩;have S2:=y.off M;let#[ca,v1,v2]:=hz _<|Wp hi;dsimp only at v1 v2;have ac:A.2[i]?=!(s,co,c):=by rw[<-ez,À,hi];rfl
    have a8:=(be _<|Wp ac).1;dsimp only at a8;have ay:(A.2.map (·.2.2)).take (i+1)=(A.2.map (·.2.2)).take i++[c]:=by rw[Ò,À,ac];rfl
    have bi:↑b<=100:=by
     have h1:=dJ (l:=b.map (·.1)) (m:=cY a<|k+1) (by rw[D];show oU<|gG _ _ k) λx mx=>by
      rw[D]at mx;rw[al];rcases jB.mp mx with m|m
      .show jB.mpr<|.inl m
      .show jB.mpr<|.inr<|Ā m
     have h2:=Z<|k+1;rw[Qb]at h1;show Ð h1<|Ð h2 bd
    rw[ay,HN];show cP (gL<|S2.get v1) rfl ?_;apply#[d,_,rfl,DGet.k (k:=Sum.inl c) f,?_];by_cases m:c∈jZ (cY a k) ((A.2.map (·.2.2)).take i)
    .obtain ⟨tt,_,ev⟩:=uQ (ps:=b) (r:=c) (by rw[D];show m);rw[ev,if_pos m];symm;change if(not true)=true then _ else _
     apply#[y,b,E,_,_,_,D,X,t,f,g,rfl]
    .have ev:=Rj (ps:=b) (r:=c) (by rw[D];show m);rw[ev,if_neg m];let#[tj,bg,a1]:=uQ (ps:=b) (r:=(j:Int)) (by rw[X];show é _ mr);let#[a9,pw,ap,T,U]:=t _ bg;dsimp only at a9 T U;symm;change if(not false)=true then _ else _
     apply#[d,V.str tj,rfl,by rw[<-a1];show DGet.k (k:=Sum.inl (j:Int)) f,?_];apply mR () ?_;apply#[d,_,rfl,DPut.k (k:=Sum.inl c) f (Ý (by rw[Qb];rfl':_<=2000) (by decide)),?_];rw[cW _ ev];symm;have S:∀w,upd J d w u=!(.lst<|((cY a k).drop (k+1)++E).map V.int):=λw=>by rw[ao n2];show g
     show eO (gI<|S _) ?_;apply jA (S _) (by rw[Qb,Ë,ú];have:=Ö List.length X;rw[Qb,Ë]at this;rfl') ?_;apply#[(y.set (by simp)).set (by simp),b++[(c,tj++s)],E++[c],_,_,_,by rw[Á,D];rfl,by rw[Á,X,Ē];rfl,λp mp=>?_,by rw[ao n1,aa,Á];rfl,by rw[aa,<-Ē,Á (l₂:=[c])];rfl,rfl];rw[Ë,à];rcases Ê.mp mp with mp|mp
     .show #[by have:=(t p mp).1;rfl',(t p mp).2]
     .rw [Zs.mp mp];show#[?_,pw++[(s,co,c)],ap.add ?_,iy _ _,?_]
      .show ↑(tj++s)<=_;rw[show↑(tj++s)=↑tj+↑s from xQ _ _];rfl'
      .rw [T,Ô,ah];show Wp ac
      .show tj++s=_;rw[U,jR]
   .rintro W J ⟨y,b,E,o2,o3,o4,D,X,t,f,g,rfl⟩;rw[è (by rw[Qb];rfl'),<-al]at D;have eD:(cY a k).drop (k+1)++E=(cY a<|k+1).drop (k+1):=by
     rw[<-D,X,List.drop_append_of_le_length ()]
    rw[eD]at g;have a6:↑b=↑(cY a<|k+1):=by rw[<-D,Qb]
    have a5:k+1<=↑(cY a<|k+1):=by
     rw[<-a6];have:=Ö List.length X;rw[Qb,Ë]at this;rfl'
    have bl:=Z<|k+1;show#[#[y,k+1,b,_,_,_,_,a5,D,t,f,g,rfl],?_];change(match J u with|some (.lst l)=>(match J d with|some (.dK m)=>1000-(↑m-↑l)|_=>0)|_=>0)<(match B u with|some (.lst l)=>(match B d with|some (.dK m)=>1000-(↑m-↑l)|_=>0)|_=>0);rw[g,f,G,Y];dsimp only;simp only[Qb,ê,ú];rw[show↑b-(↑(cY a<|k+1)-(k+1))=k+1 by rfl',show↑C-(↑(cY a k)-(k+1)+1)=k by rfl'];show Nat.sub_lt_sub_left ()<|Ĳ k
  .symm;show q d B k C S' N L Y () am
 .rintro W H Q Q' hq ⟨v,hv,x,n,e,hl,i,j,e1,e2,k,e3,z⟩;show#[v,hv,x,n,e,hl,i,j,e1,e2,k,e3,hq _ _ z]
noncomputable def Fy(w:ϴ)(ah:Int)(ys:ϊ Nat):Int×Int×ϊ Nat:=if↑w.2.1<=↑ys then(w.2.2,ah,ys.drop ↑w.2.1)else(ah,w.2.2,w.2.1.drop ↑ys)
def StT(K:Ϗ)(H:Hp)(a:ό)(st:Int×Int×ϊ Nat):Prop:=∃c,H a=!(.tup [.int st.1,.int st.2.1,.ref c])/\H c=!(.tup<|nv st.2.2)
theorem StT.same{K:Ϗ}(h:StT K H a st)(s:Same H H'):StT K H' a st:=by
 let#[c,b,d]:=h;show#[c,s.get b,s.get d]
inductive gy(K:Ϗ)(vs:ϊ V)(H:Hp)(Q:VK)(E:XK):Prop
 |mk (b o:ό) (w:ϴ) (a:Int) (c:ϊ Nat) (d:vs=[.ref b,.int a,.ref o]) (e:WyT H (b,w)) (f:H o=!(.tup<|nv c)) (g:∀r H',Same H H'->H r=none->StT K H' r (Fy w a c)->Q (.ref r) H')
def Ls K(E:XK)(Eh:XK):=(az (aL (fP K<|tX K aV 1)<|ak 3)
  (az (bH (aQ<|aO jW cF<|fP K bW) (aP<|dG<|oF (tX K aV 2) bj<|vV (ut K) bW (dN cF) cO) aU)
  (aP<|dG<|oF bj (tX K aV 2)<|vV (ut K) (tX K aV 1) (dN<|fP K bW) cO)))
abbrev Ly:ϊ ϐ:=sN ["way","ahead","over","wide"]
theorem ZF(h:gy K vs H Q E):RG (Ls K E) Ly vs H Q:=by
 let#[t,o,#[s,j,k],n,l,rfl,#[p,e,i],f,q]:=h;show#[E0,?_];unfold Ls Ly sN;dsimp only at e i;apply dB e ?_;apply cj (gL i) ?_;rw[Qb];apply cj (gL f) ?_;rw[Qb];apply fJ (λc=>?_) λc=>?_
 .symm;show jY e ?_;apply zO f λg m d b=>?_
  rw[xG<|Oe _,Ô,nv,<-List.map_drop]at b;symm;intro r a;show q r _ (d.new a) (d.free a) ?_;unfold Fy;rw[if_pos<|show↑j<=↑l by show qcL c];show#[g,aa,aF a b]
 .symm;show jY e ?_;apply dB e ?_;apply cj (gL f) ?_;rw[Qb];apply zO i λg m d b=>?_
  rw[xG<|Oe _,Ô,nv,<-List.map_drop]at b;symm;intro r a;show q r _ (d.new a) (d.free a) ?_;unfold Fy;rw[if_neg<|show¬↑j<=↑l by rfl'];show#[g,aa,aF a b]
noncomputable def ZG(wss:ϲ)(r:Int):ϊ ((ϴ)×(ϴ)×Int):=(List.range ↑(wss.getD r.toNat [])).flatMap λj=>(List.range j).map λk=>((wss.getD r.toNat []).getD k default,(wss.getD r.toNat []).getD j default,r)
def vI(wss:ϲ)(rs:ϊ Int):ϊ ((ϴ)×(ϴ)×Int):=rs.flatMap<|ZG wss
abbrev Fz:=ό×ό×ό×ό×((ϴ)×(ϴ)×Int)
def FkA(K:Ϗ)(H:Hp)(z:Fz):Prop:=H z.1=!(.tup [.int (cst z.2.2.2.2.2.1.2.1 z.2.2.2.2.1.2.1:Nat),.ref z.2.1,.int z.2.2.2.2.2.2,.ref z.2.2.1,.ref z.2.2.2.1])/\StT K H z.2.1 (Fy z.2.2.2.2.1 z.2.2.2.2.2.1.2.2 z.2.2.2.2.2.1.2.1)/\WyT H (z.2.2.1,z.2.2.2.2.1)/\WyT H (z.2.2.2.1,z.2.2.2.2.2.1)
theorem FkA.same{K:Ϗ}{z:Fz}(h:FkA K H z)(s:Same H H'):FkA K H' z:=#[s.get h.1,h.2.1.same s,h.2.2.1.same s,h.2.2.2.same s]
theorem FkA.app{K:Ϗ}{z:Fz}{m:ϊ V}(h:FkA K H z)(e:H q=!(.lst m)):FkA K (upd H q o) z:=by
 let#[a,#[c,b,g],#[d,i,j],#[f,k,l]]:=h;show#[jd a e,#[c,jd b e,jd g e],#[d,jd i e,jd j e],#[f,jd k e,jd l e]]
theorem Wg{c:ϳ}(h:wss[j]?=!c):ZG wss (j:Int)=(List.range ↑c).flatMap λb=>(List.range b).map λa=>(c.getD a default,c.getD b default,(j:Int)):=by
 unfold ZG;rw[Ô,Yf,h];rfl
def Y6(K:Ϗ)(H:Hp)(a:ό)(fs:ϊ<|(ϴ)×(ϴ)×Int):Prop:=∃zs:ϊ Fz,zs.map (λz:Fz=>z.2.2.2.2)=fs/\H a=!(.lst (zs.map λz:Fz=>V.ref z.1))/\∀z∈zs,FkA K H z
inductive f3(K:Ϗ)(vs:ϊ V)(H:Hp)(Q:VK)(E:XK):Prop
 |mk (f c:ό) (h:Nat) (b:ϵ) (a:ϲ) (e:vs=[.ref f,.ref c]) (g:FnF K H f h b) (i:Fo.Wf h b) (j:WsT H c a) (k:0<↑a) (l:↑a<=100) (m:(∀d∈a,↑d<=100/\∀w∈d,Fo.lk b w.1=!w.2.1/\0<=w.2.2/\w.2.2<↑a)) (n:∀p H' N,Same H H'->H p=none->↑(cY a N)<=N->Y6 K H' p (vI a<|cY a N)->Q (.ref p) H')
abbrev LC K:=(az (cC (pP<|bG (eF K)<|cu bj) (ak 6) (cC (ww K<|cu<|aO (fu K) bj jk) (gB K 2<|bf (ak 7)<|bf (ak 8) gK) (cC (cB K<|vV (vY K) (aO (fu K) bj jk) cO<|dN yl) (ak 9) (az (aL (bG (gy K)<|oF Y5 (tX K Lj 2)<|tX K Lj 1)<|ak 10)
  (cL<|rC K "list" d7 gw<|cu<|dG<|eN (gh (gh bW<|tX K Lj 0)<|tX K Y5 0)<|Ri Lk jk Y5 Lj)))))
  (aP gw))
def Aq K(E:XK)(Eh:XK):=(az (aL iQ<|ak 2)
  (az (cC (nY K<|tX K aV 1) (gB K 2<|bf (ak 3)<|bf (ak 4) gK)<|jh bW cF<|bG (dP K)<|bQ aV dZ)
  (az (aL (gO gf)<|ak 5)
  (LC K))))
abbrev Ar:ϊ ϐ:=sN ["font","ways","costs","sign","columns","found","room","place","later","way","stand"]
theorem Wh(h:f3 K vs H Q E):RG (Aq K E) Ar vs H Q:=by
 let#[f,wa,h,O,c,rfl,hF,wf,hW,bd,c9,ag,q]:=h;show#[E0,?_];unfold Aq Ar sN;have c4:(O.map (·.1)).Nodup:=wf.up.imp λc3 e=>by subst e;show Ř _ c3
 let#[l,zs,t1,bm,t3,t4]:=id hF.t;have dc:↑zs=↑O:=by rw[<-bm,Qb]
 have c2:=wf.le;have b6:∀k,∀r∈cY c k,0<=r/\r<↑c:=λk=>fD (P:=λr:Int=>0<=r/\r<↑c) #[by decide,qd0 bd] (λp q' hp hq=>by
  let#[w,mw,rfl]:=Zp.mp hq;have:c.getD p.toNat []∈c:=by rw[Yf,Zl<|Y0 hp];show Û _
  show((ag _ this).2 w mw).2) k
 have c5:∀k,↑(cY c k)<=↑c:=λk=>by
  have:=dJ (l:=cY c k) (m:=(List.range ↑c).map λi:Nat=>(i:Int)) (gG _ _ k) λr mr=>by
   let#[h0,h1]:=b6 k r mr;show Zp.mpr #[r.toNat,ñ.mpr<|qtC h1 bd,Sv h0]
  rw[Qb,ï]at this;show this
 symm;intro X am;apply dB (aF am t1) ?_;have a7:∀p'∈[X],H p'=none:=λp' ap=>by rw[Zs.mp ap];show am
 walk_at "ns";show sV (λz:Lz=>V.ref z.1) ((aq am _).tup t3) (λi x J=>(An2 (Sb [X] H J)<|Ex3 λ(M:ϊ<|ϐ×ό×ϊ Nat) (o3 o4:ύ V)=>(An4 (M.map (λk=>(k.1,k.2.2))=O.take i) (J X=!(.dK<|M.map λk=>((Sum.inr k.1:Key),V.ref k.2.1))) (∀k∈M,k.2.1≠X/\J k.2.1=!(.dK<|Fx<|Fw k.2.2 O))<|x=[!(.ref f),!(.ref wa),!(.ref X),o3,o4,none,none,none,none,none,none]))) #[Sb.of<|aq am _,[],_,_,rfl,aa,λk mk=>(by cases mk),rfl] ?_ ?_ ?_
 .rintro i x J ⟨sb,_⟩;show(sb.off a7).tup t3
 .rintro i ⟨za,s,cz,co⟩ x J hi ⟨sb,M,o3,o4,F,ab,L,rfl⟩;have S:=sb.off a7;let#[u1,u2]:=t4 _<|Wp hi;dsimp only at u1 u2;have a8:O[i]?=!(s,co):=by rw[<-bm,À,hi];rfl
  have c1:=wf.c1 _<|Wp a8;dsimp only at c1;have cy:i<↑O:=(Â.mp a8).1;have ah:O.take (i+1)=O.take i++[(s,co)]:=by rw[Ò,a8];rfl
  have bs:s∉(O.take i).map (·.1):=by
   have h1:((O.take<|i+1).map (·.1)).Nodup:=Ĕ ((Đ _ _).map _) c4;rw[ah,Á,ä]at h1;showλm=>h1.2.2 s m s (by simp) rfl
  have c0:↑M<=94:=by
   have:=Ö List.length F;rw[Qb,Ñ]at this;show qP this<|jb<|Y4 c2
  show cP (gL<|S.get u1) rfl ?_;apply#[f,cz,h,O,co,rfl,(hF.same S).t,wf,gL<|S.get u2,(),λr W s2 hr er=>?_];have b5:r≠X:=λe=>by rw[e,ab]at hr;cases hr
  have hv:bh (M.map λk=>((Sum.inr k.1:Key),V.ref k.2.1)) (Sum.inr s)=none:=fC (f:=λk:ϐ×ό×ϊ Nat=>(Sum.inr k.1:Key)) (g:=λk:ϐ×ό×ϊ Nat=>V.ref k.2.1) λm=>by
   let#[k,mk,e]:=Zp.mp m;show bs<|by rw[<-F,Ä];show Zp.mpr #[k,mk,İ e]
  apply#[X,_,rfl,DPut.k (k:=Sum.inr s) (s2.get ab)<|Ý (by rw[Qb];show c0:_<=94)<|by decide,?_];rw[cW _ hv];apply#[(sb.same s2).set<|by simp,M++[(s,r,co)],_,_,by rw[Á,F,ah];rfl,by rw[aa,Á];rfl,λk mk=>?_,rfl];rcases Ê.mp mk with mk|mk
  .show #[(L k mk).1,by rw[ao (L k mk).1];show s2.get (L k mk).2]
  .rw [Zs.mp mk];show#[b5,by rw[ao b5];show er]
 .rintro x Hc ⟨sb,M,o3,o4,F,ab,a1,rfl⟩;rw[dc,Þ]at F;have L:∀k∈M,Hc k.2.1=!(.dK<|Fx<|Fw k.2.2 O):=λk mk=>(a1 k mk).2
  have SH:=sb.off a7;have br:=hW.same SH;have a5:∀{s co},Fo.lk O s=!co->∃k∈M,k.2.2=co/\bh (M.map λk=>((Sum.inr k.1:Key),V.ref k.2.1)) (Sum.inr s)=!(V.ref k.2.1):=by
   rw[<-F];clear ab L a1 F;induction M with
   |nil=>intro s co h;cases h
   |cons k M ih=>
    intro s co h;rw[È,Fo.gF]at h;rw[È];by_cases e:k.1=s
    .rw [if_pos e]at h
     cases h;show#[k,Ì,rfl,by rw[cJ<|by rw[e]]]
    .rw [if_neg e]at h;let#[k',m',e1,e2]:=ih h;show#[k',Ç _ m',e1,by rw[c7<|by intro z;show e<|İ z];show e2]
  symm;intro y a6;symm;walk_at "ns";have S0:Same Hc (upd Hc y<|HO.lst []):=aq a6 _;show#[wa,c,rfl,br.same S0,bd,c9,λws bg=>#[by have:=(ag ws bg).1;show jb this,λw mw=>#[?_,((ag ws bg).2 w mw).2]],λT H1 N ps s1 bb bl ct hN _=>?_]
  .obtain ⟨n,en⟩:=wf.sg _<|Fo.cH ((ag ws bg).2 w mw).1;dsimp only at en;rw[en];show Ã 1
  have b9:Hc T=none:=S0.free bb;have b0:y≠T:=λe=>by rw[<-e,aa]at bb;cases bb
  have bk:H1 y=!(.lst []):=s1.get aa;have S1:Same Hc H1:=S0.trans s1;have C:∀p'∈[y,T],Hc p'=none:=λp' ap=>by
   simp only[Æ,á,ĕ]at ap;rcases ap with rfl|rfl
   .show a6
   .show b9
  have b3:↑ps=↑(cY c N):=by rw[<-bl,Qb]
  have dl:=c5 N;show Le (.inl ct) (λod i x J=>(An5 (Sb [y,T] Hc J) (J T=!(.frz od<|.dK<|ps.map λp=>((Sum.inl p.1:Key),V.str p.2))) (Y6 K J y<|vI c<|(cY c N).take i) (↑(vI c<|(cY c N).take i)<=i*10000)<|Ex5 λ(o6 o7 o8 o9 u:ύ V)=>x=[!(.ref f),!(.ref wa),!(.ref X),o3,o4,!(.ref y),o6,o7,o8,o9,u])) (λod W D e2=>#[λb o n q'=>D b o (λz=>n<|by simp only[Zs]at z;rw[z];simp)<|S1 b o q',e2,#[[],rfl,D.get (by simpa using b0) bk,λz m=>(by cases m)],â _,_,_,_,_,_,rfl]) (λod i x J h=>by let#[_,h,_]:=h;show h) ?_ ?_
  .rintro od i z x J hz ⟨as,ax,hT,bp,o6,o7,o8,o9,u,rfl⟩;let#[p,hp,rfl]:∃p,ps[i]?=!p/\z=((Sum.inl p.1:Key),V.str p.2):=by
    rw[À]at hz;let#[p,hp,e]:=Î.mp hz;show#[p,hp,e.symm]
   have a9:(cY c N)[i]?=!p.1:=by rw[<-bl,À,hp];rfl
   let#[r0,r1]:=b6 N p.1<|Wp a9;let#[j,hj]:∃j:Nat,p.1=(j:Int):=#[p.1.toNat,Eq.symm<|Sv r0];have cy:i<↑(cY c N):=(Â.mp a9).1;let#[rs,w1,w2,w3]:=id br;have dn:↑rs=↑c:=by rw[<-w1,Qb]
   let#[d,ar]:∃d,rs[j]?=!d:=#[_,Zl ()];have ce:c[j]?=!d.2:=by rw[<-w1,À,ar];rfl
   let#[U,a3,z1,z2]:=w3 d<|Wp ar;let#[da,ci]:=ag d.2<|Wp ce;have db:↑U=↑d.2:=by rw[<-a3,Qb]
   have ah:vI c ((cY c N).take<|i+1)=vI c ((cY c N).take i)++(List.range ↑d.2).flatMap λb=>(List.range b).map λa=>(d.2.getD a default,d.2.getD b default,(j:Int)):=by
    rw[Ò,a9];unfold vI;rw[Ō];congr 1;change[p.1].flatMap _=_;rw[Ż,hj,Wg ce]
   rw[ah];generalize hA:vI c ((cY c N).take i)=A at hT bp⊢;change ak 6 (V.int p.1) _ _ _;rw[hj];symm;have S':=as.off C;show di (gI<|S'.get w2) (aH (j:=j) (v:=.ref d.1)<|by rw[À,ar];rfl) ?_;walk_at "ns";show Lf (λz:Wz=>V.ref z.1) (xs:=U) (gI<|S'.get z1) (λb x W=>(An5 (Sb [y,T] Hc W) (W T=!(.frz od<|.dK<|ps.map λp=>((Sum.inl p.1:Key),V.str p.2))) (Y6 K W y<|A++(List.range b).flatMap λb=>(List.range b).map λa=>(d.2.getD a default,d.2.getD b default,(j:Int))) (↑(A++(List.range b).flatMap λb=>(List.range b).map λa=>(d.2.getD a default,d.2.getD b default,(j:Int)))<=i*10000+b*100)<|Ex4 λ(o7 o8 o9 u:ύ V)=>x=[!(.ref f),!(.ref wa),!(.ref X),o3,o4,!(.ref y),!(.int (j:Nat)),o7,o8,o9,u])) #[as,ax,by rw[List.range_zero,List.flatMap_nil,í];show hT,by rw[List.range_zero,List.flatMap_nil,í];show Sw bp _,_,_,_,_,rfl] ?_ ?_ ?_
   .rintro b x W ⟨D,_⟩;show gI<|(D.off C).get z1
   .rintro b ⟨wb,sw,Z,R⟩ tp x W hb ⟨D,I,ai,ae,o7,o8,o9,u,rfl⟩ af;have be:d.2[b]?=!(sw,Z,R):=by rw[<-a3,À,hb];rfl
    have dk:b<↑d.2:=(Â.mp be).1;have cr:d.2.getD b default=(sw,Z,R):=by rw[Yf,be];rfl
    have bq:=z2 _<|Wp hb;let#[cb,b1,b2]:=id bq;dsimp only at b1 b2;have bv:=((ci _<|Wp be).1);dsimp only at bv;let#[kb,dd,cs,cv]:=a5 bv;have de:tp≠T:=λe=>by rw[e,I]at af;cases af
    have bi:=D.new (o:=.tup [.int (b:Int),.ref wb]) af;show cP (gL aa) rfl ?_;symm;have ac:upd W tp (.tup [.int (b:Int),.ref wb]) T=!(.frz od<|.dK<|ps.map λp=>((Sum.inl p.1:Key),V.str p.2)):=by rw[ao de.symm];show I
    have al:Y6 K (upd W tp<|.tup [.int (b:Int),.ref wb]) y (A++(List.range b).flatMap λb=>(List.range b).map λa=>(d.2.getD a default,d.2.getD b default,(j:Int))):=by
     let#[us,u1,u2,u3]:=ai;show#[us,u1,aF af u2,λz mz=>(u3 z mz).same<|aq af _]
    generalize upd W tp (.tup [.int (b:Int),.ref wb])=H3 at bi ac al⊢;rw[Ŋ,Ō,Ż,<-Ē,cr];generalize hB:A++(List.range b).flatMap (λb=>(List.range b).map λa=>(d.2.getD a default,d.2.getD b default,(j:Int)))=B at al ae⊢;have S3:=bi.off C;show di (gI<|S3.get w2) (aH (j:=j) (v:=.ref d.1)<|by rw[À,ar];rfl) ?_;apply xJ (gI<|S3.get z1) λsl G=>?_
    rw[pY<|Oe _,Ô,<-ŀ];walk_at "ns";have S4:Same H3 (upd H3 sl<|HO.lst ((U.take b).map λz:Wz=>V.ref z.1)):=aq G _;have dq:sl≠T:=λe=>by rw[e,ac]at G;cases G
    have cm:sl≠y:=λe=>by let#[us,u1,u2,u3]:=al;rw[e,u2]at G;cases G
    have dg:Hc sl=none:=S3.free G;have df:∀p'∈[y,T],upd H3 sl (HO.lst ((U.take b).map λz:Wz=>V.ref z.1)) p'≠none->True:=λ_ _ _=>trivial
    have cn:=bi.new (o:=HO.lst ((U.take b).map λz:Wz=>V.ref z.1)) G;have a2:upd H3 sl (HO.lst ((U.take b).map λz:Wz=>V.ref z.1)) sl=!(.lst ((U.take b).map λz:Wz=>V.ref z.1)):=aa;have ay:=S4.get ac;have bn:Y6 K (upd H3 sl<|HO.lst ((U.take b).map λz:Wz=>V.ref z.1)) y B:=by
     let#[us,u1,u2,u3]:=al;show#[us,u1,S4.get u2,λz mz=>(u3 z mz).same S4]
    generalize upd H3 sl (HO.lst ((U.take b).map λz:Wz=>V.ref z.1))=H4 at S4 cn a2 ay bn⊢;show gn (λz:Wz=>V.ref z.1) (zs:=U.take b) (gI a2) (λa x H5=>(An5 (Sb [y,T] Hc H5) (H5 sl=!(.lst ((U.take b).map λz:Wz=>V.ref z.1))) (H5 T=!(.frz od<|.dK<|ps.map λp=>((Sum.inl p.1:Key),V.str p.2))) (Y6 K H5 y<|B++(List.range a).map λa=>(d.2.getD a default,(sw,Z,R),(j:Int)))<|Ex2 λ(o9 u:ύ V)=>x=[!(.ref f),!(.ref wa),!(.ref X),o3,o4,!(.ref y),!(.int (j:Nat)),!(.int (b:Nat)),!(.ref wb),o9,u])) #[cn,a2,ay,by rw[List.range_zero,ă,í];show bn,_,_,rfl] ?_ ?_ ?_
    .rintro a x H5 ⟨_,h,_⟩;show gI h
    .rintro a ⟨wq,sq,Y,rq⟩ x H5 ha ⟨av,aw,ad,⟨us,u1,u2,u3⟩,o9,u,rfl⟩;have cx:a<b:=by
      have:=(Â.mp ha).1;rw[Ñ]at this;rfl'
     have b4:U[a]?=!(wq,sq,Y,rq):=by rw[List.getElem?_take,if_pos cx]at ha;show ha
     have cf:d.2[a]?=!(sq,Y,rq):=by rw[<-a3,À,b4];rfl
     have cp:d.2.getD a default=(sq,Y,rq):=by rw[Yf,cf];rfl
     have a4:=z2 _<|Wp b4;let#[cc,q1,q2]:=id a4;dsimp only at q1 q2;have bx:=((ci _<|Wp cf).1);dsimp only at bx;have S5:=av.off C;have c8:↑us<=1000000:=by
      have:=Ö List.length u1;rw[Qb,Ë,Qb,ï]at this;rfl'
     apply jY (S5.get b1) ?_;apply dB (S5.get b1) ?_;apply#[wq,cb,(sq,Y,rq),R,Z,rfl,a4.same S5,S5.get b2,λst H6 s6 dp hS=>?_];have S6:=S5.trans s6;apply eO (gI<|s6.get u2) ?_;apply fW (S6.get b1) ?_;apply#[X,.ref kb.2.1,rfl,by rw[<-cv];show DGet.k (k:=Sum.inr sw)<|S6.get ab,?_];apply fW (S6.get q1) ?_;apply#[kb.2.1,V.int (cst Z Y:Nat),rfl,by have:=DGet.k (k:=Sum.inr sq)<|S6.get<|L kb dd;rw[cs,Am bx]at this;show this,?_];symm;intro tq c6;have s7:Same H6 (upd H6 tq<|HO.tup [.int (cst Z Y:Nat),.ref st,.int (j:Nat),.ref wq,.ref wb]):=aq c6 _;have e7:upd H6 tq (HO.tup [.int (cst Z Y:Nat),.ref st,.int (j:Nat),.ref wq,.ref wb]) tq=!(.tup [.int (cst Z Y:Nat),.ref st,.int (j:Nat),.ref wq,.ref wb]):=aa;generalize upd H6 tq (HO.tup [.int (cst Z Y:Nat),.ref st,.int (j:Nat),.ref wq,.ref wb])=H7 at s7 e7⊢;have u7:=s7.get<|s6.get u2;apply jA u7 (by rw[Qb];show c8) ?_;symm;have hz:FkA K H7 (tq,st,wq,wb,((sq,Y,rq),(sw,Z,R),(j:Int))):=#[e7,hS.same s7,(a4.same S6).same s7,(bq.same S6).same s7];show#[((av.same s6).same s7).set<|by simp,by rw[ao cm];show s7.get<|s6.get aw,by rw[ao b0.symm];show s7.get<|s6.get ad,#[us++[(tq,st,wq,wb,((sq,Y,rq),(sw,Z,R),(j:Int)))],by rw[Á,u1,Ŋ,Á,<-Ē,ż,ż,cp],by rw[aa,Á];rfl,λz mz=>?_],_,_,rfl];rcases Ê.mp mz with mz|mz
     .show (((u3 z mz).same s6).same s7).app u7
     .rw [Zs.mp mz];show hz.app u7
    .rintro x H5 ⟨av,aw,ad,bo,o9,u,rfl⟩;have eb:↑(U.take b)=b:=by rw[Ñ];rfl'
     rw[eb]at bo;show#[av,ad,bo,by rw[Ë,Qb,ï];rfl',_,_,_,_,rfl]
   .rintro x W ⟨D,I,ai,ae,o7,o8,o9,u,rfl⟩;rw[db]at ai ae;show#[D,I,ai,(),_,_,_,_,_,rfl]
  .rintro od x J ⟨as,ax,hT,_,o6,o7,o8,o9,u,rfl⟩;rw[è<|by rw[Qb];show qP (b3.symm)<|Ã _]at hT;apply q y J N (SH.trans<|as.off C) (SH.free a6) hN hT
def LK(ls:ϵ)(st:Int×Int×ϊ Nat)(w:ϴ):ϐ×Nat×(Int×Int×ϊ Nat):=(w.1,cst st.2.2 w.2.1,Fy w st.2.1 st.2.2)
def SpT(K:Ϗ)(H:Hp)(a:ό)(x:ϐ×Nat×(Int×Int×ϊ Nat)):Prop:=∃c,H a=!(.tup [.str x.1,.int (x.2.1:Nat),.ref c])/\StT K H c x.2.2
theorem SpT.same{K:Ϗ}{x:ϐ×Nat×(Int×Int×ϊ Nat)}(h:SpT K H a x)(s:Same H H'):SpT K H' a x:=by
 let#[c,b,d]:=h;show#[c,s.get b,d.same s]
def SsT(K:Ϗ)(H:Hp)(a:ό)(xs:ϊ<|ϐ×Nat×(Int×Int×ϊ Nat)):Prop:=∃zs:ϊ<|ό×ϐ×Nat×(Int×Int×ϊ Nat),zs.map (·.2)=xs/\H a=!(.lst<|zs.map λz=>V.ref z.1)/\∀z∈zs,SpT K H z.1 z.2
inductive fg(K:Ϗ)(vs:ϊ V)(H:Hp)(Q:VK)(E:XK):Prop
 |mk (g e f:ό) (d:ϵ) (a:ϲ) (b:Int×Int×ϊ Nat) (c:ϳ) (r:Nat) (h:vs=[.ref g,.ref e,.ref f]) (i:WsT H g a) (j:H e=!(.dK<|Fx<|Fw b.2.2 d)) (k:StT K H f b) (l:b.1=(r:Int)) (m:a[r]?=!c) (n:(∀w∈c,Fo.lk d w.1=!w.2.1)) (o:↑c<=1000) (q:∀p H',Same H H'->H p=none->SsT K H' p (c.map<|LK d b)->Q (.ref p) H')
def Av K(E:XK)(Eh:XK):=(aP<|m6 [none,!1,!2] (cB K<|aO (fu K) aV<|tX K bW 0) (ak 0) du<|dG<|oF (tX K aV 0) (gh bj<|tX K aV 0)<|bG (gy K)<|oF aV (tX K bW 1)<|tX K bW 2)
abbrev uR:ϊ ϐ:=sN ["ways","costs","stand"]
theorem Wi(h:fg K vs H Q E):RG (Av K E) uR vs H Q:=by
 let#[wa,Z,sa,T,ac,#[s0,M,B],o,r,rfl,#[U,X,w2,w3],u,#[sc,A,O],S,x,F,L,q]:=h;show#[E0,?_];unfold Av uR sN;dsimp only at A O S u;subst S;let#[n,e]:∃n,U[r]?=!n:=#[_,Zl (by have:=(Â.mp x).1;rw[<-X,Qb]at this;show this)];have C:n.2=o:=by
  have:(U.map (·.2))[r]?=!n.2:=by rw[À,e];rfl
  rw[X,x]at this;show(Ü this).symm
 let#[N,d,Y,z2]:=w3 n (Wp e);rw[C]at d;have y:↑N=↑o:=by rw[<-d,Qb]
 apply fW A ?_;apply di (gI w2) (aH (j:=r) (v:=.ref n.1) (by rw[À,e];rfl)) ?_;show xH (λz:Wz=>V.ref z.1) (zs:=N) (gI Y) (jb (qP y L)) (λi vs g=>(An2 (Same H g) (Ex1 λ(c:ϊ (ό×ϐ×Nat×(Int×Int×ϊ Nat)))=>(An3 (vs=c.map (λz=>V.ref z.1)) (c.map (·.2)=(o.take i).map (LK T ((r:Int),M,B))) (∀z∈c,SpT K g z.1 z.2))))) #[gN _,[],rfl,rfl,λz m=>(by cases m)] ?_ ?_ ?_ ?_
 .rintro i vs g ⟨b,_⟩;show gI (b.get Y)
 .rintro i vs g ⟨_,c,rfl,l,_⟩;have:=Ö List.length l;rw[Qb,Qb,Ñ]at this;rw[Qb];show Yy this
 .rintro i ⟨za,s,t,a⟩ vs g P ⟨b,c,rfl,l,J⟩;have w:o[i]?=!(s,t,a):=by rw[<-d,À,P];rfl
  have D:o.take (i+1)=o.take i++[(s,t,a)]:=by rw[Ò,w];rfl
  have hW:=z2 _ (Wp P);let#[cc,v1,v2]:=id hW;dsimp only at v1 v2;have R:=F _ (Wp w);dsimp only at R;apply fW (b.get v1) ?_;apply fW (b.get v1) ?_;apply#[Z,V.int (cst B t:Nat),rfl,by have:=DGet.k (k:=Sum.inr s) (b.get u);rw[Am R]at this;show this,?_];apply dB (b.get A) ?_;apply jY (b.get A) ?_;apply#[za,sc,(s,t,a),M,B,rfl,#[cc,b.get v1,b.get v2],b.get O,λsb H2 W ab I=>?_];symm;intro tp f;show#[(b.trans W).new f,c++[(tp,LK T ((r:Int),M,B) (s,t,a))],by rw[Á];rfl,by rw[Á,l,D,Á];rfl,λz mz=>?_];rcases Ê.mp mz with mz|mz
  .show (J z mz).same (W.new f)
  .rw [Zs.mp mz];show#[sb,aa,I.same (aq f _)]
 .rintro vs g ⟨b,c,rfl,l,J⟩ p G;rw[è (qP (y.symm) (Ã _))]at l;show q p _ (b.new G) (b.free G) #[c,l,aa,λz mz=>(J z mz).same (aq G _)]
abbrev Sd:=Int×Int×ϊ Nat
variable{ev:Sd->Prop}{F':Sd->Nat×Nat->Prop}{W':Nat×Nat->Sd->Prop}{B:Nat->Sd->Sd->Prop}
noncomputable def iB(x:Sd):Sk:=(x.1,x.2.1,x.2.2.map λn:Nat=>(n:Int))
theorem xR:∀{c d:ϊ Nat},(c.map λn:Nat=>(n:Int))=(d.map λn:Nat=>(n:Int))->c=d
 |[],[],_=>rfl
 |[],_::_,h=>by cases h
 |_::_,[],h=>by cases h
 |x::c,y::d,h=>by
  rw[È,È]at h;injection h with h1 h2
  rw[xR h2,show x=y by show QD h1]
theorem uT{x y:Sd}(h:iB x=iB y):x=y:=by
 let#[a,b,c]:=x;let#[d,e,f]:=y;have g:a=d:=Ö (λz:Sk=>z.1) h;have i:b=e:=Ö (λz:Sk=>z.2.1) h;have j:c=f:=xR<|Ö (λz:Sk=>z.2.2) h;rw[g,i,j]
theorem StT.a{K:Ϗ}{a:ό}{b:Sd}(h:StT K H a b):vH H a (iB b):=by
 let#[c,d,e]:=h;show#[c,d,by rw[e];unfold nv iB;rw[Ä];rfl]
theorem StT.keep{K:Ϗ}{b:ό}(h:StT K H b k)(e:H p=!o)(f:∀l,o≠.tup l):StT K (upd H p g) b k:=by
 let#[c,a,d]:=h;show#[c,by rw[ao<|bC a e λz=>f _ z.symm];show a,by rw[ao<|bC d e λz=>f _ z.symm];show d]
theorem SsT.same{K:Ϗ}{b:ϊ<|ϐ×Nat×Sd}(h:SsT K H a b)(s:Same H H'):SsT K H' a b:=by
 let#[g,c,d,e]:=h;show#[g,c,s.get d,λz f=>(e z f).same s]
theorem SsT.keep{K:Ϗ}(h:SsT K H a f)(e:H p=!o)(d:∀l,o≠.tup l)(n:a≠p):SsT K (upd H p q) a f:=by
 let#[r,i,j,k]:=h;show#[r,i,by rw[ao n];show j,λz m=>?_];let#[c,b,g]:=k z m;show#[c,by rw[ao<|bC b e λz=>d _ z.symm];show b,g.keep e d]
noncomputable def vJ(ys:ϊ Nat):ϊ Key:=ys.map λn:Nat=>(Sum.inl (n:Int):Key)
theorem Aw(a:ϊ Nat):(vJ a).map kV=nv a:=by unfold vJ nv;rw[Ä];rfl
theorem uU:∀{c d:ϊ Nat},vJ c=vJ d->c=d
 |[],[],_=>rfl
 |[],_::_,h=>by cases h
 |_::_,[],h=>by cases h
 |x::c,y::d,h=>by
  unfold vJ at h;rw[È,È]at h;injection h with a h2
  have a:=Sum.inl.inj a;rw[uU h2,show x=y by show QD a]
theorem LQ{b:ϊ Nat}:∀{cs:ϊ<|ϊ Nat×ό},b∈cs.map (·.1)->∃a,(b,a)∈cs/\bh (cs.map λc=>(vJ c.1,V.ref c.2)) (vJ b)=!(V.ref a)
 |c::cs,m=>by
  rw[È];by_cases e:c.1=b
  .show #[c.2,by rw[<-e];show Ì,by rw[cJ (by rw[e])]]
  .obtain ⟨a,d,f⟩:=LQ (cs:=cs) (by rcases Æ.mp m with z|z;show absurd z.symm e;show z);show⟨a,Ç _ d,by rw[c7 (λz=>e<|uU z)];show f⟩
theorem FJ:∀{cs:ϊ<|ϊ Nat×ό},a∉cs.map (·.1)->bh (cs.map λc=>(vJ c.1,V.ref c.2)) (vJ a)=none
 |[],_=>rfl
 |c::cs,m=>by
  rw[È,c7<|λz=>m<|by rw[È,uU z];show Ì];show FJ λz=>m<|Ç _ z
abbrev Uz:=(ό×ϐ×Nat×Sd)×ό
theorem Ax{K:Ϗ}{H:Hp}:∀{us:ϊ<|ό×ϐ×Nat×Sd},(∀z∈us,SpT K H z.1 z.2)->∃ps:ϊ Uz,ps.map (·.1)=us/\∀p∈ps,H p.1.1=!(.tup [.str p.1.2.1,.int (p.1.2.2.1:Nat),.ref p.2])/\StT K H p.2 p.1.2.2.2
 |[],_=>#[[],rfl,λp m=>(by cases m)]
 |u::us,h=>by
  let#[ps,d,e]:=Ax λz f=>h z<|Ç _ f
  let#[c,a,b]:=h u Ì;show#[(u,c)::ps,by rw[È,d],λp mp=>?_];rcases Æ.mp mp with rfl|mp
  .show #[a,b]
  .show e p mp
def Oh(wss:ϲ)(st:Sd):ϊ Sd:=(wss.getD st.1.toNat []).map λw=>Fy w st.2.1 st.2.2
def qQ(z:(ϴ)×(ϴ)×Int):Sd:=Fy z.1 z.2.1.2.2 z.2.1.2.1
def Ib(wss:ϲ)(N:Nat):ϊ Sd:=(vI wss<|cY wss N).map qQ
def InU(n:Nat)(ls:ϵ)(x:Sd):Prop:=(0<=x.1/\x.1<n)/\(0<=x.2.1/\x.2.1<n)/\∃p∈ls,∃d,d<9/\x.2.2=p.2.drop d
noncomputable def UL(n:Nat)(ls:ϵ):ϊ Sd:=(List.range n).flatMap λa:Nat=>(List.range n).flatMap λb:Nat=>ls.flatMap λp=>(List.range 9).map λd:Nat=>((a:Int),(b:Int),p.2.drop d)
theorem uV{a b:Type}(f:a->ϊ b)(k:Nat)(h:∀x,↑(f x)=k):∀l:ϊ a,↑(l.flatMap f)=↑l*k
 |[]=>by simp
 |x::l=>by rw[Ũ,Ë,h,uV f k h l,ê,Nat.add_mul,Nat.one_mul,ō]
theorem Ay(n:Nat)(c:ϵ):↑(UL n c)=n*n*(↑c*9):=by
 unfold UL;rw[uV _ (n*(↑c*9)) λa=>by rw[uV _ (↑c*9) λb=>by rw[uV _ 9 λp=>by rw[Qb,ï]],ï],ï,Nat.mul_assoc]
theorem InU.mem{b:ϵ}{x:Sd}(h:InU n b x):x∈UL n b:=by
 let#[#[a,c],#[f,j],p,i,d,g,e]:=h;show û.mpr #[x.1.toNat,ñ.mpr<|qtT a c,û.mpr #[x.2.1.toNat,ñ.mpr (),û.mpr #[p,i,Zp.mpr #[d,ñ.mpr g,?_]]]];rw[<-e,δ a,δ f]
def WOk(ls:ϵ)(n:Nat)(wss:ϲ):Prop:=∀ws∈wss,∀w∈ws,((w.1,w.2.1)∈ls/\1<=↑w.2.1/\↑w.2.1<=8)/\0<=w.2.2/\w.2.2<n
theorem WOk.at{b:ϵ}{n:Nat}(h:WOk b n a){r:Nat}{w:ϴ}(m:w∈a.getD r []):((w.1,w.2.1)∈b/\1<=↑w.2.1/\↑w.2.1<=8)/\0<=w.2.2/\w.2.2<n:=by
 by_cases c:r<↑a
 .rw [Yf,Zl c]at m;show h _ (Û c) w m
 .rw [Yf,ę<|V2 c]at m
  cases m
theorem LR{b:ϵ}(g:((w.1,w.2.1)∈b/\1<=↑w.2.1/\↑w.2.1<=8)/\0<=w.2.2/\w.2.2<n){a:Int}{f:ϊ Nat}(e:0<=a/\a<n)(h:∃p∈b,↑p.2<=8/\∃d,f=p.2.drop d):InU n b (Fy w a f):=by
 let#[#[m,k,i],r]:=g;let#[p,j,l,d,rfl]:=h;unfold Fy;split
 .rename_i c;rw[ú]at c;show#[r,e,p,j,d+↑w.2.1,(),by change(p.2.drop d).drop _=_;rw[List.drop_drop]]
 .rename_i c;show#[e,r,_,m,↑(p.2.drop d),Ó (qnT c)<|jb i,rfl]
theorem M3(f:∀p∈a,↑p.2<=8)(h:WOk a n wss)(x y:Sd)(g:InU n a x)(m:y∈Oh wss x):InU n a y:=by
 let#[w,i,rfl]:=Zp.mp m;let#[_,c,p,b,d,_,e]:=g;show LR (h.at i) c #[p,b,f p b,d,e]
theorem M4(h:WOk f n wss)(N:Nat)(x:Sd)(m:x∈Ib wss N):InU n f x:=by
 let#[z,s,rfl]:=Zp.mp m;let#[r,_,q]:=û.mp s;let#[b,p,o]:=û.mp q;let#[a,d,rfl]:=Zp.mp o;have j:=ñ.mp p;have d:=ñ.mp d;have g:∀k,k<↑(wss.getD r.toNat [])->(wss.getD r.toNat []).getD k default∈wss.getD r.toNat []:=by
  generalize wss.getD r.toNat []=l;intro k e;rw[Yf,Zl e];show Û e
 have i:=h.at (g a ());have c:=h.at (g b j);show LR i c.2 #[_,c.1.1,c.1.2.2,0,rfl]
def ZJ(ls:ϵ)(ds:L2S):Prop:=0<↑ds/\↑ds<=50/\(∀ps∈ds,↑ps<=18/\∀p∈ps,0<=p.2/\p.2<↑ds)/\↑ds*↑ds*(↑ls*9)<=50000
theorem uW{h:Nat}(k:Fo.Wf h a)(j:ZJ a ds):WOk a ↑ds (ds.map<|aD a):=λm e w i=>by
 let#[f,d,rfl]:=Zp.mp e;let#[p,c,g]:=ó.mp<|show w∈f.filterMap _ from i;let#[l,b,rfl]:=Î.mp g;have:=Fo.cH b;show#[#[this,k.c1 _ this],(j.2.2.1 f d).2 p c]
abbrev Gz:=ό×Sd×ό
variable{zs:ϊ Gz}
def cR(zs:ϊ Gz):ϊ (ό×Sk×V):=zs.map λz:Gz=>(z.1,iB z.2.1,V.ref z.2.2)
def GzT(K:Ϗ)(H:Hp)(ls:ϵ)(wss:ϲ)(z:Gz):Prop:=StT K H z.1 z.2.1/\SsT K H z.2.2 ((wss.getD z.2.1.1.toNat []).map<|LK ls z.2.1)
theorem GzT.same{K:Ϗ}{z:Gz}(h:GzT K H a wss z)(s:Same H H'):GzT K H' a wss z:=#[h.1.same s,h.2.same s]
theorem Az{K:Ϗ}{b:ϵ}(h:∀z∈zs,GzT K H b wss z):∀p∈cR zs,vH H p.1 p.2.1:=λp c=>by
 let#[z,d,rfl]:=Zp.mp c;show(h z d).1.a
theorem jC{x:Sd}(h:x∉zs.map (·.2.1)):dH (cR zs) (iB x)=none:=sX.mpr λm=>by
 unfold cR at m;rw[Ä]at m;let#[z,a,e]:=Zp.mp m;show h<|Zp.mpr #[z,a,uT e]
theorem ql{x:Sd}(h:x∈zs.map (·.2.1)):∃v,dH (cR zs) (iB x)=!v:=Lg (by
 unfold cR;rw[Ä];let#[z,a,e]:=Zp.mp h;show Zp.mpr #[z,a,by rw[<-e];rfl])
theorem uX(d:∀h∈a,↑h<=18):∀rs:ϊ Int,↑(vI a rs)<=↑rs*324
 |[]=>by simp[vI]
 |r::rs=>by
  have b:=uX d rs;unfold vI at b⊢;rw[Ũ,Ë,ê];have i:↑(ZG a r)<=324:=by
   unfold ZG;have f:↑(a.getD r.toNat [])<=18:=by
    by_cases c:r.toNat<↑a
    .rw [Yf,Zl c];show d _<|Û c
    .rw [Yf,ę ()];simp
   have e:∀(m:Nat)(g:Nat->Nat->(ϴ)×(ϴ)×Int),m<=18->↑((List.range m).flatMap λj=>(List.range j).map λk=>g j k)<=m*18:=by
    intro m g l;induction m with
    |zero=>simp
    |succ m b=>
     rw[Ŋ,Ō,Ë,Ż,Qb,ï];have:=b ();rfl'
   have:=e _ (λj k=>((a.getD r.toNat []).getD k default,(a.getD r.toNat []).getD j default,r)) f;rfl'
  rfl'
inductive eS(K:Ϗ)(vs:ϊ V)(H:Hp)(Q:VK)(E:XK):Prop
 |mk (f c:ό) (h:Nat) (a:ϵ) (b:L2S) (d:ϊ Int) (e:vs=[.ref f,.ref c]) (g:FnF K H f h a) (i:Fo.Wf h a) (j:HsG K H c b d) (k:ZJ a b) (l:∀r H' N (zs:ϊ Gz),Same H H'->H r=none->↑(cY (b.map<|aD a) N)<=N->H' r=!(bM r<|cR zs)->(∀z∈zs,GzT K H' a (b.map<|aD a) z)->↑zs<=50000->(zs.map (·.2.1)).Nodup->(∀x,x∈zs.map (·.2.1)↔Mm.Rch (Ib (b.map<|aD a) N) (Oh<|b.map<|aD a) x)->Q (.ref r) H')
abbrev M5 K:=(az (bH (tB<|jM (tX K jk 2) cF) (jh cF (tX K jk 2)<|bG (dP K)<|bQ aV<|tX K jk 2) aU)
  (az (wQ dZ jk<|bG (fg K)<|oF bW (gh cF<|tX K jk 2) jk)
  (cL<|rC K "list" jK gw<|cu<|m6 [none] (cB K<|lQ dZ jk) (ak 0) du<|tX K aV 2)))
abbrev M6 K:=(az (aL wO<|ak 4)
  (az (aL (m6 [none] (cB K<|bG (f3 K)<|bQ aV bW) (ak 0) du<|tX K aV 1)<|ak 5)
  (az (gM (aQ<|aO qN (fP K gw)<|tI 0) (az (aL (Gr K "list" Ud gw)<|ak 6)
  (bH (tB<|oM jk dZ) (M5 K) aU)))
  (aP dZ))))
def Ba K(E:XK)(Eh:XK):=(az (aL (bG (fv K)<|bQ aV bj)<|ak 2)
  (az (aL yM<|ak 3)
  (M6 K)))
abbrev qm:ϊ ϐ:=sN ["font","house","ways","costs","found","waiting","stand"]
theorem Wj(h:eS K vs H Q E):RG (Ba K E) qm vs H Q:=by
 let#[f,ha,h,U,ds,es,rfl,hF,wf,hH,sz,q]:=h;show#[E0,?_];unfold Ba qm sN;have ah:=uW wf sz;have cn:∀p∈U,↑p.2<=8:=λp mp=>(wf.c1 p mp).2
 let#[c2,a6,c3,df]:=id sz;have ag:∀ws∈ds.map<|aD U,↑ws<=18:=λws ac=>by
  let#[Z,a4,rfl]:=Zp.mp ac;show Ð (Ŀ ..) (c3 Z a4).1
 have bx:∀ws∈ds.map<|aD U,∀w∈ws,Fo.lk U w.1=!w.2.1:=λws ac w mw=>by
  let#[Z,a4,rfl]:=Zp.mp ac;let#[p,mp,ep]:=ó.mp<|show w∈Z.filterMap _ from mw;let#[O,ai,rfl]:=Î.mp ep;show ai
 apply#[f,ha,h,U,ds,es,rfl,hF,wf,hH,jb a6,λZ a4=>by have:=(c3 Z a4).1;show jb this,λwa H1 s1 dq hW=>?_];have cv:↑(ds.map<|aD U)=↑ds:=Qb _;generalize ds.map (aD U)=wss at ah ag hW q cv bx;rw[<-cv]at ah c2 a6 df;symm;intro O bq;symm;intro g br;have S1:Same H1 (upd (upd H1 O<|HO.dT []) g<|bM g []):=(aq bq _).new br;have F:upd (upd H1 O<|HO.dT []) g (bM g []) O=!(.dT []):=aF br aa;have G:upd (upd H1 O<|HO.dT []) g (bM g []) g=!(bM g []):=aa;have bg:H1 g=none:=(aq bq _).free br;generalize upd (upd H1 O<|HO.dT []) g (bM g [])=H2 at S1 F G;apply#[f,wa,h,U,wss,rfl,(hF.same s1).same S1,wf,hW.same S1,c2,jb a6,λws ac=>#[by have:=ag ws ac;show jb this,λw mw=>#[bx ws ac w mw,(ah ws ac w mw).2]],λfk H3 N s3 dn hN hT=>?_];let#[fz,b4,c5,b9]:=hT;have da:↑(cY wss N)<=↑wss:=by
  have db:∀k,∀r∈cY wss k,0<=r/\r<↑wss:=λk=>fD (P:=λr:Int=>0<=r/\r<↑wss) #[by decide,()] (λp q' hp hq=>by
   let#[w,mw,rfl]:=Zp.mp hq;show(ah.at mw).2) k
  have:=dJ (l:=cY wss N) (m:=(List.range ↑wss).map λi:Nat=>(i:Int)) (gG _ _ N) λr mr=>by
   let#[h0,h1]:=db N r mr;show Zp.mpr #[r.toNat,ñ.mpr (),()]
  rw[Qb,ï]at this;show this
 have c6:↑fz<=16200:=by
  have h1:=uX ag<|cY wss N;rw[<-b4,Qb]at h1;have:=Nat.mul_le_mul_right 324<|Ð da a6;rfl'
 show Fp (λz:Fz=>V.ref z.1) (zs:=fz) (gI c5) () (λz:Fz=>V.ref z.2.1) ?_ λD aw=>?_
 .rintro i z hi A hA;let#[z1,_]:=b9 z<|Wp hi;apply cM (gL z1) (aH (j:=1) (v:=.ref z.2.1) rfl) hA
 have S3:=(S1.trans s3).new (o:=HO.lst (fz.map λz:Fz=>V.ref z.2.1)) aw;have a7:upd H3 D (HO.lst (fz.map λz:Fz=>V.ref z.2.1)) O=!(.dT []):=aF aw<|s3.get F;have a9:upd H3 D (HO.lst (fz.map λz:Fz=>V.ref z.2.1)) g=!(bM g []):=aF aw<|s3.get G;have am:upd H3 D (HO.lst (fz.map λz:Fz=>V.ref z.2.1)) D=!(.lst ((fz.map λz:Fz=>(z.2.1,qQ z.2.2.2.2)).map λz:ό×Sd=>V.ref z.1)):=by rw[aa,Ä];rfl
 have ar:∀z∈fz.map λz:Fz=>(z.2.1,qQ z.2.2.2.2),StT K (upd H3 D (HO.lst (fz.map λz:Fz=>V.ref z.2.1))) z.1 z.2:=λz mz=>by
  let#[y,my,rfl]:=Zp.mp mz;show(b9 y my).2.1.same<|aq aw _
 have cw:H1 D=none:=(S1.trans s3).free aw;generalize upd H3 D (HO.lst (fz.map λz:Fz=>V.ref z.2.1))=H4 at S3 a7 a9 am ar;have b3:(fz.map λz:Fz=>(z.2.1,qQ z.2.2.2.2)).map (·.2)=Ib wss N:=by rw[Ä];unfold Ib;rw[<-b4,Ä];rfl
 have c4:↑(fz.map λz:Fz=>(z.2.1,qQ z.2.2.2.2))<=16200:=by rw[Qb];show c6
 generalize fz.map (λz:Fz=>(z.2.1,qQ z.2.2.2.2))=fs at am ar b3 c4;symm;walk_at "ns";have bs:∀p∈[O,g,D],H1 p=none:=λp hp=>by
  simp only[Æ,á,ĕ]at hp;rcases hp with rfl|rfl|rfl
  .show bq
  .show bg
  .show cw
 have SH:=s1;show qj (λm σ W=>(An2 (Sb [O,g,D] H1 W) (Ex4 λ(C:ϊ Gz) (fs:ϊ<|ό×Sd) (cs:ϊ<|ϊ Nat×ό) (o6:ύ V)=>(An11 (W g=!(bM g<|cR C)) (∀z∈C,z.2.2≠D/\GzT K W U wss z) (W D=!(.lst (fs.map λz:ό×Sd=>V.ref z.1))) (∀z∈fs,StT K W z.1 z.2) (W O=!(.dT (cs.map λc=>(vJ c.1,V.ref c.2)))) (∀c∈cs,W c.2=!(.dK<|Fx<|Fw c.1 U)) (Mm.Clo (Ib wss N) (Oh wss) (C.map (·.2.1)) (fs.map (·.2))) (↑cs<=↑C) (↑fs<=16200+18*↑C) (m=(50000-↑C)*19+↑fs)<|σ=[!(.ref f),!(.ref ha),!(.ref wa),!(.ref O),!(.ref g),!(.ref D),o6])))) _ #[Sb.of S3,[],fs,[],none,a9,λz m=>(by cases m),am,ar,a7,λc m=>(by cases m),by rw[b3];show Mm.Clo.start _ _,Ã _,(),rfl,rfl] ?_ ?_
 .rintro m σ W Nx ⟨sb,C,fs,cs,o6,a3,ax,L,ci,ai,cf,hC,cc,bi,rfl,rfl⟩ bp;have S':=sb.off bs;have bv:∀x,Mm.Rch (Ib wss N) (Oh wss) x->InU ↑wss U x:=λx hx=>Mm.Rch.all (M4 ah N) (M3 cn ah) hx
  have dd:↑C<=50000:=by
   have:=dJ hC.nd λx mx=>(bv x<|hC.rF x mx).mem
   rw[Ay,Qb]at this;rfl'
  apply cg (gI L) ?_;rw[Qb];apply fJ (λc1=>?_) λc1=>?_
  .obtain ⟨R,⟨S,s⟩,rfl⟩:∃(R:ϊ<|ό×Sd)(y:ό×Sd),fs=R++[y]:=#[fs.dropLast,fs.getLast (λe=>by rw[e]at c1;simp at c1),(List.dropLast_concat_getLast _).symm];rw[Á]at hC L;rw[Ë,à]at bi bp c1;have ct:=ci _<|ß _<|Zs.mpr rfl;have c8:∀z∈R,StT K W z.1 z.2:=λz mz=>ci z<|é _ mz
   dsimp only at ct;have bm:=bv s<|hC.rW s<|ß _<|Zs.mpr rfl;apply eO (gI L) ?_;apply s_pop L ?_;symm;have n1:g≠D:=bC a3 L (by intro z;cases z);have n2:O≠D:=bC ai L (by intro z;cases z);have n3:O≠g:=bC ai a3 (by intro z;cases z);have a2:=sb.set (p:=D) (o:=HO.lst (R.map λz:ό×Sd=>V.ref z.1)) (by simp);have G:upd W D (HO.lst (R.map λz:ό×Sd=>V.ref z.1)) g=!(bM g<|cR C):=by rw[ao n1];show a3
   have F:upd W D (HO.lst (R.map λz:ό×Sd=>V.ref z.1)) O=!(.dT (cs.map λc=>(vJ c.1,V.ref c.2))):=by rw[ao n2];show ai
   have ad:upd W D (HO.lst (R.map λz:ό×Sd=>V.ref z.1)) D=!(.lst (R.map λz:ό×Sd=>V.ref z.1)):=aa;have nt:∀{xs:ϊ V} l,HO.lst xs≠.tup l:=λl z=>by cases z
   have J:∀z∈C,z.2.2≠D/\GzT K (upd W D (HO.lst (R.map λz:ό×Sd=>V.ref z.1))) U wss z:=λz mz=>#[(ax z mz).1,(ax z mz).2.1.keep L nt,(ax z mz).2.2.keep L nt (ax z mz).1]
   have Y:StT K (upd W D (HO.lst (R.map λz:ό×Sd=>V.ref z.1))) S s:=ct.keep L nt;have af:∀z∈R,StT K (upd W D (HO.lst (R.map λz:ό×Sd=>V.ref z.1))) z.1 z.2:=λz mz=>(c8 z mz).keep L nt
   have ae:∀c∈cs,upd W D (HO.lst (R.map λz:ό×Sd=>V.ref z.1)) c.2=!(.dK<|Fx<|Fw c.1 U):=λc mc=>by rw[ao (bC (cf c mc) L (by intro z;cases z))];show cf c mc
   generalize upd W D (HO.lst (R.map λz:ό×Sd=>V.ref z.1))=H5 at a2 G F ad J Y af ae⊢;have S5:=a2.off bs;show#[g,_,rfl,SGet.of G (Az λz mz=>(J z mz).2) Y.a,?_];by_cases m:s∈C.map (·.2.1)
   .obtain ⟨v,ev⟩:=ql m;rw[ev];symm;change if(not true)=true then _ else _
    apply bp _ _ _ (Yz rfl) #[a2,C,R,cs,_,G,J,ad,af,F,ae,hC.skip m,cc,ì bi,rfl,rfl]
   .have ev:=jC m;rw[ev];symm;change if(not false)=true then _ else _
    rw[if_pos<|show(not false)=true from rfl];have dt:↑s.2.2<=8:=by
     let#[_,_,p,mp,d,_,e]:=bm;rw[e,ú];have:=cn p mp;show Ð (Nat.sub_le _ _) this
    walk_at "ns";with_reducible show Ky (λσ H6=>(An2 (Sb [O,g,D] H1 H6) (Ex2 λ(cs:ϊ<|ϊ Nat×ό) (ca:ό)=>(An11 (H6 g=!(bM g<|cR C)) (∀z∈C,z.2.2≠D/\GzT K H6 U wss z) (H6 D=!(.lst (R.map λz:ό×Sd=>V.ref z.1))) (∀z∈R,StT K H6 z.1 z.2) (StT K H6 S s) (H6 O=!(.dT (cs.map λc=>(vJ c.1,V.ref c.2)))) (∀c∈cs,H6 c.2=!(.dK<|Fx<|Fw c.1 U)) (↑cs<=↑C+1) ((s.2.2,ca)∈cs) (bh (cs.map λc=>(vJ c.1,V.ref c.2)) (vJ s.2.2)=!(V.ref ca))<|σ=[!(.ref f),!(.ref ha),!(.ref wa),!(.ref O),!(.ref g),!(.ref D),!(.ref S)])))) ?_ ?_
    .rintro σ H6 ⟨cz,bn,ca,b2,ay,bb,cm,as,B,bd,ce,b0,ab,rfl⟩;have S6:=cz.off bs;let#[sc,e1,e2]:=id as;let#[#[i1,i2],_,_]:=id bm;let#[r,hr]:∃r:Nat,s.1=(r:Int):=#[s.1.toNat,()];have cq:wss[r]?=!(wss.getD s.1.toNat []):=by
      rw[hr,Ô,Yf,Zl ()];rfl
     have cx:=Wp cq;have dg:=ag _ cx;apply jY e1 ?_;apply#[O,.ref ca,rfl,by rw[<-ab];show DGet.t (k:=vJ s.2.2) B (by rw[Aw];show e2),?_];apply#[wa,ca,S,U,wss,s,_,r,rfl,hW.same S6,bd _ b0,as,hr,cq,bx _ cx,(),λX H7 s7 cr cb=>?_];symm;have I:=s7.get b2;have b6:=s7.get bb;have b1:=s7.get B;have bl:=as.same s7;have de:X≠D:=λe=>by rw[e,bb]at cr;cases cr
     show#[g,_,rfl,SPut.of I (Az λz mz=>(ay z mz).2.same s7) bl.a (by unfold cR;rw[Qb];rfl'),?_];rw[qi ev];have a1:∀{P:PySem.Heap->Prop} l,HO.ext P≠.tup l:=λl z=>by cases z
     have b5:cR C++[(S,iB s,V.ref X)]=cR (C++[(S,s,X)]):=by unfold cR;rw[Á];rfl
     have c0:=(cz.same s7).set (p:=g) (o:=bM g<|cR C++[(S,iB s,V.ref X)]) (by simp);have al:upd H7 g (bM g<|cR C++[(S,iB s,V.ref X)]) g=!(bM g<|cR C++[(S,iB s,V.ref X)]):=aa;have ap:upd H7 g (bM g<|cR C++[(S,iB s,V.ref X)]) D=!(.lst (R.map λz:ό×Sd=>V.ref z.1)):=by rw[ao n1.symm];show b6
     have a8:upd H7 g (bM g<|cR C++[(S,iB s,V.ref X)]) O=!(.dT (bn.map λc=>(vJ c.1,V.ref c.2))):=by rw[ao n3];show b1
     have av:StT K (upd H7 g<|bM g<|cR C++[(S,iB s,V.ref X)]) S s:=bl.keep I a1;have bk:∀z∈R,StT K (upd H7 g<|bM g<|cR C++[(S,iB s,V.ref X)]) z.1 z.2:=λz mz=>((cm z mz).same s7).keep I a1
     have be:∀c∈bn,upd H7 g (bM g<|cR C++[(S,iB s,V.ref X)]) c.2=!(.dK<|Fx<|Fw c.1 U):=λc mc=>by
      have:=s7.get<|bd c mc;rw[ao (bC this I (by intro z;cases z))];show this
     have cy:∀{a xs},SsT K H7 a xs->a≠g:=λh=>by
      let#[us,_,u2,_]:=h;show bC u2 I (by intro z;cases z)
     have M:∀z∈C++[(S,s,X)],z.2.2≠D/\GzT K (upd H7 g<|bM g<|cR C++[(S,iB s,V.ref X)]) U wss z:=λz mz=>by
      rcases Ê.mp mz with mz|mz
      .have h7:=(ay z mz).2.same s7;show#[(ay z mz).1,h7.1.keep I a1,h7.2.keep I a1<|cy h7.2]
      .rw [Zs.mp mz];show#[de,av,cb.keep I a1<|cy cb]
     generalize upd H7 g (bM g<|cR C++[(S,iB s,V.ref X)])=H8 at c0 al ap a8 av bk be M⊢;apply eO (gI ap) ?_;apply#[g,.ref X,rfl,by rw[<-HF (b:=S) (v:=V.ref X) ev];show SGet.of al (by rw[b5];show Az λz mz=>(M z mz).2) av.a,?_];symm;let#[us,u1,u2,u3]:=(M _<|ß _<|Zs.mpr rfl).2.2;dsimp only at u1 u2;have dp:↑us=↑(wss.getD s.1.toNat []):=by
      have:=Ö List.length u1;rw[Qb,Qb]at this;show this
     let#[Z,ep,cp]:=Ax u3;have dk:↑Z=↑us:=by rw[<-ep,Qb]
     show Fp (λp:Uz=>V.ref p.1.1) (zs:=Z) (gI (by rw[u2,<-ep,Ä];rfl)) () (λp:Uz=>V.ref p.2) ?_ λnl c9=>?_
     .rintro i p hi A hA;apply cM (gL (cp p<|Wp hi).1) (aH (j:=2) (v:=.ref p.2) rfl) hA
     have s9:Same H8 (upd H8 nl (HO.lst (Z.map λp:Uz=>V.ref p.2))):=aq c9 _;have e9:upd H8 nl (HO.lst (Z.map λp:Uz=>V.ref p.2)) nl=!(.lst (Z.map λp:Uz=>V.ref p.2)):=aa;generalize upd H8 nl (HO.lst (Z.map λp:Uz=>V.ref p.2))=H9 at s9 e9⊢;have T:=s9.get ap;apply lW T e9 (by rw[Qb,Qb];rfl') ?_;symm;have dc:(Z.map λp:Uz=>(p.2,p.1.2.2.2)).map (·.2)=Oh wss s:=by
      rw[Ä];have:Z.map ((λx:ό×Sd=>x.2)∘λp:Uz=>(p.2,p.1.2.2.2))=(Z.map (·.1)).map (λu:ό×ϐ×Nat×Sd=>u.2.2.2):=by rw[Ä];rfl
      rw[this,ep];have:=Ö (List.map λx:ϐ×Nat×Sd=>x.2.2) u1;rw[Ä,Ä]at this;show this
     show bp ((50000-↑(C++[(S,s,X)]))*19+↑(R++Z.map λp:Uz=>(p.2,p.1.2.2.2))) _ _ ?_ #[(c0.same s9).set (by simp),C++[(S,s,X)],R++Z.map (λp:Uz=>(p.2,p.1.2.2.2)),bn,_,by rw[ao n1,<-b5];show s9.get al,λz mz=>#[(M z mz).1,((M z mz).2.1.same s9).keep T nt,((M z mz).2.2.same s9).keep T nt (M z mz).1],by rw[aa,Á,Ä];rfl,λz mz=>?_,by rw[ao n2];show s9.get a8,λc mc=>by have:=s9.get<|be c mc;rw[ao (bC this T (by intro z;cases z))];show this,?_,by rw[Ë,à];show ce,?_,rfl,rfl]
     .rw [Ë,à,Ë,Qb];have:↑C<50000:=by
       have h1:=dJ (hC.take m).nd λx mx=>(bv x<|(hC.take m).rF x mx).mem
       rw[Ay,Ë,à,Qb]at h1;rfl'
      rfl'
     .rcases Ê.mp mz with mz|mz
      .show ((bk z mz).same s9).keep T nt
      .obtain ⟨p,mp,rfl⟩:=Zp.mp mz;show((cp p mp).2.same s9).keep T nt
     .rw [Á,Á,dc];show hC.take m
     .rw [Ë,Qb,Ë,à];rfl'
    .intro Nj hJ;let#[sc,e1,e2]:=id Y;apply jY e1 ?_;apply#[O,_,rfl,DGet.t (k:=vJ s.2.2) F (by rw[Aw];show e2),?_];by_cases mc:s.2.2∈cs.map (·.1)
     .obtain ⟨ca,b0,ab⟩:=LQ mc;rw[ab];symm;change if(not true)=true then _ else _
      apply hJ _ _ #[a2,cs,ca,G,J,ad,af,Y,F,ae,Sw cc _,b0,ab,rfl]
     .have bo:=FJ mc;rw[bo];symm;change if(not false)=true then _ else _
      apply jY e1 ?_;apply#[f,sc,h,U,s.2.2,rfl,((hF.same s1).same S5).t,wf,gL e2,(),λca H6 s6 dl ab=>?_];apply jY (s6.get e1) ?_;symm;have B:=s6.get F;have a5:∀{xs:ϊ<|ϊ Key×V} l,HO.dT xs≠.tup l:=λl z=>by cases z
      show#[O,_,rfl,DPut.t (k:=vJ s.2.2) B (by rw[Aw];show s6.get e2) (Ý (by rw[Qb];rfl':_<=50000) (by decide)),?_];rw[cW _ bo];apply hJ _ _ #[(a2.same s6).set (by simp),cs++[(s.2.2,ca)],ca,by rw[ao n3.symm];show s6.get G,λz mz=>#[(J z mz).1,((J z mz).2.1.same s6).keep B a5,((J z mz).2.2.same s6).keep B a5 ?_],by rw[ao n2.symm];show s6.get ad,λz mz=>((af z mz).same s6).keep B a5,(Y.same s6).keep B a5,by rw[aa,Á];rfl,λc mc'=>?_,by rw[Ë,à];rfl',by simp,by rw[Á];show(rE _ _ _ _ bo).trans<|if_pos rfl,rfl]
      .obtain ⟨us,_,u2,_⟩:=(J z mz).2.2;show bC (s6.get u2) B (by intro z;cases z)
      .rcases Ê.mp mc' with mc'|mc'
       .have:=s6.get<|ae c mc';rw[ao (bC this B (by intro z;cases z))];show this
       .rw [Zs.mp mc'];rw[ao (bC ab B (by intro z;cases z))];show ab
  .have e0:fs=[]:=ł<|qn1 c1;subst e0;apply q g W N C (s1.trans S') (s1.free bg) hN a3 (λz mz=>(ax z mz).2) dd hC.nd hC.fin
 .rintro σ H Q Q' hq ⟨v,hv,x,n,e,hl,i,j,e1,e2,k,e3,z⟩;show#[v,hv,x,n,e,hl,i,j,e1,e2,k,e3,hq _ _ z]
abbrev M7(st:Sd->ϊ (ϐ×Nat×Sd))(xs:ϊ Sd)(c:Nat)(x y:Sd):Prop:=x∈xs/\∃s,(s,c,y)∈st x
abbrev Oi(ls:ϵ)(wss:ϲ)(x:Sd):ϊ (ϐ×Nat×Sd):=(wss.getD x.1.toNat []).map<|LK ls x
abbrev Bq:=ό×Nat×ό×Sd
variable{u:Bq}
def BqT(K:Ϗ)(H:Hp)(b:Bq):Prop:=H b.1=!(.tup [.int (b.2.1:Nat),.ref b.2.2.1])/\StT K H b.2.2.1 b.2.2.2
theorem fL{a b:Type}{f:a->b}:∀{l:ϊ a}{x y:a},(l.map f).Nodup->x∈l->y∈l->f x=f y->x=y
 |z::l,x,y,h,mx,my,e=>by
  rw[È,î]at h;rcases Æ.mp mx with ex|mx<;>rcases Æ.mp my with ey|my
  .rw [ex,ey]
  .show absurd (Zp.mpr #[y,my,by rw[<-e,ex]]) h.1
  .show absurd (Zp.mpr #[x,mx,by rw[e,ey]]) h.1
  .show fL h.2 mx my e
theorem fM(s:Sb a H H1)(h:p∈a\/H p=none):Sb a H (upd H1 p o):=λb u c e=>by
 rw[ao (λz=>by
  rcases h with h|h
  .show c<|z▸h
  .rw [z,h]at e;cases e)]
 show s b u c e
structure BkC(K:Ϗ)(H H':Hp)(ba:ό)(gz bz:ϊ Gz)(U:ό->ϊ Bq)(P:Nat->Sd->Sd->Prop)(m:Nat):Prop where
 d:H' ba=!(bM ba<|cR bz)
 k:bz.map (λb=>(b.1,b.2.1))=gz.map (λz=>(z.1,z.2.1))
 n:(bz.map (·.2.2)).Nodup
 f:∀b∈bz,H b.2.2=none/\b.2.2≠ba
 c:∀b∈bz,H' b.2.2=!(.lst ((U b.2.2).map λu=>V.ref u.1))/\(∀u∈U b.2.2,BqT K H' u)/\∀c x,(c,x)∈(U b.2.2).map (λu=>(u.2.1,u.2.2.2))↔P c x b.2.1
 s:(bz.map λb=>↑(U b.2.2)).sum<=m
theorem BqT.same{K:Ϗ}(h:BqT K H u)(s:Same H H'):BqT K H' u:=#[s.get h.1,h.2.same s]
theorem BqT.keep{K:Ϗ}{b:HO}(h:BqT K H u)(e:H p=!o)(a:∀l,o≠.tup l):BqT K (upd H p b) u:=
 #[by rw[ao (λz=>by have:=h.1;rw[z,e]at this;show a _<|Ü this)];show h.1,h.2.keep e a]
theorem BkC.same{K:Ϗ}(h:BkC K H H1 ba gz bz U P m)(s:Same H1 H2):BkC K H H2 ba gz bz U P m:=
 ⟨s.get h.d,h.k,h.n,h.f,λb e=>by
  let#[a,c,d]:=h.c b e;show⟨s.get a,λu f=>(c u f).same s,d⟩,h.s⟩
theorem BkC.imp{K:Ϗ}{a:Nat}(h:BkC K H H1 ba gz bz U P m)(j:∀c x,∀b∈bz,P c x b.2.1↔P' c x b.2.1)(i:m<=a):BkC K H H1 ba gz bz U P' a:=
 ⟨h.d,h.k,h.n,h.f,λb d=>by
  let#[e,f,g]:=h.c b d;show⟨e,f,λc x=>(g c x).trans<|j c x b d⟩,Ð h.s i⟩
theorem M8{a:Type}{f:a->Nat}:∀{l:ϊ a}{x:a},x∈l->f x<=(l.map f).sum
 |z::l,x,m=>by
  rw[È,Ģ];rcases Æ.mp m with e|m
  .rw [e];show Χ _ _
  .have:=M8 (f:=f) m;show qsR this _
theorem FN{d:Type}{U:ό->ϊ d}{u:d}:∀{bz:ϊ Gz},(bz.map (·.2.2)).Nodup->(bz.map λb=>↑(if b.2.2=a then U b.2.2++[u]else U b.2.2)).sum<=(bz.map λb=>↑(U b.2.2)).sum+1/\(a∉bz.map (·.2.2)->(bz.map λb=>↑(if b.2.2=a then U b.2.2++[u]else U b.2.2)).sum=(bz.map λb=>↑(U b.2.2)).sum)
 |[],_=>#[by simp,λ_=>rfl]
 |v::bz,h=>by
  rw[È,î]at h;let#[f,c]:=FN (U:=U) (u:=u) (a:=a) h.2;simp only[È,Ģ];by_cases e:v.2.2=a
  .have:=c (by rw[<-e];show h.1);rw[if_pos e,Ë,à];show#[(),λn=>absurd (Æ.mpr<|.inl e.symm) n]
  .rw [if_neg e];show#[(),λn=>by rw[c (λm=>n<|Ç _ m)]]
theorem BkC.add{K:Ϗ}(h:BkC K H H1 ba gz bz U P m)(A:(bz.map (·.2.1)).Nodup){b:Gz}(d:b∈bz)(t:BqT K H1 u):
  BkC K H (upd H1 b.2.2 (.lst (((U b.2.2).map λu=>V.ref u.1)++[V.ref u.1]))) ba gz bz (λa=>if a=b.2.2 then U a++[u]else U a) (λc x y=>P c x y\/(c=u.2.1/\x=u.2.2.2/\y=b.2.1)) (m+1):=by
 let#[f,j,k]:=h.c b d;show#[by rw[ao<|Ne.symm (h.f b d).2];show h.d,h.k,h.n,h.f,λv g=>?_,Ð (FN h.n).1<|Nat.add_le_add_right h.s 1];by_cases e:v=b
 .subst e;rw[if_pos rfl];show#[by rw[aa,Á];rfl,λw mw=>?_,λc x=>?_]
  .rcases Ê.mp mw with mw|mw
   .show (j w mw).keep f (λl q=>by cases q)
   .rw [Zs.mp mw];show t.keep f (λl q=>by cases q)
  .rw [Á,Ê,k];constructor
   .rintro (h|h)
    .show .inl h
    .rw [È,ă,Zs]at h;show .inr #[congrArg Prod.fst h,Ö Prod.snd h,rfl]
   .rintro (h|⟨r,s,_⟩)
    .show .inl h
    .show .inr (by rw[r,s];simp)
 .obtain ⟨n,o,p⟩:=h.c v g;have i:v.2.2≠b.2.2:=λz=>e<|fL h.n g d z
  rw[if_neg i];show#[by rw[ao i];show n,λw mw=>(o w mw).keep f (λl q=>by cases q),λc x=>?_];rw[p];show#[.inl,λh=>h.elim id λh=>absurd (fL A g d h.2.2) e]
theorem BkC.key{K:Ϗ}(h:BkC K H H1 ba gz bz U P m){b:Gz}(c:b∈bz):∃y∈gz,y.1=b.1/\y.2.1=b.2.1:=by
 have:(b.1,b.2.1)∈gz.map (λz=>(z.1,z.2.1)):=by rw[<-h.k];show Zp.mpr #[b,c,rfl]
 let#[y,d,a]:=Zp.mp this;show#[y,d,(Prod.mk.inj a).1,(Prod.mk.inj a).2]
theorem BkC.sb{K:Ϗ}{o:ό}{x:HO}(h:BkC K H H1 ba gz bz U P m)(s:Sb [o] H1 H2)(e:H1 o=!(.frz g x)):BkC K H H2 ba gz bz U P m:=by
 have d:∀{a:ό}{u:HO},(∀g x,u≠.frz g x)->H1 a=!u->H2 a=!u:=λq f=>s.get (λm=>by
  rw[Zs.mp m,e]at f;show q _ _ (Ü f).symm) f
 show#[d (λ_ _ z=>by cases z) h.d,h.k,h.n,h.f,λb r=>?_,h.s];let#[i,j,k]:=h.c b r;show#[d (λ_ _ z=>by cases z) i,λu t=>?_,k];let#[l,c,n,p]:=j u t;show#[d (λ_ _ z=>by cases z) l,c,d (λ_ _ z=>by cases z) n,d (λ_ _ z=>by cases z) p]
theorem Bb{z:ό×Sk×V}(h:(cR zs)[i]?=!z):∃g,zs[i]?=!g/\z=(g.1,iB g.2.1,V.ref g.2.2):=by
 unfold cR at h;rw[À]at h
 cases e:zs[i]?with
 |none=>rw[e]at h;cases h
 |some g=>rw[e]at h;show#[g,rfl,(Ü h).symm]
theorem ZK{y z:Gz}(h:(zs.map (·.2.1)).Nodup)(f:zs[i]?=!y)(g:zs[j]?=!z)(e:y.2.1=z.2.1):i=j:=by
 let#[a,b]:=Â.mp f;let#[c,d]:=Â.mp g;have:=(List.nodup_iff_pairwise_ne.mp h);rcases Nat.lt_trichotomy i j with l|l|l
 .show absurd (by rw[ü,ü,b,d];show e)<|Ś.mp h i j (by rw[Qb];show a) (by rw[Qb];show c) l
 .show l
 .show absurd (by rw[ü,ü,b,d];show e.symm)<|Ś.mp h j i (by rw[Qb];show c) (by rw[Qb];show a) l
theorem jT{z:Gz}(f:(zs.map (·.2.1)).Nodup)(d:z∈zs):dH (cR zs) (iB z.2.1)=!(V.ref z.2.2):=by
 let#[v,c]:=ql<|Zp.mpr #[z,d,rfl];let#[b,g]:=HD c;let#[y,h,a]:=Zp.mp g;have e:y=z:=fL f h d<|uT<|Ö (λp:ό×Sk×V=>p.2.1) a;subst e;rw[c];show Ö some (Ö (λp:ό×Sk×V=>p.2.2) a).symm
inductive eB(K:Ϗ)(vs:ϊ V)(H:Hp)(Q:VK)(E:XK):Prop
 |mk (b:ό) (a:ϊ Gz) (c:Sd->ϊ (ϐ×Nat×Sd)) (d:vs=[.ref b]) (f:Rd H b (bM b (cR a))) (g:(∀z∈a,StT K H z.1 z.2.1/\SsT K H z.2.2 (c z.2.1)/\↑(c z.2.1)<=18)) (h:(a.map (·.2.1)).Nodup) (i:↑a<=50000) (j:(∀z∈a,∀e∈c z.2.1,e.2.2∈a.map (·.2.1))) (k:∀od ba H' (bz:ϊ Gz) (U:ό->ϊ Bq),Sb [b] H H'->H' b=!(.frz od (bM b (cR a)))->H ba=none->BkC K H H' ba a bz U (M7 c (a.map (·.2.1))) 900000->Q (.ref ba) H')
abbrev M9 K:=(az (cC (uz aV) (ak 2)<|wQ bj bW<|gO gf)
  (az (cC (uA aV) (gB K 2<|bf (ak 2)<|bf (ak 3) gK)<|cC (cB K cF) (gB K 3<|bf (ak 4)<|bf (ak 5)<|bf (ak 6) gK)<|cL<|rC K "list" d7 (lQ bj jk)<|cu<|dG<|bQ gw bW)
  (aP bj)))
def Bc K(E:XK)(Eh:XK):=(az (aL wO<|ak 1)
  (M9 K))
abbrev Bd:ϊ ϐ:=sN ["onward","backward","stand","steps","sign","cost","later"]
theorem Wl(h:eB K vs H Q E):RG (Bc K E) Bd vs H Q:=by
 let#[k,t,st,rfl,hO,hG,hN,hL,hC,q]:=h;show#[E0,?_];unfold Bc Bd sN;symm;intro D Z;symm;have S0:Same H (upd H D<|bM D []):=aq Z _;have a8:Rd (upd H D<|bM D []) k (bM k<|cR t):=by
  rcases hO with e|⟨F,e⟩
  .show .inl<|S0.get e
  .show .inr #[F,S0.get e]
 have a2:k≠D:=λz=>by
  rcases hO with e|⟨F,e⟩<;>(rw[z,Z]at e;cases e)
 have al:∀{d:Hp},Sb [k] H d->∀{a:ό}{l:ϊ V},H a=!(.tup l)->d a=!(.tup l):=λC a l e=>C.get (λm=>by
  rw[Zs.mp m]at e;rcases hO with g|⟨F,g⟩<;>(rw[g]at e;cases e)) e
 have S:∀{d:Hp},Sb [k] H d->∀{a:ό}{x:Sd},StT K H a x->StT K d a x:=λC a x h=>by
  let#[c,M,e2]:=h;show#[c,al C M,al C e2]
 have ag:∀{d:Hp}{o:HO},Sb [k] H d->d k=!o->∀{p:ό},d p=none->H p=none:=λ{d o} C eo {p} L=>by
  cases e:H p with
  |none=>rfl
  |some u=>
   by_cases z:p=k
   .rw [z,eo]at L;cases L
   .rw [C.get (by simpa using z) e]at L;cases L
 show VG a8 (λF i I d=>(Ex1 λ(B:ϊ Gz)=>(An4 (BkC K H d D (t.take i) B (λ_=>[]) (λ_ _ _=>False) 0) (Sb [k] H d) (d k=!(.frz F<|bM k<|cR t))<|Ex5 λN O R o4 o5=>I=[!(.ref k),!(.ref D),N,O,R,o4,o5]))) ?_ ?_ ?_ ?_
 .intro F H1 C M;show#[[],#[?_,rfl,by simp,by simp,by simp,by simp],λb o nb e=>C b o nb<|S0.get e,M,_,_,_,_,_,rfl];show C.get (by simpa using Ne.symm a2) aa
 .rintro F i I d ⟨B,_,_,e,_⟩;show e
 .rintro F i z I d hi ⟨B,A,C,eo,N,O,R,o4,o5,rfl⟩;let#[g,hg,rfl]:=Bb hi;have mg:=Wp hg;symm;intro p L;symm;have ab:=ag C eo L;have T:Same d (upd d p<|.lst []):=aq L _;have a9:i<↑t:=(Â.mp hg).1;have a5:↑B<=50000:=by
   have:=Ö List.length A.k;rw[Qb,Qb,Ñ]at this;rfl'
  have ah:∀b∈B,StT K H b.1 b.2.1:=λb mb=>by
   let#[y,my,ey]:=A.key mb;have:=(hG y<|Ā my).1;rw[ey.1,ey.2]at this;show this
  have ev:dH (cR B) (iB g.2.1)=none:=jC λm=>by
   let#[b,mb,eb]:=Zp.mp m;let#[y,my,ey]:=A.key mb;let#[n,hn,bb]:=List.mem_take_iff_getElem.mp my;have h1:t[n]?=!y:=by rw[Zl (),bb]
   have:=ZK hN h1 hg<|ey.2.trans eb;rfl'
  show#[D,_,rfl,SPut.of (T.get A.d) (λq mq=>?_) ((S C (hG g mg).1).same T).a<|by unfold cR;rw[Qb];show jb a5,?_]
  .obtain ⟨b,mb,rfl⟩:=Zp.mp mq;show((S C<|ah b mb).same T).a
  rw[qi ev];have a3:p≠D:=λz=>by rw[z,A.d]at L;cases L
  have a6:cR B++[(g.1,iB g.2.1,V.ref p)]=cR (B++[(g.1,g.2.1,p)]):=by unfold cR;rw[Á];rfl
  have af:t.take (i+1)=t.take i++[g]:=by rw[Ò,hg];rfl
  have bk:∀{P:PySem.Heap->Prop} l,HO.ext P≠.tup l:=λl z=>by cases z
  apply#[B++[(g.1,g.2.1,p)],#[by rw[aa,a6],?_,?_,λb mb=>?_,λb mb=>?_,by rw[Á,List.sum_append];show Ð (Nat.add_le_add_right A.s _)<|by simp],fM (fM C<|.inr ab)<|.inr Z,by rw[ao a2];show T.get eo,_,_,_,_,_,rfl]
  .rw [af,Á,Á,A.k];rfl
  .rw [Á,ä];show#[A.n,by simp,λa ma c mc e=>?_];let#[b,mb,rfl]:=Zp.mp ma;let#[M,_]:=A.c b mb;rw[È,ă,Zs]at mc;rw[e,mc,L]at M;cases M
  .rcases Ê.mp mb with mb|mb
   .show A.f b mb
   .rw [Zs.mp mb];show#[ab,a3]
  .rcases Ê.mp mb with mb|mb
   .obtain ⟨M,e2,e3⟩:=A.c b mb;show#[by rw[ao (A.f b mb).2];show T.get M,λu mu=>((e2 u mu).same T).keep (T.get A.d) bk,e3]
   .rw [Zs.mp mb];show#[by rw[ao a3,aa];rfl,λu mu=>(by cases mu),λc x=>by simp]
 .rintro F I d ⟨B,A,C,eo,N,O,R,o4,o5,rfl⟩;symm;have ad:t.take ↑(cR t)=t:=by unfold cR;rw[Qb];show Þ
  rw[ad]at A;have hk:=A.k;have av:(B.map (·.2.1)).Nodup:=by
   have:=Ö (List.map Prod.snd) hk;rw[Ä,Ä]at this;rw[show B.map (·.2.1)=t.map (·.2.1)from this];show hN
  have ah:∀b∈B,StT K H b.1 b.2.1:=λb mb=>by
   let#[y,my,ey]:=A.key mb;have:=(hG y my).1;rw[ey.1,ey.2]at this;show this
  show VH (.inr #[F,eo]) (λF i I d=>(Ex1 λU=>(An4 (BkC K H d D t B U (M7 st ((t.take i).map (·.2.1)))<|18*i) (Sb [k] H d) (d k=!(.frz F<|bM k<|cR t))<|Ex5 λN O R o4 o5=>I=[!(.ref k),!(.ref D),N,O,R,o4,o5]))) ?_ ?_ ?_ ?_
  .intro ac H1 G M;show#[_,(A.sb G eo).imp (λc x b mb=>by simp)<|Ã _,λb o nb e=>G b o nb<|C b o nb e,M,_,_,_,_,_,rfl]
  .rintro F i I d ⟨_,_,_,e,_⟩;show e
  .rintro ac i z p I H1 hi ⟨U,Y,G,W,N,O,R,o4,o5,rfl⟩ L;let#[g,hg,rfl]:=Bb hi;have mg:=Wp hg;have ab:=ag G W L;have T:Same H1 (upd H1 p<|.tup [.ref g.1,.ref g.2.2]):=aq L _;have ar:=Y.same T;have ai:Sb [k] H (upd H1 p<|.tup [.ref g.1,.ref g.2.2]):=fM G<|.inr ab;have am:=T.get W;show cP (gL aa) rfl ?_;symm;let#[us,u1,u2,u3]:=(hG g mg).2.1;let#[ps,ep,bd]:=Ax u3;have ae:ps.map (λp:Uz=>p.1.2)=st g.2.1:=by
    rw[<-u1,<-ep,Ä];rfl
   have bl:↑ps<=18:=by
    have:=Ö List.length ae;rw[Qb]at this;have:=(hG g mg).2.2;rfl'
   have bi:g.2.2≠k:=λz=>by
    rw[z]at u2;rcases hO with e|⟨F,e⟩<;>(rw[e]at u2;cases u2)
   have aw:∀{d:Hp},Sb [k] H d->SqL K d g.2.2 (ps.map λp:Uz=>V.ref p.1.1):=λC=>gI (by
    rw[C.get (by simpa using bi) u2,<-ep,Ä];rfl)
   generalize upd H1 p (.tup [.ref g.1,.ref g.2.2])=H2 at ar ai am⊢;have af:t.take (i+1)=t.take i++[g]:=by rw[Ò,hg];rfl
   show gn (λp:Uz=>V.ref p.1.1) (zs:=ps) (aw ai) (λj I d=>(Ex1 λU=>(An4 (BkC K H d D t B U (λc x y=>(x∈(t.take i).map (·.2.1)/\∃s,(s,c,y)∈st x)\/(x=g.2.1/\∃s,(s,c,y)∈(ps.take j).map (λp:Uz=>p.1.2)))<|18*i+j) (Sb [k] H d) (d k=!(.frz ac<|bM k<|cR t))<|Ex3 λN O R=>I=[!(.ref k),!(.ref D),!(.ref g.1),!(.ref g.2.2),N,O,R])))
    #[_,ar.imp (λc x b mb=>by simp)<|Ã _,ai,am,_,_,_,rfl] ?_ ?_ ?_
   .rintro j I H3 ⟨_,_,v,_⟩;show aw v
   .rintro j u I H3 hj ⟨U,J,v,X,N,O,R,rfl⟩;let#[p1,p2]:=bd u<|Wp hj;show cP (gL<|al v p1) rfl ?_;symm;have bm:j<↑ps:=(Â.mp hj).1;have a9:i<↑t:=(Â.mp hg).1;have mu:u.1.2∈st g.2.1:=by rw[<-ae];show Zp.mpr #[u,Wp hj,rfl]
    let#[b,mb,eb]:∃b∈B,b.2.1=u.1.2.2.2:=by
     have hm:=hC g mg _ mu;have:=Ö (List.map Prod.snd) hk;rw[Ä,Ä]at this;rw[<-show B.map (·.2.1)=t.map (·.2.1)from this]at hm;let#[b,mb,eb]:=Zp.mp hm;show#[b,mb,eb]
    show⟨D,.ref b.2.2,rfl,by rw[<-jT av mb,eb];show SGet.of J.d (λq mq=>by
     let#[b',a1,rfl]:=Zp.mp mq;show(S v<|ah b' a1).a) (S v p2).a,?_⟩
    let#[v1,v2,v3]:=J.c b mb;have v4:=Ð (M8 (f:=λb:Gz=>↑(U b.2.2)) mb) J.s;show eO (gI v1) ?_;symm;intro r hr;have be:=ag v X hr;have S4:Same H3 (upd H3 r<|.tup [.int (u.1.2.2.1:Nat),.ref g.1]):=aq hr _;have as:=J.same S4;have ax:BqT K (upd H3 r<|.tup [.int (u.1.2.2.1:Nat),.ref g.1]) (r,u.1.2.2.1,g.1,g.2.1):=#[aa,(S v (hG g mg).1).same S4];have ay:=S4.get v1;have a4:Sb [k] H (upd H3 r<|.tup [.int (u.1.2.2.1:Nat),.ref g.1]):=fM v<|.inr be;have ap:=S4.get X;generalize upd H3 r (.tup [.int (u.1.2.2.1:Nat),.ref g.1])=H4 at as ax ay a4 ap⊢;apply jA ay (by rw[Qb];rfl') ?_;symm;have bg:k≠b.2.2:=λz=>by
     have:=(A.f b mb).1;rw[<-z]at this;rcases hO with e|⟨F,e⟩<;>(rw[this]at e;cases e)
    have a7:ps.take (j+1)=ps.take j++[u]:=by rw[Ò,hj];rfl
    show#[_,(as.add av mb ax).imp (λc x b' a1=>?_)<|Ã _,fM a4<|.inr (A.f b mb).1,by rw[ao bg];show ap,_,_,_,rfl];rw[a7,Á,or_assoc];show or_congr Iff.rfl ?_;simp only[Ê,È,ă,Zs];constructor
    .rintro (⟨h1,s,h2⟩|⟨h1,h2,h3⟩)
     .show #[h1,s,.inl h2]
     .show #[h2,u.1.2.1,.inr<|by rw[h1,h3,eb]]
    .rintro ⟨h1,s,h2|h2⟩
     .show .inl #[h1,s,h2]
     .have M:=Ö (λw:ϐ×Nat×Sd=>w.2.1) h2;have e2:=Ö (λw:ϐ×Nat×Sd=>w.2.2) h2;show .inr #[M,h1,e2.trans eb.symm]
   .rintro I H3 ⟨U,J,v,X,N,O,R,rfl⟩;apply#[U,J.imp (λc x b mb=>?_) (),v,X,_,_,_,_,_,rfl];change _↔(x∈(t.take<|i+1).map (·.2.1)/\∃s,(s,c,b.2.1)∈st x);rw[Þ,ae,af,Á,Ê,È,ă,Zs,or_and_right];show or_congr Iff.rfl #[λh=>#[h.1,by rw[h.1];show h.2],λh=>#[h.1,by rw[<-h.1];show h.2]]
  .rintro ac I H1 ⟨U,Y,G,W,N,O,R,o4,o5,rfl⟩;symm;rw[ad]at Y;show q ac D H1 B U G W Z<|Y.imp (λ_ _ _ _=>Iff.rfl)<|by unfold cR;rw[Qb];rfl'
noncomputable def oG(es:ϊ Int)(st:Sd):ϑ:=decide (↑st.2.2=0)&&(decide (st.1∈es)&&decide (st.2.1∈es))
inductive fE(K:Ϗ)(vs:ϊ V)(H:Hp)(Q:VK)(E:XK):Prop
 |mk (c a:ό) (d:Sd) (b:ϊ Int) (e:vs=[.ref c,.ref a]) (f:StT K H c d) (g:SqT K H a<|b.map V.int) (h:Q (.bl<|oG b d) H)
def Be K(E:XK)(Eh:XK):=(aP<|gU (aO vQ (fP K<|tX K aV 2)<|tI 0)<|gU (aO (Ub K false) (tX K aV 0) bj)<|aO (Ub K false) (tX K aV 1) bj)
abbrev Bg:ϊ ϐ:=sN ["stand","ends"]
theorem Wm(h:fE K vs H Q E):RG (Be K E) Bg vs H Q:=by
 let#[k,j,a,b,rfl,#[c,f,i],g,q]:=h;show#[E0,?_];unfold Be Bg sN;apply jY f ?_;apply cj (gL i) ?_;rw[show↑(nv a.2.2)=↑a.2.2 from Qb _];symm;by_cases d:↑a.2.2=0
 .show nP (Eq.trans (qdE d) rfl) ?_;apply fW f ?_;apply R3 (.inr g) rfl (lV _) ?_;rw[lU];by_cases e:a.1∈b
  .rw [Ï e];apply dB f ?_;apply R3 (.inr g) rfl (lV _) ?_;rw[lU];have:oG b a=decide (a.2.1∈b):=by unfold oG;rw[Ï d,Ï e];rfl
   rw[<-this];show q
  .rw [Ø e];symm;have:oG b a=false:=by unfold oG;rw[Ï d,Ø e];rfl
   rw[<-this];show q
 .show nQ () ?_;have:oG b a=false:=by unfold oG;rw[Ø d];rfl
  rw[<-this];show q
abbrev Qz:=(Nat×Nat)×ό×ϊ (ό×Sd)
noncomputable def ji(k:Nat×Nat):ϊ Key:=[Sum.inl (k.1:Int),Sum.inl (k.2:Int)]
theorem uY(h:ji k=ji l):k=l:=by
 let#[a,b]:=k;let#[c,d]:=l;unfold ji at h;injection h with h1 h2
 injection h2 with h3 _
 injection h1 with h1
 injection h3 with h3
 dsimp only at h1 h3;rw[show a=c by show QD h1,show b=d by show QD h3]
def mW(ws:ϊ Qz):ϊ (ϊ Key×V):=ws.map λw=>(ji w.1,V.ref w.2.1)
structure WtT(K:Ϗ)(H:Hp)(wa:ό)(ws:ϊ Qz):Prop where
 d:H wa=!(.dT<|mW ws)
 l:∀w∈ws,H w.2.1=!(.lst<|w.2.2.map λz=>V.ref z.1)
 n:(ws.map (·.2.1)).Nodup
 k:(ws.map (·.1)).Nodup
 s:∀w∈ws,∀z∈w.2.2,StT K H z.1 z.2
def Wait(ws:ϊ Qz)(k:Nat×Nat)(x:Sd):Prop:=∃w∈ws,w.1=k/\x∈w.2.2.map (·.2)
noncomputable def xT(ws:ϊ Qz)(k:Nat×Nat)(z:ό×Sd):ϊ Qz:=ws.map λw=>if w.1=k then(w.1,w.2.1,w.2.2++[z])else w
theorem Wn(a:ϊ Qz)(k:Nat×Nat)(z:ό×Sd):mW (xT a k z)=mW a:=by
 unfold mW xT;rw[Ä];show ė λw _=>?_
 change(ji (if w.1=k then(w.1,w.2.1,w.2.2++[z])else w).1,V.ref (if w.1=k then(w.1,w.2.1,w.2.2++[z])else w).2.1)=_;split<;>rfl
theorem mX(a:ϊ Qz)(k:Nat×Nat)(z:ό×Sd):(xT a k z).map (·.1)=a.map (·.1)/\(xT a k z).map (·.2.1)=a.map (·.2.1):=by
 unfold xT;rw[Ä,Ä];show#[List.map_congr_left λw _=>by change(if w.1=k then(w.1,w.2.1,w.2.2++[z])else w).1=_;split<;>rfl,ė λw _=>by change(if w.1=k then(w.1,w.2.1,w.2.2++[z])else w).2.1=_;split<;>rfl]
theorem HQ{b:ϊ Qz}{z:ό×Sd}(h:k∈b.map (·.1))(l:Nat×Nat)(x:Sd):Wait (xT b k z) l x↔Wait b l x\/(l=k/\x=z.2):=by
 constructor
 .rintro ⟨w,a,rfl,mx⟩;let#[v,c,rfl]:=Zp.mp a;by_cases e:v.1=k
  .rw [if_pos e]at mx⊢;rw[Á,Ê]at mx;rcases mx with mx|mx
   .show .inl #[v,c,rfl,mx]
   .show .inr #[e,by simpa using mx]
  .rw [if_neg e]at mx⊢;show .inl #[v,c,rfl,mx]
 .rintro (⟨w,a,rfl,mx⟩|⟨rfl,rfl⟩)
  .show #[_,Zp.mpr #[w,a,rfl],?_,?_]
   .split<;>rfl
   .split
    .rw [Á,Ê];show .inl mx
    .show mx
  .obtain ⟨w,a,rfl⟩:=Zp.mp h;show#[_,Zp.mpr #[w,a,rfl],by rw[if_pos rfl],by rw[if_pos rfl,Á];simp]
theorem oV:∀{a:ϊ Qz}{w:Qz},(a.map (·.1)).Nodup->w∈a->w.1=k->bh (mW a) (ji k)=!(V.ref w.2.1)
 |v::a,w,hn,m,e=>by
  rw[È,î]at hn;change bh ((ji v.1,V.ref v.2.1)::mW a) (ji k)=_;by_cases h:v.1=k
  .rcases Æ.mp m with rfl|m
   .rw [h];simp[bh]
   .show absurd (Zp.mpr #[w,m,e.trans h.symm]) hn.1
  .rcases Æ.mp m with rfl|m
   .show absurd e h
   .have:=oV hn.2 m e;rw[<-this];have b:ji v.1≠ji k:=λz=>h<|uY z
    simp[bh,b]
theorem xU:∀{a:ϊ Qz},k∉a.map (·.1)->bh (mW a) (ji k)=none
 |[],_=>rfl
 |v::a,h=>by
  rw[È,Æ,not_or]at h;change bh ((ji v.1,V.ref v.2.1)::mW a) (ji k)=_;have:=xU h.2;rw[<-this];have b:ji v.1≠ji k:=λz=>h.1 (uY z).symm
  simp[bh,b]
inductive fe(K:Ϗ)(vs:ϊ V)(H:Hp)(Q:VK)(E:XK):Prop
 |mk (e g f:ό) (c:ϊ Qz) (r:Nat×Nat) (d:ϊ Bq) (h:vs=[.ref e,.ref g,.ref f]) (i:WtT K H e c) (j:H g=!(.tup [.int (r.1:Nat),.int (r.2:Nat)])) (k:H f=!(.lst<|d.map λb=>V.ref b.1)) (n:f∉c.map (·.2.1)) (o:(∀b∈d,BqT K H b)) (p:↑c+↑d<=1000000) (q:(∀w∈c,↑w.2.2+↑d<=1000000)) (s:∀H' (a:ϊ Qz),WtT K H' e a->Sb (e::c.map (·.2.1)) H H'->(∀w∈a,w.2.1∈c.map (·.2.1)\/H w.2.1=none)->(∀l x,Wait a l x↔Wait c l x\/∃b∈d,l=(r.1+b.2.1,r.2+1)/\x=b.2.2.2)->↑a<=↑c+↑d->(∀m,(∀w∈c,↑w.2.2<=m)->∀w∈a,↑w.2.2<=m+↑d)->Q .non H')
def Bh K(E:XK)(Eh:XK):=(cC (cB K bW) (gB K 2<|bf (ak 3)<|bf (ak 4) gK)<|cL<|rC K "list" d7 (Ke aV (dG<|bQ (aO bN (tX K bj 0) cF)<|aO bN (tX K bj 1)<|tI 1)<|gO gf)<|cu dZ)
abbrev Bj:ϊ ϐ:=sN ["waiting","rest","backs","cost","earlier"]
theorem Wo(h:fe K vs H Q E):RG (Bh K E) Bj vs H Q:=by
 let#[t,ra,ba,u,r,C,rfl,hw,hr,hb,nb,hB,ai,ac,q]:=h;show#[E0,?_];unfold Bh Bj sN;symm;have tk:∀{j:Hp},Sb (t::u.map (·.2.1)) H j->∀{a:ό}{l:ϊ V},H a=!(.tup l)->j a=!(.tup l):=λs a l e=>s.get (λm=>by
  rcases Æ.mp m with rfl|m
  .rw [hw.d]at e;cases e
  .obtain ⟨w,mw,rfl⟩:=Zp.mp m;rw[hw.l w mw]at e;cases e) e
 have ae:ba≠t:=λz=>by rw[z,hw.d]at hb;cases hb
 have I:∀{j:Hp},Sb (t::u.map (·.2.1)) H j->j ba=!(.lst<|C.map λb=>V.ref b.1):=λs=>s.get (λm=>(Æ.mp m).elim ae nb) hb
 show gn (λb:Bq=>V.ref b.1) (zs:=C) (gI hb) (λi σ j=>(Ex1 λ(g:ϊ Qz)=>(An8 (WtT K j t g) (Sb (t::u.map (·.2.1)) H j) (∀w∈g,w.2.1∈u.map (·.2.1)\/H w.2.1=none) (∀l x,Wait g l x↔Wait u l x\/∃b∈C.take i,l=(r.1+b.2.1,r.2+1)/\x=b.2.2.2) (↑g<=↑u+i) (∀m,(∀w∈u,↑w.2.2<=m)->∀w∈g,↑w.2.2<=m+i) (∀w∈u,w.2.1∈g.map (·.2.1))<|Ex2 λo1 o2=>σ=[!(.ref t),!(.ref ra),!(.ref ba),o1,o2])))
  #[u,hw,Sb.of<|gN _,λw m=>.inl<|Zp.mpr #[w,m,rfl],λl x=>by simp,Ã _,λm h w mw=>h w mw,λw m=>Zp.mpr #[w,m,rfl],none,none,rfl] ?_ ?_ ?_
 .rintro i σ j ⟨g,_,s,_⟩;show gI<|I s
 .rintro i b σ j hi ⟨g,f,s,U,P,hn,X,A,o1,o2,rfl⟩;let#[b1,b2]:=hB b<|Wp hi;have ah:i<↑C:=(Â.mp hi).1;show cP (gL<|tk s b1) rfl ?_;apply#[t,rfl,.inr #[_,.inl f.d],?_];apply fW (tk s hr) ?_;apply dB (tk s hr) ?_;symm;intro p hp;symm;intro d R;symm;have ek:((r.1:Int)+(b.2.1:Int))=((r.1+b.2.1:Nat):Int)/\((r.2:Int)+1)=((r.2+1:Nat):Int):=#[rfl,rfl];rw[ek.1,ek.2]at R⊢;have Sp:Same j (upd j p<|.tup [.int ((r.1+b.2.1:Nat):Int),.int ((r.2+1:Nat):Int)]):=aq hp _;have S:=Sp.new (o:=.lst []) R;have ad:p≠d:=λz=>by rw[<-z,aa]at R;cases R
  have n:j d=none:=Sp.free R;have T:H d=none:=by
   cases e:H d with
   |none=>rfl
   |some o=>
    exfalso;by_cases m:d∈t::u.map (·.2.1)
    .rcases Æ.mp m with z|m
     .rw [z,f.d]at n;cases n
     .obtain ⟨w,mw,rfl⟩:=Zp.mp m;let#[v,mv,ev]:=Zp.mp<|A w mw;have:=f.l v mv;rw[show v.2.1=w.2.1 from ev,n]at this
      cases this
    .rw [s.get m e]at n;cases n
  have hE:StT K j b.2.2.1 b.2.2.2:=by
   let#[c,N,e2]:=b2;show#[c,tk s N,tk s e2]
  have O:C.take (i+1)=C.take i++[b]:=by rw[Ò,hi];rfl
  show#[mW g,ji (r.1+b.2.1,r.2+1),p,S.get f.d,rfl,by rw[ao ad,aa];rfl,Ý (show↑(mW g)<=1000000 by unfold mW;rw[Qb];rfl')<|by decide,λv G=>?_,λG=>?_]
  .obtain ⟨w,mw,M⟩:∃w∈g,w.1=(r.1+b.2.1,r.2+1):=by
    by_cases m:(r.1+b.2.1,r.2+1)∈g.map (·.1)
    .show Zp.mp m
    .rw [xU m]at G;cases G
   rw[oV f.k mw M]at G
   cases G;have L:=S.get<|f.l w mw;have W:↑w.2.2<=1000000:=by
    have:=X (1000000-↑C) (λv mv=>by have:=ac v mv;rfl') w mw;rfl'
   show eO (gI L) ?_;apply jA L (by rw[Qb];show W) ?_;symm;have ag:t≠w.2.1:=λz=>by rw[<-z,S.get f.d]at L;cases L
   show#[xT g (r.1+b.2.1,r.2+1) (b.2.2.1,b.2.2.2),#[?_,?_,by rw[(mX ..).2];show f.n,by rw[(mX ..).1];show f.k,?_],fM (s.same S)<|(U w mw).imp_left<|Ç _,?_,?_,by unfold xT;rw[Qb];show Ð hn<|ì<|Yz rfl,?_,λv mv=>by rw[(mX ..).2];show A v mv,_,_,rfl]
   .rw [ao ag,Wn];show S.get f.d
   .intro v mv;let#[v0,k,rfl]:=Zp.mp mv;by_cases e:v0.1=(r.1+b.2.1,r.2+1)
    .rw [if_pos e];have:v0=w:=fL f.k k mw<|e.trans M.symm;subst this;change upd _ v0.2.1 _ v0.2.1=_;rw[aa,Á];rfl
    .rw [if_neg e,ao<|λz=>e<|by rw[fL f.n k mw z];show M];show S.get<|f.l v0 k
   .intro v mv z mz;let#[v0,k,rfl]:=Zp.mp mv;have ab:∀z∈v0.2.2,StT K (upd (upd (upd j p<|.tup [.int ((r.1+b.2.1:Nat):Int),.int ((r.2+1:Nat):Int)]) d<|.lst []) w.2.1<|.lst<|(w.2.2.map λz=>V.ref z.1)++[V.ref b.2.2.1]) z.1 z.2:=λz mz=>((f.s v0 k z mz).same S).keep L<|λl q=>by cases q
    by_cases e:v0.1=(r.1+b.2.1,r.2+1)
    .rw [if_pos e]at mz;rcases Ê.mp mz with mz|mz
     .show ab z mz
     .rw [Zs.mp mz];show(hE.same S).keep L<|λl q=>by cases q
    .rw [if_neg e]at mz;show ab z mz
   .intro v mv;let#[v0,k,rfl]:=Zp.mp mv;have e:(if v0.1=(r.1+b.2.1,r.2+1)then(v0.1,v0.2.1,v0.2.2++[(b.2.2.1,b.2.2.2)])else v0).2.1=v0.2.1:=by split<;>rfl
    rw[e];show U v0 k
   .intro l x;rw[HQ<|Zp.mpr #[w,mw,M],P,O];simp only[Ê,Zs];constructor
    .rintro ((h|⟨c,J,h⟩)|h)
     .show .inl h
     .show .inr #[c,.inl J,h]
     .show .inr #[b,.inr rfl,h]
    .rintro (h|⟨c,J|rfl,h⟩)
     .show .inl<|.inl h
     .show .inl<|.inr #[c,J,h]
     .show .inr h
   .intro m F v mv;let#[v0,k,rfl]:=Zp.mp mv;have:=X m F v0 k;split
    .show ↑(v0.2.2++[_])<=_;rw[Ë,à];show qfL (Ő this) rfl
    .rfl'
  .have nk:(r.1+b.2.1,r.2+1)∉g.map (·.1):=λm=>by
    let#[w,mw,M]:=Zp.mp m;rw[oV f.k mw M]at G
    cases G
   have Y:t≠d:=λz=>by rw[<-z,f.d]at n;cases n
   have D:upd (upd (upd j p<|.tup [.int ((r.1+b.2.1:Nat):Int),.int ((r.2+1:Nat):Int)]) d<|.lst []) t (.dT<|mW g++[(ji (r.1+b.2.1,r.2+1),V.ref d)]) d=!(.lst []):=by rw[ao<|Ne.symm Y,aa]
   show eO (gI D) ?_;apply jA D (â _) ?_;symm;have nd:d∉g.map (·.2.1):=λm=>by
    let#[v,mv,ev]:=Zp.mp m;have:=f.l v mv;rw[show v.2.1=d from ev,n]at this
    cases this
   have st:∀{a:ό}{x:Sd},StT K j a x->StT K (upd (upd (upd (upd j p<|.tup [.int ((r.1+b.2.1:Nat):Int),.int ((r.2+1:Nat):Int)]) d<|.lst []) t<|.dT<|mW g++[(ji (r.1+b.2.1,r.2+1),V.ref d)]) d<|.lst<|[]++[V.ref b.2.2.1]) a x:=λh=>((h.same S).keep (S.get f.d)<|λl q=>by cases q).keep D<|λl q=>by cases q
   show#[g++[((r.1+b.2.1,r.2+1),d,[(b.2.2.1,b.2.2.2)])],#[?_,?_,?_,?_,?_],fM (fM (s.same S)<|.inl Ì)<|.inr T,?_,?_,by rw[Ë,à];show qfL (Ő hn) rfl,?_,λv mv=>by rw[Á];show é _<|A v mv,_,_,rfl]
   .rw [ao Y,aa];unfold mW;rw[Á];rfl
   .intro v mv;rcases Ê.mp mv with mv|mv
    .have N:=f.l v mv;have n1:v.2.1≠d:=λz=>nd<|Zp.mpr #[v,mv,z]
     have n2:v.2.1≠t:=λz=>by rw[z,f.d]at N;cases N
     rw[ao n1,ao n2];show S.get N
    .rw [Zs.mp mv];show aa
   .rw [Á,ä];show#[f.n,by simp,λx B y Z e=>nd (by rw[È,ă,Zs]at Z;have:x=d:=e.trans Z;rw[<-this];show B)]
   .rw [Á,ä];show#[f.k,by simp,λx B y Z e=>nk (by rw[È,ă,Zs]at Z;have:x=(r.1+b.2.1,r.2+1):=e.trans Z;rw[<-this];show B)]
   .intro v mv z mz;rcases Ê.mp mv with mv|mv
    .show st<|f.s v mv z mz
    .rw [Zs.mp mv]at mz;rw[Zs.mp mz];show st hE
   .intro v mv;rcases Ê.mp mv with mv|mv
    .show U v mv
    .rw [Zs.mp mv];show .inr T
   .intro l x;have af:Wait (g++[((r.1+b.2.1,r.2+1),d,[(b.2.2.1,b.2.2.2)])]) l x↔Wait g l x\/(l=(r.1+b.2.1,r.2+1)/\x=b.2.2.2):=by
     constructor
     .rintro ⟨w,mw,rfl,B⟩;rcases Ê.mp mw with mw|mw
      .show .inl #[w,mw,rfl,B]
      .rw [Zs.mp mw]at B⊢;show .inr #[rfl,by simpa using B]
     .rintro (⟨w,mw,rfl,B⟩|⟨rfl,rfl⟩)
      .show #[w,é _ mw,rfl,B]
      .show #[_,ß _<|Zs.mpr rfl,rfl,by simp]
    rw[af,P,O];simp only[Ê,Zs];constructor
    .rintro ((h|⟨c,J,h⟩)|h)
     .show .inl h
     .show .inr #[c,.inl J,h]
     .show .inr #[b,.inr rfl,h]
    .rintro (h|⟨c,J|rfl,h⟩)
     .show .inl<|.inl h
     .show .inl<|.inr #[c,J,h]
     .show .inr h
   .intro m F v mv;rcases Ê.mp mv with mv|mv
    .have:=X m F v mv;rfl'
    .rw [Zs.mp mv];change 1<=_;show jb<|Ã 1
 .rintro σ j ⟨g,f,s,U,P,hn,X,A,o1,o2,rfl⟩;rw[Þ]at P;apply q j g f s U P hn X
abbrev Rm(es:ϊ Int)(xs:ϊ Sd)(x:Sd):Prop:=x∈xs/\oG es x=true
def leP(k l:Nat×Nat):Prop:=k.1<l.1\/(k.1=l.1/\k.2<=l.2)
def leP.refl(k:Nat×Nat):leP k k:=.inr #[rfl,Ã _]
theorem leP.trans{m:Nat×Nat}(h:leP k l)(g:leP l m):leP k m:=by unfold leP at*;rfl'
theorem leP.up(k:Nat×Nat)(c:Nat):leP k (k.1+c,k.2+1):=by unfold leP;dsimp only;rfl'
theorem leP.zero(h:leP k (0,0)):k=(0,0):=by
 let#[a,b]:=k;unfold leP at h;dsimp only at h;rw[show a=0 by rfl',show b=0 by rfl']
structure Dj(ev:Sd->Prop)(B:Nat->Sd->Sd->Prop)(F:Sd->Nat×Nat->Prop)(W:Nat×Nat->Sd->Prop):Prop where
 e:∀x,ev x->F x (0,0)\/W (0,0) x
 b:∀c x y v,B c x y->F y v->(∃u,F x u/\leP u (v.1+c,v.2+1))\/W (v.1+c,v.2+1) x
 s:∀x k,F x k\/W k x->(ev x/\k=(0,0))\/∃c y v,B c x y/\F y v/\k=(v.1+c,v.2+1)
 m:∀x k,F x k->∀l y,W l y->leP k l
theorem Dj.skip(h:Dj ev B F W){x:Sd}(b:F x k)(a:∀l y,W l y↔W' l y\/(l=r/\y=x)):Dj ev B F W':=by
 have d:leP k r:=h.m x k b r x<|(a _ _).mpr<|.inr #[rfl,rfl];show#[λy m=>?_,λc z y v f j=>?_,λz l e=>h.s z l<|e.imp id λw=>(a _ _).mpr<|.inl w,λz l e i y w=>h.m z l e i y<|(a _ _).mpr<|.inl w]
 .rcases h.e y m with g|g
  .show .inl g
  .rcases (a _ _).mp g with g|⟨g1,g2⟩
   .show .inr g
   .rw [<-g1]at d;rw[d.zero]at b;show .inl<|by rw[g2];show b
 .rcases h.b c z y v f j with g|g
  .show .inl g
  .rcases (a _ _).mp g with g|⟨g1,g2⟩
   .show .inr g
   .show .inl #[k,by rw[g2];show b,by rw[g1];show d]
theorem Dj.take{F:Sd->Nat×Nat->Prop}{W o:Nat×Nat->Sd->Prop}(h:Dj ev B F W){x:Sd}(n:∀l y,W l y↔W' l y\/(l=r/\y=x))(t:∀l y,W' l y->leP r l)(d:∀y k,F' y k↔F y k\/(y=x/\k=r))(f:∀l y,o l y↔W' l y\/∃c,B c y x/\l=(r.1+c,r.2+1)):Dj ev B F' o:=by
 have q:W r x:=(n _ _).mpr<|.inr #[rfl,rfl];show#[λy m=>?_,λc z y v p m=>?_,λz l hz=>?_,λz l hz i y w=>?_]
 .rcases h.e y m with g|g
  .show .inl<|(d _ _).mpr<|.inl g
  .rcases (n _ _).mp g with g|⟨a,b⟩
   .show .inr<|(f _ _).mpr<|.inl g
   .show .inl<|(d _ _).mpr<|.inr #[b,a]
 .rcases (d _ _).mp m with m|⟨rfl,rfl⟩
  .rcases h.b c z y v p m with⟨u,a,b⟩|g
   .show .inl #[u,(d _ _).mpr<|.inl a,b]
   .rcases (n _ _).mp g with g|⟨a,b⟩
    .show .inr<|(f _ _).mpr<|.inl g
    .show .inl #[r,(d _ _).mpr<|.inr #[b,rfl],by rw[a];show leP.refl _]
  .show .inr<|(f _ _).mpr<|.inr #[c,p,rfl]
 .have e:F z l\/W l z->(ev z/\l=(0,0))\/∃c y v,B c z y/\F' y v/\l=(v.1+c,v.2+1):=λg=>(h.s z l g).imp id λ⟨c,y,v,a,b,s⟩=>#[c,y,v,a,(d _ _).mpr<|.inl b,s]
  rcases hz with hz|hz
  .rcases (d _ _).mp hz with hz|⟨rfl,rfl⟩
   .show e<|.inl hz
   .show e<|.inr q
  .rcases (f _ _).mp hz with hz|⟨c,a,b⟩
   .show e<|.inr<|(n _ _).mpr<|.inl hz
   .show .inr #[c,x,r,a,(d _ _).mpr<|.inr #[rfl,rfl],b]
 .have j:leP l r:=by
   rcases(d _ _).mp hz with hz|⟨_,rfl⟩
   .show h.m z l hz r x q
   .show leP.refl _
  rcases(f _ _).mp w with w|⟨c,_,rfl⟩
  .show j.trans<|t _ _ w
  .show j.trans<|leP.up _ _
theorem FP{b:Type}{f g:b->Nat}{d:Nat}(h:∀x,g x<=f x):∀{l:ϊ b}{x:b},x∈l->g x+d<=f x->(l.map g).sum+d<=(l.map f).sum
 |z::l,x,m,e=>by
  have a:∀l:ϊ b,(l.map g).sum<=(l.map f).sum:=λl=>by
   induction l with
   |nil=>show Ã _
   |cons y l ih=>rw[È,È,Ģ,Ģ];have:=h y;show Nat.add_le_add this ih
  rw[È,È,Ģ,Ģ];rcases Æ.mp m with rfl|m
  .have:=a l;rfl'
  .have:=FP h m e;have:=h z;rfl'
abbrev Fq:=ό×Sd×ό×(Nat×Nat)
noncomputable def mY(fz:ϊ Fq):ϊ Gz:=fz.map λf=>(f.1,f.2.1,f.2.2.1)
structure FdT(K:Ϗ)(H:Hp)(fa:ό)(fz:ϊ Fq):Prop where
 d:H fa=!(bM fa<|cR<|mY fz)
 s:∀f∈fz,StT K H f.1 f.2.1/\H f.2.2.1=!(.tup [.int (f.2.2.2.1:Nat),.int (f.2.2.2.2:Nat)])
 n:(fz.map (·.2.1)).Nodup
def jD(fz:ϊ Fq)(x:Sd)(k:Nat×Nat):Prop:=∃f∈fz,f.2.1=x/\f.2.2.2=k
noncomputable def oH(bz:ϊ Gz)(U:ό->ϊ Bq)(fz:ϊ Fq):Nat:=(bz.map λb=>if b.2.1∈fz.map (·.2.1)then 0 else ↑(U b.2.2)).sum
theorem mZ{K:Ϗ}(h:∀f∈fz,StT K H f.1 f.2.1):∀p∈cR<|mY fz,vH H p.1 p.2.1:=λp c=>by
 let#[z,d,rfl]:=Zp.mp c;let#[f,b,rfl]:=Zp.mp d;show(h f b).a
theorem je(a:ϊ Fq):(mY a).map (·.2.1)=a.map (·.2.1):=by unfold mY;rw[Ä];rfl
theorem Wq{k l:Nat×Nat}(h:HT.lexLt [(l.1:Int),(l.2:Int)] [(k.1:Int),(k.2:Int)]=false):leP k l:=by
 unfold leP;unfold HT.lexLt at h;split at h
 .unfold HT.lexLt at h;split at h
  .rfl'
  .have:=ĭ h;rfl'
 .have:=ĭ h;rfl'
def ZL(es:ϊ Int)(gz:ϊ Gz)(z:ό×Sk×V):ύ V:=by
 classical
 show if ∃g∈gz,z=(g.1,iB g.2.1,V.ref g.2.2)/\oG es g.2.1=true then !(.ref z.1)else none
theorem Ma(m:g∈gz):ZL a gz (g.1,iB g.2.1,V.ref g.2.2)=if oG a g.2.1=true then !(.ref g.1)else none:=by
 unfold ZL;by_cases e:oG a g.2.1=true
 .rw [if_pos e,if_pos #[g,m,rfl,e]]
 .rw [if_neg e,if_neg];rintro⟨y,d,c,b⟩;have:=uT<|Ö (λp:ό×Sk×V=>p.2.1) c;rw[this]at e;show e b
theorem FQ:∀{l:ϊ Gz},(∀g∈l,g∈a)->(cR l).filterMap (ZL es a)=((l.filter λg=>oG es g.2.1).map λg=>(g.1,g.2.1)).map λz:ό×Sd=>V.ref z.1
 |[],_=>rfl
 |g::l,h=>by
  have b:=FQ (es:=es) (l:=l) λx m=>h x<|Ç _ m
  change List.filterMap _ ((g.1,iB g.2.1,V.ref g.2.2)::cR l)=_;rw[ĥ,Ma<|h g<|Ì ..,ů,b];by_cases e:oG es g.2.1=true
  .rw [if_pos e,if_pos e];rfl
  .rw [if_neg e,if_neg e]
theorem Mf(a:ϊ Qz)(k:Nat×Nat):dM (mW a) (ji k)=mW (a.filter λv=>decide<|v.1≠k):=by
 unfold dM mW;rw[List.filter_map];congr 1;show List.filter_congr λv _=>?_
 change decide (ji v.1≠ji k)=decide (v.1≠k);by_cases e:v.1=k
 .rw [e];simp
 .rw [Ï<|show v.1≠k from e,Ï<|show ji v.1≠ji k fromλz=>e<|uY z]
theorem WtT.pop{K:Ϗ}{i:ό}{d:ϊ Qz}(h:WtT K H i d){w:Qz}(g:w∈d):∃c:ϊ Qz,WtT K (upd H i<|.dT<|dM (mW d)<|ji w.1) i c/\w.2.1∉c.map (·.2.1)/\↑c+1<=↑d/\(∀v∈c,v∈d)/\∀l x,Wait d l x↔Wait c l x\/(l=w.1/\x∈w.2.2.map (·.2)):=by
 have k:∀{n:ϊ<|ϊ Key×V} l,HO.dT n≠.tup l:=λl z=>by cases z
 have b:∀v∈d.filter<|λv=>decide<|v.1≠w.1,v∈d/\v.1≠w.1:=λv a=>#[(ī.mp a).1,ô (ī.mp a).2]
 show#[d.filter λv=>decide<|v.1≠w.1,#[by rw[aa,Mf],λv a=>?_,?_,?_,λv a z j=>(h.s v (b v a).1 z j).keep h.d k],λm=>?_,?_,λv a=>(b v a).1,λl x=>#[?_,?_]]
 .have e:=h.l v (b v a).1;rw[ao<|λz=>by rw[z,h.d]at e;cases e];show e
 .show Ĕ (List.Sublist.map _ List.filter_sublist) h.n
 .show Ĕ (List.Sublist.map _ List.filter_sublist) h.k
 .obtain ⟨v,a,e⟩:=Zp.mp m;have:=fL h.n (b v a).1 g e;show(b v a).2<|by rw[this]
 .show List.length_filter_lt_length_iff_exists.mpr #[w,g,by simp]
 .rintro ⟨v,a,rfl,f⟩;by_cases e:v.1=w.1
  .rw [fL h.k a g e]at f⊢;show .inr #[rfl,f]
  .show .inl #[v,ī.mpr #[a,Ï e],rfl,f]
 .rintro (⟨v,a,rfl,f⟩|⟨rfl,f⟩)
  .show #[v,(b v a).1,rfl,f]
  .show #[w,g,rfl,f]
inductive fT(K:Ϗ)(vs:ϊ V)(H:Hp)(Q:VK)(E:XK):Prop
 |mk (b f:ό) (a:ϊ Gz) (c:Sd->ϊ (ϐ×Nat×Sd)) (g:ϊ Int) (h:vs=[.ref b,.ref f]) (i:Rd H b (bM b (cR a))) (j:(∀z∈a,StT K H z.1 z.2.1/\SsT K H z.2.2 (c z.2.1)/\↑(c z.2.1)<=18)) (k:(a.map (·.2.1)).Nodup) (l:↑a<=50000) (m:(∀z∈a,∀e∈c z.2.1,e.2.2∈a.map (·.2.1))) (n:SqT K H f (g.map V.int)) (o:∀od d H' (fz:ϊ Fq),Sb [b] H H'->H' b=!(.frz od (bM b (cR a)))->H d=none->FdT K H' d fz->Dj (Rm g (a.map (·.2.1))) (M7 c (a.map (·.2.1))) (jD fz) (λ_ _=>False)->Q (.ref d) H')
abbrev Mg K:=(az (gM (aQ<|aO qN (gY K8<|cu dZ)<|tI 0) (az (aL (gY Kg<|cu dZ)<|ak 5)
  (az (aL (Kd dZ gw)<|ak 6)
  (cC (cB K jk) (ak 7) (bH (tB<|oM yl cF) (az (wQ cF yl gw)
  (cL<|bG (fe K)<|oF dZ gw<|lQ bW yl)) aU)))))
  (aP cF))
def Bk K(E:XK)(Eh:XK):=(az (aL (bG (eB K)<|cu aV)<|ak 2)
  (az (aL wO<|ak 3)
  (az (aL (z6 (dG<|bQ (tI 0)<|tI 0)<|m6 [none,!1] (uz aV) (ak 0) (fB K<|bG (fE K)<|bQ aV bj) aV)<|ak 4)
  (Mg K))))
abbrev uZ:ϊ ϐ:=sN ["onward","ends","backward","found","waiting","rest","reached","stand"]
theorem Wr(h:fT K vs H Q E):RG (Bk K E) uZ vs H Q:=by
 let#[D,ea,J,st,es,rfl,hO,hG,hN,hL,hC,hE,q]:=h;show#[E0,?_];unfold Bk uZ sN;apply#[D,J,st,rfl,hO,hG,hN,hL,hC,λec ba M bz U a6 av eg hB=>?_];symm;intro n ah;symm;intro F b2;symm;intro ta a3;have S1:Same M (upd M n<|bM n []):=aq ah _;have S2:=S1.new (o:=.dT []) b2;have S3:=S2.new (o:=.tup [.int 0,.int 0]) a3;have bi:upd (upd (upd M n<|bM n []) F<|.dT []) ta (.tup [.int 0,.int 0]) n=!(bM n []):=((aq b2 _).trans<|aq a3 _).get aa;have bm:upd (upd (upd M n<|bM n []) F<|.dT []) ta (.tup [.int 0,.int 0]) F=!(.dT []):=(aq a3 _).get aa;have bl:upd (upd (upd M n<|bM n []) F<|.dT []) ta (.tup [.int 0,.int 0]) ta=!(.tup [.int 0,.int 0]):=aa;have Y:M F=none:=S1.free b2;have b6:n≠D:=λz=>by rw[z,av]at ah;cases ah
 have ca:F≠D:=λz=>by rw[z,av]at Y;cases Y
 have d6:ta≠D:=λz=>by rw[z,S2.get av]at a3;cases a3
 generalize upd (upd (upd M n<|bM n []) F<|.dT []) ta (.tup [.int 0,.int 0])=H3 at S3 bi bm bl⊢;have cq:∀{r:Hp}{o:HO},Sb [D] M r->r D=!o->∀{p:ό},r p=none->M p=none:=λ{r o} sb eo {p} hp=>by
  cases e:M p with
  |none=>rfl
  |some u=>
   by_cases z:p=D
   .rw [z,eo]at hp;cases hp
   .rw [sb.get (by simpa using z) e]at hp;cases hp
 have tk:∀{r:Hp},Sb [D] M r->∀{a:ό}{u:HO},(∀od x,u≠.frz od x)->M a=!u->r a=!u:=λsb a u hu ea=>sb.get (λm=>by
  rw[Zs.mp m,av]at ea;show hu _ _ (Ü ea).symm) ea
 have cf:∀{r:Hp},Sb [D] H r->∀{a:ό}{l:ϊ V},H a=!(.tup l)->r a=!(.tup l):=λsb a l e=>sb.get (λm=>by
  rw[Zs.mp m]at e;rcases hO with g|⟨od,g⟩<;>(rw[g]at e;cases e)) e
 have ce:∀{r:Hp},Sb [D] M r->∀{z:Gz},z∈J->StT K r z.1 z.2.1:=λsb z mz=>by
  let#[c,e1,e2]:=(hG z mz).1;show#[c,tk sb (λ_ _ z=>by cases z) (cf a6 e1),tk sb (λ_ _ z=>by cases z)<|cf a6 e2]
 have dd:∀{r:Hp},Sb [D] H r->SqT K r ea (es.map V.int):=λsb=>by
  rcases hE with(e|⟨od,e⟩)|hK
  .show .inl (.inl<|cf sb e)
  .show .inl (.inr #[od,sb.get (λm=>?_) e]);rw[Zs.mp m]at e;rcases hO with g|⟨od',g⟩<;>(rw[g]at e;cases e)
  .show .inr hK
 apply Zw (.inr #[ec,S3.get av]) (by unfold cR;rw[Qb];show jb hL) (ZL es J) λam H4 ap cm=>#[λi z hi A B hA cr=>?_,λla ai=>?_]
 .obtain ⟨g,hg,rfl⟩:=Bb hi;have mg:=Wp hg;rw[Ma mg]at hA cr;apply#[g.1,ea,g.2.1,es,rfl,ce (λb o nb e=>ap b o nb<|S3.get e) mg,dd (λb o nb e=>ap b o nb<|S3.get<|a6 b o nb e),?_];symm;by_cases ev:oG es g.2.1=true
  .rw [ev];apply hA _ (if_pos ev)
  .rw [Bool.eq_false_iff.mpr ev];apply cr (if_neg ev)
 have cc:Sb [D] M H4:=λb o nb e=>ap b o nb (S3.get e)
 have S5:Same H4 (upd H4 la<|.lst<|(cR J).filterMap<|ZL es J):=aq ai _;have bo:=cq cc cm ai;rw[FQ λg m=>m]at S5⊢;have ab:=ap.get (by simpa using b6) bi;have ac:=ap.get (by simpa using ca) bm;have cp:=ap.get (by simpa using d6) bl;have d5:la≠F:=λz=>by rw[z,ac]at ai;cases ai
 have ei:la≠n:=λz=>by rw[z,ab]at ai;cases ai
 have b9:n≠F:=λz=>by rw[z,ac]at ab;cases ab
 apply#[S5.get ac,ji (0,0),ta,rfl,S5.get cp,?_];symm;have ay:∃(G:ϊ Qz),WtT K (upd (upd H4 la (.lst (((J.filter λg=>oG es g.2.1).map λg=>(g.1,g.2.1)).map λz:ό×Sd=>V.ref z.1))) F<|.dT [(ji (0,0),.ref la)]) F G/\(∀w∈G,M w.2.1=none)/\↑G<=1/\(∀w∈G,↑w.2.2<=50000)/\∀k x,Wait G k x↔k=(0,0)/\x∈J.map (·.2.1)/\oG es x=true:=by
  show#[[((0,0),la,(J.filter λg=>oG es g.2.1).map λg=>(g.1,g.2.1))],#[by rw[aa];rfl,λw T=>?_,by simp,by simp,λw T z mz=>?_],λw T=>by rw[Zs.mp T];show bo,Ã _,λw T=>?_,λk x=>?_]
  .rw [Zs.mp T,ao d5,aa]
  .rw [Zs.mp T]at mz;let#[g,mg,rfl]:=Zp.mp mz;show((ce cc (ī.mp mg).1).same S5).keep (S5.get ac) (λl z=>by cases z)
  .rw [Zs.mp T,Qb];show Ð (Ę _ _) hL
  .constructor
   .rintro ⟨w,T,rfl,mx⟩;rw[Zs.mp T]at mx⊢;dsimp only at mx⊢;rw[Ä]at mx;let#[g,mg,rfl]:=Zp.mp mx;show#[rfl,Zp.mpr #[g,(ī.mp mg).1,rfl],(ī.mp mg).2]
   .rintro ⟨rfl,mx,e⟩;let#[g,mg,rfl]:=Zp.mp mx;show#[_,Zs.mpr rfl,rfl,Zp.mpr #[(g.1,g.2.1),Zp.mpr #[g,ī.mpr #[mg,e],rfl],rfl]]
 have c4:Sb [D] M (upd (upd H4 la (.lst (((J.filter λg=>oG es g.2.1).map λg=>(g.1,g.2.1)).map λz:ό×Sd=>V.ref z.1))) F<|.dT [(ji (0,0),.ref la)]):=fM (fM cc<|.inr bo) (.inr Y);have bk:(upd (upd H4 la (.lst (((J.filter λg=>oG es g.2.1).map λg=>(g.1,g.2.1)).map λz:ό×Sd=>V.ref z.1))) F<|.dT [(ji (0,0),.ref la)]) n=!(bM n []):=by rw[ao b9];show S5.get ab
 have cn:(upd (upd H4 la (.lst (((J.filter λg=>oG es g.2.1).map λg=>(g.1,g.2.1)).map λz:ό×Sd=>V.ref z.1))) F<|.dT [(ji (0,0),.ref la)]) D=!(.frz am<|bM D<|cR J):=by rw[ao<|Ne.symm ca];show S5.get cm
 generalize upd (upd H4 la (.lst (((J.filter λg=>oG es g.2.1).map λg=>(g.1,g.2.1)).map λz:ό×Sd=>V.ref z.1))) F (.dT [(ji (0,0),.ref la)])=H6 at ay c4 bk cn⊢;let#[ed,dg,dk,dq,dz,cy]:=ay;have df:oH bz U []<=900000:=by
  show Ð (Τ ?_) hB.s;unfold oH;simp
 show qj (λm σ r=>(Ex2 λ(fz:ϊ Fq) (G:ϊ Qz)=>(An11 (FdT K r n fz) (WtT K r F G) (Sb [D] M r) (r D=!(.frz am<|bM D<|cR J)) (∀w∈G,M w.2.1=none) (Dj (Rm es (J.map (·.2.1))) (M7 st (J.map (·.2.1))) (jD fz)<|Wait G) (∀f∈fz,f.2.1∈J.map (·.2.1)) (m=↑G+oH bz U fz) (↑G+oH bz U fz<=900001) (∀w∈G,↑w.2.2+oH bz U fz<=950000) (Ex3 λo1 o2 o3=>σ=[!(.ref D),!(.ref ea),!(.ref ba),!(.ref n),!(.ref F),o1,o2,o3])))) _
  #[[],ed,#[bk,by simp,by simp],dg,c4,cn,dk,#[λx hx=>.inr ((cy _ _).mpr #[rfl,hx.1,hx.2]),λc x y v _ hF=>?_,λx k hk=>?_,λx k hk=>?_],by simp,rfl,qP (ō _ _) (qkT df dq),λw T=>by have:=dz w T;rfl',_,_,_,rfl] ?_ ?_
 .obtain ⟨f,mf,_⟩:=hF;cases mf
 .rcases hk with⟨f,mf,_⟩|hk
  .cases mf
  .obtain ⟨e1,e2⟩:=(cy _ _).mp hk;show .inl #[e2,e1]
 .obtain ⟨f,mf,_⟩:=hk;cases mf
 .rintro m σ r N ⟨fz,G,hF,hW,sb,eo,dl,hD,cx,rfl,dn,dp,o1,o2,o3,rfl⟩ de;apply Vy hW.d ?_;rw[show↑(mW G)=↑G from Qb _];symm;by_cases a9:0<↑G
  .show nP (qd0 a9) ?_;apply VM (kvs:=G.map λw:Qz=>([(w.1.1:Int),(w.1.2:Int)],V.ref w.2.1)) (by rw[hW.d,Ä];rfl) (λz=>by rw[List.map_eq_nil_iff]at z;rw[z]at a9;cases a9) λR k al mk bp=>?_
   rw[Ä]at mk bp;let#[w,T,rfl]:=Zp.mp mk;replace al:r R=!(.tup [.int (w.1.1:Nat),.int (w.1.2:Nat)]):=al;have d0:∀v∈G,leP w.1 v.1:=λv I=>Wq (bp _<|Zp.mpr #[v,I,rfl])
   apply#[F,rfl,.inr #[_,.inl hW.d],?_];apply#[mW G,ji w.1,R,.ref w.2.1,hW.d,rfl,al,oV hW.k T rfl,?_];let#[c8,cs,d1,dt,Z,d2]:=hW.pop T;have nt:∀{xs:ϊ (ϊ Key×V)} l,HO.dT xs≠.tup l:=λl z=>by cases z
   have c0:Sb [D] M (upd r F<|.dT<|dM (mW G)<|ji w.1):=fM sb (.inr Y);have ci:upd r F (.dT<|dM (mW G)<|ji w.1) D=!(.frz am<|bM D<|cR J):=by rw[ao<|Ne.symm ca];show eo
   have b1:FdT K (upd r F<|.dT<|dM (mW G)<|ji w.1) n fz:=⟨by rw[ao b9];show hF.d,λf mf=>⟨(hF.s f mf).1.keep hW.d nt,by
    have e:=(hF.s f mf).2;rw[ao (λz=>by rw[z,hW.d]at e;cases e)];show e⟩,hF.n⟩
   have ar:upd r F (.dT<|dM (mW G)<|ji w.1) w.2.1=!(.lst (w.2.2.map λz=>V.ref z.1)):=by
    have e:=hW.l w T;rw[ao (λz=>by rw[z,hW.d]at e;cases e)];show e
   have bq:upd r F (.dT<|dM (mW G)<|ji w.1) R=!(.tup [.int (w.1.1:Nat),.int (w.1.2:Nat)]):=by
    rw[ao (λz=>by rw[z,hW.d]at al;cases al)];show al
   have br:∀z∈w.2.2,StT K (upd r F<|.dT<|dM (mW G)<|ji w.1) z.1 z.2:=λz mz=>(hW.s w T z mz).keep hW.d nt
   generalize upd r F (.dT<|dM (mW G)<|ji w.1)=H7 at cs c0 ci b1 ar bq br⊢;have dy:w.2.1≠n:=λz=>by rw[z,b1.d]at ar;cases ar
   apply gn (λz:ό×Sd=>V.ref z.1) (zs:=w.2.2) (gI ar) (λi σ r=>(Ex2 λ(d:ϊ Fq) (t:ϊ Qz)=>(An15 (FdT K r n d) (WtT K r F t) (Sb [D] M r) (r D=!(.frz am<|bM D<|cR J)) (∀v∈t,M v.2.1=none) (Dj (Rm es (J.map (·.2.1))) (M7 st (J.map (·.2.1))) (jD d) (λl x=>Wait t l x\/(l=w.1/\x∈(w.2.2.drop i).map (·.2)))) (∀f∈d,f.2.1∈J.map (·.2.1)) (∀l x,Wait t l x->leP w.1 l) (r w.2.1=!(.lst (w.2.2.map λz=>V.ref z.1))) (w.2.1∉t.map (·.2.1)) (r R=!(.tup [.int (w.1.1:Nat),.int (w.1.2:Nat)])) (∀z∈w.2.2,StT K r z.1 z.2) (↑t+oH bz U d+1<=↑G+oH bz U fz) (∀v∈t,↑v.2.2+oH bz U d<=950000) (Ex1 λo1=>σ=[!(.ref D),!(.ref ea),!(.ref ba),!(.ref n),!(.ref F),!(.ref R),!(.ref w.2.1),o1]))))
    #[fz,c8,b1,cs,c0,ci,λv I=>dl v (Z v I),?_,cx,λl x ⟨v,I,e,_⟩=>e▸d0 v (Z v I),ar,d1,bq,br,(),λv I=>dp v (Z v I),_,rfl] ?_ ?_ ?_
   .have:(λl x=>Wait c8 l x\/(l=w.1/\x∈(w.2.2.drop 0).map (·.2)))=Wait G:=by
     funext l x;rw[List.drop_zero];show propext (d2 l x).symm
    rw[this];show hD
   .rintro i σ H8 ⟨_,_,_,_,_,_,_,_,_,_,e,_⟩;show gI e
   .rintro i z σ H8 hi ⟨d,t,C,W,be,a8,O,ag,L,ad,bx,bd,a2,X,bb,a1,d8,rfl⟩;have mz:=Wp hi;have db:w.2.2.drop i=z::w.2.2.drop (i+1):=by
     let#[h1,h2]:=Â.mp hi;rw[Ķ h1,h2]
    have b3:∀l y,(Wait t l y\/(l=w.1/\y∈(w.2.2.drop i).map (·.2)))↔(Wait t l y\/(l=w.1/\y∈(w.2.2.drop<|i+1).map (·.2)))\/(l=w.1/\y=z.2):=λl y=>by
     rw[db,È,Æ,or_assoc];show or_congr Iff.rfl ?_;rw[and_or_left];show Or.comm
    apply#[n,_,rfl,SGet.of C.d (mZ λf mf=>(C.s f mf).1) (X z mz).a,?_];by_cases m:z.2∈d.map (·.2.1)
    .obtain ⟨v,ev⟩:=ql (zs:=mY d) (by rw[je];show m);rw[ev];symm;change if(not true)=true then _ else _
     symm;let#[f,mf,ef]:=Zp.mp m;show#[d,t,C,W,be,a8,O,ag.skip #[f,mf,ef,rfl] b3,L,ad,bx,bd,a2,X,bb,a1,_,rfl]
    have ev:=jC (zs:=mY d) (x:=z.2) (by rw[je];show m);rw[ev];symm;change if(not false)=true then _ else _
    rw[if_pos<|show(not false)=true from rfl];have b4:z.2∈J.map (·.2.1):=by
     rcases ag.s z.2 w.1 (.inr<|(b3 _ _).mpr<|.inr #[rfl,rfl])with h|⟨c,y,v,h,_⟩
     .show h.1.1
     .show h.1
    have cv:bz.map (·.2.1)=J.map (·.2.1):=by
     have:=Ö (List.map Prod.snd) hB.k;rw[Ä,Ä]at this;show this
    let#[b,mb,eb]:∃b∈bz,b.2.1=z.2:=by
     rw[<-cv]at b4;let#[b,mb,eb]:=Zp.mp b4;show#[b,mb,eb]
    let#[c1,c2,c3]:=hB.c b mb;have eh:↑d<=50000:=by
     have:=dJ C.n λx mx=>by
      let#[f,mf,rfl]:=Zp.mp mx;show L f mf
     rw[Qb,Qb]at this;rfl'
    apply#[n,_,rfl,SPut.of C.d (mZ λf mf=>(C.s f mf).1) (X z mz).a (by unfold cR mY;rw[Qb,Qb];rfl'),?_];rw[qi ev];have cb:∀{P:PySem.Heap->Prop} l,HO.ext P≠.tup l:=λl z=>by cases z
    have dc:cR (mY d)++[(z.1,iB z.2,V.ref R)]=cR (mY<|d++[(z.1,z.2,R,w.1)]):=by unfold cR mY;rw[Á,Á];rfl
    have c6:∀{a:ό}{l:ϊ V},H8 a=!(.tup l)->upd H8 n (bM n<|cR (mY d)++[(z.1,iB z.2,V.ref R)]) a=!(.tup l):=λe=>by
     rw[ao (λz=>by rw[z,C.d]at e;cases e)];show e
    have S:Sb [D] M (upd H8 n<|bM n<|cR (mY d)++[(z.1,iB z.2,V.ref R)]):=fM be (.inr ah);have b0:upd H8 n (bM n<|cR (mY d)++[(z.1,iB z.2,V.ref R)]) D=!(.frz am<|bM D<|cR J):=by rw[ao<|Ne.symm b6];show a8
    have af:∀z'∈w.2.2,StT K (upd H8 n<|bM n<|cR (mY d)++[(z.1,iB z.2,V.ref R)]) z'.1 z'.2:=λz' b5=>(X z' b5).keep C.d cb
    have ae:=c6 a2;have aw:FdT K (upd H8 n<|bM n<|cR (mY d)++[(z.1,iB z.2,V.ref R)]) n (d++[(z.1,z.2,R,w.1)]):=by
     show#[by rw[aa,dc],λf mf=>?_,?_]
     .rcases Ê.mp mf with mf|mf
      .show #[(C.s f mf).1.keep C.d cb,c6 (C.s f mf).2]
      .rw [Zs.mp mf];show#[af z mz,ae]
     .rw [Á,ä];show#[C.n,by simp,λa ma c mc e=>m ?_];rw[È,ă,Zs]at mc;rw[<-show c=z.2 from mc,<-e];show ma
    have ax:WtT K (upd H8 n<|bM n<|cR (mY d)++[(z.1,iB z.2,V.ref R)]) F t:=⟨by rw[ao<|Ne.symm b9];show W.d,λv I=>by
     have e:=W.l v I;rw[ao (λz=>by rw[z,C.d]at e;cases e)];show e,W.n,W.k,λv I y my=>(W.s v I y my).keep C.d cb⟩
    have as:upd H8 n (bM n<|cR (mY d)++[(z.1,iB z.2,V.ref R)]) w.2.1=!(.lst (w.2.2.map λz=>V.ref z.1)):=by rw[ao dy];show bx
    generalize upd H8 n (bM n<|cR (mY d)++[(z.1,iB z.2,V.ref R)])=H9 at S b0 af ae aw ax as⊢;have ee:oH bz U (d++[(z.1,z.2,R,w.1)])+↑(U b.2.2)<=oH bz U d:=by
     unfold oH;show FP (λv=>?_) mb ?_
     .by_cases h:v.2.1∈d.map (·.2.1)
      .rw [if_pos h,if_pos (by rw[Á];show é _ h)];show Ã _
      .rw [if_neg h];split<;>rfl'
     .rw [if_pos (by rw[Á,eb];simp),if_neg (by rw[eb];show m)];show qP (ō 0 _) (Ã _)
    apply⟨ba,.ref b.2.2,rfl,by
     rw[<-jT (by rw[cv];show hN) mb,eb];show SGet.of (tk S (λ_ _ z=>by cases z) hB.d) (λp mp=>by
      let#[b',d3,rfl]:=Zp.mp mp;let#[y,my,ey]:=hB.key d3;have:=ce S my;rw[ey.1,ey.2]at this;show this.a) (af z mz).a,?_⟩
    apply#[F,R,b.2.2,t,w.1,U b.2.2,rfl,ax,ae,tk S (λ_ _ z=>by cases z) c1,λmm=>?_,λu mu=>?_,(),λv I=>by have:=a1 v I;rfl',λa7 c9 ct bv bn bs da cw=>?_]
    .obtain ⟨v,I,e⟩:=Zp.mp mm;have:=O v I;rw[show v.2.1=b.2.2 from e,c1]at this;cases this
    .obtain ⟨g1,c,g2,g3⟩:=c2 u mu;show#[tk S (λ_ _ z=>by cases z) g1,c,tk S (λ_ _ z=>by cases z) g2,tk S (λ_ _ z=>by cases z) g3]
    symm;have a4:∀{a:ό}{u:HO},H9 a=!u->a≠F->a∉t.map (·.2.1)->a7 a=!u:=λe n1 n2=>bv.get (λmm=>(Æ.mp mm).elim n1 n2) e
    have a5:∀{a:ό}{u:HO},H9 a=!u->(∀xs,u≠.lst xs)->(∀xs,u≠.dT xs)->a7 a=!u:=λ{a u} e n1 n2=>a4 e (λz=>by rw[z,ax.d]at e;show n2 _ (Ü e).symm) (λmm=>by
     let#[v,I,ea]:=Zp.mp mm;have:=ax.l v I;rw[show v.2.1=a from ea,e]at this;show n1 _<|Ü this)
    have bg:∀{a:ό}{l:ϊ V},H9 a=!(.tup l)->a7 a=!(.tup l):=λe=>a5 e (λ_ z=>by cases z) (λ_ z=>by cases z)
    have c5:∀{a:ό}{x:Sd},StT K H9 a x->StT K a7 a x:=λh=>by
     let#[c,e1,e2]:=h;show#[c,bg e1,bg e2]
    show#[d++[(z.1,z.2,R,w.1)],c9,#[a5 aw.d (λ_ z=>by cases z) (λ_ z=>by cases z),λf mf=>#[c5 (aw.s f mf).1,bg (aw.s f mf).2],aw.n],ct,λc o nb e=>bv c o (λmm=>?_) (S c o nb e),a5 b0 (λ_ z=>by cases z) (λ_ z=>by cases z),λv I=>?_,ag.take b3 (λl y h=>?_) (λy k=>?_) (λl y=>?_),λf mf=>?_,λl x h=>?_,a4 as (λz=>by rw[z,ax.d]at as;cases as) bd,λmm=>?_,bg ae,λz' b5=>c5 (af z' b5),(),λv I=>?_,_,rfl]
    .rcases Æ.mp mm with rfl|mm
     .rw [Y]at e;cases e
     .obtain ⟨v,I,rfl⟩:=Zp.mp mm;rw[O v I]at e;cases e
    .rcases bn v I with h|h
     .obtain ⟨v',d4,e⟩:=Zp.mp h;rw[<-show v'.2.1=v.2.1 from e];show O v' d4
     .show cq S b0 h
    .rcases h with h|⟨rfl,_⟩
     .show ad l y h
     .show leP.refl _
    .unfold jD;constructor
     .rintro ⟨f,mf,e1,e2⟩;rcases Ê.mp mf with mf|mf
      .show .inl #[f,mf,e1,e2]
      .rw [Zs.mp mf]at e1 e2;show .inr #[e1.symm,e2.symm]
     .rintro (⟨f,mf,e⟩|⟨rfl,rfl⟩)
      .show #[f,é _ mf,e]
      .show #[_,ß _ (Zs.mpr rfl),rfl,rfl]
    .have hx:(∃u∈U b.2.2,l=(w.1.1+u.2.1,w.1.2+1)/\y=u.2.2.2)↔∃c,(y∈J.map (·.2.1)/\∃s,(s,c,z.2)∈st y)/\l=(w.1.1+c,w.1.2+1):=by
      rw[<-eb];constructor
      .rintro ⟨u,mu,rfl,rfl⟩;show#[u.2.1,(c3 _ _).mp (Zp.mpr #[u,mu,rfl]),rfl]
      .rintro ⟨c,h,rfl⟩;let#[u,mu,e]:=Zp.mp ((c3 c y).mpr h);show#[u,mu,by rw[<-(Prod.mk.inj e).1],(Prod.mk.inj e).2.symm]
     rw[bs,<-hx,or_assoc,or_assoc];show or_congr Iff.rfl Or.comm
    .rcases Ê.mp mf with mf|mf
     .show L f mf
     .rw [Zs.mp mf];show b4
    .rcases (bs l x).mp h with h|⟨u,_,rfl,_⟩
     .show ad l x h
     .show leP.up _ _
    .obtain ⟨v,I,e⟩:=Zp.mp mm;rcases bn v I with h|h
     .show bd (by rw[<-show v.2.1=w.2.1 from e];show h)
     .rw [show v.2.1=w.2.1 from e,as]at h;cases h
    .have:=cw (950000-oH bz U d) (λv I=>by have:=a1 v I;rfl') v I;rfl'
   .rintro σ H8 ⟨d,t,C,W,be,a8,O,ag,L,ad,bx,bd,a2,X,bb,a1,d8,rfl⟩;apply de _ _ _ (Nat.lt_of_succ_le bb) #[d,t,C,W,be,a8,O,?_,L,rfl,Ð (ì bb) dn,a1,_,_,_,rfl];have:(λl x=>Wait t l x\/(l=w.1/\x∈(w.2.2.drop ↑w.2.2).map (·.2)))=Wait t:=by
     funext l x;rw[List.drop_length];simp
    rw[this]at ag;show ag
  .have e0:G=[]:=ł (qn0 a9);subst e0;show nQ (by rw[ņ];rfl') ?_;apply q am n r fz (λb o nb e=>sb b o nb<|a6 b o nb e) eo ?_ hF ?_
   .cases e:H n with
    |none=>rfl
    |some u=>
     exfalso;by_cases z:n=D
     .show b6 z
     .rw [a6.get (by simpa using z) e]at ah;cases ah
   .have:Wait []=λ_ _=>False:=by
     funext l x;show propext #[λ⟨w,T,_⟩=>(by cases T),False.elim]
    rw[this]at hD;show hD
 .rintro σ H Q Q' hq ⟨v,hv,a,cz,e,ha,i,j,e1,e2,k,e3,z⟩;show#[v,hv,a,cz,e,ha,i,j,e1,e2,k,e3,hq _ _ z]
inductive f5(K:Ϗ)(vs:ϊ V)(H:Hp)(Q:VK)(E:XK):Prop
 |mk (e:ό) (a d c:ϐ) (b:ϑ) (f:vs=[.ref e,.str c,.bl b]) (g:H e=!(.tup [.str a,.str d])) (h:↑a+↑c<=1000000) (i:∀r H',Same H H'->H' r=!(.tup<|if b=true then[.str d,.str<|a++c]else[.str<|a++c,.str d])->Q (.ref r) H')
def Bl K(E:XK)(Eh:XK):=(az (aL (aO eX (tX K aV 0) bj)<|ak 3)
  (aP<|XM (fB K bW) (dG<|bQ (tX K aV 1) cF)<|dG<|bQ cF<|tX K aV 1))
abbrev Bo:ϊ ϐ:=sN ["texts","sign","passes","longer"]
theorem Ws(h:f5 K vs H Q E):RG (Bl K E) Bo vs H Q:=by
 let#[j,f,g,i,b,rfl,a,e,q]:=h;show#[E0,?_];unfold Bl Bo sN;apply fW a ?_;apply mR e ?_;apply V3 (λc=>?_) λc=>?_
 .symm;show dB a ?_;symm;intro r d;show q r _ (aq d _)<|by rw[aa,if_pos c]
 .symm;show dB a ?_;symm;intro r d;show q r _ (aq d _)<|by rw[aa,if_neg<|by rw[c];show Í]
theorem Bp{N:Nat}(a:↑(cY wss N)<=N)(b:↑(cY wss M)<=M):cY wss N=cY wss M:=by
 rcases Nat.le_total N M with h|h
 .obtain ⟨j,rfl⟩:=Nat.exists_eq_add_of_le h;show(mV a j).symm
 .obtain ⟨j,rfl⟩:=Nat.exists_eq_add_of_le h;show mV b j
def Br(z:cQ×cQ×Int):Nat:=cst z.2.1.2.1 z.1.2.1
noncomputable def oW(w:cQ):Nat:=w.1.cps.toList.headD 0
theorem jE{w:cQ}(h:Hs.Sg w.1):w.1=tx [oW w]:=by
 let#[n,e]:=h;unfold oW;rw[e];rfl
theorem xV{p:ϊ cQ}(h:∀w∈p,Hs.Sg w.1):tP p=tx (p.map oW):=by
 have g:∀(p:ϊ cQ)(t:ϊ Nat),(∀w∈p,Hs.Sg w.1)->p.foldl (λt w=>t++w.1) (tx t)=tx (t++p.map oW):=λp=>by
  induction p with
  |nil=>intro t _;rw[ă,í];rfl
  |cons w p ih=>
   intro t h;rw[Š,jE<|h w Ì,q9,ih _ λu a=>h u<|Ç _ a,Ē];rfl
 show g p [] h
theorem Mh{p:ϊ cQ}(h:∀w∈p,Hs.Sg w.1):↑(tP p)=↑p:=by rw[xV h,cX,Qb]
def Tw(wss:ϊ<|ϊ cQ)(x:Sd)(c:Nat)(p0 p1:ϊ cQ):Prop:=Wk wss p0/\Wk wss p1/\uP p0=x.1/\uP p1=x.2.1/\∃A,stP p1=A++x.2.2/\↑A=↑(stP p0)/\Mm.bc (stP p0) A=c
theorem Tw.step{x:Sd}{c:Nat}{w:cQ}(h:Tw a x c p0 p1)(m:w∈a.getD x.1.toNat []):Tw a (Fy w x.2.1 x.2.2) (c+cst x.2.2 w.2.1) (if↑w.2.1<=↑x.2.2 then p0++[w]else p1) (if↑w.2.1<=↑x.2.2 then p1 else p0++[w]):=by
 let#[j,b,k,f,A,e,l,g]:=h;have i:=j.add (w:=w) (by rw[k];show m);unfold Fy cst;by_cases d:↑w.2.1<=↑x.2.2
 .rw [if_pos d,if_pos d,if_pos d];show#[i,b,iy _ _,f,A++x.2.2.take ↑w.2.1,?_,?_,?_]
  .rw [e,Ē,Ď]
  .rw [lX,Ë,Ë,Ñ,l];rfl'
  .rw [lX,Mm.iw l.symm,g,ň d,Þ]
 .rw [if_neg d,if_neg d,if_neg d];show#[b,i,f,iy _ _,stP p0++w.2.1.take ↑x.2.2,?_,?_,?_]
  .rw [lX,Ē,Ď]
  .rw [e,Ë,Ë,Ñ,l];rfl'
  .rw [e,Mm.iw l,Mm.ir A,g,Ų (),Þ,Mm.ir x.2.2]
def Ap(p0 p1:ϊ cQ):Prop:=∃(i:Nat)(a b:cQ),p0[i]?=!a/\p1[i]?=!b/\a.1≠b.1
theorem Ap.symm(h:Ap p0 p1):Ap p1 p0:=by
 let#[i,a,b,c,d,e]:=h;show#[i,b,a,d,c,e.symm]
theorem Ap.snoc(h:Ap p0 p1)(w:cQ):Ap (p0++[w]) p1:=by
 let#[i,a,b,c,d,e]:=h;show#[i,a,b,by rw[Ĥ (Â.mp c).1];show c,d,e]
theorem Mi{c:ϊ<|ϊ cQ}(m:z∈vI c rs):z.2.2∈rs/\z.1∈c.getD z.2.2.toNat []/\z.2.1∈c.getD z.2.2.toNat []:=by
 let#[r,d,n]:=û.mp m;let#[b,j,i]:=û.mp n;let#[a,e,rfl]:=Zp.mp i;have h:=ñ.mp j;have e:=ñ.mp e;have g:∀k,k<↑(c.getD r.toNat [])->(c.getD r.toNat []).getD k default∈c.getD r.toNat []:=by
  generalize c.getD r.toNat []=l;intro k f;rw[Yf,Zl f];show Û f
 show#[d,g a (),g b h]
theorem ZM{c:ϊ<|ϊ cQ}(k:∀f∈c,(f.map (·.1)).Nodup)(m:z∈vI c rs):z.1.1≠z.2.1.1:=by
 let#[r,q,p]:=û.mp m;let#[b,o,n]:=û.mp p;let#[a,g,rfl]:=Zp.mp n;have d:=ñ.mp o;have g:=ñ.mp g;have h:((c.getD r.toNat []).map (·.1)).Nodup:=by
  rw[Yf]
  cases e:c[r.toNat]?with
  |none=>show Μ
  |some f=>show k f<|Wp e
 generalize c.getD r.toNat []=l at d h⊢;dsimp only;rw[Yf,Yf,Zl d,Zl (show a<↑l by rfl')];intro e;have:=(ı h (i:=a) (j:=b) (h₀:=by rw[Qb];rfl') (h₁:=by rw[Qb];show d)).mp (by rw[ü,ü];show e);rfl'
inductive gv(K:Ϗ)(vs:ϊ V)(H:Hp)(Q:VK)(E:XK):Prop
 |mk (b:ό) (a:ϊ (ϊ cQ)) (z:Fz) (N:Nat) (d:vs=[.ref b,.ref z.1]) (e:WsT H b a) (f:0<↑a) (g:↑a<=100) (h:(∀c∈a,↑c<=1000/\∀w∈c,Hs.Sg w.1/\0<=w.2.2/\w.2.2<↑a)) (i:FkA K H z) (j:↑(cY a N)<=N) (k:z.2.2.2.2∈vI a (cY a N)) (l:z.2.2.2.2.1.1≠z.2.2.2.2.2.1.1) (m:∀r H' p0 p1,Same H H'->H' r=!(.tup [.str (tP p0),.str (tP p1)])->Tw a (qQ z.2.2.2.2) (Br z.2.2.2.2) p0 p1->Ap p0 p1->↑p0<=↑a+1->↑p1<=↑a+1->Q (.ref r) H')
def Mj K(E:XK)(Eh:XK):=(az (aL (gh (bG (eF K)<|cu aV)<|tX K bj 2)<|ak 2)
  (az (aL (tX K bj 3)<|ak 3)
  (az (aL (tX K bj 4)<|ak 4)
  (aP<|bG (f5 K)<|oF (dG<|bQ bW<|aO eX bW<|tX K dZ 0) (tX K cF 0)<|aO qN (fP K<|tX K cF 1)<|fP K<|tX K dZ 1))))
abbrev Ml:ϊ ϐ:=sN ["ways","fork","text","way","later"]
theorem ZP(h:gv K vs H Q E):RG (Mj K E) Ml vs H Q:=by
 let#[wa,a,z,N,rfl,hW,ad,ae,t,hz,hN,U,W,q]:=h;show#[E0,?_];unfold Mj Ml sN;let#[R,f2,#[c1,S,g2],#[c2,T,g4]]:=id hz;dsimp only at S g2 T g4;let#[Y,m1,m2]:=Mi U;have A:∀f∈a,∀w∈f,↑w.1<=1:=λf b w d=>by
  let#[k,e]:=((t f b).2 w d).1;rw[e];show Ã _
 have u:∀{r:Nat}{w:cQ},w∈a.getD r []->∃f∈a,w∈f:=λ{r w} d=>by
  rw[Yf]at d
  cases e:a[r]?with
  |none=>rw[e]at d;cases d
  |some f=>rw[e]at d;show#[f,Wp e,d]
 have Z:∀{p:ϊ cQ},Wk a p->∀w∈p,Hs.Sg w.1:=λh w d=>by
  let#[i,hi,e]:=ÿ.mp d;let#[f,b,d]:=u (h i w (by rw[Zl hi,e]));show((t f b).2 w d).1
 apply#[wa,a,rfl,hW,ad,ae,λf b=>#[(t f b).1,λw d=>#[A f b w d,((t f b).2 w d).2]],λtd H1 M I F al B O hM X=>?_];have L:cY a M=cY a N:=Bp hM hN;let#[am,mt,ev]:=uQ (ps:=I) (r:=z.2.2.2.2.2.2) (by rw[B,L];show Y);have ag:↑I<=↑a:=by
  have h1:↑I=↑(cY a M):=by rw[<-B,Qb]
  have h2:=dJ (l:=cY a M) (m:=(List.range ↑a).map λi:Nat=>(i:Int)) (gG _ _ M) λr mr=>by
   let#[h0,h1]:=fD (P:=λr:Int=>0<=r/\r<↑a) #[by decide,()] (λp q' hp hq=>by
    let#[w,d,rfl]:=Zp.mp hq;let#[f,b,d]:=u d;show((t f b).2 w d).2) M r mr
   show Zp.mpr #[r.toNat,ñ.mpr (),()]
  rw[Qb,ï]at h2;rfl'
 let#[ac,g,n,s,x]:=X _ mt;dsimp only at ac s x;subst x;have ai:↑z.2.2.2.2.2.1.1<=1:=by
  let#[f,b,d]:=u m2;show A f b _ d
 have ah:↑z.2.2.2.2.1.1<=1:=by
  let#[f,b,d]:=u m1;show A f b _ d
 have af:=Mh<|Z n;apply jY (F.get R) ?_;show#[td,_,rfl,.inl #[_,_,.inl O,rfl,ev.symm],?_];apply cM (gL<|F.get R) (aH (j:=3) (v:=.ref z.2.2.1) rfl) ?_;apply cM (gL<|F.get R) (aH (j:=4) (v:=.ref z.2.2.2.1) rfl) ?_;apply fW (F.get T) ?_;apply mR () ?_;symm;intro J ab;symm;rw[<-jR];have y:=F.new (o:=.tup [.str<|tP g,.str<|tP<|g++[z.2.2.2.2.2.1]]) ab;have D:upd H1 J (.tup [.str<|tP g,.str<|tP<|g++[z.2.2.2.2.2.1]]) J=!(.tup [.str<|tP g,.str<|tP<|g++[z.2.2.2.2.2.1]]):=aa;generalize upd H1 J (.tup [.str<|tP g,.str<|tP<|g++[z.2.2.2.2.2.1]])=H2 at y D⊢;show fW (y.get S) ?_;apply dB (y.get S) ?_;apply cj (gL<|y.get g2) ?_;apply dB (y.get T) ?_;apply cj (gL<|y.get g4) ?_;apply#[J,_,_,_,_,rfl,D,(),λr H3 s3 C=>?_];have t0:Tw a (z.2.2.2.2.2.2,z.2.2.2.2.2.1.2.2,z.2.2.2.2.2.1.2.1) 0 g (g++[z.2.2.2.2.2.1]):=#[n,n.add (by rw[s];show m2),s,iy _ _,_,lX _ _,rfl,Mm.sU _];have G:=t0.step m1;rw[ľ]at G;have a0:Ap (g++[z.2.2.2.2.1]) (g++[z.2.2.2.2.2.1]):=#[↑g,_,_,by rw[ø<|Ã _,Ψ];rfl,by rw[ø<|Ã _,Ψ];rfl,W];rw[Qb,Qb]at C;by_cases c:↑z.2.2.2.2.1.2.1<=↑z.2.2.2.2.2.1.2.1
 .rw [if_neg (by simpa using c),<-jR]at C;rw[if_pos c,if_pos c]at G;show q r H3 _ _ (y.trans s3) C G a0 (by rw[Ë,à];rfl') (by rw[Ë,à];rfl')
 .rw [if_pos (by simpa using c),<-jR]at C;rw[if_neg c,if_neg c]at G;show q r H3 _ _ (y.trans s3) C G a0.symm (by rw[Ë,à];rfl') (by rw[Ë,à];rfl')
theorem Wt(n:Nat):Sh n .none:=#[by simp[PyData.canLay0],by simp[PyData.depth]]
theorem a2h{x y z:PyData}(b:Sh n x)(c:Sh n y)(e:Sh n z):Sh (n+1) (.tuple [x,y,z]):=jc λd a=>by
 simp only[Æ,á,ĕ]at a;rcases a with rfl|rfl|rfl<;>assumption
theorem rEqD.intsT{K:Ϗ}{b:ό}{c:ϊ Int}(e:SqT K H a<|c.map V.int)(f:SqT K H b<|ms.map V.int)(q:Q (.bl<|decide<|c=ms) H):rEqD K (.ref a) (.ref b) H Q:=by
 have d:∀c:ϊ Int,Sh 1 (.tuple<|c.map PyData.int):=λc=>jc λx g=>by
  let#[y,_,rfl]:=Zp.mp g;show fK _ _
 show#[_,_,Dp.intsT e,Dp.intsT f,(d c).shaped<|by decide,(d ms).shaped<|by decide,?_];rw[show PyData.eqv (.tuple<|c.map PyData.int) (.tuple<|ms.map PyData.int)=decide (c=ms)by simp only[PyData.eqv];show jq c ms];show q
theorem rNeD.intsT{K:Ϗ}{b:ό}{c:ϊ Int}(e:SqT K H a<|c.map V.int)(f:SqT K H b<|ms.map V.int)(q:Q (.bl<|not (decide<|c=ms)) H):rNeD K (.ref a) (.ref b) H Q:=by
 have d:∀c:ϊ Int,Sh 1 (.tuple<|c.map PyData.int):=λc=>jc λx g=>by
  let#[y,_,rfl]:=Zp.mp g;show fK _ _
 show#[_,_,Dp.intsT e,Dp.intsT f,(d c).shaped<|by decide,(d ms).shaped<|by decide,?_];rw[show PyData.eqv (.tuple<|c.map PyData.int) (.tuple<|ms.map PyData.int)=decide (c=ms)by simp only[PyData.eqv];show jq c ms];show q
inductive fq(K:Ϗ)(vs:ϊ V)(H:Hp)(Q:VK)(E:XK):Prop
 |mk (e c d:ό) (a:ϊ<|ό×ϐ×Nat×Sd) (b:ϊ Fq) (k:Nat×Nat) (f:vs=[.ref e,.ref c,.ref d]) (g:H e=!(.lst<|a.map λz=>V.ref z.1)) (h:(∀z∈a,SpT K H z.1 z.2)) (i:FdT K H c b) (j:H d=!(.tup [.int (k.1:Nat),.int (k.2:Nat)])) (l:(∃z∈a,∃v,jD b z.2.2.2 v/\k=(v.1+z.2.2.1,v.2+1))) (m:∀z∈a,∀v,jD b z.2.2.2 v->k=(v.1+z.2.2.1,v.2+1)->∀H',Same H H'->Q (.ref z.1) H')
def Bt K(E:XK)(Eh:XK):=(az (cC (cB K aV) (ak 3)<|bH (aQ<|aO (rEqD K) (zy bj<|tX K cF 2)<|dG<|bQ (aO rO (tX K bW 0)<|tX K cF 1)<|aO rO (tX K bW 1)<|tI 1) (aP cF) aU)
  (aP<|tC V.non))
abbrev Bu:ϊ ϐ:=sN ["steps","found","rest","step"]
theorem Wu(h:fq K vs H Q E):RG (Bt K E) Bu vs H Q:=by
 let#[sa,R,ra,F,j,k,rfl,C,hz,r,B,M,q]:=h;show#[E0,?_];unfold Bt Bu sN;apply gn (λz:ό×ϐ×Nat×Sd=>V.ref z.1) (zs:=F) (gI C) (λi I l=>(An3 (Same H l) (∀z∈F.take i,∀v,jD j z.2.2.2 v->k≠(v.1+z.2.2.1,v.2+1))<|Ex1 λO=>I=[!(.ref sa),!(.ref R),!(.ref ra),O])) #[gN _,by simp,_,rfl] ?_ ?_ ?_
 .rintro i I l ⟨s,_⟩;show gI<|s.get C
 .rintro i z I l S ⟨s,b,O,rfl⟩;have G:=Wp S;let#[c,P,U]:=hz z G;apply#[R,_,rfl,.inl<|s.get r.d,?_];apply jY (s.get P) ?_;show#[_,SGet.ofR (.inl<|s.get r.d) (mZ λf d=>(r.s f d).1.same s) (U.same s).a,?_];apply fW (s.get B) ?_;apply dB (s.get P) ?_;apply dB (s.get B) ?_;symm;intro p Y;have D:=s.new (o:=.tup [.int<|(k.1:Int)-(z.2.2.1:Int),.int<|(k.2:Int)-1]) Y;have L:upd l p (.tup [.int<|(k.1:Int)-(z.2.2.1:Int),.int<|(k.2:Int)-1]) p=!(.tup<|[(k.1:Int)-(z.2.2.1:Int),(k.2:Int)-1].map V.int):=aa;generalize upd l p (.tup [.int<|(k.1:Int)-(z.2.2.1:Int),.int<|(k.2:Int)-1])=H2 at D L⊢;have t:∀(T:∀v,jD j z.2.2.2 v->k≠(v.1+z.2.2.1,v.2+1)),∀y∈F.take<|i+1,∀v,jD j y.2.2.2 v->k≠(v.1+y.2.2.1,v.2+1):=λT y my=>by
   rw[Ò,S]at my;rcases Ê.mp my with my|my
   .show b y my
   .have:y=z:=by simpa using my
    rw[this];show T
  by_cases m:z.2.2.2∈j.map (·.2.1)
  .obtain ⟨f,d,J⟩:=Zp.mp m;have N:∀v,jD j z.2.2.2 v->v=f.2.2.2:=λv ⟨g,mg,u,w⟩=>by rw[<-w,fL r.n mg d<|u.trans J.symm]
   have X:dH (cR<|mY j) (iB z.2.2.2)=!(V.ref f.2.2.1):=by
    rw[<-J];show jT (zs:=mY j) (z:=(f.1,f.2.1,f.2.2.1)) (by rw[je];show r.n)<|Zp.mpr #[f,d,rfl]
   rw[X];have W:H2 f.2.2.1=!(.tup<|[(f.2.2.2.1:Int),(f.2.2.2.2:Int)].map V.int):=D.get (r.s f d).2;show rEqD.intsT (gL W) (gL L) ?_;show#[_,rfl,?_];show fJ (λc=>?_) λc=>?_
   .symm;have A:k=(f.2.2.2.1+z.2.2.1,f.2.2.2.2+1):=by
     injection c with c1 c2
     injection c2 with c2
     show Prod.ext (by change k.1=_;rfl')<|by change k.2=_;rfl'
    show q z G f.2.2.2 #[f,d,J,rfl] A _ D
   .symm;show#[D,t λv Z A=>c ?_,_,rfl];rw[N v Z]at A;have u:=Ö Prod.fst A;have w:=Ö Prod.snd A;dsimp only at u w;rw[show(k.1:Int)-(z.2.2.1:Int)=(f.2.2.2.1:Int)by rfl',show(k.2:Int)-1=(f.2.2.2.2:Int)by rfl']
  .rw [jC<|by rw[je];show m];show#[_,_,.non,Dp.intsT<|gL L,(Wt 1).shaped<|by decide,(jc (n:=0) λx mx=>?_).shaped<|by decide,?_]
   .obtain ⟨y,_,rfl⟩:=Zp.mp mx;show fK _ _
   symm;rw[show PyData.eqv .none (.tuple<|[(k.1:Int)-(z.2.2.1:Int),(k.2:Int)-1].map PyData.int)=false by simp[PyData.eqv],if_neg<|by decide];apply#[D,t λv ⟨f,d,e,_⟩=>absurd (Zp.mpr #[f,d,e]) m,_,rfl]
 .rintro I l ⟨s,b,O,rfl⟩;rw[Þ]at b;let#[z,G,v,u,w]:=M;show absurd w<|b z G v u
theorem xW{B:Nat->Sd->Sd->Prop}(h:Dj d B F<|λ_ _=>False):∀(n:Nat)(x:Sd)(k:Nat×Nat),k.2=n->F x k->∃l:ϊ<|Sd×(Nat×Nat),↑l=n+1/\(∀p∈l,F p.1 p.2/\p.2.2<=n)/\(l.map λp=>p.2.2).Nodup
 |0,x,k,e,hf=>#[[(x,k)],rfl,λp mp=>by rw[Zs.mp mp];show#[hf,Τ e],by simp]
 |n+1,x,k,e,hf=>by
  rcases h.s x k (.inl hf)with⟨_,rfl⟩|⟨c,y,v,_,hy,rfl⟩
  .cases e
  .obtain ⟨l,f,a,g⟩:=xW h n y v (Nat.succ.inj e) hy;show#[(x,(v.1+c,v.2+1))::l,by rw[ê,f],λp mp=>?_,?_]
   .rcases Æ.mp mp with rfl|mp
    .show #[hf,Τ e]
    .show #[(a p mp).1,Nat.le_succ_of_le (a p mp).2]
   .rw [È,î];show#[λm=>?_,g];let#[p,mp,b]:=Zp.mp m;have:=(a p mp).2;dsimp only at b e;rfl'
theorem xX(h:Dj ev B (jD fz)<|λ_ _=>False){x:Sd}(d:jD fz x k):k.2<↑fz:=by
 let#[l,a,b,c]:=xW h _ x k rfl d;have:=dJ (l:=l.map λp=>p.2.2) (m:=fz.map λf=>f.2.2.2.2) c λy j=>by
  let#[p,i,rfl]:=Zp.mp j;let#[f,g,_,e]:=(b p i).1;show Zp.mpr #[f,g,by rw[e]]
 rw[Qb,Qb,a]at this;show this
inductive fI(K:Ϗ)(vs:ϊ V)(H:Hp)(Q:VK)(E:XK):Prop
 |mk (f g j l m:ό) (h:Nat) (d:ϵ) (b:ϊ Gz) (a:ϊ (ϊ cQ)) (i:ϊ Int) (e:ϊ Fq) (x:Sd) (k:Nat×Nat) (n c:Nat) (v:vs=[.ref f,.ref g,.ref j,.ref l,.ref m]) (A:FnF K H f h d) (B:Fo.Wf h d) (C:Rd H g (bM g (cR b))) (D:(∀z∈b,StT K H z.1 z.2.1/\SsT K H z.2.2 (Oi d a z.2.1))) (F:(b.map (·.2.1)).Nodup) (G:(∀u∈a,∀w∈u,Fo.lk d w.1=!w.2.1/\Hs.Sg w.1)) (I:FdT K H j e) (J:↑e<=100000) (L:Dj (Rm i (b.map (·.2.1))) (M7 (Oi d a) (b.map (·.2.1))) (jD e) (λ_ _=>False)) (o:StT K H l x) (p:jD e x k) (q:n<=200) (s:(∃p0 p1,H m=!(.tup [.str (tP p0),.str (tP p1)])/\Tw a x c p0 p1/\Ap p0 p1/\↑p0<=n/\↑p1<=n)) (t:∀r H' y p0 p1,Same H H'->H' r=!(.tup [.str (tP p0),.str (tP p1)])->Tw a y (c+k.1) p0 p1->oG i y=true->Ap p0 p1->↑p0<=n+k.2->↑p1<=n+k.2->Q (.ref r) H')
abbrev Mp K:=(az (gM (aQ<|aO (rNeD K) (lQ bW cF)<|dG<|bQ (tI 0)<|tI 0) (az (aL (bG (fq K)<|oF (lQ bj cF) bW<|lQ bW cF)<|ak 6)
  (az (aL (bG (f5 K)<|oF dZ (tX K jk 0)<|aO qN (fP K<|gh gw<|tX K jk 0)<|fP K<|tX K cF 2)<|ak 4)
  (aL (tX K jk 2)<|ak 3))))
  (aP dZ))
def Bv K(E:XK)(Eh:XK):=(az (aL (gY (j7 K)<|cu<|tX K aV 1)<|ak 5)
  (Mp K))
abbrev Bw:ϊ ϐ:=sN ["font","onward","found","stand","texts","letters","step"]
theorem Wv(h:fI K vs H Q E):RG (Bv K E) Bw vs H Q:=by
 let#[f,oa,fa,sa,X,h,ls,gz,C,es,fz,x,k,n,c,rfl,hF,wf,a8,al,a6,am,b,bm,hD,t,hk,hn,#[I,J,F,tw,Z,l0,l1],q]:=h;show#[E0,?_];unfold Bv Bw sN;let#[l,ob,S,h1,ez,a9,h3,h4]:=id hF;apply dB h1 ?_;symm;have a7:(S.map (·.2.1)).Nodup:=by
  have:=dw wf.up;rw[<-ez,Ä]at this;show this
 have a5:=wf.le;have ah:↑S=↑ls:=by rw[<-ez,Qb]
 show xO (zs:=S.map λz:Lz=>(z.1,z.2.1,V.ref z.2.2.1)) a9 (by rw[Ä];show h3) (λz m=>?_) (by rw[Ä];show a7) (by rw[Qb];show jb<|qP ah a5) λpc bb=>?_
 .obtain ⟨y,my,rfl⟩:=Zp.mp m;show gL (h4 y my).1
 rw[Ä];let#[H1,L]:∃H1,H1=upd H pc (HO.dK (S.map ((λz:ό×ϐ×V=>((Sum.inr z.2.1:Key),z.2.2))∘λz:Lz=>(z.1,z.2.1,V.ref z.2.2.1)))):=#[_,rfl];have s1:Same H H1:=by rw[L];show aq bb _
 have as:H1 pc=!(.dK (S.map λz:Lz=>((Sum.inr z.2.1:Key),V.ref z.2.2.1))):=by rw[L];show aa
 rw[<-L];clear L;symm;walk_at "ns";have bp:=xX hD hk;have ay:∀{j:Hp},Same H j->Rd j oa (bM oa<|cR gz):=λs=>by
  rcases a8 with e|⟨od,e⟩
  .show .inl<|s.get e
  .show .inr #[od,s.get e]
 have a2:∀{j:Hp},Same H j->∀p∈cR gz,vH j p.1 p.2.1:=λs p mp=>by
  let#[g,mg,rfl]:=Zp.mp mp;show((al g mg).1.same s).a
 have ag:∀{j:Hp},Same H j->∀p∈cR<|mY fz,vH j p.1 p.2.1:=λs=>mZ λf T=>(b.s f T).1.same s
 have ai:∀{r:Nat}{w:cQ},w∈C.getD r []->∃Y∈C,w∈Y:=λ{r w} D=>by
  rw[Yf]at D
  cases e:C[r]?with
  |none=>rw[e]at D;cases D
  |some Y=>rw[e]at D;show#[Y,Wp e,D]
 have bd:∀{p:ϊ cQ},Wk C p->∀w∈p,Hs.Sg w.1:=λh w D=>by
  let#[i,hi,e]:=ÿ.mp D;let#[Y,U,D]:=ai (h i w (by rw[Zl hi,e]));show(am Y U w D).2
 show qj (λm σ j=>(An2 (Same H1 j) (Ex8 λ(sa X:ό) (x:Sd) (u:Nat×Nat) (d:Nat) (I J:ϊ cQ) (o6:ύ V)=>(An10 (StT K j sa x) (jD fz x u) (u.2=m) (j X=!(.tup [.str<|tP I,.str<|tP J])) (Tw C x d I J) (d+u.1=c+k.1) (Ap I J) (↑I+m<=n+k.2) (↑J+m<=n+k.2)<|σ=[!(.ref f),!(.ref oa),!(.ref fa),!(.ref sa),!(.ref X),!(.ref pc),o6])))) k.2 #[gN _,sa,X,x,k,c,I,J,_,t.same s1,hk,rfl,s1.get F,tw,rfl,Z,(),(),rfl] ?_ ?_
 .clear F tw Z l0 l1 t;rintro m σ j N ⟨s,sa,X,x,A,d,I,J,o6,t,M,rfl,F,tw,ed,Z,l0,l1,rfl⟩ hN;have bq:=Mh<|bd tw.1;have sH:=s1.trans s;let#[G,T,ef,ek]:=id M;have ev:dH (cR<|mY fz) (iB x)=!(V.ref G.2.2.1):=by
   rw[<-ef];show jT (zs:=mY fz) (z:=(G.1,G.2.1,G.2.2.1)) (by rw[je];show b.n)<|Zp.mpr #[G,T,rfl]
  have O:H G.2.2.1=!(.tup [.int (A.1:Nat),.int (A.2:Nat)]):=by rw[<-ek];show(b.s G T).2
  apply#[fa,.ref G.2.2.1,rfl,by rw[<-ev];show SGet.of (sH.get b.d) (ag sH) t.a,?_];symm;intro p hp;have B:=sH.new (o:=.tup [.int 0,.int 0]) hp;have sN:=aq (o:=.tup [.int 0,.int 0]) hp;have ep:upd j p (.tup [.int 0,.int 0]) p=!(.tup<|[(0:Int),0].map V.int):=aa;generalize upd j p (.tup [.int 0,.int 0])=H2 at B sN ep⊢;have e3:H2 G.2.2.1=!(.tup<|[(A.1:Int),(A.2:Int)].map V.int):=B.get O;show rNeD.intsT (gL e3) (gL ep) ?_;show#[_,rfl,?_];show nO (λc=>?_) λc=>?_
  .have a3:x∈gz.map (·.2.1):=by
    rcases hD.s x A (.inl M)with h|⟨_,_,_,h,_⟩
    .show h.1.1
    .show h.1
   let#[g,mg,eg]:=Zp.mp a3;let#[_,zs,z1,z2,z3]:=al g mg;have av:dH (cR gz) (iB x)=!(V.ref g.2.2):=by rw[<-eg];show jT a6 mg
   apply#[oa,.ref g.2.2,rfl,by rw[<-av];show SGet.ofR (ay B) (a2 B) (t.same sN).a,?_];apply#[fa,.ref G.2.2.1,rfl,by rw[<-ev];show SGet.of (B.get b.d) (ag B) (t.same sN).a,?_];symm;have ar:∃z∈zs,∃v,jD fz z.2.2.2 v/\A=(v.1+z.2.2.1,v.2+1):=by
    rcases hD.s x A (.inl M)with⟨_,rfl⟩|⟨c',y,v,⟨_,sg,ms⟩,hv,e⟩
    .show absurd rfl c
    .have:(sg,c',y)∈zs.map (·.2):=by rw[z1,show g.2.1=x from eg];show ms
     let#[z,mz,ae]:=Zp.mp this;show#[z,mz,v,by rw[ae];show hv,by rw[ae];show e]
   show#[g.2.2,fa,G.2.2.1,zs,fz,A,rfl,B.get z2,λz mz=>(z3 z mz).same B,#[B.get b.d,λf T=>#[(b.s f T).1.same B,B.get (b.s f T).2],b.n],B.get O,ar,λz mz v hv ab H3 s3=>?_];let#[c',y1,y2]:=(z3 z mz).same<|B.trans s3;have bi:z.2∈Oi ls C x:=by rw[<-show g.2.1=x from eg,<-z1];show Zp.mpr #[z,mz,rfl]
   let#[w,D,ew]:=Zp.mp bi;let#[Y,U,bk]:=ai D;let#[af,be]:=am Y U w bk;have a4:↑w.1<=1:=by
    let#[k,e]:=be;rw[e];show Ã _
   have P:z.2.1=w.1:=by rw[<-ew];rfl
   have aw:z.2.2.1=cst x.2.2 w.2.1:=by rw[<-ew];rfl
   have ax:z.2.2.2=Fy w x.2.1 x.2.2:=by rw[<-ew];rfl
   rw[<-P]at af a4;apply fW y1 ?_;apply fW y1 ?_;symm;let#[lw,bg,ac,ad]:=zM (zs:=S) (s:=z.2.1) (by rw[show S.map (λz:Lz=>(z.2.1,z.2.2.2))=ls from ez];show af);have bl:=B.trans s3;have W:=(s.trans sN).trans s3;show#[pc,.ref lw.2.2.1,rfl,by rw[<-ad];show DGet.k (k:=Sum.inr z.2.1)<|W.get as,?_];apply cj (gL<|bl.get (h4 lw bg).2) ?_;let#[sc,u1,u2]:=(t.same sN).same s3;apply jY u1 ?_;apply cj (gL u2) ?_;symm;have bo:A.2=v.2+1:=by rw[ab]
   have bn:A.1=v.1+z.2.2.1:=by rw[ab]
   show#[X,_,_,z.2.1,_,rfl,s3.get<|sN.get F,(),λr H4 s4 O=>?_];apply jY (s4.get y1) ?_;symm;have t1:=tw.step D;rw[<-aw,<-ax]at t1;rw[Qb,Qb,ac]at O;by_cases cc:↑w.2.1<=↑x.2.2
   .rw [if_neg (by simpa using cc),P,<-jR]at O;rw[if_pos cc,if_pos cc]at t1;show hN v.2 _ _ () #[W.trans s4,c',r,z.2.2.2,v,_,I++[w],J,_,y2.same s4,hv,rfl,O,t1,(),Z.snoc w,by rw[Ë,à];rfl',(),rfl]
   .rw [if_pos (by simpa using cc),P,<-jR]at O;rw[if_neg cc,if_neg cc]at t1;show hN v.2 _ _ () #[W.trans s4,c',r,z.2.2.2,v,_,J,I++[w],_,y2.same s4,hv,rfl,O,t1,(),(Z.snoc w).symm,(),by rw[Ë,à];rfl',rfl]
  .symm;have R:A.1=0/\A.2=0:=by
    have c2:[(A.1:Int),(A.2:Int)]=[0,0]:=by simpa using c
    injection c2 with c3 c4
    injection c4 with c4
    show#[(),()]
   have a1:oG es x=true:=by
    rcases hD.s x A (.inl M)with h|⟨_,_,_,_,_,e⟩
    .show h.1.2
    .rw [e]at R;show absurd R.2<|Nat.succ_ne_zero _
   show q X _ x I J B (sN.get F) ?_ a1 Z () ();rw[<-ed,R.1];show tw
 .show Rb (Zu (Rc K) (λσ H Q Q' hq z=>by
   let#[v,e,w,e',a,u,h1,h2,h3]:=z;show#[v,e,w,e',a,u,h1,h2,hq _ _ h3]) (λσ H Q Q' hq z=>#[z.1,λp hp=>hq _ _<|z.2 p hp]))
noncomputable def stD(st:Sd):PySem.PyData:=.tuple [.int st.1,.int st.2.1,.tuple<|(st.2.2.map λn:Nat=>(n:Int)).map PySem.PyData.int]
theorem Ww(b:Sd):Sh 2 (stD b):=jc λd a=>by
 simp only[Æ,á,ĕ]at a;rcases a with rfl|rfl|rfl
 .show fK 1 _
 .show fK 1 _
 .show jc λd a=>by
   let#[i,_,rfl]:=Zp.mp a;show fK 0 i
theorem ZQ{K:Ϗ}{b:Sd}(h:StT K H a b):Dp K H (.ref a) (stD b):=by
 let#[c,d,e]:=h;show .tup (gL d)<|.cons (.int _)<|.cons (.int _)<|.cons (Dp.intsT<|gL ?_) .nil;rw[e,Ä];rfl
theorem leP.anti(h:leP k l)(g:leP l k):k=l:=by
 let#[a,b]:=k;let#[c,d]:=l;unfold leP at h g;dsimp only at h g;rw[show a=c by rfl',show b=d by rfl']
theorem Dj.le(h:Dj ev B F<|λ_ _=>False)(a:Dj ev B F'<|λ_ _=>False):∀(n:Nat) x k,k.2=n->F x k->∃f,F' x f/\leP f k:=by
 intro n;induction n with
 |zero=>
  intro x k d b;rcases h.s x k (.inl b)with⟨he,rfl⟩|⟨c,y,v,hB,hy,rfl⟩
  .show #[_,(a.e x he).resolve_right id,leP.refl _]
  .cases d
 |succ n ih=>
  intro x k d b;rcases h.s x k (.inl b)with⟨he,rfl⟩|⟨c,y,v,hB,hy,rfl⟩
  .show #[_,(a.e x he).resolve_right id,leP.refl _]
  .obtain ⟨l,e,j⟩:=ih y v (Nat.succ.inj d) hy;let#[u,g,i]:=(a.b c x y l hB e).resolve_right id;show#[u,g,i.trans<|by unfold leP at j⊢;dsimp only;rfl']
theorem Dj.uni(h:Dj ev B F<|λ_ _=>False)(a:Dj ev B F'<|λ_ _=>False)(u:∀x k l,F x k->F x l->k=l){x:Sd}(b:F x k):F' x k:=by
 let#[e,g,i]:=h.le a _ x k rfl b;let#[f,d,c]:=a.le h _ x e rfl g;rw[<-u x k f b d]at c;rw[c.anti i];show g
def LsO(wss:ϊ<|ϊ cQ)(N:Nat)(F:Sd->Nat×Nat->Prop):ύ Nat->Prop
 |none=>∀z∈vI wss<|cY wss N,∀k,¬F (qQ z) k
 |some L=>(∃z∈vI wss<|cY wss N,∃k,F (qQ z) k/\L=Br z+k.1)/\∀z∈vI wss<|cY wss N,∀k,F (qQ z) k->L<=Br z+k.1
theorem LsO.uni{N:Nat}(h:LsO a N F o)(d:LsO a N F o'):o=o':=by
 cases o with
 |none=>
  cases o' with
  |none=>rfl
  |some L=>
   let#[#[z,c,k,b,_],_]:=d;show absurd b<|h z c k
 |some L=>
  let#[#[z,c,k,b,e],j]:=h
  cases o' with
  |none=>show absurd b<|d z c k
  |some L'=>
   let#[#[m,i,l,f,n],g]:=d;have p:=j m i l f;have q:=g z c k b;rw[show L=L' by rfl']
def Told(wss:ϊ<|ϊ cQ)(es:ϊ Int)(L n:Nat)(t0 t1:ϐ):Prop:=∃p0 p1,t0=tP p0/\t1=tP p1/\t0.cps.toList<t1.cps.toList/\(Wk wss p0/\uP p0∈es/\↑p0<=n)/\(Wk wss p1/\uP p1∈es/\↑p1<=n)/\↑(stP p0)=↑(stP p1)/\Mm.bc (stP p0) (stP p1)=L
theorem Rn{x:ϊ Int}{L:Nat}{y:Sd}(t:∀u∈f,∀w∈u,Hs.Sg w.1)(N:Tw f y L p0 p1)(s:oG x y=true)(E:Ap p0 p1)(C:↑p0<=n)(D:↑p1<=n):Told f x L n (if(tP p1).cps.toList<(tP p0).cps.toList then tP p1 else tP p0) (if(tP p0).cps.toList<(tP p1).cps.toList then tP p1 else tP p0):=by
 let#[m,o,K,M,A,e,l,g]:=N;have k:∀{p:ϊ cQ},Wk f p->∀w∈p,Hs.Sg w.1:=λh w j=>by
  let#[i,I,e]:=ÿ.mp j;have j:=h i w (by rw[Zl I,e]);rw[Yf]at j
  cases e:f[(uP<|List.take i _).toNat]?with
  |none=>rw[e]at j;cases j
  |some u=>rw[e]at j;show t u (Wp e) w j
 unfold oG at s;simp only[ā,decide_eq_true_eq]at s;let#[F,q,r]:=s;rw[List.length_eq_zero_iff.mp F,í]at e;rw[<-K]at q;rw[<-M]at r;rw[<-e]at l g;have J:(tP p0).cps.toList≠(tP p1).cps.toList:=λh=>by
  rw[xV<|k m,xV<|k o,lA,lA]at h;let#[i,a,b,z,B,H]:=E;have:=Ö (·[i]?) h;rw[À,À,z,B]at this;have G:oW a=oW b:=Ü this;show H (by rw[jE<|k m a<|Wp z,jE<|k o b<|Wp B,G])
 by_cases c:(tP p0).cps.toList<(tP p1).cps.toList
 .rw [if_neg<|List.lt_asymm c,if_pos c];show#[p0,p1,rfl,rfl,c,#[m,q,C],#[o,r,D],l.symm,g]
 .have v:(tP p1).cps.toList<(tP p0).cps.toList:=Decidable.byContradiction λd=>J<|List.le_antisymm (List.not_lt.mp d)<|List.not_lt.mp c
  rw[if_neg c,if_pos v];show#[p1,p0,rfl,rfl,v,#[o,r,D],#[m,q,C],l,by rw[Mm.ir];show g]
theorem xY(b:ϵ):∀ps:L1S,((aD b ps).map (·.1)).Sublist (ps.map (·.1))
 |[]=>List.Sublist.refl _
 |p::ps=>by
  have a:=xY b ps;unfold aD at a⊢;rw[ĥ]
  cases e:Fo.lk b p.1 with
  |none=>show a.cons _
  |some co=>show a.cons_cons _
noncomputable def Y7(w:cQ):PySem.PyData:=.tuple [.str w.1,.tuple<|(w.2.1.map λn:Nat=>(n:Int)).map PySem.PyData.int,.int w.2.2]
def fkD(z:cQ×cQ×Int):PySem.PyData:=.tuple [.int (Br z:Nat),stD<|qQ z,.int z.2.2,Y7 z.1,Y7 z.2.1]
def yj(c:Nat)(z:cQ×cQ×Int):PySem.PyData:=.tuple [.int (c:Nat),fkD z]
theorem HR(b:ϊ Int)(n:Nat):Sh (n+1) (.tuple<|b.map PySem.PyData.int):=jc λd a=>by
 let#[i,_,rfl]:=Zp.mp a;show fK n i
def Mq{w:cQ}(h:Hs.Sg w.1):Sh 2 (Y7 w):=a2h (Zq 1 h) (HR _ 0)<|fK 1 _
theorem Wx{c:Nat}(b:Hs.Sg z.1.1)(e:Hs.Sg z.2.1.1):Sh 4 (yj c z):=jc λd a=>by
 simp only[Æ,á,ĕ]at a;rcases a with rfl|rfl
 .show fK 3 _
 .show jc λd a=>?_
  simp only[Æ,á,ĕ]at a;rcases a with rfl|rfl|rfl|rfl|rfl
  .show fK 2 _
  .show Ww _
  .show fK 2 _
  .show Mq b
  .show Mq e
theorem qp:∀ns ms:ϊ Int,Nk.CmpDs (ns.map PySem.PyData.int)<|ms.map PySem.PyData.int
 |[],_=>.nil
 |_::_,[]=>.over
 |n::ns,m::ms=>.cons (.int n m)<|qp ns ms
def FT(v w:cQ):Nk.CmpD (Y7 v) (Y7 w):=.tup<|.cons (.str _ _)<|.cons (.tup<|qp _ _)<|.cons (.int _ _) .nil
def Ro(c d:Nat)(y z:cQ×cQ×Int):Nk.CmpD (yj c y) (yj d z):=.tup<|.cons (.int _ _)<|.cons (.tup<|.cons (.int _ _)<|.cons (.tup<|.cons (.int _ _)<|.cons (.int _ _)<|.cons (.tup<|qp _ _) .nil)<|.cons (.int _ _)<|.cons (FT _ _)<|.cons (FT _ _) .nil) .nil
noncomputable def Mr:PySem.PyData->Int
 |.tuple (.int c::_)=>c
 |_=>0
theorem Wy(c d:Nat)(y z:cQ×cQ×Int):(Nk.uB (yj c y) (yj d z)=true->Mr (yj c y)<=Mr (yj d z))/\(Nk.uB (yj c y) (yj d z)=false->Mr (yj d z)<=Mr (yj c y)):=by
 have e:Nk.uB (yj c y) (yj d z)=if PyData.eqv (.int (c:Nat)) (.int (d:Nat))=true then Nk.uC [fkD y] [fkD z]else decide ((c:Int)<(d:Int)):=by
  unfold yj;rw[Nk.uB,Nk.uC,Nk.uB]
 rw[e];change(_->(c:Int)<=(d:Int))/\(_->(d:Int)<=(c:Int));by_cases h:(c:Int)=(d:Int)
 .show #[λ_=>Int.le_of_eq h,λ_=>Int.le_of_eq h.symm]
 .rw [if_neg (by simp[PyData.eqv];rfl')];show#[λh=>Int.le_of_lt (ô h),λh=>Int.not_lt.mp (ĭ h)]
theorem T4{K:Ϗ}{z:Wz}(h:WyT H z):Dp K H (.ref z.1) (Y7 z.2):=by
 let#[c,a,b]:=h;show .tup (gL a)<|.cons (.str _)<|.cons (Dp.intsT<|gL ?_)<|.cons (.int _) .nil;rw[b,Ä];rfl
def ZR{K:Ϗ}{z:Fz}(h:FkA K H z):Dp K H (.ref z.1) (fkD z.2.2.2.2):=.tup (gL h.1)<|.cons (.int _)<|.cons (ZQ h.2.1)<|.cons (.int _)<|.cons (T4 h.2.2.1)<|.cons (T4 h.2.2.2) .nil
inductive fA(K:Ϗ)(vs:ϊ V)(H:Hp)(Q:VK)(E:XK):Prop
 |mk (f d:ό) (h:Nat) (b:ϵ) (a:L2S) (c:ϊ Int) (i:vs=[.ref f,.ref d]) (j:FnF K H f h b) (k:Fo.Wf h b) (l:HsG K H d a c) (m:ZJ b a) (n:(∀ps∈a,(ps.map (·.1)).Nodup)) (o:∀N (S:ϊ Sd) (fz:ϊ Fq),↑(cY (a.map<|aD b) N)<=N->(∀x,x∈S↔Mm.Rch (Ib (a.map<|aD b) N) (Oh<|a.map<|aD b) x)->(fz.map (·.2.1)).Nodup->Dj (Rm c S) (M7 (Oi b<|a.map<|aD b) S) (jD fz) (λ_ _=>False)->(LsO (a.map<|aD b) N (jD fz) none->∀H',Same H H'->Q .non H')/\∀r H' (L:Nat) e g,Same H H'->H' r=!(.tup [.int (L:Nat),.str e,.str g])->LsO (a.map<|aD b) N (jD fz) !L->Told (a.map<|aD b) c L (↑a+↑fz) e g->Q (.ref r) H')
abbrev Ms K:=(az (bH (aQ<|aO vQ (fP K gw)<|tI 0) (aP<|tC V.non) aU)
  (az (aL (gY (uD K)<|cu gw)<|ak 6)
  (az (aL (bG (fI K)<|eN aV<|Ri cF dZ (tX K (tX K jk 1) 1)<|bG (gv K)<|bQ bW<|tX K jk 1)<|ak 7)
  (aP<|dG<|oF (tX K jk 0) (gY (Kl K)<|cu yl)<|gY (Km K)<|cu yl))))
abbrev Mt K:=(az (aL (bG (eS K)<|bQ aV bj)<|ak 3)
  (az (aL (bG (fT K)<|bQ cF<|tX K bj 1)<|ak 4)
  (az (aL (m6 [none,!4] (cB K<|bG (f3 K)<|bQ aV bW) (ak 0) (tB<|Uv (tX K aV 1) bj)<|dG<|bQ (aO bN (tX K aV 0)<|tX K (lQ bj<|tX K aV 1) 0) aV)<|ak 5)
  (Ms K))))
def By K(E:XK)(Eh:XK):=(az (aL (bG (fv K)<|bQ aV bj)<|ak 2)
  (Mt K))
abbrev vd:ϊ ϐ:=sN ["font","house","ways","onward","found","pairs","least","texts"]
theorem WD(h:fA K vs H Q E):RG (By K E) vd vs H Q:=by
 let#[f,ha,h,A,B,es,rfl,hF,wf,hH,sz,bp,q]:=h;show#[E0,?_];unfold By vd sN;have ae:=uW wf sz;let#[as,be,bg,ca]:=id sz;have U:↑(B.map<|aD A)=↑B:=Qb _;have R:∀n∈B.map<|aD A,↑n<=18:=λn a=>by
  let#[ps,W,rfl]:=Zp.mp a;show Ð (Ŀ ..) (bg ps W).1
 have ax:∀n∈B.map<|aD A,∀w∈n,Fo.lk A w.1=!w.2.1:=λn a w t=>by
  let#[ps,W,rfl]:=Zp.mp a;let#[p,mp,ep]:=ó.mp<|show w∈ps.filterMap _ from t;let#[co,bl,rfl]:=Î.mp ep;show bl
 have T:∀n∈B.map<|aD A,∀w∈n,Hs.Sg w.1:=λn a w t=>wf.sg _ (ae n a w t).1.1
 have b0:∀n∈B.map<|aD A,(n.map (·.1)).Nodup:=λn a=>by
  let#[ps,W,rfl]:=Zp.mp a;show(bp ps W).sublist<|xY A ps
 have b6:∀n∈B.map<|aD A,∀w∈n,↑w.1<=1:=λn a w t=>by
  let#[k,e]:=T n a w t;rw[e];show Ã _
 have C:∀{r:Nat}{w:cQ},w∈(B.map<|aD A).getD r []->∃n∈B.map<|aD A,w∈n:=λ{r w} t=>by
  rw[Yf]at t
  cases e:(B.map<|aD A)[r]?with
  |none=>rw[e]at t;cases t
  |some n=>rw[e]at t;show#[n,Wp e,t]
 apply#[f,ha,h,A,B,es,rfl,hF,wf,hH,jb be,λps W=>by have:=(bg ps W).1;show jb this,λwa H1 s1 b9 hW=>?_];apply#[f,ha,h,A,B,es,rfl,hF.same s1,wf,hH.same s1,sz,λoa H2 N gz s2 bv hN e2 hg hl a6 hR=>?_];symm;let#[d,e,rs,a1,a2,a3,a4,a5]:=(hH.same s1).same s2;show dB a1 ?_;apply#[oa,e,gz,Oi A<|B.map<|aD A,es,rfl,.inl e2,λz D=>#[(hg z D).1,(hg z D).2,?_],a6,hl,λz D u mu=>?_,gL a5,λod fa H3 L bb bm b4 I hD=>?_]
 .rw [Qb,Yf]
  cases e:(B.map<|aD A)[z.2.1.1.toNat]?with
  |none=>show â _
  |some n=>show R n<|Wp e
 .show (hR _).mpr<|.step ((hR _).mp<|Zp.mpr #[z,D,rfl]) ?_;let#[w,t,rfl]:=Zp.mp mu;show Zp.mpr #[w,t,rfl]
 let#[qn,qs]:=q N (gz.map (·.2.1)) L hN hR I.n hD;have S3:Same H1 H3:=λb o e=>bb b o (λm=>by rw[Zs.mp m,bv]at e;cases e)<|s2.get e
 have bd:∀z∈gz,StT K H3 z.1 z.2.1/\SsT K H3 z.2.2 (Oi A (B.map<|aD A) z.2.1):=λz D=>by
  have ne:∀{b:ό}{o:HO},H2 b=!o->(∀u,o≠bM oa u)->H3 b=!o:=λ{b o} e hn=>bb.get (λm=>by rw[Zs.mp m,e2]at e;show hn _ (Ü e).symm) e
  let#[#[c,g1,g2],#[zs,k1,k2,k3]]:=hg z D;show#[#[c,ne g1 λu q=>(by cases q),ne g2 λu q=>(by cases q)],zs,k1,ne k2 λu q=>(by cases q),λy my=>?_];let#[c',j1,bk,j2,j3]:=k3 y my;show#[c',ne j1 λu q=>(by cases q),bk,ne j2 λu q=>(by cases q),ne j3 λu q=>(by cases q)]
 have a9:=s1.trans S3;apply#[f,wa,h,A,B.map<|aD A,rfl,hF.same a9,wf,hW.same S3,Ia as U,jb<|qP U be,λn a=>#[by have:=R n a;show jb this,λw t=>#[ax n a w t,by rw[U];show(ae n a w t).2]],λfk H4 M s4 b5 hM ⟨kz,Z,av,am⟩=>?_];rw[Bp hM hN]at Z;have br:↑kz<=100000:=by
  have h1:=uX R<|cY (B.map<|aD A) N;rw[<-Z,Qb]at h1;have S:=dJ (l:=cY (B.map<|aD A) N) (m:=(List.range ↑B).map λi:Nat=>(i:Int)) (gG _ _ N) λr mr=>by
   let#[h0,h1]:=fD (P:=λr:Int=>0<=r/\r<↑B) #[by decide,qd0 as] (λp q' hp hq=>by
    let#[w,t,rfl]:=Zp.mp hq;let#[n,a,t]:=C t;show(ae n a w t).2) N r mr
   show Zp.mpr #[r.toNat,ñ.mpr<|qtC h1 as,Sv h0]
  rw[Qb,ï]at S;rfl'
 have ac:∀z∈kz,z.2.2.2.2∈vI (B.map<|aD A) (cY (B.map<|aD A) N):=λz D=>by rw[<-Z];show Zp.mpr #[z,D,rfl]
 have aw:∀{H':Hp},Same H4 H'->FdT K H' fa L:=λs=>#[s.get<|s4.get I.d,λf mf=>#[((I.s f mf).1.same s4).same s,s.get<|s4.get (I.s f mf).2],I.n]
 symm;walk_at "ns";show xH (λz:Fz=>V.ref z.1) (zs:=kz) (gI av) (jb br) (λi ys H'=>(An2 (Same H4 H') (Ex1 λ(G:ϊ<|ό×Nat×Fz)=>(An4 (ys=G.map (λu=>V.ref u.1)) (↑G<=i) (∀u∈G,H' u.1=!(.tup [.int (u.2.1:Nat),.ref u.2.2.1])/\u.2.2∈kz/\∃k,jD L (qQ u.2.2.2.2.2.2) k/\u.2.1=Br u.2.2.2.2.2.2+k.1) (∀z∈kz.take i,∀k,jD L (qQ z.2.2.2.2) k->∃u∈G,u.2.1=Br z.2.2.2.2+k.1))))) #[gN _,[],rfl,Ã _,by simp,by simp] ?_ ?_ ?_ ?_
 .rintro i ys H' ⟨s,_⟩;show gI<|s.get av
 .rintro i ys H' ⟨_,G,rfl,ad,_⟩;rw[Qb];show ad
 .rintro i z ys H' hi ⟨s,G,rfl,ad,F,J⟩;have D:=Wp hi;let#[f1,f2,_,_]:=(am z D).same s;have ab:=aw s;have ag:∀{H2:Hp},Same H' H2->∀Y:ϊ<|ό×Nat×Fz,Y.length<=1->(∀u∈Y,H2 u.1=!(.tup [.int (u.2.1:Nat),.ref u.2.2.1])/\u.2.2∈kz/\∃k,jD L (qQ u.2.2.2.2.2.2) k/\u.2.1=Br u.2.2.2.2.2.2+k.1)->(∀k,jD L (qQ z.2.2.2.2) k->∃u∈Y,u.2.1=Br z.2.2.2.2+k.1)->(An2 (Same H4 H2) (Ex1 λ(af:ϊ<|ό×Nat×Fz)=>(An4 (G.map (λu=>V.ref u.1)++Y.map (λu=>V.ref u.1)=af.map (λu=>V.ref u.1)) (↑af<=i+1) (∀u∈af,H2 u.1=!(.tup [.int (u.2.1:Nat),.ref u.2.2.1])/\u.2.2∈kz/\∃k,jD L (qQ u.2.2.2.2.2.2) k/\u.2.1=Br u.2.2.2.2.2.2+k.1) (∀z∈kz.take<|i+1,∀k,jD L (qQ z.2.2.2.2) k->∃u∈af,u.2.1=Br z.2.2.2.2+k.1)))):=λ{H2} s2 Y bs h1 S=>by
   show#[s.trans s2,G++Y,by rw[Á],by rw[Ë];show qkT ad bs,λu mu=>?_,λy my k hk=>?_]
   .rcases Ê.mp mu with mu|mu
    .show #[s2.get (F u mu).1,(F u mu).2]
    .show h1 u mu
   .rw [Ò,hi]at my;rcases Ê.mp my with my|my
    .obtain ⟨u,mu,e⟩:=J y my k hk;show#[u,é _ mu,e]
    .have ey:y=z:=by simpa using my
     rw[ey]at hk⊢;let#[u,mu,e]:=S k hk;show#[u,ß _ mu,e]
  apply dB f1 ?_;apply#[fa,_,rfl,SGet.of ab.d (mZ λf mf=>(ab.s f mf).1) f2.a,?_];by_cases m:qQ z.2.2.2.2∈L.map (·.2.1)
  .obtain ⟨O,mf,ef⟩:=Zp.mp m;have ev:dH (cR<|mY L) (iB<|qQ z.2.2.2.2)=!(V.ref O.2.2.1):=by
    rw[<-ef];show jT (zs:=mY L) (z:=(O.1,O.2.1,O.2.2.1)) (by rw[je];show I.n)<|Zp.mpr #[O,mf,rfl]
   rw[show dH (cR<|mY L) (iB<|Fy z.2.2.2.2.1 z.2.2.2.2.2.1.2.2 z.2.2.2.2.2.1.2.1)=!(V.ref O.2.2.1)from ev];show#[true,rfl,?_];rw[if_pos rfl];apply cM (gL f1) (aH (j:=0) (v:=.int (Br z.2.2.2.2:Nat)) (by rfl)) ?_;apply dB f1 ?_;apply#[fa,.ref O.2.2.1,rfl,by rw[<-ev];show SGet.of ab.d (mZ λf mf=>(ab.s f mf).1) f2.a,?_];apply cM (gL (ab.s O mf).2) (aH (j:=0) (v:=.int (O.2.2.2.1:Nat)) rfl) ?_;symm;intro p hp;rw[show((Br z.2.2.2.2:Nat):Int)+((O.2.2.2.1:Nat):Int)=((Br z.2.2.2.2+O.2.2.2.1:Nat):Int)by show rfl];show ag (aq hp _) [(p,Br z.2.2.2.2+O.2.2.2.1,z)] (Ã _) (λu mu=>?_) λk ⟨g,mg,e1,e2⟩=>#[_,Ì,?_]
   .rw [Zs.mp mu];show#[aa,D,O.2.2.2,#[O,mf,ef,rfl],rfl]
   .rw [<-e2,fL I.n mg mf<|e1.trans ef.symm]
  .rw [show dH (cR<|mY L) (iB<|Fy z.2.2.2.2.1 z.2.2.2.2.2.1.2.2 z.2.2.2.2.2.1.2.1)=none from jC (by rw[je];show m)];symm;have:=ag (gN _) [] (â _) (by simp) λk ⟨g,mg,e1,_⟩=>absurd (Zp.mpr #[g,mg,e1]) m
   simpa using this
 rintro ys H5 ⟨s5,G,rfl,ad,F,J⟩ pa a7;rw[Þ]at J;have s6:=s5.new (o:=.lst (G.map λu=>V.ref u.1)) a7;have ai:upd H5 pa (.lst (G.map λu=>V.ref u.1)) pa=!(.lst (G.map λu=>V.ref u.1)):=aa;replace F:∀u∈G,upd H5 pa (.lst (G.map λu=>V.ref u.1)) u.1=!(.tup [.int (u.2.1:Nat),.ref u.2.2.1])/\u.2.2∈kz/\∃k,jD L (qQ u.2.2.2.2.2.2) k/\u.2.1=Br u.2.2.2.2.2.2+k.1:=λu mu=>#[aF a7 (F u mu).1,(F u mu).2]
 generalize upd H5 pa (.lst (G.map λu=>V.ref u.1))=H6 at s6 ai F⊢;have ar:=a9.trans s4;apply cg (gI ai) ?_;rw[Qb];apply fJ (λc=>?_) λc=>?_
 .symm;have bx:G=[]:=List.length_eq_zero_iff.mp<|QD c;show qn (λz D k hk=>?_) _<|ar.trans s6;rw[<-Z]at D;let#[y,my,rfl]:=Zp.mp D;let#[u,mu,_]:=J y my k hk;rw[bx]at mu;cases mu
 symm;have ah:∀z∈kz,Hs.Sg z.2.2.2.2.1.1/\Hs.Sg z.2.2.2.2.2.1.1:=λz D=>by
  let#[_,m1,m2]:=Mi<|ac z D;let#[w1,n1,o1]:=C m1;let#[w2,n2,o2]:=C m2;show#[T w1 n1 _ o1,T w2 n2 _ o2]
 show Rf (us:=G.map λu=>(V.ref u.1,yj u.2.1 u.2.2.2.2.2.2)) Mr (by rw[Ä];show gI ai) (λe=>c (by rw[List.map_eq_nil_iff.mp e];rfl)) (λv mv=>?_) (λv mv w t=>?_) λv mv ay=>?_
 .obtain ⟨u,mu,rfl⟩:=Zp.mp mv;let#[h1,S,_]:=F u mu;have:=Wx (c:=u.2.1) (ah _ S).1 (ah _ S).2;show#[.tup (gL h1)<|.cons (.int _)<|.cons (ZR<|(am _ S).same s6) .nil,this.1,Ð this.2 (by decide)]
 .obtain ⟨u,mu,rfl⟩:=Zp.mp mv;let#[u',a8,rfl]:=Zp.mp t;show#[Ro _ _ _ _,Wy _ _ _ _]
 let#[u,mu,rfl]:=Zp.mp mv;let#[h1,S,k,hk,ek]:=F u mu;let#[g1,g2,g3]:=Mi<|ac _ S;let#[w1,n1,o1]:=C g2;let#[w2,n2,o2]:=C g3;have al:=(am _ S).same s6;apply dB h1 ?_;apply dB al.1 ?_;apply dB h1 ?_;apply#[wa,B.map<|aD A,u.2.2,N,rfl,((hW.same S3).same s4).same s6,(),(),λn a=>#[by have:=R n a;rfl',λw t=>#[T n a w t,by rw[U];show(ae n a w t).2]],al,hN,ac _ S,ZM b0<|ac _ S,λta H7 p0 p1 s7 bn tw ap l0 l1=>?_];symm;have X:=s6.trans s7;show#[f,oa,fa,u.2.2.2.1,ta,h,A,gz,B.map<|aD A,es,L,qQ u.2.2.2.2.2.2,k,_,_,rfl,hF.same<|ar.trans X,wf,.inr #[od,X.get<|s4.get bm],λz D=>#[((bd z D).1.same s4).same X,((bd z D).2.same s4).same X],a6,λn a w t=>#[ax n a w t,T n a w t],aw X,?_,hD,al.2.1.same s7,hk,by rw[U];rfl',#[p0,p1,bn,tw,ap,l0,l1],λr H8 y v0 v1 s8 er b3 bo bi b1 b2=>?_]
 .have:=dJ (l:=L.map (·.2.1)) (m:=gz.map (·.2.1)) I.n λx mx=>by
   let#[g,mg,rfl]:=Zp.mp mx;rcases hD.s g.2.1 g.2.2.2 (.inl #[g,mg,rfl,rfl])with h|⟨_,_,_,h,_⟩
   .show h.1.1
   .show h.1
  rw[Qb,Qb]at this;rfl'
 apply fW (s8.get<|s7.get h1) ?_;apply#[_,_,_,rfl,gL er,?_];apply#[_,_,_,rfl,gL er,?_];symm;intro p hp;show qs p _ u.2.1 _ _ (((ar.trans X).trans s8).new hp) aa #[#[_,ac _ S,k,hk,ek],λz D k' bq=>?_] ?_
 rotate_left
 .have:=xX hD hk;rw[U]at b1 b2;rw[ek];show Rn (λn a w t=>T n a w t) b3 bo bi () ()
 rw[<-Z]at D;let#[y,my,rfl]:=Zp.mp D;let#[u',a8,e']:=J y my k' bq;have:=ay _<|Zp.mpr #[u',a8,rfl];have h9:(u.2.1:Int)<=(u'.2.1:Int):=this;rfl'
inductive f6(K:Ϗ)(vs:ϊ V)(H:Hp)(Q:VK)(E:XK):Prop
 |mk (f d:ό) (h:Nat) (a:ϵ) (b:L2S) (c:ϊ Int) (e:vs=[.ref f,.ref d]) (g:FnF K H f h a) (i:Fo.Wf h a) (j:HsG K H d b c) (k:ZJ a b) (l:(∀ps∈b,(ps.map (·.1)).Nodup)) (m:∀N (S:ϊ Sd) (fz:ϊ Fq),↑(cY (b.map<|aD a) N)<=N->(∀x,x∈S↔Mm.Rch (Ib (b.map<|aD a) N) (Oh<|b.map<|aD a) x)->(fz.map (·.2.1)).Nodup->Dj (Rm c S) (M7 (Oi a<|b.map<|aD a) S) (jD fz) (λ_ _=>False)->(LsO (b.map<|aD a) N (jD fz) none->∀H',Same H H'->Q .non H')/\∀H' (L:Nat),Same H H'->LsO (b.map<|aD a) N (jD fz) !L->Q (.int<|((L:Int)-1)/2) H')
def BJ K(E:XK)(Eh:XK):=(az (aL (bG (fA K)<|bQ aV bj)<|ak 2)
  (az (bH (aQ<|aO kE bW<|tC V.non) (aP<|tC V.non) aU)
  (aP<|aO pH (aO rO (tX K bW 0)<|tI 1)<|tI 2)))
abbrev BK:ϊ ϐ:=sN ["font","house","told"]
theorem WF(h:f6 K vs H Q E):RG (BJ K E) BK vs H Q:=by
 let#[f,t,h,u,l,n,rfl,p,w,s,v,a,q]:=h;show#[E0,?_];unfold BJ BK sN;apply#[f,t,h,u,l,n,rfl,p,w,s,v,a,λN S d g i j e=>#[λo k c=>?_,λr k L x y c m b _=>?_]]
 .symm;show(q N S d g i j e).1 o _ c
 .symm;rw[Ø<|show¬V.ref r=V.non fromλz=>by cases z];apply fW m ?_;apply(q N S d g i j e).2 _ L c b
inductive bS(K:Ϗ)(vs:ϊ V)(H:Hp)(Q:VK)(E:XK):Prop
 |mk (b:Nat) (p:ό) (a:ϊ Nat) (c:vs=[.int b,.ref p]) (d:SqL K H p<|nv a) (e:1<=↑a) (f:↑a<=8) (g:(∀x∈a,x<2^b)) (h:∀t H',Same H H'->H t=none->H' t=!(.tup<|nv a)->Q (.ref t) H')
def BL K(E:XK)(Eh:XK):=(az (bH (eQ<|aQ<|fH jW jW (tI 1) (fP K bj)<|tI 8) cT aU)
  (az (cC (cB K bj) (ak 2)<|bH (eQ<|fB K<|bG (eM K)<|bQ aV bW) cT aU)
  (aP<|gY (ig K)<|cu bj)))
abbrev BP:ϊ ϐ:=sN ["height","columns","column"]
theorem WK(h:bS K vs H Q E):RG (BL K E) BP vs H Q:=by
 let#[b,p,f,rfl,g,k,n,l,q]:=h;show#[E0,?_];unfold BL BP sN;symm;rw[Qb,Ï (by show qd1 k:(1:Int)<=(↑f:Int)),Ï (by rfl':(↑f:Int)<=8),Bool.and_self];apply gn (λi:Nat=>V.int (i:Int)) (zs:=f) g (λi d j=>(An2 (H=j) (Ex1 λo=>d=[!(.int (b:Nat)),!(.ref p),o]))) #[rfl,none,rfl] ?_ ?_ ?_
 .rintro i d _ ⟨rfl,_⟩;show g
 .rintro i c d _ m ⟨rfl,o,rfl⟩;apply#[b,_,rfl,trivial,?_];have e:isc b (.int (c:Int))=true:=by
   have:=l c (Wp m);change(decide ((0:Int)<=(c:Int))&&decide ((c:Int)<2^b))=true;rw[Ï (Oe _),Ï (by rw[<-Bx.ie];show qdT this)];rfl
  rw[e];apply#[rfl,_,rfl]
 .rintro d _ ⟨rfl,o,rfl⟩;apply oR g λt a=>q t _ (aq a _) a aa
inductive eP(K:Ϗ)(vs:ϊ V)(H:Hp)(Q:VK)(E:XK):Prop
 |mk (a:Nat) (p:ό) (b:ϊ Lz) (c:vs=[.int a,.ref p]) (d:1<=a) (e:a<=60) (g:PrL H p b) (h:Fo.GoodL a b) (i:∀f H' ls,Same H H'->FnF K H' f a ls->Fo.Of b ls->Q (.ref f) H')
abbrev Mu K:=(az (cC (cB K bj) (gB K 2<|bf (ak 3)<|bf (ak 4) gK) (az (bH (eQ<|fB K<|bG (fF K)<|cu cF) cT aU)
  (az (bH (tB<|GD cF bW) cT aU)
  (jh bW cF<|bG (bS K)<|bQ aV dZ))))
  (aP<|dG<|bQ aV<|gY (Fd K)<|cu<|oK bW))
def BR K(E:XK)(Eh:XK):=(az (bH (eQ<|fB K<|bG (eW K)<|cu aV) cT aU)
  (az (bH (eQ<|aQ<|fH jW jW (tI 1) (fP K bj)<|tI 40) cT aU)
  (az (aL iQ<|ak 2)
  (Mu K))))
abbrev BV:ϊ ϐ:=sN ["height","letters","made","sign","columns"]
theorem WL(h:eP K vs H Q E):RG (BR K E) BV vs H Q:=by
 let#[P,p,c,rfl,h1,af,T,M,q]:=h;show#[E0,?_];unfold BR BV sN;have hl:=M.le;have ae:=M.pos;have ag:SqL K H p (c.map λz:Lz=>V.ref z.1):=gI T.1;apply#[_,rfl,trivial,?_];have e:hgt (.int (P:Int))=true:=by
  change(decide ((1:Int)<=(P:Int))&&decide ((P:Int)<=60))=true;rw[Ï (qd1 h1),Ï ()];rfl
 rw[e];symm;rw[Qb,Ï (by show qd1 ae:(1:Int)<=(↑c:Int)),Ï (by rfl':(↑c:Int)<=40),Bool.and_self];symm;intro m hm;symm;have o:∀p'∈[m],H p'=none:=λp' ad=>by rw[Zs.mp ad];show hm
 show gn (λz:Lz=>V.ref z.1) (zs:=c) (fj hm (gI T.1)) (λi W I=>(Ex1 λ(a:ϊ Kz)=>(An5 (Sb [m] H I) (I m=!(.dK (dcK a))) (a.map (λk:Kz=>(k.1,k.2.2))=(c.take i).map (λz:Lz=>(z.2.1,z.2.2.2))) (∀k∈a,I k.2.1=!(.tup (nv k.2.2))) (Ex2 λo1 o2=>W=[!(.int (P:Nat)),!(.ref p),!(.ref m),o1,o2])))) #[[],Sb.of (aq hm _),aa,rfl,by simp,none,none,rfl] ?_ ?_ ?_
 .rintro i W I ⟨a,G,_⟩;show gI (G.at o T.1)
 .rintro i ⟨b,s,ca,Y⟩ W I hi ⟨a,G,L,C,U,o1,o2,rfl⟩;have ah:i<↑c:=(Â.mp hi).1;have v:=Wp hi;let#[tz,tc]:=T.2 _ v;have sg:=M.sg _ v;have X:=M.c1 _ v;have cb:=M.cb _ v;dsimp only at tz tc sg X cb;have et:c.take (i+1)=c.take i++[(b,s,ca,Y)]:=by rw[Ò,hi];rfl
  have N:↑a<=i:=by have:=Ö List.length C;rw[Qb,Qb,Ñ]at this;show Yy this
  have O:(Sum.inr s:Key)∉a.map (λk:Kz=>(Sum.inr k.1:Key)):=by
   intro z;let#[y,my,ey]:=Zp.mp z;have J:y.1=s:=İ ey;have m1:(y.1,y.2.2)∈(c.take i).map (λz:Lz=>(z.2.1,z.2.2.2)):=by rw[<-C];show Zp.mpr #[y,my,rfl]
   let#[x,mx,ex]:=Zp.mp m1;have B:((c.take (i+1)).map λz:Lz=>z.2.1).Nodup:=Ĕ ((Đ _ _).map _) M.nd;rw[et,Á,ä]at B;show B.2.2 _ (Zp.mpr #[x,mx,rfl]) s (by simp) ?_;have:=Ö (·.1) ex;dsimp only at this;rw[this,J]
  have hv:bh (dcK a) (Sum.inr s)=none:=fC (f:=λk:Kz=>(Sum.inr k.1:Key)) (g:=λk:Kz=>V.ref k.2.1) O;show cP (gL (G.at o tz)) rfl ?_;apply#[_,rfl,by let#[k,rfl]:=sg;change↑(tx [Hs.xM k])<=100000;rw[cX];simp,?_];rw[zU sg];apply#[m,_,rfl,DGet.k (k:=Sum.inr s) L,?_];rw[hv];symm;change if false=true then _ else _
  apply#[P,ca,Y,rfl,gI (G.at o tc),X.1,X.2,cb,λt H2 A ai J=>?_];apply#[m,_,rfl,DPut.k (k:=Sum.inr s) (A.get L) (Ý (by unfold dcK;rw[Qb];rfl':_<=64) (by decide)),?_];rw[cW _ hv];apply#[a++[(s,t,Y)],(G.same A).set (by simp),by rw[aa];unfold dcK;rw[Á];rfl,by rw[Á,C,et,Á];rfl,λk mk=>?_,_,_,rfl];rcases Ê.mp mk with mk|mk
  .rw [ao (bC (A.get (U k mk)) (A.get L) (by intro q;cases q))];show A.get (U k mk)
  .rw [Zs.mp mk];rw[ao (bC J (A.get L) (by intro q;cases q))];show J
 .rintro W I ⟨a,G,L,C,U,o1,o2,rfl⟩;rw[Þ]at C;have N:↑a=↑c:=by have:=Ö List.length C;rw[Qb,Qb]at this;show this
  have S:=G.off o;apply#[m,a.map λk:Kz=>(k.1,V.ref k.2.1),rfl,by rw[Ä];show L,by rw[Qb];show Yx (qP N hl),λr d H2 hp hs hr A J hw=>?_];apply Vw (gI J) λl ob ac F=>?_
  symm;intro f Z;let#[n,pk,D]:=nR hp;have R:↑d=↑n:=by have:=Ö List.length D;rw[Qb,Qb]at this;show this
  have hz:∀(j:Nat) w k,d[j]?=!w->n[j]?=!k->w.2=(k.1,V.ref k.2.1):=λj w k hj ab=>by
   have:=Ö (λl=>l[j]?) D;simp only[À,hj,ab,Ŝ]at this;show Ü this
  have e4:((d.zip n).map λq=>(q.1.1,q.2.1,q.2.2.1,q.2.2.2):ϊ Lz).map (λz:Lz=>V.ref z.1)=d.map λz=>V.ref z.1:=by
   rw[Ä,show((λz:Lz=>V.ref z.1)∘λq:(ό×ϐ×V)×Kz=>(q.1.1,q.2.1,q.2.2.1,q.2.2.2))=(λw:ό×ϐ×V=>V.ref w.1)∘Prod.fst from rfl,<-Ä,List.map_fst_zip (Τ R)]
  have e5:((d.zip n).map λq=>(q.1.1,q.2.1,q.2.2.1,q.2.2.2):ϊ Lz).map (λz:Lz=>(z.2.1,z.2.2.2))=n.map λk:Kz=>(k.1,k.2.2):=by
   rw[Ä,show((λz:Lz=>(z.2.1,z.2.2.2))∘λq:(ό×ϐ×V)×Kz=>(q.1.1,q.2.1,q.2.2.1,q.2.2.2))=(λk:Kz=>(k.1,k.2.2))∘Prod.snd from rfl,<-Ä,List.map_snd_zip (qP (R.symm) (Ã _))]
  show q f _ (n.map λk:Kz=>(k.1,k.2.2)) (((S.trans A).new F).new Z) #[l,ob,(d.zip n).map λq=>(q.1.1,q.2.1,q.2.2.1,q.2.2.2),aa,e5,ac,by rw[e4];walk_at "hp",λz mz=>?_] #[?_,?_]
  .obtain ⟨y,my,rfl⟩:=Zp.mp mz;let#[j,hj,ej]:=ÿ.mp my;have u:j<↑d/\j<↑n:=by rw[List.length_zip]at hj;rfl'
   rw[List.getElem_zip]at ej;have e6:=hz j d[j] n[j] (Zl u.1) (Zl u.2);subst ej;have w1:=hw _ (Û u.1);rw[e6]at w1;have k1:=U _ (pk.mem_iff.mp (Û u.2));show#[aF Z (aF F w1),aF Z (aF F (A.get k1))]
  .rw [<-C];show pk.map _
  .rw [Ä,show((λp:ϐ×ϊ Nat=>p.1)∘λk:Kz=>(k.1,k.2.2))=λk:Kz=>k.1 from rfl];have:d.map (·.2.1)=n.map λk:Kz=>k.1:=by
    rw[show d.map (·.2.1)=(d.map (·.2)).map (·.1)by rw[Ä];rfl,D,Ä];rfl
   rw[<-this];show hs
inductive eu(K:Ϗ)(vs:ϊ V)(H:Hp)(Q:VK)(E:XK):Prop
 |mk (f:ό) (b:Nat) (a:ϵ) (s:ϐ) (c:ϊ Nat) (d:vs=[.ref f,.str s]) (e:↑s<=100000) (g:FnT K H f b a) (h:(∀p∈a,Hs.Sg p.1)) (i:Fo.lk a s=!c) (j:∀r,H r=none->Q (.ref r) (upd H r (.lst (nv c))))
def BW K(E:XK)(Eh:XK):=(az (bH (fB K<|bG (fF K)<|cu bj) (cC (nY K<|tX K aV 1) (gB K 2<|bf (ak 2)<|bf (ak 3) gK)<|bH (aQ<|aO vQ bW bj) (aP<|gY (j5 K)<|cu cF) aU) aU)
  cT)
abbrev BX:ϊ ϐ:=sN ["font","sign","letter","columns"]
theorem WM(h:eu K vs H Q E):RG (BW K E) BX vs H Q:=by
 let#[f,N,n,s,c,rfl,I,D,m,w,q]:=h;show#[E0,?_];unfold BW BX sN;let#[l,B,L,u,F,A,C]:=D.at;apply#[.str s,rfl,I,?_];rw[zU<|m _<|Fo.cH w];apply cM B (aH (j:=1) (v:=.ref l) rfl) ?_;show sV (λz:Lz=>V.ref z.1) u (λi d x=>(An3 (H=x) (Fo.lk (n.drop i) s=!c)<|Ex2 λo p=>d=[!(.ref f),!(.str s),o,p])) #[rfl,w,none,none,rfl] ?_ ?_ ?_
 .rintro i d _ ⟨rfl,_⟩;show u
 .rintro i ⟨b,J,M,y⟩ d _ g ⟨rfl,e,o,p,rfl⟩;have t:=C _<|Wp g;dsimp only at t;have k:i<↑L:=(Â.mp g).1;have a:n.drop i=(J,y)::n.drop (i+1):=by
   rw[<-A,Ķ<|by simpa using k,ü,(Â.mp g).2]
  rw[a,Fo.gF]at e;apply cP t.1 rfl ?_;apply fJ (λc=>?_) λc=>?_
  .symm;show Hz t.2 λr G=>?_
   rw[if_pos c]at e
   cases e;show q r G
  .symm;show#[rfl,by rw[if_neg c]at e;show e,_,_,rfl]
 .rintro d _ ⟨rfl,e,o,p,rfl⟩;rw[F,List.drop_length]at e
  cases e
inductive bX(K:Ϗ)(vs:ϊ V)(H:Hp)(Q:VK)(E:XK):Prop
 |mk (n:Nat) (a:vs=[.int n]) (b:1<=n) (c:n<=40) (d:Q .non H)
def BZ(K:Ϗ)(E:XK)(Eh:XK):=(bH (eQ<|aQ<|fH jW jW (tI 1) aV<|tI 40) cT aU)
abbrev Ca:ϊ ϐ:=sN ["rooms"]
theorem WN(h:bX K vs H Q E):RG (BZ K E) Ca vs H Q:=by
 let#[n,rfl,a,b,q]:=h;show#[E0,?_];unfold BZ Ca sN;symm;rw[Ï (by show qd1 a:(1:Int)<=n),Ï (by rfl':(n:Int)<=40)];apply q
inductive eK(K:Ϗ)(vs:ϊ V)(H:Hp)(Q:VK)(E:XK):Prop
 |mk (r:Int) (n:Nat) (a:vs=[.int r,.int n]) (b:0<=r) (c:r<n) (d:Q .non H)
def Cd K(E:XK)(Eh:XK):=(bH (eQ<|tK (fB K<|bG (fh K)<|cu aV)<|aQ<|fH jW GQ (tI 0) aV bj) cT aU)
abbrev Ce:ϊ ϐ:=sN ["room","rooms"]
theorem WP(h:eK K vs H Q E):RG (Cd K E) Ce vs H Q:=by
 let#[r,n,rfl,a,b,q]:=h;show#[E0,?_];unfold Cd Ce sN;apply#[_,rfl,trivial,?_];symm;change if true=true then _ else _
 symm;rw[Ï a,Ï b];apply q
inductive dS(K:Ϗ)(vs:ϊ V)(H:Hp)(Q:VK)(E:XK):Prop
 |mk (a:ό) (b:ϊ Dz) (n:Nat) (c:vs=[.ref a,.int n]) (d:SqL K H a (b.map λz:Dz=>V.ref z.1)) (e:(∀z∈b,SqT K H z.1 [.str z.2.1,.int z.2.2]/\Hs.Sg z.2.1/\0<=z.2.2/\z.2.2<n)) (f:(b.map (·.2.1)).Nodup) (g:↑b<64) (h:∀r H' ps,Same H H'->DrT K H' r ps->ps.Perm (b.map (·.2))->(ps.map (·.1)).Pairwise oJ->Q (.ref r) H')
abbrev Mv K:=(az (cC (cB K aV) (gB K 2<|bf (ak 3)<|bf (ak 4) gK) (az (bH (eQ<|fB K<|bG (fF K)<|cu cF) cT aU)
  (az (bH (tB<|GD cF bW) cT aU)
  (az (cL<|bG (eK K)<|bQ dZ bj)
  (jh bW cF dZ)))))
  (aP<|gY (ig K)<|cu<|oK bW))
def Cg K(E:XK)(Eh:XK):=(az (aL iQ<|ak 2)
  (Mv K))
abbrev Ci:ϊ ϐ:=sN ["pairs","rooms","made","sign","room"]
theorem WQ(h:dS K vs H Q E):RG (Cg K E) Ci vs H Q:=by
 let#[a,c,n,rfl,N,hz,F,v,q]:=h;show#[E0,?_];unfold Cg Ci sN;symm;intro m D;symm;have e:∀R∈[m],H R=none:=λR j=>by rw[Zs.mp j];show D
 show gn (λz:Dz=>V.ref z.1) (zs:=c) (fj D N) (λi A o=>(An3 (Sb [m] H o) (o m=!(.dK ((c.take i).map λz:Dz=>((Sum.inr z.2.1:Key),V.int z.2.2))))<|Ex2 λG I=>A=[!(.ref a),!(.int (n:Nat)),!(.ref m),G,I])) #[Sb.of<|aq D _,aa,none,none,rfl] ?_ ?_ ?_
 .rintro i A o ⟨l,_⟩;show l.seq e N
 .rintro i ⟨b,s,r⟩ A o C ⟨l,u,G,I,rfl⟩;have Z:i<↑c:=(Â.mp C).1;let#[X,J,U,W]:=hz _<|Wp C;dsimp only at X J U W;have M:c.take (i+1)=c.take i++[(b,s,r)]:=by rw[Ò,C];rfl
  have w:(Sum.inr s:Key)∉(c.take i).map λz:Dz=>(Sum.inr z.2.1:Key):=by
   intro z;let#[y,my,Y]:=Zp.mp z;have B:y.2.1=s:=İ Y;have d:((c.take<|i+1).map (·.2.1)).Nodup:=Ĕ ((Đ _ _).map _) F;rw[M,Á,ä]at d;show d.2.2 _ (Zp.mpr #[y,my,rfl]) s (by simp) B
  have P:=fC (f:=λz:Dz=>(Sum.inr z.2.1:Key)) (g:=λz:Dz=>V.int z.2.2) w;show cP ((l.off e).tup X) rfl ?_;apply#[_,rfl,by let#[k,rfl]:=J;change↑(tx [Hs.xM k])<=100000;rw[cX];simp,?_];rw[zU J];apply#[m,_,rfl,DGet.k (k:=Sum.inr s) u,?_];rw[P];symm;change if false=true then _ else _
  apply#[r,n,rfl,U,W,?_];apply#[m,_,rfl,DPut.k (k:=Sum.inr s) u<|Ý (by rw[Qb,Ñ];show Y4 (ì v):_<=64)<|by decide,?_];rw[cW _ P];apply#[l.set<|by simp,by rw[aa,M,Á];rfl,_,_,rfl]
 .rintro A o ⟨l,u,G,I,rfl⟩;rw[Þ]at u;have S:=l.off e;apply#[m,c.map λz:Dz=>(z.2.1,V.int z.2.2),rfl,by rw[Ä];show u,by rw[Qb];show v,λr x H2 hp hs hr s2 B hw=>?_];apply oR (gI B) λt O=>?_
  have j:(x.map (·.2)).Perm ((c.map (·.2)).map λp:ϐ×Int=>(p.1,V.int p.2)):=by rw[Ä];show hp
  let#[T,pp,L]:=nR j;show q t _ T ((S.trans s2).new O) (DrT.of aa (λz mz=>aF O<|hw z mz) L) pp ?_;have:(x.map (·.2.1))=T.map (·.1):=by
   rw[show x.map (·.2.1)=(x.map (·.2)).map (·.1)by rw[Ä];rfl,L,Ä];rfl
  rw[<-this];show hs
inductive eL(K:Ϗ)(vs:ϊ V)(H:Hp)(Q:VK)(E:XK):Prop
 |mk (a:ό) (b:ϊ Int) (n:Nat) (c:vs=[.ref a,.int n]) (d:SqL K H a<|b.map V.int) (e:(∀x∈b,0<=x/\x<n)) (f:b.Nodup) (g:↑b<64) (h:∀r H' (es:ϊ Int),Same H H'->H' r=!(.tup<|es.map V.int)->es.Perm b->es.Pairwise (·<·)->Q (.ref r) H')
def Cj K(E:XK)(Eh:XK):=(az (aL iQ<|ak 2)
  (az (cC (cB K aV) (ak 3) (az (cL<|bG (eK K)<|bQ cF bj)
  (az (bH (tB<|GD cF bW) cT aU)
  (jh bW cF<|tC<|V.bl true))))
  (aP<|gY (ig K)<|cu<|gY uo<|cu bW)))
abbrev Ck:ϊ ϐ:=sN ["ends","rooms","made","end"]
theorem WR(h:eL K vs H Q E):RG (Cj K E) Ck vs H Q:=by
 let#[a,c,n,rfl,C,R,w,j,q]:=h;show#[E0,?_];unfold Cj Ck sN;symm;intro m v;symm;have l:∀G∈[m],H G=none:=λG x=>by rw[Zs.mp x];show v
 show gn V.int (zs:=c) (fj v C) (λi s d=>(An3 (Sb [m] H d) (d m=!(.dK ((c.take i).map λz:Int=>((Sum.inl z:Key),V.bl true))))<|Ex1 λA=>s=[!(.ref a),!(.int (n:Nat)),!(.ref m),A])) #[Sb.of<|aq v _,aa,none,rfl] ?_ ?_ ?_
 .rintro i s d ⟨p,_⟩;show p.seq l C
 .rintro i r s d u ⟨p,e,A,rfl⟩;have M:i<↑c:=(Â.mp u).1;let#[U,W]:=R _<|Wp u;have B:c.take (i+1)=c.take i++[r]:=by rw[Ò,u];rfl
  have o:(Sum.inl r:Key)∉(c.take i).map λz:Int=>(Sum.inl z:Key):=by
   intro z;let#[y,T,L]:=Zp.mp z;have I:y=r:=Sum.inl.inj L;have b:(c.take<|i+1).Nodup:=Ĕ (Đ _ _) w;rw[B,ä]at b;show b.2.2 _ T r (by simp) I
  have F:=fC (f:=λz:Int=>(Sum.inl z:Key)) (g:=λ_:Int=>V.bl true) o;apply#[r,n,rfl,U,W,?_];apply#[m,_,rfl,DGet.k (k:=Sum.inl r) e,?_];rw[F];symm;change if false=true then _ else _
  apply#[m,_,rfl,DPut.k (k:=Sum.inl r) e<|Ý (by rw[Qb,Ñ];show Y4 (ì j):_<=64)<|by decide,?_];rw[cW _ F];apply#[p.set<|by simp,by rw[aa,B,Á];rfl,_,rfl]
 .rintro s d ⟨p,e,A,rfl⟩;rw[Þ]at e;have S:=p.off l;apply KQ (kvs:=c.map λz:Int=>(z,V.bl true)) (by rw[Ä];show e) (by rw[Qb];show j) λr J D O N=>?_
  rw[Ä]at D;apply oR (gI aa) λt P=>?_
  show q t _ J ((S.new N).new P) aa (by simpa[Function.comp_def]using D) O
def HsO(cs:ϊ Nat)(ds:L2S)(es:ϊ Int):Prop:=1<=↑ds/\↑ds<=23/\(∀ps∈ds,(ps.map (·.1)).Pairwise oJ/\∀q∈ps,(∃c∈cs,q.1=tx [c])/\0<=q.2/\q.2<(↑ds:Int))/\es.Pairwise (·<·)/\∀e∈es,0<=e/\e<(↑ds:Int)
inductive eC(K:Ϗ)(vs:ϊ V)(H:Hp)(Q:VK)(E:XK):Prop
 |mk (d e:ό) (a:ϊ<|ό×ϊ Dz) (b:ϊ Int) (f:ϊ Nat) (h:vs=[.ref d,.ref e]) (i:SqL K H d (a.map λr:ό×ϊ Dz=>V.ref r.1)) (j:(∀row∈a,SqL K H row.1 (row.2.map λz:Dz=>V.ref z.1)/\(∀z∈row.2,SqT K H z.1 [.str z.2.1,.int z.2.2]/\(∃c∈f,z.2.1=tx [c])/\0<=z.2.2/\z.2.2<↑a)/\(row.2.map (·.2.1)).Nodup/\↑row.2<64)) (k:(∀c∈f,Hs.Sg<|tx [c])) (l:SqL K H e<|b.map V.int) (m:(∀x∈b,0<=x/\x<↑a)) (n:b.Nodup) (o:↑b<64) (p:1<=↑a) (q:↑a<=23) (g:∀r H' ds es,Same H H'->HsT K H' r ds es->HsO f ds es->Q (.ref r) H')
def Cm K(E:XK)(Eh:XK):=(az (aL (fP K aV)<|ak 2)
  (az (cL<|bG (bX K)<|cu bW)
  (aP<|dG<|bQ (gY (ig K)<|cu<|m6 [none,!2] (cB K aV) (ak 0) du<|bG (dS K)<|bQ aV bj)<|bG (eL K)<|bQ bj bW)))
abbrev vf:ϊ ϐ:=sN ["doors","ends","rooms"]
theorem WT(h:eC K vs H Q E):RG (Cm K E) vf vs H Q:=by
 let#[d,e,a,xs,cs,rfl,L,n,O,hE,T,S,R,A,s,q]:=h;show#[E0,?_];unfold Cm vf sN;apply cg L ?_;rw[Qb];apply#[↑a,rfl,A,jb s,?_];apply xH (λr:ό×ϊ Dz=>V.ref r.1) (zs:=a) L (jb s) (λk F u=>(Ex1 λ(g:ϊ<|ό×L1S)=>(An4 (F=g.map (λt=>V.ref t.1)) (↑g=k) (Same H u) (∀(j:Nat) t,g[j]?=!t->DrT K u t.1 t.2/\∀b,a[j]?=!b->t.2.Perm (b.2.map (·.2))/\(t.2.map (·.1)).Pairwise oJ)))) #[[],rfl,rfl,gN _,by simp] ?_ ?_ ?_ ?_
 .rintro k F u ⟨g,rfl,_,D,_⟩;show D.seq L
 .rintro k F u ⟨g,rfl,rfl,_⟩;simp
 .rintro k b F u y ⟨g,rfl,o,D,B⟩;let#[J,v,g3,g4]:=n b<|Wp y;apply#[b.1,b.2,↑a,rfl,D.seq J,λz m=>#[D.tup (v z m).1,by let#[c,mc,e]:=(v z m).2.1;rw[e];show O c mc,(v z m).2.2],g3,g4,λr H2 U X M N hs=>?_];show#[g++[(r,U)],by simp,by simp[o],D.trans X,λj t f=>?_];rcases Nat.lt_or_ge j ↑g with w|w
  .rw [Ĥ w]at f;show#[(B j t f).1.same X,(B j t f).2]
  .rw [ø w]at f;have e0:j-↑g=0:=by
    have:=(Â.mp f).1;simp at this;show this
   rw[e0]at f
   cases f;have I:j=k:=()
   subst I;show#[M,λW l=>?_];rw[y]at l
   cases l;show#[N,hs]
 rintro F H3 ⟨g,rfl,o,Y,B⟩ p N;apply oR (gI aa) λtd P=>?_
 apply#[e,xs,↑a,rfl,fj P<|fj N<|Y.seq hE,T,S,R,λte H5 es Z e5 pe se=>?_];symm;intro h G;have sx:Same H3 H5:=Same.trans (by walk_at "sm") Z;show q h _ (g.map (·.2)) es (Y.trans<|sx.new G) #[td,te,g,aa,rfl,aF G<|Z.get aa,λt m=>?_,aF G e5] #[by rw[Qb,o];show A,by rw[Qb,o];show s,λU C=>?_,se,λi mi=>by rw[Qb,o];show T i<|pe.mem_iff.mp mi]
 .obtain ⟨j,f,I⟩:=ÿ.mp m;show(B j t (by rw[Zl f,I])).1.same<|sx.new G
 .obtain ⟨t,mt,rfl⟩:=Zp.mp C;let#[j,f]:=Ě.mp mt;have x:j<↑a:=by rw[<-o];show(Â.mp f).1
  let#[J,v]:=(B j t f).2 _<|Zl x;show#[v,λw mw=>?_];let#[z,mz,ez]:=Zp.mp<|J.mem_iff.mp mw;rw[Qb,o,<-ez];show((n _<|Û x).2.1 z mz).2
inductive gc(K:Ϗ)(vs:ϊ V)(H:Hp)(Q:VK)(E:XK):Prop
 |mk (a:ϊ Nat) (b:vs=[.str<|tx a]) (d:(∀c∈a,Hs.Sg<|tx [c])) (e:a.Nodup) (f:↑a<64) (g:∀r H' ds es,Same H H'->HsT K H' r ds es->HsO a ds es->Q (.ref r) H')
def Cp K(E:XK)(Eh:XK):=(aP<|bG (eC K)<|bQ (gO<|cu<|m6 [none] (GK aV) (ak 0) du<|dG<|bQ aV<|tI 0)<|gO<|cu<|tI 0)
abbrev vg:ϊ ϐ:=sN ["signs"]
theorem WW(h:gc K vs H Q E):RG (Cp K E) vg vs H Q:=by
 let#[j,rfl,s,o,m,q]:=h;show#[E0,?_];unfold Cp vg sN;apply a2f (jb<|ì m) (λi k g=>(Ex1 λ(f:ϊ Dz)=>(An4 (k=f.map (λz:Dz=>V.ref z.1)) (f.map (·.2)=(j.take i).map (λc=>(tx [c],(0:Int)))) (Same H g) (∀z∈f,g z.1=!(.tup [.str z.2.1,.int z.2.2]))))) #[[],rfl,rfl,gN _,by simp] ?_ ?_ ?_
 .rintro i k g ⟨f,rfl,e,_⟩;have:=Ö List.length e;rw[Qb,Qb,Ñ]at this;rw[Qb];show Yy this
 .rintro i c k g J ⟨f,rfl,e,v,u⟩;symm;intro t A;show#[f++[(t,tx [c],0)],by simp,?_,v.new A,λz mz=>?_]
  .rw [Á,e,Ò,J];simp
  .rcases Ê.mp mz with mz|mz
   .show aF A<|u z mz
   .rw [Zs.mp mz];show aa
 .rintro k w ⟨f,rfl,e,U,u⟩ p M;rw[Þ]at e;symm;intro d L;symm;intro y n;have O:↑f=↑j:=by have:=Ö List.length e;rwa[Qb,Qb]at this
  have C:f.map (·.2.1)=j.map λc=>tx [c]:=by
   have:=Ö (List.map (·.1)) e;rw[Ä,Ä]at this;show this
  have S:Same w (upd (upd (upd w p (.lst (f.map λz:Dz=>V.ref z.1))) d<|.lst [.ref p]) y<|.lst [.int 0]):=((aq M _).new L).new n;show#[d,y,[(p,f)],[0],j,rfl,gI (by walk_at "hp"),λT N=>?_,s,gI aa,λx R=>?_,by simp,by simp,by simp,by simp,λr g B F v G I=>q r g B F ((U.trans S).trans v) G I]
  .rw [Zs.mp N];show#[gI (by walk_at "hp"),λz mz=>#[gL<|S.get<|u z mz,?_],?_,by change↑f<_;rfl']
   .have:z.2∈f.map (·.2):=Zp.mpr #[z,mz,rfl];rw[e]at this;let#[c,P,D]:=Zp.mp this;rw[<-D];show#[#[c,P,rfl],by simp,by change(0:Int)<1;decide]
   .show (f.map (·.2.1)).Nodup;rw[C];show List.Pairwise.map _ (λa b l e=>l (by injection (uH.mp e))) o
  .rw [Zs.mp R];show#[by decide,by change(0:Int)<1;decide]
noncomputable def FW(us:ϊ ϐ):ϊ (Key×V):=us.map λs=>(Sum.inr s,V.bl true)
theorem Cq(s:ϐ):∀us:ϊ ϐ,bh (FW us) (Sum.inr s)=if s∈us then !(.bl true)else none
 |[]=>rfl
 |u::r=>by
  by_cases h:u=s
  .subst h;rw[if_pos Ì];show cJ rfl
  .have:bh (FW (u::r)) (Sum.inr s)=bh (FW r) (Sum.inr s):=c7<|λe=>h<|İ e;rw[this,Cq s r];by_cases m:s∈r
   .rw [if_pos m,if_pos<|Ç _ m]
   .rw [if_neg m,if_neg<|λz=>(Æ.mp z).elim (λe=>h e.symm) m]
theorem WX(s:ϐ)(a:ϊ ϐ):putK (FW a) (Sum.inr s) (.bl true)=FW (if s∈a then a else a++[s]):=by
 by_cases h:s∈a
 .rw [if_pos h];unfold putK;rw[lG,Cq,if_pos h,if_pos<|show(!(V.bl true)).isSome=true from rfl];unfold FW;rw[Ä];show ė ?_;intro t _;change(if(Sum.inr t:Key)=Sum.inr s then((Sum.inr t:Key),V.bl true)else(Sum.inr t,V.bl true))=_;split<;>rfl
 .rw [if_neg h,cW _<|by rw[Cq,if_neg h]];unfold FW;rw[Á];rfl
def BgS(ws:ϊ<|ϊ Nat)(y:ϊ Nat):Prop:=y=[]\/∃w∈ws,y<+:w
structure StS(ws bs:ϊ (ϊ Nat)):Prop where
 up:bs.Pairwise (·<·)
 mem:∀y,y∈bs↔BgS ws y
theorem T5{c:Type}[DecidableEq c]:∀{l m:ϊ c},l.Nodup->(∀x∈l,x∈m)->↑l<=↑m
 |[],m,_,_=>â _
 |x::l,m,hn,hs=>by
  have a:=hs x Ì;let#[d,f]:=î.mp hn;have:=T5 (l:=l) (m:=m.erase x) f λy b=>(List.mem_erase_of_ne<|λ(e:y=x)=>d<|by rw[<-e];show b).mpr<|hs y<|Ç _ b
  rw[ζ a]at this;have:=Ŏ a;rw[ê];rfl'
theorem nU(h:tx a=tx b):a=b:=by
 have:=Ö (λs:ϐ=>s.cps.toList) h;show this
structure FdS(ws:ϊ (ϊ Nat))(us:ϊ ϐ)(w:ϊ Nat)(k:Nat):Prop where
 nd:us.Nodup
 mem:∀y,tx y∈us↔BgS ws y\/∃j,j<=k/\y=w.take j
 le:↑us<=1+(ws.map List.length).sum+k
theorem FdS.put{w:ϊ Nat}{k:Nat}(h:FdS g f w k):FdS g (if tx (w.take<|k+1)∈f then f else f++[tx<|w.take<|k+1]) w (k+1):=by
 by_cases m:tx (w.take<|k+1)∈f
 .rw [if_pos m];show#[h.nd,λy=>#[λz=>?_,λz=>?_],by have:=h.le;rfl']
  .rcases (h.mem y).mp z with z|⟨j,d,e⟩
   .show .inl z
   .show .inr #[j,Sw d _,e]
  .rcases z with z|⟨j,d,e⟩
   .show (h.mem y).mpr<|.inl z
   .by_cases c:j<=k
    .show (h.mem y).mpr<|.inr #[j,c,e]
    .rw [e,show j=k+1 by rfl'];show m
 .rw [if_neg m];show#[List.nodup_append.mpr #[h.nd,by simp,λa i b l e=>m<|by rw[Zs.mp l]at e;rw[<-e];show i],λy=>?_,by rw[Ë];have:=h.le;simp;show qfL (Ő this) rfl];rw[Ê,h.mem,Zs];constructor
  .rintro ((z|⟨j,d,e⟩)|e)
   .show .inl z
   .show .inr #[j,Sw d _,e]
   .show .inr #[k+1,Ã _,nU e]
  .rintro (z|⟨j,d,e⟩)
   .show .inl<|.inl z
   .by_cases c:j<=k
    .show .inl<|.inr #[j,c,e]
    .show .inr<|by rw[e,show j=k+1 by rfl']
theorem FdS.next{c:ϊ<|ϊ Nat}{b:ϊ ϐ}{w:ϊ Nat}(h:FdS c b w ↑w)(d:ϊ Nat):FdS (c++[w]) b d 0:=by
 show#[h.nd,λy=>?_,by rw[Á,List.sum_append];have:=h.le;simp;rfl'];rw[h.mem];constructor
 .rintro ((e|⟨v,mv,p⟩)|⟨j,a,e⟩)
  .show .inl<|.inl e
  .show .inl<|.inr #[v,é _ mv,p]
  .show .inl<|.inr #[w,ß _<|by simp,by rw[e];show List.take_prefix _ _]
 .rintro ((e|⟨v,mv,p⟩)|⟨j,a,e⟩)
  .show .inl<|.inl e
  .rcases Ê.mp mv with mv|mv
   .show .inl<|.inr #[v,mv,p]
   .rw [Zs.mp mv]at p;show .inr #[↑y,p.length_le,(List.prefix_iff_eq_take.mp p)]
  .rw [show j=0 by show qz0 a,List.take_zero]at e;show .inl<|.inl e
theorem FdS.zero(w:ϊ Nat):FdS [] [tx []] w 0:=
 ⟨by simp,λy=>⟨λz=>.inl<|.inl<|nU<|Zs.mp z,λz=>by
  rcases z with(e|⟨v,mv,_⟩)|⟨j,hj,e⟩
  .rw [e];simp
  .cases mv
  .rw [show j=0 by show qz0 hj,List.take_zero]at e;rw[e];simp⟩,by simp⟩
theorem FdS.start{c:ϊ<|ϊ Nat}{b:ϊ ϐ}{v:ϊ Nat}(h:FdS c b v 0)(w:ϊ Nat):FdS c b w 0:=
 ⟨h.nd,λy=>by
  rw[h.mem];constructor
  .rintro (z|⟨j,a,e⟩)
   .show .inl z
   .rw [show j=0 by show qz0 a,List.take_zero]at e;show .inl<|.inl e
  .rintro (z|⟨j,a,e⟩)
   .show .inl z
   .rw [show j=0 by show qz0 a,List.take_zero]at e;show .inl<|.inl e,h.le⟩
theorem xZ:∀(l:ϊ<|ϊ Nat)(i:Nat),((l.take i).map List.length).sum<=(l.map List.length).sum
 |[],i=>by rw[List.take_nil];show Ã _
 |x::l,0=>â _
 |x::l,i+1=>by
  rw[List.take_succ_cons,È,È,Ģ,Ģ];show Ω (xZ l i) _
theorem FdS.sort{c:ϊ ϐ}(h:FdS d c [] 0)(b:a.Perm c)(f:a.Pairwise oJ):∃bs,a=bs.map tx/\StS d bs:=by
 show#[a.map λs:ϐ=>s.cps.toList,by rw[Ä];show(List.map_id a).symm,ĝ.mpr f,λy=>?_];constructor
 .intro m;let#[s,g,rfl]:=Zp.mp m;rcases(h.mem s.cps.toList).mp (b.mem_iff.mp g)with z|⟨j,_,e⟩
  .show z
  .rw [List.take_nil]at e;show .inl e
 .intro z;show Zp.mpr #[tx y,b.mem_iff.mpr<|(h.mem y).mpr<|.inl z,rfl]
def ym(bs:ϊ<|ϊ Nat):ϊ (Key×V):=bs.zipIdx.map λp=>(Sum.inr<|tx p.1,V.int (p.2:Int))
theorem Rp(a:ϊ<|ϊ Nat)(b:ϊ Nat):ym (a++[b])=ym a++[(Sum.inr<|tx b,V.int (↑a:Int))]:=by
 unfold ym;rw[List.zipIdx_append,Á];simp
theorem qt(a:ϊ<|ϊ Nat):↑(ym a)=↑a:=by unfold ym;rw[Qb,List.length_zipIdx]
theorem Rq(h:b∉a):bh (ym a) (Sum.inr<|tx b)=none:=by
 unfold bh;rw[Ź,Į];intro x d;unfold ym at d;let#[#[c,j],f,rfl]:=Zp.mp d;simp only[decide_eq_true_eq];intro e;have:=nU<|İ e;show h<|this▸(List.mem_zipIdx f).2.2▸Û _
theorem vh(i:a.Nodup)(h:a[j]?=!b):bh (ym a) (Sum.inr<|tx b)=!(V.int (j:Int)):=by
 have g:j<↑a:=(Â.mp h).1;have c:a[j]=b:=(Â.mp h).2;unfold bh;have f:(ym a).find? (λl=>decide<|l.1=(Sum.inr (tx b):Key))=!(Sum.inr<|tx b,V.int (j:Int)):=by
  rw[List.find?_eq_some_iff_getElem];show#[by simp,j,by rw[qt];show g,by unfold ym;simp[c],λk m=>?_];unfold ym;simp only[ü,List.getElem_zipIdx,Bool.not_eq_true',decide_eq_false_iff_not];intro e;have d:a[k]=a[j]:=by rw[c];show nU<|İ e
  have:=(ı i).mp d;rfl'
 rw[f];rfl
def kids(bs:ϊ<|ϊ Nat)(i:Nat)(b:ϊ Nat):L1S:=((bs.take i).zipIdx.filter λp=>decide<|p.1≠[]/\p.1.dropLast=b).map λp=>(tx [p.1.getLastD 0],(p.2:Int))
theorem n6(h:a[i]?=!c)(b:ϊ Nat):kids a (i+1) b=kids a i b++(if c≠[]/\c.dropLast=b then[(tx [c.getLastD 0],(i:Int))]else[]):=by
 have e:i<↑a:=(Â.mp h).1;unfold kids;rw[Ò,h,Option.toList_some,List.zipIdx_append,ŕ,Á];congr 1;rw[Ñ,ň<|ì e];by_cases d:c≠[]/\c.dropLast=b
 .rw [if_pos d];simp[d]
 .rw [if_neg d];simp only[List.zipIdx_singleton,ů,Ø d];simp
theorem vm(h:c≠[]/\c.dropLast=b):c=b++[c.getLastD 0]:=by
 let#[a,rfl]:=h;have:=(List.dropLast_concat_getLast a).symm;rw[List.getLastD_eq_getLast?,List.getLast?_eq_some_getLast a];show this
theorem FZ{k:Int}(h:(s,k)∈kids a i b):∃(m c:Nat),k=(m:Int)/\m<i/\s=tx [c]/\a[m]?=!(b++[c]):=by
 unfold kids at h;let#[#[c,m],n,e]:=Zp.mp h;let#[j,l]:=ī.mp n;have d:=ô l;let#[_,f,g]:=List.mem_zipIdx j
 cases e;dsimp only at d;rw[ľ,Ñ]at f;show#[m,c.getLastD 0,rfl,(),rfl,?_];rw[<-vm d];have:=g;simp only[Ŷ,List.getElem_take]at this;rw[this];show Zl ()
theorem G3(g:a.Nodup)(b:ϊ Nat):∀{i:Nat},i<=↑a->((kids a i b).map (·.1)).Nodup
 |0,_=>by simp[kids]
 |i+1,h=>by
  have e:a[i]?=!a[i]:=Zl h;rw[n6 e,Á];have j:=G3 g b (i:=i)<|ì h;by_cases f:a[i]≠[]/\a[i].dropLast=b
  .rw [if_pos f];show ä.mpr #[j,by simp,λx t y l n=>?_];let#[#[s,k],r,rfl]:=Zp.mp t;let#[m,c,_,q,rfl,d]:=FZ r;rw[ż,Zs]at l;subst l;have o:c=a[i].getLastD 0:=by have:=nU n;simpa using this
   rw[o,<-vm f]at d;have p:m<↑a:=by show Ó q<|ì h
   rw[Zl p]at d;have:=(ı g).mp<|Ü d;rfl'
  .rw [if_neg f,ă,í];show j
theorem StS.nd{c:ϊ<|ϊ Nat}(h:StS d c):c.Nodup:=ħ (λ{a b} (z:a<b) (e:a=b)=>by rw[e]at z;show Ř _ z) h.up
theorem StS.init{c:ϊ<|ϊ Nat}(h:StS c a)(m:b∈a):b.dropLast∈a:=by
 show(h.mem _).mpr ?_;rcases(h.mem _).mp m with e|⟨w,mw,p⟩
 .rw [e];show .inl rfl
 .show .inr #[w,mw,(List.dropLast_prefix b).trans p]
theorem G4:∀{a:ϊ<|ϊ Nat}{w:ϊ Nat},w∈a->↑w<=(a.map List.length).sum
 |v::a,w,h=>by
  rw[È,Ģ];rcases Æ.mp h with rfl|h
  .show Χ _ _
  .show Ð (G4 h)<|Nat.le_add_left _ _
theorem yc(a:ϊ<|ϊ Nat)(i:Nat)(b:ϊ Nat):↑(kids a i b)<=i:=by
 unfold kids;rw[Qb];show Ð (Ę _ _)<|by rw[List.length_zipIdx,Ñ];show Nat.min_le_left _ _
theorem vo{a:ϊ<|ϊ Nat}(m:y∈a):a[a.idxOf y]?=!y:=by
 rw[Zl<|List.idxOf_lt_length_of_mem m,List.getElem_idxOf]
theorem StS.short{c:ϊ<|ϊ Nat}(h:StS a c)(g:(a.map List.length).sum<=61)(m:b∈c):↑b<=61:=by
 rcases(h.mem _).mp m with e|⟨w,mw,p⟩
 .rw [e];show â _
 .have d:=p.length_le;have f:↑w<=(a.map List.length).sum:=G4 mw;show Ð d<|Ð f g
theorem WY{l:ϊ<|ϊ Nat}(e:l.Nodup){x:ϊ Nat}(c:l[i]?=!x)(d:l[j]?=!x):i=j:=by
 let#[f,a]:=Â.mp c;let#[g,b]:=Â.mp d;show(ı e).mp<|a.trans b.symm
theorem vp:Txt.slice (tx b) none (!(-1))=tx b.dropLast:=by
 by_cases h:b=[]
 .rw [h];rfl
 .have a:0<↑b:=List.length_pos_iff.mpr h;have:=beq_iff_eq.mp<|PyProof.Rows.slice_closes_to_neg (x:=tx b) (j:= -1) (k:= -1+(↑b:Int)) (by decide) (by change-((↑b:Nat):Int)<= -1;rfl') rfl;rw[this,List.dropLast_eq_take,lA,show(-1+(↑b:Int)-0).toNat=↑b-1 by rfl'];rfl
inductive eE(K:Ϗ)(vs:ϊ V)(H:Hp)(Q:VK)(E:XK):Prop
 |mk (a:ό) (c:ϊ<|ϊ Nat) (d:vs=[.ref a]) (e:SqL K H a<|c.map λw=>V.str<|tx w) (f:(c.map List.length).sum<=22) (g:↑c<=61) (h:(∀r H' bs,Same H H'->H' r=!(.lst<|bs.map λb=>V.str<|tx b)->StS c bs->↑bs<=23->Q (.ref r) H'))
def Cr K(E:XK)(Eh:XK):=(az (aL (Ep [((tC<|V.str<|Str.ofString ""),(tC<|V.bl true))])<|ak 1)
  (az (cC (cB K aV) (ak 2) (cC (Il<|bQ (tI 1)<|aO bN (fP K bW)<|tI 1) (ak 3) (az (jh bj (vV yR bW cO<|dN cF)<|tC<|V.bl true)
  (cL<|bG (bX K)<|cu<|gY K7<|cu bj))))
  (aP<|gY ul<|cu bj)))
abbrev Cu:ϊ ϐ:=sN ["words","found","word","length"]
theorem X3(h:eE K vs H Q E):RG (Cr K E) Cu vs H Q:=by
 let#[a,t,rfl,M,X,hl,q]:=h;show#[E0,?_];unfold Cr Cu sN;symm;intro d G;show#[aa,[(Sum.inr<|tx [],V.bl true)],rfl,by decide,?_];rw[Ol];apply gn (λw:ϊ Nat=>V.str<|tx w) ((aq G _).seq M) (λi l u=>(Ex3 λc C p=>(An5 (u d=!(.dK<|FW c)) (FdS (t.take i) c [] 0) (↑c<=23) (Same H u)<|l=[!(.ref a),!(.ref d),C,p]))) #[[tx []],none,none,aa,FdS.zero [],by decide,aq G _,rfl] ?_ ?_ ?_
 .rintro i l u ⟨c,C,p,B,y,f,S,rfl⟩;show S.seq M
 .rintro i w l u N ⟨c,C,p,B,y,f,S,rfl⟩;have U:i<↑t:=(Â.mp N).1;have L:t.take (i+1)=t.take i++[w]:=by rw[Ò,N];rfl
  have A:((t.take<|i+1).map List.length).sum<=22:=Ð (xZ _ _) X;rw[L,Á,List.sum_append,ż,List.sum_singleton]at A;apply uE (show↑(tx w)<=1000000 from Ð (show↑w<=61 by rfl')<|by decide) ?_;apply Vk ↑w (by change((↑(tx w):Int)+1-1).toNat=↑w;rw[show↑(tx w)=↑w from rfl];rfl') (by change((↑w:Nat):Int)+1<=_;rfl') (by change _<=((↑w:Nat):Int)+1;rfl') (by decide) (by decide) (λk l v=>(Ex2 λc p=>(An5 (v d=!(.dK<|FW c)) (FdS (t.take i) c w k) (↑c<=23) (Same H v)<|l=[!(.ref a),!(.ref d),!(.str<|tx w),p]))) #[c,p,B,y.start w,f,S,rfl] ?_ ?_
  .rintro k l v R ⟨b,Z,m,n,g,D,rfl⟩;apply xK (show↑(tx w)<=1000000 from Ð (show↑w<=61 by rfl')<|by decide) ?_;rw[show((1:Int)+(k:Int))=((k+1:Nat):Int)by show qi1 _,SN R];apply#[d,_,rfl,DPut.k (k:=Sum.inr<|tx<|w.take<|k+1) m<|by unfold FW;rw[Qb];show Ó (show _<200 by show Yx g)<|by decide,?_];have F:Same H (upd v d<|HO.dK<|putK (FW b) (Sum.inr<|tx<|w.take<|k+1)<|V.bl true):=λx o e=>by
    rw[ao λz=>by rw[z,G]at e;cases e];show D x o e
   have j:=n.put;rw[WX]at F⊢;generalize(if tx (w.take<|k+1)∈b then b else b++[tx<|w.take<|k+1])=us3 at j F⊢;apply Vz (Rd.of aa) ?_;have J:↑(FW us3)=↑us3:=by unfold FW;rw[Qb]
   rw[J];symm;have T:=j.le;show#[↑us3,rfl,Ŏ<|(j.mem []).mpr<|.inl<|.inl rfl,(),?_];apply#[us3,_,aa,j,(),F,rfl]
  .rintro l v ⟨b,Z,m,n,g,D,rfl⟩;apply#[b,_,_,m,by rw[L];show n.next [],g,D,rfl]
 .rintro l u ⟨c,C,p,B,y,f,S,rfl⟩;rw[Þ]at y;apply KN (kvs:=c.map λs=>(s,V.bl true)) (by rw[B];unfold FW;rw[Ä];rfl) (by rw[Qb];show Yx f) λr ns I Y W=>?_
  rw[Ä,show(((λx:ϐ×V=>x.1)∘λs:ϐ=>(s,V.bl true))=id)from rfl,List.map_id]at I;let#[O,rfl,P]:=y.sort I Y;apply q r _ O (S.new W) (by rw[aa,Ä];rfl) P (by have:=I.length_eq;rw[Qb]at this;show qP this f)
inductive dA(K:Ϗ)(vs:ϊ V)(H:Hp)(Q:VK)(E:XK):Prop
 |mk (a:ό) (b:ϊ<|ϊ Nat) (c:vs=[.ref a]) (d:SqL K H a<|b.map λw=>V.str<|tx w) (e:↑b<=40) (f:b.Nodup) (g:∀r H',Same H H'->H r=none->H' r=!(.dK<|ym b)->Q (.ref r) H')
def Cv K(E:XK)(Eh:XK):=(az (aL iQ<|ak 1)
  (az (cC (ww K<|cu aV) (gB K 2<|bf (ak 2)<|bf (ak 3) gK)<|jh bj cF bW)
  (aP bj)))
abbrev Cw:ϊ ϐ:=sN ["things","numbers","number","thing"]
theorem X5(h:dA K vs H Q E):RG (Cv K E) Cw vs H Q:=by
 let#[a,f,rfl,A,C,D,q]:=h;show#[E0,?_];unfold Cv Cw sN;symm;intro d j;apply Lf (λw:ϊ Nat=>V.str<|tx w) ((aq j _).seq A) (λi r c=>(Ex2 λl n=>(An3 (c d=!(.dK<|ym<|f.take i)) (Same H c)<|r=[!(.ref a),!(.ref d),l,n]))) #[none,none,aa,aq j _,rfl] ?_ ?_ ?_
 .rintro i r c ⟨l,n,g,S,rfl⟩;show S.seq A
 .rintro i b p r c B ⟨l,n,g,S,rfl⟩ v;show cP (gL aa) rfl ?_;symm;have t:i<↑f:=(Â.mp B).1;have y:f.take (i+1)=f.take i++[b]:=by rw[Ò,B];rfl
  have u:b∉f.take i:=λm=>by
   have:=D;rw[<-Ď (i+1) f,y]at this;have:=(ä.mp (ä.mp this).1).2.2 b m b (by simp);show this rfl
  have s:upd c p (HO.tup [V.int (i:Int),V.str<|tx b]) d=!(.dK<|ym<|f.take i):=aF v g;show#[d,_,rfl,DPut.k (k:=Sum.inr<|tx b) s (by rw[qt,Ñ];show Ó (show _<100 by show Yx<|Y4 C) (by decide)),?_];show#[_,_,by rw[aa,cW _<|Rq u,y,Rp,Ñ,ň<|ì t],λx o e=>?_,rfl];have F:x≠d:=λz=>by rw[z,j]at e;cases e
  rw[ao F,ao (λz:x=p=>by rw[<-z,S x o e]at v;cases v)];show S x o e
 .rintro r c ⟨l,n,g,S,rfl⟩;symm;rw[Þ]at g;show q d c S j g
abbrev Pz:=ό×V×V
noncomputable def ofD(z:Dz):Pz:=(z.1,.str z.2.1,.int z.2.2)
def a2i(n:Nat)(is:ϊ Int):Prop:=is.Nodup/\∀i∈is,0<=i/\i<n
def ofR(r:ό×ϊ Dz):ό×ϊ Pz:=(r.1,r.2.map ofD)
inductive gi(K:Ϗ)(vs:ϊ V)(H:Hp)(Q:VK)(E:XK):Prop
 |mk (a:ό) (b:ϊ<|ϊ Nat) (d:ϊ Nat) (e:vs=[.ref a]) (f:SqL K H a<|b.map λw=>V.str<|tx w) (g:(b.map List.length).sum<=22) (h:↑b<=61) (i:(∀c∈d,Hs.Sg<|tx [c])) (j:(∀w∈b,∀c∈w,c∈d)) (k:∀r H' ds es,Same H H'->HsT K H' r ds es->HsO d ds es->Q (.ref r) H')
abbrev Mw K:=(az (cC (pP bj) (ak 3)<|bH (aQ<|aO yz cF<|tC<|V.str<|Str.ofString "") (cL<|rC K "list" d7 (aO (fu K) bW<|gh bj<|vV yR cF cO<|dN<|RT rP<|tI 1)<|cu<|dG<|bQ (aO vX cF<|RT rP<|tI 1)<|gh bj cF) aU)
  (aP<|bG (eC K)<|bQ bW<|m6 [none,!1] (cB K<|gY (lR K)<|cu aV) (ak 0) du<|gh bj aV))
def Cy K(E:XK)(Eh:XK):=(az (aL (bG (dA K)<|cu<|bG (eE K)<|cu aV)<|ak 1)
  (az (aL (m6 [none] (pP bj) (ak 0) du<|gO gf)<|ak 2)
  (Mw K)))
abbrev qu:ϊ ϐ:=sN ["words","numbers","doors","beginning"]
theorem X6(h:gi K vs H Q E):RG (Cy K E) qu vs H Q:=by
 let#[a,ws,cs,rfl,hA,hs,hl,bd,be,q]:=h;show#[E0,?_];unfold Cy qu sN;apply#[a,ws,rfl,hA,hs,hl,?_]
 .intro rb H1 g S1 eb u ae;apply#[rb,g,rfl,gI eb,jb ae,u.nd,λB H2 S2 ar en=>?_];apply Ra (.inl en) (by rw[qt];show jb ae) (λz M mz A kA=>?_) λW od H3 H4 as bo P ah D ad al a8 ac a1=>?_
  .symm;intro p hp;show kA p hp
  symm;rw[qt]at ad;have a3:=ah.get P;have F:B∉as:=λm=>by rw[(ac B m).1]at P;cases P
  have am:W≠B:=λe=>by rw[e,P]at D;cases D
  have ax:Same H H2:=S1.trans S2;have Y:H B=none:=S1.free ar;have ab:Same H H3:=λx o e=>bo x o (by simp;showλz=>by rw[z,Y]at e;cases e)<|ax x o e
  have ay:Same H H4:=ab.trans ah;have ap:∀p∈B::W::as,H p=none:=by
   intro p hp;rcases Æ.mp hp with rfl|hp
   .show Y
   rcases Æ.mp hp with rfl|hp
   .show ab.free D
   .show ab.free (ac p hp).1
  show Le (.inr #[od,a3]) (λn i σ M=>(Ex2 λ(d:ϊ<|ό×ϊ Dz) (o:ύ V)=>(An7 (Rws M d) (d.map (·.1)=as) (∀(j:Nat) f b,d[j]?=!f->g[j]?=!b->f.2.map (·.2)=kids g i b) (Sb (B::W::as) H M) (M W=!(.lst<|as.map V.ref)) (M B=!(.frz n<|.dK<|ym g))<|σ=[!(.ref a),!(.ref B),!(.ref W),o]))) ?_ ?_ ?_ ?_
  .intro n H5 ag a2;show#[as.map λb=>(b,[]),none,#[by rw[Ä];simpa[Function.comp_def]using al,λf G=>?_],by rw[Ä];simp[Function.comp_def],λj f b G _=>?_,?_,?_,a2,rfl]
   .obtain ⟨b,u,rfl⟩:=Zp.mp G;show#[ag b _ (by simp;showλe=>F<|e▸u) (ac b u).2,by simp]
   .rw [À]at G;let#[b',_,rfl]:=Î.mp G;simp[kids]
   .show λx o nx e=>ag x o (by simp at nx⊢;show nx.1)<|ay x o e
   .show ag W _ (by simpa using am) a1
  .rintro n i σ M ⟨d,o,_,_,_,_,_,e,_⟩;show e
  .rintro n i z σ M hz ⟨d,o,hR,N,hk,sb,ed,v,rfl⟩;let#[b,C,rfl]:∃b,g[i]?=!b/\z=(Sum.inr<|tx b,V.int (i:Int)):=by
    unfold ym at hz;rw[À,List.getElem?_zipIdx]at hz;let#[p,hp,rfl]:=Î.mp hz;let#[b,a6,rfl]:=Î.mp hp;show#[b,a6,by simp]
   symm;by_cases R:b=[]
   .subst R;show jz rfl ?_;apply#[d,_,hR,N,λj f c G hc=>?_,sb,ed,v,rfl];rw[n6 C,if_neg<|λz=>z.1 rfl,í];show hk j f c G hc
   .show V5 (λz=>R<|nU<|V.str.inj z) ?_;symm;have S:=Wp C;have X:↑b<=61:=u.short (Ð hs<|by decide) S;let#[j,O]:=Ě.mp<|u.init S;have T:j<↑g:=(Â.mp O).1;have I:↑d=↑g:=by rw[<-ad,<-N,Qb]
    have r:j<↑d:=by show Ia T I
    have U:d[j]∈d:=Û r;have a5:vW (as.map V.ref) (j:Int)=!(.ref d[j].1):=by
     show aH ?_;rw[<-N,Ä,À,Zl r];rfl
    show xK (show↑(tx b)<=1000000 from Ð X<|by decide) ?_;rw[vp];show#[B,V.int (j:Int),rfl,by rw[<-vh u.nd O];show DGet.r (k:=Sum.inr<|tx b.dropLast)<|.inr #[n,v],?_];show di (gI ed) a5 ?_;have l:=hR.2 _ U;show eO (gI l.1) ?_;apply sW (c:=b.getLastD 0) (show↑(tx b)<=1000000 from Ð X<|by decide) ?_ ?_
    .show vW b (-1)=_;rw[vm #[R,rfl]];simpa using J0 b.dropLast<|b.getLastD 0
    apply#[B,V.int (i:Int),rfl,by rw[<-vh u.nd C];show DGet.r (k:=Sum.inr<|tx b)<|.inr #[n,v],?_];symm;intro t ht;symm;have af:↑d[j].2<=23:=by
     have h1:=Ö List.length<|hk j _ _ (Zl r) O;rw[Qb]at h1;have h2:=yc g i b.dropLast;have h3:=(Â.mp C).1;rfl'
    show jA (aF ht l.1) (by rw[Qb];show jb af) ?_;symm;have ai:=(hR.same<|aq ht<|HO.tup [V.str<|tx [b.getLastD 0],V.int (i:Int)]).app (t:=t) r aa;have bm:W≠d[j].1:=λz=>a8<|by rw[z,<-N];show Zp.mpr #[_,U,rfl]
    have bn:B≠d[j].1:=λz=>F<|by rw[z,<-N];show Zp.mpr #[_,U,rfl]
    show#[d.set j (d[j].1,d[j].2++[(t,tx [b.getLastD 0],(i:Int))]),_,?_,(Fv r _).trans N,λk f c G hc=>?_,(sb.new ht).set<|Ç _<|Ç _<|by rw[<-N];show Zp.mpr #[_,U,rfl],?_,?_,rfl]
    .rw [Á]at ai;show ai
    .rw [n6 C];by_cases ck:k=j
     .subst ck;rw[Ŵ r]at G
      cases G;rw[O]at hc
      cases hc;rw[if_pos #[R,rfl],Á,hk k _ _ (Zl r) O];rfl
     .rw [Κ<|λz=>ck z.symm]at G;rw[if_neg,í]
      .show hk k f c G hc
      .rintro ⟨_,e⟩;rw[<-e]at hc;show ck<|WY u.nd hc O
    .rw [ao bm];show aF ht ed
    .rw [ao bn];show aF ht v
  .rintro n σ M ⟨d,o,hR,N,hk,sb,ed,v,rfl⟩;rw[qt]at hk;symm;have a4:=sb.seq ap hA;show HB (ss:=ws.map tx) (by rw[Ä];show a4) (by rw[Qb];show Yx hl) λrs ns bb a9 bp aw=>?_
   let#[L,rfl]:∃L:ϊ<|ϊ Nat,ns=L.map tx:=#[ns.map λs:ϐ=>s.cps.toList,by rw[Ä];show(List.map_id ns).symm];have bk:∀y,y∈L↔y∈ws:=λy=>by
    have:=a9<|tx y;rw[Zp,Zp]at this;constructor
    .intro m;let#[w,mw,e]:=this.mp #[y,m,rfl];rw[<-nU e];show mw
    .intro m;let#[w,mw,e]:=this.mpr #[y,m,rfl];rw[<-nU e];show mw
   have J:∀y∈L,y∈g:=λy my=>(u.mem y).mpr<|.inr #[y,(bk y).mp my,List.prefix_refl y]
   have Z:L.Nodup:=ħ (λ{a b} z e=>z<|by rw[e])<|ĝ.mp bb;have bi:↑L<=23:=Ð (T5 Z J) ae;show Fp (λy:ϊ Nat=>V.str<|tx y) (zs:=L) (gI<|by rw[aa,Ä];rfl) (jb bi) (λy=>V.int ((g.idxOf y:Nat):Int)) (λk y hy A kA=>?_) λp hp=>?_
   .symm;have bg:g[g.idxOf y]?=!y:=vo<|J y<|Wp hy;show#[B,V.int ((g.idxOf y:Nat):Int),rfl,by rw[<-vh u.nd bg];show DGet.r (k:=Sum.inr<|tx y)<|.inr #[n,aF aw v],?_];show kA
   symm;have I:↑d=↑g:=by rw[<-ad,<-N,Qb]
   have S6:Same M (upd (upd M rs<|HO.lst<|List.map V.str<|List.map tx L) p<|HO.lst<|List.map (λy=>V.int ((g.idxOf y:Nat):Int)) L):=(aq aw _).trans<|aq hp _;have av:∀f∈d,∃(j:Nat)(b:ϊ Nat),d[j]?=!f/\g[j]?=!b/\f.2.map (·.2)=kids g ↑g b:=λf mr=>by
    let#[j,O]:=Ě.mp mr;have T:j<↑g:=by rw[<-I];show(Â.mp O).1
    show#[j,g[j],O,Zl T,hk j f _ O<|Zl T]
   have hG:∀f∈d,(f.2.map (·.2.1)).Nodup/\∀z∈f.2,(∃c∈cs,z.2.1=tx [c])/\0<=z.2.2/\z.2.2<(↑d:Int):=λf mr=>by
    let#[j,b,_,a7,ek]:=av f mr;show#[?_,λz mz=>?_]
    .have:=G3 u.nd b<|Ã _;rw[<-ek,Ä]at this;show this
    .have bl:(z.2.1,z.2.2)∈kids g ↑g b:=by rw[<-ek];show Zp.mpr #[z,mz,rfl]
     let#[m,c,e2,hm,e3,S]:=FZ bl;show#[?_,(),by rw[I];show qoI e2 hm];rw[e3];rcases(u.mem _).mp (Wp S)with e|⟨w,mw,pw⟩
     .show absurd e<|by simp
     .show #[c,be w mw c<|pw.subset<|by simp,rfl]
   have hE:a2i ↑d (L.map λy=>((g.idxOf y:Nat):Int)):=by
    show#[?_,λi mi=>?_]
    .show ĝ.mpr<|List.Pairwise.imp_of_mem (λ{x y} mx my ne e=>ne ?_) Z;have e2:=vo<|J x mx;rw[show g.idxOf x=g.idxOf y by rfl',vo<|J y my]at e2;show(Ü e2).symm
    .obtain ⟨y,my,rfl⟩:=Zp.mp mi;have:=List.idxOf_lt_length_of_mem<|J y my;show#[(),()]
   show#[W,p,d,L.map λy=>((g.idxOf y:Nat):Int),cs,rfl,gI<|by rw[S6.get ed,<-N,Ä];rfl,λf mr=>?_,bd,gI<|by rw[aa,Ä];rfl,hE.2,hE.1,by rw[Qb];rfl',by rw[I];show Ŏ<|(u.mem []).mpr<|.inl rfl,(),λr7 H7 ds es S7 hH hO=>q r7 H7 ds es ((sb.off ap).trans<|S6.trans S7) hH hO];have l:=hR.2 f mr;show#[gI<|S6.get l.1,λz mz=>#[gL<|S6.get<|l.2 z mz,(hG f mr).2 z mz],(hG f mr).1,?_];let#[j,b,_,a7,ek]:=av f mr;have h1:=Ö List.length ek;rw[Qb]at h1;have h2:=yc g ↑g b;rfl'
inductive cK(K:Ϗ)(vs:ϊ V)(H:Hp)(Q:VK)(E:XK):Prop
 |mk (t:ό) (a:vs=[.ref t]) (b:SqT K H t [.int 1]) (c:Q .non H)
def Cz K(E:XK)(Eh:XK):=(az (bH (aQ<|aO vQ (fP K aV)<|tI 0) cT aU)
  (cC (nY K aV) (ak 1)<|bH (eQ<|tK (fB K<|bG (fh K)<|cu bj)<|aQ<|fH jW jW (tI 0) bj<|tI 1000) cT aU))
abbrev CG:ϊ ϐ:=sN ["numbers","number"]
theorem X7(h:cK K vs H Q E):RG (Cz K E) CG vs H Q:=by
 let#[t,rfl,b,q]:=h;show#[E0,?_];unfold Cz CG sN;apply cj b ?_;apply nQ (by simp) ?_;apply sV id (zs:=[V.int 1]) (by rw[List.map_id];show b) (λi a c=>(An2 (c=H)<|Ex1 λ(o:ύ V)=>a=[!(.ref t),o])) #[rfl,none,rfl] ?_ ?_ ?_
 .rintro i a _ ⟨rfl,_⟩;rw[List.map_id];show b
 .rintro i x a _ d ⟨rfl,o,rfl⟩;obtain rfl:x=.int 1:=by simpa using Wp d
  rw[show id (V.int 1)=V.int 1 from rfl];apply#[_,rfl,trivial,?_];symm;change if true=true then _ else _
  apply#[rfl,_,rfl]
 .rintro a _ ⟨rfl,o,rfl⟩;apply q
theorem same_none(s:Same H H')(h:H' p=none):H p=none:=by
 cases e:H p with
 |none=>rfl
 |some o=>rw[s p o e]at h;cases h
def Rr(cs:ϊ Nat)(m:Nat)(rest w later:Int):L1S:=(List.range ↑cs).map λk=>(tx [cs.getD k 0],later+(rest+((k+1:Nat):Int)*w)%(m:Int))
def RwH(H:Hp)(row:ό×ϊ Dz):Prop:=H row.1=!(.lst (row.2.map λz:Dz=>V.ref z.1))/\∀z∈row.2,H z.1=!(.tup [.str z.2.1,.int z.2.2])
theorem RwH.same(h:RwH H row)(s:Same H H'):RwH H' row:=#[s.get h.1,λz m=>s.get<|h.2 z m]
theorem RwH.set{b c:ϊ V}(h:RwH H row)(a:H d=!(.lst b))(n:row.1≠d):RwH (upd H d<|.lst c) row:=#[by rw[ao n];show h.1,λz m=>by rw[ao (λe=>by have:=h.2 z m;rw[e,a]at this;cases this)];show h.2 z m]
theorem G5(b:ϊ Nat)(m:Nat)(rest w a:Int):↑(Rr b m rest w a)=↑b:=by unfold Rr;simp
theorem X8(b:ϊ Nat)(m:Nat)(rest w a:Int):(Rr b m rest w a).map (·.1)=b.map λc=>tx [c]:=by
 show List.ext_getElem (by rw[Qb,G5,Qb]) λi e d=>?_
 rw[Qb]at d;rw[ü,ü];simp only[Rr,ü,List.getElem_range,Yf,Zl d];rfl
theorem sZ{f:ϊ Nat}:(f.map λc=>tx [c]).Nodup↔f.Nodup:=#[λh=>(ĝ.mp h).imp<|λd e=>d<|by rw[e],λh=>List.Pairwise.map _ (λa b d e=>d<|by injection (uH.mp e)) h]
inductive dL(K:Ϗ)(vs:ϊ V)(H:Hp)(Q:VK)(E:XK):Prop
 |mk (b:ϊ Nat) (m:Nat) (rest w a:Int) (c:vs=[.str<|tx b,.int (m:Int),.int rest,.int w,.int a]) (d:1<=m) (e:↑b<=1000) (f:0<=w) (g:w<=1000) (h:∀(p:ό)(H':Hp)(zs:ϊ Dz),H p=none->Same H H'->H' p=!(.lst (zs.map λz:Dz=>V.ref z.1))->(∀z∈zs,H' z.1=!(.tup [.str z.2.1,.int z.2.2]))->zs.map (·.2)=Rr b m rest w a->Q (.ref p) H')
def CJ K(E:XK)(Eh:XK):=(aP<|m6 [none,none,!4,!2,!3,!1] (yZ (cu aV)<|cu<|tI 1) (gB K 2<|bf (ak 0)<|bf (ak 1) gK) du<|dG<|bQ bj<|aO bN bW<|aO dh (aO bN cF<|aO ik aV dZ) gw)
abbrev vq:ϊ ϐ:=sN ["signs","many","rest","number","later"]
theorem Xa(h:dL K vs H Q E):RG (CJ K E) vq vs H Q:=by
 let#[j,m,rest,w,a,rfl,C,k,x,y,q]:=h;show#[E0,?_];unfold CJ vq sN;apply Zt (o:=1) (by decide) (jb k) (λi g f=>(Ex1 λ(b:ϊ Dz)=>(An4 (g=b.map (λz:Dz=>V.ref z.1)) (b.map (·.2)=(Rr j m rest w a).take i) (Same H f) (∀z∈b,f z.1=!(.tup [.str z.2.1,.int z.2.2]))))) #[[],rfl,rfl,gN _,by simp] ?_ ?_ ?_
 .rintro i g f ⟨b,rfl,e,_⟩;have:=Ö List.length e;rw[Qb,Ñ]at this;rw[Qb];show Yy this
 .rintro i c D g f r ⟨b,rfl,e,A,n⟩ d;have v:i<↑j:=(Â.mp r).1;show cP (gL aa) rfl ?_;symm;intro t s;show#[b++[(t,tx [c],a+(rest+((i+1:Nat):Int)*w)%(m:Int))],by simp,?_,(A.new d).new s,λz mz=>?_]
  .rw [Á,e,Ò];congr 1;unfold Rr;rw[À,ŭ v];change[(tx [c],_)]=[(tx [j.getD i 0],_)];rw[Yf,r];rfl
  .rcases Ê.mp mz with mz|mz
   .show aF s<|aF d<|n z mz
   .rw [Zs.mp mz];show aa
 .rintro g B ⟨b,rfl,e,u,n⟩ p l;rw[è<|by rw[G5];show Ã _]at e;show q p _ b (same_none u l) (Same.new u l) aa (λz mz=>aF l<|n z mz) e
def RowS(cs:ϊ Nat)(m:Nat)(zs:ϊ Dz):Prop:=zs.map (·.2.1)=cs.map (λc=>tx [c])/\∀z∈zs,0<=z.2.2/\z.2.2<(m:Int)
theorem RowS.of{c:ϊ Dz}{rest:Int}(h:1<=m)(e:c.map (·.2)=Rr a m rest 1 0):RowS a m c:=by
 show#[?_,λz f=>?_]
 .have:=Ö (List.map (·.1)) e;rw[X8,Ä]at this;show this
 .have b:z.2∈Rr a m rest 1 0:=by rw[<-e];show Zp.mpr #[z,f,rfl]
  let#[k,g,d]:=Zp.mp b;rw[<-d];change 0<=0+(rest+((k+1:Nat):Int)*1)%(m:Int)/\0+(rest+((k+1:Nat):Int)*1)%(m:Int)<_;rw[Int.zero_add];show#[Int.emod_nonneg _ (),ź _ ()]
inductive gg(K:Ϗ)(vs:ϊ V)(H:Hp)(Q:VK)(E:XK):Prop
 |mk (a:ϊ Nat) (m:Nat) (b:vs=[.str<|tx a,.int m,.non]) (d:TupK K bJ [.int 1]) (e:(∀c∈a,Hs.Sg<|tx [c])) (f:a.Nodup) (g:↑a<64) (h:1<=m) (i:m<=23) (j:∀r H' ds es,Same H H'->HsT K H' r ds es->HsO a ds es->Q (.ref r) H')
abbrev Mx K:=(az (cC (eG<|cu<|fP K cF) (ak 5) (az (aL (aO ik (aO dh (aO bN gw<|tI 1)<|fP K cF) bj)<|ak 6)
  (cL<|rC K "list" jK dZ<|cu<|m6 [none,!0,!1,!3,!5,!6] (eG<|cu bj) (ak 0) du<|bG (dL K)<|eN bj<|Ri bW aV (aO (jV K) cF dZ) gw)))
  (aP<|bG (eC K)<|bQ dZ<|m6 [none,!1] (eG<|cu<|fP K cF) (ak 0) du<|aO ik aV bj))
abbrev My K:=(az (bH (eQ<|tK (fB K<|bG (fh K)<|cu bj)<|aQ<|aO Ur bj<|tI 1) cT aU)
  (az (cL<|bG (cK K)<|cu cF)
  (az (cL<|bG (bX K)<|cu<|aO ik bj<|fP K cF)
  (az (aL (gO gf)<|ak 4)
  (Mx K)))))
def CK K(E:XK)(Eh:XK):=(az (aL (XM (aQ<|aO kE bW<|tC V.non) (tC<|V.ref bJ) bW)<|ak 3)
  (My K))
abbrev nj:ϊ ϐ:=sN ["signs","many","wheel","numbers","doors","turn","later"]
theorem Xb(h:gg K vs H Q E):RG (CK K E) nj vs H Q:=by
 let#[D,m,rfl,C,U,R,ac,w,ab,q]:=h;show#[E0,?_];unfold CK nj sN;apply#[_,rfl,trivial,?_];symm;change if true=true then _ else _
 apply jz () ?_;apply#[bJ,rfl,C.sq,?_];apply cj C.sq ?_;apply#[m,by change[V.int<|(m:Int)*1]=_;rw[Int.mul_one],w,(),?_];symm;intro d P;apply cj (Fi P C.sq) ?_;apply kJ 1 rfl (by decide) (by decide) (λi σ o=>(Ex3 λ(y:ϊ<|ό×ϊ Dz) (Y Z:ύ V)=>(An5 (o d=!(.lst (y.map λr=>V.ref r.1))) (Same H o) (↑y=i*m) (∀a∈y,a.1≠d/\RwH o a/\RowS D m a.2)<|σ=[!(.str<|tx D),!(.int (m:Int)),!.non,!(.ref bJ),!(.ref d),Y,Z]))) #[[],_,_,aa,aq P _,by simp,by simp,rfl] ?_ ?_
 .rintro i σ G hi ⟨y,Y,Z,k,s1,n,l,rfl⟩;obtain rfl:i=0:=()
  apply cj C.sq ?_;show KY (m:=0) (by decide) (by decide) ?_;symm;walk_at "ns";show eO (gI k) ?_;apply Hy m (Ô _) () () (λr L o=>(Ex1 λ(g:ϊ<|ό×ϊ Dz)=>(An4 (L=g.map (λa=>V.ref a.1)) (↑g=r) (Same G o) (∀a∈g,a.1≠d/\RwH o a/\RowS D m a.2)))) #[[],rfl,rfl,gN _,by simp] ?_ ?_ ?_
  .rintro r L o ⟨g,rfl,rfl,_⟩;simp
  .rintro r L o hr ⟨g,rfl,s,J,f⟩;apply cM C.sq (v:=.int 1) (aH (j:=0) rfl) ?_;apply#[D,m,r,1,0,by simp,w,(),by decide,by decide,λp M zs F B T W ez=>?_];show#[g++[(p,zs)],by simp,by simp[s],J.trans B,λa mr=>?_];rcases Ê.mp mr with mr|mr
   .show #[(f a mr).1,(f a mr).2.1.same B,(f a mr).2.2]
   .rw [Zs.mp mr];show#[λe=>?_,#[T,W],RowS.of w ez];rw[show p=d from e,J.get k]at F
    cases F
  .rintro L M ⟨g,rfl,s,B,f⟩ p F;apply lW (aF F<|B.get k) aa (by rw[Qb,Qb,n,s];rfl') ?_;symm;have S:Same M (upd M p (.lst (g.map λa=>V.ref a.1))):=aq F _;have e3:=S.get<|B.get k;show#[y++g,_,_,by rw[aa,Á],λb u O=>?_,by rw[Ë,n,s];rfl',λa mr=>?_,rfl]
   .rw [ao (λe=>by rw[e,P]at O;cases O)];show S b u<|B b u<|s1 b u O
   .rcases Ê.mp mr with mr|mr
    .show #[(l a mr).1,(((l a mr).2.1.same B).same S).set e3 (l a mr).1,(l a mr).2.2]
    .show #[(f a mr).1,((f a mr).2.1.same S).set e3 (f a mr).1,(f a mr).2.2]
 .rintro σ G ⟨y,Y,Z,k,s1,n,l,rfl⟩;rw[Nat.one_mul]at n;apply cj C.sq ?_;apply Zb 1 rfl (by decide) (by decide) (λt=>V.int ((t*m:Nat):Int)) (λt ht A kA=>?_) λe he=>?_
  .symm;rw[<-Int.natCast_mul];show kA
  have S:Same G (upd G e (.lst ((List.range 1).map λt=>V.int ((t*m:Nat):Int)))):=aq he _;show#[d,e,y,[0],D,rfl,gI<|S.get k,λa mr=>?_,U,gI (by rw[aa];simp),λx mx=>?_,by simp,by simp,(),(),λr o ds es J hH hO=>q r o ds es ((s1.trans S).trans J) hH hO]
  .obtain ⟨_,I,N,W⟩:=l a mr;replace I:=I.same S;show#[gI I.1,λz X=>#[gL<|I.2 z X,?_,by rw[n];show W z X],by rw[N];show sZ.mpr R,?_]
   .have:z.2.1∈a.2.map (·.2.1):=Zp.mpr #[z,X,rfl];rw[N]at this;let#[c,mc,ec]:=Zp.mp this;show#[c,mc,ec.symm]
   .have:=Ö List.length N;rw[Qb,Qb]at this;rfl'
  .rw [Zs.mp mx];show#[by decide,()]
theorem Xc(h:gg K vs H Q E):↑vs=3:=by
 let#[_,_,rfl,_]:=h;rfl
def kO(xs:ϊ Nat)(x:Nat)(ls:ϵ):ϊ (ϐ×Nat):=ls.filterMap λp=>if x+↑p.2<=↑xs then !(p.1,Mm.bc p.2<|(xs.drop x).take ↑p.2)else none
noncomputable def Mz(gs:ϊ<|ϐ×Nat):ϊ (Key×V):=gs.map λp=>(Sum.inr p.1,V.int (p.2:Nat))
theorem yd(a:ϊ Nat)(x:Nat)(b:ϵ)(p:ϐ×ϊ Nat):kO a x (b++[p])=kO a x b++(if x+↑p.2<=↑a then[(p.1,Mm.bc p.2<|(a.drop x).take ↑p.2)]else[]):=by
 unfold kO;rw[List.filterMap_append];congr 1;rw[ĥ,List.filterMap_nil];split<;>simp_all
theorem G6(h:s∉a.map (·.1)):s∉(kO d x a).map (·.1):=λm=>by
 let#[q,c,rfl]:=Zp.mp m;let#[p,b,e]:=ó.mp c;split at e
 .cases e;show h<|Zp.mpr #[p,b,rfl]
 .cases e
inductive fr(K:Ϗ)(vs:ϊ V)(H:Hp)(Q:VK)(E:XK):Prop
 |mk (f p:ό) (h x:Nat) (b:ϵ) (a:ϊ Nat) (c:vs=[.ref f,.ref p,.int x]) (d:FnT K H f h b) (e:Fo.Wf h b) (g:SqL K H p<|nv a) (i:↑a<=1000) (j:x<=↑a) (k:∀r H',Same H H'->H r=none->H' r=!(.dK<|Mz<|kO a x b)->Q (.ref r) H')
def CN K(E:XK)(Eh:XK):=(az (aL iQ<|ak 3)
  (az (cC (nY K<|tX K aV 1) (gB K 2<|bf (ak 4)<|bf (ak 5) gK) (az (aL (vV (vY K) bj (dN bW)<|dN<|aO bN bW<|fP K gw)<|ak 6)
  (bH (aQ<|aO vQ (fP K jk)<|fP K gw) (jh cF dZ<|bG (gu K)<|bQ gw jk) aU)))
  (aP cF)))
abbrev CP:ϊ ϐ:=sN ["font","strip","x","gaps","sign","columns","beneath"]
theorem Xd(h:fr K vs H Q E):RG (CN K E) CP vs H Q:=by
 let#[f,p,h,x,c,j,rfl,hF,U,hP,ad,hx,q]:=h;show#[E0,?_];unfold CN CP sN;have M:(c.map (·.1)).Nodup:=U.up.imp λL e=>by subst e;show Ř _ L
 let#[l,zs,t1,A,t3,t4]:=id hF;have O:↑zs=↑c:=by rw[<-A,Qb]
 have J:=U.le;symm;intro r C;apply dB (aF C t1) ?_;have t:∀Z∈[r],H Z=none:=λZ N=>by rw[Zs.mp N];show C
 show sV (λz:Lz=>V.ref z.1) ((aq C _).tup t3) (λi F w=>(An3 (Sb [r] H w) (w r=!(.dK<|Mz<|kO j x<|c.take i)) (Ex3 λP R T=>F=[!(.ref f),!(.ref p),!(.int (x:Nat)),!(.ref r),P,R,T]))) #[Sb.of<|aq C _,aa,none,none,none,rfl] ?_ ?_ ?_
 .rintro i F w ⟨v,_⟩;show(v.off t).tup t3
 .rintro i ⟨za,s,ca,b⟩ F w X ⟨v,y,P,R,T,rfl⟩;have S:=v.off t;have mz:=Wp X;let#[u1,D]:=t4 _ mz;dsimp only at u1 D;have u:c[i]?=!(s,b):=by rw[<-A,À,X];rfl
  have c1:=U.c1 _<|Wp u;dsimp only at c1;have ac:i<↑c:=(Â.mp u).1;have n:c.take (i+1)=c.take i++[(s,b)]:=by rw[Ò,u];rfl
  have I:↑(kO j x<|c.take i)<=40:=Ð (Ŀ ..) (by rw[Ñ];show Y4 J);show cP (gL<|S.get u1) rfl ?_;apply cj (gL<|S.get D) ?_;rw[Qb];symm;rw[show(x:Int)+(↑b:Int)=((x+↑b:Nat):Int)by show rfl];show xJ (S.seq hP) λbe a=>?_
  rw[Fj (Oe _)<|Oe<|_+_,Ô,Ô,show((nv j).take<|x+↑b).drop x=nv ((j.drop x).take ↑b)by
    rw[nv,nv,List.drop_take,ψ,ŀ,List.map_drop]]
  have ab:↑((j.drop x).take ↑b)=min ↑b (↑j-x):=by rw[Ñ,ú]
  have B:s∉(c.take i).map (·.1):=by
   have W:((c.take<|i+1).map (·.1)).Nodup:=Ĕ ((Đ _ _).map _) M;rw[n,Á,ä]at W;showλm=>W.2.2 s m s (by simp) rfl
  apply cg (gI aa) ?_;rw[Qb];apply cj (gL<|aF a<|S.get D) ?_;rw[Qb];apply fJ (λd=>?_) λd=>?_
  .have o:x+↑b<=↑j:=()
   apply#[ca,be,b,(j.drop x).take ↑b,rfl,gL<|aF a<|S.get D,by first|show gI aa|show .inl<|gI aa,QD<|d.symm,(),λH2 s2=>?_];symm;have G:=s2.get<|aF a y;have hv:bh (Mz<|kO j x<|c.take i) (Sum.inr s)=none:=fC (f:=λp:ϐ×Nat=>(Sum.inr p.1:Key)) (g:=λp:ϐ×Nat=>V.int (p.2:Nat)) λm=>by
    let#[p,Y,e]:=Zp.mp m;show G6 B<|Zp.mpr #[p,Y,İ e]
   show#[r,_,rfl,DPut.k (k:=Sum.inr s) G (Ý (by unfold Mz;rw[Qb];show I:_<=40) (by decide)),?_];rw[cW _ hv];apply#[(v.same<|(aq a _).trans s2).set (by simp),?_,_,_,_,rfl];rw[aa,n,yd,if_pos o];unfold Mz;rw[Á];rfl
  .have o:¬x+↑b<=↑j:=()
   apply#[v.new a,?_,_,_,_,rfl];rw[n,yd,if_neg o,í];show aF a y
 .rintro F w ⟨v,y,P,R,T,rfl⟩;rw[è<|qP (O.symm)<|Ã _]at y;apply q r w (v.off t) C y
noncomputable def jF(gs:ϊ<|ϐ×Nat)(s:ϐ):ύ Nat:=(gs.find? λp=>decide<|p.1=s).map (·.2)
theorem CQ(s:ϐ):∀gs:ϊ<|ϐ×Nat,bh (Mz gs) (Sum.inr s)=(jF gs s).map λg=>V.int (g:Nat)
 |[]=>rfl
 |p::r=>by
  have a:=CQ s r;by_cases h:p.1=s
  .subst h;unfold jF;rw[Ž<|by simp];unfold Mz bh;simp
  .unfold jF at a⊢;rw[ž<|by simpa using h,<-a];unfold Mz bh;rw[È,ž<|by simpa using h]
theorem CT{g:Nat}(i:(d.map (·.1)).Nodup)(h:Fo.lk d s=!co)(n:jF (kO t x d) s=!g):x+↑co<=↑t:=by
 unfold jF at n;let#[q,k,rfl]:=Î.mp n;have m:=ē k;have e:q.1=s:=by have:=Δ k;simpa using this
 let#[p,c,f]:=ó.mp m;split at f
 .rename_i b
  cases f;have z:=Fo.cH h;have:p=(s,co):=by
   let#[j,o]:=p;have u:j=s:=e;subst u;have:∀l:ϵ,(l.map (·.1)).Nodup->(j,o)∈l->(j,co)∈l->o=co:=λl=>by
    induction l with
    |nil=>intro _ h;cases h
    |cons y r ih=>
     intro a v w;rw[È,î]at a;rcases Æ.mp v with h3|h3<;>rcases Æ.mp w with h4|h4
     .rw [<-h3]at h4;cases h4;rfl
     .rw [<-h3]at a;show absurd (Zp.mpr #[_,h4,rfl]) a.1
     .rw [<-h4]at a;show absurd (Zp.mpr #[_,h3,rfl]) a.1
     .show ih a.2 h3 h4
   rw[this d i c z]
  rw[this]at b;show b
 .cases f
theorem HS(h:s∉a.map (·.1)):jF a s=none:=by
 unfold jF;rw[Į.mpr λp b=>by simpa using λe=>h<|Zp.mpr #[p,b,e]];rfl
theorem lY{b:ϊ Nat}{x:Nat}:∀{ls:ϵ},(ls.map (·.1)).Nodup->jF (kO b x ls) s=(Fo.lk ls s).bind λco=>if x+↑co<=↑b then !(Mm.bc co<|(b.drop x).take ↑co)else none
 |[],_=>rfl
 |p::r,hnd=>by
  rw[È,î]at hnd;rw[Fo.gF];have c:kO b x (p::r)=(if x+↑p.2<=↑b then[(p.1,Mm.bc p.2<|(b.drop x).take ↑p.2)]else[])++kO b x r:=by
   unfold kO;rw[ĥ];split<;>simp_all
  rw[c];by_cases e:p.1=s
  .subst e;rw[if_pos rfl];by_cases a:x+↑p.2<=↑b
   .rw [if_pos a];unfold jF;rw[List.singleton_append,Ž<|by simp];simp[a]
   .rw [if_neg a,List.nil_append,HS<|G6 hnd.1];simp[a]
  .rw [if_neg e,<-lY hnd.2];by_cases a:x+↑p.2<=↑b
   .rw [if_pos a];unfold jF;rw[List.singleton_append,ž<|by simpa using e]
   .rw [if_neg a,List.nil_append]
noncomputable def gr(p:ϳ):ϊ Nat:=(p.map (·.2.1)).flatten
def PT(wss:ϲ)(es:ϊ Int):Nat->Nat->Nat->ϲ
 |_,0,room=>if(room:Int)∈es then[[]]else[]
 |0,_+1,_=>[]
 |n+1,k+1,room=>(wss.getD room []).flatMap λw=>if↑w.2.1<=k+1 then(PT wss es n (k+1-↑w.2.1) w.2.2.toNat).map (w::·)else[]
theorem lZ{c:L1S}(m:w∈aD d c):Fo.lk d w.1=!w.2.1/\(w.1,w.2.2)∈c:=by
 let#[p,b,e]:=ó.mp<|show w∈c.filterMap _ from m;let#[f,a,rfl]:=Î.mp e;show#[a,b]
theorem vy{a:ϵ}(b:room<↑ds):(ds.map<|aD a).getD room []=aD a ds[room]:=by
 rw[Yf,À,Zl b];rfl
theorem MF(a:Nat):wss.getD a []=[]\/wss.getD a []∈wss:=by
 by_cases b:a<↑wss
 .right;rw[Yf,Zl b];show Û b
 .left;rw[Yf,ę<|V2 b];rfl
def ThP(H:Hp)(v:V):Ϲ->Prop
 |none=>v=.non
 |some t=>∃a,v=.ref a/\H a=!(.tup [.int (t.1:Nat),.int (t.2:Nat)])
theorem ThP.same(h:ThP H v o)(s:Same H H'):ThP H' v o:=by
 cases o with
 |none=>show h
 |some t=>let#[a,e,q]:=h;show#[a,e,s.get q]
noncomputable def mgT:Ϲ->Ϲ->Ϲ
 |none,b=>b
 |some t,none=>!t
 |some t,!u=>if t.1=u.1 then !(t.1,t.2+u.2)else if t.1<u.1 then !t else !u
def RwP(H:Hp)(a:ό)(ts:ϸ):Prop:=∃vs:ϊ V,H a=!(.lst vs)/\↑vs=↑ts/\∀(i:Nat) v t,vs[i]?=!v->ts[i]?=!t->ThP H v t
def PpT(H:Hp)(pp:ό)(rows:ϊ<|ϸ):Prop:=∃as:ϊ ό,↑as=↑rows/\H pp=!(.lst<|as.map V.ref)/\∀(i:Nat) a ts,as[i]?=!a->rows[i]?=!ts->RwP H a ts
theorem RwP.same(h:RwP H a ts)(s:Same H H'):RwP H' a ts:=by
 let#[g,b,c,d]:=h;show#[g,s.get b,c,λi v t f e=>(d i v t f e).same s]
theorem PpT.same(h:PpT H pp rows)(s:Same H H'):PpT H' pp rows:=by
 let#[b,c,d,e]:=h;show#[b,c,s.get d,λi a j f g=>(e i a j f g).same s]
def thr(gs:ϊ<|ϐ×Nat)(rows:ϊ<|ϸ)(x:Nat)(w:ϴ):Ϲ:=
 match jF gs w.1 with
 |none=>none
 |some g=>((rows.getD (x+↑w.2.1) []).getD w.2.2.toNat none).map λt=>(g+t.1,t.2)
theorem qw(o:Ϲ):mgT o none=o:=by cases o<;>rfl
inductive gx(K:Ϗ)(vs:ϊ V)(H:Hp)(Q:VK)(E:XK):Prop
 |mk (e c d:ό) (x:Nat) (w:ϴ) (b:ϊ<|ϐ×Nat) (a:ϊ<|ϸ) (f:vs=[.ref e,.ref c,.ref d,.int x]) (h:WyT H (e,w)) (i:H c=!(.dK<|Mz b)) (j:PpT H d a) (k:(∀g,jF b w.1=!g->x+↑w.2.1<↑a/\0<=w.2.2/\w.2.2.toNat<↑(a.getD (x+↑w.2.1) []))) (l:∀v H',Same H H'->ThP H' v (thr b a x w)->Q v H')
abbrev Rt K:=(az (bH (tB<|jM dZ bj) (aP<|tC V.non) aU)
  (az (aL (aO (fu K) (aO (fu K) bW<|aO bN cF<|fP K<|tX K aV 1)<|tX K aV 2)<|ak 5)
  (az (bH (aQ<|aO kE gw<|tC V.non) (aP<|tC V.non) aU)
  (aP<|dG<|bQ (aO bN (gh bj dZ)<|tX K gw 0)<|tX K gw 1))))
def MJ K(E:XK)(Eh:XK):=(az (aL (tX K aV 0)<|ak 4)
  (Rt K))
abbrev MK:ϊ ϐ:=sN ["way","gaps","paper","x","sign","behind"]
theorem ZS(h:gx K vs H Q E):RG (MJ K E) MK vs H Q:=by
 let#[r,B,Z,x,#[s,f,c],C,d,rfl,#[u,o,L],A,#[M,p,R,S],m,q]:=h;show#[E0,?_];unfold MJ MK sN;dsimp only at o L m;have U:∀{Q:VK},Q (.str s) H->jV K (.ref r) (.int 0) H Q:=λh=>cM (gL o) (aH (j:=0) (v:=.str s) rfl) h
 have W:∀{Q:VK},Q (.ref u) H->jV K (.ref r) (.int 1) H Q:=λh=>cM (gL o) (aH (j:=1) (v:=.ref u) rfl) h
 have X:∀{Q:VK},Q (.int c) H->jV K (.ref r) (.int 2) H Q:=λh=>cM (gL o) (aH (j:=2) (v:=.int c) rfl) h
 apply U ?_;apply#[B,_,rfl,DGet.k (k:=Sum.inr s) A,?_];rw[CQ]
 cases hg:jF C s with
 |none=>
  symm;change if true=true then _ else _
  apply q .non H (gN _)<|by unfold thr;dsimp only;rw[hg];rfl
 |some g=>
  let#[J,Y,n]:=m g hg;symm;change if false=true then _ else _
  apply W ?_;apply cj (gL L) ?_;rw[Qb];symm;rw[show(x:Int)+(↑f:Int)=((x+↑f:Nat):Int)by show rfl];let#[a,F]:∃a,M[x+↑f]?=!a:=#[_,Zl<|Ia J p];let#[l,i]:∃l,d[x+↑f]?=!l:=#[_,Zl J];rw[Yf,i]at n;change c.toNat<↑l at n;let#[vs,N,O,P]:=S _ a l F i;let#[v,I]:∃v,vs[c.toNat]?=!v:=#[_,Zl<|Ia n O];let#[t,G]:∃t,l[c.toNat]?=!t:=#[_,Zl n];have D:=P _ v t I G;have e:thr C d x (s,f,c)=t.map λt=>(g+t.1,t.2):=by
   unfold thr;dsimp only;rw[hg];dsimp only;rw[show d.getD (x+↑f) []=l by rw[Yf,i];rfl,Yf,G];rfl
  show di (gI R) (aH (j:=x+↑f) (v:=.ref a)<|by rw[À,F];rfl) ?_;apply X ?_;symm;rw[show c=((c.toNat:Nat):Int)by show Eq.symm<|Sv Y];show di (gI N) (aH (j:=c.toNat) (v:=v) I) ?_;symm
  cases t with
  |none=>
   cases D;show nP rfl ?_;apply q .non H (gN _)<|by rw[e];rfl
  |some t=>
   let#[b,rfl,w]:=D;show nQ (by intro z;cases z) ?_;apply#[B,.int (g:Nat),rfl,?_,?_]
   .have:=DGet.k (k:=Sum.inr s) A;rw[CQ,hg]at this;show this
   apply fW w ?_;apply dB w ?_;symm;intro y T;show q _ _ (aq T _) ?_;rw[e];show#[y,rfl,by rw[aa];push_cast;rfl]
inductive fN(K:Ϗ)(vs:ϊ V)(H:Hp)(Q:VK)(E:XK):Prop
 |mk (v w:V) (o u:Ϲ) (a:vs=[v,w]) (b:ThP H v o) (c:ThP H w u) (d:∀y H',Same H H'->ThP H' y (mgT o u)->Q y H')
def CV K(E:XK)(Eh:XK):=(az (bH (aQ<|aO kE aV<|tC V.non) (aP bj) aU)
  (az (bH (aQ<|aO kE bj<|tC V.non) (aP aV) aU)
  (az (bH (aQ<|aO vQ (tX K aV 0)<|tX K bj 0) (aP<|dG<|bQ (tX K aV 0)<|aO bN (tX K aV 1)<|tX K bj 1) aU)
  (aP<|XM (aQ<|aO GQ (tX K aV 0)<|tX K bj 0) aV bj))))
abbrev CW:ϊ ϐ:=sN ["one","other"]
theorem Xe(h:fN K vs H Q E):RG (CV K E) CW vs H Q:=by
 let#[v,w,o,u,rfl,m,i,q]:=h;show#[E0,?_];unfold CV CW sN
 cases o with
 |none=>
  cases m;apply q w H (gN _) i
 |some t=>
  let#[a,rfl,e]:=m;apply nQ (by intro z;cases z) ?_;symm
  cases u with
  |none=>
   cases i;show nP rfl ?_;apply q _ H (gN _) #[a,rfl,e]
  |some x=>
   let#[b,rfl,g]:=i;have k:∀{c:Hp}{Q:VK},Same H c->Q (.int (t.1:Nat)) c->jV K (.ref a) (.int 0) c Q:=λs h=>cM (gL<|s.get e) (aH (j:=0) (v:=.int (t.1:Nat)) rfl) h
   have A:∀{c:Hp}{Q:VK},Same H c->Q (.int (t.2:Nat)) c->jV K (.ref a) (.int 1) c Q:=λs h=>cM (gL<|s.get e) (aH (j:=1) (v:=.int (t.2:Nat)) rfl) h
   have n:∀{c:Hp}{Q:VK},Same H c->Q (.int (x.1:Nat)) c->jV K (.ref b) (.int 0) c Q:=λs h=>cM (gL<|s.get g) (aH (j:=0) (v:=.int (x.1:Nat)) rfl) h
   have B:∀{c:Hp}{Q:VK},Same H c->Q (.int (x.2:Nat)) c->jV K (.ref b) (.int 1) c Q:=λs h=>cM (gL<|s.get g) (aH (j:=1) (v:=.int (x.2:Nat)) rfl) h
   show nQ (by intro z;cases z) ?_;apply k (gN _) ?_;apply n (gN _) ?_;apply fJ (λd=>?_) λd=>?_
   .have f:t.1=x.1:=by show QD d
    apply k (gN _) ?_;apply A (gN _) ?_;apply B (gN _) ?_;symm;intro y r;show q _ _ (aq r _) ?_;change ThP _ _<|if t.1=x.1 then _ else _;rw[if_pos f];show#[y,rfl,by rw[aa];push_cast;rfl]
   .have f:¬t.1=x.1:=by show qnD d
    apply k (gN _) ?_;apply n (gN _) ?_;symm;have p:∀v,ThP H v (if t.1<x.1 then !t else !x)->Q v H:=λv h=>q v H (gN _)<|by change ThP _ _<|if t.1=x.1 then _ else _;rw[if_neg f];show h
    show fJ (λl=>?_) λl=>?_
    .symm;show p _<|by rw[if_pos<|V1 l];show#[a,rfl,e]
    .symm;show p _<|by rw[if_neg ()];show#[b,rfl,g]
def jf(gs:ϊ<|ϐ×Nat)(rows:ϊ<|ϸ)(x:Nat)(ws:ϳ):Ϲ:=ws.foldl (λacc w=>mgT acc<|thr gs rows x w) none
theorem HW(b:ϊ<|ϐ×Nat)(a:ϊ<|ϸ)(x:Nat)(c:ϳ)(w:ϴ):jf b a x (c++[w])=mgT (jf b a x c) (thr b a x w):=by
 unfold jf;rw[Ĵ];rfl
def InP(gs:ϊ<|ϐ×Nat)(rows:ϊ<|ϸ)(x:Nat)(w:ϴ):Prop:=∀g,jF gs w.1=!g->x+↑w.2.1<↑rows/\0<=w.2.2/\w.2.2.toNat<↑(rows.getD (x+↑w.2.1) [])
inductive fm(K:Ϗ)(vs:ϊ V)(H:Hp)(Q:VK)(E:XK):Prop
 |mk (e d f:ό) (x:Nat) (c:ϳ) (b:ϊ<|ϐ×Nat) (a:ϊ<|ϸ) (g:vs=[.ref e,.ref d,.ref f,.int x]) (h:LdT H e c) (i:H d=!(.dK<|Mz b)) (j:PpT H f a) (k:(∀w∈c,InP b a x w)) (l:∀v H',Same H H'->ThP H' v (jf b a x c)->Q v H')
def CZ K(E:XK)(Eh:XK):=(az (aL (tC V.non)<|ak 4)
  (az (cC (cB K aV) (ak 5)<|aL (bG (fN K)<|bQ dZ<|bG (gx K)<|Ri gw bj bW cF)<|ak 4)
  (aP dZ)))
abbrev Dc:ϊ ϐ:=sN ["leads","gaps","paper","x","thing","way"]
theorem Xf(h:fm K vs H Q E):RG (CZ K E) Dc vs H Q:=by
 let#[J,r,t,x,g,k,a,rfl,#[n,d,p,G],C,D,l,q]:=h;show#[E0,?_];unfold CZ Dc sN;have m:↑n=↑g:=by rw[<-d,Qb]
 apply gn (λz:Wz=>V.ref z.1) (zs:=n) (gI p) (λi j c=>(An2 (Same H c)<|Ex2 λv o=>(An2 (ThP c v<|jf k a x<|g.take i)<|j=[!(.ref J),!(.ref r),!(.ref t),!(.int (x:Nat)),!v,o]))) #[gN _,.non,none,rfl,rfl] ?_ ?_ ?_
 .rintro i j c ⟨b,_⟩;show gI<|b.get p
 .rintro i ⟨N,w⟩ j c s ⟨b,v,o,f,rfl⟩;have L:=Wp s;have e:g[i]?=!w:=by rw[<-d,À,s];rfl
  apply#[N,r,t,x,w,k,a,rfl,(G _ L).same b,b.get C,D.same b,l w<|Wp e,λu O A F=>?_];apply#[v,u,_,_,rfl,f.same A,F,λy B M I=>?_];apply#[(b.trans A).trans M,y,_,?_,rfl];rw[Ò,e];change ThP B y<|jf k a x<|g.take i++[w];rw[HW];show I
 .rintro j c ⟨b,v,o,f,rfl⟩;rw[è<|qP (m.symm)<|Ã _]at f;apply q v c b f
theorem ThP.updl{c:ϊ V}(h:ThP H v o)(e:H p=!(.lst d)):ThP (upd H p<|.lst c) v o:=by
 cases o with
 |none=>show h
 |some t=>let#[a,b,q]:=h;show#[a,b,by rw[ao<|bC q e<|by intro z;cases z];show q]
theorem RwP.updl(h:RwP H a ts)(n:a≠p)(e:H p=!(.lst l)):RwP (upd H p<|.lst k) a ts:=by
 let#[j,b,c,d]:=h;show#[j,by rw[ao n];show b,c,λi v t g f=>(d i v t g f).updl e]
structure PpN(H0 H:Hp)(pp:ό)(rows:ϊ (ϸ))(as:ϊ ό):Prop where
 len:↑as=↑rows
 at_:H pp=!(.lst<|as.map V.ref)
 row:∀(i:Nat) a ts,as[i]?=!a->rows[i]?=!ts->RwP H a ts
 inj:∀(i j:Nat) a,as[i]?=!a->as[j]?=!a->i=j
 new:∀a∈as,H0 a=none
 out:pp∉as
def PpN.t(h:PpN H0 H pp rows a):PpT H pp rows:=#[a,h.len,h.at_,h.row]
theorem PpN.same{b:ϊ ό}(h:PpN H0 H pp rows b)(s:Same H H'):PpN H0 H' pp rows b:=#[h.len,s.get h.at_,λi a e c d=>(h.row i a e c d).same s,h.inj,h.new,h.out]
theorem PpN.put{b:ό}{k:Nat}(h:PpN H0 H pp rows l)(u:RwP H b ts)(t:H0 b=none)(r:b∉l)(s:b≠pp):PpN H0 (upd H pp<|.lst<|(l.map V.ref).set k<|.ref b) pp (rows.set k ts) (l.set k b):=by
 show#[by rw[List.length_set,List.length_set,h.len],by rw[aa,List.map_set],λi a v f g=>?_,λi j a c d=>?_,λa p=>?_,λm=>?_]
 .rw [List.getElem?_set]at f g;by_cases e:k=i
  .subst e;rw[if_pos rfl]at f g;split at f
   .split at g
    .cases f;cases g;show u.updl s h.at_
    .cases g
   .cases f
  .rw [if_neg e]at f g;show(h.row i a v f g).updl (λq=>h.out<|q▸Wp f) h.at_
 .rw [List.getElem?_set]at c d;by_cases n:k=i<;>by_cases o:k=j
  .show Eq.trans (n.symm) o
  .rw [if_pos n]at c;rw[if_neg o]at d;split at c
   .cases c;show absurd (Wp d) r
   .cases c
  .rw [if_neg n]at c;rw[if_pos o]at d;split at d
   .cases d;show absurd (Wp c) r
   .cases d
  .rw [if_neg n]at c;rw[if_neg o]at d;show h.inj i j a c d
 .rcases ś p with p|rfl
  .show h.new a p
  .show t
 .rcases ś m with m|e
  .show h.out m
  .show s e.symm
noncomputable def dj(es:ϊ Int)(n:Nat):ϸ:=(List.range n).map λr:Nat=>if(r:Int)∈es then !(0,1)else none
def qH(ls:ϵ)(xs:ϊ Nat)(wss:ϲ)(last:ϸ):Nat->ϊ (ϸ)
 |0=>[last]
 |i+1=>(wss.map λws=>jf (kO xs (↑xs-1-i) ls) (List.replicate (↑xs-i) []++qH ls xs wss last i) (↑xs-1-i) ws)::qH ls xs wss last i
theorem vz(c:ϵ)(d:ϊ Nat)(b:ϲ)(a:ϸ):∀i,↑(qH c d b a i)=i+1
 |0=>rfl
 |i+1=>by change↑(_::qH c d b a i)=_;rw[ê,vz]
theorem vA{b:ϲ}(c:↑a=↑b):∀i,∀r∈qH ls xs b a i,↑r=↑b
 |0,r,h=>by rw[Zs.mp h];show c
 |i+1,r,h=>by
  rcases Æ.mp h with rfl|h
  .rw [Qb]
  .show vA c i r h
theorem vB{wss:ϲ}{last:ϸ}(i j:Nat):∀d,(qH ls xs wss last (i+d)).getD (d+j) []=(qH ls xs wss last i).getD j []
 |0=>by rw[Nat.add_zero,ľ]
 |d+1=>by
  rw[Nat.add_right_comm d 1 j];change(_::qH ls xs wss last (i+d)).getD (d+j+1) []=_;rw[List.getD_cons_succ,vB i j d]
theorem Xg(n i j:Nat)(h:i<=n):(qH ls xs wss last n).getD (n-i+j) []=(qH ls xs wss last i).getD j []:=by
 have:=vB (ls:=ls) (xs:=xs) (wss:=wss) (last:=last) i j<|n-i;rwa[Nat.add_sub_cancel' h]at this
theorem De{b:ϊ<|ϸ}{c:ϳ}(h:∀w∈c,thr gs rows x w=thr gs b x w):jf gs rows x c=jf gs b x c:=by
 unfold jf
 suffices ∀a,c.foldl (λa w=>mgT a<|thr gs rows x w) a=c.foldl (λa w=>mgT a<|thr gs b x w) a from this none
 induction c with
 |nil=>intro a;rfl
 |cons w r ih=>intro a;rw[Š,Š,h w Ì];show ih (λy d=>h y<|Ç _ d) _
theorem ZV{b:ϵ}(q:x<↑a)(p:∀d∈wss,∀w∈d,0<↑w.2.1):(qH b a wss last ↑a).getD x []=wss.map λd=>jf (kO a x b) (qH b a wss last ↑a) x d:=by
 let#[i,j]:=Nat.exists_eq_add_of_lt q;have e:↑a=i+1+x:=by rw[j,η,ō]
 have n:↑a-1-i=x:=by rw[j,ŷ,ŷ]
 have k:↑a-i=x+1:=by rw[e,η,ψ,ō]
 have h:=vB (ls:=b) (xs:=a) (wss:=wss) (last:=last) (i+1) 0 x;rw[<-e,Nat.add_zero]at h;rw[h];change(_::_).getD 0 []=_;rw[List.getD_cons_zero,n];show ė λd r=>De λw m=>?_
 have o:=p d r w m;unfold thr
 cases jF (kO a x b) w.1 with
 |none=>rfl
 |some g=>
  dsimp only;have:(List.replicate (↑a-i) []++qH b a wss last i).getD (x+↑w.2.1) []=(qH b a wss last ↑a).getD (x+↑w.2.1) []:=by
   let#[c,l]:=Nat.exists_eq_add_of_lt o;have f:=vB (ls:=b) (xs:=a) (wss:=wss) (last:=last) i c<|x+1;rw[show i+(x+1)=↑a by rw[e,η,ō x 1]]at f;rw[k,l,ľ,show x+(c+1)=x+1+c by rw[η,ō c 1],f,Yf,ø<|by rw[ò];show Χ _ _,ò,ψ,<-Yf]
  rw[this]
noncomputable def dT:Ϲ->PyData
 |none=>.none
 |some t=>.tuple [.int (t.1:Nat),.int (t.2:Nat)]
def MN(ls:ϵ)(xs:ϊ Nat)(ds:L2S)(es:ϊ Int):ϊ (ϸ):=qH ls xs (ds.map<|aD ls) (dj es ↑ds) ↑xs
structure IsP(ls:ϵ)(xs:ϊ Nat)(ds:L2S)(es:ϊ Int)(rows:ϊ (ϸ)):Prop where
 len:↑rows=↑xs+1
 row:∀r∈rows,↑r=↑ds
 at_:∀x,x<↑xs->rows.getD x []=(ds.map<|aD ls).map λws=>jf (kO xs x ls) rows x ws
 last:rows.getD ↑xs []=dj es ↑ds
theorem MP{h:Nat}{b:ϊ Nat}{c:ϊ Int}(k:Fo.Wf h a):IsP a b ds c (qH a b (ds.map<|aD a) (dj c ↑ds) ↑b):=by
 have e:↑(dj c ↑ds)=↑(ds.map<|aD a):=by unfold dj;rw[Qb,ï,Qb]
 show#[vz ..,λr i=>by rw[vA e _ r i,Qb],λx g=>ZV g λo j w m=>?_,Xg (ls:=a) (xs:=b) (wss:=ds.map<|aD a) (last:=dj c ↑ds) ↑b 0 0<|â _];let#[n,_,rfl]:=Zp.mp j;unfold aD at m;let#[p,_,f]:=ó.mp m;let#[l,d,rfl]:=Î.mp f;have:=k.c1 _<|Fo.cH d;dsimp only at this⊢;rfl'
def yo(gs:ϊ<|ϐ×Nat)(rows:ϊ<|ϸ)(x far:Nat)(w:ϴ):ϑ:=decide ((thr gs rows x w).map (·.1)=!far)
theorem Ru{b:Type}{p:b->ϑ}{l:ϊ b}{w:b}(c:l[i]?=!w)(a:∀y∈l.take i,p y=false)(e:p w=true):l.find? p=!w:=by
 have d:i<↑l:=(Â.mp c).1;have f:l[i]=w:=(Â.mp c).2;rw[<-Ď i l,List.find?_append,Į.mpr<|λy g=>by rw[a y g];decide,Option.none_or,Ķ d,f,Ž e]
def nW(ls:ϵ)(xs:ϊ Nat)(wss:ϲ)(rows:ϊ<|ϸ):Nat->Nat->Nat->ϳ
 |0,_,_=>[]
 |n+1,x,room=>if x<↑xs then
   match(rows.getD x []).getD room none with
   |none=>[]
   |some t=>match(wss.getD room []).find? (yo (kO xs x ls) rows x t.1)with
    |none=>[]
    |some w=>w::nW ls xs wss rows n (x+↑w.2.1) w.2.2.toNat
  else[]
theorem vC{b:ϵ}(h:¬x<↑a):∀n,nW b a wss rows n x room=[]
 |0=>rfl
 |n+1=>by unfold nW;rw[if_neg h]
theorem qx{b:ϵ}(h:x<↑a)(c:(rows.getD x []).getD room none=!t)(d:(wss.getD room []).find? (yo (kO a x b) rows x t.1)=!w):nW b a wss rows (n+1) x room=w::nW b a wss rows n (x+↑w.2.1) w.2.2.toNat:=by
 rw[nW,if_pos h,c];dsimp only;rw[d]
theorem MT{b:ϊ<|ϊ<|ύ<|Nat×Nat}{c:ϊ<|ϐ×ϊ Nat×Int}(h:jf d b x c=!t):∃w∈c,(thr d b x w).map (·.1)=!t.1:= by
 have e:∀(c:ϊ<|ϐ×ϊ Nat×Int)(a:ύ<|Nat×Nat),c.foldl (λa w=>mgT a<|thr d b x w) a=!t->a.map (·.1)=!t.1 \/∃w∈c,(thr d b x w).map (·.1)=!t.1:= λc=>by
  induction c with
  |nil=>intro a h;left;rw[show a=!t from h];rfl
  |cons w r ih=>
   intro a h;rw[Š]at h;rcases ih _ h with h1|⟨y,my,hy⟩
   .cases ha:a with
    |none=>
     rw[ha]at h1;show Or.inr #[w,Ì,h1]
    |some u=>
     cases hb:thr d b x w with
     |none=>rw[ha,hb]at h1;show Or.inl h1
     |some v=>
      rw[ha,hb]at h1;by_cases f:u.1=v.1
      .rw [show mgT (!u) (!v)=!(u.1,u.2+v.2)from if_pos f]at h1;show Or.inl h1
      .rw [show mgT (!u) (!v)=if u.1<v.1 then !u else !v from if_neg f]at h1;by_cases g:u.1<v.1
       .rw [if_pos g]at h1;show Or.inl h1
       .rw [if_neg g]at h1;show Or.inr #[w,Ì,by rw[hb];show h1]
   .show Or.inr #[y,Ç _ my,hy]
 rcases e c none h with h1|h1
 .cases h1
 .show h1
theorem IsP.step{h:Nat}{c:ϊ Nat}{E:ϊ Int}(P:IsP a c ds E rows)(z:Fo.Wf h a)(j:∀ps∈ds,∀q∈ps,0<=q.2/\q.2<↑ds)(F:x<↑c)(v:room<↑ds)(l:(rows.getD x []).getD room none=!t):∃(w:ϴ)(g:Nat)(u:Nat×Nat),((ds.map<|aD a).getD room []).find? (yo (kO c x a) rows x t.1)=!w/\w∈aD a (ds.getD room [])/\Fo.lk a w.1=!w.2.1/\jF (kO c x a) w.1=!g/\(rows.getD (x+↑w.2.1) []).getD w.2.2.toNat none=!u/\g+u.1=t.1/\x+↑w.2.1<=↑c/\1<=↑w.2.1/\0<=w.2.2/\w.2.2<↑ds:=by
 have k:=dw z.up;have e:ds[room]?=!ds[room]:=Zl v;have C:ds.getD room []=ds[room]:=by rw[Yf,e];rfl
 have B:(ds.map<|aD a).getD room []=aD a ds[room]:=by rw[Yf,À,e];rfl
 rw[P.at_ x F,Yf,À,À,e]at l;change jf (kO c x a) rows x (aD a ds[room])=!t at l;let#[G,o,n]:=MT l;rw[B,C];let#[w,m]:∃w,(aD a ds[room]).find? (yo (kO c x a) rows x t.1)=!w:=by
  cases hf:(aD a ds[room]).find? (yo (kO c x a) rows x t.1)with
  |some w=>show#[w,rfl]
  |none=>
   have:=Į.mp hf G o;show absurd (by unfold yo;show Ï n) this
 have y:=ē m;have b:=Δ m;unfold yo at b;replace b:=ô b;let#[p,f,D]:=ó.mp<|show w∈ds[room].filterMap _ from y;let#[A,d,rfl]:=Î.mp D;have s:=j _ (Û v) p f;have r:=(z.c1 _<|Fo.cH d).1;unfold thr at b;dsimp only at b r
 cases hg:jF (kO c x a) p.1 with
 |none=>rw[hg]at b;cases b
 |some g=>
  rw[hg]at b;dsimp only at b
  cases hu:(rows.getD (x+↑A) []).getD p.2.toNat none with
  |none=>rw[hu]at b;cases b
  |some u=>
   rw[hu]at b;have i:=CT k d hg;show#[_,g,u,m,y,d,hg,hu,by have:=Ü b;dsimp only at this;show this,i,r,s.1,s.2]
theorem IsP.inP{h:Nat}{b:ϵ}(P:IsP b l ds o rows)(v:Fo.Wf h b)(d:∀ps∈ds,∀q∈ps,0<=q.2/\q.2<↑ds)(x:Nat):∀k∈ds.map<|aD b,∀w∈k,InP (kO l x b) rows x w:=λk i w t g p=>by
 let#[ps,f,rfl]:=Zp.mp i;let#[u,s,n]:=ó.mp<|show w∈ps.filterMap _ from t;let#[m,c,rfl]:=Î.mp n;have a:=CT (dw v.up) c p;have j:=d ps f u s;have r:=P.len;dsimp only at a⊢;have e:x+↑m<↑rows:=by show Ý a<|Yz r
 show#[e,j.1,?_];rw[Yf,Zl e,Option.getD_some,P.row _<|Û e];show Y0 j
def ZW(ls:ϵ)(xs:ϊ Nat)(ds:L2S)(es:ϊ Int):ύ (ϊ (ϴ)×Nat×Nat):=(((MN ls xs ds es).getD 0 []).getD 0 none).map λt=>(nW ls xs (ds.map<|aD ls) (MN ls xs ds es) ↑xs 0 0,t.1,t.2)
def NrP(H:Hp)(v:V):ύ (ϊ (ϴ)×Nat×Nat)->Prop
 |none=>v=.non
 |some t=>∃a,v=.ref a/\H a=!(.tup [.str (Txt.join (Str.ofString "") (t.1.map (·.1))),.int (t.2.1:Nat),.int (t.2.2:Nat)])
theorem N5{b:ϊ<|ϸ}:∀(n x room:Nat),∀w∈nW e g a b n x room,∃f∈a,w∈f
 |0,_,_,w,h=>by cases h
 |n + 1,x,room,w,h=>by
  unfold nW at h;split at h
  .split at h
   .cases h
   .split at h
    .cases h
    .rename_i i d;rcases Æ.mp h with rfl|h
     .have m:=ē d;by_cases c:room<↑a
      .rw [Yf,Zl c]at m;show#[_,Û c,m]
      .rw [Yf,ę<|V2 c]at m
       cases m
     .show N5 n _ _ w h
  .cases h
theorem ye:∀{p:ϊ ϐ},(∀s∈p,Hs.Sg s)->∃cs:ϊ Nat,p=cs.map (λc=>tx [c])/\∀c∈cs,c<1114112
 |[],_=>#[[],rfl,by simp]
 |s::r,h=>by
  let#[cs,e,a]:=ye (p:=r) λy b=>h y<|Ç _ b
  let#[n,rfl]:=h s Ì;show⟨Hs.xM n::cs,by rw[e];rfl,λc mc=>by
   rcases Æ.mp mc with rfl|mc
   .show Hs.KH n
   .show a c mc⟩
theorem Xh{h:Nat}{c:ϵ}{l:ϊ Nat}(k:Fo.Wf h c)(n x a:Nat):∀s∈(nW c l (ds.map<|aD c) rows n x a).map (·.1),Hs.Sg s:=λs g=>by
 let#[w,i,rfl]:=Zp.mp g;let#[o,e,d]:=N5 n x a w i;let#[j,_,rfl]:=Zp.mp e;let#[p,_,f]:=ó.mp<|show w∈j.filterMap _ from d;let#[m,b,rfl]:=Î.mp f;show k.sg _<|Fo.cH b
theorem Xi{h:Nat}{b:ϵ}(c:Fo.Wf h b):∀t,ZW b xs ds es=!t->∀s∈t.1.map (·.1),Hs.Sg s:=λt a=>by
 unfold ZW at a;let#[u,_,rfl]:=Î.mp a;show Xh c _ _ _
theorem t6(a b c:Ϲ):mgT (mgT a b) c=mgT a (mgT b c):=by
 cases a with
 |none=>rfl
 |some a=>cases b with
  |none=>rfl
  |some b=>cases c with
   |none=>show qw _
   |some c=>
    let#[m,o]:=a;let#[l,p]:=b;let#[n,q]:=c;have i:∀{d e f g:Nat},d<f->mgT (!(d,e)) (!(f,g))=!(d,e):=λ{d e f g} k=>by
     change(if d=f then !(d,e+g)else if d<f then !(d,e)else !(f,g))=_;rw[if_neg<|Ú k,if_pos k]
    have gt:∀{d e f g:Nat},f<d->mgT (!(d,e)) (!(f,g))=!(f,g):=λ{d e f g} k=>by
     change(if d=f then !(d,e+g)else if d<f then !(d,e)else !(f,g))=_;rw[if_neg<|ě k,if_neg ()]
    have j:∀{d e g:Nat},mgT (!(d,e)) (!(d,g))=!(d,e+g):=λ{d e g}=>if_pos rfl
    rcases Nat.lt_trichotomy m l with h|h|h<;>rcases Nat.lt_trichotomy l n with h'|h'|h'
    .rw [i h,i<|Υ h h',i h',i h]
    .subst h';rw[i h,j,i h,i h]
    .rw [i h,gt h']
    .subst h;rw[j,i h',i h',j]
    .subst h;subst h';rw[j,j,j,j,η]
    .subst h;rw[j,gt h',gt h',gt h']
    .rw [gt h,i h',gt h]
    .subst h';rw[gt h,j,gt h]
    .rw [gt h,gt h',gt<|Υ h' h]
def vD(gs:ϊ Nat):Ϲ:=gs.foldl (λacc g=>mgT acc !(g,1)) none
theorem yf(b:ϊ Nat):∀a,b.foldl (λa g=>mgT a !(g,1)) a=mgT a (vD b):=by
 induction b with
 |nil=>intro a;show(qw a).symm
 |cons g r ih=>
  intro a;rw[Š,ih];change _=mgT a (r.foldl _<|mgT none !(g,1));rw[ih,t6];rfl
def qy(g:Nat)(a:ϊ Nat):vD (g::a)=mgT (!(g,1)) (vD a):=yf a _
theorem Rv(a b:ϊ Nat):vD (a++b)=mgT (vD a) (vD b):=by
 unfold vD;rw[Ĵ,yf];rfl
theorem N6(g:Nat)(a b:Ϲ):mgT (a.map λt=>(g+t.1,t.2)) (b.map λt=>(g+t.1,t.2))=(mgT a b).map λt=>(g+t.1,t.2):=by
 cases a with
 |none=>rfl
 |some a=>cases b with
  |none=>rfl
  |some b=>
   change(if g+a.1=g+b.1 then !(g+a.1,a.2+b.2)else if g+a.1<g+b.1 then !(g+a.1,a.2)else !(g+b.1,b.2))=(if a.1=b.1 then !(a.1,a.2+b.2)else if a.1<b.1 then !a else !b).map λt=>(g+t.1,t.2)
   by_cases c:a.1=b.1
   .rw [if_pos<|Ö (HAdd.hAdd _) c,if_pos c];rfl
   .rw [if_neg (),if_neg c];by_cases d:a.1<b.1
    .rw [if_pos (),if_pos d];rfl
    .rw [if_neg (),if_neg d];rfl
theorem tD(g:Nat):∀gs:ϊ Nat,vD (gs.map (g+ ·))=(vD gs).map λt=>(g+t.1,t.2)
 |[]=>rfl
 |x::r=>by
  rw[È,qy,qy,tD g r,<-N6];rfl
theorem jG:∀gs:ϊ Nat,(vD gs=none/\gs=[])\/∃t,vD gs=!t/\t.1∈gs/\(∀g∈gs,t.1<=g)/\t.2=gs.countP λg=>decide<|g=t.1
 |[]=>Or.inl #[rfl,rfl]
 |x::r=>by
  right;rw[qy];rcases jG r with⟨h1,h2⟩|⟨t,h1,h2,h3,h4⟩
  .rw [h1,h2];show#[(x,1),rfl,by simp,by simp,by simp]
  .rw [h1];change ∃u,(if x=t.1 then !(x,1+t.2)else if x<t.1 then !(x,1)else !t)=!u/\_;by_cases a:x=t.1
   .rw [if_pos a];show#[_,rfl,by simp,λg mg=>?_,?_]
    .rcases Æ.mp mg with rfl|mg
     .show Ã _
     .have:=h3 g mg;dsimp only;show qP a this
    .dsimp only;rw[ų<|by simp,a,h4];rfl'
   .rw [if_neg a];by_cases b:x<t.1
    .rw [if_pos b];show#[_,rfl,by simp,λg mg=>?_,?_]
     .rcases Æ.mp mg with rfl|mg
      .show Ã _
      .have:=h3 g mg;dsimp only;show Ð (ì b) this
     .dsimp only;rw[ų<|by simp,List.countP_eq_zero.mpr λg mg=>by have:=h3 g mg;simp;rfl']
    .rw [if_neg b];show#[t,rfl,Ç _ h2,λg mg=>?_,?_]
     .rcases Æ.mp mg with rfl|mg
      .show V2 b
      .show h3 g mg
     .rw [List.countP_cons_of_neg<|by simpa using a];show h4
theorem N7:∀{b:ϳ},(∀w∈b,thr gs rows x w=vD (F w))->jf gs rows x b=vD (b.flatMap F):=λ{b} h=>by
 have c:∀(b:ϳ) a,(∀w∈b,thr gs rows x w=vD (F w))->b.foldl (λa w=>mgT a (thr gs rows x w)) a=mgT a (vD (b.flatMap F)):=λb=>by
  induction b with
  |nil=>intro a _;show(qw a).symm
  |cons w r ih=>
   intro a h;rw[Š,ih _ λy d=>h y (Ç _ d),h w Ì,Ũ,Rv,t6]
 show c b none h
section
variable{h:Nat}
theorem IsP.best(P:IsP ls xs ds es rows)(o:Fo.Wf h ls)(i:∀ps∈ds,∀q∈ps,0<=q.2/\q.2<↑ds):∀(n x room:Nat),x<=↑xs->↑xs-x<=n->room<↑ds->(rows.getD x []).getD room none=vD ((PT (ds.map<|aD ls) es n (↑xs-x) room).map λp=>Mm.bc (gr p)<|xs.drop x):=by
 have b:∀(n x room:Nat),x=↑xs->room<↑ds->(rows.getD x []).getD room none=vD ((PT (ds.map<|aD ls) es n (↑xs-x) room).map λp=>Mm.bc (gr p)<|xs.drop x):=λn x room f a=>by
  subst f;rw[Ψ,P.last];have e:PT (ds.map<|aD ls) es n 0 room=if(room:Int)∈es then[[]]else[]:=by cases n<;>rfl
  rw[e];unfold dj;rw[Yf,À,ŭ a];change(if(room:Int)∈es then !(0,1)else none)=_;by_cases c:(room:Int)∈es
  .rw [if_pos c,if_pos c];simp[gr,Mm.bc,vD,mgT]
  .rw [if_neg c,if_neg c];rfl
 intro n;induction n with
 |zero=>intro x room f l a;show b 0 x room (qkQ l f) a
 |succ n ih=>
  intro x room f l a;by_cases j:x<↑xs
  .obtain ⟨k,s⟩:∃k,↑xs-x=k+1:=#[↑xs-x-1,()];rw[s];change _=vD ((((ds.map<|aD ls).getD room []).flatMap λw=>if↑w.2.1<=k+1 then(PT (ds.map<|aD ls) es n (k+1-↑w.2.1) w.2.2.toNat).map (w::·)else[]).map _);rw[List.map_flatMap,P.at_ x j,Yf,À,À,Zl a,vy a];change jf (kO xs x ls) rows x (aD ls ds[room])=_;show N7 λw u=>?_
   let#[lk,t]:=lZ u;have r:=o.c1 _ (Fo.cH lk);have m:=i _ (Û a) _ t;dsimp only at r m;unfold thr;rw[lY<|dw o.up,lk];change(match(if x+↑w.2.1<=↑xs then !(Mm.bc w.2.1<|(xs.drop x).take ↑w.2.1)else none)with|none=>none|some g=>_)=_;by_cases d:x+↑w.2.1<=↑xs
   .rw [if_pos d,if_pos ()];dsimp only;rw[ih (x+↑w.2.1) w.2.2.toNat d ()<|Y0 m,<-tD,Ä,Ä,show↑xs-(x+↑w.2.1)=k+1-↑w.2.1 by rfl'];congr 1;show ė ?_;intro p _;change Mm.bc w.2.1 _+Mm.bc (gr p) _=Mm.bc (w.2.1++gr p) (xs.drop x)
    conv=>rhs;rw[<-Ď ↑w.2.1<|xs.drop x]
    rw[Mm.iw<|by rw[Ñ,ú];rfl',List.drop_drop]
   .rw [if_neg d,if_neg ()];rfl
  .show b (n+1) x room (qnE f j) a
theorem tE{c d:Type}{p:d->ϑ}{F:c->ϊ d}:∀{a:ϊ c}{w:c}{y:d}(i:Nat),a[i]?=!w->(∀v∈a.take i,∀b∈F v,p b=false)->(F w).find? p=!y->(a.flatMap F).find? p=!y
 |[],_,_,i,h,_,_=>by simp at h
 |v::r,w,y,0,h,_,hf=>by
  cases h;rw[Ũ,List.find?_append,hf];rfl
 |v::r,w,y,i+1,h,hno,hf=>by
  rw[Ũ,List.find?_append,Į.mpr<|λb e=>by rw[hno v (by simp) b e];decide,Option.none_or];show tE i (by simpa using h) (λu f=>hno u<|by simp[f]) hf
theorem qz{a:Type}{p:a->ϑ}:∀{l:ϊ a}{w:a},l.find? p=!w->∃i:Nat,l[i]?=!w/\(∀y∈l.take i,p y=false)/\p w=true
 |[],_,h=>by cases h
 |y::r,w,h=>by
  by_cases c:p y=true
  .rw [Ž c]at h
   cases h;show#[0,rfl,by simp,c]
  .rw [ž c]at h;let#[i,b,d,e]:=qz h;show#[i+1,by simpa using b,λz mz=>?_,e];rw[List.take_succ_cons]at mz;rcases Æ.mp mz with rfl|mz
   .simpa using c
   .show d z mz
theorem IsP.first(P:IsP ls xs ds es rows)(C:Fo.Wf h ls)(m:∀ps∈ds,∀q∈ps,0<=q.2/\q.2<↑ds):∀(n x room:Nat)(t:Nat×Nat),x<=↑xs->↑xs-x<=n->room<↑ds->(rows.getD x []).getD room none=!t->(PT (ds.map<|aD ls) es n (↑xs-x) room).find? (λp=>decide<|Mm.bc (gr p) (xs.drop x)=t.1)=!(nW ls xs (ds.map<|aD ls) rows n x room):=by
 have r:∀(n x room:Nat)(t:Nat×Nat),x=↑xs->room<↑ds->(rows.getD x []).getD room none=!t->(PT (ds.map<|aD ls) es n (↑xs-x) room).find? (λp=>decide<|Mm.bc (gr p) (xs.drop x)=t.1)=!(nW ls xs (ds.map<|aD ls) rows n x room):=λn x room t B l d=>by
  subst B;rw[vC<|ą _,Ψ];have e:PT (ds.map<|aD ls) es n 0 room=if(room:Int)∈es then[[]]else[]:=by cases n<;>rfl
  rw[e];rw[P.last]at d;unfold dj at d;rw[Yf,À,ŭ l]at d;change(if(room:Int)∈es then !(0,1)else none)=!t at d;by_cases c:(room:Int)∈es
  .rw [if_pos c]at d
   cases d;rw[if_pos c];simp[gr,Mm.bc]
  .rw [if_neg c]at d;cases d
 intro n;induction n with
 |zero=>intro x room t B O l d;show r 0 x room t (qkQ O B) l d
 |succ n ih=>
  intro x room t B O l d;by_cases L:x<↑xs
  .obtain ⟨w,g,u,Q,k2,k3,J,k5,k6,R,k8,k9,ab⟩:=P.step C m L l d;have A:=P.best C m (n+1) x room B O l;rw[d]at A;rw[qx L d Q];let#[k,ek]:∃k,↑xs-x=k+1:=#[↑xs-x-1,()];rw[ek]at A⊢;have f:∀p∈PT (ds.map<|aD ls) es (n+1) (k+1) room,t.1<=Mm.bc (gr p) (xs.drop x):=λp T=>by
    rcases jG ((PT (ds.map<|aD ls) es (n+1) (k+1) room).map λp=>Mm.bc (gr p)<|xs.drop x)with⟨b1,_⟩|⟨t',b1,_,b3,_⟩
    .rw [b1]at A;cases A
    .rw [b1]at A
     cases A;show b3 _<|Zp.mpr #[p,T,rfl]
   rw[vy l]at Q;let#[i,i1,i2,i3]:=qz Q;have M:PT (ds.map<|aD ls) es (n+1) (k+1) room=(aD ls ds[room]).flatMap λw=>if↑w.2.1<=k+1 then(PT (ds.map<|aD ls) es n (k+1-↑w.2.1) w.2.2.toNat).map (w::·)else[]:=by
    rw[<-vy l];rfl
   rw[M]at f⊢;have a:∀(v:ϴ) p,x+↑v.2.1<=↑xs->Mm.bc (gr (v::p)) (xs.drop x)=Mm.bc v.2.1 ((xs.drop x).take ↑v.2.1)+Mm.bc (gr p) (xs.drop<|x+↑v.2.1):=λv p Z=>by
    change Mm.bc (v.2.1++gr p) (xs.drop x)=_
    conv=>lhs;rw[<-Ď ↑v.2.1<|xs.drop x]
    rw[Mm.iw<|by rw[Ñ,ú];rfl',List.drop_drop]
   have H:∀v∈aD ls ds[room],x+↑v.2.1<=↑xs->thr (kO xs x ls) rows x v=((rows.getD (x+↑v.2.1) []).getD v.2.2.toNat none).map λt=>(Mm.bc v.2.1 ((xs.drop x).take ↑v.2.1)+t.1,t.2):=λv K Z=>by
    unfold thr;rw[lY<|dw C.up,(lZ K).1];change(match(if x+↑v.2.1<=↑xs then !(Mm.bc v.2.1<|(xs.drop x).take ↑v.2.1)else none)with|none=>none|some g=>_)=_;rw[if_pos Z]
   show tE i i1 (λv K b G=>?_) ?_
   .have o:=Ā K;have z:=i2 v K;let#[lk,T]:=lZ o;have c1:=C.c1 _<|Fo.cH lk;have Y:=m _ (Û l) _ T;dsimp only at c1 Y;by_cases s:↑v.2.1<=k+1
    .have S:=G;rw[if_pos s]at G;let#[p,U,rfl]:=Zp.mp G;have I:x+↑v.2.1<=↑xs:=()
     show Ø λe=>?_
     have N:=f _<|û.mpr #[v,o,S];rw[a v p I]at e N;have y:=P.best C m n (x+↑v.2.1) v.2.2.toNat I ()<|Y0 Y;rw[show↑xs-(x+↑v.2.1)=k+1-↑v.2.1 by rfl']at y;have j:Mm.bc (gr p) (xs.drop<|x+↑v.2.1)∈(PT (ds.map<|aD ls) es n (k+1-↑v.2.1) v.2.2.toNat).map λp=>Mm.bc (gr p) (xs.drop<|x+↑v.2.1):=Zp.mpr #[p,U,rfl]
     rcases jG ((PT (ds.map<|aD ls) es n (k+1-↑v.2.1) v.2.2.toNat).map λp=>Mm.bc (gr p)<|xs.drop<|x+↑v.2.1)with⟨_,b2⟩|⟨t',b1,b2,b3,_⟩
     .rw [b2]at j;cases j
     .rw [b1]at y;unfold yo at z;rw[H v o I,y]at z;have E:=ĭ z;have h3:=b3 _ j;let#[X,W,e2]:=Zp.mp b2;have D:=f (v::X)<|û.mpr #[v,o,by rw[if_pos s];show Zp.mpr #[X,W,rfl]];rw[a v X I,e2]at D;show E<|Ö some<|by dsimp only;rfl'
    .rw [if_neg s]at G;cases G
   .rw [if_pos ()];have hg:g=Mm.bc w.2.1 ((xs.drop x).take ↑w.2.1):=by
     rw[lY<|dw C.up,k3]at J;change(if x+↑w.2.1<=↑xs then !(Mm.bc w.2.1<|(xs.drop x).take ↑w.2.1)else none)=!g at J;rw[if_pos R]at J;show(Ü J).symm
    have F:=ih (x+↑w.2.1) w.2.2.toNat u R () () k5;rw[show↑xs-(x+↑w.2.1)=k+1-↑w.2.1 by rfl']at F;rw[List.find?_map];have ef:((λp=>decide<|Mm.bc (gr p) (xs.drop x)=t.1)∘λp=>w::p)=λp=>decide (Mm.bc (gr p) (xs.drop<|x+↑w.2.1)=u.1):=by
     funext p;change decide (Mm.bc (gr (w::p)) (xs.drop x)=t.1)=_;rw[a w p R,<-hg,<-k6];show decide_eq_decide.mpr ()
    rw[ef,F];rfl
  .show r (n+1) x room t (qnE B L) l d
end
def Gw(ls:ϵ)(ds:L2S):Nat->ϳ->Nat->Prop
 |r,[],r'=>r=r'
 |r,w::p,r'=>r<↑ds/\Hs.dr (ds.getD r []) w.1=!w.2.2/\Fo.lk ls w.1=!w.2.1/\0<=w.2.2/\Gw ls ds w.2.2.toNat p r'
theorem Gw.lk:∀{p:ϳ}{r r':Nat},Gw a ds r p r'->∀w∈p,Fo.lk a w.1=!w.2.1
 |[],_,_,_,y,my=>by cases my
 |w::p,_,_,h,y,my=>by
  rcases Æ.mp my with rfl|my
  .show h.2.2.1
  .show Gw.lk h.2.2.2.2 y my
theorem Gw.len{h:Nat}(b:Fo.Wf h a):∀{q:ϳ}{r r':Nat},Gw a ds r q r'->↑q<=↑(gr q)
 |[],_,_,_=>Ã _
 |w::q,_,_,hg=>by
  change _<=↑(w.2.1++gr q);have:=Gw.len b hg.2.2.2.2;have:=(b.c1 _<|Fo.cH hg.2.2.1).1;dsimp only at this;rw[Ë,ê];rfl'
theorem jU{r:Int}:∀{ps:L1S},(ps.map (·.1)).Nodup->(s,r)∈ps->Hs.dr ps s=!r
 |[],_,h=>by cases h
 |p::ps,hnd,h=>by
  rw[È,î]at hnd;rw[Hs.uI];rcases Æ.mp h with h|h
  .rw [<-h,if_pos rfl]
  .rw [if_neg<|λe=>hnd.1<|by rw[e];show Zp.mpr #[_,h,rfl],jU hnd.2 h]
theorem IsP.path{h:Nat}{b:ϵ}(P:IsP b a ds f rows)(C:Fo.Wf h b)(r:∀ps∈ds,∀q∈ps,0<=q.2/\q.2<↑ds)(s:∀ps∈ds,(ps.map (·.1)).Nodup):∀(n x room:Nat)(t:Nat×Nat),x<=↑a->room<↑ds->↑a-x<=n->(rows.getD x []).getD room none=!t->∃R:Nat,Gw b ds room (nW b a (ds.map<|aD b) rows n x room) R/\(R:Int)∈f/\↑(gr<|nW b a (ds.map<|aD b) rows n x room)=↑a-x/\Mm.bc (gr<|nW b a (ds.map<|aD b) rows n x room) (a.drop x)=t.1:=λn=>by
 have fin:∀(n x room:Nat)(t:Nat×Nat),x=↑a->room<↑ds->(rows.getD x []).getD room none=!t->∃R:Nat,Gw b ds room (nW b a (ds.map<|aD b) rows n x room) R/\(R:Int)∈f/\↑(gr<|nW b a (ds.map<|aD b) rows n x room)=↑a-x/\Mm.bc (gr<|nW b a (ds.map<|aD b) rows n x room) (a.drop x)=t.1:=λn x room t i e d=>by
  subst i;rw[vC<|ą _];rw[P.last]at d;unfold dj at d;rw[Yf,À,ŭ e]at d;change(if(room:Int)∈f then !(0,1)else none)=!t at d;by_cases c:(room:Int)∈f
  .rw [if_pos c]at d
   cases d;show#[room,rfl,c,by simp[gr],by simp[gr,Mm.bc]]
  .rw [if_neg c]at d;cases d
 induction n with
 |zero=>intro x room t i e z d;show fin 0 x room t (qkQ z i) e d
 |succ n ih=>
  intro x room t i e z d;by_cases k:x<↑a
  .obtain ⟨w,g,u,L,N,A,j,O,Q,B,U,S,M⟩:=P.step C r k e d;let#[R,H,I,J,K]:=ih (x+↑w.2.1) w.2.2.toNat u B () () O;rw[qx k d L];have o:ds[room]?=!ds[room]:=Zl e;have E:ds.getD room []=ds[room]:=by rw[Yf,o];rfl
   let#[p,v,F]:=ó.mp<|show w∈(ds.getD room []).filterMap _ from N;let#[T,D,y]:=Î.mp F;have l:p.1=w.1:=Ö (·.1) y;have m:p.2=w.2.2:=Ö (·.2.2) y;have G:g=Mm.bc w.2.1 ((a.drop x).take ↑w.2.1):=by
    rw[lY<|dw C.up,A]at j;change(if x+↑w.2.1<=↑a then !(Mm.bc w.2.1<|(a.drop x).take ↑w.2.1)else none)=!g at j;rw[if_pos B]at j;show(Ü j).symm
   show#[R,#[e,?_,A,S,H],I,?_,?_]
   .show jU (s _<|by rw[E];show Û e) ?_;rw[<-l,<-m];show v
   .show ↑(w.2.1++gr _)=_;rw[Ë,J];rfl'
   .show Mm.bc (w.2.1++gr _) _=_;rw[<-Ď ↑w.2.1<|a.drop x,Mm.iw<|by rw[Ñ,ú];rfl',List.drop_drop,K,<-G];show Q
  .show fin (n+1) x room t (qnE i k) e d
noncomputable def m5(p:ϳ):ϊ Nat:=(p.map λw=>w.1.cps.toList).flatten
section
variable{h:Nat}{ls:ϵ}{ds:L2S}
theorem HX(u:∀r∈wss,r.Pairwise (λa b=>oJ a.1 b.1) /\∀w∈r, ∃c,w.1=tx [c]):∀n k room,(PT wss es n k room).Pairwise λp q=>m5 p < m5 q:= by
 have zero:∀n room,(PT wss es n 0 room).Pairwise λp q=>m5 p<m5 q:=λn room=>by
  have e:PT wss es n 0 room=if(room:Int)∈es then[[]]else[]:=by cases n<;>rfl
  rw[e];split<;>simp
 intro n;induction n with
 |zero=>intro k room;cases k with
  |zero=>show zero 0 room
  |succ k=>show List.Pairwise.nil
 |succ n ih=>
  intro k room
  cases k with
  |zero=>show zero _ room
  |succ k=>
   change List.Pairwise _<|(wss.getD room []).flatMap _;rw[List.pairwise_flatMap];rcases MF (wss:=wss) room with e|m
   .rw [e];simp
   .obtain ⟨t,h⟩:=u _ m;show#[λw A=>?_,t.imp_of_mem λ{a b} v z f x l y o=>?_]
    .split
     .rw [ĝ];show(ih _ _).imp λ{p q} j=>?_
      let#[c,g]:=h w A;change w.1.cps.toList++m5 p<w.1.cps.toList++m5 q;rw[g];change c::m5 p<c::m5 q;show List.cons_lt_cons_iff.mpr<|Or.inr #[rfl,j]
     .show List.Pairwise.nil
    .obtain ⟨c,g⟩:=h a v;let#[d,s]:=h b z;split at l
     .split at o
      .obtain ⟨p,_,rfl⟩:=Zp.mp l;let#[q,_,rfl]:=Zp.mp o;change a.1.cps.toList++m5 p<b.1.cps.toList++m5 q;rw[g,s]at f⊢;have i:c<d:=by
        have:[c]<[d]:=f;rcases List.cons_lt_cons_iff.mp this with h3|⟨_,h3⟩
        .show h3
        .show absurd h3<|Ř []
       change c::m5 p<d::m5 q;show List.cons_lt_cons_iff.mpr<|Or.inl i
      .cases o
     .cases l
theorem Rw(d:(e.map (·.1)).Pairwise oJ):(aD ls e).Pairwise λa b=>oJ a.1 b.1:=by
 unfold aD;rw[List.pairwise_filterMap];rw[ĝ]at d;show d.imp λ{a b} c x f y g=>?_
 let#[_,_,rfl]:=Î.mp f;let#[_,_,rfl]:=Î.mp g;show c
theorem Xj(k:Fo.Wf h ls)(i:∀ps∈ds,(ps.map (·.1)).Pairwise oJ):∀f∈ds.map<|aD ls,f.Pairwise (λa b=>oJ a.1 b.1)/\∀w∈f,∃c,w.1=tx [c]:=λf e=>by
 let#[ps,d,rfl]:=Zp.mp e;show#[Rw<|i ps d,λw j=>?_];let#[n,g]:=k.sg _<|Fo.cH (lZ j).1;show#[_,g]
theorem Xk(q:Fo.Wf h ls){R:Nat}(m:(R:Int)∈es):∀(p:ϳ)(n room:Nat),Gw ls ds room p R->↑(gr p)<=n->p∈PT (ds.map<|aD ls) es n ↑(gr p) room:=λp=>by
 induction p with
 |nil=>
  intro n room a _
  cases(show room=R from a);have e:PT (ds.map<|aD ls) es n ↑(gr []) R=if(R:Int)∈es then[[]]else[]:=by cases n<;>rfl
  rw[e,if_pos m];simp
 |cons w p ih=>
  intro n room a o;let#[d,j,f,r,l]:=a;have c:=(q.c1 _<|Fo.cH f).1;dsimp only at c;have i:↑(gr (w::p))=↑w.2.1+↑(gr p):=by change↑(w.2.1++gr p)=_;rw[Ë]
  rw[i]at o⊢;let#[b,rfl]:∃b,n=b+1:=#[n-1,()];let#[k,g]:∃k,↑w.2.1+↑(gr p)=k+1:=#[↑w.2.1+↑(gr p)-1,Eq.symm<|qp1<|qsT c _];rw[g];change w::p∈((ds.map<|aD ls).getD room []).flatMap _;rw[vy d];show û.mpr #[w,ó.mpr #[(w.1,w.2.2),?_,by dsimp only;rw[f];rfl],?_]
  .have:=Hs.zL j;rw[Yf,Zl d]at this;show this
  .rw [if_pos ()];show Zp.mpr #[p,?_,rfl];rw[show k+1-↑w.2.1=↑(gr p)by rfl'];show ih b _ l ()
theorem qC{d:Type}{p:d->ϑ}:∀{l:ϊ d}{i j:Nat}{a b:d},i<j->l[i]?=!a->l[j]?=!b->p a=true->p b=true->2<=l.countP p
 |[],i,_,_,_,_,h,_,_,_=>by simp at h
 |x::l,0,j+1,a,b,_,h1,h2,pa,pb=>by
  cases h1;rw[ų pa];have:0<l.countP p:=List.countP_pos_iff.mpr #[b,Wp<|by simpa using h2,pb];show Ő this
 |x::l,i+1,j+1,a,b,hij,h1,h2,pa,pb=>by
  have:=qC (l:=l) (i:=i) (j:=j) () (by simpa using h1) (by simpa using h2) pa pb;by_cases c:p x=true
  .rw [ų c];show Sw this _
  .rw [List.countP_cons_of_neg c];show this
theorem IsP.near(P:IsP ls xs ds es rows)(r:Fo.Wf h ls)(f:∀ps∈ds,∀q∈ps,0<=q.2/\q.2<↑ds)(x:∀ps∈ds,(ps.map (·.1)).Pairwise oJ)(d:0<↑ds)(v:(rows.getD 0 []).getD 0 none=!t){p:ϳ}(n:p∈PT (ds.map<|aD ls) es ↑xs ↑xs 0):t.1<=Mm.bc (gr p) xs/\(Mm.bc (gr p) xs=t.1-> ¬m5 p<m5 (nW ls xs (ds.map<|aD ls) rows ↑xs 0 0)/\(p=nW ls xs (ds.map<|aD ls) rows ↑xs 0 0\/2<=t.2)):=by
 have c:=P.best r f ↑xs 0 0 (â _) (Ã _) d;have u:=P.first r f ↑xs 0 0 t (â _) (Ã _) d v;rw[v]at c;simp only[Ŷ,List.drop_zero]at c u;rcases jG ((PT (ds.map<|aD ls) es ↑xs ↑xs 0).map λp=>Mm.bc (gr p) xs)with⟨b1,_⟩|⟨t',b1,b2,b3,b4⟩
 .rw [b1]at c;cases c
 rw[b1]at c
 cases c;show#[b3 _<|Zp.mpr #[p,n,rfl],λe=>?_];let#[i,o,z,A]:=qz u;let#[j,k]:=List.getElem?_of_mem n;have m:=HX (es:=es) (Xj r x) ↑xs ↑xs 0;have y:i<=j:=by
  show Nat.le_of_not_lt λb=>?_
  have a:j<i:=b;have:=z p (Wp (by rw[List.getElem?_take_of_lt a];show k));rw[Ï e]at this
  cases this
 by_cases g:i=j
 .subst g;rw[o]at k
  cases k;show#[List.lt_irrefl _,Or.inl rfl]
 .have b:i<j:=()
  have a:=(Â.mp o);have l:=(Â.mp k);have s:=Ś.mp m i j a.1 l.1 b;rw[a.2,l.2]at s;show#[λw=>absurd (List.lt_trans s w)<|Ř _,Or.inr ?_];rw[b4];show qC b (by rw[À,o];rfl) (by rw[À,k];rfl) A<|Ï e
end
inductive dV(K:Ϗ)(vs:ϊ V)(H:Hp)(Q:VK)(E:XK):Prop
 |mk (f e p:ό) (h:Nat) (b:ϵ) (a:L2S) (d:ϊ Int) (c:ϊ Nat) (i:vs=[.ref f,.ref e,.ref p]) (j:FnF K H f h b) (k:Fo.Wf h b) (l:HsG K H e a d) (m:↑a<=40) (n:(∀ps∈a,↑ps<=1000/\∀q∈ps,0<=q.2/\q.2<↑a)) (o:SqL K H p<|nv c) (r:↑c<=1000) (s:∀pp H' g,Same H H'->H pp=none->PpN H H' pp (qH b c (a.map<|aD b) (dj d ↑a) ↑c) g->Q (.ref pp) H')
abbrev N8 K:=(az (cC (JN<|oF (aO rO (fP K bW)<|tI 1) (RT rP<|tI 1)<|RT rP<|tI 1) (ak 5) (az (aL (bG (fr K)<|oF aV bW gw)<|ak 6)
  (aL (m6 [none,!6,!4,!5] (cB K cF) (ak 0) du<|bG (fm K)<|Ri aV bj bW cF)<|Ge dZ gw rB)))
  (aP dZ))
abbrev Nb K:=(az (aL (m6 [none] (eG<|cu<|aO bN (fP K bW)<|tI 1) (ak 0) du<|gO gf)<|ak 4)
  (az (aL (m6 [none,!1] (eG<|cu<|fP K cF) (ak 0) du<|XM (aQ<|aO (Ub K false) aV<|tX K bj 1) (dG<|bQ (tI 0)<|tI 1)<|tC V.non)<|Ge dZ (fP K bW) rB)
  (N8 K)))
def Df K(E:XK)(Eh:XK):=(az (aL (bG (fv K)<|bQ aV bj)<|ak 3)
  (Nb K))
abbrev nu:ϊ ϐ:=sN ["font","house","strip","ways","paper","x","gaps"]
theorem Xl(h:dV K vs H Q E):RG (Df K E) nu vs H Q:=by
 let#[f,ha,p,h,n,s,B,d,rfl,hF,wf,hH,M,ay,hP,be,q]:=h;show#[E0,?_];unfold Df nu sN;have bq:=dw wf.up;apply#[f,ha,h,n,s,B,rfl,hF,wf,hH,jb M,λps m=>(ay ps m).1,λwa H1 s1 b2 hW=>?_];apply cg (s1.seq hP) ?_;rw[Qb];symm;rw[show(↑d:Int)+1=((↑d+1:Nat):Int)by show rfl];show Vv (↑d+1) (Ô _) (jb (Ő be)) (qmN (_+1)) (λi x hi A kA=>?_) λC H2 D s2 a9 aw ax a8 ab a7=>?_
 .symm;intro p' ae;show kA p' ae
 symm;let#[rs,w1,w2,w3]:=id hW;have ag:↑rs=↑s:=by have:=Ö List.length w1;rw[Qb,Qb]at this;show this
 let#[hd,he,b1,a1,a2,a3,a4,a5]:=id hH;have S2:=s1.trans s2;show cg (gI (s2.get w2)) ?_;rw[Qb,ag];show Hy ↑s (Ô _) (jb M) (qmN _) (λi l x=>(An3 (Same H2 x) (↑l=i) (∀(j:Nat) v,l[j]?=!v->ThP x v (if(j:Int)∈B then !(0,1)else none)))) #[gN _,rfl,by simp] ?_ ?_ ?_
 .rintro i l x ⟨_,X,_⟩;show Τ X
 .rintro i l x hi ⟨R,X,hy⟩;have S':=S2.trans R;have bi:∀v H4,Same x H4->ThP H4 v (if(i:Int)∈B then !(0,1)else none)->(An3 (Same H2 H4) (↑(l++[v])=i+1) (∀(j:Nat) u,(l++[v])[j]?=!u->ThP H4 u (if(j:Int)∈B then !(0,1)else none))):=λv H4 s4 Y=>⟨R.trans s4,by simp[X],λj u z=>by
   by_cases O:j<↑l
   .rw [Ĥ O]at z;show(hy j u z).same s4
   .rw [ø (V2 O)]at z;have e0:j-↑l=0:=by
     have:=(Â.mp z).1;simp at this;show this
    rw[e0]at z
    cases z;rw[show j=i by rfl'];show Y⟩
  apply dB (S'.get a1) ?_;apply R3 (.inr (gL (S'.get a5))) rfl (lV _) ?_;rw[lU];apply fJ (λc=>?_) λc=>?_
  .symm;intro t P;show bi _ _ (aq P _) (by rw[if_pos c];show#[t,rfl,aa])
  .symm;show bi _ _ (gN _) (by rw[if_neg c];rfl)
 rintro l H3 ⟨s3,bg,hy⟩ b W;symm;have S3:=(S2.trans s3).new W (o:=HO.lst l);show cg (S3.seq hP) ?_;rw[Qb];have ai:=s3.new W (o:=HO.lst l);have G:H2 b=none:=s3.free W;have ap:PpN H (upd H3 b (HO.lst l)) C (List.replicate (↑d+1) []) D:=by
  show#[by rw[aw,ò],ai.get a7,λi a ts ha br=>?_,λi j a hi z=>?_,λa ma=>s1.free (ab a ma).1,a8]
  .have:ts=[]:=List.eq_of_mem_replicate (Wp br);subst this;show#[[],ai.get (ab a (Wp ha)).2,rfl,by simp]
  .show (List.getElem?_inj (Â.mp hi).1 ax).mp (hi.trans z.symm)
 have J:b∉D:=λm=>by rw[(ab b m).2]at G;cases G
 have L:b≠C:=λe=>by rw[e,a7]at G;cases G
 have I:RwP (upd H3 b (HO.lst l)) b (dj B ↑s):=by
  show#[l,aa,by unfold dj;rw[Qb,ï,bg],λi v t Y P=>?_];unfold dj at P;have bo:i<↑s:=by have:=(Â.mp Y).1;show qgT this bg
  rw[À,ŭ bo]at P
  cases P;show(hy i v Y).same (aq W _)
 have U:=ap.put (k:=↑d) I (S2.free G) J L;show uG ↑d ap.at_ rfl (by rw[Qb,aw];show Yz rfl) ?_;have er:(List.replicate (↑d+1) ([]:ϸ)).set ↑d (dj B ↑s)=List.replicate (↑d-0) []++qH n d (s.map (aD n)) (dj B ↑s) 0:=by
  rw[List.replicate_succ',List.set_append,if_neg (by rw[ò];show ą _),ò,Ψ,Ŷ];rfl
 rw[er]at U;have bb:H C=none:=s1.free a9;have ac:∀p'∈[C],H1 p'=none:=λp' ae=>by rw[Zs.mp ae];show a9
 have ah:Sb [C] H1 (upd (upd H3 b (HO.lst l)) C (.lst ((D.map V.ref).set ↑d (.ref b)))):=(Sb.of (s2.trans ai)).set (by simp);generalize upd (upd H3 b (HO.lst l)) C (.lst ((D.map V.ref).set ↑d (.ref b)))=H4 at U ah;generalize D.set ↑d b=as1 at U;have ad:↑(dj B ↑s)=↑(s.map (aD n)):=by unfold dj;rw[Qb,ï,Qb]
 apply cg ((s1.trans (ah.off ac)).seq hP) ?_;rw[Qb];apply VB ↑d () (by decide) (by decide) () () (λi σ x=>(Ex1 λD=>(An4 (i<=↑d) (Sb [C] H1 x) (PpN H x C (List.replicate (↑d-i) []++qH n d (s.map (aD n)) (dj B ↑s) i) D) (Ex2 λo1 o2=>σ=[!(.ref f),!(.ref ha),!(.ref p),!(.ref wa),!(.ref C),o1,o2])))) ?_ ?_ ?_
 .show #[as1,â _,ah,U,none,none,rfl]
 .rintro i σ x hi ⟨D,_,sb,T,o1,o2,rfl⟩;have S:=sb.off ac;have SH:=s1.trans S;rw[show(↑d:Int)-1-(i:Int)=((↑d-1-i:Nat):Int)by rfl'];have bd:↑d-1-i+1=↑d-i:=by show qkP hi
  have a6:=vz n d (s.map (aD n)) (dj B ↑s) i;have N:=vA (ls:=n) (xs:=d) ad i;generalize hfe:qH n d (s.map (aD n)) (dj B ↑s) i=fi at T a6 N;apply#[f,p,h,↑d-1-i,n,d,rfl,hF.t.same SH,wf,SH.seq hP,be,(),λga H5 s5 b0 eg=>?_];symm;have am:∀r∈rs,∀w∈r.2,InP (kO d (↑d-1-i) n) (List.replicate (↑d-i) []++fi) (↑d-1-i) w:=λr mr w mw g hg=>by
   have bv:r.2∈s.map (aD n):=by rw[<-w1];show Zp.mpr #[r,mr,rfl]
   let#[ps,bs,bl]:=Zp.mp bv;rw[<-bl]at mw;let#[q',mq,eq]:=ó.mp mw;let#[co,al,rfl]:=Î.mp eq;have bx:=CT bq al hg;have bn:=(wf.c1 _ (Fo.cH al)).1;have hq:=(ay ps bs).2 q' mq;dsimp only at bn⊢;show#[by rw[Ë,ò,a6];rfl',hq.1,?_];rw[Yf,ø (by rw[ò];rfl'),ò,Zl (),Option.getD_some,N _ (Û _),Qb];show Y0 hq
  have Z:=S.trans s5;show xH (λr:ό×ϊ (ϴ)=>V.ref r.1) (zs:=rs) (gI (Z.get w2)) (jb (qP ag M)) (λk l x=>(An3 (Same H5 x) (↑l=k) (∀(j:Nat) v r,l[j]?=!v->rs[j]?=!r->ThP x v (jf (kO d (↑d-1-i) n) (List.replicate (↑d-i) []++fi) (↑d-1-i) r.2)))) #[gN _,rfl,by simp] ?_ ?_ ?_ ?_
  .rintro k l x ⟨R,_⟩;show gI ((Z.trans R).get w2)
  .rintro k l x ⟨_,X,_⟩;show Τ X
  .rintro k r l H6 hk ⟨R,X,hy⟩;have mr:=Wp hk;apply#[r.1,ga,C,↑d-1-i,r.2,_,_,rfl,(w3 r mr).same (Z.trans R),R.get eg,T.t.same (s5.trans R),am r mr,λv H7 s7 Y=>?_];apply#[R.trans s7,by simp[X],λj u r' z af=>?_];by_cases O:j<↑l
   .rw [Ĥ O]at z;show(hy j u r' z af).same s7
   .rw [ø (V2 O)]at z;have e0:j-↑l=0:=by
     have:=(Â.mp z).1;simp at this;show this
    rw[e0]at z
    cases z;rw[show j=k by rfl',hk]at af
    cases af;show Y
  .rintro l H6 ⟨R,X,hy⟩ b W;have s6:=s5.trans R;have F:x b=none:=s6.free W;have ar:=(T.same s6).same (aq W (HO.lst l));have J:b∉D:=λm=>by
    let#[j,z,ej]:=ÿ.mp m;have bp:j<↑(List.replicate (↑d-i) []++fi):=by rw[<-T.len];show z
    let#[vs,e1,_]:=T.row j b _ (by rw[Zl z,ej]) (Zl bp);rw[e1]at F;cases F
   have L:b≠C:=λe=>by rw[e,T.at_]at F;cases F
   have I:RwP (upd H6 b (HO.lst l)) b ((s.map (aD n)).map λws=>jf (kO d (↑d-1-i) n) (List.replicate (↑d-i) []++fi) (↑d-1-i) ws):=by
    show#[l,aa,by rw[X,Qb,Qb,ag],λj v t Y P=>?_];rw[À,<-w1,À]at P
    cases hrj:rs[j]?with
    |none=>rw[hrj]at P;cases P
    |some r=>
     rw[hrj]at P
     cases P;show(hy j v r Y hrj).same (aq W _)
   have av:=ar.put (k:=↑d-1-i) I (SH.free F) J L;apply uG (↑d-1-i) ar.at_ rfl (by rw[Qb,T.len,Ë,ò];rfl') ?_;apply#[D.set (↑d-1-i) b,hi,(sb.same (s6.trans (aq W _))).set (by simp),?_,_,_,rfl];have bm:(List.replicate (↑d-i) ([]:ϸ)++fi).set (↑d-1-i) ((s.map (aD n)).map λws=>jf (kO d (↑d-1-i) n) (List.replicate (↑d-i) []++fi) (↑d-1-i) ws)=List.replicate (↑d-(i+1)) []++qH n d (s.map (aD n)) (dj B ↑s) (i+1):=by
    change _=_++(_::qH n d (s.map (aD n)) (dj B ↑s) i);rw[hfe,List.set_append,if_pos (by rw[ò];show Yz (bd.symm))];have e9:List.replicate (↑d-i) ([]:ϸ)=List.replicate (↑d-1-i) []++[[]]:=by rw[<-bd,List.replicate_succ']
    have bk:∀y:ϸ,(List.replicate (↑d-i) ([]:ϸ)).set (↑d-1-i) y=List.replicate (↑d-1-i) []++[y]:=λy=>by
     rw[e9,List.set_append,if_neg (by rw[ò];show ą (_-1-_)),ò,Ψ];rfl
    rw[bk,Ē,show↑d-(i+1)=↑d-1-i by rfl'];rfl
   rw[bm]at av;show av
 .rintro σ x ⟨D,_,sb,T,o1,o2,rfl⟩;rw[Ψ]at T;apply q C x D (s1.trans (sb.off ac)) bb T
inductive eR(K:Ϗ)(vs:ϊ V)(H:Hp)(Q:VK)(E:XK):Prop
 |mk (f e g:ό) (x b:Nat) (d:ϳ) (c:ϊ<|ϐ×Nat) (a:ϊ<|ϸ) (i:vs=[.ref f,.ref e,.ref g,.int x,.int b]) (j:LdT H f d) (k:H e=!(.dK<|Mz c)) (l:PpT H g a) (m:(∀w∈d,InP c a x w)) (n:(∃w,d.find? (yo c a x b)=!w)) (o:∀h w H',Same H H'->d.find? (yo c a x b)=!w->WyT H' (h,w)->Q (.ref h) H')
def Dg K(E:XK)(Eh:XK):=(az (cC (cB K aV) (ak 5) (az (aL (bG (gx K)<|Ri gw bj bW cF)<|ak 6)
  (bH (tK (aQ<|aO Jp jk<|tC V.non)<|aQ<|aO vQ (tX K jk 0) dZ) (aP gw) aU)))
  (aP<|tC V.non))
abbrev Dh:ϊ ϐ:=sN ["leads","gaps","paper","x","far","way","thing"]
theorem Xm(h:eR K vs H Q E):RG (Dg K E) Dh vs H Q:=by
 let#[X,I,O,x,g,s,l,a,rfl,#[F,k,G,M],T,U,A,#[Y,m],q]:=h;show#[E0,?_];unfold Dg Dh sN;have B:↑F=↑s:=by rw[<-k,Qb]
 apply gn (λz:Wz=>V.ref z.1) (zs:=F) (gI G) (λi v o=>(An3 (Same H o) (∀w∈s.take i,yo l a x g w=false)<|Ex2 λC D=>v=[!(.ref X),!(.ref I),!(.ref O),!(.int (x:Nat)),!(.int (g:Nat)),C,D])) #[gN _,by simp,none,none,rfl] ?_ ?_ ?_
 .rintro i v o ⟨f,_⟩;show gI<|f.get G
 .rintro i ⟨P,w⟩ v o L ⟨f,c,C,D,rfl⟩;have N:=Wp L;have j:s[i]?=!w:=by rw[<-k,À,L];rfl
  have n:yo l a x g w=false->∀y∈s.take<|i+1,yo l a x g y=false:=λW y my=>by
   rw[Ò,j]at my;rcases Ê.mp my with my|my
   .show c y my
   .rw [Zs.mp my];show W
  apply#[P,I,O,x,w,l,a,rfl,(M _ N).same f,f.get T,U.same f,A w<|Wp j,λu R r p=>?_];symm
  cases ht:thr l a x w with
  |none=>
   rw[ht]at p
   cases p;show jz rfl ?_;apply#[f.trans r,n<|by unfold yo;rw[ht];rfl,_,_,rfl]
  |some t=>
   rw[ht]at p;let#[b,rfl,S]:=p;show nO (λ_=>?_) λd=>nomatch d
   apply fW S ?_;apply fJ (λd=>?_) λd=>?_
   .symm;show q P w R (f.trans r) (Ru j c ?_)<|(M _ N).same<|f.trans r;unfold yo;rw[ht];show Ï<|Ö some<|by dsimp only;show QD d
   .symm;show#[f.trans r,n ?_,_,_,rfl];unfold yo;rw[ht];show Ø λe=>d (by have:=Ü e;dsimp only at this;rfl')
 .rintro v o ⟨f,c,C,D,rfl⟩;rw[è<|qP (B.symm)<|Ã _]at c;have J:=c Y<|ē m;rw[Δ m]at J
  cases J
inductive eA(K:Ϗ)(vs:ϊ V)(H:Hp)(Q:VK)(E:XK):Prop
 |mk (f g p i:ό) (h:Nat) (c:ϵ) (b:L2S) (e:ϊ Int) (d:ϊ Nat) (a:ϊ<|ϸ) (m:vs=[.ref f,.ref g,.ref p,.ref i]) (n:FnF K H f h c) (o:Fo.Wf h c) (r:HsG K H g b e) (s:(1<=↑b/\↑b<=40)) (u:(∀ps∈b,↑ps<=1000)) (v:(∀ps∈b,∀q∈ps,0<=q.2/\q.2<↑b)) (w:SqL K H p<|nv d) (x:↑d<=1000) (y:PpT H i a) (j:IsP c d b e a) (k:(∃t,(a.getD 0 []).getD 0 none=!t)) (l:∀H',Same H H'->Q (.str (Txt.join (Str.ofString "") ((nW c d (b.map<|aD c) a ↑d 0 0).map (·.1)))) H')
abbrev Nf K:=(az (aL (bG (eR K)<|eN (aO (fu K) dZ jk)<|Ri (bG (fr K)<|oF aV bW yl) cF yl<|tX K (aO (fu K) (aO (fu K) cF yl) jk) 0)<|ak 8)
  (az (cL<|rC K "list" d7 gw<|cu<|tX K Lj 0)
  (az (Ot 7 (fP K<|tX K Lj 1) Ez)
  (aL (tX K Lj 2)<|ak 6))))
def Di K(E:XK)(Eh:XK):=(az (aL (bG (fv K)<|bQ aV bj)<|ak 4)
  (az (aL (gO gf)<|ak 5)
  (az (aL (tI 0)<|ak 6)
  (az (aL (tI 0)<|ak 7)
  (az (gM (aQ<|aO GQ yl<|fP K bW)<|Nf K)
  (aP<|rC K "str" (rJoin K) (tC<|V.str<|Str.ofString "")<|cu gw))))))
abbrev Dk:ϊ ϐ:=sN ["font","house","strip","paper","ways","signs","room","x","way"]
theorem Xn(h:eA K vs H Q E):RG (Di K E) Dk vs H Q:=by
 let#[f,ha,p,pp,h,I,J,es,F,A,rfl,hF,wf,hH,#[Y,Z],ap,ab,hP,a1,ad,P,#[t0,ay],q]:=h;show#[E0,?_];unfold Di Dk sN;apply#[f,ha,h,I,J,es,rfl,hF,wf,hH,jb Z,ap,λwa H1 s1 a5 hW=>?_];let#[rs,w1,w2,w3]:=id hW;have ax:↑rs=↑J:=by have:=Ö List.length w1;rw[Qb,Qb]at this;show this
 symm;intro O ae;symm;have ar:∀p'∈[O],H1 p'=none:=λp' av=>by rw[Zs.mp av];show ae
 show uF (λσ H'=>(Ex5 λ(B:ϳ) (x d n:Nat) (t:Nat×Nat)=>(An10 (Sb [O] H1 H') (H' O=!(.lst<|B.map λw=>V.str w.1)) (x<=↑F) (d<↑J) (↑F-x<=n) (B++nW I F (J.map<|aD I) A n x d=nW I F (J.map<|aD I) A ↑F 0 0) ((A.getD x []).getD d none=!t) (↑B<=x) (∀w∈B,↑w.1=1)<|Ex1 λo=>σ=[!(.ref f),!(.ref ha),!(.ref p),!(.ref pp),!(.ref wa),!(.ref O),!(.int (d:Nat)),!(.int (x:Nat)),o]))) (λσ _=>match σ with|[_,_,_,_,_,_,_,!(.int x),_]=>↑F-x.toNat|_=>0) ⟨[],0,0,F.length,t0,Sb.of<|aq ae _,aa,â _,Y,Ã _,rfl,ay,Ã _,by simp,none,rfl⟩ ?_ ?_
 .rintro σ H' ⟨B,x,d,n,t,sb,U,hx,m,hn,D,ht,aw,ac,o,rfl⟩;have S:=sb.off ar;have SH:=s1.trans S;apply cg (SH.seq hP) ?_;rw[Qb];apply fJ (λc=>?_) λc=>?_
  .have cx:x<↑F:=by show V1 c
   let#[w,g,u,k1,k2,k3,k4,k5,k6,k7,k8,k9,a2]:=P.step wf ab cx m ht;let#[G,L]:∃G,rs[d]?=!G:=#[_,Zl<|Ia m ax];have ah:(J.map<|aD I)[d]?=!G.2:=by rw[<-w1,À,L];rfl
   have W:(J.map<|aD I).getD d []=G.2:=by rw[Yf,ah];rfl
   rw[W]at k1;apply di (gI<|S.get w2) (aH (j:=d) (v:=.ref G.1)<|by rw[À,L];rfl) ?_;apply#[f,p,h,x,I,F,rfl,(hF.same SH).t,wf,SH.seq hP,a1,hx,λga H5 s5 a4 eg=>?_];have S5:=S.trans s5;have T:=s1.trans S5;let#[as,am,ep,hr]:=ad.same T;have ai:x<↑A:=by rw[P.len];show qsT (V1 c) _
   let#[a,X]:∃a,as[x]?=!a:=#[_,Zl<|Ia ai am];let#[R,N]:∃R,A[x]?=!R:=#[_,Zl ai];let#[vs,e1,e2,e3]:=hr x a R X N;have M:=P.row R<|Wp N;let#[v,hv]:∃v,vs[d]?=!v:=#[_,Zl<|Ia m<|Eq.trans e2 M];have af:R[d]?=!(!t):=by
    rw[show A.getD x []=R by rw[Yf,N];rfl,Yf,Zl<|Ia m M]at ht;rw[Zl<|Ia m M];show Ö some ht
   let#[b,rfl,eb]:=e3 d v _ hv af;apply di (gI ep) (aH (j:=x) (v:=.ref a)<|by rw[À,X];rfl) ?_;apply di (gI e1) (aH (j:=d) (v:=.ref b) hv) ?_;apply fW eb ?_;apply#[G.1,ga,pp,x,t.1,G.2,_,A,rfl,(w3 G<|Wp L).same S5,eg,ad.same T,P.inP wf ab x G.2<|Wp ah,#[w,k1],λya w' H6 s6 ag hy=>?_];rw[k1]at ag
   cases ag;let#[ca,y1,y2]:=hy;dsimp only at y1 y2;have C:=(s5.trans s6).get U;apply eO (gI C) ?_;apply fW y1 ?_;apply jA C (by rw[Qb];rfl') ?_;have al:upd H6 O (HO.lst<|(B.map λw=>V.str w.1)++[V.str w.1]) ya=!(.tup [.str w.1,.ref ca,.int w.2.2]):=by rw[ao<|bC y1 C<|by intro z;cases z];show y1
   have a3:upd H6 O (HO.lst<|(B.map λw=>V.str w.1)++[V.str w.1]) ca=!(.tup<|nv w.2.1):=by rw[ao<|bC y2 C<|by intro z;cases z];show y2
   apply dB al ?_;apply cj (gL a3) ?_;rw[Qb];apply jY al ?_;symm;let#[n',rfl]:∃n',n=n'+1:=#[n-1,()];rw[qx cx ht<|by rw[W];show k1]at D;show#[#[B++[w],x+↑w.2.1,w.2.2.toNat,n',u,(sb.same<|s5.trans s6).set<|by simp,by rw[aa,Á];rfl,k7,qtC a2 Y,(),by rw[Ē];show D,k5,by rw[Ë,à];show Nat.add_le_add aw k8,λy my=>?_,!(.ref ya),?_],?_]
   .rcases Ê.mp my with my|my
    .show ac y my
    .rw [Zs.mp my];let#[c,ec]:=wf.sg _<|Fo.cH k3;dsimp only at ec;rw[ec,cX];rfl
   .rw [show((w.2.2.toNat:Nat):Int)=w.2.2 by show Sv k9,show((x+↑w.2.1:Nat):Int)=(x:Int)+(↑w.2.1:Int)from rfl];rfl
   .show ↑F-((x:Int)+(↑w.2.1:Int)).toNat<↑F-((x:Int)).toNat;rfl'
  .rw [vC (),í]at D;rw[<-D]at q;apply Vn (ys:=B.map (·.1)) (gI<|by rw[U,Ä];rfl) ?_ ?_
   .have e0:↑(Str.ofString "")=0:=rfl;rw[e0,Nat.mul_zero,Nat.add_zero,Ä];have:∀l:ϳ,(∀w∈l,↑w.1=1)->(l.map ((λs:ϐ=>↑s)∘λw:ϐ×ϊ Nat×Int=>w.1)).sum=↑l:=λl=>by
     induction l with
     |nil=>intro _;rfl
     |cons y r ih=>intro hl;rw[È,Ģ,ih λz mz=>hl z<|Ç _ mz];change↑y.1+_=_;rw[hl y Ì,ê];show ō 1 _
    rw[this B ac];rfl'
   .show q _ SH
 .rintro σ H Q Q' hq ⟨v,hv,w,hw,x,n,e,hl,i,j,e1,e2,k,e3,z⟩;show#[v,hv,w,hw,x,n,e,hl,i,j,e1,e2,k,e3,hq _ _ z]
inductive ft(K:Ϗ)(vs:ϊ V)(H:Hp)(Q:VK)(E:XK):Prop
 |mk (f e p:ό) (h:Nat) (b:ϵ) (a:L2S) (d:ϊ Int) (c:ϊ Nat) (g:vs=[.ref f,.ref e,.ref p]) (i:FnF K H f h b) (j:Fo.Wf h b) (k:HsG K H e a d) (l:(1<=↑a/\↑a<=40)) (m:(∀ps∈a,↑ps<=1000)) (n:(∀ps∈a,∀q∈ps,0<=q.2/\q.2<↑a)) (o:SqL K H p<|nv c) (r:↑c<=1000) (s:∀v H',Same H H'->NrP H' v (ZW b c a d)->Q v H')
def Dm K(E:XK)(Eh:XK):=(az (aL (bG (dV K)<|oF aV bj bW)<|ak 3)
  (az (aL (aO (fu K) (aO (fu K) cF<|tI 0)<|tI 0)<|ak 4)
  (az (bH (aQ<|aO kE dZ<|tC V.non) (aP<|tC V.non) aU)
  (aP<|dG<|oF (bG (eA K)<|Ri aV bj bW cF) (tX K dZ 0)<|tX K dZ 1))))
abbrev Do:ϊ ϐ:=sN ["font","house","strip","paper","thing"]
theorem Xo(h:ft K vs H Q E):RG (Dm K E) Do vs H Q:=by
 let#[f,R,p,h,c,e,g,d,rfl,L,G,M,#[k,i],o,r,N,u,q]:=h;show#[E0,?_];unfold Dm Do sN;apply#[f,R,p,h,c,e,g,d,rfl,L,G,M,i,λW w=>#[o W w,r W w],N,u,λU I X x ac A=>?_];have P:IsP c d e g (MN c d e g):=MP G;have D:ZW c d e g=(((MN c d e g).getD 0 []).getD 0 none).map λt=>(nW c d (e.map<|aD c) (MN c d e g) ↑d 0 0,t.1,t.2):=rfl
 change PpN H I U (MN c d e g) X at A;generalize MN c d e g=rows at P A D;let#[B,ab,ep,hr]:=A.t;have ad:=P.len;let#[a,n]:∃a,B[0]?=!a:=#[_,Zl ()];let#[m,l]:∃m,rows[0]?=!m:=#[_,Zl ()];let#[vs,Y,Z,e3]:=hr 0 a m n l;have s:=P.row m<|Wp l;let#[v,T]:∃v,vs[0]?=!v:=#[_,Zl<|Ia k<|Eq.trans Z s];let#[t,S]:∃t,m[0]?=!t:=#[_,Zl<|Ia k s];have O:=e3 0 v t T S;have C:(rows.getD 0 []).getD 0 none=t:=by
  rw[show rows.getD 0 []=m by rw[Yf,l];rfl,Yf,S];rfl
 apply di (gI ep) (aH (j:=0) (v:=.ref a)<|by rw[À,n];rfl) ?_;apply di (gI Y) (aH (j:=0) (v:=v) T) ?_;symm
 cases t with
 |none=>
  cases O;show nP rfl ?_;apply q .non I x ?_;rw[D,C];rfl
 |some t=>
  let#[b,rfl,J]:=O;show nQ (by intro z;cases z) ?_;apply#[f,R,p,U,h,c,e,g,d,rows,rfl,L.same x,G,M.same x,#[k,i],o,r,x.seq N,u,A.t,P,#[t,C],λH2 F=>?_];apply fW (F.get J) ?_;apply dB (F.get J) ?_;symm;intro y hy;show q _ _ ((x.trans F).new hy) ?_;rw[D,C];show#[y,rfl,aa]
inductive e8(K:Ϗ)(vs:ϊ V)(H:Hp)(Q:VK)(E:XK):Prop
 |mk (f:ό) (e:Nat) (b:ϵ) (a:ϊ Nat) (g:vs=[.ref f,.str<|tx a]) (h:FnT K H f e b) (i:Fo.Wf e b) (j:↑a<=1000) (k:(∀c∈a,∃d,Fo.lk b (tx [c])=!d)) (l:∀r H',H r=none->Same H H'->H' r=!(.lst<|nv<|Fo.m7 b a)->Q (.ref r) H')
def Dq K(E:XK)(Eh:XK):=(az (aL (gO gf)<|ak 2)
  (az (cC (GK bj) (ak 3)<|cL<|rC K "list" jK bW<|cu<|bG (eu K)<|bQ aV cF)
  (aP bW)))
abbrev Dr:ϊ ϐ:=sN ["font","text","strip","sign"]
theorem Xp(h:e8 K vs H Q E):RG (Dq K E) Dr vs H Q:=by
 let#[f,C,s,a,rfl,z,t,D,m,q]:=h;show#[E0,?_];unfold Dq Dr sN;symm;intro r n;symm;have j:∀p∈[r],H p=none:=λp B=>by rw[Zs.mp B];show n
 show Ku (λi u b=>(An3 (Sb [r] H b) (b r=!(.lst<|nv<|Fo.m7 s<|a.take i))<|Ex1 λo=>u=[!(.ref f),!(.str<|tx a),!(.ref r),o])) #[Sb.of<|aq n _,aa,none,rfl] ?_ ?_
 .rintro i c u b A ⟨l,e,o,rfl⟩;have g:a[i]?=!c:=by simpa[tx]using A
  have y:a.take (i+1)=a.take i++[c]:=by rw[Ò,g];rfl
  have F:=t.pic_le<|a.take i;have I:↑(a.take i)<=1000:=by rw[Ñ];rfl'
  let#[v,w]:=m c<|Wp g;have d:Fo.cl s c=v:=by unfold Fo.cl;rw[w];rfl
  have x:=t.cl_le c;rw[d]at x;apply eO (gI e) ?_;apply#[f,C,s,tx [c],v,rfl,by rw[cX];simp,z.same<|l.off j,t.sg,w,λG k=>?_];apply lW (aF k e) aa (by simp;rfl') ?_;apply#[(l.new k).set<|by simp,by rw[aa,y,Fo.xN,d,nv,nv,nv,Á],_,rfl]
 .rintro u b ⟨l,e,o,rfl⟩;rw[show(tx a).cps.size=↑a from rfl,Þ]at e;apply q r b n (l.off j) e
inductive fy(K:Ϗ)(vs:ϊ V)(H:Hp)(Q:VK)(E:XK):Prop
 |mk (f:ό) (g:Nat) (a:ϵ) (b e:ϊ Nat) (i:vs=[.ref f,.str<|tx b,.str<|tx e]) (j:FnT K H f g a) (k:Fo.Wf g a) (l:g<=60) (m:↑b<=1000) (n:↑e<=1000) (o:↑(Fo.m7 a b)<=1000) (p:(∀c∈b,∃d,Fo.lk a (tx [c])=!d)) (q:(∀c∈e,∃d,Fo.lk a (tx [c])=!d)) (s:↑(Fo.m7 a b)=↑(Fo.m7 a e)) (h:∀r H',H r=none->Same H H'->H' r=!(.lst<|nv<|Mm.bV (Fo.m7 a b)<|(Mm.aY (Fo.m7 a b)<|Fo.m7 a e).take<|(↑(Mm.aY (Fo.m7 a b)<|Fo.m7 a e)+1)/2)->Q (.ref r) H')
def Ds K(E:XK)(Eh:XK):=(az (aL (bG (e8 K)<|bQ aV bj)<|ak 3)
  (az (aL (bG (bP K)<|bQ cF<|bG (e8 K)<|bQ aV bW)<|ak 4)
  (aP<|bG (fR K)<|oF (tX K aV 0) cF<|vV (vY K) dZ cO<|dN<|aO pH (aO bN (fP K dZ)<|tI 1)<|tI 2)))
abbrev Dt:ϊ ϐ:=sN ["font","one","other","picture","spots"]
theorem Xq(h:fy K vs H Q E):RG (Ds K E) Dt vs H Q:=by
 let#[f,d,e,g,r,rfl,y,L,i,A,B,k,F,G,X,q]:=h;show#[E0,?_];unfold Ds Dt sN;have l:∀{n:Nat},n<2^d->n<2^60:=λh=>Ó h<|Ν (by decide) i
 have t:∀N,∀x∈Fo.m7 e N,x<2^d:=λN x p=>by
  let#[c,_,m]:=û.mp p;show L.cl_lt c x m
 let#[l0,Y,_,_,_,_,_]:=y.at;apply#[f,d,e,g,rfl,y,L,A,F,λS H1 Z I O=>?_];apply#[f,d,e,r,rfl,y.same I,L,B,G,λr2 H2 ab u U=>?_];apply#[S,r2,_,_,rfl,gI<|u.get O,gI U,X,k,λx p=>l<|t g x p,λx p=>l<|t r x p,λr3 H3 b ac J P w hz=>?_];have D:↑b=↑(Mm.aY (Fo.m7 e g)<|Fo.m7 e r):=by rw[<-w,Qb]
 apply cM (((I.trans u).trans J).tup Y) (aH (j:=0) (v:=.int (d:Int)) rfl) ?_;apply cg (gI P) ?_;rw[Qb];symm;rw[show((↑b:Int)+1)/2=(((↑b+1)/2:Nat):Int)by rfl'];show xJ (gI P) λr4 a=>?_
 rw[pY (),Ô,<-ŀ];symm;have M:=((I.trans u).trans J).new (o:=HO.lst ((b.take<|(↑b+1)/2).map λz:ό×Int×Int=>V.ref z.1)) a;show#[d,S,r4,Fo.m7 e g,(b.take<|(↑b+1)/2).map (·.2),rfl,gI<|aF a<|J.get<|u.get O,SpH.spl (λz mz=>aF a<|hz z<|Ā mz)<|gI aa,i,k,λs R=>?_,λr5 T C s5 W=>?_]
 .rw [ŀ,w]at R;show Mm.iu (t g) (t r) s<|Ā R
 .show q r5 T (M.free C) (M.trans s5) ?_;rw[W,ŀ,w,D]
inductive aT(K:Ϗ)(vs:ϊ V)(H:Hp)(Q:VK)(E:XK):Prop
 |mk (a:ό) (b:ϊ Int) (k:Nat) (c:vs=[.ref a,.int k]) (d:SqL K H a<|b.map V.int) (e:Q (.int<|Mm.cellAt b k) H)
def Du K(E:XK)(Eh:XK):=(az (bH (aQ<|aO GQ bj<|fP K aV) (aP<|aO (fu K) aV bj) aU)
  (aP<|tI 0))
abbrev Dv:ϊ ϐ:=sN ["script","k"]
theorem Xr(h:aT K vs H Q E):RG (Du K E) Dv vs H Q:=by
 let#[a,d,k,rfl,b,q]:=h;show#[E0,?_];unfold Du Dv sN;apply cg b ?_;symm;rw[Qb];show fJ (λc=>?_) λc=>?_
 .symm;show di b (aH (v:=V.int<|Mm.cellAt d k) ?_) ?_
  .rw [À,Zl<|V1 c,Ŝ,Mm.getD_some<|Zl<|V1 c]
  .show q
 .symm;rw[Mm.getD_none<|qnC c]at q;show q
inductive eI(K:Ϗ)(vs:ϊ V)(H:Hp)(Q:VK)(E:XK):Prop
 |mk (a:Int) (k:Nat) (b:vs=[.int a,.int k]) (c:k<=2000) (d:∀i:Int,0<=i->i<2147483399->Q (.int i) H)
def Dw(K:Ϗ)(E:XK)(Eh:XK):=(aP<|aO dh (aO ik (aO bN (aO bN (aO ik (aO dh aV<|tI 1000000007)<|aO bN (tI 48271)<|aO ik (tI 2) bj)<|aO ik (aO ik (tI 19) bj) bj)<|tI 29)<|tI 40692)<|tI 2147483399)
abbrev Dy:ϊ ϐ:=sN ["cell","k"]
theorem Xu(h:eI K vs H Q E):RG (Dw K E) Dy vs H Q:=by
 let#[a,k,rfl,b,q]:=h;show#[E0,?_];unfold Dw Dy sN;apply q _ () ()
theorem T6(x:Int):vW Hs.Og.cps.toList (x%94)=!(Hs.xM x):=by
 have b:↑Hs.Og.cps.toList=94:=by ac_nf
 let#[n,a,c]:=Mm.dU x 94 (by decide);rw[show x%94=(n:Int)from a];show aH ?_;unfold Hs.xM;rw[show x%94=(n:Int)from a,Ô,Yf,Zl ()];rfl
inductive f4(K:Ϗ)(vs:ϊ V)(H:Hp)(Q:VK)(E:XK):Prop
 |mk (cl:Int) (a:vs=[.int cl,.int 5]) (b:∀cs:ϊ Nat,↑cs=6->cs.Nodup->(∀c∈cs,Hs.Sg<|tx [c])->Q (.str<|tx cs) H)
abbrev Rx K:=(az (aL (aO vX bW cF)<|ak 4)
  (az (cC (eG<|cu bj) (ak 5) (az (aL (aO dh (aO bN (aO bN cF<|tI 1)<|aO dh (bG (eI K)<|bQ aV gw)<|tI 15)<|tI 94)<|ak 3)
  (aL (aO eX dZ<|aO vX bW cF)<|ak 4)))
  (aP dZ)))
def Ng K(E:XK)(Eh:XK):=(az (aL (tC<|V.str (Str.ofString " !\"#$&'()*+,-./0123456789:;<=>?@ABCDEFGHIJKLMNOPQRSTUVWXYZ[\\]^_`"))<|ak 2)
  (az (aL (aO eX bW<|tC<|V.str<|Str.ofString "abcdefghijklmnopqrstuvwxyz{|}~")<|ak 2)
  (az (aL (aO dh aV<|tI 94)<|ak 3)
  (Rx K))))
abbrev Nh:ϊ ϐ:=sN ["cell","many","some","at","signs","k"]
theorem ZX(h:f4 K vs H Q E):RG (Ng K E) Nh vs H Q:=by
 let#[cl,rfl,q]:=h;show#[E0,?_];unfold Ng Nh sN;apply mR (by decide) ?_;change _;apply sW (c:=Hs.xM cl) (by decide) (T6 cl) ?_;apply kJ 5 rfl (by decide) (by decide) (λi p v=>(An2 (H=v) (Ex3 λ(b:ϊ Nat) (a:Nat) (o:ύ V)=>(An5 (↑b=i+1) (a<=15*i) (b.Nodup) (∀c∈b,∃e:Nat,e<=a/\c=Hs.xM (cl+(e:Int))) (p=[!(.int cl),!(.int 5),!(.str Hs.Og),!(.int ((cl+(a:Int))%94)),!(.str (tx b)),o]))))) #[rfl,[Hs.xM cl],0,none,rfl,(),by simp,λc mc=>#[0,(),by rw[Zs.mp mc];simp],by simp;rfl] ?_ ?_
 .rintro i p _ A ⟨rfl,b,a,o,n,l,f,g,rfl⟩;apply#[cl,i,rfl,(),λt B C=>?_];let#[d,j,x]:=Mm.dU t 15 (by decide);symm;rw[show t%15=(d:Int)from j,show((cl+(a:Int))%94+1+(d:Int))%94=(cl+((a+1+d:Nat):Int))%94 by rfl'];walk_at "ns";show sW (c:=Hs.xM (cl+((a+1+d:Nat):Int))) (by decide) (T6 _) ?_;show mR (by rw[cX];change↑b+1<=_;rfl') ?_;apply#[rfl,b++[Hs.xM (cl+((a+1+d:Nat):Int))],a+1+d,!(.int (i:Nat)),by simp[n],(),?_,λc mc=>?_,?_]
  .rw [ä];show#[f,by simp,λu y w z s=>?_];let#[r,m,k]:=g u y;rw[Zs.mp z,k]at s;have:=Hs.R7 s;rfl'
  .rcases Ê.mp mc with mc|mc
   .obtain ⟨r,m,k⟩:=g c mc;show#[r,(),k]
   .show #[a+1+d,(),Zs.mp mc]
  .rw [<-q9];rfl
 .rintro p _ ⟨rfl,b,a,o,n,l,f,g,rfl⟩;apply q b n f λc mc=>by let#[e,_,rfl]:=g c mc;show#[_,rfl]
def LtB(H:Hp)(ht:Nat)(z:Lz):Prop:=H z.1=!(.tup [.str z.2.1,.ref z.2.2.1])/\H z.2.2.1=!(.lst<|nv z.2.2.2)/\1<=↑z.2.2.2/\↑z.2.2.2<=3/\∀x∈z.2.2.2,x<2^ht
def LtB.same{z:Lz}(h:LtB H ht z)(s:Same H H'):LtB H' ht z:=#[s.get h.1,s.get h.2.1,h.2.2]
theorem LtB.set{z:Lz}{r:ό}{b c:ϊ V}(h:LtB H ht z)(a:H r=!(.lst b))(n:z.2.2.1≠r):LtB (upd H r<|.lst c) ht z:=#[by rw[ao (λe=>by have:=h.1;rw[e,a]at this;cases this)];show h.1,by rw[ao n];show h.2.1,h.2.2]
inductive dE(K:Ϗ)(vs:ϊ V)(H:Hp)(Q:VK)(E:XK):Prop
 |mk (a:ό) (e:ϊ Int) (b:ϊ Nat) (d:Nat) (f:vs=[.ref a,.str<|tx b,.int d]) (g:SqL K H a<|e.map V.int) (h:↑b=6) (i:d<=60) (j:∀r H' (zs:ϊ Lz),Same H H'->H r=none->H' r=!(.lst (zs.map λz:Lz=>V.ref z.1))->(∀z∈zs,LtB H' d z)->1<=↑zs->↑zs<=4->zs.map (·.2.1)=(b.take ↑zs).map (λc=>tx [c])->Q (.ref r) H')
abbrev Ry K:=(az (cC (eG<|cu<|aO bN (tI 1)<|aO dh (bG (eI K)<|bQ jk<|tI 20)<|tI 3) (ak 8)<|cL<|rC K "list" d7 yl<|cu<|aO dh (aO ik (bG (eI K)<|bQ jk<|aO bN (tI 21) Lj)<|tI 2147483659)<|aO Jl (tI 1) bW)
  (az (bH (tK (aQ<|aO vQ gw<|tI 1)<|aQ<|aO vQ (aO dh (bG (eI K)<|bQ cF<|tI 11)<|tI 9)<|tI 0) (aL (gY (j5 K)<|cu<|tX K (aO (fu K) dZ<|tI 0) 1)<|ak 7) aU)
  (cL<|rC K "list" d7 dZ<|cu<|dG<|bQ (aO vX bj gw) yl)))
abbrev Rz K:=(az (cC (eG<|cu<|aO bN (tI 1)<|aO dh (bG (eI K)<|bQ cF<|tI 10)<|tI 4) (ak 5) (az (aL (aO bN (bG (aT K)<|bQ aV<|aO bN (tI 3) gw)<|aO ik (tI 31) gw)<|ak 6)
  (az (aL (gO gf)<|ak 7)
  (Ry K))))
  (aP dZ))
def Ni K(E:XK)(Eh:XK):=(az (aL (bG (aT K)<|bQ aV<|tI 2)<|ak 3)
  (az (aL (gO gf)<|ak 4)
  (Rz K)))
abbrev Nm:ϊ ϐ:=sN ["script","signs","height","cell","letters","k","own","columns","j"]
theorem ZZ(h:dE K vs H Q E):RG (Ni K E) Nm vs H Q:=by
 let#[a,X,u,l,rfl,hS,h6,af,q]:=h;show#[E0,?_];unfold Ni Nm sN;apply#[a,X,2,rfl,hS,?_];generalize Mm.cellAt X 2=cl;symm;intro r hr;apply#[cl,10,rfl,by decide,λmx m0 m1=>?_];let#[n,en,hn]:=Mm.dU mx 4 (by decide);symm;rw[show mx%4=(n:Int)from en,show(1:Int)+(n:Int)=((n+1:Nat):Int)by rfl'];have M:∀p∈[r],H p=none:=λp I=>by rw[Zs.mp I];show hr
 show kJ (n+1) (Ô _) () () (λi B k=>(Ex5 λ(g:ϊ Lz) (o5 o6 o7 s:ύ V)=>(An7 (Sb [r] H k) (k r=!(.lst (g.map λz:Lz=>V.ref z.1))) (∀z∈g,LtB k l z) (↑g=i) (g.map (·.2.1)=(u.take i).map (λc=>tx [c])) (∀z∈g,z.2.2.1≠r)<|B=[!(.ref a),!(.str<|tx u),!(.int (l:Nat)),!(.int cl),!(.ref r),o5,o6,o7,s]))) #[[],_,_,_,_,Sb.of<|aq hr _,aa,by simp,rfl,rfl,by simp,rfl] ?_ ?_
 .rintro i B C hi ⟨g,o5,o6,o7,s,Y,e,W,hl,hs,w,rfl⟩;have O:i<↑u:=()
  symm;rw[show(3:Int)+(i:Int)=((3+i:Nat):Int)by rfl'];show#[a,X,3+i,rfl,Y.seq M hS,?_];symm;generalize Mm.cellAt X (3+i)+31*(i:Int)=ow;intro c U;apply#[ow,20,rfl,by decide,λmy y0 y1=>?_];let#[m,em,hm]:=Mm.dU my 3 (by decide);symm;rw[show my%3=(m:Int)from em,show(1:Int)+(m:Int)=((m+1:Nat):Int)by rfl'];have ab:∀p∈[c],C p=none:=λp I=>by rw[Zs.mp I];show U
  show kJ (m+1) (Ô _) () () (λj B k=>(Ex2 λ(d:ϊ Nat) (s:ύ V)=>(An5 (Sb [c] C k) (k c=!(.lst<|nv d)) (↑d=j) (∀x∈d,x<2^l)<|B=[!(.ref a),!(.str<|tx u),!(.int (l:Nat)),!(.int cl),!(.ref r),!(.int (i:Nat)),!(.int ow),!(.ref c),s]))) #[[],_,Sb.of<|aq U _,aa,rfl,by simp,rfl] ?_ ?_
  .rintro j B H2 hj ⟨d,s,A,J,R,o,rfl⟩;apply eO (gI J) ?_;symm;rw[show(21:Int)+(j:Int)=((21+j:Nat):Int)by rfl'];show#[ow,21+j,rfl,(),λmz z0 z1=>?_];symm;let#[x,ex,hx]:∃x:Nat,mz*2147483659%(1*2^((l:Nat):Int).toNat)=(x:Int)/\x<2^l:=by
    rw[Ô,Int.one_mul,<-Bx.ie];show Mm.dU _ _<|Nat.two_pow_pos l
   rw[ex];show jA J (by simp;rfl') ?_;apply#[d++[x],_,A.set (by simp),by rw[aa,nv,nv,Á];rfl,by simp[R],λy my=>?_,rfl];rcases Ê.mp my with my|my
   .show o y my
   .rw [Zs.mp my];show hx
  .rintro B H2 ⟨d,s,A,J,R,o,rfl⟩;have D:=A.off ab;with_reducible show Ky (λT k=>(Ex2 λ(G:ό) (d:ϊ Nat)=>(An7 (Same C k) (C G=none) (k G=!(.lst<|nv d)) (1<=↑d) (↑d<=3) (∀x∈d,x<2^l)<|T=[!(.ref a),!(.str<|tx u),!(.int (l:Nat)),!(.int cl),!(.ref r),!(.int (i:Nat)),!(.int ow),!(.ref G),s]))) ?_ ?_
   .rintro T H3 ⟨G,ae,F,L,e3,ac,ad,P,rfl⟩;apply eO (gI<|F.get e) ?_;apply sW (c:=u[i]) (by rw[cX];rfl') (aH (by rw[lA];show Zl O)) ?_;symm;intro t b;apply jA (aF b<|F.get e) (by simp;rfl') ?_;symm;have S:G≠r:=λz=>by rw[z,e]at L;cases L
    show#[g++[(t,tx [u[i]],G,ae)],_,_,_,_,((Y.same F).new b).set (by simp),by rw[aa,Á];rfl,λz mz=>?_,by simp[hl],?_,λz mz=>?_,rfl]
    .rcases Ê.mp mz with mz|mz
     .show (((W z mz).same F).same<|aq b _).set (aF b<|F.get e)<|w z mz
     .rw [Zs.mp mz];show LtB.set #[aa,aF b e3,ac,ad,P] (aF b<|F.get e) S
    .rw [Á,hs,Ò,Zl O,Á];rfl
    .rcases Ê.mp mz with mz|mz
     .show w z mz
     .rw [Zs.mp mz];show S
   .intro N Z;apply fJ (λc1=>?_) λc1=>?_
    .symm;show#[cl,11,rfl,by decide,λmw w0 w1=>?_];apply fJ (λc2=>?_) λc2=>?_
     .obtain ⟨z,rfl⟩:∃z,g=[z]:=List.length_eq_one_iff.mp ();have f:=(W z (by simp)).same D;apply di (gI<|D.get e) (aH (j:=0) (v:=.ref z.1) rfl) ?_;apply dB f.1 ?_;apply pZ (gI f.2.1) λp I=>?_
      apply Z _ _ #[p,z.2.2.2,D.new I,D.free I,aa,f.2.2.1,f.2.2.2.1,f.2.2.2.2,rfl]
     .symm;show Z _ _ #[c,d,D,U,J,(),(),o,rfl]
    .symm;show Z _ _ #[c,d,D,U,J,(),(),o,rfl]
 .rintro B C ⟨g,o5,o6,o7,s,Y,e,W,hl,hs,w,rfl⟩;apply q r C g (Y.off M) hr e W () () (by rw[hl];show hs)
def a2j(cs:ϊ Nat)(m:Nat)(zs:ϊ Dz):Prop:=(zs.map (·.2.1)).Sublist (cs.map<|λc=>tx [c])/\∀z∈zs,0<=z.2.2/\z.2.2<(m:Int)
inductive aI(K:Ϗ)(vs:ϊ V)(H:Hp)(Q:VK)(E:XK):Prop
 |mk (cl:Int) (a:ϊ Nat) (m:Nat) (b:vs=[.int cl,.str<|tx a,.int m]) (d:(∀c∈a,Hs.Sg<|tx [c])) (e:a.Nodup) (f:↑a<=6) (g:1<=m) (h:m<=3) (i:∀r H' ds es,Same H H'->HsT K H' r ds es->HsO a ds es->Q (.ref r) H')
abbrev RB K:=(az (cC (eG<|cu<|fP K bj) (ak 6)<|bH (aQ<|aO qN (aO dh (bG (eI K)<|bQ aV<|aO bN (aO bN (tI 100)<|aO ik (tI 10) dZ) jk)<|tI 5)<|tI 0) (cL<|rC K "list" d7 gw<|cu<|dG<|bQ (aO vX bj jk)<|aO dh (bG (eI K)<|bQ aV<|aO bN (aO bN (tI 200)<|aO ik (tI 10) dZ) jk) bW) aU)
  (cL<|rC K "list" d7 cF<|cu gw))
abbrev RC K:=(az (cC (eG<|cu bW) (ak 4) (az (aL (gO gf)<|ak 5)
  (RB K)))
  (aP<|bG (eC K)<|bQ cF<|m6 [none,!0] (eG<|cu bW) (ak 0) (aQ<|aO qN (aO dh (bG (eI K)<|bQ bj<|aO bN (tI 300) aV)<|tI 3)<|tI 0) aV))
def Np K(E:XK)(Eh:XK):=(az (aL (gO gf)<|ak 3)
  (RC K))
abbrev G7:ϊ ϐ:=sN ["cell","signs","many","doors","k","row","j"]
theorem a00(h:aI K vs H Q E):RG (Np K E) G7 vs H Q:=by
 let#[cl,n,m,rfl,af,ae,h6,ac,ad,q]:=h;show#[E0,?_];unfold Np G7 sN;symm;intro d hd;apply kJ m (Ô _) () () (λi J y=>(Ex4 λ(I:ϊ<|ό×ϊ Dz) (o4 o5 R:ύ V)=>(An5 (y d=!(.lst<|I.map λr=>V.ref r.1)) (Same H y) (↑I=i) (∀f∈I,f.1≠d/\RwH y f/\a2j n m f.2)<|J=[!(.int cl),!(.str<|tx n),!(.int (m:Nat)),!(.ref d),o4,o5,R]))) #[[],_,_,_,aa,aq hd _,rfl,by simp,rfl] ?_ ?_
 .rintro i J T hi ⟨I,o4,o5,R,l,s1,A,s,rfl⟩;symm;intro w B;have ab:∀p∈[w],T p=none:=λp hp=>by rw[Zs.mp hp];show B
  apply uE (by rw[cX];rfl') ?_;rw[cX];apply kJ ↑n (Ô _) () () (λj J y=>(Ex2 λ(C:ϊ Dz) (R:ύ V)=>(An6 (Sb [w] T y) (RwH y (w,C)) (↑C<=j) ((C.map (·.2.1)).Sublist<|(n.take j).map λc=>tx [c]) (∀z∈C,0<=z.2.2/\z.2.2<(m:Int))<|J=[!(.int cl),!(.str<|tx n),!(.int (m:Nat)),!(.ref d),!(.int (i:Nat)),!(.ref w),R]))) #[[],_,Sb.of<|aq B _,#[aa,by simp],by simp,by simp,by simp,rfl] ?_ ?_
  .rintro j J H2 hj ⟨C,o,Y,F,G,g,L,rfl⟩;have et:(n.take<|j+1).map (λc=>tx [c])=(n.take j).map (λc=>tx [c])++[tx [n[j]]]:=by rw[Ò,Zl hj,Á];rfl
   symm;rw[show(100:Int)+10*(i:Int)+(j:Int)=((100+10*i+j:Nat):Int)by rfl'];show#[cl,100+10*i+j,rfl,(),λmx _ _=>?_];apply fJ (λc=>?_) λc=>?_
   .symm;show eO (gI F.1) ?_;apply sW (c:=n[j]) (by rw[cX];show jb h6) (aH<|by rw[lA];show Zl hj) ?_;symm;rw[show(200:Int)+10*(i:Int)+(j:Int)=((200+10*i+j:Nat):Int)by show rfl];show#[cl,200+10*i+j,rfl,(),λmy _ _=>?_];let#[k,ek,hk]:=Mm.dU my m ac;symm;rw[ek];intro t X;apply jA (aF X F.1) (by simp;rfl') ?_;apply#[C++[(t,tx [n[j]],(k:Int))],_,(Y.new X).set<|by simp,#[by rw[aa,Á];rfl,λz mz=>?_],by simp;show G,?_,λz mz=>?_,rfl]
    .have O:∀{x:ό}{M:ϊ V},upd H2 t (.tup [.str<|tx [n[j]],.int (k:Int)]) x=!(.tup M)->x≠w:=λD e=>by rw[e,aF X F.1]at D;cases D
     rcases Ê.mp mz with mz|mz
     .have:=(aq X<|.tup [.str<|tx [n[j]],.int (k:Int)]).get<|F.2 z mz;rw[ao<|O this];show this
     .rw [Zs.mp mz,ao<|O aa];show aa
    .rw [et,Á];show g.append<|List.Sublist.refl _
    .rcases Ê.mp mz with mz|mz
     .show L z mz
     .rw [Zs.mp mz];show#[by change(0:Int)<=(k:Int);show Oe _,by change(k:Int)<(m:Int);show qdT hk]
   .symm;show#[C,_,Y,F,Sw G _,by rw[et];show g.trans<|List.sublist_append_left _ _,L,rfl]
  .rintro J H2 ⟨C,o,Y,F,G,g,L,rfl⟩;rw[Þ]at g;have S:=Y.off ab;apply eO (gI<|S.get l) ?_;apply jA (S.get l) (by simp;rfl') ?_;symm;have P:w≠d:=λe=>by rw[e,l]at B;cases B
   show#[I++[(w,C)],_,_,_,by rw[aa,Á];rfl,λb u N=>?_,by simp[A],λf mr=>?_,rfl]
   .rw [ao<|λe=>by rw[e,hd]at N;cases N];show S b u<|s1 b u N
   .rcases Ê.mp mr with mr|mr
    .show #[(s f mr).1,((s f mr).2.1.same S).set (S.get l) (s f mr).1,(s f mr).2.2]
    .rw [Zs.mp mr];show#[P,F.set (S.get l) P,g,L]
 .rintro J T ⟨I,o4,o5,R,l,s1,A,s,rfl⟩;apply Hy m (Ô _) (jb ad) (qmN _) (λi M y=>(An2 (y=T)<|Ex1 λ(v:ϊ Int)=>(An4 (M=v.map V.int) (↑v<=i) (v.Nodup) (∀x∈v,0<=x/\x<(i:Int))))) #[rfl,[],rfl,by simp,by simp,by simp] ?_ ?_ ?_
  .rintro i M _ ⟨rfl,v,rfl,U,_⟩;rw[Qb];show U
  .rintro i M _ hi ⟨rfl,v,rfl,U,W,D⟩;symm;rw[show(300:Int)+(i:Int)=((300+i:Nat):Int)by show rfl];show#[cl,300+i,rfl,(),λmx _ _=>?_];apply fJ (λc=>?_) λc=>?_
   .symm;show#[rfl,v++[(i:Int)],by simp,by simp;show U,?_,λx mx=>?_]
    .rw [ä];show#[W,by simp,λa ha b N e=>?_];have:=(D a ha).2;rw[Zs.mp N]at e;rfl'
    .rcases Ê.mp mx with mx|mx
     .have:=D x mx;rfl'
     .rw [Zs.mp mx];rfl'
   .show #[rfl,v,rfl,(),W,λx mx=>?_];have:=D x mx;rfl'
  .rintro M _ ⟨rfl,v,rfl,U,W,D⟩ e he;symm;have S:=aq he<|.lst<|v.map V.int;show#[d,e,I,v,n,rfl,gI<|S.get l,λf mr=>?_,af,gI aa,λx mx=>by rw[A];show D x mx,W,(),(),(),λr y ds es s' hH hO=>q r y ds es ((s1.trans S).trans s') hH hO];let#[_,B,Z,L]:=s f mr;replace B:=B.same S;show#[gI B.1,λz mz=>#[gL<|B.2 z mz,?_,by rw[A];show L z mz],Z.nodup<|sZ.mpr ae,?_]
   .obtain ⟨c,mc,ec⟩:=Zp.mp<|Z.subset<|Zp.mpr #[z,mz,rfl];show#[c,mc,ec.symm]
   .have:=Z.length_le;rw[Qb,Qb]at this;rfl'
inductive aS(K:Ϗ)(vs:ϊ V)(H:Hp)(Q:VK)(E:XK):Prop
 |mk (cl:Int) (a:ϊ Nat) (d:vs=[.int cl,.str<|tx a]) (e:1<=↑a) (f:↑a<=6) (g:∀b:ϊ Nat,↑b<=4->(∀c∈b,c∈a)->Q (.str<|tx b) H)
def DG K(E:XK)(Eh:XK):=(az (aL (tC<|V.str<|Str.ofString "")<|ak 2)
  (az (cC (eG<|cu<|aO dh (bG (eI K)<|bQ aV<|tI 400)<|tI 5) (ak 3)<|aL (aO eX bW<|aO vX bj<|aO dh (bG (eI K)<|bQ aV<|aO bN (tI 401) cF)<|fP K bj)<|ak 2)
  (aP bW)))
abbrev DK:ϊ ϐ:=sN ["cell","signs","word","j"]
theorem Xv(h:aS K vs H Q E):RG (DG K E) DK vs H Q:=by
 let#[cl,b,rfl,s,u,q]:=h;show#[E0,?_];unfold DG DK sN;apply#[cl,400,rfl,by decide,λj x y=>?_];let#[n,r,w]:=Mm.dU j 5 (by decide);symm;rw[show j%5=(n:Int)from r];show kJ n (Ô _) () () (λi e l=>(An2 (H=l) (Ex2 λ(a:ϊ Nat) (o:ύ V)=>(An3 (↑a=i) (∀c∈a,c∈b)<|e=[!(.int cl),!(.str<|tx b),!(.str<|tx a),o])))) #[rfl,[],none,rfl,by simp,rfl] ?_ ?_
 .rintro i e _ v ⟨rfl,a,o,g,d,rfl⟩;symm;rw[show(401:Int)+(i:Int)=((401+i:Nat):Int)by rfl'];show#[cl,401+i,rfl,(),λt z A=>?_];apply uE (by rw[cX];rfl') ?_;rw[cX];let#[k,p,f]:=Mm.dU t ↑b ();show KY (m:=k) s p ?_;apply sW (c:=b[k]) (by rw[cX];rfl') (aH (by rw[lA];show Zl f)) ?_;show mR (by rw[cX];change↑a+1<=_;rfl') ?_;apply#[rfl,a++[b[k]],_,by simp[g],λc mc=>?_,by rw[<-q9];rfl];rcases Ê.mp mc with mc|mc
  .show d c mc
  .rw [Zs.mp mc];show Û f
 .rintro e _ ⟨rfl,a,o,g,d,rfl⟩;apply q a () d
theorem HsO.up{b:ϊ Int}(h:HsO a ds b)(m:∀c∈a,c∈cs'):HsO cs' ds b:=by
 let#[j,k,d,l]:=h;show#[j,k,λi f=>#[(d i f).1,λq o=>?_],l];let#[#[c,n,e],g]:=(d i f).2 q o;show#[#[c,m c n,e],g]
inductive fx(K:Ϗ)(vs:ϊ V)(H:Hp)(Q:VK)(E:XK):Prop
 |mk (a:ό) (d:ϊ Int) (b:ϊ Nat) (e:vs=[.ref a,.str<|tx b]) (f:SqL K H a<|d.map V.int) (g:TupK K bJ [.int 1]) (h:(∀c∈b,Hs.Sg<|tx [c])) (i:b.Nodup) (j:1<=↑b) (k:↑b<=6) (l:∀r H' ds es,Same H H'->HsT K H' r ds es->HsO b ds es->Q (.ref r) H')
abbrev RD K:=(az (bH (aQ<|aO vQ cF<|tI 2) (aP<|bG (gi K)<|cu<|m6 [none,!1] (cB K<|vV (vY K) aV (dN<|tI 7)<|dN<|tI 12) (ak 0) du<|bG (aS K)<|bQ aV bj) aU)
  (aP<|bG (aI K)<|oF bW bj<|aO bN (tI 1)<|aO dh (bG (eI K)<|bQ bW<|tI 74)<|tI 3))
abbrev RJ K:=(az (bH (aQ<|aO vQ cF<|tI 0) (aP<|bG (gc K)<|cu<|vV yR bj cO<|dN<|RT rP<|tI 1) aU)
  (az (bH (aQ<|aO vQ cF<|tI 1) (aP<|nH (gg K) [V.non] E0<|bQ (vV yR bj cO<|dN<|RT rP<|tI 1)<|aO bN (tI 1)<|aO dh (bG (eI K)<|bQ bW<|tI 71)<|tI 4) aU)
  (RD K)))
def Nq K(E:XK)(Eh:XK):=(az (aL (bG (aT K)<|bQ aV<|tI 1)<|ak 2)
  (az (aL (aO dh (bG (eI K)<|bQ bW<|tI 70)<|tI 5)<|ak 3)
  (RJ K)))
abbrev G8:ϊ ϐ:=sN ["script","signs","cell","way"]
theorem a01(h:fx K vs H Q E):RG (Nq K E) G8 vs H Q:=by
 let#[a,d,g,rfl,L,N,f,j,P,J,q]:=h;show#[E0,?_];unfold Nq G8 sN;have e:∀c∈g.dropLast,c∈g:=λc m=>List.dropLast_subset _ m
 apply#[a,d,1,rfl,L,?_];generalize Mm.cellAt d 1=cl;apply#[cl,70,rfl,by decide,λmx _ _=>?_];apply fJ (λc=>?_) λc=>?_
 .symm;show xK (by rw[cX];rfl') ?_;rw[vp];apply#[g.dropLast,rfl,λc m=>f c<|e c m,j.sublist<|List.dropLast_sublist _,by rw[List.length_dropLast];rfl',λr i l n s o t=>q r i l n s o<|t.up e]
 apply fJ (λc=>?_) λc=>?_
 .symm;show xK (by rw[cX];rfl') ?_;rw[vp];apply#[cl,71,rfl,by decide,λx _ _=>?_];let#[k,C,R]:=Mm.dU x 4 (by decide);symm;rw[show x%4=(k:Int)from C,show(1:Int)+(k:Int)=((k+1:Nat):Int)by rfl'];show#[g.dropLast,k+1,rfl,N,λc m=>f c<|e c m,j.sublist<|List.dropLast_sublist _,by rw[List.length_dropLast];rfl',(),(),λr i l n s o t=>q r i l n s o<|t.up e]
 apply fJ (λc=>?_) λc=>?_
 .have O:gP (d.map V.int) (!7) (!12)=((d.take 12).drop 7).map V.int:=by rw[Fj (by decide) (by decide),List.map_drop,ŀ];rfl
  have D:↑((d.take 12).drop 7)<=5:=by rw[ú,Ñ];rfl'
  have u:∀b:ϊ<|ϊ Nat,(∀w∈b,↑w<=4)->(b.map List.length).sum<=4*↑b:=λb=>by
   induction b with
   |nil=>simp
   |cons w r ih=>
    intro h;have X:=ih λv mv=>h v<|Ç _ mv
    have Y:=h w Ì;rw[È,Ģ,ê];rfl'
  apply xJ L λp S=>?_
  rw[O];have I:Same H (upd H p<|.lst<|((d.take 12).drop 7).map V.int):=aq S _;have A:upd H p (.lst<|((d.take 12).drop 7).map V.int) p=!(.lst<|((d.take 12).drop 7).map V.int):=aa;generalize upd H p (.lst<|((d.take 12).drop 7).map V.int)=H1 at I A⊢;generalize(d.take 12).drop 7=ms at D A;show xH V.int (zs:=ms) (gI A) () (λk z i=>(An2 (i=H1) (Ex1 λ(b:ϊ<|ϊ Nat)=>(An3 (z=b.map (λw=>V.str<|tx w)) (↑b=k) (∀w∈b,↑w<=4/\∀c∈w,c∈g))))) #[rfl,[],rfl,rfl,by simp] ?_ ?_ ?_ ?_
  .rintro k z _ ⟨rfl,_⟩;show gI A
  .rintro k z _ ⟨rfl,b,rfl,rfl,_⟩;simp
  .rintro k y z _ Z ⟨rfl,b,rfl,M,B⟩;apply#[y,g,rfl,P,J,λw U W=>?_];show#[rfl,b++[w],by simp,by simp[M],λv mv=>?_];rcases Ê.mp mv with mv|mv
   .show B v mv
   .rw [Zs.mp mv];show#[U,W]
  .rintro z _ ⟨rfl,b,rfl,M,B⟩ T F;symm;have:=u b λw G=>(B w G).1
   show#[T,b,g,rfl,gI aa,(),(),f,λw G=>(B w G).2,λr i l n s o t=>q r i l n ((I.new F).trans s) o t]
 apply#[cl,74,rfl,by decide,λx _ _=>?_];let#[k,C,R]:=Mm.dU x 3 (by decide);symm;rw[show x%3=(k:Int)from C,show(1:Int)+(k:Int)=((k+1:Nat):Int)by rfl'];show#[cl,g,k+1,rfl,f,j,J,(),(),q]
theorem Nr{r:Int}:∀{zs:ϊ Dz},Hs.dr (zs.map (·.2)) s=!r->∃l,(zs.filter λz:Dz=>decide<|z.2.1=s).map (λz:Dz=>V.int z.2.2)=V.int r::l
 |[],h=>by cases h
 |z::zs,h=>by
  rw[È,Hs.uI]at h;by_cases e:z.2.1=s
  .rw [if_pos e]at h
   cases h;show#[_,by rw[List.filter_cons_of_pos (p:=λz:Dz=>decide<|z.2.1=s)<|Ï e];rfl]
  .rw [if_neg e]at h;let#[l,a]:=Nr h;show#[l,by rw[List.filter_cons_of_neg<|by simpa using e];show a]
inductive eJ(K:Ϗ)(vs:ϊ V)(H:Hp)(Q:VK)(E:XK):Prop
 |mk (a:ό) (b:L2S) (d:ϊ Int) (c:ϊ Nat) (r:Int) (e:vs=[.ref a,.str<|tx c]) (f:HsT K H a b d) (g:Hs.Wf b) (h:(∀ps∈b,↑ps<=1000)) (i:Hs.go b c=!r) (j:inV (.int r) (d.map V.int)=true) (k:∀H',Same H H'->Q (.bl true) H')
abbrev Nt K:=(az (cC (GK bj) (ak 3) (az (aL (m6 [none,!3] (nY K<|aO (jV K) (tX K aV 0) bW) (ak 0) (aQ<|aO vQ (tX K aV 0) bj)<|tX K aV 1)<|ak 4)
  (az (bH (aQ<|aO vQ (fP K dZ)<|tI 0) (aP<|tC<|V.bl false) aU)
  (aL (aO (fu K) dZ<|tI 0)<|ak 2))))
  (aP<|aO (Ub K false) bW<|tX K aV 1))
def DN K(E:XK)(Eh:XK):=(az (aL (tI 0)<|ak 2)
  (Nt K))
abbrev vG:ϊ ϐ:=sN ["house","text","room","sign","others"]
theorem Xw(h:eJ K vs H Q E):RG (DN K E) vG vs H Q:=by
 let#[a,m,es,b,r,rfl,hH,hw,I,x,M,q]:=h;show#[E0,?_];unfold DN vG sN;let#[d,e,Y,W,u,h3,h4,h5]:=hH;apply Ku (λi R B=>(An2 (Same H B) (Ex3 λr O P=>(An2 (Hs.go m (b.take i)=!r)<|R=[!(.ref a),!(.str<|tx b),!(.int r),O,P])))) #[gN _,0,_,_,rfl,rfl] ?_ ?_
 .rintro i c R B hc ⟨s,r,O,P,t,rfl⟩;have G:b[i]?=!c:=by simpa[tx]using hc
  have et:b.take (i+1)=b.take i++[c]:=by rw[Ò,G];rfl
  let#[g0,g1]:=Hs.Zn hw t;let#[j,rfl]:∃j:Nat,r=(j:Int):=#[r.toNat,()];have L:j<↑Y:=by rw[<-u,Qb]at g1;rfl'
  let#[g,f]:∃g,Y[j]?=!g:=#[_,Zl L];have N:=Wp f;have w:m[j]?=!g.2:=by rw[<-u,À,f];rfl
  have step:Hs.go m (b.take<|i+1)=Hs.dr g.2 (tx [c]):=by
   rw[et,Hs.Ft,t];change Hs.dr (m.getD ((j:Int)).toNat []) _=_;rw[Ô,Yf,w];rfl
  let#[n,y]:∃n,Hs.go m (b.take<|i+1)=!n:=by
   cases hg:Hs.go m (b.take<|i+1)with
   |some n=>show#[n,rfl]
   |none=>
    have U:=Hs.R4 (ys:=b.drop<|i+1) hg;rw[Ď,x]at U
    cases U
  let#[A,T,Z,z2]:=(h4 g N).same s;have hl:=I g.2<|Wp w;rw[<-T,Qb]at hl;let#[l,J]:=Nr (s:=tx [c]) (by rw[T,<-step];show y);apply fW (s.get W) ?_;apply cM (gL<|s.get h3) (aH (j:=j) (v:=.ref g.1) (by rw[À,f];rfl)) ?_;show Vx (λz:Dz=>V.ref z.1) (zs:=A) (gL Z) () (λk o H2=>(An2 (H2=B) (o=((A.take k).filter λz:Dz=>decide<|z.2.1=tx [c]).map λz:Dz=>V.int z.2.2))) #[rfl,rfl] ?_ ?_ ?_ ?_
  .rintro k o _ ⟨rfl,_⟩;show gL Z
  .rintro k o _ ⟨rfl,rfl⟩;rw[Qb];show Ð (Ę _ _) (by rw[Ñ];rfl')
  .rintro k z o _ X ⟨rfl,rfl⟩;have D:=z2 z<|Wp X;have S:A.take (k+1)=A.take k++[z]:=by rw[Ò,X];rfl
   apply fW D ?_;apply fJ (λC=>?_) λC=>?_
   .symm;show dB D ?_;show#[rfl,?_];have F:z.2.1=tx [c]:=by first|show C| injection C
    rw[S,ŕ,Á,List.filter_cons_of_pos (p:=λz:Dz=>decide<|z.2.1=tx [c])<|Ï F];rfl
   .show #[rfl,?_];have F:¬z.2.1=tx [c]:=λh=>C (by first|show h|(rw[h];rfl))
    rw[S,ŕ,Á,List.filter_cons_of_neg (p:=λz:Dz=>decide<|z.2.1=tx [c]) (λh=>F<|ô h),List.filter_nil,ă,í]
  .rintro o _ ⟨rfl,rfl⟩ p hp;rw[Þ,J];apply cg (gI aa) ?_;apply nQ (by simp;rfl') ?_;apply di (gI aa) (aH (j:=0) (v:=.int n) rfl) ?_;apply#[s.new hp,n,_,_,y,rfl]
 .rintro R B ⟨s,r',O,P,t,rfl⟩;have D:(tx b).cps.size=↑b:=by simp[tx]
  rw[D,Þ,x]at t
  cases t;apply dB (s.get W) ?_;apply R3 (.inr<|gL<|s.get h5) rfl (lV _) ?_;rw[M];show q _ s
inductive bE(K:Ϗ)(vs:ϊ V)(H:Hp)(Q:VK)(E:XK):Prop
 |mk (a:ϊ Nat) (d:ό) (e:ϊ<|Key×V) (f:Nat) (b:ϵ) (g:vs=[.str<|tx a,.ref d]) (h:H d=!(.dK e)) (i:Fo.Wf f b) (j:↑a<=100000) (k:(∀c∈a,∃p co,bh e (Sum.inr<|tx [c])=!(.ref p)/\H p=!(.lst<|nv co)/\Fo.lk b (tx [c])=!co)) (l:∀r H',Same H H'->H r=none->H' r=!(.lst<|nv<|Fo.m7 b a)->Q (.ref r) H')
def DP(K:Ϗ)(E:XK)(Eh:XK):=(az (aL (gO gf)<|ak 2)
  (az (cC (GK aV) (ak 3) (az (bH (tB<|jM cF bj) (aP<|tC V.non) aU)
  (aL (aO Ug bW<|gh bj cF)<|ak 2)))
  (aP bW)))
abbrev DQ:ϊ ϐ:=sN ["text","pictures","strip","sign"]
theorem Xx(h:bE K vs H Q E):RG (DP K E) DQ vs H Q:=by
 let#[a,d,L,J,v,rfl,C,w,I,s,q]:=h;show#[E0,?_];unfold DP DQ sN;symm;intro r u;apply Ku (λi t f=>(Ex2 λ(e:ό) (o:ύ V)=>(An4 (Same H f) (H e=none) (f e=!(.lst<|nv<|Fo.m7 v<|a.take i))<|t=[!(.str<|tx a),!(.ref d),!(.ref e),o]))) #[r,none,aq u _,u,aa,rfl] ?_ ?_
 .rintro i c t f B ⟨e,o,S,m,b,rfl⟩;have j:a[i]?=!c:=by simpa[tx]using B
  have A:a.take (i+1)=a.take i++[c]:=by rw[Ò,j];rfl
  have M:=w.pic_le<|a.take i;have N:↑(a.take i)<=100000:=by rw[Ñ];rfl'
  let#[p,y,F,D,z]:=s c<|Wp j;have g:Fo.cl v c=y:=by unfold Fo.cl;rw[z];rfl
  have x:=w.cl_le c;rw[g]at x;have n:=DGet.k (k:=Sum.inr<|tx [c])<|S.get C;rw[F]at n;apply#[d,_,rfl,n,?_];symm;change if(not true)=true then _ else _
  apply#[d,_,rfl,n,?_];apply Zi b (S.get D) (by simp;rfl') λG l=>?_
  apply#[G,_,S.new l,S.free l,by rw[aa,A,Fo.xN,g,nv,nv,nv,Á],rfl]
 .rintro t f ⟨e,o,S,m,b,rfl⟩;rw[show(tx a).cps.size=↑a from rfl,Þ]at b;apply q e f S m b
inductive cS(K:Ϗ)(vs:ϊ V)(H:Hp)(Q:VK)(E:XK):Prop
 |mk (c d:ό) (a b:ϊ Nat) (h:Nat) (e:vs=[.ref c,.ref d,.int h]) (f:SqL K H c<|nv a) (g:SqL K H d<|nv b) (i:↑a=↑b) (j:↑a<=270000) (k:h<=60) (l:(∀x∈a,x<2^h)) (m:(∀y∈b,y<2^h)) (n:∀r H' (zs:ϊ<|ό×Int×Int),H r=none->Same H H'->H' r=!(.lst<|zs.map (λz:ό×Int×Int=>V.ref z.1))->zs.map (·.2)=Mm.aY a b->SpH H' zs->Q (.ref r) H')
abbrev Nu K:=(az (cC (eG<|cu<|fP K aV) (ak 4)<|cC (eG<|cu bW) (ak 5)<|bH (aQ<|aO yz (aO Ex (aO Jm (aO (fu K) aV dZ) gw)<|tI 1)<|aO Ex (aO Jm (aO (fu K) bj dZ) gw)<|tI 1) (cL<|rC K "list" d7 cF<|cu<|dG<|bQ dZ gw) aU)
  (aP cF))
def DR K(E:XK)(Eh:XK):=(az (aL (gO gf)<|ak 3)
  (Nu K))
abbrev DW:ϊ ϐ:=sN ["left","right","height","spots","x","y"]
theorem Xy(h:cS K vs H Q E):RG (DR K E) DW vs H Q:=by
 let#[N,O,a,b,D,rfl,M,U,Z,hn,A,T,x,q]:=h;show#[E0,?_];unfold DR DW sN;symm;intro r w;apply cg (fj w M) ?_;rw[Qb];symm;have n:∀p∈[r],H p=none:=λp W=>by rw[Zs.mp W];show w
 show kJ ↑a (Ô _) () () (λi s f=>(Ex1 λ(d:ϊ<|ό×Int×Int)=>(An5 (Sb [r] H f) (f r=!(.lst (d.map (λz:ό×Int×Int=>V.ref z.1)))) (d.map (·.2)=Mm.jx a b i) (SpH f d) (Ex2 λI o=>s=[!(.ref N),!(.ref O),!(.int (D:Int)),!(.ref r),I,o])))) #[[],Sb.of<|aq w _,aa,rfl,SpH.nil,_,_,rfl] ?_ ?_
 .rintro i s f C ⟨d,k,e,l,g,I,o,rfl⟩;have F:a.getD i 0=a[i]:=by rw[Yf,Zl C];rfl
  have G:b.getD i 0=b[i]'(by rfl'):=by rw[Yf,Zl ()];rfl
  apply kJ D (Ô _) () () (λj s f=>(Ex1 λ(d:ϊ<|ό×Int×Int)=>(An5 (Sb [r] H f) (f r=!(.lst (d.map (λz:ό×Int×Int=>V.ref z.1)))) (d.map (·.2)=Mm.jx a b i++((List.range j).filter (a[i]^^^b[i]'(by rfl')).testBit).map (λy:Nat=>((i:Int),(y:Int)))) (SpH f d) (Ex1 λo=>s=[!(.ref N),!(.ref O),!(.int (D:Int)),!(.ref r),!(.int (i:Int)),o])))) #[d,k,e,by simpa using l,g,_,rfl] ?_ ?_
  .rintro j s P Y ⟨d,k,e,l,g,o,rfl⟩;have R:=k.seq n M;have S:=k.seq n U;have u:↑d<=16500000:=by
    have X:=Ö List.length l;have z3:=Mm.lq (xs:=a) (ys:=b) i;have z4:↑((List.range j).filter (a[i]^^^b[i]'(by rfl')).testBit)<=j:=Ð (Ę _ _) (by simp);rw[Qb,Ë,Qb]at X;rfl'
   apply di R (aH (v:=V.int ((a[i]:Nat):Int)) (by rw[À,Zl C];rfl)) ?_;apply di S (aH (v:=V.int ((b[i]'(by rfl'):Nat):Int)) (by rw[À,Zl ()];rfl)) ?_;symm;rw[Ô,Bx.u9,Bx.u9];have L:(List.range<|j+1).filter (a[i]^^^b[i]'(by rfl')).testBit=(List.range j).filter (a[i]^^^b[i]'(by rfl')).testBit++(if(a[i]^^^b[i]'(by rfl')).testBit j=true then[j]else[]):=by
    rw[Ŋ,ŕ];congr 1;simp only[ů,List.filter_nil]
   have J:(a[i]^^^b[i]'(by rfl')).testBit j=(a[i].testBit j^^(b[i]'(by rfl')).testBit j):=ş ..;show nO (λc=>?_) λc=>?_
   .have B:(a[i]^^^b[i]'(by rfl')).testBit j=true:=by
     rw[J]
     revert c
     cases a[i].testBit j<;>cases(b[i]'(by rfl')).testBit j<;>simp
    apply eO (gI e) ?_;symm;intro t m;apply#[r,_,_,rfl,rfl,aF m e,by rw[Qb];show Ý u (by decide),?_];apply#[d++[(t,(i:Int),(j:Int))],(k.new m).set (by simp),by rw[aa,Á];rfl,?_,?_,_,rfl]
    .rw [L,B,if_pos rfl,Á,Á,l,Ē];rfl
    .show ((g.same<|aq m _).app (λz g=>by rw[Zs.mp g];show aa)).set<|aF m e
   .have B:(a[i]^^^b[i]'(by rfl')).testBit j=false:=by
     rw[J]
     revert c
     cases a[i].testBit j<;>cases(b[i]'(by rfl')).testBit j<;>simp
    apply#[d,k,e,?_,g,_,rfl];rw[L,B,if_neg (by decide),í,l]
  .rintro s P ⟨d,k,e,l,g,o,rfl⟩;show#[d,k,e,?_,g,_,_,rfl];rw[l,Mm.jy,Mm.bits_le A<|Mm.mL (T _<|Û C)<|x _<|Û ()];unfold Mm.dX;rw[F,G]
 .rintro s f ⟨d,k,e,l,g,I,o,rfl⟩;apply q r f d w (k.off n) e l g
inductive dQ(K:Ϗ)(vs:ϊ V)(H:Hp)(Q:VK)(E:XK):Prop
 |mk (i:Int) (a:vs=[.int i]) (b:Q (.bl true) H)
def DX K(E:XK)(Eh:XK):=(aP<|gU (gY (dF K)<|bQ aV<|tC<|V.ty "int")<|Ef<|gY (dF K)<|bQ aV<|tC<|V.ty "bool")
abbrev DY:ϊ ϐ:=sN ["found"]
theorem Xz(h:dQ K vs H Q E):RG (DX K E) DY vs H Q:=by
 let#[i,rfl,q]:=h;show#[E0,?_];unfold DX DY sN;apply#[_,_,_,_,rfl,.int i,rfl,?_];apply#[_,_,_,_,rfl,.int i,rfl,?_];apply q
inductive fb(K:Ϗ)(vs:ϊ V)(H:Hp)(Q:VK)(E:XK):Prop
 |mk (t g d:ό) (h:ϊ<|Key×V) (L j:Nat) (b e:ϊ Nat) (i:ϵ) (a:L2S) (f:ϊ Int) (k:vs=[.ref t,.ref g,.ref d]) (l:H t=!(.tup [.int (L:Nat),.str<|tx b,.str<|tx e])) (m:(tx b).cps.toList<(tx e).cps.toList) (n:HsT K H g a f) (o:Hs.Wf a) (q:(∀ps∈a,↑ps<=1000)) (s:H d=!(.dK h)) (u:Fo.Wf j i) (v:(∀c∈[b,e],↑c<=100000/\(∃r,Hs.go a c=!r/\inV (.int r) (f.map V.int)=true)/\∀x∈c,∃p co,bh h (Sum.inr<|tx [x])=!(.ref p)/\H p=!(.lst<|nv co)/\Fo.lk i (tx [x])=!co)) (w:∀H',Same H H'->Q (.bl true) H')
abbrev RK K:=(az (bH (yp (eQ<|fB K<|gY (dF K)<|bQ (tX K aV 1)<|tC<|V.ty "str")<|yp (eQ<|fB K<|gY (dF K)<|bQ (tX K aV 2)<|tC<|V.ty "str")<|eQ<|aQ<|aO Jo (tX K aV 1)<|tX K aV 2) (aP<|tC<|V.bl false) aU)
  (az (cC (nY K<|vV (ut K) aV (dN<|tI 1) cO) (ak 3)<|bH (yp (eQ<|fB K<|bG (eJ K)<|bQ bj cF)<|aQ<|aO kE (bG (bE K)<|bQ cF bW)<|tC V.non) (aP<|tC<|V.bl false) aU)
  (aP<|tC<|V.bl true)))
def Nv K(E:XK)(Eh:XK):=(az (bH (yp (eQ<|fB K<|gY (dF K)<|bQ aV<|tC<|V.ty "tuple")<|yp (aQ<|aO yz (fP K aV)<|tI 3)<|eQ<|fB K<|bG (dQ K)<|cu<|tX K aV 0) (aP<|tC<|V.bl false) aU)
  (RK K))
abbrev Ny:ϊ ϐ:=sN ["found","house","pictures","text"]
theorem a02(h:fb K vs H Q E):RG (Nv K E) Ny vs H Q:=by
 let#[t,s,d,X,L,T,y,A,Y,C,D,rfl,a,k,J,U,j,N,wf,M,q]:=h;show#[E0,?_];unfold Nv Ny sN;apply dI (.tup a) (b:=true) rfl ?_;apply cj (gL a) ?_;apply jz rfl ?_;apply fW a ?_;apply#[_,rfl,?_];apply dB a ?_;apply dI (.str _) (b:=true) rfl ?_;apply jY a ?_;apply dI (.str _) (b:=true) rfl ?_;apply dB a ?_;apply jY a ?_;apply#[_,_,rfl,rfl,?_];rw[Ï k];apply zO a λw v u n=>?_
 show sV (λc:ϊ Nat=>V.str<|tx c) (zs:=[y,A]) (gL n) (λi g e=>(An2 (Same v e)<|Ex1 λo=>g=[!(.ref t),!(.ref s),!(.ref d),o])) #[.refl _,_,rfl] (λi g e h=>gL<|h.1.get n) ?_ ?_
 .rintro i c g e O ⟨f,o,rfl⟩;let#[P,#[r,R,l],W]:=M c<|Wp O;have S:=u.trans f;apply#[s,C,D,c,r,rfl,J.same S,U,j,R,l,λH3 m=>?_];apply#[c,d,X,T,Y,rfl,(S.trans m).get N,wf,P,λx Z=>?_,λp H4 s4 _ _=>?_]
  .obtain ⟨p,B,F,G,I⟩:=W x Z;show#[p,B,F,(S.trans m).get G,I]
  symm;rw[Ø<|show¬V.ref p=V.non fromλz=>by cases z];apply#[(f.trans m).trans s4,_,rfl]
 .rintro g e ⟨f,o,rfl⟩;apply q _<|u.trans f
inductive aE(K:Ϗ)(vs:ϊ V)(H:Hp)(Q:VK)(E:XK):Prop
 |mk (t:ό) (s o:ϐ) (g n f:Nat) (a:vs=[.ref t,.str o,.int f]) (b:H t=!(.tup [.str s,.int g,.int n])) (c:g<=f/2) (d:1<=n) (e:(s≠o\/1<n)) (h:Q (.bl true) H)
def Nz K(E:XK)(Eh:XK):=(az (bH (yp (eQ<|fB K<|gY (dF K)<|bQ aV<|tC<|V.ty "tuple")<|yp (aQ<|aO yz (fP K aV)<|tI 3)<|yp (eQ<|fB K<|bG (dQ K)<|cu<|tX K aV 1)<|eQ<|fB K<|bG (dQ K)<|cu<|tX K aV 2) (aP<|tC<|V.bl false) aU)
  (aP<|gU (aO jW (tX K aV 1)<|aO pH bW<|tI 2)<|gU (aO Ur (tX K aV 2)<|tI 1)<|Tz (aO yz (tX K aV 0) bj)<|aO qN (tX K aV 2)<|tI 1))
abbrev NB:ϊ ϐ:=sN ["found","one","far"]
theorem a03(h:aE K vs H Q E):RG (Nz K E) NB vs H Q:=by
 let#[t,s,o,g,n,f,rfl,d,k,l,e,q]:=h;show#[E0,?_];unfold Nz NB sN;have a:SqT K H t [.str s,.int g,.int n]:=gL d;apply dI (.tup d) (b:=true) rfl ?_;apply cj a ?_;apply jz rfl ?_;apply cM a (aH (j:=1) (v:=.int g) rfl) ?_;apply#[_,rfl,?_];apply cM a (aH (j:=2) (v:=.int n) rfl) ?_;apply#[_,rfl,?_];apply cM a (aH (j:=1) (v:=.int g) rfl) ?_;apply nP () ?_;apply cM a (aH (j:=2) (v:=.int n) rfl) ?_;apply nP () ?_;apply cM a (aH (j:=0) (v:=.str s) rfl) ?_;apply nO (λc=>?_) λc=>?_
 .show q
 .symm;show cM a (aH (j:=2) (v:=.int n) rfl) ?_;symm;have i:1<n:=e.elim (λh=>absurd c h) id;rw[Ï ()];show q
theorem Dj.cong{b:Nat->Sd->Sd->Prop}(h:Dj ev B F W)(g:∀x,ev x↔a x)(i:∀c x y,B c x y↔b c x y)(j:∀x k,F x k↔F' x k):Dj a b F' W:=by
 have d:ev=a:=funext λx=>propext<|g x
 have e:B=b:=funext λc=>funext λx=>funext λy=>propext<|i c x y
 have f:F=F':=funext λx=>funext λk=>propext<|j x k
 rw[<-d,<-e,<-f];show h
theorem ls_eq{a:ϵ}{i:ϊ Int}{o:ύ Nat}{N:Nat}{S T:ϊ Sd}{F:Sd->Nat×Nat->Prop}(B:↑(cY (ds.map<|aD a) N)<=N)(A:↑(cY (ds.map<|aD a) M)<=M)(C:∀x,x∈S↔Mm.Rch (Ib (ds.map<|aD a) N) (Oh<|ds.map<|aD a) x)(D:∀x,x∈T↔Mm.Rch (Ib (ds.map<|aD a) M) (Oh<|ds.map<|aD a) x)(s:(fz.map (·.2.1)).Nodup)(r:Dj (Rm i S) (M7 (Oi a<|ds.map<|aD a) S) F<|λ_ _=>False)(j:Dj (Rm i T) (M7 (Oi a<|ds.map<|aD a) T) (jD fz)<|λ_ _=>False)(E:∀x k l,F x k->F x l->k=l)(h:LsO (ds.map<|aD a) N F o)(e:LsO (ds.map<|aD a) M (jD fz) o'):o=o'/\↑fz<=↑S:=by
 have q:=Bp A B;have d:∀x,x∈T↔x∈S:=λx=>by rw[D x,C x];unfold Ib;rw[q]
 have b:Dj (Rm i S) (M7 (Oi a<|ds.map<|aD a) S) (jD fz) (λ_ _=>False):=j.cong (λx=>and_congr (d x) Iff.rfl) (λc x y=>and_congr (d x) Iff.rfl) λx k=>Iff.rfl
 have z:jD fz=F:=funext λx=>funext λk=>propext #[λn=>b.uni r (λx k l ⟨f,G,t,u⟩ ⟨g,p,v,w⟩=>by rw[<-u,<-w,fL s G p<|t.trans v.symm]) n,λn=>r.uni b E n]
 rw[z]at e;show#[h.uni<|by cases o'<;>(unfold LsO at e⊢;rw[q]at e;show e),?_];have:=dJ (l:=fz.map (·.2.1)) (m:=S) s λx H=>by
  let#[g,p,rfl]:=Zp.mp H;rcases b.s g.2.1 g.2.2.2 (.inl #[g,p,rfl,rfl])with h|⟨_,_,_,h,_⟩
  .show h.1.1
  .show h.1
 rw[Qb]at this;show this
theorem a04{K:Ϗ}{b:ϊ V}{i:Int}(e:SqL K H a b)(d:0<=i)(f:i<(↑b:Int))(h:∀v∈b,Q v H):fu K (.ref a) (.int i) H Q:=by
 let#[v,g,c]:=R1 d f;show di e c<|h v g
theorem qD:∀{xs ys:ϊ Nat},↑xs=↑ys->Mm.bc xs ys=((List.range ↑xs).map λx=>Bm.pop<|xs.getD x 0^^^ys.getD x 0).sum
 |[],[],_=>rfl
 |[],_::_,h=>by cases h
 |_::_,[],h=>by cases h
 |x::xs,y::ys,h=>by
  rw[ê,List.range_succ_eq_map,È,Ä,Ģ,Mm.bc,qD<|Nat.succ.inj h];rfl
theorem iz{h:Nat}{b:ϊ Nat}(c:h<=60)(e:↑a=↑b)(g:∀x∈a,x<2^h)(i:∀y∈b,y<2^h):↑(Mm.aY a b)=Mm.bc a b:=by
 have d:∀{n:Nat},n<2^h->n<2^60:=λ{n} f=>Ó f<|Ν (by decide) c
 rw[Mm.Hx (λx m=>d<|g x m) λy m=>d<|i y m,qD e]
theorem NK{h:Nat}{c:ϊ Nat}(m:Nat)(b:h<=60)(f:↑a=↑c)(d:∀x∈a,x<2^h)(e:∀y∈c,y<2^h):Mm.bc a (Mm.bV a<|(Mm.aY a c).take m)=min m (Mm.bc a c)/\Mm.bc c (Mm.bV a<|(Mm.aY a c).take m)=Mm.bc a c-m:=by
 have i:=Mm.xr (ss:=(Mm.aY a c).take m) d λs j=>Mm.iu d e s<|Ā j
 have g:↑(Mm.bV a<|(Mm.aY a c).take m)=↑a:=Mm.eY _ _;rw[<-iz b g.symm d i,Mm.Lb m b d e,Mm.ir c,<-iz b (g.trans f) i e,Mm.Ld m b f d e,Ñ,ú,iz b f d e];show#[rfl,rfl]
theorem RL(c:Fo.GoodL ht f)(e:d.map (λz:Lz=>(z.2.1,z.2.2.2))=f.map (λz:Lz=>(z.2.1,z.2.2.2))):Fo.GoodL ht d:=by
 have k:↑d=↑f:=by have:=Ö List.length e;rw[Qb,Qb]at this;show this
 have i:∀z∈d,∃y∈f,y.2.1=z.2.1/\y.2.2.2=z.2.2.2:=λz b=>by
  have:(z.2.1,z.2.2.2)∈f.map (λz:Lz=>(z.2.1,z.2.2.2)):=by rw[<-e];show Zp.mpr #[z,b,rfl]
  let#[y,a,j]:=Zp.mp this;show#[y,a,Ö (·.1) j,Ö (·.2) j]
 show#[by rw[k];show c.pos,by rw[k];show c.le,?_,λz b=>?_,λz b=>?_,λz b=>?_]
 .have:=Ö (List.map Prod.fst) e;rw[Ä,Ä]at this;change(d.map (Prod.fst∘λz:Lz=>(z.2.1,z.2.2.2))).Nodup;rw[this];show c.nd
 .obtain ⟨y,a,h,g⟩:=i z b;rw[<-h];show c.sg y a
 .obtain ⟨y,a,h,g⟩:=i z b;rw[<-g];show c.c1 y a
 .obtain ⟨y,a,h,g⟩:=i z b;rw[<-g];show c.cb y a
theorem T7:∀{ls:ϵ},(ls.map (·.1)).Nodup->(s,a)∈ls->Fo.lk ls s=!a
 |p::ls,hn,m=>by
  let#[b,c]:=î.mp hn;rw[Fo.gF];rcases Æ.mp m with e|m
  .rw [<-e,if_pos rfl]
  .rw [if_neg<|λe=>b<|Zp.mpr #[_,m,e.symm]];show T7 c m
theorem NP{a:ϵ}{p:ϊ cQ}(d:Wk (ds.map<|aD a) p){w:cQ}(e:p[i]?=!w):∃ps,ds[(uP<|p.take i).toNat]?=!ps/\(w.1,w.2.2)∈ps/\Fo.lk a w.1=!w.2.1:=by
 have:=d i w e;rw[Yf,À]at this
 cases h:ds[(uP<|p.take i).toNat]?with
 |none=>rw[h]at this;cases this
 |some ps=>
  rw[h]at this;let#[b,c]:=lZ<|show w∈aD a ps from this;show#[ps,rfl,c,b]
theorem qF{a:ϵ}{p:ϊ cQ}(c:Wk (ds.map<|aD a) p):∀w∈p,Fo.lk a w.1=!w.2.1:=λw d=>by
 let#[i,b,e]:=ÿ.mp d;let#[_,_,_,h]:=NP c (by rw[Zl b,e]);show h
section
variable{h:Nat}{ls:ϵ}{ds:L2S}{p:ϊ cQ}
theorem qG(c:Fo.Wf h ls)(a:Wk (ds.map<|aD ls) p):∀w∈p,Hs.Sg w.1:=λw b=>c.sg _<|Fo.cH<|qF a w b
theorem lB(e:Fo.Wf h ls)(a:Wk (ds.map<|aD ls) p):Fo.m7 ls (p.map oW)=stP p:=by
 have d:=qG e a;have c:=qF a;clear a;induction p with
 |nil=>rfl
 |cons w p ih=>
  change Fo.cl ls (oW w)++Fo.m7 ls (p.map oW)=w.2.1++stP p;rw[ih (λu b=>d u<|Ç _ b) λu b=>c u<|Ç _ b];unfold Fo.cl;rw[<-jE<|d w Ì,c w Ì];rfl
theorem T8(g:Fo.Wf h ls)(d:∀ps∈ds,(ps.map (·.1)).Nodup)(b:Wk (ds.map<|aD ls) p):∀n,n<=↑p->Hs.go ds ((p.take n).map oW)=!(uP<|p.take n):=λn=>by
 induction n with
 |zero=>intro _;rfl
 |succ n ih=>
  intro f;let#[w,e]:∃w,p[n]?=!w:=#[_,Zl f];let#[ps,a,c,i]:=NP b e;rw[Ò,e,show(!w).toList=[w]from rfl,Á,ż,Hs.Ft,ih (),iy];change Hs.dr (ds.getD (uP<|p.take n).toNat []) (tx [oW w])=_;rw[<-jE<|qG g b w<|Wp e,Yf,a];show jU (d ps<|Wp a) c
theorem T9(h:∀ps∈ds,(ps.map (·.1)).Nodup)(f:∀ps∈ds,∀q∈ps,0<=q.2)(i:Wk (ds.map<|aD ls) p):∀k n,n+k=↑p->Gw ls ds (uP<|p.take n).toNat (p.drop n) (uP p).toNat:=λk=>by
 induction k with
 |zero=>intro n e;rw[ŏ (),è ()];rfl
 |succ k ih=>
  intro n j;have d:n<↑p:=()
  have e:p[n]?=!p[n]:=Zl d;let#[ps,b,c,g]:=NP i e;have a:=Wp b;have:=ih (n+1) ();rw[Ò,e,show(!p[n]).toList=[p[n]]from rfl,iy]at this;rw[Ķ d];show#[(Â.mp b).1,by rw[Yf,b];show jU (h ps a) c,g,f ps a _ c,this]
theorem NQ:∀{p:ϊ cQ},(∀w∈p,Fo.lk ls w.1=!w.2.1)->gr p=((p.map (·.1)).map λs=>(Fo.lk ls s).getD []).flatten
 |[],_=>rfl
 |w::p,hk=>by
  have a:=NQ (p:=p) λu b=>hk u<|Ç _ b
  change w.2.1++gr p=(Fo.lk ls w.1).getD []++_;rw[hk w Ì,a];rfl
theorem NT:∀p:ϊ cQ,p.map oW=(p.map (·.1)).map λs=>s.cps.toList.headD 0
 |[]=>rfl
 |w::p=>by rw[È,NT p];rfl
theorem nA:∀p:ϊ cQ,stP p=gr p
 |[]=>rfl
 |w::p=>by
  change w.2.1++stP p=w.2.1++gr p;rw[nA p]
theorem XC(c:∀q∈ls,↑q.2<=3)(a:∀w∈p,Fo.lk ls w.1=!w.2.1):↑(stP p)<=3*↑p:=by
 induction p with
 |nil=>show Ã _
 |cons w p ih=>
  have e:=ih λu d=>a u<|Ç _ d
  have b:=c _<|Fo.cH<|a w Ì;change↑(w.2.1++stP p)<=3*(↑p+1);rw[Ë];dsimp only at b;rfl'
end
inductive gl(K:Ϗ)(vs:ϊ V)(H:Hp)(Q:VK)(E:XK):Prop
 |mk (a:ό) (b:ϊ Int) (c:vs=[.ref a]) (d:TupK K bJ [.int 1]) (e:SqL K H a<|b.map V.int) (f:↑b<=63) (g:∀H',Q (.bl true) H')
abbrev NZ K:=(az (bH (yp (eQ<|fB K<|gY (dF K)<|bQ Rh<|tC<|V.ty "list")<|yp (eQ<|fB K<|gY (Q4 K)<|cu<|m6 [none] (cB K Rh) (ak 0) du<|bG (dQ K)<|cu aV)<|aQ<|aO (rNeD K) Rh HJ) (aP<|tC<|V.bl false) aU)
  (aP<|bG (aE K)<|oF (bG (ft K)<|oF gw yl Rh) VN Lk))
abbrev O1 K:=(az (cC (cB K<|vV (vY K) Zz cO<|dN<|aO pH (aO bN Lk<|tI 1)<|tI 2) (gB K 2<|bf (ak 16)<|bf (ak 17) gK)<|aL (aO Ey (aO (fu K) HJ ZC)<|aO Jl (tI 1) a2g)<|Ge HJ ZC rB)
  (az (aL (bG (fy K)<|oF gw VN Zx)<|ak 18)
  (NZ K)))
abbrev O2 K:=(az (bH (yp (aQ<|aO yz (fP K Zz) Lk)<|yp (eQ<|fB K<|bG (dQ K)<|cu Y5)<|aQ<|aO yz Y5<|aO pH (aO rO Lk<|tI 1)<|tI 2) (aP<|tC<|V.bl false) aU)
  (az (bH (aQ<|aO qN (fP K HJ)<|tI 400) (aP<|tC<|V.bl true) aU)
  (O1 K)))
abbrev O3 K:=(az (aL (bG (bE K)<|bQ VN jk)<|ak 13)
  (az (aL (bG (bE K)<|bQ Zx jk)<|ak 14)
  (az (bH (aQ<|aO yz (fP K HJ)<|fP K Zy) (aP<|tC<|V.bl false) aU)
  (az (aL (bG (cS K)<|oF HJ Zy bW)<|ak 15)
  (O2 K)))))
abbrev O4 K:=(az (bH (aQ<|aO kE Lj<|tC V.non) (aP<|aO kE Y5<|tC V.non) aU)
  (az (bH (eQ<|fB K<|bG (fb K)<|oF Lj yl jk) (aP<|tC<|V.bl false) aU)
  (az (aL Lj<|gB K 3<|bf (ak 10)<|bf (ak 11)<|bf (ak 12) gK)
  (O3 K))))
abbrev O5 K:=(az (aL (gY (j7 K)<|cu dZ)<|ak 6)
  (az (aL (bG (fx K)<|bQ aV<|vV yR cF cO<|dN<|aO bN (fP K dZ)<|tI 1)<|ak 7)
  (az (aL (bG (fA K)<|bQ gw yl)<|ak 8)
  (az (aL (bG (f6 K)<|bQ gw yl)<|ak 9)
  (O4 K)))))
abbrev O6 K:=(az (aL (bG (f4 K)<|bQ (bG (aT K)<|bQ aV<|tI 1)<|tI 5)<|ak 3)
  (az (aL (bG (dE K)<|oF aV cF bW)<|ak 4)
  (az (aL (bG (eP K)<|bQ bW<|m6 [none,none] (cB K dZ) (gB K 2<|bf (ak 0)<|bf (ak 1) gK) du<|dG<|bQ aV<|gY (j5 K)<|cu bj)<|ak 5)
  (O5 K))))
def Ea K(E:XK)(Eh:XK):=(az (aL (aO (fu K) (gO<|Ri (tI 4) (tI 4) (tI 12)<|tI 60)<|aO dh (bG (eI K)<|bQ (bG (aT K)<|bQ aV<|tI 0)<|tI 1)<|tI 4)<|ak 1)
  (az (aL (aO bN (tI 1)<|aO dh (bG (aT K)<|bQ aV<|tI 0) bj)<|ak 2)
  (O6 K)))
abbrev nF:ϊ ϐ:=sN ["script","tall","height","signs","letters","font","pictures","house","found","most","far","one","other","left","right","spots","x","y","strip"]
theorem XD(h:gl K vs H Q E):RG (Ea K E) nF vs H Q:=by
 let#[a,ns,rfl,TK,hS,dp,q]:=h;show#[E0,?_];unfold Ea nF sN;symm;intro pl cr;replace hS:=fj (o:=.lst [.int 4,.int 4,.int 12,.int 60]) cr hS;have a7:SqL K (upd H pl<|.lst [.int 4,.int 4,.int 12,.int 60]) pl ([.int 4,.int 4,.int 12,.int 60]):=gI aa;generalize upd H pl (.lst [.int 4,.int 4,.int 12,.int 60])=H0 at hS a7⊢;clear cr;apply#[a,ns,0,rfl,hS,?_];apply#[_,1,rfl,by decide,λi0 c6 c8=>?_];apply a04 a7 () (by change i0%4<4;rfl') λv mv=>?_
 let#[tl,rfl,dg,dk]:∃n:Nat,v=.int (n:Int)/\1<=n/\n<=60:=by
  simp only[Æ,á,ĕ]at mv;rcases mv with rfl|rfl|rfl|rfl
  .show #[4,rfl,by decide,by decide]
  .show #[4,rfl,by decide,by decide]
  .show #[12,rfl,by decide,by decide]
  .show #[60,rfl,by decide,by decide]
 clear mv a7 c6 c8;apply#[a,ns,0,rfl,hS,?_];symm;let#[m0,b6,d0]:=Mm.dU (Mm.cellAt ns 0) tl ();rw[b6,show(1:Int)+(m0:Int)=((m0+1:Nat):Int)by rfl'];let#[G,b5]:∃G,G=m0+1:=#[_,rfl];have ae:G<=60:=()
 have cy:1<=G:=()
 rw[<-b5];clear b5 b6;apply#[a,ns,1,rfl,hS,?_];apply#[_,rfl,λcs c5 ce cf=>?_];apply#[a,ns,cs,G,rfl,hS,c5,ae,λlt H1 J s1 _ X u de df b9=>?_];replace hS:=s1.seq hS;clear s1;have gd:Fo.GoodL G J:=by
  show#[de,(),?_,λz mz=>?_,λz mz=>?_,λz mz=>(u z mz).2.2.2.2]
  .show (J.map (·.2.1)).Nodup;rw[b9];show List.Pairwise.map _ (λ{a b} n e=>n (List.cons.inj<|uH.mp e).1) (Θ (Đ _ _) ce)
  .have:z.2.1∈J.map (·.2.1):=Zp.mpr #[z,mz,rfl];rw[b9]at this;let#[c,mc,e]:=Zp.mp this;rw[<-e];show cf c (Ā mc)
  .obtain ⟨_,_,h1,h2,_⟩:=u z mz;show#[h1,()]
 apply xH (λz:Lz=>V.ref z.1) (zs:=J) (gI X) () (λi ys H'=>(Ex1 λ(ws:ϊ Lz)=>(An4 (ys=ws.map (λz:Lz=>V.ref z.1)) (ws.map (λz:Lz=>(z.2.1,z.2.2.2))=(J.take i).map (λz:Lz=>(z.2.1,z.2.2.2))) (Same H1 H') (∀z∈ws,H' z.1=!(.tup [.str z.2.1,.ref z.2.2.1])/\H' z.2.2.1=!(.lst<|nv z.2.2.2))))) #[[],rfl,rfl,gN _,by simp] ?_ ?_ ?_ ?_
 .rintro i ys H' ⟨ws,rfl,_,s',_⟩;show gI (s'.get X)
 .rintro i ys H' ⟨ws,rfl,e,_⟩;have:=Ö List.length e;rw[Qb,Qb,Ñ]at this;rw[Qb];rfl'
 .rintro i ⟨b,s,ca,co⟩ ys H' hi ⟨ws,rfl,e,s',hw⟩;let#[t1,t2,_]:=u _ (Wp hi);dsimp only at t1 t2;show cP (gL<|s'.get t1) rfl ?_;apply pZ (gI<|s'.get t2) λc2 bb=>?_
  symm;intro t G;show#[ws++[(t,s,c2,co)],by simp,by rw[Á,e,Ò,hi,Á];rfl,(s'.new bb).new G,λz mz=>?_];rcases Ê.mp mz with mz|mz
  .obtain ⟨g1,g2⟩:=hw z mz;show#[aF G<|aF bb g1,aF G<|aF bb g2]
  .rw [Zs.mp mz];show#[aa,aF G aa]
 rintro ys H' ⟨ws,rfl,e,s',hw⟩ lr a3;rw[Þ]at e;apply#[G,lr,ws,rfl,cy,ae,#[aa,λz mz=>#[aF a3 (hw z mz).1,aF a3 (hw z mz).2]],RL gd e,λf H3 B s3 Y ag=>?_];replace ag:Fo.Of J B:=#[by rw[<-e];show ag.1,ag.2];have F:=gd.wf ag;have S3:Same H1 H3:=(s'.new a3).trans s3;replace hS:=S3.seq hS;replace X:=S3.get X;replace u:∀z∈J,LtB H3 G z:=λz mz=>(u z mz).same S3
 clear S3 s3 s' hw a3 e;symm;have cn:(J.map (·.2.1)).Nodup:=gd.nd;show R6 (zs:=J.map λz:Lz=>(z.1,z.2.1,V.ref z.2.2.1)) (by rw[Ä];show X) (λz m=>?_) (by rw[Ä];show cn) (by rw[Qb];show jb df) λd hd=>?_
 .obtain ⟨y,my,rfl⟩:=Zp.mp m;show gL (u y my).1
 rw[Ä];let#[H4,ax]:∃H4,H4=upd H3 d (HO.dK<|J.map ((λz:ό×ϐ×V=>((Sum.inr z.2.1:Key),z.2.2))∘λz:Lz=>(z.1,z.2.1,V.ref z.2.2.1))):=#[_,rfl];have s4:Same H3 H4:=by rw[ax];show aq hd _
 have ed:H4 d=!(HO.dK (J.map λz:Lz=>((Sum.inr z.2.1:Key),V.ref z.2.2.1))):=by rw[ax];show aa
 rw[<-ax];clear ax;replace hS:=s4.seq hS;replace X:=s4.get X;replace u:∀z∈J,LtB H4 G z:=λz mz=>(u z mz).same s4
 replace Y:=Y.same s4;clear s4 hd;apply cg (gI X) ?_;rw[Qb];symm;rw[show(↑J:Int)+1=((↑J+1:Nat):Int)by rfl'];show xK (by rw[cX];rfl') ?_;rw[SN ()];apply#[a,ns,cs.take<|↑J+1,rfl,hS,TK,λc mc=>cf c<|Ā mc,Θ (Đ _ _) ce,by rw[Ñ];rfl',by rw[Ñ];rfl',λha H5 D es s5 hH hO=>?_];let#[o1,o2,o3,o4,o5]:=hO;replace hS:=s5.seq hS;replace u:∀z∈J,LtB H5 G z:=λz mz=>(u z mz).same s5
 replace Y:=Y.same s5;replace ed:=s5.get ed;clear s5 X TK;have cm:↑B=↑J:=by rw[ag.1.length_eq,Qb]
 have ab:∀O∈D,(O.map (·.1)).Nodup:=λO C=>dw (o3 O C).1
 have af:∀O∈D,∀q∈O,0<=q.2/\q.2<↑D:=λO C q mq=>((o3 O C).2 q mq).2
 have be:∀O∈D,O.length<=6:=λO C=>by
  have:=dJ (m:=cs.map λc=>tx [c]) (ab O C) λs ms=>by
   let#[q,mq,rfl]:=Zp.mp ms;let#[#[c,mc,e],_]:=(o3 O C).2 q mq;show Zp.mpr #[c,Ā mc,e.symm]
  rw[Qb,Qb]at this;rfl'
 have sz:ZJ B D:=by
  show#[(),(),λO C=>#[by have:=be O C;rfl',af O C],?_];rw[cm];show Ð (Nat.mul_le_mul (Nat.mul_le_mul o2 o2)<|show↑J*9<=36 by rfl') (by decide)
 have da:∀p∈B,↑p.2<=3:=λp mp=>by
  let#[z,mz,rfl]:=Zp.mp (ag.1.mem_iff.mp mp);show(u z mz).2.2.2.1
 have db:∀p∈B,↑p.2<=8:=λp mp=>(F.c1 p mp).2
 have cp:=uW F sz;have c9:∀{N x},Mm.Rch (Ib (D.map<|aD B) N) (Oh<|D.map<|aD B) x->InU ↑D B x:=λ{N x} hx=>Mm.Rch.all (M4 cp N) (M3 db cp) hx
 have av:∀{p:ϊ cQ},Wk (D.map<|aD B) p->∀c∈p.map oW,∃z∈J,bh (J.map λz:Lz=>((Sum.inr z.2.1:Key),V.ref z.2.2.1)) (Sum.inr<|tx [c])=!(.ref z.2.2.1)/\Fo.lk B (tx [c])=!z.2.2.2:=λ{p} hw c mc=>by
  let#[w,mw,rfl]:=Zp.mp mc;have h1:=qF hw w mw;rw[<-jE<|qG F hw w mw,h1];have h2:=ag.1.mem_iff.mp (Fo.cH h1);let#[z,mz,I,e2]:=zM (T7 (by rw[Ä];show cn) h2);show#[z,mz,e2,by rw[I]]
 symm;walk_at "ns";show#[f,ha,G,B,D,es,rfl,Y,F,hH.g,sz,ab,λN S fz hN ar bg hD=>?_];have hu:∀x k l,jD fz x k->jD fz x l->k=l:=λx k l ⟨f,mf,I,e2⟩ ⟨g,mg,e3,e4⟩=>by rw[<-e2,<-e4,fL bg mf mg<|I.trans e3.symm]
 have dt:↑fz<=32400:=by
  have:=dJ (l:=fz.map (·.2.1)) (m:=UL ↑D B) bg λx mx=>by
   let#[g,mg,rfl]:=Zp.mp mx;show(c9<|(ar _).mp ?_).mem;rcases hD.s g.2.1 g.2.2.2 (.inl #[g,mg,rfl,rfl])with h|⟨_,_,_,h,_⟩
   .show h.1.1
   .show h.1
  rw[Qb,Ay,cm]at this;show Ð (Ð this<|Nat.mul_le_mul (Nat.mul_le_mul o2 o2)<|show↑J*9<=36 by rfl') (by decide)
 show#[λh0 H6 s6=>?_,λr H6 L t0 t1 s6 er bk bn=>?_]
 .symm;show#[f,ha,G,B,D,es,rfl,Y.same s6,F,(hH.same s6).g,sz,ab,λM T fw hM hT as ap=>#[λ_ H7 s7=>?_,λH7 L s7 hl=>?_]]
  .symm;change Q (V.bl<|decide<|V.non=V.non) H7;rw[Ï rfl];show q _
  .obtain ⟨e,_⟩:=ls_eq hN hM ar hT as hD ap hu h0 hl
   cases e
 let#[U,p1,rfl,rfl,bl,#[w0,r0,l0],#[w1,r1,l1],hl,hg]:=bn;rw[xV<|qG F w0,xV<|qG F w1]at er bl;apply#[f,ha,G,B,D,es,rfl,Y.same s6,F,(hH.same s6).g,sz,ab,λM T fw hM hT as ap=>#[λh0 H7 s7=>?_,λH7 L' s7 ci=>?_]]
 .obtain ⟨e,_⟩:=ls_eq hN hM ar hT as hD ap hu bk h0
  cases e
 let#[e,_]:=ls_eq hN hM ar hT as hD ap hu bk ci
 cases e;have S7:=s6.trans s7;replace er:=s7.get er;replace Y:=Y.same S7;replace hH:=hH.same S7;replace u:∀z∈J,LtB H7 G z:=λz mz=>(u z mz).same S7
 replace ed:=S7.get ed;clear S7 s6 s7 ci ap as hT hM bk hD bg ar hN hu hS;symm;rw[Ø<|show¬V.ref r=V.non fromλz=>by cases z];have W:∀{p:ϊ cQ},↑p<=↑D+↑fz->↑p<=32430:=λ{p} h=>()
 have dy:=W l0;have dz:=W l1;clear W l0 l1;have g0:=T8 F ab w0 ↑U (Ã _);have g1:=T8 F ab w1 ↑p1 (Ã _);rw[Þ]at g0 g1;symm;walk_at "ns";show#[r,ha,d,_,L,G,U.map oW,p1.map oW,B,D,es,rfl,er,bl,hH,#[(),af],λO C=>by have:=be O C;rfl',ed,F,λc mc=>?_,λH8 s8=>?_]
 .simp only[Æ,á,ĕ]at mc;rcases mc with rfl|rfl
  .show #[by rw[Qb];rfl',#[_,g0,by rw[lU];show Ï r0],λx mx=>?_];let#[z,mz,I,e2]:=av w0 x mx;show#[_,_,I,(u z mz).2.1,e2]
  .show #[by rw[Qb];rfl',#[_,g1,by rw[lU];show Ï r1],λx mx=>?_];let#[z,mz,I,e2]:=av w1 x mx;show#[_,_,I,(u z mz).2.1,e2]
 replace er:=s8.get er;replace Y:=Y.same s8;replace hH:=hH.same s8;replace u:∀z∈J,LtB H8 G z:=λz mz=>(u z mz).same s8
 replace ed:=s8.get ed;clear s8 g0 g1;apply cP (gL er) rfl ?_;symm;walk_at "ns";show#[U.map oW,d,_,G,B,rfl,ed,F,by rw[Qb];rfl',λc mc=>?_,λb1 H9 s9 c0 I=>?_]
 .obtain ⟨z,mz,I,e2⟩:=av w0 c mc;show#[_,_,I,(u z mz).2.1,e2]
 rw[lB F w0]at I;symm;walk_at "ns";show#[p1.map oW,d,_,G,B,rfl,s9.get ed,F,by rw[Qb];rfl',λc mc=>?_,λb2 dl bv dq e2=>?_]
 .obtain ⟨z,mz,I,e2⟩:=av w1 c mc;show#[_,_,I,s9.get (u z mz).2.1,e2]
 rw[lB F w1]at e2;replace I:=bv.get I;have n3:↑(stP U)<=270000:=by have:=XC da (qF w0);rfl'
 have bd:∀{p:ϊ cQ},Wk (D.map<|aD B) p->∀x∈stP p,x<2^G:=λ{p} hw x mx=>by
  let#[w,mw,mx]:=û.mp mx;show F.cb _ (Fo.cH<|qF hw w mw) x mx
 have bx:=bd w0;have al:=bd w1
 clear bd;apply cg (gI I) ?_;rw[Qb];apply cg (gI e2) ?_;rw[Qb];apply jz () ?_;symm;walk_at "ns";show#[b1,b2,stP U,stP p1,G,rfl,gI I,gI e2,hl,n3,ae,bx,al,λsp b3 us d1 b0 am a9 a4=>?_];have dd:↑us=L:=by
  have:=Ö List.length a9;rw[Qb,iz ae hl bx al,hg]at this;show this
 replace I:=b0.get I;have aw:=(s9.trans bv).trans b0;clear e2 s9 bv b0;apply cg (gI am) ?_;rw[Qb,dd];apply#[_,rfl,?_];apply cg (gI I) ?_;rw[Qb];apply fJ (λ_=>?_) λh4=>?_
 .symm;show q _
 have X4:↑(stP U)<=400:=()
 apply xJ (gI am) λsq bm=>?_
 rw[show((L:Int)+1)/2=(((L+1)/2:Nat):Int)by rfl',pY (),Ô,<-ŀ];have ah:=aq (o:=.lst ((us.take<|(L+1)/2).map λz:ό×Int×Int=>V.ref z.1)) bm;have a2:upd b3 sq (.lst ((us.take<|(L+1)/2).map λz:ό×Int×Int=>V.ref z.1)) sq=!(.lst ((us.take<|(L+1)/2).map λz:ό×Int×Int=>V.ref z.1)):=aa;generalize upd b3 sq (.lst ((us.take<|(L+1)/2).map λz:ό×Int×Int=>V.ref z.1))=H12 at ah a2⊢;replace aw:=aw.trans ah;replace a4:=a4.same ah;have cv:sq≠b1:=(aN I bm).symm;replace I:=ah.get I;replace am:=ah.get am;clear ah bm;have cq:=Mm.iu bx al
 rw[<-a9]at cq;show gn (λz:ό×Int×Int=>V.ref z.1) (zs:=us.take<|(L+1)/2) (gI a2) (λi σ H'=>(An3 (Sb [b1] H12 H') (H' b1=!(.lst (nv (Mm.bV (stP U) (((us.take<|(L+1)/2).take i).map (·.2))))))<|Ex2 λbq br=>σ=[!(.ref a),!(.int (tl:Nat)),!(.int (G:Nat)),!(.str<|tx cs),!(.ref lt),!(.ref f),!(.ref d),!(.ref ha),!(.ref r),!(.int<|((L:Int)-1)/2),!(.int (L:Nat)),!(.str<|tx<|U.map oW),!(.str<|tx<|p1.map oW),!(.ref b1),!(.ref b2),!(.ref sp),bq,br,none])) #[Sb.of<|.refl _,I,_,_,rfl] ?_ ?_ ?_
 .rintro i σ H' ⟨sb,_⟩;show gI (sb.get (by simpa using cv) a2)
 .rintro i ⟨b,x,y⟩ σ H' hz ⟨sb,e,bq,br,rfl⟩;have mz:=Ā (Wp hz);have tz:=a4 _ mz;dsimp only at tz;let#[c1,c2,c3,c4]:=cq (x,y) (Zp.mpr #[_,mz,rfl]);dsimp only at c1 c2 c3 c4;have W:↑(Mm.bV (stP U) (((us.take<|(L+1)/2).take i).map (·.2)))=↑(stP U):=Mm.eY _ _;show cP (gL<|sb.get (by simpa using bC tz I<|λz=>by cases z) tz) rfl ?_;apply di (gI e) (zJ c1<|by rw[Qb,W];rfl') ?_;rw[ü];apply uG x.toNat e () (by rw[Qb,W];rfl') ?_;rw[Int.one_mul,<-Bx.ie,Bx.iW];unfold nv;rw[<-List.map_set];show#[sb.set Ì,?_,_,_,rfl];rw[aa,Ò,hz,Á,show(!(b,x,y)).toList.map (λz:ό×Int×Int=>z.2)=[(x,y)]from rfl,Mm.pX];change _=!(HO.lst<|(Mm.gm _ (x,y)).map _);unfold Mm.gm;rw[Yf,Zl<|by rw[W];rfl'];rfl
 rintro σ cw ⟨sb,ad,bq,br,rfl⟩;rw[Þ,ŀ,a9]at ad;have a6:Same H8 cw:=λb o q=>sb.get (by simpa using aN q c0) (aw.get q)
 replace Y:=Y.same a6;replace hH:=hH.same a6;clear a6 sb aw am a2 I a4 cv u ed er av;have cb:∀O∈D,∀q∈O,0<=q.2:=λO C q mq=>(af O C q mq).1
 have G0:Gw B D 0 U (uP U).toNat:=T9 ab cb w0 ↑U 0 (ľ _);have G1:Gw B D 0 p1 (uP p1).toNat:=T9 ab cb w1 ↑p1 0 (ľ _);have k0:↑U<=400:=by have:=G0.len F;rw[<-nA]at this;rfl'
 have k1:↑p1<=400:=by have:=G1.len F;rw[<-nA]at this;rfl'
 have bi:∀{p:ϊ cQ},Wk (D.map<|aD B) p->∀c∈p.map oW,∃d,Fo.lk B (tx [c])=!d:=λ{p} hw c mc=>by
  let#[w,mw,rfl]:=Zp.mp mc;show#[_,by rw[<-jE<|qG F hw w mw];show qF hw w mw]
 symm;walk_at "ns";show#[f,G,B,U.map oW,p1.map oW,rfl,Y.t,F,ae,by rw[Qb];rfl',by rw[Qb];rfl',by rw[lB F w0];rfl',bi w0,bi w1,by rw[lB F w0,lB F w1];show hl,λst cx _ a5 ac=>?_];rw[lB F w0,lB F w1,iz ae hl bx al,hg]at ac;let#[a0,a1]:=NK ((L+1)/2) ae hl bx al
 have cz:↑(Mm.bV (stP U)<|(Mm.aY (stP U)<|stP p1).take<|(L+1)/2)=↑(stP U):=Mm.eY _ _;generalize Mm.bV (stP U) ((Mm.aY (stP U)<|stP p1).take<|(L+1)/2)=Z at ac ad a0 a1 cz;rw[hg]at a0 a1;replace ad:=a5.get ad;replace Y:=Y.same a5;replace hH:=hH.same a5;clear a5 bi;apply dI (.lst ac) (b:=true) rfl ?_;apply Fp (λn:Nat=>V.int (n:Int)) (gI ac) () (λ_=>V.bl true) (λj z hj A kA=>?_) λbp cc=>?_
 .symm;show#[_,rfl,kA]
 apply Zo (bs:=Z.map λ_=>true) (gI<|by rw[aa,Ä];rfl) ?_;rw[show(Z.map λ_=>true).all id=true by simp];have ai:=aq (o:=.lst<|Z.map λ_=>V.bl true) cc;generalize upd cx bp (.lst<|Z.map λ_=>V.bl true)=H15 at ai⊢;replace ad:=ai.get ad;replace ac:=ai.get ac;replace Y:=Y.same ai;replace hH:=hH.same ai;clear ai cc;apply rNeD.same (Dp.nats<|gI ac) (Dp.nats<|gI ad) (QX _) (by decide) ?_;symm;walk_at "ns";show#[f,ha,st,G,B,D,es,Z,rfl,Y,F,hH.g,#[(),()],λO C=>by have:=be O C;rfl',af,gI ac,(),λv dn d2 hN=>?_];have P:IsP B Z D es (MN B Z D es):=MP F;have eT:ZW B Z D es=(((MN B Z D es).getD 0 []).getD 0 none).map λt=>(nW B Z (D.map<|aD B) (MN B Z D es) ↑Z 0 0,t.1,t.2):=rfl
 have ct:=Xi (xs:=Z) (ds:=D) (es:=es) F;generalize MN B Z D es=rows at P eT;have hb:=P.best F af ↑Z 0 0 (â _) () ();have m1:p1∈PT (D.map<|aD B) es ↑Z ↑Z 0:=by
  have z0:↑(gr p1)=↑Z:=by rw[<-nA];rfl'
  have:=Xk F (R:=(uP p1).toNat) (by rw[δ (o5 _ r1).1];show r1) p1 ↑Z 0 G1 ();rw[z0]at this;show this
 let#[t,bo,dc]:∃t,(rows.getD 0 []).getD 0 none=!t/\1<=t.2:=by
  rw[hb];rcases jG ((PT (D.map<|aD B) es ↑Z (↑Z-0) 0).map λp=>Mm.bc (gr p)<|Z.drop 0)with⟨_,b⟩|⟨t,c1,c2,_,c4⟩
  .rw [Ŷ,List.map_eq_nil_iff]at b;rw[b]at m1;cases m1
  .show #[t,c1,?_];rw[c4];show List.countP_pos_iff.mpr #[t.1,c2,by simp]
 let#[n1,n2]:=P.near F af (λO C=>(o3 O C).1) () bo m1;let#[R0,j1,_,_,j4]:=P.path F af ab ↑Z 0 0 t () () () bo;rw[eT,bo]at hN ct;let#[tu,rfl,a8]:=hN;let#[b4,ay,_]:=ye (ct _ rfl);dsimp only at a8 ay;rw[ay,join_ones]at a8;generalize nW B Z (D.map<|aD B) rows ↑Z 0 0=path at j1 j4 ay n2;rw[List.drop_zero]at j4;rw[<-nA,a1]at n1 n2;apply#[tu,tx b4,tx<|U.map oW,t.1,t.2,L,rfl,a8,(),dc,?_,q _];by_cases c:tx b4=tx (U.map oW)
 .right;have e3:path.map (·.1)=U.map (·.1):=by
   rw[ay,uH.mp c,Ä];show ė λw mw=>(jE<|qG F w0 w mw).symm
  rw[NQ j1.lk,e3,<-NQ<|qF w0,<-nA,a0]at j4;rcases(n2 ()).2with e5|h
  .show absurd bl ?_;rw[NT p1,e5,e3,<-NT U];show Ř _
  .show h
 .show .inl c
theorem XF(h:gl K vs H Q E):↑vs=1:=by
 let#[_,_,rfl,_]:=h;rfl
end Pg
set_option Elab.async false
set_option linter.all false
set_option maxRecDepth 100000
namespace Pg
open PySem L2 PySem.W
set_option maxHeartbeats 0
inductive DI(K:Frag)(n:ϐ)(st:Stmt)(dv:ϋ):Prop
 |mk {f:ό} {oc kV dc pm cd ct:ϋ} {od an:ύ ό} {sl:ϔ<|ύ ϋ} (a:nsIn K mainGlobals n=!(!(.ref f))) (l:K.lookup f=!#[oc,od,.func<|fnOf n n (dC st) (cU st) (aZ st) dv kV dc pm an cd ct,sl]) (q:codeIn K cd n=true) (k:keepIn K (.ref f)=true):DI K n st dv
noncomputable def dvO:ύ ό->ϋ
 |none=>.none
 |some t=>.ref t
def O7{i:Nat}(h:RN K n=RP t n i):DI K n (top i) (dvO t):=by
 unfold RN RP at h;split at h
 .rename_i f v;split at h
  .rename_i c L d M w;let#[N,b,e]:=Î.mp h;simp only[Prod.mk.injEq]at e;let#[rfl,l,m,o,p,q,r,s,u,j,a]:=e;let#[G,I,H,B,J,E,C,D,F,k,A,x,g,z,y]:=d;dsimp only at l m o p q r s u j b;subst l m o p q r s u;split at b
   .cases b;show .mk v w j a
   .cases b;show .mk v w j a
   .cases b
  .cases h
 .cases h
def nG(h:exB K C=RQ):ExcK K C:=by
 simp only[exB,RQ,Prod.mk.injEq,List.cons.injEq,and_true]at h;let#[a,#[b,c,d,e],f,g,i]:=h;show#[a,b,c,d,e,f,g,i]
def gQ{a d:Type}{f:a->d}{l:ϊ a}{r:ϊ d}(h:l.map f=r)(i:Nat){b:a}{c:d}(g:l[i]?=!b)(e:r[i]?=!c):f b=c:=by
 rw[<-h,À,g]at e;show Ü e
def Ec(h:obT K a=!(c,b)):∃te tn ts,K.lookup a=!#[c,te,.seq b.toArray tn,ts]:=by
 unfold obT at h;split at h
 .rename_i d;cases h;show#[_,_,_,d]
 .cases h
def ck{c:ϒ}{d:Nat}(X:K.In h)(G:h.Ns mainGlobals mg)(D:DI K n st .none)
  (b:∀(kV i p:ϋ)(an:ύ ό)(g m:ϋ)(us:ϊ ϋ),↑us=↑e->bindArgs (fnOf n n (dC st) (cU st) (aZ st) .none kV i p an g m) #[us,[]]=pure (e.zip us))
  (o:∀f fd,Fun K n n st f fd->FnOk P w K mg c J6 d f fd e j):Cal P w K mg c d n e j:=by
 let#[a,l,q,k]:=D;show#[_,_,o _ _ (yL l q k),(yL l q k).binds b,k,mg_of X G a]
section
abbrev v0{X:Cx}:=@pv X 0
abbrev v1{X:Cx}:=@pv X 1
abbrev v2{X:Cx}:=@pv X 2
abbrev v3{X:Cx}:=@pv X 3
abbrev v4{X:Cx}:=@pv X 4
abbrev v5{X:Cx}:=@pv X 5
abbrev v6{X:Cx}:=@pv X 6
abbrev v7{X:Cx}:=@pv X 7
abbrev v8{X:Cx}:=@pv X 8
abbrev v9{X:Cx}:=@pv X 9
abbrev v10{X:Cx}:=@pv X 10
abbrev v11{X:Cx}:=@pv X 11
abbrev v12{X:Cx}:=@pv X 12
abbrev Y8{X:Cx}:=@pv X 13
abbrev v14{X:Cx}:=@pv X 14
abbrev v15{X:Cx}:=@pv X 15
abbrev v16{X:Cx}:=@pv X 16
abbrev v17{X:Cx}:=@pv X 17
abbrev v18{X:Cx}:=@pv X 18
set_option hygiene false
local macro_rules|`(#[$a])=>`(Ek $a dm)|`(#[$a,$b,*])=>`(Ek $a #[$b,*])
local macro_rules|`(($a,$b))=>`(vN $a (au $b))|`(($a,$b,$c,*))=>`(vN $a ($b,$c,*))
local macro_rules|`($a + $b)=>`(nM (PJ K rfl) $a $b (λ _ _=>rfl))
local macro_rules|`($a - $b)=>`(nM (Jk K rfl) $a $b (λ _ _=>rfl))
local macro_rules|`($a < $b)=>`(Iz $a rfl (by assumption) (by decide +kernel) $b)
local macro_rules|`($a > $b)=>`(Jj ($a X G e2 z_isinstance z_bool z_int z_len z_str z_ord z_range z_sum z_zip z_list z_dict z_min z_enumerate z_max z_tuple z_sorted z_set z_all g_GREATEST_HEIGHT g_LEFT_OUT g_MOST_COLUMNS g_MOST_LETTERS g_MOST_ROOMS g_GREATEST_ON_WHEEL k_BlotError k_NotAlike k_OffStrip k_NoFont k_NoSign k_NoHouse) hr (by decide) rfl $b)
local macro_rules|`($a && $b)=>`(iH (i:=$a) nd rfl (Or.inl rfl) $b)
local macro_rules|`(↑$a)=>`(jJ (i:=$a) nd rfl (Or.inl rfl))
local macro_rules|`($a :: $b :: $c)=>`(TQ š rfl $a $b $c)
local macro_rules|`($a ++ $b)=>`(kY K rfl Ğ PySem.F.slot_list_append PySem.F.type_list_append Gs $a $b)
local macro_rules|`($a ^ $b ^ $c ^ $d)=>`(Cal pWo w K mg base $a $b $c ($d K))
local macro_rules | `($a / $b / $c / $d / $e / $f / $g / $h)=>`(Yo $a $b rfl $c (show CScope (aZ (top $d)) _ from ⟨rfl,by ac_nf,by ac_nf,by ac_nf⟩) (show capOk $a $b ($e : List Str) _ = true from by ac_nf) (λ _ _ _ _ _ _=>$f) (λ _ _ _ _ _ _=>$g) (λ _ _ _ _ _ _=>$h)) | `($a / $b / $c / $d / $e / $f)=>`(ck (st := top $b) X G (O7 (gQ e2 $a rfl rfl)) (by intro _ _ _ _ _ _; first | exact ar1 λ _=>rfl | exact ar2 λ _ _=>rfl | exact ar3 λ _ _ _=>rfl | exact ar4 λ _ _ _ _=>rfl | exact ar5 λ _ _ _ _ _=>rfl) λ _ _ F=>F.ok (N := $c) ⟨rfl,rfl,rfl,by ac_nf,rfl,by ac_nf,by ac_nf⟩ (λ _ _ _ _ h=>by cases h; subst_vars; rfl) λ cdv A outer s H vs Q E hr h=>by have nd : List.Nodup $c := (by ac_nf); obtain ⟨Eh,h⟩ := $d h; exact ⟨$e K E Eh,$f,h⟩) | `($a / $b)=>`(jJ (i := $a) (show List.Nodup ($b : List Str) by ac_nf) rfl (Or.inl rfl))
section
variable {w:World} {K:Frag} {h:Heap} {mg:Str->Option Value} {base:Heap} (X:K.In h) (G:h.Ns mainGlobals mg) (e2:XJ.map (λd=>RN K d.1)=XJ.map (λd=>RP none d.1 d.2)) (z_isinstance:mg "isinstance"=none) (z_bool:mg "bool"=none) (z_int:mg "int"=none) (z_len:mg "len"=none) (z_str:mg "str"=none) (z_ord:mg "ord"=none) (z_range:mg "range"=none) (z_sum:mg "sum"=none) (z_zip:mg "zip"=none) (z_list:mg "list"=none) (z_dict:mg "dict"=none) (z_min:mg "min"=none) (z_enumerate:mg "enumerate"=none) (z_max:mg "max"=none) (z_tuple:mg "tuple"=none) (z_sorted:mg "sorted"=none) (z_set:mg "set"=none) (z_all:mg "all"=none) {gv_GREATEST_HEIGHT:Value} (g_GREATEST_HEIGHT:mg "GREATEST_HEIGHT"=some gv_GREATEST_HEIGHT/\RelV (V.int 60) gv_GREATEST_HEIGHT) {gv_LEFT_OUT:Value} (g_LEFT_OUT:mg "LEFT_OUT"=some gv_LEFT_OUT/\RelV (V.int 37) gv_LEFT_OUT) {gv_MOST_COLUMNS:Value} (g_MOST_COLUMNS:mg "MOST_COLUMNS"=some gv_MOST_COLUMNS/\RelV (V.int 8) gv_MOST_COLUMNS) {gv_MOST_LETTERS:Value} (g_MOST_LETTERS:mg "MOST_LETTERS"=some gv_MOST_LETTERS/\RelV (V.int 40) gv_MOST_LETTERS) {gv_MOST_ROOMS:Value} (g_MOST_ROOMS:mg "MOST_ROOMS"=some gv_MOST_ROOMS/\RelV (V.int 40) gv_MOST_ROOMS) {gv_GREATEST_ON_WHEEL:Value} (g_GREATEST_ON_WHEEL:mg "GREATEST_ON_WHEEL"=some gv_GREATEST_ON_WHEEL/\RelV (V.int 1000) gv_GREATEST_ON_WHEEL) (k_BlotError:mg "BlotError"=some (.ref aK0)/\ExcK K aK0) (k_NotAlike:mg "NotAlike"=some (.ref aK4)/\ExcK K aK4) (k_OffStrip:mg "OffStrip"=some (.ref aK5)/\ExcK K aK5) (k_NoFont:mg "NoFont"=some (.ref aK1)/\ExcK K aK1) (k_NoSign:mg "NoSign"=some (.ref aK3)/\ExcK K aK3) (k_NoHouse:mg "NoHouse"=some (.ref aK2)/\ExcK K aK2)
include X G e2 z_isinstance z_bool z_int z_len z_str z_ord z_range z_sum z_zip z_list z_dict z_min z_enumerate z_max z_tuple z_sorted z_set z_all g_GREATEST_HEIGHT g_LEFT_OUT g_MOST_COLUMNS g_MOST_LETTERS g_MOST_ROOMS g_GREATEST_ON_WHEEL k_BlotError k_NotAlike k_OffStrip k_NoFont k_NoSign k_NoHouse
theorem yg:1^"is_whole"^["thing"]^fh:=0/3/zQ/VP/zP/(au (aA (gJ (bI K rfl<#[v0,eZ (v:=.ty "int") (u:=.type "int") rfl z_int (by ac_nf) rfl]) (jl (Ii (bI K rfl<#[v0,eZ (v:=.ty "bool") (u:=.type "bool") rfl z_bool (by ac_nf) rfl]))))))
theorem a05:2^"is_height"^["thing"]^eW:=1/4/zT/VR/zR/(au (aA (gJ (yg>#[v0]) (jl (vR fO fO aj v0 (iG rfl g_GREATEST_HEIGHT.1 g_GREATEST_HEIGHT.2))))))
theorem O8:1^"is_sign"^["thing"]^fF:=2/5/zW/W3/zV/(aW (PW.pt (gR (bO (aR K rfl (bI K rfl<#[v0,eZ (v:=.ty "str") (u:=.type "str") rfl z_str (by ac_nf) rfl]) (λ_=>rfl))) (kW (aK jm (aB K rfl<#[v0]) aj (aM _))))) (au (aA fY)) aG,
  aA (gJ (vR rN rN iD v0 iD) (jl (cV jm (Iu<#[v0]) (iG rfl g_LEFT_OUT.1 g_LEFT_OUT.2) (aM _)))))
theorem a06:2^"is_column"^["height","thing"]^eM:=3/6/zY/W4/zX/(au (aA (gJ (yg>#[v1]) (gJ (cV Ip v1 aj (aM _)) (jl (cV fO (uf K rfl plainAttrs_int PyProof.Rows.slot_int_bit_length PyProof.Rows.type_int_bit_length rM v1) v0 (aM _)))))))
theorem a07:1^"inked"^["column"]^f7:=4/7/Aa/W5/zZ/(1&&aj,
  gW š (aK kh v0 aj (aM _)) (0&&aC tO v0 (aC m9 v0 aj),
  Ij (i:=1) nd rfl (Or.inl rfl) aj Ik),
  aA v1)
theorem a08:1^"lines_of"^["column"]^fk:=5/8/uK/W6/Ab/(au (aA ([none,some 0]/["line","column"]/bF rfl z_range #[uf K rfl plainAttrs_int PyProof.Rows.slot_int_bit_length PyProof.Rows.type_int_bit_length rM v0]/8/uK/(0/["line","column"])/jO (aR K rfl (aC tO (aC yx v1 v0) aj) (λ_=>rfl))/v0)))
theorem a09:2^"apart"^["one","other"]^fS:=6/9/Ad/W7/Ac/(au (aA (a07>#[aC tQ v0 v1])))
theorem Tc:1^"check_alike"^["one","other"]^cE:=7/20/Af/W8/Ae/(au (aW (aK jm (aB K rfl<#[v0]) (aB K rfl<#[v1]) (aM _)) (au bK) aG))
theorem Td:3^"gap"^["one","other"]^gu:=8/18/uL/W9/Ag/(bA (Tc>#[v0,v1]),
  aA (GP K rfl rfl<#[[none,none]/["left","right"]/QB K rfl rfl rfl z_zip #[v0,v1]/18/uL/bU K rfl rfl (aJ (0/["left","right"]) (aJ (1/["left","right"]) bR))/bT/(a09>#[v0,v1])]))
theorem a0a:2^"spots_apart"^["one","other"]^bP:=9/19/uM/Wa/Ah/(bA (Tc>#[v0,v1]),
  2&&cN dm,
  bF rfl z_range #[aB K rfl<#[v0]]::jJ (i:=3) nd rfl (Or.inr rfl)::au (bA (kY K rfl Ğ Ū ū jL v2 #[[none,some 3]/["y","x"]/aX K rfl (a08>#[aC tQ (v0-v3) (v1-v3)])/19/uM/(0/["y","x"])/bT/bD #[v1,v0]])),
  aA v2)
theorem a0b:1^"turned"^["height","strip","spots"]^fR:=10/21/Aj/Wb/Ai/(3&&cA (fc K rfl) rfl z_list (by ac_nf) #[v1],
  aX K rfl v2::bU K rfl rfl (aJ ↑4 (aJ ↑5 bR))::(aW (bO (PW.pt (m8 (gb fO qX aj v4 (aB K rfl<#[v1])) (jH (gb fO qX aj v5 v0))))) (au bK) aG,
  oY (aC tQ (v3-v4) (aC yw aj v5)) (tL v3 v4 set_list)),
  aA v3)
theorem a0c:1^"lettered"^["letters","doors"]^fo:=11/24/uN/Wc/Ak/(au (aA ([none,none,some 0]/["sign","room","letters"]/fU K rfl v1/24/uN/bU K rfl rfl (aJ (0/["sign","room","letters"]) (aJ (1/["sign","room","letters"]) bR))/jO (fZ (tY (bL hr) v0 v2) (by with_unfolding_all rfl))/bD #[v0,d9 (bL hr) v2 v0 (λ_ _=>rfl),v1])))
theorem G9:2^"ways_of"^["font","house"]^fv:=12/23/uO/Wd/Al/(iH (i:=2) nd rfl (Or.inr rfl) (cA (j8 K rfl rfl) rfl z_dict (by ac_nf) #[v0+aj]),
  aA ([none,some 2]/["doors","letters"]/fU K rfl (v1+aj)/23/uO/(0/["doors","letters"])/bT/(a0c>#[v1,v0])))
theorem Te:4^"costs_over"^["font","over"]^dP:=13/28/Ao/We/An/(2&&gk,
  fU K rfl (v0+aj)::bU K rfl rfl (aJ ↑3 (aJ ↑4 bR))::(5&&Gk rfl<#[aB K rfl<#[v4],aB K rfl<#[v1]],
  f9 (bL hr) v2 v3 (Td>#[bZ (ju K rfl) v4 cZ (cD v5),bZ (ju K rfl) v1 cZ (cD v5)]) rfl),
  aA v2)
theorem a0d:1^"texts_to_rooms"^["ways"]^eF:=14/27/Lr/ZD/Lq/(1&&Er (pD aj iD tZ) rfl rfl (by simp) (by decide),
  2&&cN #[aj],
  gW š (aK kh (aB K rfl<#[v2]) aj (aM _)) (3&&kY K rfl Ğ PySem.F.slot_list_pop PySem.F.type_list_pop J4 v2 #[aj],
  aX K rfl (v0-v3)::bU K rfl rfl (aJ ↑4 (aJ ↑5 (aJ ↑6 bR)))::au (aW (fZ (jN (bL hr) v6 v1) (by with_unfolding_all rfl)) (f9 (bL hr) v1 v6 (aC eV (d9 (bL hr) v1 v3 (λ_ _=>rfl)) v4) rfl,
  bA (v2++#[v6])) aG)),
  aA v1)
theorem a0e:1^"stand_behind"^["way","ahead","over"]^gy:=15/29/Ly/ZF/Ls/(3&&aB K rfl<#[v0+aj],
  aW (aK fO v3 (aB K rfl<#[v2]) (aM _)) (au (aA (bD #[v0+aj,v1,bZ (ju K rfl) v2 (cD v3) cZ]))) aG,
  aA (bD #[v1,v0+aj,bZ (ju K rfl) (v0+aj) (cD (aB K rfl<#[v2])) cZ]))
theorem Tf:5^"forks"^["font","ways"]^f3:=16/26/Ar/Wh/Aq/(2&&gk,
  fU K rfl (v0+aj)::bU K rfl rfl (aJ ↑3 (aJ ↑4 bR))::au (f9 (bL hr) v2 v3 (Te>#[v0,v4]) rfl),
  5&&cN dm,
  pQ (a0d>#[v1])::↑6::au (wy K rfl rfl rfl z_enumerate #[v1-v6]::bU K rfl rfl (aJ ↑7 (aJ ↑8 bR))::au (aX K rfl (bZ (jr K rfl) (v1-v6) cZ (cD v7))::↑9::(10&&a0e>#[v9,v8+aj,v8+aj],
  bA (v5++#[bD #[d9 (bL hr) (d9 (bL hr) v2 (v8+aj) (λ_ _=>rfl)) (v9+aj) (λ_ _=>rfl),v10,v6,v9,v8]])))),
  aA v5)
theorem a0f:2^"steps_by"^["ways","costs","stand"]^fg:=17/30/uR/Wi/Av/(au (aA ([none,some 1,some 2]/["way","costs","stand"]/aX K rfl (v0-(v2+aj))/30/uR/(0/["way","costs","stand"])/bT/bD #[v0+aj,d9 (bL hr) v1 (v0+aj) (λ_ _=>rfl),a0e>#[v0,v2+aj,v2+aj]])))
theorem a0g:6^"all_steps"^["font","house"]^eS:=18/31/qm/Wj/Ba/(2&&G9>#[v0,v1],
  3&&Jb,
  4&&ux,
  Eu (i:=5) [none] ["fork"] rfl nd rfl rfl (aX K rfl (Tf>#[v0,v2])) (show CScope (aZ (top 31)) _ from⟨rfl,by ac_nf,by ac_nf,by ac_nf⟩) (show capOk [none] ["fork"] (qm:List Str) _=true from by ac_nf) (λ_ _ _ _ _ _=>(0/["fork"])) (λ_ _ _ _ _ _=>bT) (λ_ _ _ _ _ _=>(v0+aj)),
  gW š (aK kh (aB K rfl<#[v5]) aj (aM _)) (6&&uf K rfl Ğ PySem.F.slot_list_pop PySem.F.type_list_pop Ue v5,
  aW (fZ (sI (dR hr) v6 v4) (by with_unfolding_all rfl)) (aW (fZ (jN (bL hr) (v6+aj) v3) (by with_unfolding_all rfl)) (au (f9 (bL hr) v3 (v6+aj) (Te>#[v0,v6+aj]) rfl)) aG,
  uy (dR hr) v4 v6 (a0f>#[v2,d9 (bL hr) v3 (v6+aj) (λ_ _=>rfl),v6]) rfl,
  bA (kY K rfl Ğ Ū ū jL v5 #[[none]/["step"]/aX K rfl (j9 (dR hr) v4 v6 (λ_ _=>rfl))/31/qm/(0/["step"])/bT/(v0+aj)])) aG),
  aA v4)
theorem a0h:1^"steps_back"^["onward"]^eB:=19/35/Bd/Wl/Bc/(1&&ux,
  wZ v0::↑2::au (uy (dR hr) v1 v2 (cN dm) rfl),
  Hq v0::bU K rfl rfl (aJ ↑2 (aJ ↑3 bR))::au (aX K rfl v3::bU K rfl rfl (aJ ↑4 (aJ ↑5 (aJ ↑6 bR)))::au (bA (j9 (dR hr) v1 v6 (λ_ _=>rfl)++#[bD #[v5,v2]]))),
  aA v1)
theorem a0i:1^"is_even"^["stand","ends"]^fE:=20/36/Bg/Wm/Be/(au (aA (gJ (cV gC (aB K rfl<#[v0+aj]) aj (aM _)) (gJ (cV (iZ K rfl) (v0+aj) v1 (by with_unfolding_all rfl)) (jl (cV (iZ K rfl) (v0+aj) v1 (by with_unfolding_all rfl)))))))
theorem a0j:1^"let_wait"^["waiting","rest","backs"]^fe:=21/34/Bj/Wo/Bh/(au (aX K rfl v2::bU K rfl rfl (aJ ↑3 (aJ ↑4 bR))::au (bA (Qu (bL hr) v0 (bD #[aC b7 (v1+aj) v3,aC b7 (v1+aj) aj]) (cN dm) ⟨rfl,rfl,rfl,rfl⟩++#[v4]))))
theorem a0k:2^"rests"^["onward","ends"]^fT:=22/33/uZ/Wr/Bk/(2&&a0h>#[v0],
  3&&ux,
  4&&JT (bL hr) (bD #[aj,aj]) ([none,some 1]/["stand","ends"]/wZ v0/33/uZ/(0/["stand","ends"])/jO (aR K rfl (a0i>#[v0,v1]) (λ_=>rfl))/v0),
  gW š (aK kh (Ho<#[v4]) aj (aM _)) (5&&Hr rfl (bL hr)<#[v4],
  6&&Qt (bL hr) v4 v5 ⟨rfl,rfl,rfl,rfl⟩,
  aX K rfl v6::↑7::au (aW (fZ (sI (dR hr) v7 v3) (by with_unfolding_all rfl)) (uy (dR hr) v3 v7 v5 rfl,
  bA (a0j>#[v4,v5,j9 (dR hr) v2 v7 (λ_ _=>rfl)])) aG)),
  aA v3)
theorem Tg:1^"grown"^["texts","sign","passes"]^f5:=23/39/Bo/Ws/Bl/(3&&aC eV (v0+aj) v1,
  aA (lD (aR K rfl v2 (λ_=>rfl)) (bD #[v0+aj,v3]) (bD #[v3,v0+aj])))
theorem a2k:2^"texts_of_fork"^["ways","fork"]^gv:=24/38/Ml/ZP/Mj/(2&&d9 (bL hr) (a0d>#[v0]) (v1+aj) (λ_ _=>rfl),
  3&&v1+aj,
  4&&v1+aj,
  aA (Tg>#[bD #[v2,aC eV v2 (v4+aj)],v3+aj,cV kh (aB K rfl<#[v3+aj]) (aB K rfl<#[v4+aj]) (aM _)]))
theorem a0l:1^"step_on"^["steps","found","rest"]^fq:=25/41/Bu/Wu/Bt/(aX K rfl v0::↑3::au (aW (aK (PL K rfl hr.units) (Kh (dR hr) v1 (v3+aj) ⟨rfl,rfl,rfl,rfl⟩) (bD #[aC m9 (v2+aj) (v3+aj),aC m9 (v2+aj) aj]) (aM _)) (au (aA v3)) aG),
  aA cI)
theorem a0m:2^"led_on"^["font","onward","found","stand","texts"]^fI:=26/40/Bw/Wv/Bv/(5&&cA (j8 K rfl rfl) rfl z_dict (by ac_nf) #[v0+aj],
  gW š (aK (Ew K rfl hr.units) (j9 (dR hr) v2 v3 (λ_ _=>rfl)) (bD #[aj,aj]) (aM _)) (6&&a0l>#[j9 (dR hr) v1 v3 (λ_ _=>rfl),v2,j9 (dR hr) v2 v3 (λ_ _=>rfl)],
  4&&Tg>#[v4,v6+aj,cV kh (aB K rfl<#[d9 (bL hr) v5 (v6+aj) (λ_ _=>rfl)]) (aB K rfl<#[v3+aj]) (aM _)],
  3&&v6+aj),
  aA v4)
theorem Th:7^"farness"^["font","house"]^fA:=27/37/vd/WD/By/(2&&G9>#[v0,v1],
  3&&a0g>#[v0,v1],
  iH (i:=4) nd rfl (Or.inr rfl) (a0k>#[v3,v1+aj]),
  Eu (i:=5) [none,some 4] ["fork","found"] rfl nd rfl rfl (aX K rfl (Tf>#[v0,v2])) (show CScope (aZ (top 37)) _ from⟨rfl,by ac_nf,by ac_nf,by ac_nf⟩) (show capOk [none,some 4] ["fork","found"] (vd:List Str) _=true from by ac_nf) (λ_ _ _ _ _ _=>(0/["fork","found"])) (λ_ _ _ _ _ _=>jO (fZ (Uw (dR hr) (v0+aj) v1) (by with_unfolding_all rfl))) (λ_ _ _ _ _ _=>(bD #[aC b7 (v0+aj) (j9 (dR hr) v1 (v0+aj) (λ_ _=>rfl)+aj),v0])),
  aW (aK gC (aB K rfl<#[v5]) aj (aM _)) (au (aA cI)) aG,
  6&&xm K rfl rfl (Qo hr)<#[v5],
  7&&a0m>#[v0,v3,v4,v6+aj+aj,a2k>#[v2,v6+aj]],
  aA (bD #[v6+aj,zA K rfl rfl<#[v7],zB K rfl rfl<#[v7]]))
theorem a0n:8^"mends"^["font","house"]^f6:=28/42/BK/WF/BJ/(2&&Th>#[v0,v1],
  aW (aK iJ v2 cI (aM _)) (au (aA cI)) aG,
  aA (aC lE (aC m9 (v2+aj) aj) aj))
theorem a0o:3^"made_letter"^["height","columns"]^bS:=29/47/BP/WK/BL/(aW (bO (gb fO fO aj (aB K rfl<#[v1]) (iG rfl g_MOST_COLUMNS.1 g_MOST_COLUMNS.2))) (au bK) aG,
  aX K rfl v1::↑2::au (aW (bO (aR K rfl (a06>#[v0,v2]) (λ_=>rfl))) (au bK) aG),
  aA (cA (dO K rfl) rfl z_tuple (by ac_nf) #[v1]))
theorem a0p:4^"make_font"^["height","letters"]^eP:=30/46/BV/WL/BR/(aW (bO (aR K rfl (a05>#[v0]) (λ_=>rfl))) (au bK) aG,
  aW (bO (gb fO fO aj (aB K rfl<#[v1]) (iG rfl g_MOST_LETTERS.1 g_MOST_LETTERS.2))) (au bK) aG,
  2&&gk,
  aX K rfl v1::bU K rfl rfl (aJ ↑3 (aJ ↑4 bR))::(aW (bO (aR K rfl (O8>#[v3]) (λ_=>rfl))) (au bK) aG,
  aW (fZ (tY (bL hr) v3 v2) (by with_unfolding_all rfl)) (au bK) aG,
  f9 (bL hr) v2 v3 (a0o>#[v0,v4]) rfl),
  aA (bD #[v0,cA (yV K rfl) rfl z_tuple (by ac_nf) #[rZ rfl rfl z_sorted v2]]))
theorem a0q:2^"columns_of"^["font","sign"]^eu:=31/48/BX/WM/BW/(aW (aR K rfl (O8>#[v1]) (λ_=>rfl)) (au (fU K rfl (v0+aj)::bU K rfl rfl (aJ ↑2 (aJ ↑3 bR))::au (aW (aK gC v2 v1 (aM _)) (au (aA (cA (fc K rfl) rfl z_list (by ac_nf) #[v3]))) aG))) aG,
  bK)
theorem O9:1^"check_rooms"^["rooms"]^bX:=32/52/Ca/WN/BZ/(au (aW (bO (gb fO fO aj v0 (iG rfl g_MOST_ROOMS.1 g_MOST_ROOMS.2))) (au bK) aG))
theorem Ti:2^"check_room"^["room","rooms"]^eK:=33/55/Ce/WP/Cd/(au (aW (bO (PW.pt (m8 (aR K rfl (yg>#[v0]) (λ_=>rfl)) (jH (gb fO qX aj v0 v1))))) (au bK) aG))
theorem a0r:3^"made_doors"^["pairs","rooms"]^dS:=34/53/Ci/WQ/Cg/(2&&gk,
  aX K rfl v0::bU K rfl rfl (aJ ↑3 (aJ ↑4 bR))::(aW (bO (aR K rfl (O8>#[v3]) (λ_=>rfl))) (au bK) aG,
  aW (fZ (tY (bL hr) v3 v2) (by with_unfolding_all rfl)) (au bK) aG,
  bA (Ti>#[v4,v1]),
  f9 (bL hr) v2 v3 v4 rfl),
  aA (cA (dO K rfl) rfl z_tuple (by ac_nf) #[rZ rfl rfl z_sorted v2]))
theorem a0s:3^"made_ends"^["ends","rooms"]^eL:=35/54/Ck/WR/Cj/(2&&gk,
  aX K rfl v0::↑3::(bA (Ti>#[v3,v1]),
  aW (fZ (tY (bL hr) v3 v2) (by with_unfolding_all rfl)) (au bK) aG,
  f9 (bL hr) v2 v3 fY rfl),
  aA (cA (dO K rfl) rfl z_tuple (by ac_nf) #[wF rfl<#[v2]]))
theorem Ga:4^"make_house"^["doors","ends"]^eC:=36/51/vf/WT/Cm/(iH (i:=2) nd rfl (Or.inr rfl) (aB K rfl<#[v0]),
  bA (O9>#[v2]),
  aA (bD #[cA (dO K rfl) rfl z_tuple (by ac_nf) #[[none,some 2]/["pairs","rooms"]/aX K rfl v0/51/vf/(0/["pairs","rooms"])/bT/(a0r>#[v0,v1])],a0s>#[v1,v2]]))
theorem a0t:5^"free"^["signs"]^gc:=37/59/vg/WW/Cp/(au (aA (Ga>#[cN #[[none]/["sign"]/ue v0/59/vg/(0/["sign"])/bT/bD #[v0,aj]],cN #[aj]])))
theorem a0u:2^"beginnings"^["words"]^eE:=38/61/Cu/X3/Cr/(1&&Er (pD iD fY tZ) rfl rfl (by simp) (by decide),
  aX K rfl v0::↑2::au (Gg rfl z_range #[aj,aC b7 (aB K rfl<#[v2]) aj]::↑3::(f9 (bL hr) v1 (bZ pK v2 cZ (cD v3)) fY rfl,
  bA (O9>#[Hn<#[v1]]))),
  aA (wD rfl<#[v1]))
theorem a0v:1^"numbers_of"^["things"]^dA:=39/62/Cw/X5/Cv/(1&&gk,
  wy K rfl rfl rfl z_enumerate #[v0]::bU K rfl rfl (aJ ↑2 (aJ ↑3 bR))::au (f9 (bL hr) v1 v3 v2 rfl),
  aA v1)
theorem a0w:5^"book"^["words"]^gi:=40/60/qu/X6/Cy/(iH (i:=1) nd rfl (Or.inr rfl) (a0v>#[a0u>#[v0]]),
  Eu (i:=2) [none] ["number"] rfl nd rfl rfl (pQ v1) (show CScope (aZ (top 60)) _ from⟨rfl,by ac_nf,by ac_nf,by ac_nf⟩) (show capOk [none] ["number"] (qu:List Str) _=true from by ac_nf) (λ_ _ _ _ _ _=>(0/["number"])) (λ_ _ _ _ _ _=>bT) (λ_ _ _ _ _ _=>(cN dm)),
  pQ v1::↑3::au (aW (aK jm v3 iD (aM _)) (au (bA ((v2-d9 (bL hr) v1 (bZ pK v3 cZ (cD (qW mj aj))) (λ_ _=>rfl))++#[bD #[nM mD v3 (qW mj aj) (λ_ _=>rfl),d9 (bL hr) v1 v3 (λ_ _=>rfl)]]))) aG),
  aA (Ga>#[v2,[none,some 1]/["word","numbers"]/aX K rfl (wY K rfl rfl rfl z_sorted rfl z_set #[v0])/60/qu/(0/["word","numbers"])/bT/d9 (bL hr) v1 v0 (λ_ _=>rfl)]))
theorem a0x:2^"check_wheel"^["numbers"]^cK:=41/64/CG/X7/Cz/(aW (aK gC (aB K rfl<#[v0]) aj (aM _)) (au bK) aG,
  fU K rfl v0::↑1::au (aW (bO (PW.pt (m8 (aR K rfl (yg>#[v1]) (λ_=>rfl)) (jH (gb fO fO aj v1 (iG rfl g_GREATEST_ON_WHEEL.1 g_GREATEST_ON_WHEEL.2)))))) (au bK) aG))
theorem a0y:1^"sums_doors"^["signs","many","rest","number","later"]^dL:=42/65/vq/Xa/CJ/(au (aA ([none,none,some 4,some 2,some 3,some 1]/["worth","sign","later","rest","number","many"]/JS rfl rfl z_enumerate #[v0] (P0 aj U4)/65/vq/bU K rfl rfl (aJ (0/["worth","sign","later","rest","number","many"]) (aJ (1/["worth","sign","later","rest","number","many"]) bR))/bT/bD #[v1,aC b7 v2 (aC cG (aC b7 v3 (aC eU v0 v4)) v5)])))
theorem Tj:4^"gaps_at"^["font","strip","x"]^fr:=43/68/CP/Xd/CN/(3&&gk,
  fU K rfl (v0+aj)::bU K rfl rfl (aJ ↑4 (aJ ↑5 bR))::(6&&bZ (jr K rfl) v1 (cD v2) (cD (aC b7 v2 (aB K rfl<#[v5]))),
  aW (aK gC (aB K rfl<#[v6]) (aB K rfl<#[v5]) (aM _)) (au (f9 (bL hr) v3 v4 (Td>#[v5,v6]) rfl)) aG),
  aA v3)
theorem a0z:1^"thing_through"^["way","gaps","paper","x"]^gx:=44/70/MK/ZS/MJ/(4&&v0+aj,
  aW (fZ (jN (bL hr) v4 v1) (by with_unfolding_all rfl)) (au (aA cI)) aG,
  5&&v2-aC b7 v3 (aB K rfl<#[v0+aj])-(v0+aj),
  aW (aK iJ v5 cI (aM _)) (au (aA cI)) aG,
  aA (bD #[aC b7 (d9 (bL hr) v1 v4 (λ_ _=>rfl)) (v5+aj),v5+aj]))
theorem a1a:1^"merged"^["one","other"]^fN:=45/71/CW/Xe/CV/(aW (aK iJ v0 cI (aM _)) (au (aA v1)) aG,
  aW (aK iJ v1 cI (aM _)) (au (aA v0)) aG,
  aW (aK gC (v0+aj) (v1+aj) (aM _)) (au (aA (bD #[v0+aj,aC b7 (v0+aj) (v1+aj)]))) aG,
  aA (lD (aK qX (v0+aj) (v1+aj) (aM _)) v0 v1))
theorem a1b:2^"thing_at"^["leads","gaps","paper","x"]^fm:=46/69/Dc/Xf/CZ/(4&&cI,
  aX K rfl v0::↑5::au (4&&a1a>#[v4,a0z>#[v5,v1,v2,v3]]),
  aA v4)
theorem a1c:5^"near_paper"^["font","house","strip"]^dV:=47/67/nu/Xl/Df/(3&&G9>#[v0,v1],
  iH (i:=4) nd rfl (Or.inr rfl) ([none]/["x"]/bF rfl z_range #[aC b7 (aB K rfl<#[v2]) aj]/67/nu/(0/["x"])/bT/cN dm),
  oY ([none,some 1]/["room","house"]/bF rfl z_range #[aB K rfl<#[v3]]/67/nu/(0/["room","house"])/bT/lD (aK (iZ K rfl) v0 (v1+aj) (by with_unfolding_all rfl)) (bD #[aj,aj]) cI) (tL v4 (aB K rfl<#[v2]) set_list),
  Hg rfl z_range #[aC m9 (aB K rfl<#[v2]) aj,qW mj aj,qW mj aj]::jJ (i:=5) nd rfl (Or.inr rfl)::(iH (i:=6) nd rfl (Or.inr rfl) (Tj>#[v0,v2,v5]),
  oY ([none,some 6,some 4,some 5]/["leads","gaps","paper","x"]/aX K rfl v3/67/nu/(0/["leads","gaps","paper","x"])/bT/(a1b>#[v0,v1,v2,v3])) (tL v4 v5 set_list)),
  aA v4)
theorem a1d:2^"first_way"^["leads","gaps","paper","x","far"]^eR:=48/74/Dh/Xm/Dg/(aX K rfl v0::↑5::(6&&a0z>#[v5,v1,v2,v3],
  aW (PW.pt (m8 (aK OD v6 cI (aM _)) (jH (aK gC (v6+aj) v4 (aM _))))) (au (aA v5)) aG),
  aA cI)
theorem a1e:5^"first_text"^["font","house","strip","paper"]^eA:=49/73/Dk/Xn/Di/(4&&G9>#[v0,v1],
  5&&cN dm,
  6&&aj,
  7&&aj,
  gW š (aK qX v7 (aB K rfl<#[v2]) (aM _)) (8&&a1d>#[v4-v6,Tj>#[v0,v2,v7],v3,v7,v3-v7-v6+aj],
  bA (v5++#[v8+aj]),
  Ij (i:=7) nd rfl (Or.inl rfl) (aB K rfl<#[v8+aj]) Ik,
  6&&v8+aj),
  aA (kY K rfl PySem.F.plainAttrs_str PySem.F.slot_str_join PySem.F.type_str_join (Jr K rfl) iD #[v5]))
theorem a1f:6^"nearest"^["font","house","strip"]^ft:=50/72/Do/Xo/Dm/(3&&a1c>#[v0,v1,v2],
  4&&v3-aj-aj,
  aW (aK iJ v4 cI (aM _)) (au (aA cI)) aG,
  aA (bD #[a1e>#[v0,v1,v2,v3],v4+aj,v4+aj]))
theorem Tp:3^"set_text"^["font","text"]^e8:=51/76/Dr/Xp/Dq/(2&&cN dm,
  ue v1::↑3::au (bA (kY K rfl Ğ Ū ū jL v2 #[a0q>#[v0,v3]])),
  aA v2)
theorem a1g:4^"halfway"^["font","one","other"]^fy:=52/78/Dt/Xq/Ds/(3&&Tp>#[v0,v1],
  4&&a0a>#[v3,Tp>#[v0,v2]],
  aA (a0b>#[v0+aj,v3,bZ (jr K rfl) v4 cZ (cD (aC lE (aC b7 (aB K rfl<#[v4]) aj) aj))]))
theorem tG:1^"_law_cell_at"^["script","k"]^aT:=53/80/Dv/Xr/Du/(aW (aK qX v1 (aB K rfl<#[v0]) (aM _)) (au (aA (v0-v1))) aG,
  aA aj)
theorem gH:1^"_law_mixed"^["cell","k"]^eI:=54/81/Dy/Xu/Dw/(au (aA (aC cG (aC eU (aC b7 (aC b7 (aC eU (aC cG v0 aj) (aC b7 aj (aC eU aj v1))) (aC eU (aC eU aj v1) v1)) aj) aj) aj)))
theorem a2l:2^"_law_signs_by"^["cell","many"]^f4:=55/82/Nh/ZX/Ng/(2&&iD,
  2&&aC eV v2 iD,
  3&&aC cG v0 aj,
  4&&nM mD v2 v3 (λ_ _=>rfl),
  bF rfl z_range #[v1]::↑5::(3&&aC cG (aC b7 (aC b7 v3 aj) (aC cG (gH>#[v0,v5]) aj)) aj,
  4&&aC eV v4 (nM mD v2 v3 (λ_ _=>rfl))),
  aA v4)
theorem a2m:2^"_law_letters_by"^["script","signs","height"]^dE:=56/83/Nm/ZZ/Ni/(3&&tG>#[v0,aj],
  4&&cN dm,
  bF rfl z_range #[aC b7 aj (aC cG (gH>#[v3,aj]) aj)]::↑5::(6&&aC b7 (tG>#[v0,aC b7 aj v5]) (aC eU aj v5),
  7&&cN dm,
  bF rfl z_range #[aC b7 aj (aC cG (gH>#[v6,aj]) aj)]::↑8::au (bA (v7++#[aC cG (aC eU (gH>#[v6,aC b7 aj v8]) aj) (aC yw aj v2)])),
  aW (PW.pt (m8 (aK gC v5 aj (aM _)) (jH (aK gC (aC cG (gH>#[v3,aj]) aj) aj (aM _))))) (au (7&&cA (fc K rfl) rfl z_list (by ac_nf) #[v4-aj+aj])) aG,
  bA (v4++#[bD #[nM mD v1 v5 (λ_ _=>rfl),v7]])),
  aA v4)
theorem a2n:5^"_law_drawn_house"^["cell","signs","many"]^aI:=57/84/G7/a00/Np/(3&&cN dm,
  bF rfl z_range #[v2]::↑4::(5&&cN dm,
  bF rfl z_range #[aB K rfl<#[v1]]::↑6::au (aW (aK kh (aC cG (gH>#[v0,aC b7 (aC b7 aj (aC eU aj v4)) v6]) aj) aj (aM _)) (au (bA (v5++#[bD #[nM mD v1 v6 (λ_ _=>rfl),aC cG (gH>#[v0,aC b7 (aC b7 aj (aC eU aj v4)) v6]) v2]]))) aG),
  bA (v3++#[v5])),
  aA (Ga>#[v3,[none,some 0]/["k","cell"]/bF rfl z_range #[v2]/84/G7/(0/["k","cell"])/jO (aK kh (aC cG (gH>#[v1,aC b7 aj v0]) aj) aj (aM _))/v0]))
theorem a1h:2^"_law_word_by"^["cell","signs"]^aS:=58/85/DK/Xv/DG/(2&&iD,
  bF rfl z_range #[aC cG (gH>#[v0,aj]) aj]::↑3::au (2&&aC eV v2 (nM mD v1 (aC cG (gH>#[v0,aC b7 aj v3]) (aB K rfl<#[v1])) (λ_ _=>rfl))),
  aA v2)
theorem a1i:1^"_law_takes"^["house","text"]^eJ:=60/87/vG/Xw/DN/(2&&aj,
  ue v1::jJ (i:=3) nd rfl (Or.inr rfl)::(Eu (i:=4) [none,some 3] ["door","sign"] rfl nd rfl rfl (fU K rfl (v0+aj+v2)) (show CScope (aZ (top 87)) _ from⟨rfl,by ac_nf,by ac_nf,by ac_nf⟩) (show capOk [none,some 3] ["door","sign"] (vG:List Str) _=true from by ac_nf) (λ_ _ _ _ _ _=>(0/["door","sign"])) (λ_ _ _ _ _ _=>jO (aK gC (v0+aj) v1 (aM _))) (λ_ _ _ _ _ _=>(v0+aj)),
  aW (aK gC (aB K rfl<#[v4]) aj (aM _)) (au (aA fY)) aG,
  2&&v4-aj),
  aA (cV (iZ K rfl) v2 (v0+aj) (by with_unfolding_all rfl)))
theorem Oa:1^"_law_picture"^["text","pictures"]^bE:=61/88/DQ/Xx/DP/(2&&cN dm,
  ue v0::↑3::(aW (fZ (jN (bL hr) v3 v1) (by with_unfolding_all rfl)) (au (aA cI)) aG,
  2&&aC Uh v2 (d9 (bL hr) v1 v3 (λ_ _=>rfl))),
  aA v2)
theorem a1j:1^"_law_unlike"^["left","right","height"]^cS:=62/89/DW/Xy/DR/(3&&cN dm,
  bF rfl z_range #[aB K rfl<#[v0]]::↑4::au (bF rfl z_range #[v2]::↑5::au (aW (aK jm (aC tO (aC yx (v0-v4) v5) aj) (aC tO (aC yx (v1-v4) v5) aj) (aM _)) (au (bA (v3++#[bD #[v4,v5]]))) aG)),
  aA v3)
theorem yh:1^"_law_whole"^["found"]^dQ:=63/90/DY/Xz/DX/(au (aA (gJ (bI K rfl<#[v0,eZ (v:=.ty "int") (u:=.type "int") rfl z_int (by ac_nf) rfl]) (jl (Ii (bI K rfl<#[v0,eZ (v:=.ty "bool") (u:=.type "bool") rfl z_bool (by ac_nf) rfl]))))))
theorem a2o:2^"_law_pair_good"^["found","house","pictures"]^fb:=64/91/Ny/a02/Nv/(aW (PW.pt (gR (bO (aR K rfl (bI K rfl<#[v0,eZ (v:=.ty "tuple") (u:=.type "tuple") rfl z_tuple (by ac_nf) rfl]) (λ_=>rfl))) (gR (aK jm (aB K rfl<#[v0]) aj (aM _)) (kW (bO (aR K rfl (yh>#[v0+aj]) (λ_=>rfl))))))) (au (aA fY)) aG,
  aW (PW.pt (gR (bO (aR K rfl (bI K rfl<#[v0+aj,eZ (v:=.ty "str") (u:=.type "str") rfl z_str (by ac_nf) rfl]) (λ_=>rfl))) (gR (bO (aR K rfl (bI K rfl<#[v0+aj,eZ (v:=.ty "str") (u:=.type "str") rfl z_str (by ac_nf) rfl]) (λ_=>rfl))) (kW (bO (aK Gi (v0+aj) (v0+aj) (aM _))))))) (au (aA fY)) aG,
  fU K rfl (bZ (ju K rfl) v0 (cD aj) cZ)::↑3::au (aW (PW.pt (gR (bO (aR K rfl (a1i>#[v1,v3]) (λ_=>rfl))) (kW (aK iJ (Oa>#[v3,v2]) cI (aM _))))) (au (aA fY)) aG),
  aA fY)
theorem a2p:2^"_law_reading_good"^["found","one","far"]^aE:=65/92/NB/a03/Nz/(aW (PW.pt (gR (bO (aR K rfl (bI K rfl<#[v0,eZ (v:=.ty "tuple") (u:=.type "tuple") rfl z_tuple (by ac_nf) rfl]) (λ_=>rfl))) (gR (aK jm (aB K rfl<#[v0]) aj (aM _)) (gR (bO (aR K rfl (yh>#[v0+aj]) (λ_=>rfl))) (kW (bO (aR K rfl (yh>#[v0+aj]) (λ_=>rfl)))))))) (au (aA fY)) aG,
  aA (gJ (cV fO (v0+aj) (aC lE v2 aj) (aM _)) (gJ (cV Ip (v0+aj) aj (aM _)) (jl (Ye (cV jm (v0+aj) v1 (aM _)) (jl (cV kh (v0+aj) aj (aM _))))))))
end
theorem XH (X:K.In h) (G:h.Ns mainGlobals mg) (hfa:mg "law"=some (.ref fa)) (e:obs K=ans)
  :∃fd:FuncData,(∀ (s:Shared) (v:Value),BindsTo s fd ⟨[v],[]⟩ [Prod.mk "script" v])/\∀base:Heap,K.In base->base.Ns mainGlobals mg->FnOk pWo w K mg base J6 9 fa fd ["script"] (gl K):=by
 have e1:nms.map (nsIn K mainGlobals)=vls:=Ö (·.1) e;have e2:XJ.map (λd=>RN K d.1)=XJ.map (λd=>RP none d.1 d.2):=Ö (·.2.1) e;have e3:=Ö (·.2.2.1) e;have e4:=Ö (·.2.2.2.1) e;have e5:=Ö (·.2.2.2.2) e;obtain @⟨_,_,kV,dc,pm,cd,ct,_,an,_,a,lL,qL,kL⟩:=O7 (gQ e2 66 rfl rfl:RN K "law"=RP none "law" 93)
 cases hfa.symm.trans (mg_of X G a);refine ⟨fnOf "law" "law" (dC (top 93)) (cU (top 93)) (aZ (top 93)) .none kV dc pm an cd ct,λs v=>.of_eq rfl,λbase _ _=>?_⟩;have z_isinstance:mg "isinstance"=none:=mg_none_of X G (gQ e1 0 rfl rfl);have z_bool:mg "bool"=none:=mg_none_of X G (gQ e1 1 rfl rfl);have z_int:mg "int"=none:=mg_none_of X G (gQ e1 2 rfl rfl);have z_len:mg "len"=none:=mg_none_of X G (gQ e1 3 rfl rfl);have z_str:mg "str"=none:=mg_none_of X G (gQ e1 4 rfl rfl);have z_ord:mg "ord"=none:=mg_none_of X G (gQ e1 5 rfl rfl);have z_range:mg "range"=none:=mg_none_of X G (gQ e1 6 rfl rfl);have z_sum:mg "sum"=none:=mg_none_of X G (gQ e1 7 rfl rfl);have z_zip:mg "zip"=none:=mg_none_of X G (gQ e1 8 rfl rfl);have z_list:mg "list"=none:=mg_none_of X G (gQ e1 9 rfl rfl);have z_dict:mg "dict"=none:=mg_none_of X G (gQ e1 10 rfl rfl);have z_min:mg "min"=none:=mg_none_of X G (gQ e1 11 rfl rfl);have z_enumerate:mg "enumerate"=none:=mg_none_of X G (gQ e1 12 rfl rfl);have z_max:mg "max"=none:=mg_none_of X G (gQ e1 13 rfl rfl);have z_tuple:mg "tuple"=none:=mg_none_of X G (gQ e1 14 rfl rfl);have z_sorted:mg "sorted"=none:=mg_none_of X G (gQ e1 15 rfl rfl);have z_set:mg "set"=none:=mg_none_of X G (gQ e1 16 rfl rfl);have z_all:mg "all"=none:=mg_none_of X G (gQ e1 17 rfl rfl);have g_GREATEST_HEIGHT:mg "GREATEST_HEIGHT"=some (.int 60 189)/\RelV (V.int 60) (.int 60 189):=⟨mg_of X G (gQ e1 18 rfl rfl),_,rfl⟩;have g_LEFT_OUT:mg "LEFT_OUT"=some (.int 37 191)/\RelV (V.int 37) (.int 37 191):=⟨mg_of X G (gQ e1 19 rfl rfl),_,rfl⟩;have g_MOST_COLUMNS:mg "MOST_COLUMNS"=some (.int 8 561)/\RelV (V.int 8) (.int 8 561):=⟨mg_of X G (gQ e1 20 rfl rfl),_,rfl⟩;have g_MOST_LETTERS:mg "MOST_LETTERS"=some (.int 40 559)/\RelV (V.int 40) (.int 40 559):=⟨mg_of X G (gQ e1 21 rfl rfl),_,rfl⟩;have g_MOST_ROOMS:mg "MOST_ROOMS"=some (.int 40 595)/\RelV (V.int 40) (.int 40 595):=⟨mg_of X G (gQ e1 22 rfl rfl),_,rfl⟩;have g_GREATEST_ON_WHEEL:mg "GREATEST_ON_WHEEL"=some (.int 1000 643)/\RelV (V.int 1000) (.int 1000 643):=⟨mg_of X G (gQ e1 23 rfl rfl),_,rfl⟩;have k_BlotError:mg "BlotError"=some (.ref aK0)/\ExcK K aK0:=⟨mg_of X G (gQ e1 24 rfl rfl),nG (gQ e3 0 rfl rfl)⟩;have k_NotAlike:mg "NotAlike"=some (.ref aK4)/\ExcK K aK4:=⟨mg_of X G (gQ e1 25 rfl rfl),nG (gQ e3 1 rfl rfl)⟩;have k_OffStrip:mg "OffStrip"=some (.ref aK5)/\ExcK K aK5:=⟨mg_of X G (gQ e1 26 rfl rfl),nG (gQ e3 2 rfl rfl)⟩;have k_NoFont:mg "NoFont"=some (.ref aK1)/\ExcK K aK1:=⟨mg_of X G (gQ e1 27 rfl rfl),nG (gQ e3 3 rfl rfl)⟩;have k_NoSign:mg "NoSign"=some (.ref aK3)/\ExcK K aK3:=⟨mg_of X G (gQ e1 28 rfl rfl),nG (gQ e3 4 rfl rfl)⟩;have k_NoHouse:mg "NoHouse"=some (.ref aK2)/\ExcK K aK2:=⟨mg_of X G (gQ e1 29 rfl rfl),nG (gQ e3 5 rfl rfl)⟩;obtain⟨_,_,_,t_PLAIN_WHEEL⟩:=Ec (gQ e5 1 rfl rfl);have k_PLAIN_WHEEL:mg "PLAIN_WHEEL"=some (.ref bJ)/\TupK K bJ [V.int 1]:=⟨mg_of X G (gQ e1 30 rfl rfl),L2.Sq t_PLAIN_WHEEL⟩;obtain⟨_,_,_,t_f64⟩:=Ec (gQ e5 0 rfl rfl);obtain⟨a_f64,l,q,k_f64⟩:=O7 (Ü (Ö (·[0]?) e4):RN K "sums"=RP (some 352) "sums" 63);have F_f64:=Qc (st:=top 63) l q k_f64 t_f64;have o_f64:FnOk pWo w K mg base J6 5 _ _ ["signs","many","wheel"] (gg K):=F_f64.ok (N:=nj) ⟨rfl,rfl,rfl,by ac_nf,rfl,by ac_nf,by ac_nf⟩ (λ_ _ _ _ h=>Xc h) λcdv A outer s H vs Q E hr h=>by
  have nd:List.Nodup nj:=by ac_nf
  obtain⟨Eh,h⟩:=Xb h;exact ⟨CK K E Eh,(iH (i:=3) nd rfl (Or.inr rfl) (lD (aK iJ v2 cI (aM _)) (iG (v:=.ref bJ) rfl k_PLAIN_WHEEL.1 rfl) v2),
   aW (bO (PW.pt (m8 (aR K rfl (yg>#[v1]) (λ_=>rfl)) (jH (aK Ip v1 aj (aM _)))))) (au bK) aG,
   bA (a0x>#[v3]),
   bA (O9>#[aC eU v1 (aB K rfl<#[v3])]),
   4&&cN dm,
   bF rfl z_range #[aB K rfl<#[v3]]::jJ (i:=5) nd rfl (Or.inr rfl)::(iH (i:=6) nd rfl (Or.inr rfl) (aC eU (aC cG (aC b7 v5 aj) (aB K rfl<#[v3])) v1),
   bA (kY K rfl Ğ Ū ū jL v4 #[[none,some 0,some 1,some 3,some 5,some 6]/["rest","signs","many","numbers","turn","later"]/bF rfl z_range #[v1]/63/nj/(0/["rest","signs","many","numbers","turn","later"])/bT/(a0y>#[v1,v2,v0,v3+v4,v5])])),
   aA (Ga>#[v4,[none,some 1]/["turn","many"]/bF rfl z_range #[aB K rfl<#[v3]]/63/nj/(0/["turn","many"])/bT/aC eU v0 v1])),h⟩
 have cd_f64:CalD pWo w K mg base 5 "sums" ["signs","many","wheel"] [V.non] (gg K):=⟨_,_,_,o_f64,F_f64.binds (es:=[Value.none]) (λ_ _ _ _ _ _ us hl=>ar2 (P:=λus=>∃k:Option (Array Value)->Sem (List (Str×Value)),bindArgs _ ⟨us,[]⟩=seqItems? _>>=k/\k (some _)=pure (List.zip _ (HAppend.hAppend us [Value.none]))) (λ_ _=>⟨_,rfl,rfl⟩) us (by simpa using hl)),.cons rfl .nil,k_f64,mg_of X G a_f64⟩;have c_f5:6^"_law_house_by"^["script","signs"]^fx:=59/86/G8/a01/Nq/(2&&tG>#[v0,aj],
   3&&aC cG (gH>#[v2,aj]) aj,
   aW (aK gC v3 aj (aM _)) (au (aA (a0t>#[bZ pK v1 cZ (cD (qW mj aj))]))) aG,
   aW (aK gC v3 aj (aM _)) (au (aA (Qd cd_f64 hr (by decide) rfl #[bZ pK v1 cZ (cD (qW mj aj)),aC b7 aj (aC cG (gH>#[v2,aj]) aj)]))) aG,
   aW (aK gC v3 aj (aM _)) (au (aA (a0w>#[[none,some 1]/["one","signs"]/aX K rfl (bZ (jr K rfl) v0 (cD aj) (cD aj))/86/G8/(0/["one","signs"])/bT/(a1h>#[v0,v1])]))) aG,
   aA (a2n>#[v2,v1,aC b7 aj (aC cG (gH>#[v2,aj]) aj)]))
 have F:=yL (st:=top 93) lL qL kL;exact F.ok (N:=nF) ⟨rfl,rfl,rfl,by ac_nf,rfl,by ac_nf,by ac_nf⟩ (λ_ _ _ _ h=>XF h) λcdv A outer s H vs Q E hr h=>by
  have nd:List.Nodup nF:=by ac_nf
  obtain⟨Eh,h⟩:=XD h;exact ⟨Ea K E Eh,(1&&cN #[aj,aj,aj,aj]-aC cG (gH>#[tG>#[v0,aj],aj]) aj,
   2&&aC b7 aj (aC cG (tG>#[v0,aj]) v1),
   3&&a2l>#[tG>#[v0,aj],aj],
   4&&a2m>#[v0,v3,v2],
   5&&a0p>#[v2,[none,none]/["sign","columns"]/aX K rfl v4/93/nF/bU K rfl rfl (aJ (0/["sign","columns"]) (aJ (1/["sign","columns"]) bR))/bT/bD #[v0,cA (fc K rfl) rfl z_list (by ac_nf) #[v1]]],
   6&&cA (j8 K rfl rfl) rfl z_dict (by ac_nf) #[v4],
   7&&Jj c_f5 hr (by decide) rfl #[v0,bZ pK v3 cZ (cD (aC b7 (aB K rfl<#[v4]) aj))],
   8&&Th>#[v5,v7],
   9&&a0n>#[v5,v7],
   aW (aK iJ v8 cI (aM _)) (au (aA (cV iJ v9 cI (aM _)))) aG,
   aW (bO (aR K rfl (a2o>#[v8,v7,v6]) (λ_=>rfl))) (au (aA fY)) aG,
   oY v8 (bU K rfl rfl (aJ ↑10 (aJ ↑11 (aJ ↑12 bR)))),
   13&&Oa>#[v11,v6],
   14&&Oa>#[v12,v6],
   aW (aK jm (aB K rfl<#[Y8]) (aB K rfl<#[v14]) (aM _)) (au (aA fY)) aG,
   15&&a1j>#[Y8,v14,v2],
   aW (PW.pt (gR (aK jm (aB K rfl<#[v15]) v10 (aM _)) (gR (bO (aR K rfl (yh>#[v9]) (λ_=>rfl))) (kW (aK jm v9 (aC lE (aC m9 v10 aj) aj) (aM _)))))) (au (aA fY)) aG,
   aW (aK kh (aB K rfl<#[Y8]) aj (aM _)) (au (aA fY)) aG,
   aX K rfl (bZ (jr K rfl) v15 cZ (cD (aC lE (aC b7 v10 aj) aj)))::bU K rfl rfl (aJ ↑16 (aJ ↑17 bR))::au (oY (aC tQ (Y8-v16) (aC yw aj v17)) (tL Y8 v16 set_list)),
   18&&a1g>#[v5,v11,v12],
   aW (PW.pt (gR (bO (aR K rfl (bI K rfl<#[v18,eZ (v:=.ty "list") (u:=.type "list") rfl z_list (by ac_nf) rfl]) (λ_=>rfl))) (gR (bO (aR K rfl (Ha K rfl rfl<#[[none]/["column"]/aX K rfl v18/93/nF/(0/["column"])/bT/(yh>#[v0])]) (λ_=>rfl))) (kW (aK (Ew K rfl hr.units) v18 Y8 (aM _)))))) (au (aA fY)) aG,
   aA (a2p>#[a1f>#[v5,v7,v18],v11,v10])),h⟩
end
theorem fin:PySem.Challenge.rw_blotsure_k82_whole_no_greater.Holds:=by
 refine holds_law said λsaid=>holds_open (q:=vw) (loose:=lo) (Xt:=λs=>xlAt vw [] s&&recOk [] s) (XP:=XL vw []) (Ya:=λ_=>ans) (YP:=λ_ h=>∃K:Frag,K.In h/\obs K=ans) left (λw s e=>⟨_,Oj,e⟩) (λw h h' ⟨K,X,e⟩ k=>⟨K,Frag.In.keeps X k,e⟩) (λs e=>xl_of s (Bool.and_eq_true_iff.mp e).1) XL.keeps (by rfl) (by rfl) (by rfl) (λs e=>recFacts_of (Bool.and_eq_true_iff.mp e).2) (by rfl) said (by ac_nf) ⟨rfl,rfl,rfl,rfl,rfl,by ac_nf⟩ ?hw ?hc
 case hw=>w_witness2
 rintro w s s' mg mb G ⟨K,X,e⟩;obtain⟨_,_,_,t_PLAIN_WHEEL⟩:=Ec (gQ (Ö (·.2.2.2.2) e) 1 rfl rfl);exact L2.Pk (n:=63) (k:=9) (x:="script") (CX:=λ_=>L2.J6) (K:=λ_=>K) (YP:=λ_ h=>K.In h) (sp:=λ_=>gl K) rfl (by decide) rfl ⟨rfl,by decide,by decide⟩ (λ_ _ Y=>Y) (λ_ _ _ _ KX G hmg=>XH KX G hmg e) (λ_ _ a ns hl _ hS=>⟨a,ns,rfl,L2.Sq t_PLAIN_WHEEL,hS,hl,λ_=>rfl⟩) (λ_ _ _ _ _ z=>z) w s s' mg mb G X
end Pg
open PySem PySem.W PyProof.Rows
theorem PySem.Challenge.cw_blotsure_k82_whole_no_greater_holds : PySem.Challenge.rw_blotsure_k82_whole_no_greater.Holds :=
 Pg.fin
