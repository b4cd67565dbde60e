import PyProof.Rows.All
import Wide.All
import OpenK.AllK
import PySem.Challenge.RW_blotsure_k81_whole_sure_reading
def β:=@if_pos
def γ:=@if_neg
def μ:=@absurd
local macro_rules|`(↥$x)=>`((.ref $x))
set_option hygiene false
local macro_rules|`(∅)=>`(wpAny (model prog w) A)
set_option hygiene true
theorem Z{a:α}:a=a:=rfl
local macro_rules|`(⇑$x)=>`(($x).heap.objs.size)
def Qb:=@List.length_map
def Qr:=@PySem.wpAny_bind
def Zl:=@List.getElem?_eq_getElem
def Zp:=@List.mem_map
def Zs:=@List.mem_singleton
def Yf:=@List.mem_of_getElem?
def Xs:=@List.getD_eq_getElem?_getD
def Wp:=@PySem.wpAny_pure
def Jn:=@PySem.Heap.get?_push_of_some
def À:=@List.getElem?_eq_some_iff
def Á:=@List.getElem?_map
def Â:=@List.map_append
def Ã:=@Nat.le_refl
def Ä:=@List.map_map
def Å:=@List.mem_cons
def Æ:=@List.mem_append
def Ç:=@List.map_cons
def È:=@PySem.Heap.get?_push_size
def É:=@List.length_append
def Ê:=@List.mem_cons_of_mem
def Ë:=@PySem.Heap.lt_size
def Ì:=@List.mem_cons_self
def Í:=@Nat.le_trans
def Î:=@Option.map_eq_some_iff
def Ï:=@Bool.false_ne_true
def Ð:=@List.take_add_one
def Ñ:=@List.length_take
def Ò:=@Nat.lt_of_lt_of_le
def Ó:=@Int.toNat_natCast
def Ô:=@decide_eq_true
def Õ:=@Nat.lt_of_le_of_lt
def Ö:=@congrArg
def Ø:=@List.getElem_mem
def Ù:=@List.size_toArray
def Ú:=@List.not_mem_nil
def Û:=@Bool.false_eq_true
def Ü:=@decide_eq_false
def Ý:=@Option.some.inj
def Þ:=@Nat.ne_of_lt
def ß:=@List.mem_append_right
def à:=@List.take_length
def á:=@Array.length_toList
def â:=@Nat.le_of_lt
def ã:=@List.length_singleton
def ä:=@Nat.zero_le
def å:=@List.nodup_append
def æ:=@List.take_of_length_le
def ç:=@List.mem_append_left
def è:=@PySem.Heap.SameBut.update
def é:=@List.mem_filterMap
def ê:=@List.length_range
def ë:=@Array.getElem?_eq_getElem
def ì:=@List.mem_range
def í:=@List.length_cons
def î:=@PySem.wpAny_call_entry
def ï:=@List.nodup_cons
def ð:=@List.length_replicate
def ñ:=@PySem.Heap.get?_update_self
def ò:=@List.mem_filter
def ó:=@PySem.wpAny_newObj_type
def ô:=@of_decide_eq_true
def õ:=@PySem.wpAny_holding
def ö:=@Array.getElem?_toList
def ø:=@List.append_assoc
def ù:=@List.length_drop
def ú:=@PySem.Obj.data_mapFields
def û:=@List.append_nil
def ü:=@PySem.sizeLine_eq
def ý:=@PySem.Around.under_plainId
def þ:=@or_false
def ÿ:=@List.mem_flatMap
def Ā:=@List.getElem?_eq_none
def ā:=@List.mem_iff_getElem?
def Ă:=@Bool.and_eq_true
def ă:=@List.getElem_map
def Ą:=@List.forIn_cons
def ą:=@PyProof.Rows.wpS_bind
def Ć:=@Nat.succ_le_succ
def ć:=@PySem.codeAny_builtin
def Ĉ:=@PySem.Heap.get?_update_other
def ĉ:=@PySem.wpAny_mono
def Ċ:=@PyProof.Rows.callWith_type1
def ċ:=@if_false
def Č:=@List.map_congr_left
def č:=@Int.toNat_of_nonneg
def Ď:=@Nat.lt_irrefl
def ď:=@Bool.not_true
def Đ:=@List.map_nil
def đ:=@Nat.le_of_eq
def Ē:=@List.Nodup.sublist
def ē:=@PySem.wpAny_setField_rec
def Ĕ:=@Nat.lt_succ_self
def ĕ:=@List.take_append_drop
def Ė:=@PySem.wpAny_truthy_bool
def ė:=@Nat.ne_of_gt
def Ę:=@List.take_sublist
def ę:=@List.pairwise_map
def Ě:=@List.getElem?_append_right
def ě:=@PySem.wpAny_seqItems
def Ĝ:=@PySem.W.kia_one
def ĝ:=@List.length_nil
def Ğ:=@List.find?_cons
def ğ:=@List.sum_cons
def Ġ:=@PySem.Calls.callWith_builtin
def ġ:=@List.length_pos_of_mem
def Ģ:=@List.mem_of_find?_eq_some
def ģ:=@Nat.lt_succ_of_lt
def Ĥ:=@Sum.inr.inj
def ĥ:=@PySem.wpAny_field
def Ħ:=@List.length_filter_le
def ħ:=@PySem.Paired.length
def Ĩ:=@PySem.Heap.size_push
def ĩ:=@PySem.wpAny_setField
def Ī:=@PyProof.Rows.wpS_pure
def ī:=@Nat.zero_add
def Ĭ:=@List.lookup_cons
def ĭ:=@PySem.wpAny_isInstance
def Į:=@PySem.wpAny_dictEntries
def į:=@PySem.wpAny_rule
def İ:=@List.Pairwise.imp
def ı:=@List.drop_of_length_le
def Ĳ:=@List.getElem?_set
def ĳ:=@List.filterMap_cons
def Ĵ:=@Nat.min_eq_left
def ĵ:=@Nat.le_add_left
def Ķ:=@PySem.PassesOwn.never
def ķ:=@PyProof.Rows.slot_tuple_getitem
def ĸ:=@List.getElem?_append_left
def Ĺ:=@PySem.Obj.isFreed_of_fields
def ĺ:=@PySem.wpAny_notOrdered_dict
def Ļ:=@List.getElem_inj
def ļ:=@PySem.wpAny_pyIter_tuple
def Ľ:=@PySem.Calls.spliced_cons
def ľ:=@PySem.wpAny_Call_Name_kw
def Ŀ:=@Nat.testBit_succ
def ŀ:=@List.filter_cons
def Ł:=@of_decide_eq_false
def ł:=@List.find?_eq_none
def Ń:=@if_true
def ń:=@Nat.add_comm
def Ņ:=@List.length_filterMap_le
def ņ:=@Nat.add_assoc
def Ň:=@Nat.eq_of_testBit_eq
def ň:=@List.mem_iff_getElem
def Ŋ:=@List.eq_nil_of_length_eq_zero
def ŋ:=@List.mem_of_mem_take
def Ō:=@bne_self_eq_false
def ō:=@PySem.F.plainAttrs_dict
def Ŏ:=@PySem.F.plainAttrs_list
def ŏ:=@beq_eq_false_iff_ne
def Ő:=@List.length_pos_iff
def ő:=@List.idxOf_lt_length_of_mem
def Œ:=@PySem.F.plain_min_loop
def œ:=@Nat.le_add_right
def Ŕ:=@Nat.min_eq_right
def ŕ:=@Bool.false_and
def Ŗ:=@PySem.tupleKind_room_in1
def ŗ:=@Nat.mod_two_eq_zero_or_one
def Ř:=@PySem.F.slot_tuple_iterator_next
def ř:=@Int.emod_lt_of_pos
def Ś:=@PySem.builtinLookup_eq_fast
def ś:=@List.mem_or_eq_of_mem_set
def Ŝ:=@List.drop_eq_getElem_cons
def ŝ:=@Option.map_some
def Ş:=@PySem.wpAny_passesOwn
def ş:=@Nat.testBit_and
def Š:=@PySem.Calls.spliced_nil
def š:=@PySem.codeAny_mono
def Ţ:=@Option.isSome_map
def ţ:=@PySem.wpAny_setState_of
def Ť:=@Option.isSome_iff_exists
def ť:=@List.length_erase_of_mem
def Ŧ:=@PySem.mem_of_lookup
def ŧ:=@List.replicate_succ
def Ũ:=@List.getElem?_range
def ũ:=@PyProof.Rows.callWith_builtin1
def Ū:=@PySem.F.plain_list_iadd
def ū:=@List.forIn_nil
def Ŭ:=@PySem.wpAny_askSetting
def ŭ:=@List.lt_irrefl
def Ů:=@List.length_eq_zero_iff
def ů:=@PySem.wpAny_letGo
def Ű:=@List.getElem?_set_self
def ű:=@PySem.wpAny_typeOf
def Ų:=@Nat.add_sub_cancel
def ų:=@PySem.wpAny_tupleItemsOf
def Ŵ:=@Option.map_eq_none_iff
def ŵ:=@List.filter_append
def Ŷ:=@List.length_set
def ŷ:=@List.foldl_cons
def Ÿ:=@PySem.wpAny_specialOf
def Ź:=@Nat.testBit_xor
def ź:=@List.find?_some
def Ż:=@Nat.le_antisymm
def ż:=@Bool.true_and
def Ž:=@List.getElem?_toArray
def ž:=@PySem.isSubtype_tuple_tuple
def Α:=@PySem.wpAny_pyIter_list
def Β:=@PySem.Obj.cls_mapFields
def Δ:=@Nat.lt_trichotomy
def Ε:=@List.getElem?_set_ne
def Ζ:=@PySem.Calls.evalArgs_plain
def Η:=@Array.perm_iff_toList_perm
def Θ:=@List.mem_erase_of_ne
def Ι:=@PySem.Obj.data_mapDictKeys
def Κ:=@List.cons_append
def Λ:=@Nat.lt_trans
def Μ:=@Nat.lt_or_ge
def Ν:=@Nat.sub_zero
def Ξ:=@Nat.succ.inj
def Ο:=@List.pairwise_iff_getElem
def Ρ:=@Nat.add_le_add_left
def Τ:=@List.map_eq_nil_iff
def Υ:=@List.any_cons
def Φ:=@List.nil_append
def Χ:=@PySem.typeLookup_type
def Ψ:=@PySem.wpAny_updateSeq
def Ω:=@Int.emod_nonneg
def δ:=@List.zip_cons_cons
def ε:=@PySem.call_meets
def ζ:=@Nat.lt_or_eq_of_le
def η:=@List.map_singleton
def θ:=@LawfulBEq.eq_of_beq
def ι:=@PySem.wpAny_Call_method0_late
def ν:=@PySem.F.slot_dict_items
def ξ:=@PyProof.Rows.F.plain_set_update_loop
def ο:=@Nat.add_sub_cancel_left
def π:=@List.flatten_cons
def ρ:=@List.nodup_nil
def ς:=@PySem.wpAny_pyIter_enum
def τ:=@Array.getElem?_eq_none
def υ:=@PySem.wpAny_pyIter_slot
def χ:=@PyProof.Rows.wpS_forRange
def ψ:=@PySem.wpAny_tryCatch
def ω:=@List.drop_zero
abbrev ϲ:=List<|List<|PySem.Str×List Nat×Int
abbrev ϳ:=List<|PySem.Str×List Nat×Int
abbrev ϴ:=PySem.Str×List Nat×Int
abbrev ϵ:=List<|PySem.Str×List Nat
abbrev ϶:=PySem.Value->PySem.Shared->Prop
abbrev Ϸ:=List<|PySem.Addr×PySem.Obj
abbrev ϸ:=List<|Option<|Nat×Nat
abbrev Ϲ:=Option<|Nat×Nat
abbrev Ϻ:=Nat×Nat
abbrev ϊ:=List
abbrev ϋ:=PySem.Value
abbrev ό:=PySem.Addr
abbrev ύ:=Option
abbrev ώ:=PySem.Shared
abbrev Ϗ:=PySem.W.Frag
abbrev ϐ:=PySem.Str
abbrev ϑ:=Bool
abbrev ϒ:=PySem.Heap
abbrev ϓ:=PySem.Program
abbrev ϔ:=Array
abbrev ϕ:=PySem.World
abbrev ϖ:=PySem.Around
set_option Elab.async false
set_option linter.all false
set_option maxRecDepth 100000
noncomputable section
local macro_rules|`(↑$x)=>`(($x).length)
local macro_rules|`(tactic|ac_nf)=>`(tactic|decide+kernel)
set_option maxHeartbeats 4000000
local macro_rules|`(tactic|rfl')=>`(tactic|first|lia|omega)
local macro_rules|`(tactic|show $e)=>`(tactic|refine $e)
local macro_rules|`(!$e)=>`(some $e)
local macro_rules|`(#[$a,*])=>`(⟨$a,*⟩)
local macro_rules | `(tactic| let $p:term $[:$t]? :=$e)=>do
 let rec g:Nat->Lean.Term->Lean.MacroM (Lean.TSyntax `Lean.Parser.Tactic.rcasesPatMed)
  |0,_=>Lean.Macro.throwUnsupported
  |n+1,t=>do
   match t with
   |`(#[$a,*])=>do
    let b<-a.getElems.mapM (g n)
    `(Lean.Parser.Tactic.rcasesPatMed|⟨$[$b:rcasesPatMed],*⟩)
   |`($i:ident)=>`(Lean.Parser.Tactic.rcasesPatMed|$i:ident)
   |_=>`(Lean.Parser.Tactic.rcasesPatMed|_)
 `(tactic| obtain $(<-g 9 p):rcasesPatMed $[:$t]? :=$e)
local macro_rules|`(())=>`(by rfl')
namespace L2
open PySem
noncomputable def dR(s:Stmt):Arguments:=match s with
 |.FunctionDef _ a _ _ _ _ _ _ _ _=>a|_=>{posonlyargs:=[],args:=[],vararg:=none,kwonlyargs:=[],kw_defaults:=[],kwarg:=none,defaults:=[] }
noncomputable def dh(s:Stmt):ϊ Stmt:=match s with
 |.FunctionDef _ _ b _ _ _ _ _ _ _=>b|_=>[]
noncomputable def aY(s:Stmt):Scope:=match s with
 |.FunctionDef _ _ _ _ _ _ sc _ _ _=>sc|_=>{kind:=.function,names:=[],isGenerator:=false,isCoroutine:=false}
end L2
noncomputable abbrev pWo:=PySem.Challenge.pw_blotsure_k81_whole_sure_reading
abbrev L1S:=ϊ<|PySem.Str×Int
abbrev L2S:=ϊ L1S
namespace Pg
open PySem L2 PySem.W
set_option maxHeartbeats 0
def top(i:Nat):Stmt:=pWo.main.body.getD i<|.Pass #[0,0,0,0]
noncomputable def live:Obj->ύ Obj|⟨_,_,.freed,_⟩=>none|o=>!o
def Fp(h:ϒ)(a:ό):h.get? a=h.objs[a]?.bind live:=by unfold Heap.get?;cases h.objs[a]?with
 |none=>rfl|some o=>let#[_,_,d,_]:=o;cases d<;>rfl
def Rn:ϊ Obj->Nat->ϊ ό->Frag
 |o::os,i,a::as=>if a==i then((live o).map (a,·)).toList++Rn os (i+1) as else Rn os (i+1) (a::as)|_,_,_=>[]
theorem Ft:∀{l:ϊ Obj}{i:Nat}{d:ϊ ό},(Rn l i d).lookup b=!x->∃j,b=i+j/\l[j]?.bind live=!x
 |[],i,d,e=>by simp[Rn]at e|o::os,i,[],e=>by simp[Rn]at e|o::os,i,a::d,e=>by
  have r:∀c,(Rn os (i+1) c).lookup b=!x->∃j,b=i+j/\(o::os)[j]?.bind live=!x:=λc q=>by let#[j,rfl,k]:=Ft q;show#[j+1,Nat.succ_add_eq_add_succ i j,k]
  unfold Rn at e;split at e;.rename_i z;cases q:live o with
   |none=>rw[q]at e;show r _ e|some y=>
    rw[q]at e;simp only[ŝ,Option.toList_some,Κ,Φ,Ĭ]at e;split at e
    .rename_i u;cases e;rw[θ u,θ z];show#[0,Z,q]
    .show r _ e
  .show r _ e
def Y0(as:ϊ ό)(h:ϒ):Frag:=Rn h.objs.toList 0 as
def O1:(Y0 a h).In h:=λb o e=>by let#[j,rfl,k]:=Ft e;rw[Fp,ī];simpa using k
abbrev DO:=ϐ×ϐ×Arguments×FuncBody×Scope×ό×ϊ (ϐ×ό)×ό×ϑ×ϑ
noncomputable def Ro(K:Frag)(n:ϐ):ύ (ύ ό×DO):=match nsIn K mainGlobals n with
 |some !↥f=>match K.lookup f with
  |some ⟨_,_,.func d,_⟩=>(match d.defaults with|.none=>!none|.ref t=>!(!t)|_=>none).map λt=>(t,d.name,d.qualname,d.params,d.body,d.scope,d.globals,d.closure,d.builtins,codeIn K d.code n,keepIn K<|.ref f)|_=>none
 |_=>none
def Rp(t:ύ ό)(n:ϐ)(i:Nat):ύ (ύ ό×DO):=!(t,n,n,dR<|top i,.stmts<|dh<|top i,aY<|top i,mainGlobals,[],builtinsNs,true,true)
noncomputable def exB(K:Frag)(C:ό):ϑ×ϊ (ύ<|ύ ϋ)×ϊ (ύ ϑ):=(excIn K C [.type "ValueError",.type "Exception",.type "BaseException",.type "object"] "ValueError.__new__",[findIn K ↥C "__getattribute__",findIn K ↥C "__getattr__",findIn K ↥C "__class__",specialIn K (.builtin "object.__class__") "__get__"],[takesIn K<|.builtin "object.__class__",mroIn K C<|.type "object",subIn K ↥C<|.type "BaseException"])
noncomputable def Xy:ϑ×ϊ (ύ<|ύ ϋ)×ϊ (ύ ϑ):=(true,[!(!(.builtin "BaseException.__getattribute__")),!none,!(!(.builtin "object.__class__")),!(!(.builtin "getset_descriptor.__get__"))],[!true,!true,!true])
noncomputable def obT(K:Frag)(a:ό):ύ (ϋ×ϊ ϋ):=match K.lookup a with
 |some ⟨c,_,.seq its _,_⟩=>!(c,its.toList)|_=>none
noncomputable def nms:ϊ ϐ:=(["isinstance","bool","int","len","str","ord","sum","zip","dict","range","tuple","sorted","enumerate","set","min","max","list","GREATEST_HEIGHT","LEFT_OUT","MOST_COLUMNS","MOST_LETTERS","MOST_ROOMS","GREATEST_ON_WHEEL","BlotError","NotAlike","NoFont","NoHouse","PLAIN_WHEEL"]:ϊ String).map Str.ofString
noncomputable def vls:ϊ (ύ<|ύ ϋ):=[!none,!none,!none,!none,!none,!none,!none,!none,!none,!none,!none,!none,!none,!none,!none,!none,!none,!(!(.int 60 189)),!(!(.int 37 191)),!(!(.int 8 432)),!(!(.int 40 430)),!(!(.int 40 456)),!(!(.int 1000 514)),!(!(.ref 66)),!(!(.ref 79)),!(!(.ref 91)),!(!(.ref 103)),!(!(.ref 236))]
noncomputable def Xz:ϊ (ϐ×Nat):=((["is_whole","is_height","is_sign","is_column","inked","apart","check_alike","gap","lettered","ways_of","gaps_at","thing_through","merged","thing_at","near_paper","first_way","first_text","nearest","made_letter","make_font","check_rooms","check_room","made_doors","made_ends","make_house","room_behind","free","beginnings","numbers_of","book","check_wheel","sums_doors","leads_of_both","both","costs_over","texts_to_rooms","stand_behind","forks","steps_by","all_steps","steps_back","is_even","let_wait","rests","grown","texts_of_fork","step_on","led_on","farness","mends","_law_cell_at","_law_mixed","_law_signs_by","_law_letters_by","_law_drawn_house","_law_words_by","_law_house_by","_law_open","_law_depths","_law_text_by","_law_spoilt","_law_whole","_law_reading_good","law"]:ϊ String).map Str.ofString).zip [3,4,5,6,7,8,16,15,19,18,22,24,25,23,21,28,27,26,33,32,37,40,38,39,36,41,45,47,48,46,50,51,53,52,57,56,58,55,59,60,64,65,63,62,68,67,70,69,66,71,73,74,75,76,77,78,79,80,81,82,83,84,85,86]
noncomputable def obs(K:Frag):=(nms.map<|nsIn K mainGlobals,Xz.map<|λd=>Ro K d.1,[66,79,91,103].map<|exB K,[Ro K "sums"],[261,236].map<|obT K)
noncomputable def ans:ϊ (ύ (ύ ϋ))×ϊ (ύ (ύ ό×DO))×ϊ (ϑ×ϊ (ύ (ύ ϋ))×ϊ (ύ ϑ))×ϊ (ύ (ύ ό×DO))×ϊ (ύ (ϋ×ϊ ϋ)):=(vls,Xz.map (λd=>Rp none d.1 d.2),[Xy,Xy,Xy,Xy],[Rp (!261) "sums" 49],[!(.type "tuple",[.none]),!(.type "tuple",[.int 1 512])])
def vw:ϓ:={pWo with main:={pWo.main with body:=[86].filterMap (pWo.main.body[·]?)}}
noncomputable def lo:ϊ ϐ:=(["GREATEST_HEIGHT","LEFT_OUT","is_whole","is_height","is_sign","is_column","inked","apart","BlotError","NotAlike","NoFont","NoHouse","gap","check_alike","ways_of","lettered","near_paper","gaps_at","thing_at","thing_through","merged","nearest","first_text","first_way","MOST_LETTERS","MOST_COLUMNS","make_font","made_letter","MOST_ROOMS","make_house","check_rooms","made_doors","made_ends","check_room","room_behind","PLAIN_WHEEL","GREATEST_ON_WHEEL","free","book","beginnings","numbers_of","sums","check_wheel","sums_doors","both","leads_of_both","forks","texts_to_rooms","costs_over","stand_behind","steps_by","all_steps","rests","let_wait","steps_back","is_even","farness","texts_of_fork","grown","led_on","step_on","mends","_law_cell_at","_law_mixed","_law_signs_by","_law_letters_by","_law_drawn_house","_law_words_by","_law_house_by","_law_open","_law_depths","_law_text_by","_law_spoilt","_law_whole","_law_reading_good"]:ϊ String).map Str.ofString
theorem said:PySem.Challenge.rw_blotsure_k81_whole_sure_reading.wellSaid=true:=by kernel_rfl
def spl{a b c:Type}{o:ύ a}{f:a->b}{g:a->c}{x:b}{y:c}(h:o.map f=!x)(k:o.map g=!y):o.map (λs=>(f s,g s))=!(x,y):=by cases o with|none=>cases h|some s=>cases h;cases k;rfl
def Y4(w:ϕ):(openEnds treeTable pWo w 6038).map (λs=>openSeen vw lo (importedModules pWo.main.body) (λs=>xlAt vw [] s&&recOk [] s) true s)=!(openGood vw lo):=by
 unfold openEnds fencedOpening topFrom;rw[PySem.W.Fast.te14082659384304107361,PySem.W.Fast.te10274390034422433532,PySem.W.Fast.te14289696077712309145,PySem.W.Fast.te1435165496053646825]
 kernel_rfl
noncomputable def ob(s:ώ):=obs<|Y0 [2,3,15,17,18,20,21,22,24,25,27,28,29,31,32,34,35,36,38,39,41,42,43,45,46,48,49,50,52,53,55,56,57,64,65,66,67,70,77,78,79,82,89,90,91,94,101,102,103,106,109,110,111,113,114,116,117,118,121,122,123,126,127,128,131,132,133,135,136,138,139,140,142,143,145,146,147,149,150,152,153,154,156,157,159,160,161,163,164,166,167,168,170,171,173,174,175,177,178,180,181,182,184,185,187,188,189,191,192,194,195,196,199,200,201,203,204,206,207,208,210,211,213,214,215,217,218,220,221,222,224,225,227,228,229,231,232,234,235,236,237,240,241,242,245,246,247,249,250,252,253,254,256,257,259,260,261,262,265,266,267,269,270,272,273,274,277,278,279,282,283,284,286,287,289,290,291,293,294,296,297,298,300,301,303,304,305,307,308,310,311,312,314,315,317,318,319,322,323,324,327,328,329,332,333,334,336,337,339,340,341,343,344,346,347,348,350,351,353,354,355,358,359,360,362,363,365,366,367,369,370,372,373,374,376,377,379,380,381,383,384,386,387,388,390,391,393,394,395,397,398,400,401,402,404,405,407,408,409,411,412,414,415,416,419,420,421,424,425,426,428,429,431,432,433,436,437,438,441,442,443,446,447,448,451,452,453,455,456,458,459,460,462,463,465,466,467,469,470,472,473,474,477,478] s.heap
def Y5(w:ϕ):(openEnds treeTable pWo w 6038).map ob=!ans:=by
 unfold openEnds fencedOpening topFrom;rw[PySem.W.Fast.te14082659384304107361,PySem.W.Fast.te10274390034422433532,PySem.W.Fast.te14289696077712309145,PySem.W.Fast.te1435165496053646825]
 kernel_rfl
theorem left:LeftO pWo vw lo (λs=>xlAt vw [] s&&recOk [] s) ob (λ_=>ans) 6038:=λw=>spl (Y4 w)<|Y5 w
end Pg
set_option Elab.async false
set_option linter.all false
set_option maxRecDepth 100000
namespace L2
open PySem PySem.Spec PyProof.Rows
variable{M:Model}{w:ϕ}{A:ϖ}{d':Drawn}{cd u:ϋ}{p:ό×Obj}{qual x:ϐ}{c e tg:Expr}{fd:FuncData}{op op':CmpOp}{pos pos':Pos}{s' s1:ώ}{a b dx it:ό}{an:ύ ό}{i j k n t':Nat}{its:ϊ ϋ}{outer:ϊ Env}{sc scope:Scope}{ch fp:ϊ ό}{g:Int->Int->Int}{C:Int->Int->Prop}{params:Arguments}{body st:ϊ Stmt}{g':ϔ GenState}{E Q:϶}{mA mg:ϐ->ύ ϋ}{osl:ϔ (ύ ϋ)}{f:ϋ->ϋ->Sem ϋ}{gE pins':Ϸ}
abbrev Key:=Sum Int ϐ
noncomputable def gM:Key->ϋ->ϑ
 |.inl k,v=>Value.isInt k v|.inr x,v=>Value.isStrOf x v
noncomputable def a0g(w:ϕ):Key->Int
 |.inl k=>hashInt k|.inr x=>hashStr w x
theorem bC:∀{k:Key}{v:ϋ},gM k v=true->(∃i t,k=Sum.inl i/\v=Value.int i t)\/(∃x t,k=Sum.inr x/\v=Value.str x t)
 |.inl i,v,h=>by
  let#[t,e]:=Value.isInt_shape (k:=i) (v:=v) h;show .inl #[i,t,Z,e]|.inr x,v,h=>by let#[t,e]:=Value.isStrOf_shape (x:=x) (v:=v) h;show .inr #[x,t,Z,e]
theorem CW(i:Int)(t:Tok):gM (.inl i) (.int i t)=true:=by simp[gM,Value.isInt]
theorem qZ(x:ϐ)(t:Tok):gM (.inr x) (.str x t)=true:=by simp[gM,Value.isStrOf]
theorem U0(a b:Int):decide ((Sum.inl a:Key)=Sum.inl b)=(a==b):=by
 by_cases e:a=b;.subst e;simp
 .have h:¬(Sum.inl a:Key)=Sum.inl b:=λq=>e<|Sum.inl.inj q;rw[Ü h];show(ŏ.mpr e).symm
theorem U3(a b:ϐ):decide ((Sum.inr a:Key)=Sum.inr b)=decide (a=b):=by
 by_cases e:a=b;.subst e;simp
 .have h:¬(Sum.inr a:Key)=Sum.inr b:=λq=>e<|Ĥ q;rw[Ü h,Ü e]
def U4(a:Int)(b:ϐ):decide ((Sum.inl a:Key)=Sum.inr b)=false:=Ü<|λq=>nomatch q
def U5(a:ϐ)(b:Int):decide ((Sum.inr a:Key)=Sum.inl b)=false:=Ü<|λq=>nomatch q
def bI(prog:ϓ)(w:ϕ):PySem.KeyKind prog w Key where
 is:=gM
 hash:=a0g w
 inj:=λv a b ha hb=>by
  rcases bC ha with⟨i,t,rfl,rfl⟩|⟨x,t,rfl,rfl⟩
  .rcases bC hb with⟨j,u,rfl,e⟩|⟨y,u,rfl,e⟩;.injection e with e1 _;rw[e1]
   .show nomatch e
  .rcases bC hb with⟨j,u,rfl,e⟩|⟨y,u,rfl,e⟩;.show nomatch e
   .injection e with e1 _;rw[e1]
 byValue:=λk v h=>by rcases bC h with⟨i,t,rfl,rfl⟩|⟨x,t,rfl,rfl⟩<;>rfl
 pyHash:=λhv h=>by
  rcases bC hv with⟨i,t,rfl,rfl⟩|⟨x,t,rfl,rfl⟩;.show wpAny_pyHash_int h
  .show wpAny_pyHash_str h
 eqBool:=λhu hv h=>by
  rcases bC hu with⟨i,t,rfl,rfl⟩|⟨x,t,rfl,rfl⟩
  .rcases bC hv with⟨j,u,rfl,rfl⟩|⟨y,u,rfl,rfl⟩;.rw [U0]at h;show wpAny_eqBool_int h
   .rw [U4]at h;show SeqAt.EqAt.int_str i t y u _ _ _ _ h
  .rcases bC hv with⟨j,u,rfl,rfl⟩|⟨y,u,rfl,rfl⟩;.rw [U5]at h;show SeqAt.EqAt.str_int x t j u _ _ _ _ h
   .rw [U3]at h;show wpAny_eqBool_str h
 «strs»:=λk x t v h=>by
  rcases bC h with⟨i,u,rfl,e⟩|⟨y,u,rfl,e⟩;.show nomatch e
  .injection e with e1 _;subst e1;cases v<;>rfl
def kZ(a:ϓ)(w:ϕ)(k:Key)(v:ϋ):(bI a w).is k v=gM k v:=Z
def vI(a:ϓ)(w:ϕ)(i:Int)(t:Tok):(bI a w).is (.inl i) (.int i t)=true:=CW i t
def vJ(a:ϓ)(w:ϕ)(x:ϐ)(t:Tok):(bI a w).is (.inr x) (.str x t)=true:=qZ x t
inductive V where|non|bl (b:ϑ)|int (i:Int)|str (x:ϐ)|byt (b:ϔ UInt8)|flt (b:UInt64)|ref (a:ό)|ty (n:String)deriving DecidableEq
variable{v y:V}{σ':ϊ (ύ V)}
def RelV:V->ϋ->Prop
 |.non,u=>u=Value.none|.bl b,u=>u=Value.bool b|.int i,u=>∃t,u=Value.int i t|.str x,u=>∃t,u=Value.str x t|.byt b,u=>∃t,u=Value.bytes b t|.flt b,u=>∃t,u=Value.float b t|.ref a,u=>u=Value.ref a|.ty n,u=>u=Value.type n
abbrev Vals:ϊ V->ϊ ϋ->Prop:=Paired RelV
def Vals.length{b:ϊ V}{a:ϊ ϋ}(r:Vals b a):↑b=↑a:=ħ r
theorem Vals.get:∀{xs:ϊ V}{us:ϊ ϋ}{i:Nat}{x:V},Vals xs us->xs[i]?=!x->∃u,us[i]?=!u/\RelV x u
 |_,_,_,_,.nil,e=>by simp at e|_,_,0,_,.cons r _,e=>by simp at e;subst e;show#[_,Z,r]|_,_,i+1,x,.cons _ t,e=>by let#[u,a,b]:=Vals.get (i:=i) (x:=x) t (by simpa using e);show#[u,by simpa using a,b]
theorem Vals.set{x:V}(r:RelV x u):∀{xs:ϊ V}{us:ϊ ϋ}(i:Nat),Vals xs us->Vals (xs.set i x) (us.set i u)
 |_,_,_,.nil=>.nil|_,_,0,.cons _ t=>.cons r t|_,_,i+1,.cons q t=>.cons q (Vals.set r i t)
theorem Vals.append{c:ϊ V}{a b:ϊ ϋ}(r:Vals c a)(s:Vals d b):Vals (c++d) (a++b):=by
 induction r with
 |nil=>show s|cons r _ ih=>show .cons r ih
theorem Vals.take:∀{xs:ϊ V}{us:ϊ ϋ}(n:Nat),Vals xs us->Vals (xs.take n) (us.take n)
 |_,_,0,_=>.nil
 |_,_,_+1,.nil=>.nil|_,_,n+1,.cons r t=>.cons r (Vals.take n t)
theorem Vals.drop:∀{xs:ϊ V}{us:ϊ ϋ}(n:Nat),Vals xs us->Vals (xs.drop n) (us.drop n)
 |_,_,0,r=>r|_,_,_+1,.nil=>.nil|_,_,n+1,.cons _ t=>Vals.drop n t
def RelO:ύ V->ύ ϋ->Prop
 |some v,!u=>RelV v u|none,none=>True|_,_=>False
def KV{κ:Type}:ϊ (κ×V)->ϊ (κ×ϋ)->Prop:=Paired λ(p:κ×V) (q:κ×ϋ)=>p.1=q.1/\RelV p.2 q.2
noncomputable def kV:Key->V
 |.inl i=>.int i|.inr x=>.str x
inductive HO where|lst (xs:ϊ V)|tup (xs:ϊ V)|dK (kvs:ϊ (Key×V))|dT (kvs:ϊ (ϊ Key×V))|set (S:Int->ϑ) (n:Nat)|ins (C dx:ό) (fs:ϊ (ϐ×V))|own (x:ό)|xd (fs:ϊ (ϐ×V))|met (f x:ό)|rng (lo hi:Int)|frz (o:Obj) (u:HO)
 |tbl (ps:ϔ ϋ)|ext (φ:ϒ->Prop)
abbrev Hp:=ό->ύ HO
variable{H:Hp}{R:V->V->Hp->Prop}
noncomputable def upd(H:Hp)(a:ό)(o:HO):Hp:=λb=>if b=a then !o else H b
theorem aj:upd H a o a=!o:=by unfold upd;rw[β Z]
theorem aq(h:b≠a):upd H a o b=H b:=by unfold upd;rw[γ h]
theorem O2{u:HO}:upd (upd H a o) a u=upd H a u:=by funext b;unfold upd;split<;>rfl
theorem dm{u:HO}(h:H a=!o)(c:H b=!u)(d:o≠u):a≠b:=by intro e;subst e;rw[h]at c;show d<|Ý c
theorem aP(h:H a=!o)(c:H b=none):a≠b:=by intro e;subst e;rw[h]at c;cases c
section
variable(P:ϓ)(w:ϕ)
def ObjOk(H:Hp)(h:ϒ)(a:ό):HO->Prop|.lst xs=>↑xs<=sizeLine/\∃(its:ϊ ϋ)(n:Nat),Vals xs its/\h.get? a=!{cls:=.type "list",data:=.seq its.toArray n}|.tup xs=>↑xs<=sizeLine/\∃its:ϊ ϋ,Vals xs its/\IsTup h a its.toArray|.dK kvs=>↑kvs<=sizeLine/\(a==sysModules)=false/\∃vs,KV kvs vs/\h.DictOf (bI P w) a vs|.dT kvs=>↑kvs<=sizeLine/\(a==sysModules)=false/\∃xs:ϊ<|ϊ Key×ό×ϋ,Paired (λ(p:ϊ Key×V) (q:ϊ Key×ό×ϋ)=>p.1=q.1/\H q.2.1=!(.tup<|p.1.map kV)/\RelV p.2 q.2.2) kvs xs/\∃o es ep,h.get? a=!o/\o.ExactDict/\o.data=.dict es ep/\es.toList=xs.map (entryOfKey<|tupleKind<|bI P w)/\(xs.map (·.1)).Nodup|.set S n=>h.SetOf (intKind P w) a S n|.ins C dx fs=>H dx=!(.own a)/\↑fs<=1000/\dx≠a/\h.get? a=!(PySem.W.instObj C dx)/\∃mA,h.Ns1 dx mA/\(∀f,RelO (fs.lookup f)<|mA f)/\PySem.Within mA (fs.map (·.1))|.own _=>∃o,h.get? a=!o|.xd fs=>∃mA,h.Ns1 a mA/\∀f,RelO (fs.lookup f) (mA f)|.rng lo hi=>∃t u v,h.get? a=!{cls:=.type "range",data:=.fields<|[.int lo t,.int hi u,.int 1 v].toArray}|.frz o u=>h.get? a=!o/\ObjOk H h a u|.tbl ps=>h.get? a=!{cls:=.none,data:=.fields ps}|.met f x=>h.get? a=!(PySem.W.methodObj ↥f<|.ref x)|.ext φ=>φ h/\(∃o,h.get? a=!o)/\∀h1 h2:ϒ,φ h1->(∀o,h1.get? a=!o->h2.get? a=!o)->φ h2
def HOk(H:Hp)(h:ϒ):Prop:=∀a o,H a=!o->ObjOk P w H h a o
end
section
theorem ObjOk.lt(x:ObjOk P w H h a o):a<h.objs.size:=by cases o with
 |lst xs=>let#[_,_,_,_,e]:=x;show Ë e|tup xs=>let#[_,_,_,p]:=x;show p.lt|dK kvs=>let#[_,_,_,_,o,_,_,e,_]:=x;show Ë e|dT kvs=>let#[_,_,_,_,o,_,_,e,_]:=x;show Ë e|set S n=>let#[o,_,_,_,e,_]:=x;show Ë e|ins C dx fs=>let#[_,_,_,e,_]:=x;show Ë e|own y=>let#[_,e]:=x;show Ë e|xd fs=>let#[_,#[_,_,_,e,_],_]:=x;show Ë e|rng lo hi=>let#[_,_,_,e]:=x;show Ë e|frz ob u=>let#[e,_]:=x;show Ë e|tbl ps=>show Ë (show h.get? a=!_ from x)|met f y=>show Ë (show h.get? a=!_ from x)|ext φ=>let#[_,#[_,e],_]:=x;show Ë e
theorem Paired.mapP{e g:Type}{F G:e->g->Prop}{c:ϊ e}{d:ϊ g}(r:Paired F c d)(f:∀a b,F a b->G a b):Paired G c d:=by induction r with
 |nil=>show .nil|cons r _ ih=>show .cons (f _ _ r) ih
theorem ObjOk.stay(x:ObjOk P w H h a o)(k:∀b u,(b=a\/H b=!(.own a))->h.get? b=!u->h'.get? b=!u)(B:∀b,H b=!(.own a)->H' b=!(.own a)) (D:∀b xs,H b=!(.tup xs)->H' b=!(.tup xs)):ObjOk P w H' h' a o:=by induction o with
 |lst xs=>let#[z,j,n,r,e]:=x;show#[z,j,n,r,k _ _ (.inl Z) e]|tup xs=>let#[z,j,r,ob,e,c]:=x;show#[z,j,r,ob,k _ _ (.inl Z) e,c]|dK kvs=>let#[z,y,F,r,ob,i,g,e,c]:=x;show#[z,y,F,r,ob,i,g,k _ _ (.inl Z) e,c]|dT kvs=>let#[z,y,xs,r,ob,i,g,e,c]:=x;show#[z,y,xs,Paired.mapP r λp q z=>#[z.1,D _ _ z.2.1,z.2.2],ob,i,g,k _ _ (.inl Z) e,c]|set S n=>let#[ob,i,g,t,e,c]:=x;show#[ob,i,g,t,k _ _ (.inl Z) e,c]|ins C dx fs=>let#[d,z,E,e,l,#[m,i,g,A,c],r]:=x;show#[B _ d,z,E,k _ _ (.inl Z) e,l,#[m,i,g,k _ _ (.inr d) A,c],r]|own y=>let#[ob,e]:=x;show#[ob,k _ _ (.inl Z) e]|xd fs=>let#[l,#[m,i,g,e,c],r]:=x;show#[l,#[m,i,g,k _ _ (.inl Z) e,c],r]|rng lo hi=>let#[t,u,v,e]:=x;show#[t,u,v,k _ _ (.inl Z) e]|frz ob u ih=>let#[e,q]:=x;show#[k _ _ (.inl Z) e,ih q]|tbl ps=>
  have e:h.get? a=!{cls:=.none,data:=.fields ps}:=x;change h'.get? a=!{cls:=.none,data:=.fields ps};show k a _ (.inl Z) e|met f y=>have e:h.get? a=!(PySem.W.methodObj ↥f<|.ref y):=x;change h'.get? a=!(PySem.W.methodObj ↥f<|.ref y);show k a _ (.inl Z) e|ext φ=>let#[p,#[o,e],s]:=x;show#[s _ _ p λo q=>k _ _ (.inl Z) q,#[o,k _ _ (.inl Z) e],s]
theorem HOk.lt(x:HOk P w H h)(e:H a=!o):a<h.objs.size:=(x a o e).lt
theorem HOk.fresh(x:HOk P w H h)(e:h.objs.size<=a):H a=none:=by cases q:H a with
 |none=>rfl|some u=>show μ (Ò (x.lt q) e)<|Ď _
theorem HOk.kept(x:HOk P w H h)(k:∀b u,h.get? b=!u->h'.get? b=!u):HOk P w H h':=λa o e=>(x a o e).stay (λb u _ q=>k b u q) (λ_ q=>q) λ_ _ q=>q
theorem HOk.laid(x:HOk P w H h)(k:∀b u,h.get? b=!u->h'.get? b=!u)(i:h.objs.size<=a)(d:ObjOk P w (upd H a o) h' a o):HOk P w (upd H a o) h':=λb u e=>by
 have g:=x.fresh i;by_cases f:b=a;.subst f;rw[aj]at e;cases e;show d
 .rw [aq f]at e;show(x b u e).stay (λc v _ q=>k c v q) (λc q=>by rw[aq<|aP q g];show q) λc j q=>by rw[aq<|aP q g];show q
end
def Rd(H:Hp)(a:ό)(u:HO):Prop:=H a=!u\/∃o,H a=!(.frz o u)
def Rd.of{u:HO}(h:H a=!u):Rd H a u:=.inl h
theorem Rd.ok{u:HO}(r:Rd H a u)(x:HOk P w H h):ObjOk P w H h a u:=by
 rcases r with r|⟨o,r⟩;.show x a u r
 .obtain ⟨_,q⟩:=x a _ r;show q
def Y6:ύ HO->Prop
 |some (.lst _)=>True|some (.dK _)=>True|some (.dT _)=>True|some (.set _ _)=>True
 |some (.ins _ _ _)=>True|some (.ext _)=>True|_=>False
section
variable{P:ϓ}{w:ϕ}{H:Hp}{h h':ϒ}{x e:ό}{o':HO}
theorem HOk.write(s:HOk P w H h)(i:Y6<|H x)(n:e=x\/H e=!(.own x))(k:∀b u,b≠e->h.get? b=!u->h'.get? b=!u)(l:∃u,h'.get? e=!u)(m:ObjOk P w (upd H x o') h' x o'):HOk P w (upd H x o') h':=λb u q=>by
 have d:∀c y,H c=!(.own y)->c≠x:=λc y r z=>by subst z;rw[r]at i;show i
 have f:∀c j,H c=!(.tup j)->c≠x:=λc j r z=>by subst z;rw[r]at i;show i
 by_cases g:b=x;.subst g;rw[aj]at q;cases q;show m
 .rw [aq g]at q;by_cases a:b=e
  .have o:H b=!(.own x):=by
    rcases n with z|z;.show μ (a.trans z) g
    .rw [a];show z
   rw[q]at o;cases o;let#[v,p]:=l;show#[v,by rw[a];show p]
  .show (s b u q).stay (λc v hc r=>k c v ?_ r) (λc r=>by rw[aq<|d c b r];show r) λc j r=>by rw[aq<|f c j r];show r
   rcases hc with rfl|hc;.show a
   .rintro rfl;rcases n with z|z;.show d c b hc z
    .rw [hc]at z;cases z;show g Z
end
structure Un(fs ex:ϊ ό)(H H':Hp)(h h':ϒ):Prop where
 keep:∀b o,h.get? b=!o->H b=none->b∉fs->b∉ex->h'.get? b=!o
 slot:∀b o,h.get? b=!o->H b=none->b∈fs->b∉ex->∃sl,h'.get? b=!{o with slots:=sl}free:∀b o,h.get? b=!o->H b=none->b∉ex->H' b=none
 there:∀b o,h.get? b=!o->b∉ex->∃o',h'.get? b=!o'
 tups:∀b xs,H b=!(.tup xs)->H' b=!(.tup xs)frzs:∀b o u,H b=!(.frz o u)->H' b=!(.frz o u)tbls:∀b ps,H b=!(.tbl ps)->∃more,H' b=!(.tbl<|ps++more)
section
variable{fs ex:ϊ ό}{H:Hp}{h h':ϒ}{a x e:ό}{o:HO}
theorem Un.any(u:Un fs ex H H1 h h1)(q:h.get? b=!ob)(n:H b=none)(c:b∉ex):∃sl,h1.get? b=!{ob with slots:=sl}:=by
 by_cases a:b∈fs;.show u.slot b ob q n a c
 .show #[ob.slots,u.keep b ob q n a c]
theorem Un.kept(k:∀b u,h.get? b=!u->h'.get? b=!u):Un fs ex H H h h':=#[λb ob q _ _ _=>k b ob q,λb ob q _ _ _=>#[ob.slots,k b ob q],λ_ _ _ n _=>n,λb ob q _=>#[ob,k b ob q],λ_ _ q=>q,λ_ _ _ q=>q,λ_ a q=>#[([].toArray),by rw[q];simp]]
def Un.refl:Un fs ex H H h h:=Un.kept λ_ _ q=>q
theorem Un.laid(k:∀b u,h.get? b=!u->h'.get? b=!u)(d:h.objs.size<=a)(c:H a=none):Un fs ex H (upd H a o) h h' where
 keep:=λb u q _ _ _=>k b u q
 slot:=λb u q _ _ _=>#[u.slots,k b u q]
 free:=λb u q n _=>by rw[aq<|Þ<|Ò (Ë q) d];show n
 there:=λb u q _=>#[u,k b u q]
 tups:=λb e q=>by rw[aq<|aP q c];show q
 frzs:=λb u e q=>by rw[aq<|aP q c];show q
 tbls:=λb f q=>#[([].toArray),by rw[aq<|aP q c,q];simp]
theorem Un.write(c:Y6<|H x)(j:e=x\/H e=!(.own x))(k:∀b u,b≠e->h.get? b=!u->h'.get? b=!u)(d:∃u,h'.get? e=!u):Un fs ex H (upd H x o) h h':=by
 have i:∀b,H b=none->b≠x:=λb n z=>by subst z;rw[n]at c;show c
 have g:∀b,H b=none->b≠e:=λb n z=>by
  subst z;rcases j with r|r
  .show i b n r
  .rw [n]at r;cases r
 have f:∀b u,H b=!u->¬Y6 !u->b≠x:=λb u q l z=>by subst z;rw[q]at c;show l c
 show⟨λb u q n _ _=>k b u (g b n) q,λb u q n _ _=>⟨u.slots,k b u (g b n) q⟩,λb u q n _=>by rw[aq<|i b n];show n,λb u q _=>?_,
  λb m q=>by rw[aq<|f b _ q λz=>z];show q,λb u m q=>by rw[aq<|f b _ q λz=>z];show q,λb p q=>⟨([].toArray),by rw[aq<|f b _ q λz=>z,q];simp⟩⟩
 by_cases a:b=e
 .subst a;show d
 .show #[u,k b u a q]
end
noncomputable def trk(h:ϒ)(H:Hp):ϊ ό:=(List.range h.objs.size).filter λa=>(H a).isSome
def tW(h:ϒ)(H:Hp):ϒ:=PySem.W.hideAll h<|trk h H
def CZ(h:ϒ)(H:Hp):(tW h H).objs.size=h.objs.size:=PySem.W.hideAll_size _ _
theorem Fv(e:h.get? b=!o)(n:H b=none):(tW h H).get? b=!o:=PySem.W.hideAll_get _ e λa=>by have q:(H b).isSome=true:=(ò.mp a).2;rw[n]at q;simp at q
theorem O3(e:(tW h H).get? b=!o):h.get? b=!o/\H b=none:=by
 have a:h.get? b=!o:=PySem.W.of_hideAll (trk h H) e;show#[a,?_];cases q:H b with
 |none=>rfl|some x=>have c:b∈trk h H:=ò.mpr #[List.mem_range.mpr<|Ë a,by simp[q]];have z:(tW h H).get? b=none:=PySem.W.hideAll_none (trk h H) c;rw[z]at e;cases e
noncomputable def O4(g h:ϒ)(L:ό):Ϸ:=(List.range h.objs.size).filterMap λa=>if a=L\/(g.get? a).isSome=true then none else(h.get? a).map λo=>(a,o)
def rest(g h:ϒ)(L d:ό):Ϸ:=(O4 g h L).filter λp=>decide<|p.1≠d
structure Mod(K:Ϗ)(mg:ϐ->ύ ϋ)(base:ϒ):Prop where
 kin:K.In base
 glob:base.Ns mainGlobals mg
 blt:∃mb,base.Ns builtinsNs mb/\∀x:ϐ,x≠"__name__"->mb x=bootBuiltins x
 nolimit:base.NoLimit
structure Cx where
 prog:ϓ
 w:ϕ
 K:Ϗ
 mg:ϐ->ύ ϋ
 base:ϒ
 A:ϖ
 N:ϊ ϐ
 s₀:ώ
 H₀:Hp
 env:Env
 outer:ϊ Env
 stack:ϊ Env
 ex:ϊ ό
 fn:ϐ->ϑ
 calm:ϑ
 pn:Ϸ
 xe:ϋ->ώ->Prop
noncomputable def frs(l:ϊ Env):ϊ ό:=l.filterMap (·.frame)
abbrev Cx.fs(X:Cx):ϊ ό:=frs X.outer
def Vis(sc:Scope)(x:ϐ):Prop:=sc.names.lookup x=!.local\/sc.names.lookup x=!.cell\/sc.names.lookup x=!.free
def Loc(sc:Scope)(x:ϐ):Prop:=sc.names.lookup x=!.local\/sc.names.lookup x=!.cell
def Look(env:Env)(h:ϒ)(m:ϐ->ύ ϋ)(x:ϐ)(u:ϋ):Prop:=(env.kindOf x=!.local/\m x=!u)\/((env.kindOf x=!.cell\/env.kindOf x=!.free)/\∃c,env.cells.lookup x=!c/\h.IsCell c !u)
structure Cx.Ok(X:Cx):Prop where
 mod:Mod X.K X.mg X.base
 kind:X.env.scope.kind=.function
 glob:X.env.globals=mainGlobals
 blt:X.env.builtins=builtinsNs
 above:⇑X.s₀<=X.env.locals
 inj:∀x y c,X.env.cells.lookup x=!c->X.env.cells.lookup y=!c->x=y
 has:∀x,(X.env.kindOf x=!.cell\/X.env.kindOf x=!.free)->∃c,X.env.cells.lookup x=!c
 cab:∀x c,X.fn x=true->X.env.cells.lookup x=!c->⇑X.s₀<=c
 hd:X.calm=true->X.A.handled=none
 frames:X.A.frames=!X.stack
 stk:X.stack=X.outer\/(X.stack=X.env::X.outer/\X.env.frame=!X.env.locals)exf:∀b∈X.ex,b≠X.env.locals/\∀x c,X.env.cells.lookup x=!c->c≠b
 bs:∀b o,X.base.get? b=!o->X.s₀.heap.get? b=!o/\X.H₀ b=none
 bsz:X.base.objs.size<=⇑X.s₀
 noex:∀b o,X.base.get? b=!o->b∉X.ex
 exfs:∀b∈X.ex,b∉X.fs
 funs:X.s₀.heap.FunFrames X.base X.outer
 frf:∀b∈X.fs,X.H₀ b=none
structure Inv(X:Cx)(gE:Ϸ)(σ:ϊ (ύ V))(H:Hp)(s:ώ):Prop where
 ok:X.Ok
 os:s.os=X.s₀.os
 bare:AllBare s.gens
 base:Un X.fs X.ex X.H₀ H X.s₀.heap s.heap
 loc:∃m,s.heap.Ns X.env.locals m/\∀(i:Nat)(x:ϐ)(v:V),X.N[i]?=!x->σ[i]?=!(!v)->Vis X.env.scope x->∃u,RelV v u/\Look X.env s.heap m x u
 cell:∀x c,X.env.cells.lookup x=!c->∃v,s.heap.IsCell c v
 free:H X.env.locals=none
 freeC:∀x c,X.env.cells.lookup x=!c->H c=none
 pin:∀p∈X.pn++gE,s.heap.get? p.1=!p.2/\H p.1=none/\p.1≠X.env.locals/\p.1∉X.fs/\∀v,p.2.data≠.cell v
 hok:HOk X.prog X.w H s.heap
 len:↑σ=↑X.N
section
variable{X:Cx}{gE:Ϸ}{σ:ϊ (ύ V)}{H H':Hp}{s:ώ}{h':ϒ}
theorem Cx.Ok.nofr(c:X.Ok)(e:X.base.get? b=!o):b∉X.fs:=λa=>by have:=(c.funs.mem a).1;rw[e]at this;cases this
theorem Inv.bs(I:Inv X gE σ H s):∀b o,X.base.get? b=!o->s.heap.get? b=!o/\H b=none:=λb o e=>#[I.base.keep b o (I.ok.bs b o e).1 (I.ok.bs b o e).2 (I.ok.nofr e)<|I.ok.noex b o e,I.base.free b o (I.ok.bs b o e).1 (I.ok.bs b o e).2<|I.ok.noex b o e]
theorem Inv.bk(I:Inv X gE σ H s):∀b o,X.base.get? b=!o->s.heap.get? b=!o:=λb o e=>(I.bs b o e).1
theorem Inv.mod(I:Inv X gE σ H s):Mod X.K X.mg X.base:=I.ok.mod
def Inv.kIn(I:Inv X gE σ H s):X.K.In s.heap:=I.ok.mod.kin.keeps I.bk
theorem Inv.lt(I:Inv X gE σ H s):X.env.locals<⇑s:=let⟨_,hn,_⟩:=I.loc;hn.lt
def Inv.sz(I:Inv X gE σ H s):⇑X.s₀<=⇑s:=Í I.ok.above<|â I.lt
theorem Inv.nofs(I:Inv X gE σ H s)(h:⇑s<=a):a∉X.fs:=λb=>by let#[_,o,c,_]:=I.ok.funs.mem b;show μ (Ò (Ë c)<|Í I.sz h)<|Ď _
theorem Inv.cne(I:Inv X gE σ H s):∀x c,X.env.cells.lookup x=!c->c≠X.env.locals:=λx c e z=>by let#[v,o,f,d]:=I.cell x c e;let#[m,#[i,h,g,b,a,_],_]:=I.loc;rw[z,b]at f;cases f;rw[a]at d;cases d
theorem Inv.funs(I:Inv X gE σ H s):s.heap.FunFrames X.base X.outer:=by
 have a:∀(l:ϊ Env),(∀b∈frs l,b∈X.fs)->X.s₀.heap.FunFrames X.base l->s.heap.FunFrames X.base l:=by intro l;induction l with
  |nil=>intro _ _;trivial|cons env r ih=>
   intro g j;let#[i,#[L,o,f,k,m,h],n]:=j;have c:L∈X.fs:=g L (by unfold frs;rw[ĳ,f];show Ì);let#[p,e]:=I.base.slot L o m (I.ok.frf L c) c λz=>I.ok.exfs L z c;show#[i,#[L,_,f,k,e,h],ih (λb d=>g b<|by unfold frs;rw[ĳ,f];show Ê _ d) n]
 show a X.outer (λ_ d=>d) I.ok.funs
theorem Inv.stack(I:Inv X gE σ H s):s.heap.FunFrames X.base X.stack:=by
 rcases I.ok.stk with e|⟨e,hf⟩
 .rw [e];show I.funs
 .rw [e];let#[m,a,_]:=I.loc;show .cons (by rw[I.ok.kind];decide) hf a ?_ I.funs;show Heap.get?_none_of_le<|Í I.ok.bsz I.ok.above
theorem Inv.stkSub(I:Inv X gE σ H s):∀b∈frs X.stack,b∈X.env.locals::X.fs:=λb a=>by
 rcases I.ok.stk with e|⟨e,hf⟩;.rw [e]at a;show Ê _ a
 .rw [e]at a;unfold frs at a;rw[ĳ,hf]at a;show a
theorem Inv.stkFree(I:Inv X gE σ H s):∀b∈frs X.stack,H b=none:=λb hb=>by
 rcases Å.mp (I.stkSub b hb)with e|hb;.rw [e];show I.free
 .obtain ⟨_,o,a,_⟩:=I.ok.funs.mem hb;show I.base.free b o a (I.ok.frf b hb) λz=>I.ok.exfs b z hb
theorem Inv.step(I:Inv X gE σ H s)(h:∀b∈ch,(b∈X.ex\/⇑X.s₀<=b)/\b≠X.env.locals/\(∀x c,X.env.cells.lookup x=!c->c≠b)/\∀p∈X.pn++gE,p.1≠b)(j:∀b o,b≠X.env.locals->b∉X.fs->b∉ch->s.heap.get? b=!o->H b=none->h'.get? b=!o)(A:∀b o,b≠X.env.locals->b∈X.fs->b∉ch->s.heap.get? b=!o->H b=none->∃sl,h'.get? b=!{o with slots:=sl}) (f:∀b o,b∉ch->s.heap.get? b=!o->H b=none->H' b=none)(C:∀b o,b∉ch->s.heap.get? b=!o->∃o',h'.get? b=!o')(L:∀b xs,H b=!(.tup xs)->H' b=!(.tup xs)) (F:∀b o u,H b=!(.frz o u)->H' b=!(.frz o u)) (K:∀b ps,H b=!(.tbl ps)->∃G,H' b=!(.tbl<|ps++G))(ns:∀m,s.heap.Ns X.env.locals m->h'.Ns X.env.locals m) (N:HOk X.prog X.w H' h') (U:AllBare g'):Inv X gE σ H' {s with heap:=h',gens:=g',drawn:=d',toks:=t'}:=by
 have J:∀b o,X.s₀.heap.get? b=!o->b≠X.env.locals:=λb o e=>Þ<|Ò (Ë e) I.ok.above;have y:∀b o,X.s₀.heap.get? b=!o->b∉X.ex->b∉ch:=λb o e a B=>by
  rcases(h b B).1with z|z;.show a z
  .show μ (Ò (Ë e) z)<|Ď _
 have g:∀x c,X.env.cells.lookup x=!c->∀v,s.heap.IsCell c v->h'.IsCell c v:=λx c e v ⟨o,D,M⟩=>by
  have t:c∉ch:=λz=>(h c z).2.2.1 x c e Z;by_cases P:c∈X.fs;.obtain ⟨sl,q⟩:=A c o (I.cne x c e) P t D<|I.freeC x c e;show#[_,q,M]
  .show #[o,j c o (I.cne x c e) P t D<|I.freeC x c e,M]
 show#[I.ok,I.os,U,#[λb o e n B a=>?_,λb o e n B a=>?_,λb o e n a=>?_,λb o e a=>?_,λb xs e=>L b xs<|I.base.tups b xs e,λb o xs e=>F b o xs<|I.base.frzs b o xs e,λb ps e=>?_],?_,λx c e=>?_,?_,λx c e=>?_,λp Q=>?_,N,I.len];.show j b o (J b o e) B (y b o e a) (I.base.keep b o e n B a)<|I.base.free b o e n a
 .obtain ⟨sl,w⟩:=I.base.slot b o e n B a;let#[O,E]:=A b _ (J b o e) B (y b o e a) w<|I.base.free b o e n a;show#[O,E]
 .obtain ⟨o',w⟩:=I.base.there b o e a;show f b o' (y b o e a) w<|I.base.free b o e n a
 .obtain ⟨o',w⟩:=I.base.there b o e a;show C b o' (y b o e a) w
 .obtain ⟨zz,w⟩:=I.base.tbls b ps e;let#[m2,E]:=K b _ w;show#[zz++m2,by rw[E,Array.append_assoc]]
 .obtain ⟨m,Y,W⟩:=I.loc;show#[m,ns m Y,λi x v w E T=>?_];let#[u,r,l]:=W i x v w E T;show#[u,r,?_];rcases l with l|⟨k,c,e,z⟩
  .show .inl l
  .show .inr #[k,c,e,g x c e _ z]
 .obtain ⟨v,z⟩:=I.cell x c e;show#[v,g x c e v z]
 .obtain ⟨m,⟨o,_,_,D,_⟩,_⟩:=I.loc;show f _ o (λz=>(h _ z).2.1 Z) D I.free
 .obtain ⟨v,o,D,M⟩:=I.cell x c e;show f c o (λz=>(h c z).2.2.1 x c e Z) D<|I.freeC x c e
 .obtain ⟨e,n,R,S,d⟩:=I.pin p Q;have t:p.1∉ch:=λz=>(h p.1 z).2.2.2 p Q Z;show#[j p.1 p.2 R S t e n,f p.1 p.2 t e n,R,S,d]
theorem Inv.un(I:Inv X gE σ H s)(u:Un X.fs [] H H' s.heap h')(g:HOk X.prog X.w H' h'):Inv X gE σ H' {s with heap:=h',toks:=t'}:=by
 let#[m,#[o,p,l,h,r],_]:=id I.loc;let#[v,i]:=u.any h I.free (by simp);show I.step (g':=s.gens) (d':=s.drawn) (ch:=[]) (λ_ z=>nomatch z) (λb o _ f _ e n=>u.keep b o e n f<|by simp) (λb o _ f _ e n=>u.slot b o e n f<|by simp) (λb o _ e n=>u.free b o e n<|by simp) (λb o _ e=>u.there b o e<|by simp) u.tups u.frzs u.tbls (λq j=>by let#[t,d,c,a,k]:=j;rw[h]at a;cases a;show#[_,d,c,i,k]) g I.bare
theorem Inv.call(I:Inv X gE σ H s)(u:Un (frs X.stack) ch H H' s.heap h')(j:HOk X.prog X.w H' h')(q:AllBare g')(d:∀b∈ch,(b∈X.ex\/⇑X.s₀<=b)/\b≠X.env.locals/\(∀x c,X.env.cells.lookup x=!c->c≠b)/\∀p∈X.pn++gE,p.1≠b):
  Inv X gE σ H' {s with heap:=h',gens:=g',drawn:=d',toks:=t'}:=by
 let#[m,#[o,y,w,k,r],_]:=id I.loc;let#[C,i]:=u.any k I.free λz=>(d _ z).2.1 Z;show I.step (ch:=ch) d (λb o i l a e n=>u.keep b o e n (λz=>(Å.mp<|I.stkSub b z).elim i l) a) (λb o _ _ a e n=>u.any e n a) (λb o a e n=>u.free b o e n a) (λb o a e=>u.there b o e a) u.tups u.frzs u.tbls (λA t=>by let#[B,h,g,f,v]:=t;rw[k]at f;cases f;show#[_,h,g,i,v]) j q
theorem Inv.turned(I:Inv X gE σ H s)(k:∀b o,b≠it->s.heap.get? b=!o->h'.get? b=!o)(y:H it=none)(f:it≠X.env.locals)(i:it∈X.ex\/⇑X.s₀<=it) (j:∀x c,X.env.cells.lookup x=!c->c≠it) (l:∀p∈X.pn++gE,p.1≠it):Inv X gE σ H {s with heap:=h',toks:=t'}:=by
 have d:∀b u,H b=!u->b≠it:=λb u e z=>by rw[z,y]at e;cases e
 show I.step (g':=s.gens) (d':=s.drawn) (ch:=[it]) (λb t=>?_) (λb o _ _ a e _=>k b o (λz=>a<|by simp[z]) e) (λb o _ _ a e _=>#[o.slots,k b o (λz=>a<|by simp[z]) e]) (λ_ _ _ _ n=>n)
  (λb o a e=>#[o,k b o (λz=>a<|by simp[z]) e]) (λ_ _ e=>e) (λ_ _ _ e=>e) (λb B e=>#[([].toArray),by rw[e];simp]) (λm w=>?_) (λb u e=>?_) I.bare
 .have e:b=it:=by simpa using t
  subst e;show#[i,f,j,l]
 .obtain ⟨o,h,g,A,r⟩:=w;show#[o,h,g,k _ o (Ne.symm f) A,r]
 .show (I.hok b u e).stay (λc v a q=>k c v ?_ q) (λ_ q=>q) λ_ _ q=>q;rcases a with z|z;.rw [z];show d b u e
  .show d c _ z
theorem Inv.tok(I:Inv X gE σ H s)(t:Nat):Inv X gE σ H {s with toks:=t}:=I.un (h':=s.heap) (t':=t) Un.refl I.hok
theorem Inv.kept(I:Inv X gE σ H s)(k:∀b u,s.heap.get? b=!u->h'.get? b=!u):Inv X gE σ H {s with heap:=h',toks:=t'}:=I.un (Un.kept k)<|I.hok.kept k
theorem Inv.laid(I:Inv X gE σ H s)(k:∀b u,s.heap.get? b=!u->h'.get? b=!u)(c:⇑s<=a)(d:ObjOk X.prog X.w (upd H a o) h' a o):Inv X gE σ (upd H a o) {s with heap:=h',toks:=t'}:=I.un (Un.laid k c<|I.hok.fresh c)<|I.hok.laid k c d
theorem Inv.write{x e:ό}(I:Inv X gE σ H s)(f:Y6<|H x)(d:e=x\/H e=!(.own x))(k:∀b u,b≠e->s.heap.get? b=!u->h'.get? b=!u)(a:∃u,h'.get? e=!u)(c:ObjOk X.prog X.w (upd H x o) h' x o):Inv X gE σ (upd H x o) {s with heap:=h',toks:=t'}:=I.un (Un.write f d k a)<|I.hok.write f d k a c
theorem Inv.weak(I:Inv X gE σ H s)(d:↑σ'=↑σ)(w:∀(i:Nat) v,σ'[i]?=!(!v)->σ[i]?=!(!v)):Inv X gE σ' H s:=#[I.ok,I.os,I.bare,I.base,let⟨m,hn,hl'⟩:=I.loc;#[m,hn,λi x v a b c=>hl' i x v a (w i v b) c],I.cell,I.free,I.freeC,I.pin,I.hok,d.trans I.len]
theorem Inv.pins_of(I:Inv X gE σ H s)(h:∀p∈pins',s.heap.get? p.1=!p.2/\H p.1=none/\p.1≠X.env.locals/\p.1∉X.fs/\∀v,p.2.data≠.cell v):Inv X pins' σ H s:=#[I.ok,I.os,I.bare,I.base,I.loc,I.cell,I.free,I.freeC,λp a=>(Æ.mp a).elim (λz=>I.pin p<|ç _ z)<|h p,I.hok,I.len]
theorem vK{N:ϊ ϐ}(e:N.Nodup)(a:N[i]?=!x)(b:N[j]?=!x):i=j:=by let#[f,c]:=À.mp a;let#[g,d]:=À.mp b;show(Ļ e).mp<|c.trans d.symm
theorem rn{Q:Unit->ώ->Prop}(I:Inv X gE σ H s)(hN:X.N.Nodup)(P:X.N[i]?=!x)(t:Loc X.env.scope x)(r:RelV v u)(h:∀s',Inv X gE (σ.set i !v) H s'->(∃a,Heap.SameBut a s.heap s'.heap/\(a=X.env.locals\/X.env.cells.lookup x=!a))->Q Unit.unit s') (hf:X.fn x=true\/X.env.scope.names.lookup x=!.local:=by first|show .inl Z|show .inr Z|assumption):wpAny M A (storeName X.env x u) Q E s:=by
 let#[m,zz,hl]:=id I.loc;have O:(X.env.scope.kind==.class||(X.env.scope.kind==.module&&X.env.locals !=X.env.globals))=false:=by rw[I.ok.kind];rfl
 have C:i<↑σ:=by rw[I.len];show(À.mp P).1
 have D:=I.cne;have l:∀{a:ό}{K:ϒ},(∃o,s.heap.get? a=!o/\H a=none)->Heap.SameBut a s.heap K->HOk X.prog X.w H K:=λ{a K} ha f b ob e=>by
  let#[_,_,w]:=ha;show(I.hok b ob e).stay (λc W hc q=>(f.2 c ?_).trans q) (λ_ q=>q) λ_ _ q=>q;rintro rfl;rcases hc with rfl|hc;.rw [w]at e;cases e
  .rw [w]at hc;cases hc
 rcases t with hk|hk
 .show wpAny_storeName_local hk zz (λK ab f=>?_) O;let#[oL,_,_,ac,_]:=id zz;show h _ #[I.ok,I.os,I.bare,#[λb o e n F t=>?_,λb o e n F t=>?_,I.base.free,λb o e t=>?_,I.base.tups,I.base.frzs,I.base.tbls],#[_,ab,λj y v' g B Y=>?_],λy c e=>?_,I.free,I.freeC,λp hp=>?_,l #[oL,ac,I.free] f,by simpa using I.len] #[_,f,.inl Z];.show (f.2 b<|Þ<|Ò (Ë e) I.ok.above).trans<|I.base.keep b o e n F t
  .obtain ⟨sl,g⟩:=I.base.slot b o e n F t;show#[sl,(f.2 b<|Þ<|Ò (Ë e) I.ok.above).trans g]
  .obtain ⟨o',g⟩:=I.base.there b o e t;show#[o',(f.2 b<|Þ<|Ò (Ë e) I.ok.above).trans g]
  .by_cases J:j=i;.subst J;rw[P]at g;cases g;rw[Ű C]at B;cases B;show#[u,r,.inl #[hk,by simp]]
   .rw [Ε<|Ne.symm J]at B;let#[u',r',q]:=hl j y v' g B Y;show#[u',r',?_];rcases q with⟨k,e⟩|⟨k,c,e,z⟩;.show .inl #[k,?_];have:y≠x:=λe=>J<|vK hN g<|e▸P;simp[this,e]
    .show .inr #[k,c,e,z.sameBut f<|D y c e]
  .obtain ⟨W,z⟩:=I.cell y c e;show#[W,z.sameBut f<|D y c e]
  .obtain ⟨e,n,U,nf,d⟩:=I.pin p hp;show#[(f.2 p.1 U).trans e,n,U,nf,d]
 .have G:X.fn x=true:=by
   rcases hf with z|z;.show z
   .rw [z]at hk;cases hk
  let#[c,hc]:=I.ok.has x<|.inl hk;let#[W,z]:=I.cell x c hc;show wpAny_storeName_cell I.ok.kind hk hc z<|λK L f=>?_;let#[oc,R,S]:=id z;show h {s with heap:=K} ⟨I.ok,I.os,I.bare,⟨λb o e n F t=>?_,λb o e n F t=>?_,I.base.free,λb o e t=>?_,I.base.tups,I.base.frzs,I.base.tbls⟩,⟨m,zz.sameBut f<|Ne.symm<|D x c hc,λj y v' g B Y=>?_⟩,λy T e=>?_,I.free,I.freeC,λp hp=>?_,l ⟨oc,R,I.freeC x c hc⟩ f,by simpa using I.len⟩ ⟨c,f,.inr hc⟩;.show (f.2 b<|Þ<|Ò (Ë e)<|I.ok.cab x c G hc).trans<|I.base.keep b o e n F t
  .obtain ⟨sl,g⟩:=I.base.slot b o e n F t;show#[sl,(f.2 b<|Þ<|Ò (Ë e)<|I.ok.cab x c G hc).trans g]
  .obtain ⟨o',g⟩:=I.base.there b o e t;show#[o',(f.2 b<|Þ<|Ò (Ë e)<|I.ok.cab x c G hc).trans g]
  .by_cases J:j=i;.subst J;rw[P]at g;cases g;rw[Ű C]at B;cases B;show#[u,r,.inr #[.inl hk,c,hc,L]]
   .rw [Ε<|Ne.symm J]at B;let#[u',r',q]:=hl j y v' g B Y;show#[u',r',?_];rcases q with q|⟨k,T,e,z'⟩;.show .inl q
    .show .inr #[k,T,e,z'.sameBut f ?_];rintro rfl;show J<|vK hN g<|I.ok.inj _ _ _ e hc▸P
  .by_cases N:T=c;.subst N;show#[_,L]
   .obtain ⟨w2,z2⟩:=I.cell y T e;show#[w2,z2.sameBut f N]
  .obtain ⟨e,n,U,nf,d⟩:=I.pin p hp;show#[(f.2 p.1 ?_).trans e,n,U,nf,d];intro q;rw[q,R]at e;have q':oc=p.2:=Ý e;show d W<|by rw[<-q'];show S
theorem oZ{Q:Unit->ώ->Prop}(I:Inv X gE σ H s)(b:X.N.Nodup)(d:X.N[i]?=!x)(e:Loc X.env.scope x)(r:RelV v u)(h:∀s',Inv X gE (σ.set i !v) H s'->Q Unit.unit s') (c:X.fn x=true\/X.env.scope.names.lookup x=!.local:=by first|show .inl Z|show .inr Z|assumption):wpAny M A (storeName X.env x u) Q E s:=rn I b d e r (λs' a _=>h s' a) c
theorem Inv.call'(I:Inv X gE σ H s)(g:s'.os=s.os)(u:Un (frs X.stack) ch H H' s.heap s'.heap)(d:HOk X.prog X.w H' s'.heap)(f:AllBare s'.gens)(a:∀b∈ch,(b∈X.ex\/⇑X.s₀<=b)/\b≠X.env.locals/\(∀x c,X.env.cells.lookup x=!c->c≠b)/\∀p∈X.pn++gE,p.1≠b):Inv X gE σ H' s':=by let#[i,g',d',t',h]:=s';have e:h=s.os:=g;subst e;show I.call (g':=g') (t':=t') (d':=d') u d f a
end
abbrev XK:=ϋ->ύ ό->Hp->Prop
abbrev St:=ϊ<|ύ V
variable{σ:St}
abbrev VK:=V->Hp->Prop
abbrev TE:=St->Hp->VK->Prop
variable{t te tl:TE}
abbrev TT:=St->Hp->(ϑ->Hp->Prop)->Prop
variable{tc:TT}
abbrev TA:=St->Hp->(ϊ V->Hp->Prop)->Prop
variable{ta:TA}
structure Ends where
 nx:St->Hp->Prop
 rt:VK
 bk:St->Hp->Prop:=λ_ _=>False
 ct:St->Hp->Prop:=λ_ _=>False
abbrev TS:=Ends->St->Hp->Prop
variable{tb:TS}
def EP(X:Cx)(gE:Ϸ)(σ:St)(Q:VK)(u:ϋ)(s':ώ):Prop:=∃v H',Inv X gE σ H' s'/\RelV v u/\Q v H'
def TP(X:Cx)(gE:Ϸ)(σ:St)(Q:ϑ->Hp->Prop)(b:ϑ)(s':ώ):Prop:=∃H',Inv X gE σ H' s'/\Q b H'
def AP(X:Cx)(gE:Ϸ)(σ:St)(Q:ϊ V->Hp->Prop)(us:ϊ ϋ)(s':ώ):Prop:=∃vs H',Inv X gE σ H' s'/\Vals vs us/\Q vs H'
def SP(X:Cx)(gE:Ϸ)(D:Ends)(f:Flow)(s':ώ):Prop:=
 match f with
 |.next=>∃σ' H',Inv X gE σ' H' s'/\D.nx σ' H'|.brk=>∃σ' H',Inv X gE σ' H' s'/\D.bk σ' H'|.cont=>∃σ' H',Inv X gE σ' H' s'/\D.ct σ' H'|.ret u=>∃v σ' H',Inv X gE σ' H' s'/\RelV v u/\D.rt v H'
def PE(X:Cx)(e:Expr)(t:TE):Prop:=∀(gE:Ϸ)(s:ώ)(σ:St)(H:Hp)(Q:VK),Inv X gE σ H s->t σ H Q->wpAny (model X.prog X.w) X.A (eval e X.env) (EP X gE σ Q) X.xe s
def PT(X:Cx)(e:Expr)(t:TT):Prop:=∀(gE:Ϸ)(s:ώ)(σ:St)(H:Hp)(Q:ϑ->Hp->Prop),Inv X gE σ H s->t σ H Q->wpAny (model X.prog X.w) X.A (isTrue e X.env<|eval e X.env) (TP X gE σ Q) X.xe s
def PW(X:Cx)(e:Expr)(t:TT):Prop:=∀(whole:Sem ϋ)(gE:Ϸ)(s:ώ)(σ:St)(H:Hp)(Q:ϑ->Hp->Prop),Inv X gE σ H s->t σ H Q->wpAny (model X.prog X.w) X.A (isTrue e X.env whole) (TP X gE σ Q) X.xe s
def PW.pt{X:Cx}{t:TT}(h:PW X e t):PT X e t:=h _
def PA(X:Cx)(es:ϊ Expr)(t:TA):Prop:=∀(pos:Pos)(gE:Ϸ)(s:ώ)(σ:St)(H:Hp)(Q:ϊ V->Hp->Prop),Inv X gE σ H s->t σ H Q->wpAny (model X.prog X.w) X.A (spliced<|backTo pos<|starEach es X.env) (AP X gE σ Q) X.xe s
def PS(X:Cx)(st:Stmt)(t:TS):Prop:=∀(gE:Ϸ)(s:ώ)(σ:St)(H:Hp)(D:Ends),Inv X gE σ H s->t D σ H->wpAny (model X.prog X.w) X.A (exec st X.env) (SP X gE D) X.xe s
def PSs(X:Cx)(st:ϊ Stmt)(t:TS):Prop:=∀(gE:Ϸ)(s:ώ)(σ:St)(H:Hp)(D:Ends),Inv X gE σ H s->t D σ H->wpAny (model X.prog X.w) X.A (execs st X.env) (SP X gE D) X.xe s
theorem bH{c:Type}{t:Sem c}{Q b:c->ώ->Prop}(h:wpAny M A t Q E s)(d:∀a s,Q a s->b a s):wpAny M A t b E s:=ĉ h d λ_ _ x=>x
section
variable{X:Cx}
def jx(i:Nat):TE:=λσ H Q=>∃v,σ[i]?=!(!v)/\Q v H
def tC(v:V):TE:=λ_ H Q=>Q v H
theorem U6(f:X.N[i]?=!x)(k:Vis X.env.scope x)(d:(x==("__debug__":ϐ))=false:=by decide)(b:(x==("__classdict__":ϐ))=false:=by decide):PE X (.Name x pos) (jx i):=by
 intro a s n H Q I h;let#[v,e,h]:=h;let#[m,j,g]:=I.loc;let#[u,r,l]:=g i x v f e k;have fin:EP X a n Q u s:=#[v,H,I,r,h];rcases l with⟨hk,hm⟩|⟨hk,c,hc,hcell⟩;.show wpAny_Name (wpAny_loadName_local I.ok.kind hk j hm fin) d
 .rcases hk with hk|hk;.show wpAny_Name (wpAny_loadName_cell I.ok.kind hk hc hcell fin) d
  .show wpAny_Name (wpAny_loadName_free I.ok.kind hk hc hcell fin b) d
theorem aa{i j pos}:PE X (.Constant (.int i) j pos) (tC<|.int i):=λ_ _ _ H _ I h=>wpAny_Constant_int #[.int i,H,I.tok _,#[_,Z],h]
theorem p6{b j pos}:PE X (.Constant (.bool b) j pos) (tC<|.bl b):=λ_ _ _ H _ I h=>Constant_bool #[.bl b,H,I,Z,h]
theorem bG{j pos}:PE X (.Constant .none j pos) (tC .non):=λ_ _ _ H _ I h=>Constant_none #[.non,H,I,Z,h]
theorem ik{x j pos}:PE X (.Constant (.str x) j pos) (tC<|.str x):=λ_ _ _ H _ I h=>Calls.Constant_str #[.str x,H,I.tok _,#[_,Z],h]
def Gl(X:Cx)(x:ϐ):Prop:=X.env.kindOf x=!.globalImplicit
theorem Ar(I:Inv X gE σ H s)(b:Gl X x)(c:X.mg x=!u)(h:Q u s)(a:(x==("__debug__":ϐ))=false:=by decide):wpAny (model X.prog X.w) X.A (eval (.Name x pos) X.env) Q E s:=Calls.Name_function_global I.ok.kind b (Calls.loadGlobal_global (by rw[I.ok.glob];show I.mod.glob.keeps I.bk) c h) a
theorem fW(I:Inv X gE σ H s)(d:Gl X x)(e:X.mg x=none)(g:bootBuiltins x=!u)(h:Q u s)(f:x≠"__name__":=by decide) (c:(x==("__debug__":ϐ))=false:=by decide):wpAny (model X.prog X.w) X.A (eval (.Name x pos) X.env) Q E s:=by let#[i,a,b]:=I.mod.blt;show Calls.Name_function_global I.ok.kind d (Calls.loadGlobal_builtin (by rw[I.ok.glob];show I.mod.glob.keeps I.bk) e (by rw[I.ok.blt];show a.keeps I.bk) ((b x f).trans g) h) c
theorem j7(b:Gl X x)(c:X.mg x=!u)(r:RelV v u)(a:(x==("__debug__":ϐ))=false:=by decide):PE X (.Name x pos) (tC v):=λ_ _ _ H _ I h=>Ar I b c #[v,H,I,r,h] a
theorem gO(b:Gl X x)(c:X.mg x=none)(e:bootBuiltins x=!u)(r:RelV v u)(d:x≠"__name__":=by decide)(a:(x==("__debug__":ϐ))=false:=by decide):PE X (.Name x pos) (tC v):=λ_ _ _ H _ I h=>fW I b c e #[v,H,I,r,h] d a
variable{a b:Expr}{ta tb:TE}{pos:Pos}
def PC(X:Cx)(op:CmpOp)(a b:Expr)(t:TE):Prop:=∀(gE:Ϸ)(s:ώ)(σ:St)(H:Hp)(Q:VK),Inv X gE σ H s->t σ H Q->wpAny (model X.prog X.w) X.A (eval a X.env) (λv s₁=>wpAny (model X.prog X.w) X.A (eval b X.env) (λu s₂=>wpAny (model X.prog X.w) X.A (compareOp op v u) (EP X gE σ Q) X.xe s₂) X.xe s₁) X.xe s
abbrev tB(t:TE):TT:=λσ H Q=>t σ H λx H1=>∃c,x=.bl c/\Q c H1
theorem fX(h:PC X op a b t)(f:behindInMarks op b=false:=by first|show nobehind _ (by decide) (by decide)|rfl):PT X (.Compare a [op] [b] pos) (tB t):=by
 intro e s n H Q I k;show wpAny_isTrue_Compare1 (bH (h e s n H _ I k) λv o f=>bH f λu p j=>bH j λc r ⟨x,g,i,m,l⟩=>?_) f;let#[d,rfl,q]:=l;cases m;show Ė #[g,i,q]
variable{tA tB':TT}{rest:ϊ Expr}
def kh(t u:TT):TT:=λσ H Q=>t σ H λc H1=>if c=true then u σ H1 Q else Q false H1
def Nz(t u:TT):TT:=λσ H Q=>t σ H λc H1=>if c=true then Q true H1 else u σ H1 Q
abbrev lg(t:TT):TT:=λσ H Q=>t σ H λc H1=>Q (not c) H1
theorem dU(d:PT X a tA):PW X (.BoolOp .And [a] pos) tA:=by
 intro i b s f H Q I h;show isTrue_and<|bH (d b s f H Q I h) λc g e=>?_;cases c with
 |true=>show isTrue_and_nil e|false=>show e
theorem mK(d:PT X a tA):PW X (.BoolOp .Or [a] pos) tA:=by
 intro i b s f H Q I h;show isTrue_or<|bH (d b s f H Q I h) λc g e=>?_;cases c with
 |false=>show isTrue_or_nil e|true=>show e
theorem fC(j:PT X a tA)(k:PW X (.BoolOp .And (b::rest) pos) tB'):PW X (.BoolOp .And (a::b::rest) pos) (kh tA tB'):=by
 intro m d s i H Q I h;show isTrue_and<|bH (j d s i H _ I h) λc l ob=>?_;let#[e,f,g]:=ob;cases c with
 |true=>show k m d l i e Q f g|false=>show#[e,f,g]
theorem p7(j:PT X a tA)(k:PW X (.BoolOp .Or (b::rest) pos) tB'):PW X (.BoolOp .Or (a::b::rest) pos) (Nz tA tB'):=by
 intro m d s i H Q I h;show isTrue_or<|bH (j d s i H _ I h) λc l ob=>?_;let#[e,f,g]:=ob;cases c with
 |true=>show#[e,f,g]|false=>show k m d l i e Q f g
theorem eG(e:PT X a tA):PT X (.UnaryOp .Not a pos) (lg tA):=by intro b s f H Q I h;show isTrue_not<|e b s f H (λc d=>Q (not c) d) I h
def gD(ta tb:TE):TE:=λσ H Q=>ta σ H λx H1=>∃c,x=.bl c/\if c=true then tb σ H1 Q else Q (.bl false) H1
abbrev Fw(ta:TE):TE:=λσ H Q=>ta σ H λx H1=>∃c,x=.bl c/\Q (.bl<|not c) H1
theorem j8{op}(h:PE X a t):PE X (.BoolOp op [a] pos) t:=λb s d H Q I c=>BoolOp_one<|h b s d H Q I c
theorem fY(j:PE X a ta)(k:PE X (.BoolOp .And (b::rest) pos) tb):PE X (.BoolOp .And (a::b::rest) pos) (gD ta tb):=by
 intro d s i H Q I h;show BoolOp_and<|bH (j d s i H _ I h) λv m ob=>?_;let#[x,f,g,l,e]:=ob;let#[c,rfl,e]:=e;cases l;show Ė ?_;cases c with
 |true=>show k d m i f Q g e|false=>show#[.bl false,f,g,Z,e]
theorem Fx(g:PE X a ta):PE X (.UnaryOp .Not a pos) (Fw ta):=by
 intro b s j H Q I h;show UnaryOp_<|bH (g b s j H _ I h) λv k ob=>?_;let#[x,e,f,i,d]:=ob;let#[c,rfl,d]:=d;cases i;show not_of<|Ė #[.bl<|not c,e,f,Z,d]
abbrev XC(t:TT)(ta tb:TE):TE:=λσ H Q=>t σ H λc H1=>if c=true then ta σ H1 Q else tb σ H1 Q
theorem jy(n:PT X c tA)(l:PE X a ta)(m:PE X b tb):PE X (.IfExp c a b pos) (XC tA ta tb):=by
 intro e s f H Q I h;show wpAny_IfExp<|bH (n e s f H _ I h) λd k ob=>?_;let#[g,i,j]:=ob;cases d with
 |true=>show l e k f g Q i j|false=>show m e k f g Q i j
end
def SqL(K:Ϗ)(H:Hp)(a:ό)(xs:ϊ V):Prop:=Rd H a (.lst xs)\/∃(o:Obj)(its:ϔ ϋ)(n:Nat),K.lookup a=!o/\o.cls=.type "list"/\o.dict=none/\o.data=.seq its n/\its.size<=sizeLine/\Vals xs its.toList
def SqT(K:Ϗ)(H:Hp)(a:ό)(xs:ϊ V):Prop:=Rd H a (.tup xs)\/∃(o:Obj)(its:ϔ ϋ)(n:Nat),K.lookup a=!o/\o.cls=.type "tuple"/\o.data=.seq its n/\its.size<=sizeLine/\Vals xs its.toList
noncomputable def a0h:ϋ->ύ V
 |.none=>!.non|.bool b=>!(.bl b)|.int i _=>!(.int i)|.str x _=>!(.str x)|.bytes b _=>!(.byt b)|.float b _=>!(.flt b)|.ref a=>!↥a|.type n=>!(.ty n)|_=>none
theorem RelV.abs{x:V}(r:RelV x u):a0h u=!x:=by
 cases x with
 |non=>cases r;rfl|bl _=>cases r;rfl|int _=>let#[t,rfl]:=r;rfl|str _=>let#[t,rfl]:=r;rfl|byt _=>let#[t,rfl]:=r;rfl|flt _=>let#[t,rfl]:=r;rfl|ref _=>cases r;rfl|ty _=>cases r;rfl
def RelV.inj{x:V}(r:RelV x u)(q:RelV y u):x=y:=Ý<|r.abs.symm.trans q.abs
theorem Vals.inj{e c:ϊ V}(h:Vals e d)(k:Vals c d):e=c:=by induction h generalizing c with
 |nil=>cases k;rfl|cons r t ih=>cases k with|cons a b=>rw[r.inj a,ih b]
section
variable{X:Cx}
def SqL.of{K:Ϗ}(h:H a=!(.lst xs)):SqL K H a xs:=.inl<|.inl h
def gI:=@SqL.of
def SqT.of{K:Ϗ}(h:H a=!(.tup xs)):SqT K H a xs:=.inl<|.inl h
def gL:=@SqT.of
theorem Inv.list(I:Inv X gE σ H s)(h:SqL X.K H a xs):∃its:ϊ ϋ,Vals xs its/\PlainL s.heap a its.toArray/\↑xs<=sizeLine:=by
 rcases h with h|⟨o,its,n,hk,hc,hd,hs,hz,r⟩;.obtain ⟨z,its,n,r,e⟩:=h.ok I.hok;show#[its,r,#[_,n,e,Z,Z,Z],z]
 .show #[its.toList,r,#[o,n,I.kIn a o hk,hc,hd,by simpa using hs],?_];have e:=↑r;simp-iota only[á]at e;rfl'
theorem Inv.tuple(I:Inv X gE σ H s)(h:SqT X.K H a xs):∃its:ϊ ϋ,Vals xs its/\IsTup s.heap a its.toArray/\↑xs<=sizeLine:=by
 rcases h with h|⟨o,its,n,hk,hc,hs,hz,r⟩;.obtain ⟨z,its,r,p⟩:=h.ok I.hok;show#[its,r,p,z]
 .show #[its.toList,r,#[o,I.kIn a o hk,hc,n,by simpa using hs],?_];have e:=↑r;simp-iota only[á]at e;rfl'
theorem Inv.list_inj(I:Inv X gE σ H s)(h:SqL X.K H a xs)(i:SqL X.K H a ys):xs=ys:=by
 let#[c,r,#[o,n,e,_,_,d],_]:=I.list h;let#[b,j,#[l,k,g,_,_,f],_]:=I.list i;rw[e]at g;cases g;rw[d]at f;injection f with d1 _;have:c=b:=by simpa using Ö Array.toList d1
 subst this;show r.inj j
theorem Inv.tuple_inj(I:Inv X gE σ H s)(h:SqT X.K H a xs)(i:SqT X.K H a ys):xs=ys:=by
 let#[c,r,#[o,e,_,n,d],_]:=I.tuple h;let#[b,j,#[l,g,_,k,f],_]:=I.tuple i;rw[e]at g;cases g;rw[d]at f;injection f with d1 _;have:c=b:=by simpa using Ö Array.toList d1
 subst this;show r.inj j
end
abbrev Cx.wish(X:Cx)(E:϶):Cx:={X with xe:=E}
abbrev Cx.nox(X:Cx):Cx:=X.wish λ_ _=>False
def Cx.Ok.wish{X:Cx}(a:X.Ok)(E:϶):(X.wish E).Ok:=#[a.mod,a.kind,a.glob,a.blt,a.above,a.inj,a.has,a.cab,a.hd,a.frames,a.stk,a.exf,a.bs,a.bsz,a.noex,a.exfs,a.funs,a.frf]
def Cx.Ok.unwish{X:Cx}(a:(X.wish E).Ok):X.Ok:=#[a.mod,a.kind,a.glob,a.blt,a.above,a.inj,a.has,a.cab,a.hd,a.frames,a.stk,a.exf,a.bs,a.bsz,a.noex,a.exfs,a.funs,a.frf]
section
variable{X:Cx}{H:Hp}{s:ώ}
theorem Inv.wish(I:Inv X gE σ H s)(E:϶):Inv (X.wish E) gE σ H s:=#[I.ok.wish E,I.os,I.bare,I.base,I.loc,I.cell,I.free,I.freeC,I.pin,I.hok,I.len]
theorem Inv.unwish(I:Inv (X.wish E) gE σ H s):Inv X gE σ H s:=#[I.ok.unwish,I.os,I.bare,I.base,I.loc,I.cell,I.free,I.freeC,I.pin,I.hok,I.len]
theorem SP.unwish{f:Flow}(h:SP (X.wish E) gE D f s'):SP X gE D f s':=by cases f with
 |next=>let#[a,b,I,q]:=h;show#[a,b,I.unwish,q]|brk=>let#[a,b,I,q]:=h;show#[a,b,I.unwish,q]|cont=>let#[a,b,I,q]:=h;show#[a,b,I.unwish,q]|ret u=>let#[v,a,b,I,r,q]:=h;show#[v,a,b,I.unwish,r,q]
theorem PSs.nox{t:TS}(h:PSs X.nox st t):PSs X st t:=λa s c H D I b=>ĉ (h a s c H D (I.wish _) b) (λ_ _ q=>q.unwish) λ_ _ z=>False.elim z
end
section
variable{X:Cx}{st:Stmt}{rest:ϊ Stmt}{t u:TS}{e:Expr}{te:TE}{pos:Pos}
abbrev aR:TS:=λD σ H=>D.nx σ H
def aA(t u:TS):TS:=λD σ H=>t {D with nx:=u D} σ H
theorem aH:PSs X [] aR:=λ_ _ a H _ I h=>wpAny_execs_nil #[a,H,I,h]
theorem vL(e:PS X st t)(g:PSs X rest u):PSs X (st::rest) (aA t u):=by
 intro a s j H D I h;show wpAny_execs_cons<|bH (e a s j H {D with nx:=u D} I h) λf i q=>?_;cases f with
 |next=>let#[b,c,d,q]:=q;show g a i b c D d q|ret v=>show q|brk=>show q|cont=>show q
theorem au(b:PS X st t):PSs X [st] t:=by
 intro a s c H D I h;show wpAny_execs_cons<|bH (b a s c H D I h) λf d q=>?_
 cases f with
 |next=>show wpAny_execs_nil q|ret v=>show q|brk=>show q|cont=>show q
theorem Inv.quiet(I:Inv X gE σ H s):interactive X.env=false:=by simp[interactive,I.ok.kind]
abbrev di(te:TE):TS:=λD σ H=>te σ H λ_ H1=>D.nx σ H1
theorem bJ(f:PE X e te)(g:swapsWith e none pos.line X.env=pure false:=by rfl):PS X (.Expr e pos) (di te):=by intro a s b H D I h;show wpAny_Expr_any (bH (f a s b H _ I h) λv k ⟨x,c,d,j,i⟩=>#[b,c,d,i]) I.quiet g
abbrev aW(te:TE):TS:=λD σ H=>te σ H D.rt
theorem aC(f:PE X e te):PS X (.Return (!e) pos) (aW te):=by intro a s b H D I h;show wpAny_Return_some<|bH (f a s b H _ I h) λv j ob=>?_;let#[x,c,d,i,g]:=ob;show#[x,b,c,d,i,g]
def bD(c:TT)(t u:TS):TS:=λD σ H=>c σ H λb H1=>if b=true then t D σ H1 else u D σ H1
theorem aV{a b:ϊ Stmt}(n:PT X c tc)(l:PSs X a t)(m:PSs X b u):PS X (.If c a b pos) (bD tc t u):=by
 intro e s f H D I h;show wpAny_If<|bH (n e s f H _ I h) λd k ob=>?_;let#[g,i,j]:=ob;cases d with
 |true=>show l e k f g D i j|false=>show m e k f g D i j
def dH:TS:=λ_ _ _=>False
def cB:PS X st dH:=λ_ _ _ _ _ _ h=>h.elim
end
abbrev TG:=V->St->Hp->(St->Hp->Prop)->Prop
abbrev NB:=ϊ V->St->Hp->(St->Hp->Prop)->Prop
def PG(X:Cx)(target:Expr)(t:TG):Prop:=∀(gE:Ϸ)(s:ώ)(σ:St)(H:Hp)(v:V)(u:ϋ)(Q:St->Hp->Prop),Inv X gE σ H s->RelV v u->t v σ H Q->wpAny (model X.prog X.w) X.A (assign target X.env u) (λ_ s'=>∃σ' H',Inv X gE σ' H' s'/\Q σ' H') X.xe s
def Y7(X:Cx)(ts:ϊ Expr)(t:NB):Prop:=∀(gE:Ϸ)(s:ώ)(σ:St)(H:Hp)(vs:ϊ V)(us:ϊ ϋ)(Q:St->Hp->Prop),Inv X gE σ H s->Vals vs us->t vs σ H Q->wpAny (model X.prog X.w) X.A (assignInOrder ((assignEach ts X.env).map (·.2)) us) (λ_ s'=>∃σ' H',Inv X gE σ' H' s'/\Q σ' H') X.xe s
abbrev U7:=V->V->V->Hp->(Hp->Prop)->Prop
def Y8(X:Cx)(t:U7):Prop:=∀(gE:Ϸ)(s:ώ)(σ:St)(H:Hp)(o i v:V)(ov iv u:ϋ)(Q:Hp->Prop),Inv X gE σ H s->RelV o ov->RelV i iv->RelV v u->t o i v H Q->wpAny (model X.prog X.w) X.A (setItem ov iv u) (λ_ s'=>∃H',Inv X gE σ H' s'/\Q H') X.xe s
abbrev XD:=V->V->Hp->VK->Prop
def PIp(X:Cx)(op:Operator)(t:XD):Prop:=∀(gE:Ϸ)(s:ώ)(σ:St)(H:Hp)(x y:V)(v u:ϋ)(Q:VK),Inv X gE σ H s->RelV x v->RelV y u->t x y H Q->wpAny (model X.prog X.w) X.A (inplaceOp op v u) (EP X gE σ Q) X.xe s
section
variable{X:Cx}
abbrev ak(i:Nat):TG:=λv σ H Q=>Q (σ.set i !v) H
theorem lG(c:X.N.Nodup)(e:X.N[i]?=!x)(f:Loc X.env.scope x)(d:X.fn x=true\/X.env.scope.names.lookup x=!.local:=by first|show .inl Z|show .inr Z|assumption):PG X (.Name x pos) (ak i):=by intro a s j H v u Q I r h;show wpAny_assign_Name<|oZ I c e f r (λg b=>#[_,H,b,h]) d
def gF:NB:=λvs σ H Q=>vs=[]/\Q σ H
def bf(t:TG)(u:NB):NB:=λvs σ H Q=>∃v r,vs=v::r/\t v σ H λσ' H'=>u r σ' H' Q
theorem bO:Y7 X [] gF:=by
 intro a s b H d c Q I r h;let#[e,h]:=h;subst e;cases r;show assignInOrder_nil #[b,H,I,h]
theorem aK{b:ϊ Expr}{t:TG}{u:NB}(i:PG X e t)(j:Y7 X b u)
  (k:(assignEach (e::b) X.env).map (·.2)=assign e X.env::(assignEach b X.env).map (·.2):=by rfl):Y7 X (e::b) (bf t u):=by
 intro a s n H q o Q I r h;let#[v,p,g,h]:=h;subst g;cases r with|cons r rr=>rw[k];show assignInOrder_cons<|bH (i a s n H _ _ _ I r h) λ_ m ob=>?_;let#[c,d,f,l]:=ob;show j a m c d _ _ Q f rr l
def gr(K:Ϗ)(n:Nat)(t:NB):TG:=λv σ H Q=>∃a xs,v=↥a/\SqT K H a xs/\↑xs=n/\t xs σ H Q
theorem U8{t:NB}(q:X.calm=true)(h:Y7 X d t)(x:↑(assignEach d X.env)=n:=by rfl) (f:(assignEach d X.env).findIdx? (·.1)=none:=by rfl):PG X (.Tuple d k pos) (gr X.K n t):=by
 intro c s j H v u Q I r g;let#[a,C,m,y,w,g]:=g;subst m;cases r;let#[B,i,z,D]:=I.tuple y;show assign_Tuple_tuple (I.ok.hd q) z (by simp[x,<-w,i.length]) f λp A=>?_;have l:Inv X c j H {s with heap:=p}:=I.kept (t':=s.toks) λb o e=>A b o (Þ<|Ë e) e;show h c _ j H C _ Q l (by simpa using i) g
abbrev Fy(to ti:TE)(t:U7):TG:=λv σ H Q=>to σ H λo H1=>ti σ H1 λi H2=>t o i v H2 λH3=>Q σ H3
theorem tY{i:Expr}{e:TE}{t:U7}(q:PE X o e)(p:PE X i d)(w:Y8 X t)(n:∀v,assign (.Subscript o i pos) X.env v=(do
   let ov<-holding [v]<|eval o X.env
   let b<-holding [v,ov] (eval i X.env)standAt pos
   holding [v,ov,b] (setItem ov b v)release [v,ov,b] []):=by intro _;rfl):PG X (.Subscript o i pos) (Fy e d t):=by intro a s c H v u Q I r h;rw[n];show Qr<|õ<|bH (q a s c H _ I h) λov E ob=>?_;let#[x,f,k,C,z]:=ob;show Qr<|õ<|bH (p a E c f _ k z) λb F ob=>?_;let#[y,g,l,D,A]:=ob;show Qr<|wpAny_standAt<|Qr<|õ<|bH (w a F c g x y v ov b u _ l C D r A) λ_ G ob=>?_;let#[j,m,B]:=ob;show wpAny_release #[c,j,m,B]
abbrev aL(te:TE)(g:TG):TS:=λD σ H=>te σ H λx H1=>g x σ H1 D.nx
theorem tZ{g:TG}(i:PE X e te)(j:PG X tg g)(k:swapsWithSole [tg] e pos.line X.env=pure false:=by rfl)(l:swappedStores [tg] e X.env=pure none:=by rfl)(f:(assignEach [tg] X.env).map (·.2)=[assign tg X.env]:=by rfl):PS X (.Assign [tg] e pos) (aL te g):=by intro a s b H D I h;show wpAny_Assign_stores (bH (i a s b H _ I h) λv o ⟨x,c,d,n,m⟩=>?_) k l;rw[f];show bH (j a o b c x v _ d n m) λ_ p q=>q
theorem eN(f:X.N.Nodup)(k:X.N[i]?=!x)(m:Loc X.env.scope x)(g:PE X e te)(l:swapsWith e (!(.Name x pos')) pos.line X.env=pure false:=by rfl)(j:X.fn x=true\/X.env.scope.names.lookup x=!.local:=by first|show .inl Z|show .inr Z|assumption):PS X (.Assign [.Name x pos'] e pos) (aL te<|ak i):=by intro a s p H D I h;show wpAny_Assign_Name (bH (g a s p H _ I h) λv q ⟨y,b,c,o,n⟩=>?_) l;show oZ c f k m o (λr d=>#[_,b,d,n]) j
def O5(i:Nat)(te:TE)(ti:XD):TS:=λD σ H=>∃x,σ[i]?=!(!x)/\te σ H λy H1=>ti x y H1 λz H2=>D.nx (σ.set i !z) H2
theorem FJ{g:Operator}(F:X.N.Nodup)(n:X.N[i]?=!x)(f:Loc X.env.scope x)(G:PE X e te)(M:PIp X g o)(J:X.fn x=true\/X.env.scope.names.lookup x=!.local:=by first|show .inl Z|show .inr Z|assumption):PS X (.AugAssign (.Name x pos') g e pos) (O5 i te o):=by
 intro a s p H D I h;let#[v,E,h]:=h;let#[m,L,K]:=I.loc;have j:Vis X.env.scope x:=by rcases f with k|k;show .inl k;show .inr<|.inl k
 let#[u,r,l]:=K i x v n E j;show wpAny_AugAssign_Name ?_;have go:wpAny (model X.prog X.w) X.A (eval e X.env) (λw b=>wpAny (model X.prog X.w) X.A (inplaceOp g u w) (λr d=>wpAny (model X.prog X.w) X.A (storeName X.env x r) (λ_=>SP X a D .next) X.xe d) X.xe b) X.xe s:=by
  show bH (G a s p H _ I h) λw R ob=>?_;let#[y,q,A,P,N]:=ob;show bH (M a R p q v y u w _ A r P N) λz S ob=>?_;let#[U,t,B,Q,O]:=ob;show oZ B F n f Q (λT C=>#[_,t,C,O]) J
 rcases l with⟨hk,hm⟩|⟨hk,c,hc,hcell⟩;.show wpAny_loadName_local I.ok.kind hk L hm go
 .rcases hk with hk|hk;.show wpAny_loadName_cell I.ok.kind hk hc hcell go
  .rcases f with k|k;.have:X.env.scope.names.lookup x=!.free:=hk;rw[k]at this;cases this
   .have:X.env.scope.names.lookup x=!.free:=hk;rw[k]at this;cases this
def ipI(f:Int->Int->Int):XD:=λx y H Q=>∃i j,x=.int i/\y=.int j/\Q (.int<|f i j) H
theorem FN:PIp X .Add (ipI λi j=>i+j):=by intro a s g H x y v u Q I d e h;let#[i,j,b,c,q]:=h;subst b;subst c;let#[t,rfl]:=d;let#[f,rfl]:=e;show iadd_int #[.int _,H,I.tok _,#[_,Z],q]
end
section
variable{X:Cx}
def fZ(c:TT)(tb:TS):TS:=λD σ H=>∃W:Nat->St->Hp->Prop,(∃m,W m σ H)/\∀m σ H,W m σ H->c σ H λb H1=>if b=true then ∃N:St->Hp->Prop,(∀σ' H',N σ' H'->∃m',m'<m/\W m' σ' H')/\tb {D with nx:=N,ct:=N,bk:=D.nx} σ H1 else D.nx σ H1
theorem fM(z:PassesOwn (model X.prog X.w) X.A X.env X.xe)(C:PT X c tc)(B:PSs X body tb):PS X (.While c body [] pos) (fZ tc tb):=by
 intro a s M H D I h;let#[W,#[E,K],i]:=h;show wpAny_While<|codeAny_whileLoop (λn F=>∃j t,Inv X a j t F/\W n j t) ?_ E #[M,H,I,K];rintro n G ⟨e,u,A,L⟩;show Ş z<|bH (C a G e u _ A<|i n e u L) λb J ob=>?_;let#[w,x,k]:=ob;cases b with
 |true=>
  let#[N,y,k]:=k;rw[β Z];show Ş z<|bH (B a J e w _ x k) λf O l=>?_;cases f with
  |next=>let#[d,g,m,q]:=l;let#[p,o,r]:=y d g q;show#[p,o,d,g,m,r]|cont=>let#[d,g,m,q]:=l;let#[p,o,r]:=y d g q;show#[p,o,d,g,m,r]|brk=>show l|ret v=>show l
 |false=>rw[γ Ï];show wpAny_execs_nil #[e,w,x,k]
end
structure It where
 go:Nat->Hp->Prop
 yld:Nat->Hp->V->Hp->Prop
 stop:Nat->Hp->Prop
def oh(X:Cx)(gE:Ϸ)(H:Hp)(b:ό):Prop:=
 H b=none/\b≠X.env.locals/\b∉X.fs/\(b∈X.ex\/⇑X.s₀<=b)/\(∀x c,X.env.cells.lookup x=!c->c≠b)/\∀p∈X.pn++gE,p.1≠b
theorem Inv.fpOk{X:Cx}(I:Inv X gE σ H s)(a:⇑s<=b)(f:d b=none):oh X gE d b:=by
 show#[f,ė<|Ò I.lt a,I.nofs a,.inr<|Í I.sz a,λx c e z=>?_,λp g z=>?_];.obtain ⟨v,q⟩:=I.cell x c e;show μ (Ò q.lt<|by rw[z];show a)<|Ď _
 .show μ (Ò (Ë (I.pin p g).1)<|by rw[z];show a)<|Ď _
structure Turn(P:ϓ)(w:ϕ)(K:Ϗ)(tg:Expr)(J:It)(fp:ϊ ό)(it:ό)(tn:Nat->ϒ->Prop):Prop where
 mem:it∈fp
 obj:∀i h,tn i h->∀b∈fp,∃o,h.get? b=!o/\∀v,o.data≠.cell v
 keep:∀i h h',tn i h->(∀b∈fp,∀o,h.get? b=!o->h'.get? b=!o)->tn i h'
 item:∀(X:Cx),X.prog=P->X.w=w->X.K=K->X.calm=true->∀(i:Nat)(gE:Ϸ)(s:ώ)(σ:St)(H:Hp)(E:϶),Inv X gE σ H s->(∀b∈fp,oh X gE H b)->tn i s.heap->J.go i H->
  wpAny (model P w) X.A (pyNext<|.ref it) (λr s1=>∃u,r=!u/\wpAny (model P w) X.A (letOwnedTupleGo tg ↥it u) (λ_ s2=>∃x H',Inv X gE σ H' s2/\RelV x u/\J.yld i H x H'/\tn (i+1) s2.heap/\∀b∈fp,H' b=none) E s1) E s
 done:∀(X:Cx),X.prog=P->X.w=w->X.K=K->X.calm=true->∀(i:Nat)(gE:Ϸ)(s:ώ)(σ:St)(H:Hp)(E:϶),Inv X gE σ H s->(∀b∈fp,oh X gE H b)->tn i s.heap->J.stop i H->wpAny (model P w) X.A (pyNext<|.ref it) (λr s1=>r=none/\Inv X gE σ H s1) E s
 self:∀(A:ϖ)(i:Nat)(s:ώ)(Q:϶)(E:϶),tn i s.heap->Q ↥it s->wpAny (model P w) A (pyIter<|.ref it) Q E s
abbrev TI:=St->Hp->(It->Hp->Prop)->Prop
def PIE(X:Cx)(gE:Ϸ)(σ:St)(tg:Expr)(R:It->Hp->Prop)(itv:ϋ)(s2:ώ):Prop:=∃(it:ό)(fp:ϊ ό)(tn:Nat->ϒ->Prop)(J:It)(H':Hp),itv=↥it/\Inv X gE σ H' s2/\Turn X.prog X.w X.K tg J fp it tn/\tn 0 s2.heap/\(∀b∈fp,oh X gE H' b)/\R J H'
def PI(X:Cx)(tg iter:Expr)(wi:TI):Prop:=∀(gE:Ϸ)(s:ώ)(σ:St)(H:Hp)(R:It->Hp->Prop),Inv X gE σ H s->wi σ H R->wpAny (model X.prog X.w) X.A (eval iter X.env) (λv s1=>wpAny (model X.prog X.w) X.A (pyIter v) (PIE X gE σ tg R) X.xe s1) X.xe s
theorem rA{n:String}{b:ϔ ϋ}{Q:Unit->ώ->Prop}(f:s.heap.get? it=!o)(c:o.cls=.type n)(d:o.data=.fields b)(e:["enumerate","zip","dict_itemiterator","dict_reverseitemiterator","odict_iterator","itertools.zip_longest","itertools.pairwise"].contains n=false) (a:Q Unit.unit s):wpAny M A (letOwnedTupleGo tg ↥it u) Q E s:=by
 unfold letOwnedTupleGo;cases tg <;> first
  |show Wp a| (cases u<;>first
    |show Wp a
    | (show Qr<|wpAny_load f ?_;rw[c,d];change wpAny M A (if(["enumerate","zip","dict_itemiterator","dict_reverseitemiterator","odict_iterator","itertools.zip_longest","itertools.pairwise"].contains n&&b[0]? ==!(rawInt _))=true then _ else _) Q E s;rw[γ<|by intro h;rw[e,ŕ]at h;cases h];show Wp a))
noncomputable def O6(K:Ϗ)(a:ό):It:=#[λi H=>∃xs x,SqL K H a xs/\xs[i]?=!x,λi H x H'=>H'=H/\∀xs,SqL K H a xs->xs[i]?=!x,λi H=>∃xs,SqL K H a xs/\↑xs<=i]
noncomputable def XF(K:Ϗ)(a:ό):It:=#[λi H=>∃xs x,SqT K H a xs/\xs[i]?=!x,λi H x H'=>H'=H/\∀xs,SqT K H a xs->xs[i]?=!x,λi H=>∃xs,SqT K H a xs/\↑xs<=i]
def yu(lo:Int)(n:Nat):It:=#[λi _=>i<n,λi H x H'=>H'=H/\x=.int (lo+i),λi _=>n<=i]
theorem Dc{P:ϓ}{K:Ϗ}(a l:ό):Turn P w K tg (O6 K a) [l] l (λi h=>h.IsListIter l a i)where
 mem:=by simp
 obj:=λi h f b j=>by
  have e:b=l:=by simpa using j
  subst e;let#[o,e,c,d]:=f;show#[o,e,λv z=>by rw[d]at z;cases z]
 keep:=λi h n f k=>f.at λo e=>k l (by simp) o e
 item:=by
  intro X F J D O i g s Q H E I q f G;subst F J D;let#[xs,x,r,L]:=G;let#[M,N,p,zz]:=I.list r;let#[u,U,ru]:=N.get L;let#[t,y,T,A,B,C]:=q l (by simp);show wpAny_pyNext_list_item f p.isList (x:=u) (by simpa using U) λn m sb=>?_;have R:Inv X g Q H {s with heap:=n}:=I.turned (t':=s.toks) (λb o j e=>(sb.2 b j).trans e) t y A B C;let#[o,e,c,d]:=id m;show#[u,Z,rA (s:={s with heap:=n}) e c d (by decide) ⟨x,H,R,ru,⟨Z,λys Y=>by rw[I.list_inj Y r];show L⟩,m,λb j=>(q b j).1⟩]
 done:=by intro X F J D O i g s Q H E I q f G;subst F J D;let#[xs,r,L]:=G;let#[M,N,p,zz]:=I.list r;let#[t,y,T,A,B,C]:=q l (by simp);have hl:=↑N;show wpAny_pyNext_list_end (I.ok.hd O) f p.isList (by simp;rfl') λn S=>#[Z,I.turned (t':=s.toks) (λb o j e=>S b o j e) t y A B C]
 self:=λ_ _ _ _ _ f h=>wpAny_pyIter_listiter f h
theorem yw{P:ϓ}{K:Ϗ}(a l:ό):Turn P w K tg (XF K a) [l] l (λi h=>h.IsTupleIter l a i)where
 mem:=by simp
 obj:=λi h f b j=>by
  have e:b=l:=by simpa using j
  subst e;let#[o,e,c,d]:=f;show#[o,e,λv z=>by rw[d]at z;cases z]
 keep:=λi h q f k=>f.at λo e=>k l (by simp) o e
 item:=by
  intro X G L F O i g s Q H E I r f J;subst G L F;let#[xs,x,t,M]:=J;let#[m,N,p,zz]:=I.tuple t;let#[u,U,ru]:=N.get M;let#[y,A,T,B,C,D]:=r l (by simp);show wpAny_pyNext_tuple_item f (show s.heap.IsTuple a m.toArray from p) (x:=u) (by simpa using U) λq n sb=>?_;have R:Inv X g Q H {s with heap:=q}:=I.turned (t':=s.toks) (λb o j e=>(sb.2 b j).trans e) y A B C D;let#[o,e,c,d]:=id n;show#[u,Z,rA (s:={s with heap:=q}) e c d (by decide) ⟨x,H,R,ru,⟨Z,λys Y=>by rw[I.tuple_inj Y t];show M⟩,n,λb j=>(r b j).1⟩]
 done:=by intro X G L F O i g s Q H E I r f J;subst G L F;let#[xs,t,M]:=J;let#[m,N,p,zz]:=I.tuple t;let#[y,A,T,B,C,D]:=r l (by simp);have hl:=↑N;show wpAny_pyNext_tuple_end (I.ok.hd O) f (show s.heap.IsTuple a m.toArray from p) (by simp;rfl') λq S=>#[Z,I.turned (t':=s.toks) (λb o j e=>S b o j e) y A B C D]
 self:=λ_ _ _ _ _ f h=>wpAny_pyIter_tupleiter f h
theorem yz{P:ϓ}{K:Ϗ}(c:ό)(lo:Int)(n:Nat):Turn P w K tg (yu lo n) [c] c (λi h=>IsRangeIter h c (lo+(i:Nat)*1) ((n:Int)-(i:Nat)) 1)where
 mem:=by simp
 obj:=λi h a b f=>by
  have e:b=c:=by simpa using f
  subst e;show⟨_,a,λv z=>by
   have O:Data.fields _=Data.cell v:=z;cases O⟩
 keep:=λi h j a k=>k c (by simp) _ a
 item:=by
  intro X y C x A i d s F H E I l a B;subst y C x;let#[m,p,L,q,r,u]:=l c (by simp);have W:=Walks.range (prog:=X.prog) (w:=X.w) (I.ok.hd A) c lo 1 n;show W.item i s _ _ B a λv j D M g N=>?_;let#[t,rfl]:=M;have G:Inv X d F H {s with heap:=j,toks:=D}:=I.turned (λb o f e=>N b o (by simpa using f) e) m p q r u;show⟨_,Z,rA (s:={s with heap:=j,toks:=D}) (n:="range_iterator") g Z Z (by decide) ⟨.int<|lo+i,H,G,⟨t,?_⟩,⟨Z,Z⟩,g,λb f=>(l b f).1⟩⟩;rw[Int.mul_one]
 done:=by
  intro X y C x A i d s F H E I l a B;subst y C x;let#[m,p,L,q,r,u]:=l c (by simp);show wpAny_pyNext_range_end (I.ok.hd A) a (by have:n<=i:=B;rfl') λj J=>#[Z,I.turned (t':=s.toks) (λb o f e=>J b o f e) m p q r u]
 self:=λ_ _ _ _ _ a h=>wpAny_pyIter_rangeiter a h
section
variable{X:Cx}
abbrev cC(K:Ϗ)(tl:TE):TI:=λσ H R=>tl σ H λx H1=>∃a,x=↥a/\(∃xs,SqL K H1 a xs)/\R (O6 K a) H1
abbrev ph(K:Ϗ)(tl:TE):TI:=λσ H R=>tl σ H λx H1=>∃a,x=↥a/\(∃xs,SqT K H1 a xs)/\R (XF K a) H1
theorem O7(j:PE X l tl):PI X tg l (cC X.K tl):=by
 intro c s t H R I h;show bH (j c s t H _ I h) λv f ob=>?_;let#[x,g,d,r,n]:=ob;let#[a,e,#[y,k],q]:=n;subst e;cases r;let#[m,w,p,u]:=d.list k;show Α p.isList ?_;show#[⇑f,[⇑f],_,_,g,Z,d.kept (t':=f.toks) λb o e=>Jn _ e,Dc a _,#[_,È _ Z,Z,Z],λb i=>?_,q];have e:b=⇑f:=by simpa using i
 subst e;show d.fpOk (Ã _)<|d.hok.fresh<|Ã _
theorem U9(k:PE X l tl):PI X tg l (ph X.K tl):=by
 intro c s t H R I h;show bH (k c s t H _ I h) λv d ob=>?_;let#[x,i,f,r,n]:=ob;let#[a,e,#[y,m],q]:=n;subst e;cases r;let#[g,w,p,u]:=f.tuple m;show ļ (show d.heap.IsTuple a g.toArray from p) ?_;show#[⇑d,[⇑d],_,_,i,Z,f.kept (t':=d.toks) λb o e=>Jn _ e,yw a _,#[_,È _ Z,Z,Z],λb j=>?_,q];have e:b=⇑d:=by simpa using j
 subst e;show f.fpOk (Ã _)<|f.hok.fresh<|Ã _
theorem vM{R:It->Hp->Prop}{lo a:Int}{t u v:Tok}{d:Nat}(I:Inv X gE σ H s)(h:-(2^62)<=lo)(i:lo<2^62)(j:-(2^62)<=a)(k:a<2^62)(q:R (yu lo (a-lo).toNat) H):wpAny (model X.prog X.w) X.A (pyIter<|.ref ⇑s) (PIE X gE σ tg R) E {s with heap:=s.heap.push {cls:=.type "range",data:=.fields<|[.int lo t,.int a u,.int 1 v].toArray},toks:=d}:=by
 show wpAny_pyIter_range (IsRange.new ..) (small_one h i j k) ?_;have c:Inv X gE σ H {s with heap:=s.heap.push {cls:=.type "range",data:=.fields<|[.int lo t,.int a u,.int 1 v].toArray},toks:=d}:=I.kept λb o e=>Jn _ e;show⟨(s.heap.push {cls:=.type "range",data:=.fields<|[.int lo t,.int a u,.int 1 v].toArray}).objs.size,[(s.heap.push {cls:=.type "range",data:=.fields<|[.int lo t,.int a u,.int 1 v].toArray}).objs.size],_,_,H,Z,
  c.kept (t':=d) λb o e=>Jn _ e,yz _ lo (a-lo).toNat,?_,λb l=>?_,q⟩
 .have f:lo+((0:Nat):Int)*1=lo:=by simp
  have g:(((a-lo).toNat:Nat):Int)-((0:Nat):Int)=Builtin.Range.rangeSize lo a 1:=by rw[rangeSize_one];split<;>rfl'
  change IsRangeIter _ _ (lo+((0:Nat):Int)*1) ((((a-lo).toNat:Nat):Int)-((0:Nat):Int)) 1;rw[f,g];show È _ Z
 .have e:b=(s.heap.push {cls:=.type "range",data:=.fields<|[.int lo t,.int a u,.int 1 v].toArray}).objs.size:=by simpa using l
  subst e;show c.fpOk (Ã _)<|c.hok.fresh<|Ã _
abbrev fO(ta:TA):TI:=λσ H R=>ta σ H λvs H1=>∃j:Int,vs=[.int j]/\-(2^62)<=j/\j<2^62/\R (yu 0 j.toNat) H1
abbrev Av(ta:TA):TI:=λσ H R=>ta σ H λvs H1=>∃i j:Int,vs=[.int i,.int j]/\(-(2^62)<=i/\i<2^62/\-(2^62)<=j/\j<2^62)/\R (yu i (j-i).toNat) H1
theorem bK{a:Expr}{p:Pos}(g:Gl X "range")(i:X.mg "range"=none)(f:PA X [a] ta)(k:starEach [a] X.env=[(false,eval a X.env)]:=by rfl):PI X tg (.Call (.Name "range" p) [a] [] pos) (fO ta):=by
 intro b s n H R I h;show Call_<|fW I g i boot_range<|Ċ (bH (f pos b s n H _ I h) λv u ⟨w,o,d,m,c⟩=>?_) k Z;let#[j,e,c,l,q]:=c;subst e;cases m with|cons r rr=>cases rr;let#[t,rfl]:=r;show call_range_1<|vM d () () c l<|by simpa using q
theorem mL{a b:Expr}{p:Pos}(l:Gl X "range")(m:X.mg "range"=none)(k:PA X [a,b] ta)(n:starEach [a,b] X.env=[(false,eval a X.env),(false,eval b X.env)]:=by rfl)(c:starEach [b] X.env=[(false,eval b X.env)]:=by rfl):
  PI X tg (.Call (.Name "range" p) [a,b] [] pos) (Av ta):=by
 intro d s x H R I h;show Call_ (fW I l m boot_range (Ċ (bH (k pos d s x H _ I h) λB z ⟨C,y,g,w,f⟩=>?_) (by rw[n,c]) (by rw[c];rfl)));let#[i,j,e,#[f,o,u,v],q]:=f;subst e;cases w with|cons r rr=>cases rr with|cons r' rr=>cases rr;let#[t,rfl]:=r;let#[A,rfl]:=r';show call_range_2<|vM g f o u v q
def cH(wi:TI)(g:TG)(tb:TS):TS:=λD σ H=>wi σ H λJ H1=>∃W:Nat->Nat->St->Hp->Prop,(∃m,W 0 m σ H1)/\∀i m σ H,W i m σ H->(J.stop i H/\D.nx σ H)\/(J.go i H/\∃N:St->Hp->Prop,(∀σ' H',N σ' H'->∃m',m'<m/\W (i+1) m' σ' H')/\∀x H',J.yld i H x H'->g x σ H' λσ2 H2=>tb {D with nx:=N,ct:=N,bk:=D.nx} σ2 H2)
noncomputable def pq(fp:ϊ ό)(h:ϒ):Ϸ:=fp.filterMap λb=>(h.get? b).map λo=>(b,o)
theorem j9(a:b∈fp)(e:h.get? b=!o):(b,o)∈pq fp h:=é.mpr #[b,a,by rw[e];rfl]
theorem De(d:p∈pq fp h):p.1∈fp/\h.get? p.1=!p.2:=by
 let#[b,c,e]:=é.mp d;cases q:h.get? b with
 |none=>rw[q]at e;cases e|some o=>rw[q]at e;have a:(b,o)=p:=Ý e;subst a;show#[c,q]
theorem Inv.pinned(I:Inv X gE σ H s)(i:∀b∈fp,oh X gE H b)(j:∀b∈fp,∃o,s.heap.get? b=!o/\∀v,o.data≠.cell v):Inv X (gE++pq fp s.heap) σ H s:=I.pins_of λp k=>(Æ.mp k).elim (λz=>I.pin p<|ß _ z) λz=>by let#[c,e]:=De z;let#[f,g,h,_]:=i p.1 c;let#[o,a,d]:=j p.1 c;rw[e]at a;cases a;show#[e,f,g,h,d]
theorem Inv.unpinned{b:Ϸ}(I:Inv X (gE++b) σ H s):Inv X gE σ H s:=I.pins_of λp a=>I.pin p<|ß _<|ç _ a
theorem Ua{g:TG}(F:PassesOwn (model X.prog X.w) X.A X.env X.xe)(hc:X.calm=true)(hi:PI X tg q wi)(hg:PG X tg g)(p:PSs X body tb)(hs:∀x,foldedSetIterable q X.env x=pure x:=by intro _;rfl):PS X (.For tg q body [] pos) (cH wi g tb):=by
 intro a s σ H D I h;show wpAny_For (bH (hi a s σ H _ I h) λv s1 h1=>bH h1 λab s2 h2=>?_) hs;let#[it,C,tn,J,H2,e,I2,T,S,f2,W,#[m0,w0],L]:=h2;subst e;have t:∀{z:Hp},(∀b∈C,z b=none)->∀b∈C,oh X a z b:=λhn b p=>#[hn b p,(f2 b p).2];show codeAny_forLoop_any (λn s'=>∃i w z,Inv X a w z s'/\tn i s'.heap/\(∀b∈C,z b=none)/\W i n w z) ?_ m0 #[0,σ,H2,I2,S,λb p=>(f2 b p).1,w0];rintro n s3 ⟨i,y,M,zz,K,E,w3⟩;rcases L i n y M w3 with⟨stop,qn⟩|⟨go,N,hN,step⟩;.show Ş F<|bH (T.done X Z Z Z hc i a s3 y M X.xe zz (t E) K stop) λr s4 ob=>?_;let#[Q,I4]:=ob;subst Q;show wpAny_execs_nil #[y,M,I4,qn]
 .show Ş F<|bH (T.item X Z Z Z hc i a s3 y M X.xe zz (t E) K go) λr s4 ob=>?_;let#[u,Q,h4]:=ob;subst Q;show Ş F<|bH h4 λ_ s5 ob=>?_;let#[x,Y,I5,r5,y5,B,P]:=ob;have O:=I5.pinned (t P)<|T.obj _ _ B;show Ş F<|bH (hg _ s5 y Y x u _ O r5<|step x Y y5) λ_ s6 ob=>?_;let#[U,H6,I6,q6]:=ob;show Ş F<|bH (p _ s6 U H6 _ I6 q6) λf R A=>?_;have l:∀{c:St}{j:Hp},Inv X (a++pq C s5.heap) c j R->N c j->∃m,m<n/\∃i w z,Inv X a w z R/\tn i R.heap/\(∀b∈C,z b=none)/\W i m w z:=λ{c j} k G=>by let#[m',hm,w7]:=hN c j G;show#[m',hm,i+1,c,j,k.unpinned,T.keep _ _ _ B λb p o e=>(k.pin (b,o)<|ß _<|ß _<|j9 p e).1,λb p=>?_,w7];let#[o,e,d]:=T.obj _ _ B b p;show(k.pin (b,o)<|ß _<|ß _<|j9 p e).2.1
  cases f with
  |next=>let#[c,j,k,G]:=A;show l k G|cont=>let#[c,j,k,G]:=A;show l k G|brk=>let#[c,j,k,A]:=A;show#[c,j,k.unpinned,A]|ret v=>let#[x7,c,j,k,r7,A]:=A;show#[x7,c,j,k.unpinned,r7,A]
end
theorem FP{K:Ϗ}{xs:ϊ V}{g:TG}{D:Ends}(b:Nat->St->Hp->Prop)(f:b 0 σ H)(k:∀i σ H,i<=↑xs->b i σ H->SqL K H a xs)(l:∀i x σ H,xs[i]?=!x->b i σ H->g x σ H λc H2=>tb {D with nx:=b<|i+1,ct:=b<|i+1,bk:=D.nx} c H2) (h:∀σ H,b ↑xs σ H->D.nx σ H):∃W:Nat->Nat->St->Hp->Prop,(∃m,W 0 m σ H)/\∀i m σ H,W i m σ H->((O6 K a).stop i H/\D.nx σ H)\/((O6 K a).go i H/\∃N:St->Hp->Prop,(∀σ' H',N σ' H'->∃m',m'<m/\W (i+1) m' σ' H')/\∀x H',(O6 K a).yld i H x H'->g x σ H' λc H2=>tb {D with nx:=N,ct:=N,bk:=D.nx} c H2):=by
 show#[λi m σ H=>m=↑xs-i/\i<=↑xs/\b i σ H,#[↑xs,by simp,ä _,f],?_];rintro i m σ H ⟨rfl,j,p⟩;have q:=k i σ H j p;by_cases d:i<↑xs;.show .inr #[#[xs,xs[i],q,by simp[d]],b<|i+1,λσ' H' n=>#[xs.length-(i+1),(),Z,d,n],λx H' y=>?_];let#[e,y]:=y;subst e;show l i x σ _ (y xs q) p
 .have e:i=↑xs:=();subst e;show .inl #[#[xs,q,Ã _],h σ H p]
theorem O8{K:Ϗ}{xs:ϊ V}{g:TG}{D:Ends}(b:Nat->St->Hp->Prop)(f:b 0 σ H)(k:∀i σ H,i<=↑xs->b i σ H->SqT K H a xs)(l:∀i x σ H,xs[i]?=!x->b i σ H->g x σ H λc H2=>tb {D with nx:=b<|i+1,ct:=b<|i+1,bk:=D.nx} c H2) (h:∀σ H,b ↑xs σ H->D.nx σ H):∃W:Nat->Nat->St->Hp->Prop,(∃m,W 0 m σ H)/\∀i m σ H,W i m σ H->((XF K a).stop i H/\D.nx σ H)\/((XF K a).go i H/\∃N:St->Hp->Prop,(∀σ' H',N σ' H'->∃m',m'<m/\W (i+1) m' σ' H')/\∀x H',(XF K a).yld i H x H'->g x σ H' λc H2=>tb {D with nx:=N,ct:=N,bk:=D.nx} c H2):=by
 show#[λi m σ H=>m=↑xs-i/\i<=↑xs/\b i σ H,#[↑xs,by simp,ä _,f],?_];rintro i m σ H ⟨rfl,j,p⟩;have q:=k i σ H j p;by_cases d:i<↑xs;.show .inr #[#[xs,xs[i],q,by simp[d]],b<|i+1,λσ' H' n=>#[xs.length-(i+1),(),Z,d,n],λx H' y=>?_];let#[e,y]:=y;subst e;show l i x σ _ (y xs q) p
 .have e:i=↑xs:=();subst e;show .inl #[#[xs,q,Ã _],h σ H p]
theorem rB{lo:Int}{g:TG}{D:Ends}(a:Nat->St->Hp->Prop)(d:a 0 σ H)(h:∀i σ H,i<n->a i σ H->g (.int<|lo+i) σ H λc H2=>tb {D with nx:=a<|i+1,ct:=a<|i+1,bk:=D.nx} c H2) (f:∀σ H,a n σ H->D.nx σ H):∃W:Nat->Nat->St->Hp->Prop,(∃m,W 0 m σ H)/\∀i m σ H,W i m σ H->((yu lo n).stop i H/\D.nx σ H)\/((yu lo n).go i H/\∃N:St->Hp->Prop,(∀σ' H',N σ' H'->∃m',m'<m/\W (i+1) m' σ' H')/\∀x H',(yu lo n).yld i H x H'->g x σ H' λc H2=>tb {D with nx:=N,ct:=N,bk:=D.nx} c H2):=by
 show#[λi m σ H=>m=n-i/\i<=n/\a i σ H,#[n,by simp,ä _,d],?_];rintro i m σ H ⟨rfl,k,p⟩;by_cases b:i<n;.show .inr #[b,a<|i+1,λσ' H' j=>#[n-(i+1),(),Z,b,j],λx H' y=>?_];let#[e,y]:=y;subst e y;show h i σ _ b p
 .have e:i=n:=();subst e;show .inl #[Nat.le_refl _,f σ H p]
theorem vN{c:TT}(a:St->Hp->Prop)(e:St->Hp->Nat)(g:a σ H)(h:∀σ H,a σ H->c σ H λb H1=>if b=true then tb {D with nx:=λσ' H'=>a σ' H'/\e σ' H'<e σ H,ct:=λσ' H'=>a σ' H'/\e σ' H'<e σ H,bk:=D.nx} σ H1 else D.nx σ H1)(d:∀σ H Q f,(∀b H1,Q b H1->f b H1)->c σ H Q->c σ H f):fZ c tb D σ H:=by show#[λm σ H=>m=e σ H/\a σ H,#[_,Z,g],?_];rintro m σ H ⟨rfl,p⟩;show d σ H _ _ (λb H1 q=>?_)<|h σ H p;cases b with
 |true=>show#[_,λσ' H' ⟨i,l⟩=>#[_,l,Z,i],q]|false=>show q
abbrev R2:=V->V->Hp->VK->Prop
variable{r r':R2}
def jw(X:Cx)(f:ϋ->ϋ->Sem ϋ)(r:R2):Prop:=∀(gE:Ϸ)(s:ώ)(σ:St)(H:Hp)(x y:V)(v u:ϋ)(Q:VK),Inv X gE σ H s->RelV x v->RelV y u->r x y H Q->wpAny (model X.prog X.w) X.A (f v u) (EP X gE σ Q) X.xe s
def UnR(X:Cx)(f:ϋ->Sem ϋ)(r:V->Hp->VK->Prop):Prop:=∀(gE:Ϸ)(s:ώ)(σ:St)(H:Hp)(x:V)(v:ϋ)(Q:VK),Inv X gE σ H s->RelV x v->r x H Q->wpAny (model X.prog X.w) X.A (f v) (EP X gE σ Q) X.xe s
def bV(X:Cx)(f:ϋ)(r:ϊ V->Hp->VK->Prop):Prop:=∀(gE:Ϸ)(s:ώ)(σ:St)(H:Hp)(xs:ϊ V)(us:ϊ ϋ)(Q:VK),Inv X gE σ H s->Vals xs us->r xs H Q->wpAny (model X.prog X.w) X.A (call f us) (EP X gE σ Q) X.xe s
def a0i(X:Cx)(r:V->Hp->(ϑ->Hp->Prop)->Prop):Prop:=∀(gE:Ϸ)(s:ώ)(σ:St)(H:Hp)(x:V)(v:ϋ)(Q:ϑ->Hp->Prop),Inv X gE σ H s->RelV x v->r x H Q->wpAny (model X.prog X.w) X.A (truthy v) (TP X gE σ Q) X.xe s
abbrev aM(r:R2)(ta tb:TE):TE:=λσ H Q=>ta σ H λx H1=>tb σ H1 λy H2=>r x y H2 Q
abbrev Aw(r:V->Hp->VK->Prop)(ta:TE):TE:=λσ H Q=>ta σ H λx H1=>r x H1 Q
def rI(C:Int->Int->Prop)(g:Int->Int->V):R2:=λx y H Q=>∃i j,x=.int i/\y=.int j/\C i j/\Q (g i j) H
def u5(g:Int->Int->V):R2:=λx y H Q=>∃i j,x=.int i/\y=.int j/\Q (g i j) H
def rU(g:Int->V):V->Hp->VK->Prop:=λx H Q=>∃i,x=.int i/\Q (g i) H
section
variable{X:Cx}{a b c:Expr}{ta tb tc:TE}{pos:Pos}
theorem Ub(g:PE X a ta)(i:PE X b tb){s:ώ}(I:Inv X gE σ H s)(h:ta σ H λx H1=>tb σ H1 λy H2=>R x y H2)(j:∀v u c x y H2,Inv X gE σ H2 c->RelV x v->RelV y u->R x y H2->wpAny (model X.prog X.w) X.A (f v u) Q X.xe c):wpAny (model X.prog X.w) X.A (eval a X.env) (λv s₁=>wpAny (model X.prog X.w) X.A (eval b X.env) (λu s₂=>wpAny (model X.prog X.w) X.A (f v u) Q X.xe s₂) X.xe s₁) X.xe s:=by show bH (g gE s σ H _ I h) λv o ob=>?_;let#[x,H1,d,m,k]:=ob;show bH (i gE o σ H1 _ d k) λu c ob=>?_;let#[y,H2,e,n,l]:=ob;show j v u c x y H2 e m n l
theorem aB{d:Operator}(j:jw X (binaryOp d) r)(g:PE X a ta)(i:PE X b tb):PE X (.BinOp a d b pos) (aM r ta tb):=by intro c s n H Q I h;show wpAny_BinOp<|Ub g i I h λv u m x y e f k l q=>j c m n e x y v u Q f k l q
theorem iC{c:UnaryOp}{r:V->Hp->VK->Prop}(i:UnR X (unaryOp c) r)(g:PE X a ta):PE X (.UnaryOp c a pos) (Aw r ta):=by intro b s d H Q I h;show UnaryOp_<|bH (g b s d H _ I h) λv l ob=>?_;let#[x,e,f,k,j]:=ob;show i b l d e x v Q f k j
theorem opI (a:∀(i j:Int)(t u:Tok)(s:ώ)(Q:϶)(E:϶),C i j->Q (.int (g i j) s.toks) {s with toks:=s.toks+1}->wpAny (model X.prog X.w) X.A (f (.int i t)<|.int j u) Q E s):jw X f (rI C λi j=>.int<|g i j):=by intro b s l H x y v u Q I d e h;let#[i,j,rfl,rfl,c,q]:=h;let#[t,rfl]:=d;let#[k,rfl]:=e;show a i j t k s _ _ c #[.int<|g i j,H,I.tok _,#[_,Z],q]
theorem O9 (a:∀(i j:Int)(t u:Tok)(s:ώ)(Q:϶)(E:϶),Q (.int (g i j) s.toks) {s with toks:=s.toks+1}->wpAny (model X.prog X.w) X.A (f (.int i t)<|.int j u) Q E s):jw X f (u5 λi j=>.int<|g i j):=by intro b s k H x y v u Q I c d h;let#[i,j,rfl,rfl,q]:=h;let#[t,rfl]:=c;let#[e,rfl]:=d;show a i j t e s _ _ #[.int<|g i j,H,I.tok _,#[_,Z],q]
theorem Oa{g:Int->Int->ϑ}(a:∀(i j:Int)(t u:Tok)(s:ώ)(Q:϶)(E:϶),Q (.bool<|g i j) s->wpAny (model X.prog X.w) X.A (f (.int i t)<|.int j u) Q E s):jw X f (u5 λi j=>.bl<|g i j):=by intro b s k H x y v u Q I c d h;let#[i,j,rfl,rfl,q]:=h;let#[t,rfl]:=c;let#[e,rfl]:=d;show a i j t e s _ _ #[.bl<|g i j,H,I,Z,q]
def Y9(i j:Int):Prop:=0<j/\j<1073741824
def Yb(i j:Int):Prop:=0<=j/\j<=1000000/\i.natAbs<2^64
def CMul(i j:Int):Prop:=(-(2^64)<i/\i<2^64)\/(-(2^64)<j/\j<2^64)
theorem CMul.ok{i j:Int}(h:CMul i j):IntMulOk i j:=by
 rcases h with⟨h1,h2⟩|⟨h1,h2⟩;.show .of_left<|intBits_le_64 h1 h2
 .show .of_right<|intBits_le_64 h1 h2
def aQ:jw X (binaryOp .Add) (u5 λi j=>.int<|i+j):=O9 λ_ _ _ _ _ _ _ q=>add_int q
def mO:jw X (binaryOp .Sub) (u5 λi j=>.int<|i-j):=O9 λ_ _ _ _ _ _ _ q=>sub_int q
theorem eO:jw X (binaryOp .Mult) (rI CMul λi j=>.int<|i*j):=opI λ_ _ _ _ _ _ _ a q=>mul_int q a.ok
theorem oN:jw X (binaryOp .FloorDiv) (rI Y9 λi j=>.int<|i/j):=opI λi j _ _ _ _ _ a q=>by have b:(0:Int)<j:=a.1;have c:j<1073741824:=a.2;show floordiv_int () (by rw[Int.fdiv_eq_ediv_of_nonneg i ()];show q)<|.inl<|PyProof.noPylong_small ()
theorem aZ:jw X (binaryOp .Mod) (rI (λ_ j=>0<j) λi j=>.int<|i%j):=opI λi j _ _ _ _ _ a q=>by have b:(0:Int)<j:=a;show mod_int' ()<|by rw[Int.fmod_eq_emod_of_nonneg i ()];show q
theorem FQ:jw X (binaryOp .LShift) (rI Yb λi j=>.int<|i*2^j.toNat):=opI λ_ _ _ _ _ _ _ a q=>lshift_int_small a.1 a.2.1 a.2.2 q
def Uc:jw X (binaryOp .BitAnd) (u5 λi j=>.int<|Builtin.bitAnd i j):=O9 λ_ _ _ _ _ _ _ q=>and_int q
def FT:jw X (binaryOp .BitXor) (u5 λi j=>.int<|Builtin.bitXor i j):=O9 λ_ _ _ _ _ _ _ q=>xor_int q
theorem unI{f:ϋ->Sem ϋ}{g:Int->Int}(a:∀(i:Int)(t:Tok)(s:ώ)(Q:϶)(E:϶),Q (.int (g i) s.toks) {s with toks:=s.toks+1}->wpAny (model X.prog X.w) X.A (f<|.int i t) Q E s):UnR X f (rU λi=>.int<|g i):=by intro b s d H x v Q I c h;let#[i,rfl,q]:=h;let#[t,rfl]:=c;show a i t s _ _ #[.int<|g i,H,I.tok _,#[_,Z],q]
def fD:UnR X (unaryOp .USub) (rU λi=>.int<|-i):=unI λ_ _ _ _ _ q=>neg_int q
end
noncomputable def Ob:V->V->ϑ
 |.non,.non=>true|.non,.int _=>true|.int _,.non=>true|.non,.bl _=>true|.bl _,.non=>true|.non,.str _=>true|.str _,.non=>true|.int _,.int _=>true|.bl _,.bl _=>true|.str _,.str _=>true|.byt _,.byt _=>true|.int _,.str _=>true|.str _,.int _=>true|.bl _,.str _=>true|.str _,.bl _=>true|_,_=>false
def ou:R2:=λx y H Q=>Ob x y=true/\Q (.bl<|decide<|x=y) H
def Rq:R2:=λx y H Q=>Ob x y=true/\Q (.bl<|not (decide<|x=y)) H
theorem Ax{i j:Int}:decide (V.int i=V.int j)=(i==j):=by rw[Bool.eq_iff_iff];simp
theorem FW{i j:ϑ}:decide (V.bl i=V.bl j)=(i==j):=by rw[Bool.eq_iff_iff];simp
theorem Ay{i j:ϐ}:decide (V.str i=V.str j)=(i==j):=by rw[Bool.eq_iff_iff];simp
theorem Az{i j:ϔ UInt8}:decide (V.byt i=V.byt j)=(i.toList==j.toList):=by
 rw[Bool.eq_iff_iff];cases i;cases j;simp
section
variable{X:Cx}{a b c:Expr}{ta tb tc:TE}{pos:Pos}
theorem bj{Q:VK}{k a:ϑ}(I:Inv X gE σ H s)(q:Q (.bl k) H)(e:k=a):EP X gE σ Q (.bool a) s:=by subst e;show#[.bl k,H,I,Z,q]
theorem dI:jw X (compareOp .Eq) ou:=by
 intro e s f H x y v u Q I d a h;let#[c,q]:=h;cases x with
 |non=>
  cases d;cases y with
  |non=>cases a;show PySem.EqNone.eq_none_none (bj I q<|by simp)|bl j=>cases a;show PySem.EqNone.eq_none_bool (bj I q<|by simp)|int j=>let#[b,rfl]:=a;show PySem.EqNone.eq_none_int (bj I q<|by simp)|str j=>let#[b,rfl]:=a;show PySem.EqNone.eq_none_str (bj I q<|by simp)|_=>show μ (show false=true from c) Ï
 |bl i=>
  cases d;cases y with|non=>cases a;show PySem.EqNone.eq_bool_none (bj I q<|by simp)|bl j=>cases a;show eq_bool (bj I q FW)|str j=>let#[b,rfl]:=a;show PySem.EqMixed.eq_bool_str (bj I q<|by simp)|_=>show μ (show false=true from c) Ï
 |int i=>
  let#[t,rfl]:=d;cases y with
  |non=>cases a;show PySem.EqNone.eq_int_none (bj I q<|by simp)|int j=>let#[b,rfl]:=a;show eq_int (bj I q Ax)|str j=>let#[b,rfl]:=a;show PySem.EqMixed.eq_int_str (bj I q<|by simp)|_=>show μ (show false=true from c) Ï
 |str i=>let#[t,rfl]:=d;cases y with
  |non=>cases a;show PySem.EqNone.eq_str_none (bj I q<|by simp)|bl j=>cases a;show PySem.EqMixed.eq_str_bool (bj I q<|by simp)|int j=>let#[b,rfl]:=a;show PySem.EqMixed.eq_str_int (bj I q<|by simp)|str j=>let#[b,rfl]:=a;show eq_str (bj I q Ay)|_=>show μ (show false=true from c) Ï
 |byt i=>
  let#[t,rfl]:=d;cases y with
  |byt j=>let#[b,rfl]:=a;show PySem.W.eq_bytes (bj I q Az)|_=>show μ (show false=true from c) Ï
 |_=>cases y<;>show μ (show false=true from c) Ï
theorem vO:jw X (compareOp .NotEq) Rq:=by
 intro e s f H x y v u Q I d a h;let#[c,q]:=h;cases x with
 |non=>
  cases d;cases y with
  |non=>cases a;show PySem.EqNone.ne_none_none (bj I q<|by simp)|bl j=>cases a;show PySem.EqNone.ne_none_bool (bj I q<|by simp)|int j=>let#[b,rfl]:=a;show PySem.EqNone.ne_none_int (bj I q<|by simp)|str j=>let#[b,rfl]:=a;show PySem.EqNone.ne_none_str (bj I q<|by simp)|_=>show μ (show false=true from c) Ï
 |bl i=>
  cases d;cases y with|non=>cases a;show PySem.EqNone.ne_bool_none (bj I q<|by simp)|bl j=>cases a;show ne_bool (bj I q<|Ö not FW)|str j=>let#[b,rfl]:=a;show PySem.EqMixed.ne_bool_str (bj I q<|by simp)|_=>show μ (show false=true from c) Ï
 |int i=>
  let#[t,rfl]:=d;cases y with
  |non=>cases a;show PySem.EqNone.ne_int_none (bj I q<|by simp)|int j=>let#[b,rfl]:=a;show ne_int (bj I q<|Ö not Ax)|str j=>let#[b,rfl]:=a;show PySem.EqMixed.ne_int_str (bj I q<|by simp)|_=>show μ (show false=true from c) Ï
 |str i=>let#[t,rfl]:=d;cases y with
  |non=>cases a;show PySem.EqNone.ne_str_none (bj I q<|by simp)|bl j=>cases a;show PySem.EqMixed.ne_str_bool (bj I q<|by simp)|int j=>let#[b,rfl]:=a;show PySem.EqMixed.ne_str_int (bj I q<|by simp)|str j=>let#[b,rfl]:=a;show ne_str (bj I q<|Ö not Ay)|_=>show μ (show false=true from c) Ï
 |byt i=>
  let#[t,rfl]:=d;cases y with
  |byt j=>let#[b,rfl]:=a;show PySem.W.ne_bytes (bj I q<|Ö not Az)|_=>show μ (show false=true from c) Ï
 |_=>cases y<;>show μ (show false=true from c) Ï
def jm:jw X (compareOp .Lt) (u5 λi j=>.bl<|decide<|i<j):=Oa λ_ _ _ _ _ _ _ q=>lt_int q
def gP:jw X (compareOp .LtE) (u5 λi j=>.bl<|decide<|i<=j):=Oa λ_ _ _ _ _ _ _ q=>le_int q
def gm:jw X (compareOp .Gt) (u5 λi j=>.bl<|decide<|j<i):=Oa λ_ _ _ _ _ _ _ q=>gt_int q
def Rr:jw X (compareOp .GtE) (u5 λi j=>.bl<|decide<|j<=i):=Oa λ_ _ _ _ _ _ _ q=>ge_int q
theorem gb:jw X (compareOp .Is) (λx y H Q=>y=.non/\Q (.bl<|decide<|x=.non) H):=by
 intro a s d H x y v u Q I b c h;let#[rfl,q]:=h;cases c;show is_none_gen<|bj I q ?_;cases x<;>first
  |(cases b;rfl)|(let#[t,rfl]:=b;rfl)
theorem jQ:jw X (compareOp .IsNot) (λx y H Q=>y=.non/\Q (.bl<|not (decide<|x=.non)) H):=by
 intro a s d H x y v u Q I b c h;let#[rfl,q]:=h;cases c;show isnot_none_gen<|bj I q ?_;cases x<;>first
  |(cases b;rfl)|(let#[t,rfl]:=b;rfl)
theorem aG(b:Expr)(h:op≠.In:=by decide)(d:op≠.NotIn:=by decide):behindInMarks op b=false:=by
 have a:(op==CmpOp.In)=false:=by cases op<;>first|rfl|show μ Z h
 have c:(op==CmpOp.NotIn)=false:=by cases op<;>first|rfl|show μ Z d
 cases b<;>simp[behindInMarks,a,c]
theorem cW(j:jw X (compareOp op) r)(f:PE X a ta)(g:PE X b tb)(i:behindInMarks op b=false):PE X (.Compare a [op] [b] pos) (aM r ta tb):=by intro c s n H Q I h;show wpAny_Compare1 (Ub f g I h λv u m x y d e k l q=>j c m n d x y v u Q e k l q) i
abbrev aN(t:TE):TT:=λσ H Q=>t σ H λx H'=>∃k,x=.bl k/\Q k H'
theorem aD(t:jw X (compareOp op) r)(o:PE X a ta)(p:PE X b tb)(q:behindInMarks op b=false):PT X (.Compare a [op] [b] pos) (aN<|aM r ta tb):=by
 intro d s f H Q I h;show wpAny_isTrue_Compare1 (bH (o d s f H _ I h) λv F ⟨x,g,l,C,w⟩=>bH (p d F f g _ l w) λu G ⟨y,i,m,D,A⟩=>bH (t d G f i x y v u _ m C D A) λc J ⟨z,j,n,E,k,e,B⟩=>?_) q;subst e;cases E;show Ė #[j,n,B]
def il(r r':R2)(ta tb tc:TE):TE:=λσ H Q=>ta σ H λx H1=>tb σ H1 λy H2=>r x y H2 λz H3=>∃k,z=.bl k/\(if k=true then tc σ H3 λw' H4=>r' y w' H4 Q else Q (.bl false) H3)
theorem vP(F:jw X (compareOp op) r)(i:jw X (compareOp op') r')(B:PE X a ta)(C:PE X b tb)(D:PE X c tc)(E:lastMarks [op,op'] [b,c]=false:=by with_unfolding_all rfl):PE X (.Compare a [op,op'] [b,c] pos) (il r r' ta tb tc):=by
 intro f s g H Q I h;show Compare_chain (bH (B f s g H _ I h) λv O ⟨x,o,t,L,G⟩=>chain_link<|bH (C f O g o _ t G) λu P ⟨y,p,w,n,J⟩=>bH (F f P g p x y v u _ w L n J) λd R ⟨z,j,l,M,k,e,m⟩=>?_) E;subst e;cases M;show Ė ?_;cases k with
 |false=>show ite_ff #[.bl false,j,l,Z,m]|true=>show ite_tt<|chain_last<|bH (D f R g j _ l m) λT S ⟨U,q,A,N,K⟩=>i f S g q y U u T Q A n N K
theorem jz(L:jw X (compareOp op) r)(i:jw X (compareOp op') r')(F:PE X a ta)(G:PE X b tb)(J:PE X c tc)(K:lastMarks [op,op'] [b,c]=false:=by with_unfolding_all rfl):PT X (.Compare a [op,op'] [b,c] pos) (aN<|il r r' ta tb tc):=by
 intro f s g H Q I h;show isTrue_chain (bH (F f s g H _ I h) λv Y ⟨x,o,w,S,N⟩=>test_link<|bH (G f Y g o _ w N) λu zz ⟨y,p,A,n,O⟩=>bH (L f zz g p x y v u _ A S n O) λd s3 ⟨z,j,l,T,k,e,m⟩=>?_) K;subst e;cases T;show Ė ?_;cases k with
 |false=>
  let#[k',D,M]:=m
  cases D;show ite_ff #[j,l,M]
 |true=>
  show ite_tt<|test_last<|bH (J f s3 g j _ l m) λw' s4 ob=>?_;let#[z',q,B,U,P]:=ob;show bH (i f s4 g q y z' u w' _ B n U P) λd' s5 ob=>?_;let#[z2,t,C,W,k2,E,R]:=ob;subst E;cases W;show Ė #[t,C,R]
def Oc(K:Ϗ)(x:V)(H:Hp)(k:ϑ):Prop:=
 match x with
 |.non=>k=false|.bl b=>k=b
 |.int i=>k=(i !=0)|.str y=>↑y<=sizeLine/\k=((↑y:Int)!=0)
 |.byt y=>y.size<=sizeLine/\k=((y.size:Int)!=0)|.ref p=>(∃xs,SqL K H p xs/\k=not xs.isEmpty)\/(∃xs,SqT K H p xs/\k=not xs.isEmpty)\/∃kvs,H p=!(.dK kvs)/\k=not kvs.isEmpty|_=>False
theorem yC{c:Type}{a:ϊ<|c×V}{b:ϊ<|c×ϋ}(r:KV a b):(not b.isEmpty)=not a.isEmpty:=by cases r<;>rfl
theorem pA{a:ϊ V}(r:Vals a its):(not its.toArray.isEmpty)=not a.isEmpty:=by cases r<;>simp
theorem mQ:(sizeLine:Nat)<2^63:=by rw[ü];decide
theorem Ud:a0i X (λx H Q=>∃k,Oc X.K x H k/\Q k H):=by
 intro u s C H x v Q I g h;let#[k,e,q]:=h;have A:=mQ;have B:sizeLine=16777216:=ü;cases x with|non=>cases g;have a:k=false:=e;subst a;show truthy_none #[H,I,q]|bl b=>cases g;have a:k=b:=e;subst a;show Ė #[H,I,q]|int i=>let#[t,rfl]:=g;have a:k=(i !=0):=e;subst a;show PySem.P.truthy_int #[H,I,q]|str y=>let#[t,rfl]:=g;let#[z,a]:↑y<=sizeLine/\k=((↑y:Int)!=0):=e;subst a;show PySem.P.truthy_str () #[H,I.tok _,q]|byt y=>let#[t,rfl]:=g;let#[z,a]:y.size<=sizeLine/\k=((y.size:Int)!=0):=e;subst a;show PySem.W.truthy_bytes () #[H,I.tok _,q]|ref p=>
  cases g;have a:(∃f,SqL X.K H p f/\k=not f.isEmpty)\/(∃f,SqT X.K H p f/\k=not f.isEmpty)\/∃c,H p=!(.dK c)/\k=not c.isEmpty:=e;rcases a with⟨f,hx,a⟩|⟨f,hx,a⟩|⟨c,hx,a⟩;.subst a;let#[l,r,n,o]:=I.list hx;have d:=↑r;show wpAny_truthy_list n.isList (by simp-iota only[Ù];rfl') #[H,I.tok _,by rw[pA r];show q]
  .subst a;let#[l,r,n,o]:=I.tuple hx;have d:=↑r;show truthy_tuple n (by simp-iota only[Ù];rfl') #[H,I.tok _,by rw[pA r];show q]
  .subst a;let#[o,w,j,r,m]:↑c<=sizeLine/\(p==sysModules)=false/\∃j,KV c j/\s.heap.DictOf (bI X.prog X.w) p j:=I.hok p _ hx;have d:↑c=↑j:=ħ r;show wpAny_truthy_dict w m () #[H,I.tok _,by rw[yC r];show q]|_=>show(show False from e).elim
theorem FZ(f:PE X a ta)(g:∀b,isTrue a X.env b=(do let v<-b;standAt a.pos;holding [v]<|truthy v)):PT X a (λσ H Q=>ta σ H λx H'=>∃k,Oc X.K x H' k/\Q k H'):=by intro c s σ H Q I h;show isTrue_plain (bH (f c s σ H _ I h) λv l ⟨x,d,e,j,i⟩=>Ud c l σ d x v Q e j i)<|g _
theorem du:jw X (binaryOp .Add) (λx y H Q=>∃i j,x=.str i/\y=.str j/\↑i+↑j<=sizeLine/\Q (.str<|i++j) H):=by intro a s g H x y v u Q I c d h;let#[i,j,rfl,rfl,b,q]:=h;let#[t,rfl]:=c;let#[e,rfl]:=d;show add_str (λe f=>#[.str<|i++j,H,I.tok _,#[_,Z],q]) b
theorem vals1{x:V}{a:ϊ ϋ}(r:Vals [x] a):∃u,a=[u]/\RelV x u:=by cases r with|cons r1 r2=>cases r2;show#[_,Z,r1]
theorem vals2{x:V}{a:ϊ ϋ}(r:Vals [x,y] a):∃u b,a=[u,b]/\RelV x u/\RelV y b:=by cases r with|cons r1 r2=>cases r2 with|cons r3 r4=>cases r4;show#[_,_,Z,r1,r3]
theorem rC(c:X.calm=true):bV X (.builtin "max") (λxs H Q=>∃i j,xs=[.int i,.int j]/\Q (.int<|if j>i then j else i) H):=by
 intro b s m H xs g Q I r h;let#[i,j,rfl,q]:=h;let#[u,l,rfl,#[t,rfl],#[e,rfl]]:=vals2 r;show max_two_ints (I.ok.hd c) λd f k=>#[_,H,I.kept k,?_,q];by_cases a:j>i;.rw [β a,β a];show#[_,Z]
 .rw [γ a,γ a];show#[_,Z]
theorem jR(c:X.calm=true):bV X (.builtin "min") (λxs H Q=>∃i j,xs=[.int i,.int j]/\Q (.int<|if j<i then j else i) H):=by
 intro b s m H xs g Q I r h;let#[i,j,rfl,q]:=h;let#[u,l,rfl,#[t,rfl],#[e,rfl]]:=vals2 r;show min_two_ints (I.ok.hd c) λd f k=>#[_,H,I.kept k,?_,q];by_cases a:j<i;.rw [β a,β a];show#[_,Z]
 .rw [γ a,γ a];show#[_,Z]
theorem rD:bV X (.type "int") (λxs H Q=>(∃i,xs=[.int i]/\Q (.int i) H)\/∃k,xs=[.bl k]/\Q (.int<|if k then 1 else 0) H):=by
 intro a s d H xs c Q I r h;rcases h with⟨i,rfl,q⟩|⟨k,rfl,q⟩;.obtain ⟨u,rfl,t,rfl⟩:=vals1 r;show call_int_int #[.int i,H,I,#[_,Z],q]
 .obtain ⟨u,rfl,b⟩:=vals1 r;cases b;show call_int_bool #[.int<|if k then 1 else 0,H,I.tok _,#[_,Z],q]
theorem G3:bV X (.builtin "ord") (λxs H Q=>∃x,xs=[.str x]/\↑x=1/\Q (.int (x.cps.getD 0 0:Nat)) H):=by intro a s d H xs c Q I r h;let#[x,rfl,b,q]:=h;let#[u,rfl,t,rfl]:=vals1 r;show ord_of_one b #[.int _,H,I.tok _,#[_,Z],q]
def Yc(K:Ϗ)(x:V)(H:Hp)(n:Nat):Prop:=
 match x with
 |.str y=>↑y<=sizeLine/\n=↑y|.byt y=>y.size<=sizeLine/\n=y.size|.ref p=>(∃xs,SqL K H p xs/\n=↑xs)\/∃xs,SqT K H p xs/\n=↑xs|_=>False
theorem G4:bV X (.builtin "len") (λxs H Q=>∃x n,xs=[x]/\Yc X.K x H n/\Q (.int n) H):=by intro i s v H xs o Q I r h;let#[x,n,rfl,e,q]:=h;let#[u,rfl,g]:=vals1 r;have l:=mQ;have m:sizeLine=16777216:=ü;cases x with
 |str y=>let#[t,rfl]:=g;let#[j,b]:↑y<=sizeLine/\n=↑y:=e;subst b;show len_str () #[.int _,H,I.tok _,#[_,Z],q]|byt y=>
  let#[t,rfl]:=g;let#[j,b]:y.size<=sizeLine/\n=y.size:=e;subst b;show PySem.W.len_bytes () #[.int _,H,I.tok _,#[_,Z],q]|ref p=>
  cases g;have b:(∃xs,SqL X.K H p xs/\n=↑xs)\/∃xs,SqT X.K H p xs/\n=↑xs:=e;rcases b with⟨xs,hx,b⟩|⟨xs,hx,b⟩;.subst b;let#[c,f,d,k]:=I.list hx;have a:=↑f;show Calls.call_len_list d.isList (by simp-iota only[Ù];rfl') #[.int ↑xs,H,I.tok _,#[_,by simp-iota only[Ù];rw[a]],q]
  .subst b;let#[c,f,d,k]:=I.tuple hx;have a:=↑f;show len_tuple d (by simp-iota only[Ù];rfl') #[.int ↑xs,H,I.tok _,#[_,by simp-iota only[Ù];rw[a]],q]|_=>show(show False from e).elim
end
structure ObjM(h:ϒ)(x dx C:ό)(mA:ϐ->ύ ϋ):Prop where
 obj:h.get? x=!(PySem.W.instObj C dx)ns:h.Ns1 dx mA
 ne:dx≠x
theorem Df{h:ϒ}(n:h.Ns1 dx mA):∃od,h.get? dx=!od/\∀name,PySem.W.lookIn name od=!(mA name):=by
 let#[o,c,l,j,f,g,_,i]:=n;show#[o,j,λname=>?_];have e:=i name;unfold nsFind findBy at e;rw[<-Array.find?_toList]at e;unfold PySem.W.lookIn;rw[f];dsimp only;split;.rename_i y q;rw[q]at e;show Ö some e
 .rename_i q;rw[q]at e;have a:c.toList.any (·.refKey)=false:=by
   rw[List.any_eq_false];intro y k;let#[z,t,b]:=g y<|Array.mem_toList_iff.mp k;simp[DictEntry.refKey,b]
  have d:¬c.toList.any (·.refKey)=true:=by rw[a];show Ï
  rw[γ d];show Ö some e
def ObjM.look{x C:ό}(I:ObjM h x dx C mA):∃od,PySem.W.InstAt h x (PySem.W.instObj C dx) C !od/\∀name,PySem.W.lookIn name od=!(mA name):=
 let⟨od,ho,hl⟩:=Df I.ns
 #[od,#[I.obj,Z,Z,ho],hl]
theorem RelO.some_of(r:RelO (!v) o):∃u,o=!u/\RelV v u:=by cases o with
 |none=>show(show False from r).elim|some u=>show#[u,Z,r]
section
variable{P:ϓ}{w:ϕ}{H:Hp}{h:ϒ}{a C dx:ό}{fs:ϊ (ϐ×V)}
theorem Od(b:HOk P w H h)(e:H a=!(.ins C dx fs)):∃mA,ObjM h a dx C mA/\(∀f,RelO (fs.lookup f)<|mA f)/\PySem.Within mA (fs.map (·.1))/\↑fs<=1000/\H dx=!(.own a):=by let#[d,z,c,ob,mA,n,r,q]:=(show ObjOk P w H h a (.ins C dx fs)from b a _ e);show#[mA,#[ob,n,c],r,q,z,d]
end
structure Cls(K:Ϗ)(C:ό):Prop where
 pg:PySem.W.plainGet K C Str.empty=true
 hd:PySem.W.hasDictIn K C=true
 po:PySem.W.plainOver K C=true
 sa:PySem.W.findIn K ↥C "__setattr__"=!(!(.builtin "object.__setattr__"))
def Cls.get{K:Ϗ}{C:ό}(c:Cls K C)(f:ϐ):PySem.W.plainGet K C f=true:=c.pg
section
variable{X:Cx}{gE:Ϸ}{σ:St}{H:Hp}{s:ώ}{A:ϖ}{E:϶}{Q:϶}{c:ϋ}{b:ϑ}
inductive TyOf(K:Ϗ)(H:Hp):V->ϋ->Prop where|non:TyOf K H .non (.type "NoneType")|bl (x:ϑ):TyOf K H (.bl x) (.type "bool")|int (i:Int):TyOf K H (.int i) (.type "int")|str (x:ϐ):TyOf K H (.str x) (.type "str")|flt (x:UInt64):TyOf K H (.flt x) (.type "float")|lst {a:ό} {xs:ϊ V} (e:H a=!(.lst xs)):TyOf K H (.ref a) (.type "list")|frz {a:ό} {o:Obj} {xs:ϊ V} (e:H a=!(.frz o (.lst xs))):TyOf K H (.ref a) (.type "list")|tup {a:ό} {xs:ϊ V} (e:H a=!(.tup xs)):TyOf K H (.ref a) (.type "tuple")|dK {a:ό} {kvs:ϊ (Key×V)} (e:H a=!(.dK kvs)):TyOf K H (.ref a) (.type "dict")|dT {a:ό} {kvs:ϊ (ϊ Key×V)} (e:H a=!(.dT kvs)):TyOf K H (.ref a) (.type "dict")|ins {a C dx:ό} {fs:ϊ (ϐ×V)} (e:H a=!(.ins C dx fs)) (cl:Cls K C) (ha:PySem.W.findIn K (.ref C) "__class__"=!(!(.builtin "object.__class__")))(hn:PySem.W.specialIn K (.builtin "object.__class__") "__get__"=!(!(.builtin "getset_descriptor.__get__"))) (htk:PySem.W.takesIn K (.builtin "object.__class__")=!true)(hm:PySem.W.mroIn K C (.type "object")=!true):TyOf K H (.ref a) (.ref C)
theorem Dg{x:V}{t:ϋ}(I:Inv X gE σ H s)(d:RelV x u)(m:TyOf X.K H x t)(e:PySem.W.kitOne X.K t c=!b)(h:∀tk,Q (.bool b) {s with toks:=tk}):wpAny (model X.prog X.w) A (call (.builtin "isinstance") [u,c]) Q E s:=by cases m with
 |non=>cases(show u=Value.none from d);show Ĝ PySem.W.kitx_none I.kIn True.intro e (λz=>nomatch z) h|bl y=>cases(show u=Value.bool y from d);show Ĝ PySem.W.kitx_bool I.kIn True.intro e (λz=>nomatch z) h|int i=>let#[t,q]:=(show∃t,u=Value.int i t from d);cases q;show Ĝ PySem.W.kitx_int I.kIn True.intro e (λz=>nomatch z) h|str y=>let#[t,q]:=(show∃t,u=Value.str y t from d);cases q;show Ĝ PySem.W.kitx_str I.kIn True.intro e (λz=>nomatch z) h|flt y=>let#[t,q]:=(show∃t,u=Value.float y t from d);cases q;show Ĝ PySem.W.kitx_float I.kIn True.intro e (λz=>nomatch z) h|@lst a g ea=>cases(show u=Value.ref a from d);let#[_,_,n,_,f]:=(show ObjOk X.prog X.w H s.heap a (.lst g)from I.hok a _ ea);show Ĝ PySem.W.kitx_list I.kIn #[_,f,Z] e (λz=>nomatch z) h|@frz a ob g ea=>cases(show u=Value.ref a from d);let#[_,_,_,n,_,f]:=(show ObjOk X.prog X.w H s.heap a (.frz ob<|.lst g)from I.hok a _ ea);show Ĝ PySem.W.kitx_list I.kIn #[_,f,Z] e (λz=>nomatch z) h|@tup a g ea=>cases(show u=Value.ref a from d);let#[_,_,_,p]:=(show ObjOk X.prog X.w H s.heap a (.tup g)from I.hok a _ ea);let#[o,f,j,_]:=p;show Ĝ PySem.W.kitx_tuple I.kIn #[o,f,j] e (λz=>nomatch z) h|@dK a kvs ea=>cases(show u=Value.ref a from d);let#[_,_,w,_,p]:=(show ObjOk X.prog X.w H s.heap a (.dK kvs)from I.hok a _ ea);let#[o,l,k,f,j,_]:=p;show Ĝ PySem.W.kitx_dict I.kIn #[o,f,j.1] e (λz=>nomatch z) h|@dT a kvs ea=>cases(show u=Value.ref a from d);let#[_,_,g,_,o,l,k,f,j,_]:=(show ObjOk X.prog X.w H s.heap a (.dT kvs)from I.hok a _ ea);show Ĝ PySem.W.kitx_dict I.kIn #[o,f,j.1] e (λz=>nomatch z) h|@ins a C dx fs ea cl ha hn htk hm=>cases(show u=Value.ref a from d);let#[r,O,_]:=Od I.hok ea;let#[v,J,_]:=O.look;show Ĝ (PySem.W.kitx_own (cl.get _) cl.hd ha hn htk hm) I.kIn J e (λz=>nomatch z) h
end
structure Room(k:Nat)(A:ϖ):Prop where
 hd:A.handled=none
 dp:A.depth+3*k+5<recursionLimit
 un:A.units+16*k+200<cLine
theorem Room.mono(r:Room k A)(h:j<=k):Room j A:=#[r.hd,by have:=r.dp;rfl',by have:=r.un;rfl']
theorem Room.deeper(r:Room (k+1) A)(a:Env):Room k (A.deeper a):=#[r.hd,by have:=r.dp;change A.depth+1+3*k+5<_;rfl',by have:=r.un;change A.units+3+16*k+200<_;rfl']
theorem Room.depth(r:Room k A):A.depth<recursionLimit:=by have:=r.dp;rfl'
theorem Room.units(r:Room k A):A.units+64<cLine:=by have:=r.un;rfl'
def gJ:TA:=λ_ H Q=>Q [] H
abbrev fP(ta:TE)(tr:TA):TA:=λσ H Q=>ta σ H λx H1=>tr σ H1 λxs H2=>Q (x::xs) H2
section
variable{X:Cx}{e:Expr}{es:ϊ Expr}{te:TE}{t:TA}{pos:Pos}
theorem dX:PA X [] gJ:=λ_ _ _ _ H Q I h=>Š #[[],H,I,.nil,h]
theorem Ba(j:PE X e te)(k:PA X es t)(l:starEach (e::es) X.env=(false,eval e X.env)::starEach es X.env:=by rfl):PA X (e::es) (fP te t):=by
 intro b a s c H Q I h;rw[l];change wpAny _ _ (spliced ((false,eval e X.env)::backTo b (starEach es X.env))) _ _ s;show Ľ (bH (j a s c H _ I h) λu q ob=>?_);let#[x,d,g,o,m]:=ob;show bH (k b a q c d _ g m) λw v ob=>?_;let#[r,f,i,p,n]:=ob;show#[x::r,f,i,.cons o p,n]
abbrev dj(t:TA):TE:=λσ H Q=>t σ H λxs H1=>↑xs<=sizeLine/\∀p,H1 p=none->Q ↥p (upd H1 p<|.tup xs)
abbrev gf(t:TA):TE:=λσ H Q=>t σ H λxs H1=>↑xs<=sizeLine/\∀p,H1 p=none->Q ↥p (upd H1 p<|.lst xs)
theorem b8{x1}(h:PA X es t):PE X (.Tuple es x1 pos) (dj t):=by intro a s l H Q I i;show wpAny_Tuple_spliced<|bH (h pos a s l H _ I i) λj c ob=>?_;let#[k,d,f,r,z,q]:=ob;show#[by rw[<-↑r];show z,?_];have g:d ⇑c=none:=f.hok.fresh<|Ã _;show#[↥⇑c,upd d ⇑c<|.tup k,f.laid (t':=c.toks) (λb u e=>Jn _ e) (Ã _) ?_,Z,q _ g];show#[z,j,r,#[_,È _ Z,Z,_,Z]]
theorem cg(h:PA X es t):PE X (.List es pos) (gf t):=by intro a s l H Q I i;show wpAny_List_spliced<|bH (h pos a s l H _ I i) λj c ob=>?_;let#[k,d,f,r,z,q]:=ob;show#[by rw[<-↑r];show z,?_];have g:d ⇑c=none:=f.hok.fresh<|Ã _;show#[↥⇑c,upd d ⇑c<|.lst k,f.laid (t':=c.toks) (λb u e=>Jn _ e) (Ã _) ?_,Z,q _ g];show#[z,j,0,r,È _ Z]
end
abbrev Sp:=ϊ V->Hp->VK->XK->Prop
abbrev G5:=ϊ Env->Hp->ώ->XK->ϋ->ώ->Prop
variable{CX:G5}
structure Env0(P:ϓ)(w:ϕ)(K:Ϗ)(mg:ϐ->ύ ϋ)(base:ϒ)(A:ϖ)(outer:ϊ Env)(s:ώ)(H:Hp):Prop where
 frames:A.frames=!outer
 mod:Mod K mg base
 bs:∀b o,base.get? b=!o->s.heap.get? b=!o/\H b=none
 bsz:base.objs.size<=⇑s
 funs:s.heap.FunFrames base outer
 frf:∀b∈frs outer,H b=none
 hok:HOk P w H s.heap
 bare:AllBare s.gens
def CE(outer:ϊ Env)(P:ϓ)(w:ϕ)(H:Hp)(s:ώ)(Q:VK)(u:ϋ)(s':ώ):Prop:=
 ∃v H',s'.os=s.os/\AllBare s'.gens/\Un (frs outer) [] H H' s.heap s'.heap/\HOk P w H' s'.heap/\RelV v u/\Q v H'
def CR(CX:G5)(outer:ϊ Env)(P:ϓ)(w:ϕ)(H:Hp)(s:ώ)(Q:VK)(E:XK)(r:Result)(s':ώ):Prop:=
 match r with
 |.ok (.ret u)=>CE outer P w H s Q u s'|.ok _=>False|.error e=>CX outer H s E e s'
structure FnOk(P:ϓ)(w:ϕ)(K:Ϗ)(mg:ϐ->ύ ϋ)(base:ϒ)(CX:G5)(k:Nat)(f:ό)(fd:FuncData)(ps:ϊ ϐ)(sp:Sp):Prop where
 len:∀vs H Q E,sp vs H Q E->↑vs=↑ps
 run:∀(A:ϖ)(outer:ϊ Env)(s:ώ)(H:Hp)(args:Args)(us:ϊ ϋ)(vs:ϊ V)(Q:VK)(E:XK),Room k A->Env0 P w K mg base A outer s H->BindsTo s fd args (ps.zip us)->Vals vs us->sp vs H Q E->codeAny (model P w) A (.call ↥f args) (CR CX outer P w H s Q E) s
section
variable{X:Cx}
def Inv.env0(I:Inv X gE σ H s):Env0 X.prog X.w X.K X.mg X.base X.A X.stack s H:=#[I.ok.frames,I.ok.mod,I.bs,Í I.ok.bsz I.sz,I.stack,I.stkFree,I.hok,I.bare]
theorem Inv.after{Q:VK}(I:Inv X gE σ H s)(h:CE X.stack X.prog X.w H s Q u s'):EP X gE σ Q u s':=by let#[v,f,j,a,k,c,r,q]:=h;let#[i,g,d,t,e]:=s';obtain rfl:e=s.os:=j;show#[v,f,I.call (h':=i) (g':=g) (d':=d) (t':=t) (ch:=[]) k c a<|λb z=>μ z<|by simp,r,q]
end
def jn(sp:Sp)(dvs:ϊ V)(E:XK)(t:TA):TE:=λσ H Q=>t σ H λvs H1=>sp (vs++dvs) H1 Q E
def Binds(K:Ϗ)(fd:FuncData)(ps:ϊ ϐ)(ds:ϊ ϋ):Prop:=∀(s:ώ)(us:ϊ ϋ),K.In s.heap->↑(us++ds)=↑ps->BindsTo s fd #[us,[]] (ps.zip<|us++ds)
theorem Binds.all{K:Ϗ}{a:ϊ ϐ}(h:∀us:ϊ ϋ,↑us=↑a->bindArgs fd #[us,[]]=pure (a.zip us)):Binds K fd a []:=λs us _ b=>by rw[û]at b⊢;show .of_eq (h us b)
def yD(CX:G5)(X:Cx)(E:XK):Prop:=∀(gE:Ϸ)(σ:St)(H:Hp)(s:ώ)(e:ϋ)(s':ώ),Inv X gE σ H s->CX X.stack H s E e s'->X.xe e s'
section
variable{X:Cx}{CX:G5}{k:Nat}{f:ό}{fd:FuncData}{ps:ϊ ϐ}{sp:Sp}{dvs:ϊ V}{ds:ϊ ϋ}{E:XK}{x m:ϐ}{p pos:Pos}{e o:Expr}{es:ϊ Expr}{t:TA}
theorem Ug{s:ώ}{Q:VK}{a:ϊ ϋ}{c:ϊ V}(F:FnOk X.prog X.w X.K X.mg X.base CX k f fd ps sp)(l:Room k X.A)(g:Binds X.K fd ps ds)(i:Vals dvs ds)(m:yD CX X E)(I:Inv X gE σ H s) (r:Vals c a) (h:sp (c++dvs) H Q E):wpAny (model X.prog X.w) X.A (call ↥f a) (EP X gE σ Q) X.xe s:=by
 have d:Vals (c++dvs) (a++ds):=r.append i;have j:↑(a++ds)=↑ps:=by rw[<-↑d];show F.len _ _ _ _ h
 show wpAny_call<|š (F.run X.A X.stack s H #[a,[]] (a++ds) (c++dvs) Q E l I.env0 (g s a I.kIn j) d h) λr n b=>?_;cases r with
 |error e=>show m gE σ H s e n I b|ok fl=>cases fl with
  |ret u=>show I.after b|next=>show False.elim b|brk=>show False.elim b|cont=>show False.elim b
theorem Bb(F:FnOk X.prog X.w X.K X.mg X.base CX k f fd ps sp)(u:Room k X.A)(m:Gl X x)(o:X.mg x=!↥f)(n:W.keepIn X.K ↥f=true)(i:Binds X.K fd ps ds)(j:Vals dvs ds)(v:yD CX X E)(g:PA X (e::es) t) (b:(x==("__debug__":ϐ))=false:=by decide) (l:starEach (e::es) X.env=(false,eval e X.env)::starEach es X.env:=by rfl) (c:(backTo pos<|starEach es X.env).any (·.1)=false:=by rfl):PE X (.Call (.Name x p) (e::es) [] pos) (jn sp dvs E t):=by intro a s w H Q I h;show ľ<|Ar I m o ?_ b;show PySem.W.callWith_K (h₀:=X.base) I.ok.mod.kin n (bH (g pos a s w H _ I h) λA z ⟨B,y,d,r,q⟩=>#[d.kIn,?_]) l c;show Ug F u i j v d r q
end
def PK(X:Cx)(kws:ϊ Keyword)(t:TA):Prop:=∀(pos:Pos)(gE:Ϸ)(s:ώ)(σ:St)(H:Hp)(Q:ϊ V->Hp->Prop),Inv X gE σ H s->t σ H Q->wpAny (model X.prog X.w) X.A (evalAll ((backToKw pos<|keywordEach kws X.env).map (·.2))) (AP X gE σ Q) X.xe s
section
variable{X:Cx}{k:Nat}{f:ό}{x m:ϐ}{p kpos:Pos}{e o:Expr}{kws:ϊ Keyword}{te:TE}{t:TA}{nm:ύ ϐ}
theorem Uh:PK X [] gJ:=λ_ _ _ _ H Q I h=>wpAny_evalAll_nil #[[],H,I,.nil,h]
theorem Oe(j:PE X e te)(k:PK X kws t):PK X (#[nm,e,kpos]::kws) (fP te t):=by
 intro b a s c H Q I h;change wpAny _ _ (evalAll ((do let v<-eval e X.env;standAt b;pure v)::(backToKw b<|keywordEach kws X.env).map (·.2))) _ _ s;show wpAny_evalAll_cons<|Qr<|bH (j a s c H _ I h) λu p ob=>?_;obtain⟨x,d,g,n,l⟩:=ob;show Qr<|wpAny_standAt<|Wp ?_;show bH (k b a p c d _ g l) λw r ob=>?_;let#[q,f,i,o,m]:=ob;show#[x::q,f,i,.cons n o,m]
end
structure FnScope(N P:ϊ ϐ)(sc:Scope):Prop where
 kind:sc.kind=.function
 co:sc.isCoroutine=false
 gen:sc.isGenerator=false
 nd:N.Nodup
 pre:N.take ↑P=P
 par:∀x∈P,sc.names.lookup x=!.local\/sc.names.lookup x=!.cell
 nofree:∀y∈sc.names,y.2≠.free
theorem rE{b:ϐ->ύ NameKind}{x:ϐ}:∀{a:ϊ<|ϐ×ϋ}{m:ϐ->ύ ϋ},(∀v,(x,v)∉a)->bindL b a m x=m x
 |[],_,_=>Z|(n,v)::r,m,h=>by
  unfold bindL;rw[rE λw c=>h w<|Ê _ c];split
  .have:x≠n:=by rintro rfl;show h v Ì
   simp[this]
  .rfl
theorem rG{b:ϐ->ύ NameKind}{x:ϐ}:∀{a:ϊ<|ϐ×ϋ}{m:ϐ->ύ ϋ},(∀v,(x,v)∉a)->bindC b a m x=m x
 |[],_,_=>Z|(n,v)::r,m,h=>by
  unfold bindC;rw[rG λw c=>h w<|Ê _ c];split
  .rfl
  .have:x≠n:=by rintro rfl;show h v Ì
   simp[this]
theorem rH{a:ϐ->ύ NameKind}{x:ϐ}{v:ϋ}:∀{P:ϊ ϐ}{vs:ϊ ϋ}{i:Nat}{m:ϐ->ύ ϋ},P.Nodup->P[i]?=!x->vs[i]?=!v->a x=!.local->bindL a (P.zip vs) m x=!v
 |[],_,_,_,_,h,_,_=>by simp at h
 |_::_,[],_,_,_,_,h,_=>by simp at h|p::P,w::vs,0,m,nd,h1,h2,hk=>by simp at h1 h2;subst h1;subst h2;change bindL a ((p,w)::P.zip vs) m p=_;unfold bindL;rw[rE λv b=>(ï.mp nd).1 (List.of_mem_zip b).1,β hk];simp
 |p::P,w::vs,i+1,m,nd,h1,h2,hk=>by change bindL a ((p,w)::P.zip vs) m x=_;unfold bindL;show rH (i:=i) (ï.mp nd).2 (by simpa using h1) (by simpa using h2) hk
theorem rJ{a:ϐ->ύ NameKind}{x:ϐ}{v:ϋ}:∀{P:ϊ ϐ}{vs:ϊ ϋ}{i:Nat}{m:ϐ->ύ ϋ},P.Nodup->P[i]?=!x->vs[i]?=!v->a x≠!.local->bindC a (P.zip vs) m x=!v
 |[],_,_,_,_,h,_,_=>by simp at h|_::_,[],_,_,_,_,h,_=>by simp at h|p::P,w::vs,0,m,nd,h1,h2,hk=>by simp at h1 h2;subst h1;subst h2;change bindC a ((p,w)::P.zip vs) m p=_;unfold bindC;rw[rG λv b=>(ï.mp nd).1 (List.of_mem_zip b).1,γ hk];simp|p::P,w::vs,i+1,m,nd,h1,h2,hk=>by change bindC a ((p,w)::P.zip vs) m x=_;unfold bindC;show rJ (i:=i) (ï.mp nd).2 (by simpa using h1) (by simpa using h2) hk
noncomputable def start(N:ϊ ϐ)(vs:ϊ V):St:=vs.map some++List.replicate (↑N-↑vs) none
noncomputable def yE(CX:G5)(P:ϓ)(w:ϕ)(K:Ϗ)(mg:ϐ->ύ ϋ)(base:ϒ)(N:ϊ ϐ)(qual:ϐ)(scope:Scope)(f:ό)(cd:ϋ)(A:ϖ)(outer:ϊ Env)(s:ώ)(H:Hp)(E:XK):Cx where
 prog:=P
 w:=w
 K:=K
 mg:=mg
 base:=base
 A:=A.deeper<|envOfC qual scope ⇑s f cd
 N:=N
 s₀:=s
 H₀:=H
 env:=envOfC qual scope ⇑s f cd
 outer:=outer
 stack:=envOfC qual scope ⇑s f cd::outer
 ex:=[]
 calm:=true
 fn:=λ_=>true
 pn:=[]
 xe:=λe s'=>wpAny (model P w) (A.deeper<|envOfC qual scope ⇑s f cd) (leaving (envOfC qual scope ⇑s f cd) e) (λ_ s''=>CX outer H s E e s'') (λe' s''=>CX outer H s E e' s'') s'
theorem vQ(h:sc.names.lookup x=!.cell):∃c,(cellsFrom n sc.names []).lookup x=!c:=by
 have q:=PySem.W.cellsFrom_some sc.names n []<|.inl h;show Ť.mp q
theorem Dh{P:ϓ}{K:Ϗ}{g:ϒ}{N m:ϊ ϐ}{f:ό}{s:ώ}{E:XK}{F:ϊ ϋ}{o:ϊ V}(S:FnScope N m scope) (L:A.handled=none) (j:Env0 P w K mg g A outer s H) (R:↑o=↑m) (r:Vals o F)(x:InCallC s ⇑s (bindL (envOfC qual scope ⇑s f cd).kindOf (m.zip F) λ_=>none) (cellsFrom (⇑s+1) scope.names []) (bindC (envOfC qual scope ⇑s f cd).kindOf (m.zip F) λ_=>none) s1):Inv (yE CX P w K mg g N qual scope f cd A outer s H E) [] (start N o) H s1:=by
 have M:↑m<=↑N:=by have:=Ö List.length S.pre;rw[Ñ]at this;rfl'
 let#[C,T,rfl,G]:=x.done;have l:∀b:ό,b∉(yE CX P w K mg g N qual scope f cd A outer s H E).ex:=λb z=>μ (show b∈([]:ϊ ό)from z) (by simp);show⟨⟨j.mod,S.kind,Z,Z,Ã _,λy z c C d=>?_,λy hy=>?_,λy c _ h=>?_,λ_=>L,Around.frames_deeper j.frames,.inr ⟨Z,Z⟩,λb z=>μ z<|l b,j.bs,j.bsz,λb _ _=>l b,λb z=>μ z<|l b,j.funs,j.frf⟩,
  Z,j.bare,Un.kept G,⟨_,x.toInCall.ns,λi y v C d Q=>?_⟩,λy c h=>⟨_,x.cell y c h⟩,j.hok.fresh<|Ã _,λy c h=>?_,λp t=>μ (show p∈([]:Ϸ)from t) (by simp),j.hok.kept G,?_⟩;.show name_of_addr x.apart (Ŧ C)<|Ŧ d
 .have hy:scope.names.lookup y=!.cell\/scope.names.lookup y=!.free:=hy;rcases hy with hy|hy;.show vQ hy
  .show μ Z<|S.nofree _<|Ŧ hy
 .show â<|x.above y c<|Ŧ h
 .have D:i<↑o:=by
   unfold start at d;by_cases D:i<↑o;.show D
   .rw [Ě (by simpa using D)]at d;rw[List.getElem?_replicate]at d;split at d<;>cases d
  have J:o[i]?=!v:=by
   unfold start at d;rw[ĸ (by simpa using D),Á]at d;cases e:o[i]?with
   |none=>rw[e]at d;cases d|some a=>rw[e]at d;cases d;rfl
  let#[u,I,O]:=r.get J;have t:m[i]?=!y:=by rw[<-S.pre,List.getElem?_take_of_lt ()];show C
  have B:m.Nodup:=by rw[<-S.pre];show S.nd.sublist<|Ę _ _
  show#[u,O,?_];rcases S.par y (Yf t)with k|k;.show .inl #[k,rH B t I k]
  .obtain ⟨c,e⟩:=vQ (n:=⇑s+1) k;show .inr #[.inl k,c,e,?_];have q:=x.cell y c e;rw[rJ B t I (by change scope.names.lookup y≠_;rw[k];decide)]at q;show q
 .show j.hok.fresh<|â<|x.above y c<|Ŧ h
 .unfold start;change _=↑N;rw[É,Qb,ð];rfl'
theorem Rt{P:ϓ}{K:Ϗ}{c:ϒ}{f:ό}{g:ϐ}{U kV l X a T oc:ϋ}{od:ύ ό}{N B:ϊ ϐ} {M:Sp} (lk:K.lookup f=!#[oc,od,.func<|W.fnOf g qual params body scope U kV l X an a T,osl]) (C:W.codeIn K a qual=true) (S:FnScope N B scope)(z:∀vs H Q E,M vs H Q E->↑vs=↑B)(h:∀(A:ϖ)(outer:ϊ Env)(s:ώ)(H:Hp)(vs:ϊ V)(Q:VK)(E:XK),Room k (A.deeper<|envOfC qual scope ⇑s f a)->M vs H Q E->∃t,PSs (yE CX P w K mg c N qual scope f a A outer s H E) body t/\t {nx:=λ_ H'=>Q .non H',rt:=Q} (start N vs) H):FnOk P w K mg c CX (k+1) f (W.fnOf g qual params body scope U kV l X an a T) B M:=by
 show#[z,λA outer s H R us vs Q E D m hb r p=>?_];have hl:=z _ _ _ _ p;have O:K.In s.heap:=m.mod.kin.keeps λb o e=>(m.bs b o e).1
 have F:s.heap.NoLimit:=m.mod.nolimit.keeps λb o e=>(m.bs b o e).1;have i:∀y∈B.zip us,scope.names.lookup y.1=!.local\/(scope.names.lookup y.1=!.cell/\((cellsFrom (⇑s+1) scope.names []).lookup y.1).isSome=true):=λ⟨n,v⟩ hy=>by
  rcases S.par n (List.of_mem_zip hy).1with q|q
  .show .inl q
  .show .inr #[q,PySem.W.cellsFrom_some _ _ _<|.inl q]
 show codeAny_call_function D.depth (O _ _ lk) Z S.co S.gen Z (PySem.W.codeRec_of O C)<|hb _ _ _ _ ?_;show wpAny_newFunctionEnv_cells S.kind i λzz he Y x=>?_;subst he;show#[F.keeps x.toInCall.keep,codeAny_func ?_];let#[t,ht,hq]:=h A outer s H vs Q E (D.deeper _) p;have I:Inv (yE CX P w K mg c N qual scope f a A outer s H E) [] (start N vs) H Y:=Dh S D.hd m hl r x;show ĉ (ht [] Y (start N vs) H _ I hq) (λfl L j=>?_) λe L j=>j;have fin:∀{d:St}{H':Hp}{v:V}{u:ϋ},Inv (yE CX P w K mg c N qual scope f a A outer s H E) [] d H' L->RelV v u->Q v H'->CE outer P w H s Q u L:=λ{d H' v u} J G q=>#[v,H',J.os,J.bare,J.base,J.hok,G,q];cases fl with
 |ret u=>
  let#[v,d,H',J,G,q]:=j;show fin J G q|next=>let#[d,H',J,q]:=j;show fin (v:=V.non) (u:=Value.none) J Z q|brk=>
  let#[_,_,_,q]:=j;show False.elim q|cont=>let#[_,_,_,q]:=j;show False.elim q
section
variable{X:Cx}{x:ϐ}{p pos:Pos}{e:Expr}{es:ϊ Expr}{t:TA}{id T:String}{r:ϊ V->Hp->VK->Prop}
abbrev gw(r:ϊ V->Hp->VK->Prop)(t:TA):TE:=λσ H Q=>t σ H λvs H1=>r vs H1 Q
theorem G6(j:bV X (.builtin id) r)(l:Gl X x)(m:X.mg x=none)(o:bootBuiltins x=!(.builtin id))(i:PA X (e::es) t)(n:x≠"__name__":=by decide)(b:(x==("__debug__":ϐ))=false:=by decide)(k:starEach (e::es) X.env=(false,eval e X.env)::starEach es X.env:=by rfl) (c:(backTo pos<|starEach es X.env).any (·.1)=false:=by rfl):PE X (.Call (.Name x p) (e::es) [] pos) (gw r t):=by intro a s d H Q I h;show ľ<|fW I l m o ?_ n b;show ũ (bH (i pos a s d H _ I h) λw v ⟨y,f,g,u,q⟩=>j a v d f y w Q g u q) k c
theorem bN(j:bV X (.type T) r)(l:Gl X x)(m:X.mg x=none)(o:bootBuiltins x=!(.type T))(i:PA X (e::es) t)(n:x≠"__name__":=by decide)(b:(x==("__debug__":ϐ))=false:=by decide)(k:starEach (e::es) X.env=(false,eval e X.env)::starEach es X.env:=by rfl) (c:(backTo pos<|starEach es X.env).any (·.1)=false:=by rfl):PE X (.Call (.Name x p) (e::es) [] pos) (gw r t):=by intro a s d H Q I h;show ľ<|fW I l m o ?_ n b;show Ċ (bH (i pos a s d H _ I h) λw v ⟨y,f,g,u,q⟩=>j a v d f y w Q g u q) k c
end
end L2
namespace HT
open PySem PyProof.Rows
noncomputable def lexLt:ϊ Int->ϊ Int->ϑ
 |[],[]=>false|[],_::_=>true|_::_,[]=>false|x::xs,y::ys=>if x=y then lexLt xs ys else decide<|x<y
def jb(x y:Int)(a b:ϊ Int):lexLt (x::a) (y::b)=if x=y then lexLt a b else decide (x<y):=Z
def qP:lexLt [] []=false:=Z
def pB(y:Int)(a:ϊ Int):lexLt [] (y::a)=true:=Z
def pC(x:Int)(a:ϊ Int):lexLt (x::a) []=false:=Z
def G7(A:ϖ)(s:ώ)(a:Int)(t:Tok)(c:Int)(u:Tok):∃e,SeqAt.EqAt A s (.int a t) (.int c u) e/\(e=true↔a=c):=#[(a==c),SeqAt.EqAt.int_int a t c u,by simp]
def G8(A:ϖ)(s:ώ)(a:Int)(t:Tok)(c:Int)(u:Tok)(b:ϓ)(w:ϕ)(E:϶)(Q:϶)(h:Q (.bool<|decide<|a<c) s):wpAny (model b w) A (richCompare .Lt (.int a t)<|.int c u) Q E s:=(PyProof.Rows.lt_int h:wpAny (model b w) A (compareOp .Lt (.int a t)<|.int c u) Q E s)
section
open PySem.SeqAt
open PySem.AutoSeq1 (wpAny_loadPart')
open PySem.MeetsSeq PySem.MeetsSeq2 PySem.MeetsSeq3
def qQ(l b:ό)(i f:ϔ ϋ)(n X:Nat)(S K:ύ ό)(Y N:ϔ<|ύ ϋ)(F E:ϊ Int)(O:IntsAre i.toList F)(P:IntsAre f.toList E):Meets (Builtin.«tuple.__lt__» #[[↥l,↥b],[]])
   (λ_ R s=>s.heap.get? l=!{cls:=.type "tuple",dict:=S,data:=.seq i n,slots:=Y}/\s.heap.get? b=!{cls:=.type "tuple",dict:=K,data:=.seq f X,slots:=N}/\R (.ok<|.ret<|.bool<|lexLt F E) s):=
 .of_wp λz w A R s h=>by
  let#[D,g,d,H,G]:=s;let#[W,T,h]:=h;have f2:=AutoSeq1.sub_tuple_tuple;have z1:i.size=↑F:=by rw[<-↑O];simp
  have z2:f.size=↑E:=by rw[<-↑P];simp
  wp_walk using wpAny_loadPart' W,wpAny_loadPart' T,wpAny_forIn_list _ (λrest b M=>b.1=none/\M=#[D,g,d,H,G]/\∃(I J:ϊ ϋ)(m k:ϊ Int),rest=I.zip J/\IntsAre I m/\IntsAre J k/\↑m+f.size=↑k+i.size/\R (.ok<|.ret<|.bool<|lexLt m k) #[D,g,d,H,G]) _
  case turn=>
   rintro⟨y,x⟩ rest b M ⟨B,rfl,I,J,m,k,p,C,o,j,r⟩;cases C with
   |nil=>rw[List.zip_nil_left]at p;cases p|cons a t hvi'=>cases o with
    |nil=>rw[List.zip_nil_right]at p;cases p|cons c u hwi'=>
     rw[δ]at p;injection p with hyx hrest;injection hyx with hy hx;subst hy hx;rw[jb]at r;simp-iota only[í]at j;let#[e,U,v]:=G7 A.in1 #[D,g,d,H,G] a t c u;show Qr (U z w _ _ ?_);cases e with
     |true=>
      rw[β<|v.mp Z]at r
      wp_walk;show#[Z,Z,_,_,_,_,hrest,hvi',hwi',(),r]|false=>
      rw[γ<|λq=>μ (v.mpr q) Ï]at r;have L:=G8 A.in1 #[D,g,d,H,G] a t c u z w
      wp_walk using L;show#[_,Z,by simpa using r]
  case fin=>
   rintro⟨zz,b2⟩ M ⟨B,rfl,I,J,m,k,p,C,o,j,r⟩;simp only at B;subst B;have Q:lexLt m k=decide (i.size<f.size):=by cases C with
    |nil=>cases o with|nil=>simp-iota only[ĝ]at j;rw[qP];show(Ü ()).symm|cons c u hw=>simp-iota only[ĝ,í]at j;rw[pB];show(Ô ()).symm
    |cons a t Q=>cases o with
     |nil=>simp-iota only[ĝ,í]at j;rw[pC];show(Ü ()).symm|cons c u hw=>
      rw[δ]at p;cases p
   rw[Q]at r
   wp_walk;show#[_,Z,by simpa[Builtin.Tuple.tupleCompareSizes]using r]
  case h=>show#[Z,Z,i.toList,f.toList,F,E,Z,O,P,(),h]
end
section
def yF(z:IsTup s.heap l items)(u:IsTup s.heap b a)(v:IntsAre items.toList f)(y:IntsAre a.toList ms)(B:A.units<cLine) (h:Q (.bool<|lexLt f ms) s):∅ (compareOp .Lt ↥l<|.ref b) Q E s:=by
 let#[#[r,t,m,D],q,o,n,p]:=id z;let#[#[k,i,g,j],e,c,C,d]:=id u;simp only at o p c d;subst o p c d;show richCompare_meets_room (op:=.Lt) #[_,q,Z] #[_,e,Z] F.slot_tuple_lt F.entry_tuple_lt (F.args_tuple_lt_2 _ _) (qQ l b items a n C t i D j f ms v y)
  #[q,e,show Value.bool (lexLt f ms)≠Value.notImplemented/\Q (.bool<|lexLt f ms) s from#[(λx=>nomatch x),h]] B
noncomputable def fc(n d:Nat):ύ Int->Nat
 |none=>d
 |some v=>if v<0 then(v+(n:Int)).toNat else min v.toNat n
def Ui(n d:Nat)(b:d<=n)(o:ύ Int):fc n d o<=n:=by cases o with
 |none=>show b|some v=>
  change(if v<0 then(v+(n:Int)).toNat else min v.toNat n)<=n;by_cases a:v<0
  .rw [β a];rfl'
  .rw [γ a];show Nat.min_le_right _ _
def Bc(v:Int)(n d:Nat):(if v<0 then max (v+(n:Int)) 0 else min v (n:Int))=((fc n d !v:Nat):Int):=by
 change(if v<0 then max (v+(n:Int)) 0 else min v (n:Int))=(((if v<0 then(v+(n:Int)).toNat else min v.toNat n):Nat):Int);by_cases a:v<0;.simp-iota only[β a];rfl'
 .simp-iota only[γ a];rfl'
def yG(lo a:ύ Int)(n:Nat):Builtin.Slice.sliceAdjust lo a 1 (n:Int)=(((fc n 0 lo:Nat):Int),((fc n n a:Nat):Int)):=by
 have b:¬((1:Int)<0):=();unfold Builtin.Slice.sliceAdjust;simp-iota only[b,ċ];show Prod.ext ?_ ?_;.cases lo with
  |none=>rfl
  |some v=>show Bc v n 0
 .cases a with
  |none=>rfl|some v=>show Bc v n n
def yH(i j:Nat):Builtin.Slice.slicePlaces (i:Int) (j:Int) 1=j-i:=by
 unfold Builtin.Slice.slicePlaces;have a:(1:Int)>0:=();simp-iota only[a,Ń,Int.ediv_one];split<;>rfl'
def pD{Q:ύ Int->ώ->Prop}(p:IsPart v o)(h:Q o s):∅ (Builtin.Slice.slicePartIndex v) Q E s:=by cases p with
 |none=>show slicePart_none h|int i t=>show slicePart_int h
def iD{lo:ύ Int}{n:Nat}{Q:Int×Int×Nat->ώ->Prop}(d:s.heap.IsSliceOf sl vl vu .none)(e:IsPart vl lo)(f:IsPart vu hi)(h:Q (((fc n 0 lo:Nat):Int),1,fc n n hi-fc n 0 lo) s):∅ (Builtin.Slice.sliceApplied ↥sl<|pure (n:Int)) Q E s:=by
 let#[g,b,c,a]:=id d;unfold Builtin.Slice.sliceApplied Builtin.Slice.sliceFields;show Qr<|Qr<|ĥ b a (x:=vl) Z<|Qr<|ĥ b a (x:=vu) Z<|Qr<|ĥ b a (x:=.none) Z<|Wp ?_;show Qr<|slicePart_none ?_;change wpAny _ _ (if((1:Int)==0)=true then _ else _) _ _ s;rw[γ<|by decide];show Qr<|pD e<|Qr<|pD f<|Qr<|Wp ?_;change wpAny _ _ (match Builtin.Slice.sliceAdjust lo hi 1 (n:Int)with|(lo,hi)=>pure (lo,(1:Int),Builtin.Slice.slicePlaces lo hi 1)) _ _ s;rw[yG lo hi n];change wpAny _ _ (pure (((fc n 0 lo:Nat):Int),(1:Int),Builtin.Slice.slicePlaces ((fc n 0 lo:Nat):Int) ((fc n n hi:Nat):Int) 1)) _ _ s;rw[yH];show Wp h
def G9(a:ϔ ϋ)(i k:Nat):((List.range k).filterMap λ(m:Nat)=>a[((i:Int)+(m:Int)*1).toNat]?).toArray=((a.toList.drop i).take k).toArray:=by
 have e:(λ(m:Nat)=>a[((i:Int)+(m:Int)*1).toNat]?)=λm=>a[i+m]? :=by
  funext m;have:((i:Int)+(m:Int)*1).toNat=i+m:=();rw[this]
 rw[e];have:=pick_run a i k;rw[List.filterMap_map]at this;have b:((λx=>a[x]?)∘λx=>i+x)=λm=>a[i+m]? :=Z;rw[b]at this;rw[this]
def lH{t:ό}{lo:ύ Int}(b:IsTup s.heap t items)(g:s.heap.IsSliceOf sl vl vu .none)(n:IsPart vl lo)(o:IsPart vu hi)(k:¬(fc items.size 0 lo=0/\fc items.size items.size hi=items.size))(h:Q ↥⇑s {s with heap:=s.heap.push {cls:=.type "tuple",data:=.seq ((items.toList.drop<|fc items.size 0 lo).take<|fc items.size items.size hi-fc items.size 0 lo).toArray}})(j:items.size<=sizeLine):∅ (getItem ↥t<|.ref sl) Q E s:=by
 have a:sizeOk (.seq ((items.toList.drop<|fc items.size 0 lo).take<|fc items.size items.size hi-fc items.size 0 lo).toArray):=by change((items.toList.drop<|fc items.size 0 lo).take<|fc items.size items.size hi-fc items.size 0 lo).toArray.size<=sizeLine;rw[Ù,Ñ,ù,á];rfl'
 have p:fc items.size items.size hi<=items.size:=Ui _ _ (Ã _) hi;let#[l,f,d,i]:=id g;have c:s.TypeIs ↥sl "slice":=#[l,f,d];unfold getItem;try with_reducible show õ ?_
 first|show Qr (Wp ?_)|skip
 show Qr<|wpAny_sequenceKey b.typeIs (by decide) ?_;show Qr<|wpAny_callSpecial?_slot (name:=Str.ofString "__getitem__") b.typeIs ķ<|î ķ b.typeIs entry_tuple_getitem ?_<|args_tuple_getitem _ _;change wpAny _ _ (Builtin.Tuple.tupleItemsOf ↥t>>=_) _ _ s;show Qr<|tupleItemsOf_ b ?_;show Qr<|ű c ?_;rw[β<|by decide];show Qr<|iD g n o ?_;have e:¬((((fc items.size 0 lo:Nat):Int)==0&&(1:Int)==1&&(fc items.size items.size hi-fc items.size 0 lo)==items.size)=true):=by
  intro q;rw[Ă,Ă]at q;have r:((fc items.size 0 lo:Nat):Int)=0:=θ q.1.1;have u:fc items.size items.size hi-fc items.size 0 lo=items.size:=θ q.2;show k #[(),()]
 change wpAny _ _ (if(((fc items.size 0 lo:Nat):Int)==0&&(1:Int)==1&&(fc items.size items.size hi-fc items.size 0 lo)==items.size)=true then _ else _) _ _ s;rw[γ e,G9];first
  |show Qr (m:=Builtin.Tuple.tupleExact _) (ó (Wp #[_,Z,Wp h]) a)|show Qr (m:=Builtin.Tuple.tupleExact _)<|ó (Qr<|Wp<|Wp #[_,Z,Wp h]) a
  |show Qr (Qr (m:=Builtin.Tuple.tupleExact _)<|ó (Wp<|Wp #[_,Z,Wp h]) a)|show Qr<|Qr (m:=Builtin.Tuple.tupleExact _)<|ó (Wp #[_,Z,Wp h]) a
end
end HT
namespace L2
open PySem PySem.Spec PyProof.Rows
variable{H:Hp}{σ:St}{i:Int}{x y:V}{p:ό}{A:ϖ}{T:String}{u v:ϋ}{j n t':Nat}{its:ϊ ϋ}{gE:Ϸ}{f:ϔ ϋ->ϔ ϋ}{r:V->ύ Int->ύ Int->Hp->VK->Prop}
abbrev TO:=St->Hp->(ύ Int->Hp->Prop)->Prop
def PO(X:Cx)(e:ύ Expr)(t:TO):Prop:=∀(gE:Ϸ)(s:ώ)(σ:St)(H:Hp)(Q:ύ Int->Hp->Prop),Inv X gE σ H s->t σ H Q->wpAny (model X.prog X.w) X.A (evalPart e X.env) (λu s'=>∃o H',Inv X gE σ H' s'/\IsPart u o/\Q o H') X.xe s
abbrev cQ:TO:=λ_ H Q=>Q none H
abbrev fj(t:TE):TO:=λσ H Q=>t σ H λx H1=>∃i,x=.int i/\Q (!i) H1
theorem intsAre_of:∀{us:ϊ ϋ},Vals (a.map V.int) us->IntsAre us a:=by induction a with|nil=>intro us r;rw[Đ]at r;cases r;show .nil|cons n a ih=>
  intro us r;rw[Ç]at r;cases r with|cons r1 r2=>let#[t,e]:=r1;subst e;show .cons n t<|ih r2
section
variable{X:Cx}{e:Expr}{te:TE}{lo hi:ύ Expr}{tl th:TO}{pos p2:Pos}
theorem cX:PO X none cQ:=by intro a s b H Q I h;rw[evalPart_none];show Wp #[none,H,I,.none,h]
theorem cI(h:PE X e te):PO X (!e) (fj te):=by
 intro a s j H Q I d;rw[evalPart_some];show bH (h a s j H _ I d) λu k ob=>?_;let#[x,b,c,g,f]:=ob;let#[i,rfl,q]:=f;let#[t,rfl]:=g;show#[!i,b,c,.int i t,q]
def Uj(X:Cx)(r:V->ύ Int->ύ Int->Hp->VK->Prop):Prop:=
 ∀(gE:Ϸ)(s:ώ)(σ:St)(H:Hp)(x:V)(v vl vu:ϋ)(lo hi:ύ Int)(sl:ό)(Q:VK),Inv X gE σ H s->RelV x v->s.heap.IsSliceOf sl vl vu .none->IsPart vl lo->IsPart vu hi->r x lo hi H Q->∃T id,typeLookup (.type T) "__getitem__"=pure !(.builtin id)/\s.TypeIs v T/\wpAny (model X.prog X.w) X.A (getItem v<|.ref sl) (EP X gE σ Q) X.xe s
abbrev vR(r:V->ύ Int->ύ Int->Hp->VK->Prop)(te:TE)(tl th:TO):TE:=λσ H Q=>te σ H λx H1=>tl σ H1 λl H2=>th σ H2 λu H3=>r x l u H3 Q
theorem bZ(A:Uj X r)(w:PE X e te)(z:PO X lo tl)(C:PO X hi th):PE X (.Subscript e (.Slice lo hi none p2) pos) (vR r te tl th):=by
 intro a s d H Q I h;show Subscript_<|bH (w a s d H _ I h) λv L ob=>?_;let#[x,j,m,K,F]:=ob;show wpAny_Slice<|bH (z a L d j _ m F) λf M ob=>?_;let#[l,k,n,D,G]:=ob;show bH (C a M d k _ n G) λg c ob=>?_;let#[u,i,o,E,J]:=ob;rw[evalPart_none];show Wp ?_;have p:Inv X a d i {c with heap:=c.heap.push {cls:=.type "slice",data:=.fields<|[f,g,.none].toArray}}:=o.kept (t':=c.toks) λb ob q=>Jn _ q;let#[T,N,t,B,y]:=A a {c with heap:=c.heap.push {cls:=.type "slice",data:=.fields<|[f,g,.none].toArray}} d i x v f g l u ⇑c Q p K (Heap.IsSliceOf.new ..) D E J;change wpAny (model X.prog X.w) X.A (subscriptTail e (.Slice lo hi none p2) v<|.ref ⇑c) (EP X a d Q) X.xe {c with heap:=c.heap.push {cls:=.type "slice",data:=.fields<|[f,g,.none].toArray}};show tail_any (ops:=[↥⇑c,v]) B t y<|by with_unfolding_all rfl
def iG(xs:ϊ V)(lo hi:ύ Int):ϊ V:=(xs.drop<|HT.fc ↑xs 0 lo).take<|HT.fc ↑xs ↑xs hi-HT.fc ↑xs 0 lo
theorem nQ(a:ϊ V)(lo b:ύ Int):↑(iG a lo b)<=↑a:=by unfold iG;rw[Ñ,ù];rfl'
def a0j(K:Ϗ):V->ύ Int->ύ Int->Hp->VK->Prop:=λx lo hi H Q=>∃a xs,x=↥a/\SqT K H a xs/\¬(HT.fc ↑xs 0 lo=0/\HT.fc ↑xs ↑xs hi=↑xs)/\∀p,H p=none->Q ↥p (upd H p<|.tup<|iG xs lo hi)
theorem Uk:Uj X (a0j X.K):=by
 intro j s z H x v w y lo e u Q I t k n p h;let#[a,d,rfl,m,l,q]:=h;cases t;let#[f,r,g,i]:=I.tuple m;have c:f.toArray.size=↑d:=by rw[Ù];show r.length.symm
 show#["tuple",_,PyProof.Rows.slot_tuple_getitem.lookup,g.typeIs,?_];show HT.lH g k n p (by rw[c];show l) ?_ (by rw[c];show i);rw[c];show#[↥⇑s,_,I.laid (t':=s.toks) (o:=.tup<|iG d lo e) (λb ob q=>Jn _ q) (Ã _) ?_,Z,q _<|I.hok.fresh<|Ã _];show#[Nat.le_trans (nQ d lo e) i,_,(r.drop<|HT.fc ↑d 0 lo).take<|HT.fc ↑d ↑d e-HT.fc ↑d 0 lo,IsTup.new _ _]
end
noncomputable def NK(n:Nat)(i:Int):ύ Nat:=if 0<=i then(if i<n then !i.toNat else none)else if-(n:Int)<=i then !(i+n).toNat else none
def vD{α:Type}(xs:ϊ α)(i:Int):ύ α:=(NK ↑xs i).bind λj=>xs[j]?
theorem Bd(h:NK n i=!j):seqIndex? i n=!j/\j<n/\-(n:Int)<=i/\i<n:=by
 unfold NK at h;by_cases b:0<=i
 .rw [β b]at h;by_cases a:i<n;.rw [β a]at h;have e:i.toNat=j:=Ý h;show#[by rw[seqIndex_of b a,e],(),(),a]
  .rw [γ a]at h;cases h
 .rw [γ b]at h;by_cases a:-(n:Int)<=i;.rw [β a]at h;have e:(i+n).toNat=j:=Ý h;show#[by rw[seqIndex_neg () a,e],(),a,()]
  .rw [γ a]at h;cases h
theorem u6{b:Type}{a:ϊ b}{v:b}(h:vD a i=!v):∃j,seqIndex? i ↑a=!j/\a[j]?=!v/\j<↑a/\-(↑a:Int)<=i/\i<↑a:=by
 unfold vD at h;cases e:NK ↑a i with
 |none=>rw[e]at h;cases h|some j=>rw[e]at h;let#[c,d,f,g]:=Bd e;show#[j,c,h,d,f,g]
theorem aO{a:Type}{xs:ϊ a}{v:a}(h:xs[j]?=!v):vD xs (j:Int)=!v:=by
 have b:j<↑xs:=(À.mp h).1;have e:NK ↑xs (j:Int)=!j:=by unfold NK;rw[β (),β ()];simp
 unfold vD;rw[e];show h
theorem Ga{b:Type}(a:ϊ b)(v:b):vD (a++[v]) (-1)=!v:=by
 have c:↑(a++[v])=↑a+1:=by simp
 have e:NK ↑(a++[v]) (-1)=some ↑a:=by unfold NK;rw[c,γ<|by decide,β ()];congr 1;rfl'
 unfold vD;rw[e];change(a++[v])[↑a]?=!v;simp
def Og(b:Expr):Prop:=∀o i,subscripted b false o i=operate [o,i] (getItem o i)
def XH(X:Cx)(r:R2):Prop:=∀(value slice:Expr)(gE:Ϸ)(s:ώ)(σ:St)(H:Hp)(x y:V)(v u:ϋ)(Q:VK),Inv X gE σ H s->RelV x v->RelV y u->r x y H Q->subscripted slice false v u=operate [v,u] (getItem v u)->wpAny (model X.prog X.w) X.A (subscriptTail value slice v u) (EP X gE σ Q) X.xe s
def Ul(X:Cx)(id:String)(r:V->ϊ V->Hp->VK->Prop):Prop:=∀(gE:Ϸ)(s:ώ)(σ:St)(H:Hp)(x:V)(xs:ϊ V)(v:ϋ)(us:ϊ ϋ)(Q:VK),Inv X gE σ H s->RelV x v->Vals xs us->r x xs H Q->wpAny (model X.prog X.w) X.A (call (.builtin id) (v::us)) (EP X gE σ Q) X.xe s
section
variable{X:Cx}{a b:Expr}
theorem nR{r:R2}(i:XH X r)(f:PE X a ta)(g:PE X b tb)(j:Og b):PE X (.Subscript a b pos) (aM r ta tb):=by intro c s n H Q I h;show Subscript_<|Ub f g I h λv u m x y d e k l q=>i a b c m n d x y v u Q e k l q<|j _ _
def cD(K:Ϗ):R2:=λx y H Q=>∃p xs i v,x=↥p/\y=.int i/\SqL K H p xs/\vD xs i=!v/\Q v H
def gK(K:Ϗ):R2:=λx y H Q=>∃p xs i v,x=↥p/\y=.int i/\SqT K H p xs/\vD xs i=!v/\Q v H
def vU:R2:=λx y H Q=>∃z i c,x=.str z/\y=.int i/\↑z<=sizeLine/\vD z.cps.toList i=!c/\Q (.str #[([c].toArray)]) H
theorem Oh:XH X (cD X.K):=by
 intro k g a s o H x y v u Q I G J h n;let#[p,O,i,z,rfl,rfl,F,D,q]:=h;cases G;let#[t,rfl]:=J;let#[d,r,e,N]:=I.list F;let#[j,b,A,L,B,C]:=u6 D;let#[w,l,f]:=r.get A;have E:=↑r;have M:=mQ;have fin:EP X a o Q w s:=#[z,H,I,f,q];by_cases m:0<=i
 .have c:i.toNat=j:=by rw[seqIndex_of m C]at b;show Ý b
  show item_listR e.isList m () (by rw[c];simpa using l) fin n
 .have c:(i+(d.toArray.size:Int)).toNat=j:=by rw[seqIndex_neg () B]at b;rw[Ù,<-E];show Ý b
  show subscriptTail_builtinR (x:=w) e.isList.typeIs slot_list_getitem.lookup (wpAny_getItem_list_neg (Q:=λr K=>r=w/\EP X a o Q r K) e.isList () (by rw[Ù]<;>rfl') () (by rw[c];simpa using l) #[Z,fin]) n
theorem Um:XH X (gK X.K):=by
 intro d c a s f H x y v u Q I C D h A;let#[p,M,i,z,rfl,rfl,o,m,q]:=h;cases C;let#[t,rfl]:=D;let#[B,r,e,L]:=I.tuple o;let#[j,k,l,F,G,J]:=u6 m;let#[w,g,b]:=r.get l;have n:=↑r;have K:=mQ;have fin:EP X a f Q w s:=#[z,H,I,b,q];show subscriptTail_builtinR (x:=w) e.typeIs slot_tuple_getitem.lookup (getItem_tuple (j:=j) (Q:=λr E=>r=w/\EP X a f Q r E) e () () (by rw[Ù,<-n];show k) (by simpa using g) #[Z,fin]) A
theorem mU:XH X vU:=by
 intro b a e s E H x y v u Q I r w h p;let#[z,i,c,rfl,rfl,C,n,q]:=h;let#[t,rfl]:=r;let#[D,rfl]:=w;let#[j,d,k,A,l,m]:=u6 n;have o:↑z.cps.toList=↑z:=by simp[Str.length]
 rw[o]at d l m;have B:=mQ;show tail_any (typeIs_str s z t) slot_str_getitem.lookup (getItem_str (c:=c) (by have f:decide (i< -(2^63:Int))=false:=Ü ();have g:decide (i>=2^63)=false:=Ü ();rw[f,g,Bool.or_false]) (by rw[d];simpa using k) #[.str #[([c].toArray)],H,I.tok _,#[_,Z],q]) p
theorem yI(a:ϊ ϋ)(n j:Nat)(u:ϋ):Obj.mapSeq (·.setIfInBounds j u) {cls:=.type "list",data:=.seq a.toArray n}={cls:=.type "list",data:=.seq (a.set j u).toArray n}:=by simp[Obj.mapSeq]
theorem Inv.lst{s:ώ}{a:ϊ V}(I:Inv X gE σ H s)(h:H p=!(.lst a)):∃(its:ϊ ϋ)(n:Nat),Vals a its/\s.heap.get? p=!{cls:=.type "list",data:=.seq its.toArray n}/\↑a<=sizeLine:=by let#[z,its,n,r,e]:=I.hok p _ h;show#[its,n,r,e,z]
theorem Inv.lstUpd{a:Nat}{f:Obj->Obj}(I:Inv X gE σ H s)(h:H p=!(.lst k))(i:s.heap.get? p=!{cls:=.type "list",data:=.seq its.toArray n}) (d:f {cls:=.type "list",data:=.seq its.toArray n}={cls:=.type "list",data:=.seq its'.toArray a}) (r:Vals c its') (j:↑c<=sizeLine) (t:Nat):Inv X gE σ (upd H p<|.lst c) {s with heap:=s.heap.update p f,toks:=t}:=by
 have e:(s.heap.update p f).get? p=!{cls:=.type "list",data:=.seq its'.toArray a}:=by rw[ñ f i<|by rw[d]<;>rfl,d]
 show I.write (x:=p) (e:=p) (by rw[h];trivial) (.inl Z) (λb u g q=>(Ĉ _ _<|Ne.symm g).trans q) #[_,e] ?_;show#[j,its',a,r,e]
def rK:V->V->V->Hp->(Hp->Prop)->Prop:=λo i v H Q=>∃p xs k j,o=↥p/\i=.int k/\H p=!(.lst xs)/\NK ↑xs k=!j/\Q (upd H p<|.lst<|xs.set j v)
theorem set_list:Y8 X rK:=by
 intro b s E H o i v ov J u Q I B A C h;let#[p,D,k,j,rfl,rfl,x,y,q]:=h;cases B;let#[t,rfl]:=A;let#[a,n,r,f,z]:=I.lst x;let#[c,F,m,w]:=Bd y;have e:=↑r;have G:=mQ;have g:Inv X b E (upd H p<|.lst<|D.set j v) {s with heap:=s.heap.update p (Obj.mapSeq (·.setIfInBounds j u))}:=I.lstUpd x f (yI a n j u) (r.set C j) (by rw[Ŷ];show z) s.toks;by_cases l:0<=k
 .have d:k.toNat=j:=by rw[seqIndex_of l w]at c;show Ý c
  show PySem.W.ki_setAt f l () (by rw[Ù,<-e];show w)<|by rw[d];show#[_,g,q]
 .have d:(k+(a.toArray.size:Int)).toNat=j:=by rw[seqIndex_neg () m]at c;rw[Ù,<-e];show Ý c
  show PySem.W.ki_setBack f () (by rw[Ù,<-e];show m) ()<|by rw[d];show#[_,g,q]
theorem u9(lo a:ύ Int)(n:Nat):(sliceBounds lo a none n).1=((HT.fc n 0 lo:Nat):Int)/\(sliceBounds lo a none n).2.1=((HT.fc n n a:Nat):Int)/\(sliceBounds lo a none n).2.2=1:=by
 show#[?_,?_,Z];.cases lo with
  |none=>simp[sliceBounds,HT.fc]|some i=>
   simp only[sliceBounds,HT.fc,Option.getD_none,show(1:Int)>0 by decide,Ń];by_cases h:i<0;.simp only[h,Ń]<;>rfl'
   .simp only[h,ċ]<;>rfl'
 .cases a with
  |none=>simp[sliceBounds,HT.fc]
  |some i=>
   simp only[sliceBounds,HT.fc,Option.getD_none,show(1:Int)>0 by decide,Ń];by_cases h:i<0;.simp only[h,Ń]<;>rfl'
   .simp only[h,ċ]<;>rfl'
theorem qR(a:ϊ ϋ)(lo b:ύ Int):slicePick a.toArray lo b none=((a.drop<|HT.fc ↑a 0 lo).take<|HT.fc ↑a ↑a b-HT.fc ↑a 0 lo).toArray:=by let#[c,d,e]:=u9 lo b a.toArray.size;unfold slicePick;rw[c,d,e];simp-iota only[sliceRange_one,pick_run,Ù]<;>rfl
def Gb(K:Ϗ):V->ύ Int->ύ Int->Hp->VK->Prop:=λx lo hi H Q=>∃a xs,x=↥a/\SqL K H a xs/\∀p,H p=none->Q ↥p (upd H p<|.lst<|iG xs lo hi)
theorem Oi:Uj X (Gb X.K):=by
 intro g s y H x v u w lo e t Q I p i m n h;let#[a,c,rfl,j,q]:=h;cases p;let#[l,r,f,k]:=I.list j;have d:=↑r;show#["list",_,slot_list_getitem.lookup,f.isList.typeIs,?_];show wpAny_getItem_list_slice f.isList i m n .none (by simp) ?_ (by rw[Ù]<;>rfl');rw[qR,<-d];show#[↥⇑s,_,I.laid (t':=s.toks) (o:=.lst<|iG c lo e) (λb ob q=>Jn _ q) (Ã _) ?_,Z,q _<|I.hok.fresh<|Ã _];show#[Nat.le_trans (nQ c lo e) k,_,0,(r.drop<|HT.fc ↑c 0 lo).take<|HT.fc ↑c ↑c e-HT.fc ↑c 0 lo,È _ Z]
noncomputable def jA:V->ϑ
 |.non=>true|.bl _=>true|.int _=>true
 |.str _=>true|_=>false
noncomputable def Ru:V->V->ϑ
 |.non,.non=>true|.bl a,.bl b=>a==b
 |.bl a,.int b=>(if a then 1 else 0)==b|.int a,.bl b=>a==(if b then 1 else 0)|.int a,.int b=>a==b|.str a,.str b=>a==b|_,_=>false
theorem Uo(f:RelV y u)(c:RelV x v)(g:jA y=true)(e:jA x=true):SeqAt.EqAt A s u v (Ru y x):=by cases y with
 |non=>
  cases f;cases x with|non=>cases c;show SeqAt.EqAt.same _|bl b=>cases c;show SeqAt.EqAt.none_bool b|int b=>let#[t,rfl]:=c;show SeqAt.EqAt.none_int b t|str b=>let#[t,rfl]:=c;show SeqAt.EqAt.none_str b t|_=>show μ (show false=true from e) Ï
 |bl a=>cases f;cases x with
  |non=>cases c;show SeqAt.EqAt.bool_none a|bl b=>cases c;show SeqAt.EqAt.bool_bool a b|int b=>let#[t,rfl]:=c;show SeqAt.EqAt.bool_int a b t|str b=>let#[t,rfl]:=c;show SeqAt.EqAt.bool_str a b t|_=>show μ (show false=true from e) Ï
 |int a=>
  let#[d,rfl]:=f;cases x with
  |non=>cases c;show SeqAt.EqAt.int_none a d|bl b=>cases c;show SeqAt.EqAt.int_bool a d b|int b=>let#[t,rfl]:=c;show SeqAt.EqAt.int_int a d b t|str b=>let#[t,rfl]:=c;show SeqAt.EqAt.int_str a d b t|_=>show μ (show false=true from e) Ï
 |str a=>
  let#[d,rfl]:=f;cases x with
  |non=>cases c;show SeqAt.EqAt.str_none a d|bl b=>cases c;show SeqAt.EqAt.str_bool a d b|int b=>let#[t,rfl]:=c;show SeqAt.EqAt.str_int a d b t|str b=>let#[t,rfl]:=c;show SeqAt.EqAt.str_str a d b t|_=>show μ (show false=true from e) Ï
 |_=>show μ (show false=true from g) Ï
def Oj(x:V)(u:ϋ):ϑ:=match u with
 |.none=>Ru .non x|.bool b=>Ru (.bl b) x|.int i _=>Ru (.int i) x|.str z _=>Ru (.str z) x|_=>false
theorem Gd(r:RelV y u)(f:jA y=true):Oj x u=Ru y x:=by cases y with
 |non=>cases r;rfl|bl b=>cases r;rfl|int i=>let#[t,rfl]:=r;rfl|str z=>let#[t,rfl]:=r;rfl|_=>show μ (show false=true from f) Ï
theorem uc{x:V}:∀{xs:ϊ V}{us:ϊ ϋ},Vals xs us->xs.all jA=true->us.any (Oj x)=xs.any λy=>Ru y x
 |_,_,.nil,_=>Z|y::xs,u::us,.cons r t,f=>by rw[List.all_cons,Ă]at f;rw[Υ,Υ,Gd r f.1,uc t f.2]
theorem pF{A:ϖ}{x:V}{v:ϋ}(b:RelV x v)(a:jA x=true):∀{xs:ϊ V}{us:ϊ ϋ},Vals xs us->xs.all jA=true->∀u∈us,SeqAt.EqAt A s u v<|Oj x u
 |_,_,.nil,_=>λu hu=>by cases hu|y::xs,u::us,.cons r t,f=>λc hu=>by
  rw[List.all_cons,Ă]at f;rcases Å.mp hu with rfl|hu;.rw [Gd r f.1];show Uo r b f.1 a
  .show pF b a t f.2 c hu
def inV(x:V)(xs:ϊ V):ϑ:=xs.any λy=>Ru y x
def Ol(K:Ϗ)(neg:ϑ):R2:=λx y H Q=>∃p xs,y=↥p/\(SqL K H p xs\/SqT K H p xs)/\jA x=true/\xs.all jA=true/\Q (.bl<|if neg then not (inV x xs)else inV x xs) H
theorem Di:jw X (compareOp .In) (Ol X.K false):=by
 intro f s l H x y v u Q I g j h;let#[p,k,rfl,hq,e,b,q]:=h;cases j;rcases hq with hq|hq;.obtain ⟨a,r,d,i⟩:=I.list hq;show SeqAt.in_listAt (Oj x) d.isList (λw c=>pF g e r b w<|by simpa using c) #[.bl _,H,I,Z,?_];rw[show a.toArray.any (Oj x)=a.any (Oj x)by simp,uc r b];show q
 .obtain ⟨a,r,d,i⟩:=I.tuple hq;show SeqAt.in_tupleAt (Oj x) d (λw c=>pF g e r b w<|by simpa using c) #[.bl _,H,I,Z,?_];rw[show a.toArray.any (Oj x)=a.any (Oj x)by simp,uc r b];show q
theorem ud:bV X (.type "list") (λxs H Q=>∃p ys,xs=[↥p]/\(SqL X.K H p ys\/SqT X.K H p ys)/\∀l,H l=none->Q ↥l (upd H l (.lst ys))):=by
 intro k s z H xs A Q I r h;let#[p,ys,rfl,hq,q]:=h;let#[u,rfl,y]:=vals1 r;cases y;have fin:∀(a:ϊ ϋ),Vals ys a->↑ys<=sizeLine->∀(c:ϒ)(d:Nat),(∀b x,s.heap.get? b=!x->c.get? b=!x)->c.get? ⇑s=!{cls:=.type "list",dict:=none,data:=.seq a.toArray d,slots:=([].toArray)}->EP X k z Q ↥⇑s {s with heap:=c}:=λa f i c d j e=>#[↥⇑s,_,I.laid (t':=s.toks) j (Ã _) (show ObjOk X.prog X.w _ c _ (.lst ys)from#[i,a,d,f,e]),Z,q _ (I.hok.fresh (Ã _))];rcases hq with hq|hq
 .obtain ⟨a,f,w,i⟩:=I.list hq;have g:=↑f;let#[o,v,m,n,t]:=w.isList;show call_list_seq p (.inl Z) v m t (λc d j e=>fin a f i c d j e) (by simp-iota only[Ù]<;>rfl')
 .obtain ⟨a,f,w,i⟩:=I.tuple hq;have g:=↑f;let#[o,v,m,n,t]:=w;show call_list_seq p (.inr Z) v m t (λc d j e=>fin a f i c d j e) (by simp-iota only[Ù]<;>rfl')
theorem qT:bV X (.type "tuple") (λxs H Q=>∃p ys,xs=[↥p]/\((SqL X.K H p ys/\∀l,H l=none->Q ↥l (upd H l (.tup ys)))\/(SqT X.K H p ys/\Q ↥p H))):=by
 intro a s m H xs w Q I r h;let#[p,ys,rfl,h]:=h;let#[u,rfl,v]:=vals1 r;cases v;rcases h with⟨hq,q⟩|⟨hq,q⟩
 .obtain ⟨c,g,f,k⟩:=I.list hq;have j:=↑g;show call_tuple_list f.isList (λd t=>?_) (by simp-iota only[Ù]<;>rfl');have i:Inv X a m H {s with heap:=d}:=I.kept (t':=s.toks) t;have n:Inv X a m (upd H d.objs.size (.tup ys)) {s with heap:=d.push {cls:=.type "tuple",data:=.seq c.toArray}}:=i.laid (t':=s.toks) (λb o e=>Jn _ e) (Ã _) (show ObjOk X.prog X.w _ _ _ (.tup ys)from#[k,c,g,IsTup.new _ _]);show#[↥d.objs.size,_,n,Z,q _ (i.hok.fresh (Ã _))]
 .obtain ⟨c,g,f,k⟩:=I.tuple hq;show call_tuple_same f #[↥p,H,I,Z,q]
def XJ(K:Ϗ)(T:String)(x:V)(H:Hp):Prop:=match x with
 |.str _=>T="str"
 |.int _=>T="int"|.ref p=>(T="list"/\∃xs,SqL K H p xs)\/(T="tuple"/\∃o,K.lookup p=!o/\o.cls=.type "tuple"/\o.dict=none)\/(T="dict"/\((∃kvs,H p=!(.dK kvs))\/∃kvs,H p=!(.dT kvs)))\/(T="set"/\∃S n,H p=!(.set S n))|_=>False
theorem Ge(I:Inv X gE σ H s)(r:RelV x v)(d:XJ X.K T x H):s.TypeIs v T/\∀a,v=↥a->∃ob,s.heap.get? a=!ob/\ob.dict=none:=by cases x with
 |str z=>
  let#[t,rfl]:=r;cases(show T="str" from d);show#[typeIs_str s z t,λ_ e=>nomatch e]|int i=>
  let#[t,rfl]:=r;cases(show T="int" from d);show#[typeIs_int s i t,λ_ e=>nomatch e]|ref p=>
  cases r;rcases d with⟨rfl,xs,hq⟩|⟨rfl,o,hk,hc,g⟩|⟨rfl,hk⟩|⟨rfl,S,n,hk⟩;.obtain ⟨j,_,h,_⟩:=I.list hq;show#[h.isList.typeIs,λa e=>?_];cases e;let#[o,n,e,c,g,_]:=h;show#[o,e,g]
  .show #[#[o,I.kIn p o hk,hc],λa e=>?_];cases e;show#[o,I.kIn _ o hk,g]
  .have z:∃o,s.heap.get? p=!o/\o.ExactDict:=by
    rcases hk with⟨kvs,hk⟩|⟨kvs,hk⟩;.obtain ⟨_,_,_,_,o,_,_,e,b,_⟩:=I.hok p _ hk;show#[o,e,b]
    .obtain ⟨_,_,_,_,o,_,_,e,b,_⟩:=I.hok p _ hk;show#[o,e,b]
   let#[o,e,b]:=z;show#[#[o,e,b.1],λa f=>?_]
   cases f;show#[o,e,b.2.1]
  .obtain ⟨o,_,_,_,e,b,_⟩:=I.hok p _ hk;show#[#[o,e,b.1],λa f=>?_];cases f;show#[o,e,b.2.1]|_=>show False.elim d
abbrev Om(K:Ϗ)(T:String)(r:V->ϊ V->Hp->VK->Prop)(to:TE):TE:=λσ H Q=>to σ H λx H1=>XJ K T x H1/\r x [] H1 Q
abbrev ue(K:Ϗ)(T:String)(r:V->ϊ V->Hp->VK->Prop)(to:TE)(t:TA):TE:=λσ H Q=>to σ H λx H1=>XJ K T x H1/\t σ H1 λxs H2=>r x xs H2 Q
variable{o e:Expr}{es:ϊ Expr}{to:TE}{t:TA}{name:ϐ}{apos cpos:Pos}{T id:String}{r:V->ϊ V->Hp->VK->Prop}
theorem Uq(p:PlainAttrs T)(d:Slot T name id)(e:typeOf (.builtin id)=pure (.type "method_descriptor"))(m:Ul X id r)(n:PE X o to)(b:attributeBase o name X.env (eval o X.env)=eval o X.env:=by rfl) (c:(apos.endLine==cpos.line)=true:=by rfl):PE X (.Call (.Attribute o name apos) [] [] cpos) (Om X.K T r to):=by intro a s i H Q I h;show ι b c (bH (n a s i H _ I h) λv t ob=>?_);let#[x,j,f,g,u,q]:=ob;let#[k,l]:=Ge f g u;show#[T,id,p,d,e,k,l,Ġ Z (PySem.evalArgs_none (m a t i j x [] v [] Q f g .nil q))]
theorem Yd(C:PlainAttrs T)(g:Slot T name id)(i:typeOf (.builtin id)=pure (.type "method_descriptor"))(z:Ul X id r)(A:PE X o to)(y:PA X (e::es) t)(c:attributeBase o name X.env (eval o X.env)=eval o X.env:=by rfl)(f:((backTo cpos (starEach (e::es) X.env)).all (λx=>not x.1)&&(backToKw cpos (keywordEach [] X.env)).all (λx=>x.1.isSome)&&decide (↑(e::es)+↑([]:ϊ Keyword)+(if([]:ϊ Keyword).isEmpty then 0 else 1)<30))=true:=by rfl)(d:(apos.endLine==cpos.line)=true:=by rfl) (B:starEach (e::es) X.env=(false,eval e X.env)::starEach es X.env:=by rfl) (b:(backTo cpos (starEach es X.env)).any (·.1)=false:=by rfl):PE X (.Call (.Attribute o name apos) (e::es) [] cpos) (ue X.K T r to t):=by
 intro a s j H Q I h;show wpAny_Call_method_late c f d Z (bH (A a s j H _ I h) λv G ob=>?_);let#[x,n,k,m,K,D]:=ob;let#[u,w]:=Ge k m K;show#[T,id,C,g,i,u,w,?_];have l:=y cpos a G j n _ k D;rw[B]at l⊢;show Ġ (by change(false||(backTo cpos (starEach es X.env)).any (·.1))=false;rw[b]<;>rfl) (Ζ ?_);show bH l λL J ob=>?_;let#[M,p,q,F,E]:=ob;show z a J j p x M v L Q q m F E
end
def MtM(X:Cx)(id:String)(r:V->ϊ V->Hp->VK->Prop):Prop:=∀(gE:Ϸ)(s:ώ)(σ:St)(H:Hp)(x:V)(xs:ϊ V)(v:ϋ)(us:ϊ ϋ)(Q:VK),Inv X gE σ H s->RelV x v->Vals xs us->r x xs H Q->wpAny (model X.prog X.w) X.A (call (.builtin id) (v::us)) (EP X gE σ Q) X.xe s
theorem Vals.one(h:Vals [x] a):∃u,a=[u]/\RelV x u:=by cases h with|cons r t=>cases t;show#[_,Z,r]
theorem Vals.two(h:Vals [x,y] a):∃u v,a=[u,v]/\RelV x u/\RelV y v:=by cases h with|cons r t=>let#[v,rfl,q]:=Vals.one t;show#[_,v,Z,r,q]
theorem Vals.zero:∀{us:ϊ ϋ},Vals [] us->us=[]|_,.nil=>Z
theorem Vals.dropLast(h:Vals b a):Vals b.dropLast a.dropLast:=by induction h with
 |nil=>show .nil|cons r t ih=>cases t with
  |nil=>show .nil|cons q t'=>show .cons r ih
theorem Vals.eraseIdx:∀{xs:ϊ V}{us:ϊ ϋ}(i:Nat),Vals xs us->Vals (xs.eraseIdx i) (us.eraseIdx i)
 |_,_,_,.nil=>.nil|_,_,0,.cons _ t=>t|_,_,i+1,.cons r t=>.cons r (Vals.eraseIdx i t)
theorem Vals.rep(h:Vals b a):∀k:Nat,Vals (List.replicate k b).flatten (List.replicate k a).flatten
 |0=>.nil|k+1=>by rw[ŧ,ŧ,π,π];show Vals.append h<|Vals.rep h k
theorem yJ{c:Type}(l:ϊ c):l.eraseIdx (↑l-1)=l.dropLast:=by induction l with
 |nil=>rfl|cons a r ih=>cases r with
  |nil=>rfl|cons b r=>
   have e:↑(a::b::r)-1=(↑(b::r)-1)+1:=by have d:↑(a::b::r)=↑r+2:=Z;have f:↑(b::r)=↑r+1:=Z;rfl'
   rw[e,List.eraseIdx_cons_succ,ih];all_goals rfl
theorem rM{a:Type}:∀(l:ϊ a)(i:Nat),↑(l.eraseIdx i)<=↑l
 |[],_=>Ã _|_::_,0=>Nat.le_succ _|_::r,i+1=>Ć<|rM r i
theorem foldl_rep(b:ϊ ϋ):∀(k:Nat)(a:ϊ ϋ),List.foldl (λd f=>d++f) a.toArray (List.replicate k b.toArray)=(a++(List.replicate k b).flatten).toArray
 |0,a=>by simp|k+1,a=>by
  have e:a.toArray++b.toArray=(a++b).toArray:=by simp
  have c:(a++b)++(List.replicate k b).flatten=a++(List.replicate (k+1) b).flatten:=by rw[ŧ,π,ø]
  rw[<-c,<-foldl_rep b k<|a++b,<-e,ŧ,ŷ]
section
variable{X:Cx}
theorem Inv.lset(I:Inv X gE σ H s)(a:H l=!(.lst xs))(e:s.heap.get? l=!{cls:=.type "list",data:=.seq its.toArray n}) (c:f its.toArray=its'.toArray) (g:Vals ys its') (h:↑ys<=sizeLine):Inv X gE σ (upd H l<|.lst ys) {s with heap:=s.heap.update l<|Obj.mapSeq f,toks:=t'}:=by have q:=PySem.IsL.update e f;rw[c]at q;show I.write (x:=l) (e:=l) (by rw[a];show trivial) (.inl Z) (λi u b d=>(Ĉ s.heap (Obj.mapSeq f)<|Ne.symm b).trans d) #[_,q] ?_;show#[h,its',_,g,q]
def Inv.lnew(I:Inv X gE σ H s)(a:Vals ys its)(b:↑ys<=sizeLine):Inv X gE σ (upd H ⇑s<|.lst ys) {s with heap:=s.heap.push {cls:=.type "list",data:=.seq its.toArray},toks:=t'}:=I.laid (λ_ _ q=>Jn _ q) (Ã _) #[b,its,0,a,È _ Z]
theorem Inv.fresh(I:Inv X gE σ H s):H ⇑s=none:=I.hok.fresh<|Ã _
theorem Inv.lstM(I:Inv X gE σ H s)(a:H l=!(.lst xs)):↑xs<=sizeLine/\∃(its:ϊ ϋ)(n:Nat),Vals xs its/\↑xs=↑its/\s.heap.get? l=!{cls:=.type "list",data:=.seq its.toArray n}:=by let#[z,its,n,r,e]:=I.hok l _ a;show#[z,its,n,r,↑r,e]
theorem vV(h:n<=sizeLine):Builtin.List.listTooLong n=false:=by unfold Builtin.List.listTooLong;show Ü ()
end
section
variable{X:Cx}
def cY:V->ϊ V->Hp->VK->Prop:=λx vs H Q=>∃l xs y,x=↥l/\vs=[y]/\H l=!(.lst xs)/\↑xs<sizeLine/\Q .non (upd H l<|.lst<|xs++[y])
theorem Dk:MtM X "list.append" cY:=by
 intro c s p H x m v k Q I g f h;let#[l,o,y,rfl,rfl,b,j,q]:=h;cases g;let#[u,rfl,d]:=f.one;let#[z,a,n,r,i,e]:=I.lstM b;show ε F.slot_list_append #[_,e,Z] F.entry_list_append (F.args_list_append_2 _ _) (PySem.list_append l a.toArray n u<|by rw[Ù];rfl') #[e,?_];show#[.non,_,I.lset (its':=a++[u]) b e (by simp) (r.append<|.cons d .nil) ?_,Z,q];rw[É,ã];rfl'
def oO:V->ϊ V->Hp->VK->Prop:=λx vs H Q=>∃l b xs zs,x=↥l/\vs=[↥b]/\H l=!(.lst xs)/\H b=!(.lst zs)/\↑xs+↑zs<=sizeLine/\Q .non (upd H l<|.lst<|xs++zs)
theorem rN:MtM X "list.extend" oO:=by
 intro i s K H x D v C Q I y w h;let#[l,b,E,J,rfl,rfl,g,k,B,q]:=h;cases y;let#[u,rfl,t]:=w.one;cases t;let#[z,c,n,r,A,e]:=I.lstM g;let#[G,a,o,p,m,j]:=I.lstM k;have f:c.toArray.size+a.toArray.size<=sizeLine:=by rw[Ù,Ù];rfl'
 have d:¬(not c.toArray.isEmpty&&Builtin.List.listTooLong (c.toArray.size+a.toArray.size))=true:=by rw[vV f,Bool.and_false];show Ï
 show ε F.slot_list_extend #[_,e,Z] F.entry_list_extend (F.args_list_extend_2 _ _)
  (AutoSeq1.list_extend_list_list_0 l c.toArray n b a.toArray o d (by rw[Ù];rfl') ()) #[e,j,?_];show#[.non,_,I.lset (its':=c++a) g e (by simp) (r.append p) ?_,Z,q];rw[É];rfl'
def Ur:V->ϊ V->Hp->VK->Prop:=λx vs H Q=>∃l xs y,x=↥l/\vs=[]/\H l=!(.lst xs)/\xs[↑xs-1]?=!y/\Q y (upd H l<|.lst xs.dropLast)
theorem Us:MtM X "list.pop" Ur:=by
 intro f s A H x t v p Q I o m h;let#[l,w,y,rfl,rfl,d,j,q]:=h;cases o;have b:=m.zero;subst b;let#[z,a,n,r,g,e]:=I.lstM d;let#[u,i,k]:=r.get j;have c:a.toArray[a.toArray.size-1]?=!u:=by change a.toArray[↑a-1]?=!u;rw[<-ö,<-g];show i
 show ε F.slot_list_pop #[_,e,Z] F.entry_list_pop (F.args_list_pop_1 _) (MeetsSeq.list_pop_last l a.toArray n u c<|by rw[Ù];rfl') #[e,?_];show#[y,_,I.lset (its':=a.dropLast) d e ?_ r.dropLast ?_,k,q];.show a.toArray.eraseIdxIfInBounds (a.toArray.size-1)=a.dropLast.toArray;rw[Ù,List.eraseIdxIfInBounds_toArray,yJ]
 .rw [List.length_dropLast];rfl'
def yK:V->ϊ V->Hp->VK->Prop:=λx vs H Q=>∃l xs i k y,x=↥l/\vs=[.int i]/\H l=!(.lst xs)/\-(2^63)<=i/\i<2^63/\seqIndex? i ↑xs=!k/\xs[k]?=!y/\Q y (upd H l<|.lst<|xs.eraseIdx k)
theorem Gf:MtM X "list.pop" yK:=by
 intro d s J H x G v E Q I C B h;let#[l,D,i,k,y,rfl,rfl,c,f,g,j,p,q]:=h;cases C;let#[u,rfl,A]:=B.one;let#[t,rfl]:=A;let#[z,a,n,r,m,e]:=I.lstM c;let#[w,o,b]:=r.get p;show ε F.slot_list_pop #[_,e,Z] F.entry_list_pop (F.args_list_pop_2 _ _)
  (MeetsSeq.list_pop_at l a.toArray n i t k w (fitsIndex_both f g) (by rw[Ù,<-m];show j) (by rw[<-ö];show o)<|by rw[Ù];rfl') #[e,?_];show#[y,_,I.lset (its':=a.eraseIdx k) c e ?_ (r.eraseIdx k) ?_,b,q];.show a.toArray.eraseIdxIfInBounds k=(a.eraseIdx k).toArray;rw[List.eraseIdxIfInBounds_toArray]
 .have:=rM D k;rfl'
def Ut:R2:=λx y H Q=>∃l b xs zs,x=↥l/\y=↥b/\H l=!(.lst xs)/\H b=!(.lst zs)/\↑xs+↑zs<=sizeLine/\∀p,H p=none->Q ↥p (upd H p<|.lst<|xs++zs)
theorem Uu:jw X (binaryOp .Add) Ut:=by
 intro d s E H x y v u Q I o p h;let#[l,b,B,D,rfl,rfl,j,i,w,q]:=h;cases o;cases p;let#[z,c,n,r,t,e]:=I.lstM j;let#[C,a,A,m,k,f]:=I.lstM i;show PySem.P.add_list e f ?_ (by rw[Ù,Ù];rfl');have g:c.toArray++a.toArray=(c++a).toArray:=by simp
 rw[g];show#[↥_,_,I.lnew (t':=s.toks) (r.append m)<|by rw[É];rfl',Z,q _ I.fresh]
def Ye:R2:=λx y H Q=>∃l k xs,x=↥l/\y=.int k/\H l=!(.lst xs)/\-(2^63)<=k/\k<2^63/\↑xs*k.toNat<=sizeLine/\∀p,H p=none->Q ↥p (upd H p<|.lst (List.replicate k.toNat xs).flatten)
theorem len_rep{b:Type}(a:ϊ b)(k:Nat):↑(List.replicate k a).flatten=k*↑a:=by induction k with
 |zero=>simp|succ k ih=>rw[ŧ,π,É,ih,Nat.succ_mul,ń]
theorem Uv:jw X (binaryOp .Mult) Ye:=by
 intro w s M H x y v u Q I G J h;let#[l,k,L,rfl,rfl,D,B,C,p,q]:=h;cases G;let#[t,rfl]:=J;let#[z,b,n,r,E,e]:=I.lstM D;have g:b.toArray.size*k.toNat<=sizeLine:=by rw[Ù,<-E];show p
 have d:¬b.toArray.size*k.toNat>(2^63-1)/8:=by
  have:(sizeLine:Nat)<=(2^63-1)/8:=by decide
  rfl'
 have f:¬(not (Builtin.List.listFitsIndex k))=true:=by rw[fitsIndex_both B C];show Ï
 have c:¬Builtin.List.listTooLong (b.toArray.size*k.toNat)=true:=by rw[vV g];show Ï
 have i:List.foldl (λj o=>j++o) ([].toArray) (List.replicate (if b.toArray.isEmpty=true then 0 else k.toNat) b.toArray)=(List.replicate k.toNat b).flatten.toArray:=by
  have A:∀m:Nat,List.foldl (λj o=>j++o) ([].toArray) (List.replicate m b.toArray)=(List.replicate m b).flatten.toArray:=λm=>by
   have:=foldl_rep b m [];rw[Φ]at this;show this
  rw[A];cases b with
  |nil=>simp|cons a r'=>rw[γ<|by simp]
 show wpAny_binaryOp_repeat_ref (T:="list") (U:="int") (by decide) #[_,e,Z] (λK=>typeIs_int K k t) noFill_list_mul F.fills_int_mul F.slot_int_rmul repeat_list F.slot_int_index.lookup (ε F.slot_int_rmul (typeIs_int s k t) F.entry_int_rmul (F.args_int_rmul_2 _ _) (int___rmul___int_list k t l b.toArray n)
   #[e,Z,#[_,e,Z],ε F.slot_list_mul #[_,e,Z] F.entry_list_mul (F.args_list_mul_2 _ _) (AutoListH.list___mul___list_int_3 l b.toArray n k t f d c) #[e,?_]]);rw[i];show#[↥_,_,I.lnew (t':=s.toks) (r.rep k.toNat)<|by rw[len_rep,Nat.mul_comm];show p,Z,q _ I.fresh]
end
end L2
namespace Att
open PySem PySem.W PySem.Calls PyProof.Rows
variable{n:Nat}
theorem oA:∀(ns:ϊ Int)(vs:ϊ ϋ),WellAll P h vs (ns.map WData.int)->IntsAre vs ns:=by intro ns;induction ns with
 |nil=>intro vs w;rw[Đ]at w;cases w;show .nil|cons n ns ih=>
  intro vs w;rw[Ç]at w;cases w with|cons a b=>cases a;show .cons _ _<|ih _ b
theorem Dm{l:OpenLaw}(p:l.most=!n){P:Params}{h:ϒ}(b:l.row.toRowW.claim.pre args=true) (i:WellAll P h vals args):∃a vs ns,vals=[Value.ref a]/\args=[WData.list<|ns.map WData.int]/\h.get? a=!{cls:=.type "list",data:=.seq vs.toArray}/\IntsAre vs ns/\↑ns<=n:=by
 have g:WShape.hasAll [] args [.list .int]=true:=(pre_splitW b).1;have j:l.pre.holds [] {args:=args}=true:=(pre_splitW b).2;let#[d,r,rfl,k,m]:=hasAllW_cons g;obtain rfl:=hasAllW_nil m;let#[t,rfl,o]:=hasW_list k;let#[ns,rfl]:=items_int o;have c:↑ns<=n:=by
  unfold OpenLaw.pre at j;have e:(WTm.not (.lt (.lit<|.int (n:Int))<|.len<|.arg 0)).holds [] {args:=[.list<|ns.map .int] }=true:=by have e:=(holds_andW j).1;rw[p]at e;show e
  have f:=condW_of e<|w_not<|w_lt w_lit<|w_len_list<|w_arg Z;rw[Qb]at f;show Nat.le_of_not_lt λq=>?_
  have s:(n:Int)<((↑ns:Nat):Int):=();first
   |(rw[Ô s]at f;show μ f<|by decide)|(simp at f;rfl')
 cases i with|cons w1 w2=>cases w2;cases w1 with
  |list ho hall=>show#[_,_,ns,Z,Z,ho,oA ns _ hall,c]
theorem Do(l:OpenLaw)(a:ϊ WData):l.row.toRowW.claim.post a (.bool true) a=true:=postW_of (r:=l.row.toRowW) (X:=(true==true))
  (show WShape.has [] (.bool true) .bool=true by first|rfl| decide | simp[WShape.has,WShape.arms,WShape.armsAll])
  (show(WTm.eq .res<|.lit<|.bool true).value [] {args:=a,res:=!(.bool true),after:=a}=!(.bool<|true==true)from w_eq_bool (w_res Z) w_lit) Z
theorem vW{l:OpenLaw}(K:l.most=!n) (p:d.params.defaults=[])(c:∀(w:ϕ)(b s₁:ώ)(mg u:ϐ->ύ ϋ)(h:ό)(o:Obj)(v cd e:ϋ)(a:ό)(vs:ϊ ϋ)(ns:ϊ Int),Ground q loose [] XP w b mg u s₁.heap->YP w s₁.heap->s₁.heap.get? h=!o->o.data=.func (docDef d.name d.params d.body d.scope v cd e)->s₁.heap.CodeRec cd d.name->mg d.name=!↥h->
   s₁.heap.get? a=!{cls:=.type "list",data:=.seq vs.toArray}->IntsAre vs ns->↑ns<=n->s₁.gens=([].toArray)->
   codeAny (model l.prog w) callerA (.call ↥h #[[↥a],[]]) (λr s'=>r=.ok (.ret<|.bool true)/\OldK s₁.heap s'.heap/\s'.os=s₁.os/\AllBare s'.gens) s₁):WalkO q loose XP YP l.row.toRowW d [] (λf vs=>PySem.call f vs):=by intro w b s₁ mg u G Y h o v cd e B kV L F m y s H x A O k z N t I;obtain rfl:B=.none:=Dflts.none y p;obtain rfl:kV=.none:=Dflts.noKw y;let#[a,vs,ns,rfl,rfl,j,g,i]:=Dm K k t;show enter_call<|š (c w b s₁ mg u h o v cd e a vs ns G Y L (fd_plain F) m s j g i H) λr s' M=>?_;let#[rfl,C,D,E]:=M;show#[.inl #[.bool true,.bool true,[],Z,λ_=>Z,.bool true,Do l _,λ_=>#[List.Pairwise.nil,λ_ J=>(nomatch J)]],C,D,E]
section
end
end Att
namespace L2
open PySem PySem.Spec PyProof.Rows
variable{y:V}{n:Nat}{B:Prop}{H:Hp}{st:Stmt}{w:ϕ}{A:ϖ}{d:DefRec}{a b f:ό}{qual x:ϐ}{fd:FuncData}{CX:ϕ->G5}{sp:ϕ->Sp}{oc u:ϋ}{an:ύ ό}{loose:ϊ ϐ}{prog q:ϓ}{YP:ϕ->ϒ->Prop}{E Q:϶}{osl:ϔ (ύ ϋ)}{XP:(ϐ->ύ ϋ)->ϒ->Prop}
theorem rO{b:ϊ ϋ}{a:ϊ Int}(h:IntsAre b a):Vals (a.map V.int) b:=by induction h with
 |nil=>show .nil|cons n t _ ih=>show .cons #[t,Z] ih
def Only(H:Hp):Prop:=∀b,H b=none\/∃o xs,H b=!(.frz o<|.lst xs)
theorem Gg{P:ϓ}{K:Ϗ}{I T:ϐ->ύ ϋ}{X:G5}{k:Nat}{O:ό}{sp:Sp}{l:ϊ ϋ}{J:ϊ Int}(Y:K.In s₁.heap) (C:s₁.heap.Ns mainGlobals I) (f:s₁.heap.Ns builtinsNs T) (R:∀x:ϐ,x≠"__name__"->T x=bootBuiltins x) (B:s₁.heap.NoLimit) (hg:s₁.gens=([].toArray))(M:s₁.heap.get? a=!{cls:=.type "list",data:=.seq l.toArray}) (hi:IntsAre l J) (hl:↑J<=sizeLine) (hr:Room k callerA)(F:∀base:ϒ,K.In base->base.Ns mainGlobals I->FnOk P w K I base X k O fd [x] sp) (j:∀(s:ώ)(u:ϋ),BindsTo s fd #[[u],[]] [(x,u)])(S:∀H:Hp,Only H->SqL K H a (J.map V.int)->sp [↥a] H (λv _=>v=.bl true) λ_ _ _=>False)(Q:∀H e s',X [] H s₁ (λ_ _ _=>False) e s'->False):codeAny (model P w) callerA (.call ↥O #[[↥a],[]]) (λr s'=>r=.ok (.ret<|.bool true)/\OldK s₁.heap s'.heap/\s'.os=s₁.os/\AllBare s'.gens) s₁:=by
 have rv:=rO hi;have G:=↑hi;have i:∀H:Hp,Only H->SqL K H a (J.map V.int)->HOk P w H s₁.heap-> (∀b,H b ≠ none->b=a)-> (H a ≠ none->K.lookup a=none)->codeAny (model P w) callerA (.call ↥O #[[↥a],[]]) (λr s'=>r=.ok (.ret<|.bool true)/\OldK s₁.heap s'.heap/\s'.os=s₁.os/\AllBare s'.gens) s₁:=by
  intro H hO hS D hA hK;have c:∀{b:ό}{o:Obj},s₁.heap.get? b=!o->H b=none->(tW s₁.heap H).get? b=!o:=λe n=>Fv e n;have U:∀{b:ό}{o:Obj}{y:ϔ DictEntry}{t:Nat},s₁.heap.get? b=!o->o.data=.dict y t->H b=none:=λ{b o y t} e d=>by cases q:H b with
   |none=>rfl|some u=>
    have N:b=a:=hA b (by rw[q];simp);subst N;rw[M]at e;cases e;have d':Data.seq l.toArray _=Data.dict y t:=d;cases d'
  have g:∀{b:ό}{m:ϐ->ύ ϋ},s₁.heap.Ns b m->(tW s₁.heap H).Ns b m:=λ{b m} ⟨o,y,t,e,d,r⟩=>#[o,y,t,c e<|U e d,d,r];have A:K.In (tW s₁.heap H):=λb o e=>c (Y b o e) (by cases q:H b with
   |none=>rfl|some u=>have N:b=a:=hA b (by rw[q];simp);subst N;rw[hK (by rw[q];simp)]at e;cases e);have hM:Mod K I (tW s₁.heap H):=#[A,g C,#[T,g f,R],let⟨mc,h1,h2⟩:=B;#[mc,g h1,h2]];have e0:Env0 P w K I (tW s₁.heap H) callerA [] s₁ H:=#[Z,hM,λb o e=>O3 e,đ<|CZ _ _,trivial,λb f=>μ (show b∈([]:ϊ ό)from f) (by simp),D,.of_eq hg];show š ((F _ A<|g C).run callerA [] s₁ H #[[↥a],[]] [↥a] [↥a] _ _ hr e0 (j s₁<|.ref a) (.cons Z .nil)<|S H hO hS) λr s' h=>?_;cases r with
  |error e=>show(Q H e s' h).elim|ok fl=>cases fl with
   |next=>show False.elim h|brk=>show False.elim h|cont=>show False.elim h|ret u=>
    let#[v,H',os,p,un,E,r',q]:=h;have q':v=.bl true:=q;subst q';obtain rfl:u=Value.bool true:=r';show#[Z,OldK.of_keep λb o e=>?_,os,p];cases q:H b with
    |none=>show un.keep b o e q (by intro z;show μ (show b∈([]:ϊ ό)from z) (by simp)) (by simp)|some u=>
     rcases hO b with z|⟨ob,xs,z⟩;.rw [q]at z;cases z
     .have z2:=un.frzs b ob _ z;let#[zz,_]:=D b _ z;let#[e2,_]:=E b _ z2;rw[e]at zz;cases zz;show e2
 cases hk:K.lookup a with
 |some o=>have e:=Y a o hk;rw[M]at e;cases e;show i (λ_=>none) (λ_=>.inl Z) (.inr #[_,l.toArray,_,hk,Z,Z,Z,by rw[Ù,G];show hl,by simpa using rv]) (λb u z=>by have L:(none:ύ HO)=!u:=z;cases L) (λb z=>μ Z z) λz=>μ Z z|none=>
  show i (λb=>if b=a then !(.frz {cls:=.type "list",data:=.seq l.toArray}<|.lst<|J.map V.int)else none) (λb=>?_) (.inl<|.inr #[{cls:=.type "list",data:=.seq l.toArray},β Z]) (λb u z=>?_) (λb z=>?_) λ_=>hk
  .by_cases f:b=a;.show .inr #[_,_,β f]
   .show .inl<|γ f
  .by_cases f:b=a;.have L:=(β f).symm.trans z;cases L;subst f;show#[M,by rw[Qb];show hl,l,_,rv,M]
   .have L:=(γ f).symm.trans z;cases L
  .by_cases f:b=a;.show f
   .show μ (γ f) z
theorem Oo{l:W.OpenLaw}{k:Nat}{K:Params->Ϗ}(N:l.most=!n) (t:n<=sizeLine) (p:d.params.defaults=[]) (O:Room k callerA)(I:∀(w:ϕ)(h:ϒ),YP w h->(K w.params).In h)(F:∀(w:ϕ)(mg:ϐ->ύ ϋ)(j:ό)(h:ϒ),(K w.params).In h->h.Ns mainGlobals mg->mg d.name=!↥j->∃fd:FuncData,(∀(s:ώ)(u:ϋ),BindsTo s fd #[[u],[]] [(x,u)])/\∀base:ϒ,(K w.params).In base->base.Ns mainGlobals mg->FnOk l.prog w (K w.params) mg base (CX w) k j fd [x] (sp w))(y:∀(w:ϕ)(H:Hp)(a:ό)(ns:ϊ Int),↑ns<=n->Only H->SqL (K w.params) H a (ns.map V.int)->sp w [↥a] H (λv _=>v=.bl true) λ_ _ _=>False)(m:∀(w:ϕ)(H:Hp)(s:ώ)(e:ϋ)(s':ώ),CX w [] H s (λ_ _ _=>False) e s'->False):
  PySem.W.WalkO q loose XP YP l.row.toRowW d [] (λf vs=>PySem.call f vs):=by
 show Att.vW N p λw A i mg S j o T P B a vs ns G Y R Q L r g c b M=>?_
 have z:=I w _ Y;let#[fd,J,C]:=F w mg j _ z G.T.g r;show Gg z G.T.g G.T.b G.T.builtins G.T.nolimit M g c (Í b t) O C J (λH D E=>y w H a ns b D E) λH e s'=>m w H i e s'
abbrev Gh:G5:=λ_ _ _ _ _ _=>False
abbrev E0:XK:=λ_ _ _=>False
def Rv{X:Cx}:yD Gh X E0:=λ_ _ _ _ _ _ _ h=>h.elim
structure Fun(K:Ϗ)(x qual:ϐ)(st:Stmt)(f:ό)(fd:FuncData):Prop where
 ex:∃(oc:ϋ)(od:ύ ό)(kV doc pm:ϋ)(an:ύ ό)(cdv ct:ϋ)(osl:ϔ<|ύ ϋ),fd=W.fnOf x qual (dR st) (dh st) (aY st) .none kV doc pm an cdv ct/\K.lookup f=!#[oc,od,.func fd,osl]/\W.codeIn K cdv qual=true
 kp:W.keepIn K ↥f=true
section
variable{K:Ϗ}
theorem Fun.ok{N g:ϊ ϐ}{k:Nat}{i:Sp}(F:Fun K x qual st f fd)(S:FnScope N g<|aY st)(e:∀vs H Q E,i vs H Q E->↑vs=↑g)(b:∀(a:ϋ)(A:ϖ)(outer:ϊ Env)(s:ώ)(H:Hp)(vs:ϊ V)(Q:VK)(E:XK),Room k (A.deeper<|envOfC qual (aY st) ⇑s f a)->i vs H Q E->∃t,PSs (yE Gh P w K mg base N qual (aY st) f a A outer s H E).nox (dh st) t/\t {nx:=λ_ H'=>Q .non H',rt:=Q} (start N vs) H):FnOk P w K mg base Gh (k+1) f fd g i:=by
 let#[p,r,kV,j,u,n,a,o,m,rfl,lk,c]:=F.ex;show Rt lk c S e λA outer s H vs Q E l d=>?_;let#[t,h,q]:=b a A outer s H vs Q E l d;show#[t,h.nox,q]
theorem Fun.binds{e:ϊ ϐ}(F:Fun K x qual st f fd)(h:∀(kV b d:ϋ)(an:ύ ό)(a c:ϋ)(us:ϊ ϋ),↑us=↑e->bindArgs (W.fnOf x qual (dR st) (dh st) (aY st) .none kV b d an a c) #[us,[]]=pure (e.zip us)):Binds K fd e []:=by let#[j,k,kV,b,d,an,a,c,i,rfl,lk,g]:=F.ex;show .all (h kV b d an a c)
def yL{g:ύ ό}{kV b e a d:ϋ}(l:K.lookup f=!#[oc,g,.func<|W.fnOf x qual (dR st) (dh st) (aY st) .none kV b e an a d,osl])(c:W.codeIn K a qual=true) (k:W.keepIn K ↥f=true):Fun K x qual st f (W.fnOf x qual (dR st) (dh st) (aY st) .none kV b e an a d):=#[#[oc,g,kV,b,e,an,a,d,osl,Z,l,c],k]
end
theorem bA{k:Nat}(a:Room k A):A.units+1<cLine:=Õ (Ρ (by decide:1<=64) _) a.units
theorem Dq(h:n<=1000):n<sizeLine:=Õ h<|by decide
section
variable{X:Cx}
def pv(i:Nat){x:ϐ}{b:Pos}(c:X.N[i]?=!x:=by rfl)(e:Vis X.env.scope x:=by first|show Or.inl Z|show Or.inr (Or.inl Z)|show Or.inr<|Or.inr Z)(d:(x==("__debug__":ϐ))=false:=by decide)(a:(x==("__classdict__":ϐ))=false:=by decide):PE X (.Name x b) (jx i):=U6 c e d a
end
theorem Dr{A:Prop}(h:B):if false=true then A else B:=by rw[γ Ï];show h
theorem Ds{A:Prop}(h:A):if true=true then A else B:=by rw[β Z];show h
def Same(H H':Hp):Prop:=∀b o,H b=!o->H' b=!o
def Same.refl(H:Hp):Same H H:=λ_ _ h=>h
def gN:=@Same.refl
def Same.trans{d:Hp}(a:Same H d)(b:Same d e):Same H e:=λc o h=>b c o<|a c o h
theorem Same.free(e:Same H H')(h:H' l=Option.none):H l=Option.none:=by cases q:H l with
 |none=>rfl|some o=>
  rw[e l o q]at h;cases h
theorem Same.seq{K:Ϗ}{b:ϊ V}(e:Same H H')(h:SqL K H a b):SqL K H' a b:=by
 rcases h with(h|⟨o,h⟩)|h;.show .inl<|.inl<|e _ _ h
 .show .inl<|.inr #[o,e _ _ h]
 .show .inr h
section
variable{κ:Type}[DecidableEq κ]
noncomputable def bu(kvs:ϊ<|κ×V)(k:κ):ύ V:=(kvs.find? λkv=>decide<|kv.1=k).map (·.2)
noncomputable def putK(kvs:ϊ<|κ×V)(k:κ)(v:V):ϊ (κ×V):=
 if(kvs.any λkv=>decide<|kv.1=k)=true then kvs.map (λkv=>if kv.1=k then(kv.1,v)else kv)else kvs++[(k,v)]
noncomputable def eQ(kvs:ϊ<|κ×V)(k:κ):ϊ (κ×V):=kvs.filter λkv=>decide<|kv.1≠k
theorem cF{p:κ×V}{r:ϊ<|κ×V}{k:κ}(e:p.1=k):bu (p::r) k=!p.2:=by simp[bu,Ğ,e]
theorem bM{p:κ×V}{r:ϊ<|κ×V}{k:κ}(e:¬p.1=k):bu (p::r) k=bu r k:=by simp[bu,Ğ,e]
theorem jB(k:κ):∀kvs:ϊ<|κ×V,(kvs.any λa=>decide<|a.1=k)=(bu kvs k).isSome
 |[]=>Z|p::r=>by
  rw[Υ];by_cases e:p.1=k;.simp only[cF e,Ô e,Bool.true_or,Option.isSome_some]
  .rw [bM e,Ü e,Bool.false_or];show jB k r
theorem rP(k j:κ)(y:V):∀kvs:ϊ<|κ×V,bu kvs k=none->bu (kvs++[(k,y)]) j=if j=k then !y else bu kvs j
 |[],_=>by
  by_cases e:k=j;.rw [β e.symm];show cF (p:=(k,y)) e
  .rw [γ<|λz=>e z.symm];show bM (p:=(k,y)) e|p::r,hn=>by
  rw[Κ];have a:¬p.1=k:=λz=>by rw[cF z]at hn;cases hn
  rw[bM a]at hn;have b:=rP k j y r hn;by_cases e:p.1=j;.rw [cF e,cF e,γ<|λz=>a<|e.trans z]
  .rw [bM e,bM e,b]
theorem jC(a:ϊ<|κ×V)(k:κ)(v:V):↑(putK a k v)<=↑a+1:=by
 unfold putK;split;.rw [Qb];rfl'
 .rw [É,í,ĝ];rfl'
theorem cT{a:ϊ<|κ×V}{k:κ}(v:V)(h:bu a k=none):putK a k v=a++[(k,v)]:=by unfold putK;rw[jB,h];show γ<|by decide
theorem RelO.isSome_eq{u:ύ ϋ}(r:RelO o u):o.isSome=u.isSome:=by cases o with
 |none=>cases u with
  |none=>rfl|some _=>show(show False from r).elim
 |some _=>cases u with
  |none=>show(show False from r).elim|some _=>rfl
theorem RelO.getD{u:ύ ϋ}{d:V}(r:RelO o u)(a:RelV d d'):RelV (o.getD d) (u.getD d'):=by cases o with
 |none=>cases u with
  |none=>show a|some _=>show(show False from r).elim
 |some _=>cases u with
  |none=>show(show False from r).elim|some _=>show r
theorem KV.val{a:ϊ<|κ×V}{f:ϊ<|κ×ϋ}(r:KV a f)(k:κ):RelO (bu a k) (valueAt f k):=by unfold KV at r;induction r with
 |nil=>show True.intro|@cons p q ps qs h t ih=>
  let#[d,g]:=h;by_cases e:p.1=k
  .have c:q.1=k:=d.symm.trans e;have b:valueAt (q::qs) k=!q.2:=by simp[valueAt,Ğ,c]
   rw[cF e,b];show g
  .have c:¬q.1=k:=λz=>e<|d.trans z;have b:valueAt (q::qs) k=valueAt qs k:=by simp[valueAt,Ğ,c]
   rw[bM e,b];show ih
theorem KV.any{a:ϊ<|κ×V}{c:ϊ<|κ×ϋ}(r:KV a c)(k:κ):(a.any λb=>decide<|b.1=k)=c.any λb=>decide (b.1=k):=by unfold KV at r;induction r with
 |nil=>rfl|cons h t ih=>rw[Υ,Υ,ih,h.1]
theorem KV.repl{b:ϊ<|κ×V}{d:ϊ<|κ×ϋ}(r:KV b d)(k:κ)(g:RelV y u):KV (b.map λa=>if a.1=k then(a.1,y)else a) (d.map λa=>if a.1=k then(a.1,u)else a):=by unfold KV at r⊢;induction r with|nil=>show .nil|@cons p q ps qs h t ih=>
  rw[Ç,Ç];show .cons ?_ ih;let#[c,f]:=h;by_cases e:p.1=k
  .rw [β e,β<|c.symm.trans e];show#[c,g]
  .rw [γ e,γ<|λz=>e<|c.trans z];show#[c,f]
theorem KV.put{a:ϊ<|κ×V}{b:ϊ<|κ×ϋ}(r:KV a b)(k:κ)(c:RelV y u):KV (putK a k y) (stored b k u):=by
 unfold putK stored;rw[r.any k];by_cases e:(b.any λd=>decide<|d.1=k)=true;.rw [β e,β e];show r.repl k c
 .rw [γ e,γ e];show Paired.snoc r #[Z,c]
theorem KV.keys{a:ϊ<|κ×V}{b:ϊ<|κ×ϋ}(r:KV a b):a.map (·.1)=b.map (·.1):=by
 unfold KV at r;induction r with
 |nil=>rfl|cons h t ih=>rw[Ç,Ç,ih,h.1]
def KV.length{a:ϊ<|κ×V}{b:ϊ<|κ×ϋ}(r:KV a b):↑a=↑b:=ħ r
def Gi(a:ϊ<|κ×V)(k:κ):↑(eQ a k)<=↑a:=Ħ _ _
end
theorem rQ(r:RelV (kV k) u):(bI P w).is k u=true:=by cases k with
 |inl i=>let#[t,e]:=(show∃t,u=Value.int i t from r);subst e;show vI P w i t|inr x=>let#[t,e]:=(show∃t,u=Value.str x t from r);subst e;show vJ P w x t
theorem rR{w:ϕ}:∀{ks:ϊ Key}{us:ϊ ϋ},Vals (ks.map kV) us->ItemsAre (bI P w) ks us
 |[],_,r=>by rw[Đ]at r;cases r;show .nil|k::ks,_,r=>by
  rw[Ç]at r
  cases r with|cons h t=>show .cons (rQ h)<|rR t
abbrev KT(H:Hp):ϊ (ϊ Key×V)->ϊ (ϊ Key×ό×ϋ)->Prop:=Paired λp q=>p.1=q.1/\H q.2.1=!(.tup<|p.1.map kV)/\RelV p.2 q.2.2
theorem KT.val{d:ϊ<|ϊ Key×ό×ϋ}(r:KT H kvs d)(k:ϊ Key):RelO (bu kvs k) ((atKey d k).map (·.2)):=by induction r with
 |nil=>show True.intro|@cons p q ps qs h t ih=>
  let#[c,_,f]:=h;by_cases e:p.1=k
  .have a:q.1=k:=c.symm.trans e;have b:atKey (q::qs) k=!q.2:=by simp[atKey,Ğ,a]
   rw[cF e,b];show f
  .have a:¬q.1=k:=λz=>e<|c.trans z;have b:atKey (q::qs) k=atKey qs k:=by simp[atKey,Ğ,a]
   rw[bM e,b];show ih
theorem KT.repl{d:ϊ<|ϊ Key×ό×ϋ}(r:KT H kvs d)(k:ϊ Key)(g:RelV y u):KT H (kvs.map λb=>if b.1=k then(b.1,y)else b) (d.map<|putAt k u):=by induction r with
 |nil=>show .nil
 |@cons p q ps qs h t ih=>
  rw[Ç,Ç];show .cons ?_ ih;let#[a,c,f]:=h;unfold putAt;by_cases e:p.1=k;.rw [β e,β<|a.symm.trans e];show#[a,c,g]
  .rw [γ e,γ<|λz=>e<|a.trans z];show#[a,c,f]
theorem KT.put{a:ϊ<|ϊ Key×ό×ϋ}(r:KT H kvs a)(k:ϊ Key)(d:H b=!(.tup<|k.map kV))(c:RelV y u):KT H (putK kvs k y) (storedH a k b u):=by
 have e:(kvs.any λf=>decide<|f.1=k)=(atKey a k).isSome:=by rw[jB,(r.val k).isSome_eq,Ţ]
 unfold putK storedH;rw[e];by_cases q:(atKey a k).isSome=true;.rw [β q,β q];show r.repl k c
 .rw [γ q,γ q];show Paired.snoc r #[Z,d,c]
def KT.keeps{a:ϊ<|ϊ Key×ό×ϋ}(r:KT H kvs a)(c:∀b ys,H b=!(.tup ys)->H' b=!(.tup ys)):KT H' kvs a:=Paired.mapP r λ_ _ z=>#[z.1,c _ _ z.2.1,z.2.2]
section
def Rw{u:HO}(b:HOk P w H h)(e:Rd H a u):ObjOk P w H h a u:=e.ok b
def lJ{b:ϊ<|Key×V}(c:HOk P w H h)(e:Rd H a<|.dK b):↑b<=sizeLine/\(a==sysModules)=false/\∃vs,KV b vs/\h.DictOf (bI P w) a vs:=
 show ObjOk P w H h a (.dK b)from Rw c e
def Rx{b:ϊ<|Key×V}(c:HOk P w H h)(e:H a=!(.dK b)):↑b<=sizeLine/\(a==sysModules)=false/\∃vs,KV b vs/\h.DictOf (bI P w) a vs:=lJ c<|.inl e
theorem jD(i:HOk P w H h)(e:H a=!(.tup<|c.map kV)):(tupleKind<|bI P w).is h c a:=by let#[_,b,r,o,d,f,n,g]:=(show ObjOk P w H h a (.tup<|c.map kV)from i a _ e);show#[o,b.toArray,n,d,f,g,by simpa using rR r]
theorem rT(c:HOk P w H h)(e:Rd H a<|.dT kvs):↑kvs<=sizeLine/\(a==sysModules)=false/\∃xs,KT H kvs xs/\h.DictOfH (tupleKind<|bI P w) a xs:=by
 let#[z,y,xs,r,o,f,d,g,i,j,k,n]:=(show ObjOk P w H h a (.dT kvs)from Rw c e);show#[z,y,xs,r,o,f,d,g,i,j,k,λx hx=>?_,n];have b:∀{l:ϊ<|ϊ Key×V}{m:ϊ<|ϊ Key×ό×ϋ},KT H l m->∀x∈m,(tupleKind<|bI P w).is h x.1 x.2.1:=by intro l m q;induction q with
  |nil=>intro x hx;show nomatch hx|@cons p q ps qs hq t ih=>
   intro x hx;rcases Å.mp hx with e|hx;.subst e;show jD c<|by rw[<-hq.1];show hq.2.1
   .show ih x hx
 show b r x hx
def pG(b:HOk P w H h)(e:H a=!(.dT kvs)):↑kvs<=sizeLine/\(a==sysModules)=false/\∃xs,KT H kvs xs/\h.DictOfH (tupleKind<|bI P w) a xs:=rT b<|.inl e
end
def DGet(H:Hp)(a:ό)(y:V)(r:ύ V):Prop:=(∃kvs k,Rd H a (.dK kvs)/\y=kV k/\r=bu kvs k)\/∃kvs k b,Rd H a (.dT kvs)/\y=↥b/\H b=!(.tup<|k.map kV)/\r=bu kvs k
def DPut(H:Hp)(a:ό)(y v:V)(H':Hp):Prop:=(∃kvs k,H a=!(.dK kvs)/\y=kV k/\↑kvs<sizeLine/\H'=upd H a (.dK (putK kvs k v)))\/∃kvs k b,H a=!(.dT kvs)/\y=↥b/\H b=!(.tup (k.map kV))/\↑kvs<sizeLine/\H'=upd H a (.dT (putK kvs k v))
theorem DGet.k{H:Hp}{a:ό}{b:ϊ<|Key×V}{k:Key}(e:H a=!(.dK b)):DGet H a (kV k) (bu b k):=.inl #[b,k,.inl e,Z,Z]
def DGet.t{k:ϊ Key}(e:H a=!(.dT kvs))(c:H b=!(.tup<|k.map kV)):DGet H a ↥b (bu kvs k):=.inr #[kvs,k,b,.inl e,Z,c,Z]
theorem DPut.k{H:Hp}{a:ό}{b:ϊ<|Key×V}{k:Key}{v:V}(e:H a=!(.dK b))(c:↑b<sizeLine):DPut H a (kV k) v (upd H a<|.dK<|putK b k v):=.inl #[b,k,e,Z,c,Z]
def DPut.t{k:ϊ Key}{v:V}(e:H a=!(.dT kvs))(c:H b=!(.tup<|k.map kV))(d:↑kvs<sizeLine):DPut H a ↥b v (upd H a<|.dT<|putK kvs k v):=.inr #[kvs,k,b,e,Z,c,d,Z]
section
variable{X:Cx}
theorem Inv.big(I:Inv X gE σ H s):sysModules<⇑s:=by have h:mainGlobals<⇑s:=(I.mod.glob.keeps I.bk).lt;show Λ (by decide) h
theorem Dt(t:A.units+1<cLine)(I:Inv X gE σ H s)(g:DGet H a y !v)(n:RelV y u)(h:∀f s',Inv X gE σ H s'->RelV v f->Q f s'):wpAny (model X.prog X.w) A (getItem ↥a u) Q E s:=by
 rcases g with⟨kvs,k,e,ey,l⟩|⟨kvs,k,b,e,ey,eb,l⟩;.subst ey;let#[z,q,w,c,i]:=lJ I.hok e;let#[f,m,d]:=RelO.some_of (v:=v) (o:=valueAt w k) (by rw[l];show c.val k);show wpAny_getItem_of (rQ n) i.mapOf m<|h f _ (I.tok _) d
 .subst ey;cases(show u=Value.ref b from n);let#[z,q,x,c,i]:=rT I.hok e;let#[f,m,d]:=RelO.some_of (v:=v) (o:=(atKey x k).map (·.2)) (by rw[l];show c.val k);let#[p,r,j]:=Î.mp m;show wpAny_getItem_heap (Ŗ t) (jD I.hok eb) i r ?_;rw[j];show h f _ (I.tok _) d
theorem a0k(j:A.units+1<cLine)(I:Inv X gE σ H s)(g:DGet H a y o)(i:RelV y u)(h:∀s',Inv X gE σ H s'->Q (.bool o.isSome) s'):wpAny (model X.prog X.w) A (compareOp .In u<|.ref a) Q E s:=by
 rcases g with⟨kvs,k,e,ey,l⟩|⟨kvs,k,b,e,ey,eb,l⟩;.subst ey;let#[z,f,m,c,d]:=lJ I.hok e;show wpAny_in_of (rQ i) f d.mapOf ?_;rw[<-(c.val k).isSome_eq,<-l];show h _<|I.tok _
 .subst ey;cases(show u=Value.ref b from i);let#[z,f,n,c,d]:=rT I.hok e;show wpAny_in_heap (Ŗ j) (jD I.hok eb) f d ?_;have q:=(c.val k).isSome_eq;rw[Ţ]at q;rw[<-q,<-l];show h _<|I.tok _
theorem Oq(j:A.units+1<cLine)(I:Inv X gE σ H s)(g:DGet H a y o)(i:RelV y u)(h:∀s',Inv X gE σ H s'->Q (.bool<|not o.isSome) s'):wpAny (model X.prog X.w) A (compareOp .NotIn u<|.ref a) Q E s:=by
 rcases g with⟨kvs,k,e,ey,l⟩|⟨kvs,k,b,e,ey,eb,l⟩;.subst ey;let#[z,f,m,c,d]:=lJ I.hok e;show wpAny_notIn_of (rQ i) f d.mapOf ?_;rw[<-(c.val k).isSome_eq,<-l];show h _<|I.tok _
 .subst ey;cases(show u=Value.ref b from i);let#[z,f,n,c,d]:=rT I.hok e;show wpAny_notIn_heap (Ŗ j) (jD I.hok eb) f d ?_;have q:=(c.val k).isSome_eq;rw[Ţ]at q;rw[<-q,<-l];show h _<|I.tok _
theorem jc{i:Nat}(I:Inv X gE σ H s)(h:Y6<|H a)(g:Heap.SameBut a s.heap h')(f:∃q,h'.get? a=!q)(c:ObjOk X.prog X.w (upd H a ob) h' a ob):Inv X gE σ (upd H a ob) {s with heap:=h',toks:=i}:=I.write (x:=a) (e:=a) h (.inl Z) (λb q d z=>(g.2 b d).trans z) f c
def Gj{b:ϊ<|Key×V}{d:ϊ<|Key×ϋ}(z:↑b<=sizeLine)(f:(a==sysModules)=false)(c:KV b d)(e:h'.DictOf (bI P w) a d):ObjOk P w H' h' a (.dK b):=#[z,f,d,c,e]
theorem Du{Q:Unit->ώ->Prop}(M:A.units+1<cLine)(I:Inv X gE σ H s)(g:DPut H a y v H')(B:RelV y u)(x:RelV v r)(h:∀s',Inv X gE σ H' s'->Q Unit.unit s'):wpAny (model X.prog X.w) A (setItem ↥a u r) Q E s:=by
 rcases g with⟨kvs,k,e,ey,l,eH⟩|⟨kvs,k,b,e,ey,eb,l,eH⟩
 .subst ey eH;let#[z,m,N,d,j]:=Rx I.hok e;have p:↑N<=sizeLine:=by rw[<-↑d];show z
  have n:↑(putK kvs k v)<=sizeLine:=by have:=jC kvs k v;rfl'
  show wpAny_setItem_pairs (hsz:=p) (rQ B) j λw f o=>h _ ?_;have L:∃q,w.get? a=!q:=let⟨q,_,_,i,_⟩:=f;#[q,i];show jc I (by rw[e];show True.intro) o L<|Gj n m (d.put k x) f
 .subst ey eH;cases(show u=Value.ref b from B);let#[z,m,O,d,j]:=pG I.hok e;have p:↑O<=sizeLine:=by rw[<-ħ d];show z
  have n:↑(putK kvs k v)<=sizeLine:=by have:=jC kvs k v;rfl'
  show wpAny_setItem_heap (hsz:=p) (Ŗ M) (jD I.hok eb) j λw f o=>h _ ?_;let#[q,D,C,i,F,G,J,_,K]:=f;show jc I (by rw[e];show True.intro) o ⟨q,i⟩ ⟨n,m,_,(d.put k eb x).keeps λc P t=>?_,q,D,C,i,F,G,J,K⟩;rw[aq<|dm t e<|λz=>nomatch z];show t
end
def Uw(i:Expr):Prop:=∀ov iv,subscripted i false ov iv=operate [ov,iv] (getItem ov iv)
theorem Be{b a:Expr}(k:typeLookup (.type T) "__getitem__"=pure !(.builtin m)) (l:Uw a)(h:∅ (eval b e) (λo s₁=>∅ (eval a e) (λi s₂=>s₂.TypeIs o T/\∅ (getItem o i) Q E s₂) E s₁) E s):∅ (eval (.Subscript b a pos) e) Q E s:=by
 show Subscript_<|ĉ h (λo s₁ f=>ĉ f (λi s₂ c=>?_) λ_ _ x=>x) λ_ _ x=>x;let#[j,c]:=c;unfold subscriptTail;show Qr ?_;rw[getitemInPython_of_ne j.not_modules];show Qr<|Ÿ j k ?_;have fin:∅ (subscripted a false o i) (λr d=>∅ (letTemporaryGo b o r>>=λ_=>pure r) Q E d) E s₂:=by rw[l o i];show wpAny_operating<|ĉ c (λr d g=>Qr<|wpAny_letTemporaryGo<|Wp g) λ_ _ x=>x
 first
  |show Wp (Qr fin)|show Qr (Wp<|Qr fin)|show Qr fin
theorem vX{X:Cx}(I:Inv X gE σ H s)(g:DGet H a y o):s.TypeIs ↥a "dict":=by
 rcases g with⟨kvs,k,e,_,_⟩|⟨kvs,k,b,e,_,_,_⟩;.obtain ⟨_,_,d,_,c⟩:=lJ I.hok e;show c.typeIs
 .obtain ⟨_,_,f,_,c⟩:=rT I.hok e;show c.typeIs
abbrev fQ(td ty:TE):TE:=λσ H Q=>td σ H λx H1=>ty σ H1 λy H2=>∃a v,x=↥a/\DGet H2 a y !v/\Q v H2
abbrev Dv(ty td:TE):TE:=λσ H Q=>ty σ H λy H1=>td σ H1 λx H2=>∃a o,x=↥a/\DGet H2 a y o/\Q (.bl o.isSome) H2
abbrev lK(ty td:TE):TE:=λσ H Q=>ty σ H λy H1=>td σ H1 λx H2=>∃a o,x=↥a/\DGet H2 a y o/\Q (.bl<|not o.isSome) H2
abbrev iH(td ty tv:TE):TS:=λD σ H=>tv σ H λv H1=>td σ H1 λx H2=>ty σ H2 λy H3=>∃a H4,x=↥a/\DPut H3 a y v H4/\D.nx σ H4
section
variable{X:Cx}
theorem cR(r:X.A.units+1<cLine)(p:PE X o td)(n:PE X i ty)(q:Uw i):PE X (.Subscript o i pos) (fQ td ty):=by
 intro b s e H Q I h;show Be F.slot_dict_getitem.lookup q<|bH (p b s e H _ I h) λu B ob=>?_;let#[x,f,k,z,t]:=ob;show bH (n b B e f _ k t) λC D ob=>?_;let#[y,j,d,A,a,v,m,g,w]:=ob;subst m;obtain rfl:u=Value.ref a:=z;show#[vX d g,Dt r d g A λF E l c=>#[v,j,l,c,w]]
theorem pH(p:X.A.units+1<cLine)(m:PE X i ty)(n:PE X o td):PC X .In i o (Dv ty td):=by
 intro b s c H Q I h;show bH (m b s c H _ I h) λz w ob=>?_
 let#[y,d,f,v,q]:=ob;show bH (n b w c d _ f q) λu A ob=>?_;let#[x,e,j,t,a,ov,l,g,r]:=ob;subst l;obtain rfl:u=Value.ref a:=t;show a0k p j g v λB k=>#[.bl ov.isSome,e,k,Z,r]
theorem jT(p:X.A.units+1<cLine)(m:PE X i ty)(n:PE X o td):PC X .NotIn i o (lK ty td):=by
 intro b s c H Q I h;show bH (m b s c H _ I h) λz w ob=>?_;let#[y,d,f,v,q]:=ob;show bH (n b w c d _ f q) λu A ob=>?_;let#[x,e,j,t,a,ov,l,g,r]:=ob;subst l;obtain rfl:u=Value.ref a:=t;show Oq p j g v λB k=>#[.bl<|not ov.isSome,e,k,Z,r]
theorem dW(w:X.A.units+1<cLine)(q:PE X o td)(p:PE X i ty)(z:PE X value tv)(t:swapsWith value (!(.Subscript o i pos')) pos.line X.env=pure false):PS X (.Assign [.Subscript o i pos'] value pos) (iH td ty tv):=by intro b s c H D I h;show wpAny_Assign_Subscript (bH (z b s c H _ I h) λr J ⟨v,d,j,E,A⟩=>bH (q b J c d _ j A) λu K ⟨x,e,k,F,B⟩=>bH (p b K c e _ k B) λM N ⟨y,L,l,G,a,f,n,g,C⟩=>?_) t;subst n;obtain rfl:u=Value.ref a:=F;show Du w l g G E λO m=>#[c,f,m,C]
end
def vY(h:ϒ)(a:sysModules<h.objs.size):ObjOk P w H (h.push {cls:=.type "dict",data:=.dict<|[].toArray}) h.objs.size (.dK []):=#[Nat.zero_le _,ŏ.mpr<|Ne.symm<|Þ a,[],.nil,Heap.DictOf.new h]
def vZ(h:ϒ)(a:sysModules<h.objs.size):ObjOk P w H (h.push {cls:=.type "dict",data:=.dict<|[].toArray}) h.objs.size (.dT []):=#[Nat.zero_le _,ŏ.mpr<|Ne.symm<|Þ a,[],.nil,_,([].toArray),0,È _ Z,#[Z,Z,Z],Z,Z,ρ]
abbrev jE:TE:=λ_ H Q=>∀p,H p=none->Q ↥p (upd H p<|.dK [])
abbrev yM:TE:=λ_ H Q=>∀p,H p=none->Q ↥p (upd H p<|.dT [])
section
variable{X:Cx}
theorem gG:PE X (.Dict [] [] pos) jE:=λb s c H Q I h=>wpAny_Dict_empty #[↥⇑s,_,I.laid (a:=⇑s) (o:=.dK []) (t':=s.toks) (λ_ _ q=>Jn _ q) (Ã _)<|vY s.heap I.big,Z,h _<|I.hok.fresh<|Ã _]
theorem w5:PE X (.Dict [] [] pos) yM:=λb s c H Q I h=>wpAny_Dict_empty #[↥⇑s,_,I.laid (a:=⇑s) (o:=.dT []) (t':=s.toks) (λ_ _ q=>Jn _ q) (Ã _)<|vZ s.heap I.big,Z,h _<|I.hok.fresh<|Ã _]
end
def yN:ϊ (TE×TE)->St->Hp->(ϊ (V×V)->Hp->Prop)->Prop
 |[],_,H,Q=>Q [] H|(tk,tv)::r,σ,H,Q=>tk σ H λx H1=>tv σ H1 λy H2=>yN r σ H2 λps H3=>Q ((x,y)::ps) H3
abbrev VV:ϊ (V×V)->ϊ (ϋ×ϋ)->Prop:=Paired λp q=>RelV p.1 q.1/\RelV p.2 q.2
def PPs(X:Cx)(pos:Pos)(keys:ϊ<|ύ Expr)(values:ϊ Expr)(trs:ϊ<|TE×TE):Prop:=∀(gE:Ϸ)(s:ώ)(σ:St)(H:Hp)(Q:ϊ (V×V)->Hp->Prop),Inv X gE σ H s->yN trs σ H Q->wpAny (model X.prog X.w) X.A (evalPairs<|pairTrees keys values X.env pos) (λvs s'=>∃ps H',Inv X gE σ H' s'/\VV ps vs/\Q ps H') X.xe s
theorem uf{X:Cx}:PPs X pos [] [] []:=λa s b H Q I h=>pairTrees_nil_walk #[[],H,I,.nil,h]
theorem pI{X:Cx}{f:ϊ Expr}{d:TE}(o:PE X k d)(q:PE X v e)(p:PPs X pos ks f trs):PPs X pos (some k::ks) (v::f) ((d,e)::trs):=λa s c H Q I h=>pairTrees_cons_walk<|bH (o a s c H _ I h) λu C ⟨x,g,l,A,t⟩=>bH (q a C c g _ l t) λF D ⟨y,i,m,B,w⟩=>bH (p a D c i _ m w) λG E ⟨r,j,n,b,z⟩=>#[(x,y)::r,j,n,.cons #[A,B] b,z]
def jF(kvs more:ϊ<|Key×V):ϊ (Key×V):=more.foldl (λacc kv=>putK acc kv.1 kv.2) kvs
theorem KV.merge:∀{a:ϊ<|Key×V}{rs:ϊ<|Key×ϋ}{kvs:ϊ<|Key×V}{vs:ϊ<|Key×ϋ},KV a rs->KV kvs vs->KV (jF kvs a) (merged vs rs):=by intro a rs kvs vs r;unfold KV at r;induction r generalizing kvs vs with
 |nil=>intro q;show q|@cons p q ps qs h t ih=>
  intro b;have e:KV (putK kvs p.1 p.2) (stored vs q.1 q.2):=by have:=b.put p.1 h.2;rw[<-h.1];show this
  show ih e
theorem kI:∀(a kvs:ϊ<|Key×V),↑(jF kvs a)<=↑kvs+↑a
 |[],kvs=>by change↑kvs<=↑kvs+0;rfl'|p::r,kvs=>by have b:=kI r<|putK kvs p.1 p.2;have c:=jC kvs p.1 p.2;change↑(jF (putK kvs p.1 p.2) r)<=_;rw[í];rfl'
theorem pJ{w:ϕ}:∀{kvs:ϊ<|Key×V}{e:ϊ<|ϋ×ϋ},VV (kvs.map λd=>(kV d.1,d.2)) e->∃rs,Carries (bI P w) e rs/\KV kvs rs
 |[],_,r=>by rw[Đ]at r;cases r;show⟨[],True.intro,.nil⟩|p::kvs,_,r=>by
  rw[Ç]at r
  cases r with|@cons a b as bs h t=>let#[rs,c,q]:=pJ (P:=P) (w:=w) t;let#[g,f]:=b;show#[(p.1,f)::rs,#[rQ h.1,Z,c],.cons #[Z,h.2] q]
abbrev Gk(trs:ϊ<|TE×TE):TE:=λσ H Q=>∀p,H p=none->yN trs σ (upd H p<|.dK []) λps H2=>H2 p=!(.dK [])/\∃kvs:ϊ<|Key×V,ps=kvs.map (λkv=>(kV kv.1,kv.2))/\↑kvs<=15/\Q ↥p (upd H2 p<|.dK<|jF [] kvs)
theorem Bg{X:Cx}{b:ϊ<|ύ Expr}(h:PPs X pos b values trs)(f:b.all (·.isSome)=true)(x:↑b=↑values)(r:b≠[])(j:↑b<=15):PE X (.Dict b values pos) (Gk trs):=by
 intro i s J H Q I q;have y:=I.hok.fresh<|Ã ⇑s;have m:=I.laid (a:=⇑s) (o:=.dK []) (h':=s.heap.push {cls:=.type "dict",data:=.dict<|[].toArray}) (t':=s.toks) (λ_ _ q=>Jn _ q) (Ã _)<|vY s.heap I.big;show wpAny_Dict_walk (knd:=bI X.prog X.w) f x r j<|bH (h i _ J _ _ m<|q _ y) λN M ob=>?_;let#[L,K,l,k,e,g,p,lk,C]:=ob;subst p;let#[F,c,E]:=pJ (P:=X.prog) (w:=X.w) k;let#[z,u,G,D,n]:=Rx l.hok e;cases D;show#[F,c,n,λh' d A=>#[↥⇑s,_,?_,Z,C]];have B:↑(jF [] g)<=sizeLine:=by have t:=kI g [];rw[ĝ]at t;rw[ü];rfl'
 have v:∃q,h'.get? ⇑s=!q:=let⟨q,_,_,hq,_⟩:=d;#[q,hq];show jc l (by rw[e];show True.intro) A v<|Gj B u (E.merge .nil) d
structure M1(X:Cx)(o:Expr)(m:ϐ)(apos:Pos)(e:Expr)(cpos:Pos):Prop where
 base:attributeBase o m X.env (eval o X.env)=eval o X.env
 few:((backTo cpos (starEach [e] X.env)).all (λx=>not x.1)&&(backToKw cpos (keywordEach [] X.env)).all (λx=>x.1.isSome)&&decide (↑([e]:ϊ Expr)+↑([]:ϊ Keyword)+(if([]:ϊ Keyword).isEmpty then 0 else 1)<30))=true
 line:(apos.endLine==cpos.line)=true
 trees:backTo cpos (starEach [e] X.env)=[(false,eval e X.env)]
structure M2(X:Cx)(o:Expr)(m:ϐ)(apos:Pos)(e f:Expr)(cpos:Pos):Prop where
 base:attributeBase o m X.env (eval o X.env)=eval o X.env
 few:((backTo cpos (starEach [e,f] X.env)).all (λx=>not x.1)&&(backToKw cpos (keywordEach [] X.env)).all (λx=>x.1.isSome)&&decide (↑([e,f]:ϊ Expr)+↑([]:ϊ Keyword)+(if([]:ϊ Keyword).isEmpty then 0 else 1)<30))=true
 line:(apos.endLine==cpos.line)=true
 trees:backTo cpos (starEach [e,f] X.env)=[(false,eval e X.env),(false,eval f X.env)]
def IsD(H:Hp)(a:ό):Prop:=(∃kvs,Rd H a<|.dK kvs)\/∃kvs,Rd H a<|.dT kvs
theorem yO{X:Cx}(I:Inv X gE σ H s)(d:IsD H a):s.TypeIs ↥a "dict"/\(∀b,Value.ref a=↥b->∃ob,s.heap.get? b=!ob/\ob.dict=none)/\(a==sysModules)=false:=by
 rcases d with⟨kvs,e⟩|⟨kvs,e⟩
 .obtain ⟨_,h,i,_,c⟩:=lJ I.hok e;show#[c.typeIs,λb q=>?_,h];cases q;let#[ob,_,_,f,g,_]:=c;show#[ob,f,g.2.1]
 .obtain ⟨_,h,j,_,c⟩:=rT I.hok e;show#[c.typeIs,λb q=>?_,h];cases q;let#[ob,_,_,f,g,_]:=c;show#[ob,f,g.2.1]
end L2
set_option linter.all false
namespace Bm
noncomputable def popF:Nat->Nat->Nat
 |0,_=>0|k+1,n=>n%2+popF k (n/2)
def pop(n:Nat):=popF n n
theorem popZ:∀k,popF k 0=0
 |0=>Z|k+1=>(Nat.zero_add _).trans<|popZ k
theorem popK:∀{k j n:Nat},n<=k->n<=j->popF k n=popF j n
 |0,j,n,h,_=>by cases Nat.le_zero.mp h;exact (popZ j).symm
 |k+1,0,n,_,h=>by cases Nat.le_zero.mp h;exact popZ _|k+1,j+1,n,h,i=>congrArg (n%2+·)<|popK (k:=k) (j:=j) (by omega)<|by omega
def jG:pop 0=0:=Z
def mV(n:Nat):pop n=n%2+pop (n/2):=by cases n with
 |zero=>rfl|succ n=>exact congrArg ((n+1)%2+·)<|popK (by omega)<|Nat.le_refl _
def ug(m:Nat):pop (2*m)=pop m:=by rw[mV,show 2*m%2=0 by rfl',show 2*m/2=m by rfl',ī]
def Ot(m:Nat):pop (2*m+1)=pop m+1:=by rw[mV,show(2*m+1)%2=1 by rfl',show(2*m+1)/2=m by rfl',ń]
def Gm(a b:Nat):(2*a)&&&(2*b+1)=2*(a&&&b):=by
 apply Ň;intro i;cases i with
 |zero=>simp[ş]|succ i=>rw[ş,Ŀ,Ŀ,Ŀ,show 2*a/2=a by rfl',show(2*b+1)/2=b by rfl',show 2*(a&&&b)/2=(a&&&b)by rfl',ş]
def Ux(a b:Nat):(2*a+1)&&&(2*b)=2*(a&&&b):=by rw[Nat.and_comm,Gm,Nat.and_comm]
def Ou(n:Nat)(h:0<n):pop (n&&&(n-1))+1=pop n:=by induction n using Nat.strongRecOn with|ind n ih=>
  rcases ŗ n with e|e;.obtain ⟨m,rfl⟩:∃m,n=2*m:=#[n/2,()];have q:=ih m () ();rw[show 2*m-1=2*(m-1)+1 by rfl',Gm,ug,ug];show q
  .obtain ⟨m,rfl⟩:∃m,n=2*m+1:=#[n/2,()];rw[show 2*m+1-1=2*m by rfl',Ux,Nat.and_self,ug,Ot]
def Uy(n:Nat)(h:0<n):n&&&(n-1)<n:=Õ Nat.and_le_right ()
theorem w6:∀(k n:Nat),n<2^k->↑((List.range k).filter λi=>n.testBit i)=pop n
 |0,n,h=>by
  have e:n=0:=by simpa using h
  subst e;simp[jG]|k+1,n,h=>by
  have q:=w6 k (n/2) (by rw[Nat.pow_succ]at h;rfl');rw[List.range_succ_eq_map,mV n,<-q,ŀ];have e:((List.range k).map Nat.succ).filter (λi=>n.testBit i)=((List.range k).filter λi=>(n/2).testBit i).map Nat.succ:=by rw[List.filter_map];congr 1;apply List.filter_congr;intro x _;simp[Function.comp,Ŀ]
  rw[e];rcases ŗ n with z|z
  .have t:n.testBit 0=false:=by simp[Nat.testBit_zero,z]
   simp[t,z]
  .have t:n.testBit 0=true:=by simp[Nat.testBit_zero,z]
   simp[t,z];rfl'
def wg(a b:Nat):(a^^^b)/2=(a/2)^^^(b/2):=by apply Ň;intro i;simp[<-Ŀ,Ź]
def eU(x:Nat):x%2=(x.testBit 0).toNat:=by rcases ŗ x with h|h<;>simp[Nat.testBit_zero,h]
def Ov(a b:Nat):(a^^^b)%2=(a%2+b%2)%2:=by
 rw[eU<|a^^^b,eU a,eU b,Ź];cases a.testBit 0<;>cases b.testBit 0<;>rfl
def Ow(a:Nat):∀b:Nat,pop (a^^^b)<=pop a+pop b:=by induction a using Nat.strongRecOn with|ind a ih=>
  intro b;by_cases z:a=0
  .subst z;simp[jG]
  .have q:=ih (a/2) ()<|b/2;rw[mV<|a^^^b,mV a,mV b,wg,Ov];rfl'
def Ox(a b c:Nat):pop (a^^^c)<=pop (a^^^b)+pop (b^^^c):=by
 have e:a^^^c=(a^^^b)^^^(b^^^c):=by
  apply Ň;intro i;simp only[Ź];cases a.testBit i<;>cases b.testBit i<;>cases c.testBit i<;>rfl
 rw[e];show Ow _ _
noncomputable def bits(k n:Nat):ϊ Nat:=(List.range k).filter λi=>n.testBit i
def wj{k n i:Nat}:i∈bits k n↔i<k/\n.testBit i=true:=by simp[bits]
end Bm
set_option linter.all false
namespace Bx
open PySem
def lq(m n:Nat):Builtin.bitAnd (m:Int) (n:Int)=((m&&&n:Nat):Int):=by rw[PyProof.Rows.bitAnd_pp () ()];simp
def Gn(m n:Nat):(m|||n)+(m&&&n)=m+n:=by induction m using Nat.strongRecOn generalizing n with|ind m ih=>
  by_cases a:m=0;.subst a;simp
  .have q:=ih (m/2) ()<|n/2;have b:(m|||n)/2=(m/2)|||(n/2):=by apply Ň;intro i;simp[<-Ŀ,Nat.testBit_or]
   have c:(m&&&n)/2=(m/2)&&&(n/2):=by apply Ň;intro i;simp[<-Ŀ,ş]
   have d:(m|||n)%2+(m&&&n)%2=m%2+n%2:=by
    rw[Bm.eU<|m|||n,Bm.eU<|m&&&n,Bm.eU m,Bm.eU n,Nat.testBit_or,ş];cases m.testBit 0<;>cases n.testBit 0<;>rfl
   rfl'
def Dw(m n:Nat):Builtin.bitOr (m:Int) (n:Int)=((m|||n:Nat):Int):=by rw[PyProof.Rows.bitOr_and,lq];have:=Gn m n;rfl'
def Oz(m n:Nat):(m^^^n)+2*(m&&&n)=m+n:=by induction m using Nat.strongRecOn generalizing n with|ind m ih=>
  by_cases a:m=0;.subst a;simp
  .have q:=ih (m/2) ()<|n/2;have b:=Bm.wg m n;have c:(m&&&n)/2=(m/2)&&&(n/2):=by apply Ň;intro i;simp[<-Ŀ,ş]
   have d:(m^^^n)%2+2*((m&&&n)%2)=m%2+n%2:=by
    rw[Bm.eU<|m^^^n,Bm.eU<|m&&&n,Bm.eU m,Bm.eU n,Ź,ş];cases m.testBit 0<;>cases n.testBit 0<;>rfl
   rfl'
def pK(m n:Nat):Builtin.bitXor (m:Int) (n:Int)=((m^^^n:Nat):Int):=by unfold Builtin.bitXor;rw[Dw,lq];have a:=Gn m n;have b:=Oz m n;rfl'
def lM(k:Nat):((2^k:Nat):Int)=(2:Int)^k:=by simp
end Bx
section
namespace L2
open PySem PySem.Spec PyProof.Rows
variable{H:Hp}{σ:St}{tl:TE}{wi:TI}{x:ϐ}{env:Env}{h':ϒ}{pos:Pos}{tg:Expr}{u:ϋ}{w:ϕ}{d:PyData}{n t':Nat}{C a p:ό}{N':ϊ ϐ}{ch:ϊ ό}{ifs:ϊ Expr}{ds:ϊ PyData}{esc sc scope:Scope}{κ:ϊ (ύ Nat)}{m':ϐ->ύ ϋ}{gE:Ϸ}{E:϶}{RR:ϋ->ό->Result->ώ->Prop}
abbrev blk(X:Cx)(sc:Scope)(N':ϊ ϐ)(cl:ϊ<|ϐ×ό)(C:ό)(s:ώ)(H:Hp)(fp:ϊ ό)(gE:Ϸ):Cx where
 prog:=X.prog
 w:=X.w
 K:=X.K
 mg:=X.mg
 base:=X.base
 A:=X.A
 N:=N'
 s₀:=s
 H₀:=H
 env:=compEnvC sc cl C X.env
 outer:=X.stack
 stack:=X.stack
 ex:=fp
 fn:=λ_=>false
 calm:=X.calm
 pn:=X.pn++gE
 xe:=λ_ _=>False
structure CScope(esc sc:Scope):Prop where
 kind:sc.kind=.function
 nocell:∀y∈sc.names,y.2≠.cell
 locs:∀y∈sc.names,y.2=.local->sc.names.lookup y.1=!.local
 frees:∀y∈sc.names,y.2=.free->esc.names.lookup y.1=!.cell\/esc.names.lookup y.1=!.free
theorem mem_lookup{a:Type}{x:ϐ}{k:a}:∀{l:ϊ<|ϐ×a},l.lookup x=!k->(x,k)∈l
 |[],h=>by simp at h|(n,k')::r,h=>by
  rw[Ĭ]at h;cases e:x==n with
  |true=>
   rw[e]at h;have b:x=n:=θ e;injection h with h;subst b;subst h;show Ì|false=>
   rw[e]at h;show Ê _<|mem_lookup h
theorem uh{env:Env}:∀(names:ϊ<|ϐ×NameKind)(cs:ϊ<|ϐ×ό),(∀y∈names,y.2=.free->∃c,env.cells.lookup y.1=!c)->(∀x c,cs.lookup x=!c->env.cells.lookup x=!c)->∃cl:ϊ<|ϐ×ό,(forIn names cs λ(y:ϐ×NameKind) (r:ϊ<|ϐ×ό)=>(if(y.2==NameKind.free)=true then(cellOf env y.1>>=λc=>pure<|ForInStep.yield ((y.1,c)::r))else pure (ForInStep.yield r):Sem<|ForInStep<|ϊ<|ϐ×ό))=pure cl/\(∀x c,cl.lookup x=!c->env.cells.lookup x=!c)/\∀x c,env.cells.lookup x=!c->((x,NameKind.free)∈names\/cs.lookup x=!c)->cl.lookup x=!c
 |[],cs,_,hcs=>#[cs,Z,hcs,λx c _ h=>h.elim (λz=>nomatch z) id]|(n,k) ::r,cs,hf,hcs=>by
  have f:∀y∈r,y.2=.free->∃c,env.cells.lookup y.1=!c:=λy s=>hf y<|Ê _ s;by_cases o:k=.free
  .subst o;let#[c,l]:=hf (n,.free) Ì Z;have q:cellOf env n=pure c:=by have m:env.cells.lookup n=!c:=l;unfold cellOf;rw[m]
   have d:∀x a,((n,c)::cs).lookup x=!a->env.cells.lookup x=!a:=λx a h=>by rw[Ĭ]at h;cases e:x==n with
    |true=>rw[e]at h;injection h with h;have b:x=n:=θ e;subst b;subst h;show l|false=>rw[e]at h;show hcs x a h
   let#[cl,e,i,j]:=uh r ((n,c)::cs) f d;show#[cl,?_,i,λx a g hm=>j x a g ?_];.rw [Ą];simp-iota only[beq_self_eq_true,Ń];rw[q];show e
   .rw [Ĭ];cases ex:x==n with|true=>
     right;have b:x=n:=θ ex;subst b;show l.symm.trans g|false=>
     rcases hm with hm|hm
     .rcases Å.mp hm with z|z
      .have b:x=n:=Ö Prod.fst z;subst b;rw[beq_self_eq_true]at ex;cases ex
      .show .inl z
     .show .inr hm
  .obtain ⟨cl,e,i,j⟩:=uh r cs f hcs;have p:(k==NameKind.free)=false:=by cases k<;>first|rfl|show μ Z o
   show#[cl,?_,i,λx a g hm=>j x a g ?_];.rw [Ą];simp-iota only[p,Û,ċ];show e
   .rcases hm with hm|hm
    .rcases Å.mp hm with z|z
     .show μ (Ö Prod.snd z).symm o
     .show .inl z
    .show .inr hm
theorem Bh(f:∀y∈sc.names,y.2=.free->∃c,env.cells.lookup y.1=!c):∃cl:ϊ<|ϐ×ό,closureFor sc env=pure cl/\(∀x c,cl.lookup x=!c->env.cells.lookup x=!c)/\∀x c,env.cells.lookup x=!c->(x,NameKind.free)∈sc.names->cl.lookup x=!c:=by
 let#[cl,e,b,d]:=uh (env:=env) sc.names [] f (λx c h=>by simp at h);show#[cl,?_,b,λx c i g=>d x c i<|.inl g];have q:closureFor sc env=((forIn sc.names [] λ(y:ϐ×NameKind) (r:ϊ<|ϐ×ό)=>(if(y.2==NameKind.free)=true then(cellOf env y.1>>=λc=>pure<|ForInStep.yield ((y.1,c)::r))else pure (ForInStep.yield r):Sem<|ForInStep<|ϊ<|ϐ×ό))>>=λa=>pure a):=by
  first
   |rfl|(unfold closureFor;congr 1)
 rw[q,e];rfl
theorem jd{env:Env}{x:ϐ}:∀{names:ϊ<|ϐ×NameKind},(names.map λ(n,k)=>if(k==NameKind.free&&env.scope.kind==.function&&env.kindOf n==!.cell)then(n,NameKind.cell)else(n,k)).lookup x=(names.lookup x).map λk=>if(k==NameKind.free&&env.scope.kind==.function&&env.kindOf x==!.cell)then NameKind.cell else k
 |[]=>Z|(n,k) ::r=>by have c:=jd (env:=env) (x:=x) (names:=r);change List.lookup x ((if(k==NameKind.free&&env.scope.kind==.function&&env.kindOf n==!.cell)=true then(n,NameKind.cell)else(n,k))::_)=_;rw[Ĭ (b:=k)];cases hx:x==n with
  |true=>
   have e:x=n:=θ hx;subst e;by_cases a:(k==NameKind.free&&env.scope.kind==.function&&env.kindOf x==!.cell)=true;.rw [β a,Ĭ,hx];change some NameKind.cell=!(if(k==NameKind.free&&env.scope.kind==.function&&env.kindOf x==!.cell)=true then NameKind.cell else k);rw[β a]
   .rw [γ a,Ĭ,hx];change some k=!(if(k==NameKind.free&&env.scope.kind==.function&&env.kindOf x==!.cell)=true then NameKind.cell else k);rw[γ a]|false=>
   by_cases a:(k==NameKind.free&&env.scope.kind==.function&&env.kindOf n==!.cell)=true
   .rw [β a,Ĭ,hx];show c
   .rw [γ a,Ĭ,hx];show c
theorem CScope.free_of(S:CScope esc sc)(h:(relabel sc env).names.lookup x=!.cell\/(relabel sc env).names.lookup x=!.free):(x,NameKind.free)∈sc.names:=by
 have q:(relabel sc env).names.lookup x=_:=jd (env:=env) (x:=x) (names:=sc.names);rw[q]at h;cases e:sc.names.lookup x with
 |none=>rw[e]at h;simp at h
 |some k=>
  have a:=mem_lookup e;have b:=S.nocell _ a;cases k with
  |free=>show a|cell=>show μ Z b|_=>rw[e]at h;simp at h
theorem CScope.cell_of(S:CScope esc sc)(a:env.scope=esc)(b:env.scope.kind=.function)(h:sc.names.lookup x=!.free):(relabel sc env).names.lookup x=!.cell\/(relabel sc env).names.lookup x=!.free:=by
 have q:(relabel sc env).names.lookup x=_:=jd (env:=env) (x:=x) (names:=sc.names);rw[q,h];simp-iota only[ŝ];split;.show .inl Z
 .show .inr Z
noncomputable def cap(κ:ϊ<|ύ Nat)(σ:St):St:=κ.map λo=>o.bind λi=>(σ[i]?).join
noncomputable def capOk(κ:ϊ<|ύ Nat)(N' N:ϊ ϐ)(sc:Scope):ϑ:=
 decide (↑κ=↑N')&&(κ.zip N').all λp=>match p.1 with
  |none=>true|some i=>N[i]? ==some p.2&&sc.names.lookup p.2==!.free
theorem capOk.len(h:capOk κ N' N sc=true):↑κ=↑N':=by unfold capOk at h;rw[Ă]at h;show ô h.1
theorem capOk.at(h:capOk b c N f=true){j:Nat}{d:St}(g:c[j]?=!y)(a:(cap b d)[j]?=!(!v)):∃i:Nat,N[i]?=!y/\d[i]?=!(!v)/\f.names.lookup y=!.free:=by
 unfold capOk at h;rw[Ă,List.all_eq_true]at h;unfold cap at a;rw[Á]at a;cases e:b[j]?with|none=>rw[e]at a;simp at a|some o=>
  rw[e]at a;simp only[ŝ,Option.some.injEq]at a;cases o with|none=>simp at a|some i=>
   have k:(!i,y)∈b.zip c:=Yf (i:=j) (by rw[List.getElem?_zip_eq_some];show#[e,g]);have q:=h.2 _ k;simp only[Ă,beq_iff_eq]at q;show#[i,q.1,?_,q.2];simp only[Option.bind_some]at a;cases r:d[i]?with
   |none=>rw[r]at a;simp at a|some z=>rw[r]at a;simp at a;rw[a]
def pL(a b:St):Prop:=↑b=↑a/\∀(i:Nat) v,a[i]?=!(!v)->b[i]?=!(!v)
def Gp(X:Cx)(ifs:ϊ Expr)(t:TT):Prop:=∀(gE:Ϸ)(s:ώ)(σ:St)(H:Hp)(Q:ϑ->Hp->Prop),Inv X gE σ H s->t σ H Q->wpAny (model X.prog X.w) X.A (forIn ifs true λc r=>if r=true then do let ok<-isTrue c X.env<|eval c X.env;pure (ForInStep.yield ok)else pure<|ForInStep.yield r) (TP X gE σ Q) X.xe s
abbrev dJ:TT:=λ_ H Q=>Q true H
theorem bQ{X:Cx}:Gp X [] dJ:=λa s b H Q I h=>wpAny_tests_nil #[H,I,h]
theorem gQ{X:Cx}(h:PT X c t):Gp X [c] t:=λa s b H Q I q=>wpAny_tests_one<|h a s b H Q I q
section
theorem ul{a:Expr}{C l:ϋ}(I:Nat->ώ->Prop)(B:∀n s,I n s->∅ (pyNext C) (λr s₁=>match r with
   |none=>R (.ok .next) s₁|some v=>∅ (letOwnedTupleGo a C v) (λ_ d=>∅ (assign a env v) (λ_ s₂=>∅ (forIn ifs true λc r=>if r=true then do let ok<-isTrue c env<|eval c env;pure (ForInStep.yield ok)else pure<|ForInStep.yield r) (λok e=>if ok=true then ∅ (eval o env) (λx j=>∅ (call (.builtin "list.append") [l,x]) (λ_ k=>∃m,m<n/\I m k) (λ_ _=>False) j) (λ_ _=>False) e else ∃m,m<n/\I m e) (λ_ _=>False) s₂) (λ_ _=>False) d) (λ_ _=>False) s₁) (λ_ _=>False) s)(n:Nat) (h:I n s):codeAny (model prog w) A (.compLoop (.ListComp o [#[a,i,ifs,0]] scope pos) 0 C l env) R s:=by
 show codeAny_loop Z I (λn s D=>?_) n h;change wpAny _ A ((compTurn (.ListComp o [#[a,i,ifs,0]] scope pos) 0 C l env).onRaise<|λx=>do noteFrame x env;theTreesLotGoes x) _ _ s;show wpAny_noted ?_;rw[compTurn_list];show ĉ (E:=λ_ _=>False) ?_ (λ_ _ q=>q)<|λ_ _ z=>z.elim;show Qr<|wpAny_standAt<|Qr<|ĉ (B n s D) (λr s₁ f=>?_) λ_ _ b=>b;cases r with|none=>show Wp f|some v=>show Qr<|ĉ f (λ_ d p=>?_) λ_ _ b=>b;show Qr<|ĉ p (λ_ s₂ t=>Qr<|ĉ t (λok e g=>?_) λ_ _ b=>b) λ_ _ b=>b;cases ok with
  |false=>show Wp #[Z,g]|true=>show Qr<|Qr<|ĉ g (λx j u=>Qr<|ĉ u (λ_ k y=>Wp<|Wp #[Z,y]) λ_ _ b=>b) λ_ _ b=>b
end
theorem HOk.track(x:HOk P w H h)(g:H a=none)(d:ObjOk P w (upd H a o) h a o):HOk P w (upd H a o) h:=λb u e=>by
 by_cases f:b=a;.subst f;rw[aj]at e;cases e;show d
 .rw [aq f]at e;show(x b u e).stay (λc v _ q=>q) (λc q=>by rw[aq<|aP q g];show q) λc i q=>by rw[aq<|aP q g];show q
section
variable{X:Cx}{gE:Ϸ}{σ:St}{H2:Hp}{s₂:ώ}{tg iter elt:Expr}{ifs:ϊ Expr}{sc:Scope}{pos:Pos}{N':ϊ ϐ}{κ:ϊ (ύ Nat)}{cl:ϊ (ϐ×ό)}{it:ό}{fp:ϊ ό}{tn:Nat->ϒ->Prop}{J:It}{g:TG}{tc:TT}{te:TE}
theorem UG(I:Inv X gE σ H2 s₂)(g:∀b∈fp,oh X gE H2 b)(j:∀b∈fp,b<⇑s₂)(S:CScope X.env.scope sc)(a:∀x c,cl.lookup x=!c->X.env.cells.lookup x=!c) (f:∀x c,X.env.cells.lookup x=!c->(x,NameKind.free)∈sc.names->cl.lookup x=!c) (i:⇑s₂<=C):(blk X sc N' cl C s₂ H2 fp gE).Ok where
 mod:=I.mod
 kind:=S.kind
 glob:=I.ok.glob
 blt:=I.ok.blt
 above:=i
 inj:=λx y c k l=>I.ok.inj x y c (a _ _ k)<|a _ _ l
 has:=λx h=>by have e:=S.free_of (env:=X.env) h;let#[c,m]:=I.ok.has x<|S.frees _ e Z;show#[c,f x c m e]
 cab:=λx c h _=>by cases h
 hd:=I.ok.hd
 frames:=I.ok.frames
 stk:=.inl Z
 exf:=λb d=>#[Nat.ne_of_lt<|Ò (j b d) i,λx c n=>(g b d).2.2.2.2.1 x c<|a x c n]
 bs:=I.bs
 bsz:=Í I.ok.bsz I.sz
 noex:=λb o d e=>by
  let#[_,_,_,h4,_]:=g b e;rcases h4 with h4|h4;.show I.ok.noex b o d h4
  .show μ (Ë (I.ok.bs b o d).1)<|Nat.not_lt.mpr h4
 exfs:=λb d e=>by
  rcases Å.mp (I.stkSub b e)with z|z;.show (g b d).2.1 z
  .show (g b d).2.2.1 z
 funs:=I.stack
 frf:=I.stkFree
theorem OD(I:Inv X gE σ H2 s₂)(D:∀b∈fp,oh X gE H2 b)(E:∀b∈fp,b<⇑s₂)(S:CScope X.env.scope sc)(f:capOk κ N' X.N sc=true)
  (a:∀x c,cl.lookup x=!c->X.env.cells.lookup x=!c) (g:∀x c,X.env.cells.lookup x=!c->(x,NameKind.free)∈sc.names->cl.lookup x=!c) (k:⇑s₂<=C)
  {T:Nat} (M:h'.Ns C m') (d:∀b o,s₂.heap.get? b=!o->h'.get? b=!o):
  Inv (blk X sc N' cl C s₂ H2 fp gE) [] (cap κ σ) H2 {s₂ with heap:=h',toks:=T} where
 ok:=UG I D E S a g k
 os:=Z
 bare:=I.bare
 base:=Un.kept d
 loc:=⟨m',M,λj y v Q P A=>by
  let#[i,K,O,t]:=capOk.at f Q P;have w:=mem_lookup t;have h:=S.frees _ w Z;let#[m,_,L]:=I.loc;let#[u,R,lk]:=L i y v K O<|.inr h;show#[u,R,.inr #[S.cell_of (env:=X.env) Z I.ok.kind t,?_]];rcases lk with⟨hk,_⟩|⟨_,c,hc,hu⟩;.have l:X.env.scope.names.lookup y=!.local:=hk;rcases h with z|z<;>(have B:X.env.scope.names.lookup y=_:=z;rw[l]at B;cases B)
  .obtain ⟨o,e,r⟩:=hu;show⟨c,g y c hc w,o,d _ _ e,r⟩⟩
 cell:=λx c q=>by let#[v,o,e,r]:=I.cell x c<|a x c q;show#[v,o,d _ _ e,r]
 free:=I.hok.fresh k
 freeC:=λx c q=>I.freeC x c<|a x c q
 pin:=λp N=>by
  have n:p∈X.pn++gE:=by simpa using N
  let#[s,F,G,H,J]:=I.pin p n;show#[d _ _ s,F,Þ<|Ò (Ë s) k,λz=>?_,J];rcases Å.mp (I.stkSub p.1 z)with y|y;.show G y
  .show H y
 hok:=I.hok.kept d
 len:=by change↑(cap κ σ)=↑N';unfold cap;rw[Qb];show capOk.len f
structure Left(X:Cx)(gE:Ϸ)(σ:St)(C:ό)(H:Hp)(s:ώ):Prop where
 inv:Inv X gE σ H s
 ns:∃m,s.heap.Ns C m
 un:H C=none
 nl:C≠X.env.locals
 nf:C∉X.fs
 ab:⇑X.s₀<=C
 nc:∀x c,X.env.cells.lookup x=!c->c≠C
 np:∀p∈X.pn++gE,p.1≠C
theorem Left.go(l:Left X gE σ C H s)(c:Heap.SameBut C s.heap h'):Inv X gE σ H {s with heap:=h'}:=
 l.inv.turned (t':=s.toks) (λb o a e=>c.extBut b o a e) l.un l.nl (.inr l.ab) l.nc l.np
theorem Bj(hc:X.calm=true)(I:Inv X gE σ H2 s₂)(T:Turn X.prog X.w X.K tg J fp it tn)(st:tn 0 s₂.heap)(G:∀b∈fp,oh X gE H2 b)(S:CScope X.env.scope sc) (am:capOk κ N' X.N sc=true) (w:∀x c,cl.lookup x=!c->X.env.cells.lookup x=!c) (ap:∀x c,X.env.cells.lookup x=!c->(x,NameKind.free)∈sc.names->cl.lookup x=!c)(hg:∀C,PG (blk X sc N' cl C s₂ H2 fp gE) tg g) (hi:∀C,Gp (blk X sc N' cl C s₂ H2 fp gE) ifs tc) (he:∀C,PE (blk X sc N' cl C s₂ H2 fp gE) elt te){W:Nat->Nat->ϊ V->Hp->Prop} {Q:VK} {m0:Nat} (w0:W 0 m0 [] H2)(ay:∀i m ys H,W i m ys H->(J.stop i H/\∀p,H p=none->Q ↥p (upd H p (.lst ys)))\/(J.go i H/\↑ys<sizeLine/\∃N:ϊ V->Hp->Prop,(∀a1 H',N a1 H'->∃m',m'<m/\W (i+1) m' a1 H')/\∀x H',J.yld i H x H'->g x (cap κ σ) H' λag H2=>pL (cap κ σ) ag/\tc ag H2 λb B=>if b=true then te ag B λy H4=>N (ys++[y]) H4 else N ys B))(a7:∀D C H' s1,Left X gE σ C H' s1->Q ↥D H'->RR ↥D C (.ok .next) s1):wpAny (model X.prog X.w) X.A (newList []) (λai t=>wpAny (model X.prog X.w) X.A (newFunctionEnv sc X.env.globals cl [] X.env.qual none .none !X.env) (λR ax=>codeAny (model X.prog X.w) X.A (.compStart (.ListComp elt [#[tg,iter,ifs,0]] sc pos) 0 ↥it ai {R with scope:=relabel sc X.env}) (RR ai R.locals) ax) E t) E s₂:=by
 show ó (wpAny_newFunctionEnv S.nocell (by intro y hy;simp at hy) (λs k h=>?_) S.kind);dsimp only at k h⊢;generalize hH2:s₂.heap.push {cls:=.type "list",dict:=none,data:=.seq ([]:ϊ ϋ).toArray}=P2 at k h⊢;have K:P2.objs.size=⇑s₂+1:=by rw[<-hH2,Ĩ]
 generalize hCe:P2.objs.size=C at k h K⊢;generalize hDe:⇑s₂=D at K⊢;have L:D≠C:=by rw[K];show Þ (Ĕ _)
 have hC:⇑s₂<=C:=by rw[hDe,K];show Nat.le_succ _
 have hD:⇑s₂<=D:=by rw[hDe];show Ã _
 have a:∀b,b<⇑s₂->b≠C/\b≠D:=λb j=>#[Nat.ne_of_lt (Ò j hC),Þ (Ò j hD)];have as:∀b o,s₂.heap.get? b=!o->s.get? b=!o:=λb o e=>h.extBut b o (a b (Ë e)).1 (Jn _ (hH2▸Jn _ e));have al:s.get? D=!{cls:=.type "list",data:=.seq ([]:ϊ ϋ).toArray ↑([]:ϊ ϋ)}:=by have q:P2.get? ⇑s₂=!{cls:=.type "list",data:=.seq ([]:ϊ ϋ).toArray 0}:=hH2▸È _ Z;rw[hDe]at q;show h.extBut _ _ L (Jn _ q)
 have fl:∀b∈fp,b<⇑s₂:=λb j=>by let#[o,e,_]:=T.obj 0 _ st b j;show Ë e
 have A:tn 0 s:=T.keep 0 _ _ st λb _ o e=>as b o e;have IB:∀tk,Inv (blk X sc N' cl C s₂ H2 fp gE) [] (cap κ σ) H2 {s₂ with heap:=s,toks:=tk}:=λtk=>OD I G fl S am w ap hC k as;have ac:∀x c,cl.lookup x=!c->c<⇑s₂:=λx c M=>by let#[v,o,e,_]:=I.cell x c (w x c M);show Ë e
 have zz:∀p∈X.pn++gE,p.1<⇑s₂:=λp l=>Ë (I.pin p l).1;have ab:∀{H':Hp}{pl:Ϸ},(∀b∈fp,H' b=none)->(∀p∈pl,p.1=D)->∀b∈fp,oh (blk X sc N' cl C s₂ H2 fp gE) pl H' b:=λ{H' pl} hn be b j=>by
  show#[hn b j,(a b (fl b j)).1,λz=>?_,.inl j,λx c M=>(G b j).2.2.2.2.1 x c (w x c M),λp l=>?_]
  .rcases Å.mp (I.stkSub b z)with z|z;.show (G b j).2.1 z
   .show (G b j).2.2.1 z
  .rcases Æ.mp l with z|z;.show (G b j).2.2.2.2.2 p z
   .rw [be p z];show Ne.symm (a b (fl b j)).2
 have av:∀{s':ώ}{af:St}{H':Hp}{o:Obj},Inv (blk X sc N' cl C s₂ H2 fp gE) [] af H' s'->s'.heap.get? D=!o->H' D=none->(∀v,o.data≠.cell v)->Inv (blk X sc N' cl C s₂ H2 fp gE) [(D,o)] af H' s':=λ{s' af H' o} I' e n d=>I'.pins_of λp l=>by
   rw[Zs.mp l];show#[e,n,L,λz=>?_,d];have z':D<⇑s₂:=by
    rcases Å.mp (I.stkSub D z)with y|y;.have y':D=X.env.locals:=y;rw[y'];show I.lt
    .show μ y (I.nofs hD)
   show μ z' (Nat.not_lt.mpr hD)
 have Y:∀t:ώ,t= {s₂ with heap:= s,toks:= s₂.toks + ↑([] :ϊ (ϐ×ϋ))} ->codeAny (model X.prog X.w) X.A (.compLoop (.ListComp elt [#[tg,iter,ifs,0]] sc pos) 0 ↥it ↥D (compEnvC sc cl C X.env)) (RR ↥D C) t:=by
  rintro t rfl;show ul (λn s'=>∃(i:Nat)(ys:ϊ V)(f:ϊ ϋ)(H':Hp),Inv (blk X sc N' cl C s₂ H2 fp gE) [] (cap κ σ) H' s'/\tn i s'.heap/\(∀b∈fp,H' b=none)/\s'.heap.get? D=!{cls:=.type "list",data:=.seq f.toArray ↑f}/\Vals ys f/\H' D=none/\↑ys<=sizeLine/\W i n ys H') ?_ m0 #[0,[],[],H2,IB _,A,λb j=>(G b j).1,al,.nil,I.hok.fresh hD,ä _,w0];rintro n s3 ⟨i,ys,f,B,I3,aw,a5,d3,v3,n3,z3,w3⟩;have ah:=av I3 d3 n3 (by intro v z;cases z);have ff:=ab (pl:=[(D,({cls:=.type "list",data:=.seq f.toArray ↑f}:Obj))]) a5 (λp l=>by rw[Zs.mp l]);rcases ay i n ys B w3 with⟨stop,qn⟩|⟨go,hlt,N,hN,step⟩;.show bH (T.done (blk X sc N' cl C s₂ H2 fp gE) Z Z Z hc i _ s3 (cap κ σ) B _ ah ff aw stop) λr s4 ob=>?_;let#[hr,I4]:=ob;subst hr;change RR ↥D C (.ok .next) s4;let#[dD,nD,_]:=I4.pin (D,_) (ß _ Ì);have nC:B C=none:=I4.free;have O:=I4.base;have bb:HOk X.prog X.w (upd B D (.lst ys)) s4.heap:=HOk.track I4.hok nD #[z3,f,↑f,v3,dD];have un:Un (frs X.stack) fp H2 (upd B D (.lst ys)) s₂.heap s4.heap:=⟨O.keep,O.slot,λb o q n M=>by rw[aq (a b (Ë q)).2];show O.free b o q n M,O.there,λb xs q=>by rw[aq (aP (O.tups b xs q) nD)];show O.tups b xs q,λb o x q=>by rw[aq (aP (O.frzs b o x q) nD)];show O.frzs b o x q,λb ps q=>by let#[m1,e1]:=O.tbls b ps q;show⟨m1,by rw[aq (aP e1 nD)];show e1⟩⟩;have IX:Inv X gE σ (upd B D (.lst ys)) s4:=I.call' (by show I4.os) un bb I4.bare λb j=>#[(G b j).2.2.2.1,(G b j).2.1,(G b j).2.2.2.2];let#[m4,a9,_]:=I4.loc;show a7 D C _ s4 #[IX,#[m4,a9],by rw[aq (Ne.symm L)];show nC,Ne.symm (a _ I.lt).1,I.nofs hC,Í I.sz hC,λx c M=>?_,λp l=>(a _ (zz p l)).1] (qn D nD);let#[v,o,e,_]:=I.cell x c M;show(a c (Ë e)).1
  .show bH (T.item (blk X sc N' cl C s₂ H2 fp gE) Z Z Z hc i _ s3 (cap κ σ) B _ ah ff aw go) λr s4 ob=>?_;let#[u,hr,h4]:=ob;subst hr;show bH h4 λ_ s5 ob=>?_;let#[x,H5,I5,r5,y5,ae,a6]:=ob;have a4:=ab (pl:=[(D,({cls:=.type "list",data:=.seq f.toArray ↑f}:Obj))]) a6 (λp l=>by rw[Zs.mp l]);have a3:=I5.pinned a4 (T.obj _ _ ae);show bH (hg C _ s5 (cap κ σ) H5 x u _ a3 r5 (step x H5 y5)) λ_ s6 ob=>?_;let#[P,H6,I6,F,q6]:=ob;show bH (hi C _ s6 P H6 _ I6 q6) λok s7 ob=>?_;let#[H7,I7,q7]:=ob;have U:∀{a2:St}{H8:Hp}{s8:ώ},Inv (blk X sc N' cl C s₂ H2 fp gE) ([(D,({cls:=.type "list",data:=.seq f.toArray ↑f}:Obj))]++pq fp s5.heap) a2 H8 s8->tn (i+1) s8.heap/\(∀b∈fp,H8 b=none)/\s8.heap.get? D=!{cls:=.type "list",data:=.seq f.toArray ↑f}/\H8 D=none:=λ{a2 H8 s8} I8=>by
    show#[T.keep _ _ _ ae λb j o e=>(I8.pin (b,o) (ß _ (ß _ (j9 j e)))).1,λb j=>?_,?_];.obtain ⟨o,e,d⟩:=T.obj _ _ ae b j;show(I8.pin (b,o) (ß _ (ß _ (j9 j e)))).2.1
    .obtain ⟨e,n,_⟩:=I8.pin (D,_) (ß _ (ç _ Ì));show#[e,n]
   cases ok with|false=>
    have ad:N ys H7:=by simpa using q7
    let#[m',hm,w7]:=hN _ _ ad;let#[t8,f8,d8,n8]:=U I7;change∃m,m<n/\_;show#[m',hm,i+1,ys,f,H7,(I7.pins_of (pins':=[]) (λp l=>nomatch l)).weak F.1.symm F.2,t8,f8,d8,v3,n8,z3,w7]|true=>
    have ad:te P H7 λy H4=>N (ys++[y]) H4:=by simpa using q7
    change wpAny _ _ (eval elt (compEnvC sc cl C X.env)) _ _ s7;show bH (he C _ s7 P H7 _ I7 ad) λv s8 ob=>?_;let#[y,H8,I8,r8,q8]:=ob;let#[m',hm,w8]:=hN _ _ q8;let#[t8,f8,d8,n8]:=U I8;show append_at (hsz:=by rw[Ù,<-↑v3];show z3) d8 λh9 ar a8=>?_;have I9:Inv (blk X sc N' cl C s₂ H2 fp gE) [] P H8 {s8 with heap:=h9,toks:=s8.toks}:=by
     show(I8.pins_of (pins':=[]) (λp l=>nomatch l)).turned (λb o j e=>ar.extBut b o j e) n8 L (.inr hD) (λx c M=>(a c (ac x c M)).2) λp l=>?_;have bd:p∈X.pn++gE:=by simpa using l
     show(a _ (zz p bd)).2
    show#[m',hm,i+1,ys++[y],f++[v],H8,I9.weak F.1.symm F.2,T.keep _ _ _ t8 λb j o e=>ar.extBut b o (a b (fl b j)).2 e,f8,?_,Vals.append v3 (.cons r8 .nil),n8,?_,w8];.show h9.get? D=_;rw[a8];simp
    .rw [É,ã];show hlt
 show codeAny_compStart_list (Y _ Z) (T.self X.A 0 _ _ _ A (Y _ Z))
def kJ(κ:ϊ (ύ Nat))(wi:TI)(g:TG)(tc:TT)(te:TE):TE:=λσ H Q=>wi σ H λJ H1=>∃W:Nat->Nat->ϊ V->Hp->Prop,(∃m,W 0 m [] H1)/\∀i m ys H,W i m ys H->(J.stop i H/\∀p,H p=none->Q ↥p (upd H p (.lst ys)))\/(J.go i H/\↑ys<sizeLine/\∃N:ϊ V->Hp->Prop,(∀ys' H',N ys' H'->∃m',m'<m/\W (i+1) m' ys' H')/\∀x H',J.yld i H x H'->g x (cap κ σ) H' λσ2 H2=>pL (cap κ σ) σ2/\tc σ2 H2 λb H3=>if b=true then te σ2 H3 λy H4=>N (ys++[y]) H4 else N ys H3)
theorem Yg(r:ϊ<|ύ Nat)(i:ϊ ϐ)(B:X.calm=true)(k:PI X tg iter wi)(S:CScope X.env.scope sc)(b:capOk r i X.N sc=true)(G:∀cl C s H fp gE,PG (blk X sc i cl C s H fp gE) tg g) (K:∀cl C s H fp gE,Gp (blk X sc i cl C s H fp gE) ifs tc) (E:∀cl C s H fp gE,PE (blk X sc i cl C s H fp gE) elt te)(M:∀x,foldedSetIterable iter X.env x=pure x:=by intro _;rfl):PE X (.ListComp elt [#[tg,iter,ifs,0]] sc pos) (kJ r wi g tc te):=by
 intro gE s U H Q I h;let#[cl,a,c,d]:=Bh (sc:=sc) (env:=X.env) λy N F=>I.ok.has y.1<|S.frees y N F;rw[eval_ListComp];show wpAny_comprehension_free (use:=none) Z M a S.kind S.locs<|bH (k gE s U H _ I h) λv P z=>bH z λO o A=>?_;let#[zz,fp,tn,J,j,e,u,T,p,w,W,#[m0,R],f]:=A;subst e;show Bj B u T p w S b c d (λC=>G cl C o j fp gE) (λC=>K cl C o j fp gE) (λC=>E cl C o j fp gE) R f λD C t P l q=>?_;let#[m,L]:=l.ns;show#[m,L,λY n=>#[V.ref D,t,l.go n,Z,q]]
theorem nU{i:Nat}{p:Pos}(R:ϊ<|ύ Nat)(t:ϊ ϐ)(hc:X.calm=true)(hN:X.N.Nodup)(E:X.N[i]?=!x)(n:X.env.scope.names.lookup x=!.local)(B:PI X tg iter wi) (S:CScope X.env.scope sc) (f:capOk R t X.N sc=true)(hg:∀cl C s H fp gE,PG (blk X sc t cl C s H fp gE) tg g) (hi:∀cl C s H fp gE,Gp (blk X sc t cl C s H fp gE) ifs tc) (he:∀cl C s H fp gE,PE (blk X sc t cl C s H fp gE) elt te)(K:swapsWith (.ListComp elt [#[tg,iter,ifs,0]] sc pos) (!(.Name x p)) c.line X.env=pure true:=by rfl)
  (hs:∀x,foldedSetIterable iter X.env x=pure x:=by intro _;rfl):PS X (.Assign [.Name x p] (.ListComp elt [#[tg,iter,ifs,0]] sc pos) c) (aL (kJ R wi g tc te)<|ak i):=by
 intro gE s N H D I h;let#[cl,d,j,k]:=Bh (sc:=sc) (env:=X.env) λy hy hf=>I.ok.has y.1<|S.frees y hy hf;rw[exec_Assign_Name_used _ _ _ _ K];show Qr<|wpAny_standAt<|Qr ?_;change wpAny _ X.A (do let _<-comprehension (.ListComp elt [⟨tg,iter,ifs,0⟩] sc pos) sc X.env _ (newList []) false (eval iter X.env) !(assign (.Name x p) X.env)) _ _ s;show Qr<|ĉ (wpAny_comprehension_free (use:=!(assign (.Name x p) X.env)) (Q:=λ_ O=>SP X gE D .next O) Z hs d S.kind S.locs<|bH (B gE s N H _ I h) λv s1 h1=>bH h1 λab L h2=>?_) (λ_ O hq=>Wp<|Wp hq) λ_ _ e=>e;let#[it,fp,tn,J,w,e,zz,T,M,f2,W,#[m0,w0],r]:=h2;subst e;show Bj (Q:=λy Y=>ak i y N Y D.nx) hc zz T M f2 S f j k (λC=>hg cl C L w fp gE) (λC=>hi cl C L w fp gE) (λC=>he cl C L w fp gE) w0 r λu C U s1 l q=>?_;change wpAny _ X.A (assign (.Name x p) X.env<|.ref u) _ _ _;show wpAny_assign_Name<|rn l.inv hN E (.inl n) (v:=↥u) Z (λP I3 ⟨a,G,ha⟩=>?_)<|.inr n;let#[m,hn]:=l.ns;have A:C≠a:=by
  rcases ha with z|z;.rw [z];show l.nl
  .show Ne.symm<|l.nc x a z
 show#[m,hn.sameBut G A,λh' F=>?_];have I4:Inv X gE (N.set i !↥u) U {P with heap:=h'}:=I3.turned (t':=P.toks) (λb o hb e=>F.extBut b o hb e) l.un l.nl (.inr l.ab) l.nc l.np;show#[_,_,I4,q]
end
section
variable{κ:ϊ (ύ Nat)}{g:TG}{tc:TT}{te:TE}{σ:St}{H:Hp}{Q:VK}
theorem Gq{lo:Int}(d:Nat->ϊ V->Hp->Prop)(k:d 0 [] H)(o:n<=sizeLine)(r:∀i ys H,d i ys H->↑ys<=i)(q:∀i ys H,i<n->d i ys H->g (.int (lo+i)) (cap κ σ) H λa H2=>pL (cap κ σ) a/\tc a H2 λb h=>if b=true then te a h λy j=>d (i+1) (ys++[y]) j else d (i+1) ys h)(l:∀ys H,d n ys H->∀p,H p=none->Q ↥p (upd H p (.lst ys))):∃W:Nat->Nat->ϊ V->Hp->Prop,(∃m,W 0 m [] H)/\∀i m ys H,W i m ys H->((yu lo n).stop i H/\∀p,H p=none->Q ↥p (upd H p (.lst ys)))\/((yu lo n).go i H/\↑ys<sizeLine/\∃N:ϊ V->Hp->Prop,(∀f H',N f H'->∃m',m'<m/\W (i+1) m' f H')/\∀x H',(yu lo n).yld i H x H'->g x (cap κ σ) H' λa H2=>pL (cap κ σ) a/\tc a H2 λb h=>if b=true then te a h λy j=>N (ys++[y]) j else N ys h):=by
 show#[λi m ys H=>m=n-i/\i<=n/\d i ys H,#[n,by simp,ä _,k],?_];rintro i m ys H ⟨rfl,t,p⟩;by_cases c:i<n;.show .inr #[c,Ò (Õ (r _ _ _ p) c) o,d (i+1),λf H' s=>#[n-(i+1),(),Z,c,s],λx H' y=>?_];let#[e,y]:=y;subst e y;show q i ys _ c p
 .have e:i=n:=();subst e;show .inl #[Nat.le_refl _,l ys H p]
theorem OJ{K:Ϗ}{xs:ϊ V}(d:Nat->ϊ V->Hp->Prop)(l:d 0 [] H)(s:↑xs<=sizeLine)(r:∀i ys H,i<=↑xs->d i ys H->SqL K H a xs)(u:∀i ys H,d i ys H->↑ys<=i)(t:∀i x ys H,xs[i]?=!x->d i ys H->g x (cap κ σ) H λc H2=>pL (cap κ σ) c/\tc c H2 λb j=>if b=true then te c j λy k=>d (i+1) (ys++[y]) k else d (i+1) ys j)(n:∀ys H,d ↑xs ys H->∀p,H p=none->Q ↥p (upd H p (.lst ys))):∃W:Nat->Nat->ϊ V->Hp->Prop,(∃m,W 0 m [] H)/\∀i m ys H,W i m ys H->((O6 K a).stop i H/\∀p,H p=none->Q ↥p (upd H p (.lst ys)))\/((O6 K a).go i H/\↑ys<sizeLine/\∃N:ϊ V->Hp->Prop,(∀h H',N h H'->∃m',m'<m/\W (i+1) m' h H')/\∀x H',(O6 K a).yld i H x H'->g x (cap κ σ) H' λc H2=>pL (cap κ σ) c/\tc c H2 λb j=>if b=true then te c j λy k=>N (ys++[y]) k else N ys j):=by
 show#[λi m ys H=>m=↑xs-i/\i<=↑xs/\d i ys H,#[↑xs,by simp,ä _,l],?_];rintro i m ys H ⟨rfl,o,p⟩;have q:=r i ys H o p;by_cases f:i<↑xs;.show .inr #[#[xs,xs[i],q,by simp[f]],Ò (Õ (u _ _ _ p) f) s,d (i+1),λh H' v=>#[xs.length-(i+1),(),Z,f,v],λx H' y=>?_];let#[e,y]:=y;subst e;show t i x ys _ (y xs q) p
 .have e:i=↑xs:=();subst e;show .inl #[#[xs,q,Ã _],n ys H p]
end
mutual inductive Dp(K:Ϗ)(H:Hp):V->PyData->Prop where|non:Dp K H .non .none|bl (b:ϑ):Dp K H (.bl b) (.bool b)|int (i:Int):Dp K H (.int i) (.int i)|str (x:ϐ):Dp K H (.str x) (.str x)|lst {a:ό} {xs:ϊ V} {ds:ϊ PyData}:SqL K H a xs->DpAll K H xs ds->Dp K H ↥a (.list ds)|tup {a:ό} {xs:ϊ V} {ds:ϊ PyData}:SqT K H a xs->DpAll K H xs ds->Dp K H ↥a (.tuple ds)inductive DpAll(K:Ϗ)(H:Hp):ϊ V->ϊ PyData->Prop where|nil:DpAll K H [] []|cons {x:V} {xs:ϊ V} {d:PyData} {ds:ϊ PyData}:Dp K H x d->DpAll K H xs ds->DpAll K H (x::xs) (d::ds)end
theorem DpAll.ints{K:Ϗ}:∀ns:ϊ Int,DpAll K H (ns.map V.int)<|ns.map PyData.int
 |[]=>.nil|n::r=>.cons (.int n)<|DpAll.ints r
section
variable{X:Cx}
mutual theorem Dp.reads{gE:List<|Addr×Obj}{σ:St}{H:Hp}{s:Shared}(I:Inv X gE σ H s){x:V}{d:PyData}{u:Value}(h:Dp X.K H x d)(r:RelV x u):∃a,Reads s.heap u d a:=by cases h with
 |non=>cases(show _=Value.none from r);show#[_,.none]|bl b=>cases(show _=Value.bool b from r);show#[_,.bool b]|int i=>let#[t,rfl]:=r;show#[_,.int i t]|str x=>let#[t,rfl]:=r;show#[_,.str x t]|lst h hs=>cases(show _=Value.ref _ from r);let#[g,j,p,_]:=I.list h;let#[a,q]:=DpAll.reads I hs j;let#[o,n,e,c,_,f]:=p;show#[_,.list e c f<|by simpa using q]|tup h hs=>cases(show _=Value.ref _ from r);let#[g,j,p,_]:=I.tuple h;let#[a,q]:=DpAll.reads I hs j;let#[o,e,c,n,f]:=p;show#[_,.tuple e c f<|by simpa using q]theorem DpAll.reads{gE:List<|Addr×Obj}{σ:St}{H:Hp}{s:Shared}(I:Inv X gE σ H s){c:List V}{ds:List PyData}{b:List Value}(h:DpAll X.K H c ds)(r:Vals c b):∃a,ReadsAll s.heap b ds a:=by cases h with
 |nil=>cases r;show#[_,.nil]|cons h hs=>cases r with|cons r rr=>let#[a,q]:=Dp.reads I h r;let#[d,p]:=DpAll.reads I hs rr;show#[_,.cons q p]end
def rEqD(K:Ϗ):R2:=λx y H Q=>∃d e,Dp K H x d/\Dp K H y e/\SeqAt.shaped d=true/\SeqAt.shaped e=true/\Q (.bl<|PyData.eqv d e) H
def rNeD(K:Ϗ):R2:=λx y H Q=>∃d e,Dp K H x d/\Dp K H y e/\SeqAt.shaped d=true/\SeqAt.shaped e=true/\Q (.bl<|not (PyData.eqv d e)) H
theorem UJ(i:X.A.units+64<cLine):jw X (compareOp .Eq) (rEqD X.K):=by intro a s p H x y v u Q I l m h;let#[d,e,b,c,f,g,q]:=h;let#[n,j]:=b.reads I l;let#[o,k]:=c.reads I m;show eq_dataH j k f g i #[.bl _,H,I,Z,q]
theorem UT(i:X.A.units+64<cLine):jw X (compareOp .NotEq) (rNeD X.K):=by intro a s p H x y v u Q I l m h;let#[d,e,b,c,f,g,q]:=h;let#[n,j]:=b.reads I l;let#[o,k]:=c.reads I m;show ne_dataH j k f g i #[.bl _,H,I,Z,q]
end
theorem jH:∀ns ms:ϊ Int,PyData.eqvAll (ns.map PyData.int) (ms.map PyData.int)=decide (ns=ms)
 |[],[]=>by simp[PyData.eqvAll]|[],_::_=>by simp[PyData.eqvAll]|_::_,[]=>by simp[PyData.eqvAll]|n::r,m::q=>by simp only[Ç,PyData.eqvAll,PyData.eqv,jH r q];by_cases h:n=m<;>simp[h]
section
variable{X:Cx}
theorem wk:bV X (.builtin "isinstance") (λxs H Q=>∃T x t b,xs=[x,.ty T]/\TyOf X.K H x t/\PySem.W.kitOne X.K t (.type T)=!b/\Q (.bl b) H):=by
 intro c s k H xs j Q I f h;let#[T,x,t,b,rfl,ty,e,q]:=h;let#[u,i,rfl,d,a]:=f.two;cases(show i=Value.type T from a);show Dg I d ty e λg=>#[.bl b,H,I.tok g,Z,q]
def plainAttrs_int:PlainAttrs "int":=#[#["int.__getattribute__",PyProof.Rows.ga_int,PyProof.Rows.canon_ga_int],PyProof.Rows.no_getattr_int]
theorem Dy:Ul X "int.bit_length" (λx xs H Q=>∃i,x=.int i/\xs=[]/\Q (.int<|Builtin.Int.intBits i) H):=by
 intro a s e H x xs v d Q I c b h;let#[i,rfl,rfl,q]:=h;let#[t,rfl]:=c;cases b;show call_int_bit_length #[.int _,H,I.tok _,#[_,Z],q]
theorem rY:jw X (compareOp .LtE) (λx y H Q=>∃i j,x=.str i/\y=.str j/\Q (.bl<|not (decide<|j.cps.toList<i.cps.toList)) H):=by intro a s e H x y v u Q I b c h;let#[i,j,rfl,rfl,q]:=h;let#[t,rfl]:=b;let#[d,rfl]:=c;show PySem.P.le_str<|bj I q<|by simp
theorem Gr(i:X.calm=true):bV X (.builtin "sum") (λxs H Q=>∃(a:ό)(ns:ϊ Int),xs=[↥a]/\SqL X.K H a (ns.map V.int)/\Q (.int ns.sum) H):=by
 intro f s w H xs v Q I m h;let#[a,ns,rfl,k,q]:=h;let#[u,rfl,l]:=m.one;cases(show u=Value.ref a from l);let#[b,r,d,o]:=I.list k;have c:=intsAre_of r;let#[xs,e]:=c.allInts.items;rw[e]at d;show sum_intListG (I.ok.hd i) d.isList λn t p j=>?_;have g:preSum (numAt xs) xs.size=ns.sum:=by rw[preSum_eq,æ<|by simp,<-nums_intItems,<-e];change(numsOf b.toArray.toList).sum=_;rw[show b.toArray.toList=b from Z,c.numsOf]
 rw[g];show#[.int _,H,I.kept j,#[_,Z],q]
end
section
variable{X:Cx}
noncomputable def Its(x:ϐ):It:=#[λi _=>i<x.cps.size,λi H v H'=>H'=H/\∃c,x.cps[i]?=!c/\v=.str #[([c].toArray)],λi _=>i=x.cps.size]
theorem Gs{P:ϓ}{K:Ϗ}(x:ϐ)(t:Tok)(p:String)(a:ό)(N:["enumerate","zip","dict_itemiterator","dict_reverseitemiterator","odict_iterator","itertools.zip_longest","itertools.pairwise"].contains p=false)(W:∀A:ϖ,A.handled=none->Walks P w A a [a] [a] x.cps.size (SignAt x) (λi h=>h.IsStrIter a p x t i))(S:∀(A:ϖ)(i:Nat)(s:ώ)(Q:϶)(E:϶),s.heap.IsStrIter a p x t i->Q ↥a s->wpAny (model P w) A (pyIter<|.ref a) Q E s):Turn P w K tg (Its x) [a] a (λi h=>h.IsStrIter a p x t i)where
 mem:=by simp
 obj:=λi h f b j=>by
  have e:b=a:=by simpa using j
  subst e;let#[o,e,c,d]:=f;show#[o,e,λv z=>by rw[d]at z;cases z]
 keep:=λi h m f k=>by let#[o,e,r]:=f;show#[o,k a (by simp) o e,r]
 item:=by
  intro X G O F J i g s U H E I n f M;subst G O F;let#[q,y,zz,B,C,D]:=n a (by simp);show(W X.A<|I.ok.hd J).item i s _ _ M f λv m T hv l R=>?_;let#[c,u,hx,rfl]:=hv;have Y:Inv X g U H {s with heap:=m,toks:=T}:=I.turned (λb o j e=>R b o (by simpa using j) e) q y B C D;let#[o,e,L,d]:=id l;show⟨_,Z,rA (s:={s with heap:=m,toks:=T}) e L d N ⟨.str ⟨([c].toArray)⟩,H,Y,⟨u,Z⟩,⟨Z,c,hx,Z⟩,l,λb j=>(n b j).1⟩⟩
 done:=by intro X G O F J i g s U H E I n f M;subst G O F;let#[q,y,zz,B,C,D]:=n a (by simp);have e:i=x.cps.size:=M;subst e;show(W X.A<|I.ok.hd J).done s _ _ f λm T R=>#[Z,I.turned (λb o j e=>R b o (by simpa using j) e) q y B C D]
 self:=λA i s Q E f h=>S A i s Q E f h
abbrev UV(tl:TE):TI:=λσ H R=>tl σ H λx H1=>∃z,x=.str z/\R (Its z) H1
theorem Gu(r:PE X l tl):PI X tg l (UV tl):=by
 intro c s k H R I h;show bH (r c s k H _ I h) λv a ob=>?_;let#[x,m,g,w,u]:=ob;let#[z,e,q]:=u;subst e;let#[t,rfl]:=w;have fin:∀(d:String)(o:Obj),(["enumerate","zip","dict_itemiterator","dict_reverseitemiterator","odict_iterator","itertools.zip_longest","itertools.pairwise"].contains d=false)->(∀A:ϖ,A.handled=none->Walks X.prog X.w A ⇑a [⇑a] [⇑a] z.cps.size (SignAt z) (λi h=>h.IsStrIter ⇑a d z t i))->(∀(A:ϖ)(i:Nat)(s:ώ)(Q:϶)(E:϶),s.heap.IsStrIter ⇑a d z t i->Q ↥⇑a s->wpAny (model X.prog X.w) A (pyIter<|.ref ⇑a) Q E s)->(a.heap.push o).IsStrIter ⇑a d z t 0->PIE X c k tg R ↥⇑a {a with heap:=a.heap.push o}:=λd o n W S f=>by
  show#[⇑a,[⇑a],_,_,m,Z,g.kept (t':=a.toks) λb o e=>Jn _ e,Gs z t d _ n W S,f,λb p=>?_,q];have e:b=⇑a:=by simpa using p
  subst e;show g.fpOk (Ã _)<|g.hok.fresh<|Ã _
 cases ha:z.cps.all (·<128);.show wpAny_pyIter_wide ha (fin "str_iterator" _ (by decide) (λA j=>Walks.strWide j _ z t) (λA i s Q E f h=>wpAny_pyIter_striter_wide f h) #[_,È _ Z,Z,Z])
 .show wpAny_pyIter_ascii ha (fin "str_ascii_iterator" _ (by decide) (λA j=>Walks.strAscii j _ z t) (λA i s Q E f h=>wpAny_pyIter_striter_ascii f h) #[_,È _ Z,Z,Z])
end
structure ZipNe(z TI TO i1 i2:ό):Prop where
 TIz:TI≠z
 TOz:TO≠z
 i1z:i1≠z
 i2z:i2≠z
 TITO:TI≠TO
 TIi1:TI≠i1
 TIi2:TI≠i2
 TOi1:TO≠i1
 TOi2:TO≠i2
 i12:i1≠i2
theorem Inv.turnedAll{X:Cx}{s:ώ}(I:Inv X gE σ H s)(k:∀b o,b∉ch->s.heap.get? b=!o->h'.get? b=!o)
  (d:∀b∈ch,oh X gE H b):Inv X gE σ H {s with heap:=h',toks:=t'}:=by
 have f:∀b u,H b=!u->b∉ch:=λb u e z=>by rw[(d b z).1]at e;cases e
 show I.step (g':=s.gens) (d':=s.drawn) (ch:=ch) (λb g=>?_) (λb o _ _ a e _=>k b o a e) (λb o _ _ a e _=>#[o.slots,k b o a e]) (λ_ _ _ _ n=>n)
  (λb o a e=>#[o,k b o a e]) (λ_ _ e=>e) (λ_ _ _ e=>e) (λb p e=>#[([].toArray),by rw[e];simp]) (λm j=>?_) (λb u e=>?_) I.bare
 .show #[(d b g).2.2.2.1,(d b g).2.1,(d b g).2.2.2.2.1,(d b g).2.2.2.2.2]
 .obtain ⟨o,i,h,l,r⟩:=j;show#[o,i,h,k _ o (λz=>(d _ z).2.1 Z) l,r]
 .show (I.hok b u e).stay (λc v a q=>k c v ?_ q) (λ_ q=>q) λ_ _ q=>q
  rcases a with z|z
  .rw [z];show f b u e
  .show f c _ z
theorem Inv.yields{X:Cx}{s:ώ}{x y:V}{v:ϋ}(I:Inv X gE σ H s)(k:∀b o,b∉ch->s.heap.get? b=!o->h'.get? b=!o)(g:∀b∈ch,oh X gE H b) (h:RelV x u) (i:RelV y v) (e:h'.get? ⇑s=!{cls:=.type "tuple",data:=.seq<|[u,v].toArray}):H ⇑s=none/\Inv X gE σ (upd H ⇑s<|.tup [x,y]) {s with heap:=h',toks:=t'}:=by
 have a:H ⇑s=none:=I.hok.fresh<|Ã _;have n:∀b z,H b=!z->upd H ⇑s (.tup [x,y]) b=!z:=λb z q=>by rw[aq<|aP q a];show q
 show⟨a,I.call' (s':={s with heap:=h',toks:=t'}) Z ⟨λb o q _ _ f=>k b o f q,λb o q _ _ f=>⟨o.slots,k b o f q⟩,λb o q n _=>by rw[aq<|Þ<|Ë q];show n,λb o q f=>⟨o,k b o f q⟩,λb _ q=>n b _ q,λb _ _ q=>n b _ q,λb j q=>⟨([].toArray),by rw[n b _ q];simp⟩⟩
  (HOk.track (I.turnedAll (t':=t') k g).hok a ⟨by change 2<=sizeLine;decide,[u,v],.cons h<|.cons i .nil,_,e,Z,_,Z⟩) I.bare λc d=>⟨(g c d).2.2.2.1,(g c d).2.1,(g c d).2.2.2.2⟩⟩
structure Cal(P:ϓ)(w:ϕ)(K:Ϗ)(mg:ϐ->ύ ϋ)(base:ϒ)(n:Nat)(x:ϐ)(ps:ϊ ϐ)(sp:Sp):Prop where ex:∃(f:ό)(fd:FuncData),FnOk P w K mg base Gh n f fd ps sp/\Binds K fd ps []/\W.keepIn K (.ref f)=true/\mg x=!(.ref f)
section
variable{X:Cx}{n k:Nat}{x:ϐ}{ps:ϊ ϐ}{sp:Sp}{p pos:Pos}{e:Expr}{es:ϊ Expr}{t:TA}
theorem yP(c:Cal X.prog X.w X.K X.mg X.base n x ps sp)(m:Room k X.A)(j:n<=k)(i:Gl X x)(d:PA X (e::es) t)(a:(x==("__debug__":ϐ))=false:=by decide)(h:starEach (e::es) X.env=(false,eval e X.env)::starEach es X.env:=by rfl) (b:(backTo pos<|starEach es X.env).any (·.1)=false:=by rfl):PE X (.Call (.Name x p) (e::es) [] pos) (jn sp [] E0 t):=by let#[f,q,F,g,o,l]:=c.ex;show Bb F (m.mono j) i l o g .nil Rv d a h b
end
def small(h:n<=1000):n<=sizeLine:=â<|Dq h
theorem ao(h:H p=none)(o:HO):Same H (upd H p o):=λb u q=>by rw[aq<|aP q h];show q
def Same.get(e:Same H b)(h:H a=!o):b a=!o:=e a o h
def aF(h:H p=none)(q:H a=!o):upd H p b a=!o:=ao h b a o q
section
variable{X:Cx}(K:Ϗ)(hK:X.K=K)
include hK
theorem Gv:XH X (cD K):=hK▸Oh
theorem P0:XH X (gK K):=hK▸Um
theorem wu:Uj X (Gb K):=hK▸Oi
theorem fG:jw X (compareOp .In) (Ol K false):=hK▸Di
theorem Bk(a:X.A.units+64<cLine):jw X (compareOp .Eq) (rEqD K):=hK▸UJ a
theorem Pa(a:X.A.units+64<cLine):jw X (compareOp .NotEq) (rNeD K):=hK▸UT a
def ww(K:Ϗ):ϊ V->Hp->VK->Prop:=λxs H Q=>∃x n,xs=[x]/\Yc K x H n/\Q (.int n) H
theorem az:bV X (.builtin "len") (ww K):=by subst hK;show G4
def jU(K:Ϗ):ϊ V->Hp->VK->Prop:=λxs H Q=>∃p ys,xs=[↥p]/\(SqL K H p ys\/SqT K H p ys)/\∀l,H l=none->Q ↥l (upd H l<|.lst ys)
theorem fK:bV X (.type "list") (jU K):=by subst hK;show ud
def iI(K:Ϗ):ϊ V->Hp->VK->Prop:=λxs H Q=>∃p ys,xs=[↥p]/\((SqL K H p ys/\∀l,H l=none->Q ↥l (upd H l (.tup ys)))\/(SqT K H p ys/\Q ↥p H))
theorem eV:bV X (.type "tuple") (iI K):=by subst hK;show qT
def fL(K:Ϗ):ϊ V->Hp->VK->Prop:=λxs H Q=>∃T x t b,xs=[x,.ty T]/\TyOf K H x t/\PySem.W.kitOne K t (.type T)=!b/\Q (.bl b) H
theorem cJ:bV X (.builtin "isinstance") (fL K):=by subst hK;show wk
def Pb(K:Ϗ):ϊ V->Hp->VK->Prop:=λxs H Q=>∃(a:ό)(ns:ϊ Int),xs=[↥a]/\SqL K H a (ns.map V.int)/\Q (.int ns.sum) H
theorem rZ(a:X.calm=true):bV X (.builtin "sum") (Pb K):=by subst hK;show Gr a
theorem aX(a:PE X l tl):PI X tg l (cC K tl):=hK▸O7 a
theorem gA(a:PE X l tl):PI X tg l (ph K tl):=hK▸U9 a
abbrev lA(K:Ϗ)(ta:TE):TT:=λσ H Q=>ta σ H λx H'=>∃k,Oc K x H' k/\Q k H'
theorem bW{a:Expr}(d:PE X a c)(e:∀b,isTrue a X.env b=(do let v<-b;standAt a.pos;holding [v]<|truthy v)):PT X a (lA K c):=by subst hK;show FZ d e
theorem bR{a:ϊ Expr}{k:Nat}(c:X.calm=true)(h:Y7 X a t)(d:↑(assignEach a X.env)=n:=by rfl) (b:(assignEach a X.env).findIdx? (·.1)=none:=by rfl):PG X (.Tuple a k pos) (gr K n t):=by subst hK;show U8 c h d b
end
section
variable{X:Cx}(K:Ϗ)(hK:X.K=K){o e:Expr}{es:ϊ Expr}{to:TE}{t:TA}{name:ϐ}{apos cpos:Pos}{T id:String}{r:V->ϊ V->Hp->VK->Prop}
include hK
theorem Bl(g:PlainAttrs T)(c:Slot T name id)(d:typeOf (.builtin id)=pure (.type "method_descriptor"))(e:Ul X id r)(f:PE X o to)(a:attributeBase o name X.env (eval o X.env)=eval o X.env:=by rfl)(b:(apos.endLine==cpos.line)=true:=by rfl):PE X (.Call (.Attribute o name apos) [] [] cpos) (Om K T r to):=by subst hK;show Uq g c d e f a b
theorem pM(l:PlainAttrs T)(f:Slot T name id)(g:typeOf (.builtin id)=pure (.type "method_descriptor"))(i:Ul X id r)(j:PE X o to)(h:PA X (e::es) t)(b:attributeBase o name X.env (eval o X.env)=eval o X.env:=by rfl)(d:((backTo cpos (starEach (e::es) X.env)).all (λx=>not x.1)&&(backToKw cpos (keywordEach [] X.env)).all (λx=>x.1.isSome)&&decide (↑(e::es)+↑([]:ϊ Keyword)+(if([]:ϊ Keyword).isEmpty then 0 else 1)<30))=true:=by rfl)(c:(apos.endLine==cpos.line)=true:=by rfl) (k:starEach (e::es) X.env=(false,eval e X.env)::starEach es X.env:=by rfl) (a:(backTo cpos (starEach es X.env)).any (·.1)=false:=by rfl):PE X (.Call (.Attribute o name apos) (e::es) [] cpos) (ue K T r to t):=by subst hK;show Yd l f g i j h b d c k a
end
abbrev b7:R2:=u5 λi j=>.int<|i+j
abbrev su:R2:=u5 λi j=>.int<|i-j
abbrev gR:R2:=rI CMul λi j=>.int<|i*j
abbrev pN:R2:=rI Y9 λi j=>.int<|i/j
abbrev bL:R2:=rI (λ_ j=>0<j) λi j=>.int<|i%j
abbrev Ry:R2:=rI Yb λi j=>.int<|i*2^j.toNat
abbrev Yh:R2:=u5 λi j=>.int<|Builtin.bitAnd i j
abbrev Rz:R2:=u5 λi j=>.int<|Builtin.bitXor i j
abbrev lN:R2:=u5 λi j=>.bl<|decide<|i<j
abbrev lO:R2:=u5 λi j=>.bl<|decide<|i<=j
abbrev kj:R2:=u5 λi j=>.bl<|decide<|j<i
abbrev Yi:R2:=u5 λi j=>.bl<|decide<|j<=i
abbrev dG:R2:=λx y H Q=>∃i j,x=.str i/\y=.str j/\↑i+↑j<=sizeLine/\Q (.str<|i++j) H
abbrev pO:R2:=λx y H Q=>∃i j,x=.str i/\y=.str j/\Q (.bl<|not (decide<|j.cps.toList<i.cps.toList)) H
abbrev iJ:R2:=λx y H Q=>y=.non/\Q (.bl<|decide<|x=.non) H
abbrev lB:R2:=λx y H Q=>y=.non/\Q (.bl<|not (decide<|x=.non)) H
abbrev iK:V->Hp->VK->Prop:=rU λi=>.int<|-i
abbrev wy:V->ϊ V->Hp->VK->Prop:=λx xs H Q=>∃i,x=.int i/\xs=[]/\Q (.int<|Builtin.Int.intBits i) H
abbrev RB:ϊ V->Hp->VK->Prop:=λxs H Q=>∃x,xs=[.str x]/\↑x=1/\Q (.int (x.cps.getD 0 0:Nat)) H
abbrev pP:ϊ V->Hp->VK->Prop:=λxs H Q=>∃i j,xs=[.int i,.int j]/\Q (.int<|if j<i then j else i) H
abbrev yQ:ϊ V->Hp->VK->Prop:=λxs H Q=>∃i j,xs=[.int i,.int j]/\Q (.int<|if j>i then j else i) H
abbrev Bo:XD:=ipI λi j=>i+j
end L2
end
section
namespace L2
open PySem PySem.Spec PySem.Calls PyProof.Rows PySem.W PySem.Builtin PySem.Builtin.ObjectAttr PySem.Builtin.Getset_descriptor
structure ExcK(K:Ϗ)(C:ό):Prop where
 ex:PySem.W.excIn K C [.type "ValueError",.type "Exception",.type "BaseException",.type "object"] "ValueError.__new__"=true
 ga:findIn K ↥C "__getattribute__"=!(!(.builtin "BaseException.__getattribute__"))gt:findIn K ↥C "__getattr__"=!none
 cl:findIn K ↥C "__class__"=!(!(.builtin "object.__class__"))ge:specialIn K (.builtin "object.__class__") "__get__"=!(!(.builtin "getset_descriptor.__get__"))tk:takesIn K (.builtin "object.__class__")=!true
 mo:mroIn K C (.type "object")=!true
 mb:subIn K ↥C (.type "BaseException")=!true
end L2
end
section
namespace L2
open PySem PySem.Spec PyProof.Rows
variable{k:Nat}
theorem lC:∀{ys:ϊ ϐ}{us:ϊ ϋ},Vals (ys.map V.str) us->StrsAre us ys
 |[],_,r=>by cases r;show .nil|y::ys,_,r=>by cases r with|cons r rr=>let#[t,rfl]:=r;show .cons y t<|lC rr
def rJoin(K:Ϗ):V->ϊ V->Hp->VK->Prop:=λx vs H Q=>∃(s:ϐ)(a:ό)(ys:ϊ ϐ),x=.str s/\vs=[↥a]/\SqL K H a (ys.map V.str)/\(ys.map (·.length)).sum+↑ys*↑s<=16777216/\Q (.str<|Txt.join s ys) H
def oE:V->ύ Int->ύ Int->Hp->VK->Prop:=λx lo hi H Q=>∃s:ϐ,x=.str s/\↑s<=sizeLine/\Q (.str<|Txt.slice s lo hi) H
section
variable{X:Cx}
theorem Ph:Ul X "str.join" (rJoin X.K):=by
 intro c s w H x o v n Q I j i h;let#[z,a,p,rfl,rfl,e,b,q]:=h;let#[t,rfl]:=j;let#[u,rfl,g]:=i.one;cases(show u=Value.ref a from g);let#[f,r,d,m]:=I.list e;show join_list d.isList (lC r) b λl k=>#[.str _,H,I.tok k,#[l,Z],q]
def Gx(K:Ϗ)(a:X.K=K):Ul X "str.join" (rJoin K):=a▸Ph
theorem ir:Uj X oE:=by
 intro a s w H x v y A lo m d Q I p b o c h;let#[z,rfl,n,q]:=h;let#[t,rfl]:=p;have fin:∀(l u:ύ<|Int×Tok),l.map (·.1)=lo->u.map (·.1)=m->s.heap.IsSlice d l u none->wpAny (model X.prog X.w) X.A (getItem (.str z t)<|.ref d) (EP X a w Q) X.xe s:=by intro l u e f g;show wpAny_getItem_str_slice (l:=l) (u:=u) (st:=none) g Z ?_;subst e f;show post_val_or_str #[Nat.le_trans (Txt.slice_le z _ _) n,λr k=>#[.str _,H,I.tok k,#[r,Z],q]]
 show#["str",_,F.slot_str_getitem.lookup,typeIs_str _ _ _,?_];cases o with
 |none=>cases c with
  |none=>show fin none none Z Z b|int j u=>show fin none (!(j,u)) Z Z b
 |int i u=>cases c with
  |none=>show fin (!(i,u)) none Z Z b|int j u'=>show fin (!(i,u)) (!(j,u')) Z Z b
end
def Ite(K:Ϗ)(a:ό):It:=⟨λi H=>∃xs x,SqL K H a xs/\xs[i]?=!x,λi H v H'=>∃p x,H p=none/\v=↥p/\H'=upd H p (.tup [.int (i:Int),x])/\∀xs,SqL K H a xs->xs[i]?=!x,λi H=>∃xs,SqL K H a xs/\↑xs<=i⟩
structure EnSt(e it a:ό)(i:Nat)(h:ϒ):Prop where
 he:∃old,IsEnum h e it (i:Int) old
 h1:h.IsListIter it a i
theorem DG{P:ϓ}{K:Ϗ}{e y:ό}(a:ό)(D:e≠y):Turn P w K (.Tuple elts k tpos) (Ite K a) [e,y] e (EnSt e y a)where
 mem:=by simp
 obj:=λi h j c r=>by
  let#[#[f,d],#[Y,C,c1,d1]]:=j;simp only[Å,Ú,þ]at r;rcases r with rfl|rfl;.show #[_,d,λv z=>by cases z]
  .show #[Y,C,λv z=>by rw[d1]at z;cases z]
 keep:=λi h S j m=>by let#[#[f,d],l]:=j;show#[#[f,m e (by simp) _ d],l.at λo e=>m y (by simp) o e]
 item:=by
  intro X G N F r i A s σ H E I B j J;subst G N F;let#[xs,x,g,U]:=J;let#[Q,R,p,O]:=I.list g;let#[u,hu,ru]:=R.get U;let#[#[f,d],l]:=id j;show wpAny_pyNext_enum_item (x:=u) d l p.isList (by simpa using hu) D λS a1 a2 a3 a4 a5=>?_;show#[_,Z,wpAny_letOwnedTupleGo_enum a1 λn b1 M=>?_];have hT:⇑s≠e:=ė<|Ë d;have m:∀c o,c∉[e,y]->s.heap.get? c=!o->n.get? c=!o:=λc o b q=>by simp only[Å,Ú,þ,not_or]at b;show M.extBut _ _ b.1<|a5 c o b.1 b.2 q
  have e5:n.get? ⇑s=!{cls:=.type "tuple",data:=.seq<|[.int i s.toks,u].toArray}:=M.extBut _ _ hT a3;let#[t,zz]:=I.yields (t':=s.toks+1) m B (x:=.int (i:Int)) #[_,Z] ru e5;show#[↥⇑s,_,zz,Z,#[_,x,t,Z,Z,λac h=>by rw[I.list_inj h g];show U],#[#[u,by have:=b1;rwa[show((i:Int)+1)=((i+1:Nat):Int)by rfl']at this],a2.extBut M.extBut<|Ne.symm D],λc b=>?_];have L:c<⇑s:=by
   let#[Y,C,_]:=l;simp only[Å,Ú,þ]at b;rcases b with rfl|rfl
   .show Ë d
   .show Ë C
  rw[aq<|Þ L];show(B c b).1
 done:=by
  intro X G N F r i A s σ H E I B j J;subst G N F;let#[xs,g,T]:=J;let#[Q,R,p,O]:=I.list g;let#[#[f,d],l]:=id j;have ab:=↑R;show wpAny_pyNext_enum_end (I.ok.hd r) d l p.isList (by simp;rfl') λS m=>?_;show#[Z,I.turnedAll (t':=s.toks) (λc o b q=>?_) B];simp only[Å,Ú,þ,not_or]at b;show m c o b.2 q
 self:=λ_ _ _ _ _ j h=>by let#[f,d]:=j.he;show ς d h
abbrev Bp(K:Ϗ)(ta:TA):TI:=λσ H R=>ta σ H λvs H1=>∃a xs,vs=[↥a]/\SqL K H1 a xs/\R (Ite K a) H1
theorem Pj{X:Cx}(o:Gl X "enumerate")(F:X.calm=true)(t:X.mg "enumerate"=none)(n:PA X [a] ta)(u:starEach [a] X.env=[(false,eval a X.env)]:=by rfl):PI X (.Tuple elts k tpos) (.Call (.Name "enumerate" p) [a] [] pos) (Bp X.K ta):=by
 intro f s D H R I h;show Call_ (fW I o t (show bootBuiltins "enumerate"=!(.type "enumerate")by ac_nf) (Ċ (bH (n pos f s D H _ I h) λJ g ⟨K,m,i,B,A⟩=>?_) (by rw[u];rfl) (by rfl)));let#[y,L,e,j,q]:=A;subst e;cases B with|cons r rr=>
  cases rr;cases r;let#[w,G,z,v]:=i.list j;show call_enumerate_list z.isList λE l C M x=>?_;show ς l ?_;show#[⇑g+1,[⇑g+1,⇑g],_,_,m,Z,i.kept (t':=g.toks) x,DG y (by change(_:Nat)≠_;rfl'),#[#[_,l],C],λc b=>?_,q];have d:⇑g<=c:=by simp only[Å,Ú,þ]at b;rcases b with rfl|rfl<;>(change(_:Nat)<=_;rfl')
  show i.fpOk d<|i.hok.fresh d
theorem wA{X:Cx}(K:Ϗ)(b:X.K=K)(e:Gl X "enumerate")(d:X.calm=true)(f:X.mg "enumerate"=none)(c:PA X [a] ta)(g:starEach [a] X.env=[(false,eval a X.env)]:=by rfl):PI X (.Tuple elts k tpos) (.Call (.Name "enumerate" p) [a] [] pos) (Bp K ta):=by subst b;show Pj e d f c g
section
variable{i ep:Nat}
theorem uo{c:Type}{P:c->ώ->Prop}{h:ϒ}(f:A.handled=none)(g:Heap.SameBut it h s.heap)(d:∀h',Heap.ExtBut it h h'->Q none {s with heap:=h'}):wpAny (model prog w) A.in1 (newExc (.type "StopIteration") []>>=λe=>(raiseNew e:Sem c)) P (λv s'=>∅ (do if <-isInstance v (.type "StopIteration")then pure none else throw v:Sem<|ύ ϋ) Q E s') s:=by show Qr ?_;simp-iota only[newExc,newTuple];show Qr (ó ?_ (by size_fits));show Qr (m:=firstArgMember _ _) (wpAny_of_eq (a:=Value.none) (by first|rfl|(simp-iota only[firstArgMember];rfl)) ?_);show ó ?_ (by size_fits);simp-iota only[raiseNew];show Qr<|wpAny_handled ?_;rw[show A.in1.handled=none from f];show Qr<|Wp<|wpAny_throw ?_;show Qr<|ĭ (T:="StopIteration") (b:=true) #[_,È _ Z,Z] isSubtype_stop<|Wp<|d _<|(g.extBut.push _).push _
theorem lQ(x:A.handled=none)(g:s.heap.IsKeyIter it d i es.size ep)(h:s.heap.get? d=!od)(f:od.data=.dict es ep)(u:∀(hi:i<es.size) h',h'.IsKeyIter it d (i+1) es.size ep->Heap.SameBut it s.heap h'->Q (!es[i].key) {s with heap:=h'})(t:es.size<=i->∀h',Heap.ExtBut it s.heap h'->Q none {s with heap:=h'}):∅ (pyNext<|.ref it) Q E s:=by
 let#[o,j,v,e]:=id g;have T:=g.typeIs (s:=s);unfold pyNext;show Qr<|wpAny_attempt<|wpAny_callSpecial?_slot (name:=Str.ofString "__next__") T F.slot_dict_keyiterator_next<|î F.slot_dict_keyiterator_next T F.entry_dict_keyiterator_next ?_<|F.args_dict_keyiterator_next_1 _;have q:Builtin.Dict_items.ownsTuple "dict_keyiterator"=false:=by decide
 have r:¬(Value.ref d==Value.none)=true:=Ï;have y:¬((i:Int)<0):=();have l:∀{k:ώ}{m:ϖ}{n:϶}{R:String->ώ->Prop},k.TypeIs ↥it "dict_keyiterator"->R "dict_keyiterator" k->wpAny (model prog w) m (typeNameOfWhole<|.ref it) R n k:=λa b=>wpAny_typeNameOfWhole_keyiter a b;repeat(first
  |(show l T ?_)|(show wpAny_fieldsOf j e ?_)|(show Į h f ?_)|(show wpAny_dictEpoch h f ?_)|(show wpAny_isOneOf_keyiter T ?_)|(show Wp ?_)|(show Qr ?_)|(simp only[q,Û,ċ])|(rw[γ r])|(rw[γ<|by simp]))
 rw[Ó];rcases Μ i es.size with hi|hi;.rw [ë hi];have c:(s.heap.update it (Obj.mapFields (·.setIfInBounds 1<|rawInt<|(i:Int)+1))).IsKeyIter it d (i+1) es.size ep:=#[_,ñ _ j<|Ĺ<|ú e _,(Β ..).trans v,by rw[ú e];simp[rawInt]];have p:=c.typeIs (s:={s with heap:=s.heap.update it (Obj.mapFields (·.setIfInBounds 1<|rawInt<|(i:Int)+1))});dsimp only;show Qr<|Qr<|l T<|Wp<|Qr<|wpAny_isOneOf_keyiter T ?_;change wpAny (model prog w) A.in1 (do setField ↥it 1<|rawInt<|(i:Int)+1;_) _ _ s;show Qr<|ĩ j e (by simp)<|Qr<|õ<|Qr<|wpAny_isOneOf_keyiter p<|Wp ?_;show Wp #[_,Z,Wp<|u hi _ c<|è ..]
 .rw [τ hi];dsimp only;show Qr<|Qr<|l T<|Wp ?_;change wpAny (model prog w) A.in1 (do setField ↥it 0 .none;_) _ _ s;show Qr<|ĩ j e (by simp)<|uo x (è ..)<|t hi
def wB(f:A.handled=none)(b:s.heap.IsKeyIter it d i es.size ep)(c:s.heap.get? d=!od)(a:od.data=.dict es ep)(g:i<es.size)(e:∀h',h'.IsKeyIter it d (i+1) es.size ep->Heap.SameBut it s.heap h'->Q (!es[i].key) {s with heap:=h'}):∅ (pyNext<|.ref it) Q E s:=lQ f b c a (λ_=>e) λn=>μ g<|Nat.not_lt.mpr n
def Br(f:A.handled=none)(b:s.heap.IsKeyIter it d i es.size ep)(c:s.heap.get? d=!od)(a:od.data=.dict es ep)(g:es.size<=i)(e:∀h',Heap.ExtBut it s.heap h'->Q none {s with heap:=h'}):∅ (pyNext<|.ref it) Q E s:=lQ f b c a (λn=>μ n<|Nat.not_lt.mpr g) λ_=>e
theorem pQ(c:(d==sysModules)=false)(T:s.TypeIs ↥d "dict")(b:s.heap.get? d=!od)(a:od.data=.dict es ep)(e:R ↥⇑s {s with heap:=s.heap.push {cls:=.type "dict_keyiterator",data:=.fields<|[↥d,.int 0 0,.int es.size 0,.int ep 0].toArray}}):∅ (pyIter<|.ref d) R E s:=by
 show υ T F.slot_dict_iter<|î F.slot_dict_iter T F.entry_dict_iter ?_<|F.args_dict_iter_1 _;unfold Builtin.«dict.__iter__» Builtin.Dict.dictSlotNone Builtin.Dict.showsAll;have f:¬((d==sysModules)=true):=by rw[c];show Ï
 show Qr<|Qr<|ĺ T ?_;change wpAny _ _ (pure<|Value.ref d) _ _ s;show Wp ?_;change wpAny _ _ ((if(d==sysModules)=true then _ else _)>>=_) _ _ s;rw[γ f];show Qr<|Wp<|Qr<|Į b a<|Qr<|wpAny_dictEpoch b a ?_;show Qr<|ó<|Wp #[_,Z,"dict_keyiterator",_,#[_,È _ Z,Z],F.slot_dict_keyiterator_next.lookup,by simpa[rawInt]using e]
end
def Fz:HO->Prop
 |.dK _=>True|.dT _=>True|.ext _=>True|_=>False
theorem HOk.freeze{a:ό}(x:HOk P w H h)(f:H a=!u)(i:h.get? a=!d)(j:Fz u):HOk P w (upd H a<|.frz d u) h:=by
 have n:∀c v,H c=!v->¬Fz v->upd H a (.frz d u) c=!v:=λc v q n=>by rw[aq<|dm q f λz=>n<|z▸j];show q
 intro b v e;by_cases g:b=a
 .subst g;rw[aj]at e;cases e;show#[i,(x b _ f).stay (λc v _ q=>q) (λc q=>n c _ q id) λc k q=>n c _ q id]
 .rw [aq g]at e;show(x b v e).stay (λc v _ q=>q) (λc q=>n c _ q id) λc k q=>n c _ q id
theorem Inv.freeze{X:Cx}{a:ό}(I:Inv X gE g H s)(d:H a=!u)(h:s.heap.get? a=!e)(f:Fz u):Inv X gE g (upd H a<|.frz e u) s:=
 have n:∀c v,H c=!v->¬Fz v->upd H a (.frz e u) c=!v:=λc v q n=>by rw[aq<|dm q d λz=>n<|z▸f];show q
 I.call' (ch:=[]) Z ⟨λb o q _ _ _=>q,λb o q _ _ _=>⟨o.slots,q⟩,λb o q n _=>by rw[aq<|λz=>by rw[z,d]at n;cases n];show n,λb o q _=>⟨o,q⟩,λb k q=>n b _ q id,λb o u q=>n b _ q id,λb j q=>⟨([].toArray),by rw[n b _ q id];simp⟩⟩ (I.hok.freeze d h f) I.bare λb i=>nomatch i
theorem iM{d e:Type}{F:d->e->Prop}:∀{c:ϊ d}{l₂:ϊ e}(i:Nat),Paired F c l₂->i<↑c->∃a b,c[i]?=!a/\l₂[i]?=!b/\F a b
 |_,_,_,.nil,h=>by simp at h|_,_,0,.cons r _,_=>#[_,_,Z,Z,r]|_,_,i+1,.cons _ t,h=>by let#[a,b,f,g,j]:=iM i t (by simpa using h);show#[a,b,by simpa using f,by simpa using g,j]
theorem sy{a:ϊ ϐ}(h:StrsAre b a):Vals (a.map V.str) b:=by induction h with
 |nil=>show .nil|cons n t _ ih=>show .cons #[t,Z] ih
end L2
end
section
namespace Sx
open PySem PyProof.Rows
structure Wk(B:Keyed->Keyed->ϑ):Prop where
 rf:∀p,B p p=false
 tr:∀{p q r},B q p=false->B r q=false->B r p=false
 an:∀{p q},B p q=true->B q p=false
noncomputable def gt(xs:ϔ Keyed)(i:Nat):Keyed:=xs[i]?.getD (.none,.none)
def Up(B:Keyed->Keyed->ϑ)(xs:ϔ Keyed)(k:Nat):Prop:=∀i j,i<=j->j<k->B (gt xs j) (gt xs i)=false
def Dn(B:Keyed->Keyed->ϑ)(xs:ϔ Keyed)(k:Nat):Prop:=∀i j,i<=j->j<k->B (gt xs i) (gt xs j)=false
def Eb(B:Keyed->Keyed->ϑ)(xs:ϔ Keyed)(l k:Nat):Prop:=∀i j,l<=i->i<k->l<=j->j<k->B (gt xs i) (gt xs j)=false
structure Bs(kd:SortKind)(a0:ϔ Keyed)(st:SortSt):Prop where
 pm:(arrOf st).Perm a0
 kn:kindOf st=kd
 fl:failedOf st=none
 pe:pendingOf st=([].toArray)
section
variable{kd:SortKind}{st:SortSt}{k l m:Nat}
def Bs.sz(b:Bs kd a0 st):(arrOf st).size=a0.size:=b.pm.size_eq
def Bs.put(b:Bs kd a0 st)(a:xs.Perm<|arrOf st):Bs kd a0 (setArr st xs):=#[a.trans b.pm,b.kn,b.fl,b.pe]
theorem Gy{a d:Nat}(c:a<xs.size)(b:d<=a):gt (bubble xs a d) k=if k=a-d then gt xs a else if a-d<k/\k<=a then gt xs (k-1)else gt xs k:=by
 unfold gt;rw[getElem?_bubble c d b k];split;.rfl
 .split<;>rfl
theorem jJ(a:m<=xs.size):gt (mirror xs l m<|(m-l)/2) k=if l<=k/\k<m then gt xs (l+m-1-k)else gt xs k:=by unfold gt;rw[getElem?_mirror_all a k];split<;>rfl
theorem Up.one(o:Wk B):Up B xs 1:=λi j a b=>by
 have:i=j:=();rw[this];show o.rf _
theorem Up.next(o:Wk B)(u:Up B xs k)(f:1<=k)(e:B (gt xs k) (gt xs<|k-1)=false):Up B xs (k+1):=λi j a d=>by
 by_cases c:j<k;.show u i j a c
 .obtain rfl:j=k:=();by_cases b:i=j
  .rw [b];show o.rf _
  .show o.tr (u i (j-1) () ()) e
theorem Dn.next(o:Wk B)(u:Dn B xs k)(f:1<=k)(e:B (gt xs<|k-1) (gt xs k)=false):Dn B xs (k+1):=λi j a d=>by
 by_cases c:j<k;.show u i j a c
 .obtain rfl:j=k:=();by_cases b:i=j;.rw [b];show o.rf _
  .show o.tr e<|u i (j-1) () ()
theorem Eb.one(o:Wk B):Eb B xs (k-1) k:=λi j a b c d=>by
 have:i=j:=();rw[this];show o.rf _
theorem Eb.next(o:Wk B)(u:Eb B xs l k)(m:l<k)(e:B (gt xs k) (gt xs<|k-1)=false)(f:B (gt xs<|k-1) (gt xs k)=false):Eb B xs l (k+1):=λi j b g c h=>by
 by_cases d:i<k
 .by_cases a:j<k;.show u i j b d c a
  .obtain rfl:j=k:=()
   show o.tr f<|u i (j-1) b d () ()
 .obtain rfl:i=k:=();by_cases a:j<i;.show o.tr (u (i-1) j () () c a) e
  .obtain rfl:j=i:=();show o.rf _
theorem Dn.mir(u:Dn B xs m)(q:Eb B xs l m)(b:m<=xs.size):Dn B (mirror xs l m<|(m-l)/2) m:=λi j d e=>by
 rw[jJ b,jJ b];by_cases a:l<=i/\i<m;.rw [β a,β ()];show q _ _ () () () ()
 .rw [γ a];by_cases c:l<=j/\j<m;.rw [β c];show u _ _ () ()
  .rw [γ c];show u i j d e
theorem Dn.up(u:Dn B xs m)(a:m<=xs.size):Up B (mirror xs 0 m<|(m-0)/2) m:=λi j b c=>by rw[jJ a,jJ a,β (),β ()];show u _ _ () ()
end
def Pk(M:Model)(A:ϖ)(E:϶)(s:ώ)(kd:SortKind)(a0:ϔ Keyed)(B:Keyed->Keyed->ϑ):Prop:=∀(st:SortSt)(i j:Nat)(Q:ύ ϑ->SortSt->Prop),Bs kd a0 st->i≠j->i<a0.size->j<a0.size->Q (!(B (gt (arrOf st) i)<|gt (arrOf st) j)) st->wpS M A E s (ltAt' i j) Q st
section
variable{kd:SortKind}{st:SortSt}{n k:Nat}
theorem Bt(o:Wk B)(i:Pk (model prog w) A E s kd a0 B){Q:AscSt->SortSt->Prop}(p:n<=a0.size)(l:1<=k)(a:k<=n)(b:Bs kd a0 st)(u:Up B (arrOf st) k)(h:∀m,k<=m->m<=n->Up B (arrOf st) m->(m=n\/B (gt (arrOf st) m) (gt (arrOf st)<|m-1)=true)->Q (none,m) st):wpS (model prog w) A E s (ascLoop k n) Q st:=by
 unfold ascLoop;show χ (I:=λm c t=>c=(none,m)/\t=st/\Up B (arrOf st) m) (λm c t g j f=>?_) (λc t f=>?_) #[Z,Z,u];.obtain ⟨rfl,rfl,d⟩:=f;show ą<|i _ _ _ _ b (show m≠m-1 by rfl') (show m<_ by rfl') (show m-1<_ by rfl') ?_;dsimp only;cases e:B (gt (arrOf t) m) (gt (arrOf t)<|m-1)with
  |true=>rw[β Z];show Ī (h m g () d<|.inr e)|false=>rw[γ Ï];show Ī #[Z,Z,d.next o () e]
 .obtain ⟨rfl,rfl,d⟩:=f;rw[show max k n=n from Nat.max_eq_right a]at d⊢;show h n a (Ã _) d<|.inl Z
theorem wC(o:Wk B)(e:Pk (model prog w) A E s kd a0 B)(g:n<=a0.size)(f:1<=k)(a:k<=n)(b:Bs kd a0 st)(u:Dn B (arrOf st) k)(h:∀m t,Bs kd a0 t->1<=m->m<=n->Up B (arrOf t) m->Q (!m) t):wpS (model prog w) A E s (tail3 k n) Q st:=by
 unfold tail3;show ą<|wpS_reverse ?_;have c:=b.put<|mirror_perm (arrOf st) 0 k<|(k-0)/2;show ą<|Bt o e g f a c (u.up<|by rw[b.sz];rfl') λm j d i _=>Ī<|h m _ c () d i
theorem GC(o:Wk B)(y:Pk (model prog w) A E s kd a0 B){Q:DescSt->SortSt->Prop}(H:n<=a0.size)(F:1<=k)(g:k<=n)(b:Bs kd a0 st)(u:Dn B (arrOf st) k)(h:∀m e t,Bs kd a0 t->k<=m->m<=n->Dn B (arrOf t) m->e+1<=m->Eb B (arrOf t) (m-(e+1)) m->Q (none,m,e) t):wpS (model prog w) A E s (descLoop k n) Q st:=by
 unfold descLoop;show χ (I:=λm c t=>∃e,c=(none,m,e)/\Bs kd a0 t/\Dn B (arrOf t) m/\e+1<=m/\Eb B (arrOf t) (m-(e+1)) m) (λm c t C G r=>?_) (λc t r=>?_) #[0,Z,b,u,F,Eb.one o]
 .obtain ⟨e,rfl,a,f,l,q⟩:=r;have d:m<=(arrOf t).size:=by rw[a.sz];rfl'
  show ą<|y _ _ _ _ a (show m≠m-1 by rfl') (show m<_ by rfl') (show m-1<_ by rfl') ?_;dsimp only;cases e1:B (gt (arrOf t) m) (gt (arrOf t)<|m-1)with
  |true=>
   rw[β Z];have p:Dn B (arrOf t) (m+1):=f.next o ()<|o.an e1;by_cases x:e>0
   .rw [β x];show ą<|wpS_reverse<|Ī #[0,Z,a.put<|mirror_perm _ _ _ _,λi j v z=>?_,(),Eb.one o];by_cases D:j<m;.show (f.mir q d) i j v D
    .obtain rfl:j=m:=();change B (gt (mirror (arrOf t) _ _ _) i) (gt (mirror (arrOf t) _ _ _) j)=false;rw[jJ d,jJ d,γ<|show¬(_/\j<j)by rfl'];split;.show p _ _ () ()
     .show p _ _ v z
   .rw [γ x];show Ī #[0,Z,a,p,(),Eb.one o]|false=>
   rw[γ Ï];show ą<|y _ _ _ _ a (show m-1≠m by rfl') (show m-1<_ by rfl') (show m<_ by rfl') ?_;dsimp only;cases e2:B (gt (arrOf t)<|m-1) (gt (arrOf t) m)with
   |true=>rw[β Z];show Ī (h m e t a C () f l q)|false=>rw[γ Ï];show Ī #[e+1,Z,a,f.next o () e2,(),?_];rw[show m+1-(e+1+1)=m-(e+1)by rfl'];show q.next o () e1 e2
 .obtain ⟨e,rfl,a,f,l,q⟩:=r;rw[show max k n=n from Nat.max_eq_right g]at f l q⊢;show h n e t a g (Ã _) f l q
theorem sE(o:Wk B)(c:Pk (model prog w) A E s kd a0 B)(f:n<=a0.size)(d:k+1<=n)(b:Bs kd a0 st)(u:Dn B (arrOf st)<|k+1)(h:∀m t,Bs kd a0 t->1<=m->m<=n->Up B (arrOf t) m->Q (!m) t):wpS (model prog w) A E s (descPart k n) Q st:=by
 unfold descPart;show ą<|wpS_lift<|į #[Z,ą<|GC o c f () d b u λm e t a p j l r q=>?_];dsimp only;have g:m<=(arrOf t).size:=by rw[a.sz];rfl'
 by_cases i:e>0;.rw [β i];show ą<|wpS_reverse<|wC o c f () j (a.put<|mirror_perm _ _ _ _) (l.mir q g) h
 .rw [γ i];show wC o c f () j a l h
theorem DK(o:Wk B)(d:Pk (model prog w) A E s kd a0 B)(v:n<=a0.size)(p:1<=n)(b:Bs kd a0 st)(h:∀m t,Bs kd a0 t->1<=m->m<=n->Up B (arrOf t) m->Q (!m) t):wpS (model prog w) A E s (countRun' 0 n) Q st:=by
 rw[countRun0_eq];show ą<|Bt o d v (Ã 1) p b (Up.one o) λm l C f x=>?_;dsimp only;by_cases u:m=n;.rw [β<|by simpa using u];show Ī<|h m st b l C f
 .rw [γ<|by simpa using u];have a:=x.resolve_left u;have c:m<=(arrOf st).size:=by rw[b.sz];rfl'
  by_cases g:m>1;.rw [β g];show ą<|d _ _ _ _ b () (show 0<_ by rfl') (show m-1<_ by rfl') ?_;dsimp only;cases e:B (gt (arrOf st) 0) (gt (arrOf st)<|m-1)with
   |true=>rw[β Z];show Ī (h m st b l C f)|false=>
    rw[γ Ï];have q:Eb B (arrOf st) 0 m:=λi j _ D _ r=>o.tr (f j (m-1) () ())<|o.tr e<|f 0 i () D
    have y:Dn B (arrOf st) (m+1):=Dn.next o (λi j _ r=>q i j () () () r) l<|o.an a;show ą<|wpS_reverse<|sE o d v () (b.put<|mirror_perm _ _ _ _) (λi j z k=>?_) h;change B (gt (mirror (arrOf st) _ _ _) i) (gt (mirror (arrOf st) _ _ _) j)=false;rw[jJ c,jJ c];by_cases r:j<m;.rw [β (),β ()];show q _ _ () () () ()
    .rw [γ<|show¬(0<=j/\j<m)by rfl'];split;.show y _ _ () k
     .show y _ _ z k
  .rw [γ g];obtain rfl:m=1:=();show sE o d v () b (Dn.next o (λi j z k=>by rw[show i=j by rfl'];show o.rf _) (Ã 1)<|o.an a) h
theorem Pn(o:Wk B)(Y:Pk (model prog w) A E s kd a0 B){Q:ϑ->SortSt->Prop}(R:n<=a0.size)(H:k<=n)(b:Bs kd a0 st)(u:Up B (arrOf st) k)(h:∀t,Bs kd a0 t->Up B (arrOf t) n->Q true t):wpS (model prog w) A E s (binarySort' 0 n k) Q st:=by
 rw[binarySort'_eq];simp-iota only[ī];show ą (wpS_mono (χ (I:=λm c t=>c=(none,Unit.unit)/\Bs kd a0 t/\Up B (arrOf t) (min m n)) (Q:=λc t=>c=(none,Unit.unit)/\Bs kd a0 t/\Up B (arrOf t) n) (λm c t F v y=>?_) (λc t y=>?_) #[Z,b,λi j D L=>?_]) λc t G=>?_)
 .obtain ⟨rfl,q,f⟩:=y;rw[Ĵ (â v)]at f;have C:m<a0.size:=();show ą (wpS_mono (χ (I:=λx c p=>p=t/\∃l r,c=(none,l,r)/\l<=r/\r<=m/\r+x<=m+l/\(∀i,i<l->B (gt (arrOf t) m) (gt (arrOf t) i)=false)/\∀i,r<=i->i<m->B (gt (arrOf t) i) (gt (arrOf t) m)=false)
   (Q:=λc p=>p=t/\∃l r,c=(none,l,r)/\l<=m/\(∀i,i<l->B (gt (arrOf t) m) (gt (arrOf t) i)=false)/\∀i,l<=i->i<m->B (gt (arrOf t) i) (gt (arrOf t) m)=false)
   (λx c p D L y=>?_) (λc p y=>?_) #[Z,0,m,Z,(),(),(),λi z=>(),λi W X=>()]) λc p G=>?_)
  .obtain ⟨rfl,l,r,rfl,N,d,O,lo,a⟩:=y;dsimp only;by_cases P:l>=r;.rw [β P];obtain rfl:l=r:=();show Ī #[Z,l,l,Z,d,lo,a]
   .rw [γ P];have F:l<=(l+r)/2:=by clear O lo a f d F v D L C R H;rfl'
    have v:(l+r)/2<r:=by clear O lo a f d F v D L C R H;rfl'
    generalize(l+r)/2=c at F v⊢;have g:=Ò v d;show ą (Y _ _ _ _ q () C (show c<_ from Λ g C) ?_);dsimp only;cases e:B (gt (arrOf p) m) (gt (arrOf p) c)with
    |true=>
     simp-iota only[Ń];show Ī #[Z,l,c,Z,F,â g,by clear F g C;rfl',lo,λi W X=>o.tr (o.an e) (f _ _ W X)]|false=>simp-iota only[Û,ċ];show Ī #[Z,c+1,r,Z,v,d,by clear g C;rfl',λi z=>o.tr (f i c (Nat.le_of_lt_succ z) g) e,a]
  .obtain ⟨rfl,l,r,rfl,N,d,O,lo,a⟩:=y;obtain rfl:l=r:=();show#[Z,l,l,Z,d,lo,a]
  .obtain ⟨rfl,l,r,rfl,M,lo,a⟩:=G;change wpS _ _ _ _ (do moveDown' m l;pure (ForInStep.yield (none,Unit.unit))) _ _;rw[moveDown'_eq];show ą (wpS_modify (Ī #[Z,q.put (bubble_perm _ _ _),?_]));rw[show min (m+1) n=m+1 by rfl'];have J:m<(arrOf p).size:=by rw[q.sz];show C
   intro i j D L;change B (gt (bubble (arrOf p) m (m-l)) j) (gt (bubble (arrOf p) m (m-l)) i)=false;rw[Gy J (),Gy J (),Nat.sub_sub_self M];by_cases S:i=l
   .rw [β S];by_cases K:j=l;.rw [β K];show o.rf _
    .rw [γ K,β ()];show a (j-1) () ()
   .rw [γ S];by_cases T:l<i/\i<=m;.rw [β T,γ (),β ()];show f _ _ () ()
    .rw [γ T];by_cases K:j=l;.rw [β K];show lo i ()
     .rw [γ K];by_cases U:l<j/\j<=m;.rw [β U];show f _ _ () ()
      .rw [γ U];show f _ _ D ()
 .obtain ⟨G,q,f⟩:=y;show#[G,q,?_];rwa[show min (max (max k 1) n) n=n by rfl']at f
 .by_cases zz:k=0;.rw [show i=j by rfl'];show o.rf _
  .show u i j D ()
 .obtain ⟨rfl,q,f⟩:=G;show Ī (h t q f)
def Dd(B:Keyed->Keyed->ϑ)(a0:ϔ Keyed)(st:SortSt):Prop:=(arrOf st).Perm a0/\failedOf st=none/\pendingOf st=([(0,a0.size,0)].toArray)/\Up B (arrOf st) a0.size
theorem Bs.dd(b:Bs kd a0 st)(u:Up B (arrOf st) a0.size):Dd B a0 (setPending st<|(pendingOf st).push (0,a0.size,0)):=#[b.pm,b.fl,by change(pendingOf st).push (0,a0.size,0)=_;rw[b.pe];rfl,u]
theorem Pq(o:Wk B)(q:Pk (model prog w) A E s kd a0 B){Q:Unit->SortSt->Prop}(b:Bs kd a0 st)(D:2<=a0.size)(l:a0.size<64)(h:∀t,(arrOf t).Perm a0->failedOf t=none->Up B (arrOf t) a0.size->Q Unit.unit t):wpS (model prog w) A E s sortRuns' Q st:=by
 rw[sortRuns'_eq];show ą<|wpS_get ?_;have n:∀f,minRun' (f+1) a0.size 0=a0.size:=λf=>by rw[minRun'_succ,β l];rfl
 have i:minRun' a0.size a0.size 0=a0.size:=by have:=n<|a0.size-1;rwa[show a0.size-1+1=a0.size by rfl']at this
 dsimp only;simp-iota only[b.sz,i];show ą<|wpS_mono (χ (I:=λx c t=>(x=0/\c=(none,0)/\Bs kd a0 t)\/(1<=x/\c=(none,a0.size)/\Dd B a0 t)) (Q:=λc t=>c=(none,a0.size)/\Dd B a0 t) (λx c t _ _ e=>?_) (λc t e=>?_)<|.inl #[Z,Z,b]) λc t d=>?_
 .rcases e with⟨rfl,rfl,bt⟩|⟨hx,rfl,a⟩
  .dsimp only;rw[γ ()];simp-iota only[Ν,Nat.min_self,ī];show ą<|DK o q (Ã _) () bt λm v k F u r=>?_;dsimp only;by_cases g:m<a0.size;.rw [β g];show ą<|wpS_lift<|į #[Z,ą<|Pn o q (Ã _) u k r λy p C=>?_];simp-iota only[ď,Û,ċ];show ą<|wpS_get ?_;rw[show(pendingOf y).back?=none by rw[p.pe];rfl];show ą<|wpS_modify<|Ī<|.inr #[(),Z,p.dd C]
   .rw [γ g];obtain rfl:m=a0.size:=();show ą<|wpS_get ?_;rw[show(pendingOf v).back?=none by rw[k.pe];rfl];show ą<|wpS_modify<|Ī<|.inr #[(),Z,k.dd r]
  .dsimp only;rw[β<|Ã _];show Ī #[Z,a]
 .rcases e with⟨hx,_⟩|⟨_,d,a⟩;.rfl'
  .show #[d,a]
 .obtain ⟨rfl,a⟩:=d;dsimp only;show ą<|wpS_mono (χ (I:=λ_ c j=>j=t/\c=(none,Unit.unit)) (Q:=λc j=>j=t/\c=(none,Unit.unit)) (λx c j _ _ e=>?_) (λ_ _ z=>z) #[Z,Z]) λc j d=>?_;.obtain ⟨rfl,rfl⟩:=e;show ą<|wpS_get ?_;rw[β<|by rw[a.2.2.1];show Ã 1];show Ī #[Z,Z]
  .obtain ⟨rfl,rfl⟩:=d;show Ī<|h _ a.1 a.2.1 a.2.2.2
noncomputable def mid(h:ϒ)(a:ό)(vs:ϊ ϋ):ϒ:=((h.update a<|Obj.mapSeq λ_=>([].toArray)).push<|seqObj "tuple" vs.toArray 0).push<|seqObj "list" ([].toArray) 0
theorem GD(o:Wk B){a:ό}{b:ϊ ϋ}{n:Nat}{P:Fin->ώ->Prop}(g:s.heap.get? a=!(seqObj "list" b.toArray n))(u:↑b<64)(x:2<=↑b->∅ (keyKind' b.toArray) (λk s'=>s'={s with heap:=mid s.heap a b}/\k=kd) E {s with heap:=mid s.heap a b})(v:Pk (model prog w) A E {s with heap:=mid s.heap a b} kd (pairsOf b) B)(h:∀d:ϔ Keyed,d.Perm (pairsOf b)->Up B d ↑b->P (.done<|.ret .none) {s with heap:=sortedHeap s.heap a b (d.map (·.2))}):∅ (Builtin.«list.sort» #[[↥a],[]]) P E s:=by
 rw[list_sort_plain];have F:a<⇑s:=Ë g;let#[p,r]:∃p,(s.heap.update a<|Obj.mapSeq λ_=>([].toArray)).get? a=!(seqObj "list" ([].toArray) p):=#[_,get?_update_seq g<|λ_=>([].toArray)];have f:(mid s.heap a b).get? a=!(seqObj "list" ([].toArray) p):=by unfold mid;show Jn _<|Jn _ r
 have c:(pairsOf b).size=↑b:=pairsOf_size b;show Qr<|listItems_at g Z<|Qr<|listUpdate_at g Z<|Qr<|seqEpoch_at r Z<|Qr<|wpAny_newTuple<|Qr<|wpAny_newList<|õ ?_;change ∅ _ P E {s with heap:=mid s.heap a b};dsimp only;have y:b.toArray.size=↑b:=by simp
 rw[y];by_cases e:↑b<2
 .rw [β e,β e];show Qr<|Wp ?_;rw[StateT.run_pure];show Qr<|Wp<|Qr<|seqEpoch_at f Z<|Qr<|listUpdate_at f Z ?_ (hsz2:= ?_);.simp-iota only[Ō,Û,ċ];show Wp<|h (pairsOf b) (Array.Perm.refl _) λi j C D=>by rw[show i=j by rfl'];show o.rf _
  .rw [Array.size_map];change(pairsOf b).size<=_;rw[c,ü];rfl'
 .rw [γ e,γ e];show Qr<|ĉ (x ()) ?_ λ_ _ z=>z;rintro k s' ⟨rfl,rfl⟩;show Qr (ĉ (Pq o v (st:=SortSt.mk' k (b.toArray.zip b.toArray) ([].toArray) 7 none) (Q:=λ_ t=>(arrOf t).Perm (pairsOf b)/\failedOf t=none/\Up B (arrOf t) (pairsOf b).size)
   #[Array.Perm.refl _,Z,Z,Z] () () λt l q m=>#[l,q,m]) ?_ λ_ _ z=>z);rintro⟨⟨⟩,t⟩ s' ⟨rfl,l,q,m⟩;show Qr<|seqEpoch_at f Z<|Qr<|listUpdate_at f Z ?_ (hsz2:= ?_);.dsimp only;rw[q];simp-iota only[Ō,Û,ċ];rw[c]at m;show Wp<|h _ l m
  .rw [Array.size_map];change(arrOf t).size<=_;rw[l.size_eq,c,ü];rfl'
end
def uq(b:ϑ)(x y:ϋ):keyLt' (tuples' b) x y=(do
  let xs<-Builtin.List.listItems x;let ys<-Builtin.List.listItems y
  for ((p,q),i) in (xs.toList.zip ys.toList).zipIdx do if not (<-eqBool p q)then return <-oneLt' (b&&i==0) p q
  return xs.size<ys.size):=Z
def GF(v:ϋ):firstOfTuple' v=(do
  if(<-typeOf v)!= .type "tuple" then return none
  return (<-Builtin.List.listItems v)[0]?):=Z
def Fs(h:ϒ)(f:ϋ->ϐ)(v:ϋ):Prop:=∃b ob its tk n rest,v=↥b/\h.get? b=!ob/\ob.cls=.type "tuple"/\ob.data=.seq its n/\its.toList=.str (f v) tk::rest
section
theorem wD{b a:Type}{g:b->Sem a}{r:b->a}:∀{vs:ϊ b}{Q:ϊ a->ώ->Prop},(∀v∈vs,∀R:a->ώ->Prop,R (r v) s->∅ (g v) R E s)->Q (vs.map r) s->∅ (vs.mapM g) Q E s
 |[],Q,_,q=>by rw[List.mapM_nil];show Wp q|v::vs,Q,h,q=>by rw[List.mapM_cons];show Qr<|h v Ì _<|Qr<|wD (λu c=>h u<|Ê _ c)<|Wp q
def wF(B:c≠[])(C:∀v∈c,Fs s.heap f v):∅ (keyKind' c.toArray) (λk s'=>s'=s/\k=tuples' true) E s:=by
 rw[keyKind'_eq,List.mapM_toArray];have l:∀v∈c,∃a,∀R:ύ ϋ->ώ->Prop,R (!(.str (f v) a)) s->∅ (firstOfTuple' v) R E s:=by
  intro v d;let#[b,ob,i,a,n,rest,rfl,j,t,y,z]:=C v d;show#[a,λR r=>?_];rw[GF];show Qr<|wpAny_typeOf_ref j ?_;rw[t];show Qr<|listItems_at j y<|Wp ?_;have:i[0]?=!(.str (f<|.ref b) a):=by rw[<-ö,z];rfl
  rw[this];show r
 let#[a,h]:∃a:ϋ->Tok,∀v∈c,∀R:ύ ϋ->ώ->Prop,R (!(.str (f v)<|a v)) s->∅ (firstOfTuple' v) R E s:=#[λv=>if d:v∈c then(l v d).choose else 0,λv d R r=>(l v d).choose_spec R<|by simpa only[dif_pos d]using r];have D:∀e:ϊ ϋ,StrsAre (e.map λv=>.str (f v)<|a v) (e.map f):=by intro e;induction e with
  |nil=>show .nil|cons u e ih=>show .cons _ _ ih
 rw[map_eq_pure_bind,bind_assoc];show Qr<|wD (r:=λv=>!(.str (f v)<|a v)) h ?_;rw[pure_bind];have m:((c.map λv=>!(Value.str (f v)<|a v)).toArray.all (·.isSome))=true:=by
  rw[List.all_toArray,List.all_map,List.all_eq_true];intro _ _;rfl
 have o:(c.map λv=>!(Value.str (f v)<|a v)).toArray.filterMap id=(c.map λv=>Value.str (f v)<|a v).toArray:=by rw[List.filterMap_toArray,List.filterMap_map];congr 1;change c.filterMap (λv=>!(Value.str (f v)<|a v))=_;rw[List.filterMap_eq_map']
 rw[β m,o,oneTypeOnly'_eq,List.mapM_toArray,mapM_typeOf_strs<|D c];simp only[map_pure,pure_bind];show Qr<|į ?_;let#[v,g,rfl]:=List.exists_cons_of_ne_nil B;have p:((List.map (λ_=>Value.type "str")<|(v::g).map λv=>Value.str (f v)<|a v).toArray.all λx=>x==Value.type "str")=true:=by rw[List.all_toArray,List.all_map,List.all_eq_true];intro _ _;rfl
 have q:(List.map (λ_=>Value.type "str")<|(v::g).map λv=>Value.str (f v)<|a v).toArray[0]?=!(Value.type "str"):=by simp
 rw[q];simp only[p,Ń,pure_bind];show Wp #[Z,Z]
noncomputable def Bf(f:ϋ->ϐ)(p q:Keyed):ϑ:=strKind.blt (f p.1).cps.toList (f q.1).cps.toList
def a0l:Wk (Bf f):=#[λp=>strKind.irrefl _,λ{p q r} a b=>KeyOrd.kle_trans (O:=strKind.toKeyOrd) a b,λ{p q} h=>KeyOrd.klt_asymm (O:=strKind.toKeyOrd) h]
def yR(m:∀v∈g,Fs s.heap f v)(u:(g.map f).Nodup):Pk (model prog w) A E s (tuples' true) (pairsOf g) (Bf f):=by
 intro a i j Q b l z B q;have c:i<(arrOf a).size:=by rw[b.sz];show z
 have d:j<(arrOf a).size:=by rw[b.sz];show B
 have h:∀k (C:k<(arrOf a).size),((arrOf a)[k]).1∈g:=by intro k C;have n:(arrOf a)[k]∈(pairsOf g).toList:=(Η.mp b.pm).mem_iff.mp (by simp);rw[pairsOf_toList]at n;show(mem_zip_self n).2
 have H:f ((arrOf a)[i]).1≠f ((arrOf a)[j]).1:=by
  have o:((arrOf a).toList.map λp=>f p.1).Perm (g.map f):=by
   have:=(Η.mp b.pm).map (λp:Keyed=>f p.1);rw[pairsOf_toList]at this;have e:(g.zip g).map (λp:Keyed=>f p.1)=g.map f:=by rw[show(λp:Keyed=>f p.1)=f∘Prod.fst from Z,<-Ä,List.map_fst_zip<|Ã _]
   rwa[e]at this
  have G:=(o.nodup_iff).mpr u;intro e;show l ((Ļ (h₀:=by simpa using c) (h₁:=by simpa using d) G).mp (by simpa using e))
 have r:gt (arrOf a) i=(arrOf a)[i]:=by unfold gt;rw[getElem?_pos _ i c];rfl
 have t:gt (arrOf a) j=(arrOf a)[j]:=by unfold gt;rw[getElem?_pos _ j d];rfl
 rw[r,t]at q;rw[ltAt'_eq];show ą<|wpS_get ?_;change wpS _ _ _ _ (do let x<-elem' (arrOf a) i;let y<-elem' (arrOf a) j;lt' x y) Q a;rw[elem'_eq,elem'_eq,getElem?_pos _ i c,getElem?_pos _ j d];show ą<|Ī<|ą<|Ī ?_;rw[lt'_eq];show ą<|wpS_get ?_;rw[b.kn];obtain⟨O,T,D,Y,R,W,v1,K,y1,M,I⟩:=m _<|h i c;obtain⟨P,U,F,zz,S,X,v2,L,y2,N,J⟩:=m _<|h j d;show ą<|wpS_lift<|wpAny_attempt ?_;rw[uq];generalize o:(arrOf a)[i]=p at*;generalize hq:(arrOf a)[j]=p' at*;rw[v1,v2];show Qr<|listItems_at K M<|Qr<|listItems_at L N ?_;rw[I,J,δ,List.zipIdx_cons,Ą];show Qr<|Qr<|Qr<|eqBool_str ?_;rw[β (by rw[ŏ.mpr H];rfl)];show Qr<|strKind_oneLt prog w A _ s _ _ (f p.1).cps.toList (f p'.1).cps.toList Z Z<|Wp<|Wp<|Wp #[Z,Ī ?_];show q
end
end Sx
namespace L2
open PySem PySem.Spec PyProof.Rows
variable{v:ϋ}{w:ϕ}{A:ϖ}{prog:ϓ}{E Q:϶}{C R:ϊ ϋ->ώ->Prop}{zz:ϊ ϋ->ώ->ϔ ϋ->Prop}
theorem Pr{c d:Type}{g:c->d}{l a:ϊ d}(h:l.Perm a):∀{zs:ϊ c},l=zs.map g->∃b:ϊ c,b.Perm zs/\a=b.map g:=by induction h with
 |nil=>intro zs e;show#[zs,.refl _,e]|cons x _ ih=>
  intro zs e;cases zs with|nil=>cases e|cons z zs=>
   rw[Ç]at e;injection e with e1 e2;let#[b,p,q]:=ih e2;show#[z::b,p.cons z,by rw[Ç,q,e1]]
 |swap x y l=>
  intro zs e;match zs,e with
  |z1::z2::r,e=>
   rw[Ç,Ç]at e;injection e with e1 e2;injection e2 with e2 e3;show#[z2::z1::r,.swap _ _ _,by rw[Ç,Ç,e1,e2,e3]]
 |trans _ _ ih1 ih2=>intro zs e;let#[b,p,q]:=ih1 e;let#[j,f,i]:=ih2 q;show#[j,f.trans p,i]
noncomputable def sG(h:ϒ):ϋ->ϐ
 |.ref b=>match h.get? b with
  |some ob=>match ob.data with
   |.seq its _=>match(its[0]? :ύ ϋ)with
    |some (Value.str x _)=>x|_=>#[([].toArray)]
   |_=>#[([].toArray)]
  |none=>#[([].toArray)]
 |_=>#[([].toArray)]
theorem pR{a:Type}{g:a->ό}:∀{zs:ϊ a}{us:ϊ ϋ},Vals (zs.map λz=>V.ref<|g z) us->us=zs.map λz=>Value.ref<|g z
 |[],_,r=>by cases r;rfl|z::zs,_,r=>by cases r with|cons r rr=>rw[pR rr,Ç];congr 1
theorem mW{a:Type}{g:a->ό}:∀zs:ϊ a,Vals (zs.map λz=>V.ref<|g z)<|zs.map λz=>Value.ref<|g z
 |[]=>.nil|_::zs=>.cons Z<|mW zs
abbrev pU(a b:ϐ):Prop:=a.cps.toList<b.cps.toList
def ur:ϊ V->Hp->VK->Prop:=λxs H Q=>∃(a:ό)(kvs:ϊ<|ϐ×V),xs=[↥a]/\Rd H a (.dK<|kvs.map λp=>(Sum.inr p.1,p.2))/\↑kvs<64/\∀r (ns:ϊ ϐ),ns.Perm (kvs.map (·.1))->ns.Pairwise pU->H r=none->Q ↥r (upd H r<|.lst<|ns.map V.str)
def ut:ϊ V->Hp->VK->Prop:=λxs H Q=>∃(a:ό)(kvs:ϊ<|Int×V),xs=[↥a]/\H a=!(.dK<|kvs.map λp=>(Sum.inl p.1,p.2))/\↑kvs<64/\∀r (ns:ϊ Int),ns.Perm (kvs.map (·.1))->ns.Pairwise (·<·)->H r=none->Q ↥r (upd H r<|.lst<|ns.map V.int)
abbrev uv(td:TE):TE:=λσ H Q=>td σ H λx H1=>∃(a:ό)(kvs:ϊ<|ϐ×V),x=↥a/\H1 a=!(.dK<|kvs.map λp=>(Sum.inr p.1,p.2))/\↑kvs<64/\∀r (zs:ϊ<|ό×ϐ×V) (H2:Hp),(zs.map (·.2)).Perm kvs->(zs.map (·.2.1)).Pairwise pU->H1 r=none->Same H1 H2->H2 r=!(.lst<|zs.map λz=>V.ref z.1)->(∀z∈zs,H2 z.1=!(.tup [.str z.2.1,z.2.2]))->Q ↥r H2
def Bu(K:Ϗ):ϊ V->Hp->VK->Prop:=λxs H Q=>∃(a:ό)(ns:ϊ Int),xs=[↥a]/\SqL K H a (ns.map V.int)/\ns≠[]/\∀m,m∈ns->(∀n∈ns,n<=m)->Q (.int m) H
theorem lD{s:ώ}(i:∀(b:϶)(R:ϊ ϋ->ώ->Prop),(∀vs s1,C vs s1->R vs s1)->wpAny (model prog w) A.in1 (collect v) R b s)(j:∀vs s1,C vs s1->↑vs<64/\(∀(c:ϖ)(b:϶)(P:PySem.Fin->ώ->Prop),(∀a,zz vs s1 a->P (.done<|.ret .none) {s1 with heap:=sortedHeap (s1.heap.push<|seqObj "list" vs.toArray 0) ⇑s1 vs a})->wpAny (model prog w) c (Builtin.«list.sort» #[[↥⇑s1],[]]) P b {s1 with heap:=s1.heap.push<|seqObj "list" vs.toArray 0})/\∀a,zz vs s1 a->Q ↥⇑s1 {s1 with heap:=sortedHeap (s1.heap.push<|seqObj "list" vs.toArray 0) ⇑s1 vs a}):∅ (call (.builtin "sorted") [v]) Q E s:=by show Calls.call_function_entry kind_sorted plain_sorted entry_sorted (args_sorted1 _) ?_;unfold Builtin.«sorted»;show Qr (m:=checkCount "sorted" 1 1 _) (Wp (Qr (i _ _ λvs s1 e=>?_)));let#[d,f,h]:=j vs s1 e;show Qr (wpAny_newList ?_ (by rw[ü];rfl'));have g:(s1.heap.push<|seqObj "list" vs.toArray 0).get? ⇑s1=!(seqObj "list" vs.toArray 0):=È _ Z;change wpAny _ _ _ _ _ {s1 with heap:=s1.heap.push<|seqObj "list" vs.toArray 0};show Qr (õ (î slot_list_sort #[_,g,Z] entry_list_sort (f _ _ _ λa z=>#[_,Z,?_])<|args_list_sort _));show Wp #[_,Z,h a z]
theorem uw{K:Type}[DecidableEq K]{n:PySem.KeyKind prog w K}{g:ϊ<|K×ϋ}{u:Nat}(H:A.handled=none) (lo:(d==sysModules)=false) (D:s.heap.DictAt n d g u) (J:↑g<=sizeLine)(h:∀(h':ϒ)(tk:Nat)(vs:ϊ ϋ),(∀b o,s.heap.get? b=!o->h'.get? b=!o)->⇑s<=h'.objs.size->↑vs=↑g->(∀(j:Nat) v,vs[j]?=!v->∃k x,g[j]?=!(k,x)/\n.is k v=true)->R vs {s with heap:=h',toks:=tk}):∅ (collect<|.ref d) R E s:=by
 have C:d<⇑s:=D.lt_size;have KS:=PySem.W.kdl_dict (prog:=prog) (w:=w) (knd:=n) (d:=d) (kvs:=g) (ep:=u) lo;unfold collect;show Qr<|wpAny_runValue<|ć entry_proto_collect' ?_;rw[ý PySem.F.plain_proto_collect _];change wpAny _ A.in1 (newList []>>=λl=>again<|.builtin "list.__iadd__" #[[l,↥d],[]]) _ _ s;show Qr<|ó ?_;show Wp #[plainId_quiet Ū _,ć entry_list_iadd' ?_];rw[ý Ū _];have r:(s.heap.push {cls:=.type "list",data:=.seq ([]:ϊ ϋ).toArray}).get? ⇑s=!{cls:=.type "list",data:=.seq<|[].toArray}:=È _ Z;change wpAny _ A.in1 (Builtin.List.listExtendWith ↥⇑s ↥d<|.ref ⇑s) _ _ _;have z:=PySem.W.kdl_extend (A:=A) (s:={s with heap:=s.heap.push {cls:=.type "list",data:=.seq ([]:ϊ ϋ).toArray}}) KS (R:=λ(q:Result) (B:ώ)=>∃(h':ϒ)(tk:Nat)(a:ϔ ϋ)(p:Nat),q=.ok (.ret<|.ref ⇑s)/\B={s with heap:=h',toks:=tk}/\(∀b o,s.heap.get? b=!o->h'.get? b=!o)/\h'.get? ⇑s=!{cls:=.type "list",dict:=none,data:=.seq a p,slots:=([].toArray)}/\ItemsOf (λi v=>∃k x,g[i]?=!(k,x)/\n.is k v=true) a ↑g)
  H (D.push _) ⇑s (ė C) (ė C) ↥⇑s 0 r (λh' tk a p t m c=>#[h',tk,a,p,Z,Z,λb o e=>t b o (Þ<|Ë e)<|Jn _ e,m,c]) J;have fin:∀{h':ϒ}{tk:Nat}{a:ϔ ϋ}{p:Nat},(∀b o,s.heap.get? b=!o->h'.get? b=!o)->h'.get? ⇑s=!{cls:=.type "list",dict:=none,data:=.seq a p,slots:=([].toArray)}->ItemsOf (λi v=>∃k x,g[i]?=!(k,x)/\n.is k v=true) a ↑g->R a.toList {s with heap:=h',toks:=tk}:=by intro h' tk a p t m c;show h h' tk a.toList t (â<|Ë m) (by rw[á];show c.1) λj v I=>c.2 j v<|by rw[<-ö];show I
 show ĉ z (λf B x=>?_) λe B x=>?_;.cases f with
  |done f=>
   let#[h',tk,a,p,e,rfl,t,m,c]:=x;cases e;change wpAny _ A (load ⇑s>>=_) _ _ _;show Qr (wpAny_load m<|Wp<|fin t m c)|again c₁=>show#[x.1,š x.2 λq F y=>?_];let#[h',tk,a,p,rfl,rfl,t,m,c]:=y;change wpAny _ A (load ⇑s>>=_) _ _ _;show Qr<|wpAny_load m<|Wp<|fin t m c
 .obtain ⟨_,_,_,_,G,_⟩:=x;cases G
def GJ(h:ϒ)(b:ϊ ϋ)(a:ϔ ϋ):∃e,(sortedHeap (h.push<|seqObj "list" b.toArray 0) h.objs.size b a).get? h.objs.size=!(seqObj "list" a e):=sortedHeap_at (n:=0)<|È _ Z
theorem ux{h:ϒ}{e:ϊ ϋ}{c:ϔ ϋ}{b:ό}{o:Obj}(d:h.get? b=!o):(sortedHeap (h.push<|seqObj "list" e.toArray 0) h.objs.size e c).get? b=!o:=by have a:b<h.objs.size:=Ë d;rw[sortedHeap_old (Þ a)<|by rw[size_push'];show ģ a];show Jn _ d
theorem lR:∀(p:ϐ)(l:ϊ ϐ),risingS p l=true->(p::l).Nodup->(p::l).Pairwise pU
 |p,[],_,_=>List.pairwise_singleton _ _|p,x::r,h,n=>by
  have a:(not (ltCps x.cps.toList p.cps.toList)&&risingS x r)=true:=h;rw[Ă,Bool.not_eq_true']at a;have d:=lR x r a.2 (ï.mp n).2;have c:pU p x:=by
   have f:¬x.cps.toList<p.cps.toList:=by have:=a.1;rw[ltCps_eq]at this;show Ł this
   have g:p≠x:=λe=>(ï.mp n).1<|by rw[e];show Ì
   cases e:strKind.blt p.cps.toList x.cps.toList with|true=>show ô e|false=>have:=strKind.total _ _ e<|Ü f;show μ (by
     have b:p.cps=x.cps:=Array.toList_inj.mp this;cases h4:p;cases h5:x;rw[h4,h5]at b;simpa using b) g
  show List.pairwise_cons.mpr #[λy hy=>?_,d];rcases Å.mp hy with rfl|hy;.show c
  .show List.lt_trans c<|(List.pairwise_cons.mp d).1 y hy
theorem kO:∀{l:ϊ ϐ},sortedS l=true->l.Nodup->l.Pairwise pU
 |[],_,_=>.nil|x::r,h,n=>lR x r h n
theorem Yk{m:Type}{c:m->Key}{Y:ϊ ϋ->ϊ m->Prop}(nil:Y [] [])(cons:∀{v k r ks},gM (c k) v=true->Y r ks->Y (v::r) (k::ks)){a:ϊ<|m×V}(t:KV (a.map λp=>(c p.1,p.2)) e)(s:↑b=↑e)(h:∀(j:Nat) v,b[j]?=!v->∃k x,e[j]?=!(k,x)/\(bI prog w).is k v=true):Y b (a.map (·.1)):=by
 have i:e.map (·.1)=a.map λp=>c p.1:=by rw[<-t.keys,Ä];rfl
 have d:↑b=↑a:=by rw[s,<-Qb (f:=(·.1)),i,Qb]
 have g:∀(j:Nat) v,b[j]?=!v->∃p,a[j]?=!p/\gM (c p.1) v=true:=by
  intro j v l;let#[k,x,u,n]:=h j v l;have o:(e.map (·.1))[j]?=!k:=by rw[Á,u];rfl
  rw[i,Á]at o;let#[p,y,rfl]:=Î.mp o;rw[kZ]at n;show#[p,y,n]
 clear h i s t
 revert a;induction b with
 |nil=>
  intro a d g;cases a with
  |nil=>show nil|cons=>simp at d
 |cons v r ih=>intro a d g;cases a with
  |nil=>simp at d|cons p ps=>
   let#[q,z,k]:=g 0 v Z;cases z;show cons k<|ih (by simpa using d) λj v l=>g (j+1) v l
theorem a0m(h:gM (Sum.inr k) v=true)(t:StrsAre r ks):StrsAre (v::r) (k::ks):=by
 rcases bC h with⟨i,t,e,_⟩|⟨y,t,e,rfl⟩<;>cases e;show .cons _ _ ‹_›
theorem a0n{k:Int}(h:gM (Sum.inl k) v=true)(t:IntsAre r a):IntsAre (v::r) (k::a):=by
 rcases bC h with⟨i,t,e,rfl⟩|⟨y,t,e,_⟩<;>cases e;show .cons _ _ ‹_›
theorem sI{g:Type}{c:g->Key}{d:ϊ<|g×V}(j:KV (d.map λp=>(c p.1,p.2)) f)(h:(f.map (·.1)).Nodup):(d.map (·.1)).Nodup:=by
 have i:f.map (·.1)=(d.map (·.1)).map c:=by rw[<-j.keys,Ä,Ä];rfl
 rw[i]at h;show İ (λ{a b} z e=>z<|by rw[e])<|ę.mp h
theorem pW{X:Cx}(l:X.calm=true){h:Type}{c:h->Key}{B:h->V}{Y:ϊ ϋ->ϊ h->Prop}{zz:ϊ h->Prop}{N:h->h->Prop}(nil:Y [] [])(cons:∀{v k r ks},gM (c k) v=true->Y r ks->Y (v::r) (k::ks))(j:∀{us ks},Y us ks->Vals (ks.map B) us)(J:∀{L:ϖ}{z:϶}{P:PySem.Fin->ώ->Prop}{s1:ώ}{vs ks},Y vs ks->↑vs<64->(∀d ns,Y d.toList ns->ns.Perm ks->zz ns->P (.done (.ret .none)) {s1 with heap:=sortedHeap (s1.heap.push (seqObj "list" vs.toArray 0)) ⇑s1 vs d})->wpAny (model X.prog X.w) L (Builtin.«list.sort» #[[↥⇑s1],[]]) P z {s1 with heap:=s1.heap.push (seqObj "list" vs.toArray 0)})(K:∀{ns:ϊ h},zz ns->ns.Nodup->ns.Pairwise N) {s:ώ} {O:St} {H:Hp} {us:ϊ ϋ} {Q:VK} {a:ό} {f:ϊ (h×V)} (I:Inv X gE O H s) (rv:Vals [↥a] us) (e:Rd H a (.dK (f.map λp=>(c p.1,p.2)))) (W:↑f<64) (q:∀r (ns:ϊ h),ns.Perm (f.map (·.1))->ns.Pairwise N->H r=none->Q ↥r (upd H r (.lst (ns.map B)))):wpAny (model X.prog X.w) X.A (call (.builtin "sorted") us) (λv s'=>∃x H',Inv X gE O H' s'/\RelV x v/\Q x H') E s:=by
 let#[u,rfl,ru]:=rv.one;cases(show u=Value.ref a from ru);let#[hz,w,ws,G,hD]:=lJ I.hok e;let#[ep,m]:=hD.dictAt;have n:↑f=↑ws:=by have:=↑G;rw[Qb]at this;show this
 show lD (C:=λvs s1=>∃i y,s1={s with heap:=i,toks:=y}/\(∀b o,s.heap.get? b=!o->i.get? b=!o)/\⇑s<=i.objs.size/\Y vs (f.map (·.1)))
  (zz:=λvs _ d=>∃ns,Y d.toList ns/\ns.Perm (f.map (·.1))/\zz ns) (λz R hR=>?_) λvs s1 hC=>?_;.show uw (A:=X.A.in1) (I.ok.hd l) w m (by rw[<-n,ü];rfl') λi y vs F g hl hv=>hR _ _ #[i,y,Z,F,g,Yk nil cons G hl hv]
 .obtain ⟨i,y,rfl,F,g,M⟩:=hC;have ab:↑vs=↑f:=by have:=↑(j M);rw[Qb,Qb]at this;show this.symm
  show#[(),λL z P hP=>J M () λd ns a b c=>hP _ #[ns,a,b,c],λd t=>?_];let#[ns,T,D,U]:=t;let#[S,he]:=GJ i vs d;show#[↥_,_,I.laid (t':=y) (a:=i.objs.size) (o:=.lst (ns.map B)) (λb o hb=>ux (F b o hb)) g (show ObjOk X.prog X.w _ _ _ (.lst _)from#[?_,d.toList,S,j T,by rw[he]]),Z,q _ ns D (K U (D.nodup_iff.mpr (sI G m.nodup))) (I.hok.fresh g)];rw[Qb,D.length_eq,Qb,ü];rfl'
theorem wG{X:Cx}(b:X.calm=true):bV X (.builtin "sorted") ur:=by
 intro g s y H x w Q I u h;let#[a,t,rfl,e,c,q]:=h;show pW b .nil a0m sy (λd o n=>list_sort_treeK strKind_oneLt (È _ Z) d.keysOf (λi j rest e=>keyKind_strs<|by rw[<-e];show d) o λv p r=>by let#[f,k,l,m]:=sorted_out_str d p r;show n _ f k l m) kO I u e c q
theorem wH{X:Cx}(c:X.calm=true):bV X (.builtin "sorted") ut:=by intro g s r H p o Q I n h;let#[a,m,rfl,e,d,q]:=h;show pW c .nil a0n rO (λk l j=>list_sort_tree (È _ Z) k l j) (λi f=>İ (R:=λa b=>a<=b/\a≠b) (λ{a b} z=>())<|List.Pairwise.and i f) I n (.inl e) d q
theorem DN{X:Cx}(p:X.calm=true):bV X (.builtin "max") (Bu X.K):=by
 intro n s K H c J Q I C h;let#[a,m,rfl,z,d,q]:=h;let#[u,rfl,B]:=C.one;cases(show u=Value.ref a from B);let#[A,r,l,F]:=I.list z;have k:=intsAre_of r;let#[c,e]:=k.allInts.items;have b:m=c.toList.map (·.1):=by rw[<-k.numsOf,<-nums_intItems,<-e]
 have f:0<c.size:=by have g:0<↑m:=Ő.mpr d;rw[b,Qb,á]at g;show g
 rw[e]at l;show max_intList (I.ok.hd p) l.isList f λv D G y x=>?_;let#[t,rfl]:=intItems_at y;let#[E,o]:=argBest_gt (numAt c)<|c.size-1;show#[.int _,H,I.kept x,#[_,Z],q _ ?_ λa i=>?_];.rw [b,numAt_eq];show getD_mem<|by rw[Qb,á];rfl'
 .rw [b]at i;let#[j,w,rfl]:=mem_getD i;rw[Qb,á]at w;rw[<-numAt_eq];show o j ()
def yS{X:Cx}(K:Ϗ)(a:X.K=K)(b:X.calm=true):bV X (.builtin "max") (Bu K):=a▸DN b
end L2
namespace Sx
open PySem PyProof.Rows
section
def mX{a:ό}{d:ϊ ϋ}{n:Nat}{P:PySem.Fin->ώ->Prop}(M:s.heap.get? a=!(seqObj "list" d.toArray n))(m:↑d<64)(D:∀v∈d,Fs (mid s.heap a d) f v)(F:(d.map f).Nodup)(h:∀c:ϊ ϋ,c.Perm d->(c.map f).Pairwise (λa b=>a.cps.toList<b.cps.toList)->P (.done<|.ret .none) {s with heap:=sortedHeap s.heap a d c.toArray}):∅ (Builtin.«list.sort» #[[↥a],[]]) P E s:=by
 show GD (kd:=tuples' true) (a0l (f:=f)) M m (λB=>wF (s:={s with heap:=mid s.heap a d}) (by intro e;rw[e]at B;simp at B) D) (yR (s:={s with heap:=mid s.heap a d}) D F) λc I u=>?_;have l:c.toList.Perm (d.zip d):=by have:=Η.mp I;rwa[pairsOf_toList]at this
 have g:∀p∈c.toList,p.1=p.2:=λp L=>(mem_zip_self<|l.mem_iff.mp L).1;have k:(c.toList.map (·.2)).Perm d:=by have:=l.map (·.2);rwa[List.map_snd_zip<|Ã _]at this
 have N:c.size=↑d:=by rw[I.size_eq,pairsOf_size]
 have:=h (c.toList.map (·.2)) k ?_;.rwa [show(c.toList.map (·.2)).toArray=c.map (·.2)by rw[<-Array.toList_map]]at this
 have t:((c.toList.map (·.2)).map f).Nodup:=((k.map f).nodup_iff).mpr F;rw[Ο];intro i j G H q;have o:i<c.size:=by simpa using G
 have r:j<c.size:=by simpa using H
 have x:=u i j (â q) ();have J:gt c i=c[i]:=by unfold gt;rw[getElem?_pos _ i o];rfl
 have K:gt c j=c[j]:=by unfold gt;rw[getElem?_pos _ j r];rfl
 rw[J,K]at x;have y:((c.toList.map (·.2)).map f)[i]=f (c[i]).1:=by rw[g _ (by simp)];simp
 have z:((c.toList.map (·.2)).map f)[j]=f (c[j]).1:=by rw[g _ (by simp)];simp
 rw[y,z];have O:f (c[i]).1≠f (c[j]).1:=by intro e;have:=(Ļ (h₀:=G) (h₁:=H) t).mp (by rw[y,z,e]);rfl'
 unfold Bf at x;cases e:strKind.blt (f (c[i]).1).cps.toList (f (c[j]).1).cps.toList with
 |true=>show ô e|false=>have:=strKind.total _ _ e x;show μ (by
   have C:(f (c[i]).1).cps=(f (c[j]).1).cps:=Array.toList_inj.mp this;cases h4:f (c[i]).1;cases h5:f (c[j]).1;rw[h4,h5]at C;simpa using C) O
end
end Sx
namespace L2
open PySem PySem.Spec PyProof.Rows
def Inv.laidN{X:Cx}{t':Nat}(I:Inv X gE j H s)(k:∀b u,s.heap.get? b=!u->g.get? b=!u)(a:∀b,b<⇑s->d b=H b)(h:∀b o,⇑s<=b->d b=!o->ObjOk X.prog X.w d g b o):Inv X gE j d {s with heap:=g,toks:=t'}:=by
 have f:∀b o,H b=!o->d b=!o:=λb o e=>by rw[a b<|I.hok.lt e];show e
 show I.un #[λb u q _ _ _=>k b u q,λb u q _ _ _=>#[u.slots,k b u q],λb u q n _=>by rw[a b<|Ë q];show n,λb u q _=>#[u,k b u q],λb i q=>f _ _ q,λb u i q=>f _ _ q,λb l q=>#[([].toArray),by rw[f _ _ q];simp]] λb u e=>?_;rcases Μ b ⇑s with lt|ge;.rw [a b lt]at e;show(I.hok b u e).stay (λc v _ q=>k c v q) (λc q=>f _ _ q) λc i q=>f _ _ q
 .show h b u ge e
noncomputable def qU(H:Hp)(r:ό)(zs:ϊ<|ό×ϐ×V):Hp:=λb=>if b=r then !(.lst<|zs.map λz=>V.ref z.1)else match zs.find? (λz=>decide<|z.1=b)with
 |some z=>!(.tup [.str z.2.1,z.2.2])|none=>H b
def GK(a:(zs.map (·.1)).Nodup)(c:∀z∈zs,z.1≠r)(b:z∈zs):qU H r zs z.1=!(.tup [.str z.2.1,z.2.2]):=by
 unfold qU;rw[γ<|c z b];have:zs.find? (λy=>decide<|y.1=z.1)=!z:=by clear c;induction zs with|nil=>cases b|cons y r ih=>
   rw[Ç,ï]at a;rw[Ğ];rcases Å.mp b with e|m;.subst e;simp
   .have d:y.1≠z.1:=λe=>a.1 (by rw[e];show Zp.mpr #[z,m,Z]);rw[Ü d];show ih a.2 m
 rw[this]
def GP(a:b≠r)(c:∀z∈zs,z.1≠b):qU H r zs b=H b:=by
 unfold qU;rw[γ a];have:zs.find? (λy=>decide<|y.1=b)=none:=ł.mpr λz d=>by simpa using c z d
 rw[this]
def GQ(a:b≠r)(c:H b=none)(e:qU H r zs b=!o):∃z∈zs,z.1=b/\o=.tup [.str z.2.1,z.2.2]:=by
 unfold qU at e;rw[γ a]at e;cases q:zs.find? (λz=>decide<|z.1=b)with
 |none=>rw[q]at e;rw[c]at e;cases e|some z=>
  rw[q]at e
  cases e;have d:decide (z.1=b)=true:=by have:=ź q;simpa using this
  show#[z,Ģ q,ô d,Z]
def yU{c d:Type}{F:c->d->Prop}{a:ϊ c}{b:ϊ d}(r:Paired F a b):∀{i:Nat}{p:c}{q:d},a[i]?=!p->b[i]?=!q->F p q:=by
 induction r with
 |nil=>intro i p q h;simp at h
 |cons h t ih=>
  intro i p q e f
  cases i with
  |zero=>cases e;cases f;show h|succ i=>show ih e f
def sJ{X:Cx}(U:X.calm=true)(hg:Gl X "sorted")(hm:X.mg "sorted"=none)(ho:PE X o td)(T:attributeBase o "items" X.env (eval o X.env)=eval o X.env:=by rfl) (W:(d.endLine==l.line)=true:=by rfl)(he:starEach [.Call (.Attribute o "items" d) [] [] l] X.env=(false,eval (.Call (.Attribute o "items" d) [] [] l) X.env)::starEach [] X.env:=by rfl)(ax:backTo al (starEach [.Call (.Attribute o "items" d) [] [] l] X.env)=[(false,eval (.Call (.Attribute o "items" d) [] [] l) X.env)]:=by rfl):PE X (.Call (.Name "sorted" p) [.Call (.Attribute o "items" d) [] [] l] [] al) (uv td):=by
 intro N s σ H Q I h;show ľ (fW I hg hm (by ac_nf:bootBuiltins "sorted"=!(.builtin "sorted")) ?_ (by decide) (by decide));show ũ ?_ he Z;rw[ax];show Ľ (ι T W (bH (ho N s σ H _ I h) λv w ob=>?_));let#[x,H1,J,r1,q1]:=ob;let#[a,c,rfl,e,am,q]:=q1;cases(show v=Value.ref a from r1);let#[M,af,us,kv,hD]:=lJ J.hok<|.inl e;let#[t1,t2,_]:=yO J<|.inl #[_,.inl e];show#["dict","dict.items",ō,ν,PySem.F.type_dict_items,t1,t2,Ġ Z<|PySem.evalArgs_none ?_];show call_meetsIn ν hD.typeIs PySem.F.entry_dict_items (PySem.F.args_dict_items_1 _) (meets_dict_items (bI X.prog X.w) a af) #[#[us,hD],?_];show Š ?_;let#[ep,ab]:=hD.dictAt;have ad:↑c=↑us:=by have:=↑kv;rw[Qb]at this;show this
 have ar:us.map (·.1)=c.map λp=>(Sum.inr p.1:Key):=by rw[<-kv.keys,Ä];rfl
 have I2:Inv X N σ H1 {w with heap:=w.heap.push {cls:=.type "dict_items",data:=.fields<|[↥a].toArray}}:=J.kept (t':=w.toks) λb ob q=>Jn _ q;show lD (C:=λvs s3=>∃m tk u,s3={w with heap:=m,toks:=tk}/\(∀b o,w.heap.get? b=!o->m.get? b=!o)/\⇑w<=m.objs.size/\↑u=↑us/\PySem.W.KdxG (bI X.prog X.w) us ⇑w m u/\vs=u.map Value.ref)
  (zz:=λvs s3 ai=>∃n:ϊ ϋ,ai=n.toArray/\n.Perm vs/\(n.map<|sG s3.heap).Pairwise (λa b=>a.cps.toList<b.cps.toList)) (λE' R hR=>?_) λvs s3 hC=>?_
 .show PySem.W.kdx_collect (A:=X.A.in1) (knd:=bI X.prog X.w) (kvs:=us) (ep:=ep) (J.ok.hd U) #[_,È _ Z,Z,Z] (ab.push _) (by rw[<-ad,ü];rfl') λm tk u hk hl hG=>hR _ _ #[m,tk,u,Z,λb o q=>hk b o<|Jn _ q,?_,hl,hG.low ?_,Z];.show â<|Ë<|hk ⇑w _<|È _ Z
  .show ⇑w<=(w.heap.push _).objs.size;rw[size_push'];rfl'
 .obtain ⟨m,tk,u,rfl,hk,ag,a5,hG,rfl⟩:=hC;have a4:∀(j:Nat)(b:ό) p,u[j]?=!b->c[j]?=!p->∃t B,m.get? b=!{cls:=.type "tuple",data:=.seq<|[.str p.1 t,B].toArray}/\RelV p.2 B:=by
   intro j b p K hp;let#[a7,k,x,O,S,e3]:=hG.pairs j b K;have e4:(us.map (·.1))[j]?=!k:=by rw[Á,O];rfl
   rw[ar,Á,hp]at e4;cases e4;rw[kZ]at S;rcases bC S with⟨i,t,e,_⟩|⟨y,t,e,ev⟩;.show nomatch e
   .cases e;have hv:RelV p.2 x:=by have:=yU kv (i:=j) (p:=(Sum.inr p.1,p.2)) (q:=(Sum.inr p.1,x)) (by rw[Á,hp];rfl) O;show this.2
    show#[t,x,by rw[<-ev];show e3,hv]
  have a6:↑c=↑u:=();have O:((u.zip c).map λq=>(q.1,q.2.1,q.2.2):ϊ<|ό×ϐ×V).map (·.1)=u:=by rw[Ä];show List.map_fst_zip ()
  have S:((u.zip c).map λq=>(q.1,q.2.1,q.2.2):ϊ<|ό×ϐ×V).map (·.2)=c:=by rw[Ä];show List.map_snd_zip ()
  have G:∀z∈((u.zip c).map λq=>(q.1,q.2.1,q.2.2):ϊ<|ό×ϐ×V),∃t B,m.get? z.1=!{cls:=.type "tuple",data:=.seq<|[.str z.2.1 t,B].toArray}/\RelV z.2.2 B:=by
   intro z M;let#[q,mq,rfl]:=Zp.mp M;let#[j,hj,ej]:=ň.mp mq;have hl:j<↑u/\j<↑c:=by rw[List.length_zip]at hj;rfl'
   rw[List.getElem_zip]at ej;have:=a4 j u[j] c[j] (Zl hl.1)<|Zl hl.2;rw[<-ej];show this
  generalize((u.zip c).map λq=>(q.1,q.2.1,q.2.2):ϊ<|ό×ϐ×V)=zs0 at O S G;have ay:u.map Value.ref=zs0.map λz=>Value.ref z.1:=by rw[<-O,Ä];rfl
  have ah:↑zs0<64:=by rw[<-Qb (f:=(·.2)),S];show am
  have D:∀z∈zs0,sG m ↥z.1=z.2.1:=λz M=>by let#[t,B,g,_]:=G z M;unfold sG;dsimp only;rw[g];rfl
  have ef:(zs0.map λz=>Value.ref z.1).map (sG m)=zs0.map (·.2.1):=by rw[Ä];show Č λz M=>D z M
  have av:(zs0.map (·.2.1)).Nodup:=by
   have:zs0.map (·.2.1)=c.map (·.1):=by rw[<-S,Ä];rfl
   rw[this];show sI kv ab.nodup
  have r:∀z∈zs0,⇑w<z.1/\z.1<m.objs.size:=λz M=>by
   have:z.1∈u:=by rw[<-O];show Zp.mpr #[z,M,Z]
   show#[hG.above _ this,hG.there this]
  have aw:(zs0.map (·.1)).Nodup:=by rw[O];show İ (λ{a b} h e=>by rw[e]at h;show Ď _ h) hG.rise
  rw[ay];show#[by rw[Qb];show ah,λA' E' P hP=>?_,λai ae=>?_];.show Sx.mX (f:=sG m) (È _ Z) (by rw[Qb];show ah) (λv hv=>?_) (by rw[ef];show av) λn hp hs=>hP _ #[n,Z,hp,hs];let#[z,E,rfl]:=Zp.mp hv;let#[t,B,g,_]:=G z E;show#[z.1,{cls:=.type "tuple",data:=.seq<|[.str z.2.1 t,B].toArray},([.str z.2.1 t,B].toArray),t,_,[B],Z,?_,Z,Z,by rw[D z E]];unfold Sx.mid;show Jn _<|Jn _ ?_;rw[Heap.get?_update_ne _ _ _ _<|Þ (r z E).2];show Jn _ g
  .obtain ⟨n,rfl,hp,hs⟩:=ae;let#[F,Y,rfl]:=Pr hp.symm Z;have es:(F.map λz=>Value.ref z.1).map (sG m)=F.map (·.2.1):=by rw[Ä];show Č λz a3=>D z<|Y.mem_iff.mp a3
   rw[es]at hs;let#[ee,ap]:=GJ m (zs0.map λz=>Value.ref z.1) (F.map λz=>Value.ref z.1).toArray;have hr:H1 m.objs.size=none:=J.hok.fresh ag;have a2:∀z∈F,z.1≠m.objs.size:=λz E=>Þ (r z<|Y.mem_iff.mp E).2;have a1:(F.map (·.1)).Nodup:=((Y.map _).nodup_iff).mpr aw;have L:∀b,b<⇑w->qU H1 m.objs.size F b=H1 b:=λb K=>GP (Þ<|Ò K ag) λz E=>ė<|Λ K (r z<|Y.mem_iff.mp E).1;show#[↥_,qU H1 m.objs.size F,J.laidN (t':=tk) (λb o K=>ux<|hk b o K) L λb o K eo=>?_,Z,q _ F _ (by rw[<-S];show Y.map _) hs hr (λb o eb=>by rw[L b<|J.hok.lt eb];show eb) (by unfold qU;rw[β Z]) λz E=>GK a1 a2 E];by_cases ac:b=m.objs.size
   .subst ac;have:o=.lst (F.map λz=>V.ref z.1):=by unfold qU at eo;rw[β Z]at eo;cases eo;rfl
    subst this;show#[by rw[Qb,Y.length_eq,ü];rfl',_,ee,mW (g:=λz=>z.1) F,ap]
   .obtain ⟨z,E,ez,rfl⟩:=GQ ac (J.hok.fresh K) eo;let#[t,B,g,rv]:=G z<|Y.mem_iff.mp E;rw[<-ez];show#[by change 2<=_;rw[ü];decide,[.str z.2.1 t,B],.cons #[t,Z]<|.cons rv .nil,_,ux g,Z,_,Z]
end L2
end
section
namespace Sy
open PySem PyProof.Rows
variable{n:Nat}{a:ό}{h₀:ϒ}{v:ϋ}{T:String}{R:Result->ώ->Prop}{Q:ύ ϋ->ώ->Prop}
theorem sO:entryFor table "dict.update.loop"=some Builtin.«dict.update.loop»:=entryFor_of_tree<|by kernel_rfl
theorem jV:plainId "dict.update.loop"=true:=by ac_nf
theorem GR:typeLookup (.type "tuple") "keys"=pure none:=am_miss_of_fast<|by ac_nf
theorem UW:typeLookup (.type "tuple") "__getattr__"=pure none:=by rw[Χ,Ś];kernel_rfl
theorem GX:typeLookup (.type "list") "keys"=pure none:=am_miss_of_fast<|by ac_nf
theorem V0:typeLookup (.type "list") "__getattr__"=pure none:=by rw[Χ,Ś];kernel_rfl
theorem stored_new{K:Type}[DecidableEq K]{a:ϊ<|K×ϋ}{k:K}(h:k∉a.map (·.1)):stored a k v=a++[(k,v)]:=by unfold stored;rw[γ];intro z;let#[p,m,e]:=List.any_eq_true.mp z;show h<|Zp.mpr #[p,m,ô e]
section
variable{prog:ϓ}{w:ϕ}{A:ϖ}{E:϶}{s:ώ}
theorem Pu(q:T="tuple"\/T="list")(a:ό)(o:Obj)(f:ϔ ϋ)(n:Nat)(k:o.cls=.type T)(l:o.dict=none)(b:o.data=.seq f n)(u:Tok):Meets (Builtin.«object.__getattribute__» #[[↥a,.str "keys" u],[]]) (λA R s=>s.heap.get? a=!o/\raisesAttr ↥a "keys" A R s):=Meets.of_wp λm w A R s c=>by
  let#[t,g,d,x,v]:=s;let#[e,c]:=c;dsimp only at e;let#[p,j,i,h]:=o;simp only at k l b;subst k l b;have r:(⟨t,g,d,x,v⟩:ώ).TypeIs ↥a T:=#[_,e,Z];have y:=GR;have z:=GX;unfold Builtin.«object.__getattribute__»;rcases q with rfl|rfl<;>repeat(any_goals(first|assumption|wp_step|(show PySem.AutoSeq1.wpAny_loadPart' e ?_)))
  all_goals show wpAny_raiseAttrError c.1 c.2<|attrMsg_fits (by ac_nf)<|by rw[ü];decide+kernel
theorem Bv(r:A.handled=none)(q:T="tuple"\/T="list")(c:s.heap.get? a=!o)(i:o.cls=.type T)(j:o.dict=none)(h:o.data=.seq its n)(v:∀h' tk,(∀b ob,s.heap.get? b=!ob->h'.get? b=!ob)->Q none {s with heap:=h',toks:=tk}):∅ (getAttr? ↥a "keys") Q E s:=by
 let#[x,g,d,tk,y]:=s;dsimp only at c;have M:=λu=>Pu q a o its n i j h u;let#[t,p,m,k]:=o;simp only at i j h;subst i j h;have f:∀tk,(⟨x,g,d,tk,y⟩:ώ).TypeIs ↥a T:=λ_=>#[_,c,Z];have z:=sub_AttributeError;have B:=F.slot_tuple_getattribute.lookup;have C:=F.slot_tuple_getattribute.bind<|.ref a;have D:=UW;have G:=F.slot_list_getattribute.lookup;have H:=F.slot_list_getattribute.bind<|.ref a;have I:=V0;unfold getAttr? getAttrBy? getAttrBy;rcases q with rfl|rfl<;>repeat(any_goals(first|assumption|show f _|((with_reducible change wpAny _ _ (call (Value.builtin "list.__getattribute__") _ _) _ _ _);show ε F.slot_list_getattribute (f _) F.entry_list_ga (F.args_list_getattribute_2 _ _) (M _) ⟨c,r,λh' l e c=>?_⟩)|((with_reducible change wpAny _ _ (call (Value.builtin "tuple.__getattribute__") _ _) _ _ _);show ε F.slot_tuple_getattribute (f _) F.entry_tuple_ga (F.args_tuple_getattribute_2 _ _) (M _) ⟨c,r,λh' l e c=>?_⟩)|wp_step))
 all_goals
  let#[K,L,J]:=c.there;change wpAny _ _ (getattributeRaised _ _ _ _ _ _ _) _ _ _;unfold getattributeRaised;repeat(any_goals(first|assumption|wp_step))
  show v _ _ c.keeps
theorem GZ{K:Type}[DecidableEq K]{knd:PySem.KeyKind prog w K}{I D:ό}{fp B:ϊ ό}{c:ϊ<|ό×ϋ×K×ϋ}{St:Nat->ϒ->Prop}(W:Walks prog w A.in1 I fp B ↑c (λi v=>∃z,c[i]?=!z/\v=↥z.1) St) (E:D∉fp)(hz:∀z∈c,z.1∉D::B/\knd.is z.2.2.1 z.2.1=true/\∃o n,h₀.get? z.1=!o/\o.cls=.type "tuple"/\o.data=.seq ([z.2.1,z.2.2.2].toArray) n) (U:(c.map (·.2.2.1)).Nodup) (ab:↑c<=sizeLine) (L:ϋ)(hR:∀h' f,h'.DictOf knd D (c.map λz=>(z.2.2.1,z.2.2.2))->(∀b o,b∉D::B->h₀.get? b=!o->h'.get? b=!o)->R (.ok<|.ret L) {s with heap:=h',toks:=f}):∀(k i:Nat)(h:ϒ)(tk:Nat)(j:Int),↑c-i=k->i<=↑c->St i h->h.DictOf knd D ((c.take i).map λz=>(z.2.2.1,z.2.2.2))->(∀b o,b∉D::B->h₀.get? b=!o->h.get? b=!o)->codeAny (model prog w) A (.builtin "dict.update.loop" #[[↥D,↥I,.int j 0,L],[]]) R {s with heap:=h,toks:=tk}:=by have F:D∉B:=λm=>E<|W.sub _ m;have x:∀{b},b∉D::B->b∉B:=λ{b} n m=>n<|Ê _ m;intro k;induction k with
 |zero=>
  intro i h tk j hk hi u M a;have S:i=↑c:=();subst S;rw[à]at M;show ć sO ?_;rw[ý jV _];change wpAny _ A.in1 (pyNext ↥I>>=_) _ _ _;show Qr (W.done {s with heap:=h,toks:=tk} _ _ u λh' f d=>?_);change wpAny _ A.in1 (Builtin.Dict.addKeywords D []>>=_) _ _ _;show Qr (Wp (Wp (hR h' f ?_ λb o g e=>d b o (x g)<|a b o g e)));let#[o,O,N,X,r]:=M;show#[o,O,N,d D o F X,r]|succ k ih=>
  intro i h tk j hk hi u M a;have G:i<↑c:=();show ć sO ?_;rw[ý jV _];change wpAny _ A.in1 (pyNext ↥I>>=_) _ _ _;show Qr (W.item i {s with heap:=h,toks:=tk} _ _ G u λv h' f hP J d=>?_);let#[z,zz,rfl]:=hP;have hm:=Yf zz;let#[n1,n2,o,n,g1,g2,g3]:=hz z hm;have C:h'.get? z.1=!o:=d _ _ (x n1)<|a _ _ n1 g1;have Q:h'.DictOf knd D ((c.take i).map λz=>(z.2.2.1,z.2.2.2)):=by let#[o,O,N,X,r]:=M;show#[o,O,N,d D o F X,r]
  show Qr<|õ ?_;show Qr<|ψ ?_;unfold Builtin.Dict.pairItems;show Qr<|ű (T:="tuple") #[o,C,g2] ?_;rw[β (by decide)];show Qr ?_;unfold seqItems?;show Qr<|wpAny_load C ?_;rw[g3];show Wp<|Wp ?_;change wpAny _ _ (holding [z.2.1,z.2.2.2]<|dictSet D z.2.1 z.2.2.2) _ _ _;show õ (wpAny_dictSet_pairs n2 Q (λP l t=>?_) (by rw[Qb,Ñ];rfl'));have Y:c.take (i+1)=c.take i++[z]:=by rw[Ð,zz];rfl
  have H:z.2.2.1∉((c.take i).map λz=>(z.2.2.1,z.2.2.2)).map (·.1):=by intro m;rw[Ä]at m;let#[y,my,ey]:=Zp.mp m;have p:((c.take<|i+1).map (·.2.2.1)).Nodup:=Ē ((Ę _ _).map _) U;rw[Y,Â,å]at p;show p.2.2 _ (Zp.mpr #[y,my,Z]) z.2.2.1 (by simp) ey
  rw[stored_new H]at l;show Wp #[plainId_quiet jV _,ih (i+1) P _ (j+1) () G (W.frame _ _ _ J λb g o e=>?_) (by rw[Y,Â];show l) λb o g e=>?_];.rw [t.2 b (λq=>E (by rw[<-q];show g))];show e
  .rw [t.2 b (λq=>g (by rw[q];show Ì))];show d b o (x g)<|a b o g e
theorem oF{K:Type}[DecidableEq K]{knd:PySem.KeyKind prog w K}(N:T="tuple"\/T="list"){d:ϊ<|ό×ϋ×K×ϋ}{Q:϶}(G:A.handled=none)(hx:s.heap.get? a=!o)(p:o.cls=.type T)(hd:o.dict=none)(f:o.data=.seq (d.map λz=>Value.ref z.1).toArray n)(hz:∀z∈d,knd.is z.2.2.1 z.2.1=true/\∃o n,s.heap.get? z.1=!o/\o.cls=.type "tuple"/\o.data=.seq ([z.2.1,z.2.2.2].toArray) n) (O:(d.map (·.2.2.1)).Nodup) (P:↑d<=sizeLine)(B:∀h' tk,h'.DictOf knd ⇑s (d.map λz=>(z.2.2.1,z.2.2.2))->(∀b o,s.heap.get? b=!o->h'.get? b=!o)->Q ↥⇑s { s with heap:=h',toks:=tk}):∅ (call (.type "dict") [↥a]) Q E s:=by
 show callType_codes (Q₁:=λL l=>L=↥⇑s/\l={ s with heap:=s.heap.push { cls:=.type "dict",data:=.dict<|[].toArray}}) F.kt_called_dict (F.kt_typeCall_dict_1 _) F.entry_dict_init (kt_code_dict_new _ ⟨Z,Z⟩) ?_;rintro L l ⟨rfl,rfl⟩;have C:a<⇑s:=Ë hx;have h:(s.heap.push { cls:=.type "dict",data:=.dict<|[].toArray}).DictOf knd ⇑s []:=Heap.DictOf.new s.heap;have u:(s.heap.push { cls:=.type "dict",data:=.dict<|[].toArray}).get? a=!o:=Jn _ hx;show#[h.typeIs,F.args_dict_init_2 _ _,?_];unfold Builtin.«dict.__init__»;show Qr ?_;unfold Builtin.Dict.selfAndRest;show Qr<|ĺ h.typeIs ?_;change wpAny _ _ (pure (⇑s,[Value.ref a])) _ _ _;show Wp ?_;change wpAny _ _ (Builtin.Dict.updateFrom "dict.__init__" ⇑s ↥a [] .none) _ _ _;unfold Builtin.Dict.updateFrom;show Qr<|ű (T:=T) #[o,u,p] ?_;rw[β<|by rcases N with rfl|rfl<;>decide];have nk:∀{A:ϖ}{E:϶}{s:ώ}{Q:ύ ϋ->ώ->Prop},A.handled=none->s.heap.get? a=!o->(∀h' tk,(∀b ob,s.heap.get? b=!ob->h'.get? b=!ob)->Q none { s with heap:=h',toks:=tk})->∅ (getAttr? ↥a "keys") Q E s:=by
  rcases N with rfl|rfl
  .show λc M=>Bv c (.inl Z) M p hd f
  .show λc M=>Bv c (.inr Z) M p hd f
 show Qr<|nk G u λc ab j=>?_;rw[β<|show(none:ύ ϋ).isNone=true from Z];show Qr<|į ?_;have q:⇑s<c.objs.size:=Ë<|j ⇑s _<|È _ Z;have I:a≠c.objs.size:=Þ<|Λ C q;have y:(d.map λz=>Value.ref z.1).toArray.size=↑d:=by simp
 have it:∀{Y:ϖ}{E:϶}{s:ώ}{Q:϶},s.heap=c->A.handled=none->(∀(ob:Obj) St,Walks prog w A.in1.in1 c.objs.size [c.objs.size,a] [c.objs.size] (d.map λz=>Value.ref z.1).toArray.size (λi v=>(d.map λz=>Value.ref z.1).toArray[i]?=!v) St->St 0 (c.push ob)->Q ↥c.objs.size { s with heap:=c.push ob})->wpAny (model prog w) Y (pyIter<|.ref a) Q E s:=by
  have g:=j _ _ u;rintro Y E s Q rfl G k;rcases N with rfl|rfl;.have t:s.heap.IsTuple a (d.map λz=>Value.ref z.1).toArray:=#[o,g,p,n,f];show ļ t<|k _ _ (Walks.tuple (A:=A.in1.in1) G _ a I _) #[#[_,È _ Z,Z,Z],#[o,Jn _ g,p,n,f]]
  .have t:s.heap.IsList a (d.map λz=>Value.ref z.1).toArray:=#[o,g,p,n,f];show Α t<|k _ _ (Walks.list (A:=A.in1.in1) G _ a I _) #[#[_,È _ Z,Z,Z],#[o,Jn _ g,p,n,f]]
 show Qr<|it Z G λio St x U=>?_;have W:Walks prog w A.in1.in1 c.objs.size [c.objs.size,a] [c.objs.size] ↑d (λi v=>∃z,d[i]?=!z /\ v=↥z.1) St:=
  { sub:=x.sub,frame:=x.frame,self:=x.self
    item:=λi s Q E hi S B=>x.item i s Q E (by rw[y];show hi) S λv h' tk hP=>B v h' tk (by rw[Ž,Á]at hP;let#[z,e1,e2]:=Î.mp hP;show#[z,e1,e2.symm])
    done:=λs Q E S B=>x.done s Q E (by rw[y];show S) B};have H:∀b ob,s.heap.get? b=!ob->(c.push io).get? b=!ob:=λb ob e=>Jn _<|j b ob<|Jn _ e;have J:∀b ob,s.heap.get? b=!ob->b∉[⇑s,c.objs.size]:=λb ob e m=>by
  have:=Ë e;simp only[Å,Ú,þ]at m;rcases m with rfl|rfl;.show Ď _ this
  .show Ď _<|Λ this q
 show Wp #[plainId_quiet jV _,GZ (s:=s) (A:=A.in1) (knd:=knd) (D:=⇑s) (h₀:=c.push io) W ?_ (λz m=>?_) O P .none (λh' X hD hk=>#[Z,B h' X hD λb ob e=>hk b ob (J b ob e)<|H b ob e]) ↑d 0 _ _ 0 Z (ä _) U ?_ λ_ _ _ e=>e];.simp only[Å,Ú,þ,not_or];show#[Nat.ne_of_lt q,ė C]
 .obtain ⟨n1,R,n',zz,g2,g3⟩:=hz z m;show#[J _ _ zz,n1,R,n',H _ _ zz,g2,g3]
 .obtain ⟨R,es,ep,ho,r⟩:=h;show#[R,es,ep,Jn _<|j _ _ ho,r]
end
end Sy
namespace L2
open PySem PySem.Spec PyProof.Rows
variable{i:ό}{w:ϕ}{prog:ϓ}{R:It->Hp->Prop}{E:϶}{Q:ύ ϋ->ώ->Prop}
def Bw(K:Ϗ):ϊ V->Hp->VK->Prop:=λxs H Q=>∃p ys,xs=[↥p]/\SqL K H p ys/\∀l (ob:Obj),ob.dict=none->H l=none->Q ↥l (upd H l<|.frz ob<|.tup ys)
theorem DP{X:Cx}:bV X (.type "tuple") (Bw X.K):=by
 intro a s k H y x Q I r h;let#[p,j,rfl,m,q]:=h;let#[u,rfl,w]:=vals1 r;cases w;let#[c,i,v,n]:=I.list m;have g:=↑i;show call_tuple_list v.isList (λd t=>?_) (by simp only[Ù]<;>rfl');have f:Inv X a k H {s with heap:=d}:=I.kept (t':=s.toks) t;have l:Inv X a k (upd H d.objs.size<|.frz {cls:=.type "tuple",data:=.seq c.toArray}<|.tup j) {s with heap:=d.push {cls:=.type "tuple",data:=.seq c.toArray}}:=f.laid (t':=s.toks) (λb o e=>Jn _ e) (Ã _)<|show ObjOk X.prog X.w _ _ _ (.frz _<|.tup j)from#[Heap.get?_push_size _ Z,n,c,i,IsTup.new _ _];show#[↥d.objs.size,_,l,Z,q _ _ Z<|f.hok.fresh<|Ã _]
def yV{X:Cx}(K:Ϗ)(a:X.K=K):bV X (.type "tuple") (Bw K):=a▸DP
def je(K:Ϗ):ϊ V->Hp->VK->Prop:=λxs H Q=>∃(a:ό)(zs:ϊ<|ό×ϐ×V),xs=[↥a]/\((∃ob:Obj,ob.dict=none/\H a=!(.frz ob (.tup (zs.map λz=>V.ref z.1))))\/H a=!(.lst (zs.map λz=>V.ref z.1)))/\(∀z∈zs,SqT K H z.1 [.str z.2.1,z.2.2])/\(zs.map (·.2.1)).Nodup/\↑zs<=1000/\∀r,H r=none->Q ↥r (upd H r (.dK (zs.map λz=>(Sum.inr z.2.1,z.2.2))))
theorem wI{X:Cx}(C:X.calm=true):bV X (.type "dict") (je X.K):=by
 intro M s σ H xs us Q I r h;let#[a,d,rfl,ha,L,k,Y,q]:=h;let#[u,rfl,rx]:=vals1 r;cases rx;let#[T,S,o,n,i,g,j,c]:∃T,(T="tuple"\/T="list")/\∃(o:Obj)(n:Nat),s.heap.get? a=!o/\o.cls=.type T/\o.dict=none/\o.data=.seq (d.map λz=>Value.ref z.1).toArray n:=by
  rcases ha with⟨ob,j,ha⟩|ha;.obtain ⟨i,_,F,J,o',l,g,n,c⟩:=I.hok a _ ha;rw[i]at l;cases l;rw[pR J]at c;show#[_,.inl Z,_,n,i,g,j,c]
  .obtain ⟨_,F,n,J,i⟩:=(show ObjOk X.prog X.w H s.heap a (.lst<|d.map λz=>V.ref z.1)from I.hok a _ ha);rw[pR J]at i;show#[_,.inr Z,_,n,i,Z,Z,Z]
 have K:∀z∈d,∃t v,RelV z.2.2 v/\∃o n,s.heap.get? z.1=!o/\o.cls=.type "tuple"/\o.data=.seq ([.str z.2.1 t,v].toArray) n:=λz m=>by
  let#[is,G,p1,_]:=I.tuple<|L z m;let#[o,zz,C,n,U]:=p1;cases G with|cons r2 rr=>
   let#[t,rfl]:=r2;cases rr with|cons r3 r4=>cases r4;show#[t,_,r3,o,n,zz,C,U]
 have D:∃f:ϊ<|ό×ϋ×Key×ϋ,f.map (λw=>Value.ref w.1)=d.map (λz=>Value.ref z.1)/\f.map (·.2.2.1)=d.map (λz=>(Sum.inr z.2.1:Key))/\KV (d.map λz=>((Sum.inr z.2.1:Key),z.2.2)) (f.map λw=>(w.2.2.1,w.2.2.2))/\∀w∈f,gM w.2.2.1 w.2.1=true/\∃o n,s.heap.get? w.1=!o/\o.cls=.type "tuple"/\o.data=.seq ([w.2.1,w.2.2.2].toArray) n:=by clear ha k Y q c L;induction d with|nil=>show#[[],Z,Z,.nil,by simp]|cons z d ih=>
   let#[f,p,x,A,B]:=ih λy my=>K y<|Ê _ my;let#[t,v,G,o,n,N,O,P]:=K z Ì;show#[(z.1,.str z.2.1 t,Sum.inr z.2.1,v)::f,by rw[Ç,Ç,p],by rw[Ç,Ç,x],.cons #[Z,G] A,λw mw=>?_];rcases Å.mp mw with rfl|mw;.show #[qZ _ _,o,n,N,O,P]
   .show B w mw
 let#[f,p,x,A,B]:=D;rw[<-p]at c;have E:↑f=↑d:=by have:=Ö List.length p;rw[Qb,Qb]at this;show this
 show Sy.oF (knd:=bI X.prog X.w) S (I.ok.hd C) i g j c B (by rw[x,show(d.map λz=>(Sum.inr z.2.1:Key))=(d.map (·.2.1)).map Sum.inr by rw[Ä];rfl];show ę.mpr<|İ (λ{a b} h e=>h<|Ĥ e) k) (by rw[E,ü];rfl') λh' tk R W=>?_;show#[↥_,_,I.laid (t':=tk) (o:=.dK<|d.map λz=>((Sum.inr z.2.1:Key),z.2.2)) W (Ã _)<|show ObjOk X.prog X.w _ _ _ (.dK _)from#[by rw[Qb,ü];rfl',?_,_,A,R],Z,q _<|I.hok.fresh<|Ã _];show ŏ.mpr<|ė I.big
def jf{X:Cx}(K:Ϗ)(a:X.K=K)(b:X.calm=true):bV X (.type "dict") (je K):=a▸wI b
structure Drw(prog:ϓ)(w:ϕ)(i l:ό)(xs:ϔ ϋ)(St:Nat->ϒ->Prop):Prop where
 keep:∀k h h',St k h->(∀c,c=i\/c=l->∀o,h.get? c=!o->h'.get? c=!o)->St k h'
 item:∀(A:ϖ)(s:ώ) k x (Q:϶) (E:϶),St k s.heap->xs[k]?=!x->(∀h',St (k+1) h'->Heap.SameBut i s.heap h'->Q x {s with heap:=h'})->∅ (Builtin.SmallTypes.nextOf<|.ref i) Q E s
 stop:∀(A:ϖ)(s:ώ) k (Q:϶) (E:϶),A.handled=none->St k s.heap->xs[k]?=none->(∀h' e,Heap.ExtBut i s.heap h'->(∃o,h'.get? e=!o/\o.cls=.type "StopIteration")->E ↥e {s with heap:=h'})->∅ (Builtin.SmallTypes.nextOf<|.ref i) Q E s
theorem Drw.but{l b:ό}{m:ϔ ϋ}{St:Nat->ϒ->Prop}(D:Drw prog w i l m St){k:Nat}{h a:ϒ}(j:St k h)(e:Heap.ExtBut b h a)(f:i≠b)(g:l≠b):St k a:=D.keep k h a j λc d o q=>e c o (by rcases d with rfl|rfl;show f;show g) q
theorem Ha(d:l≠i):Drw prog w i l m λk h=>h.IsListIter i l k/\h.IsList l m where
 keep:=λk h g c j=>#[c.1.at λo e=>j i (.inl Z) o e,c.2.at λo e=>j l (.inr Z) o e]
 item:=λA s k x Q E c f p=>wpAny_nextOf_list_item c.1 c.2 f λg a b=>p g #[a,c.2.extBut b.extBut d] b
 stop:=λA s k Q E q c f n=>wpAny_nextOf_list_end q c.1 c.2 f n
theorem Px(p:l≠i):Drw prog w i l y λk h=>h.IsTupleIter i l k/\h.IsTuple l y where
 keep:=λk h H j v=>#[j.1.at λo e=>v i (.inl Z) o e,by let#[o,e,q]:=j.2;show#[o,v l (.inr Z) o e,q]]
 item:=λA s k x Q E j r C=>by let#[b,n]:=j;let#[o,d,t,c]:=id b;let#[G,g,_,D,f]:=id n;unfold Builtin.SmallTypes.nextOf;show Qr<|wpAny_callSpecial?_slot (name:=Str.ofString "__next__") b.typeIs Ř<|î Ř b.typeIs F.entry_tuple_iterator_next ?_<|F.args_tuple_iterator_next_1 _;show Qr (m:=field ↥i 0)<|ĥ d c (x:=↥l) Z ?_;change wpAny _ _ (if(Value.ref l==Value.none)=true then _ else _) _ _ s;rw[γ (by intro z;cases z)];show Qr (m:=field ↥i 1)<|ĥ d c (x:=.int k 0) Z ?_;show Qr (m:=seqItems?<|.ref l)<|ě g f ?_;simp only[Ó,r];show Qr (ĩ d c (by simp)<|Wp #[x,Z,Wp<|C _ #[?_,n.extBut (è ..).extBut p]<|è ..]);show#[_,ñ _ d<|Ĺ<|ú c _,(Β ..).trans t,by rw[ú c];simp[rawInt]]
 stop:=λA s k Q E u j r B=>by
  let#[b,n]:=j;let#[o,d,t,c]:=id b;let#[G,g,_,D,f]:=id n;unfold Builtin.SmallTypes.nextOf;show Qr<|wpAny_callSpecial?_slot (name:=Str.ofString "__next__") b.typeIs Ř<|î Ř b.typeIs F.entry_tuple_iterator_next ?_<|F.args_tuple_iterator_next_1 _;show Qr (m:=field ↥i 0)<|ĥ d c (x:=↥l) Z ?_;change wpAny _ _ (if(Value.ref l==Value.none)=true then _ else _) _ _ s;rw[γ (by intro z;cases z)];show Qr (m:=field ↥i 1)<|ĥ d c (x:=.int k 0) Z ?_;show Qr (m:=seqItems?<|.ref l)<|ě g f ?_;simp only[Ó,r];show Qr (į (Qr (ĩ d c (by simp) ?_)));show Qr (m:=newExc (.type "StopIteration") []) ?_;simp only[newExc,newTuple];show Qr (ó ?_ (by size_fits));show Qr (m:=firstArgMember _ _) (wpAny_of_eq (a:=Value.none) (by first|rfl|(simp only[firstArgMember];rfl)) ?_);show ó ?_ (by size_fits);simp only[raiseNew];show Qr<|wpAny_handled ?_
  first| rw[show A.in1.handled=none from u]| rw[u]
  show Qr<|Wp<|wpAny_throw<|B _ _ (((è ..).extBut.push _).push _) #[_,È _ Z,Z]
section
variable{prog:ϓ}{w:ϕ}{A:ϖ}{E:϶}{s:ώ}{z TI TO i1 i2 l1 l2:ό}{k:Nat}{xs ys:ϔ ϋ}{S1 S2:Nat->ϒ->Prop}
theorem sS{a b:ϋ}(hh:A.handled=none)(D:ZipApart z TI TO i1 i2 l1 l2)(t:Drw prog w i1 l1 xs S1)(l:Drw prog w i2 l2 ys S2)(C:IsZip s.heap z TI TO .none) (W:IsPair s.heap TI ↥i1<|.ref i2) (X:IsPair s.heap TO a b) (h1:S1 k s.heap) (h2:S2 k s.heap)(hQ:∀x y,xs[k]?=!x->ys[k]?=!y->∀h',IsZip h' z TI TO (rawInt ⇑s)->IsPair h' TO x y->S1 (k+1) h'->S2 (k+1) h'->IsPair h' ⇑s x y->(∀c o,c≠z->c≠TO->c≠i1->c≠i2->s.heap.get? c=!o->h'.get? c=!o)->Q (!↥⇑s) {s with heap:=h'})(h0:xs[k]?=none\/ys[k]?=none->∀h',(∀c o,c≠z->c≠TO->c≠i1->c≠i2->s.heap.get? c=!o->h'.get? c=!o)->Q none {s with heap:=h'}):∅ (pyNext<|.ref z) Q E s:=by
 have hT:s.TypeIs ↥z "zip":=#[_,C,Z];have fin:∀h' e,(∀c o,c≠z->c≠TO->c≠i1->c≠i2->s.heap.get? c=!o->h'.get? c=!o)->(xs[k]?=none\/ys[k]?=none)->(∃o,h'.get? e=!o/\o.cls=.type "StopIteration")->∅ (do if <-isInstance ↥e (.type "StopIteration")then pure none else throw ↥e:Sem<|ύ ϋ) Q E {s with heap:=h'}:=λh' e kk hn I=>by let#[o,ho,H]:=I;show Qr<|ĭ (T:="StopIteration") (b:=true) #[o,ho,H] isSubtype_stop<|Wp<|h0 hn _ kk
 unfold pyNext;show Qr<|wpAny_attempt<|wpAny_callSpecial?_slot (name:=Str.ofString "__next__") hT F.slot_zip_next<|î F.slot_zip_next hT F.entry_zip_next ?_<|F.args_zip_next_1 _;show Qr (m:=field ↥z 2)<|ĥ C Z (x:=.bool false) Z ?_;show Qr (m:=field ↥z 3)<|ĥ C Z (x:=↥TI) Z ?_;show Qr<|ě W Z ?_;show Qr (m:=Builtin.SmallTypes.ownedTupleIsFree<|.ref z) ?_;unfold Builtin.SmallTypes.ownedTupleIsFree;show Qr<|ĥ C Z (x:=.none) Z<|Wp ?_;simp-iota only[Ń];show Qr<|į ?_;show Qr<|ĥ C Z (x:=↥TO) Z ?_;show Qr<|ē C (by simp) λg1 L B=>?_;show Qr ?_;simp-iota only[List.zipIdx_cons,List.zipIdx_nil,Ą,ū];show Qr<|Qr<|wpAny_onRaise ?_;replace L:IsZip g1 z TI TO .ellipsis:=L;have r1:S1 k g1:=t.but h1 B.extBut D.i1z D.l1z;cases hx:xs[k]?with
 |none=>
  show Qr (m:=Builtin.SmallTypes.nextOf<|.ref i1)<|t.stop _ _ k _ _ hh r1 hx λM e j I=>?_;let#[zz,f,g]:=I;have y2:IsZip M z TI TO .ellipsis:=j _ _ D.i1z.symm L;have u:e≠z:=λq=>by subst q;rw[y2]at f;cases f;simp at g
  show ē y2 (by simp) λS _ h=>fin S e (λc o i _ v _ q=>h.extBut _ _ i<|j _ _ v<|B.extBut _ _ i q) (.inl hx) #[zz,h.extBut _ _ u f,g]|some x=>
  show Qr (m:=Builtin.SmallTypes.nextOf<|.ref i1)<|t.item _ _ k x _ _ r1 hx λM r2 j=>Wp ?_;have o2:IsPair M TO a b:=j.extBut _ _ D.TOi1<|B.extBut _ _ D.TOz X;have q2:S2 k M:=l.but (l.but h2 B.extBut D.i2z D.l2z) j.extBut D.i12.symm D.l2i1;show Qr<|ě o2 Z ?_;show Qr<|wpAny_updateSeq_pair o2 λS Y h=>?_;replace Y:IsPair S TO x b:=Y;show Qr<|ů<|Wp ?_;show Qr<|Qr<|wpAny_onRaise ?_;cases hy:ys[k]?with
  |none=>
   show Qr (m:=Builtin.SmallTypes.nextOf<|.ref i2)<|l.stop _ _ k _ _ hh (l.but q2 h.extBut D.TOi2.symm D.l2TO) hy λU e p I=>?_;let#[zz,f,g]:=I;have y4:IsZip U z TI TO .ellipsis:=p _ _ D.i2z.symm<|h.extBut _ _ D.TOz.symm<|j.extBut _ _ D.i1z.symm L;have u:e≠z:=λq=>by subst q;rw[y4]at f;cases f;simp at g
   show ē y4 (by simp) λd _ r=>fin d e (λc o i G v K q=>r.extBut _ _ i<|p _ _ K<|h.extBut _ _ G<|j.extBut _ _ v<|B.extBut _ _ i q) (.inr hy) #[zz,r.extBut _ _ u f,g]|some y=>
   show Qr (m:=Builtin.SmallTypes.nextOf<|.ref i2)<|l.item _ _ k y _ _ (l.but q2 h.extBut D.TOi2.symm D.l2TO) hy λU r4 p=>Wp ?_;have o4:IsPair U TO x b:=p.extBut _ _ D.TOi2 Y;show Qr<|ě o4 Z ?_;show Qr<|wpAny_updateSeq_pair o4 λd O r=>?_;replace O:IsPair d TO x y:=O;show Qr<|ů<|Wp<|Wp ?_;show Qr<|ě O Z ?_;show Qr<|wpAny_newTuple ?_;have sz:d.objs.size=⇑s:=by rw[r.1,p.1,h.1,j.1,B.1]
   have y5:IsZip d z TI TO .ellipsis:=r.extBut _ _ D.TOz.symm<|p.extBut _ _ D.i2z.symm<|h.extBut _ _ D.TOz.symm<|j.extBut _ _ D.i1z.symm L;have c5:∀c o,c≠z->c≠TO->c≠i1->c≠i2->s.heap.get? c=!o->d.get? c=!o:=λc o i G v K e=>r.extBut _ _ G<|p.extBut _ _ K<|h.extBut _ _ G<|j.extBut _ _ v<|B.extBut _ _ i e;have r5:S1 (k+1) d:=t.but (t.but (t.but r2 h.extBut D.TOi1.symm D.l1TO) p.extBut D.i12 D.l1i2) r.extBut D.TOi1.symm D.l1TO;have p5:S2 (k+1) d:=l.but r4 r.extBut D.TOi2.symm D.l2TO;have J:z<d.objs.size:=Ë y5;show Qr (m:=Builtin.SmallTypes.ownedTupleHandOut ↥z<|.ref d.objs.size) ?_;unfold Builtin.SmallTypes.ownedTupleHandOut;show Qr<|ē (show IsZip (d.push {cls:=.type "tuple",data:=.seq<|[x,y].toArray}) z TI TO .ellipsis from Jn _ y5) (by simp) λg7 y7 t7=>?_;replace y7:IsZip g7 z TI TO (rawInt d.objs.size):=y7;show ē y7 (by simp) λN R t8=>?_;replace R:IsZip N z TI TO (rawInt d.objs.size):=R;have P:∀c o,c≠z->d.get? c=!o->N.get? c=!o:=λc o n e=>t8.extBut _ _ n<|t7.extBut _ _ n<|Jn _ e;have w8:IsPair N d.objs.size x y:=t8.extBut _ _ (ė J)<|t7.extBut _ _ (ė J)<|È _ Z;rw[sz]at R w8;show Wp #[_,Z,Wp ?_];change Q (!↥d.objs.size) _;rw[sz];show hQ x y hx hy N R (P _ _ D.TOz O) (t.keep _ _ _ r5 λc H o e=>P c o (by rcases H with rfl|rfl;show D.i1z;show D.l1z) e) (l.keep _ _ _ p5 λc H o e=>P c o (by rcases H with rfl|rfl;show D.i2z;show D.l2z) e) w8 λc o i G v K e=>P c o i<|c5 c o i G v K e
end
noncomputable abbrev zo1(h:ϒ)(j1:Obj):ϒ:=h.push j1
abbrev zo2(h:ϒ)(j1 j2:Obj):ϒ:=(zo1 h j1).push j2
abbrev zo3(h:ϒ)(j1 j2:Obj):ϒ:=(zo2 h j1 j2).push {cls:=.type "tuple",data:=.seq<|[↥h.objs.size,↥(zo1 h j1).objs.size].toArray}
abbrev zo4(h:ϒ)(j1 j2:Obj):ϒ:=(zo3 h j1 j2).push {cls:=.type "tuple",data:=.seq<|[.none,.none].toArray}
abbrev XM(h:ϒ)(j1 j2:Obj):ϒ:=(zo4 h j1 j2).push {cls:=.type "zip",data:=.fields<|[.none,.bool false,.bool false,↥(zo2 h j1 j2).objs.size,↥(zo3 h j1 j2).objs.size].toArray}
noncomputable abbrev wJ(l:ό):Obj:={cls:=.type "tuple_iterator",data:=.fields<|[↥l,.int 0 0].toArray}
theorem mY{h:ϒ}{a c:ό}{o d:Obj}(e:h.get? a=!o)(b:h.get? c=!d)(n:o.cls≠d.cls):a≠c:=λq=>by subst q;rw[e]at b;cases b;show n Z
noncomputable def Py(lo:Int)(n:Nat):It:=#[λi _=>i<n,λi H x H'=>H'=H/\x=.int (lo-i),λi _=>n<=i]
theorem wK{P:ϓ}{K:Ϗ}(c:ό)(lo:Int)(n:Nat):Turn P w K tg (Py lo n) [c] c (λi h=>IsRangeIter h c (lo+(i:Nat)*(-1)) ((n:Int)-(i:Nat))<|-1)where
 mem:=by simp
 obj:=λi h a b f=>by
  have e:b=c:=by simpa using f
  subst e;show⟨_,a,λv z=>by
   have O:Data.fields _=Data.cell v:=z;cases O⟩
 keep:=λi h j a k=>k c (by simp) _ a
 item:=by
  intro X y C x A i d s F H E I l a B;subst y C x;let#[m,p,L,q,r,u]:=l c (by simp);have W:=Walks.range (prog:=X.prog) (w:=X.w) (I.ok.hd A) c lo (-1) n;show W.item i s _ _ B a λv j D M g N=>?_;let#[t,rfl]:=M;have G:Inv X d F H {s with heap:=j,toks:=D}:=I.turned (λb o f e=>N b o (by simpa using f) e) m p q r u;show⟨_,Z,rA (s:={s with heap:=j,toks:=D}) (n:="range_iterator") g Z Z (by decide) ⟨.int<|lo-i,H,G,⟨t,?_⟩,⟨Z,Z⟩,g,λb f=>(l b f).1⟩⟩;rw[show lo+(i:Int)*(-1)=lo-(i:Int)by rfl']
 done:=by intro X y C x A i d s F H E I l a B;subst y C x;let#[m,p,L,q,r,u]:=l c (by simp);show wpAny_pyNext_range_end (I.ok.hd A) a (by have:n<=i:=B;rfl') λj J=>#[Z,I.turned (t':=s.toks) (λb o f e=>J b o f e) m p q r u]
 self:=λ_ _ _ _ _ a h=>wpAny_pyIter_rangeiter a h
theorem lU(a b:Int):Builtin.Range.rangeSize a b (-1)=if a>b then a-b else 0:=by unfold Builtin.Range.rangeSize;simp-iota only[show¬((-1:Int)>0)by decide,ċ,Int.neg_neg,Int.ediv_one];split<;>rfl'
theorem Hb{a b:Int}(e:-(2^62)<=a)(c:a<2^62)(f:-(2^62)<=b)(d:b<2^62):Builtin.Range.small a b (-1)=true:=by unfold Builtin.Range.small;rw[lU];simp-iota only[Builtin.Range.rangeFitsLong,Ă,Bool.or_eq_true,decide_eq_true_eq,beq_iff_eq,show¬((-1:Int)>0)by decide,ċ];split<;>rfl'
abbrev RC(ta:TA):TI:=λσ H R=>ta σ H λvs H1=>∃i j:Int,vs=[.int i,.int j,.int<|-1]/\(-(2^62)<=i/\i<2^62/\-(2^62)<=j/\j<2^62)/\R (Py i (i-j).toNat) H1
theorem DQ{X:Cx}{lo a:Int}{d:Nat}(I:Inv X gE f H s)(i:-(2^62)<=lo)(j:lo<2^62)(k:-(2^62)<=a)(l:a<2^62)(q:R (Py lo (lo-a).toNat) H):wpAny (model X.prog X.w) X.A (pyIter<|.ref ⇑s) (PIE X gE f tg R) E {s with heap:=s.heap.push {cls:=.type "range",data:=.fields<|[.int lo t,.int a u,.int (-1) v].toArray},toks:=d}:=by
 show wpAny_pyIter_range (IsRange.new ..) (Hb i j k l) ?_;have c:Inv X gE f H {s with heap:=s.heap.push {cls:=.type "range",data:=.fields<|[.int lo t,.int a u,.int (-1) v].toArray},toks:=d}:=I.kept λb o e=>Jn _ e;show⟨(s.heap.push {cls:=.type "range",data:=.fields<|[.int lo t,.int a u,.int (-1) v].toArray}).objs.size,[(s.heap.push {cls:=.type "range",data:=.fields<|[.int lo t,.int a u,.int (-1) v].toArray}).objs.size],_,_,H,Z,c.kept (t':=d) λb o e=>Jn _ e,wK _ lo (lo-a).toNat,?_,λb m=>?_,q⟩
 .have g:lo+((0:Nat):Int)*(-1)=lo:=by simp
  have h:(((lo-a).toNat:Nat):Int)-((0:Nat):Int)=Builtin.Range.rangeSize lo a (-1):=by rw[lU];split<;>rfl'
  change IsRangeIter _ _ (lo+((0:Nat):Int)*(-1)) ((((lo-a).toNat:Nat):Int)-((0:Nat):Int))<|-1;rw[g,h];show È _ Z
 .have e:b=(s.heap.push {cls:=.type "range",data:=.fields<|[.int lo t,.int a u,.int (-1) v].toArray}).objs.size:=by simpa using m
  subst e;show c.fpOk (Ã _)<|c.hok.fresh<|Ã _
theorem DR{X:Cx}{a b c:Expr}(o:Gl X "range")(u:X.mg "range"=none)(n:PA X [a,b,c] l)(v:starEach [a,b,c] X.env=[(false,eval a X.env),(false,eval b X.env),(false,eval c X.env)]:=by rfl)(d:starEach [b,c] X.env=[(false,eval b X.env),(false,eval c X.env)]:=by rfl):PI X tg (.Call (.Name "range" p) [a,b,c] [] g) (RC l):=by
 intro f s B H R I h;show Call_ (fW I o u boot_range<|Ċ (bH (n g f s B H _ I h) λF D ⟨G,C,m,z,k⟩=>?_) (by rw[v,d])<|by rw[d];rfl);let#[i,j,e,#[k,w,x,y],q]:=k;subst e;cases z with
 |cons r rr=>cases rr with|cons r' rr=>cases rr with|cons r'' rr=>cases rr;let#[t,rfl]:=r;let#[E,rfl]:=r';let#[A,rfl]:=r'';show call_range_3 (by decide) (DQ m k w x y q) (.inl<|PyProof.noPylong_small<|by decide)
end L2
namespace L2
open PySem
abbrev Hd:ϊ V->Hp->VK->Prop:=λxs H Q=>(∃i,xs=[.int i]/\Q (.int i) H)\/∃k,xs=[.bl k]/\Q (.int<|if k then 1 else 0) H
end L2
end
section
namespace L2
open PySem PySem.Spec PyProof.Rows
variable{w:ϕ}{s1:ώ}{R:Obj->Hp->Prop}{gE:Ϸ}
section
theorem pairs_at{a:PySem.KeyKind P w Key}(i:Nat)(e:DictEntry)(p:Pairs a b c)(h:b[i]?=!e):∃u,c[i]?=!u/\a.is u.1 e.key=true:=by induction p generalizing i with
 |nil=>cases h|cons r _ _ ih=>cases i with
  |zero=>cases h;show#[_,Z,r]|succ i=>show ih i h
theorem pairs_len{a:PySem.KeyKind P w Key}(p:Pairs a b c):↑b=↑c:=by induction p with
 |nil=>rfl|cons _ _ _ ih=>show Ö (· +1) ih
end
theorem PB(h:gM k v=true):RelV (kV k) v:=by
 rcases bC h with⟨i,t,rfl,rfl⟩|⟨x,t,rfl,rfl⟩;.show #[t,Z]
 .show #[t,Z]
noncomputable def yW{α:Type}(c:α->V)(od:Obj)(D:HO)(a:ό)(zs:ϊ α):It where
 go:=λi H=>H a=!(.frz od D)/\i<↑zs
 yld:=λi H v H'=>H'=H/\∃p,zs[i]?=!p/\v=c p
 stop:=λi H=>H a=!(.frz od D)/\↑zs<=i
abbrev iKG{α:Type}(c:α->V)(O:ό->ϊ α->HO)(tl:TE):TI:=λσ H R=>tl σ H λx H1=>∃a zs,x=↥a/\((H1 a=!(O a zs)/\∀od,R (yW c od (O a zs) a zs)<|upd H1 a<|.frz od<|O a zs)\/∃od,H1 a=!(.frz od<|O a zs)/\R (yW c od (O a zs) a zs) H1)
def Yl(P:ϓ)(w:ϕ){α:Type}(c:α->V)(O:ό->ϊ α->HO):Prop:=∀H h a zs,ObjOk P w H h a (O a zs)->Fz (O a zs)/\∃o es ep,h.get? a=!o/\o.ExactDict/\(a==sysModules)=false/\o.data=.dict es ep/\es.size=↑zs/\∀(i:Nat) p,zs[i]?=!p->∃e,es[i]?=!e/\RelV (c p) e.key
theorem yX{P:ϓ}{K:Ϗ}{α:Type}{c:α->V}{O:ό->ϊ α->HO}(ky:Yl P w c O)(m a:ό){B:Obj}{C:ϊ α}{es:ϔ DictEntry}{ep:Nat}(f:B.data=.dict es ep):Turn P w K tg (yW c B (O a C) a C) [m] m (λi h=>h.IsKeyIter m a i es.size ep)where
 mem:=by simp
 obj:=λi h l b j=>by let#[o,e,c,d]:=l;rw[Zs.mp j];show#[o,e,λv z=>by rw[d]at z;cases z]
 keep:=λi h x ⟨o,e,r⟩ k=>#[o,k m (by simp) o e,r]
 item:=by
  intro X S hw R T i g s σ H E I y l Y;subst S hw R;let#[D,A]:=Y;let#[t,ok]:=(show ObjOk X.prog X.w H s.heap a (.frz B<|O a C)from I.hok a _ D);let#[_,o,G,F,p,_,_,q,zz,hv]:=ky _ _ _ _ ok;rw[t]at p;cases p;rw[f]at q;cases q;let#[J,L,f2,M,N,Q]:=y m (by simp);show lQ (I.ok.hd T) l t f (λhs x u hs=>?_) λn=>μ A ();have I1:Inv X g σ H {s with heap:=x,toks:=s.toks}:=I.turned (λb o j e=>hs.extBut b o j e) J L M N Q;let#[o,e,U,d]:=id u;let#[e',h1,h2]:=hv i _<|Zl A;rw[ë ()]at h1;cases h1;show⟨_,Z,rA (s:={s with heap:=x}) e U d (by decide) ⟨_,H,I1,h2,⟨Z,_,Zl A,Z⟩,u,λb j=>(y b j).1⟩⟩
 done:=by
  intro X S hw R T i g s σ H E I y l Y;subst S hw R;let#[D,A]:=Y;let#[t,ok]:=(show ObjOk X.prog X.w H s.heap a (.frz B<|O a C)from I.hok a _ D);let#[_,o,G,F,p,_,_,q,zz,hv]:=ky _ _ _ _ ok;rw[t]at p;cases p;rw[f]at q;cases q;let#[J,L,f2,M,N,Q]:=y m (by simp);show lQ (I.ok.hd T) l t f (λn=>μ n ()) λ_ x kk=>#[Z,I.turned (t':=s.toks) (λb o j e=>kk b o j e) J L M N Q]
 self:=λ_ _ _ _ _ l h=>wpAny_pyIter_keyiter l h
theorem Hf{X:Cx}{m:St}{b:Hp}{j:Type}{c:j->V}{O:ό->ϊ j->HO}{a:ό}{e:ϊ j}(l:Yl X.prog X.w c O)(f:Inv X gE m b s1)
  (q:(b a=!(O a e)/\∀od,R od<|upd b a<|.frz od<|O a e)\/∃od,b a=!(.frz od<|O a e)/\R od b):∃od H2 es ep,Inv X gE m H2 s1/\H2 a=!(.frz od<|O a e)/\R od H2/\s1.heap.get? a=!od/\od.ExactDict/\(a==sysModules)=false/\od.data=.dict es ep:=by
 rcases q with⟨ea,q⟩|⟨od,ea,q⟩;.obtain ⟨n,o,es,ep,d,h,i,g,_⟩:=l _ _ _ _<|f.hok a _ ea;show#[o,_,es,ep,f.freeze ea d n,aj,q o,d,h,i,g]
 .obtain ⟨k,p⟩:=(show ObjOk X.prog X.w b s1.heap a (.frz od<|O a e)from f.hok a _ ea);let#[_,o,es,ep,d,h,i,g,_]:=l _ _ _ _ p;rw[k]at d;cases d;show#[_,_,es,ep,f,ea,q,k,h,i,g]
theorem wL{X:Cx}{t:Type}{c:t->V}{O:ό->ϊ t->HO}(p:Yl X.prog X.w c O)(z:PE X l tl):PI X tg l (iKG c O tl):=by
 intro d s C H R I h;show bH (z d s C H _ I h) λv j ob=>?_;let#[x,D,u,B,A]:=ob;let#[a,r,rfl,q]:=A;cases B;let#[i,k,G,F,f,E,q,n,w,g,m]:=Hf (R:=λi k=>R (yW c i (O a r) a r) k) p u q;show pQ g #[i,n,w.1] n m ?_;show#[⇑j,[⇑j],_,_,_,Z,f.kept (t':=j.toks) λb o e=>Jn _ e,yX p _ a m,#[_,È _ Z,Z,Z],λb y=>?_,q];rw[Zs.mp y];show f.fpOk (Ã _)<|f.hok.fresh<|Ã _
abbrev pX:=iKG (λp:Key×V=>kV p.1) λ_ kvs=>.dK kvs
theorem V1:Yl P w (λp:Key×V=>kV p.1) λ_ kvs=>.dK kvs:=by
 rintro H h a kvs ⟨_,e,l,b,o,c,q,m,r,n,_,f,_⟩;have v:c.size=↑l:=by rw[<-á];show pairs_len f
 have C:↑kvs=↑l:=ħ b;show#[trivial,o,c,q,m,r,e,n,(),λi p d=>?_];have s:i<↑kvs:=(À.mp d).1;let#[#[k,x],#[A,y],t,z,B,_]:=iM i b s;rw[t]at d;cases d;let#[u,g,j]:=pairs_at i (c[i]'(by rfl')) f (by rw[ö,ë]);rw[z]at g;cases g;rw[kZ]at j;show#[_,ë (),by rw[show k=A from B];show PB j]
def lV{X:Cx}(a:PE X l tl):PI X tg l (pX tl):=wL V1 a
end L2
end
section
namespace PySem
open Sem (wp)
open AutoSeq1 (wpAny_loadPart')
noncomputable abbrev wM(i:Int)(t:Tok):ϊ (ϐ×ϋ):=[(Str.ofString "start",.int i t)]
end PySem
namespace L2
open PySem PySem.Spec PyProof.Rows
theorem yZ{P:ϓ}{d:ό}{n:Nat}{St:Nat->ϒ->Prop}(D:Draws P w A d fp n Pv St)(o:Nat):Draws P w A d fp (n+o) (λi=>Pv<|i-o) (λi h=>o<=i/\St (i-o) h)where
 live:=λi h a=>D.live _ h a.2
 frame:=λi h b a g=>#[a.1,D.frame _ h b a.2 g]
 item:=λi s Q E l a f=>D.item (i-o) s Q E () a.2 λx b k p c j=>f x b k p #[(),by rw[show i+1-o=i-o+1 by rfl'];show c] j
 done:=λs Q E a e=>D.done s Q E (by have:=a.2;rwa[Ų]at this) e
def PJ{e:Expr}
  (h:wpAny M A (spliced (backTo c (starEach [e] b))) (λvs s1=>wpAny M A (evalAll ((backToKw c (keywordEach kws b)).map (·.2))) (λks g=>wpAny M A (call (.type T) vs (((backToKw c (keywordEach kws b)).filterMap (·.1)).zip ks)) Q E g) E s1) E s)
  (k:backTo c (starEach [e] b)=(false,eval e b)::backTo c (starEach [] b)) (l:(backTo c (starEach [e] b)).any (·.1)=false)
  (d:(backToKw c (keywordEach kws b)).all (·.1.isSome)=true) (f:(backToKw c (keywordEach kws b)).any (·.1.isNone)=false):
  wpAny M A (callWith c (.type T) [] (backTo c (starEach [e] b)) (backToKw c (keywordEach kws b))) Q E s:=by
 have j:wpAny M A (evalArgs (.type T) true (backTo c (starEach [e] b)) (backToKw c (keywordEach kws b))) (λa s1=>wpAny M A (call (.type T) ([]++a.pos) a.kw) Q E s1) E s:=by rw[k]at h⊢;show evalArgs_kwB d h
 unfold callWith;show Qr (õ (bH j λa s1 i=>Qr (wpAny_standAt ?_)));simp-iota only[l,f,Bool.or_false];show Qr (Wp (Qr (bH i λr g m=>Qr (õ (wpAny_point (Wp m))))))
end L2
end
section
namespace HT
open PySem PySem.Spec PyProof.Rows
def km{s:ώ}{t e:ό}{g i:ϋ}{lo:ύ Int}(a:IsTup s.heap t items)(f:s.heap.IsSliceOf e g i .none)(o:IsPart g lo)(p:IsPart i hi)(j:fc items.size 0 lo=0) (k:fc items.size items.size hi=items.size) (h:Q ↥t s):∅ (getItem ↥t<|.ref e) Q E s:=by
 let#[n,d,c,m]:=id f;have b:s.TypeIs ↥e "slice":=#[n,d,c];unfold getItem;try with_reducible show õ ?_
 first|show Qr (Wp ?_)|skip
 show Qr<|wpAny_sequenceKey a.typeIs (by decide) ?_;show Qr<|wpAny_callSpecial?_slot (name:=Str.ofString "__getitem__") a.typeIs ķ<|î ķ a.typeIs entry_tuple_getitem ?_<|args_tuple_getitem _ _;change wpAny _ _ (Builtin.Tuple.tupleItemsOf ↥t>>=_) _ _ s;show Qr<|tupleItemsOf_ a<|Qr<|ű b ?_;rw[β<|by decide];show Qr<|iD f o p ?_;change wpAny _ _ (if(((fc items.size 0 lo:Nat):Int)==0&&(1:Int)==1&&(fc items.size items.size hi-fc items.size 0 lo)==items.size)=true then _ else _) _ _ s;rw[β<|by rw[j,k];simp];have l:s.TypeIs ↥t "tuple":=a.typeIs;show Qr ?_;unfold Builtin.Tuple.tupleIsExact;show Qr<|ű l<|Wp ?_;rw[β<|by decide];show Qr<|į<|Wp #[_,Z,Wp h]
end HT
namespace L2
open PySem PySem.Spec PyProof.Rows
variable{n:Nat}{st:Stmt}{T f:ό}{qual x:ϐ}{ds:ϊ ϋ}
def wN(K:Ϗ):V->ύ Int->ύ Int->Hp->VK->Prop:=λx lo hi H Q=>∃a xs,x=↥a/\SqT K H a xs/\∀p H',(p=a/\H'=H/\iG xs lo hi=xs\/H p=none/\H'=upd H p (.tup (iG xs lo hi)))->SqT K H' p (iG xs lo hi)->Q ↥p H'
theorem PL{X:Cx}:Uj X (wN X.K):=by
 intro f s z H x v w y lo g u Q I o k m n h;let#[a,d,rfl,i,q]:=h;by_cases c:HT.fc ↑d 0 lo=0/\HT.fc ↑d ↑d g=↑d
 .cases o;let#[j,r,l,A]:=I.tuple i;have b:j.toArray.size=↑d:=by rw[Ù];show r.length.symm
  show#["tuple",_,PyProof.Rows.slot_tuple_getitem.lookup,l.typeIs,?_];have e:iG d lo g=d:=by unfold iG;rw[c.1,c.2,ω,Ν,à]
  show HT.km l k m n (by rw[b];show c.1) (by rw[b];show c.2) #[↥a,H,I,Z,q a H (.inl #[Z,Z,e]) ?_];rw[e];show i
 .show Uk f s z H ↥a v w y lo g u Q I o k m n #[a,d,Z,i,c,λp t=>q p _ (.inr #[t,Z])<|gL aj]
def lW{X:Cx}(K:Ϗ)(a:X.K=K):Uj X (wN K):=a▸PL
structure FunD(K:Ϗ)(x qual:ϐ)(st:Stmt)(f:ό)(fd:FuncData)(T:ό)(ds:ϊ ϋ):Prop where
 ex:∃(oc:ϋ)(od:ύ ό)(kV doc pm:ϋ)(an:ύ ό)(cdv ct:ϋ)(osl:ϔ<|ύ ϋ),fd=W.fnOf x qual (dR st) (dh st) (aY st) ↥T kV doc pm an cdv ct/\K.lookup f=!#[oc,od,.func fd,osl]/\W.codeIn K cdv qual=true
 kp:W.keepIn K ↥f=true
 tp:∃(o:Obj)(n:Nat),K.lookup T=!o/\o.data=.seq ds.toArray n
section
variable{K:Ϗ}
theorem FunD.ok{N e:ϊ ϐ}{k:Nat}{g:Sp}(F:FunD K x qual st f fd T ds)(S:FnScope N e<|aY st)(d:∀vs H Q E,g vs H Q E->↑vs=↑e)(l:∀(a:ϋ)(A:ϖ)(outer:ϊ Env)(s:ώ)(H:Hp)(vs:ϊ V)(Q:VK)(E:XK),Room k (A.deeper<|envOfC qual (aY st) ⇑s f a)->g vs H Q E->∃t,PSs (yE Gh P w K mg base N qual (aY st) f a A outer s H E).nox (dh st) t/\t {nx:=λ_ H'=>Q .non H',rt:=Q} (start N vs) H):FnOk P w K mg base Gh (k+1) f fd e g:=by
 let#[q,r,kV,h,u,o,a,p,n,rfl,lk,b]:=F.ex;show Rt lk b S d λA outer s H vs Q E m c=>?_;let#[t,i,j]:=l a A outer s H vs Q E m c;show#[t,i.nox,j]
theorem FunD.binds{es:ϊ ϋ}{e:ϊ ϐ}(F:FunD K x qual st f fd T ds)(h:∀(kV b d:ϋ)(an:ύ ό)(a c:ϋ)(us:ϊ ϋ),↑(us++es)=↑e->∃k:ύ (ϔ ϋ)->Sem (ϊ (ϐ×ϋ)),bindArgs (W.fnOf x qual (dR st) (dh st) (aY st) ↥T kV b d an a c) #[us,[]]=seqItems? ↥T>>=k/\k (!ds.toArray)=pure (e.zip (us++es))):Binds K fd e es:=by let#[t,u,kV,b,d,an,a,c,r,rfl,lk,l]:=F.ex;let#[o,n,q,m]:=F.tp;intro s us j p;let#[k,g,i]:=h kV b d an a c us p;show .of_defaults (T:=T) (o:=o) Z (j _ _ q) m g i
def PN{m p:ϋ}{o e i:ύ ό}{d j:ϔ<|ύ ϋ}{kV b h a g:ϋ}(l:K.lookup f=!#[m,o,.func<|W.fnOf x qual (dR st) (dh st) (aY st) ↥T kV b h e a g,d])(c:W.codeIn K a qual=true) (k:W.keepIn K ↥f=true) (t:K.lookup T=!#[p,i,.seq ds.toArray n,j]):FunD K x qual st f (W.fnOf x qual (dR st) (dh st) (aY st) ↥T kV b h e a g) T ds:=#[#[m,o,kV,b,h,e,a,g,d,Z,l,c],k,_,n,t,Z]
end
structure CalD(P:ϓ)(w:ϕ)(K:Ϗ)(mg:ϐ->ύ ϋ)(base:ϒ)(n:Nat)(x:ϐ)(ps:ϊ ϐ)(dvs:ϊ V)(sp:Sp):Prop where ex:∃(f:ό)(fd:FuncData)(ds:ϊ ϋ),FnOk P w K mg base Gh n f fd ps sp/\Binds K fd ps ds/\Vals dvs ds/\W.keepIn K (.ref f)=true/\mg x=!(.ref f)
section
variable{X:Cx}{n k:Nat}
theorem lX(c:CalD X.prog X.w X.K X.mg X.base n x ps dvs sp)(o:Room k X.A)(l:n<=k)(j:Gl X x)(d:PA X (e::es) t)(a:(x==("__debug__":ϐ))=false:=by decide)(i:starEach (e::es) X.env=(false,eval e X.env)::starEach es X.env:=by rfl) (b:(backTo pos<|starEach es X.env).any (·.1)=false:=by rfl):PE X (.Call (.Name x p) (e::es) [] pos) (jn sp dvs E0 t):=by let#[f,s,r,F,g,h,q,m]:=c.ex;show Bb F (o.mono l) j m q g h Rv d a i b
end
def TupK(K:Ϗ)(a:ό)(xs:ϊ V):Prop:=∃(o:Obj)(its:ϔ ϋ)(n:Nat),K.lookup a=!o/\o.cls=.type "tuple"/\o.data=.seq its n/\its.size<=sizeLine/\Vals xs its.toList
theorem RD{K:Ϗ}{a:ό}{b:ύ ό}{i:Int}{t:Tok}(l:K.lookup a=!#[.type "tuple",b,.seq ([.int i t].toArray) n,sl]):TupK K a [.int i]:=#[_,_,_,l,Z,Z,(by decide:1<=sizeLine),.cons #[t,Z] .nil]
end L2
end
section
namespace PySem
open Sem (wp)
open AutoSeq1 (wpAny_loadPart')
noncomputable abbrev PP(h:ϒ)(x:ϐ)(u:Tok):ϒ:=h.push {cls:=.type<|strIterType x,data:=.fields<|[.str x u,.int 0 0].toArray}
abbrev PQ(h:ϒ)(x:ϐ)(u:Tok)(i:Int):ϒ:=(PP h x u).push {cls:=.type "enumerate",data:=.fields<|[.none,.bool false,↥h.objs.size,rawInt i,.none,.none].toArray}
set_option maxHeartbeats 2000000 in
def pY(x:ϐ)(u:Tok)(i:Int)(t:Tok)(e:Builtin.SmallTypes.fitsIndex i=true):
  Meets (Builtin.«enumerate.__new__» #[[.type "enumerate",.str x u],wM i t]) (λ_ R s=>R (.ok<|.ret<|.ref (PP s.heap x u).objs.size) {s with heap:=PQ s.heap x u i}):=
 .of_wp λb w A R ⟨f,g,d,l,j⟩ h=>by
  have a:=sub_enumerate
  wp_walk
  show wpAny_stack_any λk=>Wp ?_
  split
  .rename_i c _ _ _ _ _
   cases(c==Value.type "enumerate")<;>(wp_walk using wpAny_pyIter_strU;show#[_,Z,h])
  .wp_walk using wpAny_pyIter_strU;show#[_,Z,h]
def Hg(x:ϐ)(u:Tok)(i:Int)(t:Tok):checkTypeCall "enumerate" #[[.str x u],wM i t]=pure Unit.unit:=by kernel_rfl
def Hh(x:ϐ)(u:Tok)(i:Int)(t:Tok):checkBuiltinCall "enumerate.__new__" #[[.type "enumerate",.str x u],wM i t]=pure Unit.unit:=by kernel_rfl
def Hi(o:ϋ)(x:ϐ)(u:Tok)(i:Int)(t:Tok):argsOk "object.__init__" #[[o,.str x u],wM i t]:=by unfold argsOk;kernel_rfl
def oG(x:ϐ)(u:Tok)(i:Int)(t:Tok):Meets (Builtin.«object.__init__» #[[self,.str x u],wM i t]) (λ_ R s=>s.TypeIs self "enumerate"/\R (.ok<|.ret .none) s):=by
 have e:=F.called_enumerate.init.lookup;have f:=F.called_enumerate.made;have b:(some "enumerate.__new__" !=!"object.__new__")=true:=by decide
 show Meets.of_wp λa w A R s ob=>?_;let#[d,c]:=ob;repeat(any_goals(first|assumption|wp_step))
 show#[_,Z,c]
section
def oH{x:ϐ}{u:Tok}{i:Int}{t:Tok}(B:Builtin.SmallTypes.fitsIndex i=true)(h:∀h',IsEnum h' (⇑s+1) ⇑s i .none->h'.IsStrIter ⇑s (strIterType x) x u 0->(∀b o,s.heap.get? b=!o->h'.get? b=!o)->Q (.ref<|⇑s+1) {s with heap:=h'}):∅ (call (.type "enumerate") [.str x u]<|wM i t) Q E s:=by
 have a:=F.called_enumerate;let#[c,J,l]:=a.mro;have g:=a.made;have m:=a.sub;show wpAny_call<|codeAny_of_tree ?_;change wpAny _ _ (callAny (.type "enumerate") _) _ _ _;show Wp #[Code.quiet_builtin _<|by ac_nf,ć F.entry_type_call ?_];rw[Around.under_plain (weight_type_call_type "enumerate" [.str x u]<|wM i t)<|units_type_call_type "enumerate" [.str x u]<|wM i t];have G:=a.notType;have H:=a.canCreate;have z:=Hg x u i t;repeat(any_goals(first|assumption|wp_step))
 have n:(PP s.heap x u).objs.size=⇑s+1:=Ĩ ..;have f:=È (PP s.heap x u) (o:={cls:=.type "enumerate",data:=.fields<|[.none,.bool false,↥⇑s,rawInt i,.none,.none].toArray}) Z;rw[n]at f;show š (codeAny_call_builtin a.plain F.entry_enumerate_new<|wpAny_of_eq (Hh x u i t)<|pY x u i t B prog w A.in1 (wants (λo p=>o=↥(⇑s+1)/\p={s with heap:=PQ s.heap x u i}) E) s<|by change _/\_;rw[n];show#[Z,Z]) λr p j=>?_;cases r with
 |error e=>show j|ok fl=>cases fl with
  |ret obj=>
   let#[rfl,rfl]:=j;have k:Shared.TypeIs {s with heap:=PQ s.heap x u i} (.ref<|⇑s+1) "enumerate":=⟨_,f,Z⟩;have C:=a.init.lookup;have v:=a.init.bind<|.ref<|⇑s+1;repeat(any_goals(first|assumption|wp_step))
   show š (codeAny_call_builtin a.init.plain F.entry_object_init<|a.init.check _ _ _ _ _ _ _ _ k (Hi _ x u i t)<|oG x u i t prog w A.in1 (wants (λr q=>r=.none/\q={s with heap:=PQ s.heap x u i}) E) _ ⟨k,Z,Z⟩) λD q d=>?_;cases D with
   |error e=>show d|ok fl2=>cases fl2 with
    |ret r=>
     let#[rfl,rfl]:=d;have I:=h _ f #[_,Jn _<|È _ Z,Z,Z] λb o y=>Jn _<|Jn _ y;repeat(any_goals(first|assumption|wp_step))|_=>show d.elim
  |_=>show j.elim
end
end PySem
namespace L2
open PySem PySem.Spec PyProof.Rows
variable{k:Nat}
def V2(x:ϐ)(o:Nat):It:=⟨λi _=>i<x.cps.size,λi H v H'=>∃p c,H p=none/\v=↥p/\H'=upd H p (.tup [.int ((i+o:Nat):Int),.str #[([c].toArray)]])/\x.cps[i]?=!c,λi _=>i=x.cps.size⟩
structure EnSs(e it:ό)(x:ϐ)(u:Tok)(o i:Nat)(h:ϒ):Prop where
 he:∃old,IsEnum h e it ((i+o:Nat):Int) old
 h1:h.IsStrIter it (strIterType x) x u i
theorem sU(b:A.handled=none)(a:ό)(x:ϐ)(t:Tok):Draws prog w A a [a] x.cps.size (λi v=>∃c u,x.cps[i]?=!c/\v=.str #[([c].toArray)] u) (λi h=>h.IsStrIter a (strIterType x) x t i):=by
 unfold strIterType;split
 .show Draws.strAscii b a x t
 .show Draws.strWide b a x t
theorem wO{P:ϓ}{K:Ϗ}{e g:ό}(x:ϐ)(u:Tok)(o:Nat)(D:e≠g):Turn P w K (.Tuple elts k tpos) (V2 x o) [e,g] e (EnSs e g x u o)where
 mem:=by simp
 obj:=λi h f c l=>by
  let#[#[d,b],#[J,n,c1,d1]]:=f;simp only[Å,Ú,þ]at l;rcases l with rfl|rfl;.show #[_,b,λv z=>by cases z]
  .show #[J,n,λv z=>by rw[d1]at z;cases z]
 keep:=λi h Y f m=>by let#[#[d,b],j]:=f;let#[J,n,r1]:=j;show#[#[d,m e (by simp) _ b],J,m g (by simp) _ n,r1]
 item:=by
  intro X N T M l i C s σ H E I G f Q;subst N T M;let#[#[d,b],j]:=id f;have r:i<x.cps.size:=Q;show wpAny_pyNext_enum_itemD (yZ (sU (A:=X.A.in1) (I.ok.hd l) g x u) o) b #[Nat.le_add_left _ _,by rw[Ų];show j] () D (by simp[D]) λx1 Y F B a1 ⟨_,U⟩ a3 a4 a5=>?_;rw[Ų]at B;rw[show i+o+1-o=i+1 by rfl']at U;let#[L,uu,O,rfl]:=B;show#[_,Z,wpAny_letOwnedTupleGo_enum a1 λp b1 S=>?_];have hT:⇑s≠e:=ė<|Ë b;have m:∀c o,c∉[e,g]->s.heap.get? c=!o->p.get? c=!o:=λc o a q=>by simp only[Å,Ú,þ,not_or]at a;show S.extBut _ _ a.1<|a5 c o a.1 a.2 q
  have e5:p.get? ⇑s=!{cls:=.type "tuple",data:=.seq<|[.int ((i+o:Nat):Int) F,.str #[([L].toArray)] uu].toArray}:=S.extBut _ _ hT a3;let#[t,zz]:=I.yields (t':=F+1) m G (x:=.int ((i+o:Nat):Int)) #[_,Z] (y:=.str #[([L].toArray)]) #[_,Z] e5;show#[↥⇑s,_,zz,Z,#[_,L,t,Z,Z,O],#[#[_,by have:=b1;rwa[show(((i+o:Nat):Int)+1)=((i+1+o:Nat):Int)by rfl']at this],U.extBut S.extBut<|Ne.symm D],λc a=>?_];have R:c<⇑s:=by
   let#[J,n,_]:=j;simp only[Å,Ú,þ]at a;rcases a with rfl|rfl;.show Ë b
   .show Ë n
  rw[aq<|Þ R];show(G c a).1
 done:=by
  intro X N T M l i C s σ H E I G f Q;subst N T M;let#[#[d,b],j]:=id f;have r:i=x.cps.size:=Q;show wpAny_pyNext_enum_endD (sU (A:=X.A.in1) (I.ok.hd l) g x u) b (by rw[<-r];show j) λY m=>?_;show#[Z,I.turnedAll (t':=s.toks) (λc o a q=>?_) G];simp only[Å,Ú,þ,not_or]at a;show m c o a.2 q
 self:=λ_ _ _ _ _ f h=>by let#[d,b]:=f.he;show ς b h
abbrev Hj(ta tk:TA):TI:=λσ H R=>ta σ H λvs H1=>tk σ H1 λks H2=>∃x o,vs=[.str x]/\ks=[.int ((o:Nat):Int)]/\o<=1000000000/\R (V2 x o) H2
theorem Hk{X:Cx}{a:Expr}(E:Gl X "enumerate")(U:X.calm=true)(F:X.mg "enumerate"=none)(C:PA X [a] n)(m:PK X kws r)(D:backTo pos (starEach [a] X.env)=(false,eval a X.env)::backTo pos (starEach [] X.env):=by rfl) (G:(backTo pos<|starEach [a] X.env).any (·.1)=false:=by rfl)(l:(backToKw pos<|keywordEach kws X.env).filterMap (·.1)=[Str.ofString "start"]:=by rfl)(d:(backToKw pos<|keywordEach kws X.env).all (·.1.isSome)=true:=by rfl) (j:(backToKw pos<|keywordEach kws X.env).any (·.1.isNone)=false:=by rfl):PI X (.Tuple elts k tpos) (.Call (.Name "enumerate" p) [a] kws pos) (Hj n r):=by
 intro b s y H R I h;show ľ<|fW I E F (show bootBuiltins "enumerate"=!(.type "enumerate")by ac_nf)<|PJ (bH (C pos b s y H _ I h) λY P ⟨zz,z,B,M,K⟩=>bH (m pos b P y z _ B K) λws g ⟨zs,A,i,O,L⟩=>?_) D G d j;rw[l];let#[x,o,rfl,rfl,W,q]:=L;let#[u,rfl,N]:=M.one;let#[v,rfl,#[t,rfl]]:=O.one;let#[Q,rfl]:=N;show oH (by unfold Builtin.SmallTypes.fitsIndex;rw[Ă];show#[decide_eq_true (),Ô ()]) λT w S J=>?_;show ς w ?_;show#[⇑g+1,[⇑g+1,⇑g],_,_,A,Z,i.kept (t':=g.toks) J,wO x Q o<|by change(_:Nat)≠_;rfl',#[#[_,by rw[ī];show w],S],λc e=>?_,q];have f:⇑g<=c:=by simp only[Å,Ú,þ]at e;rcases e with rfl|rfl<;>(change(_:Nat)<=_;rfl')
 show i.fpOk f<|i.hok.fresh f
abbrev z6(tk tv:TE):TE:=λσ H Q=>∀p,H p=none->tk σ (upd H p<|.dT []) λx H1=>tv σ H1 λv H2=>H2 p=!(.dT [])/\∃k b,x=↥b/\H2 b=!(.tup<|k.map kV)/\Q ↥p (upd H2 p<|.dT [(k,v)])
theorem wQ{X:Cx}{A:TE}(Y:X.A.units+1<cLine)(O:PE X u y)(S:PE X B A):PE X (.Dict [!u] [B] pos) (z6 y A):=by
 intro g s U H Q I q;have P:=I.hok.fresh<|Ã ⇑s;have C:=I.laid (a:=⇑s) (o:=.dT []) (h':=s.heap.push {cls:=.type "dict",data:=.dict<|[].toArray}) (t':=s.toks) (λ_ _ q=>Jn _ q) (Ã _)<|vZ s.heap I.big;show wpAny_Dict_any Z Z (by simp) (by simp)<|bH (pI (pos:=pos) O S uf g _ U _ (λw f=>match w with|[(x,v)]=>f ⇑s=!(.dT [])/\∃k b,x=↥b/\f b=!(.tup<|k.map kV)/\Q ↥⇑s (upd f ⇑s<|.dT [(k,v)])|_=>False) C<|q _ P) λws zz ⟨w,f,i,d,l⟩=>?_;cases d with
 |nil=>show l.elim|@cons a c as cs h t=>cases t with
  |cons=>show l.elim|nil=>
  let#[x,v]:=a;let#[D,W]:=c;let#[e,k,b,p,m,T]:=l;dsimp only at h p;subst p;cases(show D=Value.ref b from h.1);let#[z,N,xs,d,E]:=pG i.hok e;unfold storeAll;rw[Ą];show Qr<|Qr<|wpAny_dictSet_heap (hsz:=by rw[<-ħ d];show z) (by change X.A.units<cLine;rfl') (jD i.hok m) E λh' j R=>Wp ?_;change wpAny _ _ (forIn [] PUnit.unit _) _ _ _;rw[ū];let#[q,G,F,r,J,K,L,_,M]:=j;show Wp #[↥⇑s,upd f ⇑s<|.dT [(k,v)],jc i (by rw[e];show True.intro) R ⟨q,r⟩ ⟨(by change(1:Nat)<=sizeLine;rw[ü];rfl'),N,_,(d.put k m h.2).keeps λc ys n=>?_,q,G,F,r,J,K,L,M⟩,Z,T];rw[aq<|dm n e<|λz=>nomatch z];show n
end L2
end
section
namespace Nk
open PySem PySem.Spec PyProof.Rows
variable{a b:ό}{ks:ϊ Int}{Q:ϑ->ώ->Prop}
abbrev pZ:=Int×Int×ϊ Int
variable{k x y:pZ}
section
variable{prog:ϓ}{w:ϕ}{s:ώ}
def IsSt(prog:ϓ)(w:ϕ)(h:ϒ)(k:pZ)(a:ό):Prop:=∃o n v1 v2 b,h.get? a=!o/\o.cls=.type "tuple"/\o.data=.seq ([v1,v2,↥b].toArray) n/\(intKind prog w).is k.1 v1=true/\(intKind prog w).is k.2.1 v2=true/\IsTupleKey (intKind prog w) h k.2.2 b
theorem IsSt.typeIs(x:IsSt prog w s.heap k a):s.TypeIs ↥a "tuple":=by let#[o,_,_,_,_,c,b,_]:=x;show#[o,c,b]
theorem IsSt.inj(r:IsSt prog w h x a)(s:IsSt prog w h y a):x=y:=by
 let#[o,n,v1,v2,b,q,_,p,f,g,i]:=r;let#[t,B,C,D,A,d,_,c,j,k,l]:=s;obtain rfl:o=t:=Ý<|q.symm.trans d;rw[p]at c;injection c with e1 _;have e:=Ö Array.toList e1;simp-iota only[List.cons.injEq,and_true]at e;let#[rfl,rfl,m]:=e;cases m;have z:=i.inj l;have u:=(intKind prog w).inj _ _ _ f j;have v:=(intKind prog w).inj _ _ _ g k;show Prod.ext u<|Prod.ext v z
theorem IsSt.keeps{es ep}(x:IsSt prog w h k a)(j:h.get? d=!o)(i:o.data=.dict es ep)(l:Heap.SameBut d h g):IsSt prog w g k a:=by
 let#[m,n,v1,v2,b,e,s,c,p,q,r]:=x;have f:a≠d:=by rintro rfl;obtain rfl:m=o:=Ý<|e.symm.trans j;rw[i]at c;show nomatch c
 show#[m,n,v1,v2,b,(l.2 a f).trans e,s,c,p,q,r.keeps j i l]
noncomputable def sV(cs:ϊ Int):Int:=reduceHash<|Builtin.Tuple.tupleHashOf<|cs.map hashInt
def wR(k:pZ):Int:=reduceHash<|Builtin.Tuple.tupleHashOf [hashInt k.1,hashInt k.2.1,sV k.2.2]
theorem PX{Q:Int->ώ->Prop}(r:A.units+1<cLine)(i:IsSt prog w s.heap k a)(h:Q (wR k) {s with toks:=s.toks+(↑k.2.2+4)}):∅ (pyHash ↥a) Q E s:=by
 have d:=i.typeIs;let#[o,n,v1,v2,b,q,_,p,j,l,m]:=i;unfold pyHash;first| unfold pyHashByItsType|skip
 first|show Qr (wpAny_cRoomFor_or (.inr ()) ?_)|skip
 show Qr (Ÿ d F.slot_tuple_hash.lookup ?_);change wpAny _ _ (if(some (Value.builtin "tuple.__hash__")==!Value.none)=true then _ else _) Q E s;rw[γ (by rw[beq_builtin_none];show Ï)];show Qr (Ÿ d F.slot_tuple_hash.lookup ?_);change wpAny _ _ (callSpecialIfBoundUnlessNone? ↥a "__hash__" _>>=_) Q E s;show Qr (wpAny_callSpecialIfBoundUnlessNone?_slot d F.slot_tuple_hash (î F.slot_tuple_hash d F.entry_tuple_hash ?_ (F.args_tuple_hash_1 _)));change wpAny _ _ (Builtin.Tuple.tupleItemsOf ↥a>>=_) _ _ s;show Qr (ų q p ?_);show Qr ?_;rw[<-Array.forIn_toList];change wpAny _ _ (forIn [v1,v2,Value.ref b] _ _) _ _ s;have g:A.in1.units<cLine:=by change A.units+1<cLine;show r
 rw[Ą];show Qr (Qr ((intKind prog w).pyHash j (Wp ?_)));change wpAny _ _ (forIn [v2,Value.ref b] _ _) _ _ _;rw[Ą];show Qr (Qr ((intKind prog w).pyHash l (Wp ?_)));change wpAny _ _ (forIn [Value.ref b] _ _) _ _ _;rw[Ą];show Qr (Qr (wpAny_pyHash_tuple (knd:=intKind prog w) g m (Wp ?_)));change wpAny _ _ (forIn [] _ _) _ _ _;rw[ū];show Wp ?_;change wpAny _ _ (retInt (Builtin.Tuple.tupleHashOf [hashInt k.1,hashInt k.2.1,sV k.2.2])) _ _ _;show wpAny_ret_mkInt ?_;change wpAny _ _ (if(decide (-(2:Int)^63<=Builtin.Tuple.tupleHashOf [hashInt k.1,hashInt k.2.1,sV k.2.2])&&decide (Builtin.Tuple.tupleHashOf [hashInt k.1,hashInt k.2.1,sV k.2.2]<2^63))=true then _ else _) Q E _;have c:∀x:Nat,x=s.toks+(↑k.2.2+4)->Q (wR k) {s with toks:=x}:=λx e=>by rw[e];show h
 unfold wR at c;unfold reduceHash at c;by_cases f:(decide (-(2:Int)^63<=Builtin.Tuple.tupleHashOf [hashInt k.1,hashInt k.2.1,sV k.2.2])&&decide (Builtin.Tuple.tupleHashOf [hashInt k.1,hashInt k.2.1,sV k.2.2]<2^63))=true;.rw [β f];rw[β f]at c;show Wp (c _ (by dsimp only;rfl'))
 .rw [γ f];rw[γ f]at c;show Qr (į (Wp (c _ (by dsimp only;rfl'))))
theorem z7(J:A.units<cLine)(K:IsSt prog w s.heap x a)(C:IsSt prog w s.heap y b)(h:P (.done<|.ret<|.bool<|decide<|x=y) s):∅ (Builtin.«tuple.__eq__» #[[↥a,↥b],[]]) P E s:=by
 have j:=C.typeIs;let#[R,O,v1,v2,c,m,_,k,p,r,t]:=K;let#[ob,Q,L,D,d,n,_,l,u,v,B]:=C;change wpAny _ _ (isInstance ↥b (.type "tuple")>>=_) _ _ s;show Qr<|ĭ j ž ?_;simp-iota only[ď,Û,ċ];show Qr<|ų m k ?_;show Qr<|ų n l ?_;show Qr ?_;change wpAny _ _ (forIn [(v1,L),(v2,D),(Value.ref c,Value.ref d)] _ _) _ _ s;let#[F,G,M]:=x;let#[H,I,N]:=y;dsimp only at p r t u v B;have o:∀{q:ϑ},q=false->P (.done<|.ret<|.bool q) s->P (.done<|.ret<|.bool false) s:=λe h=>e▸h
 rw[Ą];show Qr<|Qr<|(intKind prog w).eqBool (a:=F) (b:=H) p u ?_;by_cases f:F=H
 .subst f;rw[Ô Z];simp-iota only[ď,Û,ċ];show Wp ?_;change wpAny _ _ (forIn [(v2,D),(Value.ref c,Value.ref d)] _ _) _ _ s;rw[Ą];show Qr<|Qr<|(intKind prog w).eqBool (a:=G) (b:=I) r v ?_;by_cases g:G=I
  .subst g;rw[Ô Z];simp-iota only[ď,Û,ċ];show Wp ?_;change wpAny _ _ (forIn [(Value.ref c,Value.ref d)] _ _) _ _ s;rw[Ą];show Qr<|Qr<|wpAny_eqBool_tuple (knd:=intKind prog w) J t B ?_;by_cases i:M=N;.subst i;rw[Ô Z];simp-iota only[ď,Û,ċ];show Wp ?_;change wpAny _ _ (forIn [] _ _) _ _ s;rw[ū];show Wp ?_;rw[Ô Z]at h;show Wp h
   .rw [Ü i];simp-iota only[Bool.not_false,Ń];show Qr<|Wp<|Wp<|Wp<|Wp<|o (Ü λz=>i<|by cases z;rfl) h
  .rw [Ü g];simp-iota only[Bool.not_false,Ń];show Qr<|Wp<|Wp<|Wp<|Wp<|o (Ü λz=>g<|by cases z;rfl) h
 .rw [Ü f];simp-iota only[Bool.not_false,Ń];show Qr<|Wp<|Wp<|Wp<|Wp<|o (Ü λz=>f<|by cases z;rfl) h
theorem Ym(g:A.units+1<cLine)(d:IsSt prog w s.heap x a)(f:IsSt prog w s.heap y b)(h:Q (decide<|x=y) s):∅ (eqBool ↥a<|.ref b) Q E s:=by
 unfold eqBool;try with_reducible show õ ?_
 change wpAny _ _ (if(Value.ref a==Value.ref b)=true then _ else _) Q E s;by_cases c:(Value.ref a==Value.ref b)=true
 .rw [β c];have e:a=b:=by have:=θ c;injection this
  subst e;obtain rfl:=d.inj f;show Qr<|į<|Wp<|by simpa using h
 .rw [γ c];show Qr<|wpAny_richCompare_same_room (op:=.Eq) d.typeIs f.typeIs F.slot_tuple_eq (î F.slot_tuple_eq d.typeIs F.entry_tuple_eq (z7 (by change A.units+1<cLine;show g) d f #[_,Z,(λe=>nomatch e),Ė h])<|F.args_tuple_eq_2 _ _) ()
theorem z8(g:IsTupleKey (intKind prog w) s.heap ks a)(h:Q true s):∅ (eqIsQuiet 7<|.ref a) Q E s:=by
 have f:=g.typeIs;let#[o,d,n,k,_,i,j]:=g;unfold eqIsQuiet;show Qr<|Ÿ f F.slot_tuple_eq.lookup ?_;change wpAny _ _ (isInstance ↥a (.type "tuple")>>=_) _ _ s;show Qr<|ĭ f ž ?_;simp-iota only[ď,Û,ċ];show Qr<|ě k i ?_;show Qr ?_;change wpAny _ _ (forIn d _ _) _ _ s;rw[<-Array.forIn_toList];show wpAny_forIn_list _ (λrest r e=>r.1=none/\e=s/\∀v∈rest,carriedByValue v=true) _ ?_ ?_ _ _ #[Z,Z,j.byValue];.rintro v rest r e ⟨c,rfl,b⟩;rw[eqIsQuiet_byValue _<|b v Ì];show Qr<|Wp ?_;simp-iota only[ď,Û,ċ];show Wp #[Z,Z,λu m=>b u<|Ê _ m]
 .rintro ⟨l,p⟩ e ⟨c,rfl,_⟩;simp only at c;subst c;show Wp h
theorem Hl(d:IsSt prog w s.heap k a)(h:Q true s):∅ (eqIsQuiet 8<|.ref a) Q E s:=by have c:=d.typeIs;let#[o,n,v1,v2,b,j,_,i,e,f,g]:=d;unfold eqIsQuiet;show Qr<|Ÿ c F.slot_tuple_eq.lookup ?_;change wpAny _ _ (isInstance ↥a (.type "tuple")>>=_) _ _ s;show Qr<|ĭ c ž ?_;simp-iota only[ď,Û,ċ];show Qr<|ě j i ?_;show Qr ?_;change wpAny _ _ (forIn ([v1,v2,Value.ref b].toArray) _ _) _ _ s;rw[<-Array.forIn_toList];change wpAny _ _ (forIn [v1,v2,Value.ref b] _ _) _ _ s;rw[Ą,eqIsQuiet_byValue _<|(intKind prog w).byValue _ _ e];show Qr<|Qr<|Wp ?_;simp-iota only[ď,Û,ċ];show Wp ?_;change wpAny _ _ (forIn [v2,Value.ref b] _ _) _ _ s;rw[Ą,eqIsQuiet_byValue _<|(intKind prog w).byValue _ _ f];show Qr<|Qr<|Wp ?_;simp-iota only[ď,Û,ċ];show Wp ?_;change wpAny _ _ (forIn [Value.ref b] _ _) _ _ s;rw[Ą];show Qr<|Qr<|z8 g ?_;simp-iota only[ď,Û,ċ];show Wp ?_;change wpAny _ _ (forIn [] _ _) _ _ s;rw[ū];show Wp<|Wp h
end
def jK(prog:ϓ)(w:ϕ):HeapKind prog w pZ where
 is:=IsSt prog w
 hash:=wR
 draws:=λk=>↑k.2.2+4
 room:=λA=>A.units+1<cLine
 inj:=λhx hy=>hx.inj hy
 keeps:=λx ho hd hs=>x.keeps ho hd hs
 pyHash:=λhu hk h=>PX hu hk h
 eqBool:=λhu hx hy h=>Ym hu hx hy h
 quiet:=λhk h=>Hl hk h
end Nk
namespace L2
open PySem PySem.Spec PyProof.Rows Nk
abbrev Sk:=Int×Int×ϊ Int
def DW(x:Sk×ό×ϋ):DictEntry:=#[wR x.1,↥x.2.1,x.2.2]
def SdP(a:ό)(kvs:ϊ<|ό×Sk×V)(h:ϒ):Prop:=↑kvs<=sizeLine/\(a==sysModules)=false/\∃xs:ϊ<|Sk×ό×ϋ,Paired (λ(p:ό×Sk×V) (q:Sk×ό×ϋ)=>p.2.1=q.1/\p.1=q.2.1/\RelV p.2.2 q.2.2) kvs xs/\∃o es ep,h.get? a=!o/\o.ExactDict/\o.data=.dict es ep/\es.toList=xs.map DW/\(xs.map (·.1)).Nodup
noncomputable abbrev cL(a:ό)(kvs:ϊ<|ό×Sk×V):HO:=.ext<|SdP a kvs
def vG(H:Hp)(b:ό)(k:Sk):Prop:=∃c,H b=!(.tup [.int k.1,.int k.2.1,↥c])/\H c=!(.tup<|k.2.2.map V.int)
noncomputable def dY(kvs:ϊ<|ό×Sk×V)(k:Sk):ύ V:=(kvs.find? λp=>decide<|p.2.1=k).map (·.2.2)
def uy(kvs:ϊ<|ό×Sk×V)(b:ό)(k:Sk)(v:V):ϊ (ό×Sk×V):=if(dY kvs k).isSome then kvs.map λp=>if p.2.1=k then(p.1,p.2.1,v)else p else kvs++[(b,k,v)]
def SGet(H:Hp)(a:ό)(y:V)(r:ύ V):Prop:=∃kvs k b,Rd H a (cL a kvs)/\(∀p∈kvs,vG H p.1 p.2.1)/\y=↥b/\vG H b k/\r=dY kvs k
def SPut(H:Hp)(a:ό)(y v:V)(H':Hp):Prop:=∃kvs k b,H a=!(cL a kvs)/\(∀p∈kvs,vG H p.1 p.2.1)/\y=↥b/\vG H b k/\↑kvs<sizeLine/\H'=upd H a (cL a<|uy kvs b k v)
section
theorem wU{P:ϓ}{w:ϕ}:∀{ks:ϊ Int}{us:ϊ ϋ},Vals (ks.map V.int) us->ItemsAre (intKind P w) ks us
 |[],_,r=>by rw[Đ]at r;cases r;show .nil|k::ks,_,r=>by
  rw[Ç]at r;cases r with|cons h t=>let#[a,rfl]:=(show∃t,_=Value.int k t from h);show .cons (intKind_is _ _ _ _)<|wU t
def sW(d:HOk P w H h)(e:vG H a k):(jK P w).is h k a:=by
 let#[c,f,g]:=e;let#[_,s,r,o,m,p,n,q]:=(show ObjOk P w H h a (.tup [.int k.1,.int k.2.1,↥c])from d a _ f);let#[_,b,x,v,i,j,u,l]:=(show ObjOk P w H h c (.tup<|k.2.2.map V.int)from d c _ g);cases r with|cons h1 t1=>
  cases t1 with|cons h2 t2=>
   cases t2 with|cons h3 t3=>
    cases t3;let#[y,rfl]:=(show∃t,_=Value.int k.1 t from h1);let#[z,rfl]:=(show∃t,_=Value.int k.2.1 t from h2);cases(show _=Value.ref c from h3);show#[o,n,_,_,c,m,p,q,intKind_is _ _ _ _,intKind_is _ _ _ _,#[v,b.toArray,u,i,j,l,by simpa using wU x]]
abbrev KS:ϊ (ό×Sk×V)->ϊ (Sk×ό×ϋ)->Prop:=Paired λp q=>p.2.1=q.1/\p.1=q.2.1/\RelV p.2.2 q.2.2
def KS.val(r:KS kvs c)(k:Sk):RelO (dY kvs k) ((atKey c k).map (·.2)):=by induction r with
 |nil=>show True.intro|@cons p q ps qs h t ih=>
  let#[b,_,d]:=h;by_cases e:p.2.1=k
  .have a:q.1=k:=b.symm.trans e;have z:atKey (q::qs) k=!q.2:=by simp[atKey,Ğ,a]
   have y:dY (p::ps) k=!p.2.2:=by simp[dY,Ğ,e]
   rw[y,z];show d
  .have a:¬q.1=k:=λz=>e<|b.trans z;have z:atKey (q::qs) k=atKey qs k:=by simp[atKey,Ğ,a]
   have y:dY (p::ps) k=dY ps k:=by simp[dY,Ğ,e]
   rw[y,z];show ih
def KS.repl(r:KS kvs c)(k:Sk)(f:RelV y u):KS (kvs.map λp=>if p.2.1=k then(p.1,p.2.1,y)else p) (c.map<|putAt k u):=by induction r with
 |nil=>show .nil|@cons p q ps qs h t ih=>
  rw[Ç,Ç];show .cons ?_ ih;let#[a,b,d]:=h;unfold putAt;by_cases e:p.2.1=k;.rw [β e,β<|a.symm.trans e];show#[a,b,f]
  .rw [γ e,γ<|λz=>e<|a.trans z];show#[a,b,d]
def KS.put{a:ϊ<|Sk×ό×ϋ}(r:KS kvs a)(k:Sk){b:ό}(c:RelV y u):KS (uy kvs b k y) (storedH a k b u):=by
 have e:(dY kvs k).isSome=(atKey a k).isSome:=by rw[(r.val k).isSome_eq,Ţ]
 unfold uy storedH;rw[e];by_cases q:(atKey a k).isSome=true;.rw [β q,β q];show r.repl k c
 .rw [γ q,γ q];show Paired.snoc r #[Z,Z,c]
def Hm(a:ϊ<|ό×Sk×V)(b:ό)(k:Sk)(v:V):↑(uy a b k v)<=↑a+1:=by
 unfold uy;split;.rw [Qb];rfl'
 .rw [É,ã];rfl'
def RJ(b:HOk P w H h)(e:Rd H a<|cL a kvs):ObjOk P w H h a (cL a kvs):=by
 rcases e with e|⟨o,e⟩;.show b a _ e
 .show (show ObjOk P w H h a (.frz o<|cL a kvs)from b a _ e).2
def sX(d:HOk P w H h)(e:Rd H a<|cL a kvs)(u:∀p∈kvs,vG H p.1 p.2.1):↑kvs<=sizeLine/\(a==sysModules)=false/\∃xs,KS kvs xs/\h.DictOfH (jK P w) a xs:=by
 let#[#[z,y,xs,r,o,g,f,i,j,k,n,s],_]:=RJ d e;show#[z,y,xs,r,o,g,f,i,j,k,n,λx hx=>?_,s];have b:∀{l:ϊ<|ό×Sk×V}{m:ϊ<|Sk×ό×ϋ},KS l m->(∀p∈l,vG H p.1 p.2.1)->∀x∈m,(jK P w).is h x.1 x.2.1:=by intro l m q;induction q with
  |nil=>intro _ x hx;show nomatch hx|@cons p q ps qs hq t ih=>
   intro c x hx;rcases Å.mp hx with e|hx;.subst e;have:=sW d<|c p Ì;rw[<-hq.1,<-hq.2.1];show this
   .show ih (λp m=>c p<|Ê _ m) x hx
 show b r u x hx
def Hn{P:ϓ}{h:ϒ}{b:ϊ<|Sk×ό×ϋ}(z:↑kvs<=sizeLine)(q:(a==sysModules)=false)(e:KS kvs b)(p:∃o es ep,h.get? a=!o/\o.ExactDict/\o.data=.dict es ep/\es.toList=b.map DW/\(b.map (·.1)).Nodup):ObjOk P w H' h a (cL a kvs):=by let#[o,es,ep,g,j,l,m,n]:=p;show#[#[z,q,b,e,o,es,ep,g,j,l,m,n],#[o,g],λx y ob k=>?_];let#[v,u,f,t,i,d,c,r,s]:=ob;show#[v,u,f,t,i,d,c,k i r,s]
end
section
variable{X:Cx}
theorem z9(D:A.units+2<cLine)(I:Inv X gE σ H s)(g:SGet H a y !v)(x:RelV y u)(h:∀c s',Inv X gE σ H s'->RelV v c->Q c s'):wpAny (model X.prog X.w) A (getItem ↥a u) Q E s:=by
 let#[w,k,b,e,q,n,m,l]:=g;subst n;cases(show u=Value.ref b from x);let#[z,C,B,f,j]:=sX I.hok e q;let#[c,t,i]:=RelO.some_of (v:=v) (o:=(atKey B k).map (·.2)) (by rw[l];show f.val k);let#[p,r,d]:=Î.mp t;show wpAny_getItem_heap (knd:=jK X.prog X.w) (show A.units+1+1<cLine by rfl') (sW I.hok m) j r ?_;rw[d];show h c _ (I.tok _) i
theorem Yn(r:A.units+2<cLine)(I:Inv X gE σ H s)(g:SGet H a y o)(p:RelV y u)(h:∀s',Inv X gE σ H s'->Q (.bool o.isSome) s'):wpAny (model X.prog X.w) A (compareOp .In u<|.ref a) Q E s:=by
 let#[n,k,b,e,m,i,f,l]:=g;subst i;cases(show u=Value.ref b from p);let#[z,j,t,c,d]:=sX I.hok e m;show wpAny_in_heap (knd:=jK X.prog X.w) (show A.units+1+1<cLine by rfl') (sW I.hok f) j d ?_;have q:=(c.val k).isSome_eq;rw[Ţ]at q;rw[<-q,<-l];show h _<|I.tok _
theorem Ho(r:A.units+2<cLine)(I:Inv X gE σ H s)(g:SGet H a y o)(p:RelV y u)(h:∀s',Inv X gE σ H s'->Q (.bool<|not o.isSome) s'):wpAny (model X.prog X.w) A (compareOp .NotIn u<|.ref a) Q E s:=by
 let#[n,k,b,e,m,i,f,l]:=g;subst i;cases(show u=Value.ref b from p);let#[z,j,t,c,d]:=sX I.hok e m;show wpAny_notIn_heap (knd:=jK X.prog X.w) (show A.units+1+1<cLine by rfl') (sW I.hok f) j d ?_;have q:=(c.val k).isSome_eq;rw[Ţ]at q;rw[<-q,<-l];show h _<|I.tok _
theorem zb{Q:Unit->ώ->Prop}(P:A.units+2<cLine)(I:Inv X gE σ H s)(g:SPut H a y v H')(M:RelV y u)(L:RelV v r)(h:∀s',Inv X gE σ H' s'->Q Unit.unit s'):wpAny (model X.prog X.w) A (setItem ↥a u r) Q E s:=by
 let#[c,k,b,e,F,t,n,l,m]:=g;subst t m;cases(show u=Value.ref b from M);let#[z,D,N,d,j]:=sX I.hok (.inl e) F;have K:↑N<=sizeLine:=by rw[<-ħ d];show z
 have G:↑(uy c b k v)<=sizeLine:=by have:=Hm c b k v;rfl'
 show wpAny_setItem_heap (hsz:=K) (knd:=jK X.prog X.w) (show A.units+1+1<cLine by rfl') (sW I.hok n) j λO f J=>h _ ?_;let#[q,p,o,i,w,x,B,_,C]:=f;show jc I (by rw[e];show True.intro) J ⟨q,i⟩<|Hn G D (d.put k L) ⟨q,p,o,i,w,x,B,C⟩
end
end L2
end
section
namespace Nk
open PySem PySem.Spec PyProof.Rows Sx
section
theorem uz:∀a:ϊ Int,HT.lexLt a a=false
 |[]=>Z|x::a=>by rw[HT.jb,β Z];show uz a
theorem wV:∀{a b:ϊ Int},HT.lexLt a b=true->HT.lexLt b a=false
 |[],[],h=>by cases h|[],_::_,_=>Z|_::_,[],h=>by cases h|x::a,y::b,h=>by
  rw[HT.jb]at h⊢;by_cases e:x=y
  .rw [β e]at h;rw[β e.symm];show wV h
  .rw [γ e]at h;rw[γ<|Ne.symm e];have:=ô h;show Ü ()
theorem Hq:∀{a b c:ϊ Int},HT.lexLt b a=false->HT.lexLt c b=false->HT.lexLt c a=false
 |[],[],c,_,h=>h|[],_::_,[],_,_=>Z|[],_::_,_::_,_,_=>Z|_::_,[],c,h,_=>by cases h|_::_,_::_,[],_,h=>by cases h|x::a,y::b,z::c,h1,h2=>by
  rw[HT.jb]at h1 h2⊢;by_cases e:y=x
  .rw [β e]at h1;by_cases d:z=y;.rw [β d]at h2;rw[β<|d.trans e];show Hq h1 h2
   .rw [γ d]at h2;have:=Ł h2;rw[γ ()];show Ü ()
  .rw [γ e]at h1;have:=Ł h1;by_cases d:z=y;.rw [γ ()];show Ü ()
   .rw [γ d]at h2;have:=Ł h2;rw[γ ()];show Ü ()
end
end Nk
namespace L2
open PySem PySem.Spec PyProof.Rows Sx Nk
section
variable{ep:Nat}
theorem Q0(lo:(d==sysModules)=false)(f:od.ExactDict)(c:od.data=.dict es ep):PySem.W.KdlSrc prog w "dict" d d es.size (λi v=>∃e,es[i]?=!e/\v=e.key) (λh=>h.get? d=!od)where
 type:=λs h=>#[od,h,f.1]
 there:=λh e=>#[Heap.lt_size e,Ë e]
 keep:=λh j e k=>k d (.inl Z) od e
 notList:=by decide
 notTuple:=by decide
 hint:=λA E s Q h l=>PySem.W.kdl_hint_dict #[od,h,f.1] l
 iter:=λA s q h=>⟨{cls:=.type "dict_keyiterator",data:=.fields<|[↥d,.int 0 0,.int es.size 0,.int ep 0].toArray},λi h=>h.IsKeyIter ⇑s d i es.size ep/\h.get? d=!od,λE Q l=>pQ lo ⟨od,h,f.1⟩ h c l,{
   sub:=λb g=>by simp-iota only[Å,Ú,þ]at g⊢;show .inl g
   frame:=λi h j a k=>#[a.1.at λo e=>k _ (by simp) o e,k d (by simp) od a.2]
   item:=λi m Q E r a n=>by have x:d≠⇑s:=Þ<|Ë h;show wB q a.1 a.2 c r λj t p=>n _ j m.toks #[es[i],ë r,Z] #[t,(p.2 d x).trans a.2] λb o g e=>(p.2 b<|λz=>g<|by rw[z];simp).trans e
   done:=λm Q E a n=>Br q a.1 a.2 c (Ã _) λj u=>n j m.toks λb o g e=>u b o (λz=>g<|by rw[z];simp) e
   self:=λi m Q E a l=>wpAny_pyIter_keyiter a.1 l},⟨⟨_,È _ Z,Z,Z⟩,Jn _ h⟩⟩
theorem lY:∀{ns:ϊ Int}{us:ϊ ϋ},Vals (ns.map V.int) us->IntsAre us ns
 |[],_,r=>by rw[Đ]at r;cases r;show .nil|k::ks,_,r=>by
  rw[Ç]at r;cases r with|cons h t=>let#[a,rfl]:=(show∃t,_=Value.int k t from h);show .cons _ _<|lY t
end
end L2
namespace L2
open PySem PySem.Spec PyProof.Rows Nk
abbrev By:TE:=λ_ H Q=>∀p,H p=none->Q ↥p (upd H p<|cL p [])
abbrev nW(td ty:TE):TE:=λσ H Q=>td σ H λx H1=>ty σ H1 λy H2=>∃a v,x=↥a/\SGet H2 a y !v/\Q v H2
abbrev Yo(ty td:TE):TE:=λσ H Q=>ty σ H λy H1=>td σ H1 λx H2=>∃a o,x=↥a/\SGet H2 a y o/\Q (.bl o.isSome) H2
abbrev uA(ty td:TE):TE:=λσ H Q=>ty σ H λy H1=>td σ H1 λx H2=>∃a o,x=↥a/\SGet H2 a y o/\Q (.bl<|not o.isSome) H2
abbrev BJ(td ty tv:TE):TS:=λD σ H=>tv σ H λv H1=>td σ H1 λx H2=>ty σ H2 λy H3=>∃a H4,x=↥a/\SPut H3 a y v H4/\D.nx σ H4
section
variable{X:Cx}
def uB:PE X (.Dict [] [] pos) By:=λb s c H Q I h=>wpAny_Dict_empty ⟨↥⇑s,_,I.laid (a:=⇑s) (o:=cL ⇑s []) (t':=s.toks) (λ_ _ q=>Jn _ q) (Ã _)
  (Hn (ä _) (ŏ.mpr<|Ne.symm<|Þ I.big) .nil ⟨_,([].toArray),0,È _ Z,⟨Z,Z,Z⟩,Z,Z,ρ⟩),Z,h _<|I.hok.fresh<|Ã _⟩
theorem Q3(I:Inv X gE h H s)(g:SGet H a y r):s.TypeIs ↥a "dict":=by let#[f,k,b,e,d,_]:=g;let#[_,_,i,_,c]:=sX I.hok e d;show c.typeIs
theorem jg(r:X.A.units+2<cLine)(p:PE X o td)(n:PE X i ty)(q:Uw i):PE X (.Subscript o i pos) (nW td ty):=by
 intro b s e H Q I h;show Be F.slot_dict_getitem.lookup q<|bH (p b s e H _ I h) λu B ob=>?_;let#[x,f,k,z,t]:=ob;show bH (n b B e f _ k t) λC D ob=>?_;let#[y,j,d,A,a,v,m,g,w]:=ob;subst m;obtain rfl:u=Value.ref a:=z;show#[Q3 d g,z9 r d g A λF E l c=>#[v,j,l,c,w]]
theorem V3(p:X.A.units+2<cLine)(m:PE X i ty)(n:PE X o td):PC X .In i o (Yo ty td):=by
 intro b s c H Q I h;show bH (m b s c H _ I h) λz w ob=>?_
 let#[y,d,f,v,q]:=ob;show bH (n b w c d _ f q) λu A ob=>?_;let#[x,e,j,t,a,ov,l,g,r]:=ob;subst l;obtain rfl:u=Value.ref a:=t;show Yn p j g v λB k=>#[.bl ov.isSome,e,k,Z,r]
theorem sY(p:X.A.units+2<cLine)(m:PE X i ty)(n:PE X o td):PC X .NotIn i o (uA ty td):=by
 intro b s c H Q I h;show bH (m b s c H _ I h) λz w ob=>?_;let#[y,d,f,v,q]:=ob;show bH (n b w c d _ f q) λu A ob=>?_;let#[x,e,j,t,a,ov,l,g,r]:=ob;subst l;obtain rfl:u=Value.ref a:=t;show Ho p j g v λB k=>#[.bl<|not ov.isSome,e,k,Z,r]
theorem uC(w:X.A.units+2<cLine)(q:PE X o td)(p:PE X i ty)(z:PE X value tv)(t:swapsWith value (!(.Subscript o i pos')) pos.line X.env=pure false):PS X (.Assign [.Subscript o i pos'] value pos) (BJ td ty tv):=by intro b s c H D I h;show wpAny_Assign_Subscript (bH (z b s c H _ I h) λr J ⟨v,d,j,E,A⟩=>bH (q b J c d _ j A) λu K ⟨x,e,k,F,B⟩=>bH (p b K c e _ k B) λM N ⟨y,L,l,G,a,f,n,g,C⟩=>?_) t;subst n;obtain rfl:u=Value.ref a:=F;show zb w l g G E λO m=>#[c,f,m,C]
theorem eX{k:Nat}(a:Room k A):A.units+2<cLine:=Õ (Ρ (by decide:2<=64) _) a.units
end
end L2
end
section
namespace Nk
open PySem PySem.Spec PyProof.Rows
section
def Q4{d:ό}{b:Obj}{a:ϔ DictEntry}{i:Nat}(lo:(d==sysModules)=false)(e:b.ExactDict)(g:s.heap.get? d=!b)(c:b.data=.dict a i)(f:(a.size:Int)<2^63)(h:∀t tk,Q (.int a.size t) {s with toks:=tk}):∅ (call (.builtin "len") [↥d]) Q E s:=by
 have T:s.TypeIs ↥d "dict":=#[b,g,e.1];show Calls.call_function_entry kind_len plain_len entry_len (args_len1 _) ?_;unfold Builtin.«len»;show Qr (m:=oneArg "len" _)<|Wp ?_;show Qr (m:=callSpecial? ↥d<|Str.ofString "__len__")<|wpAny_callSpecial?_slot (name:=Str.ofString "__len__") T F.slot_dict_len<|î F.slot_dict_len T F.entry_dict_len ?_<|F.args_dict_len_1 _;unfold Builtin.«dict.__len__» Builtin.Dict.dictSlotNone;show Qr<|Qr<|ĺ T ?_;change wpAny _ _ (pure<|Value.ref d) _ _ _;show Wp ?_;change wpAny _ _ (dictSize d>>=_) _ _ _;have j:¬((d==sysModules)=true):=by rw[lo];show Ï
 unfold dictSize;show Qr<|Qr<|Į g c<|Wp ?_;change wpAny _ _ (Builtin.Dict.pendingCount d>>=_) _ _ _;unfold Builtin.Dict.pendingCount;show Qr ?_;rw[γ j];show Wp ?_;change wpAny _ _ (retInt<|((a.size:Nat):Int)+((0:Nat):Int)) _ _ _;rw[show((a.size:Nat):Int)+((0:Nat):Int)=(a.size:Int)by rfl'];show wpAny_ret_mkInt ?_;show Qr<|õ<|Wp ?_;show Qr<|ů ?_;change wpAny _ _ (if((a.size:Nat):Int)<0 then _ else _) _ _ _;rw[γ ()];change wpAny _ _ (if((a.size:Nat):Int)>=2^63 then _ else _) _ _ _;rw[γ ()];show Qr<|wpAny_mkInt<|Wp #[_,Z,h _ _]
end
end Nk
end
section
namespace Sy
open PySem PyProof.Rows
def sZ{K:Type}[DecidableEq K]{a:ϊ<|K×ό×ϋ}{k:K}(h:k∉a.map (·.1)):atKey a k=none:=by unfold atKey;rw[Ŵ,ł];intro x b e;show h<|Zp.mpr #[x,b,ô e]
end Sy
end
section
namespace St
open PySem PySem.Spec PyProof.Rows
variable{h':ϒ}{I a:ό}{v:ϋ}{t:SetTable}{x:Int×ϋ}{ep given i n slot:Nat}{Q:϶}
theorem slot_next:Slot "set_iterator" "__next__" "set_iterator.__next__":=
 .of (owner:="set_iterator") (n:="__next__") (by rw[Χ,Ś];kernel_rfl) (by ac_nf) (by ac_nf) (by ac_nf)
  (by first|show .inl (by ac_nf)|show .inr<|by ac_nf) (by rw[isSubtype_type];kernel_rfl)
theorem slot_self:Slot "set_iterator" "__iter__" "set_iterator.__iter__":=
 .of (owner:="set_iterator") (n:="__iter__") (by rw[Χ,Ś];kernel_rfl) (by ac_nf) (by ac_nf) (by ac_nf)
  (by first|show .inl (by ac_nf)|show .inr<|by ac_nf) (by rw[isSubtype_type];kernel_rfl)
theorem entry_next:entryFor table "set_iterator.__next__"=some Builtin.«set_iterator.__next__»:=entryFor_of_tree (by kernel_rfl)
theorem wW:Manifest.owners.lookup (String.ofList ['r','o','t','a','r','e','t','i','_','t','e','s'].reverse)=!Manifest.sig_set_iterator:=by kernel_rfl
theorem args_next(a:ϋ):argsOk "set_iterator.__next__" #[[a],[]]:=by unfold argsOk;rw[signature?_of (id:="set_iterator.__next__") (n:=['_','_','t','x','e','n','_','_']) (o:=['r','o','t','a','r','e','t','i','_','t','e','s']) (by kernel_rfl) wW];kernel_rfl
theorem zc:entryFor table "set.__iter__"=some Builtin.«frozenset.__iter__»:=entryFor_alias (id':="frozenset.__iter__") (by kernel_rfl) Z (by ac_nf)<|by kernel_rfl
theorem Q5:typeLookup (.type "set") "__len__"=pure !(.builtin "set.__len__"):=by rw[Χ,Ś];kernel_rfl
def SetAt(h:ϒ)(a:ό)(es:ϔ<|Int×ϋ)(ep:Nat)(t:SetTable):Prop:=∃o,h.get? a=!o/\o.ExactSet/\o.data=.set es ep t/\t.fits es.size=true
def ItAt(h:ϒ)(I:ό)(f0:ϋ)(i:Nat)(a:ό)(n ep:Nat):Prop:=∃o,h.get? I=!o/\o.cls=.type "set_iterator"/\o.data=.fields ([f0,.int i 0,↥a,.int n 0,.int ep 0].toArray)
def SetAt.typeIs{s:ώ}{b:ϔ<|Int×ϋ}(x:SetAt s.heap a b ep t):s.TypeIs ↥a "set":=let⟨o,ho,hc,_⟩:=x;#[o,ho,hc.1]
def ItAt.typeIs{s:ώ}(x:ItAt s.heap I f0 i a n ep):s.TypeIs ↥I "set_iterator":=let⟨o,ho,hc,_⟩:=x;#[o,ho,hc]
section
variable{prog:ϓ}{w:ϕ}{A:ϖ}{E:϶}{s:ώ}
theorem lE{a:Type}:∀{l:ϊ a}{i:Nat}(h:i<↑l),(l[i]::l.eraseIdx i).Perm l
 |x::r,0,_=>List.Perm.refl _|x::r,i+1,h=>by rw[List.getElem_cons_succ,List.eraseIdx_cons_succ];show(List.Perm.swap _ _ _).trans<|List.Perm.cons _<|lE<|Nat.lt_of_succ_lt_succ h
theorem Yp{Q:Nat->ώ->Prop}(a:n≠0)(h:∀i d,i<n->Q i {s with drawn:=d}):wpAny M A (choose src n) Q E s:=λb p _=>by unfold choose;rw[Sem.wp_choose];show#[a,h _ _<|Nat.mod_lt _<|Nat.pos_of_ne_zero a]
theorem Hr{b:Type}:∀{n:Nat}{xs:ϊ b}{s:ώ}{Q:ϊ b->ώ->Prop},↑xs=n->(∀ys d,ys.Perm xs->Q ys {s with drawn:=d})->wpAny M A (drawOrder n xs) Q E s:=by intro n;induction n with
 |zero=>intro xs s Q e h;rw[Ŋ e]at h⊢;show Wp (h [] s.drawn<|List.Perm.refl _)|succ n ih=>intro xs s Q e h;let#[x,r,rfl]:=List.exists_cons_of_length_pos (show 0<↑xs by rw[e];show Nat.succ_pos n);show Qr (Yp (by rw[e];show Nat.succ_ne_zero n) λi d a=>?_);rw[Zl a];show Qr (ih (by rw[List.length_eraseIdx,β a,e];rfl) λys c p=>?_);show Wp<|h _ c ?_;show(List.Perm.cons _ p).trans<|lE a
theorem Q6{c:Type}(next:Nat->Nat):∀(m k:Nat)(l:ϊ c)(a:ϔ c),↑l=m->(pickOrder.go next m k l a).toList.Perm (a.toList++l):=by intro m;induction m with
 |zero=>intro k l a e;rw[Ŋ e];unfold pickOrder.go;rw[û]|succ m ih=>
  intro k l a e;have d:0<↑l:=by rw[e];show Nat.succ_pos m
  have b:next k%↑l<↑l:=Nat.mod_lt _ d;unfold pickOrder.go;rw[Zl b];show(ih _ _ _<|by rw[List.length_eraseIdx,β b,e];rfl).trans ?_;rw[Array.toList_push,ø];show List.Perm.append_left _<|lE b
theorem DX{b:Type}(next:Nat->Nat)(a:ϔ b):(pickOrder next a).toList.Perm a.toList:=by have:=Q6 next a.size 0 a.toList ([].toArray)<|á;simpa[pickOrder]using this
theorem wX{Q:ϑ->ώ->Prop}(c:SetAt s.heap a b ep t)(h:Q (not (w.params.followText "set-order")&&(not t.plain&&decide (b.size>1))) s):∅ (setDrawn a) Q E s:=by let#[o,f,g,d,e]:=c;unfold setDrawn setsByText;show Qr (ţ f d e ?_);show Qr (Qr (Ŭ (Wp (Wp h))))
theorem DY{Q:ύ (ϋ×Nat)->ώ->Prop}(i:SetAt s.heap a b ep t)(c:w.params.followText "set-order"=true)(h:Q (((pickOrder (w.params.setOrder a ep) b)[given]?).map λe=>(e.2,slot)) s):∅ (setNext a slot given ep) Q E s:=by let#[o,g,j,d,f]:=i;unfold setNext setsByText;show Qr<|ţ g d f ?_;show Qr<|Qr<|Ŭ<|Wp ?_;change wpAny _ _ (if w.params.followText "set-order"=true then _ else _) _ _ _;rw[β c];simp-iota only[Ō,Û,↓reduceIte];show Qr ?_;unfold setWalk setsByText;show Qr<|ţ g d f ?_;show Qr<|Qr<|Ŭ<|Wp ?_;change wpAny _ _ (if w.params.followText "set-order"=true then _ else _) _ _ _;rw[β c];show Qr<|Ŭ<|Wp<|Wp h
theorem wY{Q:ύ (ϋ×Nat)->ώ->Prop}(c:SetAt s.heap a b ep t)(d:w.params.followText "set-order"=false)(i:(not t.plain&&decide (b.size>1))=false) (g:(not t.led&&not b.isEmpty)=false)(h:Q (match b[SetTable.below t.place slot]?,t.place[SetTable.below t.place slot]?with|some (_,x),!j=>!(x,j+1)|_,_=>none) s):∅ (setNext a slot given ep) Q E s:=by let#[o,k,l,e,f]:=c;unfold setNext setsByText;show Qr (ţ k e f ?_);show Qr (Qr (Ŭ (Wp ?_)));change wpAny _ _ (if w.params.followText "set-order"=true then _ else _) _ _ _;rw[γ (by rw[d];show Ï)];change wpAny _ _ (if(not t.plain&&decide (b.size>1))=true then _ else _) _ _ _;rw[γ (by rw[i];show Ï)];change wpAny _ _ ((if(not t.led&&not b.isEmpty)=true then unsupported "set:maker-not-led" else pure Unit.unit)>>=_) _ _ _;rw[γ (by rw[g];show Ï)];show Qr (Wp (Wp h))
theorem zf{b:Nat}(d:SetAt s.heap a c ep t)(i:c[b]?=!x)(h:Q x.2 s):∅ (setNextDrawn a b ep) Q E s:=by let#[o,g,j,e,f]:=d;unfold setNextDrawn;show Qr<|ţ g e f ?_;simp only[Ō,Û,↓reduceIte];rw[i];show Wp h
theorem entry_self:entryFor table "set_iterator.__iter__"=some Builtin.«dict_keyiterator.__iter__»:=entryFor_alias (id':="dict_keyiterator.__iter__") (by kernel_rfl) Z (by ac_nf)<|by kernel_rfl
theorem args_self(a:ϋ):argsOk "set_iterator.__iter__" #[[a],[]]:=by unfold argsOk;rw[signature?_of (id:="set_iterator.__iter__") (n:=['_','_','r','e','t','i','_','_']) (o:=['r','o','t','a','r','e','t','i','_','t','e','s']) (by kernel_rfl) wW];kernel_rfl
theorem Q7(b:ItAt s.heap I f0 i a n ep)(h:Q ↥I s):∅ (pyIter<|.ref I) Q E s:=by show υ b.typeIs slot_self<|î slot_self b.typeIs entry_self ?_<|args_self _;change wpAny _ _ (ret<|.ref I) _ _ s;show Wp #[_,Z,"set_iterator",_,b.typeIs,slot_next.lookup,h]
def SetAt.at'(x:SetAt h a b ep t)(e:∀o,h.get? a=!o->h'.get? a=!o):SetAt h' a b ep t:=let⟨o,ho,r⟩:=x;#[o,e _ ho,r]
def ItAt.at'(x:ItAt h I f0 i a n ep)(e:∀o,h.get? I=!o->h'.get? I=!o):ItAt h' I f0 i a n ep:=let⟨o,ho,r⟩:=x;#[o,e _ ho,r]
theorem V4(a:ϔ Nat)(h:a.size<=1):SetTable.below a 0=0:=by
 let#[l]:=a;match l,h with
 |[],_=>rfl|[j],_=>simp[SetTable.below,SetTable.below.go]
theorem V5(j:Nat):SetTable.below ([j].toArray) (j+1)=1:=by simp[SetTable.below,SetTable.below.go]
structure Go(prog:ϓ)(w:ϕ)(A:ϖ)(s:ώ)(a:ό)(vs:ϊ ϋ)(n:Nat)(I:ό)(s1:ώ):Prop where
 ex:∃(fp:ϊ ό)(P:Nat->ϋ->Prop)(St:Nat->ϒ->Prop),Walks prog w A I fp [I] n P St/\St 0 s1.heap/\(∀b∈fp,b=a\/⇑s<=b)/\∀acc:ϔ ϋ,ItemsOf P acc n->acc.toList.Perm vs
 keep:∀b o,s.heap.get? b=!o->s1.heap.get? b=!o
 fresh:⇑s<=I
 rest:∃d,s1={s with heap:=s1.heap,drawn:=d}
def Nx(prog:ϓ)(w:ϕ)(a:ό)(es:ϔ<|Int×ϋ)(ep:Nat)(s:ώ)(f0:ϋ)(i:Nat)(o:ύ<|ϋ×ϋ):Prop:=
 (∃(k:Nat)(r:ύ<|ϋ×Nat),f0=.int k 0/\o=r.map (λp=>(p.1,Value.int p.2 0))/\∀(A:ϖ)(E:϶)(Q:ύ (ϋ×Nat)->ώ->Prop),Q r s->∅ (setNext a k i ep) Q E s)\/
 ∃(T:ό)(ys:ϊ Nat),f0=↥T/\s.heap.IsTuple T (ys.map λi:Nat=>Value.int i 0).toArray/\(∀j∈ys,j<es.size)/\o=ys[i]?.bind λj=>es[j]?.map λe=>(e.2,f0)
theorem step{I a:ό}{h:ϔ<|Int×ϋ}{u:ϋ}{i g:Nat}{t:SetTable}{o:ύ<|ϋ×ϋ}{Q:ύ ϋ->ώ->Prop}(D:A.handled=none)(f:ItAt s.heap I u i a h.size g)(B:SetAt s.heap a h g t)(q:Nx prog w a h g s u i o)(z:∀x v h',o=!(x,v)->ItAt h' I v (i+1) a h.size g->Heap.SameBut I s.heap h'->Q (!x) {s with heap:=h'})(y:∀h',o=none->Heap.ExtBut I s.heap h'->Q none {s with heap:=h'}):∅ (pyNext<|.ref I) Q E s:=by
 let#[ob,d,C,b]:=id f;let#[H,n,G,l,m]:=id B;unfold pyNext;show Qr<|wpAny_attempt<|wpAny_callSpecial?_slot (name:=Str.ofString "__next__") f.typeIs slot_next<|î slot_next f.typeIs entry_next ?_<|args_next _;unfold Builtin.«set_iterator.__next__» slotArgs;simp-iota only[List.isEmpty_nil,ď,Û,↓reduceIte,bind_assoc,ĝ,Ō];show Qr<|Wp ?_;show Qr<|wpAny_fieldsOf d b ?_;dsimp only;show Qr<|wpAny_setEntries_of n l m ?_;simp-iota only[Ō,Û,↓reduceIte,Ó];rcases q with⟨k,r,rfl,rfl,q⟩|⟨T,ys,rfl,⟨oT,hoT,hcT,nT,hdT⟩,hl,rfl⟩;.simp only[Ó];show Qr<|q _ _ _ ?_;cases r with
  |none=>show Qr (ĩ d b (by simp)<|L2.uo D (è ..) λh'=>y h' Z)|some p=>show Qr<|ĩ d b (by simp) ?_;have c:=ñ (Obj.mapFields (·.setIfInBounds 0<|rawInt (p.2:Int))) d<|Ĺ<|ú b _;show Qr<|ĩ c (ú b _) (by simp) ?_;show Wp #[_,Z,Wp<|z _ _ _ Z #[_,ñ _ c<|Ĺ<|ú (ú b _) _,(Β ..).trans<|(Β ..).trans C,?_]<|(è ..).trans<|è ..];rw[ú<|ú b _];simp[rawInt]
 .show Qr<|ě hoT hdT ?_;dsimp only;rw[Ž,Á];cases e:ys[i]?with
  |none=>show Qr<|ĩ d b (by simp) ?_;have c:=ñ (Obj.mapFields (·.setIfInBounds 0<|rawInt 0)) d<|Ĺ<|ú b _;show Qr (ĩ c (ú b _) (by simp)<|L2.uo D ((è ..).trans<|è ..) λh'=>y h'<|by rw[e];rfl)|some j=>have F:=ë<|hl j<|Yf e;simp-iota only[ŝ,Ó];show Qr<|zf B F ?_;show Qr<|ĩ d b (by simp) ?_;show Wp #[_,Z,Wp<|z _ _ _ (by rw[e,Option.bind_some,F];rfl) #[_,ñ _ d<|Ĺ<|ú b _,(Β ..).trans C,?_]<|è ..];rw[ú b];simp[rawInt]
theorem t6(y:A.handled=none){T:ό}(u:a≠I)(F:T≠I){d:ϔ<|Int×ϋ}{oT:Obj}{k:ϊ ϋ}(B:↑k=d.size)(f:Nat->ϋ)
  (C:∀i s,i<=d.size->SetAt s.heap a d ep t->s.heap.get? T=!oT->Nx prog w a d ep s (f i) i (k[i]?.map λx=>(x,f<|i+1))):Walks prog w A I [I,a,T] [I] d.size (λi v=>k[i]?=!v) (λi h=>ItAt h I (f i) i a d.size ep/\SetAt h a d ep t/\h.get? T=!oT)where
 sub:=λb j=>by simp at j;simp[j]
 frame:=λ_ _ _ c r=>#[c.1.at' λo e=>r I (by simp) o e,c.2.1.at' λo e=>r a (by simp) o e,r T (by simp) _ c.2.2]
 item:=λi s Q E z c m=>by
  have e:k[i]?=!k[i]:=Zl (by rw[B];show z);show step y c.1 c.2.1 (C i s (â z) c.2.1 c.2.2) (λx D l q n g=>?_) λl q=>?_
  .rw [e]at q;cases q;show m _ l s.toks e #[n,c.2.1.at' λo e=>g.extBut a o u e,g.extBut T _ F c.2.2] λb o j e=>g.extBut b o (λh=>j (by simp[h])) e
  .rw [e]at q;cases q
 done:=λs Q E c m=>by
  have e:k[d.size]?=none:=Ā (by rw[B];show Ã _);show step y c.1 c.2.1 (C _ s (Ã _) c.2.1 c.2.2) (λx D l q=>?_) λl _ p=>m l s.toks λb o j e=>p b o (λh=>j (by simp[h])) e;rw[e]at q;cases q
 self:=λ_ _ _ _ c m=>Q7 c.1 m
theorem Ht(S:A.handled=none)(D:SetAt s.heap a g ep t)(hz:g.size<=sizeLine)(Y:w.params.followText "set-order"=false->t.led=true) (zz:1<=g.size->t.plain=false) (h:∀I s1,Go prog w A s a (g.toList.map (·.2)) g.size I s1->Q ↥I s1):∅ (pyIter ↥a) Q E s:=by
 let#[o,K,hc,M,H]:=id D;have u:=Ë K;have k:∀{r:ϊ ϋ},r.Perm (g.toList.map (·.2))->∀k:ϔ ϋ,ItemsOf (λi v=>r[i]?=!v) k g.size->k.toList.Perm (g.toList.map (·.2)):=λ{r} p k R=>by
  have hv:↑r=g.size:=by rw[p.length_eq,Qb,á]
  rw[show k.toList=r from List.ext_getElem (by rw[á,R.1,hv]) λi C P=>by have:r[i]?=!k[i]:=R.2 i k[i] (ë (by simpa using C));rw[Zl P]at this;simpa using(Ý this).symm];show p
 show υ D.typeIs F.slot_set_iter (î F.slot_set_iter D.typeIs zc ?_ (F.args_set_iter_1 _));unfold Builtin.«frozenset.__iter__» Builtin.Frozenset.slot0 slotArgs;simp-iota only[List.isEmpty_nil,ď,Û,↓reduceIte,bind_assoc,ĝ,Ō];unfold Builtin.Frozenset.addrOf Builtin.Frozenset.sizeOf;show Qr (Wp ?_);try dsimp only
 show Qr (Wp ?_);show Qr (Qr (wpAny_setEntries_of K M H (Wp ?_)));show Qr (wX D ?_);cases hn:(not (w.params.followText "set-order")&&(not t.plain&&decide (g.size>1)))with
 |true=>
  simp-iota only[↓reduceIte];show Qr (Hr (ê) λG d p=>?_);have U:↑G=g.size:=by rw[p.length_eq,ê]
  have J:∀j∈G,j<g.size:=λj m=>ì.mp (p.mem_iff.mp m);have N:(G.map λj=>(g[j]?.map (·.2)).getD .none).Perm (g.toList.map (·.2)):=by show(p.map _).trans (List.Perm.of_eq (List.ext_getElem (by simp) λi C P=>?_));rw[Qb,ê]at C;simp[C]
  show Qr (wpAny_newTuple ?_ (by rw[Qb,U];show hz));show Qr (wpAny_setEpoch_of (Jn _ K) M H ?_);show Qr (ó (Wp #[_,Z,"set_iterator",_,#[_,È _ Z,Z],slot_next.lookup,h _ _ #[#[_,_,_,t6 (T:=⇑s) (oT:={cls:=.type "tuple",data:=.seq (G.map λi:Nat=>Value.int i 0).toArray}) (t:=t) S (Þ (by rw[size_push'];show ģ u)) (Þ (by rw[size_push'];show Ĕ _)) (by rw[Qb,U]) (λ_=>↥⇑s) λi s' _ _ X=>.inr #[_,G,Z,#[_,X,Z,_,Z],J,?_],#[#[_,È _ Z,Z,by simp[rawInt]],D.at' λo e=>Jn _ (Jn _ e),Jn _ (È _ Z)],?_,k N],λb o e=>Jn _ (Jn _ e),by rw[size_push'];show Nat.le_succ _,d,Z]]));.rw [Á];cases e:G[i]?with|none=>rfl|some j=>have:=ë (J j (Yf e));simp[this]
  .intro b n;simp at n;rcases n with rfl|rfl|rfl;.show .inr (Nat.le_succ _)
   .show .inl Z
   .show .inr (Ã _)|false=>
  simp-iota only[Û,↓reduceIte];show Qr (Wp ?_);show Qr (wpAny_setEpoch_of K M H ?_);have z:∀(r:ϊ ϋ)(f:Nat->ϋ),f 0=.int 0 0->r.Perm (g.toList.map (·.2))->(∀i s,i<=g.size->SetAt s.heap a g ep t->Nx prog w a g ep s (f i) i (r[i]?.map λx=>(x,f (i+1))))->Q ↥⇑s {s with heap:=s.heap.push {cls:=.type "set_iterator",data:=.fields ([.int 0 0,.int 0 0,↥a,.int g.size 0,.int ep 0].toArray)}}:=λr f W p hx=>h _ _ ⟨⟨_,_,_,t6 (T:=a) (oT:=o) (t:=t) S (Þ u) (Þ u) (by rw[p.length_eq,Qb,á]) f λi s L B _=>hx i s L B,⟨⟨_,È _ Z,Z,by rw[W];rfl⟩,D.at' λo e=>Jn _ e,Jn _ K⟩,λb n=>by
    simp at n;rcases n with rfl|rfl;.show .inr (Ã _)
    .show .inl Z,k p⟩,λb o e=>Jn _ e,Ã _,s.drawn,Z⟩;show Qr (ó (Wp #[_,Z,"set_iterator",_,#[_,È _ Z,Z],slot_next.lookup,?_]));simp-iota only[rawInt];cases n:w.params.followText "set-order" with|true=>
   show z ((pickOrder (w.params.setOrder a ep) g).toList.map (·.2)) (λ_=>.int 0 0) Z ((DX _ _).map _) λi s _ B=>.inl #[0,_,Z,?_,λA E Q q=>DY (slot:=0) B n q];rw[Á,ö];cases(pickOrder (w.params.setOrder a ep) g)[i]? <;>rfl|false=>
   have C:g.size<=1:=by
    rcases Μ 1 g.size with c|c
    .rw [n,zz (â c),Ô c]at hn;cases hn
    .show c
   let#[l]:=g;cases l with
   |nil=>show z [] (λ_=>.int 0 0) Z (List.Perm.refl _) λi s _ B=>.inl #[0,none,Z,Z,λA E Q q=>wY B n (by simp) (by simp) (by simpa using q)]|cons x l=>
    cases l with
    |cons y l=>simp at C|nil=>
     have O:t.place.size=1:=by
      simp-iota only[SetTable.fits,Ă,beq_iff_eq]at H;show H.1
     let#[j,J]:∃j,t.place=([j].toArray):=Array.size_eq_one_iff.mp O;show z [x.2] (λi=>.int ((if i=0 then 0 else j+1:Nat):Int) 0) Z (List.Perm.refl _) λi s L B=>.inl #[_,if i=0 then !(x.2,j+1)else none,Z,?_,λA E Q q=>wY B n (by simp) (by simp[Y n]) ?_]
     .rcases Nat.le_one_iff_eq_zero_or_eq_one.mp L with rfl|rfl<;>rfl
     .rcases Nat.le_one_iff_eq_zero_or_eq_one.mp L with rfl|rfl;.rw [J,β Z,V4 _ (Ã _)];show q
      .rw [J,γ Nat.one_ne_zero,V5];show q
def yu(prog:ϓ)(w:ϕ)(a:ό)(es:ϔ<|Int×ϋ)(ep:Nat)(t:SetTable):Prop:=∀{A:ϖ}{E:϶}{s:ώ}{Q:϶},A.handled=none->SetAt s.heap a es ep t->(∀I s1,Go prog w A s a (es.toList.map (·.2)) es.size I s1->Q ↥I s1)->∅ (pyIter<|.ref a) Q E s
theorem Hu{Q:ϑ->ώ->Prop}(c:s.TypeIs ↥r "set")(h:Q false s):∅ (Builtin.List.listLengthHint<|.ref r) Q E s:=by
 unfold Builtin.List.listLengthHint;show Qr<|Ÿ c Q5 ?_;generalize hid:("set.__len__":String)=id0
 wp_delta;rw[show splitId id0=!("set","__len__")from by subst hid;decide+kernel];subst hid;show Qr<|ĭ (T:="set") (b:=true) c (by rw[isSubtype_type];kernel_rfl) ?_;show wpAny_ite_split (λa=>μ a<|by decide)<|λ_=>?_;show wpAny_ite_split (λ_=>?_)<|λa=>μ (by ac_nf) a;show Qr<|ű c ?_;show Wp h
theorem zg(X:A.handled=none)(B:SetAt s.heap a q ep t)(K:q.size<=sizeLine)(Y:yu prog w a q ep t)(S:ό)(r:S≠a)(k:ϋ)(l:Nat)(J:s.heap.get? S=!{cls:=.type "list",data:=.seq ([].toArray) l})(Q:∀h' tk d g p,(∀b o,b≠S->s.heap.get? b=!o->h'.get? b=!o)->h'.get? S=!{cls:=.type "list",dict:=none,data:=.seq g p,slots:=([].toArray)}->g.toList.Perm (q.toList.map (·.2))->R (.ok<|.ret k) {s with heap:=h',toks:=tk,drawn:=d}):wpAny (model prog w) A.in1 (Builtin.List.listExtendWith ↥S ↥a k)
   (λfin s'=>match fin with|.done f=>R (.ok f) s'|.again p=>p.quiet=true/\codeAny (model prog w) A p R s') (λe s'=>R (.error e) s') s:=by
 unfold Builtin.List.listExtendWith;show Qr (ű (T:="set") B.typeIs ?_);have O:Builtin.List.listSameRef ↥S ↥a=false:=by simp[Builtin.List.listSameRef,r]
 simp-iota only[O,show(Value.type "set"==Value.type "list")=false by decide,show(Value.type "set"==Value.type "tuple")=false by decide,Bool.or_false,Û,ċ];show Qr (Y (A:=A.in1) X B λI s1 G=>?_);let#[N,P,St,W,L,F,v]:=G.ex;let#[d,M]:=G.rest;have y:S<⇑s:=Ë J;have U:S≠I:=Þ (Ò y G.fresh);have u:S∉N:=λC=>by
  rcases F S C with e|e;.show r e
  .show μ y (Nat.not_lt.mpr e)
 have z:∀(h:ϒ)(i tk:Nat),St 0 h->(∀b o,b≠S->s.heap.get? b=!o->h.get? b=!o)->h.get? S=!{cls:=.type "list",data:=.seq ([].toArray) i}->codeAny (model prog w) A (.builtin "list.extend.loop" #[[↥S,↥I,k],[]]) R {s1 with heap:=h,toks:=tk}:=by
  intro h i tk H zz c;show codeAny_extend_loopS W.toS K S u k q.size 0 _ ([].toArray) i Z (ä _) H c (ItemsOf.nil _) λs' g p C D E=>?_;rw[Moved.eq_with C];rw[M];show Q s'.heap s'.toks d g p (λb o n e=>C.heap b o (λhmem=>?_)<|zz b o n e) D (v _ E);rcases Å.mp hmem with e'|hmem;.show n e'
  .show μ (Ë e) (by rw[Zs.mp hmem];show Nat.not_lt.mpr G.fresh)
 have c:=G.keep _ _ J;show Qr (õ<|Hu #[_,G.keep _ _ (Classical.choose_spec B.typeIs).1,(Classical.choose_spec B.typeIs).2] ?_);show wpAny_ite_split (λ_=>?_) (λ_=>Wp #[plainId_quiet PySem.F.plain_extend_loop _,z _ l _ L (λb o _ e=>G.keep _ _ e) c]);show Qr (į ?_);show Qr ?_;change wpAny _ _ (updateSeq S (·.push .none)>>=λ_=>updateSeq S (·.pop)) _ _ _;show Qr (Ψ c Z ?_);have j:=ñ (Obj.mapSeq (·.push Value.none)) c Z;show Ψ (hz:=by seq_fits) j Z ?_;have m:=ñ (Obj.mapSeq (·.pop)) j Z;show Wp #[plainId_quiet PySem.F.plain_extend_loop _,z _ _ _ ?_ (λb o n e=>?_) m]
 .show W.frame 0 _ _ L λb n o e=>?_;have x:b≠S:=λh=>u (h▸n)
  show(Ĉ _ _<|Ne.symm x).trans ((Ĉ _ _<|Ne.symm x).trans e)
 .show (Ĉ _ _<|Ne.symm n).trans ((Ĉ _ _<|Ne.symm n).trans<|G.keep _ _ e)
theorem wZ{n:ϔ<|Int×ϋ}{R:ϊ ϋ->ώ->Prop}(C:A.handled=none)(u:SetAt s.heap a n ep t)(F:n.size<=sizeLine)(D:yu prog w a n ep t)(h:∀(h':ϒ)(tk:Nat)(d:Drawn)(vs:ϊ ϋ),(∀b o,s.heap.get? b=!o->h'.get? b=!o)->⇑s<=h'.objs.size->vs.Perm (n.toList.map (·.2))->R vs {s with heap:=h',toks:=tk,drawn:=d}):∅ (collect<|.ref a) R E s:=by
 have B:a<⇑s:=let⟨_,ho,_⟩:=u;Ë ho;unfold collect;show Qr<|wpAny_runValue<|ć entry_proto_collect' ?_;rw[ý PySem.F.plain_proto_collect _];change wpAny _ A.in1 (newList []>>=λl=>again<|.builtin "list.__iadd__" #[[l,↥a],[]]) _ _ s;show Qr<|ó ?_;show Wp #[plainId_quiet Ū _,ć entry_list_iadd' ?_];rw[ý Ū _];have k:(s.heap.push {cls:=.type "list",data:=.seq ([]:ϊ ϋ).toArray}).get? ⇑s=!{cls:=.type "list",data:=.seq<|[].toArray}:=È _ Z;change wpAny _ A.in1 (Builtin.List.listExtendWith ↥⇑s ↥a<|.ref ⇑s) _ _ _;have p:=zg (prog:=prog) (w:=w) (A:=A) (s:={s with heap:=s.heap.push {cls:=.type "list",data:=.seq ([]:ϊ ϋ).toArray}})
  (R:=λ(q:Result) (r:ώ)=>∃(h':ϒ)(tk:Nat)(d:Drawn)(c:ϔ ϋ)(j:Nat),q=.ok (.ret<|.ref ⇑s)/\r={s with heap:=h',toks:=tk,drawn:=d}/\(∀b o,s.heap.get? b=!o->h'.get? b=!o)/\h'.get? ⇑s=!{cls:=.type "list",dict:=none,data:=.seq c j,slots:=([].toArray)}/\c.toList.Perm (n.toList.map (·.2)))
  C (u.at' λo e=>Jn _ e) F D ⇑s (ė B) ↥⇑s 0 k<|λh' tk d c j m i g=>#[h',tk,d,c,j,Z,Z,λb o e=>m b o (Þ<|Ë e)<|Jn _ e,i,g];have fin:∀{h':ϒ}{tk:Nat}{d:Drawn}{c:ϔ ϋ}{j:Nat},(∀b o,s.heap.get? b=!o->h'.get? b=!o)->h'.get? ⇑s=!{cls:=.type "list",dict:=none,data:=.seq c j,slots:=([].toArray)}->c.toList.Perm (n.toList.map (·.2))->R c.toList {s with heap:=h',toks:=tk,drawn:=d}:=by
  intro h' tk d c j m i g;show h h' tk d c.toList m (â<|Ë i) g
 show ĉ p (λf r x=>?_) λe r x=>?_
 .cases f with
  |done f=>
   let#[h',tk,d,c,j,e,rfl,m,i,g]:=x;cases e;change wpAny _ A (load ⇑s>>=_) _ _ _;show Qr (wpAny_load i<|Wp<|fin m i g)|again c₁=>show#[x.1,š x.2 λq v y=>?_];let#[h',tk,d,c,j,rfl,rfl,m,i,g]:=y;change wpAny _ A (load ⇑s>>=_) _ _ _;show Qr<|wpAny_load i<|Wp<|fin m i g
 .obtain ⟨_,_,_,_,_,z,_⟩:=x;cases z
theorem Q8(t:SetTable)(a:ϔ<|Int×ϋ)(h:Int)(x:ϋ):(layNew t a h x).2.1.led=t.led:=by
 unfold layNew;split
 .dsimp only[SetTable.put,SetTable.orStandIn];repeat' split
  all_goals rfl
 .rfl
theorem Ea(t:SetTable)(a:ϔ<|Int×ϋ)(n:Nat):(relayAll t a n).2.1.led=t.led/\(t.plain=false->(relayAll t a n).2.1.plain=false):=by
 unfold relayAll;split
 .rename_i c b e;have h:c.led=t.led/\c.plain=t.plain:=by
   unfold SetTable.relaid SetTable.laid at e;cases hc:SetTable.layClean (SetTable.sizeAbove n-1) (a.map (·.1))with
   |none=>rw[hc]at e;cases e|some ow=>rw[hc]at e;cases e;show#[Z,Z]
  dsimp only;split;.show #[h.1,λd=>by rw[h.2];show d]
  .show #[Z,λ_=>Z]
 .show #[Z,λ_=>Z]
def tx:ϋ->ϐ
 |.str x _=>x|_=>#[([].toArray)]
theorem zj:(PySem.strKind prog w).is k v=true↔∃t,v=.str k t:=by
 constructor
 .intro h;cases v<;>simp[PySem.strKind,Value.isStrOf]at h;show#[_,by rw[h]]
 .rintro ⟨t,rfl⟩;show strKind_is prog w k t
structure SetS(prog:ϓ)(w:ϕ)(h:ϒ)(a:ό)(ls:ϊ ϐ)(es:ϔ (Int×ϋ))(ep:Nat)(t:SetTable):Prop where
 at_:SetAt h a es ep t
 el:ElemsOf (PySem.strKind prog w) es.toList
 pm:(es.toList.map λe=>tx e.2).Perm ls
 nd:ls.Nodup
 sz:es.size<4096
 led:w.params.followText "set-order"=false->t.led=true
 pl:1<=es.size->t.plain=false
theorem xf(d:SetAt h a c ep t)(f:t'.fits es'.size=true):SetAt (h.update a<|Obj.putSet es' t') a es' (ep+1) t':=by
 let#[o,g,e,b,_]:=d;have:=ñ (Obj.putSet es' t') g (by rw[putSet_of es' t' b];rfl);rw[putSet_of es' t' b]at this;show#[_,this,e,Z,f]
theorem add_str{x:ϐ}{Q:ϑ->ώ->Prop}(l:SetS prog w s.heap a p D ep t)(n:D.size+1<4096)(h:∀b h' M es' ab t',Heap.SameBut a s.heap h'->SetS prog w h' a M es' ab t'->↑M<=↑p+1->(∀y,y∈M↔y∈p\/y=x)->Q b {s with heap:=h',toks:=s.toks+1}):∅ (setAdd a<|.str x N) Q E s:=by
 have q:(PySem.strKind prog w).is x (.str x N)=true:=strKind_is prog w x N;have P:D.size<scanBound:=l.sz;let#[o,ho,al,hd,hf]:=id l.at_;unfold setAdd;show õ<|Qr<|(PySem.strKind prog w).pyHash q ?_;unfold setAddHashed setAddHashedIn;show õ<|Qr<|ţ ho hd hf ?_;dsimp only;rw[byScan_of Z P l.el];simp-iota only[↓reduceIte];unfold setAddByScan;show Qr ?_;show Qr<|į ?_;show Qr<|wpAny_setScan_of q ho hd hf l.el ?_;cases W:List.findIdx? (λe=>(PySem.strKind prog w).is x e.2) D.toList with
 |some j=>dsimp only;let#[hj,ag,_]:=List.findIdx?_eq_some_iff_getElem.mp W;let#[zz,Y]:=zj.mp ag;have S:x∈p:=l.pm.mem_iff.mp (Zp.mpr #[_,Ø hj,by rw[Y];rfl]);show Wp (Wp (h _ s.heap p D ep t (Heap.SameBut.refl a s.heap) l (Nat.le_succ _) λy=>#[.inl,λz=>z.elim id λe=>e▸S]))|none=>
  dsimp only;have S:x∉p:=λS=>by
   let#[e,he,e2]:=Zp.mp<|l.pm.mem_iff.mpr S;let#[#[k,hk,_],_]:=l.el e he;let#[zz,Y]:=zj.mp hk;rw[Y]at e2;have:(PySem.strKind prog w).is x e.2=false:=by have:=List.findIdx?_eq_none_iff.mp W e he;simpa using this
   rw[Y,show k=x from e2,strKind_is]at this;cases this
  have R:∀(b:ϑ){C:ώ}{Q':Unit->ώ->Prop},Q' Unit.unit C->∅ (match b with|true=>rule "set.scan.the-table-gave-way" |false=>pure Unit.unit) Q' E C:=λb C Q' W=>by cases b<;>first|show Wp W|show į W
  have d:=layNew_perm t D ((PySem.strKind prog w).hash x)<|.str x N;have g:=layNew_fits t D ((PySem.strKind prog w).hash x)<|.str x N;have m:=Q8 t D ((PySem.strKind prog w).hash x)<|.str x N;generalize hL:layNew t D ((PySem.strKind prog w).hash x) (.str x N)=L at d g m⊢;let#[c,zz,f,ah]:=L;dsimp only at d g m⊢;rw[Array.toList_push]at d;have H:ElemsOf (PySem.strKind prog w) c.toList:=(l.el.push q Z).perm d;have G:c.size=D.size+1:=by rw[<-á,d.length_eq,É,á];rfl
  have U:(c.toList.map λe=>tx e.2).Perm (p++[x]):=(d.map _).trans (by rw[Â];show l.pm.append_right [x]);have T:(p++[x]).Nodup:=å.mpr #[l.nd,by simp,λu hu v hv=>by rw[Zs.mp hv];intro e;rw[e]at hu;show S hu];have I:∀y,y∈p++[x]↔y∈p\/y=x:=λy=>by rw[Æ,Zs]
  show Qr<|R _ ?_;have J:∀i:SetTable,i.fits c.size=true->i.led=t.led->i.plain=false->∅ (do
    storeSet a c i
    if(not f&&i.tooFull)=true then do
      (match(relayAll i c<|SetTable.grown c.size).2.2with|true=>rule "set.scan.the-table-gave-way" |false=>pure Unit.unit)storeSet a (relayAll i c<|SetTable.grown c.size).1 (relayAll i c<|SetTable.grown c.size).2.1
      pure !true else pure !true) (λr s'=>∃b,r=!b/\Q b s') E {s with toks:=s.toks+1}:=by
   intro i f2 l2 p2;have S1:=xf (es':=c) (t':=i) l.at_ f2;let#[o1,ae,ai,ad,_]:=id S1;show Qr (wpAny_storeSet_of ho hd ?_ (fits_of_scanBound (by rw[G];show n)));by_cases hw:(not f&&i.tooFull)=true
   .rw [β hw];have B:=relayAll_perm i c<|SetTable.grown c.size;have K:=relayAll_fits i c<|SetTable.grown c.size;have F:=Ea i c<|SetTable.grown c.size;generalize relayAll i c (SetTable.grown c.size)=Rl at B K F⊢;let#[O,t3,ac]:=Rl;dsimp only at B K F⊢;have X:O.size=c.size:=by rw[<-á,B.length_eq,á]
    show Qr (R _ (Qr (wpAny_storeSet_of ae ad ?_ (fits_of_scanBound (by rw[X,G];show n)))));show Wp #[true,Z,h true _ (p++[x]) O _ t3 ((è ..).trans<|è ..) #[xf S1 K,H.perm B,(B.map _).trans U,T,by rw[X,G];show n,λP=>by rw[F.1,l2];show l.led P,λ_=>F.2 p2] (by rw[É];show Ã _) I]
   .rw [γ hw];show Wp #[true,Z,h true _ (p++[x]) c _ i (è ..) #[S1,H,U,T,by rw[G];show n,λP=>by rw[l2];show l.led P,λ_=>p2] (by rw[É];show Ã _) I]
  split;.show Qr ?_;rw[hashByValue_scannable 8 Z];show Wp ?_;show ĉ (J {zz with plain:=false} (SetTable.fits_plain_off g) m Z) (λr s' n=>?_) λ_ _ z=>z;let#[b,rfl,n]:=n;show Wp n
  .rename_i af;show Qr<|Wp ?_;simp-iota only[↓reduceIte];show ĉ (J zz g m (by simpa using af)) (λr s' n=>?_) λ_ _ z=>z;let#[b,rfl,n]:=n;show Wp n
theorem SetS.at'(x:SetS prog w h a c b ep t)(e:∀o,h.get? a=!o->h'.get? a=!o):SetS prog w h' a c b ep t:=#[x.at_.at' e,x.el,x.pm,x.nd,x.sz,x.led,x.pl]
theorem gU{a:ϊ ϐ}(h:StrsAre b a):∀{i:Nat}{v:ϋ},b[i]?=!v->∃x t,v=.str x t/\a[i]?=!x:=by induction h with|nil=>intro i v e;cases e|cons x t _ ih=>
  intro i v e;cases i with
  |zero=>cases e;show#[x,t,Z,Z]|succ i=>show ih e
theorem Hv(zz:A.handled=none)(C:l≠I)(d:a≠I)(K:l≠a)(T:StrsAre items.toList j)(hz:↑j<4000):∀(k i:Nat)(s:ώ)(ls:ϊ ϐ)(es:ϔ<|Int×ϋ)(ep:Nat)(t:SetTable),items.size-i=k->i<=items.size->(s.heap.IsListIter I l i/\s.heap.IsList l items)->SetS prog w s.heap a ls es ep t->(∀y,y∈ls↔y∈j.take i)->↑ls<=i->(∀h' tk ls es ep t,(∀b o,b∉[a,I]->s.heap.get? b=!o->h'.get? b=!o)->SetS prog w h' a ls es ep t->(∀y,y∈ls↔y∈j)->R (.ok<|.ret .none) {s with heap:=h',toks:=tk})->codeAny (model prog w) A (.builtin "set.update.loop" #[[↥a,↥I],[]]) R s:=by
 have g:items.size=↑j:=by have:=Ö List.length T.strs;rw[Qb,á]at this;simpa using this
 have W:=Walks.list (prog:=prog) (w:=w) (A:=A.in1) zz I l C items;intro k;induction k with
 |zero=>
  intro i s ls es ep t hk hi Q n p hl D;have H:i=items.size:=();subst H;show ć F.entry_set_update_loop ?_;rw[ý ξ _];change wpAny _ A.in1 (pyNext ↥I>>=_) _ _ s;show Qr (W.done s _ _ Q λh' tk c=>?_);show Wp (D h' tk ls es ep t (λb o f e=>c b o (λz=>f<|Ê _ z) e) (n.at' λo e=>c a o (by simpa using d) e) (by rw[g,à]at p;show p))|succ k ih=>
  intro i s ls es ep t hk hi Q n p hl D;have h:i<items.size:=();show ć F.entry_set_update_loop ?_;rw[ý ξ _];change wpAny _ A.in1 (pyNext ↥I>>=_) _ _ s;show Qr (W.item i s _ _ h Q λv h' tk hv m c=>?_);let#[x,ac,rfl,hx]:=gU T (by rw[ö];show hv);have E:=n.at' (h':=h') λo e=>c a o (by simpa using d) e
  have G:es.size=↑ls:=by rw[<-n.pm.length_eq,Qb,á]
  show Qr (õ (add_str (s:={s with heap:=h',toks:=tk}) E (by rw[G];rfl') λb h2 N u q t2 P U ab L=>?_));show Wp #[plainId_quiet ξ _,ih (i+1) _ N u q t2 () h #[m.1.at λo e=>P.extBut I o (Ne.symm d) e,m.2.at λo e=>P.extBut l o K e] U (λy=>?_) () λY S O B r t3 J X M=>?_];.rw [L,p,Ð,hx,Æ];simp
  .show D Y S O B r t3 (λb o f e=>J b o f (P.extBut b o (λz=>f (by simp[z])) (c b o (λz=>f<|Ê _ z) e))) X M
theorem Q9(c:w.params.followText "set-order"=false->led=true)(x:h.get? a=!{cls:=.type "set",dict:=none,data:=.set ([].toArray) 0<|.fresh 0 0 led}):SetS prog w h a [] ([].toArray) 0 (.fresh 0 0 led):=#[#[_,x,#[Z,Z,Z],Z,Z],λe b=>by simp at b,List.Perm.refl _,ρ,by decide,c,λh=>μ h<|by decide]
noncomputable abbrev nS(w:ϕ):Obj:={cls:=.type "set",dict:=none,data:=.set ([].toArray) 0<|.fresh 0 0<|not (w.params.followText "set-order")}
theorem Ec (h:Q₁ ↥⇑s {s with heap:=s.heap.push<|nS w}):codeAny (model prog w) A (.call (.builtin "set.__new__") #[[.type "set",v],[]]) (wants Q₁ E) s:=by
 show codeAny_of_tree ?_;change wpAny _ A.in1 (do checkBuiltinCall "set.__new__" #[[.type "set",v],[]];again<|.builtin "set.__new__" #[[.type "set",v],[]]) _ _ s;show Qr<|wpAny_of_eq (F.newCall_set_1 v)<|Wp #[plainId_quiet PySem.F.plain_set_new _,ć PySem.F.entry_set_new ?_];rw[ý PySem.F.plain_set_new _];unfold Builtin.«set.__new__» Builtin.Frozenset.newClass;have a:=sub_set_self;let#[b,g,d,e,c]:=s;dsimp only
 wp_walk;show Ŭ<|Wp ?_;dsimp only;simp-iota only[newObj];show Qr<|wpAny_alloc<|Wp ?_;show Wp h
theorem Yq{Q:ώ->Prop}(q:A.handled=none)(f:SetS prog w s.heap a [] ([].toArray) 0<|.fresh 0 0 led)(d:s.heap.IsList l items)(i:l≠a)(z:StrsAre items.toList k)(B:↑k<4000)(h:∀h' tk ls es ep t,(∀b o,b≠a->s.heap.get? b=!o->h'.get? b=!o)->SetS prog w h' a ls es ep t->(∀y,y∈ls↔y∈k)->Q {s with heap:=h',toks:=tk}):∅ (Builtin.«set.__init__» #[[↥a,↥l],[]]) (λfin s'=>fin=.done (.ret .none)/\Q s') E s:=by
 have C:=f.at_.typeIs;let#[o,v,D,p,G]:=id f.at_;have c:s.TypeIs ↥l "list":=d.typeIs;unfold Builtin.«set.__init__» noKeywords
 wp_walk;rw[p];show Wp<|Wp ?_;change wpAny _ _ (Builtin.Frozenset.updateFrom "set.__init__" a ↥l>>=λ_=>ret .none) _ _ s;show Qr ?_;unfold Builtin.Frozenset.updateFrom Builtin.Frozenset.isAnySet;show Qr<|Qr<|ĭ (b:=false) c F.sub_list_set ?_;change wpAny _ _ (isInstance ↥l<|.type "frozenset") _ _ _;show ĭ (b:=false) c F.sub_list_frozenset ?_;simp-iota only[Û,↓reduceIte];show Qr<|ű c ?_;rw[γ<|by decide];show Qr<|Α d ?_;have j:l<⇑s:=let⟨_,x,_⟩:=d;Ë x;have g:a<⇑s:=Ë v;show Qr<|wpAny_runValue<|Hv q (Þ j) (Þ g) i z B items.size 0 _ [] ([].toArray) 0 _ (Ν _) (ä _) #[#[_,È _ Z,Z,Z],d.at λo e=>Jn _ e] (f.at' λo e=>Jn _ e) (by simp) (ä _) λh' tk ls es ep t r m u=>?_;show Wp<|Wp #[Z,h h' tk ls es ep t (λb o n e=>r b o (by simp;show#[n,Þ<|Ë e])<|Jn _ e) m u]
theorem Ed{n:ϊ ϐ}(J:A.handled=none)(u:s.heap.IsList l items)(N:StrsAre items.toList n)(O:↑n<4000)(h:∀h' tk ls es ep t,(∀b o,s.heap.get? b=!o->h'.get? b=!o)->⇑s<h'.objs.size->SetS prog w h' ⇑s ls es ep t->(∀y,y∈ls↔y∈n)->Q ↥⇑s {s with heap:=h',toks:=tk}):∅ (call (.type "set") [↥l]) Q E s:=by
 let#[c,U,v]:=F.called_set.mro;have k:=F.called_set.made;have B:=F.called_set.sub;show wpAny_call<|codeAny_of_tree ?_;change wpAny _ _ (callAny (.type "set") _) _ _ _;show Wp #[Code.quiet_builtin _<|by ac_nf,ć F.entry_type_call ?_];rw[Around.under_plain (weight_type_call_type "set" [↥l] []) Z];have P:=F.called_set.notType;have S:=F.called_set.canCreate;have I:=F.typeCall_set_1<|.ref l;repeat(any_goals(first|assumption|wp_step))
 show š (Ec (E:=E) (Q₁:=λg f=>g=↥⇑s/\f={s with heap:=s.heap.push<|nS w}) ⟨Z,Z⟩) λr f m=>?_;cases r with
 |error e=>show m|ok fl=>cases fl with
  |ret g=>
   let#[rfl,rfl]:=m;have q:(s.heap.push<|nS w).get? ⇑s=!(nS w):=È _ Z;have D:Shared.TypeIs {s with heap:=s.heap.push<|nS w} ↥⇑s "set":=⟨_,q,Z⟩;have L:=F.called_set.init.lookup;have H:=F.called_set.init.bind<|.ref ⇑s;repeat(any_goals(first|assumption|wp_step))
   have j:l<⇑s:=let⟨_,x,_⟩:=u;Ë x;show š (codeAny_call_builtin (R:=wants (λr a=>r=.none/\Q ↥⇑s a) E) F.called_set.init.plain F.entry_set_init<|check_set_init_1 D ?_) λi a d=>?_
   .show ĉ (Yq (E:=λe C=>wants (λr a=>r=.none/\Q ↥⇑s a) E (.error e) C) (Q:=λa=>Q ↥⇑s a) J (Q9 (prog:=prog) (w:=w) (λG=>by rw[G];rfl) q) (u.at λo e=>Jn _ e) (Þ j) N O λh' tk ls es ep t K p M=>?_) (λfin C z=>?_) λ_ _ z=>z;.obtain ⟨_,x,_⟩:=id p.at_;show h h' tk ls es ep t (λb o e=>K b o (Þ<|Ë e)<|Jn _ e) (Ë x) p M
    .obtain ⟨rfl,z⟩:=z;show#[Z,z]
   .cases i with
    |error e=>show d
    |ok fl₂=>cases fl₂ with
     |ret r=>let#[rfl,T]:=d;repeat(any_goals(first|assumption|wp_step))|_=>show d.elim
  |_=>show m.elim
end
end St
namespace L2
open PySem PySem.Spec PyProof.Rows
def lZ(K:Ϗ):ϊ V->Hp->VK->Prop:=λxs H Q=>∃(a:ό)(ss:ϊ ϐ),xs=[↥a]/\SqL K H a (ss.map V.str)/\↑ss<64/\∀r (ns:ϊ ϐ),ns.Nodup->(∀y,y∈ns↔y∈ss)->ns.Pairwise pU->H r=none->Q ↥r (upd H r<|.lst<|ns.map V.str)
theorem tD{c:Type}[DecidableEq c]:∀{l m:ϊ c},l.Nodup->(∀x∈l,x∈m)->↑l<=↑m
 |[],_,_,_=>ä _|x::l,m,hn,h=>by
  have a:=h x Ì;have:=tD (l:=l) (m:=m.erase x) (ï.mp hn).2 λy b=>(Θ<|λ(e:y=x)=>(ï.mp hn).1<|by rw[<-e];show b).mpr<|h y<|Ê _ b;rw[ť a]at this;have:=ġ a;rw[í];rfl'
theorem BK:∀{vs:ϊ ϋ},(∀v∈vs,∃x t,v=.str x t)->StrsAre vs (vs.map St.tx)
 |[],_=>.nil
 |v::r,h=>by let#[x,t,rfl]:=h v Ì;show .cons x t (BK λu a=>h u<|Ê _ a)
def Inv.drew{X:Cx}(I:Inv X gE σ H s)(d:Drawn):Inv X gE σ H {s with drawn:=d}:=#[I.ok,I.os,I.bare,I.base,I.loc,I.cell,I.free,I.freeC,I.pin,I.hok,I.len]
def zm{X:Cx}(g:X.calm=true)(hg:Gl X "sorted")(N:X.mg "sorted"=none)(Y:Gl X "set")(ab:X.mg "set"=none)(ha:PA X [e] t)(U:starEach [.Call (.Name "set" p2) [e] [] pos2] X.env=(false,eval (.Call (.Name "set" p2) [e] [] pos2) X.env)::starEach [] X.env:=by rfl)(ad:backTo pos (starEach [.Call (.Name "set" p2) [e] [] pos2] X.env)=[(false,eval (.Call (.Name "set" p2) [e] [] pos2) X.env)]:=by rfl)(W:starEach [e] X.env=(false,eval e X.env)::starEach [] X.env:=by rfl) (J:(backTo pos2<|starEach [] X.env).any (·.1)=false:=by rfl):PE X (.Call (.Name "sorted" p) [.Call (.Name "set" p2) [e] [] pos2] [] pos) (gw (lZ X.K) t):=by
 intro M s σ H Q I h;show ľ (fW I hg N (by ac_nf:bootBuiltins "sorted"=!(.builtin "sorted")) ?_ (by decide) (by decide));show ũ ?_ U Z;rw[ad];show Ľ ?_;show ľ (fW I Y ab (by ac_nf:bootBuiltins "set"=!(.type "set")) ?_ (by decide) (by decide));show Ċ (bH (ha pos2 M s σ H _ I h) λus s1 ⟨m,H1,D,r1,q1⟩=>?_) W J;let#[a,ss,rfl,hx,ah,q]:=q1;let#[u,rfl,ru]:=r1.one;cases(show u=Value.ref a from ru);let#[am,r,ht,hz]:=D.list hx;have hi:=lC r;show St.Ed (D.ok.hd g) ht.isList (by show hi) () λh' tk L es ep t' hk ac l N=>?_;show Š ?_;have E:es.size=↑L:=by rw[<-l.pm.length_eq,Qb,á]
 have ai:↑L<=↑ss:=tD l.nd λy hy=>(N y).mp hy;show lD (C:=λm s3=>∃f i d x,s3={s1 with heap:=f,toks:=i,drawn:=d}/\(∀b o,s1.heap.get? b=!o->f.get? b=!o)/\⇑s1<=f.objs.size/\StrsAre m x/\x.Perm L)
  (zz:=λm _ j=>∃x,StrsAre j.toList x/\x.Perm L/\sortedS x=true) (λE' R hR=>?_) λm s3 hC=>?_
 .show St.wZ (A:=X.A.in1) (D.ok.hd g) l.at_ (by rw[E,ü];rfl') (λhh B h=>St.Ht hh B (by rw[E,ü];rfl') l.led l.pl h) λf i d m w c O=>hR _ _ #[f,i,d,m.map St.tx,Z,λb o e=>w b o<|hk b o e,Í (â ac) c,BK λv hv=>?_,?_];.obtain ⟨e,me,rfl⟩:=Zp.mp<|O.mem_iff.mp hv;let#[#[k,hk,_],_]:=l.el e me;let#[t1,e1]:=St.zj.mp hk;show#[k,t1,e1]
  .show (O.map _).trans ?_;rw[Ä];show l.pm
 .obtain ⟨f,i,d,x,rfl,w,c,B,K⟩:=hC;have al:↑m=↑L:=by have:=Ö List.length B.strs;rw[Qb]at this;rw[<-K.length_eq];show this
  show#[(),λA' E' P hP=>?_,λj G=>?_]
  .show list_sort_treeK strKind_oneLt (È _ Z) B.keysOf (λaf ag rest e=>keyKind_strs (by rw[<-e];show B)) () λap O hs=>?_;let#[ae,S,f,T]:=sorted_out_str B O hs;show hP _ #[ae,S,f.trans K,T]
  .obtain ⟨z,S,n,T⟩:=G;let#[ee,U]:=GJ f m j;have hr:H1 f.objs.size=none:=D.hok.fresh c;have F:z.Nodup:=n.nodup_iff.mpr l.nd;show#[↥_,_,(D.drew d).laid (t':=i) (a:=f.objs.size) (o:=.lst<|z.map V.str) (λb o hb=>ux<|w b o hb) c<|show ObjOk X.prog X.w _ _ _ (.lst _)from#[?_,j.toList,ee,sy S,?_],Z,q _ z F (λy=>n.mem_iff.trans<|N y) (kO T F) hr];.rw [Qb,n.length_eq,ü];rfl'
   .rw [U]
def xg{X:Cx}(K:Ϗ)(h:X.K=K)(a:X.calm=true)(k:Gl X "sorted")(l:X.mg "sorted"=none)(d:Gl X "set")(f:X.mg "set"=none)(i:PA X [e] t)(j:starEach [.Call (.Name "set" p2) [e] [] pos2] X.env=(false,eval (.Call (.Name "set" p2) [e] [] pos2) X.env)::starEach [] X.env:=by rfl)(g:backTo pos (starEach [.Call (.Name "set" p2) [e] [] pos2] X.env)=[(false,eval (.Call (.Name "set" p2) [e] [] pos2) X.env)]:=by rfl)(c:starEach [e] X.env=(false,eval e X.env)::starEach [] X.env:=by rfl) (b:(backTo pos2<|starEach [] X.env).any (·.1)=false:=by rfl):PE X (.Call (.Name "sorted" p) [.Call (.Name "set" p2) [e] [] pos2] [] pos) (gw (lZ K) t):=h▸zm a k l d f i j g c b
def Hw:ϊ V->Hp->VK->Prop:=λxs H Q=>∃(a:ό)(kvs:ϊ<|Key×V),xs=[↥a]/\Rd H a (.dK kvs)/\Q (.int ↑kvs) H
def Ef{X:Cx}:bV X (.builtin "len") Hw:=by
 intro e s o H n l Q I k h;let#[a,c,rfl,f,q]:=h;let#[u,rfl,j]:=k.one;cases(show u=Value.ref a from j);let#[i,b,m,d,g]:=lJ I.hok f;show call_len_dict b g (by rw[<-↑d];rw[ü]at i;rfl') ?_;rw[<-↑d];show#[.int ↑c,H,I.tok _,#[_,Z],q]
def uD:ϊ V->Hp->VK->Prop:=λxs H Q=>∃(a:ό)(kvs:ϊ<|ϊ Key×V),xs=[↥a]/\H a=!(.dT kvs)/\↑kvs<=1000000/\∀r (zs:ϊ<|ό×ϊ Key),H r=none->zs.map (·.2)=kvs.map (·.1)->(∀z∈zs,H z.1=!(.tup<|z.2.map kV))->Q ↥r (upd H r (.lst (zs.map λz=>V.ref z.1)))
def Qa:∀{l:ϊ<|ϊ Key×V}{m:ϊ<|ϊ Key×ό×ϋ},KT H l m->∃zs:ϊ<|ό×ϊ Key,zs.map (·.2)=l.map (·.1)/\(∀z∈zs,H z.1=!(.tup<|z.2.map kV))/\zs.map (·.1)=m.map λx=>x.2.1:=by intro l m q;induction q with
 |nil=>show#[[],Z,λz h=>μ h Ú,Z]|@cons p q ps qs hq t ih=>
  let#[zs,a,b,c]:=ih;show#[(q.2.1,p.1)::zs,by rw[Ç,Ç,a],λz mz=>?_,by rw[Ç,Ç,c]];rcases Å.mp mz with rfl|mz;.show hq.2.1
  .show b z mz
def xj{X:Cx}(f:X.calm=true):bV X (.type "list") uD:=by
 intro B s σ H xs us Q I W h;let#[a,i,rfl,e,hn,q]:=h;let#[u,rfl,U]:=W.one;cases(show u=Value.ref a from U);let#[hz,m,zz,T,o,n,ep,N,O,P,A,_]:=pG I.hok e;let#[k,C,z2,D]:=Qa T;have l:↑k=↑i:=by have:=Ö List.length C;rwa[Qb,Qb]at this
 have r:↑zz=↑i:=by have:=Ö List.length D;rw[Qb,Qb]at this;rfl'
 have p:n.size=↑i:=by rw[<-á,A,Qb,r]
 show PySem.W.kdl_call (Q0 (prog:=X.prog) (w:=X.w) m O P) (I.ok.hd f) N (by rw[p,ü];rfl') λh' Y d c S R b=>?_;have K:d.toList=k.map λz=>Value.ref z.1:=by
  apply List.ext_getElem?;intro j;rw[ö];by_cases E:j<n.size
  .have t:j<d.size:=by rw[b.1];show E
   let#[e,F,G]:=b.2 j d[j]<|ë t;rw[ë t,G];have v:n.toList[j]?=!e:=by rw[ö];show F
   rw[A,Á]at v;let#[x,L,rfl]:=Î.mp v;have y:(k.map (·.1))[j]?=!x.2.1:=by rw[D,Á,L];rfl
   rw[Á]at y⊢;let#[z,M,J]:=Î.mp y;rw[M];change some (Value.ref x.2.1)=!(Value.ref z.1);rw[J]
  .rw [τ<|by rw[b.1];rfl',Ā<|by rw[Qb,l];rfl']
 show#[↥⇑s,_,I.laid (t':=Y) (o:=.lst<|k.map λz=>V.ref z.1) S (Ã _) #[by rw[Qb,l,ü];rfl',d.toList,c,by rw[K];show mW (g:=λz=>z.1) k,by simpa using R],Z,q _ k (I.hok.fresh<|Ã _) C z2]
def xm:ϊ V->Hp->VK->Prop:=λxs H Q=>∃(a:ό)(kvs:ϊ<|ϊ Key×V),xs=[↥a]/\H a=!(.dT kvs)/\Q (.int ↑kvs) H
def mZ{X:Cx}:bV X (.builtin "len") xm:=by
 intro e s x H p w Q I n h;let#[a,c,rfl,f,q]:=h;let#[u,rfl,m]:=n.one;cases(show u=Value.ref a from m);let#[z,lo,p,d,o,g,r,i,j,k,l,_]:=pG I.hok f;have b:g.size=↑c:=by rw[<-á,l,Qb,ħ d]
 show Nk.Q4 lo j i k (by rw[b];rw[ü]at z;rfl') λt v=>?_;rw[b];show#[.int ↑c,H,I.tok _,#[t,Z],q]
end L2
end
section
namespace L2
open PySem PySem.Spec PyProof.Rows Sx Nk
section
variable{X:Cx}
theorem Qc{k:Nat}(a:Room k A):A.units+12<cLine:=Õ (Ρ (by decide:12<=64) _) a.units
end
end L2
end
section
namespace L2
open PySem PySem.Spec PyProof.Rows Nk
abbrev zp:=iKG (λp:ό×Sk×V=>↥p.1) cL
def q9(f:ObjOk P w H h a<|cL a kvs):∃od es ep xs,h.get? a=!od/\od.ExactDict/\(a==sysModules)=false/\od.data=.dict es ep/\KS kvs xs/\es.toList=xs.map DW/\es.size=↑kvs:=by let#[#[_,y,xs,r,o,es,ep,c,d,e,b,_],_]:=f;show#[o,es,ep,xs,c,d,y,e,r,b,by rw[<-á,b,Qb];show(ħ r).symm]
def Hx:Yl P w (λp:ό×Sk×V=>↥p.1) cL:=by
 intro H h a r t;let#[s,l,k,v,j,m,c,f,e,g,d]:=q9 t;show#[trivial,s,l,k,j,m,c,f,d,λi p b=>?_];let#[_,q,n,o,_,u,_]:=iM i e (À.mp b).1;rw[n]at b;cases b;show#[DW q,by rw[<-ö,g,Á,o];rfl,by change RelV ↥p.1 _;rw[u];rfl]
def xn{X:Cx}(b:PE X l a):PI X c l (zp a):=wL Hx b
end L2
end
section
namespace Nk
open PySem
section
variable{i ep:Nat}
theorem Qd(lo:(d==sysModules)=false)(a:od.ExactDict)(b:s.heap.get? d=!od)(h:Q ↥⇑s {s with heap:=s.heap.push {cls:=.type "dict_items",data:=.fields<|[↥d].toArray}}):∅ (call (.builtin "dict.items") [↥d]) Q E s:=by have T:s.TypeIs ↥d "dict":=#[od,b,a.1];show î F.slot_dict_items T F.entry_dict_items ?_<|F.args_dict_items_1 _;unfold Builtin.«dict.items» Builtin.Dict.noArgs;show Qr<|Qr<|ĺ T<|Wp<|show wpAny _ _ (Builtin.Dict.showsAll d>>=_) _ _ s from ?_;unfold Builtin.Dict.showsAll;rw[lo];show Qr<|Wp<|Qr<|ó<|Wp #[_,Z,h]
theorem Qe(b:s.heap.IsItemsView v d)(c:s.heap.get? d=!od)(a:od.data=.dict es ep)(h:Q ↥⇑s {s with heap:=s.heap.push {cls:=.type "dict_itemiterator",data:=.fields<|[.none,.bool false,↥d,.int 0 0,.int es.size 0,.int ep 0,.none,.none].toArray}}):∅ (pyIter<|.ref v) Q E s:=by let#[o,e,_,f]:=id b;show υ b.typeIs F.slot_dict_items_iter<|î F.slot_dict_items_iter b.typeIs F.entry_dict_items_iter ?_<|F.args_dict_items_iter_1 _;unfold Builtin.«dict_items.__iter__» Builtin.Dict_items.dictOf Builtin.Dict_items.newIterator;show Qr<|Wp<|Qr<|Qr<|ĥ e f (x:=↥d) Z<|Wp<|Qr<|Qr<|Į c a<|Qr<|wpAny_dictEpoch c a ?_;simp only[show Builtin.Dict_items.ownsTuple "dict_itemiterator"=true by decide,Ń];show ó (Wp #[_,Z,"dict_itemiterator",_,#[_,È _ Z,Z],F.slot_dict_itemiterator_next.lookup,?_]) (by simp[sizeOk,Builtin.Dict_items.ownedTupleFields,ü]);simpa[rawInt,Builtin.Dict_items.ownedTupleFields]using h
theorem BL{Q:ύ ϋ->ώ->Prop}(Y:A.handled=none)(c:IsItemIter s.heap it d i es.size ep ok ov)(l:s.heap.get? d=!od)(k:od.data=.dict es ep)(X:∀(hi:i<es.size) h',IsItemIterOut h' it d (i+1) es.size ep es[i].key es[i].val ⇑s->h'.get? ⇑s=!{cls:=.type "tuple",data:=.seq<|[es[i].key,es[i].val].toArray}->h'.objs.size=⇑s+1->(∀b o,b≠it->s.heap.get? b=!o->h'.get? b=!o)->Q (!↥⇑s) {s with heap:=h'})(W:es.size<=i->∀h',Heap.ExtBut it s.heap h'->Q none {s with heap:=h'}):∅ (pyNext<|.ref it) Q E s:=by
 have T:s.TypeIs ↥it "dict_itemiterator":=#[_,c,Z];unfold pyNext;show Qr<|wpAny_attempt<|wpAny_callSpecial?_slot (name:=Str.ofString "__next__") T F.slot_dict_itemiterator_next<|î F.slot_dict_itemiterator_next T F.entry_dict_itemiterator_next ?_<|F.args_dict_itemiterator_next_1 _;have N:Builtin.Dict_items.ownsTuple "dict_itemiterator"=true:=by decide
 have O:¬(Value.ref d==Value.none)=true:=Ï;have f2:¬((i:Int)<0):=();have D:∀{C:ώ}{L:ϖ}{M:϶}{R:String->ώ->Prop},C.TypeIs ↥it "dict_itemiterator"->R "dict_itemiterator" C->wpAny (model prog w) L (typeNameOfWhole<|.ref it) R M C:=λa b=>wpAny_typeNameOfWhole_itemiter a b;repeat(first
  |(show D T ?_)|(show wpAny_fieldsOf c Z ?_)|(show Į l k ?_)|(show wpAny_dictEpoch l k ?_)|(show Wp ?_)|(show Qr ?_)|(simp only[N,Ń])|(rw[γ O])|(rw[γ<|by simp]))
 rw[Ó];rcases Μ i es.size with hi|hi
 .rw [ë hi];dsimp only;show Qr<|Qr<|D T<|Wp<|Qr<|wpAny_isOneOf_itemiter T ?_;change wpAny (model prog w) A.in1 (do setField ↥it 3<|rawInt<|(i:Int)+1;_) _ _ s;show Qr<|ē c (by simp) λh j m=>?_;replace m:Heap.SameBut it s.heap h:=m;replace j:IsItemIter h it d (i+1) es.size ep ok ov:=by unfold IsItemIter;rw[show((i+1:Nat):Int)=(i:Int)+1 by rfl'];simpa[rawInt]using j
  have y:Shared.TypeIs {s with heap:=h} ↥it "dict_itemiterator":=⟨_,j,Z⟩;show Qr<|õ<|Qr<|wpAny_isOneOf_itemiter y<|Qr<|wpAny_isOneOf_itemiter y ?_;change wpAny (model prog w) _ (Builtin.Dict_items.pairFromOwner ↥it 6 es[i].key es[i].val) _ _ {s with heap:=h};unfold Builtin.Dict_items.pairFromOwner Builtin.Dict_items.ownedTupleIsFree;show Qr<|wpAny_newTuple ?_;have v:h.objs.size=⇑s:=m.1;have B:it<⇑s:=Ë c;let#[g,n,t2,z2,zz,G]:∃g,IsItemIter g it d (i+1) es.size ep ok ov/\g.get? ⇑s=!{cls:=.type "tuple",data:=.seq<|[es[i].key,es[i].val].toArray}/\g.objs.size=⇑s+1/\(∀b o,b≠it->s.heap.get? b=!o->g.get? b=!o)/\g=h.push {cls:=.type "tuple",data:=.seq<|[es[i].key,es[i].val].toArray}:=#[_,Jn _ j,by rw[<-v];show È _ Z,by rw[Ĩ,v],λb o f e=>Jn _<|m.extBut b o f e,Z];rw[v];change wpAny (model prog w) _ _ _ _ {s with heap:=h.push {cls:=.type "tuple",data:=.seq<|[es[i].key,es[i].val].toArray}};rw[<-G];clear G j m y v;show Qr<|Qr<|ĥ n Z (x:=.none) Z<|Wp ?_;simp only[Ń];show Qr<|ĥ n Z (x:=ok) Z<|Qr<|ĥ n Z (x:=ov) Z ?_;show Qr<|ē n (by simp) λH P q=>Qr<|ē P (by simp) λI S r=>Qr<|ē S (by simp) λJ U t=>Qr<|ē U (by simp) λp z u=>?_;replace z:IsItemIterOut p it d (i+1) es.size ep es[i].key es[i].val ⇑s:=z;replace q:Heap.SameBut it g H:=q;replace r:Heap.SameBut it H I:=r;replace t:Heap.SameBut it I J:=t;replace u:Heap.SameBut it J p:=u;have K:∀b o,b≠it->g.get? b=!o->p.get? b=!o:=λb o f e=>u.extBut b o f<|t.extBut b o f<|r.extBut b o f<|q.extBut b o f e;show Qr<|ů<|Wp<|Wp #[_,Z,Wp<|X hi p z (K _ _ (ė B) t2) (by rw[u.1,t.1,r.1,q.1,z2]) λb o f e=>K b o f<|zz b o f e]
 .rw [τ hi];dsimp only;show Qr<|Qr<|D T<|Wp ?_;change wpAny (model prog w) A.in1 (do setField ↥it 2 .none;_) _ _ s;show Qr<|ĩ c Z (by simp)<|L2.uo Y (è ..)<|W hi
end
end Nk
namespace L2
open PySem PySem.Spec PyProof.Rows Nk
variable{k:Nat}
def zq(od:Obj)(a:ό)(kvs:ϊ<|ό×Sk×V):It where
 go:=λi H=>H a=!(.frz od<|cL a kvs)/\i<↑kvs
 yld:=λi H v H'=>∃p q,H p=none/\kvs[i]?=!q/\v=↥p/\H'=upd H p (.tup [↥q.1,q.2.2])
 stop:=λi H=>H a=!(.frz od<|cL a kvs)/\↑kvs<=i
theorem xq{P:ϓ}{K:Ϗ}(g a:ό){F:Obj}{C:ϔ DictEntry}{ep:Nat}(f:F.data=.dict C ep):Turn P w K (.Tuple elts k tpos) (zq F a kvs) [g] g (λi h=>∃ok ov,IsItemIter h g a i C.size ep ok ov)where
 mem:=by simp
 obj:=λi h d b hb=>by let#[ok,ov,d]:=d;rw[Zs.mp hb];show#[_,d,λv z=>by cases z]
 keep:=λi h h' ⟨ok,ov,d⟩ y=>#[ok,ov,y g (by simp) _ d]
 item:=by
  intro X N Y M O i A s σ H E I D d R;subst N Y M;let#[ok,ov,d]:=d;let#[G,S]:=R;let#[m,ok]:=(show ObjOk X.prog X.w H s.heap a (.frz F<|cL a kvs)from I.hok a _ G);let#[o,L,J,xs,j,_,_,l,B,zz,U]:=q9 ok;rw[m]at j;cases j;rw[f]at l;cases l;show BL (I.ok.hd O) d m f (λT h' a1 a3 a4 a5=>?_) λn=>μ S ();show#[_,Z,wpAny_letOwnedTupleGo_items a1 λr b1 T=>?_];have hT:⇑s≠g:=ė<|Ë d;let#[p,q,hk,hx,_,r2,r3]:=iM i B S;have Q:C[i]'(by rfl')=DW q:=by
   have:C.toList[i]?=!(DW q):=by rw[zz,Á,hx];rfl
   rw[ö,ë ()]at this;show Ý this
  have y:∀c o,c∉[g]->s.heap.get? c=!o->r.get? c=!o:=λc o e q=>by
   have t:c≠g:=λz=>e<|by rw[z];simp
   show T.extBut _ _ t<|a5 c o t q
  have e5:r.get? ⇑s=!{cls:=.type "tuple",data:=.seq<|[↥p.1,q.2.2].toArray}:=by
   have:=T.extBut _ _ hT a3;rw[Q]at this;rw[r2];show this
  let#[u,I2]:=I.yields (t':=s.toks) y D (x:=↥p.1) Z r3 e5;show#[↥⇑s,_,I2,Z,#[_,p,u,hk,Z,Z],#[_,_,b1],λc e=>?_];rw[Zs.mp e,aq<|Þ<|Ë d];show(D g<|by simp).1
 done:=by
  intro X N Y M O i A s σ H E I D d R;subst N Y M;let#[ok,ov,d]:=d;let#[G,S]:=R;let#[m,ok]:=(show ObjOk X.prog X.w H s.heap a (.frz F<|cL a kvs)from I.hok a _ G);let#[o,L,J,xs,j,_,_,l,B,zz,U]:=q9 ok;rw[m]at j;cases j;rw[f]at l;cases l;show BL (I.ok.hd O) d m f (λn=>μ n ()) λ_ h' y=>#[Z,I.turnedAll (t':=s.toks) (λc o e q=>y c o (λz=>e<|by rw[z];simp) q) D]
 self:=λ_ _ _ _ _ ⟨_,_,d⟩ h=>PySem.W.kcp_self d h
abbrev BP(tl:TE):TI:=λσ H R=>tl σ H λx H1=>∃a kvs,x=↥a/\((H1 a=!(cL a kvs)/\∀od,R (zq od a kvs)<|upd H1 a<|.frz od<|cL a kvs)\/∃od,H1 a=!(.frz od<|cL a kvs)/\R (zq od a kvs) H1)
theorem Eg{X:Cx}(E:PE X o y)(g:attributeBase o "items" X.env (eval o X.env)=eval o X.env:=by rfl)(i:(c.endLine==d.line)=true:=by rfl):PI X (.Tuple elts k tpos) (.Call (.Attribute o "items" c) [] [] d) (BP y):=by
 intro f s z H R I h;show ι g i<|bH (E f s z H _ I h) λv m ob=>?_;let#[x,J,A,G,F]:=ob;let#[a,u,rfl,q]:=F;cases(show v=Value.ref a from G);let#[l,n,N,M,B,L,q,j,r,t,w]:=Hf (R:=λl n=>R (zq l a u) n) Hx A q;show#["dict","dict.items",ō,ν,PySem.F.type_dict_items,#[l,j,r.1],λK C=>by cases C;show#[l,j,r.2.1],Ġ Z<|PySem.evalArgs_none<|Qd t r j ?_];show Qe #[_,È _ Z,Z,Z] (Jn _ j) w ?_;have p:Inv X f z n {m with heap:=m.heap.push {cls:=.type "dict_items",data:=.fields<|[↥a].toArray}}:=B.kept (t':=m.toks) λb ob q=>Jn _ q;show#[_,[_],_,_,_,Z,p.kept (t':=m.toks) λb o e=>Jn _ e,xq _ a w,#[_,_,È _ Z],λb D=>?_,q];rw[Zs.mp D];show p.fpOk (Ã _)<|p.hok.fresh<|Ã _
end L2
end
section
namespace Nk
open PySem
theorem Hy{a b:Type}{f:a->b}:∀(l:ϊ a)(i:Nat),(l.map f).eraseIdx i=(l.eraseIdx i).map f
 |[],_=>Z|_::_,0=>Z|x::l,i+1=>Ö (f x::·)<|Hy l i
section
variable{prog:ϓ}{w:ϕ}{K:Type}[DecidableEq K]{knd:HeapKind prog w K}{A:ϖ}{E:϶}{s:ώ}{d a:ό}{k:K}{xs:ϊ (K×ό×ϋ)}
theorem Hz(u:knd.room A)(b:knd.is s.heap k a)(F:s.heap.DictOfH knd d xs)(G:↑xs<=sizeLine)(n:∀(j:Nat)(p:ό×ϋ),xs[j]?=!(k,p)->Q p.2 {s with toks:=s.toks+knd.draws k})(m:k∉xs.map (·.1)->∀h',h'.DictOfH knd d (xs++[(k,a,v)])->Heap.SameBut d s.heap h'->Q v {s with heap:=h',toks:=s.toks+knd.draws k}):∅ (dictSetDefault d ↥a v) Q E s:=by
 let#[o,H,C,g,D,c,h,f,t]:=F;unfold dictSetDefault;show õ<|Qr<|knd.pyHash u b<|Qr<|wpAny_dictFind_heap (s:={s with toks:=s.toks+knd.draws k}) u b g c h f t (λl=>?_) λj p r=>?_
 .have B:k∉xs.map (·.1):=not_mem_keys_of_get l;show Qr<|į<|Qr<|wpAny_updateDictKeys (hz:=by have e:=size_of_entries h;rfl') (s:={s with toks:=s.toks+knd.draws k}) g c<|Wp<|m B _ ⟨_,_,C+1,ñ _ g<|Obj.isFreed_of_dict<|Ι c _,D.mapDictKeys _,Ι c _,by simp[h,entryOfKey],λx hx=>?_,?_⟩<|è ..
  .have i:knd.is s.heap x.1 x.2.1:=by
    rcases Æ.mp hx with hx|hx;.show f x hx
    .rw [Zs.mp hx];show b
   show knd.keeps i g c<|è ..
  .rw [Â,å];show#[t,by simp,λx hx y z e=>B (by rw[Ç,Đ,Zs]at z;have q:x=k:=e.trans z;rw[<-q];show hx)]
 .show Qr<|Į (s:={s with toks:=s.toks+knd.draws k}) g c ?_;rw[entry_at h j,r];show Qr<|į<|Wp<|n j p r
theorem HB{j:Nat}(C:knd.room A.in1)(b:knd.is s.heap k a)(B:s.heap.DictOfH knd d xs)(g:xs[j]?=!(k,p))(L:↑xs<=sizeLine)(h:∀h',h'.DictOfH knd d (xs.eraseIdx j)->Heap.SameBut d s.heap h'->Q p.2 {s with heap:=h',toks:=s.toks+knd.draws k}):∅ (call (.builtin "dict.pop") [↥d,↥a]) Q E s:=by
 have T:=B.typeIs;let#[o,y,I,e,J,c,l,f,t]:=B;show î F.slot_dict_pop T F.entry_dict_pop ?_<|F.args_dict_pop_2 _ _;unfold Builtin.«dict.pop» Builtin.Dict.keyAndDefault;show Qr<|Qr<|ĺ T<|show wpAny _ _ (pure (d,Value.ref a,none)) _ _ s from Wp ?_;have v:y.size=↑xs:=size_of_entries l;have K:j<↑xs:=(À.mp g).1;have N:y.isEmpty=false:=by rw[Array.isEmpty_eq_false_iff];intro z;rw[z]at v;simp at v;rfl'
 dsimp only;rw[show(keyPart<|Value.ref a).isSome=false from Z];simp-iota only[Û,ċ];show Qr<|Į e c<|Qr<|Wp ?_;rw[N];simp-iota only[Û,ċ];unfold Builtin.Dict.takeOut;show Qr<|õ<|Qr<|knd.pyHash C b<|Qr<|wpAny_dictFind_heap (s:={s with toks:=s.toks+knd.draws k}) C b e c l f t (λu=>μ g<|u j p) λi q m=>?_;have n:i=j/\q=p:=by
  have r:i<↑xs:=(À.mp m).1;have D:(xs.map (·.1))[i]?=!k:=by rw[Á,m];rfl
  have G:(xs.map (·.1))[j]?=!k:=by rw[Á,g];rfl
  have H:i=j:=(List.getElem?_inj (by rw[Qb];show r) t).mp<|D.trans G.symm;subst H;rw[m]at g;cases g;show#[Z,Z]
 let#[rfl,rfl]:=n;show Qr<|Į (s:={s with toks:=s.toks+knd.draws k}) e c ?_;rw[entry_at l i,m];show Qr<|wpAny_updateDictKeys (hz:=()) (s:={s with toks:=s.toks+knd.draws k}) e c<|Wp ?_;dsimp only;simp-iota only[Option.isNone_some,Û,ċ];show Qr<|ů<|Wp #[_,Z,h _ #[_,_,I+1,ñ _ e<|Obj.isFreed_of_dict<|Ι c _,J.mapDictKeys _,Ι c _,?_,λx M=>knd.keeps (f x<|List.mem_of_mem_eraseIdx M) e c<|è ..,?_]<|è ..];.rw [Array.eraseIdxIfInBounds,dif_pos (),Array.toList_eraseIdx,l];show Hy _ _
 .show Ē (List.Sublist.map _<|List.eraseIdx_sublist _ _) t
end
end Nk
namespace L2
open PySem PySem.Spec PyProof.Rows Nk
def KT.drop(r:KT H kvs d):∀{j:Nat},(d.map (·.1)).Nodup->d[j]?=!(k,p)->KT H (eQ kvs k) (d.eraseIdx j):=by induction r with
 |nil=>intro j _ h;cases h|@cons p0 q0 ps qs h0 t ih=>
  intro j c f;rw[Ç,ï]at c;have b:∀{l:ϊ<|ϊ Key×V}{m:ϊ<|ϊ Key×ό×ϋ},KT H l m->m.map (·.1)=l.map (·.1):=λr=>by induction r with
   |nil=>rfl|cons h _ ih=>rw[Ç,Ç,ih,h.1]
  cases j with
  |zero=>
   cases f;have g:p0.1=k:=h0.1;have e:eQ (p0::ps) k=ps:=by
    unfold eQ;rw[ŀ,γ (by simp[g]),List.filter_eq_self];intro y i;have:y.1≠k:=λz=>c.1 (by rw[b t];show Zp.mpr #[y,i,z]);show Ô this
   rw[e];show t|succ j=>
   have a:qs[j]?=!(k,p):=f;have n:p0.1≠k:=λz=>c.1<|Zp.mpr #[(k,p),Yf a,(h0.1.symm.trans z).symm];have e:eQ (p0::ps) k=p0::eQ ps k:=by unfold eQ;rw[ŀ,β<|Ô n]
   rw[e];show .cons h0<|ih c.2 a
def V6{b:ϊ<|ϊ Key×ό×ϋ}(h:atKey b k=!p):∃j:Nat,b[j]?=!(k,p):=by let#[#[d,f],a,rfl]:=Î.mp h;let#[j,c]:=ā.mp<|Ģ a;have e:=ź a;show#[j,by rw[c,show d=k from ô e]]
section
variable{X:Cx}
theorem V7(M:A.units+1<cLine)(I:Inv X gE σ H s)(e:H a=!(.dT kvs))(x:H b=!(.tup<|k.map kV))(l:bu kvs k=!v)(h:∀m s',Inv X gE σ (upd H a<|.dT<|eQ kvs k) s'->RelV v m->Q m s'):wpAny (model X.prog X.w) A (call (.builtin "dict.pop") [↥a,↥b]) Q E s:=by
 let#[z,J,w,d,n]:=pG I.hok e;let#[m,N,i]:=RelO.some_of (v:=v) (o:=(atKey w k).map (·.2)) (by rw[<-l];show d.val k);let#[p,K,rfl]:=Î.mp N;let#[j,t]:=V6 K;have g:(w.map (·.1)).Nodup:=by let#[_,_,_,_,_,_,_,_,g]:=n;show g
 show HB (Ŗ M) (jD I.hok x) n t (by rw[<-ħ d];show z) λO f L=>h _ _ ?_ i;let#[q,B,y,u,C,D,F,_,G]:=f;show jc I (by rw[e];show True.intro) L ⟨q,u⟩ ⟨Nat.le_trans (Gi kvs k) z,J,_,(d.drop g t).keeps λc P r=>?_,q,B,y,u,C,D,F,G⟩;rw[aq (dm r e (λz=>nomatch z))];show r
theorem V8{z:V}(O:A.units+1<cLine)(I:Inv X gE σ H s)(e:H a=!(.dT kvs))(o:H b=!(.tup<|k.map kV))(U:↑kvs<sizeLine)(P:RelV z r)(K:∀v y s',bu kvs k=!v->Inv X gE σ H s'->RelV v y->Q y s') (L:∀s',bu kvs k=none->Inv X gE σ (upd H a<|.dT<|kvs++[(k,z)]) s'->Q r s'):wpAny (model X.prog X.w) A (call (.builtin "dict.setdefault") [↥a,↥b,r]) Q E s:=by
 let#[R,u,h,d,i]:=pG I.hok e;have T:=i.typeIs;show î PySem.F.slot_dict_setdefault T PySem.F.entry_dict_setdefault ?_<|PySem.F.args_dict_setdefault_3 _ _ _;unfold Builtin.«dict.setdefault» Builtin.Dict.keyAndDefault;show Qr<|Qr<|ĺ T<|show wpAny _ _ (pure (a,Value.ref b,!r)) _ _ s from Wp ?_;dsimp only;rw[u];simp-iota only[Û,ċ];have n:(h.map (·.1)).Nodup:=by let#[_,_,_,_,_,_,_,_,n]:=id i;show n
 show Qr<|Hz (A:=A.in1) (Ŗ O) (jD I.hok o) i (by rw[<-ħ d];show R) (λj p M=>Wp #[_,Z,?_]) λx S l N=>Wp #[_,Z,?_];.have m:atKey h k=!p:=atKey_of_get n M;have:=d.val k;rw[m]at this;cases f:bu kvs k with
  |none=>rw[f]at this;show μ this (λz=>nomatch z)|some v=>rw[f]at this;show K v _ _ f (I.tok _) this
 .have f:bu kvs k=none:=by
   have m:atKey h k=none:=Sy.sZ x;have:=d.val k;rw[m]at this
   cases f:bu kvs k with
   |none=>rfl|some v=>rw[f]at this;show μ this<|λz=>nomatch z
  show L _ f ?_;let#[q,C,B,w,D,F,G,_,J]:=l;have g:KT H (kvs++[(k,z)]) (h++[(k,b,r)]):=by have:=d.put k (b:=b) o P;rw[show putK kvs k z=kvs++[(k,z)]from cT _ f,storedH_new<|Sy.sZ x]at this;show this
  show jc I (by rw[e];show True.intro) N ⟨q,w⟩ ⟨by rw[É,ã];rfl',u,_,g.keeps λc W t=>?_,q,C,B,w,D,F,G,J⟩;rw[aq<|dm t e<|λz=>nomatch z];show t
end
abbrev RK(td ty:TE):TE:=λσ H Q=>td σ H λx H1=>∃a,x=↥a/\IsD H1 a/\ty σ H1 λy H2=>∃kvs k b v,H2 a=!(.dT kvs)/\y=↥b/\H2 b=!(.tup<|k.map kV)/\bu kvs k=!v/\Q v (upd H2 a<|.dT<|eQ kvs k)
def HD(td ty tx:TE):TE:=λσ H Q=>td σ H λx H1=>∃a,x=↥a/\IsD H1 a/\ty σ H1 λy H2=>tx σ H2 λz H3=>∃kvs k b,H3 a=!(.dT kvs)/\y=↥b/\H3 b=!(.tup (k.map kV))/\↑kvs<sizeLine/\(∀v,bu kvs k=!v->Q v H3)/\(bu kvs k=none->Q z (upd H3 a (.dT (kvs++[(k,z)]))))
section
variable{X:Cx}
theorem Qf(B:X.A.units+1<cLine)(A:PE X o td)(z:PE X e ty)(m:M1 X o "pop" apos e cpos):PE X (.Call (.Attribute o "pop" apos) [e] [] cpos) (RK td ty):=by
 intro c s i H Q I h;show wpAny_Call_method m.base m.few m.line ō PySem.F.slot_dict_pop PySem.F.type_dict_pop<|bH (A c s i H _ I h) λu K ob=>?_;let#[x,j,g,G,a,t,d,E]:=ob;subst t;obtain rfl:u=Value.ref a:=G;let#[L,M,_]:=yO g d;show#[L,M,?_];rw[m.trees];show Ġ Z<|Ζ<|Ľ<|bH (z c K i j _ g E) λC O ob=>?_;let#[y,N,n,J,D,k,b,v,q,w,r,l,F]:=ob;show Š ?_;subst w;cases(show C=Value.ref b from J);show V7 B n q r l λR P p f=>#[v,_,p,f,F]
theorem Qg(L:X.A.units+1<cLine)(K:PE X o td)(F:PE X e ty)(G:PE X f tx)(m:M2 X o "setdefault" apos e f cpos):PE X (.Call (.Attribute o "setdefault" apos) [e,f] [] cpos) (HD td ty tx):=by
 intro c s j H Q I h;show wpAny_Call_method m.base m.few m.line ō PySem.F.slot_dict_setdefault PySem.F.type_dict_setdefault<|bH (K c s j H _ I h) λu W ob=>?_;let#[x,q,n,T,a,D,d,O]:=ob;subst D;obtain rfl:u=Value.ref a:=T;let#[t1,t2,_]:=yO n d;show#[t1,t2,?_];rw[m.trees];show Ġ Z<|Ζ<|Ľ<|bH (F c W j q _ n O) λM Y ob=>?_;let#[y,r,w,U,P]:=ob;show Ľ<|bH (G c Y j r _ w P) λfv s3 ob=>?_;let#[z,t,A,p,N,k,b,B,E,C,J,R,S]:=ob;show Š ?_;subst E;cases(show M=Value.ref b from U);show V8 L A B C J p (λv w' zz l g i=>#[v,t,g,i,R v l]) λzz l g=>#[z,_,g,p,S l]
end
end L2
end
section
namespace Nk
open PySem
section
variable{n:Nat}
def RL(prog:ϓ)(w:ϕ)(A:ϖ)(P:Nat->ϋ->Prop)(St:Nat->ϒ->Prop)(bt:Nat->Nat->ϑ):Prop:=∀m i j x y (s:ώ) (Q:϶) (E:϶),St m s.heap->P i x->P j y->Q (.bool<|bt i j) s->∅ (richCompare .Lt x y) Q E s
theorem oR:(toString "min"++toString ".loop":String)="min.loop":=by decide
theorem Qh(W:Walks prog w A.in1 I fp wr n P St)(D:RL prog w A.in1 P St bt)(r:S∉fp):∀(k j:Nat)(s:ώ)(x:ϋ)(c:Nat),n=j+1+k->St (j+1) s.heap->P (argBest bt j) x->s.heap.get? S=!{cls:=.type "list",dict:=none,data:=.seq ([x,x].toArray) c,slots:=([].toArray)}->(∀v h' tk,P (argBest bt<|n-1) v->(∀b o,b∉wr->b≠S->s.heap.get? b=!o->h'.get? b=!o)->R (.ok<|.ret v) {s with heap:=h',toks:=tk})->codeAny (model prog w) A (.builtin "min.loop" #[[↥I,.none,↥S],[]]) R s:=by
 have t:S∉wr:=λh=>r<|W.sub _ h;intro k;induction k with
 |zero=>intro j s x c M K C q B;have L:j+1=n:=M.symm;show ć F.entry_min_loop ?_;rw[ý Œ _];show Qr<|ě q Z<|Qr<|ψ<|W.done s _ _ (L▸K) λh' tk p=>?_;have d:=p S _ t q;show Qr<|Ψ d Z<|Qr<|ů<|Wp<|B x _ tk (by rw[<-L];show C) λb o m a e=>?_;rw[Ĉ _ _<|Ne.symm a];show p b o m e|succ k ih=>
  intro j s x c M K C q B;show ć F.entry_min_loop ?_;rw[ý Œ _];show Qr<|ě q Z<|Qr<|ψ<|W.item (j+1) s _ _ () K λy h' tk N i p=>?_;have d:=p S _ t q;have u:∀{f:Obj->Obj}{b:ό}{o:Obj},b≠S->h'.get? b=!o->(h'.update S f).get? b=!o:=λm e=>by rw[Ĉ _ _<|Ne.symm m];show e
  change wpAny _ A.in1 (tryCatch (holding [y,y]<|richCompare .Lt y x>>=_) _>>=_) _ _ _;show Qr<|ψ<|õ<|Qr<|D _ (j+1) (argBest bt j) y x _ _ _ i N C<|Qr<|õ<|Ė<|Qr<|ů<|Wp ?_;cases m:bt (j+1) (argBest bt j)with
  |true=>simp-iota only[Ń];show Qr<|Ψ d Z<|Qr<|ů ?_;rw[oR];show Wp #[plainId_quiet Œ _,ih (j+1) _ y _ () (W.frame _ _ _ i λb G o e=>u (λz=>r<|z▸G) e) (by rw[argBest,β m];show N) (ñ _ d Z) λv E l H J=>B v E l H λb o g a e=>J b o g a<|u a<|p b o g e]|false=>simp-iota only[Û,ċ];show Qr<|ů ?_;rw[oR];show Wp #[plainId_quiet Œ _,ih (j+1) _ x c () i (by rw[argBest,γ<|by rw[m];decide];show C) d λv E l H J=>B v E l H λb o g a e=>J b o g a<|p b o g e]
theorem HF (h:wpAny (model prog w) A.in1 (pyIter x) (λit s₂=>∃I fp wr n P St bt,it=↥I/\Walks prog w A.in1 I fp wr n P St/\St 0 s₂.heap/\(∀b∈fp,b<⇑s₂)/\0<n/\RL prog w A.in1 P St bt/\∀v h' tk,P (argBest bt<|n-1) v->(∀b o,b∉wr->s₂.heap.get? b=!o->h'.get? b=!o)->Q v {s₂ with heap:=h',toks:=tk}) E s):∅ (call (.builtin "min") [x]) Q E s:=by
 show call_function_tree F.kind_min F.plain_min F.entry_min (F.args_min1 _) ?_;change wpAny _ A.in1 (Builtin.Builtins.bindParams "min" ["key","default"] 0 #[[],[]]>>=_) _ _ s;show Qr<|wpAny_of_eq (a:=[none,none]) Z<|Qr<|Wp<|Qr<|ĉ h (λit s₂ j=>?_) λ_ _ e=>e;let#[I,fp,wr,n,P,St,bt,rfl,W,N,q,J,l,D]:=j;show Qr<|ó ?_;have c:⇑s₂∉fp:=λH=>Ď _<|q _ H;have m:⇑s₂∉wr:=λh=>c<|W.sub _ h;rw[oR];show Wp #[plainId_quiet Œ _,ć F.entry_min_loop ?_];rw[ý Œ _];have u:(s₂.heap.push {cls:=.type "list",data:=.seq<|[].toArray}).get? ⇑s₂=!{cls:=.type "list",dict:=none,data:=.seq ([].toArray) 0,slots:=([].toArray)}:=È _ Z;show Qr<|ě u Z<|Qr<|ψ<|W.item 0 _ _ _ J (W.frame _ _ _ N λb _ o e=>Jn _ e) λy h' tk L r B=>?_;have d:=B ⇑s₂ _ m u;have k:∀{f:Obj->Obj}{b:ό}{o:Obj},b≠⇑s₂->h'.get? b=!o->(h'.update ⇑s₂ f).get? b=!o:=λG e=>by rw[Ĉ _ _<|Ne.symm G];show e
 change wpAny _ A.in1 (updateSeq ⇑s₂ (λ_=>([y,y].toArray))>>=_) _ _ _;show Qr<|Ψ d Z ?_;rw[oR];show Wp #[plainId_quiet Œ _,Qh W l c (n-1) 0 _ y _ () (W.frame _ _ _ r λb p o e=>k (λz=>c<|z▸p) e) L (ñ _ d Z) λv C t K M=>D v C t K λb o i e=>?_];have g:b≠⇑s₂:=Þ<|Ë e;show M b o i g<|k g<|B b o i<|Jn _ e
end
end Nk
namespace L2
open PySem PySem.Spec PyProof.Rows Nk
theorem xr(f:Nat->ϊ Int):∀k,argBest (λi j=>HT.lexLt (f i)<|f j) k<=k/\∀j,j<=k->HT.lexLt (f j) (f<|argBest (λi j=>HT.lexLt (f i)<|f j) k)=false
 |0=>#[Nat.le_refl _,λj a=>by rw[Nat.le_zero.mp a];show uz _]|k+1=>by
  let#[d,c]:=xr f k;rw[argBest];split
  .rename_i b;show#[Nat.le_refl _,λj a=>?_];rcases ζ a with a|rfl;.show Hq (wV b)<|c j ()
   .show uz _
  .rename_i b;show#[(),λj a=>?_];rcases ζ a with a|rfl;.show c j ()
   .show Bool.eq_false_iff.mpr b
def HH:ϊ V->Hp->VK->Prop:=λvs H Q=>∃(a:ό)(kvs:ϊ<|ϊ Int×V),vs=[↥a]/\H a=!(.dT<|kvs.map λp=>(p.1.map Sum.inl,p.2))/\kvs≠[]/\∀b k,H b=!(.tup<|k.map V.int)->k∈kvs.map (·.1)->(∀k'∈kvs.map (·.1),HT.lexLt k' k=false)->Q ↥b H
def Ei{X:Cx}(hc:X.calm=true)(hu:X.A.units+1<cLine):bV X (.builtin "min") HH:=by
 intro ad s σ H vs us Q I rv h;let#[a,c,rfl,ea,ac,q]:=h;let#[u,rfl,ru]:=rv.one;cases(show u=Value.ref a from ru);let#[z,hd,w,T,dd]:=pG I.hok ea;let#[o,Y,ep,N,ab,L,he,_,hn]:=dd;have G:↑c=↑w:=by have:=ħ T;rw[Qb]at this;show this
 have ae:Y.size=↑c:=by rw[<-á,he,Qb,G]
 have R:0<↑c:=Ő.mpr ac;have d:∀{i:Nat}{x},w[i]?=!x->∃p,c[i]?=!p/\H x.2.1=!(.tup<|p.1.map V.int):=λ{i x} f=>by
  have F:i<↑c:=by rw[G];show(À.mp f).1
  let#[p,y,h1,h2,h3,h4,_]:=iM i T (by rw[Qb];show F);rw[f]at h2;cases h2;rw[Á]at h1;let#[p',E,rfl]:=Î.mp h1;show#[p',E,?_];rw[h4,Ä];rfl
 have n:∀{i:Nat}{x p},w[i]?=!x->c[i]?=!p->∃g:ϊ ϋ,IsTup s.heap x.2.1 g.toArray/\IntsAre g p.1:=λ{i x p} f t=>by
  let#[p',E,e2]:=d f;rw[t]at E;cases E;let#[g,r,ht,_]:=I.tuple<|gL (K:=X.K) e2;show#[g,ht,lY r]
 let#[S,B]:∃S:Nat->ϊ Int,∀{i p},c[i]?=!p->S i=p.1:=⟨λi=>((c[i]?).map λp=>p.1).getD [],λ{i p} t=>by dsimp only;rw[t];rfl⟩;show HF (pQ hd ⟨o,N,ab.1⟩ N L ⟨⇑s,⇑s::a::w.map (·.2.1),[⇑s],↑c,(λi v=>∃x,w[i]?=!x/\v=↥x.2.1),(λi h=>h.IsKeyIter ⇑s a i Y.size ep/\h.get? a=!o/\∀x∈w,∀ob,s.heap.get? x.2.1=!ob->h.get? x.2.1=!ob),(λi j=>HT.lexLt (S i)<|S j),Z,?W,⟨⟨_,È _ Z,Z,Z⟩,Jn _ N,λx _ ob e=>Jn _ e⟩,?lt,R,?cmp,λv M tk hv kp=> ?fin⟩)
 case lt=>
  intro b hb;rw[show(s.heap.push {cls:=.type "dict_keyiterator",data:=.fields<|[↥a,.int 0 0,.int Y.size 0,.int ep 0].toArray}).objs.size=⇑s+1 from Ĩ ..];rcases Å.mp hb with rfl|hb;.show Ĕ _
  rcases Å.mp hb with rfl|hb;.show ģ<|Ë N
  let#[x,D,rfl]:=Zp.mp hb;let#[i,F]:=ā.mp D;let#[p,t,_]:=d F;let#[g,#[ob,E,_],_]:=n F t;show ģ<|Ë E
 case cmp=>rintro m i j x y U Q' zz ⟨_,_,hk⟩ ⟨x',f,rfl⟩ ⟨y',hy,rfl⟩ J;let#[p1,O,_]:=d f;let#[p2,P,_]:=d hy;let#[i1,#[o1,g1,r1],n1]:=n f O;let#[i2,#[o2,g2,r2],n2]:=n hy P;dsimp only at J;rw[B O,B P]at J;show HT.yF (A:=X.A.in1) #[o1,hk x' (Yf f) _ g1,r1] #[o2,hk y' (Yf hy) _ g2,r2] n1 n2 (by change X.A.units+1<cLine;show hu) J
 case W=>
  have na:a≠⇑s:=Þ<|Ë N;have nx:∀x∈w,x.2.1≠⇑s:=λx D=>by let#[i,F]:=ā.mp D;let#[p,t,_]:=d F;let#[g,#[ob,E,_],_]:=n F t;show Þ<|Ë E
  show#[λb hb=>by rw[Zs.mp hb];show Ì,λi h M l k=>#[l.1.at λob e=>k _ Ì ob e,k a (Ê _ Ì) _ l.2.1,λx D ob e=>k _ (Ê _<|Ê _<|Zp.mpr #[x,D,Z]) _<|l.2.2 x D ob e],λi U Q' zz F l J=>?_,λU Q' zz l J=>?_,λi U Q' zz l hq=>wpAny_pyIter_keyiter l.1 hq]
  .show wB (I.ok.hd hc) l.1 l.2.1 L () λM a1 a2=>J _ M U.toks ?_ #[a1,(a2.2 a na).trans l.2.1,λx D ob e=>(a2.2 _<|nx x D).trans<|l.2.2 x D ob e] λb ob hb e=>(a2.2 b λz=>hb (by rw[z];simp)).trans e;have f:w[i]?=!(w[i]'(by rfl')):=Zl ();show#[_,f,?_];have:Y.toList[i]?=!(entryOfKey (tupleKind<|bI X.prog X.w) (w[i]'(by rfl'))):=by rw[he,Á,f];rfl
   rw[ö,ë ()]at this;rw[Ý this];rfl
  .show Br (I.ok.hd hc) l.1 l.2.1 L () λM eb=>J M U.toks λb ob hb e=>eb b ob (λz=>hb (by rw[z];simp)) e
 case fin=>
  let#[x,f,rfl]:=hv;let#[p,t,e2]:=d f;let#[b1,b2]:=xr S<|↑c-1;show#[↥x.2.1,H,I.kept (t':=tk) λb ob e=>kp b ob (λz=>?_)<|Jn _ e,Z,q _ _ e2 (Zp.mpr #[p,Yf t,Z]) λk' mk=>?_];.show μ (Zs.mp z)<|Þ<|Ë e
  .obtain ⟨p',C,rfl⟩:=Zp.mp mk;let#[j,hj]:=ā.mp C;have af:=(À.mp hj).1;have:=b2 j ();rw[B hj,B t]at this;show this
end L2
end
section
namespace Nk
open PySem PySem.Spec PyProof PyProof.Rows
mutual def BR:PyData->PyData->ϑ
 |.int a,.int b=>decide (a<b)|.str x,.str y=>decide (x.cps.toList<y.cps.toList)|.tuple xs,.tuple ys=>qW xs ys|_,_=>false def qW:ϊ PyData->ϊ PyData->ϑ
 |[],[]=>false|[],_::_=>true|_::_,[]=>false|x::xs,y::ys=>if PyData.eqv x y=true then qW xs ys else BR x y end
mutual inductive CmpD:PyData->PyData->Prop where|int (a b:Int):CmpD (.int a) (.int b)|str (x y:ϐ):CmpD (.str x) (.str y)|tup {xs ys:ϊ PyData}:CmpDs xs ys->CmpD (.tuple xs) (.tuple ys)inductive CmpDs:ϊ PyData->ϊ PyData->Prop where|nil {ys:ϊ PyData}:CmpDs [] ys|over {xs:ϊ PyData}:CmpDs xs []|cons {x y:PyData} {xs ys:ϊ PyData}:CmpD x y->CmpDs xs ys->CmpDs (x::xs) (y::ys)end
section
def HJ(r:ReadsAll h c ds d):↑c=↑ds:=by induction c generalizing ds d with
 |nil=>cases r;rfl|cons v c ih=>cases r with|cons a b=>show Ö (· +1)<|ih b
def V9{m:Nat}{h:Type}{f:ϋ×ϋ->h->Sem (ForInStep h)}{i:h}{g:ϑ->h}(r:∀x y d e j k (Q:ForInStep h->ώ->Prop),d.depth<=m->Reads s.heap x d j->Reads s.heap y e k->CmpD d e->PyData.canLay0 d=true->PyData.canLay0 e=true->(if PyData.eqv d e=true then Q (.yield i) s else Q (.done<|g<|BR d e) s)->∅ (f (x,y) i) Q E s):∀(xs ys:ϊ ϋ)(ds es:ϊ PyData)(j k:ϊ ό)(Q:h->ώ->Prop),PyData.depthAll ds<=m->ReadsAll s.heap xs ds j->ReadsAll s.heap ys es k->CmpDs ds es->PyData.canLayAll0 ds=true->PyData.canLayAll0 es=true->(qW ds es=decide (↑ds<↑es)->Q i s)->Q (g<|qW ds es) s->∅ (forIn (xs.zip ys) i f) Q E s:=by intro xs;induction xs with
 |nil=>intro ys ds es j k Q p o q c l n a b;cases o;rw[List.zip_nil_left,ū];show Wp (a ?_);cases es<;>simp[qW]|cons x xs ih=>
  intro ys ds es j k Q p o q c l n a b;cases o with|cons r1 r2=>cases q with
   |nil=>rw[List.zip_nil_right,ū];show Wp (a<|by simp[qW])|cons k1 k2=>cases c with
    |cons c1 c2=>
     simp only[PyData.canLayAll0,Ă]at l n;simp only[PyData.depthAll]at p;rw[δ,Ą];show Qr (r _ _ _ _ _ _ _ () r1 k1 c1 l.1 n.1 ?_);rw[qW]at a b;split;.rename_i e;rw[β e]at a b;show ih _ _ _ _ _ Q () r2 k2 c2 l.2 n.2 (λz=>a<|by rw[z];show decide_eq_decide.mpr<|by simp) b
     .rename_i e;rw[γ e]at b;show Wp b
def Qi:∀(n:Nat)(d e:PyData)(A:ϖ)(a b:ϋ)(l o:ϊ ό)(Q:϶)(E:϶),d.depth<=n->CmpD d e->Reads s.heap a d l->Reads s.heap b e o->PyData.canLay0 d=true->PyData.canLay0 e=true->A.units+n+1<cLine->Q (.bool<|BR d e) s->∅ (richCompare .Lt a b) Q E s:=by intro n;induction n with
 |zero=>intro d e A a b l o Q E q c h k t u H f;cases c with
  |int i j=>cases h;cases k;show wpAny_lt_int (A:=A) (Q:=Q) f|str x y=>cases h;cases k;show lt_str (A:=A) (Q:=Q) f|tup c=>simp[PyData.depth]at q
 |succ n ih=>
  intro d e A a b l o Q E q c h k t u H f
  cases c with
  |int i j=>cases h;cases k;show wpAny_lt_int (A:=A) (Q:=Q) f|str x y=>
   cases h;cases k;show lt_str (A:=A) (Q:=Q) f|tup c=>cases h with|tuple e1 c1 d1 r1=>cases k with|tuple e2 c2 d2 r2=>
     change Q (.bool<|qW _ _) s at f;simp only[PyData.depth]at q;simp only[PyData.canLay0]at t u;show wpAny_richCompare_same_room (op:=.Lt) #[_,e1,c1] #[_,e2,c2] PySem.F.slot_tuple_lt
      (î PySem.F.slot_tuple_lt #[_,e1,c1] PySem.F.entry_tuple_lt ?_<|PySem.F.args_tuple_lt_2 _ _) ();change wpAny _ _ (isInstance ↥_ (.type "tuple")>>=_) _ _ s;show Qr<|ĭ #[_,e2,c2] ž ?_;simp only[ď,Û,ċ];show Qr<|ų e1 d1 ?_;show Qr<|ų e2 d2 ?_;show Qr ?_;show V9 (m:=n) (g:=λb=>#[!(.done<|.ret<|.bool b),#[]]) ?_ _ _ _ _ _ _ _ () r1 r2 c t u ?_ ?_
     .intro x y d e l o I G C D F v B r;show Qr<|SeqAt.eqBoolOverData _ _ _ _ _ _ _ _ _ _ _ _ C D v B (by change A.units+1+_<cLine;rfl') ?_;split at r;.rename_i p;rw[p];simp only[ď,Û,ċ];show Wp r
      .rename_i p;rw[Bool.eq_false_iff.mpr p];simp only[Bool.not_false,Ń];show Qr<|į<|Qr ?_;show ih _ _ _ _ _ _ _ _ _ G F C D v B (by change A.units+1+n+1<cLine;rfl') ?_;show Qr<|Wp<|Wp r
     .intro z;rw[z]at f;rw[<-HJ r1,<-HJ r2]at f;show Wp #[_,Z,(λe=>nomatch e),f]
     .show Wp #[_,Z,(λe=>nomatch e),f]
end
end Nk
namespace L2
open PySem PySem.Spec PyProof PyProof.Rows Nk
def uE(K:Ϗ):ϊ V->Hp->VK->Prop:=λxs H Q=>∃(a:ό)(us:ϊ<|V×PyData)(f:PyData->Int),xs=[↥a]/\SqL K H a (us.map (·.1))/\us≠[]/\(∀u∈us,Dp K H u.1 u.2/\u.2.canLay0=true/\u.2.depth<=8)/\(∀u∈us,∀v∈us,CmpD u.2 v.2/\(BR u.2 v.2=true->f u.2<=f v.2)/\(BR u.2 v.2=false->f v.2<=f u.2))/\∀u∈us,(∀v∈us,f u.2<=f v.2)->Q u.1 H
theorem xu{bt:Nat->Nat->ϑ}{f:Nat->Int}{n:Nat}(h:∀i j,i<n->j<n->(bt i j=true->f i<=f j)/\(bt i j=false->f j<=f i)):∀k,k<n->argBest bt k<=k/\∀j,j<=k->f (argBest bt k)<=f j
 |0,_=>#[Nat.le_refl _,λj a=>by rw[Nat.le_zero.mp a];show Int.le_refl _]|k+1,hk=>by
  let#[g,c]:=xu h k ();let#[d,e]:=h (k+1) (argBest bt k) hk ();rw[argBest];split
  .rename_i b;show#[Nat.le_refl _,λj a=>?_];rcases ζ a with a|rfl;.show Int.le_trans (d b)<|c j ()
   .show Int.le_refl _
  .rename_i b;show#[(),λj a=>?_];rcases ζ a with a|rfl;.show c j ()
   .show e<|Bool.eq_false_iff.mpr b
def zr{X:Cx}(hc:X.calm=true)(hu:X.A.units+12<cLine):bV X (.builtin "min") (uE X.K):=by
 intro al s σ H xs ap Q I rv h;let#[a,D,f,rfl,hx,ac,U,C,q]:=h;let#[u,rfl,ru]:=rv.one;cases(show u=Value.ref a from ru);let#[c,r,ht,hz]:=I.list hx;have P:↑D=↑c:=by have:=↑r;rw[Qb]at this;show this
 have ai:0<↑D:=Ő.mpr ac;have g:∀{i:Nat}{v:ϋ},c[i]?=!v->∃u∈D,D[i]?=!u/\RelV u.1 v/\∃zz,Reads s.heap v u.2 zz:=λ{i v} M=>by
  have O:i<↑D:=by rw[P];show(À.mp M).1
  let#[u,F]:∃u,D[i]?=!u:=#[_,Zl O];have hm:=Yf F;let#[v',e',t]:=r.get (i:=i) (x:=u.1) (by rw[Á,F];rfl);rw[M]at e';cases e';show#[u,hm,F,t,(U u hm).1.reads I t]
 let#[J,d]:∃J:Nat->PyData,∀{i u},D[i]?=!u->J i=u.2:=#[λi=>((D[i]?).map λp=>p.2).getD .none,λ{i u} hp=>by dsimp only;rw[hp];rfl];have R:a<⇑s:=by let#[_,e,_]:=ht.isList;show Ë e
 have ab:a≠⇑s:=Þ R;have S:c.toArray.size=↑c:=Ù;have W:=Walks.list (prog:=X.prog) (w:=X.w) (A:=X.A.in1) (I.ok.hd hc) ⇑s a ab c.toArray;show HF (Α ht.isList #[⇑s,List.range<|⇑s+1,[⇑s],↑c,(λi v=>c[i]?=!v),(λi h=>(h.IsListIter ⇑s a i/\h.IsList a c.toArray)/\∀b o,s.heap.get? b=!o->h.get? b=!o),(λi j=>BR (J i)<|J j),Z,?W,#[#[#[_,È _ Z,Z,Z],ht.isList.push _],λb o e=>Jn _ e],?lt,(),?cmp,?fin])
 case lt=>intro b hb;rw[show(s.heap.push {cls:=.type "list_iterator",data:=.fields<|[↥a,.int 0 0].toArray}).objs.size=⇑s+1 from Ĩ ..];show ì.mp hb
 case cmp=>rintro m i j x y N L K ⟨_,hk⟩ hx hy l;let#[u,T,G,_,zz,ra]:=g hx;let#[v,mv,ad,_,bs,rb]:=g hy;dsimp only at l;rw[d G,d ad]at l;show Qi 8 u.2 v.2 _ x y zz bs _ _ (U u T).2.2 (C u T v mv).1 (Reads.keeps hk ra) (Reads.keeps hk rb) (U u T).2.1 (U v mv).2.1 (by change X.A.units+1+8+1<cLine;rfl') l
 case W=>
  have ag:∀{h E:ϒ},(∀b o,s.heap.get? b=!o->h.get? b=!o)->(∀b o,b∉[⇑s]->h.get? b=!o->E.get? b=!o)->∀b o,s.heap.get? b=!o->E.get? b=!o:=λh1 h2 b o e=>h2 b o (λz=>by rw[Zs.mp z]at e;show Ď _<|Ë e)<|h1 b o e
  show#[λb hb=>by rw[Zs.mp hb];show ì.mpr<|Ĕ _,λi h E B k=>#[W.frame i h E B.1 λb hb o e=>k b (ì.mpr ?_) o e,λb o e=>k b (ì.mpr<|ģ<|Ë e) o<|B.2 b o e],λi N L K O B l=>W.item i N L K (by rw[S];show O) B.1 λv E tk M ah k=>l v E tk (by rw[<-Ž];show M) #[ah,ag B.2 k] k,λN L K B l=>W.done N L K (by rw[S];show B.1) l,λi N L K B l=>W.self i N L K B.1 l];rcases Å.mp hb with rfl|hb;.show Ĕ _
  .rw [Zs.mp hb];show ģ R
 case fin=>
  intro v E tk M kp;let#[u,T,G,t,_]:=g M;let#[b1,b2]:=xu (bt:=λi j=>BR (J i)<|J j) (f:=λi=>f<|J i) (n:=↑c) (λi j O Y=>by let#[x,mx,ae,_]:=g<|Zl O;let#[y,my,af,_]:=g<|Zl Y;rw[d ae,d af];show(C x mx y my).2) (↑c-1) ();show#[u.1,H,I.kept (t':=tk) λb ob e=>kp b ob (λz=>?_)<|Jn _ e,t,q u T λx mx=>?_];.rw [Zs.mp z]at e;show Ď _<|Ë e
  .obtain ⟨j,Y⟩:=ā.mp mx;have am:=(À.mp Y).1;have:=b2 j ();rw[d Y,d G]at this;show this
def xx{X:Cx}(K:Ϗ)(a:X.K=K)(b:X.calm=true)(c:X.A.units+12<cLine):bV X (.builtin "min") (uE K):=a▸zr b c
end L2
end
section
namespace L2
open PySem PySem.Spec PyProof.Rows Nk
variable{i k:Nat}{c v:ϋ}{a:ό}
section
variable{X:Cx}
theorem Qj(t:A.units+2<cLine)(I:Inv X gE σ H s)(g:SGet H a y o)(q:RelV y u)(h:∀f s',Inv X gE σ H s'->RelV (o.getD .non) f->Q f s'):wpAny (model X.prog X.w) A (call (.builtin "dict.get") [↥a,u]) Q E s:=by
 let#[p,k,b,e,n,j,i,l]:=g;subst j;cases(show u=Value.ref b from q);let#[z,m,r,c,d]:=sX I.hok e n;show call_meetsIn F.slot_dict_get d.typeIs F.entry_dict_get (F.args_dict_get_2 _ _) (meetsH_dict_get (jK X.prog X.w) a b m) #[(show A.units+1+1<cLine by rfl'),k,r,sW I.hok i,d,h _ _ (I.tok _) ?_];rw[l];show(c.val k).getD Z
end
abbrev HN(td ty:TE):TE:=λσ H Q=>td σ H λx H1=>∃a kvs,x=↥a/\Rd H1 a (cL a kvs)/\ty σ H1 λy H2=>∃o,SGet H2 a y o/\Q (o.getD .non) H2
theorem HQ{X:Cx}{c:Pos}{q:TE}(E:X.A.units+2<cLine)(D:PE X o p)(C:PE X e q)(m:M1 X o "get" b e c):PE X (.Call (.Attribute o "get" b) [e] [] c) (HN p q):=by intro f s r H Q I h;show wpAny_Call_method m.base m.few m.line ō PySem.F.slot_dict_get PySem.F.type_dict_get<|bH (D f s r H _ I h) λu M ob=>?_;let#[x,t,j,K,a,F,B,d,G]:=ob;subst B;obtain rfl:u=Value.ref a:=K;let#[#[_,lo,_,_,n,P,O,k,l,R,_],_]:=RJ j.hok d;show#[#[n,k,l.1],λN A=>by cases A;show#[n,k,l.2.1],?_];rw[m.trees];show Ġ Z<|Ζ<|Ľ<|bH (C f M r t _ j G) λS T ob=>?_;let#[y,v,w,L,ov,g,J]:=ob;show Š ?_;show Qj E w g L λW U z i=>#[_,v,z,i,J]
def qe(K:Ϗ):ϊ V->Hp->VK->Prop:=λxs H Q=>∃(a:ό)(ss:ϊ ϐ),xs=[↥a]/\SqT K H a (ss.map V.str)/\ss≠[]/\∀s∈ss,Q (.str s) H
section
variable{X:Cx}{s:ώ}{a:ό}{ss:ϊ ϐ}{its:ϊ ϋ}
theorem gU(r:Vals (ss.map V.str) its)(h:its[i]?=!v):∃x t,ss[i]?=!x/\v=.str x t:=by
 have d:i<↑ss:=by have:=↑r;rw[Qb]at this;rw[this];show(À.mp h).1
 let#[x,c]:∃x,ss[i]?=!x:=#[_,Zl d];let#[e,b,a]:=r.get (i:=i) (x:=.str x) (by rw[Á,c];rfl);rw[h]at b;cases b;let#[t,rfl]:=a;show#[x,t,c,Z]
theorem BV{a:ϒ}{d:Data}(f:∀b o,b∉[⇑s]->(s.heap.push {cls:=c,data:=d}).get? b=!o->a.get? b=!o):∀b o,s.heap.get? b=!o->a.get? b=!o:=λb o e=>by show f b o (λg=>?_)<|Jn _ e;rw[Zs.mp g]at e;show Ď _<|Ë e
end
theorem Ej{X:Cx}(C:X.calm=true):bV X (.builtin "min") (qe X.K):=by
 intro w s Y H W S Q I L h;let#[a,g,rfl,J,k,q]:=h;let#[u,rfl,K]:=L.one;cases(show u=Value.ref a from K);let#[b,r,p,R]:=I.tuple J;have n:↑g=↑b:=by have:=↑r;rw[Qb]at this;show this
 have o:0<↑g:=Ő.mpr k;have m:s.heap.IsTuple a b.toArray:=p;have f:a<⇑s:=by let#[_,e,_]:=p;show Ë e
 show call_min_walk (ļ m ⟨_,[_,a],[_],_,_,_,λi j=>decide<|((g[i]?).getD default).cps.toList<((g[j]?).getD default).cps.toList,Z,Walks.tuple (A:=X.A.in1) (I.ok.hd C) _ a (Þ f) b.toArray,⟨⟨_,È _ Z,Z,Z⟩,m.push _⟩,λc hcc=>?_,by simpa using(show 0<↑b by rfl'),λi j T U z O N D E h=>?_,λv P M B G=>?_⟩)
 .show c<(s.heap.push _).objs.size;rw[Ĩ];rcases Å.mp hcc with rfl|hcc;.show Ĕ _
  .rw [Zs.mp hcc];show ģ f
 .obtain ⟨x,t,d,rfl⟩:=gU r (by simpa using D);let#[y,t',l,rfl]:=gU r (by simpa using E);dsimp only at h;rw[d,l]at h;show richCompare_gives (op:=.Lt) (typeIs_str z x t) (typeIs_str z y t') F.slot_str_lt F.entry_str_lt (F.args_str_lt_2 _ _) (gives_str_lt x y t t') (λx=>nomatch x) h
 .obtain ⟨x,t,d,rfl⟩:=gU r (by simpa using B);show#[.str x,H,I.kept (t':=M)<|BV G,#[t,Z],q x<|Yf d]
theorem Ek{X:Cx}(C:X.calm=true):bV X (.builtin "max") (qe X.K):=by
 intro w s Y H W S Q I L h;let#[a,g,rfl,J,k,q]:=h;let#[u,rfl,K]:=L.one;cases(show u=Value.ref a from K);let#[b,r,p,R]:=I.tuple J;have n:↑g=↑b:=by have:=↑r;rw[Qb]at this;show this
 have o:0<↑g:=Ő.mpr k;have m:s.heap.IsTuple a b.toArray:=p;have f:a<⇑s:=by let#[_,e,_]:=p;show Ë e
 show call_max_walk (ļ m ⟨_,[_,a],[_],_,_,_,λi j=>decide<|((g[j]?).getD default).cps.toList<((g[i]?).getD default).cps.toList,Z,Walks.tuple (A:=X.A.in1) (I.ok.hd C) _ a (Þ f) b.toArray,⟨⟨_,È _ Z,Z,Z⟩,m.push _⟩,λc hcc=>?_,by simpa using(show 0<↑b by rfl'),λi j T U z O N D E h=>?_,λv P M B G=>?_⟩)
 .show c<(s.heap.push _).objs.size;rw[Ĩ];rcases Å.mp hcc with rfl|hcc;.show Ĕ _
  .rw [Zs.mp hcc];show ģ f
 .obtain ⟨x,t,d,rfl⟩:=gU r (by simpa using D);let#[y,t',l,rfl]:=gU r (by simpa using E);dsimp only at h;rw[d,l]at h;show richCompare_gives (op:=.Gt) (typeIs_str z x t) (typeIs_str z y t') F.slot_str_gt F.entry_str_gt (F.args_str_gt_2 _ _) (gives_str_gt x y t t') (λx=>nomatch x) h
 .obtain ⟨x,t,d,rfl⟩:=gU r (by simpa using B);show#[.str x,H,I.kept (t':=M)<|BV G,#[t,Z],q x<|Yf d]
def zu{X:Cx}(K:Ϗ)(a:X.K=K)(b:X.calm=true):bV X (.builtin "min") (qe K):=a▸Ej b
def zx{X:Cx}(K:Ϗ)(a:X.K=K)(b:X.calm=true):bV X (.builtin "max") (qe K):=a▸Ek b
def Fg(K:Ϗ)(H:Hp)(a:ό)(xs:ϊ V):ϑ->Prop
 |true=>SqL K H a xs|false=>SqT K H a xs
def XN(h:ϒ)(a:ό)(xs:ϔ ϋ):ϑ->Prop
 |true=>h.IsList a xs|false=>h.IsTuple a xs
noncomputable def Yr:ϑ->String
 |true=>"list_iterator"|false=>"tuple_iterator"
abbrev itO(q:ϑ)(l:ό):Obj:={cls:=.type<|Yr q,data:=.fields<|[↥l,.int 0 0].toArray}
def Ys(h:ϒ)(i l:ό)(k:Nat)(q:ϑ):Prop:=∃o,h.get? i=!o/\o.cls=.type (Yr q)/\o.data=.fields ([↥l,.int k 0].toArray)
theorem zy{X:Cx}(I:Inv X gE σ H s):∀{q:ϑ},Fg X.K H a b q->∃its,Vals b its/\XN s.heap a its.toArray q
 |true,h=>by let#[its,r,p,_]:=I.list h;show#[its,r,p.isList]|false,h=>by let#[its,r,p,_]:=I.tuple h;show#[its,r,p]
theorem BW{i:ό}(a:l≠i):∀{q:ϑ},Drw prog w i l b λk h=>Ys h i l k q/\XN h l b q
 |true=>Ha a|false=>Px a
theorem HR:∀{q:ϑ},XN h a b q->∃o,h.get? a=!o/\(o.cls=.type "list"\/o.cls=.type "tuple")/\(q=true->o.cls=.type "list")
 |true,⟨o,e,c,_⟩=>#[o,e,.inl c,λ_=>c]|false,⟨o,e,c,_⟩=>#[o,e,.inr c,λz=>by cases z]
def Va(K:Ϗ)(a b:ό)(q:ϑ):It:=⟨λi H=>∃xs ys x y,SqT K H a xs/\Fg K H b ys q/\xs[i]?=!x/\ys[i]?=!y,
  λi H v H'=>∃p x y,H p=none/\v=↥p/\H'=upd H p (.tup [x,y])/\(∀xs,SqT K H a xs->xs[i]?=!x)/\∀ys,Fg K H b ys q->ys[i]?=!y,λi H=>∃xs ys,SqT K H a xs/\Fg K H b ys q/\(↑xs<=i\/↑ys<=i)⟩
structure ZipStG(z TI TO i1 i2 a b:ό)(q:ϑ)(i:Nat)(h:ϒ):Prop where
 hz:IsZip h z TI TO .none
 hTI:IsPair h TI ↥i1 (.ref i2)hTO:∃u v,IsPair h TO u v
 h1:Ys h i1 a i false
 h2:Ys h i2 b i q
 aTO:a≠TO
 bTO:b≠TO
theorem Qk{X:Cx}{c:ϊ V}(I:Inv X gE σ H s):∀{q:ϑ},Fg X.K H a b q->Fg X.K H a c q->b=c
 |true,h,h'=>I.list_inj h h'
 |false,h,h'=>I.tuple_inj h h'
theorem qg{h:ϒ}{b TI TO:ό}{C E:ϔ ϋ}(D:ZipNe z TI TO i1 i2)(w:h.IsTuple a C)(x:XN h b E q)(B:ZipStG z TI TO i1 i2 a b q i h):ZipApart z TI TO i1 i2 a b:=by
 let#[r,u,#[I,v0,v],#[F,o,m,_],#[G,p,n,_],d,f]:=B;let#[H,j,g,_]:=w;let#[ob,k,t,_]:=HR x;have l:∀T:String,T≠"list"->T≠"tuple"->ob.cls≠.type T:=λT y A e=>by
  rcases t with c|c<;>rw[c]at e<;>cases e;.show y Z
  .show A Z
 have s:∀q,Yr q≠"list"/\Yr q≠"tuple"/\Yr q≠"zip":=λq=>by cases q<;>decide
 show⟨D.TIz,D.TOz,D.i1z,D.i2z,D.TITO,D.TIi1,D.TIi2,D.TOi1,D.TOi2,D.i12,
  mY j r<|by rw[g];change Value.type "tuple"≠Value.type "zip";decide,d,mY j o<|by rw[g,m];decide,mY j p<|by rw[g,n];cases q<;>decide,mY k r<|l "zip" (by decide)<|by decide,f,mY k o<|by rw[m];show l _ (by decide)<|by decide,mY k p<|by rw[n];show l _ (s q).1 (s q).2.1⟩
theorem El{P:ϓ}{K:Ϗ}{TI TO:ό}(a b:ό)(D:ZipNe z TI TO i1 i2):Turn P w K (.Tuple elts k tpos) (Va K a b q) [z,TI,TO,i1,i2] z (ZipStG z TI TO i1 i2 a b q)where
 mem:=by simp
 obj:=λi h j c J=>by
  let#[r,f,#[u,v,g],#[M,B,c1,d1],#[N,C,c2,d2],_]:=j;simp only[Å,Ú,þ]at J;rcases J with rfl|rfl|rfl|rfl|rfl;.show #[_,r,λv z=>by cases z]
  .show #[_,f,λv z=>by cases z]
  .show #[_,g,λv z=>by cases z]
  .show #[M,B,λv z=>by rw[d1]at z;cases z]
  .show #[N,C,λv z=>by rw[d2]at z;cases z]
 keep:=λi h h' j t=>by let#[r,f,#[u,v,g],#[M,B,r1],#[N,C,r2],n1,n2]:=j;show#[t z (by simp) _ r,t TI (by simp) _ f,#[u,v,t TO (by simp) _ g],#[M,t i1 (by simp) _ B,r1],#[N,t i2 (by simp) _ C,r2],n1,n2]
 item:=by
  intro X hP hw hK J i T s σ H E I hf j hg;subst hP hw hK;let#[xs,ys,x,y,l,m,hx,hy]:=hg;let#[F,rv,p,_]:=I.tuple l;let#[R,G,S]:=zy I m;have A:=qg D p S j;let#[u,hu,ru]:=rv.get hx;let#[v,hv,ae]:=G.get hy;let#[r,f,#[u0,v0,g],zz,h2,ab,ac]:=id j;show sS (I.ok.hd J) A (BW (q:=false) A.l1i1) (BW (q:=q) A.l2i2) r f g #[zz,(show s.heap.IsTuple a F.toArray from p)] #[h2,S] (λu' v' U Y h' a1 a2 a3 a4 a5 a7=>?_) λn=>by simp[hu,hv]at n
  simp only[Ž,hu,hv]at U Y;cases U;cases Y;show#[_,Z,wpAny_letOwnedTupleGo_zip a1 λO b1 L=>?_];have hT:⇑s≠z:=ė<|Ë r;have t:∀c o,c∉[z,TI,TO,i1,i2]->s.heap.get? c=!o->O.get? c=!o:=λc o d e=>by simp only[Å,Ú,þ,not_or]at d;show L.extBut _ _ d.1<|a7 c o d.1 d.2.2.1 d.2.2.2.1 d.2.2.2.2 e
  have e5:O.get? ⇑s=!{cls:=.type "tuple",data:=.seq<|[u,v].toArray}:=L.extBut _ _ hT a5;let#[Q,I2]:=I.yields (t':=s.toks) t hf ru ae e5;let#[#[M,B,r1],_]:=a3;let#[#[N,C,r2],_]:=a4;show#[↥⇑s,_,I2,Z,#[_,x,y,Q,Z,Z,λai h=>by rw[I.tuple_inj h l];show hx,λal h=>by rw[Qk I h m];show hy],#[b1,L.extBut _ _ D.TIz<|a7 _ _ D.TIz D.TITO D.TIi1 D.TIi2 f,#[u,v,L.extBut _ _ D.TOz a2],#[M,L.extBut _ _ D.i1z B,r1],#[N,L.extBut _ _ D.i2z C,r2],ab,ac],λc d=>?_];have ad:c<⇑s:=by
   let#[#[M,B,_],#[N,C,_]]:=(#[zz,h2]:_/\_);simp only[Å,Ú,þ]at d;rcases d with rfl|rfl|rfl|rfl|rfl;.show Ë r
   .show Ë f
   .show Ë g
   .show Ë B
   .show Ë C
  rw[aq<|Þ ad];show(hf c d).1
 done:=by
  intro X hP hw hK J i T s σ H E I hf j hg;subst hP hw hK;let#[xs,ys,l,m,af]:=hg;let#[F,rv,p,_]:=I.tuple l;let#[R,G,S]:=zy I m;have A:=qg D p S j;let#[r,f,#[u0,v0,g],zz,h2,_]:=id j;have ag:=↑rv;have ah:=↑G;show sS (I.ok.hd J) A (BW (q:=false) A.l1i1) (BW (q:=q) A.l2i2) r f g #[zz,(show s.heap.IsTuple a F.toArray from p)] #[h2,S] (λu' v' U Y=>?_) λ_ h' t=>?_;.have:=(À.mp<|by simpa using U).1;have:=(À.mp<|by simpa using Y).1;rfl'
  .show #[Z,I.turnedAll (t':=s.toks) (λc o d e=>?_) hf];simp only[Å,Ú,þ,not_or]at d;show t c o d.1 d.2.2.1 d.2.2.2.1 d.2.2.2.2 e
 self:=λ_ _ _ _ _ j h=>wpAny_pyIter_zip j.hz h
theorem xF(a b:ό)(o j:ϔ ϋ)(q:ϑ):
  Meets (Builtin.«zip.__new__» #[[.type "zip",↥a,↥b],[]]) (λ_ R s=>s.heap.IsTuple a o/\XN s.heap b j q/\R (.ok<|.ret<|.ref (zo4 s.heap (wJ a)<|itO q b).objs.size) {s with heap:=XM s.heap (wJ a)<|itO q b}):=
 .of_wp λn w A R s h=>by
  let#[e,g,d,i,f]:=s;let#[p,m,h]:=h;have l:=sub_zip;have k:Heap.IsTuple (Shared.heap ⟨e,g,d,i,f⟩) a o:=p
  cases q with
  |true=>
   have c:Heap.IsList (Shared.heap ⟨e.push<|wJ a,g,d,i,f⟩) b j:=Heap.IsList.push m _
   wp_walk using ļ k,Α c;show#[_,Z,h]|false=>
   have c:Heap.IsTuple (Shared.heap ⟨e.push<|wJ a,g,d,i,f⟩) b j:=Heap.IsTuple.push m _
   wp_walk using ļ k,ļ c;show#[_,Z,h]
theorem zA{s:ώ}{b d:ό}{p r:ϔ ϋ}(B:s.heap.IsTuple b p)(C:XN s.heap d r q)(h:∀h',IsZip h' (⇑s+4) (⇑s+2) (⇑s+3) .none->IsPair h' (⇑s+2) ↥⇑s (.ref<|⇑s+1)->
   IsPair h' (⇑s+3) .none .none->Ys h' ⇑s b 0 false->Ys h' (⇑s+1) d 0 q->(∀c o,s.heap.get? c=!o->h'.get? c=!o)->Q (.ref<|⇑s+4) {s with heap:=h'}):
  ∅ (call (.type "zip") [↥b,↥d]) Q E s:=by
 show callType_new F.called_zip (by decide) (F.typeCall_zip_2 _ _) (F.newCall_zip_2 _ _) (λg=>F.args_object_init_3 g _ _) F.entry_zip_new (xF b d p r q) #[B,C,?_];generalize hj1:wJ b=j1;generalize hj2:itO q d=j2;have v:Obj.isFreed j1=false:=by rw[<-hj1];rfl
 have y:Obj.isFreed j2=false:=by rw[<-hj2];rfl
 have i:(zo1 s.heap j1).objs.size=⇑s+1:=Ĩ ..;have j:(zo2 s.heap j1 j2).objs.size=⇑s+2:=by rw[Ĩ,i]
 have k:(zo3 s.heap j1 j2).objs.size=⇑s+3:=by rw[Ĩ,j]
 have t:(zo4 s.heap j1 j2).objs.size=⇑s+4:=by rw[Ĩ,k]
 have a:∀{c o} {h:ϒ} {u:Obj},h.get? c=!o->(h.push u).get? c=!o:=λe=>Jn _ e
 have f:(XM s.heap j1 j2).get? (zo4 s.heap j1 j2).objs.size=!_:=È _ Z;have n:(XM s.heap j1 j2).get? (zo3 s.heap j1 j2).objs.size=!_:=a<|È _ Z;have m:(XM s.heap j1 j2).get? (zo2 s.heap j1 j2).objs.size=!_:=a<|a<|È _ Z;have l:(XM s.heap j1 j2).get? (zo1 s.heap j1).objs.size=!j2:=a<|a<|a<|È _ y;have z:(XM s.heap j1 j2).get? ⇑s=!j1:=a<|a<|a<|a<|È _ v;change _/\_;rw[j,k,t]at f;rw[i,j]at m;rw[k]at n;rw[i]at l;rw[t];show#[#[_,f,Z],h _ f m n #[_,z,by subst hj1;rfl,by subst hj1;rfl] #[_,l,by subst hj2;rfl,by subst hj2;rfl] λc o x=>a<|a<|a<|a<|a x]
abbrev RM(K:Ϗ)(ta:TA):TI:=λσ H R=>ta σ H λvs H1=>∃a b xs ys q,vs=[↥a,↥b]/\SqT K H1 a xs/\Fg K H1 b ys q/\R (Va K a b q) H1
theorem Ql{X:Cx}{a b:Expr}(K:Ϗ)(F:X.K=K)(J:Gl X "zip")(hc:X.calm=true)(L:X.mg "zip"=none)(G:PA X [a,b] C)(M:starEach [a,b] X.env=[(false,eval a X.env),(false,eval b X.env)]:=by rfl)(j:starEach [b] X.env=[(false,eval b X.env)]:=by rfl):PI X (.Tuple elts k tpos) (.Call (.Name "zip" p) [a,b] [] m) (RM K C):=by
 subst F;intro l s zz H R I h;show Call_ (fW I J L (show bootBuiltins "zip"=!(.type "zip")by ac_nf) (Ċ (bH (G m l s zz H _ I h) λus d ⟨vs,E,f,P,O⟩=>?_) (by rw[M,j]) (by rw[j];rfl)));let#[x,z,xs,ys,qb,e,u,v,q]:=O;subst e;cases P with|cons r rr=>cases rr with|cons r' rr=>
   cases rr;cases r;cases r';let#[w,rv,A,_]:=f.tuple u;let#[y,Q,B]:=zy f v;have n:x<⇑d:=by let#[o,e,_]:=A;show Ë e
   have t:z<⇑d:=by let#[o,e,_]:=HR B;show Ë e
   show zA (show d.heap.IsTuple x w.toArray from A) B λh' D S T U Y N=>?_;show wpAny_pyIter_zip D ?_;show#[⇑d+4,[⇑d+4,⇑d+2,⇑d+3,⇑d,⇑d+1],_,_,E,Z,f.kept (t':=d.toks) N,El x z #[?_,?_,?_,?_,?_,?_,?_,?_,?_,?_],#[D,S,#[_,_,T],U,Y,Þ<|Ò n<|œ _ _,Þ<|Ò t<|œ _ _],λc g=>?_,q];all_goals first
    |(change(_:Nat)≠_;rfl')|skip
   have i:⇑d<=c:=by simp only[Å,Ú,þ]at g;rcases g with rfl|rfl|rfl|rfl|rfl<;>(change(_:Nat)<=_;rfl')
   show f.fpOk i<|f.hok.fresh i
end L2
end
set_option linter.all false
namespace Mm
variable{k:Nat}
theorem bw(x:Int)(m:Nat)(h:0<m):∃n:Nat,x%(m:Int)=(n:Int)/\n<m:=by have a:=Ω x (b:=(m:Int)) ();have c:=ř x (b:=(m:Int)) ();show#[(x%(m:Int)).toNat,(),()]
theorem Qm(k:Nat):(0:Int)<1*2^k:=by rw[Int.one_mul];show Int.pow_pos<|by decide
theorem eY{a c:Type}(f:a->ύ c)(b:ϊ a)(x:a):(b++[x]).filterMap f=b.filterMap f++(f x).toList:=by
 rw[List.filterMap_append];cases h:f x<;>simp[h]
theorem RN{b c:Type}(p:b->ϑ)(g:b->c)(a:ϊ b):a.filterMap (λx=>if p x=true then !(g x)else none)=(a.filter p).map g:=by induction a with
 |nil=>rfl|cons x r ih=>
  cases h:p x
  .simp [h,ih]
  .simp [h,ih]
noncomputable def cellAt(ns:ϊ Int)(k:Nat):Int:=ns.getD k 0
def hgt(c:Int):Nat:=if c%2=0 then(1+c/2%6).toNat else(1+c/2%60).toNat
def HS{h a b:Nat}(c:a<2^h)(d:b<2^h):a^^^b<2^h:=Nat.xor_lt_two_pow c d
def bh:ϊ Nat->ϊ Nat->Nat
 |x::xs,y::ys=>Bm.pop (x^^^y)+bh xs ys|_,_=>0
theorem xG:∀xs ys:ϊ Nat,((List.zipWith (λx y=>((Bm.pop (x^^^y):Nat):Int)) xs ys).sum:Int)=(bh xs ys:Nat)
 |[],_=>by simp[bh]|_::_,[]=>by simp[bh]
 |x::xs,y::ys=>by rw[List.zipWith_cons_cons,ğ,xG xs ys,bh];rfl'
theorem iQ:∀xs ys:ϊ Nat,bh xs ys=bh ys xs
 |[],[]=>Z|[],_::_=>Z|_::_,[]=>Z|x::xs,y::ys=>by rw[bh,bh,iQ xs ys,Nat.xor_comm]
theorem tE:∀xs:ϊ Nat,bh xs xs=0
 |[]=>Z|x::xs=>by rw[bh,tE xs,Nat.xor_self,Bm.jG]
theorem xH:∀(xs ys zs:ϊ Nat),↑xs=↑ys->↑ys=↑zs->bh xs zs<=bh xs ys+bh ys zs
 |[],[],[],_,_=>by simp[bh]|a::xs,b::ys,c::zs,h1,h2=>by have d:=xH xs ys zs (by simpa using h1) (by simpa using h2);have:=Bm.Ox a b c;rw[bh,bh,bh];rfl'|[],_::_,_,h,_=>by simp at h|_::_,[],_,h,_=>by simp at h|_,[],_::_,_,h=>by simp at h
 |_,_::_,[],_,h=>by simp at h
theorem getD_some{z:Int}(h:a[k]?=!z):cellAt a k=z:=by unfold cellAt;rw[Xs,h];rfl
theorem getD_none(h:↑a<=k):cellAt a k=0:=by unfold cellAt;rw[Xs,Ā h];rfl
def On(h n:Nat)(s:Int×Int):Prop:=0<=s.1/\s.1<n/\0<=s.2/\s.2<h
instance decOn (h n:Nat) (s:Int×Int):Decidable (On h n s):=by unfold On;show inferInstance
noncomputable def iU(xs:ϊ Nat)(s:Int×Int):ϊ Nat:=xs.set s.1.toNat<|xs.getD s.1.toNat 0^^^2^s.2.toNat
def fu(xs:ϊ Nat)(ss:ϊ<|Int×Int):ϊ Nat:=ss.foldl iU xs
theorem n6(a:ϊ Nat)(s:Int×Int):↑(iU a s)=↑a:=by unfold iU;simp
theorem jW:∀(ss:ϊ<|Int×Int)(xs:ϊ Nat),↑(fu xs ss)=↑xs
 |[],_=>Z|s::r,xs=>by change↑(fu (iU xs s) r)=_;rw[jW r,n6]
theorem zB(b:ϊ Nat)(a:ϊ<|Int×Int)(s:Int×Int):fu b (a++[s])=iU (fu b a) s:=by unfold fu;rw[List.foldl_append];rfl
theorem HW{h:Nat}(b:∀x∈a,x<2^h)(d:On h ↑a s):∀x∈iU a s,x<2^h:=by
 intro x c;let#[e,f,g,i]:=d;rcases ś c with q|q;.show b x q
 .rw [q];show HS ?_<|Nat.pow_lt_pow_right () ();rw[Xs,Zl ()];show b _<|Ø _
theorem xJ{h:Nat}:∀{ss:ϊ<|Int×Int}{xs:ϊ Nat},(∀x∈xs,x<2^h)->(∀s∈ss,On h ↑xs s)->∀x∈fu xs ss,x<2^h
 |[],_,hx,_=>hx|s::r,xs,hx,ho=>by change ∀x∈fu (iU xs s) r,_;show xJ (HW hx<|ho s Ì) λt a=>by rw[n6];show ho t<|Ê _ a
theorem zE(a:ϊ Nat)(s:Int×Int)(x:Nat)(b:s.1.toNat<↑a):(iU a s).getD x 0=if s.1.toNat=x then a.getD x 0^^^2^s.2.toNat else a.getD x 0:=by
 unfold iU;rw[Xs];by_cases h:s.1.toNat=x;.subst h;rw[Ű b,β Z];rfl
 .rw [Ε h,γ h,Xs]
theorem tG{h:Nat}(x y:Nat):∀(ss:ϊ (Int×Int))(xs:ϊ Nat),(∀s∈ss,On h ↑xs s)->((fu xs ss).getD x 0).testBit y=((xs.getD x 0).testBit y^^decide (ss.count ((x:Int),(y:Int))%2=1))
 |[],xs,_=>by simp[fu]|s::r,xs,ho=>by
  have c:=ho s Ì;let#[i,j,k,l]:=c;change((fu (iU xs s) r).getD x 0).testBit y=_;rw[tG x y r (iU xs s) (λt d=>by rw[n6];show ho t (Ê _ d)),zE xs s x (),List.count_cons];have e:(s==((x:Int),(y:Int)))=true↔s.1.toNat=x/\s.2.toNat=y:=by
   rw[beq_iff_eq];constructor;.intro e;rw[e];show#[by simp,by simp]
   .rintro ⟨f,g⟩;apply Prod.ext;.show s.1=(x:Int);rfl'
    .show s.2=(y:Int);rfl'
  by_cases a:s.1.toNat=x
  .rw [β a,Ź,Nat.testBit_two_pow];by_cases b:s.2.toNat=y
   .rw [β (e.mpr #[a,b]),Ô b];rcases ŗ (r.count ((x:Int),(y:Int)))with z|z;.rw [z,show(r.count ((x:Int),(y:Int))+1)%2=1 by rfl'];cases(xs.getD x 0).testBit y<;>rfl
    .rw [z,show(r.count ((x:Int),(y:Int))+1)%2=0 by rfl'];cases(xs.getD x 0).testBit y<;>rfl
   .rw [γ (λq=>b (e.mp q).2),Ü b];simp
  .rw [γ a,γ (λq=>a (e.mp q).1)];simp
def m5(xs ys:ϊ Nat)(x:Nat):ϊ (Int×Int):=(Bm.bits 60<|xs.getD x 0^^^ys.getD x 0).map λy:Nat=>((x:Int),(y:Int))
def jh(xs ys:ϊ Nat):ϊ (Int×Int):=(List.range ↑xs).flatMap<|m5 xs ys
theorem Em:s∈jh c d↔∃x y:Nat,s=((x:Int),(y:Int))/\x<↑c/\y<60/\(c.getD x 0^^^d.getD x 0).testBit y=true:=by
 unfold jh m5;rw[ÿ];constructor;.rintro ⟨x,a,h⟩;let#[y,b,rfl]:=Zp.mp h;let#[e,f]:=Bm.wj.mp b;show#[x,y,Z,by simpa using a,e,f]
 .rintro ⟨x,y,rfl,a,b,g⟩;show#[x,by simpa using a,Zp.mpr #[y,Bm.wj.mpr #[b,g],Z]]
theorem BX{h:Nat}{a:ϊ Nat}(b:∀x∈a,x<2^h)(i:Nat):a.getD i 0<2^h:=by
 rw[Xs];by_cases q:i<↑a;.rw [Zl q];show b _<|Ø q
 .rw [Ā ()];show Nat.two_pow_pos h
def Lx(s t:Int×Int):Prop:=s.1<t.1\/(s.1=t.1/\s.2<t.2)
def xK(k n:Nat):(Bm.bits k n).Pairwise (·<·):=List.Pairwise.filter _ List.pairwise_lt_range
theorem uF(f g:ϊ Nat):(jh f g).Pairwise Lx:=by
 unfold jh;rw[List.pairwise_flatMap];constructor
 .intro x _;unfold m5;rw[ę];show(xK 60 _).imp λ{a b} h=>Or.inr #[Z,?_];change(a:Int)<(b:Int);rfl'
 .show List.pairwise_lt_range.imp λ{a b} e s c t d=>?_;unfold m5 at c d;let#[y,_,rfl]:=Zp.mp c;let#[z,_,rfl]:=Zp.mp d;show Or.inl ?_;change(a:Int)<(b:Int);rfl'
theorem xM(c d:ϊ Nat):(jh c d).Nodup:=(uF c d).imp λ{a b} h e=>by subst e;rcases h with h|⟨_,h⟩<;>rfl'
theorem En(c:∀x∈a,x<2^60)(d:∀y∈b,y<2^60):↑(jh a b)=((List.range ↑a).map λx=>Bm.pop<|a.getD x 0^^^b.getD x 0).sum:=by unfold jh;rw[List.length_flatMap];congr 1;apply Č;intro x _;unfold m5;rw[Qb];show Bm.w6 60 _<|HS (BX c x)<|BX d x
end Mm
section
namespace L2
open PySem
variable{E:XK}{Q:VK}{sp:Sp}{wi:TI}{ds:L2S}{t u:TT}{A B:Prop}{T:String}{a p:ό}{d:PyData}{b c n:Nat}{i j k:Int}{v w x y:V}{H H' H1:Hp}{r zs:ϊ V}{ta tb te:TE}{qs:ϊ ό}{f:Int->Int->V}{hi:ύ Int}{R:St->Hp->Prop}{C:Int->Int->Prop}{κ:ϊ (ύ Nat)}
def cU{a:Nat}(h:a<=b)(k:Nat.ble b c=true:=by rfl):a<=c:=Í h<|Nat.le_of_ble_eq_true k
def qaT{a:Nat}(h:a<b)(k:Nat.ble b c=true:=by rfl):a<c:=Ò h<|Nat.le_of_ble_eq_true k
def qaU{a:Nat}(h:a<b)(k:Nat.ble b c=true:=by rfl):a<=c:=â<|qaT h k
def Qn{a:Nat}(h:a<=b)(k:Nat.ble (b+1) c=true:=by rfl):a<c:=cU (Ć h) k
def qcL{a:Nat}(h:(a:Int)<=b):a<=b:=Int.ofNat_le.mp h
def Fi{a:Nat}(h:(a:Int)<b):a<b:=Int.ofNat_lt.mp h
def Eo{a:Nat}(h:(a:Int)=b):a=b:=Int.ofNat.inj h
def qdT{a:Nat}(h:a<b):(a:Int)<b:=Int.ofNat_lt.mpr h
def BZ(a:Nat):(0:Int)<=a:=Int.natCast_nonneg a
def uG{a:Int}(h:0<=a):(a.toNat:Int)=a:=č h
def RP{a:Int}(h:0<=a)(k:a<b):a.toNat<b:=()
def HX{a:Int}(h:0<=a/\a<b):a.toNat<b:=RP h.1 h.2
def qtC{a:Int}(h:a<b)(k:0<b):a.toNat<b:=()
def HY{a:Nat}(h:¬a<b):b<=a:=Nat.le_of_not_lt h
def qnT{a:Nat}(h:¬a<=b):b<a:=Nat.lt_of_not_le h
def qnE{a:Nat}(h:a<=b)(k:¬a<b):a=b:=Ż h<|HY k
def qn0{a:Nat}(h:¬0<a):a=0:=Nat.eq_zero_of_not_pos h
def XQ{a:Nat}(h:a<=0):a=0:=Nat.eq_zero_of_le_zero h
def jq{a:Nat}(e:a=b)(h:b<=c):a<=c:=e▸h
def qeT{a:Nat}(e:a=b)(h:b<c):a<c:=e▸h
def RQ{a:Nat}(h:a<=b)(e:c=b):a<=c:=e▸h
def qN{a:Nat}(h:a<b)(e:c=b):a<c:=e▸h
def qgL{a:Nat}(h:a<=b)(e:b=c):a<=c:=e▸h
def qgT{a:Nat}(h:a<b)(e:b=c):a<c:=e▸h
def uH{a:Nat}(h:a<=b)(c:Nat):a<=b+c:=Nat.le_add_right_of_le h
def qsR{a:Nat}(h:a<=b)(c:Nat):a<=c+b:=Nat.le_add_left_of_le h
def qsT{a:Nat}(h:a<b)(c:Nat):a<b+c:=Nat.lt_add_right c h
def qmI{a:Int}(h:0<=a)(k:(-1000000000:Int)<=0:=by decide):-1000000000<=a:=Int.le_trans k h
def yo(a:Nat):(-1000000000:Int)<=a:=qmI<|BZ a
def qp1{a:Nat}(h:0<a):a-1+1=a:=Nat.sub_add_cancel h
def XR{a:Nat}(e:a=min b c):a<=b:=e▸Nat.min_le_left b c
def RT{a:Nat}(h:b<=c):min a b<=c:=Í (Nat.min_le_right ..) h
def Vb{a:Nat}(h:0<a):(0:Int)<a:=Int.ofNat_lt.mpr h
def Yt{a:Nat}(h:1<=a):(1:Int)<=a:=Int.ofNat_le.mpr h
def qdE{a:Nat}(h:a=b):(a:Int)=b:=Ö _ h
def Vc(a:Nat):(1:Int)+a=((a+1:Nat):Int):=Int.add_comm ..
theorem qmB{a:Int}(h:a%(n:Int)=b)(k:Nat.ble 1 n=true:=by rfl):b<n:=by have:=ř a<|show(0:Int)<n from Int.ofNat_lt.mpr<|Nat.le_of_ble_eq_true k;rfl'
def qnC{a:Nat}(h:¬(a:Int)<b):b<=a:=()
def qnD{a:Nat}(h:¬(a:Int)=b):¬a=b:=λe=>h<|Ö _ e
def qn1{a:Nat}(h:¬(0:Int)<a):a=0:=()
def qu0{a:Nat}(h:1<=a):¬(a:Int)=0:=()
def RV{a:Nat}(h:a=b+1):b<a:=h▸Ĕ b
def qkP{a:Nat}(h:a<b):b-1-a+1=b-a:=()
def qkQ{a:Nat}(h:a-b<=0)(k:b<=a):b=a:=()
def qkT{a:Nat}(h:a<=b)(k:c<=1):a+c<=b+1:=Nat.add_le_add h k
def qoI{a:Int}(e:a=b)(h:b<c):a<c:=e▸Int.ofNat_lt.mpr h
def Yu(h:B):if(not true)=true then A else B:=Dr h
def Yv(h:A):if(not false)=true then A else B:=Ds h
theorem cM{p:Prop}[Decidable p](a:p->A)(b:¬p->B):if decide p=true then A else B:=by
 by_cases h:p;.rw [Ô h];show Ds<|a h
 .rw [Ü h];show Dr<|b h
theorem m6{p:Prop}[Decidable p](a:¬p->A)(b:p->B):if(not (decide p))=true then A else B:=by
 by_cases h:p;.rw [Ô h];show Dr<|b h
 .rw [Ü h];show Ds<|a h
theorem Qo{b:ϑ}(a:b=true->A)(c:b=false->B):if b=true then A else B:=by
 cases b with
 |true=>show Ds (a Z)|false=>show Dr<|c Z
theorem m7{p:Prop}[Decidable p](a:p)(h:A):if decide p=true then A else B:=cM (λ_=>h) λn=>μ a n
theorem gW{p:Prop}[Decidable p](a:¬p)(h:B):if decide p=true then A else B:=cM (λn=>μ n a) λ_=>h
theorem iu{p:Prop}[Decidable p](a:p)(h:B):if(not (decide p))=true then A else B:=m6 (λn=>μ a n) λ_=>h
def Yw{b:Type}[DecidableEq b]{a:b}(h:A):if decide (a=a)=true then A else B:=m7 Z h
theorem Ia{p:Prop}[Decidable p](a:¬p)(h:A):if(not (decide p))=true then A else B:=m6 (λ_=>h) λn=>μ n a
theorem Same.new{a:Hp}(e:Same a H)(h:H p=none):Same a (upd H p o):=λb u q=>by rw[aq<|aP (e b u q) h];show e b u q
theorem Same.tup{K:Ϗ}{b:ϊ V}(e:Same H H')(h:SqT K H a b):SqT K H' a b:=by
 rcases h with(h|⟨o,h⟩)|h;.show .inl<|.inl<|e _ _ h
 .show .inl<|.inr #[o,e _ _ h]
 .show .inr h
def ji{b:ϊ V}(h:H p=none)(q:SqL K H a b):SqL K (upd H p o) a b:=Same.seq (Same.new (gN H) h) q
def Ca{b:ϊ V}(h:H p=none)(q:SqT K H a b):SqT K (upd H p o) a b:=Same.tup (Same.new (gN H) h) q
theorem a0o{r:St}:pL (none::r) (some v::r):=⟨Z,λj u z=>by match j,z with|j+1,z=>show z⟩
theorem ext2{r:St}:pL (none::none::r) (some v::some w::r):=⟨Z,λj u z=>by match j,z with|j+2,z=>show z⟩
theorem RW(a b:Int):decide (V.int a=V.int b)=decide (a=b):=by simp
theorem zF{a:ϊ V}(h:0<=k):iG a none (!k)=a.take k.toNat:=by
 unfold iG;change(a.drop 0).take ((if k<0 then(k+(↑a:Int)).toNat else min k.toNat ↑a)-0)=_;rw[γ (),ω,Ν];rcases Nat.le_total k.toNat ↑a with q|q;.rw [Ĵ q]
 .rw [Ŕ q,æ<|Ã _,æ q]
theorem xN{a:ϊ V}(h:0<=k):iG a (!k) none=a.drop k.toNat:=by
 unfold iG;change(a.drop<|if k<0 then(k+(↑a:Int)).toNat else min k.toNat ↑a).take (↑a-(if k<0 then(k+(↑a:Int)).toNat else min k.toNat ↑a))=_;rw[γ ()];rcases Nat.le_total k.toNat ↑a with q|q;.rw [Ĵ q,æ<|by rw[ù];rfl']
 .rw [Ŕ q,ı<|Ã _,ı q];simp
theorem Qp{a:ϊ V}(h:0<=k)(b:0<=j):iG a (!k) (!j)=(a.take j.toNat).drop k.toNat:=by
 unfold iG;change(a.drop<|if k<0 then(k+(↑a:Int)).toNat else min k.toNat ↑a).take ((if j<0 then(j+(↑a:Int)).toNat else min j.toNat ↑a)-(if k<0 then(k+(↑a:Int)).toNat else min k.toNat ↑a))=_;rw[γ<|Int.not_lt.mpr h,γ<|Int.not_lt.mpr b,List.drop_take];generalize k.toNat=k;generalize j.toNat=j;rcases Nat.le_total k ↑a with c|c
 .rw [Ĵ c,List.take_eq_take_iff,ù];rcases Nat.le_total j ↑a with d|d;.rw [Ĵ d]
  .rw [Ŕ d,Nat.min_self,Ŕ<|Nat.sub_le_sub_right d k]
 .rw [Ŕ c,ı<|Ã _,ı c,List.take_nil,List.take_nil]
theorem jX(i:Int)(a:ϊ Int):inV (.int i) (a.map V.int)=decide (i∈a):=by unfold inV;rw[List.any_map];induction a with
 |nil=>simp
 |cons n r ih=>
  rw[Υ,ih];change(n==i||_)=_;by_cases h:n=i;.subst h;simp
  .simp [h,Ne.symm h]
theorem iV(a:ϊ Int):(a.map V.int).all jA=true:=List.all_eq_true.mpr λx m=>by let#[i,_,rfl]:=Zp.mp m;rfl
theorem zG{c:Type}{a:ϊ c}(d:0<=i)(b:i.toNat<↑a):vD a i=!a[i.toNat]:=by have e:=aO (xs:=a) (j:=i.toNat) (v:=a[i.toNat])<|Zl b;rwa[show((i.toNat:Nat):Int)=i by rfl']at e
section
def RX{t u:TS}(h:t {D with nx:=u D} σ H):aA t u D σ H:=h
def Yx{c:TT}{t u:TS}(h:c σ H λb H1=>if b=true then t D σ H1 else u D σ H1):bD c t u D σ H:=h
def Yy{i:Nat}(e:σ[i]?=!(!v))(h:Q v H):jx i σ H Q:=#[v,e,h]
def s_c(h:Q v H):tC v σ H Q:=h
theorem s_call{t:TA}(h:t σ H λvs H1=>sp vs H1 Q E):jn sp [] E t σ H Q:=by unfold jn;simpa only[û]using h
def Qq{t:TA}{a:ϊ V}(h:t σ H λvs H1=>sp (vs++a) H1 Q E):jn sp a E t σ H Q:=h
def Yz{R:ϊ V->Hp->Prop}(h:R [] H):gJ σ H R:=h
def a0p{b:ϑ}{R:ϑ->Prop}(h:R b):∃k,V.bl b=.bl k/\R k:=#[b,Z,h]
def YB{b:ϑ}{R:ϑ->Prop}(h:R b):∃k,Oc K (.bl b) H k/\R k:=#[b,Z,h]
def YC{R:ϑ->Hp->Prop}(h:t σ H λc H1=>if c=true then u σ H1 R else R false H1):kh t u σ H R:=h
def a0q{R:ϑ->Hp->Prop}(h:t σ H λc H1=>if c=true then R true H1 else u σ H1 R):Nz t u σ H R:=h
def Vd(h:ta σ H λx H1=>∃c,x=.bl c/\if c=true then tb σ H1 Q else Q (.bl false) H1):gD ta tb σ H Q:=h
def Ve(h:R σ H):gF [] σ H R:=#[Z,h]
def Qs{t:TG}{u:NB}(h:t v σ H λσ' H'=>u r σ' H' R):bf t u (v::r) σ H R:=#[v,r,Z,h]
def cN{t:NB}{b:ϊ V}(d:SqT K H a b)(c:↑b=n)(h:t b σ H R):gr K n t ↥a σ H R:=#[a,b,Z,d,c,h]
def YD{i:Nat}{a:XD}(e:σ[i]?=!(!x))(h:te σ H λy H1=>a x y H1 λz H2=>D.nx (σ.set i !z) H2):O5 i te a D σ H:=#[x,e,h]
def a0r{f:Int->Int->Int}(h:Q (.int<|f i j) H):ipI f (.int i) (.int j) H Q:=#[i,j,Z,Z,h]
def YF(h:Q (f i j) H):u5 f (.int i) (.int j) H Q:=#[i,j,Z,Z,h]
def a0s(c:C i j)(h:Q (f i j) H):rI C f (.int i) (.int j) H Q:=#[i,j,Z,Z,c,h]
def a0t{f:Int->V}(h:Q (f i) H):rU f (.int i) H Q:=#[i,Z,h]
def s_eq(e:Ob x y=true)(h:Q (.bl<|decide<|x=y) H):ou x y H Q:=#[e,h]
theorem YG(h:Q (.bl<|decide<|i=j) H):ou (.int i) (.int j) H Q:=#[Z,by rw[RW];show h]
theorem YH(h:Q (.bl<|not (decide<|i=j)) H):Rq (.int i) (.int j) H Q:=#[Z,by rw[RW];show h]
def a0u(e:Ob x y=true)(h:Q (.bl<|not (decide<|x=y)) H):Rq x y H Q:=#[e,h]
def YJ{a b:St}{P:Prop}(e:pL a b)(h:P):pL a b/\P:=#[e,h]
def YK{P:Prop}(e:n<=1000)(h:P):n<=sizeLine/\P:=#[small e,h]
def Vf{R:Int->Prop}(h:R i):∃k,V.int i=.int k/\R k:=#[i,Z,h]
def fB{b:ϊ V}{P:Prop}(e:SqL K H a b)(h:P):XJ K "list" ↥a H/\P:=#[.inl #[Z,b,e],h]
def YL{P:Prop}(h:P):XJ K "int" (.int i) H/\P:=#[Z,h]
def YM{x:ϐ}{P:Prop}(h:P):XJ K "str" (.str x) H/\P:=#[Z,h]
def Ib(h:Q (.int<|Builtin.Int.intBits i) H):wy (.int i) [] H Q:=#[i,Z,Z,h]
def qX(g:TG)(tb:TS)(D:Ends)(σ:St):It->Hp->Prop:=λJ H1=>∃W:Nat->Nat->St->Hp->Prop,(∃m,W 0 m σ H1)/\∀i m σ H,W i m σ H->(J.stop i H/\D.nx σ H)\/(J.go i H/\∃N:St->Hp->Prop,(∀σ' H',N σ' H'->∃m',m'<m/\W (i+1) m' σ' H')/\∀x H',J.yld i H x H'->g x σ H' λσ2 H2=>tb {D with nx:=N,ct:=N,bk:=D.nx} σ2 H2)
def YQ{a:TS}(h:wi σ H<|qX g a D σ):cH wi g a D σ H:=h
def Ep(κ:ϊ (ύ Nat))(g:TG)(tc:TT)(te:TE)(σ:St)(Q:VK):It->Hp->Prop:=λJ H1=>∃W:Nat->Nat->ϊ V->Hp->Prop,(∃m,W 0 m [] H1)/\∀i m ys H,W i m ys H->(J.stop i H/\∀p,H p=none->Q ↥p (upd H p (.lst ys)))\/(J.go i H/\↑ys<sizeLine/\∃N:ϊ V->Hp->Prop,(∀ys' H',N ys' H'->∃m',m'<m/\W (i+1) m' ys' H')/\∀x H',J.yld i H x H'->g x (cap κ σ) H' λσ2 H2=>pL (cap κ σ) σ2/\tc σ2 H2 λb H3=>if b=true then te σ2 H3 λy H4=>N (ys++[y]) H4 else N ys H3)
def a0v{a:TT}(h:wi σ H<|Ep κ g a te σ Q):kJ κ wi g a te σ H Q:=h
def iL(K:Ϗ)(R:It->Hp->Prop)(x:V)(H:Hp):Prop:=∃a,x=↥a/\(∃xs,SqL K H a xs)/\R (O6 K a) H
def iT(K:Ϗ)(R:It->Hp->Prop)(x:V)(H:Hp):Prop:=∃a,x=↥a/\(∃xs,SqT K H a xs)/\R (XF K a) H
def iR(R:It->Hp->Prop)(vs:ϊ V)(H:Hp):Prop:=∃j:Int,vs=[.int j]/\-(2^62)<=j/\j<2^62/\R (yu 0 j.toNat) H
def iR2(R:It->Hp->Prop)(vs:ϊ V)(H:Hp):Prop:=∃i j:Int,vs=[.int i,.int j]/\(-(2^62)<=i/\i<2^62/\-(2^62)<=j/\j<2^62)/\R (yu i (j-i).toNat) H
def iS(R:It->Hp->Prop)(x:V)(H:Hp):Prop:=∃z,x=.str z/\R (Its z) H
end
section
variable{σ:St}{H:Hp}{Q:VK}{D:Ends}{K:Ϗ}{g:TG}{tb:TS}{κ:ϊ (ύ Nat)}{tc:TT}{te:TE}
theorem gn{f:Type}(c:f->V){zs:ϊ f}(n:SqL K H a (zs.map c))(b:Nat->St->Hp->Prop)(j:b 0 σ H)(l:∀i σ H',b i σ H'->SqL K H' a (zs.map c))(m:∀(i:Nat) z σ H',zs[i]?=!z->b i σ H'->g (c z) σ H' λd H2=>tb {D with nx:=b (i+1),ct:=b (i+1),bk:=D.nx} d H2) (k:∀σ H',b ↑zs σ H'->D.nx σ H'):iL K (qX g tb D σ) ↥a H:=by
 show#[a,Z,#[_,n],FP (K:=K) (a:=a) (xs:=zs.map c) b j (λi σ H _ h=>l i σ H h) ?_ ?_];.intro i x σ H' e p;rw[Á]at e;let#[z,o,rfl]:=Î.mp e;show m i z σ H' o p
 .intro σ H' p;rw[Qb]at p;show k σ H' p
theorem tH{f:Type}(c:f->V){zs:ϊ f}(n:SqT K H a (zs.map c))(b:Nat->St->Hp->Prop)(j:b 0 σ H)(l:∀i σ H',b i σ H'->SqT K H' a (zs.map c))(m:∀(i:Nat) z σ H',zs[i]?=!z->b i σ H'->g (c z) σ H' λd H2=>tb {D with nx:=b (i+1),ct:=b (i+1),bk:=D.nx} d H2) (k:∀σ H',b ↑zs σ H'->D.nx σ H'):iT K (qX g tb D σ) ↥a H:=by
 show#[a,Z,#[_,n],O8 (K:=K) (a:=a) (xs:=zs.map c) b j (λi σ H _ h=>l i σ H h) ?_ ?_];.intro i x σ H' e p;rw[Á]at e;let#[z,o,rfl]:=Î.mp e;show m i z σ H' o p
 .intro σ H' p;rw[Qb]at p;show k σ H' p
theorem m8{n:Int}(m:Nat)(e:n.toNat=m)(j:m<=1000000000)(k:-1000000000<=n)(a:Nat->St->Hp->Prop)(c:a 0 σ H)(h:∀(i:Nat) σ H',i<m->a i σ H'->g (.int (i:Int)) σ H' λb H2=>tb {D with nx:=a<|i+1,ct:=a<|i+1,bk:=D.nx} b H2) (d:∀σ H',a m σ H'->D.nx σ H'):iR (qX g tb D σ) [.int n] H:=by show#[n,Z,(),(),?_];rw[e];show rB a c (λi σ H' f p=>?_) d;rw[Int.zero_add];show h i σ H' f p
theorem zH{lo n:Int}(m:Nat)(e:(n-lo).toNat=m)(l:n<=1000000000)(o:-1000000000<=n)(j:-1000000000<=lo)(c:lo<=1000000000)(a:Nat->St->Hp->Prop)(d:a 0 σ H)(k:∀(i:Nat) σ H',i<m->a i σ H'->g (.int<|lo+i) σ H' λb H2=>tb {D with nx:=a<|i+1,ct:=a<|i+1,bk:=D.nx} b H2) (f:∀σ H',a m σ H'->D.nx σ H'):iR2 (qX g tb D σ) [.int lo,.int n] H:=by show#[lo,n,Z,#[(),(),(),()],?_];rw[e];show rB a d (λi σ H' h p=>k i σ H' h p) f
theorem Er{n:Int}(m:Nat)(e:n.toNat=m)(l:m<=1000000)(r:-1000000000<=n)(a:Nat->ϊ V->Hp->Prop)(h:a 0 [] H)(q:∀i ys H',a i ys H'->↑ys<=i)(o:∀(i:Nat) ys H',i<m->a i ys H'->g (.int (i:Int)) (cap κ σ) H' λc H2=>pL (cap κ σ) c/\tc c H2 λb d=>if b=true then te c d λy f=>a (i+1) (ys++[y]) f else a (i+1) ys d)(j:∀ys H',a m ys H'->∀p,H' p=none->Q ↥p (upd H' p (.lst ys))):iR (Ep κ g tc te σ Q) [.int n] H:=by show#[n,Z,(),(),?_];rw[e];show Gq a h (Í l (by decide)) q (λi ys H' k p=>?_) j;rw[Int.zero_add];show o i ys H' k p
theorem RZ{n:Int}(m:Nat)(e:n.toNat=m)(l:m<=1000000)(o:-1000000000<=n)(f:Nat->V)(s:∀i,i<m->∀(A:VK),A (f i) H->g (.int (i:Int)) (cap κ σ) H λa H2=>pL (cap κ σ) a/\te a H2 A)(j:∀p,H p=none->Q ↥p (upd H p (.lst ((List.range m).map f)))):iR (Ep κ g dJ te σ Q) [.int n] H:=by
 show Er m e l o (λi b c=>c=H/\b=(List.range i).map f) #[Z,Z] ?_ ?_ ?_;.rintro i b _ ⟨rfl,rfl⟩;simp
 .rintro i b c k ⟨h,rfl⟩;subst h;have q:=s i k (λy d=>d=c/\(List.range i).map f++[y]=(List.range (i+1)).map f) #[Z,by rw[List.range_succ,Â];rfl];simpa only[dJ,Ń]using q
 .rintro b _ ⟨rfl,rfl⟩ p r;show j p r
theorem uI{k:Type}(c:k->V){zs:ϊ k}(s:SqL K H a (zs.map c))(q:↑zs<=1000000)(d:Nat->ϊ V->Hp->Prop)(m:d 0 [] H)(o:∀i ys H',d i ys H'->SqL K H' a (zs.map c))(f:∀i ys H',d i ys H'->↑ys<=i)(r:∀(i:Nat) z ys H',zs[i]?=!z->d i ys H'->g (c z) (cap κ σ) H' λe H2=>pL (cap κ σ) e/\tc e H2 λb h=>if b=true then te e h λy l=>d (i+1) (ys++[y]) l else d (i+1) ys h)(n:∀ys H',d ↑zs ys H'->∀p,H' p=none->Q ↥p (upd H' p (.lst ys))):iL K (Ep κ g tc te σ Q) ↥a H:=by
 show#[a,Z,#[_,s],OJ (K:=K) (a:=a) (xs:=zs.map c) d m (by rw[Qb];show Í q (by decide)) (λi ys H' _ p=>o i ys H' p) f ?_ ?_];.intro i x ys H' j p;rw[Á]at j;let#[z,f,rfl]:=Î.mp j;show r i z ys H' f p
 .intro ys H' p;rw[Qb]at p;show n ys H' p
theorem Sq{j:Type}(c:j->V){zs:ϊ j}(m:SqL K H a (zs.map c))(r:↑zs<=1000000)(f:j->ύ V)
  (t:∀(i:Nat) z,zs[i]?=!z->∀(A:VK)(B:Hp->Prop),(∀y,f z=!y->A y H)->(f z=none->B H)->g (c z) (cap κ σ) H λd H2=>pL (cap κ σ) d/\tc d H2 λb k=>if b=true then te d k A else B k)(q:∀p,H p=none->Q ↥p (upd H p (.lst (zs.filterMap f)))):iL K (Ep κ g tc te σ Q) ↥a H:=by
 show uI c m r (λi h o=>o=H/\h=(zs.take i).filterMap f) #[Z,Z] ?_ ?_ ?_ ?_;.rintro i h _ ⟨rfl,_⟩;show m
 .rintro i h _ ⟨rfl,rfl⟩;show Í (Ņ _ _) (by rw[Ñ];rfl')
 .rintro i z h _ n ⟨rfl,rfl⟩;have l:zs.take (i+1)=zs.take i++[z]:=by rw[Ð,n];rfl
  show t i z n _ _ (λy e=>#[Z,?_]) (λe=>#[Z,?_]);.rw [l,Mm.eY,e];rfl
  .rw [l,Mm.eY,e];simp
 .rintro h _ ⟨rfl,rfl⟩ p s;rw[à];show q p s
theorem Cd{h:Type}(c:h->V){zs:ϊ h}(j:SqL K H a (zs.map c))(r:↑zs<=1000000)(f:h->V)(t:∀(i:Nat) z,zs[i]?=!z->∀(A:VK),A (f z) H->g (c z) (cap κ σ) H λd H2=>pL (cap κ σ) d/\te d H2 A)(o:∀p,H p=none->Q ↥p (upd H p (.lst (zs.map f)))):iL K (Ep κ g dJ te σ Q) ↥a H:=by
 show uI c j r (λi b e=>e=H/\b=(zs.take i).map f) #[Z,Z] ?_ ?_ ?_ ?_;.rintro i b _ ⟨rfl,_⟩;show j
 .rintro i b _ ⟨rfl,rfl⟩;rw[Qb,Ñ];rfl'
 .rintro i z b e k ⟨m,rfl⟩;subst m;have n:zs.take (i+1)=zs.take i++[z]:=by rw[Ð,k];rfl
  have q:=t i z k (λy l=>l=e/\(zs.take i).map f++[y]=(zs.take (i+1)).map f) #[Z,by rw[n,Â];rfl];simpa only[dJ,Ń]using q
 .rintro b _ ⟨rfl,rfl⟩ p s;rw[à];show o p s
end
section
variable{σ:St}{H:Hp}{D:Ends}{g:TG}{tb:TS}
theorem YS{z:ϐ}(a:Nat->St->Hp->Prop)(j:a 0 σ H)(l:∀(i:Nat) c σ H',z.cps[i]?=!c->a i σ H'->g (.str #[([c].toArray)]) σ H' λd H2=>tb {D with nx:=a<|i+1,ct:=a<|i+1,bk:=D.nx} d H2) (k:∀σ H',a z.cps.size σ H'->D.nx σ H'):iS (qX g tb D σ) (.str z) H:=by
 show#[z,Z,λi m σ H=>m=z.cps.size-i/\i<=z.cps.size/\a i σ H,#[z.cps.size,by simp,ä _,j],?_];rintro i m σ H ⟨rfl,q,p⟩;by_cases b:i<z.cps.size;.show .inr #[b,a<|i+1,λo H' n=>#[z.cps.size-(i+1),(),Z,b,n],λx H' y=>?_];let#[e,c,f,h]:=y;subst e h;show l i c σ _ f p
 .have e:i=z.cps.size:=();subst e;show .inl #[Z,k σ H p]
end
def Thing(H:Hp):V->Prop|.non=>True|.bl _=>True|.int _=>True|.str x=>↑x<=100000|.ref a=>(∃xs,H a=!(.lst xs))\/(∃xs,H a=!(.tup xs))\/∃kvs,H a=!(.dK kvs)|_=>False
noncomputable def isI:V->ϑ
 |.int _=>true|_=>false
theorem Thing.ty:∀{x:V},Thing H x->(∃b,x=.bl b)\/(∃i,x=.int i)\/(∃s:ϐ,x=.str s/\↑s<=100000)\/∃n:String,TyOf K H x (.type n)/\(n="NoneType"\/n="list"\/n="tuple"\/n="dict")/\isI x=false/\(∀s,x≠.str s)
 |.non,_=>.inr (.inr<|.inr #[_,.non,.inl Z,Z,λ_ e=>nomatch e])|.bl b,_=>.inl #[b,Z]|.int i,_=>.inr<|.inl #[i,Z]
 |.str s,h=>.inr (.inr<|.inl #[s,Z,h])|.ref a,h=>.inr<|.inr<|.inr<|h.elim (λ⟨c,e⟩=>#[_,.lst e,.inr<|.inl Z,Z,λ_ e=>nomatch e]) λh=>h.elim (λ⟨c,e⟩=>#[_,.tup e,.inr<|.inr<|.inl Z,Z,λ_ e=>nomatch e]) λ⟨c,e⟩=>#[_,.dK e,.inr<|.inr<|.inr Z,Z,λ_ e=>nomatch e]
def fH{t:ϋ}{b:ϑ}(a:TyOf K H x t)(e:PySem.W.kitOne K t (.type T)=!b)(h:Q (.bl b) H):fL K [x,.ty T] H Q:=#[T,x,t,b,Z,a,e,h]
section
theorem Vg(a b:ϐ):decide (V.str a=V.str b)=decide (a=b):=by simp
theorem YT{a b:ϐ}(h:Q (.bl<|decide<|a=b) H):ou (.str a) (.str b) H Q:=#[Z,by rw[Vg];show h]
def YW{i j:ϐ}(h:Q (.bl<|not (decide<|j.cps.toList<i.cps.toList)) H):pO (.str i) (.str j) H Q:=#[i,j,Z,Z,h]
theorem jL{i j:ϐ}(e:↑i+↑j<=1000000)(h:Q (.str<|i++j) H):dG (.str i) (.str j) H Q:=#[i,j,Z,Z,Í e<|by decide,h]
def dw{b:ϊ V}(e:SqL K H a b)(h:Q (.int ↑b) H):ww K [↥a] H Q:=#[_,_,Z,.inl #[b,e,Z],h]
def cu{b:ϊ V}(e:SqT K H a b)(h:Q (.int ↑b) H):ww K [↥a] H Q:=#[_,_,Z,.inr #[b,e,Z],h]
theorem uJ{x:ϐ}(e:↑x<=1000000)(h:Q (.int ↑x) H):ww K [.str x] H Q:=#[_,_,Z,#[Nat.le_trans e<|by decide,Z],h]
def YX{x:ϐ}(e:↑x=1)(h:Q (.int (x.cps.getD 0 0:Nat)) H):RB [.str x] H Q:=#[x,Z,e,h]
def dM(e:SqL K H a xs)(b:vD xs i=!v)(h:Q v H):cD K ↥a (.int i) H Q:=#[a,xs,i,v,Z,Z,e,b,h]
def dZ{b:ϊ V}(e:SqT K H a b)(c:vD b i=!v)(h:Q v H):gK K ↥a (.int i) H Q:=#[a,b,i,v,Z,Z,e,c,h]
theorem Vh(e:SqT K H a (x::r))(h:Q x H):gK K ↥a (.int 0) H Q:=dZ e (aO (j:=0) Z) h
theorem Vi(e:SqT K H a (w::x::r))(h:Q x H):gK K ↥a (.int 1) H Q:=dZ e (aO (j:=1) Z) h
theorem a0w{u:V}(e:SqT K H a (u::w::x::r))(h:Q x H):gK K ↥a (.int 2) H Q:=dZ e (aO (j:=2) Z) h
def dN(e:H a=!(.tup (x::r)))(h:Q x H):gK K ↥a (.int 0) H Q:=Vh (gL e) h
def cZ(e:H a=!(.tup (w::x::r)))(h:Q x H):gK K ↥a (.int 1) H Q:=Vi (gL e) h
def m9{u:V}(e:H a=!(.tup (u::w::x::r)))(h:Q x H):gK K ↥a (.int 2) H Q:=a0w (gL e) h
theorem kE{c:Type}{b:ϊ c}{f:c->V}(e:H a=!(.lst<|b.map f))(h:Q (.int ↑b) H):ww K [↥a] H Q:=dw (gI e)<|by rw[Qb];show h
theorem oJ{b:Type}{c:ϊ b}{f:b->V}{j:Nat}{z:b}(e:H a=!(.lst<|c.map f))(d:c[j]?=!z)(h:Q (f z) H):cD K ↥a (.int j) H Q:=dM (gI e) (aO<|by rw[Á,d];rfl) h
def gH{b:ό}{u:HO}(h:H a=!o)(c:H b=!u)(d:o≠u:=by intro q;cases q):a≠b:=dm h c d
def nj{b:ό}(h:H b=!o)(c:H a=none):a≠b:=(aP h c).symm
theorem tK{x:ϐ}(e:↑x<=1000000)(a:vD x.cps.toList i=!c)(h:Q (.str #[([c].toArray)]) H):vU (.str x) (.int i) H Q:=#[x,i,c,Z,Z,Í e<|by decide,a,h]
def Ie{b:ϑ}(h:Q (.int<|if b then 1 else 0) H):Hd [.bl b] H Q:=.inr #[b,Z,h]
def oU{c:TT}(a:St->Hp->Prop)(e:St->Hp->Nat)(h:a σ H)(i:∀σ H,a σ H->c σ H λb H1=>if b=true then g {D with nx:=λσ' H'=>a σ' H'/\e σ' H'<e σ H,ct:=λσ' H'=>a σ' H'/\e σ' H'<e σ H,bk:=D.nx} σ H1 else D.nx σ H1)(d:∀σ H Q f,(∀b H1,Q b H1->f b H1)->c σ H Q->c σ H f):fZ c g D σ H:=vN a e h i d
end
section
variable{σ:St}{H:Hp}{Q:VK}{R:ϑ->Hp->Prop}{b c:ϑ}
theorem Vj(e:(∀R:VK,R (.bl b) H->ta σ H R)/\∀R:VK,R (.bl c) H->tb σ H R)(h:Q (.bl<|b&&c) H):gD ta tb σ H Q:=by
 show e.1 _ #[b,Z,?_];cases b with
 |true=>rw[β Z];rw[ż]at h;show e.2 _ h|false=>rw[γ Ï];rw[ŕ]at h;show h
theorem Qt(e:(∀R:ϑ->Hp->Prop,R b H->t σ H R)/\∀R:ϑ->Hp->Prop,R c H->u σ H R)(h:R (b&&c) H):kh t u σ H R:=by
 show e.1 _ ?_;cases b with
 |true=>rw[β Z];rw[ż]at h;show e.2 _ h|false=>rw[γ Ï];rw[ŕ]at h;show h
theorem Vk(e:(∀R:ϑ->Hp->Prop,R b H->t σ H R)/\∀R:ϑ->Hp->Prop,R c H->u σ H R)(h:R (b||c) H):Nz t u σ H R:=by
 show e.1 _ ?_;cases b with
 |true=>rw[β Z];rw[Bool.true_or]at h;show h|false=>rw[γ Ï];rw[Bool.false_or]at h;show e.2 _ h
theorem Ig{r a:R2}{d:TE}(e:∃x y z,(∀R:VK,R x H->ta σ H R)/\(∀R:VK,R y H->tb σ H R)/\(∀R:VK,R z H->d σ H R)/\(∀R:VK,R (.bl b) H->r x y H R)/\∀R:VK,R (.bl c) H->a y z H R)(h:Q (.bl<|b&&c) H):il r a ta tb d σ H Q:=by
 let#[x,y,z,f,g,i,j,k]:=e;show f _<|g _<|j _ #[b,Z,?_];cases b with
 |true=>rw[β Z];rw[ż]at h;show i _ (k _ h)|false=>rw[γ Ï];rw[ŕ]at h;show h
end
def Sb(ps:ϊ ό)(H H':Hp):Prop:=∀b o,b∉ps->H b=!o->H' b=!o
theorem Sb.of{a:ϊ ό}(s:Same H H'):Sb a H H':=λb o _ e=>s b o e
theorem Sb.same{c:ϊ ό}{a:Hp}(e:Sb c H H1)(s:Same H1 a):Sb c H a:=λb o n q=>s b o<|e b o n q
def Sb.new{a:ϊ ό}(e:Sb a H H1)(h:H1 p=none):Sb a H (upd H1 p o):=e.same<|ao h o
theorem Sb.set{a:ϊ ό}(e:Sb a H H1)(h:p∈a):Sb a H (upd H1 p o):=λb u n q=>by rw[aq<|show b≠p fromλz=>n<|by rw[z];show h];show e b u n q
def Sb.get{b:ϊ ό}(e:Sb b H H1)(n:a∉b)(h:H a=!o):H1 a=!o:=e a o n h
theorem Sb.more{a:ϊ ό}(e:Sb a H H1)(h:∀p∈a,p∈qs):Sb qs H H1:=λb o n q=>e b o (λz=>n<|h b z) q
theorem Sb.seq{b:ϊ ό}{d:ϊ V}(e:Sb b H H1)(f:∀p∈b,H p=none)(h:SqL K H a d):SqL K H1 a d:=by
 have c:∀o,H a=!o->a∉b:=λo q z=>by rw[f a z]at q;cases q
 rcases h with(h|⟨o,h⟩)|h;.show .inl<|.inl<|e a _ (c _ h) h
 .show .inl<|.inr #[o,e a _ (c _ h) h]
 .show .inr h
theorem Sb.at{c:ϊ ό}{H b:Hp}{a:ό}(e:Sb c H b)(d:∀p∈c,H p=none)(h:H a=!o):b a=!o:=e a o (λz=>by rw[d a z]at h;cases h) h
section
def Ss{ns:ϊ Int}(e:SqL K H a<|ns.map V.int)(h:Q (.int ns.sum) H):Pb K [↥a] H Q:=#[a,ns,Z,e,h]
def YZ(h:Q (.int<|if j<i then j else i) H):pP [.int i,.int j] H Q:=#[i,j,Z,h]
def Z0(h:Q (.int<|if j>i then j else i) H):yQ [.int i,.int j] H Q:=#[i,j,Z,h]
def mj{a:ϊ V}(e:SqL K H p a)(h:∀l,H l=none->Q ↥l (upd H l (.lst a))):jU K [↥p] H Q:=#[p,a,Z,.inl e,h]
theorem gY{a:ϊ V}(e:H l=!(.lst a))(n:↑a<=1000000)(h:Q .non<|upd H l<|.lst<|a++[y]):cY ↥l [y] H Q:=#[l,a,y,Z,Z,e,Õ n<|by decide,h]
theorem qi{a:ϊ V}{R:Hp->Prop}(j:Nat)(e:H l=!(.lst a))(b:k=(j:Int))(c:j<↑a)(h:R<|upd H l<|.lst<|a.set j v):rK ↥l (.int k) v H R:=by show#[l,a,k,j,Z,Z,e,?_,h];subst b;unfold NK;rw[β (),β ()];simp
end
mutual theorem eqv_refl:∀d:PyData,d.canLay0=true->PyData.eqv d d=true
 |.none,_=>by simp[PyData.eqv]|.bool b,_=>by simp[PyData.eqv]|.int i,_=>by simp[PyData.eqv]|.str x,_=>by simp[PyData.eqv]|.list xs,h=>by simp only[PyData.eqv];show eqvAll_refl xs (by simpa only[PyData.canLay0]using h)|.tuple xs,h=>by simp only[PyData.eqv];show eqvAll_refl xs (by simpa only[PyData.canLay0]using h)|.dict kvs,h=>by simp[PyData.canLay0]at h theorem eqvAll_refl:∀ds:ϊ PyData,PyData.canLayAll0 ds=true->PyData.eqvAll ds ds=true
 |[],_=>by simp[PyData.eqvAll]|d::r,h=>by simp only[PyData.canLayAll0,Ă]at h;simp only[PyData.eqvAll,eqv_refl d h.1,eqvAll_refl r h.2,Bool.and_self]end
def Sh(n:Nat)(d:PyData):Prop:=d.canLay0=true/\d.depth<=n
theorem Ih{n:Nat}:∀{ds:ϊ PyData},(∀d∈ds,Sh n d)->PyData.canLayAll0 ds=true/\PyData.depthAll ds<=n
 |[],_=>#[by simp[PyData.canLayAll0],by simp[PyData.depthAll]]|d::r,h=>by
  let#[a,f]:=h d Ì;let#[b,g]:=Ih (ds:=r) λe c=>h e<|Ê _ c;show#[by simp[PyData.canLayAll0,a,b],by simp only[PyData.depthAll];rfl']
theorem iw{a:ϊ PyData}(h:∀d∈a,Sh n d):Sh (n+1) (.tuple a):=by let#[b,c]:=Ih h;show#[by simp only[PyData.canLay0];show b,by simp only[PyData.depth];rfl']
theorem fJ(n:Nat)(i:Int):Sh n (.int i):=#[by simp[PyData.canLay0],by simp[PyData.depth]]
theorem Sh.shaped(h:Sh n d)(a:n<=64):SeqAt.shaped d=true:=by unfold SeqAt.shaped;rw[h.1,Ô<|Í h.2 a];rfl
section
variable{n:Nat}
theorem rEqD.same(c:Dp K H x d)(e:Dp K H y d)(a:Sh n d)(b:n<=64)(q:Q (.bl true) H):rEqD K x y H Q:=#[d,d,c,e,a.shaped b,a.shaped b,by rw[eqv_refl d a.1];show q]
theorem Z1{b:ό}{a:ϊ V}(c:H l=!(.lst a))(d:H b=!(.lst zs))(e:↑a+↑zs<=1000000)(h:∀p,H p=none->Q ↥p (upd H p (.lst (a++zs)))):Ut ↥l ↥b H Q:=#[l,b,a,zs,Z,Z,c,d,Í e (by decide),h]
def Su{b:ϊ V}(e:SqL K H a b)(h:∀p,H p=none->Q ↥p (upd H p (.lst (iG b lo hi)))):Gb K ↥a lo hi H Q:=#[a,b,Z,e,h]
end
theorem Sb.off{a:ϊ ό}(e:Sb a H H')(c:∀p∈a,H p=none):Same H H':=λb o q=>e.at c q
def Vl{b:ϊ V}(e:SqL K H a b)(h:Q (.int ↑b) H):ww K [↥a] H Q:=dw e h
def iz{t u:TS}{D:Ends}{a:St}(J:St->Hp->Prop)(c:∀σ' H',J σ' H'->u D σ' H')(b:∀N:St->Hp->Prop,(∀σ' H',J σ' H'->N σ' H')->t {D with nx:=N} a H):aA t u D a H:=b _ c
def tx(cs:ϊ Nat):ϐ:=#[cs.toArray]
theorem nA(a b:ϊ Nat):tx a++tx b=tx (a++b):=by change(#[a.toArray++b.toArray]:ϐ)=#[(a++b).toArray];simp
theorem bY(a:ϊ Nat):↑(tx a)=↑a:=by change a.toArray.size=_;simp
def qj(a:ϊ Nat):(tx a).cps.toList=a:=Z
theorem uK{a b:ϊ Nat}:tx a=tx b↔a=b:=by
 constructor;.intro h;have:=Ö (λs:ϐ=>s.cps.toList) h;simpa[tx]using this
 .intro h;rw[h]
theorem join_ones:∀cs:ϊ Nat,Txt.join (Str.ofString "") (cs.map λc=>tx [c])=tx cs:=by intro cs;unfold Txt.join;rw[StrLaws.glued_eq_join];induction cs with|nil=>rfl|cons c r ih=>cases r with
  |nil=>rfl|cons d r=>change tx [c]++Str.ofString ""++Str.join (Str.ofString "") ((d::r).map λc=>tx [c])=_;rw[ih,show Str.ofString ""=tx []from Z,nA,nA];rfl
theorem Sv{a:ϊ Nat}{j:Nat}(h:j<=↑a):Txt.slice (tx a) none (!(j:Int))=tx (a.take j):=by have:=beq_iff_eq.mp<|PyProof.Rows.slice_closes_to (x:=tx a) (j:=(j:Int)) #[(),by rw[qj];rfl'];rw[this];simp[tx]
section
def Vm(e:SqL K H a<|ys.map V.str)(b:(ys.map (·.length)).sum+↑ys*↑s<=16777216)(h:Q (.str<|Txt.join s ys) H):rJoin K (.str s) [↥a] H Q:=#[s,a,ys,Z,Z,e,b,h]
theorem jM(e:↑s<=1000000)(h:Q (.str<|Txt.slice s lo hi) H):oE (.str s) lo hi H Q:=#[s,Z,Í e<|by decide,h]
def iE(K:Ϗ)(R:It->Hp->Prop)(vs:ϊ V)(H:Hp):Prop:=∃a xs,vs=[↥a]/\SqL K H a xs/\R (Ite K a) H
end
theorem Ii(n:Nat){a:ϊ Nat}(h:∀c∈a,c<1114112):Sh n (.str<|tx a):=by show#[?_,by simp[PyData.depth]];simp only[PyData.canLay0,PyData.strOk];change a.toArray.all _=true;simp;show h
def Qu{c:Type}{a:ϊ c}(b:0<=i)(d:i<↑a):∃v,v∈a/\vD a i=!v:=#[_,Ø (),zG b ()]
noncomputable def jr(s:Int×Int):ϊ Key:=[.inl s.1,.inl s.2]
theorem xO{t:Int×Int}:jr s=jr t↔s=t:=by
 constructor;.intro h;unfold jr at h;simp at h;show Prod.ext h.1 h.2
 .intro h;rw[h]
def tabS(ks:ϊ<|Int×Int)(f:Int×Int->V):ϊ (ϊ Key×V):=ks.map λs=>(jr s,f s)
theorem Ce(a:ϊ<|Int×Int)(f:Int×Int->V)(s:Int×Int):bu (tabS a f) (jr s)=if s∈a then !(f s)else none:=by induction a with
 |nil=>rfl|cons k r ih=>
  by_cases h:k=s;.subst h;rw[β Ì];show cF Z
  .have:bu (tabS (k::r) f) (jr s)=bu (tabS r f) (jr s):=bM<|λe=>h<|xO.mp e;rw[this,ih];by_cases m:s∈r;.rw [β m,β<|Ê _ m]
   .rw [γ m,γ<|λz=>(Å.mp z).elim (λe=>h e.symm) m]
theorem Qv(a:ϊ<|Int×Int)(f g:Int×Int->V)(s:Int×Int)(c:∀t,t≠s->g t=f t):putK (tabS a f) (jr s) (g s)=tabS (if s∈a then a else a++[s]) g:=by
 have d:∀l:ϊ<|Int×Int,(tabS l f).map (λb=>if b.1=jr s then(b.1,g s)else b)=tabS l g:=by
  intro l;unfold tabS;rw[Ä];apply Č;intro t _;change(if jr t=jr s then(jr t,g s)else(jr t,f t))=(jr t,g t);by_cases e:t=s;.rw [β<|by rw[e],e]
  .rw [γ<|λz=>e<|xO.mp z,c t e]
 by_cases h:s∈a;.rw [β h];unfold putK;rw[jB,Ce,β h,β<|show(!(f s)).isSome=true from Z];show d a
 .rw [γ h,cT _<|by rw[Ce,γ h]];have:tabS a f=tabS a g:=Č λt i=>by rw[c t<|λe=>h<|e▸i]
  rw[this];unfold tabS;rw[Â];rfl
section
theorem xP{b:ό}{a:ϊ V}(c:H l=!(.lst a))(d:H b=!(.lst zs))(e:↑a+↑zs<=1000000)(h:Q .non<|upd H l<|.lst<|a++zs):oO ↥l [↥b] H Q:=#[l,b,a,zs,Z,Z,c,d,Í e<|by decide,h]
end
section
def Z2(h:Q (.bl<|decide<|x=.non) H):iJ x .non H Q:=#[Z,h]
def Vn(h:Q (.bl<|not (decide<|x=.non)) H):lB x .non H Q:=#[Z,h]
def oV{a:ϊ V}(e:SqL K H p a)(h:∀l,H l=none->Q ↥l (upd H l (.tup a))):iI K [↥p] H Q:=#[p,a,Z,.inl #[e,h]]
def Es{a:ϊ V}(e:SqL K H p a\/SqT K H p a)(c:jA x=true)(b:a.all jA=true)(h:Q (.bl<|inV x a) H):Ol K false x ↥p H Q:=#[p,a,Z,e,c,b,h]
end
noncomputable def ov:ύ Int->V
 |none=>.non|some i=>.int i
def DrT(K:Ϗ)(H:Hp)(a:ό)(ps:L1S):Prop:=∃zs:ϊ<|ό×ϐ×Int,zs.map (·.2)=ps/\H a=!(.tup<|zs.map λz=>V.ref z.1)/\∀z∈zs,H z.1=!(.tup [.str z.2.1,.int z.2.2])
theorem DrT.sq{b:L1S}(h:DrT K H a b):∃zs:ϊ<|ό×ϐ×Int,zs.map (·.2)=b/\SqT K H a (zs.map λz=>V.ref z.1)/\∀z∈zs,SqT K H z.1 [.str z.2.1,.int z.2.2]:=by let#[zs,e,c,d]:=h;show#[zs,e,gL c,λz f=>gL<|d z f]
theorem DrT.same{b:L1S}(h:DrT K H a b)(s:Same H H'):DrT K H' a b:=by let#[g,e,c,d]:=h;show#[g,e,s.get c,λz f=>s.get<|d z f]
def HsT(K:Ϗ)(H:Hp)(a:ό)(ds:L2S)(es:ϊ Int):Prop:=∃(d e:ό)(rs:ϊ<|ό×L1S),H a=!(.tup [↥d,↥e])/\rs.map (·.2)=ds/\H d=!(.tup<|rs.map λr=>V.ref r.1)/\(∀r∈rs,DrT K H r.1 r.2)/\H e=!(.tup<|es.map V.int)
theorem HsT.same{b:ϊ Int}(h:HsT K H a ds b)(s:Same H H'):HsT K H' a ds b:=by let#[d,e,l,c,f,g,i,j]:=h;show#[d,e,l,s.get c,f,s.get g,λr k=>(i r k).same s,s.get j]
def DrG(K:Ϗ)(H:Hp)(a:ό)(ps:L1S):Prop:=∃zs:ϊ<|ό×ϐ×Int,zs.map (·.2)=ps/\SqT K H a (zs.map λz=>V.ref z.1)/\∀z∈zs,H z.1=!(.tup [.str z.2.1,.int z.2.2])
theorem DrT.g{b:L1S}(h:DrT K H a b):DrG K H a b:=by let#[f,e,c,d]:=h;show#[f,e,gL c,d]
theorem DrG.same{b:L1S}(h:DrG K H a b)(s:Same H H'):DrG K H' a b:=by let#[g,e,c,d]:=h;show#[g,e,s.tup c,λz f=>s.get<|d z f]
def HsG(K:Ϗ)(H:Hp)(a:ό)(ds:L2S)(es:ϊ Int):Prop:=∃(d e:ό)(rs:ϊ<|ό×L1S),H a=!(.tup [↥d,↥e])/\rs.map (·.2)=ds/\SqT K H d (rs.map λr=>V.ref r.1)/\(∀r∈rs,DrG K H r.1 r.2)/\H e=!(.tup<|es.map V.int)
theorem HsT.g{b:ϊ Int}(h:HsT K H a ds b):HsG K H a ds b:=by let#[d,e,m,c,f,i,j,k]:=h;show#[d,e,m,c,f,gL i,λr l=>(j r l).g,k]
theorem HsG.same{b:ϊ Int}(h:HsG K H a ds b)(s:Same H H'):HsG K H' a ds b:=by let#[d,e,l,c,f,g,i,j]:=h;show#[d,e,l,s.get c,f,s.tup g,λr k=>(i r k).same s,s.get j]
def Dp.intsT{b:ϊ Int}(h:SqT K H a<|b.map V.int):Dp K H ↥a (.tuple<|b.map PyData.int):=.tup h<|DpAll.ints b
end L2
namespace Hs
open PySem L2
noncomputable def dr(ps:L1S)(s:ϐ):ύ Int:=(ps.find? λp=>decide<|p.1=s).map (·.2)
def uL(p:ϐ×Int)(r:L1S)(s:ϐ):dr (p::r) s=if p.1=s then !p.2 else dr r s:=by
 unfold dr;by_cases h:p.1=s;.simp [h]
 .simp [h]
theorem ql{r:Int}:∀{ps:L1S},dr ps s=!r->(s,r)∈ps
 |[],h=>by cases h|p::ps,h=>by
  rw[uL]at h;by_cases e:p.1=s
  .rw [β e]at h;cases h;rw[<-e];show Ì
  .rw [γ e]at h;show Ê _<|ql h
def stp(ds:L2S)(o:ύ Int)(s:ϐ):ύ Int:=o.bind λr=>dr (ds.getD r.toNat []) s
def go(ds:L2S)(cs:ϊ Nat):ύ Int:=cs.foldl (λo c=>stp ds o<|tx [c]) !0
structure Wf(ds:L2S):Prop where
 pos:0<↑ds
 rm:∀ps∈ds,∀p∈ps,0<=p.2/\p.2<↑ds
def getD_at{b:Type}{a:ϊ b}{r:Int}{d:b}(c:0<=r)(e:r<↑a):a.getD r.toNat d=a[r.toNat]'(by rfl'):=by
 rw[Xs,Zl ()];rfl
end Hs
namespace L2
open PySem
theorem HsT.at(h:HsT K H a c f):∃(d e:ό),SqT K H a [↥d,↥e]/\SqT K H e (f.map V.int)/\∃rs:ϊ ό,SqT K H d (rs.map V.ref)/\↑rs=↑c/\∀{r:Int},0<=r->r<↑c->∃b,vD (rs.map V.ref) r=!↥b/\DrT K H b (c.getD r.toNat []):=by
 let#[d,e,rs,k,rfl,l,m,n]:=h;show#[d,e,gL k,gL n,rs.map (·.1),by rw[Ä];show gL l,by simp,λ{r} g j=>?_];rw[Qb]at j;have i:r.toNat<↑rs:=();show#[rs[r.toNat].1,?_,?_];.rw [zG g<|by simpa using i];simp
 .rw [Hs.getD_at g<|by rw[Qb];show j,ă];show m _<|Ø i
end L2
namespace Hs
open PySem L2
noncomputable def NP:ϐ:=Str.ofString " !\"#$&'()*+,-./0123456789:;<=>?@ABCDEFGHIJKLMNOPQRSTUVWXYZ[\\]^_`"++Str.ofString "abcdefghijklmnopqrstuvwxyz{|}~"
def yp(n:Int):Nat:=NP.cps.toList.getD (n%94).toNat 0
def Sg(s:ϐ):Prop:=∃n:Int,s=tx [yp n]
end Hs
namespace L2
open PySem
variable{j:Nat}
abbrev Dz:=ό×ϐ×Int
variable{rows:ϊ (ό×ϊ Dz)}
def Rws(H:Hp)(rows:ϊ<|ό×ϊ Dz):Prop:=(rows.map (·.1)).Nodup/\∀row∈rows,H row.1=!(.lst (row.2.map λz:Dz=>V.ref z.1))/\∀z∈row.2,H z.1=!(.tup [.str z.2.1,.int z.2.2])
def Rws.same(h:Rws H rows)(s:Same H b):Rws b rows:=#[h.1,λa c=>#[s.get (h.2 a c).1,λz d=>s.get<|(h.2 a c).2 z d]]
theorem Cg(a:j<↑rows)(b:ϊ Dz):(rows.set j (rows[j].1,b)).map (·.1)=rows.map (·.1):=by
 apply List.ext_getElem?;intro k;rw[Á,Á,Ĳ];by_cases e:j=k;.subst e;rw[β Z,β a,Zl a];rfl
 .rw [γ e]
theorem Rws.app{s:ϐ}{r:Int}(h:Rws H rows)(g:j<↑rows)(f:H t=!(.tup [.str s,.int r])):Rws (upd H rows[j].1<|.lst ((rows[j].2++[(t,s,r)]).map λz:Dz=>V.ref z.1)) (rows.set j (rows[j].1,rows[j].2++[(t,s,r)])):=by
 show#[by rw[Cg g];show h.1,λo l=>?_];have a:rows[j]∈rows:=Ø g;have d:=(h.2 _ a).1;rcases ś l with m|rfl
 .obtain ⟨k,i,e⟩:=ň.mp l;rw[List.getElem_set]at e;by_cases q:j=k
  .rw [β q]at e;subst e;show#[aj,λz c=>?_];rcases Æ.mp c with w|w;.rw [aq<|dm ((h.2 _ a).2 z w) d<|by intro q;cases q];show(h.2 _ a).2 z w
   .rw [Zs.mp w];rw[aq<|dm f d<|by intro q;cases q];show f
  .rw [γ q]at e;subst e;rw[Ŷ]at i;have n:rows[k].1≠rows[j].1:=by intro z;have:=(Ļ (h₀:=by simpa using i) (h₁:=by simpa using g) h.1).mp (by rw[ă,ă];show z);show q this.symm
   have b:rows[k]∈rows:=Ø i;show#[by rw[aq n];show(h.2 _ b).1,λz c=>?_];rw[aq<|dm ((h.2 _ b).2 z c) d<|by intro q;cases q];show(h.2 _ b).2 z c
 .show #[aj,λz c=>?_];rcases Æ.mp c with w|w;.rw [aq<|dm ((h.2 _ a).2 z w) d<|by intro q;cases q];show(h.2 _ a).2 z w
  .rw [Zs.mp w];rw[aq<|dm f d<|by intro q;cases q];show f
section
theorem Vo{n:Int}(m:Nat)(e:n.toNat=m)(v:m<=1000000)(w:-1000000000<=n)(x:∀(i:Nat) H',i<m->∀(A:VK),(∀p,H' p=none->A ↥p (upd H' p (.lst [])))->g (.int (i:Int)) (cap κ σ) H' λk H2=>pL (cap κ σ) k/\te k H2 A)(t:∀p H' (c:ϊ ό),Same H H'->H p=none->↑c=m->c.Nodup->p∉c->(∀a∈c,H a=none/\H' a=!(.lst []))->H' p=!(.lst (c.map V.ref))->Q ↥p H'):iR (Ep κ g dJ te σ Q) [.int n] H:=by
 show Er m e v w (λi l H'=>∃c:ϊ ό,l=c.map V.ref/\↑c=i/\c.Nodup/\Same H H'/\∀a∈c,H a=none/\H' a=!(.lst [])) #[[],Z,Z,ρ,gN H,by simp] ?_ ?_ ?_;.rintro i l H' ⟨c,rfl,rfl,_⟩;simp
 .rintro i l H' u ⟨c,rfl,rfl,o,j,h⟩;have q:=x ↑c H' u (λy r=>∃f:ϊ ό,c.map V.ref++[y]=f.map V.ref/\↑f=↑c+1/\f.Nodup/\Same H r/\∀a∈f,H a=none/\r a=!(.lst [])) λp d=>by
   show#[c++[p],by simp,by simp,?_,j.new d,λa m=>?_];.rw [å];show#[o,by simp,λa m b z e=>?_];rw[Zs.mp z]at e;subst e;rw[(h a m).2]at d;cases d
   .rcases Æ.mp m with m|m;.show #[(h a m).1,aF d (h a m).2]
    .rw [Zs.mp m];show#[j.free d,aj]
  simpa only[dJ,Ń]using q
 .rintro l H' ⟨c,rfl,s,o,j,h⟩ p d;show t p _ c (j.new d) (j.free d) s o (λm=>?_) (λa m=>#[(h a m).1,aF d (h a m).2]) aj;rw[(h p m).2]at d;cases d
theorem uM{c d:Type}{g:c->d}{l a:ϊ d}(h:l.Perm a):∀{zs:ϊ c},l=zs.map g->∃b:ϊ c,b.Perm zs/\a=b.map g:=by induction h with
 |nil=>intro zs e;show#[zs,.refl _,e]|cons x _ ih=>
  intro zs e
  cases zs with
  |nil=>cases e
  |cons z zs=>
   rw[Ç]at e;injection e with e1 e2;let#[b,p,q]:=ih e2;show#[z::b,p.cons z,by rw[Ç,q,e1]]
 |swap x y l=>
  intro zs e;match zs,e with
  |z1::z2::r,e=>
   rw[Ç,Ç]at e;injection e with e1 e2;injection e2 with e2 e3;show#[z2::z1::r,.swap _ _ _,by rw[Ç,Ç,e1,e2,e3]]
 |trans _ _ ih1 ih2=>intro zs e;let#[b,p,q]:=ih1 e;let#[j,f,i]:=ih2 q;show#[j,f.trans p,i]
def nY{a d:Type}{g:a->d}{b:ϊ d}{c:ϊ a}(h:b.Perm<|c.map g):∃vs:ϊ a,vs.Perm c/\b=vs.map g:=uM h.symm Z
end
end L2
namespace Hs
def Ij(n:Int):yp n<1114112:=by
 unfold yp;have h:∀c∈NP.cps.toList,c<1114112:=by ac_nf
 rw[Xs];cases e:NP.cps.toList[(n%94).toNat]?with
 |none=>decide|some c=>show h c<|Yf e
end Hs
namespace L2
open PySem
variable{ht:Nat}
abbrev Lz:=ό×ϐ×ό×ϊ Nat
noncomputable abbrev nv(xs:ϊ Nat):ϊ V:=xs.map λi:Nat=>V.int (i:Int)
def FnT(K:Ϗ)(H:Hp)(a:ό)(ht:Nat)(ls:ϵ):Prop:=∃(l:ό)(zs:ϊ Lz),H a=!(.tup [.int (ht:Int),↥l])/\zs.map (λz:Lz=>(z.2.1,z.2.2.2))=ls/\SqT K H l (zs.map λz:Lz=>V.ref z.1)/\∀z∈zs,H z.1=!(.tup [.str z.2.1,↥z.2.2.1])/\H z.2.2.1=!(.tup<|nv z.2.2.2)
theorem FnT.same(h:FnT K H a ht d)(s:Same H H'):FnT K H' a ht d:=by let#[l,i,e,f,g,b]:=h;show#[l,i,s.get e,f,s.tup g,λz c=>#[s.get (b z c).1,s.get (b z c).2]]
def FnF(K:Ϗ)(H:Hp)(a:ό)(ht:Nat)(ls:ϵ):Prop:=∃(l:ό)(ob:PySem.Obj)(zs:ϊ Lz),H a=!(.tup [.int (ht:Int),↥l])/\zs.map (λz:Lz=>(z.2.1,z.2.2.2))=ls/\ob.dict=none/\H l=!(.frz ob<|.tup (zs.map λz:Lz=>V.ref z.1))/\∀z∈zs,H z.1=!(.tup [.str z.2.1,↥z.2.2.1])/\H z.2.2.1=!(.tup<|nv z.2.2.2)
theorem FnF.same(h:FnF K H a ht d)(s:Same H H'):FnF K H' a ht d:=by let#[l,ob,j,e,f,i,g,b]:=h;show#[l,ob,j,s.get e,f,i,s.get g,λz c=>#[s.get (b z c).1,s.get (b z c).2]]
theorem FnF.t(h:FnF K H a ht b):FnT K H a ht b:=by let#[l,ob,g,c,d,i,e,f]:=h;show#[l,g,c,d,.inl<|.inr #[ob,e],f]
end L2
namespace Fo
open PySem L2
noncomputable def lk(ls:ϵ)(s:ϐ):ύ (ϊ Nat):=(ls.find? λp=>decide<|p.1=s).map (·.2)
def gZ(p:ϐ×ϊ Nat)(r:ϵ)(s:ϐ):lk (p::r) s=if p.1=s then !p.2 else lk r s:=by
 unfold lk;by_cases h:p.1=s;.simp [h]
 .simp [h]
theorem d9:∀{ls:ϵ},lk ls s=!c->(s,c)∈ls
 |[],h=>by cases h|p::ps,h=>by
  rw[gZ]at h;by_cases e:p.1=s
  .rw [β e]at h;cases h;rw[<-e];show Ì
  .rw [γ e]at h;show Ê _<|d9 h
theorem zJ:∀{ls:ϵ},s∈ls.map (·.1)->∃c,lk ls s=!c
 |p::ps,h=>by
  rw[gZ];by_cases e:p.1=s
  .show #[_,β e]
  .rw [γ e];rcases Å.mp h with h|h;.show μ h.symm e
   .show zJ h
def cl(ls:ϵ)(c:Nat):ϊ Nat:=(lk ls<|tx [c]).getD []
structure Wf(ht:Nat)(ls:ϵ):Prop where
 pos:0<↑ls
 le:↑ls<=40
 up:(ls.map (·.1)).Pairwise pU
 sg:∀p∈ls,Hs.Sg p.1
 c1:∀p∈ls,1<=↑p.2/\↑p.2<=8
 cb:∀p∈ls,∀x∈p.2,x<2^ht
end Fo
namespace L2
open PySem
variable{a:ό}{kvs:ϊ (ϐ×V)}{zs:ϊ (ό×ϐ×V)}
abbrev Kz:=ϐ×ό×ϊ Nat
noncomputable def dcK(kvs:ϊ Kz):ϊ (Key×V):=kvs.map λp:Kz=>(Sum.inr p.1,V.ref p.2.1)
section
variable{H:Hp}{Q:VK}{K:Ϗ}
def Ik(e:H a=!(.dK (kvs.map λp=>(Sum.inr p.1,p.2))))(b:↑kvs<64)(h:∀r (ns:ϊ ϐ),ns.Perm (kvs.map (·.1))->ns.Pairwise pU->H r=none->Q ↥r (upd H r (.lst (ns.map V.str)))):ur [↥a] H Q:=#[a,kvs,Z,.inl e,b,h]
def Il{kvs:ϊ (Int×V)}(e:H a=!(.dK (kvs.map λp=>(Sum.inl p.1,p.2))))(b:↑kvs<64)(h:∀r (ns:ϊ Int),ns.Perm (kvs.map (·.1))->ns.Pairwise (·<·)->H r=none->Q ↥r (upd H r (.lst (ns.map V.int)))):ut [↥a] H Q:=#[a,kvs,Z,e,b,h]
def Vp{a:ϊ V}(e:SqL K H p a)(h:∀l (ob:PySem.Obj),ob.dict=none->H l=none->Q ↥l (upd H l (.frz ob (.tup a)))):Bw K [↥p] H Q:=#[p,a,Z,e,h]
noncomputable abbrev sN(l:ϊ String):ϊ ϐ:=l.map Str.ofString
abbrev RG(rd:XK->TS)(ns:ϊ ϐ)(vs:ϊ V)(H:Hp)(Q:VK):Prop:=∃Eh,rd Eh {nx:=λ_ H'=>Q .non H',rt:=Q} (start ns vs) H
def Qw(b:H a=!(.lst (zs.map λz=>V.ref z.1)))(c:∀z∈zs,SqT K H z.1 [.str z.2.1,z.2.2])(d:(zs.map (·.2.1)).Nodup)(e:↑zs<=1000)(h:∀r,H r=none->Q ↥r (upd H r (.dK (zs.map λz=>(Sum.inr z.2.1,z.2.2))))):je K [↥a] H Q:=#[a,zs,Z,.inr b,c,d,e,h]
def xQ{ob:PySem.Obj}(b:ob.dict=none)(c:H a=!(.frz ob (.tup (zs.map λz=>V.ref z.1))))(d:∀z∈zs,SqT K H z.1 [.str z.2.1,z.2.2])(e:(zs.map (·.2.1)).Nodup)(f:↑zs<=1000)(h:∀r,H r=none->Q ↥r (upd H r (.dK (zs.map λz=>(Sum.inr z.2.1,z.2.2))))):je K [↥a] H Q:=#[a,zs,Z,.inl #[ob,b,c],d,e,f,h]
def TupK.sq(h:TupK K a b):SqT K H a b:=.inr h
theorem a0x{a:ϊ Nat}(u:↑a<=1000000)(d:Nat->ϊ V->Hp->Prop)(s:d 0 [] H)(z:∀i ys H',d i ys H'->↑ys<=i)(w:∀(i c:Nat) ys H',a[i]?=!c->d i ys H'->g (.str (tx [c])) (cap κ σ) H' λj H2=>pL (cap κ σ) j/\tc j H2 λb n=>if b=true then te j n λy o=>d (i+1) (ys++[y]) o else d (i+1) ys n)(t:∀ys H',d ↑a ys H'->∀p,H' p=none->Q ↥p (upd H' p (.lst ys))):iS (Ep κ g tc te σ Q) (.str (tx a)) H:=by
 show#[tx a,Z,λi m ys H'=>m=↑a-i/\i<=↑a/\d i ys H',#[↑a,by simp,ä _,s],?_];rintro i m ys H' ⟨rfl,A,p⟩;by_cases h:i<↑a
 .show .inr #[h,?_,λk f=>d (i+1) k f,λk f l=>#[↑a-(i+1),(),Z,h,l],λx f y=>?_];.show Õ (z i ys H' p) (Ò h (Í u (by decide)))
  .obtain ⟨e,c,q,r⟩:=y;subst e r;show w i c ys _ (by simpa[tx]using q) p
 .have e:i=↑a:=();subst e;show .inl #[Z,λl v=>t ys H' p l v]
end
theorem qm{zs:ϊ Lz}(h:Fo.lk (zs.map λz:Lz=>(z.2.1,z.2.2.2)) s=!co):∃z∈zs,z.2.2.2=co/\bu (zs.map λz:Lz=>((Sum.inr z.2.1:Key),V.ref z.2.2.1)) (Sum.inr s)=!↥z.2.2.1:=by induction zs with|nil=>cases h|cons p r ih=>
  rw[Ç,Fo.gZ]at h;by_cases e:p.2.1=s
  .rw [β e]at h;cases h;show#[p,Ì,Z,cF (p:=(Sum.inr p.2.1,V.ref p.2.2.1))<|by rw[e]]
  .rw [γ e]at h;let#[q,m,a,b]:=ih h;show#[q,Ê _ m,a,(bM (p:=((Sum.inr p.2.1:Key),V.ref p.2.2.1))<|λz=>e<|Ĥ z).trans b]
def zK(a:ϐ):¬pU a a:=ŭ _
theorem dB{c:ϊ ϐ}(h:c.Pairwise pU):c.Nodup:=İ (S:=λa b=>a≠b) (λ{a b} (z:pU a b) (e:a=b)=>zK a<|by rw[<-e]at z;show z) h
section
theorem Vq{s:Type}(c:s->V){zs:ϊ s}(D:SqT K H a (zs.map c))(A:↑zs<=1000000)(d:Nat->ϊ V->Hp->Prop)(u:d 0 [] H)(w:∀i ys H',d i ys H'->SqT K H' a (zs.map c))(E:∀i ys H',d i ys H'->↑ys<=i)(C:∀(i:Nat) z ys H',zs[i]?=!z->d i ys H'->g (c z) (cap κ σ) H' λj H2=>pL (cap κ σ) j/\tc j H2 λb o=>if b=true then te j o λy t=>d (i+1) (ys++[y]) t else d (i+1) ys o)(v:∀ys H',d ↑zs ys H'->∀p,H' p=none->Q ↥p (upd H' p (.lst ys))):iT K (Ep κ g tc te σ Q) ↥a H:=by
 show#[a,Z,#[_,D],λi m ys H'=>m=↑zs-i/\i<=↑zs/\d i ys H',#[↑zs,by simp,ä _,u],?_];rintro i m ys H' ⟨rfl,F,p⟩;have q:=w i ys H' p;by_cases h:i<↑zs
 .have l:zs[i]?=!zs[i]:=Zl h;show .inr #[#[_,c zs[i],q,by rw[Á,l];rfl],?_,λk f=>d (i+1) k f,λk f n=>#[↑zs-(i+1),(),Z,h,n],λx f y=>?_];.show Õ (E i ys H' p) (Ò h (Í A (by decide)))
  .obtain ⟨e,y⟩:=y;subst e;have r:=y _ q;rw[Á,l]at r;cases r;show C i _ ys _ l p
 .have e:i=↑zs:=();subst e;show .inl #[#[_,q,by simp],λn B=>v ys H' p n B]
end
end L2
namespace Mm
theorem fU:∀{a b c d:ϊ Nat},↑a=↑c->bh (a++b) (c++d)=bh a c+bh b d
 |[],b,[],d,_=>by simp[bh]|x::a,b,y::c,d,h=>by rw[Κ,Κ,bh,bh,fU<|by simpa using h];rfl'
end Mm
namespace L2
open PySem
variable{a:ό}{zs:ϊ (ό×ϐ×V)}
section
def Vr(e:SqL K H a<|b.map V.int)(c:b≠[])(h:∀m,m∈b->(∀n∈b,n<=m)->Q (.int m) H):Bu K [↥a] H Q:=#[a,b,Z,e,c,h]
end
theorem DrT.of{K:Ϗ}{H:Hp}{t:ό}{a:L1S}(f:H t=!(.tup<|zs.map λz=>V.ref z.1))(g:∀z∈zs,H z.1=!(.tup [.str z.2.1,z.2.2]))(e:zs.map (·.2)=a.map λp=>(p.1,V.int p.2)):DrT K H t a:=by
 show#[(zs.zip a).map λq=>(q.1.1,q.2.1,q.2.2),?_,?_,?_];.rw [Ä];change(zs.zip a).map (λq=>q.2)=a;rw[List.map_snd_zip (by have:=Ö List.length e;simp at this;rfl')]
 .rw [Ä];have:(zs.zip a).map ((λz:ό×ϐ×Int=>V.ref z.1)∘λq=>(q.1.1,q.2.1,q.2.2))=((zs.zip a).map (·.1)).map λz=>V.ref z.1:=by rw[Ä];rfl
  rw[this,List.map_fst_zip (by have:=Ö List.length e;simp at this;rfl')];show f
 .intro z k;let#[q,j,rfl]:=Zp.mp k;let#[i,h,c]:=ň.mp j;rw[List.getElem_zip]at c;have b:i<↑zs/\i<↑a:=by rw[List.length_zip]at h;rfl'
  have d:zs[i].2=(a[i].1,V.int a[i].2):=by have:=Ö (λl=>l[i]?) e;simp only[Á,Zl b.1,Zl b.2,ŝ]at this;show Ý this
  rw[<-c];have:=g _<|Ø b.1;rw[d]at this;show this
section
def zL(e:H a=!(.dT kvs))(h:Q (.int ↑kvs) H):xm [↥a] H Q:=#[a,kvs,Z,e,h]
def Vs(e:Rd H a<|.dK b)(h:Q (.int ↑b) H):Hw [↥a] H Q:=#[a,b,Z,e,h]
def Et{ss:ϊ ϐ}(e:SqL K H a (ss.map V.str))(b:↑ss<64)(h:∀r (ns:ϊ ϐ),ns.Nodup->(∀y,y∈ns↔y∈ss)->ns.Pairwise pU->H r=none->Q ↥r (upd H r (.lst (ns.map V.str)))):lZ K [↥a] H Q:=#[a,ss,Z,e,b,h]
end
theorem fV{b:Type}{f:b->Key}{g:b->V}{a:ϊ b}(h:k∉a.map f):bu (a.map λz=>(f z,g z)) k=none:=by induction a with
 |nil=>rfl|cons z r ih=>rw[Ç]at h⊢;rw[bM<|λe=>h<|by rw[<-e];show Ì];show ih<|λm=>h<|Ê _ m
theorem Z3(n:Nat)(h:Hs.Sg s):Sh n (.str s):=by let#[k,rfl]:=h;show Ii n λc a=>by rw[Zs.mp a];show Hs.Ij k
def PrL(H:Hp)(p:ό)(zs:ϊ Lz):Prop:=H p=!(.lst (zs.map λz:Lz=>V.ref z.1))/\∀z∈zs,H z.1=!(.tup [.str z.2.1,↥z.2.2.1])/\H z.2.2.1=!(.lst<|nv z.2.2.2)
def yq(ls:ϵ):PyData:=.list<|ls.map λp=>.tuple [.str p.1,.list<|(p.2.map λi:Nat=>(i:Int)).map PyData.int]
end L2
namespace Fo
open PySem L2
structure GoodL(ht:Nat)(zs:ϊ Lz):Prop where
 pos:1<=↑zs
 le:↑zs<=40
 nd:(zs.map λz:Lz=>z.2.1).Nodup
 sg:∀z∈zs,Hs.Sg z.2.1
 c1:∀z∈zs,1<=↑z.2.2.2/\↑z.2.2.2<=8
 cb:∀z∈zs,∀x∈z.2.2.2,x<2^ht
def Of(zs:ϊ Lz)(ls:ϵ):Prop:=ls.Perm (zs.map λz:Lz=>(z.2.1,z.2.2.2))/\(ls.map (·.1)).Pairwise pU
def GoodL.wf{f:Nat}(g:GoodL f zs)(o:Of zs b):Wf f b:=by
 have d:↑b=↑zs:=by rw[o.1.length_eq,Qb]
 have c:∀p∈b,∃z∈zs,p=(z.2.1,z.2.2.2):=λp m=>by let#[z,a,e]:=Zp.mp<|o.1.mem_iff.mp m;show#[z,a,e.symm]
 show#[by rw[d];show g.pos,by rw[d];show g.le,o.2,λp m=>?_,λp m=>?_,λp m=>?_];.obtain ⟨z,a,rfl⟩:=c p m;show g.sg z a
 .obtain ⟨z,a,rfl⟩:=c p m;show g.c1 z a
 .obtain ⟨z,a,rfl⟩:=c p m;show g.cb z a
end Fo
namespace Hs
open PySem L2
def Qx{m n:Int}(h:yp m=yp n):m%94=n%94:=by
 have f:↑NP.cps.toList=94:=by ac_nf
 have a:NP.cps.toList.Nodup:=by ac_nf
 have b:0<=m%94:=Ω _ (by decide);have c:m%94<94:=ř _ (by decide);have d:0<=n%94:=Ω _ (by decide);have e:n%94<94:=ř _ (by decide);unfold yp at h;rw[Xs,Xs,Zl (),Zl ()]at h;have:=(Ļ (h₀:=()) (h₁:=()) a).mp h;rfl'
end Hs
namespace L2
open PySem
variable{zs:ϊ Lz}
abbrev Gz:=ό×V×ό×ϊ V
theorem zM{c:Int}{n m:Nat}(a:0<n)(e:c%(n:Int)=(m:Int))(h:Q (.int (m:Int)) H):bL (.int c) (.int (n:Int)) H Q:=#[c,n,Z,Z,(),by change Q (.int<|c%(n:Int)) H;rw[e];show h]
section
def iRD(R:It->Hp->Prop)(vs:ϊ V)(H:Hp):Prop:=∃i j:Int,vs=[.int i,.int j,.int<|-1]/\(-(2^62)<=i/\i<2^62/\-(2^62)<=j/\j<2^62)/\R (Py i (i-j).toNat) H
theorem Vt{lo n:Int}(m:Nat)(e:(lo-n).toNat=m)(u:n<=1000000000)(v:-1000000000<=n)(o:-1000000000<=lo)(d:lo<=1000000000)(a:Nat->St->Hp->Prop)(j:a 0 σ H)(q:∀(i:Nat) σ H',i<m->a i σ H'->g (.int<|lo-i) σ H' λc H2=>tb {D with nx:=a<|i+1,ct:=a<|i+1,bk:=D.nx} c H2) (l:∀σ H',a m σ H'->D.nx σ H'):iRD (qX g tb D σ) [.int lo,.int n,.int<|-1] H:=by
 show#[lo,n,Z,#[(),(),(),()],?_];rw[e];show#[λi k σ H=>k=m-i/\i<=m/\a i σ H,#[m,by simp,ä _,j],?_];rintro i k σ H ⟨rfl,t,p⟩;by_cases b:i<m;.show .inr #[b,a<|i+1,λs H' r=>#[m-(i+1),(),Z,b,r],λx H' y=>?_];let#[f,h]:=y;subst f h;show q i σ _ b p
 .have e:i=m:=();subst e;show .inl #[Nat.le_refl _,l σ H p]
def iZG(K:Ϗ)(R:It->Hp->Prop)(vs:ϊ V)(H:Hp):Prop:=∃a b xs ys q,vs=[↥a,↥b]/\SqT K H a xs/\Fg K H b ys q/\R (Va K a b q) H
theorem qp{b:Hp}(s:Same H b):∀{q:ϑ},Fg K H a c q->Fg K b a c q
 |true,h=>s.seq h|false,h=>s.tup h
theorem Z4{D E:Type}(c:D->V)(d:E->V){h:ϊ D}{j:ϊ E}(B:SqT K H a (h.map c))(C:Fg K H b (j.map d) J)(N:↑h=↑j)(O:↑h<=1000000)(f:D->E->V)(P:∀(i:Nat) x y p H',h[i]?=!x->j[i]?=!y->Same H H'->H' p=!(.tup [c x,d y])->∀A:VK,(∀o,Same H' o->A (f x y) o)->g ↥p (cap κ σ) H' λs H2=>pL (cap κ σ) s/\te s H2 A)(M:∀p H',Same H H'->H' p=!(.lst (List.zipWith f h j))->Q ↥p H'):iZG K (Ep κ g dJ te σ Q) [↥a,↥b] H:=by
 show#[a,b,_,_,J,Z,B,C,λi m L H'=>m=↑h-i/\i<=↑h/\Same H H'/\L=List.zipWith f (h.take i) (j.take i),#[↑h,by simp,ä _,gN H,Z],?_];rintro i m L H' ⟨rfl,U,k,rfl⟩;by_cases n:i<↑h
 .have t:h[i]?=!h[i]:=Zl n;have u:j[i]?=!(j[i]'(by rfl')):=Zl ();show .inr #[#[_,_,c h[i],d (j[i]'(by rfl')),k.tup B,qp k C,by rw[Á,t];rfl,by rw[Á,u];rfl],?_,λr l=>Same H l/\r=List.zipWith f (h.take (i+1)) (j.take (i+1)),λr l I=>#[↑h-(i+1),(),Z,n,I.1,I.2],λv l y=>?_]
  .have:↑(List.zipWith f (h.take i) (j.take i))<=i:=by rw[List.length_zipWith,Ñ];rfl'
   show Õ this (Ò n (Í O (by decide)))
  .obtain ⟨p,x,z,w,rfl,rfl,R,S⟩:=y;have F:=R _ (k.tup B);have G:=S _ (qp k C);rw[Á,t]at F;rw[Á,u]at G;cases F;cases G;have q:=P i _ _ p (upd H' p (.tup [c h[i],d (j[i]'(by rfl'))])) t u (k.new w) aj (λy o=>Same H o/\List.zipWith f (h.take i) (j.take i)++[y]=List.zipWith f (h.take (i+1)) (j.take (i+1))) (λo T=>#[(k.new w).trans T,?_]);.simpa only[dJ,Ń]using q
   .rw [Ð,Ð,t,u,List.zipWith_append (by rw[Ñ,Ñ];rfl')];rfl
 .have e:i=↑h:=();subst e;show .inl #[#[_,_,k.tup B,qp k C,.inl (by simp)],λp w=>M p _ (k.new w) ?_];rw[aj,à,N,à]
end
theorem ar0{a:Type}{P:ϊ a->Prop}(h:P []):∀us:ϊ a,↑us=0->P us|[],_=>h
theorem ar1{c:Type}{P:ϊ c->Prop}(h:∀a0:c,P [a0])(b:ϊ c)(e:↑b=1):P b:=by cases b with
 |nil=>cases e|cons a b=>show ar0 (P:=λl=>P (a::l)) (h a) b<|Ξ e
theorem ar2{c:Type}{P:ϊ c->Prop}(h:∀a0 d:c,P [a0,d])(b:ϊ c)(e:↑b=2):P b:=by cases b with
 |nil=>cases e|cons a b=>show ar1 (P:=λl=>P (a::l)) (h a) b<|Ξ e
theorem ar3{c:Type}{P:ϊ c->Prop}(h:∀a0 d f:c,P [a0,d,f])(b:ϊ c)(e:↑b=3):P b:=by cases b with
 |nil=>cases e|cons a b=>show ar2 (P:=λl=>P (a::l)) (h a) b<|Ξ e
theorem ar4{c:Type}{P:ϊ c->Prop}(h:∀a0 d f g:c,P [a0,d,f,g])(b:ϊ c)(e:↑b=4):P b:=by cases b with
 |nil=>cases e|cons a b=>show ar3 (P:=λl=>P (a::l)) (h a) b<|Ξ e
theorem ar5{c:Type}{P:ϊ c->Prop}(h:∀a0 d f g i:c,P [a0,d,f,g,i])(b:ϊ c)(e:↑b=5):P b:=by cases b with
 |nil=>cases e|cons a b=>show ar4 (P:=λl=>P (a::l)) (h a) b<|Ξ e
namespace Tn
noncomputable def dv(cs:ϊ Nat):Nat:=PySem.NumText.digitsVal cs
def spl(c:Nat):ϊ Nat->ϊ (ϊ Nat)
 |[]=>[[]]|x::r=>if x=c then[]::spl c r else match spl c r with
  |[]=>[[x]]|p::ps=>(x::p)::ps
end Tn
def iDG{α:Type}(c:α->V)(O:ό->ϊ α->HO)(R:It->Hp->Prop):V->Hp->Prop:=λx H1=>∃a zs,x=↥a/\((H1 a=!(O a zs)/\∀od,R (yW c od (O a zs) a zs)<|upd H1 a<|.frz od<|O a zs)\/∃od,H1 a=!(.frz od<|O a zs)/\R (yW c od (O a zs) a zs) H1)
abbrev iDK:=iDG (λp:Key×V=>kV p.1) λ_ kvs=>.dK kvs
section
variable{α:Type}{c:α->V}{O:ό->ϊ α->HO}{zs:ϊ α}
theorem Im:Sb [a] H (upd H a o):=λb o c q=>by rw[aq<|by simpa using c];show q
theorem Io(d:Rd H a<|O a zs)(h:∀od H1,Sb [a] H H1->H1 a=!(.frz od<|O a zs)->R (yW c od (O a zs) a zs) H1):iDG c O R ↥a H:=by
 rcases d with e|⟨od,e⟩;.show #[a,zs,Z,.inl #[e,λod=>h od _ Im aj]]
 .show #[a,zs,Z,.inr #[od,e,h od H (λb o _ q=>q) e]]
theorem zN(k:Rd H a<|O a zs)(b:PySem.Obj->Nat->St->Hp->Prop)(n:∀od H1,Sb [a] H H1->H1 a=!(.frz od<|O a zs)->b od 0 σ H1)(f:∀od i σ H',b od i σ H'->H' a=!(.frz od<|O a zs))(r:∀od (i:Nat) z σ H',zs[i]?=!z->b od i σ H'->g (c z) σ H' λe H2=>tb {D with nx:=b od<|i+1,ct:=b od<|i+1,bk:=D.nx} e H2) (q:∀od σ H',b od ↑zs σ H'->D.nx σ H'):iDG c O (qX g tb D σ) ↥a H:=by
 show Io k λod H1 t j=>#[λi m σ H=>m=↑zs-i/\i<=↑zs/\b od i σ H,#[↑zs,by simp,ä _,n od H1 t j],?_];rintro i m σ H' ⟨rfl,v,p⟩;by_cases d:i<↑zs;.show .inr #[#[f od i σ H' p,d],b od<|i+1,λu H' s=>#[↑zs-(i+1),(),Z,d,s],λx h y=>?_];let#[rfl,z,o,rfl]:=y;show r od i z σ _ o p
 .have l:i=↑zs:=();subst l;show .inl #[#[f od _ σ H' p,Ã _],q od σ H' p]
theorem Sw(D:Rd H a (O a zs))(L:↑zs<=1000000)(f:α->ύ V)(h:∀od H1,Sb [a] H H1->H1 a=!(.frz od (O a zs))->(∀(i:Nat) z,zs[i]?=!z->∀(A:VK)(B:Hp->Prop),(∀y,f z=!y->A y H1)->(f z=none->B H1)->g (c z) (cap κ σ) H1 λk H2=>pL (cap κ σ) k/\tc k H2 λb t=>if b=true then te k t A else B t)/\∀p,H1 p=none->Q ↥p (upd H1 p (.lst (zs.filterMap f)))):iDG c O (Ep κ g tc te σ Q) ↥a H:=by
 show Io D λod H1 J q=>?_;let#[I,F]:=h od H1 J q;show#[λi m C n=>m=↑zs-i/\i<=↑zs/\n=H1/\C=(zs.take i).filterMap f,#[↑zs,by simp,ä _,Z,Z],?_];rintro i m C n ⟨rfl,K,rfl,rfl⟩;by_cases j:i<↑zs
 .have r:zs[i]?=!zs[i]:=Zl j;have u:zs.take (i+1)=zs.take i++[zs[i]]:=by rw[Ð,r];rfl
  have s:↑((zs.take i).filterMap f)<=1000000:=Í (Ņ _ _) (by rw[Ñ];rfl');show .inr #[#[q,j],Õ s (by decide),λl d=>d=n/\l=(zs.take (i+1)).filterMap f,λl d x=>#[↑zs-(i+1),(),Z,j,x.1,x.2],λv d y=>?_];let#[rfl,z,w,rfl]:=y;rw[r]at w;cases w;show I i _ r (λy o=>o=d/\(zs.take i).filterMap f++[y]=(zs.take (i+1)).filterMap f) (λo=>o=d/\(zs.take i).filterMap f=(zs.take (i+1)).filterMap f)
   (λy e=>#[Z,by rw[u,Mm.eY,e];rfl]) (λe=>#[Z,by rw[u,Mm.eY,e];simp])
 .have E:i=↑zs:=();subst E;show .inl #[#[q,Ã _],λp G=>?_];rw[à];show F p G
end
section
theorem Qy(x:Rd H a (.dK c))(M:↑c<=1000000)(E:∀(z:Key×V) H',z∈c->∀(A:VK),(∀p,H' p=none->A ↥p (upd H' p (.lst [])))->g (kV z.1) (cap κ σ) H' λr H2=>pL (cap κ σ) r/\te r H2 A)(D:∀p od H1 H' (d:ϊ ό),Sb [a] H H1->H1 a=!(.frz od (.dK c))->Same H1 H'->H1 p=none->↑d=↑c->d.Nodup->p∉d->(∀b∈d,H1 b=none/\H' b=!(.lst []))->H' p=!(.lst (d.map V.ref))->Q ↥p H'):iDK (Ep κ g dJ te σ Q) ↥a H:=by
 show Io x λod H1 I s=>?_
 .show #[λi m w H'=>m=↑c-i/\i<=↑c/\∃d:ϊ ό,w=d.map V.ref/\↑d=i/\d.Nodup/\Same H1 H'/\∀b∈d,H1 b=none/\H' b=!(.lst []),#[↑c,by simp,ä _,[],Z,Z,ρ,gN _,by simp],?_];rintro i m w H' ⟨rfl,L,d,rfl,B,u,n,l⟩;by_cases k:i<↑c
  .have K:c[i]?=!c[i]:=Zl k;show .inr #[#[n.get s,k],Õ (show↑(d.map V.ref)<=1000000 by rw[Qb];rfl') (by decide),λo f=>∃d:ϊ ό,o=d.map V.ref/\↑d=i+1/\d.Nodup/\Same H1 f/\∀b∈d,H1 b=none/\f b=!(.lst []),λo f G=>#[↑c-(i+1),(),Z,k,G],λv f y=>?_];let#[rfl,z,C,rfl]:=y;have q:=E z f (Yf C) (λy t=>∃j:ϊ ό,d.map V.ref++[y]=j.map V.ref/\↑j=i+1/\j.Nodup/\Same H1 t/\∀a∈j,H1 a=none/\t a=!(.lst [])) λp h=>by
    show#[d++[p],by simp,by simp[B],?_,n.new h,λa m=>?_];.rw [å];show#[u,by simp,λa m b F e=>?_];rw[Zs.mp F]at e;subst e;rw[(l a m).2]at h;cases h
    .rcases Æ.mp m with m|m;.show #[(l a m).1,aF h (l a m).2]
     .rw [Zs.mp m];show#[n.free h,aj]
   simpa only[dJ,Ń]using q
  .have J:i=↑c:=();show .inl #[#[n.get s,()],λp h=>?_];show D p od H1 _ d I s (n.new h) (n.free h) () u (λm=>?_) (λa m=>#[(l a m).1,aF h (l a m).2]) aj;rw[(l p m).2]at h;cases h
def DGet.r{b:ϊ<|Key×V}{k:Key}(e:Rd H a<|.dK b):DGet H a (kV k) (bu b k):=.inl #[b,k,e,Z,Z]
end
theorem QB{s:ϐ}(h:Fo.lk (zs.map λz:Lz=>(z.2.1,z.2.2.2)) s=none):bu (zs.map λz:Lz=>((Sum.inr z.2.1:Key),V.ref z.2.2.1)) (Sum.inr s)=none:=by induction zs with
 |nil=>rfl|cons p r ih=>
  rw[Ç,Fo.gZ]at h;by_cases e:p.2.1=s;.rw [β e]at h;cases h
  .rw [γ e]at h;rw[Ç,bM<|λz=>e<|Ĥ z];show ih h
noncomputable def kz(kvs:ϊ Kz):ϵ:=kvs.map λp:Kz=>(p.1,p.2.2)
theorem Vu{a:ϊ V}(e:H l=!(.lst (y::a)))(h:Q y<|upd H l<|.lst a):yK ↥l [.int 0] H Q:=⟨l,y::a,0,0,y,Z,Z,e,by decide,by decide,by unfold seqIndex?;simp,Z,h⟩
theorem s_pop{a:ϊ V}(e:H l=!(.lst<|a++[y]))(h:Q y<|upd H l<|.lst a):Ur ↥l [] H Q:=#[l,a++[y],y,Z,Z,e,by simp,by rw[List.dropLast_concat];show h]
section
def iES(R:It->Hp->Prop)(vs ks:ϊ V)(H:Hp):Prop:=∃x o,vs=[.str x]/\ks=[.int ((o:Nat):Int)]/\o<=1000000000/\R (V2 x o) H
theorem Z5{a:ϊ Nat}{o:Nat}(A:o<=1000000000)(z:↑a<=1000000)(d:Nat->ϊ V->Hp->Prop)(v:d 0 [] H)(E:∀i ys H',d i ys H'->↑ys<=i)(D:∀(i c:Nat) p ys H',a[i]?=!c->d i ys H'->H' p=none->g ↥p (cap κ σ) (upd H' p (.tup [.int ((i+o:Nat):Int),.str (tx [c])])) λj H2=>pL (cap κ σ) j/\q j H2 λb n=>if b=true then s j n λy t=>d (i+1) (ys++[y]) t else d (i+1) ys n)(w:∀ys H',d ↑a ys H'->∀p,H' p=none->Q ↥p (upd H' p (.lst ys))):iES (Ep κ g q s σ Q) [.str (tx a)] [.int ((o:Nat):Int)] H:=by
 show#[tx a,o,Z,Z,A,λi m ys H'=>m=↑a-i/\i<=↑a/\d i ys H',#[↑a,by simp,ä _,v],?_];rintro i m ys H' ⟨rfl,F,p⟩;by_cases h:i<↑a
 .show .inr #[h,?_,λk f=>d (i+1) k f,λk f l=>#[↑a-(i+1),(),Z,h,l],λx f y=>?_];.show Õ (E i ys H' p) (Ò h (Í z (by decide)))
  .obtain ⟨r,c,C,rfl,rfl,u⟩:=y;show D i c r ys _ (by simpa[tx]using u) p C
 .have e:i=↑a:=();subst e;show .inl #[Z,λl B=>w ys H' p l B]
end
def Ip{b:ϊ<|ϊ Key×V}(e:H a=!(.dT b))(c:↑b<=1000000)(h:∀r (zs:ϊ<|ό×ϊ Key),H r=none->zs.map (·.2)=b.map (·.1)->(∀z∈zs,H z.1=!(.tup<|z.2.map kV))->Q ↥r (upd H r (.lst (zs.map λz=>V.ref z.1)))):uD [↥a] H Q:=#[a,b,Z,e,c,h]
theorem SJ{b:ϊ V}(e:SqT K H a b)(h:∀p H',Same H H'->SqT K H' p (iG b lo hi)->Q ↥p H'):wN K ↥a lo hi H Q:=⟨a,b,Z,e,λp H' c d=>h p H' (by
 rcases c with⟨rfl,rfl,_⟩|⟨hn,rfl⟩;.show gN _
 .show ao hn _) d⟩
theorem Ir{b:ϊ V}(e:H a=!(.tup b))(h:∀p H',Same H H'->H' p=!(.tup<|iG b lo hi)->Q ↥p H'):wN K ↥a lo hi H Q:=⟨a,b,Z,gL e,λp H' c d=>by
 rcases c with⟨rfl,rfl,z⟩|⟨hn,rfl⟩;.show h _ _ (gN _)<|by rw[z];show e
 .show h _ _ (ao hn _) aj⟩
def SGet.of(e:H a=!(cL a kvs))(d:∀p∈kvs,vG H p.1 p.2.1)(c:vG H b k):SGet H a ↥b (dY kvs k):=#[kvs,k,b,.inl e,d,Z,c,Z]
theorem SPut.of(e:H a=!(cL a kvs))(d:∀p∈kvs,vG H p.1 p.2.1)(c:vG H b k)(f:↑kvs<=1000000):SPut H a ↥b v (upd H a<|cL a<|uy kvs b k v):=#[kvs,k,b,e,d,Z,c,Õ f<|by decide,Z]
theorem tL:dY kvs k=none↔k∉kvs.map (·.2.1):=by
 unfold dY;rw[Ŵ,ł];constructor;.intro h m;let#[p,a,e]:=Zp.mp m;show h p a<|Ô e
 .intro h p a e;show h<|Zp.mpr #[p,a,ô e]
theorem Eu(h:dY kvs k=!v):∃b,(b,k,v)∈kvs:=by
 unfold dY at h;let#[p,a,rfl]:=Î.mp h;have c:=Ģ a;have d:p.2.1=k:=by have:=ź a;show ô this
 show#[p.1,by rw[<-d];show c]
theorem qt(h:dY kvs k=none):uy kvs b k v=kvs++[(b,k,v)]:=by unfold uy;rw[h];rfl
section
theorem Iu{l:Type}(c:l->V){xs:ϊ l}(w:SqL K H a (xs.map c))(b:Nat->St->Hp->Prop)(o:b 0 σ H)(s:∀i σ H',b i σ H'->SqL K H' a (xs.map c))(u:∀(i:Nat) x p σ H',xs[i]?=!x->b i σ H'->H' p=none->g ↥p σ (upd H' p (.tup [.int (i:Int),c x])) λh H2=>tb {D with nx:=b (i+1),ct:=b (i+1),bk:=D.nx} h H2)(q:∀σ H',b ↑xs σ H'->D.nx σ H'):iE K (qX g tb D σ) [↥a] H:=by
 show#[a,_,Z,w,λi m σ H=>m=↑xs-i/\i<=↑xs/\b i σ H,#[↑xs,by simp,ä _,o],?_];rintro i m σ H ⟨rfl,B,p⟩;have f:=s i σ H p;by_cases d:i<↑xs
 .have j:(xs.map c)[i]?=!(c xs[i]):=by rw[Á,Zl d];rfl
  show .inr #[#[_,_,f,j],b (i+1),λA H' z=>#[↑xs-(i+1),(),Z,d,z],λv H' y=>?_];let#[r,C,t,rfl,rfl,n]:=y;have k:=n _ f;rw[j]at k;cases k;show u i _ r σ H (Zl d) p t
 .have e:i=↑xs:=();subst e;show .inl #[#[_,f,by rw[Qb];show Ã _],q σ H p]
end
theorem jj{a b:ϊ V}(h:H p=!(.tup a))(e:H q=!(.lst b)):upd H q o p=!(.tup a):=by rw[aq λz=>by rw[z,e]at h;cases h];show h
theorem mC{a:St}(e:Nat->St->Hp->Prop)(o:Nat)(q:e o a H)(r:∀m a H (N:St->Hp->Prop),e m a H->(∀m' σ' H',m'<m->e m' σ' H'->N σ' H')->c a H λb H1=>if b=true then p {D with nx:=N,ct:=N,bk:=D.nx} a H1 else D.nx a H1)(f:∀a H Q n,(∀b H1,Q b H1->n b H1)->c a H Q->c a H n):fZ c p D a H:=by classical
 have d:∀(P:Nat->Prop),(∃m,P m)->∃m,P m/\∀k,P k->m<=k:=λP ⟨m,j⟩=>by induction m using Nat.strongRecOn with|ind m ih=>
   by_cases h:∃k,k<m/\P k;.obtain ⟨k,i,l⟩:=h;show ih k i l
   .show #[m,j,λk l=>Nat.le_of_not_lt λi=>h #[k,i,l]]
 show oU (λa H=>∃m,e m a H) (λa H=>if h:∃m,e m a H then(d (λm=>e m a H) h).choose else 0) #[o,q] ?_ f;intro a H h;let#[s,t]:=(d (λm=>e m a H) h).choose_spec;show r _ a H _ s λm' σ' H' j g=>#[#[m',g],?_];rw[dif_pos h,dif_pos #[m',g]];show Õ ((d (λm=>e m σ' H') #[m',g]).choose_spec.2 m' g) j
theorem Ew(h:dY kvs k=none):dY (kvs++[(b,k,v)]) k=!v:=by unfold dY at h⊢;rw[List.find?_append,Ŵ.mp h];simp
theorem Iv(h:k∈kvs.map (·.2.1)):∃v,dY kvs k=!v:=by cases e:dY kvs k with
 |none=>show μ h (tL.mp e)|some v=>show#[v,Z]
end L2
namespace Mm
section
variable{α:Type}
inductive Rch(bs:ϊ α)(nx:α->ϊ α):α->Prop|base {x:α} (h:x∈bs):Rch bs nx x|step {x y:α} (h:Rch bs nx x) (m:y∈nx x):Rch bs nx y
theorem Rch.all{a:ϊ α}{b:α->ϊ α}{P:α->Prop}(c:∀x∈a,P x)(d:∀x y,P x->y∈b x->P y):∀{x},Rch a b x->P x:=λh=>by induction h with
 |base h=>show c _ h|step h m ih=>show d _ _ ih m
structure Clo(bs:ϊ α)(nx:α->ϊ α)(F W:ϊ α):Prop where
 nd:F.Nodup
 rF:∀x∈F,Rch bs nx x
 rW:∀x∈W,Rch bs nx x
 b:∀x∈bs,x∈F\/x∈W
 c:∀x∈F,∀y∈nx x,y∈F\/y∈W
theorem Clo.start(a:ϊ α)(b:α->ϊ α):Clo a b [] a:=#[List.nodup_nil,λx m=>(by cases m),λx m=>.base m,λx m=>.inr m,λx m=>(by cases m)]
theorem Clo.skip{b:ϊ α}{c:α->ϊ α}{F W:ϊ α}{x:α}(h:Clo b c F<|W++[x])(m:x∈F):Clo b c F W:=by
 have k:∀y,y∈F\/y∈W++[x]->y∈F\/y∈W:=λy hy=>by
  rcases hy with hy|hy;.show .inl hy
  .rcases Æ.mp hy with hy|hy;.show .inr hy
   .rw [Zs.mp hy];show .inl m
 show#[h.nd,h.rF,λy a=>h.rW y<|ç _ a,λy a=>k y<|h.b y a,λy a z d=>k z<|h.c y a z d]
theorem Clo.take{f:ϊ α}{c:α->ϊ α}{F W:ϊ α}{x:α}(h:Clo f c F<|W++[x])(m:x∉F):Clo f c (F++[x]) (W++c x):=by
 have g:=h.rW x<|ß _<|Zs.mpr Z;have k:∀y,y∈F\/y∈W++[x]->y∈F++[x]\/y∈W++c x:=λy hy=>by
  rcases hy with hy|hy;.show .inl<|ç _ hy
  .rcases Æ.mp hy with hy|hy;.show .inr<|ç _ hy
   .show .inl<|ß _ hy
 show#[?_,λy my=>?_,λy my=>?_,λy my=>k y<|h.b y my,λy my z d=>?_];.show å.mpr #[h.nd,by simp,λa i b j e=>m ?_];rw[Zs.mp j]at e;rw[<-e];show i
 .rcases Æ.mp my with my|my;.show h.rF y my
  .rw [Zs.mp my];show g
 .rcases Æ.mp my with my|my;.show h.rW y<|ç _ my
  .show .step g my
 .rcases Æ.mp my with my|my;.show k z<|h.c y my z d
  .rw [Zs.mp my]at d;show .inr<|ß _ d
theorem Clo.fin{a:ϊ α}{b:α->ϊ α}{F:ϊ α}(h:Clo a b F [])(x:α):x∈F↔Rch a b x:=by show#[h.rF x,λr=>?_];induction r with
 |base m=>show(h.b _ m).resolve_right (by simp)|step r m ih=>show(h.c _ ih _ m).resolve_right<|by simp
end
end Mm
namespace L2
open PySem
def MnE(t:TE):Prop:=∀σ H (Q Q':VK),(∀v H1,Q v H1->Q' v H1)->t σ H Q->t σ H Q'
def MnT(t:TT):Prop:=∀σ H (Q Q':ϑ->Hp->Prop),(∀v H1,Q v H1->Q' v H1)->t σ H Q->t σ H Q'
def MnR(r:R2):Prop:=∀x y H (Q Q':VK),(∀v H1,Q v H1->Q' v H1)->r x y H Q->r x y H Q'
def Z6{a:TE}(e:MnR r)(c:MnE a)(d:MnE b):MnE (aM r a b):=λj H Q i h z=>c _ _ _ _ (λx f z=>d _ _ _ _ (λy g z=>e _ _ _ _ _ h z) z) z
def QC(a:MnE t):MnT (aN t):=λd H Q c h z=>a _ _ _ _ (λx b ⟨k,e,z⟩=>#[k,e,h _ _ z]) z
def QD(K:Ϗ):MnR (rNeD K):=λx y H Q g h ⟨d,e,a,b,c,f,z⟩=>#[d,e,a,b,c,f,h _ _ z]
def iSI(R:It->Hp->Prop):V->Hp->Prop:=λx H1=>∃a kvs,x=↥a/\((H1 a=!(cL a kvs)/\∀od,R (zq od a kvs)<|upd H1 a<|.frz od<|cL a kvs)\/∃od,H1 a=!(.frz od<|cL a kvs)/\R (zq od a kvs) H1)
section
def Z7(c:Rd H a<|cL a kvs)(h:∀od H1,Sb [a] H H1->H1 a=!(.frz od<|cL a kvs)->R (zq od a kvs) H1):iSI R ↥a H:=by
 rcases c with e|⟨od,e⟩;.show #[a,kvs,Z,.inl #[e,λod=>h od _ Im aj]]
 .show #[a,kvs,Z,.inr #[od,e,h od H (λb o _ q=>q) e]]
def Vv(j:Rd H a<|cL a kvs)(b:PySem.Obj->Nat->St->Hp->Prop)(l:∀od H1,Sb [a] H H1->H1 a=!(.frz od<|cL a kvs)->b od 0 σ H1)(e:∀od i σ H',b od i σ H'->H' a=!(.frz od<|cL a kvs))(s:∀od (i:Nat) z p σ H',kvs[i]?=!z->b od i σ H'->H' p=none->g ↥p σ (upd H' p<|.tup [↥z.1,z.2.2]) λd H2=>tb {D with nx:=b od<|i+1,ct:=b od<|i+1,bk:=D.nx} d H2) (o:∀od σ H',b od ↑kvs σ H'->D.nx σ H'):iSI (qX g tb D σ) ↥a H:=by
 show Z7 j λod H1 u h=>#[λi m σ H=>m=↑kvs-i/\i<=↑kvs/\b od i σ H,#[↑kvs,by simp,ä _,l od H1 u h],?_];rintro i m σ H' ⟨rfl,w,p⟩;by_cases c:i<↑kvs;.show .inr #[#[e od i σ H' p,c],b od<|i+1,λv H' t=>#[↑kvs-(i+1),(),Z,c,t],λx f y=>?_];let#[q,z,r,n,rfl,rfl]:=y;show s od i z q σ _ n p r
 .have k:i=↑kvs:=();subst k;show .inl #[#[e od _ σ H' p,Ã _],o od σ H' p]
def Vw{d e tx:TE}(h:d σ H λx H1=>∃a,x=↥a/\IsD H1 a/\e σ H1 λy H2=>tx σ H2 λz c=>∃kvs k b,c a=!(.dT kvs)/\y=↥b/\c b=!(.tup (k.map kV))/\↑kvs<sizeLine/\(∀v,bu kvs k=!v->Q v c)/\(bu kvs k=none->Q z (upd c a (.dT (kvs++[(k,z)]))))):HD d e tx σ H Q:=h
def Vx{kvs:ϊ<|ϊ Int×V}(e:H a=!(.dT<|kvs.map λp=>(p.1.map Sum.inl,p.2)))(c:kvs≠[])(h:∀b k,H b=!(.tup<|k.map V.int)->k∈kvs.map (·.1)->(∀d∈kvs.map (·.1),HT.lexLt d k=false)->Q ↥b H):HH [↥a] H Q:=#[a,kvs,Z,e,c,h]
def SGet.ofR(e:Rd H a<|cL a kvs)(d:∀p∈kvs,vG H p.1 p.2.1)(c:vG H b k):SGet H a ↥b (dY kvs k):=#[kvs,k,b,e,d,Z,c,Z]
end
def QF{K:Ϗ}{us:ϊ<|V×PyData}(f:PyData->Int)(e:SqL K H a (us.map (·.1)))(d:us≠[])(c:∀u∈us,Dp K H u.1 u.2/\u.2.canLay0=true/\u.2.depth<=8)(b:∀u∈us,∀v∈us,Nk.CmpD u.2 v.2/\(Nk.BR u.2 v.2=true->f u.2<=f v.2)/\(Nk.BR u.2 v.2=false->f v.2<=f u.2))(h:∀u∈us,(∀v∈us,f u.2<=f v.2)->Q u.1 H):uE K [↥a] H Q:=#[a,us,f,Z,e,d,c,b,h]
def Iw(e:SqT K H a<|ss.map V.str)(b:ss≠[])(h:∀s∈ss,Q (.str s) H):qe K [↥a] H Q:=#[a,ss,Z,e,b,h]
abbrev aU:TE:=jx 0
abbrev bc:TE:=jx 1
abbrev bT:TE:=jx 2
abbrev cG:TE:=jx 3
abbrev dF:TE:=jx 4
abbrev gB:TE:=jx 5
abbrev ie:TE:=jx 6
abbrev oW:TE:=jx 7
abbrev xR:TE:=jx 8
abbrev yr:TE:=jx 9
abbrev Vy:TE:=jx 10
abbrev a0y:TE:=jx 11
abbrev Z8:TE:=jx 12
abbrev Vz:TE:=jx 13
abbrev tI(n:Int):TE:=tC<|V.int n
abbrev tX(K:Ϗ)(t:TE)(n:Int):TE:=aM (gK K) t<|tC<|V.int n
abbrev cA(a:TE):TA:=fP a gJ
abbrev bF(a b:TE):TA:=fP a<|fP b gJ
abbrev kW(a b c:TE):TA:=fP a<|fP b<|fP c gJ
abbrev NQ(a b c d:TE):TA:=fP a<|fP b<|fP c<|fP d gJ
abbrev eF(K:Ϗ)(t:TE):TE:=gw (ww K)<|fP t gJ
abbrev bB(sp:Sp)(t:TA):TE:=jn sp [] E0 t
end L2
end
set_option Elab.async false
set_option linter.all false
set_option maxRecDepth 100000
open L2
local macro_rules|`(tactic|walk_at "si")=>`(tactic|first|assumption|(with_reducible exact Mm.big_pos)|(with_reducible exact Int.pow_pos (by decide))|rfl'|(dsimp only;rfl')|exact ⟨by rfl',by rfl'⟩|exact Or.inr ⟨by rfl',by rfl'⟩|exact Or.inl ⟨by rfl',by rfl'⟩|exact ⟨by rfl',by rfl',by rfl'⟩|exact ⟨by rfl',by rfl',by decide⟩|(dsimp only;decide)|exact Mm.Qm _|exact Mm.big_pos|exact Int.pow_pos (by decide))
local macro_rules|`(tactic|walk_at "gp")=>`(tactic|repeat (first|walk_at "st"|(with_reducible (refine' Vl ?e ?_;case e=>assumption))))
local macro_rules|`(tactic|symm)=>`(tactic|repeat walk_at "st")
local macro_rules|`(tactic|walk_at "gq")=>`(tactic|(intro R h;(with_unfolding_all walk_at "gp");exact h))
local macro_rules|`(tactic|walk_at "la")=>`(tactic|with_unfolding_all first|decide|(simp;rfl')|simp)
local macro_rules|`(tactic|walk_at "ex")=>`(tactic|with_unfolding_all first|exact a0o|exact ext2|exact ext3)
local macro_rules|`(tactic|walk_at "rf")=>`(tactic|with_unfolding_all exact rfl)
local macro_rules|`(tactic|walk_at "sw")=>`(tactic|with_unfolding_all walk_at "si")
local macro_rules|`(tactic|walk_at "gz")=>`(tactic|first|(and_intros <;> walk_at "gq")|(refine' ⟨_,_,_,?_,?_,?_,?_,?_⟩ <;> try walk_at "gq"))
local macro_rules|`(tactic|walk_at "sx")=>do
 let a<-("..Ib ..Yx rfYy ..s_c ..s_call ..Qq ..Yz ..YF swa0s ..YG ..YH ..Z2 ..Vn ..a0p ..YB gzQt ..YC gzVk ..a0q gzVj ..Vd ..Ds ..Dr ..Yu ..Yv ..Yw ..a0t gzIg ..Qs ..Ve rfYD ..a0r ..YT rfs_eq rfa0u ..YW ..YZ ..Z0 ..Vw laYK ..Vf ..YL ..YM ..YQ ..a0v exYJ".splitOn " ").toArray.mapM λs=>
  let n:=Lean.mkIdent (.str `L2 (s.drop 2).toString)
  let k:=(s.take 2).toString
  if k==".." then`(Lean.Parser.Tactic.tacticSeq|refine $n ?_)else`(Lean.Parser.Tactic.tacticSeq|(refine' $n ?e ?_;case e=>walk_at $(Lean.Syntax.mkStrLit k)))
 `(tactic|with_reducible first $[|$a]*)
local macro_rules|`(tactic|walk_at "st")=>`(tactic|first|with_reducible refine RX ?_|walk_at "sx")
local macro_rules|`(tactic|walk_at "sj")=>`(tactic|first|walk_at "sx")
local macro_rules|`(tactic|walk_at "gj")=>`(tactic|repeat walk_at "sj")
local macro_rules|`(tactic|walk_at "hp")=>`(tactic|first
 | assumption
 | exact aj
 | (refine gI ?_;walk_at "hp")
 | (refine gL ?_;walk_at "hp")
 | (refine ji (by assumption) ?_;walk_at "hp")
 | (refine Ca (by assumption) ?_;walk_at "hp")
 | (refine aF (by assumption) ?_;walk_at "hp")
 | (refine Same.seq (by assumption) ?_;walk_at "hp")
 | (refine Same.tup (by assumption) ?_;walk_at "hp")
 | (refine Same.get (by assumption) ?_;walk_at "hp"))
local macro_rules|`(tactic|walk_at "sm")=>`(tactic|first|assumption|exact gN _|(refine Same.new ?_ (by assumption);walk_at "sm")|(refine Same.trans ?_ (by assumption);walk_at "sm"))
local macro_rules|`(tactic|walk_at "ns")=>do
 let a:=("L2.start List.map List.length Nat.reduceAdd Nat.reduceSub List.reduceReplicate Κ Φ List.set".splitOn " ").toArray.map λs=>Lean.mkIdent s.toName
 `(tactic|try dsimp only[$[$a:ident],*])
local macro_rules|`(↥$x)=>`(L2.V.ref $x)
local macro_rules|`(tactic|apply $e)=>`(tactic|(symm;refine $e))
namespace Pg
variable{ds:L2S}{k:Ϻ}{p:ό}{w:ϴ}{b y:ϊ Nat}{e2 rs:ϊ Int}{c ht i j m n r room:Nat}{wss:ϲ}{rows:ϊ (ϸ)}
inductive An2(A0 A1:Prop):Prop|mk (a0:A0) (a1:A1):An2 A0 A1
inductive An3(A0 A1 A2:Prop):Prop|mk (a0:A0) (a1:A1) (a2:A2):An3 A0 A1 A2
inductive An4(A0 A1 A2 A3:Prop):Prop|mk (a0:A0) (a1:A1) (a2:A2) (a3:A3):An4 A0 A1 A2 A3
inductive An5(A0 A1 A2 A3 A4:Prop):Prop|mk (a0:A0) (a1:A1) (a2:A2) (a3:A3) (a4:A4):An5 A0 A1 A2 A3 A4
inductive An6(A0 A1 A2 A3 A4 A5:Prop):Prop|mk (a0:A0) (a1:A1) (a2:A2) (a3:A3) (a4:A4) (a5:A5):An6 A0 A1 A2 A3 A4 A5
inductive An7(A0 A1 A2 A3 A4 A5 A6:Prop):Prop|mk (a0:A0) (a1:A1) (a2:A2) (a3:A3) (a4:A4) (a5:A5) (a6:A6):An7 A0 A1 A2 A3 A4 A5 A6
inductive An8(A0 A1 A2 A3 A4 A5 A6 A7:Prop):Prop|mk (a0:A0) (a1:A1) (a2:A2) (a3:A3) (a4:A4) (a5:A5) (a6:A6) (a7:A7):An8 A0 A1 A2 A3 A4 A5 A6 A7
inductive An9(A0 A1 A2 A3 A4 A5 A6 A7 A8:Prop):Prop|mk (a0:A0) (a1:A1) (a2:A2) (a3:A3) (a4:A4) (a5:A5) (a6:A6) (a7:A7) (a8:A8):An9 A0 A1 A2 A3 A4 A5 A6 A7 A8
inductive An10(A0 A1 A2 A3 A4 A5 A6 A7 A8 A9:Prop):Prop|mk (a0:A0) (a1:A1) (a2:A2) (a3:A3) (a4:A4) (a5:A5) (a6:A6) (a7:A7) (a8:A8) (a9:A9):An10 A0 A1 A2 A3 A4 A5 A6 A7 A8 A9
inductive An11(A0 A1 A2 A3 A4 A5 A6 A7 A8 A9 A10:Prop):Prop|mk (a0:A0) (a1:A1) (a2:A2) (a3:A3) (a4:A4) (a5:A5) (a6:A6) (a7:A7) (a8:A8) (a9:A9) (a10:A10):An11 A0 A1 A2 A3 A4 A5 A6 A7 A8 A9 A10
inductive An15(A0 A1 A2 A3 A4 A5 A6 A7 A8 A9 A10 A11 A12 A13 A14:Prop):Prop|mk (a0:A0) (a1:A1) (a2:A2) (a3:A3) (a4:A4) (a5:A5) (a6:A6) (a7:A7) (a8:A8) (a9:A9) (a10:A10) (a11:A11) (a12:A12) (a13:A13) (a14:A14):An15 A0 A1 A2 A3 A4 A5 A6 A7 A8 A9 A10 A11 A12 A13 A14
inductive Ex1{α0:Type}(P:α0->Prop):Prop|mk (a0:α0) (h:P a0):Ex1 P
inductive Ex2{α0 α1:Type}(P:α0->α1->Prop):Prop|mk (a0:α0) (a1:α1) (h:P a0 a1):Ex2 P
inductive Ex3{α0 α1 α2:Type}(P:α0->α1->α2->Prop):Prop|mk (a0:α0) (a1:α1) (a2:α2) (h:P a0 a1 a2):Ex3 P
inductive Ex4{α0 α1 α2 α3:Type}(P:α0->α1->α2->α3->Prop):Prop|mk (a0:α0) (a1:α1) (a2:α2) (a3:α3) (h:P a0 a1 a2 a3):Ex4 P
inductive Ex5{α0 α1 α2 α3 α4:Type}(P:α0->α1->α2->α3->α4->Prop):Prop|mk (a0:α0) (a1:α1) (a2:α2) (a3:α3) (a4:α4) (h:P a0 a1 a2 a3 a4):Ex5 P
inductive Ex6{α0 α1 α2 α3 α4 α5:Type}(P:α0->α1->α2->α3->α4->α5->Prop):Prop|mk (a0:α0) (a1:α1) (a2:α2) (a3:α3) (a4:α4) (a5:α5) (h:P a0 a1 a2 a3 a4 a5):Ex6 P
inductive Ex7{α0 α1 α2 α3 α4 α5 α6:Type}(P:α0->α1->α2->α3->α4->α5->α6->Prop):Prop|mk (a0:α0) (a1:α1) (a2:α2) (a3:α3) (a4:α4) (a5:α5) (a6:α6) (h:P a0 a1 a2 a3 a4 a5 a6):Ex7 P
open PySem L2
noncomputable def aK0:ό:=66
noncomputable def aK3:ό:=79
noncomputable def aK1:ό:=91
noncomputable def aK2:ό:=103
noncomputable def cO:ό:=236
variable{E:XK}
theorem a0z{b:ϊ V}(e:H a=!(.tup (v0::v1::v::b)))(h:Q v H):gK K ↥a (.int 2) H Q:=dZ (gL e) (aO (j:=2) (v:=v) Z) h
inductive fm(K:Ϗ)(vs:ϊ V)(H:Hp)(Q:VK)(E:XK):Prop|mk (x:V) (a:vs=[x]) (b:Thing H x) (c:Q (.bl (isI x)) H)
abbrev Iz K(E:XK)(Eh:XK):=(aW<|gD (gw (fL K)<|bF aU<|tC<|V.ty "int")<|Fw<|gw (fL K)<|bF aU<|tC<|V.ty "bool")
abbrev IK:ϊ ϐ:=sN ["thing"]
theorem VB(h:fm K vs H Q E):RG (Iz K E) IK vs H Q:=by
 let#[x,rfl,a,q]:=h;show#[E0,?_];symm;rcases a.ty (K:=K)with⟨b,rfl⟩|⟨i,rfl⟩|⟨s,rfl,_⟩|⟨n,ty,hn,e,_⟩;.show fH (.bl b) (b:=true) Z ?_;apply fH (.bl b) (b:=true) Z ?_;apply q
 .show fH (.int i) (b:=true) Z ?_;apply fH (.int i) (b:=false) Z ?_;apply q
 .show fH (.str s) (b:=false) Z ?_;apply q
 .rw [e]at q;show fH ty (b:=false) (by rcases hn with rfl|rfl|rfl|rfl<;>rfl) ?_;apply q
def hgt:V->ϑ
 |.int i=>decide (1<=i)&&decide (i<=60)|_=>false
inductive eR(K:Ϗ)(vs:ϊ V)(H:Hp)(Q:VK)(E:XK):Prop|mk (x:V) (a:vs=[x]) (b:Thing H x) (c:Q (.bl (hgt x)) H)
abbrev IV K(E:XK)(Eh:XK):=(aW<|gD (bB (fm K)<|cA aU)<|il lO lO (tI 1) aU<|tI 60)
abbrev IW:ϊ ϐ:=sN ["thing"]
theorem VD(h:eR K vs H Q E):RG (IV K E) IW vs H Q:=by
 let#[x,rfl,a,q]:=h;show#[E0,?_];apply#[x,Z,a,?_]
 cases x with|int i=>
  symm;change if true=true then _ else _;apply q|_=>
  symm;change if false=true then _ else _;apply q
noncomputable def sgn:V->ϑ
 |.str s=>decide (↑s=1)&&(not (decide<|s.cps.toList<(Str.ofString " ").cps.toList)&&(not (decide<|(Str.ofString "~").cps.toList<s.cps.toList)&&not (decide<|((s.cps.getD 0 0:Nat):Int)=37)))|_=>false
theorem J0(h:Hs.Sg s):sgn (.str s)=true:=by
 let#[n,rfl]:=h;have:∀c∈Hs.NP.cps.toList,sgn (.str<|tx [c])=true:=by ac_nf
 have d:↑Hs.NP.cps.toList=94:=by ac_nf
 have a:0<=n%94:=Ω _ (by decide);have b:n%94<94:=ř _ (by decide);show this _ ?_;unfold Hs.yp;rw[Xs,Zl ()];show Ø _
inductive fx(K:Ϗ)(vs:ϊ V)(H:Hp)(Q:VK)(E:XK):Prop|mk (x:V) (a:vs=[x]) (b:Thing H x) (c:Q (.bl (sgn x)) H)
abbrev J1 K(E:XK)(Eh:XK):=(aA (bD (Nz (lg<|lA K<|gw (fL K)<|bF aU<|tC<|V.ty "str")<|aN<|aM Rq (eF K aU)<|tI 1) (aW<|tC<|V.bl false) aR)
  (aW<|gD (il pO pO (tC<|V.str<|Str.ofString " ") aU<|tC<|V.str<|Str.ofString "~")<|aM Rq (gw RB<|cA aU)<|tI 37))
abbrev J2:ϊ ϐ:=sN ["thing"]
theorem VF(h:fx K vs H Q E):RG (J1 K E) J2 vs H Q:=by
 let#[x,rfl,g,q]:=h;show#[E0,?_];symm;rcases g.ty (K:=K)with⟨b,rfl⟩|⟨i,rfl⟩|⟨s,rfl,hl⟩|⟨n,ty,hn,_,e⟩;.show fH (.bl b) (b:=false) Z ?_;apply q
 .show fH (.int i) (b:=false) Z ?_;apply q
 .show fH (.str s) (b:=true) Z ?_;apply uJ (cU hl) ?_;apply m6 (λc=>?_) λc=>?_
  .have e:sgn (.str s)=false:=by change(decide (↑s=1)&&_)=false;rw[Ü<|qnD c,ŕ]
   rw[e]at q;apply q
  .have a:↑s=1:=by show Eo c
   have e:sgn (.str s)=(not (decide<|s.cps.toList<(Str.ofString " ").cps.toList)&&(not (decide<|(Str.ofString "~").cps.toList<s.cps.toList)&&not (decide<|((s.cps.getD 0 0:Nat):Int)=37))):=by change(decide (↑s=1)&&_)=_;rw[Ô a,ż]
   rw[e,<-Bool.and_assoc]at q;apply Qo (λd=>?_) λd=>?_;.rw [d,ż]at q;apply YX a ?_;apply q
   .rw [d,ŕ]at q;apply q
 .have f:sgn x=false:=by cases x with
   |str s=>show μ Z (e s)|_=>rfl
  rw[f]at q;show fH ty (b:=false) (by rcases hn with rfl|rfl|rfl|rfl<;>rfl) ?_;apply q
noncomputable def isc(h:Nat):V->ϑ
 |.int i=>decide (0<=i)&&decide (i<2^h)|_=>false
inductive fb(K:Ϗ)(vs:ϊ V)(H:Hp)(Q:VK)(E:XK):Prop|mk (h:Nat) (x:V) (a:vs=[.int h,x]) (b:Thing H x) (c:Q (.bl (isc h x)) H)
abbrev J3 K(E:XK)(Eh:XK):=(aW<|gD (bB (fm K)<|cA bc)<|gD (aM Yi bc<|tI 0)<|aM lO (Om K "int" wy bc) aU)
abbrev J4:ϊ ϐ:=sN ["height","thing"]
theorem VG(h:fb K vs H Q E):RG (J3 K E) J4 vs H Q:=by let#[a,x,rfl,b,q]:=h;show#[E0,?_];apply#[x,Z,b,?_];cases x with
 |int i=>
  symm;change if true=true then _ else _;symm;by_cases c:0<=i
  .have e:decide (((Builtin.Int.intBits i:Nat):Int)<=(a:Int))=isc a (.int i):=by
    have z:(((Builtin.Int.intBits i:Nat):Int)<=(a:Int))↔i<2^a:=by rw[Int.ofNat_le,PySem.intBits_le_iff];let#[n,rfl]:∃n:Nat,i=n:=#[i.toNat,Eq.symm (uG c)];rw[<-Bx.lM,Int.natAbs_natCast,Int.ofNat_lt]
    change _=(decide (0<=i)&&decide (i<2^a));rw[Ô c,ż];show decide_eq_decide.mpr z
   rw[<-e]at q;rw[Ô c,ż];show q
  .have e:isc a (.int i)=false:=by change(decide (0<=i)&&decide (i<2^a))=false;rw[Ü c,ŕ]
   rw[e]at q;rw[Ü c,ŕ];show q|_=>
  symm;change if false=true then _ else _;apply q
inductive fN(K:Ϗ)(vs:ϊ V)(H:Hp)(Q:VK)(E:XK):Prop|mk (n:Nat) (a:vs=[.int n]) (b:Q (.int (Bm.pop n)) H)
abbrev J5(K:Ϗ)(E:XK)(Eh:XK):=(aA (aL (tI 0)<|ak 1)
  (aA (fZ (aN<|aM kj aU<|tI 0) (aA (aL (aM Yh aU<|aM su aU<|tI 1)<|ak 0)
  (O5 1 (tI 1) Bo)))
  (aW bc)))
abbrev J6:ϊ ϐ:=sN ["column","dots"]
theorem VH(h:fN K vs H Q E):RG (J5 K E) J6 vs H Q:=by
 let#[n,rfl,q]:=h;show#[E0,?_];show RX ?_;apply vN (λb f=>(Ex2 λ(m d:Nat)=>(An3 (b=[!(.int (m:Int)),!(.int (d:Int))]) (f=H)<|d+Bm.pop m=Bm.pop n))) (λb _=>match b with|some (.int m)::_=>m.toNat|_=>0) ⟨n,0,Z,Z,Eq.trans (ń 0 _) Z⟩ ?_ ?_
 .rintro _ _ ⟨m,d,rfl,rfl,e⟩;apply cM (λc=>?_)<|λc=>?_
  .have a:0<m:=by show Fi c
   have p:Builtin.bitAnd (m:Int) ((m:Int)-1)=((m&&&(m-1):Nat):Int):=by rw[show(m:Int)-1=((m-1:Nat):Int)by rfl',Bx.lq]
   symm;rw[p];have t:=Bm.Uy m a;have w:=Bm.Ou m a;show#[#[m&&&(m-1),d+1,Z,Z,()],?_];change((m&&&(m-1):Nat):Int).toNat<(m:Int).toNat;show t
  .have a:m=0:=by show qn1 c
   subst a;rw[Bm.jG]at e;symm;rw[show d=Bm.pop n by show e];show q
 .rintro b H Q u r ⟨v,s,i,j,g,l,k,o,z⟩;show#[v,s,i,j,g,l,k,o,r _ _ z]
inductive f4(K:Ϗ)(vs:ϊ V)(H:Hp)(Q:VK)(E:XK):Prop|mk (a b:Nat) (c:vs=[.int a,.int b]) (d:Q (.int (Bm.pop (a^^^b):Nat)) H)
abbrev J7 K(E:XK)(Eh:XK):=(aW<|bB (fN K)<|cA<|aM Rz aU bc)
abbrev J8:ϊ ϐ:=sN ["one","other"]
theorem VJ(h:f4 K vs H Q E):RG (J7 K E) J8 vs H Q:=by let#[a,b,rfl,q]:=h;show#[E0,?_];symm;rw[Bx.pK];show#[_,Z,q]
inductive dA(K:Ϗ)(vs:ϊ V)(H:Hp)(Q:VK)(E:XK):Prop|mk (p q:ό) (a b:ϊ V) (c:vs=[.ref p,.ref q]) (d:(SqL K H p a\/SqT K H p a)) (e:(SqL K H q b\/SqT K H q b)) (f:↑a=↑b) (g:Q .non H)
abbrev J9 K(E:XK)(Eh:XK):=(bD (aN<|aM Rq (eF K aU)<|eF K bc) dH aR)
abbrev Ja:ϊ ϐ:=sN ["one","other"]
theorem VL(h:dA K vs H Q E):RG (J9 K E) Ja vs H Q:=by
 let#[g,i,b,j,rfl,d,e,f,q]:=h;show#[E0,?_];have c:∀{H:Hp}{Q:VK}{a:ό}{b:ϊ V},(SqL K H a b\/SqT K H a b)->Q (.int ↑b) H->ww K [↥a] H Q:=λh q=>h.elim (λh=>dw h q) λh=>cu h q;apply c d ?_;apply c e ?_;apply iu (by rw[f]) ?_;apply q
inductive gu(K:Ϗ)(vs:ϊ V)(H:Hp)(Q:VK)(E:XK):Prop|mk (p q:ό) (a b:ϊ Nat) (c:vs=[.ref p,.ref q]) (d:SqT K H p (nv a)) (e:(SqL K H q (nv b)\/SqT K H q (nv b))) (f:↑a=↑b) (g:↑a<=1000) (h:∀H',Same H H'->Q (.int (Mm.bh a b:Nat)) H')
abbrev Jb K(E:XK)(Eh:XK):=(aA (di<|bB (dA K)<|bF aU bc)
  (aW<|gw (Pb K)<|cA<|kJ [none,none] (RM K<|bF aU bc) (gr K 2<|bf (ak 0)<|bf (ak 1) gF) dJ<|bB (f4 K)<|bF aU bc))
abbrev zO:ϊ ϐ:=sN ["one","other"]
theorem VM(h:gu K vs H Q E):RG (Jb K E) zO vs H Q:=by
 let#[s,m,n,g,rfl,c,a,d,k,q]:=h;show#[E0,?_];apply#[_,_,_,_,Z,.inr c,a,by rw[Qb,Qb,d],?_];symm;let#[e,a]:∃e,Fg K H m (nv g) e:=a.elim (λh=>#[true,h]) λh=>#[false,h];show Z4 (λi:Nat=>V.int (i:Int)) (λi:Nat=>V.int (i:Int)) c a d (cU k) (λx y=>V.int ((Bm.pop (x^^^y):Nat):Int)) ?_ ?_;.intro i x y p j o r f b A l;show cN (gL b) Z ?_;apply#[x,y,Z,l _<|gN _]
 .intro p j f b;apply Ss (ns:=List.zipWith (λx y=>((Bm.pop (x^^^y):Nat):Int)) n g) (gI ?_) ?_;.rw [b,List.map_zipWith]
  .rw [Mm.xG];show q _ f
abbrev Wz:=ό×ϐ×ϊ Nat×Int
def WyT(H:Hp)(z:Wz):Prop:=∃ca,H z.1=!(.tup [.str z.2.1,↥ca,.int z.2.2.2])/\H ca=!(.tup<|nv z.2.2.1)
theorem WyT.same(h:WyT H z)(s:Same H H'):WyT H' z:=by let#[a,b,c]:=h;show#[a,s.get b,s.get c]
def LdT(H:Hp)(p:ό)(ws:ϳ):Prop:=∃zs:ϊ Wz,zs.map (·.2)=ws/\H p=!(.lst (zs.map λz:Wz=>↥z.1))/\∀z∈zs,WyT H z
theorem LdT.same(h:LdT H p a)(s:Same H H'):LdT H' p a:=by let#[f,b,c,d]:=h;show#[f,b,s.get c,λz e=>(d z e).same s]
def aJ(ls:ϵ)(ps:L1S):ϳ:=ps.filterMap λp=>(Fo.lk ls p.1).map λco=>(p.1,co,p.2)
theorem tM(a:ϵ)(b:L1S)(p:ϐ×Int):aJ a (b++[p])=aJ a b++(match Fo.lk a p.1 with|none=>[]|some co=>[(p.1,co,p.2)]):=by
 unfold aJ;rw[List.filterMap_append];congr 1;rw[ĳ,List.filterMap_nil];cases Fo.lk a p.1<;>rfl
inductive fh(K:Ϗ)(vs:ϊ V)(H:Hp)(Q:VK)(E:XK):Prop|mk (d c:ό) (b:ϊ Lz) (a:L1S) (e:vs=[.ref d,.ref c]) (f:H d=!(.dK (b.map λz:Lz=>((Sum.inr z.2.1:Key),V.ref z.2.2.1)))) (g:(∀z∈b,H z.2.2.1=!(.tup (nv z.2.2.2)))) (h:DrG K H c a) (i:↑a<=1000) (j:∀p H',Same H H'->H p=none->LdT H' p (aJ (b.map λz:Lz=>(z.2.1,z.2.2.2)) a)->Q (.ref p) H')
abbrev Jc K(E:XK)(Eh:XK):=(aW<|kJ [none,none,!0] (ph K bc) (gr K 2<|bf (ak 0)<|bf (ak 1) gF) (tB<|Dv aU bT)<|dj<|kW aU (fQ bT aU) bc)
abbrev zP:ϊ ϐ:=sN ["letters","doors"]
theorem VN(h:fh K vs H Q E):RG (Jc K E) zP vs H Q:=by
 let#[R,Y,l,B,rfl,r,X,#[L,o,O,U],I,q]:=h;show#[E0,?_];have w:↑L=↑B:=by rw[<-o,Qb]
 apply Vq (λz:ό×ϐ×Int=>↥z.1) (zs:=L) O (cU (jq w I)) (λi C n=>(Ex1 λ(j:ϊ Wz)=>(An5 (C=j.map (λz:Wz=>↥z.1)) (j.map (·.2)=aJ (l.map λz:Lz=>(z.2.1,z.2.2.2)) (B.take i)) (↑j<=i) (Same H n) (∀z∈j,WyT n z)))) #[[],Z,Z,by simp,gN _,by simp] ?_ ?_ ?_ ?_;.rintro i C n ⟨j,rfl,_,_,d,_⟩;show d.tup O
 .rintro i C n ⟨j,rfl,_,x,_⟩;rw[Qb];show x
 .rintro i ⟨b,s,a⟩ C n P ⟨j,rfl,v,x,d,D⟩;have G:B[i]?=!(s,a):=by rw[<-o,Á,P];rfl
  have u:B.take (i+1)=B.take i++[(s,a)]:=by rw[Ð,G];rfl
  have S:=d.get (U _ (Yf P));dsimp only at S;show cN (gL S) Z ?_;apply#[R,_,Z,DGet.k (k:=Sum.inr s) (d.get r),?_];cases hlk:Fo.lk (l.map λz:Lz=>(z.2.1,z.2.2.2)) s with
  |none=>
   have W:bu (l.map λz:Lz=>((Sum.inr z.2.1:Key),↥z.2.2.1)) (Sum.inr s)=none:=fV (f:=λz:Lz=>(Sum.inr z.2.1:Key)) (g:=λz:Lz=>↥z.2.2.1) λm=>by
    let#[z,A,e]:=Zp.mp m;let#[c,N]:=Fo.zJ (ls:=l.map λz:Lz=>(z.2.1,z.2.2.2)) (s:=s) (by rw[Ä];show Zp.mpr #[z,A,Ĥ e]);rw[hlk]at N;cases N
   rw[W];symm;change if false=true then _ else _;apply#[j,Z,by rw[u,tM,v];change _=_++(match Fo.lk (l.map λz:Lz=>(z.2.1,z.2.2.2)) s with|none=>[]|some co=>[(s,co,a)]);rw[hlk,û],uH x _,d,D]|some co=>
   let#[z,A,T,M]:=qm hlk;rw[M];symm;change if true=true then _ else _;apply#[R,↥z.2.2.1,Z,by rw[<-M];show DGet.k (k:=Sum.inr s) (d.get r),?_];symm;intro t J;show#[j++[(t,s,co,a)],by simp,?_,by simp;show x,d.new J,λy my=>?_];.rw [u,tM,Â,v];change _=_++(match Fo.lk (l.map λz:Lz=>(z.2.1,z.2.2.2)) s with|none=>[]|some co=>[(s,co,a)]);rw[hlk];rfl
   .rcases Æ.mp my with my|my;.show (D y my).same (ao J _)
    .rw [Zs.mp my];show#[z.2.2.1,aj,by rw[<-T];show aF J (d.get (X z A))]
 .rintro C n ⟨j,rfl,v,x,d,D⟩ p F;rw[æ (jq (w.symm) (Ã _))]at v;show q p _ (d.new F) (d.free F) #[j,v,aj,λz A=>(D z A).same (ao F _)]
def WsT(H:Hp)(p:ό)(wss:ϲ):Prop:=∃rs:ϊ (ό×ϊ (ϴ)),rs.map (·.2)=wss/\H p=!(.lst (rs.map λr=>↥r.1))/\∀r∈rs,LdT H r.1 r.2
theorem WsT.same(h:WsT H p wss)(s:Same H H'):WsT H' p wss:=by let#[e,a,b,c]:=h;show#[e,a,s.get b,λr d=>(c r d).same s]
inductive fy(K:Ϗ)(vs:ϊ V)(H:Hp)(Q:VK)(E:XK):Prop|mk (f c:ό) (h:Nat) (b:ϵ) (a:L2S) (d:ϊ Int) (e:vs=[.ref f,.ref c]) (g:FnF K H f h b) (i:Fo.Wf h b) (j:HsG K H c a d) (k:↑a<=1000) (l:(∀ps∈a,↑ps<=1000)) (m:∀p H',Same H H'->H p=none->WsT H' p (a.map (aJ b))->Q (.ref p) H')
abbrev Jd K(E:XK)(Eh:XK):=(aA (aL (gw (je K)<|cA<|tX K aU 1)<|ak 2)
  (aW<|kJ [none,!2] (ph K<|tX K bc 0) (ak 0) dJ<|bB (fh K)<|bF bc aU))
abbrev zQ:ϊ ϐ:=sN ["font","house","letters"]
theorem VP(h:fy K vs H Q E):RG (Jd K E) zQ vs H Q:=by
 let#[f,ha,h,J,x,es,rfl,hF,U,#[d,e,S,W,M,N,X,a5],B,F,q]:=h;show#[E0,?_];let#[l,ob,a,Y,A,D,zz,O]:=id hF;have hl:↑a=↑J:=by rw[<-A,Qb]
 have s:↑S=↑x:=by rw[<-M,Qb]
 have C:(a.map (·.2.1)).Nodup:=by have:=dB U.up;rw[<-A,Ä]at this;show this
 apply cZ Y ?_;apply xQ (zs:=a.map λz:Lz=>(z.1,z.2.1,↥z.2.2.1)) D (by rw[Ä];show zz) (λz m=>?_) (by rw[Ä];show C) (by rw[Qb];have:=U.le;show cU (jq hl this)) λt G=>?_;.obtain ⟨y,my,rfl⟩:=Zp.mp m;show gL (O y my).1
 rw[Ä];have g:Same H (upd H t (HO.dK (a.map ((λz:ό×ϐ×V=>((Sum.inr z.2.1:Key),z.2.2))∘λz:Lz=>(z.1,z.2.1,↥z.2.2.1))))):=ao G _;have n:upd H t (HO.dK (a.map ((λz:ό×ϐ×V=>((Sum.inr z.2.1:Key),z.2.2))∘λz:Lz=>(z.1,z.2.1,↥z.2.2.1)))) t=!(.dK (a.map λz:Lz=>((Sum.inr z.2.1:Key),↥z.2.2.1))):=aj;generalize upd H t (HO.dK (a.map ((λz:ό×ϐ×V=>((Sum.inr z.2.1:Key),z.2.2))∘λz:Lz=>(z.1,z.2.1,↥z.2.2.1))))=H1 at g n;apply dN (g.get W) ?_;show Vq (λr:ό×L1S=>↥r.1) (zs:=S) (g.tup N) (cU (jq s B)) (λi u j=>(Ex1 λ(b:ϊ (ό×ϊ (ϴ)))=>(An4 (u=b.map (λr=>↥r.1)) (b.map (·.2)=(x.take i).map (aJ J)) (Same H1 j) (∀r∈b,LdT j r.1 r.2)))) #[[],Z,Z,gN _,by simp] ?_ ?_ ?_ ?_;.rintro i u j ⟨b,rfl,_,c,_⟩;show c.tup (g.tup N)
 .rintro i u j ⟨b,rfl,k,_⟩;have:=Ö List.length k;rw[Qb,Qb,Ñ]at this;rw[Qb];show XR this
 .rintro i ⟨ra,w⟩ u j R ⟨b,rfl,k,c,I⟩;have o:x[i]?=!w:=by rw[<-M,Á,R];rfl
  have L:=g.trans c;apply#[t,ra,a,w,Z,c.get n,λz mz=>L.get (O z mz).2,(X _ (Yf R)).same L,F w (Yf o),λp H2 T v P=>?_];symm;rw[A]at P;show#[b++[(p,aJ J w)],by simp,by rw[Â,k,Ð,o,Â];rfl,c.trans T,λr mr=>?_];rcases Æ.mp mr with mr|mr;.show (I r mr).same T
  .rw [Zs.mp mr];show P
 .rintro u j ⟨b,rfl,k,c,I⟩ p v;rw[æ (jq (s.symm) (Ã _))]at k;show q p _ ((g.trans c).new v) ((g.trans c).free v) #[b,k,aj,λr mr=>(I r mr).same (ao v _)]
def lF(xs:ϊ Nat)(x:Nat)(ls:ϵ):ϊ (ϐ×Nat):=ls.filterMap λp=>if x+↑p.2<=↑xs then !(p.1,Mm.bh p.2<|(xs.drop x).take ↑p.2)else none
noncomputable def Je(gs:ϊ<|ϐ×Nat):ϊ (Key×V):=gs.map λp=>(Sum.inr p.1,V.int (p.2:Nat))
theorem xT(a:ϊ Nat)(x:Nat)(b:ϵ)(p:ϐ×ϊ Nat):lF a x (b++[p])=lF a x b++(if x+↑p.2<=↑a then[(p.1,Mm.bh p.2<|(a.drop x).take ↑p.2)]else[]):=by unfold lF;rw[List.filterMap_append];congr 1;rw[ĳ,List.filterMap_nil];split<;>simp_all
theorem Ci{x:Nat}(h:s∉a.map (·.1)):s∉(lF d x a).map (·.1):=λm=>by
 let#[q,c,rfl]:=Zp.mp m;let#[p,b,e]:=é.mp c;split at e;.cases e;show h<|Zp.mpr #[p,b,Z]
 .cases e
inductive fE(K:Ϗ)(vs:ϊ V)(H:Hp)(Q:VK)(E:XK):Prop|mk (f p:ό) (h x:Nat) (b:ϵ) (a:ϊ Nat) (c:vs=[.ref f,.ref p,.int x]) (d:FnT K H f h b) (e:Fo.Wf h b) (g:SqL K H p (nv a)) (i:↑a<=1000) (j:x<=↑a) (k:∀r H',Same H H'->H r=none->H' r=!(.dK (Je (lF a x b)))->Q (.ref r) H')
abbrev Jf K(E:XK)(Eh:XK):=(aA (aL jE<|ak 3)
  (aA (cH (ph K<|tX K aU 1) (gr K 2<|bf (ak 4)<|bf (ak 5) gF) (aA (aL (vR (Gb K) bc (fj bT)<|fj<|aM b7 bT<|eF K gB)<|ak 6)
  (bD (aN<|aM ou (eF K ie)<|eF K gB) (iH cG dF<|bB (gu K)<|bF gB ie) aR)))
  (aW cG)))
abbrev Jg:ϊ ϐ:=sN ["font","strip","x","gaps","sign","columns","beneath"]
theorem VR(h:fE K vs H Q E):RG (Jf K E) Jg vs H Q:=by
 let#[f,p,h,x,c,j,rfl,hF,U,hP,ad,hx,q]:=h;show#[E0,?_];have M:(c.map (·.1)).Nodup:=U.up.imp λL e=>by subst e;show ŭ _ L
 let#[l,zs,t1,A,t3,t4]:=id hF;have O:↑zs=↑c:=by rw[<-A,Qb]
 have J:=U.le;symm;intro r C;apply cZ (aF C t1) ?_;have t:∀zz∈[r],H zz=none:=λzz N=>by rw[Zs.mp N];show C
 show tH (λz:Lz=>↥z.1) ((ao C _).tup t3) (λi F w=>(An3 (Sb [r] H w) (w r=!(.dK<|Je<|lF j x<|c.take i)) (Ex3 λP R T=>F=[!↥f,!↥p,!(.int (x:Nat)),!↥r,P,R,T]))) #[Sb.of<|ao C _,aj,none,none,none,Z] ?_ ?_ ?_;.rintro i F w ⟨v,_⟩;show(v.off t).tup t3
 .rintro i ⟨za,s,ca,b⟩ F w X ⟨v,y,P,R,T,rfl⟩;have S:=v.off t;have mz:=Yf X;let#[u1,D]:=t4 _ mz;dsimp only at u1 D;have u:c[i]?=!(s,b):=by rw[<-A,Á,X];rfl
  have c1:=U.c1 _<|Yf u;dsimp only at c1;have ac:i<↑c:=(À.mp u).1;have n:c.take (i+1)=c.take i++[(s,b)]:=by rw[Ð,u];rfl
  have I:↑(lF j x<|c.take i)<=40:=Í (Ņ ..) (by rw[Ñ];show RT J);show cN (gL<|S.get u1) Z ?_;apply cu (gL<|S.get D) ?_;rw[Qb];symm;rw[show(x:Int)+(↑b:Int)=((x+↑b:Nat):Int)by show Z];show Su (S.seq hP) λbe a=>?_;rw[Qp (BZ _)<|BZ<|_+_,Ó,Ó,show((nv j).take<|x+↑b).drop x=nv ((j.drop x).take ↑b)by rw[nv,nv,List.drop_take,ο,List.map_take,List.map_drop]];have ab:↑((j.drop x).take ↑b)=min ↑b (↑j-x):=by rw[Ñ,ù]
  have B:s∉(c.take i).map (·.1):=by have W:((c.take<|i+1).map (·.1)).Nodup:=Ē ((Ę _ _).map _) M;rw[n,Â,å]at W;showλm=>W.2.2 s m s (by simp) Z
  apply kE aj ?_;apply cu (gL<|aF a<|S.get D) ?_;rw[Qb];apply cM (λd=>?_) λd=>?_
  .have o:x+↑b<=↑j:=();apply#[ca,be,b,(j.drop x).take ↑b,Z,gL<|aF a<|S.get D,by first|show gI aj|show .inl<|gI aj,Eo<|d.symm,(),λH2 s2=>?_];symm;have G:=s2.get<|aF a y;have hv:bu (Je<|lF j x<|c.take i) (Sum.inr s)=none:=fV (f:=λp:ϐ×Nat=>(Sum.inr p.1:Key)) (g:=λp:ϐ×Nat=>V.int (p.2:Nat)) λm=>by let#[p,Y,e]:=Zp.mp m;show Ci B<|Zp.mpr #[p,Y,Ĥ e]
   show#[r,_,Z,DPut.k (k:=Sum.inr s) G (Õ (by unfold Je;rw[Qb];show I:_<=40) (by decide)),?_];rw[cT _ hv];apply#[(v.same<|(ao a _).trans s2).set (by simp),?_,_,_,_,Z];rw[aj,n,xT,β o];unfold Je;rw[Â];rfl
  .have o:¬x+↑b<=↑j:=();apply#[v.new a,?_,_,_,_,Z];rw[n,xT,γ o,û];show aF a y
 .rintro F w ⟨v,y,P,R,T,rfl⟩;rw[æ<|jq (O.symm)<|Ã _]at y;apply q r w (v.off t) C y
noncomputable def jN(gs:ϊ<|ϐ×Nat)(s:ϐ):ύ Nat:=(gs.find? λp=>decide<|p.1=s).map (·.2)
theorem zR(s:ϐ):∀gs:ϊ<|ϐ×Nat,bu (Je gs) (Sum.inr s)=(jN gs s).map λg=>V.int (g:Nat)
 |[]=>Z|p::r=>by
  have a:=zR s r;by_cases h:p.1=s;.subst h;unfold jN;rw[List.find?_cons_of_pos<|by simp];unfold Je bu;simp
  .unfold jN at a⊢;rw[List.find?_cons_of_neg<|by simpa using h,<-a];unfold Je bu;rw[Ç,List.find?_cons_of_neg<|by simpa using h]
theorem zT{x:Nat}{g:Nat}(i:(d.map (·.1)).Nodup)(h:Fo.lk d s=!co)(n:jN (lF t x d) s=!g):x+↑co<=↑t:=by
 unfold jN at n;let#[q,k,rfl]:=Î.mp n;have m:=Ģ k;have e:q.1=s:=by have:=ź k;simpa using this
 let#[p,c,f]:=é.mp m;split at f
 .rename_i b;cases f;have z:=Fo.d9 h;have:p=(s,co):=by
   let#[j,o]:=p;have u:j=s:=e;subst u;have:∀l:ϵ,(l.map (·.1)).Nodup->(j,o)∈l->(j,co)∈l->o=co:=λl=>by induction l with
    |nil=>intro _ h;cases h|cons y r ih=>
     intro a v w;rw[Ç,ï]at a;rcases Å.mp v with h3|h3<;>rcases Å.mp w with h4|h4;.rw [<-h3]at h4;cases h4;rfl
     .rw [<-h3]at a;show μ (Zp.mpr #[_,h4,Z]) a.1
     .rw [<-h4]at a;show μ (Zp.mpr #[_,h3,Z]) a.1
     .show ih a.2 h3 h4
   rw[this d i c z]
  rw[this]at b;show b
 .cases f
theorem Ex(h:s∉a.map (·.1)):jN a s=none:=by unfold jN;rw[ł.mpr λp b=>by simpa using λe=>h<|Zp.mpr #[p,b,e]];rfl
theorem uN{b:ϊ Nat}{x:Nat}:∀{ls:ϵ},(ls.map (·.1)).Nodup->jN (lF b x ls) s=(Fo.lk ls s).bind λco=>if x+↑co<=↑b then !(Mm.bh co<|(b.drop x).take ↑co)else none
 |[],_=>Z|p::r,hnd=>by
  rw[Ç,ï]at hnd;rw[Fo.gZ];have c:lF b x (p::r)=(if x+↑p.2<=↑b then[(p.1,Mm.bh p.2<|(b.drop x).take ↑p.2)]else[])++lF b x r:=by unfold lF;rw[ĳ];split<;>simp_all
  rw[c];by_cases e:p.1=s
  .subst e;rw[β Z];by_cases a:x+↑p.2<=↑b;.rw [β a];unfold jN;rw[List.singleton_append,List.find?_cons_of_pos<|by simp];simp[a]
   .rw [γ a,Φ,Ex<|Ci hnd.1];simp[a]
  .rw [γ e,<-uN hnd.2];by_cases a:x+↑p.2<=↑b;.rw [β a];unfold jN;rw[List.singleton_append,List.find?_cons_of_neg<|by simpa using e]
   .rw [γ a,Φ]
noncomputable def bU(p:ϳ):ϊ Nat:=(p.map (·.2.1)).flatten
def PT(wss:ϲ)(es:ϊ Int):Nat->Nat->Nat->ϲ
 |_,0,room=>if(room:Int)∈es then[[]]else[]|0,_+1,_=>[]|n+1,k+1,room=>(wss.getD room []).flatMap λw=>if↑w.2.1<=k+1 then(PT wss es n (k+1-↑w.2.1) w.2.2.toNat).map (w::·)else[]
theorem mD{c:L1S}(m:w∈aJ d c):Fo.lk d w.1=!w.2.1/\(w.1,w.2.2)∈c:=by let#[p,b,e]:=é.mp<|show w∈c.filterMap _ from m;let#[f,a,rfl]:=Î.mp e;show#[a,b]
theorem uO(b:room<↑ds):(ds.map<|aJ a).getD room []=aJ a ds[room]:=by rw[Xs,Á,Zl b];rfl
theorem Jh(a:Nat):wss.getD a []=[]\/wss.getD a []∈wss:=by
 by_cases b:a<↑wss;.right;rw[Xs,Zl b];show Ø b
 .left;rw[Xs,Ā<|HY b];rfl
def ThP(H:Hp)(v:V):Ϲ->Prop
 |none=>v=.non|some t=>∃a,v=↥a/\H a=!(.tup [.int (t.1:Nat),.int (t.2:Nat)])
theorem ThP.same(h:ThP H v o)(s:Same H H'):ThP H' v o:=by cases o with
 |none=>show h|some t=>let#[a,e,q]:=h;show#[a,e,s.get q]
noncomputable def mgT:Ϲ->Ϲ->Ϲ
 |none,b=>b
 |some t,none=>!t|some t,!u=>if t.1=u.1 then !(t.1,t.2+u.2)else if t.1<u.1 then !t else !u
def RwP(H:Hp)(a:ό)(ts:ϸ):Prop:=∃vs:ϊ V,H a=!(.lst vs)/\↑vs=↑ts/\∀(i:Nat) v t,vs[i]?=!v->ts[i]?=!t->ThP H v t
def PpT(H:Hp)(pp:ό)(rows:ϊ<|ϸ):Prop:=∃as:ϊ ό,↑as=↑rows/\H pp=!(.lst<|as.map V.ref)/\∀(i:Nat) a ts,as[i]?=!a->rows[i]?=!ts->RwP H a ts
theorem RwP.same(h:RwP H a ts)(s:Same H H'):RwP H' a ts:=by let#[g,b,c,d]:=h;show#[g,s.get b,c,λi v t f e=>(d i v t f e).same s]
theorem PpT.same(h:PpT H pp rows)(s:Same H H'):PpT H' pp rows:=by let#[b,c,d,e]:=h;show#[b,c,s.get d,λi a j f g=>(e i a j f g).same s]
def thr(gs:ϊ<|ϐ×Nat)(rows:ϊ<|ϸ)(x:Nat)(w:ϴ):Ϲ:=
 match jN gs w.1 with
 |none=>none|some g=>((rows.getD (x+↑w.2.1) []).getD w.2.2.toNat none).map λt=>(g+t.1,t.2)
theorem qu(o:Ϲ):mgT o none=o:=by cases o<;>rfl
inductive gx(K:Ϗ)(vs:ϊ V)(H:Hp)(Q:VK)(E:XK):Prop|mk (e c d:ό) (x:Nat) (w:ϴ) (b:ϊ (ϐ×Nat)) (a:ϊ (ϸ)) (f:vs=[.ref e,.ref c,.ref d,.int x]) (h:WyT H (e,w)) (i:H c=!(.dK (Je b))) (j:PpT H d a) (k:(∀g,jN b w.1=!g->x+↑w.2.1<↑a/\0<=w.2.2/\w.2.2.toNat<↑(a.getD (x+↑w.2.1) []))) (l:∀v H',Same H H'->ThP H' v (thr b a x w)->Q v H')
abbrev QG K:=(aA (bD (tB<|lK dF bc) (aW<|tC V.non) aR)
  (aA (aL (aM (cD K) (aM (cD K) bT<|aM b7 cG<|eF K<|tX K aU 1)<|tX K aU 2)<|ak 5)
  (aA (bD (aN<|aM iJ gB<|tC V.non) (aW<|tC V.non) aR)
  (aW<|dj<|bF (aM b7 (fQ bc dF)<|tX K gB 0)<|tX K gB 1))))
abbrev SM K(E:XK)(Eh:XK):=(aA (aL (tX K aU 0)<|ak 4)
  (QG K))
abbrev SN:ϊ ϐ:=sN ["way","gaps","paper","x","sign","behind"]
theorem Z9(h:gx K vs H Q E):RG (SM K E) SN vs H Q:=by
 let#[r,B,zz,x,#[s,i,c],C,d,rfl,#[u,o,L],A,#[M,p,R,S],m,q]:=h;show#[E0,?_];dsimp only at o L m;have U:∀{Q:VK},Q (.str s) H->gK K ↥r (.int 0) H Q:=λh=>dZ (gL o) (aO (j:=0) (v:=.str s) Z) h;have W:∀{Q:VK},Q ↥u H->gK K ↥r (.int 1) H Q:=λh=>dZ (gL o) (aO (j:=1) (v:=↥u) Z) h;have X:∀{Q:VK},Q (.int c) H->gK K ↥r (.int 2) H Q:=λh=>dZ (gL o) (aO (j:=2) (v:=.int c) Z) h;apply U ?_;apply#[B,_,Z,DGet.k (k:=Sum.inr s) A,?_];rw[zR];cases hg:jN C s with
 |none=>
  symm;change if true=true then _ else _;apply q .non H (gN _) (by unfold thr;dsimp only;rw[hg];rfl)|some g=>
  let#[J,Y,n]:=m g hg;symm;change if false=true then _ else _;apply W ?_;apply cu (gL L) ?_;rw[Qb];symm;rw[show(x:Int)+(↑i:Int)=((x+↑i:Nat):Int)by show Z];let#[a,F]:∃a,M[x+↑i]?=!a:=#[_,Zl<|qN J p];let#[l,f]:∃l,d[x+↑i]?=!l:=#[_,Zl J];rw[Xs,f]at n;change c.toNat<↑l at n;let#[vs,N,O,P]:=S _ a l F f;let#[v,I]:∃v,vs[c.toNat]?=!v:=#[_,Zl<|qN n O];let#[t,G]:∃t,l[c.toNat]?=!t:=#[_,Zl n];have D:=P _ v t I G;have e:thr C d x (s,i,c)=t.map λt=>(g+t.1,t.2):=by unfold thr;dsimp only;rw[hg];dsimp only;rw[show d.getD (x+↑i) []=l by rw[Xs,f];rfl,Xs,G];rfl
  show oJ R F ?_;apply X ?_;symm;rw[show c=((c.toNat:Nat):Int)by show Eq.symm<|uG Y];show dM (gI N) (aO (j:=c.toNat) (v:=v) I) ?_;symm;cases t with
  |none=>cases D;show m7 Z ?_;apply q .non H (gN _) (by rw[e];rfl)|some t=>
   let#[b,rfl,w]:=D;show gW (by intro z;cases z) ?_;apply#[B,.int (g:Nat),Z,?_,?_];.have:=DGet.k (k:=Sum.inr s) A;rw[zR,hg]at this;show this
   apply dN w ?_;apply cZ w ?_;symm;intro y T;show q _ _ (ao T _) ?_;rw[e];show#[y,Z,by rw[aj];push_cast;rfl]
inductive fF(K:Ϗ)(vs:ϊ V)(H:Hp)(Q:VK)(E:XK):Prop|mk (v w:V) (o u:Ϲ) (a:vs=[v,w]) (b:ThP H v o) (c:ThP H w u) (d:∀y H',Same H H'->ThP H' y (mgT o u)->Q y H')
abbrev Ji K(E:XK)(Eh:XK):=(aA (bD (aN<|aM iJ aU<|tC V.non) (aW bc) aR)
  (aA (bD (aN<|aM iJ bc<|tC V.non) (aW aU) aR)
  (aA (bD (aN<|aM ou (tX K aU 0)<|tX K bc 0) (aW<|dj<|bF (tX K aU 0)<|aM b7 (tX K aU 1)<|tX K bc 1) aR)
  (aW<|XC (aN<|aM lN (tX K aU 0)<|tX K bc 0) aU bc))))
abbrev Jj:ϊ ϐ:=sN ["one","other"]
theorem W3(h:fF K vs H Q E):RG (Ji K E) Jj vs H Q:=by
 let#[v,w,o,u,rfl,m,i,q]:=h;show#[E0,?_];cases o with
 |none=>cases m;apply q w H (gN _) i|some t=>
  let#[a,rfl,e]:=m;apply gW (by intro z;cases z) ?_;symm;cases u with
  |none=>cases i;show m7 Z ?_;apply q _ H (gN _) #[a,Z,e]|some x=>
   let#[b,rfl,g]:=i;have k:∀{c:Hp}{Q:VK},Same H c->Q (.int (t.1:Nat)) c->gK K ↥a (.int 0) c Q:=λs h=>dZ (gL<|s.get e) (aO (j:=0) (v:=.int (t.1:Nat)) Z) h;have A:∀{c:Hp}{Q:VK},Same H c->Q (.int (t.2:Nat)) c->gK K ↥a (.int 1) c Q:=λs h=>dZ (gL<|s.get e) (aO (j:=1) (v:=.int (t.2:Nat)) Z) h;have n:∀{c:Hp}{Q:VK},Same H c->Q (.int (x.1:Nat)) c->gK K ↥b (.int 0) c Q:=λs h=>dZ (gL<|s.get g) (aO (j:=0) (v:=.int (x.1:Nat)) Z) h;have B:∀{c:Hp}{Q:VK},Same H c->Q (.int (x.2:Nat)) c->gK K ↥b (.int 1) c Q:=λs h=>dZ (gL<|s.get g) (aO (j:=1) (v:=.int (x.2:Nat)) Z) h;show gW (by intro z;cases z) ?_;apply k (gN _) ?_;apply n (gN _) ?_;apply cM (λd=>?_) λd=>?_
   .have f:t.1=x.1:=by show Eo d
    apply k (gN _) ?_;apply A (gN _) ?_;apply B (gN _) ?_;symm;intro y r;show q _ _ (ao r _) ?_;change ThP _ _<|if t.1=x.1 then _ else _;rw[β f];show#[y,Z,by rw[aj];push_cast;rfl]
   .have f:¬t.1=x.1:=by show qnD d
    apply k (gN _) ?_;apply n (gN _) ?_;symm;have p:∀v,ThP H v (if t.1<x.1 then !t else !x)->Q v H:=λv h=>q v H (gN _) (by change ThP _ _<|if t.1=x.1 then _ else _;rw[γ f];show h);show cM (λl=>?_) λl=>?_;.symm;show p _ (by rw[β<|Fi l];show#[a,Z,e])
    .symm;show p _ (by rw[γ ()];show#[b,Z,g])
def jk(gs:ϊ<|ϐ×Nat)(rows:ϊ<|ϸ)(x:Nat)(ws:ϳ):Ϲ:=ws.foldl (λacc w=>mgT acc<|thr gs rows x w) none
theorem Ey(b:ϊ<|ϐ×Nat)(a:ϊ<|ϸ)(x:Nat)(c:ϳ)(w:ϴ):jk b a x (c++[w])=mgT (jk b a x c) (thr b a x w):=by unfold jk;rw[List.foldl_append];rfl
def InP(gs:ϊ<|ϐ×Nat)(rows:ϊ<|ϸ)(x:Nat)(w:ϴ):Prop:=∀g,jN gs w.1=!g->x+↑w.2.1<↑rows/\0<=w.2.2/\w.2.2.toNat<↑(rows.getD (x+↑w.2.1) [])
inductive fk(K:Ϗ)(vs:ϊ V)(H:Hp)(Q:VK)(E:XK):Prop|mk (e d f:ό) (x:Nat) (c:ϳ) (b:ϊ (ϐ×Nat)) (a:ϊ (ϸ)) (g:vs=[.ref e,.ref d,.ref f,.int x]) (h:LdT H e c) (i:H d=!(.dK (Je b))) (j:PpT H f a) (k:(∀w∈c,InP b a x w)) (l:∀v H',Same H H'->ThP H' v (jk b a x c)->Q v H')
abbrev Jk K(E:XK)(Eh:XK):=(aA (aL (tC V.non)<|ak 4)
  (aA (cH (cC K aU) (ak 5)<|aL (bB (fF K)<|bF dF<|bB (gx K)<|NQ gB bc bT cG)<|ak 4)
  (aW dF)))
abbrev Jl:ϊ ϐ:=sN ["leads","gaps","paper","x","thing","way"]
theorem W4(h:fk K vs H Q E):RG (Jk K E) Jl vs H Q:=by
 let#[J,r,t,x,g,k,a,rfl,#[n,d,p,G],C,D,l,q]:=h;show#[E0,?_];have m:↑n=↑g:=by rw[<-d,Qb]
 apply gn (λz:Wz=>↥z.1) (zs:=n) (gI p) (λi j c=>(An2 (Same H c)<|Ex2 λv o=>(An2 (ThP c v<|jk k a x<|g.take i)<|j=[!↥J,!↥r,!↥t,!(.int (x:Nat)),!v,o]))) #[gN _,.non,none,Z,Z] ?_ ?_ ?_;.rintro i j c ⟨b,_⟩;show gI<|b.get p
 .rintro i ⟨N,w⟩ j c s ⟨b,v,o,f,rfl⟩;have L:=Yf s;have e:g[i]?=!w:=by rw[<-d,Á,s];rfl
  apply#[N,r,t,x,w,k,a,Z,(G _ L).same b,b.get C,D.same b,l w<|Yf e,λu O A F=>?_];apply#[v,u,_,_,Z,f.same A,F,λy B M I=>?_];apply#[(b.trans A).trans M,y,_,?_,Z];rw[Ð,e];change ThP B y<|jk k a x<|g.take i++[w];rw[Ey];show I
 .rintro j c ⟨b,v,o,f,rfl⟩;rw[æ<|jq (m.symm)<|Ã _]at f;apply q v c b f
theorem ThP.updl{c:ϊ V}(h:ThP H v o)(e:H p=!(.lst d)):ThP (upd H p<|.lst c) v o:=by cases o with
 |none=>show h|some t=>let#[a,b,q]:=h;show#[a,b,by rw[aq<|gH q e];show q]
theorem RwP.updl{k:ϊ V}(h:RwP H a ts)(n:a≠p)(e:H p=!(.lst l)):RwP (upd H p<|.lst k) a ts:=by let#[j,b,c,d]:=h;show#[j,by rw[aq n];show b,c,λi v t g f=>(d i v t g f).updl e]
structure PpN(H0 H:Hp)(pp:ό)(rows:ϊ (ϸ))(as:ϊ ό):Prop where
 len:↑as=↑rows
 at_:H pp=!(.lst<|as.map V.ref)row:∀(i:Nat) a ts,as[i]?=!a->rows[i]?=!ts->RwP H a ts
 inj:∀(i j:Nat) a,as[i]?=!a->as[j]?=!a->i=j
 new:∀a∈as,H0 a=none
 out:pp∉as
def PpN.t(h:PpN H0 H pp rows a):PpT H pp rows:=#[a,h.len,h.at_,h.row]
theorem PpN.same{b:ϊ ό}(h:PpN H0 H pp rows b)(s:Same H H'):PpN H0 H' pp rows b:=#[h.len,s.get h.at_,λi a e c d=>(h.row i a e c d).same s,h.inj,h.new,h.out]
theorem PpN.put{b:ό}{k:Nat}(h:PpN H0 H pp rows l)(u:RwP H b ts)(t:H0 b=none)(r:b∉l)(s:b≠pp):PpN H0 (upd H pp<|.lst<|(l.map V.ref).set k<|.ref b) pp (rows.set k ts) (l.set k b):=by
 show#[by rw[Ŷ,Ŷ,h.len],by rw[aj,List.map_set],λi a v f g=>?_,λi j a c d=>?_,λa p=>?_,λm=>?_]
 .rw [Ĳ]at f g;by_cases e:k=i
  .subst e;rw[β Z]at f g;split at f
   .split at g;.cases f;cases g;show u.updl s h.at_
    .cases g
   .cases f
  .rw [γ e]at f g;show(h.row i a v f g).updl (λq=>h.out<|q▸Yf f) h.at_
 .rw [Ĳ]at c d;by_cases n:k=i<;>by_cases o:k=j;.show Eq.trans (n.symm) o
  .rw [β n]at c;rw[γ o]at d;split at c;.cases c;show μ (Yf d) r
   .cases c
  .rw [γ n]at c;rw[β o]at d;split at d;.cases d;show μ (Yf c) r
   .cases d
  .rw [γ n]at c;rw[γ o]at d;show h.inj i j a c d
 .rcases ś p with p|rfl;.show h.new a p
  .show t
 .rcases ś m with m|e;.show h.out m
  .show s e.symm
noncomputable def dO(es:ϊ Int)(n:Nat):ϸ:=(List.range n).map λr:Nat=>if(r:Int)∈es then !(0,1)else none
def qO(ls:ϵ)(xs:ϊ Nat)(wss:ϲ)(last:ϸ):Nat->ϊ (ϸ)
 |0=>[last]|i+1=>(wss.map λws=>jk (lF xs (↑xs-1-i) ls) (List.replicate (↑xs-i) []++qO ls xs wss last i) (↑xs-1-i) ws)::qO ls xs wss last i
theorem uP(c:ϵ)(d:ϊ Nat)(b:ϲ)(a:ϸ):∀i,↑(qO c d b a i)=i+1
 |0=>Z|i+1=>by change↑(_::qO c d b a i)=_;rw[í,uP]
theorem uQ{b:ϲ}(c:↑a=↑b):∀i,∀r∈qO ls xs b a i,↑r=↑b
 |0,r,h=>by rw[Zs.mp h];show c|i+1,r,h=>by
  rcases Å.mp h with rfl|h
  .rw [Qb]
  .show uQ c i r h
theorem uR{wss:ϲ}{last:ϸ}(i j:Nat):∀d,(qO ls xs wss last (i+d)).getD (d+j) []=(qO ls xs wss last i).getD j []
 |0=>by rw[Nat.add_zero,ī]|d+1=>by rw[Nat.add_right_comm d 1 j];change(_::qO ls xs wss last (i+d)).getD (d+j+1) []=_;rw[List.getD_cons_succ,uR i j d]
theorem W5(n i j:Nat)(h:i<=n):(qO ls xs wss last n).getD (n-i+j) []=(qO ls xs wss last i).getD j []:=by have:=uR (ls:=ls) (xs:=xs) (wss:=wss) (last:=last) i j<|n-i;rwa[Nat.add_sub_cancel' h]at this
theorem zU{b:ϊ<|ϸ}{x:Nat}{c:ϳ}(h:∀w∈c,thr gs rows x w=thr gs b x w):jk gs rows x c=jk gs b x c:=by
 unfold jk
 suffices ∀a,c.foldl (λa w=>mgT a<|thr gs rows x w) a=c.foldl (λa w=>mgT a<|thr gs b x w) a from this none;induction c with
 |nil=>intro a;rfl|cons w r ih=>intro a;rw[ŷ,ŷ,h w Ì];show ih (λy d=>h y<|Ê _ d) _
theorem Za{b:ϵ}{x:Nat}(q:x<↑a)(p:∀d∈wss,∀w∈d,0<↑w.2.1):(qO b a wss last ↑a).getD x []=wss.map λd=>jk (lF a x b) (qO b a wss last ↑a) x d:=by
 let#[i,j]:=Nat.exists_eq_add_of_lt q;have e:↑a=i+1+x:=by rw[j,ņ,ń]
 have n:↑a-1-i=x:=by rw[j,Ų,Ų]
 have k:↑a-i=x+1:=by rw[e,ņ,ο,ń]
 have h:=uR (ls:=b) (xs:=a) (wss:=wss) (last:=last) (i+1) 0 x;rw[<-e,Nat.add_zero]at h;rw[h];change(_::_).getD 0 []=_;rw[List.getD_cons_zero,n];show Č λd r=>zU λw m=>?_;have o:=p d r w m;unfold thr;cases jN (lF a x b) w.1 with
 |none=>rfl
 |some g=>
  dsimp only;have:(List.replicate (↑a-i) []++qO b a wss last i).getD (x+↑w.2.1) []=(qO b a wss last ↑a).getD (x+↑w.2.1) []:=by let#[c,l]:=Nat.exists_eq_add_of_lt o;have f:=uR (ls:=b) (xs:=a) (wss:=wss) (last:=last) i c<|x+1;rw[show i+(x+1)=↑a by rw[e,ņ,ń x 1]]at f;rw[k,l,ī,show x+(c+1)=x+1+c by rw[ņ,ń c 1],f,Xs,Ě<|by rw[ð];show œ _ _,ð,ο,<-Xs]
  rw[this]
noncomputable def dT:Ϲ->PyData
 |none=>.none|some t=>.tuple [.int (t.1:Nat),.int (t.2:Nat)]
def Fj(ls:ϵ)(xs:ϊ Nat)(ds:L2S)(es:ϊ Int):ϊ (ϸ):=qO ls xs (ds.map<|aJ ls) (dO es ↑ds) ↑xs
structure IsP(ls:ϵ)(xs:ϊ Nat)(ds:L2S)(es:ϊ Int)(rows:ϊ (ϸ)):Prop where
 len:↑rows=↑xs+1
 row:∀r∈rows,↑r=↑ds
 at_:∀x,x<↑xs->rows.getD x []=(ds.map<|aJ ls).map λws=>jk (lF xs x ls) rows x ws
 last:rows.getD ↑xs []=dO es ↑ds
theorem zV{h:Nat}{b:ϊ Nat}{c:ϊ Int}(k:Fo.Wf h a):IsP a b ds c (qO a b (ds.map<|aJ a) (dO c ↑ds) ↑b):=by
 have e:↑(dO c ↑ds)=↑(ds.map<|aJ a):=by unfold dO;rw[Qb,ê,Qb]
 show#[uP ..,λr i=>by rw[uQ e _ r i,Qb],λx g=>Za g λo j w m=>?_,W5 (ls:=a) (xs:=b) (wss:=ds.map<|aJ a) (last:=dO c ↑ds) ↑b 0 0<|ä _];let#[n,_,rfl]:=Zp.mp j;unfold aJ at m;let#[p,_,f]:=é.mp m;let#[l,d,rfl]:=Î.mp f;have:=k.c1 _<|Fo.d9 d;dsimp only at this⊢;rfl'
def zW(gs:ϊ<|ϐ×Nat)(rows:ϊ<|ϸ)(x far:Nat)(w:ϴ):ϑ:=decide ((thr gs rows x w).map (·.1)=!far)
theorem QH{b:Type}{p:b->ϑ}{l:ϊ b}{w:b}(c:l[i]?=!w)(a:∀y∈l.take i,p y=false)(e:p w=true):l.find? p=!w:=by have d:i<↑l:=(À.mp c).1;have f:l[i]=w:=(À.mp c).2;rw[<-ĕ i l,List.find?_append,ł.mpr<|λy g=>by rw[a y g];decide,Option.none_or,Ŝ d,f,List.find?_cons_of_pos e]
def qY(ls:ϵ)(xs:ϊ Nat)(wss:ϲ)(rows:ϊ<|ϸ):Nat->Nat->Nat->ϳ
 |0,_,_=>[]|n+1,x,room=>if x<↑xs then match(rows.getD x []).getD room none with
   |none=>[]|some t=>match(wss.getD room []).find? (zW (lF xs x ls) rows x t.1)with
    |none=>[]|some w=>w::qY ls xs wss rows n (x+↑w.2.1) w.2.2.toNat else[]
theorem Cj{b:ϵ}{x:Nat}(h:¬x<↑a):∀n,qY b a wss rows n x room=[]
 |0=>Z|n+1=>by unfold qY;rw[γ h]
theorem xU{b:ϵ}{x:Nat}(h:x<↑a)(c:(rows.getD x []).getD room none=!t)(d:(wss.getD room []).find? (zW (lF a x b) rows x t.1)=!w):qY b a wss rows (n+1) x room=w::qY b a wss rows n (x+↑w.2.1) w.2.2.toNat:=by rw[qY,β h,c];dsimp only;rw[d]
theorem Jm{b:ϊ<|ϊ<|ύ<|Nat×Nat}{x:Nat}{c:ϊ<|ϐ×ϊ Nat×Int}(h:jk d b x c=!t):∃w∈c,(thr d b x w).map (·.1)=!t.1:=by
 have e:∀(c:ϊ<|ϐ×ϊ Nat×Int)(a:ύ<|Nat×Nat),c.foldl (λa w=>mgT a<|thr d b x w) a=!t->a.map (·.1)=!t.1 \/∃w∈c,(thr d b x w).map (·.1)=!t.1:= λc=>by induction c with|nil=>intro a h;left;rw[show a=!t from h];rfl|cons w r ih=>
   intro a h;rw[ŷ]at h;rcases ih _ h with h1|⟨y,my,hy⟩;.cases ha:a with|none=>rw[ha]at h1;show Or.inr #[w,Ì,h1]|some u=>cases hb:thr d b x w with
     |none=>rw[ha,hb]at h1;show Or.inl h1|some v=>
      rw[ha,hb]at h1;by_cases f:u.1=v.1;.rw [show mgT (!u) (!v)=!(u.1,u.2+v.2)from β f]at h1;show Or.inl h1
      .rw [show mgT (!u) (!v)=if u.1<v.1 then !u else !v from γ f]at h1;by_cases g:u.1<v.1;.rw [β g]at h1;show Or.inl h1
       .rw [γ g]at h1;show Or.inr #[w,Ì,by rw[hb];show h1]
   .show Or.inr #[y,Ê _ my,hy]
 rcases e c none h with h1|h1;.cases h1
 .show h1
theorem IsP.step{h:Nat}{a:ϵ}{c:ϊ Nat}{E:ϊ Int}(P:IsP a c ds E rows)(z:Fo.Wf h a)(j:∀ps∈ds,∀q∈ps,0<=q.2/\q.2<↑ds){x:Nat}{t:Ϻ}(F:x<↑c)(v:room<↑ds)(l:(rows.getD x []).getD room none=!t):∃(w:ϴ)(g:Nat)(u:Ϻ),((ds.map<|aJ a).getD room []).find? (zW (lF c x a) rows x t.1)=!w/\w∈aJ a (ds.getD room [])/\Fo.lk a w.1=!w.2.1/\jN (lF c x a) w.1=!g/\(rows.getD (x+↑w.2.1) []).getD w.2.2.toNat none=!u/\g+u.1=t.1/\x+↑w.2.1<=↑c/\1<=↑w.2.1/\0<=w.2.2/\w.2.2<↑ds:=by
 have k:=dB z.up;have e:ds[room]?=!ds[room]:=Zl v;have C:ds.getD room []=ds[room]:=by rw[Xs,e];rfl
 have B:(ds.map<|aJ a).getD room []=aJ a ds[room]:=by rw[Xs,Á,e];rfl
 rw[P.at_ x F,Xs,Á,Á,e]at l;change jk (lF c x a) rows x (aJ a ds[room])=!t at l;let#[G,o,n]:=Jm l;rw[B,C];let#[w,m]:∃w,(aJ a ds[room]).find? (zW (lF c x a) rows x t.1)=!w:=by cases hf:(aJ a ds[room]).find? (zW (lF c x a) rows x t.1)with
  |some w=>show#[w,Z]|none=>have:=ł.mp hf G o;show μ (by unfold zW;show Ô n) this
 have y:=Ģ m;have b:=ź m;unfold zW at b;replace b:=ô b;let#[p,f,D]:=é.mp<|show w∈ds[room].filterMap _ from y;let#[A,d,rfl]:=Î.mp D;have s:=j _ (Ø v) p f;have r:=(z.c1 _<|Fo.d9 d).1;unfold thr at b;dsimp only at b r;cases hg:jN (lF c x a) p.1 with|none=>rw[hg]at b;cases b|some g=>
  rw[hg]at b;dsimp only at b
  cases hu:(rows.getD (x+↑A) []).getD p.2.toNat none with
  |none=>rw[hu]at b;cases b|some u=>rw[hu]at b;have i:=zT k d hg;show#[_,g,u,m,y,d,hg,hu,by have:=Ý b;dsimp only at this;show this,i,r,s.1,s.2]
theorem IsP.inP{h:Nat}{b:ϵ}(P:IsP b l ds o rows)(v:Fo.Wf h b)(d:∀ps∈ds,∀q∈ps,0<=q.2/\q.2<↑ds)(x:Nat):∀k∈ds.map<|aJ b,∀w∈k,InP (lF l x b) rows x w:=λk i w t g p=>by
 let#[ps,f,rfl]:=Zp.mp i;let#[u,s,n]:=é.mp<|show w∈ps.filterMap _ from t;let#[m,c,rfl]:=Î.mp n;have a:=zT (dB v.up) c p;have j:=d ps f u s;have r:=P.len;dsimp only at a⊢;have e:x+↑m<↑rows:=by show Õ a<|RV r
 show#[e,j.1,?_];rw[Xs,Zl e,Option.getD_some,P.row _<|Ø e];show HX j
def Zb(ls:ϵ)(xs:ϊ Nat)(ds:L2S)(es:ϊ Int):ύ (ϊ (ϴ)×Nat×Nat):=(((Fj ls xs ds es).getD 0 []).getD 0 none).map λt=>(qY ls xs (ds.map<|aJ ls) (Fj ls xs ds es) ↑xs 0 0,t.1,t.2)
def NrP(H:Hp)(v:V):ύ (ϊ (ϴ)×Nat×Nat)->Prop
 |none=>v=.non|some t=>∃a,v=↥a/\H a=!(.tup [.str (Txt.join (Str.ofString "") (t.1.map (·.1))),.int (t.2.1:Nat),.int (t.2.2:Nat)])
theorem zX:∀q:ϳ,(∀y∈q,↑y.2.1<=8)->↑(bU q)<=8*↑q
 |[],_=>Ã _|y::q,hy=>by
  change↑(y.2.1++bU q)<=_;have:=zX q λz a=>hy z<|Ê _ a;have:=hy y Ì;rw[É,í];rfl'
theorem tO(a b c:Ϲ):mgT (mgT a b) c=mgT a (mgT b c):=by cases a with|none=>rfl|some a=>cases b with
  |none=>rfl|some b=>cases c with
   |none=>show qu _|some c=>
    let#[m,o]:=a;let#[l,p]:=b;let#[n,q]:=c;have i:∀{d e f g:Nat},d<f->mgT (!(d,e)) (!(f,g))=!(d,e):=λ{d e f g} k=>by
     change(if d=f then !(d,e+g)else if d<f then !(d,e)else !(f,g))=_;rw[γ<|Þ k,β k]
    have gt:∀{d e f g:Nat},f<d->mgT (!(d,e)) (!(f,g))=!(f,g):=λ{d e f g} k=>by change(if d=f then !(d,e+g)else if d<f then !(d,e)else !(f,g))=_;rw[γ<|ė k,γ ()]
    have j:∀{d e g:Nat},mgT (!(d,e)) (!(d,g))=!(d,e+g):=λ{d e g}=>β Z;rcases Δ m l with h|h|h<;>rcases Δ l n with h'|h'|h';.rw [i h,i<|Λ h h',i h',i h]
    .subst h';rw[i h,j,i h,i h]
    .rw [i h,gt h']
    .subst h;rw[j,i h',i h',j]
    .subst h;subst h';rw[j,j,j,j,ņ]
    .subst h;rw[j,gt h',gt h',gt h']
    .rw [gt h,i h',gt h]
    .subst h';rw[gt h,j,gt h]
    .rw [gt h,gt h',gt<|Λ h' h]
def uT(gs:ϊ Nat):Ϲ:=gs.foldl (λacc g=>mgT acc !(g,1)) none
theorem xV(b:ϊ Nat):∀a,b.foldl (λa g=>mgT a !(g,1)) a=mgT a (uT b):=by induction b with
 |nil=>intro a;show(qu a).symm|cons g r ih=>intro a;rw[ŷ,ih];change _=mgT a (r.foldl _<|mgT none !(g,1));rw[ih,tO];rfl
def qw(g:Nat)(a:ϊ Nat):uT (g::a)=mgT (!(g,1)) (uT a):=xV a _
theorem QJ(a b:ϊ Nat):uT (a++b)=mgT (uT a) (uT b):=by unfold uT;rw[List.foldl_append,xV];rfl
theorem Jo(g:Nat)(a b:Ϲ):mgT (a.map λt=>(g+t.1,t.2)) (b.map λt=>(g+t.1,t.2))=(mgT a b).map λt=>(g+t.1,t.2):=by cases a with
 |none=>rfl|some a=>cases b with
  |none=>rfl|some b=>
   change(if g+a.1=g+b.1 then !(g+a.1,a.2+b.2)else if g+a.1<g+b.1 then !(g+a.1,a.2)else !(g+b.1,b.2))=(if a.1=b.1 then !(a.1,a.2+b.2)else if a.1<b.1 then !a else !b).map λt=>(g+t.1,t.2);by_cases c:a.1=b.1;.rw [β<|Ö (HAdd.hAdd _) c,β c];rfl
   .rw [γ (),γ c];by_cases d:a.1<b.1;.rw [β (),β d];rfl
    .rw [γ (),γ d];rfl
theorem tQ(g:Nat):∀gs:ϊ Nat,uT (gs.map (g+ ·))=(uT gs).map λt=>(g+t.1,t.2)
 |[]=>Z|x::r=>by rw[Ç,qw,qw,tQ g r,<-Jo];rfl
theorem xW:∀gs:ϊ Nat,(uT gs=none/\gs=[])\/∃t,uT gs=!t/\t.1∈gs/\(∀g∈gs,t.1<=g)/\t.2=gs.countP λg=>decide<|g=t.1
 |[]=>Or.inl #[Z,Z]|x::r=>by
  right;rw[qw];rcases xW r with⟨h1,h2⟩|⟨t,h1,h2,h3,h4⟩;.rw [h1,h2];show#[(x,1),Z,by simp,by simp,by simp]
  .rw [h1];change∃u,(if x=t.1 then !(x,1+t.2)else if x<t.1 then !(x,1)else !t)=!u/\_;by_cases a:x=t.1
   .rw [β a];show#[_,Z,by simp,λg mg=>?_,?_]
    .rcases Å.mp mg with rfl|mg;.show Ã _
     .have:=h3 g mg;dsimp only;show jq a this
    .dsimp only;rw[List.countP_cons_of_pos<|by simp,a,h4];rfl'
   .rw [γ a];by_cases b:x<t.1
    .rw [β b];show#[_,Z,by simp,λg mg=>?_,?_]
     .rcases Å.mp mg with rfl|mg;.show Ã _
      .have:=h3 g mg;dsimp only;show Í (â b) this
     .dsimp only;rw[List.countP_cons_of_pos<|by simp,List.countP_eq_zero.mpr λg mg=>by have:=h3 g mg;simp;rfl']
    .rw [γ b];show#[t,Z,Ê _ h2,λg mg=>?_,?_]
     .rcases Å.mp mg with rfl|mg;.show HY b
      .show h3 g mg
     .rw [List.countP_cons_of_neg<|by simpa using a];show h4
theorem Jp{x:Nat}:∀{b:ϳ},(∀w∈b,thr gs rows x w=uT (F w))->jk gs rows x b=uT (b.flatMap F):=λ{b} h=>by
 have c:∀(b:ϳ) a,(∀w∈b,thr gs rows x w=uT (F w))->b.foldl (λa w=>mgT a (thr gs rows x w)) a=mgT a (uT (b.flatMap F)):=λb=>by induction b with
  |nil=>intro a _;show(qu a).symm|cons w r ih=>intro a h;rw[ŷ,ih _ λy d=>h y (Ê _ d),h w Ì,List.flatMap_cons,QJ,tO]
 show c b none h
section
variable{h:Nat}
theorem IsP.best(P:IsP ls xs ds es rows)(o:Fo.Wf h ls)(i:∀ps∈ds,∀q∈ps,0<=q.2/\q.2<↑ds):∀(n x room:Nat),x<=↑xs->↑xs-x<=n->room<↑ds->(rows.getD x []).getD room none=uT ((PT (ds.map<|aJ ls) es n (↑xs-x) room).map λp=>Mm.bh (bU p)<|xs.drop x):=by
 have b:∀(n x room:Nat),x=↑xs->room<↑ds->(rows.getD x []).getD room none=uT ((PT (ds.map<|aJ ls) es n (↑xs-x) room).map λp=>Mm.bh (bU p)<|xs.drop x):=λn x room f a=>by
  subst f;rw[Nat.sub_self,P.last];have e:PT (ds.map<|aJ ls) es n 0 room=if(room:Int)∈es then[[]]else[]:=by cases n<;>rfl
  rw[e];unfold dO;rw[Xs,Á,Ũ a];change(if(room:Int)∈es then !(0,1)else none)=_;by_cases c:(room:Int)∈es;.rw [β c,β c];simp[bU,Mm.bh,uT,mgT]
  .rw [γ c,γ c];rfl
 intro n;induction n with
 |zero=>intro x room f l a;show b 0 x room (qkQ l f) a|succ n ih=>
  intro x room f l a;by_cases j:x<↑xs
  .obtain ⟨k,s⟩:∃k,↑xs-x=k+1:=#[↑xs-x-1,()];rw[s];change _=uT ((((ds.map<|aJ ls).getD room []).flatMap λw=>if↑w.2.1<=k+1 then(PT (ds.map<|aJ ls) es n (k+1-↑w.2.1) w.2.2.toNat).map (w::·)else[]).map _);rw[List.map_flatMap,P.at_ x j,Xs,Á,Á,Zl a,uO a];change jk (lF xs x ls) rows x (aJ ls ds[room])=_;show Jp λw u=>?_;let#[lk,t]:=mD u;have r:=o.c1 _ (Fo.d9 lk);have m:=i _ (Ø a) _ t;dsimp only at r m;unfold thr;rw[uN<|dB o.up,lk];change(match(if x+↑w.2.1<=↑xs then !(Mm.bh w.2.1<|(xs.drop x).take ↑w.2.1)else none)with|none=>none|some g=>_)=_;by_cases d:x+↑w.2.1<=↑xs
   .rw [β d,β ()];dsimp only;rw[ih (x+↑w.2.1) w.2.2.toNat d ()<|HX m,<-tQ,Ä,Ä,show↑xs-(x+↑w.2.1)=k+1-↑w.2.1 by rfl'];congr 1;show Č ?_;intro p _;change Mm.bh w.2.1 _+Mm.bh (bU p) _=Mm.bh (w.2.1++bU p) (xs.drop x)
    conv=>rhs;rw[<-ĕ ↑w.2.1<|xs.drop x]
    rw[Mm.fU<|by rw[Ñ,ù];rfl',List.drop_drop]
   .rw [γ d,γ ()];rfl
  .show b (n+1) x room (qnE f j) a
end
def Gw(ls:ϵ)(ds:L2S):Nat->ϳ->Nat->Prop
 |r,[],r'=>r=r'|r,w::p,r'=>r<↑ds/\Hs.dr (ds.getD r []) w.1=!w.2.2/\Fo.lk ls w.1=!w.2.1/\0<=w.2.2/\Gw ls ds w.2.2.toNat p r'
theorem Gw.le8{h:Nat}(b:Fo.Wf h a):∀{p:ϳ}{r r':Nat},Gw a ds r p r'->∀y∈p,↑y.2.1<=8
 |[],_,_,_,y,my=>by cases my|w::p,_,_,h,y,my=>by
  rcases Å.mp my with rfl|my
  .show (b.c1 _<|Fo.d9 h.2.2.1).2
  .show Gw.le8 b h.2.2.2.2 y my
theorem Gw.lk:∀{p:ϳ}{r r':Nat},Gw a ds r p r'->∀w∈p,Fo.lk a w.1=!w.2.1
 |[],_,_,_,y,my=>by cases my|w::p,_,_,h,y,my=>by
  rcases Å.mp my with rfl|my;.show h.2.2.1
  .show Gw.lk h.2.2.2.2 y my
theorem iW{r:Int}:∀{ps:L1S},(ps.map (·.1)).Nodup->(s,r)∈ps->Hs.dr ps s=!r
 |[],_,h=>by cases h|p::ps,hnd,h=>by
  rw[Ç,ï]at hnd;rw[Hs.uL];rcases Å.mp h with h|h;.rw [<-h,β Z]
  .rw [γ<|λe=>hnd.1<|by rw[e];show Zp.mpr #[_,h,Z],iW hnd.2 h]
theorem IsP.path{h:Nat}{b:ϵ}(P:IsP b a ds f rows)(C:Fo.Wf h b)(r:∀ps∈ds,∀q∈ps,0<=q.2/\q.2<↑ds)(s:∀ps∈ds,(ps.map (·.1)).Nodup):∀(n x room:Nat)(t:Ϻ),x<=↑a->room<↑ds->↑a-x<=n->(rows.getD x []).getD room none=!t->∃R:Nat,Gw b ds room (qY b a (ds.map<|aJ b) rows n x room) R/\(R:Int)∈f/\↑(bU<|qY b a (ds.map<|aJ b) rows n x room)=↑a-x/\Mm.bh (bU<|qY b a (ds.map<|aJ b) rows n x room) (a.drop x)=t.1:=λn=>by
 have fin:∀(n x room:Nat)(t:Ϻ),x=↑a->room<↑ds->(rows.getD x []).getD room none=!t->∃R:Nat,Gw b ds room (qY b a (ds.map<|aJ b) rows n x room) R/\(R:Int)∈f/\↑(bU<|qY b a (ds.map<|aJ b) rows n x room)=↑a-x/\Mm.bh (bU<|qY b a (ds.map<|aJ b) rows n x room) (a.drop x)=t.1:=λn x room t i e d=>by
  subst i;rw[Cj<|Ď _];rw[P.last]at d;unfold dO at d;rw[Xs,Á,Ũ e]at d;change(if(room:Int)∈f then !(0,1)else none)=!t at d;by_cases c:(room:Int)∈f;.rw [β c]at d;cases d;show#[room,Z,c,by simp[bU],by simp[bU,Mm.bh]]
  .rw [γ c]at d;cases d
 induction n with
 |zero=>intro x room t i e z d;show fin 0 x room t (qkQ z i) e d|succ n ih=>
  intro x room t i e z d;by_cases k:x<↑a
  .obtain ⟨w,g,u,L,N,A,j,O,Q,B,U,S,M⟩:=P.step C r k e d;let#[R,H,I,J,K]:=ih (x+↑w.2.1) w.2.2.toNat u B () () O;rw[xU k d L];have o:ds[room]?=!ds[room]:=Zl e;have E:ds.getD room []=ds[room]:=by rw[Xs,o];rfl
   let#[p,v,F]:=é.mp<|show w∈(ds.getD room []).filterMap _ from N;let#[T,D,y]:=Î.mp F;have l:p.1=w.1:=Ö (·.1) y;have m:p.2=w.2.2:=Ö (·.2.2) y;have G:g=Mm.bh w.2.1 ((a.drop x).take ↑w.2.1):=by rw[uN<|dB C.up,A]at j;change(if x+↑w.2.1<=↑a then !(Mm.bh w.2.1<|(a.drop x).take ↑w.2.1)else none)=!g at j;rw[β B]at j;show(Ý j).symm
   show#[R,#[e,?_,A,S,H],I,?_,?_];.show iW (s _<|by rw[E];show Ø e) ?_;rw[<-l,<-m];show v
   .show ↑(w.2.1++bU _)=_;rw[É,J];rfl'
   .show Mm.bh (w.2.1++bU _) _=_;rw[<-ĕ ↑w.2.1<|a.drop x,Mm.fU<|by rw[Ñ,ù];rfl',List.drop_drop,K,<-G];show Q
  .show fin (n+1) x room t (qnE i k) e d
noncomputable def oK(p:ϳ):ϊ Nat:=(p.map λw=>w.1.cps.toList).flatten
section
variable{h:Nat}
theorem Ez(u:∀r∈wss,r.Pairwise (λa b=>pU a.1 b.1) /\∀w∈r, ∃c,w.1=tx [c]):∀n k room,(PT wss es n k room).Pairwise λp q=>oK p < oK q:=by
 have zero:∀n room,(PT wss es n 0 room).Pairwise λp q=>oK p<oK q:=λn room=>by
  have e:PT wss es n 0 room=if(room:Int)∈es then[[]]else[]:=by cases n<;>rfl
  rw[e];split<;>simp
 intro n;induction n with
 |zero=>intro k room;cases k with
  |zero=>show zero 0 room|succ k=>show List.Pairwise.nil
 |succ n ih=>
  intro k room;cases k with
  |zero=>show zero _ room|succ k=>
   change List.Pairwise _<|(wss.getD room []).flatMap _;rw[List.pairwise_flatMap];rcases Jh (wss:=wss) room with e|m;.rw [e];simp
   .obtain ⟨t,h⟩:=u _ m;show#[λw A=>?_,t.imp_of_mem λ{a b} v z f x l y o=>?_]
    .split;.rw [ę];show(ih _ _).imp λ{p q} j=>?_;let#[c,g]:=h w A;change w.1.cps.toList++oK p<w.1.cps.toList++oK q;rw[g];change c::oK p<c::oK q;show List.cons_lt_cons_iff.mpr<|Or.inr #[Z,j]
     .show List.Pairwise.nil
    .obtain ⟨c,g⟩:=h a v;let#[d,s]:=h b z;split at l
     .split at o
      .obtain ⟨p,_,rfl⟩:=Zp.mp l;let#[q,_,rfl]:=Zp.mp o;change a.1.cps.toList++oK p<b.1.cps.toList++oK q;rw[g,s]at f⊢;have i:c<d:=by
        have:[c]<[d]:=f;rcases List.cons_lt_cons_iff.mp this with h3|⟨_,h3⟩;.show h3
        .show μ h3<|ŭ []
       change c::oK p<d::oK q;show List.cons_lt_cons_iff.mpr<|Or.inl i
      .cases o
     .cases l
theorem QK(d:(e.map (·.1)).Pairwise pU):(aJ ls e).Pairwise λa b=>pU a.1 b.1:=by
 unfold aJ;rw[List.pairwise_filterMap];rw[ę]at d;show d.imp λ{a b} c x f y g=>?_;let#[_,_,rfl]:=Î.mp f;let#[_,_,rfl]:=Î.mp g;show c
theorem W6(k:Fo.Wf h ls)(i:∀ps∈ds,(ps.map (·.1)).Pairwise pU):∀f∈ds.map<|aJ ls,f.Pairwise (λa b=>pU a.1 b.1)/\∀w∈f,∃c,w.1=tx [c]:=λf e=>by let#[ps,d,rfl]:=Zp.mp e;show#[QK<|i ps d,λw j=>?_];let#[n,g]:=k.sg _<|Fo.d9 (mD j).1;show#[_,g]
theorem Jq(q:Fo.Wf h ls){R:Nat}(m:(R:Int)∈es):∀(p:ϳ)(n room:Nat),Gw ls ds room p R->↑(bU p)<=n->p∈PT (ds.map<|aJ ls) es n ↑(bU p) room:=λp=>by induction p with
 |nil=>
  intro n room a _;cases(show room=R from a);have e:PT (ds.map<|aJ ls) es n ↑(bU []) R=if(R:Int)∈es then[[]]else[]:=by cases n<;>rfl
  rw[e,β m];simp|cons w p ih=>
  intro n room a o;let#[d,j,f,r,l]:=a;have c:=(q.c1 _<|Fo.d9 f).1;dsimp only at c;have i:↑(bU (w::p))=↑w.2.1+↑(bU p):=by change↑(w.2.1++bU p)=_;rw[É]
  rw[i]at o⊢;let#[b,rfl]:∃b,n=b+1:=#[n-1,()];let#[k,g]:∃k,↑w.2.1+↑(bU p)=k+1:=#[↑w.2.1+↑(bU p)-1,Eq.symm<|qp1<|qsT c _];rw[g];change w::p∈((ds.map<|aJ ls).getD room []).flatMap _;rw[uO d];show ÿ.mpr #[w,é.mpr #[(w.1,w.2.2),?_,by dsimp only;rw[f];rfl],?_];.have:=Hs.ql j;rw[Xs,Zl d]at this;show this
  .rw [β ()];show Zp.mpr #[p,?_,Z];rw[show k+1-↑w.2.1=↑(bU p)by rfl'];show ih b _ l ()
theorem xX(h:∀ps∈ds,(ps.map (·.1)).Nodup)(g:∀ps∈ds,∀q∈ps,0<=q.2/\q.2<↑ds):∀(n k room:Nat),∀p∈PT (ds.map<|aJ ls) es n k room,∃R:Nat,Gw ls ds room p R/\(R:Int)∈es/\↑(bU p)=k:=by
 have zero:∀n room,∀p∈PT (ds.map<|aJ ls) es n 0 room,∃R:Nat,Gw ls ds room p R/\(R:Int)∈es/\↑(bU p)=0:=λn room p a=>by
  have e:PT (ds.map<|aJ ls) es n 0 room=if(room:Int)∈es then[[]]else[]:=by cases n<;>rfl
  rw[e]at a;split at a;.rename_i c;rw[Zs.mp a];show#[room,Z,c,Z]
  .cases a
 intro n;induction n with
 |zero=>intro k room p a;cases k with
  |zero=>show zero 0 room p a|succ k=>cases a
 |succ n ih=>intro k room p a;cases k with
  |zero=>show zero _ room p a|succ k=>
   let#[w,f,a]:=ÿ.mp<|show p∈((ds.map<|aJ ls).getD room []).flatMap _ from a;by_cases b:room<↑ds
   .rw [uO b]at f;let#[lk,d]:=mD f;split at a
    .rename_i m;let#[j,i,rfl]:=Zp.mp a;let#[R,o,r,s]:=ih _ _ j i;have t:=g _ (Ø b) _ d;have l:ds.getD room []=ds[room]:=by rw[Xs,Zl b];rfl
     show#[R,#[b,by rw[l];show iW (h _<|Ø b) d,lk,t.1,o],r,by change↑(w.2.1++bU j)=_;rw[É,s];rfl']
    .cases a
   .rw [Xs,Ā<|by rw[Qb];show HY b]at f;cases f
end
inductive eK(K:Ϗ)(vs:ϊ V)(H:Hp)(Q:VK)(E:XK):Prop|mk (f e p:ό) (h:Nat) (b:ϵ) (a:L2S) (d:ϊ Int) (c:ϊ Nat) (i:vs=[.ref f,.ref e,.ref p]) (j:FnF K H f h b) (k:Fo.Wf h b) (l:HsG K H e a d) (m:↑a<=40) (n:(∀ps∈a,↑ps<=1000/\∀q∈ps,0<=q.2/\q.2<↑a)) (o:SqL K H p (nv c)) (r:↑c<=1000) (s:∀pp H' g,Same H H'->H pp=none->PpN H H' pp (qO b c (a.map (aJ b)) (dO d ↑a) ↑c) g->Q (.ref pp) H')
abbrev Jr K:=(aA (cH (RC<|kW (aM su (eF K bT)<|tI 1) (Aw iK<|tI 1)<|Aw iK<|tI 1) (ak 5) (aA (aL (bB (fE K)<|kW aU bT gB)<|ak 6)
  (aL (kJ [none,!6,!4,!5] (cC K cG) (ak 0) dJ<|bB (fk K)<|NQ aU bc bT cG)<|Fy dF gB rK)))
  (aW dF))
abbrev Js K:=(aA (aL (kJ [none] (fO<|cA<|aM b7 (eF K bT)<|tI 1) (ak 0) dJ<|gf gJ)<|ak 4)
  (aA (aL (kJ [none,!1] (fO<|cA<|eF K cG) (ak 0) dJ<|XC (aN<|aM (Ol K false) aU<|tX K bc 1) (dj<|bF (tI 0)<|tI 1)<|tC V.non)<|Fy dF (eF K bT) rK)
  (Jr K)))
abbrev Jt K(E:XK)(Eh:XK):=(aA (aL (bB (fy K)<|bF aU bc)<|ak 3)
  (Js K))
abbrev qx:ϊ ϐ:=sN ["font","house","strip","ways","paper","x","gaps"]
theorem W7(h:eK K vs H Q E):RG (Jt K E) qx vs H Q:=by
 let#[f,ha,p,h,n,s,B,d,rfl,hF,wf,hH,L,ay,hP,be,q]:=h;show#[E0,?_];have bq:=dB wf.up;apply#[f,ha,h,n,s,B,Z,hF,wf,hH,cU L,λps m=>(ay ps m).1,λwa H1 s1 b2 hW=>?_];apply dw (s1.seq hP) ?_;rw[Qb];symm;rw[show(↑d:Int)+1=((↑d+1:Nat):Int)by show Z];show Vo (↑d+1) (Ó _) (cU (Ć be)) (yo (_+1)) (λi x hi A kA=>?_) λC H2 D s2 a9 aw ax a8 ab a7=>?_;.symm;intro p' ae;show kA p' ae
 symm;let#[rs,w1,w2,w3]:=id hW;have ag:↑rs=↑s:=by have:=Ö List.length w1;rw[Qb,Qb]at this;show this
 let#[hd,he,b1,a1,a2,a3,a4,a5]:=id hH;have S2:=s1.trans s2;show dw (gI (s2.get w2)) ?_;rw[Qb,ag];show Er ↑s (Ó _) (cU L) (yo _) (λi l x=>(An3 (Same H2 x) (↑l=i) (∀(j:Nat) v,l[j]?=!v->ThP x v (if(j:Int)∈B then !(0,1)else none)))) #[gN _,Z,by simp] ?_ ?_ ?_;.rintro i l x ⟨_,X,_⟩;show đ X
 .rintro i l x hi ⟨P,X,hy⟩;have S':=S2.trans P;have bi:∀v H4,Same x H4->ThP H4 v (if(i:Int)∈B then !(0,1)else none)->(An3 (Same H2 H4) (↑(l++[v])=i+1) (∀(j:Nat) u,(l++[v])[j]?=!u->ThP H4 u (if(j:Int)∈B then !(0,1)else none))):=λv H4 s4 Y=>⟨P.trans s4,by simp[X],λj u z=>by
   by_cases N:j<↑l;.rw [ĸ N]at z;show(hy j u z).same s4
   .rw [Ě (HY N)]at z;have e0:j-↑l=0:=by have:=(À.mp z).1;simp at this;show this
    rw[e0]at z;cases z;rw[show j=i by rfl'];show Y⟩;apply cZ (S'.get a1) ?_;apply Es (.inr (gL (S'.get a5))) Z (iV _) ?_;rw[jX];apply cM (λc=>?_) λc=>?_;.symm;intro t O;show bi _ _ (ao O _) (by rw[β c];show#[t,Z,aj])
  .symm;show bi _ _ (gN _) (by rw[γ c];rfl)
 rintro l H3 ⟨s3,bg,hy⟩ b W;symm;have S3:=(S2.trans s3).new W (o:=HO.lst l);show dw (S3.seq hP) ?_;rw[Qb];have ai:=s3.new W (o:=HO.lst l);have T:H2 b=none:=s3.free W;have ap:PpN H (upd H3 b (HO.lst l)) C (List.replicate (↑d+1) []) D:=by
  show#[by rw[aw,ð],ai.get a7,λi a ts ha br=>?_,λi j a hi z=>?_,λa ma=>s1.free (ab a ma).1,a8];.have:ts=[]:=List.eq_of_mem_replicate (Yf br);subst this;show#[[],ai.get (ab a (Yf ha)).2,Z,by simp]
  .show (List.getElem?_inj (À.mp hi).1 ax).mp (hi.trans z.symm)
 have I:b∉D:=λm=>by rw[(ab b m).2]at T;cases T
 have J:b≠C:=nj a7 T;have G:RwP (upd H3 b (HO.lst l)) b (dO B ↑s):=by
  show#[l,aj,by unfold dO;rw[Qb,ê,bg],λi v t Y O=>?_];unfold dO at O;have bo:i<↑s:=by have:=(À.mp Y).1;show qgT this bg
  rw[Á,Ũ bo]at O;cases O;show(hy i v Y).same (ao W _)
 have U:=ap.put (k:=↑d) G (S2.free T) I J;show qi ↑d ap.at_ Z (by rw[Qb,aw];show RV Z) ?_;have er:(List.replicate (↑d+1) ([]:ϸ)).set ↑d (dO B ↑s)=List.replicate (↑d-0) []++qO n d (s.map (aJ n)) (dO B ↑s) 0:=by rw[List.replicate_succ',List.set_append,γ (by rw[ð];show Ď _),ð,Nat.sub_self,Ν];rfl
 rw[er]at U;have bb:H C=none:=s1.free a9;have ac:∀p'∈[C],H1 p'=none:=λp' ae=>by rw[Zs.mp ae];show a9
 have ah:Sb [C] H1 (upd (upd H3 b (HO.lst l)) C (.lst ((D.map V.ref).set ↑d ↥b))):=(Sb.of (s2.trans ai)).set (by simp);generalize upd (upd H3 b (HO.lst l)) C (.lst ((D.map V.ref).set ↑d ↥b))=H4 at U ah;generalize D.set ↑d b=as1 at U;have ad:↑(dO B ↑s)=↑(s.map (aJ n)):=by unfold dO;rw[Qb,ê,Qb]
 apply dw ((s1.trans (ah.off ac)).seq hP) ?_;rw[Qb];apply Vt ↑d () (by decide) (by decide) () () (λi σ x=>(Ex1 λD=>(An4 (i<=↑d) (Sb [C] H1 x) (PpN H x C (List.replicate (↑d-i) []++qO n d (s.map (aJ n)) (dO B ↑s) i) D) (Ex2 λo1 o2=>σ=[!↥f,!↥ha,!↥p,!↥wa,!↥C,o1,o2])))) ?_ ?_ ?_;.show #[as1,ä _,ah,U,none,none,Z]
 .rintro i σ x hi ⟨D,_,sb,R,o1,o2,rfl⟩;have S:=sb.off ac;have SH:=s1.trans S;rw[show(↑d:Int)-1-(i:Int)=((↑d-1-i:Nat):Int)by rfl'];have bd:↑d-1-i+1=↑d-i:=by show qkP hi
  have a6:=uP n d (s.map (aJ n)) (dO B ↑s) i;have M:=uQ (ls:=n) (xs:=d) ad i;generalize hfe:qO n d (s.map (aJ n)) (dO B ↑s) i=fi at R a6 M;apply#[f,p,h,↑d-1-i,n,d,Z,hF.t.same SH,wf,SH.seq hP,be,(),λga H5 s5 b0 eg=>?_];symm;have am:∀r∈rs,∀w∈r.2,InP (lF d (↑d-1-i) n) (List.replicate (↑d-i) []++fi) (↑d-1-i) w:=λr mr w mw g hg=>by
   have bv:r.2∈s.map (aJ n):=by rw[<-w1];show Zp.mpr #[r,mr,Z]
   let#[ps,bs,bl]:=Zp.mp bv;rw[<-bl]at mw;let#[q',mq,eq]:=é.mp mw;let#[co,al,rfl]:=Î.mp eq;have bx:=zT bq al hg;have bn:=(wf.c1 _ (Fo.d9 al)).1;have hq:=(ay ps bs).2 q' mq;dsimp only at bn⊢;show#[by rw[É,ð,a6];rfl',hq.1,?_];rw[Xs,Ě (by rw[ð];rfl'),ð,Zl (),Option.getD_some,M _ (Ø _),Qb];show HX hq
  have zz:=S.trans s5;show uI (λr:ό×ϊ (ϴ)=>↥r.1) (zs:=rs) (gI (zz.get w2)) (cU (jq ag L)) (λk l x=>(An3 (Same H5 x) (↑l=k) (∀(j:Nat) v r,l[j]?=!v->rs[j]?=!r->ThP x v (jk (lF d (↑d-1-i) n) (List.replicate (↑d-i) []++fi) (↑d-1-i) r.2)))) #[gN _,Z,by simp] ?_ ?_ ?_ ?_;.rintro k l x ⟨P,_⟩;show gI ((zz.trans P).get w2)
  .rintro k l x ⟨_,X,_⟩;show đ X
  .rintro k r l H6 hk ⟨P,X,hy⟩;have mr:=Yf hk;apply#[r.1,ga,C,↑d-1-i,r.2,_,_,Z,(w3 r mr).same (zz.trans P),P.get eg,R.t.same (s5.trans P),am r mr,λv H7 s7 Y=>?_];apply#[P.trans s7,by simp[X],λj u r' z af=>?_];by_cases N:j<↑l;.rw [ĸ N]at z;show(hy j u r' z af).same s7
   .rw [Ě (HY N)]at z;have e0:j-↑l=0:=by have:=(À.mp z).1;simp at this;show this
    rw[e0]at z;cases z;rw[show j=k by rfl',hk]at af;cases af;show Y
  .rintro l H6 ⟨P,X,hy⟩ b W;have s6:=s5.trans P;have F:x b=none:=s6.free W;have ar:=(R.same s6).same (ao W (HO.lst l));have I:b∉D:=λm=>by
    let#[j,z,ej]:=ň.mp m;have bp:j<↑(List.replicate (↑d-i) []++fi):=by rw[<-R.len];show z
    let#[vs,e1,_]:=R.row j b _ (by rw[Zl z,ej]) (Zl bp);rw[e1]at F;cases F
   have J:b≠C:=λe=>by rw[e,R.at_]at F;cases F
   have G:RwP (upd H6 b (HO.lst l)) b ((s.map (aJ n)).map λws=>jk (lF d (↑d-1-i) n) (List.replicate (↑d-i) []++fi) (↑d-1-i) ws):=by
    show#[l,aj,by rw[X,Qb,Qb,ag],λj v t Y O=>?_];rw[Á,<-w1,Á]at O;cases hrj:rs[j]?with
    |none=>rw[hrj]at O;cases O|some r=>
     rw[hrj]at O;cases O;show(hy j v r Y hrj).same (ao W _)
   have av:=ar.put (k:=↑d-1-i) G (SH.free F) I J;apply qi (↑d-1-i) ar.at_ Z (by rw[Qb,R.len,É,ð];rfl') ?_;apply#[D.set (↑d-1-i) b,hi,(sb.same (s6.trans (ao W _))).set (by simp),?_,_,_,Z];have bm:(List.replicate (↑d-i) ([]:ϸ)++fi).set (↑d-1-i) ((s.map (aJ n)).map λws=>jk (lF d (↑d-1-i) n) (List.replicate (↑d-i) []++fi) (↑d-1-i) ws)=List.replicate (↑d-(i+1)) []++qO n d (s.map (aJ n)) (dO B ↑s) (i+1):=by
    change _=_++(_::qO n d (s.map (aJ n)) (dO B ↑s) i);rw[hfe,List.set_append,β (by rw[ð];show RV (bd.symm))];have e9:List.replicate (↑d-i) ([]:ϸ)=List.replicate (↑d-1-i) []++[[]]:=by rw[<-bd,List.replicate_succ']
    have bk:∀y:ϸ,(List.replicate (↑d-i) ([]:ϸ)).set (↑d-1-i) y=List.replicate (↑d-1-i) []++[y]:=λy=>by rw[e9,List.set_append,γ (by rw[ð];show Ď (_-1-_)),ð,Nat.sub_self];rfl
    rw[bk,ø,show↑d-(i+1)=↑d-1-i by rfl'];rfl
   rw[bm]at av;show av
 .rintro σ x ⟨D,_,sb,R,o1,o2,rfl⟩;rw[Nat.sub_self]at R;apply q C x D (s1.trans (sb.off ac)) bb R
inductive e8(K:Ϗ)(vs:ϊ V)(H:Hp)(Q:VK)(E:XK):Prop|mk (f e g:ό) (x b:Nat) (d:ϳ) (c:ϊ (ϐ×Nat)) (a:ϊ (ϸ)) (i:vs=[.ref f,.ref e,.ref g,.int x,.int b]) (j:LdT H f d) (k:H e=!(.dK (Je c))) (l:PpT H g a) (m:(∀w∈d,InP c a x w)) (n:(∃w,d.find? (zW c a x b)=!w)) (o:∀h w H',Same H H'->d.find? (zW c a x b)=!w->WyT H' (h,w)->Q (.ref h) H')
abbrev Ju K(E:XK)(Eh:XK):=(aA (cH (cC K aU) (ak 5) (aA (aL (bB (gx K)<|NQ gB bc bT cG)<|ak 6)
  (bD (kh (aN<|aM lB ie<|tC V.non)<|aN<|aM ou (tX K ie 0) dF) (aW gB) aR)))
  (aW<|tC V.non))
abbrev Jv:ϊ ϐ:=sN ["leads","gaps","paper","x","far","way","thing"]
theorem W8(h:e8 K vs H Q E):RG (Ju K E) Jv vs H Q:=by
 let#[X,I,O,x,g,s,l,a,rfl,#[F,k,G,M],T,U,A,#[Y,m],q]:=h;show#[E0,?_];have B:↑F=↑s:=by rw[<-k,Qb]
 apply gn (λz:Wz=>↥z.1) (zs:=F) (gI G) (λi v o=>(An3 (Same H o) (∀w∈s.take i,zW l a x g w=false)<|Ex2 λC D=>v=[!↥X,!↥I,!↥O,!(.int (x:Nat)),!(.int (g:Nat)),C,D])) #[gN _,by simp,none,none,Z] ?_ ?_ ?_;.rintro i v o ⟨f,_⟩;show gI<|f.get G
 .rintro i ⟨P,w⟩ v o L ⟨f,c,C,D,rfl⟩;have N:=Yf L;have j:s[i]?=!w:=by rw[<-k,Á,L];rfl
  have n:zW l a x g w=false->∀y∈s.take<|i+1,zW l a x g y=false:=λW y my=>by
   rw[Ð,j]at my;rcases Æ.mp my with my|my;.show c y my
   .rw [Zs.mp my];show W
  apply#[P,I,O,x,w,l,a,Z,(M _ N).same f,f.get T,U.same f,A w<|Yf j,λu R r p=>?_];symm;cases ht:thr l a x w with
  |none=>rw[ht]at p;cases p;show iu Z ?_;apply#[f.trans r,n<|by unfold zW;rw[ht];rfl,_,_,Z]|some t=>
   rw[ht]at p;let#[b,rfl,S]:=p;show m6 (λ_=>?_) λd=>nomatch d;apply dN S ?_;apply cM (λd=>?_) λd=>?_;.symm;show q P w R (f.trans r) (QH j c ?_)<|(M _ N).same<|f.trans r;unfold zW;rw[ht];show Ô<|Ö some<|by dsimp only;show Eo d
   .symm;show#[f.trans r,n ?_,_,_,Z];unfold zW;rw[ht];show Ü λe=>d (by have:=Ý e;dsimp only at this;rfl')
 .rintro v o ⟨f,c,C,D,rfl⟩;rw[æ<|jq (B.symm)<|Ã _]at c;have J:=c Y<|Ģ m;rw[ź m]at J;cases J
inductive dQ(K:Ϗ)(vs:ϊ V)(H:Hp)(Q:VK)(E:XK):Prop|mk (f g p i:ό) (h:Nat) (c:ϵ) (b:L2S) (e:ϊ Int) (d:ϊ Nat) (a:ϊ (ϸ)) (m:vs=[.ref f,.ref g,.ref p,.ref i]) (n:FnF K H f h c) (o:Fo.Wf h c) (r:HsG K H g b e) (s:(1<=↑b/\↑b<=40)) (u:(∀ps∈b,↑ps<=1000)) (v:(∀ps∈b,∀q∈ps,0<=q.2/\q.2<↑b)) (w:SqL K H p (nv d)) (x:↑d<=1000) (y:PpT H i a) (j:IsP c d b e a) (k:(∃t,(a.getD 0 []).getD 0 none=!t)) (l:∀H',Same H H'->Q (.str (Txt.join (Str.ofString "") ((qY c d (b.map (aJ c)) a ↑d 0 0).map (·.1)))) H')
abbrev Jw K:=(aA (aL (bB (e8 K)<|fP (aM (cD K) dF ie)<|NQ (bB (fE K)<|kW aU bT oW) cG oW<|tX K (aM (cD K) (aM (cD K) cG oW) ie) 0)<|ak 8)
  (aA (di<|ue K "list" cY gB<|cA<|tX K xR 0)
  (aA (O5 7 (eF K<|tX K xR 1) Bo)
  (aL (tX K xR 2)<|ak 6))))
abbrev Jx K(E:XK)(Eh:XK):=(aA (aL (bB (fy K)<|bF aU bc)<|ak 4)
  (aA (aL (gf gJ)<|ak 5)
  (aA (aL (tI 0)<|ak 6)
  (aA (aL (tI 0)<|ak 7)
  (aA (fZ (aN<|aM lN oW<|eF K bT)<|Jw K)
  (aW<|ue K "str" (rJoin K) (tC<|V.str<|Str.ofString "")<|cA gB))))))
abbrev Jy:ϊ ϐ:=sN ["font","house","strip","paper","ways","signs","room","x","way"]
theorem W9(h:dQ K vs H Q E):RG (Jx K E) Jy vs H Q:=by
 let#[f,ha,p,pp,h,G,J,es,F,A,rfl,hF,wf,hH,#[Y,zz],ap,ab,hP,a1,ad,P,#[t0,ay],q]:=h;show#[E0,?_];apply#[f,ha,h,G,J,es,Z,hF,wf,hH,cU zz,ap,λwa H1 s1 a5 hW=>?_];let#[rs,w1,w2,w3]:=id hW;have ax:↑rs=↑J:=by have:=Ö List.length w1;rw[Qb,Qb]at this;show this
 symm;intro O ae;symm;have ar:∀p'∈[O],H1 p'=none:=λp' av=>by rw[Zs.mp av];show ae
 show oU (λσ H'=>(Ex5 λ(B:ϳ) (x d n:Nat) (t:Ϻ)=>(An10 (Sb [O] H1 H') (H' O=!(.lst<|B.map λw=>V.str w.1)) (x<=↑F) (d<↑J) (↑F-x<=n) (B++qY G F (J.map<|aJ G) A n x d=qY G F (J.map<|aJ G) A ↑F 0 0) ((A.getD x []).getD d none=!t) (↑B<=x) (∀w∈B,↑w.1=1)<|Ex1 λo=>σ=[!↥f,!↥ha,!↥p,!↥pp,!↥wa,!↥O,!(.int (d:Nat)),!(.int (x:Nat)),o]))) (λσ _=>match σ with|[_,_,_,_,_,_,_,!(.int x),_]=>↑F-x.toNat|_=>0) ⟨[],0,0,F.length,t0,Sb.of<|ao ae _,aj,ä _,Y,Ã _,Z,ay,Ã _,by simp,none,Z⟩ ?_ ?_
 .rintro σ H' ⟨B,x,d,n,t,sb,U,hx,m,hn,D,ht,aw,ac,o,rfl⟩;have S:=sb.off ar;have SH:=s1.trans S;apply dw (SH.seq hP) ?_;rw[Qb];apply cM (λc=>?_) λc=>?_
  .have cx:x<↑F:=by show Fi c
   let#[w,g,u,k1,k2,k3,k4,k5,k6,k7,k8,k9,a2]:=P.step wf ab cx m ht;let#[I,L]:∃I,rs[d]?=!I:=#[_,Zl<|qN m ax];have ah:(J.map<|aJ G)[d]?=!I.2:=by rw[<-w1,Á,L];rfl
   have W:(J.map<|aJ G).getD d []=I.2:=by rw[Xs,ah];rfl
   rw[W]at k1;apply oJ (S.get w2) L ?_;apply#[f,p,h,x,G,F,Z,(hF.same SH).t,wf,SH.seq hP,a1,hx,λga H5 s5 a4 eg=>?_];have S5:=S.trans s5;have T:=s1.trans S5;let#[as,am,ep,hr]:=ad.same T;have ai:x<↑A:=by rw[P.len];show qsT (Fi c) _
   let#[a,X]:∃a,as[x]?=!a:=#[_,Zl<|qN ai am];let#[R,N]:∃R,A[x]?=!R:=#[_,Zl ai];let#[vs,e1,e2,e3]:=hr x a R X N;have M:=P.row R<|Yf N;let#[v,hv]:∃v,vs[d]?=!v:=#[_,Zl<|qN m<|Eq.trans e2 M];have af:R[d]?=!(!t):=by rw[show A.getD x []=R by rw[Xs,N];rfl,Xs,Zl<|qN m M]at ht;rw[Zl<|qN m M];show Ö some ht
   let#[b,rfl,eb]:=e3 d v _ hv af;apply dM (gI ep) (aO (j:=x) (v:=↥a)<|by rw[Á,X];rfl) ?_;apply dM (gI e1) (aO (j:=d) (v:=↥b) hv) ?_;apply dN eb ?_;apply#[I.1,ga,pp,x,t.1,I.2,_,A,Z,(w3 I<|Yf L).same S5,eg,ad.same T,P.inP wf ab x I.2<|Yf ah,#[w,k1],λya w' H6 s6 ag hy=>?_];rw[k1]at ag;cases ag;let#[ca,y1,y2]:=hy;dsimp only at y1 y2;have C:=(s5.trans s6).get U;apply fB (gI C) ?_;apply dN y1 ?_;apply gY C (by rw[Qb];rfl') ?_;have al:upd H6 O (HO.lst<|(B.map λw=>V.str w.1)++[V.str w.1]) ya=!(.tup [.str w.1,↥ca,.int w.2.2]):=by rw[aq<|gH y1 C];show y1
   have a3:upd H6 O (HO.lst<|(B.map λw=>V.str w.1)++[V.str w.1]) ca=!(.tup<|nv w.2.1):=by rw[aq<|gH y2 C];show y2
   apply cZ al ?_;apply cu (gL a3) ?_;rw[Qb];apply m9 al ?_;symm;let#[n',rfl]:∃n',n=n'+1:=#[n-1,()];rw[xU cx ht<|by rw[W];show k1]at D;show#[#[B++[w],x+↑w.2.1,w.2.2.toNat,n',u,(sb.same<|s5.trans s6).set<|by simp,by rw[aj,Â];rfl,k7,qtC a2 Y,(),by rw[ø];show D,k5,by rw[É,ã];show Nat.add_le_add aw k8,λy my=>?_,!↥ya,?_],?_]
   .rcases Æ.mp my with my|my;.show ac y my
    .rw [Zs.mp my];let#[c,ec]:=wf.sg _<|Fo.d9 k3;dsimp only at ec;rw[ec,bY];rfl
   .rw [show((w.2.2.toNat:Nat):Int)=w.2.2 by show uG k9,show((x+↑w.2.1:Nat):Int)=(x:Int)+(↑w.2.1:Int)from Z];rfl
   .show ↑F-((x:Int)+(↑w.2.1:Int)).toNat<↑F-((x:Int)).toNat;rfl'
  .rw [Cj (),û]at D;rw[<-D]at q;apply Vm (ys:=B.map (·.1)) (gI<|by rw[U,Ä];rfl) ?_ ?_
   .have e0:↑(Str.ofString "")=0:=Z;rw[e0,Nat.mul_zero,Nat.add_zero,Ä];have:∀l:ϳ,(∀w∈l,↑w.1=1)->(l.map ((λs:ϐ=>↑s)∘λw:ϐ×ϊ Nat×Int=>w.1)).sum=↑l:=λl=>by induction l with
     |nil=>intro _;rfl|cons y r ih=>intro hl;rw[Ç,ğ,ih λz mz=>hl z<|Ê _ mz];change↑y.1+_=_;rw[hl y Ì,í];show ń 1 _
    rw[this B ac];rfl'
   .show q _ SH
 .rintro σ H Q Q' hq ⟨v,hv,w,hw,x,n,e,hl,i,j,e1,e2,k,e3,z⟩;show#[v,hv,w,hw,x,n,e,hl,i,j,e1,e2,k,e3,hq _ _ z]
inductive fq(K:Ϗ)(vs:ϊ V)(H:Hp)(Q:VK)(E:XK):Prop|mk (f e p:ό) (h:Nat) (b:ϵ) (a:L2S) (d:ϊ Int) (c:ϊ Nat) (g:vs=[.ref f,.ref e,.ref p]) (i:FnF K H f h b) (j:Fo.Wf h b) (k:HsG K H e a d) (l:(1<=↑a/\↑a<=40)) (m:(∀ps∈a,↑ps<=1000)) (n:(∀ps∈a,∀q∈ps,0<=q.2/\q.2<↑a)) (o:SqL K H p (nv c)) (r:↑c<=1000) (s:∀v H',Same H H'->NrP H' v (Zb b c a d)->Q v H')
abbrev Jz K(E:XK)(Eh:XK):=(aA (aL (bB (eK K)<|kW aU bc bT)<|ak 3)
  (aA (aL (aM (cD K) (aM (cD K) cG<|tI 0)<|tI 0)<|ak 4)
  (aA (bD (aN<|aM iJ dF<|tC V.non) (aW<|tC V.non) aR)
  (aW<|dj<|kW (bB (dQ K)<|NQ aU bc bT cG) (tX K dF 0)<|tX K dF 1))))
abbrev JB:ϊ ϐ:=sN ["font","house","strip","paper","thing"]
theorem Wa(h:fq K vs H Q E):RG (Jz K E) JB vs H Q:=by
 let#[f,R,p,h,c,e,g,d,rfl,L,G,M,#[k,i],o,r,N,u,q]:=h;show#[E0,?_];apply#[f,R,p,h,c,e,g,d,Z,L,G,M,i,λW w=>#[o W w,r W w],N,u,λU I X x ac A=>?_];have P:IsP c d e g (Fj c d e g):=zV G;have D:Zb c d e g=(((Fj c d e g).getD 0 []).getD 0 none).map λt=>(qY c d (e.map<|aJ c) (Fj c d e g) ↑d 0 0,t.1,t.2):=Z;change PpN H I U (Fj c d e g) X at A;generalize Fj c d e g=rows at P A D;let#[B,ab,ep,hr]:=A.t;have ad:=P.len;let#[a,n]:∃a,B[0]?=!a:=#[_,Zl ()];let#[m,l]:∃m,rows[0]?=!m:=#[_,Zl ()];let#[vs,Y,zz,e3]:=hr 0 a m n l;have s:=P.row m<|Yf l;let#[v,T]:∃v,vs[0]?=!v:=#[_,Zl<|qN k<|Eq.trans zz s];let#[t,S]:∃t,m[0]?=!t:=#[_,Zl<|qN k s];have O:=e3 0 v t T S;have C:(rows.getD 0 []).getD 0 none=t:=by rw[show rows.getD 0 []=m by rw[Xs,l];rfl,Xs,S];rfl
 apply dM (gI ep) (aO (j:=0) (v:=↥a)<|by rw[Á,n];rfl) ?_;apply dM (gI Y) (aO (j:=0) (v:=v) T) ?_;symm;cases t with
 |none=>cases O;show m7 Z ?_;apply q .non I x ?_;rw[D,C];rfl|some t=>let#[b,rfl,J]:=O;show gW (by intro z;cases z) ?_;apply#[f,R,p,U,h,c,e,g,d,rows,Z,L.same x,G,M.same x,#[k,i],o,r,x.seq N,u,A.t,P,#[t,C],λH2 F=>?_];apply dN (F.get J) ?_;apply cZ (F.get J) ?_;symm;intro y hy;show q _ _ ((x.trans F).new hy) ?_;rw[D,C];show#[y,Z,aj]
inductive cS(K:Ϗ)(vs:ϊ V)(H:Hp)(Q:VK)(E:XK):Prop|mk (b:Nat) (p:ό) (a:ϊ Nat) (c:vs=[.int b,.ref p]) (d:SqL K H p (nv a)) (e:1<=↑a) (f:↑a<=8) (g:(∀x∈a,x<2^b)) (h:∀t H',Same H H'->H t=none->H' t=!(.tup (nv a))->Q (.ref t) H')
abbrev JC K(E:XK)(Eh:XK):=(aA (bD (lg<|aN<|il lO lO (tI 1) (eF K bc)<|tI 8) dH aR)
  (aA (cH (cC K bc) (ak 2)<|bD (lg<|lA K<|bB (fb K)<|bF aU bT) dH aR)
  (aW<|gw (iI K)<|cA bc)))
abbrev JD:ϊ ϐ:=sN ["height","columns","column"]
theorem Wb(h:cS K vs H Q E):RG (JC K E) JD vs H Q:=by
 let#[b,p,f,rfl,g,k,n,l,q]:=h;show#[E0,?_];symm;rw[Qb,Ô (by show Yt k:(1:Int)<=(↑f:Int)),Ô (by rfl':(↑f:Int)<=8),Bool.and_self];apply gn (λi:Nat=>V.int (i:Int)) (zs:=f) g (λi d j=>(An2 (H=j) (Ex1 λo=>d=[!(.int (b:Nat)),!↥p,o]))) #[Z,none,Z] ?_ ?_ ?_;.rintro i d _ ⟨rfl,_⟩;show g
 .rintro i c d _ m ⟨rfl,o,rfl⟩;apply#[b,_,Z,trivial,?_];have e:isc b (.int (c:Int))=true:=by have:=l c (Yf m);change(decide ((0:Int)<=(c:Int))&&decide ((c:Int)<2^b))=true;rw[Ô (BZ _),Ô (by rw[<-Bx.lM];show qdT this)];rfl
  rw[e];apply#[Z,_,Z]
 .rintro d _ ⟨rfl,o,rfl⟩;apply oV g λt a=>q t _ (ao a _) a aj
inductive eP(K:Ϗ)(vs:ϊ V)(H:Hp)(Q:VK)(E:XK):Prop|mk (a:Nat) (p:ό) (b:ϊ Lz) (c:vs=[.int a,.ref p]) (d:1<=a) (e:a<=60) (g:PrL H p b) (h:Fo.GoodL a b) (i:∀f H' ls,Same H H'->FnF K H' f a ls->Fo.Of b ls->Q (.ref f) H')
abbrev JF K:=(aA (cH (cC K bc) (gr K 2<|bf (ak 3)<|bf (ak 4) gF) (aA (bD (lg<|lA K<|bB (fx K)<|cA cG) dH aR)
  (aA (bD (tB<|Dv cG bT) dH aR)
  (iH bT cG<|bB (cS K)<|bF aU dF))))
  (aW<|dj<|bF aU<|gw (Bw K)<|cA<|uv bT))
abbrev JG K(E:XK)(Eh:XK):=(aA (bD (lg<|lA K<|bB (eR K)<|cA aU) dH aR)
  (aA (bD (lg<|aN<|il lO lO (tI 1) (eF K bc)<|tI 40) dH aR)
  (aA (aL jE<|ak 2)
  (JF K))))
abbrev JH:ϊ ϐ:=sN ["height","letters","made","sign","columns"]
theorem Wc(h:eP K vs H Q E):RG (JG K E) JH vs H Q:=by
 let#[P,p,c,rfl,h1,af,T,M,q]:=h;show#[E0,?_];have hl:=M.le;have ae:=M.pos;have ag:SqL K H p (c.map λz:Lz=>↥z.1):=gI T.1;apply#[_,Z,trivial,?_];have e:hgt (.int (P:Int))=true:=by change(decide ((1:Int)<=(P:Int))&&decide ((P:Int)<=60))=true;rw[Ô (Yt h1),Ô ()];rfl
 rw[e];symm;rw[Qb,Ô (by show Yt ae:(1:Int)<=(↑c:Int)),Ô (by rfl':(↑c:Int)<=40),Bool.and_self];symm;intro m hm;symm;have o:∀p'∈[m],H p'=none:=λp' ad=>by rw[Zs.mp ad];show hm
 show gn (λz:Lz=>↥z.1) (zs:=c) (ji hm (gI T.1)) (λi W I=>(Ex1 λ(a:ϊ Kz)=>(An5 (Sb [m] H I) (I m=!(.dK (dcK a))) (a.map (λk:Kz=>(k.1,k.2.2))=(c.take i).map (λz:Lz=>(z.2.1,z.2.2.2))) (∀k∈a,I k.2.1=!(.tup (nv k.2.2))) (Ex2 λo1 o2=>W=[!(.int (P:Nat)),!↥p,!↥m,o1,o2])))) #[[],Sb.of (ao hm _),aj,Z,by simp,none,none,Z] ?_ ?_ ?_;.rintro i W I ⟨a,G,_⟩;show gI (G.at o T.1)
 .rintro i ⟨b,s,ca,Y⟩ W I hi ⟨a,G,L,C,U,o1,o2,rfl⟩;have ah:i<↑c:=(À.mp hi).1;have v:=Yf hi;let#[tz,tc]:=T.2 _ v;have sg:=M.sg _ v;have X:=M.c1 _ v;have cb:=M.cb _ v;dsimp only at tz tc sg X cb;have et:c.take (i+1)=c.take i++[(b,s,ca,Y)]:=by rw[Ð,hi];rfl
  have N:↑a<=i:=by have:=Ö List.length C;rw[Qb,Qb,Ñ]at this;show XR this
  have O:(Sum.inr s:Key)∉a.map (λk:Kz=>(Sum.inr k.1:Key)):=by
   intro z;let#[y,my,ey]:=Zp.mp z;have J:y.1=s:=Ĥ ey;have m1:(y.1,y.2.2)∈(c.take i).map (λz:Lz=>(z.2.1,z.2.2.2)):=by rw[<-C];show Zp.mpr #[y,my,Z]
   let#[x,mx,ex]:=Zp.mp m1;have B:((c.take (i+1)).map λz:Lz=>z.2.1).Nodup:=Ē ((Ę _ _).map _) M.nd;rw[et,Â,å]at B;show B.2.2 _ (Zp.mpr #[x,mx,Z]) s (by simp) ?_;have:=Ö (·.1) ex;dsimp only at this;rw[this,J]
  have hv:bu (dcK a) (Sum.inr s)=none:=fV (f:=λk:Kz=>(Sum.inr k.1:Key)) (g:=λk:Kz=>↥k.2.1) O;show cN (gL (G.at o tz)) Z ?_;apply#[_,Z,by let#[k,rfl]:=sg;change↑(tx [Hs.yp k])<=100000;rw[bY];simp,?_];rw[J0 sg];apply#[m,_,Z,DGet.k (k:=Sum.inr s) L,?_];rw[hv];symm;change if false=true then _ else _;apply#[P,ca,Y,Z,gI (G.at o tc),X.1,X.2,cb,λt H2 A ai J=>?_];apply#[m,_,Z,DPut.k (k:=Sum.inr s) (A.get L) (Õ (by unfold dcK;rw[Qb];rfl':_<=64) (by decide)),?_];rw[cT _ hv];apply#[a++[(s,t,Y)],(G.same A).set (by simp),by rw[aj];unfold dcK;rw[Â];rfl,by rw[Â,C,et,Â];rfl,λk mk=>?_,_,_,Z];rcases Æ.mp mk with mk|mk;.rw [aq (gH (A.get (U k mk)) (A.get L))];show A.get (U k mk)
  .rw [Zs.mp mk];rw[aq (gH J (A.get L))];show J
 .rintro W I ⟨a,G,L,C,U,o1,o2,rfl⟩;rw[à]at C;have N:↑a=↑c:=by have:=Ö List.length C;rw[Qb,Qb]at this;show this
  have S:=G.off o;apply#[m,a.map λk:Kz=>(k.1,↥k.2.1),Z,by rw[Ä];show L,by rw[Qb];show Qn (jq N hl),λr d H2 hp hs hr A J hw=>?_];apply Vp (gI J) λl ob ac F=>?_;symm;intro f zz;let#[n,pk,D]:=nY hp;have R:↑d=↑n:=by have:=Ö List.length D;rw[Qb,Qb]at this;show this
  have hz:∀(j:Nat) w k,d[j]?=!w->n[j]?=!k->w.2=(k.1,↥k.2.1):=λj w k hj ab=>by have:=Ö (λl=>l[j]?) D;simp only[Á,hj,ab,ŝ]at this;show Ý this
  have e4:((d.zip n).map λq=>(q.1.1,q.2.1,q.2.2.1,q.2.2.2):ϊ Lz).map (λz:Lz=>↥z.1)=d.map λz=>↥z.1:=by rw[Ä,show((λz:Lz=>↥z.1)∘λq:(ό×ϐ×V)×Kz=>(q.1.1,q.2.1,q.2.2.1,q.2.2.2))=(λw:ό×ϐ×V=>↥w.1)∘Prod.fst from Z,<-Ä,List.map_fst_zip (đ R)]
  have e5:((d.zip n).map λq=>(q.1.1,q.2.1,q.2.2.1,q.2.2.2):ϊ Lz).map (λz:Lz=>(z.2.1,z.2.2.2))=n.map λk:Kz=>(k.1,k.2.2):=by rw[Ä,show((λz:Lz=>(z.2.1,z.2.2.2))∘λq:(ό×ϐ×V)×Kz=>(q.1.1,q.2.1,q.2.2.1,q.2.2.2))=(λk:Kz=>(k.1,k.2.2))∘Prod.snd from Z,<-Ä,List.map_snd_zip (jq (R.symm) (Ã _))]
  show q f _ (n.map λk:Kz=>(k.1,k.2.2)) (((S.trans A).new F).new zz) #[l,ob,(d.zip n).map λq=>(q.1.1,q.2.1,q.2.2.1,q.2.2.2),aj,e5,ac,by rw[e4];walk_at "hp",λz mz=>?_] #[?_,?_]
  .obtain ⟨y,my,rfl⟩:=Zp.mp mz;let#[j,hj,ej]:=ň.mp my;have u:j<↑d/\j<↑n:=by rw[List.length_zip]at hj;rfl'
   rw[List.getElem_zip]at ej;have e6:=hz j d[j] n[j] (Zl u.1) (Zl u.2);subst ej;have w1:=hw _ (Ø u.1);rw[e6]at w1;have k1:=U _ (pk.mem_iff.mp (Ø u.2));show#[aF zz (aF F w1),aF zz (aF F (A.get k1))]
  .rw [<-C];show pk.map _
  .rw [Ä,show((λp:ϐ×ϊ Nat=>p.1)∘λk:Kz=>(k.1,k.2.2))=λk:Kz=>k.1 from Z];have:d.map (·.2.1)=n.map λk:Kz=>k.1:=by rw[show d.map (·.2.1)=(d.map (·.2)).map (·.1)by rw[Ä];rfl,D,Ä];rfl
   rw[<-this];show hs
inductive bP(K:Ϗ)(vs:ϊ V)(H:Hp)(Q:VK)(E:XK):Prop|mk (n:Nat) (a:vs=[.int n]) (b:1<=n) (c:n<=40) (d:Q .non H)
abbrev JK(K:Ϗ)(E:XK)(Eh:XK):=(bD (lg<|aN<|il lO lO (tI 1) aU<|tI 40) dH aR)
abbrev JL:ϊ ϐ:=sN ["rooms"]
theorem Wd(h:bP K vs H Q E):RG (JK K E) JL vs H Q:=by let#[n,rfl,a,b,q]:=h;show#[E0,?_];symm;rw[Ô (by show Yt a:(1:Int)<=n),Ô (by rfl':(n:Int)<=40)];apply q
inductive eA(K:Ϗ)(vs:ϊ V)(H:Hp)(Q:VK)(E:XK):Prop|mk (r:Int) (n:Nat) (a:vs=[.int r,.int n]) (b:0<=r) (c:r<n) (d:Q .non H)
abbrev JM K(E:XK)(Eh:XK):=(bD (lg<|kh (lA K<|bB (fm K)<|cA aU)<|aN<|il lO lN (tI 0) aU bc) dH aR)
abbrev JN:ϊ ϐ:=sN ["room","rooms"]
theorem We(h:eA K vs H Q E):RG (JM K E) JN vs H Q:=by
 let#[r,n,rfl,a,b,q]:=h;show#[E0,?_];apply#[_,Z,trivial,?_];symm;change if true=true then _ else _;symm;rw[Ô a,Ô b];apply q
inductive eC(K:Ϗ)(vs:ϊ V)(H:Hp)(Q:VK)(E:XK):Prop|mk (a:ό) (b:ϊ Dz) (n:Nat) (c:vs=[.ref a,.int n]) (d:SqL K H a (b.map λz:Dz=>V.ref z.1)) (e:(∀z∈b,SqT K H z.1 [.str z.2.1,.int z.2.2]/\Hs.Sg z.2.1/\0<=z.2.2/\z.2.2<n)) (f:(b.map (·.2.1)).Nodup) (g:↑b<64) (h:∀r H' ps,Same H H'->DrT K H' r ps->ps.Perm (b.map (·.2))->(ps.map (·.1)).Pairwise pU->Q (.ref r) H')
abbrev JP K:=(aA (cH (cC K aU) (gr K 2<|bf (ak 3)<|bf (ak 4) gF) (aA (bD (lg<|lA K<|bB (fx K)<|cA cG) dH aR)
  (aA (bD (tB<|Dv cG bT) dH aR)
  (aA (di<|bB (eA K)<|bF dF bc)
  (iH bT cG dF)))))
  (aW<|gw (iI K)<|cA<|uv bT))
abbrev JQ K(E:XK)(Eh:XK):=(aA (aL jE<|ak 2)
  (JP K))
abbrev JR:ϊ ϐ:=sN ["pairs","rooms","made","sign","room"]
theorem Wg(h:eC K vs H Q E):RG (JQ K E) JR vs H Q:=by
 let#[a,c,n,rfl,N,hz,F,v,q]:=h;show#[E0,?_];symm;intro m D;symm;have e:∀R∈[m],H R=none:=λR j=>by rw[Zs.mp j];show D
 show gn (λz:Dz=>↥z.1) (zs:=c) (ji D N) (λi A o=>(An3 (Sb [m] H o) (o m=!(.dK ((c.take i).map λz:Dz=>((Sum.inr z.2.1:Key),V.int z.2.2))))<|Ex2 λG I=>A=[!↥a,!(.int (n:Nat)),!↥m,G,I])) #[Sb.of<|ao D _,aj,none,none,Z] ?_ ?_ ?_;.rintro i A o ⟨l,_⟩;show l.seq e N
 .rintro i ⟨b,s,r⟩ A o C ⟨l,u,G,I,rfl⟩;have zz:i<↑c:=(À.mp C).1;let#[X,J,U,W]:=hz _<|Yf C;dsimp only at X J U W;have M:c.take (i+1)=c.take i++[(b,s,r)]:=by rw[Ð,C];rfl
  have w:(Sum.inr s:Key)∉(c.take i).map λz:Dz=>(Sum.inr z.2.1:Key):=by intro z;let#[y,my,Y]:=Zp.mp z;have B:y.2.1=s:=Ĥ Y;have d:((c.take<|i+1).map (·.2.1)).Nodup:=Ē ((Ę _ _).map _) F;rw[M,Â,å]at d;show d.2.2 _ (Zp.mpr #[y,my,Z]) s (by simp) B
  have P:=fV (f:=λz:Dz=>(Sum.inr z.2.1:Key)) (g:=λz:Dz=>V.int z.2.2) w;show cN ((l.off e).tup X) Z ?_;apply#[_,Z,by let#[k,rfl]:=J;change↑(tx [Hs.yp k])<=100000;rw[bY];simp,?_];rw[J0 J];apply#[m,_,Z,DGet.k (k:=Sum.inr s) u,?_];rw[P];symm;change if false=true then _ else _;apply#[r,n,Z,U,W,?_];apply#[m,_,Z,DPut.k (k:=Sum.inr s) u<|Õ (by rw[Qb,Ñ];show RT (â v):_<=64)<|by decide,?_];rw[cT _ P];apply#[l.set<|by simp,by rw[aj,M,Â];rfl,_,_,Z]
 .rintro A o ⟨l,u,G,I,rfl⟩;rw[à]at u;have S:=l.off e;apply#[m,c.map λz:Dz=>(z.2.1,V.int z.2.2),Z,by rw[Ä];show u,by rw[Qb];show v,λr x H2 hp hs hr s2 B hw=>?_];apply oV (gI B) λt O=>?_;have j:(x.map (·.2)).Perm ((c.map (·.2)).map λp:ϐ×Int=>(p.1,V.int p.2)):=by rw[Ä];show hp
  let#[T,pp,L]:=nY j;show q t _ T ((S.trans s2).new O) (DrT.of aj (λz mz=>aF O<|hw z mz) L) pp ?_;have:(x.map (·.2.1))=T.map (·.1):=by rw[show x.map (·.2.1)=(x.map (·.2)).map (·.1)by rw[Ä];rfl,L,Ä];rfl
  rw[<-this];show hs
inductive eL(K:Ϗ)(vs:ϊ V)(H:Hp)(Q:VK)(E:XK):Prop|mk (a:ό) (b:ϊ Int) (n:Nat) (c:vs=[.ref a,.int n]) (d:SqL K H a (b.map V.int)) (e:(∀x∈b,0<=x/\x<n)) (f:b.Nodup) (g:↑b<64) (h:∀r H' (es:ϊ Int),Same H H'->H' r=!(.tup (es.map V.int))->es.Perm b->es.Pairwise (·<·)->Q (.ref r) H')
abbrev JS K(E:XK)(Eh:XK):=(aA (aL jE<|ak 2)
  (aA (cH (cC K aU) (ak 3) (aA (di<|bB (eA K)<|bF cG bc)
  (aA (bD (tB<|Dv cG bT) dH aR)
  (iH bT cG<|tC<|V.bl true))))
  (aW<|gw (iI K)<|cA<|gw ut<|cA bT)))
abbrev JT:ϊ ϐ:=sN ["ends","rooms","made","end"]
theorem Wh(h:eL K vs H Q E):RG (JS K E) JT vs H Q:=by
 let#[a,c,n,rfl,C,R,w,j,q]:=h;show#[E0,?_];symm;intro m v;symm;have l:∀G∈[m],H G=none:=λG x=>by rw[Zs.mp x];show v
 show gn V.int (zs:=c) (ji v C) (λi s d=>(An3 (Sb [m] H d) (d m=!(.dK ((c.take i).map λz:Int=>((Sum.inl z:Key),V.bl true))))<|Ex1 λA=>s=[!↥a,!(.int (n:Nat)),!↥m,A])) #[Sb.of<|ao v _,aj,none,Z] ?_ ?_ ?_;.rintro i s d ⟨p,_⟩;show p.seq l C
 .rintro i r s d u ⟨p,e,A,rfl⟩;have M:i<↑c:=(À.mp u).1;let#[U,W]:=R _<|Yf u;have B:c.take (i+1)=c.take i++[r]:=by rw[Ð,u];rfl
  have o:(Sum.inl r:Key)∉(c.take i).map λz:Int=>(Sum.inl z:Key):=by intro z;let#[y,T,L]:=Zp.mp z;have I:y=r:=Sum.inl.inj L;have b:(c.take<|i+1).Nodup:=Ē (Ę _ _) w;rw[B,å]at b;show b.2.2 _ T r (by simp) I
  have F:=fV (f:=λz:Int=>(Sum.inl z:Key)) (g:=λ_:Int=>V.bl true) o;apply#[r,n,Z,U,W,?_];apply#[m,_,Z,DGet.k (k:=Sum.inl r) e,?_];rw[F];symm;change if false=true then _ else _;apply#[m,_,Z,DPut.k (k:=Sum.inl r) e<|Õ (by rw[Qb,Ñ];show RT (â j):_<=64)<|by decide,?_];rw[cT _ F];apply#[p.set<|by simp,by rw[aj,B,Â];rfl,_,Z]
 .rintro s d ⟨p,e,A,rfl⟩;rw[à]at e;have S:=p.off l;apply Il (kvs:=c.map λz:Int=>(z,V.bl true)) (by rw[Ä];show e) (by rw[Qb];show j) λr J D O N=>?_;rw[Ä]at D;apply oV (gI aj) λt P=>?_;show q t _ J ((S.new N).new P) aj (by simpa[Function.comp_def]using D) O
def HsO(cs:ϊ Nat)(ds:L2S)(es:ϊ Int):Prop:=1<=↑ds/\↑ds<=23/\(∀ps∈ds,(ps.map (·.1)).Pairwise pU/\∀q∈ps,(∃c∈cs,q.1=tx [c])/\0<=q.2/\q.2<(↑ds:Int))/\es.Pairwise (·<·)/\∀e∈es,0<=e/\e<(↑ds:Int)
inductive ei(K:Ϗ)(vs:ϊ V)(H:Hp)(Q:VK)(E:XK):Prop|mk (d e:ό) (a:ϊ (ό×ϊ Dz)) (b:ϊ Int) (f:ϊ Nat) (h:vs=[.ref d,.ref e]) (i:SqL K H d (a.map λr:ό×ϊ Dz=>V.ref r.1)) (j:(∀row∈a,SqL K H row.1 (row.2.map λz:Dz=>V.ref z.1)/\(∀z∈row.2,SqT K H z.1 [.str z.2.1,.int z.2.2]/\(∃c∈f,z.2.1=tx [c])/\0<=z.2.2/\z.2.2<↑a)/\(row.2.map (·.2.1)).Nodup/\↑row.2<64)) (k:(∀c∈f,Hs.Sg (tx [c]))) (l:SqL K H e (b.map V.int)) (m:(∀x∈b,0<=x/\x<↑a)) (n:b.Nodup) (o:↑b<64) (p:1<=↑a) (q:↑a<=23) (g:∀r H' ds es,Same H H'->HsT K H' r ds es->HsO f ds es->↑ds=↑a->Q (.ref r) H')
abbrev JV K(E:XK)(Eh:XK):=(aA (aL (eF K aU)<|ak 2)
  (aA (di<|bB (bP K)<|cA bT)
  (aW<|dj<|bF (gw (iI K)<|cA<|kJ [none,!2] (cC K aU) (ak 0) dJ<|bB (eC K)<|bF aU bc)<|bB (eL K)<|bF bc bT)))
abbrev zY:ϊ ϐ:=sN ["doors","ends","rooms"]
theorem Wi(h:ei K vs H Q E):RG (JV K E) zY vs H Q:=by
 let#[d,e,a,xs,cs,rfl,L,o,O,hE,T,S,R,A,s,q]:=h;show#[E0,?_];apply dw L ?_;rw[Qb];apply#[↑a,Z,A,cU s,?_];apply uI (λr:ό×ϊ Dz=>↥r.1) (zs:=a) L (cU s) (λk F u=>(Ex1 λ(g:ϊ<|ό×L1S)=>(An4 (F=g.map (λt=>↥t.1)) (↑g=k) (Same H u) (∀(j:Nat) t,g[j]?=!t->DrT K u t.1 t.2/\∀b,a[j]?=!b->t.2.Perm (b.2.map (·.2))/\(t.2.map (·.1)).Pairwise pU)))) #[[],Z,Z,gN _,by simp] ?_ ?_ ?_ ?_;.rintro k F u ⟨g,rfl,_,D,_⟩;show D.seq L
 .rintro k F u ⟨g,rfl,rfl,_⟩;simp
 .rintro k b F u y ⟨g,rfl,n,D,B⟩;let#[J,v,g3,g4]:=o b<|Yf y;apply#[b.1,b.2,↑a,Z,D.seq J,λz m=>#[D.tup (v z m).1,by let#[c,mc,e]:=(v z m).2.1;rw[e];show O c mc,(v z m).2.2],g3,g4,λr H2 U X M N hs=>?_];show#[g++[(r,U)],by simp,by simp[n],D.trans X,λj t f=>?_];rcases Μ j ↑g with w|w;.rw [ĸ w]at f;show#[(B j t f).1.same X,(B j t f).2]
  .rw [Ě w]at f;have e0:j-↑g=0:=by have:=(À.mp f).1;simp at this;show this
   rw[e0]at f;cases f;have I:j=k:=();subst I;show#[M,λW l=>?_];rw[y]at l;cases l;show#[N,hs]
 rintro F H3 ⟨g,rfl,n,Y,B⟩ p N;apply oV (gI aj) λtd P=>?_;apply#[e,xs,↑a,Z,ji P<|ji N<|Y.seq hE,T,S,R,λte H5 es zz e5 pe se=>?_];symm;intro h G;have sx:Same H3 H5:=Same.trans (by walk_at "sm") zz;show q h _ (g.map (·.2)) es (Y.trans<|sx.new G) #[td,te,g,aj,Z,aF G<|zz.get aj,λt m=>?_,aF G e5] #[by rw[Qb,n];show A,by rw[Qb,n];show s,λU C=>?_,se,λi mi=>by rw[Qb,n];show T i<|pe.mem_iff.mp mi] (by rw[Qb,n]);.obtain ⟨j,f,I⟩:=ň.mp m;show(B j t (by rw[Zl f,I])).1.same<|sx.new G
 .obtain ⟨t,mt,rfl⟩:=Zp.mp C;let#[j,f]:=ā.mp mt;have x:j<↑a:=by rw[<-n];show(À.mp f).1
  let#[J,v]:=(B j t f).2 _<|Zl x;show#[v,λw mw=>?_];let#[z,mz,ez]:=Zp.mp<|J.mem_iff.mp mw;rw[Qb,n,<-ez];show((o _<|Ø x).2.1 z mz).2
inductive cK(K:Ϗ)(vs:ϊ V)(H:Hp)(Q:VK)(E:XK):Prop|mk (a:ό) (b:L1S) (s:ϐ) (c:vs=[.ref a,.str s]) (d:DrT K H a b) (e:Q (ov (Hs.dr b s)) H)
abbrev JW K(E:XK)(Eh:XK):=(aA (cH (ph K aU) (gr K 2<|bf (ak 2)<|bf (ak 3) gF)<|bD (aN<|aM ou bT bc) (aW cG) aR)
  (aW<|tC V.non))
abbrev JX:ϊ ϐ:=sN ["doors","sign","letter","room"]
theorem Wj(h:cK K vs H Q E):RG (JW K E) JX vs H Q:=by
 let#[a,x,s,rfl,k,q]:=h;let#[g,rfl,p,w]:=k.sq;show#[E0,?_];apply tH (λz:ό×ϐ×Int=>↥z.1) p (λi j u=>(An3 (H=u) (Hs.dr (g.map (·.2)) s=Hs.dr ((g.map (·.2)).drop i) s)<|Ex2 λn o=>j=[!↥a,!(.str s),n,o])) #[Z,Z,none,none,Z] ?_ ?_ ?_;.rintro i j _ ⟨rfl,_⟩;show p
 .rintro i ⟨b,l,r⟩ j _ m ⟨rfl,e,n,o,rfl⟩;have t:=w _<|Yf m;dsimp only at t;have v:i<↑g:=(À.mp m).1;have d:(g.map (·.2)).drop i=(l,r)::(g.map (·.2)).drop (i+1):=by rw[Ŝ<|by simpa using v,ă,(À.mp m).2]
  rw[d,Hs.uL]at e;apply cN t Z ?_;apply cM (λc=>?_) λc=>?_;.symm;rw[e,β c]at q;show q
  .symm;show#[Z,by rw[e,γ c],_,_,Z]
 .rintro j _ ⟨rfl,e,n,o,rfl⟩;symm;rw[e,<-Qb (f:=(·.2)),List.drop_length]at q;show q
inductive gi(K:Ϗ)(vs:ϊ V)(H:Hp)(Q:VK)(E:XK):Prop|mk (a:ϊ Nat) (b:vs=[.str (tx a)]) (d:(∀c∈a,Hs.Sg (tx [c]))) (e:a.Nodup) (f:↑a<64) (g:∀r H' ds es,Same H H'->HsT K H' r ds es->HsO a ds es->↑ds=1->Q (.ref r) H')
abbrev JZ K(E:XK)(Eh:XK):=(aW<|bB (ei K)<|bF (gf<|cA<|kJ [none] (UV aU) (ak 0) dJ<|dj<|bF aU<|tI 0)<|gf<|cA<|tI 0)
abbrev zZ:ϊ ϐ:=sN ["signs"]
theorem Wl(h:gi K vs H Q E):RG (JZ K E) zZ vs H Q:=by
 let#[k,rfl,s,o,j,q]:=h;show#[E0,?_];apply a0x (cU<|â j) (λi l g=>(Ex1 λ(f:ϊ Dz)=>(An4 (l=f.map (λz:Dz=>↥z.1)) (f.map (·.2)=(k.take i).map (λc=>(tx [c],(0:Int)))) (Same H g) (∀z∈f,g z.1=!(.tup [.str z.2.1,.int z.2.2]))))) #[[],Z,Z,gN _,by simp] ?_ ?_ ?_;.rintro i l g ⟨f,rfl,e,_⟩;have:=Ö List.length e;rw[Qb,Qb,Ñ]at this;rw[Qb];show XR this
 .rintro i c l g L ⟨f,rfl,e,w,u⟩;symm;intro t B;show#[f++[(t,tx [c],0)],by simp,?_,w.new B,λz mz=>?_];.rw [Â,e,Ð,L];simp
  .rcases Æ.mp mz with mz|mz;.show aF B<|u z mz
   .rw [Zs.mp mz];show aj
 .rintro l y ⟨f,rfl,e,W,u⟩ p O;rw[à]at e;symm;intro d M;symm;intro A n;have v:↑f=↑k:=by have:=Ö List.length e;rwa[Qb,Qb]at this
  have D:f.map (·.2.1)=k.map λc=>tx [c]:=by have:=Ö (List.map (·.1)) e;rw[Ä,Ä]at this;show this
  have S:Same y (upd (upd (upd y p (.lst (f.map λz:Dz=>↥z.1))) d<|.lst [↥p]) A<|.lst [.int 0]):=((ao O _).new M).new n;show#[d,A,[(p,f)],[0],k,Z,gI (by walk_at "hp"),λU P=>?_,s,gI aj,λx T=>?_,by simp,by simp,by simp,by simp,λr g C G w I J N=>q r g C G ((W.trans S).trans w) I J N]
  .rw [Zs.mp P];show#[gI (by walk_at "hp"),λz mz=>#[gL<|S.get<|u z mz,?_],?_,by change↑f<_;show qeT v j];.have:z.2∈f.map (·.2):=Zp.mpr #[z,mz,Z];rw[e]at this;let#[c,R,F]:=Zp.mp this;rw[<-F];show#[#[c,R,Z],by simp,by change(0:Int)<1;decide]
   .show (f.map (·.2.1)).Nodup;rw[D];show List.Pairwise.map _ (λa b m e=>m (by injection (uK.mp e))) o
  .rw [Zs.mp T];show#[by decide,by change(0:Int)<1;decide]
noncomputable def Ck(us:ϊ ϐ):ϊ (Key×V):=us.map λs=>(Sum.inr s,V.bl true)
theorem Aa(s:ϐ):∀us:ϊ ϐ,bu (Ck us) (Sum.inr s)=if s∈us then !(.bl true)else none
 |[]=>Z|u::r=>by
  by_cases h:u=s;.subst h;rw[β Ì];show cF Z
  .have:bu (Ck (u::r)) (Sum.inr s)=bu (Ck r) (Sum.inr s):=bM<|λe=>h<|Ĥ e;rw[this,Aa s r];by_cases m:s∈r;.rw [β m,β<|Ê _ m]
   .rw [γ m,γ<|λz=>(Å.mp z).elim (λe=>h e.symm) m]
theorem Wm(s:ϐ)(a:ϊ ϐ):putK (Ck a) (Sum.inr s) (.bl true)=Ck (if s∈a then a else a++[s]):=by
 by_cases h:s∈a;.rw [β h];unfold putK;rw[jB,Aa,β h,β<|show(!(V.bl true)).isSome=true from Z];unfold Ck;rw[Ä];show Č ?_;intro t _;change(if(Sum.inr t:Key)=Sum.inr s then((Sum.inr t:Key),V.bl true)else(Sum.inr t,V.bl true))=_;split<;>rfl
 .rw [γ h,cT _<|by rw[Aa,γ h]];unfold Ck;rw[Â];rfl
def BgS(ws:ϊ<|ϊ Nat)(y:ϊ Nat):Prop:=y=[]\/∃w∈ws,y<+:w
structure StS(ws bs:ϊ (ϊ Nat)):Prop where
 up:bs.Pairwise (·<·)mem:∀y,y∈bs↔BgS ws y
theorem SQ{c:Type}[DecidableEq c]:∀{l m:ϊ c},l.Nodup->(∀x∈l,x∈m)->↑l<=↑m
 |[],m,_,_=>ä _|x::l,m,hn,hs=>by
  have a:=hs x Ì;let#[d,f]:=ï.mp hn;have:=SQ (l:=l) (m:=m.erase x) f λy b=>(Θ<|λ(e:y=x)=>d<|by rw[<-e];show b).mpr<|hs y<|Ê _ b;rw[ť a]at this;have:=ġ a;rw[í];rfl'
theorem nZ(h:tx a=tx b):a=b:=by have:=Ö (λs:ϐ=>s.cps.toList) h;show this
structure FdS(ws:ϊ (ϊ Nat))(us:ϊ ϐ)(w:ϊ Nat)(k:Nat):Prop where
 nd:us.Nodup
 mem:∀y,tx y∈us↔BgS ws y\/∃j,j<=k/\y=w.take j
 le:↑us<=1+(ws.map List.length).sum+k
theorem FdS.put{w:ϊ Nat}{k:Nat}(h:FdS g f w k):FdS g (if tx (w.take<|k+1)∈f then f else f++[tx<|w.take<|k+1]) w (k+1):=by
 by_cases m:tx (w.take<|k+1)∈f
 .rw [β m];show#[h.nd,λy=>#[λz=>?_,λz=>?_],by have:=h.le;rfl']
  .rcases (h.mem y).mp z with z|⟨j,d,e⟩;.show .inl z
   .show .inr #[j,uH d _,e]
  .rcases z with z|⟨j,d,e⟩;.show (h.mem y).mpr<|.inl z
   .by_cases c:j<=k;.show (h.mem y).mpr<|.inr #[j,c,e]
    .rw [e,show j=k+1 by rfl'];show m
 .rw [γ m];show#[List.nodup_append.mpr #[h.nd,by simp,λa i b l e=>m<|by rw[Zs.mp l]at e;rw[<-e];show i],λy=>?_,by rw[É];have:=h.le;simp;show RQ (Ć this) Z];rw[Æ,h.mem,Zs];constructor
  .rintro ((z|⟨j,d,e⟩)|e);.show .inl z
   .show .inr #[j,uH d _,e]
   .show .inr #[k+1,Ã _,nZ e]
  .rintro (z|⟨j,d,e⟩);.show .inl<|.inl z
   .by_cases c:j<=k
    .show .inl<|.inr #[j,c,e]
    .show .inr<|by rw[e,show j=k+1 by rfl']
theorem FdS.next{c:ϊ<|ϊ Nat}{b:ϊ ϐ}{w:ϊ Nat}(h:FdS c b w ↑w)(d:ϊ Nat):FdS (c++[w]) b d 0:=by
 show#[h.nd,λy=>?_,by rw[Â,List.sum_append];have:=h.le;simp;rfl'];rw[h.mem];constructor
 .rintro ((e|⟨v,mv,p⟩)|⟨j,a,e⟩);.show .inl<|.inl e
  .show .inl<|.inr #[v,ç _ mv,p]
  .show .inl<|.inr #[w,ß _<|by simp,by rw[e];show List.take_prefix _ _]
 .rintro ((e|⟨v,mv,p⟩)|⟨j,a,e⟩);.show .inl<|.inl e
  .rcases Æ.mp mv with mv|mv;.show .inl<|.inr #[v,mv,p]
   .rw [Zs.mp mv]at p;show .inr #[↑y,p.length_le,(List.prefix_iff_eq_take.mp p)]
  .rw [show j=0 by show XQ a,List.take_zero]at e;show .inl<|.inl e
theorem FdS.zero(w:ϊ Nat):FdS [] [tx []] w 0:=⟨by simp,λy=>⟨λz=>.inl<|.inl<|nZ<|Zs.mp z,λz=>by
  rcases z with(e|⟨v,mv,_⟩)|⟨j,hj,e⟩;.rw [e];simp
  .cases mv
  .rw [show j=0 by show XQ hj,List.take_zero]at e;rw[e];simp⟩,by simp⟩
theorem FdS.start{c:ϊ<|ϊ Nat}{b:ϊ ϐ}(h:FdS c b v 0)(w:ϊ Nat):FdS c b w 0:=⟨h.nd,λy=>by
  rw[h.mem];constructor
  .rintro (z|⟨j,a,e⟩);.show .inl z
   .rw [show j=0 by show XQ a,List.take_zero]at e;show .inl<|.inl e
  .rintro (z|⟨j,a,e⟩);.show .inl z
   .rw [show j=0 by show XQ a,List.take_zero]at e;show .inl<|.inl e,h.le⟩
theorem xY:∀(l:ϊ<|ϊ Nat)(i:Nat),((l.take i).map List.length).sum<=(l.map List.length).sum
 |[],i=>by rw[List.take_nil];show Ã _|x::l,0=>ä _|x::l,i+1=>by rw[List.take_succ_cons,Ç,Ç,ğ,ğ];show Ρ (xY l i) _
theorem FdS.sort(h:FdS f d [] 0)(c:a.Perm d)(g:a.Pairwise pU):∃b,a=b.map tx/\StS f b:=by
 show#[a.map λs:ϐ=>s.cps.toList,by rw[Ä];show(List.map_id a).symm,ę.mpr g,λy=>?_];constructor
 .intro m;let#[s,i,rfl]:=Zp.mp m;rcases(h.mem s.cps.toList).mp (c.mem_iff.mp i)with z|⟨j,_,e⟩;.show z
  .rw [List.take_nil]at e;show .inl e
 .intro z;show Zp.mpr #[tx y,c.mem_iff.mpr<|(h.mem y).mpr<|.inl z,Z]
def yt(bs:ϊ<|ϊ Nat):ϊ (Key×V):=bs.zipIdx.map λp=>(Sum.inr<|tx p.1,V.int (p.2:Int))
theorem QL(a:ϊ<|ϊ Nat)(b:ϊ Nat):yt (a++[b])=yt a++[(Sum.inr<|tx b,V.int (↑a:Int))]:=by unfold yt;rw[List.zipIdx_append,Â];simp
theorem qy(a:ϊ<|ϊ Nat):↑(yt a)=↑a:=by unfold yt;rw[Qb,List.length_zipIdx]
theorem QM(h:b∉a):bu (yt a) (Sum.inr<|tx b)=none:=by unfold bu;rw[Ŵ,ł];intro x d;unfold yt at d;let#[#[c,j],f,rfl]:=Zp.mp d;simp only[decide_eq_true_eq];intro e;have:=nZ<|Ĥ e;show h<|this▸(List.mem_zipIdx f).2.2▸Ø _
theorem uU(i:a.Nodup)(h:a[j]?=!b):bu (yt a) (Sum.inr<|tx b)=!(V.int (j:Int)):=by
 have g:j<↑a:=(À.mp h).1;have c:a[j]=b:=(À.mp h).2;unfold bu;have f:(yt a).find? (λl=>decide<|l.1=(Sum.inr (tx b):Key))=!(Sum.inr<|tx b,V.int (j:Int)):=by
  rw[List.find?_eq_some_iff_getElem];show#[by simp,j,by rw[qy];show g,by unfold yt;simp[c],λk m=>?_];unfold yt;simp only[ă,List.getElem_zipIdx,Bool.not_eq_true',decide_eq_false_iff_not];intro e;have d:a[k]=a[j]:=by rw[c];show nZ<|Ĥ e
  have:=(Ļ i).mp d;rfl'
 rw[f];rfl
def kids(bs:ϊ<|ϊ Nat)(i:Nat)(b:ϊ Nat):L1S:=((bs.take i).zipIdx.filter λp=>decide<|p.1≠[]/\p.1.dropLast=b).map λp=>(tx [p.1.getLastD 0],(p.2:Int))
theorem nF{c:ϊ Nat}(h:a[i]?=!c)(b:ϊ Nat):kids a (i+1) b=kids a i b++(if c≠[]/\c.dropLast=b then[(tx [c.getLastD 0],(i:Int))]else[]):=by
 have e:i<↑a:=(À.mp h).1;unfold kids;rw[Ð,h,Option.toList_some,List.zipIdx_append,ŵ,Â];congr 1;rw[Ñ,Ĵ<|â e];by_cases d:c≠[]/\c.dropLast=b;.rw [β d];simp[d]
 .rw [γ d];simp only[List.zipIdx_singleton,ŀ,Ü d];simp
theorem uV{c:ϊ Nat}(h:c≠[]/\c.dropLast=b):c=b++[c.getLastD 0]:=by let#[a,rfl]:=h;have:=(List.dropLast_concat_getLast a).symm;rw[List.getLastD_eq_getLast?,List.getLast?_eq_some_getLast a];show this
theorem Cm{k:Int}(h:(s,k)∈kids a i b):∃(m c:Nat),k=(m:Int)/\m<i/\s=tx [c]/\a[m]?=!(b++[c]):=by
 unfold kids at h;let#[#[c,m],n,e]:=Zp.mp h;let#[j,l]:=ò.mp n;have d:=ô l;let#[_,f,g]:=List.mem_zipIdx j;cases e;dsimp only at d;rw[ī,Ñ]at f;show#[m,c.getLastD 0,Z,(),Z,?_];rw[<-uV d];have:=g;simp only[Ν,List.getElem_take]at this;rw[this];show Zl ()
theorem Cp(g:a.Nodup)(b:ϊ Nat):∀{i:Nat},i<=↑a->((kids a i b).map (·.1)).Nodup
 |0,_=>by simp[kids]|i+1,h=>by
  have e:a[i]?=!a[i]:=Zl h;rw[nF e,Â];have j:=Cp g b (i:=i)<|â h;by_cases f:a[i]≠[]/\a[i].dropLast=b
  .rw [β f];show å.mpr #[j,by simp,λx t y l n=>?_];let#[#[s,k],r,rfl]:=Zp.mp t;let#[m,c,_,q,rfl,d]:=Cm r;rw[η,Zs]at l;subst l;have o:c=a[i].getLastD 0:=by have:=nZ n;simpa using this
   rw[o,<-uV f]at d;have p:m<↑a:=by show Ò q<|â h
   rw[Zl p]at d;have:=(Ļ g).mp<|Ý d;rfl'
  .rw [γ f,Đ,û];show j
theorem StS.nd{c:ϊ<|ϊ Nat}(h:StS d c):c.Nodup:=İ (λ{a b} (z:a<b) (e:a=b)=>by rw[e]at z;show ŭ _ z) h.up
theorem StS.init{c:ϊ<|ϊ Nat}(h:StS c a)(m:b∈a):b.dropLast∈a:=by
 show(h.mem _).mpr ?_;rcases(h.mem _).mp m with e|⟨w,mw,p⟩;.rw [e];show .inl Z
 .show .inr #[w,mw,(List.dropLast_prefix b).trans p]
theorem Cq:∀{a:ϊ<|ϊ Nat}{w:ϊ Nat},w∈a->↑w<=(a.map List.length).sum
 |v::a,w,h=>by
  rw[Ç,ğ];rcases Å.mp h with rfl|h;.show œ _ _
  .show Í (Cq h)<|ĵ _ _
theorem xZ(a:ϊ<|ϊ Nat)(i:Nat)(b:ϊ Nat):↑(kids a i b)<=i:=by unfold kids;rw[Qb];show Í (Ħ _ _)<|by rw[List.length_zipIdx,Ñ];show Nat.min_le_left _ _
theorem uW{a:ϊ<|ϊ Nat}(m:y∈a):a[a.idxOf y]?=!y:=by rw[Zl<|ő m,List.getElem_idxOf]
theorem StS.short{c:ϊ<|ϊ Nat}(h:StS a c)(g:(a.map List.length).sum<=61)(m:b∈c):↑b<=61:=by
 rcases(h.mem _).mp m with e|⟨w,mw,p⟩;.rw [e];show ä _
 .have d:=p.length_le;have f:↑w<=(a.map List.length).sum:=Cq mw;show Í d<|Í f g
theorem Wn{l:ϊ<|ϊ Nat}(e:l.Nodup){x:ϊ Nat}(c:l[i]?=!x)(d:l[j]?=!x):i=j:=by let#[f,a]:=À.mp c;let#[g,b]:=À.mp d;show(Ļ e).mp<|a.trans b.symm
theorem gC:Txt.slice (tx b) none (!(-1))=tx b.dropLast:=by
 by_cases h:b=[];.rw [h];rfl
 .have a:0<↑b:=Ő.mpr h;have:=beq_iff_eq.mp<|PyProof.Rows.slice_closes_to_neg (x:=tx b) (j:= -1) (k:= -1+(↑b:Int)) (by decide) (by change-((↑b:Nat):Int)<= -1;rfl') Z;rw[this,List.dropLast_eq_take,qj,show(-1+(↑b:Int)-0).toNat=↑b-1 by rfl'];rfl
inductive dP(K:Ϗ)(vs:ϊ V)(H:Hp)(Q:VK)(E:XK):Prop|mk (a:ό) (c:ϊ (ϊ Nat)) (e:vs=[.ref a]) (f:SqL K H a (c.map λw=>V.str (tx w))) (g:(c.map List.length).sum<=22) (h:↑c<=61) (i:(∀r H' d,Same H H'->H' r=!(.lst (d.map λb=>V.str (tx b)))->StS c d->↑d<=23->Q (.ref r) H'))
abbrev K1 K(E:XK)(Eh:XK):=(aA (aL (Gk [((tC<|V.str<|Str.ofString ""),(tC<|V.bl true))])<|ak 1)
  (aA (cH (cC K aU) (ak 2) (cH (Av<|bF (tI 1)<|aM b7 (eF K bT)<|tI 1) (ak 3) (aA (iH bc (vR oE bT cQ<|fj cG)<|tC<|V.bl true)
  (di<|bB (bP K)<|cA<|gw Hw<|cA bc))))
  (aW<|gw ur<|cA bc)))
abbrev K3:ϊ ϐ:=sN ["words","found","word","length"]
theorem Wo(h:dP K vs H Q E):RG (K1 K E) K3 vs H Q:=by
 let#[a,t,rfl,M,X,hl,q]:=h;show#[E0,?_];symm;intro d G;show#[aj,[(Sum.inr<|tx [],V.bl true)],Z,by decide,?_];rw[O2];apply gn (λw:ϊ Nat=>V.str<|tx w) ((ao G _).seq M) (λi l u=>(Ex3 λc C p=>(An5 (u d=!(.dK<|Ck c)) (FdS (t.take i) c [] 0) (↑c<=23) (Same H u)<|l=[!↥a,!↥d,C,p]))) #[[tx []],none,none,aj,FdS.zero [],by decide,ao G _,Z] ?_ ?_ ?_;.rintro i l u ⟨c,C,p,B,y,f,S,rfl⟩;show S.seq M
 .rintro i w l u N ⟨c,C,p,B,y,f,S,rfl⟩;have U:i<↑t:=(À.mp N).1;have L:t.take (i+1)=t.take i++[w]:=by rw[Ð,N];rfl
  have A:((t.take<|i+1).map List.length).sum<=22:=Í (xY _ _) X;rw[L,Â,List.sum_append,η,List.sum_singleton]at A;apply uJ (show↑(tx w)<=1000000 from Í (show↑w<=61 by rfl')<|by decide) ?_;apply zH ↑w (by change((↑(tx w):Int)+1-1).toNat=↑w;rw[show↑(tx w)=↑w from Z];rfl') (by change((↑w:Nat):Int)+1<=_;rfl') (by change _<=((↑w:Nat):Int)+1;rfl') (by decide) (by decide) (λk l v=>(Ex2 λc p=>(An5 (v d=!(.dK<|Ck c)) (FdS (t.take i) c w k) (↑c<=23) (Same H v)<|l=[!↥a,!↥d,!(.str<|tx w),p]))) #[c,p,B,y.start w,f,S,Z] ?_ ?_
  .rintro k l v R ⟨b,zz,m,n,g,D,rfl⟩;apply jM (show↑(tx w)<=1000000 from Í (show↑w<=61 by rfl')<|by decide) ?_;rw[show((1:Int)+(k:Int))=((k+1:Nat):Int)by show Vc _,Sv R];apply#[d,_,Z,DPut.k (k:=Sum.inr<|tx<|w.take<|k+1) m<|by unfold Ck;rw[Qb];show Ò (show _<200 by show Qn g)<|by decide,?_];have F:Same H (upd v d<|HO.dK<|putK (Ck b) (Sum.inr<|tx<|w.take<|k+1)<|V.bl true):=λx o e=>by rw[aq λz=>by rw[z,G]at e;cases e];show D x o e
   have j:=n.put;rw[Wm]at F⊢;generalize(if tx (w.take<|k+1)∈b then b else b++[tx<|w.take<|k+1])=us3 at j F⊢;apply Vs (Rd.of aj) ?_;have J:↑(Ck us3)=↑us3:=by unfold Ck;rw[Qb]
   rw[J];symm;have T:=j.le;show#[↑us3,Z,ġ<|(j.mem []).mpr<|.inl<|.inl Z,(),?_];apply#[us3,_,aj,j,(),F,Z]
  .rintro l v ⟨b,zz,m,n,g,D,rfl⟩;apply#[b,_,_,m,by rw[L];show n.next [],g,D,Z]
 .rintro l u ⟨c,C,p,B,y,f,S,rfl⟩;rw[à]at y;apply Ik (kvs:=c.map λs=>(s,V.bl true)) (by rw[B];unfold Ck;rw[Ä];rfl) (by rw[Qb];show Qn f) λr ns I Y W=>?_;rw[Ä,show(((λx:ϐ×V=>x.1)∘λs:ϐ=>(s,V.bl true))=id)from Z,List.map_id]at I;let#[O,rfl,P]:=y.sort I Y;apply q r _ O (S.new W) (by rw[aj,Ä];rfl) P (by have:=I.length_eq;rw[Qb]at this;show jq this f)
inductive dL(K:Ϗ)(vs:ϊ V)(H:Hp)(Q:VK)(E:XK):Prop|mk (a:ό) (b:ϊ (ϊ Nat)) (c:vs=[.ref a]) (d:SqL K H a (b.map λw=>V.str (tx w))) (e:↑b<=40) (f:b.Nodup) (g:∀r H',Same H H'->H r=none->H' r=!(.dK (yt b))->Q (.ref r) H')
abbrev K4 K(E:XK)(Eh:XK):=(aA (aL jE<|ak 1)
  (aA (cH (Bp K<|cA aU) (gr K 2<|bf (ak 2)<|bf (ak 3) gF)<|iH bc cG bT)
  (aW bc)))
abbrev K5:ϊ ϐ:=sN ["things","numbers","number","thing"]
theorem Wq(h:dL K vs H Q E):RG (K4 K E) K5 vs H Q:=by
 let#[a,f,rfl,A,C,D,q]:=h;show#[E0,?_];symm;intro d j;apply Iu (λw:ϊ Nat=>V.str<|tx w) ((ao j _).seq A) (λi r c=>(Ex2 λl n=>(An3 (c d=!(.dK<|yt<|f.take i)) (Same H c)<|r=[!↥a,!↥d,l,n]))) #[none,none,aj,ao j _,Z] ?_ ?_ ?_;.rintro i r c ⟨l,n,g,S,rfl⟩;show S.seq A
 .rintro i b p r c B ⟨l,n,g,S,rfl⟩ v;show cN (gL aj) Z ?_;symm;have t:i<↑f:=(À.mp B).1;have y:f.take (i+1)=f.take i++[b]:=by rw[Ð,B];rfl
  have u:b∉f.take i:=λm=>by have:=D;rw[<-ĕ (i+1) f,y]at this;have:=(å.mp (å.mp this).1).2.2 b m b (by simp);show this Z
  have s:upd c p (HO.tup [V.int (i:Int),V.str<|tx b]) d=!(.dK<|yt<|f.take i):=aF v g;show#[d,_,Z,DPut.k (k:=Sum.inr<|tx b) s (by rw[qy,Ñ];show Ò (show _<100 by show Qn<|RT C) (by decide)),?_];show#[_,_,by rw[aj,cT _<|QM u,y,QL,Ñ,Ĵ<|â t],λx o e=>?_,Z];have F:x≠d:=λz=>by rw[z,j]at e;cases e
  rw[aq F,aq (λz:x=p=>by rw[<-z,S x o e]at v;cases v)];show S x o e
 .rintro r c ⟨l,n,g,S,rfl⟩;symm;rw[à]at g;show q d c S j g
abbrev Pz:=ό×V×V
noncomputable def ofD(z:Dz):Pz:=(z.1,.str z.2.1,.int z.2.2)
def a1a(n:Nat)(is:ϊ Int):Prop:=is.Nodup/\∀i∈is,0<=i/\i<n
def ofR(r:ό×ϊ Dz):ό×ϊ Pz:=(r.1,r.2.map ofD)
inductive f6(K:Ϗ)(vs:ϊ V)(H:Hp)(Q:VK)(E:XK):Prop|mk (a:ό) (b:ϊ (ϊ Nat)) (d:ϊ Nat) (e:vs=[.ref a]) (f:SqL K H a (b.map λw=>V.str (tx w))) (g:(b.map List.length).sum<=22) (h:↑b<=61) (i:(∀c∈d,Hs.Sg (tx [c]))) (j:(∀w∈b,∀c∈w,c∈d)) (k:∀r H' ds es,Same H H'->HsT K H' r ds es->HsO d ds es->Q (.ref r) H')
abbrev K6 K:=(aA (cH (pX bc) (ak 3)<|bD (aN<|aM Rq cG<|tC<|V.str<|Str.ofString "") (di<|ue K "list" cY (aM (cD K) bT<|fQ bc<|vR oE cG cQ<|fj<|Aw iK<|tI 1)<|cA<|dj<|bF (aM vU cG<|Aw iK<|tI 1)<|fQ bc cG) aR)
  (aW<|bB (ei K)<|bF bT<|kJ [none,!1] (cC K<|gw (lZ K)<|cA aU) (ak 0) dJ<|fQ bc aU))
abbrev K7 K(E:XK)(Eh:XK):=(aA (aL (bB (dL K)<|cA<|bB (dP K)<|cA aU)<|ak 1)
  (aA (aL (kJ [none] (pX bc) (ak 0) dJ<|gf gJ)<|ak 2)
  (K6 K)))
abbrev uX:ϊ ϐ:=sN ["words","numbers","doors","beginning"]
theorem Wr(h:f6 K vs H Q E):RG (K7 K E) uX vs H Q:=by
 let#[a,ws,cs,rfl,hA,hs,hl,be,bg,q]:=h;show#[E0,?_];apply#[a,ws,Z,hA,hs,hl,?_]
 .intro rb H1 g S1 eb v R;apply#[rb,g,Z,gI eb,cU R,v.nd,λC H2 S2 ar en=>?_];apply Qy (.inl en) (by rw[qy];show cU R) (λz L mz A kA=>?_) λW od H3 H4 as bo O ah Y ae al a9 ad a2=>?_;.symm;intro p hp;show kA p hp
  symm;rw[qy]at ae;have a4:=ah.get O;have F:C∉as:=λm=>by rw[(ad C m).1]at O;cases O
  have am:W≠C:=nj O Y;have ay:Same H H2:=S1.trans S2;have zz:H C=none:=S1.free ar;have ac:Same H H3:=λx o e=>bo x o (by simp;showλz=>by rw[z,zz]at e;cases e)<|ay x o e;have a1:Same H H4:=ac.trans ah;have ap:∀p∈C::W::as,H p=none:=by
   intro p hp;rcases Å.mp hp with rfl|hp;.show zz
   rcases Å.mp hp with rfl|hp;.show ac.free Y
   .show ac.free (ad p hp).1
  show zN (.inr #[od,a4]) (λn i σ L=>(Ex2 λ(d:ϊ<|ό×ϊ Dz) (o:ύ V)=>(An7 (Rws L d) (d.map (·.1)=as) (∀(j:Nat) f b,d[j]?=!f->g[j]?=!b->f.2.map (·.2)=kids g i b) (Sb (C::W::as) H L) (L W=!(.lst<|as.map V.ref)) (L C=!(.frz n<|.dK<|yt g))<|σ=[!↥a,!↥C,!↥W,o]))) ?_ ?_ ?_ ?_
  .intro n H5 ag a3;show#[as.map λb=>(b,[]),none,#[by rw[Ä];simpa[Function.comp_def]using al,λf G=>?_],by rw[Ä];simp[Function.comp_def],λj f b G _=>?_,?_,?_,a3,Z];.obtain ⟨b,v,rfl⟩:=Zp.mp G;show#[ag b _ (by simp;showλe=>F<|e▸v) (ad b v).2,by simp]
   .rw [Á]at G;let#[b',_,rfl]:=Î.mp G;simp[kids]
   .show λx o nx e=>ag x o (by simp at nx⊢;show nx.1)<|a1 x o e
   .show ag W _ (by simpa using am) a2
  .rintro n i σ L ⟨d,o,_,_,_,_,_,e,_⟩;show e
  .rintro n i z σ L hz ⟨d,o,hR,M,hk,sb,ed,B,rfl⟩;let#[b,D,rfl]:∃b,g[i]?=!b/\z=(Sum.inr<|tx b,V.int (i:Int)):=by unfold yt at hz;rw[Á,List.getElem?_zipIdx]at hz;let#[p,hp,rfl]:=Î.mp hz;let#[b,a7,rfl]:=Î.mp hp;show#[b,a7,by simp]
   symm;by_cases P:b=[];.subst P;show iu Z ?_;apply#[d,_,hR,M,λj f c G hc=>?_,sb,ed,B,Z];rw[nF D,γ (λz=>z.1 Z),û];show hk j f c G hc
   .show Ia (λz=>P<|nZ<|V.str.inj z) ?_;symm;have S:=Yf D;have X:↑b<=61:=v.short (Í hs (by decide)) S;let#[j,N]:=ā.mp<|v.init S;have T:j<↑g:=(À.mp N).1;have u:↑d=↑g:=by rw[<-ae,<-M,Qb]
    have r:j<↑d:=by show qN T u
    have U:d[j]∈d:=Ø r;have a6:vD (as.map V.ref) (j:Int)=!(↥d[j].1):=by show aO ?_;rw[<-M,Ä,Á,Zl r];rfl
    show jM (show↑(tx b)<=1000000 from Í X (by decide)) ?_;rw[gC];show#[C,V.int (j:Int),Z,by rw[<-uU v.nd N];show DGet.r (k:=Sum.inr<|tx b.dropLast)<|.inr #[n,B],?_];show dM (gI ed) a6 ?_;have l:=hR.2 _ U;show fB (gI l.1) ?_;apply tK (c:=b.getLastD 0) (show↑(tx b)<=1000000 from Í X (by decide)) ?_ ?_;.show vD b (-1)=_;rw[uV #[P,Z]];simpa using Ga b.dropLast<|b.getLastD 0
    apply#[C,V.int (i:Int),Z,by rw[<-uU v.nd D];show DGet.r (k:=Sum.inr<|tx b)<|.inr #[n,B],?_];symm;intro t ht;symm;have af:↑d[j].2<=23:=by have h1:=Ö List.length<|hk j _ _ (Zl r) N;rw[Qb]at h1;have h2:=xZ g i b.dropLast;have h3:=(À.mp D).1;rfl'
    show gY (aF ht l.1) (by rw[Qb];show cU af) ?_;symm;have ai:=(hR.same<|ao ht<|HO.tup [V.str<|tx [b.getLastD 0],V.int (i:Int)]).app (t:=t) r aj;have bm:W≠d[j].1:=λz=>a9 (by rw[z,<-M];show Zp.mpr #[_,U,Z]);have bn:C≠d[j].1:=λz=>F (by rw[z,<-M];show Zp.mpr #[_,U,Z]);show#[d.set j (d[j].1,d[j].2++[(t,tx [b.getLastD 0],(i:Int))]),_,?_,(Cg r _).trans M,λk f c G hc=>?_,(sb.new ht).set (Ê _ (Ê _ (by rw[<-M];show Zp.mpr #[_,U,Z]))),?_,?_,Z];.rw [Â]at ai;show ai
    .rw [nF D];by_cases ck:k=j;.subst ck;rw[Ű r]at G;cases G;rw[N]at hc;cases hc;rw[β #[P,Z],Â,hk k _ _ (Zl r) N];rfl
     .rw [Ε (λz=>ck z.symm)]at G;rw[γ,û];.show hk k f c G hc
      .rintro ⟨_,e⟩;rw[<-e]at hc;show ck<|Wn v.nd hc N
    .rw [aq bm];show aF ht ed
    .rw [aq bn];show aF ht B
  .rintro n σ L ⟨d,o,hR,M,hk,sb,ed,B,rfl⟩;rw[qy]at hk;symm;have a5:=sb.seq ap hA;show Et (ss:=ws.map tx) (by rw[Ä];show a5) (by rw[Qb];show Qn hl) λrs ns bd bb bp aw=>?_;let#[J,rfl]:∃J:ϊ<|ϊ Nat,ns=J.map tx:=#[ns.map λs:ϐ=>s.cps.toList,by rw[Ä];show(List.map_id ns).symm];have bk:∀y,y∈J↔y∈ws:=λy=>by
    have:=bb<|tx y;rw[Zp,Zp]at this;constructor;.intro m;let#[w,mw,e]:=this.mp #[y,m,Z];rw[<-nZ e];show mw
    .intro m;let#[w,mw,e]:=this.mpr #[y,m,Z];rw[<-nZ e];show mw
   have I:∀y∈J,y∈g:=λy my=>(v.mem y).mpr<|.inr #[y,(bk y).mp my,List.prefix_refl y];have ab:J.Nodup:=İ (λ{a b} z e=>z (by rw[e]))<|ę.mp bd;have ax:↑J<=23:=Í (SQ ab I) R;show Cd (λy:ϊ Nat=>V.str<|tx y) (zs:=J) (gI (by rw[aj,Ä];rfl)) (cU ax) (λy=>V.int ((g.idxOf y:Nat):Int)) (λk y hy A kA=>?_) λp hp=>?_;.symm;have bi:g[g.idxOf y]?=!y:=uW<|I y<|Yf hy;show#[C,V.int ((g.idxOf y:Nat):Int),Z,by rw[<-uU v.nd bi];show DGet.r (k:=Sum.inr<|tx y)<|.inr #[n,aF aw B],?_];show kA
   symm;have u:↑d=↑g:=by rw[<-ae,<-M,Qb]
   have S6:Same L (upd (upd L rs<|HO.lst<|List.map V.str<|List.map tx J) p (HO.lst (List.map (λy=>V.int ((g.idxOf y:Nat):Int)) J))):=(ao aw _).trans<|ao hp _;have av:∀f∈d,∃(j:Nat)(b:ϊ Nat),d[j]?=!f/\g[j]?=!b/\f.2.map (·.2)=kids g ↑g b:=λf mr=>by
    let#[j,N]:=ā.mp mr;have T:j<↑g:=by rw[<-u];show(À.mp N).1
    show#[j,g[j],N,Zl T,hk j f _ N<|Zl T]
   have hG:∀f∈d,(f.2.map (·.2.1)).Nodup/\∀z∈f.2,(∃c∈cs,z.2.1=tx [c])/\0<=z.2.2/\z.2.2<(↑d:Int):=λf mr=>by
    let#[j,b,_,a8,ek]:=av f mr;show#[?_,λz mz=>?_];.have:=Cp v.nd b<|Ã _;rw[<-ek,Ä]at this;show this
    .have bl:(z.2.1,z.2.2)∈kids g ↑g b:=by rw[<-ek];show Zp.mpr #[z,mz,Z]
     let#[m,c,e2,hm,e3,S]:=Cm bl;show#[?_,(),by rw[u];show qoI e2 hm];rw[e3];rcases(v.mem _).mp (Yf S)with e|⟨w,mw,pw⟩;.show μ e (by simp)
     .show #[c,bg w mw c (pw.subset (by simp)),Z]
   have hE:a1a ↑d (J.map λy=>((g.idxOf y:Nat):Int)):=by
    show#[?_,λi mi=>?_];.show ę.mpr (List.Pairwise.imp_of_mem (λ{x y} mx my ne e=>ne ?_) ab);have e2:=uW<|I x mx;rw[show g.idxOf x=g.idxOf y by show Eo e,uW<|I y my]at e2;show(Ý e2).symm
    .obtain ⟨y,my,rfl⟩:=Zp.mp mi;have:=ő<|I y my;show#[BZ _,qdT<|qN this u]
   show#[W,p,d,J.map λy=>((g.idxOf y:Nat):Int),cs,Z,gI (by rw[S6.get ed,<-M,Ä];rfl),λf mr=>?_,be,gI (by rw[aj,Ä];rfl),hE.2,hE.1,by rw[Qb];show Qn ax,by rw[u];show ġ<|(v.mem []).mpr<|.inl Z,jq u R,λr7 H7 ds es S7 hH hO _=>q r7 H7 ds es ((sb.off ap).trans<|S6.trans S7) hH hO];have l:=hR.2 f mr;show#[gI<|S6.get l.1,λz mz=>#[gL<|S6.get<|l.2 z mz,(hG f mr).2 z mz],(hG f mr).1,?_];let#[j,b,_,a8,ek]:=av f mr;have h1:=Ö List.length ek;rw[Qb]at h1;have h2:=xZ g ↑g b;rfl'
inductive bS(K:Ϗ)(vs:ϊ V)(H:Hp)(Q:VK)(E:XK):Prop|mk (t:ό) (a:ϊ Int) (b:vs=[.ref t]) (c:SqT K H t (a.map V.int)) (d:1<=↑a) (e:(∀w∈a,0<=w/\w<=1000)) (f:Q .non H)
abbrev K8 K(E:XK)(Eh:XK):=(aA (bD (aN<|aM ou (eF K aU)<|tI 0) dH aR)
  (cH (ph K aU) (ak 1)<|bD (lg<|kh (lA K<|bB (fm K)<|cA bc)<|aN<|il lO lO (tI 0) bc<|tI 1000) dH aR))
abbrev K9:ϊ ϐ:=sN ["numbers","number"]
theorem Ws(h:bS K vs H Q E):RG (K8 K E) K9 vs H Q:=by
 let#[t,k,rfl,b,g,j,q]:=h;show#[E0,?_];apply cu b ?_;rw[Qb];apply gW (qu0 g) ?_;apply tH V.int (zs:=k) b (λi a c=>(An2 (c=H)<|Ex1 λ(o:ύ V)=>a=[!↥t,o])) #[Z,none,Z] ?_ ?_ ?_;.rintro i a _ ⟨rfl,_⟩;show b
 .rintro i x a _ f ⟨rfl,o,rfl⟩;let#[d,e]:=j x<|Yf f;apply#[_,Z,trivial,?_];symm;change if true=true then _ else _;symm;rw[Ô d,Ô e];apply#[Z,_,Z]
 .rintro a _ ⟨rfl,o,rfl⟩;apply q
theorem same_none(s:Same H H')(h:H' p=none):H p=none:=by cases e:H p with
 |none=>rfl|some o=>rw[s p o e]at h;cases h
def QQ(cs:ϊ Nat)(m:Nat)(rest w later:Int):L1S:=(List.range ↑cs).map λk=>(tx [cs.getD k 0],later+(rest+((k+1:Nat):Int)*w)%(m:Int))
def RwH(H:Hp)(row:ό×ϊ Dz):Prop:=H row.1=!(.lst (row.2.map λz:Dz=>↥z.1))/\∀z∈row.2,H z.1=!(.tup [.str z.2.1,.int z.2.2])
theorem RwH.same(h:RwH H row)(s:Same H H'):RwH H' row:=#[s.get h.1,λz m=>s.get<|h.2 z m]
theorem RwH.set{b c:ϊ V}(h:RwH H row)(a:H d=!(.lst b))(n:row.1≠d):RwH (upd H d<|.lst c) row:=#[by rw[aq n];show h.1,λz m=>by rw[aq (λe=>by have:=h.2 z m;rw[e,a]at this;cases this)];show h.2 z m]
theorem Cr(b:ϊ Nat)(m:Nat)(rest w a:Int):↑(QQ b m rest w a)=↑b:=by unfold QQ;simp
theorem Wt(b:ϊ Nat)(m:Nat)(rest w a:Int):(QQ b m rest w a).map (·.1)=b.map λc=>tx [c]:=by
 show List.ext_getElem (by rw[Qb,Cr,Qb]) λi e d=>?_;rw[Qb]at d;rw[ă,ă];simp only[QQ,ă,List.getElem_range,Xs,Zl d];rfl
theorem tR{f:ϊ Nat}:(f.map λc=>tx [c]).Nodup↔f.Nodup:=#[λh=>(ę.mp h).imp<|λd e=>d<|by rw[e],λh=>List.Pairwise.map _ (λa b d e=>d<|by injection (uK.mp e)) h]
inductive eJ(K:Ϗ)(vs:ϊ V)(H:Hp)(Q:VK)(E:XK):Prop|mk (b:ϊ Nat) (m:Nat) (rest w a:Int) (c:vs=[.str (tx b),.int (m:Int),.int rest,.int w,.int a]) (d:1<=m) (e:↑b<=1000) (f:0<=w) (g:w<=1000) (h:∀(p:ό)(H':Hp)(zs:ϊ Dz),H p=none->Same H H'->H' p=!(.lst (zs.map λz:Dz=>V.ref z.1))->(∀z∈zs,H' z.1=!(.tup [.str z.2.1,.int z.2.2]))->zs.map (·.2)=QQ b m rest w a->Q (.ref p) H')
abbrev Ka K(E:XK)(Eh:XK):=(aW<|kJ [none,none,!4,!2,!3,!1] (Hj (cA aU)<|cA<|tI 1) (gr K 2<|bf (ak 0)<|bf (ak 1) gF) dJ<|dj<|bF bc<|aM b7 bT<|aM bL (aM b7 cG<|aM gR aU dF) gB)
abbrev Ab:ϊ ϐ:=sN ["signs","many","rest","number","later"]
theorem Wu(h:eJ K vs H Q E):RG (Ka K E) Ab vs H Q:=by
 let#[j,m,rest,w,a,rfl,C,k,x,y,q]:=h;show#[E0,?_];apply Z5 (o:=1) (by decide) (cU k) (λi g f=>(Ex1 λ(b:ϊ Dz)=>(An4 (g=b.map (λz:Dz=>↥z.1)) (b.map (·.2)=(QQ j m rest w a).take i) (Same H f) (∀z∈b,f z.1=!(.tup [.str z.2.1,.int z.2.2]))))) #[[],Z,Z,gN _,by simp] ?_ ?_ ?_;.rintro i g f ⟨b,rfl,e,_⟩;have:=Ö List.length e;rw[Qb,Ñ]at this;rw[Qb];show XR this
 .rintro i c D g f r ⟨b,rfl,e,A,n⟩ d;have v:i<↑j:=(À.mp r).1;show cN (gL aj) Z ?_;symm;intro t s;show#[b++[(t,tx [c],a+(rest+((i+1:Nat):Int)*w)%(m:Int))],by simp,?_,(A.new d).new s,λz mz=>?_];.rw [Â,e,Ð];congr 1;unfold QQ;rw[Á,Ũ v];change [(tx [c],_)]=[(tx [j.getD i 0],_)];rw[Xs,r];rfl
  .rcases Æ.mp mz with mz|mz;.show aF s<|aF d<|n z mz
   .rw [Zs.mp mz];show aj
 .rintro g B ⟨b,rfl,e,u,n⟩ p l;rw[æ<|by rw[Cr];show Ã _]at e;show q p _ b (same_none u l) (Same.new u l) aj (λz mz=>aF l<|n z mz) e
def RowS(cs:ϊ Nat)(n:Nat)(zs:ϊ Dz):Prop:=zs.map (·.2.1)=cs.map (λc=>tx [c])/\∀z∈zs,0<=z.2.2/\z.2.2<(n:Int)
theorem RowS.of{b:ϊ Nat}{rest w a:Int}(d:1<=m)(l:0<=a)(o:a+(m:Int)<=(n:Int))(e:f.map (·.2)=QQ b m rest w a):RowS b n f:=by
 show#[?_,λz h=>?_];.have:=Ö (List.map (·.1)) e;rw[Wt,Ä]at this;show this
 .have c:z.2∈QQ b m rest w a:=by rw[<-e];show Zp.mpr #[z,h,Z]
  let#[k,p,g]:=Zp.mp c;rw[<-g];change 0<=a+(rest+((k+1:Nat):Int)*w)%(m:Int)/\a+(rest+((k+1:Nat):Int)*w)%(m:Int)<_;have i:=Ω (rest+((k+1:Nat):Int)*w) (show(m:Int)≠0 by show qu0 d);have j:=ř (rest+((k+1:Nat):Int)*w) (show(0:Int)<m by show Vb d);rfl'
inductive gc(K:Ϗ)(vs:ϊ V)(H:Hp)(Q:VK)(E:XK):Prop|mk (b:ϊ Nat) (m:Nat) (y:V) (a:ϊ Int) (e:vs=[.str (tx b),.int m,y]) (f:TupK K cO [.int 1]) (g:((y=.non/\a=[1])\/∃t,y=.ref t/\SqT K H t (a.map V.int))) (h:(∀c∈b,Hs.Sg (tx [c]))) (i:b.Nodup) (j:↑b<64) (k:1<=m) (l:1<=↑a) (n:(∀w∈a,0<=w/\w<=1000)) (o:m*↑a<=23) (d:∀r H' ds es,Same H H'->HsT K H' r ds es->HsO b ds es->↑ds=m*↑a->Q (.ref r) H')
abbrev Kd K:=(aA (cH (fO<|cA<|eF K cG) (ak 5) (aA (aL (aM gR (aM bL (aM b7 gB<|tI 1)<|eF K cG) bc)<|ak 6)
  (di<|ue K "list" oO dF<|cA<|kJ [none,!0,!1,!3,!5,!6] (fO<|cA bc) (ak 0) dJ<|bB (eJ K)<|fP bc<|NQ bT aU (aM (gK K) cG dF) gB)))
  (aW<|bB (ei K)<|bF dF<|kJ [none,!1] (fO<|cA<|eF K cG) (ak 0) dJ<|aM gR aU bc))
abbrev Ke K:=(aA (bD (lg<|kh (lA K<|bB (fm K)<|cA bc)<|aN<|aM Yi bc<|tI 1) dH aR)
  (aA (di<|bB (bS K)<|cA cG)
  (aA (di<|bB (bP K)<|cA<|aM gR bc<|eF K cG)
  (aA (aL (gf gJ)<|ak 4)
  (Kd K)))))
abbrev Kf K(E:XK)(Eh:XK):=(aA (aL (XC (aN<|aM iJ bT<|tC V.non) (tC<|V.ref cO) bT)<|ak 3)
  (Ke K))
abbrev qz:ϊ ϐ:=sN ["signs","many","wheel","numbers","doors","turn","later"]
theorem Wv(h:gc K vs H Q E):RG (Kf K E) qz vs H Q:=by
 let#[O,m,y,w,rfl,TK,hy,ae,ac,T,s,D,X,I,q]:=h;show#[E0,?_];have J:↑w<=23:=Í (Nat.le_mul_of_pos_left _ s) I;have U:m<=23:=Í (Nat.le_mul_of_pos_right _ D) I;with_reducible show iz (λag F=>(An2 (F=H) (Ex1 λ(t:ό)=>(An2 (SqT K H t<|w.map V.int)<|ag=[!(.str<|tx O),!(.int (m:Nat)),!y,!↥t,none,none,none])))) ?_ ?_
 rotate_left
 .intro N hN;symm;rcases hy with⟨rfl,rfl⟩|⟨t,rfl,ht⟩;.symm;show hN _ _ #[Z,_,TK.sq,Z]
  .show gW (λe=>nomatch e) ?_;apply hN _ _ #[Z,_,ht,Z]
 rintro _ _ ⟨rfl,t,P,rfl⟩;apply#[_,Z,trivial,?_];symm;change if true=true then _ else _;apply iu (Yt s) ?_;apply#[t,w,Z,P,D,X,?_];apply cu P ?_;rw[Qb];apply#[m*↑w,by rw[Int.natCast_mul],Nat.mul_pos s D,cU I,?_];symm;intro d hd;apply cu (Ca hd P) ?_;rw[Qb];symm;rename_i H;show m8 ↑w (Ó _) (cU J) (yo _) (λi σ F=>(Ex3 λ(L:ϊ<|ό×ϊ Dz) (o5 o6:ύ V)=>(An5 (F d=!(.lst (L.map λr=>↥r.1))) (Same H F) (↑L=i*m) (∀f∈L,f.1≠d/\RwH F f/\RowS O (m*↑w) f.2)<|σ=[!(.str<|tx O),!(.int (m:Int)),!y,!↥t,!↥d,o5,o6]))) #[[],_,_,aj,ao hd _,by simp,by simp,Z] ?_ ?_
 .rintro i σ H1 hi ⟨L,o5,o6,B,R,l,C,rfl⟩;have ah:i*m<=30*30:=Nat.mul_le_mul ()<|cU U;let#[zz,ab,af]:=Mm.bw ((i:Int)+1) ↑w D;have ai:zz*m+m<=m*↑w:=by rw[show zz*m+m=m*(zz+1)by rw[Nat.mul_add,Nat.mul_one,Nat.mul_comm]];show Nat.mul_le_mul_left m af
  apply cu (R.tup P) ?_;rw[Qb];show zM (m:=zz) D ab ?_;symm;walk_at "ns";show fB (gI B) ?_;apply Er m (Ó _) (cU U) (yo _) (λr ys F=>(Ex1 λ(o:ϊ<|ό×ϊ Dz)=>(An4 (ys=o.map (λf=>↥f.1)) (↑o=r) (Same H1 F) (∀f∈o,f.1≠d/\RwH F f/\RowS O (m*↑w) f.2)))) #[[],Z,Z,gN _,by simp] ?_ ?_ ?_;.rintro r ys F ⟨o,rfl,rfl,_⟩;simp
  .rintro r ys F hr ⟨o,rfl,G,Y,g⟩;let#[w0,w1]:=X _<|Ø hi;apply dZ ((R.trans Y).tup P) (v:=.int w[i]) (aO (j:=i) (by rw[Á,Zl hi];rfl)) ?_;apply#[O,m,r,w[i],(zz:Int)*(m:Int),Z,s,cU<|â T,w0,w1,λp H2 zs W M ad hz ez=>?_];show#[o++[(p,zs)],by simp,by simp[G],Y.trans M,λf mr=>?_];rcases Æ.mp mr with mr|mr;.show #[(g f mr).1,(g f mr).2.1.same M,(g f mr).2.2]
   .rw [Zs.mp mr];show#[λe=>?_,#[ad,hz],RowS.of s (by rw[<-Int.natCast_mul];show BZ<|_*_) (by rw[<-Int.natCast_mul];rfl') ez];rw[show p=d from e,Y.get B]at W;cases W
  .rintro ys H2 ⟨o,rfl,G,M,g⟩ p W;apply xP (aF W<|M.get B) aj (by rw[Qb,Qb,l,G];rfl') ?_;symm;have S:Same H2 (upd H2 p (.lst (o.map λf=>↥f.1))):=ao W _;have e3:=S.get<|M.get B;show#[L++o,_,_,by rw[aj,Â],λb u hb=>?_,by rw[É,l,G,Nat.add_mul,Nat.one_mul],λf mr=>?_,Z];.rw [aq (λe=>by rw[e,hd]at hb;cases hb)];show S b u<|M b u<|R b u hb
   .rcases Æ.mp mr with mr|mr;.show #[(C f mr).1,(((C f mr).2.1.same M).same S).set e3 (C f mr).1,(C f mr).2.2]
    .show #[(g f mr).1,((g f mr).2.1.same S).set e3 (g f mr).1,(g f mr).2.2]
 .rintro σ H1 ⟨L,o5,o6,B,R,l,C,rfl⟩;rw[Nat.mul_comm]at l;apply cu (R.tup P) ?_;rw[Qb];apply RZ ↑w (Ó _) (cU J) (yo _) (λt=>V.int ((t*m:Nat):Int)) (λt ht A kA=>?_) λe he=>?_;.symm;rw[<-Int.natCast_mul];show kA
  have S:Same H1 (upd H1 e (.lst ((List.range ↑w).map λt=>V.int ((t*m:Nat):Int)))):=ao he _;show#[d,e,L,(List.range ↑w).map λt=>((t*m:Nat):Int),O,Z,gI<|S.get B,λf mr=>?_,ae,gI (by rw[aj,Ä];rfl),λx mx=>?_,?_,by rw[Qb,ê];show Qn J,by rw[l];show Nat.mul_pos s D,jq l I,λr F ds es Y hH hO hl=>q r F ds es ((R.trans S).trans Y) hH hO<|hl.trans l]
  .obtain ⟨_,hw,e2,hz⟩:=C f mr;replace hw:=hw.same S;show#[gI hw.1,λz mz=>#[gL<|hw.2 z mz,?_,by rw[l];show hz z mz],by rw[e2];show tR.mpr ac,?_];.have:z.2.1∈f.2.map (·.2.1):=Zp.mpr #[z,mz,Z];rw[e2]at this;let#[c,mc,ec]:=Zp.mp this;show#[c,mc,ec.symm]
   .have:=Ö List.length e2;rw[Qb,Qb]at this;show qeT this T
  .obtain ⟨k,mk,rfl⟩:=Zp.mp mx;have:=Nat.mul_lt_mul_of_pos_right (ì.mp mk) s;rw[l,Nat.mul_comm m];rfl'
  .show List.Pairwise.map _ (λ{a b} n e=>n<|Nat.eq_of_mul_eq_mul_right s<|Eo e) List.nodup_range
theorem Ww(h:gc K vs H Q E):↑vs=3:=by let#[_,_,_,_,rfl,_]:=h;rfl
theorem Wx{c:Type}[DecidableEq c]:∀{l m:ϊ c},l.Nodup->(∀x∈l,x∈m)->↑l<=↑m
 |[],m,_,_=>ä _|x::l,m,hn,hs=>by
  have a:=hs x Ì;let#[d,f]:=ï.mp hn;have:=Wx (l:=l) (m:=m.erase x) f λy b=>(Θ<|λ(e:y=x)=>d<|by rw[<-e];show b).mpr<|hs y<|Ê _ b;rw[ť a]at this;have:=ġ a;rw[í];rfl'
structure GdB(ds:L2S):Prop where
 r2:↑ds<=44
 sr:∀ps∈ds,(ps.map (·.1)).Pairwise pU
 ln:∀ps∈ds,↑ps<=62
 sg:∀ps∈ds,∀p∈ps,Hs.Sg p.1
def SX(d1 d2:L2S)(p:Int×Int):Prop:=(0<=p.1/\p.1<↑d1)/\0<=p.2/\p.2<↑d2
theorem Wy(a:Hs.Wf ds){r x:Int}(h:Hs.dr (ds.getD r.toNat []) s=!x):0<=x/\x<↑ds:=by
 have m:=Hs.ql h;by_cases c:r.toNat<↑ds;.rw [Xs,Zl c]at m;show a.rm _ (Ø c) _ m
 .rw [Xs,Ā<|HY c]at m;cases m
noncomputable def uY(e1 e2:ϊ Int)(P:ϊ (Int×Int)):ϊ Int:=(P.filter λp=>decide (p.1∈e1)&&decide (p.2∈e2)).map λp=>(P.idxOf p:Int)
theorem QR{P:ϊ<|Int×Int}(h:P.Nodup):P.map (λp=>P.idxOf p)=List.range ↑P:=by
 show List.ext_getElem ?_ ?_;.rw [Qb,ê]
 .intro i a b;rw[ă,List.getElem_range,List.Nodup.idxOf_getElem h]
theorem QS(h:P.Nodup):(uY e1 e2 P).Pairwise (·<·):=by
 unfold uY;have a:(P.map λp=>(P.idxOf p:Int)).Pairwise (·<·):=by rw[show(P.map λp=>(P.idxOf p:Int))=(P.map λp=>P.idxOf p).map (λi:Nat=>(i:Int))by rw[Ä];rfl,QR h];show ę.mpr<|List.pairwise_lt_range.imp λh=>by show qdT h
 show a.sublist<|List.filter_sublist.map _
theorem QT:∀i∈uY e1 e2 P,0<=i/\i<↑P:=λi m=>by let#[p,a,rfl]:=Zp.mp m;have:=ő (ò.mp a).1;rfl'
theorem Kg:↑(uY e1 e2 P)<=↑P:=by unfold uY;rw[Qb];show Ħ ..
noncomputable def Ac(p:Int×Int):ϊ Key:=[Sum.inl p.1,Sum.inl p.2]
theorem QV{p:Int×Int}:Ac p=Ac q↔p=q:=by
 constructor;.intro h;unfold Ac at h;simp only[List.cons.injEq,Sum.inl.injEq,and_true]at h;show Prod.ext h.1 h.2
 .rintro rfl;rfl
def Kh:ϊ (Int×Int)->Nat->ϊ (ϊ Key×V)
 |[],_=>[]|p::L,n=>(Ac p,V.int (n:Nat))::Kh L (n+1)
theorem yc:∀(L:ϊ<|Int×Int)(n:Nat)(q:Int×Int),Kh (L++[q]) n=Kh L n++[(Ac q,V.int ((n+↑L:Nat):Int))]
 |[],n,q=>by rw[ĝ,Nat.add_zero];rfl
 |p::L,n,q=>by change _::Kh (L++[q]) (n+1)=_;rw[yc L (n+1) q,í,show n+1+↑L=n+(↑L+1)by rfl'];rfl
theorem Cu:∀(L:ϊ<|Int×Int)(n:Nat),↑(Kh L n)=↑L
 |[],_=>Z|p::L,n=>by change↑(Kh L<|n+1)+1=_;rw[Cu L<|n+1];rfl
theorem mF(q:Int×Int):∀(L:ϊ (Int×Int))(n:Nat),bu (Kh L n) (Ac q)=if q∈L then !(V.int ((n+L.idxOf q:Nat):Int))else none
 |[],n=>Z|p::L,n=>by
  change bu ((Ac p,V.int (n:Nat))::Kh L (n+1)) (Ac q)=_;by_cases e:p=q;.subst e;rw[cF Z,β Ì,List.idxOf_cons_self,Nat.add_zero]
  .rw [bM (λz=>e (QV.mp z)),mF q L (n+1)];by_cases m:q∈L
   .rw [β m,β (Ê _ m),List.idxOf_cons,show(p==q)=false from beq_false_of_ne e,cond_false,show n+1+L.idxOf q=n+(L.idxOf q+1)by rfl']
   .rw [γ m,γ (λz=>by rcases Å.mp z with z|z;show e z.symm;show m z)]
abbrev Lb:=ό×ό×ϐ×(Int×Int)
inductive fg(K:Ϗ)(vs:ϊ V)(H:Hp)(Q:VK)(E:XK):Prop|mk (c d e:ό) (a b:L2S) (f g:ϊ Int) (p:Int×Int) (h:vs=[.ref c,.ref d,.ref e]) (c:HsT K H c a f) (d:HsT K H d b g) (i:H e=!(.tup [.int p.1,.int p.2])) (j:SX a b p) (k:Hs.Wf a) (l:Hs.Wf b) (m:(∀ps∈a,↑ps<=1000)) (n:∀r H' (zs:ϊ Lb),Same H H'->H r=none->H' r=!(.lst (zs.map λz:Lb=>V.ref z.1))->(∀z∈zs,H' z.1=!(.tup [.str z.2.2.1,.ref z.2.1])/\H' z.2.1=!(.tup [.int z.2.2.2.1,.int z.2.2.2.2])/\SX a b z.2.2.2)->(zs.map λz:Lb=>z.2.2.1).Sublist ((a.getD p.1.toNat []).map (·.1))->Q (.ref r) H')
abbrev QW K:=(aA (cH (ph K<|aM (gK K) (tX K aU 0)<|tX K bT 0) (gr K 2<|bf (ak 4)<|bf (ak 5) gF) (aA (aL (bB (cK K)<|bF (aM (gK K) (tX K bc 0)<|tX K bT 1) dF)<|ak 6)
  (bD (aN<|aM lB ie<|tC V.non) (di<|ue K "list" cY cG<|cA<|dj<|bF dF<|dj<|bF gB ie) aR)))
  (aW cG))
abbrev T4 K(E:XK)(Eh:XK):=(aA (aL (gf gJ)<|ak 3)
  (QW K))
abbrev T5:ϊ ϐ:=sN ["one","other","pair","leads","sign","room","beside"]
theorem Zc(h:fg K vs H Q E):RG (T4 K E) T5 vs H Q:=by
 let#[h1,h2,pa,L,d2,e1,e2,#[px,py],rfl,P,R,r,#[#[x0,x1],y0,y1],w1,w2,U,q]:=h;show#[E0,?_];dsimp only at r x0 x1 y0 y1;let#[p2,_,p1,_,ac,pd,_,p4]:=P.at;let#[b1,M,C]:=p4 x0 x1;let#[q2,_,q1,_,ad,qd,_,q4]:=R.at;let#[b2,N,D]:=q4 y0 y1;let#[zs,ez,hT,hz]:=C.sq;have F:L.getD px.toNat []∈L:=by rw[Xs,Zl ()];show Ø _
 have f:=U _ F;have G:=w1.rm _ F;symm;intro t p;symm;have B:Same H (upd H t<|HO.lst []):=ao p _;have n:∀p'∈[t],H p'=none:=λp' W=>by rw[Zs.mp W];show p
 show Vh (B.tup p1) ?_;apply dN (B.get r) ?_;show dZ (B.tup pd) M ?_;dsimp only at q;rw[<-ez]at q f G;rw[Qb]at f;walk_at "ns";show tH (λz:ό×ϐ×Int=>↥z.1) (B.tup hT) (λi J g=>(An3 (Sb [t] H g) (∃k:ϊ Lb,g t=!(.lst (k.map λz:Lb=>↥z.1))/\(k.map λz:Lb=>z.2.2.1).Sublist (((zs.map (·.2)).take i).map (·.1))/\∀z∈k,g z.1=!(.tup [.str z.2.2.1,↥z.2.1])/\g z.2.1=!(.tup [.int z.2.2.2.1,.int z.2.2.2.2])/\SX L d2 z.2.2.2)<|Ex3 λY zz o3=>J=[!↥h1,!↥h2,!↥pa,!↥t,Y,zz,o3])) #[Sb.of B,#[[],aj,List.Sublist.refl _,by simp],_,_,_,Z] ?_ ?_ ?_;.rintro i J g ⟨u,_⟩;show(u.off n).tup hT
 .rintro i ⟨za,s,c⟩ J g S ⟨u,⟨k,d,v,x⟩,Y,zz,o3,rfl⟩;have A:=u.off n;have hd:=hz _<|Yf S;dsimp only at hd;have O:((zs.map (·.2)).take<|i+1).map (·.1)=((zs.map (·.2)).take i).map (·.1)++[s]:=by rw[Ð,Á,S,Â];rfl
  rw[O];have ab:↑k<=1000:=by have:=v.length_le;rw[Qb,Qb]at this;show Í this<|Í (List.length_take_le' ..)<|by rw[Qb];show f
  show cN (A.tup hd) Z ?_;apply Vh (A.tup q1) ?_;apply cZ (A.get r) ?_;show dZ (A.tup qd) N ?_;apply#[b2,_,s,Z,D.same A,?_];symm;cases hb:Hs.dr (d2.getD py.toNat []) s with
  |none=>apply iu Z ?_;apply#[u,#[k,d,v.trans<|List.sublist_append_left ..,x],_,_,_,Z]|some b=>
   apply Ia (by intro z;cases z) ?_;apply fB (gI d) ?_;symm;intro y X;symm;intro t2 I;symm;have T:=(ao X<|HO.tup [V.int c,V.int b]).new (o:=HO.tup [V.str s,↥y]) I;have m:=T.get d;show gY m (by rw[Qb];rfl') ?_;apply#[(u.same T).set<|by simp,#[k++[(t2,y,s,(c,b))],by rw[aj,Â];rfl,by rw[Â];show v.append<|List.Sublist.refl _,λz mz=>?_],_,_,_,Z];have j:∀{a:ό}{l:ϊ V},upd (upd g y<|HO.tup [V.int c,V.int b]) t2 (HO.tup [V.str s,↥y]) a=!(.tup l)->∀w,upd (upd (upd g y<|HO.tup [V.int c,V.int b]) t2<|HO.tup [V.str s,↥y]) t (.lst w) a=!(.tup l):=λe w=>by rw[aq<|gH e m];show e
   rcases Æ.mp mz with mz|mz;.show #[j (T.get (x z mz).1) _,j (T.get (x z mz).2.1) _,(x z mz).2.2]
   .rw [Zs.mp mz];show#[j aj _,j (aF I aj) _,G (s,c)<|Zp.mpr #[_,Yf S,Z],Wy w2 hb]
 .rintro J g ⟨u,⟨k,d,v,x⟩,Y,zz,o3,rfl⟩;rw[æ<|by rw[Qb];show Ã _]at v;apply q t g k (u.off n) p d x v
theorem QX{a b:L2S}{P:ϊ<|Int×Int}(e:P.Nodup)(h:∀p∈P,SX a b p)(k:↑a<=2)(n:↑b<=2):↑P<=4:=by
 have:=Wx (l:=P) (m:=(List.range 2).flatMap λi:Nat=>(List.range 2).map λj:Nat=>((i:Int),(j:Int))) e λp m=>by let#[#[c,f],d,g]:=h p m;show ÿ.mpr #[p.1.toNat,ì.mpr (),Zp.mpr #[p.2.toNat,ì.mpr (),by rw[č c,č d]]]
 show Í this<|by ac_nf
inductive gg(K:Ϗ)(vs:ϊ V)(H:Hp)(Q:VK)(E:XK):Prop|mk (e f:ό) (a b:L2S) (g h:ϊ Int) (d:ϊ Nat) (k:vs=[.ref e,.ref f]) (e:HsT K H e a g) (f:HsT K H f b h) (l:GdB a) (m:GdB b) (n:Hs.Wf a) (o:Hs.Wf b) (p:(∀c∈d,Hs.Sg (tx [c]))) (s:(∀ps∈a,∀q∈ps,∃c∈d,q.1=tx [c])) (t:↑a<=2) (i:↑b<=2) (j:∀r H' ds es,Same H H'->HsT K H' r ds es->HsO d ds es->Q (.ref r) H')
abbrev Kl K:=(aA (cH (cC K gB) (gr K 2<|bf (ak 6)<|bf (ak 7) gF) (bD (tB<|lK oW cG) (aA (iH cG oW<|eF K bT)
  (di<|ue K "list" cY bT<|cA oW)) aR))
  (di<|ue K "list" cY dF<|cA<|kJ [none,none,!3] (cC K gB) (gr K 2<|bf (ak 0)<|bf (ak 1) gF) dJ<|dj<|bF aU<|fQ bT bc))
abbrev Km K:=(aA (fZ (aN<|aM lN (eF K dF)<|eF K bT) (aA (aL (bB (fg K)<|kW aU bc<|aM (cD K) bT<|eF K dF)<|ak 5)
  (Kl K)))
  (aA (aL (kJ [none,!3,!0,!1] (cC K bT) (ak 0) (kh (aN<|aM (Ol K false) (tX K aU 0)<|tX K bT 1)<|aN<|aM (Ol K false) (tX K aU 1)<|tX K cG 1)<|fQ bc aU)<|ak 8)
  (aW<|bB (ei K)<|bF dF xR)))
abbrev Ko K(E:XK)(Eh:XK):=(aA (aL (gf<|cA<|dj<|bF (tI 0)<|tI 0)<|ak 2)
  (aA (aL (z6 (dj<|bF (tI 0)<|tI 0)<|tI 0)<|ak 3)
  (aA (aL (gf gJ)<|ak 4)
  (Km K))))
abbrev uZ:ϊ ϐ:=sN ["one","other","pairs","numbers","doors","leads","sign","pair","ends"]
theorem WD(h:gg K vs H Q E):RG (Ko K E) uZ vs H Q:=by
 let#[h1,h2,d1,d2,e1,e2,cs,rfl,bd,be,g1,g2,w1,w2,b0,bl,l1,l2,q]:=h;show#[E0,?_];symm;intro t0 a7;symm;intro A ag;symm;intro t X;symm;intro t1 ad;symm;have n1:A≠t:=aP aj X;have n2:t≠t1:=aP aj ad;have n3:A≠t1:=aP (aF X aj) ad;show#[by rw[aq n2];show aj,Ac (0,0),t1,Z,aj,?_];have S0:Same H (upd (upd H t0 (HO.tup [V.int 0,V.int 0])) A (HO.lst [↥t0])):=(ao a7 _).new ag;have av:H A=none:=(ao a7 _).free ag;have aw:H t=none:=S0.free X;let#[HI,T]:∃HI,HI=upd (upd (upd (upd (upd H t0 (HO.tup [V.int 0,V.int 0])) A (HO.lst [↥t0])) t (HO.dT [])) t1 (HO.tup [V.int 0,V.int 0])) t (HO.dT [(Ac (0,0),V.int 0)]):=#[_,Z];have br:Sb [A,t] H HI:=by rw[T];show((((Sb.of S0).new X).new ad).set (by simp))
 have I:HI A=!(.lst [↥t0]):=by rw[T,aq n1,aq n3,aq n1];show aj
 have N:HI t=!(.dT [(Ac (0,0),V.int 0)]):=by rw[T];show aj
 have bs:HI t0=!(.tup [V.int 0,V.int 0]):=by have a0:upd (upd (upd (upd H t0 (HO.tup [V.int 0,V.int 0])) A (HO.lst [↥t0])) t (HO.dT [])) t1 (HO.tup [V.int 0,V.int 0]) t0=!(.tup [V.int 0,V.int 0]):=aF ad (aF X (aF ag aj));rw[T,aq (dm a0 (show upd (upd (upd (upd H t0 (HO.tup [V.int 0,V.int 0])) A (HO.lst [↥t0])) t (HO.dT [])) t1 (HO.tup [V.int 0,V.int 0]) t=!(.dT [])by rw[aq n2];show aj) (by intro q;cases q))];show a0
 rw[<-T];clear T S0 a7 ag X ad n2 n3;symm;intro dr O;have n4:A≠dr:=aP I O;have n5:t≠dr:=aP N O;have bk:H dr=none:=(br.off λp hp=>by
  simp only[Å,Ú,þ]at hp;rcases hp with rfl|rfl;.show av
  .show aw).free O;have b1:∀p∈[A,t,dr],H p=none:=λp hp=>by
  simp only[Å,Ú,þ]at hp;rcases hp with rfl|rfl|rfl;.show av
  .show aw
  .show bk
 have b3:∀ps∈d1,↑ps<=1000:=λps m=>Í (g1.ln ps m) (by decide);symm;walk_at "ns";show oU (λσ M=>(An2 (Sb [A,t,dr] H M) (Ex5 λ(F:ϊ (ό×(Int×Int))) (d:ϊ (ό×ϊ Dz)) (o1 o2 o3:ύ V)=>(An9 ((F.map (·.2)).Nodup) (∀z∈F,SX d1 d2 z.2/\M z.1=!(.tup [.int z.2.1,.int z.2.2])) (1<=↑F) (M A=!(.lst (F.map λz=>↥z.1))) (M t=!(.dT (Kh (F.map (·.2)) 0))) (M dr=!(.lst (d.map λr=>↥r.1))) (↑d<=↑F) (∀r∈d,M r.1=!(.lst (r.2.map λz:Dz=>↥z.1))/\r.1∉[A,t,dr]/\(r.2.map (·.2.1)).Nodup/\↑r.2<=62/\∀z∈r.2,M z.1=!(.tup [.str z.2.1,.int z.2.2])/\(∃c∈cs,z.2.1=tx [c])/\0<=z.2.2/\z.2.2<↑F) (σ=[!↥h1,!↥h2,!↥A,!↥t,!↥dr,o1,o2,o3,none]))))) (λ_ M=>match M dr with|some (.lst l)=>5-↑l|_=>0) ⟨(Sb.more br (by simp)).new O,[(t0,(0,0))],[],_,_,_,by simp,λz D=>?_,Ã _,aF O I,aF O N,aj,ä _,by simp,Z⟩ ?_ ?_;.rw [Zs.mp D];have:=w1.pos;have:=w2.pos;show#[#[#[Int.le_refl 0,by change(0:Int)<_;rfl'],Int.le_refl 0,by change(0:Int)<_;rfl'],aF O bs]
 .rintro σ M ⟨sb,F,d,o1,o2,o3,nd,ha,bv,I,N,U,cf,ay,rfl⟩;have h4:∀{L:ϊ (ό×(Int×Int))},(L.map (·.2)).Nodup->(∀z∈L,SX d1 d2 z.2)->↑L<=4:=λ{L} n h=>by have:=QX (P:=L.map (·.2)) n (λp m=>by let#[z,D,rfl]:=Zp.mp m;show h z D) l1 l2;rw[Qb]at this;show this
  have ce:=h4 nd λz D=>(ha z D).1;have S':=sb.off b1;apply kE U ?_;apply kE I ?_;apply cM (λc1=>?_) λc1=>?_
  .obtain ⟨z,hz⟩:∃z,F[↑d]?=!z:=#[_,Zl ()];have D:=Yf hz;apply kE U ?_;show oJ I hz ?_;apply#[h1,h2,z.1,d1,d2,e1,e2,z.2,Z,bd.same S',be.same S',(ha z D).2,(ha z D).1,w1,w2,b3,λwa H1 zs s1 Y a4 bo ac=>?_];have al:=s1.get I;have ap:=s1.get N;have ai:=s1.get U;have bq:wa∉[A,t,dr]:=λm=>by
    simp only[Å,Ú,þ]at m;rcases m with rfl|rfl|rfl;.rw [I]at Y;cases Y
    .rw [N]at Y;cases Y
    .rw [U]at Y;cases Y
   have kt:∀{J:Hp}{a:ό}{l:ϊ V},Sb [A,t,dr] H1 J->H1 a=!(.tup l)->J a=!(.tup l):=λ{J a l} u e=>u a _ (λm=>by
    simp only[Å,Ú,þ]at m;rcases m with rfl|rfl|rfl;.rw [al]at e;cases e
    .rw [ap]at e;cases e
    .rw [ai]at e;cases e) e;have a6:d1.getD z.2.1.toNat []∈d1:=by let#[#[a1,a2],_]:=(ha z D).1;rw[Xs,Zl ()];show Ø _
   have bn:↑zs<=62:=by have:=ac.length_le;rw[Qb,Qb]at this;show Í this (g1.ln _ a6)
   symm;walk_at "ns";show gn (λy:Lb=>↥y.1) (zs:=zs) (gI a4) (λi σ J=>(An2 (Sb [A,t,dr] H1 J) (Ex3 λ(f:ϊ (ό×(Int×Int))) (o1 o2:ύ V)=>(An8 ((f.map (·.2)).Nodup) (∀z∈f,SX d1 d2 z.2/\J z.1=!(.tup [.int z.2.1,.int z.2.2])) (↑F<=↑f) (∀y∈zs.take i,y.2.2.2∈f.map (·.2)) (J A=!(.lst (f.map λz=>↥z.1))) (J t=!(.dT (Kh (f.map (·.2)) 0))) (J dr=!(.lst (d.map λr=>↥r.1))) (σ=[!↥h1,!↥h2,!↥A,!↥t,!↥dr,!↥wa,o1,o2,none]))))) #[Sb.of (gN _),F,_,_,nd,λz D=>#[(ha z D).1,s1.get (ha z D).2],Ã _,by simp,al,ap,ai,Z] ?_ ?_ ?_;.rintro i σ J ⟨u,_⟩;show gI (u.get bq a4)
   .rintro i ⟨ya,yb,s,yx,yy⟩ σ J hi ⟨u,f,o1,o2,zz,W,ah,R,C,g,B,rfl⟩;let#[ae,af,iy]:=bo _ (Yf hi);dsimp only at ae af iy;have u2:=kt u af;have bi:=h4 zz λz D=>(W z D).1;have ab:zs.take (i+1)=zs.take i++[(ya,yb,s,yx,yy)]:=by rw[Ð,hi];rfl
    rw[ab];show cN (gL (kt u ae)) Z ?_;apply#[t,_,Z,DGet.t (k:=Ac (yx,yy)) g u2,?_];rw[mF];by_cases m:(yx,yy)∈f.map (·.2)
    .rw [β m];symm;change if(not true)=true then _ else _;apply#[u,f,_,_,zz,W,ah,λy my=>?_,C,g,B,Z];rcases Æ.mp my with my|my;.show R y my
     .rw [Zs.mp my];show m
    .rw [γ m];symm;change if(not false)=true then _ else _;apply kE C ?_;apply#[t,_,Z,DPut.t (k:=Ac (yx,yy)) g u2 (Õ (by rw[Cu,Qb];show bi) (by decide)),?_];rw[cT _ (by rw[mF,γ m])];symm;have am:∀w,upd J t w A=!(.lst (f.map λz=>↥z.1)):=λw=>by rw[aq n1];show C
     show fB (gI (am _)) ?_;apply gY (am _) (by rw[Qb];rfl') ?_;apply#[(u.set (by simp)).set (by simp),f++[(yb,(yx,yy))],_,_,?_,λy my=>?_,by rw[É];show Í ah (œ ..),λy my=>?_,by rw[aj,Â];rfl,by rw[aq n1.symm,aj,Â];change _=!(HO.dT (Kh (_++[(yx,yy)]) 0));rw[yc,ī,Qb],by rw[aq n4.symm,aq n5.symm];show B,Z];.rw [Â];show å.mpr #[zz,by simp,λa ma b mb e=>m (by rw[Zs.mp mb]at e;rw[<-show a=(yx,yy)from e];show ma)]
     .have hy:SX d1 d2 y.2/\J y.1=!(.tup [.int y.2.1,.int y.2.2]):=by
       rcases Æ.mp my with my|my;.show W y my
       .rw [Zs.mp my];show#[iy,u2]
      show#[hy.1,by rw[aq (gH hy.2 C),aq (gH hy.2 g)];show hy.2]
     .rw [Â];rcases Æ.mp my with my|my;.show ç _ (R y my)
      .rw [Zs.mp my];show ß _ Ì
   .rintro σ J ⟨u,f,o1,o2,zz,W,ah,R,C,g,B,rfl⟩;rw[æ (Ã _)]at R;have ar:=u.get bq a4;generalize hP:f.map (·.2)=P at zz R g;have bg:↑P=↑f:=by rw[<-hP,Qb]
    apply fB (gI B) ?_;symm;walk_at "ns";show uI (λy:Lb=>↥y.1) (zs:=zs) (gI ar) (Í bn (by decide)) (λi vs H3=>(An2 (Same J H3) (Ex1 λ(S:ϊ Dz)=>(An3 (vs=S.map (λz:Dz=>↥z.1)) (S.map (·.2)=(zs.take i).map (λy:Lb=>(y.2.2.1,(P.idxOf y.2.2.2:Int)))) (∀z∈S,H3 z.1=!(.tup [.str z.2.1,.int z.2.2])))))) #[gN _,[],Z,Z,by simp] ?_ ?_ ?_ ?_;.rintro i vs H3 ⟨s3,_⟩;show gI (s3.get ar)
    .rintro i vs H3 ⟨_,S,rfl,eu,_⟩;have:=Ö List.length eu;rw[Qb,Qb,Ñ]at this;rw[Qb];rfl'
    .rintro i ⟨ya,yb,s,yx,yy⟩ vs H3 hi ⟨s3,S,rfl,eu,hu⟩;have my:=Yf hi;let#[ae,af,_]:=bo _ my;dsimp only at ae af;show cN (gL (s3.get (kt u ae))) Z ?_;apply#[t,V.int (P.idxOf (yx,yy):Nat),Z,by have:=DGet.t (k:=Ac (yx,yy)) (s3.get g) (s3.get (kt u af));rw[mF,β (R _ my),ī]at this;show this,?_];symm;intro tp bm;show#[s3.new bm,S++[(tp,s,(P.idxOf (yx,yy):Int))],by rw[Â];rfl,by rw[Â,eu,Ð,hi,Â];rfl,λy my=>?_];rcases Æ.mp my with my|my;.show aF bm (hu y my)
     .rw [Zs.mp my];show aj
    .rintro vs H3 ⟨s3,S,rfl,eu,hu⟩ nl a5;rw[æ (Ã _)]at eu;have S4:=s3.new (o:=HO.lst (S.map λz:Dz=>↥z.1)) a5;apply gY (S4.get B) (by rw[Qb];rfl') ?_;symm;have G:J nl=none:=s3.free a5;have bp:nl∉[A,t,dr]:=λm=>by
      simp only[Å,Ú,þ]at m;rcases m with rfl|rfl|rfl;.rw [C]at G;cases G
      .rw [g]at G;cases G
      .rw [B]at G;cases G
     have a8:=S4.get B;have a3:Sb [A,t,dr] M J:=λb o n e=>u b o n (s1 b o e);have cc:Sb [A,t,dr] H J:=λb o n e=>a3 b o n (sb b o n e);have kd:∀{a:ό}{l:ϊ V},upd H3 nl (HO.lst (S.map λz:Dz=>↥z.1)) a=!(.tup l)->∀w,upd (upd H3 nl (HO.lst (S.map λz:Dz=>↥z.1))) dr (.lst w) a=!(.tup l):=λe w=>by rw[aq (gH e a8)];show e
     have bb:S.map (·.2.1)=zs.map λy:Lb=>y.2.2.1:=by have:=Ö (List.map (·.1)) eu;rw[Ä,Ä]at this;show this
     show#[#[(cc.same S4).set (by simp),f,d++[(nl,S)],_,_,_,by rw[hP];show zz,λy my=>#[(W y my).1,kd (S4.get (W y my).2) _],Í bv ah,by rw[aq n4];show S4.get C,by rw[aq n5,hP];show S4.get g,by rw[aj,Â];rfl,by simp;rfl',λr mr=>?_,Z],?_]
     .rcases Æ.mp mr with mr|mr;.obtain ⟨r1,r2,r3,r4,r5⟩:=ay r mr;show#[by rw[aq λe=>r2 (by rw[e];simp)];show S4.get (a3 _ _ r2 r1),r2,r3,r4,λy my=>?_];let#[y1,y2,y3,y4]:=r5 y my;show#[kd (S4.get (kt u (s1.get y1))) _,y2,y3,()]
      .rw [Zs.mp mr];show#[by rw[aq λ(e:nl=dr)=>bp (by rw[e];simp)];show aj,bp,by rw[bb];show(dB (g1.sr _ a6)).sublist ac,by have:=Ö List.length eu;rw[Qb,Qb]at this;rw[this];show bn,λy my=>#[kd ((ao a5 (HO.lst (S.map λz:Dz=>↥z.1))).get (hu y my)) _,?_,?_]];.have:y.2.1∈S.map (·.2.1):=Zp.mpr #[y,my,Z];rw[bb]at this;let#[x,mx,ex]:=Zp.mp (ac.subset this);let#[c,mc,ec]:=bl _ a6 x mx;show#[c,mc,by rw[<-ec];show ex.symm]
       .have:y.2∈S.map (·.2):=Zp.mpr #[y,my,Z];rw[eu]at this;let#[x,mx,ex]:=Zp.mp this;have:=ő (R x mx);rw[<-ex];dsimp only;rfl'
     .show (match upd (upd H3 nl _) dr _ dr with|some (.lst l)=>5-↑l|_=>0)<(match M dr with|some (.lst l)=>5-↑l|_=>0);rw[aj,U];dsimp only;simp only[É,Qb,ã];show Nat.sub_lt_sub_left (show↑d<5 by rfl') (Ĕ _)
  .have ax:↑d=↑F:=();generalize hP:F.map (·.2)=P at nd N;have bg:↑P=↑F:=by rw[<-hP,Qb]
   have bx:∀z∈F,z.2∈P:=λz D=>by rw[<-hP];show Zp.mpr #[z,D,Z]
   let#[ci,cj,b6,b9,_]:=bd.at;let#[cm,cn,ca,cb,_]:=be.at;symm;walk_at "ns";show uI (λz:ό×(Int×Int)=>↥z.1) (zs:=F) (gI I) () (λi vs H3=>(An2 (H3=M) (vs=((F.take i).filter λz=>decide (z.2.1∈e1)&&decide (z.2.2∈e2)).map λz=>V.int (P.idxOf z.2:Nat)))) #[Z,Z] ?_ ?_ ?_ ?_;.rintro i vs _ ⟨rfl,_⟩;show gI I
   .rintro i vs _ ⟨rfl,rfl⟩;rw[Qb];show Í (Ħ ..) (by rw[Ñ];rfl')
   .rintro i z vs _ hi ⟨rfl,rfl⟩;have D:=Yf hi;have tz:=(ha z D).2;have ab:F.take (i+1)=F.take i++[z]:=by rw[Ð,hi];rfl
    apply dN tz ?_;apply Vi (S'.tup b6) ?_;show Es (.inr (S'.tup b9)) Z (iV _) ?_;rw[jX];apply cM (λc2=>?_) λc2=>?_
    .symm;show cZ tz ?_;apply Vi (S'.tup ca) ?_;show Es (.inr (S'.tup cb)) Z (iV _) ?_;rw[jX];apply cM (λc3=>?_) λc3=>?_;.symm;show#[t,V.int (P.idxOf z.2:Nat),Z,by have:=DGet.t (k:=Ac z.2) N tz;rw[mF,β (bx z D),ī]at this;show this,?_];show#[Z,by rw[ab,ŵ,Â,ŀ,β (by simp[c2,c3])];rfl]
     .show #[Z,by rw[ab,ŵ,Â,ŀ,γ (by simp[c3])];simp]
    .show #[Z,by rw[ab,ŵ,Â,ŀ,γ (by simp[c2])];simp]
   rintro vs _ ⟨rfl,rfl⟩ pe b4;rw[æ (Ã _)];rename_i M;have a9:((F.filter λz=>decide (z.2.1∈e1)&&decide (z.2.2∈e2)).map λz=>V.int (P.idxOf z.2:Nat))=(uY e1 e2 P).map V.int:=by unfold uY;rw[<-hP,List.filter_map,Ä,Ä];rfl
   rw[a9];have s9:Same M (upd M pe (HO.lst ((uY e1 e2 P).map V.int))):=ao b4 _;apply#[dr,pe,d,uY e1 e2 P,cs,Z,gI (s9.get U),λr mr=>?_,b0,gI aj,λx mx=>by rw[ax,<-bg];show QT x mx,(QS nd).imp (λh e=>()),?_,(),(),λr H5 ds es s5 hH hO _=>q r H5 ds es (S'.trans (s9.trans s5)) hH hO];.obtain ⟨r1,_,r3,r4,r5⟩:=ay r mr;show#[gI (s9.get r1),λz D=>#[gL (s9.get (r5 z D).1),(r5 z D).2.1,by rw[ax];show(r5 z D).2.2],r3,Õ r4 (by decide)]
   .have:=Kg (e1:=e1) (e2:=e2) (P:=P);rfl'
 .rintro σ H Q Q' hq ⟨v,hv,x,n,e,hl,v',b5,x',n',e',b2,i,j,e1,e2,k,e3,z⟩;show#[v,hv,x,n,e,hl,v',b5,x',n',e',b2,i,j,e1,e2,k,e3,hq _ _ z]
def cst(ys co:ϊ Nat):Nat:=Mm.bh (co.take<|min ↑co ↑ys)<|ys.take<|min ↑co ↑ys
def Cv(ys:ϊ Nat)(ls:ϵ):ϊ (ϐ×Nat):=ls.map λp=>(p.1,cst ys p.2)
noncomputable def Cw(cs:ϊ<|ϐ×Nat):ϊ (Key×V):=cs.map λp=>(Sum.inr p.1,V.int (p.2:Nat))
theorem Ad{b:ϊ Nat}:∀{ls:ϵ},Fo.lk ls s=!b->bu (Cw (Cv a ls)) (Sum.inr s)=!(V.int (cst a b:Nat))
 |[],h=>by cases h|p::r,h=>by
  rw[Fo.gZ]at h;change bu ((Sum.inr p.1,V.int (cst a p.2:Nat))::Cw (Cv a r)) (Sum.inr s)=_;by_cases e:p.1=s
  .rw [β e]at h;cases h;rw[cF (by change Sum.inr _=Sum.inr _;rw[e])]
  .rw [γ e]at h;rw[bM (by intro z;show e (Ĥ z))];show Ad h
inductive dS(K:Ϗ)(vs:ϊ V)(H:Hp)(Q:VK)(E:XK):Prop|mk (f o:ό) (h:Nat) (a:ϵ) (b:ϊ Nat) (c:vs=[.ref f,.ref o]) (d:FnT K H f h a) (e:Fo.Wf h a) (g:SqT K H o (nv b)) (i:↑b<=1000) (j:∀r H',Same H H'->H r=none->H' r=!(.dK (Cw (Cv b a)))->Q (.ref r) H')
abbrev Kp K(E:XK)(Eh:XK):=(aA (aL jE<|ak 2)
  (aA (cH (ph K<|tX K aU 1) (gr K 2<|bf (ak 3)<|bf (ak 4) gF) (aA (aL (gw pP<|bF (eF K dF)<|eF K bc)<|ak 5)
  (iH bT cG<|bB (gu K)<|bF (vR (wN K) dF cQ<|fj gB)<|vR (wN K) bc cQ<|fj gB)))
  (aW bT)))
abbrev Kq:ϊ ϐ:=sN ["font","over","costs","sign","columns","wide"]
theorem WF(h:dS K vs H Q E):RG (Kp K E) Kq vs H Q:=by
 let#[f,o,h,a,c,rfl,hF,R,X,ac,q]:=h;show#[E0,?_];have I:(a.map (·.1)).Nodup:=R.up.imp λG e=>by subst e;show ŭ _ G
 let#[l,zs,t1,v,t3,t4]:=id hF;have L:↑zs=↑a:=by rw[<-v,Qb]
 have F:=R.le;symm;intro r x;apply cZ (aF x t1) ?_;have d:∀p'∈[r],H p'=none:=λp' J=>by rw[Zs.mp J];show x
 walk_at "ns";show tH (λz:Lz=>↥z.1) ((ao x _).tup t3) (λi B n=>(An3 (Sb [r] H n) (n r=!(.dK<|Cw<|Cv c<|a.take i))<|Ex3 λM N O=>B=[!↥f,!↥o,!↥r,M,N,O])) #[Sb.of<|ao x _,aj,_,_,_,Z] ?_ ?_ ?_;.rintro i B n ⟨t,_⟩;show(t.off d).tup t3
 .rintro i ⟨za,s,ca,b⟩ B n Y ⟨t,A,M,N,O,rfl⟩;have S:=t.off d;have mz:=Yf Y;let#[u1,P]:=t4 _ mz;dsimp only at u1 P;have j:a[i]?=!(s,b):=by rw[<-v,Á,Y];rfl
  have c1:=R.c1 _<|Yf j;dsimp only at c1;have ab:i<↑a:=(À.mp j).1;have u:a.take (i+1)=a.take i++[(s,b)]:=by rw[Ð,j];rfl
  have w:s∉(a.take i).map (·.1):=by have W:((a.take<|i+1).map (·.1)).Nodup:=Ē ((Ę _ _).map _) I;rw[u,Â,å]at W;showλm=>W.2.2 s m s (by simp) Z
  show cN (gL<|S.get u1) Z ?_;apply cu (gL<|S.get P) ?_;rw[Qb];apply cu (S.tup X) ?_;rw[Qb];symm;rw[show(if(↑c:Int)<(↑b:Int)then(↑c:Int)else(↑b:Int))=((min ↑b ↑c:Nat):Int)by split<;>rfl'];walk_at "ns";show SJ (gL<|S.get P) λp1 H1 s1 U=>?_;rw[zF<|BZ<|min _ _,Ó,nv,<-List.map_take]at U;apply SJ ((S.trans s1).tup X) λp2 H2 s2 C=>?_;rw[zF<|BZ<|min _ _,Ó,nv,<-List.map_take]at C;apply#[p1,p2,b.take<|min ↑b ↑c,c.take<|min ↑b ↑c,Z,s2.tup U,by first|show C|show .inr C,by rw[Ñ,Ñ];rfl',by rw[Ñ];rfl',λH3 s3=>?_];have T:=(s1.trans s2).trans s3;have D:=T.get A;have hv:bu (Cw<|Cv c<|a.take i) (Sum.inr s)=none:=fV (f:=λp:ϐ×Nat=>(Sum.inr p.1:Key)) (g:=λp:ϐ×Nat=>V.int (p.2:Nat)) λm=>by let#[p,zz,e]:=Zp.mp m;let#[y,my,rfl]:=Zp.mp zz;show w<|Zp.mpr #[y,my,Ĥ e]
  apply#[r,_,Z,DPut.k (k:=Sum.inr s) D<|Õ (by unfold Cw Cv;rw[Qb,Qb,Ñ];show RT F:_<=40)<|by decide,?_];rw[cT _ hv];apply#[(t.same T).set<|by simp,?_,_,_,_,Z];rw[aj,u];unfold Cv Cw;rw[Â,Â];rfl
 .rintro B n ⟨t,A,M,N,O,rfl⟩;rw[L,à]at A;apply q r n (t.off d) x A
section
variable{α:Type}[DecidableEq α]
noncomputable def jt(L qs:ϊ α):ϊ α:=qs.foldl (λL q=>if q∈L then L else L++[q]) L
def qC(L:ϊ α):jt L []=L:=Z
theorem EY(L a:ϊ α)(q:α):jt L (a++[q])=if q∈jt L a then jt L a else jt L a++[q]:=by unfold jt;rw[List.foldl_append];rfl
theorem qD:∀(qs L:ϊ α),∃E,jt L qs=L++E
 |[],L=>#[[],by rw[qC,û]]|q::qs,L=>by
  change∃E,jt (if q∈L then L else L++[q]) qs=L++E;split;.show qD qs L
  .obtain ⟨E,e⟩:=qD qs<|L++[q];show#[q::E,by rw[e,ø];rfl]
theorem iY:∀{qs L:ϊ α}{x:α},x∈jt L qs↔x∈L\/x∈qs
 |[],L,x=>by rw[qC];simp|q::qs,L,x=>by
  change x∈jt (if q∈L then L else L++[q]) qs↔_;rw[iY];split
  .rename_i h;constructor
   .rintro (m|m);.show .inl m
    .show .inr<|Ê _ m
   .rintro (m|m);.show .inl m
    .rcases Å.mp m with rfl|m;.show .inl h
     .show .inr m
  .rw [Æ,Zs,Å,or_assoc]
theorem oX:∀{qs L:ϊ α},L.Nodup->(jt L qs).Nodup
 |[],L,h=>h|q::qs,L,h=>by
  change(jt (if q∈L then L else L++[q]) qs).Nodup;split;.show oX h
  .rename_i c;show oX<|å.mpr #[h,by simp,λa m b d e=>c ?_];rw[Zs.mp d]at e;rw[<-e];show m
def dC(nx:α->ϊ α)(st:α):Nat->ϊ α
 |0=>[st]
 |k+1=>match(dC nx st k)[k]?with
  |none=>dC nx st k|some p=>jt (dC nx st k)<|nx p
theorem iZ{a:α->ϊ α}{b:α}{k:Nat}{p:α}(h:(dC a b k)[k]?=!p):dC a b (k+1)=jt (dC a b k) (a p):=by rw[dC,h]
theorem Kr{a:α->ϊ α}{b:α}{k:Nat}(h:↑(dC a b k)<=k):dC a b (k+1)=dC a b k:=by rw[dC,Ā h]
theorem tU(a:α->ϊ α)(b:α)(k:Nat):∃E,dC a b (k+1)=dC a b k++E:=by cases h:(dC a b k)[k]?with
 |none=>show#[[],by rw[dC,h,û]]|some p=>rw[iZ h];show qD _ _
theorem qF(a:α->ϊ α)(b:α)(k:Nat):∀j,∃E,dC a b (k+j)=dC a b k++E
 |0=>#[[],by rw[Nat.add_zero,û]]
 |j+1=>by let#[E,e]:=qF a b k j;let#[F,f]:=tU a b<|k+j;show#[E++F,by rw[<-ņ,f,e,ø]]
theorem ig(a:α->ϊ α)(b:α):∀k,(dC a b k).Nodup
 |0=>by rw[dC];simp|k+1=>by
  cases h:(dC a b k)[k]?with
  |none=>rw[dC,h];show ig a b k|some p=>rw[iZ h];show oX<|ig a b k
theorem jY{nx:α->ϊ α}{st:α}{k:Nat}(h:↑(dC nx st k)<=k):∀j,dC nx st (k+j)=dC nx st k
 |0=>Z
 |j+1=>by have e:=jY h j;rw[<-ņ,Kr<|by rw[e];show uH h _,e]
theorem yd{a:α->ϊ α}{b:α}:∀{k j:Nat}{p q:α},j<k->(dC a b k)[j]?=!p->q∈a p->q∈dC a b k:=λ{k j p q} h d g=>by
 let#[i,rfl]:∃i,k=(j+1)+i:=#[k-(j+1),()];let#[E,e]:=qF a b (j+1) i;let#[F,f]:=tU a b j;rw[e];show ç _ ?_;by_cases c:j<↑(dC a b j)
 .have:(dC a b j)[j]?=!p:=by rw[e,f,ø,ĸ c]at d;show d
  rw[iZ this];show iY.mpr<|.inr g
 .have:=jY (nx:=a) (st:=b) (k:=j) (HY c)<|1+i;rw[<-ņ]at this;rw[this,Ā<|HY c]at d;cases d
theorem eZ{c:α->ϊ α}{d:α}{P:α->Prop}(a:P d)(b:∀p q,P p->q∈c p->P q):∀k,∀p∈dC c d k,P p
 |0,p,m=>by rw[dC,Zs]at m;rw[m];show a|k+1,p,m=>by
  cases h:(dC c d k)[k]?with
  |none=>rw[dC,h]at m;show eZ a b k p m|some p'=>
   rw[iZ h]at m;rcases iY.mp m with m|m;.show eZ a b k p m
   .show b p' p (eZ a b k p'<|Yf h) m
end
theorem jO(a b:ϐ):↑(a++b)=↑a+↑b:=by change↑(Str.append a b)=_;simp[Str.append,Str.length]
theorem f9{c:Type}[DecidableEq c]:∀{l m:ϊ c},l.Nodup->(∀x∈l,x∈m)->↑l<=↑m
 |[],m,_,_=>ä _|x::l,m,hn,hs=>by
  have a:=hs x Ì;let#[d,f]:=ï.mp hn;have:=f9 (l:=l) (m:=m.erase x) f λy b=>(Θ<|λ(e:y=x)=>d<|by rw[<-e];show b).mpr<|hs y<|Ê _ b;rw[ť a]at this;have:=ġ a;rw[í];rfl'
def cV(wss:ϲ)(k:Nat):ϊ Int:=dC (λr=>(wss.getD r.toNat []).map (·.2.2)) 0 k
theorem vd:∀{ps:ϊ<|Int×ϐ}{r:Int},r∈ps.map (·.1)->∃t,(r,t)∈ps/\bu (ps.map λp=>((Sum.inl p.1:Key),V.str p.2)) (Sum.inl r)=!(V.str t)
 |p::ps,r,m=>by
  rw[Ç];by_cases e:p.1=r;.show #[p.2,by rw[<-e];show Ì,by rw[cF (by rw[e])]]
  .obtain ⟨t,a,b⟩:=vd (ps:=ps) (r:=r) (by rcases Å.mp m with z|z;show μ z.symm e;show z);show#[t,Ê _ a,by rw[bM (by intro z;show e<|Sum.inl.inj z)];show b]
theorem QZ{ps:ϊ<|Int×ϐ}{r:Int}(h:r∉ps.map (·.1)):bu (ps.map λp=>((Sum.inl p.1:Key),V.str p.2)) (Sum.inl r)=none:=fV (f:=λp:Int×ϐ=>(Sum.inl p.1:Key)) (g:=λp=>V.str p.2) λm=>by let#[p,a,e]:=Zp.mp m;show h<|Zp.mpr #[p,a,Sum.inl.inj e]
inductive eI(K:Ϗ)(vs:ϊ V)(H:Hp)(Q:VK)(E:XK):Prop|mk (b:ό) (a:ϲ) (d:vs=[.ref b]) (e:WsT H b a) (f:0<↑a) (g:↑a<=100) (h:(∀c∈a,↑c<=1000/\∀w∈c,↑w.1<=1/\0<=w.2.2/\w.2.2<↑a)) (i:∀r H' (N:Nat) (ps:ϊ (Int×ϐ)),Same H H'->H r=none->ps.map (·.1)=cV a N->H' r=!(.dK (ps.map λp=>((Sum.inl p.1:Key),V.str p.2)))->↑(cV a N)<=N->(∀p∈ps,↑p.2<=↑ps)->Q (.ref r) H')
abbrev R3 K:=(aA (aL (ue K "list" yK bT<|cA<|tI 0)<|ak 3)
  (cH (cC K<|aM (cD K) aU cG) (gr K 3<|bf (ak 4)<|bf (ak 5)<|bf (ak 6) gF) (bD (tB<|lK ie bc) (aA (iH bc ie<|aM dG (fQ bc cG) dF)
  (di<|ue K "list" cY bT<|cA ie)) aR)))
abbrev T6 K(E:XK)(Eh:XK):=(aA (aL (Gk [((tC<|V.int 0),(tC<|V.str<|Str.ofString ""))])<|ak 1)
  (aA (aL (gf<|cA<|tI 0)<|ak 2)
  (aA (fZ (aN<|aM kj (eF K bT)<|tI 0)<|R3 K)
  (aW bc))))
abbrev T7:ϊ ϐ:=sN ["ways","texts","waiting","here","sign","columns","room"]
theorem Zd(h:eI K vs H Q E):RG (T6 K E) T7 vs H Q:=by
 let#[wa,a,rfl,hW,a8,a9,av,q]:=h;show#[E0,?_];have ai:∀k,∀r∈cV a k,0<=r/\r<↑a:=λk=>eZ (P:=λr:Int=>0<=r/\r<↑a) #[by decide,Vb a8] (λp q' hp hq=>by
  let#[w,mw,rfl]:=Zp.mp hq;have:a.getD p.toNat []∈a:=by rw[Xs,Zl<|HX hp];show Ø _
  show((av _ this).2 w mw).2) k;have Y:∀k,↑(cV a k)<=↑a:=λk=>by
  have:=f9 (l:=cV a k) (m:=(List.range ↑a).map λi:Nat=>(i:Int)) (ig _ _ k) λr mr=>by let#[h0,h1]:=ai k r mr;show Zp.mpr #[r.toNat,ì.mpr<|RP h0 h1,uG h0]
  rw[Qb,ê]at this;show this
 let#[rs,ae,a1,a2]:=id hW;have a7:↑rs=↑a:=by rw[<-ae,Qb]
 symm;intro d M;apply#[aj,[(Sum.inl 0,V.str<|Str.ofString "")],Z,by simp,?_];have ab:Sb [d] H (upd (upd H d<|HO.dK []) d<|HO.dK<|jF [] [(Sum.inl 0,V.str<|Str.ofString "")]):=(Sb.of<|ao M _).set (by simp);have F:upd (upd H d<|HO.dK []) d (HO.dK<|jF [] [(Sum.inl 0,V.str<|Str.ofString "")]) d=!(.dK ([((0:Int),(Str.ofString ""))].map λp=>((Sum.inl p.1:Key),V.str p.2))):=by rw[aj];rfl
 generalize upd (upd H d<|HO.dK []) d (HO.dK<|jF [] [(Sum.inl 0,V.str<|Str.ofString "")])=H0 at ab F;symm;intro t N;have n1:d≠t:=aP F N;have as:H t=none:=(ab.off λp hp=>by rw[Zs.mp hp];show M).free N;have L:∀p∈[d,t],H p=none:=λp hp=>by
  simp only[Å,Ú,þ]at hp;rcases hp with rfl|rfl;.show M
  .show as
 symm;walk_at "ns";show oU (λT A=>(An2 (Sb [d,t] H A) (Ex6 λ(k:Nat) (B:ϊ<|Int×ϐ) (o1 o2 o3 o4:ύ V)=>(An6 (k<=↑(cV a k)) (B.map (·.1)=cV a k) (∀p∈B,↑p.2<=↑B) (A d=!(.dK (B.map λp=>((Sum.inl p.1:Key),V.str p.2)))) (A t=!(.lst<|((cV a k).drop k).map V.int))<|T=[!↥wa,!↥d,!↥t,o1,o2,o3,o4])))) (λ_ A=>match A t with|some (.lst l)=>(match A d with|some (.dK m)=>1000-(↑m-↑l)|_=>0)|_=>0) ⟨(Sb.more ab (by simp)).new N,0,[(0,Str.ofString "")],_,_,_,_,ä _,Z,λp mp=>by rw[Zs.mp mp];decide,aF N F,aj,Z⟩ ?_ ?_
 .rintro T A ⟨sb,k,B,o1,o2,o3,o4,hk,J,ag,W,G,rfl⟩;have S':=sb.off L;have bg:↑B=↑(cV a k):=by rw[<-J,Qb]
  have bk:=Y k;apply dw (gI G) ?_;rw[Qb,ù];apply cM (λc1=>?_) λc1=>?_
  .have X:k<↑(cV a k):=();let#[r,hr]:∃r,(cV a k)[k]?=!r:=#[_,Zl X];have a3:(cV a k).drop k=r::(cV a k).drop (k+1):=by rw[Ŝ X,(À.mp hr).2]
   have mr:=Yf hr;let#[r0,r1]:=ai k r mr;let#[j,rfl]:∃j:Nat,r=(j:Int):=#[r.toNat,Eq.symm<|uG r0];let#[C,zz]:∃C,rs[j]?=!C:=#[_,Zl<|qN (Fi r1) a7];have ar:a[j]?=!C.2:=by rw[<-ae,Á,zz];rfl
   have a4:a.getD j []=C.2:=by rw[Xs,ar];rfl
   have af:cV a (k+1)=jt (cV a k) (C.2.map (·.2.2)):=by have:=iZ hr;change dC _ _ (k+1)=_;rw[this];change jt _ ((a.getD ((j:Int)).toNat []).map _)=_;rw[Ó,a4];rfl
   let#[aw,bd]:=av C.2<|Yf ar;let#[zs,ez,ad,hz]:=a2 C<|Yf zz;have bb:↑zs=↑C.2:=by rw[<-ez,Qb]
   apply fB (gI G) ?_;symm;rw[a3,Ç]at G;show Vu G ?_;symm;have n2:t≠d:=n1.symm;have O:upd A t (HO.lst<|((cV a k).drop<|k+1).map V.int) d=!(.dK (B.map λp=>((Sum.inl p.1:Key),V.str p.2))):=by rw[aq n1];show W
   have ac:=sb.set (p:=t) (o:=HO.lst<|((cV a k).drop<|k+1).map V.int) (by simp);have S1:=ac.off L;have R:upd A t (HO.lst<|((cV a k).drop<|k+1).map V.int) t=!(.lst<|((cV a k).drop<|k+1).map V.int):=aj;generalize upd A t (HO.lst<|((cV a k).drop<|k+1).map V.int)=H1 at ac S1 O R;show oJ (S1.get a1) zz ?_;walk_at "ns";show gn (λz:Wz=>↥z.1) (zs:=zs) (gI<|S1.get ad) (λi T I=>(An2 (Sb [d,t] H I) (Ex5 λ(b:ϊ<|Int×ϐ) (E:ϊ Int) (o2 o3 o4:ύ V)=>(An6 (b.map (·.1)=jt (cV a k) ((C.2.map (·.2.2)).take i)) (b.map (·.1)=cV a k++E) (∀p∈b,↑p.2<=↑b) (I d=!(.dK (b.map λp=>((Sum.inl p.1:Key),V.str p.2)))) (I t=!(.lst<|((cV a k).drop (k+1)++E).map V.int))<|T=[!↥wa,!↥d,!↥t,!(.int (j:Nat)),o2,o3,o4])))) #[ac,B,[],_,_,_,by rw[List.take_zero,qC];show J,by rw[û];show J,ag,O,by rw[û];show R,Z] ?_ ?_ ?_;.rintro i T I ⟨y,_⟩;show gI<|(y.off L).get ad
   .rintro i ⟨za,s,co,c⟩ T I hi ⟨y,b,E,o2,o3,o4,D,U,u,f,g,rfl⟩;have S2:=y.off L;let#[ca,v1,v2]:=hz _<|Yf hi;dsimp only at v1 v2;have ap:C.2[i]?=!(s,co,c):=by rw[<-ez,Á,hi];rfl
    have al:=(bd _<|Yf ap).1;dsimp only at al;have ax:(C.2.map (·.2.2)).take (i+1)=(C.2.map (·.2.2)).take i++[c]:=by rw[Ð,Á,ap];rfl
    have ah:↑b<=100:=by
     have h1:=f9 (l:=b.map (·.1)) (m:=cV a<|k+1) (by rw[D];show oX<|ig _ _ k) λx mx=>by
      rw[D]at mx;rw[af];rcases iY.mp mx with m|m;.show iY.mpr<|.inl m
      .show iY.mpr<|.inr<|ŋ m
     have h2:=Y<|k+1;rw[Qb]at h1;show Í h1<|Í h2 a9
    rw[ax,EY];show cN (gL<|S2.get v1) Z ?_;apply#[d,_,Z,DGet.k (k:=Sum.inl c) f,?_];by_cases m:c∈jt (cV a k) ((C.2.map (·.2.2)).take i);.obtain ⟨tt,_,ev⟩:=vd (ps:=b) (r:=c) (by rw[D];show m);rw[ev,β m];symm;change if(not true)=true then _ else _;apply#[y,b,E,_,_,_,D,U,u,f,g,Z]
    .have ev:=QZ (ps:=b) (r:=c) (by rw[D];show m);rw[ev,γ m];let#[tj,be,ay]:=vd (ps:=b) (r:=(j:Int)) (by rw[U];show ç _ mr);have am:=u _ be;dsimp only at am;symm;change if(not false)=true then _ else _;apply#[d,V.str tj,Z,by rw[<-ay];show DGet.k (k:=Sum.inl (j:Int)) f,?_];apply jL () ?_;apply#[d,_,Z,DPut.k (k:=Sum.inl c) f (Õ (by rw[Qb];show cU ah:_<=2000) (by decide)),?_];rw[cT _ ev];symm;have S:∀w,upd I d w t=!(.lst<|((cV a k).drop (k+1)++E).map V.int):=λw=>by rw[aq n2];show g
     show fB (gI<|S _) ?_;apply gY (S _) (by rw[Qb,É,ù];have:=Ö List.length U;rw[Qb,É]at this;rfl') ?_;apply#[(y.set (by simp)).set (by simp),b++[(c,tj++s)],E++[c],_,_,_,by rw[Â,D];rfl,by rw[Â,U,ø];rfl,λp mp=>?_,by rw[aq n1,aj,Â];rfl,by rw[aj,<-ø,Â (l₂:=[c])];rfl,Z];rw[É,ã];rcases Æ.mp mp with mp|mp;.have:=u p mp;show uH this _
     .rw [Zs.mp mp];change↑(tj++s)<=_;rw[show↑(tj++s)=↑tj+↑s from jO _ _];show qkT am al
   .rintro T I ⟨y,b,E,o2,o3,o4,D,U,u,f,g,rfl⟩;rw[æ (by rw[Qb];show jq (bb.symm)<|Ã _),<-af]at D;have eD:(cV a k).drop (k+1)++E=(cV a<|k+1).drop (k+1):=by rw[<-D,U,List.drop_append_of_le_length X]
    rw[eD]at g;have a6:↑b=↑(cV a<|k+1):=by rw[<-D,Qb]
    have a5:k+1<=↑(cV a<|k+1):=by rw[<-a6];have:=Ö List.length U;rw[Qb,É]at this;rfl'
    have bi:=Y<|k+1;show#[#[y,k+1,b,_,_,_,_,a5,D,u,f,g,Z],?_];change(match I t with|some (.lst l)=>(match I d with|some (.dK m)=>1000-(↑m-↑l)|_=>0)|_=>0)<(match A t with|some (.lst l)=>(match A d with|some (.dK m)=>1000-(↑m-↑l)|_=>0)|_=>0);rw[g,f,G,W];dsimp only;simp only[Qb,í,ù];rw[show↑b-(↑(cV a<|k+1)-(k+1))=k+1 by rfl',show↑B-(↑(cV a k)-(k+1)+1)=k by rfl'];show Nat.sub_lt_sub_left ()<|Ĕ k
  .symm;show q d A k B S' M J W () ag
 .rintro T H Q Q' hq ⟨v,hv,x,n,e,hl,i,j,e1,e2,k,e3,z⟩;show#[v,hv,x,n,e,hl,i,j,e1,e2,k,e3,hq _ _ z]
noncomputable def mG(w:ϴ)(ah:Int)(ys:ϊ Nat):Int×Int×ϊ Nat:=if↑w.2.1<=↑ys then(w.2.2,ah,ys.drop ↑w.2.1)else(ah,w.2.2,w.2.1.drop ↑ys)
def StT(K:Ϗ)(H:Hp)(a:ό)(st:Int×Int×ϊ Nat):Prop:=∃c,H a=!(.tup [.int st.1,.int st.2.1,↥c])/\H c=!(.tup<|nv st.2.2)
theorem StT.same{K:Ϗ}(h:StT K H a st)(s:Same H H'):StT K H' a st:=by let#[c,b,d]:=h;show#[c,s.get b,s.get d]
inductive aT(K:Ϗ)(vs:ϊ V)(H:Hp)(Q:VK)(E:XK):Prop|mk (b o:ό) (w:ϴ) (a:Int) (c:ϊ Nat) (d:vs=[.ref b,.int a,.ref o]) (e:WyT H (b,w)) (f:H o=!(.tup (nv c))) (g:∀r H',Same H H'->H r=none->StT K H' r (mG w a c)->Q (.ref r) H')
abbrev Ks K(E:XK)(Eh:XK):=(aA (aL (eF K<|tX K aU 1)<|ak 3)
  (aA (bD (aN<|aM lO cG<|eF K bT) (aW<|dj<|kW (tX K aU 2) bc<|vR (wN K) bT (fj cG) cQ) aR)
  (aW<|dj<|kW bc (tX K aU 2)<|vR (wN K) (tX K aU 1) (fj<|eF K bT) cQ)))
abbrev Ku:ϊ ϐ:=sN ["way","ahead","over","wide"]
theorem WK(h:aT K vs H Q E):RG (Ks K E) Ku vs H Q:=by
 let#[t,o,#[s,j,k],n,l,rfl,#[p,e,i],f,q]:=h;show#[E0,?_];dsimp only at e i;apply cZ e ?_;apply cu (gL i) ?_;rw[Qb];apply cu (gL f) ?_;rw[Qb];apply cM (λc=>?_) λc=>?_
 .symm;show m9 e ?_;apply Ir f λg m d b=>?_;rw[xN<|BZ _,Ó,nv,<-List.map_drop]at b;symm;intro r a;show q r _ (d.new a) (d.free a) ?_;unfold mG;rw[β<|show↑j<=↑l by show qcL c];show#[g,aj,aF a b]
 .symm;show m9 e ?_;apply cZ e ?_;apply cu (gL f) ?_;rw[Qb];apply Ir i λg m d b=>?_;rw[xN<|BZ _,Ó,nv,<-List.map_drop]at b;symm;intro r a;show q r _ (d.new a) (d.free a) ?_;unfold mG;rw[γ<|show¬↑j<=↑l by rfl'];show#[g,aj,aF a b]
noncomputable def Ze(wss:ϲ)(r:Int):ϊ ((ϴ)×(ϴ)×Int):=(List.range ↑(wss.getD r.toNat [])).flatMap λj=>(List.range j).map λk=>((wss.getD r.toNat []).getD k default,(wss.getD r.toNat []).getD j default,r)
def qG(wss:ϲ)(rs:ϊ Int):ϊ ((ϴ)×(ϴ)×Int):=rs.flatMap<|Ze wss
abbrev Fz:=ό×ό×ό×ό×((ϴ)×(ϴ)×Int)
def FkA(K:Ϗ)(H:Hp)(z:Fz):Prop:=H z.1=!(.tup [.int (cst z.2.2.2.2.2.1.2.1 z.2.2.2.2.1.2.1:Nat),↥z.2.1,.int z.2.2.2.2.2.2,↥z.2.2.1,↥z.2.2.2.1])/\StT K H z.2.1 (mG z.2.2.2.2.1 z.2.2.2.2.2.1.2.2 z.2.2.2.2.2.1.2.1)/\WyT H (z.2.2.1,z.2.2.2.2.1)/\WyT H (z.2.2.2.1,z.2.2.2.2.2.1)
theorem FkA.same{K:Ϗ}(h:FkA K H z)(s:Same H H'):FkA K H' z:=#[s.get h.1,h.2.1.same s,h.2.2.1.same s,h.2.2.2.same s]
theorem FkA.app{K:Ϗ}{m:ϊ V}(h:FkA K H z)(e:H q=!(.lst m)):FkA K (upd H q o) z:=by let#[a,#[c,b,g],#[d,i,j],#[f,k,l]]:=h;show#[jj a e,#[c,jj b e,jj g e],#[d,jj i e,jj j e],#[f,jj k e,jj l e]]
theorem WL{c:ϳ}(h:wss[j]?=!c):Ze wss (j:Int)=(List.range ↑c).flatMap λb=>(List.range b).map λa=>(c.getD a default,c.getD b default,(j:Int)):=by unfold Ze;rw[Ó,Xs,h];rfl
def XS(K:Ϗ)(H:Hp)(a:ό)(fs:ϊ<|(ϴ)×(ϴ)×Int):Prop:=∃zs:ϊ Fz,zs.map (λz:Fz=>z.2.2.2.2)=fs/\H a=!(.lst (zs.map λz:Fz=>↥z.1))/\∀z∈zs,FkA K H z
inductive fT(K:Ϗ)(vs:ϊ V)(H:Hp)(Q:VK)(E:XK):Prop|mk (f c:ό) (h:Nat) (b:ϵ) (a:ϲ) (e:vs=[.ref f,.ref c]) (g:FnF K H f h b) (i:Fo.Wf h b) (j:WsT H c a) (k:0<↑a) (l:↑a<=100) (m:(∀d∈a,↑d<=100/\∀w∈d,Fo.lk b w.1=!w.2.1/\0<=w.2.2/\w.2.2<↑a)) (n:∀p H' N,Same H H'->H p=none->↑(cV a N)<=N->XS K H' p (qG a (cV a N))->Q (.ref p) H')
abbrev Kv K:=(aA (cH (pX<|bB (eI K)<|cA bc) (ak 6) (cH (Bp K<|cA<|aM (cD K) bc ie) (gr K 2<|bf (ak 7)<|bf (ak 8) gF) (cH (cC K<|vR (Gb K) (aM (cD K) bc ie) cQ<|fj oW) (ak 9) (aA (aL (bB (aT K)<|kW yr (tX K xR 2)<|tX K xR 1)<|ak 10)
  (di<|ue K "list" cY gB<|cA<|dj<|fP (fQ (fQ bT<|tX K xR 0)<|tX K yr 0)<|NQ Vy ie yr xR)))))
  (aW gB))
abbrev Kw K(E:XK)(Eh:XK):=(aA (aL jE<|ak 2)
  (aA (cH (ph K<|tX K aU 1) (gr K 2<|bf (ak 3)<|bf (ak 4) gF)<|iH bT cG<|bB (dS K)<|bF aU dF)
  (aA (aL (gf gJ)<|ak 5)
  (Kv K))))
abbrev Ky:ϊ ϐ:=sN ["font","ways","costs","sign","columns","found","room","place","later","way","stand"]
theorem WM(h:fT K vs H Q E):RG (Kw K E) Ky vs H Q:=by
 let#[f,wa,h,M,c,rfl,hF,wf,hW,a9,c6,ae,q]:=h;show#[E0,?_];have c2:(M.map (·.1)).Nodup:=wf.up.imp λc0 e=>by subst e;show ŭ _ c0
 let#[l,zs,t1,bk,t3,t4]:=id hF.t;have c9:↑zs=↑M:=by rw[<-bk,Qb]
 have cy:=wf.le;have b4:∀k,∀r∈cV c k,0<=r/\r<↑c:=λk=>eZ (P:=λr:Int=>0<=r/\r<↑c) #[by decide,Vb a9] (λp q' hp hq=>by
  let#[w,mw,rfl]:=Zp.mp hq;have:c.getD p.toNat []∈c:=by rw[Xs,Zl<|HX hp];show Ø _
  show((ae _ this).2 w mw).2) k;have c3:∀k,↑(cV c k)<=↑c:=λk=>by
  have:=f9 (l:=cV c k) (m:=(List.range ↑c).map λi:Nat=>(i:Int)) (ig _ _ k) λr mr=>by let#[h0,h1]:=b4 k r mr;show Zp.mpr #[r.toNat,ì.mpr<|qtC h1 a9,uG h0]
  rw[Qb,ê]at this;show this
 symm;intro W ai;apply cZ (aF ai t1) ?_;have a6:∀p'∈[W],H p'=none:=λp' al=>by rw[Zs.mp al];show ai
 walk_at "ns";show tH (λz:Lz=>↥z.1) ((ao ai _).tup t3) (λi v G=>(An2 (Sb [W] H G)<|Ex3 λ(L:ϊ<|ϐ×ό×ϊ Nat) (o3 o4:ύ V)=>(An4 (L.map (λk=>(k.1,k.2.2))=M.take i) (G W=!(.dK<|L.map λk=>((Sum.inr k.1:Key),↥k.2.1))) (∀k∈L,k.2.1≠W/\G k.2.1=!(.dK<|Cw<|Cv k.2.2 M))<|v=[!↥f,!↥wa,!↥W,o3,o4,none,none,none,none,none,none]))) #[Sb.of<|ao ai _,[],_,_,Z,aj,λk mk=>(by cases mk),Z] ?_ ?_ ?_;.rintro i v G ⟨sb,_⟩;show(sb.off a6).tup t3
 .rintro i ⟨za,s,cz,co⟩ v G hi ⟨sb,L,o3,o4,D,zz,I,rfl⟩;have S:=sb.off a6;let#[u1,u2]:=t4 _<|Yf hi;dsimp only at u1 u2;have a7:M[i]?=!(s,co):=by rw[<-bk,Á,hi];rfl
  have c1:=wf.c1 _<|Yf a7;dsimp only at c1;have cv:i<↑M:=(À.mp a7).1;have af:M.take (i+1)=M.take i++[(s,co)]:=by rw[Ð,a7];rfl
  have bq:s∉(M.take i).map (·.1):=by have h1:((M.take<|i+1).map (·.1)).Nodup:=Ē ((Ę _ _).map _) c2;rw[af,Â,å]at h1;showλm=>h1.2.2 s m s (by simp) Z
  have cx:↑L<=94:=by have:=Ö List.length D;rw[Qb,Ñ]at this;show jq this<|cU<|RT cy
  show cN (gL<|S.get u1) Z ?_;apply#[f,cz,h,M,co,Z,(hF.same S).t,wf,gL<|S.get u2,(),λr U s2 hr er=>?_];have b3:r≠W:=nj zz hr;have hv:bu (L.map λk=>((Sum.inr k.1:Key),↥k.2.1)) (Sum.inr s)=none:=fV (f:=λk:ϐ×ό×ϊ Nat=>(Sum.inr k.1:Key)) (g:=λk:ϐ×ό×ϊ Nat=>↥k.2.1) λm=>by let#[k,mk,e]:=Zp.mp m;show bq<|by rw[<-D,Ä];show Zp.mpr #[k,mk,Ĥ e]
  apply#[W,_,Z,DPut.k (k:=Sum.inr s) (s2.get zz)<|Õ (by rw[Qb];show cx:_<=94)<|by decide,?_];rw[cT _ hv];apply#[(sb.same s2).set<|by simp,L++[(s,r,co)],_,_,by rw[Â,D,af];rfl,by rw[aj,Â];rfl,λk mk=>?_,Z];rcases Æ.mp mk with mk|mk;.show #[(I k mk).1,by rw[aq (I k mk).1];show s2.get (I k mk).2]
  .rw [Zs.mp mk];show#[b3,by rw[aq b3];show er]
 .rintro v Hc ⟨sb,L,o3,o4,D,zz,ay,rfl⟩;rw[c9,à]at D;have I:∀k∈L,Hc k.2.1=!(.dK<|Cw<|Cv k.2.2 M):=λk mk=>(ay k mk).2;have SH:=sb.off a6;have bp:=hW.same SH;have a4:∀{s co},Fo.lk M s=!co->∃k∈L,k.2.2=co/\bu (L.map λk=>((Sum.inr k.1:Key),↥k.2.1)) (Sum.inr s)=!↥k.2.1:=by rw[<-D];clear zz I ay D;induction L with
   |nil=>intro s co h;cases h|cons k L ih=>
    intro s co h;rw[Ç,Fo.gZ]at h;rw[Ç];by_cases e:k.1=s;.rw [β e]at h;cases h;show#[k,Ì,Z,by rw[cF<|by rw[e]]]
    .rw [γ e]at h;let#[k',m',e1,e2]:=ih h;show#[k',Ê _ m',e1,by rw[bM<|by intro z;show e<|Ĥ z];show e2]
  symm;intro x a5;symm;walk_at "ns";have S0:Same Hc (upd Hc x<|HO.lst []):=ao a5 _;show#[wa,c,Z,bp.same S0,a9,c6,λws bd=>#[by have:=(ae ws bd).1;show cU this,λw mw=>#[?_,((ae ws bd).2 w mw).2]],λR H1 N ps s1 b5 bi cr hN _=>?_];.obtain ⟨n,en⟩:=wf.sg _<|Fo.d9 ((ae ws bd).2 w mw).1;dsimp only at en;rw[en];show Ã 1
  have b6:Hc R=none:=S0.free b5;have bv:x≠R:=aP aj b5;have bg:H1 x=!(.lst []):=s1.get aj;have S1:Same Hc H1:=S0.trans s1;have y:∀p'∈[x,R],Hc p'=none:=λp' al=>by
   simp only[Å,Ú,þ]at al;rcases al with rfl|rfl;.show a5
   .show b6
  have bx:↑ps=↑(cV c N):=by rw[<-bi,Qb]
  have df:=c3 N;show zN (.inl cr) (λod i v G=>(An5 (Sb [x,R] Hc G) (G R=!(.frz od<|.dK<|ps.map λp=>((Sum.inl p.1:Key),V.str p.2))) (XS K G x<|qG c<|(cV c N).take i) (↑(qG c<|(cV c N).take i)<=i*10000)<|Ex5 λ(o6 o7 o8 o9 d:ύ V)=>v=[!↥f,!↥wa,!↥W,o3,o4,!↥x,o6,o7,o8,o9,d])) (λod U C e2=>#[λb o n q'=>C b o (λz=>n<|by simp only[Zs]at z;rw[z];simp)<|S1 b o q',e2,#[[],Z,C.get (by simpa using bv) bg,λz m=>(by cases m)],ä _,_,_,_,_,_,Z]) (λod i v G h=>by let#[_,h,_]:=h;show h) ?_ ?_
  .rintro od i z v G hz ⟨ar,aw,hT,bn,o6,o7,o8,o9,d,rfl⟩;let#[p,hp,rfl]:∃p,ps[i]?=!p/\z=((Sum.inl p.1:Key),V.str p.2):=by rw[Á]at hz;let#[p,hp,e]:=Î.mp hz;show#[p,hp,e.symm]
   have a8:(cV c N)[i]?=!p.1:=by rw[<-bi,Á,hp];rfl
   let#[r0,r1]:=b4 N p.1<|Yf a8;let#[j,hj]:∃j:Nat,p.1=(j:Int):=#[p.1.toNat,Eq.symm<|uG r0];have cv:i<↑(cV c N):=(À.mp a8).1;let#[rs,w1,w2,w3]:=id bp;have dg:↑rs=↑c:=by rw[<-w1,Qb]
   let#[u,am]:∃u,rs[j]?=!u:=#[_,Zl ()];have b9:c[j]?=!u.2:=by rw[<-w1,Á,am];rfl
   let#[T,a2,z1,z2]:=w3 u<|Yf am;let#[c7,cf]:=ae u.2<|Yf b9;have c8:↑T=↑u.2:=by rw[<-a2,Qb]
   have af:qG c ((cV c N).take<|i+1)=qG c ((cV c N).take i)++(List.range ↑u.2).flatMap λb=>(List.range b).map λa=>(u.2.getD a default,u.2.getD b default,(j:Int)):=by rw[Ð,a8];unfold qG;rw[List.flatMap_append];congr 1;change [p.1].flatMap _=_;rw[List.flatMap_singleton,hj,WL b9]
   rw[af];generalize hA:qG c ((cV c N).take i)=A at hT bn⊢;change ak 6 (V.int p.1) _ _ _;rw[hj];symm;have S':=ar.off y;show oJ (S'.get w2) am ?_;walk_at "ns";show Iu (λz:Wz=>↥z.1) (xs:=T) (gI<|S'.get z1) (λb v U=>(An5 (Sb [x,R] Hc U) (U R=!(.frz od<|.dK<|ps.map λp=>((Sum.inl p.1:Key),V.str p.2))) (XS K U x<|A++(List.range b).flatMap λb=>(List.range b).map λa=>(u.2.getD a default,u.2.getD b default,(j:Int))) (↑(A++(List.range b).flatMap λb=>(List.range b).map λa=>(u.2.getD a default,u.2.getD b default,(j:Int)))<=i*10000+b*100)<|Ex4 λ(o7 o8 o9 d:ύ V)=>v=[!↥f,!↥wa,!↥W,o3,o4,!↥x,!(.int (j:Nat)),o7,o8,o9,d])) #[ar,aw,by rw[List.range_zero,List.flatMap_nil,û];show hT,by rw[List.range_zero,List.flatMap_nil,û];show uH bn _,_,_,_,_,Z] ?_ ?_ ?_;.rintro b v U ⟨C,_⟩;show gI<|(C.off y).get z1
   .rintro b ⟨wb,sw,Y,O⟩ tp v U hb ⟨C,F,ag,ad,o7,o8,o9,d,rfl⟩ ap;have bb:u.2[b]?=!(sw,Y,O):=by rw[<-a2,Á,hb];rfl
    have de:b<↑u.2:=(À.mp bb).1;have cn:u.2.getD b default=(sw,Y,O):=by rw[Xs,bb];rfl
    have bo:=z2 _<|Yf hb;let#[cb,b1,b2]:=id bo;dsimp only at b1 b2;have br:=((cf _<|Yf bb).1);dsimp only at br;let#[kb,da,cp,cs]:=a4 br;have db:tp≠R:=nj F ap;have be:=C.new (o:=.tup [.int (b:Int),↥wb]) ap;show cN (gL aj) Z ?_;symm;have ab:upd U tp (.tup [.int (b:Int),↥wb]) R=!(.frz od<|.dK<|ps.map λp=>((Sum.inl p.1:Key),V.str p.2)):=by rw[aq db.symm];show F
    have ah:XS K (upd U tp<|.tup [.int (b:Int),↥wb]) x (A++(List.range b).flatMap λb=>(List.range b).map λa=>(u.2.getD a default,u.2.getD b default,(j:Int))):=by let#[us,u1,u2,u3]:=ag;show#[us,u1,aF ap u2,λz mz=>(u3 z mz).same<|ao ap _]
    generalize upd U tp (.tup [.int (b:Int),↥wb])=H3 at be ab ah⊢;rw[List.range_succ,List.flatMap_append,List.flatMap_singleton,<-ø,cn];generalize hB:A++(List.range b).flatMap (λb=>(List.range b).map λa=>(u.2.getD a default,u.2.getD b default,(j:Int)))=B at ah ad⊢;have S3:=be.off y;show oJ (S3.get w2) am ?_;apply Su (gI<|S3.get z1) λsl J=>?_;rw[zF<|BZ _,Ó,<-List.map_take];walk_at "ns";have S4:Same H3 (upd H3 sl<|HO.lst ((T.take b).map λz:Wz=>↥z.1)):=ao J _;have dl:sl≠R:=nj ab J;have ci:sl≠x:=λe=>by let#[us,u1,u2,u3]:=ah;rw[e,u2]at J;cases J
    have dd:Hc sl=none:=S3.free J;have dc:∀p'∈[x,R],upd H3 sl (HO.lst ((T.take b).map λz:Wz=>↥z.1)) p'≠none->True:=λ_ _ _=>trivial;have cj:=be.new (o:=HO.lst ((T.take b).map λz:Wz=>↥z.1)) J;have a1:upd H3 sl (HO.lst ((T.take b).map λz:Wz=>↥z.1)) sl=!(.lst ((T.take b).map λz:Wz=>↥z.1)):=aj;have ax:=S4.get ab;have bl:XS K (upd H3 sl<|HO.lst ((T.take b).map λz:Wz=>↥z.1)) x B:=by let#[us,u1,u2,u3]:=ah;show#[us,u1,S4.get u2,λz mz=>(u3 z mz).same S4]
    generalize upd H3 sl (HO.lst ((T.take b).map λz:Wz=>↥z.1))=H4 at S4 cj a1 ax bl⊢;show gn (λz:Wz=>↥z.1) (zs:=T.take b) (gI a1) (λa v H5=>(An5 (Sb [x,R] Hc H5) (H5 sl=!(.lst ((T.take b).map λz:Wz=>↥z.1))) (H5 R=!(.frz od<|.dK<|ps.map λp=>((Sum.inl p.1:Key),V.str p.2))) (XS K H5 x<|B++(List.range a).map λa=>(u.2.getD a default,(sw,Y,O),(j:Int)))<|Ex2 λ(o9 d:ύ V)=>v=[!↥f,!↥wa,!↥W,o3,o4,!↥x,!(.int (j:Nat)),!(.int (b:Nat)),!↥wb,o9,d])) #[cj,a1,ax,by rw[List.range_zero,Đ,û];show bl,_,_,Z] ?_ ?_ ?_;.rintro a v H5 ⟨_,h,_⟩;show gI h
    .rintro a ⟨wq,sq,X,rq⟩ v H5 ha ⟨as,av,ac,⟨us,u1,u2,u3⟩,o9,d,rfl⟩;have ct:a<b:=by have:=(À.mp ha).1;rw[Ñ]at this;rfl'
     have b0:T[a]?=!(wq,sq,X,rq):=by rw[List.getElem?_take,β ct]at ha;show ha
     have ce:u.2[a]?=!(sq,X,rq):=by rw[<-a2,Á,b0];rfl
     have cm:u.2.getD a default=(sq,X,rq):=by rw[Xs,ce];rfl
     have a3:=z2 _<|Yf b0;let#[cc,q1,q2]:=id a3;dsimp only at q1 q2;have bs:=((cf _<|Yf ce).1);dsimp only at bs;have S5:=as.off y;have c5:↑us<=1000000:=by have:=Ö List.length u1;rw[Qb,É,Qb,ê]at this;rfl'
     apply m9 (S5.get b1) ?_;apply cZ (S5.get b1) ?_;apply#[wq,cb,(sq,X,rq),O,Y,Z,a3.same S5,S5.get b2,λst H6 s6 dk hS=>?_];have S6:=S5.trans s6;apply fB (gI<|s6.get u2) ?_;apply dN (S6.get b1) ?_;apply#[W,↥kb.2.1,Z,by rw[<-cs];show DGet.k (k:=Sum.inr sw)<|S6.get zz,?_];apply dN (S6.get q1) ?_;apply#[kb.2.1,V.int (cst Y X:Nat),Z,by have:=DGet.k (k:=Sum.inr sq)<|S6.get<|I kb da;rw[cp,Ad bs]at this;show this,?_];symm;intro tq c4;have s7:Same H6 (upd H6 tq<|HO.tup [.int (cst Y X:Nat),↥st,.int (j:Nat),↥wq,↥wb]):=ao c4 _;have e7:upd H6 tq (HO.tup [.int (cst Y X:Nat),↥st,.int (j:Nat),↥wq,↥wb]) tq=!(.tup [.int (cst Y X:Nat),↥st,.int (j:Nat),↥wq,↥wb]):=aj;generalize upd H6 tq (HO.tup [.int (cst Y X:Nat),↥st,.int (j:Nat),↥wq,↥wb])=H7 at s7 e7⊢;have u7:=s7.get<|s6.get u2;apply gY u7 (by rw[Qb];show c5) ?_;symm;have hz:FkA K H7 (tq,st,wq,wb,((sq,X,rq),(sw,Y,O),(j:Int))):=#[e7,hS.same s7,(a3.same S6).same s7,(bo.same S6).same s7];show#[((as.same s6).same s7).set<|by simp,by rw[aq ci];show s7.get<|s6.get av,by rw[aq bv.symm];show s7.get<|s6.get ac,#[us++[(tq,st,wq,wb,((sq,X,rq),(sw,Y,O),(j:Int)))],by rw[Â,u1,List.range_succ,Â,<-ø,η,η,cm],by rw[aj,Â];rfl,λz mz=>?_],_,_,Z];rcases Æ.mp mz with mz|mz;.show (((u3 z mz).same s6).same s7).app u7
     .rw [Zs.mp mz];show hz.app u7
    .rintro v H5 ⟨as,av,ac,bm,o9,d,rfl⟩;have eb:↑(T.take b)=b:=by rw[Ñ];rfl'
     rw[eb]at bm;show#[as,ac,bm,by rw[É,Qb,ê];rfl',_,_,_,_,Z]
   .rintro v U ⟨C,F,ag,ad,o7,o8,o9,d,rfl⟩;rw[c8]at ag ad;show#[C,F,ag,(),_,_,_,_,_,Z]
  .rintro od v G ⟨ar,aw,hT,_,o6,o7,o8,o9,d,rfl⟩;rw[æ<|by rw[Qb];show jq (bx.symm)<|Ã _]at hT;apply q x G N (SH.trans<|ar.off y) (SH.free a5) hN hT
def KC(ls:ϵ)(st:Int×Int×ϊ Nat)(w:ϴ):ϐ×Nat×(Int×Int×ϊ Nat):=(w.1,cst st.2.2 w.2.1,mG w st.2.1 st.2.2)
def SpT(K:Ϗ)(H:Hp)(a:ό)(x:ϐ×Nat×(Int×Int×ϊ Nat)):Prop:=∃c,H a=!(.tup [.str x.1,.int (x.2.1:Nat),↥c])/\StT K H c x.2.2
theorem SpT.same{K:Ϗ}(h:SpT K H a x)(s:Same H H'):SpT K H' a x:=by let#[c,b,d]:=h;show#[c,s.get b,d.same s]
def SsT(K:Ϗ)(H:Hp)(a:ό)(xs:ϊ<|ϐ×Nat×(Int×Int×ϊ Nat)):Prop:=∃zs:ϊ<|ό×ϐ×Nat×(Int×Int×ϊ Nat),zs.map (·.2)=xs/\H a=!(.lst<|zs.map λz=>↥z.1)/\∀z∈zs,SpT K H z.1 z.2
inductive fe(K:Ϗ)(vs:ϊ V)(H:Hp)(Q:VK)(E:XK):Prop|mk (g e f:ό) (d:ϵ) (a:ϲ) (b:Int×Int×ϊ Nat) (c:ϳ) (r:Nat) (h:vs=[.ref g,.ref e,.ref f]) (i:WsT H g a) (j:H e=!(.dK (Cw (Cv b.2.2 d)))) (k:StT K H f b) (l:b.1=(r:Int)) (m:a[r]?=!c) (n:(∀w∈c,Fo.lk d w.1=!w.2.1)) (o:↑c<=1000) (q:∀p H',Same H H'->H p=none->SsT K H' p (c.map (KC d b))->Q (.ref p) H')
abbrev KD K(E:XK)(Eh:XK):=(aW<|kJ [none,!1,!2] (cC K<|aM (cD K) aU<|tX K bT 0) (ak 0) dJ<|dj<|kW (tX K aU 0) (fQ bc<|tX K aU 0)<|bB (aT K)<|kW aU (tX K bT 1)<|tX K bT 2)
abbrev Ae:ϊ ϐ:=sN ["ways","costs","stand"]
theorem WN(h:fe K vs H Q E):RG (KD K E) Ae vs H Q:=by
 let#[wa,X,sa,R,ac,#[s0,J,y],l,r,rfl,#[S,U,w2,w3],o,#[sc,x,M],P,u,C,I,q]:=h;show#[E0,?_];dsimp only at x M P o;subst P;let#[w,e]:∃w,S[r]?=!w:=#[_,Zl (by have:=(À.mp u).1;rw[<-U,Qb]at this;show this)];have A:w.2=l:=by
  have:(S.map (·.2))[r]?=!w.2:=by rw[Á,e];rfl
  rw[U,u]at this;show(Ý this).symm
 let#[L,d,W,z2]:=w3 w (Yf e);rw[A]at d;have v:↑L=↑l:=by rw[<-d,Qb]
 apply dN x ?_;apply oJ w2 e ?_;show uI (λz:Wz=>↥z.1) (zs:=L) (gI W) (cU (jq v I)) (λi vs g=>(An2 (Same H g) (Ex1 λ(c:ϊ (ό×ϐ×Nat×(Int×Int×ϊ Nat)))=>(An3 (vs=c.map (λz=>↥z.1)) (c.map (·.2)=(l.take i).map (KC R ((r:Int),J,y))) (∀z∈c,SpT K g z.1 z.2))))) #[gN _,[],Z,Z,λz m=>(by cases m)] ?_ ?_ ?_ ?_;.rintro i vs g ⟨b,_⟩;show gI (b.get W)
 .rintro i vs g ⟨_,c,rfl,j,_⟩;have:=Ö List.length j;rw[Qb,Qb,Ñ]at this;rw[Qb];show XR this
 .rintro i ⟨za,s,n,a⟩ vs g N ⟨b,c,rfl,j,G⟩;have t:l[i]?=!(s,n,a):=by rw[<-d,Á,N];rfl
  have B:l.take (i+1)=l.take i++[(s,n,a)]:=by rw[Ð,t];rfl
  have zz:=z2 _ (Yf N);let#[Y,v1,v2]:=id zz;dsimp only at v1 v2;have O:=C _ (Yf t);dsimp only at O;apply dN (b.get v1) ?_;apply dN (b.get v1) ?_;apply#[X,V.int (cst y n:Nat),Z,by have:=DGet.k (k:=Sum.inr s) (b.get o);rw[Ad O]at this;show this,?_];apply cZ (b.get x) ?_;apply m9 (b.get x) ?_;apply#[za,sc,(s,n,a),J,y,Z,#[Y,b.get v1,b.get v2],b.get M,λsb H2 T ab F=>?_];symm;intro tp f;show#[(b.trans T).new f,c++[(tp,KC R ((r:Int),J,y) (s,n,a))],by rw[Â];rfl,by rw[Â,j,B,Â];rfl,λz mz=>?_];rcases Æ.mp mz with mz|mz;.show (G z mz).same (T.new f)
  .rw [Zs.mp mz];show#[sb,aj,F.same (ao f _)]
 .rintro vs g ⟨b,c,rfl,j,G⟩ p D;rw[æ (jq (v.symm) (Ã _))]at j;show q p _ (b.new D) (b.free D) #[c,j,aj,λz mz=>(G z mz).same (ao D _)]
abbrev Sd:=Int×Int×ϊ Nat
variable{x:Sd}{ev:Sd->Prop}{F':Sd->Nat×Nat->Prop}{W':Nat×Nat->Sd->Prop}{B:Nat->Sd->Sd->Prop}
noncomputable def j6(x:Sd):Sk:=(x.1,x.2.1,x.2.2.map λn:Nat=>(n:Int))
theorem ye:∀{c d:ϊ Nat},(c.map λn:Nat=>(n:Int))=(d.map λn:Nat=>(n:Int))->c=d
 |[],[],_=>Z|[],_::_,h=>by cases h|_::_,[],h=>by cases h|x::c,y::d,h=>by
  rw[Ç,Ç]at h;injection h with h1 h2;rw[ye h2,show x=y by show Eo h1]
theorem vf{y:Sd}(h:j6 x=j6 y):x=y:=by let#[a,b,c]:=x;let#[d,e,f]:=y;have g:a=d:=Ö (λz:Sk=>z.1) h;have i:b=e:=Ö (λz:Sk=>z.2.1) h;have j:c=f:=ye<|Ö (λz:Sk=>z.2.2) h;rw[g,i,j]
theorem StT.a{K:Ϗ}{a:ό}{b:Sd}(h:StT K H a b):vG H a (j6 b):=by let#[c,d,e]:=h;show#[c,d,by rw[e];unfold nv j6;rw[Ä];rfl]
theorem StT.keep{K:Ϗ}{b:ό}{k:Sd}(h:StT K H b k)(e:H p=!o)(f:∀l,o≠.tup l):StT K (upd H p o') b k:=by let#[c,a,d]:=h;show#[c,by rw[aq<|dm a e λz=>f _ z.symm];show a,by rw[aq<|dm d e λz=>f _ z.symm];show d]
theorem SsT.same{K:Ϗ}{b:ϊ<|ϐ×Nat×Sd}(h:SsT K H a b)(s:Same H H'):SsT K H' a b:=by let#[g,c,d,e]:=h;show#[g,c,s.get d,λz f=>(e z f).same s]
theorem SsT.keep{K:Ϗ}(h:SsT K H a f)(e:H p=!o)(d:∀l,o≠.tup l)(n:a≠p):SsT K (upd H p o') a f:=by let#[q,i,j,k]:=h;show#[q,i,by rw[aq n];show j,λz m=>?_];let#[c,b,g]:=k z m;show#[c,by rw[aq<|dm b e λz=>d _ z.symm];show b,g.keep e d]
noncomputable def vH(ys:ϊ Nat):ϊ Key:=ys.map λn:Nat=>(Sum.inl (n:Int):Key)
theorem Af(a:ϊ Nat):(vH a).map kV=nv a:=by unfold vH nv;rw[Ä];rfl
theorem vg:∀{c d:ϊ Nat},vH c=vH d->c=d
 |[],[],_=>Z|[],_::_,h=>by cases h|_::_,[],h=>by cases h|x::c,y::d,h=>by
  unfold vH at h;rw[Ç,Ç]at h;injection h with a h2;have a:=Sum.inl.inj a;rw[vg h2,show x=y by show Eo a]
theorem KH{b:ϊ Nat}:∀{cs:ϊ<|ϊ Nat×ό},b∈cs.map (·.1)->∃a,(b,a)∈cs/\bu (cs.map λc=>(vH c.1,↥c.2)) (vH b)=!↥a
 |c::cs,m=>by
  rw[Ç];by_cases e:c.1=b
  .show #[c.2,by rw[<-e];show Ì,by rw[cF (by rw[e])]]
  .obtain ⟨a,d,f⟩:=KH (cs:=cs) (by rcases Å.mp m with z|z;show μ z.symm e;show z);show⟨a,Ê _ d,by rw[bM (λz=>e<|vg z)];show f⟩
theorem Cy:∀{cs:ϊ<|ϊ Nat×ό},a∉cs.map (·.1)->bu (cs.map λc=>(vH c.1,↥c.2)) (vH a)=none
 |[],_=>Z|c::cs,m=>by rw[Ç,bM<|λz=>m<|by rw[Ç,vg z];show Ì];show Cy λz=>m<|Ê _ z
abbrev Uz:=(ό×ϐ×Nat×Sd)×ό
theorem Ag{K:Ϗ}{H:Hp}:∀{us:ϊ<|ό×ϐ×Nat×Sd},(∀z∈us,SpT K H z.1 z.2)->∃ps:ϊ Uz,ps.map (·.1)=us/\∀p∈ps,H p.1.1=!(.tup [.str p.1.2.1,.int (p.1.2.2.1:Nat),↥p.2])/\StT K H p.2 p.1.2.2.2
 |[],_=>#[[],Z,λp m=>(by cases m)]|u::us,h=>by
  let#[ps,d,e]:=Ag λz f=>h z<|Ê _ f;let#[c,a,b]:=h u Ì;show#[(u,c)::ps,by rw[Ç,d],λp mp=>?_];rcases Å.mp mp with rfl|mp;.show #[a,b]
  .show e p mp
def R4(wss:ϲ)(st:Sd):ϊ Sd:=(wss.getD st.1.toNat []).map λw=>mG w st.2.1 st.2.2
def mH(z:(ϴ)×(ϴ)×Int):Sd:=mG z.1 z.2.1.2.2 z.2.1.2.1
def NT(wss:ϲ)(N:Nat):ϊ Sd:=(qG wss<|cV wss N).map mH
def InU(n:Nat)(ls:ϵ)(x:Sd):Prop:=(0<=x.1/\x.1<n)/\(0<=x.2.1/\x.2.1<n)/\∃p∈ls,∃d,d<9/\x.2.2=p.2.drop d
noncomputable def UL(n:Nat)(ls:ϵ):ϊ Sd:=(List.range n).flatMap λa:Nat=>(List.range n).flatMap λb:Nat=>ls.flatMap λp=>(List.range 9).map λd:Nat=>((a:Int),(b:Int),p.2.drop d)
theorem vh{a b:Type}(f:a->ϊ b)(k:Nat)(h:∀x,↑(f x)=k):∀l:ϊ a,↑(l.flatMap f)=↑l*k
 |[]=>by simp|x::l=>by rw[List.flatMap_cons,É,h,vh f k h l,í,Nat.add_mul,Nat.one_mul,ń]
theorem KJ(n:Nat)(c:ϵ):↑(UL n c)=n*n*(↑c*9):=by unfold UL;rw[vh _ (n*(↑c*9)) λa=>by rw[vh _ (↑c*9) λb=>by rw[vh _ 9 λp=>by rw[Qb,ê]],ê],ê,Nat.mul_assoc]
theorem InU.mem{b:ϵ}(h:InU n b x):x∈UL n b:=by let#[#[a,c],#[f,j],p,i,d,g,e]:=h;show ÿ.mpr #[x.1.toNat,ì.mpr<|RP a c,ÿ.mpr #[x.2.1.toNat,ì.mpr (),ÿ.mpr #[p,i,Zp.mpr #[d,ì.mpr g,?_]]]];rw[<-e,č a,č f]
def WOk(ls:ϵ)(n:Nat)(wss:ϲ):Prop:=∀ws∈wss,∀w∈ws,((w.1,w.2.1)∈ls/\1<=↑w.2.1/\↑w.2.1<=8)/\0<=w.2.2/\w.2.2<n
theorem WOk.at{b:ϵ}{n:Nat}(h:WOk b n a){r:Nat}{w:ϴ}(m:w∈a.getD r []):((w.1,w.2.1)∈b/\1<=↑w.2.1/\↑w.2.1<=8)/\0<=w.2.2/\w.2.2<n:=by
 by_cases c:r<↑a;.rw [Xs,Zl c]at m;show h _ (Ø c) w m
 .rw [Xs,Ā<|HY c]at m;cases m
theorem KN{b:ϵ}(g:((w.1,w.2.1)∈b/\1<=↑w.2.1/\↑w.2.1<=8)/\0<=w.2.2/\w.2.2<n){a:Int}(e:0<=a/\a<n)(h:∃p∈b,↑p.2<=8/\∃d,f=p.2.drop d):InU n b (mG w a f):=by
 let#[#[m,k,i],r]:=g;let#[p,j,l,d,rfl]:=h;unfold mG;split;.rename_i c;rw[ù]at c;show#[r,e,p,j,d+↑w.2.1,(),by change(p.2.drop d).drop _=_;rw[List.drop_drop]]
 .rename_i c;show#[e,r,_,m,↑(p.2.drop d),Ò (qnT c)<|cU i,Z]
theorem WP(f:∀p∈a,↑p.2<=8)(h:WOk a n wss)(x y:Sd)(g:InU n a x)(m:y∈R4 wss x):InU n a y:=by let#[w,i,rfl]:=Zp.mp m;let#[_,c,p,b,d,_,e]:=g;show KN (h.at i) c #[p,b,f p b,d,e]
theorem WQ{i:ϵ}(h:WOk i n wss)(N:Nat)(x:Sd)(m:x∈NT wss N):InU n i x:=by
 let#[z,s,rfl]:=Zp.mp m;let#[r,_,q]:=ÿ.mp s;let#[b,p,o]:=ÿ.mp q;let#[a,d,rfl]:=Zp.mp o;have e:=ì.mp p;have d:=ì.mp d;have g:∀k,k<↑(wss.getD r.toNat [])->(wss.getD r.toNat []).getD k default∈wss.getD r.toNat []:=by generalize wss.getD r.toNat []=l;intro k f;rw[Xs,Zl f];show Ø f
 have j:=h.at (g a<|Ò d<|â e);have c:=h.at (g b e);show KN j c.2 #[_,c.1.1,c.1.2.2,0,Z]
def Zf(ls:ϵ)(ds:L2S):Prop:=0<↑ds/\↑ds<=50/\(∀ps∈ds,↑ps<=42/\∀p∈ps,0<=p.2/\p.2<↑ds)/\↑ds*↑ds*(↑ls*9)<=20000
theorem Cz{h:Nat}(k:Fo.Wf h a)(j:Zf a ds):WOk a ↑ds (ds.map<|aJ a):=λm e w i=>by let#[f,d,rfl]:=Zp.mp e;let#[p,c,g]:=é.mp<|show w∈f.filterMap _ from i;let#[l,b,rfl]:=Î.mp g;have:=Fo.d9 b;show#[#[this,k.c1 _ this],(j.2.2.1 f d).2 p c]
abbrev Gz:=ό×Sd×ό
variable{zs:ϊ Gz}
def d7(zs:ϊ Gz):ϊ (ό×Sk×V):=zs.map λz:Gz=>(z.1,j6 z.2.1,↥z.2.2)
def GzT(K:Ϗ)(H:Hp)(ls:ϵ)(wss:ϲ)(z:Gz):Prop:=StT K H z.1 z.2.1/\SsT K H z.2.2 ((wss.getD z.2.1.1.toNat []).map<|KC ls z.2.1)
theorem GzT.same{K:Ϗ}(h:GzT K H a wss z)(s:Same H H'):GzT K H' a wss z:=#[h.1.same s,h.2.same s]
theorem Ah{K:Ϗ}{b:ϵ}(h:∀z∈zs,GzT K H b wss z):∀p∈d7 zs,vG H p.1 p.2.1:=λp c=>by let#[z,d,rfl]:=Zp.mp c;show(h z d).1.a
theorem jP(h:x∉zs.map (·.2.1)):dY (d7 zs) (j6 x)=none:=tL.mpr λm=>by unfold d7 at m;rw[Ä]at m;let#[z,a,e]:=Zp.mp m;show h<|Zp.mpr #[z,a,vf e]
theorem qH(h:x∈zs.map (·.2.1)):∃v,dY (d7 zs) (j6 x)=!v:=Iv (by unfold d7;rw[Ä];let#[z,a,e]:=Zp.mp h;show Zp.mpr #[z,a,by rw[<-e];rfl])
theorem vm(d:∀i∈a,↑i<=42):∀rs:ϊ Int,↑(qG a rs)<=↑rs*1764
 |[]=>by simp[qG]|r::rs=>by
  have b:=vm d rs;unfold qG at b⊢;rw[List.flatMap_cons,É,í];have l:↑(Ze a r)<=1764:=by
   unfold Ze;have f:↑(a.getD r.toNat [])<=42:=by
    by_cases c:r.toNat<↑a;.rw [Xs,Zl c];show d _<|Ø c
    .rw [Xs,Ā<|HY c];simp
   have e:∀(m:Nat)(g:Nat->Nat->(ϴ)×(ϴ)×Int),m<=42->↑((List.range m).flatMap λj=>(List.range j).map λk=>g j k)<=m*42:=by intro m g h;induction m with
    |zero=>simp|succ m b=>rw[List.range_succ,List.flatMap_append,É,List.flatMap_singleton,Qb,ê];have:=b<|â h;rfl'
   have:=e _ (λj k=>((a.getD r.toNat []).getD k default,(a.getD r.toNat []).getD j default,r)) f;rfl'
  rfl'
inductive eW(K:Ϗ)(vs:ϊ V)(H:Hp)(Q:VK)(E:XK):Prop|mk (f c:ό) (h:Nat) (a:ϵ) (b:L2S) (d:ϊ Int) (e:vs=[.ref f,.ref c]) (g:FnF K H f h a) (i:Fo.Wf h a) (j:HsG K H c b d) (k:Zf a b) (l:∀r H' N (zs:ϊ Gz),Same H H'->H r=none->↑(cV (b.map (aJ a)) N)<=N->H' r=!(cL r (d7 zs))->(∀z∈zs,GzT K H' a (b.map (aJ a)) z)->↑zs<=20000->(zs.map (·.2.1)).Nodup->(∀x,x∈zs.map (·.2.1)↔Mm.Rch (NT (b.map (aJ a)) N) (R4 (b.map (aJ a))) x)->Q (.ref r) H')
abbrev KQ K:=(aA (bD (tB<|lK (tX K ie 2) cG) (iH cG (tX K ie 2)<|bB (dS K)<|bF aU<|tX K ie 2) aR)
  (aA (BJ dF ie<|bB (fe K)<|kW bT (fQ cG<|tX K ie 2) ie)
  (di<|ue K "list" oO gB<|cA<|kJ [none] (cC K<|nW dF ie) (ak 0) dJ<|tX K aU 2)))
abbrev KR K:=(aA (aL By<|ak 4)
  (aA (aL (kJ [none] (cC K<|bB (fT K)<|bF aU bT) (ak 0) dJ<|tX K aU 1)<|ak 5)
  (aA (fZ (aN<|aM kj (eF K gB)<|tI 0) (aA (aL (Om K "list" Ur gB)<|ak 6)
  (bD (tB<|uA ie dF) (KQ K) aR)))
  (aW dF))))
abbrev KY K(E:XK)(Eh:XK):=(aA (aL (bB (fy K)<|bF aU bc)<|ak 2)
  (aA (aL yM<|ak 3)
  (KR K)))
abbrev vo:ϊ ϐ:=sN ["font","house","ways","costs","found","waiting","stand"]
theorem WR(h:eW K vs H Q E):RG (KY K E) vo vs H Q:=by
 let#[f,ha,h,U,ds,es,rfl,hF,wf,hH,sz,q]:=h;show#[E0,?_];have ah:=Cz wf sz;have cq:∀p∈U,↑p.2<=8:=λp mp=>(wf.c1 p mp).2;let#[b2,a7,c4,c5]:=id sz;have ag:∀ws∈ds.map<|aJ U,↑ws<=42:=λws ac=>by let#[zz,a5,rfl]:=Zp.mp ac;show Í (Ņ ..) (c4 zz a5).1
 have b0:∀ws∈ds.map<|aJ U,∀w∈ws,Fo.lk U w.1=!w.2.1:=λws ac w mw=>by let#[zz,a5,rfl]:=Zp.mp ac;let#[p,mp,ep]:=é.mp<|show w∈zz.filterMap _ from mw;let#[O,ai,rfl]:=Î.mp ep;show ai
 apply#[f,ha,h,U,ds,es,Z,hF,wf,hH,cU a7,λzz a5=>by have:=(c4 zz a5).1;show cU this,λwa H1 s1 dp hW=>?_];have cw:↑(ds.map<|aJ U)=↑ds:=Qb _;generalize ds.map (aJ U)=wss at ah ag hW q cw b0;rw[<-cw]at ah b2 a7 c5;symm;intro O br;symm;intro g bs;have S1:Same H1 (upd (upd H1 O<|HO.dT []) g<|cL g []):=(ao br _).new bs;have F:upd (upd H1 O<|HO.dT []) g (cL g []) O=!(.dT []):=aF bs aj;have G:upd (upd H1 O<|HO.dT []) g (cL g []) g=!(cL g []):=aj;have bi:H1 g=none:=(ao br _).free bs;generalize upd (upd H1 O<|HO.dT []) g (cL g [])=H2 at S1 F G;apply#[f,wa,h,U,wss,Z,(hF.same s1).same S1,wf,hW.same S1,b2,cU a7,λws ac=>#[by have:=ag ws ac;show cU this,λw mw=>#[b0 ws ac w mw,(ah ws ac w mw).2]],λfk H3 N s3 dl hN hT=>?_];let#[fz,b9,c6,ce]:=hT;have c9:↑(cV wss N)<=↑wss:=by
  have da:∀k,∀r∈cV wss k,0<=r/\r<↑wss:=λk=>eZ (P:=λr:Int=>0<=r/\r<↑wss) #[by decide,Vb b2] (λp q' hp hq=>by let#[w,mw,rfl]:=Zp.mp hq;show(ah.at mw).2) k;have:=f9 (l:=cV wss N) (m:=(List.range ↑wss).map λi:Nat=>(i:Int)) (ig _ _ N) λr mr=>by let#[h0,h1]:=da N r mr;show Zp.mpr #[r.toNat,ì.mpr<|RP h0 h1,uG h0]
  rw[Qb,ê]at this;show this
 have cm:↑fz<=88200:=by have h1:=vm ag<|cV wss N;rw[<-b9,Qb]at h1;have:=Nat.mul_le_mul_right 1764<|Í c9 a7;show Í h1 this
 show Cd (λz:Fz=>↥z.1) (zs:=fz) (gI c6) (cU cm) (λz:Fz=>↥z.2.1) ?_ λD aw=>?_;.rintro i z hi A hA;let#[z1,_]:=ce z<|Yf hi;apply dZ (gL z1) (aO (j:=1) (v:=↥z.2.1) Z) hA
 have S3:=(S1.trans s3).new (o:=HO.lst (fz.map λz:Fz=>↥z.2.1)) aw;have a8:upd H3 D (HO.lst (fz.map λz:Fz=>↥z.2.1)) O=!(.dT []):=aF aw<|s3.get F;have bb:upd H3 D (HO.lst (fz.map λz:Fz=>↥z.2.1)) g=!(cL g []):=aF aw<|s3.get G;have am:upd H3 D (HO.lst (fz.map λz:Fz=>↥z.2.1)) D=!(.lst ((fz.map λz:Fz=>(z.2.1,mH z.2.2.2.2)).map λz:ό×Sd=>↥z.1)):=by rw[aj,Ä];rfl
 have ar:∀z∈fz.map λz:Fz=>(z.2.1,mH z.2.2.2.2),StT K (upd H3 D (HO.lst (fz.map λz:Fz=>↥z.2.1))) z.1 z.2:=λz mz=>by let#[y,my,rfl]:=Zp.mp mz;show(ce y my).2.1.same<|ao aw _
 have cx:H1 D=none:=(S1.trans s3).free aw;generalize upd H3 D (HO.lst (fz.map λz:Fz=>↥z.2.1))=H4 at S3 a8 bb am ar;have b6:(fz.map λz:Fz=>(z.2.1,mH z.2.2.2.2)).map (·.2)=NT wss N:=by rw[Ä];unfold NT;rw[<-b9,Ä];rfl
 have b5:↑(fz.map λz:Fz=>(z.2.1,mH z.2.2.2.2))<=88200:=by rw[Qb];show cm
 generalize fz.map (λz:Fz=>(z.2.1,mH z.2.2.2.2))=fs at am ar b6 b5;symm;walk_at "ns";have bv:∀p∈[O,g,D],H1 p=none:=λp hp=>by
  simp only[Å,Ú,þ]at hp;rcases hp with rfl|rfl|rfl;.show br
  .show bi
  .show cx
 have SH:=s1;show mC (λm σ W=>(An2 (Sb [O,g,D] H1 W) (Ex4 λ(C:ϊ Gz) (fs:ϊ<|ό×Sd) (cs:ϊ<|ϊ Nat×ό) (o6:ύ V)=>(An11 (W g=!(cL g<|d7 C)) (∀z∈C,z.2.2≠D/\GzT K W U wss z) (W D=!(.lst (fs.map λz:ό×Sd=>↥z.1))) (∀z∈fs,StT K W z.1 z.2) (W O=!(.dT (cs.map λc=>(vH c.1,↥c.2)))) (∀c∈cs,W c.2=!(.dK<|Cw<|Cv c.1 U)) (Mm.Clo (NT wss N) (R4 wss) (C.map (·.2.1)) (fs.map (·.2))) (↑cs<=↑C) (↑fs<=88200+42*↑C) (m=(20000-↑C)*43+↑fs)<|σ=[!↥f,!↥ha,!↥wa,!↥O,!↥g,!↥D,o6])))) _ #[Sb.of S3,[],fs,[],none,bb,λz m=>(by cases m),am,ar,a8,λc m=>(by cases m),by rw[b6];show Mm.Clo.start _ _,Ã _,uH b5 _,Z,Z] ?_ ?_
 .rintro m σ W Nx ⟨sb,C,fs,cs,o6,a3,ax,L,cn,ai,cj,hC,a4,bk,rfl,rfl⟩ bq;have S':=sb.off bv;have bx:∀x,Mm.Rch (NT wss N) (R4 wss) x->InU ↑wss U x:=λx hx=>Mm.Rch.all (WQ ah N) (WP cq ah) hx;have cy:↑C<=20000:=by
   have:=f9 hC.nd λx mx=>(bx x<|hC.rF x mx).mem;rw[KJ,Qb]at this;show Í this c5
  apply kE L ?_;apply cM (λc1=>?_) λc1=>?_
  .obtain ⟨R,⟨S,s⟩,rfl⟩:∃(R:ϊ<|ό×Sd)(y:ό×Sd),fs=R++[y]:=#[fs.dropLast,fs.getLast (λe=>by rw[e]at c1;simp at c1),(List.dropLast_concat_getLast _).symm];rw[Â]at hC L;rw[É,ã]at bk bq c1;have cv:=cn _<|ß _<|Zs.mpr Z;have c7:∀z∈R,StT K W z.1 z.2:=λz mz=>cn z<|ç _ mz;dsimp only at cv;have bn:=bx s<|hC.rW s<|ß _<|Zs.mpr Z;apply fB (gI L) ?_;apply s_pop L ?_;symm;have n1:g≠D:=gH a3 L;have n2:O≠D:=gH ai L;have n3:O≠g:=gH ai a3;have a2:=sb.set (p:=D) (o:=HO.lst (R.map λz:ό×Sd=>↥z.1)) (by simp);have G:upd W D (HO.lst (R.map λz:ό×Sd=>↥z.1)) g=!(cL g<|d7 C):=by rw[aq n1];show a3
   have F:upd W D (HO.lst (R.map λz:ό×Sd=>↥z.1)) O=!(.dT (cs.map λc=>(vH c.1,↥c.2))):=by rw[aq n2];show ai
   have ad:upd W D (HO.lst (R.map λz:ό×Sd=>↥z.1)) D=!(.lst (R.map λz:ό×Sd=>↥z.1)):=aj;have nt:∀{xs:ϊ V} l,HO.lst xs≠.tup l:=λl z=>by cases z
   have J:∀z∈C,z.2.2≠D/\GzT K (upd W D (HO.lst (R.map λz:ό×Sd=>↥z.1))) U wss z:=λz mz=>#[(ax z mz).1,(ax z mz).2.1.keep L nt,(ax z mz).2.2.keep L nt (ax z mz).1];have Y:StT K (upd W D (HO.lst (R.map λz:ό×Sd=>↥z.1))) S s:=cv.keep L nt;have af:∀z∈R,StT K (upd W D (HO.lst (R.map λz:ό×Sd=>↥z.1))) z.1 z.2:=λz mz=>(c7 z mz).keep L nt;have ae:∀c∈cs,upd W D (HO.lst (R.map λz:ό×Sd=>↥z.1)) c.2=!(.dK<|Cw<|Cv c.1 U):=λc mc=>by rw[aq<|gH (cj c mc) L];show cj c mc
   generalize upd W D (HO.lst (R.map λz:ό×Sd=>↥z.1))=H5 at a2 G F ad J Y af ae⊢;have S5:=a2.off bv;show#[g,_,Z,SGet.of G (Ah λz mz=>(J z mz).2) Y.a,?_];by_cases m:s∈C.map (·.2.1)
   .obtain ⟨v,ev⟩:=qH m;rw[ev];symm;change if(not true)=true then _ else _;apply bq _ _ _ (RV Z) #[a2,C,R,cs,_,G,J,ad,af,F,ae,hC.skip m,a4,â bk,Z,Z]
   .have ev:=jP m;rw[ev];symm;change if(not false)=true then _ else _;rw[β<|show(not false)=true from Z];have dd:↑s.2.2<=8:=by let#[_,_,p,mp,d,_,e]:=bn;rw[e,ù];have:=cq p mp;show Í (Nat.sub_le _ _) this
    walk_at "ns";with_reducible show iz (λσ H6=>(An2 (Sb [O,g,D] H1 H6) (Ex2 λ(cs:ϊ<|ϊ Nat×ό) (ca:ό)=>(An11 (H6 g=!(cL g<|d7 C)) (∀z∈C,z.2.2≠D/\GzT K H6 U wss z) (H6 D=!(.lst (R.map λz:ό×Sd=>↥z.1))) (∀z∈R,StT K H6 z.1 z.2) (StT K H6 S s) (H6 O=!(.dT (cs.map λc=>(vH c.1,↥c.2)))) (∀c∈cs,H6 c.2=!(.dK<|Cw<|Cv c.1 U)) (↑cs<=↑C+1) ((s.2.2,ca)∈cs) (bu (cs.map λc=>(vH c.1,↥c.2)) (vH s.2.2)=!↥ca)<|σ=[!↥f,!↥ha,!↥wa,!↥O,!↥g,!↥D,!↥S])))) ?_ ?_
    .rintro σ H6 ⟨c2,bo,ca,b4,ay,bd,cp,as,B,be,ci,b1,ab,rfl⟩;have S6:=c2.off bv;let#[sc,e1,e2]:=id as;let#[#[i1,i2],_,_]:=id bn;let#[r,hr]:∃r:Nat,s.1=(r:Int):=#[s.1.toNat,()];have ct:wss[r]?=!(wss.getD s.1.toNat []):=by rw[hr,Ó,Xs,Zl ()];rfl
     have cz:=Yf ct;have df:=ag _ cz;apply m9 e1 ?_;apply#[O,↥ca,Z,by rw[<-ab];show DGet.t (k:=vH s.2.2) B (by rw[Af];show e2),?_];apply#[wa,ca,S,U,wss,s,_,r,Z,hW.same S6,be _ b1,as,hr,ct,b0 _ cz,(),λX H7 s7 db cf=>?_];symm;have I:=s7.get b4;have cc:=s7.get bd;have b3:=s7.get B;have bm:=as.same s7;have de:X≠D:=nj bd db;show#[g,_,Z,SPut.of I (Ah λz mz=>(ay z mz).2.same s7) bm.a (by unfold d7;rw[Qb];rfl'),?_];rw[qt ev];have a1:∀{P:PySem.Heap->Prop} l,HO.ext P≠.tup l:=λl z=>by cases z
     have cb:d7 C++[(S,j6 s,↥X)]=d7 (C++[(S,s,X)]):=by unfold d7;rw[Â];rfl
     have c3:=(c2.same s7).set (p:=g) (o:=cL g<|d7 C++[(S,j6 s,↥X)]) (by simp);have al:upd H7 g (cL g<|d7 C++[(S,j6 s,↥X)]) g=!(cL g<|d7 C++[(S,j6 s,↥X)]):=aj;have ap:upd H7 g (cL g<|d7 C++[(S,j6 s,↥X)]) D=!(.lst (R.map λz:ό×Sd=>↥z.1)):=by rw[aq n1.symm];show cc
     have a9:upd H7 g (cL g<|d7 C++[(S,j6 s,↥X)]) O=!(.dT (bo.map λc=>(vH c.1,↥c.2))):=by rw[aq n3];show b3
     have av:StT K (upd H7 g<|cL g<|d7 C++[(S,j6 s,↥X)]) S s:=bm.keep I a1;have bl:∀z∈R,StT K (upd H7 g<|cL g<|d7 C++[(S,j6 s,↥X)]) z.1 z.2:=λz mz=>((cp z mz).same s7).keep I a1;have bg:∀c∈bo,upd H7 g (cL g<|d7 C++[(S,j6 s,↥X)]) c.2=!(.dK<|Cw<|Cv c.1 U):=λc mc=>by have:=s7.get<|be c mc;rw[aq<|gH this I];show this
     have c0:∀{a xs},SsT K H7 a xs->a≠g:=λh=>by let#[us,_,u2,_]:=h;show gH u2 I
     have M:∀z∈C++[(S,s,X)],z.2.2≠D/\GzT K (upd H7 g<|cL g<|d7 C++[(S,j6 s,↥X)]) U wss z:=λz mz=>by
      rcases Æ.mp mz with mz|mz;.have h7:=(ay z mz).2.same s7;show#[(ay z mz).1,h7.1.keep I a1,h7.2.keep I a1<|c0 h7.2]
      .rw [Zs.mp mz];show#[de,av,cf.keep I a1<|c0 cf]
     generalize upd H7 g (cL g<|d7 C++[(S,j6 s,↥X)])=H8 at c3 al ap a9 av bl bg M⊢;apply fB (gI ap) ?_;apply#[g,↥X,Z,by rw[<-Ew (b:=S) (v:=↥X) ev];show SGet.of al (by rw[cb];show Ah λz mz=>(M z mz).2) av.a,?_];symm;let#[us,u1,u2,u3]:=(M _<|ß _<|Zs.mpr Z).2.2;dsimp only at u1 u2;have dn:↑us=↑(wss.getD s.1.toNat []):=by have:=Ö List.length u1;rw[Qb,Qb]at this;show this
     let#[zz,ep,cr]:=Ag u3;have dg:↑zz=↑us:=by rw[<-ep,Qb]
     show Cd (λp:Uz=>↥p.1.1) (zs:=zz) (gI (by rw[u2,<-ep,Ä];rfl)) () (λp:Uz=>↥p.2) ?_ λnl c8=>?_;.rintro i p hi A hA;apply dZ (gL (cr p<|Yf hi).1) (aO (j:=2) (v:=↥p.2) Z) hA
     have s9:Same H8 (upd H8 nl (HO.lst (zz.map λp:Uz=>↥p.2))):=ao c8 _;have e9:upd H8 nl (HO.lst (zz.map λp:Uz=>↥p.2)) nl=!(.lst (zz.map λp:Uz=>↥p.2)):=aj;generalize upd H8 nl (HO.lst (zz.map λp:Uz=>↥p.2))=H9 at s9 e9⊢;have T:=s9.get ap;apply xP T e9 (by rw[Qb,Qb];rfl') ?_;symm;have dc:(zz.map λp:Uz=>(p.2,p.1.2.2.2)).map (·.2)=R4 wss s:=by
      rw[Ä];have:zz.map ((λx:ό×Sd=>x.2)∘λp:Uz=>(p.2,p.1.2.2.2))=(zz.map (·.1)).map (λu:ό×ϐ×Nat×Sd=>u.2.2.2):=by rw[Ä];rfl
      rw[this,ep];have:=Ö (List.map λx:ϐ×Nat×Sd=>x.2.2) u1;rw[Ä,Ä]at this;show this
     show bq ((20000-↑(C++[(S,s,X)]))*43+↑(R++zz.map λp:Uz=>(p.2,p.1.2.2.2))) _ _ ?_ #[(c3.same s9).set (by simp),C++[(S,s,X)],R++zz.map (λp:Uz=>(p.2,p.1.2.2.2)),bo,_,by rw[aq n1,<-cb];show s9.get al,λz mz=>#[(M z mz).1,((M z mz).2.1.same s9).keep T nt,((M z mz).2.2.same s9).keep T nt (M z mz).1],by rw[aj,Â,Ä];rfl,λz mz=>?_,by rw[aq n2];show s9.get a9,λc mc=>by have:=s9.get<|bg c mc;rw[aq<|gH this T];show this,?_,by rw[É,ã];show ci,?_,Z,Z]
     .rw [É,ã,É,Qb];have:↑C<20000:=by
       have h1:=f9 (hC.take m).nd λx mx=>(bx x<|(hC.take m).rF x mx).mem;rw[KJ,É,ã,Qb]at h1;rfl'
      rfl'
     .rcases Æ.mp mz with mz|mz;.show ((bl z mz).same s9).keep T nt
      .obtain ⟨p,mp,rfl⟩:=Zp.mp mz;show((cr p mp).2.same s9).keep T nt
     .rw [Â,Â,dc];show hC.take m
     .rw [É,Qb,É,ã];rfl'
    .intro Nj hJ;let#[sc,e1,e2]:=id Y;apply m9 e1 ?_;apply#[O,_,Z,DGet.t (k:=vH s.2.2) F (by rw[Af];show e2),?_];by_cases mc:s.2.2∈cs.map (·.1);.obtain ⟨ca,b1,ab⟩:=KH mc;rw[ab];symm;change if(not true)=true then _ else _;apply hJ _ _ #[a2,cs,ca,G,J,ad,af,Y,F,ae,uH a4 _,b1,ab,Z]
     .have bp:=Cy mc;rw[bp];symm;change if(not false)=true then _ else _;apply m9 e1 ?_;apply#[f,sc,h,U,s.2.2,Z,((hF.same s1).same S5).t,wf,gL e2,cU dd,λca H6 s6 dk ab=>?_];apply m9 (s6.get e1) ?_;symm;have B:=s6.get F;have a6:∀{xs:ϊ<|ϊ Key×V} l,HO.dT xs≠.tup l:=λl z=>by cases z
      show#[O,_,Z,DPut.t (k:=vH s.2.2) B (by rw[Af];show s6.get e2) (Õ (by rw[Qb];show Í a4 cy:_<=20000) (by decide)),?_];rw[cT _ bp];apply hJ _ _ #[(a2.same s6).set (by simp),cs++[(s.2.2,ca)],ca,by rw[aq n3.symm];show s6.get G,λz mz=>#[(J z mz).1,((J z mz).2.1.same s6).keep B a6,((J z mz).2.2.same s6).keep B a6 ?_],by rw[aq n2.symm];show s6.get ad,λz mz=>((af z mz).same s6).keep B a6,(Y.same s6).keep B a6,by rw[aj,Â];rfl,λc mc'=>?_,by rw[É,ã];show Ć a4,by simp,by rw[Â];show(rP _ _ _ _ bp).trans<|β Z,Z];.obtain ⟨us,_,u2,_⟩:=(J z mz).2.2;show gH (s6.get u2) B
      .rcases Æ.mp mc' with mc'|mc';.have:=s6.get<|ae c mc';rw[aq<|gH this B];show this
       .rw [Zs.mp mc'];rw[aq<|gH ab B];show ab
  .have e0:fs=[]:=Ŋ<|qn1 c1;subst e0;apply q g W N C (s1.trans S') (s1.free bi) hN a3 (λz mz=>(ax z mz).2) cy hC.nd hC.fin
 .rintro σ H Q Q' hq ⟨v,hv,x,n,e,hl,i,j,e1,e2,k,e3,z⟩;show#[v,hv,x,n,e,hl,i,j,e1,e2,k,e3,hq _ _ z]
abbrev NZ(st:Sd->ϊ (ϐ×Nat×Sd))(xs:ϊ Sd)(c:Nat)(x y:Sd):Prop:=x∈xs/\∃s,(s,c,y)∈st x
abbrev WT(ls:ϵ)(wss:ϲ)(x:Sd):ϊ (ϐ×Nat×Sd):=(wss.getD x.1.toNat []).map<|KC ls x
abbrev Bq:=ό×Nat×ό×Sd
variable{u:Bq}
def BqT(K:Ϗ)(H:Hp)(b:Bq):Prop:=H b.1=!(.tup [.int (b.2.1:Nat),↥b.2.2.1])/\StT K H b.2.2.1 b.2.2.2
theorem iB{a b:Type}{f:a->b}:∀{l:ϊ a}{x y:a},(l.map f).Nodup->x∈l->y∈l->f x=f y->x=y
 |z::l,x,y,h,mx,my,e=>by
  rw[Ç,ï]at h;rcases Å.mp mx with ex|mx<;>rcases Å.mp my with ey|my;.rw [ex,ey]
  .show μ (Zp.mpr #[y,my,by rw[<-e,ex]]) h.1
  .show μ (Zp.mpr #[x,mx,by rw[e,ey]]) h.1
  .show iB h.2 mx my e
theorem gh(s:Sb a H H1)(h:p∈a\/H p=none):Sb a H (upd H1 p o):=λb u c e=>by
 rw[aq (λz=>by
  rcases h with h|h;.show c<|z▸h
  .rw [z,h]at e;cases e)];show s b u c e
structure BkC(K:Ϗ)(H H':Hp)(ba:ό)(gz bz:ϊ Gz)(U:ό->ϊ Bq)(P:Nat->Sd->Sd->Prop)(m:Nat):Prop where
 d:H' ba=!(cL ba<|d7 bz)
 k:bz.map (λb=>(b.1,b.2.1))=gz.map (λz=>(z.1,z.2.1))n:(bz.map (·.2.2)).Nodup
 f:∀b∈bz,H b.2.2=none/\b.2.2≠ba
 c:∀b∈bz,H' b.2.2=!(.lst<|(U b.2.2).map λu=>↥u.1)/\(∀u∈U b.2.2,BqT K H' u)/\∀c x,(c,x)∈(U b.2.2).map (λu=>(u.2.1,u.2.2.2))↔P c x b.2.1
 s:(bz.map λb=>↑(U b.2.2)).sum<=m
theorem BqT.same{K:Ϗ}(h:BqT K H u)(s:Same H H'):BqT K H' u:=#[s.get h.1,h.2.same s]
theorem BqT.keep{K:Ϗ}(h:BqT K H u)(e:H p=!o)(a:∀l,o≠.tup l):BqT K (upd H p o') u:=#[by rw[aq (λz=>by have:=h.1;rw[z,e]at this;show a _<|Ý this)];show h.1,h.2.keep e a]
theorem BkC.same{K:Ϗ}(h:BkC K H H1 ba gz bz U P m)(s:Same H1 H2):BkC K H H2 ba gz bz U P m:=⟨s.get h.d,h.k,h.n,h.f,λb e=>by let#[a,c,d]:=h.c b e;show⟨s.get a,λu f=>(c u f).same s,d⟩,h.s⟩
theorem BkC.imp{K:Ϗ}{a:Nat}(h:BkC K H H1 ba gz bz U P m)(j:∀c x,∀b∈bz,P c x b.2.1↔P' c x b.2.1)(i:m<=a):BkC K H H1 ba gz bz U P' a:=⟨h.d,h.k,h.n,h.f,λb d=>by let#[e,f,g]:=h.c b d;show⟨e,f,λc x=>(g c x).trans<|j c x b d⟩,Í h.s i⟩
theorem KZ{a:Type}{f:a->Nat}:∀{l:ϊ a}{x:a},x∈l->f x<=(l.map f).sum
 |z::l,x,m=>by
  rw[Ç,ğ];rcases Å.mp m with e|m;.rw [e];show œ _ _
  .have:=KZ (f:=f) m;show qsR this _
theorem CG{d:Type}{U:ό->ϊ d}{u:d}:∀{bz:ϊ Gz},(bz.map (·.2.2)).Nodup->(bz.map λb=>↑(if b.2.2=a then U b.2.2++[u]else U b.2.2)).sum<=(bz.map λb=>↑(U b.2.2)).sum+1/\(a∉bz.map (·.2.2)->(bz.map λb=>↑(if b.2.2=a then U b.2.2++[u]else U b.2.2)).sum=(bz.map λb=>↑(U b.2.2)).sum)
 |[],_=>#[by simp,λ_=>Z]
 |v::bz,h=>by
  rw[Ç,ï]at h;let#[f,c]:=CG (U:=U) (u:=u) (a:=a) h.2;simp only[Ç,ğ];by_cases e:v.2.2=a;.have:=c (by rw[<-e];show h.1);rw[β e,É,ã];show#[(),λn=>μ (Å.mpr<|.inl e.symm) n]
  .rw [γ e];show#[(),λn=>by rw[c (λm=>n<|Ê _ m)]]
theorem BkC.add{K:Ϗ}(h:BkC K H H1 ba gz bz U P m)(A:(bz.map (·.2.1)).Nodup){b:Gz}(d:b∈bz)(t:BqT K H1 u):BkC K H (upd H1 b.2.2 (.lst (((U b.2.2).map λu=>↥u.1)++[↥u.1]))) ba gz bz (λa=>if a=b.2.2 then U a++[u]else U a) (λc x y=>P c x y\/(c=u.2.1/\x=u.2.2.2/\y=b.2.1)) (m+1):=by
 let#[f,j,k]:=h.c b d;show#[by rw[aq<|Ne.symm (h.f b d).2];show h.d,h.k,h.n,h.f,λv g=>?_,Í (CG h.n).1<|Nat.add_le_add_right h.s 1];by_cases e:v=b
 .subst e;rw[β Z];show#[by rw[aj,Â];rfl,λw mw=>?_,λc x=>?_]
  .rcases Æ.mp mw with mw|mw;.show (j w mw).keep f (λl q=>by cases q)
   .rw [Zs.mp mw];show t.keep f (λl q=>by cases q)
  .rw [Â,Æ,k];constructor
   .rintro (h|h);.show .inl h
    .rw [Ç,Đ,Zs]at h;show .inr #[congrArg Prod.fst h,Ö Prod.snd h,Z]
   .rintro (h|⟨r,s,_⟩);.show .inl h
    .show .inr (by rw[r,s];simp)
 .obtain ⟨n,o,p⟩:=h.c v g;have i:v.2.2≠b.2.2:=λz=>e<|iB h.n g d z;rw[γ i];show#[by rw[aq i];show n,λw mw=>(o w mw).keep f (λl q=>by cases q),λc x=>?_];rw[p];show#[.inl,λh=>h.elim id λh=>μ (iB A g d h.2.2) e]
theorem BkC.key{K:Ϗ}(h:BkC K H H1 ba gz bz U P m){b:Gz}(c:b∈bz):∃y∈gz,y.1=b.1/\y.2.1=b.2.1:=by
 have:(b.1,b.2.1)∈gz.map (λz=>(z.1,z.2.1)):=by rw[<-h.k];show Zp.mpr #[b,c,Z]
 let#[y,d,a]:=Zp.mp this;show#[y,d,(Prod.mk.inj a).1,(Prod.mk.inj a).2]
theorem BkC.sb{K:Ϗ}{o:ό}{x:HO}(h:BkC K H H1 ba gz bz U P m)(s:Sb [o] H1 H2)(e:H1 o=!(.frz g x)):BkC K H H2 ba gz bz U P m:=by
 have d:∀{a:ό}{u:HO},(∀g x,u≠.frz g x)->H1 a=!u->H2 a=!u:=λq f=>s.get (λm=>by rw[Zs.mp m,e]at f;show q _ _ (Ý f).symm) f
 show#[d (λ_ _ z=>by cases z) h.d,h.k,h.n,h.f,λb r=>?_,h.s];let#[i,j,k]:=h.c b r;show#[d (λ_ _ z=>by cases z) i,λu t=>?_,k];let#[l,c,n,p]:=j u t;show#[d (λ_ _ z=>by cases z) l,c,d (λ_ _ z=>by cases z) n,d (λ_ _ z=>by cases z) p]
theorem Ai(h:(d7 zs)[i]?=!z):∃g,zs[i]?=!g/\z=(g.1,j6 g.2.1,↥g.2.2):=by
 unfold d7 at h;rw[Á]at h
 cases e:zs[i]?with
 |none=>rw[e]at h;cases h|some g=>rw[e]at h;show#[g,Z,(Ý h).symm]
theorem Zg{y z:Gz}(h:(zs.map (·.2.1)).Nodup)(f:zs[i]?=!y)(g:zs[j]?=!z)(e:y.2.1=z.2.1):i=j:=by
 let#[a,b]:=À.mp f;let#[c,d]:=À.mp g;have:=(List.nodup_iff_pairwise_ne.mp h);rcases Δ i j with l|l|l;.show μ (by rw[ă,ă,b,d];show e)<|Ο.mp h i j (by rw[Qb];show a) (by rw[Qb];show c) l
 .show l
 .show μ (by rw[ă,ă,b,d];show e.symm)<|Ο.mp h j i (by rw[Qb];show c) (by rw[Qb];show a) l
theorem jZ(f:(zs.map (·.2.1)).Nodup)(d:z∈zs):dY (d7 zs) (j6 z.2.1)=!↥z.2.2:=by let#[v,c]:=qH<|Zp.mpr #[z,d,Z];let#[b,g]:=Eu c;let#[y,h,a]:=Zp.mp g;have e:y=z:=iB f h d<|vf<|Ö (λp:ό×Sk×V=>p.2.1) a;subst e;rw[c];show Ö some (Ö (λp:ό×Sk×V=>p.2.2) a).symm
inductive dV(K:Ϗ)(vs:ϊ V)(H:Hp)(Q:VK)(E:XK):Prop|mk (b:ό) (a:ϊ Gz) (c:Sd->ϊ (ϐ×Nat×Sd)) (d:vs=[.ref b]) (f:Rd H b (cL b (d7 a))) (g:(∀z∈a,StT K H z.1 z.2.1/\SsT K H z.2.2 (c z.2.1)/\↑(c z.2.1)<=42)) (h:(a.map (·.2.1)).Nodup) (i:↑a<=20000) (j:(∀z∈a,∀e∈c z.2.1,e.2.2∈a.map (·.2.1))) (k:∀od ba H' (bz:ϊ Gz) (U:ό->ϊ Bq),Sb [b] H H'->H' b=!(.frz od (cL b (d7 a)))->H ba=none->BkC K H H' ba a bz U (NZ c (a.map (·.2.1))) 900000->Q (.ref ba) H')
abbrev La K:=(aA (cH (zp aU) (ak 2)<|BJ bc bT<|gf gJ)
  (aA (cH (BP aU) (gr K 2<|bf (ak 2)<|bf (ak 3) gF)<|cH (cC K cG) (gr K 3<|bf (ak 4)<|bf (ak 5)<|bf (ak 6) gF)<|di<|ue K "list" cY (nW bc ie)<|cA<|dj<|bF gB bT)
  (aW bc)))
abbrev Ld K(E:XK)(Eh:XK):=(aA (aL By<|ak 1)
  (La K))
abbrev Le:ϊ ϐ:=sN ["onward","backward","stand","steps","sign","cost","later"]
theorem WW(h:dV K vs H Q E):RG (Ld K E) Le vs H Q:=by
 let#[k,t,st,rfl,hO,hG,hN,hL,hC,q]:=h;show#[E0,?_];symm;intro D zz;symm;have S0:Same H (upd H D<|cL D []):=ao zz _;have a8:Rd (upd H D<|cL D []) k (cL k<|d7 t):=by
  rcases hO with e|⟨F,e⟩;.show .inl<|S0.get e
  .show .inr #[F,S0.get e]
 have a2:k≠D:=λz=>by rcases hO with e|⟨F,e⟩<;>(rw[z,zz]at e;cases e)
 have al:∀{d:Hp},Sb [k] H d->∀{a:ό}{l:ϊ V},H a=!(.tup l)->d a=!(.tup l):=λC a l e=>C.get (λm=>by rw[Zs.mp m]at e;rcases hO with g|⟨F,g⟩<;>(rw[g]at e;cases e)) e;have S:∀{d:Hp},Sb [k] H d->∀{a:ό}{x:Sd},StT K H a x->StT K d a x:=λC a x h=>by let#[c,L,e2]:=h;show#[c,al C L,al C e2]
 have ag:∀{d:Hp}{o:HO},Sb [k] H d->d k=!o->∀{p:ό},d p=none->H p=none:=λ{d o} C eo {p} M=>by cases e:H p with|none=>rfl|some u=>
   by_cases z:p=k;.rw [z,eo]at M;cases M
   .rw [C.get (by simpa using z) e]at M;cases M
 show zN a8 (λF i I d=>(Ex1 λ(B:ϊ Gz)=>(An4 (BkC K H d D (t.take i) B (λ_=>[]) (λ_ _ _=>False) 0) (Sb [k] H d) (d k=!(.frz F<|cL k<|d7 t)) (Ex5 λN O R o4 o5=>I=[!↥k,!↥D,N,O,R,o4,o5])))) ?_ ?_ ?_ ?_;.intro F H1 C L;show#[[],#[?_,Z,by simp,by simp,by simp,by simp],λb o nb e=>C b o nb<|S0.get e,L,_,_,_,_,_,Z];show C.get (by simpa using Ne.symm a2) aj
 .rintro F i I d ⟨B,_,_,e,_⟩;show e
 .rintro F i z I d hi ⟨B,A,C,eo,N,O,R,o4,o5,rfl⟩;let#[g,hg,rfl]:=Ai hi;have mg:=Yf hg;symm;intro p M;symm;have ab:=ag C eo M;have T:Same d (upd d p<|.lst []):=ao M _;have a9:i<↑t:=(À.mp hg).1;have a5:↑B<=20000:=by have:=Ö List.length A.k;rw[Qb,Qb,Ñ]at this;show jq this<|RT hL
  have ah:∀b∈B,StT K H b.1 b.2.1:=λb mb=>by let#[y,my,ey]:=A.key mb;have:=(hG y<|ŋ my).1;rw[ey.1,ey.2]at this;show this
  have ev:dY (d7 B) (j6 g.2.1)=none:=jP λm=>by
   let#[b,mb,eb]:=Zp.mp m;let#[y,my,ey]:=A.key mb;let#[n,hn,bb]:=List.mem_take_iff_getElem.mp my;have h1:t[n]?=!y:=by rw[Zl (),bb]
   have:=Zg hN h1 hg<|ey.2.trans eb;rfl'
  show#[D,_,Z,SPut.of (T.get A.d) (λq mq=>?_) ((S C (hG g mg).1).same T).a (by unfold d7;rw[Qb];show cU a5),?_];.obtain ⟨b,mb,rfl⟩:=Zp.mp mq;show((S C<|ah b mb).same T).a
  rw[qt ev];have a3:p≠D:=nj A.d M;have a6:d7 B++[(g.1,j6 g.2.1,↥p)]=d7 (B++[(g.1,g.2.1,p)]):=by unfold d7;rw[Â];rfl
  have af:t.take (i+1)=t.take i++[g]:=by rw[Ð,hg];rfl
  have bk:∀{P:PySem.Heap->Prop} l,HO.ext P≠.tup l:=λl z=>by cases z
  apply#[B++[(g.1,g.2.1,p)],#[by rw[aj,a6],?_,?_,λb mb=>?_,λb mb=>?_,by rw[Â,List.sum_append];show Í (Nat.add_le_add_right A.s _) (by simp)],gh (gh C<|.inr ab)<|.inr zz,by rw[aq a2];show T.get eo,_,_,_,_,_,Z];.rw [af,Â,Â,A.k];rfl
  .rw [Â,å];show#[A.n,by simp,λa ma c mc e=>?_];let#[b,mb,rfl]:=Zp.mp ma;let#[L,_]:=A.c b mb;rw[Ç,Đ,Zs]at mc;rw[e,mc,M]at L;cases L
  .rcases Æ.mp mb with mb|mb;.show A.f b mb
   .rw [Zs.mp mb];show#[ab,a3]
  .rcases Æ.mp mb with mb|mb;.obtain ⟨L,e2,e3⟩:=A.c b mb;show#[by rw[aq (A.f b mb).2];show T.get L,λu mu=>((e2 u mu).same T).keep (T.get A.d) bk,e3]
   .rw [Zs.mp mb];show#[by rw[aq a3,aj];rfl,λu mu=>(by cases mu),λc x=>by simp]
 .rintro F I d ⟨B,A,C,eo,N,O,R,o4,o5,rfl⟩;symm;have ad:t.take ↑(d7 t)=t:=by unfold d7;rw[Qb];show à
  rw[ad]at A;have hk:=A.k;have av:(B.map (·.2.1)).Nodup:=by have:=Ö (List.map Prod.snd) hk;rw[Ä,Ä]at this;rw[show B.map (·.2.1)=t.map (·.2.1)from this];show hN
  have ah:∀b∈B,StT K H b.1 b.2.1:=λb mb=>by let#[y,my,ey]:=A.key mb;have:=(hG y my).1;rw[ey.1,ey.2]at this;show this
  show Vv (.inr #[F,eo]) (λF i I d=>(Ex1 λU=>(An4 (BkC K H d D t B U (NZ st ((t.take i).map (·.2.1)))<|42*i) (Sb [k] H d) (d k=!(.frz F<|cL k<|d7 t)) (Ex5 λN O R o4 o5=>I=[!↥k,!↥D,N,O,R,o4,o5])))) ?_ ?_ ?_ ?_;.intro ac H1 G L;show#[_,(A.sb G eo).imp (λc x b mb=>by simp)<|Ã _,λb o nb e=>G b o nb<|C b o nb e,L,_,_,_,_,_,Z]
  .rintro F i I d ⟨_,_,_,e,_⟩;show e
  .rintro ac i z p I H1 hi ⟨U,Y,G,W,N,O,R,o4,o5,rfl⟩ M;let#[g,hg,rfl]:=Ai hi;have mg:=Yf hg;have ab:=ag G W M;have T:Same H1 (upd H1 p<|.tup [↥g.1,↥g.2.2]):=ao M _;have ar:=Y.same T;have ai:Sb [k] H (upd H1 p<|.tup [↥g.1,↥g.2.2]):=gh G<|.inr ab;have am:=T.get W;show cN (gL aj) Z ?_;symm;let#[us,u1,u2,u3]:=(hG g mg).2.1;let#[ps,ep,bd]:=Ag u3;have ae:ps.map (λp:Uz=>p.1.2)=st g.2.1:=by rw[<-u1,<-ep,Ä];rfl
   have bl:↑ps<=42:=by have:=Ö List.length ae;rw[Qb]at this;have:=(hG g mg).2.2;rfl'
   have bi:g.2.2≠k:=λz=>by rw[z]at u2;rcases hO with e|⟨F,e⟩<;>(rw[e]at u2;cases u2)
   have aw:∀{d:Hp},Sb [k] H d->SqL K d g.2.2 (ps.map λp:Uz=>↥p.1.1):=λC=>gI (by rw[C.get (by simpa using bi) u2,<-ep,Ä];rfl);generalize upd H1 p (.tup [↥g.1,↥g.2.2])=H2 at ar ai am⊢;have af:t.take (i+1)=t.take i++[g]:=by rw[Ð,hg];rfl
   show gn (λp:Uz=>↥p.1.1) (zs:=ps) (aw ai) (λj I d=>(Ex1 λU=>(An4 (BkC K H d D t B U (λc x y=>(x∈(t.take i).map (·.2.1)/\∃s,(s,c,y)∈st x)\/(x=g.2.1/\∃s,(s,c,y)∈(ps.take j).map (λp:Uz=>p.1.2)))<|42*i+j) (Sb [k] H d) (d k=!(.frz ac<|cL k<|d7 t)) (Ex3 λN O R=>I=[!↥k,!↥D,!↥g.1,!↥g.2.2,N,O,R]))))
    #[_,ar.imp (λc x b mb=>by simp)<|Ã _,ai,am,_,_,_,Z] ?_ ?_ ?_;.rintro j I H3 ⟨_,_,v,_⟩;show aw v
   .rintro j u I H3 hj ⟨U,J,v,X,N,O,R,rfl⟩;let#[p1,p2]:=bd u<|Yf hj;show cN (gL<|al v p1) Z ?_;symm;have bm:j<↑ps:=(À.mp hj).1;have a9:i<↑t:=(À.mp hg).1;have mu:u.1.2∈st g.2.1:=by rw[<-ae];show Zp.mpr #[u,Yf hj,Z]
    let#[b,mb,eb]:∃b∈B,b.2.1=u.1.2.2.2:=by have hm:=hC g mg _ mu;have:=Ö (List.map Prod.snd) hk;rw[Ä,Ä]at this;rw[<-show B.map (·.2.1)=t.map (·.2.1)from this]at hm;let#[b,mb,eb]:=Zp.mp hm;show#[b,mb,eb]
    show⟨D,↥b.2.2,Z,by rw[<-jZ av mb,eb];show SGet.of J.d (λq mq=>by let#[b',a1,rfl]:=Zp.mp mq;show(S v<|ah b' a1).a) (S v p2).a,?_⟩;let#[v1,v2,v3]:=J.c b mb;have v4:=Í (KZ (f:=λb:Gz=>↑(U b.2.2)) mb) J.s;show fB (gI v1) ?_;symm;intro r hr;have be:=ag v X hr;have S4:Same H3 (upd H3 r<|.tup [.int (u.1.2.2.1:Nat),↥g.1]):=ao hr _;have as:=J.same S4;have ax:BqT K (upd H3 r<|.tup [.int (u.1.2.2.1:Nat),↥g.1]) (r,u.1.2.2.1,g.1,g.2.1):=#[aj,(S v (hG g mg).1).same S4];have ay:=S4.get v1;have a4:Sb [k] H (upd H3 r<|.tup [.int (u.1.2.2.1:Nat),↥g.1]):=gh v<|.inr be;have ap:=S4.get X;generalize upd H3 r (.tup [.int (u.1.2.2.1:Nat),↥g.1])=H4 at as ax ay a4 ap⊢;apply gY ay (by rw[Qb];rfl') ?_;symm;have bg:k≠b.2.2:=λz=>by have:=(A.f b mb).1;rw[<-z]at this;rcases hO with e|⟨F,e⟩<;>(rw[this]at e;cases e)
    have a7:ps.take (j+1)=ps.take j++[u]:=by rw[Ð,hj];rfl
    show#[_,(as.add av mb ax).imp (λc x b' a1=>?_)<|Ã _,gh a4<|.inr (A.f b mb).1,by rw[aq bg];show ap,_,_,_,Z];rw[a7,Â,or_assoc];show or_congr Iff.rfl ?_;simp only[Æ,Ç,Đ,Zs];constructor
    .rintro (⟨h1,s,h2⟩|⟨h1,h2,h3⟩);.show #[h1,s,.inl h2]
     .show #[h2,u.1.2.1,.inr (by rw[h1,h3,eb])]
    .rintro ⟨h1,s,h2|h2⟩;.show .inl #[h1,s,h2]
     .have L:=Ö (λw:ϐ×Nat×Sd=>w.2.1) h2;have e2:=Ö (λw:ϐ×Nat×Sd=>w.2.2) h2;show .inr #[L,h1,e2.trans eb.symm]
   .rintro I H3 ⟨U,J,v,X,N,O,R,rfl⟩;apply#[U,J.imp (λc x b mb=>?_) (),v,X,_,_,_,_,_,Z];change _↔(x∈(t.take<|i+1).map (·.2.1)/\∃s,(s,c,b.2.1)∈st x);rw[à,ae,af,Â,Æ,Ç,Đ,Zs,or_and_right];show or_congr Iff.rfl #[λh=>#[h.1,by rw[h.1];show h.2],λh=>#[h.1,by rw[<-h.1];show h.2]]
  .rintro ac I H1 ⟨U,Y,G,W,N,O,R,o4,o5,rfl⟩;symm;rw[ad]at Y;show q ac D H1 B U G W zz (Y.imp (λ_ _ _ _=>Iff.rfl) (by unfold d7;rw[Qb];rfl'))
noncomputable def mJ(es:ϊ Int)(st:Sd):ϑ:=decide (↑st.2.2=0)&&(decide (st.1∈es)&&decide (st.2.1∈es))
inductive fv(K:Ϗ)(vs:ϊ V)(H:Hp)(Q:VK)(E:XK):Prop|mk (c a:ό) (d:Sd) (b:ϊ Int) (e:vs=[.ref c,.ref a]) (f:StT K H c d) (g:SqT K H a (b.map V.int)) (h:Q (.bl (mJ b d)) H)
abbrev Lf K(E:XK)(Eh:XK):=(aW<|gD (aM ou (eF K<|tX K aU 2)<|tI 0)<|gD (aM (Ol K false) (tX K aU 0) bc)<|aM (Ol K false) (tX K aU 1) bc)
abbrev Lg:ϊ ϐ:=sN ["stand","ends"]
theorem WX(h:fv K vs H Q E):RG (Lf K E) Lg vs H Q:=by
 let#[k,j,a,b,rfl,#[c,f,i],g,q]:=h;show#[E0,?_];apply m9 f ?_;apply cu (gL i) ?_;rw[show↑(nv a.2.2)=↑a.2.2 from Qb _];symm;by_cases d:↑a.2.2=0
 .show m7 (Eq.trans (qdE d) Z) ?_;apply dN f ?_;apply Es (.inr g) Z (iV _) ?_;rw[jX];by_cases e:a.1∈b
  .rw [Ô e];apply cZ f ?_;apply Es (.inr g) Z (iV _) ?_;rw[jX];have:mJ b a=decide (a.2.1∈b):=by unfold mJ;rw[Ô d,Ô e];rfl
   rw[<-this];show q
  .rw [Ü e];symm;have:mJ b a=false:=by unfold mJ;rw[Ô d,Ü e];rfl
   rw[<-this];show q
 .show gW () ?_;have:mJ b a=false:=by unfold mJ;rw[Ü d];rfl
  rw[<-this];show q
abbrev Qz:=(Ϻ)×ό×ϊ (ό×Sd)
noncomputable def jo(k:Ϻ):ϊ Key:=[Sum.inl (k.1:Int),Sum.inl (k.2:Int)]
theorem vp(h:jo k=jo l):k=l:=by
 let#[a,b]:=k;let#[c,d]:=l;unfold jo at h;injection h with h1 h2;injection h2 with h3 _;injection h1 with h1;injection h3 with h3;dsimp only at h1 h3;rw[show a=c by show Eo h1,show b=d by show Eo h3]
def nG(ws:ϊ Qz):ϊ (ϊ Key×V):=ws.map λw=>(jo w.1,↥w.2.1)
structure WtT(K:Ϗ)(H:Hp)(wa:ό)(ws:ϊ Qz):Prop where
 d:H wa=!(.dT<|nG ws)l:∀w∈ws,H w.2.1=!(.lst<|w.2.2.map λz=>↥z.1)n:(ws.map (·.2.1)).Nodup
 k:(ws.map (·.1)).Nodup
 s:∀w∈ws,∀z∈w.2.2,StT K H z.1 z.2
def Wait(ws:ϊ Qz)(k:Ϻ)(x:Sd):Prop:=∃w∈ws,w.1=k/\x∈w.2.2.map (·.2)
noncomputable def yf(ws:ϊ Qz)(k:Ϻ)(z:ό×Sd):ϊ Qz:=ws.map λw=>if w.1=k then(w.1,w.2.1,w.2.2++[z])else w
theorem WY(a:ϊ Qz)(k:Ϻ)(z:ό×Sd):nG (yf a k z)=nG a:=by
 unfold nG yf;rw[Ä];show Č λw _=>?_;change(jo (if w.1=k then(w.1,w.2.1,w.2.2++[z])else w).1,↥(if w.1=k then(w.1,w.2.1,w.2.2++[z])else w).2.1)=_;split<;>rfl
theorem nH(a:ϊ Qz)(k:Ϻ)(z:ό×Sd):(yf a k z).map (·.1)=a.map (·.1)/\(yf a k z).map (·.2.1)=a.map (·.2.1):=by unfold yf;rw[Ä,Ä];show#[List.map_congr_left λw _=>by change(if w.1=k then(w.1,w.2.1,w.2.2++[z])else w).1=_;split<;>rfl,Č λw _=>by change(if w.1=k then(w.1,w.2.1,w.2.2++[z])else w).2.1=_;split<;>rfl]
theorem Fb{b:ϊ Qz}(h:k∈b.map (·.1))(l:Ϻ)(x:Sd):Wait (yf b k z) l x↔Wait b l x\/(l=k/\x=z.2):=by
 constructor
 .rintro ⟨w,a,rfl,mx⟩;let#[v,c,rfl]:=Zp.mp a;by_cases e:v.1=k
  .rw [β e]at mx⊢;rw[Â,Æ]at mx;rcases mx with mx|mx;.show .inl #[v,c,Z,mx]
   .show .inr #[e,by simpa using mx]
  .rw [γ e]at mx⊢;show .inl #[v,c,Z,mx]
 .rintro (⟨w,a,rfl,mx⟩|⟨rfl,rfl⟩)
  .show #[_,Zp.mpr #[w,a,Z],?_,?_];.split<;>rfl
   .split;.rw [Â,Æ];show .inl mx
    .show mx
  .obtain ⟨w,a,rfl⟩:=Zp.mp h;show#[_,Zp.mpr #[w,a,Z],by rw[β Z],by rw[β Z,Â];simp]
theorem oY{k:Ϻ}:∀{a:ϊ Qz}{w:Qz},(a.map (·.1)).Nodup->w∈a->w.1=k->bu (nG a) (jo k)=!↥w.2.1
 |v::a,w,hn,m,e=>by
  rw[Ç,ï]at hn;change bu ((jo v.1,↥v.2.1)::nG a) (jo k)=_;by_cases h:v.1=k
  .rcases Å.mp m with rfl|m;.rw [h];simp[bu]
   .show μ (Zp.mpr #[w,m,e.trans h.symm]) hn.1
  .rcases Å.mp m with rfl|m;.show μ e h
   .have:=oY hn.2 m e;rw[<-this];have b:jo v.1≠jo k:=λz=>h<|vp z;simp[bu,b]
theorem yg{k:Ϻ}:∀{a:ϊ Qz},k∉a.map (·.1)->bu (nG a) (jo k)=none
 |[],_=>Z|v::a,h=>by
  rw[Ç,Å,not_or]at h;change bu ((jo v.1,↥v.2.1)::nG a) (jo k)=_;have:=yg h.2;rw[<-this];have b:jo v.1≠jo k:=λz=>h.1 (vp z).symm;simp[bu,b]
inductive fo(K:Ϗ)(vs:ϊ V)(H:Hp)(Q:VK)(E:XK):Prop|mk (e g f:ό) (c:ϊ Qz) (r:Ϻ) (d:ϊ Bq) (h:vs=[.ref e,.ref g,.ref f]) (i:WtT K H e c) (j:H g=!(.tup [.int (r.1:Nat),.int (r.2:Nat)])) (k:H f=!(.lst (d.map λb=>V.ref b.1))) (n:f∉c.map (·.2.1)) (o:(∀b∈d,BqT K H b)) (p:↑c+↑d<=1000000) (q:(∀w∈c,↑w.2.2+↑d<=1000000)) (s:∀H' (a:ϊ Qz),WtT K H' e a->Sb (e::c.map (·.2.1)) H H'->(∀w∈a,w.2.1∈c.map (·.2.1)\/H w.2.1=none)->(∀l x,Wait a l x↔Wait c l x\/∃b∈d,l=(r.1+b.2.1,r.2+1)/\x=b.2.2.2)->↑a<=↑c+↑d->(∀m,(∀w∈c,↑w.2.2<=m)->∀w∈a,↑w.2.2<=m+↑d)->Q .non H')
abbrev Lh K(E:XK)(Eh:XK):=(cH (cC K bT) (gr K 2<|bf (ak 3)<|bf (ak 4) gF)<|di<|ue K "list" cY (HD aU (dj<|bF (aM b7 (tX K bc 0) cG)<|aM b7 (tX K bc 1)<|tI 1)<|gf gJ)<|cA dF)
abbrev Li:ϊ ϐ:=sN ["waiting","rest","backs","cost","earlier"]
theorem X3(h:fo K vs H Q E):RG (Lh K E) Li vs H Q:=by
 let#[t,ra,ba,u,r,C,rfl,hw,hr,hb,nb,hB,ah,ab,q]:=h;show#[E0,?_];symm;have zz:∀{j:Hp},Sb (t::u.map (·.2.1)) H j->∀{a:ό}{l:ϊ V},H a=!(.tup l)->j a=!(.tup l):=λs a l e=>s.get (λm=>by
  rcases Å.mp m with rfl|m;.rw [hw.d]at e;cases e
  .obtain ⟨w,mw,rfl⟩:=Zp.mp m;rw[hw.l w mw]at e;cases e) e;have ad:ba≠t:=gH hb hw.d;have I:∀{j:Hp},Sb (t::u.map (·.2.1)) H j->j ba=!(.lst (C.map λb=>↥b.1)):=λs=>s.get (λm=>(Å.mp m).elim ad nb) hb;show gn (λb:Bq=>↥b.1) (zs:=C) (gI hb) (λi σ j=>(Ex1 λ(g:ϊ Qz)=>(An8 (WtT K j t g) (Sb (t::u.map (·.2.1)) H j) (∀w∈g,w.2.1∈u.map (·.2.1)\/H w.2.1=none) (∀l x,Wait g l x↔Wait u l x\/∃b∈C.take i,l=(r.1+b.2.1,r.2+1)/\x=b.2.2.2) (↑g<=↑u+i) (∀m,(∀w∈u,↑w.2.2<=m)->∀w∈g,↑w.2.2<=m+i) (∀w∈u,w.2.1∈g.map (·.2.1)) (Ex2 λo1 o2=>σ=[!↥t,!↥ra,!↥ba,o1,o2]))))
  #[u,hw,Sb.of<|gN _,λw m=>.inl<|Zp.mpr #[w,m,Z],λl x=>by simp,Ã _,λm h w mw=>h w mw,λw m=>Zp.mpr #[w,m,Z],none,none,Z] ?_ ?_ ?_;.rintro i σ j ⟨g,_,s,_⟩;show gI<|I s
 .rintro i b σ j hi ⟨g,f,s,R,O,hn,U,A,o1,o2,rfl⟩;let#[b1,b2]:=hB b<|Yf hi;have ag:i<↑C:=(À.mp hi).1;show cN (gL<|zz s b1) Z ?_;apply#[t,Z,.inr #[_,.inl f.d],?_];apply dN (zz s hr) ?_;apply cZ (zz s hr) ?_;symm;intro p hp;symm;intro d hd;symm;have ek:((r.1:Int)+(b.2.1:Int))=((r.1+b.2.1:Nat):Int)/\((r.2:Int)+1)=((r.2+1:Nat):Int):=#[Z,Z];rw[ek.1,ek.2]at hd⊢;have Sp:Same j (upd j p<|.tup [.int ((r.1+b.2.1:Nat):Int),.int ((r.2+1:Nat):Int)]):=ao hp _;have S:=Sp.new (o:=.lst []) hd;have ac:p≠d:=aP aj hd;have n:j d=none:=Sp.free hd;have P:H d=none:=by cases e:H d with
   |none=>rfl|some o=>
    exfalso;by_cases m:d∈t::u.map (·.2.1)
    .rcases Å.mp m with z|m;.rw [z,f.d]at n;cases n
     .obtain ⟨w,mw,rfl⟩:=Zp.mp m;let#[v,mv,ev]:=Zp.mp<|A w mw;have:=f.l v mv;rw[show v.2.1=w.2.1 from ev,n]at this;cases this
    .rw [s.get m e]at n;cases n
  have hE:StT K j b.2.2.1 b.2.2.2:=by let#[c,e1,e2]:=b2;show#[c,zz s e1,zz s e2]
  have N:C.take (i+1)=C.take i++[b]:=by rw[Ð,hi];rfl
  show#[nG g,jo (r.1+b.2.1,r.2+1),p,S.get f.d,Z,by rw[aq ac,aj];rfl,Õ (show↑(nG g)<=1000000 by unfold nG;rw[Qb];rfl') (by decide),λv G=>?_,λG=>?_]
  .obtain ⟨w,mw,M⟩:∃w∈g,w.1=(r.1+b.2.1,r.2+1):=by
    by_cases m:(r.1+b.2.1,r.2+1)∈g.map (·.1);.show Zp.mp m
    .rw [yg m]at G;cases G
   rw[oY f.k mw M]at G;cases G;have L:=S.get<|f.l w mw;have T:↑w.2.2<=1000000:=by have:=U (1000000-↑C) (λv mv=>by have:=ab v mv;rfl') w mw;rfl'
   show fB (gI L) ?_;apply gY L (by rw[Qb];show T) ?_;symm;have af:t≠w.2.1:=λz=>by rw[<-z,S.get f.d]at L;cases L
   show#[yf g (r.1+b.2.1,r.2+1) (b.2.2.1,b.2.2.2),#[?_,?_,by rw[(nH ..).2];show f.n,by rw[(nH ..).1];show f.k,?_],gh (s.same S)<|(R w mw).imp_left<|Ê _,?_,?_,by unfold yf;rw[Qb];show Í hn<|â<|RV Z,?_,λv mv=>by rw[(nH ..).2];show A v mv,_,_,Z];.rw [aq af,WY];show S.get f.d
   .intro v mv;let#[v0,k,rfl]:=Zp.mp mv;by_cases e:v0.1=(r.1+b.2.1,r.2+1);.rw [β e];have:v0=w:=iB f.k k mw<|e.trans M.symm;subst this;change upd _ v0.2.1 _ v0.2.1=_;rw[aj,Â];rfl
    .rw [γ e,aq (λz=>e (by rw[iB f.n k mw z];show M))];show S.get<|f.l v0 k
   .intro v mv z mz;let#[v0,k,rfl]:=Zp.mp mv;have Y:∀z∈v0.2.2,StT K (upd (upd (upd j p<|.tup [.int ((r.1+b.2.1:Nat):Int),.int ((r.2+1:Nat):Int)]) d<|.lst []) w.2.1 (.lst ((w.2.2.map λz=>↥z.1)++[↥b.2.2.1]))) z.1 z.2:=λz mz=>((f.s v0 k z mz).same S).keep L (λl q=>by cases q);by_cases e:v0.1=(r.1+b.2.1,r.2+1)
    .rw [β e]at mz;rcases Æ.mp mz with mz|mz;.show Y z mz
     .rw [Zs.mp mz];show(hE.same S).keep L (λl q=>by cases q)
    .rw [γ e]at mz;show Y z mz
   .intro v mv;let#[v0,k,rfl]:=Zp.mp mv;have e:(if v0.1=(r.1+b.2.1,r.2+1)then(v0.1,v0.2.1,v0.2.2++[(b.2.2.1,b.2.2.2)])else v0).2.1=v0.2.1:=by split<;>rfl
    rw[e];show R v0 k
   .intro l x;rw[Fb<|Zp.mpr #[w,mw,M],O,N];simp only[Æ,Zs];constructor
    .rintro ((h|⟨c,J,h⟩)|h);.show .inl h
     .show .inr #[c,.inl J,h]
     .show .inr #[b,.inr Z,h]
    .rintro (h|⟨c,J|rfl,h⟩);.show .inl<|.inl h
     .show .inl<|.inr #[c,J,h]
     .show .inr h
   .intro m F v mv;let#[v0,k,rfl]:=Zp.mp mv;have:=U m F v0 k;split;.show ↑(v0.2.2++[_])<=_;rw[É,ã];show RQ (Ć this) Z
    .rfl'
  .have nk:(r.1+b.2.1,r.2+1)∉g.map (·.1):=λm=>by
    let#[w,mw,M]:=Zp.mp m;rw[oY f.k mw M]at G;cases G
   have W:t≠d:=λz=>by rw[<-z,f.d]at n;cases n
   have D:upd (upd (upd j p<|.tup [.int ((r.1+b.2.1:Nat):Int),.int ((r.2+1:Nat):Int)]) d<|.lst []) t (.dT<|nG g++[(jo (r.1+b.2.1,r.2+1),↥d)]) d=!(.lst []):=by rw[aq<|Ne.symm W,aj]
   show fB (gI D) ?_;apply gY D (ä _) ?_;symm;have nd:d∉g.map (·.2.1):=λm=>by
    let#[v,mv,ev]:=Zp.mp m;have:=f.l v mv;rw[show v.2.1=d from ev,n]at this;cases this
   have st:∀{a:ό}{x:Sd},StT K j a x->StT K (upd (upd (upd (upd j p<|.tup [.int ((r.1+b.2.1:Nat):Int),.int ((r.2+1:Nat):Int)]) d<|.lst []) t<|.dT<|nG g++[(jo (r.1+b.2.1,r.2+1),↥d)]) d<|.lst<|[]++[↥b.2.2.1]) a x:=λh=>((h.same S).keep (S.get f.d) (λl q=>by cases q)).keep D (λl q=>by cases q);show#[g++[((r.1+b.2.1,r.2+1),d,[(b.2.2.1,b.2.2.2)])],#[?_,?_,?_,?_,?_],gh (gh (s.same S)<|.inl Ì)<|.inr P,?_,?_,by rw[É,ã];show RQ (Ć hn) Z,?_,λv mv=>by rw[Â];show ç _<|A v mv,_,_,Z];.rw [aq W,aj];unfold nG;rw[Â];rfl
   .intro v mv;rcases Æ.mp mv with mv|mv;.have e1:=f.l v mv;have n1:v.2.1≠d:=λz=>nd<|Zp.mpr #[v,mv,z];have n2:v.2.1≠t:=gH e1 f.d;rw[aq n1,aq n2];show S.get e1
    .rw [Zs.mp mv];show aj
   .rw [Â,å];show#[f.n,by simp,λx B y X e=>nd (by rw[Ç,Đ,Zs]at X;have:x=d:=e.trans X;rw[<-this];show B)]
   .rw [Â,å];show#[f.k,by simp,λx B y X e=>nk (by rw[Ç,Đ,Zs]at X;have:x=(r.1+b.2.1,r.2+1):=e.trans X;rw[<-this];show B)]
   .intro v mv z mz;rcases Æ.mp mv with mv|mv;.show st<|f.s v mv z mz
    .rw [Zs.mp mv]at mz;rw[Zs.mp mz];show st hE
   .intro v mv;rcases Æ.mp mv with mv|mv;.show R v mv
    .rw [Zs.mp mv];show .inr P
   .intro l x;have ae:Wait (g++[((r.1+b.2.1,r.2+1),d,[(b.2.2.1,b.2.2.2)])]) l x↔Wait g l x\/(l=(r.1+b.2.1,r.2+1)/\x=b.2.2.2):=by
     constructor
     .rintro ⟨w,mw,rfl,B⟩;rcases Æ.mp mw with mw|mw;.show .inl #[w,mw,Z,B]
      .rw [Zs.mp mw]at B⊢;show .inr #[Z,by simpa using B]
     .rintro (⟨w,mw,rfl,B⟩|⟨rfl,rfl⟩);.show #[w,ç _ mw,Z,B]
      .show #[_,ß _<|Zs.mpr Z,Z,by simp]
    rw[ae,O,N];simp only[Æ,Zs];constructor
    .rintro ((h|⟨c,J,h⟩)|h);.show .inl h
     .show .inr #[c,.inl J,h]
     .show .inr #[b,.inr Z,h]
    .rintro (h|⟨c,J|rfl,h⟩);.show .inl<|.inl h
     .show .inl<|.inr #[c,J,h]
     .show .inr h
   .intro m F v mv;rcases Æ.mp mv with mv|mv;.have:=U m F v mv;rfl'
    .rw [Zs.mp mv];change 1<=_;show cU<|Ã 1
 .rintro σ j ⟨g,f,s,R,O,hn,U,A,o1,o2,rfl⟩;rw[à]at O;apply q j g f s R O hn U
abbrev T8(es:ϊ Int)(xs:ϊ Sd)(x:Sd):Prop:=x∈xs/\mJ es x=true
def leP(k l:Ϻ):Prop:=k.1<l.1\/(k.1=l.1/\k.2<=l.2)
def leP.refl(k:Ϻ):leP k k:=.inr #[Z,Ã _]
theorem leP.trans{m:Ϻ}(h:leP k l)(g:leP l m):leP k m:=by unfold leP at*;rfl'
theorem leP.up(k:Ϻ)(c:Nat):leP k (k.1+c,k.2+1):=by unfold leP;dsimp only;rfl'
theorem leP.zero(h:leP k (0,0)):k=(0,0):=by let#[a,b]:=k;unfold leP at h;dsimp only at h;rw[show a=0 by rfl',show b=0 by rfl']
structure Dj(ev:Sd->Prop)(B:Nat->Sd->Sd->Prop)(F:Sd->Nat×Nat->Prop)(W:Nat×Nat->Sd->Prop):Prop where
 e:∀x,ev x->F x (0,0)\/W (0,0) x
 b:∀c x y v,B c x y->F y v->(∃u,F x u/\leP u (v.1+c,v.2+1))\/W (v.1+c,v.2+1) x
 s:∀x k,F x k\/W k x->(ev x/\k=(0,0))\/∃c y v,B c x y/\F y v/\k=(v.1+c,v.2+1)m:∀x k,F x k->∀l y,W l y->leP k l
theorem Dj.skip(h:Dj ev B F W){r:Ϻ}(b:F x k)(a:∀l y,W l y↔W' l y\/(l=r/\y=x)):Dj ev B F W':=by
 have d:leP k r:=h.m x k b r x<|(a _ _).mpr<|.inr #[Z,Z];show#[λy m=>?_,λc z y v f j=>?_,λz l e=>h.s z l<|e.imp id λw=>(a _ _).mpr<|.inl w,λz l e i y w=>h.m z l e i y<|(a _ _).mpr<|.inl w]
 .rcases h.e y m with g|g;.show .inl g
  .rcases (a _ _).mp g with g|⟨g1,g2⟩
   .show .inr g
   .rw [<-g1]at d;rw[d.zero]at b;show .inl<|by rw[g2];show b
 .rcases h.b c z y v f j with g|g;.show .inl g
  .rcases (a _ _).mp g with g|⟨g1,g2⟩
   .show .inr g
   .show .inl #[k,by rw[g2];show b,by rw[g1];show d]
theorem Dj.take{F:Sd->Nat×Nat->Prop}{W o:Nat×Nat->Sd->Prop}(h:Dj ev B F W){r:Ϻ}(n:∀l y,W l y↔W' l y\/(l=r/\y=x))(t:∀l y,W' l y->leP r l)(d:∀y k,F' y k↔F y k\/(y=x/\k=r))(f:∀l y,o l y↔W' l y\/∃c,B c y x/\l=(r.1+c,r.2+1)):Dj ev B F' o:=by
 have q:W r x:=(n _ _).mpr<|.inr #[Z,Z];show#[λy m=>?_,λc z y v p m=>?_,λz l hz=>?_,λz l hz i y w=>?_]
 .rcases h.e y m with g|g;.show .inl<|(d _ _).mpr<|.inl g
  .rcases (n _ _).mp g with g|⟨a,b⟩;.show .inr<|(f _ _).mpr<|.inl g
   .show .inl<|(d _ _).mpr<|.inr #[b,a]
 .rcases (d _ _).mp m with m|⟨rfl,rfl⟩
  .rcases h.b c z y v p m with⟨u,a,b⟩|g
   .show .inl #[u,(d _ _).mpr<|.inl a,b]
   .rcases (n _ _).mp g with g|⟨a,b⟩;.show .inr<|(f _ _).mpr<|.inl g
    .show .inl #[r,(d _ _).mpr<|.inr #[b,Z],by rw[a];show leP.refl _]
  .show .inr<|(f _ _).mpr<|.inr #[c,p,Z]
 .have e:F z l\/W l z->(ev z/\l=(0,0))\/∃c y v,B c z y/\F' y v/\l=(v.1+c,v.2+1):=λg=>(h.s z l g).imp id λ⟨c,y,v,a,b,s⟩=>#[c,y,v,a,(d _ _).mpr<|.inl b,s];rcases hz with hz|hz
  .rcases (d _ _).mp hz with hz|⟨rfl,rfl⟩;.show e<|.inl hz
   .show e<|.inr q
  .rcases (f _ _).mp hz with hz|⟨c,a,b⟩;.show e<|.inr<|(n _ _).mpr<|.inl hz
   .show .inr #[c,x,r,a,(d _ _).mpr<|.inr #[Z,Z],b]
 .have j:leP l r:=by
   rcases(d _ _).mp hz with hz|⟨_,rfl⟩;.show h.m z l hz r x q
   .show leP.refl _
  rcases(f _ _).mp w with w|⟨c,_,rfl⟩;.show j.trans<|t _ _ w
  .show j.trans<|leP.up _ _
theorem CJ{b:Type}{f g:b->Nat}{d:Nat}(h:∀x,g x<=f x):∀{l:ϊ b}{x:b},x∈l->g x+d<=f x->(l.map g).sum+d<=(l.map f).sum
 |z::l,x,m,e=>by
  have a:∀l:ϊ b,(l.map g).sum<=(l.map f).sum:=λl=>by induction l with
   |nil=>show Ã _|cons y l ih=>rw[Ç,Ç,ğ,ğ];have:=h y;show Nat.add_le_add this ih
  rw[Ç,Ç,ğ,ğ];rcases Å.mp m with rfl|m
  .have:=a l;rfl'
  .have:=CJ h m e;have:=h z;rfl'
abbrev Fq:=ό×Sd×ό×(Ϻ)
noncomputable def nJ(fz:ϊ Fq):ϊ Gz:=fz.map λf=>(f.1,f.2.1,f.2.2.1)
structure FdT(K:Ϗ)(H:Hp)(fa:ό)(fz:ϊ Fq):Prop where
 d:H fa=!(cL fa<|d7<|nJ fz)s:∀f∈fz,StT K H f.1 f.2.1/\H f.2.2.1=!(.tup [.int (f.2.2.2.1:Nat),.int (f.2.2.2.2:Nat)])n:(fz.map (·.2.1)).Nodup
def kY(fz:ϊ Fq)(x:Sd)(k:Ϻ):Prop:=∃f∈fz,f.2.1=x/\f.2.2.2=k
noncomputable def oM(bz:ϊ Gz)(U:ό->ϊ Bq)(fz:ϊ Fq):Nat:=(bz.map λb=>if b.2.1∈fz.map (·.2.1)then 0 else ↑(U b.2.2)).sum
theorem nM{K:Ϗ}(h:∀f∈fz,StT K H f.1 f.2.1):∀p∈d7<|nJ fz,vG H p.1 p.2.1:=λp c=>by let#[z,d,rfl]:=Zp.mp c;let#[f,b,rfl]:=Zp.mp d;show(h f b).a
theorem jl(a:ϊ Fq):(nJ a).map (·.2.1)=a.map (·.2.1):=by unfold nJ;rw[Ä];rfl
theorem X4{l:Ϻ}(h:HT.lexLt [(l.1:Int),(l.2:Int)] [(k.1:Int),(k.2:Int)]=false):leP k l:=by
 unfold leP;unfold HT.lexLt at h;split at h
 .unfold HT.lexLt at h;split at h;.rfl'
  .have:=Ł h;rfl'
 .have:=Ł h;rfl'
def Zh(es:ϊ Int)(gz:ϊ Gz)(z:ό×Sk×V):ύ V:=by classical
 show if ∃g∈gz,z=(g.1,j6 g.2.1,↥g.2.2)/\mJ es g.2.1=true then !(.ref z.1)else none
theorem Lj(m:g∈gz):Zh a gz (g.1,j6 g.2.1,↥g.2.2)=if mJ a g.2.1=true then !(.ref g.1)else none:=by
 unfold Zh;by_cases e:mJ a g.2.1=true;.rw [β e,β #[g,m,Z,e]]
 .rw [γ e,γ];rintro⟨y,d,c,b⟩;have:=vf<|Ö (λp:ό×Sk×V=>p.2.1) c;rw[this]at e;show e b
theorem CK:∀{l:ϊ Gz},(∀g∈l,g∈a)->(d7 l).filterMap (Zh es a)=((l.filter λg=>mJ es g.2.1).map λg=>(g.1,g.2.1)).map λz:ό×Sd=>↥z.1
 |[],_=>Z|g::l,h=>by
  have b:=CK (es:=es) (l:=l) λx m=>h x<|Ê _ m
  change List.filterMap _ ((g.1,j6 g.2.1,↥g.2.2)::d7 l)=_;rw[ĳ,Lj<|h g<|Ì ..,ŀ,b];by_cases e:mJ es g.2.1=true;.rw [β e,β e];rfl
  .rw [γ e,γ e]
theorem Lk(a:ϊ Qz)(k:Ϻ):eQ (nG a) (jo k)=nG (a.filter λv=>decide<|v.1≠k):=by
 unfold eQ nG;rw[List.filter_map];congr 1;show List.filter_congr λv _=>?_;change decide (jo v.1≠jo k)=decide (v.1≠k);by_cases e:v.1=k;.rw [e];simp
 .rw [Ô<|show v.1≠k from e,Ô<|show jo v.1≠jo k fromλz=>e<|vp z]
theorem WtT.pop{K:Ϗ}{i:ό}{d:ϊ Qz}(h:WtT K H i d){w:Qz}(g:w∈d):∃c:ϊ Qz,WtT K (upd H i<|.dT<|eQ (nG d)<|jo w.1) i c/\w.2.1∉c.map (·.2.1)/\↑c+1<=↑d/\(∀v∈c,v∈d)/\∀l x,Wait d l x↔Wait c l x\/(l=w.1/\x∈w.2.2.map (·.2)):=by
 have k:∀{n:ϊ<|ϊ Key×V} l,HO.dT n≠.tup l:=λl z=>by cases z
 have b:∀v∈d.filter<|λv=>decide<|v.1≠w.1,v∈d/\v.1≠w.1:=λv a=>#[(ò.mp a).1,ô (ò.mp a).2];show#[d.filter λv=>decide<|v.1≠w.1,#[by rw[aj,Lk],λv a=>?_,?_,?_,λv a z j=>(h.s v (b v a).1 z j).keep h.d k],λm=>?_,?_,λv a=>(b v a).1,λl x=>#[?_,?_]];.have e:=h.l v (b v a).1;rw[aq<|λz=>by rw[z,h.d]at e;cases e];show e
 .show Ē (List.Sublist.map _ List.filter_sublist) h.n
 .show Ē (List.Sublist.map _ List.filter_sublist) h.k
 .obtain ⟨v,a,e⟩:=Zp.mp m;have:=iB h.n (b v a).1 g e;show(b v a).2<|by rw[this]
 .show List.length_filter_lt_length_iff_exists.mpr #[w,g,by simp]
 .rintro ⟨v,a,rfl,f⟩;by_cases e:v.1=w.1
  .rw [iB h.k a g e]at f⊢;show .inr #[Z,f]
  .show .inl #[v,ò.mpr #[a,Ô e],Z,f]
 .rintro (⟨v,a,rfl,f⟩|⟨rfl,f⟩);.show #[v,(b v a).1,Z,f]
  .show #[w,g,Z,f]
inductive fR(K:Ϗ)(vs:ϊ V)(H:Hp)(Q:VK)(E:XK):Prop|mk (b f:ό) (a:ϊ Gz) (c:Sd->ϊ (ϐ×Nat×Sd)) (g:ϊ Int) (h:vs=[.ref b,.ref f]) (i:Rd H b (cL b (d7 a))) (j:(∀z∈a,StT K H z.1 z.2.1/\SsT K H z.2.2 (c z.2.1)/\↑(c z.2.1)<=42)) (k:(a.map (·.2.1)).Nodup) (l:↑a<=20000) (m:(∀z∈a,∀e∈c z.2.1,e.2.2∈a.map (·.2.1))) (n:SqT K H f (g.map V.int)) (o:∀od d H' (fz:ϊ Fq),Sb [b] H H'->H' b=!(.frz od (cL b (d7 a)))->H d=none->FdT K H' d fz->Dj (T8 g (a.map (·.2.1))) (NZ c (a.map (·.2.1))) (kY fz) (λ_ _=>False)->Q (.ref d) H')
abbrev Ln K:=(aA (fZ (aN<|aM kj (gw xm<|cA dF)<|tI 0) (aA (aL (gw HH<|cA dF)<|ak 5)
  (aA (aL (RK dF gB)<|ak 6)
  (cH (cC K ie) (ak 7) (bD (tB<|uA oW cG) (aA (BJ cG oW gB)
  (di<|bB (fo K)<|kW dF gB<|nW bT oW)) aR)))))
  (aW cG))
abbrev Lp K(E:XK)(Eh:XK):=(aA (aL (bB (dV K)<|cA aU)<|ak 2)
  (aA (aL By<|ak 3)
  (aA (aL (z6 (dj<|bF (tI 0)<|tI 0)<|kJ [none,!1] (zp aU) (ak 0) (lA K<|bB (fv K)<|bF aU bc) aU)<|ak 4)
  (Ln K))))
abbrev Aj:ϊ ϐ:=sN ["onward","ends","backward","found","waiting","rest","reached","stand"]
theorem X5(h:fR K vs H Q E):RG (Lp K E) Aj vs H Q:=by
 let#[D,ea,J,st,zz,rfl,hO,hG,hN,hL,hC,hE,q]:=h;show#[E0,?_];apply#[D,J,st,Z,hO,hG,hN,hL,hC,λec ba M bz U a5 ar eg hB=>?_];symm;intro n aw;symm;intro F b3;symm;intro ta a2;have S1:Same M (upd M n<|cL n []):=ao aw _;have S2:=S1.new (o:=.dT []) b3;have S3:=S2.new (o:=.tup [.int 0,.int 0]) a2;have bk:upd (upd (upd M n<|cL n []) F<|.dT []) ta (.tup [.int 0,.int 0]) n=!(cL n []):=((ao b3 _).trans<|ao a2 _).get aj;have bn:upd (upd (upd M n<|cL n []) F<|.dT []) ta (.tup [.int 0,.int 0]) F=!(.dT []):=(ao a2 _).get aj;have bm:upd (upd (upd M n<|cL n []) F<|.dT []) ta (.tup [.int 0,.int 0]) ta=!(.tup [.int 0,.int 0]):=aj;have af:M F=none:=S1.free b3;have b9:n≠D:=nj ar aw;have cb:F≠D:=nj ar af;have d6:ta≠D:=λz=>by rw[z,S2.get ar]at a2;cases a2
 generalize upd (upd (upd M n<|cL n []) F<|.dT []) ta (.tup [.int 0,.int 0])=H3 at S3 bk bn bm⊢;have cq:∀{r:Hp}{o:HO},Sb [D] M r->r D=!o->∀{p:ό},r p=none->M p=none:=λ{r o} sb eo {p} hp=>by cases e:M p with
  |none=>rfl|some u=>
   by_cases z:p=D;.rw [z,eo]at hp;cases hp
   .rw [sb.get (by simpa using z) e]at hp;cases hp
 have tk:∀{r:Hp},Sb [D] M r->∀{a:ό}{u:HO},(∀od x,u≠.frz od x)->M a=!u->r a=!u:=λsb a u hu ea=>sb.get (λm=>by rw[Zs.mp m,ar]at ea;show hu _ _ (Ý ea).symm) ea
 have ci:∀{r:Hp},Sb [D] H r->∀{a:ό}{l:ϊ V},H a=!(.tup l)->r a=!(.tup l):=λsb a l e=>sb.get (λm=>by rw[Zs.mp m]at e;rcases hO with g|⟨od,g⟩<;>(rw[g]at e;cases e)) e
 have cf:∀{r:Hp},Sb [D] M r->∀{z:Gz},z∈J->StT K r z.1 z.2.1:=λsb z mz=>by let#[c,e1,e2]:=(hG z mz).1;show#[c,tk sb (λ_ _ z=>by cases z) (ci a5 e1),tk sb (λ_ _ z=>by cases z)<|ci a5 e2]
 have dc:∀{r:Hp},Sb [D] H r->SqT K r ea (zz.map V.int):=λsb=>by
  rcases hE with(e|⟨od,e⟩)|hK;.show .inl (.inl<|ci sb e)
  .show .inl (.inr #[od,sb.get (λm=>?_) e]);rw[Zs.mp m]at e;rcases hO with g|⟨od',g⟩<;>(rw[g]at e;cases e)
  .show .inr hK
 apply Sw (.inr #[ec,S3.get ar]) (by unfold d7;rw[Qb];show cU hL) (Zh zz J) λai H4 al cm=>#[λi z hi A B hA cr=>?_,λla bb=>?_]
 .obtain ⟨g,hg,rfl⟩:=Ai hi;have mg:=Yf hg;rw[Lj mg]at hA cr;apply#[g.1,ea,g.2.1,zz,Z,cf (λb o nb e=>al b o nb<|S3.get e) mg,dc (λb o nb e=>al b o nb<|S3.get<|a5 b o nb e),?_];symm;by_cases ev:mJ zz g.2.1=true;.rw [ev];apply hA _ (β ev)
  .rw [Bool.eq_false_iff.mpr ev];apply cr (γ ev)
 have ce:Sb [D] M H4:=λb o nb e=>al b o nb (S3.get e)
 have S5:Same H4 (upd H4 la<|.lst<|(d7 J).filterMap<|Zh zz J):=ao bb _;have bp:=cq ce cm bb;rw[CK λg m=>m]at S5⊢;have am:=al.get (by simpa using b9) bk;have ab:=al.get (by simpa using cb) bn;have cp:=al.get (by simpa using d6) bm;have d5:la≠F:=nj ab bb;have eh:la≠n:=nj am bb;have ca:n≠F:=gH am ab;apply#[S5.get ab,jo (0,0),ta,Z,S5.get cp,?_];symm;have ax:∃(G:ϊ Qz),WtT K (upd (upd H4 la (.lst (((J.filter λg=>mJ zz g.2.1).map λg=>(g.1,g.2.1)).map λz:ό×Sd=>↥z.1))) F<|.dT [(jo (0,0),↥la)]) F G/\(∀w∈G,M w.2.1=none)/\↑G<=1/\(∀w∈G,↑w.2.2<=20000)/\∀k x,Wait G k x↔k=(0,0)/\x∈J.map (·.2.1)/\mJ zz x=true:=by
  show#[[((0,0),la,(J.filter λg=>mJ zz g.2.1).map λg=>(g.1,g.2.1))],#[by rw[aj];rfl,λw T=>?_,by simp,by simp,λw T z mz=>?_],λw T=>by rw[Zs.mp T];show bp,Ã _,λw T=>?_,λk x=>?_];.rw [Zs.mp T,aq d5,aj]
  .rw [Zs.mp T]at mz;let#[g,mg,rfl]:=Zp.mp mz;show((cf ce (ò.mp mg).1).same S5).keep (S5.get ab) (λl z=>by cases z)
  .rw [Zs.mp T,Qb];show Í (Ħ _ _) hL
  .constructor;.rintro ⟨w,T,rfl,mx⟩;rw[Zs.mp T]at mx⊢;dsimp only at mx⊢;rw[Ä]at mx;let#[g,mg,rfl]:=Zp.mp mx;show#[Z,Zp.mpr #[g,(ò.mp mg).1,Z],(ò.mp mg).2]
   .rintro ⟨rfl,mx,e⟩;let#[g,mg,rfl]:=Zp.mp mx;show#[_,Zs.mpr Z,Z,Zp.mpr #[(g.1,g.2.1),Zp.mpr #[g,ò.mpr #[mg,e],Z],Z]]
 have c4:Sb [D] M (upd (upd H4 la (.lst (((J.filter λg=>mJ zz g.2.1).map λg=>(g.1,g.2.1)).map λz:ό×Sd=>↥z.1))) F<|.dT [(jo (0,0),↥la)]):=gh (gh ce<|.inr bp) (.inr af);have bl:(upd (upd H4 la (.lst (((J.filter λg=>mJ zz g.2.1).map λg=>(g.1,g.2.1)).map λz:ό×Sd=>↥z.1))) F<|.dT [(jo (0,0),↥la)]) n=!(cL n []):=by rw[aq ca];show S5.get am
 have cn:(upd (upd H4 la (.lst (((J.filter λg=>mJ zz g.2.1).map λg=>(g.1,g.2.1)).map λz:ό×Sd=>↥z.1))) F<|.dT [(jo (0,0),↥la)]) D=!(.frz ai<|cL D<|d7 J):=by rw[aq<|Ne.symm cb];show S5.get cm
 generalize upd (upd H4 la (.lst (((J.filter λg=>mJ zz g.2.1).map λg=>(g.1,g.2.1)).map λz:ό×Sd=>↥z.1))) F (.dT [(jo (0,0),↥la)])=H6 at ax c4 bl cn⊢;let#[ed,df,dg,dq,dz,cy]:=ax;have de:oM bz U []<=900000:=by show Í (đ ?_) hB.s;unfold oM;simp
 show mC (λm σ r=>(Ex2 λ(fz:ϊ Fq) (G:ϊ Qz)=>(An11 (FdT K r n fz) (WtT K r F G) (Sb [D] M r) (r D=!(.frz ai<|cL D<|d7 J)) (∀w∈G,M w.2.1=none) (Dj (T8 zz (J.map (·.2.1))) (NZ st (J.map (·.2.1))) (kY fz)<|Wait G) (∀f∈fz,f.2.1∈J.map (·.2.1)) (m=↑G+oM bz U fz) (↑G+oM bz U fz<=900001) (∀w∈G,↑w.2.2+oM bz U fz<=950000) (Ex3 λo1 o2 o3=>σ=[!↥D,!↥ea,!↥ba,!↥n,!↥F,o1,o2,o3])))) _ #[[],ed,#[bl,by simp,by simp],df,c4,cn,dg,#[λx hx=>.inr ((cy _ _).mpr #[Z,hx.1,hx.2]),λc x y v _ hF=>?_,λx k hk=>?_,λx k hk=>?_],by simp,Z,jq (ń _ _) (qkT de dq),λw T=>by have:=dz w T;rfl',_,_,_,Z] ?_ ?_;.obtain ⟨f,mf,_⟩:=hF;cases mf
 .rcases hk with⟨f,mf,_⟩|hk;.cases mf
  .obtain ⟨e1,e2⟩:=(cy _ _).mp hk;show .inl #[e2,e1]
 .obtain ⟨f,mf,_⟩:=hk;cases mf
 .rintro m σ r N ⟨fz,G,hF,hW,sb,eo,dl,hD,cx,rfl,dn,dp,o1,o2,o3,rfl⟩ dd;apply zL hW.d ?_;rw[show↑(nG G)=↑G from Qb _];symm;by_cases a9:0<↑G
  .show m7 (Vb a9) ?_;apply Vx (kvs:=G.map λw:Qz=>([(w.1.1:Int),(w.1.2:Int)],↥w.2.1)) (by rw[hW.d,Ä];rfl) (λz=>by rw[Τ]at z;rw[z]at a9;cases a9) λR k ah mk bq=>?_;rw[Ä]at mk bq;let#[w,T,rfl]:=Zp.mp mk;replace ah:r R=!(.tup [.int (w.1.1:Nat),.int (w.1.2:Nat)]):=ah;have d0:∀v∈G,leP w.1 v.1:=λv I=>X4 (bq _<|Zp.mpr #[v,I,Z]);apply#[F,Z,.inr #[_,.inl hW.d],?_];apply#[nG G,jo w.1,R,↥w.2.1,hW.d,Z,ah,oY hW.k T Z,?_];let#[c7,cs,d1,dt,Y,d2]:=hW.pop T;have nt:∀{xs:ϊ (ϊ Key×V)} l,HO.dT xs≠.tup l:=λl z=>by cases z
   have c0:Sb [D] M (upd r F<|.dT<|eQ (nG G)<|jo w.1):=gh sb (.inr af);have cj:upd r F (.dT<|eQ (nG G)<|jo w.1) D=!(.frz ai<|cL D<|d7 J):=by rw[aq<|Ne.symm cb];show eo
   have b2:FdT K (upd r F<|.dT<|eQ (nG G)<|jo w.1) n fz:=⟨by rw[aq ca];show hF.d,λf mf=>⟨(hF.s f mf).1.keep hW.d nt,by have e:=(hF.s f mf).2;rw[aq (λz=>by rw[z,hW.d]at e;cases e)];show e⟩,hF.n⟩;have a7:upd r F (.dT<|eQ (nG G)<|jo w.1) w.2.1=!(.lst (w.2.2.map λz=>↥z.1)):=by have e:=hW.l w T;rw[aq (λz=>by rw[z,hW.d]at e;cases e)];show e
   have br:upd r F (.dT<|eQ (nG G)<|jo w.1) R=!(.tup [.int (w.1.1:Nat),.int (w.1.2:Nat)]):=by rw[aq (λz=>by rw[z,hW.d]at ah;cases ah)];show ah
   have bs:∀z∈w.2.2,StT K (upd r F<|.dT<|eQ (nG G)<|jo w.1) z.1 z.2:=λz mz=>(hW.s w T z mz).keep hW.d nt;generalize upd r F (.dT<|eQ (nG G)<|jo w.1)=H7 at cs c0 cj b2 a7 br bs⊢;have dy:w.2.1≠n:=gH a7 b2.d;apply gn (λz:ό×Sd=>↥z.1) (zs:=w.2.2) (gI a7) (λi σ r=>(Ex2 λ(d:ϊ Fq) (t:ϊ Qz)=>(An15 (FdT K r n d) (WtT K r F t) (Sb [D] M r) (r D=!(.frz ai<|cL D<|d7 J)) (∀v∈t,M v.2.1=none) (Dj (T8 zz (J.map (·.2.1))) (NZ st (J.map (·.2.1))) (kY d) (λl x=>Wait t l x\/(l=w.1/\x∈(w.2.2.drop i).map (·.2)))) (∀f∈d,f.2.1∈J.map (·.2.1)) (∀l x,Wait t l x->leP w.1 l) (r w.2.1=!(.lst (w.2.2.map λz=>↥z.1))) (w.2.1∉t.map (·.2.1)) (r R=!(.tup [.int (w.1.1:Nat),.int (w.1.2:Nat)])) (∀z∈w.2.2,StT K r z.1 z.2) (↑t+oM bz U d+1<=↑G+oM bz U fz) (∀v∈t,↑v.2.2+oM bz U d<=950000) (Ex1 λo1=>σ=[!↥D,!↥ea,!↥ba,!↥n,!↥F,!↥R,!↥w.2.1,o1]))))
    #[fz,c7,b2,cs,c0,cj,λv I=>dl v (Y v I),?_,cx,λl x ⟨v,I,e,_⟩=>e▸d0 v (Y v I),a7,d1,br,bs,(),λv I=>dp v (Y v I),_,Z] ?_ ?_ ?_
   .have:(λl x=>Wait c7 l x\/(l=w.1/\x∈(w.2.2.drop 0).map (·.2)))=Wait G:=by funext l x;rw[ω];show propext (d2 l x).symm
    rw[this];show hD
   .rintro i σ H8 ⟨_,_,_,_,_,_,_,_,_,_,e,_⟩;show gI e
   .rintro i z σ H8 hi ⟨d,t,C,W,bg,a8,O,ag,L,ac,b0,be,a1,X,bd,ay,d8,rfl⟩;have mz:=Yf hi;have da:w.2.2.drop i=z::w.2.2.drop (i+1):=by let#[h1,h2]:=À.mp hi;rw[Ŝ h1,h2]
    have b4:∀l y,(Wait t l y\/(l=w.1/\y∈(w.2.2.drop i).map (·.2)))↔(Wait t l y\/(l=w.1/\y∈(w.2.2.drop<|i+1).map (·.2)))\/(l=w.1/\y=z.2):=λl y=>by rw[da,Ç,Å,or_assoc];show or_congr Iff.rfl ?_;rw[and_or_left];show Or.comm
    apply#[n,_,Z,SGet.of C.d (nM λf mf=>(C.s f mf).1) (X z mz).a,?_];by_cases m:z.2∈d.map (·.2.1);.obtain ⟨v,ev⟩:=qH (zs:=nJ d) (by rw[jl];show m);rw[ev];symm;change if(not true)=true then _ else _;symm;let#[f,mf,ef]:=Zp.mp m;show#[d,t,C,W,bg,a8,O,ag.skip #[f,mf,ef,Z] b4,L,ac,b0,be,a1,X,bd,ay,_,Z]
    have ev:=jP (zs:=nJ d) (x:=z.2) (by rw[jl];show m);rw[ev];symm;change if(not false)=true then _ else _;rw[β<|show(not false)=true from Z];have b5:z.2∈J.map (·.2.1):=by
     rcases ag.s z.2 w.1 (.inr<|(b4 _ _).mpr<|.inr #[rfl,rfl])with h|⟨c,y,v,h,_⟩;.show h.1.1
     .show h.1
    have cv:bz.map (·.2.1)=J.map (·.2.1):=by have:=Ö (List.map Prod.snd) hB.k;rw[Ä,Ä]at this;show this
    let#[b,mb,eb]:∃b∈bz,b.2.1=z.2:=by rw[<-cv]at b5;let#[b,mb,eb]:=Zp.mp b5;show#[b,mb,eb]
    let#[c1,c2,c3]:=hB.c b mb;have dk:↑d<=20000:=by
     have:=f9 C.n λx mx=>by let#[f,mf,rfl]:=Zp.mp mx;show L f mf
     rw[Qb,Qb]at this;show Í this hL
    apply#[n,_,Z,SPut.of C.d (nM λf mf=>(C.s f mf).1) (X z mz).a (by unfold d7 nJ;rw[Qb,Qb];show cU dk),?_];rw[qt ev];have cc:∀{P:PySem.Heap->Prop} l,HO.ext P≠.tup l:=λl z=>by cases z
    have db:d7 (nJ d)++[(z.1,j6 z.2,↥R)]=d7 (nJ<|d++[(z.1,z.2,R,w.1)]):=by unfold d7 nJ;rw[Â,Â];rfl
    have c6:∀{a:ό}{l:ϊ V},H8 a=!(.tup l)->upd H8 n (cL n<|d7 (nJ d)++[(z.1,j6 z.2,↥R)]) a=!(.tup l):=λe=>by rw[aq (λz=>by rw[z,C.d]at e;cases e)];show e
    have S:Sb [D] M (upd H8 n<|cL n<|d7 (nJ d)++[(z.1,j6 z.2,↥R)]):=gh bg (.inr aw);have b1:upd H8 n (cL n<|d7 (nJ d)++[(z.1,j6 z.2,↥R)]) D=!(.frz ai<|cL D<|d7 J):=by rw[aq<|Ne.symm b9];show a8
    have ae:∀z'∈w.2.2,StT K (upd H8 n<|cL n<|d7 (nJ d)++[(z.1,j6 z.2,↥R)]) z'.1 z'.2:=λz' b6=>(X z' b6).keep C.d cc;have ad:=c6 a1;have as:FdT K (upd H8 n<|cL n<|d7 (nJ d)++[(z.1,j6 z.2,↥R)]) n (d++[(z.1,z.2,R,w.1)]):=by
     show#[by rw[aj,db],λf mf=>?_,?_]
     .rcases Æ.mp mf with mf|mf;.show #[(C.s f mf).1.keep C.d cc,c6 (C.s f mf).2]
      .rw [Zs.mp mf];show#[ae z mz,ad]
     .rw [Â,å];show#[C.n,by simp,λa ma c mc e=>m ?_];rw[Ç,Đ,Zs]at mc;rw[<-show c=z.2 from mc,<-e];show ma
    have av:WtT K (upd H8 n<|cL n<|d7 (nJ d)++[(z.1,j6 z.2,↥R)]) F t:=⟨by rw[aq<|Ne.symm ca];show W.d,λv I=>by have e:=W.l v I;rw[aq (λz=>by rw[z,C.d]at e;cases e)];show e,W.n,W.k,λv I y my=>(W.s v I y my).keep C.d cc⟩;have ap:upd H8 n (cL n<|d7 (nJ d)++[(z.1,j6 z.2,↥R)]) w.2.1=!(.lst (w.2.2.map λz=>↥z.1)):=by rw[aq dy];show b0
    generalize upd H8 n (cL n<|d7 (nJ d)++[(z.1,j6 z.2,↥R)])=H9 at S b1 ae ad as av ap⊢;have ee:oM bz U (d++[(z.1,z.2,R,w.1)])+↑(U b.2.2)<=oM bz U d:=by
     unfold oM;show CJ (λv=>?_) mb ?_
     .by_cases h:v.2.1∈d.map (·.2.1);.rw [β h,β (by rw[Â];show ç _ h)];show Ã _
      .rw [γ h];split<;>rfl'
     .rw [β (by rw[Â,eb];simp),γ (by rw[eb];show m)];show jq (ń 0 _) (Ã _)
    apply⟨ba,↥b.2.2,Z,by rw[<-jZ (by rw[cv];show hN) mb,eb];show SGet.of (tk S (λ_ _ z=>by cases z) hB.d) (λp mp=>by let#[b',d3,rfl]:=Zp.mp mp;let#[y,my,ey]:=hB.key d3;have:=cf S my;rw[ey.1,ey.2]at this;show this.a) (ae z mz).a,?_⟩;apply#[F,R,b.2.2,t,w.1,U b.2.2,Z,av,ad,tk S (λ_ _ z=>by cases z) c1,λmm=>?_,λu mu=>?_,(),λv I=>by have:=ay v I;rfl',λa6 c8 ct bx bo bv c9 cw=>?_];.obtain ⟨v,I,e⟩:=Zp.mp mm;have:=O v I;rw[show v.2.1=b.2.2 from e,c1]at this;cases this
    .obtain ⟨g1,c,g2,g3⟩:=c2 u mu;show#[tk S (λ_ _ z=>by cases z) g1,c,tk S (λ_ _ z=>by cases z) g2,tk S (λ_ _ z=>by cases z) g3]
    symm;have a3:∀{a:ό}{u:HO},H9 a=!u->a≠F->a∉t.map (·.2.1)->a6 a=!u:=λe n1 n2=>bx.get (λmm=>(Å.mp mm).elim n1 n2) e;have a4:∀{a:ό}{u:HO},H9 a=!u->(∀xs,u≠.lst xs)->(∀xs,u≠.dT xs)->a6 a=!u:=λ{a u} e n1 n2=>a3 e (λz=>by rw[z,av.d]at e;show n2 _ (Ý e).symm) (λmm=>by let#[v,I,ea]:=Zp.mp mm;have:=av.l v I;rw[show v.2.1=a from ea,e]at this;show n1 _<|Ý this);have bi:∀{a:ό}{l:ϊ V},H9 a=!(.tup l)->a6 a=!(.tup l):=λe=>a4 e (λ_ z=>by cases z) (λ_ z=>by cases z);have c5:∀{a:ό}{x:Sd},StT K H9 a x->StT K a6 a x:=λh=>by let#[c,e1,e2]:=h;show#[c,bi e1,bi e2]
    show#[d++[(z.1,z.2,R,w.1)],c8,#[a4 as.d (λ_ z=>by cases z) (λ_ z=>by cases z),λf mf=>#[c5 (as.s f mf).1,bi (as.s f mf).2],as.n],ct,λc o nb e=>bx c o (λmm=>?_) (S c o nb e),a4 b1 (λ_ z=>by cases z) (λ_ z=>by cases z),λv I=>?_,ag.take b4 (λl y h=>?_) (λy k=>?_) (λl y=>?_),λf mf=>?_,λl x h=>?_,a3 ap (λz=>by rw[z,av.d]at ap;cases ap) be,λmm=>?_,bi ad,λz' b6=>c5 (ae z' b6),(),λv I=>?_,_,Z]
    .rcases Å.mp mm with rfl|mm;.rw [af]at e;cases e
     .obtain ⟨v,I,rfl⟩:=Zp.mp mm;rw[O v I]at e;cases e
    .rcases bo v I with h|h;.obtain ⟨v',d4,e⟩:=Zp.mp h;rw[<-show v'.2.1=v.2.1 from e];show O v' d4
     .show cq S b1 h
    .rcases h with h|⟨rfl,_⟩;.show ac l y h
     .show leP.refl _
    .unfold kY;constructor
     .rintro ⟨f,mf,e1,e2⟩;rcases Æ.mp mf with mf|mf;.show .inl #[f,mf,e1,e2]
      .rw [Zs.mp mf]at e1 e2;show .inr #[e1.symm,e2.symm]
     .rintro (⟨f,mf,e⟩|⟨rfl,rfl⟩);.show #[f,ç _ mf,e]
      .show #[_,ß _ (Zs.mpr Z),Z,Z]
    .have hx:(∃u∈U b.2.2,l=(w.1.1+u.2.1,w.1.2+1)/\y=u.2.2.2)↔∃c,(y∈J.map (·.2.1)/\∃s,(s,c,z.2)∈st y)/\l=(w.1.1+c,w.1.2+1):=by
      rw[<-eb];constructor;.rintro ⟨u,mu,rfl,rfl⟩;show#[u.2.1,(c3 _ _).mp (Zp.mpr #[u,mu,Z]),Z]
      .rintro ⟨c,h,rfl⟩;let#[u,mu,e]:=Zp.mp ((c3 c y).mpr h);show#[u,mu,by rw[<-(Prod.mk.inj e).1],(Prod.mk.inj e).2.symm]
     rw[bv,<-hx,or_assoc,or_assoc];show or_congr Iff.rfl Or.comm
    .rcases Æ.mp mf with mf|mf;.show L f mf
     .rw [Zs.mp mf];show b5
    .rcases (bv l x).mp h with h|⟨u,_,rfl,_⟩;.show ac l x h
     .show leP.up _ _
    .obtain ⟨v,I,e⟩:=Zp.mp mm;rcases bo v I with h|h;.show be (by rw[<-show v.2.1=w.2.1 from e];show h)
     .rw [show v.2.1=w.2.1 from e,ap]at h;cases h
    .have:=cw (950000-oM bz U d) (λv I=>by have:=ay v I;rfl') v I;rfl'
   .rintro σ H8 ⟨d,t,C,W,bg,a8,O,ag,L,ac,b0,be,a1,X,bd,ay,d8,rfl⟩;apply dd _ _ _ (Nat.lt_of_succ_le bd) #[d,t,C,W,bg,a8,O,?_,L,Z,Í (â bd) dn,ay,_,_,_,Z];have:(λl x=>Wait t l x\/(l=w.1/\x∈(w.2.2.drop ↑w.2.2).map (·.2)))=Wait t:=by funext l x;rw[List.drop_length];simp
    rw[this]at ag;show ag
  .have e0:G=[]:=Ŋ (qn0 a9);subst e0;show gW (by rw[ĝ];rfl') ?_;apply q ai n r fz (λb o nb e=>sb b o nb<|a5 b o nb e) eo ?_ hF ?_;.cases e:H n with
    |none=>rfl|some u=>
     exfalso;by_cases z:n=D;.show b9 z
     .rw [a5.get (by simpa using z) e]at aw;cases aw
   .have:Wait []=λ_ _=>False:=by funext l x;show propext #[λ⟨w,T,_⟩=>(by cases T),False.elim]
    rw[this]at hD;show hD
 .rintro σ H Q Q' hq ⟨v,hv,a,cz,e,ha,i,j,e1,e2,k,e3,z⟩;show#[v,hv,a,cz,e,ha,i,j,e1,e2,k,e3,hq _ _ z]
inductive f5(K:Ϗ)(vs:ϊ V)(H:Hp)(Q:VK)(E:XK):Prop|mk (g:ό) (a d c:ϐ) (b:ϑ) (h:vs=[.ref g,.str c,.bl b]) (i:H g=!(.tup [.str a,.str d])) (j:↑a+↑c<=1000000) (k:∀r H' e f,Same H H'->H' r=!(.tup [.str e,.str f])->↑e<=max ↑d (↑a+↑c)->↑f<=max ↑d (↑a+↑c)->Q (.ref r) H')
abbrev Lq K(E:XK)(Eh:XK):=(aA (aL (aM dG (tX K aU 0) bc)<|ak 3)
  (aW<|XC (lA K bT) (dj<|bF (tX K aU 1) cG)<|dj<|bF cG<|tX K aU 1))
abbrev Lr:ϊ ϐ:=sN ["texts","sign","passes","longer"]
theorem X6(h:f5 K vs H Q E):RG (Lq K E) Lr vs H Q:=by
 let#[j,e,i,f,b,rfl,a,g,q]:=h;show#[E0,?_];have c:↑(e++f)=↑e+↑f:=jO _ _;apply dN a ?_;apply jL g ?_;apply Qo (λ_=>?_) λ_=>?_;.symm;show cZ a ?_;symm;intro r d;show q r _ _ _ (ao d _) aj (Nat.le_max_left _ _)<|by rw[c];show Nat.le_max_right _ _
 .symm;show cZ a ?_;symm;intro r d;show q r _ _ _ (ao d _) aj (by rw[c];show Nat.le_max_right _ _)<|Nat.le_max_left _ _
theorem Ls{N M:Nat}(a:↑(cV wss N)<=N)(b:↑(cV wss M)<=M):cV wss N=cV wss M:=by
 rcases Nat.le_total N M with h|h;.obtain ⟨j,rfl⟩:=Nat.exists_eq_add_of_le h;show(jY a j).symm
 .obtain ⟨j,rfl⟩:=Nat.exists_eq_add_of_le h;show jY b j
inductive gv(K:Ϗ)(vs:ϊ V)(H:Hp)(Q:VK)(E:XK):Prop|mk (d:ό) (a:ϲ) (z:Fz) (N:Nat) (g:vs=[.ref d,.ref z.1]) (h:WsT H d a) (i:0<↑a) (j:↑a<=100) (k:(∀e∈a,↑e<=1000/\∀w∈e,↑w.1<=1/\0<=w.2.2/\w.2.2<↑a)) (l:FkA K H z) (m:↑(cV a N)<=N) (n:z.2.2.2.2.2.2∈cV a N) (o:↑z.2.2.2.2.1.1<=1) (p:↑z.2.2.2.2.2.1.1<=1) (f:∀r H' b c,Same H H'->H' r=!(.tup [.str b,.str c])->↑b<=200->↑c<=200->Q (.ref r) H')
abbrev T9 K(E:XK)(Eh:XK):=(aA (aL (fQ (bB (eI K)<|cA aU)<|tX K bc 2)<|ak 2)
  (aA (aL (tX K bc 3)<|ak 3)
  (aA (aL (tX K bc 4)<|ak 4)
  (aW<|bB (f5 K)<|kW (dj<|bF bT<|aM dG bT<|tX K dF 0) (tX K cG 0)<|aM kj (eF K<|tX K cG 1)<|eF K<|tX K dF 1))))
abbrev Tc:ϊ ϐ:=sN ["ways","fork","text","way","later"]
theorem Zi(h:gv K vs H Q E):RG (T9 K E) Tc vs H Q:=by
 let#[wa,b,z,N,rfl,hW,c,g,k,hz,zz,F,ac,ad,q]:=h;show#[E0,?_];let#[y,f2,#[c1,A,L],#[c2,B,O]]:=id hz;dsimp only at A L B O;apply#[wa,b,Z,hW,c,g,k,λtd J M s n ae e x Y D=>?_];have u:cV b M=cV b N:=Ls Y zz;let#[a,mt,W]:=vd (ps:=s) (r:=z.2.2.2.2.2.2) (by rw[e,u];show F);have S:↑s<=100:=by
  have C:↑s=↑(cV b M):=by rw[<-e,Qb]
  have R:=f9 (l:=cV b M) (m:=(List.range ↑b).map λi:Nat=>(i:Int)) (ig _ _ M) λr mr=>by
   let#[X,C]:=eZ (P:=λr:Int=>0<=r/\r<↑b) #[by decide,Vb c] (λp q' hp hq=>by
    let#[w,mw,rfl]:=Zp.mp hq;have:b.getD p.toNat []∈b:=by rw[Xs,Zl<|HX hp];show Ø _
    show((k _ this).2 w mw).2) M r mr;show Zp.mpr #[r.toNat,ì.mpr<|qtC C c,uG X]
  rw[Qb,ê]at R;show jq C<|Í R g
 have I:=D _ mt;dsimp only at I;apply m9 (n.get y) ?_;show#[td,_,Z,.inl #[_,_,.inl x,Z,W.symm],?_];apply dZ (gL<|n.get y) (aO (j:=3) (v:=↥z.2.2.1) Z) ?_;apply dZ (gL<|n.get y) (aO (j:=4) (v:=↥z.2.2.2.1) Z) ?_;apply dN (n.get B) ?_;apply jL () ?_;symm;intro t G;symm;have d:=n.new (o:=.tup [.str a,.str<|a++z.2.2.2.2.2.1.1]) G;have f:upd J t (.tup [.str a,.str<|a++z.2.2.2.2.2.1.1]) t=!(.tup [.str a,.str<|a++z.2.2.2.2.2.1.1]):=aj;generalize upd J t (.tup [.str a,.str<|a++z.2.2.2.2.2.1.1])=H2 at d f⊢;show dN (d.get A) ?_;apply cZ (d.get A) ?_;apply cu (gL<|d.get L) ?_;apply cZ (d.get B) ?_;apply cu (gL<|d.get O) ?_;symm;have ab:↑(a++z.2.2.2.2.2.1.1)=↑a+↑z.2.2.2.2.2.1.1:=jO _ _;show#[t,a,_,_,_,Z,f,(),λr T t0 t1 s3 U l0 l1=>?_];show q r T t0 t1 (d.trans s3) U () ()
theorem X7(n:Nat):Sh n .none:=#[by simp[PyData.canLay0],by simp[PyData.depth]]
theorem a1b{x y:PyData}(b:Sh n x)(c:Sh n y)(e:Sh n z):Sh (n+1) (.tuple [x,y,z]):=iw λd a=>by simp only[Å,Ú,þ]at a;rcases a with rfl|rfl|rfl<;>assumption
theorem rEqD.intsT{K:Ϗ}{b:ό}{c:ϊ Int}(e:SqT K H a<|c.map V.int)(f:SqT K H b<|ms.map V.int)(q:Q (.bl<|decide<|c=ms) H):rEqD K ↥a ↥b H Q:=by
 have d:∀c:ϊ Int,Sh 1 (.tuple<|c.map PyData.int):=λc=>iw λx g=>by let#[y,_,rfl]:=Zp.mp g;show fJ _ _
 show#[_,_,Dp.intsT e,Dp.intsT f,(d c).shaped<|by decide,(d ms).shaped<|by decide,?_];rw[show PyData.eqv (.tuple<|c.map PyData.int) (.tuple<|ms.map PyData.int)=decide (c=ms)by simp only[PyData.eqv];show jH c ms];show q
theorem rNeD.intsT{K:Ϗ}{b:ό}{c:ϊ Int}(e:SqT K H a<|c.map V.int)(f:SqT K H b<|ms.map V.int)(q:Q (.bl<|not (decide<|c=ms)) H):rNeD K ↥a ↥b H Q:=by
 have d:∀c:ϊ Int,Sh 1 (.tuple<|c.map PyData.int):=λc=>iw λx g=>by let#[y,_,rfl]:=Zp.mp g;show fJ _ _
 show#[_,_,Dp.intsT e,Dp.intsT f,(d c).shaped<|by decide,(d ms).shaped<|by decide,?_];rw[show PyData.eqv (.tuple<|c.map PyData.int) (.tuple<|ms.map PyData.int)=decide (c=ms)by simp only[PyData.eqv];show jH c ms];show q
inductive fw(K:Ϗ)(vs:ϊ V)(H:Hp)(Q:VK)(E:XK):Prop|mk (e c d:ό) (a:ϊ (ό×ϐ×Nat×Sd)) (b:ϊ Fq) (k:Ϻ) (f:vs=[.ref e,.ref c,.ref d]) (g:H e=!(.lst (a.map λz=>V.ref z.1))) (h:(∀z∈a,SpT K H z.1 z.2)) (i:FdT K H c b) (j:H d=!(.tup [.int (k.1:Nat),.int (k.2:Nat)])) (l:(∃z∈a,∃v,kY b z.2.2.2 v/\k=(v.1+z.2.2.1,v.2+1))) (m:∀z∈a,∀v,kY b z.2.2.2 v->k=(v.1+z.2.2.1,v.2+1)->∀H',Same H H'->Q (.ref z.1) H')
abbrev Lw K(E:XK)(Eh:XK):=(aA (cH (cC K aU) (ak 3)<|bD (aN<|aM (rEqD K) (HN bc<|tX K cG 2)<|dj<|bF (aM su (tX K bT 0)<|tX K cG 1)<|aM su (tX K bT 1)<|tI 1) (aW cG) aR)
  (aW<|tC V.non))
abbrev Ly:ϊ ϐ:=sN ["steps","found","rest","step"]
theorem Xa(h:fw K vs H Q E):RG (Lw K E) Ly vs H Q:=by
 let#[sa,R,ra,F,j,k,rfl,C,hz,r,B,M,q]:=h;show#[E0,?_];apply gn (λz:ό×ϐ×Nat×Sd=>↥z.1) (zs:=F) (gI C) (λi I l=>(An3 (Same H l) (∀z∈F.take i,∀v,kY j z.2.2.2 v->k≠(v.1+z.2.2.1,v.2+1))<|Ex1 λO=>I=[!↥sa,!↥R,!↥ra,O])) #[gN _,by simp,_,Z] ?_ ?_ ?_;.rintro i I l ⟨s,_⟩;show gI<|s.get C
 .rintro i z I l S ⟨s,b,O,rfl⟩;have G:=Yf S;let#[c,P,U]:=hz z G;apply#[R,_,Z,.inl<|s.get r.d,?_];apply m9 (s.get P) ?_;show#[_,SGet.ofR (.inl<|s.get r.d) (nM λf d=>(r.s f d).1.same s) (U.same s).a,?_];apply dN (s.get B) ?_;apply cZ (s.get P) ?_;apply cZ (s.get B) ?_;symm;intro p Y;have D:=s.new (o:=.tup [.int<|(k.1:Int)-(z.2.2.1:Int),.int<|(k.2:Int)-1]) Y;have L:upd l p (.tup [.int<|(k.1:Int)-(z.2.2.1:Int),.int<|(k.2:Int)-1]) p=!(.tup<|[(k.1:Int)-(z.2.2.1:Int),(k.2:Int)-1].map V.int):=aj;generalize upd l p (.tup [.int<|(k.1:Int)-(z.2.2.1:Int),.int<|(k.2:Int)-1])=H2 at D L⊢;have t:∀(T:∀v,kY j z.2.2.2 v->k≠(v.1+z.2.2.1,v.2+1)),∀y∈F.take<|i+1,∀v,kY j y.2.2.2 v->k≠(v.1+y.2.2.1,v.2+1):=λT y my=>by
   rw[Ð,S]at my;rcases Æ.mp my with my|my;.show b y my
   .have:y=z:=by simpa using my
    rw[this];show T
  by_cases m:z.2.2.2∈j.map (·.2.1)
  .obtain ⟨f,d,J⟩:=Zp.mp m;have N:∀v,kY j z.2.2.2 v->v=f.2.2.2:=λv ⟨g,mg,u,w⟩=>by rw[<-w,iB r.n mg d<|u.trans J.symm]
   have X:dY (d7<|nJ j) (j6 z.2.2.2)=!↥f.2.2.1:=by rw[<-J];show jZ (zs:=nJ j) (z:=(f.1,f.2.1,f.2.2.1)) (by rw[jl];show r.n)<|Zp.mpr #[f,d,Z]
   rw[X];have W:H2 f.2.2.1=!(.tup<|[(f.2.2.2.1:Int),(f.2.2.2.2:Int)].map V.int):=D.get (r.s f d).2;show rEqD.intsT (gL W) (gL L) ?_;show#[_,Z,?_];show cM (λc=>?_) λc=>?_
   .symm;have A:k=(f.2.2.2.1+z.2.2.1,f.2.2.2.2+1):=by
     injection c with c1 c2;injection c2 with c2;show Prod.ext (by change k.1=_;rfl')<|by change k.2=_;rfl'
    show q z G f.2.2.2 #[f,d,J,Z] A _ D
   .symm;show#[D,t λv zz A=>c ?_,_,Z];rw[N v zz]at A;have u:=Ö Prod.fst A;have w:=Ö Prod.snd A;dsimp only at u w;rw[show(k.1:Int)-(z.2.2.1:Int)=(f.2.2.2.1:Int)by rfl',show(k.2:Int)-1=(f.2.2.2.2:Int)by rfl']
  .rw [jP<|by rw[jl];show m];show#[_,_,.non,Dp.intsT<|gL L,(X7 1).shaped<|by decide,(iw (n:=0) λx mx=>?_).shaped<|by decide,?_];.obtain ⟨y,_,rfl⟩:=Zp.mp mx;show fJ _ _
   symm;rw[show PyData.eqv .none (.tuple<|[(k.1:Int)-(z.2.2.1:Int),(k.2:Int)-1].map PyData.int)=false by simp[PyData.eqv]];show Dr ?_;apply#[D,t λv ⟨f,d,e,_⟩=>μ (Zp.mpr #[f,d,e]) m,_,Z]
 .rintro I l ⟨s,b,O,rfl⟩;rw[à]at b;let#[z,G,v,u,w]:=M;show μ w<|b z G v u
theorem yh{B:Nat->Sd->Sd->Prop}(h:Dj d B F<|λ_ _=>False):∀(n:Nat)(x:Sd)(k:Ϻ),k.2=n->F x k->∃l:ϊ<|Sd×(Ϻ),↑l=n+1/\(∀p∈l,F p.1 p.2/\p.2.2<=n)/\(l.map λp=>p.2.2).Nodup
 |0,x,k,e,hf=>#[[(x,k)],Z,λp mp=>by rw[Zs.mp mp];show#[hf,đ e],by simp]|n+1,x,k,e,hf=>by
  rcases h.s x k (.inl hf)with⟨_,rfl⟩|⟨c,y,v,_,hy,rfl⟩;.cases e
  .obtain ⟨l,f,a,g⟩:=yh h n y v (Ξ e) hy;show#[(x,(v.1+c,v.2+1))::l,by rw[í,f],λp mp=>?_,?_]
   .rcases Å.mp mp with rfl|mp;.show #[hf,đ e]
    .show #[(a p mp).1,Nat.le_succ_of_le (a p mp).2]
   .rw [Ç,ï];show#[λm=>?_,g];let#[p,mp,b]:=Zp.mp m;have:=(a p mp).2;dsimp only at b e;rfl'
theorem LC(h:Dj ev B (kY fz)<|λ_ _=>False)(d:kY fz x k):k.2<↑fz:=by
 let#[l,a,b,c]:=yh h _ x k Z d;have:=f9 (l:=l.map λp=>p.2.2) (m:=fz.map λf=>f.2.2.2.2) c λy j=>by let#[p,i,rfl]:=Zp.mp j;let#[f,g,_,e]:=(b p i).1;show Zp.mpr #[f,g,by rw[e]]
 rw[Qb,Qb,a]at this;show this
inductive fI(K:Ϗ)(vs:ϊ V)(H:Hp)(Q:VK)(E:XK):Prop|mk (f i l m n:ό) (h:Nat) (g:ϵ) (a:ϊ Gz) (j:Sd->ϊ (ϐ×Nat×Sd)) (o:ϊ Int) (b:ϊ Fq) (x:Sd) (u:vs=[.ref f,.ref i,.ref l,.ref m,.ref n]) (v:FnF K H f h g) (w:Fo.Wf h g) (y:Rd H i (cL i (d7 a))) (A:(∀z∈a,StT K H z.1 z.2.1/\SsT K H z.2.2 (j z.2.1))) (B:(a.map (·.2.1)).Nodup) (C:(∀z∈a,∀e∈j z.2.1,(∃co,Fo.lk g e.1=!co)/\↑e.1<=1)) (D:FdT K H l b) (F:↑b<=100000) (G:Dj (T8 o (a.map (·.2.1))) (NZ j (a.map (·.2.1))) (kY b) (λ_ _=>False)) (p:StT K H m x) (q:(∃k,kY b x k)) (s:(∃c d:ϐ,H n=!(.tup [.str c,.str d])/\↑c<=200/\↑d<=200)) (t:∀r H' c d,Same H H'->H' r=!(.tup [.str c,.str d])->Q (.ref r) H')
abbrev LK K:=(aA (fZ (aN<|aM (rNeD K) (nW bT cG)<|dj<|bF (tI 0)<|tI 0) (aA (aL (bB (fw K)<|kW (nW bc cG) bT<|nW bT cG)<|ak 6)
  (aA (aL (bB (f5 K)<|kW dF (tX K ie 0)<|aM kj (eF K<|fQ gB<|tX K ie 0)<|eF K<|tX K cG 2)<|ak 4)
  (aL (tX K ie 2)<|ak 3))))
  (aW dF))
abbrev LQ K(E:XK)(Eh:XK):=(aA (aL (gw (je K)<|cA<|tX K aU 1)<|ak 5)
  (LK K))
abbrev LR:ϊ ϐ:=sN ["font","onward","found","stand","texts","letters","step"]
theorem Xb(h:fI K vs H Q E):RG (LQ K E) LR vs H Q:=by
 let#[f,oa,fa,sa,G,h,ls,gz,st,es,I,x,rfl,hF,wf,as,U,ap,am,b,a3,hD,j,#[k,J],#[D,F,A,l0,l1],q]:=h;show#[E0,?_];let#[l,ob,B,h1,ez,av,h3,h4]:=id hF;apply cZ h1 ?_;symm;have ar:(B.map (·.2.1)).Nodup:=by have:=dB wf.up;rw[<-ez,Ä]at this;show this
 have al:=wf.le;have T:↑B=↑ls:=by rw[<-ez,Qb]
 show xQ (zs:=B.map λz:Lz=>(z.1,z.2.1,↥z.2.2.1)) av (by rw[Ä];show h3) (λz m=>?_) (by rw[Ä];show ar) (by rw[Qb];show cU<|jq T al) λpc aw=>?_;.obtain ⟨y,my,rfl⟩:=Zp.mp m;show gL (h4 y my).1
 rw[Ä];let#[O,t]:∃O,O=upd H pc (HO.dK (B.map ((λz:ό×ϐ×V=>((Sum.inr z.2.1:Key),z.2.2))∘λz:Lz=>(z.1,z.2.1,↥z.2.2.1)))):=#[_,Z];have s1:Same H O:=by rw[t];show ao aw _
 have ac:O pc=!(.dK (B.map λz:Lz=>((Sum.inr z.2.1:Key),↥z.2.2.1))):=by rw[t];show aj
 rw[<-t];clear t;symm;walk_at "ns";have a4:=LC hD J;have ae:∀{d:Hp},Same H d->Rd d oa (cL oa<|d7 gz):=λs=>by
  rcases as with e|⟨od,e⟩;.show .inl<|s.get e
  .show .inr #[od,s.get e]
 have ag:∀{d:Hp},Same H d->∀p∈d7 gz,vG d p.1 p.2.1:=λs p mp=>by let#[g,X,rfl]:=Zp.mp mp;show((U g X).1.same s).a
 have S:∀{d:Hp},Same H d->∀p∈d7<|nJ I,vG d p.1 p.2.1:=λs=>nM λf C=>(b.s f C).1.same s;show mC (λm σ d=>(An2 (Same O d) (Ex7 λ(sa G:ό) (x:Sd) (k:Ϻ) (D F:ϐ) (o6:ύ V)=>(An7 (StT K d sa x) (kY I x k) (k.2=m) (d G=!(.tup [.str D,.str F])) (↑D+m<=100200) (↑F+m<=100200)<|σ=[!↥f,!↥oa,!↥fa,!↥sa,!↥G,!↥pc,o6])))) k.2 #[gN _,sa,G,x,k,D,F,_,j.same s1,J,Z,s1.get A,(),(),Z] ?_ ?_
 .rintro m σ d N ⟨s,sa,G,x,k,D,F,o6,j,J,rfl,A,l0,l1,rfl⟩ hN;have sH:=s1.trans s;let#[n,C,ef,ek]:=id J;have ev:dY (d7<|nJ I) (j6 x)=!↥n.2.2.1:=by rw[<-ef];show jZ (zs:=nJ I) (z:=(n.1,n.2.1,n.2.2.1)) (by rw[jl];show b.n)<|Zp.mpr #[n,C,Z]
  have er:H n.2.2.1=!(.tup [.int (k.1:Nat),.int (k.2:Nat)]):=by rw[<-ek];show(b.s n C).2
  apply#[fa,↥n.2.2.1,Z,by rw[<-ev];show SGet.of (sH.get b.d) (S sH) j.a,?_];symm;intro p hp;have i:=sH.new (o:=.tup [.int 0,.int 0]) hp;have sN:=ao (o:=.tup [.int 0,.int 0]) hp;have ep:upd d p (.tup [.int 0,.int 0]) p=!(.tup<|[(0:Int),0].map V.int):=aj;generalize upd d p (.tup [.int 0,.int 0])=H2 at i sN ep⊢;have e3:H2 n.2.2.1=!(.tup<|[(k.1:Int),(k.2:Int)].map V.int):=i.get er;show rNeD.intsT (gL e3) (gL ep) ?_;show#[_,Z,?_];show m6 (λc=>?_) λc=>?_
  .have ah:x∈gz.map (·.2.1):=by
    rcases hD.s x k (.inl J)with h|⟨_,_,_,h,_⟩;.show h.1.1
    .show h.1
   let#[g,X,eg]:=Zp.mp ah;let#[_,M,z1,z2,z3]:=U g X;have ad:dY (d7 gz) (j6 x)=!↥g.2.2:=by rw[<-eg];show jZ ap X
   apply#[oa,↥g.2.2,Z,by rw[<-ad];show SGet.ofR (ae i) (ag i) (j.same sN).a,?_];apply#[fa,↥n.2.2.1,Z,by rw[<-ev];show SGet.of (i.get b.d) (S i) (j.same sN).a,?_];symm;have W:∃z∈M,∃v,kY I z.2.2.2 v/\k=(v.1+z.2.2.1,v.2+1):=by
    rcases hD.s x k (.inl J)with⟨_,rfl⟩|⟨c',y,v,⟨_,sg,ms⟩,hv,e⟩;.show μ Z c
    .have:(sg,c',y)∈M.map (·.2):=by rw[z1,show g.2.1=x from eg];show ms
     let#[z,L,R]:=Zp.mp this;show#[z,L,v,by rw[R];show hv,by rw[R];show e]
   show#[g.2.2,fa,n.2.2.1,M,I,k,Z,i.get z2,λz L=>(z3 z L).same i,#[i.get b.d,λf C=>#[(b.s f C).1.same i,i.get (b.s f C).2],b.n],i.get er,W,λz L v hv ab H3 zz=>?_];let#[c',y1,y2]:=(z3 z L).same<|i.trans zz;have ay:z.2∈st g.2.1:=by rw[<-z1];show Zp.mpr #[z,L,Z]
   let#[#[co,af],a5]:=am g X _ ay;apply dN y1 ?_;apply dN y1 ?_;symm;let#[lw,ax,a2,P]:=qm (zs:=B) (s:=z.2.1) (by rw[show B.map (λz:Lz=>(z.2.1,z.2.2.2))=ls from ez];show af);have a1:=i.trans zz;have Y:=(s.trans sN).trans zz;show#[pc,↥lw.2.2.1,Z,by rw[<-P];show DGet.k (k:=Sum.inr z.2.1)<|Y.get ac,?_];apply cu (gL<|a1.get (h4 lw ax).2) ?_;let#[sc,u1,u2]:=(j.same sN).same zz;apply m9 u1 ?_;apply cu (gL u2) ?_;symm;have ai:k.2=v.2+1:=by rw[ab]
   show#[G,D,F,z.2.1,_,Z,zz.get<|sN.get A,(),λr H4 v0 v1 s4 er m0 m1=>?_];apply m9 (s4.get y1) ?_;apply hN v.2 _ _ (RV ai) #[Y.trans s4,c',r,z.2.2.2,v,v0,v1,_,y2.same s4,hv,Z,er,(),(),Z]
  .symm;show q G _ D F i<|sN.get A
 .show QC (Z6 (QD K) (λσ H Q Q' hq z=>by let#[v,e,w,e',a,u,h1,h2,h3]:=z;show#[v,e,w,e',a,u,h1,h2,hq _ _ h3]) (λσ H Q Q' hq z=>#[z.1,λp hp=>hq _ _<|z.2 p hp]))
noncomputable def stD(st:Sd):PySem.PyData:=.tuple [.int st.1,.int st.2.1,.tuple<|(st.2.2.map λn:Nat=>(n:Int)).map PySem.PyData.int]
theorem Xc(b:Sd):Sh 2 (stD b):=iw λd a=>by
 simp only[Å,Ú,þ]at a;rcases a with rfl|rfl|rfl;.show fJ 1 _
 .show fJ 1 _
 .show iw λd a=>by let#[i,_,rfl]:=Zp.mp a;show fJ 0 i
theorem Zj{K:Ϗ}{b:Sd}(h:StT K H a b):Dp K H ↥a (stD b):=by let#[c,d,e]:=h;show .tup (gL d)<|.cons (.int _)<|.cons (.int _)<|.cons (Dp.intsT<|gL ?_) .nil;rw[e,Ä];rfl
abbrev gk:=ϐ×ϊ Nat×Int
variable{v:gk}
def vq(z:gk×gk×Int):Nat:=cst z.2.1.2.1 z.1.2.1
noncomputable def XX(w:gk):PySem.PyData:=.tuple [.str w.1,.tuple<|(w.2.1.map λn:Nat=>(n:Int)).map PySem.PyData.int,.int w.2.2]
def fkD(z:gk×gk×Int):PySem.PyData:=.tuple [.int (vq z:Nat),stD<|mH z,.int z.2.2,XX z.1,XX z.2.1]
def yq(c:Nat)(z:gk×gk×Int):PySem.PyData:=.tuple [.int (c:Nat),fkD z]
theorem Fd(b:ϊ Int)(n:Nat):Sh (n+1) (.tuple<|b.map PySem.PyData.int):=iw λd a=>by let#[i,_,rfl]:=Zp.mp a;show fJ n i
def M3{w:gk}(h:Hs.Sg w.1):Sh 2 (XX w):=a1b (Z3 1 h) (Fd _ 0)<|fJ 1 _
theorem Xd(b:Hs.Sg z.1.1)(e:Hs.Sg z.2.1.1):Sh 4 (yq c z):=iw λd a=>by
 simp only[Å,Ú,þ]at a;rcases a with rfl|rfl;.show fJ 3 _
 .show iw λd a=>?_;simp only[Å,Ú,þ]at a;rcases a with rfl|rfl|rfl|rfl|rfl;.show fJ 2 _
  .show Xc _
  .show fJ 2 _
  .show M3 b
  .show M3 e
theorem qI:∀ns ms:ϊ Int,Nk.CmpDs (ns.map PySem.PyData.int)<|ms.map PySem.PyData.int
 |[],_=>.nil|_::_,[]=>.over|n::ns,m::ms=>.cons (.int n m)<|qI ns ms
def CN(v w:gk):Nk.CmpD (XX v) (XX w):=.tup<|.cons (.str _ _)<|.cons (.tup<|qI _ _)<|.cons (.int _ _) .nil
def R5(c d:Nat)(y z:gk×gk×Int):Nk.CmpD (yq c y) (yq d z):=.tup<|.cons (.int _ _)<|.cons (.tup<|.cons (.int _ _)<|.cons (.tup<|.cons (.int _ _)<|.cons (.int _ _)<|.cons (.tup<|qI _ _) .nil)<|.cons (.int _ _)<|.cons (CN _ _)<|.cons (CN _ _) .nil) .nil
noncomputable def M4:PySem.PyData->Int
 |.tuple (.int c::_)=>c|_=>0
theorem Xe(c d:Nat)(y z:gk×gk×Int):(Nk.BR (yq c y) (yq d z)=true->M4 (yq c y)<=M4 (yq d z))/\(Nk.BR (yq c y) (yq d z)=false->M4 (yq d z)<=M4 (yq c y)):=by
 have e:Nk.BR (yq c y) (yq d z)=if PyData.eqv (.int (c:Nat)) (.int (d:Nat))=true then Nk.qW [fkD y] [fkD z]else decide ((c:Int)<(d:Int)):=by unfold yq;rw[Nk.BR,Nk.qW,Nk.BR]
 rw[e];change(_->(c:Int)<=(d:Int))/\(_->(d:Int)<=(c:Int));by_cases h:(c:Int)=(d:Int);.show #[λ_=>Int.le_of_eq h,λ_=>Int.le_of_eq h.symm]
 .rw [γ (by simp[PyData.eqv];show h)];show#[λh=>Int.le_of_lt (ô h),λh=>Int.not_lt.mp (Ł h)]
theorem Td{K:Ϗ}{z:Wz}(h:WyT H z):Dp K H ↥z.1 (XX z.2):=by let#[c,a,b]:=h;show .tup (gL a)<|.cons (.str _)<|.cons (Dp.intsT<|gL ?_)<|.cons (.int _) .nil;rw[b,Ä];rfl
def Zk{K:Ϗ}{z:Fz}(h:FkA K H z):Dp K H ↥z.1 (fkD z.2.2.2.2):=.tup (gL h.1)<|.cons (.int _)<|.cons (Zj h.2.1)<|.cons (.int _)<|.cons (Td h.2.2.1)<|.cons (Td h.2.2.2) .nil
theorem M5{c:ϊ<|ϊ gk}(m:z∈qG c rs):z.2.2∈rs/\z.1∈c.getD z.2.2.toNat []/\z.2.1∈c.getD z.2.2.toNat []:=by
 let#[r,d,n]:=ÿ.mp m;let#[b,j,i]:=ÿ.mp n;let#[a,e,rfl]:=Zp.mp i;have h:=ì.mp j;have e:=ì.mp e;have g:∀k,k<↑(c.getD r.toNat [])->(c.getD r.toNat []).getD k default∈c.getD r.toNat []:=by generalize c.getD r.toNat []=l;intro k f;rw[Xs,Zl f];show Ø f
 show#[d,g a (),g b h]
inductive ft(K:Ϗ)(vs:ϊ V)(H:Hp)(Q:VK)(E:XK):Prop|mk (f d:ό) (h:Nat) (a:ϵ) (b:L2S) (c:ϊ Int) (i:vs=[.ref f,.ref d]) (j:FnF K H f h a) (l:Fo.Wf h a) (m:HsG K H d b c) (n:Zf a b) (o:∀N (S:ϊ Sd) (fz:ϊ Fq),↑(cV (b.map (aJ a)) N)<=N->(∀x,x∈S↔Mm.Rch (NT (b.map (aJ a)) N) (R4 (b.map (aJ a))) x)->(fz.map (·.2.1)).Nodup->Dj (T8 c S) (NZ (WT a (b.map (aJ a))) S) (kY fz) (λ_ _=>False)->((∀z∈qG (b.map (aJ a)) (cV (b.map (aJ a)) N),∀k,¬kY fz (mH z) k)->∀H',Same H H'->Q .non H')/\∀r H' (L:Nat) e g,Same H H'->H' r=!(.tup [.int (L:Nat),.str e,.str g])->(∃z∈qG (b.map (aJ a)) (cV (b.map (aJ a)) N),∃k,kY fz (mH z) k/\L=vq z+k.1)->(∀z∈qG (b.map (aJ a)) (cV (b.map (aJ a)) N),∀k,kY fz (mH z) k->L<=vq z+k.1)->Q (.ref r) H')
abbrev M6 K:=(aA (bD (aN<|aM ou (eF K gB)<|tI 0) (aW<|tC V.non) aR)
  (aA (aL (gw (uE K)<|cA gB)<|ak 6)
  (aA (aL (bB (fI K)<|fP aU<|NQ cG dF (tX K (tX K ie 1) 1)<|bB (gv K)<|bF bT<|tX K ie 1)<|ak 7)
  (aW<|dj<|kW (tX K ie 0) (gw (qe K)<|cA oW)<|gw (qe K)<|cA oW))))
abbrev M7 K:=(aA (aL (bB (eW K)<|bF aU bc)<|ak 3)
  (aA (aL (bB (fR K)<|bF cG<|tX K bc 1)<|ak 4)
  (aA (aL (kJ [none,!4] (cC K<|bB (fT K)<|bF aU bT) (ak 0) (tB<|Yo (tX K aU 1) bc)<|dj<|bF (aM b7 (tX K aU 0)<|tX K (nW bc<|tX K aU 1) 0) aU)<|ak 5)
  (M6 K))))
abbrev M8 K(E:XK)(Eh:XK):=(aA (aL (bB (fy K)<|bF aU bc)<|ak 2)
  (M7 K))
abbrev Ak:ϊ ϐ:=sN ["font","house","ways","onward","found","pairs","least","texts"]
theorem Xf(h:ft K vs H Q E):RG (M8 K E) Ak vs H Q:=by
 let#[f,ha,h,B,C,es,rfl,hF,wf,hH,sz,q]:=h;show#[E0,?_];have ac:=Cz wf sz;let#[af,aw,bi,b3]:=id sz;have S:↑(C.map<|aJ B)=↑C:=Qb _;have O:∀n∈C.map<|aJ B,↑n<=42:=λn a=>by let#[ps,ae,rfl]:=Zp.mp a;show Í (Ņ ..) (bi ps ae).1
 have a6:∀n∈C.map<|aJ B,∀w∈n,Fo.lk B w.1=!w.2.1:=λn a w t=>by let#[ps,ae,rfl]:=Zp.mp a;let#[p,mp,ep]:=é.mp<|show w∈ps.filterMap _ from t;let#[co,bl,rfl]:=Î.mp ep;show bl
 have as:∀n∈C.map<|aJ B,∀w∈n,Hs.Sg w.1:=λn a w t=>wf.sg _ (ac n a w t).1.1;have ad:∀n∈C.map<|aJ B,∀w∈n,↑w.1<=1:=λn a w t=>by let#[k,e]:=as n a w t;rw[e];show Ã _
 have A:∀{r:Nat}{w:gk},w∈(C.map<|aJ B).getD r []->∃n∈C.map<|aJ B,w∈n:=λ{r w} t=>by
  rw[Xs]at t;cases e:(C.map<|aJ B)[r]?with
  |none=>rw[e]at t;cases t|some n=>rw[e]at t;show#[n,Yf e,t]
 apply#[f,ha,h,B,C,es,Z,hF,wf,hH,cU aw,λps ae=>by have:=(bi ps ae).1;show cU this,λwa H1 s1 b0 hW=>?_];apply#[f,ha,h,B,C,es,Z,hF.same s1,wf,hH.same s1,sz,λoa H2 N gz s2 br hN e2 hg hl a8 hR=>?_];symm;let#[d,e,rs,a1,a2,a3,a4,a5]:=(hH.same s1).same s2;show cZ a1 ?_;apply#[oa,e,gz,WT B<|C.map<|aJ B,es,Z,.inl e2,λz D=>#[(hg z D).1,(hg z D).2,?_],a8,hl,λz D u mu=>?_,gL a5,λod fa H3 L be bm bv I hD=>?_];.rw [Qb,Xs];cases e:(C.map<|aJ B)[z.2.1.1.toNat]?with
  |none=>show ä _|some n=>show O n<|Yf e
 .show (hR _).mpr<|.step ((hR _).mp<|Zp.mpr #[z,D,Z]) ?_;let#[w,t,rfl]:=Zp.mp mu;show Zp.mpr #[w,t,Z]
 let#[qn,qs]:=q N (gz.map (·.2.1)) L hN hR I.n hD;have S3:Same H1 H3:=λb o e=>be b o (λm=>by rw[Zs.mp m,br]at e;cases e)<|s2.get e;have bg:∀z∈gz,StT K H3 z.1 z.2.1/\SsT K H3 z.2.2 (WT B (C.map<|aJ B) z.2.1):=λz D=>by
  have ne:∀{b:ό}{o:HO},H2 b=!o->(∀u,o≠cL oa u)->H3 b=!o:=λ{b o} e hn=>be.get (λm=>by rw[Zs.mp m,e2]at e;show hn _ (Ý e).symm) e;let#[#[c,g1,g2],#[zs,k1,k2,k3]]:=hg z D;show#[#[c,ne g1 λu q=>(by cases q),ne g2 λu q=>(by cases q)],zs,k1,ne k2 λu q=>(by cases q),λy my=>?_];let#[c',j1,bk,j2,j3]:=k3 y my;show#[c',ne j1 λu q=>(by cases q),bk,ne j2 λu q=>(by cases q),ne j3 λu q=>(by cases q)]
 have bd:=s1.trans S3;apply#[f,wa,h,B,C.map<|aJ B,Z,hF.same bd,wf,hW.same S3,qN af S,cU<|jq S aw,λn a=>#[by have:=O n a;show cU this,λw t=>#[a6 n a w t,by rw[S];show(ac n a w t).2]],λfk H4 M s4 bx hM ⟨kz,W,ax,ar⟩=>?_];rw[Ls hM hN]at W;have bp:↑kz<=100000:=by
  have X:=vm O<|cV (C.map<|aJ B) N;rw[<-W,Qb]at X;have Y:=f9 (l:=cV (C.map<|aJ B) N) (m:=(List.range ↑C).map λi:Nat=>(i:Int)) (ig _ _ N) λr mr=>by
   let#[h0,X]:=eZ (P:=λr:Int=>0<=r/\r<↑C) #[by decide,Vb af] (λp q' hp hq=>by let#[w,t,rfl]:=Zp.mp hq;let#[n,a,t]:=A t;show(ac n a w t).2) N r mr;show Zp.mpr #[r.toNat,ì.mpr<|qtC X af,uG h0]
  rw[Qb,ê]at Y;rfl'
 have ap:∀z∈kz,z.2.2.2.2∈qG (C.map<|aJ B) (cV (C.map<|aJ B) N):=λz D=>by rw[<-W];show Zp.mpr #[z,D,Z]
 have ay:∀{H':Hp},Same H4 H'->FdT K H' fa L:=λs=>#[s.get<|s4.get I.d,λf mf=>#[((I.s f mf).1.same s4).same s,s.get<|s4.get (I.s f mf).2],I.n];symm;walk_at "ns";show uI (λz:Fz=>↥z.1) (zs:=kz) (gI ax) (cU bp) (λi ys H'=>(An2 (Same H4 H') (Ex1 λ(G:ϊ<|ό×Nat×Fz)=>(An4 (ys=G.map (λu=>↥u.1)) (↑G<=i) (∀u∈G,H' u.1=!(.tup [.int (u.2.1:Nat),↥u.2.2.1])/\u.2.2∈kz/\∃k,kY L (mH u.2.2.2.2.2.2) k/\u.2.1=vq u.2.2.2.2.2.2+k.1) (∀z∈kz.take i,∀k,kY L (mH z.2.2.2.2) k->∃u∈G,u.2.1=vq z.2.2.2.2+k.1))))) #[gN _,[],Z,Ã _,by simp,by simp] ?_ ?_ ?_ ?_;.rintro i ys H' ⟨s,_⟩;show gI<|s.get ax
 .rintro i ys H' ⟨_,G,rfl,ab,_⟩;rw[Qb];show ab
 .rintro i z ys H' hi ⟨s,G,rfl,ab,F,J⟩;have D:=Yf hi;let#[f1,f2,_,_]:=(ar z D).same s;have zz:=ay s;have ah:∀{H2:Hp},Same H' H2->∀U:ϊ<|ό×Nat×Fz,U.length<=1->(∀u∈U,H2 u.1=!(.tup [.int (u.2.1:Nat),↥u.2.2.1])/\u.2.2∈kz/\∃k,kY L (mH u.2.2.2.2.2.2) k/\u.2.1=vq u.2.2.2.2.2.2+k.1)->(∀k,kY L (mH z.2.2.2.2) k->∃u∈U,u.2.1=vq z.2.2.2.2+k.1)->(An2 (Same H4 H2) (Ex1 λ(ag:ϊ<|ό×Nat×Fz)=>(An4 (G.map (λu=>↥u.1)++U.map (λu=>↥u.1)=ag.map (λu=>↥u.1)) (↑ag<=i+1) (∀u∈ag,H2 u.1=!(.tup [.int (u.2.1:Nat),↥u.2.2.1])/\u.2.2∈kz/\∃k,kY L (mH u.2.2.2.2.2.2) k/\u.2.1=vq u.2.2.2.2.2.2+k.1) (∀z∈kz.take<|i+1,∀k,kY L (mH z.2.2.2.2) k->∃u∈ag,u.2.1=vq z.2.2.2.2+k.1)))):=λ{H2} s2 U bq X Y=>by
   show#[s.trans s2,G++U,by rw[Â],by rw[É];show qkT ab bq,λu mu=>?_,λy my k hk=>?_]
   .rcases Æ.mp mu with mu|mu;.show #[s2.get (F u mu).1,(F u mu).2]
    .show X u mu
   .rw [Ð,hi]at my;rcases Æ.mp my with my|my;.obtain ⟨u,mu,e⟩:=J y my k hk;show#[u,ç _ mu,e]
    .have ey:y=z:=by simpa using my
     rw[ey]at hk⊢;let#[u,mu,e]:=Y k hk;show#[u,ß _ mu,e]
  apply cZ f1 ?_;apply#[fa,_,Z,SGet.of zz.d (nM λf mf=>(zz.s f mf).1) f2.a,?_];by_cases m:mH z.2.2.2.2∈L.map (·.2.1)
  .obtain ⟨R,mf,ef⟩:=Zp.mp m;have ev:dY (d7<|nJ L) (j6<|mH z.2.2.2.2)=!↥R.2.2.1:=by rw[<-ef];show jZ (zs:=nJ L) (z:=(R.1,R.2.1,R.2.2.1)) (by rw[jl];show I.n)<|Zp.mpr #[R,mf,Z]
   rw[show dY (d7<|nJ L) (j6<|mG z.2.2.2.2.1 z.2.2.2.2.2.1.2.2 z.2.2.2.2.2.1.2.1)=!(V.ref R.2.2.1)from ev];show#[true,Z,Ds ?_];apply dZ (gL f1) (aO (j:=0) (v:=.int (vq z.2.2.2.2:Nat)) (by rfl)) ?_;apply cZ f1 ?_;apply#[fa,↥R.2.2.1,Z,by rw[<-ev];show SGet.of zz.d (nM λf mf=>(zz.s f mf).1) f2.a,?_];apply dN (zz.s R mf).2 ?_;symm;intro p hp;rw[show((vq z.2.2.2.2:Nat):Int)+((R.2.2.2.1:Nat):Int)=((vq z.2.2.2.2+R.2.2.2.1:Nat):Int)by show Z];show ah (ao hp _) [(p,vq z.2.2.2.2+R.2.2.2.1,z)] (Ã _) (λu mu=>?_) λk ⟨g,mg,e1,e2⟩=>#[_,Ì,?_];.rw [Zs.mp mu];show#[aj,D,R.2.2.2,#[R,mf,ef,Z],Z]
   .rw [<-e2,iB I.n mg mf<|e1.trans ef.symm]
  .rw [show dY (d7<|nJ L) (j6<|mG z.2.2.2.2.1 z.2.2.2.2.2.1.2.2 z.2.2.2.2.2.1.2.1)=none from jP (by rw[jl];show m)];symm;have:=ah (gN _) [] (ä _) (by simp) λk ⟨g,mg,e1,_⟩=>μ (Zp.mpr #[g,mg,e1]) m;simpa using this
 rintro ys H5 ⟨s5,G,rfl,ab,F,J⟩ pa a9;rw[à]at J;have s6:=s5.new (o:=.lst (G.map λu=>↥u.1)) a9;have al:upd H5 pa (.lst (G.map λu=>↥u.1)) pa=!(.lst (G.map λu=>↥u.1)):=aj;replace F:∀u∈G,upd H5 pa (.lst (G.map λu=>↥u.1)) u.1=!(.tup [.int (u.2.1:Nat),↥u.2.2.1])/\u.2.2∈kz/\∃k,kY L (mH u.2.2.2.2.2.2) k/\u.2.1=vq u.2.2.2.2.2.2+k.1:=λu mu=>#[aF a9 (F u mu).1,(F u mu).2];generalize upd H5 pa (.lst (G.map λu=>↥u.1))=H6 at s6 al F⊢;have av:=bd.trans s4;apply kE al ?_;apply cM (λc=>?_) λc=>?_;.symm;have bs:G=[]:=Ů.mp<|Eo c;show qn (λz D k hk=>?_) _<|av.trans s6;rw[<-W]at D;let#[y,my,rfl]:=Zp.mp D;let#[u,mu,_]:=J y my k hk;rw[bs]at mu;cases mu
 symm;have ai:∀z∈kz,Hs.Sg z.2.2.2.2.1.1/\Hs.Sg z.2.2.2.2.2.1.1:=λz D=>by let#[_,m1,m2]:=M5<|ap z D;let#[w1,n1,o1]:=A m1;let#[w2,n2,o2]:=A m2;show#[as w1 n1 _ o1,as w2 n2 _ o2]
 show QF (us:=G.map λu=>(↥u.1,yq u.2.1 u.2.2.2.2.2.2)) M4 (by rw[Ä];show gI al) (λe=>c (by rw[Τ.mp e];rfl)) (λv mv=>?_) (λv mv w t=>?_) λv mv a7=>?_;.obtain ⟨u,mu,rfl⟩:=Zp.mp mv;let#[X,Y,_]:=F u mu;have:=Xd (c:=u.2.1) (ai _ Y).1 (ai _ Y).2;show#[.tup (gL X)<|.cons (.int _)<|.cons (Zk<|(ar _ Y).same s6) .nil,this.1,Í this.2 (by decide)]
 .obtain ⟨u,mu,rfl⟩:=Zp.mp mv;let#[u',bb,rfl]:=Zp.mp t;show#[R5 _ _ _ _,Xe _ _ _ _]
 let#[u,mu,rfl]:=Zp.mp mv;let#[X,Y,k,hk,ek]:=F u mu;let#[g1,g2,g3]:=M5<|ap _ Y;let#[w1,n1,o1]:=A g2;let#[w2,n2,o2]:=A g3;have am:=(ar _ Y).same s6;apply cZ X ?_;apply cZ am.1 ?_;apply cZ X ?_;apply#[wa,C.map<|aJ B,u.2.2,N,Z,((hW.same S3).same s4).same s6,qN af S,cU<|jq S aw,λn a=>#[by have:=O n a;show cU this,λw t=>#[ad n a w t,by rw[S];show(ac n a w t).2]],am,hN,g1,ad w1 n1 _ o1,ad w2 n2 _ o2,λta H7 t0 t1 s7 bn l0 l1=>?_];symm;have T:=s6.trans s7;show#[f,oa,fa,u.2.2.2.1,ta,h,B,gz,WT B<|C.map<|aJ B,es,L,mH u.2.2.2.2.2.2,Z,hF.same<|av.trans T,wf,.inr #[od,T.get<|s4.get bm],λz D=>#[((bg z D).1.same s4).same T,((bg z D).2.same s4).same T],a8,λz D y my=>?_,ay T,?_,hD,am.2.1.same s7,#[k,hk],#[t0,t1,bn,l0,l1],λr H8 v0 v1 s8 er=>?_];.obtain ⟨w,t,rfl⟩:=Zp.mp my;let#[n,a,t]:=A t;show#[#[_,a6 n a w t],ad n a w t]
 .have:=f9 (l:=L.map (·.2.1)) (m:=gz.map (·.2.1)) I.n λx mx=>by
   let#[g,mg,rfl]:=Zp.mp mx;rcases hD.s g.2.1 g.2.2.2 (.inl #[g,mg,rfl,rfl])with h|⟨_,_,_,h,_⟩;.show h.1.1
   .show h.1
  rw[Qb,Qb]at this;rfl'
 apply dN (s8.get<|s7.get X) ?_;apply Iw (ss:=[v0,v1]) (gL er) (by simp) λm1 b1=>?_;apply Iw (ss:=[v0,v1]) (gL er) (by simp) λm2 b2=>?_;symm;intro p hp;show qs p _ u.2.1 m1 m2 (((av.trans T).trans s8).new hp) aj #[_,ap _ Y,k,hk,ek] λz D k' bo=>?_;rw[<-W]at D;let#[y,my,rfl]:=Zp.mp D;let#[u',bb,e']:=J y my k' bo;have:=a7 _<|Zp.mpr #[u',bb,Z];have h9:(u.2.1:Int)<=(u'.2.1:Int):=this;show RQ (qcL h9)<|e'.symm
inductive fS(K:Ϗ)(vs:ϊ V)(H:Hp)(Q:VK)(E:XK):Prop|mk (f d:ό) (h:Nat) (a:ϵ) (b:L2S) (c:ϊ Int) (e:vs=[.ref f,.ref d]) (g:FnF K H f h a) (i:Fo.Wf h a) (j:HsG K H d b c) (l:Zf a b) (m:∀N (S:ϊ Sd) (fz:ϊ Fq),↑(cV (b.map (aJ a)) N)<=N->(∀x,x∈S↔Mm.Rch (NT (b.map (aJ a)) N) (R4 (b.map (aJ a))) x)->(fz.map (·.2.1)).Nodup->Dj (T8 c S) (NZ (WT a (b.map (aJ a))) S) (kY fz) (λ_ _=>False)->((∀z∈qG (b.map (aJ a)) (cV (b.map (aJ a)) N),∀k,¬kY fz (mH z) k)->∀H',Same H H'->Q .non H')/\∀H' (L:Nat),Same H H'->(∃z∈qG (b.map (aJ a)) (cV (b.map (aJ a)) N),∃k,kY fz (mH z) k/\L=vq z+k.1)->(∀z∈qG (b.map (aJ a)) (cV (b.map (aJ a)) N),∀k,kY fz (mH z) k->L<=vq z+k.1)->Q (.int (((L:Int)-1)/2)) H')
abbrev M9 K(E:XK)(Eh:XK):=(aA (aL (bB (ft K)<|bF aU bc)<|ak 2)
  (aA (bD (aN<|aM iJ bT<|tC V.non) (aW<|tC V.non) aR)
  (aW<|aM pN (aM su (tX K bT 0)<|tI 1)<|tI 2)))
abbrev Ma:ϊ ϐ:=sN ["font","house","told"]
theorem Xg(h:fS K vs H Q E):RG (M9 K E) Ma vs H Q:=by
 let#[f,t,h,u,l,n,rfl,p,w,s,v,q]:=h;show#[E0,?_];apply#[f,t,h,u,l,n,Z,p,w,s,v,λN S d g i j e=>#[λo k c=>?_,λr k L x y c m b a=>?_]];.symm;show(q N S d g i j e).1 o _ c
 .symm;rw[Ü<|show¬↥r=V.non fromλz=>by cases z];apply dN m ?_;apply(q N S d g i j e).2 _ L c b a
inductive aS(K:Ϗ)(vs:ϊ V)(H:Hp)(Q:VK)(E:XK):Prop|mk (a:ό) (b:ϊ Int) (k:Nat) (c:vs=[.ref a,.int k]) (d:SqL K H a (b.map V.int)) (e:Q (.int (Mm.cellAt b k)) H)
abbrev Mf K(E:XK)(Eh:XK):=(aA (bD (aN<|aM lN bc<|eF K aU) (aW<|aM (cD K) aU bc) aR)
  (aW<|tI 0))
abbrev Mg:ϊ ϐ:=sN ["script","k"]
theorem Xh(h:aS K vs H Q E):RG (Mf K E) Mg vs H Q:=by
 let#[a,d,k,rfl,b,q]:=h;show#[E0,?_];apply dw b ?_;symm;rw[Qb];show cM (λc=>?_) λc=>?_
 .symm;show dM b (aO (v:=V.int<|Mm.cellAt d k) ?_) ?_;.rw [Á,Zl<|Fi c,ŝ,Mm.getD_some<|Zl<|Fi c]
  .show q
 .symm;rw[Mm.getD_none<|qnC c]at q;show q
inductive eE(K:Ϗ)(vs:ϊ V)(H:Hp)(Q:VK)(E:XK):Prop|mk (a:Int) (k:Nat) (b:vs=[.int a,.int k]) (c:k<=2000) (d:∀i:Int,0<=i->i<2147483647->Q (.int i) H)
abbrev Mh(K:Ϗ)(E:XK)(Eh:XK):=(aW<|aM bL (aM gR (aM b7 (aM b7 (aM gR (aM bL aU<|tI 1000000007)<|aM b7 (tI 48271)<|aM gR (tI 2) bc)<|aM gR (aM gR (tI 17) bc) bc)<|tI 23)<|tI 69621)<|tI 2147483647)
abbrev Mi:ϊ ϐ:=sN ["cell","k"]
theorem Xi(h:eE K vs H Q E):RG (Mh K E) Mi vs H Q:=by let#[a,k,rfl,b,q]:=h;show#[E0,?_];apply q _ () ()
theorem Te(x:Int):vD Hs.NP.cps.toList (x%94)=!(Hs.yp x):=by
 have b:↑Hs.NP.cps.toList=94:=by ac_nf
 let#[n,a,c]:=Mm.bw x 94 (by decide);rw[show x%94=(n:Int)from a];show aO ?_;unfold Hs.yp;rw[show x%94=(n:Int)from a,Ó,Xs,Zl ()];rfl
inductive fA(K:Ϗ)(vs:ϊ V)(H:Hp)(Q:VK)(E:XK):Prop|mk (cl:Int) (a:vs=[.int cl,.int 41]) (b:∀(cs:ϊ Nat) H',Same H H'->↑cs=42->cs.Nodup->(∀c∈cs,Hs.Sg (tx [c]))->Q (.str (tx cs)) H')
abbrev R6 K:=(aA (cH (fO<|cA bc) (ak 5) (aA (aL (aM bL (aM b7 (aM b7 cG<|tI 1)<|aM bL (bB (eE K)<|bF aU gB)<|aM (cD K) (gf<|bF (tI 15)<|tI 2)<|gw Hd<|cA<|aM kj bc<|tI 5)<|tI 94)<|ak 3)
  (aL (aM dG dF<|aM vU bT cG)<|ak 4)))
  (aW dF))
abbrev Tf K(E:XK)(Eh:XK):=(aA (aL (tC<|V.str (Str.ofString " !\"#$&'()*+,-./0123456789:;<=>?@ABCDEFGHIJKLMNOPQRSTUVWXYZ[\\]^_`"))<|ak 2)
  (aA (aL (aM dG bT<|tC<|V.str<|Str.ofString "abcdefghijklmnopqrstuvwxyz{|}~")<|ak 2)
  (aA (aL (aM bL aU<|tI 94)<|ak 3)
  (aA (aL (aM vU bT cG)<|ak 4)
  (R6 K)))))
abbrev Tg:ϊ ϐ:=sN ["cell","many","some","at","signs","k"]
theorem Zm(h:fA K vs H Q E):RG (Tf K E) Tg vs H Q:=by
 let#[cl,rfl,q]:=h;show#[E0,?_];apply jL (by decide) ?_;change _;apply tK (c:=Hs.yp cl) (by decide) (Te cl) ?_;apply m8 41 Z (by decide) (by decide) (λi t A=>(An2 (Same H A) (Ex3 λ(b:ϊ Nat) (a:Nat) (o:ύ V)=>(An5 (↑b=i+1) (a<=2*i) (b.Nodup) (∀c∈b,∃e:Nat,e<=a/\c=Hs.yp (cl+(e:Int))) (t=[!(.int cl),!(.int 41),!(.str Hs.NP),!(.int ((cl+(a:Int))%94)),!(.str (tx b)),o]))))) #[gN _,[Hs.yp cl],0,none,Z,(),by simp,λc mc=>#[0,(),by rw[Zs.mp mc];simp],by simp;rfl] ?_ ?_
 .rintro i t B D ⟨s,b,a,o,p,n,f,k,rfl⟩;apply#[cl,i,Z,cU (â D),λz I J=>?_];let#[d,l,C]:=Mm.bw z 2 (by decide);symm;intro L r;apply Ie ?_;rw[show(if decide ((5:Int)<41)=true then(1:Int)else 0)=((1:Nat):Int)from Z];show dM (xs:=[.int 15,.int 2]) (gI aj) (aO (j:=1) (v:=.int 2) Z) ?_;symm;rw[show z%2=(d:Int)from l,show((cl+(a:Int))%94+1+(d:Int))%94=(cl+((a+1+d:Nat):Int))%94 by rfl'];walk_at "ns";show tK (c:=Hs.yp (cl+((a+1+d:Nat):Int))) (by decide) (Te _) ?_;show jL (by rw[bY];change↑b+1<=_;rfl') ?_;apply#[s.new r,b++[Hs.yp (cl+((a+1+d:Nat):Int))],a+1+d,!(.int (i:Nat)),by simp[p],(),?_,λc mc=>?_,?_];.rw [å];show#[f,by simp,λu F w G y=>?_];let#[x,g,m]:=k u F;rw[Zs.mp G,m]at y;have:=Hs.Qx y;rfl'
  .rcases Æ.mp mc with mc|mc;.obtain ⟨x,g,m⟩:=k c mc;show#[x,uH (uH g 1) _,m]
   .show #[a+1+d,Ã _,Zs.mp mc]
  .rw [<-nA];rfl
 .rintro t B ⟨s,b,a,o,p,n,f,k,rfl⟩;apply q b _ s p f λc mc=>by let#[e,_,rfl]:=k c mc;show#[_,Z]
theorem Mj{K:Ϗ}{i:Int}(e:SqL K H a xs)(c:0<=i)(d:i<(↑xs:Int))(h:∀v∈xs,Q v H):cD K ↥a (.int i) H Q:=by let#[v,f,b]:=Qu c d;show dM e b<|h v f
def LtB(H:Hp)(ht:Nat)(z:Lz):Prop:=H z.1=!(.tup [.str z.2.1,↥z.2.2.1])/\H z.2.2.1=!(.lst<|nv z.2.2.2)/\1<=↑z.2.2.2/\↑z.2.2.2<=8/\∀x∈z.2.2.2,x<2^ht
def LtB.same{z:Lz}(h:LtB H ht z)(s:Same H H'):LtB H' ht z:=#[s.get h.1,s.get h.2.1,h.2.2]
theorem LtB.set{z:Lz}{r:ό}{b c:ϊ V}(h:LtB H ht z)(a:H r=!(.lst b))(n:z.2.2.1≠r):LtB (upd H r<|.lst c) ht z:=#[by rw[aq (λe=>by have:=h.1;rw[e,a]at this;cases this)];show h.1,by rw[aq n];show h.2.1,h.2.2]
inductive dE(K:Ϗ)(vs:ϊ V)(H:Hp)(Q:VK)(E:XK):Prop|mk (cl:Int) (a:ϊ Nat) (b:Nat) (d:vs=[.int cl,.str (tx a),.int b]) (e:↑a=42) (f:b<=60) (g:∀r H' (zs:ϊ Lz),Same H H'->H r=none->H' r=!(.lst (zs.map λz:Lz=>V.ref z.1))->(∀z∈zs,LtB H' b z)->1<=↑zs->↑zs<=40->zs.map (·.2.1)=(a.take ↑zs).map (λc=>tx [c])->Q (.ref r) H')
abbrev R7 K:=(aA (aL (kJ [none,!0,!6,!2] (fO<|cA oW) (ak 0) dJ<|aM bL (aM gR (bB (eE K)<|bF bc<|aM b7 (aM b7 (tI 600)<|aM gR (tI 4) bT) aU)<|tI 2147483659)<|aM Ry (tI 1) cG)<|ak 8)
  (aA (bD (kh (aN<|aM ou ie<|tI 1)<|aN<|aM ou (aM bL (bB (eE K)<|bF aU<|tI 60)<|tI 9)<|tI 0) (aL (gw (jU K)<|cA<|tX K (aM (cD K) cG<|tI 0) 1)<|ak 8) aR)
  (di<|ue K "list" cY cG<|cA<|dj<|bF (aM vU bc ie) xR)))
abbrev R8 K:=(aA (aL (aM b7 (tI 1)<|aM bL (bB (eE K)<|bF aU<|aM b7 (tI 500) ie)<|tI 3)<|ak 7)
  (aA (bD (aN<|aM lN dF<|tI 3) (aL (aM (cD K) (gf<|kW (aM b7 (tI 1)<|gw Hd<|cA<|aM ou oW<|tI 3) (aM b7 (tI 4)<|aM bL (bB (eE K)<|bF aU<|aM b7 (tI 540) ie)<|tI 5)<|tI 1) dF)<|ak 7) aR)
  (R7 K)))
abbrev R9 K:=(aA (aL (aM (cD K) (gf<|kW (aM b7 (tI 9)<|aM bL (bB (eE K)<|bF aU<|tI 12)<|tI 32) (tI 2)<|aM b7 (tI 5)<|aM bL (bB (eE K)<|bF aU<|tI 12)<|tI 3)<|gw pP<|bF dF<|tI 2)<|ak 5)
  (aA (bD (aN<|aM kj dF<|tI 2) (aL (aM b7 (tI 1)<|aM bL (bB (eE K)<|bF aU<|tI 10)<|tI 4)<|ak 5) aR)
  (aA (cH (fO<|cA gB) (ak 6)<|R8 K)
  (aW cG))))
abbrev Th K(E:XK)(Eh:XK):=(aA (aL (gf gJ)<|ak 3)
  (aA (aL (aM bL (bB (eE K)<|bF aU<|tI 11)<|tI 6)<|ak 4)
  (R9 K)))
abbrev Ml:ϊ ϐ:=sN ["cell","signs","height","letters","kind","many","k","size","columns"]
theorem Zn(h:dE K vs H Q E):RG (Th K E) Ml vs H Q:=by
 let#[cl,P,F,rfl,h6,aw,q]:=h;show#[E0,?_];symm;intro r hr;apply#[cl,11,Z,by decide,λk m0 m1=>?_];let#[kd,ah,ax]:=Mm.bw k 6 (by decide);symm;rw[show k%6=(kd:Int)from ah];apply#[cl,12,Z,by decide,λk m0 m1=>?_];let#[n1,ai,ay]:=Mm.bw k 32 (by decide);symm;rw[show k%32=(n1:Int)from ai];apply#[cl,12,Z,by decide,λk m0 m1=>?_];let#[G,T,ap]:=Mm.bw k 3 (by decide);symm;rw[show k%3=(G:Int)from T];symm;intro pl B;symm;have d:=ao (o:=.lst [.int<|9+(n1:Int),.int 2,.int<|5+(G:Int)]) B;show Mj (xs:=[.int<|9+(n1:Int),.int 2,.int<|5+(G:Int)]) (gI aj) (by split<;>show BZ _) (by change _<(3:Int);split<;>rfl') λv mv=>?_;let#[M,rfl,ad]:∃n:Nat,v=.int (n:Int)/\1<=n/\n<=40:=by
  simp only[Å,Ú,þ]at mv;rcases mv with rfl|rfl|rfl;.show #[9+n1,by congr 1,uH (ĵ 1 8) _,()]
  .show #[2,Z,by decide,by decide]
  .show #[5+G,by congr 1,uH (ĵ 1 4) _,()]
 have am:∀p∈[r],H p=none:=λp hp=>by rw[Zs.mp hp];show hr
 have w:Sb [r] H (upd H r<|.lst []):=Sb.of<|ao hr _;have l:upd H r (.lst []) r=!(.lst []):=aj;generalize upd H r (.lst [])=H0 at B d w l⊢;replace w:=w.same d;replace l:=d.get l;generalize upd H0 pl (.lst [.int<|9+(n1:Int),.int 2,.int<|5+(G:Int)])=O at d w l⊢;clear d B mv;walk_at "gj";walk_at "ns";with_reducible show iz (λA b=>(An2 (b=O) (Ex1 λ(my:Nat)=>(An3 (1<=my) (my<=40)<|A=[!(.int cl),!(.str<|tx P),!(.int (F:Nat)),!↥r,!(.int (kd:Nat)),!(.int (my:Nat)),none,none,none])))) ?_ ?_
 rotate_left
 .intro N J;apply cM (λc=>?_) λc=>?_;.symm;show#[cl,10,Z,by decide,λk m0 m1=>?_];let#[n3,al,a1]:=Mm.bw k 4 (by decide);symm;rw[show k%4=(n3:Int)from al];show J _ _ #[Z,n3+1,ĵ 1 _,(),by rw[show(1:Int)+(n3:Int)=((n3+1:Nat):Int)by show Vc _];rfl]
  .symm;show J _ _ #[Z,M,ad.1,ad.2,Z]
 rintro _ _ ⟨rfl,my,ae,R,rfl⟩;apply m8 my (Ó _) (cU R) (yo _) (λi σ b=>(Ex4 λ(I:ϊ Lz) (o6 o7 o8:ύ V)=>(An7 (Sb [r] H b) (b r=!(.lst (I.map λz:Lz=>↥z.1))) (∀z∈I,LtB b F z) (↑I=i) (I.map (·.2.1)=(P.take i).map (λc=>tx [c])) (∀z∈I,z.2.2.1≠r)<|σ=[!(.int cl),!(.str<|tx P),!(.int (F:Nat)),!↥r,!(.int (kd:Nat)),!(.int (my:Nat)),o6,o7,o8]))) #[[],_,_,_,w,l,by simp,Z,Z,by simp,Z] ?_ ?_
 .clear w l;rintro i σ O hi ⟨I,o6,o7,o8,sb,e,hz,zz,hs,W,rfl⟩;have ac:i<↑P:=();symm;rw[show(500:Int)+(i:Int)=((500+i:Nat):Int)by show Z];show#[cl,500+i,Z,(),λM y0 y1=>?_];let#[m,em,hm]:=Mm.bw M 3 (by decide);walk_at "gj";rw[show M%3=(m:Int)from em,show(1:Int)+(m:Int)=((m+1:Nat):Int)by show Vc _];walk_at "ns";with_reducible show iz (λA b=>(An2 (Same O b) (Ex1 λ(S:Nat)=>(An3 (1<=S) (S<=8)<|A=[!(.int cl),!(.str<|tx P),!(.int (F:Nat)),!↥r,!(.int (kd:Nat)),!(.int (my:Nat)),!(.int (i:Nat)),!(.int (S:Nat)),o8])))) ?_ ?_
  rotate_left
  .intro N J;apply cM (λc=>?_) λc=>?_
   .symm;show Ie ?_;symm;rw[show(540:Int)+(i:Int)=((540+i:Nat):Int)by show Z];show#[cl,540+i,Z,(),λk m0 m1=>?_];let#[G,T,ap]:=Mm.bw k 5 (by decide);symm;rw[show k%5=(G:Int)from T];symm;intro pl B;have s2:=ao (o:=.lst [.int<|1+if decide (((m+1:Nat):Int)=3)=true then 1 else 0,.int<|4+(G:Int),.int 1]) B;apply Mj (xs:=[.int<|1+if decide (((m+1:Nat):Int)=3)=true then 1 else 0,.int<|4+(G:Int),.int 1]) (gI aj) (BZ _) (by change _<(3:Int);show c) λv mv=>?_;let#[S,rfl,g,f]:∃n:Nat,v=.int (n:Int)/\1<=n/\n<=8:=by
     simp only[Å,Ú,þ]at mv;rcases mv with rfl|rfl|rfl
     .split;.show #[2,Z,by decide,by decide]
      .show #[1,Z,by decide,by decide]
     .show #[4+G,by congr 1,uH (ĵ 1 3) _,()]
     .show #[1,Z,by decide,by decide]
    show J _ _ #[s2,S,g,f,Z]
   .symm;show J _ _ #[gN _,m+1,ĵ 1 _,(),Z]
  rintro _ H2 ⟨D,S,g,f,rfl⟩;apply Er S (Ó _) (cU f) (yo _) (λj ys b=>(An2 (b=H2) (Ex1 λ(a:ϊ Nat)=>(An3 (ys=nv a) (↑a=j) (∀x∈a,x<2^F))))) #[Z,[],Z,Z,by simp] ?_ ?_ ?_;.rintro j ys b ⟨rfl,a,rfl,h,_⟩;rw[Qb];show đ h
  .rintro j ys b hj ⟨rfl,a,rfl,u,L⟩;symm;rw[show(600:Int)+4*(i:Int)+(j:Int)=((600+4*i+j:Nat):Int)by show Z];show#[cl,600+4*i+j,Z,(),λmz z0 z1=>?_];symm;let#[x,ex,hx]:∃x:Nat,mz*2147483659%(1*2^((F:Nat):Int).toNat)=(x:Int)/\x<2^F:=by rw[Ó,Int.one_mul,<-Bx.lM];show Mm.bw _ _<|Nat.two_pow_pos F
   rw[ex];show#[Z,a++[x],by unfold nv;rw[Â];rfl,by simp[u],λy my=>?_];rcases Æ.mp my with my|my;.show L y my
   .rw [Zs.mp my];show hx
  rintro ys b ⟨rfl,a,rfl,u,L⟩ c U;have hc:O c=none:=D.free U;have e2:upd b c (.lst<|nv a) c=!(.lst<|nv a):=aj;replace D:=D.new (o:=.lst<|nv a) U;generalize upd b c (.lst<|nv a)=H2 at e2 D⊢;clear U;walk_at "gj";walk_at "ns";with_reducible show iz (λA b=>(Ex2 λ(Y:ό) (a:ϊ Nat)=>(An7 (Same O b) (O Y=none) (b Y=!(.lst<|nv a)) (1<=↑a) (↑a<=8) (∀x∈a,x<2^F)<|A=[!(.int cl),!(.str<|tx P),!(.int (F:Nat)),!↥r,!(.int (kd:Nat)),!(.int (my:Nat)),!(.int (i:Nat)),!(.int (S:Nat)),!↥Y]))) ?_ ?_
  .rintro A H3 ⟨Y,av,X,ab,e3,ar,as,af,rfl⟩;apply fB (gI<|X.get e) ?_;apply tK (c:=P[i]) (by rw[bY];show cU<|đ h6) (aO (by rw[qj];show Zl ac)) ?_;symm;intro t s;apply gY (aF s<|X.get e) (by simp;rfl') ?_;symm;have ag:Y≠r:=λz=>by rw[z,e]at ab;cases ab
   show#[I++[(t,tx [P[i]],Y,av)],_,_,_,((sb.same X).new s).set (by simp),by rw[aj,Â];rfl,λz mz=>?_,by simp[zz],?_,λz mz=>?_,Z]
   .rcases Æ.mp mz with mz|mz;.show (((hz z mz).same X).same<|ao s _).set (aF s<|X.get e)<|W z mz
    .rw [Zs.mp mz];show LtB.set #[aj,aF s e3,ar,as,af] (aF s<|X.get e) ag
   .rw [Â,hs,Ð,Zl ac,Â];rfl
   .rcases Æ.mp mz with mz|mz;.show W z mz
    .rw [Zs.mp mz];show ag
  .intro N J;apply cM (λc1=>?_) λc1=>?_
   .symm;show#[cl,60,Z,by decide,λmw w0 w1=>?_];apply cM (λc2=>?_) λc2=>?_;.obtain ⟨z,rfl⟩:∃z,I=[z]:=List.length_eq_one_iff.mp<|Eq.trans zz<|Eo c1;have C:=(hz z (by simp)).same D;apply dM (gI<|D.get e) (aO (j:=0) (v:=↥z.1) Z) ?_;apply cZ C.1 ?_;apply mj (gI C.2.1) λp hp=>?_;apply J _ _ #[p,z.2.2.2,D.new hp,D.free hp,aj,C.2.2.1,C.2.2.2.1,C.2.2.2.2,Z]
    .symm;show J _ _ #[c,a,D,hc,e2,RQ g u,jq u f,L,Z]
   .symm;show J _ _ #[c,a,D,hc,e2,RQ g u,jq u f,L,Z]
 .rintro σ O ⟨I,o6,o7,o8,sb,e,hz,zz,hs,W,rfl⟩;apply q r O I (sb.off am) hr e hz (RQ ae zz) (jq zz R) (by rw[zz];show hs)
def a1c(cs:ϊ Nat)(m:Nat)(zs:ϊ Dz):Prop:=(zs.map (·.2.1)).Sublist (cs.map<|λc=>tx [c])/\∀z∈zs,0<=z.2.2/\z.2.2<(m:Int)
inductive aI(K:Ϗ)(vs:ϊ V)(H:Hp)(Q:VK)(E:XK):Prop|mk (cl:Int) (a:ϊ Nat) (m:Nat) (b:vs=[.int cl,.str (tx a),.int m]) (d:(∀c∈a,Hs.Sg (tx [c]))) (e:a.Nodup) (f:↑a<=6) (g:1<=m) (h:m<=3) (i:∀r H' ds es,Same H H'->HsT K H' r ds es->HsO a ds es->↑ds=m->Q (.ref r) H')
abbrev Ra K:=(aA (cH (fO<|cA<|eF K bc) (ak 6)<|bD (aN<|aM kj (aM bL (bB (eE K)<|bF aU<|aM b7 (aM b7 (tI 100)<|aM gR (tI 10) dF) ie)<|tI 5)<|tI 0) (di<|ue K "list" cY gB<|cA<|dj<|bF (aM vU bc ie)<|aM bL (bB (eE K)<|bF aU<|aM b7 (aM b7 (tI 200)<|aM gR (tI 10) dF) ie) bT) aR)
  (di<|ue K "list" cY cG<|cA gB))
abbrev Rb K:=(aA (cH (fO<|cA bT) (ak 4) (aA (aL (gf gJ)<|ak 5)
  (Ra K)))
  (aA (aL (kJ [none,!0] (fO<|cA bT) (ak 0) (aN<|aM kj (aM bL (bB (eE K)<|bF bc<|aM b7 (tI 300) aU)<|tI 3)<|tI 0) aU)<|ak 7)
  (aW<|bB (ei K)<|bF cG oW)))
abbrev Ti K(E:XK)(Eh:XK):=(aA (aL (gf gJ)<|ak 3)
  (Rb K))
abbrev Mp:ϊ ϐ:=sN ["cell","signs","many","doors","k","row","j","ends"]
theorem Zo(h:aI K vs H Q E):RG (Ti K E) Mp vs H Q:=by
 let#[cl,s,m,rfl,ad,ac,Y,R,B,q]:=h;show#[E0,?_];symm;intro d hd;apply m8 m (Ó _) (cU B) (yo _) (λi M A=>(Ex4 λ(L:ϊ<|ό×ϊ Dz) (o4 o5 W:ύ V)=>(An5 (A d=!(.lst<|L.map λr=>↥r.1)) (Same H A) (↑L=i) (∀f∈L,f.1≠d/\RwH A f/\a1c s m f.2)<|M=[!(.int cl),!(.str<|tx s),!(.int (m:Nat)),!↥d,o4,o5,W,none]))) #[[],_,_,_,aj,ao hd _,Z,by simp,Z] ?_ ?_
 .rintro i M X hi ⟨L,o4,o5,W,l,s1,n,v,rfl⟩;symm;intro w F;have ab:∀p∈[w],X p=none:=λp hp=>by rw[Zs.mp hp];show F
  apply uJ (by rw[bY];show cU Y) ?_;rw[bY];apply m8 ↑s (Ó _) (cU Y) (yo _) (λj M A=>(Ex2 λ(C:ϊ Dz) (W:ύ V)=>(An6 (Sb [w] X A) (RwH A (w,C)) (↑C<=j) ((C.map (·.2.1)).Sublist<|(s.take j).map λc=>tx [c]) (∀z∈C,0<=z.2.2/\z.2.2<(m:Int))<|M=[!(.int cl),!(.str<|tx s),!(.int (m:Nat)),!↥d,!(.int (i:Nat)),!↥w,W,none]))) #[[],_,Sb.of<|ao F _,#[aj,by simp],by simp,by simp,by simp,Z] ?_ ?_
  .rintro j M H2 hj ⟨C,o,sb,I,J,g,N,rfl⟩;have et:(s.take<|j+1).map (λc=>tx [c])=(s.take j).map (λc=>tx [c])++[tx [s[j]]]:=by rw[Ð,Zl hj,Â];rfl
   symm;rw[show(100:Int)+10*(i:Int)+(j:Int)=((100+10*i+j:Nat):Int)by show Z];show#[cl,100+10*i+j,Z,(),λmx _ _=>?_];apply cM (λc=>?_) λc=>?_
   .symm;show fB (gI I.1) ?_;apply tK (c:=s[j]) (by rw[bY];show cU Y) (aO<|by rw[qj];show Zl hj) ?_;symm;rw[show(200:Int)+10*(i:Int)+(j:Int)=((200+10*i+j:Nat):Int)by show Z];show#[cl,200+10*i+j,Z,(),λmy _ _=>?_];let#[k,ek,hk]:=Mm.bw my m R;symm;rw[ek];intro t ht;apply gY (aF ht I.1) (by simp;rfl') ?_;apply#[C++[(t,tx [s[j]],(k:Int))],_,(sb.new ht).set<|by simp,#[by rw[aj,Â];rfl,λz mz=>?_],by simp;show J,?_,λz mz=>?_,Z]
    .have T:∀{x:ό}{O:ϊ V},upd H2 t (.tup [.str<|tx [s[j]],.int (k:Int)]) x=!(.tup O)->x≠w:=λG e=>by rw[e,aF ht I.1]at G;cases G
     rcases Æ.mp mz with mz|mz;.have:=(ao ht<|.tup [.str<|tx [s[j]],.int (k:Int)]).get<|I.2 z mz;rw[aq<|T this];show this
     .rw [Zs.mp mz,aq<|T aj];show aj
    .rw [et,Â];show g.append<|List.Sublist.refl _
    .rcases Æ.mp mz with mz|mz;.show N z mz
     .rw [Zs.mp mz];show#[by change(0:Int)<=(k:Int);show BZ _,by change(k:Int)<(m:Int);show qdT hk]
   .symm;show#[C,_,sb,I,uH J _,by rw[et];show g.trans<|List.sublist_append_left _ _,N,Z]
  .rintro M H2 ⟨C,o,sb,I,J,g,N,rfl⟩;rw[à]at g;have S:=sb.off ab;apply fB (gI<|S.get l) ?_;apply gY (S.get l) (by simp;rfl') ?_;symm;have U:w≠d:=nj l F;show#[L++[(w,C)],_,_,_,by rw[aj,Â];rfl,λb u P=>?_,by simp[n],λf mr=>?_,Z];.rw [aq<|λe=>by rw[e,hd]at P;cases P];show S b u<|s1 b u P
   .rcases Æ.mp mr with mr|mr;.show #[(v f mr).1,((v f mr).2.1.same S).set (S.get l) (v f mr).1,(v f mr).2.2]
    .rw [Zs.mp mr];show#[U,I.set (S.get l) U,g,N]
 .rintro M X ⟨L,o4,o5,W,l,s1,n,v,rfl⟩;apply Er m (Ó _) (cU B) (yo _) (λi O A=>(An2 (A=X)<|Ex1 λ(y:ϊ Int)=>(An4 (O=y.map V.int) (↑y<=i) (y.Nodup) (∀x∈y,0<=x/\x<(i:Int))))) #[Z,[],Z,by simp,by simp,by simp] ?_ ?_ ?_;.rintro i O _ ⟨rfl,y,rfl,D,_⟩;rw[Qb];show D
  .rintro i O _ hi ⟨rfl,y,rfl,D,zz,G⟩;symm;rw[show(300:Int)+(i:Int)=((300+i:Nat):Int)by show Z];show#[cl,300+i,Z,(),λmx _ _=>?_];apply cM (λc=>?_) λc=>?_
   .symm;show#[Z,y++[(i:Int)],by simp,by simp;show D,?_,λx mx=>?_];.rw [å];show#[zz,by simp,λa ha b P e=>?_];have:=(G a ha).2;rw[Zs.mp P]at e;rfl'
    .rcases Æ.mp mx with mx|mx;.have:=G x mx;rfl'
     .rw [Zs.mp mx];rfl'
   .show #[Z,y,Z,uH D _,zz,λx mx=>?_];have:=G x mx;rfl'
  .rintro O _ ⟨rfl,y,rfl,D,zz,G⟩ e he;symm;have S:=ao he<|.lst<|y.map V.int;show#[d,e,L,y,s,Z,gI<|S.get l,λf mr=>?_,ad,gI aj,λx mx=>by rw[n];show G x mx,zz,Õ D<|Qn B,RQ R n,cU<|jq n B,λr A ds es s' hH hO D=>q r A ds es ((s1.trans S).trans s') hH hO<|Eq.trans D n];let#[_,F,e2,N]:=v f mr;replace F:=F.same S;show#[gI F.1,λz mz=>#[gL<|F.2 z mz,?_,by rw[n];show N z mz],e2.nodup<|tR.mpr ac,?_];.obtain ⟨c,mc,ec⟩:=Zp.mp<|e2.subset<|Zp.mpr #[z,mz,Z];show#[c,mc,ec.symm]
   .have:=e2.length_le;rw[Qb,Qb]at this;show Õ this<|Qn Y
inductive gy(K:Ϗ)(vs:ϊ V)(H:Hp)(Q:VK)(E:XK):Prop|mk (cl:Int) (a:ϊ Nat) (d:vs=[.int cl,.str (tx a)]) (e:1<=↑a) (f:↑a<=6) (g:∀r H' (b:ϊ (ϊ Nat)),Same H H'->H' r=!(.lst (b.map λw=>V.str (tx w)))->↑b<=4->(∀w∈b,↑w<=4/\∀c∈w,c∈a)->Q (.ref r) H')
abbrev Rc K:=(aA (cH (fO<|cA<|aM bL (bB (eE K)<|bF aU<|aM b7 (tI 410) cG)<|tI 5) (ak 5)<|aL (aM dG dF<|aM vU bc<|aM bL (bB (eE K)<|bF aU<|aM b7 (aM b7 (tI 420)<|aM gR (tI 5) cG) gB)<|eF K bc)<|ak 4)
  (di<|ue K "list" cY bT<|cA dF))
abbrev Tj K(E:XK)(Eh:XK):=(aA (aL (gf gJ)<|ak 2)
  (aA (cH (fO<|cA<|aM b7 (tI 1)<|aM bL (bB (eE K)<|bF aU<|tI 400)<|tI 4) (ak 3) (aA (aL (tC<|V.str<|Str.ofString "")<|ak 4)
  (Rc K)))
  (aW bT)))
abbrev Tp:ϊ ϐ:=sN ["cell","signs","words","k","word","j"]
theorem Zq(h:gy K vs H Q E):RG (Tj K E) Tp vs H Q:=by
 let#[cl,b,rfl,D,F,q]:=h;show#[E0,?_];symm;intro r I;apply#[cl,400,Z,by decide,λJ U W=>?_];let#[n,M,T]:=Mm.bw J 4 (by decide);symm;rw[show J%4=(n:Int)from M,show(1:Int)+(n:Int)=((n+1:Nat):Int)by show Vc _];have t:∀p∈[r],H p=none:=λp N=>by rw[Zs.mp N];show I
 show m8 (n+1) (Ó _) () (yo<|_+1) (λi f j=>(An2 (Sb [r] H j) (Ex4 λ(a:ϊ<|ϊ Nat) (v x y:ύ V)=>(An4 (j r=!(.lst (a.map λw=>V.str<|tx w))) (↑a=i) (∀w∈a,↑w<=4/\∀c∈w,c∈b)<|f=[!(.int cl),!(.str<|tx b),!↥r,v,x,y])))) #[Sb.of<|ao I _,[],_,_,_,aj,Z,by simp,Z] ?_ ?_
 .rintro k f B u ⟨z,A,v,x,y,e,g,d,rfl⟩;symm;rw[show(410:Int)+(k:Int)=((410+k:Nat):Int)by show Z];show#[cl,410+k,Z,(),λl O P=>?_];let#[m,C,S]:=Mm.bw l 5 (by decide);symm;rw[show l%5=(m:Int)from C];show m8 m (Ó _) (qaU<|qmB C Z) (yo _) (λi f j=>(An2 (B=j) (Ex2 λ(a:ϊ Nat) (o:ύ V)=>(An3 (↑a=i) (∀c∈a,c∈b)<|f=[!(.int cl),!(.str<|tx b),!↥r,!(.int (k:Nat)),!(.str<|tx a),o])))) #[Z,[],_,Z,by simp,Z] ?_ ?_
  .rintro i f _ R ⟨rfl,a,o,G,s,rfl⟩;symm;rw[show(420:Int)+5*(k:Int)+(i:Int)=((420+5*k+i:Nat):Int)by show Z];show#[cl,420+5*k+i,Z,(),λl O P=>?_];apply uJ (by rw[bY];show cU F) ?_;rw[bY];let#[k,L,u]:=Mm.bw l ↑b D;show zM (m:=k) D L ?_;apply tK (c:=b[k]) (by rw[bY];show cU F) (aO (by rw[qj];show Zl u)) ?_;show jL (by rw[bY];change↑a+1<=_;rfl') ?_;apply#[Z,a++[b[k]],_,by simp[G],λc mc=>?_,by rw[<-nA];rfl];rcases Æ.mp mc with mc|mc;.show s c mc
   .rw [Zs.mp mc];show Ø u
  .rintro f _ ⟨rfl,a,o,G,s,rfl⟩;apply fB (gI e) ?_;apply gY e (by rw[Qb];rfl') ?_;apply#[z.set Ì,A++[a],_,_,_,by rw[aj,Â];rfl,by simp[g],λw mw=>?_,Z];rcases Æ.mp mw with mw|mw;.show d w mw
   .rw [Zs.mp mw];show#[(),s]
 .rintro f B ⟨z,A,v,x,y,e,g,d,rfl⟩;apply q r _ A (z.off t) e () d
theorem HsO.up{b:ϊ Int}(h:HsO a ds b)(m:∀c∈a,c∈cs'):HsO cs' ds b:=by let#[j,k,d,l]:=h;show#[j,k,λi f=>#[(d i f).1,λq o=>?_],l];let#[#[c,n,e],g]:=(d i f).2 q o;show#[#[c,m c n,e],g]
theorem HsO.gd{k:ϊ Int}(h:HsO g ds k)(o:↑g<=62)(i:∀c∈g,Hs.Sg<|tx [c]):GdB ds/\Hs.Wf ds:=by
 let#[l,n,d,r]:=h;show#[#[cU n,λb a=>(d b a).1,λb a=>?_,λb a q f=>?_],l,λb a q f=>((d b a).2 q f).2]
 .have:=Wx (m:=g.map λc=>tx [c]) (dB (d b a).1) λs p=>by let#[q,f,rfl]:=Zp.mp p;let#[#[c,j,e],_]:=(d b a).2 q f;show Zp.mpr #[c,j,e.symm]
  rw[Qb,Qb]at this;show Í this o
 .obtain ⟨⟨c,j,e⟩,_⟩:=(d b a).2 q f;rw[e];show i c j
def Mq{a b:Nat}(c:a<=n)(d:b<=m)(h:n*n*(m*9)<=20000):a*a*(b*9)<=20000:=Í (Nat.mul_le_mul (Nat.mul_le_mul c c)<|Nat.mul_le_mul_right 9 d) h
inductive f7(K:Ϗ)(vs:ϊ V)(H:Hp)(Q:VK)(E:XK):Prop|mk (cl:Int) (b:ϊ Nat) (d:ό) (a:ϊ Lz) (e:Nat) (f:vs=[.int cl,.str (tx b),.ref d]) (g:TupK K cO [.int 1]) (h:H d=!(.lst (a.map λz:Lz=>V.ref z.1))) (i:(∀z∈a,LtB H e z)) (j:↑b=↑a+1) (k:1<=↑a) (l:↑a<=40) (m:(∀c∈b,Hs.Sg (tx [c]))) (n:b.Nodup) (o:∀r H' ds es,Same H H'->HsT K H' r ds es->HsO b ds es->↑ds*↑ds*(↑a*9)<=20000->Q (.ref r) H')
abbrev Rf K:=(aA (bD (aN<|aM ou cG<|tI 5) (aW<|bB (gg K)<|bF (jn (gc K) [V.non] E0<|bF bc<|tI 2)<|bB (aI K)<|kW aU bc<|tI 2) aR)
  (aW<|bB (aI K)<|kW aU bc<|aM b7 (tI 1)<|aM bL (bB (eE K)<|bF aU<|tI 74)<|tI 3))
abbrev Rg K:=(aA (bD (aN<|aM ou cG<|tI 4) (aW<|bB (gc K)<|kW (vR oE bc cQ<|fj<|Aw iK<|tI 1) (aM b7 (tI 1)<|aM pN gB<|tI 3)<|dj<|bF (aM b7 (tI 1)<|aM bL (bB (eE K)<|bF aU<|tI 72)<|tI 3)<|aM bL (bB (eE K)<|bF aU<|tI 73)<|tI 1001) aR)
  (Rf K))
abbrev Rh K:=(aA (bD (Nz (aN<|aM ou cG<|tI 1)<|aN<|aM ou cG<|tI 2) (aW<|jn (gc K) [V.non] E0<|bF (vR oE bc cQ<|fj<|Aw iK<|tI 1) gB) aR)
  (aA (bD (aN<|aM ou cG<|tI 3) (aW<|bB (f6 K)<|cA<|bB (gy K)<|bF aU bc) aR)
  (Rg K)))
abbrev Ri K:=(aA (bD (kh (aN<|aM lN (eF K bT)<|tI 3)<|kh (aN<|aM lN cG<|tI 4)<|lA K dF) (aW<|jn (gc K) [V.non] E0<|bF (vR oE bc cQ<|fj<|Aw iK<|tI 1)<|aM b7 (tI 5)<|aM bL (bB (eE K)<|bF aU<|tI 75)<|tI 9) aR)
  (aA (aL (aM b7 (tI 1)<|aM bL (bB (eE K)<|bF aU<|tI 71)<|tI 4)<|ak 5)
  (aA (bD (aN<|aM ou cG<|tI 0) (aW<|bB (gi K)<|cA<|vR oE bc cQ<|fj<|Aw iK<|tI 1) aR)
  (Rh K))))
abbrev Rj K:=(aA (bD (aN<|aM kj (eF K bT)<|tI 7) (aA (bD (kh (aN<|aM lO (eF K bT)<|tI 16)<|aN<|aM lN cG<|tI 4) (aW<|jn (gc K) [V.non] E0<|bF (vR oE bc cQ<|fj<|Aw iK<|tI 1)<|tI 2) aR)
  (aW<|bB (gi K)<|cA<|vR oE bc cQ<|fj<|Aw iK<|tI 1)) aR)
  (aA (bD (aN<|aM kj (eF K bT)<|tI 4) (aW<|jn (gc K) [V.non] E0<|bF (vR oE bc cQ<|fj<|Aw iK<|tI 1)<|aM b7 (tI 5)<|aM bL (bB (eE K)<|bF aU<|tI 75)<|tI 3) aR)
  (Ri K)))
abbrev Tq K(E:XK)(Eh:XK):=(aA (aL (aM bL (bB (eE K)<|bF aU<|tI 70)<|tI 7)<|ak 3)
  (aA (aL (aM ou (gw (Pb K)<|cA<|kJ [none] (cC K bT) (ak 0) dJ<|eF K<|tX K aU 1)<|eF K bT)<|ak 4)
  (Rj K)))
abbrev Mr:ϊ ϐ:=sN ["cell","signs","letters","way","slim","many"]
theorem Zr(h:f7 K vs H Q E):RG (Tq K E) Mr vs H Q:=by
 let#[cl,a,lt,G,ht,rfl,TK,T,ar,W,ay,x,b,D,q]:=h;show#[E0,?_];have C:∀c∈a.dropLast,c∈a:=λc m=>List.dropLast_subset _ m;have u:∀c∈a.dropLast,Hs.Sg (tx [c]):=λc m=>b c<|C c m;have t:a.dropLast.Nodup:=D.sublist<|List.dropLast_sublist _;have L:↑a.dropLast<64:=by rw[List.length_dropLast];rfl'
 apply#[cl,70,Z,by decide,λmx _ _=>?_];let#[w,ew,hw]:=Mm.bw mx 7 (by decide);symm;rw[show mx%7=(w:Int)from ew];apply Cd (λz:Lz=>↥z.1) (gI T) (cU x) (λz=>V.int (↑z.2.2.2:Nat)) (λj z hj A kA=>?_) λbp ah=>?_;.have hz:=ar z<|Yf hj;apply cZ hz.1 ?_;apply kE hz.2.1 ?_;show kA
 have f:Same H (upd H bp (.lst (G.map λz:Lz=>V.int (↑z.2.2.2:Nat)))):=ao ah _;have e1:upd H bp (.lst (G.map λz:Lz=>V.int (↑z.2.2.2:Nat))) bp=!(.lst ((G.map λz:Lz=>((↑z.2.2.2:Nat):Int)).map V.int)):=by rw[aj,Ä];rfl
 generalize upd H bp (.lst (G.map λz:Lz=>V.int (↑z.2.2.2:Nat)))=P at f e1⊢;have i:=f.get T;apply Ss (gI e1) ?_;apply kE i ?_;symm;generalize decide ((G.map λz:Lz=>((↑z.2.2.2:Nat):Int)).sum=(↑G:Int))=sl;have X:∀I:ϊ<|ϊ Nat,(∀w∈I,↑w<=4)->(I.map List.length).sum<=4*↑I:=λI=>by induction I with|nil=>simp|cons w r ih=>
   intro h;have a1:=ih λv mv=>h v<|Ê _ mv;have a2:=h w Ì;rw[Ç,ğ,í];rfl'
 have fr:∀{B:Hp},Same H B->(gi K) [.str<|tx a.dropLast] B Q E0:=λ{B} S2=>#[a.dropLast,Z,u,t,L,λr d g l s o e hl=>q r d g l (S2.trans s) o (e.up C) (Mq (n:=1) (m:=40) () x (by decide))];have sm:∀{B:Hp}(n z:Nat){m:Nat},Same H B->1<=m->m<=n->↑G<=z->n*n*(z*9)<=20000->n<=23->(gc K) [.str<|tx a.dropLast,.int (m:Nat),.non] B Q E0:=λ{B} n z {m} S2 m1 mn hz hb as=>#[a.dropLast,m,.non,[1],Z,TK,.inl #[Z,Z],u,t,L,m1,by simp,by simp,by change m*1<=23;rfl',λr d g l s o e hl=>q r d g l (S2.trans s) o (e.up C) (Mq (n:=n) (m:=z) (by rw[hl];change m*1<=n;rfl') hz hb)];apply kE i ?_;apply cM (λc7=>?_) λc7=>?_
 .symm;show kE i ?_;apply cM (λR=>?_) λR=>?_
  .symm;show cM (λc4=>?_) λc4=>?_;.symm;show jM (by rw[bY];rfl') ?_;rw[gC];apply sm (m:=2) 2 16 f (by decide) (by decide) (qcL R) (by decide) (by decide)
   .symm;show jM (by rw[bY];rfl') ?_;rw[gC];apply fr f
  .symm;show jM (by rw[bY];show jq W<|cU<|Ć x) ?_;rw[gC];apply fr f
 apply kE i ?_;apply cM (λc5=>?_) λc5=>?_;.symm;show jM (by rw[bY];rfl') ?_;rw[gC];apply#[cl,75,Z,by decide,λy _ _=>?_];let#[k,S,hk]:=Mm.bw y 3 (by decide);symm;rw[show y%3=(k:Int)from S,show(5:Int)+(k:Int)=((5+k:Nat):Int)by show Z];show sm 7 7 f (uH (ĵ 1 4) _) () (qnC c7) (by decide) (by decide)
 have zz:↑G<=4:=by show qnC c5
 walk_at "gj";walk_at "ns";with_reducible show iz (λM d=>(An2 (d=P)<|M=[!(.int cl),!(.str<|tx a),!↥lt,!(.int (w:Nat)),!(.bl sl),none])) ?_ ?_
 rotate_left
 .intro N hN;apply kE i ?_;apply cM (λc3=>?_) λc3=>?_
  .symm;show Qo (λc4=>?_) λc4=>?_;.symm;show jM (by rw[bY];show jq W<|cU<|qcL c3) ?_;rw[gC];apply#[cl,75,Z,by decide,λy _ _=>?_];let#[k,S,hk]:=Mm.bw y 9 (by decide);symm;rw[show y%9=(k:Int)from S,show(5:Int)+(k:Int)=((5+k:Nat):Int)by show Z];show sm 13 2 f (uH (ĵ 1 4) _) () (Nat.le_of_lt_succ<|Fi c3) (by decide) (by decide)
   .symm;show hN _ _ #[Z,Z]
  .symm;show hN _ _ #[Z,Z]
 rintro _ _ ⟨rfl,rfl⟩;rename_i P;apply#[cl,71,Z,by decide,λy _ _=>?_];let#[k,S,hk]:=Mm.bw y 4 (by decide);symm;rw[show y%4=(k:Int)from S,show(1:Int)+(k:Int)=((k+1:Nat):Int)by show Vc _];show cM (λc=>?_) λc=>?_;.symm;show jM (by rw[bY];rfl') ?_;rw[gC];apply fr f
 walk_at "gj";walk_at "ns";with_reducible show iz (λM d=>(An2 (d=P)<|M=[!(.int cl),!(.str<|tx a),!↥lt,!(.int (w:Nat)),!(.bl sl),!(.int ((k+1:Nat):Int))])) ?_ ?_
 rotate_left
 .intro N hN;have go:(gc K) [.str<|tx a.dropLast,.int ((k+1:Nat):Int),.non] P Q E0:=sm 4 4 f () () zz (by decide) (by decide);apply Qo (λc=>?_) λc=>?_;.symm;show jM (by rw[bY];rfl') ?_;rw[gC];apply go
  .symm;show hN _ _ #[Z,Z]
 rintro _ _ ⟨rfl,rfl⟩;rename_i P;have J:↑a<=6:=();have F:∀{n:Nat},n<=23->n*n*(↑G*9)<=20000:=λh=>Mq h zz (by decide);apply cM (λc=>?_) λc=>?_;.symm;show#[cl,a,Z,(),J,λp B I s2 ep ap Y=>?_];symm;have:=X I λw O=>(Y w O).1;show#[p,I,a,Z,gI ep,(),cU ap,b,λw O=>(Y w O).2,λr d g l s o e=>q r d g l ((f.trans s2).trans s) o e<|F e.2.1]
 apply cM (λc=>?_) λc=>?_;.symm;show jM (by rw[bY];rfl') ?_;rw[gC];symm;rw[show(1:Int)+((k+1:Nat):Int)/3=((1+(k+1)/3:Nat):Int)by show Z];show⟨cl,72,Z,by decide,λm1 _ _=>?_⟩;let#[n1,ac,aw]:=Mm.bw m1 3 (by decide);symm;rw[show m1%3=(n1:Int)from ac];apply⟨cl,73,Z,by decide,λm2 _ _=>?_⟩;let#[n2,ad,ax]:=Mm.bw m2 1001 (by decide);symm;rw[show m2%1001=(n2:Int)from ad];symm;intro tw am;apply⟨a.dropLast,1+(k+1)/3,↥tw,[1+(n1:Int),(n2:Int)],Z,TK,.inr ⟨tw,Z,gL aj⟩,u,t,L,œ 1<|(_+1)/3,by simp,λw O=>by simp only[Å,Ú,þ]at O;rcases O with rfl|rfl<;>rfl',by change(1+(k+1)/3)*2<=23;rfl',λr d g l s o e hl=>q r d g l ((f.new am).trans s) o (e.up C)<|F e.2.1⟩
 apply cM (λc=>?_) λc=>?_;.symm;show#[a,2,.non,[1],Z,TK,.inl #[Z,Z],b,D,(),by decide,by simp,by simp,by decide,λr1 B d1 e1 s2 ae U ai=>?_];apply#[cl,a,2,Z,b,D,J,by decide,by decide,λr2 H3 d2 e2 s3 af ag al=>?_];symm;let#[g1,w1]:=U.gd () b;let#[g2,w2]:=ag.gd () b;show#[r1,r2,d1,d2,e1,e2,a,Z,ae.same s3,af,g1,g2,w1,w2,b,λps mp q mq=>((U.2.2.1 ps mp).2 q mq).1,by rw[ai];decide,đ al,λr d g l s o e=>q r d g l (((f.trans s2).trans s3).trans s) o e<|F e.2.1]
 apply#[cl,74,Z,by decide,λy _ _=>?_];let#[k2,ab,av]:=Mm.bw y 3 (by decide);symm;rw[show y%3=(k2:Int)from ab,show(1:Int)+(k2:Int)=((k2+1:Nat):Int)by show Vc _];show#[cl,a,k2+1,Z,b,D,J,ĵ 1 _,(),λr d g l s o e _=>q r d g l (f.trans s) o e<|F e.2.1]
noncomputable abbrev Xj(zs:ϊ Lz):ϊ (Key×V):=zs.map λz:Lz=>((Sum.inr z.2.1:Key),↥z.2.2.1)
noncomputable abbrev j5(zs:ϊ Lz):ϵ:=zs.map λz:Lz=>(z.2.1,z.2.2.2)
def Rd.same{u:HO}(h:Rd H a u)(s:Same H H'):Rd H' a u:=h.elim (λh=>.inl<|s.get h) λ⟨o,h⟩=>.inr #[o,s.get h]
inductive eS(K:Ϗ)(vs:ϊ V)(H:Hp)(Q:VK)(E:XK):Prop|mk (b d:ό) (c:ϊ Lz) (a:L2S) (e:ϊ Int) (r:Nat) (f:vs=[.ref b,.int (r:Nat),.ref d]) (g:HsT K H b a e) (h:r<↑a) (i:(∀ps∈a,↑ps<=1000)) (j:Rd H d (.dK (Xj c))) (k:∀p H' (us:ϊ Dz),Same H H'->H p=none->H' p=!(.lst (us.map λz:Dz=>V.ref z.1))->(∀z∈us,H' z.1=!(.tup [.str z.2.1,.int z.2.2]))->us.map (·.2)=(a.getD r []).filter (λq=>(Fo.lk (j5 c) q.1).isSome)->Q (.ref p) H')
abbrev Ms K(E:XK)(Eh:XK):=(aW<|kJ [none,!2] (ph K<|aM (gK K) (tX K aU 0) bc) (ak 0) (tB<|Dv (tX K aU 0) bc) aU)
abbrev Al:ϊ ϐ:=sN ["house","room","known"]
theorem Xk(h:eS K vs H Q E):RG (Ms K E) Al vs H Q:=by
 let#[U,d,m,D,S,r,rfl,L,w,n,M,q]:=h;show#[E0,?_];let#[R,e,x,G,f,I,J,T]:=L;have o:r<↑x:=by rw[<-f,Qb]at w;show w
 let#[b,a]:∃b,x[r]?=!b:=#[_,Zl o];have g:D[r]?=!b.2:=by rw[<-f,Á,a];rfl
 let#[l,t,A,B]:=J b<|Yf a;have N:=n b.2<|Yf g;rw[<-t,Qb]at N;apply dN G ?_;apply dZ (gL I) (aO (j:=r) (v:=↥b.1)<|by rw[Á,a];rfl) ?_;show Vq (λz:Dz=>↥z.1) (zs:=l) (gL A) () (λk i C=>(An2 (C=H) (i=((l.take k).filter λz:Dz=>(Fo.lk (j5 m) z.2.1).isSome).map λz:Dz=>↥z.1))) #[Z,Z] ?_ ?_ ?_ ?_;.rintro k i _ ⟨rfl,_⟩;show gL A
 .rintro k i _ ⟨rfl,rfl⟩;rw[Qb];show Í (Ħ _ _)<|by rw[Ñ];show Nat.min_le_left _ _
 .rintro k z i _ u ⟨rfl,rfl⟩;have O:=B z<|Yf u;apply dN O ?_;apply#[d,_,Z,DGet.r (k:=Sum.inr z.2.1) M,?_];rw[Ð,u,ŵ,Â];cases c:Fo.lk (j5 m) z.2.1 with
  |none=>rw[QB c];apply#[Z,by simp[c]]|some co=>let#[y,_,_,F]:=qm c;rw[F];apply#[_,Z,Z,by simp[c]]
 .rintro i _ ⟨rfl,rfl⟩ p s;rw[à];apply q p _ (l.filter λz:Dz=>(Fo.lk (j5 m) z.2.1).isSome) (ao s _) s aj (λz P=>aF s<|B z (ò.mp P).1) ?_;rw[Xs,g,<-t];change _=List.filter _ (l.map (·.2));rw[List.filter_map];rfl
noncomputable def tV:ύ Nat->V
 |none=>.non|some d=>.int (d:Nat)
noncomputable def Fe:ϊ (ύ Nat)->Nat
 |[]=>0
 |none::r=>Fe r|some _::r=>Fe r+1
noncomputable def CP(n:Nat):ϊ (ύ Nat)->Nat
 |[]=>0|none::r=>n+CP n r|some d::r=>d+CP n r
theorem nO:∀fs,Fe fs<=↑fs
 |[]=>Ã _|none::r=>by have:=nO r;change Fe r<=↑r+1;show uH this _|some _::r=>by have:=nO r;change Fe r+1<=↑r+1;show Ć this
theorem vy(v:Nat):∀(fs:ϊ<|ύ Nat)(i:Nat)(o:ύ Nat),fs[i]?=!o->Fe (fs.set i !v)=Fe fs+(if o=none then 1 else 0)
 |[],i,o,h=>by simp at h|none::r,0,o,h=>by cases h;rfl
 |some d::r,0,o,h=>by cases h;rfl|none::r,i+1,o,h=>by change Fe (r.set i !v)=Fe r+_;show vy v r i o (by simpa using h)|some d::r,i+1,o,h=>by change Fe (r.set i !v)+1=Fe r+1+_;have:=vy v r i o (by simpa using h);rfl'
theorem vz(n v:Nat):∀(fs:ϊ<|ύ Nat)(i:Nat)(o:ύ Nat),fs[i]?=!o->CP n (fs.set i !v)+o.getD n=CP n fs+v
 |[],i,o,h=>by simp at h|none::r,0,o,h=>by cases h;change v+CP n r+n=n+CP n r+v;rfl'|some d::r,0,o,h=>by cases h;change v+CP n r+d=d+CP n r+v;rfl'|none::r,i+1,o,h=>by change n+CP n (r.set i !v)+_=n+CP n r+v;have:=vz n v r i o (by simpa using h);rfl'|some d::r,i+1,o,h=>by change d+CP n (r.set i !v)+_=d+CP n r+v;have:=vz n v r i o (by simpa using h);rfl'
structure FrI(ls:ϵ)(ds:L2S)(es:ϊ Int)(fs:ϊ (ύ Nat)):Prop where
 len:↑fs=↑ds
 bnd:∀(r d:Nat),fs[r]?=!(!d)->d<Fe fs
 snd:∀(r d:Nat),fs[r]?=!(!d)->(d=0/\(r:Int)∈es)\/∃w∈aJ ls<|ds.getD r [],∃d',fs[w.2.2.toNat]?=!(!d')/\d'<d
 ends:∀r:Nat,(r:Int)∈es->∃d,fs[r]?=!(!d)
structure FrD(ls:ϵ)(ds:L2S)(es:ϊ Int)(fs:ϊ (ύ Nat)):Prop extends FrI ls ds es fs where
 cpl:∀r:Nat,r<↑ds->∀w∈aJ ls<|ds.getD r [],(∃d',fs[w.2.2.toNat]?=!(!d'))->∃d,fs[r]?=!(!d)
theorem FrI.put{u:ϊ Int}{b:ϊ (ύ Nat)}(F:FrI t ds u b){d':Nat}(l:b[r]?=!o)(s:∀d,o=!d->d'+1<d)(D:w∈aJ t (ds.getD r []))(y:b[w.2.2.toNat]?=!(!d')):FrI t ds u (b.set r !(d'+1))/\CP ↑ds (b.set r !(d'+1))<CP ↑ds b:=by
 have h:r<↑b:=(À.mp l).1;have m:=vy (d'+1) b r o l;have x:=vz ↑ds (d'+1) b r o l;have B:=F.bnd _ _ y;have q:=nO b;rw[F.len]at q;have i:∀(j e:Nat),b[j]?=!(!e)->∃f,(b.set r !(d'+1))[j]?=!(!f)/\f<=e:=λj e a=>by
  rw[Ĳ];by_cases c:r=j;.subst c;rw[l]at a;cases a;rw[β Z,β h];show#[d'+1,Z,by have:=s e Z;show â this]
  .rw [γ c];show#[e,a,Ã _]
 show#[#[by rw[Ŷ,F.len],λj e a=>?_,λj e a=>?_,λj a=>?_],?_]
 .rw [Ĳ]at a;by_cases c:r=j;.subst c;rw[β Z,β h]at a;cases a;cases o with|none=>rw[β Z]at m;show Õ B (RV m)|some d=>rw[γ (by simp)]at m;have:=s d Z;have:=F.bnd _ _ l;rfl'
  .rw [γ c]at a;have:=F.bnd j e a;rfl'
 .rw [Ĳ]at a;by_cases c:r=j;.subst c;rw[β Z,β h]at a;cases a;let#[f,g,p]:=i _ _ y;show Or.inr #[w,D,f,g,Õ p (RV Z)]
  .rw [γ c]at a;rcases F.snd j e a with g|⟨v,mv,f,g,p⟩;.show Or.inl g
   .obtain ⟨n,z,A⟩:=i _ _ g;show Or.inr #[v,mv,n,z,Õ A p]
 .obtain ⟨d,C⟩:=F.ends j a;let#[f,g,_]:=i j d C;show#[f,g]
 .cases o with|none=>change _+↑ds=_ at x;have k:=nO (b.set r !(d'+1));rw[Ŷ,F.len]at k;rw[β Z]at m;rfl'|some d=>change _+d=_ at x;have:=s d Z;rfl'
def Xl(ls:ϵ)(ds:L2S)(es:ϊ Int):Nat->Nat->Prop
 |0,r=>(r:Int)∈es|k+1,r=>∃w∈aJ ls<|ds.getD r [],Xl ls ds es k w.2.2.toNat
def Mt(ls:ϵ)(ds:L2S)(es:ϊ Int)(k r:Nat)(fs:ϊ<|ύ Nat):Prop:=Xl ls ds es k r->∃d,d<=k/\fs[r]?=!(!d)
theorem Xm{a:ϊ<|ύ Nat}{v:Nat}{o:ύ Nat}(f:a[r]?=!o)(g:∀d,o=!d->v<=d){k:Nat}(h:∃d,d<=k/\a[j]?=!(!d)):∃d,d<=k/\(a.set r !v)[j]?=!(!d):=by
 let#[d,b,e]:=h;rw[Ĳ];by_cases c:r=j;.subst c;rw[β Z,β (À.mp f).1];rw[f]at e;show#[v,Í (g d<|Ý e) b,Z]
 .rw [γ c];show#[d,b,e]
structure FrX(ls:ϵ)(ds:L2S)(es:ϊ Int)(fs:ϊ (ύ Nat)):Prop extends FrD ls ds es fs where nxt:∀(r d:Nat),fs[r]?=!(!(d+1))->∃w∈aJ ls (ds.getD r []),fs[w.2.2.toNat]?=!(!d)
theorem FrX.of{p:ϊ Int}{b:ϊ<|ύ Nat}(F:FrI l ds p b)(v:∀ps∈ds,∀q∈ps,0<=q.2/\q.2<↑ds)(t:∀k,k<=↑ds->∀r,r<↑ds->Mt l ds p k r b):FrX l ds p b:=by
 have y:∀(n d r:Nat),d<=n->b[r]?=!(!d)->∃k,k<=d/\Xl l ds p k r:=λn=>by induction n with
  |zero=>
   intro d r G e;rcases F.snd r d e with⟨rfl,h⟩|⟨_,_,_,_,h⟩;.show #[0,Ã _,h]
   .rfl'|succ n ih=>
   intro d r G e;rcases F.snd r d e with⟨rfl,h⟩|⟨w,a,o,s,g⟩;.show #[0,Ã _,h]
   .obtain ⟨k,f,c⟩:=ih o w.2.2.toNat () s;show#[k+1,Í (Ć f) g,w,a,c]
 have j:∀r d,b[r]?=!(!d)->d<↑ds/\r<↑ds:=λr d e=>by have s:=F.bnd r d e;have g:=nO b;have D:=(À.mp e).1;have u:=F.len;rfl'
 have x:∀r,∀w∈aJ l<|ds.getD r [],w.2.2.toNat<↑ds:=λr w a=>by
  let#[q,m,C]:=é.mp<|show w∈(ds.getD r []).filterMap _ from a;let#[L,_,rfl]:=Î.mp C;rw[Xs]at m;cases e:ds[r]?with
  |none=>rw[e]at m;cases m|some ps=>rw[e]at m;have:=v ps (Yf e) q m;change q.2.toNat<_;show HX this
 show {F with cpl:=λr H w a ⟨o,i⟩=>?_,nxt:=λr d e=>?_ };.obtain ⟨k,f,c⟩:=y o o _ (Ã _) i;let#[d,_,h]:=t (k+1) (by have:=(j _ _ i).1;show Í (Ć f) this) r H #[w,a,c];show#[d,h]
 .obtain ⟨K,A⟩:=j r _ e;let#[k,f,c]:=y _ _ r (Ã _) e;let#[M,s,g]:=t k (Í f<|â K) r A c;rw[e]at g;cases g;obtain rfl:k=d+1:=by show Ż f s
  let#[w,a,I]:=c;let#[B,D,u]:=t d () _ (x r w a) I;let#[J,O,E]:=y _ _ _ (Ã _) u;let#[N,P,z]:=t (J+1) () r A #[w,a,E];rw[e]at z;cases z;obtain rfl:B=d:=();show#[w,a,u]
inductive cE(K:Ϗ)(vs:ϊ V)(H:Hp)(Q:VK)(E:XK):Prop|mk (c d:ό) (e:ϊ Lz) (a:L2S) (b:ϊ Int) (f:vs=[.ref c,.ref d]) (g:HsT K H c a b) (h:Rd H d (.dK (Xj e))) (i:(1<=↑a/\↑a<=40)) (j:(∀ps∈a,↑ps<=1000)) (k:(∀ps∈a,∀q∈ps,0<=q.2/\q.2<↑a)) (l:(∀x∈b,0<=x/\x<↑a)) (m:∀p H' fs,Same H H'->H p=none->H' p=!(.lst (fs.map tV))->FrX (j5 e) a b fs->Q (.ref p) H')
abbrev Mu K:=(aA (cH (fO<|cA<|eF K<|tX K aU 0) (ak 3)<|cH (fO<|cA<|eF K<|tX K aU 0) (ak 4)<|cH (cC K<|bB (eS K)<|kW aU dF bc) (gr K 2<|bf (ak 5)<|bf (ak 6) gF)<|bD (kh (aN<|aM lB (aM (cD K) bT ie)<|tC V.non)<|Nz (aN<|aM iJ (aM (cD K) bT dF)<|tC V.non)<|aN<|aM kj (aM (cD K) bT dF)<|aM b7 (aM (cD K) bT ie)<|tI 1) (aL (aM b7 (aM (cD K) bT ie)<|tI 1)<|Fy bT dF rK) aR)
  (aW bT))
abbrev Mv K(E:XK)(Eh:XK):=(aA (aL (kJ [none,!0] (fO<|cA<|eF K<|tX K aU 0) (ak 0) dJ<|XC (aN<|aM (Ol K false) aU<|tX K bc 1) (tI 0)<|tC V.non)<|ak 2)
  (Mu K))
abbrev Am:ϊ ϐ:=sN ["house","known","deep","turn","room","sign","other"]
theorem Xn(h:cE K vs H Q E):RG (Mv K E) Am vs H Q:=by
 let#[ha,sa,n,f,g,rfl,hH,av,#[bd,T],ay,ap,a7,q]:=h;show#[E0,?_];let#[hd,he,rs,a1,a2,a3,a4,a5]:=id hH;have af:↑rs=↑f:=by rw[<-a2,Qb]
 apply dN a1 ?_;apply cu (gL a3) ?_;rw[Qb,af];apply RZ ↑f (Ó _) (cU T) (yo _) (λr=>tV<|if(r:Int)∈g then !0 else none) (λr D A kA=>?_) λl ae=>?_
 .symm;show cZ a1 ?_;apply Es (.inr<|gL a5) Z (iV _) ?_;rw[jX];by_cases c:(r:Int)∈g;.rw [β c]at kA;rw[Ô c];apply kA
  .rw [γ c]at kA;rw[Ü c];apply kA
 let#[u,F]:∃u:ϊ<|ύ Nat,u=(List.range ↑f).map λr:Nat=>if(r:Int)∈g then !0 else none:=#[_,Z];have ab:Sb [l] H (upd H l<|.lst ((List.range ↑f).map λr:Nat=>tV<|if(r:Int)∈g then !0 else none)):=Sb.of<|ao ae _;have ac:upd H l (.lst ((List.range ↑f).map λr:Nat=>tV<|if(r:Int)∈g then !0 else none)) l=!(.lst<|u.map tV):=by rw[aj,F,Ä];rfl
 generalize upd H l (.lst ((List.range ↑f).map λr:Nat=>tV<|if(r:Int)∈g then !0 else none))=H1 at ab ac⊢;have hf:∀(j:Nat) o,u[j]?=!o->j<↑f/\o=if(j:Int)∈g then !0 else none:=λj o ho=>by rw[F,Á]at ho;let#[i,e1,e2]:=Î.mp ho;let#[hj,e3]:=À.mp e1;rw[List.getElem_range]at e3;rw[ê]at hj;subst e3;show#[hj,e2.symm]
 have am:∀j:Nat,j<↑f->u[j]?=!(if(j:Int)∈g then !0 else none):=λj hj=>by rw[F,Á,Ũ hj];rfl
 have hE:∀r:Nat,(r:Int)∈g->u[r]?=!(!0):=λr mr=>by have D:=a7 _ mr;rw[am r (),β mr]
 have al:FrI (j5 n) f g u:=by
  show#[by rw[F,Qb,ê],λr d D=>?_,λr d D=>?_,λr mr=>#[0,hE r mr]]
  .have ax:∀(a:ϊ<|ύ Nat)(r d:Nat),a[r]?=!(!d)->0<Fe a:=λa=>by induction a with
    |nil=>intro r d h;simp at h|cons x a ih=>
     intro r d h;cases x with|some _=>show Nat.succ_pos _|none=>cases r with
      |zero=>cases h|succ r=>show ih r d<|by simpa using h
   have:=ax u r d D;let#[_,C]:=hf r _ D;by_cases c:(r:Int)∈g;.rw [β c]at C;cases C;show this
   .rw [γ c]at C;cases C
  .obtain ⟨_,C⟩:=hf r _ D;by_cases c:(r:Int)∈g;.rw [β c]at C;cases C;show Or.inl #[Z,c]
   .rw [γ c]at C;cases C
 have ai:∀k,k<=0->∀r,r<↑f->Mt (j5 n) f g k r u:=λk hk r D G=>by
  obtain rfl:k=0:=by show XQ hk
  show#[0,Ã _,hE r G]
 have X:∀p'∈[l],H p'=none:=λp' a8=>by rw[Zs.mp a8];show ae
 have S1:=ab.off X;clear hf am hE F;apply dN (S1.get a1) ?_;apply cu (gL<|S1.get a3) ?_;rw[Qb,af];apply m8 ↑f (Ó _) (cU T) (yo _) (λt R S=>(Ex5 λ(a:ϊ<|ύ Nat) (o3 o4 N O:ύ V)=>(An5 (Sb [l] H S) (S l=!(.lst<|a.map tV)) (FrI (j5 n) f g a) (∀k,k<=t->∀r,r<↑f->Mt (j5 n) f g k r a)<|R=[!↥ha,!↥sa,!↥l,o3,o4,N,O]))) #[u,_,_,_,_,ab,ac,al,ai,Z] ?_ ?_
 .clear ab ac al ai S1;rintro t R H2 ht ⟨a,o3,o4,N,O,B,m,J,I,rfl⟩;have S2:=B.off X;apply dN (S2.get a1) ?_;apply cu (gL<|S2.get a3) ?_;rw[Qb,af];apply m8 ↑f (Ó _) (cU T) (yo _) (λi R S=>(Ex4 λ(a:ϊ<|ύ Nat) (o4 N O:ύ V)=>(An6 (Sb [l] H S) (S l=!(.lst<|a.map tV)) (FrI (j5 n) f g a) (∀k,k<=t->∀r,r<↑f->Mt (j5 n) f g k r a) (∀r,r<i->Mt (j5 n) f g (t+1) r a)<|R=[!↥ha,!↥sa,!↥l,!(.int (t:Nat)),o4,N,O]))) #[a,_,_,_,B,m,J,I,λr D=>μ D<|Nat.not_lt_zero _,Z] ?_ ?_
  .clear B m J I S2;rintro i R H3 hi ⟨a,o4,N,O,B,m,J,I,hN,rfl⟩;have S3:=B.off X;apply#[ha,sa,n,f,g,i,Z,hH.same S3,hi,ay,Rd.same av S3,λp H4 P s4 hp ep y ah=>?_];have bb:p≠l:=nj m hp;replace B:=B.same s4;replace m:=s4.get m;clear s4 S3 hp;show gn (λz:Dz=>↥z.1) (zs:=P) (gI ep) (λj R S=>(Ex3 λ(a:ϊ<|ύ Nat) (N O:ύ V)=>(An9 (Sb [l] H S) (S l=!(.lst<|a.map tV)) (S p=!(.lst (P.map λz:Dz=>↥z.1))) (∀z∈P,S z.1=!(.tup [.str z.2.1,.int z.2.2])) (FrI (j5 n) f g a) (∀k,k<=t->∀r,r<↑f->Mt (j5 n) f g k r a) (∀r,r<i->Mt (j5 n) f g (t+1) r a) (∀z∈P.take j,Xl (j5 n) f g t z.2.2.toNat->∃d,d<=t+1/\a[i]?=!(!d))<|R=[!↥ha,!↥sa,!↥l,!(.int (t:Nat)),!(.int (i:Nat)),N,O]))) #[a,_,_,B,m,ep,y,J,I,hN,λz mz=>(by cases mz),Z] ?_ ?_ ?_;.rintro j R S ⟨_,_,_,_,_,e,_⟩;show gI e
   .clear B m ep y J I hN;rintro j ⟨b,s,L⟩ R M hj ⟨a,N,O,B,m,ep,y,J,I,hN,hU,rfl⟩;have mz:=Yf hj;have tz:=y _ mz;dsimp only at tz;have mq:(s,L)∈P.map (·.2):=Zp.mpr #[_,mz,Z];rw[ah]at mq;let#[ag,a9]:=ò.mp mq;let#[co,ad]:=Ť.mp a9;have mw:(s,co,L)∈aJ (j5 n) (f.getD i []):=é.mpr #[(s,L),ag,by rw[ad];rfl];have zz:0<=L/\L<↑f:=by rw[Xs,Zl hi]at ag;show ap _ (Ø hi) _ ag
    have U:=J.len;let#[ot,W]:∃o,a[L.toNat]?=!o:=#[_,Zl<|qN (HX zz) U];let#[oi,Y]:∃o,a[i]?=!o:=#[_,Zl<|qN hi U];have it:∀{Q:VK},Q (tV ot) M->cD K ↥l (.int L) M Q:=λhQ=>by rw[show L=((L.toNat:Nat):Int)by rfl'];show dM (gI m) (aO (j:=L.toNat) (v:=tV ot)<|by rw[Á,W];rfl) hQ
    have ii:∀{Q:VK},Q (tV oi) M->cD K ↥l (.int (i:Nat)) M Q:=λhQ=>dM (gI m) (aO (j:=i) (v:=tV oi)<|by rw[Á,Y];rfl) hQ;have aw:P.take (j+1)=P.take j++[(b,s,L)]:=by rw[Ð,hj];rfl
    have fin:∀{gs:ϊ<|ύ Nat},(∀{k r:Nat},(∃d,d<=k/\a[r]?=!(!d))->∃d,d<=k/\gs[r]?=!(!d))->(Xl (j5 n) f g t L.toNat->∃d,d<=t+1/\gs[i]?=!(!d))->(∀k,k<=t->∀r,r<↑f->Mt (j5 n) f g k r gs)/\(∀r,r<i->Mt (j5 n) f g (t+1) r gs)/\(∀z∈P.take<|j+1,Xl (j5 n) f g t z.2.2.toNat->∃d,d<=t+1/\gs[i]?=!(!d)):=λlo ar=>by
     show#[λk hk r D G=>lo<|I k hk r D G,λr D G=>lo<|hN r D G,λz mz G=>?_];rw[aw]at mz;rcases Æ.mp mz with mz|mz;.show lo<|hU z mz G
     .rw [Zs.mp mz]at G;show ar G
    have as:∀{d':Nat},ot=!d'->(∀d,oi=!d->d'+1<d)->(Ex3 λ(gs:ϊ<|ύ Nat) (N O:ύ V)=>(An9 (Sb [l] H<|upd M l<|.lst<|(a.map tV).set i<|.int<|(d':Int)+1) (upd M l (.lst<|(a.map tV).set i<|.int<|(d':Int)+1) l=!(.lst<|gs.map tV)) (upd M l (.lst<|(a.map tV).set i<|.int<|(d':Int)+1) p=!(.lst (P.map λz:Dz=>↥z.1))) (∀z∈P,upd M l (.lst<|(a.map tV).set i<|.int<|(d':Int)+1) z.1=!(.tup [.str z.2.1,.int z.2.2])) (FrI (j5 n) f g gs) (∀k,k<=t->∀r,r<↑f->Mt (j5 n) f g k r gs) (∀r,r<i->Mt (j5 n) f g (t+1) r gs) (∀z∈P.take<|j+1,Xl (j5 n) f g t z.2.2.toNat->∃d,d<=t+1/\gs[i]?=!(!d))<|[!↥ha,!↥sa,!↥l,!(V.int (t:Nat)),!(V.int (i:Nat)),!(V.str s),!(V.int L)]=[!↥ha,!↥sa,!↥l,!(.int (t:Nat)),!(.int (i:Nat)),N,O])):=λ{d'} e ho=>by
     subst e;let#[g1,_]:=J.put (d':=d') (w:=(s,co,L)) Y ho mw W;let#[f1,f2,f3]:=fin (gs:=a.set i !(d'+1)) (λh=>Xm Y (λd hd=>by have:=ho d hd;rfl') h) λG=>by let#[e1,h1,C]:=I t (Ã _) _ (HX zz) G;rw[W]at C;cases C;show#[d'+1,Ć h1,by rw[Ĳ,β Z,β<|qN hi U]]
     show#[_,_,_,B.set Ì,by rw[aj,List.map_set];rfl,by rw[aq bb];show ep,λz mz=>by rw[aq<|dm (y z mz) m<|λz=>by cases z];show y z mz,g1,f1,f2,f3,Z]
    show cN (gL tz) Z ?_;apply it ?_;symm;cases ot with
    |none=>
     show iu Z ?_;symm;let#[f1,f2,f3]:=fin (gs:=a) (λh=>h) λG=>by
      let#[e1,h1,C]:=I t (Ã _) _ (HX zz) G;rw[W]at C;cases C
     show#[a,_,_,B,m,ep,y,J,f1,f2,f3,Z]|some d'=>
     show m6 (λ_=>?_) λd=>nomatch d;replace it:∀{Q:VK},Q (V.int (d':Nat)) M->cD K ↥l (.int L) M Q:=it;apply ii ?_;symm;cases oi with
     |none=>show m7 Z ?_;apply it ?_;apply qi i m Z (by rw[Qb];show qN hi U) ?_;apply as Z (by simp)|some d=>
      replace ii:∀{Q:VK},Q (V.int (d:Nat)) M->cD K ↥l (.int (i:Nat)) M Q:=ii;show gW (by intro z;cases z) ?_;apply ii ?_;apply it ?_;apply cM (λc=>?_) λc=>?_;.symm;show it ?_;apply qi i m Z (by rw[Qb];show qN hi U) ?_;apply as Z<|λe a6=>by cases a6;show Fi c
      .symm;let#[f1,f2,f3]:=fin (gs:=a) (λh=>h) λG=>by
        let#[e1,h1,C]:=I t (Ã _) _ (HX zz) G;rw[W]at C;cases C;show#[d,(),Y]
       show#[a,_,_,B,m,ep,y,J,f1,f2,f3,Z]
   .rintro R M ⟨a,N,O,B,m,ep,y,J,I,hN,hU,rfl⟩;rw[à]at hU;show#[a,_,_,_,B,m,J,I,λr D=>?_,Z];rcases Μ r i with c|c;.show hN r c
    .obtain rfl:r=i:=by show Ż (Nat.le_of_lt_succ D) c
     rintro⟨w,mw,G⟩;let#[q',mq,eq]:=é.mp<|show w∈(f.getD r []).filterMap _ from mw;let#[co,ad,rfl]:=Î.mp eq;have:q'∈P.map (·.2):=by rw[ah];show ò.mpr #[mq,by rw[ad];rfl]
     let#[z,mz,rfl]:=Zp.mp this;show hU z mz G
  .rintro R H3 ⟨a,o4,N,O,B,m,J,I,hN,rfl⟩;show#[a,_,_,_,_,B,m,J,λk hk r D=>?_,Z];rcases Μ t k with c|c
   .obtain rfl:k=t+1:=by show Ż hk c
    show hN r D
   .show I k c r D
 .rintro R H2 ⟨a,o3,o4,N,O,B,m,J,I,rfl⟩;apply q l H2 a (B.off X) ae m<|FrX.of J ap I
theorem vA{b:ϵ}:∀{p:ϳ}{r r':Nat}{w:ϴ},Gw b a r p r'->r'<↑a->Hs.dr (a.getD r' []) w.1=!w.2.2->Fo.lk b w.1=!w.2.1->0<=w.2.2->Gw b a r (p++[w]) w.2.2.toNat
 |[],_,_,_,h,h1,h2,h3,h4=>by cases h;show#[h1,h2,h3,h4,Z]|_::_,_,_,_,⟨a1,a2,a3,a4,g⟩,h1,h2,h3,h4=>#[a1,a2,a3,a4,vA g h1 h2 h3 h4]
theorem CQ{b:ϊ Int}{c:ϊ<|ύ Nat}(F:FrD e a b c):∀{p:ϳ}{r R:Nat},Gw e a r p R->(R:Int)∈b->∃d,c[r]?=!(!d)
 |[],_,_,h,m=>by cases h;show F.ends _ m|w::_,_,_,⟨a1,a2,a3,_,g⟩,m=>F.cpl _ a1 w (é.mpr #[_,Hs.ql a2,by rw[a3];rfl])<|CQ F g m
noncomputable def Fl(fs:ϊ<|ύ Nat)(z:Dz):ϑ:=((fs[z.2.2.toNat]?).getD none).isSome
inductive bE(K:Ϗ)(vs:ϊ V)(H:Hp)(Q:VK)(E:XK):Prop|mk (a g d:ό) (h:ϊ Int) (e:ϊ Lz) (b:L2S) (f:ϊ Int) (m:vs=[.ref a,.ref g,.ref d]) (n:SqL K H a (h.map V.int)) (o:↑h<=63) (r:HsT K H g b f) (s:H d=!(.dK (Xj e))) (t:(e.map (·.2.1)).Nodup) (u:(∀z∈e,H z.2.2.1=!(.lst (nv z.2.2.2))/\↑z.2.2.2<=8)) (v:1<=↑e) (w:↑e<=40) (y:(1<=↑b/\↑b<=40)) (i:(∀ps∈b,↑ps<=1000/\(ps.map (·.1)).Nodup/\∀q∈ps,(∃c,q.1=tx [c])/\0<=q.2/\q.2<↑b)) (j:(∀x∈f,0<=x/\x<↑b)) (k:((∀p R,Gw (j5 e) b 0 p R->(R:Int)∉f)->∀H',Same H H'->Q .non H')) (l:∀H' p cs R,Sb [d] H H'->Rd H' d (.dK (Xj e))->Gw (j5 e) b 0 p R->(R:Int)∈f->p.map (·.1)=cs.map (λc=>tx [c])->↑p<=100->Q (.str (tx cs)) H')
abbrev Mw K:=(aA (aL (kJ [none,!3] (cC K<|bB (eS K)<|kW bc dF bT) (ak 0) (aN<|aM lB (aM (cD K) bc<|tX K aU 1)<|tC V.non) aU)<|ak 8)
  (bD (aN<|aM kj (eF K xR)<|tI 0) (aA (aL (aM (cD K) xR<|aM bL (bB (eE K)<|bF (aM (cD K) aU oW)<|tI 80)<|eF K xR)<|ak 9)
  (aA (aL (aM dG gB<|tX K yr 0)<|ak 5)
  (aL (tX K yr 1)<|ak 4))) aR))
abbrev Mx K:=(aA (aL (aM (cD K) (kJ [none,!3,!4] (cC K<|bB (eS K)<|kW bc dF bT) (ak 0) (aN<|aM ou (aM (cD K) bc<|tX K aU 1)<|aM su (aM (cD K) bc bT)<|tI 1) aU)<|tI 0)<|ak 9)
  (aA (aL (aM dG gB<|tX K yr 0)<|ak 5)
  (aL (tX K yr 1)<|ak 4)))
abbrev My K:=(aA (aL (gw (Bu K)<|cA<|kJ [none,!2] (pX bT) (ak 0) dJ<|eF K<|fQ bc aU)<|ak 6)
  (aA (cH (Av<|bF (tI 4)<|gw pP<|bF (eF K aU)<|aM b7 (tI 4)<|aM pN (tI 300)<|gw yQ<|bF (tI 5) ie) (ak 7)<|Mw K)
  (aA (fZ (aN<|aM kj (aM (cD K) cG dF)<|tI 0)<|Mx K)
  (aW gB))))
abbrev Mz K(E:XK)(Eh:XK):=(aA (aL (bB (cE K)<|bF bc bT)<|ak 3)
  (aA (aL (tI 0)<|ak 4)
  (aA (aL (tC<|V.str<|Str.ofString "")<|ak 5)
  (aA (bD (aN<|aM iJ (aM (cD K) cG<|tI 0)<|tC V.non) (aW<|tC V.non) aR)
  (My K)))))
abbrev qJ:ϊ ϐ:=sN ["script","house","known","deep","room","text","wide","k","doors","door"]
theorem Xo(h:bE K vs H Q E):RG (Mz K E) qJ vs H Q:=by
 let#[a,ha,d,ns,l,G,es,rfl,hS,b2,hH,hd,b5,a2,bi,bk,#[ap,bb],ax,bq,qn,q]:=h;show#[E0,?_];have af:∀ps∈G,↑ps<=1000:=λps mp=>(ax ps mp).1;have bp:∀ps∈G,∀q∈ps,0<=q.2/\q.2<↑G:=λps mp q mq=>((ax ps mp).2.2 q mq).2;apply#[ha,d,l,G,es,Z,hH,.inl hd,#[ap,bb],af,bp,bq,λdp H1 t s1 as ai F=>?_];have av:=F.len;let#[o0,aw]:∃o,t[0]?=!o:=#[_,Zl<|qN ap av];apply oJ ai aw ?_;symm;cases o0 with
 |none=>show m7 Z ?_;apply qn (λp R zz mR=>?_) _ s1;let#[e,he]:=CQ F.toFrD zz mR;rw[aw]at he;cases he|some d0=>
  show gW (by intro z;cases z) ?_;symm;have ed:=s1.get hd;show Sw (zs:=Xj l) (.inl ed) (by rw[Qb];show cU bk) (λp=>match p.1 with|.inr s=>!(.int ((↑((Fo.lk (j5 l) s).getD []):Nat):Int))|.inl _=>none) λod H2 ag ah=>⟨λi z hz A B hA _=>?_,λwp be=>?_⟩;.rw [Á]at hz;let#[y,hy,rfl]:=Î.mp hz;have my:=Yf hy;let#[co,U]:=Fo.zJ (ls:=j5 l) (s:=y.2.1) (by rw[Ä];show Zp.mpr #[y,my,Z]);let#[u,mu,e1,e2]:=qm U;have a6:=hA _ Z;rw[U]at a6;apply#[d,↥u.2.2.1,Z,by rw[<-e2];show DGet.r (k:=Sum.inr y.2.1)<|.inr #[od,ah],?_];symm;have br:H2 u.2.2.1=!(.lst<|nv u.2.2.2):=ag.get (by simpa using dm (s1.get (a2 u mu).1) ed (λz=>by cases z))<|s1.get (a2 u mu).1;show dw (gI br) ?_;rw[Qb,e1];show a6
  have S2:∀{b:ό}{o:HO},b≠d->H b=!o->H2 b=!o:=λn e=>ag.get (by simpa using n)<|s1.get e;have a5:(Xj l).filterMap (λp:Key×V=>match p.1 with|.inr s=>!(V.int ((↑((Fo.lk (j5 l) s).getD []):Nat):Int))|.inl _=>none)=(l.map λz:Lz=>((↑((Fo.lk (j5 l) z.2.1).getD []):Nat):Int)).map V.int:=by rw[List.filterMap_map,Ä,<-List.filterMap_eq_map];rfl
  rw[a5];apply Vr (gI aj) (λe=>by rw[Τ]at e;rw[e]at bi;cases bi) λwd bl _=>?_;have b6:wd<=8:=by
   let#[z,C,rfl]:=Zp.mp bl;cases c:Fo.lk (j5 l) z.2.1 with|none=>show(by decide:(0:Int)<=8)|some co=>let#[y,my,e]:=Zp.mp<|Fo.d9 c;have:=(a2 y my).2;rw[show co=y.2.2.2 from(Ö (·.2) e).symm];change((↑y.2.2.2:Nat):Int)<=8;rfl'
  clear bl;have S3:∀{b:ό}{o:HO},H2 b=!o->upd H2 wp (.lst ((l.map λz:Lz=>((↑((Fo.lk (j5 l) z.2.1).getD []):Nat):Int)).map V.int)) b=!o:=λe=>aF be e;generalize upd H2 wp (.lst ((l.map λz:Lz=>((↑((Fo.lk (j5 l) z.2.1).getD []):Nat):Int)).map V.int))=H3 at S3⊢;have b1:∀{b:ό}{xs:ϊ V},H b=!(.lst xs)->b≠d:=λe=>dm e hd (λz=>by cases z);have J:∀{b:ό}{xs:ϊ V},H b=!(.tup xs)->b≠d:=λe=>dm e hd (λz=>by cases z);have a3:Sb [d] H H3:=λb o n e=>S3 (S2 (by simpa using n) e);have ar:Rd H3 d (.dK<|Xj l):=.inr #[od,S3 ah];have a7:HsT K H3 ha G es:=by let#[x1,x2,rs,y1,y2,y3,y4,y5]:=hH;show#[x1,x2,rs,S3<|S2 (J y1) y1,y2,S3<|S2 (J y3) y3,λr mr=>?_,S3<|S2 (J y5) y5];let#[f,u1,u2,u3]:=y4 r mr;show#[f,u1,S3<|S2 (J u2) u2,λz C=>S3<|S2 (J<|u3 z C)<|u3 z C]
  have S:H3 dp=!(.lst<|t.map tV):=S3 (ag.get (by simpa using(λe:dp=d=>by rw[e,hd]at as;cases as)) ai);have a8:SqL K H3 a (ns.map V.int):=by
   rcases hS with(h|⟨o,h⟩)|h;.show .inl (.inl (a3.get (by simpa using dm h hd (λz=>by cases z)) h))
   .show .inl (.inr #[o,a3.get (by simpa using dm h hd (λz=>by cases z)) h])
   .show .inr h
  clear S3 S2 ai s1 ag ah ed as be a5;apply dw a8 ?_;rw[Qb];symm;generalize hM:(if wd>5 then wd else 5)=M;have bn:5<=M:=by rw[<-hM];split<;>rfl'
  have bs:M<=8:=by rw[<-hM];split<;>rfl'
  have hq:300/M<61:=Int.ediv_lt_of_lt_mul () ();have bd:0<=300/M:=Int.ediv_nonneg (by decide) ();symm;generalize 300/M=qq at hq bd;clear hM bn bs;generalize hT:(if 4+qq<(↑ns:Int)then 4+qq else(↑ns:Int))=T;have a9:0<=T/\T<=↑ns/\T<=64:=by rw[<-hT];split<;>rfl'
  let#[b3,a9,b4]:=a9;clear hT hq bd;have bm:∀{R:Nat},R<↑G->G.getD R []∈G:=λ{R} L=>by rw[Xs,Zl L];show Ø L
  have ext:∀{R:Nat}{p:ϳ}{D:ϊ Nat}{f:ϊ Dz},Gw (j5 l) G 0 p R->R<↑G->p.map (·.1)=D.map (λc=>tx [c])->f.map (·.2)=(G.getD R []).filter (λq=>(Fo.lk (j5 l) q.1).isSome)->↑f<=1000/\∀z∈f,(0<=z.2.2/\z.2.2.toNat<↑G)/\∃co c,z.2.1=tx [c]/\Gw (j5 l) G 0 (p++[(z.2.1,co,z.2.2)]) z.2.2.toNat/\(p++[(z.2.1,co,z.2.2)]).map (·.1)=(D++[c]).map (λc=>tx [c]):=λ{R p D f} zz L g P=>by
   show#[?_,λz C=>?_];.have Y:=Ö List.length P;rw[Qb]at Y;have h2:=Ħ (λq:ϐ×Int=>(Fo.lk (j5 l) q.1).isSome)<|G.getD R [];have h3:=af _<|bm L;show jq Y<|Í h2 h3
   .have:z.2∈f.map (·.2):=Zp.mpr #[z,C,Z];rw[P]at this;let#[Y,h2]:=ò.mp this;let#[co,U]:=Ť.mp h2;let#[_,hn,hq]:=ax _<|bm L;let#[#[c,ec],h3,h4]:=hq _ Y;show#[#[h3,RP h3 h4],co,c,ec,vA zz L (iW hn Y) U h3,by rw[Â,Â,g];change _++[z.2.1]=_;rw[ec];rfl]
  show zH (T-4).toNat Z () () (by decide) (by decide) (λi σ H'=>(An2 (Same H3 H') (Ex7 λ(p:ϳ) (D:ϊ Nat) (R dd:Nat) (o7 o8 o9:ύ V)=>(An6 (Gw (j5 l) G 0 p R) (R<↑G) (t[R]?=!(!dd)) (p.map (·.1)=D.map (λc=>tx [c])) (↑p<=i)<|σ=[!↥a,!↥ha,!↥d,!↥dp,!(.int (R:Nat)),!(.str<|tx D),!(.int wd),o7,o8,o9])))) #[gN _,[],[],0,d0,_,_,_,Z,ap,aw,Z,Ã _,Z] ?_ ?_
  .rintro i σ H4 hi ⟨s4,p,D,R,dd,o7,o8,o9,zz,L,I,g,W,rfl⟩;apply#[ha,d,l,G,es,R,Z,a7.same s4,L,af,Rd.same ar s4,λup H5 f s5 b0 al ae P=>?_];have S5:=s4.trans s5;let#[ay,X]:=ext zz L g P;have a4:∀{z:Dz},z∈f->∃o,t[z.2.2.toNat]?=!o:=λC=>#[_,Zl (by have:=(X _ C).1.2;show qN this av)];show Sq (λz:Dz=>↥z.1) (zs:=f) (gI al) (cU ay) (λz=>if Fl t z=true then !(V.ref z.1)else none) (λj z hj A B hA hB=>?_) λdl ac=>?_
   .have C:=Yf hj;let#[o,ho]:=a4 C;have h0:=(X z C).1.1;apply cZ (ae z C) ?_;rw[show z.2.2=((z.2.2.toNat:Nat):Int)by show Eq.symm<|uG h0];show oJ (S5.get S) ho ?_;have eb:Fl t z=o.isSome:=by unfold Fl;rw[ho];rfl
    rw[eb]at hA hB;cases o with
    |none=>apply iu Z ?_;show hB (γ (by decide))|some d'=>
     apply m6 (λ_=>?_) λd=>nomatch d;apply hA _<|β Z
   rw[Mm.RN];have s6:=ao (o:=.lst ((f.filter<|Fl t).map λz:Dz=>↥z.1)) ac;have O:upd H5 dl (.lst ((f.filter<|Fl t).map λz:Dz=>↥z.1)) dl=!(.lst ((f.filter<|Fl t).map λz:Dz=>↥z.1)):=aj;generalize upd H5 dl (.lst ((f.filter<|Fl t).map λz:Dz=>↥z.1))=H6 at s6 O⊢;have S6:=S5.trans s6;apply kE O ?_;apply cM (λc=>?_) λc=>?_
   .symm;let#[x,hx]:∃x,ns[4+i]?=!x:=#[_,Zl ()];show dM (S6.seq a8) (aO (j:=4+i) (v:=.int x) (by rw[Á,hx];rfl)) ?_;apply#[_,80,Z,by decide,λmx _ _=>?_];apply kE O ?_;let#[k,ek,hk]:=Mm.bw mx ↑(f.filter<|Fl t)<|Fi c;show zM (m:=k) (Fi c) ek ?_;have a1:(f.filter<|Fl t)[k]?=!((f.filter<|Fl t)[k]):=Zl hk;generalize(f.filter<|Fl t)[k]=z at a1;let#[C,ad]:=ò.mp<|Yf a1;show oJ O a1 ?_;have tz:=s6.get<|ae z C;let#[#[h0,Y],co,c,ec,am,ab]:=X z C;let#[o,ho]:=a4 C;let#[d',rfl]:∃d',o=!d':=by unfold Fl at ad;rw[ho]at ad;show Ť.mp ad
    have bx:↑D=↑p:=by have:=Ö List.length g;rw[Qb,Qb]at this;show this.symm
    apply dN tz ?_;rw[ec];show jL (by rw[bY,bY];change↑D+1<=_;rfl') ?_;symm;rw[ec]at tz;show cZ tz ?_;apply#[S6,_,D++[c],z.2.2.toNat,d',!(.int<|4+(i:Int)),!↥dl,!↥z.1,am,Y,ho,ab,by rw[É,ã];show Ć W,?_];rw[show((z.2.2.toNat:Nat):Int)=z.2.2 by show uG h0,<-nA];rfl
   .symm;show#[S6,p,D,R,dd,_,_,_,zz,L,I,g,uH W _,Z]
  .rintro σ H4 ⟨s4,p,D,R,dd,o7,o8,o9,zz,L,I,g,W,rfl⟩;have bo:dd<40:=by have Y:=F.bnd R dd I;have h2:=nO t;rfl'
   show mC (λm σ H'=>(An2 (Same H3 H') (Ex5 λ(p:ϳ) (D:ϊ Nat) (R:Nat) (o8 o9:ύ V)=>(An6 (Gw (j5 l) G 0 p R) (R<↑G) (t[R]?=!(!m)) (p.map (·.1)=D.map (λc=>tx [c])) (↑p+m<=100)<|σ=[!↥a,!↥ha,!↥d,!↥dp,!(.int (R:Nat)),!(.str<|tx D),!(.int wd),o7,o8,o9])))) dd #[s4,p,D,R,_,_,zz,L,I,g,(),Z] ?_ ?_
   .clear zz L I g W bo s4;rintro m σ H5 N ⟨s5,p,D,R,o8,o9,zz,L,I,g,W,rfl⟩ hN;apply dM (gI<|s5.get S) (aO (j:=R) (v:=.int (m:Nat)) (by rw[Á,I];rfl)) ?_;apply cM (λc=>?_) λc=>?_
    .obtain ⟨m,rfl⟩:∃k,m=k+1:=#[m-1,Eq.symm<|qp1<|Fi c];apply#[ha,d,l,G,es,R,Z,a7.same s5,L,af,Rd.same ar s5,λup H6 f s6 b0 al ae P=>?_];have S6:=s5.trans s6;let#[ay,X]:=ext zz L g P;show Sq (λz:Dz=>↥z.1) (zs:=f) (gI al) (cU ay) (λz=>if decide (t[z.2.2.toNat]?=!(!m))=true then !(V.ref z.1)else none) (λj z hj A B hA hB=>?_) λdl ac=>?_
     .have C:=Yf hj;let#[#[h0,Y],_]:=X z C;let#[o,ho]:∃o,t[z.2.2.toNat]?=!o:=#[_,Zl<|qN Y av];rw[ho]at hA hB;apply cZ (ae z C) ?_;rw[show z.2.2=((z.2.2.toNat:Nat):Int)by show Eq.symm<|uG h0];show oJ (S6.get S) ho ?_;apply dM (gI<|S6.get S) (aO (j:=R) (v:=.int ((m+1:Nat):Int)) (by rw[Á,I];rfl)) ?_;symm;rw[show((m+1:Nat):Int)-1=(m:Int)by rfl'];show s_eq (by cases o<;>rfl) ?_;have eb:decide (tV o=V.int (m:Nat))=decide (some o=!(!m)):=by
       show decide_eq_decide.mpr #[λe=>?_,λe=>by cases e;rfl];cases o with
       |none=>cases e|some k=>rw[show k=m from by have:=V.int.inj e;show Eo this]
      rw[eb];apply cM (λc=>?_) λc=>?_;.rw [Ô c]at hA;apply hA _<|β Z
      .rw [Ü c]at hB;show hB (γ (by decide))
     rw[Mm.RN];have s7:=ao (o:=.lst ((f.filter λz:Dz=>decide<|t[z.2.2.toNat]?=!(!m)).map λz:Dz=>↥z.1)) ac;have O:upd H6 dl (.lst ((f.filter λz:Dz=>decide<|t[z.2.2.toNat]?=!(!m)).map λz:Dz=>↥z.1)) dl=!(.lst ((f.filter λz:Dz=>decide<|t[z.2.2.toNat]?=!(!m)).map λz:Dz=>↥z.1)):=aj;generalize upd H6 dl (.lst ((f.filter λz:Dz=>decide<|t[z.2.2.toNat]?=!(!m)).map λz:Dz=>↥z.1))=H7 at s7 O⊢;have S7:=S6.trans s7;let#[z,bg]:∃z,(f.filter λz:Dz=>decide<|t[z.2.2.toNat]?=!(!m))[0]?=!z:=by
      let#[w,mw,hw]:=F.nxt R m I;let#[q',mq,eq]:=é.mp<|show w∈(G.getD R []).filterMap _ from mw;let#[co,U,rfl]:=Î.mp eq;have:q'∈f.map (·.2):=by rw[P];show ò.mpr #[mq,by rw[U];rfl]
      let#[z,C,rfl]:=Zp.mp this;have mf:z∈f.filter λz:Dz=>decide (t[z.2.2.toNat]?=!(!m)):=ò.mpr #[C,Ô hw];show#[_,Zl<|ġ mf]
     let#[C,ad]:=ò.mp<|Yf bg;have ho:=ô ad;apply oJ O bg ?_;have tz:=s7.get<|ae z C;let#[#[h0,Y],co,c,ec,am,ab]:=X z C;have bx:↑D=↑p:=by have:=Ö List.length g;rw[Qb,Qb]at this;show this.symm
     rw[ec]at tz;apply dN tz ?_;show jL (by rw[bY,bY];change↑D+1<=_;rfl') ?_;apply cZ tz ?_;apply hN m _ _ (Ĕ _) #[S7,_,D++[c],z.2.2.toNat,o8,!↥z.1,am,Y,ho,ab,by rw[É,ã];rfl',?_];rw[show((z.2.2.toNat:Nat):Int)=z.2.2 by show uG h0,<-nA];rfl
    .obtain rfl:m=0:=by show qn1 c
     symm;have bv:(R:Int)∈es:=by
      rcases F.snd R 0 I with⟨_,h⟩|⟨_,_,_,_,h⟩;.show h
      .rfl'
     show q H5 p D R (λb o n e=>s5.get<|a3 b o n e) (Rd.same ar s5) zz bv g W
   .rintro σ H Q Q' hq ⟨v,hv,w,hw,p,xs,i,u,e1,e2,e3,e4,i',j',e5,e6,k,e7,z⟩;show#[v,hv,w,hw,p,xs,i,u,e1,e2,e3,e4,i',j',e5,e6,k,e7,hq _ _ z]
def oI:ύ Int->V
 |none=>.non|some i=>.int i
inductive bX(K:Ϗ)(vs:ϊ V)(H:Hp)(Q:VK)(E:XK):Prop|mk (a f:ό) (e:ϊ Int) (c:ϊ Nat) (b:Nat) (d:ύ Int) (g:vs=[.ref a,.ref f,.int (b:Nat),oI d]) (h:SqL K H a (e.map V.int)) (i:↑e<=63) (j:SqL K H f (nv c)) (k:↑c<=1000) (l:1<=b) (n:b<=60) (o:∀r H' (p:ό) (ss:ϊ (Int×Int)),Same H H'->H' r=!(.lst [.ref p,.int (↑ss:Nat)])->H' p=!(.lst (nv (Mm.fu c ss)))->ss.Nodup->(∀s∈ss,Mm.On b ↑c s)->(∀m,d=!m->ss=[]\/(↑ss:Int)<=m)->Q (.ref r) H')
abbrev MF K:=(aA (aL (dj<|bF (aM bL (bB (eE K)<|bF (aM (cD K) aU gB)<|tI 81)<|gw yQ<|bF (tI 1)<|eF K bc)<|aM bL (bB (eE K)<|bF (aM (cD K) aU gB)<|aM b7 (tI 82)<|aM bL gB<|tI 7) bT)<|ak 6)
  (bD (kh (aN<|aM kj (eF K bc)<|tI 0)<|Nz (aN<|aM iJ cG<|tC V.non)<|aN<|aM lN (gw xm<|cA dF) cG) (iH dF ie<|tC<|V.bl true) aR))
abbrev MJ K:=(aA (cH (Av<|bF (tI 4)<|eF K aU) (ak 5)<|MF K)
  (aA (aL (gw (jU K)<|cA bc)<|ak 7)
  (aA (cH (cC K<|gw uD<|cA dF) (gr K 2<|bf (ak 8)<|bf (ak 9) gF)<|aL (aM Rz (aM (cD K) oW xR)<|aM Ry (tI 1) yr)<|Fy oW xR rK)
  (aW<|gf<|bF oW<|gw xm<|cA dF))))
abbrev MK K(E:XK)(Eh:XK):=(aA (aL yM<|ak 4)
  (MJ K))
abbrev MN:ϊ ϐ:=sN ["script","strip","height","most","spots","k","spot","turned_over","x","y"]
theorem Xp(h:bX K vs H Q E):RG (MK K E) MN vs H Q:=by
 let#[a,st,ns,g,G,I,rfl,hS,a6,X,a1,as,a5,q]:=h;show#[E0,?_];symm;intro d hd;apply dw ((ao hd _).seq hS) ?_;rw[Qb];have ad:∀p∈[d],H p=none:=λp hp=>by rw[Zs.mp hp];show hd
 show zH (↑ns-4) () () (yo _) (by decide) (by decide) (λi P R=>(An2 (Sb [d] H R) (Ex3 λ(f:ϊ<|Int×Int) (o5 o6:ύ V)=>(An6 (R d=!(.dT (tabS f λ_=>V.bl true))) (f.Nodup) (∀s∈f,Mm.On G ↑g s) (↑f<=i) (∀m,I=!m->f=[]\/(↑f:Int)<=m)<|P=[!↥a,!↥st,!(.int (G:Nat)),!(oI I),!↥d,o5,o6,none,none,none])))) #[Sb.of<|ao hd _,[],_,_,aj,by simp,by simp,Ã _,λ_ _=>.inl Z,Z] ?_ ?_
 .rintro i P S hi ⟨sb,f,o5,o6,ed,C,n,ae,J,rfl⟩;have T:=sb.off ad;let#[x,hx]:∃x,ns[4+i]?=!x:=#[_,Zl ()];have ix:∀{Q:VK},Q (.int x) S->cD K ↥a (.int<|4+(i:Int)) S Q:=λhQ=>by rw[show(4:Int)+(i:Int)=((4+i:Nat):Int)by show Z];show dM (T.seq hS) (aO (j:=4+i) (v:=.int x) (by rw[Á,hx];rfl)) hQ
  apply ix ?_;apply#[x,81,Z,by decide,λm1 _ _=>?_];apply dw (T.seq X) ?_;rw[Qb];symm;let#[M,eM,W]:∃M:Nat,(if((↑g:Nat):Int)>1 then((↑g:Nat):Int)else 1)=(M:Int)/\1<=M/\(1<=↑g->M=↑g)/\M<=1000:=by
   by_cases c:↑g<=1;.show #[1,by rw[γ ()];rfl,by decide,λh=>by show Ż h c,by decide]
   .show #[↑g,by rw[β ()],â<|qnT c,λ_=>Z,a1]
  rw[eM];let#[W,av,a7]:=W;let#[t,am,a8]:=Mm.bw m1 M W;rw[am];show ix ?_;symm;rw[show(82:Int)+(4+(i:Int))%7=((82+(4+i)%7:Nat):Int)by show Z];show#[x,82+(4+i)%7,Z,(),λm2 _ _=>?_];let#[A,ap,a9]:=Mm.bw m2 G as;symm;rw[ap];intro sp ax;have L:=ao (o:=.tup [.int (t:Nat),.int (A:Nat)]) ax;have ac:upd S sp (.tup [.int (t:Nat),.int (A:Nat)]) sp=!(.tup<|(jr ((t:Int),(A:Int))).map kV):=aj;generalize upd S sp (.tup [.int (t:Nat),.int (A:Nat)])=H2 at L ac⊢;have ah:=sb.same L;have U:=L.get ed;have S2:=T.trans L;have N:(An2 (Sb [d] H H2) (Ex3 λ(f:ϊ<|Int×Int) (Y zz:ύ V)=>(An6 (H2 d=!(.dT (tabS f λ_=>V.bl true))) (f.Nodup) (∀s∈f,Mm.On G ↑g s) (↑f<=i+1) (∀m,I=!m->f=[]\/(↑f:Int)<=m)<|[!↥a,!↥st,!(.int (G:Nat)),!(oI I),!↥d,!(.int<|4+(i:Int)),!↥sp,none,none,none]=[!↥a,!↥st,!(.int (G:Nat)),!(oI I),!↥d,Y,zz,none,none,none]))):=#[ah,f,_,_,U,C,n,(),J,Z];have ag:0<↑g->(∀m,I=!m->(↑f:Int)<m)->DPut H2 d ↥sp (.bl true) (upd H2 d (.dT (tabS (if((t:Int),(A:Int))∈f then f else f++[((t:Int),(A:Int))]) λ_=>V.bl true)))/\(An2 (Sb [d] H (upd H2 d (.dT (tabS (if((t:Int),(A:Int))∈f then f else f++[((t:Int),(A:Int))]) λ_=>V.bl true)))) (Ex3 λ(D:ϊ<|Int×Int) (Y zz:ύ V)=>(An6 (upd H2 d (.dT (tabS (if((t:Int),(A:Int))∈f then f else f++[((t:Int),(A:Int))]) λ_=>V.bl true)) d=!(.dT (tabS D λ_=>V.bl true))) (D.Nodup) (∀s∈D,Mm.On G ↑g s) (↑D<=i+1) (∀m,I=!m->D=[]\/(↑D:Int)<=m)<|[!↥a,!↥st,!(.int (G:Nat)),!(oI I),!↥d,!(.int<|4+(i:Int)),!↥sp,none,none,none]=[!↥a,!↥st,!(.int (G:Nat)),!(oI I),!↥d,Y,zz,none,none,none]))):=λay hm=>by
   show#[?_,ah.set Ì,_,_,_,aj,?_,λs ms=>?_,?_,λm e=>.inr ?_,Z];.rw [<-Qv f (λ_=>V.bl true) (λ_=>V.bl true) ((t:Int),(A:Int)) (λ_ _=>Z)];show DPut.t (k:=jr ((t:Int),(A:Int))) U ac (by unfold tabS;rw[Qb];show Õ (show↑f<=100 by rfl') (by decide))
   .split;.show C
    .rename_i c;show å.mpr #[C,by simp,λu mu w mw e=>c (by rw[Zs.mp mw]at e;rw[<-e];show mu)]
   .have on:Mm.On G ↑g ((t:Int),(A:Int)):=#[by change(0:Int)<=(t:Int);rfl',by change(t:Int)<_;have:=av ay;rfl',by change(0:Int)<=(A:Int);rfl',by change(A:Int)<_;rfl'];split at ms;.show n s ms
    .rcases Æ.mp ms with ms|ms;.show n s ms
     .rw [Zs.mp ms];show on
   .split;.rfl'
    .rw [É,ã];rfl'
   .have:=hm m e;split;.rfl'
    .rw [É,ã];rfl'
  clear sb ed C n ae J ix;apply dw (S2.seq X) ?_;rw[Qb];apply cM (λc=>?_) λc=>?_;.cases I with|none=>let#[p1,p2]:=ag () (λm e=>by cases e);apply m7 Z ?_;apply#[d,_,Z,p1,?_];show p2|some m=>
    apply gW (by intro z;cases z) ?_;apply zL U ?_;symm;change lN (V.int _) (.int m) H2 _;rw[show↑(tabS f λ_=>V.bl true)=↑f by unfold tabS;rw[Qb]];apply cM (λc2=>?_) λc2=>?_;.obtain ⟨p1,p2⟩:=ag () (λm' e=>by cases e;show c2);apply#[d,_,Z,p1,?_];show p2
    .symm;show N
  .symm;show N
 .rintro P S ⟨sb,f,o5,o6,ed,C,n,ae,J,rfl⟩;have T:=sb.off ad;apply mj (T.seq X) λp hp=>?_;have L:=ao (o:=.lst<|nv g) hp;have ep:upd S p (.lst<|nv g) p=!(.lst<|nv g):=aj;generalize upd S p (.lst<|nv g)=H2 at L ep⊢;apply Ip (L.get ed) (by unfold tabS;rw[Qb];rfl') λl O hl ar a2=>?_;have s3:=ao (o:=.lst (O.map λz:ό×ϊ Key=>↥z.1)) hl;have el:upd H2 l (.lst (O.map λz:ό×ϊ Key=>↥z.1)) l=!(.lst (O.map λz:ό×ϊ Key=>↥z.1)):=aj;have a4:l≠p:=(aP ep hl).symm;generalize upd H2 l (.lst (O.map λz:ό×ϊ Key=>↥z.1))=H3 at s3 el⊢;have ab:=s3.get ep;have ai:=s3.get<|L.get ed;have S3:=(T.trans L).trans s3;have aw:H p=none:=T.free hp;have ek:O.map (·.2)=f.map jr:=by rw[ar];unfold tabS;rw[Ä];rfl
  have af:↑O=↑f:=by have:=Ö List.length ek;rw[Qb,Qb]at this;show this
  show gn (λz:ό×ϊ Key=>↥z.1) (zs:=O) (gI el) (λi P R=>(An3 (Sb [p] H3 R) (R p=!(.lst<|nv<|Mm.fu g<|f.take i)) (Ex2 λo8 o9=>P=[!↥a,!↥st,!(.int (G:Nat)),!(oI I),!↥d,o5,o6,!↥p,o8,o9]))) #[Sb.of<|.refl _,ab,_,_,Z] ?_ ?_ ?_;.rintro i P R ⟨B,_⟩;show gI (B.get (by simpa using a4) el)
  .rintro i ⟨b,ky⟩ P R hz ⟨B,e,o8,o9,rfl⟩;let#[s,hs]:∃s,f[i]?=!s:=#[_,Zl (by have:=(À.mp hz).1;show qgT this af)];have al:ky=jr s:=by have:=Ö (·[i]?) ek;rw[Á,Á,hz,hs]at this;show Ý this
   let#[x,y]:=s;have tz:H3 b=!(.tup [.int x,.int y]):=by have:=s3.get<|a2 _<|Yf hz;rw[al]at this;show this
   let#[c1,c2,c3,c4]:=n (x,y)<|Yf hs;dsimp only at c1 c2 c3 c4;have F:↑(Mm.fu g<|f.take i)=↑g:=Mm.jW _ _;show cN (gL (B.get (by simpa using dm tz ab (λz=>by cases z)) tz)) Z ?_;apply dM (gI e) (zG c1 (by rw[Qb,F];show RP c1 c2)) ?_;rw[ă];apply qi x.toNat e (Eq.symm<|uG c1) (by rw[Qb,F];show RP c1 c2) ?_;rw[Int.one_mul,<-Bx.lM,Bx.pK];unfold nv;rw[<-List.map_set];show#[B.set Ì,?_,_,_,Z];rw[aj,Ð,hs,show(!(x,y)).toList=[(x,y)]from Z,Mm.zB];change _=!(HO.lst<|(Mm.iU _ (x,y)).map _);unfold Mm.iU;rw[Xs,Zl (by rw[F];rfl')];rfl
  .rintro P H4 ⟨B,e,o8,o9,rfl⟩;rw[af,à]at e;have S4:Same H H4:=λb o q=>B.get (by simpa using aP q aw)<|S3.get q;have a3:d≠p:=aP ed hp;apply zL (B.get (by simpa using a3) ai) ?_;rw[show↑(tabS f λ_=>V.bl true)=↑f by unfold tabS;rw[Qb]];symm;intro r hr;apply q r _ p f (S4.new hr) aj (aF hr e) C n J
inductive eB(K:Ϗ)(vs:ϊ V)(H:Hp)(Q:VK)(E:XK):Prop|mk (i:Int) (a:vs=[.int i]) (b:Q (.bl true) H)
abbrev MP K(E:XK)(Eh:XK):=(aW<|gD (gw (fL K)<|bF aU<|tC<|V.ty "int")<|Fw<|gw (fL K)<|bF aU<|tC<|V.ty "bool")
abbrev MT:ϊ ϐ:=sN ["found"]
theorem Xq(h:eB K vs H Q E):RG (MP K E) MT vs H Q:=by let#[i,rfl,q]:=h;show#[E0,?_];apply#[_,_,_,_,Z,.int i,Z,?_];apply#[_,_,_,_,Z,.int i,Z,?_];apply q
inductive aE(K:Ϗ)(vs:ϊ V)(H:Hp)(Q:VK)(E:XK):Prop|mk (t u:ό) (a:ϊ Nat) (g:Nat) (b:vs=[.ref t,.ref u]) (d:H t=!(.tup [.str (tx a),.int (g:Nat),.int ((1:Nat):Int)])) (e:H u=!(.tup [.str (tx a),.int (g:Nat),.int 1])) (f:(∀c∈a,c<1114112)) (h:Q (.bl true) H)
abbrev Tr K(E:XK)(Eh:XK):=(aA (bD (Nz (lg<|lA K<|gw (fL K)<|bF aU<|tC<|V.ty "tuple")<|Nz (aN<|aM Rq (eF K aU)<|tI 3)<|lg<|lA K<|gw (fL K)<|bF (tX K aU 0)<|tC<|V.ty "str") (aW<|tC<|V.bl false) aR)
  (aW<|gD (bB (eB K)<|cA<|tX K aU 1)<|gD (bB (eB K)<|cA<|tX K aU 2)<|aM (rEqD K) aU bc))
abbrev Tt:ϊ ϐ:=sN ["found","due"]
theorem Zt(h:aE K vs H Q E):RG (Tr K E) Tt vs H Q:=by
 let#[t,u,f,g,rfl,a,i,c,q]:=h;show#[E0,?_];apply fH (.tup a) (b:=true) Z ?_;apply cu (gL a) ?_;apply iu Z ?_;apply dN a ?_;apply fH (.str _) (b:=true) Z ?_;apply cZ a ?_;apply#[_,Z,?_];apply a0z a ?_;apply#[_,Z,?_];apply rEqD.same (d:=.tuple [.str<|tx f,.int (g:Nat),.int 1]) (n:=1) (.tup (gL a)<|.cons (.str _)<|.cons (.int _)<|.cons (.int _) .nil) (.tup (gL i)<|.cons (.str _)<|.cons (.int _)<|.cons (.int _) .nil) (iw λd e=>?_) (by decide) q;simp only[Å,Ú,þ]at e;rcases e with rfl|rfl|rfl;.show Ii 0 c
 .show fJ 0 _
 .show fJ 0 _
theorem yj(a b:ϊ Nat):cst a b=cst b a:=by unfold cst;rw[Mm.iQ,Nat.min_comm]
theorem CT(a:ϊ Nat):cst [] a=0:=by unfold cst;simp[Mm.bh]
inductive Pt(wss:ϊ (ϊ gk))(rs:ϊ Int):Sd->Nat->Prop|fork {z:gk×gk×Int}:z∈qG wss rs->Pt wss rs (mH z) (vq z)|step {x:Sd} {c:Nat} {w:gk}:Pt wss rs x c->w∈wss.getD x.1.toNat []->Pt wss rs (mG w x.2.1 x.2.2) (c+cst x.2.2 w.2.1)
theorem Pt.rch{N:Nat}(h:Pt a (cV a N) x c):Mm.Rch (NT a N) (R4 a) x:=by induction h with
 |fork m=>show .base (Zp.mpr #[_,m,Z])|step _ mw ih=>show .step ih<|Zp.mpr #[_,mw,Z]
theorem Pt.low{N:Nat}(j:∀x,x∈S↔Mm.Rch (NT a N) (R4 a) x)(i:Dj (T8 g S) (NZ (WT o a) S) F<|λ_ _=>False)(h:Pt a (cV a N) x c):∀k,F x k->∃z∈qG a<|cV a N,∃b,F (mH z) b/\vq z+b.1<=c+k.1:=by induction h with
 |fork m=>showλk d=>#[_,m,k,d,Ã _]|@step x c w hx mw ih=>
  intro k d;let#[u,n,f]:=(i.b (cst x.2.2 w.2.1) x (mG w x.2.1 x.2.2) k #[(j x).mpr hx.rch,w.1,Zp.mpr #[w,mw,Z]] d).resolve_right id;let#[z,p,b,e,l]:=ih u n;show#[z,p,b,e,?_];have:u.1<=k.1+cst x.2.2 w.2.1:=by unfold leP at f;dsimp only at f;rfl'
  rfl'
theorem Xr{w:gk}:mG v w.2.2 w.2.1=mG w v.2.2 v.2.1\/((mG v w.2.2 w.2.1)=(v.2.2,w.2.2,[])/\mG w v.2.2 v.2.1=(w.2.2,v.2.2,[])):=by
 unfold mG;rcases Δ ↑v.2.1 ↑w.2.1 with h|h|h;.rw [β<|â h,γ<|Nat.not_le.mpr h];show .inl Z
 .right;rw[β<|đ h,β<|đ h.symm,ı<|đ h.symm,ı<|đ h];show#[Z,Z]
 .rw [γ<|Nat.not_le.mpr h,β<|â h];show .inl Z
def MS(wss:ϊ<|ϊ gk)(rs:ϊ Int)(x:Sd)(c:Nat):Prop:=Pt wss rs x c\/(x.2.2=[]/\Pt wss rs (x.2.1,x.1,[]) c)\/∃(r1:Int)(w:gk),w∈wss.getD r1.toNat []/\x.2.1=w.2.2/\x.2.2=w.2.1/\Pt wss rs (x.1,r1,[]) c
theorem MS.sw{w:gk}(h:Pt a rs (mG w v.2.2 v.2.1) c):MS a rs (mG v w.2.2 w.2.1) c:=by
 rcases Xr (v:=v) (w:=w)with e|⟨e1,e2⟩;.show .inl<|e▸h
 .rw [e2]at h;rw[e1];show .inr<|.inl #[Z,h]
theorem MS.step{a:ϊ<|ϊ gk}(m:∀k∈a,∀w∈k,1<=↑w.2.1)(h:MS a rs x c)(g:v∈a.getD x.1.toNat []):MS a rs (mG v x.2.1 x.2.2) (c+cst x.2.2 v.2.1):=by
 have d:∀{r:Nat}{w:gk},w∈a.getD r []->1<=↑w.2.1:=λ{r w} b=>by
  rw[Xs]at b;cases e:a[r]?with
  |none=>rw[e]at b;cases b|some k=>rw[e]at b;show m k (Yf e) w b
 have f:∀{w:gk}{i:Int}{r:Nat},w∈a.getD r []->mG w i []=(i,w.2.2,w.2.1):=λ{w i r} b=>by unfold mG;rw[γ (by have:=d b;simp;intro e;rw[e]at this;simp at this)];rfl
 rcases h with h|⟨e,h⟩|⟨r1,w,b,e1,e2,h⟩;.show .inl<|h.step g
 .rw [e,f g,CT];show .inr<|.inr #[x.1,v,g,Z,Z,h]
 .have j:=h.step (w:=v) g;dsimp only at j;rw[f g,CT]at j;have l:=j.step (w:=w) b;dsimp only at l;rw[e1,e2,yj];show MS.sw l
theorem MS.even(j:∀d∈a,∀w∈d,1<=↑w.2.1){b:ϊ Int}(h:MS a rs x c)(f:x.2.2=[])(g:x.1∈b)(i:x.2.1∈b):∃y,Pt a rs y c/\mJ b y=true:=by
 rcases h with h|⟨_,h⟩|⟨r1,w,mw,_,e,_⟩;.show #[_,h,by unfold mJ;rw[f];simp[g,i]]
 .show #[_,h,by unfold mJ;simp[g,i]]
 .rw [Xs]at mw;cases e':a[r1.toNat]?with
  |none=>rw[e']at mw;cases mw|some d=>rw[e']at mw;have:=j d (Yf e') w mw;rw[<-e,f]at this;simp at this
theorem MS.two{r:Int}(k:r∈rs){w:gk}(l:v∈a.getD r.toNat [])(m:w∈a.getD r.toNat [])(n:v≠w):MS a rs (mG v w.2.2 w.2.1) (cst w.2.1 v.2.1):=by
 let#[i,c]:=ā.mp l;let#[j,b]:=ā.mp m;have f:(a.getD r.toNat []).getD i default=v:=by rw[Xs,c];rfl
 have g:(a.getD r.toNat []).getD j default=w:=by rw[Xs,b];rfl
 have d:=(À.mp c).1;have e:=(À.mp b).1;rcases Δ i j with h|h|h
 .show .inl<|Pt.fork (z:=(v,w,r))<|ÿ.mpr #[r,k,ÿ.mpr #[j,ì.mpr e,Zp.mpr #[i,ì.mpr h,?_]]];rw[f,g]
 .subst h;rw[c]at b;show μ (Ý b) n
 .rw [yj];show MS.sw<|Pt.fork (z:=(w,v,r))<|ÿ.mpr #[r,k,ÿ.mpr #[i,ì.mpr d,Zp.mpr #[j,ì.mpr h,?_]]];rw[f,g]
section
theorem nP{w:gk}(a:r<↑ds)(b:Hs.dr (ds.getD r []) w.1=!w.2.2)(c:Fo.lk ls w.1=!w.2.1):w∈(ds.map<|aJ ls).getD r []:=by rw[uO a];have m:=Hs.ql b;rw[Xs,Zl a]at m;show é.mpr #[_,m,by rw[c];rfl]
theorem N5(F:∀L∈ds.map (aJ ls),∀w∈L,1<=↑w.2.1):∀(n:Nat){a b:ϊ gk}{i k l o c:Nat}{y:ϊ Nat},↑a+↑b<=n->Gw ls ds i a l->Gw ls ds k b o->MS (ds.map (aJ ls)) rs ((i:Int),(k:Int),y) c->↑(bU a)=↑y+↑(bU b)->(l:Int)∈es->(o:Int)∈es->∃z,Pt (ds.map (aJ ls)) rs z (c+Mm.bh (bU a) (y++bU b))/\mJ es z=true:=λn=>by
 have A:∀{q:ϊ gk}{r R:Nat},Gw ls ds r q R->↑(bU q)=0->q=[]:=λ{q r R} h e=>by cases q with
  |nil=>rfl|cons w q=>let#[u,C,D,_]:=h;have m:=nP u C D;rw[Xs,Á,Zl u]at m;have:=F _ (Zp.mpr #[_,Ø u,Z]) w m;rw[show bU (w::q)=w.2.1++bU q from Z,É]at e;rfl'
 induction n with|zero=>intro a b i k l o c y I g j x f p s;rw[Ů.mp (show↑a=0 by rfl')]at g f⊢;rw[Ů.mp (show↑b=0 by rfl')]at j f⊢;have J:y=[]:=Ů.mp (by rw[show↑(bU ([]:ϊ gk))=0 from Z]at f;show f.symm);rw[J]at x⊢;rw[show l=i from(show i=l from g).symm]at p;rw[show o=k from(show k=o from j).symm]at s;show x.even F Z p s|succ n ih=>
  intro a b i k l o c y I g j x f p s;cases a with
  |nil=>rw[show↑(bU ([]:ϊ gk))=0 from Z]at f;have e:=A j ();subst e;show ih (by simp) g j x (by rw[show↑(bU ([]:ϊ gk))=0 from Z]at f⊢;show f) p s|cons v a=>
   let#[u,C,D,K,g]:=g;have t:=x.step F (v:=v) (by rw[show((i:Int),(k:Int),y).1.toNat=i from Ó _];show nP u C D);dsimp only at t;have H:((v.2.2.toNat:Nat):Int)=v.2.2:=č K;rw[show bU (v::a)=v.2.1++bU a from Z,É]at f;rw[show bU (v::a)=v.2.1++bU a from Z];rw[í]at I;unfold mG cst at t;by_cases d:↑v.2.1<=↑y
   .rw [β d,<-H,Ĵ d,à]at t;let#[z,G,E]:=ih () g j t (by rw[ù];rfl') p s;show#[z,?_,E];have B:Mm.bh (v.2.1++bU a) (y++bU b)=Mm.bh v.2.1 (y.take ↑v.2.1)+Mm.bh (bU a) (y.drop ↑v.2.1++bU b):=by
     conv=>lhs;rw[<-ĕ ↑v.2.1 y,ø]
     show Mm.fU (by rw[Ñ];rfl')
    rw[B,<-ņ];show G
   .rw [γ d,<-H,Ŕ (â (qnT d)),à]at t;let#[z,G,E]:=ih () j g t (by rw[ù];rfl') s p;show#[z,?_,E];have B:Mm.bh (v.2.1++bU a) (y++bU b)=Mm.bh (v.2.1.take ↑y) y+Mm.bh (bU b) (v.2.1.drop ↑y++bU a):=by
     conv=>lhs;rw[<-ĕ ↑y v.2.1,ø]
     rw[Mm.fU (by rw[Ñ];rfl'),Mm.iQ (v.2.1.drop ↑y++bU a)]
    rw[B,<-ņ];show G
theorem N6(h:∀s∈ds.map<|aJ ls,∀w∈s,1<=↑w.2.1)(b:∀r∈rs,∀w∈(ds.map<|aJ ls).getD r.toNat [],w.2.2∈rs):∀{p q:ϊ gk}{r R a:Nat},(r:Int)∈rs->Gw ls ds r p R->Gw ls ds r q a->p≠q->↑(bU p)=↑(bU q)->(R:Int)∈es->(a:Int)∈es->∃z,Pt (ds.map<|aJ ls) rs z (Mm.bh (bU p)<|bU q)/\mJ es z=true
 |[],[],_,_,_,_,_,_,ne,_,_,_=>μ Z ne|[],w::q,r,R,a,mr,_,⟨h1,h2,h3,_⟩,_,e,_,_=>by have m:=nP h1 h2 h3;rw[Xs,Á,Zl h1]at m;have:=h _ (Zp.mpr #[_,Ø h1,Z]) w m;rw[show bU (w::q)=w.2.1++bU q from Z,É,show↑(bU ([]:ϊ gk))=0 from Z]at e;rfl'
 |w::q,[],r,R,a,mr,⟨h1,h2,h3,_⟩,_,_,e,_,_=>by have m:=nP h1 h2 h3;rw[Xs,Á,Zl h1]at m;have:=h _ (Zp.mpr #[_,Ø h1,Z]) w m;rw[show bU (w::q)=w.2.1++bU q from Z,É,show↑(bU ([]:ϊ gk))=0 from Z]at e;rfl'|v::p,w::q,r,R,a,mr, ⟨v1,v2,v3,v4,gp⟩, ⟨w1,w2,w3,w4,gq⟩,ne,e,e0,e1=>by
  have n:=nP v1 v2 v3;have o:=nP w1 w2 w3;have k:((v.2.2.toNat:Nat):Int)=v.2.2:=č v4;have l:((w.2.2.toNat:Nat):Int)=w.2.2:=č w4;rw[show bU (v::p)=v.2.1++bU p from Z,show bU (w::q)=w.2.1++bU q from Z]at e⊢;by_cases c:v=w;.subst c;rw[É,É]at e;let#[z,i,f]:=N6 h b (by rw[k];show b _ mr v<|by rw[Ó];show n) gp gq (λz=>ne<|by rw[z]) () e0 e1;show#[z,?_,f];rw[Mm.fU Z,Mm.tE,ī];show i
  .have g:=MS.two mr (v:=v) (w:=w) (by rw[Ó];show n) (by rw[Ó];show o) c;rw[É,É]at e;unfold mG cst at g;by_cases d:↑v.2.1<=↑w.2.1
   .rw [β d,<-k,<-l,Ĵ d,à]at g;let#[z,i,f]:=N5 h _ (Ã _) gp gq g (by rw[ù];rfl') e0 e1;show#[z,?_,f];have j:Mm.bh (v.2.1++bU p) (w.2.1++bU q)=Mm.bh v.2.1 (w.2.1.take ↑v.2.1)+Mm.bh (bU p) (w.2.1.drop ↑v.2.1++bU q):=by
     conv=>lhs;rw[<-ĕ ↑v.2.1 w.2.1,ø]
     show Mm.fU<|by rw[Ñ];rfl'
    rw[j];show i
   .rw [γ d,<-k,<-l,Ŕ<|â<|qnT d,à]at g;let#[z,i,f]:=N5 h _ (Ã _) gq gp g (by rw[ù];rfl') e1 e0;show#[z,?_,f];have j:Mm.bh (v.2.1++bU p) (w.2.1++bU q)=Mm.bh (v.2.1.take ↑w.2.1) w.2.1+Mm.bh (bU q) (v.2.1.drop ↑w.2.1++bU p):=by
     conv=>lhs;rw[<-ĕ ↑w.2.1 v.2.1,ø]
     rw[Mm.fU<|by rw[Ñ];rfl',Mm.iQ<|v.2.1.drop ↑w.2.1++bU p]
    rw[j];show i
end
theorem qK:∀{xs ys:ϊ Nat},↑xs=↑ys->Mm.bh xs ys=((List.range ↑xs).map λx=>Bm.pop<|xs.getD x 0^^^ys.getD x 0).sum
 |[],[],_=>Z|[],_::_,h=>by cases h|_::_,[],h=>by cases h|x::xs,y::ys,h=>by rw[í,List.range_succ_eq_map,Ç,Ä,ğ,Mm.bh,qK<|Ξ h];rfl
theorem Ff{h:Nat}{b:ϊ Nat}(c:h<=60)(e:↑a=↑b)(g:∀x∈a,x<2^h)(i:∀y∈b,y<2^h):↑(Mm.jh a b)=Mm.bh a b:=by
 have d:∀{n:Nat},n<2^h->n<2^60:=λ{n} f=>Ò f<|Nat.pow_le_pow_right (by decide) c;rw[Mm.En (λx m=>d<|g x m) λy m=>d<|i y m,qK e]
theorem Rk(c:Fo.GoodL ht f)(e:d.map (λz:Lz=>(z.2.1,z.2.2.2))=f.map (λz:Lz=>(z.2.1,z.2.2.2))):Fo.GoodL ht d:=by
 have k:↑d=↑f:=by have:=Ö List.length e;rw[Qb,Qb]at this;show this
 have i:∀z∈d,∃y∈f,y.2.1=z.2.1/\y.2.2.2=z.2.2.2:=λz b=>by
  have:(z.2.1,z.2.2.2)∈f.map (λz:Lz=>(z.2.1,z.2.2.2)):=by rw[<-e];show Zp.mpr #[z,b,Z]
  let#[y,a,j]:=Zp.mp this;show#[y,a,Ö (·.1) j,Ö (·.2) j]
 show#[by rw[k];show c.pos,by rw[k];show c.le,?_,λz b=>?_,λz b=>?_,λz b=>?_];.have:=Ö (List.map Prod.fst) e;rw[Ä,Ä]at this;change(d.map (Prod.fst∘λz:Lz=>(z.2.1,z.2.2.2))).Nodup;rw[this];show c.nd
 .obtain ⟨y,a,h,g⟩:=i z b;rw[<-h];show c.sg y a
 .obtain ⟨y,a,h,g⟩:=i z b;rw[<-g];show c.c1 y a
 .obtain ⟨y,a,h,g⟩:=i z b;rw[<-g];show c.cb y a
theorem N7:∀{ls:ϵ},(ls.map (·.1)).Nodup->(s,a)∈ls->Fo.lk ls s=!a
 |p::ls,hn,m=>by
  let#[b,c]:=ï.mp hn;rw[Fo.gZ];rcases Å.mp m with e|m
  .rw [<-e,β Z]
  .rw [γ<|λe=>b<|Zp.mpr #[_,m,e.symm]];show N7 c m
theorem N8{h:Nat}{b:ϊ Nat}(k:h<=60)(g:a.Nodup)(i:∀s∈a,Mm.On h ↑b s):↑(Mm.jh b<|Mm.fu b a)=↑a:=by
 have c:∀x y:Nat,(b.getD x 0^^^(Mm.fu b a).getD x 0).testBit y=decide (((x:Int),(y:Int))∈a):=by
  intro x y;rw[Ź,Mm.tG x y a b i];have l:decide (a.count ((x:Int),(y:Int))%2=1)=decide (((x:Int),(y:Int))∈a):=by
   by_cases m:((x:Int),(y:Int))∈a;.rw [g.count,β m,Ô m];rfl
   .rw [List.count_eq_zero.mpr m,Ü m];rfl
  rw[l];cases(b.getD x 0).testBit y<;>simp
 show((List.perm_ext_iff_of_nodup (Mm.xM _ _) g).mpr λs=>?_).length_eq;rw[Mm.Em];constructor;.rintro ⟨x,y,rfl,_,_,f⟩;rw[c]at f;show ô f
 .intro m;let#[d,j,e,n]:=i s m;show#[s.1.toNat,s.2.toNat,?_,RP d j,(),?_];.rw [show((s.1.toNat:Nat):Int)=s.1 by show uG d,show((s.2.toNat:Nat):Int)=s.2 by show uG e]
  .rw [c,show((s.1.toNat:Nat):Int)=s.1 by show uG d,show((s.2.toNat:Nat):Int)=s.2 by show uG e];show Ô m
theorem Rm(h:a.Perm l2)(c:(a.map (·.1)).Nodup)(s:ϐ):Fo.lk a s=Fo.lk l2 s:=by
 have b:(l2.map (·.1)).Nodup:=(h.map _).nodup_iff.mp c;cases e:Fo.lk a s with
 |some co=>show(N7 b<|h.mem_iff.mp<|Fo.d9 e).symm|none=>
  cases e2:Fo.lk l2 s with
  |none=>rfl|some co=>rw[N7 c<|h.mem_iff.mpr<|Fo.d9 e2]at e;cases e
theorem Nb{b c:ϵ}(h:∀s,Fo.lk b s=Fo.lk c s):∀{p:ϊ gk}{r R:Nat},Gw b a r p R->Gw c a r p R
 |[],_,_,g=>g|_::_,_,_,⟨a1,a2,a3,a4,g⟩=>#[a1,a2,by rw[<-h];show a3,a4,Nb h g]
theorem An{b:ϵ}(f:∀ps∈ds,(ps.map (·.1)).Nodup)(a:∀ps∈ds,∀q∈ps,0<=q.2/\q.2<↑ds){w:gk}(m:w∈(ds.map<|aJ b).getD r []):r<↑ds/\Hs.dr (ds.getD r []) w.1=!w.2.2/\Fo.lk b w.1=!w.2.1/\0<=w.2.2/\w.2.2<↑ds:=by
 rw[Xs,Á]at m;cases h:ds[r]?with
 |none=>rw[h]at m;cases m
 |some ps=>rw[h]at m;let#[e,d]:=mD<|show w∈aJ b ps from m;have c:=Yf h;have:=a ps c _ d;show#[(À.mp h).1,by rw[Xs,h];show iW (f ps c) d,e,this.1,this.2]
theorem Ao{b:ϵ}:∀{p q:ϊ gk}{r s t:Nat},Gw b a r p s->Gw b a s q t->Gw b a r (p++q) t
 |[],_,_,_,_,h,g=>by cases h;show g|_::_,_,_,_,_,⟨a1,a2,a3,a4,h⟩,g=>#[a1,a2,a3,a4,Ao h g]
section
variable(hn:∀ps∈ds,(ps.map (·.1)).Nodup)(hds:∀ps∈ds,∀q∈ps,0<=q.2/\q.2<↑ds)(he:∀e∈es,0<=e)(hD:Dj (T8 es S) (NZ (WT ls (ds.map (aJ ls))) S) F (λ_ _=>False))
include hn hds he hD
theorem Xu:∀(n:Nat){x:Sd}{k:Ϻ},k.2<=n->F x k->(∃p R,Gw ls ds x.1.toNat p R/\(R:Int)∈es)/\∃p R,Gw ls ds x.2.1.toNat p R/\(R:Int)∈es:=λn=>by
 have r:∀{x:Sd},mJ es x=true->(∃p R,Gw ls ds x.1.toNat p R/\(R:Int)∈es)/\∃p R,Gw ls ds x.2.1.toNat p R/\(R:Int)∈es:=λ{x} h=>by unfold mJ at h;simp only[Ă,decide_eq_true_eq]at h;let#[_,t,u]:=h;show#[#[[],_,Z,by rw[č<|he _ t];show t],[],_,Z,by rw[č<|he _ u];show u]
 induction n with|zero=>
  intro x k g f;rcases hD.s x k (.inl f)with⟨⟨_,h⟩,_⟩|⟨c,y,v,_,_,rfl⟩;.show r h
  .show μ g (by change ¬v.2+1<=0;rfl')|succ n ih=>
  intro x k g f;rcases hD.s x k (.inl f)with⟨⟨_,h⟩,_⟩|⟨c,y,v,⟨_,s,ms⟩,hFy,rfl⟩;.show r h
  .obtain ⟨w,B,e⟩:=Zp.mp<|show(s,c,y)∈((ds.map<|aJ ls).getD x.1.toNat []).map _ from ms;have A:mG w x.2.1 x.2.2=y:=Ö (λz:ϐ×Nat×Sd=>z.2.2) e;let#[l,m,o,q,_]:=An hn hds B;let#[b,a]:=ih (show v.2<=n by have:v.2+1<=n+1:=g;rfl') hFy;rw[<-A]at b a;unfold mG at b a;split at b;.rename_i d;rw[β d]at a;let#[p,R,i,j]:=b;show#[#[w::p,R,#[l,m,o,q,i],j],a]
   .rename_i d;rw[γ d]at a;let#[p,R,i,j]:=a;show#[#[w::p,R,#[l,m,o,q,i],j],b]
theorem Nf{N:Nat}(s:z∈qG (ds.map (aJ ls)) (cV (ds.map (aJ ls)) N))(l:F (mH z) k):∃p R,Gw ls ds 0 p R/\(R:Int)∈es:=by
 let#[n,o,_]:=M5 s;let#[t,j]:=eZ (P:=λr:Int=>∃p,Gw ls ds 0 p r.toNat) (show∃p,Gw ls ds 0 p (0:Int).toNat from#[[],Z]) (λr u ⟨p,a⟩ m=>by let#[w,q,rfl]:=Zp.mp m;let#[b,c,e,f,_]:=An hn hds q;show#[p++[w],vA a b c e f]) N z.2.2 n;let#[b,c,e,f,_]:=An hn hds o;let#[g,h]:=Xu hn hds he hD k.2 (Ã _) l;unfold mH mG at g h;split at g;.obtain ⟨p,R,a,i⟩:=g;show#[_,R,Ao j (show Gw ls ds _ (z.1::p) R from#[b,c,e,f,a]),i]
 .rename_i d;rw[γ d]at h;let#[p,R,a,i]:=h;show#[_,R,Ao j (show Gw ls ds _ (z.1::p) R from#[b,c,e,f,a]),i]
end
inductive gl(K:Ϗ)(vs:ϊ V)(H:Hp)(Q:VK)(E:XK):Prop|mk (a:ό) (b:ϊ Int) (c:vs=[.ref a]) (d:TupK K cO [.int 1]) (e:SqL K H a (b.map V.int)) (f:↑b<=63) (g:∀H',Q (.bl true) H')
abbrev Ng K:=(aA (aL (bB (fq K)<|kW gB oW<|gw (jU K)<|cA<|aM (cD K) Z8<|tI 0)<|ak 13)
  (aA (bD (aN<|aM ou yr<|Aw iK<|tI 1) (aW<|gD (gw (fL K)<|bF Vz<|tC<|V.ty "tuple")<|aM ou (tX K Vz 1)<|tI 0) aR)
  (aW<|bB (aE K)<|bF Vz<|dj<|kW xR (aM (cD K) Z8<|tI 1)<|tI 1)))
abbrev Nh K:=(aA (bD (kh (aN<|aM lB yr<|tC V.non)<|aN<|aM ou (aM bL (bB (eE K)<|bF (bB (aS K)<|bF aU<|tI 1)<|tI 2)<|tI 2)<|tI 0) (aL (aM pN yr<|tI 2)<|ak 9) aR)
  (aA (aL (bB (bX K)<|NQ aU Vy bc yr)<|ak 12)
  (Ng K)))
abbrev Ni K:=(aA (bD (kh (aN<|aM lB yr<|tC V.non)<|Nz (lg<|lA K<|bB (eB K)<|cA yr)<|aN<|aM lN yr<|Aw iK<|tI 1) (aW<|tC<|V.bl false) aR)
  (aA (aL (gf gJ)<|ak 10)
  (aA (cH (UV xR) (ak 11)<|aL (aM Ut Vy<|fQ ie a0y)<|ak 10)
  (Nh K))))
abbrev Nm K:=(aA (aL (bB (bE K)<|kW aU oW ie)<|ak 8)
  (aA (aL (bB (fS K)<|bF gB oW)<|ak 9)
  (aA (bD (aN<|aM iJ xR<|tC V.non) (aW<|gD (aM iJ yr<|tC V.non)<|aM iJ (bB (fq K)<|kW gB oW<|aM Ye (gf<|cA<|tI 1)<|aM bL (eF K aU)<|tI 5)<|tC V.non) aR)
  (Ni K))))
abbrev Np K:=(aA (aL (bB (eP K)<|bF bc<|kJ [none,none] (cC K dF) (gr K 2<|bf (ak 0)<|bf (ak 1) gF) dJ<|dj<|bF aU<|gw (jU K)<|cA bc)<|ak 5)
  (aA (aL (gw (je K)<|cA dF)<|ak 6)
  (aA (aL (bB (f7 K)<|kW (bB (aS K)<|bF aU<|tI 3) (vR oE cG cQ<|fj<|aM b7 (eF K dF)<|tI 1) dF)<|ak 7)
  (Nm K))))
abbrev Nq K:=(aA (bD (aN<|aM lN bT<|tI 3) (aL (gw pP<|bF bc<|tI 12)<|ak 1) aR)
  (aA (aL (bB (fA K)<|bF (bB (aS K)<|bF aU<|tI 1)<|tI 41)<|ak 3)
  (aA (aL (bB (dE K)<|kW (bB (aS K)<|bF aU<|tI 2) cG bc)<|ak 4)
  (Np K))))
abbrev Nr K(E:XK)(Eh:XK):=(aA (aL (aM b7 (tI 1)<|aM bL (bB (aS K)<|bF aU<|tI 0)<|aM (cD K) (gf<|NQ (tI 4) (tI 12) (tI 30)<|tI 60)<|aM bL (bB (eE K)<|bF (bB (aS K)<|bF aU<|tI 0)<|tI 1)<|tI 4)<|ak 1)
  (aA (aL (aM bL (bB (eE K)<|bF (bB (aS K)<|bF aU<|tI 2)<|tI 11)<|tI 6)<|ak 2)
  (Nq K)))
abbrev vB:ϊ ϐ:=sN ["script","height","kind","signs","letters","font","pictures","house","text","most","strip","sign","spoilt","found"]
theorem Xv(h:gl K vs H Q E):RG (Nr K E) vB vs H Q:=by
 let#[a,ns,rfl,TK,W,cb,q]:=h;show#[E0,?_];apply#[a,ns,0,Z,W,?_];symm;intro pl ar;replace W:=ji (o:=.lst [.int 4,.int 12,.int 30,.int 60]) ar W;have al:SqL K (upd H pl<|.lst [.int 4,.int 12,.int 30,.int 60]) pl ([.int 4,.int 12,.int 30,.int 60]):=gI aj;generalize upd H pl (.lst [.int 4,.int 12,.int 30,.int 60])=H0 at W al⊢;clear ar;apply#[a,ns,0,Z,W,?_];apply#[_,1,Z,by decide,λi0 dc dd=>?_];apply Mj al () (by change i0%4<4;rfl') λv mv=>?_
 let#[tl,rfl,c1,d0]:∃n:Nat,v=.int (n:Int)/\1<=n/\n<=60:=by
  simp only[Å,Ú,þ]at mv;rcases mv with rfl|rfl|rfl|rfl;.show #[4,Z,by decide,by decide]
  .show #[12,Z,by decide,by decide]
  .show #[30,Z,by decide,by decide]
  .show #[60,Z,by decide,by decide]
 clear mv al dc dd;symm;let#[m0,bv,d2]:=Mm.bw (Mm.cellAt ns 0) tl c1;rw[bv,show(1:Int)+(m0:Int)=((m0+1:Nat):Int)by show Vc _];let#[a1,bs]:∃J,J=m0+1:=#[_,Z];have ah:1<=a1/\a1<=60:=()
 rw[<-bs];clear bs bv;show#[a,ns,2,Z,W,?_];apply#[_,11,Z,by decide,λk0 _ _=>?_];walk_at "gj";walk_at "ns";with_reducible show iz (λa3 H'=>(An2 (H'=H0) (Ex1 λ(J:Nat)=>(An3 (1<=J) (J<=60)<|a3=[!↥a,!(.int (J:Nat)),!(.int<|k0%6),none,none,none,none,none,none,none,none,none,none,none])))) ?_ ?_
 rotate_left
 .intro N hN;apply cM (λc=>?_) λc=>?_
  .symm;by_cases br:(12:Int)<(a1:Int);.rw [β br];show hN _ _ #[Z,12,by decide,by decide,Z]
   .rw [γ br];show hN _ _ #[Z,a1,ah.1,ah.2,Z]
  .symm;show hN _ _ #[Z,a1,ah.1,ah.2,Z]
 rintro _ _ ⟨rfl,J,b9,ax,rfl⟩;rename_i H0;apply#[a,ns,1,Z,W,?_];apply#[_,Z,λcs d1 c3 bk ci cj=>?_];replace W:=c3.seq W;clear c3;apply#[a,ns,2,Z,W,?_];apply#[_,cs,J,Z,bk,ax,λlt H1 O s1 _ X G bm a2 b5=>?_];replace W:=s1.seq W;clear s1;have gd:Fo.GoodL J O:=by
  show#[bm,a2,?_,λz mz=>?_,λz mz=>?_,λz mz=>(G z mz).2.2.2.2];.show (O.map (·.2.1)).Nodup;rw[b5];show List.Pairwise.map _ (λ{a b} n e=>n (List.cons.inj<|uK.mp e).1)<|List.Pairwise.sublist (Ę _ _) ci
  .have:z.2.1∈O.map (·.2.1):=Zp.mpr #[z,mz,Z];rw[b5]at this;let#[c,mc,e]:=Zp.mp this;rw[<-e];show cj c<|ŋ mc
  .obtain ⟨_,_,h1,h2,_⟩:=G z mz;show#[h1,h2]
 apply uI (λz:Lz=>↥z.1) (zs:=O) (gI X) (cU a2) (λi ys H'=>(Ex1 λ(ws:ϊ Lz)=>(An4 (ys=ws.map (λz:Lz=>↥z.1)) (ws.map (λz:Lz=>(z.2.1,z.2.2.2))=(O.take i).map (λz:Lz=>(z.2.1,z.2.2.2))) (Same H1 H') (∀z∈ws,H' z.1=!(.tup [.str z.2.1,↥z.2.2.1])/\H' z.2.2.1=!(.lst<|nv z.2.2.2))))) #[[],Z,Z,gN _,by simp] ?_ ?_ ?_ ?_;.rintro i ys H' ⟨ws,rfl,_,s',_⟩;show gI<|s'.get X
 .rintro i ys H' ⟨ws,rfl,e,_⟩;have:=Ö List.length e;rw[Qb,Qb,Ñ]at this;rw[Qb];show XR this
 .rintro i ⟨b,s,ca,co⟩ ys H' hi ⟨ws,rfl,e,s',hw⟩;let#[t1,t2,_]:=G _<|Yf hi;dsimp only at t1 t2;show cN (gL<|s'.get t1) Z ?_;apply mj (gI<|s'.get t2) λc2 bi=>?_;symm;intro t J;show#[ws++[(t,s,c2,co)],by simp,by rw[Â,e,Ð,hi,Â];rfl,(s'.new bi).new J,λz mz=>?_];rcases Æ.mp mz with mz|mz;.obtain ⟨g1,g2⟩:=hw z mz;show#[aF J<|aF bi g1,aF J<|aF bi g2]
  .rw [Zs.mp mz];show#[aj,aF J aj]
 rintro ys H' ⟨ws,rfl,e,s',hw⟩ lr a7;rw[à]at e;apply#[J,lr,ws,Z,b9,ax,#[aj,λz mz=>#[aF a7 (hw z mz).1,aF a7 (hw z mz).2]],Rk gd e,λf H3 A s3 hF ag=>?_];replace ag:Fo.Of O A:=#[by rw[<-e];show ag.1,ag.2];have wf:=gd.wf ag;have S3:Same H1 H3:=(s'.new a7).trans s3;replace W:=S3.seq W;replace X:=S3.get X;replace G:∀z∈O,LtB H3 J z:=λz mz=>(G z mz).same S3;clear S3 s3 s' hw a7 e;symm;have cx:(O.map (·.2.1)).Nodup:=gd.nd;show Qw (zs:=O.map λz:Lz=>(z.1,z.2.1,↥z.2.2.1)) (by rw[Ä];show X) (λz m=>?_) (by rw[Ä];show cx) (by rw[Qb];show cU a2) λd hd=>?_;.obtain ⟨y,my,rfl⟩:=Zp.mp m;show gL (G y my).1
 rw[Ä];let#[H4,a4]:∃H4,H4=upd H3 d (HO.dK (O.map ((λz:ό×ϐ×V=>((Sum.inr z.2.1:Key),z.2.2))∘λz:Lz=>(z.1,z.2.1,↥z.2.2.1)))):=#[_,Z];have s4:Same H3 H4:=by rw[a4];show ao hd _
 have ed:H4 d=!(HO.dK (O.map λz:Lz=>((Sum.inr z.2.1:Key),↥z.2.2.1))):=by rw[a4];show aj
 rw[<-a4];clear a4;replace W:=s4.seq W;replace X:=s4.get X;replace G:∀z∈O,LtB H4 J z:=λz mz=>(G z mz).same s4;replace hF:=hF.same s4;clear s4 hd;apply#[a,ns,3,Z,W,?_];apply kE X ?_;symm;rw[show(↑O:Int)+1=((↑O+1:Nat):Int)by show Z];show jM (by rw[bY];show cU<|đ bk) ?_;rw[Sv ()];symm;walk_at "ns";show#[_,cs.take<|↑O+1,lt,O,J,Z,TK,X,G,by rw[Ñ];rfl',bm,a2,λc mc=>cj c<|ŋ mc,List.Pairwise.sublist (Ę _ _) ci,λha H5 B I s5 hH hO dt=>?_];let#[o1,o2,o3,o4,o5]:=hO;replace W:=s5.seq W;replace G:∀z∈O,LtB H5 J z:=λz mz=>(G z mz).same s5;replace hF:=hF.same s5;replace ed:=s5.get ed;clear s5 X TK;have de:↑A=↑O:=by rw[ag.1.length_eq,Qb]
 have ap:∀M∈B,(M.map (·.1)).Nodup:=λM D=>dB (o3 M D).1;have Y:∀M∈B,∀q∈M,0<=q.2/\q.2<↑B:=λM D q mq=>((o3 M D).2 q mq).2;have cm:∀M∈B,M.length<=42:=λM D=>by
  have:=f9 (m:=cs.map λc=>tx [c]) (ap M D) λs ms=>by let#[q,mq,rfl]:=Zp.mp ms;let#[#[c,mc,e],_]:=(o3 M D).2 q mq;show Zp.mpr #[c,ŋ mc,e.symm]
  rw[Qb,Qb]at this;show qgL this bk
 have sz:Zf A B:=#[o1,cU o2,λM D=>#[cm M D,Y M D],by rw[de];show dt];have bl:∀s,Fo.lk (j5 O) s=Fo.lk A s:=λs=>(Rm ag.1 (dB ag.2) s).symm;have ad:∀M∈B,M.length<=1000:=λM D=>by have:=cm M D;show cU this
 apply#[a,ha,d,ns,O,B,I,Z,W,cb,hH,ed,cx,λz mz=>#[(G z mz).2.1,(G z mz).2.2.2.1],bm,a2,#[o1,cU o2],λM D=>#[ad M D,ap M D,λq mq=>#[by let#[#[c,_,e],_]:=(o3 M D).2 q mq;show#[c,e],Y M D q mq]],o5,λdk H6 s6=>?_,λH6 p cp R c5 a8 c9 mR a5 ar=>?_]
 .have a9:∀p R,Gw A B 0 p R->(R:Int)∉I:=λp R g=>dk p R (Nb (λs=>(bl s).symm) g);symm;walk_at "ns";show#[f,ha,J,A,B,I,Z,hF.same s6,wf,(hH.same s6).g,sz,λN S fz hN bg db hD=>#[λ_ H7 s7=>?_,λH7 L s7 cn _=>?_]]
  rotate_left;.obtain ⟨z,mz,k,hk,_⟩:=cn;let#[p,R,g,mR]:=Nf ap Y (λe me=>(o5 e me).1) hD mz hk;show μ mR<|a9 p R g
  have S7:=s6.trans s7;have dl:∀xs,Zb A xs B I=none:=λxs=>by have P:IsP A xs B I (Fj A xs B I):=zV wf;unfold Zb;rw[P.best wf Y ↑xs 0 0 (ä _) (Ã _) o1,show PT (B.map<|aJ A) I ↑xs (↑xs-0) 0=[]from List.eq_nil_iff_forall_not_mem.mpr λp mp=>by let#[R,g,mR,_]:=xX ap Y _ _ _ p mp;show a9 p R g mR];rfl
  symm;intro pl ar;have s8:=ao (o:=.lst [.int 1]) ar;have al:upd H7 pl (.lst [.int 1]) pl=!(.lst [.int 1]):=aj;generalize upd H7 pl (.lst [.int 1])=H8 at s8 al⊢;have S8:=S7.trans s8;apply dw (S8.seq W) ?_;rw[Qb];symm;rw[show((↑ns:Nat):Int)%5=((↑ns%5:Nat):Int)by show Z];have h5:↑ns%5<5:=Nat.mod_lt _ (by decide);generalize ↑ns%5=n5 at h5;show#[pl,(n5:Int),[.int 1],Z,Z,al,(),(),by rw[Ó];show Í (show 1*n5<=100 by rfl') (by decide),λp1 dp=>?_];have e9:upd H8 p1 (.lst (List.replicate ((n5:Int)).toNat [V.int 1]).flatten) p1=!(.lst<|nv<|List.replicate n5 1):=by rw[aj,Ó];unfold nv;rw[List.map_replicate,List.flatten_replicate_singleton];rfl
  have s9:=ao (o:=.lst (List.replicate ((n5:Int)).toNat [V.int 1]).flatten) dp;generalize upd H8 p1 (.lst (List.replicate ((n5:Int)).toNat [V.int 1]).flatten)=H9 at s9 e9⊢;have S9:=S8.trans s9;apply#[f,ha,p1,J,A,B,I,List.replicate n5 1,Z,hF.same S9,wf,(hH.same S9).g,#[o1,cU o2],ad,Y,gI e9,by rw[ð];show cU<|â h5,λv bp as hN=>?_];rw[dl]at hN;obtain rfl:v=.non:=hN;symm;change Q (V.bl<|decide<|V.non=V.non) bp;rw[Ô Z];show q _
 have hG:Gw A B 0 p R:=Nb bl c9;have C:∀{b:ό}{o:HO},(∀kv,o≠.dK kv)->H5 b=!o->H6 b=!o:=λ{b o} n e=>c5.get (by simp only[Zs];intro h;rw[h,ed]at e;show n _ (Ý e).symm) e;have T:FnF K H6 f J A:=by let#[l,ob,fz,h1,ez,dn,h3,h4]:=hF;show#[l,ob,fz,C (λ_ z=>by cases z) h1,ez,dn,C (λ_ z=>by cases z) h3,λz mz=>#[C (λ_ z=>by cases z) (h4 z mz).1,C (λ_ z=>by cases z) (h4 z mz).2]]
 have U:HsT K H6 ha B I:=by let#[x1,x2,rs,y1,y2,y3,y4,y5]:=hH;show#[x1,x2,rs,C (λ_ z=>by cases z) y1,y2,C (λ_ z=>by cases z) y3,λr mr=>?_,C (λ_ z=>by cases z) y5];let#[us,u1,u2,u3]:=y4 r mr;show#[us,u1,C (λ_ z=>by cases z) u2,λz mz=>C (λ_ z=>by cases z)<|u3 z mz]
 have ae:SqL K H6 a (ns.map V.int):=by
  rcases W with(h|⟨o,h⟩)|h;.show .inl (.inl (C (λ_ z=>by cases z) h))
  .show .inl (.inr #[o,C (λ_ z=>by cases z) h])
  .show .inr h
 have ai:∀z∈O,H6 z.2.2.1=!(.lst<|nv z.2.2.2):=λz mz=>C (λ_ z=>by cases z) (G z mz).2.1;clear C c5 hF hH W;symm;walk_at "ns";show(show ∀Kc:VK,(∀(mo:ύ Int)(H7:Hp),Same H6 H7->(∀m,mo=!m-> -1<=m)->(∀F R',Gw A B 0 F R'->(R':Int)∈I->F≠p->↑(bU F)=↑(bU p)->∃m,mo=!m/\2*m<((Mm.bh (bU p) (bU F):Nat):Int))->Kc (oI mo) H7)->(fS K) [↥f,↥ha] H6 Kc E0 fromλKc h=>?_) _ ?_
 .show #[f,ha,J,A,B,I,Z,T,wf,U.g,sz,λN S fz hN bg db hD=>?_];have dy:∀ws∈B.map<|aJ A,∀w∈ws,1<=↑w.2.1:=λws dz w mw=>by let#[M,D,rfl]:=Zp.mp dz;show(wf.c1 _<|Fo.d9 (mD mw).1).1
  have cf:∀r∈cV (B.map<|aJ A) N,∀w∈(B.map<|aJ A).getD r.toNat [],w.2.2∈cV (B.map<|aJ A) N:=λr mr w mw=>by let#[k,hk]:=ā.mp mr;show yd (Ò (À.mp hk).1 hN) hk<|Zp.mpr #[w,mw,Z]
  have c8:((0:Nat):Int)∈cV (B.map<|aJ A) N:=by let#[E,e]:=qF (λr:Int=>((B.map<|aJ A).getD r.toNat []).map (·.2.2)) 0 0 N;rw[ī]at e;change(0:Int)∈dC _ 0 N;rw[e];show ç _ Ì
  have b6:∀F R',Gw A B 0 F R'->(R':Int)∈I->F≠p->↑(bU F)=↑(bU p)->∃z∈qG (B.map<|aJ A)<|cV (B.map<|aJ A) N,∃k,kY fz (mH z) k/\vq z+k.1<=Mm.bh (bU p) (bU F):=λF R' g' m' ne hl=>by let#[y,hy,da]:=N6 dy cf c8 hG g' (λe=>ne e.symm) hl.symm mR m';show hy.low bg hD (0,0)<|(hD.e y #[(bg y).mpr hy.rch,da]).resolve_right id
  show#[λhn H7 s7=>h none H7 s7 (λm e=>by cases e) λF R' g' m' ne hl=>?_,λH7 L s7 cn ct=>h (!(((L:Int)-1)/2)) H7 s7 (λm e=>by cases e;rfl') λF R' g' m' ne hl=>?_];.obtain ⟨z,mz,k,hk,_⟩:=b6 F R' g' m' ne hl;show μ hk<|hn z mz k
  .obtain ⟨z,mz,k,hk,cq⟩:=b6 F R' g' m' ne hl;have:=ct z mz k hk;show#[_,Z,()]
 intro mo H7 s7 af ab;replace T:=T.same s7;replace U:=U.same s7;replace ae:=s7.seq ae;replace ai:∀z∈O,H7 z.2.2.1=!(.lst<|nv z.2.2.2):=λz mz=>s7.get<|ai z mz;replace a8:=Rd.same a8 s7;clear s7;apply gW (λz=>by cases z) ?_;walk_at "gj";walk_at "ns";with_reducible show iz (λa3 H'=>(An2 (H'=H7)<|a3=[!↥a,!(.int (J:Nat)),!(.int<|k0%6),!(.str<|tx cs),!↥lt,!↥f,!↥d,!↥ha,!(.str<|tx cp),!(oI mo),none,none,none,none])) ?_ ?_
 rotate_left;.intro N hN;cases mo with
  |none=>apply iu Z ?_;apply hN _ _ #[Z,Z]|some m=>
   have:=af m Z;apply m6 (λ_=>?_) λz=>nomatch z;apply#[m,Z,?_];symm;change lN (.int m) _ _ _;apply gW () ?_;apply hN _ _ #[Z,Z]
 rintro _ _ ⟨rfl,rfl⟩;rename_i H7;have ce:↑cp=↑p:=by have:=Ö List.length a5;rw[Qb,Qb]at this;show this.symm
 have ay:=hG.lk;have h8:=hG.le8 wf;symm;intro sr c0;apply YS (λi σ H'=>(Ex2 λ(sa:ό) (o:ύ V)=>(An3 (Same H7 H') (H' sa=!(.lst<|nv<|bU<|p.take i))<|σ=[!↥a,!(.int (J:Nat)),!(.int<|k0%6),!(.str<|tx cs),!↥lt,!↥f,!↥d,!↥ha,!(.str<|tx cp),!(oI mo),!↥sa,o,none,none]))) #[sr,_,ao c0 _,aj,Z] ?_ ?_
 .rintro i c σ H' hc ⟨sa,o,S,av,rfl⟩;have cc:cp[i]?=!c:=by simpa[tx]using hc
  let#[w,hw]:∃w,p[i]?=!w:=#[_,Zl (by have:=(À.mp cc).1;show qgT this ce)];have ew:w.1=tx [c]:=by have:=Ö (·[i]?) a5;rw[Á,Á,hw,cc]at this;show Ý this
  have mw:=Yf hw;have el:=ay w mw;rw[ew,<-bl]at el;let#[z,mz,ez,ev]:=qm el;have dg:=DGet.r (k:=Sum.inr<|tx [c])<|Rd.same a8 S;rw[ev]at dg;have pl:↑(bU<|p.take i)<=8*↑(p.take i):=zX (p.take i) λy my=>h8 y<|ŋ my;have d3:↑(p.take i)<=100:=by rw[Ñ];show RT ar
  have w8:=h8 w mw;apply#[d,_,Z,dg,?_];apply Z1 av (S.get<|ai z mz) (by rw[Qb,Qb,ez];rfl') λp2 dq=>?_;apply#[p2,_,S.new dq,?_,Z];rw[aj,Ð,hw,ez];change _=!(HO.lst<|nv<|bU<|p.take i++[w]);rw[show bU (p.take i++[w])=bU (p.take i)++w.2.1 by unfold bU;rw[Â,List.flatten_append];simp];unfold nv;rw[Â]
 rintro σ H8 ⟨sa,o,s8,av,rfl⟩;rw[show(tx cp).cps.size=↑cp from Z,ce,à]at av;have X8:↑(bU p)<=800:=by have:=zX p h8;rfl'
 have bx:∀x∈bU p,x<2^J:=λx mx=>by let#[l,ml,mx]:=List.mem_flatten.mp mx;let#[w,mw,rfl]:=Zp.mp ml;show wf.cb _ (Fo.d9<|ay w mw) x mx
 replace T:=T.same s8;replace U:=U.same s8;replace ae:=s8.seq ae;clear s8 a8 ai c0;walk_at "gj";with_reducible show iz (λa3 H'=>(An2 (H'=H8) (Ex1 λ(bn:ύ Int)=>(An3 (∀m,bn=!m-> -1<=m) (∀F R',Gw A B 0 F R'->(R':Int)∈I->F≠p->↑(bU F)=↑(bU p)->∃m,bn=!m/\2*m<((Mm.bh (bU p) (bU F):Nat):Int))<|a3=[!↥a,!(.int (J:Nat)),!(.int<|k0%6),!(.str<|tx cs),!↥lt,!↥f,!↥d,!↥ha,!(.str<|tx cp),!(oI bn),!↥sa,o,none,none])))) ?_ ?_
 rotate_left;.intro N hN;cases mo with
  |none=>apply iu Z ?_;apply hN _ _ #[Z,none,af,ab,Z]|some m=>
   have:=af m Z;apply m6 (λ_=>?_) λz=>nomatch z;apply#[a,ns,1,Z,ae,?_];apply#[_,2,Z,by decide,λmx _ _=>?_];apply cM (λc=>?_) λc=>?_;.symm;change pN (.int m) _ _ _;apply hN _ _ #[Z,!(m/2),λm' e=>by cases e;rfl',λF R' g' m' ne hl=>?_,Z];let#[m2,e,h2]:=ab F R' g' m' ne hl;cases e;show#[_,Z,()]
   .symm;show hN _ _ #[Z,!m,af,ab,Z]
 clear af ab;rintro _ _ ⟨rfl,mo,af,ab,rfl⟩;rename_i H8;symm;walk_at "ns";show#[a,sa,ns,bU p,J,mo,Z,ae,cb,gI av,cU X8,b9,ax,λsl H9 sp ss s9 ac be df cy cv=>?_];have a6:Mm.bh (bU p) (Mm.fu (bU p) ss)=↑ss:=by rw[<-Ff ax (Mm.jW _ _).symm bx<|Mm.xJ bx cy,N8 ax df cy]
 have am:↑(Mm.fu (bU p) ss)=↑(bU p):=Mm.jW _ _;generalize Mm.fu (bU p) ss=zz at be a6 am;replace T:=T.same s9;replace U:=U.same s9;clear s9 av ae;apply dM (gI ac) (aO (j:=0) (v:=↥sp) Z) ?_;apply mj (gI be) λlz cr=>?_;have as:=ao (o:=.lst<|nv zz) cr;have bd:upd H9 lz (.lst<|nv zz) lz=!(.lst<|nv zz):=aj;generalize upd H9 lz (.lst<|nv zz)=bp at as bd⊢;replace T:=T.same as;replace U:=U.same as;replace ac:=as.get ac;clear as cr be;symm;walk_at "ns";show#[f,ha,lz,J,A,B,I,zz,Z,T,wf,U.g,#[o1,cU o2],ad,Y,gI bd,cU<|jq am X8,λv bq c4 hN=>?_];replace ac:=c4.get ac;clear c4 bd T U;have P:IsP A zz B I (Fj A zz B I):=zV wf;have eT:Zb A zz B I=(((Fj A zz B I).getD 0 []).getD 0 none).map λt=>(qY A zz (B.map<|aJ A) (Fj A zz B I) ↑zz 0 0,t.1,t.2):=Z;generalize Fj A zz B I=rows at P eT;have hb:=P.best wf Y ↑zz 0 0 (ä _) (Ã _) o1;have mp:p∈PT (B.map<|aJ A) I ↑zz ↑zz 0:=by have:=Jq wf mR p ↑zz 0 hG<|jq (am.symm)<|Ã _;rw[<-am]at this;show this
 rw[Ν,ω]at hb;rcases xW ((PT (B.map<|aJ A) I ↑zz ↑zz 0).map λp=>Mm.bh (bU p) zz)with⟨_,b⟩|⟨t,b1,b2,b3,b4⟩;.rw [Τ]at b;rw[b]at mp;cases mp
 rw[b1]at hb;have n1:t.1<=↑ss:=by rw[<-a6];show b3 _<|Zp.mpr #[p,mp,Z]
 let#[R0,j1,j2,j3,j4]:=P.path wf Y ap ↑zz 0 0 t (ä _) o1 (Ã _) hb;rw[eT,hb]at hN;let#[tu,rfl,aw]:=hN;dsimp only at aw;have cz:qY A zz (B.map<|aJ A) rows ↑zz 0 0∈PT (B.map<|aJ A) I ↑zz ↑zz 0:=by have:=Jq wf j2 _ ↑zz 0 j1<|đ j3;rw[show↑(bU<|qY A zz (B.map<|aJ A) rows ↑zz 0 0)=↑zz by show j3]at this;show this
 generalize qY A zz (B.map<|aJ A) rows ↑zz 0 0=path at j1 j3 j4 aw cz;rw[ω]at j4;have bb:(∀m,mo=!m->0<=m)->∀F∈PT (B.map<|aJ A) I ↑zz ↑zz 0,Mm.bh (bU F) zz<=↑ss->F=p:=λh0 F bo cq=>by
  show Decidable.byContradiction λne=>?_;let#[R',g',m',l']:=xX ap Y _ _ _ F bo;let#[m,em,h2]:=ab F R' g' m' ne<|Eq.trans l' am;have c6:=Mm.xH (bU p) zz (bU F) am.symm l'.symm;rw[a6,Mm.iQ zz]at c6;have:=h0 m em;rcases cv m em with e|e;.rw [e,ĝ]at c6 cq;rfl'
  .rfl'
 have b0:(∀m,mo=!m->0<=m)->path=p/\t.1=↑ss/\t.2=1:=λh0=>by
  have e1:=bb h0 path cz<|jq j4 n1;subst e1;have e2:t.1=↑ss:=by show Eq.trans (j4.symm) a6
  show#[Z,e2,?_];have h1:1<=t.2:=by rw[b4];show List.countP_pos_iff.mpr #[t.1,b2,by simp]
  have h2:t.2<=1:=by
   rw[b4,List.countP_map,List.countP_eq_length_filter];have cw:(PT (B.map<|aJ A) I ↑zz ↑zz 0).Nodup:=İ (λ{x y} h e=>by rw[e]at h;show ŭ _ h) (Ez (es:=I) (W6 wf λM D=>(o3 M D).1) ↑zz ↑zz 0);have:=f9 (l:=(PT (B.map<|aJ A) I ↑zz ↑zz 0).filter ((λx=>decide<|x=t.1)∘λp=>Mm.bh (bU p) zz)) (m:=[path]) (cw.filter _) λF bo=>by let#[h3,h4]:=ò.mp bo;have h5:Mm.bh (bU F) zz=t.1:=ô h4;rw[bb h0 F h3 ()];show Ì
   show this
  show Ż h2 h1
 have rg:(∀m,mo=!m->0<=m)->∀u,bq u=none->(aE K) [↥tu,↥u] (upd bq u<|.tup [.str<|tx cp,.int (↑ss:Nat),.int 1]) Q E0:=λh0 u hu=>by
  let#[e1,e2,e3]:=b0 h0;show#[tu,u,cp,↑ss,Z,aF hu ?_,aj,λc mc=>?_,q _];.rw [aw,e1,a5,join_ones,e2,e3]
  .have:tx [c]∈p.map (·.1):=by rw[a5];show Zp.mpr #[c,mc,Z]
   let#[w,mw,ew]:=Zp.mp this;let#[n,en]:=wf.sg _<|Fo.d9<|ay w mw;dsimp only at en;rw[ew]at en;rw[(List.cons.inj<|uK.mp en).1];show Hs.Ij n
 cases mo with
 |none=>apply gW (λz=>by cases z) ?_;apply dM (gI ac) (aO (j:=1) (v:=.int (↑ss:Nat)) Z) ?_;symm;intro u hu;apply rg (λm e=>by cases e) u hu|some m=>
  have hm:=af m Z;apply cM (λc=>?_) λc=>?_
  .have em:m= -1:=V.int.inj c;have c7:ss=[]:=by
    rcases cv m rfl with e|e;.show e
    .rfl'
   rw[c7,ĝ]at n1;apply fH (.tup aw) (b:=true) Z ?_;apply cZ aw ?_;symm;rw[Ô (show((t.1:Nat):Int)=0 by show Eq.trans (qdE<|XQ n1) Z)];show q _
  .symm;show dM (gI ac) (aO (j:=1) (v:=.int (↑ss:Nat)) Z) ?_;symm;intro u hu;apply rg (λm' e=>by cases e;have:m≠ -1:=λe=>c (by rw[e];rfl);rfl') u hu
theorem Xw(h:gl K vs H Q E):↑vs=1:=by let#[_,_,rfl,_]:=h;rfl
end Pg
set_option Elab.async false
set_option linter.all false
set_option maxRecDepth 100000
namespace Pg
open PySem L2 PySem.W
set_option maxHeartbeats 0
inductive DI(K:Frag)(n:ϐ)(st:Stmt)(dv:ϋ):Prop|mk {f:ό} {oc kV dc pm cd ct:ϋ} {od an:ύ ό} {sl:ϔ (ύ ϋ)} (a:nsIn K mainGlobals n=!(!(.ref f))) (l:K.lookup f=!#[oc,od,.func (fnOf n n (dR st) (dh st) (aY st) dv kV dc pm an cd ct),sl]) (q:codeIn K cd n=true) (k:keepIn K (.ref f)=true):DI K n st dv
noncomputable def dvO:ύ ό->ϋ
 |none=>.none|some t=>.ref t
def Nt{i:Nat}(h:Ro K n=Rp t n i):DI K n (top i) (dvO t):=by
 unfold Ro Rp at h;split at h
 .rename_i f v;split at h
  .rename_i c L d M w;let#[N,b,e]:=Î.mp h;simp only[Prod.mk.injEq]at e;let#[rfl,l,m,o,p,q,r,s,u,j,a]:=e;let#[G,I,H,B,J,E,C,D,F,k,A,x,g,z,y]:=d;dsimp only at l m o p q r s u j b;subst l m o p q r s u;split at b;.cases b;show .mk v w j a
   .cases b;show .mk v w j a
   .cases b
  .cases h
 .cases h
def vC(h:exB K C=Xy):ExcK K C:=by simp only[exB,Xy,Prod.mk.injEq,List.cons.injEq,and_true]at h;let#[a,#[b,c,d,e],f,g,i]:=h;show#[a,b,c,d,e,f,g,i]
def ju{a d:Type}{f:a->d}{l:ϊ a}{r:ϊ d}(h:l.map f=r)(i:Nat){b:a}{c:d}(g:l[i]?=!b)(e:r[i]?=!c):f b=c:=by rw[<-h,Á,g]at e;show Ý e
def Aq(h:obT K a=!(c,b)):∃te tn ts,K.lookup a=!#[c,te,.seq b.toArray tn,ts]:=by
 unfold obT at h;split at h;.rename_i d;cases h;show#[_,_,_,d]
 .cases h
def ck{c:ϒ}{d:Nat}(X:K.In h)(G:h.Ns mainGlobals mg)(D:DI K n st .none)(b:∀(kV i p:ϋ)(an:ύ ό)(g m:ϋ)(us:ϊ ϋ),↑us=↑e->bindArgs (fnOf n n (dR st) (dh st) (aY st) .none kV i p an g m) #[us,[]]=pure (e.zip us))(o:∀f fd,Fun K n n st f fd->FnOk P w K mg c Gh d f fd e j):Cal P w K mg c d n e j:=by
 let#[a,l,q,k]:=D;show#[_,_,o _ _ (yL l q k),(yL l q k).binds b,k,mg_of X G a]
section
def v0{X:Cx}:=@pv X 0
def v1{X:Cx}:=@pv X 1
def v2{X:Cx}:=@pv X 2
def v3{X:Cx}:=@pv X 3
def v4{X:Cx}:=@pv X 4
def v5{X:Cx}:=@pv X 5
def v6{X:Cx}:=@pv X 6
def v7{X:Cx}:=@pv X 7
def v8{X:Cx}:=@pv X 8
def v9{X:Cx}:=@pv X 9
def v10{X:Cx}:=@pv X 10
def v11{X:Cx}:=@pv X 11
def v12{X:Cx}:=@pv X 12
def v13{X:Cx}:=@pv X 13
set_option hygiene false
local macro_rules|`(#[$a])=>`(Ba $a dX)|`(#[$a,$b,*])=>`(Ba $a #[$b,*])
local macro_rules|`(($a,$b))=>`(vL $a (au $b))|`(($a,$b,$c,*))=>`(vL $a ($b,$c,*))
local macro_rules|`($a + $b)=>`(nR (P0 K rfl) $a $b (λ _ _=>rfl))
local macro_rules|`($a - $b)=>`(nR (Gv K rfl) $a $b (λ _ _=>rfl))
local macro_rules|`($a < $b)=>`(G6 $a rfl (by assumption) (by decide +kernel) $b)
local macro_rules|`($a > $b)=>do
 let z:=("z_isinstance z_bool z_int z_len z_str z_ord z_sum z_zip z_dict z_range z_tuple z_sorted z_enumerate z_set z_min z_max z_list g_GREATEST_HEIGHT g_LEFT_OUT g_MOST_COLUMNS g_MOST_LETTERS g_MOST_ROOMS g_GREATEST_ON_WHEEL k_BlotError k_NotAlike k_NoFont k_NoHouse".splitOn " ").toArray.map λs=>Lean.mkIdent s.toName
 `(yP ($a X G e2 $z*) hr (by decide) rfl $b)
local macro_rules|`($a && $b)=>`(eN (i := $a) nd rfl (Or.inl rfl) $b)
local macro_rules|`(↑$a)=>`(lG (i := $a) nd rfl (Or.inl rfl))
local macro_rules|`($a :: $b :: $c)=>`(Ua Ķ rfl $a $b $c)
local macro_rules|`($a ++ $b)=>`(pM K rfl Ŏ PySem.F.slot_list_append PySem.F.type_list_append Dk $a $b)
local macro_rules|`($a ^ $b ^ $c ^ $d)=>`(Cal pWo w K mg base $a $b $c ($d K))
local macro_rules (kind:=«term{_}»)|`(«term{_}»| {$x,*})=>let a:=x.getElems;if a.size == 2 then `(lG (i := $(a[0]!)) (show List.Nodup ($(a[1]!) : List Str) by ac_nf) rfl (Or.inl rfl)) else if a.size == 6 then `(ck (st:=top $(a[1]!)) X G (Nt (ju e2 $(a[0]!) rfl rfl)) (by intro _ _ _ _ _ _;first|exact ar1 λ _=>rfl|exact ar2 λ _ _=>rfl|exact ar3 λ _ _ _=>rfl|exact ar4 λ _ _ _ _=>rfl|exact ar5 λ _ _ _ _ _=>rfl) λ _ _ F=>F.ok (N := $(a[2]!)) ⟨rfl,rfl,rfl,by ac_nf,rfl,by ac_nf,by ac_nf⟩ (λ _ _ _ _ h=>by cases h;subst_vars;rfl) λ cdv A outer s H vs Q E hr h=>by have nd : List.Nodup $(a[2]!) := (by ac_nf);obtain ⟨Eh,h⟩ := $(a[3]!) h;exact ⟨$(a[4]!) K E Eh,$(a[5]!),h⟩) else `(Yg $(a[0]!) $(a[1]!) rfl $(a[2]!) (show CScope (aY (top $(a[3]!))) _ from ⟨rfl,by ac_nf,by ac_nf,by ac_nf⟩) (show capOk $(a[0]!) $(a[1]!) ($(a[4]!) : List Str) _ = true from by ac_nf) (λ _ _ _ _ _ _=>$(a[5]!)) (λ _ _ _ _ _ _=>$(a[6]!)) (λ _ _ _ _ _ _=>$(a[7]!)))
section
variable {w:World} {K:Frag} {h:Heap} {mg:Str->Option Value} {base:Heap} (X:K.In h) (G:h.Ns mainGlobals mg) (e2:Xz.map (λd=>Ro K d.1)=Xz.map (λd=>Rp none d.1 d.2)) (z_isinstance:mg "isinstance"=none) (z_bool:mg "bool"=none) (z_int:mg "int"=none) (z_len:mg "len"=none) (z_str:mg "str"=none) (z_ord:mg "ord"=none) (z_sum:mg "sum"=none) (z_zip:mg "zip"=none) (z_dict:mg "dict"=none) (z_range:mg "range"=none) (z_tuple:mg "tuple"=none) (z_sorted:mg "sorted"=none) (z_enumerate:mg "enumerate"=none) (z_set:mg "set"=none) (z_min:mg "min"=none) (z_max:mg "max"=none) (z_list:mg "list"=none) {gv_GREATEST_HEIGHT:Value} (g_GREATEST_HEIGHT:mg "GREATEST_HEIGHT"=some gv_GREATEST_HEIGHT/\RelV (V.int 60) gv_GREATEST_HEIGHT) {gv_LEFT_OUT:Value} (g_LEFT_OUT:mg "LEFT_OUT"=some gv_LEFT_OUT/\RelV (V.int 37) gv_LEFT_OUT) {gv_MOST_COLUMNS:Value} (g_MOST_COLUMNS:mg "MOST_COLUMNS"=some gv_MOST_COLUMNS/\RelV (V.int 8) gv_MOST_COLUMNS) {gv_MOST_LETTERS:Value} (g_MOST_LETTERS:mg "MOST_LETTERS"=some gv_MOST_LETTERS/\RelV (V.int 40) gv_MOST_LETTERS) {gv_MOST_ROOMS:Value} (g_MOST_ROOMS:mg "MOST_ROOMS"=some gv_MOST_ROOMS/\RelV (V.int 40) gv_MOST_ROOMS) {gv_GREATEST_ON_WHEEL:Value} (g_GREATEST_ON_WHEEL:mg "GREATEST_ON_WHEEL"=some gv_GREATEST_ON_WHEEL/\RelV (V.int 1000) gv_GREATEST_ON_WHEEL) (k_BlotError:mg "BlotError"=some (.ref aK0)/\ExcK K aK0) (k_NotAlike:mg "NotAlike"=some (.ref aK3)/\ExcK K aK3) (k_NoFont:mg "NoFont"=some (.ref aK1)/\ExcK K aK1) (k_NoHouse:mg "NoHouse"=some (.ref aK2)/\ExcK K aK2)
include X G e2 z_isinstance z_bool z_int z_len z_str z_ord z_sum z_zip z_dict z_range z_tuple z_sorted z_enumerate z_set z_min z_max z_list g_GREATEST_HEIGHT g_LEFT_OUT g_MOST_COLUMNS g_MOST_LETTERS g_MOST_ROOMS g_GREATEST_ON_WHEEL k_BlotError k_NotAlike k_NoFont k_NoHouse
theorem yl:1^"is_whole"^["thing"]^fm:={0,3,IK,VB,Iz,(au (aC (fY (cJ K Z<#[v0,gO (v:=.ty "int") (u:=.type "int") Z z_int (by ac_nf) Z]) (j8 (Fx (cJ K Z<#[v0,gO (v:=.ty "bool") (u:=.type "bool") Z z_bool (by ac_nf) Z]))))))}
theorem Zu:2^"is_height"^["thing"]^eR:={1,4,IW,VD,IV,(au (aC (fY (yl>#[v0]) (j8 (vP gP gP aa v0 (j7 Z g_GREATEST_HEIGHT.1 g_GREATEST_HEIGHT.2))))))}
theorem Tu:1^"is_sign"^["thing"]^fx:={2,5,J2,VF,J1,(aV (PW.pt (p7 (eG (bW K Z (cJ K Z<#[v0,gO (v:=.ty "str") (u:=.type "str") Z z_str (by ac_nf) Z]) (λ_=>Z))) (mK (aD vO (az K Z<#[v0]) aa (aG _))))) (au (aC p6)) aH,aC (fY (vP rY rY ik v0 ik) (j8 (cW vO (G3<#[v0]) (j7 Z g_LEFT_OUT.1 g_LEFT_OUT.2) (aG _)))))}
theorem Zv:2^"is_column"^["height","thing"]^fb:={3,6,J4,VG,J3,(au (aC (fY (yl>#[v1]) (fY (cW Rr v1 aa (aG _)) (j8 (cW gP (Bl K Z plainAttrs_int PyProof.Rows.slot_int_bit_length PyProof.Rows.type_int_bit_length Dy v1) v0 (aG _)))))))}
theorem Zw:1^"inked"^["column"]^fN:={4,7,J6,VH,J5,(1&&aa,fM Ķ (aD gm v0 aa (aG _)) (0&&aB Uc v0 (aB mO v0 aa),FJ (i:=1) nd Z (Or.inl Z) aa FN),aC v1)}
theorem Zx:2^"apart"^["one","other"]^f4:={5,8,J8,VJ,J7,(au (aC (Zw>#[aB FT v0 v1])))}
theorem Zy:1^"check_alike"^["one","other"]^dA:={6,16,Ja,VL,J9,(au (aV (aD vO (az K Z<#[v0]) (az K Z<#[v1]) (aG _)) (au cB) aH))}
theorem Tv:3^"gap"^["one","other"]^gu:={7,15,zO,VM,Jb,(bJ (Zy>#[v0,v1]),aC (rZ K Z Z<#[{[none,none],["left","right"],Ql K Z Z Z z_zip #[v0,v1],15,zO,bR K Z Z (aK {0,["left","right"]} (aK {1,["left","right"]} bO)),bQ,(Zx>#[v0,v1])}]))}
theorem Zz:1^"lettered"^["letters","doors"]^fh:={8,19,zP,VN,Jc,(au (aC {[none,none,some 0],["sign","room","letters"],gA K Z v1,19,zP,bR K Z Z (aK {0,["sign","room","letters"]} (aK {1,["sign","room","letters"]} bO)),gQ (fX (pH (bA hr) v0 v2) (by with_unfolding_all rfl)),b8 #[v0,cR (bA hr) v2 v0 (λ_ _=>Z),v1]}))}
theorem CV:2^"ways_of"^["font","house"]^fy:={9,18,zQ,VP,Jd,(eN (i:=2) nd Z (Or.inr Z) (bN (jf K Z Z) Z z_dict (by ac_nf) #[v0+aa]),aC {[none,some 2],["doors","letters"],gA K Z (v1+aa),18,zQ,{0,["doors","letters"]},bQ,(Zz>#[v1,v0])})}
theorem Tw:4^"gaps_at"^["font","strip","x"]^fE:={10,22,Jg,VR,Jf,(3&&gG,gA K Z (v0+aa)::bR K Z Z (aK ↑4 (aK ↑5 bO))::(6&&bZ (wu K Z) v1 (cI v2) (cI (aB aQ v2 (az K Z<#[v5]))),aV (aD dI (az K Z<#[v6]) (az K Z<#[v5]) (aG _)) (au (dW (bA hr) v3 v4 (Tv>#[v5,v6]) Z)) aH),aC v3)}
theorem ZC:1^"thing_through"^["way","gaps","paper","x"]^gx:={11,24,SN,Z9,SM,(4&&v0+aa,aV (fX (jT (bA hr) v4 v1) (by with_unfolding_all rfl)) (au (aC bG)) aH,5&&v2-aB aQ v3 (az K Z<#[v0+aa])-(v0+aa),aV (aD gb v5 bG (aG _)) (au (aC bG)) aH,aC (b8 #[aB aQ (cR (bA hr) v1 v4 (λ_ _=>Z)) (v5+aa),v5+aa]))}
theorem ZD:1^"merged"^["one","other"]^fF:={12,25,Jj,W3,Ji,(aV (aD gb v0 bG (aG _)) (au (aC v1)) aH,aV (aD gb v1 bG (aG _)) (au (aC v0)) aH,aV (aD dI (v0+aa) (v1+aa) (aG _)) (au (aC (b8 #[v0+aa,aB aQ (v0+aa) (v1+aa)]))) aH,aC (jy (aD jm (v0+aa) (v1+aa) (aG _)) v0 v1))}
theorem ZF:2^"thing_at"^["leads","gaps","paper","x"]^fk:={13,23,Jl,W4,Jk,(4&&bG,aX K Z v0::↑5::au (4&&ZD>#[v4,ZC>#[v5,v1,v2,v3]]),aC v4)}
theorem ZG:5^"near_paper"^["font","house","strip"]^eK:={14,21,qx,W7,Jt,(3&&CV>#[v0,v1],eN (i:=4) nd Z (Or.inr Z) {[none],["x"],bK Z z_range #[aB aQ (az K Z<#[v2]) aa],21,qx,{0,["x"]},bQ,cg dX},tZ {[none,some 1],["room","house"],bK Z z_range #[az K Z<#[v3]],21,qx,{0,["room","house"]},bQ,jy (aD (fG K Z) v0 (v1+aa) (by with_unfolding_all rfl)) (b8 #[aa,aa]) bG} (tY v4 (az K Z<#[v2]) set_list),DR Z z_range #[aB mO (az K Z<#[v2]) aa,iC fD aa,iC fD aa]::lG (i:=5) nd Z (Or.inr Z)::(eN (i:=6) nd Z (Or.inr Z) (Tw>#[v0,v2,v5]),tZ {[none,some 6,some 4,some 5],["leads","gaps","paper","x"],aX K Z v3,21,qx,{0,["leads","gaps","paper","x"]},bQ,(ZF>#[v0,v1,v2,v3])} (tY v4 v5 set_list)),aC v4)}
theorem ZJ:2^"first_way"^["leads","gaps","paper","x","far"]^e8:={15,28,Jv,W8,Ju,(aX K Z v0::↑5::(6&&ZC>#[v5,v1,v2,v3],aV (PW.pt (fC (aD jQ v6 bG (aG _)) (dU (aD dI (v6+aa) v4 (aG _))))) (au (aC v5)) aH),aC bG)}
theorem ZK:5^"first_text"^["font","house","strip","paper"]^dQ:={16,27,Jy,W9,Jx,(4&&CV>#[v0,v1],5&&cg dX,6&&aa,7&&aa,fM Ķ (aD jm v7 (az K Z<#[v2]) (aG _)) (8&&ZJ>#[v4-v6,Tw>#[v0,v2,v7],v3,v7,v3-v7-v6+aa],bJ (v5++#[v8+aa]),FJ (i:=7) nd Z (Or.inl Z) (az K Z<#[v8+aa]) FN,6&&v8+aa),aC (pM K Z PySem.F.plainAttrs_str PySem.F.slot_str_join PySem.F.type_str_join (Gx K Z) ik #[v5]))}
theorem Tz:6^"nearest"^["font","house","strip"]^fq:={17,26,JB,Wa,Jz,(3&&ZG>#[v0,v1,v2],4&&v3-aa-aa,aV (aD gb v4 bG (aG _)) (au (aC bG)) aH,aC (b8 #[ZK>#[v0,v1,v2,v3],v4+aa,v4+aa]))}
theorem ZL:3^"made_letter"^["height","columns"]^cS:={18,33,JD,Wb,JC,(aV (eG (jz gP gP aa (az K Z<#[v1]) (j7 Z g_MOST_COLUMNS.1 g_MOST_COLUMNS.2))) (au cB) aH,aX K Z v1::↑2::au (aV (eG (bW K Z (Zv>#[v0,v2]) (λ_=>Z))) (au cB) aH),aC (bN (eV K Z) Z z_tuple (by ac_nf) #[v1]))}
theorem ZM:4^"make_font"^["height","letters"]^eP:={19,32,JH,Wc,JG,(aV (eG (bW K Z (Zu>#[v0]) (λ_=>Z))) (au cB) aH,aV (eG (jz gP gP aa (az K Z<#[v1]) (j7 Z g_MOST_LETTERS.1 g_MOST_LETTERS.2))) (au cB) aH,2&&gG,aX K Z v1::bR K Z Z (aK ↑3 (aK ↑4 bO))::(aV (eG (bW K Z (Tu>#[v3]) (λ_=>Z))) (au cB) aH,aV (fX (pH (bA hr) v3 v2) (by with_unfolding_all rfl)) (au cB) aH,dW (bA hr) v2 v3 (ZL>#[v0,v4]) Z),aC (b8 #[v0,bN (yV K Z) Z z_tuple (by ac_nf) #[sJ Z Z z_sorted v2]]))}
theorem Nu:1^"check_rooms"^["rooms"]^bP:={20,37,JL,Wd,JK,(au (aV (eG (jz gP gP aa v0 (j7 Z g_MOST_ROOMS.1 g_MOST_ROOMS.2))) (au cB) aH))}
theorem TF:2^"check_room"^["room","rooms"]^eA:={21,40,JN,We,JM,(au (aV (eG (PW.pt (fC (bW K Z (yl>#[v0]) (λ_=>Z)) (dU (jz gP jm aa v0 v1))))) (au cB) aH))}
theorem ZP:3^"made_doors"^["pairs","rooms"]^eC:={22,38,JR,Wg,JQ,(2&&gG,aX K Z v0::bR K Z Z (aK ↑3 (aK ↑4 bO))::(aV (eG (bW K Z (Tu>#[v3]) (λ_=>Z))) (au cB) aH,aV (fX (pH (bA hr) v3 v2) (by with_unfolding_all rfl)) (au cB) aH,bJ (TF>#[v4,v1]),dW (bA hr) v2 v3 v4 Z),aC (bN (eV K Z) Z z_tuple (by ac_nf) #[sJ Z Z z_sorted v2]))}
theorem ZQ:3^"made_ends"^["ends","rooms"]^eL:={23,39,JT,Wh,JS,(2&&gG,aX K Z v0::↑3::(bJ (TF>#[v3,v1]),aV (fX (pH (bA hr) v3 v2) (by with_unfolding_all rfl)) (au cB) aH,dW (bA hr) v2 v3 p6 Z),aC (bN (eV K Z) Z z_tuple (by ac_nf) #[wH Z<#[v2]]))}
theorem ym:4^"make_house"^["doors","ends"]^ei:={24,36,zY,Wi,JV,(eN (i:=2) nd Z (Or.inr Z) (az K Z<#[v0]),bJ (Nu>#[v2]),aC (b8 #[bN (eV K Z) Z z_tuple (by ac_nf) #[{[none,some 2],["pairs","rooms"],aX K Z v0,36,zY,{0,["pairs","rooms"]},bQ,(ZP>#[v0,v1])}],ZQ>#[v1,v2]]))}
theorem ZR:1^"room_behind"^["doors","sign"]^cK:={25,41,JX,Wj,JW,(gA K Z v0::bR K Z Z (aK ↑2 (aK ↑3 bO))::au (aV (aD dI v2 v1 (aG _)) (au (aC v3)) aH),aC bG)}
theorem TJ:5^"free"^["signs"]^gi:={26,45,zZ,Wl,JZ,(au (aC (ym>#[cg #[{[none],["sign"],Gu v0,45,zZ,{0,["sign"]},bQ,b8 #[v0,aa]}],cg #[aa]])))}
theorem ZS:2^"beginnings"^["words"]^dP:={27,47,K3,Wo,K1,(1&&Bg (pI ik p6 uf) Z Z (by simp) (by decide),aX K Z v0::↑2::au (mL Z z_range #[aa,aB aQ (az K Z<#[v2]) aa]::↑3::(dW (bA hr) v1 (bZ ir v2 cX (cI v3)) p6 Z,bJ (Nu>#[Ef<#[v1]]))),aC (wG Z<#[v1]))}
theorem ZV:1^"numbers_of"^["things"]^dL:={28,48,K5,Wq,K4,(1&&gG,wA K Z Z Z z_enumerate #[v0]::bR K Z Z (aK ↑2 (aK ↑3 bO))::au (dW (bA hr) v1 v3 v2 Z),aC v1)}
theorem ZW:5^"book"^["words"]^f6:={29,46,uX,Wr,K7,(eN (i:=1) nd Z (Or.inr Z) (ZV>#[ZS>#[v0]]),nU (i:=2) [none] ["number"] Z nd Z Z (lV v1) (show CScope (aY (top 46)) _ from⟨Z,by ac_nf,by ac_nf,by ac_nf⟩) (show capOk [none] ["number"] (uX:List Str) _=true from by ac_nf) (λ_ _ _ _ _ _=>{0,["number"]}) (λ_ _ _ _ _ _=>bQ) (λ_ _ _ _ _ _=>(cg dX)),lV v1::↑3::au (aV (aD vO v3 ik (aG _)) (au (bJ ((v2-cR (bA hr) v1 (bZ ir v3 cX (cI (iC fD aa))) (λ_ _=>Z))++#[b8 #[nR mU v3 (iC fD aa) (λ_ _=>Z),cR (bA hr) v1 v3 (λ_ _=>Z)]]))) aH),aC (ym>#[v2,{[none,some 1],["word","numbers"],aX K Z (xg K Z Z Z z_sorted Z z_set #[v0]),46,uX,{0,["word","numbers"]},bQ,cR (bA hr) v1 v0 (λ_ _=>Z)}]))}
theorem ZX:2^"check_wheel"^["numbers"]^bS:={30,50,K9,Ws,K8,(aV (aD dI (az K Z<#[v0]) aa (aG _)) (au cB) aH,gA K Z v0::↑1::au (aV (eG (PW.pt (fC (bW K Z (yl>#[v1]) (λ_=>Z)) (dU (jz gP gP aa v1 (j7 Z g_GREATEST_ON_WHEEL.1 g_GREATEST_ON_WHEEL.2)))))) (au cB) aH))}
theorem ZZ:1^"sums_doors"^["signs","many","rest","number","later"]^eJ:={31,51,Ab,Wu,Ka,(au (aC {[none,none,some 4,some 2,some 3,some 1],["worth","sign","later","rest","number","many"],Hk Z Z z_enumerate #[v0] (Oe aa Uh),51,Ab,bR K Z Z (aK {0,["worth","sign","later","rest","number","many"]} (aK {1,["worth","sign","later","rest","number","many"]} bO)),bQ,b8 #[v1,aB aQ v2 (aB aZ (aB aQ v3 (aB eO v0 v4)) v5)]}))}
theorem a1d:2^"leads_of_both"^["one","other","pair"]^fg:={32,53,T5,Zc,T4,(3&&cg dX,gA K Z (v0+aa+(v2+aa))::bR K Z Z (aK ↑4 (aK ↑5 bO))::(6&&ZR>#[v1+aa+(v2+aa),v4],aV (aD jQ v6 bG (aG _)) (au (bJ (v3++#[b8 #[v4,b8 #[v5,v6]]]))) aH),aC v3)}
theorem a00:5^"both"^["one","other"]^gg:={33,52,uZ,WD,Ko,(2&&cg #[b8 #[aa,aa]],eN (i:=3) nd Z (Or.inr Z) (wQ (bA hr) (b8 #[aa,aa]) aa),4&&cg dX,fM Ķ (aD jm (az K Z<#[v4]) (az K Z<#[v2]) (aG _)) (5&&a1d>#[v0,v1,v2-(az K Z<#[v4])],aX K Z v5::bR K Z Z (aK ↑6 (aK ↑7 bO))::au (aV (fX (jT (bA hr) v7 v3) (by with_unfolding_all rfl)) (dW (bA hr) v3 v7 (az K Z<#[v2]) Z,bJ (v2++#[v7])) aH),bJ (v4++#[{[none,none,some 3],["sign","pair","numbers"],aX K Z v5,52,uZ,bR K Z Z (aK {0,["sign","pair","numbers"]} (aK {1,["sign","pair","numbers"]} bO)),bQ,b8 #[v0,cR (bA hr) v2 v1 (λ_ _=>Z)]}])),nU (i:=8) [none,some 3,some 0,some 1] ["pair","numbers","one","other"] Z nd Z Z (aX K Z v2) (show CScope (aY (top 52)) _ from⟨Z,by ac_nf,by ac_nf,by ac_nf⟩) (show capOk [none,some 3,some 0,some 1] ["pair","numbers","one","other"] (uZ:List Str) _=true from by ac_nf) (λ_ _ _ _ _ _=>{0,["pair","numbers","one","other"]}) (λ_ _ _ _ _ _=>gQ (PW.pt (fC (aD (fG K Z) (v0+aa) (v2+aa) (by with_unfolding_all rfl)) (dU (aD (fG K Z) (v0+aa) (v3+aa) (by with_unfolding_all rfl)))))) (λ_ _ _ _ _ _=>(cR (bA hr) v1 v0 (λ_ _=>Z))),aC (ym>#[v4,v8]))}
theorem TQ:4^"costs_over"^["font","over"]^dS:={34,57,Kq,WF,Kp,(2&&gG,gA K Z (v0+aa)::bR K Z Z (aK ↑3 (aK ↑4 bO))::(5&&jR Z<#[az K Z<#[v4],az K Z<#[v1]],dW (bA hr) v2 v3 (Tv>#[bZ (lW K Z) v4 cX (cI v5),bZ (lW K Z) v1 cX (cI v5)]) Z),aC v2)}
theorem a01:1^"texts_to_rooms"^["ways"]^eI:={35,56,T7,Zd,T6,(1&&Bg (pI aa ik uf) Z Z (by simp) (by decide),2&&cg #[aa],fM Ķ (aD gm (az K Z<#[v2]) aa (aG _)) (3&&pM K Z Ŏ PySem.F.slot_list_pop PySem.F.type_list_pop Gf v2 #[aa],aX K Z (v0-v3)::bR K Z Z (aK ↑4 (aK ↑5 (aK ↑6 bO)))::au (aV (fX (jT (bA hr) v6 v1) (by with_unfolding_all rfl)) (dW (bA hr) v1 v6 (aB du (cR (bA hr) v1 v3 (λ_ _=>Z)) v4) Z,bJ (v2++#[v6])) aH)),aC v1)}
theorem TV:1^"stand_behind"^["way","ahead","over"]^aT:={36,58,Ku,WK,Ks,(3&&az K Z<#[v0+aa],aV (aD gP v3 (az K Z<#[v2]) (aG _)) (au (aC (b8 #[v0+aa,v1,bZ (lW K Z) v2 (cI v3) cX]))) aH,aC (b8 #[v1,v0+aa,bZ (lW K Z) (v0+aa) (cI (az K Z<#[v2])) cX]))}
theorem TX:5^"forks"^["font","ways"]^fT:={37,55,Ky,WM,Kw,(2&&gG,gA K Z (v0+aa)::bR K Z Z (aK ↑3 (aK ↑4 bO))::au (dW (bA hr) v2 v3 (TQ>#[v0,v4]) Z),5&&cg dX,lV (a01>#[v1])::↑6::au (wA K Z Z Z z_enumerate #[v1-v6]::bR K Z Z (aK ↑7 (aK ↑8 bO))::au (aX K Z (bZ (wu K Z) (v1-v6) cX (cI v7))::↑9::(10&&TV>#[v9,v8+aa,v8+aa],bJ (v5++#[b8 #[cR (bA hr) (cR (bA hr) v2 (v8+aa) (λ_ _=>Z)) (v9+aa) (λ_ _=>Z),v10,v6,v9,v8]])))),aC v5)}
theorem a02:2^"steps_by"^["ways","costs","stand"]^fe:={38,59,Ae,WN,KD,(au (aC {[none,some 1,some 2],["way","costs","stand"],aX K Z (v0-(v2+aa)),59,Ae,{0,["way","costs","stand"]},bQ,b8 #[v0+aa,cR (bA hr) v1 (v0+aa) (λ_ _=>Z),TV>#[v0,v2+aa,v2+aa]]}))}
theorem a03:6^"all_steps"^["font","house"]^eW:={39,60,vo,WR,KY,(2&&CV>#[v0,v1],3&&w5,4&&uB,nU (i:=5) [none] ["fork"] Z nd Z Z (aX K Z (TX>#[v0,v2])) (show CScope (aY (top 60)) _ from⟨Z,by ac_nf,by ac_nf,by ac_nf⟩) (show capOk [none] ["fork"] (vo:List Str) _=true from by ac_nf) (λ_ _ _ _ _ _=>{0,["fork"]}) (λ_ _ _ _ _ _=>bQ) (λ_ _ _ _ _ _=>(v0+aa)),fM Ķ (aD gm (az K Z<#[v5]) aa (aG _)) (6&&Bl K Z Ŏ PySem.F.slot_list_pop PySem.F.type_list_pop Us v5,aV (fX (sY (eX hr) v6 v4) (by with_unfolding_all rfl)) (aV (fX (jT (bA hr) (v6+aa) v3) (by with_unfolding_all rfl)) (au (dW (bA hr) v3 (v6+aa) (TQ>#[v0,v6+aa]) Z)) aH,uC (eX hr) v4 v6 (a02>#[v2,cR (bA hr) v3 (v6+aa) (λ_ _=>Z),v6]) Z,bJ (pM K Z Ŏ PySem.F.slot_list_extend PySem.F.type_list_extend rN v5 #[{[none],["step"],aX K Z (jg (eX hr) v4 v6 (λ_ _=>Z)),60,vo,{0,["step"]},bQ,(v0+aa)}])) aH),aC v4)}
theorem a04:1^"steps_back"^["onward"]^dV:={40,64,Le,WW,Ld,(1&&uB,xn v0::↑2::au (uC (eX hr) v1 v2 (cg dX) Z),Eg v0::bR K Z Z (aK ↑2 (aK ↑3 bO))::au (aX K Z v3::bR K Z Z (aK ↑4 (aK ↑5 (aK ↑6 bO)))::au (bJ (jg (eX hr) v1 v6 (λ_ _=>Z)++#[b8 #[v5,v2]]))),aC v1)}
theorem a05:1^"is_even"^["stand","ends"]^fv:={41,65,Lg,WX,Lf,(au (aC (fY (cW dI (az K Z<#[v0+aa]) aa (aG _)) (fY (cW (fG K Z) (v0+aa) v1 (by with_unfolding_all rfl)) (j8 (cW (fG K Z) (v0+aa) v1 (by with_unfolding_all rfl)))))))}
theorem a06:1^"let_wait"^["waiting","rest","backs"]^fo:={42,63,Li,X3,Lh,(au (aX K Z v2::bR K Z Z (aK ↑3 (aK ↑4 bO))::au (bJ (Qg (bA hr) v0 (b8 #[aB aQ (v1+aa) v3,aB aQ (v1+aa) aa]) (cg dX) ⟨Z,Z,Z,Z⟩++#[v4]))))}
theorem a07:2^"rests"^["onward","ends"]^fR:={43,62,Aj,X5,Lp,(2&&a04>#[v0],3&&uB,4&&wQ (bA hr) (b8 #[aa,aa]) {[none,some 1],["stand","ends"],xn v0,62,Aj,{0,["stand","ends"]},gQ (bW K Z (a05>#[v0,v1]) (λ_=>Z)),v0},fM Ķ (aD gm (mZ<#[v4]) aa (aG _)) (5&&Ei Z (bA hr)<#[v4],6&&Qf (bA hr) v4 v5 ⟨Z,Z,Z,Z⟩,aX K Z v6::↑7::au (aV (fX (sY (eX hr) v7 v3) (by with_unfolding_all rfl)) (uC (eX hr) v3 v7 v5 Z,bJ (a06>#[v4,v5,jg (eX hr) v2 v7 (λ_ _=>Z)])) aH)),aC v3)}
theorem TY:1^"grown"^["texts","sign","passes"]^f5:={44,68,Lr,X6,Lq,(3&&aB du (v0+aa) v1,aC (jy (bW K Z v2 (λ_=>Z)) (b8 #[v0+aa,v3]) (b8 #[v3,v0+aa])))}
theorem a1e:2^"texts_of_fork"^["ways","fork"]^gv:={45,67,Tc,Zi,T9,(2&&cR (bA hr) (a01>#[v0]) (v1+aa) (λ_ _=>Z),3&&v1+aa,4&&v1+aa,aC (TY>#[b8 #[v2,aB du v2 (v4+aa)],v3+aa,cW gm (az K Z<#[v3+aa]) (az K Z<#[v4+aa]) (aG _)]))}
theorem a08:1^"step_on"^["steps","found","rest"]^fw:={46,70,Ly,Xa,Lw,(aX K Z v0::↑3::au (aV (aD (Bk K Z hr.units) (HQ (eX hr) v1 (v3+aa) ⟨Z,Z,Z,Z⟩) (b8 #[aB mO (v2+aa) (v3+aa),aB mO (v2+aa) aa]) (aG _)) (au (aC v3)) aH),aC bG)}
theorem a09:2^"led_on"^["font","onward","found","stand","texts"]^fI:={47,69,LR,Xb,LQ,(5&&bN (jf K Z Z) Z z_dict (by ac_nf) #[v0+aa],fM Ķ (aD (Pa K Z hr.units) (jg (eX hr) v2 v3 (λ_ _=>Z)) (b8 #[aa,aa]) (aG _)) (6&&a08>#[jg (eX hr) v1 v3 (λ_ _=>Z),v2,jg (eX hr) v2 v3 (λ_ _=>Z)],4&&TY>#[v4,v6+aa,cW gm (az K Z<#[cR (bA hr) v5 (v6+aa) (λ_ _=>Z)]) (az K Z<#[v3+aa]) (aG _)],3&&v6+aa),aC v4)}
theorem a0a:7^"farness"^["font","house"]^ft:={48,66,Ak,Xf,M8,(2&&CV>#[v0,v1],3&&a03>#[v0,v1],eN (i:=4) nd Z (Or.inr Z) (a07>#[v3,v1+aa]),nU (i:=5) [none,some 4] ["fork","found"] Z nd Z Z (aX K Z (TX>#[v0,v2])) (show CScope (aY (top 66)) _ from⟨Z,by ac_nf,by ac_nf,by ac_nf⟩) (show capOk [none,some 4] ["fork","found"] (Ak:List Str) _=true from by ac_nf) (λ_ _ _ _ _ _=>{0,["fork","found"]}) (λ_ _ _ _ _ _=>gQ (fX (V3 (eX hr) (v0+aa) v1) (by with_unfolding_all rfl))) (λ_ _ _ _ _ _=>(b8 #[aB aQ (v0+aa) (jg (eX hr) v1 (v0+aa) (λ_ _=>Z)+aa),v0])),aV (aD dI (az K Z<#[v5]) aa (aG _)) (au (aC bG)) aH,6&&xx K Z Z (Qc hr)<#[v5],7&&a09>#[v0,v3,v4,v6+aa+aa,a1e>#[v2,v6+aa]],aC (b8 #[v6+aa,zu K Z Z<#[v7],zx K Z Z<#[v7]]))}
theorem a0b:8^"mends"^["font","house"]^fS:={49,71,Ma,Xg,M9,(2&&a0a>#[v0,v1],aV (aD gb v2 bG (aG _)) (au (aC bG)) aH,aC (aB oN (aB mO (v2+aa) aa) aa))}
theorem qM:1^"_law_cell_at"^["script","k"]^aS:={50,73,Mg,Xh,Mf,(aV (aD jm v1 (az K Z<#[v0]) (aG _)) (au (aC (v0-v1))) aH,aC aa)}
theorem cP:1^"_law_mixed"^["cell","k"]^eE:={51,74,Mi,Xi,Mh,(au (aC (aB aZ (aB eO (aB aQ (aB aQ (aB eO (aB aZ v0 aa) (aB aQ aa (aB eO aa v1))) (aB eO (aB eO aa v1) v1)) aa) aa) aa)))}
theorem a1f:2^"_law_signs_by"^["cell","many"]^fA:={52,75,Tg,Zm,Tf,(2&&ik,2&&aB du v2 ik,3&&aB aZ v0 aa,4&&nR mU v2 v3 (λ_ _=>Z),bK Z z_range #[v1]::↑5::(3&&aB aZ (aB aQ (aB aQ v3 aa) (aB aZ (cP>#[v0,v5]) (cg #[aa,aa]-bN rD Z z_int (by ac_nf) #[cW gm v1 aa (aG _)]))) aa,4&&aB du v4 (nR mU v2 v3 (λ_ _=>Z))),aC v4)}
theorem a1g:2^"_law_letters_by"^["cell","signs","height"]^dE:={53,76,Ml,Zn,Th,(3&&cg dX,4&&aB aZ (cP>#[v0,aa]) aa,5&&cg #[aB aQ aa (aB aZ (cP>#[v0,aa]) aa),aa,aB aQ aa (aB aZ (cP>#[v0,aa]) aa)]-(jR Z<#[v4,aa]),aV (aD gm v4 aa (aG _)) (au (5&&aB aQ aa (aB aZ (cP>#[v0,aa]) aa))) aH,bK Z z_range #[v5]::lG (i:=6) nd Z (Or.inr Z)::(7&&aB aQ aa (aB aZ (cP>#[v0,aB aQ aa v6]) aa),aV (aD jm v4 aa (aG _)) (au (7&&cg #[aB aQ aa (bN rD Z z_int (by ac_nf) #[cW dI v7 aa (aG _)]),aB aQ aa (aB aZ (cP>#[v0,aB aQ aa v6]) aa),aa]-v4)) aH,nU (i:=8) [none,some 0,some 6,some 2] ["j","cell","k","height"] Z nd Z Z (bK Z z_range #[v7]) (show CScope (aY (top 76)) _ from⟨Z,by ac_nf,by ac_nf,by ac_nf⟩) (show capOk [none,some 0,some 6,some 2] ["j","cell","k","height"] (Ml:List Str) _=true from by ac_nf) (λ_ _ _ _ _ _=>{0,["j","cell","k","height"]}) (λ_ _ _ _ _ _=>bQ) (λ_ _ _ _ _ _=>(aB aZ (aB eO (cP>#[v1,aB aQ (aB aQ aa (aB eO aa v2)) v0]) aa) (aB FQ aa v3))),aV (PW.pt (fC (aD dI v6 aa (aG _)) (dU (aD dI (aB aZ (cP>#[v0,aa]) aa) aa (aG _))))) (au (8&&bN (fK K Z) Z z_list (by ac_nf) #[v3-aa+aa])) aH,bJ (v3++#[b8 #[nR mU v1 v6 (λ_ _=>Z),v8]])),aC v3)}
theorem a0c:5^"_law_drawn_house"^["cell","signs","many"]^aI:={54,77,Mp,Zo,Ti,(3&&cg dX,bK Z z_range #[v2]::↑4::(5&&cg dX,bK Z z_range #[az K Z<#[v1]]::↑6::au (aV (aD gm (aB aZ (cP>#[v0,aB aQ (aB aQ aa (aB eO aa v4)) v6]) aa) aa (aG _)) (au (bJ (v5++#[b8 #[nR mU v1 v6 (λ_ _=>Z),aB aZ (cP>#[v0,aB aQ (aB aQ aa (aB eO aa v4)) v6]) v2]]))) aH),bJ (v3++#[v5])),nU (i:=7) [none,some 0] ["k","cell"] Z nd Z Z (bK Z z_range #[v2]) (show CScope (aY (top 77)) _ from⟨Z,by ac_nf,by ac_nf,by ac_nf⟩) (show capOk [none,some 0] ["k","cell"] (Mp:List Str) _=true from by ac_nf) (λ_ _ _ _ _ _=>{0,["k","cell"]}) (λ_ _ _ _ _ _=>gQ (aD gm (aB aZ (cP>#[v1,aB aQ aa v0]) aa) aa (aG _))) (λ_ _ _ _ _ _=>v0),aC (ym>#[v3,v7]))}
theorem a1h:2^"_law_words_by"^["cell","signs"]^gy:={55,78,Tp,Zq,Tj,(2&&cg dX,bK Z z_range #[aB aQ aa (aB aZ (cP>#[v0,aa]) aa)]::↑3::(4&&ik,bK Z z_range #[aB aZ (cP>#[v0,aB aQ aa v3]) aa]::↑5::au (4&&aB du v4 (nR mU v1 (aB aZ (cP>#[v0,aB aQ (aB aQ aa (aB eO aa v3)) v5]) (az K Z<#[v1])) (λ_ _=>Z))),bJ (v2++#[v4])),aC v2)}
theorem Nv:1^"_law_open"^["house","room","known"]^eS:={57,80,Al,Xk,Ms,(au (aC {[none,some 2],["door","known"],gA K Z (v0+aa+v1),80,Al,{0,["door","known"]},gQ (fX (pH (bA hr) (v0+aa) v1) (by with_unfolding_all rfl)),v0}))}
theorem a0d:2^"_law_depths"^["house","known"]^cE:={58,81,Am,Xn,Mv,(nU (i:=2) [none,some 0] ["room","house"] Z nd Z Z (bK Z z_range #[az K Z<#[v0+aa]]) (show CScope (aY (top 81)) _ from⟨Z,by ac_nf,by ac_nf,by ac_nf⟩) (show capOk [none,some 0] ["room","house"] (Am:List Str) _=true from by ac_nf) (λ_ _ _ _ _ _=>{0,["room","house"]}) (λ_ _ _ _ _ _=>bQ) (λ_ _ _ _ _ _=>(jy (aD (fG K Z) v0 (v1+aa) (by with_unfolding_all rfl)) aa bG)),bK Z z_range #[az K Z<#[v0+aa]]::↑3::au (bK Z z_range #[az K Z<#[v0+aa]]::↑4::au (aX K Z (Nv>#[v0,v4,v1])::bR K Z Z (aK ↑5 (aK ↑6 bO))::au (aV (PW.pt (fC (aD jQ (v2-v6) bG (aG _)) (dU (PW.pt (p7 (aD gb (v2-v4) bG (aG _)) (mK (aD gm (v2-v4) (aB aQ (v2-v6) aa) (aG _)))))))) (au (tZ (aB aQ (v2-v6) aa) (tY v2 v4 set_list))) aH))),aC v2)}
theorem a0e:3^"_law_text_by"^["script","house","known"]^bE:={59,82,qJ,Xo,Mz,(eN (i:=3) nd Z (Or.inr Z) (a0d>#[v1,v2]),eN (i:=4) nd Z (Or.inr Z) aa,5&&ik,aV (aD gb (v3-aa) bG (aG _)) (au (aC bG)) aH,6&&yS K Z Z<#[{[none,some 2],["sign","known"],lV v2,82,qJ,{0,["sign","known"]},bQ,(az K Z<#[cR (bA hr) v1 v0 (λ_ _=>Z)])}],mL Z z_range #[aa,jR Z<#[az K Z<#[v0],aB aQ aa (aB oN aa (rC Z<#[aa,v6]))]]::↑7::(nU (i:=8) [none,some 3] ["door","deep"] Z nd Z Z (aX K Z (Nv>#[v1,v4,v2])) (show CScope (aY (top 82)) _ from⟨Z,by ac_nf,by ac_nf,by ac_nf⟩) (show capOk [none,some 3] ["door","deep"] (qJ:List Str) _=true from by ac_nf) (λ_ _ _ _ _ _=>{0,["door","deep"]}) (λ_ _ _ _ _ _=>gQ (aD jQ (v1-(v0+aa)) bG (aG _))) (λ_ _ _ _ _ _=>v0),aV (aD gm (az K Z<#[v8]) aa (aG _)) (9&&v8-aB aZ (cP>#[v0-v7,aa]) (az K Z<#[v8]),5&&aB du v5 (v9+aa),eN (i:=4) nd Z (Or.inr Z) (v9+aa)) aH),fM Ķ (aD gm (v3-v4) aa (aG _)) (9&&{[none,some 3,some 4],["one","deep","room"],aX K Z (Nv>#[v1,v4,v2]),82,qJ,{0,["one","deep","room"]},gQ (aD dI (v1-(v0+aa)) (aB mO (v1-v2) aa) (aG _)),v0}-aa,5&&aB du v5 (v9+aa),eN (i:=4) nd Z (Or.inr Z) (v9+aa)),aC v5)}
theorem a0f:2^"_law_spoilt"^["script","strip","height","most"]^bX:={60,83,MN,Xp,MK,(4&&w5,mL Z z_range #[aa,az K Z<#[v0]]::↑5::(6&&b8 #[aB aZ (cP>#[v0-v5,aa]) (rC Z<#[aa,az K Z<#[v1]]),aB aZ (cP>#[v0-v5,aB aQ aa (aB aZ v5 aa)]) v2],aV (PW.pt (fC (aD gm (az K Z<#[v1]) aa (aG _)) (dU (PW.pt (p7 (aD gb v3 bG (aG _)) (mK (aD jm (mZ<#[v4]) v3 (aG _)))))))) (au (dW (bA hr) v4 v6 p6 Z)) aH),7&&bN (fK K Z) Z z_list (by ac_nf) #[v1],aX K Z (bN (xj Z) Z z_list (by ac_nf) #[v4])::bR K Z Z (aK ↑8 (aK ↑9 bO))::au (tZ (aB FT (v7-v8) (aB FQ aa v9)) (tY v7 v8 set_list)),aC (cg #[v7,mZ<#[v4]]))}
theorem Ny:1^"_law_whole"^["found"]^eB:={61,84,MT,Xq,MP,(au (aC (fY (cJ K Z<#[v0,gO (v:=.ty "int") (u:=.type "int") Z z_int (by ac_nf) Z]) (j8 (Fx (cJ K Z<#[v0,gO (v:=.ty "bool") (u:=.type "bool") Z z_bool (by ac_nf) Z]))))))}
theorem a1i:2^"_law_reading_good"^["found","due"]^aE:={62,85,Tt,Zt,Tr,(aV (PW.pt (p7 (eG (bW K Z (cJ K Z<#[v0,gO (v:=.ty "tuple") (u:=.type "tuple") Z z_tuple (by ac_nf) Z]) (λ_=>Z))) (p7 (aD vO (az K Z<#[v0]) aa (aG _)) (mK (eG (bW K Z (cJ K Z<#[v0+aa,gO (v:=.ty "str") (u:=.type "str") Z z_str (by ac_nf) Z]) (λ_=>Z))))))) (au (aC p6)) aH,aC (fY (Ny>#[v0+aa]) (fY (Ny>#[v0+aa]) (j8 (cW (Bk K Z hr.units) v0 v1 (aG _))))))}
end
theorem Xx (X:K.In h) (G:h.Ns mainGlobals mg) (hfa:mg "law"=some (.ref fa)) (e:obs K=ans):∃fd:FuncData,(∀ (s:Shared) (v:Value),BindsTo s fd ⟨[v],[]⟩ [Prod.mk "script" v])/\∀base:Heap,K.In base->base.Ns mainGlobals mg->FnOk pWo w K mg base Gh 9 fa fd ["script"] (gl K):=by
 have e1:nms.map (nsIn K mainGlobals)=vls:=Ö (·.1) e;have e2:Xz.map (λd=>Ro K d.1)=Xz.map (λd=>Rp none d.1 d.2):=Ö (·.2.1) e;have e3:=Ö (·.2.2.1) e;have e4:=Ö (·.2.2.2.1) e;have e5:=Ö (·.2.2.2.2) e;obtain @⟨_,_,kV,dc,pm,cd,ct,_,an,_,a,lL,qL,kL⟩:=Nt (ju e2 63 Z Z:Ro K "law"=Rp none "law" 86);cases hfa.symm.trans (mg_of X G a);refine ⟨fnOf "law" "law" (dR (top 86)) (dh (top 86)) (aY (top 86)) .none kV dc pm an cd ct,λs v=>.of_eq Z,λbase _ _=>?_⟩;have z_isinstance:mg "isinstance"=none:=mg_none_of X G (ju e1 0 Z Z);have z_bool:mg "bool"=none:=mg_none_of X G (ju e1 1 Z Z);have z_int:mg "int"=none:=mg_none_of X G (ju e1 2 Z Z);have z_len:mg "len"=none:=mg_none_of X G (ju e1 3 Z Z);have z_str:mg "str"=none:=mg_none_of X G (ju e1 4 Z Z);have z_ord:mg "ord"=none:=mg_none_of X G (ju e1 5 Z Z);have z_sum:mg "sum"=none:=mg_none_of X G (ju e1 6 Z Z);have z_zip:mg "zip"=none:=mg_none_of X G (ju e1 7 Z Z);have z_dict:mg "dict"=none:=mg_none_of X G (ju e1 8 Z Z);have z_range:mg "range"=none:=mg_none_of X G (ju e1 9 Z Z);have z_tuple:mg "tuple"=none:=mg_none_of X G (ju e1 10 Z Z);have z_sorted:mg "sorted"=none:=mg_none_of X G (ju e1 11 Z Z);have z_enumerate:mg "enumerate"=none:=mg_none_of X G (ju e1 12 Z Z);have z_set:mg "set"=none:=mg_none_of X G (ju e1 13 Z Z);have z_min:mg "min"=none:=mg_none_of X G (ju e1 14 Z Z);have z_max:mg "max"=none:=mg_none_of X G (ju e1 15 Z Z);have z_list:mg "list"=none:=mg_none_of X G (ju e1 16 Z Z);have g_GREATEST_HEIGHT:mg "GREATEST_HEIGHT"=some (.int 60 189)/\RelV (V.int 60) (.int 60 189):=⟨mg_of X G (ju e1 17 Z Z),_,Z⟩;have g_LEFT_OUT:mg "LEFT_OUT"=some (.int 37 191)/\RelV (V.int 37) (.int 37 191):=⟨mg_of X G (ju e1 18 Z Z),_,Z⟩;have g_MOST_COLUMNS:mg "MOST_COLUMNS"=some (.int 8 432)/\RelV (V.int 8) (.int 8 432):=⟨mg_of X G (ju e1 19 Z Z),_,Z⟩;have g_MOST_LETTERS:mg "MOST_LETTERS"=some (.int 40 430)/\RelV (V.int 40) (.int 40 430):=⟨mg_of X G (ju e1 20 Z Z),_,Z⟩;have g_MOST_ROOMS:mg "MOST_ROOMS"=some (.int 40 456)/\RelV (V.int 40) (.int 40 456):=⟨mg_of X G (ju e1 21 Z Z),_,Z⟩;have g_GREATEST_ON_WHEEL:mg "GREATEST_ON_WHEEL"=some (.int 1000 514)/\RelV (V.int 1000) (.int 1000 514):=⟨mg_of X G (ju e1 22 Z Z),_,Z⟩;have k_BlotError:mg "BlotError"=some (.ref aK0)/\ExcK K aK0:=⟨mg_of X G (ju e1 23 Z Z),vC (ju e3 0 Z Z)⟩;have k_NotAlike:mg "NotAlike"=some (.ref aK3)/\ExcK K aK3:=⟨mg_of X G (ju e1 24 Z Z),vC (ju e3 1 Z Z)⟩;have k_NoFont:mg "NoFont"=some (.ref aK1)/\ExcK K aK1:=⟨mg_of X G (ju e1 25 Z Z),vC (ju e3 2 Z Z)⟩;have k_NoHouse:mg "NoHouse"=some (.ref aK2)/\ExcK K aK2:=⟨mg_of X G (ju e1 26 Z Z),vC (ju e3 3 Z Z)⟩;obtain⟨_,_,_,t_PLAIN_WHEEL⟩:=Aq (ju e5 1 Z Z);have k_PLAIN_WHEEL:mg "PLAIN_WHEEL"=some (.ref cO)/\TupK K cO [V.int 1]:=⟨mg_of X G (ju e1 27 Z Z),L2.RD t_PLAIN_WHEEL⟩;obtain⟨_,_,_,t_f60⟩:=Aq (ju e5 0 Z Z);obtain⟨a_f60,l,q,k_f60⟩:=Nt (Ý (Ö (·[0]?) e4):Ro K "sums"=Rp (some 261) "sums" 49);have F_f60:=PN (st:=top 49) l q k_f60 t_f60;have o_f60:FnOk pWo w K mg base Gh 5 _ _ ["signs","many","wheel"] (gc K):=F_f60.ok (N:=qz) ⟨Z,Z,Z,by ac_nf,Z,by ac_nf,by ac_nf⟩ (λ_ _ _ _ h=>Ww h) λcdv A outer s H vs Q E hr h=>by
  have nd:List.Nodup qz:=by ac_nf
  obtain⟨Eh,h⟩:=Wv h;exact ⟨Kf K E Eh,(eN (i:=3) nd Z (Or.inr Z) (jy (aD gb v2 bG (aG _)) (j7 (v:=.ref cO) Z k_PLAIN_WHEEL.1 Z) v2),aV (eG (PW.pt (fC (bW K Z (yl>#[v1]) (λ_=>Z)) (dU (aD Rr v1 aa (aG _)))))) (au cB) aH,bJ (ZX>#[v3]),bJ (Nu>#[aB eO v1 (az K Z<#[v3])]),4&&cg dX,bK Z z_range #[az K Z<#[v3]]::lG (i:=5) nd Z (Or.inr Z)::(eN (i:=6) nd Z (Or.inr Z) (aB eO (aB aZ (aB aQ v5 aa) (az K Z<#[v3])) v1),bJ (pM K Z Ŏ PySem.F.slot_list_extend PySem.F.type_list_extend rN v4 #[{[none,some 0,some 1,some 3,some 5,some 6],["rest","signs","many","numbers","turn","later"],bK Z z_range #[v1],49,qz,{0,["rest","signs","many","numbers","turn","later"]},bQ,(ZZ>#[v1,v2,v0,v3+v4,v5])}])),aC (ym>#[v4,{[none,some 1],["turn","many"],bK Z z_range #[az K Z<#[v3]],49,qz,{0,["turn","many"]},bQ,aB eO v0 v1}])),h⟩
 have cd_f60:CalD pWo w K mg base 5 "sums" ["signs","many","wheel"] [V.non] (gc K):=⟨_,_,_,o_f60,F_f60.binds (es:=[Value.none]) (λ_ _ _ _ _ _ us hl=>ar2 (P:=λus=>∃k:Option (Array Value)->Sem (List (Str×Value)),bindArgs _ ⟨us,[]⟩=seqItems? _>>=k/\k (some _)=pure (List.zip _ (HAppend.hAppend us [Value.none]))) (λ_ _=>⟨_,Z,Z⟩) us (by simpa using hl)),.cons Z .nil,k_f60,mg_of X G a_f60⟩;have c_f60:Cal pWo w K mg base 5 "sums" ["signs","many","wheel"] (gc K):=⟨_,_,o_f60,F_f60.binds (es:=[]) (λ_ _ _ _ _ _ us hl=>ar3 (P:=λus=>∃k:Option (Array Value)->Sem (List (Str×Value)),bindArgs _ ⟨us,[]⟩=seqItems? _>>=k/\k (some _)=pure (List.zip _ (HAppend.hAppend us []))) (λ_ _ _=>⟨_,Z,Z⟩) us (by simpa using hl)),k_f60,mg_of X G a_f60⟩;have c_f6:6^"_law_house_by"^["cell","signs","letters"]^f7:={56,79,Mr,Zr,Tq,(3&&aB aZ (cP>#[v0,aa]) aa,4&&cW dI (rZ K Z Z<#[{[none],["pair"],aX K Z v2,79,Mr,{0,["pair"]},bQ,(az K Z<#[v0+aa])}]) (az K Z<#[v2]) (aG _),aV (aD gm (az K Z<#[v2]) aa (aG _)) (aV (PW.pt (fC (aD gP (az K Z<#[v2]) aa (aG _)) (dU (aD jm v3 aa (aG _))))) (au (aC (lX cd_f60 hr (by decide) Z #[bZ ir v1 cX (cI (iC fD aa)),aa]))) aH,aC (TJ>#[bZ ir v1 cX (cI (iC fD aa))])) aH,aV (aD gm (az K Z<#[v2]) aa (aG _)) (au (aC (lX cd_f60 hr (by decide) Z #[bZ ir v1 cX (cI (iC fD aa)),aB aQ aa (aB aZ (cP>#[v0,aa]) aa)]))) aH,aV (PW.pt (fC (aD jm (az K Z<#[v2]) aa (aG _)) (fC (aD jm v3 aa (aG _)) (dU (bW K Z v4 (λ_=>Z)))))) (au (aC (lX cd_f60 hr (by decide) Z #[bZ ir v1 cX (cI (iC fD aa)),aB aQ aa (aB aZ (cP>#[v0,aa]) aa)]))) aH,5&&aB aQ aa (aB aZ (cP>#[v0,aa]) aa),aV (aD dI v3 aa (aG _)) (au (aC (TJ>#[bZ ir v1 cX (cI (iC fD aa))]))) aH,aV (PW.pt (p7 (aD dI v3 aa (aG _)) (mK (aD dI v3 aa (aG _))))) (au (aC (lX cd_f60 hr (by decide) Z #[bZ ir v1 cX (cI (iC fD aa)),v5]))) aH,aV (aD dI v3 aa (aG _)) (au (aC (ZW>#[a1h>#[v0,v1]]))) aH,aV (aD dI v3 aa (aG _)) (au (aC (yP c_f60 hr (by decide) Z #[bZ ir v1 cX (cI (iC fD aa)),aB aQ aa (aB oN v5 aa),b8 #[aB aQ aa (aB aZ (cP>#[v0,aa]) aa),aB aZ (cP>#[v0,aa]) aa]]))) aH,aV (aD dI v3 aa (aG _)) (au (aC (a00>#[lX cd_f60 hr (by decide) Z #[v1,aa],a0c>#[v0,v1,aa]]))) aH,aC (a0c>#[v0,v1,aB aQ aa (aB aZ (cP>#[v0,aa]) aa)]))};have F:=yL (st:=top 86) lL qL kL;exact F.ok (N:=vB) ⟨Z,Z,Z,by ac_nf,Z,by ac_nf,by ac_nf⟩ (λ_ _ _ _ h=>Xw h) λcdv A outer s H vs Q E hr h=>by
  have nd:List.Nodup vB:=by ac_nf
  obtain⟨Eh,h⟩:=Xv h;exact ⟨Nr K E Eh,(1&&aB aQ aa (aB aZ (qM>#[v0,aa]) (cg #[aa,aa,aa,aa]-aB aZ (cP>#[qM>#[v0,aa],aa]) aa)),2&&aB aZ (cP>#[qM>#[v0,aa],aa]) aa,aV (aD jm v2 aa (aG _)) (au (1&&jR Z<#[v1,aa])) aH,3&&a1f>#[qM>#[v0,aa],aa],4&&a1g>#[qM>#[v0,aa],v3,v1],5&&ZM>#[v1,{[none,none],["sign","columns"],aX K Z v4,86,vB,bR K Z Z (aK {0,["sign","columns"]} (aK {1,["sign","columns"]} bO)),bQ,b8 #[v0,bN (fK K Z) Z z_list (by ac_nf) #[v1]]}],6&&bN (jf K Z Z) Z z_dict (by ac_nf) #[v4],7&&yP c_f6 hr (by decide) Z #[qM>#[v0,aa],bZ ir v3 cX (cI (aB aQ (az K Z<#[v4]) aa)),v4],8&&a0e>#[v0,v7,v6],9&&a0b>#[v5,v7],aV (aD gb v8 bG (aG _)) (au (aC (fY (cW gb v9 bG (aG _)) (j8 (cW gb (Tz>#[v5,v7,aB Uv (cg #[aa]) (aB aZ (az K Z<#[v0]) aa)]) bG (aG _)))))) aH,aV (PW.pt (fC (aD jQ v9 bG (aG _)) (dU (PW.pt (p7 (eG (bW K Z (Ny>#[v9]) (λ_=>Z))) (mK (aD jm v9 (iC fD aa) (aG _)))))))) (au (aC p6)) aH,10&&cg dX,Gu v8::↑11::au (10&&aB Uu v10 (cR (bA hr) v6 v11 (λ_ _=>Z))),aV (PW.pt (fC (aD jQ v9 bG (aG _)) (dU (aD dI (aB aZ (cP>#[qM>#[v0,aa],aa]) aa) aa (aG _))))) (au (9&&aB oN v9 aa)) aH,12&&a0f>#[v0,v10,v1,v9],13&&Tz>#[v5,v7,bN (fK K Z) Z z_list (by ac_nf) #[v12-aa]],aV (aD dI v9 (iC fD aa) (aG _)) (au (aC (fY (cJ K Z<#[v13,gO (v:=.ty "tuple") (u:=.type "tuple") Z z_tuple (by ac_nf) Z]) (j8 (cW dI (v13+aa) aa (aG _)))))) aH,aC (a1i>#[v13,b8 #[v8,v12-aa,aa]])),h⟩
end
theorem fin:PySem.Challenge.rw_blotsure_k81_whole_sure_reading.Holds:=by
 refine holds_law said λsaid=>holds_open (q:=vw) (loose:=lo) (Xt:=λs=>xlAt vw [] s&&recOk [] s) (XP:=XL vw []) (Ya:=λ_=>ans) (YP:=λ_ h=>∃K:Frag,K.In h/\obs K=ans) left (λw s e=>⟨_,O1,e⟩) (λw h h' ⟨K,X,e⟩ k=>⟨K,Frag.In.keeps X k,e⟩) (λs e=>xl_of s (Bool.and_eq_true_iff.mp e).1) XL.keeps (by rfl) (by rfl) (by rfl) (λs e=>recFacts_of (Bool.and_eq_true_iff.mp e).2) (by rfl) said (by ac_nf) ⟨Z,Z,Z,Z,Z,by ac_nf⟩ ?hw ?hc
 case hw=>w_witness2
 rintro w s s' mg mb G ⟨K,X,e⟩;obtain⟨_,_,_,t_PLAIN_WHEEL⟩:=Aq (ju (Ö (·.2.2.2.2) e) 1 Z Z);exact L2.Oo (n:=63) (k:=9) (x:="script") (CX:=λ_=>L2.Gh) (K:=λ_=>K) (YP:=λ_ h=>K.In h) (sp:=λ_=>gl K) Z (by decide) Z ⟨Z,by decide,by decide⟩ (λ_ _ Y=>Y) (λ_ _ _ _ KX G hmg=>Xx KX G hmg e) (λ_ _ a ns hl _ hS=>⟨a,ns,Z,L2.RD t_PLAIN_WHEEL,hS,hl,λ_=>Z⟩) (λ_ _ _ _ _ z=>z) w s s' mg mb G X
end Pg
open PySem PySem.W PyProof.Rows
theorem PySem.Challenge.cw_blotsure_k81_whole_sure_reading_holds : PySem.Challenge.rw_blotsure_k81_whole_sure_reading.Holds :=
 Pg.fin
