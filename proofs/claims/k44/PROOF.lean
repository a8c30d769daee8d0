import PyProof.Rows.All
import Wide.All
import OpenK.AllK
import Wide.FinOn
import Lean
import PyProof.EqAt
import PyProof.EqKinds
import PyProof.TupleCall
import KE.LcSums
import PySem.Challenge.RW_rowbetween_k44_too_many
set_option Elab.async false
set_option linter.all false
set_option maxRecDepth 100000
set_option maxHeartbeats 0
local macro_rules|`(command|def $i:declId $s:optDeclSig $v:declVal)=>`(command|noncomputable def $i:declId $s:optDeclSig $v:declVal)|`(command|abbrev $i:declId $s:optDeclSig $v:declVal)=>`(command|noncomputable abbrev $i:declId $s:optDeclSig $v:declVal)
abbrev Za:=List (Int×Int)
abbrev Zb:=List PySem.Str
abbrev Zc:=List PySem.Value
abbrev Zd:=Option PySem.Value
abbrev Ze:=List Int
abbrev Zf:=PySem.W.Frag
local macro_rules | `(tactic| walk_at "or") => `(tactic| (intro d0 R h; rcases d0 with _ | ⟨a, _ | ⟨b, _ | ⟨c, l⟩⟩⟩; exact False.elim h; (cases a <;> first | exact False.elim h | (repeat first | exact ⟨_, rfl, h⟩ | exact ⟨_, _, rfl, h⟩ | exact ⟨_, _, _, rfl, h⟩ | exact .inl ⟨_, rfl, h⟩ | exact .inl ⟨_, _, rfl, h⟩ | exact .inl ⟨_, _, _, rfl, h⟩ | apply Or.inr)); (cases a <;> first | exact False.elim h | (cases b <;> first | exact False.elim h | (repeat first | exact ⟨_, rfl, h⟩ | exact ⟨_, _, rfl, h⟩ | exact ⟨_, _, _, rfl, h⟩ | exact .inl ⟨_, rfl, h⟩ | exact .inl ⟨_, _, rfl, h⟩ | exact .inl ⟨_, _, _, rfl, h⟩ | apply Or.inr))); (cases a <;> first | exact False.elim h | (cases b <;> exact False.elim h))))
local macro_rules | `(tactic| walk_at "v3") => `(tactic| first | exact Or.inl rfl | exact Or.inr (Or.inl rfl) | exact Or.inr (Or.inr rfl))
local macro_rules | `(tactic| walk_at "v2") => `(tactic| first | exact Or.inl rfl | exact Or.inr rfl)
local macro_rules | `(tactic| walk_at "v1") => `(tactic| first | exact .inl rfl | exact .inr rfl | assumption)
def GM:=@PySem.wpAny_bind
def GN:=@List.length_map
def GO:=@PySem.Heap.get?_push_of_some
def GP:=@List.mem_cons_of_mem
def GQ:=@PySem.wpAny_pure
def GR:=@List.mem_map
def GS:=@Nat.le_trans
def GT:=@List.mem_cons_self
def GU:=@Nat.le_refl
def GV:=@List.length_append
def GW:=@Bool.false_ne_true
def GX:=@List.mem_singleton
def GY:=@List.mem_cons
def GZ:=@List.getElem?_eq_some_iff
def G0:=@List.length_cons
def G1:=@List.mem_filter
def G2:=@Classical.byContradiction
def G3:=@PySem.Heap.lt_size
def G4:=@Option.some.inj
def G5:=@PySem.Heap.get?_push_size
def G6:=@List.getElem?_map
def G7:=@List.mem_append_right
def G8:=@List.size_toArray
def G9:=@List.mem_of_getElem?
def Ha:=@if_neg
def Hb:=@List.mem_append
def Hc:=@if_pos
def He:=@Nat.lt_of_lt_of_le
def Hf:=@List.mem_append_left
def Hg:=@List.map_append
def Hh:=@List.getElem?_append_right
def Hi:=@List.length_replicate
def Hj:=@PySem.PassesOwn.never
def Hk:=@List.filter_cons_of_neg
def Hl:=@List.getElem?_eq_getElem
def Hm:=@List.getElem?_append_left
def Hn:=@Array.getElem?_eq_getElem
def Ho:=@Nat.ne_of_lt
def Hr:=@List.getElem?_set_self
def Hs:=@List.map_cons
def Ht:=@List.take_length
def Hu:=@Bool.and_eq_true_iff
def Hv:=@List.getElem?_set_ne
def Hw:=@Nat.lt_irrefl
def Hx:=@PySem.Heap.get?_update_other
def Hy:=@Rat.intCast_mul
def Hz:=@PySem.Heap.get?_update_self
def HA:=@decide_eq_false
def HB:=@PySem.wpAny_setField_rec
def HC:=@PySem.wpAny_field
def HD:=@Array.length_toList
def HE:=@List.filter_cons_of_pos
def HF:=@List.getElem?_eq_none
def HG:=@PySem.W.mg_none_of
def HH:=@PySem.intBits_mul_le
def HI:=@List.getElem?_replicate
def HJ:=@decide_eq_true
def HK:=@List.map_map
def HL:=@Rat.mul_nonneg
def HM:=@List.append_nil
def HN:=@PySem.Heap.size_push
def HP:=@List.length_take
def HQ:=@PySem.wpAny_newObj_type
def HR:=@List.eq_nil_of_length_eq_zero
def HS:=@List.of_mem_zip
def HU:=@PyProof.Rows.slot_tuple_getitem
def HV:=@List.length_set
def HW:=@List.length_filter_le
def HX:=@PySem.wpAny_mono
def HY:=@List.getD_eq_getElem?_getD
def HZ:=@List.filterMap_cons
def Ia:=@PySem.wpAny_callSpecial?_slot
def Ib:=@List.nodup_cons
def Ic:=@PySem.intBits_fdiv_le
def Ie:=@Int.mul_left_comm
def Ig:=@PySem.wpAny_loadPart_at
def Ih:=@PySem.Obj.data_mapFields
def Ii:=@PyProof.Rows.callWith_type1
def Ij:=@Array.getElem?_toList
def Ik:=@PySem.wpAny_call_entry
def Il:=@List.length_range
def Im:=@Int.mul_comm
def Io:=@PySem.wpAny_setState_of
def Ip:=@of_decide_eq_true
def Iq:=@List.mem_range
def Ir:=@Nat.zero_le
def Iu:=@Int.mul_assoc
def Iv:=@Array.getElem?_eq_some_iff
def Iw:=@List.nodup_append
def Iy:=@Rat.mul_pos
def Iz:=@PySem.wpAny_holding
def IA:=@PySem.wpAny_seqItems
def IB:=@PySem.W.mg_of
def IC:=@Nat.ne_of_gt
def ID:=@PySem.Obj.isFreed_of_fields
def IE:=@PySem.wpAny_Call_Name_kw
def IF:=@Ne.symm
def IG:=@List.length_eq_zero_iff
def IH:=@Nat.le_of_lt
def II:=@PySem.wpAny_setField
def IJ:=@PySem.wpAny_truthy_bool
def IK:=@Nat.lt_succ_of_lt
def IL:=@List.length_zip
def IM:=@Rat.intCast_add
def IN:=@Int.toNat_of_nonneg
def IP:=@Array.getElem?_eq_none
def IQ:=@PySem.F.slot_tuple_iterator_next
def IR:=@PySem.F.excBase_ValueError
def IS:=@List.length_singleton
def IT:=@PySem.builtinLookup_eq_fast
def IU:=@List.filter_append
def IV:=@List.take_append_drop
def IW:=@PySem.Around.under_plainId
def IX:=@Nat.pow_le_pow_right
def IY:=@PySem.wpAny_passesOwn
def IZ:=@PySem.wpAny_ite_split
def Ja:=@PySem.mem_of_lookup
def Jb:=@Int.fdiv_mul_cancel
def Jc:=@PySem.wpAny_isSubtype_exc
def Jd:=@List.length_drop
def Je:=@List.mem_flatMap
def Jf:=@PySem.intBits_add_le
def Jg:=@Int.fmod_nonneg_of_pos
def Jh:=@List.find?_cons_of_pos
def Ji:=@congrArg
def Jj:=@PySem.Calls.spliced_cons
def Jk:=@PySem.tupleKind_room_in1
def Jl:=@Nat.lt_of_le_of_lt
def Jm:=@List.contains_cons
def Jn:=@PySem.codeAny_mono
def Jo:=@List.map_nil
def Jp:=@Nat.succ.inj
def Jq:=@Int.zero_add
def Jr:=@Nat.le_succ
def Js:=@PySem.codeAny_builtin
def Jt:=@Int.mul_ne_zero
def Ju:=@PySem.wpAny_pyIter_list
def Jv:=@Int.toNat_natCast
def Jw:=@List.append_assoc
def Jx:=@Nat.lt_trichotomy
def Jy:=@Int.fmod_eq_emod_of_nonneg
def Jz:=@PySem.codeAny_call_builtin
def JA:=@List.mem_of_mem_take
def JB:=@PySem.Calls.call_function_entry
def JC:=@PySem.intBits_neg_le
def JD:=@List.drop_eq_getElem_cons
def JE:=@Nat.lt_succ_self
def JF:=@List.getElem_mem
def JG:=@Nat.le_add_right
def JH:=@beq_eq_false_iff_ne
def JI:=@List.getElem?_range
def JJ:=@PySem.Heap.SameBut.update
def JK:=@List.length_reverse
def JL:=@Int.add_zero
def JM:=@Int.mul_fdiv_cancel_left
def JN:=@Int.le_of_lt
def JO:=@PySem.wpAny_execs_nil
def JP:=@Bool.eq_iff_iff
def JQ:=@PySem.SeqAt.EqAt.int_int
def JR:=@List.any_cons
def JS:=@Int.fmod_lt_of_pos
def JT:=@PySem.typeLookup_type
def JU:=@Rat.mul_eq_zero
def JV:=@Nat.exists_eq_add_of_le
def JW:=@Option.map_eq_some_iff
def JX:=@PySem.Calls.callWith_builtin
def JY:=@List.zipWith_cons_cons
def JZ:=@List.take_of_length_le
def J0:=@List.find?_cons_of_neg
def J1:=@PySem.Calls.spliced_nil
def J2:=@Nat.mul_add
def J3:=@List.take_zero
def J4:=@List.Perm.refl
def J5:=@PySem.wpAny_typeOf
def J6:=@PySem.F.slot_dict_get
def J7:=@Bool.beq_eq_decide_eq
def J8:=@Nat.lt_asymm
def J9:=@Nat.le_div_iff_mul_le
def Ka:=@List.all_eq_true
def Kb:=@List.map_zipWith
def Kc:=@PySem.Heap.get?_none_of_le
def Ke:=@PySem.Calls.evalArgs_plain
def Kf:=@PySem.wpAny_updateSeq_pair
def Kg:=@PySem.wpAny_standAt
def Kh:=@PySem.wpAny_attempt
def Ki:=@PySem.wpAny_onRaise
def Kj:=@PySem.wpAny_rule
def Kk:=@PySem.SeqAt.EqAt.same
def Kl:=@PySem.F.slot_zip_next
def Km:=@List.map_id
def Kn:=@Nat.succ_pos
def Ko:=@Bool.or_true
def Kq:=@List.find?_eq_none
def Kr:=@PySem.wpAny_call
set_option compiler.extract_closed false
set_option genSizeOf false
set_option bootstrap.genMatcherCode false
namespace L2
open PySem
def bS(s:Stmt):Arguments:=match s with
 | .FunctionDef _ a _ _ _ _ _ _ _ _=>a
 | _=>{ posonlyargs:=[],args:=[],vararg:=none,kwonlyargs:=[],kw_defaults:=[],kwarg:=none,defaults:=[] }
def aW(s:Stmt):List Stmt:=match s with
 | .FunctionDef _ _ b _ _ _ _ _ _ _=>b
 | _=>[]
def am(s:Stmt):Scope:=match s with
 | .FunctionDef _ _ _ _ _ _ sc _ _ _=>sc
 | _=>{ kind:=.function,names:=[],isGenerator:=false,isCoroutine:=false }
def oP(s:Stmt)(j:Nat):Stmt:=match s with
 | .ClassDef _ _ _ body _ _ _ _ _ _ _=>body.getD j (.Pass ⟨0,0,0,0⟩)
 | _=>.Pass ⟨0,0,0,0⟩
end L2
namespace DL
open PySem PySem.Spec PyProof.Rows L2
def txt(D:List (Str×Str)):List (Str×KTD.Dat):=D.map λp=>(p.1,KTD.Dat.flat (.str p.2))
structure FdK(K:Zf)(x:Str)(st:Stmt):Prop where
 ex:∃(f:Addr) (oc:Value) (od an:Option Addr) (sl:Array (Zd)) (kV dc pm cd ct:Value),PySem.W.nsIn K mainGlobals x=some (some (.ref f))/\K.lookup f=some ⟨oc,od,.func (PySem.W.fnOf x x (bS st) (aW st) (am st) .none kV dc pm an cd ct),sl⟩/\PySem.W.codeIn K cd x=true/\PySem.W.keepIn K (.ref f)=true
abbrev bmV:List Value:=[.type "ValueError",.type "Exception",.type "BaseException",.type "object"]
def ld(K:Zf)(N:Addr):Bool:=match K.lookup N with
 | some ⟨_,_,.dict es _,_⟩=>es.toList.all λe=>match e.key with | .str _ _=>true | _=>false
 | _=>false
structure KCls(K:Zf)(C N:Addr)(mro:Zc):Prop where
 ex:∃nm q bs sn sub ab col dd k0 k1 k2 k3 k5,K.lookup C=some (excClassObj nm q C N bs mro true sn sub ab col dd k0 k1 k2 k3 k5 "ValueError.__new__")
structure RcK(K:Zf)(xR:Str)(R NR:Addr):Prop where
 at_:PySem.W.nsIn K mainGlobals xR=some (some (.ref R))
 cl:KCls K R NR bmV
 ns:ld K NR=true
 ini:PySem.W.nsIn K NR "__init__"=some none
 sa:PySem.W.nsIn K NR "__setattr__"=some none
 kp:PySem.W.keepIn K (.ref R)=true
 sp:PySem.W.specialIn K (.ref R) "__getattribute__"=some (some (.builtin "type.__getattribute__"))
 rd:PySem.W.readsIn K R (.type "type")=true
 fc:PySem.W.findCls K (.ref R) (.type "type") "__init__"=some (.val (.builtin "ValueError.__init__"))
structure XcK(K:Zf)(x f:Str)(R NR:Addr)(q:Str)(st:Stmt):Prop where
 ex:∃C N fI,PySem.W.nsIn K mainGlobals x=some (some (.ref C))/\KCls K C N (.ref R::bmV)/\ld K N=true/\PySem.W.nsIn K N "__init__"=some (some (.ref fI))/\PySem.W.nsIn K N "__setattr__"=some none/\PySem.W.nsIn K N f=some none/\PySem.W.nsIn K NR f=some none /\
  PySem.W.keepIn K (.ref C)=true/\∃od kV dc pm an cd ct sl,K.lookup fI=some ⟨.type "function",od,.func (PySem.W.fnOf "__init__" q (bS st) (aW st) (am st) .none kV dc pm an cd ct),sl⟩/\PySem.W.codeIn K cd q=true/\PySem.W.keepIn K (.ref fI)=true
def jz:List (Str×Str):=[("NoQuotient","top"),("NoName","name"),("TooMany","saying")]
def xgB(K:Zf)(C:Addr):Bool :=
 PySem.W.findIn K (.ref C) "__getattribute__"==some (some (.builtin "BaseException.__getattribute__"))&&PySem.W.findIn K (.ref C) "__getattr__"==some none&&PySem.W.mroIn K C (.type "BaseException")==some true&&PySem.W.mroIn K C (.type "object")==some true&&PySem.W.hasDictIn K C &&
 PySem.W.findIn K (.ref C) "__class__"==some (some (.builtin "object.__class__"))&&PySem.W.specialIn K (.builtin "object.__class__") "__get__"==some (some (.builtin "getset_descriptor.__get__"))&&PySem.W.takesIn K (.builtin "object.__class__")==some true
def qu(K:Zf):Bool:=jz.all λp=>match PySem.W.nsIn K mainGlobals p.1 with
 | some (some (.ref C))=>xgB K C&&PySem.W.findIn K (.ref C) p.2==some none&&PySem.W.kitOne K (.ref C) (.type "ValueError")==some true&&PySem.W.kitOne K (.type "NoneType") (.ref C)==some false &&
  jz.all λr=>match PySem.W.nsIn K mainGlobals r.1 with
   | some (some (.ref C'))=>PySem.W.kitOne K (.ref C) (.ref C')==some (p.1==r.1)
   | _=>false
 | _=>false
structure ErF(K:Zf)(s1 s2 s3:Stmt):Prop where
 ex:∃R NR,RcK K "RowError" R NR/\xgB K R=true/\PySem.W.kitOne K (.ref R) (.type "ValueError")=some true/\qu K=true/\XcK K "NoQuotient" "top" R NR "NoQuotient.__init__" s1/\XcK K "NoName" "name" R NR "NoName.__init__" s2/\XcK K "TooMany" "saying" R NR "TooMany.__init__" s3
end DL
namespace Lw
open PySem L2 DL
def top(i:Nat):Stmt:=PySem.Challenge.pw_rowbetween_k44_too_many.main.body.getD i (.Pass ⟨0,0,0,0⟩)
abbrev s_common_divisor:Stmt:=top 6
abbrev s_made:Stmt:=top 7
abbrev s_plus:Stmt:=top 8
abbrev s_times:Stmt:=top 9
abbrev s_less:Stmt:=top 10
abbrev s_is_row:Stmt:=top 15
abbrev s_mark_names:Stmt:=top 17
abbrev s_names_of:Stmt:=top 18
abbrev s_tops_of:Stmt:=top 19
abbrev s_top_of_sum:Stmt:=top 20
abbrev s_row_is_so:Stmt:=top 21
abbrev s_part_is_so:Stmt:=top 22
abbrev s_is_so:Stmt:=top 23
abbrev s_contrary:Stmt:=top 24
abbrev s_plain_part:Stmt:=top 25
abbrev s_plain:Stmt:=top 26
abbrev s_put_together:Stmt:=top 27
abbrev s_cases_within:Stmt:=top 28
abbrev s_cases:Stmt:=top 29
abbrev s_added:Stmt:=top 38
abbrev s_weight_of:Stmt:=top 39
abbrev s_alone:Stmt:=top 40
abbrev s_shortened:Stmt:=top 41
abbrev s_crossed:Stmt:=top 42
abbrev s_without:Stmt:=top 43
abbrev s_taken_out:Stmt:=top 44
abbrev s_bound_on:Stmt:=top 45
abbrev s_tighter:Stmt:=top 32
abbrev s_number_in:Stmt:=top 36
abbrev s_piece_for:Stmt:=top 46
abbrev s_found_back:Stmt:=top 47
abbrev s_solved:Stmt:=top 48
abbrev s_joined:Stmt:=top 16
abbrev s_both_so:Stmt:=top 50
abbrev s_lets_by:Stmt:=top 52
abbrev s_between:Stmt:=top 53
abbrev s_shadow:Stmt:=top 56
abbrev s_filled:Stmt:=top 57
abbrev s_wider:Stmt:=top 33
abbrev s_lies_below:Stmt:=top 34
abbrev s_put_in:Stmt:=top 35
abbrev s_stretch:Stmt:=top 59
abbrev s__law_row:Stmt:=top 61
abbrev s__law_counted:Stmt:=top 63
abbrev s__law_grown:Stmt:=top 62
abbrev s__law_names:Stmt:=top 64
abbrev s__law_asked:Stmt:=top 65
abbrev s__law_kind:Stmt:=top 67
abbrev s__law_due:Stmt:=top 66
abbrev s_law:Stmt:=top 68
abbrev i_NoQuotient:Stmt:=oP (top 2) 0
abbrev i_NoName:Stmt:=oP (top 3) 0
abbrev i_TooMany:Stmt:=oP (top 4) 0
end Lw
namespace Hd
open PySem PySem.W PyProof.Rows
def kept(i:Nat):Stmt:=PySem.Challenge.pw_rowbetween_k44_too_many.main.body.getD i (.Pass ⟨0,0,0,0⟩)
def vw:Program:={ PySem.Challenge.pw_rowbetween_k44_too_many with main:={ PySem.Challenge.pw_rowbetween_k44_too_many.main with body:=[kept 1,kept 2,kept 3,kept 4,kept 6,kept 7,kept 8,kept 9,kept 10,kept 12,kept 13,kept 14,kept 15,kept 16,kept 17,kept 18,kept 19,kept 20,kept 21,kept 22,kept 23,kept 24,kept 25,kept 26,kept 27,kept 28,kept 29,kept 31,kept 32,kept 33,kept 34,kept 35,kept 36,kept 38,kept 39,kept 40,kept 41,kept 42,kept 43,kept 44,kept 45,kept 46,kept 47,kept 48,kept 50,kept 51,kept 52,kept 53,kept 55,kept 56,kept 57,kept 59,kept 61,kept 62,kept 63,kept 64,kept 65,kept 66,kept 67,kept 68] } }
def xt(s:Shared):Bool:=xlAt vw [] s&&recOk (RowW.records (OpenRow.toRowW PySem.Challenge.rw_rowbetween_k44_too_many.row)) s
def st0 (w:World) (os:OsState):Shared:=⟨boot_heap w.params,#[],boot_drawn,boot_toks,os⟩
def rn (w:World) (os:OsState):=(topRun treeTable PySem.Challenge.pw_rowbetween_k44_too_many w 11 (some (Value.ref 6)) 5472 (st0 w os) (topStub PySem.Challenge.pw_rowbetween_k44_too_many))
theorem said:PySem.W.OpenLaw.wellSaid PySem.Challenge.rw_rowbetween_k44_too_many=true:=by
 rw[PySem.W.Fast.te9446332074065402090]
 kernel_rfl
end Hd
local macro_rules | `(tactic| walk_at "hf") => `(tactic| (unfold Hd.rn Hd.st0; (try rw [PySem.W.Fast.te14082659384304107361]); (try rw [PySem.W.Fast.te14364793385576792824]); (try rw [PySem.W.Fast.te5160383126252970620]); (try rw [PySem.W.Fast.te10880121769531294198]); (try rw [PySem.W.Fast.te14722251495701143533]); (try rw [PySem.W.Fast.te10994771534591457954]); (try rw [PySem.W.Fast.te479339242167458305]); (try rw [PySem.W.Fast.te16090120013241838585]); (try rw [PySem.W.Fast.te2386780881361962483]); (try rw [PySem.W.Fast.te11698064438423848299]); (try rw [PySem.W.Fast.te7317090234206586261]); (try rw [PySem.W.Fast.te7369524293546568484]); (try rw [PySem.W.Fast.te821141287760084731]); (try rw [PySem.W.Fast.te3399658132070893891]); (try rw [PySem.W.Fast.te7409074990110511671]); (try rw [PySem.W.Fast.te13664370479719496447]); (try rw [PySem.W.Fast.te5991557255702980513]); (try rw [PySem.W.Fast.te3247288618530077131]); (try rw [PySem.W.Fast.te5923862056798008813]); kernel_rfl))
namespace Hd
open PySem PySem.W PyProof.Rows
theorem dN{σ α β:Type}{o:Option σ}{f:σ->α}{g:σ->β}{x:α}{y:β}(a:o.map f=some x)(b:o.map g=some y):o.map (λs=>(f s,g s))=some (x,y):=by
 cases o with
 | none=>cases a
 | some s=>cases a;cases b;rfl
theorem pQ{σ α β:Type}{o:Option σ}{f:σ->α}{g:σ->β}{x:α}{y:β}(a:o.map (λs=>(f s,g s))=some (x,y)):o.map f=some x:=by
 cases o with
 | none=>cases a
 | some s=>cases a;rfl
theorem gQ{σ α β:Type}{o:Option σ}{f:σ->α}{g:σ->β}{x:α}{y:β}(a:o.map (λs=>(f s,g s))=some (x,y)):o.map g=some y:=by
 cases o with
 | none=>cases a
 | some s=>cases a;rfl
theorem left(go:∀(w:World) (os:OsState),(rn w os).map (λs=>(staticsOk (importedModules PySem.Challenge.pw_rowbetween_k44_too_many.main.body) (boot_heap w.params) s.heap&&namesBound PySem.Challenge.pw_rowbetween_k44_too_many s.heap&&gensDone s&&laidKept (boot_heap w.params) s.heap,openSeen vw ["OPPOSITES"] (importedModules PySem.Challenge.pw_rowbetween_k44_too_many.main.body) xt true s,Yf s))=some (true,openGood vw ["OPPOSITES"],Ya w)):LeftO PySem.Challenge.pw_rowbetween_k44_too_many vw ["OPPOSITES"] xt Yf Ya 5472 true:=λw=>by
 obtain⟨⟨h,gs,d,k,os⟩,e1,e2⟩:=JW.mp (boot_open (p:=PySem.Challenge.pw_rowbetween_k44_too_many) (N:=5472) (by kernel_rfl) (by decide) (λs=>rfl) w);obtain⟨rfl,rfl,rfl,rfl⟩:h=boot_heap w.params/\gs=#[]/\d=boot_drawn/\k=boot_toks:=by simpa using e2
 have size:((boot_heap w.params).isNs mainGlobals,(boot_heap w.params).objs.size,(boot_heap w.params).nsMap mainGlobals "__annotations__")=(true,11,some (Value.ref 6)):=by kernel_rfl
 simp only[Prod.mk.injEq] at size;obtain⟨z1,z2,z3⟩:=size;obtain⟨s,r1,r2⟩:=JW.mp (go w os);simp only[Prod.mk.injEq] at r2;obtain⟨l1,l2,l3⟩:=r2;unfold openEnds;rw[e1];show (topFrom treeTable PySem.Challenge.pw_rowbetween_k44_too_many w 5472 (st0 w os)).map _=_;have t:topFrom treeTable PySem.Challenge.pw_rowbetween_k44_too_many w 5472 (st0 w os)=some s:=by
  unfold topFrom;rw[show (st0 w os).heap=boot_heap w.params from rfl,z1,z2,z3];unfold rn at r1;rw[r1];show (match _&&_&&_&&_ with | true=>_ | false=>_)=_;rw[l1]
 rw[t];exact Ji some (Prod.ext (by exact l2) (by exact l3))
theorem twoRows{α:Type}{Yf:Shared->α}{Ya:World->α}(row:String)(a:∀(w:World) (os:OsState),(rn (w.withFollow row false) os).map (λs=>(staticsOk (importedModules PySem.Challenge.pw_rowbetween_k44_too_many.main.body) (boot_heap (w.withFollow row false).params) s.heap&&namesBound PySem.Challenge.pw_rowbetween_k44_too_many s.heap&&gensDone s&&laidKept (boot_heap (w.withFollow row false).params) s.heap,openSeen vw ["OPPOSITES"] (importedModules PySem.Challenge.pw_rowbetween_k44_too_many.main.body) xt true s,Yf s))=some (true,openGood vw ["OPPOSITES"],Ya (w.withFollow row false)))(b:∀(w:World) (os:OsState),(rn (w.withFollow row true) os).map (λs=>(staticsOk (importedModules PySem.Challenge.pw_rowbetween_k44_too_many.main.body) (boot_heap (w.withFollow row true).params) s.heap&&namesBound PySem.Challenge.pw_rowbetween_k44_too_many s.heap&&gensDone s&&laidKept (boot_heap (w.withFollow row true).params) s.heap,openSeen vw ["OPPOSITES"] (importedModules PySem.Challenge.pw_rowbetween_k44_too_many.main.body) xt true s,Yf s))=some (true,openGood vw ["OPPOSITES"],Ya (w.withFollow row true))):∀(w:World) (os:OsState),(rn w os).map (λs=>(staticsOk (importedModules PySem.Challenge.pw_rowbetween_k44_too_many.main.body) (boot_heap w.params) s.heap&&namesBound PySem.Challenge.pw_rowbetween_k44_too_many s.heap&&gensDone s&&laidKept (boot_heap w.params) s.heap,openSeen vw ["OPPOSITES"] (importedModules PySem.Challenge.pw_rowbetween_k44_too_many.main.body) xt true s,Yf s))=some (true,openGood vw ["OPPOSITES"],Ya w) :=
 byRow2 row (P:=λw=>∀os:OsState,(rn w os).map (λs=>(staticsOk (importedModules PySem.Challenge.pw_rowbetween_k44_too_many.main.body) (boot_heap w.params) s.heap&&namesBound PySem.Challenge.pw_rowbetween_k44_too_many s.heap&&gensDone s&&laidKept (boot_heap w.params) s.heap,openSeen vw ["OPPOSITES"] (importedModules PySem.Challenge.pw_rowbetween_k44_too_many.main.body) xt true s,Yf s))=some (true,openGood vw ["OPPOSITES"],Ya w)) a b
theorem pM(w:World)(os:OsState):(rn (w.withFollow "special-get-raises" false) os).map (λs=>(staticsOk (importedModules PySem.Challenge.pw_rowbetween_k44_too_many.main.body) (boot_heap (w.withFollow "special-get-raises" false).params) s.heap&&namesBound PySem.Challenge.pw_rowbetween_k44_too_many s.heap&&gensDone s&&laidKept (boot_heap (w.withFollow "special-get-raises" false).params) s.heap,seen ((recsOf vw).map (·.name)) (ownsOf vw) [] { s with gens:=#[] },s.heap.bltView,s.heap.keysOk (looseW vw ["OPPOSITES"]) ((recsOf vw).map (·.name)) ((litsOf vw).map (·.1)) ((clssOf vw (looseW vw ["OPPOSITES"])).map (·.name))&&s.heap.accountedOkI (importedModules PySem.Challenge.pw_rowbetween_k44_too_many.main.body)&&s.heap.isNs mainGlobals&&s.heap.isNs builtinsNs&&tablesOk vw s.heap&&xt s&&(if true then s.gens.size==0 else !leftWithCleanup s.gens)))=some ((true),(expectedOf vw),(bltViewBooted),(true)):=by
 (refine dN ?_ (dN ?_ (dN ?_ ?_)));(focus (walk_at "hf"));(focus (walk_at "hf"));(focus (walk_at "hf"));(focus (walk_at "hf"))
theorem Bt(w:World)(os:OsState):(rn (w.withFollow "special-get-raises" false) os).map (λs=>staticsOk (importedModules PySem.Challenge.pw_rowbetween_k44_too_many.main.body) (boot_heap (w.withFollow "special-get-raises" false).params) s.heap&&namesBound PySem.Challenge.pw_rowbetween_k44_too_many s.heap&&gensDone s&&laidKept (boot_heap (w.withFollow "special-get-raises" false).params) s.heap)=some (true):=(pQ (pM w os))
theorem yY(w:World)(os:OsState):(rn (w.withFollow "special-get-raises" false) os).map (λs=>seen ((recsOf vw).map (·.name)) (ownsOf vw) [] { s with gens:=#[] })=some (expectedOf vw):=(pQ (gQ (pM w os)))
theorem Ba(w:World)(os:OsState):(rn (w.withFollow "special-get-raises" false) os).map (λs=>s.heap.bltView)=some (bltViewBooted):=(pQ (gQ (gQ (pM w os))))
theorem Af(w:World)(os:OsState):(rn (w.withFollow "special-get-raises" false) os).map (λs=>s.heap.keysOk (looseW vw ["OPPOSITES"]) ((recsOf vw).map (·.name)) ((litsOf vw).map (·.1)) ((clssOf vw (looseW vw ["OPPOSITES"])).map (·.name))&&s.heap.accountedOkI (importedModules PySem.Challenge.pw_rowbetween_k44_too_many.main.body)&&s.heap.isNs mainGlobals&&s.heap.isNs builtinsNs&&tablesOk vw s.heap&&xt s&&(if true then s.gens.size==0 else !leftWithCleanup s.gens))=some (true):=(gQ (gQ (gQ (pM w os))))
theorem uw(w:World)(os:OsState):(rn (w.withFollow "special-get-raises" false) os).map (λs=>(tabsOk vw s,pinSeenD vw (drecsOf vw) s,plainSeenE vw (looseW vw ["OPPOSITES"]) s))=some ((true),(pinGoodD (drecsOf vw)),(plainGoodE vw (looseW vw ["OPPOSITES"]))):=by
 (refine dN ?_ (dN ?_ ?_));(focus (walk_at "hf"));(focus (walk_at "hf"));(focus (walk_at "hf"))
theorem Av(w:World)(os:OsState):(rn (w.withFollow "special-get-raises" false) os).map (λs=>tabsOk vw s)=some (true):=(pQ (uw w os))
theorem Aa(w:World)(os:OsState):(rn (w.withFollow "special-get-raises" false) os).map (λs=>pinSeenD vw (drecsOf vw) s)=some (pinGoodD (drecsOf vw)):=(pQ (gQ (uw w os)))
theorem yI(w:World)(os:OsState):(rn (w.withFollow "special-get-raises" false) os).map (λs=>plainSeenE vw (looseW vw ["OPPOSITES"]) s)=some (plainGoodE vw (looseW vw ["OPPOSITES"])):=(gQ (gQ (uw w os)))
theorem uO(w:World)(os:OsState):(rn (w.withFollow "special-get-raises" false) os).map (λs=>(plainSeenD vw ["OPPOSITES"] s,wideSeen vw s,clsSeenW vw ["OPPOSITES"] s))=some ((plainGoodD vw ["OPPOSITES"]),(wideGood vw),(clsGoodW vw ["OPPOSITES"])):=by
 (refine dN ?_ (dN ?_ ?_));(focus (walk_at "hf"));(focus (walk_at "hf"));(focus (walk_at "hf"))
theorem As(w:World)(os:OsState):(rn (w.withFollow "special-get-raises" false) os).map (λs=>plainSeenD vw ["OPPOSITES"] s)=some (plainGoodD vw ["OPPOSITES"]):=(pQ (uO w os))
theorem AN(w:World)(os:OsState):(rn (w.withFollow "special-get-raises" false) os).map (λs=>wideSeen vw s)=some (wideGood vw):=(pQ (gQ (uO w os)))
theorem Ay(w:World)(os:OsState):(rn (w.withFollow "special-get-raises" false) os).map (λs=>clsSeenW vw ["OPPOSITES"] s)=some (clsGoodW vw ["OPPOSITES"]):=(gQ (gQ (uO w os)))
theorem AC(w:World)(os:OsState):(rn (w.withFollow "special-get-raises" false) os).map (λs=>openSeen vw ["OPPOSITES"] (importedModules PySem.Challenge.pw_rowbetween_k44_too_many.main.body) xt true s)=some (openGood vw ["OPPOSITES"]):=(dN (yY w os) (dN (Ba w os) (dN (Af w os) (dN (Av w os) (dN (Aa w os) (dN (yI w os) (dN (As w os) (dN (AN w os) (Ay w os)))))))))
theorem all_a{α:Type}{Yf:Shared->α}{Ya:World->α}(h:∀(w:World) (os:OsState),(rn (w.withFollow "special-get-raises" false) os).map (λs=>Yf s)=some (Ya (w.withFollow "special-get-raises" false)))(w:World)(os:OsState) :
  (rn (w.withFollow "special-get-raises" false) os).map (λs=>(staticsOk (importedModules PySem.Challenge.pw_rowbetween_k44_too_many.main.body) (boot_heap (w.withFollow "special-get-raises" false).params) s.heap&&namesBound PySem.Challenge.pw_rowbetween_k44_too_many s.heap&&gensDone s&&laidKept (boot_heap (w.withFollow "special-get-raises" false).params) s.heap,openSeen vw ["OPPOSITES"] (importedModules PySem.Challenge.pw_rowbetween_k44_too_many.main.body) xt true s,Yf s))=some (true,openGood vw ["OPPOSITES"],Ya (w.withFollow "special-get-raises" false)):=dN (Bt w os) (dN (AC w os) (h w os))
theorem oX(w:World)(os:OsState):(rn (w.withFollow "special-get-raises" true) os).map (λs=>(staticsOk (importedModules PySem.Challenge.pw_rowbetween_k44_too_many.main.body) (boot_heap (w.withFollow "special-get-raises" true).params) s.heap&&namesBound PySem.Challenge.pw_rowbetween_k44_too_many s.heap&&gensDone s&&laidKept (boot_heap (w.withFollow "special-get-raises" true).params) s.heap,seen ((recsOf vw).map (·.name)) (ownsOf vw) [] { s with gens:=#[] },s.heap.bltView,s.heap.keysOk (looseW vw ["OPPOSITES"]) ((recsOf vw).map (·.name)) ((litsOf vw).map (·.1)) ((clssOf vw (looseW vw ["OPPOSITES"])).map (·.name))&&s.heap.accountedOkI (importedModules PySem.Challenge.pw_rowbetween_k44_too_many.main.body)&&s.heap.isNs mainGlobals&&s.heap.isNs builtinsNs&&tablesOk vw s.heap&&xt s&&(if true then s.gens.size==0 else !leftWithCleanup s.gens)))=some ((true),(expectedOf vw),(bltViewBooted),(true)):=by
 (refine dN ?_ (dN ?_ (dN ?_ ?_)));(focus (walk_at "hf"));(focus (walk_at "hf"));(focus (walk_at "hf"));(focus (walk_at "hf"))
theorem yO(w:World)(os:OsState):(rn (w.withFollow "special-get-raises" true) os).map (λs=>staticsOk (importedModules PySem.Challenge.pw_rowbetween_k44_too_many.main.body) (boot_heap (w.withFollow "special-get-raises" true).params) s.heap&&namesBound PySem.Challenge.pw_rowbetween_k44_too_many s.heap&&gensDone s&&laidKept (boot_heap (w.withFollow "special-get-raises" true).params) s.heap)=some (true):=(pQ (oX w os))
theorem zE(w:World)(os:OsState):(rn (w.withFollow "special-get-raises" true) os).map (λs=>seen ((recsOf vw).map (·.name)) (ownsOf vw) [] { s with gens:=#[] })=some (expectedOf vw):=(pQ (gQ (oX w os)))
theorem Bh(w:World)(os:OsState):(rn (w.withFollow "special-get-raises" true) os).map (λs=>s.heap.bltView)=some (bltViewBooted):=(pQ (gQ (gQ (oX w os))))
theorem zI(w:World)(os:OsState):(rn (w.withFollow "special-get-raises" true) os).map (λs=>s.heap.keysOk (looseW vw ["OPPOSITES"]) ((recsOf vw).map (·.name)) ((litsOf vw).map (·.1)) ((clssOf vw (looseW vw ["OPPOSITES"])).map (·.name))&&s.heap.accountedOkI (importedModules PySem.Challenge.pw_rowbetween_k44_too_many.main.body)&&s.heap.isNs mainGlobals&&s.heap.isNs builtinsNs&&tablesOk vw s.heap&&xt s&&(if true then s.gens.size==0 else !leftWithCleanup s.gens))=some (true):=(gQ (gQ (gQ (oX w os))))
theorem tT(w:World)(os:OsState):(rn (w.withFollow "special-get-raises" true) os).map (λs=>(tabsOk vw s,pinSeenD vw (drecsOf vw) s,plainSeenE vw (looseW vw ["OPPOSITES"]) s))=some ((true),(pinGoodD (drecsOf vw)),(plainGoodE vw (looseW vw ["OPPOSITES"]))):=by
 (refine dN ?_ (dN ?_ ?_));(focus (walk_at "hf"));(focus (walk_at "hf"));(focus (walk_at "hf"))
theorem y8(w:World)(os:OsState):(rn (w.withFollow "special-get-raises" true) os).map (λs=>tabsOk vw s)=some (true):=(pQ (tT w os))
theorem yZ(w:World)(os:OsState):(rn (w.withFollow "special-get-raises" true) os).map (λs=>pinSeenD vw (drecsOf vw) s)=some (pinGoodD (drecsOf vw)):=(pQ (gQ (tT w os)))
theorem zP(w:World)(os:OsState):(rn (w.withFollow "special-get-raises" true) os).map (λs=>plainSeenE vw (looseW vw ["OPPOSITES"]) s)=some (plainGoodE vw (looseW vw ["OPPOSITES"])):=(gQ (gQ (tT w os)))
theorem sA(w:World)(os:OsState):(rn (w.withFollow "special-get-raises" true) os).map (λs=>(plainSeenD vw ["OPPOSITES"] s,wideSeen vw s,clsSeenW vw ["OPPOSITES"] s))=some ((plainGoodD vw ["OPPOSITES"]),(wideGood vw),(clsGoodW vw ["OPPOSITES"])):=by
 (refine dN ?_ (dN ?_ ?_));(focus (walk_at "hf"));(focus (walk_at "hf"));(focus (walk_at "hf"))
theorem zL(w:World)(os:OsState):(rn (w.withFollow "special-get-raises" true) os).map (λs=>plainSeenD vw ["OPPOSITES"] s)=some (plainGoodD vw ["OPPOSITES"]):=(pQ (sA w os))
theorem zn(w:World)(os:OsState):(rn (w.withFollow "special-get-raises" true) os).map (λs=>wideSeen vw s)=some (wideGood vw):=(pQ (gQ (sA w os)))
theorem y9(w:World)(os:OsState):(rn (w.withFollow "special-get-raises" true) os).map (λs=>clsSeenW vw ["OPPOSITES"] s)=some (clsGoodW vw ["OPPOSITES"]):=(gQ (gQ (sA w os)))
theorem yH(w:World)(os:OsState):(rn (w.withFollow "special-get-raises" true) os).map (λs=>openSeen vw ["OPPOSITES"] (importedModules PySem.Challenge.pw_rowbetween_k44_too_many.main.body) xt true s)=some (openGood vw ["OPPOSITES"]):=(dN (zE w os) (dN (Bh w os) (dN (zI w os) (dN (y8 w os) (dN (yZ w os) (dN (zP w os) (dN (zL w os) (dN (zn w os) (y9 w os)))))))))
theorem all_b{α:Type}{Yf:Shared->α}{Ya:World->α}(h:∀(w:World) (os:OsState),(rn (w.withFollow "special-get-raises" true) os).map (λs=>Yf s)=some (Ya (w.withFollow "special-get-raises" true)))(w:World)(os:OsState) :
  (rn (w.withFollow "special-get-raises" true) os).map (λs=>(staticsOk (importedModules PySem.Challenge.pw_rowbetween_k44_too_many.main.body) (boot_heap (w.withFollow "special-get-raises" true).params) s.heap&&namesBound PySem.Challenge.pw_rowbetween_k44_too_many s.heap&&gensDone s&&laidKept (boot_heap (w.withFollow "special-get-raises" true).params) s.heap,openSeen vw ["OPPOSITES"] (importedModules PySem.Challenge.pw_rowbetween_k44_too_many.main.body) xt true s,Yf s))=some (true,openGood vw ["OPPOSITES"],Ya (w.withFollow "special-get-raises" true)):=dN (yO w os) (dN (yH w os) (h w os))
end Hd
structure Hd.Facts(K:Zf):Prop where
 q0:DL.FdK K "common_divisor" Lw.s_common_divisor
 q1:DL.FdK K "made" Lw.s_made
 q2:DL.FdK K "plus" Lw.s_plus
 q3:DL.FdK K "times" Lw.s_times
 q4:DL.FdK K "less" Lw.s_less
 q5:DL.FdK K "is_row" Lw.s_is_row
 q6:DL.FdK K "mark_names" Lw.s_mark_names
 q7:DL.FdK K "names_of" Lw.s_names_of
 q8:DL.FdK K "tops_of" Lw.s_tops_of
 q9:DL.FdK K "top_of_sum" Lw.s_top_of_sum
 q10:DL.FdK K "row_is_so" Lw.s_row_is_so
 q11:DL.FdK K "part_is_so" Lw.s_part_is_so
 q12:DL.FdK K "is_so" Lw.s_is_so
 q13:DL.FdK K "contrary" Lw.s_contrary
 q14:DL.FdK K "plain_part" Lw.s_plain_part
 q15:DL.FdK K "plain" Lw.s_plain
 q16:DL.FdK K "put_together" Lw.s_put_together
 q17:DL.FdK K "cases_within" Lw.s_cases_within
 q18:DL.FdK K "cases" Lw.s_cases
 q19:DL.FdK K "added" Lw.s_added
 q20:DL.FdK K "weight_of" Lw.s_weight_of
 q21:DL.FdK K "alone" Lw.s_alone
 q22:DL.FdK K "shortened" Lw.s_shortened
 q23:DL.FdK K "crossed" Lw.s_crossed
 q24:DL.FdK K "without" Lw.s_without
 q25:DL.FdK K "taken_out" Lw.s_taken_out
 q26:DL.FdK K "bound_on" Lw.s_bound_on
 q27:DL.FdK K "tighter" Lw.s_tighter
 q28:DL.FdK K "number_in" Lw.s_number_in
 q29:DL.FdK K "piece_for" Lw.s_piece_for
 q30:DL.FdK K "found_back" Lw.s_found_back
 q31:DL.FdK K "solved" Lw.s_solved
 q32:DL.FdK K "joined" Lw.s_joined
 q33:DL.FdK K "both_so" Lw.s_both_so
 q34:DL.FdK K "lets_by" Lw.s_lets_by
 q35:DL.FdK K "between" Lw.s_between
 q36:DL.FdK K "shadow" Lw.s_shadow
 q37:DL.FdK K "filled" Lw.s_filled
 q38:DL.FdK K "wider" Lw.s_wider
 q39:DL.FdK K "lies_below" Lw.s_lies_below
 q40:DL.FdK K "put_in" Lw.s_put_in
 q41:DL.FdK K "stretch" Lw.s_stretch
 q42:DL.FdK K "_law_row" Lw.s__law_row
 q43:DL.FdK K "_law_counted" Lw.s__law_counted
 q44:DL.FdK K "_law_grown" Lw.s__law_grown
 q45:DL.FdK K "_law_names" Lw.s__law_names
 q46:DL.FdK K "_law_asked" Lw.s__law_asked
 q47:DL.FdK K "_law_kind" Lw.s__law_kind
 q48:DL.FdK K "_law_due" Lw.s__law_due
 q49:DL.FdK K "law" Lw.s_law
 z0:PySem.W.nsIn K PySem.mainGlobals "abs"=some none
 z1:PySem.W.nsIn K PySem.mainGlobals "sorted"=some none
 z2:PySem.W.nsIn K PySem.mainGlobals "tuple"=some none
 z3:PySem.W.nsIn K PySem.mainGlobals "max"=some none
 z4:PySem.W.nsIn K PySem.mainGlobals "len"=some none
 z5:PySem.W.nsIn K PySem.mainGlobals "zip"=some none
 z6:PySem.W.nsIn K PySem.mainGlobals "enumerate"=some none
 z7:PySem.W.nsIn K PySem.mainGlobals "range"=some none
 z8:PySem.W.nsIn K PySem.mainGlobals "reversed"=some none
 z9:PySem.W.nsIn K PySem.mainGlobals "dict"=some none
 z10:PySem.W.nsIn K PySem.mainGlobals "all"=some none
 z11:PySem.W.nsIn K PySem.mainGlobals "set"=some none
 z12:PySem.W.nsIn K PySem.mainGlobals "isinstance"=some none
 z13:PySem.W.nsIn K PySem.mainGlobals "ValueError"=some none
 ef:DL.ErF K Lw.i_NoQuotient Lw.i_NoName Lw.i_TooMany
 g_OPPOSITES:∃ga:PySem.Addr,PySem.W.nsIn K PySem.mainGlobals "OPPOSITES"=some (some (.ref ga))/\PyProof.Rows.KTD.tabLook (PyProof.Rows.KTD.datLooks λb=>K.lookup b) (λb=>K.lookup b) ga (DL.txt [("least","more"),("more","least"),("both","either"),("either","both")])=true
 g_MOST_ROWS:∃ga:PySem.Tok,PySem.W.nsIn K PySem.mainGlobals "MOST_ROWS"=some (some (.int 3 ga))
 g_MOST_CASES:∃ga:PySem.Tok,PySem.W.nsIn K PySem.mainGlobals "MOST_CASES"=some (some (.int 4 ga))
 g_ENDLESS:∃(ga:PySem.Addr) (od:Option PySem.Addr) (n:Nat) (sl:Array (Option PySem.Value)),PySem.W.nsIn K PySem.mainGlobals "ENDLESS"=some (some (.ref ga))/\K.lookup ga=some ⟨.type "tuple",od,.seq #[.none,.bool false] n,sl⟩
 g_ALWAYS_SO:∃(ga ge:PySem.Addr) (od oe:Option PySem.Addr) (n m:Nat) (sl se:Array (Option PySem.Value)) (t u:PySem.Tok),PySem.W.nsIn K PySem.mainGlobals "ALWAYS_SO"=some (some (.ref ga))/\K.lookup ga=some ⟨.type "tuple",od,.seq #[.str "least" t,.ref ge,.int 0 u] n,sl⟩/\K.lookup ge=some ⟨.type "tuple",oe,.seq #[] m,se⟩
section
open PySem PySem.W PyProof.Rows
local macro_rules | `(tactic| o_head $H) => `(tactic| assumption)
theorem Hd.mk(H:PySem.Challenge.rw_rowbetween_k44_too_many.row.Holds):PySem.Challenge.rw_rowbetween_k44_too_many.row.Holds:=by k_head
end
section
open PySem PySem.W PyProof.Rows
def Hd.ads:List Addr:=(Hd.mk.heap_1 {strHash:=λ_=>0,shareClass:=λ_=>0,mergeTok:=id,idOf:=λ_=>0,idOfShared:=λ_ _=>0,followText:=λ_=>false,idOfImm:=λ_=>0}).map (·.1)
theorem Hd.adr(P:Params):Hd.ads=(Hd.mk.heap_1 P).map (·.1):=by kernel_rfl
theorem Hd.keyA(w:World)(os:OsState):(Hd.rn (w.withFollow "special-get-raises" false) os).map (λs=>PySem.W.Hook.obs (PySem.W.kHook Hd.mk.heap_1 Hd.ads Hd.adr) s)=some (PySem.W.Hook.val (PySem.W.kHook Hd.mk.heap_1 Hd.ads Hd.adr) (w.withFollow "special-get-raises" false)):=by walk_at "hf"
theorem Hd.keyB(w:World)(os:OsState):(Hd.rn (w.withFollow "special-get-raises" true) os).map (λs=>PySem.W.Hook.obs (PySem.W.kHook Hd.mk.heap_1 Hd.ads Hd.adr) s)=some (PySem.W.Hook.val (PySem.W.kHook Hd.mk.heap_1 Hd.ads Hd.adr) (w.withFollow "special-get-raises" true)):=by walk_at "hf"
local macro_rules | `(tactic| o_head $H) => `(tactic| (
 refine PySem.W.holds_open (r:=PySem.Challenge.rw_rowbetween_k44_too_many.row) (q:=Hd.vw) (loose:=["OPPOSITES"]) (Xt:=Hd.xt)
  (XP:=PySem.W.XL Hd.vw []) (Yf:=PySem.W.Hook.obs $H) (Ya:=PySem.W.Hook.val $H) (YP:=PySem.W.Hook.says $H) (N:=5472)
  ?_ (PySem.W.Hook.of $H) (PySem.W.Hook.keeps $H) (λs e=>PySem.W.xl_of s (Hu.mp e).1)
  PySem.W.XL.keeps (by rfl) (by rfl) (by rfl) (λs e=>PySem.W.recFacts_of (Hu.mp e).2)
  (by rfl) (by first | assumption | decide +kernel) (by decide +kernel) ⟨rfl,rfl,rfl,rfl,rfl,by decide +kernel⟩ ?_ ?_
 (focus (refine Hd.left ?_;refine Hd.twoRows "special-get-raises" (Hd.all_a ?_) (Hd.all_b ?_);exact Hd.keyA;exact Hd.keyB))
 (focus w_witness2)))
theorem Hd.half(F:∀(YP:World->Heap->Prop) (d:DefRec) (K:Params->Zf),(∀(w:World) (h:Heap),YP w h->(K w.params).In h)->d.params.defaults=[]->d.name="law"->(∀w:World,Hd.Facts (K w.params))->PySem.W.WalkO Hd.vw ["OPPOSITES"] (PySem.W.XL Hd.vw []) YP PySem.Challenge.rw_rowbetween_k44_too_many.row.toRowW d [] (λf vs=>PySem.call f vs)):PySem.Challenge.rw_rowbetween_k44_too_many.Holds:=by
 w_on;refine PySem.W.holds_law Hd.said λsaid=>?_;o_head (PySem.W.kHook Hd.mk.heap_1 Hd.ads Hd.adr)
 k_fill
 refine F _ _ _ (λw h Y=>PySem.W.kIn_of Y) rfl rfl λw=>?_
 constructor
 iterate 50 (focus (exact⟨⟨_,_,_,_,_,_,_,_,_,_,by k_is,by k_is,by k_is,by k_is⟩⟩))
 ·k_is
 ·k_is
 ·k_is
 ·k_is
 ·k_is
 ·k_is
 ·k_is
 ·k_is
 ·k_is
 ·k_is
 ·k_is
 ·k_is
 ·k_is
 ·k_is
 ·exact⟨⟨_,_,⟨by k_is,⟨⟨_,_,_,_,_,_,_,_,_,_,_,_,_,by k_is⟩⟩,by kernel_rfl,by k_is,by k_is,by k_is,by k_is,by k_is,by k_is⟩,by kernel_rfl,by kernel_rfl,by kernel_rfl,⟨⟨_,_,_,by k_is,⟨⟨_,_,_,_,_,_,_,_,_,_,_,_,_,by k_is⟩⟩,by kernel_rfl,by k_is,by k_is,by k_is,by k_is,by k_is,_,_,_,_,_,_,_,_,by k_is,by k_is,by k_is⟩⟩,⟨⟨_,_,_,by k_is,⟨⟨_,_,_,_,_,_,_,_,_,_,_,_,_,by k_is⟩⟩,by kernel_rfl,by k_is,by k_is,by k_is,by k_is,by k_is,_,_,_,_,_,_,_,_,by k_is,by k_is,by k_is⟩⟩,⟨⟨_,_,_,by k_is,⟨⟨_,_,_,_,_,_,_,_,_,_,_,_,_,by k_is⟩⟩,by kernel_rfl,by k_is,by k_is,by k_is,by k_is,by k_is,_,_,_,_,_,_,_,_,by k_is,by k_is,by k_is⟩⟩⟩⟩
 ·exact⟨_,by k_is,by kernel_rfl⟩
 ·exact⟨_,by k_is⟩
 ·exact⟨_,by k_is⟩
 ·exact⟨_,_,_,_,by k_is,by k_is⟩
 ·exact⟨_,_,_,_,_,_,_,_,_,_,by k_is,by k_is,by k_is⟩
end
namespace L2
open PySem PySem.Spec PyProof.Rows
abbrev Gg:=Sum Int Str
def nc:Gg->Value->Bool
 | .inl k,v=>Value.isInt k v
 | .inr x,v=>Value.isStrOf x v
def keyH(w:World):Gg->Int
 | .inl k=>hashInt k
 | .inr x=>hashStr w x
theorem aV:∀ {k:Gg} {v:Value},nc k v=true->(∃i t,k=Sum.inl i/\v=Value.int i t)\/(∃x t,k=Sum.inr x/\v=Value.str x t)
 | .inl i,v,h=>by
  obtain⟨t,e⟩:=Value.isInt_shape (k:=i) (v:=v) h;exact .inl ⟨i,t,rfl,e⟩
 | .inr x,v,h=>by
  obtain⟨t,e⟩:=Value.isStrOf_shape (x:=x) (v:=v) h;exact .inr ⟨x,t,rfl,e⟩
theorem ve(i:Int)(t:Tok):nc (.inl i) (.int i t)=true:=by simp[nc,Value.isInt]
theorem tW(x:Str)(t:Tok):nc (.inr x) (.str x t)=true:=by simp[nc,Value.isStrOf]
theorem CB(a b:Int):decide ((Sum.inl a:Gg)=Sum.inl b)=(a==b):=by
 by_cases e:a=b
 ·subst e;simp
 ·have h:¬ (Sum.inl a:Gg)=Sum.inl b:=λq=>e (Sum.inl.inj q)
  rw[HA h];exact(JH.mpr e).symm
theorem B0(a b:Str):decide ((Sum.inr a:Gg)=Sum.inr b)=decide (a=b):=by
 by_cases e:a=b
 ·subst e;simp
 ·have h:¬ (Sum.inr a:Gg)=Sum.inr b:=λq=>e (Sum.inr.inj q)
  rw[HA h,HA e]
theorem CA(a:Int)(b:Str):decide ((Sum.inl a:Gg)=Sum.inr b)=false:=HA (λq=>nomatch q)
theorem DV(a:Str)(b:Int):decide ((Sum.inr a:Gg)=Sum.inl b)=false:=HA (λq=>nomatch q)
def bf(prog:Program)(w:World):PySem.KeyKind prog w Gg where
 is:=nc
 hash:=keyH w
 inj:=λv a b ha hb=>by
  rcases aV ha with⟨i,t,rfl,rfl⟩ | ⟨x,t,rfl,rfl⟩
  ·rcases aV hb with⟨j,u,rfl,e⟩ | ⟨y,u,rfl,e⟩
   ·injection e with e1 _;rw[e1]
   ·exact nomatch e
  ·rcases aV hb with⟨j,u,rfl,e⟩ | ⟨y,u,rfl,e⟩
   ·exact nomatch e
   ·injection e with e1 _;rw[e1]
 byValue:=λk v h=>by
  rcases aV h with⟨i,t,rfl,rfl⟩ | ⟨x,t,rfl,rfl⟩<;>rfl
 pyHash:=λhv h=>by
  rcases aV hv with⟨i,t,rfl,rfl⟩ | ⟨x,t,rfl,rfl⟩
  ·exact wpAny_pyHash_int h
  ·exact wpAny_pyHash_str h
 eqBool:=λhu hv h=>by
  rcases aV hu with⟨i,t,rfl,rfl⟩ | ⟨x,t,rfl,rfl⟩
  ·rcases aV hv with⟨j,u,rfl,rfl⟩ | ⟨y,u,rfl,rfl⟩
   ·rw[CB] at h;exact wpAny_eqBool_int h
   ·rw[CA] at h;exact SeqAt.EqAt.int_str i t y u _ _ _ _ h
  ·rcases aV hv with⟨j,u,rfl,rfl⟩ | ⟨y,u,rfl,rfl⟩
   ·rw[DV] at h;exact SeqAt.EqAt.str_int x t j u _ _ _ _ h
   ·rw[B0] at h;exact wpAny_eqBool_str h
 «strs»:=λk x t v h=>by
  rcases aV h with⟨i,u,rfl,e⟩ | ⟨y,u,rfl,e⟩
  ·exact nomatch e
  ·injection e with e1 _
   subst e1
   cases v<;>rfl
theorem m5(prog:Program)(w:World)(i:Int)(t:Tok):(bf prog w).is (.inl i) (.int i t)=true:=ve i t
theorem ng(prog:Program)(w:World)(x:Str)(t:Tok):(bf prog w).is (.inr x) (.str x t)=true:=tW x t
end L2
namespace L2
open PySem PySem.Spec PyProof.Rows
inductive V where
 | non | bl (b:Bool) | int (i:Int) | str (x:Str) | byt (b:Array UInt8) | flt (b:UInt64) | ref (a:Addr) | ty (n:String)
 deriving DecidableEq
abbrev Zg:=List V
def bB:V->Value->Prop
 | .non,u=>u=Value.none
 | .bl b,u=>u=Value.bool b
 | .int i,u=>∃t,u=Value.int i t
 | .str x,u=>∃t,u=Value.str x t
 | .byt b,u=>∃t,u=Value.bytes b t
 | .flt b,u=>∃t,u=Value.float b t
 | .ref a,u=>u=Value.ref a
 | .ty n,u=>u=Value.type n
abbrev bF:List V->List Value->Prop:=Paired bB
theorem bF.length(r:bF xs us):xs.length=us.length:=Paired.length r
theorem bF.get:∀ {xs:Zg} {us:Zc} {i:Nat} {x:V},bF xs us->xs[i]?=some x->∃u,us[i]?=some u/\bB x u
 | _,_,_,_,.nil,e=>by simp at e
 | _,_,0,_,.cons r _,e=>by simp at e;subst e;exact⟨_,rfl,r⟩
 | _,_,i+1,x,.cons _ t,e=>by
  obtain⟨u,h1,h2⟩:=bF.get (i:=i) (x:=x) t (by simpa using e);exact⟨u,by simpa using h1,h2⟩
theorem bF.append:∀ {xs ys:Zg} {us ws:Zc},bF xs us->bF ys ws->bF (xs++ys) (us++ws)
 | _,_,_,_,.nil,s=>s
 | _,_,_,_,.cons r t,s=>.cons r (bF.append t s)
theorem bF.take:∀ {xs:Zg} {us:Zc} (n:Nat),bF xs us->bF (xs.take n) (us.take n)
 | _,_,0,_=>.nil
 | _,_,_+1,.nil=>.nil
 | _,_,n+1,.cons r t=>.cons r (bF.take n t)
theorem bF.drop:∀ {xs:Zg} {us:Zc} (n:Nat),bF xs us->bF (xs.drop n) (us.drop n)
 | _,_,0,r=>r
 | _,_,_+1,.nil=>.nil
 | _,_,n+1,.cons _ t=>bF.drop n t
def px:Option V->Zd->Prop
 | some v,some u=>bB v u
 | none,none=>True
 | _,_=>False
def KV{κ:Type}:List (κ×V)->List (κ×Value)->Prop:=Paired λ(p:κ×V) (q:κ×Value)=>p.1=q.1/\bB p.2 q.2
def kV:Gg->V
 | .inl i=>.int i
 | .inr x=>.str x
inductive HO where
 | lst (xs:Zg)
 | tup (xs:Zg)
 | dK (kvs:List (Gg×V)) | dT (kvs:List (List Gg×V))
 | set (S:Int->Bool) (n:Nat)
 | ins (C dx:Addr) (fs:List (Str×V))
 | own (x:Addr)
 | xd (fs:List (Str×V))
 | met (f x:Addr)
 | rng (lo hi:Int)
 | frz (o:Obj) (u:HO)
 | tbl (ps:Array Value)
 | ext (φ:Heap->Prop)
abbrev Hp:=Addr->Option HO
def GE(H:Hp)(a:Addr)(o:HO):Hp:=λb=>if b=a then some o else H b
theorem aw:GE H a o a=some o:=by unfold GE;rw[Hc rfl]
theorem aH(h:b≠a):GE H a o b=H b:=by unfold GE;rw[Ha h]
theorem Gc{H:Hp}(h:H a=some o)(h':H b=some u)(d:o≠u):a≠b:=by
 intro e;subst e;rw[h] at h';exact d (G4 h')
theorem cw{H:Hp}(h:H a=some o)(h':H b=none):a≠b:=by
 intro e;subst e;rw[h] at h';cases h'
section
variable (P:Program) (w:World)
def b6(H:Hp)(h:Heap)(a:Addr):HO->Prop
 | .lst xs=>xs.length<=sizeLine/\∃(its:Zc) (n:Nat),bF xs its/\h.get? a=some { cls:=.type "list",data:=.seq its.toArray n }
 | .tup xs=>xs.length<=sizeLine/\∃its:Zc,bF xs its/\IsTup h a its.toArray
 | .dK kvs=>kvs.length<=sizeLine/\(a==sysModules)=false/\∃vs,KV kvs vs/\h.DictOf (bf P w) a vs
 | .dT kvs=>kvs.length<=sizeLine/\(a==sysModules)=false/\∃xs:List (List Gg×Addr×Value),
   Paired (λ(p:List Gg×V) (q:List Gg×Addr×Value)=>p.1=q.1/\H q.2.1=some (.tup (p.1.map kV))/\bB p.2 q.2.2) kvs xs /\
   ∃o es ep,h.get? a=some o/\o.ExactDict/\o.data=.dict es ep/\es.toList=xs.map (entryOfKey (tupleKind (bf P w)))/\(xs.map (·.1)).Nodup
 | .set S n=>h.SetOf (intKind P w) a S n
 | .ins C dx fs=>H dx=some (.own a)/\fs.length<=1000/\dx≠a/\h.get? a=some (PySem.W.instObj C dx) /\
   ∃mA,h.Ns1 dx mA/\(∀f,px (fs.lookup f) (mA f))/\PySem.Within mA (fs.map (·.1))
 | .own _=>∃o,h.get? a=some o
 | .xd fs=>∃mA,h.Ns1 a mA/\∀f,px (fs.lookup f) (mA f)
 | .rng lo hi=>∃t u v,h.get? a=some { cls:=.type "range",data:=.fields #[.int lo t,.int hi u,.int 1 v] }
 | .frz o u=>h.get? a=some o/\b6 H h a u
 | .tbl ps=>h.get? a=some { cls:=.none,data:=.fields ps }
 | .met f x=>h.get? a=some (PySem.W.methodObj (.ref f) (.ref x))
 | .ext φ=>φ h/\(∃o,h.get? a=some o)/\∀h1 h2:Heap,φ h1->(∀o,h1.get? a=some o->h2.get? a=some o)->φ h2
def Gk(H:Hp)(h:Heap):Prop:=∀a o,H a=some o->b6 P w H h a o
end
section
theorem b6.lt(x:b6 P w H h a o):a<h.objs.size:=by
 cases o with
 | lst xs=>obtain⟨_,_,_,_,e⟩:=x;exact G3 e
 | tup xs=>obtain⟨_,_,_,p⟩:=x;exact p.lt
 | dK kvs=>obtain⟨_,_,_,_,o,_,_,e,_⟩:=x;exact G3 e
 | dT kvs=>obtain⟨_,_,_,_,o,_,_,e,_⟩:=x;exact G3 e
 | set S n=>obtain⟨o,_,_,_,e,_⟩:=x;exact G3 e
 | ins C dx fs=>obtain⟨_,_,_,e,_⟩:=x;exact G3 e
 | own y=>obtain⟨_,e⟩:=x;exact G3 e
 | xd fs=>obtain⟨_,⟨_,_,_,e,_⟩,_⟩:=x;exact G3 e
 | rng lo hi=>obtain⟨_,_,_,e⟩:=x;exact G3 e
 | frz ob u=>obtain⟨e,_⟩:=x;exact G3 e
 | tbl ps=>exact G3 (show h.get? a=some _ from x)
 | met f y=>exact G3 (show h.get? a=some _ from x)
 | ext φ=>obtain⟨_,⟨_,e⟩,_⟩:=x;exact G3 e
theorem Paired.mapP:∀ {l₁:List α} {l₂:List β},Paired F l₁ l₂->(∀a b,F a b->G a b)->Paired G l₁ l₂
 | _,_,.nil,_=>.nil
 | _,_,.cons r t,f=>.cons (f _ _ r) (Paired.mapP t f)
theorem b6.stay(x:b6 P w H h a o)(k:∀b u,(b=a\/H b=some (.own a))->h.get? b=some u->h'.get? b=some u)
  (ho:∀b,H b=some (.own a)->H' b=some (.own a)) (ht:∀b xs,H b=some (.tup xs)->H' b=some (.tup xs)):b6 P w H' h' a o:=by
 induction o with
 | lst xs=>obtain⟨z,aa,n,r,e⟩:=x;exact⟨z,aa,n,r,k _ _ (.inl rfl) e⟩
 | tup xs=>obtain⟨z,aa,r,ob,e,c⟩:=x;exact⟨z,aa,r,ob,k _ _ (.inl rfl) e,c⟩
 | dK kvs=>obtain⟨z,y,vs,r,ob,es,ep,e,c⟩:=x;exact⟨z,y,vs,r,ob,es,ep,k _ _ (.inl rfl) e,c⟩
 | dT kvs =>
  obtain⟨z,y,xs,r,ob,es,ep,e,c⟩:=x;exact⟨z,y,xs,Paired.mapP r λp q z=>⟨z.1,ht _ _ z.2.1,z.2.2⟩,ob,es,ep,k _ _ (.inl rfl) e,c⟩
 | set S n=>obtain⟨ob,es,ep,t,e,c⟩:=x;exact⟨ob,es,ep,t,k _ _ (.inl rfl) e,c⟩
 | ins C dx fs =>
  obtain⟨d,z,ne,e,mA,⟨od,es,ep,e2,c⟩,r⟩:=x;exact⟨ho _ d,z,ne,k _ _ (.inl rfl) e,mA,⟨od,es,ep,k _ _ (.inr d) e2,c⟩,r⟩
 | own y=>obtain⟨ob,e⟩:=x;exact⟨ob,k _ _ (.inl rfl) e⟩
 | xd fs=>obtain⟨mA,⟨od,es,ep,e,c⟩,r⟩:=x;exact⟨mA,⟨od,es,ep,k _ _ (.inl rfl) e,c⟩,r⟩
 | rng lo hi=>obtain⟨t,u,v,e⟩:=x;exact⟨t,u,v,k _ _ (.inl rfl) e⟩
 | frz ob u ih=>obtain⟨e,q⟩:=x;exact⟨k _ _ (.inl rfl) e,ih q⟩
 | tbl ps =>
  have e:h.get? a=some { cls:=.none,data:=.fields ps }:=x
  show h'.get? a=some { cls:=.none,data:=.fields ps }
  exact k a _ (.inl rfl) e
 | met f y =>
  have e:h.get? a=some (PySem.W.methodObj (.ref f) (.ref y)):=x
  show h'.get? a=some (PySem.W.methodObj (.ref f) (.ref y))
  exact k a _ (.inl rfl) e
 | ext φ=>obtain⟨p,⟨o,e⟩,st⟩:=x;exact⟨st _ _ p λo q=>k _ _ (.inl rfl) q,⟨o,k _ _ (.inl rfl) e⟩,st⟩
theorem Gk.lt(x:Gk P w H h)(e:H a=some o):a<h.objs.size:=(x a o e).lt
theorem Gk.fresh(x:Gk P w H h)(e:h.objs.size<=a):H a=none:=by
 cases q:H a with
 | none=>rfl
 | some u=>exact absurd (He (x.lt q) e) (Hw _)
theorem Gk.kept(x:Gk P w H h)(k:∀b u,h.get? b=some u->h'.get? b=some u):Gk P w H h':=λa o e =>
 (x a o e).stay (λb u _ q=>k b u q) (λ_ q=>q) λ_ _ q=>q
theorem Gk.laid(x:Gk P w H h)(k:∀b u,h.get? b=some u->h'.get? b=some u)(hp:h.objs.size<=a)(new:b6 P w (GE H a o) h' a o):Gk P w (GE H a o) h':=λb u e=>by
 have hn:=x.fresh hp
 by_cases hb:b=a
 ·subst hb;rw[aw] at e;cases e;exact new
 ·rw[aH hb] at e;exact(x b u e).stay (λc v _ q=>k c v q) (λc q=>by rw[aH (cw q hn)];exact q) λc xs q=>by rw[aH (cw q hn)];exact q
end
def Rd(H:Hp)(a:Addr)(u:HO):Prop:=H a=some u\/∃o,H a=some (.frz o u)
theorem Rd.of(h:H a=some u):Rd H a u:=.inl h
theorem Rd.ok(r:Rd H a u)(x:Gk P w H h):b6 P w H h a u:=by
 rcases r with r | ⟨o,r⟩
 ·exact x a u r
 ·obtain⟨_,q⟩:=x a _ r;exact q
def Mut:Option HO->Prop
 | some (.lst _)=>True
 | some (.dK _)=>True
 | some (.dT _)=>True
 | some (.set _ _)=>True
 | some (.ins _ _ _)=>True
 | some (.ext _)=>True
 | _=>False
section
theorem Gk.write(ok:Gk P w H h)(mu:Mut (H x))(he:e=x\/H e=some (.own x))(k:∀b u,b≠e->h.get? b=some u->h'.get? b=some u)(heo:∃u,h'.get? e=some u)
  (new:b6 P w (GE H x o') h' x o'):Gk P w (GE H x o') h':=λb u q=>by
 have aa:∀c y,H c=some (.own y)->c≠x:=λc y r z=>by subst z;rw[r] at mu;exact mu
 have ab:∀c xs,H c=some (.tup xs)->c≠x:=λc xs r z=>by subst z;rw[r] at mu;exact mu
 by_cases hb:b=x
 ·subst hb;rw[aw] at q;cases q;exact new
 ·rw[aH hb] at q
  by_cases hbe:b=e
  ·have q':H b=some (.own x):=by
    rcases he with z | z
    ·exact absurd (hbe.trans z) hb
    ·rw[hbe];exact z
   rw[q] at q';cases q';obtain⟨v,hv⟩:=heo;exact⟨v,by rw[hbe];exact hv⟩
  ·refine(ok b u q).stay (λc v hc r=>k c v ?_ r) (λc r=>by rw[aH (aa c b r)];exact r) λc xs r=>by rw[aH (ab c xs r)];exact r
   rcases hc with rfl | hc
   ·exact hbe
   ·rintro rfl
    rcases he with z | z
    ·exact aa c b hc z
    ·rw[hc] at z;cases z;exact hb rfl
end
structure Un(fs ex:List Addr)(H H':Hp)(h h':Heap):Prop where
 keep:∀b o,h.get? b=some o->H b=none->b∉fs->b∉ex->h'.get? b=some o
 slot:∀b o,h.get? b=some o->H b=none->b∈fs->b∉ex->∃sl,h'.get? b=some { o with slots:=sl }
 free:∀b o,h.get? b=some o->H b=none->b∉ex->H' b=none
 there:∀b o,h.get? b=some o->b∉ex->∃o',h'.get? b=some o'
 tups:∀b xs,H b=some (.tup xs)->H' b=some (.tup xs)
 frzs:∀b o u,H b=some (.frz o u)->H' b=some (.frz o u)
 tbls:∀b ps,H b=some (.tbl ps)->∃more,H' b=some (.tbl (ps++more))
section
theorem Un.any(u:Un fs ex H H1 h h1)(q:h.get? b=some ob)(n:H b=none)(hx:b∉ex):∃sl,h1.get? b=some { ob with slots:=sl }:=by
 by_cases hb:b∈fs
 ·exact u.slot b ob q n hb hx
 ·exact⟨ob.slots,u.keep b ob q n hb hx⟩
theorem Un.trans(a:Un fs ex H H1 h h1)(b:Un fs ex H1 H2 h1 h2):Un fs ex H H2 h h2 where
 keep:=λc ob q n hc hx=>b.keep c ob (a.keep c ob q n hc hx) (a.free c ob q n hx) hc hx
 slot:=λc ob q n hc hx=>by
  obtain⟨sl,e1⟩:=a.slot c ob q n hc hx;obtain⟨aa,e2⟩:=b.slot c _ e1 (a.free c ob q n hx) hc hx;exact⟨aa,e2⟩
 free:=λc ob q n hx=>by
  obtain⟨o',e1⟩:=a.there c ob q hx;exact b.free c o' e1 (a.free c ob q n hx) hx
 there:=λc ob q hx=>by
  obtain⟨o',e1⟩:=a.there c ob q hx;exact b.there c o' e1 hx
 tups:=λc xs q=>b.tups c xs (a.tups c xs q)
 frzs:=λc ob xs q=>b.frzs c ob xs (a.frzs c ob xs q)
 tbls:=λc ps q=>by
  obtain⟨m1,e1⟩:=a.tbls c ps q;obtain⟨m2,e2⟩:=b.tbls c _ e1;exact⟨m1++m2,by rw[e2,Array.append_assoc]⟩
theorem Un.kept(k:∀b u,h.get? b=some u->h'.get? b=some u):Un fs ex H H h h' :=
 ⟨λb ob q _ _ _=>k b ob q,λb ob q _ _ _=>⟨ob.slots,k b ob q⟩,λ_ _ _ n _=>n,λb ob q _=>⟨ob,k b ob q⟩,λ_ _ q=>q,λ_ _ _ q=>q,λ_ ps q=>⟨#[],by rw[q];simp⟩⟩
theorem Un.refl:Un fs ex H H h h:=Un.kept λ_ _ q=>q
theorem Un.laid(k:∀b u,h.get? b=some u->h'.get? b=some u)(hp:h.objs.size<=a)(hn:H a=none):Un fs ex H (GE H a o) h h' where
 keep:=λb u q _ _ _=>k b u q
 slot:=λb u q _ _ _=>⟨u.slots,k b u q⟩
 free:=λb u q n _=>by rw[aH (Ho (He (G3 q) hp))];exact n
 there:=λb u q _=>⟨u,k b u q⟩
 tups:=λb xs q=>by rw[aH (cw q hn)];exact q
 frzs:=λb u xs q=>by rw[aH (cw q hn)];exact q
 tbls:=λb ps q=>⟨#[],by rw[aH (cw q hn),q];simp⟩
theorem Un.write(mu:Mut (H x))(he:e=x\/H e=some (.own x))(k:∀b u,b≠e->h.get? b=some u->h'.get? b=some u)(heo:∃u,h'.get? e=some u):Un fs ex H (GE H x o) h h':=by
 have hx:∀b,H b=none->b≠x:=λb n z=>by subst z;rw[n] at mu;exact mu
 have hb:∀b,H b=none->b≠e:=λb n z=>by
  subst z
  rcases he with r | r
  ·exact hx b n r
  ·rw[n] at r;cases r
 have hm:∀b u,H b=some u->¬ Mut (some u)->b≠x:=λb u q nm z=>by subst z;rw[q] at mu;exact nm mu
 refine⟨λb u q n _ _=>k b u (hb b n) q,λb u q n _ _=>⟨u.slots,k b u (hb b n) q⟩,λb u q n _=>by rw[aH (hx b n)];exact n,λb u q _=>?_,
  λb xs q=>by rw[aH (hm b _ q λz=>z)];exact q,λb u xs q=>by rw[aH (hm b _ q λz=>z)];exact q,λb ps q=>⟨#[],by rw[aH (hm b _ q λz=>z),q];simp⟩⟩
 by_cases hbe:b=e
 ·subst hbe;exact heo
 ·exact⟨u,k b u hbe q⟩
theorem Un.mono(u:Un fs ex H H1 h h1)(hs:∀b∈fs,b∈fs')(hx:∀b∈ex,b∈ex'):Un fs' ex' H H1 h h1 :=
 ⟨λb ob q n hb he=>u.keep b ob q n (λz=>hb (hs b z)) λz=>he (hx b z),λ_ _ q n _ he=>u.any q n λz=>he (hx _ z),λb ob q n he=>u.free b ob q n λz=>he (hx b z),λb ob q he=>u.there b ob q λz=>he (hx b z),u.tups,u.frzs,u.tbls⟩
end
def trk(h:Heap)(H:Hp):List Addr:=(List.range h.objs.size).filter λa=>(H a).isSome
def wy(h:Heap)(H:Hp):Heap:=PySem.W.hideAll h (trk h H)
theorem uH(h:Heap)(H:Hp):(wy h H).objs.size=h.objs.size:=PySem.W.hideAll_size _ _
theorem wZ(e:h.get? b=some o)(n:H b=none):(wy h H).get? b=some o :=
 PySem.W.hideAll_get _ e λhm=>by
  have q:(H b).isSome=true:=(G1.mp hm).2
  rw[n] at q;simp at q
theorem yW(e:(wy h H).get? b=some o):h.get? b=some o/\H b=none:=by
 have e':h.get? b=some o:=PySem.W.of_hideAll (trk h H) e
 refine⟨e',?_⟩
 cases q:H b with
 | none=>rfl
 | some x =>
  have hm:b∈trk h H:=G1.mpr ⟨Iq.mpr (G3 e'),by simp[q]⟩
  have z:(wy h H).get? b=none:=PySem.W.hideAll_none (trk h H) hm
  rw[z] at e;cases e
def zu(g h:Heap)(L:Addr):List (Addr×Obj):=(List.range h.objs.size).filterMap λa=>if a=L\/(g.get? a).isSome=true then none else (h.get? a).map λo=>(a,o)
def cE(g h:Heap)(L d:Addr):List (Addr×Obj):=(zu g h L).filter λp=>decide (p.1≠d)
end L2
namespace L2
open PySem PySem.Spec PyProof.Rows
structure Mod(K:Zf)(mg:Str->Zd)(base:Heap):Prop where
 kin:K.In base
 glob:base.Ns mainGlobals mg
 blt:∃mb,base.Ns builtinsNs mb/\∀x:Str,x≠"__name__"->mb x=bootBuiltins x
 nolimit:base.NoLimit
structure Cx where
 prog:Program
 w:World
 K:Zf
 mg:Str->Zd
 base:Heap
 A:Around
 N:Zb
 s₀:Shared
 H₀:Hp
 env:Env
 outer:List Env
 stack:List Env
 ex:List Addr
 fn:Str->Bool
 calm:Bool
 pn:List (Addr×Obj)
 xe:Value->Shared->Prop
def frs(l:List Env):List Addr:=l.filterMap (·.frame)
abbrev Cx.fs(X:Cx):List Addr:=frs X.outer
def Vis(sc:Scope)(x:Str):Prop:=sc.names.lookup x=some .local\/sc.names.lookup x=some .cell\/sc.names.lookup x=some .free
def Loc(sc:Scope)(x:Str):Prop:=sc.names.lookup x=some .local\/sc.names.lookup x=some .cell
def Look(env:Env)(h:Heap)(m:Str->Zd)(x:Str)(u:Value):Prop :=
 (env.kindOf x=some .local/\m x=some u)\/((env.kindOf x=some .cell\/env.kindOf x=some .free)/\∃c,env.cells.lookup x=some c/\h.IsCell c (some u))
structure Cx.Ok(X:Cx):Prop where
 mod:Mod X.K X.mg X.base
 kind:X.env.scope.kind=.function
 glob:X.env.globals=mainGlobals
 blt:X.env.builtins=builtinsNs
 above:X.s₀.heap.objs.size<=X.env.locals
 inj:∀x y c,X.env.cells.lookup x=some c->X.env.cells.lookup y=some c->x=y
 has:∀x,(X.env.kindOf x=some .cell\/X.env.kindOf x=some .free)->∃c,X.env.cells.lookup x=some c
 cab:∀x c,X.fn x=true->X.env.cells.lookup x=some c->X.s₀.heap.objs.size<=c
 hd:X.calm=true->X.A.handled=none
 frames:X.A.frames=some X.stack
 stk:X.stack=X.outer\/(X.stack=X.env::X.outer/\X.env.frame=some X.env.locals)
 exf:∀b∈X.ex,b≠X.env.locals/\∀x c,X.env.cells.lookup x=some c->c≠b
 bs:∀b o,X.base.get? b=some o->X.s₀.heap.get? b=some o/\X.H₀ b=none
 bsz:X.base.objs.size<=X.s₀.heap.objs.size
 noex:∀b o,X.base.get? b=some o->b∉X.ex
 exfs:∀b∈X.ex,b∉X.fs
 funs:X.s₀.heap.FunFrames X.base X.outer
 frf:∀b∈X.fs,X.H₀ b=none
structure Inv(X:Cx)(pins:List (Addr×Obj))(σ:List (Option V))(H:Hp)(s:Shared):Prop where
 ok:X.Ok
 os:s.os=X.s₀.os
 bare:AllBare s.gens
 base:Un X.fs X.ex X.H₀ H X.s₀.heap s.heap
 loc:∃m,s.heap.Ns X.env.locals m/\∀(i:Nat) (x:Str) (v:V),X.N[i]?=some x->σ[i]?=some (some v)->Vis X.env.scope x->∃u,bB v u/\Look X.env s.heap m x u
 cell:∀x c,X.env.cells.lookup x=some c->∃v,s.heap.IsCell c v
 free:H X.env.locals=none
 freeC:∀x c,X.env.cells.lookup x=some c->H c=none
 pin:∀p∈X.pn++pins,s.heap.get? p.1=some p.2/\H p.1=none/\p.1≠X.env.locals/\p.1∉X.fs/\∀v,p.2.data≠.cell v
 hok:Gk X.prog X.w H s.heap
 len:σ.length=X.N.length
section
theorem Cx.Ok.nofr{X:Cx}(ok:X.Ok)(e:X.base.get? b=some o):b∉X.fs:=λhb=>by
 have:=(ok.funs.mem hb).1
 rw[e] at this;cases this
theorem Inv.bs(I:Inv X pins σ H s):∀b o,X.base.get? b=some o->s.heap.get? b=some o/\H b=none:=λb o e =>
 ⟨I.base.keep b o (I.ok.bs b o e).1 (I.ok.bs b o e).2 (I.ok.nofr e) (I.ok.noex b o e),I.base.free b o (I.ok.bs b o e).1 (I.ok.bs b o e).2 (I.ok.noex b o e)⟩
theorem Inv.bk(I:Inv X pins σ H s):∀b o,X.base.get? b=some o->s.heap.get? b=some o:=λb o e=>(I.bs b o e).1
theorem Inv.mod(I:Inv X pins σ H s):Mod X.K X.mg X.base:=I.ok.mod
theorem Inv.kIn(I:Inv X pins σ H s):X.K.In s.heap:=I.ok.mod.kin.keeps I.bk
theorem Inv.lt(I:Inv X pins σ H s):X.env.locals<s.heap.objs.size:=let ⟨_,hn,_⟩:=I.loc;hn.lt
theorem Inv.sz(I:Inv X pins σ H s):X.s₀.heap.objs.size<=s.heap.objs.size:=GS I.ok.above (IH I.lt)
theorem Inv.nofs(I:Inv X pins σ H s)(h:s.heap.objs.size<=a):a∉X.fs:=λhb=>by
 obtain⟨_,o,ho,_⟩:=I.ok.funs.mem hb;exact absurd (He (G3 ho) (GS I.sz h)) (Hw _)
theorem Inv.cne(I:Inv X pins σ H s):∀x c,X.env.cells.lookup x=some c->c≠X.env.locals:=λx c e z=>by
 obtain⟨v,o,ho,hd⟩:=I.cell x c e;obtain⟨m,⟨o',es,ep,ab,aa,_⟩,_⟩:=I.loc;rw[z,ab] at ho;cases ho;rw[aa] at hd;cases hd
theorem Inv.funs(I:Inv X pins σ H s):s.heap.FunFrames X.base X.outer:=by
 have all:∀(l:List Env),(∀b∈frs l,b∈X.fs)->X.s₀.heap.FunFrames X.base l->s.heap.FunFrames X.base l:=by
  intro l
  induction l with
  | nil=>intro _ _;trivial
  | cons env r ih =>
   intro hs hl;obtain⟨hk,⟨L,o,hf,hn,ho,hd⟩,hr⟩:=hl;have hL:L∈X.fs:=hs L (by unfold frs;rw[HZ,hf];exact GT);obtain⟨sl,e⟩:=I.base.slot L o ho (I.ok.frf L hL) hL λz=>I.ok.exfs L z hL;exact⟨hk,⟨L,_,hf,hn,e,hd⟩,ih (λb hb=>hs b (by unfold frs;rw[HZ,hf];exact GP _ hb)) hr⟩
 exact all X.outer (λ_ hb=>hb) I.ok.funs
theorem Inv.stack(I:Inv X pins σ H s):s.heap.FunFrames X.base X.stack:=by
 rcases I.ok.stk with e | ⟨e,hf⟩
 ·rw[e];exact I.funs
 ·rw[e];obtain⟨m,hn,_⟩:=I.loc;refine .cons (by rw[I.ok.kind];decide) hf hn ?_ I.funs;exact Kc (GS I.ok.bsz I.ok.above)
theorem Inv.stkSub(I:Inv X pins σ H s):∀b∈frs X.stack,b∈X.env.locals::X.fs:=λb hb=>by
 rcases I.ok.stk with e | ⟨e,hf⟩
 ·rw[e] at hb;exact GP _ hb
 ·rw[e] at hb;unfold frs at hb;rw[HZ,hf] at hb;exact hb
theorem Inv.stkFree(I:Inv X pins σ H s):∀b∈frs X.stack,H b=none:=λb hb=>by
 rcases GY.mp (I.stkSub b hb) with e | hb
 ·rw[e];exact I.free
 ·obtain⟨_,o,ho,_⟩:=I.ok.funs.mem hb;exact I.base.free b o ho (I.ok.frf b hb) λz=>I.ok.exfs b z hb
theorem Inv.step{X:Cx}{pins:List (Addr×Obj)}{σ:List (Option V)}{H H':Hp}{s:Shared}{h':Heap}{g':Array GenState}{t':Nat}{d':Drawn}{ch:List Addr}(I:Inv X pins σ H s)
  (hch:∀b∈ch,(b∈X.ex\/X.s₀.heap.objs.size<=b)/\b≠X.env.locals/\(∀x c,X.env.cells.lookup x=some c->c≠b)/\∀p∈X.pn++pins,p.1≠b)
  (keep:∀b o,b≠X.env.locals->b∉X.fs->b∉ch->s.heap.get? b=some o->H b=none->h'.get? b=some o)
  (slot:∀b o,b≠X.env.locals->b∈X.fs->b∉ch->s.heap.get? b=some o->H b=none->∃sl,h'.get? b=some { o with slots:=sl }) (free:∀b o,b∉ch->s.heap.get? b=some o->H b=none->H' b=none)
  (there:∀b o,b∉ch->s.heap.get? b=some o->∃o',h'.get? b=some o')
  (tups:∀b xs,H b=some (.tup xs)->H' b=some (.tup xs)) (frzs:∀b o u,H b=some (.frz o u)->H' b=some (.frz o u)) (tbls:∀b ps,H b=some (.tbl ps)->∃more,H' b=some (.tbl (ps++more)))
  (ns:∀m,s.heap.Ns X.env.locals m->h'.Ns X.env.locals m) (hok:Gk X.prog X.w H' h') (hg:AllBare g') :
  Inv X pins σ H' { s with heap:=h',gens:=g',drawn:=d',toks:=t' }:=by
 have ai:∀b o,X.s₀.heap.get? b=some o->b≠X.env.locals:=λb o e=>Ho (He (G3 e) I.ok.above)
 have ab:∀b o,X.s₀.heap.get? b=some o->b∉X.ex->b∉ch:=λb o e hx hb=>by
  rcases(hch b hb).1 with z | z
  ·exact hx z
  ·exact absurd (He (G3 e) z) (Hw _)
 have ah:∀x c,X.env.cells.lookup x=some c->∀v,s.heap.IsCell c v->h'.IsCell c v:=λx c e v ⟨o,ho,hd⟩=>by
  have aa:c∉ch:=λz=>(hch c z).2.2.1 x c e rfl
  by_cases hc:c∈X.fs
  ·obtain⟨sl,q⟩:=slot c o (I.cne x c e) hc aa ho (I.freeC x c e);exact⟨_,q,hd⟩
  ·exact⟨o,keep c o (I.cne x c e) hc aa ho (I.freeC x c e),hd⟩
 refine⟨I.ok,I.os,hg,⟨λb o e n hb hx=>?_,λb o e n hb hx=>?_,λb o e n hx=>?_,λb o e hx=>?_,λb xs e=>tups b xs (I.base.tups b xs e),λb o xs e=>frzs b o xs (I.base.frzs b o xs e),λb ps e=>?_⟩,?_,λx c e=>?_,?_,λx c e=>?_,λp hp=>?_,hok,I.len⟩
 ·exact keep b o (ai b o e) hb (ab b o e hx) (I.base.keep b o e n hb hx) (I.base.free b o e n hx)
 ·obtain⟨sl,e1⟩:=I.base.slot b o e n hb hx;obtain⟨aj,e2⟩:=slot b _ (ai b o e) hb (ab b o e hx) e1 (I.base.free b o e n hx);exact⟨aj,e2⟩
 ·obtain⟨o',e1⟩:=I.base.there b o e hx;exact free b o' (ab b o e hx) e1 (I.base.free b o e n hx)
 ·obtain⟨o',e1⟩:=I.base.there b o e hx;exact there b o' (ab b o e hx) e1
 ·obtain⟨m1,e1⟩:=I.base.tbls b ps e;obtain⟨m2,e2⟩:=tbls b _ e1;exact⟨m1++m2,by rw[e2,Array.append_assoc]⟩
 ·obtain⟨m,hn,hl⟩:=I.loc;refine⟨m,ns m hn,λi x v e1 e2 e3=>?_⟩;obtain⟨u,r,l⟩:=hl i x v e1 e2 e3;refine⟨u,r,?_⟩
  rcases l with l | ⟨k,c,e,z⟩
  ·exact .inl l
  ·exact .inr ⟨k,c,e,ah x c e _ z⟩
 ·obtain⟨v,z⟩:=I.cell x c e;exact⟨v,ah x c e v z⟩
 ·obtain⟨m,⟨o,_,_,ho,_⟩,_⟩:=I.loc;exact free _ o (λz=>(hch _ z).2.1 rfl) ho I.free
 ·obtain⟨v,o,ho,hd⟩:=I.cell x c e;exact free c o (λz=>(hch c z).2.2.1 x c e rfl) ho (I.freeC x c e)
 ·obtain⟨e,n,ne,nf,d⟩:=I.pin p hp;have aa:p.1∉ch:=λz=>(hch p.1 z).2.2.2 p hp rfl;exact⟨keep p.1 p.2 ne nf aa e n,free p.1 p.2 aa e n,ne,nf,d⟩
theorem Inv.un(I:Inv X pins σ H s)(u:Un X.fs [] H H' s.heap h')(hok:Gk X.prog X.w H' h'):Inv X pins σ H' { s with heap:=h',toks:=t' }:=by
 obtain⟨m,⟨o,es,ep,ho,r⟩,_⟩:=id I.loc;obtain⟨sl,hL⟩:=u.any ho I.free (by simp)
 exact I.step (g':=s.gens) (d':=s.drawn) (ch:=[]) (λ_ z=>nomatch z) (λb o _ hb _ e n=>u.keep b o e n hb (by simp)) (λb o _ hb _ e n=>u.slot b o e n hb (by simp)) (λb o _ e n=>u.free b o e n (by simp)) (λb o _ e=>u.there b o e (by simp)) u.tups u.frzs u.tbls (λm' hm=>by
  obtain⟨o',ab,ah,aa,r'⟩:=hm;rw[ho] at aa;cases aa
  exact⟨_,ab,ah,hL,r'⟩) hok I.bare
theorem Inv.call(I:Inv X pins σ H s)(u:Un (frs X.stack) ch H H' s.heap h')(hok:Gk X.prog X.w H' h')(hg:AllBare g')
  (hch:∀b∈ch,(b∈X.ex\/X.s₀.heap.objs.size<=b)/\b≠X.env.locals/\(∀x c,X.env.cells.lookup x=some c->c≠b)/\∀p∈X.pn++pins,p.1≠b) :
  Inv X pins σ H' { s with heap:=h',gens:=g',drawn:=d',toks:=t' }:=by
 obtain⟨m,⟨o,es,ep,ho,r⟩,_⟩:=id I.loc;obtain⟨sl,hL⟩:=u.any ho I.free λz=>(hch _ z).2.1 rfl
 exact I.step (ch:=ch) hch (λb o hL hb hc e n=>u.keep b o e n (λz=>(GY.mp (I.stkSub b z)).elim hL hb) hc) (λb o _ _ hc e n=>u.any e n hc) (λb o hc e n=>u.free b o e n hc) (λb o hc e=>u.there b o e hc) u.tups u.frzs u.tbls (λm' hm=>by
  obtain⟨o',ab,ah,aa,r'⟩:=hm;rw[ho] at aa;cases aa
  exact⟨_,ab,ah,hL,r'⟩) hok hg
theorem Inv.turned(I:Inv X pins σ H s)(k:∀b o,b≠it->s.heap.get? b=some o->h'.get? b=some o)(hn:H it=none)(hL:it≠X.env.locals)
  (h1:it∈X.ex\/X.s₀.heap.objs.size<=it) (h2:∀x c,X.env.cells.lookup x=some c->c≠it) (h3:∀p∈X.pn++pins,p.1≠it):Inv X pins σ H { s with heap:=h',toks:=t' }:=by
 have aa:∀b u,H b=some u->b≠it:=λb u e z=>by rw[z,hn] at e;cases e
 refine I.step (g':=s.gens) (d':=s.drawn) (ch:=[it]) (λb hb=>?_) (λb o _ _ hc e _=>k b o (λz=>hc (by simp[z])) e) (λb o _ _ hc e _=>⟨o.slots,k b o (λz=>hc (by simp[z])) e⟩) (λ_ _ _ _ n=>n)
  (λb o hc e=>⟨o,k b o (λz=>hc (by simp[z])) e⟩) (λ_ _ e=>e) (λ_ _ _ e=>e) (λb ps e=>⟨#[],by rw[e];simp⟩) (λm hm=>?_) (λb u e=>?_) I.bare
 ·have e:b=it:=by simpa using hb
  subst e;exact⟨h1,hL,h2,h3⟩
 ·obtain⟨o,es,ep,ho,r⟩:=hm;exact⟨o,es,ep,k _ o (IF hL) ho,r⟩
 ·refine(I.hok b u e).stay (λc v hc q=>k c v ?_ q) (λ_ q=>q) λ_ _ q=>q
  rcases hc with z | z
  ·rw[z];exact aa b u e
  ·exact aa c _ z
theorem Inv.tok(I:Inv X pins σ H s)(t:Nat):Inv X pins σ H { s with toks:=t }:=I.un (h':=s.heap) (t':=t) Un.refl I.hok
theorem Inv.kept(I:Inv X pins σ H s)(k:∀b u,s.heap.get? b=some u->h'.get? b=some u):Inv X pins σ H { s with heap:=h',toks:=t' }:=I.un (Un.kept k) (I.hok.kept k)
theorem Inv.laid(I:Inv X pins σ H s)(k:∀b u,s.heap.get? b=some u->h'.get? b=some u)(hp:s.heap.objs.size<=a)(new:b6 X.prog X.w (GE H a o) h' a o) :
  Inv X pins σ (GE H a o) { s with heap:=h',toks:=t' }:=I.un (Un.laid k hp (I.hok.fresh hp)) (I.hok.laid k hp new)
theorem Inv.write(I:Inv X pins σ H s)(mu:Mut (H x))(he:e=x\/H e=some (.own x))(k:∀b u,b≠e->s.heap.get? b=some u->h'.get? b=some u)(heo:∃u,h'.get? e=some u)
  (new:b6 X.prog X.w (GE H x o) h' x o):Inv X pins σ (GE H x o) { s with heap:=h',toks:=t' }:=I.un (Un.write mu he k heo) (I.hok.write mu he k heo new)
theorem Inv.pins_of(I:Inv X pins σ H s)(h:∀p∈pins',s.heap.get? p.1=some p.2/\H p.1=none/\p.1≠X.env.locals/\p.1∉X.fs/\∀v,p.2.data≠.cell v):Inv X pins' σ H s :=
 ⟨I.ok,I.os,I.bare,I.base,I.loc,I.cell,I.free,I.freeC,λp hp=>(Hb.mp hp).elim (λz=>I.pin p (Hf _ z)) (h p),I.hok,I.len⟩
theorem kJ{N:Zb}(hN:N.Nodup){i j:Nat}(a:N[i]?=some x)(b:N[j]?=some x):i=j:=by
 obtain⟨h1,e1⟩:=GZ.mp a;obtain⟨h2,e2⟩:=GZ.mp b;exact(List.getElem_inj hN).mp (e1.trans e2.symm)
theorem ls(I:Inv X pins σ H s)(hN:X.N.Nodup)(hi:X.N[i]?=some x)(hx:Loc X.env.scope x)(r:bB v u)
  (h:∀s',Inv X pins (σ.set i (some v)) H s'->(∃a,Heap.SameBut a s.heap s'.heap/\(a=X.env.locals\/X.env.cells.lookup x=some a))->Q () s') (hf:X.fn x=true\/X.env.scope.names.lookup x=some .local :=by walk_at "v1"):wpAny M A (storeName X.env x u) Q E s:=by
 obtain⟨m,hn,hl⟩:=id I.loc;have al:(X.env.scope.kind == .class||(X.env.scope.kind == .module&&X.env.locals != X.env.globals))=false:=by rw[I.ok.kind];rfl
 have aj:i<σ.length:=by rw[I.len];exact(GZ.mp hi).1
 have cne:=I.cne
 have aa:∀ {a:Addr} {h':Heap},(∃o,s.heap.get? a=some o/\H a=none)->Heap.SameBut a s.heap h'->Gk X.prog X.w H h':=λ{a h'} ha hs b ob e=>by
  obtain⟨_,_,ab⟩:=ha;refine(I.hok b ob e).stay (λc w' hc q=>(hs.2 c ?_).trans q) (λ_ q=>q) λ_ _ q=>q;rintro rfl
  rcases hc with rfl | hc
  ·rw[ab] at e;cases e
  ·rw[ab] at hc;cases hc
 rcases hx with hk | hk
 ·refine wpAny_storeName_local hk hn (λh' hn' hs=>?_) al;obtain⟨oL,_,_,ao,_⟩:=id hn;refine h _ ⟨I.ok,I.os,I.bare,⟨λb o e n hb hx=>?_,λb o e n hb hx=>?_,I.base.free,λb o e hx=>?_,I.base.tups,I.base.frzs,I.base.tbls⟩,⟨_,hn',λj y v' e1 e2 e3=>?_⟩,λy c e=>?_,I.free,I.freeC,λp hp=>?_,aa ⟨oL,ao,I.free⟩ hs,by simpa using I.len⟩ ⟨_,hs,.inl rfl⟩
  ·exact(hs.2 b (Ho (He (G3 e) I.ok.above))).trans (I.base.keep b o e n hb hx)
  ·obtain⟨sl,e1⟩:=I.base.slot b o e n hb hx;exact⟨sl,(hs.2 b (Ho (He (G3 e) I.ok.above))).trans e1⟩
  ·obtain⟨o',e1⟩:=I.base.there b o e hx;exact⟨o',(hs.2 b (Ho (He (G3 e) I.ok.above))).trans e1⟩
  ·by_cases hj:j=i
   ·subst hj;rw[hi] at e1;cases e1;rw[Hr aj] at e2
    cases e2
    exact⟨u,r,.inl ⟨hk,by simp⟩⟩
   ·rw[Hv (IF hj)] at e2;obtain⟨u',r',q⟩:=hl j y v' e1 e2 e3;refine⟨u',r',?_⟩
    rcases q with⟨k,e⟩ | ⟨k,c,e,z⟩
    ·refine .inl ⟨k,?_⟩;have:y≠x:=λe=>hj (kJ hN e1 (e ▸ hi));simp[this,e]
    ·exact .inr ⟨k,c,e,z.sameBut hs (cne y c e)⟩
  ·obtain⟨w',z⟩:=I.cell y c e;exact⟨w',z.sameBut hs (cne y c e)⟩
  ·obtain⟨e,n,ne,nf,d⟩:=I.pin p hp;exact⟨(hs.2 p.1 ne).trans e,n,ne,nf,d⟩
 ·have ah:X.fn x=true:=by
   rcases hf with z | z
   ·exact z
   ·rw[z] at hk;cases hk
  obtain⟨c,hc⟩:=I.ok.has x (.inl hk);obtain⟨w',z⟩:=I.cell x c hc;refine wpAny_storeName_cell I.ok.kind hk hc z (λh' hc' hs=>?_);obtain⟨oc,ai,an⟩:=id z;refine h { s with heap:=h' } ⟨I.ok,I.os,I.bare,⟨λb o e n hb hx=>?_,λb o e n hb hx=>?_,I.base.free,λb o e hx=>?_,I.base.tups,I.base.frzs,I.base.tbls⟩,⟨m,hn.sameBut hs (IF (cne x c hc)),λj y v' e1 e2 e3=>?_⟩,λy c' e=>?_,I.free,I.freeC,λp hp=>?_,aa ⟨oc,ai,I.freeC x c hc⟩ hs,by simpa using I.len⟩ ⟨c,hs,.inr hc⟩
  ·exact(hs.2 b (Ho (He (G3 e) (I.ok.cab x c ah hc)))).trans (I.base.keep b o e n hb hx)
  ·obtain⟨sl,e1⟩:=I.base.slot b o e n hb hx;exact⟨sl,(hs.2 b (Ho (He (G3 e) (I.ok.cab x c ah hc)))).trans e1⟩
  ·obtain⟨o',e1⟩:=I.base.there b o e hx;exact⟨o',(hs.2 b (Ho (He (G3 e) (I.ok.cab x c ah hc)))).trans e1⟩
  ·by_cases hj:j=i
   ·subst hj;rw[hi] at e1;cases e1;rw[Hr aj] at e2
    cases e2
    exact⟨u,r,.inr ⟨.inl hk,c,hc,hc'⟩⟩
   ·rw[Hv (IF hj)] at e2;obtain⟨u',r',q⟩:=hl j y v' e1 e2 e3;refine⟨u',r',?_⟩
    rcases q with q | ⟨k,c',e,z'⟩
    ·exact .inl q
    ·refine .inr ⟨k,c',e,z'.sameBut hs ?_⟩;rintro rfl;exact hj (kJ hN e1 (I.ok.inj _ _ _ e hc ▸ hi))
  ·by_cases hcc:c'=c
   ·subst hcc;exact⟨_,hc'⟩
   ·obtain⟨w2,z2⟩:=I.cell y c' e;exact⟨w2,z2.sameBut hs hcc⟩
  ·obtain⟨e,n,ne,nf,d⟩:=I.pin p hp;refine⟨(hs.2 p.1 ?_).trans e,n,ne,nf,d⟩;intro q;rw[q,ai] at e;have q':oc=p.2:=G4 e;exact d w' (by rw[<- q'];exact an)
theorem gJ(I:Inv X pins σ H s)(hN:X.N.Nodup)(hi:X.N[i]?=some x)(hx:Loc X.env.scope x)(r:bB v u)
  (h:∀s',Inv X pins (σ.set i (some v)) H s'->Q () s') (hf:X.fn x=true\/X.env.scope.names.lookup x=some .local :=by walk_at "v1"):wpAny M A (storeName X.env x u) Q E s :=
 ls I hN hi hx r (λs' I' _=>h s' I') hf
theorem Inv.call'(I:Inv X pins σ H s)(ho:s'.os=s.os)(u:Un (frs X.stack) ch H H' s.heap s'.heap)(hok:Gk X.prog X.w H' s'.heap)(hg:AllBare s'.gens)
  (hch:∀b∈ch,(b∈X.ex\/X.s₀.heap.objs.size<=b)/\b≠X.env.locals/\(∀x c,X.env.cells.lookup x=some c->c≠b)/\∀p∈X.pn++pins,p.1≠b):Inv X pins σ H' s':=by
 obtain⟨h',g',d',t',o'⟩:=s';have e:o'=s.os:=ho;subst e;exact I.call (g':=g') (t':=t') (d':=d') u hok hg hch
end
abbrev XK:=Value->Option Addr->Hp->Prop
abbrev St:=List (Option V)
abbrev VK:=V->Hp->Prop
abbrev TE:=St->Hp->VK->Prop
abbrev TT:=St->Hp->(Bool->Hp->Prop)->Prop
abbrev TA:=St->Hp->(List V->Hp->Prop)->Prop
structure BB where
 nx:St->Hp->Prop
 rt:VK
 bk:St->Hp->Prop:=λ_ _=>False
 ct:St->Hp->Prop:=λ_ _=>False
abbrev TS:=BB->St->Hp->Prop
def EP(X:Cx)(pins:List (Addr×Obj))(σ:St)(Q:VK)(u:Value)(s':Shared):Prop:=∃v H',Inv X pins σ H' s'/\bB v u/\Q v H'
def TP(X:Cx)(pins:List (Addr×Obj))(σ:St)(Q:Bool->Hp->Prop)(b:Bool)(s':Shared):Prop:=∃H',Inv X pins σ H' s'/\Q b H'
def AP(X:Cx)(pins:List (Addr×Obj))(σ:St)(Q:Zg->Hp->Prop)(us:Zc)(s':Shared):Prop:=∃vs H',Inv X pins σ H' s'/\bF vs us/\Q vs H'
def SP(X:Cx)(pins:List (Addr×Obj))(D:BB)(f:Flow)(s':Shared):Prop :=
 match f with
 | .next=>∃σ' H',Inv X pins σ' H' s'/\D.nx σ' H'
 | .brk=>∃σ' H',Inv X pins σ' H' s'/\D.bk σ' H'
 | .cont=>∃σ' H',Inv X pins σ' H' s'/\D.ct σ' H'
 | .ret u=>∃v σ' H',Inv X pins σ' H' s'/\bB v u/\D.rt v H'
def PE(X:Cx)(e:Expr)(t:TE):Prop :=
 ∀(pins:List (Addr×Obj)) (s:Shared) (σ:St) (H:Hp) (Q:VK),Inv X pins σ H s->t σ H Q->wpAny (model X.prog X.w) X.A (eval e X.env) (EP X pins σ Q) X.xe s
def PT(X:Cx)(e:Expr)(t:TT):Prop :=
 ∀(pins:List (Addr×Obj)) (s:Shared) (σ:St) (H:Hp) (Q:Bool->Hp->Prop),Inv X pins σ H s->t σ H Q->wpAny (model X.prog X.w) X.A (isTrue e X.env (eval e X.env)) (TP X pins σ Q) X.xe s
def PW(X:Cx)(e:Expr)(t:TT):Prop :=
 ∀(whole:Sem Value) (pins:List (Addr×Obj)) (s:Shared) (σ:St) (H:Hp) (Q:Bool->Hp->Prop),Inv X pins σ H s->t σ H Q->wpAny (model X.prog X.w) X.A (isTrue e X.env whole) (TP X pins σ Q) X.xe s
theorem PW.pt(h:PW X e t):PT X e t:=h _
def PA(X:Cx)(es:List Expr)(t:TA):Prop :=
 ∀(pos:Pos) (pins:List (Addr×Obj)) (s:Shared) (σ:St) (H:Hp) (Q:Zg->Hp->Prop),Inv X pins σ H s->t σ H Q->wpAny (model X.prog X.w) X.A (spliced (backTo pos (starEach es X.env))) (AP X pins σ Q) X.xe s
def PS(X:Cx)(st:Stmt)(t:TS):Prop :=
 ∀(pins:List (Addr×Obj)) (s:Shared) (σ:St) (H:Hp) (D:BB),Inv X pins σ H s->t D σ H->wpAny (model X.prog X.w) X.A (exec st X.env) (SP X pins D) X.xe s
def PSs(X:Cx)(st:List Stmt)(t:TS):Prop :=
 ∀(pins:List (Addr×Obj)) (s:Shared) (σ:St) (H:Hp) (D:BB),Inv X pins σ H s->t D σ H->wpAny (model X.prog X.w) X.A (execs st X.env) (SP X pins D) X.xe s
theorem Gj(h:wpAny M A t Q E s)(hQ:∀a s,Q a s->Q' a s):wpAny M A t Q' E s:=HX h hQ λ_ _ x=>x
end L2
namespace L2
open PySem PySem.Spec PyProof.Rows
section
variable {X:Cx}
theorem bin(ha:PE X a ta)(hb:PE X b tb){H:Hp}{R:V->V->Hp->Prop}(I:Inv X pins σ H s)(h:ta σ H λx H1=>tb σ H1 λy H2=>R x y H2)
  {α:Type} {Q:α->Shared->Prop} {f:Value->Value->Sem α}
  (hf:∀v u s2 x y H2,Inv X pins σ H2 s2->bB x v->bB y u->R x y H2->wpAny (model X.prog X.w) X.A (f v u) Q X.xe s2) :
  wpAny (model X.prog X.w) X.A (eval a X.env) (λv s₁=>wpAny (model X.prog X.w) X.A (eval b X.env) (λu s₂=>wpAny (model X.prog X.w) X.A (f v u) Q X.xe s₂) X.xe s₁) X.xe s:=by
 refine Gj (ha pins s σ H _ I h) λv s1 ⟨x,H1,I1,r1,q1⟩=>?_;refine Gj (hb pins s1 σ H1 _ I1 q1) λu s2 ⟨y,H2,I2,r2,q2⟩=>?_;exact hf v u s2 x y H2 I2 r1 r2 q2
def wE(i:Nat):TE:=λσ H Q=>∃v,σ[i]?=some (some v)/\Q v H
def tC(v:V):TE:=λ_ H Q=>Q v H
theorem bA(hN:X.N[i]?=some x)(hv:Vis X.env.scope x)(hd:(x==("__debug__":Str))=false:=by decide)(hcd:(x==("__classdict__":Str))=false:=by decide):PE X (.Name x pos) (wE i):=by
 intro pins s σ H Q I h;obtain⟨v,e,h⟩:=h;obtain⟨m,hn,hl⟩:=I.loc;obtain⟨u,r,l⟩:=hl i x v hN e hv;have ab:EP X pins σ Q u s:=⟨v,H,I,r,h⟩
 rcases l with⟨hk,hm⟩ | ⟨hk,c,hc,aa⟩
 ·exact wpAny_Name (wpAny_loadName_local I.ok.kind hk hn hm ab) hd
 ·rcases hk with hk | hk
  ·exact wpAny_Name (wpAny_loadName_cell I.ok.kind hk hc aa ab) hd
  ·exact wpAny_Name (wpAny_loadName_free I.ok.kind hk hc aa ab hcd) hd
theorem yi{i j pos}:PE X (.Constant (.int i) j pos) (tC (.int i)):=λ_ _ _ H _ I h=>wpAny_Constant_int ⟨.int i,H,I.tok _,⟨_,rfl⟩,h⟩
theorem FT{b j pos}:PE X (.Constant (.bool b) j pos) (tC (.bl b)):=λ_ _ _ H _ I h=>Constant_bool ⟨.bl b,H,I,rfl,h⟩
theorem BX{j pos}:PE X (.Constant .none j pos) (tC .non):=λ_ _ _ H _ I h=>Constant_none ⟨.non,H,I,rfl,h⟩
theorem rg{x j pos}:PE X (.Constant (.str x) j pos) (tC (.str x)):=λ_ _ _ H _ I h=>Calls.Constant_str ⟨.str x,H,I.tok _,⟨_,rfl⟩,h⟩
def Gl(X:Cx)(x:Str):Prop:=X.env.kindOf x=some .globalImplicit
theorem fY(I:Inv X pins σ H s)(hg:Gl X x)(hm:X.mg x=some u)(h:Q u s)
  (hd:(x==("__debug__":Str))=false:=by decide):wpAny (model X.prog X.w) X.A (eval (.Name x pos) X.env) Q E s :=
 Calls.Name_function_global I.ok.kind hg (Calls.loadGlobal_global (by rw[I.ok.glob];exact I.mod.glob.keeps I.bk) hm h) hd
theorem eT(I:Inv X pins σ H s)(hg:Gl X x)(hm:X.mg x=none)(hv:bootBuiltins x=some u)(h:Q u s)
  (hn:x≠"__name__":=by decide) (hd:(x==("__debug__":Str))=false:=by decide):wpAny (model X.prog X.w) X.A (eval (.Name x pos) X.env) Q E s:=by
 obtain⟨mb,h1,h2⟩:=I.mod.blt;exact Calls.Name_function_global I.ok.kind hg (Calls.loadGlobal_builtin (by rw[I.ok.glob];exact I.mod.glob.keeps I.bk) hm (by rw[I.ok.blt];exact h1.keeps I.bk) ((h2 x hn).trans hv) h) hd
theorem iP(hg:Gl X x)(hm:X.mg x=some u)(r:bB v u)(hd:(x==("__debug__":Str))=false:=by decide):PE X (.Name x pos) (tC v) :=
 λ_ _ _ H _ I h=>fY I hg hm ⟨v,H,I,r,h⟩ hd
theorem tf(hg:Gl X x)(hm:X.mg x=none)(hv:bootBuiltins x=some u)(r:bB v u)(hn:x≠"__name__":=by decide)(hd:(x==("__debug__":Str))=false:=by decide):PE X (.Name x pos) (tC v) :=
 λ_ _ _ H _ I h=>eT I hg hm hv ⟨v,H,I,r,h⟩ hn hd
variable {a b:Expr} {ta tb:TE} {pos:Pos}
def PC(X:Cx)(op:CmpOp)(a b:Expr)(t:TE):Prop :=
 ∀(pins:List (Addr×Obj)) (s:Shared) (σ:St) (H:Hp) (Q:VK),Inv X pins σ H s->t σ H Q ->
  wpAny (model X.prog X.w) X.A (eval a X.env) (λv s₁=>wpAny (model X.prog X.w) X.A (eval b X.env) (λu s₂=>wpAny (model X.prog X.w) X.A (compareOp op v u) (EP X pins σ Q) X.xe s₂) X.xe s₁) X.xe s
def tB(t:TE):TT:=λσ H Q=>t σ H λx H1=>∃c,x=.bl c/\Q c H1
theorem pt_cmp(h:PC X op a b t)(h1:behindInMarks op b=false:=by first | exact nobehind _ (by decide) (by decide) | rfl):PT X (.Compare a [op] [b] pos) (tB t):=by
 intro pins s σ H Q I hw;refine wpAny_isTrue_Compare1 (Gj (h pins s σ H _ I hw) λv s1 h1=>Gj h1 λu s2 h2=>Gj h2 λc s3 ⟨x,H1,I1,r1,q1⟩=>?_) h1;obtain⟨d,rfl,q⟩:=q1
 cases r1
 exact IJ ⟨H1,I1,q⟩
theorem D3(h:PE X e t)(he:∀whole,isTrue e X.env whole=(do let v<-whole;standAt e.pos;holding [v] (truthy v)):=by intro _;rfl):PT X e (tB t):=by
 intro pins s σ H Q I hw;refine isTrue_plain (Gj (h pins s σ H _ I hw) λv s1 ⟨x,H1,I1,r1,q1⟩=>?_) (he _);obtain⟨d,rfl,q⟩:=q1
 cases r1
 exact IJ ⟨H1,I1,q⟩
def tAnd(t u:TT):TT:=λσ H Q=>t σ H λc H1=>if c=true then u σ H1 Q else Q false H1
def tOr(t u:TT):TT:=λσ H Q=>t σ H λc H1=>if c=true then Q true H1 else u σ H1 Q
def tNot(t:TT):TT:=λσ H Q=>t σ H λc H1=>Q (!c) H1
theorem zJ(ha:PT X a tA):PW X (.BoolOp .And [a] pos) tA:=by
 intro wh pins s σ H Q I h;refine isTrue_and (Gj (ha pins s σ H Q I h) λc s1 e=>?_)
 cases c with
 | true=>exact isTrue_and_nil e
 | false=>exact e
theorem DM(ha:PT X a tA):PW X (.BoolOp .Or [a] pos) tA:=by
 intro wh pins s σ H Q I h;refine isTrue_or (Gj (ha pins s σ H Q I h) λc s1 e=>?_)
 cases c with
 | false=>exact isTrue_or_nil e
 | true=>exact e
theorem Dd{cE:List Expr}(ha:PT X a tA)(hb:PW X (.BoolOp .And (b::cE) pos) tB'):PW X (.BoolOp .And (a::b::cE) pos) (tAnd tA tB'):=by
 intro wh pins s σ H Q I h;refine isTrue_and (Gj (ha pins s σ H _ I h) λc s1 ⟨H1,I1,q1⟩=>?_)
 cases c with
 | true=>exact hb wh pins s1 σ H1 Q I1 q1
 | false=>exact⟨H1,I1,q1⟩
theorem EE{tA tB':TT}{cE:List Expr}(ha:PT X a tA)(hb:PW X (.BoolOp .Or (b::cE) pos) tB'):PW X (.BoolOp .Or (a::b::cE) pos) (tOr tA tB'):=by
 intro wh pins s σ H Q I h;refine isTrue_or (Gj (ha pins s σ H _ I h) λc s1 ⟨H1,I1,q1⟩=>?_)
 cases c with
 | true=>exact⟨H1,I1,q1⟩
 | false=>exact hb wh pins s1 σ H1 Q I1 q1
theorem Dp(ha:PT X a tA):PT X (.UnaryOp .Not a pos) (tNot tA):=by
 intro pins s σ H Q I h;exact isTrue_not (ha pins s σ H (λc H1=>Q (!c) H1) I h)
def F7(ta tb:TE):TE:=λσ H Q=>ta σ H λx H1=>∃c,x=.bl c/\if c=true then tb σ H1 Q else Q (.bl false) H1
def tOrV(ta tb:TE):TE:=λσ H Q=>ta σ H λx H1=>∃c,x=.bl c/\if c=true then Q (.bl true) H1 else tb σ H1 Q
def EG(ta:TE):TE:=λσ H Q=>ta σ H λx H1=>∃c,x=.bl c/\Q (.bl (!c)) H1
theorem DY{op}(h:PE X a t):PE X (.BoolOp op [a] pos) t:=λpins s σ H Q I hw=>BoolOp_one (h pins s σ H Q I hw)
theorem CH{cE:List Expr}(ha:PE X a ta)(hb:PE X (.BoolOp .And (b::cE) pos) tb):PE X (.BoolOp .And (a::b::cE) pos) (F7 ta tb):=by
 intro pins s σ H Q I h;refine BoolOp_and (Gj (ha pins s σ H _ I h) λv s1 ⟨x,H1,I1,r1,q1⟩=>?_);obtain⟨c,rfl,q1⟩:=q1
 cases r1
 refine IJ ?_
 cases c with
 | true=>exact hb pins s1 σ H1 Q I1 q1
 | false=>exact⟨.bl false,H1,I1,rfl,q1⟩
theorem ED{cE:List Expr}(ha:PE X a ta)(hb:PE X (.BoolOp .Or (b::cE) pos) tb):PE X (.BoolOp .Or (a::b::cE) pos) (tOrV ta tb):=by
 intro pins s σ H Q I h;refine BoolOp_or (Gj (ha pins s σ H _ I h) λv s1 ⟨x,H1,I1,r1,q1⟩=>?_);obtain⟨c,rfl,q1⟩:=q1
 cases r1
 refine IJ ?_
 cases c with
 | false=>exact hb pins s1 σ H1 Q I1 q1
 | true=>exact⟨.bl true,H1,I1,rfl,q1⟩
theorem D2(ha:PE X a ta):PE X (.UnaryOp .Not a pos) (EG ta):=by
 intro pins s σ H Q I h;refine UnaryOp_ (Gj (ha pins s σ H _ I h) λv s1 ⟨x,H1,I1,r1,q1⟩=>?_);obtain⟨c,rfl,q1⟩:=q1
 cases r1
 exact not_of (IJ ⟨.bl (!c),H1,I1,rfl,q1⟩)
def tIf(t:TT)(ta tb:TE):TE:=λσ H Q=>t σ H λc H1=>if c=true then ta σ H1 Q else tb σ H1 Q
theorem xF(hc:PT X c tA)(ha:PE X a ta)(hb:PE X b tb):PE X (.IfExp c a b pos) (tIf tA ta tb):=by
 intro pins s σ H Q I h;refine wpAny_IfExp (Gj (hc pins s σ H _ I h) λd s1 ⟨H1,I1,q1⟩=>?_)
 cases d with
 | true=>exact ha pins s1 σ H1 Q I1 q1
 | false=>exact hb pins s1 σ H1 Q I1 q1
end
end L2
namespace L2
open PySem PySem.Spec PyProof.Rows
def GL(K:Zf)(H:Hp)(a:Addr)(xs:Zg):Prop :=
 Rd H a (.lst xs) \/
  ∃(o:Obj) (its:Array Value) (n:Nat),K.lookup a=some o/\o.cls=.type "list"/\o.dict=none/\o.data=.seq its n/\its.size<=sizeLine/\bF xs its.toList
def GA(K:Zf)(H:Hp)(a:Addr)(xs:Zg):Prop :=
 Rd H a (.tup xs) \/
  ∃(o:Obj) (its:Array Value) (n:Nat),K.lookup a=some o/\o.cls=.type "tuple"/\o.data=.seq its n/\its.size<=sizeLine/\bF xs its.toList
def absV:Value->Option V
 | .none=>some .non
 | .bool b=>some (.bl b)
 | .int i _=>some (.int i)
 | .str x _=>some (.str x)
 | .bytes b _=>some (.byt b)
 | .float b _=>some (.flt b)
 | .ref a=>some (.ref a)
 | .type n=>some (.ty n)
 | _=>none
theorem bB.abs(r:bB x u):absV u=some x:=by
 cases x with
 | non=>cases r;rfl
 | bl _=>cases r;rfl
 | int _=>obtain⟨t,rfl⟩:=r;rfl
 | str _=>obtain⟨t,rfl⟩:=r;rfl
 | byt _=>obtain⟨t,rfl⟩:=r;rfl
 | flt _=>obtain⟨t,rfl⟩:=r;rfl
 | ref _=>cases r;rfl
 | ty _=>cases r;rfl
theorem bB.inj(r:bB x u)(q:bB y u):x=y:=G4 (r.abs.symm.trans q.abs)
theorem bF.inj:∀ {xs ys:Zg} {us:Zc},bF xs us->bF ys us->xs=ys
 | _,_,_,.nil,.nil=>rfl
 | _,_,_,.cons r t,.cons r' t'=>by rw[r.inj r',bF.inj t t']
section
theorem GL.of{H:Hp}{K:Zf}(h:H a=some (.lst xs)):GL K H a xs:=.inl (.inl h)
theorem GA.of{H:Hp}{K:Zf}(h:H a=some (.tup xs)):GA K H a xs:=.inl (.inl h)
theorem Inv.list(I:Inv X pins σ H s)(h:GL X.K H a xs):∃its:Zc,bF xs its/\PlainL s.heap a its.toArray/\xs.length<=sizeLine:=by
 rcases h with h | ⟨o,its,n,hk,hc,hd,hs,hz,r⟩
 ·obtain⟨z,its,n,r,e⟩:=h.ok I.hok;exact⟨its,r,⟨_,n,e,rfl,rfl,rfl⟩,z⟩
 ·refine⟨its.toList,r,⟨o,n,I.kIn a o hk,hc,hd,by simpa using hs⟩,?_⟩;have e:=r.length;simp only[Array.length_toList] at e;omega
theorem Inv.tuple(I:Inv X pins σ H s)(h:GA X.K H a xs):∃its:Zc,bF xs its/\IsTup s.heap a its.toArray/\xs.length<=sizeLine:=by
 rcases h with h | ⟨o,its,n,hk,hc,hs,hz,r⟩
 ·obtain⟨z,its,r,p⟩:=h.ok I.hok;exact⟨its,r,p,z⟩
 ·refine⟨its.toList,r,⟨o,I.kIn a o hk,hc,n,by simpa using hs⟩,?_⟩;have e:=r.length;simp only[Array.length_toList] at e;omega
theorem Inv.list_inj(I:Inv X pins σ H s)(h:GL X.K H a xs)(h':GL X.K H a ys):xs=ys:=by
 obtain⟨ab,r,⟨o,n,e,_,_,d⟩,_⟩:=I.list h;obtain⟨aa,r',⟨o',n',e',_,_,d'⟩,_⟩:=I.list h';rw[e] at e';cases e';rw[d] at d'
 injection d' with d1 _
 have:ab=aa:=by simpa using Ji Array.toList d1
 subst this;exact r.inj r'
theorem Inv.tuple_inj(I:Inv X pins σ H s)(h:GA X.K H a xs)(h':GA X.K H a ys):xs=ys:=by
 obtain⟨ab,r,⟨o,e,_,n,d⟩,_⟩:=I.tuple h;obtain⟨aa,r',⟨o',e',_,n',d'⟩,_⟩:=I.tuple h';rw[e] at e';cases e';rw[d] at d'
 injection d' with d1 _
 have:ab=aa:=by simpa using Ji Array.toList d1
 subst this;exact r.inj r'
end
abbrev Cx.wish(X:Cx)(E:Value->Shared->Prop):Cx:={ X with xe:=E }
abbrev Cx.nox(X:Cx):Cx:=X.wish λ_ _=>False
theorem Cx.Ok.wish{X:Cx}(ok:X.Ok)(E:Value->Shared->Prop):(X.wish E).Ok :=
 ⟨ok.mod,ok.kind,ok.glob,ok.blt,ok.above,ok.inj,ok.has,ok.cab,ok.hd,ok.frames,ok.stk,ok.exf,ok.bs,ok.bsz,ok.noex,ok.exfs,ok.funs,ok.frf⟩
theorem Cx.Ok.unwish{X:Cx}{E:Value->Shared->Prop}(ok:(X.wish E).Ok):X.Ok :=
 ⟨ok.mod,ok.kind,ok.glob,ok.blt,ok.above,ok.inj,ok.has,ok.cab,ok.hd,ok.frames,ok.stk,ok.exf,ok.bs,ok.bsz,ok.noex,ok.exfs,ok.funs,ok.frf⟩
section
theorem Inv.wish(I:Inv X pins σ H s)(E:Value->Shared->Prop):Inv (X.wish E) pins σ H s:=⟨I.ok.wish E,I.os,I.bare,I.base,I.loc,I.cell,I.free,I.freeC,I.pin,I.hok,I.len⟩
theorem Inv.unwish(I:Inv (X.wish E) pins σ H s):Inv X pins σ H s:=⟨I.ok.unwish,I.os,I.bare,I.base,I.loc,I.cell,I.free,I.freeC,I.pin,I.hok,I.len⟩
theorem SP.unwish(h:SP (X.wish E) pins D f s'):SP X pins D f s':=by
 cases f with
 | next=>obtain⟨σ',H',I,q⟩:=h;exact⟨σ',H',I.unwish,q⟩
 | brk=>obtain⟨σ',H',I,q⟩:=h;exact⟨σ',H',I.unwish,q⟩
 | cont=>obtain⟨σ',H',I,q⟩:=h;exact⟨σ',H',I.unwish,q⟩
 | ret u=>obtain⟨v,σ',H',I,r,q⟩:=h;exact⟨v,σ',H',I.unwish,r,q⟩
theorem PE.nox(h:PE X.nox e t):PE X e t:=λpins s σ H Q I hw =>
 HX (h pins s σ H Q (I.wish _) hw) (λ_ _ ⟨v,H',I',r,q⟩=>⟨v,H',I'.unwish,r,q⟩) λ_ _ z=>False.elim z
theorem PT.nox(h:PT X.nox e t):PT X e t:=λpins s σ H Q I hw =>
 HX (h pins s σ H Q (I.wish _) hw) (λ_ _ ⟨H',I',q⟩=>⟨H',I'.unwish,q⟩) λ_ _ z=>False.elim z
theorem PSs.nox{X:Cx}{st:List Stmt}(h:PSs X.nox st t):PSs X st t:=λpins s σ H D I hw =>
 HX (h pins s σ H D (I.wish _) hw) (λ_ _ q=>q.unwish) λ_ _ z=>False.elim z
end
section
variable {X:Cx} {st:Stmt} {cE:List Stmt} {t u:TS} {e:Expr} {te:TE} {pos:Pos}
def Fs:TS:=λD σ H=>D.nx σ H
def tSeq(t u:TS):TS:=λD σ H=>t { D with nx:=u D } σ H
theorem zH:PSs X [] Fs:=λ_ _ σ H _ I h=>JO ⟨σ,H,I,h⟩
theorem gY(h1:PS X st t)(h2:PSs X cE u):PSs X (st::cE) (tSeq t u):=by
 intro pins s σ H D I h;refine wpAny_execs_cons (Gj (h1 pins s σ H { D with nx:=u D } I h) λf s1 q=>?_)
 cases f with
 | next =>
  obtain⟨σ',H',I',q⟩:=q;exact h2 pins s1 σ' H' D I' q
 | ret v=>exact q
 | brk=>exact q
 | cont=>exact q
theorem hV(h1:PS X st t):PSs X [st] t:=by
 intro pins s σ H D I h;refine wpAny_execs_cons (Gj (h1 pins s σ H D I h) λf s1 q=>?_)
 cases f with
 | next=>exact JO q
 | ret v=>exact q
 | brk=>exact q
 | cont=>exact q
theorem Inv.quiet(I:Inv X pins σ H s):interactive X.env=false:=by simp[interactive,I.ok.kind]
def AE(te:TE):TS:=λD σ H=>te σ H λ_ H1=>D.nx σ H1
theorem eO(he:PE X e te)(hs:swapsWith e none pos.line X.env=pure false:=by rfl):PS X (.Expr e pos) (AE te):=by
 intro pins s σ H D I h;exact wpAny_Expr_any (Gj (he pins s σ H _ I h) λv s1 ⟨x,H1,I1,r1,q1⟩=>⟨σ,H1,I1,q1⟩) I.quiet hs
def tRet(te:TE):TS:=λD σ H=>te σ H D.rt
theorem o8(he:PE X e te):PS X (.Return (some e) pos) (tRet te):=by
 intro pins s σ H D I h;exact wpAny_Return_some (Gj (he pins s σ H _ I h) λv s1 ⟨x,H1,I1,r1,q1⟩=>⟨x,σ,H1,I1,r1,q1⟩)
def FQ:TS:=λD _ H=>D.rt .non H
theorem zW:PS X (.Return none pos) FQ:=λ_ _ σ H _ I h=>wpAny_Return_none ⟨.non,σ,H,I,rfl,h⟩
def tIfS(c:TT)(t u:TS):TS:=λD σ H=>c σ H λb H1=>if b=true then t D σ H1 else u D σ H1
theorem FH(hc:PT X c tc)(ha:PSs X a t)(hb:PSs X b u):PS X (.If c a b pos) (tIfS tc t u):=by
 intro pins s σ H D I h;refine wpAny_If (Gj (hc pins s σ H _ I h) λd s1 ⟨H1,I1,q1⟩=>?_)
 cases d with
 | true=>exact ha pins s1 σ H1 D I1 q1
 | false=>exact hb pins s1 σ H1 D I1 q1
def yt:TS:=λ_ _ _=>False
theorem xk:PS X st yt:=λ_ _ _ _ _ _ h=>h.elim
theorem tG:PSs X sts yt:=λ_ _ _ _ _ _ h=>h.elim
end
abbrev TG:=V->St->Hp->(St->Hp->Prop)->Prop
abbrev TGs:=List V->St->Hp->(St->Hp->Prop)->Prop
def PG(X:Cx)(target:Expr)(t:TG):Prop :=
 ∀(pins:List (Addr×Obj)) (s:Shared) (σ:St) (H:Hp) (v:V) (u:Value) (Q:St->Hp->Prop),Inv X pins σ H s->bB v u->t v σ H Q ->
  wpAny (model X.prog X.w) X.A (assign target X.env u) (λ_ s'=>∃σ' H',Inv X pins σ' H' s'/\Q σ' H') X.xe s
def PGs(X:Cx)(ts:List Expr)(t:TGs):Prop :=
 ∀(pins:List (Addr×Obj)) (s:Shared) (σ:St) (H:Hp) (vs:Zg) (us:Zc) (Q:St->Hp->Prop),Inv X pins σ H s->bF vs us->t vs σ H Q ->
  wpAny (model X.prog X.w) X.A (assignInOrder ((assignEach ts X.env).map (·.2)) us) (λ_ s'=>∃σ' H',Inv X pins σ' H' s'/\Q σ' H') X.xe s
section
def vf(i:Nat):TG:=λv σ H Q=>Q (σ.set i (some v)) H
theorem zU(hN:X.N.Nodup)(hi:X.N[i]?=some x)(hx:Loc X.env.scope x)(hf:X.fn x=true\/X.env.scope.names.lookup x=some .local :=by walk_at "v1"):PG X (.Name x pos) (vf i):=by
 intro pins s σ H v u Q I r h;exact wpAny_assign_Name (gJ I hN hi hx r (λs' I'=>⟨_,H,I',h⟩) hf)
def gNil:TGs:=λvs σ H Q=>vs=[]/\Q σ H
def Fv(t:TG)(u:TGs):TGs:=λvs σ H Q=>∃v r,vs=v::r/\t v σ H λσ' H'=>u r σ' H' Q
theorem zw:PGs X [] gNil:=by
 intro pins s σ H vs us Q I r h;obtain⟨e,h⟩:=h;subst e
 cases r
 exact assignInOrder_nil ⟨σ,H,I,h⟩
theorem v6(h1:PG X e t)(h2:PGs X es u)
  (hs:(assignEach (e::es) X.env).map (·.2)=assign e X.env::(assignEach es X.env).map (·.2):=by rfl):PGs X (e::es) (Fv t u):=by
 intro pins s σ H vs us Q I r h;obtain⟨v,vr,e1,h⟩:=h;subst e1
 cases r with
 | cons r rr =>
  rw[hs];refine assignInOrder_cons (Gj (h1 pins s σ H _ _ _ I r h) λ_ s1 ⟨σ1,H1,I1,q1⟩=>?_);exact h2 pins s1 σ1 H1 _ _ Q I1 rr q1
def gTup(K:Zf)(n:Nat)(t:TGs):TG:=λv σ H Q=>∃a xs,v=.ref a/\GA K H a xs/\xs.length=n/\t xs σ H Q
theorem Cb(hc:X.calm=true)(h:PGs X es t)
  (hn:(assignEach es X.env).length=n:=by rfl) (hst:(assignEach es X.env).findIdx? (·.1)=none:=by rfl):PG X (.Tuple es k pos) (gTup X.K n t):=by
 intro pins s σ H v u Q I r hw;obtain⟨a,xs,e1,hq,hl,hw⟩:=hw;subst e1
 cases r
 obtain⟨aa,rv,ht,hz⟩:=I.tuple hq;refine assign_Tuple_tuple (I.ok.hd hc) ht (by simp[hn,<- hl,rv.length]) hst λh' hx=>?_;have I1:Inv X pins σ H { s with heap:=h' }:=I.kept (t':=s.toks) λb o e=>hx b o (Ho (G3 e)) e;exact h pins _ σ H xs _ Q I1 (by simpa using rv) hw
def tAsg(te:TE)(g:TG):TS:=λD σ H=>te σ H λx H1=>g x σ H1 D.nx
theorem Dm(he:PE X e te)(hg:PG X tg g)(hs:swapsWithSole [tg] e pos.line X.env=pure false:=by rfl)(hw:swappedStores [tg] e X.env=pure none:=by rfl)
  (h1:(assignEach [tg] X.env).map (·.2)=[assign tg X.env]:=by rfl):PS X (.Assign [tg] e pos) (tAsg te g):=by
 intro pins s σ H D I h;refine wpAny_Assign_stores (Gj (he pins s σ H _ I h) λv s1 ⟨x,H1,I1,r1,q1⟩=>?_) hs hw;rw[h1];exact Gj (hg pins s1 σ H1 x v _ I1 r1 q1) λ_ s2 q=>q
theorem jH(hN:X.N.Nodup)(hi:X.N[i]?=some x)(hx:Loc X.env.scope x)(he:PE X e te)(hs:swapsWith e (some (.Name x pos')) pos.line X.env=pure false:=by rfl)(hf:X.fn x=true\/X.env.scope.names.lookup x=some .local :=by walk_at "v1") :
  PS X (.Assign [.Name x pos'] e pos) (tAsg te (vf i)):=by
 intro pins s σ H D I h;refine wpAny_Assign_Name (Gj (he pins s σ H _ I h) λv s1 ⟨y,H1,I1,r1,q1⟩=>?_) hs;exact gJ I1 hN hi hx r1 (λs2 I2=>⟨_,H1,I2,q1⟩) hf
end
section
def BP(c:TT)(tb:TS):TS:=λD σ H=>∃W:Nat->St->Hp->Prop,(∃m,W m σ H)/\∀m σ H,W m σ H ->
 c σ H λb H1=>if b=true then ∃N:St->Hp->Prop,(∀σ' H',N σ' H'->∃m',m'<m/\W m' σ' H')/\tb { D with nx:=N,ct:=N,bk:=D.nx } σ H1 else D.nx σ H1
theorem wf(hp:PassesOwn (model X.prog X.w) X.A X.env X.xe)(hc:PT X c tc)(hb:PSs X body tb):PS X (.While c body [] pos) (BP tc tb):=by
 intro pins s σ H D I h;obtain⟨W,⟨m0,w0⟩,aa⟩:=h;refine wpAny_While (codeAny_whileLoop (λn s'=>∃σ' H',Inv X pins σ' H' s'/\W n σ' H') ?_ m0 ⟨σ,H,I,w0⟩);rintro n s1 ⟨σ1,H1,I1,w1⟩;refine IY hp (Gj (hc pins s1 σ1 H1 _ I1 (aa n σ1 H1 w1)) λb s2 ⟨H2,I2,q2⟩=>?_)
 cases b with
 | true =>
  obtain⟨N,hN,q2⟩:=q2;rw[Hc rfl];refine IY hp (Gj (hb pins s2 σ1 H2 _ I2 q2) λf s3 q3=>?_)
  cases f with
  | next =>
   obtain⟨σ3,H3,I3,n3⟩:=q3;obtain⟨m',hm,w3⟩:=hN σ3 H3 n3;exact⟨m',hm,σ3,H3,I3,w3⟩
  | cont =>
   obtain⟨σ3,H3,I3,n3⟩:=q3;obtain⟨m',hm,w3⟩:=hN σ3 H3 n3;exact⟨m',hm,σ3,H3,I3,w3⟩
  | brk=>exact q3
  | ret v=>exact q3
 | false =>
  rw[Ha GW];exact JO ⟨σ1,H2,I2,q2⟩
end
structure It where
 go:Nat->Hp->Prop
 yld:Nat->Hp->V->Hp->Prop
 stop:Nat->Hp->Prop
def wD(X:Cx)(pins:List (Addr×Obj))(H:Hp)(b:Addr):Prop :=
 H b=none/\b≠X.env.locals/\b∉X.fs/\(b∈X.ex\/X.s₀.heap.objs.size<=b)/\(∀x c,X.env.cells.lookup x=some c->c≠b)/\∀p∈X.pn++pins,p.1≠b
theorem Inv.fpOk(I:Inv X pins σ H s)(hb:s.heap.objs.size<=b)(hn:H' b=none):wD X pins H' b:=by
 refine⟨hn,IC (He I.lt hb),I.nofs hb,.inr (GS I.sz hb),λx c e z=>?_,λp hp z=>?_⟩
 ·obtain⟨v,q⟩:=I.cell x c e;exact absurd (He q.lt (by rw[z];exact hb)) (Hw _)
 ·exact absurd (He (G3 (I.pin p hp).1) (by rw[z];exact hb)) (Hw _)
structure At(P:Program)(w:World)(K:Zf)(tg:Expr)(J:It)(fp:List Addr)(it:Addr)(tn:Nat->Heap->Prop):Prop where
 mem:it∈fp
 obj:∀i h,tn i h->∀b∈fp,∃o,h.get? b=some o/\∀v,o.data≠.cell v
 keep:∀i h h',tn i h->(∀b∈fp,∀o,h.get? b=some o->h'.get? b=some o)->tn i h'
 item:∀(X:Cx),X.prog=P->X.w=w->X.K=K->X.calm=true->∀(i:Nat) (pins:List (Addr×Obj)) (s:Shared) (σ:St) (H:Hp) (E:Value->Shared->Prop),Inv X pins σ H s->(∀b∈fp,wD X pins H b)->tn i s.heap->J.go i H ->
  wpAny (model P w) X.A (pyNext (.ref it)) (λr s1=>∃u,r=some u /\
   wpAny (model P w) X.A (letOwnedTupleGo tg (.ref it) u) (λ_ s2=>∃x H',Inv X pins σ H' s2/\bB x u/\J.yld i H x H'/\tn (i+1) s2.heap/\∀b∈fp,H' b=none) E s1) E s
 done:∀(X:Cx),X.prog=P->X.w=w->X.K=K->X.calm=true->∀(i:Nat) (pins:List (Addr×Obj)) (s:Shared) (σ:St) (H:Hp) (E:Value->Shared->Prop),Inv X pins σ H s->(∀b∈fp,wD X pins H b)->tn i s.heap->J.stop i H ->
  wpAny (model P w) X.A (pyNext (.ref it)) (λr s1=>r=none/\Inv X pins σ H s1) E s
 self:∀(A:Around) (i:Nat) (s:Shared) (Q:Value->Shared->Prop) (E:Value->Shared->Prop),tn i s.heap->Q (.ref it) s->wpAny (model P w) A (pyIter (.ref it)) Q E s
abbrev TI:=St->Hp->(It->Hp->Prop)->Prop
def PIE(X:Cx)(pins:List (Addr×Obj))(σ:St)(tg:Expr)(R:It->Hp->Prop)(itv:Value)(s2:Shared):Prop :=
 ∃(it:Addr) (fp:List Addr) (tn:Nat->Heap->Prop) (J:It) (H':Hp),itv=.ref it/\Inv X pins σ H' s2/\At X.prog X.w X.K tg J fp it tn/\tn 0 s2.heap/\(∀b∈fp,wD X pins H' b)/\R J H'
def PI(X:Cx)(tg iter:Expr)(wi:TI):Prop :=
 ∀(pins:List (Addr×Obj)) (s:Shared) (σ:St) (H:Hp) (R:It->Hp->Prop),Inv X pins σ H s->wi σ H R ->
  wpAny (model X.prog X.w) X.A (eval iter X.env) (λv s1=>wpAny (model X.prog X.w) X.A (pyIter v) (PIE X pins σ tg R) X.xe s1) X.xe s
theorem vL(ho:s.heap.get? it=some o)(hc:o.cls=.type n)(hd:o.data=.fields vs)
    (hn:["enumerate","zip","dict_itemiterator","dict_reverseitemiterator","odict_iterator","itertools.zip_longest","itertools.pairwise"].contains n=false) (hQ:Q () s):wpAny M A (letOwnedTupleGo tg (.ref it) u) Q E s:=by
  unfold letOwnedTupleGo
  cases tg<;>first
    | exact GQ hQ
    | (cases u<;>first
        | exact GQ hQ
        | (refine GM (wpAny_load ho ?_)
           rw[hc,hd];show wpAny M A (if (["enumerate","zip","dict_itemiterator","dict_reverseitemiterator","odict_iterator","itertools.zip_longest","itertools.pairwise"].contains n&&vs[0]?==some (rawInt _))=true then _ else _) Q E s;rw[Ha (by intro h;rw[hn,Bool.false_and] at h;cases h)]
           exact GQ hQ))
def Itl(K:Zf)(a:Addr):It :=
 ⟨λi H=>∃xs x,GL K H a xs/\xs[i]?=some x,λi H x H'=>H'=H/\∀xs,GL K H a xs->xs[i]?=some x,λi H=>∃xs,GL K H a xs/\xs.length<=i⟩
def Itt(K:Zf)(a:Addr):It :=
 ⟨λi H=>∃xs x,GA K H a xs/\xs[i]?=some x,λi H x H'=>H'=H/\∀xs,GA K H a xs->xs[i]?=some x,λi H=>∃xs,GA K H a xs/\xs.length<=i⟩
def Itr(lo:Int)(n:Nat):It:=⟨λi _=>i<n,λi H x H'=>H'=H/\x=.int (lo+i),λi _=>n<=i⟩
theorem mH{w:World}{K:Zf}(a it:Addr):At P w K tg (Itl K a) [it] it (λi h=>h.IsListIter it a i) where
 mem:=by simp
 obj:=λi h st b hb=>by
  have e:b=it:=by simpa using hb
  subst e;obtain⟨o,e,c,d⟩:=st;exact⟨o,e,λv z=>by rw[d] at z;cases z⟩
 keep:=λi h h' st k=>st.at λo e=>k it (by simp) o e
 item:=by
  intro X hP hw hK hc i pins s σ H E I hf st hg;subst hP hw hK;obtain⟨xs,x,hq,hx⟩:=hg;obtain⟨aa,rv,p,hz⟩:=I.list hq;obtain⟨u,hu,ru⟩:=rv.get hx;obtain⟨f0,f1,f2,f3,f4,f5⟩:=hf it (by simp);refine wpAny_pyNext_list_item st p.isList (x:=u) (by simpa using hu) λh' st' sb=>?_;have I1:Inv X pins σ H { s with heap:=h' }:=I.turned (t':=s.toks) (λb o hb e=>(sb.2 b hb).trans e) f0 f1 f3 f4 f5;obtain⟨o,e,c,d⟩:=id st';exact⟨u,rfl,vL (s:={ s with heap:=h' }) e c d (by decide) ⟨x,H,I1,ru,⟨rfl,λys hy=>by rw[I.list_inj hy hq];exact hx⟩,st',λb hb=>(hf b hb).1⟩⟩
 done:=by
  intro X hP hw hK hc i pins s σ H E I hf st hg;subst hP hw hK;obtain⟨xs,hq,hx⟩:=hg;obtain⟨aa,rv,p,hz⟩:=I.list hq;obtain⟨f0,f1,f2,f3,f4,f5⟩:=hf it (by simp);have hl:=rv.length;exact wpAny_pyNext_list_end (I.ok.hd hc) st p.isList (by simp;omega) λh' eb=>⟨rfl,I.turned (t':=s.toks) (λb o hb e=>eb b o hb e) f0 f1 f3 f4 f5⟩
 self:=λ_ _ _ _ _ st h=>wpAny_pyIter_listiter st h
theorem jJ{w:World}{K:Zf}(a it:Addr):At P w K tg (Itt K a) [it] it (λi h=>h.IsTupleIter it a i) where
 mem:=by simp
 obj:=λi h st b hb=>by
  have e:b=it:=by simpa using hb
  subst e;obtain⟨o,e,c,d⟩:=st;exact⟨o,e,λv z=>by rw[d] at z;cases z⟩
 keep:=λi h h' st k=>st.at λo e=>k it (by simp) o e
 item:=by
  intro X hP hw hK hc i pins s σ H E I hf st hg;subst hP hw hK;obtain⟨xs,x,hq,hx⟩:=hg;obtain⟨aa,rv,p,hz⟩:=I.tuple hq;obtain⟨u,hu,ru⟩:=rv.get hx;obtain⟨f0,f1,f2,f3,f4,f5⟩:=hf it (by simp);refine wpAny_pyNext_tuple_item st (show s.heap.IsTuple a aa.toArray from p) (x:=u) (by simpa using hu) λh' st' sb=>?_;have I1:Inv X pins σ H { s with heap:=h' }:=I.turned (t':=s.toks) (λb o hb e=>(sb.2 b hb).trans e) f0 f1 f3 f4 f5;obtain⟨o,e,c,d⟩:=id st';exact⟨u,rfl,vL (s:={ s with heap:=h' }) e c d (by decide) ⟨x,H,I1,ru,⟨rfl,λys hy=>by rw[I.tuple_inj hy hq];exact hx⟩,st',λb hb=>(hf b hb).1⟩⟩
 done:=by
  intro X hP hw hK hc i pins s σ H E I hf st hg;subst hP hw hK;obtain⟨xs,hq,hx⟩:=hg;obtain⟨aa,rv,p,hz⟩:=I.tuple hq;obtain⟨f0,f1,f2,f3,f4,f5⟩:=hf it (by simp);have hl:=rv.length;exact wpAny_pyNext_tuple_end (I.ok.hd hc) st (show s.heap.IsTuple a aa.toArray from p) (by simp;omega) λh' eb=>⟨rfl,I.turned (t':=s.toks) (λb o hb e=>eb b o hb e) f0 f1 f3 f4 f5⟩
 self:=λ_ _ _ _ _ st h=>wpAny_pyIter_tupleiter st h
theorem rq{w:World}{K:Zf}(it:Addr)(lo:Int)(n:Nat):At P w K tg (Itr lo n) [it] it (λi h=>IsRangeIter h it (lo+(i:Nat)*1) ((n:Int)-(i:Nat)) 1) where
 mem:=by simp
 obj:=λi h st b hb=>by
  have e:b=it:=by simpa using hb
  subst e
  exact⟨_,st,λv z=>by
   have z':Data.fields _=Data.cell v:=z
   cases z'⟩
 keep:=λi h h' st k=>k it (by simp) _ st
 item:=by
  intro X hP hw hK hc i pins s σ H E I hf st hg;subst hP hw hK;obtain⟨f0,f1,f2,f3,f4,f5⟩:=hf it (by simp);have W:=Walks.range (prog:=X.prog) (w:=X.w) (I.ok.hd hc) it lo 1 n;refine W.item i s _ _ hg st λv h' tk hv st' kk=>?_;obtain⟨t,rfl⟩:=hv;have I1:Inv X pins σ H { s with heap:=h',toks:=tk }:=I.turned (λb o hb e=>kk b o (by simpa using hb) e) f0 f1 f3 f4 f5;refine⟨_,rfl,vL (s:={ s with heap:=h',toks:=tk }) (n:="range_iterator") st' rfl rfl (by decide) ⟨.int (lo+i),H,I1,⟨t,?_⟩,⟨rfl,rfl⟩,st',λb hb=>(hf b hb).1⟩⟩;rw[Int.mul_one]
 done:=by
  intro X hP hw hK hc i pins s σ H E I hf st hg;subst hP hw hK;obtain⟨f0,f1,f2,f3,f4,f5⟩:=hf it (by simp);exact wpAny_pyNext_range_end (I.ok.hd hc) st (by have:n<=i:=hg;omega) λh' eb=>⟨rfl,I.turned (t':=s.toks) (λb o hb e=>eb b o hb e) f0 f1 f3 f4 f5⟩
 self:=λ_ _ _ _ _ st h=>wpAny_pyIter_rangeiter st h
end L2
namespace L2
open PySem PySem.Spec PyProof.Rows
section
def FR(K:Zf)(tl:TE):TI:=λσ H R=>tl σ H λx H1=>∃a,x=.ref a/\(∃xs,GL K H1 a xs)/\R (Itl K a) H1
def iTup(K:Zf)(tl:TE):TI:=λσ H R=>tl σ H λx H1=>∃a,x=.ref a/\(∃xs,GA K H1 a xs)/\R (Itt K a) H1
theorem oM(hl:PE X l tl):PI X tg l (FR X.K tl):=by
 intro pins s σ H R I h;refine Gj (hl pins s σ H _ I h) λv s1 ⟨x,H1,I1,r1,q1⟩=>?_;obtain⟨a,e,⟨xs,hq⟩,q⟩:=q1;subst e
 cases r1
 obtain⟨aa,rv,p,hz⟩:=I1.list hq;refine Ju p.isList ?_;refine⟨s1.heap.objs.size,[s1.heap.objs.size],_,_,H1,rfl,I1.kept (t':=s1.toks) λb o e=>GO _ e,mH a _,⟨_,G5 _ rfl,rfl,rfl⟩,λb hb=>?_,q⟩;have e:b=s1.heap.objs.size:=by simpa using hb
 subst e;exact I1.fpOk (GU _) (I1.hok.fresh (GU _))
theorem xI(hl:PE X l tl):PI X tg l (iTup X.K tl):=by
 intro pins s σ H R I h;refine Gj (hl pins s σ H _ I h) λv s1 ⟨x,H1,I1,r1,q1⟩=>?_;obtain⟨a,e,⟨xs,hq⟩,q⟩:=q1;subst e
 cases r1
 obtain⟨aa,rv,p,hz⟩:=I1.tuple hq;refine wpAny_pyIter_tuple (show s1.heap.IsTuple a aa.toArray from p) ?_;refine⟨s1.heap.objs.size,[s1.heap.objs.size],_,_,H1,rfl,I1.kept (t':=s1.toks) λb o e=>GO _ e,jJ a _,⟨_,G5 _ rfl,rfl,rfl⟩,λb hb=>?_,q⟩;have e:b=s1.heap.objs.size:=by simpa using hb
 subst e;exact I1.fpOk (GU _) (I1.hok.fresh (GU _))
theorem vV{X:Cx}{H:Hp}{s:Shared}{R:It->Hp->Prop}{E:Value->Shared->Prop}{lo hi:Int}{v:Tok}(I:Inv X pins σ H s)(h1:-(2 ^ 62)<=lo)(h2:lo<2 ^ 62)(h3:-(2 ^ 62)<=hi)(h4:hi<2 ^ 62)
  (q:R (Itr lo (hi-lo).toNat) H):wpAny (model X.prog X.w) X.A (pyIter (.ref s.heap.objs.size)) (PIE X pins σ tg R) E { s with heap:=s.heap.push { cls:=.type "range",data:=.fields #[.int lo t,.int hi u,.int 1 v] },toks:=tk }:=by
 refine wpAny_pyIter_range (IsRange.new ..) (small_one h1 h2 h3 h4) ?_;have I1:Inv X pins σ H { s with heap:=s.heap.push { cls:=.type "range",data:=.fields #[.int lo t,.int hi u,.int 1 v] },toks:=tk }:=I.kept λb o e=>GO _ e
 refine⟨(s.heap.push { cls:=.type "range",data:=.fields #[.int lo t,.int hi u,.int 1 v] }).objs.size,[(s.heap.push { cls:=.type "range",data:=.fields #[.int lo t,.int hi u,.int 1 v] }).objs.size],_,_,H,rfl,
  I1.kept (t':=tk) λb o e=>GO _ e,rq _ lo (hi-lo).toNat,?_,λb hb=>?_,q⟩
 ·have e1:lo+((0:Nat):Int)*1=lo:=by simp
  have e2:(((hi-lo).toNat:Nat):Int)-((0:Nat):Int)=Builtin.Range.rangeSize lo hi 1:=by rw[rangeSize_one];split<;>omega
  show IsRangeIter _ _ (lo+((0:Nat):Int)*1) ((((hi-lo).toNat:Nat):Int)-((0:Nat):Int)) 1
  rw[e1,e2];exact G5 _ rfl
 ·have e:b=(s.heap.push { cls:=.type "range",data:=.fields #[.int lo t,.int hi u,.int 1 v] }).objs.size:=by simpa using hb
  subst e;exact I1.fpOk (GU _) (I1.hok.fresh (GU _))
def Fy(ta:TA):TI:=λσ H R=>ta σ H λvs H1=>∃j:Int,vs=[.int j]/\-(2 ^ 62)<=j/\j<2 ^ 62/\R (Itr 0 j.toNat) H1
theorem mf(hg:Gl X "range")(hm:X.mg "range"=none)(ha:PA X [a] ta)(hs:starEach [a] X.env=[(false,eval a X.env)]:=by rfl):PI X tg (.Call (.Name "range" p) [a] [] pos) (Fy ta):=by
 intro pins s σ H R I h;refine Call_ (eT I hg hm boot_range (Ii (Gj (ha pos pins s σ H _ I h) λus s1 ⟨vs,H1,I1,r1,q1⟩=>?_) hs rfl));obtain⟨j,e,q1,q2,q⟩:=q1;subst e
 cases r1 with
 | cons r rr =>
  cases rr
  obtain⟨t,rfl⟩:=r;exact call_range_1 (vV I1 (by omega) (by omega) q1 q2 (by simpa using q))
def tFor(wi:TI)(g:TG)(tb:TS):TS:=λD σ H=>wi σ H λJ H1=>∃W:Nat->Nat->St->Hp->Prop,(∃m,W 0 m σ H1)/\∀i m σ H,W i m σ H ->
 (J.stop i H/\D.nx σ H)\/(J.go i H/\∃N:St->Hp->Prop,(∀σ' H',N σ' H'->∃m',m'<m/\W (i+1) m' σ' H')/\∀x H',J.yld i H x H'->g x σ H' λσ2 H2=>tb { D with nx:=N,ct:=N,bk:=D.nx } σ2 H2)
def lN(fp:List Addr)(h:Heap):List (Addr×Obj):=fp.filterMap λb=>(h.get? b).map λo=>(b,o)
theorem dM(hb:b∈fp)(e:h.get? b=some o):(b,o)∈lN fp h:=List.mem_filterMap.mpr ⟨b,hb,by rw[e];rfl⟩
theorem sO(hp:p∈lN fp h):p.1∈fp/\h.get? p.1=some p.2:=by
 obtain⟨b,hb,e⟩:=List.mem_filterMap.mp hp
 cases q:h.get? b with
 | none=>rw[q] at e;cases e
 | some o =>
  rw[q] at e;have e':(b,o)=p:=G4 e;subst e';exact⟨hb,q⟩
theorem Inv.pinned(I:Inv X pins σ H s)(hf:∀b∈fp,wD X pins H b)(ho:∀b∈fp,∃o,s.heap.get? b=some o/\∀v,o.data≠.cell v):Inv X (pins++lN fp s.heap) σ H s :=
 I.pins_of λp hp=>(Hb.mp hp).elim (λz=>I.pin p (G7 _ z)) λz=>by
  obtain⟨hb,e⟩:=sO z;obtain⟨f0,f1,f2,_⟩:=hf p.1 hb;obtain⟨o,e',d⟩:=ho p.1 hb;rw[e] at e';cases e';exact⟨e,f0,f1,f2,d⟩
theorem Inv.unpinned(I:Inv X (pins++pl) σ H s):Inv X pins σ H s:=I.pins_of λp hp=>I.pin p (G7 _ (Hf _ hp))
theorem mG(hp:PassesOwn (model X.prog X.w) X.A X.env X.xe)(hc:X.calm=true)(hi:PI X tg iter wi)(hg:PG X tg g)(hb:PSs X body tb)
  (hs:∀x,foldedSetIterable iter X.env x=pure x:=by intro _;rfl):PS X (.For tg iter body [] pos) (tFor wi g tb):=by
 intro pins s σ H D I h;refine wpAny_For (Gj (hi pins s σ H _ I h) λv s1 h1=>Gj h1 λitv s2 h2=>?_) hs;obtain⟨it,fp,tn,J,H2,e,I2,T,al,f2,W,⟨m0,w0⟩,ai⟩:=h2;subst e;have aa:∀ {H':Hp},(∀b∈fp,H' b=none)->∀b∈fp,wD X pins H' b:=λhn b hb=>⟨hn b hb,(f2 b hb).2⟩;refine codeAny_forLoop_any (λn s'=>∃i σ' H',Inv X pins σ' H' s'/\tn i s'.heap/\(∀b∈fp,H' b=none)/\W i n σ' H') ?_ m0 ⟨0,σ,H2,I2,al,λb hb=>(f2 b hb).1,w0⟩;rintro n s3 ⟨i,σ3,H3,I3,st3,fr3,w3⟩
 rcases ai i n σ3 H3 w3 with⟨ah,qn⟩ | ⟨go,N,hN,step⟩
 ·refine IY hp (Gj (T.done X rfl rfl rfl hc i pins s3 σ3 H3 X.xe I3 (aa fr3) st3 ah) λr s4 ⟨hr,I4⟩=>?_);subst hr;exact JO ⟨σ3,H3,I4,qn⟩
 ·refine IY hp (Gj (T.item X rfl rfl rfl hc i pins s3 σ3 H3 X.xe I3 (aa fr3) st3 go) λr s4 ⟨u,hr,h4⟩=>?_);subst hr;refine IY hp (Gj h4 λ_ s5 ⟨x,H5,I5,r5,y5,st5,fr5⟩=>?_);have aj:=I5.pinned (aa fr5) (T.obj _ _ st5);refine IY hp (Gj (hg _ s5 σ3 H5 x u _ aj r5 (step x H5 y5)) λ_ s6 ⟨σ6,H6,I6,q6⟩=>?_);refine IY hp (Gj (hb _ s6 σ6 H6 _ I6 q6) λf s7 q7=>?_);have ab:∀ {σ7:St} {H7:Hp},Inv X (pins++lN fp s5.heap) σ7 H7 s7->N σ7 H7->∃m,m<n/\∃i σ' H',Inv X pins σ' H' s7/\tn i s7.heap/\(∀b∈fp,H' b=none)/\W i m σ' H':=λ{σ7 H7} I7 n7=>by
   obtain⟨m',hm,w7⟩:=hN σ7 H7 n7;refine⟨m',hm,i+1,σ7,H7,I7.unpinned,T.keep _ _ _ st5 λb hb o e=>(I7.pin (b,o) (G7 _ (G7 _ (dM hb e)))).1,λb hb=>?_,w7⟩;obtain⟨o,e,d⟩:=T.obj _ _ st5 b hb;exact(I7.pin (b,o) (G7 _ (G7 _ (dM hb e)))).2.1
  cases f with
  | next=>obtain⟨σ7,H7,I7,n7⟩:=q7;exact ab I7 n7
  | cont=>obtain⟨σ7,H7,I7,n7⟩:=q7;exact ab I7 n7
  | brk=>obtain⟨σ7,H7,I7,q7⟩:=q7;exact⟨σ7,H7,I7.unpinned,q7⟩
  | ret v=>obtain⟨x7,σ7,H7,I7,r7,q7⟩:=q7;exact⟨x7,σ7,H7,I7.unpinned,r7,q7⟩
end
theorem tY{lo:Int}{n:Nat}{g:TG}{tb:TS}{D:BB}{σ:St}{H:Hp}(Pv:Nat->St->Hp->Prop)(h0:Pv 0 σ H)
  (hs:∀i σ H,i<n->Pv i σ H->g (.int (lo+i)) σ H λσ2 H2=>tb { D with nx:=Pv (i+1),ct:=Pv (i+1),bk:=D.nx } σ2 H2) (hd:∀σ H,Pv n σ H->D.nx σ H) :
  ∃W:Nat->Nat->St->Hp->Prop,(∃m,W 0 m σ H)/\∀i m σ H,W i m σ H ->
   ((Itr lo n).stop i H/\D.nx σ H)\/((Itr lo n).go i H/\∃N:St->Hp->Prop,(∀σ' H',N σ' H'->∃m',m'<m/\W (i+1) m' σ' H')/\∀x H',(Itr lo n).yld i H x H'->g x σ H' λσ2 H2=>tb { D with nx:=N,ct:=N,bk:=D.nx } σ2 H2):=by
 refine⟨λi m σ H=>m=n-i/\i<=n/\Pv i σ H,⟨n,by simp,Ir _,h0⟩,?_⟩;rintro i m σ H ⟨rfl,hi,p⟩
 by_cases hlt:i<n
 ·refine .inr ⟨hlt,Pv (i+1),λσ' H' p'=>⟨n-(i+1),by omega,rfl,hlt,p'⟩,λx H' y=>?_⟩;obtain⟨e,y⟩:=y;subst e y;exact hs i σ _ hlt p
 ·have e:i=n:=by omega
  subst e;exact .inl ⟨GU _,hd σ H p⟩
abbrev R2:=V->V->Hp->VK->Prop
def GC(X:Cx)(f:Value->Value->Sem Value)(r:R2):Prop :=
 ∀(pins:List (Addr×Obj)) (s:Shared) (σ:St) (H:Hp) (x y:V) (v u:Value) (Q:VK),Inv X pins σ H s->bB x v->bB y u->r x y H Q ->
  wpAny (model X.prog X.w) X.A (f v u) (EP X pins σ Q) X.xe s
def UnR(X:Cx)(f:Value->Sem Value)(r:V->Hp->VK->Prop):Prop :=
 ∀(pins:List (Addr×Obj)) (s:Shared) (σ:St) (H:Hp) (x:V) (v:Value) (Q:VK),Inv X pins σ H s->bB x v->r x H Q ->
  wpAny (model X.prog X.w) X.A (f v) (EP X pins σ Q) X.xe s
def cq(X:Cx)(f:Value)(r:Zg->Hp->VK->Prop):Prop :=
 ∀(pins:List (Addr×Obj)) (s:Shared) (σ:St) (H:Hp) (xs:Zg) (us:Zc) (Q:VK),Inv X pins σ H s->bF xs us->r xs H Q ->
  wpAny (model X.prog X.w) X.A (call f us) (EP X pins σ Q) X.xe s
def tOp(r:R2)(ta tb:TE):TE:=λσ H Q=>ta σ H λx H1=>tb σ H1 λy H2=>r x y H2 Q
def tUn(r:V->Hp->VK->Prop)(ta:TE):TE:=λσ H Q=>ta σ H λx H1=>r x H1 Q
def rI(C:Int->Int->Prop)(g:Int->Int->V):R2:=λx y H Q=>∃i j,x=.int i/\y=.int j/\C i j/\Q (g i j) H
def rI0(g:Int->Int->V):R2:=λx y H Q=>∃i j,x=.int i/\y=.int j/\Q (g i j) H
def rU(g:Int->V):V->Hp->VK->Prop:=λx H Q=>∃i,x=.int i/\Q (g i) H
section
theorem binT{X:Cx}(ha:PE X a ta)(hb:PE X b tb){H:Hp}{R:V->V->Hp->Prop}(I:Inv X pins σ H s)
  (h:ta σ H λx H1=>tb σ H1 λy H2=>R x y H2) {Q:Value->Shared->Prop} {f:Value->Value->Sem Value}
  (hf:∀v u s2 x y H2,Inv X pins σ H2 s2->bB x v->bB y u->R x y H2->wpAny (model X.prog X.w) X.A (f v u) Q X.xe s2) :
  wpAny (model X.prog X.w) X.A (eval a X.env) (λv s₁=>wpAny (model X.prog X.w) X.A (eval b X.env) (λu s₂=>wpAny (model X.prog X.w) X.A (f v u) Q X.xe s₂) X.xe s₁) X.xe s:=by
 refine Gj (ha pins s σ H _ I h) λv s1 ⟨x,H1,I1,r1,q1⟩=>?_;refine Gj (hb pins s1 σ H1 _ I1 q1) λu s2 ⟨y,H2,I2,r2,q2⟩=>?_;exact hf v u s2 x y H2 I2 r1 r2 q2
theorem Ga(ho:GC X (binaryOp op) r)(ha:PE X a ta)(hb:PE X b tb):PE X (.BinOp a op b pos) (tOp r ta tb):=by
 intro pins s σ H Q I h;exact wpAny_BinOp (binT ha hb I h λv u s2 x y H2 I2 rx ry q=>ho pins s2 σ H2 x y v u Q I2 rx ry q)
theorem Fj(ho:UnR X (unaryOp op) r)(ha:PE X a ta):PE X (.UnaryOp op a pos) (tUn r ta):=by
 intro pins s σ H Q I h;exact UnaryOp_ (Gj (ha pins s σ H _ I h) λv s1 ⟨x,H1,I1,r1,q1⟩=>ho pins s1 σ H1 x v Q I1 r1 q1)
theorem opI{X:Cx}{f:Value->Value->Sem Value}{C:Int->Int->Prop}{g:Int->Int->Int}
  (rule:∀(i j:Int) (t u:Tok) (s:Shared) (Q:Value->Shared->Prop) (E:Value->Shared->Prop),C i j->Q (.int (g i j) s.toks) { s with toks:=s.toks+1 }->wpAny (model X.prog X.w) X.A (f (.int i t) (.int j u)) Q E s) :
  GC X f (rI C λi j=>.int (g i j)):=by
 intro pins s σ H x y v u Q I rx ry h;obtain⟨i,j,rfl,rfl,hc,q⟩:=h;obtain⟨t,rfl⟩:=rx;obtain⟨t',rfl⟩:=ry;exact rule i j t t' s _ _ hc ⟨.int (g i j),H,I.tok _,⟨_,rfl⟩,q⟩
theorem vP{X:Cx}{f:Value->Value->Sem Value}{g:Int->Int->Int}
  (rule:∀(i j:Int) (t u:Tok) (s:Shared) (Q:Value->Shared->Prop) (E:Value->Shared->Prop),Q (.int (g i j) s.toks) { s with toks:=s.toks+1 }->wpAny (model X.prog X.w) X.A (f (.int i t) (.int j u)) Q E s) :
  GC X f (rI0 λi j=>.int (g i j)):=by
 intro pins s σ H x y v u Q I rx ry h;obtain⟨i,j,rfl,rfl,q⟩:=h;obtain⟨t,rfl⟩:=rx;obtain⟨t',rfl⟩:=ry;exact rule i j t t' s _ _ ⟨.int (g i j),H,I.tok _,⟨_,rfl⟩,q⟩
theorem opB0{X:Cx}{f:Value->Value->Sem Value}{g:Int->Int->Bool}
  (rule:∀(i j:Int) (t u:Tok) (s:Shared) (Q:Value->Shared->Prop) (E:Value->Shared->Prop),Q (.bool (g i j)) s->wpAny (model X.prog X.w) X.A (f (.int i t) (.int j u)) Q E s) :
  GC X f (rI0 λi j=>.bl (g i j)):=by
 intro pins s σ H x y v u Q I rx ry h;obtain⟨i,j,rfl,rfl,q⟩:=h;obtain⟨t,rfl⟩:=rx;obtain⟨t',rfl⟩:=ry;exact rule i j t t' s _ _ ⟨.bl (g i j),H,I,rfl,q⟩
def CPow(i j:Int):Prop:=0<=j/\j<=1000000/\i.natAbs<2 ^ 64
def CMul(i j:Int):Prop:=(-(2 ^ 64)<i/\i<2 ^ 64)\/(-(2 ^ 64)<j/\j<2 ^ 64)
theorem CMul.ok(h:CMul i j):IntMulOk i j:=by
 rcases h with⟨h1,h2⟩ | ⟨h1,h2⟩
 ·exact .of_left (intBits_le_64 h1 h2)
 ·exact .of_right (intBits_le_64 h1 h2)
theorem D6:GC X (binaryOp .Add) (rI0 λi j=>.int (i+j)):=vP λ_ _ _ _ _ _ _ q=>add_int q
theorem Ch:GC X (binaryOp .Sub) (rI0 λi j=>.int (i-j)):=vP λ_ _ _ _ _ _ _ q=>sub_int q
theorem zr:GC X (binaryOp .Mod) (rI (λ_ j=>j≠0) λi j=>.int (i.fmod j)):=opI λ_ _ _ _ _ _ _ hc q=>mod_int' hc q
theorem BI:GC X (binaryOp .LShift) (rI CPow λi j=>.int (i*2 ^ j.toNat)):=opI λ_ _ _ _ _ _ _ hc q=>lshift_int_small hc.1 hc.2.1 hc.2.2 q
theorem unI{X:Cx}{f:Value->Sem Value}{g:Int->Int}
  (rule:∀(i:Int) (t:Tok) (s:Shared) (Q:Value->Shared->Prop) (E:Value->Shared->Prop),Q (.int (g i) s.toks) { s with toks:=s.toks+1 }->wpAny (model X.prog X.w) X.A (f (.int i t)) Q E s) :
  UnR X f (rU λi=>.int (g i)):=by
 intro pins s σ H x v Q I rx h;obtain⟨i,rfl,q⟩:=h;obtain⟨t,rfl⟩:=rx;exact rule i t s _ _ ⟨.int (g i),H,I.tok _,⟨_,rfl⟩,q⟩
theorem Df:UnR X (unaryOp .USub) (rU λi=>.int (-i)):=unI λ_ _ _ _ _ q=>neg_int q
end
def scal:V->V->Bool
 | .non,.non=>true | .non,.int _=>true | .int _,.non=>true | .non,.bl _=>true | .bl _,.non=>true | .non,.str _=>true | .str _,.non=>true
 | .int _,.int _=>true | .bl _,.bl _=>true | .str _,.str _=>true | .byt _,.byt _=>true
 | .int _,.str _=>true | .str _,.int _=>true | .bl _,.str _=>true | .str _,.bl _=>true
 | _,_=>false
def rEq:R2:=λx y H Q=>scal x y=true/\Q (.bl (decide (x=y))) H
def rNe:R2:=λx y H Q=>scal x y=true/\Q (.bl (!decide (x=y))) H
theorem nI:decide (V.int i=V.int j)=(i==j):=by
 rw[JP];simp
theorem sJ:decide (V.bl i=V.bl j)=(i==j):=by
 rw[JP];simp
theorem nY:decide (V.str i=V.str j)=(i==j):=by
 rw[JP];simp
theorem tI:decide (V.byt i=V.byt j)=(i.toList==j.toList):=by
 rw[JP]
 cases i
 cases j
 simp
section
theorem aS(I:Inv X pins σ H s)(q:Q (.bl k) H)(e:k=k'):EP X pins σ Q (.bool k') s:=by
 subst e;exact⟨.bl k,H,I,rfl,q⟩
theorem yV:GC X (compareOp .Eq) rEq:=by
 intro pins s σ H x y v u Q I rx ry h;obtain⟨hs,q⟩:=h
 cases x with
 | non =>
  cases rx
  cases y with
  | non=>cases ry;exact PySem.EqNone.eq_none_none (aS I q (by simp))
  | bl j=>cases ry;exact PySem.EqNone.eq_none_bool (aS I q (by simp))
  | int j=>obtain⟨t',rfl⟩:=ry;exact PySem.EqNone.eq_none_int (aS I q (by simp))
  | str j=>obtain⟨t',rfl⟩:=ry;exact PySem.EqNone.eq_none_str (aS I q (by simp))
  | _=>exact absurd (show false=true from hs) GW
 | bl i =>
  cases rx
  cases y with
  | non=>cases ry;exact PySem.EqNone.eq_bool_none (aS I q (by simp))
  | bl j=>cases ry;exact eq_bool (aS I q sJ)
  | str j=>obtain⟨t',rfl⟩:=ry;exact PySem.EqMixed.eq_bool_str (aS I q (by simp))
  | _=>exact absurd (show false=true from hs) GW
 | int i =>
  obtain⟨t,rfl⟩:=rx
  cases y with
  | non=>cases ry;exact PySem.EqNone.eq_int_none (aS I q (by simp))
  | int j=>obtain⟨t',rfl⟩:=ry;exact eq_int (aS I q nI)
  | str j=>obtain⟨t',rfl⟩:=ry;exact PySem.EqMixed.eq_int_str (aS I q (by simp))
  | _=>exact absurd (show false=true from hs) GW
 | str i =>
  obtain⟨t,rfl⟩:=rx
  cases y with
  | non=>cases ry;exact PySem.EqNone.eq_str_none (aS I q (by simp))
  | bl j=>cases ry;exact PySem.EqMixed.eq_str_bool (aS I q (by simp))
  | int j=>obtain⟨t',rfl⟩:=ry;exact PySem.EqMixed.eq_str_int (aS I q (by simp))
  | str j=>obtain⟨t',rfl⟩:=ry;exact eq_str (aS I q nY)
  | _=>exact absurd (show false=true from hs) GW
 | byt i =>
  obtain⟨t,rfl⟩:=rx
  cases y with
  | byt j=>obtain⟨t',rfl⟩:=ry;exact PySem.W.eq_bytes (aS I q tI)
  | _=>exact absurd (show false=true from hs) GW
 | _=>cases y<;>exact absurd (show false=true from hs) GW
theorem yM:GC X (compareOp .NotEq) rNe:=by
 intro pins s σ H x y v u Q I rx ry h;obtain⟨hs,q⟩:=h
 cases x with
 | non =>
  cases rx
  cases y with
  | non=>cases ry;exact PySem.EqNone.ne_none_none (aS I q (by simp))
  | bl j=>cases ry;exact PySem.EqNone.ne_none_bool (aS I q (by simp))
  | int j=>obtain⟨t',rfl⟩:=ry;exact PySem.EqNone.ne_none_int (aS I q (by simp))
  | str j=>obtain⟨t',rfl⟩:=ry;exact PySem.EqNone.ne_none_str (aS I q (by simp))
  | _=>exact absurd (show false=true from hs) GW
 | bl i =>
  cases rx
  cases y with
  | non=>cases ry;exact PySem.EqNone.ne_bool_none (aS I q (by simp))
  | bl j=>cases ry;exact ne_bool (aS I q (Ji not sJ))
  | str j=>obtain⟨t',rfl⟩:=ry;exact PySem.EqMixed.ne_bool_str (aS I q (by simp))
  | _=>exact absurd (show false=true from hs) GW
 | int i =>
  obtain⟨t,rfl⟩:=rx
  cases y with
  | non=>cases ry;exact PySem.EqNone.ne_int_none (aS I q (by simp))
  | int j=>obtain⟨t',rfl⟩:=ry;exact ne_int (aS I q (Ji not nI))
  | str j=>obtain⟨t',rfl⟩:=ry;exact PySem.EqMixed.ne_int_str (aS I q (by simp))
  | _=>exact absurd (show false=true from hs) GW
 | str i =>
  obtain⟨t,rfl⟩:=rx
  cases y with
  | non=>cases ry;exact PySem.EqNone.ne_str_none (aS I q (by simp))
  | bl j=>cases ry;exact PySem.EqMixed.ne_str_bool (aS I q (by simp))
  | int j=>obtain⟨t',rfl⟩:=ry;exact PySem.EqMixed.ne_str_int (aS I q (by simp))
  | str j=>obtain⟨t',rfl⟩:=ry;exact ne_str (aS I q (Ji not nY))
  | _=>exact absurd (show false=true from hs) GW
 | byt i =>
  obtain⟨t,rfl⟩:=rx
  cases y with
  | byt j=>obtain⟨t',rfl⟩:=ry;exact PySem.W.ne_bytes (aS I q (Ji not tI))
  | _=>exact absurd (show false=true from hs) GW
 | _=>cases y<;>exact absurd (show false=true from hs) GW
theorem Ff:GC X (compareOp .Lt) (rI0 λi j=>.bl (decide (i<j))):=opB0 λ_ _ _ _ _ _ _ q=>lt_int q
theorem Fh:GC X (compareOp .LtE) (rI0 λi j=>.bl (decide (i<=j))):=opB0 λ_ _ _ _ _ _ _ q=>le_int q
theorem EF:GC X (compareOp .Gt) (rI0 λi j=>.bl (decide (j<i))):=opB0 λ_ _ _ _ _ _ _ q=>gt_int q
theorem Fc:GC X (compareOp .GtE) (rI0 λi j=>.bl (decide (j<=i))):=opB0 λ_ _ _ _ _ _ _ q=>ge_int q
theorem D9:GC X (compareOp .Is) (λx y H Q=>y=.non/\Q (.bl (decide (x=.non))) H):=by
 intro pins s σ H x y v u Q I rx ry h;obtain⟨rfl,q⟩:=h
 cases ry
 refine is_none_gen (aS I q ?_)
 cases x<;>first
  | (cases rx;rfl)
  | (obtain⟨t,rfl⟩:=rx;rfl)
theorem GC.or(h:GC X f r)(h':GC X f r'):GC X f (λx y H Q=>r x y H Q\/r' x y H Q):=by
 intro pins s σ H x y v u Q I rx ry q
 rcases q with q | q
 ·exact h pins s σ H x y v u Q I rx ry q
 ·exact h' pins s σ H x y v u Q I rx ry q
theorem aB(b:Expr)(h:op≠.In:=by decide)(h2:op≠.NotIn:=by decide):behindInMarks op b=false:=by
 have e1:(op==CmpOp.In)=false:=by cases op<;>first | rfl | exact absurd rfl h
 have e2:(op==CmpOp.NotIn)=false:=by cases op<;>first | rfl | exact absurd rfl h2
 cases b<;>simp[behindInMarks,e1,e2]
theorem zS(ho:GC X (compareOp op) r)(ha:PE X a ta)(hb:PE X b tb)(hm:behindInMarks op b=false):PE X (.Compare a [op] [b] pos) (tOp r ta tb):=by
 intro pins s σ H Q I h;exact wpAny_Compare1 (binT ha hb I h λv u s2 x y H2 I2 rx ry q=>ho pins s2 σ H2 x y v u Q I2 rx ry q) hm
def Ft(t:TE):TT:=λσ H Q=>t σ H λx H'=>∃k,x=.bl k/\Q k H'
theorem zc(ho:GC X (compareOp op) r)(ha:PE X a ta)(hb:PE X b tb)(hm:behindInMarks op b=false):PT X (.Compare a [op] [b] pos) (Ft (tOp r ta tb)):=by
 intro pins s σ H Q I h
 refine wpAny_isTrue_Compare1 (Gj (ha pins s σ H _ I h) λv s1 ⟨x,H1,I1,r1,q1⟩=>Gj (hb pins s1 σ H1 _ I1 q1) λu s2 ⟨y,H2,I2,r2,q2⟩ =>
  Gj (ho pins s2 σ H2 x y v u _ I2 r1 r2 q2) λc s3 ⟨z,H3,I3,r3,k,e,q3⟩=>?_) hm
 subst e
 cases r3
 exact IJ ⟨H3,I3,q3⟩
theorem qe:(sizeLine:Nat)<2 ^ 63:=by rw[sizeLine_eq];decide
theorem gH(r:bF [x] us):∃u,us=[u]/\bB x u:=by
 cases r with
 | cons r1 r2=>cases r2;exact⟨_,rfl,r1⟩
theorem we(r:bF [x,y] us):∃u w',us=[u,w']/\bB x u/\bB y w':=by
 cases r with
 | cons r1 r2 =>
  cases r2 with
  | cons r3 r4=>cases r4;exact⟨_,_,rfl,r1,r3⟩
theorem vT:cq X (.builtin "abs") (λxs H Q=>∃i,xs=[.int i]/\Q (.int (if i<0 then -i else i)) H):=by
 intro pins s σ H xs us Q I r h;obtain⟨i,rfl,q⟩:=h;obtain⟨u,rfl,t,rfl⟩:=gH r;exact call_abs_int λu tk=>⟨.int (if i<0 then -i else i),H,I.tok _,⟨_,rfl⟩,q⟩
theorem tR(hc:X.calm=true):cq X (.builtin "max") (λxs H Q=>∃i j,xs=[.int i,.int j]/\Q (.int (if j>i then j else i)) H):=by
 intro pins s σ H xs us Q I r h;obtain⟨i,j,rfl,q⟩:=h;obtain⟨u,w',rfl,⟨t,rfl⟩,⟨t',rfl⟩⟩:=we r;refine max_two_ints (I.ok.hd hc) λh' tk k=>⟨_,H,I.kept k,?_,q⟩
 by_cases hj:j>i
 ·rw[Hc hj,Hc hj];exact⟨_,rfl⟩
 ·rw[Ha hj,Ha hj];exact⟨_,rfl⟩
end
theorem u6{h:Heap}{mA:Str->Zd}(n:h.Ns1 dx mA):∃od,h.get? dx=some od/\∀name,PySem.W.lookIn name od=some (mA name):=by
 obtain⟨o,es,ep,ho,hd,hk,_,hm⟩:=n;refine⟨o,ho,λname=>?_⟩;have e:=hm name;unfold nsFind findBy at e;rw[<- Array.find?_toList] at e;unfold PySem.W.lookIn;rw[hd]
 dsimp only
 split
 ·rename_i y q
  rw[q] at e;exact Ji some e
 ·rename_i q
  rw[q] at e;have a:es.toList.any (·.refKey)=false:=by
   rw[List.any_eq_false];intro y hy;obtain⟨z,t,aa⟩:=hk y (Array.mem_toList_iff.mp hy);simp[DictEntry.refKey,aa]
  have a':¬ es.toList.any (·.refKey)=true:=by rw[a];exact GW
  rw[Ha a'];exact Ji some e
section
end
theorem px.some_of(r:px (some v) o):∃u,o=some u/\bB v u:=by
 cases o with
 | none=>exact(show False from r).elim
 | some u=>exact⟨u,rfl,r⟩
theorem uG(r:bB v u):PySem.W.handedIn u=true:=by
 cases v with
 | non=>cases (show u=Value.none from r);rfl
 | bl b=>cases (show u=Value.bool b from r);rfl
 | int i=>obtain⟨t,e⟩:=(show ∃t,u=Value.int i t from r);cases e;rfl
 | str x=>obtain⟨t,e⟩:=(show ∃t,u=Value.str x t from r);cases e;rfl
 | byt b=>obtain⟨t,e⟩:=(show ∃t,u=Value.bytes b t from r);cases e;rfl
 | flt b=>obtain⟨t,e⟩:=(show ∃t,u=Value.float b t from r);cases e;rfl
 | ref a=>cases (show u=Value.ref a from r);rfl
 | ty n=>cases (show u=Value.type n from r);rfl
section
end
structure Cls(K:Zf)(C:Addr):Prop where
 pg:PySem.W.plainGet K C Str.empty=true
 hd:PySem.W.hasDictIn K C=true
 po:PySem.W.plainOver K C=true
 sa:PySem.W.findIn K (.ref C) "__setattr__"=some (some (.builtin "object.__setattr__"))
theorem Cls.get{K:Zf}(c:Cls K C)(f:Str):PySem.W.plainGet K C f=true:=c.pg
section
theorem AK(hb:attributeBase e f env (eval e env)=eval e env)
  (h:wpAny (model prog w) A (eval e env) (λo s₁=>wpAny (model prog w) A (getAttr o f true) Q E s₁) E s):wpAny (model prog w) A (eval (.Attribute e f pos) env) Q E s :=
 Attribute_any_ h (by rw[arm_eval_Attribute,hb])
end
section
end
section
end
end L2
namespace L2
open PySem PySem.Spec PyProof.Rows
structure cK(k:Nat)(A:Around):Prop where
 hd:A.handled=none
 dp:A.depth+3*k+5<recursionLimit
 un:A.units+16*k+200<cLine
theorem cK.mono(r:cK k A)(h:j<=k):cK j A:=⟨r.hd,by have:=r.dp;omega,by have:=r.un;omega⟩
theorem cK.deeper(r:cK (k+1) A)(env:Env):cK k (A.deeper env) :=
 ⟨r.hd,by have:=r.dp;show A.depth+1+3*k+5<_;omega,by have:=r.un;show A.units+3+16*k+200<_;omega⟩
theorem rF{A:Around}{C:Addr}{us:Zc}{kw:List (Str×Value)}:(A.under (.builtin "type.__call__" ⟨.ref C::us,kw⟩)).depth=A.depth+1:=by
 first | rfl | simp[Around.under,Code.weight,Code.isCreation,Code.isGuard,Code.isCaller,Code.frames,Code.isFrame,guardIds]
theorem rT{A:Around}{C:Addr}{us:Zc}{kw:List (Str×Value)}:(A.under (.builtin "type.__call__" ⟨.ref C::us,kw⟩)).units=A.units+1:=by
 first | rfl | simp[Around.under,Code.cUnits,Code.frames,Code.isFrame]
theorem cK.make(r:cK (k+1) A)(C:Addr)(us:Zc)(kw:List (Str×Value)):cK k (A.under (.builtin "type.__call__" ⟨.ref C::us,kw⟩)) :=
 ⟨r.hd,by have:=r.dp;rw[rF];omega,by have:=r.un;rw[rT];omega⟩
theorem cK.depth(r:cK k A):A.depth<recursionLimit:=by have:=r.dp;omega
theorem cK.units(r:cK k A):A.units+64<cLine:=by have:=r.un;omega
def tNil:TA:=λ_ H Q=>Q [] H
def tL(ta:TE)(tr:TA):TA:=λσ H Q=>ta σ H λx H1=>tr σ H1 λxs H2=>Q (x::xs) H2
section
variable {X:Cx} {e:Expr} {es:List Expr} {te:TE} {t:TA} {pos:Pos}
theorem ci:PA X [] tNil:=λ_ _ _ _ H Q I h=>J1 ⟨[],H,I,.nil,h⟩
theorem aM(ha:PE X e te)(hr:PA X es t)(hs:starEach (e::es) X.env=(false,eval e X.env)::starEach es X.env:=by rfl):PA X (e::es) (tL te t):=by
 intro pos pins s σ H Q I h;rw[hs];show wpAny _ _ (spliced ((false,eval e X.env)::backTo pos (starEach es X.env))) _ _ s;refine Jj (Gj (ha pins s σ H _ I h) λu s1 ⟨x,H1,I1,r1,q1⟩=>?_);exact Gj (hr pos pins s1 σ H1 _ I1 q1) λus s2 ⟨xs,H2,I2,r2,q2⟩=>⟨x::xs,H2,I2,.cons r1 r2,q2⟩
def tTup(t:TA):TE:=λσ H Q=>t σ H λxs H1=>xs.length<=sizeLine/\∀p,H1 p=none->Q (.ref p) (GE H1 p (.tup xs))
def tLst(t:TA):TE:=λσ H Q=>t σ H λxs H1=>xs.length<=sizeLine/\∀p,H1 p=none->Q (.ref p) (GE H1 p (.lst xs))
theorem B9{x1}(h:PA X es t):PE X (.Tuple es x1 pos) (tTup t):=by
 intro pins s σ H Q I hq;refine wpAny_Tuple_spliced (Gj (h pos pins s σ H _ I hq) λus s1 ⟨xs,H1,I1,r,z,q⟩=>⟨by rw[<- r.length];exact z,?_⟩);have hf:H1 s1.heap.objs.size=none:=I1.hok.fresh (GU _);refine⟨.ref s1.heap.objs.size,GE H1 s1.heap.objs.size (.tup xs),I1.laid (t':=s1.toks) (λb u e=>GO _ e) (GU _) ?_,rfl,q _ hf⟩;exact⟨z,us,r,⟨_,G5 _ rfl,rfl,_,rfl⟩⟩
theorem vi(h:PA X es t):PE X (.List es pos) (tLst t):=by
 intro pins s σ H Q I hq;refine wpAny_List_spliced (Gj (h pos pins s σ H _ I hq) λus s1 ⟨xs,H1,I1,r,z,q⟩=>⟨by rw[<- r.length];exact z,?_⟩);have hf:H1 s1.heap.objs.size=none:=I1.hok.fresh (GU _);refine⟨.ref s1.heap.objs.size,GE H1 s1.heap.objs.size (.lst xs),I1.laid (t':=s1.toks) (λb u e=>GO _ e) (GU _) ?_,rfl,q _ hf⟩;exact⟨z,us,0,r,G5 _ rfl⟩
end
abbrev Sp:=List V->Hp->VK->XK->Prop
abbrev CXT:=List Env->Hp->Shared->XK->Value->Shared->Prop
structure AU(P:Program)(w:World)(K:Zf)(mg:Str->Zd)(base:Heap)(A:Around)(outer:List Env)(s:Shared)(H:Hp):Prop where
 frames:A.frames=some outer
 mod:Mod K mg base
 bs:∀b o,base.get? b=some o->s.heap.get? b=some o/\H b=none
 bsz:base.objs.size<=s.heap.objs.size
 funs:s.heap.FunFrames base outer
 frf:∀b∈frs outer,H b=none
 hok:Gk P w H s.heap
 bare:AllBare s.gens
def CE(outer:List Env)(P:Program)(w:World)(H:Hp)(s:Shared)(Q:VK)(u:Value)(s':Shared):Prop :=
 ∃v H',s'.os=s.os/\AllBare s'.gens/\Un (frs outer) [] H H' s.heap s'.heap/\Gk P w H' s'.heap/\bB v u/\Q v H'
def CR(CX:CXT)(outer:List Env)(P:Program)(w:World)(H:Hp)(s:Shared)(Q:VK)(E:XK)(r:Result)(s':Shared):Prop :=
 match r with
 | .ok (.ret u)=>CE outer P w H s Q u s'
 | .ok _=>False
 | .error e=>CX outer H s E e s'
structure fG(P:Program)(w:World)(K:Zf)(mg:Str->Zd)(base:Heap)(CX:CXT)(k:Nat)(f:Addr)(fd:FuncData)(ps:Zb)(sp:Sp):Prop where
 len:∀vs H Q E,sp vs H Q E->vs.length=ps.length
 run:∀(A:Around) (outer:List Env) (s:Shared) (H:Hp) (args:Args) (us:Zc) (vs:Zg) (Q:VK) (E:XK),cK k A->AU P w K mg base A outer s H->BindsTo s fd args (ps.zip us)->bF vs us->sp vs H Q E ->
  codeAny (model P w) A (.call (.ref f) args) (CR CX outer P w H s Q E) s
theorem fG.mono{w:World}{K:Zf}{mg:Str->Zd}(F:fG P w K mg base CX j f fd ps sp)(h:j<=k) :
  fG P w K mg base CX k f fd ps sp:=⟨F.len,λA outer s H args us vs Q E hr=>F.run A outer s H args us vs Q E (hr.mono h)⟩
theorem fG.imp{w:World}{K:Zf}{mg:Str->Zd}(F:fG P w K mg base CX k f fd ps sp)
  (h:∀vs H Q E,sp' vs H Q E->sp vs H Q E):fG P w K mg base CX k f fd ps sp' :=
 ⟨λvs H Q E q=>F.len vs H Q E (h _ _ _ _ q),λA outer s H args us vs Q E hr he hb hv hs=>F.run A outer s H args us vs Q E hr he hb hv (h _ _ _ _ hs)⟩
theorem AU.make{P:Program}{w:World}{K:Zf}{mg:Str->Zd}{base:Heap}{A:Around}{outer:List Env}{s:Shared}{H:Hp}(e:AU P w K mg base A outer s H)(C:Addr)(us:Zc)(kw:List (Str×Value)) :
  AU P w K mg base (A.under (.builtin "type.__call__" ⟨.ref C::us,kw⟩)) outer s H:=⟨by first | exact e.frames | (simpa [Around.under,Code.envs,Code.isFrame,pushEnvs] using e.frames),e.mod,e.bs,e.bsz,e.funs,e.frf,e.hok,e.bare⟩
section
theorem Inv.env0(I:Inv X pins σ H s):AU X.prog X.w X.K X.mg X.base X.A X.stack s H :=
 ⟨I.ok.frames,I.ok.mod,I.bs,GS I.ok.bsz I.sz,I.stack,I.stkFree,I.hok,I.bare⟩
theorem Inv.after(I:Inv X pins σ H s)(h:CE X.stack X.prog X.w H s Q u s'):EP X pins σ Q u s':=by
 obtain⟨v,H',os,aa,un,hok,r,q⟩:=h;obtain⟨hh,g,d,t,ab⟩:=s';obtain rfl:ab=s.os:=os;exact⟨v,H',I.call (h':=hh) (g':=g) (d':=d) (t':=t) (ch:=[]) un hok aa (λb z=>absurd z (by simp)),r,q⟩
end
def Aw(sp:Sp)(dvs:Zg)(E:XK)(t:TA):TE:=λσ H Q=>t σ H λvs H1=>sp (vs++dvs) H1 Q E
def eC(K:Zf)(fd:FuncData)(ps:Zb)(ds:Zc):Prop :=
 ∀(s:Shared) (us:Zc),K.In s.heap->(us++ds).length=ps.length->BindsTo s fd ⟨us,[]⟩ (ps.zip (us++ds))
theorem eC.all{K:Zf}{ps:Zb}(h:∀us:Zc,us.length=ps.length->bindArgs fd ⟨us,[]⟩=pure (ps.zip us)):eC K fd ps []:=λs us _ hl=>by
 rw[HM] at hl ⊢;exact .of_eq (h us hl)
def pV(CX:CXT)(X:Cx)(E:XK):Prop:=∀(pins:List (Addr×Obj)) (σ:St) (H:Hp) (s:Shared) (e:Value) (s':Shared),Inv X pins σ H s->CX X.stack H s E e s'->X.xe e s'
section
theorem Dz(F:fG X.prog X.w X.K X.mg X.base CX k f fd ps sp)(hr:cK k X.A)(hb:eC X.K fd ps ds)(hd:bF dvs ds)(hx:pV CX X E)
  (I:Inv X pins σ H s) (r:bF vs us) (h:sp (vs++dvs) H Q E):wpAny (model X.prog X.w) X.A (call (.ref f) us) (EP X pins σ Q) X.xe s:=by
 have r2:bF (vs++dvs) (us++ds):=r.append hd
 have hl:(us++ds).length=ps.length:=by rw[<- r2.length];exact F.len _ _ _ _ h
 refine Kr (Jn (F.run X.A X.stack s H ⟨us,[]⟩ (us++ds) (vs++dvs) Q E hr I.env0 (hb s us I.kIn hl) r2 h) λr s' hq=>?_)
 cases r with
 | error e=>exact hx pins σ H s e s' I hq
 | ok fl =>
  cases fl with
  | ret u=>exact I.after hq
  | next=>exact False.elim hq
  | brk=>exact False.elim hq
  | cont=>exact False.elim hq
theorem ko(F:fG X.prog X.w X.K X.mg X.base CX k f fd ps sp)(hr:cK k X.A)(hg:Gl X x)(hm:X.mg x=some (.ref f))(hk:PySem.W.keepIn X.K (.ref f)=true)(hb:eC X.K fd ps ds)(hd:bF dvs ds)(hx:pV CX X E)
  (ha:PA X (e::es) t) (hdb:(x==("__debug__":Str))=false:=by decide) (he:starEach (e::es) X.env=(false,eval e X.env)::starEach es X.env:=by rfl) (hpl:(backTo pos (starEach es X.env)).any (·.1)=false:=by rfl) :
  PE X (.Call (.Name x p) (e::es) [] pos) (Aw sp dvs E t):=by
 intro pins s σ H Q I h;refine IE (fY I hg hm ?_ hdb);refine PySem.W.callWith_K (h₀:=X.base) I.ok.mod.kin hk (Gj (ha pos pins s σ H _ I h) λus s1 ⟨vs,H1,I1,r,q⟩=>⟨I1.kIn,?_⟩) he hpl;exact Dz F hr hb hd hx I1 r q
end
section
end
structure ay(N P:Zb)(sc:Scope):Prop where
 kind:sc.kind=.function
 co:sc.isCoroutine=false
 gen:sc.isGenerator=false
 nd:N.Nodup
 pre:N.take P.length=P
 par:∀x∈P,sc.names.lookup x=some .local\/sc.names.lookup x=some .cell
 nofree:∀y∈sc.names,y.2≠.free
theorem mL{kindOf:Str->Option NameKind}:∀ {binds:List (Str×Value)} {m:Str->Zd},(∀v,(x,v)∉binds)->bindL kindOf binds m x=m x
 | [],_,_=>rfl
 | (n,v)::r,m,h=>by
  unfold bindL;rw[mL λw hw=>h w (GP _ hw)]
  split
  ·have:x≠n:=by rintro rfl;exact h v GT
   simp[this]
  ·rfl
theorem mj{kindOf:Str->Option NameKind}:∀ {binds:List (Str×Value)} {m:Str->Zd},(∀v,(x,v)∉binds)->bindC kindOf binds m x=m x
 | [],_,_=>rfl
 | (n,v)::r,m,h=>by
  unfold bindC;rw[mj λw hw=>h w (GP _ hw)]
  split
  ·rfl
  ·have:x≠n:=by rintro rfl;exact h v GT
   simp[this]
theorem lQ{kindOf:Str->Option NameKind}:∀ {P:Zb} {vs:Zc} {i:Nat} {m:Str->Zd},P.Nodup->P[i]?=some x->vs[i]?=some v->kindOf x=some .local ->
  bindL kindOf (P.zip vs) m x=some v
 | [],_,_,_,_,h,_,_=>by simp at h
 | _::_,[],_,_,_,_,h,_=>by simp at h
 | p::P,w::vs,0,m,nd,h1,h2,hk=>by
  simp at h1 h2;subst h1;subst h2;show bindL kindOf ((p,w)::P.zip vs) m p=_;unfold bindL;rw[mL λv hv=>(Ib.mp nd).1 (HS hv).1,Hc hk];simp
 | p::P,w::vs,i+1,m,nd,h1,h2,hk=>by
  show bindL kindOf ((p,w)::P.zip vs) m x=_
  unfold bindL;exact lQ (i:=i) (Ib.mp nd).2 (by simpa using h1) (by simpa using h2) hk
theorem lI{kindOf:Str->Option NameKind}:∀ {P:Zb} {vs:Zc} {i:Nat} {m:Str->Zd},P.Nodup->P[i]?=some x->vs[i]?=some v->kindOf x≠some .local ->
  bindC kindOf (P.zip vs) m x=some v
 | [],_,_,_,_,h,_,_=>by simp at h
 | _::_,[],_,_,_,_,h,_=>by simp at h
 | p::P,w::vs,0,m,nd,h1,h2,hk=>by
  simp at h1 h2;subst h1;subst h2;show bindC kindOf ((p,w)::P.zip vs) m p=_;unfold bindC;rw[mj λv hv=>(Ib.mp nd).1 (HS hv).1,Ha hk];simp
 | p::P,w::vs,i+1,m,nd,h1,h2,hk=>by
  show bindC kindOf ((p,w)::P.zip vs) m x=_
  unfold bindC;exact lI (i:=i) (Ib.mp nd).2 (by simpa using h1) (by simpa using h2) hk
def start(N:Zb)(vs:Zg):St:=vs.map some++List.replicate (N.length-vs.length) none
def oK(CX:CXT)(P:Program)(w:World)(K:Zf)(mg:Str->Zd)(base:Heap)(N:Zb)(qual:Str)(scope:Scope)(f:Addr)(cd:Value)(A:Around)(outer:List Env)(s:Shared)(H:Hp)(E:XK):Cx where
 prog:=P
 w:=w
 K:=K
 mg:=mg
 base:=base
 A:=A.deeper (envOfC qual scope s.heap.objs.size f cd)
 N:=N
 s₀:=s
 H₀:=H
 env:=envOfC qual scope s.heap.objs.size f cd
 outer:=outer
 stack:=envOfC qual scope s.heap.objs.size f cd::outer
 ex:=[]
 calm:=true
 fn:=λ_=>true
 pn:=[]
 xe:=λe s'=>wpAny (model P w) (A.deeper (envOfC qual scope s.heap.objs.size f cd)) (leaving (envOfC qual scope s.heap.objs.size f cd) e) (λ_ s''=>CX outer H s E e s'') (λe' s''=>CX outer H s E e' s'') s'
theorem jX{sc:Scope}(h:sc.names.lookup x=some .cell):∃c,(cellsFrom n sc.names []).lookup x=some c:=by
 have q:=PySem.W.cellsFrom_some sc.names n [] (.inl h)
 exact Option.isSome_iff_exists.mp q
theorem sS{w:World}{K:Zf}{mg:Str->Zd}{ps:Zb}{scope:Scope}{A:Around}{s:Shared}{H:Hp}{E:XK}{vs:Zg}
  (S:ay N ps scope) (hd:A.handled=none) (e0:AU P w K mg base A outer s H) (hl:vs.length=ps.length) (r:bF vs us)
  (x:InCallC s s.heap.objs.size (bindL (envOfC qual scope s.heap.objs.size f cd).kindOf (ps.zip us) λ_=>none) (cellsFrom (s.heap.objs.size+1) scope.names []) (bindC (envOfC qual scope s.heap.objs.size f cd).kindOf (ps.zip us) λ_=>none) s1) :
  Inv (oK CX P w K mg base N qual scope f cd A outer s H E) [] (start N vs) H s1:=by
 have ah:ps.length<=N.length:=by have:=Ji List.length S.pre;rw[HP] at this;omega
 obtain⟨h1,tk,rfl,hk⟩:=x.done;have aa:∀b:Addr,b∉(oK CX P w K mg base N qual scope f cd A outer s H E).ex:=λb z=>absurd (show b∈([]:List Addr) from z) (by simp)
 refine⟨⟨e0.mod,S.kind,rfl,rfl,GU _,λy z c h1 h2=>?_,λy hy=>?_,λy c _ h=>?_,λ_=>hd,Around.frames_deeper e0.frames,.inr ⟨rfl,rfl⟩,λb z=>absurd z (aa b),e0.bs,e0.bsz,λb _ _=>aa b,λb z=>absurd z (aa b),e0.funs,e0.frf⟩,
  rfl,e0.bare,Un.kept hk,⟨_,x.toInCall.ns,λi y v h1 h2 h3=>?_⟩,λy c h=>⟨_,x.cell y c h⟩,e0.hok.fresh (GU _),λy c h=>?_,λp hp=>absurd (show p∈([]:List (Addr×Obj)) from hp) (by simp),e0.hok.kept hk,?_⟩
 ·exact name_of_addr x.apart (Ja h1) (Ja h2)
 ·have hy:scope.names.lookup y=some .cell\/scope.names.lookup y=some .free:=hy
  rcases hy with hy | hy
  ·exact jX hy
  ·exact absurd rfl (S.nofree _ (Ja hy))
 ·exact IH (x.above y c (Ja h))
 ·have hi:i<vs.length:=by
   unfold start at h2
   by_cases hi:i<vs.length
   ·exact hi
   ·rw[Hh (by simpa using hi)] at h2;rw[HI] at h2
    split at h2<;>cases h2
  have ha:vs[i]?=some v:=by
   unfold start at h2;rw[Hm (by simpa using hi),G6] at h2
   cases e:vs[i]? with
   | none=>rw[e] at h2;cases h2
   | some a=>rw[e] at h2;cases h2;rfl
  obtain⟨u,hu,rv⟩:=r.get ha;have hp:ps[i]?=some y:=by
   rw[<- S.pre,List.getElem?_take_of_lt (by omega)];exact h1
  have ab:ps.Nodup:=by rw[<- S.pre];exact S.nd.sublist (List.take_sublist _ _)
  refine⟨u,rv,?_⟩
  rcases S.par y (G9 hp) with k | k
  ·exact .inl ⟨k,lQ ab hp hu k⟩
  ·obtain⟨c,e⟩:=jX (n:=s.heap.objs.size+1) k;refine .inr ⟨.inl k,c,e,?_⟩;have q:=x.cell y c e;rw[lI ab hp hu (by show scope.names.lookup y≠_;rw[k];decide)] at q;exact q
 ·exact e0.hok.fresh (IH (x.above y c (Ja h)))
 ·unfold start;show _=N.length;rw[GV,GN,Hi];omega
theorem DJ{w:World}{K:Zf}{mg:Str->Zd}{kV:Value}
 {ps:Zb} (lk:K.lookup f=some ⟨oc,od,.func (PySem.W.fnOf name qual params body scope dV kV doc pm an cdv ct),osl⟩) (hcd:PySem.W.codeIn K cdv qual=true) (S:ay N ps scope)
    (len:∀vs H Q E,sp vs H Q E->vs.length=ps.length)
    (hbody:∀(A:Around) (outer:List Env) (s:Shared) (H:Hp) (vs:Zg) (Q:VK) (E:XK),cK k (A.deeper (envOfC qual scope s.heap.objs.size f cdv))->sp vs H Q E ->
      ∃t,PSs (oK CX P w K mg base N qual scope f cdv A outer s H E) body t/\t { nx:=λ_ H'=>Q .non H',rt:=Q } (start N vs) H) :
    fG P w K mg base CX (k+1) f (PySem.W.fnOf name qual params body scope dV kV doc pm an cdv ct) ps sp:=by
  refine⟨len,λA outer s H args us vs Q E hr e0 hb r hsp=>?_⟩;have hl:=len _ _ _ _ hsp;have KX:K.In s.heap:=e0.mod.kin.keeps λb o e=>(e0.bs b o e).1;have ah:s.heap.NoLimit:=e0.mod.nolimit.keeps λb o e=>(e0.bs b o e).1;have aa:∀y∈ps.zip us,scope.names.lookup y.1=some .local\/(scope.names.lookup y.1=some .cell/\((cellsFrom (s.heap.objs.size+1) scope.names []).lookup y.1).isSome=true):=λ⟨n,v⟩ hy=>by
    rcases S.par n (HS hy).1 with q | q
    · exact .inl q
    · exact .inr ⟨q,PySem.W.cellsFrom_some _ _ _ (.inl q)⟩
  refine codeAny_call_function hr.depth (KX _ _ lk) rfl S.co S.gen rfl (PySem.W.codeRec_of KX hcd) (hb _ _ _ _ ?_);refine wpAny_newFunctionEnv_cells S.kind aa λenv he s1 x=>?_;subst he;refine⟨ah.keeps x.toInCall.keep,codeAny_func ?_⟩;obtain⟨t,ht,hq⟩:=hbody A outer s H vs Q E (hr.deeper _) hsp;have I:Inv (oK CX P w K mg base N qual scope f cdv A outer s H E) [] (start N vs) H s1:=sS S hr.hd e0 hl r x;refine HX (ht [] s1 (start N vs) H _ I hq) (λfl s' hs=>?_) λe s' hs=>hs;have ab:∀ {σ':St} {H':Hp} {v:V} {u:Value},Inv (oK CX P w K mg base N qual scope f cdv A outer s H E) [] σ' H' s'->bB v u->Q v H'->CE outer P w H s Q u s' :=
    λ{σ' H' v u} J rv q=>⟨v,H',J.os,J.bare,J.base,J.hok,rv,q⟩
  cases fl with
  | ret u =>
    obtain⟨v,σ',H',J,rv,q⟩:=hs;exact ab J rv q
  | next =>
    obtain⟨σ',H',J,q⟩:=hs;exact ab (v:=V.non) (u:=Value.none) J rfl q
  | brk =>
    obtain⟨_,_,_,q⟩:=hs;exact False.elim q
  | cont =>
    obtain⟨_,_,_,q⟩:=hs;exact False.elim q
end L2
namespace L2
open PySem PySem.Spec PyProof.Rows
section
variable {X:Cx} {x:Str} {p pos:Pos} {e:Expr} {es:List Expr} {t:TA} {id T:String} {r:Zg→Hp→VK→Prop}
def tCB(r:Zg->Hp->VK->Prop)(t:TA):TE:=λσ H Q=>t σ H λvs H1=>r vs H1 Q
theorem eY(hc:cq X (.builtin id) r)(hg:Gl X x)(hm:X.mg x=none)(hv:bootBuiltins x=some (.builtin id))(ha:PA X (e::es) t)(hn:x≠"__name__":=by decide)(hdb:(x==("__debug__":Str))=false:=by decide)
  (he:starEach (e::es) X.env=(false,eval e X.env)::starEach es X.env:=by rfl) (hpl:(backTo pos (starEach es X.env)).any (·.1)=false:=by rfl):PE X (.Call (.Name x p) (e::es) [] pos) (tCB r t):=by
 intro pins s σ H Q I h;refine IE (eT I hg hm hv ?_ hn hdb);exact PyProof.Rows.callWith_builtin1 (Gj (ha pos pins s σ H _ I h) λus s1 ⟨vs,H1,I1,r1,q1⟩=>hc pins s1 σ H1 vs us Q I1 r1 q1) he hpl
theorem iB(hc:cq X (.type T) r)(hg:Gl X x)(hm:X.mg x=none)(hv:bootBuiltins x=some (.type T))(ha:PA X (e::es) t)(hn:x≠"__name__":=by decide)(hdb:(x==("__debug__":Str))=false:=by decide)
  (he:starEach (e::es) X.env=(false,eval e X.env)::starEach es X.env:=by rfl) (hpl:(backTo pos (starEach es X.env)).any (·.1)=false:=by rfl):PE X (.Call (.Name x p) (e::es) [] pos) (tCB r t):=by
 intro pins s σ H Q I h;refine IE (eT I hg hm hv ?_ hn hdb);exact Ii (Gj (ha pos pins s σ H _ I h) λus s1 ⟨vs,H1,I1,r1,q1⟩=>hc pins s1 σ H1 vs us Q I1 r1 q1) he hpl
end
end L2
namespace HT
open PySem PyProof.Rows
section
open PySem.SeqAt
open PySem.AutoSeq1 (wpAny_loadPart')
open PySem.MeetsSeq PySem.MeetsSeq2 PySem.MeetsSeq3
end
section
theorem cat_tup(ht:IsTup s.heap t vs.toArray)(hb:IsTup s.heap b ws.toArray)(hv:vs≠[])
  (h1:ws=[]->Q (.ref t) s) (h2:ws≠[]->Q (.ref s.heap.objs.size) { s with heap:=s.heap.push { cls:=.type "tuple",data:=.seq (vs++ws).toArray } })
  (hsz:vs.length+ws.length<=sizeLine):wpAny (model prog w) A (binaryOp .Add (.ref t) (.ref b)) Q E s:=by
 obtain⟨⟨cls,dd,data,sl⟩,ho,hc,n,hd⟩:=id ht;obtain⟨⟨an,aj,al,ah⟩,aa,ab,n2,ai⟩:=id hb;simp only at hc hd ab ai;subst hc hd ab ai;have e:vs.toArray++ws.toArray=(vs++ws).toArray:=by simp
 by_cases hw:ws=[]
 ·exact concat_meets ⟨_,ho,rfl⟩ ⟨_,aa,rfl⟩ noFill_tuple_add seq_tuple_add PySem.F.slot_tuple_add PySem.F.entry_tuple_add (PySem.F.args_tuple_add_2 _ _)
   (tuple_addW1 t b vs.toArray ws.toArray n n2 dd aj sl ah (by simpa using hv) (by simp[hw])) ⟨ho,aa,h1 hw⟩
 ·refine concat_meets ⟨_,ho,rfl⟩ ⟨_,aa,rfl⟩ noFill_tuple_add seq_tuple_add PySem.F.slot_tuple_add PySem.F.entry_tuple_add (PySem.F.args_tuple_add_2 _ _)
   (tuple_addW2 t b vs.toArray ws.toArray n n2 dd aj sl ah (by simpa using hv) (by simpa using hw) (by rw[G8,G8];exact hsz)) ⟨ho,aa,?_⟩
  rw[e];exact h2 hw
def sIx(n d:Nat):Option Int->Nat
 | none=>d
 | some v=>if v<0 then (v+(n:Int)).toNat else min v.toNat n
theorem sIx_none(n d:Nat):sIx n d none=d:=rfl
theorem sIx_nat(n d k:Nat):sIx n d (some (k:Int))=min k n:=by
 show (if (k:Int)<0 then ((k:Int)+(n:Int)).toNat else min (k:Int).toNat n)=min k n
 rw[Ha (by omega),Jv]
theorem yx(n d:Nat)(hd:d<=n)(o:Option Int):sIx n d o<=n:=by
 cases o with
 | none=>exact hd
 | some v =>
  show (if v<0 then (v+(n:Int)).toNat else min v.toNat n)<=n
  by_cases hv:v<0
  ·rw[Hc hv];omega
  ·rw[Ha hv];exact Nat.min_le_right _ _
theorem sP(v:Int)(n d:Nat):(if v<0 then max (v+(n:Int)) 0 else min v (n:Int))=((sIx n d (some v):Nat):Int):=by
 show (if v<0 then max (v+(n:Int)) 0 else min v (n:Int))=(((if v<0 then (v+(n:Int)).toNat else min v.toNat n):Nat):Int)
 by_cases hv:v<0
 ·simp only[if_pos hv];omega
 ·simp only[if_neg hv];omega
theorem ri(lo hi:Option Int)(n:Nat):Builtin.Slice.sliceAdjust lo hi 1 (n:Int)=(((sIx n 0 lo:Nat):Int),((sIx n n hi:Nat):Int)):=by
 have h1:¬ ((1:Int)<0):=by omega
 unfold Builtin.Slice.sliceAdjust;simp only[h1,if_false];refine Prod.ext ?_ ?_
 ·cases lo with
  | none=>rfl
  | some v=>exact sP v n 0
 ·cases hi with
  | none=>rfl
  | some v=>exact sP v n n
theorem r6(i j:Nat):Builtin.Slice.slicePlaces (i:Int) (j:Int) 1=j-i:=by
 unfold Builtin.Slice.slicePlaces;have h1:(1:Int)>0:=by omega
 simp only[h1,if_true,Int.ediv_one]
 split<;>omega
theorem jO(p:IsPart v o)(h:Q o s):wpAny (model prog w) A (Builtin.Slice.slicePartIndex v) Q E s:=by
 cases p with
 | none=>exact slicePart_none h
 | int i t=>exact slicePart_int h
theorem de{w:World}{E:Value->Shared->Prop}{s:Shared}{lo hi:Option Int}{Q:Int×Int×Nat->Shared->Prop}(hs:s.heap.IsSliceOf sl vl vu .none)(pl:IsPart vl lo)(pu:IsPart vu hi)
  (h:Q (((sIx n 0 lo:Nat):Int),1,sIx n n hi-sIx n 0 lo) s):wpAny (model prog w) A (Builtin.Slice.sliceApplied (.ref sl) (pure (n:Int))) Q E s:=by
 obtain⟨os,ab,ah,aa⟩:=id hs;unfold Builtin.Slice.sliceApplied Builtin.Slice.sliceFields;refine GM (GM (HC ab aa (x:=vl) rfl (GM (HC ab aa (x:=vu) rfl (GM (HC ab aa (x:=.none) rfl (GQ ?_)))))));refine GM (slicePart_none ?_);show wpAny _ _ (if ((1:Int)==0)=true then _ else _) _ _ s;rw[Ha (by decide)];refine GM (jO pl (GM (jO pu (GM (GQ ?_)))));show wpAny _ _ (match Builtin.Slice.sliceAdjust lo hi 1 (n:Int) with | (lo,hi)=>pure (lo,(1:Int),Builtin.Slice.slicePlaces lo hi 1)) _ _ s;rw[ri lo hi n];show wpAny _ _ (pure (((sIx n 0 lo:Nat):Int),(1:Int),Builtin.Slice.slicePlaces ((sIx n 0 lo:Nat):Int) ((sIx n n hi:Nat):Int) 1)) _ _ s;rw[r6];exact GQ h
theorem wK(xs:Array Value)(i k:Nat):((List.range k).filterMap λ(m:Nat)=>xs[((i:Int)+(m:Int)*1).toNat]?).toArray=((xs.toList.drop i).take k).toArray:=by
 have e:(λ(m:Nat)=>xs[((i:Int)+(m:Int)*1).toNat]?)=λm=>xs[i+m]?:=by
  funext m
  have:((i:Int)+(m:Int)*1).toNat=i+m:=by omega
  rw[this]
 rw[e];have:=pick_run xs i k;rw[List.filterMap_map] at this;have e2:((λx=>xs[x]?) ∘ λx=>i+x)=λm=>xs[i+m]?:=rfl;rw[e2] at this;rw[this]
theorem getItem_tuple_cut{w:World}{E:Value->Shared->Prop}{s:Shared}{items:Array Value}{lo hi:Option Int}{Q:Value->Shared->Prop}(ht:IsTup s.heap t items)(hs:s.heap.IsSliceOf sl vl vu .none)(pl:IsPart vl lo)(pu:IsPart vu hi)
  (hw:¬ (sIx items.size 0 lo=0/\sIx items.size items.size hi=items.size))
  (h:Q (.ref s.heap.objs.size) { s with heap:=s.heap.push { cls:=.type "tuple",data:=.seq ((items.toList.drop (sIx items.size 0 lo)).take (sIx items.size items.size hi-sIx items.size 0 lo)).toArray } })
  (hsz:items.size<=sizeLine):wpAny (model prog w) A (getItem (.ref t) (.ref sl)) Q E s:=by
 have aa:sizeOk (.seq ((items.toList.drop (sIx items.size 0 lo)).take (sIx items.size items.size hi-sIx items.size 0 lo)).toArray):=by
  show ((items.toList.drop (sIx items.size 0 lo)).take (sIx items.size items.size hi-sIx items.size 0 lo)).toArray.size<=sizeLine
  rw[G8,HP,Jd,HD];omega
 have hj:sIx items.size items.size hi<=items.size:=yx _ _ (GU _) hi
 obtain⟨os,aj,ai,al⟩:=id hs;have ah:s.TypeIs (.ref sl) "slice":=⟨os,aj,ai⟩;unfold getItem
 try with_reducible refine Iz ?_
 first | refine GM (GQ ?_) | skip
 refine GM (wpAny_sequenceKey ht.typeIs (by decide) ?_)
 refine GM (Ia (name:=Str.ofString "__getitem__") ht.typeIs HU
  (Ik HU ht.typeIs entry_tuple_getitem ?_ (args_tuple_getitem _ _)))
 show wpAny _ _ (Builtin.Tuple.tupleItemsOf (.ref t) >>= _) _ _ s
 refine GM (tupleItemsOf_ ht ?_);refine GM (J5 ah ?_);rw[Hc (by decide)];refine GM (de hs pl pu ?_);have ab:¬ ((((sIx items.size 0 lo:Nat):Int)==0&&(1:Int)==1&&(sIx items.size items.size hi-sIx items.size 0 lo)==items.size)=true):=by
  intro q;rw[Bool.and_eq_true,Bool.and_eq_true] at q;have q1:((sIx items.size 0 lo:Nat):Int)=0:=eq_of_beq q.1.1;have q2:sIx items.size items.size hi-sIx items.size 0 lo=items.size:=eq_of_beq q.2;exact hw ⟨by omega,by omega⟩
 show wpAny _ _ (if (((sIx items.size 0 lo:Nat):Int)==0&&(1:Int)==1&&(sIx items.size items.size hi-sIx items.size 0 lo)==items.size)=true then _ else _) _ _ s
 rw[Ha ab,wK]
 first
  | exact GM (m:=Builtin.Tuple.tupleExact _) (HQ (GQ ⟨_,rfl,GQ h⟩) aa)
  | exact GM (m:=Builtin.Tuple.tupleExact _) (HQ (GM (GQ (GQ ⟨_,rfl,GQ h⟩))) aa)
  | exact GM (GM (m:=Builtin.Tuple.tupleExact _) (HQ (GQ (GQ ⟨_,rfl,GQ h⟩)) aa))
  | exact GM (GM (m:=Builtin.Tuple.tupleExact _) (HQ (GQ ⟨_,rfl,GQ h⟩) aa))
end
end HT
namespace L2
open PySem PySem.Spec PyProof.Rows
abbrev TO:=St->Hp->(Option Int->Hp->Prop)->Prop
def PO(X:Cx)(e:Option Expr)(t:TO):Prop :=
 ∀(pins:List (Addr×Obj)) (s:Shared) (σ:St) (H:Hp) (Q:Option Int->Hp->Prop),Inv X pins σ H s->t σ H Q ->
  wpAny (model X.prog X.w) X.A (evalPart e X.env) (λu s'=>∃o H',Inv X pins σ H' s'/\IsPart u o/\Q o H') X.xe s
def zv:TO:=λ_ H Q=>Q none H
def FI(t:TE):TO:=λσ H Q=>t σ H λx H1=>∃i,x=.int i/\Q (some i) H1
theorem intsAre_of:∀ {us:Zc},bF (ns.map V.int) us->IntsAre us ns:=by
 induction ns with
 | nil=>intro us r;rw[Jo] at r;cases r;exact .nil
 | cons n ns ih =>
  intro us r;rw[Hs] at r
  cases r with
  | cons r1 r2 =>
   obtain⟨t,e⟩:=r1;subst e;exact .cons n t (ih r2)
section
variable {X:Cx} {e:Expr} {te:TE} {lo hi:Option Expr} {tl th:TO} {pos p2:Pos}
theorem Aj:PO X none zv:=by
 intro pins s σ H Q I h;rw[evalPart_none];exact GQ ⟨none,H,I,.none,h⟩
theorem Bb(h:PE X e te):PO X (some e) (FI te):=by
 intro pins s σ H Q I hw;rw[evalPart_some];refine Gj (h pins s σ H _ I hw) λu s1 ⟨x,H1,I1,r1,q1⟩=>?_;obtain⟨i,rfl,q⟩:=q1;obtain⟨t,rfl⟩:=r1;exact⟨some i,H1,I1,.int i t,q⟩
def SlR(X:Cx)(r:V->Option Int->Option Int->Hp->VK->Prop):Prop :=
 ∀(pins:List (Addr×Obj)) (s:Shared) (σ:St) (H:Hp) (x:V) (v vl vu:Value) (lo hi:Option Int) (sl:Addr) (Q:VK),Inv X pins σ H s->bB x v->s.heap.IsSliceOf sl vl vu .none->IsPart vl lo->IsPart vu hi->r x lo hi H Q ->
  ∃T id,typeLookup (.type T) "__getitem__"=pure (some (.builtin id))/\s.TypeIs v T/\wpAny (model X.prog X.w) X.A (getItem v (.ref sl)) (EP X pins σ Q) X.xe s
theorem SlR.or(h:SlR X r)(h':SlR X r'):SlR X (λx lo hi H Q=>r x lo hi H Q\/r' x lo hi H Q):=by
 intro pins s σ H x v vl vu lo hi sl Q I rx hs pl pu q
 rcases q with q | q
 ·exact h pins s σ H x v vl vu lo hi sl Q I rx hs pl pu q
 ·exact h' pins s σ H x v vl vu lo hi sl Q I rx hs pl pu q
def tSl(r:V->Option Int->Option Int->Hp->VK->Prop)(te:TE)(tl th:TO):TE:=λσ H Q=>te σ H λx H1=>tl σ H1 λl H2=>th σ H2 λu H3=>r x l u H3 Q
theorem oV(hr:SlR X r)(he:PE X e te)(hl:PO X lo tl)(hu:PO X hi th):PE X (.Subscript e (.Slice lo hi none p2) pos) (tSl r te tl th):=by
 intro pins s σ H Q I h;refine Subscript_ (Gj (he pins s σ H _ I h) λv s1 ⟨x,H1,I1,r1,q1⟩=>?_);refine wpAny_Slice (Gj (hl pins s1 σ H1 _ I1 q1) λvl s2 ⟨l,H2,I2,pl,q2⟩=>Gj (hu pins s2 σ H2 _ I2 q2) λvu s3 ⟨u,H3,I3,pu,q3⟩=>?_);rw[evalPart_none];refine GQ ?_;have I4:Inv X pins σ H3 { s3 with heap:=s3.heap.push { cls:=.type "slice",data:=.fields #[vl,vu,.none] } }:=I3.kept (t':=s3.toks) λb ob q=>GO _ q;obtain⟨T,id,hT,ht,hg⟩:=hr pins { s3 with heap:=s3.heap.push { cls:=.type "slice",data:=.fields #[vl,vu,.none] } } σ H3 x v vl vu l u s3.heap.objs.size Q I4 r1 (Heap.IsSliceOf.new ..) pl pu q3;show wpAny (model X.prog X.w) X.A (subscriptTail e (.Slice lo hi none p2) v (.ref s3.heap.objs.size)) (EP X pins σ Q) X.xe { s3 with heap:=s3.heap.push { cls:=.type "slice",data:=.fields #[vl,vu,.none] } };exact tail_any (ops:=[.ref s3.heap.objs.size,v]) ht hT hg (by with_unfolding_all rfl)
def sr(xs:Zg)(lo hi:Option Int):Zg:=(xs.drop (HT.sIx xs.length 0 lo)).take (HT.sIx xs.length xs.length hi-HT.sIx xs.length 0 lo)
theorem i8(xs:Zg)(lo hi:Option Int):(sr xs lo hi).length<=xs.length:=by
 unfold sr;rw[HP,Jd];omega
def rSlT(K:Zf):V->Option Int->Option Int->Hp->VK->Prop:=λx lo hi H Q=>∃a xs,x=.ref a/\GA K H a xs /\
 ¬ (HT.sIx xs.length 0 lo=0/\HT.sIx xs.length xs.length hi=xs.length)/\∀p,H p=none->Q (.ref p) (GE H p (.tup (sr xs lo hi)))
theorem xG:SlR X (rSlT X.K):=by
 intro pins s σ H x v vl vu lo hi sl Q I rx hs pl pu h;obtain⟨a,xs,rfl,hx,hw,q⟩:=h
 cases rx
 obtain⟨ab,r,ht,hz⟩:=I.tuple hx;have aa:ab.toArray.size=xs.length:=by rw[G8];exact r.length.symm
 refine⟨"tuple",_,HU.lookup,ht.typeIs,?_⟩;refine HT.getItem_tuple_cut ht hs pl pu (by rw[aa];exact hw) ?_ (by rw[aa];exact hz);rw[aa];refine⟨.ref s.heap.objs.size,_,I.laid (t':=s.toks) (o:=.tup (sr xs lo hi)) (λb ob q=>GO _ q) (GU _) ?_,rfl,q _ (I.hok.fresh (GU _))⟩;exact⟨GS (i8 xs lo hi) hz,_,(r.drop (HT.sIx xs.length 0 lo)).take (HT.sIx xs.length xs.length hi-HT.sIx xs.length 0 lo),IsTup.new _ _⟩
def Ez(K:Zf):R2:=λx y H Q=>∃a b xs ys,x=.ref a/\y=.ref b/\GA K H a xs/\GA K H b ys/\xs≠[]/\xs.length+ys.length<=sizeLine /\
 (ys=[]->Q (.ref a) H)/\(ys≠[]->∀p,H p=none->Q (.ref p) (GE H p (.tup (xs++ys))))
theorem bF.nil_iff(r:bF xs us):us=[]↔xs=[]:=by
 cases r with
 | nil=>simp
 | cons _ _=>simp
theorem yR:GC X (binaryOp .Add) (Ez X.K):=by
 intro pins s σ H x y v u Q I rx ry h;obtain⟨a,b,xs,ys,rfl,rfl,ha,hb,hx,hz,q1,q2⟩:=h
 cases rx
 cases ry
 obtain⟨ab,r1,p1,_⟩:=I.tuple ha;obtain⟨aa,r2,p2,_⟩:=I.tuple hb;refine HT.cat_tup p1 p2 (λz=>hx (r1.nil_iff.mp z)) (λz=>⟨.ref a,H,I,rfl,q1 (r2.nil_iff.mp z)⟩) (λz=>?_) (by rw[<- r1.length,<- r2.length];exact hz);refine⟨.ref s.heap.objs.size,_,I.laid (t':=s.toks) (o:=.tup (xs++ys)) (λb ob q=>GO _ q) (GU _) ?_,rfl,q2 (λw=>z (r2.nil_iff.mpr w)) _ (I.hok.fresh (GU _))⟩;exact⟨by rw[GV];exact hz,_,r1.append r2,IsTup.new _ _⟩
end
end L2
namespace L2
open PySem PySem.Spec PyProof.Rows
def ixN(n:Nat)(i:Int):Option Nat:=if 0<=i then (if i<n then some i.toNat else none) else if -(n:Int)<=i then some (i+n).toNat else none
def Gi{α:Type}(xs:List α)(i:Int):Option α:=(ixN xs.length i).bind λj=>xs[j]?
theorem zY(h:ixN n i=some j):seqIndex? i n=some j/\j<n/\-(n:Int)<=i/\i<n:=by
 unfold ixN at h
 by_cases h0:0<=i
 ·rw[Hc h0] at h
  by_cases h1:i<n
  ·rw[Hc h1] at h;have e:i.toNat=j:=G4 h;exact⟨by rw[seqIndex_of h0 h1,e],by omega,by omega,h1⟩
  ·rw[Ha h1] at h;cases h
 ·rw[Ha h0] at h
  by_cases h1:-(n:Int)<=i
  ·rw[Hc h1] at h;have e:(i+n).toNat=j:=G4 h;exact⟨by rw[seqIndex_neg (by omega) h1,e],by omega,h1,by omega⟩
  ·rw[Ha h1] at h;cases h
theorem nv(h:Gi xs i=some v):∃j,seqIndex? i xs.length=some j/\xs[j]?=some v/\j<xs.length/\-(xs.length:Int)<=i/\i<xs.length:=by
 unfold Gi at h
 cases e:ixN xs.length i with
 | none=>rw[e] at h;cases h
 | some j =>
  rw[e] at h;obtain⟨h1,h2,h3,h4⟩:=zY e;exact⟨j,h1,h,h2,h3,h4⟩
theorem wO(xs:List α)(v:α):Gi (xs++[v]) (-1)=some v:=by
 have hl:(xs++[v]).length=xs.length+1:=by simp
 have e:ixN (xs++[v]).length (-1)=some xs.length:=by
  unfold ixN;rw[hl,Ha (by decide),Hc (by omega)]
  congr 1
  omega
 unfold Gi;rw[e];show (xs++[v])[xs.length]?=some v;simp
def vm(b:Expr):Prop:=∀o i,subscripted b false o i=operate [o,i] (getItem o i)
def IxR(X:Cx)(r:R2):Prop :=
 ∀(value slice:Expr) (pins:List (Addr×Obj)) (s:Shared) (σ:St) (H:Hp) (x y:V) (v u:Value) (Q:VK),Inv X pins σ H s->bB x v->bB y u->r x y H Q ->
  subscripted slice false v u=operate [v,u] (getItem v u)->wpAny (model X.prog X.w) X.A (subscriptTail value slice v u) (EP X pins σ Q) X.xe s
def MtR(X:Cx)(id:String)(r:V->Zg->Hp->VK->Prop):Prop :=
 ∀(pins:List (Addr×Obj)) (s:Shared) (σ:St) (H:Hp) (x:V) (xs:Zg) (v:Value) (us:Zc) (Q:VK),Inv X pins σ H s->bB x v->bF xs us->r x xs H Q ->
  wpAny (model X.prog X.w) X.A (call (.builtin id) (v::us)) (EP X pins σ Q) X.xe s
section
variable {X:Cx} {a b:Expr} {ta tb:TE} {pos:Pos}
theorem IxR.or(h:IxR X r)(h':IxR X r'):IxR X (λx y H Q=>r x y H Q\/r' x y H Q):=by
 intro aa ab pins s σ H x y v u Q I rx ry q hs
 rcases q with q | q
 ·exact h aa ab pins s σ H x y v u Q I rx ry q hs
 ·exact h' aa ab pins s σ H x y v u Q I rx ry q hs
theorem FB(hr:IxR X r)(ha:PE X a ta)(hb:PE X b tb)(hs:vm b):PE X (.Subscript a b pos) (tOp r ta tb):=by
 intro pins s σ H Q I h;exact Subscript_ (binT ha hb I h λv u s2 x y H2 I2 rx ry q=>hr a b pins s2 σ H2 x y v u Q I2 rx ry q (hs _ _))
def rIxL(K:Zf):R2:=λx y H Q=>∃p xs i v,x=.ref p/\y=.int i/\GL K H p xs/\Gi xs i=some v/\Q v H
def rIxT(K:Zf):R2:=λx y H Q=>∃p xs i v,x=.ref p/\y=.int i/\GA K H p xs/\Gi xs i=some v/\Q v H
def rIxS:R2:=λx y H Q=>∃z i c,x=.str z/\y=.int i/\z.length<=sizeLine/\Gi z.cps.toList i=some c/\Q (.str ⟨#[c]⟩) H
theorem zD:IxR X (rIxL X.K):=by
 intro aj ai pins s σ H x y v u Q I rx ry h hs;obtain⟨p,xs,i,z,rfl,rfl,hq,he,q⟩:=h
 cases rx
 obtain⟨t,rfl⟩:=ry;obtain⟨ah,r,pl,hz⟩:=I.list hq;obtain⟨j,h1,h2,h3,h4,h5⟩:=nv he;obtain⟨w,ew,ab⟩:=r.get h2;have hl:=r.length;have hn:=qe;have aa:EP X pins σ Q w s:=⟨z,H,I,ab,q⟩
 by_cases h0:0<=i
 ·have hj:i.toNat=j:=by
   rw[seqIndex_of h0 h5] at h1;exact G4 h1
  exact item_listR pl.isList h0 (by omega) (by rw[hj];simpa using ew) aa hs
 ·have hj:(i+(ah.toArray.size:Int)).toNat=j:=by
   rw[seqIndex_neg (by omega) h4] at h1;rw[G8,<- hl];exact G4 h1
  exact subscriptTail_builtinR (x:=w) pl.isList.typeIs slot_list_getitem.lookup
   (wpAny_getItem_list_neg (Q:=λr s'=>r=w/\EP X pins σ Q r s') pl.isList (by omega) (by rw[G8]<;>omega) (by omega) (by rw[hj];simpa using ew) ⟨rfl,aa⟩) hs
theorem CK:IxR X (rIxT X.K):=by
 intro ai ah pins s σ H x y v u Q I rx ry h hs;obtain⟨p,xs,i,z,rfl,rfl,hq,he,q⟩:=h
 cases rx
 obtain⟨t,rfl⟩:=ry;obtain⟨aj,r,pl,hz⟩:=I.tuple hq;obtain⟨j,h1,h2,h3,h4,h5⟩:=nv he;obtain⟨w,ew,aa⟩:=r.get h2;have hl:=r.length;have hn:=qe;have ab:EP X pins σ Q w s:=⟨z,H,I,aa,q⟩;exact subscriptTail_builtinR (x:=w) pl.typeIs slot_tuple_getitem.lookup
  (getItem_tuple (j:=j) (Q:=λr s'=>r=w/\EP X pins σ Q r s') pl (by omega) (by omega) (by rw[G8,<- hl];exact h1) (by simpa using ew) ⟨rfl,ab⟩) hs
theorem Eb:IxR X rIxS:=by
 intro aa ab pins s σ H x y v u Q I rx ry h hs;obtain⟨z,i,c,rfl,rfl,hz,he,q⟩:=h;obtain⟨t,rfl⟩:=rx;obtain⟨t',rfl⟩:=ry;obtain⟨j,h1,h2,h3,h4,h5⟩:=nv he;have hl:z.cps.toList.length=z.length:=by simp[Str.length]
 rw[hl] at h1 h4 h5;have hn:=qe
 exact tail_any (typeIs_str s z t) slot_str_getitem.lookup (getItem_str (c:=c) (by
  have e1:decide (i < -(2 ^ 63:Int))=false:=HA (by omega)
  have e2:decide (i ≥ 2 ^ 63)=false:=HA (by omega)
  rw[e1,e2,Bool.or_false]) (by rw[h1];simpa using h2) ⟨.str ⟨#[c]⟩,H,I.tok _,⟨_,rfl⟩,q⟩) hs
def rIx(K:Zf):R2:=λx y H Q=>rIxL K x y H Q\/rIxT K x y H Q\/rIxS x y H Q
theorem Eh:IxR X (rIx X.K):=zD.or (CK.or Eb)
theorem Inv.lst(I:Inv X pins σ H s)(h:H p=some (.lst xs)) :
  ∃(its:Zc) (n:Nat),bF xs its/\s.heap.get? p=some { cls:=.type "list",data:=.seq its.toArray n }/\xs.length<=sizeLine:=by
 obtain⟨z,its,n,r,e⟩:=I.hok p _ h;exact⟨its,n,r,e,z⟩
theorem l7(lo hi:Option Int)(n:Nat):(sliceBounds lo hi none n).1=((HT.sIx n 0 lo:Nat):Int)/\(sliceBounds lo hi none n).2.1=((HT.sIx n n hi:Nat):Int)/\(sliceBounds lo hi none n).2.2=1:=by
 refine⟨?_,?_,rfl⟩
 ·cases lo with
  | none=>simp[sliceBounds,HT.sIx]
  | some i =>
   simp only[sliceBounds,HT.sIx,Option.getD_none,show (1:Int)>0 by decide,if_true]
   by_cases h:i<0
   ·simp only[h,if_true]<;>omega
   ·simp only[h,if_false]<;>omega
 ·cases hi with
  | none=>simp[sliceBounds,HT.sIx]
  | some i =>
   simp only[sliceBounds,HT.sIx,Option.getD_none,show (1:Int)>0 by decide,if_true]
   by_cases h:i<0
   ·simp only[h,if_true]<;>omega
   ·simp only[h,if_false]<;>omega
theorem ke(its:Zc)(lo hi:Option Int):slicePick its.toArray lo hi none=((its.drop (HT.sIx its.length 0 lo)).take (HT.sIx its.length its.length hi-HT.sIx its.length 0 lo)).toArray:=by
 obtain⟨h1,h2,h3⟩:=l7 lo hi its.toArray.size;unfold slicePick;rw[h1,h2,h3];simp only[sliceRange_one,pick_run,List.size_toArray]<;>rfl
def rSlL(K:Zf):V->Option Int->Option Int->Hp->VK->Prop:=λx lo hi H Q=>∃a xs,x=.ref a/\GL K H a xs/\∀p,H p=none->Q (.ref p) (GE H p (.lst (sr xs lo hi)))
theorem AV:SlR X (rSlL X.K):=by
 intro pins s σ H x v vl vu lo hi sl Q I rx hs pl pu h;obtain⟨a,xs,rfl,hx,q⟩:=h
 cases rx
 obtain⟨ab,r,ht,hz⟩:=I.list hx;have aa:=r.length;refine⟨"list",_,slot_list_getitem.lookup,ht.isList.typeIs,?_⟩;refine wpAny_getItem_list_slice ht.isList hs pl pu .none (by simp) ?_ (by rw[G8]<;>omega)
 rw[ke,<- aa];refine⟨.ref s.heap.objs.size,_,I.laid (t':=s.toks) (o:=.lst (sr xs lo hi)) (λb ob q=>GO _ q) (GU _) ?_,rfl,q _ (I.hok.fresh (GU _))⟩;exact⟨GS (i8 xs lo hi) hz,_,0,(r.drop (HT.sIx xs.length 0 lo)).take (HT.sIx xs.length xs.length hi-HT.sIx xs.length 0 lo),G5 _ rfl⟩
def Cq:V->Bool
 | .non=>true
 | .bl _=>true
 | .int _=>true
 | .str _=>true
 | _=>false
def eqV:V->V->Bool
 | .non,.non=>true
 | .bl a,.bl b=>a==b
 | .bl a,.int b=>(if a then 1 else 0)==b
 | .int a,.bl b=>a==(if b then 1 else 0)
 | .int a,.int b=>a==b
 | .str a,.str b=>a==b
 | _,_=>false
theorem qQ(ry:bB y u)(rx:bB x v)(fy:Cq y=true)(fx:Cq x=true):SeqAt.EqAt A s u v (eqV y x):=by
 cases y with
 | non =>
  cases ry
  cases x with
  | non=>cases rx;exact Kk _
  | bl b=>cases rx;exact SeqAt.EqAt.none_bool b
  | int b=>obtain⟨t,rfl⟩:=rx;exact SeqAt.EqAt.none_int b t
  | str b=>obtain⟨t,rfl⟩:=rx;exact SeqAt.EqAt.none_str b t
  | _=>exact absurd (show false=true from fx) GW
 | bl a =>
  cases ry
  cases x with
  | non=>cases rx;exact SeqAt.EqAt.bool_none a
  | bl b=>cases rx;exact SeqAt.EqAt.bool_bool a b
  | int b=>obtain⟨t,rfl⟩:=rx;exact SeqAt.EqAt.bool_int a b t
  | str b=>obtain⟨t,rfl⟩:=rx;exact SeqAt.EqAt.bool_str a b t
  | _=>exact absurd (show false=true from fx) GW
 | int a =>
  obtain⟨t',rfl⟩:=ry
  cases x with
  | non=>cases rx;exact SeqAt.EqAt.int_none a t'
  | bl b=>cases rx;exact SeqAt.EqAt.int_bool a t' b
  | int b=>obtain⟨t,rfl⟩:=rx;exact JQ a t' b t
  | str b=>obtain⟨t,rfl⟩:=rx;exact SeqAt.EqAt.int_str a t' b t
  | _=>exact absurd (show false=true from fx) GW
 | str a =>
  obtain⟨t',rfl⟩:=ry
  cases x with
  | non=>cases rx;exact SeqAt.EqAt.str_none a t'
  | bl b=>cases rx;exact SeqAt.EqAt.str_bool a t' b
  | int b=>obtain⟨t,rfl⟩:=rx;exact SeqAt.EqAt.str_int a t' b t
  | str b=>obtain⟨t,rfl⟩:=rx;exact SeqAt.EqAt.str_str a t' b t
  | _=>exact absurd (show false=true from fx) GW
 | _=>exact absurd (show false=true from fy) GW
theorem gb:cq X (.builtin "len") (λxs H Q=>∃p ys,xs=[.ref p]/\(GL X.K H p ys\/GA X.K H p ys)/\Q (.int ys.length) H):=by
 intro pins s σ H xs us Q I r h;obtain⟨p,ys,rfl,hq,q⟩:=h;obtain⟨u,rfl,rx⟩:=gH r
 cases rx
 have hn:=qe
 rcases hq with hq | hq
 ·obtain⟨ab,r',pl,hz⟩:=I.list hq;have aa:=r'.length;exact Calls.call_len_list pl.isList (by simp only[List.size_toArray]<;>omega) ⟨.int ys.length,H,I.tok _,⟨s.toks+1,by rw[G8,aa]⟩,q⟩
 ·obtain⟨ab,r',pl,hz⟩:=I.tuple hq;have aa:=r'.length;exact len_tuple pl (by simp only[List.size_toArray]<;>omega) ⟨.int ys.length,H,I.tok _,⟨s.toks+1,by rw[G8,aa]⟩,q⟩
theorem fu:cq X (.type "tuple") (λxs H Q=>∃p ys,xs=[.ref p]/\((GL X.K H p ys/\∀l,H l=none->Q (.ref l) (GE H l (.tup ys)))\/(GA X.K H p ys/\Q (.ref p) H))):=by
 intro pins s σ H xs us Q I r h;obtain⟨p,ys,rfl,h⟩:=h;obtain⟨u,rfl,rx⟩:=gH r
 cases rx
 rcases h with⟨hq,q⟩ | ⟨hq,q⟩
 ·obtain⟨aa,r',pl,hz⟩:=I.list hq;have ab:=r'.length;refine call_tuple_list pl.isList (λh' kp=>?_) (by simp only[List.size_toArray]<;>omega)
  have I1:Inv X pins σ H { s with heap:=h' }:=I.kept (t':=s.toks) kp
  have I2:Inv X pins σ (GE H h'.objs.size (.tup ys)) { s with heap:=h'.push { cls:=.type "tuple",data:=.seq aa.toArray } } :=
   I1.laid (t':=s.toks) (λb o e=>GO _ e) (GU _) (show b6 X.prog X.w _ _ _ (.tup ys) from⟨hz,aa,r',IsTup.new _ _⟩)
  exact⟨.ref h'.objs.size,_,I2,rfl,q _ (I1.hok.fresh (GU _))⟩
 ·obtain⟨aa,r',pl,hz⟩:=I.tuple hq;exact call_tuple_same pl ⟨.ref p,H,I,rfl,q⟩
def tyV(K:Zf)(T:String)(x:V)(H:Hp):Prop:=match x with
 | .str _=>T="str"
 | .int _=>T="int"
 | .ref p=>(T="list"/\∃xs,GL K H p xs)\/(T="tuple"/\∃o,K.lookup p=some o/\o.cls=.type "tuple"/\o.dict=none) \/
   (T="dict"/\((∃kvs,H p=some (.dK kvs))\/∃kvs,H p=some (.dT kvs)))\/(T="set"/\∃S n,H p=some (.set S n))
 | _=>False
theorem Ep(I:Inv X pins σ H s)(r:bB x v)(ty:tyV X.K T x H) :
  s.TypeIs v T/\∀a,v=.ref a->∃ob,s.heap.get? a=some ob/\ob.dict=none:=by
 cases x with
 | str z =>
  obtain⟨t,rfl⟩:=r
  cases (show T="str" from ty)
  exact⟨typeIs_str s z t,λ_ e=>nomatch e⟩
 | int i =>
  obtain⟨t,rfl⟩:=r
  cases (show T="int" from ty)
  exact⟨typeIs_int s i t,λ_ e=>nomatch e⟩
 | ref p =>
  cases r
  rcases ty with⟨rfl,xs,hq⟩ | ⟨rfl,o,hk,hc,hd⟩ | ⟨rfl,hk⟩ | ⟨rfl,S,n,hk⟩
  ·obtain⟨aa,_,pl,_⟩:=I.list hq;refine⟨pl.isList.typeIs,λa e=>?_⟩
   cases e
   obtain⟨o,n,e,c,hd,_⟩:=pl;exact⟨o,e,hd⟩
  ·refine⟨⟨o,I.kIn p o hk,hc⟩,λa e=>?_⟩
   cases e
   exact⟨o,I.kIn _ o hk,hd⟩
  ·have z:∃o,s.heap.get? p=some o/\o.ExactDict:=by
    rcases hk with⟨kvs,hk⟩ | ⟨kvs,hk⟩
    ·obtain⟨_,_,_,_,o,_,_,e,ex,_⟩:=I.hok p _ hk;exact⟨o,e,ex⟩
    ·obtain⟨_,_,_,_,o,_,_,e,ex,_⟩:=I.hok p _ hk;exact⟨o,e,ex⟩
   obtain⟨o,e,ex⟩:=z;refine⟨⟨o,e,ex.1⟩,λa e2=>?_⟩
   cases e2
   exact⟨o,e,ex.2.1⟩
  ·obtain⟨o,_,_,_,e,ex,_⟩:=I.hok p _ hk;refine⟨⟨o,e,ex.1⟩,λa e2=>?_⟩
   cases e2
   exact⟨o,e,ex.2.1⟩
 | _=>exact False.elim ty
def tBM(K:Zf)(T:String)(r:V->Zg->Hp->VK->Prop)(to:TE)(t:TA):TE:=λσ H Q=>to σ H λx H1=>tyV K T x H1/\t σ H1 λxs H2=>r x xs H2 Q
theorem DD{apos cpos:Pos}{id:String}{r:V->Zg->Hp->VK->Prop}(pa:PlainAttrs T)(slot:Slot T name id)(hty:typeOf (.builtin id)=pure (.type "method_descriptor"))(hm:MtR X id r)(ho:PE X o to)(ha:PA X (e::es) t)
    (hbase:attributeBase o name X.env (eval o X.env)=eval o X.env:=by rfl)
    (hfew:((backTo cpos (starEach (e::es) X.env)).all (λx=>!x.1)&&(backToKw cpos (keywordEach [] X.env)).all (λx=>x.1.isSome)
      && decide ((e::es).length+([]:List Keyword).length+(if ([]:List Keyword).isEmpty then 0 else 1)<30))=true:=by rfl)
    (hline:(apos.endLine==cpos.line)=true:=by rfl) (hs:starEach (e::es) X.env=(false,eval e X.env)::starEach es X.env:=by rfl) (hplain:(backTo cpos (starEach es X.env)).any (·.1)=false:=by rfl) :
    PE X (.Call (.Attribute o name apos) (e::es) [] cpos) (tBM X.K T r to t):=by
  intro pins s σ H Q I h;refine wpAny_Call_method_late hbase hfew hline rfl (Gj (ho pins s σ H _ I h) λv s1 ⟨x,H1,I1,r1,ty,q1⟩=>?_);obtain⟨h1,h2⟩:=Ep I1 r1 ty;refine⟨T,id,pa,slot,hty,h1,h2,?_⟩;have hA:=ha cpos pins s1 σ H1 _ I1 q1;rw[hs] at hA ⊢;refine JX (by show (false||(backTo cpos (starEach es X.env)).any (·.1))=false;rw[hplain]<;>rfl) (Ke ?_)
  exact Gj hA λus s2 ⟨vs,H2,I2,r2,q2⟩=>hm pins s2 σ H2 x vs v us Q I2 r1 r2 q2
end
end L2
namespace L2
open PySem PySem.Spec PyProof.Rows
def MtM(X:Cx)(id:String)(r:V->Zg->Hp->VK->Prop):Prop :=
 ∀(pins:List (Addr×Obj)) (s:Shared) (σ:St) (H:Hp) (x:V) (xs:Zg) (v:Value) (us:Zc) (Q:VK),Inv X pins σ H s->bB x v->bF xs us->r x xs H Q ->
  wpAny (model X.prog X.w) X.A (call (.builtin id) (v::us)) (EP X pins σ Q) X.xe s
theorem bF.one:∀ {x:V} {us:Zc},bF [x] us->∃u,us=[u]/\bB x u
 | _,_,.cons r .nil=>⟨_,rfl,r⟩
theorem bF.reverse(h:bF xs us):bF xs.reverse us.reverse:=by
 induction h with
 | nil=>exact .nil
 | cons r t ih=>rw[List.reverse_cons,List.reverse_cons];exact bF.append ih (.cons r .nil)
section
theorem Inv.lset{H:Hp}{s:Shared}{ys:Zg}{its its':Zc}{f:Array Value->Array Value}(I:Inv X pins σ H s)(hH:H l=some (.lst xs))
  (e:s.heap.get? l=some { cls:=.type "list",data:=.seq its.toArray n }) (hf:f its.toArray=its'.toArray) (hv:bF ys its') (hz:ys.length<=sizeLine) :
  Inv X pins σ (GE H l (.lst ys)) { s with heap:=s.heap.update l (Obj.mapSeq f),toks:=t' }:=by
 have q:=PySem.IsL.update e f
 rw[hf] at q;refine I.write (x:=l) (e:=l) (by rw[hH];exact trivial) (.inl rfl) (λb' u hb hu=>(Hx s.heap (Obj.mapSeq f) (IF hb)).trans hu) ⟨_,q⟩ ?_;exact⟨hz,its',_,hv,q⟩
theorem Inv.lnew(I:Inv X pins σ H s)(hv:bF ys its)(hz:ys.length<=sizeLine) :
  Inv X pins σ (GE H s.heap.objs.size (.lst ys)) { s with heap:=s.heap.push { cls:=.type "list",data:=.seq its.toArray },toks:=t' } :=
 I.laid (λ_ _ q=>GO _ q) (GU _) ⟨hz,its,0,hv,G5 _ rfl⟩
theorem Inv.fresh(I:Inv X pins σ H s):H s.heap.objs.size=none:=I.hok.fresh (GU _)
theorem Inv.lstM(I:Inv X pins σ H s)(hH:H l=some (.lst xs)):xs.length<=sizeLine/\∃(its:Zc) (n:Nat),bF xs its/\xs.length=its.length/\s.heap.get? l=some { cls:=.type "list",data:=.seq its.toArray n }:=by
 obtain⟨z,its,n,r,e⟩:=I.hok l _ hH;exact⟨z,its,n,r,r.length,e⟩
theorem xu(h:n<=sizeLine):Builtin.List.listTooLong n=false:=by
 unfold Builtin.List.listTooLong;exact HA (by omega)
end
section
def Am:V->Zg->Hp->VK->Prop:=λx vs H Q=>∃l xs y,x=.ref l/\vs=[y]/\H l=some (.lst xs)/\xs.length<sizeLine/\Q .non (GE H l (.lst (xs++[y])))
theorem lU:MtM X "list.append" Am:=by
 intro pins s σ H x vs v us Q I rx rv h;obtain⟨l,xs,y,rfl,rfl,hH,hz,q⟩:=h
 cases rx
 obtain⟨u,rfl,ru⟩:=rv.one;obtain⟨z,aa,n,r,hl,e⟩:=I.lstM hH;refine call_meets F.slot_list_append ⟨_,e,rfl⟩ F.entry_list_append (F.args_list_append_2 _ _) (PySem.list_append l aa.toArray n u (by rw[G8];omega)) ⟨e,?_⟩;refine⟨.non,_,I.lset (its':=aa++[u]) hH e (by simp) (r.append (.cons ru .nil)) ?_,rfl,q⟩;rw[GV,IS];omega
def Au:V->Zg->Hp->VK->Prop:=λx vs H Q=>∃l b xs zs,x=.ref l/\vs=[.ref b]/\H l=some (.lst xs)/\H b=some (.lst zs)/\xs.length+zs.length<=sizeLine/\Q .non (GE H l (.lst (xs++zs)))
theorem mt_extend:MtM X "list.extend" Au:=by
 intro pins s σ H x vs v us Q I rx rv h;obtain⟨l,b,xs,zs,rfl,rfl,hH,hB,hz,q⟩:=h
 cases rx
 obtain⟨u,rfl,ru⟩:=rv.one
 cases ru
 obtain⟨z,ab,n,r,hl,e⟩:=I.lstM hH;obtain⟨z2,aa,n2,r2,ai,e2⟩:=I.lstM hB;have hsz:ab.toArray.size+aa.toArray.size<=sizeLine:=by rw[G8,G8];omega
 have ah:¬ (!ab.toArray.isEmpty&&Builtin.List.listTooLong (ab.toArray.size+aa.toArray.size))=true:=by
  rw[xu hsz,Bool.and_false];exact GW
 refine call_meets F.slot_list_extend ⟨_,e,rfl⟩ F.entry_list_extend (F.args_list_extend_2 _ _)
  (AutoSeq1.list_extend_list_list_0 l ab.toArray n b aa.toArray n2 ah (by rw[G8];omega) (by omega)) ⟨e,e2,?_⟩
 refine⟨.non,_,I.lset (its':=ab++aa) hH e (by simp) (r.append r2) ?_,rfl,q⟩;rw[GV];omega
def rCat:R2:=λx y H Q=>∃l b xs zs,x=.ref l/\y=.ref b/\H l=some (.lst xs)/\H b=some (.lst zs)/\xs.length+zs.length<=sizeLine/\∀p,H p=none->Q (.ref p) (GE H p (.lst (xs++zs)))
theorem DK:GC X (binaryOp .Add) rCat:=by
 intro pins s σ H x y v u Q I rx ry h;obtain⟨l,b,xs,zs,rfl,rfl,hH,hB,hz,q⟩:=h
 cases rx
 cases ry
 obtain⟨z,ab,n,r,hl,e⟩:=I.lstM hH;obtain⟨z2,aa,n2,r2,ah,e2⟩:=I.lstM hB;refine PySem.P.add_list e e2 ?_ (by rw[G8,G8];omega);have ea:ab.toArray++aa.toArray=(ab++aa).toArray:=by simp
 rw[ea];exact⟨.ref _,_,I.lnew (t':=s.toks) (r.append r2) (by rw[GV];omega),rfl,q _ I.fresh⟩
end
section
end
section
end
end L2
namespace L2
open PySem PySem.Spec PyProof.Rows
section
variable {κ:Type} [DecidableEq κ]
def ou(kvs:List (κ×V))(k:κ):Option V:=(kvs.find? λkv=>decide (kv.1=k)).map (·.2)
def o0(kvs:List (κ×V))(k:κ)(v:V):List (κ×V) :=
 if (kvs.any λkv=>decide (kv.1=k))=true then kvs.map (λkv=>if kv.1=k then (kv.1,v) else kv) else kvs++[(k,v)]
def Dn(kvs:List (κ×V))(k:κ):List (κ×V):=kvs.filter λkv=>decide (kv.1≠k)
theorem gN{p:κ×V}{r:List (κ×V)}{k:κ}(e:p.1=k):ou (p::r) k=some p.2:=by simp[ou,List.find?_cons,e]
theorem gX{p:κ×V}{r:List (κ×V)}{k:κ}(e:¬ p.1=k):ou (p::r) k=ou r k:=by simp[ou,List.find?_cons,e]
theorem pe(k:κ):∀kvs:List (κ×V),(kvs.any λkv=>decide (kv.1=k))=(ou kvs k).isSome
 | []=>rfl
 | p::r=>by
  rw[JR]
  by_cases e:p.1=k
  ·simp only[gN e,decide_eq_true e,Bool.true_or,Option.isSome_some]
  ·rw[gX e,HA e,Bool.false_or];exact pe k r
theorem iy(kvs:List (κ×V))(k:κ)(v:V):(o0 kvs k v).length<=kvs.length+1:=by
 unfold o0
 split
 ·rw[GN];omega
 ·rw[GV,G0,List.length_nil];omega
theorem px.isSome_eq(r:px o u):o.isSome=u.isSome:=by
 cases o with
 | none=>cases u with
  | none=>rfl
  | some _=>exact(show False from r).elim
 | some _=>cases u with
  | none=>exact(show False from r).elim
  | some _=>rfl
theorem px.getD(r:px o u)(rd:bB d d'):bB (o.getD d) (u.getD d'):=by
 cases o with
 | none=>cases u with
  | none=>exact rd
  | some _=>exact(show False from r).elim
 | some _=>cases u with
  | none=>exact(show False from r).elim
  | some _=>exact r
theorem KV.val(r:KV kvs vs)(k:κ):px (ou kvs k) (valueAt vs k):=by
 unfold KV at r
 induction r with
 | nil=>exact True.intro
 | @cons p q ps qs h t ih =>
  obtain⟨h1,h2⟩:=h
  by_cases e:p.1=k
  ·have e':q.1=k:=h1.symm.trans e
   have b:valueAt (q::qs) k=some q.2:=by simp[valueAt,List.find?_cons,e']
   rw[gN e,b];exact h2
  ·have e':¬ q.1=k:=λz=>e (h1.trans z)
   have b:valueAt (q::qs) k=valueAt qs k:=by simp[valueAt,List.find?_cons,e']
   rw[gX e,b];exact ih
theorem KV.any(r:KV kvs vs)(k:κ):(kvs.any λkv=>decide (kv.1=k))=vs.any λkv=>decide (kv.1=k):=by
 unfold KV at r
 induction r with
 | nil=>rfl
 | cons h t ih=>rw[JR,JR,ih,h.1]
theorem KV.repl(r:KV kvs vs)(k:κ)(ry:bB y u) :
  KV (kvs.map λkv=>if kv.1=k then (kv.1,y) else kv) (vs.map λkv=>if kv.1=k then (kv.1,u) else kv):=by
 unfold KV at r ⊢
 induction r with
 | nil=>exact .nil
 | @cons p q ps qs h t ih =>
  rw[Hs,Hs];refine .cons ?_ ih;obtain⟨h1,h2⟩:=h
  by_cases e:p.1=k
  ·rw[Hc e,Hc (h1.symm.trans e)];exact⟨h1,ry⟩
  ·rw[Ha e,Ha (λz=>e (h1.trans z))];exact⟨h1,h2⟩
theorem KV.put(r:KV kvs vs)(k:κ)(ry:bB y u):KV (o0 kvs k y) (stored vs k u):=by
 unfold o0 stored;rw[r.any k]
 by_cases e:(vs.any λkv=>decide (kv.1=k))=true
 ·rw[Hc e,Hc e];exact r.repl k ry
 ·rw[Ha e,Ha e];exact Paired.snoc r ⟨rfl,ry⟩
theorem KV.drop(r:KV kvs vs)(k:κ):KV (Dn kvs k) (without vs k):=by
 unfold KV at r ⊢;unfold Dn without
 induction r with
 | nil=>exact .nil
 | @cons p q ps qs h t ih =>
  obtain⟨h1,h2⟩:=h;rw[List.filter_cons,List.filter_cons]
  by_cases e:p.1=k
  ·have a:¬ decide (p.1≠k)=true:=by simp[e]
   have b:¬ decide (q.1≠k)=true:=by simp[h1.symm.trans e]
   rw[Ha a,Ha b];exact ih
  ·have e':¬ q.1=k:=λz=>e (h1.trans z)
   have a:decide (p.1≠k)=true:=by simp[e]
   have b:decide (q.1≠k)=true:=by simp[e']
   rw[Hc a,Hc b];exact .cons ⟨h1,h2⟩ ih
theorem KV.length(r:KV kvs vs):kvs.length=vs.length:=Paired.length r
end
theorem rQ(r:bB (kV k) u):(bf P w).is k u=true:=by
 cases k with
 | inl i=>obtain⟨t,e⟩:=(show ∃t,u=Value.int i t from r);subst e;exact m5 P w i t
 | inr x=>obtain⟨t,e⟩:=(show ∃t,u=Value.str x t from r);subst e;exact ng P w x t
theorem me:∀ {ks:List Gg} {us:Zc},bF (ks.map kV) us->ItemsAre (bf P w) ks us
 | [],_,r=>by rw[Jo] at r;cases r;exact .nil
 | k::ks,_,r=>by
  rw[Hs] at r
  cases r with
  | cons h t=>exact .cons (rQ h) (me t)
abbrev KT(H:Hp):List (List Gg×V)->List (List Gg×Addr×Value)->Prop:=Paired λp q=>p.1=q.1/\H q.2.1=some (.tup (p.1.map kV))/\bB p.2 q.2.2
theorem KT.val(r:KT H kvs xs)(k:List Gg):px (ou kvs k) ((atKey xs k).map (·.2)):=by
 induction r with
 | nil=>exact True.intro
 | @cons p q ps qs h t ih =>
  obtain⟨h1,_,h2⟩:=h
  by_cases e:p.1=k
  ·have e':q.1=k:=h1.symm.trans e
   have b:atKey (q::qs) k=some q.2:=by simp[atKey,List.find?_cons,e']
   rw[gN e,b];exact h2
  ·have e':¬ q.1=k:=λz=>e (h1.trans z)
   have b:atKey (q::qs) k=atKey qs k:=by simp[atKey,List.find?_cons,e']
   rw[gX e,b];exact ih
theorem KT.repl(r:KT H kvs xs)(k:List Gg)(ry:bB y u) :
  KT H (kvs.map λkv=>if kv.1=k then (kv.1,y) else kv) (xs.map (putAt k u)):=by
 induction r with
 | nil=>exact .nil
 | @cons p q ps qs h t ih =>
  rw[Hs,Hs];refine .cons ?_ ih;obtain⟨h1,h2,h3⟩:=h;unfold putAt
  by_cases e:p.1=k
  ·rw[Hc e,Hc (h1.symm.trans e)];exact⟨h1,h2,ry⟩
  ·rw[Ha e,Ha (λz=>e (h1.trans z))];exact⟨h1,h2,h3⟩
theorem KT.put(r:KT H kvs xs)(k:List Gg)(hb:H b=some (.tup (k.map kV)))(ry:bB y u) :
  KT H (o0 kvs k y) (storedH xs k b u):=by
 have e:(kvs.any λkv=>decide (kv.1=k))=(atKey xs k).isSome:=by
  rw[pe,(r.val k).isSome_eq,Option.isSome_map]
 unfold o0 storedH;rw[e]
 by_cases q:(atKey xs k).isSome=true
 ·rw[Hc q,Hc q];exact r.repl k ry
 ·rw[Ha q,Ha q];exact Paired.snoc r ⟨rfl,hb,ry⟩
theorem KT.keeps(r:KT H kvs xs)(ht:∀b ys,H b=some (.tup ys)->H' b=some (.tup ys)):KT H' kvs xs :=
 Paired.mapP r λ_ _ z=>⟨z.1,ht _ _ z.2.1,z.2.2⟩
section
theorem CS(ok:Gk P w H h)(e:Rd H a u):b6 P w H h a u:=e.ok ok
theorem j8(ok:Gk P w H h)(e:Rd H a (.dK kvs)):kvs.length<=sizeLine/\(a==sysModules)=false/\∃vs,KV kvs vs/\h.DictOf (bf P w) a vs :=
 show b6 P w H h a (.dK kvs) from CS ok e
theorem zg(ok:Gk P w H h)(e:H a=some (.dK kvs)):kvs.length<=sizeLine/\(a==sysModules)=false/\∃vs,KV kvs vs/\h.DictOf (bf P w) a vs:=j8 ok (.inl e)
theorem jP(ok:Gk P w H h)(e:H a=some (.tup (ks.map kV))):(tupleKind (bf P w)).is h ks a:=by
 obtain⟨_,aa,r,o,h1,h2,n,h3⟩:=(show b6 P w H h a (.tup (ks.map kV)) from ok a _ e);exact⟨o,aa.toArray,n,h1,h2,h3,by simpa using me r⟩
theorem oQ(ok:Gk P w H h)(e:Rd H a (.dT kvs)):kvs.length<=sizeLine/\(a==sysModules)=false /\
  ∃xs,KT H kvs xs/\h.DictOfH (tupleKind (bf P w)) a xs:=by
 obtain⟨z,y,xs,r,o,es,ep,h1,h2,h3,h4,h5⟩:=(show b6 P w H h a (.dT kvs) from CS ok e);refine⟨z,y,xs,r,o,es,ep,h1,h2,h3,h4,λx hx=>?_,h5⟩;have all:∀ {l:List (List Gg×V)} {m:List (List Gg×Addr×Value)},KT H l m->∀x∈m,(tupleKind (bf P w)).is h x.1 x.2.1:=by
  intro l m q
  induction q with
  | nil=>intro x hx;exact nomatch hx
  | @cons p q ps qs hq t ih =>
   intro x hx
   rcases GY.mp hx with e | hx
   ·subst e;exact jP ok (by rw[<- hq.1];exact hq.2.1)
   ·exact ih x hx
 exact all r x hx
theorem EW(ok:Gk P w H h)(e:H a=some (.dT kvs)):kvs.length<=sizeLine/\(a==sysModules)=false /\
  ∃xs,KT H kvs xs/\h.DictOfH (tupleKind (bf P w)) a xs:=oQ ok (.inl e)
end
def mQ(H:Hp)(a:Addr)(y:V)(r:Option V):Prop :=
 (∃kvs k,Rd H a (.dK kvs)/\y=kV k/\r=ou kvs k)\/∃kvs k b,Rd H a (.dT kvs)/\y=.ref b/\H b=some (.tup (k.map kV))/\r=ou kvs k
def AS(H:Hp)(a:Addr)(y v:V)(H':Hp):Prop :=
 (∃kvs k,H a=some (.dK kvs)/\y=kV k/\kvs.length<sizeLine/\H'=GE H a (.dK (o0 kvs k v))) \/
 ∃kvs k b,H a=some (.dT kvs)/\y=.ref b/\H b=some (.tup (k.map kV))/\kvs.length<sizeLine/\H'=GE H a (.dT (o0 kvs k v))
theorem mQ.k{H:Hp}{a:Addr}{kvs:List (Gg×V)}{k:Gg}(e:H a=some (.dK kvs)):mQ H a (kV k) (ou kvs k):=.inl ⟨kvs,k,.inl e,rfl,rfl⟩
theorem mQ.t{H:Hp}{a b:Addr}{kvs:List (List Gg×V)}{k:List Gg}(e:H a=some (.dT kvs))(eb:H b=some (.tup (k.map kV))):mQ H a (.ref b) (ou kvs k):=.inr ⟨kvs,k,b,.inl e,rfl,eb,rfl⟩
theorem AS.k{H:Hp}{a:Addr}{kvs:List (Gg×V)}{k:Gg}{v:V}(e:H a=some (.dK kvs))(hl:kvs.length<sizeLine):AS H a (kV k) v (GE H a (.dK (o0 kvs k v))):=.inl ⟨kvs,k,e,rfl,hl,rfl⟩
theorem AS.t{H:Hp}{a b:Addr}{kvs:List (List Gg×V)}{k:List Gg}{v:V}(e:H a=some (.dT kvs))(eb:H b=some (.tup (k.map kV)))(hl:kvs.length<sizeLine) :
  AS H a (.ref b) v (GE H a (.dT (o0 kvs k v))):=.inr ⟨kvs,k,b,e,rfl,eb,hl,rfl⟩
section
theorem Inv.big(I:Inv X pins σ H s):sysModules<s.heap.objs.size:=by
 have h:mainGlobals<s.heap.objs.size:=(I.mod.glob.keeps I.bk).lt
 exact Nat.lt_trans (by decide) h
theorem tK(hu:A.units+1<cLine)(I:Inv X pins σ H s)(g:mQ H a y (some v))(ry:bB y u)(h:∀w' s',Inv X pins σ H s'->bB v w'->Q w' s') :
  wpAny (model X.prog X.w) A (getItem (.ref a) u) Q E s:=by
 rcases g with⟨kvs,k,e,ey,l⟩ | ⟨kvs,k,b,e,ey,eb,l⟩
 ·subst ey;obtain⟨z,hd,vs,ab,dd⟩:=j8 I.hok e;obtain⟨w',hw,aa⟩:=px.some_of (v:=v) (o:=valueAt vs k) (by rw[l];exact ab.val k);exact wpAny_getItem_of (rQ ry) dd.mapOf hw (h w' _ (I.tok _) aa)
 ·subst ey
  cases (show u=Value.ref b from ry)
  obtain⟨z,hd,xs,ab,dd⟩:=oQ I.hok e;obtain⟨w',hw,aa⟩:=px.some_of (v:=v) (o:=(atKey xs k).map (·.2)) (by rw[l];exact ab.val k);obtain⟨p,hp,ah⟩:=JW.mp hw;refine wpAny_getItem_heap (Jk hu) (jP I.hok eb) dd hp ?_;rw[ah];exact h w' _ (I.tok _) aa
theorem d_in(hu:A.units+1<cLine)(I:Inv X pins σ H s)(g:mQ H a y o)(ry:bB y u)(h:∀s',Inv X pins σ H s'->Q (.bool o.isSome) s') :
  wpAny (model X.prog X.w) A (compareOp .In u (.ref a)) Q E s:=by
 rcases g with⟨kvs,k,e,ey,l⟩ | ⟨kvs,k,b,e,ey,eb,l⟩
 ·subst ey;obtain⟨z,hd,vs,aa,dd⟩:=j8 I.hok e;refine wpAny_in_of (rQ ry) hd dd.mapOf ?_;rw[<- (aa.val k).isSome_eq,<- l];exact h _ (I.tok _)
 ·subst ey
  cases (show u=Value.ref b from ry)
  obtain⟨z,hd,xs,aa,dd⟩:=oQ I.hok e;refine wpAny_in_heap (Jk hu) (jP I.hok eb) hd dd ?_;have q:=(aa.val k).isSome_eq;rw[Option.isSome_map] at q;rw[<- q,<- l];exact h _ (I.tok _)
theorem uV(hu:A.units+1<cLine)(I:Inv X pins σ H s)(g:mQ H a y o)(ry:bB y u)(h:∀s',Inv X pins σ H s'->Q (.bool (!o.isSome)) s') :
  wpAny (model X.prog X.w) A (compareOp .NotIn u (.ref a)) Q E s:=by
 rcases g with⟨kvs,k,e,ey,l⟩ | ⟨kvs,k,b,e,ey,eb,l⟩
 ·subst ey;obtain⟨z,hd,vs,aa,dd⟩:=j8 I.hok e;refine wpAny_notIn_of (rQ ry) hd dd.mapOf ?_;rw[<- (aa.val k).isSome_eq,<- l];exact h _ (I.tok _)
 ·subst ey
  cases (show u=Value.ref b from ry)
  obtain⟨z,hd,xs,aa,dd⟩:=oQ I.hok e;refine wpAny_notIn_heap (Jk hu) (jP I.hok eb) hd dd ?_;have q:=(aa.val k).isSome_eq;rw[Option.isSome_map] at q;rw[<- q,<- l];exact h _ (I.tok _)
theorem uy(I:Inv X pins σ H s)(mu:Mut (H a))(hs:Heap.SameBut a s.heap h')(he:∃q,h'.get? a=some q)(new:b6 X.prog X.w (GE H a ob) h' a ob) :
  Inv X pins σ (GE H a ob) { s with heap:=h',toks:=t' } :=
 I.write (x:=a) (e:=a) mu (.inl rfl) (λb q hb z=>(hs.2 b hb).trans z) he new
theorem xH(z:kvs.length<=sizeLine)(hd:(a==sysModules)=false)(rel:KV kvs vs)(dd:h'.DictOf (bf P w) a vs) :
  b6 P w H' h' a (.dK kvs):=⟨z,hd,vs,rel,dd⟩
theorem sI(hu:A.units+1<cLine)(I:Inv X pins σ H s)(g:AS H a y v H')(ry:bB y u)(rv:bB v r)(h:∀s',Inv X pins σ H' s'->Q () s') :
  wpAny (model X.prog X.w) A (setItem (.ref a) u r) Q E s:=by
 rcases g with⟨kvs,k,e,ey,l,eH⟩ | ⟨kvs,k,b,e,ey,eb,l,eH⟩
 ·subst ey eH;obtain⟨z,hd,vs,aa,dd⟩:=zg I.hok e;have hz:vs.length<=sizeLine:=by rw[<- aa.length];exact z
  have hl:(o0 kvs k v).length<=sizeLine:=by have:=iy kvs k v;omega
  refine wpAny_setItem_pairs (hsz:=hz) (rQ ry) dd λh' dd' hs=>h _ ?_;have he:∃q,h'.get? a=some q:=let ⟨q,_,_,hq,_⟩:=dd';⟨q,hq⟩;exact uy I (by rw[e];exact True.intro) hs he (xH hl hd (aa.put k rv) dd')
 ·subst ey eH
  cases (show u=Value.ref b from ry)
  obtain⟨z,hd,xs,aa,dd⟩:=EW I.hok e;have hz:xs.length<=sizeLine:=by rw[<- Paired.length aa];exact z
  have hl:(o0 kvs k v).length<=sizeLine:=by have:=iy kvs k v;omega
  refine wpAny_setItem_heap (hsz:=hz) (Jk hu) (jP I.hok eb) dd λh' dd' hs=>h _ ?_;obtain⟨q,es,ep,hq,h2,h3,h4,_,h5⟩:=dd';refine uy I (by rw[e];exact True.intro) hs ⟨q,hq⟩ ⟨hl,hd,_,(aa.put k eb rv).keeps λc ys ec=>?_,q,es,ep,hq,h2,h3,h4,h5⟩;rw[aH (Gc ec e (λz=>nomatch z))];exact ec
end
section
end
def NoSl(i:Expr):Prop:=∀ov iv,subscripted i false ov iv=operate [ov,iv] (getItem ov iv)
theorem Bm{w:World}{E:Value->Shared->Prop}{id:String}{Q:Value->Shared->Prop}
  (hl:typeLookup (.type T) "__getitem__"=pure (some (.builtin id))) (hs:NoSl slice)
  (h:wpAny (model prog w) A (eval value env) (λo s₁=>wpAny (model prog w) A (eval slice env) (λi s₂=>s₂.TypeIs o T/\wpAny (model prog w) A (getItem o i) Q E s₂) E s₁) E s) :
  wpAny (model prog w) A (eval (.Subscript value slice pos) env) Q E s:=by
 refine Subscript_ (HX h (λo s₁ h₁=>HX h₁ (λi s₂ h₂=>?_) λ_ _ x=>x) λ_ _ x=>x);obtain⟨hT,h₂⟩:=h₂;unfold subscriptTail;refine GM ?_;rw[getitemInPython_of_ne hT.not_modules];refine GM (wpAny_specialOf hT hl ?_);have aa:wpAny (model prog w) A (subscripted slice false o i) (λr s₃=>wpAny (model prog w) A (letTemporaryGo value o r >>= λ_=>pure r) Q E s₃) E s₂:=by
  rw[hs o i];exact wpAny_operating (HX h₂ (λr s₃ h₃=>GM (wpAny_letTemporaryGo (GQ h₃))) λ_ _ x=>x)
 first
  | exact GQ (GM aa)
  | exact GM (GQ (GM aa))
  | exact GM aa
theorem nM(I:Inv X pins σ H s)(g:mQ H a y o):s.TypeIs (.ref a) "dict":=by
 rcases g with⟨kvs,k,e,_,_⟩ | ⟨kvs,k,b,e,_,_,_⟩
 ·obtain⟨_,_,vs,_,dd⟩:=j8 I.hok e;exact dd.typeIs
 ·obtain⟨_,_,xs,_,dd⟩:=oQ I.hok e;exact dd.typeIs
def F5(td ty:TE):TE:=λσ H Q=>td σ H λx H1=>ty σ H1 λy H2=>∃a v,x=.ref a/\mQ H2 a y (some v)/\Q v H2
def FG(td ty tv:TE):TS:=λD σ H=>tv σ H λv H1=>td σ H1 λx H2=>ty σ H2 λy H3=>∃a H4,x=.ref a/\AS H3 a y v H4/\D.nx σ H4
section
theorem AL(hu:X.A.units+1<cLine)(ho:PE X o td)(hi:PE X i ty)(hs:NoSl i):PE X (.Subscript o i pos) (F5 td ty):=by
 intro pins s σ H Q I h;refine Bm PySem.F.slot_dict_getitem.lookup hs (Gj (ho pins s σ H _ I h) λu s1 ⟨x,H1,I1,rx,q1⟩=>Gj (hi pins s1 σ H1 _ I1 q1) λiv s2 ⟨y,H2,I2,ry,a,v,ex,g,q2⟩=>?_);subst ex;obtain rfl:u=Value.ref a:=rx;exact⟨nM I2 g,tK hu I2 g ry λw' s3 I3 rw'=>⟨v,H2,I3,rw',q2⟩⟩
theorem AY(hu:X.A.units+1<cLine)(ho:PE X o td)(hi:PE X i ty)(hv:PE X value tv)(hs:swapsWith value (some (.Subscript o i pos')) pos.line X.env=pure false) :
  PS X (.Assign [.Subscript o i pos'] value pos) (FG td ty tv):=by
 intro pins s σ H D I h;refine wpAny_Assign_Subscript (Gj (hv pins s σ H _ I h) λr s1 ⟨v,H1,I1,rv,q1⟩=>Gj (ho pins s1 σ H1 _ I1 q1) λu s2 ⟨x,H2,I2,rx,q2⟩=>Gj (hi pins s2 σ H2 _ I2 q2) λiv s3 ⟨y,H3,I3,ry,a,H4,ex,g,q3⟩=>?_) hs;subst ex;obtain rfl:u=Value.ref a:=rx;exact sI hu I3 g ry rv λs4 I4=>⟨σ,H4,I4,q3⟩
end
theorem vz(h:Heap)(hb:sysModules<h.objs.size):b6 P w H (h.push { cls:=.type "dict",data:=.dict #[] }) h.objs.size (.dK []) :=
 ⟨Ir _,JH.mpr (IF (Ho hb)),[],.nil,Heap.DictOf.new h⟩
def DP:TE:=λ_ H Q=>∀p,H p=none->Q (.ref p) (GE H p (.dK []))
section
theorem qJ:PE X (.Dict [] [] pos) DP:=λpins s σ H Q I h =>
 wpAny_Dict_empty ⟨.ref s.heap.objs.size,_,I.laid (a:=s.heap.objs.size) (o:=.dK []) (t':=s.toks) (λ_ _ q=>GO _ q) (GU _) (vz s.heap I.big),rfl,h _ (I.hok.fresh (GU _))⟩
end
structure M1(X:Cx)(o:Expr)(m:Str)(apos:Pos)(e:Expr)(cpos:Pos):Prop where
 base:attributeBase o m X.env (eval o X.env)=eval o X.env
 few:((backTo cpos (starEach [e] X.env)).all (λx=>!x.1)&&(backToKw cpos (keywordEach [] X.env)).all (λx=>x.1.isSome)
  && decide (([e]:List Expr).length+([]:List Keyword).length+(if ([]:List Keyword).isEmpty then 0 else 1)<30))=true
 line:(apos.endLine==cpos.line)=true
 trees:backTo cpos (starEach [e] X.env)=[(false,eval e X.env)]
structure M2(X:Cx)(o:Expr)(m:Str)(apos:Pos)(e f:Expr)(cpos:Pos):Prop where
 base:attributeBase o m X.env (eval o X.env)=eval o X.env
 few:((backTo cpos (starEach [e,f] X.env)).all (λx=>!x.1)&&(backToKw cpos (keywordEach [] X.env)).all (λx=>x.1.isSome)
  && decide (([e,f]:List Expr).length+([]:List Keyword).length+(if ([]:List Keyword).isEmpty then 0 else 1)<30))=true
 line:(apos.endLine==cpos.line)=true
 trees:backTo cpos (starEach [e,f] X.env)=[(false,eval e X.env),(false,eval f X.env)]
def IsD(H:Hp)(a:Addr):Prop:=(∃kvs,Rd H a (.dK kvs))\/∃kvs,Rd H a (.dT kvs)
theorem Ej(I:Inv X pins σ H s)(d:IsD H a) :
  s.TypeIs (.ref a) "dict"/\(∀b,Value.ref a=.ref b->∃ob,s.heap.get? b=some ob/\ob.dict=none)/\(a==sysModules)=false:=by
 rcases d with⟨kvs,e⟩ | ⟨kvs,e⟩
 ·obtain⟨_,hd,vs,_,dd⟩:=j8 I.hok e;refine⟨dd.typeIs,λb q=>?_,hd⟩
  cases q
  obtain⟨ob,_,_,h1,h2,_⟩:=dd;exact⟨ob,h1,h2.2.1⟩
 ·obtain⟨_,hd,xs,_,dd⟩:=oQ I.hok e;refine⟨dd.typeIs,λb q=>?_,hd⟩
  cases q
  obtain⟨ob,_,_,h1,h2,_⟩:=dd;exact⟨ob,h1,h2.2.1⟩
section
theorem Ec(hu:A.units+1<cLine)(I:Inv X pins σ H s)(g:mQ H a y o)(ry:bB y u)(rd:bB d r)(h:∀w' s',Inv X pins σ H s'->bB (o.getD d) w'->Q w' s') :
  wpAny (model X.prog X.w) A (call (.builtin "dict.get") [.ref a,u,r]) Q E s:=by
 rcases g with⟨kvs,k,e,ey,l⟩ | ⟨kvs,k,b,e,ey,eb,l⟩
 ·subst ey;obtain⟨z,hd,vs,aa,dd⟩:=j8 I.hok e;refine call_meetsIn J6 dd.typeIs PySem.F.entry_dict_get (PySem.F.args_dict_get_3 _ _ _) (meets_dict_get_default (bf X.prog X.w) a (rQ ry) hd r) ⟨_,dd.mapOf,h _ _ (I.tok _) ?_⟩;rw[l];exact(aa.val k).getD rd
 ·subst ey
  cases (show u=Value.ref b from ry)
  obtain⟨z,hd,xs,aa,dd⟩:=oQ I.hok e;refine call_meetsIn J6 dd.typeIs PySem.F.entry_dict_get (PySem.F.args_dict_get_3 _ _ _) (meetsH_dict_get_default (tupleKind (bf X.prog X.w)) a b hd r) ⟨Jk hu,k,xs,jP I.hok eb,dd,h _ _ (I.tok _) ?_⟩;rw[l];exact(aa.val k).getD rd
end
def DI(td ty tx:TE):TE:=λσ H Q=>td σ H λx H1=>∃a,x=.ref a/\IsD H1 a/\ty σ H1 λy H2=>tx σ H2 λz H3=>∃o,mQ H3 a y o/\Q (o.getD z) H3
section
theorem vA(hu:X.A.units+1<cLine)(ho:PE X o td)(he:PE X e ty)(hf:PE X f tx)(m:M2 X o "get" apos e f cpos):PE X (.Call (.Attribute o "get" apos) [e,f] [] cpos) (DI td ty tx):=by
 intro pins s σ H Q I h;refine wpAny_Call_method m.base m.few m.line PySem.F.plainAttrs_dict J6 PySem.F.type_dict_get (Gj (ho pins s σ H _ I h) λu s1 ⟨x,H1,I1,rx,a,ex,d,q1⟩=>?_);subst ex;obtain rfl:u=Value.ref a:=rx;obtain⟨t1,t2,_⟩:=Ej I1 d;refine⟨t1,t2,?_⟩;rw[m.trees]
 refine JX rfl (Ke (Jj (Gj (he pins s1 σ H1 _ I1 q1) λiv s2 ⟨y,H2,I2,ry,q2⟩ =>
  Jj (Gj (hf pins s2 σ H2 _ I2 q2) λfv s3 ⟨z,H3,I3,rz,ov,g,q3⟩=>J1 ?_))))
 exact Ec hu I3 g ry rz λw' s4 I4 rw'=>⟨_,H3,I4,rw',q3⟩
end
section
end
section
end
end L2
namespace Att
open PySem PySem.W PySem.Calls PyProof.Rows
theorem iu:∀(ns:Ze) (vs:Zc),WellAll P h vs (ns.map WData.int)->IntsAre vs ns:=by
 intro ns
 induction ns with
 | nil =>
  intro vs w;rw[Jo] at w
  cases w
  exact .nil
 | cons n ns ih =>
  intro vs w;rw[Hs] at w
  cases w with
  | cons a b =>
   cases a
   exact .cons _ _ (ih _ b)
theorem script_of{l:OpenLaw}(hn:l.most=some n){h:Heap}
  (hpre:l.row.toRowW.claim.pre args=true) (hwl:WellAll P h vals args) :
  ∃a vs ns,vals=[Value.ref a]/\args=[WData.list (ns.map WData.int)]/\h.get? a=some { cls:=.type "list",data:=.seq vs.toArray }/\IntsAre vs ns/\ns.length<=n:=by
 have ab:WShape.hasAll [] args [.list .int]=true:=(pre_splitW hpre).1
 have hc:l.pre.holds [] { args:=args }=true:=(pre_splitW hpre).2
 obtain⟨d,r,rfl,h1,h2⟩:=hasAllW_cons ab;obtain rfl:=hasAllW_nil h2;obtain⟨xs,rfl,h3⟩:=hasW_list h1;obtain⟨ns,rfl⟩:=items_int h3;have aa:ns.length<=n:=by
  unfold OpenLaw.pre at hc;have h4:(WTm.not (.lt (.lit (.int (n:Int))) (.len (.arg 0)))).holds [] { args:=[.list (ns.map .int)] }=true:=by
   have h4:=(holds_andW hc).1
   rw[hn] at h4;exact h4
  have h5:=condW_of h4 (w_not (w_lt w_lit (w_len_list (w_arg rfl))))
  rw[GN] at h5;refine Nat.le_of_not_lt λq=>?_;have q':(n:Int)<((ns.length:Nat):Int):=by omega
  first
   | (rw[HJ q'] at h5;exact absurd h5 (by decide))
   | (simp at h5;omega)
 cases hwl with
 | cons w1 w2 =>
  cases w2
  cases w1 with
  | list ho hall=>exact⟨_,_,ns,rfl,rfl,ho,iu ns _ hall,aa⟩
theorem post_true(l:OpenLaw)(args:List WData):l.row.toRowW.claim.post args (.bool true) args=true :=
 postW_of (r:=l.row.toRowW) (X:=(true==true))
  (show WShape.has [] (.bool true) .bool=true by first | rfl | decide | simp[WShape.has,WShape.arms,WShape.armsAll])
  (show (WTm.eq .res (.lit (.bool true))).value [] { args:=args,res:=some (.bool true),after:=args }=some (.bool (true==true)) from w_eq_bool (w_res rfl) w_lit) rfl
section
end
end Att
namespace L2
open PySem PySem.Spec PyProof.Rows
theorem lF:∀ {vs:Zc} {ns:Ze},IntsAre vs ns->bF (ns.map V.int) vs
 | _,_,.nil=>.nil
 | _,_,.cons n t h=>.cons ⟨t,rfl⟩ (lF h)
def Only(H:Hp):Prop:=∀b,H b=none\/∃o xs,H b=some (.frz o (.lst xs))
theorem wU{w:World}{K:Zf}{mg mb:Str->Zd}{a:Addr}{x:Str}{s₁:Shared}{vs:Zc}{ns:Ze}
  (KX:K.In s₁.heap) (hns:s₁.heap.Ns mainGlobals mg) (hb:s₁.heap.Ns builtinsNs mb) (hbb:∀x:Str,x≠"__name__"->mb x=bootBuiltins x) (hlim:s₁.heap.NoLimit) (hg:s₁.gens=#[])
  (ha:s₁.heap.get? a=some { cls:=.type "list",data:=.seq vs.toArray }) (hi:IntsAre vs ns) (hl:ns.length<=sizeLine) (hr:cK k callerA)
  (F:∀base:Heap,K.In base->base.Ns mainGlobals mg->fG P w K mg base CX k fa fd [x] sp) (hbind:∀(s:Shared) (u:Value),BindsTo s fd ⟨[u],[]⟩ [(x,u)])
  (hsp:∀H:Hp,Only H->GL K H a (ns.map V.int)->sp [.ref a] H (λv _=>v=.bl true) λ_ _ _=>False)
  (hCX:∀H e s',CX [] H s₁ (λ_ _ _=>False) e s'->False) :
  codeAny (model P w) callerA (.call (.ref fa) ⟨[.ref a],[]⟩) (λr s'=>r=.ok (.ret (.bool true))/\OldK s₁.heap s'.heap/\s'.os=s₁.os/\AllBare s'.gens) s₁:=by
 have rv:=lF hi
 have aj:=hi.length
 have ah:∀H:Hp,Only H->GL K H a (ns.map V.int)->Gk P w H s₁.heap->(∀b,H b≠none->b=a)->(H a≠none->K.lookup a=none) ->
   codeAny (model P w) callerA (.call (.ref fa) ⟨[.ref a],[]⟩) (λr s'=>r=.ok (.ret (.bool true))/\OldK s₁.heap s'.heap/\s'.os=s₁.os/\AllBare s'.gens) s₁:=by
  intro H hO hS hok hA hK;have aa:∀ {b:Addr} {o:Obj},s₁.heap.get? b=some o->H b=none->(wy s₁.heap H).get? b=some o:=λe n=>wZ e n;have ao:∀ {b:Addr} {o:Obj} {es:Array DictEntry} {ep:Nat},s₁.heap.get? b=some o->o.data=.dict es ep->H b=none:=λ{b o es ep} e d=>by
   cases q:H b with
   | none=>rfl
   | some u =>
    have e':b=a:=hA b (by rw[q];simp)
    subst e';rw[ha] at e;cases e;have d':Data.seq vs.toArray _=Data.dict es ep:=d
    cases d'
  have ab:∀ {b:Addr} {m:Str->Zd},s₁.heap.Ns b m->(wy s₁.heap H).Ns b m:=λ{b m} ⟨o,es,ep,e,d,r⟩=>⟨o,es,ep,aa e (ao e d),d,r⟩
  have ai:K.In (wy s₁.heap H):=λb o e=>aa (KX b o e) (by
   cases q:H b with
   | none=>rfl
   | some u =>
    have e':b=a:=hA b (by rw[q];simp)
    subst e'
    rw[hK (by rw[q];simp)] at e;cases e)
  have hM:Mod K mg (wy s₁.heap H):=⟨ai,ab hns,⟨mb,ab hb,hbb⟩,let ⟨mc,h1,h2⟩:=hlim;⟨mc,ab h1,h2⟩⟩
  have e0:AU P w K mg (wy s₁.heap H) callerA [] s₁ H:=⟨rfl,hM,λb o e=>yW e,Nat.le_of_eq (uH _ _),trivial,λb hb=>absurd (show b∈([]:List Addr) from hb) (by simp),hok,.of_eq hg⟩
  refine Jn ((F _ ai (ab hns)).run callerA [] s₁ H ⟨[.ref a],[]⟩ [.ref a] [.ref a] _ _ hr e0 (hbind s₁ (.ref a)) (.cons rfl .nil) (hsp H hO hS)) λr s' h=>?_
  cases r with
  | error e=>exact(hCX H e s' h).elim
  | ok fl =>
   cases fl with
   | next=>exact False.elim h
   | brk=>exact False.elim h
   | cont=>exact False.elim h
   | ret u =>
    obtain⟨v,H',os,an,un,al,r',q⟩:=h;have q':v=.bl true:=q;subst q';obtain rfl:u=Value.bool true:=r';refine⟨rfl,OldK.of_keep λb o e=>?_,os,an⟩
    cases q:H b with
    | none=>exact un.keep b o e q (by intro z;exact absurd (show b∈([]:List Addr) from z) (by simp)) (by simp)
    | some u =>
     rcases hO b with z | ⟨ob,xs,z⟩
     ·rw[q] at z;cases z
     ·have z2:=un.frzs b ob _ z
      obtain⟨e1,_⟩:=hok b _ z;obtain⟨e2,_⟩:=al b _ z2;rw[e] at e1;cases e1;exact e2
 cases hk:K.lookup a with
 | some o =>
  have e:=KX a o hk
  rw[ha] at e
  cases e
  refine ah (λ_=>none) (λ_=>.inl rfl) (.inr ⟨_,vs.toArray,_,hk,rfl,rfl,rfl,by rw[G8,aj];exact hl,by simpa using rv⟩) (λb u z=>by have z':(none:Option HO)=some u:=z;cases z') (λb z=>absurd rfl z) λz=>absurd rfl z
 | none =>
  refine ah (λb=>if b=a then some (.frz { cls:=.type "list",data:=.seq vs.toArray } (.lst (ns.map V.int))) else none) (λb=>?_) (.inl (.inr ⟨{ cls:=.type "list",data:=.seq vs.toArray },Hc rfl⟩)) (λb u z=>?_) (λb z=>?_) λ_=>hk
  ·by_cases hb:b=a
   ·exact .inr ⟨_,_,Hc hb⟩
   ·exact .inl (Ha hb)
  ·by_cases hb:b=a
   ·have z':=(Hc hb).symm.trans z
    cases z'
    subst hb;exact⟨ha,by rw[GN];exact hl,vs,_,rv,ha⟩
   ·have z':=(Ha hb).symm.trans z
    cases z'
  ·by_cases hb:b=a
   ·exact hb
   ·exact absurd (Ha hb) z
end L2
namespace L2
open PySem PySem.Spec PyProof.Rows
abbrev CX0:CXT:=λ_ _ _ _ _ _=>False
abbrev E0:XK:=λ_ _ _=>False
theorem zM:pV CX0 X E0:=λ_ _ _ _ _ _ _ h=>h.elim
structure Fun(K:Zf)(x qual:Str)(st:Stmt)(f:Addr)(fd:FuncData):Prop where
 ex:∃(oc:Value) (od:Option Addr) (kV doc pm:Value) (an:Option Addr) (cdv ct:Value) (osl:Array (Zd)),
  fd=PySem.W.fnOf x qual (bS st) (aW st) (am st) .none kV doc pm an cdv ct/\K.lookup f=some ⟨oc,od,.func fd,osl⟩/\PySem.W.codeIn K cdv qual=true
 kp:PySem.W.keepIn K (.ref f)=true
section
theorem Fun.ok{w:World}{K:Zf}{mg:Str->Zd}{st:Stmt}{ps:Zb}(F:Fun K x qual st f fd)(S:ay N ps (am st))(len:∀vs H Q E,sp vs H Q E->vs.length=ps.length)
    (hbody:∀(cdv:Value) (A:Around) (outer:List Env) (s:Shared) (H:Hp) (vs:Zg) (Q:VK) (E:XK),cK k (A.deeper (envOfC qual (am st) s.heap.objs.size f cdv))->sp vs H Q E ->
      ∃t,PSs (oK CX0 P w K mg base N qual (am st) f cdv A outer s H E).nox (aW st) t/\t { nx:=λ_ H'=>Q .non H',rt:=Q } (start N vs) H):fG P w K mg base CX0 (k+1) f fd ps sp:=by
  obtain⟨oc,od,kV,ah,pm,an,cdv,ct,ab,rfl,lk,aa⟩:=F.ex;refine DJ lk aa S len λA outer s H vs Q E hr hsp=>?_;obtain⟨t,h,q⟩:=hbody cdv A outer s H vs Q E hr hsp;exact⟨t,h.nox,q⟩
theorem Fun.binds{K:Zf}{st:Stmt}{ps:Zb}(F:Fun K x qual st f fd)
  (h:∀(kV doc pm:Value) (an:Option Addr) (cdv ct:Value) (us:Zc),us.length=ps.length->bindArgs (PySem.W.fnOf x qual (bS st) (aW st) (am st) .none kV doc pm an cdv ct) ⟨us,[]⟩=pure (ps.zip us)):eC K fd ps []:=by
 obtain⟨oc,od,kV,doc,pm,an,cdv,ct,aa,rfl,lk,ab⟩:=F.ex;exact .all (h kV doc pm an cdv ct)
theorem yy{K:Zf}{st:Stmt}{kV:Value}(l:K.lookup f=some ⟨oc,od,.func (PySem.W.fnOf x qual (bS st) (aW st) (am st) .none kV doc pm an cdv ct),osl⟩)
  (c:PySem.W.codeIn K cdv qual=true) (k:PySem.W.keepIn K (.ref f)=true):Fun K x qual st f (PySem.W.fnOf x qual (bS st) (aW st) (am st) .none kV doc pm an cdv ct):=⟨⟨oc,od,kV,doc,pm,an,cdv,ct,osl,rfl,l,c⟩,k⟩
end
section
theorem pv(i:Nat)(hN:X.N[i]?=some x:=by rfl)(hv:Vis X.env.scope x:=by walk_at "v3")(hd:(x==("__debug__":Str))=false:=by decide)
  (hcd:(x==("__classdict__":Str))=false:=by decide):PE X (.Name x pos) (wE i):=bA hN hv hd hcd
end
theorem dI{c A B:Prop}[Decidable c](h1:c->A)(h2:¬ c->B):if c then A else B:=by
 by_cases h:c
 ·rw[Hc h];exact h1 h
 ·rw[Ha h];exact h2 h
def bH(H H':Hp):Prop:=∀b o,H b=some o->H' b=some o
theorem bH.refl(H:Hp):bH H H:=λ_ _ h=>h
theorem bH.trans(a:bH H H1)(b:bH H1 H2):bH H H2:=λc o h=>b c o (a c o h)
theorem bH.seq{K:Zf}{H H':Hp}(e:bH H H')(h:GL K H a xs):GL K H' a xs:=by
 rcases h with(h | ⟨o,h⟩) | h
 ·exact .inl (.inl (e _ _ h))
 ·exact .inl (.inr ⟨o,e _ _ h⟩)
 ·exact .inr h
section
variable {κ:Type} [DecidableEq κ]
end
end L2
namespace DL
open PySem L2
inductive D where
 | non | bl (b:Bool) | int (i:Int) | str (x:Str)
 | tup (xs:List D) | lst (xs:List D) | fz (xs:List D) | dct (ks:Zb) (vs:List D) | fd (ks:Zb) (vs:List D) | fo (o:Obj) (ks:Zb) (vs:List D) | exn (c f:Str) (x:D)
abbrev Zh:=D->Prop
abbrev Zi:=List D
mutual
def D.im:D->Bool
 | .tup xs=>D.ims xs
 | .lst _=>false
 | .fz xs=>D.ims xs
 | .dct _ _=>false
 | .fd _ xs=>D.ims xs
 | .fo _ _ xs=>D.ims xs
 | .exn _ _ _=>false
 | .non=>true
 | .bl _=>true
 | .int _=>true
 | .str _=>true
def D.ims:Zi->Bool
 | []=>true
 | x::r=>D.im x&&D.ims r
end
abbrev GD(C:Addr)(dx:Option Addr)(a t:Value):Obj:={ cls:=.ref C,dict:=dx,data:=.fields #[a,t,.none,.none,.bool false,.none] }
def XAt(e C dx:Addr):HO:=.ext λh=>∃a t,h.get? e=some (GD C (some dx) a t)
def ug(e C dx:Addr):HO:=.ext λh=>∃a,h.get? e=some (GD C (some dx) a .none)
structure xy(K:Zf)(M:Addr->Prop)(H:Hp)(c f:Str)(v y:V):Prop where
 ex:∃e C dx,v=.ref e/\¬ M e/\¬ M dx/\(H e=some (XAt e C dx)\/H e=some (ug e C dx))/\H dx=some (.xd [(f,y)])/\PySem.W.nsIn K mainGlobals c=some (some (.ref C))
def bG(ks:Zb)(vs:Zg):List (Gg×V):=(ks.map Sum.inr).zip vs
def H0:Hp:=λ_=>none
def BC(K:Zf)(H:Hp)(a:Addr)(vs:Zg):Prop:=(∃o,H a=some (.frz o (.lst vs)))\/GL K H0 a vs
mutual
def GI(K:Zf)(M:Addr->Prop)(H:Hp):D->V->Prop
 | .non,v=>v=.non
 | .bl b,v=>v=.bl b
 | .int i,v=>v=.int i
 | .str x,v=>v=.str x
 | .tup ds,v=>∃a vs,v=.ref a/\GA K H a vs/\Reps K M H ds vs
 | .lst ds,v=>∃a vs,v=.ref a/\¬ M a/\H a=some (.lst vs)/\Reps K M H ds vs
 | .fz ds,v=>∃a vs,v=.ref a/\BC K H a vs/\Reps K M H ds vs
 | .dct ks ds,v=>∃a vs,v=.ref a/\¬ M a/\H a=some (.dK (bG ks vs))/\ks.length=ds.length/\Reps K M H ds vs
 | .fd ks ds,v=>∃a vs o,v=.ref a/\H a=some (.frz o (.dK (bG ks vs)))/\ks.length=ds.length/\Reps K M H ds vs
 | .fo o ks ds,v=>∃a vs,v=.ref a/\H a=some (.frz o (.dK (bG ks vs)))/\ks.length=ds.length/\Reps K M H ds vs
 | .exn c f d,v=>∃y,xy K M H c f v y/\GI K M H d y
def Reps(K:Zf)(M:Addr->Prop)(H:Hp):Zi->Zg->Prop
 | [],vs=>vs=[]
 | d::ds,vs=>∃v r,vs=v::r/\GI K M H d v/\Reps K M H ds r
end
structure Kp(M:Addr->Prop)(H H':Hp):Prop where
 un:∀b o,H b=some o->¬ M b->H' b=some o
 tu:∀b xs,H b=some (.tup xs)->H' b=some (.tup xs)
 fr:∀b o u,H b=some (.frz o u)->H' b=some (.frz o u)
theorem Kp.of_same(h:bH H H'):Kp M H H':=⟨λb o e _=>h b o e,λb xs e=>h b _ e,λb o u e=>h b _ e⟩
theorem Kp.refl:Kp M H H:=Kp.of_same (bH.refl H)
section
theorem GA.kp(k:Kp M H H')(h:GA K H a vs):GA K H' a vs:=by
 rcases h with(h | ⟨o,h⟩) | h
 ·exact .inl (.inl (k.tu _ _ h))
 ·exact .inl (.inr ⟨o,k.fr _ _ _ h⟩)
 ·exact .inr h
theorem BC.kp(k:Kp M H H')(h:BC K H a vs):BC K H' a vs:=by
 rcases h with⟨o,h⟩ | h
 ·exact .inl ⟨o,k.fr _ _ _ h⟩
 ·exact .inr h
theorem BC.seq(h:BC K H a vs):GL K H a vs:=by
 rcases h with⟨o,h⟩ | (h | ⟨o,h⟩) | h
 ·exact .inl (.inr ⟨o,h⟩)
 ·cases h
 ·cases h
 ·exact .inr h
theorem xy.kp(k:Kp M H H')(h:xy K M H c f v y):xy K M H' c f v y:=by
 obtain⟨e,C,dx,rfl,n1,n2,h1,h2,h3⟩:=h.ex;exact⟨⟨e,C,dx,rfl,n1,n2,h1.imp (λz=>k.un _ _ z n1) (λz=>k.un _ _ z n1),k.un _ _ h2 n2,h3⟩⟩
theorem xy.more(hM:∀b,M' b->M b\/H b=none)(h:xy K M H c f v y):xy K M' H c f v y:=by
 obtain⟨e,C,dx,rfl,n1,n2,h1,h2,h3⟩:=h.ex;refine⟨⟨e,C,dx,rfl,λz=>(hM _ z).elim n1 λq=>?_,λz=>(hM _ z).elim n2 (λq=>by rw[h2] at q;cases q),h1,h2,h3⟩⟩
 rcases h1 with h1 | h1<;>(rw[h1] at q;cases q)
mutual
theorem GI.kp(k:Kp M H H'):∀(d:D) (v:V),GI K M H d v->GI K M H' d v
 | .non,v,h=>by unfold GI at h ⊢;exact h
 | .bl b,v,h=>by unfold GI at h ⊢;exact h
 | .int i,v,h=>by unfold GI at h ⊢;exact h
 | .str x,v,h=>by unfold GI at h ⊢;exact h
 | .tup ds,v,h=>by
  unfold GI at h ⊢;obtain⟨a,vs,e,q,r⟩:=h;exact⟨a,vs,e,GA.kp k q,Reps.kp k ds vs r⟩
 | .lst ds,v,h=>by
  unfold GI at h ⊢;obtain⟨a,vs,e,n,q,r⟩:=h;exact⟨a,vs,e,n,k.un _ _ q n,Reps.kp k ds vs r⟩
 | .fz ds,v,h=>by
  unfold GI at h ⊢;obtain⟨a,vs,e,q,r⟩:=h;exact⟨a,vs,e,q.kp k,Reps.kp k ds vs r⟩
 | .dct ks ds,v,h=>by
  unfold GI at h ⊢;obtain⟨a,vs,e,n,q,l,r⟩:=h;exact⟨a,vs,e,n,k.un _ _ q n,l,Reps.kp k ds vs r⟩
 | .fd ks ds,v,h=>by
  unfold GI at h ⊢;obtain⟨a,vs,o,e,q,l,r⟩:=h;exact⟨a,vs,o,e,k.fr _ _ _ q,l,Reps.kp k ds vs r⟩
 | .fo o ks ds,v,h=>by
  unfold GI at h ⊢;obtain⟨a,vs,e,q,l,r⟩:=h;exact⟨a,vs,e,k.fr _ _ _ q,l,Reps.kp k ds vs r⟩
 | .exn c f d,v,h=>by
  unfold GI at h ⊢;obtain⟨y,q,r⟩:=h;exact⟨y,q.kp k,GI.kp k d y r⟩
theorem Reps.kp(k:Kp M H H'):∀(ds:Zi) (vs:Zg),Reps K M H ds vs->Reps K M H' ds vs
 | [],vs,h=>by unfold Reps at h ⊢;exact h
 | d::ds,vs,h=>by
  unfold Reps at h ⊢;obtain⟨v,r,e,q,s⟩:=h;exact⟨v,r,e,GI.kp k d v q,Reps.kp k ds r s⟩
end
mutual
theorem GI.more(hM:∀b,M' b->M b\/H b=none):∀(d:D) (v:V),GI K M H d v->GI K M' H d v
 | .non,v,h=>by unfold GI at h ⊢;exact h
 | .bl b,v,h=>by unfold GI at h ⊢;exact h
 | .int i,v,h=>by unfold GI at h ⊢;exact h
 | .str x,v,h=>by unfold GI at h ⊢;exact h
 | .tup ds,v,h=>by
  unfold GI at h ⊢;obtain⟨a,vs,e,q,r⟩:=h;exact⟨a,vs,e,q,Reps.more hM ds vs r⟩
 | .lst ds,v,h=>by
  unfold GI at h ⊢;obtain⟨a,vs,e,n,q,r⟩:=h;exact⟨a,vs,e,λz=>(hM _ z).elim n (λe=>by rw[q] at e;cases e),q,Reps.more hM ds vs r⟩
 | .fz ds,v,h=>by
  unfold GI at h ⊢;obtain⟨a,vs,e,q,r⟩:=h;exact⟨a,vs,e,q,Reps.more hM ds vs r⟩
 | .dct ks ds,v,h=>by
  unfold GI at h ⊢;obtain⟨a,vs,e,n,q,l,r⟩:=h;exact⟨a,vs,e,λz=>(hM _ z).elim n (λe=>by rw[q] at e;cases e),q,l,Reps.more hM ds vs r⟩
 | .fd ks ds,v,h=>by
  unfold GI at h ⊢;obtain⟨a,vs,o,e,q,l,r⟩:=h;exact⟨a,vs,o,e,q,l,Reps.more hM ds vs r⟩
 | .fo o ks ds,v,h=>by
  unfold GI at h ⊢;obtain⟨a,vs,e,q,l,r⟩:=h;exact⟨a,vs,e,q,l,Reps.more hM ds vs r⟩
 | .exn c f d,v,h=>by
  unfold GI at h ⊢;obtain⟨y,q,r⟩:=h;exact⟨y,q.more hM,GI.more hM d y r⟩
theorem Reps.more(hM:∀b,M' b->M b\/H b=none):∀(ds:Zi) (vs:Zg),Reps K M H ds vs->Reps K M' H ds vs
 | [],vs,h=>by unfold Reps at h ⊢;exact h
 | d::ds,vs,h=>by
  unfold Reps at h ⊢;obtain⟨v,r,e,q,s⟩:=h;exact⟨v,r,e,GI.more hM d v q,Reps.more hM ds r s⟩
end
mutual
theorem GI.im:∀(d:D) (v:V),d.im=true->GI K M H d v->GI K M' H d v
 | .non,v,_,h=>by unfold GI at h ⊢;exact h
 | .bl b,v,_,h=>by unfold GI at h ⊢;exact h
 | .int i,v,_,h=>by unfold GI at h ⊢;exact h
 | .str x,v,_,h=>by unfold GI at h ⊢;exact h
 | .tup ds,v,i,h=>by
  unfold GI at h ⊢;obtain⟨a,vs,e,q,r⟩:=h;unfold D.im at i;exact⟨a,vs,e,q,Reps.im ds vs i r⟩
 | .lst ds,v,i,h=>by unfold D.im at i;cases i
 | .fz ds,v,i,h=>by
  unfold GI at h ⊢;obtain⟨a,vs,e,q,r⟩:=h;unfold D.im at i;exact⟨a,vs,e,q,Reps.im ds vs i r⟩
 | .dct ks ds,v,i,h=>by unfold D.im at i;cases i
 | .fd ks ds,v,i,h=>by
  unfold GI at h ⊢;obtain⟨a,vs,o,e,q,l,r⟩:=h;unfold D.im at i;exact⟨a,vs,o,e,q,l,Reps.im ds vs i r⟩
 | .fo o ks ds,v,i,h=>by
  unfold GI at h ⊢;obtain⟨a,vs,e,q,l,r⟩:=h;unfold D.im at i;exact⟨a,vs,e,q,l,Reps.im ds vs i r⟩
 | .exn c f d,v,i,h=>by unfold D.im at i;cases i
theorem Reps.im:∀(ds:Zi) (vs:Zg),D.ims ds=true->Reps K M H ds vs->Reps K M' H ds vs
 | [],vs,_,h=>by unfold Reps at h ⊢;exact h
 | d::ds,vs,i,h=>by
  unfold Reps at h ⊢;obtain⟨v,r,e,q,s⟩:=h;unfold D.ims at i;obtain⟨i1,i2⟩:=Hu.mp i;exact⟨v,r,e,GI.im d v i1 q,Reps.im ds r i2 s⟩
end
theorem Reps.length:∀(ds:Zi) (vs:Zg),Reps K M H ds vs->ds.length=vs.length
 | [],vs,h=>by unfold Reps at h;subst h;rfl
 | d::ds,vs,h=>by
  unfold Reps at h;obtain⟨v,r,rfl,q,s⟩:=h;rw[G0,G0,Reps.length ds r s]
theorem Reps.get:∀(ds:Zi) (vs:Zg),Reps K M H ds vs->∀(i:Nat) (d:D),ds[i]?=some d->∃v,vs[i]?=some v/\GI K M H d v
 | [],vs,h,i,d,e=>by simp at e
 | d::ds,vs,h,i,d',e=>by
  unfold Reps at h;obtain⟨v,r,rfl,q,s⟩:=h
  cases i with
  | zero=>simp at e;subst e;exact⟨v,rfl,q⟩
  | succ i=>exact Reps.get ds r s i d' (by simpa using e)
theorem Reps.of:∀(ds:Zi) (vs:Zg),ds.length=vs.length->(∀(i:Nat) d v,ds[i]?=some d->vs[i]?=some v->GI K M H d v)->Reps K M H ds vs
 | [],vs,l,_=>by unfold Reps;exact IG.mp l.symm
 | d::ds,[],l,_=>by cases l
 | d::ds,v::vs,l,h=>by
  unfold Reps;exact⟨v,vs,rfl,h 0 d v rfl rfl,Reps.of ds vs (Jp l) λi d' v' e e'=>h (i+1) d' v' (by simpa using e) (by simpa using e')⟩
theorem Reps.append:∀(ds es:Zi) (vs ws:Zg),Reps K M H ds vs->Reps K M H es ws->Reps K M H (ds++es) (vs++ws)
 | [],es,vs,ws,h,k=>by unfold Reps at h;subst h;exact k
 | d::ds,es,vs,ws,h,k=>by
  unfold Reps at h;obtain⟨v,r,rfl,q,s⟩:=h;show Reps K M H (d::(ds++es)) (v::(r++ws));unfold Reps;exact⟨v,r++ws,rfl,q,Reps.append ds es r ws s k⟩
theorem Reps.one(h:GI K M H d v):Reps K M H [d] [v]:=by
 unfold Reps;exact⟨v,[],rfl,h,by unfold Reps;rfl⟩
theorem Reps.nil:Reps K M H [] []:=by unfold Reps;rfl
theorem Reps.cons{K:Zf}{M:Addr->Prop}{H:Hp}{d:D}{v:V}{ds:Zi}{vs:Zg}(h:GI K M H d v)(r:Reps K M H ds vs):Reps K M H (d::ds) (v::vs):=by
 unfold Reps;exact⟨v,vs,rfl,h,r⟩
theorem Reps.take:∀(n:Nat) (ds:Zi) (vs:Zg),Reps K M H ds vs->Reps K M H (ds.take n) (vs.take n)
 | 0,ds,vs,h=>by simpa using Reps.nil
 | n+1,[],vs,h=>by unfold Reps at h;subst h;simpa using Reps.nil
 | n+1,d::ds,vs,h=>by
  unfold Reps at h;obtain⟨v,r,rfl,q,s⟩:=h;exact Reps.cons q (Reps.take n ds r s)
theorem Reps.drop:∀(n:Nat) (ds:Zi) (vs:Zg),Reps K M H ds vs->Reps K M H (ds.drop n) (vs.drop n)
 | 0,ds,vs,h=>h
 | n+1,[],vs,h=>by unfold Reps at h;subst h;simpa using Reps.nil
 | n+1,d::ds,vs,h=>by
  unfold Reps at h;obtain⟨v,r,rfl,q,s⟩:=h;exact Reps.drop n ds r s
theorem Reps.ints(ns:Ze):Reps K M H (ns.map D.int) (ns.map V.int):=by
 induction ns with
 | nil=>exact Reps.nil
 | cons n r ih=>exact Reps.cons (by unfold GI;rfl) ih
end
inductive Sl where
 | no | dat (d:D) | own (a:Addr) (d:D)
structure Gf where
 M0:Addr->Prop
 H0:Hp
 Pm:Addr->Prop
def bv(K:Zf)(M:Addr->Prop)(H:Hp)(a:Addr):D->Prop
 | .lst ds=>∃vs,H a=some (.lst vs)/\Reps K M H ds vs
 | .dct ks ds=>∃vs,H a=some (.dK (bG ks vs))/\ks.length=ds.length/\Reps K M H ds vs
 | _=>False
structure Sx(K:Zf)(G:Gf)(A:Addr->Prop)(δ:List Sl)(P:List (D×V))(σ:St)(H:Hp):Prop where
 old:∀b o,G.H0 b=some o->¬ G.Pm b->H b=some o
 stay:∀b,G.H0 b≠none->H b≠none
 m0:∀b,G.M0 b->G.H0 b≠none
 pm:∀b,G.Pm b->G.H0 b≠none/\¬ G.M0 b
 new:∀b,A b->G.H0 b=none\/G.Pm b
 thr:∀b,A b->H b≠none
 len:δ.length=σ.length
 dat:∀(i:Nat) d,δ[i]?=some (.dat d)->∃v,σ[i]?=some (some v)/\GI K (λb=>G.M0 b\/A b) H d v
 own:∀(i:Nat) a d,δ[i]?=some (.own a d)->σ[i]?=some (some (.ref a))/\A a/\bv K (λb=>G.M0 b\/A b) H a d
 inj:∀(i j:Nat) a d e,δ[i]?=some (.own a d)->δ[j]?=some (.own a e)->i=j
 pnd:∀p∈P,GI K (λb=>G.M0 b\/A b) H p.1 p.2
def S(K:Zf)(G:Gf)(δ:List Sl)(P:List (D×V))(σ:St)(H:Hp):Prop:=∃A,Sx K G A δ P σ H
inductive aQ(K:Zf)(f:Zi->(D->Prop)->Prop)(vs:Zg)(H:Hp)(Q:VK):Prop
 | mk (M:Addr->Prop) (ds:Zi) (R:D->Prop) (m:∀b,M b->H b≠none) (rs:Reps K M H ds vs) (h:f ds R) (k:∀d,R d->∀v H',bH H H'->GI K M H' d v->Q v H')
section
theorem bv.kp(k:Kp M H H')(e:H' a=H a)(h:bv K M H a d):bv K M H' a d:=by
 cases d with
 | lst ds =>
  obtain⟨vs,q,r⟩:=h;exact⟨vs,e.trans q,Reps.kp k _ _ r⟩
 | dct ks ds =>
  obtain⟨vs,q,l,r⟩:=h;exact⟨vs,e.trans q,l,Reps.kp k _ _ r⟩
 | _=>exact h.elim
theorem bv.more(hM:∀b,M' b->M b\/H b=none)(h:bv K M H a d):bv K M' H a d:=by
 cases d with
 | lst ds =>
  obtain⟨vs,q,r⟩:=h;exact⟨vs,q,Reps.more hM _ _ r⟩
 | dct ks ds =>
  obtain⟨vs,q,l,r⟩:=h;exact⟨vs,q,l,Reps.more hM _ _ r⟩
 | _=>exact h.elim
theorem Sx.sub(s:Sx K G A δ P σ H)(h:∀p∈P',p∈P):Sx K G A δ P' σ H :=
 ⟨s.old,s.stay,s.m0,s.pm,s.new,s.thr,s.len,s.dat,s.own,s.inj,λp hp=>s.pnd p (h p hp)⟩
theorem S.sub(s:S K G δ P σ H)(h:∀p∈P',p∈P):S K G δ P' σ H:=let ⟨A,x⟩:=s;⟨A,x.sub h⟩
theorem Sx.same(s:Sx K G A δ P σ H)(h:bH H H'):Sx K G A δ P σ H' where
 old:=λb o e n=>h b o (s.old b o e n)
 stay:=λb e=>by
  cases q:H b with
  | none=>exact absurd q (s.stay b e)
  | some o=>rw[h b o q];exact λz=>nomatch z
 m0:=s.m0
 pm:=s.pm
 new:=s.new
 thr:=λb e=>by
  cases q:H b with
  | none=>exact absurd q (s.thr b e)
  | some o=>rw[h b o q];exact λz=>nomatch z
 len:=s.len
 dat:=λi d e=>let ⟨v,q,r⟩:=s.dat i d e;⟨v,q,GI.kp (Kp.of_same h) _ _ r⟩
 own:=λi a d e=>by
  obtain⟨q,a1,o⟩:=s.own i a d e;refine⟨q,a1,bv.kp (Kp.of_same h) ?_ o⟩
  cases z:H a with
  | none=>exact absurd z (s.thr a a1)
  | some o=>exact h a o z
 inj:=s.inj
 pnd:=λp hp=>GI.kp (Kp.of_same h) _ _ (s.pnd p hp)
theorem Sx.push(s:Sx K G A δ P σ H)(h:GI K (λb=>G.M0 b\/A b) H d v):Sx K G A δ ((d,v)::P) σ H :=
 ⟨s.old,s.stay,s.m0,s.pm,s.new,s.thr,s.len,s.dat,s.own,s.inj,λp hp=>by
  rcases GY.mp hp with rfl | hp
  ·exact h
  ·exact s.pnd p hp⟩
theorem Sx.mem(s:Sx K G A δ P σ H):∀b,(G.M0 b\/A b)->H b≠none:=λb h=>h.elim (λz=>s.stay b (s.m0 b z)) λz=>s.thr b z
theorem Sx.reps(s:Sx K G A δ P σ H):∀(ds:Zi) (vs:Zg),ds.length=vs.length->(∀p∈ds.zip vs,p∈P)->Reps K (λb=>G.M0 b\/A b) H ds vs
 | [],[],_,_=>Reps.nil
 | d::ds,v::vs,l,h=>Reps.cons (s.pnd (d,v) (h _ (GT ..))) (Sx.reps s ds vs (Jp l) λp hp=>h p (GP _ hp))
theorem S.pure(s:S K G δ P σ H)(hl:ds.length=vs.length)(hp:∀p∈ds.zip vs,p∈P)(hs:∀p∈P',p∈P)(hf:f ds R)
  (h:∀d,R d->∀v H',S K G δ ((d,v)::P') σ H'->Q v H'):aQ K f vs H Q:=by
 obtain⟨A,x⟩:=s;refine⟨λb=>G.M0 b\/A b,ds,R,x.mem,x.reps ds vs hl hp,hf,λd r v H' sm rp=>h d r v H' ⟨A,?_⟩⟩;exact((x.same sm).sub hs).push rp
theorem Sx.set(s:Sx K G A δ P σ H)(hp:(d,v)∈P)(hs:∀p∈P',p∈P):Sx K G A (δ.set i (.dat d)) P' (σ.set i (some v)) H where
 old:=s.old
 stay:=s.stay
 m0:=s.m0
 pm:=s.pm
 new:=s.new
 thr:=s.thr
 len:=by rw[HV,HV,s.len]
 dat:=λj d' e=>by
  by_cases hij:i=j
  ·subst hij
   by_cases hl:i<δ.length
   ·rw[Hr hl] at e
    cases e
    exact⟨v,by rw[Hr (by rw[<- s.len];exact hl)],s.pnd _ hp⟩
   ·rw[HF (by rw[HV];omega)] at e
    cases e
  ·rw[Hv hij] at e;obtain⟨v',q,r⟩:=s.dat j d' e;exact⟨v',by rw[Hv hij];exact q,r⟩
 own:=λj a d' e=>by
  by_cases hij:i=j
  ·subst hij
   by_cases hl:i<δ.length
   ·rw[Hr hl] at e
    cases e
   ·rw[HF (by rw[HV];omega)] at e
    cases e
  ·rw[Hv hij] at e;obtain⟨q,r⟩:=s.own j a d' e;exact⟨by rw[Hv hij];exact q,r⟩
 inj:=λj k a d' e' h1 h2=>by
  have hj:δ[j]?=some (.own a d'):=by
   by_cases hij:i=j
   ·subst hij
    by_cases hl:i<δ.length
    ·rw[Hr hl] at h1;cases h1
    ·rw[HF (by rw[HV];omega)] at h1;cases h1
   ·rw[Hv hij] at h1;exact h1
  have hk:δ[k]?=some (.own a e'):=by
   by_cases hij:i=k
   ·subst hij
    by_cases hl:i<δ.length
    ·rw[Hr hl] at h2;cases h2
    ·rw[HF (by rw[HV];omega)] at h2;cases h2
   ·rw[Hv hij] at h2;exact h2
  exact s.inj j k a d' e' hj hk
 pnd:=λp h=>s.pnd p (hs p h)
theorem S.set(s:S K G δ P σ H)(hp:(d,v)∈P)(hs:∀p∈P',p∈P):S K G (δ.set i (.dat d)) P' (σ.set i (some v)) H:=let ⟨A,x⟩:=s;⟨A,x.set hp hs⟩
end
section
theorem aT{α:Type}{l:List α}{i j:Nat}{x y:α}(h:(l.set i x)[j]?=some y):(i=j/\x=y/\i<l.length)\/(i≠j/\l[j]?=some y):=by
 by_cases e:i=j
 ·subst e
  by_cases hl:i<l.length
  ·rw[Hr hl] at h;exact .inl ⟨rfl,G4 h,hl⟩
  ·rw[HF (by rw[HV];omega)] at h
   cases h
 ·rw[Hv e] at h;exact .inr ⟨e,h⟩
theorem Sx.claim(s:Sx K G A δ P σ H)(hn:H a=none)(hs:bH H H')(ho:bv K (λb=>(G.M0 b\/A b)\/b=a) H' a d)(hP:∀p∈P',p∈P) :
  Sx K G (λb=>A b\/b=a) (δ.set i (.own a d)) P' (σ.set i (some (.ref a))) H':=by
 have x:=s.same hs
 have hM:∀b,(G.M0 b\/(A b\/b=a))->(G.M0 b\/A b)\/H b=none:=λb h=>by
  rcases h with h | h | h
  ·exact .inl (.inl h)
  ·exact .inl (.inr h)
  ·subst h;exact .inr hn
 have ah:∀b,(G.M0 b\/(A b\/b=a))->((G.M0 b\/A b)\/b=a)\/H' b=none:=λb h=>by
  rcases h with h | h | h
  ·exact .inl (.inl (.inl h))
  ·exact .inl (.inl (.inr h))
  ·exact .inl (.inr h)
 have up:∀d v,GI K (λb=>G.M0 b\/A b) H d v->GI K (λb=>G.M0 b\/(A b\/b=a)) H' d v:=λd v r=>GI.kp (Kp.of_same hs) _ _ (GI.more hM _ _ r)
 have na:∀b,A b->b≠a:=λb h e=>s.thr b h (by rw[e];exact hn)
 have h0:G.H0 a=none:=by
  cases q:G.H0 a with
  | none=>rfl
  | some o=>exact absurd hn (s.stay a (by rw[q];exact λz=>nomatch z))
 have ai:H' a≠none:=by
  cases d with
  | lst ds=>obtain⟨vs,q,_⟩:=ho;rw[q];exact λz=>nomatch z
  | dct ks ds=>obtain⟨vs,q,_⟩:=ho;rw[q];exact λz=>nomatch z
  | _=>exact ho.elim
 refine⟨x.old,x.stay,x.m0,x.pm,λb h=>h.elim (s.new b) λe=>.inl (by rw[e];exact h0),λb h=>h.elim (x.thr b) λe=>by rw[e];exact ai,by rw[HV,HV,s.len],λj d' e=>?_,λj b d' e=>?_,
  λj k b d' e' h1 h2=>?_,λp hp=>up _ _ (s.pnd p (hP p hp))⟩
 ·rcases aT e with⟨_,z,_⟩ | ⟨aa,e⟩
  ·cases z
  ·obtain⟨v,q,r⟩:=s.dat j d' e;exact⟨v,by rw[Hv aa];exact q,up _ _ r⟩
 ·rcases aT e with⟨aa,z,hl⟩ | ⟨aa,e⟩
  ·cases z
   subst aa;exact⟨by rw[Hr (by rw[<- s.len];exact hl)],.inr rfl,bv.more ah ho⟩
  ·obtain⟨q,r,o⟩:=s.own j b d' e;refine⟨by rw[Hv aa];exact q,.inl r,bv.kp (Kp.of_same hs) ?_ (bv.more hM o)⟩
   cases z:H b with
   | none=>exact absurd z (s.thr b r)
   | some o'=>exact hs b o' z
 ·rcases aT h1 with⟨aa,z,hl⟩ | ⟨aa,e⟩
  ·cases z
   rcases aT h2 with⟨ab,_,_⟩ | ⟨ab,e2⟩
   ·rw[<- aa,<- ab]
   ·exact absurd rfl (na _ (s.own k _ _ e2).2.1)
  ·rcases aT h2 with⟨ab,z,_⟩ | ⟨ab,e2⟩
   ·cases z
    exact absurd rfl (na _ (s.own j _ _ e).2.1)
   ·exact s.inj j k b d' e' e e2
theorem Sx.change(s:Sx K G A δ P σ H)(hi:δ[i]?=some (.own a d))(hk:∀b o,b≠a->H b=some o->H' b=some o)(ho:bv K (λb=>G.M0 b\/A b) H' a d') :
  Sx K G A (δ.set i (.own a d')) P σ H':=by
 obtain⟨si,ai,oi⟩:=s.own i a d hi;have ab:(∀xs,H a≠some (.tup xs))/\∀o u,H a≠some (.frz o u):=by
  cases d with
  | lst ds=>obtain⟨vs,q,_⟩:=oi;rw[q];exact⟨λ_ z=>(nomatch z),λ_ _ z=>(nomatch z)⟩
  | dct ks ds=>obtain⟨vs,q,_⟩:=oi;rw[q];exact⟨λ_ z=>(nomatch z),λ_ _ z=>(nomatch z)⟩
  | _=>exact oi.elim
 have ah:H' a≠none:=by
  cases d' with
  | lst ds=>obtain⟨vs,q,_⟩:=ho;rw[q];exact λz=>nomatch z
  | dct ks ds=>obtain⟨vs,q,_⟩:=ho;rw[q];exact λz=>nomatch z
  | _=>exact ho.elim
 have kp:Kp (λb=>G.M0 b\/A b) H H':=⟨λb o e n=>hk b o (λz=>n (.inr (by rw[z];exact ai))) e,λb xs e=>hk b _ (λz=>ab.1 xs (by rw[<- z];exact e)) e,
  λb o u e=>hk b _ (λz=>ab.2 o u (by rw[<- z];exact e)) e⟩
 have stay:∀b,H b≠none->H' b≠none:=λb e=>by
  by_cases z:b=a
  ·rw[z];exact ah
  ·cases q:H b with
   | none=>exact absurd q e
   | some o=>rw[hk b o z q];exact λz=>nomatch z
 have na:∀b o,G.H0 b=some o->¬ G.Pm b->b≠a:=λb o e n z=>(s.new a ai).elim (λq=>by rw[z] at e;rw[e] at q;cases q) λq=>n (by rw[z];exact q)
 refine⟨λb o e n=>hk b o (na b o e n) (s.old b o e n),λb e=>stay b (s.stay b e),s.m0,s.pm,s.new,λb e=>stay b (s.thr b e),by rw[HV,s.len],λj x e=>?_,λj b x e=>?_,λj k b x y h1 h2=>?_,
  λp hp=>GI.kp kp _ _ (s.pnd p hp)⟩
 ·rcases aT e with⟨_,z,_⟩ | ⟨aa,e⟩
  ·cases z
  ·obtain⟨v,q,r⟩:=s.dat j x e;exact⟨v,q,GI.kp kp _ _ r⟩
 ·rcases aT e with⟨aa,z,hl⟩ | ⟨aa,e9⟩
  ·cases z
   subst aa;exact⟨si,ai,ho⟩
  ·clear e;obtain⟨q,r,o⟩:=s.own j b x e9;have hb:b≠a:=λz=>by rw[z] at e9;exact aa (s.inj _ _ _ _ _ hi e9)
   refine⟨q,r,bv.kp kp ?_ o⟩
   cases z:H b with
   | none=>exact absurd z (s.thr b r)
   | some o'=>exact hk b o' hb z
 ·have hj:∃x',δ[j]?=some (.own b x'):=by
   rcases aT h1 with⟨aa,z,hl⟩ | ⟨aa,e⟩
   ·cases z;subst aa;exact⟨_,hi⟩
   ·exact⟨_,e⟩
  have aj:∃x',δ[k]?=some (.own b x'):=by
   rcases aT h2 with⟨aa,z,hl⟩ | ⟨aa,e⟩
   ·cases z;subst aa;exact⟨_,hi⟩
   ·exact⟨_,e⟩
  obtain⟨x1,e1⟩:=hj;obtain⟨x2,e2⟩:=aj;exact s.inj j k b x1 x2 e1 e2
theorem bv.rep(h:bv K M H a d)(n:¬ M' a)(hM:∀b,M' b->M b):GI K M' H d (.ref a):=by
 cases d with
 | lst ds =>
  obtain⟨vs,q,r⟩:=h;unfold GI;exact⟨a,vs,rfl,n,q,Reps.more (λb z=>.inl (hM b z)) _ _ r⟩
 | dct ks ds =>
  obtain⟨vs,q,l,r⟩:=h;unfold GI;exact⟨a,vs,rfl,n,q,l,Reps.more (λb z=>.inl (hM b z)) _ _ r⟩
 | _=>exact h.elim
theorem Sx.freeze(s:Sx K G A δ P σ H)(hi:δ[i]?=some (.own a d))(hp:¬ G.M0 a):Sx K G (λb=>A b/\b≠a) (δ.set i (.dat d)) P σ H:=by
 obtain⟨si,ai,oi⟩:=s.own i a d hi;have hM:∀b,(G.M0 b\/(A b/\b≠a))->(G.M0 b\/A b):=λb h=>h.elim .inl λz=>.inr z.1;have dn:∀d v,GI K (λb=>G.M0 b\/A b) H d v->GI K (λb=>G.M0 b\/(A b/\b≠a)) H d v:=λd v r=>GI.more (λb z=>.inl (hM b z)) _ _ r;refine⟨s.old,s.stay,s.m0,s.pm,λb h=>s.new b h.1,λb h=>s.thr b h.1,by rw[HV,s.len],λj x e=>?_,λj b x e=>?_,λj k b x y h1 h2=>?_,λp hp=>dn _ _ (s.pnd p hp)⟩
 ·rcases aT e with⟨aa,z,_⟩ | ⟨aa,e⟩
  ·cases z;subst aa
   exact⟨.ref a,si,oi.rep (λz=>z.elim hp λq=>q.2 rfl) hM⟩
  ·obtain⟨v,q,r⟩:=s.dat j x e;exact⟨v,q,dn _ _ r⟩
 ·rcases aT e with⟨_,z,_⟩ | ⟨aa,e9⟩
  ·cases z
  ·clear e;obtain⟨q,r,o⟩:=s.own j b x e9;have hb:b≠a:=λz=>by rw[z] at e9;exact aa (s.inj _ _ _ _ _ hi e9)
   exact⟨q,⟨r,hb⟩,bv.more (λb z=>.inl (hM b z)) o⟩
 ·rcases aT h1 with⟨_,z,_⟩ | ⟨_,e1⟩
  ·cases z
  ·rcases aT h2 with⟨_,z,_⟩ | ⟨_,e2⟩
   ·cases z
   ·exact s.inj j k b x y e1 e2
end
end DL
namespace DL
open PySem PySem.Spec PyProof.Rows L2
inductive W where
 | d (x:D) | o (i:Nat)
abbrev En:=List Sl
abbrev GH:=En->(W->En->Prop)->Prop
abbrev TDA:=En->(List D->En->Prop)->Prop
abbrev TDT:=En->(Bool->En->Prop)->Prop
structure aP where
 nx:En->Prop
 rt:D->En->Prop
 bk:En->Prop:=λ_=>False
 ct:En->Prop:=λ_=>False
 ro:D->Prop:=λ_=>False
 tp:Prop:=False
 ex:Str->Str->D->Prop:=λ_ _ _=>False
abbrev TDS:=aP->En->Prop
abbrev TDG:=D->En->(En->Prop)->Prop
abbrev BD:=List D->En->(En->Prop)->Prop
def wd(R:D->En->Prop):W->En->Prop
 | .d x,δ=>R x δ
 | .o _,_=>False
def qB:D->(Bool->Prop)->Prop
 | .bl b,k=>k b
 | _,_=>False
def qI:D->(Int->Prop)->Prop
 | .int b,k=>k b
 | _,_=>False
def qX:D->(Str->Prop)->Prop
 | .str b,k=>k b
 | _,_=>False
def qT:D->(Zi->Prop)->Prop
 | .tup b,k=>k b
 | _,_=>False
def qL:D->(Zi->Prop)->Prop
 | .lst b,k=>k b
 | _,_=>False
def qW:Option Sl->(Addr->D->Prop)->Prop
 | some (.own a d),k=>k a d
 | _,_=>False
def qD:Option Sl->(D->Prop)->Prop
 | some (.dat d),k=>k d
 | _,_=>False
def qWL(o:Option Sl)(k:Addr->Zi->Prop):Prop:=qW o λa d=>qL d λxs=>k a xs
def qG:D->(Zb->Zi->Prop)->Prop
 | .dct ks ds,k=>k ks ds
 | _,_=>False
def qWD(o:Option Sl)(k:Addr->Zb->Zi->Prop):Prop:=qW o λa d=>qG d λks ds=>k a ks ds
def qF:D->(Zb->Zi->Prop)->Prop
 | .fd ks ds,k=>k ks ds
 | _,_=>False
def qV{α:Type}:Option α->(α->Prop)->Prop
 | some a,k=>k a
 | none,_=>False
def qN:Zi->Prop->Prop
 | [],k=>k
 | _::_,_=>False
def qC:Zi->(D->Zi->Prop)->Prop
 | x::r,k=>k x r
 | [],_=>False
def qIf:Bool->Prop->Prop
 | true,k=>k
 | false,_=>False
def q9:Zi->Prop->Prop
 | [],k=>k
 | [_],k=>k
 | [_,_],k=>k
 | [_,_,_],k=>k
 | [_,_,_,_],k=>k
 | xs,k=>xs.length<=9000/\k
def qWe(o:Option Sl)(k:D->Prop):Prop:=qW o λ_ d=>k d
def Bo(o:Option Sl)(k:Zi->Prop):Prop:=qW o λ_ d=>qL d λxs=>k xs
def AX(o:Option Sl)(k:Zb->Zi->Prop):Prop:=qW o λ_ d=>qG d λks ds=>k ks ds
def lq(δ:En)(i:Nat)(x:Sl)(k:En->Prop):Prop:=k (δ.set i x)
def vx:Zi->Nat->Prop->Prop
 | [],0,k=>k
 | _::r,n+1,k=>vx r n k
 | _,_,_=>False
theorem vx.ex:∀ {xs:Zi} {n:Nat},vx xs n k->xs.length=n/\k
 | [],0,h=>⟨rfl,h⟩
 | _::r,n+1,h=>let ⟨a,b⟩:=vx.ex (xs:=r) (n:=n) h;⟨by rw[G0,a],b⟩
 | [],_+1,h=>False.elim h
 | _::_,0,h=>False.elim h
def kD(R:W->En->Prop)(δ:En)(d:D):Prop:=R (.d d) δ
theorem qB.ex(h:qB x k):∃b,x=.bl b/\k b:=by cases x<;>first | exact False.elim h | exact⟨_,rfl,h⟩
theorem qI.ex(h:qI x k):∃b,x=.int b/\k b:=by cases x<;>first | exact False.elim h | exact⟨_,rfl,h⟩
theorem qX.ex(h:qX x k):∃b,x=.str b/\k b:=by cases x<;>first | exact False.elim h | exact⟨_,rfl,h⟩
theorem qT.ex(h:qT x k):∃b,x=.tup b/\k b:=by cases x<;>first | exact False.elim h | exact⟨_,rfl,h⟩
theorem qL.ex(h:qL x k):∃b,x=.lst b/\k b:=by cases x<;>first | exact False.elim h | exact⟨_,rfl,h⟩
theorem qF.ex(h:qF x k):∃ks ds,x=.fd ks ds/\k ks ds:=by cases x<;>first | exact False.elim h | exact⟨_,_,rfl,h⟩
theorem qG.ex(h:qG x k):∃ks ds,x=.dct ks ds/\k ks ds:=by cases x<;>first | exact False.elim h | exact⟨_,_,rfl,h⟩
theorem qW.ex(h:qW o k):∃a d,o=some (.own a d)/\k a d:=by
 cases o with
 | none=>exact False.elim h
 | some x=>cases x<;>first | exact False.elim h | exact⟨_,_,rfl,h⟩
theorem qD.ex(h:qD o k):∃d,o=some (.dat d)/\k d:=by
 cases o with
 | none=>exact False.elim h
 | some x=>cases x<;>first | exact False.elim h | exact⟨_,rfl,h⟩
theorem qWL.ex(h:qWL o k):∃a d,o=some (.own a (.lst d))/\k a d:=by
 replace h:=qW.ex h;obtain⟨a,d,rfl,h⟩:=h;replace h:=qL.ex h;obtain⟨xs,rfl,h⟩:=h;exact⟨_,_,rfl,h⟩
theorem qWD.ex(h:qWD o k):∃a ks ds,o=some (.own a (.dct ks ds))/\k a ks ds:=by
 replace h:=qW.ex h;obtain⟨a,d,rfl,h⟩:=h;replace h:=qG.ex h;obtain⟨ks,ds,rfl,h⟩:=h;exact⟨_,_,_,rfl,h⟩
theorem qWe.ex{K:Zf}{A:Addr->Prop}{H:Hp}{i:Nat}{k:D->Prop}(x:Sx K G A δ P σ H)(e:σ[i]?=some (some (.ref a)))(h:qWe δ[i]? k):∃d,δ[i]?=some (.own a d)/\k d:=by
 obtain⟨b,d,hi,h⟩:=qW.ex h;have q:=(x.own i b d hi).1;rw[e] at q
 cases q
 exact⟨_,hi,h⟩
theorem Bo.ex{K:Zf}{A:Addr->Prop}{H:Hp}{i:Nat}{k:Zi->Prop}(x:Sx K G A δ P σ H)(e:σ[i]?=some (some (.ref a)))(h:Bo δ[i]? k):∃d,δ[i]?=some (.own a (.lst d))/\k d:=by
 obtain⟨d,hi,h⟩:=qWe.ex (k:=λd=>qL d k) x e h;obtain⟨xs,rfl,h⟩:=qL.ex h;exact⟨_,hi,h⟩
theorem AX.ex{K:Zf}{A:Addr->Prop}{H:Hp}{i:Nat}{k:Zb->Zi->Prop}(x:Sx K G A δ P σ H)(e:σ[i]?=some (some (.ref a)))(h:AX δ[i]? k):∃ks ds,δ[i]?=some (.own a (.dct ks ds))/\k ks ds:=by
 obtain⟨d,hi,h⟩:=qWe.ex (k:=λd=>qG d k) x e h;obtain⟨ks,ds,rfl,h⟩:=qG.ex h;exact⟨_,_,hi,h⟩
theorem qV.ex(h:qV o k):∃a,o=some a/\k a:=by
 cases o with
 | none=>exact False.elim h
 | some x=>exact⟨_,rfl,h⟩
theorem qV.of(e:o=some a)(h:k a):qV o k:=by rw[e];exact h
theorem qN.ex(h:qN x k):x=[]/\k:=by
 cases x with
 | nil=>exact⟨rfl,h⟩
 | cons _ _=>exact False.elim h
theorem qC.ex(h:qC x k):∃a r,x=a::r/\k a r:=by
 cases x with
 | nil=>exact False.elim h
 | cons _ _=>exact⟨_,_,rfl,h⟩
theorem qIf.ex(h:qIf b k):b=true/\k:=by
 cases b with
 | true=>exact⟨rfl,h⟩
 | false=>exact False.elim h
theorem q9.ex(h:q9 x k):x.length<=9000/\k:=by
 rcases x with _ | ⟨a,_ | ⟨b,_ | ⟨c,_ | ⟨d,_ | ⟨e,l⟩⟩⟩⟩⟩
 ·exact⟨Ir _,h⟩
 ·exact⟨(by simp only[List.length_cons,List.length_nil];omega),h⟩
 ·exact⟨(by simp only[List.length_cons,List.length_nil];omega),h⟩
 ·exact⟨(by simp only[List.length_cons,List.length_nil];omega),h⟩
 ·exact⟨(by simp only[List.length_cons,List.length_nil];omega),h⟩
 ·exact h
inductive Up(K:Zf)(t:GH)(σ:L2.St)(H:Hp)(Q:VK):Prop
 | mk (G:Gf) (δ:En) (P:List (D×V)) (R:W->En->Prop) (s:S K G δ P σ H) (h:t δ R) (k:(∀x δ',R (.d x) δ'->∀v H',S K G δ' ((x,v)::P) σ H'->Q v H')/\(∀i δ',R (.o i) δ'->∀a d H',S K G δ' P σ H'->δ'[i]?=some (.own a d)->Q (.ref a) H'))
def up(K:Zf)(t:GH):TE:=Up K t
inductive UpA(K:Zf)(t:TDA)(σ:L2.St)(H:Hp)(Q:Zg->Hp->Prop):Prop
 | mk (G:Gf) (δ:En) (P:List (D×V)) (R:Zi->En->Prop) (s:S K G δ P σ H) (h:t δ R) (k:∀ds δ',R ds δ'->∀vs H',ds.length=vs.length->S K G δ' (ds.zip vs++P) σ H'->Q vs H')
def upA(K:Zf)(t:TDA):TA:=UpA K t
inductive UpT(K:Zf)(t:TDT)(σ:L2.St)(H:Hp)(Q:Bool->Hp->Prop):Prop
 | mk (G:Gf) (δ:En) (P:List (D×V)) (R:Bool->En->Prop) (s:S K G δ P σ H) (h:t δ R) (k:∀b δ',R b δ'->∀H',S K G δ' P σ H'->Q b H')
def upT(K:Zf)(t:TDT):TT:=UpT K t
inductive UpG(K:Zf)(t:TDG)(v:V)(σ:L2.St)(H:Hp)(Q:L2.St->Hp->Prop):Prop
 | mk (G:Gf) (δ:En) (P:List (D×V)) (d:D) (R:En->Prop) (s:S K G δ ((d,v)::P) σ H) (h:t d δ R) (k:∀δ',R δ'->∀σ' H',S K G δ' P σ' H'->Q σ' H')
def upG(K:Zf)(t:TDG):TG:=UpG K t
inductive UpGs(K:Zf)(t:BD)(vs:Zg)(σ:L2.St)(H:Hp)(Q:L2.St->Hp->Prop):Prop
 | mk (G:Gf) (δ:En) (P:List (D×V)) (ds:Zi) (R:En->Prop) (hl:ds.length=vs.length) (s:S K G δ (ds.zip vs++P) σ H) (h:t ds δ R) (k:∀δ',R δ'->∀σ' H',S K G δ' P σ' H'->Q σ' H')
def upGs(K:Zf)(t:BD):TGs:=UpGs K t
def xP(K:Zf)(G:Gf)(H':Hp)(a:Addr)(d:D):Prop:=(∀b o,G.H0 b=some o->¬ G.Pm b->H' b=some o)/\(G.H0 a=none\/G.Pm a)/\¬ G.M0 a/\bv K (λb=>G.M0 b\/b=a) H' a d
inductive UpS(K:Zf)(W:XK)(t:TDS)(E:BB)(σ:L2.St)(H:Hp):Prop
 | mk (G:Gf) (δ:En) (P:List (D×V)) (R:aP) (s:S K G δ P σ H) (h:t R δ) (k:(∀δ',R.nx δ'->∀σ' H',S K G δ' P σ' H'->E.nx σ' H')/\((∀d δ',R.rt d δ'->∀v σ' H',S K G δ' ((d,v)::P) σ' H'->E.rt v H')/\(∀d,R.ro d->∀a H',xP K G H' a d->E.rt (.ref a) H')/\∀c f d,R.ex c f d->∀e C dx δ' σ' H',S K G δ' ((.exn c f d,.ref e)::P) σ' H'->H' e=some (XAt e C dx)->W (.ref e) (some dx) H') /\
 (∀δ',R.bk δ'->∀σ' H',S K G δ' P σ' H'->E.bk σ' H')/\(∀δ',R.ct δ'->∀σ' H',S K G δ' P σ' H'->E.ct σ' H')/\(R.tp->P=[]/\∀b o,G.H0 b=some o->∃ob xs,o=.frz ob (.lst xs)))
theorem exs{K:Zf}{W:XK}{R:Str->Str->D->Prop}(k:∀c f d,R c f d->∀e C dx δ' σ' H',S K G δ' ((.exn c f d,.ref e)::P) σ' H'->H' e=some (XAt e C dx)->W (.ref e) (some dx) H') :
  ∀c f d,R c f d->∀e C dx δ' σ' H',S K G δ' ((.exn c f d,.ref e)::q::P) σ' H'->H' e=some (XAt e C dx)->W (.ref e) (some dx) H':=λc f d r e C dx δ' σ' H' s=>k c f d r e C dx δ' σ' H' (s.sub λp hp=>by
 rcases GY.mp hp with rfl | hp
 ·simp
 ·simp[hp])
def vS(h:Heap)(e:Addr)(t:Value):Prop:=t=.none\/∃T oT ts,t=.ref T/\T≠e/\h.get? T=some oT/\oT.data=.fields ts/\ts[3]?=some .none
structure nT(X:Cx)(pins:List (Addr×Obj))(H':Hp)(e C dx:Addr)(s':Shared):Prop where
 ex:∃(σ:L2.St) (a t:Value),L2.Inv X pins σ H' s'/\s'.heap.get? e=some (GD C (some dx) a t)/\vS s'.heap e t /\
  (∀T,t=.ref T->H' T=none/\X.s₀.heap.objs.size<=T/\T≠X.env.locals/\(∀x c,X.env.cells.lookup x=some c->c≠T)/\∀p∈X.pn++pins,p.1≠T)/\H' e=some (XAt e C dx)
def XEs(X:Cx):XK:=λev dxo H'=>∀e C dx pins s',ev=.ref e->dxo=some dx->nT X pins H' e C dx s'->X.xe (.ref e) s'
def upS(X:Cx)(t:TDS):TS:=UpS X.K (XEs X) t
def DE(X:Cx)(e:Expr)(t:GH):Prop:=PE X e (up X.K t)
def DA(X:Cx)(es:List Expr)(t:TDA):Prop:=PA X es (upA X.K t)
def DT(X:Cx)(e:Expr)(t:TDT):Prop:=PT X e (upT X.K t)
def DW(X:Cx)(e:Expr)(t:TDT):Prop:=PW X e (upT X.K t)
def DG(X:Cx)(e:Expr)(t:TDG):Prop:=PG X e (upG X.K t)
def DGs(X:Cx)(e:List Expr)(t:BD):Prop:=PGs X e (upGs X.K t)
def DS(X:Cx)(st:Stmt)(t:TDS):Prop:=PS X st (upS X t)
def DSs(X:Cx)(st:List Stmt)(t:TDS):Prop:=PSs X st (upS X t)
section
theorem PE.imp(h:PE X e t)(i:∀σ H Q,t' σ H Q->t σ H Q):PE X e t':=λpins s σ H Q I q=>h pins s σ H Q I (i σ H Q q)
theorem PT.imp(h:PT X e t)(i:∀σ H Q,t' σ H Q->t σ H Q):PT X e t':=λpins s σ H Q I q=>h pins s σ H Q I (i σ H Q q)
theorem PW.imp(h:PW X e t)(i:∀σ H Q,t' σ H Q->t σ H Q):PW X e t':=λwh pins s σ H Q I q=>h wh pins s σ H Q I (i σ H Q q)
theorem PA.imp(h:PA X es t)(i:∀σ H Q,t' σ H Q->t σ H Q):PA X es t':=λp pins s σ H Q I q=>h p pins s σ H Q I (i σ H Q q)
theorem PS.imp{st:Stmt}(h:PS X st t)(i:∀E σ H,t' E σ H->t E σ H):PS X st t':=λpins s σ H D I q=>h pins s σ H D I (i D σ H q)
theorem PSs.imp{st:List Stmt}(h:PSs X st t)(i:∀E σ H,t' E σ H->t E σ H):PSs X st t':=λpins s σ H D I q=>h pins s σ H D I (i D σ H q)
theorem PG.imp(h:PG X e t)(i:∀v σ H Q,t' v σ H Q->t v σ H Q):PG X e t':=λpins s σ H v u Q I r q=>h pins s σ H v u Q I r (i v σ H Q q)
theorem PGs.imp(h:PGs X es t)(i:∀v σ H Q,t' v σ H Q->t v σ H Q):PGs X es t':=λpins s σ H v u Q I r q=>h pins s σ H v u Q I r (i v σ H Q q)
theorem GC.imp(h:GC X f r)(i:∀x y H Q,r' x y H Q->r x y H Q):GC X f r':=λpins s σ H x y v u Q I rx ry q=>h pins s σ H x y v u Q I rx ry (i x y H Q q)
theorem UnR.imp(h:UnR X f r)(i:∀x H Q,r' x H Q->r x H Q):UnR X f r':=λpins s σ H x v Q I rx q=>h pins s σ H x v Q I rx (i x H Q q)
theorem cq.imp(h:cq X f r)(i:∀xs H Q,r' xs H Q->r xs H Q):cq X f r':=λpins s σ H x v Q I rx q=>h pins s σ H x v Q I rx (i x H Q q)
theorem IxR.imp(h:IxR X r)(i:∀x y H Q,r' x y H Q->r x y H Q):IxR X r':=λvalue slice pins s σ H x y v u Q I rx ry q hs=>h value slice pins s σ H x y v u Q I rx ry (i x y H Q q) hs
end
section
theorem up.mk{K:Zf}{H:Hp}{R:D->En->Prop}{Q:VK}(s:S K G δ P σ H)(h:t δ (wd R))(k:∀x δ',R x δ'->∀v H',S K G δ' ((x,v)::P) σ H'->Q v H'):up K t σ H Q:=⟨G,δ,P,wd R,s,h,k,λ_ _ z=>z.elim⟩
theorem S.dat{K:Zf}{H:Hp}{i:Nat}(s:S K G δ P σ H)(e:δ[i]?=some (.dat d)):∃v,σ[i]?=some (some v)/\S K G δ ((d,v)::P) σ H:=by
 obtain⟨A,x⟩:=s;obtain⟨v,q,r⟩:=x.dat i d e;exact⟨v,q,A,x.push r⟩
theorem S.own{K:Zf}{H:Hp}{i:Nat}(s:S K G δ P σ H)(e:δ[i]?=some (.own a d)):σ[i]?=some (some (.ref a)):=let ⟨_,x⟩:=s;(x.own i a d e).1
def sc:D->Option V
 | .non=>some .non
 | .bl b=>some (.bl b)
 | .int i=>some (.int i)
 | .str x=>some (.str x)
 | _=>none
theorem GI.sc{K:Zf}{H:Hp}{M:Addr->Prop}(h:sc d=some v):GI K M H d v:=by
 cases d<;>simp only[DL.sc,Option.some.injEq,reduceCtorEq] at h<;>subst h<;>unfold GI<;>rfl
theorem S.sc{K:Zf}{H:Hp}(s:S K G δ P σ H)(h:sc d=some v):S K G δ ((d,v)::P) σ H:=let ⟨A,x⟩:=s;⟨A,x.push (GI.sc h)⟩
end
def dV(i:Nat)(δ:En)(R:W->En->Prop):Prop:=qD δ[i]? λd=>R (.d d) δ
def dC(d:D)(δ:En)(R:W->En->Prop):Prop:=R (.d d) δ
def kOb(f:Zi->(D->Prop)->Prop)(x:D)(R:W->En->Prop):W->En->Prop:=wd λy δ2=>f [x,y] (kD R δ2)
def kOa(f:Zi->(D->Prop)->Prop)(tb:GH)(R:W->En->Prop):W->En->Prop:=wd λx δ1=>tb δ1 (kOb f x R)
def dOp(f:Zi->(D->Prop)->Prop)(ta tb:GH)(δ:En)(R:W->En->Prop):Prop:=ta δ (kOa f tb R)
def kUn(f:Zi->(D->Prop)->Prop)(R:W->En->Prop):W->En->Prop:=wd λx δ1=>f [x] (kD R δ1)
def dUn(f:Zi->(D->Prop)->Prop)(ta:GH)(δ:En)(R:W->En->Prop):Prop:=ta δ (kUn f R)
def Cg(δ:En)(R:Zi->En->Prop):Prop:=R [] δ
def kAd(x:D)(R:Zi->En->Prop)(ds:Zi)(δ:En):Prop:=R (x::ds) δ
def kAc(t:TDA)(R:Zi->En->Prop):W->En->Prop:=wd λx δ1=>t δ1 (kAd x R)
def xN(te:GH)(t:TDA)(δ:En)(R:Zi->En->Prop):Prop:=te δ (kAc t R)
def kCa(f:Zi->(D->Prop)->Prop)(R:W->En->Prop)(ds:Zi)(δ:En):Prop:=f ds (kD R δ)
def rN(f:Zi->(D->Prop)->Prop)(t:TDA)(δ:En)(R:W->En->Prop):Prop:=t δ (kCa f R)
def kTu(R:W->En->Prop)(ds:Zi)(δ:En):Prop:=q9 ds (R (.d (.tup ds)) δ)
def dTup(t:TDA)(δ:En)(R:W->En->Prop):Prop:=t δ (kTu R)
def kLs(R:W->En->Prop)(ds:Zi)(δ:En):Prop:=q9 ds (R (.d (.lst ds)) δ)
def dLst(t:TDA)(δ:En)(R:W->En->Prop):Prop:=t δ (kLs R)
def kTs(R:Bool->En->Prop):W->En->Prop:=wd λx δ1=>qB x λb=>R b δ1
def dTst(t:GH)(δ:En)(R:Bool->En->Prop):Prop:=t δ (kTs R)
def kAn(u:TDT)(R:Bool->En->Prop)(b:Bool)(δ:En):Prop:=if b=true then u δ R else R false δ
def dAnd(t u:TDT)(δ:En)(R:Bool->En->Prop):Prop:=t δ (kAn u R)
def kOr(u:TDT)(R:Bool->En->Prop)(b:Bool)(δ:En):Prop:=if b=true then R true δ else u δ R
def dOr(t u:TDT)(δ:En)(R:Bool->En->Prop):Prop:=t δ (kOr u R)
def kNo(R:Bool->En->Prop)(b:Bool)(δ:En):Prop:=R (!b) δ
def dNot(t:TDT)(δ:En)(R:Bool->En->Prop):Prop:=t δ (kNo R)
def kAV(u:GH)(R:W->En->Prop):W->En->Prop:=wd λx δ1=>qB x λb=>if b=true then u δ1 R else R (.d (.bl false)) δ1
def DZ(t u:GH)(δ:En)(R:W->En->Prop):Prop:=t δ (kAV u R)
def kOV(u:GH)(R:W->En->Prop):W->En->Prop:=wd λx δ1=>qB x λb=>if b=true then R (.d (.bl true)) δ1 else u δ1 R
def dOrV(t u:GH)(δ:En)(R:W->En->Prop):Prop:=t δ (kOV u R)
def kNV(R:W->En->Prop):W->En->Prop:=wd λx δ1=>qB x λb=>R (.d (.bl (!b))) δ1
def Cd(t:GH)(δ:En)(R:W->En->Prop):Prop:=t δ (kNV R)
def kIE(t u:GH)(R:W->En->Prop)(b:Bool)(δ:En):Prop:=if b=true then t δ R else u δ R
def dIfE(c:TDT)(t u:GH)(δ:En)(R:W->En->Prop):Prop:=c δ (kIE t u R)
section
variable {X:Cx} {pos:Pos} {a b c:Expr} {ta tb:GH} {t:TDA} {f:Zi→(D→Prop)→Prop} {es:List Expr}
theorem ap(i:Nat)(hN:X.N[i]?=some x:=by rfl)(hv:Vis X.env.scope x:=by walk_at "v3")(hd:(x==("__debug__":Str))=false:=by decide)
  (hcd:(x==("__classdict__":Str))=false:=by decide):DE X (.Name x pos) (dV i):=PE.imp (bA hN hv hd hcd) λσ H Q ⟨G,δ,P,R,s,h,k,_⟩=>by
 replace h:=qD.ex h;obtain⟨d,e,h⟩:=h;obtain⟨v,q,s'⟩:=s.dat e;exact⟨v,q,k d δ h v H s'⟩
theorem de_c(h:PE X a (tC v))(hs:sc d=some v):DE X a (dC d):=PE.imp h λσ H Q ⟨G,δ,P,R,s,r,k,_⟩=>k d δ r v H (s.sc hs)
theorem av{i j pos}:DE X (.Constant (.int i) j pos) (dC (.int i)):=de_c yi rfl
theorem gz{i j pos}:DE X (.Constant (.bool i) j pos) (dC (.bl i)):=de_c FT rfl
theorem cF{j pos}:DE X (.Constant .none j pos) (dC .non):=de_c BX rfl
theorem aG{x j pos}:DE X (.Constant (.str x) j pos) (dC (.str x)):=de_c rg rfl
theorem aJ(ho:GC X (binaryOp op) λx y=>aQ X.K f [x,y])(ha:DE X a ta)(hb:DE X b tb):DE X (.BinOp a op b pos) (dOp f ta tb) :=
 PE.imp (Ga ho ha hb) λσ H Q ⟨G,δ,P,R,s,h,k,_⟩=>up.mk s h λx δ1 h1 v H1 s1=>up.mk s1 h1 λy δ2 h2 u H2 s2 =>
  S.pure (P':=P) (ds:=[x,y]) (vs:=[v,u]) s2 rfl (by simp) (λp hp=>by simp[hp]) h2 λd r v' H' s'=>k d δ2 r v' H' s'
theorem fw(ho:GC X (compareOp op) λx y=>aQ X.K f [x,y])(ha:DE X a ta)(hb:DE X b tb)(hm:behindInMarks op b=false):DE X (.Compare a [op] [b] pos) (dOp f ta tb) :=
 PE.imp (zS ho ha hb hm) λσ H Q ⟨G,δ,P,R,s,h,k,_⟩=>up.mk s h λx δ1 h1 v H1 s1=>up.mk s1 h1 λy δ2 h2 u H2 s2 =>
  S.pure (P':=P) (ds:=[x,y]) (vs:=[v,u]) s2 rfl (by simp) (λp hp=>by simp[hp]) h2 λd r v' H' s'=>k d δ2 r v' H' s'
theorem aC(ho:GC X (compareOp op) λx y=>aQ X.K f [x,y])(ha:DE X a ta)(hb:DE X b tb)(hm:behindInMarks op b=false):DT X (.Compare a [op] [b] pos) (dTst (dOp f ta tb)) :=
 PT.imp (zc ho ha hb hm) λσ H Q ⟨G,δ,P,R,s,h,k⟩=>up.mk s h λx δ1 h1 v H1 s1=>up.mk s1 h1 λy δ2 h2 u H2 s2 =>
  S.pure (P':=P) (ds:=[x,y]) (vs:=[v,u]) s2 rfl (by simp) (λp hp=>by simp[hp]) h2 λd r v' H' s'=>by
   replace r:=qB.ex r;obtain⟨b,e,r⟩:=r;subst e;have q:=s';obtain⟨A,q⟩:=q;have q2:=q.pnd (.bl b,v') (by simp);simp only[GI] at q2;exact⟨b,q2,k b δ2 r H' (s'.sub λp hp=>by simp[hp])⟩
theorem vE(ho:UnR X (unaryOp op) λx=>aQ X.K f [x])(ha:DE X a ta):DE X (.UnaryOp op a pos) (dUn f ta) :=
 PE.imp (Fj ho ha) λσ H Q ⟨G,δ,P,R,s,h,k,_⟩=>up.mk s h λx δ1 h1 v H1 s1 =>
  S.pure (P':=P) (ds:=[x]) (vs:=[v]) s1 rfl (by simp) (λp hp=>by simp[hp]) h1 λd r v' H' s'=>k d δ1 r v' H' s'
theorem bZ(h:DE X a ta)(he:∀whole,isTrue a X.env whole=(do let v<-whole;standAt a.pos;holding [v] (truthy v)):=by intro _;rfl):DT X a (dTst ta) :=
 PT.imp (D3 h he) λσ H Q ⟨G,δ,P,R,s,h,k⟩=>up.mk s h λx δ1 h1 v H1 s1=>by
  replace h1:=qB.ex h1;obtain⟨b,e,r⟩:=h1;subst e;obtain⟨A,q⟩:=id s1;have q2:=q.pnd (.bl b,v) (by simp);simp only[GI] at q2;exact⟨b,q2,k b δ1 r H1 (s1.sub λp hp=>by simp[hp])⟩
theorem DW.dt(h:DW X a tA):DT X a tA:=PW.pt h
theorem iq(ha:DT X a tA):DW X (.BoolOp .And [a] pos) tA:=zJ ha
theorem f6(ha:DT X a tA):DW X (.BoolOp .Or [a] pos) tA:=DM ha
theorem lL{cE:List Expr}(ha:DT X a tA)(hb:DW X (.BoolOp .And (b::cE) pos) tB'):DW X (.BoolOp .And (a::b::cE) pos) (dAnd tA tB') :=
 PW.imp (Dd ha hb) λσ H Q ⟨G,δ,P,R,s,h,k⟩=>⟨G,δ,P,_,s,h,λb δ1 h1 H1 s1=>by
  cases b with
  | true=>exact⟨G,δ1,P,R,s1,h1,k⟩
  | false=>exact k false δ1 h1 H1 s1⟩
theorem kL{cE:List Expr}(ha:DT X a tA)(hb:DW X (.BoolOp .Or (b::cE) pos) tB'):DW X (.BoolOp .Or (a::b::cE) pos) (dOr tA tB') :=
 PW.imp (EE ha hb) λσ H Q ⟨G,δ,P,R,s,h,k⟩=>⟨G,δ,P,_,s,h,λb δ1 h1 H1 s1=>by
  cases b with
  | true=>exact k true δ1 h1 H1 s1
  | false=>exact⟨G,δ1,P,R,s1,h1,k⟩⟩
theorem pL(ha:DT X a tA):DT X (.UnaryOp .Not a pos) (dNot tA) :=
 PT.imp (Dp ha) λσ H Q ⟨G,δ,P,R,s,h,k⟩=>⟨G,δ,P,_,s,h,λb δ1 h1 H1 s1=>k _ δ1 h1 H1 s1⟩
theorem uN{K:Zf}{G:Gf}{δ:En}{P:List (D×V)}{σ:L2.St}{H:Hp}{b:Bool}{v:V}(s:S K G δ ((.bl b,v)::P) σ H):v=.bl b:=by
 obtain⟨A,q⟩:=s;have q2:=q.pnd (.bl b,v) (by simp);simpa only[GI] using q2
theorem iJ{op}(h:DE X a ta):DE X (.BoolOp op [a] pos) ta:=DY h
theorem pA{cE:List Expr}(ha:DE X a ta)(hb:DE X (.BoolOp .And (b::cE) pos) tb):DE X (.BoolOp .And (a::b::cE) pos) (DZ ta tb) :=
 PE.imp (CH ha hb) λσ H Q ⟨G,δ,P,R,s,h,k,k2⟩=>up.mk s h λx δ1 h1 v H1 s1=>by
  replace h1:=qB.ex h1;obtain⟨b,e,r⟩:=h1;subst e;refine⟨b,uN s1,?_⟩
  cases b with
  | true=>exact⟨G,δ1,P,R,s1.sub λp hp=>by simp[hp],r,k,k2⟩
  | false=>exact k (.bl false) δ1 r _ H1 (by rw[<- uN s1];exact s1)
theorem zy{cE:List Expr}(ha:DE X a ta)(hb:DE X (.BoolOp .Or (b::cE) pos) tb):DE X (.BoolOp .Or (a::b::cE) pos) (dOrV ta tb) :=
 PE.imp (ED ha hb) λσ H Q ⟨G,δ,P,R,s,h,k,k2⟩=>up.mk s h λx δ1 h1 v H1 s1=>by
  replace h1:=qB.ex h1;obtain⟨b,e,r⟩:=h1;subst e;refine⟨b,uN s1,?_⟩
  cases b with
  | false=>exact⟨G,δ1,P,R,s1.sub λp hp=>by simp[hp],r,k,k2⟩
  | true=>exact k (.bl true) δ1 r _ H1 (by rw[<- uN s1];exact s1)
theorem mw(ha:DE X a ta):DE X (.UnaryOp .Not a pos) (Cd ta) :=
 PE.imp (D2 ha) λσ H Q ⟨G,δ,P,R,s,h,k,k2⟩=>up.mk s h λx δ1 h1 v H1 s1=>by
  replace h1:=qB.ex h1;obtain⟨b,e,r⟩:=h1;subst e;exact⟨b,uN s1,k _ δ1 r _ H1 ((s1.sub λp hp=>by simp[hp]).sc rfl)⟩
theorem og(hc:DT X c tA)(ha:DE X a ta)(hb:DE X b tb):DE X (.IfExp c a b pos) (dIfE tA ta tb) :=
 PE.imp (xF hc ha hb) λσ H Q ⟨G,δ,P,R,s,h,k,k2⟩=>⟨G,δ,P,_,s,h,λb δ1 h1 H1 s1=>by
  cases b with
  | true=>exact⟨G,δ1,P,R,s1,h1,k,k2⟩
  | false=>exact⟨G,δ1,P,R,s1,h1,k,k2⟩⟩
theorem af:DA X [] Cg:=PA.imp ci λσ H Q ⟨G,δ,P,R,s,h,k⟩=>k [] δ h [] H rfl s
theorem ac(ha:DE X a ta)(hr:DA X es t)(hs:starEach (a::es) X.env=(false,eval a X.env)::starEach es X.env:=by rfl):DA X (a::es) (xN ta t) :=
 PA.imp (aM ha hr hs) λσ H Q ⟨G,δ,P,R,s,h,k⟩=>up.mk s h λx δ1 h1 v H1 s1=>⟨G,δ1,(x,v)::P,_,s1,h1,λds δ2 h2 vs H2 hl s2 =>
  k (x::ds) δ2 h2 (v::vs) H2 (by simp[hl]) (s2.sub λp hp=>by
   simp only[List.zip_cons_cons,List.cons_append,List.mem_cons,List.mem_append] at hp ⊢
   rcases hp with h | h | h
   ·exact .inr (.inl h)
   ·exact .inl h
   ·exact .inr (.inr h))⟩
theorem aF(h:H p=none)(o:HO):bH H (GE H p o):=λb u q=>by rw[aH (cw q h)];exact q
theorem iM(h:n<=9000):n<sizeLine:=Jl h (by decide)
theorem dS(h:n<=9000):n<=sizeLine:=IH (iM h)
theorem aN{x1}(h:DA X es t):DE X (.Tuple es x1 pos) (dTup t) :=
 PE.imp (B9 h) λσ H Q ⟨G,δ,P,R,s,h,k,_⟩=>⟨G,δ,P,_,s,h,λds δ1 h9 vs H1 hl s1=>⟨by rw[<- hl];exact dS (q9.ex h9).1,λp hp=>by
  have h1:=(q9.ex h9).2
  obtain⟨A,x⟩:=s1;have r:=x.reps ds vs hl (λq hq=>Hf _ hq);have x2:=x.same (aF hp (.tup vs));refine k (.tup ds) δ1 h1 (.ref p) _ ⟨A,(x2.sub λq hq=>G7 _ hq).push ?_⟩;unfold GI
  exact⟨p,vs,rfl,GA.of aw,Reps.kp (Kp.of_same (aF hp _)) _ _ r⟩⟩⟩
theorem aO(h:DA X es t):DE X (.List es pos) (dLst t) :=
 PE.imp (vi h) λσ H Q ⟨G,δ,P,R,s,h,k,_⟩=>⟨G,δ,P,_,s,h,λds δ1 h9 vs H1 hl s1=>⟨by rw[<- hl];exact dS (q9.ex h9).1,λp hp=>by
  have h1:=(q9.ex h9).2
  obtain⟨A,x⟩:=s1;have r:=x.reps ds vs hl (λq hq=>Hf _ hq);have x2:=x.same (aF hp (.lst vs));refine k (.lst ds) δ1 h1 (.ref p) _ ⟨A,(x2.sub λq hq=>G7 _ hq).push ?_⟩;unfold GI
  exact⟨p,vs,rfl,λz=>x.mem p z hp,aw,Reps.kp (Kp.of_same (aF hp _)) _ _ r⟩⟩⟩
theorem mn(hr:IxR X λx y=>aQ X.K f [x,y])(ha:DE X a ta)(hb:DE X b tb)(hs:vm b):DE X (.Subscript a b pos) (dOp f ta tb) :=
 PE.imp (FB hr ha hb hs) λσ H Q ⟨G,δ,P,R,s,h,k,_⟩=>up.mk s h λx δ1 h1 v H1 s1=>up.mk s1 h1 λy δ2 h2 u H2 s2 =>
  S.pure (P':=P) (ds:=[x,y]) (vs:=[v,u]) s2 rfl (by simp) (λp hp=>by simp[hp]) h2 λd r v' H' s'=>k d δ2 r v' H' s'
def Gy(K:Zf)(f:Zi->(D->Prop)->Prop):Sp:=λvs H Q _=>aQ K f vs H Q
theorem j6{K:Zf}{H:Hp}{Q:VK}{f:Zi->(D->Prop)->Prop}(h:up K (rN f t) σ H Q):upA K t σ H λvs H1=>aQ K f vs H1 Q:=by
 obtain⟨G,δ,P,R,s,h,k,_⟩:=h;exact⟨G,δ,P,_,s,h,λds δ1 h1 vs H1 hl s1=>S.pure (P':=P) s1 hl (λp hp=>Hf _ hp) (λp hp=>G7 _ hp) h1 λd r v' H' s'=>k d δ1 r v' H' s'⟩
theorem zd(F:fG X.prog X.w X.K X.mg X.base CX0 k g fd ps (Gy X.K f))(hr:cK k X.A)(hg:Gl X x)(hm:X.mg x=some (.ref g))(hk:PySem.W.keepIn X.K (.ref g)=true)
  (hb:eC X.K fd ps []) (ha:DA X (a::es) t) (hdb:(x==("__debug__":Str))=false:=by decide) (he:starEach (a::es) X.env=(false,eval a X.env)::starEach es X.env:=by rfl) (hpl:(backTo pos (starEach es X.env)).any (·.1)=false:=by rfl) :
  DE X (.Call (.Name x p) (a::es) [] pos) (rN f t) :=
 PE.imp (ko F hr hg hm hk hb .nil zM ha hdb he hpl) λσ H Q h=>by
  show upA X.K t σ H λvs H1=>aQ X.K f (vs++[]) H1 Q
  have q:=j6 h
  simpa only[List.append_nil] using q
theorem bg{id:String}(hc:cq X (.builtin id) (aQ X.K f))(hg:Gl X x)(hm:X.mg x=none)(hv:bootBuiltins x=some (.builtin id))(ha:DA X (a::es) t)(hn:x≠"__name__":=by decide)(hdb:(x==("__debug__":Str))=false:=by decide)
  (he:starEach (a::es) X.env=(false,eval a X.env)::starEach es X.env:=by rfl) (hpl:(backTo pos (starEach es X.env)).any (·.1)=false:=by rfl):DE X (.Call (.Name x p) (a::es) [] pos) (rN f t) :=
 PE.imp (eY hc hg hm hv ha hn hdb he hpl) λσ H Q h=>j6 h
theorem dG(hc:cq X (.type T) (aQ X.K f))(hg:Gl X x)(hm:X.mg x=none)(hv:bootBuiltins x=some (.type T))(ha:DA X (a::es) t)(hn:x≠"__name__":=by decide)(hdb:(x==("__debug__":Str))=false:=by decide)
  (he:starEach (a::es) X.env=(false,eval a X.env)::starEach es X.env:=by rfl) (hpl:(backTo pos (starEach es X.env)).any (·.1)=false:=by rfl):DE X (.Call (.Name x p) (a::es) [] pos) (rN f t) :=
 PE.imp (iB hc hg hm hv ha hn hdb he hpl) λσ H Q h=>j6 h
end
def BQ(R:aP)(δ:En):Prop:=R.nx δ
def dSeq(t u:TDS)(R:aP)(δ:En):Prop:=t { R with nx:=u R } δ
def DN(t:GH)(R:aP)(δ:En):Prop:=t δ λ_ δ1=>R.nx δ1
def kRe(R:aP):W->En->Prop:=wd λx δ1=>R.rt x δ1
def dRet(t:GH)(R:aP)(δ:En):Prop:=t δ (kRe R)
def kIf(t u:En->Prop)(b:Bool)(δ:En):Prop:=if b=true then t δ else u δ
def dIf(c:TDT)(t u:TDS)(R:aP)(δ:En):Prop:=c δ (kIf (t R) (u R))
def uc(_:aP)(_:En):Prop:=False
def kSe(i:Nat)(R:aP):W->En->Prop:=wd λx δ1=>lq δ1 i (.dat x) R.nx
def dSet(i:Nat)(t:GH)(R:aP)(δ:En):Prop:=t δ (kSe i R)
def kAs(g:TDG)(R:aP):W->En->Prop:=wd λx δ1=>g x δ1 R.nx
def dAsg(t:GH)(g:TDG)(R:aP)(δ:En):Prop:=t δ (kAs g R)
def cB(i:Nat)(x:D)(δ:En)(R:En->Prop):Prop:=lq δ i (.dat x) R
def zq(ds:Zi)(δ:En)(R:En->Prop):Prop:=qN ds (R δ)
def uo(t:TDG)(u:BD)(ds:Zi)(δ:En)(R:En->Prop):Prop:=qC ds λx r=>t x δ λδ1=>u r δ1 R
def lG(n:Nat)(t:BD)(d:D)(δ:En)(R:En->Prop):Prop:=qT d λxs=>vx xs n (t xs δ R)
def B5(c:TDT)(tb:TDS)(R:aP)(δ:En):Prop:=∃(I:En->Prop) (μ:En->Nat),I δ/\∀δ,I δ->c δ (kIf (tb { R with nx:=λδ'=>I δ'/\μ δ'<μ δ,ct:=λδ'=>I δ'/\μ δ'<μ δ,bk:=R.nx,tp:=False }) R.nx)
def sj(t:GH)(g:TDG)(tb:TDS)(R:aP)(δ:En):Prop:=t δ (wd λd δ1=>qL d λxs=>∃I:Nat->En->Prop,I 0 δ1 /\
 (∀i x δ',xs[i]?=some x->I i δ'->g x δ' (tb { R with nx:=I (i+1),ct:=I (i+1),bk:=R.nx,tp:=False }))/\∀δ',I xs.length δ'->R.nx δ')
def t9(t:GH)(g:TDG)(tb:TDS)(R:aP)(δ:En):Prop:=t δ (wd λd δ1=>qT d λxs=>∃I:Nat->En->Prop,I 0 δ1 /\
 (∀i x δ',xs[i]?=some x->I i δ'->g x δ' (tb { R with nx:=I (i+1),ct:=I (i+1),bk:=R.nx,tp:=False }))/\∀δ',I xs.length δ'->R.nx δ')
def wN(t:TDA)(g:TDG)(tb:TDS)(R:aP)(δ:En):Prop:=t δ λds δ1=>qC ds λx r=>qN r <| qI x λj=>-(2 ^ 62)<=j/\j<2 ^ 62/\∃I:Nat->En->Prop,I 0 δ1 /\
 (∀i δ',i<j.toNat->I i δ'->g (.int i) δ' (tb { R with nx:=I (i+1),ct:=I (i+1),bk:=R.nx,tp:=False }))/\∀δ',I j.toNat δ'->R.nx δ'
section
theorem aA:DSs X [] BQ:=PSs.imp zH λE σ H ⟨G,δ,P,R,s,h,k,_⟩=>k δ h σ H s
theorem ae{st:Stmt}{cE:List Stmt}(h1:DS X st t)(h2:DSs X cE u):DSs X (st::cE) (dSeq t u) :=
 PSs.imp (gY h1 h2) λE σ H ⟨G,δ,P,R,s,h,k1,k2,k3,k4⟩=>⟨G,δ,P,{ R with nx:=u R },s,h,λδ' h' σ' H' s'=>⟨G,δ',P,R,s',h',k1,k2,k3,k4⟩,k2,k3,k4⟩
theorem ag{st:Stmt}(h1:DS X st t):DSs X [st] t:=hV h1
theorem u8(he:DE X e ta)(hs:swapsWith e none pos.line X.env=pure false:=by rfl):DS X (.Expr e pos) (DN ta) :=
 PS.imp (eO he hs) λE σ H ⟨G,δ,P,R,s,h,k,_⟩=>⟨G,δ,P,_,s,h,λx δ1 h1 v H1 s1=>k δ1 h1 σ H1 (s1.sub λp hp=>by simp[hp]),λi δ1 h1 a d H1 s1 _=>k δ1 h1 σ H1 s1⟩
theorem ax(he:DE X e ta):DS X (.Return (some e) pos) (dRet ta) :=
 PS.imp (o8 he) λE σ H ⟨G,δ,P,R,s,h,_,k,_⟩=>up.mk s h λx δ1 h1 v H1 s1=>k.1 x δ1 h1 v σ H1 s1
theorem aK(hc:DT X c tA)(ha:DSs X aa t)(hb:DSs X bb u):DS X (.If c aa bb pos) (dIf tA t u) :=
 PS.imp (FH hc ha hb) λE σ H ⟨G,δ,P,R,s,h,k1,k2,k3,k4⟩=>⟨G,δ,P,_,s,h,λb δ1 h1 H1 s1=>by
  cases b with
  | true=>exact⟨G,δ1,P,R,s1,h1,k1,k2,k3,k4⟩
  | false=>exact⟨G,δ1,P,R,s1,h1,k1,k2,k3,k4⟩⟩
theorem ds_never{st:Stmt}:DS X st uc:=PS.imp xk λE σ H ⟨G,δ,P,R,s,h,_⟩=>h
theorem jd{cE:List Stmt}:DSs X cE uc:=PSs.imp tG λE σ H ⟨G,δ,P,R,s,h,_⟩=>h
theorem aD(i:Nat)(hN:X.N.Nodup)(he:DE X e ta)(hi:X.N[i]?=some x:=by rfl)(hx:Loc X.env.scope x:=by walk_at "v2")(hs:swapsWith e (some (.Name x pos')) pos.line X.env=pure false:=by rfl)
  (hf:X.fn x=true\/X.env.scope.names.lookup x=some .local :=by walk_at "v1"):DS X (.Assign [.Name x pos'] e pos) (dSet i ta) :=
 PS.imp (jH hN hi hx he hs hf) λE σ H ⟨G,δ,P,R,s,h,k,_⟩=>up.mk s h λx δ1 h1 v H1 s1=>k _ h1 _ H1 (s1.set (by simp) λp hp=>by simp[hp])
theorem sL(he:DE X e ta)(hg:DG X tg g)(hs:swapsWithSole [tg] e pos.line X.env=pure false:=by rfl)(hw:swappedStores [tg] e X.env=pure none:=by rfl)
  (h1:(assignEach [tg] X.env).map (·.2)=[assign tg X.env]:=by rfl):DS X (.Assign [tg] e pos) (dAsg ta g) :=
 PS.imp (Dm he hg hs hw h1) λE σ H ⟨G,δ,P,R,s,h,k,_⟩=>up.mk s h λx δ1 h1 v H1 s1=>⟨G,δ1,P,x,R.nx,s1,h1,k⟩
theorem ar(i:Nat)(hN:X.N.Nodup)(hi:X.N[i]?=some x:=by rfl)(hx:Loc X.env.scope x:=by walk_at "v2")(hf:X.fn x=true\/X.env.scope.names.lookup x=some .local :=by walk_at "v1") :
  DG X (.Name x pos) (cB i):=PG.imp (zU hN hi hx hf) λv σ H Q ⟨G,δ,P,d,R,s,h,k⟩=>k _ h _ H (s.set (by simp) λp hp=>by simp[hp])
theorem a5:DGs X [] zq:=PGs.imp zw λvs σ H Q ⟨G,δ,P,ds,R,hl,s,h,k⟩=>by
 replace h:=qN.ex h;obtain⟨e,h⟩:=h;subst e;have:vs=[]:=IG.mp hl.symm;subst this;exact⟨rfl,k δ h σ H s⟩
theorem aE(h1:DG X e g)(h2:DGs X es gs)(hs:(assignEach (e::es) X.env).map (·.2)=assign e X.env::(assignEach es X.env).map (·.2):=by rfl):DGs X (e::es) (uo g gs) :=
 PGs.imp (v6 h1 h2 hs) λvs σ H Q ⟨G,δ,P,ds,R,hl,s,h,k⟩=>by
  replace h:=qC.ex h;obtain⟨x,r,e,h⟩:=h;subst e
  cases vs with
  | nil=>cases hl
  | cons v vs =>
   refine⟨v,vs,rfl,G,δ,r.zip vs++P,x,_,s.sub λp hp=>by simpa using hp,h,λδ1 h1 σ1 H1 s1=>⟨G,δ1,P,r,R,Jp hl,s1,h1,k⟩⟩
theorem bV(hc:X.calm=true)(h:DGs X es gs)(hn:(assignEach es X.env).length=n:=by rfl)(hst:(assignEach es X.env).findIdx? (·.1)=none:=by rfl):DG X (.Tuple es kk pos) (lG n gs) :=
 PG.imp (Cb hc h hn hst) λv σ H Q ⟨G,δ,P,d,R,s,h,k⟩=>by
  replace h:=qT.ex h;obtain⟨xs,e,h⟩:=h;replace h:=vx.ex h;obtain⟨hl,h⟩:=h;subst e;obtain⟨A,x⟩:=s;have q:=x.pnd (.tup xs,v) (by simp);simp only[GI] at q;obtain⟨a,vs,e,sq,r⟩:=q;subst e;refine⟨a,vs,rfl,sq,by rw[<- Reps.length _ _ r];exact hl,G,δ,P,xs,R,Reps.length _ _ r,⟨A,?_⟩,h,k⟩
  exact⟨x.old,x.stay,x.m0,x.pm,x.new,x.thr,x.len,x.dat,x.own,x.inj,λp hp=>by
   rcases Hb.mp hp with hp | hp
   ·obtain⟨i,hi,e⟩:=List.mem_iff_getElem.mp hp;have h1:i<xs.length:=by rw[IL] at hi;omega
    have h2:i<vs.length:=by rw[IL] at hi;omega
    obtain⟨v',e',r'⟩:=Reps.get _ _ r i xs[i] (by simp[h1]);have:p=(xs[i],vs[i]):=by rw[<- e,List.getElem_zip]
    rw[this];rw[Hl h2] at e'
    cases e'
    exact r'
   ·exact x.pnd p (by simp[hp])⟩
theorem wQ(hp:PassesOwn (model X.prog X.w) X.A X.env X.xe)(hc:DT X c tA)(hb:DSs X body t):DS X (.While c body [] pos) (B5 tA t) :=
 PS.imp (wf hp hc hb) λE σ H ⟨G,δ,P,R,s,⟨I,μ,i0,turn⟩,k1,k2,k3,k4⟩=>by
  refine⟨λm σ H=>∃δ,m=μ δ/\I δ/\S X.K G δ P σ H,⟨_,δ,rfl,i0,s⟩,?_⟩;rintro m σ H ⟨δ,rfl,i,s⟩;refine⟨G,δ,P,_,s,turn δ i,λb δ1 h1 H1 s1=>?_⟩
  cases b with
  | false=>exact k1 δ1 h1 σ H1 s1
  | true =>
   refine⟨λσ' H'=>∃δ',(I δ'/\μ δ'<μ δ)/\S X.K G δ' P σ' H',λσ' H' ⟨δ',⟨i',l⟩,s'⟩=>⟨_,l,δ',rfl,i',s'⟩,?_⟩;exact⟨G,δ1,P,_,s1,h1,λδ' h' σ' H' s'=>⟨δ',h',s'⟩,k2,k1,λδ' h' σ' H' s'=>⟨δ',h',s'⟩,λz=>z.elim⟩
theorem aY(hp:PassesOwn (model X.prog X.w) X.A X.env X.xe)(hc:X.calm=true)(hi:DE X e ta)(hg:DG X tg g)(hb:DSs X body t)(hs:∀x,foldedSetIterable e X.env x=pure x:=by intro _;rfl):DS X (.For tg e body [] pos) (sj ta g t) :=
 PS.imp (mG hp hc (oM hi) hg hb hs) λE σ H ⟨G,δ,P,R,s,h,k1,k2,k3,k4⟩=>up.mk s h λd δ1 h1 v H1 s1=>by
  replace h1:=qL.ex h1;obtain⟨xs,e,I,i0,aa,aj⟩:=h1;subst e;have ai:∀δ σ H,S X.K G δ ((.lst xs,v)::P) σ H->∃a vs,v=.ref a/\GL X.K H a vs/\vs.length=xs.length:=λδ σ H ⟨A,x⟩=>by
   have q:=x.pnd (.lst xs,v) (by simp)
   simp only[GI] at q;obtain⟨a,vs,e,_,l,r⟩:=q;exact⟨a,vs,e,GL.of l,(Reps.length _ _ r).symm⟩
  have ab:∃a vs,v=.ref a/\GL X.K H1 a vs/\vs.length=xs.length:=ai _ _ _ s1
  obtain⟨a,al,rfl,ah,an⟩:=ab;refine⟨a,rfl,⟨al,ah⟩,λi m σ H=>m=xs.length-i/\i<=xs.length/\∃δ,I i δ/\S X.K G δ ((.lst xs,.ref a)::P) σ H,⟨xs.length,by simp,Ir _,δ1,i0,s1⟩,?_⟩;rintro i m σ H ⟨rfl,hi,δ',ii,s'⟩;obtain⟨A,x⟩:=id s';have q:=x.pnd (.lst xs,.ref a) (by simp);simp only[GI] at q;obtain⟨a',vs,e,_,l,r⟩:=q
  cases e
  have l:GL X.K H a vs:=GL.of l
  have hl:xs.length=vs.length:=Reps.length _ _ r
  by_cases hlt:i<xs.length
  ·obtain⟨v',e',r'⟩:=Reps.get _ _ r i xs[i] (by simp[hlt]);refine .inr ⟨⟨vs,v',l,e'⟩,λσ' H'=>∃δ',I (i+1) δ'/\S X.K G δ' ((.lst xs,.ref a)::P) σ' H',λσ' H' ⟨δ',p',s'⟩=>⟨xs.length-(i+1),by omega,rfl,hlt,δ',p',s'⟩,λy H' hy=>?_⟩;obtain⟨e,hy⟩:=hy;subst e;have:some y=some v':=(hy vs l).symm.trans e'
   cases this
   refine⟨G,δ',(.lst xs,.ref a)::P,xs[i],_,⟨A,x.push r'⟩,aa i xs[i] δ' (by simp[hlt]) ii,λδ2 h2 σ2 H2 s2=>?_⟩
   refine⟨G,δ2,(.lst xs,.ref a)::P,_,s2,h2,λδ3 h3 σ3 H3 s3=>⟨δ3,h3,s3⟩,⟨λd δ3 h3 v3 σ3 H3 s3=>k2.1 d δ3 h3 v3 σ3 H3 (s3.sub λp hp=>by
    rcases GY.mp hp with rfl | hp
    ·simp
    ·simp[hp]),k2.2.1,exs k2.2.2⟩,λδ3 h3 σ3 H3 s3=>k1 δ3 h3 σ3 H3 (s3.sub λp hp=>by simp[hp]),λδ3 h3 σ3 H3 s3=>⟨δ3,h3,s3⟩,λz=>z.elim⟩
  ·have e:i=xs.length:=by omega
   subst e;exact .inl ⟨⟨vs,l,by omega⟩,k1 δ' (aj δ' ii) σ H (s'.sub λp hp=>by simp[hp])⟩
theorem k7(hp:PassesOwn (model X.prog X.w) X.A X.env X.xe)(hc:X.calm=true)(hi:DE X e ta)(hg:DG X tg g)(hb:DSs X body t)(hs:∀x,foldedSetIterable e X.env x=pure x:=by intro _;rfl):DS X (.For tg e body [] pos) (t9 ta g t) :=
 PS.imp (mG hp hc (xI hi) hg hb hs) λE σ H ⟨G,δ,P,R,s,h,k1,k2,k3,k4⟩=>up.mk s h λd δ1 h1 v H1 s1=>by
  replace h1:=qT.ex h1;obtain⟨xs,e,I,i0,aa,aj⟩:=h1;subst e;have ai:∀δ σ H,S X.K G δ ((.tup xs,v)::P) σ H->∃a vs,v=.ref a/\GA X.K H a vs/\vs.length=xs.length:=λδ σ H ⟨A,x⟩=>by
   have q:=x.pnd (.tup xs,v) (by simp)
   simp only[GI] at q;obtain⟨a,vs,e,l,r⟩:=q;exact⟨a,vs,e,l,(Reps.length _ _ r).symm⟩
  have ab:∃a vs,v=.ref a/\GA X.K H1 a vs/\vs.length=xs.length:=ai _ _ _ s1
  obtain⟨a,al,rfl,ah,an⟩:=ab;refine⟨a,rfl,⟨al,ah⟩,λi m σ H=>m=xs.length-i/\i<=xs.length/\∃δ,I i δ/\S X.K G δ ((.tup xs,.ref a)::P) σ H,⟨xs.length,by simp,Ir _,δ1,i0,s1⟩,?_⟩;rintro i m σ H ⟨rfl,hi,δ',ii,s'⟩;obtain⟨A,x⟩:=id s';have q:=x.pnd (.tup xs,.ref a) (by simp);simp only[GI] at q;obtain⟨a',vs,e,l,r⟩:=q
  cases e
  have hl:xs.length=vs.length:=Reps.length _ _ r
  by_cases hlt:i<xs.length
  ·obtain⟨v',e',r'⟩:=Reps.get _ _ r i xs[i] (by simp[hlt]);refine .inr ⟨⟨vs,v',l,e'⟩,λσ' H'=>∃δ',I (i+1) δ'/\S X.K G δ' ((.tup xs,.ref a)::P) σ' H',λσ' H' ⟨δ',p',s'⟩=>⟨xs.length-(i+1),by omega,rfl,hlt,δ',p',s'⟩,λy H' hy=>?_⟩;obtain⟨e,hy⟩:=hy;subst e;have:some y=some v':=(hy vs l).symm.trans e'
   cases this
   refine⟨G,δ',(.tup xs,.ref a)::P,xs[i],_,⟨A,x.push r'⟩,aa i xs[i] δ' (by simp[hlt]) ii,λδ2 h2 σ2 H2 s2=>?_⟩
   refine⟨G,δ2,(.tup xs,.ref a)::P,_,s2,h2,λδ3 h3 σ3 H3 s3=>⟨δ3,h3,s3⟩,⟨λd δ3 h3 v3 σ3 H3 s3=>k2.1 d δ3 h3 v3 σ3 H3 (s3.sub λp hp=>by
    rcases GY.mp hp with rfl | hp
    ·simp
    ·simp[hp]),k2.2.1,exs k2.2.2⟩,λδ3 h3 σ3 H3 s3=>k1 δ3 h3 σ3 H3 (s3.sub λp hp=>by simp[hp]),λδ3 h3 σ3 H3 s3=>⟨δ3,h3,s3⟩,λz=>z.elim⟩
  ·have e:i=xs.length:=by omega
   subst e;exact .inl ⟨⟨vs,l,by omega⟩,k1 δ' (aj δ' ii) σ H (s'.sub λp hp=>by simp[hp])⟩
theorem nq(hp:PassesOwn (model X.prog X.w) X.A X.env X.xe)(hc:X.calm=true)(hgl:Gl X "range")(hm:X.mg "range"=none)(ha:DA X [a] tda)(hg:DG X tg g)(hb:DSs X body t)
  (hse:starEach [a] X.env=[(false,eval a X.env)]:=by rfl) (hs:∀x,foldedSetIterable (.Call (.Name "range" p) [a] [] pos') X.env x=pure x:=by intro _;rfl) :
  DS X (.For tg (.Call (.Name "range" p) [a] [] pos') body [] pos) (wN tda g t) :=
 PS.imp (mG hp hc (mf hgl hm ha hse) hg hb hs) λE σ H ⟨G,δ,P,R,s,h,k1,k2,k3,k4⟩=>⟨G,δ,P,_,s,h,λds δ1 h1 vs H1 hl s1=>by
  replace h1:=qC.ex h1;obtain⟨x,r,e,h1⟩:=h1;replace h1:=qN.ex h1;obtain⟨e',h1⟩:=h1;replace h1:=qI.ex h1;obtain⟨j,e2,h1,h2,I,i0,aa,ab⟩:=h1;subst e2 e' e
  match vs,hl with
  | [v],_ =>
   have q:v=.int j:=by
    obtain⟨A,x⟩:=s1;have q:=x.pnd (.int j,v) (by simp);simpa only[GI] using q
   subst q;have s2:S X.K G δ1 P σ H1:=s1.sub λp hp=>by simp[hp]
   refine⟨j,rfl,h1,h2,tY (lo:=0) (n:=j.toNat) (λi σ H=>∃δ,I i δ/\S X.K G δ P σ H) ⟨δ1,i0,s2⟩ (λi σ H hi ⟨δ',ii,s'⟩=>?_) λσ H ⟨δ',ii,s'⟩=>k1 δ' (ab δ' ii) σ H s'⟩;refine⟨G,δ',P,.int (0+i),_,s'.sc rfl,(by have q:=aa i δ' hi ii;rw[Jq];exact q),λδ2 h2 σ2 H2 s2=>?_⟩
   exact⟨G,δ2,P,_,s2,h2,λδ3 h3 σ3 H3 s3=>⟨δ3,h3,s3⟩,k2,k1,λδ3 h3 σ3 H3 s3=>⟨δ3,h3,s3⟩,λz=>z.elim⟩⟩
end
end DL
namespace DL
open PySem PySem.Spec PyProof.Rows L2
section
theorem BJ{K:Zf}{M:Addr->Prop}{H:Hp}{a:D}{x:V}(h:Reps K M H [a] [x]):GI K M H a x:=by
 unfold Reps at h;obtain⟨v,r,e,q,_⟩:=h
 cases e
 exact q
theorem bP{K:Zf}{M:Addr->Prop}{H:Hp}{b:D}{y:V}(h:Reps K M H [a,b] [x,y]):GI K M H a x/\GI K M H b y:=by
 unfold Reps at h;obtain⟨v,r,e,q,h⟩:=h
 cases e
 exact⟨q,BJ h⟩
theorem bq{K:Zf}{M:Addr->Prop}{H:Hp}{a:D}(h:Reps K M H [a] vs):∃x,vs=[x]/\GI K M H a x:=by
 unfold Reps at h;obtain⟨v,r,e,q,h⟩:=h;unfold Reps at h;subst h;exact⟨v,e,q⟩
theorem kZ{K:Zf}{M:Addr->Prop}{H:Hp}{b:D}(h:Reps K M H [a,b] vs):∃x y,vs=[x,y]/\GI K M H a x/\GI K M H b y:=by
 unfold Reps at h;obtain⟨v,r,e,q,h⟩:=h;obtain⟨y,e2,q2⟩:=bq h;subst e2;exact⟨v,y,e,q,q2⟩
theorem aR{K:Zf}{M:Addr->Prop}{H:Hp}(h:GI K M H (.int i) v):v=.int i:=by unfold GI at h;exact h
theorem ie{K:Zf}{M:Addr->Prop}{H:Hp}(h:GI K M H (.bl i) v):v=.bl i:=by unfold GI at h;exact h
theorem bm{K:Zf}{M:Addr->Prop}{H:Hp}(h:GI K M H (.str i) v):v=.str i:=by unfold GI at h;exact h
end
def fI0(g:Int->Int->D):Zi->(D->Prop)->Prop
 | [.int i,.int j],R=>R (g i j)
 | _,_=>False
def fI(C:Int->Int->Prop)(g:Int->Int->D):Zi->(D->Prop)->Prop
 | [.int i,.int j],R=>C i j/\R (g i j)
 | _,_=>False
def fU(g:Int->D):Zi->(D->Prop)->Prop
 | [.int i],R=>R (g i)
 | _,_=>False
theorem BZ:fI0 g [.int a,.int b] R=R (g a b):=rfl
theorem FP:fI C g [.int a,.int b] R=(C a b/\R (g a b)):=rfl
theorem EQ:fU g [.int a] R=R (g a):=rfl
theorem B2(h:fI0 g ds R):∃i j,ds=[.int i,.int j]/\R (g i j):=by
 unfold fI0 at h
 split at h
 ·exact⟨_,_,rfl,h⟩
 ·exact h.elim
theorem Fg(h:fI C g ds R):∃i j,ds=[.int i,.int j]/\C i j/\R (g i j):=by
 unfold fI at h
 split at h
 ·exact⟨_,_,rfl,h⟩
 ·exact h.elim
theorem Ds(h:fU g ds R):∃i,ds=[.int i]/\R (g i):=by
 unfold fU at h
 split at h
 ·exact⟨_,rfl,h⟩
 ·exact h.elim
def CFd(_ j:Int):Prop:=j≠0/\j.natAbs.log2<9000
def CNz(_ j:Int):Prop:=j≠0
section
variable {X:Cx}
theorem vP{f:Value->Value->Sem Value}{g':Int->Int->V}{g:Int->Int->D}(h:GC X f (rI0 g'))(hs:∀i j,sc (g i j)=some (g' i j)):GC X f λx y=>aQ X.K (fI0 g) [x,y] :=
 GC.imp h λx y H Q ⟨M,ds,R,m,rs,hf,k⟩=>by
  obtain⟨i,j,e,r⟩:=B2 hf;subst e;obtain⟨h1,h2⟩:=bP rs;exact⟨i,j,aR h1,aR h2,k _ r _ H (bH.refl H) (GI.sc (hs i j))⟩
theorem opI{f:Value->Value->Sem Value}{C C':Int->Int->Prop}{g':Int->Int->V}{g:Int->Int->D}(h:GC X f (rI C' g'))(hs:∀i j,sc (g i j)=some (g' i j))(hc:∀i j,C i j->C' i j):GC X f λx y=>aQ X.K (fI C g) [x,y] :=
 GC.imp h λx y H Q ⟨M,ds,R,m,rs,hf,k⟩=>by
  obtain⟨i,j,e,c,r⟩:=Fg hf;subst e;obtain⟨h1,h2⟩:=bP rs;exact⟨i,j,aR h1,aR h2,hc i j c,k _ r _ H (bH.refl H) (GI.sc (hs i j))⟩
theorem F3:GC X (binaryOp .Add) λx y=>aQ X.K (fI0 λi j=>.int (i+j)) [x,y]:=vP D6 λ_ _=>rfl
theorem wS:GC X (binaryOp .Sub) λx y=>aQ X.K (fI0 λi j=>.int (i-j)) [x,y]:=vP Ch λ_ _=>rfl
theorem zG:GC X (binaryOp .Mult) (rI IntMulOk λi j=>.int (i*j)):=L2.opI λ_ _ _ _ _ _ _ hc q=>mul_int q hc
theorem cZ:GC X (binaryOp .Mult) λx y=>aQ X.K (fI IntMulOk λi j=>.int (i*j)) [x,y]:=opI zG (λ_ _=>rfl) λ_ _ h=>h
theorem wY:GC X (binaryOp .FloorDiv) (rI CFd λi j=>.int (i.fdiv j)):=L2.opI λ_ _ _ _ _ _ _ hc q=>floordiv_int hc.1 q (.inl (PyProof.noPylong_of_log2 hc.2))
theorem bU:GC X (binaryOp .FloorDiv) λx y=>aQ X.K (fI CFd λi j=>.int (i.fdiv j)) [x,y]:=opI wY (λ_ _=>rfl) λ_ _ h=>h
theorem eS:GC X (binaryOp .Mod) λx y=>aQ X.K (fI CNz λi j=>.int (i.fmod j)) [x,y]:=opI zr (λ_ _=>rfl) λ_ _ h=>h
theorem o_lt:GC X (compareOp .Lt) λx y=>aQ X.K (fI0 λi j=>.bl (decide (i<j))) [x,y]:=vP Ff λ_ _=>rfl
theorem o_le:GC X (compareOp .LtE) λx y=>aQ X.K (fI0 λi j=>.bl (decide (i<=j))) [x,y]:=vP Fh λ_ _=>rfl
theorem vQ:GC X (compareOp .Gt) λx y=>aQ X.K (fI0 λi j=>.bl (decide (j<i))) [x,y]:=vP EF λ_ _=>rfl
theorem o_ge:GC X (compareOp .GtE) λx y=>aQ X.K (fI0 λi j=>.bl (decide (j<=i))) [x,y]:=vP Fc λ_ _=>rfl
theorem vY:UnR X (unaryOp .USub) λx=>aQ X.K (fU λi=>.int (-i)) [x] :=
 UnR.imp Df λx H Q ⟨M,ds,R,m,rs,hf,k⟩=>by
  obtain⟨i,e,r⟩:=Ds hf;subst e;exact⟨i,aR (BJ rs),k _ r _ H (bH.refl H) (GI.sc rfl)⟩
theorem FM:cq X (.builtin "abs") (aQ X.K (fU λi=>.int (if i<0 then -i else i))) :=
 cq.imp vT λxs H Q ⟨M,ds,R,m,rs,hf,k⟩=>by
  obtain⟨i,e,r⟩:=Ds hf;subst e;obtain⟨x,e,q⟩:=bq rs;subst e;exact⟨i,by rw[aR q],k _ r _ H (bH.refl H) (GI.sc rfl)⟩
def BA:Zi->(D->Prop)->Prop
 | [.lst xs],R=>R (.int xs.length)
 | [.fz xs],R=>R (.int xs.length)
 | [.tup xs],R=>R (.int xs.length)
 | _,_=>False
theorem yJ:∀ {d0:Zi} {R:D->Prop},BA d0 R->((∃(xs:Zi),d0=[.lst xs]/\R (.int xs.length))\/(∃(xs:Zi),d0=[.fz xs]/\R (.int xs.length))\/(∃(xs:Zi),d0=[.tup xs]/\R (.int xs.length))):=by walk_at "or"
theorem oU:cq X (.builtin "len") (aQ X.K BA) :=
 cq.imp gb λxs H Q ⟨M,ds,R,m,rs,h,k⟩=>by
  have aa:∀n:Nat,R (.int n)->Q (.int n) H:=λn r=>k _ r _ H (bH.refl H) (GI.sc rfl)
  replace h:=yJ h
  rcases h with⟨_,rfl,h⟩ | ⟨_,rfl,h⟩ | ⟨_,rfl,h⟩
  ·obtain⟨x,e,q⟩:=bq rs;unfold GI at q;obtain⟨a,vs,e2,_,l,r⟩:=q;subst e e2;exact⟨a,vs,rfl,.inl (GL.of l),aa _ (by rw[<- Reps.length _ _ r];exact h)⟩
  ·obtain⟨x,e,q⟩:=bq rs;unfold GI at q;obtain⟨a,vs,e2,l,r⟩:=q;subst e e2;exact⟨a,vs,rfl,.inl l.seq,aa _ (by rw[<- Reps.length _ _ r];exact h)⟩
  ·obtain⟨x,e,q⟩:=bq rs;unfold GI at q;obtain⟨a,vs,e2,l,r⟩:=q;subst e e2;exact⟨a,vs,rfl,.inr l,aa _ (by rw[<- Reps.length _ _ r];exact h)⟩
def fInt:Zi->(D->Prop)->Prop
 | [.int i],R=>R (.int i)
 | [.bl b],R=>R (.int (if b then 1 else 0))
 | _,_=>False
def qAt(xs:Zi):Int->(D->Prop)->Prop
 | .ofNat n,k=>qV xs[n]? k
 | .negSucc n,k=>qV (Gi xs (.negSucc n)) k
theorem vc:Gi xs (.ofNat n)=xs[n]?:=by
 have h0:(0:Int)<=Int.ofNat n:=Int.natCast_nonneg n
 unfold Gi ixN;rw[Hc h0]
 by_cases h:n<xs.length
 ·rw[Hc (show Int.ofNat n<(xs.length:Int) from Int.ofNat_lt.mpr h)];rfl
 ·rw[Ha (show ¬ Int.ofNat n<(xs.length:Int) from λz=>h (Int.ofNat_lt.mp z)),HF (Nat.le_of_not_lt h)];rfl
theorem qAt.ex(h:qAt xs i k):∃v,Gi xs i=some v/\k v:=by
 cases i with
 | ofNat n=>rw[vc];exact qV.ex h
 | negSucc n=>exact qV.ex h
theorem qAt.of(e:Gi xs i=some v)(h:k v):qAt xs i k:=by
 cases i with
 | ofNat n=>rw[vc] at e;exact qV.of e h
 | negSucc n=>exact qV.of e h
def fIx:Zi->(D->Prop)->Prop
 | [.tup xs,.int i],R=>qAt xs i R
 | [.lst xs,.int i],R=>qAt xs i R
 | [.fz xs,.int i],R=>qAt xs i R
 | [.str z,.int i],R=>z.length<=9000/\∃c,Gi z.cps.toList i=some c/\R (.str ⟨#[c]⟩)
 | _,_=>False
theorem Di(h:fIx d0 R):(∃(xs:Zi) (i:Int),d0=[.tup xs,.int i]/\∃v,Gi xs i=some v/\R v)\/(∃(xs:Zi) (i:Int),d0=[.lst xs,.int i]/\∃v,Gi xs i=some v/\R v)\/(∃(xs:Zi) (i:Int),d0=[.fz xs,.int i]/\∃v,Gi xs i=some v/\R v)\/(∃(z:Str) (i:Int),d0=[.str z,.int i]/\z.length<=9000/\∃c,Gi z.cps.toList i=some c/\R (.str ⟨#[c]⟩)):=by
 rcases d0 with _ | ⟨a,_ | ⟨b,_ | ⟨c,l⟩⟩⟩
 ·exact False.elim h
 ·cases a<;>exact False.elim h
 ·cases a<;>first | exact False.elim h | (cases b<;>first | exact False.elim h | exact .inl ⟨_,_,rfl,qAt.ex h⟩ | exact .inr (.inl ⟨_,_,rfl,qAt.ex h⟩) | exact .inr (.inr (.inl ⟨_,_,rfl,qAt.ex h⟩)) | exact .inr (.inr (.inr ⟨_,_,rfl,h⟩)))
 ·cases a<;>first | exact False.elim h | (cases b<;>exact False.elim h)
theorem AJ(h:xs.length=ys.length)(e:Gi xs i=some v):∃j:Nat,xs[j]?=some v/\∀w,ys[j]?=some w->Gi ys i=some w:=by
 unfold Gi at e ⊢;rw[h] at e
 cases q:ixN ys.length i with
 | none=>rw[q] at e;cases e
 | some j=>rw[q] at e;exact⟨j,e,λw z=>z⟩
theorem lM:IxR X λx y=>aQ X.K fIx [x,y] :=
 IxR.imp Eh λx y H Q ⟨M,ds,R,m,rs,h,k⟩=>by
  have aa:∀(xs:Zi) (vs:Zg) (i:Int) (d:D),Reps X.K M H xs vs->Gi xs i=some d->R d->∃v,Gi vs i=some v/\Q v H:=λxs vs i d r e q=>by
   obtain⟨j,h1,h2⟩:=AJ (Reps.length _ _ r) e;obtain⟨v,e',r'⟩:=Reps.get _ _ r j d h1;exact⟨v,h2 v e',k d q v H (bH.refl H) r'⟩
  replace h:=Di h
  rcases h with⟨_,_,rfl,h⟩ | ⟨_,_,rfl,h⟩ | ⟨_,_,rfl,h⟩ | ⟨_,_,rfl,h⟩
  ·obtain⟨d,e,q⟩:=h;obtain⟨h1,h2⟩:=bP rs;unfold GI at h1;obtain⟨a,vs,e2,l,r⟩:=h1;obtain⟨v,e3,q3⟩:=aa _ _ _ _ r e q;exact .inr (.inl ⟨a,vs,_,v,e2,aR h2,l,e3,q3⟩)
  ·obtain⟨d,e,q⟩:=h;obtain⟨h1,h2⟩:=bP rs;unfold GI at h1;obtain⟨a,vs,e2,_,l,r⟩:=h1;obtain⟨v,e3,q3⟩:=aa _ _ _ _ r e q;exact .inl ⟨a,vs,_,v,e2,aR h2,GL.of l,e3,q3⟩
  ·obtain⟨d,e,q⟩:=h;obtain⟨h1,h2⟩:=bP rs;unfold GI at h1;obtain⟨a,vs,e2,l,r⟩:=h1;obtain⟨v,e3,q3⟩:=aa _ _ _ _ r e q;exact .inl ⟨a,vs,_,v,e2,aR h2,l.seq,e3,q3⟩
  ·obtain⟨hz,c,e,q⟩:=h;obtain⟨h1,h2⟩:=bP rs;exact .inr (.inr ⟨_,_,c,bm h1,aR h2,dS hz,e,k _ q _ H (bH.refl H) (GI.sc rfl)⟩)
def fCat:Zi->(D->Prop)->Prop
 | [.lst xs,.lst ys],R=>xs.length+ys.length<=9000/\R (.lst (xs++ys))
 | _,_=>False
theorem Bd:∀ {d0:Zi} {R:D->Prop},fCat d0 R->∃(xs:Zi) (ys:Zi),d0=[.lst xs,.lst ys]/\xs.length+ys.length<=9000/\R (.lst (xs++ys)):=by walk_at "or"
theorem E5:GC X (binaryOp .Add) λx y=>aQ X.K fCat [x,y] :=
 GC.imp DK λx y H Q ⟨M,ds,R,m,rs,h,k⟩=>by
  replace h:=Bd h;obtain⟨_,_,rfl,h⟩:=h
  ·obtain⟨hz,q⟩:=h;obtain⟨h1,h2⟩:=bP rs;unfold GI at h1 h2;obtain⟨a,vs,e,_,l,r⟩:=h1;obtain⟨b,ws,e',_,l',r'⟩:=h2;refine⟨a,b,vs,ws,e,e',l,l',dS (by rw[<- Reps.length _ _ r,<- Reps.length _ _ r'];exact hz),λp hp=>k _ q _ _ (aF hp _) ?_⟩;unfold GI;exact⟨p,vs++ws,rfl,λz=>m p z hp,aw,Reps.kp (Kp.of_same (aF hp _)) _ _ (Reps.append _ _ _ _ r r')⟩
def cut{α:Type}(xs:List α)(lo hi:Option Int):List α:=(xs.drop (HT.sIx xs.length 0 lo)).take (HT.sIx xs.length xs.length hi-HT.sIx xs.length 0 lo)
abbrev TDO:=En->(Option Int->En->Prop)->Prop
inductive UpO(K:Zf)(t:TDO)(σ:L2.St)(H:Hp)(Q:Option Int->Hp->Prop):Prop
 | mk (G:Gf) (δ:En) (P:List (D×V)) (R:Option Int->En->Prop) (s:S K G δ P σ H) (h:t δ R) (k:∀o δ',R o δ'->∀H',S K G δ' P σ H'->Q o H')
def upO(K:Zf)(t:TDO):TO:=UpO K t
def DO(X:Cx)(e:Option Expr)(t:TDO):Prop:=PO X e (upO X.K t)
def tS(δ:En)(R:Option Int->En->Prop):Prop:=R none δ
def BO(t:GH)(δ:En)(R:Option Int->En->Prop):Prop:=t δ (wd λx δ1=>qI x λi=>R (some i) δ1)
theorem PO.imp(h:PO X e t)(i:∀σ H Q,t' σ H Q->t σ H Q):PO X e t':=λpins s σ H Q I q=>h pins s σ H Q I (i σ H Q q)
theorem cN:DO X none tS:=PO.imp Aj λσ H Q ⟨G,δ,P,R,s,h,k⟩=>k none δ h H s
theorem cM(h:DE X e te):DO X (some e) (BO te):=PO.imp (Bb h) λσ H Q ⟨G,δ,P,R,s,h,k⟩=>up.mk s h λx δ1 h1 v H1 s1=>by
 replace h1:=qI.ex h1;obtain⟨i,e,r⟩:=h1;subst e;obtain⟨A,q⟩:=id s1;exact⟨i,aR (q.pnd (.int i,v) (by simp)),k _ δ1 r H1 (s1.sub λp hp=>by simp[hp])⟩
def fSl:D->Option Int->Option Int->(D->Prop)->Prop
 | .lst xs,lo,hi,R=>R (.lst (cut xs lo hi))
 | .fz xs,lo,hi,R=>R (.lst (cut xs lo hi))
 | .tup xs,lo,hi,R=>¬ (HT.sIx xs.length 0 lo=0/\HT.sIx xs.length xs.length hi=xs.length)/\R (.tup (cut xs lo hi))
 | _,_,_,_=>False
def dSl(te:GH)(tl th:TDO)(δ:En)(R:W->En->Prop):Prop:=te δ (wd λx δ1=>tl δ1 λl δ2=>th δ2 λu δ3=>fSl x l u λd=>R (.d d) δ3)
theorem Reps.cut{K:Zf}{M:Addr->Prop}{H:Hp}(lo hi:Option Int)(r:Reps K M H ds vs):Reps K M H (DL.cut ds lo hi) (sr vs lo hi):=by
 unfold DL.cut sr;rw[Reps.length _ _ r];exact Reps.take _ _ _ (Reps.drop _ _ _ r)
theorem jR{te:GH}{lo hi:Option Expr}(he:DE X e te)(hl:DO X lo tl)(hu:DO X hi th):DE X (.Subscript e (.Slice lo hi none p2) pos) (dSl te tl th) :=
 PE.imp (oV (AV.or xG) he hl hu) λσ H Q ⟨G,δ,P,R,s,h,k,_⟩=>up.mk s h λx δ1 h1 v H1 s1=>⟨G,δ1,(x,v)::P,_,s1,h1,λl δ2 h2 H2 s2=>⟨G,δ2,(x,v)::P,_,s2,h2,λu δ3 h3 H3 s3=>by
  obtain⟨A,q⟩:=id s3;have r:=q.pnd (x,v) (by simp)
  cases x with
  | lst xs =>
   have h3:R (.d (.lst (cut xs l u))) δ3:=h3
   simp only[GI] at r;obtain⟨a,vs,e,_,sq,r⟩:=r;refine .inl ⟨a,vs,e,GL.of sq,λp hp=>?_⟩;have x2:=(q.same (aF hp (.lst (sr vs l u))));refine k _ δ3 h3 (.ref p) _ ⟨A,(x2.sub (P':=P) λp hp=>GP _ hp).push ?_⟩;unfold GI;exact⟨p,_,rfl,λz=>q.mem p z hp,aw,Reps.kp (Kp.of_same (aF hp _)) _ _ (Reps.cut l u r)⟩
  | fz xs =>
   have h3:R (.d (.lst (cut xs l u))) δ3:=h3
   simp only[GI] at r;obtain⟨a,vs,e,sq,r⟩:=r;refine .inl ⟨a,vs,e,sq.seq,λp hp=>?_⟩;have x2:=(q.same (aF hp (.lst (sr vs l u))));refine k _ δ3 h3 (.ref p) _ ⟨A,(x2.sub (P':=P) λp hp=>GP _ hp).push ?_⟩;unfold GI;exact⟨p,_,rfl,λz=>q.mem p z hp,aw,Reps.kp (Kp.of_same (aF hp _)) _ _ (Reps.cut l u r)⟩
  | tup xs =>
   have h3:¬ (HT.sIx xs.length 0 l=0/\HT.sIx xs.length xs.length u=xs.length)/\R (.d (.tup (cut xs l u))) δ3:=h3
   simp only[GI] at r;obtain⟨a,vs,e,sq,r⟩:=r;obtain⟨nf,h3⟩:=h3;refine .inr ⟨a,vs,e,sq,by rw[<- Reps.length _ _ r];exact nf,λp hp=>?_⟩;have x2:=(q.same (aF hp (.tup (sr vs l u))));refine k _ δ3 h3 (.ref p) _ ⟨A,(x2.sub (P':=P) λp hp=>GP _ hp).push ?_⟩;unfold GI;exact⟨p,_,rfl,GA.of aw,Reps.kp (Kp.of_same (aF hp _)) _ _ (Reps.cut l u r)⟩
  | _=>exact(show False from h3).elim⟩⟩
end
end DL
namespace DL
open PySem PySem.Spec PyProof.Rows L2
def d8(N:Zb)(ds:Zi):En:=ds.map Sl.dat++List.replicate (N.length-ds.length) Sl.no
theorem sD{K:Zf}{f:Zi->(D->Prop)->Prop}{vs:Zg}{H:Hp}{Q:VK}(h:aQ K f vs H Q)(len:∀ds R,f ds R->ds.length=n):vs.length=n:=by
 obtain⟨M,ds,R,m,rs,hf,k⟩:=h;rw[<- Reps.length _ _ rs];exact len ds R hf
theorem vk{K:Zf}{M:Addr->Prop}{H:Hp}(N:Zb)(m:∀b,M b->H b≠none)(rs:Reps K M H ds vs):S K ⟨M,H,λ_=>False⟩ (d8 N ds) [] (L2.start N vs) H:=by
 have hl:=Reps.length _ _ rs
 refine⟨λ_=>False,λb o e _=>e,λb e=>e,m,λb h=>h.elim,λb h=>h.elim,λb h=>h.elim,?_,λi d e=>?_,λi a d e=>?_,λi j a d e h1 h2=>?_,λp hp=>(nomatch hp)⟩
 ·unfold d8 L2.start;rw[GV,GV,GN,GN,Hi,Hi,hl]
 ·unfold d8 at e;unfold L2.start
  by_cases hi:i<ds.length
  ·rw[Hm (by rw[GN];exact hi),G6] at e
   cases hd:ds[i]? with
   | none=>rw[hd] at e;cases e
   | some d' =>
    rw[hd] at e
    cases e
    obtain⟨v,ev,rv⟩:=Reps.get _ _ rs i d hd;refine⟨v,?_,GI.more (λb z=>.inl (z.elim id λq=>q.elim)) _ _ rv⟩;rw[Hm (by rw[GN];omega),G6,ev];rfl
  ·rw[Hh (by rw[GN];omega),HI] at e
   split at e<;>cases e
 all_goals
  unfold d8 at *;exfalso
 ·by_cases hi:i<ds.length
  ·rw[Hm (by rw[GN];exact hi),G6] at e
   cases hd:ds[i]? with
   | none=>rw[hd] at e;cases e
   | some d'=>rw[hd] at e;cases e
  ·rw[Hh (by rw[GN];omega),HI] at e
   split at e<;>cases e
 ·by_cases hi:i<ds.length
  ·rw[Hm (by rw[GN];exact hi),G6] at h1
   cases hd:ds[i]? with
   | none=>rw[hd] at h1;cases h1
   | some d'=>rw[hd] at h1;cases h1
  ·rw[Hh (by rw[GN];omega),HI] at h1
   split at h1<;>cases h1
structure Fd(K:Zf)(mg:Str->Zd)(x:Str)(st:Stmt)(ps:Zb):Prop where
 ex:∃(a:Addr) (fd:FuncData),Fun K x x st a fd/\eC K fd ps []/\mg x=some (.ref a)
structure Cal(P:Program)(w:World)(K:Zf)(mg:Str->Zd)(base:Heap)(k:Nat)(x:Str)(ps:Zb)(sp:Sp):Prop where
 ex:∃(a:Addr) (fd:FuncData),fG P w K mg base CX0 k a fd ps sp/\eC K fd ps []/\PySem.W.keepIn K (.ref a)=true/\mg x=some (.ref a)
section
variable {P:Program} {w:World} {K:Zf} {mg:Str→Zd} {base:Heap}
theorem Cal.mono(C:Cal P w K mg base j x ps sp)(h:j<=k):Cal P w K mg base k x ps sp:=by
 obtain⟨a,fd,F,b,kp,m⟩:=C.ex;exact⟨a,fd,F.mono h,b,kp,m⟩
theorem Do{st:Stmt}{ps:Zb}{f:Zi->(D->Prop)->Prop}(Fu:Fun K x x st a fd)(Sc:ay N ps (am st))(len:∀ds R,f ds R->ds.length=ps.length)
    (hbody:∀(cdv:Value) (A:Around) (outer:List Env) (s:Shared) (H:Hp) (E:XK) (ds:Zi) (R:D->Prop),cK k (A.deeper (envOfC x (am st) s.heap.objs.size a cdv))->f ds R ->
      ∃t,DSs (oK CX0 P w K mg base N x (am st) a cdv A outer s H E).nox (aW st) t/\t { nx:=λ_=>R .non,rt:=λd _=>R d,ro:=R } (d8 N ds)) :
    fG P w K mg base CX0 (k+1) a fd ps (Gy K f):=by
  refine Fu.ok Sc (λvs H Q E h=>sD h len) (λcdv A outer s H vs Q E hr h=>?_);obtain⟨M,ds,R,hm,rs,hf,hk⟩:=h;obtain⟨t,ht,hq⟩:=hbody cdv A outer s H E ds R hr hf;refine⟨_,ht,⟨M,H,λ_=>False⟩,d8 N ds,[],_,vk N hm rs,hq,λδ' r σ' H' ⟨A',x⟩=>?_,⟨λd δ' r v σ' H' ⟨A',x⟩=>?_,λd r a H' ⟨o1,o2,o3,o4⟩=>hk d r (.ref a) H' (λb o e=>o1 b o e id) (o4.rep o3 λb z=>.inl z),λ_ _ _ z=>z.elim⟩,λ_ h=>h.elim,λ_ h=>h.elim,λz=>z.elim⟩
  · exact hk .non r .non H' (λb o e=>x.old b o e id) (by unfold GI;rfl)
  · exact hk d r v H' (λb o e=>x.old b o e id) (GI.more (λb z=>.inl (.inl z)) _ _ (x.pnd (d,v) (by simp)))
theorem cU{st:Stmt}{ps:Zb}{f:Zi->(D->Prop)->Prop}(F:Fd K mg x st ps)(Sc:ay N ps (am st))(len:∀ds R,f ds R->ds.length=ps.length)
    (hbody:∀(a:Addr) (cdv:Value) (A:Around) (outer:List Env) (s:Shared) (H:Hp) (E:XK) (ds:Zi) (R:D->Prop),cK k (A.deeper (envOfC x (am st) s.heap.objs.size a cdv))->f ds R ->
      ∃t,DSs (oK CX0 P w K mg base N x (am st) a cdv A outer s H E).nox (aW st) t/\t { nx:=λ_=>R .non,rt:=λd _=>R d,ro:=R } (d8 N ds)) :
    Cal P w K mg base (k+1) x ps (Gy K f):=by
  obtain⟨a,fd,Fu,b,m⟩:=F.ex;exact⟨a,fd,Do Fu Sc len (hbody a),b,Fu.kp,m⟩
theorem au(C:Cal X.prog X.w X.K X.mg X.base k x ps (Gy X.K f))(hr:cK k X.A)(hg:Gl X x)(ha:DA X (a::es) t)
  (hdb:(x==("__debug__":Str))=false:=by decide) (he:starEach (a::es) X.env=(false,eval a X.env)::starEach es X.env:=by rfl) (hpl:(backTo pos (starEach es X.env)).any (·.1)=false:=by rfl) :
  DE X (.Call (.Name x p) (a::es) [] pos) (rN f t):=by
 obtain⟨g,fd,F,b,kp,m⟩:=C.ex;exact zd F hr hg m kp b ha hdb he hpl
def zC(K:Zf):Sp:=λvs H Q _=>∃(a:Addr) (ns:Ze),vs=[.ref a]/\GL K H a (ns.map V.int)/\Only H/\ns.length<=63/\(∀n∈ns,Builtin.Int.intBits n<=1048576)/\∀H',Q (.bl true) H'
def fLaw:Zi->(D->Prop)->Prop:=λds R=>∃ns:Ze,ds=[.fz (ns.map D.int)]/\ns.length<=63/\(∀n∈ns,Builtin.Int.intBits n<=1048576)/\R (.bl true)
theorem DB(F:fG P w K mg base CX0 k a fd ps (Gy K fLaw)):fG P w K mg base CX0 k a fd ps (zC K) :=
 F.imp λvs H Q E ⟨l,ns,e,sq,on,h63,hb,q⟩=>by
  subst e;refine⟨λ_=>False,[.fz (ns.map D.int)],λd=>d=.bl true,λ_ h=>h.elim,Reps.one ?_,⟨ns,rfl,h63,hb,rfl⟩,λd e v H' _ r=>?_⟩
  ·unfold GI;refine⟨l,ns.map V.int,rfl,?_,Reps.ints ns⟩
   rcases sq with(h | ⟨o,h⟩) | h
   ·rcases on l with z | ⟨o,xs,z⟩
    ·rw[z] at h;cases h
    ·rw[z] at h;cases h
   ·exact .inl ⟨o,h⟩
   ·exact .inr (.inr h)
  ·subst e;rw[ie r];exact q H'
end
end DL
namespace DLH
open PySem PySem.W PySem.Calls PyProof.Rows
theorem ir{ns:Ze}(h:WData.layableAll [.list (ns.map .int)]=true):∀n∈ns,Builtin.Int.intBits n<=1048576:=λn hn=>by
 have h1:=layableW_arg h _ (GX.mpr rfl)
 have h2:=layableW_item h1 (.int n) (GR.mpr ⟨n,hn,rfl⟩)
 have h3:=(layableW_iff.mp h2).2.2
 simpa only[WData.weight,Builtin.Int.intBits] using h3
theorem attach_callB{l:OpenLaw}{XP:(Str->Zd)->Heap->Prop}{YP:World->Heap->Prop}{d:DefRec}
    (hn:l.most=some n) (hdf:d.params.defaults=[])
    (call:∀(w:World) (s₀ s₁:Shared) (mg mb:Str->Zd) (fa:Addr) (o:Obj) (pm cd doc:Value) (a:Addr) (vs:Zc) (ns:Ze),
      Ground q loose [] XP w s₀ mg mb s₁.heap->YP w s₁.heap ->
      s₁.heap.get? fa=some o->o.data=.func (docDef d.name d.params d.body d.scope pm cd doc)->s₁.heap.CodeRec cd d.name->mg d.name=some (.ref fa) ->
      s₁.heap.get? a=some { cls:=.type "list",data:=.seq vs.toArray }->IntsAre vs ns->ns.length<=n->(∀i∈ns,Builtin.Int.intBits i<=1048576)->s₁.gens=#[] ->
      codeAny (model l.prog w) callerA (.call (.ref fa) ⟨[.ref a],[]⟩) (λr s'=>r=.ok (.ret (.bool true))/\OldK s₁.heap s'.heap/\s'.os=s₁.os/\AllBare s'.gens) s₁) :
    WalkO q loose XP YP l.row.toRowW d [] (λf vs=>PySem.call f vs):=by
  intro w s₀ s₁ mg mb G Y fa o pm cd doc dV kV ho hd ao hD an hg args aq as aj ai a0 al az;obtain rfl:dV=.none:=Dflts.none hD hdf;obtain rfl:kV=.none:=Dflts.noKw hD;obtain⟨a,vs,ns,rfl,rfl,ab,aa,ah⟩:=Att.script_of hn aj al;refine enter_call (Jn (call w s₀ s₁ mg mb fa o pm cd doc a vs ns G Y ho (fd_plain hd) ao an ab aa ah (ir ai) hg) λr s' hq=>?_);obtain⟨rfl,h2,h3,h4⟩:=hq;exact⟨.inl ⟨.bool true,.bool true,[],rfl,λ_=>rfl,.bool true,Att.post_true l _,λ_=>⟨List.Pairwise.nil,λ_ hm=>(nomatch hm)⟩⟩,h2,h3,h4⟩
end DLH
namespace DL
open PySem PySem.Spec PyProof.Rows L2
theorem walkB{l:PySem.W.OpenLaw}{XP:(Str->Zd)->Heap->Prop}{YP:World->Heap->Prop}{d:DefRec}{K:Params->Zf}{x:Str}
    (hn:l.most=some 63) (hdf:d.params.defaults=[]) (hr:cK k PySem.callerA) (hY:∀(w:World) (h:Heap),YP w h->(K w.params).In h)
    (F:∀(w:World) (mg:Str->Zd) (fa:Addr) (h:Heap),(K w.params).In h->h.Ns mainGlobals mg->mg d.name=some (.ref fa) ->
      ∃fd:FuncData,(∀(s:Shared) (u:Value),BindsTo s fd ⟨[u],[]⟩ [(x,u)])/\∀base:Heap,(K w.params).In base->base.Ns mainGlobals mg->fG l.prog w (K w.params) mg base CX0 k fa fd [x] (zC (K w.params))) :
    PySem.W.WalkO q loose XP YP l.row.toRowW d [] (λf vs=>PySem.call f vs):=by
  refine DLH.attach_callB hn hdf λw s₀ s₁ mg mb fa o pm cd doc a vs ns G Y ho hd hcd hmg hobj hints hlen hbits hg=>?_;have KX:=hY w _ Y;obtain⟨fd,hb,hF⟩:=F w mg fa _ KX G.T.g hmg;exact wU KX G.T.g G.T.b G.T.builtins G.T.nolimit hg hobj hints (GS hlen (by decide)) hr hF hb (λH hO hS=>⟨a,ns,rfl,hS,hO,hlen,hbits,λ_=>rfl⟩) λH e s' z=>z
def vh(ifs:List Expr)(env:Env):Sem Bool:=forIn ifs true λc r=>if r=true then do let ok<-isTrue c env (eval c env);pure (ForInStep.yield ok) else pure (ForInStep.yield r)
def PF(X:Cx)(ifs:List Expr)(t:TT):Prop :=
 ∀(pins:List (Addr×Obj)) (s:Shared) (σ:L2.St) (H:Hp) (Q:Bool->Hp->Prop),Inv X pins σ H s->t σ H Q->wpAny (model X.prog X.w) X.A (vh ifs X.env) (TP X pins σ Q) X.xe s
theorem Eo:PF X [] (λ_ H Q=>Q true H):=λ_ _ _ H _ I h=>wpAny_tests_nil ⟨H,I,h⟩
theorem BS(h:PT X c t):PF X [c] t:=λpins s σ H Q I q=>wpAny_tests_one (h pins s σ H Q I q)
theorem dR(I:Nat->Shared->Prop)
    (turn:∀n s,I n s->wpAny (model prog w) A (pyNext it) (λr s₁=>match r with
      | none=>R (.ok .next) s₁
      | some v=>wpAny (model prog w) A (letOwnedTupleGo target it v) (λ_ s₁'=>wpAny (model prog w) A (assign target env v) (λ_ s₂ =>
          wpAny (model prog w) A (vh ifs env) (λok s₃ =>
            if ok=true then wpAny (model prog w) A (eval elt env) (λx s₄ =>
              wpAny (model prog w) A (call (.builtin "list.append") [acc,x]) (λ_ s₅=>∃m,m<n/\I m s₅) (λ_ _=>False) s₄) (λ_ _=>False) s₃
            else ∃m,m<n/\I m s₃) (λ_ _=>False) s₂) (λ_ _=>False) s₁') (λ_ _=>False) s₁) (λ_ _=>False) s)
    (n:Nat) (h:I n s) :
    codeAny (model prog w) A (.compLoop (.ListComp elt [⟨target,iter,ifs,0⟩] scope pos) 0 it acc env) R s:=by
  refine codeAny_loop rfl I (λn s hI=>?_) n h;show wpAny _ A ((compTurn (.ListComp elt [⟨target,iter,ifs,0⟩] scope pos) 0 it acc env).onRaise (λx=>do noteFrame x env;theTreesLotGoes x)) _ _ s;refine wpAny_noted ?_;rw[compTurn_list];refine GM (Kg (GM (HX (turn n s hI) (λr s₁ h₁=>?_) λ_ _ h'=>h'.elim)))
  cases r with
  | none=>exact GQ h₁
  | some v =>
    refine GM (HX h₁ (λ_ s₁' h₁'=>?_) λ_ _ h'=>h'.elim);refine GM (HX h₁' (λ_ s₂ h₂=>GM (HX h₂ (λok s₃ h₃=>?_) λ_ _ h'=>h'.elim)) λ_ _ h'=>h'.elim)
    cases ok with
    | false=>exact GQ ⟨rfl,h₃⟩
    | true =>
      exact GM (GM (HX h₃ (λx s₄ h₄=>GM (HX h₄ (λ_ s₅ h₅=>GQ (GQ ⟨rfl,h₅⟩)) λ_ _ h'=>h'.elim)) λ_ _ h'=>h'.elim))
theorem kq:∀ {names:List (Str×NameKind)} {n:Nat} {acc:List (Str×Addr)},cellsFrom n names acc=cellsFrom n names []++acc
 | [],_,_=>rfl
 | (x,k)::r,n,acc=>by
  unfold cellsFrom
  by_cases h:(k==NameKind.cell)=true
  ·rw[Hc h,Hc h,kq (names:=r) (acc:=(x,n)::acc),kq (names:=r) (acc:=[(x,n)]),Jw];rfl
  ·rw[Ha h,Ha h];exact kq
theorem mY:∀ {names:List (Str×NameKind)} {n:Nat} {acc:List (Str×Addr)},(x,c)∈cellsFrom n names acc->(x,c)∈acc\/(x,NameKind.cell)∈names
 | [],_,_,h=>.inl h
 | (y,k)::r,n,acc,h=>by
  unfold cellsFrom at h
  by_cases hk:(k==NameKind.cell)=true
  ·rw[Hc hk] at h
   rcases mY h with z | z
   ·rcases GY.mp z with e | e
    ·cases e;rw[eq_of_beq hk];exact .inr (GT ..)
    ·exact .inl e
   ·exact .inr (GP _ z)
  ·rw[Ha hk] at h;exact(mY h).imp id (GP _)
theorem wW{E:Value->Shared->Prop}{s:Shared}{scope:Scope}{code:Value}{Q:Env->Shared->Prop}
    (q:∀h',h'.Ns s.heap.objs.size (λ_=>none)->(∀b o,s.heap.get? b=some o->h'.get? b=some o)->(∀x c,(x,c)∈cellsFrom (s.heap.objs.size+1) scope.names []->h'.IsCell c none/\s.heap.objs.size+1<=c)->((cellsFrom (s.heap.objs.size+1) scope.names []).Pairwise λx y=>x.2≠y.2) ->
      Q (newEnv scope s.heap.objs.size globals (cellsFrom (s.heap.objs.size+1) scope.names []++cl) qual func code (some outer) bs) { s with heap:=h' }):wpAny M A (newFunctionEnv scope globals cl [] qual func code (some outer) bs) Q E s:=by
  unfold newFunctionEnv;refine GM (wpAny_alloc (GM (wpAny_layCells _ (λname kind cells=>by cases hkc:kind==NameKind.cell<;>simp[hkc]) _ _ _ _ ?_)))
  have ok:=cellsFrom_ok scope.names (s.heap.push { cls:=.type "dict",data:=.dict #[] }) (s.heap.objs.size+1) [] ⟨λ_ _ hm=>(nomatch hm),List.Pairwise.nil⟩ (by rw[HN];exact GU _)
  rw[HN] at ok;rw[show ({ s with heap:=s.heap.push { cls:=.type (if (some outer).isSome=true then "dict" else "frame"),data:=.dict #[] } }:Shared).heap.objs.size=s.heap.objs.size+1 from HN ..,kq];exact GM (GQ (GQ (q _ ((Heap.Ns.new s.heap (.type "dict")).keeps (pushCells_keeps _ _)) (λb o e=>pushCells_keeps _ _ b o (GO _ e)) (λx c h=>ok.empty x c h) ok.apart)))
def c5(X:Cx)(N':Zb)(scope:Scope)(cl:List (Str×Addr))(s2:Shared)(H2:Hp)(C:Addr)(fp:List Addr)(pn:List (Addr×Obj)):Cx where
 prog:=X.prog
 w:=X.w
 K:=X.K
 mg:=X.mg
 base:=X.base
 A:=X.A
 N:=N'
 s₀:=s2
 H₀:=H2
 env:=compEnvC scope (cellsFrom (C+1) scope.names []++cl) C X.env
 outer:=X.stack
 stack:=X.stack
 ex:=fp
 fn:=λx=>scope.names.lookup x==some .cell
 calm:=X.calm
 pn:=pn
 xe:=λ_ _=>False
def vq(nt:Nat)(caps:List (Nat×Str))(σ:L2.St):L2.St:=List.replicate nt none++caps.map λp=>(σ[p.1]?).join
def Az(wi:TI)(nt:Nat)(caps:List (Nat×Str))(g:TG)(tc:TT)(te:TE):TE:=λσ H Q=>wi σ H λJ H1=>∀p,H1 p=none ->
 ∃W:Nat->Nat->Zg->L2.St->Hp->Prop,(∃m,W 0 m [] (vq nt caps σ) (GE H1 p (.lst [])))/\∀i m xs σ' H',W i m xs σ' H'->(J.stop i H'/\Q (.ref p) H')\/(J.go i H'/\∀x H2,J.yld i H' x H2 ->
  g x σ' H2 λσ2 H3=>tc σ2 H3 λb H4=>if b=true then te σ2 H4 λy H5=>H5 p=some (.lst xs)/\xs.length<sizeLine/\∃m',m'<m/\W (i+1) m' (xs++[y]) σ2 (GE H5 p (.lst (xs++[y]))) else ∃m',m'<m/\W (i+1) m' xs σ2 H4)
theorem re(tn:Zb)(caps:List (Nat×Str))
    (hcalm:X.calm=true) (hclos:closureFor scope X.env=pure cl) (hcell:∀p∈caps,(p.2,NameKind.cell)∉scope.names) (hkind:scope.kind=.function) (hnames:∀y∈scope.names,y.2=.local->scope.names.lookup y.1=some .local)
    (hcl:∀x c,cl.lookup x=some c->X.env.cells.lookup x=some c) (hhas:∀(n:Nat) x,((relabel scope X.env).names.lookup x=some .cell\/(relabel scope X.env).names.lookup x=some .free)->∃c,(cellsFrom n scope.names []++cl).lookup x=some c)
    (hcap:∀p∈caps,X.N[p.1]?=some p.2/\X.env.scope.names.lookup p.2=some .cell/\((relabel scope X.env).names.lookup p.2=some .cell\/(relabel scope X.env).names.lookup p.2=some .free))
    (hi:PI X.nox tgt iter wi)
    (hb:∀s2 H2 C fp pn,PG (c5 X (tn++caps.map (·.2)) scope cl s2 H2 C fp pn) tgt g/\PF (c5 X (tn++caps.map (·.2)) scope cl s2 H2 C fp pn) ifs tc/\PE (c5 X (tn++caps.map (·.2)) scope cl s2 H2 C fp pn) elt te)
    (hs:∀x,foldedSetIterable iter X.env x=pure x:=by intro _;rfl)
 (pins:List (Addr×Obj)) (s:Shared) (σ:L2.St) (H:Hp) (Q:VK) (I:Inv X.nox pins σ H s) (h:Az wi tn.length caps g tc te σ H Q)
    (fin:∀p C m4 H3 s4,Inv X.nox pins σ H3 s4->s4.heap.Ns C m4->wD X.nox pins H3 C->Q (.ref p) H3->compPost (model X.prog X.w) X.A (λ_ _=>False) use Qf (.ref p) C (.ok .next) s4) :
    wpAny (model X.prog X.w) X.A (comprehension (.ListComp elt [⟨tgt,iter,ifs,0⟩] scope pos) scope X.env posF (newList []) false (eval iter X.env) use) Qf (λ_ _=>False) s:=by
  refine wpAny_comprehension_free (use:=use) rfl hs hclos hkind hnames (HX (hi pins s σ H _ I h) (λx s₁ h₁=>HX h₁ (λitv s₂ h₂=>?_) λ_ _ e=>e) λ_ _ e=>e);obtain⟨it,fp,bc,J,H1,rfl,I1,T,st,ai,q⟩:=h₂;refine HQ (wW λh₁ hns₁ hkp hcs hap=>?_)
  dsimp only at hns₁ hkp hcs hap ⊢
  generalize hH2:s₂.heap.push { cls:=.type "list",dict:=none,data:=.seq ([]:Zc).toArray }=Hq at hns₁ hkp hcs hap ⊢
  have hC:Hq.objs.size=s₂.heap.objs.size+1:=by rw[<- hH2,HN]
  generalize hCe:Hq.objs.size=C at hns₁ hcs hap hC ⊢
  generalize hpe:s₂.heap.objs.size=p at hC ⊢
  obtain⟨m1,hns₁⟩:∃m,h₁.Ns C m:=⟨_,hns₁⟩;have ct:p≠C:=Ho (by rw[hC];exact JE _);have aq:∀b,b<s₂.heap.objs.size->b≠C/\b≠p:=λb hb=>⟨Ho (by rw[hC,<- hpe];exact IK hb),Ho (by rw[<- hpe];exact hb)⟩;have a0:s₂.heap.objs.size<=p:=Nat.le_of_eq hpe;have ab:s₂.heap.objs.size<=C:=by rw[hC,<- hpe];exact Jr _
  have ao:∀b o,s₂.heap.get? b=some o->h₁.get? b=some o:=λb o e=>hkp b o (hH2 ▸ GO _ e)
  have b4:h₁.get? p=some { cls:=.type "list",data:=.seq ([]:Zc).toArray 0 }:=by
    refine hkp p _ ?_;rw[<- hpe];exact hH2 ▸ G5 _ rfl
  generalize hown:cellsFrom (C+1) scope.names []=own at hcs hap ⊢
  have ah:∀x c,(own++cl).lookup x=some c->(x,c)∈own\/cl.lookup x=some c:=λx c e=>by
    rw[List.lookup_append] at e
    cases z:own.lookup x with
    | some d=>rw[z] at e;cases e;exact .inl (mem_of_lookup z)
    | none=>rw[z] at e;exact .inr e
  have ca:∀pr∈caps,own.lookup pr.2=none:=λpr hp=>by
    cases z:own.lookup pr.2 with
    | none=>rfl
    | some d =>
      rcases mY (hown ▸ mem_of_lookup z) with e | e
      · cases e
      · exact absurd e (hcell pr hp)
  have as:∀x c,(x,c)∈own->C<c:=λx c e=>(hcs x c e).2
  have a4:H1 p=none:=I1.hok.fresh a0
  have az:H1 C=none:=I1.hok.fresh ab
  obtain⟨W,⟨m0,w0⟩,b2⟩:=q p a4;have bj:∃X',X'=c5 X (tn++caps.map (·.2)) scope cl s₂ H1 C fp (X.pn++pins):=⟨_,rfl⟩;obtain⟨X',aa⟩:=bj;have bi:∀b∈frs X.stack,b=X.env.locals\/b∈X.fs:=λb hb=>GY.mp (I1.stkSub b hb);have an:∀b∈fp,b<s₂.heap.objs.size:=λb hb=>let ⟨_,e,_⟩:=T.obj _ _ st b hb;G3 e;have bd:∀b∈fp,b∉frs X.stack:=λb hb z=>(bi b z).elim (λe=>(ai b hb).2.1 e) λe=>(ai b hb).2.2.1 e;have al:∀x c,cl.lookup x=some c->c<s₂.heap.objs.size/\H1 c=none:=λx c e=>by
    obtain⟨v,hv⟩:=I1.cell x c (hcl x c e);exact⟨hv.lt,I1.freeC x c (hcl x c e)⟩
  have aj:∀x c,(x,c)∈own->∀b,b<s₂.heap.objs.size->c≠b:=λx c e b hb z=>absurd (He hb ab) (Nat.not_lt.mpr (IH (by rw[<- z];exact as x c e)))
  have ok:X'.Ok:=by
    subst aa;have o:=I1.ok
    exact { mod:=o.mod
            kind:=by show (relabel scope X.env).kind=.function;exact hkind
            glob:=o.glob
            blt:=o.blt
            above:=ab
            inj:=λx y c h1 h2=>by
              replace h1:=ah x c (hown ▸ h1);replace h2:=ah y c (hown ▸ h2)
              rcases h1 with h1 | h1<;>rcases h2 with h2 | h2
              · exact name_of_addr hap h1 h2
              · exact absurd rfl (aj x c h1 c (al y c h2).1)
              · exact absurd rfl (aj y c h2 c (al x c h1).1)
              · exact o.inj x y c (hcl x c h1) (hcl y c h2)
            has:=λx hx=>hhas _ x hx
            cab:=λx c h1 h2=>by
              obtain⟨d,hd⟩:=jX (sc:=scope) (n:=C+1) (eq_of_beq h1);have h2:(cellsFrom (C+1) scope.names []++cl).lookup x=some c:=h2;rw[List.lookup_append,hd] at h2
              cases h2
              exact GS ab (IH (as x _ (hown ▸ mem_of_lookup hd)))
            hd:=o.hd
            frames:=o.frames
            stk:=.inl rfl
            exf:=λb hb=>⟨(aq b (an b hb)).1,λx c e=>(ah x c (hown ▸ e)).elim (λz=>aj x c z b (an b hb)) λz=>(ai b hb).2.2.2.2.1 x c (hcl x c z)⟩
            bs:=λb ob e=>I1.bs b ob e
            bsz:=GS o.bsz I1.sz
            noex:=λb ob e hb=>by
              obtain⟨_,_,_,hh,_⟩:=ai b hb
              rcases hh with hh | hh
              · exact o.noex b ob e hh
              · exact absurd (G3 (I1.ok.bs b ob e).1) (Nat.not_lt.mpr hh)
            exfs:=bd
            funs:=I1.stack
            frf:=I1.stkFree }
  have bl:∀(m:Str->Zd) (i:Nat) (x:Str) (v:V),X'.N[i]?=some x->(vq tn.length caps σ)[i]?=some (some v)->Vis X'.env.scope x->∃u,bB v u/\Look X'.env h₁ m x u:=by
    subst aa;intro m i x v hN hσ hv;have hN:(tn++caps.map (·.2))[i]?=some x:=hN;unfold vq at hσ
    by_cases hi:i<tn.length
    · rw[Hm (by rw[Hi];exact hi),HI,Hc hi] at hσ
      cases hσ
    · rw[Hh (by rw[Hi];omega),Hi] at hσ;rw[Hh (by omega)] at hN;rw[G6] at hσ hN
      cases hc:caps[i-tn.length]? with
      | none=>rw[hc] at hN;cases hN
      | some pr =>
        rw[hc] at hN hσ;have hN:pr.2=x:=G4 hN;have hσ:(σ[pr.1]?).join=some v:=G4 hσ;obtain⟨c1,c2,c3⟩:=hcap pr (G9 hc);subst hN;have ck:σ[pr.1]?=some (some v):=by
          cases z:σ[pr.1]? with
          | none=>rw[z] at hσ;cases hσ
          | some o=>rw[z] at hσ;exact Ji some hσ
        obtain⟨m1,c9,co⟩:=I1.loc;obtain⟨u,ru,lk⟩:=co pr.1 pr.2 v c1 ck (.inr (.inl c2));refine⟨u,ru,.inr ⟨c3,?_⟩⟩
        rcases lk with⟨k,_⟩ | ⟨_,c,ec,ic⟩
        · have k:X.env.scope.names.lookup pr.2=some .local :=k
          rw[c2] at k
          cases k
        · obtain⟨c',bw⟩:=hhas (C+1) pr.2 c3;have bp:=bw;rw[hown,List.lookup_append,ca pr (G9 hc)] at bp;have e1:=hcl _ _ bp;have ec:X.env.cells.lookup pr.2=some c:=ec;rw[ec] at e1
          cases e1
          exact⟨c,bw,ic.keeps ao⟩
  have cd:Un (frs X.stack) fp H1 (GE H1 p (.lst [])) s₂.heap h₁:=Un.laid ao a0 a4
  have I4:∀tk,Inv X' [] (vq tn.length caps σ) (GE H1 p (.lst [])) { s₂ with heap:=h₁,toks:=tk }:=λtk=>by
    have hN:X'.N=tn++caps.map (·.2):=by rw[aa];rfl
    refine⟨ok,?_,I1.bare,?_,⟨m1,?_,λi x v e1 e2 e3=>?_⟩,λx c e=>?_,?_,λx c e=>?_,λpr hp=>?_,?_,?_⟩
    · rw[aa];rfl
    · rw[aa];exact cd
    · rw[aa];exact hns₁
    · exact bl _ i x v e1 e2 e3
    · rw[aa] at e
      rcases ah x c (hown ▸ e) with e | e
      · exact⟨_,(hcs x c e).1⟩
      · obtain⟨v,hv⟩:=I1.cell x c (hcl x c e);exact⟨v,hv.keeps ao⟩
    · rw[aa];show GE H1 p (.lst []) C=none;rw[aH (IF ct)];exact az
    · rw[aa] at e;show GE H1 p (.lst []) c=none
      rcases ah x c (hown ▸ e) with e | e
      · have:=as x c e
        rw[aH (λz=>Hw p (Nat.lt_trans (hC ▸ JE p) (z ▸ this)))];exact I1.hok.fresh (GS ab (IH this))
      · have hc:=al x c e
        rw[aH (aq c hc.1).2];exact hc.2
    · rw[aa] at hp;have hp:pr∈(X.pn++pins)++[]:=hp;rw[HM] at hp;obtain⟨e,n,nl,nf,d⟩:=I1.pin pr hp;have bo:=G3 e;refine⟨ao _ _ e,?_,?_,λz=>?_,d⟩
      · rw[aH (aq _ bo).2];exact n
      · rw[aa];exact(aq _ bo).1
      · rw[aa] at z;exact(bi _ z).elim nl nf
    · have e1:X'.prog=X.prog:=by rw[aa];rfl
      have e2:X'.w=X.w:=by rw[aa];rfl
      rw[e1,e2];exact I1.hok.laid ao a0 ⟨Ir _,[],0,.nil,b4⟩
    · rw[hN];unfold vq;rw[GV,GV,Hi,GN,GN]
  have be:∀H',(∀b∈fp,H' b=none)->∀b∈fp,wD X' [] H' b:=λH' hn b hb=>by
    rw[aa];refine⟨hn b hb,(aq b (an b hb)).1,bd b hb,.inl hb,λx c e=>(ah x c (hown ▸ e)).elim (λz=>aj x c z b (an b hb)) λz=>(ai b hb).2.2.2.2.1 x c (hcl x c z),λpr hp=>?_⟩;have hp:pr∈(X.pn++pins)++[]:=hp;rw[HM] at hp;exact(ai b hb).2.2.2.2.2 pr hp
  obtain⟨hg,hf,he⟩:=hb s₂ H1 C fp (X.pn++pins);rw[<- aa] at hg hf he;have p1:X'.prog=X.prog:=by rw[aa];rfl
  have p2:X'.w=X.w:=by rw[aa];rfl
  have p3:X'.K=X.K:=by rw[aa];rfl
  have p4:X'.calm=true:=by rw[aa];exact hcalm
  have p5:X'.env=compEnvC scope (own++cl) C X.env:=by rw[aa,<- hown];rfl
  have p6:X'.A=X.A:=by rw[aa];rfl
  have p7:X'.xe=λ_ _=>False:=by rw[aa];rfl
  have bz:bc 0 h₁:=T.keep _ _ _ st λb hb o e=>ao b o e
  have b3:∀tk,codeAny (model X.prog X.w) X.A (.compLoop (.ListComp elt [⟨tgt,iter,ifs,0⟩] scope pos) 0 (.ref it) (.ref p) (compEnvC scope (own++cl) C X.env))
      (compPost (model X.prog X.w) X.A (λ_ _=>False) use Qf (.ref p) C) { s₂ with heap:=h₁,toks:=tk }:=λtk=>by
    refine dR (λn s'=>∃i xs σ' H',Inv X' [] σ' H' s'/\bc i s'.heap/\(∀b∈fp,H' b=none)/\W i n xs σ' H') ?_ m0 ⟨0,[],_,_,I4 tk,bz,λb hb=>?_,w0⟩
    · rintro n s3 ⟨i,xs,σ3,H3,I3,st3,fr3,w3⟩
      rcases b2 i n xs σ3 H3 w3 with⟨b1,qn⟩ | ⟨go,step⟩
      · have q1:=T.done X' p1 p2 p3 p4 i [] s3 _ H3 (λ_ _=>False) I3 (be H3 fr3) st3 b1
        rw[p6] at q1;refine Gj q1 λr s4 ⟨hr,I4'⟩=>?_;subst hr;obtain⟨m4,b0,_⟩:=I4'.loc;rw[p5] at b0;have bb:=I4'.base;rw[aa] at bb;have bb:Un (frs X.stack) fp H1 H3 s₂.heap s4.heap:=bb;have cr:H3 C=none:=by
          have z:=I4'.free
          rw[p5] at z;exact z
        have b5:Gk X.prog X.w H3 s4.heap:=by
          have hk:=I4'.hok
          rw[p1,p2] at hk;exact hk
        have cv:s4.os=s₂.os:=by
          have z:=I4'.os
          rw[aa] at z;exact z
        have I9:=I1.call' (s':=s4) (ch:=fp) cv bb b5 I4'.bare (λb hb=>by
          obtain⟨_,f1,f2,f3,f4,f5⟩:=ai b hb
          exact⟨f3,f1,f4,f5⟩)
        exact fin p C m4 H3 s4 I9 b0 ⟨cr,(I1.fpOk ab az).2⟩ qn
      · have q1:=T.item X' p1 p2 p3 p4 i [] s3 _ H3 (λ_ _=>False) I3 (be H3 fr3) st3 go
        rw[p6] at q1;refine Gj q1 λr s4 ⟨u,hr,h4⟩=>?_;subst hr;refine Gj h4 λ_ s5 ⟨x,H5,I5,r5,y5,st5,fr5⟩=>?_;have cg:=I5.pinned (be H5 fr5) (T.obj _ _ st5);have q5:=hg _ s5 _ H5 x u _ cg r5 (step x H5 y5);rw[p1,p2,p5,p6,p7] at q5;refine Gj q5 λ_ s6 ⟨σ6,H6,I6,q6⟩=>?_;have q6:=hf _ s6 σ6 H6 _ I6 q6;rw[p1,p2,p5,p6,p7] at q6;refine Gj q6 λb s7 ⟨H7,I7,q7⟩=>?_;have ba:∀ {s8:Shared} {H8:Hp},Inv X' ([]++lN fp s5.heap) σ6 H8 s8->Inv X' [] σ6 H8 s8/\bc (i+1) s8.heap/\(∀b∈fp,H8 b=none):=λ{s8 H8} I8=>by
          refine⟨I8.unpinned,T.keep _ _ _ st5 λb hb o e=>(I8.pin (b,o) (G7 _ (G7 _ (dM hb e)))).1,λb hb=>?_⟩;obtain⟨o,e,d⟩:=T.obj _ _ st5 b hb;exact(I8.pin (b,o) (G7 _ (G7 _ (dM hb e)))).2.1
        cases b with
        | false =>
          obtain⟨m',hm,w7⟩:=q7;obtain⟨a1,a2,a3⟩:=ba I7;exact⟨m',hm,i+1,xs,σ6,H7,a1,a2,a3,w7⟩
        | true =>
          rw[Hc rfl];have q8:=he _ s7 σ6 H7 _ I7 q7;rw[p1,p2,p5,p6,p7] at q8;refine Gj q8 λy s8 ⟨yv,H8,I8,ry,hac,hsz,m',hm,w8⟩=>?_;have q9:=lU (X:=X') _ s8 σ6 H8 (.ref p) [yv] (.ref p) [y] (λ_ H9=>H9=GE H8 p (.lst (xs++[yv]))) I8 rfl (.cons ry .nil) ⟨p,xs,yv,rfl,rfl,hac,hsz,rfl⟩;rw[p1,p2,p6,p7] at q9;refine Gj q9 λ_ s9 ⟨_,H9,I9,_,e9⟩=>?_;subst e9;obtain⟨a1,a2,a3⟩:=ba I9;exact⟨m',hm,i+1,xs++[yv],σ6,_,a1,a2,a3,w8⟩
    · rw[aH (aq b (an b hb)).2];exact(ai b hb).1
  have L0:=b3 s₂.toks
  exact codeAny_compStart_list L0 (T.self _ _ _ _ _ bz L0)
theorem Bw(tn:Zb)(caps:List (Nat×Str))
  (hcalm:X.calm=true) (hclos:closureFor scope X.env=pure cl) (hcell:∀p∈caps,(p.2,NameKind.cell)∉scope.names) (hkind:scope.kind=.function) (hnames:∀y∈scope.names,y.2=.local->scope.names.lookup y.1=some .local)
  (hcl:∀x c,cl.lookup x=some c->X.env.cells.lookup x=some c) (hhas:∀(n:Nat) x,((relabel scope X.env).names.lookup x=some .cell\/(relabel scope X.env).names.lookup x=some .free)->∃c,(cellsFrom n scope.names []++cl).lookup x=some c)
  (hcap:∀p∈caps,X.N[p.1]?=some p.2/\X.env.scope.names.lookup p.2=some .cell/\((relabel scope X.env).names.lookup p.2=some .cell\/(relabel scope X.env).names.lookup p.2=some .free))
  (hi:PI X.nox tgt iter wi)
  (hb:∀s2 H2 C fp pn,PG (c5 X (tn++caps.map (·.2)) scope cl s2 H2 C fp pn) tgt g/\PF (c5 X (tn++caps.map (·.2)) scope cl s2 H2 C fp pn) ifs tc/\PE (c5 X (tn++caps.map (·.2)) scope cl s2 H2 C fp pn) elt te)
  (hs:∀x,foldedSetIterable iter X.env x=pure x:=by intro _;rfl) :
  PE X.nox (.ListComp elt [⟨tgt,iter,ifs,0⟩] scope pos) (Az wi tn.length caps g tc te):=by
 intro pins s σ H Q I h;rw[eval_ListComp];refine re tn caps hcalm hclos hcell hkind hnames hcl hhas hcap hi hb hs (use:=none) pins s σ H Q I h λp C m4 H3 s4 I9 hm4 hf q=>?_;obtain⟨f0,f1,f2,f3,f4,f5⟩:=hf;exact⟨m4,hm4,λh' hs'=>⟨.ref p,H3,I9.turned (t':=s4.toks) (λb o hb e=>hs'.extBut b o hb e) f0 f1 f3 f4 f5,rfl,q⟩⟩
theorem qK(tn:Zb)(caps:List (Nat×Str))
  (hcalm:X.calm=true) (hclos:closureFor scope X.env=pure cl) (hcell:∀p∈caps,(p.2,NameKind.cell)∉scope.names) (hkind:scope.kind=.function) (hnames:∀y∈scope.names,y.2=.local->scope.names.lookup y.1=some .local)
  (hcl:∀x c,cl.lookup x=some c->X.env.cells.lookup x=some c) (hhas:∀(n:Nat) x,((relabel scope X.env).names.lookup x=some .cell\/(relabel scope X.env).names.lookup x=some .free)->∃c,(cellsFrom n scope.names []++cl).lookup x=some c)
  (hcap:∀p∈caps,X.N[p.1]?=some p.2/\X.env.scope.names.lookup p.2=some .cell/\((relabel scope X.env).names.lookup p.2=some .cell\/(relabel scope X.env).names.lookup p.2=some .free))
  (hi:PI X.nox tgt iter wi)
  (hb:∀s2 H2 C fp pn,PG (c5 X (tn++caps.map (·.2)) scope cl s2 H2 C fp pn) tgt g/\PF (c5 X (tn++caps.map (·.2)) scope cl s2 H2 C fp pn) ifs tc/\PE (c5 X (tn++caps.map (·.2)) scope cl s2 H2 C fp pn) elt te)
  (hs:∀x,foldedSetIterable iter X.env x=pure x:=by intro _;rfl) (hN:X.N.Nodup) (hi':X.N[i]?=some y) (hx:Loc X.env.scope y) (hsw:swapsWith (.ListComp elt [⟨tgt,iter,ifs,0⟩] scope pos) (some (.Name y pos')) pos2.line X.env=pure true) (hf:X.fn y=true\/X.env.scope.names.lookup y=some .local) :
  PS X.nox (.Assign [.Name y pos'] (.ListComp elt [⟨tgt,iter,ifs,0⟩] scope pos) pos2) (tAsg (Az wi tn.length caps g tc te) (vf i)):=by
 intro pins s σ H D I h;show wpAny (model X.prog X.w) X.A (exec (.Assign [.Name y pos'] (.ListComp elt [⟨tgt,iter,ifs,0⟩] scope pos) pos2) X.env) _ _ s;rw[exec_Assign_Name_used _ _ _ _ hsw];refine GM (Kg (GM ?_));show wpAny _ _ (do let _<-comprehension (.ListComp elt [⟨tgt,iter,ifs,0⟩] scope pos) scope X.env _ (newList []) false (eval iter X.env) (some (assign (.Name y pos') X.env))) _ _ s;refine GM (HX (re tn caps hcalm hclos hcell hkind hnames hcl hhas hcap hi hb hs (use:=some (assign (.Name y pos') X.env)) (Qf:=λ_ s'=>SP X.nox pins D .next s') pins s σ H _ I h λp C m4 H3 s4 I9 hm4 hfp q=>?_) (λ_ s' hq=>GQ (GQ hq)) λ_ _ e=>e);obtain⟨f0,f1,f2,f3,f4,f5⟩:=hfp;show wpAny _ _ (assign (.Name y pos') X.env (.ref p)) _ _ s4;refine wpAny_assign_Name (ls (X:=X.nox) I9 hN hi' hx (v:=.ref p) rfl (λs5 I5 ⟨a,sb,ha⟩=>?_) hf);have aa:C≠a:=by
  rcases ha with rfl | ha
  ·exact f1
  ·exact λz=>f4 y a ha z.symm
 refine⟨m4,hm4.sameBut sb aa,λh' hs'=>⟨_,H3,I5.turned (t':=s5.toks) (λb o hb e=>hs'.extBut b o hb e) f0 f1 f3 f4 f5,q⟩⟩
theorem mx:bootBuiltins "len"=some (.builtin "len"):=by decide +kernel
theorem Ew:bootBuiltins "abs"=some (.builtin "abs"):=by decide +kernel
theorem dF:bootBuiltins "isinstance"=some (.builtin "isinstance"):=by decide +kernel
theorem Ea:bootBuiltins "max"=some (.builtin "max"):=by decide +kernel
theorem kt:bootBuiltins "sorted"=some (.builtin "sorted"):=by decide +kernel
theorem eK:bootBuiltins "tuple"=some (.type "tuple"):=by decide +kernel
theorem CC:bootBuiltins "dict"=some (.type "dict"):=by decide +kernel
theorem F0:bootBuiltins "set"=some (.type "set"):=by decide +kernel
section
theorem aQ.imp{K:Zf}{f g:Zi->(D->Prop)->Prop}{vs:Zg}{H:Hp}{Q:VK}(h:∀ds R,f ds R->g ds R)(p:aQ K f vs H Q):aQ K g vs H Q :=
 let ⟨M,ds,R,m,rs,hf,k⟩:=p;⟨M,ds,R,m,rs,h ds R hf,k⟩
def Dc:Zi->(D->Prop)->Prop
 | [.tup xs,.tup ys],R=>xs≠[]/\ys≠[]/\xs.length+ys.length<=9000/\R (.tup (xs++ys))
 | _,_=>False
theorem vD:∀ {d0:Zi} {R:D->Prop},Dc d0 R->∃(xs:Zi) (ys:Zi),d0=[.tup xs,.tup ys]/\xs≠[]/\ys≠[]/\xs.length+ys.length<=9000/\R (.tup (xs++ys)):=by walk_at "or"
theorem Ev:GC X (binaryOp .Add) λx y=>aQ X.K Dc [x,y] :=
 GC.imp yR λx y H Q ⟨M,ds,R,m,rs,h,k⟩=>by
  replace h:=vD h;obtain⟨_,_,rfl,h⟩:=h
  ·obtain⟨n1,n2,hz,q⟩:=h;obtain⟨h1,h2⟩:=bP rs;unfold GI at h1 h2;obtain⟨a,vs,e,l,r⟩:=h1;obtain⟨b,ws,e',l',r'⟩:=h2;have l1:=Reps.length _ _ r;have l2:=Reps.length _ _ r';refine⟨a,b,vs,ws,e,e',l,l',λz=>n1 (HR (by rw[l1,z];rfl)),dS (by rw[<- l1,<- l2];exact hz),λz=>absurd (HR (by rw[l2,z];rfl)) n2,λ_ p hp=>k _ q _ _ (aF hp _) ?_⟩;unfold GI;exact⟨p,vs++ws,rfl,GA.of aw,Reps.kp (Kp.of_same (aF hp _)) _ _ (Reps.append _ _ _ _ r r')⟩
def vd:Zi->(D->Prop)->Prop
 | [.int i,.int j],R=>R (.int (i+j))
 | [.lst xs,.lst ys],R=>xs.length+ys.length<=9000/\R (.lst (xs++ys))
 | [.tup xs,.tup ys],R=>xs≠[]/\ys≠[]/\xs.length+ys.length<=9000/\R (.tup (xs++ys))
 | _,_=>False
theorem xa:∀ {d0:Zi} {R:D->Prop},vd d0 R->((∃(i:Int) (j:Int),d0=[.int i,.int j]/\R (.int (i+j)))\/(∃(xs:Zi) (ys:Zi),d0=[.lst xs,.lst ys]/\xs.length+ys.length<=9000/\R (.lst (xs++ys)))\/(∃(xs:Zi) (ys:Zi),d0=[.tup xs,.tup ys]/\xs≠[]/\ys≠[]/\xs.length+ys.length<=9000/\R (.tup (xs++ys)))):=by walk_at "or"
theorem bC:GC X (binaryOp .Add) λx y=>aQ X.K vd [x,y] :=
 GC.imp (GC.or (GC.or F3 E5) Ev) λx y H Q ⟨M,ds,R,m,rs,h,k⟩=>by
  replace h:=xa h
  rcases h with⟨_,_,rfl,h⟩ | ⟨_,_,rfl,h⟩ | ⟨_,_,rfl,h⟩
  ·exact .inl (.inl ⟨M,_,R,m,rs,h,k⟩)
  ·exact .inl (.inr ⟨M,_,R,m,rs,h,k⟩)
  ·exact .inr ⟨M,_,R,m,rs,h,k⟩
mutual
def D.dp:D->Nat
 | .tup xs=>D.dps xs+1
 | .lst xs=>D.dps xs+1
 | .fz xs=>D.dps xs+1
 | .dct _ _=>0
 | .fd _ _=>0
 | .fo _ _ _=>0
 | .exn _ _ _=>0
 | .non=>0
 | .bl _=>0
 | .int _=>0
 | .str _=>0
def D.dps:Zi->Nat
 | []=>0
 | x::r=>max (D.dp x) (D.dps r)
end
mutual
def D.nd:D->Bool
 | .tup xs=>D.nds xs
 | .lst xs=>D.nds xs
 | .fz xs=>D.nds xs
 | .dct _ _=>false
 | .fd _ _=>false
 | .fo _ _ _=>false
 | .exn _ _ _=>false
 | .non=>true
 | .bl _=>true
 | .int _=>true
 | .str _=>true
def D.nds:Zi->Bool
 | []=>true
 | x::r=>D.nd x&&D.nds r
end
theorem cz(A:Around):A.in1.units=A.units+1:=rfl
theorem fF(n:Nat):((List.range n).all λ_=>true)=true:=by simp
section
mutual
theorem B7(I:Inv X pins σ H s):∀(d:D) (A:Around) (v v':V) (u u':Value),d.nd=true->A.units+d.dp<cLine->GI X.K M H d v->GI X.K M H d v'->bB v u->bB v' u'->SeqAt.EqAt A s u u' true
 | .non,A,v,v',u,u',_,_,r,r',q,q'=>by
  unfold GI at r r';subst r r';have:=qQ (A:=A) (s:=s) q q' rfl rfl;exact this
 | .bl b,A,v,v',u,u',_,_,r,r',q,q'=>by
  unfold GI at r r';subst r r';have:=qQ (A:=A) (s:=s) q q' rfl rfl;simpa [eqV] using this
 | .int b,A,v,v',u,u',_,_,r,r',q,q'=>by
  unfold GI at r r';subst r r';have:=qQ (A:=A) (s:=s) q q' rfl rfl;simpa [eqV] using this
 | .str b,A,v,v',u,u',_,_,r,r',q,q'=>by
  unfold GI at r r';subst r r';have:=qQ (A:=A) (s:=s) q q' rfl rfl;simpa [eqV] using this
 | .tup ds,A,v,v',u,u',hn,hd,r,r',q,q'=>by
  unfold GI at r r';obtain⟨a,vs,rfl,sq,rs⟩:=r;obtain⟨b,ws,rfl,ai,ah⟩:=r'
  cases q
  cases q'
  unfold D.dp at hd
  by_cases e:a=b
  ·subst e;exact Kk _
  ·obtain⟨ab,r1,t1,_⟩:=I.tuple sq;obtain⟨aa,r2,t2,_⟩:=I.tuple ai;have hs:ab.length=aa.length:=by rw[<- r1.length,<- r2.length,<- Reps.length _ _ rs,<- Reps.length _ _ ah]
   have k:=SeqAt.RcAt.tuples (A:=A) (e:=λ_=>true) t1 t2 (by omega) (eqAt_Ds I ds A.in1 vs ws ab aa hn (by rw[cz];omega) rs ah r1 r2)
   have z:((List.range (min ab.toArray.size aa.toArray.size)).all (λ_=>true)&&ab.toArray.size==aa.toArray.size)=true:=by simp[hs]
   rw[z] at k;exact SeqAt.EqAt.of_refs e k
 | .lst ds,A,v,v',u,u',hn,hd,r,r',q,q'=>by
  unfold GI at r r';obtain⟨a,vs,rfl,_,sq,rs⟩:=r;obtain⟨b,ws,rfl,_,ai,ah⟩:=r'
  cases q
  cases q'
  unfold D.dp at hd
  by_cases e:a=b
  ·subst e;exact Kk _
  ·obtain⟨ab,r1,t1,_⟩:=I.list (GL.of sq);obtain⟨aa,r2,t2,_⟩:=I.list (GL.of ai);have hs:ab.length=aa.length:=by rw[<- r1.length,<- r2.length,<- Reps.length _ _ rs,<- Reps.length _ _ ah]
   have k:=SeqAt.RcAt.lists (A:=A) (e:=λ_=>true) t1.isList t2.isList (by simp[hs]) (by omega) (eqAt_Ds I ds A.in1 vs ws ab aa hn (by rw[cz];omega) rs ah r1 r2)
   rw[fF] at k;exact SeqAt.EqAt.of_refs e k
 | .fz ds,A,v,v',u,u',hn,hd,r,r',q,q'=>by
  unfold GI at r r';obtain⟨a,vs,rfl,sq,rs⟩:=r;obtain⟨b,ws,rfl,ai,ah⟩:=r'
  cases q
  cases q'
  unfold D.dp at hd
  by_cases e:a=b
  ·subst e;exact Kk _
  ·obtain⟨ab,r1,t1,_⟩:=I.list sq.seq;obtain⟨aa,r2,t2,_⟩:=I.list ai.seq;have hs:ab.length=aa.length:=by rw[<- r1.length,<- r2.length,<- Reps.length _ _ rs,<- Reps.length _ _ ah]
   have k:=SeqAt.RcAt.lists (A:=A) (e:=λ_=>true) t1.isList t2.isList (by simp[hs]) (by omega) (eqAt_Ds I ds A.in1 vs ws ab aa hn (by rw[cz];omega) rs ah r1 r2)
   rw[fF] at k;exact SeqAt.EqAt.of_refs e k
 | .dct ks ds,A,v,v',u,u',hn,_,_,_,_,_=>by unfold D.nd at hn;cases hn
 | .fd ks ds,A,v,v',u,u',hn,_,_,_,_,_=>by unfold D.nd at hn;cases hn
 | .fo o ks ds,A,v,v',u,u',hn,_,_,_,_,_=>by unfold D.nd at hn;cases hn
 | .exn _ _ _,A,v,v',u,u',hn,_,_,_,_,_=>by unfold D.nd at hn;cases hn
theorem eqAt_Ds(I:Inv X pins σ H s):∀(ds:Zi) (A:Around) (vs ws:Zg) (us us':Zc),D.nds ds=true->A.units+D.dps ds<cLine->Reps X.K M H ds vs->Reps X.K M H ds ws->bF vs us->bF ws us' ->
  ∀j (h1:j<us.toArray.size) (h2:j<us'.toArray.size),SeqAt.EqAt A s us.toArray[j] us'.toArray[j] true
 | [],A,vs,ws,us,us',_,_,r,r',q,q',j,h1,h2=>by
  unfold Reps at r;subst r
  cases q
  exact absurd h1 (by simp)
 | d::ds,A,vs,ws,us,us',hn,hd,r,r',q,q',j,h1,h2=>by
  unfold Reps at r r';obtain⟨v,vr,rfl,rv,rs⟩:=r;obtain⟨w',wr,rfl,aa,ab⟩:=r';unfold D.nds at hn;obtain⟨n1,n2⟩:=Hu.mp hn;unfold D.dps at hd
  cases q with
  | @cons _ u0 _ ur qa qb =>
   cases q' with
   | @cons _ u1 _ ur' qa' qb' =>
    cases j with
    | zero=>exact B7 I d A v w' _ _ n1 (by omega) rv aa qa qa'
    | succ j =>
     have z:=eqAt_Ds I ds A vr wr ur ur' n2 (by omega) rs ab qb qb' j (by simpa using h1) (by simpa using h2)
     simpa using z
end
end
theorem xK:decide (V.int i=V.int j)=decide (i=j):=by rw[nI];exact J7 _ _
theorem Ek:decide (V.bl i=V.bl j)=decide (i=j):=by rw[sJ];exact J7 _ _
theorem yf:decide (V.str i=V.str j)=decide (i=j):=by rw[nY];exact J7 _ _
def fEq:Zi->(D->Prop)->Prop
 | [.int i,.int j],R=>R (.bl (decide (i=j)))
 | [.str x,.str y],R=>R (.bl (decide (x=y)))
 | [.bl a,.bl b],R=>R (.bl (decide (a=b)))
 | [.tup xs,.tup ys],R=>(xs=ys/\D.nds xs=true/\D.dps xs<=60)/\R (.bl true)
 | [.lst xs,.lst ys],R=>((xs=ys/\D.nds xs=true/\D.dps xs<=60)/\R (.bl true))\/(xs.length≠ys.length/\R (.bl false))
 | _,_=>False
theorem Et:∀ {d0:Zi} {R:D->Prop},fEq d0 R->((∃(i:Int) (j:Int),d0=[.int i,.int j]/\R (.bl (decide (i=j))))\/(∃(x:Str) (y:Str),d0=[.str x,.str y]/\R (.bl (decide (x=y))))\/(∃(a:Bool) (b:Bool),d0=[.bl a,.bl b]/\R (.bl (decide (a=b))))\/(∃(xs:Zi) (ys:Zi),d0=[.tup xs,.tup ys]/\(xs=ys/\D.nds xs=true/\D.dps xs<=60)/\R (.bl true))\/(∃(xs:Zi) (ys:Zi),d0=[.lst xs,.lst ys]/\(((xs=ys/\D.nds xs=true/\D.dps xs<=60)/\R (.bl true))\/(xs.length≠ys.length/\R (.bl false))))):=by walk_at "or"
theorem Bq:fEq [.int i,.int j] R=(R (.bl (decide (i=j)))):=rfl
theorem AB:fEq [.str i,.str j] R=(R (.bl (decide (i=j)))):=rfl
theorem De:fEq [.bl i,.bl j] R=(R (.bl (decide (i=j)))):=rfl
theorem Bg:fEq [.tup i,.tup j] R=((i=j/\D.nds i=true/\D.dps i<=60)/\R (.bl true)):=rfl
theorem dH(hu:X.A.units+64<cLine):GC X (compareOp .Eq) λx y=>aQ X.K fEq [x,y]:=by
 intro pins s σ H x y v u Q I rx ry h;obtain⟨M,ds,R,m,rs,h,k⟩:=h;replace h:=Et h
 rcases h with⟨_,_,rfl,h⟩ | ⟨_,_,rfl,h⟩ | ⟨_,_,rfl,h⟩ | ⟨_,_,rfl,h⟩ | ⟨_,_,rfl,h⟩
 ·obtain⟨h1,h2⟩:=bP rs
  cases aR h1
  cases aR h2
  refine yV pins s σ H _ _ v u Q I rx ry ⟨rfl,?_⟩;rw[xK];exact k _ h _ H (bH.refl H) (GI.sc rfl)
 ·obtain⟨h1,h2⟩:=bP rs
  cases bm h1
  cases bm h2
  refine yV pins s σ H _ _ v u Q I rx ry ⟨rfl,?_⟩;rw[yf];exact k _ h _ H (bH.refl H) (GI.sc rfl)
 ·obtain⟨h1,h2⟩:=bP rs
  cases ie h1
  cases ie h2
  refine yV pins s σ H _ _ v u Q I rx ry ⟨rfl,?_⟩;rw[Ek];exact k _ h _ H (bH.refl H) (GI.sc rfl)
 ·obtain⟨⟨e,hn,hd⟩,h⟩:=h;subst e;obtain⟨h1,h2⟩:=bP rs;unfold GI at h1 h2;obtain⟨a,vs,rfl,sq,ai⟩:=h1;obtain⟨b,ws,rfl,aj,ah⟩:=h2
  cases rx
  cases ry
  obtain⟨ab,r1,t1,_⟩:=I.tuple sq;obtain⟨aa,r2,t2,_⟩:=I.tuple aj;have hs:ab.length=aa.length:=by rw[<- r1.length,<- r2.length,<- Reps.length _ _ ai,<- Reps.length _ _ ah]
  refine SeqAt.eq_tupleAt (e:=λ_=>true) t1 t2 (by omega) (eqAt_Ds I _ X.A.in1 vs ws ab aa hn (by rw[cz];omega) ai ah r1 r2) ?_;have z:((List.range (min ab.toArray.size aa.toArray.size)).all (λ_=>true)&&ab.toArray.size==aa.toArray.size)=true:=by simp[hs]
  rw[z];exact⟨.bl true,H,I,rfl,k _ h _ H (bH.refl H) (GI.sc rfl)⟩
 ·obtain⟨h1,h2⟩:=bP rs;unfold GI at h1 h2;obtain⟨a,vs,rfl,_,sq,ai⟩:=h1;obtain⟨b,ws,rfl,_,aj,ah⟩:=h2
  cases rx
  cases ry
  obtain⟨ab,r1,t1,_⟩:=I.list (GL.of sq);obtain⟨aa,r2,t2,_⟩:=I.list (GL.of aj)
  rcases h with⟨⟨e,hn,hd⟩,h⟩ | ⟨ne,h⟩
  ·subst e;have hs:ab.length=aa.length:=by rw[<- r1.length,<- r2.length,<- Reps.length _ _ ai,<- Reps.length _ _ ah]
   refine SeqAt.eq_listAt (e:=λ_=>true) t1.isList t2.isList (by simp[hs]) (by omega) (eqAt_Ds I _ X.A.in1 vs ws ab aa hn (by rw[cz];omega) ai ah r1 r2) ?_;rw[fF];exact⟨.bl true,H,I,rfl,k _ h _ H (bH.refl H) (GI.sc rfl)⟩
  ·refine SeqAt.eq_list_lengthsAt t1.isList t2.isList ?_ (by omega) ⟨.bl false,H,I,rfl,k _ h _ H (bH.refl H) (GI.sc rfl)⟩;have l1:=r1.length;have l2:=r2.length;have l3:=Reps.length _ _ ai;have l4:=Reps.length _ _ ah;simp only[List.size_toArray,bne_iff_ne,ne_eq];omega
def fNe:Zi->(D->Prop)->Prop
 | [.int i,.int j],R=>R (.bl (!decide (i=j)))
 | [.str x,.str y],R=>R (.bl (!decide (x=y)))
 | [.bl a,.bl b],R=>R (.bl (!decide (a=b)))
 | _,_=>False
theorem Cf:∀ {d0:Zi} {R:D->Prop},fNe d0 R->((∃(i:Int) (j:Int),d0=[.int i,.int j]/\R (.bl (!decide (i=j))))\/(∃(x:Str) (y:Str),d0=[.str x,.str y]/\R (.bl (!decide (x=y))))\/(∃(a:Bool) (b:Bool),d0=[.bl a,.bl b]/\R (.bl (!decide (a=b))))):=by walk_at "or"
theorem o_ne(_:X.A.units+64<cLine):GC X (compareOp .NotEq) λx y=>aQ X.K fNe [x,y]:=by
 intro pins s σ H x y v u Q I rx ry h;obtain⟨M,ds,R,m,rs,h,k⟩:=h;replace h:=Cf h
 rcases h with⟨_,_,rfl,h⟩ | ⟨_,_,rfl,h⟩ | ⟨_,_,rfl,h⟩
 ·obtain⟨h1,h2⟩:=bP rs
  cases aR h1
  cases aR h2
  refine yM pins s σ H _ _ v u Q I rx ry ⟨rfl,?_⟩;rw[xK];exact k _ h _ H (bH.refl H) (GI.sc rfl)
 ·obtain⟨h1,h2⟩:=bP rs
  cases bm h1
  cases bm h2
  refine yM pins s σ H _ _ v u Q I rx ry ⟨rfl,?_⟩;rw[yf];exact k _ h _ H (bH.refl H) (GI.sc rfl)
 ·obtain⟨h1,h2⟩:=bP rs
  cases ie h1
  cases ie h2
  refine yM pins s σ H _ _ v u Q I rx ry ⟨rfl,?_⟩;rw[Ek];exact k _ h _ H (bH.refl H) (GI.sc rfl)
def fIs:Zi->(D->Prop)->Prop
 | [.bl a,.bl b],R=>R (.bl (decide (a=b)))
 | [.non,.non],R=>R (.bl true)
 | [.tup _,.non],R=>R (.bl false)
 | [.exn _ _ _,.non],R=>R (.bl false)
 | _,_=>False
theorem Ca(h:fIs d0 R):(∃(a:Bool) (b:Bool),d0=[.bl a,.bl b]/\R (.bl (decide (a=b))))\/(d0=[.non,.non]/\R (.bl true))\/(∃(z1:Zi),d0=[.tup z1,.non]/\R (.bl false))\/(∃(c f:Str) (z1:D),d0=[.exn c f z1,.non]/\R (.bl false)):=by
 rcases d0 with _ | ⟨a,_ | ⟨b,_ | ⟨c,l⟩⟩⟩
 ·exact False.elim h
 ·cases a<;>exact False.elim h
 ·cases a<;>first | exact False.elim h | (cases b<;>first | exact False.elim h | exact .inl ⟨_,_,rfl,h⟩ | exact .inr (.inl ⟨rfl,h⟩) | exact .inr (.inr (.inl ⟨_,rfl,h⟩)) | exact .inr (.inr (.inr ⟨_,_,_,rfl,h⟩)))
 ·cases a<;>first | exact False.elim h | (cases b<;>exact False.elim h)
theorem CG:fIs [.bl i,.bl j] R=(R (.bl (decide (i=j)))):=rfl
theorem D1:GC X (compareOp .Is) (λx y H Q=>∃a b,x=.bl a/\y=.bl b/\Q (.bl (decide (a=b))) H):=by
 intro pins s σ H x y v u Q I rx ry h;obtain⟨a,b,rfl,rfl,q⟩:=h
 cases rx
 cases ry
 refine wpAny_is_plain rfl ⟨.bl _,H,I,rfl,?_⟩;have e:(Value.bool a==Value.bool b)=decide (a=b):=by cases a<;>cases b<;>rfl
 rw[e];exact q
theorem sB:GC X (compareOp .Is) λx y=>aQ X.K fIs [x,y] :=
  GC.imp (GC.or D1 D9) λx y H Q ⟨M,ds,R,m,rs,h,k⟩=>by
    have aa:∀b,R (.bl b)->Q (.bl b) H:=λb r=>k _ r _ H (bH.refl H) (GI.sc rfl)
    replace h:=Ca h
    rcases h with⟨_,_,rfl,h⟩ | ⟨rfl,h⟩ | ⟨_,rfl,h⟩ | ⟨_,_,_,rfl,h⟩
    · obtain⟨h1,h2⟩:=bP rs;exact .inl ⟨_,_,ie h1,ie h2,aa _ h⟩
    all_goals first
      | exact h.elim
      | (obtain⟨h1,h2⟩:=bP rs
         unfold GI at h1 h2
         first
           | (subst h1;exact .inr ⟨h2,aa _ h⟩)
           | (obtain⟨a,vs,e,_⟩:=h1;subst e;exact .inr ⟨h2,aa _ h⟩)
           | (obtain⟨y,⟨e,C,dx,e1,_⟩,_⟩:=h1;subst e1;exact .inr ⟨h2,aa _ h⟩))
def tyN:D->String
 | .non=>"NoneType"
 | .bl _=>"bool"
 | .int _=>"int"
 | .str _=>"str"
 | .tup _=>"tuple"
 | .lst _=>"list"
 | .fz _=>"list"
 | .dct _ _=>"dict"
 | .fd _ _=>"dict"
 | .fo _ _ _=>"dict"
 | .exn _ _ _=>"NoneType"
def D.noX:D->Prop
 | .exn _ _ _=>False
 | _=>True
def isT(T n:String):Bool:=n==T||(n=="bool"&&T=="int")
def qIs(T:String):D->(Bool->Prop)->Prop
 | .exn _ _ _,_=>False
 | x,k=>k (isT T (tyN x))
theorem qIs.ex(h:qIs T x k):x.noX/\k (isT T (tyN x)):=by cases x<;>first | exact False.elim h | exact⟨trivial,h⟩
def kIs(T:String)(R:W->En->Prop):W->En->Prop:=wd λx δ1=>qIs T x λb=>R (.d (.bl b)) δ1
end
end DL
namespace DL
open PySem PySem.Spec PyProof.Rows L2
section
theorem Sx.addA{K:Zf}{A:Addr->Prop}{H H':Hp}(s:Sx K G A δ P σ H)(hn:H p=none)(hs:bH H H')(hp:H' p≠none):Sx K G (λb=>A b\/b=p) δ P σ H':=by
 have x:=s.same hs
 have hM:∀b,(G.M0 b\/(A b\/b=p))->(G.M0 b\/A b)\/H b=none:=λb h=>by
  rcases h with h | h | h
  ·exact .inl (.inl h)
  ·exact .inl (.inr h)
  ·subst h;exact .inr hn
 have up:∀d v,GI K (λb=>G.M0 b\/A b) H d v->GI K (λb=>G.M0 b\/(A b\/b=p)) H' d v:=λd v r=>GI.kp (Kp.of_same hs) _ _ (GI.more hM _ _ r)
 have h0:G.H0 p=none:=by
  cases q:G.H0 p with
  | none=>rfl
  | some o=>exact absurd hn (s.stay p (by rw[q];exact λz=>nomatch z))
 refine⟨x.old,x.stay,x.m0,x.pm,λb h=>h.elim (s.new b) λe=>.inl (by rw[e];exact h0),λb h=>h.elim (x.thr b) λe=>by rw[e];exact hp,s.len,λj d' e=>?_,λj b d' e=>?_,s.inj,λq hq=>up _ _ (s.pnd q hq)⟩
 ·obtain⟨v,q,r⟩:=s.dat j d' e;exact⟨v,q,up _ _ r⟩
 ·obtain⟨q,r,o⟩:=s.own j b d' e;refine⟨q,.inl r,bv.kp (Kp.of_same hs) ?_ (bv.more hM o)⟩
  cases z:H b with
  | none=>exact absurd z (s.thr b r)
  | some o'=>exact hs b o' z
theorem Sx.subA{K:Zf}{A A':Addr->Prop}{H:Hp}(s:Sx K G A δ P σ H)(hA:∀b,A' b->A b)(ho:∀(i:Nat) a d,δ[i]?=some (.own a d)->A' a):Sx K G A' δ P σ H:=by
 have hM:∀b,(G.M0 b\/A' b)->(G.M0 b\/A b)\/H b=none:=λb h=>.inl (h.elim .inl λz=>.inr (hA b z))
 exact⟨s.old,s.stay,s.m0,s.pm,λb h=>s.new b (hA b h),λb h=>s.thr b (hA b h),s.len,λi d e=>let ⟨v,q,r⟩:=s.dat i d e;⟨v,q,GI.more hM _ _ r⟩,λi a d e=>let ⟨q,_,o⟩:=s.own i a d e;⟨q,ho i a d e,bv.more hM o⟩,s.inj,
  λp hp=>GI.more hM _ _ (s.pnd p hp)⟩
theorem Sx.poke{K:Zf}{A:Addr->Prop}{H:Hp}(s:Sx K G A δ P σ H)(hp:A p)(hv:H p=some (.lst vs))(hno:∀(i:Nat) d,δ[i]?≠some (.own p d)):Sx K G A δ P σ (GE H p (.lst ws)):=by
 have hk:∀b o,b≠p->H b=some o->GE H p (.lst ws) b=some o:=λb o n e=>by rw[aH n];exact e
 have kp:Kp (λb=>G.M0 b\/A b) H (GE H p (.lst ws)):=⟨λb o e n=>hk b o (λz=>n (.inr (by rw[z];exact hp))) e,λb xs e=>hk b _ (λz=>by rw[z,hv] at e;cases e) e,λb o u e=>hk b _ (λz=>by rw[z,hv] at e;cases e) e⟩
 have stay:∀b,H b≠none->GE H p (.lst ws) b≠none:=λb e=>by
  by_cases z:b=p
  ·rw[z,aw];exact λz=>nomatch z
  ·rw[aH z];exact e
 have na:∀b o,G.H0 b=some o->¬ G.Pm b->b≠p:=λb o e n z=>(s.new p hp).elim (λq=>by rw[z] at e;rw[e] at q;cases q) λq=>n (by rw[z];exact q)
 refine⟨λb o e n=>hk b o (na b o e n) (s.old b o e n),λb e=>stay b (s.stay b e),s.m0,s.pm,s.new,λb e=>stay b (s.thr b e),s.len,λi d e=>let ⟨v,q,r⟩:=s.dat i d e;⟨v,q,GI.kp kp _ _ r⟩,λi a d e=>?_,s.inj,λq hq=>GI.kp kp _ _ (s.pnd q hq)⟩;obtain⟨q,r,o⟩:=s.own i a d e;have ne:a≠p:=λz=>by subst z;exact hno i d e
 exact⟨q,r,bv.kp kp (by rw[aH ne]) o⟩
end
def u7:Option Sl->Sl
 | some (.dat d)=>.dat d
 | _=>.no
def gU(caps:List (Nat×Str))(δ:En):En:=caps.map λp=>u7 δ[p.1]?
def oS:Option D->Sl
 | none=>.no
 | some d=>.dat d
def wG:Nat->(List Sl->Prop)->Prop
 | 0,p=>p []
 | n+1,p=>∀t:Option D,wG n λts=>p (oS t::ts)
def okT:Nat->En->En->Prop
 | 0,δ,c=>δ=c
 | n+1,.dat _::r,c=>okT n r c
 | _+1,_,_=>False
abbrev TDC:=En->(List D->En->Prop)->Prop
def An(src:TDC)(nt:Nat)(caps:List (Nat×Str))(g:TDG)(tc:TDT)(te:GH)(δ:En)(R:W->En->Prop):Prop:=src δ λxs δ1=>xs.length<=9000/\∃f:D->Option D,
 (∀x∈xs,wG nt λts=>g x (ts++gU caps δ1) λδ2=>tc δ2 λb δ3=>if b=true then te δ3 (wd λy δ4=>okT nt δ4 (gU caps δ1)/\f x=some y) else okT nt δ3 (gU caps δ1)/\f x=none)/\R (.d (.lst (xs.filterMap f))) δ1
theorem qR:∀ {n:Nat} {p:List Sl->Prop},wG n p->∀ts:List (Option D),ts.length=n->p (ts.map oS)
 | 0,p,h,ts,e=>by rw[IG.mp e];exact h
 | n+1,p,h,[],e=>by cases e
 | n+1,p,h,t::ts,e=>qR (h t) ts (Jp e)
theorem nK:∀ {n:Nat} {δ c:En},okT n δ c->∃ts:List (Option D),ts.length=n/\δ=ts.map oS++c
 | 0,δ,c,h=>⟨[],rfl,h⟩
 | n+1,[],c,h=>h.elim
 | n+1,.dat d::r,c,h=>by
  obtain⟨ts,e,q⟩:=nK (n:=n) (δ:=r) h;exact⟨some d::ts,by rw[G0,e],by rw[q];rfl⟩
 | n+1,.no::r,c,h=>h.elim
 | n+1,.own _ _::r,c,h=>h.elim
section
theorem xj{i:Nat}(e:(gU caps δ)[i]?=some (.dat d)):∃p,caps[i]?=some p/\δ[p.1]?=some (.dat d):=by
 unfold gU at e;rw[G6] at e
 cases hc:caps[i]? with
 | none=>rw[hc] at e;cases e
 | some p =>
  rw[hc] at e;refine⟨p,rfl,?_⟩;have e:=G4 e
  cases q:δ[p.1]? with
  | none=>simp[q,u7] at e
  | some z =>
   cases z with
   | dat d'=>simp only[q,u7] at e;cases e;rfl
   | no=>simp[q,u7] at e
   | own _ _=>simp[q,u7] at e
theorem j9{i:Nat}(e:(gU caps δ)[i]?=some (.own a d)):False:=by
 unfold gU at e;rw[G6] at e
 cases hc:caps[i]? with
 | none=>rw[hc] at e;cases e
 | some p =>
  rw[hc] at e;have e:=G4 e
  cases q:δ[p.1]? with
  | none=>simp[q,u7] at e
  | some z=>cases z<;>simp[q,u7] at e
theorem E9{K:Zf}{G:Gf}{A:Addr->Prop}{H:Hp}(s:Sx K G A δ P σ H):Sx K ⟨λb=>G.M0 b\/A b,H,λ_=>False⟩ (λ_=>False) ((List.replicate nt none).map oS++gU caps δ) [] (vq nt caps σ) H:=by
 have hM:∀b,((G.M0 b\/A b)\/False)->(G.M0 b\/A b)\/H b=none:=λb h=>h.elim .inl λz=>z.elim
 have hr:(List.replicate nt none).map oS=List.replicate nt Sl.no:=by rw[List.map_replicate];rfl
 rw[hr];refine⟨λb o e _=>e,λb e=>e,s.mem,λb h=>h.elim,λb h=>h.elim,λb h=>h.elim,?_,λi d e=>?_,λi a d e=>?_,λi j a d e h1 _=>?_,λp hp=>(nomatch hp)⟩
 ·unfold gU vq;rw[GV,GV,Hi,Hi,GN,GN]
 ·by_cases hi:i<nt
  ·rw[Hm (by rw[Hi];exact hi),HI,Hc hi] at e
   cases e
  ·rw[Hh (by rw[Hi];omega),Hi] at e;obtain⟨p,hp,hd⟩:=xj e;obtain⟨v,q,r⟩:=s.dat _ _ hd;refine⟨v,?_,GI.more hM _ _ r⟩;unfold vq;rw[Hh (by rw[Hi];omega),Hi,G6,hp];show some ((σ[p.1]?).join)=_;rw[q];rfl
 all_goals
  exfalso
 ·by_cases hi:i<nt
  ·rw[Hm (by rw[Hi];exact hi),HI,Hc hi] at e
   cases e
  ·rw[Hh (by rw[Hi];omega)] at e;exact j9 e
 ·by_cases hi:i<nt
  ·rw[Hm (by rw[Hi];exact hi),HI,Hc hi] at h1
   cases h1
  ·rw[Hh (by rw[Hi];omega)] at h1;exact j9 h1
theorem yk{ts:List (Option D)}{i:Nat}(e:(ts.map oS++gU caps δ)[i]?=some (.own a d)):False:=by
 by_cases hi:i<ts.length
 ·rw[Hm (by rw[GN];exact hi),G6] at e
  cases hc:ts[i]? with
  | none=>rw[hc] at e;cases e
  | some o =>
   rw[hc] at e
   cases o<;>cases e
 ·rw[Hh (by rw[GN];omega)] at e;exact j9 e
theorem re_S{K:Zf}{M:Addr->Prop}{A2:Addr->Prop}{ts:List (Option D)}{H H5 H6:Hp}(s:Sx K ⟨M,H,λ_=>False⟩ A2 (ts.map oS++gU caps δ) P2 σ2 H5)(k:Kp M H5 H6)(hm:∀b,M b->H6 b≠none) :
  Sx K ⟨M,H6,λ_=>False⟩ (λ_=>False) (ts.map oS++gU caps δ) [] σ2 H6:=by
 have hM:∀b,(M b\/False)->(M b\/A2 b)\/H5 b=none:=λb h=>.inl (h.elim .inl λz=>z.elim)
 have k':Kp (λb=>M b\/False) H5 H6:=⟨λb o e n=>k.un b o e λz=>n (.inl z),k.tu,k.fr⟩
 exact⟨λb o e _=>e,λb e=>e,hm,λb h=>h.elim,λb h=>h.elim,λb h=>h.elim,s.len,λi d e=>let ⟨v,q,r⟩:=s.dat i d e;⟨v,q,GI.kp k' _ _ (GI.more hM _ _ r)⟩,λi a d e=>(yk e).elim,
  λi j a d e h1 _=>(yk h1).elim,λp hp=>(nomatch hp)⟩
theorem jv{xs:Zi}{f:D->Option D}{i:Nat}(h:xs[i]?=some x):(xs.take (i+1)).filterMap f=(xs.take i).filterMap f++(match f x with | some y=>[y] | none=>[]):=by
 rw[List.take_add_one,h,List.filterMap_append]
 cases e:f x<;>simp[e]
theorem jU{K:Zf}{G:Gf}{J:It}{xs:Zi}{f:D->Option D}{te:GH}{H1:Hp}{Q:VK}(s:S K G δ P σ H1)(hz:xs.length<=9000)
  (hgo:∀A i H,Sx K G A δ P σ H->i<xs.length->J.go i H) (hst:∀A H,Sx K G A δ P σ H->J.stop xs.length H)
  (hyl:∀A i x H H2,Sx K G A δ P σ H->i<xs.length->J.yld i H x H2->bH H H2/\∃d,xs[i]?=some d/\GI K (λb=>G.M0 b\/A b) H2 d x)
  (hf:∀x∈xs,wG nt λts=>g x (ts++gU caps δ) λδ2=>tc δ2 λb δ3=>if b=true then te δ3 (wd λy δ4=>okT nt δ4 (gU caps δ)/\f x=some y) else okT nt δ3 (gU caps δ)/\f x=none)
  (p:Addr) (hp:H1 p=none) (k:∀(A:Addr->Prop) acc H',¬ (G.M0 p\/A p)->(∀(i:Nat) a d,δ[i]?=some (.own a d)->A a)->Sx K G (λb=>A b\/b=p) δ P σ H'->H' p=some (.lst acc)->Reps K (λb=>G.M0 b\/(A b\/b=p)) H' (xs.filterMap f) acc->Q (.ref p) H') :
  ∃W:Nat->Nat->Zg->L2.St->Hp->Prop,(∃m,W 0 m [] (vq nt caps σ) (GE H1 p (.lst [])))/\∀i m acc σ' H',W i m acc σ' H'->(J.stop i H'/\Q (.ref p) H')\/(J.go i H'/\∀x H2,J.yld i H' x H2 ->
   upG K g x σ' H2 λσ2 H3=>upT K tc σ2 H3 λb H4=>if b=true then up K te σ2 H4 λy H5=>H5 p=some (.lst acc)/\acc.length<sizeLine/\∃m',m'<m/\W (i+1) m' (acc++[y]) σ2 (GE H5 p (.lst (acc++[y]))) else ∃m',m'<m/\W (i+1) m' acc σ2 H4):=by
 obtain⟨A0,x0⟩:=s;have ai:¬ (G.M0 p\/A0 p):=λz=>x0.mem p z hp;have aq:∀(i:Nat) d,δ[i]?≠some (.own p d):=λi d e=>ai (.inr (x0.own i p d e).2.1);have x1:=x0.addA hp (aF hp (.lst [])) (by rw[aw];exact λz=>nomatch z)
 refine⟨λi m acc σ' H'=>i<=xs.length/\m=xs.length-i/\acc.length<=i/\H' p=some (.lst acc)/\Sx K G (λb=>A0 b\/b=p) δ P σ H'/\Reps K (λb=>G.M0 b\/(A0 b\/b=p)) H' ((xs.take i).filterMap f) acc /\
  ∃ts:List (Option D),ts.length=nt/\Sx K ⟨λb=>G.M0 b\/(A0 b\/b=p),H',λ_=>False⟩ (λ_=>False) (ts.map oS++gU caps δ) [] σ' H',⟨xs.length,Ir _,rfl,GU _,aw,x1,by rw[J3];exact Reps.nil,List.replicate nt none,Hi,E9 x1⟩,?_⟩
 rintro i m acc σ' H' ⟨hi,rfl,hal,hac,x,rs,ts,hts,sx⟩
 by_cases hlt:i<xs.length
 ·refine .inr ⟨hgo _ i H' x hlt,λv H2 hy=>?_⟩;obtain⟨aa,d,hd,rd⟩:=hyl _ i v H' H2 x hlt hy;replace sx:=re_S sx (Kp.of_same aa) (x.same aa).mem;replace x:=x.same aa;replace hac:=aa _ _ hac;replace rs:=Reps.kp (Kp.of_same aa) _ _ rs;clear aa hy;have aj:d∈xs:=G9 hd;refine⟨_,ts.map oS++gU caps δ,[],d,_,⟨_,sx.push (GI.more (λb z=>.inl (z.elim id λq=>q.elim)) _ _ rd)⟩,qR (hf d aj) ts hts,λδ2 h2 σ2 H3 s2=>?_⟩;refine⟨_,_,[],_,s2,h2,λb δ3 h3 H4 s3=>?_⟩;have ah:=jv (f:=f) hd;have a1:∀b,(G.M0 b\/(A0 b\/b=p))->H2 b≠none:=x.mem
  cases b with
  | false =>
   obtain⟨ao,hn⟩:=h3;rw[hn,HM] at ah;obtain⟨az,al,e3⟩:=nK ao;subst e3;obtain⟨A3,y3⟩:=s3;have sm:bH H2 H4:=λb o e=>y3.old b o e id;have x4:=x.same sm;exact⟨xs.length-(i+1),by omega,hlt,rfl,by omega,sm _ _ hac,x4,by rw[ah];exact Reps.kp (Kp.of_same sm) _ _ rs,az,al,re_S y3 Kp.refl x4.mem⟩
  | true =>
   refine up.mk (P:=[]) s3 h3 λy δ4 h4 yv H5 s4=>?_;obtain⟨a0,hy⟩:=h4;rw[hy] at ah;obtain⟨as,an,e4⟩:=nK a0;subst e4;obtain⟨A4,y4⟩:=s4;have sm:bH H2 H5:=λb o e=>y4.old b o e id;have x5:=x.same sm;have ab:=sm _ _ hac;have ry:GI K (λb=>G.M0 b\/(A0 b\/b=p)) H5 y yv:=GI.more (λb z=>.inl (.inl z)) _ _ (y4.pnd (y,yv) (by simp));have x6:=x5.poke (p:=p) (ws:=acc++[yv]) (.inr rfl) ab aq;have kp:Kp (λb=>G.M0 b\/(A0 b\/b=p)) H5 (GE H5 p (.lst (acc++[yv]))):=by
    have hk:∀b o,b≠p->H5 b=some o->GE H5 p (.lst (acc++[yv])) b=some o:=λb o n e=>by rw[aH n];exact e
    exact⟨λb o e n=>hk b o (λz=>n (.inr (.inr z))) e,λb xs e=>hk b _ (λz=>by rw[z,ab] at e;cases e) e,λb o u e=>hk b _ (λz=>by rw[z,ab] at e;cases e) e⟩
   refine⟨ab,Jl (GS hal hi) (iM hz),xs.length-(i+1),by omega,hlt,rfl,by rw[GV,IS];omega,aw,x6,?_,as,an,re_S y4 kp x6.mem⟩;rw[ah];exact Reps.kp kp _ _ (Reps.append _ _ _ _ (Reps.kp (Kp.of_same sm) _ _ rs) (Reps.one ry))
 ·have e:i=xs.length:=by omega
  subst e;rw[Ht] at rs;exact .inl ⟨hst _ H' x,k A0 acc H' ai (λi a d e=>(x0.own i a d e).2.1) x hac rs⟩
theorem lH{K:Zf}{G:Gf}{J:It}{xs:Zi}{f:D->Option D}{te:GH}{H1:Hp}{Q:VK}(s:S K G δ P σ H1)(hz:xs.length<=9000)
  (hgo:∀A i H,Sx K G A δ P σ H->i<xs.length->J.go i H) (hst:∀A H,Sx K G A δ P σ H->J.stop xs.length H)
  (hyl:∀A i x H H2,Sx K G A δ P σ H->i<xs.length->J.yld i H x H2->bH H H2/\∃d,xs[i]?=some d/\GI K (λb=>G.M0 b\/A b) H2 d x)
  (hf:∀x∈xs,wG nt λts=>g x (ts++gU caps δ) λδ2=>tc δ2 λb δ3=>if b=true then te δ3 (wd λy δ4=>okT nt δ4 (gU caps δ)/\f x=some y) else okT nt δ3 (gU caps δ)/\f x=none)
  (k:∀v H',S K G δ ((.lst (xs.filterMap f),v)::P) σ H'->Q v H') (p:Addr) (hp:H1 p=none) :
  ∃W:Nat->Nat->Zg->L2.St->Hp->Prop,(∃m,W 0 m [] (vq nt caps σ) (GE H1 p (.lst [])))/\∀i m acc σ' H',W i m acc σ' H'->(J.stop i H'/\Q (.ref p) H')\/(J.go i H'/\∀x H2,J.yld i H' x H2 ->
   upG K g x σ' H2 λσ2 H3=>upT K tc σ2 H3 λb H4=>if b=true then up K te σ2 H4 λy H5=>H5 p=some (.lst acc)/\acc.length<sizeLine/\∃m',m'<m/\W (i+1) m' (acc++[y]) σ2 (GE H5 p (.lst (acc++[y]))) else ∃m',m'<m/\W (i+1) m' acc σ2 H4) :=
 jU s hz hgo hst hyl hf p hp λA acc H' hA ho x hac rs=>k (.ref p) H' ⟨A,(x.subA (λb z=>.inl z) ho).push (by
  unfold GI
  exact⟨p,acc,rfl,hA,hac,Reps.more (λb z=>.inl (z.elim .inl λq=>.inr (.inl q))) _ _ rs⟩)⟩
end
def Cw(t:GH)(δ:En)(R:Zi->En->Prop):Prop:=t δ (wd λd δ1=>qL d λxs=>R xs δ1)
def CV(t:GH)(δ:En)(R:Zi->En->Prop):Prop:=t δ (wd λd δ1=>qT d λxs=>R xs δ1)
def Ei(t:TDA)(δ:En)(R:Zi->En->Prop):Prop:=t δ λds δ1=>qC ds λx r=>qN r <| qI x λj=>-(2 ^ 62)<=j/\j<2 ^ 62/\R ((List.range j.toNat).map λ(i:Nat)=>D.int (i:Int)) δ1
def CI(X:Cx)(tg it:Expr)(src:TDC):Prop:=∃wi,PI X tg it wi/\∀(G:Gf) (δ:En) (P:List (D×V)) (σ:L2.St) (H:Hp) (R:Zi->En->Prop) (Q:It->Hp->Prop),S X.K G δ P σ H->src δ R ->
  (∀xs δ1,R xs δ1->∀(J:It) (P1:List (D×V)) (H1:Hp),(∀q∈P,q∈P1)->S X.K G δ1 P1 σ H1->(∀A δ σ i H,Sx X.K G A δ P1 σ H->i<xs.length->J.go i H)->(∀A δ σ H,Sx X.K G A δ P1 σ H->J.stop xs.length H) ->
    (∀A δ σ i x H H2,Sx X.K G A δ P1 σ H->i<xs.length->J.yld i H x H2->bH H H2/\∃d,xs[i]?=some d/\GI X.K (λb=>G.M0 b\/A b) H2 d x)->Q J H1)->wi σ H Q
section
variable {X:Cx} {tg e:Expr} {te:GH} {ta:TDA}
theorem cR(h:DE X e te):CI X tg e (Cw te):=⟨_,oM h,λG δ P σ H R Q s hs k=>up.mk s hs λd δ1 h1 v H1 s1=>by
 replace h1:=qL.ex h1;obtain⟨xs,e,r⟩:=h1;subst e;have aa:∀A δ σ H,Sx X.K G A δ ((.lst xs,v)::P) σ H->∃a vs,v=.ref a/\H a=some (.lst vs)/\Reps X.K (λb=>G.M0 b\/A b) H xs vs:=λA δ σ H x=>by
  have q:=x.pnd (.lst xs,v) (by simp)
  unfold GI at q;obtain⟨a,vs,e,_,l,r⟩:=q;exact⟨a,vs,e,l,r⟩
 obtain⟨A1,x1⟩:=id s1;obtain⟨a,ah,rfl,l0,_⟩:=aa _ _ _ _ x1;refine⟨a,rfl,⟨ah,GL.of l0⟩,k xs δ1 r _ _ H1 (λq hq=>by simp[hq]) s1 (λA δ σ i H x hi=>?_) (λA δ σ H x=>?_) λA δ σ i y H H2 x hi hy=>?_⟩
 ·obtain⟨b,vs,e,l,r⟩:=aa _ _ _ _ x
  cases e
  obtain⟨w',hw,_⟩:=Reps.get _ _ r i xs[i] (by simp[hi]);exact⟨vs,w',GL.of l,hw⟩
 ·obtain⟨b,vs,e,l,r⟩:=aa _ _ _ _ x
  cases e
  exact⟨vs,GL.of l,by rw[Reps.length _ _ r];exact GU _⟩
 ·obtain⟨b,vs,e,l,r⟩:=aa _ _ _ _ x
  cases e
  obtain⟨e,hy⟩:=hy;obtain⟨w',hw,ab⟩:=Reps.get _ _ r i xs[i] (by simp[hi]);have z:=hy vs (GL.of l);rw[hw] at z
  cases z
  subst e
  exact⟨bH.refl _,xs[i],by simp[hi],ab⟩⟩
theorem mB(h:DE X e te):CI X tg e (CV te):=⟨_,xI h,λG δ P σ H R Q s hs k=>up.mk s hs λd δ1 h1 v H1 s1=>by
 replace h1:=qT.ex h1;obtain⟨xs,e,r⟩:=h1;subst e;have aa:∀A δ σ H,Sx X.K G A δ ((.tup xs,v)::P) σ H->∃a vs,v=.ref a/\GA X.K H a vs/\Reps X.K (λb=>G.M0 b\/A b) H xs vs:=λA δ σ H x=>by
  have q:=x.pnd (.tup xs,v) (by simp)
  unfold GI at q;exact q
 obtain⟨A1,x1⟩:=id s1;obtain⟨a,ah,rfl,l0,_⟩:=aa _ _ _ _ x1;refine⟨a,rfl,⟨ah,l0⟩,k xs δ1 r _ _ H1 (λq hq=>by simp[hq]) s1 (λA δ σ i H x hi=>?_) (λA δ σ H x=>?_) λA δ σ i y H H2 x hi hy=>?_⟩
 ·obtain⟨b,vs,e,l,r⟩:=aa _ _ _ _ x
  cases e
  obtain⟨w',hw,_⟩:=Reps.get _ _ r i xs[i] (by simp[hi]);exact⟨vs,w',l,hw⟩
 ·obtain⟨b,vs,e,l,r⟩:=aa _ _ _ _ x
  cases e
  exact⟨vs,l,by rw[Reps.length _ _ r];exact GU _⟩
 ·obtain⟨b,vs,e,l,r⟩:=aa _ _ _ _ x
  cases e
  obtain⟨e,hy⟩:=hy;obtain⟨w',hw,ab⟩:=Reps.get _ _ r i xs[i] (by simp[hi]);have z:=hy vs l;rw[hw] at z
  cases z
  subst e
  exact⟨bH.refl _,xs[i],by simp[hi],ab⟩⟩
theorem xc(hg:Gl X "range")(hm:X.mg "range"=none)(ha:DA X [a] ta)(hs:starEach [a] X.env=[(false,eval a X.env)]:=by rfl):CI X tg (.Call (.Name "range" p) [a] [] pos) (Ei ta) :=
 ⟨_,mf hg hm ha hs,λG δ P σ H R Q s hs k=>⟨G,δ,P,_,s,hs,λds δ1 h1 vs H1 hl s1=>by
  replace h1:=qC.ex h1;obtain⟨x,r,e,h1⟩:=h1;replace h1:=qN.ex h1;obtain⟨e',h1⟩:=h1;replace h1:=qI.ex h1;obtain⟨j,e2,h1,h2,r⟩:=h1;subst e2 e' e
  match vs,hl with
  | [v],_ =>
   have q:v=.int j:=by
    obtain⟨A,x⟩:=s1;exact aR (x.pnd (.int j,v) (by simp))
   subst q;refine⟨j,rfl,h1,h2,k _ δ1 r _ P H1 (λq hq=>hq) (s1.sub λp hp=>by simp[hp]) (λA δ σ i H x hi=>?_) (λA δ σ H x=>?_) λA δ σ i y H H2 x hi hy=>?_⟩
   ·rw[GN,Il] at hi;exact hi
   ·rw[GN,Il];exact GU _
   ·rw[GN,Il] at hi;obtain⟨e,hy⟩:=hy;subst e;refine⟨bH.refl _,.int i,by rw[G6,JI hi];rfl,?_⟩;unfold GI
    rw[hy,Jq]⟩⟩
def DF(X:Cx)(ifs:List Expr)(t:TDT):Prop:=PF X ifs (upT X.K t)
theorem c7:DF X [] (λδ R=>R true δ):=λpins s σ H Q I ⟨G,δ,P,R,s',h,k⟩=>Eo pins s σ H Q I (k true δ h H s')
theorem f9(h:DT X c t):DF X [c] t:=BS h
theorem bR(tn:Zb)(caps:List (Nat×Str))
  (hcalm:X.calm=true) (hclos:closureFor scope X.env=pure cl) (hcell:∀p∈caps,(p.2,NameKind.cell)∉scope.names) (hkind:scope.kind=.function) (hnames:∀y∈scope.names,y.2=.local->scope.names.lookup y.1=some .local)
  (hcl:∀x c,cl.lookup x=some c->X.env.cells.lookup x=some c) (hhas:∀(n:Nat) x,((relabel scope X.env).names.lookup x=some .cell\/(relabel scope X.env).names.lookup x=some .free)->∃c,(cellsFrom n scope.names []++cl).lookup x=some c)
  (hcap:∀p∈caps,X.N[p.1]?=some p.2/\X.env.scope.names.lookup p.2=some .cell/\((relabel scope X.env).names.lookup p.2=some .cell\/(relabel scope X.env).names.lookup p.2=some .free))
  (hi:CI X.nox tgt iter src)
  (hb:∀s2 H2 C fp pn,DG (c5 X (tn++caps.map (·.2)) scope cl s2 H2 C fp pn) tgt g/\DF (c5 X (tn++caps.map (·.2)) scope cl s2 H2 C fp pn) ifs tc/\DE (c5 X (tn++caps.map (·.2)) scope cl s2 H2 C fp pn) elt te)
  (hs:∀x,foldedSetIterable iter X.env x=pure x:=by intro _;rfl):DE X.nox (.ListComp elt [⟨tgt,iter,ifs,0⟩] scope pos) (An src tn.length caps g tc te):=by
 obtain⟨wi,hi,hw⟩:=hi;refine PE.imp (Bw (g:=upG X.K g) (tc:=upT X.K tc) (te:=up X.K te) tn caps hcalm hclos hcell hkind hnames hcl hhas hcap hi hb hs) λσ H Q ⟨G,δ,P,R,s,h,k,_⟩=>?_;refine hw G δ P σ H _ _ s h λxs δ1 ⟨hz,f,hf,r⟩ J P1 H1 hP s1 hgo hst hyl p hp=>?_
 exact lH s1 hz (λA i H x hi=>hgo A _ _ i H x hi) (λA H x=>hst A _ _ H x) (λA i x H H2 s hi hy=>hyl A _ _ i x H H2 s hi hy) hf (λv H' s'=>k _ δ1 r v H' (s'.sub λq hq=>by
  rcases GY.mp hq with rfl | hq
  ·simp
  ·exact GP _ (hP q hq))) p hp
end
def BR(cells:List (Str×Addr)):List (Str×Addr)->Prop
 | []=>True
 | y::r=>cells.lookup y.1=some y.2/\BR cells r
theorem bE:∀ {cl:List (Str×Addr)},BR cells cl->∀x c,cl.lookup x=some c->cells.lookup x=some c
 | [],_,x,c,h=>by cases h
 | y::r,⟨h1,h2⟩,x,c,h=>by
  rw[List.lookup_cons] at h
  cases e:x==y.1 with
  | true =>
   rw[e] at h;have e:=eq_of_beq e
   cases h
   rw[e];exact h1
  | false =>
   rw[e] at h;exact bE h2 x c h
theorem bO{names:List (Str×NameKind)}{cl:List (Str×Addr)}(h:(names.all λy=>!(y.2 == .cell||y.2 == .free)||(cl.lookup y.1).isSome)=true):∀x,(names.lookup x=some .cell\/names.lookup x=some .free)->∃c,cl.lookup x=some c:=λx hx=>by
 have aa:∀(ns:List (Str×NameKind)) k,ns.lookup x=some k->(x,k)∈ns:=λns=>by
  induction ns with
  | nil=>intro k h;cases h
  | cons y r ih =>
   intro k h;rw[List.lookup_cons] at h
   cases e:x==y.1 with
   | true =>
    rw[e] at h;have e:=eq_of_beq e
    cases h
    rw[e];exact GT ..
   | false =>
    rw[e] at h;exact GP _ (ih k h)
 have go:∀k,(k=.cell\/k=.free)->names.lookup x=some k->∃c,cl.lookup x=some c:=λk hk e=>by
  have m:=aa _ _ e
  have q:=Ka.mp h _ m
  have hb:((k==NameKind.cell||k == .free))=true:=by rcases hk with rfl | rfl<;>rfl
  simp only[hb,Bool.not_true,Bool.false_or] at q;exact Option.isSome_iff_exists.mp q
 rcases hx with e | e
 ·exact go _ (.inl rfl) e
 ·exact go _ (.inr rfl) e
def xX(p:Nat×Str->Prop):List (Nat×Str)->Prop
 | []=>True
 | y::r=>p y/\xX p r
theorem aU:∀ {l:List (Nat×Str)},xX p l->∀y∈l,p y
 | [],_,y,h=>by cases h
 | z::r,⟨h1,h2⟩,y,h=>by
  rcases GY.mp h with rfl | h
  ·exact h1
  ·exact aU h2 y h
end DL
namespace DL
open PySem PySem.Spec PyProof.Rows L2
def spN(K:Zf)(f:Zi->(D->Prop)->Prop):Sp:=λvs H Q _=>∃(M:Addr->Prop) (ds:Zi) (R:D->Prop),(∀b,M b->H b≠none)/\Reps K M H ds vs/\f ds R /\
 ∀d,R d->∀a H',bH H H'->H a=none->bv K (λb=>M b\/b=a) H' a d->Q (.ref a) H'
abbrev FO:=D->List D->(D->D->Prop)->Prop
def spO(K:Zf)(f:FO):Sp:=λvs H Q _=>∃(M:Addr->Prop) (a:Addr) (d0:D) (vs':Zg) (ds:Zi) (R:D->D->Prop),vs=.ref a::vs'/\(∀b,M b->H b≠none)/\¬ M a/\bv K (λb=>M b\/b=a) H a d0/\Reps K (λb=>M b\/b=a) H ds vs'/\f d0 ds R /\
 ∀r d1,R r d1->∀v H',(∀b o,b≠a->H b=some o->H' b=some o)->bv K (λb=>M b\/b=a) H' a d1->GI K (λb=>M b\/b=a) H' r v->Q v H'
def wq(K:Zf)(f:FO):Sp:=λvs H Q E=>∃v0 v1,vs=[v0,v1]/\spO K f [v1,v0] H Q E
theorem yN{K:Zf}{f:Zi->(D->Prop)->Prop}{vs:Zg}{H:Hp}{Q:VK}{E:XK}(h:Gy K f vs H Q E):spN K f vs H Q E:=by
 obtain⟨M,ds,R,m,rs,hf,k⟩:=h;exact⟨M,ds,R,m,rs,hf,λd r a H' sm fr ow=>k d r (.ref a) H' sm (ow.rep (λz=>m a z fr) λb z=>.inl z)⟩
section
theorem Cal.imp{P:Program}{w:World}{K:Zf}{mg:Str->Zd}{base:Heap}{k:Nat}{x:Str}{ps:Zb}{sp sp':Sp}(C:Cal P w K mg base k x ps sp)(h:∀vs H Q E,sp' vs H Q E->sp vs H Q E):Cal P w K mg base k x ps sp':=by
 obtain⟨a,fd,F,b,kp,m⟩:=C.ex;exact⟨a,fd,F.imp h,b,kp,m⟩
theorem Cal.pure{P:Program}{w:World}{K:Zf}{mg:Str->Zd}{base:Heap}{k:Nat}{x:Str}{ps:Zb}{f:Zi->(D->Prop)->Prop}(C:Cal P w K mg base k x ps (spN K f)):Cal P w K mg base k x ps (Gy K f):=C.imp λ_ _ _ _ h=>yN h
theorem gO{w:World}{K:Zf}{mg:Str->Zd}{st:Stmt}{f:Zi->(D->Prop)->Prop}(F:Fd K mg x st ps)(k:Nat)(h:∀ds R,¬ f ds R):Cal P w K mg base k x ps (Gy K f):=by
 obtain⟨a,fd,Fu,b,m⟩:=F.ex;have no:∀vs H Q E,¬ Gy K f vs H Q E:=λvs H Q E ⟨_,ds,R,_,_,hf,_⟩=>h ds R hf;exact⟨a,fd,⟨λvs H Q E h=>absurd h (no vs H Q E),λA outer s H args us vs Q E _ _ _ _ h=>absurd h (no vs H Q E)⟩,b,Fu.kp,m⟩
theorem uZ{w:World}{K:Zf}{mg:Str->Zd}{st:Stmt}(F:Fd K mg x st ps)(k:Nat)(h:∀d ds R,¬ f d ds R):Cal P w K mg base k x ps (wq K f):=by
 obtain⟨a,fd,Fu,b,m⟩:=F.ex;have no:∀vs H Q E,¬ wq K f vs H Q E:=λvs H Q E ⟨_,_,_,_,_,d0,_,ds,R,_,_,_,_,_,hf,_⟩=>h d0 ds R hf;exact⟨a,fd,⟨λvs H Q E h=>absurd h (no vs H Q E),λA outer s H args us vs Q E _ _ _ _ h=>absurd h (no vs H Q E)⟩,b,Fu.kp,m⟩
theorem p8{K:Zf}{M:Addr->Prop}{ds1 ds2:Zi}{H:Hp}(N:Zb)(m:∀b,M b->H b≠none)(na:¬ M a)(ow:bv K (λb=>M b\/b=a) H a d0)(r1:Reps K (λb=>M b\/b=a) H ds1 vs1)(r2:Reps K (λb=>M b\/b=a) H ds2 vs2) :
  S K ⟨M,H,λb=>b=a⟩ (ds1.map Sl.dat++Sl.own a d0::(ds2.map Sl.dat++List.replicate (N.length-(ds1.length+1+ds2.length)) Sl.no)) [] (L2.start N (vs1++.ref a::vs2)) H:=by
 have ab:=Reps.length _ _ r1
 have ai:=Reps.length _ _ r2
 have ah:H a≠none:=by
  cases d0 with
  | lst ds=>obtain⟨vs,q,_⟩:=ow;rw[q];exact λz=>nomatch z
  | dct ks ds=>obtain⟨vs,q,_⟩:=ow;rw[q];exact λz=>nomatch z
  | _=>exact ow.elim
 have aa:∀(i:Nat) z,(ds1.map Sl.dat++Sl.own a d0::(ds2.map Sl.dat++List.replicate (N.length-(ds1.length+1+ds2.length)) Sl.no))[i]?=some z ->
   (∃d,ds1[i]?=some d/\z=.dat d)\/(i=ds1.length/\z=.own a d0)\/(∃d,ds1.length+1<=i/\ds2[i-(ds1.length+1)]?=some d/\z=.dat d)\/z=.no:=λi z e=>by
  by_cases h1:i<ds1.length
  ·rw[Hm (by rw[GN];exact h1),G6] at e
   cases hd:ds1[i]? with
   | none=>rw[hd] at e;cases e
   | some d=>rw[hd] at e;exact .inl ⟨d,rfl,(G4 e).symm⟩
  ·rw[Hh (by rw[GN];omega),GN] at e
   by_cases h2:i=ds1.length
   ·subst h2;rw[Nat.sub_self,List.getElem?_cons_zero] at e;exact .inr (.inl ⟨rfl,(G4 e).symm⟩)
   ·have e3:i-ds1.length=(i-(ds1.length+1))+1:=by omega
    rw[e3,List.getElem?_cons_succ] at e
    by_cases h3:i-(ds1.length+1)<ds2.length
    ·rw[Hm (by rw[GN];exact h3),G6] at e
     cases hd:ds2[i-(ds1.length+1)]? with
     | none=>rw[hd] at e;cases e
     | some d=>rw[hd] at e;exact .inr (.inr (.inl ⟨d,by omega,rfl,(G4 e).symm⟩))
    ·rw[Hh (by rw[GN];omega),HI] at e
     split at e
     ·exact .inr (.inr (.inr (G4 e).symm))
     ·cases e
 have st:∀i,i<(vs1++V.ref a::vs2).length->(L2.start N (vs1++.ref a::vs2))[i]?=(vs1++V.ref a::vs2)[i]?.map some:=λi hi=>by
  unfold L2.start;rw[Hm (by rw[GN];exact hi),G6]
 have hM:∀b,(M b\/b=a)->(M b\/b=a)\/H b=none:=λb h=>.inl h
 refine⟨λb=>b=a,λb o e _=>e,λb e=>e,m,λb h=>⟨by rw[h];exact ah,by rw[h];exact na⟩,λb h=>.inr h,λb h=>by rw[h];exact ah,?_,λi d e=>?_,λi a' d e=>?_,λi j a' d e h1 h2=>?_,λp hp=>(nomatch hp)⟩
 ·unfold L2.start;simp only[List.length_append,List.length_map,List.length_cons,List.length_replicate];omega
 ·rcases aa i _ e with⟨d',hd,z⟩ | ⟨_,z⟩ | ⟨d',hi,hd,z⟩ | z
  ·cases z
   obtain⟨v,ev,rv⟩:=Reps.get _ _ r1 i d hd;have hi:i<vs1.length:=(GZ.mp ev).1;exact⟨v,by rw[st i (by rw[GV];omega),Hm hi,ev];rfl,rv⟩
  ·cases z
  ·cases z
   obtain⟨v,ev,rv⟩:=Reps.get _ _ r2 _ d hd;have aj:i-(ds1.length+1)<vs2.length:=(GZ.mp ev).1;refine⟨v,?_,rv⟩;rw[st i (by rw[GV,G0];omega),Hh (by omega),<- ab];have e3:i-ds1.length=(i-(ds1.length+1))+1:=by omega
   rw[e3,List.getElem?_cons_succ,ev];rfl
  ·cases z
 ·rcases aa i _ e with⟨d',hd,z⟩ | ⟨hi,z⟩ | ⟨d',hi,hd,z⟩ | z
  ·cases z
  ·cases z
   subst hi;refine⟨?_,rfl,ow⟩;rw[st _ (by rw[GV,G0];omega),Hh (by omega),ab,Nat.sub_self];rfl
  ·cases z
  ·cases z
 ·have u:∀i a' d,(ds1.map Sl.dat++Sl.own a d0::(ds2.map Sl.dat++List.replicate (N.length-(ds1.length+1+ds2.length)) Sl.no))[i]?=some (.own a' d)->i=ds1.length:=λi a' d e=>by
   rcases aa i _ e with⟨d',hd,z⟩ | ⟨hi,z⟩ | ⟨d',hi,hd,z⟩ | z
   ·cases z
   ·exact hi
   ·cases z
   ·cases z
  rw[u i _ _ h1,u j _ _ h2]
theorem iw{K:Zf}{M A':Addr->Prop}{H':Hp}(ha:A' a)(o:bv K (λb=>M b\/A' b) H' a d):bv K (λb=>M b\/b=a) H' a d:=bv.more (λb z=>.inl (z.elim .inl λe=>.inr (by rw[e];exact ha))) o
theorem fn_O{w:World}{K:Zf}{mg:Str->Zd}{st:Stmt}{N ps:Zb}(F:Fd K mg x st ps)(Sc:ay N ps (am st))(len:∀d ds R,f d ds R->ds.length+1=ps.length)
    (hbody:∀(fa:Addr) (cdv:Value) (A:Around) (outer:List Env) (s:Shared) (H:Hp) (E:XK) (a:Addr) (d0:D) (ds:Zi) (R:D->D->Prop),cK k (A.deeper (envOfC x (am st) s.heap.objs.size fa cdv))->f d0 ds R ->
      ∃t,DSs (oK CX0 P w K mg base N x (am st) fa cdv A outer s H E).nox (aW st) t /\
        t { nx:=λδ=>∃d1,δ[0]?=some (.own a d1)/\R .non d1,rt:=λd δ=>∃d1,δ[0]?=some (.own a d1)/\R d d1 } (Sl.own a d0::(ds.map Sl.dat++List.replicate (N.length-(1+ds.length)) Sl.no))) :
    Cal P w K mg base (k+1) x ps (spO K f):=by
  obtain⟨fa,fd,Fu,b,mm⟩:=F.ex;refine⟨fa,fd,Fu.ok Sc (λvs H Q E h=>?_) (λcdv A outer s H vs Q E hr h=>?_),b,Fu.kp,mm⟩
  · obtain⟨M,a,d0,ab,ds,R,rfl,m,na,ow,rs,hf,hk⟩:=h;rw[G0,<- Reps.length _ _ rs];exact len _ _ _ hf
  · obtain⟨M,a,d0,ab,ds,R,rfl,m,na,ow,rs,hf,hk⟩:=h;obtain⟨t,ht,hq⟩:=hbody fa cdv A outer s H E a d0 ds R hr hf;have ss:=p8 (ds1:=[]) (vs1:=[]) N m na ow Reps.nil rs;rw[show ([]:Zi).length+1+ds.length=1+ds.length by simp] at ss;refine⟨_,ht,_,_,[],_,ss,hq,λδ' ⟨d1,e,r⟩ σ' H' ⟨A',x⟩=>?_,⟨λd δ' ⟨d1,e,r⟩ v σ' H' ⟨A',x⟩=>?_,λ_ h=>h.elim,λ_ _ _ z=>z.elim⟩,λ_ h=>h.elim,λ_ h=>h.elim,λz=>z.elim⟩
    · obtain⟨_,aa,oo⟩:=x.own 0 a d1 e;exact hk _ _ r .non H' (λb o n e=>x.old b o e n) (iw aa oo) (by unfold GI;rfl)
    · obtain⟨_,aa,oo⟩:=x.own 0 a d1 e;exact hk _ _ r v H' (λb o n e=>x.old b o e n) (iw aa oo) (GI.more (λb z=>.inl (z.elim .inl λe=>.inr (by rw[e];exact aa))) _ _ (x.pnd (d,v) (by simp)))
theorem Fz{w:World}{K:Zf}{mg:Str->Zd}{st:Stmt}{N ps:Zb}(F:Fd K mg x st ps)(Sc:ay N ps (am st))(hp:ps.length=2)(len:∀d ds R,f d ds R->ds.length=1)
    (hbody:∀(fa:Addr) (cdv:Value) (A:Around) (outer:List Env) (s:Shared) (H:Hp) (E:XK) (a:Addr) (d0 d:D) (R:D->D->Prop),cK k (A.deeper (envOfC x (am st) s.heap.objs.size fa cdv))->f d0 [d] R ->
      ∃t,DSs (oK CX0 P w K mg base N x (am st) fa cdv A outer s H E).nox (aW st) t /\
        t { nx:=λδ=>∃d1,δ[1]?=some (.own a d1)/\R .non d1,rt:=λd δ=>∃d1,δ[1]?=some (.own a d1)/\R d d1 } (Sl.dat d::Sl.own a d0::List.replicate (N.length-2) Sl.no)) :
    Cal P w K mg base (k+1) x ps (wq K f):=by
  obtain⟨fa,fd,Fu,b,mm⟩:=F.ex;refine⟨fa,fd,Fu.ok Sc (λvs H Q E h=>?_) (λcdv A outer s H vs Q E hr h=>?_),b,Fu.kp,mm⟩
  · obtain⟨v0,v1,rfl,_⟩:=h;exact hp.symm
  · obtain⟨v0,v1,rfl,M,a,d0,ab,ds,R,e,m,na,ow,rs,hf,hk⟩:=h
    cases e
    have hl:=len _ _ _ hf
    match ds,hl with
    | [d],_ =>
      obtain⟨t,ht,hq⟩:=hbody fa cdv A outer s H E a d0 d R hr hf;have ss:=p8 (ds2:=[]) (vs2:=[]) N m na ow rs Reps.nil;refine⟨_,ht,_,_,[],_,ss,hq,λδ' ⟨d1,e,r⟩ σ' H' ⟨A',x⟩=>?_,⟨λd δ' ⟨d1,e,r⟩ v σ' H' ⟨A',x⟩=>?_,λ_ h=>h.elim,λ_ _ _ z=>z.elim⟩,λ_ h=>h.elim,λ_ h=>h.elim,λz=>z.elim⟩
      · obtain⟨_,aa,oo⟩:=x.own 1 a d1 e;exact hk _ _ r .non H' (λb o n e=>x.old b o e n) (iw aa oo) (by unfold GI;rfl)
      · obtain⟨_,aa,oo⟩:=x.own 1 a d1 e;exact hk _ _ r v H' (λb o n e=>x.old b o e n) (iw aa oo) (GI.more (λb z=>.inl (z.elim .inl λe=>.inr (by rw[e];exact aa))) _ _ (x.pnd (d,v) (by simp)))
end
def kN(i:Nat)(R:aP)(δ:En)(d:D):Prop:=∀a,lq δ i (.own a d) R.nx
def kO(i:Nat)(a:Addr)(R:W->En->Prop)(δ:En)(r d:D):Prop:=lq δ i (.own a d) (R (.d r))
def Cv(i:Nat)(t:TDA)(R:aP)(δ:En):Prop:=t δ λds δ1=>q9 ds (∀a,lq δ1 i (.own a (.lst ds)) R.nx)
def Cl(i:Nat)(R:aP)(δ:En):Prop:=∀a,lq δ i (.own a (.dct [] [])) R.nx
def D7(i:Nat)(R:aP)(δ:En):Prop:=qW δ[i]? λ_ d=>R.ro d
def Dw(t:TDA)(R:aP)(δ:En):Prop:=t δ λds _=>q9 ds (R.ro (.lst ds))
def Eu(i:Nat)(δ:En)(R:W->En->Prop):Prop:=qWL δ[i]? λ_ ds=>R (.d (.int ds.length)) δ
def uk(i:Nat)(δ:En)(R:W->En->Prop):Prop:=qWL δ[i]? λ_ ds=>R (.d (.tup ds)) δ
def mU(i:Nat)(t:TDS)(R:aP)(δ:En):Prop:=qW δ[i]? λ_ d=>lq δ i (.dat d) (t R)
def tZ(i:Nat)(f:FO)(ta:GH)(δ:En)(R:W->En->Prop):Prop:=ta δ (wd λz δ1=>qW δ1[i]? λa d0=>f d0 [z] (kO i a R δ1))
def Cp(i:Nat)(ta:GH)(R:aP)(δ:En):Prop:=qWL δ[i]? λa _=>ta δ (wd λx δ1=>Bo δ1[i]? λds=>ds.length<9000/\lq δ1 i (.own a (.lst (ds++[x]))) R.nx)
section
theorem S.ret{K:Zf}{H:Hp}{i:Nat}(s:S K G δ P σ H)(e:δ[i]?=some (.own a d)):xP K G H a d:=by
 obtain⟨A,x⟩:=s;obtain⟨_,aa,oo⟩:=x.own i a d e;exact⟨x.old,x.new a aa,λz=>(x.new a aa).elim (λq=>x.m0 a z q) λq=>(x.pm a q).2 z,iw aa oo⟩
theorem jY(i:Nat)(hN:X.N[i]?=some x:=by rfl)(hv:Vis X.env.scope x:=by walk_at "v3")(hd:(x==("__debug__":Str))=false:=by decide)
  (hcd:(x==("__classdict__":Str))=false:=by decide):DS X (.Return (some (.Name x p)) pos) (D7 i) :=
 PS.imp (o8 (bA hN hv hd hcd)) λE σ H ⟨G,δ,P,R,s,h,_,k,_⟩=>let ⟨a,d,e,r⟩:=qW.ex h;⟨.ref a,s.own e,k.2.1 d r a H (s.ret e)⟩
theorem ds_retL(h:DA X es t):DS X (.Return (some (.List es p)) pos) (Dw t) :=
 PS.imp (o8 (vi h)) λE σ H ⟨G,δ,P,R,s,h,_,k,_⟩=>⟨G,δ,P,_,s,h,λds δ1 h9 vs H1 hl ⟨A,x⟩=>⟨by rw[<- hl];exact dS (q9.ex h9).1,λp hp=>k.2.1 _ (q9.ex h9).2 p _ (by
  have rs:=x.reps ds vs hl (λq hq=>Hf _ hq)
  have sm:=aF hp (.lst vs)
  have nm:¬ (G.M0 p\/A p):=λz=>x.mem p z hp
  refine⟨λb o e n=>sm b o (x.old b o e n),.inl ?_,λz=>nm (.inl z),vs,aw,Reps.kp (Kp.of_same sm) _ _ (Reps.more (λb z=>?_) _ _ rs)⟩
  ·cases q:G.H0 p with
   | none=>rfl
   | some o=>exact absurd hp (x.stay p (by rw[q];exact λz=>nomatch z))
  ·rcases z with z | z
   ·exact .inl (.inl z)
   ·exact .inr (by rw[z];exact hp))⟩⟩
theorem cJ(i:Nat)(hN:X.N.Nodup)(h:DA X es t)(hi:X.N[i]?=some x:=by rfl)(hx:Loc X.env.scope x:=by walk_at "v2")(hs:swapsWith (.List es p) (some (.Name x pos')) pos.line X.env=pure false:=by rfl)
  (hf:X.fn x=true\/X.env.scope.names.lookup x=some .local :=by walk_at "v1"):DS X (.Assign [.Name x pos'] (.List es p) pos) (Cv i t) :=
 PS.imp (jH hN hi hx (vi h) hs hf) λE σ H ⟨G,δ,P,R,s,h,k,_⟩=>⟨G,δ,P,_,s,h,λds δ1 h9 vs H1 hl ⟨A,x⟩=>⟨by rw[<- hl];exact dS (q9.ex h9).1,λp hp=>by
  have r:=(q9.ex h9).2
  have rs:=x.reps ds vs hl (λq hq=>Hf _ hq)
  have sm:=aF hp (.lst vs)
  refine k _ (r p) _ _ ⟨_,x.claim (P':=P) hp sm ⟨vs,aw,Reps.kp (Kp.of_same sm) _ _ (Reps.more (λb z=>?_) _ _ rs)⟩ λq hq=>G7 _ hq⟩
  rcases z with z | z
  ·exact .inl z
  ·exact .inr (by rw[z];exact hp)⟩⟩
theorem iE(i:Nat)(hN:X.N.Nodup)(hi:X.N[i]?=some x:=by rfl)(hx:Loc X.env.scope x:=by walk_at "v2")(hs:swapsWith (.Dict [] [] p) (some (.Name x pos')) pos.line X.env=pure false:=by rfl)
  (hf:X.fn x=true\/X.env.scope.names.lookup x=some .local :=by walk_at "v1"):DS X (.Assign [.Name x pos'] (.Dict [] [] p) pos) (Cl i) :=
 PS.imp (jH hN hi hx qJ hs hf) λE σ H ⟨G,δ,P,R,⟨A,x⟩,h,k,_⟩=>λp hp=>by
  have sm:=aF hp (.dK [])
  exact k _ (h p) _ _ ⟨_,x.claim (P':=P) hp sm ⟨[],by rw[aw];rfl,rfl,Reps.nil⟩ λq hq=>hq⟩
theorem Ax{K:Zf}{A:Addr->Prop}{δ:En}{H:Hp}{i:Nat}{ds:Zi}{vs:Zg}{R:D->D->Prop}{Q:VK}{E:XK}(x:Sx K G A δ P σ H)(hi:δ[i]?=some (.own a d0))(hl:ds.length=vs.length)(hp:∀p∈ds.zip vs,p∈P)
  (hP:∀p∈P',p∈P) (hf:f d0 ds R) (k:∀r d1,R r d1->∀v H',S K G (δ.set i (.own a d1)) ((r,v)::P') σ H'->Q v H'):spO K f (.ref a::vs) H Q E:=by
 obtain⟨_,aa,oo⟩:=x.own i a d0 hi;have e1:∀b,(((G.M0 b\/A b)/\b≠a)\/b=a)->(G.M0 b\/A b):=λb h=>h.elim (λz=>z.1) λz=>.inr (by rw[z];exact aa);have e2:∀b,(G.M0 b\/A b)->(((G.M0 b\/A b)/\b≠a)\/b=a):=λb h=>by
  by_cases z:b=a
  ·exact .inr z
  ·exact .inl ⟨h,z⟩
 refine⟨λb=>(G.M0 b\/A b)/\b≠a,a,d0,vs,ds,R,rfl,λb z=>x.mem b z.1,λz=>z.2 rfl,bv.more (λb z=>.inl (e1 b z)) oo,Reps.more (λb z=>.inl (e1 b z)) _ _ (x.reps ds vs hl hp),hf,λr d1 hr v H' hk ow rp=>k r d1 hr v H' ⟨A,?_⟩⟩;exact((x.change hi hk (bv.more (λb z=>.inl (e2 b z)) ow)).sub hP).push (GI.more (λb z=>.inl (e2 b z)) _ _ rp)
theorem l8(i:Nat)(C:Cal X.prog X.w X.K X.mg X.base k x ps (wq X.K f))(hr:cK k X.A)(hg:Gl X x)(ha:DE X a ta)(hN:X.N[i]?=some y:=by rfl)
  (hv:Vis X.env.scope y:=by walk_at "v3") (hd:(y==("__debug__":Str))=false:=by decide) (hcd:(y==("__classdict__":Str))=false:=by decide) (hdb:(x==("__debug__":Str))=false:=by decide)
  (he:starEach [a,.Name y p2] X.env=(false,eval a X.env)::starEach [.Name y p2] X.env:=by rfl) (he2:starEach [.Name y p2] X.env=(false,eval (.Name y p2) X.env)::starEach [] X.env:=by rfl) (hpl:(backTo pos (starEach [.Name y p2] X.env)).any (·.1)=false:=by rfl) :
  DE X (.Call (.Name x p) [a,.Name y p2] [] pos) (tZ i f ta):=by
 obtain⟨g,fd,F,b,kp,m⟩:=C.ex;refine PE.imp (ko F hr hg m kp b .nil zM (aM ha (aM (bA hN hv hd hcd) ci he2) he) hdb he hpl) λσ H Q ⟨G,δ,P,R,s,h,k,_⟩=>up.mk s h λz δ1 h1 v H1 s1=>?_;replace h1:=qW.ex h1;obtain⟨a,d0,hi,hf⟩:=h1;refine⟨.ref a,s1.own hi,?_⟩;show wq X.K f [v,.ref a] H1 Q _;obtain⟨A,x⟩:=s1;exact⟨v,.ref a,rfl,Ax (ds:=[z]) x hi rfl (by simp) (P':=P) (λq hq=>GP _ hq) hf λr d1 hr v H' s'=>k r _ hr v H' s'⟩
theorem fN{K:Zf}{G:Gf}{A:Addr->Prop}{H:Hp}{i:Nat}(x:Sx K G A δ P σ H)(hi:δ[i]?=some (.own a (.lst ds))):σ[i]?=some (some (.ref a))/\A a/\∃vs,H a=some (.lst vs)/\Reps K (λb=>G.M0 b\/A b) H ds vs:=by
 obtain⟨h1,h2,vs,h3,h4⟩:=x.own i a _ hi;exact⟨h1,h2,vs,h3,h4⟩
theorem AD(i:Nat)(hg:Gl X "len")(hm:X.mg "len"=none)(hv':bootBuiltins "len"=some (.builtin "len"))(hN:X.N[i]?=some y:=by rfl)(hv:Vis X.env.scope y:=by walk_at "v3")
  (hd:(y==("__debug__":Str))=false:=by decide) (hcd:(y==("__classdict__":Str))=false:=by decide) (he:starEach [.Name y p2] X.env=(false,eval (.Name y p2) X.env)::starEach [] X.env:=by rfl) (hpl:(backTo pos (starEach [] X.env)).any (·.1)=false:=by rfl) :
  DE X (.Call (.Name "len" p) [.Name y p2] [] pos) (Eu i) :=
 PE.imp (eY gb hg hm hv' (aM (bA hN hv hd hcd) ci he) (by decide) (by decide) he hpl) λσ H Q ⟨G,δ,P,R,s,h,k,_⟩=>by
  replace h:=qWL.ex h;obtain⟨a,ds,e,h⟩:=h;obtain⟨A,x⟩:=id s;obtain⟨h1,aa,vs,ab,rs⟩:=fN x e;exact⟨.ref a,h1,a,vs,rfl,.inl (GL.of ab),k _ δ h _ H (s.sc (by rw[Reps.length _ _ rs];rfl))⟩
theorem lV(i:Nat)(hg:Gl X "tuple")(hm:X.mg "tuple"=none)(hv':bootBuiltins "tuple"=some (.type "tuple"))(hN:X.N[i]?=some y:=by rfl)(hv:Vis X.env.scope y:=by walk_at "v3")
  (hd:(y==("__debug__":Str))=false:=by decide) (hcd:(y==("__classdict__":Str))=false:=by decide) (he:starEach [.Name y p2] X.env=(false,eval (.Name y p2) X.env)::starEach [] X.env:=by rfl) (hpl:(backTo pos (starEach [] X.env)).any (·.1)=false:=by rfl) :
  DE X (.Call (.Name "tuple" p) [.Name y p2] [] pos) (uk i) :=
 PE.imp (iB fu hg hm hv' (aM (bA hN hv hd hcd) ci he) (by decide) (by decide) he hpl) λσ H Q ⟨G,δ,P,R,s,h,k,_⟩=>by
  replace h:=qWL.ex h;obtain⟨a,ds,e,h⟩:=h;obtain⟨A,x⟩:=id s;obtain⟨h1,aa,vs,ab,rs⟩:=fN x e;refine⟨.ref a,h1,a,vs,rfl,.inl ⟨GL.of ab,λl hl=>k _ δ h _ _ ⟨A,(x.same (aF hl _)).push ?_⟩⟩⟩;unfold GI;exact⟨l,vs,rfl,GA.of aw,Reps.kp (Kp.of_same (aF hl _)) _ _ rs⟩
theorem a8(i:Nat)(he:DE X e ta)(hN:X.N[i]?=some y:=by rfl)(hv:Vis X.env.scope y:=by walk_at "v3")
  (hd:(y==("__debug__":Str))=false:=by decide) (hcd:(y==("__classdict__":Str))=false:=by decide)
  (hbase:attributeBase (.Name y p) "append" X.env (eval (.Name y p) X.env)=eval (.Name y p) X.env:=by rfl)
  (hfew:((backTo cpos (starEach [e] X.env)).all (λx=>!x.1)&&(backToKw cpos (keywordEach [] X.env)).all (λx=>x.1.isSome)&&decide ([e].length+([]:List Keyword).length+(if ([]:List Keyword).isEmpty then 0 else 1)<30))=true:=by rfl)
  (hline:(apos.endLine==cpos.line)=true:=by rfl) (hs:starEach [e] X.env=(false,eval e X.env)::starEach [] X.env:=by rfl) (hplain:(backTo cpos (starEach [] X.env)).any (·.1)=false:=by rfl)
  (hsw:swapsWith (.Call (.Attribute (.Name y p) "append" apos) [e] [] cpos) none pos.line X.env=pure false:=by rfl) :
  DS X (.Expr (.Call (.Attribute (.Name y p) "append" apos) [e] [] cpos) pos) (Cp i ta) :=
 PS.imp (eO (DD PySem.F.plainAttrs_list PySem.F.slot_list_append PySem.F.type_list_append lU (bA hN hv hd hcd) (aM he ci hs) hbase hfew hline hs hplain) hsw) λE σ H ⟨G,δ,P,R,s,h,k,_⟩=>by
  replace h:=qWL.ex h;obtain⟨a,al,ai,h⟩:=h;obtain⟨A0,x0⟩:=id s;obtain⟨h0,_,aj,ah,_⟩:=fN x0 ai;refine⟨.ref a,h0,.inl ⟨rfl,aj,GL.of ah⟩,up.mk s h λx δ1 h1 v H1 ⟨A,q⟩=>?_⟩;replace h1:=Bo.ex q h0 h1;obtain⟨ds,hi,hz,r⟩:=h1;obtain⟨_,aa,vs,ab,rs⟩:=fN q hi;refine⟨a,vs,v,rfl,rfl,ab,by rw[<- Reps.length _ _ rs];exact iM (IH hz),k _ r _ _ ⟨A,(q.change (d':=.lst (ds++[x])) hi (λb o n e=>by rw[aH n];exact e) ⟨vs++[v],aw,?_⟩).sub (P':=P) λq hq=>GP _ hq⟩⟩;have kp:Kp (λb=>G.M0 b\/A b) H1 (GE H1 a (.lst (vs++[v]))):=by
   have hk:∀b o,b≠a->H1 b=some o->GE H1 a (.lst (vs++[v])) b=some o:=λb o n e=>by rw[aH n];exact e
   exact⟨λb o e n=>hk b o (λz=>n (.inr (by rw[z];exact aa))) e,λb xs e=>hk b _ (λz=>by rw[z,ab] at e;cases e) e,λb o u e=>hk b _ (λz=>by rw[z,ab] at e;cases e) e⟩
  exact Reps.kp kp _ _ (Reps.append _ _ _ _ rs (Reps.one (q.pnd (x,v) (by simp))))
theorem a6(i:Nat){st:List Stmt}(h:DSs X st u):DSs X st (mU i u) :=
 PSs.imp h λE σ H ⟨G,δ,P,R,⟨A,x⟩,h,k⟩=>let ⟨a,d,e,h⟩:=qW.ex h;⟨G,_,P,R,⟨_,x.freeze e λz=>(x.new a (x.own i a d e).2.1).elim (λq=>x.m0 a z q) λq=>(x.pm a q).2 z⟩,h,k⟩
end
def dAt{α:Type}:Zb->List α->Str->Option α
 | k::ks,d::ds,x=>if k=x then some d else dAt ks ds x
 | _,_,_=>none
def mS{α:Type}:Zb->List α->Str->α->List α
 | k::ks,d::ds,x,y=>(if k=x then y else d)::mS ks ds x y
 | _,ds,_,_=>ds
def jj(ks:Zb)(x:Str):Zb:=if x∈ks then ks else ks++[x]
def ln{α:Type}(ks:Zb)(ds:List α)(x:Str)(y:α):List α:=if x∈ks then mS ks ds x y else ds++[y]
theorem qh:∀(ks:Zb) (ds:List α) (x:Str) (y:α),(mS ks ds x y).length=ds.length
 | [],ds,_,_=>by cases ds<;>rfl
 | k::ks,[],_,_=>rfl
 | k::ks,d::ds,x,y=>by unfold mS;rw[G0,G0,qh ks ds x y]
theorem AQ(h:ks.length=ds.length):(jj ks x).length=(ln ks ds x y).length:=by
 unfold jj ln
 by_cases e:x∈ks
 ·rw[Hc e,Hc e,qh];exact h
 ·rw[Ha e,Ha e,GV,GV,h];rfl
theorem wx(x:Str)(h:ks.length=vs.length):((bG ks vs).any λkv=>decide (kv.1=Sum.inr x))=decide (x∈ks):=by
 induction ks generalizing vs with
 | nil=>rfl
 | cons k ks ih =>
  cases vs with
  | nil=>cases h
  | cons v vs =>
   show ((Sum.inr k,v)::bG ks vs).any _=_
   rw[JR,ih (Jp h)]
   by_cases e:k=x
   ·subst e;simp
   ·have e2:¬ x=k:=λz=>e z.symm
    simp[e,e2]
theorem vB(x:Str)(y:V):(bG ks vs).map (λkv=>if kv.1=Sum.inr x then (kv.1,y) else kv)=bG ks (mS ks vs x y):=by
 induction ks generalizing vs with
 | nil=>rfl
 | cons k ks ih =>
  cases vs with
  | nil=>rfl
  | cons v vs =>
   show ((Sum.inr k,v)::bG ks vs).map _=(Sum.inr k,if k=x then y else v)::bG ks (mS ks vs x y)
   rw[Hs,ih]
   by_cases e:k=x
   ·subst e;simp
   ·have:¬ (Sum.inr k:Gg)=Sum.inr x:=λz=>e (Sum.inr.inj z)
    simp[e]
theorem zF(x:Str)(y:V)(h:ks.length=vs.length):o0 (bG ks vs) (Sum.inr x) y=bG (jj ks x) (ln ks vs x y):=by
 unfold o0;rw[wx x h];unfold jj ln
 by_cases e:x∈ks
 ·rw[HJ e,Hc rfl,Hc e,Hc e,vB]
 ·rw[HA e,Ha GW,Ha e,Ha e];unfold bG;rw[Hg,List.zip_append (by rw[GN];exact h)];rfl
theorem cV(x:Str):ou (bG ks vs) (Sum.inr x)=dAt ks vs x:=by
 induction ks generalizing vs with
 | nil=>rfl
 | cons k ks ih =>
  cases vs with
  | nil=>rfl
  | cons v vs =>
   show ou ((Sum.inr k,v)::bG ks vs) _=if k=x then some v else dAt ks vs x
   by_cases e:k=x
   ·subst e;rw[gN rfl,Hc rfl]
   ·rw[gX (λz=>e (Sum.inr.inj z)),Ha e,ih]
section
theorem Reps.rep{K:Zf}{M:Addr->Prop}{H:Hp}(r:GI K M H d v)(x:Str):∀(ks:Zb) (ds:Zi) (vs:Zg),Reps K M H ds vs->Reps K M H (mS ks ds x d) (mS ks vs x v)
 | [],ds,vs,h=>by
  have e1:mS [] ds x d=ds:=by cases ds<;>rfl
  have e2:mS [] vs x v=vs:=by cases vs<;>rfl
  rw[e1,e2];exact h
 | k::ks,[],vs,h=>by unfold Reps at h;subst h;exact Reps.nil
 | k::ks,e::ds,vs,h=>by
  unfold Reps at h;obtain⟨w,rs,rfl,q,s⟩:=h;show Reps K M H ((if k=x then d else e)::mS ks ds x d) ((if k=x then v else w)::mS ks rs x v);refine Reps.cons ?_ (Reps.rep r x ks ds rs s)
  by_cases z:k=x
  ·rw[Hc z,Hc z];exact r
  ·rw[Ha z,Ha z];exact q
theorem Reps.put{K:Zf}{M:Addr->Prop}{H:Hp}(x:Str)(h:Reps K M H ds vs)(r:GI K M H d v):Reps K M H (ln ks ds x d) (ln ks vs x v):=by
 unfold ln
 by_cases e:x∈ks
 ·rw[Hc e,Hc e];exact Reps.rep r x ks ds vs h
 ·rw[Ha e,Ha e];exact Reps.append _ _ _ _ h (Reps.one r)
theorem Reps.dAt{K:Zf}{M:Addr->Prop}{H:Hp}(x:Str):∀(ks:Zb) (ds:Zi) (vs:Zg),Reps K M H ds vs->(∀d,DL.dAt ks ds x=some d->∃v,DL.dAt ks vs x=some v/\GI K M H d v)/\(DL.dAt ks ds x=none->DL.dAt ks vs x=none)
 | [],ds,vs,h=>⟨λd e=>(nomatch e),λ_=>rfl⟩
 | k::ks,[],vs,h=>by unfold Reps at h;subst h;exact⟨λd e=>(nomatch e),λ_=>rfl⟩
 | k::ks,e::ds,vs,h=>by
  unfold Reps at h;obtain⟨w,rs,rfl,q,s⟩:=h;obtain⟨h1,h2⟩:=Reps.dAt x ks ds rs s;show (∀d,(if k=x then some e else DL.dAt ks ds x)=some d->∃v,(if k=x then some w else DL.dAt ks rs x)=some v/\_)/\((if k=x then some e else DL.dAt ks ds x)=none->(if k=x then some w else DL.dAt ks rs x)=none)
  by_cases z:k=x
  ·simp only[if_pos z];exact⟨λd e=>by cases e;exact⟨w,rfl,q⟩,λe=>(nomatch e)⟩
  ·simp only[if_neg z];exact⟨h1,h2⟩
theorem e8(h:ks.length=ds.length):(dAt ks ds x).isSome=decide (x∈ks):=by
 induction ks generalizing ds with
 | nil=>rfl
 | cons k ks ih =>
  cases ds with
  | nil=>cases h
  | cons v vs =>
   show (if k=x then some v else dAt ks vs x).isSome=_
   by_cases e:k=x
   ·subst e;simp
   ·have e2:¬ x=k:=λz=>e z.symm
    rw[Ha e,ih (Jp h)];simp[e2]
end
def vN:Zi->(D->Prop)->Prop
 | [.dct ks ds,.str x],R=>∃d,dAt ks ds x=some d/\R d
 | [.fd ks ds,.str x],R=>∃d,dAt ks ds x=some d/\R d
 | _,_=>False
theorem xl:∀ {d0:Zi} {R:D->Prop},vN d0 R->((∃(ks:Zb) (ds:Zi) (x:Str),d0=[.dct ks ds,.str x]/\∃d,dAt ks ds x=some d/\R d)\/(∃(ks:Zb) (ds:Zi) (x:Str),d0=[.fd ks ds,.str x]/\∃d,dAt ks ds x=some d/\R d)):=by walk_at "or"
theorem vJ:vN [.fd ks ds,.str x] R=(∃d,dAt ks ds x=some d/\R d):=rfl
theorem v4:vN [.dct ks ds,.str x] R=(∃d,dAt ks ds x=some d/\R d):=rfl
def fIn(g:Bool->Bool):Zi->(D->Prop)->Prop
 | [.str x,.dct ks _],R=>R (.bl (g (decide (x∈ks))))
 | [.str x,.lst ds],R=>∃ss:Zb,ds=ss.map D.str/\R (.bl (g (decide (x∈ss))))
 | _,_=>False
theorem yw(h:fIn g d0 R):(∃(x:Str) (ks:Zb) (z1:Zi),d0=[.str x,.dct ks z1]/\R (.bl (g (decide (x∈ks)))))\/(∃(x:Str) (ds:Zi),d0=[.str x,.lst ds]/\∃ss:Zb,ds=ss.map D.str/\R (.bl (g (decide (x∈ss))))):=by
 rcases d0 with _ | ⟨a,_ | ⟨b,_ | ⟨c,l⟩⟩⟩
 ·exact False.elim h
 ·cases a<;>exact False.elim h
 ·cases a<;>first | exact False.elim h | (cases b<;>first | exact False.elim h | exact .inl ⟨_,_,_,rfl,h⟩ | exact .inr ⟨_,_,rfl,h⟩)
 ·cases a<;>first | exact False.elim h | (cases b<;>exact False.elim h)
theorem yG:fIn g [.str x,.dct ks ds] R=(R (.bl (g (decide (x∈ks))))):=rfl
theorem yS:fIn g [.str x,.lst ds] R=(∃ss:Zb,ds=ss.map D.str/\R (.bl (g (decide (x∈ss))))):=rfl
theorem du{K:Zf}{M:Addr->Prop}{H:Hp}:∀ {ss:Zb} {vs:Zg},Reps K M H (ss.map D.str) vs->vs=ss.map V.str
 | [],vs,h=>by unfold Reps at h;exact h
 | s::ss,vs,h=>by
  rw[Hs] at h;unfold Reps at h;obtain⟨v,r,rfl,q,t⟩:=h;rw[bm q,du t];rfl
theorem b9{K:Zf}{M:Addr->Prop}{H:Hp}:∀(ss:Zb),Reps K M H (ss.map D.str) (ss.map V.str)
 | []=>Reps.nil
 | s::ss=>Reps.cons (by unfold GI;rfl) (b9 ss)
theorem cQ:∀ {ss:Zb} {us:Zc},bF (ss.map V.str) us->StrsAre us ss
 | [],_,r=>by rw[Jo] at r;cases r;exact .nil
 | s::ss,_,r=>by
  rw[Hs] at r
  cases r with
  | @cons _ u _ us h t =>
   obtain⟨t',e⟩:=(show ∃t,u=Value.str s t from h);subst e;exact .cons _ _ (cQ t)
theorem cj:∀ {ss:Zb} {us:Zc},StrsAre us ss->bF (ss.map V.str) us
 | _,_,.nil=>.nil
 | _,_,.cons _ _ h=>.cons ⟨_,rfl⟩ (cj h)
theorem kY(x:Str):∀ {us:Zc} {ss:Zb},StrsAre us ss->us.any (λy=>match y with | .str z _=>z==x | _=>false)=decide (x∈ss)
 | _,_,.nil=>rfl
 | _,_,.cons y t (vs:=us) (ys:=ss) h=>by
  rw[JR,kY x h]
  by_cases e:y=x
  ·subst e;simp
  ·have e2:¬ x=y:=λz=>e z.symm
   simp[e,e2]
theorem qU(h:StrsAre us ss):∀y∈us,∃z t,y=Value.str z t:=by
 induction h with
 | nil=>intro y hy;cases hy
 | cons z t h ih =>
  intro y hy
  rcases GY.mp hy with rfl | hy
  ·exact⟨z,t,rfl⟩
  ·exact ih y hy
section
theorem o_in(hu:X.A.units+64<cLine):GC X (compareOp .In) λx y=>aQ X.K (fIn id) [x,y]:=by
 intro pins s σ H x y v u Q I rx ry h;obtain⟨M,ds,R,m,rs,h,k⟩:=h;have aa:∀b s',Inv X pins σ H s'->R (.bl b)->EP X pins σ Q (.bool b) s':=λb s' I' r=>⟨.bl b,H,I',rfl,k _ r _ H (bH.refl H) (GI.sc rfl)⟩;replace h:=yw h
 rcases h with⟨_,_,_,rfl,h⟩ | ⟨x0,_,rfl,h⟩
 ·obtain⟨h1,h2⟩:=bP rs
  cases bm h1
  unfold GI at h2;obtain⟨a,vs,rfl,_,e,l,r⟩:=h2
  cases ry
  refine d_in (by omega) I (mQ.k (k:=Sum.inr _) e) rx λs' I'=>?_;rw[cV,e8 (by rw[l,Reps.length _ _ r])];exact aa _ _ I' h
 ·obtain⟨ss,rfl,h⟩:=h;obtain⟨h1,h2⟩:=bP rs
  cases bm h1
  unfold GI at h2;obtain⟨a,vs,rfl,_,e,r⟩:=h2
  cases ry
  cases du r
  obtain⟨t,rfl⟩:=rx;obtain⟨ab,rv,pl,_⟩:=I.list (GL.of e);have hs:=cQ rv;refine SeqAt.in_listAt (λy=>match y with | .str z _=>z==x0 | _=>false) pl.isList (λy hy=>?_) ?_
  ·obtain⟨z,t',rfl⟩:=qU hs y (by simpa using hy);exact SeqAt.EqAt.str_str z t' x0 t
  ·rw[List.any_toArray,kY x0 hs];exact aa _ _ I h
theorem jZ(hu:X.A.units+64<cLine):GC X (compareOp .NotIn) λx y=>aQ X.K (fIn Bool.not) [x,y]:=by
 intro pins s σ H x y v u Q I rx ry h;obtain⟨M,ds,R,m,rs,h,k⟩:=h;have aa:∀b s',Inv X pins σ H s'->R (.bl b)->EP X pins σ Q (.bool b) s':=λb s' I' r=>⟨.bl b,H,I',rfl,k _ r _ H (bH.refl H) (GI.sc rfl)⟩;replace h:=yw h
 rcases h with⟨_,_,_,rfl,h⟩ | ⟨x0,_,rfl,h⟩
 ·obtain⟨h1,h2⟩:=bP rs
  cases bm h1
  unfold GI at h2;obtain⟨a,vs,rfl,_,e,l,r⟩:=h2
  cases ry
  refine uV (by omega) I (mQ.k (k:=Sum.inr _) e) rx λs' I'=>?_;rw[cV,e8 (by rw[l,Reps.length _ _ r])];exact aa _ _ I' h
 ·obtain⟨ss,rfl,h⟩:=h;obtain⟨h1,h2⟩:=bP rs
  cases bm h1
  unfold GI at h2;obtain⟨a,vs,rfl,_,e,r⟩:=h2
  cases ry
  cases du r
  obtain⟨t,rfl⟩:=rx;obtain⟨ab,rv,pl,_⟩:=I.list (GL.of e);have hs:=cQ rv;refine SeqAt.notIn_listAt (λy=>match y with | .str z _=>z==x0 | _=>false) pl.isList (λy hy=>?_) ?_
  ·obtain⟨z,t',rfl⟩:=qU hs y (by simpa using hy);exact SeqAt.EqAt.str_str z t' x0 t
  ·rw[List.any_toArray,kY x0 hs];exact aa _ _ I h
def vp:Zi->(D->Prop)->Prop
 | [.int i,.int j],R=>R (.bl (!decide (i=j)))
 | [.str x,.str y],R=>R (.bl (!decide (x=y)))
 | [.bl a,.bl b],R=>R (.bl (!decide (a=b)))
 | [.tup xs,.tup ys],R=>(xs=ys/\D.nds xs=true/\D.dps xs<=60)/\R (.bl false)
 | [.lst xs,.lst ys],R=>(xs=ys/\D.nds xs=true/\D.dps xs<=60)/\R (.bl false)
 | _,_=>False
theorem AA:∀ {d0:Zi} {R:D->Prop},vp d0 R->((∃(i:Int) (j:Int),d0=[.int i,.int j]/\R (.bl (!decide (i=j))))\/(∃(x:Str) (y:Str),d0=[.str x,.str y]/\R (.bl (!decide (x=y))))\/(∃(a:Bool) (b:Bool),d0=[.bl a,.bl b]/\R (.bl (!decide (a=b))))\/(∃(xs:Zi) (ys:Zi),d0=[.tup xs,.tup ys]/\(xs=ys/\D.nds xs=true/\D.dps xs<=60)/\R (.bl false))\/(∃(xs:Zi) (ys:Zi),d0=[.lst xs,.lst ys]/\(xs=ys/\D.nds xs=true/\D.dps xs<=60)/\R (.bl false))):=by walk_at "or"
theorem wn:vp [.int i,.int j] R=(R (.bl (!decide (i=j)))):=rfl
theorem wF:vp [.str i,.str j] R=(R (.bl (!decide (i=j)))):=rfl
theorem Al:vp [.bl i,.bl j] R=(R (.bl (!decide (i=j)))):=rfl
theorem vK:vp [.tup xs,.tup ys] R=((xs=ys/\D.nds xs=true/\D.dps xs<=60)/\R (.bl false)):=rfl
theorem wu:vp [.lst xs,.lst ys] R=((xs=ys/\D.nds xs=true/\D.dps xs<=60)/\R (.bl false)):=rfl
theorem nB:∀ {l₁:List α} {l₂:List β} {j:Nat} {b:β},Paired F l₁ l₂->l₂[j]?=some b->∃a,l₁[j]?=some a/\F a b
 | _,_,_,_,.nil,e=>by simp at e
 | _,_,0,_,.cons h t,e=>by simp at e;subst e;exact⟨_,rfl,h⟩
 | _,_,j+1,_,.cons h t,e=>by
  obtain⟨a,q,f⟩:=nB (j:=j) t (by simpa using e);exact⟨a,by simpa using q,f⟩
theorem sE{j:Nat}(e:(bG ks vs)[j]?=some (k,v)):∃x,k=Sum.inr x/\ks[j]?=some x/\vs[j]?=some v:=by
 unfold bG at e;rw[List.getElem?_zip_eq_some] at e;obtain⟨e1,e2⟩:=e;rw[G6] at e1
 cases h:ks[j]? with
 | none=>rw[h] at e1;cases e1
 | some x=>rw[h] at e1;exact⟨x,(G4 e1).symm,rfl,e2⟩
theorem jk(hu:X.A.units+64<cLine):GC X (compareOp .NotEq) λx y=>aQ X.K vp [x,y]:=by
 intro pins s σ H x y v u Q I rx ry h;obtain⟨M,ds,R,m,rs,h,k⟩:=h;have al:∀b,R (.bl b)->EP X pins σ Q (.bool b) s:=λb r=>⟨.bl b,H,I,rfl,k _ r _ H (bH.refl H) (GI.sc rfl)⟩;replace h:=AA h
 rcases h with⟨_,_,rfl,h⟩ | ⟨_,_,rfl,h⟩ | ⟨_,_,rfl,h⟩ | ⟨_,_,rfl,h⟩ | ⟨_,_,rfl,h⟩
 ·exact o_ne hu pins s σ H x y v u Q I rx ry ⟨M,_,R,m,rs,h,k⟩
 ·exact o_ne hu pins s σ H x y v u Q I rx ry ⟨M,_,R,m,rs,h,k⟩
 ·exact o_ne hu pins s σ H x y v u Q I rx ry ⟨M,_,R,m,rs,h,k⟩
 ·obtain⟨⟨e,hn,hd⟩,h⟩:=h;subst e;obtain⟨h1,h2⟩:=bP rs;unfold GI at h1 h2;obtain⟨a,vs,rfl,sq,ai⟩:=h1;obtain⟨b,ws,rfl,aj,ah⟩:=h2
  cases rx
  cases ry
  obtain⟨ab,r1,t1,_⟩:=I.tuple sq;obtain⟨aa,r2,t2,_⟩:=I.tuple aj;have hs:ab.length=aa.length:=by rw[<- r1.length,<- r2.length,<- Reps.length _ _ ai,<- Reps.length _ _ ah]
  refine SeqAt.RcNeAt.tuples (e:=λ_=>true) t1 t2 (by omega) (eqAt_Ds I _ X.A.in1 vs ws ab aa hn (by rw[cz];omega) ai ah r1 r2) _ _ _ _ ?_;have z:((List.range (min ab.toArray.size aa.toArray.size)).all (λ_=>true)&&ab.toArray.size==aa.toArray.size)=true:=by simp[hs]
  rw[z];exact al _ h
 ·obtain⟨⟨e,hn,hd⟩,h⟩:=h;subst e;obtain⟨h1,h2⟩:=bP rs;unfold GI at h1 h2;obtain⟨a,vs,rfl,_,sq,ai⟩:=h1;obtain⟨b,ws,rfl,_,aj,ah⟩:=h2
  cases rx
  cases ry
  obtain⟨ab,r1,t1,_⟩:=I.list (GL.of sq);obtain⟨aa,r2,t2,_⟩:=I.list (GL.of aj);have hs:ab.length=aa.length:=by rw[<- r1.length,<- r2.length,<- Reps.length _ _ ai,<- Reps.length _ _ ah]
  refine SeqAt.RcNeAt.lists (e:=λ_=>true) t1.isList t2.isList (by simp[hs]) (by omega) (eqAt_Ds I _ X.A.in1 vs ws ab aa hn (by rw[cz];omega) ai ah r1 r2) _ _ _ _ ?_;rw[fF];exact al _ h
end
end DL
namespace DL
open PySem PySem.Spec PyProof.Rows L2
section
theorem fV(ho:s.heap.get? a=some (seqObj "list" vs.toArray n))(hS:StrsAre vs ss)(h64:vs.length<64)
  (h:∀(out:Array Value) (ss':Zb),StrsAre out.toList ss'->ss'.Perm ss->sortedS ss'=true->Q .none { s with heap:=sortedHeap s.heap a vs out }) :
  wpAny (model prog w) A (call (.builtin "list.sort") [.ref a]) Q E s:=by
 refine Ik slot_list_sort ⟨_,ho,rfl⟩ entry_list_sort (list_sort_treeK strKind_oneLt ho hS.keysOf (λv₁ v₂ cE e=>keyKind_strs (by rw[<- e];exact hS)) h64 λst' hp hs=>?_) (args_list_sort _);obtain⟨ss',h1,h2,h3⟩:=sorted_out_str hS hp hs;exact⟨_,rfl,h _ ss' h1 h2 h3⟩
end
abbrev Srt(ss:List Str):Prop:=sortedS ss=true
def jh:Zi->(D->Prop)->Prop
 | [.lst ds],R=>∃ss:Zb,ds=ss.map D.str/\ss.length<64/\∀ss',ss'.Perm ss->Srt ss'->R (.lst (ss'.map D.str))
 | [.dct ks _],R=>ks.length<64/\∀ss',ss'.Perm ks->Srt ss'->R (.lst (ss'.map D.str))
 | [.fd ks _],R=>ks.length<64/\∀ss',ss'.Perm ks->Srt ss'->R (.lst (ss'.map D.str))
 | _,_=>False
theorem rP:∀ {d0:Zi} {R:D->Prop},jh d0 R->((∃(ds:Zi),d0=[.lst ds]/\∃ss:Zb,ds=ss.map D.str/\ss.length<64/\∀ss',ss'.Perm ss->Srt ss'->R (.lst (ss'.map D.str)))\/(∃(ks:Zb) (z1:Zi),d0=[.dct ks z1]/\ks.length<64/\∀ss',ss'.Perm ks->Srt ss'->R (.lst (ss'.map D.str)))\/(∃(ks:Zb) (z1:Zi),d0=[.fd ks z1]/\ks.length<64/\∀ss',ss'.Perm ks->Srt ss'->R (.lst (ss'.map D.str)))):=by walk_at "or"
theorem ny:jh [.lst ds] R=(∃ss:Zb,ds=ss.map D.str/\ss.length<64/\∀ss',ss'.Perm ss->Srt ss'->R (.lst (ss'.map D.str))):=rfl
theorem rH:jh [.fd ks ds] R=(ks.length<64/\∀ss',ss'.Perm ks->Srt ss'->R (.lst (ss'.map D.str))):=rfl
theorem nD:jh [.dct ks ds] R=(ks.length<64/\∀ss',ss'.Perm ks->Srt ss'->R (.lst (ss'.map D.str))):=rfl
theorem iz:∀ {ks:Zb} {us:Zc},ks.length=us.length->(∀(j:Nat) v k,us[j]?=some v->ks[j]?=some k->(bf P w).is (Sum.inr k) v=true)->StrsAre us ks
 | [],[],_,_=>.nil
 | [],_::_,l,_=>by cases l
 | _::_,[],l,_=>by cases l
 | k::ks,u::us,l,h=>by
  have h0:=h 0 u k rfl rfl
  obtain⟨t,rfl⟩:∃t,u=Value.str k t:=by
   have:nc (Sum.inr k) u=true:=h0
   rcases aV this with⟨i,t,e,_⟩ | ⟨x,t,e,e2⟩
   ·cases e
   ·cases e;exact⟨t,e2⟩
  exact .cons _ _ (iz (Jp l) λj v k' e1 e2=>h (j+1) v k' (by simpa using e1) (by simpa using e2))
section
theorem pW(hc:X.calm=true):cq X (.builtin "sorted") (aQ X.K jh):=by
 intro pins s σ H xs us Q I rv h;obtain⟨M,ds,R,m,rs,h,k⟩:=h;replace h:=rP h
 rcases h with⟨_,rfl,h⟩ | ⟨_,_,rfl,h⟩ | ⟨_,_,rfl,h⟩
 ·obtain⟨ss,rfl,ao,h⟩:=h;obtain⟨x,rfl,q⟩:=bq rs;unfold GI at q;obtain⟨a,vs,rfl,_,e,r⟩:=q;obtain⟨u,rfl,ru⟩:=gH rv
  cases ru
  cases du r
  obtain⟨aj,an,pl,_⟩:=I.list (GL.of e);have hs:=cQ an;have hl:aj.length=ss.length:=by rw[<- an.length,GN]
  refine sorted_strs pl.isList hs (by omega) λout ss' h1 h2 h3=>?_;obtain⟨ep,he⟩:=sortedAll_at s.heap aj out;have hz:(ss'.map V.str).length<=sizeLine:=by rw[GN,h2.length_eq];exact dS (by omega)
  have I2:L2.Inv X pins σ (GE H (s.heap.objs.size+1) (.lst (ss'.map V.str))) { s with heap:=sortedAll s.heap aj out } :=
   I.laid (t':=s.toks) (λb o=>sortedAll_old) (Jr _) (show b6 X.prog X.w _ _ _ (.lst (ss'.map V.str)) from⟨hz,out.toList,ep,cj h1,he⟩)
  have fr:H (s.heap.objs.size+1)=none:=I.hok.fresh (Jr _)
  refine⟨.ref _,_,I2,rfl,k _ (h ss' h2 h3) _ _ (aF fr _) ?_⟩;unfold GI;exact⟨_,_,rfl,λz=>m _ z fr,aw,b9 ss'⟩
 ·obtain⟨ao,h⟩:=h
  rename_i ks ds
  obtain⟨x,rfl,q⟩:=bq rs;unfold GI at q;obtain⟨a,vs,rfl,_,e,l,r⟩:=q;obtain⟨u,rfl,ru⟩:=gH rv
  cases ru
  obtain⟨hz,lo,va,ra,da⟩:=zg I.hok e;obtain⟨ep,al⟩:=da.dictAt;have lv:=Reps.length _ _ r;have aa:va.length=ks.length:=by
   rw[<- ra.length];unfold bG;rw[IL,GN];omega
  refine JB kind_sorted plain_sorted entry_sorted (args_sorted1 _) ?_;unfold Builtin.«sorted»;refine GM (m:=checkCount "sorted" 1 1 _) (GQ ?_);refine GM (PySem.W.kdu_collect (A:=X.A.in1) (PySem.W.kdl_dict (knd:=bf X.prog X.w) (kvs:=va) (ep:=ep) lo) (I.ok.hd hc) al (by rw[aa];exact dS (by omega)) λh' tk acc hk hacc=>?_);have hl:acc.toList.length=ks.length:=by rw[HD,<- aa];exact hacc.1
  have hS:StrsAre acc.toList ks:=iz hl.symm λj v k' e1 e2=>by
   obtain⟨k2,x2,h1,h2⟩:=hacc.2 j v (by rw[<- Ij];exact e1);obtain⟨⟨k3,v3⟩,q1,z1,_⟩:=nB ra h1;obtain⟨x,rfl,kx,_⟩:=sE q1;simp only at z1;rw[kx] at e2
   cases e2
   rw[z1];exact h2
  refine GM (wpAny_newList ?_ (by rw[hl];exact dS (by omega)));have ab:(h'.push { cls:=.type "list",data:=.seq acc.toList.toArray }).get? h'.objs.size=some (seqObj "list" acc.toList.toArray 0):=G5 _ rfl;refine GM (Iz (fV ab hS (by omega) λout ss' h1 h2 h3=>?_));refine GQ ⟨_,rfl,?_⟩;obtain⟨ai,he⟩:=sortedHeap_at (out:=out) ab;have I1:L2.Inv X pins σ H { s with heap:=h',toks:=tk }:=I.kept (t':=tk) hk;have kp:∀b o,h'.get? b=some o->(sortedHeap (h'.push { cls:=.type "list",data:=.seq acc.toList.toArray }) h'.objs.size acc.toList out).get? b=some o:=λb o e=>by
   have hb:=G3 e
   rw[sortedHeap_old (Ho hb) (by rw[HN];exact IK hb)];exact GO _ e
  have ah:(ss'.map V.str).length<=sizeLine:=by rw[GN,h2.length_eq];exact dS (by omega)
  have I2:L2.Inv X pins σ (GE H h'.objs.size (.lst (ss'.map V.str))) { s with heap:=sortedHeap (h'.push { cls:=.type "list",data:=.seq acc.toList.toArray }) h'.objs.size acc.toList out,toks:=tk } :=
   I1.laid (t':=tk) kp (GU _) (show b6 X.prog X.w _ _ _ (.lst (ss'.map V.str)) from⟨ah,out.toList,ai,cj h1,he⟩)
  have fr:H h'.objs.size=none:=I1.hok.fresh (GU _)
  refine⟨.ref _,_,I2,rfl,k _ (h ss' h2 h3) _ _ (aF fr _) ?_⟩;unfold GI;exact⟨_,_,rfl,λz=>m _ z fr,aw,b9 ss'⟩
 ·obtain⟨ao,h⟩:=h
  rename_i ks ds
  obtain⟨x,rfl,q⟩:=bq rs;unfold GI at q;obtain⟨a,vs,o9,rfl,e,l,r⟩:=q;obtain⟨u,rfl,ru⟩:=gH rv
  cases ru
  obtain⟨hz,lo,va,ra,da⟩:=j8 I.hok (.inr ⟨o9,e⟩);obtain⟨ep,al⟩:=da.dictAt;have lv:=Reps.length _ _ r;have aa:va.length=ks.length:=by
   rw[<- ra.length];unfold bG;rw[IL,GN];omega
  refine JB kind_sorted plain_sorted entry_sorted (args_sorted1 _) ?_;unfold Builtin.«sorted»;refine GM (m:=checkCount "sorted" 1 1 _) (GQ ?_);refine GM (PySem.W.kdu_collect (A:=X.A.in1) (PySem.W.kdl_dict (knd:=bf X.prog X.w) (kvs:=va) (ep:=ep) lo) (I.ok.hd hc) al (by rw[aa];exact dS (by omega)) λh' tk acc hk hacc=>?_);have hl:acc.toList.length=ks.length:=by rw[HD,<- aa];exact hacc.1
  have hS:StrsAre acc.toList ks:=iz hl.symm λj v k' e1 e2=>by
   obtain⟨k2,x2,h1,h2⟩:=hacc.2 j v (by rw[<- Ij];exact e1);obtain⟨⟨k3,v3⟩,q1,z1,_⟩:=nB ra h1;obtain⟨x,rfl,kx,_⟩:=sE q1;simp only at z1;rw[kx] at e2
   cases e2
   rw[z1];exact h2
  refine GM (wpAny_newList ?_ (by rw[hl];exact dS (by omega)));have ab:(h'.push { cls:=.type "list",data:=.seq acc.toList.toArray }).get? h'.objs.size=some (seqObj "list" acc.toList.toArray 0):=G5 _ rfl;refine GM (Iz (fV ab hS (by omega) λout ss' h1 h2 h3=>?_));refine GQ ⟨_,rfl,?_⟩;obtain⟨ai,he⟩:=sortedHeap_at (out:=out) ab;have I1:L2.Inv X pins σ H { s with heap:=h',toks:=tk }:=I.kept (t':=tk) hk;have kp:∀b o,h'.get? b=some o->(sortedHeap (h'.push { cls:=.type "list",data:=.seq acc.toList.toArray }) h'.objs.size acc.toList out).get? b=some o:=λb o e=>by
   have hb:=G3 e
   rw[sortedHeap_old (Ho hb) (by rw[HN];exact IK hb)];exact GO _ e
  have ah:(ss'.map V.str).length<=sizeLine:=by rw[GN,h2.length_eq];exact dS (by omega)
  have I2:L2.Inv X pins σ (GE H h'.objs.size (.lst (ss'.map V.str))) { s with heap:=sortedHeap (h'.push { cls:=.type "list",data:=.seq acc.toList.toArray }) h'.objs.size acc.toList out,toks:=tk } :=
   I1.laid (t':=tk) kp (GU _) (show b6 X.prog X.w _ _ _ (.lst (ss'.map V.str)) from⟨ah,out.toList,ai,cj h1,he⟩)
  have fr:H h'.objs.size=none:=I1.hok.fresh (GU _)
  refine⟨.ref _,_,I2,rfl,k _ (h ss' h2 h3) _ _ (aF fr _) ?_⟩;unfold GI;exact⟨_,_,rfl,λz=>m _ z fr,aw,b9 ss'⟩
def qx:Zi->(D->Prop)->Prop
 | [.lst xs],R=>R (.tup xs)
 | [.fz xs],R=>R (.tup xs)
 | [.tup xs],R=>R (.tup xs)
 | _,_=>False
theorem sG:∀ {d0:Zi} {R:D->Prop},qx d0 R->((∃(xs:Zi),d0=[.lst xs]/\R (.tup xs))\/(∃(xs:Zi),d0=[.fz xs]/\R (.tup xs))\/(∃(xs:Zi),d0=[.tup xs]/\R (.tup xs))):=by walk_at "or"
theorem rR:qx [.lst xs] R=(R (.tup xs)):=rfl
theorem rZ:qx [.tup xs] R=(R (.tup xs)):=rfl
theorem jf:cq X (.type "tuple") (aQ X.K qx) :=
 cq.imp fu λxs H Q ⟨M,ds,R,m,rs,h,k⟩=>by
  replace h:=sG h
  rcases h with⟨_,rfl,h⟩ | ⟨_,rfl,h⟩ | ⟨_,rfl,h⟩
  ·obtain⟨x,rfl,q⟩:=bq rs;unfold GI at q;obtain⟨a,vs,rfl,_,e,r⟩:=q;refine⟨a,vs,rfl,.inl ⟨GL.of e,λl hl=>k _ h _ _ (aF hl _) ?_⟩⟩;unfold GI;exact⟨l,vs,rfl,GA.of aw,Reps.kp (Kp.of_same (aF hl _)) _ _ r⟩
  ·obtain⟨x,rfl,q⟩:=bq rs;unfold GI at q;obtain⟨a,vs,rfl,e,r⟩:=q;refine⟨a,vs,rfl,.inl ⟨e.seq,λl hl=>k _ h _ _ (aF hl _) ?_⟩⟩;unfold GI;exact⟨l,vs,rfl,GA.of aw,Reps.kp (Kp.of_same (aF hl _)) _ _ r⟩
  ·obtain⟨x,rfl,q⟩:=bq rs;have q0:=q;unfold GI at q;obtain⟨a,vs,rfl,e,r⟩:=q;exact⟨a,vs,rfl,.inr ⟨e,k _ h _ _ (bH.refl H) q0⟩⟩
theorem eX:DE X (.Dict [] [] pos) (dC (.dct [] [])) :=
 PE.imp qJ λσ H Q ⟨G,δ,P,R,⟨A,x⟩,r,k,_⟩=>λp hp=>by
  refine k _ δ r (.ref p) _ ⟨A,(x.same (aF hp (.dK []))).push ?_⟩;unfold GI;exact⟨p,[],rfl,λz=>x.mem p z hp,aw,rfl,Reps.nil⟩
variable {a b e:Expr} {ta tb:GH} {pos:Pos}
theorem fK(hu:X.A.units+64<cLine)(ha:DE X a ta)(hb:DE X b tb)(hs:NoSl b):DE X (.Subscript a b pos) (dOp vN ta tb) :=
 PE.imp (AL (by omega) ha hb hs) λσ H Q ⟨G,δ,P,R,s,h,k,_⟩=>up.mk s h λx δ1 h1 v H1 s1=>up.mk s1 h1 λy δ2 h2 u H2 s2=>by
  replace h2:=xl h2
  rcases h2 with⟨ks,ds,z,eq,h2⟩ | ⟨ks,ds,z,eq,h2⟩
  ·skip
   cases eq
   obtain⟨d,ed,r⟩:=h2;obtain⟨A,q⟩:=id s2;have p1:=q.pnd (.dct ks ds,v) (by simp);have p2:u=.str z:=bm (q.pnd (.str z,u) (by simp));unfold GI at p1;obtain⟨a,vs,rfl,_,he,l,rs⟩:=p1;obtain⟨w',hw,aa⟩:=(Reps.dAt z ks ds vs rs).1 d ed;refine⟨a,w',rfl,?_,k d δ2 r w' H2 ⟨A,(q.sub (P':=P) λp hp=>by simp[hp]).push aa⟩⟩;have g:=mQ.k (k:=Sum.inr z) he;rw[cV,hw] at g;rw[p2];exact g
  ·skip
   cases eq
   obtain⟨d,ed,r⟩:=h2;obtain⟨A,q⟩:=id s2;have p1:=q.pnd (.fd ks ds,v) (by simp);have p2:u=.str z:=bm (q.pnd (.str z,u) (by simp));unfold GI at p1;obtain⟨a,vs,o,rfl,he,l,rs⟩:=p1;obtain⟨w',hw,aa⟩:=(Reps.dAt z ks ds vs rs).1 d ed;refine⟨a,w',rfl,?_,k d δ2 r w' H2 ⟨A,(q.sub (P':=P) λp hp=>by simp[hp]).push aa⟩⟩;have g:mQ H2 a (kV (Sum.inr z)) (ou (bG ks vs) (Sum.inr z)):=.inl ⟨_,_,.inr ⟨o,he⟩,rfl,rfl⟩;rw[cV,hw] at g;rw[p2];exact g
def CF(i:Nat)(tv tk:GH)(R:aP)(δ:En):Prop:=tv δ (wd λx δ1=>qW δ1[i]? λa _=>tk δ1 (wd λz δ2=>AX δ2[i]? λks ds=>qX z λy=>ks.length<9000/\lq δ2 i (.own a (.dct (jj ks y) (ln ks ds y x))) R.nx))
theorem fR(i:Nat)(hu:X.A.units+64<cLine)(he:DE X e ta)(hb:DE X b tb)(hN:X.N[i]?=some y:=by rfl)(hv:Vis X.env.scope y:=by walk_at "v3")
  (hd:(y==("__debug__":Str))=false:=by decide) (hcd:(y==("__classdict__":Str))=false:=by decide) (hs:swapsWith e (some (.Subscript (.Name y p) b pos')) pos.line X.env=pure false:=by rfl) :
  DS X (.Assign [.Subscript (.Name y p) b pos'] e pos) (CF i ta tb) :=
 PS.imp (AY (by omega) (bA hN hv hd hcd) hb he hs) λE σ H ⟨G,δ,P,R,s,h,k,_⟩=>up.mk s h λx δ1 h1 v H1 s1=>let ⟨a,ds0,hi0,h1⟩:=qW.ex h1;⟨.ref a,s1.own hi0,up.mk s1 h1 λz δ2 h2 u H2 ⟨A,q⟩=>by
  replace h2:=AX.ex q (s1.own hi0) h2;obtain⟨ks,ds,hi,h2⟩:=h2;replace h2:=qX.ex h2;obtain⟨y,ez,hz,r⟩:=h2;subst ez;obtain⟨_,aa,vs,ab,l,rs⟩:=q.own i a _ hi;have lv:=Reps.length _ _ rs;have p2:u=.str y:=bm (q.pnd (.str y,u) (by simp));have ah:(bG ks vs).length<sizeLine:=by
   unfold bG;rw[IL,GN];exact iM (by omega)
  have g:=AS.k (k:=Sum.inr y) (v:=v) ab ah
  rw[zF y v (by omega)] at g;refine⟨a,_,rfl,by rw[p2];exact g,k _ r _ _ ⟨A,(q.change (d':=.dct (jj ks y) (ln ks ds y x)) hi (λb o n e=>by rw[aH n];exact e) ⟨ln ks vs y v,aw,AQ l,?_⟩).sub (P':=P) λq hq=>GP _ (GP _ hq)⟩⟩;have kp:Kp (λb=>G.M0 b\/A b) H2 (GE H2 a (.dK (bG (jj ks y) (ln ks vs y v)))):=by
   have hk:∀b o,b≠a->H2 b=some o->GE H2 a (.dK (bG (jj ks y) (ln ks vs y v))) b=some o:=λb o n e=>by rw[aH n];exact e
   exact⟨λb o e n=>hk b o (λz=>n (.inr (by rw[z];exact aa))) e,λb xs e=>hk b _ (λz=>by rw[z,ab] at e;cases e) e,λb o u e=>hk b _ (λz=>by rw[z,ab] at e;cases e) e⟩
  exact Reps.kp kp _ _ (Reps.put y rs (q.pnd (x,v) (by simp)))⟩
def Co(R:aP)(δ:En):Prop:=R.rt .non δ
theorem Ap:DS X (.Return none pos) Co:=PS.imp zW λE σ H ⟨G,δ,P,R,s,h,_,k,_⟩=>k.1 .non δ h .non σ H (s.sc rfl)
end
end DL
namespace DL
open PySem PySem.Spec PyProof.Rows L2
section
end
section
def CW(n:Nat)(t:BD)(d:D)(δ:En)(R:En->Prop):Prop:=qL d λxs=>vx xs n (t xs δ R)
end
structure GInt(mg:Str->Zd)(x:Str)(i:Int):Prop where
 ex:∃t,mg x=some (.int i t)
structure GTab(K:Zf)(mg:Str->Zd)(x:Str)(D:List (Str×Str)):Prop where
 ex:∃a,mg x=some (.ref a)/\KTD.tabLook (KTD.datLooks λb=>K.lookup b) (λb=>K.lookup b) a (txt D)=true
theorem xZ(k:Str):∀D:List (Str×Str),KTD.datumAt k (txt D)=(KTD.datumAt k D).map λv=>KTD.Dat.flat (.str v)
 | []=>rfl
 | (x,d)::D=>by
  show (if decide (k=x)=true then some (KTD.Dat.flat (.str d)) else KTD.datumAt k (txt D))=(if decide (k=x)=true then some d else KTD.datumAt k D).map _
  rw[xZ k D]
  by_cases h:decide (k=x)=true
  ·rw[Hc h,Hc h];rfl
  ·rw[Ha h,Ha h]
theorem qO:∀(D:List (Str×Str)),(∀v,KTD.datumAt k D=some v->∀t,P (.str v t))->KTD.EachL h k P (txt D)
 | [],_=>trivial
 | (x,d)::D,hq=>by
  show KTD.EachL h k P ((x,KTD.Dat.flat (.str d))::txt D)
  by_cases e:k=x
  ·exact KTD.eachL_hit e (KTD.opened_str λt=>hq d (by show (if decide (k=x)=true then some d else _)=_;rw[Hc (HJ e)]) t)
  ·exact KTD.eachL_miss e (qO D λv hv=>hq v (by show (if decide (k=x)=true then some d else _)=_;rw[Ha (by simp[e])];exact hv))
section
theorem vj(hg:Gl X x)(h:GInt X.mg x i)(hd:(x==("__debug__":Str))=false:=by decide):DE X (.Name x pos) (dC (.int i)):=by
 obtain⟨t,e⟩:=h.ex;exact de_c (iP (v:=.int i) hg e ⟨t,rfl⟩ hd) rfl
def Dt(D:List (Str×Str))(ty:TE):TE:=λσ H Q=>ty σ H λy H1=>∃k v,y=.str k/\KTD.datumAt k D=some v/\Q (.str v) H1
theorem Bf{X:Cx}{D:List (Str×Str)}(hg:Gl X x)(T:GTab X.K X.mg x D)(hb:PE X b ty)(hs:NoSl b)(hd:(x==("__debug__":Str))=false:=by decide):PE X (.Subscript (.Name x p) b pos) (Dt D ty):=by
 obtain⟨a,hm,hl⟩:=T.ex;intro pins s σ H Q I h;refine Subscript_ (Gj (iP (v:=.ref a) hg hm rfl hd pins s σ H (λy0 H0=>y0=.ref a/\Dt D ty σ H0 Q) I ⟨rfl,h⟩) λu s1 ⟨y0,H0,I0,r0,e0,q0⟩=>?_);subst e0
 cases r0
 refine Gj (hb pins s1 σ H0 _ I0 q0) λiv s2 ⟨y,H1,I1,ry,k,v,ey,ev,q⟩=>?_;subst ey;obtain⟨t,rfl⟩:=ry;have T2:KTD.TextTab s2.heap a (txt D):=PySem.W.kt_text_in I1.kIn hl;refine KTD.item_text (h₀:=s2.heap) (D:=txt D) ⟨T2,λ_ _ e=>e⟩ ?_ (qO D λv' hv t'=>?_) (hs _ _)
 ·rw[<- KTD.isSome_datumAt,xZ,ev];rfl
 ·rw[ev] at hv
  cases hv
  exact⟨.str v,H1,I1.tok _,⟨t',rfl⟩,q⟩
def Cn(D:List (Str×Str))(t:GH)(δ:En)(R:W->En->Prop):Prop:=t δ (wd λz δ1=>qX z λk=>∃v,KTD.datumAt k D=some v/\R (.d (.str v)) δ1)
theorem ux{X:Cx}{D:List (Str×Str)}(hg:Gl X x)(T:GTab X.K X.mg x D)(hb:DE X b tb)(hs:NoSl b)(hd:(x==("__debug__":Str))=false:=by decide):DE X (.Subscript (.Name x p) b pos) (Cn D tb) :=
 PE.imp (Bf hg T hb hs hd) λσ H Q ⟨G,δ,P,R,s,h,k,_⟩=>up.mk s h λz δ1 h1 u H1 s1=>by
  replace h1:=qX.ex h1;obtain⟨y,ez,h1⟩:=h1;obtain⟨v,ev,r⟩:=h1;subst ez;obtain⟨A,q⟩:=id s1;exact⟨y,v,bm (q.pnd (.str y,u) (by simp)),ev,k _ δ1 r _ H1 ((s1.sub (P':=P) λp hp=>by simp[hp]).sc rfl)⟩
end
def fMax:Zi->(D->Prop)->Prop
 | [.int i,.int j],R=>R (.int (max i j))
 | [.lst ds],R=>∃ns:Ze,ds=ns.map D.int/\0<ns.length/\∀M∈ns,(∀a∈ns,a<=M)->R (.int M)
 | _,_=>False
theorem Bi:∀ {d0:Zi} {R:D->Prop},fMax d0 R->((∃(i:Int) (j:Int),d0=[.int i,.int j]/\R (.int (max i j)))\/(∃(ds:Zi),d0=[.lst ds]/\∃ns:Ze,ds=ns.map D.int/\0<ns.length/\∀M∈ns,(∀a∈ns,a<=M)->R (.int M))):=by walk_at "or"
theorem wX:fMax [.int i,.int j] R=(R (.int (max i j))):=rfl
theorem xp:fMax [.lst ds] R=(∃ns:Ze,ds=ns.map D.int/\0<ns.length/\∀M∈ns,(∀a∈ns,a<=M)->R (.int M)):=rfl
theorem iR{K:Zf}{M:Addr->Prop}{H:Hp}:∀ {ns:Ze} {vs:Zg},Reps K M H (ns.map D.int) vs->vs=ns.map V.int
 | [],vs,h=>by unfold Reps at h;exact h
 | s::ss,vs,h=>by
  rw[Hs] at h;unfold Reps at h;obtain⟨v,r,rfl,q,t⟩:=h;rw[aR q,iR t];rfl
theorem intsAre_of:∀ {ns:Ze} {us:Zc},bF (ns.map V.int) us->IntsAre us ns
 | [],_,r=>by rw[Jo] at r;cases r;exact .nil
 | n::ns,_,r=>by
  rw[Hs] at r
  cases r with
  | @cons _ u _ us h t =>
   obtain⟨t',e⟩:=(show ∃t,u=Value.int n t from h);subst e;exact .cons _ _ (intsAre_of t)
theorem DC(hc:X.calm=true):cq X (.builtin "max") (aQ X.K fMax):=by
 intro pins s σ H xs us Q I rv h;obtain⟨M,ds,R,m,rs,h,k⟩:=h;replace h:=Bi h
 rcases h with⟨i,j,rfl,h⟩ | ⟨_,rfl,h⟩
 ·skip
  refine tR hc pins s σ H xs us Q I rv ?_;obtain⟨x,y,rfl,h1,h2⟩:=kZ rs;refine⟨i,j,by rw[aR h1,aR h2],k _ h _ H (bH.refl H) ?_⟩;unfold GI
  congr 1
  by_cases z:j>i
  ·rw[Hc z];omega
  ·rw[Ha z];omega
 ·obtain⟨ns,rfl,ai,h⟩:=h;obtain⟨x,rfl,q⟩:=bq rs;unfold GI at q;obtain⟨a,vs,rfl,_,e,r⟩:=q;obtain⟨u,rfl,ru⟩:=gH rv
  cases ru
  cases iR r
  obtain⟨aj,ab,pl,_⟩:=I.list (GL.of e);have hi:=intsAre_of ab;obtain⟨ys,ey⟩:=hi.allInts.items;have hn:ys.toList.map (·.1)=ns:=by
   have e1:=nums_intItems ys
   rw[<- ey] at e1;exact e1.symm.trans hi.numsOf
  have hz:ys.size=ns.length:=by rw[<- hn,GN,HD]
  have hl:=pl.isList
  rw[ey] at hl;refine max_intList (I.ok.hd hc) hl (by omega) λv h' tk hv hk=>?_;obtain⟨t,rfl⟩:=intItems_at hv;obtain⟨h1,h2⟩:=argBest_gt (numAt ys) (ys.size-1);refine⟨.int _,H,I.kept (t':=tk) hk,⟨t,rfl⟩,k _ (h _ ?_ λb hb=>?_) _ H (bH.refl H) (GI.sc rfl)⟩
  ·rw[numAt_eq,hn];have aa:argBest (λi j=>decide (numAt ys i>numAt ys j)) (ys.size-1)<ns.length:=by omega
   rw[HY,Hl aa];exact JF aa
  ·obtain⟨j,hj,ej⟩:=List.getElem_of_mem hb;have:=h2 j (by omega);rw[numAt_eq ys j,hn] at this;have ah:ns.getD j 0=b:=by rw[HY,Hl hj];exact ej
   rw[ah] at this;exact this
end DL
namespace Mf
def gc(a b:Int):Int:=(Int.gcd a b:Nat)
theorem Bp(a b:Int):gc b (a.fmod b)=gc a b:=by
 unfold gc;rw[Int.fmod_def,Int.gcd_sub_mul_left_right,Int.gcd_comm]
theorem jl(a b:Int)(hb:b≠0):(a.fmod b).natAbs<b.natAbs:=by
 rcases Int.lt_or_gt_of_ne hb with h | h
 ·have e:a.fmod b=-((-a).fmod (-b)):=by
   have h1:(-a).fdiv (-b)=a.fdiv b:=Int.neg_fdiv_neg a b
   rw[Int.fmod_def,Int.fmod_def,h1,Int.neg_mul];omega
  have h1:=Jg (-a) (b:=-b) (by omega)
  have h2:=JS (-a) (b:=-b) (by omega)
  rw[e];omega
 ·have h1:=Jg a h
  have h2:=JS a h
  omega
theorem yX(a:Int):gc a 0=if a<0 then -a else a:=by
 unfold gc;rw[Int.gcd_zero_right]
 split<;>omega
theorem tj(a b:Int):0<=gc a b:=by unfold gc;omega
theorem yc(a:Int)(h:b≠0):0<gc a b:=by
 unfold gc;have:=Int.gcd_pos_of_ne_zero_right a h;omega
theorem eI(a b:Int):gc a b ∣ a:=Int.gcd_dvd_left a b
theorem dw(a b:Int):gc a b ∣ b:=Int.gcd_dvd_right a b
structure Gs(p q:Int):Prop where
 pos:0<q
 cop:gc p q=1
theorem Gs.cop'(h:Gs p q):Int.gcd p q=1:=by have:=h.cop;unfold gc at this;omega
theorem Gs.ne(h:Gs p q):q≠0:=by have:=h.pos;omega
theorem Gs.uniq(h:Gs p q)(h':Gs p' q')(e:p*q'=p'*q):p=p'/\q=q':=by
 have d1:q ∣ q':=by
  have:q ∣ p*q':=⟨p',by rw[e,Im]⟩
  have g:Int.gcd q p=1:=by rw[Int.gcd_comm];exact h.cop'
  have k:=(Int.dvd_gcd_mul_iff_dvd_mul (k:=q) (n:=p) (m:=q')).mpr this
  rw[g] at k;simpa using k
 have d2:q' ∣ q:=by
  have:q' ∣ p'*q:=⟨p,by rw[<- e,Im]⟩
  have g:Int.gcd q' p'=1:=by rw[Int.gcd_comm];exact h'.cop'
  have k:=(Int.dvd_gcd_mul_iff_dvd_mul (k:=q') (n:=p') (m:=q)).mpr this
  rw[g] at k;simpa using k
 have eq:q=q':=by
  have a1:=Int.le_of_dvd h'.pos d1
  have a2:=Int.le_of_dvd h.pos d2
  omega
 subst eq;exact⟨Int.eq_of_mul_eq_mul_right h.ne e,rfl⟩
def dv(t b:Int):Int:=if b<0 then -(gc t b) else gc t b
def GJ(t b:Int):Int:=t.fdiv (dv t b)
def Gz(t b:Int):Int:=b.fdiv (dv t b)
theorem BM(t:Int)(h:b≠0):dv t b≠0:=by
 have:=yc t h
 unfold dv
 split<;>omega
theorem nE(t b:Int):dv t b ∣ t:=by
 unfold dv
 split
 ·exact(Int.neg_dvd).mpr (eI t b)
 ·exact eI t b
theorem lX(t b:Int):dv t b ∣ b:=by
 unfold dv
 split
 ·exact(Int.neg_dvd).mpr (dw t b)
 ·exact dw t b
theorem uE(t b:Int):GJ t b*dv t b=t:=Jb (nE t b)
theorem uI(t b:Int):Gz t b*dv t b=b:=Jb (lX t b)
theorem lK(t b:Int):(dv t b).natAbs=Int.gcd t b:=by
 unfold dv gc
 split<;>omega
theorem dX(t:Int)(h:b≠0):Gs (GJ t b) (Gz t b):=by
 have e1:=uE t b
 have e2:=uI t b
 have hd:=BM t h
 constructor
 ·unfold dv at e2 hd;have gp:=yc t h
  by_cases hb:b<0
  ·rw[Hc hb] at e2;have:Gz t b*gc t b=-b:=by rw[Int.mul_neg] at e2;omega
   exact Int.pos_of_mul_pos_left (by omega) gp |> λz=>z
  ·rw[Ha hb] at e2;exact Int.pos_of_mul_pos_left (by omega) gp |> λz=>z
 ·have g:Int.gcd (GJ t b*dv t b) (Gz t b*dv t b)=Int.gcd (GJ t b) (Gz t b)*(dv t b).natAbs:=Int.gcd_mul_right _ _ _
  rw[e1,e2,lK] at g;have gp:=Int.gcd_pos_of_ne_zero_right t h;unfold gc;have:Int.gcd (GJ t b) (Gz t b)=1:=by
   have g2:1*Int.gcd t b=Int.gcd (GJ t b) (Gz t b)*Int.gcd t b:=by rw[Nat.one_mul];exact g
   exact(Nat.eq_of_mul_eq_mul_right gp g2).symm
  omega
theorem qr(t b:Int):GJ t b*b=t*Gz t b:=by
 have e1:=uE t b
 have e2:=uI t b
 calc GJ t b*b=GJ t b*(Gz t b*dv t b):=by rw[e2]
  _=(GJ t b*dv t b)*Gz t b:=by rw[Iu,Im (Gz t b)]
  _=t*Gz t b:=by rw[e1]
theorem A7(hb:b≠0)(h:Gs p q)(e:p*b=t*q):GJ t b=p/\Gz t b=q:=by
 refine(dX t hb).uniq h ?_;have c:=qr t b;refine Int.eq_of_mul_eq_mul_right hb ?_
 calc GJ t b*q*b=GJ t b*b*q:=by rw[Iu,Im q,<- Iu]
  _=t*Gz t b*q:=by rw[c]
  _=(t*q)*Gz t b:=by rw[Iu,Im (Gz t b),<- Iu]
  _=p*b*Gz t b:=by rw[e]
  _=p*Gz t b*b:=by rw[Iu,Im b,<- Iu]
theorem Gs.self(h:Gs p q):GJ p q=p/\Gz p q=q:=A7 h.ne h rfl
open PySem L2 DL
def bot(q:Str->Int):Zb->Int
 | []=>1
 | n::r=>q n*bot q r
theorem jT(q:Str->Int)(l r:Zb):bot q (l++r)=bot q l*bot q r:=by
 induction l with
 | nil=>show bot q r=1*bot q r;rw[Int.one_mul]
 | cons x l ih=>show q x*bot q (l++r)=q x*bot q l*bot q r;rw[ih,Iu]
theorem uL(q:Str->Int)(n:Str):bot q [n]=q n:=by show q n*1=q n;rw[Int.mul_one]
theorem eD:∀ {l:Zb},(∀n∈l,0<q n)->0<bot q l
 | [],_=>(by decide:(0:Int)<1)
 | n::r,h=>Int.mul_pos (h n (GT ..)) (eD λm hm=>h m (GP _ hm))
theorem i6:∀ {l:Zb} {n:Str},n∈l->q n ∣ bot q l
 | x::r,n,h=>by
  rcases GY.mp h with rfl | h
  ·exact Int.dvd_mul_right _ _
  ·exact Int.dvd_trans (i6 h) (Int.dvd_mul_left _ _)
theorem wC(h:l.Perm r):bot q l=bot q r:=by
 induction h with
 | nil=>rfl
 | cons x _ ih=>show q x*_=q x*_;rw[ih]
 | swap x y l=>show q y*(q x*bot q l)=q x*(q y*bot q l);rw[<- Iu,<- Iu,Im (q y)]
 | trans _ _ h1 h2=>rw[h1,h2]
def fE(f:Str->Int):List (Str×Int)->Int
 | []=>0
 | t::r=>t.2*f t.1+fE f r
theorem mV(f:Str->Int)(l r:List (Str×Int)):fE f (l++r)=fE f l+fE f r:=by
 induction l with
 | nil=>show fE f r=0+fE f r;rw[Jq]
 | cons x l ih=>show x.2*f x.1+fE f (l++r)=x.2*f x.1+fE f l+fE f r;rw[ih,Int.add_assoc]
theorem wH(f:Str->Int)(t:Str×Int):fE f [t]=t.2*f t.1:=by show t.2*f t.1+0=_;rw[JL]
theorem jF:∀ {l:List (Str×Int)},(∀t∈l,f t.1=g t.1)->fE f l=fE g l
 | [],_=>rfl
 | t::r,h=>by show t.2*f t.1+_=t.2*g t.1+_;rw[h t (GT ..),jF λu hu=>h u (GP _ hu)]
theorem kP(f:Str->Int)(k:Int):∀l:List (Str×Int),k*fE f l=fE (λn=>k*f n) l
 | []=>Int.mul_zero k
 | t::r=>by
  show k*(t.2*f t.1+fE f r)=t.2*(k*f t.1)+_
  rw[Int.mul_add,kP f k r,Ie]
def BG(ts:List (Str×Int)):List (Str×Int):=ts.map λt=>(t.1,-t.2)
def ov(p q:Str->Int)(B:Int)(n:Str):Int:=p n*B.fdiv (q n)
theorem xz(h0:q n≠0)(h:q n ∣ B)(h':q n ∣ C):C*ov p q B n=B*ov p q C n:=by
 obtain⟨x,rfl⟩:=h;obtain⟨y,rfl⟩:=h';unfold ov;rw[JM _ h0,JM _ h0];rw[Ie,Ie (q n*x),Iu,Iu,Im y x]
theorem uB(h:∀t∈ts,q t.1≠0/\q t.1 ∣ B/\q t.1 ∣ C):C*fE (ov p q B) ts=B*fE (ov p q C) ts:=by
 rw[kP,kP];exact jF λt ht=>xz (h t ht).1 (h t ht).2.1 (h t ht).2.2
theorem xB{a b B C s t:Int}(hB:0<B)(hC:0<C)(e:C*s=B*t):(b*B<=s↔b*C<=t):=by
 constructor
 ·intro h;have h1:=Int.mul_le_mul_of_nonneg_left h (JN hC);rw[e] at h1;have h2:B*(b*C)<=B*t:=by rw[Ie B,Im B C,Ie b];exact h1
  exact Int.le_of_mul_le_mul_left h2 hB
 ·intro h;have h1:=Int.mul_le_mul_of_nonneg_left h (JN hB);rw[<- e] at h1;have h2:C*(b*B)<=C*s:=by rw[Ie C,Im C B,Ie b];exact h1
  exact Int.le_of_mul_le_mul_left h2 hC
theorem xn{b B C s t:Int}(hB:0<B)(hC:0<C)(e:C*s=B*t):(b*B<s↔b*C<t):=by
 constructor
 ·intro h;have h1:=Int.mul_lt_mul_of_pos_left h hC;rw[e] at h1;have h2:B*(b*C)<B*t:=by rw[Ie B,Im B C,Ie b];exact h1
  exact Int.lt_of_mul_lt_mul_left h2 (JN hB)
 ·intro h;have h1:=Int.mul_lt_mul_of_pos_left h hB;rw[<- e] at h1;have h2:C*(b*B)<C*s:=by rw[Ie C,Im C B,Ie b];exact h1
  exact Int.lt_of_mul_lt_mul_left h2 (JN hC)
end Mf
namespace DL
open PySem PySem.Spec PyProof.Rows L2
theorem tX:ltCps (x::r) (y::t)=if x<y then true else if y<x then false else ltCps r t:=by
 show (decide (x<y)||(x==y&&ltCps r t))=_
 rcases Jx x y with h | h | h
 ·rw[Hc h,HJ h];rfl
 ·subst h;rw[Ha (Hw x),Ha (Hw x)];simp
 ·rw[Ha (J8 h),Hc h,HA (J8 h)];have:(x==y)=false:=by simp;omega
  rw[this];rfl
theorem pN:∀ {a b:List Nat},ltCps a b=false->ltCps b a=false->a=b
 | [],[],_,_=>rfl
 | [],y::s,h,_=>by simp[ltCps] at h
 | x::r,[],_,h=>by simp[ltCps] at h
 | x::r,y::s,h1,h2=>by
  rw[tX] at h1 h2
  rcases Jx x y with h | h | h
  ·rw[Hc h] at h1;cases h1
  ·subst h;rw[Ha (Hw x),Ha (Hw x)] at h1 h2;rw[pN h1 h2]
  ·rw[Hc h] at h2;cases h2
theorem i9:∀ {a b c:List Nat},ltCps b a=false->ltCps c b=false->ltCps c a=false
 | [],b,c,_,_=>by cases c<;>rfl
 | x::r,[],c,h,_=>by simp[ltCps] at h
 | x::r,y::s,[],_,h=>by simp[ltCps] at h
 | x::r,y::s,z::t,h1,h2=>by
  rw[tX] at h1 h2 ⊢
  rcases Jx y x with h | h | h
  ·rw[Hc h] at h1;cases h1
  ·subst h;rw[Ha (Hw y),Ha (Hw y)] at h1
   rcases Jx z y with g | g | g
   ·rw[Hc g] at h2;cases h2
   ·subst g;rw[Ha (Hw z),Ha (Hw z)] at h2 ⊢;exact i9 h1 h2
   ·rw[Ha (J8 g),Hc g]
  ·rcases Jx z y with g | g | g
   ·rw[Hc g] at h2;cases h2
   ·subst g;rw[Ha (J8 h),Hc h]
   ·have:x<z:=Nat.lt_trans h g
    rw[Ha (J8 this),Hc this]
def leS(a b:Str):Prop:=ltCps b.cps.toList a.cps.toList=false
theorem BT(h1:leS a b)(h2:leS b a):a=b:=by
 have:=pN h2 h1
 cases a;cases b
 simp only[Str.mk.injEq] at *;exact Array.toList_inj.mp this
theorem yD:∀ {ss:Zb},Srt ss->ss.Pairwise leS
 | [],_=>.nil
 | x::r,h=>by
  have h:risingS x r=true:=h
  have aa:∀(r:Zb) (x:Str),risingS x r=true->(∀y∈r,leS x y)/\r.Pairwise leS:=by
   intro r
   induction r with
   | nil=>intro x _;exact⟨λy hy=>(nomatch hy),.nil⟩
   | cons y r ih =>
    intro x h;unfold risingS at h;obtain⟨h1,h2⟩:=Hu.mp h;have h1:leS x y:=by unfold leS;cases q:ltCps y.cps.toList x.cps.toList with
     | false=>rfl
     | true=>rw[q] at h1;cases h1
    obtain⟨i1,i2⟩:=ih y h2;refine⟨λz hz=>?_,.cons i1 i2⟩
    rcases GY.mp hz with rfl | hz
    ·exact h1
    ·exact i9 h1 (i1 z hz)
  obtain⟨k1,k2⟩:=aa r x h;exact .cons k1 k2
theorem ki:∀ {as bs:Zb},as.Pairwise leS->bs.Pairwise leS->as.Nodup->bs.Nodup->(∀x,x∈as↔x∈bs)->as=bs
 | [],[],_,_,_,_,_=>rfl
 | [],b::bs,_,_,_,_,h=>by have:=(h b).mpr (GT ..);cases this
 | a::as,[],_,_,_,_,h=>by have:=(h a).mp (GT ..);cases this
 | a::as,b::bs,pa,pb,na,nb,h=>by
  cases pa with
  | cons pa1 pa2 =>
   cases pb with
   | cons pb1 pb2 =>
    have e:a=b:=by
     rcases GY.mp ((h a).mp (GT ..)) with e | ha
     ·exact e
     ·rcases GY.mp ((h b).mpr (GT ..)) with e | hb
      ·exact e.symm
      ·exact BT (pa1 b hb) (pb1 a ha)
    subst e;obtain⟨n1,n2⟩:=Ib.mp na;obtain⟨n3,n4⟩:=Ib.mp nb;rw[ki pa2 pb2 n2 n4 λx=>⟨λhx=>?_,λhx=>?_⟩]
    ·rcases GY.mp ((h x).mp (GP _ hx)) with e | hx'
     ·exact absurd (e ▸ hx) n1
     ·exact hx'
    ·rcases GY.mp ((h x).mpr (GP _ hx)) with e | hx'
     ·exact absurd (e ▸ hx) n3
     ·exact hx'
def ItA(k:Bool)(h:Heap)(it a:Addr)(i:Nat):Prop:=match k with | true=>h.IsListIter it a i | false=>h.IsTupleIter it a i
def SqA(k:Bool)(h:Heap)(a:Addr)(xs:Array Value):Prop:=match k with | true=>h.IsList a xs | false=>h.IsTuple a xs
theorem ItA.keep(x:ItA k h it a i)(f:∀o,h.get? it=some o->h'.get? it=some o):ItA k h' it a i:=by
 cases k
 ·exact Heap.IsTupleIter.at x f
 ·exact Heap.IsListIter.at x f
theorem SqA.keep(x:SqA k h a xs)(f:∀o,h.get? a=some o->h'.get? a=some o):SqA k h' a xs:=by
 cases k
 ·exact Heap.IsTuple.at x f
 ·exact Heap.IsList.at x f
theorem ItA.obj(x:ItA k h it a i):∃o,h.get? it=some o/\o.cls=.type (if k then "list_iterator" else "tuple_iterator")/\o.data=.fields #[.ref a,.int i 0]:=by
 cases k
 ·exact x
 ·exact x
theorem SqA.there(x:SqA k h a xs):∃o,h.get? a=some o/\∃n,o.data=.seq xs n:=by
 cases k
 ·obtain⟨o,e,_,d⟩:=x;exact⟨o,e,d⟩
 ·obtain⟨o,e,_,d⟩:=x;exact⟨o,e,d⟩
section
theorem F8(a1:s.heap.IsTupleIter it t i)(a2:s.heap.IsTuple t xs)(a3:xs[i]?=some x)
  (q:∀h',h'.IsTupleIter it t (i+1)->Heap.SameBut it s.heap h'->Q x { s with heap:=h' }):wpAny (model prog w) A (Builtin.SmallTypes.nextOf (.ref it)) Q E s:=by
 obtain⟨u,e1,e2,e3⟩:=id a1;obtain⟨ut,f1,_,nn,f2⟩:=a2;unfold Builtin.SmallTypes.nextOf;refine GM (Ia (name:=Str.ofString "__next__") a1.typeIs IQ (Ik IQ a1.typeIs F.entry_tuple_iterator_next ?_ (F.args_tuple_iterator_next_1 _)));refine GM (m:=field (.ref it) 0) (HC e1 e3 (x:=.ref t) rfl ?_);rw[Ha (c:=(Value.ref t==Value.none)=true) GW];refine GM (m:=field (.ref it) 1) (HC e1 e3 (x:=.int i 0) rfl ?_);refine GM (m:=seqItems? (.ref t)) (IA f1 f2 ?_);simp only[Int.toNat_natCast,a3];refine GM (II e1 e3 (by simp) (GQ ⟨x,rfl,GQ (q _ ?_ (JJ ..))⟩));refine⟨_,Hz _ e1 (ID (Ih e3 _)),(Obj.cls_mapFields ..).trans e2,?_⟩;rw[Ih e3];simp[rawInt]
theorem tH(a0:A.handled=none)(a1:s.heap.IsTupleIter it t i)(a2:s.heap.IsTuple t xs)(a3:xs[i]?=none)
  (q:∀h' e,Heap.ExtBut it s.heap h'->(∃o,h'.get? e=some o/\o.cls=.type "StopIteration")->E (.ref e) { s with heap:=h' }):wpAny (model prog w) A (Builtin.SmallTypes.nextOf (.ref it)) Q E s:=by
 obtain⟨u,e1,e2,e3⟩:=id a1;obtain⟨ut,f1,_,nn,f2⟩:=a2;unfold Builtin.SmallTypes.nextOf;refine GM (Ia (name:=Str.ofString "__next__") a1.typeIs IQ (Ik IQ a1.typeIs F.entry_tuple_iterator_next ?_ (F.args_tuple_iterator_next_1 _)));refine GM (m:=field (.ref it) 0) (HC e1 e3 (x:=.ref t) rfl ?_);rw[Ha (c:=(Value.ref t==Value.none)=true) GW];refine GM (m:=field (.ref it) 1) (HC e1 e3 (x:=.int i 0) rfl ?_);refine GM (m:=seqItems? (.ref t)) (IA f1 f2 ?_);simp only[Int.toNat_natCast,a3];refine GM (Kj (GM (II e1 e3 (by simp) ?_)));refine GM (m:=newExc (.type "StopIteration") []) ?_;simp only[newExc,newTuple];refine GM (HQ ?_ (by size_fits));refine GM (m:=firstArgMember _ _) (wpAny_of_eq (a:=Value.none) (by first | rfl | (simp only[firstArgMember];rfl)) ?_);refine HQ ?_ (by size_fits);simp only[raiseNew];refine GM (wpAny_handled ?_)
 first | rw[show A.in1.handled=none from a0] | rw[a0]
 exact GM (GQ (wpAny_throw (q _ _ (((JJ ..).extBut.push _).push _) ⟨_,G5 _ rfl,rfl⟩)))
theorem xC(a1:ItA k s.heap it a i)(a2:SqA k s.heap a xs)(a3:xs[i]?=some x)
  (q:∀h',ItA k h' it a (i+1)->Heap.SameBut it s.heap h'->Q x { s with heap:=h' }):wpAny (model prog w) A (Builtin.SmallTypes.nextOf (.ref it)) Q E s:=by
 cases k
 ·exact F8 a1 a2 a3 q
 ·exact wpAny_nextOf_list_item a1 a2 a3 q
theorem ja(a0:A.handled=none)(a1:ItA k s.heap it a i)(a2:SqA k s.heap a xs)(a3:xs[i]?=none)
  (q:∀h' e,Heap.ExtBut it s.heap h'->(∃o,h'.get? e=some o/\o.cls=.type "StopIteration")->E (.ref e) { s with heap:=h' }):wpAny (model prog w) A (Builtin.SmallTypes.nextOf (.ref it)) Q E s:=by
 cases k
 ·exact tH a0 a1 a2 a3 q
 ·exact wpAny_nextOf_list_end a0 a1 a2 a3 q
theorem o6(a1:SqA k s.heap a xs)
  (q:Q (.ref s.heap.objs.size) { s with heap:=s.heap.push { cls:=.type (if k then "list_iterator" else "tuple_iterator"),data:=.fields #[.ref a,.int 0 0] } }):wpAny (model prog w) A (pyIter (.ref a)) Q E s:=by
 cases k
 ·exact wpAny_pyIter_tuple a1 q
 ·exact Ju a1 q
structure ZAp(z p o i j a b:Addr):Prop where
 zp:p≠z
 zo:o≠z
 zi:i≠z
 zj:j≠z
 po:p≠o
 pi:p≠i
 pj:p≠j
 oi:o≠i
 oj:o≠j
 ij:i≠j
 az:a≠z
 ao:a≠o
 ai:a≠i
 aj:a≠j
 bz:b≠z
 bo:b≠o
 bi:b≠i
 bj:b≠j
structure ZAt(k l:Bool)(h:Heap)(z p o i j a b:Addr)(m:Nat)(xs ys:Array Value):Prop where
 hz:IsZip h z p o .none
 hp:IsPair h p (.ref i) (.ref j)
 ho:∃u v,IsPair h o u v
 hi:ItA k h i a m
 hj:ItA l h j b m
 ha:SqA k h a xs
 hb:SqA l h b ys
theorem EO{x1}(D:ZAp z p o i j a b)(Z:ZAt k l s.heap z p o i j a b m xs ys)(hx:xs[m]?=some x)(hy:ys[m]?=some y)
  (q:∀h',ZAt k l h' z p o i j a b (m+1) xs ys->IsPair h' s.heap.objs.size x y->h'.objs.size=s.heap.objs.size+1->(∀c u,c≠z->c≠o->c≠i->c≠j->s.heap.get? c=some u->h'.get? c=some u)->Q () { s with heap:=h' }) :
  wpAny (model prog w) A (pyNext (.ref z)) (λr s1=>∃u,r=some u/\u=.ref s.heap.objs.size/\wpAny (model prog w) A (letOwnedTupleGo (.Tuple elts x1 pos) (.ref z) u) Q E s1) E s:=by
 obtain⟨hz,hp,⟨u,v,ho⟩,hi,hj,ha,hb⟩:=Z;have hT:s.TypeIs (.ref z) "zip":=⟨_,hz,rfl⟩;unfold pyNext;refine GM (Kh (Ia (name:=Str.ofString "__next__") hT Kl (Ik Kl hT F.entry_zip_next ?_ (F.args_zip_next_1 _))));refine GM (m:=field (.ref z) 2) (HC hz rfl (x:=.bool false) rfl ?_);refine GM (m:=field (.ref z) 3) (HC hz rfl (x:=.ref p) rfl ?_);refine GM (IA hp rfl ?_);refine GM (m:=Builtin.SmallTypes.ownedTupleIsFree (.ref z)) ?_;unfold Builtin.SmallTypes.ownedTupleIsFree;refine GM (HC hz rfl (x:=.none) rfl (GQ ?_));simp only[if_true];refine GM (Kj (GM (HC hz rfl (x:=.ref o) rfl (GM (HB hz (by simp) λg1 z1 s1=>?_)))));replace z1:IsZip g1 z p o .ellipsis:=z1;refine GM ?_;simp only[List.zipIdx_cons,List.zipIdx_nil,List.forIn_cons,List.forIn_nil];refine GM (GM (Ki ?_));have k1:∀c u,c≠z->s.heap.get? c=some u->g1.get? c=some u:=λc u n e=>s1.extBut _ _ n e;refine GM (m:=Builtin.SmallTypes.nextOf (.ref i)) (xC (hi.keep λu e=>k1 _ u D.zi e) (ha.keep λu e=>k1 _ u D.az e) hx λg2 i2 s2=>GQ ?_);have k2:∀c u,c≠i->g1.get? c=some u->g2.get? c=some u:=λc u n e=>s2.extBut _ _ n e;have o2:IsPair g2 o u v:=k2 _ _ D.oi (k1 _ _ D.zo ho);refine GM (IA o2 rfl (GM (Kf o2 λg3 o3 s3=>GM (wpAny_letGo (GQ ?_)))));replace o3:IsPair g3 o x v:=o3;have k3:∀c u,c≠o->g2.get? c=some u->g3.get? c=some u:=λc u n e=>s3.extBut _ _ n e;refine GM (GM (Ki ?_));refine GM (m:=Builtin.SmallTypes.nextOf (.ref j)) (xC (hj.keep λu e=>k3 _ u D.oj.symm (k2 _ u D.ij.symm (k1 _ u D.zj e))) (hb.keep λu e=>k3 _ u D.bo (k2 _ u D.bi (k1 _ u D.bz e))) hy λg4 j4 s4=>GQ ?_)
 have k4:∀c u,c≠j->g3.get? c=some u->g4.get? c=some u:=λc u n e=>s4.extBut _ _ n e
 have o4:IsPair g4 o x v:=k4 _ _ D.oj o3
 refine GM (IA o4 rfl (GM (Kf o4 λg5 o5 s5=>GM (wpAny_letGo (GQ (GQ ?_))))));replace o5:IsPair g5 o x y:=o5;have k5:∀c u,c≠o->g4.get? c=some u->g5.get? c=some u:=λc u n e=>s5.extBut _ _ n e;refine GM (IA o5 rfl (GM (wpAny_newTuple ?_)));have hsz:g5.objs.size=s.heap.objs.size:=by rw[s5.1,s4.1,s3.1,s2.1,s1.1]
 have z5:IsZip g5 z p o .ellipsis:=k5 _ _ D.zo.symm (k4 _ _ D.zj.symm (k3 _ _ D.zo.symm (k2 _ _ D.zi.symm z1)))
 have kk:∀c u,c≠z->c≠o->c≠i->c≠j->s.heap.get? c=some u->g5.get? c=some u:=λc u n1 n2 n3 n4 e=>k5 _ _ n2 (k4 _ _ n4 (k3 _ _ n2 (k2 _ _ n3 (k1 _ _ n1 e))))
 have i5:ItA k g5 i a (m+1):=i2.keep λu e=>k5 _ u D.oi.symm (k4 _ u D.ij (k3 _ u D.oi.symm e))
 have j5:ItA l g5 j b (m+1):=j4.keep λu e=>k5 _ u D.oj.symm e
 have lz:=G3 z5
 refine GM (m:=Builtin.SmallTypes.ownedTupleHandOut (.ref z) (.ref g5.objs.size)) ?_;unfold Builtin.SmallTypes.ownedTupleHandOut;have z6:IsZip (g5.push { cls:=.type "tuple",data:=.seq #[x,y] }) z p o .ellipsis:=GO _ z5;refine GM (HB z6 (by simp) λg7 z7 s7=>?_);replace z7:IsZip g7 z p o (rawInt g5.objs.size):=z7;refine HB z7 (by simp) λg8 z8 s8=>?_;replace z8:IsZip g8 z p o (rawInt g5.objs.size):=z8;have k8:∀c u,c≠z->g5.get? c=some u->g8.get? c=some u:=λc u n e=>s8.extBut _ _ n (s7.extBut _ _ n (GO _ e));have t8:IsPair g8 g5.objs.size x y:=s8.extBut _ _ (IC lz) (s7.extBut _ _ (IC lz) (G5 _ rfl));have n8:g8.objs.size=g5.objs.size+1:=by rw[s8.1,s7.1,HN]
 rw[hsz] at z8 t8 n8;refine GQ ⟨_,rfl,GQ ⟨_,rfl,Ji Value.ref hsz,?_⟩⟩;show wpAny (model prog w) A (letOwnedTupleGo (.Tuple elts x1 pos) (.ref z) (.ref g5.objs.size)) Q E _;rw[hsz];refine wpAny_letOwnedTupleGo_zip z8 λg9 z9 s9=>?_;have k9:∀c u,c≠z->g8.get? c=some u->g9.get? c=some u:=λc u n e=>s9.extBut _ _ n e;have up:∀c u,c≠z->g5.get? c=some u->g9.get? c=some u:=λc u n e=>k9 _ _ n (k8 _ _ n e);refine q g9 ⟨z9,up _ _ D.zp (kk _ _ D.zp D.po D.pi D.pj hp),⟨x,y,up _ _ D.zo o5⟩,i5.keep λu e=>up _ u D.zi e,j5.keep λu e=>up _ u D.zj e,ha.keep λu e=>up _ u D.az (kk _ _ D.az D.ao D.ai D.aj e),hb.keep λu e=>up _ u D.bz (kk _ _ D.bz D.bo D.bi D.bj e)⟩ ?_ ?_ λc u n1 n2 n3 n4 e=>up c u n1 (kk c u n1 n2 n3 n4 e)
 ·exact k9 _ _ (by rw[<- hsz];exact IC lz) t8
 ·rw[s9.1,n8]
theorem EX(a0:A.handled=none)(D:ZAp z p o i j a b)(Z:ZAt k l s.heap z p o i j a b m xs ys)(hend:xs[m]?=none\/ys[m]?=none)
  (q:∀h',(∀c u,c≠z->c≠o->c≠i->c≠j->s.heap.get? c=some u->h'.get? c=some u)->Q none { s with heap:=h' }):wpAny (model prog w) A (pyNext (.ref z)) Q E s:=by
 obtain⟨hz,hp,⟨u,v,ho⟩,hi,hj,ha,hb⟩:=Z;have hT:s.TypeIs (.ref z) "zip":=⟨_,hz,rfl⟩;unfold pyNext;have ai:∀(g:Heap) (e:Addr),(∀c u,c≠z->c≠o->c≠i->c≠j->s.heap.get? c=some u->g.get? c=some u)->(∃o,g.get? e=some o/\o.cls=.type "StopIteration") ->
   wpAny (model prog w) A (do if<-isInstance (.ref e) (.type "StopIteration") then pure (none:Zd) else throw (.ref e)) Q E { s with heap:=g }:=λg e kk ⟨oe,h1,h2⟩ =>
  GM (wpAny_isInstance (T:="StopIteration") (b:=true) ⟨oe,h1,h2⟩ isSubtype_stop (GQ (q _ kk)))
 refine GM (Kh (Ia (name:=Str.ofString "__next__") hT Kl (Ik Kl hT F.entry_zip_next ?_ (F.args_zip_next_1 _))));refine GM (m:=field (.ref z) 2) (HC hz rfl (x:=.bool false) rfl ?_);refine GM (m:=field (.ref z) 3) (HC hz rfl (x:=.ref p) rfl ?_);refine GM (IA hp rfl ?_);refine GM (m:=Builtin.SmallTypes.ownedTupleIsFree (.ref z)) ?_;unfold Builtin.SmallTypes.ownedTupleIsFree;refine GM (HC hz rfl (x:=.none) rfl (GQ ?_));simp only[if_true];refine GM (Kj (GM (HC hz rfl (x:=.ref o) rfl (GM (HB hz (by simp) λg1 z1 s1=>?_)))));replace z1:IsZip g1 z p o .ellipsis:=z1;refine GM ?_;simp only[List.zipIdx_cons,List.zipIdx_nil,List.forIn_cons,List.forIn_nil];refine GM (GM (Ki ?_));have k1:∀c u,c≠z->s.heap.get? c=some u->g1.get? c=some u:=λc u n e=>s1.extBut _ _ n e;have i1:=hi.keep λu e=>k1 _ u D.zi e;have a1:=ha.keep λu e=>k1 _ u D.az e
 cases hx:xs[m]? with
 | none =>
  refine GM (m:=Builtin.SmallTypes.nextOf (.ref i)) (ja a0 i1 a1 hx λg2 e s2 he=>?_);obtain⟨oe,aa,ab⟩:=he;have z2:IsZip g2 z p o .ellipsis:=s2 _ _ D.zi.symm z1;have ah:e≠z:=λx=>by subst x;rw[z2] at aa;cases aa;simp at ab
  exact HB z2 (by simp) λg3 _ s3=>ai g3 e (λc u n1 _ n3 _ x=>s3.extBut _ _ n1 (s2 _ _ n3 (k1 _ _ n1 x))) ⟨oe,s3.extBut _ _ ah aa,ab⟩
 | some x =>
  have hy:ys[m]?=none:=by rcases hend with h | h;rw[hx] at h;cases h;exact h
  refine GM (m:=Builtin.SmallTypes.nextOf (.ref i)) (xC i1 a1 hx λg2 i2 s2=>GQ ?_);have k2:∀c u,c≠i->g1.get? c=some u->g2.get? c=some u:=λc u n e=>s2.extBut _ _ n e;have o2:IsPair g2 o u v:=k2 _ _ D.oi (k1 _ _ D.zo ho);refine GM (IA o2 rfl (GM (Kf o2 λg3 o3 s3=>GM (wpAny_letGo (GQ ?_)))));have k3:∀c u,c≠o->g2.get? c=some u->g3.get? c=some u:=λc u n e=>s3.extBut _ _ n e;refine GM (GM (Ki ?_));refine GM (m:=Builtin.SmallTypes.nextOf (.ref j)) (ja a0 (hj.keep λu e=>k3 _ u D.oj.symm (k2 _ u D.ij.symm (k1 _ u D.zj e))) (hb.keep λu e=>k3 _ u D.bo (k2 _ u D.bi (k1 _ u D.bz e))) hy λg4 e s4 he=>?_);obtain⟨oe,aa,ab⟩:=he;have z4:IsZip g4 z p o .ellipsis:=s4 _ _ D.zj.symm (k3 _ _ D.zo.symm (k2 _ _ D.zi.symm z1));have ah:e≠z:=λx=>by subst x;rw[z4] at aa;cases aa;simp at ab
  exact HB z4 (by simp) λg5 _ s5=>ai g5 e (λc u n1 n2 n3 n4 x=>s5.extBut _ _ n1 (s4 _ _ n4 (k3 _ _ n2 (k2 _ _ n3 (k1 _ _ n1 x))))) ⟨oe,s5.extBut _ _ ah aa,ab⟩
abbrev zh(k l:Bool)(h:Heap)(a b:Addr):Heap:=((((h.push { cls:=.type (if k then "list_iterator" else "tuple_iterator"),data:=.fields #[.ref a,.int 0 0] }).push { cls:=.type (if l then "list_iterator" else "tuple_iterator"),data:=.fields #[.ref b,.int 0 0] }).push
 { cls:=.type "tuple",data:=.seq #[.ref h.objs.size,.ref (h.objs.size+1)] }).push { cls:=.type "tuple",data:=.seq #[.none,.none] }).push { cls:=.type "zip",data:=.fields #[.none,.bool false,.bool false,.ref (h.objs.size+2),.ref (h.objs.size+3)] }
theorem Ee(k l:Bool)(a b:Addr)(xs ys:Array Value):Meets (Builtin.«zip.__new__» ⟨[.type "zip",.ref a,.ref b],[]⟩) (λ_ R s=>SqA k s.heap a xs/\SqA l s.heap b ys/\R (.ok (.ret (.ref (s.heap.objs.size+4)))) { s with heap:=zh k l s.heap a b }) :=
 .of_wp λprog w A R s h=>by
  obtain⟨hp,g,d,tk,os⟩:=s;obtain⟨a1,a2,h⟩:=h;have aa:=sub_zip;have b1:SqA k (Shared.heap ⟨hp,g,d,tk,os⟩) a xs:=a1;have b2:SqA l (Shared.heap ⟨hp.push { cls:=.type (if k then "list_iterator" else "tuple_iterator"),data:=.fields #[.ref a,.int 0 0] },g,d,tk,os⟩) b ys:=SqA.keep a2 λo e=>GO _ e
  wp_walk using o6 b1,o6 b2
  refine⟨_,rfl,?_⟩;simp only[Heap.size_push];exact h
theorem Fe(a1:SqA k s.heap a xs)(a2:SqA l s.heap b ys)
  (h:ZAt k l (zh k l s.heap a b) (s.heap.objs.size+4) (s.heap.objs.size+2) (s.heap.objs.size+3) s.heap.objs.size (s.heap.objs.size+1) a b 0 xs ys->(∀c o,s.heap.get? c=some o->(zh k l s.heap a b).get? c=some o)->Q (.ref (s.heap.objs.size+4)) { s with heap:=zh k l s.heap a b }) :
  wpAny (model prog w) A (call (.type "zip") [.ref a,.ref b]) Q E s:=by
 refine callType_new F.called_zip (by decide) (F.typeCall_zip_2 _ _) (F.newCall_zip_2 _ _) (λobj=>F.args_object_init_3 obj _ _) F.entry_zip_new (Ee k l a b xs ys) ⟨a1,a2,?_⟩;have up:∀c o,s.heap.get? c=some o->(zh k l s.heap a b).get? c=some o:=λc o e=>GO _ (GO _ (GO _ (GO _ (GO _ e))));have sz:∀(h:Heap) (o:Obj) (n:Nat),h.objs.size=n->o.isFreed=false->(h.push o).get? n=some o:=λh o n e f=>by rw[<- e];exact G5 _ f
 have e4:(zh k l s.heap a b).get? (s.heap.objs.size+4)=some _:=sz _ _ _ (by simp only[Heap.size_push]) rfl
 have e3:(zh k l s.heap a b).get? (s.heap.objs.size+3)=some _:=GO _ (sz _ _ _ (by simp only[Heap.size_push]) rfl)
 have e2:(zh k l s.heap a b).get? (s.heap.objs.size+2)=some _:=GO _ (GO _ (sz _ _ _ (by simp only[Heap.size_push]) rfl))
 have e1:(zh k l s.heap a b).get? (s.heap.objs.size+1)=some _:=GO _ (GO _ (GO _ (sz _ _ _ (by simp only[Heap.size_push]) rfl)))
 have e0:(zh k l s.heap a b).get? s.heap.objs.size=some _:=GO _ (GO _ (GO _ (GO _ (G5 _ rfl))))
 have i0:ItA k (zh k l s.heap a b) s.heap.objs.size a 0:=by
  cases k
  ·exact⟨_,e0,rfl,rfl⟩
  ·exact⟨_,e0,rfl,rfl⟩
 have i1:ItA l (zh k l s.heap a b) (s.heap.objs.size+1) b 0:=by
  cases l
  ·exact⟨_,e1,rfl,rfl⟩
  ·exact⟨_,e1,rfl,rfl⟩
 exact⟨⟨_,e4,rfl⟩,h ⟨e4,e2,⟨_,_,e3⟩,i0,i1,a1.keep λo e=>up _ o e,a2.keep λo e=>up _ o e⟩ up⟩
theorem ZAp.new{n a b:Nat}(h1:a<n)(h2:b<n):ZAp (n+4) (n+2) (n+3) n (n+1) a b:=by
 constructor<;>(intro e;have e:(_:Nat)=_:=e;omega)
end
theorem lg{X:Cx}{pins:List (Addr×Obj)}{σ:L2.St}{H:Hp}{s:Shared}{h':Heap}{t':Nat}{fp:List Addr}(I:Inv X pins σ H s)(k:∀b o,b∉fp->s.heap.get? b=some o->h'.get? b=some o)(hf:∀b∈fp,wD X pins H b) :
  Inv X pins σ H { s with heap:=h',toks:=t' }:=by
 have aa:∀b u,H b=some u->b∉fp:=λb u e z=>by rw[(hf b z).1] at e;cases e
 refine I.step (g':=s.gens) (d':=s.drawn) (ch:=fp) (λb hb=>?_) (λb o _ _ hc e _=>k b o hc e) (λb o _ _ hc e _=>⟨o.slots,k b o hc e⟩) (λ_ _ _ _ n=>n)
  (λb o hc e=>⟨o,k b o hc e⟩) (λ_ _ e=>e) (λ_ _ _ e=>e) (λb ps e=>⟨#[],by rw[e];simp⟩) (λm hm=>?_) (λb u e=>?_) I.bare
 ·obtain⟨f0,f1,f2,f3,f4,f5⟩:=hf b hb;exact⟨f3,f1,f4,f5⟩
 ·obtain⟨o,es,ep,ho,r⟩:=hm;exact⟨o,es,ep,k _ o (λz=>(hf _ z).2.1 rfl) ho,r⟩
 ·refine(I.hok b u e).stay (λc v hc q=>k c v ?_ q) (λ_ q=>q) λ_ _ q=>q
  rcases hc with z | z
  ·rw[z];exact aa b u e
  ·exact aa c _ z
def Go(k:Bool)(K:Zf)(H:Hp)(a:Addr)(xs:Zg):Prop:=match k with | true=>GL K H a xs | false=>GA K H a xs
theorem Go.at(I:Inv X pins σ H s)(h:Go k X.K H a xs):∃its:Zc,bF xs its/\SqA k s.heap a its.toArray:=by
 cases k
 ·obtain⟨its,r,p,_⟩:=I.tuple h;exact⟨its,r,p⟩
 ·obtain⟨its,r,p,_⟩:=I.list h;exact⟨its,r,p.isList⟩
theorem Go.inj(I:Inv X pins σ H s)(h:Go k X.K H a xs)(h':Go k X.K H a ys):xs=ys:=by
 cases k
 ·exact I.tuple_inj h h'
 ·exact I.list_inj h h'
def Itz(K:Zf)(k l:Bool)(a b:Addr):It :=
  ⟨λi H=>∃xs ys x y,Go k K H a xs/\Go l K H b ys/\xs[i]?=some x/\ys[i]?=some y,
   λi H v H'=>∃T x y,H T=none/\H'=GE H T (.tup [x,y])/\v=.ref T/\(∀xs,Go k K H a xs->xs[i]?=some x)/\∀ys,Go l K H b ys->ys[i]?=some y,
   λi H=>∃xs ys,Go k K H a xs/\Go l K H b ys/\(xs.length<=i\/ys.length<=i)⟩
structure ZI(k l:Bool)(h:Heap)(z p o i j a b:Addr)(m:Nat):Prop where
 hz:IsZip h z p o .none
 hp:IsPair h p (.ref i) (.ref j)
 ho:∃u v,IsPair h o u v
 hi:ItA k h i a m
 hj:ItA l h j b m
theorem ZAt.zi(Z:ZAt k l h z p o i j a b m xs ys):ZI k l h z p o i j a b m:=⟨Z.hz,Z.hp,Z.ho,Z.hi,Z.hj⟩
theorem wm{w:World}{K:Zf}{x1}{j:Addr}(D:ZAp z p o i j a b) :
  At P w K (.Tuple elts x1 pos) (Itz K k l a b) [z,p,o,i,j] z (λm h=>ZI k l h z p o i j a b m) where
 mem:=by simp
 obj:=λm h Z c hc=>by
  simp only[List.mem_cons,List.not_mem_nil,or_false] at hc
  rcases hc with rfl | rfl | rfl | rfl | rfl
  ·exact⟨_,Z.hz,λv=>nofun⟩
  ·exact⟨_,Z.hp,λv=>nofun⟩
  ·obtain⟨u,v,e⟩:=Z.ho;exact⟨_,e,λv=>nofun⟩
  ·obtain⟨q,e,_,d⟩:=Z.hi.obj;exact⟨q,e,λv=>by rw[d];nofun⟩
  ·obtain⟨q,e,_,d⟩:=Z.hj.obj;exact⟨q,e,λv=>by rw[d];nofun⟩
 keep:=λm h h' Z kk=>⟨kk _ (by simp) _ Z.hz,kk _ (by simp) _ Z.hp,(by obtain⟨u,v,e⟩:=Z.ho;exact⟨u,v,kk _ (by simp) _ e⟩),Z.hi.keep λq e=>kk _ (by simp) q e,Z.hj.keep λq e=>kk _ (by simp) q e⟩
 item:=by
  intro X hP hw hK hc m pins s σ H E I hf Z hg;subst hP hw hK;obtain⟨xs,ys,x,y,h1,h2,hx,hy⟩:=hg;obtain⟨is,r1,p1⟩:=Go.at I h1;obtain⟨js,r2,p2⟩:=Go.at I h2;obtain⟨u,hu,ru⟩:=r1.get hx;obtain⟨v,hv,rv⟩:=r2.get hy;refine Gj (EO (E:=E) (Q:=λ_ s2=>∃x H',Inv X pins σ H' s2/\bB x (.ref s.heap.objs.size)/\(Itz X.K k l a b).yld m H x H'/\ZI k l s2.heap z p o i j a b (m+1)/\∀b∈[z,p,o,i,j],H' b=none) (elts:=elts) (x1:=x1) (pos:=pos) D ⟨Z.hz,Z.hp,Z.ho,Z.hi,Z.hj,p1,p2⟩ (x:=u) (y:=v) (by simpa using hu) (by simpa using hv) λh' Z' t' n' kk=>?_) λr s1 ⟨u',e1,e2,q⟩=>⟨u',e1,by subst e2;exact q⟩;have aa:H s.heap.objs.size=none:=I.hok.fresh (GU _);have I1:Inv X pins σ (GE H s.heap.objs.size (.tup [x,y])) { s with heap:=s.heap.push { cls:=.type "tuple",data:=.seq #[u,v] } }:=I.laid (t':=s.toks) (λb u e=>GO _ e) (GU _) ⟨by show 2<=sizeLine;decide,[u,v],.cons ru (.cons rv .nil),⟨_,G5 _ rfl,rfl,_,rfl⟩⟩;have lt:∀c∈[z,p,o,i,j],c≠s.heap.objs.size:=λc hc=>by
   have:∃q,s.heap.get? c=some q:=by
    simp only[List.mem_cons,List.not_mem_nil,or_false] at hc
    rcases hc with rfl | rfl | rfl | rfl | rfl
    ·exact⟨_,Z.hz⟩
    ·exact⟨_,Z.hp⟩
    ·obtain⟨u,v,e⟩:=Z.ho;exact⟨_,e⟩
    ·obtain⟨q,e,_⟩:=Z.hi.obj;exact⟨q,e⟩
    ·obtain⟨q,e,_⟩:=Z.hj.obj;exact⟨q,e⟩
   obtain⟨q,e⟩:=this;exact Ho (G3 e)
  have fr:∀c∈[z,p,o,i,j],GE H s.heap.objs.size (.tup [x,y]) c=none:=λc hc=>by rw[aH (lt c hc)];exact(hf c hc).1
  have I2:Inv X pins σ (GE H s.heap.objs.size (.tup [x,y])) { s with heap:=h' }:=lg (s:={ s with heap:=s.heap.push { cls:=.type "tuple",data:=.seq #[u,v] } }) (t':=s.toks) (fp:=[z,p,o,i,j]) I1 (λc q hc e=>?_) λc hc=>⟨fr c hc,(hf c hc).2⟩
  ·exact⟨.ref s.heap.objs.size,_,I2,rfl,⟨_,x,y,aa,rfl,rfl,λzs hz=>by rw[Go.inj I hz h1];exact hx,λzs hz=>by rw[Go.inj I hz h2];exact hy⟩,Z'.zi,fr⟩
  ·rcases Heap.get?_push_cases e with⟨rfl,rfl⟩ | e
   ·exact t'
   ·exact kk c q (λz=>hc (by simp[z])) (λz=>hc (by simp[z])) (λz=>hc (by simp[z])) (λz=>hc (by simp[z])) e
 done:=by
  intro X hP hw hK hc m pins s σ H E I hf Z hg;subst hP hw hK;obtain⟨xs,ys,h1,h2,hl⟩:=hg;obtain⟨is,r1,p1⟩:=Go.at I h1;obtain⟨js,r2,p2⟩:=Go.at I h2;have l1:=r1.length;have l2:=r2.length;refine EX (I.ok.hd hc) D ⟨Z.hz,Z.hp,Z.ho,Z.hi,Z.hj,p1,p2⟩ (hl.imp (λh=>by simp;omega) λh=>by simp;omega) λh' kk=>⟨rfl,lg (t':=s.toks) (fp:=[z,p,o,i,j]) I (λc q hc e=>?_) hf⟩;exact kk c q (λz=>hc (by simp[z])) (λz=>hc (by simp[z])) (λz=>hc (by simp[z])) (λz=>hc (by simp[z])) e
 self:=λ_ _ _ _ _ Z h=>wpAny_pyIter_zip Z.hz h
section
def iZip(K:Zf)(k l:Bool)(ta:TA):TI:=λσ H R=>ta σ H λvs H1=>∃a b,vs=[.ref a,.ref b]/\(∃xs,Go k K H1 a xs)/\(∃ys,Go l K H1 b ys)/\R (Itz K k l a b) H1
theorem Ef{x1}(hg:Gl X "zip")(hm:X.mg "zip"=none)(ha:PA X [a,b] ta)(hs:starEach [a,b] X.env=[(false,eval a X.env),(false,eval b X.env)]:=by rfl)(hs2:starEach [b] X.env=[(false,eval b X.env)]:=by rfl) :
  PI X (.Tuple elts x1 pos') (.Call (.Name "zip" p) [a,b] [] pos) (iZip X.K k l ta):=by
 intro pins s σ H R I h;refine Call_ (eT I hg hm boot_zip (Ii (Gj (ha pos pins s σ H _ I h) λus s1 ⟨vs,H1,I1,r1,q1⟩=>?_) (by rw[hs,hs2]) (by rw[hs2];rfl)));obtain⟨c,d,e,⟨xs,hx⟩,⟨ys,hy⟩,q⟩:=q1;subst e
 cases r1 with
 | cons r rr =>
  cases rr with
  | cons r' rr =>
   cases rr
   cases r
   cases r'
   obtain⟨is,_,p1⟩:=Go.at I1 hx;obtain⟨js,_,p2⟩:=Go.at I1 hy;refine Fe p1 p2 λZ up=>wpAny_pyIter_zip Z.hz ?_;have lt:∀ {k:Bool} {c:Addr} {zs:Array Value},SqA k s1.heap c zs->c<s1.heap.objs.size:=λh=>let ⟨_,e,_⟩:=h.there;G3 e;refine⟨_,_,_,_,H1,rfl,I1.kept (t':=s1.toks) up,wm (ZAp.new (lt p1) (lt p2)),Z.zi,λb hb=>?_,q⟩;have hb:s1.heap.objs.size<=b:=by
    simp only[List.mem_cons,List.not_mem_nil,or_false] at hb
    rcases hb with rfl | rfl | rfl | rfl | rfl
    ·exact JG ..
    ·exact JG ..
    ·exact JG ..
    ·exact GU _
    ·exact JG ..
   exact I1.fpOk hb (I1.hok.fresh hb)
end
def sq(k:Bool)(xs:Zi):D:=match k with | true=>.lst xs | false=>.tup xs
def sw(xs ys:Zi):Zi:=List.zipWith (λx y=>D.tup [x,y]) xs ys
def qS:Bool->D->(Zi->Prop)->Prop
 | true,d,k=>qL d k
 | false,d,k=>qT d k
theorem qS.ex(h:qS b d k):∃xs,d=sq b xs/\k xs:=by
 cases b
 ·exact qT.ex h
 ·exact qL.ex h
def Dr(k l:Bool)(t:TDA)(δ:En)(R:Zi->En->Prop):Prop:=t δ λds δ1=>qC ds λx r=>qC r λy r=>qN r <| qS k x λxs=>qS l y λys=>R (sw xs ys) δ1
section
theorem oY{K:Zf}{M:Addr->Prop}{H:Hp}(h:GI K M H (sq k xs) v):∃a vs,v=.ref a/\Go k K H a vs/\Reps K M H xs vs:=by
 cases k
 ·unfold sq GI at h;exact h
 ·unfold sq GI at h;obtain⟨a,vs,e,_,l,r⟩:=h;exact⟨a,vs,e,GL.of l,r⟩
theorem pZ(k l:Bool){x1}(hg:Gl X "zip")(hm:X.mg "zip"=none)(ha:DA X [a,b] ta)(hs:starEach [a,b] X.env=[(false,eval a X.env),(false,eval b X.env)]:=by rfl)(hs2:starEach [b] X.env=[(false,eval b X.env)]:=by rfl) :
  CI X (.Tuple elts x1 pos') (.Call (.Name "zip" p) [a,b] [] pos) (Dr k l ta) :=
 ⟨_,Ef (k:=k) (l:=l) hg hm ha hs hs2,λG δ P σ H R Q s hs kk=>⟨G,δ,P,_,s,hs,λds δ1 h1 vs H1 hl s1=>by
  replace h1:=qC.ex h1;obtain⟨x,r,e,h1⟩:=h1;replace h1:=qC.ex h1;obtain⟨y,r',e',h1⟩:=h1;replace h1:=qN.ex h1;obtain⟨e2,h1⟩:=h1;replace h1:=qS.ex h1;obtain⟨xs,e3,h1⟩:=h1;replace h1:=qS.ex h1;obtain⟨ys,e4,r⟩:=h1;subst e4 e3 e2 e' e
  match vs,hl with
  | [v,w],_ =>
   have s2:S X.K G δ1 ((sq k xs,v)::(sq l ys,w)::P) σ H1:=s1
   have at1:∀A δ σ H,Sx X.K G A δ ((sq k xs,v)::(sq l ys,w)::P) σ H->∃a vs,v=.ref a/\Go k X.K H a vs/\Reps X.K (λb=>G.M0 b\/A b) H xs vs:=λA δ σ H x=>oY (x.pnd (sq k xs,v) (by simp))
   have at2:∀A δ σ H,Sx X.K G A δ ((sq k xs,v)::(sq l ys,w)::P) σ H->∃a vs,w=.ref a/\Go l X.K H a vs/\Reps X.K (λb=>G.M0 b\/A b) H ys vs:=λA δ σ H x=>oY (x.pnd (sq l ys,w) (by simp))
   obtain⟨A1,x1⟩:=id s2;obtain⟨a,aj,rfl,l0,_⟩:=at1 _ _ _ _ x1;obtain⟨b,ai,rfl,m0,_⟩:=at2 _ _ _ _ x1;have al:(sw xs ys).length=min xs.length ys.length:=by unfold sw;rw[List.length_zipWith]
   refine⟨a,b,rfl,⟨aj,l0⟩,⟨ai,m0⟩,kk _ δ1 r _ _ H1 (λq hq=>by simp[hq]) s2 (λA δ σ i H x hi=>?_) (λA δ σ H x=>?_) λA δ σ i y H H2 x hi hy=>?_⟩
   ·obtain⟨_,vs,e,l,r⟩:=at1 _ _ _ _ x
    cases e
    obtain⟨_,ws,e,l2,r2⟩:=at2 _ _ _ _ x
    cases e
    obtain⟨v',hv,_⟩:=Reps.get _ _ r i (xs[i]'(by omega)) (by simp);obtain⟨w',hw,_⟩:=Reps.get _ _ r2 i (ys[i]'(by omega)) (by simp);exact⟨vs,ws,v',w',l,l2,hv,hw⟩
   ·obtain⟨_,vs,e,l,r⟩:=at1 _ _ _ _ x
    cases e
    obtain⟨_,ws,e,l2,r2⟩:=at2 _ _ _ _ x
    cases e
    have:=Reps.length _ _ r
    have:=Reps.length _ _ r2
    exact⟨vs,ws,l,l2,by omega⟩
   ·obtain⟨_,vs,e,l,r⟩:=at1 _ _ _ _ x
    cases e
    obtain⟨_,ws,e,l2,r2⟩:=at2 _ _ _ _ x
    cases e
    obtain⟨T,x',y',hT,rfl,rfl,hx,hy⟩:=hy;have ah:i<xs.length:=by omega
    have ab:i<ys.length:=by omega
    obtain⟨v',hv,rv⟩:=Reps.get _ _ r i xs[i] (by simp[ah]);obtain⟨w',hw,aa⟩:=Reps.get _ _ r2 i ys[i] (by simp[ab]);have e1:=hx vs l;have e2:=hy ws l2;rw[hv] at e1;rw[hw] at e2;have e1:=G4 e1;have e2:=G4 e2;rw[e1] at rv;rw[e2] at aa;have sm:bH H (GE H T (.tup [x',y'])):=aF hT _;refine⟨sm,.tup [xs[i],ys[i]],?_,?_⟩
    ·unfold sw;rw[List.getElem?_zipWith,Hl ah,Hl ab]
    ·unfold GI
     exact⟨T,[x',y'],rfl,.inl (.inl aw),Reps.cons (GI.kp (Kp.of_same sm) _ _ rv) (Reps.one (GI.kp (Kp.of_same sm) _ _ aa))⟩⟩⟩
end
def dFor(src:TDC)(g:TDG)(tb:TDS)(R:aP)(δ:En):Prop:=src δ λxs δ1=>∃I:Nat->En->Prop,I 0 δ1 /\
 (∀i x δ',xs[i]?=some x->I i δ'->g x δ' (tb { R with nx:=I (i+1),ct:=I (i+1),bk:=R.nx,tp:=False }))/\∀δ',I xs.length δ'->R.nx δ'
theorem exsP{K:Zf}{W:XK}{R:Str->Str->D->Prop}(hP:∀p∈P,p∈P1)(k:∀c f d,R c f d->∀e C dx δ' σ' H',S K G δ' ((.exn c f d,.ref e)::P) σ' H'->H' e=some (XAt e C dx)->W (.ref e) (some dx) H') :
  ∀c f d,R c f d->∀e C dx δ' σ' H',S K G δ' ((.exn c f d,.ref e)::P1) σ' H'->H' e=some (XAt e C dx)->W (.ref e) (some dx) H':=λc f d r e C dx δ' σ' H' s=>k c f d r e C dx δ' σ' H' (s.sub λp hp=>by
 rcases GY.mp hp with rfl | hp
 ·simp
 ·simp[hP p hp])
theorem jE(hp:PassesOwn (model X.prog X.w) X.A X.env X.xe)(hc:X.calm=true)(hi:CI X tg e src)(hg:DG X tg g)(hb:DSs X body t)(hs:∀x,foldedSetIterable e X.env x=pure x:=by intro _;rfl) :
  DS X (.For tg e body [] pos) (dFor src g t):=by
 obtain⟨wi,hi,hw⟩:=hi;refine PS.imp (mG hp hc hi hg hb hs) λE σ H ⟨G,δ,P,R,s,h,k1,k2,k3,k4⟩=>?_;refine hw G δ P σ H _ _ s h λxs δ1 ⟨I,i0,turn,fin⟩ J P1 H1 hP s1 hgo hst hyl=>?_;refine⟨λi m σ H=>m=xs.length-i/\i<=xs.length/\∃δ,I i δ/\S X.K G δ P1 σ H,⟨xs.length,by simp,Ir _,δ1,i0,s1⟩,?_⟩;rintro i m σ H ⟨rfl,hi,δ',ii,s'⟩;obtain⟨A,x⟩:=id s'
 by_cases hlt:i<xs.length
 ·refine .inr ⟨hgo A _ _ i H x hlt,λσ' H'=>∃δ',I (i+1) δ'/\S X.K G δ' P1 σ' H',λσ' H' ⟨δ',p',s'⟩=>⟨xs.length-(i+1),by omega,rfl,hlt,δ',p',s'⟩,λy H' hy=>?_⟩;obtain⟨sm,d,hd,rd⟩:=hyl A _ _ i y H H' x hlt hy;refine⟨G,δ',P1,d,_,⟨A,(x.same sm).push rd⟩,turn i d δ' hd ii,λδ2 h2 σ2 H2 s2=>?_⟩;refine⟨G,δ2,P1,_,s2,h2,λδ3 h3 σ3 H3 s3=>⟨δ3,h3,s3⟩,⟨λd δ3 h3 v3 σ3 H3 s3=>k2.1 d δ3 h3 v3 σ3 H3 (s3.sub λp hp=>?_),k2.2.1,exsP hP k2.2.2⟩,λδ3 h3 σ3 H3 s3=>k1 δ3 h3 σ3 H3 (s3.sub λp hp=>hP p hp),λδ3 h3 σ3 H3 s3=>⟨δ3,h3,s3⟩,λz=>z.elim⟩
  rcases GY.mp hp with rfl | hp
  ·simp
  ·simp[hP p hp]
 ·have e:i=xs.length:=by omega
  subst e;exact .inl ⟨hst A _ _ H x,k1 δ' (fin δ' ii) σ H (s'.sub λp hp=>hP p hp)⟩
section
def Da(i:Nat)(tk tx:GH)(δ:En)(R:W->En->Prop):Prop:=qWD δ[i]? λ_ _ _=>tk δ (wd λz δ1=>tx δ1 (wd λx δ2=>AX δ2[i]? λks ds=>qX z λy=>R (.d ((dAt ks ds y).getD x)) δ2))
theorem Ad(i:Nat)(hu:X.A.units+64<cLine)(he:DE X e ta)(hf:DE X f tb)(hN:X.N[i]?=some y:=by rfl)(hv:Vis X.env.scope y:=by walk_at "v3")
  (hd:(y==("__debug__":Str))=false:=by decide) (hcd:(y==("__classdict__":Str))=false:=by decide) (m:M2 X (.Name y p) "get" apos e f cpos:=by exact⟨rfl,rfl,rfl,rfl⟩) :
  DE X (.Call (.Attribute (.Name y p) "get" apos) [e,f] [] cpos) (Da i ta tb) :=
 PE.imp (vA (by omega) (bA hN hv hd hcd) he hf m) λσ H Q ⟨G,δ,P,R,s,h1,k,_⟩=>let ⟨a,ks0,ds0,hi0,h1⟩:=qWD.ex h1;⟨.ref a,s.own hi0,a,rfl,by
  obtain⟨A,q⟩:=id s;obtain⟨_,aa,vs,ab,l,rs⟩:=q.own i a _ hi0;exact .inl ⟨_,.inl ab⟩,up.mk s h1 λz δ1 h2 v H1 s1=>up.mk s1 h2 λx δ2 h3 w H2 ⟨A,q⟩=>by
   replace h3:=AX.ex q (s.own hi0) h3;obtain⟨ks,ds,hi,h3⟩:=h3;replace h3:=qX.ex h3;obtain⟨y,ez,r⟩:=h3;subst ez;obtain⟨_,aa,vs,ab,l,rs⟩:=q.own i a _ hi;have p2:v=.str y:=bm (q.pnd (.str y,v) (by simp));have g:=mQ.k (k:=Sum.inr y) ab;rw[cV] at g;refine⟨_,by rw[p2];exact g,?_⟩
   cases ed:dAt ks ds y with
   | some d =>
    obtain⟨w',hw,ah⟩:=(Reps.dAt y ks ds vs rs).1 d ed;rw[ed] at r;rw[hw];exact k d δ2 r w' H2 ⟨A,(q.sub (P':=P) λp hp=>by simp[hp]).push ah⟩
   | none =>
    have hw:=(Reps.dAt y ks ds vs rs).2 ed
    rw[ed] at r;rw[hw]
    exact k x δ2 r w H2 ⟨A,q.sub λp hp=>by
     rcases GY.mp hp with rfl | hp
     ·simp
     ·simp[hp]⟩⟩
end
end DL
namespace Mf
open PySem L2 DL
def GK(t:Str×Int):D:=.tup [.str t.1,.int t.2]
structure my(names:Zb)(ts:List (Str×Int)):Prop where
 sub:(ts.map (·.1)).Sublist names
 nz:∀t∈ts,t.2≠0
 bits:∀t∈ts,Builtin.Int.intBits t.2<=10000
theorem fe{ts:List (Str×Int)}{i:Nat}(h:(ts.map GK)[i]?=some d):∃t,ts[i]?=some t/\d=.tup [.str t.1,.int t.2]:=by
 rw[G6] at h
 cases e:ts[i]? with
 | none=>rw[e] at h;cases h
 | some n=>rw[e] at h;exact⟨n,rfl,(G4 h).symm⟩
theorem aI{α:Type}{l:List α}{i:Nat}{x:α}(h:l[i]?=some x):l.take (i+1)=l.take i++[x]:=by rw[List.take_add_one,h];rfl
inductive Kd where
 | least | more
def kdS:Kd->Str
 | .least=>"least"
 | .more=>"more"
def lr(k:Kd)(ts:List (Str×Int))(b:Int):D:=.tup [.str (kdS k),.tup (ts.map GK),.int b]
theorem tF:∀ts:List (Str×Int),D.nds (ts.map GK)=true
 | []=>rfl
 | t::r=>by rw[Hs];unfold D.nds;rw[tF r];rfl
theorem uK:∀ts:List (Str×Int),D.dps (ts.map GK)<=1
 | []=>Ir _
 | t::r=>by
  rw[Hs];unfold D.dps;exact Nat.max_le.mpr ⟨by show 1<=1;decide,uK r⟩
def Gq(p:Int×Int):D:=.tup [.int p.1,.int p.2]
def sy(ks:Zb)(ps:Za)(n:Str):Int×Int:=(dAt ks ps n).getD (0,1)
def pT(ks:Zb)(ps:Za)(n:Str):Int:=(sy ks ps n).1
def pB(ks:Zb)(ps:Za)(n:Str):Int:=(sy ks ps n).2
theorem ui(f:α->β):∀(ks:Zb) (ps:List α) (n:Str),dAt ks (ps.map f) n=(dAt ks ps n).map f
 | [],ps,n=>by cases ps<;>rfl
 | k::ks,[],n=>rfl
 | k::ks,p::ps,n=>by
  show (if k=n then some (f p) else dAt ks (ps.map f) n)=(if k=n then some p else dAt ks ps n).map f
  by_cases e:k=n
  ·rw[Hc e,Hc e];rfl
  ·rw[Ha e,Ha e];exact ui f ks ps n
theorem uJ:∀ {ks:Zb} {ps:List α} {n:Str} {p:α},dAt ks ps n=some p->p∈ps
 | [],ps,n,p,h=>by cases ps<;>cases h
 | k::ks,[],n,p,h=>by cases h
 | k::ks,x::ps,n,p,h=>by
  have h:(if k=n then some x else dAt ks ps n)=some p:=h
  by_cases e:k=n
  ·rw[Hc e] at h;cases h;exact GT ..
  ·rw[Ha e] at h;exact GP _ (uJ h)
theorem fC{names:Zb}{i:Nat}(h:(names.map D.str)[i]?=some d):∃n,names[i]?=some n/\d=.str n:=by
 rw[G6] at h
 cases e:names[i]? with
 | none=>rw[e] at h;cases h
 | some n=>rw[e] at h;exact⟨n,rfl,(G4 h).symm⟩
theorem gK(h:x∉ks):jj ks x=ks++[x]:=by unfold jj;rw[Ha h]
theorem gS(h:x∉ks):ln ks ds x y=ds++[y]:=by unfold ln;rw[Ha h]
theorem kQ{l:Zb}{i:Nat}{x:Str}(nd:l.Nodup)(h:l[i]?=some x):x∉l.take i:=by
 intro hm;obtain⟨j,hj,e⟩:=List.getElem_of_mem hm;rw[HP] at hj;rw[List.getElem_take] at e;obtain⟨hi,e2⟩:=GZ.mp h;have:=(List.getElem_inj (h₀:=by omega) (h₁:=hi) nd).mp (e.trans e2.symm);omega
theorem vg{l:Zb}{i:Nat}{x:Str}(h:l[i]?=some x):x∈l:=G9 h
theorem cY(f:Str->α):∀ {names:Zb} {n:Str},n∈names->dAt names (names.map f) n=some (f n)
 | x::r,n,h=>by
  show (if x=n then some (f x) else dAt r (r.map f) n)=_
  by_cases e:x=n
  ·rw[Hc e,e]
  ·rw[Ha e];exact cY f ((GY.mp h).resolve_left λz=>e z.symm)
abbrev Rw:=Kd×List (Str×Int)×Int
def GF(r:Rw):D:=lr r.1 r.2.1 r.2.2
def cf:List (Str×Int)->Str->Int
 | [],_=>0
 | t::r,n=>(if t.1=n then t.2 else 0)+cf r n
def cfs:List (Rw×Int)->Str->Int
 | [],_=>0
 | p::r,n=>p.2*cf p.1.2.1 n+cfs r n
def bds:List (Rw×Int)->Int
 | []=>0
 | p::r=>p.2*p.1.2.2+bds r
def isM:Kd->Bool
 | .least=>false
 | .more=>true
def Gv(l:List (Rw×Int)):Bool:=l.any λp=>isM p.1.1&&decide (0<p.2)
def kOf:Bool->Kd
 | true=>.more
 | false=>.least
theorem uQ:∀ {a b:List (Str×Int)},cf (a++b) n=cf a n+cf b n
 | [],b=>(Jq _).symm
 | t::a,b=>by show _+cf (a++b) n=_+cf a n+_;rw[uQ];omega
theorem tq:∀ {a b:List (Rw×Int)},cfs (a++b) n=cfs a n+cfs b n
 | [],b=>(Jq _).symm
 | t::a,b=>by show _+cfs (a++b) n=_+cfs a n+_;rw[tq];omega
theorem uf:∀ {a b:List (Rw×Int)},bds (a++b)=bds a+bds b
 | [],b=>(Jq _).symm
 | t::a,b=>by show _+bds (a++b)=_+bds a+_;rw[uf];omega
theorem Ar:Gv (a++b)=(Gv a||Gv b):=List.any_append
theorem Bj:Gv [p]=(isM p.1.1&&decide (0<p.2)):=by unfold Gv;simp
theorem jb:∀ {ts:List (Str×Int)},n∉ts.map (·.1)->cf ts n=0
 | [],_=>rfl
 | t::r,h=>by
  rw[Hs,GY,not_or] at h;show (if t.1=n then t.2 else 0)+cf r n=0;rw[Ha (λz=>h.1 z.symm),jb h.2];rfl
structure eM(F:Str->Int)(ts:List (Str×Int)):Prop where
 pw:(ts.map (·.1)).Pairwise leS
 nd:(ts.map (·.1)).Nodup
 val:∀t∈ts,t.2=F t.1/\t.2≠0
 all:∀n,F n≠0->n∈ts.map (·.1)
theorem eM.ext{F:Str->Int}{ts us:List (Str×Int)}(h1:∀t∈ts,t.2=F t.1)(h2:∀t∈us,t.2=F t.1)(h:ts.map (·.1)=us.map (·.1)):ts=us:=by
 have e:∀ {l:List (Str×Int)},(∀t∈l,t.2=F t.1)->l=(l.map (·.1)).map λn=>(n,F n):=λ{l} hl=>by
  rw[HK]
  conv=>lhs;rw[<- Km l]
  refine List.map_congr_left λt ht=>?_;show t=(t.1,F t.1);rw[<- hl t ht]
 rw[e h1,e h2,h]
theorem eM.uniq(a:eM F ts)(b:eM F us):ts=us:=by
 refine eM.ext (λt h=>(a.val t h).1) (λt h=>(b.val t h).1) (ki a.pw b.pw a.nd b.nd λn=>⟨λh=>b.all n ?_,λh=>a.all n ?_⟩)
 ·obtain⟨t,ht,rfl⟩:=GR.mp h;rw[<- (a.val t ht).1];exact(a.val t ht).2
 ·obtain⟨t,ht,rfl⟩:=GR.mp h;rw[<- (b.val t ht).1];exact(b.val t ht).2
theorem eM.mk'{F:Str->Int}{ns:Zb}(pw:ns.Pairwise leS)(nd:ns.Nodup)(all:∀n,F n≠0->n∈ns):eM F ((ns.filter λn=>decide (F n≠0)).map λn=>(n,F n)):=by
 have e:((ns.filter λn=>decide (F n≠0)).map λn=>(n,F n)).map (·.1)=ns.filter λn=>decide (F n≠0):=by rw[HK];exact Km _
 refine⟨by rw[e];exact pw.filter _,by rw[e];exact nd.filter _,λt ht=>?_,λn hn=>?_⟩
 ·obtain⟨n,h1,rfl⟩:=GR.mp ht;exact⟨rfl,by simpa using (G1.mp h1).2⟩
 ·rw[e,G1];exact⟨all n hn,by simpa using hn⟩
theorem pJ(h:∀n,n≠x->g n=f n):∀ks:Zb,mS ks (ks.map f) x (g x)=ks.map g
 | []=>rfl
 | k::ks=>by
  show (if k=x then g x else f k)::mS ks (ks.map f) x (g x)=g k::ks.map g
  rw[pJ h ks]
  by_cases e:k=x
  ·rw[Hc e,e]
  ·rw[Ha e,h k e]
theorem zZ(h:∀n,n≠x->g n=f n):ln ks (ks.map f) x (g x)=(jj ks x).map g:=by
 unfold ln jj
 by_cases e:x∈ks
 ·rw[Hc e,Hc e,pJ h]
 ·rw[Ha e,Ha e,Hg]
  congr 1
  exact List.map_congr_left λn hn=>(h n λz=>e (z ▸ hn)).symm
theorem sX(h:ks.Nodup):(jj ks x).Nodup:=by
 unfold jj
 by_cases e:x∈ks
 ·rw[Hc e];exact h
 ·rw[Ha e,Iw];exact⟨h,by simp,λa ha b hb z=>by rw[GX.mp hb] at z;exact e (z ▸ ha)⟩
theorem pC:n∈jj ks x↔n∈ks\/n=x:=by
 unfold jj
 by_cases e:x∈ks
 ·rw[Hc e];exact⟨.inl,λh=>h.elim id λz=>z ▸ e⟩
 ·rw[Ha e,Hb,GX]
theorem jp:∀ {ks nm:Zb},ks.Nodup->(∀n∈ks,n∈nm)->ks.length<=nm.length
 | [],_,_,_=>Ir _
 | k::ks,nm,h,hs=>by
  obtain⟨h1,h2⟩:=Ib.mp h;have hk:=hs k (GT ..);have:=jp (ks:=ks) (nm:=nm.erase k) h2 λn hn=>(List.mem_erase_of_ne (λz=>h1 (by rw[<- z];exact hn))).mpr (hs n (GP _ hn));rw[List.length_erase_of_mem hk] at this;have:0<nm.length:=List.length_pos_of_mem hk;rw[G0];omega
theorem uu:∀ {ks:Zb} {ds:List α},x∉ks->dAt ks ds x=none
 | [],ds,_=>by cases ds<;>rfl
 | k::ks,[],_=>rfl
 | k::ks,d::ds,h=>by
  rw[GY,not_or] at h;show (if k=x then some d else dAt ks ds x)=none;rw[Ha (λz=>h.1 z.symm)];exact uu h.2
theorem v5{F:Str->Int}{ks:Zb}(h:x∉ks->F x=0):(dAt ks (ks.map λn=>D.int (F n)) x).getD (.int 0)=.int (F x):=by
 by_cases e:x∈ks
 ·rw[cY (λn=>D.int (F n)) e];rfl
 ·rw[uu e,h e];rfl
theorem wo{rows:List Rw}{ws:Ze}:sw (rows.map GF) (ws.map D.int)=(rows.zip ws).map λp=>D.tup [GF p.1,.int p.2]:=by
 unfold sw;rw[List.zipWith_map,List.zip,Kb]
theorem ti{nm:Zb}{n:Str}:∀ {l:List (Rw×Int)},(∀p∈l,∀t∈p.1.2.1,t.1∈nm)->cfs l n≠0->n∈nm
 | [],_,h=>absurd rfl h
 | p::r,hp,h=>by
  refine G2 λz=>?_;have h1:cfs r n=0:=G2 λy=>z (ti (λp h=>hp p (GP _ h)) y);have h2:cf p.1.2.1 n=0:=jb λhm=>by
   obtain⟨t,ht,e⟩:=GR.mp hm;exact z (e ▸ hp p (GT ..) t ht)
  refine h ?_;show p.2*cf p.1.2.1 n+cfs r n=0;rw[h1,h2,Int.mul_zero,Jq]
structure RwOk(nm:Zb)(B:Nat)(r:Rw):Prop where
 sub:∀t∈r.2.1,t.1∈nm
 bw:∀t∈r.2.1,Builtin.Int.intBits t.2<=B
 bb:Builtin.Int.intBits r.2.2<=B
structure Pt(ks:Zb)(ps:Za)(X:Nat):Prop where
 len:ps.length=ks.length
 low:∀p∈ps,Gs p.1 p.2
 b1:∀p∈ps,Builtin.Int.intBits p.1<=X
 b2:∀p∈ps,Builtin.Int.intBits p.2<=X
theorem Pt.at(hp:Pt ks ps X)(h:n∈ks):dAt ks ps n=some (sy ks ps n)/\sy ks ps n∈ps:=by
 have e:=e8 (ks:=ks) (ds:=ps) (x:=n) hp.len.symm
 rw[HJ h] at e
 cases q:dAt ks ps n with
 | none=>rw[q] at e;cases e
 | some p =>
  have:sy ks ps n=p:=by unfold sy;rw[q];rfl
  rw[this];exact⟨rfl,uJ q⟩
theorem Pt.D(hp:Pt ks ps X)(h:n∈ks):dAt ks (ps.map Gq) n=some (.tup [.int (pT ks ps n),.int (pB ks ps n)]):=by
 rw[ui,(hp.at h).1];rfl
theorem Pt.pos(hp:Pt ks ps X)(h:n∈ks):0<pB ks ps n:=(hp.low _ (hp.at h).2).pos
theorem Pt.Tb(hp:Pt ks ps X)(h:n∈ks):Builtin.Int.intBits (pT ks ps n)<=X:=hp.b1 _ (hp.at h).2
theorem Pt.mono(hp:Pt ks ps X)(h:X<=Y):Pt ks ps Y:=⟨hp.len,hp.low,λp hq=>GS (hp.b1 p hq) h,λp hq=>GS (hp.b2 p hq) h⟩
end Mf
namespace DL
open PySem PySem.Spec PyProof.Rows L2
section
variable {X:Cx} {pos:Pos} {a b e:Expr} {es:List Expr} {ta tb:GH} {t:TDA}
theorem rX:cq X (.type "dict") (λxs H Q=>∃a kvs,xs=[.ref a]/\Rd H a (.dK kvs)/\∀l,H l=none->Q (.ref l) (GE H l (.dK kvs))):=by
 intro pins s σ H xs us Q I rv h;obtain⟨a,kvs,rfl,e,k⟩:=h;obtain⟨u,rfl,ru⟩:=gH rv
 cases ru
 obtain⟨hz,lo,va,ra,da⟩:=j8 I.hok e;have fr:H s.heap.objs.size=none:=I.hok.fresh (GU _);refine kt_call_dict lo da (by rw[<- ra.length];exact hz) λh' dd sb=>?_;have kp:∀b o,s.heap.get? b=some o->h'.get? b=some o:=λb o e=>sb.extBut b o (Ho (G3 e)) (GO _ e);have aa:(s.heap.objs.size==sysModules)=false:=JH.mpr (IC I.big);exact⟨.ref _,_,I.laid (t':=s.toks) kp (GU _) (xH hz aa ra dd),rfl,k _ fr⟩
def qZ:D->(Zb->Zi->Prop)->Prop
 | .dct ks ds,k=>k ks ds
 | .fd ks ds,k=>k ks ds
 | _,_=>False
theorem qZ.ex(h:qZ d k):∃ks ds,(d=.dct ks ds\/d=.fd ks ds)/\k ks ds:=by
 cases d<;>first | exact False.elim h | exact⟨_,_,.inl rfl,h⟩ | exact⟨_,_,.inr rfl,h⟩
def yC(i:Nat)(te:GH)(R:aP)(δ:En):Prop:=te δ (wd λd δ1=>qZ d λks ds=>∀a,lq δ1 i (.own a (.dct ks ds)) R.nx)
theorem wI(i:Nat)(hN:X.N.Nodup)(hg:Gl X "dict")(hm:X.mg "dict"=none)(he:DE X e ta)(hi:X.N[i]?=some y:=by rfl)(hx:Loc X.env.scope y:=by walk_at "v2")
  (h2:starEach [e] X.env=(false,eval e X.env)::starEach [] X.env:=by rfl) (hpl:(backTo pos2 (starEach [] X.env)).any (·.1)=false:=by rfl)
  (hs:swapsWith (.Call (.Name "dict" p) [e] [] pos2) (some (.Name y pos')) pos.line X.env=pure false:=by rfl) (hf:X.fn y=true\/X.env.scope.names.lookup y=some .local :=by walk_at "v1") :
  DS X (.Assign [.Name y pos'] (.Call (.Name "dict" p) [e] [] pos2) pos) (yC i ta) :=
 PS.imp (jH hN hi hx (iB rX hg hm CC (aM he ci h2) (by decide) (by decide) h2 hpl) hs hf) λE σ H ⟨G,δ,P,R,s,h,k,_⟩=>up.mk s h λd δ1 h1 v H1 ⟨A,q⟩=>by
  replace h1:=qZ.ex h1;obtain⟨ks,ds,ed,r⟩:=h1;have r0:∃a0 vs,v=.ref a0/\Rd H1 a0 (.dK (bG ks vs))/\ks.length=ds.length/\Reps X.K (λb=>G.M0 b\/A b) H1 ds vs:=by
   rcases ed with ed | ed
   ·subst ed;have r0:=q.pnd (.dct ks ds,v) (by simp);unfold GI at r0;obtain⟨a0,vs,e,n0,e0,l0,rs⟩:=r0;exact⟨a0,vs,e,.inl e0,l0,rs⟩
   ·subst ed;have r0:=q.pnd (.fd ks ds,v) (by simp);unfold GI at r0;obtain⟨a0,vs,o,e,e0,l0,rs⟩:=r0;exact⟨a0,vs,e,.inr ⟨o,e0⟩,l0,rs⟩
  obtain⟨a0,vs,rfl,e0,l0,rs⟩:=r0;refine⟨a0,_,rfl,e0,λl hl=>?_⟩;have sm:=aF hl (.dK (bG ks vs));refine k _ (r l) _ _ ⟨_,q.claim (P':=P) hl sm ⟨vs,aw,l0,Reps.kp (Kp.of_same sm) _ _ (Reps.more (λb z=>?_) _ _ rs)⟩ λq hq=>GP _ hq⟩
  rcases z with z | z
  ·exact .inl z
  ·exact .inr (by rw[z];exact hl)
def Fl:V->Zg->Hp->VK->Prop:=λx vs H Q=>∃l xs y,x=.ref l/\vs=[.int 0,y]/\H l=some (.lst xs)/\xs.length<sizeLine/\Q .non (GE H l (.lst (y::xs)))
theorem Ac:MtM X "list.insert" Fl:=by
 intro pins s σ H x vs v us Q I rx rv h;obtain⟨l,xs,y,rfl,rfl,hH,hz,q⟩:=h
 cases rx
 cases rv with
 | cons r0 rv =>
  obtain⟨t,rfl⟩:=r0;obtain⟨u,rfl,ru⟩:=gH rv;obtain⟨z,aa,n,r,hl,e⟩:=I.lstM hH;refine call_meets PySem.F.slot_list_insert ⟨_,e,rfl⟩ PySem.F.entry_list_insert (PySem.F.args_list_insert_3 _ _ _) (PySem.AutoSeq1.list_insert_list_int_val_1 l aa.toArray n 0 t u (by decide) (by rw[G8];omega)) ⟨e,?_⟩;refine⟨.non,_,I.lset (its':=u::aa) hH e ?_ (.cons ru r) ?_,rfl,q⟩
  ·apply Array.toList_inj.mp;simp
  ·rw[G0];omega
def CY(i:Nat)(te:GH)(R:aP)(δ:En):Prop:=qWL δ[i]? λa _=>te δ (wd λx δ1=>Bo δ1[i]? λds=>ds.length<9000/\lq δ1 i (.own a (.lst (x::ds))) R.nx)
theorem wv(i:Nat){j0}(he:DE X e ta)(hN:X.N[i]?=some y:=by rfl)(hv:Vis X.env.scope y:=by walk_at "v3")
  (hd:(y==("__debug__":Str))=false:=by decide) (hcd:(y==("__classdict__":Str))=false:=by decide)
  (hbase:attributeBase (.Name y p) "insert" X.env (eval (.Name y p) X.env)=eval (.Name y p) X.env:=by rfl)
  (hfew:((backTo cpos (starEach [.Constant (.int 0) j0 p0,e] X.env)).all (λx=>!x.1)&&(backToKw cpos (keywordEach [] X.env)).all (λx=>x.1.isSome)&&decide ([Expr.Constant (.int 0) j0 p0,e].length+([]:List Keyword).length+(if ([]:List Keyword).isEmpty then 0 else 1)<30))=true:=by rfl)
  (hline:(apos.endLine==cpos.line)=true:=by rfl) (hs:starEach [.Constant (.int 0) j0 p0,e] X.env=(false,eval (.Constant (.int 0) j0 p0) X.env)::starEach [e] X.env:=by rfl) (hs2:starEach [e] X.env=(false,eval e X.env)::starEach [] X.env:=by rfl) (hplain:(backTo cpos (starEach [e] X.env)).any (·.1)=false:=by rfl)
  (hsw:swapsWith (.Call (.Attribute (.Name y p) "insert" apos) [.Constant (.int 0) j0 p0,e] [] cpos) none pos.line X.env=pure false:=by rfl) :
  DS X (.Expr (.Call (.Attribute (.Name y p) "insert" apos) [.Constant (.int 0) j0 p0,e] [] cpos) pos) (CY i ta) :=
 PS.imp (eO (DD PySem.F.plainAttrs_list PySem.F.slot_list_insert PySem.F.type_list_insert Ac (bA hN hv hd hcd) (aM yi (aM he ci hs2) hs) hbase hfew hline hs hplain) hsw) λE σ H ⟨G,δ,P,R,s,h,k,_⟩=>by
  replace h:=qWL.ex h;obtain⟨a,al,ai,h⟩:=h;obtain⟨A0,x0⟩:=id s;obtain⟨h0,_,aj,ah,_⟩:=fN x0 ai;refine⟨.ref a,h0,.inl ⟨rfl,aj,GL.of ah⟩,up.mk s h λx δ1 h1 v H1 ⟨A,q⟩=>?_⟩;replace h1:=Bo.ex q h0 h1;obtain⟨ds,hi,hz,r⟩:=h1;obtain⟨_,aa,vs,ab,rs⟩:=fN q hi;refine⟨a,vs,v,rfl,rfl,ab,by rw[<- Reps.length _ _ rs];exact iM (IH hz),k _ r _ _ ⟨A,(q.change (d':=.lst (x::ds)) hi (λb o n e=>by rw[aH n];exact e) ⟨v::vs,aw,?_⟩).sub (P':=P) λq hq=>GP _ hq⟩⟩;have kp:Kp (λb=>G.M0 b\/A b) H1 (GE H1 a (.lst (v::vs))):=by
   have hk:∀b o,b≠a->H1 b=some o->GE H1 a (.lst (v::vs)) b=some o:=λb o n e=>by rw[aH n];exact e
   exact⟨λb o e n=>hk b o (λz=>n (.inr (by rw[z];exact aa))) e,λb xs e=>hk b _ (λz=>by rw[z,ab] at e;cases e) e,λb o u e=>hk b _ (λz=>by rw[z,ab] at e;cases e) e⟩
  exact Reps.kp kp _ _ (Reps.cons (q.pnd (x,v) (by simp)) rs)
structure GEnd(K:Zf)(mg:Str->Zd)(x:Str):Prop where
 ex:∃a o n,mg x=some (.ref a)/\K.lookup a=some o/\o.cls=.type "tuple"/\o.data=.seq #[.none,.bool false] n
theorem mT(hg:Gl X x)(h:GEnd X.K X.mg x)(hd:(x==("__debug__":Str))=false:=by decide):DE X (.Name x pos) (dC (.tup [.non,.bl false])):=by
 obtain⟨a,o,n,e,h1,h2,h3⟩:=h.ex;refine PE.imp (iP (v:=.ref a) hg e rfl hd) λσ H Q ⟨G,δ,P,R,⟨A,s⟩,h,k,_⟩=>k _ δ h _ H ⟨A,s.push ?_⟩;unfold GI;exact⟨a,[.non,.bl false],rfl,.inr ⟨o,_,n,h1,h2,h3,by show 2<=sizeLine;decide,.cons rfl (.cons rfl .nil)⟩,Reps.cons (by unfold GI;rfl) (Reps.one (by unfold GI;rfl))⟩
end
end DL
namespace DL
open PySem PySem.Spec PyProof.Rows L2
def Ite(K:Zf)(k:Bool)(a:Addr):It :=
  ⟨λi H=>∃xs x,Go k K H a xs/\xs[i]?=some x,
   λi H v H'=>∃T x,H T=none/\H'=GE H T (.tup [.int (i:Nat),x])/\v=.ref T/\∀xs,Go k K H a xs->xs[i]?=some x,
   λi H=>∃xs,Go k K H a xs/\xs.length=i⟩
def EI(k:Bool)(h:Heap)(e it a:Addr)(m:Nat):Prop:=(∃old,IsEnum h e it ((m:Nat):Int) old)/\ItA k h it a m
section
theorem sN(hh:A.handled=none)(hne:a≠it):Draws prog w A it [it,a] xs.size (λi v=>xs[i]?=some v) (λi h=>ItA k h it a i/\SqA k h a xs) where
 live:=λi h z=>let ⟨o,e,_⟩:=z.1.obj;⟨o,e⟩
 frame:=λi h h' z kk=>⟨z.1.keep λo e=>kk it (by simp) o e,z.2.keep λo e=>kk a (by simp) o e⟩
 item:=λi s Q E hi z hQ=>xC z.1 z.2 (Hn hi) λh' z' sb=>hQ _ h' s.toks (Hn hi) ⟨z',z.2.keep λo e=>sb.extBut _ _ hne e⟩ sb
 done:=λs Q E z hE=>ja hh z.1 z.2 (IP (GU _)) hE
def eh(k:Bool)(h:Heap)(a:Addr):Heap:=(h.push { cls:=.type (if k then "list_iterator" else "tuple_iterator"),data:=.fields #[.ref a,.int 0 0] }).push { cls:=.type "enumerate",data:=.fields #[.none,.bool false,.ref h.objs.size,rawInt 0,.none,.none] }
theorem BU(k:Bool)(a:Addr)(xs:Array Value):Meets (Builtin.«enumerate.__new__» ⟨[.type "enumerate",.ref a],[]⟩) (λ_ R s=>SqA k s.heap a xs/\R (.ok (.ret (.ref (s.heap.objs.size+1)))) { s with heap:=eh k s.heap a }) :=
 .of_wp λprog w A R s h=>by
  obtain⟨hp,g,d,tk,os⟩:=s;obtain⟨a1,h⟩:=h;have aa:=sub_enumerate;have b1:SqA k (Shared.heap ⟨hp,g,d,tk,os⟩) a xs:=a1;obtain⟨o,ho,_⟩:=b1.there;have e:(Shared.heap ⟨hp,g,d,tk,os⟩).objs.size+1=(hp.push { cls:=.type (if k then "list_iterator" else "tuple_iterator"),data:=.fields #[.ref a,.int 0 0] }).objs.size:=(HN ..).symm;rw[e] at h
  wp_walk using wpAny_loadPart' ho
  refine wpAny_stack_any λst=>GQ (by
   split
   ·rename_i c _ _ _ _ _
    cases (c==Value.type "enumerate")<;>(wp_walk using wpAny_loadPart' ho,o6 b1)<;>exact⟨_,rfl,h⟩
   ·wp_walk using wpAny_loadPart' ho,o6 b1
    exact⟨_,rfl,h⟩)
theorem FX(a1:SqA k s.heap a xs)
  (h:IsEnum (eh k s.heap a) (s.heap.objs.size+1) s.heap.objs.size 0 .none->ItA k (eh k s.heap a) s.heap.objs.size a 0->(∀c o,s.heap.get? c=some o->(eh k s.heap a).get? c=some o)->Q (.ref (s.heap.objs.size+1)) { s with heap:=eh k s.heap a }):wpAny (model prog w) A (call (.type "enumerate") [.ref a]) Q E s:=by
 refine callType_new F.called_enumerate (by decide) (F.typeCall_enumerate_1 _) (F.newCall_enumerate_1 _) (λobj=>F.args_object_init_2 obj _) F.entry_enumerate_new (BU k a xs) ⟨a1,?_⟩;have sz:∀(h:Heap) (o:Obj) (n:Nat),h.objs.size=n->o.isFreed=false->(h.push o).get? n=some o:=λh o n e f=>by rw[<- e];exact G5 _ f
 have e1:IsEnum (eh k s.heap a) (s.heap.objs.size+1) s.heap.objs.size 0 .none:=sz _ _ _ (HN ..) rfl
 have e0:(eh k s.heap a).get? s.heap.objs.size=some _:=GO _ (G5 _ rfl)
 exact⟨⟨_,e1,rfl⟩,h e1 (by cases k<;>exact⟨_,e0,rfl,rfl⟩) λc o e=>GO _ (GO _ e)⟩
end
theorem uR{w:World}{K:Zf}{x1}{it:Addr}(hne:e≠it)(hea:e≠a)(hia:a≠it):At P w K (.Tuple elts x1 pos) (Ite K k a) [e,it] e (λm h=>EI k h e it a m) where
 mem:=by simp
 obj:=λm h Z c hc=>by
  obtain⟨⟨aa,z⟩,zi⟩:=Z;simp only[List.mem_cons,List.not_mem_nil,or_false] at hc
  rcases hc with rfl | rfl
  ·exact⟨_,z,λv=>nofun⟩
  ·obtain⟨q,x,_,d⟩:=zi.obj;exact⟨q,x,λv=>by rw[d];nofun⟩
 keep:=λm h h' Z kk=>by
  obtain⟨⟨aa,z⟩,zi⟩:=Z;exact⟨⟨aa,kk _ (by simp) _ z⟩,zi.keep λo x=>kk _ (by simp) o x⟩
 item:=by
  intro X hP hw hK hc m pins s σ H E I hf Z hg;subst hP hw hK;obtain⟨xs,x,h1,hx⟩:=hg;obtain⟨⟨aa,z⟩,zi⟩:=Z;obtain⟨is,r1,p1⟩:=Go.at I h1;obtain⟨u,hu,ru⟩:=r1.get hx;have hm:m<is.toArray.size:=by rw[G8];exact(GZ.mp hu).1
  refine wpAny_pyNext_enum_itemD (sN (I.ok.hd hc) hia) z ⟨zi,p1⟩ hm hne (by simp[hne,hea]) λy h' tk hy e1 i1 t1 n1 kk=>⟨_,rfl,?_⟩;have ey:y=u:=by rw[List.getElem?_toArray,hu] at hy;exact(G4 hy).symm
  subst ey;refine wpAny_letOwnedTupleGo_enum (s:={ s with heap:=h',toks:=tk+1 }) e1 λh2 e2 s2=>?_;have s2:Heap.SameBut e h' h2:=s2;have ab:H s.heap.objs.size=none:=I.hok.fresh (GU _);have I1:Inv X pins σ (GE H s.heap.objs.size (.tup [.int (m:Nat),x])) { s with heap:=s.heap.push { cls:=.type "tuple",data:=.seq #[.int (m:Nat) tk,y] },toks:=tk+1 }:=I.laid (t':=tk+1) (λb u e=>GO _ e) (GU _) ⟨by show 2<=sizeLine;decide,[.int (m:Nat) tk,y],.cons ⟨_,rfl⟩ (.cons ru .nil),⟨_,G5 _ rfl,rfl,_,rfl⟩⟩;have ne:∀ {c o},s.heap.get? c=some o->c≠s.heap.objs.size:=λe=>Ho (G3 e);have le:e≠s.heap.objs.size:=ne z;have li:it≠s.heap.objs.size:=by obtain⟨q,y,_⟩:=zi.obj;exact ne y
  have fr:∀c∈[e,it],GE H s.heap.objs.size (.tup [.int (m:Nat),x]) c=none:=λc hc'=>by
   rw[aH (by simp only[List.mem_cons,List.not_mem_nil,or_false] at hc';rcases hc' with rfl | rfl;exact le;exact li)];exact(hf c hc').1
  have I2:Inv X pins σ (GE H s.heap.objs.size (.tup [.int (m:Nat),x])) { s with heap:=h2,toks:=tk+1 }:=lg (s:={ s with heap:=s.heap.push { cls:=.type "tuple",data:=.seq #[.int (m:Nat) tk,y] },toks:=tk+1 }) (t':=tk+1) (fp:=[e,it]) I1 (λc q hc ec=>?_) λc hc=>⟨fr c hc,(hf c hc).2⟩
  ·exact⟨.ref s.heap.objs.size,_,I2,rfl,⟨_,x,ab,rfl,rfl,λzs hz=>by rw[Go.inj I hz h1];exact hx⟩,⟨⟨_,e2⟩,i1.1.keep λo y=>s2.extBut _ _ (IF hne) y⟩,fr⟩
  ·have n1:c≠e:=λz=>hc (by rw[z];simp)
   have n2:c≠it:=λz=>hc (by rw[z];simp)
   rcases Heap.get?_push_cases ec with⟨rfl,rfl⟩ | ec
   ·exact s2.extBut _ _ n1 t1
   ·exact s2.extBut _ _ n1 (kk c q n1 n2 ec)
 done:=by
  intro X hP hw hK hc m pins s σ H E I hf Z hg;subst hP hw hK;obtain⟨xs,h1,hl⟩:=hg;obtain⟨⟨aa,z⟩,zi⟩:=Z;obtain⟨is,r1,p1⟩:=Go.at I h1;have l1:=r1.length;have hm:is.toArray.size=m:=by rw[G8];omega
  subst hm;exact wpAny_pyNext_enum_endD (sN (I.ok.hd hc) hia) z ⟨zi,p1⟩ λh' kk=>⟨rfl,lg (t':=s.toks) (fp:=[e,it]) I (λc q hc e=>kk c q (λz=>hc (by rw[z];simp)) e) hf⟩
 self:=λ_ _ _ _ _ Z h=>wpAny_pyIter_enum Z.1.choose_spec h
section
def EH(K:Zf)(k:Bool)(ta:TA):TI:=λσ H R=>ta σ H λvs H1=>∃a,vs=[.ref a]/\(∃xs,Go k K H1 a xs)/\R (Ite K k a) H1
theorem zz{x1}(hg:Gl X "enumerate")(hm:X.mg "enumerate"=none)(ha:PA X [a] ta)(hs:starEach [a] X.env=[(false,eval a X.env)]:=by rfl) :
  PI X (.Tuple elts x1 pos') (.Call (.Name "enumerate" p) [a] [] pos) (EH X.K k ta):=by
 intro pins s σ H R I h;refine Call_ (eT I hg hm boot_enumerate (Ii (Gj (ha pos pins s σ H _ I h) λus s1 ⟨vs,H1,I1,r1,q1⟩=>?_) (by rw[hs];rfl) rfl));obtain⟨c,e,⟨xs,hx⟩,q⟩:=q1;subst e;obtain⟨u,rfl,ru⟩:=gH r1
 cases ru
 obtain⟨is,_,p1⟩:=Go.at I1 hx;obtain⟨o,ho,_⟩:=p1.there;have lt:=G3 ho;refine FX p1 λe1 i1 up=>wpAny_pyIter_enum (s:={ s1 with heap:=eh k s1.heap c }) e1 ?_;refine⟨_,[s1.heap.objs.size+1,s1.heap.objs.size],_,_,H1,rfl,I1.kept (t':=s1.toks) up,uR (Nat.succ_ne_self _) (IC (IK lt)) (Ho lt),⟨⟨_,e1⟩,i1⟩,λb hb=>?_,q⟩;have hb:s1.heap.objs.size<=b:=by
  simp only[List.mem_cons,List.not_mem_nil,or_false] at hb
  rcases hb with rfl | rfl
  ·exact JG ..
  ·exact GU _
 exact I1.fpOk hb (I1.hok.fresh hb)
def enD(xs:Zi):Zi:=xs.mapIdx λi x=>.tup [.int (i:Nat),x]
def xV(k:Bool)(t:TDA)(δ:En)(R:Zi->En->Prop):Prop:=t δ λds δ1=>qC ds λx r=>qN r <| qS k x λxs=>R (enD xs) δ1
theorem zA(k:Bool){x1}(hg:Gl X "enumerate")(hm:X.mg "enumerate"=none)(ha:DA X [a] ta)(hs:starEach [a] X.env=[(false,eval a X.env)]:=by rfl) :
  CI X (.Tuple elts x1 pos') (.Call (.Name "enumerate" p) [a] [] pos) (xV k ta) :=
 ⟨_,zz (k:=k) hg hm ha hs,λG δ P σ H R Q s hs kk=>⟨G,δ,P,_,s,hs,λds δ1 h1 vs H1 hl s1=>by
  replace h1:=qC.ex h1;obtain⟨x,r,e,h1⟩:=h1;replace h1:=qN.ex h1;obtain⟨e',h1⟩:=h1;replace h1:=qS.ex h1;obtain⟨xs,e2,r⟩:=h1;subst e2 e' e
  match vs,hl with
  | [v],_ =>
   have s2:S X.K G δ1 ((sq k xs,v)::P) σ H1:=s1
   have at1:∀A δ σ H,Sx X.K G A δ ((sq k xs,v)::P) σ H->∃a vs,v=.ref a/\Go k X.K H a vs/\Reps X.K (λb=>G.M0 b\/A b) H xs vs:=λA δ σ H x=>oY (x.pnd (sq k xs,v) (by simp))
   obtain⟨A1,x1⟩:=id s2;obtain⟨a,ab,rfl,l0,_⟩:=at1 _ _ _ _ x1;have ah:(enD xs).length=xs.length:=by unfold enD;rw[List.length_mapIdx]
   refine⟨a,rfl,⟨ab,l0⟩,kk _ δ1 r _ _ H1 (λq hq=>by simp[hq]) s2 (λA δ σ i H x hi=>?_) (λA δ σ H x=>?_) λA δ σ i y H H2 x hi hy=>?_⟩
   ·obtain⟨_,vs,e,l,r⟩:=at1 _ _ _ _ x
    cases e
    obtain⟨v',hv,_⟩:=Reps.get _ _ r i (xs[i]'(by omega)) (by simp);exact⟨vs,v',l,hv⟩
   ·obtain⟨_,vs,e,l,r⟩:=at1 _ _ _ _ x
    cases e
    have:=Reps.length _ _ r
    exact⟨vs,l,by omega⟩
   ·obtain⟨_,vs,e,l,r⟩:=at1 _ _ _ _ x
    cases e
    obtain⟨T,x',hT,rfl,rfl,hx⟩:=hy;have aa:i<xs.length:=by omega
    obtain⟨v',hv,rv⟩:=Reps.get _ _ r i xs[i] (by simp[aa]);have e1:=hx vs l;rw[hv] at e1;have e1:=G4 e1;rw[e1] at rv;have sm:bH H (GE H T (.tup [.int (i:Nat),x'])):=aF hT _;refine⟨sm,.tup [.int (i:Nat),xs[i]],?_,?_⟩
    ·unfold enD;rw[List.getElem?_mapIdx,Hl aa];rfl
    ·unfold GI
     exact⟨T,[.int (i:Nat),x'],rfl,.inl (.inl aw),Reps.cons (by unfold GI;rfl) (Reps.one (GI.kp (Kp.of_same sm) _ _ rv))⟩⟩⟩
end
def Itv(K:Zf)(a:Addr)(n:Nat):It :=
  ⟨λi H=>i<n/\∃xs x,GL K H a xs/\xs.length=n/\xs[n-1-i]?=some x,
   λi H v H'=>H'=H/\∀xs,GL K H a xs->xs[n-1-i]?=some v,
   λi _=>i=n⟩
theorem wJ{w:World}{K:Zf}{it:Addr}:At P w K tg (Itv K a n) [it] it (λi h=>h.IsRevIter it a ((n:Int)-1-(i:Nat))) where
 mem:=by simp
 obj:=λi h st b hb=>by
  have e:b=it:=by simpa using hb
  subst e;obtain⟨o,ho,_,d⟩:=st;exact⟨o,ho,λv=>by rw[d];nofun⟩
 keep:=λi h h' st k=>st.at λo e=>k it (by simp) o e
 item:=by
  intro X hP hw hK hc i pins s σ H E I hf st hg;subst hP hw hK;obtain⟨f0,f1,f2,f3,f4,f5⟩:=hf it (by simp);obtain⟨hi,xs,x,h1,hn,hx⟩:=hg;obtain⟨is,r1,p1,_⟩:=I.list h1;obtain⟨u,hu,ru⟩:=r1.get hx;have e:(n:Int)-1-(i:Nat)=((n-1-i:Nat):Int):=by omega
  rw[e] at st;refine wpAny_pyNext_rev_item st p1.isList (by simpa using hu) λh' st' sb=>⟨_,rfl,?_⟩;have e2:((n-1-i:Nat):Int)-1=(n:Int)-1-((i+1:Nat):Int):=by omega
  rw[e2] at st';obtain⟨o,ho,aa,ab⟩:=id st';have I1:Inv X pins σ H { s with heap:=h' }:=I.turned (t':=s.toks) (λb o hb e=>sb.extBut b o hb e) f0 f1 f3 f4 f5;exact vL (s:={ s with heap:=h' }) (n:="list_reverseiterator") ho aa ab (by decide) ⟨x,H,I1,ru,⟨rfl,λzs hz=>by rw[I.list_inj hz h1];exact hx⟩,st',λb hb=>(hf b hb).1⟩
 done:=by
  intro X hP hw hK hc i pins s σ H E I hf st hg;subst hP hw hK;obtain⟨f0,f1,f2,f3,f4,f5⟩:=hf it (by simp);have hg:i=n:=hg;subst hg;have e:(i:Int)-1-(i:Nat)=-1:=by omega
  rw[e] at st;exact wpAny_pyNext_rev_end (I.ok.hd hc) st λh' eb=>⟨rfl,I.turned (t':=s.toks) (λb o hb e=>eb b o hb e) f0 f1 f3 f4 f5⟩
 self:=λ_ _ _ _ _ st h=>wpAny_pyIter_revIter st h
section
def iRev(K:Zf)(ta:TA):TI:=λσ H R=>ta σ H λvs H1=>∃a xs,vs=[.ref a]/\GL K H1 a xs/\R (Itv K a xs.length) H1
theorem BN(hg:Gl X "reversed")(hm:X.mg "reversed"=none)(ha:PA X [a] ta)(hs:starEach [a] X.env=[(false,eval a X.env)]:=by rfl) :
  PI X tg (.Call (.Name "reversed" p) [a] [] pos) (iRev X.K ta):=by
 intro pins s σ H R I h;refine Call_ (eT I hg hm boot_reversed (Ii (Gj (ha pos pins s σ H _ I h) λus s1 ⟨vs,H1,I1,r1,q1⟩=>?_) (by rw[hs];rfl) rfl));obtain⟨c,xs,e,hx,q⟩:=q1;subst e;obtain⟨u,rfl,ru⟩:=gH r1
 cases ru
 obtain⟨is,rv,p1,_⟩:=I1.list hx;have hl:is.toArray.size=xs.length:=by rw[G8,rv.length]
 refine call_reversed_list p1.isList ?_;have st:(s1.heap.push (revObj c ((is.toArray.size:Int)-1))).IsRevIter s1.heap.objs.size c ((xs.length:Int)-1-((0:Nat):Int)):=⟨_,G5 _ rfl,rfl,by show Data.fields #[.ref c,rawInt ((is.toArray.size:Int)-1)]=_;rw[hl,show ((0:Nat):Int)=0 from rfl,Int.sub_zero]⟩;refine wpAny_pyIter_revIter (s:={ s1 with heap:=s1.heap.push (revObj c ((is.toArray.size:Int)-1)) }) st ?_;refine⟨_,[s1.heap.objs.size],_,_,H1,rfl,I1.kept (t':=s1.toks) λb o e=>GO _ e,wJ,st,λb hb=>?_,q⟩;have e:b=s1.heap.objs.size:=by simpa using hb
 subst e;exact I1.fpOk (GU _) (I1.hok.fresh (GU _))
def Dv(t:TDA)(δ:En)(R:Zi->En->Prop):Prop:=t δ λds δ1=>qC ds λx r=>qN r <| qL x λxs=>R xs.reverse δ1
theorem Db(hg:Gl X "reversed")(hm:X.mg "reversed"=none)(ha:DA X [a] ta)(hs:starEach [a] X.env=[(false,eval a X.env)]:=by rfl) :
  CI X tg (.Call (.Name "reversed" p) [a] [] pos) (Dv ta) :=
 ⟨_,BN hg hm ha hs,λG δ P σ H R Q s hs kk=>⟨G,δ,P,_,s,hs,λds δ1 h1 vs H1 hl s1=>by
  replace h1:=qC.ex h1;obtain⟨x,r,e,h1⟩:=h1;replace h1:=qN.ex h1;obtain⟨e',h1⟩:=h1;replace h1:=qL.ex h1;obtain⟨xs,e2,r⟩:=h1;subst e2 e' e
  match vs,hl with
  | [v],_ =>
   have s2:S X.K G δ1 ((.lst xs,v)::P) σ H1:=s1
   have at1:∀A δ σ H,Sx X.K G A δ ((.lst xs,v)::P) σ H->∃a vs,v=.ref a/\GL X.K H a vs/\Reps X.K (λb=>G.M0 b\/A b) H xs vs:=λA δ σ H x=>by
    have q:=x.pnd (.lst xs,v) (by simp)
    unfold GI at q;obtain⟨a,vs,e,_,l,r⟩:=q;exact⟨a,vs,e,GL.of l,r⟩
   obtain⟨A1,x1⟩:=id s2;obtain⟨a,aa,rfl,l0,r0⟩:=at1 _ _ _ _ x1;have ah:=Reps.length _ _ r0;refine⟨a,aa,rfl,l0,kk _ δ1 r _ _ H1 (λq hq=>by simp[hq]) s2 (λA δ σ i H x hi=>?_) (λA δ σ H x=>by show xs.reverse.length=aa.length;rw[JK,ah]) λA δ σ i y H H2 x hi hy=>?_⟩
   ·rw[JK] at hi;obtain⟨_,vs,e,l,r⟩:=at1 _ _ _ _ x
    cases e
    have ab:=Reps.length _ _ r
    obtain⟨v',hv,_⟩:=Reps.get _ _ r (aa.length-1-i) (xs[aa.length-1-i]'(by omega)) (by simp);exact⟨by omega,vs,v',l,by omega,hv⟩
   ·rw[JK] at hi;obtain⟨_,vs,e,l,r⟩:=at1 _ _ _ _ x
    cases e
    have ab:=Reps.length _ _ r
    obtain⟨e,hy⟩:=hy;subst e;obtain⟨v',hv,rv⟩:=Reps.get _ _ r (aa.length-1-i) (xs[aa.length-1-i]'(by omega)) (by simp);have z:=hy vs l;rw[hv] at z
    cases z
    refine⟨bH.refl _,_,?_,rv⟩;have e9:xs.length-1-i=aa.length-1-i:=by omega
    rw[List.getElem?_reverse (by omega),e9]
    exact Hl _⟩⟩
end
end DL
namespace DL
open PySem PySem.Spec PyProof.Rows L2
def vt(w:World):Bool:=w.params.followText "set-order"
def sOf:Value->Str
 | .str x _=>x
 | _=>⟨#[]⟩
structure TxS(P:Program)(w:World)(h:Heap)(a:Addr)(es:Array (Int×Value))(ep:Nat)(t:SetTable):Prop where
 ob:∃o,h.get? a=some o/\o.ExactSet/\o.data=.set es ep t
 el:ElemsOf (PySem.strKind P w) es.toList
 nd:(es.toList.map λe=>sOf e.2).Nodup
 few:es.size<scanBound
 fit:t.fits es.size=true
 led:t.led=!vt w
 pl:es.size≠0->t.plain=false
section
theorem TxS.keep(x:TxS P w h a es ep t)(k:∀o,h.get? a=some o->h'.get? a=some o):TxS P w h' a es ep t:=by
 obtain⟨o,e,r⟩:=x.ob;exact⟨⟨o,k o e,r⟩,x.el,x.nd,x.few,x.fit,x.led,x.pl⟩
theorem yA(h:(PySem.strKind P w).is k v=true):∃t,v=.str k t:=Value.isStrOf_shape h
theorem yF{w:World}{es:Array (Int×Value)}(he:ElemsOf (PySem.strKind P w) es.toList)(h:e∈es.toList):∃t,e.2=.str (sOf e.2) t:=by
 obtain⟨⟨k,hk,_⟩,_⟩:=he e h;obtain⟨t,q⟩:=yA hk;exact⟨t,by rw[q];rfl⟩
theorem D0{w:World}{es:Array (Int×Value)}(he:ElemsOf (PySem.strKind P w) es.toList)(h:e∈es.toList):(PySem.strKind P w).is k e.2=true↔sOf e.2=k:=by
 obtain⟨t,q⟩:=yF he h
 constructor
 ·intro z;obtain⟨u,z⟩:=yA z;rw[z];rfl
 ·intro z;rw[q,z];exact PySem.strKind_is P w k t
theorem nL{t:SetTable}:(t.orStandIn n).led=t.led:=by
 unfold SetTable.orStandIn
 split<;>rfl
theorem rE:(layNew t es n x).2.1.led=t.led:=by
 unfold layNew
 split
 ·exact nL
 ·rfl
theorem uS:(relayAll t es n).2.1.led=t.led:=by
 unfold relayAll
 split
 ·rename_i t' order e
  unfold SetTable.relaid SetTable.laid at e;simp only[Option.bind_eq_bind,Option.bind_eq_some_iff] at e;obtain⟨ow,_,e⟩:=e;have e:=G4 e;simp only[Prod.mk.injEq] at e;simp only
  split
  ·rw[<- e.1]
  ·rfl
 ·rfl
theorem nO(h:t.plain=false):(relayAll t es n).2.1.plain=false:=by
 unfold relayAll
 split
 ·rename_i t' order e
  unfold SetTable.relaid SetTable.laid at e;simp only[Option.bind_eq_bind,Option.bind_eq_some_iff] at e;obtain⟨ow,_,e⟩:=e;have e:=G4 e;simp only[Prod.mk.injEq] at e;simp only
  split
  ·rw[<- e.1];exact h
  ·rfl
 ·rfl
end
section
theorem pD{h:Heap}{o:Obj}(ho:h.get? a=some o)(hd:o.data=.set es ep t):(h.update a (Obj.putSet es' t')).get? a=some { o with data:=.set es' (ep+1) t' }:=by
 have:=Hz (Obj.putSet es' t') ho (by rw[putSet_of es' t' hd];rfl)
 rw[putSet_of es' t' hd] at this;exact this
theorem Br(hS:TxS prog w s.heap a es ep t)(hroom:es.size+1<scanBound)
  (h:∀b h' es' ep' t',Heap.SameBut a s.heap h'->TxS prog w h' a es' ep' t'->(∀y,y∈es'.toList.map (λe=>sOf e.2)↔y∈es.toList.map (λe=>sOf e.2)\/y=k)->es'.size<=es.size+1->Q b { s with heap:=h' }) :
  wpAny (model prog w) A (setAddHashed a (.str k tk) ((PySem.strKind prog w).hash k)) Q E s:=by
 obtain⟨⟨o,ho,bd,hd⟩,al,nd,hb,hf,led,pl⟩:=id hS;have aq:=PySem.strKind_is prog w k tk;have az:(Value.str k tk).scannable=true:=rfl;unfold setAddHashed setAddHashedIn;refine Iz (GM (Io ho hd hf ?_))
 dsimp only
 rw[byScan_of az hb al];simp only[↓reduceIte];unfold setAddByScan;refine GM (GM (Kj (GM (wpAny_setScan_of aq ho hd hf al ?_))))
 cases hr:List.findIdx? (λe=>(PySem.strKind prog w).is k e.2) es.toList with
 | some j =>
  dsimp only
  obtain⟨hj,be,_⟩:=List.findIdx?_eq_some_iff_getElem.mp hr;refine GQ (GQ (h false s.heap es ep t (Heap.SameBut.refl a s.heap) hS (λy=>⟨.inl,λz=>z.elim id λe=>?_⟩) (by omega)));rw[e];exact GR.mpr ⟨_,JF hj,(D0 al (JF hj)).mp be⟩
 | none =>
  dsimp only
  have bi:k∉es.toList.map λe=>sOf e.2:=λhm=>by
   obtain⟨e,he,ek⟩:=GR.mp hm;have:=List.findIdx?_eq_none_iff.mp hr e he;rw[(D0 al he).mpr ek] at this
   cases this
  have ab:=layNew_perm t es ((PySem.strKind prog w).hash k) (.str k tk)
  have ah:=layNew_fits t es ((PySem.strKind prog w).hash k) (.str k tk)
  have ai:=rE (t:=t) (es:=es) (n:=(PySem.strKind prog w).hash k) (x:=.str k tk)
  generalize layNew t es ((PySem.strKind prog w).hash k) (.str k tk)=L at ab ah ai ⊢
  obtain⟨aa,t1,an,a4⟩:=L
  dsimp only at ab ah ai ⊢
  rw[Array.toList_push] at ab;have a2:ElemsOf (PySem.strKind prog w) aa.toList:=λe he=>by
   rcases Hb.mp (ab.mem_iff.mp he) with he | he
   ·exact al e he
   ·rw[GX.mp he];exact⟨⟨k,aq,rfl⟩,az⟩
  have bb:(aa.toList.map λe=>sOf e.2).Perm ((es.toList.map λe=>sOf e.2)++[k]):=(ab.map _).trans (by rw[Hg];exact J4 _)
  have ba:(aa.toList.map λe=>sOf e.2).Nodup:=bb.nodup_iff.mpr (by
   rw[Iw]
   exact⟨nd,by simp,λx hx y hy e=>by rw[GX.mp hy] at e;exact bi (e ▸ hx)⟩)
  have hsz:aa.size=es.size+1:=by rw[<- HD,ab.length_eq,GV,HD];rfl
  have a1:∀ {aj:Array (Int×Value)},aj.toList.Perm aa.toList->∀y,y∈aj.toList.map (λe=>sOf e.2)↔y∈es.toList.map (λe=>sOf e.2)\/y=k:=λhp y=>by
   rw[((hp.map λe=>sOf e.2).trans bb).mem_iff,Hb,GX]
  have gw:∀(b:Bool) {s₁:Shared} {Q':Unit->Shared->Prop},Q' () s₁->wpAny (model prog w) A (match b with | true=>rule "set.scan.the-table-gave-way" | false=>pure ()) Q' E s₁:=λb s₁ Q' q=>by
   cases b
   ·exact GQ q
   ·exact Kj q
  refine GM (gw _ ?_)
  have tail:∀t2:SetTable,t2.fits aa.size=true->t2.led=t.led->t2.plain=false->wpAny (model prog w) A (do
    storeSet a aa t2
    if (!an&&t2.tooFull)=true then do
      (match (relayAll t2 aa (SetTable.grown aa.size)).2.2 with | true=>rule "set.scan.the-table-gave-way" | false=>pure ())
      storeSet a (relayAll t2 aa (SetTable.grown aa.size)).1 (relayAll t2 aa (SetTable.grown aa.size)).2.1
      pure (some true)
     else pure (some true)) (λr s'=>wpAny (model prog w) A (match r with | some added=>pure added | none=>setAddHashedIn a (.str k tk) ((PySem.strKind prog w).hash k) 99999) Q E s') E s:=λt2 f2 l2 p2=>by
   refine GM (wpAny_storeSet_of ho hd ?_ (fits_of_scanBound (by omega)));have a0:=pD (es':=aa) (t':=t2) ho hd;have bc:=JJ s.heap a (Obj.putSet aa t2)
   split
   ·have hp:=relayAll_perm t2 aa (SetTable.grown aa.size)
    have a3:=relayAll_fits t2 aa (SetTable.grown aa.size)
    have ao:=uS (t:=t2) (es:=aa) (n:=SetTable.grown aa.size)
    have as:=nO (t:=t2) (es:=aa) (n:=SetTable.grown aa.size) p2
    generalize relayAll t2 aa (SetTable.grown aa.size)=Rl at hp a3 ao as ⊢
    obtain⟨aj,t3,g2⟩:=Rl
    dsimp only at hp a3 ao as ⊢
    have bj:aj.size=aa.size:=by rw[<- HD,hp.length_eq,HD]
    refine GM (gw _ ?_);refine GM (wpAny_storeSet_of a0 rfl ?_ (fits_of_scanBound (by omega)));refine GQ (GQ (h true _ aj (ep+1+1) t3 (bc.trans (JJ _ a _)) ⟨⟨_,pD a0 rfl,bd,rfl⟩,λe he=>a2 e (hp.mem_iff.mp he),((hp.map λe=>sOf e.2).nodup_iff).mpr ba,by omega,a3,by rw[ao,l2,led],λ_=>as⟩ (a1 hp) (by omega)))
   ·exact GQ (GQ (h true _ aa (ep+1) t2 bc ⟨⟨_,a0,bd,rfl⟩,a2,ba,by omega,f2,by rw[l2,led],λ_=>p2⟩ (a1 (J4 _)) (by omega)))
  split
  ·rename_i hpl
   refine GM ?_;rw[hashByValue_scannable 8 az];refine GQ ?_;exact tail { t1 with plain:=false } (SetTable.fits_plain_off ah) ai rfl
  ·rename_i hpl
   refine GM (GQ ?_);simp only[↓reduceIte];exact tail t1 ah ai (by simpa using hpl)
end
section
theorem vZ{w:World}{A:Around}{R:Result->Shared->Prop}{I:Addr}{G:Array GenState->Array GenState->Prop}{P:Nat->Value->Prop}{St:Nat->Shared->Prop}(W:WalksS prog w A.in1 I fp wr G n P St)(S:Addr)(hSf:S∉fp)(val:Nat->Str)(hval:∀i v,P i v->∃t,v=.str (val i) t)(hb:n+1<scanBound) :
  ∀(k i:Nat) (s:Shared) (es:Array (Int×Value)) (ep:Nat) (t:SetTable),n-i=k->i<=n->St i s->TxS prog w s.heap S es ep t->(∀y,y∈es.toList.map (λe=>sOf e.2)↔∃j,j<i/\y=val j)->es.size<=i ->
   (∀s' es' ep' t',Moved (S::wr) G s s'->TxS prog w s'.heap S es' ep' t'->(∀y,y∈es'.toList.map (λe=>sOf e.2)↔∃j,j<n/\y=val j)->es'.size<=n->R (.ok (.ret .none)) s') ->
   codeAny (model prog w) A (.builtin "set.update.loop" ⟨[.ref S,.ref I],[]⟩) R s:=by
 have ai:S∉wr:=λh=>hSf (W.sub _ h)
 have ab:∀b∈wr,b∈S::wr:=λb hb=>GP _ hb
 intro k
 induction k with
 | zero =>
  intro i s es ep t hk hi aa hS hy hz hR;obtain rfl:i=n:=by omega
  refine Js F.entry_set_update_loop ?_;rw[IW F.plain_set_update_loop _];refine GM (m:=pyNext (.ref I)) (W.done s _ _ aa λs' hm=>?_);exact GQ (hR s' es ep t (hm.mono ab) (hS.keep λo e=>hm.heap S o ai e) hy hz)
 | succ k ih =>
  intro i s es ep t hk hi aa hS hy hz hR;have ah:i<n:=by omega
  refine Js F.entry_set_update_loop ?_;rw[IW F.plain_set_update_loop _];refine GM (m:=pyNext (.ref I)) (W.item i s _ _ ah aa λv s' hP hst' hm=>?_);obtain⟨u,rfl⟩:=hval i v hP;have aj:TxS prog w s'.heap S es ep t:=hS.keep λo e=>hm.heap S o ai e;refine GM (m:=holding [Value.str (val i) u] (setAdd S (.str (val i) u))) (Iz ?_);unfold setAdd;refine Iz (GM ((PySem.strKind prog w).pyHash (k:=val i) (PySem.strKind_is _ _ _ _) ?_));refine Br (s:={ s' with toks:=s'.toks+1 }) aj (by omega) λb h' es' ep' t' hsb hS2 hy2 hz2=>?_;refine GQ ⟨plainId_quiet F.plain_set_update_loop _,ih (i+1) _ es' ep' t' (by omega) ah (W.frame _ s' _ _ hst' (Jr _) λb hb o e=>?_) hS2 (λy=>?_) (by omega) λs'' es3 ep3 t3 hm3 hS3 hy3 hz3=>?_⟩
  ·rw[hsb.2 b (λh:b=S=>hSf (by rw[<- h];exact hb))];exact e
  ·rw[hy2 y,hy y]
   constructor
   ·rintro(⟨j,hj,e⟩ | e)
    ·exact⟨j,by omega,e⟩
    ·exact⟨i,by omega,e⟩
   ·rintro⟨j,hj,e⟩
    by_cases hji:j<i
    ·exact .inl ⟨j,hji,e⟩
    ·have:j=i:=by omega
     exact .inr (this ▸ e)
  ·refine hR s'' es3 ep3 t3 (Moved.trans W.gtrans ((hm.mono ab).then_heap (Jr _) λb o hb e=>?_) hm3) hS3 hy3 hz3;rw[hsb.2 b (λh:b=S=>hb (by rw[h];exact GT))];exact e
end
section
variable {prog:Program} {w:World} {A:Around} {E:Value→Shared→Prop} {s:Shared}
abbrev tU(w:World):Obj:={ cls:=.type "set",dict:=none,data:=.set #[] 0 (.fresh 0 0 (!vt w)) }
theorem Ci(x:Value)(h:Q (.ref s.heap.objs.size) { s with heap:=s.heap.push (tU w) }):codeAny (model prog w) A (.call (.builtin "set.__new__") ⟨[.type "set",x],[]⟩) (wants Q E) s:=by
 refine codeAny_of_tree ?_;refine GM (m:=checkBuiltinCall "set.__new__" ⟨[.type "set",x],[]⟩) (wpAny_of_eq (F.newCall_set_1 x) (GQ ⟨plainId_quiet F.plain_set_new _,Js F.entry_set_new ?_⟩));rw[IW F.plain_set_new _];unfold Builtin.«set.__new__» Builtin.Frozenset.newClass;have aa:=sub_set_self;obtain⟨hp,g,d,tk,os⟩:=s
 dsimp only
 wp_walk
 refine wpAny_askSetting (GQ ?_)
 dsimp only
 simp only[newObj];exact GM (wpAny_alloc (GQ (GQ h)))
theorem wA(e:h.get? a=some (tU w)):TxS prog w h a #[] 0 (.fresh 0 0 (!vt w)) :=
 ⟨⟨_,e,⟨rfl,rfl,rfl⟩,rfl⟩,λ_ h=>(nomatch h),List.nodup_nil,by decide,rfl,rfl,λh=>absurd rfl h⟩
theorem xw(hh:A.handled=none)(hl:s.heap.IsList l items)(hi:StrsAre items.toList ss)(hb:items.size+1<scanBound)
  (h:∀h' tk es ep t,TxS prog w h' s.heap.objs.size es ep t->(∀y,y∈es.toList.map (λe=>sOf e.2)↔y∈ss)->es.size<=ss.length->(∀b o,s.heap.get? b=some o->h'.get? b=some o)->Q (.ref s.heap.objs.size) { s with heap:=h',toks:=tk }) :
  wpAny (model prog w) A (call (.type "set") [.ref l]) Q E s:=by
 have bp:items.size=ss.length:=by rw[<- HD];exact hi.length
 obtain⟨c,tl,bl⟩:=F.called_set.mro;have bd:=F.called_set.made;have bi:=F.called_set.sub;refine Kr (codeAny_of_tree ?_);show wpAny _ _ (callAny (.type "set") ⟨[.ref l],[]⟩) _ _ _;refine GQ ⟨Code.quiet_builtin _ (by decide +kernel),Js F.entry_type_call ?_⟩;rw[Around.under_plain (weight_type_call_type "set" [.ref l] []) rfl];have h1:=F.called_set.notType;have h2:=F.called_set.canCreate;have b0:=F.typeCall_set_1 (.ref l)
 repeat (any_goals (first | assumption | wp_step))
 refine Jn (Ci (.ref l) (E:=E) (Q:=λobj s₁=>obj=.ref s.heap.objs.size/\s₁={ s with heap:=s.heap.push (tU w) }) ⟨rfl,rfl⟩) λr s₁ hr=>?_
 cases r with
 | error e=>exact hr
 | ok fl =>
  cases fl with
  | ret obj =>
   obtain⟨rfl,rfl⟩:=hr;have hS:(s.heap.push (tU w)).get? s.heap.objs.size=some (tU w):=G5 _ rfl;have hT:Shared.TypeIs { s with heap:=s.heap.push (tU w) } (.ref s.heap.objs.size) "set":=⟨_,hS,rfl⟩;have bz:=F.called_set.init.lookup;have b2:=F.called_set.init.bind (.ref s.heap.objs.size)
   repeat (any_goals (first | assumption | wp_step))
   refine Jn (Jz (R:=wants (λr s₂=>r=.none/\∃h' tk es ep t,s₂={ s with heap:=h',toks:=tk }/\TxS prog w h' s.heap.objs.size es ep t/\(∀y,y∈es.toList.map (λe=>sOf e.2)↔y∈ss)/\es.size<=ss.length/\(∀b o,s.heap.get? b=some o->h'.get? b=some o)) E) F.called_set.init.plain F.entry_set_init (check_set_init_1 hT ?_)) λr₂ s₂ hr₂=>?_
   ·obtain⟨ol,ai,an,nl,hdl⟩:=hl;obtain⟨bo,ah,be,aa⟩:=ol;simp only at an hdl;subst an;subst hdl;have as:(s.heap.push (tU w)).get? l=some { cls:=.type "list",dict:=ah,data:=.seq items nl,slots:=aa }:=GO _ ai;have bj:=F.sub_list_set;have bw:=F.sub_list_frozenset;have b1:(Value.type "list"==Value.type "dict")=false:=by decide
    have aj:(s.heap.push (tU w)).IsList l items:=⟨_,as,rfl,nl,rfl⟩
    unfold Builtin.«set.__init__» noKeywords Builtin.Frozenset.updateFrom;generalize hPI:pyIter=PI
    wp_walk
    subst hPI;refine Ju aj (GM (wpAny_runValue ?_));have al:l<s.heap.objs.size:=G3 ai;have ba:A.in1.in1.in1.handled=none:=by simp[hh]
    have ao:l≠(s.heap.push (tU w)).objs.size:=by rw[HN];exact Ho (IK al)
    have a2:s.heap.objs.size∉[(s.heap.push (tU w)).objs.size,l]:=by
     rw[HN];simp only[List.mem_cons,List.not_mem_nil,or_false,not_or];exact⟨Ho (JE _),IC al⟩
    have aq:∀(i:Nat) (v:Value),items[i]?=some v->∃t,v=.str ((λi=>ss.getD i ⟨#[]⟩) i) t:=λi v hv=>by
     have hv:items.toList[i]?=some v:=by rw[Ij];exact hv
     have:∀ {us:Zc} {ss:Zb},StrsAre us ss->∀(i:Nat) (v:Value),us[i]?=some v->∃t,v=.str (ss.getD i ⟨#[]⟩) t:=by
      intro us ss hu
      induction hu with
      | nil=>intro i v e;cases e
      | cons x t _ ih =>
       intro i v e
       cases i with
       | zero=>cases e;exact⟨t,rfl⟩
       | succ i=>exact ih i v (by simpa using e)
     exact this hi i v hv
    refine vZ ((Walks.list ba _ l ao items).toS) s.heap.objs.size a2 (λi=>ss.getD i ⟨#[]⟩) aq hb (items.size-0) 0 _ #[] 0 _ (by omega) (Ir _)
     ⟨⟨_,G5 _ rfl,rfl,rfl⟩,(aj.push _)⟩ (wA (GO _ hS)) (λy=>⟨λh=>(nomatch h),λ⟨j,hj,_⟩=>absurd hj (Nat.not_lt_zero _)⟩) (GU _) ?_
    intro s' bc a3 t' hm ab hy hz;obtain⟨h',g',d',a4,a1⟩:=s';have eg:g'=s.gens:=hm.gens;have ed:d'=s.drawn:=hm.drawn;have eo:a1=s.os:=hm.os;subst eg;subst ed;subst eo;show wpAny _ _ _ _ _ _;refine GQ (GQ ⟨rfl,h',a4,bc,a3,t',rfl,ab,λy=>?_,by omega,λb o e=>?_⟩)
    ·rw[hy y]
     constructor
     ·rintro⟨j,hj,rfl⟩;have:j<ss.length:=by omega
      rw[HY,Hl this];exact JF this
     ·intro hy;obtain⟨j,hj,e⟩:=List.getElem_of_mem hy;exact⟨j,by omega,by rw[HY,Hl hj];exact e.symm⟩
    ·have hb:=G3 e
     have a0:b≠s.heap.objs.size:=Ho hb
     have az:b≠(s.heap.push (tU w)).objs.size:=by rw[HN];exact Ho (IK hb)
     exact hm.heap b o (by simp only[List.mem_cons,List.not_mem_nil,or_false,not_or];exact⟨a0,az⟩) (GO _ (GO _ e))
   ·cases r₂ with
    | error e=>exact hr₂
    | ok fl₂ =>
     cases fl₂ with
     | ret r =>
      obtain⟨rfl,h',tk,es,ep,t,rfl,ab,hy,hz,bb⟩:=hr₂
      repeat (any_goals (first | assumption | wp_step))
      exact h _ _ _ _ _ ab hy hz bb
     | _=>exact hr₂.elim
  | _=>exact hr.elim
end
end DL
namespace DL
open PySem PySem.Spec PyProof.Rows L2
namespace FS
theorem slot_next:Slot "set_iterator" "__next__" "set_iterator.__next__" :=
 .of (owner:="set_iterator") (n:="__next__") (by rw[JT,IT];kernel_rfl) (by decide +kernel) (by decide +kernel) (by decide +kernel) (by first | exact .inl (by decide +kernel) | exact .inr (by decide +kernel)) (by rw[isSubtype_type];kernel_rfl)
theorem entry_next:entryFor table "set_iterator.__next__"=some Builtin.«set_iterator.__next__»:=entryFor_of_tree (by kernel_rfl)
theorem pf:Manifest.owners.lookup (String.ofList ['r','o','t','a','r','e','t','i','_','t','e','s'].reverse)=some Manifest.sig_set_iterator:=by kernel_rfl
theorem args_next(a:Value):argsOk "set_iterator.__next__" ⟨[a],[]⟩:=by
 unfold argsOk;rw[signature?_of (id:="set_iterator.__next__") (n:=['_','_','t','x','e','n','_','_']) (o:=['r','o','t','a','r','e','t','i','_','t','e','s']) (by kernel_rfl) pf]
 kernel_rfl
theorem slot_self:Slot "set_iterator" "__iter__" "set_iterator.__iter__" :=
 .of (owner:="set_iterator") (n:="__iter__") (by rw[JT,IT];kernel_rfl) (by decide +kernel) (by decide +kernel) (by decide +kernel) (by first | exact .inl (by decide +kernel) | exact .inr (by decide +kernel)) (by rw[isSubtype_type];kernel_rfl)
theorem entry_self:entryFor table "set_iterator.__iter__"=some Builtin.«dict_keyiterator.__iter__» :=
 entryFor_alias (id':="dict_keyiterator.__iter__") (by kernel_rfl) (by first | rfl | decide +kernel | (unfold String.splitOn;simp +decide [String.splitOnAux])) (by decide +kernel) (by kernel_rfl)
theorem args_self(a:Value):argsOk "set_iterator.__iter__" ⟨[a],[]⟩:=by
 unfold argsOk;rw[signature?_of (id:="set_iterator.__iter__") (n:=['_','_','r','e','t','i','_','_']) (o:=['r','o','t','a','r','e','t','i','_','t','e','s']) (by kernel_rfl) pf]
 kernel_rfl
theorem entry_iter:entryFor table "set.__iter__"=some Builtin.«frozenset.__iter__» :=
 entryFor_alias (id':="frozenset.__iter__") (by kernel_rfl) (by first | rfl | decide +kernel | (unfold String.splitOn;simp +decide [String.splitOnAux])) (by decide +kernel) (by kernel_rfl)
end FS
theorem fT:∀ {l:List α} {i:Nat} (h:i<l.length),(l[i]::l.eraseIdx i).Perm l
 | x::l,0,h=>J4 _
 | x::l,i+1,h=>by
  have h':i<l.length:=Nat.lt_of_succ_lt_succ h
  show (l[i]::x::l.eraseIdx i).Perm (x::l)
  exact(List.Perm.swap _ _ _).trans (List.Perm.cons _ (fT h'))
section
theorem lD(hn:n≠0)(h:∀i d,i<n->Q i { s with drawn:=d }):wpAny (model prog w) A (choose .order n) Q E s:=λΓ p hΓ=>by
 show Sem.wp (model prog w) Γ (.choose .order n _) _ _ p s
 rw[Sem.wp_choose];exact⟨hn,h _ _ (Nat.mod_lt _ (Nat.pos_of_ne_zero hn))⟩
theorem gn:∀(n:Nat) (xs:List α) {s:Shared} {Q:List α->Shared->Prop},n=xs.length->(∀ys d,ys.Perm xs->Q ys { s with drawn:=d })->wpAny (model prog w) A (drawOrder n xs) Q E s
 | 0,xs,s,Q,e,h=>by
  have:xs=[]:=IG.mp e.symm
  subst this;unfold drawOrder;exact GQ (h [] s.drawn (J4 _))
 | n+1,[],s,Q,e,h=>by cases e
 | n+1,x::xs,s,Q,e,h=>by
  unfold drawOrder;refine GM (lD (by simp) λi d hi=>?_);have aa:i<(x::xs).length:=hi;rw[Hl aa]
  dsimp only
  refine GM (gn n ((x::xs).eraseIdx i) (by rw[List.length_eraseIdx_of_lt aa];omega) λys d' hp=>GQ (h _ d' ?_));exact(List.Perm.cons _ hp).trans (fT aa)
end
theorem iY(next:Nat->Nat):∀(fuel k:Nat) (left:List α) (out:Array α),fuel=left.length->(pickOrder.go next fuel k left out).toList.Perm (out.toList++left)
 | 0,k,left,out,e=>by
  have:left=[]:=IG.mp e.symm
  subst this;unfold pickOrder.go;rw[HM]
 | n+1,k,[],out,e=>by cases e
 | n+1,k,x::left,out,e=>by
  unfold pickOrder.go;have hi:next k % (x::left).length<(x::left).length:=Nat.mod_lt _ (Kn _);rw[Hl hi]
  dsimp only
  refine(iY next n (k+1) _ _ (by rw[List.length_eraseIdx_of_lt hi];omega)).trans ?_;rw[Array.toList_push,Jw];exact List.Perm.append_left _ (fT hi)
def BH(h:Heap)(I S:Addr)(fst:Value)(i n ep:Nat):Prop:=h.get? I=some { cls:=.type "set_iterator",dict:=none,data:=.fields #[fst,rawInt i,.ref S,rawInt n,rawInt ep],slots:=#[] }
inductive Rd3(w:World)(S:Addr)(es:Array (Int×Value))(ep:Nat)(t:SetTable):(Heap->Nat->Value->Prop)->Zc->Prop
 | text (hb:vt w=true):Rd3 w S es ep t (λ_ _ f=>f=rawInt 0) ((pickOrder (w.params.setOrder S ep) es).toList.map (·.2))
 | drawn (hb:vt w=false) (hs:es.size≠0) (T:Addr) (ps:List Nat) (hp:ps.Perm (List.range es.size)):Rd3 w S es ep t (λh _ f=>f=.ref T/\h.get? T=some { cls:=.type "tuple",data:=.seq (ps.map λ(i:Nat)=>rawInt i).toArray }) (ps.filterMap λi=>(es[i]?).map (·.2))
 | one (hb:vt w=false) (hs:es.size<=1):Rd3 w S es ep t (λ_ i f=>f=rawInt (if i=0 then 0 else ((t.place[0]?).getD 0+1:Nat))) (es.toList.map (·.2))
theorem eZ{α β:Type}{f:Nat->Option β}{ps:List Nat}(h:∀p∈ps,(f p).isSome=true)(i:Nat):(ps.filterMap f)[i]?=(ps[i]?).bind f:=by
 induction ps generalizing i with
 | nil=>simp
 | cons p ps ih =>
  have hp:=h p (GT ..)
  cases e:f p with
  | none=>rw[e] at hp;cases hp
  | some x =>
   rw[HZ,e]
   cases i with
   | zero=>simp[e]
   | succ i=>simpa using ih (λq hq=>h q (GP _ hq)) i
theorem jM(xs:Array Nat):SetTable.below xs 0=0:=by
 unfold SetTable.below;have:∀aa hi,SetTable.below.go xs 0 aa 0 hi=0:=by
  intro aa
  induction aa with
  | zero=>intro hi;rfl
  | succ n ih =>
   intro hi;unfold SetTable.below.go
   split
   ·rw[Ha (Nat.not_lt_zero _)];exact ih _
   ·rfl
 exact this _ _
theorem sW(h:xs.size=1)(e:xs[0]?=some j):SetTable.below xs (j+1)=1:=by
 unfold SetTable.below;rw[h];unfold SetTable.below.go;have:xs.getD ((0+1) / 2) (j+1)=j:=by
  show xs.getD 0 (j+1)=j
  rw[Array.getD_eq_getD_getElem?,e];rfl
 rw[Hc (by decide)];simp only;rw[this,Hc (JE _)];rfl
section
theorem kM{w:World}{S:Addr}{es:Array (Int×Value)}{F:Heap->Nat->Value->Prop}{vs:Zc}(R:Rd3 w S es ep t F vs):vs.length=es.size:=by
 cases R with
 | text hb =>
  rw[GN];have:=(iY (w.params.setOrder S ep) es.size 0 es.toList #[] (by simp)).length_eq;unfold pickOrder;simpa using this
 | drawn hb hs T ps hp =>
  have h:∀p∈ps,((es[p]?).map (·.2)).isSome=true:=λp h=>by
   have:=Iq.mp (hp.mem_iff.mp h)
   rw[Hn this];rfl
  have e:=hp.length_eq
  rw[Il] at e;rw[<- e];clear e hp
  induction ps with
  | nil=>rfl
  | cons p ps ih =>
   have hp:=h p (GT ..)
   cases e:(es[p]?).map (·.2) with
   | none=>rw[e] at hp;cases hp
   | some x=>rw[HZ,e,G0,G0,ih λq hq=>h q (GP _ hq)]
 | one hb hs=>rw[GN,HD]
theorem xE{w:World}{S:Addr}{es:Array (Int×Value)}{F:Heap->Nat->Value->Prop}{vs:Zc}(R:Rd3 w S es ep t F vs):vs.Perm (es.toList.map (·.2)):=by
 cases R with
 | text hb =>
  refine List.Perm.map _ ?_;have:=iY (w.params.setOrder S ep) es.size 0 es.toList #[] (by simp);unfold pickOrder;simpa using this
 | drawn hb hs T ps hp =>
  refine(hp.filterMap _).trans ?_;have:(List.range es.size).filterMap (λi=>(es[i]?).map (·.2))=es.toList.map (·.2):=by
   apply List.ext_getElem?;intro i;rw[eZ (α:=Nat) (λp h=>by rw[Hn (Iq.mp h)];rfl)];rw[G6]
   by_cases hi:i<es.size
   ·rw[JI hi,Ij];rfl
   ·rw[HF (l:=List.range es.size) (by rw[Il];omega),HF (l:=es.toList) (by rw[HD];omega)];rfl
  rw[this]
 | one hb hs=>exact J4 _
theorem jV{es:Array (Int×Value)}{t:SetTable}(h:t.fits es.size=true):t.place.size=es.size:=by
 unfold SetTable.fits at h;simp only[Bool.and_eq_true,beq_iff_eq] at h;exact h.1
theorem eP(h:Q (vt w) s):wpAny (model prog w) A setsByText Q E s:=by
 unfold setsByText;exact GM (wpAny_askSetting (GQ h))
theorem mO{w:World}{E:Value->Shared->Prop}{s:Shared}{S:Addr}(X:TxS prog w s.heap S es ep t)(hb:vt w=true){g:Nat}{Q:Option (Value×Nat)->Shared->Prop}(h:Q (((pickOrder (w.params.setOrder S ep) es)[g]?).map λe=>(e.2,sl)) s):wpAny (model prog w) A (setNext S sl g ep) Q E s:=by
 obtain⟨o,ho,aa,hd⟩:=X.ob;unfold setNext;refine GM (Io ho hd X.fit (GM (eP ?_)));rw[hb,Hc rfl,Ha (by simp)];unfold setWalk;refine GM (GM (Io ho hd X.fit (GM (eP ?_))));rw[hb,Hc rfl];exact GM (wpAny_askSetting (GQ (GQ h)))
theorem qd{w:World}{E:Value->Shared->Prop}{s:Shared}{S:Addr}{es:Array (Int×Value)}{t:SetTable}(X:TxS prog w s.heap S es ep t)(hb:vt w=false)(hs:es.size<=1){sl:Nat}{Q:Option (Value×Nat)->Shared->Prop}
  (h:Q (match es[SetTable.below t.place sl]?,t.place[SetTable.below t.place sl]? with | some (_,x),some j=>some (x,j+1) | _,_=>none) s):wpAny (model prog w) A (setNext S sl g ep) Q E s:=by
 obtain⟨o,ho,ab,hd⟩:=X.ob;have hl:t.led=true:=by rw[X.led,hb];rfl
 unfold setNext;refine GM (Io ho hd X.fit (GM (eP ?_)));rw[hb,Ha GW]
 dsimp only
 have aa:¬ (!t.plain&&decide (es.size>1))=true:=by rw[HA (by omega),Bool.and_false];exact GW
 refine IZ (λz=>absurd z aa) λ_=>GM ?_;show wpAny _ _ (if (!t.led && !es.isEmpty)=true then unsupported "set:maker-not-led" else pure ()) _ _ _;rw[hl,Ha (by simp)];exact GQ (GQ h)
theorem FC{prog:Program}{w:World}{A:Around}{E:Value->Shared->Prop}{s:Shared}{I S:Addr}{es:Array (Int×Value)}{ep:Nat}{t:SetTable}{F:Heap->Nat->Value->Prop}{vs:Zc}(R:Rd3 w S es ep t F vs)(X:TxS prog w s.heap S es ep t){i:Nat}{f v:Value}(hI:BH s.heap I S f i es.size ep)(hF:F s.heap i f)(hv:vs[i]?=some v){Q:Zd->Shared->Prop}
  (q:∀h' f',BH h' I S f' (i+1) es.size ep->(∀h'':Heap,(∀b o,b≠I->s.heap.get? b=some o->h''.get? b=some o)->F h'' (i+1) f')->Heap.SameBut I s.heap h'->Q (some v) { s with heap:=h' }) :
  wpAny (model prog w) A (pyNext (.ref I)) Q E s:=by
 obtain⟨o,ho,ao,hd⟩:=X.ob;have hT:s.TypeIs (.ref I) "set_iterator":=⟨_,hI,rfl⟩;have as:S≠I:=λe=>by rw[e,hI] at ho;cases ho;cases hd
 have ai:=kM R
 have hi:i<es.size:=by rw[<- ai];exact(GZ.mp hv).1
 unfold pyNext;refine GM (Kh (Ia (name:=Str.ofString "__next__") hT FS.slot_next (Ik FS.slot_next hT FS.entry_next ?_ (FS.args_next _))));unfold Builtin.«set_iterator.__next__»;refine GM (m:=slotArgs "__next__" 0 _) (GQ ?_);refine GM (wpAny_fieldsOf hI rfl ?_)
 dsimp only
 refine GM (m:=setEntries S) (GM (Io ho hd X.fit (GQ ?_)));rw[Ha (by simp)]
 cases R with
 | text hb =>
  subst hF;refine GM (m:=setNext S (0:Int).toNat (i:Int).toNat (ep:Int).toNat) (mO X hb ?_);have e:(pickOrder (w.params.setOrder S ep) es)[(i:Int).toNat]?=(pickOrder (w.params.setOrder S ep) es).toList[i]?:=by rw[Ij];rfl
  rw[G6] at hv;rw[e]
  cases z:(pickOrder (w.params.setOrder S ep) es).toList[i]? with
  | none=>rw[z] at hv;cases hv
  | some p =>
   rw[z] at hv;obtain rfl:p.2=v:=G4 hv;refine GM (HB hI (by simp) λh1 e1 s1=>GM (HB e1 (by simp) λh2 e2 s2=>GQ ⟨_,rfl,GQ (q h2 (rawInt 0) e2 (λ_ _=>rfl) (s1.trans s2))⟩))
 | drawn hb hs T ps hp =>
  obtain⟨rfl,aa⟩:=hF;have al:T≠I:=λe=>by rw[e,hI] at aa;have h9:=Ji Obj.cls (G4 aa);simp at h9
  refine GM (m:=seqItems? (.ref T)) (IA aa rfl ?_)
  dsimp only
  have aq:ps.length=es.size:=by rw[hp.length_eq,Il]
  have ab:i<ps.length:=by omega
  have e:((ps.map λ(i:Nat)=>rawInt i).toArray)[(i:Int).toNat]?=some (rawInt (ps[i]:Nat)):=by
   show ((ps.map λ(i:Nat)=>rawInt i).toArray)[i]?=_
   rw[List.getElem?_toArray,G6,Hl ab];rfl
  rw[e];have ah:ps[i]<es.size:=Iq.mp (hp.mem_iff.mp (JF ab));have aj:v=es[ps[i]].2:=by
   rw[eZ (α:=Nat) (λp h=>by rw[Hn (Iq.mp (hp.mem_iff.mp h))];rfl),Hl ab] at hv;have hv:(es[ps[i]]?).map (·.2)=some v:=hv;rw[Hn ah] at hv;exact(G4 hv).symm
  refine GM (m:=setNextDrawn S ((ps[i]:Nat):Int).toNat (ep:Int).toNat) ?_;unfold setNextDrawn;refine GM (Io ho hd X.fit ?_)
  dsimp only
  rw[Ha (by simp)];rw[show es[((ps[i]:Nat):Int).toNat]?=some es[ps[i]] from Hn ah];refine GQ ?_;refine GM (HB hI (by simp) λh1 e1 s1=>GQ ⟨_,rfl,GQ ?_⟩);show Q (some es[ps[i]].2) _;rw[<- aj];exact q h1 (.ref T) e1 (λh'' k=>⟨rfl,k _ _ al aa⟩) s1
 | one hb hs =>
  have hz:i=0:=by omega
  subst hz;subst hF;refine GM (m:=setNext S (0:Int).toNat (0:Int).toNat (ep:Int).toNat) (qd X hb hs ?_);rw[show (0:Int).toNat=0 from rfl,jM];have an:=jV X.fit;rw[Hn (show 0<es.size by omega),Hn (show 0<t.place.size by omega)];rw[G6,Ij,Hn (show 0<es.size by omega)] at hv;obtain rfl:es[0].2=v:=G4 hv;refine GM (HB hI (by simp) λh1 e1 s1=>GM (HB e1 (by simp) λh2 e2 s2=>GQ ⟨_,rfl,GQ (q h2 (rawInt ((t.place[0]?).getD 0+1:Nat)) ?_ (λ_ _=>rfl) (s1.trans s2))⟩));rw[Hn (show 0<t.place.size by omega)];exact e2
theorem ee(a0:A.handled=none)(q:∀h' e,(∀b o,s.heap.get? b=some o->h'.get? b=some o)->(∃o,h'.get? e=some o/\o.cls=.type "StopIteration")->E (.ref e) { s with heap:=h' }) :
  wpAny (model prog w) A (do raiseNew (α:=α) (<- newExc (.type "StopIteration") [])) Q E s:=by
 refine GM ?_;simp only[newExc,newTuple];refine GM (HQ ?_ (by size_fits));refine GM (m:=firstArgMember _ _) (wpAny_of_eq (a:=Value.none) (by first | rfl | (simp only[firstArgMember];rfl)) ?_);refine HQ ?_ (by size_fits);simp only[raiseNew];refine GM (wpAny_handled ?_);rw[a0];exact GM (GQ (wpAny_throw (q _ _ (λb o e=>GO _ (GO _ e)) ⟨_,G5 _ rfl,rfl⟩)))
theorem FN{prog:Program}{w:World}{A:Around}{E:Value->Shared->Prop}{s:Shared}{I S:Addr}{es:Array (Int×Value)}{ep:Nat}{t:SetTable}{F:Heap->Nat->Value->Prop}{vs:Zc}(a0:A.handled=none)(R:Rd3 w S es ep t F vs)(X:TxS prog w s.heap S es ep t){f:Value}(hI:BH s.heap I S f es.size es.size ep)(hF:F s.heap es.size f){Q:Zd->Shared->Prop}
  (q:∀h',(∀b o,b≠I->s.heap.get? b=some o->h'.get? b=some o)->Q none { s with heap:=h' }) :
  wpAny (model prog w) A (pyNext (.ref I)) Q E s:=by
 obtain⟨o,ho,al,hd⟩:=X.ob;have hT:s.TypeIs (.ref I) "set_iterator":=⟨_,hI,rfl⟩;have aa:=kM R;have a1:A.in1.handled=none:=a0;unfold pyNext;have ab:∀(g:Heap) (e:Addr),(∀b o,b≠I->s.heap.get? b=some o->g.get? b=some o)->(∃o,g.get? e=some o/\o.cls=.type "StopIteration") ->
   wpAny (model prog w) A (do if<-isInstance (.ref e) (.type "StopIteration") then pure (none:Zd) else throw (.ref e)) Q E { s with heap:=g }:=λg e kk ⟨oe,h1,h2⟩ =>
  GM (wpAny_isInstance (T:="StopIteration") (b:=true) ⟨oe,h1,h2⟩ isSubtype_stop (GQ (q _ kk)))
 refine GM (Kh (Ia (name:=Str.ofString "__next__") hT FS.slot_next (Ik FS.slot_next hT FS.entry_next ?_ (FS.args_next _))));unfold Builtin.«set_iterator.__next__»;refine GM (m:=slotArgs "__next__" 0 _) (GQ ?_);refine GM (wpAny_fieldsOf hI rfl ?_)
 dsimp only
 refine GM (m:=setEntries S) (GM (Io ho hd X.fit (GQ ?_)));rw[Ha (by simp)]
 cases R with
 | text hb =>
  subst hF;rw[GN] at aa;refine GM (m:=setNext S (0:Int).toNat (es.size:Int).toNat (ep:Int).toNat) (mO X hb ?_);rw[show (pickOrder (w.params.setOrder S ep) es)[(es.size:Int).toNat]?=none from IP (by rw[<- HD,aa];exact GU _)];refine GM (HB hI (by simp) λh1 e1 s1=>ee (s:={ s with heap:=h1 }) a1 λh' e k he=>ab h' e (λb o n x=>k _ _ (s1.extBut _ _ n x)) he)
 | drawn hb hs T ps hp =>
  obtain⟨rfl,ah⟩:=hF;refine GM (m:=seqItems? (.ref T)) (IA ah rfl ?_)
  dsimp only
  have ai:ps.length=es.size:=by rw[hp.length_eq,Il]
  rw[show ((ps.map λ(i:Nat)=>rawInt i).toArray)[(es.size:Int).toNat]?=none from IP (by rw[G8,GN,ai];exact GU _)];refine GM (HB hI (by simp) λh1 e1 s1=>GM (HB e1 (by simp) λh2 e2 s2=>ee (s:={ s with heap:=h2 }) a1 λh' e k he=>ab h' e (λb o n x=>k _ _ (s2.extBut _ _ n (s1.extBut _ _ n x))) he))
 | one hb hs =>
  subst hF;have aj:=jV X.fit;have hn:es[SetTable.below t.place (if es.size=0 then 0 else ((t.place[0]?).getD 0+1:Nat))]?=none:=by
   by_cases hz:es.size=0
   ·rw[Hc hz,jM];exact IP (by omega)
   ·rw[Ha hz];have h1:t.place.size=1:=by omega
    rw[Hn (show 0<t.place.size by omega)];show es[SetTable.below t.place (t.place[0]+1)]?=none;rw[sW h1 (Hn (by omega))];exact IP (by omega)
  have ec:rawInt ((if es.size=0 then 0 else ((t.place[0]?).getD 0+1:Nat)):Int)=rawInt ((if es.size=0 then 0 else ((t.place[0]?).getD 0+1:Nat):Nat):Int):=by
   by_cases hz:es.size=0
   ·rw[Hc hz,Hc hz];rfl
   ·rw[Ha hz,Ha hz]
  rw[ec] at hI ⊢;generalize (if es.size=0 then 0 else ((t.place[0]?).getD 0+1:Nat):Nat)=sl at hn hI ⊢;refine GM (m:=setNext S (sl:Int).toNat (es.size:Int).toNat (ep:Int).toNat) (qd X hb hs ?_);rw[Jv,hn];refine GM (HB hI (by simp) λh1 e1 s1=>ee (s:={ s with heap:=h1 }) a1 λh' e k he=>ab h' e (λb o n x=>k _ _ (s1.extBut _ _ n x)) he)
theorem E7{prog:Program}{w:World}{A:Around}{E:Value->Shared->Prop}{s:Shared}{S:Addr}{es:Array (Int×Value)}{ep:Nat}{t:SetTable}(X:TxS prog w s.heap S es ep t){Q:Value->Shared->Prop}
  (q:∀h' d I f F vs,Rd3 w S es ep t F vs->BH h' I S f 0 es.size ep->F h' 0 f->s.heap.objs.size<=I->(∀b o,s.heap.get? b=some o->h'.get? b=some o)->(∀b,s.heap.objs.size<=b->∀o,h'.get? b=some o->b<=I)->Q (.ref I) { s with heap:=h',drawn:=d }) :
  wpAny (model prog w) A (pyIter (.ref S)) Q E s:=by
 obtain⟨o,ho,ab,hd⟩:=X.ob;have hT:s.TypeIs (.ref S) "set":=⟨o,ho,ab.1⟩;refine wpAny_pyIter_slot hT PySem.F.slot_set_iter (Ik PySem.F.slot_set_iter hT FS.entry_iter ?_ (PySem.F.args_set_iter_1 _));unfold Builtin.«frozenset.__iter__»;refine GM (m:=Builtin.Frozenset.slot0 "__iter__" _) (GQ ?_);refine GM (m:=Builtin.Frozenset.sizeOf S) (GM (m:=setEntries S) (GM (Io ho hd X.fit (GQ (GQ ?_)))));refine GM (m:=setDrawn S) (GM (Io ho hd X.fit (GM (eP (GQ ?_)))))
 dsimp only
 have tail:∀(h1:Heap) (d:Drawn) (f:Value) (F:Heap->Nat->Value->Prop) (vs:Zc),Rd3 w S es ep t F vs->(∀o:Obj,F (h1.push o) 0 f)->s.heap.objs.size<=h1.objs.size->(∀b o,s.heap.get? b=some o->h1.get? b=some o) ->
   wpAny (model prog w) A.in1 (do ret (<- newFields "set_iterator" [f,rawInt 0,.ref S,rawInt es.size,rawInt (<- setEpoch S)]))
    (λfin s'=>∃v,fin=Fin.done (Flow.ret v)/\∃T' r,s'.TypeIs v T'/\typeLookup (.type T') "__next__"=pure (some r)/\Q v s') E { s with heap:=h1,drawn:=d }:=λh1 d f F vs R hF hz hk=>by
  refine GM (wpAny_setEpoch_of (s:={ s with heap:=h1,drawn:=d }) (hk _ _ ho) hd X.fit ?_);refine GM (HQ ?_);refine GQ ⟨_,rfl,"set_iterator",_,⟨_,G5 _ rfl,rfl⟩,FS.slot_next.lookup,?_⟩;exact q _ d h1.objs.size f F vs R (G5 _ rfl) (hF _) hz (λb o e=>GO _ (hk b o e)) λb _ o e=>by
   have:=G3 e
   rw[HN] at this;exact Nat.le_of_lt_succ this
 cases hb:vt w with
 | true =>
  refine IZ (λz=>by simp at z) λ_=>?_;exact GM (GQ (tail s.heap s.drawn _ _ _ (.text hb) (λ_=>rfl) (GU _) λb o e=>e))
 | false =>
  by_cases hs:es.size<=1
  ·have aa:¬ (!t.plain&&decide (es.size>1))=true:=by rw[HA (by omega),Bool.and_false];exact GW
   refine IZ (λz=>absurd (Hu.mp z).2 aa) λ_=>?_;exact GM (GQ (tail s.heap s.drawn _ _ _ (.one hb hs) (λ_=>rfl) (GU _) λb o e=>e))
  ·have aa:(!t.plain&&decide (es.size>1))=true:=by rw[X.pl (by omega),HJ (show es.size>1 by omega)];rfl
   refine IZ (λ_=>?_) λz=>absurd (show (!false&&_)=true from aa) z;refine GM (gn _ _ (by rw[Il]) λys d hp=>?_);refine GM (wpAny_newTuple ?_ (by rw[GN,hp.length_eq,Il];exact GS (IH X.few) (by decide)))
   ·exact tail _ d _ _ _ (.drawn hb (by omega) s.heap.objs.size ys hp) (λ_=>⟨rfl,GO _ (G5 _ rfl)⟩) (by rw[HN];exact Jr _) λb o e=>GO _ e
end
end DL
namespace DL
open PySem PySem.Spec PyProof.Rows L2
section
theorem CU{w:World}{S:Addr}{F:Heap->Nat->Value->Prop}(R:Rd3 w S es ep t F vs):∃fx:List Addr,(∀h h' i f,(∀b∈fx,∀o,h.get? b=some o->h'.get? b=some o)->F h i f->F h' i f)/\∀h i f,F h i f->∀b∈fx,∃o,h.get? b=some o/\o.cls=.type "tuple":=by
 cases R with
 | text hb=>exact⟨[],λ_ _ _ _ _ h=>h,λ_ _ _ _ _ h=>(nomatch h)⟩
 | drawn hb hs T ps hp=>exact⟨[T],λh h' i f k x=>⟨x.1,k T (by simp) _ x.2⟩,λh i f x b hb=>by rw[GX.mp hb];exact⟨_,x.2,rfl⟩⟩
 | one hb hs=>exact⟨[],λ_ _ _ _ _ h=>h,λ_ _ _ _ _ h=>(nomatch h)⟩
theorem uU{w:World}{E:Value->Shared->Prop}{s:Shared}{S:Addr}(hI:BH s.heap I S f i n ep){Q:Value->Shared->Prop}(q:Q (.ref I) s):wpAny (model prog w) A (pyIter (.ref I)) Q E s:=by
 have hT:s.TypeIs (.ref I) "set_iterator":=⟨_,hI,rfl⟩
 refine wpAny_pyIter_slot hT FS.slot_self (Ik FS.slot_self hT FS.entry_self ?_ (FS.args_self _));show wpAny _ _ (ret (.ref I)) _ _ s;exact GQ ⟨_,rfl,"set_iterator",_,hT,FS.slot_next.lookup,q⟩
theorem DR{prog:Program}{w:World}{A:Around}{I S:Addr}{es:Array (Int×Value)}{ep:Nat}{t:SetTable}{F:Heap->Nat->Value->Prop}{vs:Zc}(a0:A.handled=none)(R:Rd3 w S es ep t F vs){fx:List Addr}(k1:∀h h' i f,(∀b∈fx,∀o,h.get? b=some o->h'.get? b=some o)->F h i f->F h' i f)
  (k2:∀h i f,F h i f->∀b∈fx,∃o,h.get? b=some o/\o.cls=.type "tuple") :
  Walks prog w A I (I::S::fx) [I] es.size (λi v=>vs[i]?=some v) (λi h=>TxS prog w h S es ep t/\∃f,BH h I S f i es.size ep/\F h i f) where
 sub:=λb hb=>by rw[GX.mp hb];exact GT ..
 frame:=λi h h' ⟨X,f,hI,hF⟩ k=>⟨X.keep λo e=>k S (by simp) o e,f,k I (by simp) _ hI,k1 h h' i f (λb hb o e=>k b (by simp[hb]) o e) hF⟩
 item:=λi s Q E hi ⟨X,f,hI,hF⟩ hQ=>by
  have ab:=kM R
  have hv:vs[i]?=some vs[i]:=Hl (by omega)
  obtain⟨o,ho,ah,hd⟩:=X.ob;have aa:S≠I:=λe=>by rw[e,hI] at ho;cases ho;cases hd
  refine FC R X hI hF hv λh' f' e1 e2 sb=>hQ vs[i] h' s.toks hv ⟨X.keep λo e=>sb.extBut _ _ aa e,f',e1,e2 h' λb o n e=>sb.extBut _ _ n e⟩ λb o hb e=>sb.extBut _ _ (λz=>hb (by simp[z])) e
 done:=λs Q E ⟨X,f,hI,hF⟩ hQ=>FN a0 R X hI hF λh' k=>hQ h' s.toks λb o hb e=>k b o (λz=>hb (by simp[z])) e
 self:=λi s Q E ⟨X,f,hI,hF⟩ hQ=>uU hI hQ
theorem Fi{w:World}{E:Value->Shared->Prop}{s:Shared}{S:Addr}(hT:s.TypeIs (.ref S) "set"){Q:Bool->Shared->Prop}(h:Q false s):wpAny (model prog w) A (Builtin.List.listLengthHint (.ref S)) Q E s:=by
 unfold Builtin.List.listLengthHint;refine GM (wpAny_specialOf hT PySem.F.slot_set_len.lookup ?_);generalize hid:("set.__len__":String)=id0
 wp_delta
 rw[show splitId id0=some ("set","__len__") from by subst hid;decide +kernel];subst hid;refine GM (wpAny_isInstance (T:="set") (b:=true) hT (by rw[isSubtype_type];kernel_rfl) ?_);refine IZ (λz=>absurd z (by decide)) λ_=>IZ (λ_=>?_) λz=>absurd (by decide +kernel) z;exact GM (J5 hT (GQ h))
theorem xx{prog:Program}{w:World}{A:Around}{E:Value->Shared->Prop}{s:Shared}{S:Addr}{es:Array (Int×Value)}{ep:Nat}{t:SetTable}(a0:A.handled=none)(X:TxS prog w s.heap S es ep t){Q:Zc->Shared->Prop}
  (q:∀h' d tk (ys:Zc),ys.Perm (es.toList.map (·.2))->(∀b o,s.heap.get? b=some o->h'.get? b=some o)->Q ys { s with heap:=h',drawn:=d,toks:=tk }):wpAny (model prog w) A (collect (.ref S)) Q E s:=by
 obtain⟨o,ho,al,hd⟩:=X.ob;have ai:S≠s.heap.objs.size:=Ho (G3 ho);have hn:es.size<=sizeLine:=GS (IH X.few) (by decide);unfold collect;refine GM (wpAny_runValue (Js entry_proto_collect' ?_));rw[IW PySem.F.plain_proto_collect _];show wpAny _ A.in1 (newList [] >>= λl=>again (.builtin "list.__iadd__" ⟨[l,.ref S],[]⟩)) _ _ s;refine GM (HQ (GQ ⟨plainId_quiet PySem.F.plain_list_iadd _,Js entry_list_iadd' ?_⟩));rw[IW PySem.F.plain_list_iadd _];have hL:(s.heap.push { cls:=.type "list",data:=.seq ([]:Zc).toArray }).get? s.heap.objs.size=some { cls:=.type "list",data:=.seq #[] }:=G5 _ rfl;have X1:TxS prog w (s.heap.push { cls:=.type "list",data:=.seq ([]:Zc).toArray }) S es ep t:=X.keep λo e=>GO _ e;have hT:Shared.TypeIs { s with heap:=s.heap.push { cls:=.type "list",data:=.seq ([]:Zc).toArray } } (.ref S) "set":=⟨o,GO _ ho,al.1⟩;show wpAny _ A.in1 (Builtin.List.listExtendWith (.ref s.heap.objs.size) (.ref S) (.ref s.heap.objs.size)) _ _ _;unfold Builtin.List.listExtendWith;refine GM (J5 hT ?_);have h1:Builtin.List.listSameRef (.ref s.heap.objs.size) (.ref S)=false:=by simp[Builtin.List.listSameRef,Ne.symm ai]
 have n1:(Value.type "set"==Value.type "list")=false:=by decide
 have n2:(Value.type "set"==Value.type "tuple")=false:=by decide
 simp only[h1,n1,n2,Bool.or_false,Bool.false_eq_true,if_false];refine GM (E7 (s:={ s with heap:=s.heap.push { cls:=.type "list",data:=.seq ([]:Zc).toArray } }) X1 λh' d I f F vs R hI hF aa hk hle=>?_);obtain⟨fx,k1,k2⟩:=CU R;have ah:=hk _ _ hL;have X2:TxS prog w h' S es ep t:=X1.keep λo e=>hk _ _ e;refine GM (Iz (Fi (s:={ s with heap:=h',drawn:=d }) ⟨o,hk _ _ (GO _ ho),al.1⟩ ?_));have aa:s.heap.objs.size<I:=by rw[HN] at aa;exact aa
 have aj:s.heap.objs.size∉I::S::fx:=λhm=>by
  rcases GY.mp hm with e | hm
  ·exact Hw _ (e ▸ aa)
  ·rcases GY.mp hm with e | hm
   ·exact ai e.symm
   ·obtain⟨oo,e1,e2⟩:=k2 _ _ _ hF _ hm;rw[ah] at e1
    cases e1
    simp at e2
 have a2:A.in1.handled=none:=a0
 have an:∀(h2:Heap) (c:Nat),(∀b o,b≠s.heap.objs.size->h'.get? b=some o->h2.get? b=some o)->h2.get? s.heap.objs.size=some { cls:=.type "list",data:=.seq #[] c } ->
   codeAny (model prog w) A (.builtin "list.extend.loop" ⟨[.ref s.heap.objs.size,.ref I,.ref s.heap.objs.size],[]⟩) (λr s'=>match r with
    | .ok (.ret v)=>wpAny (model prog w) A (match v with | .ref a=>(do match (<- load a).data with | .seq xs _=>pure xs.toList | _=>unsupported "internal:collect") | _=>unsupported "internal:collect") Q E s'
    | .ok _=>False
    | .error e=>E e s') { s with heap:=h2,drawn:=d }:=λh2 c hk2 ab=>by
  refine codeAny_extend_loopS ((DR a2 R k1 k2).toS) hn s.heap.objs.size aj (.ref s.heap.objs.size) es.size 0 _ #[] c rfl (Ir _) ⟨X2.keep λo e=>hk2 _ _ ai e,f,hk2 _ _ (IC aa) hI,k1 _ _ _ _ (λb hb o e=>hk2 b o (λz=>aj (by rw[<- z];simp[hb])) e) hF⟩ ab (ItemsOf.nil _) λs' acc c' hm hS' hacc=>?_;refine GM (wpAny_load hS' (GQ ?_));rw[Moved.eq_with hm];have hv:acc.toList=vs:=by
   apply List.ext_getElem?;intro j;have hl:=kM R
   by_cases hj:j<es.size
   ·have ao:j<acc.size:=by rw[hacc.1];exact hj
    have e1:acc.toList[j]?=some acc[j]:=by rw[Ij];exact Hn ao
    rw[e1,hacc.2 j acc[j] (by rw[<- Ij];exact e1)]
   ·rw[HF (by rw[HD,hacc.1];omega),HF (by omega)]
  rw[hv];refine q s'.heap d s'.toks vs (xE R) λb o e=>hm.heap b o (λz=>?_) (hk2 b o (Ho (G3 e)) (hk b o (GO _ e)));have hb:=G3 e
  rcases GY.mp z with z | z
  ·exact Hw _ (z ▸ hb)
  ·have z:=GX.mp z
   rw[z] at hb;exact J8 hb aa
 refine IZ (λ_=>?_) λz=>absurd (by decide) z;refine GM (Kj (GM ?_));show wpAny _ _ (updateSeq s.heap.objs.size (·.push .none) >>= λ_=>updateSeq s.heap.objs.size (·.pop)) _ _ _;refine GM (wpAny_updateSeq ah rfl ?_);have ab:=Hz (Obj.mapSeq (·.push Value.none)) ah rfl;refine wpAny_updateSeq (hz:=by seq_fits) ab rfl ?_;have aq:=Hz (Obj.mapSeq (·.pop)) ab rfl;refine GQ ⟨plainId_quiet PySem.F.plain_extend_loop _,Jn (an _ _ (λb o n e=>?_) aq) λr s' h=>?_⟩
 ·exact(Hx _ _ (IF n)).trans ((Hx _ _ (IF n)).trans e)
 ·cases r with
  | error e=>exact h
  | ok fl =>
   cases fl with
   | ret v=>exact h
   | _=>exact h.elim
end
theorem lC{es:Array (Int×Value)}{ys:Zc}(he:∀e∈es.toList,∃t,e.2=.str (sOf e.2) t)(hp:ys.Perm (es.toList.map (·.2))):StrsAre ys (ys.map sOf):=by
 have:∀ys:Zc,(∀y∈ys,∃t,y=.str (sOf y) t)->StrsAre ys (ys.map sOf):=by
  intro ys
  induction ys with
  | nil=>intro _;exact .nil
  | cons y ys ih =>
   intro h;obtain⟨t,e⟩:=h y (GT ..);rw[Hs];have:=ih λz hz=>h z (GP _ hz);rw[e];exact .cons _ _ this
 refine this ys λy hy=>?_;obtain⟨e,h1,rfl⟩:=GR.mp (hp.mem_iff.mp hy);exact he e h1
section
variable {X:Cx} {e:Expr} {p p2 pos pos2:Pos} {te:TE}
theorem tV(I:L2.Inv X pins σ H s)(d:Drawn):L2.Inv X pins σ H { s with drawn:=d }:=⟨I.ok,I.os,I.bare,I.base,I.loc,I.cell,I.free,I.freeC,I.pin,I.hok,I.len⟩
def tSS(te:TE):TE:=λσ H Q=>te σ H λx H1=>∃(a:Addr) (ss:Zb),x=.ref a/\H1 a=some (.lst (ss.map V.str))/\ss.length<64/\∀(ss':Zb) (b:Addr),ss'.Nodup->(∀y,y∈ss'↔y∈ss)->Srt ss'->H1 b=none->Q (.ref b) (GE H1 b (.lst (ss'.map V.str)))
theorem Gb(hc:X.calm=true)(hg:Gl X "sorted")(hm:X.mg "sorted"=none)(hg2:Gl X "set")(hm2:X.mg "set"=none)(he:PE X e te)
  (hs:starEach [e] X.env=[(false,eval e X.env)]:=by rfl) (hs1:starEach [.Call (.Name "set" p2) [e] [] pos2] X.env=[(false,eval (.Call (.Name "set" p2) [e] [] pos2) X.env)]:=by rfl) :
  PE X (.Call (.Name "sorted" p) [.Call (.Name "set" p2) [e] [] pos2] [] pos) (tSS te):=by
 have ao:PE X (.Call (.Name "set" p2) [e] [] pos2) (λ_ _ _=>False):=λ_ _ _ _ _ _ h=>h.elim
 intro pins s σ H Q I h;refine IE (eT I hg hm kt ?_);refine PyProof.Rows.callWith_builtin1 ?_ hs1 rfl;rw[hs1];refine Jj ?_;show wpAny _ _ (eval (.Call (.Name "set" p2) [e] [] pos2) X.env) _ _ _;refine IE (eT I hg2 hm2 F0 ?_);refine Ii ?_ hs rfl;rw[hs];refine Jj (Gj (he pins s σ H _ I h) λu s1 ⟨x,H1,I1,rx,a,ss,ex,ha,hl,q⟩=>J1 ?_);subst ex
 cases rx
 obtain⟨al,rv,pl,_⟩:=I1.list (GL.of ha);have ah:=cQ rv;have hz:al.length=ss.length:=by rw[<- rv.length,GN]
 refine xw (I1.ok.hd hc) pl.isList (by simpa using ah) (by rw[G8,hz];exact Nat.lt_trans (Nat.succ_lt_succ hl) (by decide)) λh' tk es ep t X1 hy hn hk=>J1 ?_;have I2:L2.Inv X pins σ H1 { s1 with heap:=h',toks:=tk }:=I1.kept (t':=tk) hk;refine JB kind_sorted plain_sorted entry_sorted (args_sorted1 _) ?_;unfold Builtin.«sorted»;refine GM (m:=checkCount "sorted" 1 1 _) (GQ ?_);refine GM (xx (A:=X.A.in1) (s:={ s1 with heap:=h',toks:=tk }) (I1.ok.hd hc) X1 λh2 d tk2 ys hp hk2=>?_);have hS:=lC (λe h=>yF X1.el h) hp;have hm:(ys.map sOf).Perm (es.toList.map λe=>sOf e.2):=by
  have:=hp.map sOf
  rwa [HK] at this
 have ab:ys.length<64:=by
  have e0:=hp.length_eq
  rw[GN] at e0;have e1:es.toList.length=es.size:=HD;omega
 refine GM (wpAny_newList ?_ (dS (by omega)));have aa:(h2.push { cls:=.type "list",data:=.seq ys.toArray }).get? h2.objs.size=some (seqObj "list" ys.toArray 0):=G5 _ rfl;refine GM (Iz (fV (s:={ s1 with heap:=h2.push { cls:=.type "list",data:=.seq ys.toArray },drawn:=d,toks:=tk2 }) aa hS ab λout ss' h1 h2' h3=>?_));refine GQ ⟨_,rfl,?_⟩;obtain⟨ai,an⟩:=sortedHeap_at (out:=out) aa;have I3:L2.Inv X pins σ H1 { s1 with heap:=h2,drawn:=d,toks:=tk2 }:=tV (I2.kept (t':=tk2) hk2) d;have kp:∀b o,h2.get? b=some o->(sortedHeap (h2.push { cls:=.type "list",data:=.seq ys.toArray }) h2.objs.size ys out).get? b=some o:=λb o e=>by
  have hb:=G3 e
  rw[sortedHeap_old (Ho hb) (by rw[HN];exact IK hb)];exact GO _ e
 have aj:(ss'.map V.str).length<=sizeLine:=by rw[GN,h2'.length_eq,GN];exact dS (by omega)
 have I4:L2.Inv X pins σ (GE H1 h2.objs.size (.lst (ss'.map V.str))) { s1 with heap:=sortedHeap (h2.push { cls:=.type "list",data:=.seq ys.toArray }) h2.objs.size ys out,drawn:=d,toks:=tk2 } :=
  I3.laid (t':=tk2) kp (GU _) (show b6 X.prog X.w _ _ _ (.lst (ss'.map V.str)) from⟨aj,out.toList,ai,cj h1,an⟩)
 have fr:H1 h2.objs.size=none:=I3.hok.fresh (GU _)
 exact⟨.ref _,_,I4,rfl,q ss' _ ((h2'.trans hm).nodup_iff.mpr X1.nd) (λy=>((h2'.trans hm).mem_iff).trans (hy y)) h3 fr⟩
end
def dSS(te:GH)(δ:En)(R:W->En->Prop):Prop:=te δ (wd λd δ1=>∃ss:Zb,d=.lst (ss.map D.str)/\ss.length<64/\∀ss',ss'.Nodup->(∀y,y∈ss'↔y∈ss)->Srt ss'->R (.d (.lst (ss'.map D.str))) δ1)
theorem EB(hc:X.calm=true)(hg:Gl X "sorted")(hm:X.mg "sorted"=none)(hg2:Gl X "set")(hm2:X.mg "set"=none)(he:DE X e te)
  (hs:starEach [e] X.env=[(false,eval e X.env)]:=by rfl) (hs1:starEach [.Call (.Name "set" p2) [e] [] pos2] X.env=[(false,eval (.Call (.Name "set" p2) [e] [] pos2) X.env)]:=by rfl) :
  DE X (.Call (.Name "sorted" p) [.Call (.Name "set" p2) [e] [] pos2] [] pos) (dSS te) :=
 PE.imp (Gb hc hg hm hg2 hm2 he hs hs1) λσ H Q ⟨G,δ,P,R,s,h,k,_⟩=>up.mk s h λd δ1 ⟨ss,e,hl,r⟩ v H1 s1=>by
  subst e;obtain⟨A,x⟩:=id s1;have q:=x.pnd (.lst (ss.map D.str),v) (by simp);unfold GI at q;obtain⟨a,vs,rfl,_,ha,rs⟩:=q
  cases du rs
  refine⟨a,ss,rfl,ha,hl,λss' b nd hy st hb=>k _ δ1 (r ss' nd hy st) _ _ ⟨A,((x.same (aF hb _)).sub (P':=P) λp hp=>by simp[hp]).push ?_⟩⟩;unfold GI;exact⟨b,_,rfl,λz=>x.mem b z hb,aw,b9 ss'⟩
end DL
namespace DL
open PySem PySem.Spec PyProof.Rows L2
section
theorem Sx.freezeF{K:Zf}{G:Gf}{A:Addr->Prop}{δ:List Sl}{H:Hp}{i:Nat}(s:Sx K G A δ P σ H)(hi:δ[i]?=some (.own a (.dct ks ds)))(hp:¬ G.M0 a) :
  ∃kvs,H a=some (.dK kvs)/\Sx K G (λb=>A b/\b≠a) (δ.set i (.dat (.fd ks ds))) P σ (GE H a (.frz o (.dK kvs))):=by
 obtain⟨si,ai,vs,hH,l,rs⟩:=s.own i a _ hi;refine⟨_,hH,?_⟩;have hk:∀b u,b≠a->H b=some u->GE H a (.frz o (.dK (bG ks vs))) b=some u:=λb u n e=>by rw[aH n];exact e
 have kp:Kp (λb=>G.M0 b\/A b) H (GE H a (.frz o (.dK (bG ks vs)))) :=
  ⟨λb u e n=>hk b u (λz=>n (.inr (by rw[z];exact ai))) e,λb xs e=>hk b _ (λz=>by rw[z,hH] at e;cases e) e,λb u v e=>hk b _ (λz=>by rw[z,hH] at e;cases e) e⟩
 have hM:∀b,(G.M0 b\/(A b/\b≠a))->(G.M0 b\/A b):=λb h=>h.elim .inl λz=>.inr z.1
 have dn:∀d v,GI K (λb=>G.M0 b\/A b) H d v->GI K (λb=>G.M0 b\/(A b/\b≠a)) (GE H a (.frz o (.dK (bG ks vs)))) d v:=λd v r=>GI.more (λb z=>.inl (hM b z)) _ _ (GI.kp kp _ _ r)
 have stay:∀b,H b≠none->GE H a (.frz o (.dK (bG ks vs))) b≠none:=λb e=>by
  by_cases z:b=a
  ·rw[z,aw];exact λq=>nomatch q
  ·rw[aH z];exact e
 refine⟨λb u e n=>hk b u (λz=>?_) (s.old b u e n),λb e=>stay b (s.stay b e),s.m0,s.pm,λb h=>s.new b h.1,λb h=>stay b (s.thr b h.1),by rw[HV,s.len],λj x e=>?_,λj b x e=>?_,λj k b x y h1 h2=>?_,λp hp=>dn _ _ (s.pnd p hp)⟩
 ·subst z;exact(s.new b ai).elim (λq=>by rw[q] at e;cases e) λq=>n q
 ·rcases aT e with⟨aa,z,_⟩ | ⟨aa,e⟩
  ·cases z;subst aa
   refine⟨.ref a,si,?_⟩;unfold GI;exact⟨a,vs,o,rfl,aw,l,Reps.more (λb z=>.inl (hM b z)) _ _ (Reps.kp kp _ _ rs)⟩
  ·obtain⟨v,q,r⟩:=s.dat j x e;exact⟨v,q,dn _ _ r⟩
 ·rcases aT e with⟨_,z,_⟩ | ⟨aa,e9⟩
  ·cases z
  ·clear e;obtain⟨q,r,w⟩:=s.own j b x e9;have hb:b≠a:=λz=>by rw[z] at e9;exact aa (s.inj _ _ _ _ _ hi e9)
   exact⟨q,⟨r,hb⟩,bv.more (λb z=>.inl (hM b z)) (bv.kp kp (by rw[aH hb]) w)⟩
 ·rcases aT h1 with⟨_,z,_⟩ | ⟨_,e1⟩
  ·cases z
  ·rcases aT h2 with⟨_,z,_⟩ | ⟨_,e2⟩
   ·cases z
   ·exact s.inj j k b x y e1 e2
end
def kF(i:Nat)(t:TDS)(R:aP)(δ:En):Prop:=qWD δ[i]? λ_ ks ds=>lq δ i (.dat (.fd ks ds)) (t R)
theorem nS(i:Nat){st:List Stmt}(h:DSs X st u):DSs X st (kF i u):=by
 rintro pins s σ H D I ⟨G,δ,P,R,⟨A,x⟩,hu,k⟩;replace hu:=qWD.ex hu;obtain⟨a,ks,ds,e,hu⟩:=hu;have hp:¬ G.M0 a:=λz=>(x.new a (x.own i a _ e).2.1).elim (λq=>x.m0 a z q) λq=>(x.pm a q).2 z;obtain⟨si,ai,vs,hH,l,rs⟩:=x.own i a _ e;obtain⟨hz,lo,va,ra,da⟩:=zg I.hok hH;obtain⟨o,es,ep,ho,r9⟩:=id da;obtain⟨kvs,aa,y⟩:=x.freezeF (o:=o) e hp;rw[hH] at aa
 cases aa
 have I2:L2.Inv X pins σ (GE H a (.frz o (.dK (bG ks vs)))) s:=I.write (x:=a) (e:=a) (t':=s.toks) (h':=s.heap) (by rw[hH];trivial) (.inl rfl) (λb u _ q=>q) ⟨o,ho⟩ ⟨ho,hz,lo,va,ra,da⟩
 exact h pins s σ _ D I2 ⟨G,_,P,R,⟨_,y⟩,hu,k⟩
section
end
section
end
section
end
section
end
def BE:Zi->(D->Prop)->Prop
 | [.int i,.int j],R=>R (.bl (decide (i=j)))
 | [.str x,.str y],R=>R (.bl (decide (x=y)))
 | [.bl x,.bl y],R=>R (.bl (decide (x=y)))
 | [.tup xs,.tup ys],R=>∃a b c d,xs=[.int a,.int b]/\ys=[.int c,.int d]/\R (.bl (decide ((a,b)=(c,d))))
 | _,_=>False
theorem yK:∀ {d0:Zi} {R:D->Prop},BE d0 R->((∃(i:Int) (j:Int),d0=[.int i,.int j]/\R (.bl (decide (i=j))))\/(∃(x:Str) (y:Str),d0=[.str x,.str y]/\R (.bl (decide (x=y))))\/(∃(x:Bool) (y:Bool),d0=[.bl x,.bl y]/\R (.bl (decide (x=y))))\/(∃(xs:Zi) (ys:Zi),d0=[.tup xs,.tup ys]/\∃a b c d,xs=[.int a,.int b]/\ys=[.int c,.int d]/\R (.bl (decide ((a,b)=(c,d)))))):=by walk_at "or"
theorem zf:BE [.tup [.int a,.int b],.tup [.int c,.int d]] R↔R (.bl (decide ((a,b)=(c,d)))):=by
 constructor
 ·intro h;obtain⟨_,_,_,_,e,e',h⟩:=h
  cases e
  cases e'
  exact h
 ·exact λh=>⟨_,_,_,_,rfl,rfl,h⟩
theorem xb:BE [.int i,.int j] R=(R (.bl (decide (i=j)))):=rfl
theorem Bn:BE [.bl i,.bl j] R=(R (.bl (decide (i=j)))):=rfl
theorem wT:BE [.str i,.str j] R=(R (.bl (decide (i=j)))):=rfl
section
theorem rj(hu:X.A.units+64<cLine):GC X (compareOp .Eq) λx y=>aQ X.K BE [x,y]:=by
 intro pins s σ H x y v u Q I rx ry h;obtain⟨M,ds,R,m,rs,h,k⟩:=h;replace h:=yK h
 rcases h with⟨_,_,rfl,h⟩ | ⟨_,_,rfl,h⟩ | ⟨_,_,rfl,h⟩ | ⟨_,_,rfl,h⟩
 ·exact dH hu pins s σ H x y v u Q I rx ry ⟨M,_,R,m,rs,h,k⟩
 ·exact dH hu pins s σ H x y v u Q I rx ry ⟨M,_,R,m,rs,h,k⟩
 ·exact dH hu pins s σ H x y v u Q I rx ry ⟨M,_,R,m,rs,h,k⟩
 ·obtain⟨i1,i2,j1,j2,rfl,rfl,h⟩:=h;obtain⟨h1,h2⟩:=bP rs;unfold GI at h1 h2;obtain⟨a,vs,rfl,sq,ah⟩:=h1;obtain⟨b,ws,rfl,ab,aa⟩:=h2
  cases rx
  cases ry
  obtain⟨v1,v2,rfl,p1,p2⟩:=kZ ah;obtain⟨w1,w2,rfl,p3,p4⟩:=kZ aa
  cases aR p1
  cases aR p2
  cases aR p3
  cases aR p4
  obtain⟨aj,r1,t1,_⟩:=I.tuple sq;obtain⟨ai,r2,t2,_⟩:=I.tuple ab
  cases r1 with
  | cons q1 r1 =>
   cases r1 with
   | cons q2 r1 =>
    cases r1
    obtain⟨s1,rfl⟩:=q1;obtain⟨s2,rfl⟩:=q2
    cases r2 with
    | cons q3 r2 =>
     cases r2 with
     | cons q4 r2 =>
      cases r2
      obtain⟨s3,rfl⟩:=q3;obtain⟨s4,rfl⟩:=q4;refine SeqAt.eq_tupleAt (e:=λn=>if n=0 then i1==j1 else i2==j2) t1 t2 (by omega) (λn h1 h2=>?_) ?_
      ·match n,h1 with
       | 0,_=>exact JQ i1 s1 j1 s3
       | 1,_=>exact JQ i2 s2 j2 s4
      ·refine⟨.bl _,H,I,rfl,?_⟩;have e1:((List.range (min [Value.int i1 s1,Value.int i2 s2].toArray.size [Value.int j1 s3,Value.int j2 s4].toArray.size)).all (λn=>if n=0 then i1==j1 else i2==j2)&&[Value.int i1 s1,Value.int i2 s2].toArray.size==[Value.int j1 s3,Value.int j2 s4].toArray.size)=decide ((i1,i2)=(j1,j2)):=by
        show ((i1==j1)&&((i2==j2)&&true)&&true)=_
        rw[JP];simp
       rw[e1];exact k _ h _ H (bH.refl H) (GI.sc rfl)
end
section
end
def kI(R:W->En->Prop)(δ:En)(r:D):Prop:=r.im=true/\R (.d r) δ
def yb(i:Nat)(f:Zi->(D->Prop)->Prop)(ta tb:GH)(δ:En)(R:W->En->Prop):Prop:=ta δ (wd λx δ1=>tb δ1 (wd λy δ2=>qW δ2[i]? λ_ d=>f [x,y,d] (kI R δ2)))
theorem xi(i:Nat)(C:Cal X.prog X.w X.K X.mg X.base k x ps (Gy X.K f))(hr:cK k X.A)(hg:Gl X x)(ha:DE X a ta)(hb:DE X b tb)(hN:X.N[i]?=some y:=by rfl)
  (hv:Vis X.env.scope y:=by walk_at "v3") (hd:(y==("__debug__":Str))=false:=by decide) (hcd:(y==("__classdict__":Str))=false:=by decide)
  (hdb:(x==("__debug__":Str))=false:=by decide) (he:starEach [a,b,.Name y p2] X.env=(false,eval a X.env)::starEach [b,.Name y p2] X.env:=by rfl) (he1:starEach [b,.Name y p2] X.env=(false,eval b X.env)::starEach [.Name y p2] X.env:=by rfl)
  (he2:starEach [.Name y p2] X.env=(false,eval (.Name y p2) X.env)::starEach [] X.env:=by rfl) (hpl:(backTo pos (starEach [b,.Name y p2] X.env)).any (·.1)=false:=by rfl) :
  DE X (.Call (.Name x p) [a,b,.Name y p2] [] pos) (yb i f ta tb):=by
 obtain⟨g,fd,F,b',kp,m⟩:=C.ex;refine PE.imp (ko F hr hg m kp b' .nil zM (aM ha (aM hb (aM (bA hN hv hd hcd) ci he2) he1) he) hdb he hpl) λσ H Q ⟨G,δ,P,R,s,h,k,_⟩=>up.mk s h λz δ1 h1 v H1 s1=>up.mk s1 h1 λz2 δ2 h2 v2 H2 s2=>?_;replace h2:=qW.ex h2;obtain⟨a0,d0,hi,hf⟩:=h2;refine⟨.ref a0,s2.own hi,?_⟩;show aQ X.K f ([v,v2,.ref a0]++[]) H2 Q;rw[HM];obtain⟨A,q⟩:=s2;obtain⟨_,aa,oo⟩:=q.own i a0 d0 hi;have hM:∀b,((G.M0 b\/A b)/\b≠a0)->(G.M0 b\/A b)\/H2 b=none:=λb h=>.inl h.1;refine⟨λb=>(G.M0 b\/A b)/\b≠a0,[z,z2,d0],λr=>r.im=true/\R (.d r) δ2,λb h=>q.mem b h.1,Reps.cons (GI.more hM _ _ (q.pnd (z,v) (by simp))) (Reps.cons (GI.more hM _ _ (q.pnd (z2,v2) (by simp))) (Reps.one (oo.rep (λz=>z.2 rfl) λb z=>z.1))),hf,λr ⟨im,hr⟩ u H' sm rp=>?_⟩;exact k r δ2 hr u H' ⟨A,((q.same sm).sub (P':=P) λp hp=>by simp[hp]).push (GI.im _ _ im rp)⟩
theorem Sx.slot{K:Zf}{G:Gf}{A:Addr->Prop}{δ:List Sl}{σ:L2.St}{H:Hp}(s:Sx K G A δ P σ H)(aa:A p)(oo:bv K (λb=>G.M0 b\/A b) H p d)(hno:∀(j:Nat) e,δ[j]?≠some (.own p e))(hP:∀q∈P',q∈P) :
  Sx K G A (δ.set i (.own p d)) P' (σ.set i (some (.ref p))) H:=by
 refine⟨s.old,s.stay,s.m0,s.pm,s.new,s.thr,by rw[HV,HV,s.len],λj d' e=>?_,λj b d' e=>?_,λj k b d' e' h1 h2=>?_,λq hq=>s.pnd q (hP q hq)⟩
 ·rcases aT e with⟨_,z,_⟩ | ⟨ab,e⟩
  ·cases z
  ·obtain⟨v,q,r⟩:=s.dat j d' e;exact⟨v,by rw[Hv ab];exact q,r⟩
 ·rcases aT e with⟨ab,z,hl⟩ | ⟨ab,e⟩
  ·cases z
   subst ab;exact⟨by rw[Hr (by rw[<- s.len];exact hl)],aa,oo⟩
  ·obtain⟨q,r,o⟩:=s.own j b d' e;exact⟨by rw[Hv ab];exact q,r,o⟩
 ·rcases aT h1 with⟨ab,z,hl⟩ | ⟨ab,e⟩
  ·cases z
   rcases aT h2 with⟨ah,_,_⟩ | ⟨ah,e2⟩
   ·rw[<- ab,<- ah]
   ·exact absurd e2 (hno k _)
  ·rcases aT h2 with⟨ah,z,_⟩ | ⟨ah,e2⟩
   ·cases z
    exact absurd e (hno j _)
   ·exact s.inj j k b d' e' e e2
def xY(i:Nat)(src:TDC)(nt:Nat)(caps:List (Nat×Str))(g:TDG)(tc:TDT)(te:GH)(R:aP)(δ:En):Prop:=src δ λxs δ1=>xs.length<=9000/\∃f:D->Option D,
 (∀x∈xs,wG nt λts=>g x (ts++gU caps δ1) λδ2=>tc δ2 λb δ3=>if b=true then te δ3 (wd λy δ4=>okT nt δ4 (gU caps δ1)/\f x=some y) else okT nt δ3 (gU caps δ1)/\f x=none)/\∀a,lq δ1 i (.own a (.lst (xs.filterMap f))) R.nx
theorem wP(i:Nat)(hN:X.N.Nodup)(tn:Zb)(caps:List (Nat×Str))
  (hcalm:X.calm=true) (hclos:closureFor scope X.env=pure cl) (hcell:∀p∈caps,(p.2,NameKind.cell)∉scope.names) (hkind:scope.kind=.function) (hnames:∀y∈scope.names,y.2=.local->scope.names.lookup y.1=some .local)
  (hcl:∀x c,cl.lookup x=some c->X.env.cells.lookup x=some c) (hhas:∀(n:Nat) x,((relabel scope X.env).names.lookup x=some .cell\/(relabel scope X.env).names.lookup x=some .free)->∃c,(cellsFrom n scope.names []++cl).lookup x=some c)
  (hcap:∀p∈caps,X.N[p.1]?=some p.2/\X.env.scope.names.lookup p.2=some .cell/\((relabel scope X.env).names.lookup p.2=some .cell\/(relabel scope X.env).names.lookup p.2=some .free))
  (hi:CI X.nox tgt iter src)
  (hb:∀s2 H2 C fp pn,DG (c5 X (tn++caps.map (·.2)) scope cl s2 H2 C fp pn) tgt g/\DF (c5 X (tn++caps.map (·.2)) scope cl s2 H2 C fp pn) ifs tc/\DE (c5 X (tn++caps.map (·.2)) scope cl s2 H2 C fp pn) elt te)
  (hs:∀x,foldedSetIterable iter X.env x=pure x:=by intro _;rfl) (hi':X.N[i]?=some y:=by rfl) (hx:Loc X.env.scope y:=by walk_at "v2")
  (hsw:swapsWith (.ListComp elt [⟨tgt,iter,ifs,0⟩] scope pos) (some (.Name y pos')) pos2.line X.env=pure true:=by rfl) (hf:X.fn y=true\/X.env.scope.names.lookup y=some .local :=by walk_at "v1") :
  DS X.nox (.Assign [.Name y pos'] (.ListComp elt [⟨tgt,iter,ifs,0⟩] scope pos) pos2) (xY i src tn.length caps g tc te):=by
 obtain⟨wi,hi,hw⟩:=hi;refine PS.imp (qK (g:=upG X.K g) (tc:=upT X.K tc) (te:=up X.K te) tn caps hcalm hclos hcell hkind hnames hcl hhas hcap hi hb hs hN hi' hx hsw hf) λE σ H ⟨G,δ,P,R,s,h,k,_⟩=>?_;refine hw G δ P σ H _ _ s h λxs δ1 ⟨hz,f,hf,r⟩ J P1 H1 hP s1 hgo hst hyl p hp=>?_;refine jU (Q:=λx H1=>vf i x σ H1 E.nx) s1 hz (λA i H x hi=>hgo A _ _ i H x hi) (λA H x=>hst A _ _ H x) (λA i x H H2 s hi hy=>hyl A _ _ i x H H2 s hi hy) hf p hp λA acc H' hA ho x hac rs=>?_;exact k _ (r p) _ H' ⟨_,x.slot (P':=P) (.inr rfl) ⟨acc,hac,rs⟩ (λj e z=>hA (.inr (ho j p e z))) hP⟩
theorem fj(i:Nat)(hN:X.N.Nodup)(tn:Zb)(caps:List (Nat×Str))
  (hcalm:X.calm=true) (hclos:closureFor scope X.env=pure cl) (hcell:∀p∈caps,(p.2,NameKind.cell)∉scope.names) (hkind:scope.kind=.function) (hnames:∀y∈scope.names,y.2=.local->scope.names.lookup y.1=some .local)
  (hcl:∀x c,cl.lookup x=some c->X.env.cells.lookup x=some c) (hhas:∀(n:Nat) x,((relabel scope X.env).names.lookup x=some .cell\/(relabel scope X.env).names.lookup x=some .free)->∃c,(cellsFrom n scope.names []++cl).lookup x=some c)
  (hcap:∀p∈caps,X.N[p.1]?=some p.2/\X.env.scope.names.lookup p.2=some .cell/\((relabel scope X.env).names.lookup p.2=some .cell\/(relabel scope X.env).names.lookup p.2=some .free))
  (hi:CI X.nox tgt iter src)
  (hb:∀s2 H2 C fp pn,DG (c5 X (tn++caps.map (·.2)) scope cl s2 H2 C fp pn) tgt g/\DF (c5 X (tn++caps.map (·.2)) scope cl s2 H2 C fp pn) ifs tc/\DE (c5 X (tn++caps.map (·.2)) scope cl s2 H2 C fp pn) elt te)
  (hs:∀x,foldedSetIterable iter X.env x=pure x:=by intro _;rfl) (hi':X.N[i]?=some y:=by rfl) (hx:Loc X.env.scope y:=by walk_at "v2")
  (hsw:swapsWith (.ListComp elt [⟨tgt,iter,ifs,0⟩] scope pos) (some (.Name y pos')) pos2.line X.env=pure true:=by rfl) (hf:X.fn y=true\/X.env.scope.names.lookup y=some .local :=by walk_at "v1") :
  DS X.nox (.Assign [.Name y pos'] (.ListComp elt [⟨tgt,iter,ifs,0⟩] scope pos) pos2) (dSet i (An src tn.length caps g tc te)):=by
 obtain⟨wi,hi,hw⟩:=hi;refine PS.imp (qK (g:=upG X.K g) (tc:=upT X.K tc) (te:=up X.K te) tn caps hcalm hclos hcell hkind hnames hcl hhas hcap hi hb hs hN hi' hx hsw hf) λE σ H ⟨G,δ,P,R,s,h,k,_⟩=>?_;refine hw G δ P σ H _ _ s h λxs δ1 ⟨hz,f,hf,r⟩ J P1 H1 hP s1 hgo hst hyl p hp=>?_
 exact lH (Q:=λx H1=>vf i x σ H1 E.nx) s1 hz (λA i H x hi=>hgo A _ _ i H x hi) (λA H x=>hst A _ _ H x) (λA i x H H2 s hi hy=>hyl A _ _ i x H H2 s hi hy) hf (λv H' s'=>k _ r _ H' ((s'.sub (P':=(.lst (xs.filterMap f),v)::P) λq hq=>by
  rcases GY.mp hq with rfl | hq
  ·simp
  ·exact GP _ (hP q hq)).set (by simp) λp hp=>by simp[hp])) p hp
section
def iSeq(K:Zf)(tl:TE):TI:=λσ H R=>tl σ H λx H1=>(∃a,x=.ref a/\(∃xs,GL K H1 a xs)/\R (Itl K a) H1)\/∃a,x=.ref a/\(∃xs,GA K H1 a xs)/\R (Itt K a) H1
theorem B3(hl:PE X l tl):PI X tg l (iSeq X.K tl):=by
 intro pins s σ H R I h;refine Gj (hl pins s σ H _ I h) λv s1 ⟨x,H1,I1,r1,q1⟩=>?_
 rcases q1 with⟨a,e,⟨xs,hq⟩,q⟩ | ⟨a,e,⟨xs,hq⟩,q⟩
 ·subst e
  cases r1
  obtain⟨aa,rv,p,hz⟩:=I1.list hq;refine Ju p.isList ?_;refine⟨s1.heap.objs.size,[s1.heap.objs.size],_,_,H1,rfl,I1.kept (t':=s1.toks) λb o e=>GO _ e,mH a _,⟨_,G5 _ rfl,rfl,rfl⟩,λb hb=>?_,q⟩;have e:b=s1.heap.objs.size:=by simpa using hb
  subst e;exact I1.fpOk (GU _) (I1.hok.fresh (GU _))
 ·subst e
  cases r1
  obtain⟨aa,rv,p,hz⟩:=I1.tuple hq;refine wpAny_pyIter_tuple p ?_;refine⟨s1.heap.objs.size,[s1.heap.objs.size],_,_,H1,rfl,I1.kept (t':=s1.toks) λb o e=>GO _ e,jJ a _,⟨_,G5 _ rfl,rfl,rfl⟩,λb hb=>?_,q⟩;have e:b=s1.heap.objs.size:=by simpa using hb
  subst e;exact I1.fpOk (GU _) (I1.hok.fresh (GU _))
def qY:D->(Zi->Prop)->Prop
 | .lst xs,k=>k xs
 | .tup xs,k=>k xs
 | _,_=>False
theorem qY.ex(h:qY d k):∃b xs,d=sq b xs/\k xs:=by
 cases d<;>first | exact False.elim h | exact⟨true,_,rfl,h⟩ | exact⟨false,_,rfl,h⟩
def dcSq(t:GH)(δ:En)(R:Zi->En->Prop):Prop:=t δ (wd λd δ1=>qY d λxs=>R xs δ1)
theorem ET(h:DE X e te):CI X tg e (dcSq te):=⟨_,B3 h,λG δ P σ H R Q s hs k=>up.mk s hs λd δ1 h1 v H1 s1=>by
 replace h1:=qY.ex h1;obtain⟨kk,xs,e,r⟩:=h1;subst e;have aa:∀A δ σ H,Sx X.K G A δ ((sq kk xs,v)::P) σ H->∃a vs,v=.ref a/\Go kk X.K H a vs/\Reps X.K (λb=>G.M0 b\/A b) H xs vs:=λA δ σ H x=>oY (x.pnd (sq kk xs,v) (by simp));obtain⟨A1,x1⟩:=id s1;obtain⟨a,ah,rfl,l0,_⟩:=aa _ _ _ _ x1
 cases kk
 ·refine .inr ⟨a,rfl,⟨ah,l0⟩,k xs δ1 r _ _ H1 (λq hq=>by simp[hq]) s1 (λA δ σ i H x hi=>?_) (λA δ σ H x=>?_) λA δ σ i y H H2 x hi hy=>?_⟩
  ·obtain⟨b,vs,e,l,r⟩:=aa _ _ _ _ x
   cases e
   obtain⟨w',hw,_⟩:=Reps.get _ _ r i xs[i] (by simp[hi]);exact⟨vs,w',l,hw⟩
  ·obtain⟨b,vs,e,l,r⟩:=aa _ _ _ _ x
   cases e
   exact⟨vs,l,by rw[Reps.length _ _ r];exact GU _⟩
  ·obtain⟨b,vs,e,l,r⟩:=aa _ _ _ _ x
   cases e
   obtain⟨e,hy⟩:=hy;obtain⟨w',hw,ab⟩:=Reps.get _ _ r i xs[i] (by simp[hi]);have z:=hy vs l;rw[hw] at z
   cases z
   subst e;exact⟨bH.refl _,xs[i],by simp[hi],ab⟩
 ·refine .inl ⟨a,rfl,⟨ah,l0⟩,k xs δ1 r _ _ H1 (λq hq=>by simp[hq]) s1 (λA δ σ i H x hi=>?_) (λA δ σ H x=>?_) λA δ σ i y H H2 x hi hy=>?_⟩
  ·obtain⟨b,vs,e,l,r⟩:=aa _ _ _ _ x
   cases e
   obtain⟨w',hw,_⟩:=Reps.get _ _ r i xs[i] (by simp[hi]);exact⟨vs,w',l,hw⟩
  ·obtain⟨b,vs,e,l,r⟩:=aa _ _ _ _ x
   cases e
   exact⟨vs,l,by rw[Reps.length _ _ r];exact GU _⟩
  ·obtain⟨b,vs,e,l,r⟩:=aa _ _ _ _ x
   cases e
   obtain⟨e,hy⟩:=hy;obtain⟨w',hw,ab⟩:=Reps.get _ _ r i xs[i] (by simp[hi]);have z:=hy vs l;rw[hw] at z
   cases z
   subst e
   exact⟨bH.refl _,xs[i],by simp[hi],ab⟩⟩
end
section
theorem EU:GC X (binaryOp .LShift) λx y=>aQ X.K (fI CPow λi j=>.int (i*2 ^ j.toNat)) [x,y]:=opI BI (λ_ _=>rfl) λ_ _ h=>h
end
section
end
section
end
theorem FdK.fd{K:Zf}{st:Stmt}{h:Heap}{mg:Str->Zd}{ps:Zb}(q:FdK K x st)(X:K.In h)(G:h.Ns mainGlobals mg)
  (b:∀(kV doc pm:Value) (an:Option Addr) (cdv ct:Value) (us:Zc),us.length=ps.length->bindArgs (PySem.W.fnOf x x (bS st) (aW st) (am st) .none kV doc pm an cdv ct) ⟨us,[]⟩=pure (ps.zip us)):Fd K mg x st ps:=by
 obtain⟨f,oc,od,an,sl,kV,dc,pm,cd,ct,a,l,c,k⟩:=q.ex;have F:=yy (st:=st) l c k;exact⟨_,_,F,F.binds (ps:=ps) b,IB X G a⟩
theorem gT(h:l.length=n+1):∃a r,l=a::r/\r.length=n:=by
 cases l with
 | nil=>cases h
 | cons a r=>exact⟨a,r,rfl,Jp h⟩
theorem len1(h:l.length=1):∃a,l=[a]:=by
 obtain⟨a,r,rfl,h1⟩:=gT h;rw[HR h1];exact⟨a,rfl⟩
theorem len2(h:l.length=2):∃a b,l=[a,b]:=by
 obtain⟨a,r,rfl,h1⟩:=gT h;obtain⟨b,rfl⟩:=len1 h1;exact⟨a,b,rfl⟩
theorem len3(h:l.length=3):∃a b c,l=[a,b,c]:=by
 obtain⟨a,r,rfl,h1⟩:=gT h;obtain⟨b,c,rfl⟩:=len2 h1;exact⟨a,b,c,rfl⟩
theorem len4(h:l.length=4):∃a b c d,l=[a,b,c,d]:=by
 obtain⟨a,r,rfl,h1⟩:=gT h;obtain⟨b,c,d,rfl⟩:=len3 h1;exact⟨a,b,c,d,rfl⟩
theorem FdK.fd1{K:Zf}{x1:Str}{st:Stmt}{h:Heap}{mg:Str->Zd}(q:FdK K x st)(X:K.In h)(G:h.Ns mainGlobals mg)
  (b:∀(kV doc pm:Value) (an:Option Addr) (cdv ct u1:Value),bindArgs (PySem.W.fnOf x x (bS st) (aW st) (am st) .none kV doc pm an cdv ct) ⟨[u1],[]⟩=pure [(x1,u1)]):Fd K mg x st [x1] :=
 q.fd X G λkV doc pm an cdv ct us hl=>by
  obtain⟨u1,rfl⟩:=len1 hl;exact b kV doc pm an cdv ct u1
theorem FdK.fd2{K:Zf}{x2:Str}{st:Stmt}{h:Heap}{mg:Str->Zd}(q:FdK K x st)(X:K.In h)(G:h.Ns mainGlobals mg)
  (b:∀(kV doc pm:Value) (an:Option Addr) (cdv ct u1 u2:Value),bindArgs (PySem.W.fnOf x x (bS st) (aW st) (am st) .none kV doc pm an cdv ct) ⟨[u1,u2],[]⟩=pure [(x1,u1),(x2,u2)]):Fd K mg x st [x1,x2] :=
 q.fd X G λkV doc pm an cdv ct us hl=>by
  obtain⟨u1,u2,rfl⟩:=len2 hl;exact b kV doc pm an cdv ct u1 u2
theorem FdK.fd3{K:Zf}{x3:Str}{st:Stmt}{h:Heap}{mg:Str->Zd}(q:FdK K x st)(X:K.In h)(G:h.Ns mainGlobals mg)
  (b:∀(kV doc pm:Value) (an:Option Addr) (cdv ct u1 u2 u3:Value),bindArgs (PySem.W.fnOf x x (bS st) (aW st) (am st) .none kV doc pm an cdv ct) ⟨[u1,u2,u3],[]⟩=pure [(x1,u1),(x2,u2),(x3,u3)]):Fd K mg x st [x1,x2,x3] :=
 q.fd X G λkV doc pm an cdv ct us hl=>by
  obtain⟨u1,u2,u3,rfl⟩:=len3 hl;exact b kV doc pm an cdv ct u1 u2 u3
theorem FdK.fd4{K:Zf}{x4:Str}{st:Stmt}{h:Heap}{mg:Str->Zd}(q:FdK K x st)(X:K.In h)(G:h.Ns mainGlobals mg)
  (b:∀(kV doc pm:Value) (an:Option Addr) (cdv ct u1 u2 u3 u4:Value),bindArgs (PySem.W.fnOf x x (bS st) (aW st) (am st) .none kV doc pm an cdv ct) ⟨[u1,u2,u3,u4],[]⟩=pure [(x1,u1),(x2,u2),(x3,u3),(x4,u4)]):Fd K mg x st [x1,x2,x3,x4] :=
 q.fd X G λkV doc pm an cdv ct us hl=>by
  obtain⟨u1,u2,u3,u4,rfl⟩:=len4 hl;exact b kV doc pm an cdv ct u1 u2 u3 u4
theorem len5(h:l.length=5):∃a b c d e,l=[a,b,c,d,e]:=by
 obtain⟨a,r,rfl,h1⟩:=gT h;obtain⟨b,c,d,e,rfl⟩:=len4 h1;exact⟨a,b,c,d,e,rfl⟩
theorem FdK.fd5{K:Zf}{x5:Str}{st:Stmt}{h:Heap}{mg:Str->Zd}(q:FdK K x st)(X:K.In h)(G:h.Ns mainGlobals mg)
  (b:∀(kV doc pm:Value) (an:Option Addr) (cdv ct u1 u2 u3 u4 u5:Value),bindArgs (PySem.W.fnOf x x (bS st) (aW st) (am st) .none kV doc pm an cdv ct) ⟨[u1,u2,u3,u4,u5],[]⟩=pure [(x1,u1),(x2,u2),(x3,u3),(x4,u4),(x5,u5)]):Fd K mg x st [x1,x2,x3,x4,x5] :=
 q.fd X G λkV doc pm an cdv ct us hl=>by
  obtain⟨u1,u2,u3,u4,u5,rfl⟩:=len5 hl;exact b kV doc pm an cdv ct u1 u2 u3 u4 u5
theorem rm(h:cK k A)(e:j<=k:=by decide):cK j A:=h.mono e
section
def fAny:Zi->(D->Prop)->Prop
 | [.lst ds],R=>∃bs:List Bool,ds=bs.map D.bl/\R (.bl (bs.any id))
 | _,_=>False
theorem xo:fAny [.lst ds] R=(∃bs:List Bool,ds=bs.map D.bl/\R (.bl (bs.any id))):=rfl
def fAll:Zi->(D->Prop)->Prop
 | [.lst ds],R=>∃bs:List Bool,ds=bs.map D.bl/\R (.bl (bs.all id))
 | _,_=>False
theorem zK:∀ {d0:Zi} {R:D->Prop},fAll d0 R->∃(ds:Zi),d0=[.lst ds]/\∃bs:List Bool,ds=bs.map D.bl/\R (.bl (bs.all id)):=by walk_at "or"
theorem wg:fAll [.lst ds] R=(∃bs:List Bool,ds=bs.map D.bl/\R (.bl (bs.all id))):=rfl
theorem ql{K:Zf}{M:Addr->Prop}{H:Hp}:∀ {ns:List Bool} {vs:Zg},Reps K M H (ns.map D.bl) vs->vs=ns.map V.bl
 | [],_,h=>h
 | n::ns,_,h=>by
  obtain⟨v,r,rfl,q,t⟩:=h;have q:v=.bl n:=q;rw[q,ql t];rfl
theorem yh:∀ {ns:List Bool} {us:Zc},bF (ns.map V.bl) us->us.length=ns.length/\∀(i:Nat) (v:Value),us[i]?=some v->∃b,ns[i]?=some b/\v=.bool b
 | [],_,r=>by rw[Jo] at r;cases r;exact⟨rfl,λi v e=>by simp at e⟩
 | n::ns,_,r=>by
  rw[Hs] at r
  cases r with
  | @cons _ u _ us h t =>
   have e:u=Value.bool n:=h
   subst e;obtain⟨h1,h2⟩:=yh t;refine⟨by rw[G0,G0,h1],λi v e=>?_⟩
   cases i with
   | zero=>cases e;exact⟨n,rfl,rfl⟩
   | succ i=>exact h2 i v e
theorem C7(hc:X.calm=true):cq X (.builtin "all") (aQ X.K fAll):=by
 intro pins s σ H xs us Q I rv h;obtain⟨M,ds,R,m,rs,h,k⟩:=h;replace h:=zK h;obtain⟨_,rfl,h⟩:=h;obtain⟨bs,rfl,h⟩:=h;obtain⟨x,rfl,q⟩:=bq rs;unfold GI at q;obtain⟨a,vs,rfl,_,e,r⟩:=q;obtain⟨u,rfl,ru⟩:=gH rv
 cases ru
 cases ql r
 obtain⟨aa,ab,pl,_⟩:=I.list (GL.of e);obtain⟨hl,hg⟩:=yh ab;have il:=pl.isList;have lt:a<s.heap.objs.size:=by obtain⟨_,e,_⟩:=il;exact G3 e
 refine call_all_walk (Ju il ⟨_,[_,a],_,_,_,_,λi=>(bs[i]?).getD true,rfl,Walks.list (A:=Around.in1 _) (I.ok.hd hc) _ a (Ho lt) aa.toArray,⟨⟨_,G5 _ rfl,rfl,rfl⟩,il.push _⟩,λi v s' Q' E' hP hQ=>?_,λh' tk hk=>?_⟩)
 ·obtain⟨b,e,rfl⟩:=hg i v (by simpa using hP);have hQ:Q' ((bs[i]?).getD true) s':=hQ;rw[e] at hQ;exact IJ hQ
 ·refine⟨.bl (bs.all id),H,I.kept (t':=tk) (LSm.kept_iter hk),?_,k _ h _ H (bH.refl H) (GI.sc rfl)⟩;show Value.bool _=Value.bool _;rw[G8,hl,LSm.range_all]
end
theorem Eg:bootBuiltins "all"=some (.builtin "all"):=by decide +kernel
def fEqz:Zi->(D->Prop)->Prop
 | [.tup xs,.tup []],R=>R (.bl (decide (xs.length=0)))
 | _,_=>False
theorem zO(h:fEqz d0 R):∃xs,d0=[.tup xs,.tup []]/\R (.bl (decide (xs.length=0))):=by
 rcases d0 with _ | ⟨a,_ | ⟨b,_ | ⟨c,l⟩⟩⟩
 ·exact False.elim h
 ·cases a<;>exact False.elim h
 ·cases a<;>first | exact False.elim h | (cases b<;>first | exact False.elim h | (rename_i xs ys;cases ys<;>first | exact False.elim h | exact⟨_,rfl,h⟩))
 ·cases a<;>first | exact False.elim h | (cases b<;>first | exact False.elim h | (rename_i xs ys;cases ys<;>exact False.elim h))
theorem Cr:fEqz [.tup xs,.tup []] R=R (.bl (decide (xs.length=0))):=rfl
section
theorem o_eqz(hu:X.A.units+64<cLine):GC X (compareOp .Eq) λx y=>aQ X.K fEqz [x,y]:=by
 intro pins s σ H x y v u Q I rx ry h;obtain⟨M,ds,R,m,rs,h,k⟩:=h;obtain⟨xs,rfl,h⟩:=zO h;obtain⟨h1,h2⟩:=bP rs;unfold GI at h1 h2;obtain⟨a,vs,rfl,sq,aj⟩:=h1;obtain⟨b,ws,rfl,ai,ah⟩:=h2
 cases rx
 cases ry
 obtain⟨ab,r1,t1,_⟩:=I.tuple sq;obtain⟨aa,r2,t2,_⟩:=I.tuple ai;have l1:ab.length=xs.length:=by rw[<- r1.length,<- Reps.length _ _ aj]
 have l2:aa.length=0:=by rw[<- r2.length,<- Reps.length _ _ ah];rfl
 refine SeqAt.eq_tupleAt (e:=λ_=>true) t1 t2 (by omega) (λn _ h2=>?_) ?_
 ·rw[G8,l2] at h2;omega
 have z:((List.range (min ab.toArray.size aa.toArray.size)).all (λ_=>true)&&ab.toArray.size==aa.toArray.size)=decide (xs.length=0):=by
  rw[G8,G8,l1,l2,Nat.min_zero];rfl
 rw[z];exact⟨.bl _,H,I,rfl,k _ h _ H (bH.refl H) (GI.sc rfl)⟩
def fNez:Zi->(D->Prop)->Prop
 | [.lst xs,.lst []],R=>R (.bl (!decide (xs.length=0)))
 | _,_=>False
theorem Bc(h:fNez d0 R):∃xs,d0=[.lst xs,.lst []]/\R (.bl (!decide (xs.length=0))):=by
 rcases d0 with _ | ⟨a,_ | ⟨b,_ | ⟨c,l⟩⟩⟩
 ·exact False.elim h
 ·cases a<;>exact False.elim h
 ·cases a<;>first | exact False.elim h | (cases b<;>first | exact False.elim h | (rename_i xs ys;cases ys<;>first | exact False.elim h | exact⟨_,rfl,h⟩))
 ·cases a<;>first | exact False.elim h | (cases b<;>first | exact False.elim h | (rename_i xs ys;cases ys<;>exact False.elim h))
theorem Dk:fNez [.lst xs,.lst []] R=R (.bl (!decide (xs.length=0))):=rfl
theorem EZ(hu:X.A.units+64<cLine):GC X (compareOp .NotEq) λx y=>aQ X.K fNez [x,y]:=by
 intro pins s σ H x y v u Q I rx ry h;obtain⟨M,ds,R,m,rs,h,k⟩:=h;replace h:=Bc h;obtain⟨xs,rfl,h⟩:=h;have aa:∀b,R (.bl b)->EP X pins σ Q (.bool b) s:=λb r=>⟨.bl b,H,I,rfl,k _ r _ H (bH.refl H) (GI.sc rfl)⟩;obtain⟨h1,h2⟩:=bP rs;unfold GI at h1 h2;obtain⟨a,vs,rfl,_,sq,al⟩:=h1;obtain⟨b,ws,rfl,_,ai,ah⟩:=h2
 cases rx
 cases ry
 obtain⟨aj,r1,t1,_⟩:=I.list (GL.of sq);obtain⟨ab,r2,t2,_⟩:=I.list (GL.of ai);have l1:aj.length=xs.length:=by rw[<- r1.length,<- Reps.length _ _ al]
 have l2:ab.length=0:=by rw[<- r2.length,<- Reps.length _ _ ah];rfl
 by_cases e:xs.length=0
 ·rw[HJ e] at h;refine SeqAt.RcNeAt.lists (e:=λ_=>true) t1.isList t2.isList (by rw[G8,G8];omega) (by omega) (λn h1 _=>?_) _ _ _ _ ?_
  ·rw[G8] at h1;omega
  ·rw[fF];exact aa _ h
 ·rw[HA e] at h;refine SeqAt.RcNeAt.lists_lengths t1.isList t2.isList ?_ (by omega) _ _ _ _ (aa _ h);rw[G8,G8,bne_iff_ne];omega
end
section
end
section
end
section
end
open PySem PySem.Spec PySem.W PyProof.Rows L2
section
end
section
end
structure All2(Pr:D->D->Prop)(xs ys:Zi):Prop where
 len:ys.length=xs.length
 all:∀(i:Nat) x y,xs[i]?=some x->ys[i]?=some y->Pr x y
theorem All2.nil:All2 Pr [] []:=⟨rfl,λ_ _ _ h=>by simp at h⟩
section
end
section
end
end DL
namespace HT
open PySem PyProof.Rows
open PySem.SeqAt
open PySem.AutoSeq1 (wpAny_loadPart')
open PySem.MeetsSeq PySem.MeetsSeq2 PySem.MeetsSeq3
section
theorem getItem_tuple_all{prog:Program}{w:World}{A:Around}{E:Value->Shared->Prop}{s:Shared}{t sl:Addr}{items:Array Value}{vl vu:Value}{lo hi:Option Int}{Q:Value->Shared->Prop}(ht:IsTup s.heap t items)(hs:s.heap.IsSliceOf sl vl vu .none)(pl:IsPart vl lo)(pu:IsPart vu hi)
  (hw:sIx items.size 0 lo=0/\sIx items.size items.size hi=items.size) (h:Q (.ref t) s):wpAny (model prog w) A (getItem (.ref t) (.ref sl)) Q E s:=by
 have hj:sIx items.size items.size hi<=items.size:=yx _ _ (GU _) hi
 obtain⟨os,ai,ah,aj⟩:=id hs;have ab:s.TypeIs (.ref sl) "slice":=⟨os,ai,ah⟩;unfold getItem
 try with_reducible refine Iz ?_
 first | refine GM (GQ ?_) | skip
 refine GM (wpAny_sequenceKey ht.typeIs (by decide) ?_)
 refine GM (Ia (name:=Str.ofString "__getitem__") ht.typeIs HU
  (Ik HU ht.typeIs entry_tuple_getitem ?_ (args_tuple_getitem _ _)))
 show wpAny _ _ (Builtin.Tuple.tupleItemsOf (.ref t) >>= _) _ _ s
 refine GM (tupleItemsOf_ ht ?_);refine GM (J5 ab ?_);rw[Hc (by decide)];refine GM (de hs pl pu ?_);have aa:(((sIx items.size 0 lo:Nat):Int)==0&&(1:Int)==1&&(sIx items.size items.size hi-sIx items.size 0 lo)==items.size)=true:=by
  rw[hw.1,hw.2];simp
 show wpAny _ _ (if (((sIx items.size 0 lo:Nat):Int)==0&&(1:Int)==1&&(sIx items.size items.size hi-sIx items.size 0 lo)==items.size)=true then _ else _) _ _ s
 rw[Hc aa];refine GM (GM (J5 ht.typeIs (GQ ?_)));rw[Hc (by decide)];refine GM (Kj ?_);exact GQ ⟨_,rfl,GQ h⟩
end
end HT
namespace DL
open PySem PySem.Spec PyProof.Rows L2
section
theorem zR:SlR X (λx lo hi H Q=>∃a xs,x=.ref a/\GA X.K H a xs/\(HT.sIx xs.length 0 lo=0/\HT.sIx xs.length xs.length hi=xs.length)/\Q x H):=by
 intro pins s σ H x v vl vu lo hi sl Q I rx hs pl pu h;obtain⟨a,xs,rfl,hx,hw,q⟩:=h
 cases rx
 obtain⟨ab,r,ht,hz⟩:=I.tuple hx;have aa:ab.toArray.size=xs.length:=by rw[G8];exact r.length.symm
 refine⟨"tuple",_,HU.lookup,ht.typeIs,HT.getItem_tuple_all ht hs pl pu (by rw[aa];exact hw) ⟨.ref a,H,I,rfl,q⟩⟩
def fSlT:D->Option Int->Option Int->(D->Prop)->Prop
 | .tup xs,lo,hi,R=>R (.tup (cut xs lo hi))
 | _,_,_,_=>False
theorem B8:fSlT (.tup xs) l u R=R (.tup (cut xs l u)):=rfl
def dSlT(te:GH)(tl th:TDO)(δ:En)(R:W->En->Prop):Prop:=te δ (wd λx δ1=>tl δ1 λl δ2=>th δ2 λu δ3=>fSlT x l u λd=>R (.d d) δ3)
theorem zT(h:HT.sIx xs.length 0 l=0/\HT.sIx xs.length xs.length u=xs.length):cut xs l u=xs:=by
 unfold cut;rw[h.1,h.2,List.drop_zero,Nat.sub_zero,Ht]
theorem pO{X:Cx}{e:Expr}{te:GH}{lo hi:Option Expr}{tl th:TDO}{p2 pos:Pos}(he:DE X e te)(hl:DO X lo tl)(hu:DO X hi th):DE X (.Subscript e (.Slice lo hi none p2) pos) (dSlT te tl th) :=
 PE.imp (oV (zR.or xG) he hl hu) λσ H Q ⟨G,δ,P,R,s,h,k,_⟩=>up.mk s h λx δ1 h1 v H1 s1=>⟨G,δ1,(x,v)::P,_,s1,h1,λl δ2 h2 H2 s2=>⟨G,δ2,(x,v)::P,_,s2,h2,λu δ3 h3 H3 s3=>by
  obtain⟨A,q⟩:=id s3;have r:=q.pnd (x,v) (by simp)
  cases x with
  | tup xs =>
   have h3:R (.d (.tup (cut xs l u))) δ3:=h3
   have rr:=r
   simp only[GI] at r;obtain⟨a,vs,e,sq,r⟩:=r
   by_cases w:HT.sIx xs.length 0 l=0/\HT.sIx xs.length xs.length u=xs.length
   ·rw[zT w] at h3;rw[Reps.length _ _ r] at w;exact .inl ⟨a,vs,e,sq,w,k _ δ3 h3 v _ s3⟩
   ·refine .inr ⟨a,vs,e,sq,by rw[<- Reps.length _ _ r];exact w,λp hp=>?_⟩;have x2:=(q.same (aF hp (.tup (sr vs l u))));refine k _ δ3 h3 (.ref p) _ ⟨A,(x2.sub (P':=P) λp hp=>GP _ hp).push ?_⟩;unfold GI;exact⟨p,_,rfl,GA.of aw,Reps.kp (Kp.of_same (aF hp _)) _ _ (Reps.cut l u r)⟩
  | _=>exact(show False from h3).elim⟩⟩
end
section
structure GAlw(K:Zf)(mg:Str->Zd)(x:Str):Prop where
 ex:∃a e o q n m t u,mg x=some (.ref a)/\K.lookup a=some o/\o.cls=.type "tuple"/\o.data=.seq #[.str "least" t,.ref e,.int 0 u] n/\K.lookup e=some q/\q.cls=.type "tuple"/\q.data=.seq #[] m
theorem yP(hg:Gl X x)(h:GAlw X.K X.mg x)(hd:(x==("__debug__":Str))=false:=by decide):DE X (.Name x pos) (dC (.tup [.str "least",.tup [],.int 0])):=by
 obtain⟨a,e,o,q,n,m,t,u,h0,h1,h2,h3,h4,h5,h6⟩:=h.ex;refine PE.imp (iP (v:=.ref a) hg h0 rfl hd) λσ H Q ⟨G,δ,P,R,⟨A,s⟩,h,k,_⟩=>k _ δ h _ H ⟨A,s.push ?_⟩;unfold GI;refine⟨a,[.str "least",.ref e,.int 0],rfl,.inr ⟨o,_,n,h1,h2,h3,by show 3<=sizeLine;decide,.cons ⟨t,rfl⟩ (.cons rfl (.cons ⟨u,rfl⟩ .nil))⟩,Reps.cons (by unfold GI;rfl) (Reps.cons ?_ (Reps.one (by unfold GI;rfl)))⟩;unfold GI;exact⟨e,[],rfl,.inr ⟨q,_,m,h4,h5,h6,by show 0<=sizeLine;exact Ir _,.nil⟩,Reps.nil⟩
end
def rY:En->Bool
 | []=>true
 | .own _ _::_=>false
 | .dat _::r=>rY r
 | .no::r=>rY r
theorem rY.at:∀ {δ:En} (i:Nat) (a:Addr) (d:D),rY δ=true->δ[i]?≠some (.own a d)
 | [],i,a,d,_,e=>by simp at e
 | .own _ _::_,i,a,d,h,_=>by cases h
 | .dat _::r,i,a,d,h,e=>by
  cases i with
  | zero=>simp at e
  | succ i=>exact rY.at (δ:=r) i a d h (by simpa using e)
 | .no::r,i,a,d,h,e=>by
  cases i with
  | zero=>simp at e
  | succ i=>exact rY.at (δ:=r) i a d h (by simpa using e)
section
end
section
def fInF:Zi->(D->Prop)->Prop
 | [.str x,.fd ks _],R=>R (.bl (decide (x∈ks)))
 | _,_=>False
theorem Bu(h:fInF d0 R):∃(x:Str) (ks:Zb) (ds:Zi),d0=[.str x,.fd ks ds]/\R (.bl (decide (x∈ks))):=by
 rcases d0 with _ | ⟨a,_ | ⟨b,_ | ⟨c,l⟩⟩⟩
 ·exact False.elim h
 ·cases a<;>exact False.elim h
 ·cases a<;>first | exact False.elim h | (cases b<;>first | exact False.elim h | exact⟨_,_,_,rfl,h⟩)
 ·cases a<;>first | exact False.elim h | (cases b<;>exact False.elim h)
theorem C5:fInF [.str x,.fd ks ds] R=R (.bl (decide (x∈ks))):=rfl
theorem FL(hu:X.A.units+64<cLine):GC X (compareOp .In) λx y=>aQ X.K fInF [x,y]:=by
 intro pins s σ H x y v u Q I rx ry h;obtain⟨M,ds,R,m,rs,h,k⟩:=h;replace h:=Bu h;obtain⟨_,_,_,rfl,h⟩:=h;obtain⟨h1,h2⟩:=bP rs
 cases bm h1
 unfold GI at h2;obtain⟨a,vs,o,rfl,e,l,r⟩:=h2
 cases ry
 refine d_in (by omega) I (.inl ⟨_,Sum.inr _,.inr ⟨o,e⟩,rfl,rfl⟩) rx λs' I'=>?_;rw[cV,e8 (by rw[l,Reps.length _ _ r])];exact⟨.bl _,H,I',rfl,k _ h _ H (bH.refl H) (GI.sc rfl)⟩
end
section
end
section
end
end DL
namespace DL
open PySem PySem.Spec PyProof.Rows L2
structure C2(h:Heap)(C N R NR:Addr)(mN mR:Str->Zd):Prop where
 hC:∃nm q bs sn sub ab col dd k0 k1 k2 k3 k5,h.get? C=some (excClassObj nm q C N bs (.ref R::bmV) true sn sub ab col dd k0 k1 k2 k3 k5 "ValueError.__new__")
 hR:∃nm q bs sn sub ab col dd k0 k1 k2 k3 k5,h.get? R=some (excClassObj nm q R NR bs bmV true sn sub ab col dd k0 k1 k2 k3 k5 "ValueError.__new__")
 nN:h.Ns N mN
 nR:h.Ns NR mR
 ini:mR "__init__"=none
theorem C2.keep(c:C2 h C N R NR mN mR)(k:∀b o,h.get? b=some o->h'.get? b=some o):C2 h' C N R NR mN mR:=by
 obtain⟨⟨nm,q,bs,sn,sub,ab,aj,dd,k0,k1,k2,k3,k5,hC⟩,⟨an,q',ao,aq,aa,al,ah,ai,j0,j1,j2,j3,j5,hR⟩,nN,nR,i⟩:=c;exact⟨⟨nm,q,bs,sn,sub,ab,aj,dd,k0,k1,k2,k3,k5,k _ _ hC⟩,⟨an,q',ao,aq,aa,al,ah,ai,j0,j1,j2,j3,j5,k _ _ hR⟩,nN.keeps k,nR.keeps k,i⟩
theorem C2.tail(c:C2 h C N R NR mN mR):OwnTail h bmV (.ref R::bmV):=by
 obtain⟨_,⟨aj,q',al,an,aa,ai,ab,ah,j0,j1,j2,j3,j5,hR⟩,nN,nR,i⟩:=c;exact .own hR nR i .base
section
theorem CZ{A:Around}{E:Value->Shared->Prop}{h:Heap}{g:Array GenState}{d:Drawn}{t:Nat}{os:OsState}{C N R NR:Addr}{mN mR:Str->Zd}{M:Model}{name:Str}{y:Zd}{Q:Zd->Shared->Prop}(c:C2 h C N R NR mN mR)(hB:typeLookup (.type "ValueError") name=pure y)
  (hq:Q (match mN name with | some v=>some v | none=>match mR name with | some v=>some v | none=>y) ⟨h,g,d,t,os⟩):wpAny M A (typeLookup (.ref C) name) Q E ⟨h,g,d,t,os⟩:=by
 obtain⟨⟨nm,q,bs,sn,sub,ab,as,dd,k0,k1,k2,k3,k5,hC⟩,⟨ao,q',aq,an,ah,al,ai,aj,j0,j1,j2,j3,j5,hR⟩,nN,nR,i⟩:=c;have aa:lookupAlong bmV name=pure y:=by rw[typeLookup_eq,IR.mroIs] at hB;exact hB
 rw[typeLookup_eq];refine GM (wpAny_mroOf_exc hC ?_);rw[lookupAlong_cons];refine GM (wpAny_classOwn_exc hC nN ?_)
 cases hv:mN name with
 | some v=>rw[hv] at hq;exact GQ hq
 | none =>
  rw[hv] at hq;show wpAny _ _ (lookupAlong (.ref R::bmV) name) _ _ _;rw[lookupAlong_cons];refine GM (wpAny_classOwn_cls hR nR ?_)
  cases hu:mR name with
  | some v=>rw[hu] at hq;exact GQ hq
  | none =>
   rw[hu] at hq;show wpAny _ _ (lookupAlong bmV name) _ _ _;rw[aa];exact GQ hq
theorem EA{prog:Program}{w:World}{A:Around}{E:Value->Shared->Prop}{h:Heap}{g:Array GenState}{d:Drawn}{t:Nat}{os:OsState}{C N R NR:Addr}{mN mR:Str->Zd}{cE:Zc}{fI:Addr}{oI:Obj}{Q:Value->Shared->Prop}(c:C2 h C N R NR mN mR)(hi:mN "__init__"=some (.ref fI))(hfI:h.get? fI=some oI)(hfc:oI.cls=.type "function")
  (hq:∀h' e,h.objs.size<=e->Heap.MadeExcOf h h' e (.ref C) cE->wpAny (model prog w) (A.under (.builtin "type.__call__" ⟨.ref C::cE,[]⟩)) (call (.ref fI) (.ref e::cE)) (λr s'=>r=.none/\Q (.ref e) s') E ⟨h',g,d,t,os⟩) (hrest:cE.length<=sizeLine) :
  wpAny (model prog w) A (call (.ref C) cE) Q E ⟨h,g,d,t,os⟩:=by
 obtain⟨nm,q,bs,sn,sub,ab,al,dd,k0,k1,k2,k3,k5,hC⟩:=c.hC;have F:=IR;have T:=c.tail;have f1:=tc_lookup;have f2:=tc_bind (.ref C);have hT:(⟨h,g,d,t,os⟩:Shared).TypeIs (.ref C) "type":=⟨_,hC,rfl⟩;refine Kr (codeAny_of_tree ?_);show wpAny _ _ (callAny (.ref C) ⟨cE,[]⟩) _ _ _
 repeat (any_goals (first | assumption | with_reducible refine Ig hC ?_ | wp_step))
 refine⟨rfl,codeAny_call_builtin_at (Code.quiet_builtin _ (by decide +kernel)) entry_typeCall (wpAny_check_type_call_sub hC ?_)⟩
 repeat (first | with_reducible refine Ig hC ?_ | with_reducible refine wpAny_madeBy_exc hC ?_ | wp_step)
 refine codeAny_call_builtin_code (Code.quiet_builtin _ F.quiet) (wpAny_check_new_subT F T hC (codeAny_exc_new_subT F T hC ?_ hrest));show wpAny _ _ _ _ _ _;have ah:∀b o,h.get? b=some o->((h.push { cls:=.type "tuple",data:=.seq cE.toArray }).push { cls:=.ref C,data:=.fields #[.ref h.objs.size,.none,.none,.none,.bool false,.none] }).get? b=some o:=λb o e=>GO _ (GO _ e);have c1:=c.keep ah;have aj:=ah _ _ hC;have ai:=ah _ _ hfI;have aa:((h.push { cls:=.type "tuple",data:=.seq cE.toArray }).push { cls:=.ref C,data:=.fields #[.ref h.objs.size,.none,.none,.none,.bool false,.none] }).get? (h.objs.size+1)=some { cls:=.ref C,data:=.fields #[.ref h.objs.size,.none,.none,.none,.bool false,.none] }:=by heap_get
 unfold isInstance
 repeat (first | with_reducible refine Ig aa ?_ | wp_step)
 show wpAny _ _ (isSubtype (.ref C) (.ref C)) _ _ _
 refine Jc aj ?_;rw[show (Value.ref C::(Value.ref R::bmV)).contains (.ref C)=true by simp]
 repeat (first | with_reducible refine Ig aa ?_ | wp_step)
 show wpAny _ _ (typeLookup (.ref C) _) _ _ _
 refine CZ c1 F.init.lookup ?_;rw[hi];refine Iz (GM ?_);unfold bindSpecial;refine GM (J5 (T:="function") ⟨_,ai,hfc⟩ ?_);rw[Hc (by decide)];refine GQ (GM (HX (hq _ (h.objs.size+1) (Jr _) ⟨ah,Kc (Jr _),h.objs.size,aa,Kc (GU _),?_⟩) (λr s' hr=>?_) λ_ _ x=>x))
 ·exact GO _ (Heap.get?_push_at rfl rfl)
 ·obtain⟨rfl,hQ⟩:=hr
  wp_walk
  exact hQ
theorem EY{prog:Program}{w:World}{A:Around}{E:Value->Shared->Prop}{h:Heap}{g:Array GenState}{d:Drawn}{t:Nat}{os:OsState}{C N R NR:Addr}{mN mR:Str->Zd}{e:Addr}{cE:Zc}{a0:Value}{Q:Value->Shared->Prop}(c:C2 h C N R NR mN mR)(he:h.get? e=some (GD C none a0 .none))
  (hq:∀h' a,h'.get? e=some (GD C none a .none)->(∀b o,b≠e->h.get? b=some o->h'.get? b=some o)->Q .none ⟨h',g,d,t,os⟩) (hrest:cE.length<=sizeLine) :
  wpAny (model prog w) A (call (.builtin "ValueError.__init__") (.ref e::cE)) Q E ⟨h,g,d,t,os⟩:=by
 obtain⟨nm,q,bs,sn,sub,ab,aj,dd,k0,k1,k2,k3,k5,hC⟩:=c.hC;have F:=IR;refine Kr (Jz F.init.plain F.initEntry (wpAny_check_init_subT F c.tail hC he rfl ?_))
 wp_walk
 have aa:((h.push { cls:=.type "tuple",data:=.seq cE.toArray }).update e (Obj.mapFields λx=>x.setIfInBounds 0 (Value.ref h.objs.size))).get? e=some (GD C none (.ref h.objs.size) .none):=Hz (Obj.mapFields λx=>x.setIfInBounds 0 (Value.ref h.objs.size)) (GO _ he) rfl
 have ai:=hq _ (.ref h.objs.size) aa λb o hb ho=>by
  rw[Hx _ _ (IF hb)];exact GO _ ho
 have ah:∀ {Q':Unit->Shared->Prop} {E':Value->Shared->Prop} {s':Shared},Q' () s'->wpAny (model prog w) A.in1 (match #[a0,Value.none,Value.none,Value.none,Value.bool false,Value.none][0] with | Value.ref a=>letGo [#[a0,Value.none,Value.none,Value.none,Value.bool false,Value.none][0]] | x=>pure ()) Q' E' s':=λ{Q' E' s'} q=>by
  show wpAny _ _ (match a0 with | Value.ref a=>letGo [a0] | x=>pure ()) _ _ _
  cases a0<;>first | exact wpAny_letGo q | exact GQ q
 refine ah ?_
 wp_walk
 exact ai
end
section
open Builtin Builtin.ObjectAttr in
theorem BK{prog:Program}{w:World}{A:Around}{E:Value->Shared->Prop}{h:Heap}{g:Array GenState}{d:Drawn}{t:Nat}{os:OsState}{C N R NR:Addr}{mN mR:Str->Zd}{e:Addr}{name:Str}{a v:Value}{Q:Unit->Shared->Prop}{sa owner:String}(SF:StoreFacts "ValueError" bmV sa owner)(c:C2 h C N R NR mN mR)(n1:mN "__setattr__"=none)(n2:mR "__setattr__"=none)(n3:mN name=none)(n4:mR name=none)
  (hB:typeLookup (.type "ValueError") name=pure none) (he:h.get? e=some (GD C none a .none))
  (hq:∀h' tk' dx,h.objs.size<=dx->h'.get? e=some (GD C (some dx) a .none)->h'.Ns1 dx (λy=>if y=name then some v else none)->(∀b o,b≠e->h.get? b=some o->h'.get? b=some o)->Q () ⟨h',g,d,tk',os⟩) :
  wpAny (model prog w) A (setAttr (.ref e) name v) Q E ⟨h,g,d,t,os⟩:=by
 obtain⟨nm,q,bs,sn,sub,ab,bi,dd,k0,k1,k2,k3,k5,hC⟩:=c.hC;have f3:=SF.slot.bind (.ref e);have aa:=SF.passes (.ref e);have ha:∀tk,argsOk sa ⟨[.ref e,.str name tk,v],[]⟩:=λtk=>SF.args (.ref e) (.str name tk) v;have as:(Value.ref C::(Value.ref R::bmV)).contains (.type owner)=true:=by rw[Jm,Jm,SF.hasOwner,Ko,Ko]
 have lk:∀ {M:Model} {A':Around} {E':Value->Shared->Prop} {tk:Nat} {Q':Zd->Shared->Prop} {nme:Str} {y:Zd},mN nme=none->mR nme=none->typeLookup (.type "ValueError") nme=pure y->Q' y ⟨h,g,d,tk,os⟩->wpAny M A' (typeLookup (.ref C) nme) Q' E' ⟨h,g,d,tk,os⟩:=λa1 a2 a3 q'=>CZ c a3 (by rw[a1,a2];exact q')
 unfold setAttr callSpecial? specialOf
 repeat (any_goals (first | assumption | (with_reducible refine Ig he ?_) | (with_reducible refine lk n1 n2 SF.slot.lookup ?_) | wp_step))
 refine Jz SF.slot.plain SF.entry ?_;simp only[checkBuiltinCall,SF.kind,SF.split];show wpAny _ _ _ _ _ _;refine GM ?_;unfold isInstance
 repeat (first | (with_reducible refine Ig he ?_) | (with_reducible refine Jc hC ?_;rw[as]) | wp_step)
 have body:∀ {Q':Fin->Shared->Prop} {E':Value->Shared->Prop} {tk:Nat} {A':Around},(∀h' tk' dx,h.objs.size<=dx->h'.get? e=some (GD C (some dx) a .none)->h'.Ns1 dx (λy=>if y=name then some v else none)->(∀b o,b≠e->h.get? b=some o->h'.get? b=some o)->Q' (.done (.ret .none)) ⟨h',g,d,tk',os⟩) ->
   wpAny (model prog w) A' (Builtin.«object.__setattr__» ⟨[.ref e,.str name t,v],[]⟩) Q' E' ⟨h,g,d,tk,os⟩:=λ{Q' E' tk A'} hq=>by
  have ah:e≠h.objs.size:=Ho (G3 he)
  have a4:∀h' tk',h'.get? e=some (GD C (some h.objs.size) a .none)->h'.Ns1 h.objs.size (λy=>if y=name then some v else none)->(∀b o,b≠e->h.get? b=some o->h'.get? b=some o)->Q' (.done (.ret .none)) ⟨h',g,d,tk',os⟩:=λh' tk' a1 a2 a3=>hq h' tk' _ (GU _) a1 a2 a3
  clear hq;generalize hO:GD C none a .none=o at he;have hc:o.cls=.ref C:=by rw[<- hO]
  have ao:o.dict=none:=by rw[<- hO]
  have az:∀c,o.data≠.cls c:=λc z=>by rw[<- hO] at z;cases z
  have aj:({ cls:=o.cls,dict:=some h.objs.size,data:=o.data,slots:=o.slots }:Obj)=GD C (some h.objs.size) a .none:=by rw[<- hO]
  unfold Builtin.«object.__setattr__»
  repeat (first | rw[refuse_eq] | (rw[refuseLoop_ref,refuseLoop_ref,aa]) | (with_reducible refine Ig he ?_;rw[hc]) | with_reducible refine wpAny_mroOf_exc hC ?_ | (with_reducible refine lk n3 n4 hB ?_) | wp_step)
  rw[ao,Ha (by simp[typeHasDict])]
  split
  ·rename_i hcd
   cases hcd
  split
  ·rename_i c hcd
   exact absurd hcd (az c)
  have ai:(h.push { cls:=.type "dict",data:=.dict #[] }).get? e=some o:=GO _ he
  refine GM (wpAny_alloc' ?_);refine GM (wpAny_update' ai ?_);refine GQ ?_;have an:((h.push { cls:=.type "dict",data:=.dict #[] }).update e λo=>{ cls:=o.cls,dict:=some h.objs.size,data:=o.data,slots:=o.slots }).get? h.objs.size=some { cls:=.type "dict",data:=.dict #[] } :=
   (Heap.get?_update_ne _ _ _ _ ah.symm).trans (Heap.get?_push_at rfl rfl)
  have aq:((h.push { cls:=.type "dict",data:=.dict #[] }).update e λo=>{ cls:=o.cls,dict:=some h.objs.size,data:=o.data,slots:=o.slots }).Ns h.objs.size (λ_=>none) :=
   ⟨_,#[],_,an,rfl,λe he=>absurd he (by simp),λ_=>rfl⟩
  show wpAny _ _ (storeInDict h.objs.size (.str name t) name v) _ _ _
  unfold storeInDict newKeyGuard;refine GM (GQ (GM (wpAny_nsSet1 (Heap.Ns1.of_empty aq) λh' hn' hs=>?_)));obtain⟨oD,be,bd,bb,ba,bc⟩:=hn'.count (Within.cons name v Within.nil);refine GM (wpAny_lookBehind bb (by rw[ba];exact pastItsLine_dict (GS bc (by rw[G0,List.length_nil,sizeLine_eq];omega))) ?_)
  wp_walk
  refine a4 h' _ ?_ hn' λb ob hbx hb=>?_
  ·rw[<- aj];refine(hs.2 e ah).trans (Hz _ ai ?_);rw[<- hO];rfl
  ·exact(hs.2 b (Ho (G3 hb))).trans ((Heap.get?_update_ne _ _ _ _ hbx).trans (GO _ hb))
 have al:∀ {Q':Unit->Shared->Prop} {E':Value->Shared->Prop} {s':Shared} {A':Around},Q' () s'->wpAny (model prog w) A' (match Manifest.signature? sa with | some sig=>Bind.checkArgs sa sig ⟨[.ref e,.str name t,v],[]⟩ | _=>pure ()) Q' E' s':=λ{Q' E' s' A'} q'=>by
  have ha:=ha t
  cases hsig:Manifest.signature? sa with
  | none=>exact GQ q'
  | some sig =>
   simp only[argsOk,hsig] at ha;have h2:Bind.checkArgs sa sig ⟨[.ref e,.str name t,v],[]⟩=pure ():=ha;show wpAny _ _ (Bind.checkArgs sa sig ⟨[.ref e,.str name t,v],[]⟩) _ _ _;rw[h2];exact GQ q'
 refine al (body λh' tk' dx a0 a1 a2 a3=>?_);exact GQ (GQ (hq h' tk' dx a0 a1 a2 a3))
end
def jD(e C:Addr):HO:=.ext λh=>∃a,h.get? e=some (GD C none a .none)
structure EK(K:Zf)(C R:Addr)(fld:Str):Prop where
 ex:∃N NR mN mR,(∀h,K.In h->C2 h C N R NR mN mR)/\mN "__setattr__"=none/\mR "__setattr__"=none/\mN fld=none/\mR fld=none
 fb:typeLookup (.type "ValueError") fld=pure none
structure RK(K:Zf)(R:Addr):Prop where
 sp:PySem.W.specialIn K (.ref R) "__getattribute__"=some (some (.builtin "type.__getattribute__"))
 rd:∃mc,PySem.W.readsIn K R mc=true/\PySem.W.findCls K (.ref R) mc "__init__"=some (.val (.builtin "ValueError.__init__"))
section
variable {X:Cx} {pins:List (Addr×Obj)} {σ:L2.St} {H:Hp} {s:Shared} {C R e:Addr} {fld:Str}
theorem CD(h:H e=some o):GE H e o=H:=funext λb=>by
 by_cases z:b=e
 ·rw[z,aw,h]
 ·rw[aH z]
theorem n9(I:L2.Inv X pins σ H s)(h:H e=some (jD e C)):∃a,s.heap.get? e=some (GD C none a .none):=(I.hok e _ h).1
theorem om(g:h'.get? e=some (GD C none a .none)):b6 P w H h' e (jD e C) :=
 ⟨⟨a,g⟩,⟨_,g⟩,λh1 h2 p k=>by obtain⟨a,p⟩:=p;exact⟨a,k _ p⟩⟩
theorem zX(g:h'.get? e=some (GD C (some dx) a .none)):b6 P w H h' e (ug e C dx) :=
 ⟨⟨a,g⟩,⟨_,g⟩,λh1 h2 p k=>by obtain⟨a,p⟩:=p;exact⟨a,k _ p⟩⟩
def AI(C:Addr)(t:TA):TE:=λσ H Q=>t σ H λvs H1=>∃e y,vs=[.ref e,y]/\H1 e=some (jD e C)/\Q .non H1
theorem nZ(rk:RK X.K R)(ek:EK X.K C R fld)(hg:Gl X xR)(hm:X.mg xR=some (.ref R))(ha:PA X [a1,a2] t)(hdb:(xR==("__debug__":Str))=false:=by decide)
    (hst:starEach [a1,a2] X.env=(false,eval a1 X.env)::starEach [a2] X.env:=by rfl) (hpl:(backTo pos (starEach [a2] X.env)).any (·.1)=false:=by rfl)
    (ht:eval (.Call (.Attribute (.Name xR pR) "__init__" apos) [a1,a2] [] pos) X.env=(do
      let ov<-eval (.Name xR pR) X.env
      standAt apos.atName
      let (f,first)<-holding [ov] (getMethod ov "__init__" pl)
      callWith pos f first (backTo pos (starEach [a1,a2] X.env)) (backToKw pos (keywordEach [] X.env))):=by rfl) :
    PE X (.Call (.Attribute (.Name xR pR) "__init__" apos) [a1,a2] [] pos) (AI C t):=by
  intro pins s σ H Q I h;obtain⟨mc,aa,ab⟩:=rk.rd;refine PySem.W.methodCall_KW (pl:=pl) (fY I hg hm ?_ hdb) ht;refine PySem.W.method_cls I.kIn rk.sp (PySem.W.cls_value I.kIn aa ab (by rfl) ?_);have I1:=I.tok (s.toks+1);have hA:=ha pos pins _ σ H _ I1 h;rw[hst] at hA;show wpAny _ _ (callWith pos (.builtin "ValueError.__init__") [] (backTo pos (starEach [a1,a2] X.env)) (backToKw pos (keywordEach [] X.env))) _ _ _;rw[hst];refine JX (by show (false||(backTo pos (starEach [a2] X.env)).any (·.1))=false;rw[hpl]<;>rfl) (Ke ?_)
  refine Gj hA λus s2 hs2=>?_;obtain⟨vs,H2,I2,r2,e,y,rfl,hX,q2⟩:=hs2
  cases r2 with
  | cons r0 r2 =>
    cases r2 with
    | cons r1 r2 =>
      cases r2
      cases r0
      obtain⟨N,NR,mN,mR,c2,_⟩:=ek.ex;obtain⟨a,he⟩:=n9 I2 hX;obtain⟨hh,g,d,tk,os⟩:=s2;refine EY (c2 _ I2.kIn) he (λh' a' g1 g2=>?_) (by show 1<=sizeLine;decide);have I3:=I2.write (t':=tk) (x:=e) (e:=e) (o:=jD e C) (h':=h') (by rw[hX];trivial) (.inl rfl) g2 ⟨_,g1⟩ (om g1);rw[CD hX] at I3;exact⟨.non,H2,I3,rfl,q2⟩
end
end DL
namespace DL
open PySem PySem.Spec PyProof.Rows L2
structure Lft(fs:List Addr)(h h':Heap)(e:Addr)(t:Value)(C:Addr)(dx:Option Addr)(a:Value)(T:Addr):Prop where
 ex:h'.get? e=some (GD C dx a (.ref T))
 tb:vS h' e (.ref T)
 new:h.objs.size<=T
 keep:∀b o,h.get? b=some o->b≠e->t≠.ref b->b∉fs->h'.get? b=some o
 slot:∀b o,h.get? b=some o->b≠e->t≠.ref b->∃sl,h'.get? b=some { o with slots:=sl }
 there:∀b o,h.get? b=some o->∃o',h'.get? b=some o'
section
theorem entry(hfr:A.frames=some (env::outer))(hl:s.heap.FunFrames base (env::outer))(hf:env.frame=some L)(he:s.heap.get? e=some (GD C dx a t))
  (h:∀h' T,h'.get? e=some (GD C dx a (.ref T))->vS h' e (.ref T)->s.heap.objs.size<=T->(∀b o,s.heap.get? b=some o->b≠e->b∉frs (env::outer)->h'.get? b=some o)->(∀b o,s.heap.get? b=some o->b≠e->∃sl,h'.get? b=some { o with slots:=sl })->Q () { s with heap:=h' }) :
  wpAny M A (do let a<-frameOf env;let pl<-entryPlaceOf L had;let b<-EntryCells.newEntry head a .none (rawInt L) .none pl;setField (.ref e) 1 b) (λ_ s'=>wpAny M A (setFlight (.ref e) none) Q E s') E s:=by
 have an:e∉(env::outer).filterMap (·.frame):=λhm=>by
  obtain⟨_,o,ho,as⟩:=hl.mem hm;rw[he] at ho;injection ho with ho;subst ho;exact as _ rfl
 refine GM (wpAny_frameOf_fun hfr hl hf λh₁ hs₁=>?_);refine GM (wpAny_entryPlaceOf λpl hpl=>?_);unfold EntryCells.newEntry newFields;refine GM (HQ ?_ (hpl.sizeOk5 _ _ _ _ _));have ai:h₁.get? e=some (GD C dx a t):=(hs₁.2.1 e an).trans he;generalize hO:({ cls:=.type "traceback",dict:=none,data:=.fields ([head,.ref L,.none,rawInt L,.none]++(if pl.isEmpty then List.replicate 6 Value.none else pl)).toArray }:Obj)=O;have aa:O.data=.fields ([head,.ref L,.none,rawInt L,.none]++(if pl.isEmpty then List.replicate 6 Value.none else pl)).toArray:=by rw[<- hO]
 have ao:O.isFreed=false:=by rw[<- hO];rfl
 have ah:=GO (h:=h₁) O ai
 refine II ah rfl (by simp) ?_;have ab:h₁.objs.size≠e:=IC (G3 ai);have al:((h₁.push O).update e (Obj.mapFields (·.setIfInBounds 1 (Value.ref h₁.objs.size)))).get? e=some (GD C dx a (.ref h₁.objs.size)):=Hz (Obj.mapFields (·.setIfInBounds 1 (Value.ref h₁.objs.size))) ah rfl;have aj:((h₁.push O).update e (Obj.mapFields (·.setIfInBounds 1 (Value.ref h₁.objs.size)))).get? h₁.objs.size=some O:=(Hx _ _ (IF ab)).trans (G5 h₁ ao);unfold setFlight;refine GM (HC al rfl (x:=.ref h₁.objs.size) rfl ?_);rw[Hc (show (Value.ref h₁.objs.size != Value.none)=true from by simp)];have hsz:3<([head,.ref L,.none,rawInt L,.none]++(if pl.isEmpty then List.replicate 6 Value.none else pl)).toArray.size:=by simp only[List.size_toArray,List.length_append,List.length_cons,List.length_nil]<;>omega
 have aq:∀b o,h₁.get? b=some o->h₁.objs.size≠b:=λb o hb=>IC (G3 hb)
 have keep:∀b o,b≠e->h₁.get? b=some o->(((h₁.push O).update e (Obj.mapFields (·.setIfInBounds 1 (Value.ref h₁.objs.size)))).update h₁.objs.size (Obj.mapFields (·.setIfInBounds 3 ((none:Option Addr).elim Value.none λf=>rawInt f)))).get? b=some o:=λb o hbe hb=>by
  rw[Hx _ _ (aq b o hb),Hx _ _ (IF hbe)];exact GO _ hb
 refine II aj aa hsz (h _ h₁.objs.size ?_ ?_ ?_ (λb o hb hbe hbf=>keep b o hbe ((hs₁.2.1 b hbf).trans hb)) λb o hb hbe=>?_)
 ·rw[Hx _ _ ab];exact al
 ·exact .inr ⟨_,_,_,rfl,ab,Hz _ aj (ID (Ih aa _)),Ih aa _,by simp[hsz]⟩
 ·rw[hs₁.1];exact GU _
 ·obtain⟨sl,hs⟩:=hs₁.2.2 b o hb;exact⟨sl,keep b _ hbe hs⟩
theorem note(hfr:A.frames=some (env::outer))(hl:s.heap.FunFrames base (env::outer))(hf:env.frame=some L)(he:s.heap.get? e=some (GD C dx a t))(ht:vS s.heap e t)
  (h:∀h' T,Lft (frs (env::outer)) s.heap h' e t C dx a T->Q () { s with heap:=h' }) :
  wpAny M A (noteFrame (.ref e) env) (λ_ s'=>wpAny M A (setFlight (.ref e) none) Q E s') E s:=by
 unfold noteFrame;simp only[hf];refine GM (HC he rfl (x:=t) rfl ?_)
 rcases ht with rfl | ⟨T,oT,ts,rfl,hTe,hT,hdT,h3⟩
 ·rw[Ha (by decide)];refine entry hfr hl hf he λh' T h1 h2 h3 h4 h5=>h h' T ⟨h1,h2,h3,λb o hb hbe _=>h4 b o hb hbe,λb o hb hbe _=>h5 b o hb hbe,λb o hb=>?_⟩
  by_cases z:b=e
  ·exact⟨_,by rw[z];exact h1⟩
  ·obtain⟨sl,q⟩:=h5 b o hb z;exact⟨_,q⟩
 ·rw[Hc (show (Value.ref T != Value.none)=true from by simp)];refine GM (HC hT hdT h3 ?_);rw[Ha (show ¬ ((Value.none==rawInt L)=true) from by simp[rawInt])];refine GM (II hT hdT (Iv.mp h3).1 ?_);have aa:∀b,b≠T->(s.heap.update T (Obj.mapFields (·.setIfInBounds 3 Value.none))).get? b=s.heap.get? b:=λb hb=>Hx _ _ (IF hb);have ab:∀b o,s.heap.get? b=some o->(∀vs,o.data≠.fields vs)->b≠T:=λb o hb hnf q=>by
   rw[q,hT] at hb;injection hb with hb;subst hb;exact hnf ts hdT
  have ah:=Hz (Obj.mapFields (·.setIfInBounds 3 Value.none)) hT (ID (Ih hdT _))
  refine entry (s:={ s with heap:=s.heap.update T (Obj.mapFields (·.setIfInBounds 3 Value.none)) }) hfr (hl.of_keeps λb o hb hnf=>⟨o,(aa b (ab b o hb hnf)).trans hb,rfl⟩) hf ((aa e (IF hTe)).trans he)
   λh' T' h1 h2 h3 h4 h5=>h h' T' ⟨h1,h2,by rw[<- Heap.size_after_update];exact h3,λb o hb hbe hbt=>h4 b o ((aa b λz=>hbt (by rw[z])).trans hb) hbe,λb o hb hbe hbt=>h5 b o ((aa b λz=>hbt (by rw[z])).trans hb) hbe,λb o hb=>?_⟩
  by_cases z:b=e
  ·exact⟨_,by rw[z];exact h1⟩
  ·by_cases z2:b=T
   ·subst z2;obtain⟨sl,q⟩:=h5 b _ ah z;exact⟨_,q⟩
   ·obtain⟨sl,q⟩:=h5 b o ((aa b z2).trans hb) z;exact⟨_,q⟩
theorem FJ(hfr:A.frames=some (env::outer))(hl:s.heap.FunFrames base (env::outer))(hf:env.frame=some L)(he:s.heap.get? e=some (GD C dx a t))(ht:vS s.heap e t)
  (h:∀h' T,Lft (frs (env::outer)) s.heap h' e t C dx a T->Q () { s with heap:=h' }):wpAny M A (leaving env (.ref e)) Q E s:=by
 unfold leaving;exact GM (note hfr hl hf he ht h)
end
inductive CXE(P:Program)(w:World)(outer:List Env)(H:Hp)(s:Shared)(E:XK)(v:Value)(s':Shared):Prop
 | mk (e C dx:Addr) (a t:Value) (H':Hp) (hv:v=.ref e) (os:s'.os=s.os) (bare:AllBare s'.gens) (un:Un (frs outer) [] H H' s.heap s'.heap) (hok:Gk P w H' s'.heap)
  (he:s'.heap.get? e=some (GD C (some dx) a t)) (ht:vS s'.heap e t) (hT:∀T,t=.ref T->H' T=none/\s.heap.objs.size<=T) (hX:H' e=some (XAt e C dx)) (hE:E (.ref e) (some dx) H')
section
theorem Lft.hok(l:Lft fs h h' e t C (some dx) a T)(hok:Gk P w H' h)(hX:H' e=some (XAt e C dx))(hT:∀T,t=.ref T->H' T=none)(hfs:∀b∈fs,H' b=none):Gk P w H' h':=λb o q=>by
 have kp:∀c u v,H' c=some v->c≠e->h.get? c=some u->h'.get? c=some u:=λc u v hc hce hu=>l.keep c u hu hce (λz=>by rw[hT c z] at hc;cases hc) λz=>by rw[hfs c z] at hc;cases hc
 by_cases hb:b=e
 ·subst hb;rw[hX] at q
  cases q
  refine⟨⟨_,_,l.ex⟩,⟨_,l.ex⟩,λh1 h2 p k=>?_⟩;obtain⟨a,t,p⟩:=p;exact⟨a,t,k _ p⟩
 ·refine(hok b o q).stay (λc u hc hu=>?_) (λ_ r=>r) λ_ _ r=>r
  rcases hc with rfl | hc
  ·exact kp _ _ _ q hb hu
  ·exact kp _ _ _ hc (λz=>by rw[z,hX] at hc;cases hc) hu
end
end DL
namespace DL
open PySem PySem.Spec PyProof.Rows L2
section
variable {X:Cx} {pins:List (Addr×Obj)} {σ:L2.St} {H:Hp} {s:Shared} {C R e:Addr} {fld:Str}
theorem wk(r:bB y u)(f':Str):px (([(f,y)]:List (Str×V)).lookup f') (if f'=f then some u else none):=by
 by_cases z:f'=f
 ·subst z;rw[Hc rfl];simp only[List.lookup,beq_self_eq_true];exact r
 ·rw[Ha z];have:(f'==f)=false:=JH.mpr z;simp only[List.lookup,this];exact True.intro
theorem Inv.xput(I:L2.Inv X pins σ H s)(hX:H e=some (jD e C))(hdx:s.heap.objs.size<=dx)(r:bB y u)(g1:h'.get? e=some (GD C (some dx) a .none))(g2:h'.Ns1 dx (λz=>if z=fld then some u else none))
  (g3:∀b o,b≠e->s.heap.get? b=some o->h'.get? b=some o):L2.Inv X pins σ (GE (GE H dx (.xd [(fld,y)])) e (ug e C dx)) { s with heap:=h',toks:=t' }:=by
 have hn:H dx=none:=I.hok.fresh hdx
 have ah:dx≠e:=λz=>by rw[z,hX] at hn;cases hn
 have aa:∀b,b≠e->b≠dx->GE (GE H dx (.xd [(fld,y)])) e (ug e C dx) b=H b:=λb z1 z2=>by rw[aH z1,aH z2]
 have ab:∀b o,s.heap.get? b=some o->b≠dx:=λb o hb z=>by
  have:=G3 hb
  rw[z] at this;exact absurd (He this hdx) (Hw _)
 have nH:∀b v,H b=some v->b≠dx:=λb v hb z=>by rw[z,hn] at hb;cases hb
 have nX:∀b v,H b=some v->v≠jD e C->b≠e:=λb v hb hv z=>by rw[z,hX] at hb;exact hv (G4 hb).symm
 refine I.un ⟨λb o hb hu _ _=>g3 b o (λz=>by rw[z,hX] at hu;cases hu) hb,λb o hb hu _ _=>⟨o.slots,g3 b o (λz=>by rw[z,hX] at hu;cases hu) hb⟩,λb o hb hu _=>?_,λb o hb _=>?_,λb xs hb=>?_,λb o u hb=>?_,λb ps hb=>⟨#[],?_⟩⟩ λb o q=>?_
 ·rw[aa b (λz=>by rw[z,hX] at hu;cases hu) (ab b o hb)];exact hu
 ·by_cases z:b=e
  ·exact⟨_,by rw[z];exact g1⟩
  ·exact⟨o,g3 b o z hb⟩
 ·rw[aa b (nX b _ hb (by unfold jD;exact λz=>nomatch z)) (nH b _ hb)];exact hb
 ·rw[aa b (nX b _ hb (by unfold jD;exact λz=>nomatch z)) (nH b _ hb)];exact hb
 ·rw[aa b (nX b _ hb (by unfold jD;exact λz=>nomatch z)) (nH b _ hb),hb,Array.append_empty]
 ·by_cases z:b=e
  ·subst z;rw[aw] at q
   cases q
   exact zX g1
  ·by_cases z2:b=dx
   ·subst z2;rw[aH z,aw] at q
    cases q
    exact⟨_,g2,wk r⟩
   ·rw[aa b z z2] at q;refine(I.hok b o q).stay (λc v hc hv=>?_) (λc hc=>?_) λc xs hc=>?_
    ·refine g3 c v ?_ hv
     rcases hc with rfl | hc
     ·exact z
     ·exact nX c _ hc (by unfold jD;exact λz=>nomatch z)
    ·rw[aa c (nX c _ hc (by unfold jD;exact λz=>nomatch z)) (nH c _ hc)];exact hc
    ·rw[aa c (nX c _ hc (by unfold jD;exact λz=>nomatch z)) (nH c _ hc)];exact hc
def Bv(C:Addr)(f:Str)(ta tv:TE):TS:=λD σ H=>tv σ H λy H1=>ta σ H1 λx H2=>∃e,x=.ref e/\H2 e=some (jD e C)/\∀dx,H2 dx=none->dx≠e->D.nx σ (GE (GE H2 dx (.xd [(f,y)])) e (ug e C dx))
theorem oN(ek:EK X.K C R fld)(ha:PE X o ta)(hv:PE X value tv)(hs:swapsWith value (some (.Attribute o fld pos')) pos.line X.env=pure false:=by rfl):PS X (.Assign [.Attribute o fld pos'] value pos) (Bv C fld ta tv):=by
 intro pins s σ H D I h;refine plainObj_wpAny_Assign_Attribute (Gj (hv pins s σ H _ I h) λu s1 hs1=>?_) hs;obtain⟨y,H1,I1,ry,q⟩:=hs1;refine Gj (ha pins s1 σ H1 _ I1 q) λov s2 hs2=>?_;obtain⟨x,H2,I2,rx,e,rfl,hX,q2⟩:=hs2
 cases rx
 obtain⟨N,NR,mN,mR,c2,n1,n2,n3,n4⟩:=ek.ex;obtain⟨a,he⟩:=n9 I2 hX;obtain⟨hh,g,d,tk,os⟩:=s2;refine BK PySem.F.store_ValueError (c2 _ I2.kIn) n1 n2 n3 n4 ek.fb he λh' tk' dx hdx g1 g2 g3=>?_;have hn:H2 dx=none:=I2.hok.fresh hdx;exact⟨σ,_,Inv.xput (t':=tk') I2 hX hdx ry g1 g2 g3,q2 dx hn λz=>by rw[z,hX] at hn;cases hn⟩
end
structure EM(K:Zf)(C R fI:Addr):Prop where
 ex:∃N NR mN mR,(∀h,K.In h->C2 h C N R NR mN mR)/\mN "__init__"=some (.ref fI)
 kp:PySem.W.keepIn K (.ref C)=true
 fn:∃o,K.lookup fI=some o/\o.cls=.type "function"
def pyB:Bool->V->Prop
 | false,_=>True
 | true,v=>∃x,v=.str x/\x.length<=100
def spI(C:Addr)(fld:Str)(b:Bool):Sp:=λvs H Q _=>∃e y,vs=[.ref e,y]/\pyB b y/\H e=some (jD e C)/\∀dx,H dx=none->dx≠e->Q .non (GE (GE H dx (.xd [(fld,y)])) e (ug e C dx))
theorem upd3:GE (GE (GE H e a) dx b) e c=GE (GE H dx b) e c:=funext λz=>by
 by_cases h:z=e
 ·rw[h,aw,aw]
 ·rw[aH h,aH h]
  by_cases h2:z=dx
  ·rw[h2,aw,aw]
  ·rw[aH h2,aH h2,aH h]
section
variable {X:Cx} {pins:List (Addr×Obj)} {σ:L2.St} {H:Hp} {s:Shared} {C R fI:Addr} {fld:Str} {k:Nat} {fd:FuncData} {ps:Zb} {Q:VK} {b:Bool}
theorem u5(em:EM X.K C R fI)(F:fG X.prog X.w X.K X.mg X.base CX0 k fI fd ps (spI C fld b))(hr:cK (k+1) X.A)(hb:eC X.K fd ps [])(I:L2.Inv X pins σ H s)(r:bB y u)(hy:pyB b y)
  (h:∀e dx,H e=none->H dx=none->dx≠e->Q (.ref e) (GE (GE H dx (.xd [(fld,y)])) e (ug e C dx))):wpAny (model X.prog X.w) X.A (call (.ref C) [u]) (EP X pins σ Q) X.xe s:=by
 obtain⟨N,NR,mN,mR,c2,hi⟩:=em.ex;obtain⟨o,lk,hc⟩:=em.fn;obtain⟨hh,g,d,tk,os⟩:=s;refine EA (c2 _ I.kIn) hi (I.kIn _ _ lk) hc (λh' e hs M=>?_) (by show 1<=sizeLine;decide);obtain⟨t,he,_⟩:=M.there;have I2:=I.laid (t':=tk) (a:=e) (o:=jD e C) M.keeps hs (om he);have hn:H e=none:=I.hok.fresh hs
 have sp:spI C fld b [.ref e,y] (GE H e (jD e C)) (λv H2=>v=.non/\Q (.ref e) H2) E0:=⟨e,y,rfl,hy,aw,λdx hdx hne=>⟨rfl,by
  rw[upd3]
  exact h e dx hn (by rw[aH hne] at hdx;exact hdx) hne⟩⟩
 have r2:bF [V.ref e,y] [Value.ref e,u]:=.cons rfl (.cons r .nil)
 have hl:([Value.ref e,u]++[]).length=ps.length:=by
  have:=F.len _ _ _ _ sp
  exact this
 refine Kr (Jn (F.run _ X.stack _ _ ⟨[Value.ref e,u],[]⟩ [Value.ref e,u] [V.ref e,y] _ E0 (hr.make C [u] []) (I2.env0.make C [u] []) (hb _ [Value.ref e,u] I2.kIn hl) r2 sp) λr s' hq'=>?_)
 cases r with
 | error e=>exact False.elim hq'
 | ok fl =>
  cases fl with
  | ret u' =>
   obtain⟨v,H',I3,rv,ev,q3⟩:=I2.after hq';subst ev;exact⟨rv,⟨V.ref e,H',I3,rfl,q3⟩⟩
  | next=>exact False.elim hq'
  | brk=>exact False.elim hq'
  | cont=>exact False.elim hq'
def xO(C:Addr)(fld:Str)(b:Bool)(t:TA):TE:=λσ H Q=>t σ H λvs H1=>∃y,vs=[y]/\pyB b y/\∀e dx,H1 e=none->H1 dx=none->dx≠e->Q (.ref e) (GE (GE H1 dx (.xd [(fld,y)])) e (ug e C dx))
theorem pX(em:EM X.K C R fI)(F:fG X.prog X.w X.K X.mg X.base CX0 k fI fd ps (spI C fld b))(hr:cK (k+1) X.A)(hg:Gl X x)(hm:X.mg x=some (.ref C))(hb:eC X.K fd ps [])(ha:PA X [a] t)
  (hdb:(x==("__debug__":Str))=false:=by decide) (he:starEach [a] X.env=(false,eval a X.env)::starEach [] X.env:=by rfl) (hpl:(backTo pos (starEach [] X.env)).any (·.1)=false:=by rfl) :
  PE X (.Call (.Name x p) [a] [] pos) (xO C fld b t):=by
 intro pins s σ H Q I h;refine IE (fY I hg hm ?_ hdb);refine PySem.W.callWith_K (h₀:=X.base) I.ok.mod.kin em.kp (Gj (ha pos pins s σ H _ I h) λus s1 hs1=>?_) he hpl;obtain⟨vs,H1,I1,r,y,rfl,hy,q⟩:=hs1;refine⟨I1.kIn,?_⟩
 cases r with
 | cons r0 r =>
  cases r
  exact u5 em F hr hb I1 r0 hy q
end
theorem DH(hh:A.handled=none)
  (h:wpAny M A x (λv s₁=>∃e dx a,v=.ref e/\C2 s₁.heap C N R NR mN mR/\s₁.heap.get? e=some (GD C dx a .none)/\E (.ref e) s₁) E s):wpAny M A (raiseStmt env (some x) none) Q E s:=by
 unfold raiseStmt;refine GM (HX h (λv s₁ h₁=>?_) λ_ _ x=>x);obtain⟨e,dx,a,rfl,c,he,hE⟩:=h₁;obtain⟨nm,q,bs,sn,sub,ab,ah,dd,k0,k1,k2,k3,k5,hC⟩:=c.hC;have aa:(Value.ref C::(Value.ref R::bmV)).contains (.type "BaseException")=true:=by rw[Jm,Jm,show bmV.contains (.type "BaseException")=true by decide +kernel,Ko,Ko]
 obtain⟨hp,g,d,tk,os⟩:=s₁
 repeat (first | with_reducible refine Ig he ?_ | with_reducible refine Ig hC ?_ | (with_reducible refine Jc hC ?_;rw[aa]) | wp_step)
 exact wpAny_raiseNew_none hh hE
section
end
end DL
namespace DL
open PySem PySem.Spec PyProof.Rows L2
section
variable {X:Cx} {pins:List (Addr×Obj)} {σ:L2.St} {H:Hp} {s:Shared}
theorem uF(I:L2.Inv X pins σ H s)(hN:X.N.Nodup)(hi:X.N[i]?=some x)(hk:X.env.scope.names.lookup x=some .local)(hv:σ[i]?=some (some v))
  (h:∀s',L2.Inv X pins (σ.set i none) H s'->Q () s'):wpAny M A (unbindName X.env x) Q E s:=by
 obtain⟨m,hn,hl⟩:=id I.loc;have ab:(X.env.scope.kind == .class||(X.env.scope.kind == .module&&X.env.locals != X.env.globals))=false:=by rw[I.ok.kind];rfl
 have ah:i<σ.length:=by rw[I.len];exact(GZ.mp hi).1
 have cne:=I.cne
 obtain⟨u,r,q⟩:=hl i x v hi hv (.inl hk);have hm:m x=some u:=by
  rcases q with⟨_,e⟩ | ⟨k,_⟩
  ·exact e
  ·rcases k with k | k
   ·rw[show X.env.kindOf x=X.env.scope.names.lookup x from rfl,hk] at k;cases k
   ·rw[show X.env.kindOf x=X.env.scope.names.lookup x from rfl,hk] at k;cases k
 refine wpAny_unbindName_local hk hn hm ab λh' u' hn' hs=>?_;obtain⟨oL,_,_,ai,_⟩:=id hn;have aa:Gk X.prog X.w H h':=λb ob e=>by
  refine(I.hok b ob e).stay (λc w' hc q=>(hs.2 c ?_).trans q) (λ_ q=>q) λ_ _ q=>q;rintro rfl
  rcases hc with rfl | hc
  ·rw[I.free] at e;cases e
  ·rw[I.free] at hc;cases hc
 refine h _ ⟨I.ok,I.os,I.bare,⟨λb o e n hb hx=>?_,λb o e n hb hx=>?_,I.base.free,λb o e hx=>?_,I.base.tups,I.base.frzs,I.base.tbls⟩,⟨_,hn',λj y v' e1 e2 e3=>?_⟩,λy c e=>?_,I.free,I.freeC,λp hp=>?_,aa,by simpa using I.len⟩
 ·exact(hs.2 b (Ho (He (G3 e) I.ok.above))).trans (I.base.keep b o e n hb hx)
 ·obtain⟨sl,e1⟩:=I.base.slot b o e n hb hx;exact⟨sl,(hs.2 b (Ho (He (G3 e) I.ok.above))).trans e1⟩
 ·obtain⟨o',e1⟩:=I.base.there b o e hx;exact⟨o',(hs.2 b (Ho (He (G3 e) I.ok.above))).trans e1⟩
 ·by_cases hj:j=i
  ·subst hj;rw[Hr ah] at e2
   cases e2
  ·rw[Hv (IF hj)] at e2;obtain⟨u',r',q⟩:=hl j y v' e1 e2 e3;refine⟨u',r',?_⟩
   rcases q with⟨k,e⟩ | ⟨k,c,e,z⟩
   ·refine .inl ⟨k,?_⟩;have:y≠x:=λe=>hj (kJ hN e1 (e ▸ hi));simp[this,e]
   ·exact .inr ⟨k,c,e,z.sameBut hs (cne y c e)⟩
 ·obtain⟨w',z⟩:=I.cell y c e;exact⟨w',z.sameBut hs (cne y c e)⟩
 ·obtain⟨e,n,ne,nf,d⟩:=I.pin p hp;exact⟨(hs.2 p.1 ne).trans e,n,ne,nf,d⟩
abbrev _root_.L2.Cx.inTry(X:Cx)(pins:List (Addr×Obj))(E:Value->Shared->Prop):Cx:={ X with pn:=X.pn++pins,xe:=E }
theorem wM(ok:X.Ok):(X.inTry pins E).Ok:=⟨ok.mod,ok.kind,ok.glob,ok.blt,ok.above,ok.inj,ok.has,ok.cab,ok.hd,ok.frames,ok.stk,ok.exf,ok.bs,ok.bsz,ok.noex,ok.exfs,ok.funs,ok.frf⟩
theorem xm(ok:(X.inTry pins E).Ok):X.Ok:=⟨ok.mod,ok.kind,ok.glob,ok.blt,ok.above,ok.inj,ok.has,ok.cab,ok.hd,ok.frames,ok.stk,ok.exf,ok.bs,ok.bsz,ok.noex,ok.exfs,ok.funs,ok.frf⟩
theorem FA(I:L2.Inv X pins σ H s):L2.Inv (X.inTry pins E) [] σ H s:=⟨wM I.ok,I.os,I.bare,I.base,I.loc,I.cell,I.free,I.freeC,λp hp=>I.pin p (by simpa using hp),I.hok,I.len⟩
theorem sK(I:L2.Inv (X.inTry pins E) q σ H s):L2.Inv X pins σ H s:=⟨xm I.ok,I.os,I.bare,I.base,I.loc,I.cell,I.free,I.freeC,λp hp=>I.pin p (Hf _ hp),I.hok,I.len⟩
inductive jN(X:Cx)(pins:List (Addr×Obj))(Ex:XK)(v:Value)(s':Shared):Prop
 | mk (σ:L2.St) (H':Hp) (e C dx:Addr) (a t:Value) (hv:v=.ref e) (I:L2.Inv X pins σ H' s') (he:s'.heap.get? e=some (GD C (some dx) a t)) (ht:vS s'.heap e t)
  (hT:∀T,t=.ref T->H' T=none/\X.s₀.heap.objs.size<=T/\T≠X.env.locals/\(∀x c,X.env.cells.lookup x=some c->c≠T)/\∀p∈X.pn++pins,p.1≠T) (hX:H' e=some (XAt e C dx)) (hE:Ex (.ref e) (some dx) H')
end
section
theorem e6(hX:H' e=some (XAt e C dx))(ch:List Addr)(keep:∀b o,h.get? b=some o->b≠e->b∉ch->b∉fs->h'.get? b=some o)
  (slot:∀b o,h.get? b=some o->b≠e->b∉ch->∃sl,h'.get? b=some { o with slots:=sl }) (there:∀b o,h.get? b=some o->∃o',h'.get? b=some o'):Un fs ch H' H' h h' :=
 ⟨λb o hb hn hf hx=>keep b o hb (λz=>by rw[z,hX] at hn;cases hn) hx hf,λb o hb hn _ hx=>slot b o hb (λz=>by rw[z,hX] at hn;cases hn) hx,λ_ _ _ hn _=>hn,λb o hb _=>there b o hb,λ_ _ q=>q,λ_ _ _ q=>q,λb ps q=>⟨#[],by rw[Array.append_empty];exact q⟩⟩
def trk:Value->List Addr
 | .ref T=>[T]
 | _=>[]
theorem kH(h:b∉trk t):t≠.ref b:=λz=>h (by rw[z];exact GX.mpr rfl)
theorem yl(h:b∈trk t):t=.ref b:=by
 cases t with
 | ref T=>rw[GX.mp h]
 | _=>cases h
theorem sZ(hst:X.stack=X.env::X.outer/\X.env.frame=some X.env.locals)(hA:A.frames=some X.stack)(L:jN X pins Ex v s)(h:∀h',jN X pins Ex v { s with heap:=h' }->Q () { s with heap:=h' }) :
  wpAny M A (noteFrame v X.env) (λ_ s2=>wpAny M A (setFlight v none) Q E s2) E s:=by
 obtain⟨σ,H',e,C,dx,a,t,rfl,I,he,ht,hT,hX,hE⟩:=L;have st:=I.stack;have sf:=I.stkFree;rw[hst.1] at hA st;refine note hA st hst.2 he ht λh' T l=>h h' ⟨σ,H',e,C,dx,a,.ref T,rfl,?_,l.ex,l.tb,λT' z=>?_,hX,hE⟩
 ·refine I.call' (s':={ s with heap:=h' }) (ch:=trk t) rfl (e6 hX _ (λb o hb hbe hc hf=>l.keep b o hb hbe (kH hc) (by rw[<- hst.1];exact hf)) (λb o hb hbe hc=>l.slot b o hb hbe (kH hc)) l.there) (l.hok I.hok hX (λT z=>(hT T z).1) (by rw[<- hst.1];exact sf)) I.bare λb hb=>?_;obtain⟨_,z2,z3,z4,z5⟩:=hT b (yl hb);exact⟨.inr z2,z3,z4,z5⟩
 ·cases z
  have fr:s.heap.objs.size<=T:=l.new
  refine⟨I.hok.fresh fr,GS I.sz fr,λy=>?_,λx c hxc y=>?_,λp hp y=>?_⟩
  ·exact absurd (He I.lt fr) (by rw[y];exact Hw _)
  ·obtain⟨w',o,ho,_⟩:=I.cell x c hxc;exact absurd (He (G3 ho) fr) (by rw[y];exact Hw _)
  ·exact absurd (He (G3 (I.pin p hp).1) fr) (by rw[y];exact Hw _)
theorem oA(L:jN X pins Ex v s)(h:∀h',jN X pins Ex v { s with heap:=h' }->Q () { s with heap:=h' }):wpAny M A (setFlight v none) Q E s:=by
 obtain⟨σ,H',e,C,dx,a,t,rfl,I,he,ht,hT,hX,hE⟩:=L;unfold setFlight;refine GM (HC he rfl (x:=t) rfl ?_);have ab:=ht
 rcases ht with rfl | ⟨T,oT,ts,rfl,hTe,hg,hd,h3⟩
 ·rw[Ha (by decide)];exact GQ (h s.heap ⟨σ,H',e,C,dx,a,.none,rfl,I,he,ab,hT,hX,hE⟩)
 ·rw[Hc (show (Value.ref T != Value.none)=true from by simp)];have hsz:3<ts.size:=(Iv.mp h3).1;have aa:∀b,b≠T->(s.heap.update T (Obj.mapFields (·.setIfInBounds 3 ((none:Option Addr).elim Value.none λf=>rawInt f)))).get? b=s.heap.get? b:=λb hb=>Hx _ _ (IF hb);have self:=Hz (Obj.mapFields (·.setIfInBounds 3 ((none:Option Addr).elim Value.none λf=>rawInt f))) hg (ID (Ih hd _));refine II hg hd hsz (h _ ⟨σ,H',e,C,dx,a,.ref T,rfl,?_,(aa e (IF hTe)).trans he,.inr ⟨T,_,_,rfl,hTe,self,Ih hd _,by simp[hsz]⟩,hT,hX,hE⟩);obtain⟨z1,z2,z3,z4,z5⟩:=hT T rfl;refine I.call' (ch:=[T]) rfl (e6 hX _ (λb o hb _ hc _=>(aa b λz=>hc (by rw[z];exact GX.mpr rfl)).trans hb) (λb o hb _ hc=>⟨o.slots,(aa b λz=>hc (by rw[z];exact GX.mpr rfl)).trans hb⟩) λb o hb=>?_) (λb o q=>?_) I.bare λb hb=>?_
  ·by_cases z:b=T
   ·exact⟨_,by rw[z];exact self⟩
   ·exact⟨o,(aa b z).trans hb⟩
  ·refine(I.hok b o q).stay (λc u hc hu=>(aa c λz=>?_).trans hu) (λ_ r=>r) λ_ _ r=>r
   rcases hc with rfl | hc
   ·rw[z,z1] at q;cases q
   ·rw[z,z1] at hc;cases hc
  ·rw[GX.mp hb];exact⟨.inr z2,z3,z4,z5⟩
theorem B6{M:Model}{A:Around}{E:Value->Shared->Prop}{h:Heap}{g:Array GenState}{d:Drawn}{t:Nat}{os:OsState}{e C N R NR:Addr}{mN mR:Str->Zd}{dx:Option Addr}{a tb:Value}{Q:Bool->Shared->Prop}(c:C2 h C N R NR mN mR)(he:h.get? e=some (GD C dx a tb))(hq:Q true ⟨h,g,d,t,os⟩) :
  wpAny M A (excMatches (.ref e) (.ref R)) Q E ⟨h,g,d,t,os⟩:=by
 obtain⟨⟨nm,q,bs,sn,sub,ab,az,dd,k0,k1,k2,k3,k5,hC⟩,⟨ao,q',as,aq,ai,an,aj,al,j0,j1,j2,j3,j5,hR⟩,_⟩:=c;have ah:(Value.ref R::bmV).contains (.type "BaseException")=true:=by rw[Jm,show bmV.contains (.type "BaseException")=true by decide +kernel,Ko]
 have aa:(Value.ref C::(Value.ref R::bmV)).contains (.ref R)=true:=by simp
 have f:=tc_notTuple
 unfold excMatches
 repeat (first | (with_reducible refine Ig he ?_) | with_reducible refine Ig hR ?_ | (with_reducible refine Jc hR ?_;rw[ah]) | (with_reducible refine Jc hC ?_;rw[aa]) | wp_step)
 exact hq
end
abbrev _root_.L2.Cx.hdl(X:Cx)(A':Around)(E:Value->Shared->Prop):Cx:={ X with A:=A',calm:=false,xe:=E }
section
variable {X:Cx} {pins:List (Addr×Obj)} {σ:L2.St} {H:Hp} {s:Shared}
theorem CP(hA:A'.frames=some X.stack)(I:L2.Inv X pins σ H s):L2.Inv (X.hdl A' E) pins σ H s :=
 ⟨⟨I.ok.mod,I.ok.kind,I.ok.glob,I.ok.blt,I.ok.above,I.ok.inj,I.ok.has,I.ok.cab,(λz=>nomatch z),hA,I.ok.stk,I.ok.exf,I.ok.bs,I.ok.bsz,I.ok.noex,I.ok.exfs,I.ok.funs,I.ok.frf⟩,I.os,I.bare,I.base,I.loc,I.cell,I.free,I.freeC,I.pin,I.hok,I.len⟩
theorem EN(ok:X.Ok)(I:L2.Inv (X.hdl A' E) pins σ H s):L2.Inv X pins σ H s:=⟨ok,I.os,I.bare,I.base,I.loc,I.cell,I.free,I.freeC,I.pin,I.hok,I.len⟩
def sTry(X:Cx)(R:Addr)(j:Nat)(tb:List (Addr×Obj)->(Value->Shared->Prop)->TS)(ts:TS):TS:=λD σ H=>∃Ex:XK,(∀e C dx H',H' e=some (XAt e C dx)->Ex (.ref e) (some dx) H'->∃N NR mN mR,∀h,X.K.In h->C2 h C N R NR mN mR)/\(∀pins E,(∀v s',jN X pins Ex v s'->E v s')->tb pins E D σ H) /\
 ∀(σ':L2.St) (H':Hp) (e C dx:Addr),σ'.length=σ.length->H' e=some (XAt e C dx)->Ex (.ref e) (some dx) H'->ts { nx:=λσ2 H2=>D.nx (σ2.set j none) H2,rt:=λ_ _=>False } (σ'.set j (some (.ref e))) H'
theorem Dh{R:Addr}{body:List Stmt}{st:Stmt}{n xR:Str}{j:Nat}{np hpos pos:Pos}{tb:List (Addr×Obj)->(Value->Shared->Prop)->TS}{ts:TS}(hst:X.stack=X.env::X.outer/\X.env.frame=some X.env.locals)(hN:X.N.Nodup)(hj:X.N[j]?=some n)(hk:X.env.scope.names.lookup n=some .local)
  (hg:Gl X xR) (hm:X.mg xR=some (.ref R))
  (hb:∀(pins:List (Addr×Obj)) (E:Value->Shared->Prop),PSs (X.inTry pins E) body (tb pins E)) (hs:∀A' E',PSs (X.hdl A' E') [st] ts) (hdb:(xR==("__debug__":Str))=false:=by decide) :
  PS X (.Try body [.ExceptHandler (some (.Name xR np)) (some n) [st] hpos] [] [] pos) (sTry X R j tb ts):=by
 intro pins s σ H D I h;obtain⟨Ex,al,h1,h2⟩:=h;rw[arm_exec_Try];refine GM (Kg (wpAny_tryStmt_except ?_));have ai:∀v s',jN X pins Ex v s'->(λv s₁=>wpAny (model X.prog X.w) X.A (noteFrame v X.env) (λ_ s₂=>wpAny (model X.prog X.w) X.A (setFlight v none) (λ_ s₃=>wpAny (model X.prog X.w) X.A (handleBy v X.env [.ExceptHandler (some (.Name xR np)) (some n) [st] hpos]) (SP X pins D) X.xe s₃) X.xe s₂) X.xe s₁) v s':=λv s' L=>?_;refine HX (hb pins _ [] s σ H D (FA I) (h1 pins _ ai)) (λf s1 q=>?_) λ_ _ q=>q
 ·cases f with
  | next =>
   obtain⟨σ',H',I',q⟩:=q;exact JO ⟨σ',H',sK I',q⟩
  | brk=>obtain⟨σ',H',I',q⟩:=q;exact⟨σ',H',sK I',q⟩
  | cont=>obtain⟨σ',H',I',q⟩:=q;exact⟨σ',H',sK I',q⟩
  | ret u=>obtain⟨v,σ',H',I',r,q⟩:=q;exact⟨v,σ',H',sK I',r,q⟩
 ·refine sZ hst I.ok.frames L λh' L=>?_;obtain⟨σ1,H1,e,C,dx,a,t,rfl,I1,he,ht,hT,hX,hE⟩:=id L;have hA:(X.A.mark (some (.ref e))).frames=some X.stack:=I.ok.frames;obtain⟨N,NR,mN,mR,c2⟩:=al e C dx _ hX hE;refine wpAny_handleBy_cons (codeAny_handlers_test (fY (X:=X.hdl (X.A.mark (some (.ref e))) X.xe) (CP hA I1) hg hm ?_ hdb)) (by intro q;cases q);refine B6 (c2 _ I1.kIn) he ?_;show codeAny _ _ (.handlers (.ref e) [.ExceptHandler none (some n) [st] hpos] X.env) _ _;refine codeAny_handlers_suite_as (oA L λh2' L2=>?_);obtain⟨σ2,H2,e2,ab,aj,a2,t2,aa,I2,as,ao,aq,ah,an⟩:=L2
  cases aa
  refine gJ I2 hN hj (.inl hk) (v:=.ref e) rfl (λs3 I3=>?_) (.inr hk);refine HX (hs (X.A.mark (some (.ref e))) _ pins s3 _ H2 _ (CP hA I3) (h2 σ2 H2 e ab aj (by rw[I2.len,I.len]) ah an)) (λf s4 q=>?_) λ_ _ z=>z
  cases f with
  | next =>
   obtain⟨σ4,H4,I4,q4⟩:=q;have I5:=EN I.ok I4;refine GM (wpAny_bindName (gJ I5 hN hj (.inl hk) (v:=.non) rfl (λs5 I6=>?_) (.inr hk)));unfold unbindBehindTheSuite;have hl:j<σ4.length:=by rw[I5.len];exact(GZ.mp hj).1
   refine Ki (uF I6 hN hj hk (v:=.non) (by rw[Hr hl]) λs6 I7=>?_);rw[List.set_set] at I7;exact⟨_,H4,I7,q4⟩
  | brk=>obtain⟨σ',H',I',q⟩:=q;exact q.elim
  | cont=>obtain⟨σ',H',I',q⟩:=q;exact q.elim
  | ret u=>obtain⟨v,σ',H',I',r,q⟩:=q;exact q.elim
end
end DL
namespace DL
open PySem PySem.Spec PyProof.Rows L2
def xv(L:Addr)(h:Heap)(e:Addr)(t:Value):Prop:=∃T oT ts,t=.ref T/\T≠e/\h.get? T=some oT/\oT.data=.fields ts/\ts[3]?=some (rawInt L)
structure LftN(fs:List Addr)(L:Addr)(h h':Heap)(e:Addr)(t:Value)(C:Addr)(dx:Option Addr)(a:Value)(T:Addr):Prop where
 ex:h'.get? e=some (GD C dx a (.ref T))
 tb:xv L h' e (.ref T)
 new:h.objs.size<=T
 keep:∀b o,h.get? b=some o->b≠e->t≠.ref b->b∉fs->h'.get? b=some o
 slot:∀b o,h.get? b=some o->b≠e->t≠.ref b->∃sl,h'.get? b=some { o with slots:=sl }
 there:∀b o,h.get? b=some o->∃o',h'.get? b=some o'
section
theorem xT(hfr:A.frames=some (env::outer))(hl:s.heap.FunFrames base (env::outer))(hf:env.frame=some L)(he:s.heap.get? e=some (GD C dx a t))
  (h:∀h' T,h'.get? e=some (GD C dx a (.ref T))->xv L h' e (.ref T)->s.heap.objs.size<=T->(∀b o,s.heap.get? b=some o->b≠e->b∉frs (env::outer)->h'.get? b=some o)->(∀b o,s.heap.get? b=some o->b≠e->∃sl,h'.get? b=some { o with slots:=sl })->Q () { s with heap:=h' }) :
  wpAny M A (do let a<-frameOf env;let pl<-entryPlaceOf L had;let b<-EntryCells.newEntry head a .none (rawInt L) .none pl;setField (.ref e) 1 b) Q E s:=by
 have ai:e∉(env::outer).filterMap (·.frame):=λhm=>by
  obtain⟨_,o,ho,an⟩:=hl.mem hm;rw[he] at ho;injection ho with ho;subst ho;exact an _ rfl
 refine GM (wpAny_frameOf_fun hfr hl hf λh₁ hs₁=>?_);refine GM (wpAny_entryPlaceOf λpl hpl=>?_);unfold EntryCells.newEntry newFields;refine GM (HQ ?_ (hpl.sizeOk5 _ _ _ _ _));have ah:h₁.get? e=some (GD C dx a t):=(hs₁.2.1 e ai).trans he;generalize hO:({ cls:=.type "traceback",dict:=none,data:=.fields ([head,.ref L,.none,rawInt L,.none]++(if pl.isEmpty then List.replicate 6 Value.none else pl)).toArray }:Obj)=O;have aj:O.data=.fields ([head,.ref L,.none,rawInt L,.none]++(if pl.isEmpty then List.replicate 6 Value.none else pl)).toArray:=by rw[<- hO]
 have al:O.isFreed=false:=by rw[<- hO];rfl
 have aa:=GO (h:=h₁) O ah
 have ab:h₁.objs.size≠e:=IC (G3 ah)
 have aq:((h₁.push O).update e (Obj.mapFields (·.setIfInBounds 1 (Value.ref h₁.objs.size)))).get? e=some (GD C dx a (.ref h₁.objs.size)):=Hz (Obj.mapFields (·.setIfInBounds 1 (Value.ref h₁.objs.size))) aa rfl
 have ao:((h₁.push O).update e (Obj.mapFields (·.setIfInBounds 1 (Value.ref h₁.objs.size)))).get? h₁.objs.size=some O:=(Hx _ _ (IF ab)).trans (G5 h₁ al)
 have keep:∀b o,b≠e->h₁.get? b=some o->((h₁.push O).update e (Obj.mapFields (·.setIfInBounds 1 (Value.ref h₁.objs.size)))).get? b=some o:=λb o hbe hb=>by
  rw[Hx _ _ (IF hbe)];exact GO _ hb
 refine II aa rfl (by simp) (h _ h₁.objs.size aq ⟨_,O,_,rfl,ab,ao,aj,by simp⟩ ?_ (λb o hb hbe hbf=>keep b o hbe ((hs₁.2.1 b hbf).trans hb)) λb o hb hbe=>?_)
 ·rw[hs₁.1];exact GU _
 ·obtain⟨sl,hs⟩:=hs₁.2.2 b o hb;exact⟨sl,keep b _ hbe hs⟩
theorem FW(hfr:A.frames=some (env::outer))(hl:s.heap.FunFrames base (env::outer))(hf:env.frame=some L)(he:s.heap.get? e=some (GD C dx a t))(ht:vS s.heap e t)
  (h:∀h' T,LftN (frs (env::outer)) L s.heap h' e t C dx a T->Q () { s with heap:=h' }):wpAny M A (noteFrame (.ref e) env) Q E s:=by
 unfold noteFrame;simp only[hf];refine GM (HC he rfl (x:=t) rfl ?_)
 rcases ht with rfl | ⟨T,oT,ts,rfl,hTe,hT,hdT,h3⟩
 ·rw[Ha (by decide)];refine xT hfr hl hf he λh' T h1 h2 h3 h4 h5=>h h' T ⟨h1,h2,h3,λb o hb hbe _=>h4 b o hb hbe,λb o hb hbe _=>h5 b o hb hbe,λb o hb=>?_⟩
  by_cases z:b=e
  ·exact⟨_,by rw[z];exact h1⟩
  ·obtain⟨sl,q⟩:=h5 b o hb z;exact⟨_,q⟩
 ·rw[Hc (show (Value.ref T != Value.none)=true from by simp)];refine GM (HC hT hdT h3 ?_);rw[Ha (show ¬ ((Value.none==rawInt L)=true) from by simp[rawInt])];refine GM (II hT hdT (Iv.mp h3).1 ?_);have aa:∀b,b≠T->(s.heap.update T (Obj.mapFields (·.setIfInBounds 3 Value.none))).get? b=s.heap.get? b:=λb hb=>Hx _ _ (IF hb);have ab:∀b o,s.heap.get? b=some o->(∀vs,o.data≠.fields vs)->b≠T:=λb o hb hnf q=>by
   rw[q,hT] at hb;injection hb with hb;subst hb;exact hnf ts hdT
  have ah:=Hz (Obj.mapFields (·.setIfInBounds 3 Value.none)) hT (ID (Ih hdT _))
  refine xT (s:={ s with heap:=s.heap.update T (Obj.mapFields (·.setIfInBounds 3 Value.none)) }) hfr (hl.of_keeps λb o hb hnf=>⟨o,(aa b (ab b o hb hnf)).trans hb,rfl⟩) hf ((aa e (IF hTe)).trans he)
   λh' T' h1 h2 h3 h4 h5=>h h' T' ⟨h1,h2,by rw[<- Heap.size_after_update];exact h3,λb o hb hbe hbt=>h4 b o ((aa b λz=>hbt (by rw[z])).trans hb) hbe,λb o hb hbe hbt=>h5 b o ((aa b λz=>hbt (by rw[z])).trans hb) hbe,λb o hb=>?_⟩
  by_cases z:b=e
  ·exact⟨_,by rw[z];exact h1⟩
  ·by_cases z2:b=T
   ·subst z2;obtain⟨sl,q⟩:=h5 b _ ah z;exact⟨_,q⟩
   ·obtain⟨sl,q⟩:=h5 b o ((aa b z2).trans hb) z;exact⟨_,q⟩
end
theorem LftN.hok(l:LftN fs L h h' e t C (some dx) a T)(hok:Gk P w H' h)(hX:H' e=some (XAt e C dx))(hT:∀T,t=.ref T->H' T=none)(hfs:∀b∈fs,H' b=none):Gk P w H' h':=λb o q=>by
 have kp:∀c u v,H' c=some v->c≠e->h.get? c=some u->h'.get? c=some u:=λc u v hc hce hu=>l.keep c u hu hce (λz=>by rw[hT c z] at hc;cases hc) λz=>by rw[hfs c z] at hc;cases hc
 by_cases hb:b=e
 ·subst hb;rw[hX] at q
  cases q
  refine⟨⟨_,_,l.ex⟩,⟨_,l.ex⟩,λh1 h2 p k=>?_⟩;obtain⟨a,t,p⟩:=p;exact⟨a,t,k _ p⟩
 ·refine(hok b o q).stay (λc u hc hu=>?_) (λ_ r=>r) λ_ _ r=>r
  rcases hc with rfl | hc
  ·exact kp _ _ _ q hb hu
  ·exact kp _ _ _ hc (λz=>by rw[z,hX] at hc;cases hc) hu
inductive rB(X:Cx)(E:XK)(v:Value)(s':Shared):Prop
 | mk (σ:L2.St) (H':Hp) (e C dx:Addr) (a t:Value) (hv:v=.ref e) (I:L2.Inv X [] σ H' s') (he:s'.heap.get? e=some (GD C (some dx) a t)) (ht:vS s'.heap e t\/xv X.env.locals s'.heap e t)
  (hT:∀T,t=.ref T->H' T=none/\X.s₀.heap.objs.size<=T/\T≠X.env.locals/\(∀x c,X.env.cells.lookup x=some c->c≠T)/\∀p∈X.pn++[],p.1≠T) (hX:H' e=some (XAt e C dx)) (hE:E (.ref e) (some dx) H')
abbrev _root_.L2.Cx.lx(X:Cx)(E:XK):Cx:={ X with xe:=rB X E }
section
theorem Fk{X:Cx}{e:Value->Shared->Prop}(ok:X.Ok):({ X with xe:=e }:Cx).Ok:=⟨ok.mod,ok.kind,ok.glob,ok.blt,ok.above,ok.inj,ok.has,ok.cab,ok.hd,ok.frames,ok.stk,ok.exf,ok.bs,ok.bsz,ok.noex,ok.exfs,ok.funs,ok.frf⟩
theorem toLx(I:L2.Inv X pins σ H s):L2.Inv { X with xe:=e } pins σ H s:=⟨Fk I.ok,I.os,I.bare,I.base,I.loc,I.cell,I.free,I.freeC,I.pin,I.hok,I.len⟩
theorem ofLx(I:L2.Inv { X with xe:=e } pins σ H s):L2.Inv X pins σ H s:=toLx (X:={ X with xe:=e }) (e:=X.xe) I
theorem Cs(I:L2.Inv X pins σ H s):L2.Inv X [] σ H s:=⟨I.ok,I.os,I.bare,I.base,I.loc,I.cell,I.free,I.freeC,λp hp=>I.pin p (by rw[HM] at hp;exact Hf _ hp),I.hok,I.len⟩
theorem vH(L:nT (X.lx E) pins H' e C dx s')(hE:E (.ref e) (some dx) H'):rB X E (.ref e) s':=by
 obtain⟨σ,a,t,I,he,ht,hT,hX⟩:=L.ex;refine⟨σ,H',e,C,dx,a,t,rfl,Cs (ofLx I),he,.inl ht,λT z=>?_,hX,hE⟩;obtain⟨z1,z2,z3,z4,z5⟩:=hT T z;exact⟨z1,z2,z3,z4,λp hp=>z5 p (by rw[HM] at hp;exact Hf _ hp)⟩
theorem lT{X:Cx}{σ:L2.St}{s:Shared}{fl:Value}{Q:Unit->Shared->Prop}{M:Model}{A:Around}{W:Value->Shared->Prop}{H':Hp}{e C dx T:Addr}{a:Value}{oT:Obj}{ts:Array Value}(I:L2.Inv X [] σ H' s)(he:s.heap.get? e=some (GD C (some dx) a (.ref T)))(hTe:T≠e)(hg:s.heap.get? T=some oT)(hd:oT.data=.fields ts)(h3:3<ts.size)
  (hT:H' T=none/\X.s₀.heap.objs.size<=T/\T≠X.env.locals/\(∀x c,X.env.cells.lookup x=some c->c≠T)/\∀p∈X.pn++[],p.1≠T) (hX:H' e=some (XAt e C dx))
  (h:∀h',L2.Inv X [] σ H' { s with heap:=h' }->h'.get? e=some (GD C (some dx) a (.ref T))->(∃oT ts,h'.get? T=some oT/\oT.data=.fields ts/\ts[3]?=some fl)->Q () { s with heap:=h' }):wpAny M A (setField (.ref T) 3 fl) Q W s:=by
 have aa:∀b,b≠T->(s.heap.update T (Obj.mapFields (·.setIfInBounds 3 fl))).get? b=s.heap.get? b:=λb hb=>Hx _ _ (IF hb)
 have self:=Hz (Obj.mapFields (·.setIfInBounds 3 fl)) hg (ID (Ih hd _))
 obtain⟨z1,z2,z3,z4,z5⟩:=hT;refine II hg hd h3 (h _ ?_ ((aa e (IF hTe)).trans he) ⟨_,_,self,Ih hd _,by simp[h3]⟩);refine I.call' (ch:=[T]) rfl (e6 hX _ (λb o hb _ hc _=>(aa b λz=>hc (by rw[z];exact GX.mpr rfl)).trans hb) (λb o hb _ hc=>⟨o.slots,(aa b λz=>hc (by rw[z];exact GX.mpr rfl)).trans hb⟩) λb o hb=>?_) (λb o q=>?_) I.bare λb hb=>?_
 ·by_cases z:b=T
  ·exact⟨_,by rw[z];exact self⟩
  ·exact⟨o,(aa b z).trans hb⟩
 ·refine(I.hok b o q).stay (λc u hc hu=>(aa c λz=>?_).trans hu) (λ_ r=>r) λ_ _ r=>r
  rcases hc with rfl | hc
  ·rw[z,z1] at q;cases q
  ·rw[z,z1] at hc;cases hc
 ·rw[GX.mp hb];exact⟨.inr z2,z3,z4,z5⟩
theorem cy(hst:X.stack=X.env::X.outer/\X.env.frame=some X.env.locals):PassesOwn (model X.prog X.w) X.A X.env (rB X E):=by
 intro v s' L;show wpAny _ _ (noteFrame v X.env) (λ_ s''=>cameBackBy (model X.prog X.w) X.A X.env (rB X E) v s'') _ s';have back:∀(σ:L2.St) (H':Hp) (e C dx T:Addr) (a:Value) (s':Shared),L2.Inv X [] σ H' s'->s'.heap.get? e=some (GD C (some dx) a (.ref T))->xv X.env.locals s'.heap e (.ref T) ->
   (H' T=none/\X.s₀.heap.objs.size<=T/\T≠X.env.locals/\(∀x c,X.env.cells.lookup x=some c->c≠T)/\∀p∈X.pn++[],p.1≠T)->H' e=some (XAt e C dx)->E (.ref e) (some dx) H'->cameBackBy (model X.prog X.w) X.A X.env (rB X E) (.ref e) s':=λσ H' e C dx T a s' I he hN hT hX hE=>by
  obtain⟨T',oT,ts,q,aa,hg,hd,h3⟩:=hN
  cases q
  unfold cameBackBy;refine GM (HC he rfl (x:=.ref T) rfl ?_);rw[Ha (show ¬ ((Value.ref T==Value.none)=true) from by simp)];unfold setFlight;refine GM (HC he rfl (x:=.ref T) rfl ?_);rw[Hc (show (Value.ref T != Value.none)=true from by simp),hst.2];refine lT I he aa hg hd (Iv.mp h3).1 hT hX λh' I' he' hr=>?_;obtain⟨ah,ab,g1,g2,g3⟩:=hr;exact⟨σ,H',e,C,dx,a,.ref T,rfl,I',he',.inr ⟨T,ah,ab,rfl,aa,g1,g2,g3⟩,λT' z=>by cases z;exact hT,hX,hE⟩
 obtain⟨σ,H',e,C,dx,a,t,rfl,I,he,ht,hT,hX,hE⟩:=L
 rcases ht with ht | hN
 ·have st:=I.stack
  have sf:=I.stkFree
  have hA:=I.ok.frames
  rw[hst.1] at hA st;refine FW hA st hst.2 he ht λh' T l=>?_;refine back σ H' e C dx T a _ ?_ l.ex l.tb ?_ hX hE
  ·refine I.call' (s':={ s' with heap:=h' }) (ch:=trk t) rfl (e6 hX _ (λb o hb hbe hc hf=>l.keep b o hb hbe (kH hc) (by rw[<- hst.1];exact hf)) (λb o hb hbe hc=>l.slot b o hb hbe (kH hc)) l.there) (l.hok I.hok hX (λT z=>(hT T z).1) (by rw[<- hst.1];exact sf)) I.bare λb hb=>?_;obtain⟨_,z2,z3,z4,z5⟩:=hT b (yl hb);exact⟨.inr z2,z3,z4,z5⟩
  ·have fr:s'.heap.objs.size<=T:=l.new
   refine⟨I.hok.fresh fr,GS I.sz fr,λy=>?_,λx c hxc y=>?_,λp hp y=>?_⟩
   ·exact absurd (He I.lt fr) (by rw[y];exact Hw _)
   ·obtain⟨w',o,ho,_⟩:=I.cell x c hxc;exact absurd (He (G3 ho) fr) (by rw[y];exact Hw _)
   ·exact absurd (He (G3 (I.pin p hp).1) fr) (by rw[y];exact Hw _)
 ·obtain⟨T,oT,ts,rfl,aa,hg,hd,h3⟩:=id hN;unfold noteFrame;simp only[hst.2];refine GM (HC he rfl (x:=.ref T) rfl ?_);rw[Hc (show (Value.ref T != Value.none)=true from by simp)];refine GM (HC hg hd h3 ?_);rw[Hc (by simp)];exact GQ (back σ H' e C dx T a _ I he hN (hT T rfl) hX hE)
end
end DL
namespace DL
open PySem PySem.Spec PyProof.Rows L2
section
theorem Fm:pV (CXE X.prog X.w) X (XEs X):=by
 intro pins σ H s v s' I hc;obtain⟨e,C,dx,a,t,H',rfl,os,aa,un,hok,he,ht,hT,hX,hx⟩:=hc;have lo:∀T,t=.ref T->s.heap.objs.size<=T:=λT z=>(hT T z).2;refine hx e C dx pins s' rfl rfl ⟨σ,a,t,I.call' (ch:=[]) os un hok aa (λb z=>absurd z (by simp)),he,ht,λT z=>⟨(hT T z).1,GS I.sz (lo T z),λy=>?_,λx c hxc y=>?_,λp hp y=>?_⟩,hX⟩
 ·exact absurd (He I.lt (lo T z)) (by rw[y];exact Hw _)
 ·obtain⟨w',o,ho,_⟩:=I.cell x c hxc;exact absurd (He (G3 ho) (lo T z)) (by rw[y];exact Hw _)
 ·have:=(I.pin p hp).1
  exact absurd (He (G3 this) (lo T z)) (by rw[y];exact Hw _)
end
section
theorem E6{P:Program}{w:World}{K:Zf}{mg:Str->Zd}{base:Heap}{N:Zb}{qual:Str}{scope:Scope}{f:Addr}{cd:Value}{A:Around}{outer:List Env}{s:Shared}{H:Hp}{E:XK}{pins:List (Addr×Obj)}{H':Hp}{e C dx:Addr}{s':Shared}(L:nT (oK (CXE P w) P w K mg base N qual scope f cd A outer s H E) pins H' e C dx s')(hE:E (.ref e) (some dx) H'):(oK (CXE P w) P w K mg base N qual scope f cd A outer s H E).xe (.ref e) s':=by
 obtain⟨σ,a,t,I',he,ht,hT,hX⟩:=L.ex;show wpAny _ _ _ _ _ _;refine FJ I'.ok.frames I'.stack rfl he ht λh' T l=>?_;have ah:∀T,t=.ref T->H' T=none:=λT z=>(hT T z).1;refine⟨e,C,dx,a,.ref T,H',rfl,I'.os,I'.bare,?_,l.hok I'.hok hX ah I'.stkFree,l.ex,l.tb,λT' z=>?_,hX,hE⟩
 ·have aa:∀b o,s.heap.get? b=some o->t≠.ref b:=λb o hb z=>absurd (He (G3 hb) (hT b z).2.1) (Hw _)
  have ai:∀b o,s.heap.get? b=some o->b≠s.heap.objs.size:=λb o hb=>Ho (G3 hb)
  have ne:∀b,H' b=none->b≠e:=λb z q=>by rw[q,hX] at z;cases z
  refine⟨λb o hb hn hf hx=>?_,λb o hb hn hf hx=>?_,λb o hb hn hx=>?_,λb o hb hx=>?_,I'.base.tups,I'.base.frzs,I'.base.tbls⟩
  ·exact l.keep b o (I'.base.keep b o hb hn hf hx) (ne b (I'.base.free b o hb hn hx)) (aa b o hb) λz=>by
    rcases GY.mp (show b∈s.heap.objs.size::frs outer from z) with z | z
    ·exact ai b o hb z
    ·exact hf z
  ·obtain⟨sl,q⟩:=I'.base.slot b o hb hn hf hx;obtain⟨ab,q'⟩:=l.slot b _ q (ne b (I'.base.free b o hb hn hx)) (aa b o hb);exact⟨ab,q'⟩
  ·exact I'.base.free b o hb hn hx
  ·obtain⟨o',q⟩:=I'.base.there b o hb hx;exact l.there b o' q
 ·cases z
  have fr:s'.heap.objs.size<=T:=l.new
  exact⟨I'.hok.fresh fr,GS I'.sz fr⟩
theorem FZ{P:Program}{w:World}{K:Zf}{mg:Str->Zd}{base:Heap}{N:Zb}{qual:Str}{scope:Scope}{f:Addr}{cd:Value}{A:Around}{outer:List Env}{s:Shared}{H:Hp}{E:XK}{v:Value}{s':Shared}(L:rB (oK (CXE P w) P w K mg base N qual scope f cd A outer s H E) E v s'):(oK (CXE P w) P w K mg base N qual scope f cd A outer s H E).xe v s':=by
 obtain⟨σ,H',e,C,dx,a,t,rfl,I',he,ht,hT,hX,hE⟩:=L
 rcases ht with ht | hN
 ·exact E6 (pins:=[]) ⟨σ,a,t,I',he,ht,hT,hX⟩ hE
 ·obtain⟨T,oT,ts,rfl,aa,hg,hd,h3⟩:=hN;show wpAny _ _ (leaving _ _) _ _ _;unfold leaving noteFrame;refine GM ?_;show wpAny _ _ (do let head<-field (Value.ref e) 1;_) _ _ _;refine GM (HC he rfl (x:=.ref T) rfl ?_);rw[Hc (show (Value.ref T != Value.none)=true from by simp)];refine GM (HC hg hd h3 ?_);rw[Hc (by simp;rfl)];refine GQ ?_;unfold setFlight;refine GM (HC he rfl (x:=.ref T) rfl ?_);rw[Hc (show (Value.ref T != Value.none)=true from by simp)];refine lT I' he aa hg hd (Iv.mp h3).1 (hT T rfl) hX λh' I2 he2 hr=>?_;obtain⟨ah,ab,g1,g2,g3⟩:=hr;refine⟨e,C,dx,a,.ref T,H',rfl,I2.os,I2.bare,I2.base,I2.hok,he2,.inr ⟨T,ah,ab,rfl,aa,g1,g2,g3⟩,λT' z=>?_,hX,hE⟩
  cases z
  exact⟨(hT T rfl).1,(hT T rfl).2.1⟩
end
theorem PSs.lx{X:Cx}{W:Value->Shared->Prop}{st:List Stmt}{t:TS}(h:PSs { X with xe:=W } st t)(hW:∀v s',W v s'->X.xe v s'):PSs X st t:=λpins s σ H D I hw =>
 HX (h pins s σ H D (toLx I) hw) (λf s' q=>by
  cases f with
  | next=>obtain⟨σ',H',I',q⟩:=q;exact⟨σ',H',ofLx I',q⟩
  | brk=>obtain⟨σ',H',I',q⟩:=q;exact⟨σ',H',ofLx I',q⟩
  | cont=>obtain⟨σ',H',I',q⟩:=q;exact⟨σ',H',ofLx I',q⟩
  | ret u=>obtain⟨v,σ',H',I',r,q⟩:=q;exact⟨v,σ',H',ofLx I',r,q⟩) hW
abbrev FE:=List D->(D->Prop)->(Str->Str->D->Prop)->Prop
inductive spE(K:Zf)(f:FE)(vs:Zg)(H:Hp)(Q:VK)(E:XK):Prop
 | mk (M:Addr->Prop) (ds:Zi) (R:D->Prop) (RE:Str->Str->D->Prop) (m:∀b,M b->H b≠none) (rs:Reps K M H ds vs) (h:f ds R RE) (k:∀d,R d->∀v H',bH H H'->GI K M H' d v->Q v H')
  (kx:∀c fl d,RE c fl d->∀e C dx H',bH H H'->H' e=some (XAt e C dx)->GI K M H' (.exn c fl d) (.ref e)->E (.ref e) (some dx) H')
structure vy(P:Program)(w:World)(K:Zf)(mg:Str->Zd)(base:Heap)(k:Nat)(x:Str)(ps:Zb)(f:FE):Prop where
 ex:∃(a:Addr) (fd:FuncData),fG P w K mg base (CXE P w) k a fd ps (spE K f)/\eC K fd ps []/\PySem.W.keepIn K (.ref a)=true/\mg x=some (.ref a)
section
theorem ye{P:Program}{w:World}{K:Zf}{mg:Str->Zd}{base:Heap}{x:Str}{st:Stmt}{N ps:Zb}{k:Nat}{f:FE}(F:Fd K mg x st ps)(Sc:ay N ps (am st))(len:∀ds R RE,f ds R RE->ds.length=ps.length)
    (hbody:∀(a:Addr) (cdv:Value) (A:Around) (outer:List Env) (s:Shared) (H:Hp) (E:XK) (ds:Zi) (R:D->Prop) (RE:Str->Str->D->Prop),cK k (A.deeper (envOfC x (am st) s.heap.objs.size a cdv))->f ds R RE ->
      ∃t,DSs ((oK (CXE P w) P w K mg base N x (am st) a cdv A outer s H E).lx E) (aW st) t/\t { nx:=λ_=>R .non,rt:=λd _=>R d,ro:=R,ex:=RE } (d8 N ds)) :
    vy P w K mg base (k+1) x ps f:=by
  obtain⟨a,fd,Fu,b,m⟩:=F.ex;refine⟨a,fd,?_,b,Fu.kp,m⟩;obtain⟨oc,od,kV,ah,pm,an,cdv,ct,aj,rfl,lk,ab⟩:=Fu.ex;refine DJ lk ab Sc (λvs H Q E h=>?_) λA outer s H vs Q E hr h=>?_
  · obtain⟨M,ds,R,RE,_,rs,hf,_,_⟩:=h;rw[<- Reps.length _ _ rs];exact len _ _ _ hf
  · obtain⟨M,ds,R,RE,hm,rs,hf,hk,aa⟩:=h;obtain⟨t,ht,hq⟩:=hbody a cdv A outer s H E ds R RE hr hf;refine⟨_,PSs.lx ht (λ_ _=>FZ),⟨M,H,λ_=>False⟩,d8 N ds,[],_,vk N hm rs,hq,λδ' r σ' H' hs=>?_,⟨λd δ' r v σ' H' hs=>?_,λd r a H' hs=>?_,λc fl d r e C dx δ' σ' H' hs hX=>?_⟩,λ_ h=>h.elim,λ_ h=>h.elim,λz=>z.elim⟩
    · obtain⟨A',x⟩:=hs;exact hk .non r .non H' (λb o e=>x.old b o e id) (by unfold GI;rfl)
    · obtain⟨A',x⟩:=hs;exact hk d r v H' (λb o e=>x.old b o e id) (GI.more (λb z=>.inl (.inl z)) _ _ (x.pnd (d,v) (by simp)))
    · obtain⟨o1,o2,o3,o4⟩:=hs;exact hk d r (.ref a) H' (λb o e=>o1 b o e id) (o4.rep o3 λb z=>.inl z)
    · obtain⟨A',x⟩:=hs;intro e' C' ai pins s' hC hd L
      cases hC
      cases hd
      refine vH L ?_;exact aa c fl d r e C dx H' (λb o q=>x.old b o q id) hX (GI.more (λb z=>.inl (.inl z)) _ _ (x.pnd (.exn c fl d,.ref e) (by simp)))
end
section
variable {X:Cx} {pos:Pos} {a:Expr} {es:List Expr} {ta:GH} {t:TDA} {f:FE}
theorem fA{K:Zf}{G:Gf}{δ:En}{P:List (D×V)}{σ:L2.St}{H:Hp}{Q:VK}{Wx:XK}{Rv:D->En->Prop}{RE:Str->Str->D->Prop}(s:S K G δ P σ H)(h:t δ λds δ1=>f ds (λd=>Rv d δ1) RE)
  (k:∀d δ',Rv d δ'->∀v H',S K G δ' ((d,v)::P) σ H'->Q v H') (kx:∀c fl d,RE c fl d->∀e C dx δ' σ' H',S K G δ' ((.exn c fl d,.ref e)::P) σ' H'->H' e=some (XAt e C dx)->Wx (.ref e) (some dx) H') :
  Aw (spE K f) [] Wx (upA K t) σ H Q:=by
 refine⟨G,δ,P,_,s,h,λds δ1 h1 vs H1 hl s1=>?_⟩;obtain⟨A,x⟩:=s1;rw[HM];refine⟨λb=>G.M0 b\/A b,ds,_,RE,x.mem,x.reps ds vs hl (λq hq=>Hf _ hq),h1,λd r v H' sm rp=>k d δ1 r v H' ⟨A,((x.same sm).sub (P':=P) λq hq=>G7 _ hq).push rp⟩,λc fl d r e C dx H' sm hX rp=>kx c fl d r e C dx δ1 σ H' ⟨A,((x.same sm).sub (P':=P) λq hq=>G7 _ hq).push rp⟩ hX⟩
def kS(i:Nat)(R:aP)(δ:En)(d:D):Prop:=lq δ i (.dat d) R.nx
def kT(R:aP)(δ:En)(d:D):Prop:=R.rt d δ
def kX(R:aP)(δ:En)(_:D):Prop:=R.nx δ
def Dj(i:Nat)(f:FE)(t:TDA)(R:aP)(δ:En):Prop:=t δ λds δ1=>f ds (kS i R δ1) R.ex
def CL(f:FE)(t:TDA)(R:aP)(δ:En):Prop:=t δ λds δ1=>f ds (kT R δ1) R.ex
def ym(f:FE)(t:TDA)(R:aP)(δ:En):Prop:=t δ λds δ1=>f ds (kX R δ1) R.ex
theorem gL(C:vy X.prog X.w X.K X.mg X.base k x ps f)(hr:cK k X.A)(hg:Gl X x)(ha:DA X (a::es) t)(hdb:(x==("__debug__":Str))=false:=by decide)
  (he:starEach (a::es) X.env=(false,eval a X.env)::starEach es X.env:=by rfl) (hpl:(backTo pos (starEach es X.env)).any (·.1)=false:=by rfl):PE X (.Call (.Name x p) (a::es) [] pos) (Aw (spE X.K f) [] (XEs X) (upA X.K t)):=by
 obtain⟨g,fd,F,b,kp,m⟩:=C.ex;exact ko F hr hg m kp b .nil Fm ha hdb he hpl
theorem dm(i:Nat){x y:Str}{k:Nat}{ps:Zb}{p pos' cpos:Pos}(hN:X.N.Nodup)(C:vy X.prog X.w X.K X.mg X.base k x ps f)(hr:cK k X.A)(hg:Gl X x)(ha:DA X (a::es) t)(hdb:(x==("__debug__":Str))=false:=by decide)
  (he:starEach (a::es) X.env=(false,eval a X.env)::starEach es X.env:=by rfl) (hpl:(backTo cpos (starEach es X.env)).any (·.1)=false:=by rfl) (hi:X.N[i]?=some y:=by rfl) (hx:Loc X.env.scope y:=by walk_at "v2")
  (hs:swapsWith (.Call (.Name x p) (a::es) [] cpos) (some (.Name y pos')) pos.line X.env=pure false:=by rfl) (hf:X.fn y=true\/X.env.scope.names.lookup y=some .local :=by walk_at "v1") :
  DS X (.Assign [.Name y pos'] (.Call (.Name x p) (a::es) [] cpos) pos) (Dj i f t) :=
 PS.imp (jH hN hi hx (gL C hr hg ha hdb he hpl) hs hf) λE σ H hu=>by
  obtain⟨G,δ,P,R,s,h,k1,k2,_⟩:=hu;exact fA (Rv:=λd δ1=>R.nx (δ1.set i (.dat d))) s h (λd δ' r v H' s1=>k1 _ r _ H' (s1.set (by simp) λp hp=>by simp[hp])) k2.2.2
theorem zm(C:vy X.prog X.w X.K X.mg X.base k x ps f)(hr:cK k X.A)(hg:Gl X x)(ha:DA X (a::es) t)(hdb:(x==("__debug__":Str))=false:=by decide)
  (he:starEach (a::es) X.env=(false,eval a X.env)::starEach es X.env:=by rfl) (hpl:(backTo cpos (starEach es X.env)).any (·.1)=false:=by rfl):DS X (.Return (some (.Call (.Name x p) (a::es) [] cpos)) pos) (CL f t) :=
 PS.imp (o8 (gL C hr hg ha hdb he hpl)) λE σ H hu=>by
  obtain⟨G,δ,P,R,s,h,k1,k2,_⟩:=hu;exact fA (Rv:=λd δ1=>R.rt d δ1) s h (λd δ' r v H' s1=>k2.1 d δ' r v σ H' s1) k2.2.2
theorem c0{x:Str}{k:Nat}{ps:Zb}{p cpos:Pos}(C:vy X.prog X.w X.K X.mg X.base k x ps f)(hr:cK k X.A)(hg:Gl X x)(ha:DA X (a::es) t)(hdb:(x==("__debug__":Str))=false:=by decide)
  (he:starEach (a::es) X.env=(false,eval a X.env)::starEach es X.env:=by rfl) (hpl:(backTo cpos (starEach es X.env)).any (·.1)=false:=by rfl) (hs:swapsWith (.Call (.Name x p) (a::es) [] cpos) none pos.line X.env=pure false:=by rfl) :
  DS X (.Expr (.Call (.Name x p) (a::es) [] cpos) pos) (ym f t) :=
 PS.imp (eO (gL C hr hg ha hdb he hpl) hs) λE σ H hu=>by
  obtain⟨G,δ,P,R,s,h,k1,k2,_⟩:=hu;exact fA (Rv:=λ_ δ1=>R.nx δ1) s h (λd δ' r v H' s1=>k1 _ r _ H' (s1.sub λp hp=>by simp[hp])) k2.2.2
variable {C R fI:Addr} {fld:Str} {k:Nat} {fd:FuncData} {ps:Zb} {x:Str} {p cpos:Pos} {b:Bool}
theorem GI.made{K:Zf}{G:Gf}{δ:En}{P P':List (D×V)}{σ:L2.St}{H:Hp}{c:Str}{d:D}{v:V}{e dx:Addr}{o:HO}(s:S K G δ P σ H)(hp:(d,v)∈P)(hs:∀q∈P',q∈P)(he:H e=none)(hdx:H dx=none)(hne:dx≠e)(ho:o=XAt e C dx\/o=ug e C dx)
  (hns:PySem.W.nsIn K mainGlobals c=some (some (.ref C))):S K G δ ((.exn c fld d,.ref e)::P') σ (GE (GE H dx (.xd [(fld,v)])) e o):=by
 obtain⟨A,x⟩:=s;have sm:bH H (GE (GE H dx (.xd [(fld,v)])) e o):=bH.trans (aF hdx _) (aF (by rw[aH (IF hne)];exact he) _);refine⟨A,((x.same sm).sub hs).push ?_⟩;unfold GI;refine⟨v,⟨⟨e,C,dx,rfl,λz=>x.mem e z he,λz=>x.mem dx z hdx,?_,?_,hns⟩⟩,GI.kp (Kp.of_same sm) _ _ (x.pnd (d,v) hp)⟩
 ·rw[aw];exact ho.imp (λz=>by rw[z]) λz=>by rw[z]
 ·rw[aH hne,aw]
def pdB:Bool->D->Prop
 | false,_=>True
 | true,d=>∃x,d=.str x/\x.length<=100
theorem pdB.rep{K:Zf}{M:Addr->Prop}{H:Hp}{b:Bool}{d:D}{v:V}(h:pdB b d)(r:GI K M H d v):pyB b v:=by
 cases b with
 | false=>trivial
 | true =>
  obtain⟨x,rfl,l⟩:=h;unfold GI at r;exact⟨x,r,l⟩
theorem S.pd{K:Zf}{G:Gf}{δ:En}{P:List (D×V)}{σ:L2.St}{H:Hp}{b:Bool}{d:D}{v:V}(s:S K G δ ((d,v)::P) σ H)(h:pdB b d):pyB b v:=let ⟨_,x⟩:=s;h.rep (x.pnd (d,v) (GT ..))
def dXm(c f:Str)(b:Bool)(ta:GH)(δ:En)(R:W->En->Prop):Prop:=ta δ (wd λd δ1=>pdB b d/\R (.d (.exn c f d)) δ1)
theorem FV(em:EM X.K C R fI)(F:fG X.prog X.w X.K X.mg X.base CX0 k fI fd ps (spI C fld b))(hr:cK (k+1) X.A)(hg:Gl X x)(hm:X.mg x=some (.ref C))(hb:eC X.K fd ps [])(hns:PySem.W.nsIn X.K mainGlobals x=some (some (.ref C)))(ha:DE X a ta)
  (hdb:(x==("__debug__":Str))=false:=by decide) (he:starEach [a] X.env=(false,eval a X.env)::starEach [] X.env:=by rfl) (hpl:(backTo cpos (starEach [] X.env)).any (·.1)=false:=by rfl) :
  DE X (.Call (.Name x p) [a] [] cpos) (dXm x fld b ta) :=
 PE.imp (pX em F hr hg hm hb (aM ha ci he) hdb he hpl) λσ H Q hu=>by
  obtain⟨G,δ,P,R',s,h,k,_⟩:=hu;refine up.mk s h λd δ1 h1 v H1 s1=>⟨v,rfl,s1.pd h1.1,λe dx he hdx hne=>?_⟩;exact k _ δ1 h1.2 _ _ (GI.made s1 (by simp) (λq hq=>by simp[hq]) he hdx hne (.inr rfl) hns)
end
theorem upd2:GE (GE H e a) e b=GE H e b:=funext λz=>by
 by_cases h:z=e
 ·rw[h,aw,aw]
 ·rw[aH h,aH h,aH h]
section
variable {X:Cx} {pos:Pos} {a:Expr} {ta:GH} {C R fI:Addr} {fld:Str} {k:Nat} {fd:FuncData} {ps:Zb} {x:Str} {p cpos:Pos} {t:TA} {b:Bool}
def A8(X:Cx)(C:Addr)(fld:Str)(b:Bool)(t:TA):TS:=λ_ σ H=>xO C fld b t σ H λv H3=>∃e dx y H2,v=.ref e/\H3=GE (GE H2 dx (.xd [(fld,y)])) e (ug e C dx)/\XEs X (.ref e) (some dx) (GE (GE H2 dx (.xd [(fld,y)])) e (XAt e C dx))
theorem sC(ek:EK X.K C R fld)(em:EM X.K C R fI)(F:fG X.prog X.w X.K X.mg X.base CX0 k fI fd ps (spI C fld b))(hr:cK (k+1) X.A)(hg:Gl X x)(hm:X.mg x=some (.ref C))(hb:eC X.K fd ps [])(ha:PA X [a] t)(hc:X.calm=true)
  (hdb:(x==("__debug__":Str))=false:=by decide) (he:starEach [a] X.env=(false,eval a X.env)::starEach [] X.env:=by rfl) (hpl:(backTo cpos (starEach [] X.env)).any (·.1)=false:=by rfl) :
  PS X (.Raise (some (.Call (.Name x p) [a] [] cpos)) none pos) (A8 X C fld b t):=by
 intro pins s1 σ H1 D I h;obtain⟨Nn,NR,mN,mR,c2,_⟩:=ek.ex;rw[arm_exec_Raise];refine GM (Kg (DH (C:=C) (N:=Nn) (R:=R) (NR:=NR) (mN:=mN) (mR:=mR) (I.ok.hd hc) (GM (Gj (pX em F hr hg hm hb ha hdb he hpl pins s1 σ H1 _ I h) λv s2 hs2=>?_))));obtain⟨v',H3,I3,r,e,dx,y,H2,rfl,rfl,hE⟩:=hs2
 cases r
 obtain⟨a',aa⟩:=(I3.hok e _ aw).1;obtain⟨hh,g,d,tk,os⟩:=s2;have I4:=I3.write (t':=tk) (x:=e) (e:=e) (o:=XAt e C dx) (h':=hh) (by rw[aw];trivial) (.inl rfl) (λ_ _ _ q=>q) ⟨_,aa⟩ ⟨⟨a',.none,aa⟩,⟨_,aa⟩,λh1 h2 p k=>by obtain⟨a,t,p⟩:=p;exact⟨a,t,k _ p⟩⟩;rw[upd2] at I4;exact GM (Kg (GQ ⟨e,some dx,a',rfl,c2 _ I3.kIn,aa,hE e C dx pins _ rfl rfl ⟨σ,a',.none,I4,aa,.inl rfl,(λT z=>nomatch z),aw⟩⟩))
def sH(c f:Str)(b:Bool)(ta:GH)(R:aP)(δ:En):Prop:=ta δ (wd λd _=>pdB b d/\R.ex c f d)
theorem wL(ek:EK X.K C R fld)(em:EM X.K C R fI)(F:fG X.prog X.w X.K X.mg X.base CX0 k fI fd ps (spI C fld b))(hr:cK (k+1) X.A)(hg:Gl X x)(hm:X.mg x=some (.ref C))(hb:eC X.K fd ps [])(hns:PySem.W.nsIn X.K mainGlobals x=some (some (.ref C)))(ha:DE X a ta)(hc:X.calm=true:=by rfl)
  (hdb:(x==("__debug__":Str))=false:=by decide) (he:starEach [a] X.env=(false,eval a X.env)::starEach [] X.env:=by rfl) (hpl:(backTo cpos (starEach [] X.env)).any (·.1)=false:=by rfl) :
  DS X (.Raise (some (.Call (.Name x p) [a] [] cpos)) none pos) (sH x fld b ta) :=
 PS.imp (sC ek em F hr hg hm hb (aM ha ci he) hc hdb he hpl) λE σ H hu=>by
  obtain⟨G,δ,P,R',s,h,k1,k2,_⟩:=hu;refine up.mk s h λd δ1 h1 v H1 s1=>⟨v,rfl,s1.pd h1.1,λe dx he hdx hne=>⟨e,dx,v,H1,rfl,rfl,?_⟩⟩;exact k2.2.2 x fld d h1.2 e C dx δ1 σ _ (GI.made s1 (by simp) (λq hq=>by simp[hq]) he hdx hne (.inl rfl) hns) aw
end
end DL
namespace DL
open PySem PySem.Spec PyProof.Rows L2
structure XG(K:Zf)(C:Addr):Prop where
 ga:PySem.W.findIn K (.ref C) "__getattribute__"=some (some (.builtin "BaseException.__getattribute__"))
 gh:PySem.W.findIn K (.ref C) "__getattr__"=some none
 be:PySem.W.mroIn K C (.type "BaseException")=some true
 ob:PySem.W.mroIn K C (.type "object")=some true
 hd:PySem.W.hasDictIn K C=true
 cl:PySem.W.findIn K (.ref C) "__class__"=some (some (.builtin "object.__class__"))
 cg:PySem.W.specialIn K (.builtin "object.__class__") "__get__"=some (some (.builtin "getset_descriptor.__get__"))
 ct:PySem.W.takesIn K (.builtin "object.__class__")=some true
section
theorem Ao{prog:Program}{w:World}{A:Around}{E:Value->Shared->Prop}{s:Shared}{K:Zf}{x C:Addr}{ox:Obj}{od:Option Obj}{name:Str}{tk:Tok}{v:Value}{Q:Fin->Shared->Prop}(X:K.In s.heap)(I:PySem.W.InstAt s.heap x ox C od)(hf:PySem.W.findObj K C od name=some (.value v))(h:Q (.done (.ret v)) s) :
  wpAny (model prog w) A (Builtin.«object.__getattribute__» ⟨[.ref x,.str name tk],[]⟩) Q E s:=by
 obtain⟨hh,g,d,t,os⟩:=s;have L0:=I.type (M:=model prog w);have L1:=PySem.W.looks_find (M:=model prog w) X I hf;refine GM (GQ (GM (GQ (GM (L0.at (GM (L1.at ?_)))))));exact GQ h
theorem AR{prog:Program}{w:World}{A:Around}{E:Value->Shared->Prop}{s:Shared}{K:Zf}{x C:Addr}{ox:Obj}{od:Option Obj}{tk:Tok}{Q:Fin->Shared->Prop}(X:K.In s.heap)(g:XG K C)(I:PySem.W.InstAt s.heap x ox C od)(h:Q (.done (.ret (.ref C))) s) :
  wpAny (model prog w) A (Builtin.«object.__getattribute__» ⟨[.ref x,.str "__class__" tk],[]⟩) Q E s:=by
 have hf:PySem.W.findObj K C od "__class__"=some (.bind (.builtin "getset_descriptor.__get__") (.builtin "object.__class__")):=by
  obtain⟨cd,hc,_⟩:=PySem.W.any_some g.hd;unfold PySem.W.findObj;rw[hc,Option.bind_some,g.cl,Option.bind_some];simp[g.cg,g.ct]
 have L0:=I.type (M:=model prog w)
 have L1:=PySem.W.looks_find (M:=model prog w) X I hf
 obtain⟨hh,gg,d,t,os⟩:=s;refine GM (GQ (GM (GQ (GM (L0.at (GM (L1.at ?_)))))));show wpAny _ _ (holding [Value.builtin "object.__class__"] (call (.builtin "getset_descriptor.__get__") [.builtin "object.__class__",.ref x,.ref C]) >>= ret) _ _ _;exact GM (Iz (Kr (PySem.W.class_get (s:=⟨hh,gg,d,t,os⟩) X I g.ob (GQ h))))
theorem ua{A:Around}{E:Value->Shared->Prop}{s:Shared}{K:Zf}{x C:Addr}{ox:Obj}{od:Option Obj}{M:Model}{nameV:Value}{Q:Unit->Shared->Prop}(X:K.In s.heap)(g:XG K C)(I:PySem.W.InstAt s.heap x ox C od)(hq:Q () s):wpAny M A (checkBuiltinCall "BaseException.__getattribute__" ⟨[.ref x,nameV],[]⟩) Q E s:=by
 obtain⟨hh,gg,d,t,os⟩:=s;have L0:=I.type (M:=M);have L3:=PySem.W.looks_mroIn (M:=M) X g.be;have hk:builtinKind "BaseException.__getattribute__"=some .slot:=by decide +kernel
 have aa:splitId "BaseException.__getattribute__"=some ("BaseException","__getattribute__"):=by decide +kernel
 have ha:=PySem.F.args_bexc_ga (.ref x) nameV
 simp only[checkBuiltinCall,hk,aa];refine GM ?_;unfold isInstance
 repeat (first | (with_reducible refine L0.at ?_) | (with_reducible refine L3.at ?_) | wp_step)
 exact hq
theorem yB{prog:Program}{w:World}{A:Around}{E:Value->Shared->Prop}{s:Shared}{K:Zf}{x C:Addr}{ox:Obj}{od:Option Obj}{name:Str}{tk:Tok}{v:Value}{fill expr:Bool}{Q:Value->Shared->Prop}(X:K.In s.heap)(g:XG K C)(I:PySem.W.InstAt s.heap x ox C od)(hv:PySem.W.handedIn v=true)
  (body:∀(A:Around) (E:Value->Shared->Prop) (Q:Fin->Shared->Prop),Q (.done (.ret v)) s->wpAny (model prog w) A (Builtin.«object.__getattribute__» ⟨[.ref x,.str name tk],[]⟩) Q E s) (h:Q v s) :
  wpAny (model prog w) A (getAttrBy (.ref x) (.str name tk) fill expr) Q E s:=by
 obtain⟨hh,gg,d,t,os⟩:=s;have L0:=I.type (M:=model prog w);have L1:=PySem.W.looks_findIn (M:=model prog w) X g.ga;have L2:=PySem.W.looks_findIn (M:=model prog w) X g.gh;have f3:=PySem.F.attrBase_ValueError.ga.bind (.ref x);have ab:(expr&&onTheHeap (Value.builtin "BaseException.__getattribute__"))=false:=by cases expr<;>rfl
 have aa:(Value.builtin "BaseException.__getattribute__"==Value.builtin "object.__getattribute__")=false:=by decide +kernel
 have ah:(onTheHeap (Value.ref C)&&Value.builtin "BaseException.__getattribute__"==Value.builtin "object.__getattribute__")=false:=by rw[aa];rfl
 repeat (any_goals (first | assumption | (with_reducible refine L0.at ?_) | (with_reducible refine L1.at ?_) | (with_reducible refine L2.at ?_) | wp_step))
 refine Jz PySem.F.attrBase_ValueError.ga.plain PySem.F.entry_bexc_ga (ua X g I (body _ _ _ ?_));show wpAny _ _ (handedOut v) _ _ _;rw[PySem.W.handedOut_of hv];exact GQ h
theorem xget{prog:Program}{w:World}{A:Around}{E:Value->Shared->Prop}{s:Shared}{K:Zf}{x C:Addr}{ox:Obj}{od:Option Obj}{name:Str}{v:Value}{expr:Bool}{Q:Value->Shared->Prop}(X:K.In s.heap)(g:XG K C)(I:PySem.W.InstAt s.heap x ox C od)(hv:PySem.W.handedIn v=true)
  (body:∀(A:Around) (E:Value->Shared->Prop) (Q:Fin->Shared->Prop),Q (.done (.ret v)) { s with toks:=s.toks+1 }->wpAny (model prog w) A (Builtin.«object.__getattribute__» ⟨[.ref x,.str name s.toks],[]⟩) Q E { s with toks:=s.toks+1 })
  (h:Q v { s with toks:=s.toks+1 }):wpAny (model prog w) A (getAttr (.ref x) name expr) Q E s:=by
 unfold getAttr;exact GM (wpAny_mkText (yB (s:={ s with toks:=s.toks+1 }) X g I hv body h))
theorem xget?{prog:Program}{w:World}{A:Around}{E:Value->Shared->Prop}{s:Shared}{K:Zf}{x C:Addr}{ox:Obj}{od:Option Obj}{name:Str}{v:Value}{Q:Zd->Shared->Prop}(X:K.In s.heap)(g:XG K C)(I:PySem.W.InstAt s.heap x ox C od)(hv:PySem.W.handedIn v=true)
  (body:∀(A:Around) (E:Value->Shared->Prop) (Q:Fin->Shared->Prop),Q (.done (.ret v)) { s with toks:=s.toks+1 }->wpAny (model prog w) A (Builtin.«object.__getattribute__» ⟨[.ref x,.str name s.toks],[]⟩) Q E { s with toks:=s.toks+1 })
  (h:Q (some v) { s with toks:=s.toks+1 }):wpAny (model prog w) A (getAttr? (.ref x) name) Q E s:=by
 unfold getAttr? getAttrBy?;exact GM (wpAny_mkText (GM (Kh (yB (s:={ s with toks:=s.toks+1 }) X g I hv body (GQ h)))))
end
theorem A6(n:Nat):∃h:Heap,h.objs.size=n:=by
 induction n with
 | zero=>exact⟨{ objs:=#[] },rfl⟩
 | succ n ih =>
  obtain⟨h,e⟩:=ih;exact⟨h.push { cls:=.type "tuple",data:=.seq #[] },by rw[HN,e]⟩
theorem yU(h:XAt e C dx=XAt e C' dx'\/XAt e C dx=ug e C' dx'):C=C'/\dx=dx':=by
 obtain⟨g,hg⟩:=A6 e;have q:(g.push (GD C (some dx) .none .none)).get? e=some (GD C (some dx) .none .none):=by
  rw[<- hg];exact G5 g rfl
 have p:∃a t,(g.push (GD C (some dx) .none .none)).get? e=some (GD C' (some dx') a t):=by
  rcases h with h | h
  ·have z:=congrFun (HO.ext.inj h) (g.push (GD C (some dx) .none .none))
   exact z.mp ⟨_,_,q⟩
  ·have z:=congrFun (HO.ext.inj h) (g.push (GD C (some dx) .none .none))
   obtain⟨a,r⟩:=z.mp ⟨_,_,q⟩;exact⟨a,.none,r⟩
 obtain⟨a,t,r⟩:=p;rw[q] at r;have r:=G4 r;exact⟨Value.ref.inj (Ji Obj.cls r),G4 (Ji Obj.dict r)⟩
section
theorem Sx.raised{K:Zf}{G:Gf}{A:Addr->Prop}{δ:En}{P:List (D×V)}{σ σ':L2.St}{H:Hp}{i j n:Nat}{c f:Str}{d:D}{e:Addr}(s:Sx K G A δ ((.exn c f d,.ref e)::P) σ H)(hl:σ'.length=n)(hij:i≠j)(hn:i<n):Sx K G A ((List.replicate n .no).set i (.dat (.exn c f d))) P (((σ'.set j (some (.ref e))).set i (some (.ref e))).set j none) H:=by
 have aa:∀(k:Nat) (y:Sl),y≠.no->((List.replicate n Sl.no).set i (.dat (.exn c f d)))[k]?=some y->i=k/\y=.dat (.exn c f d):=λk y hy q=>by
  by_cases hk:i=k
  ·subst hk;rw[Hr (by simpa using hn)] at q;exact⟨rfl,(G4 q).symm⟩
  ·rw[Hv hk,HI] at q
   split at q
   ·exact absurd (G4 q).symm hy
   ·cases q
 refine⟨s.old,s.stay,s.m0,s.pm,s.new,s.thr,by simp[hl],λk d' q=>?_,λk a d' q=>?_,λk l a d' e' q _=>?_,λp hp=>s.pnd p (GP _ hp)⟩
 ·obtain⟨rfl,z⟩:=aa k _ (by simp) q
  cases z
  refine⟨.ref e,?_,s.pnd _ (GT ..)⟩;rw[Hv (IF hij),Hr (by simp[hl,hn])]
 ·obtain⟨_,z⟩:=aa k _ (by simp) q
  cases z
 ·obtain⟨_,z⟩:=aa k _ (by simp) q
  cases z
end
def dTry(cs:Zb)(i j:Nat)(tb:TDS)(R:aP)(δ:En):Prop:=(i<δ.length/\j<δ.length)/\tb { R with ex:=λc f d=>c∈cs/\R.nx ((List.replicate δ.length .no).set i (.dat (.exn c f d))) } δ
def nG(K:Zf)(R:Addr)(cs:Zb):Prop:=∀c∈cs,∀C,PySem.W.nsIn K mainGlobals c=some (some (.ref C))->∃N NR mN mR,∀h,K.In h->C2 h C N R NR mN mR
section
theorem Ct(i j:Nat)(hst:X.stack=X.env::X.outer/\X.env.frame=some X.env.locals)(hN:X.N.Nodup)(hij:i≠j)(hg:Gl X xR)(hm:X.mg xR=some (.ref R))(hcs:nG X.K R cs)
  (hb:∀(pins:List (Addr×Obj)) (E:Value->Shared->Prop),DSs (X.inTry pins E) body tb) (hj:X.N[j]?=some n:=by rfl) (hk:X.env.scope.names.lookup n=some .local :=by rfl) (hi:X.N[i]?=some y:=by rfl) (hki:X.env.scope.names.lookup y=some .local :=by rfl)
  (hdb:(xR==("__debug__":Str))=false:=by decide) (hd:(n==("__debug__":Str))=false:=by decide) (hcd:(n==("__classdict__":Str))=false:=by decide)
  (hs:∀A' E',swapsWith (.Name n p2) (some (.Name y p1)) p3.line (X.hdl A' E').env=pure false:=by intro _ _;rfl) :
  DS X (.Try body [.ExceptHandler (some (.Name xR np)) (some n) [.Assign [.Name y p1] (.Name n p2) p3] hpos] [] [] pos) (dTry cs i j tb) :=
 PS.imp (Dh (tb:=λpins E=>upS (X.inTry pins E) tb) hst hN hj hk hg hm hb (λA' E'=>hV (jH (X:=X.hdl A' E') (i:=i) hN hi (.inl hki) (bA (X:=X.hdl A' E') (i:=j) hj (.inl hk) hd hcd) (hs A' E') (.inr hki))) hdb) λE σ H hu=>by
  obtain⟨G,δ,P,R0,s,⟨⟨ah,aj⟩,h⟩,k1,k2,k3,k4,k5⟩:=hu;have aa:δ.length=σ.length:=let ⟨_,x⟩:=s;x.len;refine⟨λev dxo H'=>∃c f d e C dx δ' σ',ev=.ref e/\dxo=some dx/\c∈cs/\R0.nx ((List.replicate δ.length .no).set i (.dat (.exn c f d)))/\S X.K G δ' ((.exn c f d,.ref e)::P) σ' H'/\H' e=some (XAt e C dx),?_,?_,?_⟩
  ·rintro e C dx H' hX ⟨c,f,d,e',C',ab,δ',σ',q1,q2,hc,_,⟨A,x⟩,hX'⟩
   cases q1
   cases q2
   have rp:=x.pnd (.exn c f d,.ref e) (GT ..)
   unfold GI at rp;obtain⟨y,xr,_⟩:=rp;obtain⟨e2,C2,ao,q,_,_,ho,_,ai⟩:=xr.ex
   cases q
   have z:=yU (ho.imp (λz=>G4 (hX.symm.trans z)) λz=>G4 (hX.symm.trans z))
   rw[z.1];exact hcs c hc C2 ai
  ·intro pins E1 hE;refine⟨G,δ,P,_,s,h,k1,⟨k2.1,k2.2.1,λc f d hcn e C dx δ' σ' H' s' hX=>?_⟩,k3,k4,k5⟩;intro e' C' ab an s1 q1 q2 L
   cases q1
   cases q2
   obtain⟨σ1,a,t,I1,he,ht,hT,al⟩:=L.ex;refine hE _ _ ⟨σ1,H',e,C',dx,a,t,rfl,sK I1,he,ht,λT z=>?_,al,c,f,d,e,C,dx,δ',σ',rfl,rfl,hcn.1,hcn.2,s',hX⟩;obtain⟨z1,z2,z3,z4,z5⟩:=hT T z;exact⟨z1,z2,z3,z4,λp hp=>z5 p (Hf _ hp)⟩
  ·rintro σ' H' e C dx hl hX ⟨c,f,d,e',C',ab,δ',σ'',q1,q2,hc,hn,⟨A,x⟩,hX'⟩
   cases q1
   cases q2
   refine⟨.ref e,?_,?_⟩
   ·rw[Hr (by rw[hl,<- aa];exact aj)]
   ·exact k1 _ hn _ H' ⟨A,x.raised (by rw[hl,aa]) hij ah⟩
end
def tFs(te:TE):TE:=λσ H Q=>te σ H λv H1=>∃x,v=.str x/\x.length<=100/\∀y,Q (.str y) H1
section
theorem AF{j}(he:PE X e te)(hc:c.length<=1000:=by decide +kernel):PE X (.JoinedStr [.Constant (.str c) j p1,.FormattedValue e (-1) none p2] pos) (tFs te):=by
 intro pins s σ H Q I h;have ec:(Str.empty++c).length<=1000:=by rw[strLen_append];exact GS (Nat.le_of_eq (by rw[show Str.empty.length=0 from rfl,Nat.zero_add])) hc
 refine JoinedStr_many (joinParts_cons (Gj (rg (x:=c) (j:=j) (pos:=p1) pins s σ H (λv H1=>v=.str c/\tFs te σ H1 Q) I ⟨rfl,h⟩) λu s1 hs1=>?_));obtain⟨v,H1,I1,r,rfl,h1⟩:=hs1;obtain⟨t,rfl⟩:=r;refine⟨GS ec (by decide),joinParts_cons (FormattedValue_plain (Gj (he pins s1 σ H1 _ I1 h1) λu2 s2 hs2=>?_))⟩;obtain⟨v2,H2,I2,r2,x,rfl,hx,q⟩:=hs2;obtain⟨t2,rfl⟩:=r2;refine formatField_str (λt' tk=>?_) (GS hx (by decide));have e2:(Str.empty++c++x).length<=2000:=by rw[strLen_append];omega
 exact⟨GS e2 (by decide),joinParts_nil ⟨.str _,H2,(I2.tok tk).tok _,⟨_,rfl⟩,q _⟩ (GS e2 (by decide))⟩
end
structure Exc(P:Program)(w:World)(K:Zf)(mg:Str->Zd)(base:Heap)(k:Nat)(x f:Str)(b:Bool):Prop where
 ex:∃(C R fI:Addr) (fd:FuncData) (ps:Zb),EK K C R f/\EM K C R fI/\fG P w K mg base CX0 k fI fd ps (spI C f b)/\eC K fd ps []/\mg x=some (.ref C)/\PySem.W.nsIn K mainGlobals x=some (some (.ref C))
section
theorem de_x(E:Exc X.prog X.w X.K X.mg X.base k x f b)(hr:cK (k+1) X.A)(hg:Gl X x)(ha:DE X a ta)
  (hdb:(x==("__debug__":Str))=false:=by decide) (he:starEach [a] X.env=(false,eval a X.env)::starEach [] X.env:=by rfl) (hpl:(backTo cpos (starEach [] X.env)).any (·.1)=false:=by rfl) :
  DE X (.Call (.Name x p) [a] [] cpos) (dXm x f b ta):=by
 obtain⟨C,R,fI,fd,ps,ek,em,F,hb,hm,aa⟩:=E.ex;exact FV em F hr hg hm hb aa ha hdb he hpl
theorem ds_x(E:Exc X.prog X.w X.K X.mg X.base k x f b)(hr:cK (k+1) X.A)(hg:Gl X x)(ha:DE X a ta)(hc:X.calm=true:=by rfl)
  (hdb:(x==("__debug__":Str))=false:=by decide) (he:starEach [a] X.env=(false,eval a X.env)::starEach [] X.env:=by rfl) (hpl:(backTo cpos (starEach [] X.env)).any (·.1)=false:=by rfl) :
  DS X (.Raise (some (.Call (.Name x p) [a] [] cpos)) none pos) (sH x f b ta):=by
 obtain⟨C,R,fI,fd,ps,ek,em,F,hb,hm,aa⟩:=E.ex;exact wL ek em F hr hg hm hb aa ha hc hdb he hpl
end
def mNs(K:Zf)(N:Addr):Str->Zd:=λx=>match K.lookup N with
 | some ⟨_,_,.dict es _,_⟩=>nsFind es x
 | _=>none
theorem ld.ns{K:Zf}{N:Addr}{h:Heap}(q:ld K N=true)(X:K.In h):h.Ns N (mNs K N):=by
 unfold ld at q
 split at q
 ·rename_i c d es n sl e
  refine⟨_,es,n,X _ _ e,rfl,λen hen=>?_,λname=>?_⟩
  ·have:=Ka.mp q en (by simpa using hen)
   split at this
   ·rename_i y t z
    exact⟨y,t,z⟩
   ·cases this
  ·unfold mNs;rw[e]
 ·cases q
theorem i7{K:Zf}{N:Addr}{x:Str}{r:Zd}(q:PySem.W.nsIn K N x=some r):mNs K N x=r:=by
 unfold PySem.W.nsIn at q;unfold mNs
 split at q
 ·rename_i c d es n sl e
  rw[e];show nsFind es x=r;unfold nsFind findBy;rw[<- Array.find?_toList]
  split at q
  ·rename_i en he
   rw[he]
   cases q
   rfl
  ·rename_i he
   rw[he]
   split at q
   ·cases q
   ·cases q
    rfl
 ·cases q
theorem RcK.rk{K:Zf}{xR:Str}{R NR:Addr}(r:RcK K xR R NR):RK K R:=⟨r.sp,_,r.rd,r.fc⟩
section
theorem KCls.c2{K:Zf}{xR:Str}{R NR:Addr}{C N:Addr}(c:KCls K C N (.ref R::bmV))(r:RcK K xR R NR)(ns:ld K N=true):∀h,K.In h->C2 h C N R NR (mNs K N) (mNs K NR):=λh X=>by
 obtain⟨nm,q,bs,sn,sub,ab,aj,dd,k0,k1,k2,k3,k5,hC⟩:=c.ex;obtain⟨an,q',ao,aq,aa,al,ah,ai,j0,j1,j2,j3,j5,hR⟩:=r.cl.ex;exact⟨⟨nm,q,bs,sn,sub,ab,aj,dd,k0,k1,k2,k3,k5,X _ _ hC⟩,⟨an,q',ao,aq,aa,al,ah,ai,j0,j1,j2,j3,j5,X _ _ hR⟩,ld.ns ns X,ld.ns r.ns X,i7 r.ini⟩
theorem XcK.exc{K:Zf}{x f xR q:Str}{R NR:Addr}{st:Stmt}{P:Program}{w:World}{mg:Str->Zd}{base h:Heap}{k:Nat}{b:Bool}{ps:Zb}(e:XcK K x f R NR q st)(r:RcK K xR R NR)(X:K.In h)(G:h.Ns mainGlobals mg)(fb:typeLookup (.type "ValueError") f=pure none)
  (hini:∀(C fI:Addr) (fd:FuncData),Fun K "__init__" q st fI fd->EK K C R f->RK K R->mg xR=some (.ref R)->fG P w K mg base CX0 k fI fd ps (spI C f b))
  (hb:∀(kV doc pm:Value) (an:Option Addr) (cdv ct:Value) (us:Zc),us.length=ps.length->bindArgs (PySem.W.fnOf "__init__" q (bS st) (aW st) (am st) .none kV doc pm an cdv ct) ⟨us,[]⟩=pure (ps.zip us)) :
  Exc P w K mg base k x f b:=by
 obtain⟨C,N,fI,h1,h2,h3,h4,h5,h6,h7,h8,od,kV,dc,pm,an,cd,ct,sl,h9,aa,ab⟩:=e.ex;have F:Fun K "__init__" q st fI (PySem.W.fnOf "__init__" q (bS st) (aW st) (am st) .none kV dc pm an cd ct):=⟨⟨_,od,kV,dc,pm,an,cd,ct,sl,rfl,h9,aa⟩,ab⟩;have ek:EK K C R f:=⟨⟨N,NR,mNs K N,mNs K NR,h2.c2 r h3,i7 h5,i7 r.sa,i7 h6,i7 h7⟩,fb⟩;exact⟨C,R,fI,_,ps,ek,⟨⟨N,NR,mNs K N,mNs K NR,h2.c2 r h3,i7 h4⟩,h8,_,h9,rfl⟩,hini C fI _ F ek r.rk (IB X G r.at_),F.binds hb,IB X G h1,h1⟩
theorem XcK.under{K:Zf}{x f xR q:Str}{R NR:Addr}{st:Stmt}(e:XcK K x f R NR q st)(r:RcK K xR R NR):nG K R [x]:=λc hc C hC=>by
 obtain⟨C',N,fI,h1,h2,h3,_⟩:=e.ex
 cases GX.mp hc
 rw[h1] at hC
 cases hC
 exact⟨N,NR,_,_,h2.c2 r h3⟩
theorem nG.app{K:Zf}{R:Addr}{cs ds:Zb}(h:nG K R cs)(h':nG K R ds):nG K R (cs++ds):=λc hc=>(Hb.mp hc).elim (h c) (h' c)
end
end DL
namespace DL
open PySem PySem.Spec PyProof.Rows L2
theorem xgB.xg{K:Zf}{C:Addr}(h:xgB K C=true):XG K C:=by
 unfold xgB at h;simp only[Bool.and_eq_true,beq_iff_eq] at h;obtain⟨⟨⟨⟨⟨⟨⟨h1,h2⟩,h3⟩,h4⟩,h5⟩,h6⟩,h7⟩,h8⟩:=h;exact⟨h1,h2,h3,h4,h5,h6,h7,h8⟩
theorem qu.at{K:Zf}{x f:Str}{C:Addr}(h:qu K=true)(hx:(x,f)∈jz)(hC:PySem.W.nsIn K mainGlobals x=some (some (.ref C))) :
  XG K C/\PySem.W.findIn K (.ref C) f=some none/\PySem.W.kitOne K (.ref C) (.type "ValueError")=some true/\PySem.W.kitOne K (.type "NoneType") (.ref C)=some false /\
   ∀y g C',(y,g)∈jz->PySem.W.nsIn K mainGlobals y=some (some (.ref C'))->PySem.W.kitOne K (.ref C) (.ref C')=some (x==y):=by
 have q:=Ka.mp h (x,f) hx
 simp only[hC,Bool.and_eq_true,beq_iff_eq] at q;obtain⟨⟨⟨⟨q1,q2⟩,q3⟩,q4⟩,q5⟩:=q;refine⟨xgB.xg q1,q2,q3,q4,λy g C' hy hC'=>?_⟩;have z:=Ka.mp q5 (y,g) hy;simp only[hC',beq_iff_eq] at z;exact z
def cD:Zb:=["NoQuotient","NoName","TooMany"]
theorem dP(h:x∈cD):∃f,(x,f)∈jz:=by
 simp only[cD,List.mem_cons,List.not_mem_nil,or_false] at h
 rcases h with rfl | rfl | rfl
 ·exact⟨"top",by simp[jz]⟩
 ·exact⟨"name",by simp[jz]⟩
 ·exact⟨"saying",by simp[jz]⟩
def xis(c:Str->Bool):D->Option Bool
 | .exn x _ _=>if cD.contains x then some (c x) else none
 | .non=>some false
 | _=>none
def dIsx(c:Str->Bool)(t:GH)(δ:En)(R:W->En->Prop):Prop:=t δ (wd λx δ1=>∃b,xis c x=some b/\R (.d (.bl b)) δ1)
theorem py{K:Zf}{e C:Addr}(g:XG K C):PySem.W.KitX K (.ref e) (.ref C) (λh=>∃ox od,PySem.W.InstAt h e ox C od) where
 ty:=λ_ _ _ ⟨_,_,I⟩=>I.type
 it:=λ_ _ X _=>by
  obtain⟨ab,aa,_⟩:=PySem.W.any_some g.hd;unfold PySem.W.clsIn at aa
  split at aa
  ·rename_i c' d' cd' sl' ho
   intro A' Q' E' s' k q;unfold isType loadHead;exact GM (wpAny_loadPart (k _ _ (X _ _ ho)) (GQ q))
  ·cases aa
 ne:=λh tp dd its n sl X htp=>by
  obtain⟨ab,aa,_⟩:=PySem.W.any_some g.hd;refine Bool.eq_false_iff.mpr λq=>?_;have e:C=tp:=Value.ref.inj (beq_iff_eq.mp q);subst e;unfold PySem.W.clsIn at aa
  split at aa
  ·rename_i c' d' cd' sl' ho
   have z:=(X _ _ ho).symm.trans htp
   cases z
  ·cases aa
 ca:=λ{prog w A E Q s} X ⟨ox,od,I⟩ k=>xget? X g I rfl (λA E Q h=>AR (s:={ s with toks:=s.toks+1 }) X g I h) k
section
theorem lP(I:L2.Inv X pins σ H s)(r:xy X.K M H c f v y):∃e C ox od,v=.ref e/\PySem.W.nsIn X.K mainGlobals c=some (some (.ref C))/\PySem.W.InstAt s.heap e ox C (some od)/\∃u,PySem.W.lookIn f od=some (some u)/\bB y u:=by
 obtain⟨e,C,dx,rfl,_,_,h1,h2,h3⟩:=r.ex;have ho:∃a t,s.heap.get? e=some (GD C (some dx) a t):=by
  rcases h1 with h1 | h1
  ·exact(I.hok e _ h1).1
  ·obtain⟨a,q⟩:=(I.hok e _ h1).1;exact⟨a,.none,q⟩
 obtain⟨a,t,ho⟩:=ho;obtain⟨mA,ns,aa⟩:=I.hok dx _ h2;obtain⟨od,ab,hl⟩:=u6 ns;have rf:=aa f;simp only[List.lookup,beq_self_eq_true] at rf;obtain⟨u,hu,ru⟩:=px.some_of (v:=y) (o:=mA f) rf;exact⟨e,C,_,od,rfl,h3,⟨ho,rfl,rfl,ab⟩,u,by rw[hl,hu],ru⟩
theorem uz(tab:qu X.K=true)(I:L2.Inv X pins σ H s)(r:GI X.K M H d v)(ru:bB v u)(hb:xis k d=some b)
  (h1:∀x∈cD,∀C,PySem.W.nsIn X.K mainGlobals x=some (some (.ref C))->PySem.W.kitOne X.K (.ref C) cv=some (k x)) (h2:PySem.W.kitOne X.K (.type "NoneType") cv=some false) (h:∀tk,Q (.bool b) { s with toks:=tk }) :
  wpAny (model X.prog X.w) A (call (.builtin "isinstance") [u,cv]) Q E s:=by
 unfold xis at hb
 split at hb
 ·rename_i x f x'
  split at hb
  ·rename_i hx
   cases hb
   have hx:x∈cD:=by simpa using hx
   unfold GI at r;obtain⟨y,xr,_⟩:=r;obtain⟨e,C,ox,od,rfl,aa,J,_⟩:=lP I xr
   cases ru
   obtain⟨f',hf⟩:=dP hx;exact PySem.W.kia_one (py (qu.at tab hf aa).1) I.kIn ⟨_,_,J⟩ (h1 x hx C aa) (λz=>nomatch z) h
  ·cases hb
 ·cases hb
  unfold GI at r;subst r
  cases ru
  exact PySem.W.kia_one PySem.W.kitx_none I.kIn True.intro h2 (λz=>nomatch z) h
 ·cases hb
end
section
variable {X:Cx} {a:Expr} {ta:GH} {p p2 p3 p4 pos:Pos}
def rIsx(K:Zf)(c:Str->Bool)(T:V->Hp->Prop):Zg->Hp->VK->Prop:=λvs H Q=>∃x y M d b,vs=[x,y]/\T y H/\GI K M H d x/\xis c d=some b/\Q (.bl b) H
theorem CQ(K:Zf):PySem.W.kitOne K (.type "NoneType") (.type "ValueError")=some false:=by with_unfolding_all rfl
theorem gj:bootBuiltins "ValueError"=some (.type "ValueError"):=by decide +kernel
theorem za(tab:qu X.K=true)(hg:Gl X "isinstance")(hm:X.mg "isinstance"=none)(hgT:Gl X "ValueError")(hmT:X.mg "ValueError"=none)(ha:DE X a ta)
  (he:starEach [a,.Name "ValueError" p2] X.env=(false,eval a X.env)::starEach [.Name "ValueError" p2] X.env:=by rfl) (he2:starEach [.Name "ValueError" p2] X.env=(false,eval (.Name "ValueError" p2) X.env)::starEach [] X.env:=by rfl)
  (hpl:(backTo pos (starEach [.Name "ValueError" p2] X.env)).any (·.1)=false:=by rfl) :
  DE X (.Call (.Name "isinstance" p) [a,.Name "ValueError" p2] [] pos) (dIsx (λ_=>true) ta):=by
 have cr:cq X (.builtin "isinstance") (rIsx X.K (λ_=>true) λy _=>y=.ty "ValueError"):=by
  intro pins s σ H xs us Q I r h;obtain⟨x,y,M,d,b,rfl,rfl,rx,hb,q⟩:=h;obtain⟨u,w',rfl,ru,aa⟩:=we r
  cases aa
  exact uz tab I rx ru hb (λx hx C hC=>let ⟨f,hf⟩:=dP hx;(qu.at tab hf hC).2.2.1) (CQ _) λtk=>⟨.bl _,H,I.tok _,rfl,q⟩
 exact PE.imp (eY cr hg hm dF (aM ha (aM (tf (v:=.ty "ValueError") hgT hmT gj rfl) ci he2) he) (by decide) (by decide) he hpl) λσ H Q ⟨G,δ,P,R,s,h,k,_⟩=>up.mk s h λd δ1 h1 v H1 s1=>by
  obtain⟨A,q⟩:=id s1;obtain⟨b,hb,hR⟩:=h1;exact⟨v,_,_,d,b,rfl,rfl,q.pnd (d,v) (by simp),hb,k _ δ1 hR _ H1 ((s1.sub (P':=P) λp hp=>GP _ hp).sc rfl)⟩
structure XAd(K:Zf)(mg:Str->Zd)(x:Str)(C:Addr):Prop where
 mg:mg x=some (.ref C)
 ns:PySem.W.nsIn K mainGlobals x=some (some (.ref C))
 mem:x∈cD
theorem hZ(tab:qu X.K=true)(hg:Gl X "isinstance")(hm:X.mg "isinstance"=none)(hgT:Gl X y)(hC:∃C,XAd X.K X.mg y C)(ha:DE X a ta)(hdT:(y==("__debug__":Str))=false:=by decide)
  (he:starEach [a,.Name y p2] X.env=(false,eval a X.env)::starEach [.Name y p2] X.env:=by rfl) (he2:starEach [.Name y p2] X.env=(false,eval (.Name y p2) X.env)::starEach [] X.env:=by rfl) (hpl:(backTo pos (starEach [.Name y p2] X.env)).any (·.1)=false:=by rfl) :
  DE X (.Call (.Name "isinstance" p) [a,.Name y p2] [] pos) (dIsx (λx=>x==y) ta):=by
 obtain⟨C,hC⟩:=hC;have cr:cq X (.builtin "isinstance") (rIsx X.K (λx=>x==y) λz _=>z=.ref C):=by
  intro pins s σ H xs us Q I r h;obtain⟨x,z,M,d,b,rfl,rfl,rx,hb,q⟩:=h;obtain⟨u,w',rfl,ru,aa⟩:=we r
  cases aa
  obtain⟨g,hg⟩:=dP hC.mem;exact uz tab I rx ru hb (λx hx C' hC'=>let ⟨f,hf⟩:=dP hx;(qu.at tab hf hC').2.2.2.2 y g C hg hC.ns) (qu.at tab hg hC.ns).2.2.2.1 λtk=>⟨.bl _,H,I.tok _,rfl,q⟩
 exact PE.imp (eY cr hg hm dF (aM ha (aM (iP (v:=.ref C) hgT hC.mg rfl hdT) ci he2) he) (by decide) (by decide) he hpl) λσ H Q ⟨G,δ,P,R,s,h,k,_⟩=>up.mk s h λd δ1 h1 v H1 s1=>by
  obtain⟨A,q⟩:=id s1;obtain⟨b,hb,hR⟩:=h1;exact⟨v,_,_,d,b,rfl,rfl,q.pnd (d,v) (by simp),hb,k _ δ1 hR _ H1 ((s1.sub (P':=P) λp hp=>GP _ hp).sc rfl)⟩
def tXf(K:Zf)(f:Str)(ta:TE):TE:=λσ H Q=>ta σ H λv H1=>∃M c y,xy K M H1 c f v y/\(c,f)∈jz/\Q y H1
theorem Fx(tab:qu X.K=true)(he:PE X e te)(hb:attributeBase e f X.env (eval e X.env)=eval e X.env):PE X (.Attribute e f pos) (tXf X.K f te):=by
 intro pins s σ H Q I h;refine AK hb (Gj (he pins s σ H _ I h) λu s1 hs1=>?_);obtain⟨v,H1,I1,r,M,c,y,xr,hc,q⟩:=hs1;obtain⟨e,C,ox,od,rfl,aa,J,u',hl,ru⟩:=lP I1 xr
 cases r
 obtain⟨g,hf,_⟩:=qu.at tab hc aa;refine xget I1.kIn g J (uG ru) (λA E Q h=>Ao (s:={ s1 with toks:=s1.toks+1 }) I1.kIn J (PySem.W.findObj_own g.hd hf rfl hl) h) ?_;exact⟨y,H1,I1.tok _,ru,q⟩
def dXf(f:Str)(t:GH)(δ:En)(R:W->En->Prop):Prop:=t δ (wd λx δ1=>∃c d,x=.exn c f d/\(c,f)∈jz/\R (.d d) δ1)
theorem sV(tab:qu X.K=true)(ha:DE X a ta)(hb:attributeBase a f X.env (eval a X.env)=eval a X.env:=by rfl):DE X (.Attribute a f pos) (dXf f ta) :=
 PE.imp (Fx tab ha hb) λσ H Q ⟨G,δ,P,R,s,h,k,_⟩=>up.mk s h λx δ1 h1 v H1 s1=>by
  obtain⟨c,d,rfl,hc,hR⟩:=h1;obtain⟨A,x⟩:=s1;have rp:=x.pnd (.exn c f d,v) (by simp);unfold GI at rp;obtain⟨y,xr,ry⟩:=rp;exact⟨_,c,y,xr,hc,k _ δ1 hR y H1 ⟨A,(x.sub (P':=P) λp hp=>GP _ hp).push ry⟩⟩
end
theorem uq(x:b6 P w H h a o):∃u,h.get? a=some u:=by
 cases o with
 | lst xs=>obtain⟨_,_,_,_,e⟩:=x;exact⟨_,e⟩
 | tup xs=>obtain⟨_,_,_,o,e,_⟩:=x;exact⟨_,e⟩
 | dK kvs=>obtain⟨_,_,_,_,o,_,_,e,_⟩:=x;exact⟨_,e⟩
 | dT kvs=>obtain⟨_,_,_,_,o,_,_,e,_⟩:=x;exact⟨_,e⟩
 | set S n=>obtain⟨o,_,_,_,e,_⟩:=x;exact⟨_,e⟩
 | ins C dx fs=>obtain⟨_,_,_,e,_⟩:=x;exact⟨_,e⟩
 | own _=>exact x
 | xd fs=>obtain⟨_,⟨o,_,_,e,_⟩,_⟩:=x;exact⟨_,e⟩
 | met f x'=>exact⟨_,x⟩
 | rng lo hi=>obtain⟨_,_,_,e⟩:=x;exact⟨_,e⟩
 | frz o u=>exact⟨_,x.1⟩
 | tbl ps=>exact⟨_,x⟩
 | ext φ=>exact x.2.1
section
variable {X:Cx} {pins:List (Addr×Obj)} {σ:L2.St} {H:Hp} {s:Shared} {R NR:Addr} {xR:Str} {Q:VK} {a:Expr} {ta:GH} {p p2 p3 p4 pos cpos:Pos}
theorem zl(rc:RcK X.K xR R NR)(I:L2.Inv X pins σ H s)(h:∀e,H e=none->Q (.ref e) (GE H e (jD e R))):wpAny (model X.prog X.w) X.A (call (.ref R) [u]) (EP X pins σ Q) X.xe s:=by
 obtain⟨nm,q,bs,sn,sub,ab,aa,dd,k0,k1,k2,k3,k5,hC⟩:=rc.cl.ex;obtain⟨hh,g,d,tk,os⟩:=s;refine wpAny_call_exc_sub IR (I.kIn _ _ hC) (ld.ns rc.ns I.kIn) (i7 rc.ini) (λh' e M=>?_) (by show 1<=sizeLine;decide);obtain⟨t,he,_⟩:=M.there;have hn:H e=none:=by
  cases z:H e with
  | none=>rfl
  | some o =>
   obtain⟨u,hu⟩:=uq (I.hok e _ z);rw[M.new] at hu
   cases hu
 have ne:∀b o,hh.get? b=some o->b≠e:=λb o hb z=>by rw[z,M.new] at hb;cases hb
 have nH:∀b v,H b=some v->b≠e:=λb v hb z=>by rw[z,hn] at hb;cases hb
 have I2:L2.Inv X pins σ (GE H e (jD e R)) ⟨h',g,d,tk,os⟩:=I.un (h':=h') (t':=tk) ⟨λb o hb _ _ _=>M.keeps b o hb,λb o hb _ _ _=>⟨o.slots,M.keeps b o hb⟩,λb o hb hu _=>by rw[aH (ne b o hb)];exact hu,λb o hb _=>⟨o,M.keeps b o hb⟩,
   λb xs hb=>by rw[aH (nH b _ hb)];exact hb,λb o u hb=>by rw[aH (nH b _ hb)];exact hb,λb ps hb=>⟨#[],by rw[aH (nH b _ hb),hb,Array.append_empty]⟩⟩ λb o z=>by
  by_cases hb:b=e
  ·subst hb;rw[aw] at z
   cases z
   exact om he
  ·rw[aH hb] at z;exact(I.hok b o z).stay (λc v _ hv=>M.keeps c v hv) (λc hc=>by rw[aH (nH c _ hc)];exact hc) λc xs hc=>by rw[aH (nH c _ hc)];exact hc
 exact⟨.ref e,_,I2,rfl,h e hn⟩
def tRaw(R:Addr)(t:TA):TE:=λσ H Q=>t σ H λvs H1=>∃y,vs=[y]/\∀e,H1 e=none->Q (.ref e) (GE H1 e (jD e R))
theorem Cc(rc:RcK X.K xR R NR)(hg:Gl X xR)(hm:X.mg xR=some (.ref R))(ha:PA X [a] t)
  (hdb:(xR==("__debug__":Str))=false:=by decide) (he:starEach [a] X.env=(false,eval a X.env)::starEach [] X.env:=by rfl) (hpl:(backTo cpos (starEach [] X.env)).any (·.1)=false:=by rfl) :
  PE X (.Call (.Name xR p) [a] [] cpos) (tRaw R t):=by
 intro pins s σ H Q I h;refine IE (fY I hg hm ?_ hdb);refine PySem.W.callWith_K (h₀:=X.base) I.ok.mod.kin rc.kp (Gj (ha cpos pins s σ H _ I h) λus s1 hs1=>?_) he hpl;obtain⟨vs,H1,I1,r,y,rfl,q⟩:=hs1;refine⟨I1.kIn,?_⟩
 cases r with
 | cons r0 r =>
  cases r
  exact zl rc I1 q
def dRaw(t:GH)(δ:En)(R:W->En->Prop):Prop:=t δ (wd λ_ δ1=>R (.d (.bl true)) δ1)
theorem Dq(rc:RcK X.K xR R NR)(gR:XG X.K R)(kR:PySem.W.kitOne X.K (.ref R) (.type "ValueError")=some true)(hg:Gl X "isinstance")(hm:X.mg "isinstance"=none)(hgR:Gl X xR)(hmR:X.mg xR=some (.ref R))(hgT:Gl X "ValueError")(hmT:X.mg "ValueError"=none)(ha:DE X a ta)
  (hdb:(xR==("__debug__":Str))=false:=by decide) (he0:starEach [a] X.env=(false,eval a X.env)::starEach [] X.env:=by rfl) (hpl0:(backTo cpos (starEach [] X.env)).any (·.1)=false:=by rfl)
  (he:starEach [.Call (.Name xR p3) [a] [] cpos,.Name "ValueError" p2] X.env=(false,eval (.Call (.Name xR p3) [a] [] cpos) X.env)::starEach [.Name "ValueError" p2] X.env:=by rfl) (he2:starEach [.Name "ValueError" p2] X.env=(false,eval (.Name "ValueError" p2) X.env)::starEach [] X.env:=by rfl)
  (hpl:(backTo pos (starEach [.Name "ValueError" p2] X.env)).any (·.1)=false:=by rfl) :
  DE X (.Call (.Name "isinstance" p) [.Call (.Name xR p3) [a] [] cpos,.Name "ValueError" p2] [] pos) (dRaw ta):=by
 have cr:cq X (.builtin "isinstance") (λvs H Q=>∃e,vs=[.ref e,.ty "ValueError"]/\H e=some (jD e R)/\Q (.bl true) H):=by
  intro pins s σ H xs us Q I r h;obtain⟨e,rfl,hX,q⟩:=h;obtain⟨u,w',rfl,ru,aa⟩:=we r
  cases aa
  cases ru
  obtain⟨a',ab⟩:=n9 I hX;exact PySem.W.kia_one (py gR) I.kIn ⟨_,none,⟨ab,rfl,rfl,True.intro⟩⟩ kR (λz=>nomatch z) λtk=>⟨.bl _,H,I.tok _,rfl,q⟩
 exact PE.imp (eY cr hg hm dF (aM (Cc rc hgR hmR (aM ha ci he0) hdb he0 hpl0) (aM (tf (v:=.ty "ValueError") hgT hmT gj rfl) ci he2) he) (by decide) (by decide) he hpl) λσ H Q ⟨G,δ,P,R',s,h,k,_⟩=>up.mk s h λd δ1 h1 v H1 s1=>by
  refine⟨v,rfl,λe hn=>⟨e,rfl,aw,?_⟩⟩;obtain⟨A,x⟩:=s1;have x2:=x.same (aF hn (jD e R));exact k _ δ1 h1 _ _ (S.sc (S.sub ⟨A,x2⟩ (P':=P) λp hp=>GP _ hp) rfl)
end
end DL
namespace DL
open PySem PySem.Spec PyProof.Rows L2
structure Er(P:Program)(w:World)(K:Zf)(mg:Str->Zd)(base:Heap)(R NR:Addr):Prop where
 rc:RcK K "RowError" R NR
 mR:mg "RowError"=some (.ref R)
 gR:XG K R
 kR:PySem.W.kitOne K (.ref R) (.type "ValueError")=some true
 tab:qu K=true
 un:nG K R cD
 q:Exc P w K mg base 1 "NoQuotient" "top" false
 n:Exc P w K mg base 1 "NoName" "name" true
 t:Exc P w K mg base 1 "TooMany" "saying" false
 aq:∃C,XAd K mg "NoQuotient" C
 an:∃C,XAd K mg "NoName" C
 a_t:∃C,XAd K mg "TooMany" C
abbrev rl(P:Program)(w:World)(K:PySem.W.Frag)(mg:Str->Option Value)(base:Heap)(q p f:Str)(b:Bool)(st:Stmt):Prop :=
 ∀(R C fI:Addr) (fd:FuncData),Fun K "__init__" q st fI fd->EK K C R f->RK K R->mg "RowError"=some (.ref R)->fG P w K mg base CX0 1 fI fd ["self",p] (spI C f b)
abbrev BF(q p:Str)(st:Stmt):Prop:=∀(kV doc pm:Value) (an:Option Addr) (cdv ct:Value) (us:List Value),us.length=2->bindArgs (PySem.W.fnOf "__init__" q (bS st) (aW st) (am st) .none kV doc pm an cdv ct) ⟨us,[]⟩=pure ((["self",p]:List Str).zip us)
theorem Es:typeLookup (.type "ValueError") "top"=pure none:=by rw[JT,IT];kernel_rfl
theorem zV:typeLookup (.type "ValueError") "name"=pure none:=by rw[JT,IT];kernel_rfl
theorem tD:typeLookup (.type "ValueError") "saying"=pure none:=by rw[JT,IT];kernel_rfl
theorem XcK.ad{K:Zf}{x f q:Str}{R NR:Addr}{st:Stmt}{h:Heap}{mg:Str->Zd}(e:XcK K x f R NR q st)(X:K.In h)(G:h.Ns mainGlobals mg)(hx:x∈cD):∃C,XAd K mg x C:=by
 obtain⟨C,N,fI,h1,_⟩:=e.ex;exact⟨C,IB X G h1,h1,hx⟩
theorem ErF.er{P:Program}{w:World}{K:Zf}{mg:Str->Zd}{base h:Heap}{s1 s2 s3:Stmt}(e:ErF K s1 s2 s3)(X:K.In h)(G:h.Ns mainGlobals mg)
  (i1:rl P w K mg base "NoQuotient.__init__" "top" "top" false s1) (b1:BF "NoQuotient.__init__" "top" s1) (i2:rl P w K mg base "NoName.__init__" "name" "name" true s2) (b2:BF "NoName.__init__" "name" s2)
  (i3:rl P w K mg base "TooMany.__init__" "saying" "saying" false s3) (b3:BF "TooMany.__init__" "saying" s3):∃R NR,Er P w K mg base R NR:=by
 obtain⟨R,NR,rc,gR,kR,aa,x1,x2,x3⟩:=e.ex;refine⟨R,NR,rc,IB X G rc.at_,xgB.xg gR,kR,aa,(x1.under rc).app ((x2.under rc).app (x3.under rc)),x1.exc rc X G Es (i1 R) b1,x2.exc rc X G zV (i2 R) b2,x3.exc rc X G tD (i3 R) b3,x1.ad X G ?_,x2.ad X G ?_,x3.ad X G ?_⟩<;>decide
theorem nU:∀vs H Q E,spI C f b vs H Q E->vs.length=(["self",p]:Zb).length:=λvs H Q E ⟨e,y,h,_⟩=>by rw[h];rfl
theorem uj(h:spI C f b vs H Q E) :
  tSeq (AE (AI C (tL (wE 0) (tL (tC x) tNil)))) (Bv C f (wE 0) (wE 1)) { nx:=λ_ H'=>Q .non H',rt:=Q } (start ["self",p] vs) H:=by
 obtain⟨e,y,rfl,_,hX,h⟩:=h;exact⟨.ref e,rfl,e,x,rfl,hX,y,rfl,.ref e,rfl,e,rfl,hX,h⟩
theorem wR(h:spI C f true vs H Q E) :
  tSeq (AE (AI C (tL (wE 0) (tL (tFs (wE 1)) tNil)))) (Bv C f (wE 0) (wE 1)) { nx:=λ_ H'=>Q .non H',rt:=Q } (start ["self",p] vs) H:=by
 obtain⟨e,y,rfl,⟨t,rfl,ht⟩,hX,h⟩:=h;exact⟨.ref e,rfl,.str t,rfl,t,rfl,ht,λz=>⟨e,.str z,rfl,hX,.str t,rfl,.ref e,rfl,e,rfl,hX,h⟩⟩
theorem vy.pure{P:Program}{w:World}{K:Zf}{mg:Str->Zd}{base:Heap}{k:Nat}{x:Str}{ps:Zb}{f:FE}(C:vy P w K mg base k x ps f):Cal P w K mg base k x ps (Gy K λds R=>f ds R λ_ _ _=>False):=by
 obtain⟨a,fd,F,b,kp,m⟩:=C.ex;refine⟨a,fd,⟨λvs H Q E h=>?_,λA outer s H args us vs Q E hr he hb hv h=>?_⟩,b,kp,m⟩
 ·obtain⟨M,ds,R,m,rs,h,k⟩:=h;exact F.len vs H Q (λ_ _ _=>False) ⟨M,ds,R,λ_ _ _=>False,m,rs,h,k,λ_ _ _ z=>z.elim⟩
 ·obtain⟨M,ds,R,m,rs,h,k⟩:=h;refine Jn (F.run A outer s H args us vs Q (λ_ _ _=>False) hr he hb hv ⟨M,ds,R,λ_ _ _=>False,m,rs,h,k,λ_ _ _ z=>z.elim⟩) λr s' q=>?_
  cases r with
  | error e =>
   obtain⟨_,_,_,_,_,_,_,_,_,_,_,_,_,_,_,z⟩:=q;exact z.elim
  | ok fl=>cases fl<;>exact q
theorem uM{P:Program}{w:World}{K:Zf}{mg:Str->Zd}{base:Heap}{x:Str}{st:Stmt}{ps:Zb}{f:FE}(F:Fd K mg x st ps)(k:Nat)(h:∀ds R RE,¬ f ds R RE):vy P w K mg base k x ps f:=by
 obtain⟨a,fd,Fu,b,m⟩:=F.ex;have no:∀vs H Q E,¬ spE K f vs H Q E:=λvs H Q E ⟨_,ds,R,RE,_,_,hf,_,_⟩=>h ds R RE hf;exact⟨a,fd,⟨λvs H Q E h=>absurd h (no vs H Q E),λA outer s H args us vs Q E _ _ _ _ h=>absurd h (no vs H Q E)⟩,b,Fu.kp,m⟩
theorem DE.nox(h:DE X.nox e t):DE X e t:=PE.nox h
section
end
end DL
namespace DL
open PySem PySem.Spec PyProof.Rows L2
section
variable {X:Cx} {pos:Pos} {a tg:Expr} {es:List Expr} {t:TDA} {f:FE} {g:TDG} {tb:TDS} {body:List Stmt}
def kFo(g:TDG)(tb:TDS)(R:aP)(δ1:En)(d:D):Prop:=qL d λxs=>∃I:Nat->En->Prop,I 0 δ1 /\
 (∀i x δ',xs[i]?=some x->I i δ'->g x δ' (tb { R with nx:=I (i+1),ct:=I (i+1),bk:=R.nx,tp:=False }))/\∀δ',I xs.length δ'->R.nx δ'
def BY(f:FE)(t:TDA)(g:TDG)(tb:TDS)(R:aP)(δ:En):Prop:=t δ λds δ1=>f ds (kFo g tb R δ1) R.ex
theorem sQ(hp:PassesOwn (model X.prog X.w) X.A X.env X.xe)(hc:X.calm=true)(C:vy X.prog X.w X.K X.mg X.base k x ps f)(hr:cK k X.A)(hg:Gl X x)(ha:DA X (a::es) t)(hgd:DG X tg g)(hb:DSs X body tb)(hdb:(x==("__debug__":Str))=false:=by decide)
  (he:starEach (a::es) X.env=(false,eval a X.env)::starEach es X.env:=by rfl) (hpl:(backTo cpos (starEach es X.env)).any (·.1)=false:=by rfl) (hs:∀y,foldedSetIterable (.Call (.Name x p) (a::es) [] cpos) X.env y=pure y:=by intro _;rfl) :
  DS X (.For tg (.Call (.Name x p) (a::es) [] cpos) body [] pos) (BY f t g tb) :=
 PS.imp (mG hp hc (oM (gL C hr hg ha hdb he hpl)) hgd hb hs) λE σ H ⟨G,δ,P,R,s,h,k1,k2,k3,k4⟩=>fA (Rv:=λd δ1=>kFo g tb R δ1 d) s h (λd δ1 h1 v H1 s1=>by
  replace h1:=qL.ex h1;obtain⟨xs,e,I,i0,aa,aj⟩:=h1;subst e;have ai:∀δ σ H,S X.K G δ ((.lst xs,v)::P) σ H->∃a vs,v=.ref a/\GL X.K H a vs/\vs.length=xs.length:=λδ σ H ⟨A,x⟩=>by
   have q:=x.pnd (.lst xs,v) (by simp)
   simp only[GI] at q;obtain⟨a,vs,e,_,l,r⟩:=q;exact⟨a,vs,e,GL.of l,(Reps.length _ _ r).symm⟩
  have ab:∃a vs,v=.ref a/\GL X.K H1 a vs/\vs.length=xs.length:=ai _ _ _ s1
  obtain⟨a,al,rfl,ah,an⟩:=ab;refine⟨a,rfl,⟨al,ah⟩,λi m σ H=>m=xs.length-i/\i<=xs.length/\∃δ,I i δ/\S X.K G δ ((.lst xs,.ref a)::P) σ H,⟨xs.length,by simp,Ir _,δ1,i0,s1⟩,?_⟩;rintro i m σ H ⟨rfl,hi,δ',ii,s'⟩;obtain⟨A,x⟩:=id s';have q:=x.pnd (.lst xs,.ref a) (by simp);simp only[GI] at q;obtain⟨a',vs,e,_,l,r⟩:=q
  cases e
  have l:GL X.K H a vs:=GL.of l
  have hl:xs.length=vs.length:=Reps.length _ _ r
  by_cases hlt:i<xs.length
  ·obtain⟨v',e',r'⟩:=Reps.get _ _ r i xs[i] (by simp[hlt]);refine .inr ⟨⟨vs,v',l,e'⟩,λσ' H'=>∃δ',I (i+1) δ'/\S X.K G δ' ((.lst xs,.ref a)::P) σ' H',λσ' H' ⟨δ',p',s'⟩=>⟨xs.length-(i+1),by omega,rfl,hlt,δ',p',s'⟩,λy H' hy=>?_⟩;obtain⟨e,hy⟩:=hy;subst e;have:some y=some v':=(hy vs l).symm.trans e'
   cases this
   refine⟨G,δ',(.lst xs,.ref a)::P,xs[i],_,⟨A,x.push r'⟩,aa i xs[i] δ' (by simp[hlt]) ii,λδ2 h2 σ2 H2 s2=>?_⟩
   refine⟨G,δ2,(.lst xs,.ref a)::P,_,s2,h2,λδ3 h3 σ3 H3 s3=>⟨δ3,h3,s3⟩,⟨λd δ3 h3 v3 σ3 H3 s3=>k2.1 d δ3 h3 v3 σ3 H3 (s3.sub λp hp=>by
    rcases GY.mp hp with rfl | hp
    ·simp
    ·simp[hp]),k2.2.1,exs k2.2.2⟩,λδ3 h3 σ3 H3 s3=>k1 δ3 h3 σ3 H3 (s3.sub λp hp=>by simp[hp]),λδ3 h3 σ3 H3 s3=>⟨δ3,h3,s3⟩,λz=>z.elim⟩
  ·have e:i=xs.length:=by omega
   subst e
   exact .inl ⟨⟨vs,l,by omega⟩,k1 δ' (aj δ' ii) σ H (s'.sub λp hp=>by simp[hp])⟩) k2.2.2
end
section
end
end DL
namespace DL
open PySem PySem.Spec PyProof.Rows L2
section
end
end DL
namespace Mf
abbrev V:=Nat->Rat
def GB:Nat->V->V->Rat
 | 0,_,_=>0
 | m+1,c,w=>GB m c w+c m*w m
theorem cW(c u v:V)(a b:Rat):∀m,GB m c (λi=>a*u i+b*v i)=a*GB m c u+b*GB m c v
 | 0=>by show (0:Rat)=a*0+b*0;grind
 | m+1=>by show GB m c _+_=a*(GB m c u+_)+b*(GB m c v+_);rw[cW c u v a b m];grind
theorem oW(e c w:V)(a b:Rat):∀m,GB m (λi=>a*e i+b*c i) w=a*GB m e w+b*GB m c w
 | 0=>by show (0:Rat)=a*0+b*0;grind
 | m+1=>by show GB m _ w+_=a*(GB m e w+_)+b*(GB m c w+_);rw[oW e c w a b m];grind
theorem iK:∀ {m},(∀i,i<m->w i=w' i)->GB m c w=GB m c w'
 | 0,_=>rfl
 | m+1,h=>by show GB m c w+_=GB m c w'+_;rw[iK λi hi=>h i (by omega),h m (by omega)]
def sz(m:Nat)(w:V):Nat:=((List.range m).filter λi=>decide (w i≠0)).length
theorem eL(m:Nat)(w:V):sz (m+1) w=sz m w+if w m=0 then 0 else 1:=by
 unfold sz;rw[List.range_succ,IU,GV]
 by_cases h:w m=0<;>simp[h]
theorem xD:∀(m:Nat),(∀i,i<m->w' i≠0->w i≠0)->sz m w'<=sz m w
 | 0,_=>GU _
 | m+1,h=>by
  rw[eL,eL];have:=xD m λi hi=>h i (by omega);have:=h m (by omega)
  grind
theorem yL:∀(m:Nat),(∀i,i<m->w' i≠0->w i≠0)->q<m->w q≠0->w' q=0->sz m w'<sz m w
 | 0,_,hq,_,_=>by omega
 | m+1,h,hq,h1,h2=>by
  rw[eL,eL];have h3:=xD m λi hi=>h i (by omega);have h4:=h m (by omega)
  by_cases e:q=m
  ·subst e;grind
  ·have:=yL m (λi hi=>h i (by omega)) (by omega) h1 h2
   grind
variable {m:Nat} {st:Nat→Bool}
def sat(m:Nat)(st:Nat->Bool)(e w:V):Prop:=0<GB m e w\/(GB m e w=0/\∀i,i<m->0<w i->st i=false)
theorem kj(hu:sat m st e u)(hv:sat m st e v)(ha:0<=a)(hb:0<=b):sat m st e (λi=>a*u i+b*v i):=by
 unfold sat;rw[cW];have al:0<=GB m e u:=by rcases hu with h | h<;>grind
 have ab:0<=GB m e v:=by rcases hv with h | h<;>grind
 have h1:=HL ha al
 have h2:=HL hb ab
 by_cases z:0<a*GB m e u+b*GB m e v
 ·exact .inl z
 ·refine .inr ⟨by grind,λi hi hw=>?_⟩;have e1:a*GB m e u=0:=by grind
  have e2:b*GB m e v=0:=by grind
  have pos:0<a*u i\/0<b*v i:=by grind
  rcases pos with p | p
  ·have ai:0<a:=by
    refine G2 λz=>?_;have:a=0:=by grind
    rw[this] at p;grind
   have aa:0<u i:=by
    refine G2 λz=>?_;have:=HL ha (b:=- u i) (by grind)
    grind
   rcases hu with h | h
   ·have:=Iy ai h;grind
   ·exact h.2 i hi aa
  ·have aj:0<b:=by
    refine G2 λz=>?_;have:b=0:=by grind
    rw[this] at p;grind
   have ah:0<v i:=by
    refine G2 λz=>?_;have:=HL hb (b:=- v i) (by grind)
    grind
   rcases hv with h | h
   ·have:=Iy aj h;grind
   ·exact h.2 i hi ah
theorem dz(h:∀i,i<m->w i=w' i)(s:sat m st e w):sat m st e w':=by
 unfold sat at s ⊢;rw[<- iK h];exact s.imp id λ⟨h1,h2⟩=>⟨h1,λi hi hp=>h2 i hi (by rw[h i hi];exact hp)⟩
theorem nJ:∀(cs:List V) (J:List Nat),J.Nodup->cs.length<J.length->∃d:V,(∀i,d i≠0->i∈J)/\(∃i,d i≠0)/\∀c∈cs,GB m c d=0
 | [],J,nd,h=>by
  cases J with
  | nil=>simp at h
  | cons j J=>exact⟨λi=>if i=j then 1 else 0,λi hi=>by by_cases e:i=j<;>simp_all,⟨j,by simp⟩,λc hc=>nomatch hc⟩
 | c::cs,J,nd,h=>by
  cases J with
  | nil=>simp at h
  | cons j J =>
   have h:cs.length+1<J.length+1:=h
   obtain⟨nj,ab⟩:=Ib.mp nd;obtain⟨d1,a1,⟨i,hi⟩,b1⟩:=nJ cs J ab (by omega);have ah:=a1 i hi;obtain⟨d2,a2,⟨k,hk⟩,b2⟩:=nJ cs ((j::J).erase i) (nd.erase i) (by rw[List.length_erase_of_mem (GP _ ah)];simpa using by omega);have aa:d2 i=0:=G2 λz=>((nd.mem_erase_iff).mp (a2 i z)).1 rfl
   by_cases e:GB m c d2=0
   ·refine⟨d2,λi hi=>List.mem_of_mem_erase (a2 i hi),⟨k,hk⟩,λc' hc'=>?_⟩
    rcases GY.mp hc' with rfl | hc'
    ·exact e
    ·exact b2 c' hc'
   ·refine⟨λi=>GB m c d2*d1 i+(- GB m c d1)*d2 i,λx hx=>?_,⟨i,?_⟩,λc' hc'=>?_⟩
    ·by_cases z1:d1 x=0
     ·by_cases z2:d2 x=0
      ·refine absurd ?_ hx;show _*d1 x+_*d2 x=0;rw[z1,z2];grind
      ·exact List.mem_of_mem_erase (a2 x z2)
     ·exact GP _ (a1 x z1)
    ·show _*d1 i+_*d2 i≠0
     rw[aa];intro z;have:GB m c d2*d1 i=0:=by grind
     rcases JU.mp this with q | q
     ·exact e q
     ·exact hi q
    ·rw[cW]
     rcases GY.mp hc' with rfl | hc'
     ·grind
     ·rw[b1 c' hc',b2 c' hc'];grind
theorem AZ{w d:V}(hw:∀i,0<=w i)(hd:∀i,d i≠0->0<w i):∀(J:List Nat),(∃i∈J,0<d i)->∃t,0<t/\(∀i∈J,0<=w i-t*d i)/\∃q∈J,0<d q/\w q-t*d q=0
 | [],⟨i,hi,_⟩=>nomatch hi
 | j::J,h=>by
  have one:∀i,0<d i->0<w i / d i/\w i-(w i / d i)*d i=0:=λi hi=>by
   have aa:=hd i (by grind)
   exact⟨by rw[Rat.lt_div_iff hi];grind,by grind⟩
  by_cases hJ:∃i∈J,0<d i
  ·obtain⟨t,t0,h1,q,hq,dq,eq⟩:=AZ hw hd J hJ
   by_cases hj:0<=w j-t*d j
   ·refine⟨t,t0,λi hi=>?_,q,GP _ hq,dq,eq⟩
    rcases GY.mp hi with rfl | hi
    ·exact hj
    ·exact h1 i hi
   ·have dj:0<d j:=by
     refine G2 λz=>hj ?_;have:=HL (a:=t) (b:=- d j) (by grind) (by grind);have:=hw j
     grind
    obtain⟨o1,o2⟩:=one j dj;have lt:w j / d j<t:=by
     refine G2 λz=>hj ?_;have:=HL (a:=w j / d j-t) (b:=d j) (by grind) (by grind)
     grind
    refine⟨w j / d j,o1,λi hi=>?_,j,GT ..,dj,o2⟩
    rcases GY.mp hi with rfl | hi
    ·grind
    ·by_cases di:0<d i
     ·have:=h1 i hi
      have:=HL (a:=t-w j / d j) (b:=d i) (by grind) (by grind)
      grind
     ·have:=HL (a:=w j / d j) (b:=- d i) (by grind) (by grind)
      have:=hw i
      grind
  ·have dj:0<d j:=by
    obtain⟨i,hi,p⟩:=h
    rcases GY.mp hi with rfl | hi
    ·exact p
    ·exact absurd ⟨i,hi,p⟩ hJ
   obtain⟨o1,o2⟩:=one j dj;refine⟨w j / d j,o1,λi hi=>?_,j,GT ..,dj,o2⟩
   rcases GY.mp hi with rfl | hi
   ·grind
   ·have di:¬ 0<d i:=λp=>hJ ⟨i,hi,p⟩
    have:=HL (a:=w j / d j) (b:=- d i) (by grind) (by grind)
    have:=hw i
    grind
structure Nn(m:Nat)(w:V):Prop where
 pos:∀i,0<=w i
 top:∀i,m<=i->w i=0
structure Sub(m:Nat)(cs:List V)(w u:V):Prop where
 nn:Nn m u
 an:∀c∈cs,GB m c u=0
 su:∀i,u i≠0->w i≠0
 lt:sz m u<sz m w
theorem DU(hw:Nn m w)(ha:∀c∈cs,GB m c w=0)(hd:∀i,d i≠0->w i≠0)(da:∀c∈cs,GB m c d=0)(hp:w p≠0)(dp:d p=0)(h:∃i,0<d i) :
  ∃u v a b,0<=a/\0<=b/\(∀i,w i=a*u i+b*v i)/\Sub m cs w u/\Sub m cs w v:=by
 have lt:∀ {i},w i≠0->i<m:=λ{i} h=>G2 λz=>h (hw.top i (by omega))
 have pos:∀ {i},w i≠0->0<w i:=λ{i} h=>by have:=hw.pos i;grind
 have mk:∀ {x:V} {a b:Rat},0<=a->(∀i,x i=a*w i+b*d i)->(∀i,i<m->0<=x i)->(∃q,w q≠0/\x q=0)->Sub m cs w x:=λ{x a b} ha0 hx h0 ⟨q,hq,xq⟩=>by
  have su:∀i,x i≠0->w i≠0:=λi hi z=>hi (by
   have:d i=0:=G2 λy=>hd i y z
   rw[hx i,z,this];grind)
  refine⟨⟨λi=>?_,λi hi=>G2 λz=>su i z (hw.top i hi)⟩,λc hc=>?_,su,yL m (λi _=>su i) (lt hq) hq xq⟩
  ·by_cases hi:i<m
   ·exact h0 i hi
   ·have:x i=0:=G2 λz=>su i z (hw.top i (by omega))
    rw[this];exact Rat.le_refl
  ·have:x=λi=>a*w i+b*d i:=funext hx
   rw[this,cW,ha c hc,da c hc];grind
 have hr:∀ {i},d i≠0->i∈List.range m:=λ{i} h=>Iq.mpr (lt (hd i h))
 obtain⟨i,hi⟩:=h;obtain⟨t,t0,h1,q,hq,dq,eq⟩:=AZ hw.pos (λi h=>pos (hd i h)) (List.range m) ⟨i,hr (by grind),hi⟩;have s1:Sub m cs w (λi=>w i-t*d i):=mk (a:=1) (b:=-t) (by grind) (λi=>by grind) (λi hi=>h1 i (Iq.mpr hi)) ⟨q,hd q (by grind),eq⟩
 by_cases hn:∃i,0 < - d i
 ·obtain⟨k,hk⟩:=hn;obtain⟨t',aj,aa,q',ai,ah,ab⟩:=AZ (d:=λi=>- d i) hw.pos (λi h=>pos (hd i (by grind))) (List.range m) ⟨k,hr (by grind),hk⟩;have s2:Sub m cs w (λi=>w i-t' * - d i):=mk (a:=1) (b:=t') (by grind) (λi=>by grind) (λi hi=>aa i (Iq.mpr hi)) ⟨q',hd q' (by grind),ab⟩;have tt:t+t'≠0:=by grind
  have e1:0<t' / (t+t'):=by rw[Rat.lt_div_iff (by grind)];grind
  have e2:0<t / (t+t'):=by rw[Rat.lt_div_iff (by grind)];grind
  refine⟨_,_,t' / (t+t'),t / (t+t'),by grind,by grind,λi=>?_,s1,s2⟩;have e3:t' / (t+t')+t / (t+t')=1:=by grind
  have e4:t' / (t+t')*t=t / (t+t')*t':=by grind
  grind
 ·have s2:Sub m cs w d:=mk (a:=0) (b:=1) (by grind) (λi=>by grind) (λi hi=>G2 λz=>hn ⟨i,by grind⟩) ⟨p,hp,dp⟩
  exact⟨_,_,1,t,by grind,by grind,λi=>by grind,s1,s2⟩
theorem split(hw:Nn m w)(ha:∀c∈cs,GB m c w=0)(hz:cs.length+1<sz m w) :
  ∃u v a b,0<=a/\0<=b/\(∀i,w i=a*u i+b*v i)/\Sub m cs w u/\Sub m cs w v:=by
 have mem:∀ {i},i∈(List.range m).filter (λi=>decide (w i≠0))↔i<m/\w i≠0:=by simp
 have nd:((List.range m).filter (λi=>decide (w i≠0))).Nodup:=List.nodup_range.filter _
 unfold sz at hz;generalize hJ:(List.range m).filter (λi=>decide (w i≠0))=J at mem nd hz
 cases J with
 | nil=>simp at hz
 | cons p J =>
  obtain⟨np,aa⟩:=Ib.mp nd;obtain⟨d,h1,⟨i,hi⟩,h3⟩:=nJ (m:=m) cs J aa (by simpa using hz);have hd:∀i,d i≠0->w i≠0:=λi h=>(mem.mp (GP _ (h1 i h))).2;have dp:d p=0:=G2 λz=>np (h1 p z);have hp:=(mem.mp (GT ..:p∈p::J)).2
  by_cases s:0<d i
  ·exact DU hw ha hd h3 hp dp ⟨i,s⟩
  ·have e:(λi=>- d i)=λi=>(-1)*d i+0*d i:=by funext i;grind
   exact DU (d:=λi=>- d i) hw ha (λi h=>hd i (by grind)) (λc hc=>by rw[e,cW,h3 c hc];grind) hp (by rw[dp];grind) ⟨i,by grind⟩
def uY(v:Rat)(x:Rat×Rat×Bool):Prop:=0<x.1+v*x.2.1\/(x.1+v*x.2.1=0/\x.2.2=false)
theorem maxL:∀(l:List (Rat×Bool)),l≠[]->∃x∈l,∀y∈l,y.1<x.1\/(y.1=x.1/\(y.2=true->x.2=true))
 | [],h=>absurd rfl h
 | z::l,_=>by
  by_cases hl:l=[]
  ·subst hl;exact⟨z,GT ..,λy hy=>by rcases GY.mp hy with rfl | h;exact .inr ⟨rfl,id⟩;cases h⟩
  ·obtain⟨x,hx,h⟩:=maxL l hl
   by_cases c:z.1<x.1\/(z.1=x.1/\(z.2=true->x.2=true))
   ·refine⟨x,GP _ hx,λy hy=>?_⟩
    rcases GY.mp hy with rfl | hy
    ·exact c
    ·exact h y hy
   ·refine⟨z,GT ..,λy hy=>?_⟩
    rcases GY.mp hy with rfl | hy
    ·exact .inr ⟨rfl,id⟩
    ·have:=h y hy
     cases hz2:z.2<;>cases hx2:x.2<;>grind
theorem C9(L:List (Rat×Rat×Bool))(hz:∀x∈L,x.2.1=0->uY 0 x)
  (hp:∀l∈L,∀h∈L,0<l.2.1->h.2.1<0->0<l.1*(- h.2.1)+h.1*l.2.1\/(l.1*(- h.2.1)+h.1*l.2.1=0/\l.2.2=false/\h.2.2=false)):∃v,∀x∈L,uY v x:=by
 have ah:(∀x∈L,¬ 0<x.2.1)\/∃l∈L,0<l.2.1/\∀x∈L,0<x.2.1->-x.1 / x.2.1 < -l.1 / l.2.1\/(-x.1 / x.2.1=-l.1 / l.2.1/\(x.2.2=true->l.2.2=true)):=by
  by_cases h:(L.filter λx=>decide (0<x.2.1)).map (λx=>(-x.1 / x.2.1,x.2.2))=[]
  ·refine .inl λx hx hp=>?_;rw[List.map_eq_nil_iff,List.filter_eq_nil_iff] at h;exact h x hx (by simpa using hp)
  ·obtain⟨y,hy,h⟩:=maxL _ h;obtain⟨l,hl,rfl⟩:=GR.mp hy;obtain⟨hl,aa⟩:=G1.mp hl;exact .inr ⟨l,hl,by simpa using aa,λx hx hp=>h _ (GR.mpr ⟨x,G1.mpr ⟨hx,by simpa using hp⟩,rfl⟩)⟩
 have ab:(∀x∈L,¬ x.2.1<0)\/∃l∈L,l.2.1<0/\∀x∈L,x.2.1<0->x.1 / x.2.1<l.1 / l.2.1\/(x.1 / x.2.1=l.1 / l.2.1/\(x.2.2=true->l.2.2=true)):=by
  by_cases h:(L.filter λx=>decide (x.2.1<0)).map (λx=>(x.1 / x.2.1,x.2.2))=[]
  ·refine .inl λx hx hp=>?_;rw[List.map_eq_nil_iff,List.filter_eq_nil_iff] at h;exact h x hx (by simpa using hp)
  ·obtain⟨y,hy,h⟩:=maxL _ h;obtain⟨l,hl,rfl⟩:=GR.mp hy;obtain⟨hl,aa⟩:=G1.mp hl;exact .inr ⟨l,hl,by simpa using aa,λx hx hp=>h _ (GR.mpr ⟨x,G1.mpr ⟨hx,by simpa using hp⟩,rfl⟩)⟩
 have lo:∀(x:Rat×Rat×Bool) (v:Rat),0<x.2.1->(-x.1 / x.2.1<v\/(-x.1 / x.2.1=v/\x.2.2=false))->uY v x:=λx v hc h=>by
  have e:x.1=-((-x.1 / x.2.1)*x.2.1):=by grind
  rcases h with h | h
  ·have:=Iy (a:=v-(-x.1 / x.2.1)) (b:=x.2.1) (by grind) hc
   exact .inl (by grind)
  ·exact .inr ⟨by grind,h.2⟩
 have hi:∀(x:Rat×Rat×Bool) (v:Rat),x.2.1<0->(x.1 / x.2.1 < -v\/(x.1 / x.2.1=-v/\x.2.2=false))->uY v x:=λx v hc h=>by
  have e:x.1=(x.1 / x.2.1)*x.2.1:=by grind
  rcases h with h | h
  ·have:=Iy (a:=-v-(x.1 / x.2.1)) (b:=-x.2.1) (by grind) (by grind)
   exact .inl (by grind)
  ·exact .inr ⟨by grind,h.2⟩
 have ze:∀(x:Rat×Rat×Bool) (v:Rat),x∈L->x.2.1=0->uY v x:=λx v hx h=>by
  have:=hz x hx h
  unfold uY at this ⊢;rw[h] at this ⊢
  grind
 have done:∀v,(∀x∈L,0<x.2.1->uY v x)->(∀x∈L,x.2.1<0->uY v x)->∃v,∀x∈L,uY v x:=λv h1 h2=>⟨v,λx hx=>by
  rcases(by grind:x.2.1<0\/x.2.1=0\/0<x.2.1) with c | c | c
  ·exact h2 x hx c
  ·exact ze x v hx c
  ·exact h1 x hx c⟩
 rcases ah with nl | ⟨l,hl,cl,tl⟩
 ·rcases ab with nh | ⟨k,hk,ck,tk⟩
  ·exact done 0 (λx hx h=>absurd h (nl x hx)) λx hx h=>absurd h (nh x hx)
  ·exact done (-(k.1 / k.2.1)-1) (λx hx h=>absurd h (nl x hx)) λx hx h=>hi x _ h (.inl (by have:=tk x hx h;grind))
 ·rcases ab with nh | ⟨k,hk,ck,tk⟩
  ·exact done (-l.1 / l.2.1+1) (λx hx h=>lo x _ h (.inl (by have:=tl x hx h;grind))) λx hx h=>absurd h (nh x hx)
  ·have pr:=hp l hl k hk cl ck
   have e1:l.1=-((-l.1 / l.2.1)*l.2.1):=by grind
   have e2:k.1=(k.1 / k.2.1)*k.2.1:=by grind
   generalize hA:-l.1 / l.2.1=A at *
   generalize hB:k.1 / k.2.1=B at *
   have ai:A < -B\/(A=-B/\l.2.2=false/\k.2.2=false):=by
    have e3:l.1*(-k.2.1)+k.1*l.2.1=(-B-A)*(l.2.1*(-k.2.1)):=by grind
    have pp:=Iy (a:=l.2.1) (b:=-k.2.1) cl (by grind)
    rw[e3] at pr
    rcases pr with p | p
    ·refine .inl (G2 λz=>?_);have:=HL (a:=A+B) (b:=l.2.1 * -k.2.1) (by grind) (by grind)
     grind
    ·rcases JU.mp p.1 with q | q
     ·exact .inr ⟨by grind,p.2⟩
     ·grind
   refine done ((A-B) / 2) (λx hx h=>lo x _ h ?_) λx hx h=>hi x _ h ?_
   ·have:=tl x hx h
    cases hx2:x.2.2<;>cases aa:l.2.2<;>grind
   ·have:=tk x hx h
    cases hx2:x.2.2<;>cases hk2:k.2.2<;>grind
def Comp(m:Nat)(st:Nat->Bool)(cs:List V)(S:List V):Prop:=∀(I:Nat->Prop) (e:V),(∀s∈S,(∀i,s i≠0->I i)->sat m st e s)->∀w,Nn m w->(∀c∈cs,GB m c w=0)->(∀i,w i≠0->I i)->sat m st e w
def By(j:Nat):V:=λi=>if i=j then 1 else 0
theorem pH(h:∀i,i<m->w i=0):sat m st e w:=by
 have:GB m e w=0:=by
  rw[iK (w':=λi=>0*w i+0*w i) λi hi=>by rw[h i hi];grind,cW];grind
 exact .inr ⟨this,λi hi hp=>by rw[h i hi] at hp;grind⟩
theorem ul(S:List V)(h:∀j,j<m->By j∈S):Comp m st [] S:=by
 intro I e hs w hw _ hI;have go:∀k,k<=m->sat m st e (λi=>if i<k then w i else 0):=λk=>by
  induction k with
  | zero=>intro _;exact pH λi _=>by simp
  | succ k ih =>
   intro hk;have h1:=ih (by omega)
   by_cases z:w k=0
   ·refine dz (λi hi=>?_) h1
    by_cases e1:i<k
    ·simp[e1,Nat.lt_succ_of_lt e1]
    ·by_cases e2:i=k
     ·subst e2;simp[z]
     ·simp[e1,show ¬ i<k+1 by omega]
   ·have h2:=hs (By k) (h k (by omega)) λi hi=>by
     have:i=k:=G2 λy=>hi (by simp[By,y])
     subst this;exact hI i z
    refine dz (λi hi=>?_) (kj h1 h2 (a:=1) (b:=w k) (by grind) (hw.pos k));unfold By
    by_cases e1:i<k
    ·simp[e1,Nat.lt_succ_of_lt e1,show i≠k by omega];grind
    ·by_cases e2:i=k
     ·subst e2;simp;grind
     ·simp[e1,e2,show ¬ i<k+1 by omega];grind
 exact dz (λi hi=>by simp[hi]) (go m (GU m))
structure Kept(m:Nat)(c:V)(most:Nat)(S S':List V):Prop where
 nn:∀s∈S,Nn m s
 zero:∀s∈S,GB m c s=0->s∈S'
 cross:∀l∈S,∀h∈S,0<GB m c l->GB m c h<0->sz m (λi=>(- GB m c h)*l i+GB m c l*h i)<=most->∃u∈S',∃g,0<g/\∀i,g*u i=(- GB m c h)*l i+GB m c l*h i
theorem uA(e c w:V)(v:Rat):sat m st (λi=>1*e i+v*c i) w↔(0<GB m e w+v*GB m c w\/(GB m e w+v*GB m c w=0/\∀i,i<m->0<w i->st i=false)):=by
 unfold sat;rw[oW];have:1*GB m e w+v*GB m c w=GB m e w+v*GB m c w:=by grind
 rw[this]
open Classical in
theorem sM(k:Comp m st cs S)(h:Kept m c (cs.length+2) S S'):Comp m st (c::cs) S':=by
 intro I e hs w hw ha hI;have main:∀n w,sz m w<=n->Nn m w->(∀c'∈c::cs,GB m c' w=0)->(∀i,w i≠0->I i)->sat m st e w:=λn=>by
  induction n with
  | zero =>
   intro w hz hw _ _;refine pH λi hi=>byContradiction λz=>?_;have:=yL (w:=w) (w':=λ_=>0) m (λi _ h=>absurd rfl h) hi z rfl;omega
  | succ n ih =>
   intro w hz hw ha hI
   by_cases big:(c::cs).length+1<sz m w
   ·obtain⟨u,v,a,b,a0,b0,as,su,sv⟩:=split hw ha big;have h1:=ih u (by have:=su.lt;omega) su.nn su.an λi hi=>hI i (su.su i hi);have h2:=ih v (by have:=sv.lt;omega) sv.nn sv.an λi hi=>hI i (sv.su i hi);exact dz (λi _=>(as i).symm) (kj h1 h2 a0 b0)
   ·have big:sz m w<=cs.length+2:=by simp at big;omega
    have pr:∀l∈S,∀k∈S,(∀i,l i≠0->w i≠0)->(∀i,k i≠0->w i≠0)->0<GB m c l->GB m c k<0->sat m st e (λi=>(- GB m c k)*l i+GB m c l*k i):=λl hl k hk sl sk cl ck=>by
     have su:∀i,(- GB m c k)*l i+GB m c l*k i≠0->w i≠0:=λi hi=>by
      by_cases z:l i=0
      ·by_cases y:k i=0
       ·refine absurd ?_ hi;rw[z,y];grind
       ·exact sk i y
      ·exact sl i z
     obtain⟨u,hu,g,g0,eu⟩:=h.cross l hl k hk cl ck (GS (xD m λi _=>su i) big);have aj:=hs u hu λi hi=>hI i (su i (by rw[<- eu i];intro z;rcases JU.mp z with q | q;grind;exact hi q));exact dz (λi _=>by rw[<- eu i];grind) (kj aj aj (a:=g) (b:=0) (by grind) (by grind))
    have od:=C9 ((S.filter λs=>decide (∀i,s i≠0->w i≠0)).map λs=>(GB m e s,GB m c s,!decide (∀i,i<m->0<s i->st i=false)))
    have ao:=od λx hx h0=>by
     obtain⟨s,aa,rfl⟩:=GR.mp hx;obtain⟨aa,ai⟩:=G1.mp aa;have:=hs s (h.zero s aa h0) λi hi=>hI i ((by simpa using ai:∀i,¬ s i=0->¬ w i=0) i hi);unfold sat at this;unfold uY;have e0:GB m e s+0*GB m c s=GB m e s:=by grind
     simp only[e0];simpa using this
    have al:=ao λl hl k hk cl ck=>by
     obtain⟨l,ab,rfl⟩:=GR.mp hl;obtain⟨k',ah,rfl⟩:=GR.mp hk;obtain⟨ab,aq⟩:=G1.mp ab;obtain⟨ah,az⟩:=G1.mp ah;have:=pr l ab k' ah (by simpa using aq) (by simpa using az) cl ck;unfold sat at this;rw[cW] at this;have e0:(- GB m c k')*GB m e l+GB m c l*GB m e k'=GB m e l*(- GB m c k')+GB m e k'*GB m c l:=by grind
     rw[e0] at this;refine this.imp id λ⟨h1,h2⟩=>⟨h1,?_,?_⟩
     ·simp only[Bool.not_eq_false',decide_eq_true_eq];intro i hi hp;refine h2 i hi ?_;have p1:=Iy (a:=- GB m c k') (b:=l i) (by grind) hp;have p2:=HL (a:=GB m c l) (b:=k' i) (by grind) ((h.nn k' ah).pos i)
      grind
     ·simp only[Bool.not_eq_false',decide_eq_true_eq];intro i hi hp;refine h2 i hi ?_;have p1:=Iy (a:=GB m c l) (b:=k' i) cl hp;have p2:=HL (a:=- GB m c k') (b:=l i) (by grind) ((h.nn l ab).pos i)
      grind
    obtain⟨v,hv⟩:=al;have all:∀s∈S,(∀i,s i≠0->w i≠0)->sat m st (λi=>1*e i+v*c i) s:=λs aa ai=>by
     have:=hv _ (GR.mpr ⟨s,G1.mpr ⟨aa,by simpa using ai⟩,rfl⟩)
     rw[uA];unfold uY at this;simpa using this
    have:=k (λi=>w i≠0) _ all w hw (λc' hc'=>ha c' (GP _ hc')) λi hi=>hi
    rw[uA,ha c (GT ..)] at this;unfold sat;have e0:GB m e w+v*0=GB m e w:=by grind
    rw[e0] at this;exact this
 exact main _ w (GU _) hw ha hI
end Mf
namespace Mf
open PySem L2 DL
def fS(x:Str->Rat):List (Str×Int)->Rat
 | []=>0
 | t::r=>(t.2:Rat)*x t.1+fS x r
def soR(x:Str->Rat)(r:Rw):Prop:=match r.1 with
 | .least=>(r.2.2:Rat)<=fS x r.2.1
 | .more=>(r.2.2:Rat)<fS x r.2.1
def xL(x:Str->Rat)(n:Str)(v:Rat):Str->Rat:=λk=>if k=n then v else x k
theorem p9(h:x n=0):∀ts,fS (xL x n v) ts=fS x ts+v*(cf ts n:Int)
 | []=>by show (0:Rat)=0+v*((0:Int):Rat);rw[show ((0:Int):Rat)=0 from rfl];grind
 | t::r=>by
  show (t.2:Rat)*xL x n v t.1+fS (xL x n v) r=(t.2:Rat)*x t.1+fS x r+v*(((if t.1=n then t.2 else 0)+cf r n:Int):Rat)
  rw[p9 h r,IM];unfold xL
  by_cases e:t.1=n
  ·rw[Hc e,Hc e,e,h];grind
  ·rw[Ha e,Ha e,show ((0:Int):Rat)=0 from rfl];grind
def oB(x:Str->Rat)(F:Str->Int):Zb->Rat
 | []=>0
 | n::r=>(F n:Rat)*x n+oB x F r
theorem kh:∀nm:Zb,oB x (λn=>F n+G n) nm=oB x F nm+oB x G nm
 | []=>by show (0:Rat)=0+0;grind
 | n::r=>by show ((F n+G n:Int):Rat)*x n+_=(F n:Rat)*x n+_+((G n:Rat)*x n+_);rw[kh r,IM];grind
theorem qE:∀nm:Zb,oB x (λn=>a*F n) nm=a*oB x F nm
 | []=>by show (0:Rat)=a*0;grind
 | n::r=>by show ((a*F n:Int):Rat)*x n+_=a*((F n:Rat)*x n+_);rw[qE r,Hy];grind
theorem fg:∀ {nm:Zb},(∀n∈nm,F n=0)->oB x F nm=0
 | [],_=>rfl
 | n::r,h=>by show (F n:Rat)*x n+_=0;rw[fg λk hk=>h k (GP _ hk),h n (GT ..),show ((0:Int):Rat)=0 from rfl];grind
theorem qf:∀ {nm:Zb},nm.Nodup->k∈nm->oB x (λn=>if k=n then a else 0) nm=a*x k
 | n::r,nd,h=>by
  obtain⟨h1,h2⟩:=Ib.mp nd;show ((if k=n then a else 0:Int):Rat)*x n+oB x _ r=_
  by_cases e:k=n
  ·subst e;rw[Hc rfl,fg (F:=λn=>if k=n then a else 0) λm hm=>Ha λ(z:k=m)=>h1 (z ▸ hm)];grind
  ·rw[Ha e,qf h2 ((GY.mp h).resolve_left e),show ((0:Int):Rat)=0 from rfl];grind
theorem qM(nd:nm.Nodup):∀ {ts:List (Str×Int)},(∀t∈ts,t.1∈nm)->fS x ts=oB x (cf ts) nm
 | [],_=>(fg λ_ _=>rfl).symm
 | t::r,h=>by
  show _+fS x r=oB x (λn=>(if t.1=n then t.2 else 0)+cf r n) nm
  rw[kh,qf nd (h t (GT ..)),qM nd λu hu=>h u (GP _ hu)]
theorem mo:∀ {ts:List (Str×Int)} {t:Str×Int},(ts.map (·.1)).Nodup->t∈ts->cf ts t.1=t.2
 | u::r,t,nd,h=>by
  obtain⟨h1,h2⟩:=Ib.mp nd;show (if u.1=t.1 then u.2 else 0)+cf r t.1=t.2
  rcases GY.mp h with rfl | h
  ·rw[Hc rfl,jb h1,JL]
  ·rw[Ha λe=>h1 (GR.mpr ⟨t,h,e.symm⟩),mo h2 h,Jq]
theorem eM.cf(h:eM F us)(n:Str):cf us n=F n:=by
 by_cases e:n∈us.map (·.1)
 ·obtain⟨t,ht,rfl⟩:=GR.mp e;rw[mo h.nd ht,(h.val t ht).1]
 ·rw[jb e];exact(G2 λz=>e (h.all n λy=>z y.symm))
def evl(x:Str->Rat):List (Rw×Int)->Rat
 | []=>0
 | p::r=>(p.2:Rat)*(fS x p.1.2.1-(p.1.2.2:Int))+evl x r
theorem sR(nd:nm.Nodup):∀ {l:List (Rw×Int)},(∀p∈l,∀t∈p.1.2.1,t.1∈nm)->evl x l=oB x (cfs l) nm-(bds l:Int)
 | [],_=>by
  show (0:Rat)=_-((0:Int):Rat)
  rw[fg (F:=cfs []) λ_ _=>rfl,show ((0:Int):Rat)=0 from rfl];grind
 | p::r,h=>by
  show (p.2:Rat)*_+evl x r=oB x (λn=>p.2*cf p.1.2.1 n+cfs r n) nm-((p.2*p.1.2.2+bds r:Int):Rat)
  rw[kh,qE,sR nd λq hq=>h q (GP _ hq),qM nd (h p (GT ..)),IM,Hy]
  grind
def smT(nm:Zb)(F:Str->Int):List (Str×Int):=(nm.filter λn=>decide (F n≠0)).map λn=>(n,F n)
def Gx(nm:Zb)(rows:List Rw)(w:Ze):Rw:=(kOf (Gv (rows.zip w)),smT nm (cfs (rows.zip w)),bds (rows.zip w))
structure Rws(nm:Zb)(rows:List Rw):Prop where
 pw:nm.Pairwise leS
 nd:nm.Nodup
 sum:∀r∈rows,eM (cf r.2.1) r.2.1
 sub:∀r∈rows,∀t∈r.2.1,t.1∈nm
theorem Rws.cfs(h:Rws nm rows)(e:cfs (rows.zip w) n≠0):n∈nm :=
 ti (λp hp=>h.sub p.1 (HS hp).1) e
theorem Rws.smT(h:Rws nm rows)(w:Ze):eM (Mf.cfs (rows.zip w)) (Mf.smT nm (Mf.cfs (rows.zip w))):=eM.mk' h.pw h.nd λ_ e=>h.cfs e
theorem uD(h:Rws nm rows):soR x (Gx nm rows w)↔(0<evl x (rows.zip w)\/(evl x (rows.zip w)=0/\Gv (rows.zip w)=false)):=by
 have e:=sR (x:=x) h.nd (l:=rows.zip w) λp hp=>h.sub p.1 (HS hp).1
 have e2:fS x (Mf.smT nm (Mf.cfs (rows.zip w)))=oB x (Mf.cfs (rows.zip w)) nm:=by
  rw[qM h.nd λt ht=>?_]
  ·congr 1;exact funext λn=>(h.smT w).cf n
  ·obtain⟨n,hn,rfl⟩:=GR.mp ht;exact(G1.mp hn).1
 rw[e];unfold soR Gx
 cases Gv (rows.zip w)
 ·show ((bds _:Int):Rat)<=fS x _↔_
  rw[e2];grind
 ·show ((bds _:Int):Rat)<fS x _↔_
  rw[e2];grind
def Ge(w:Ze):V:=λi=>((w.getD i 0:Int):Rat)
def eV(x:Str->Rat)(rows:List Rw):V:=λi=>match rows[i]? with | some r=>fS x r.2.1-(r.2.2:Int) | none=>0
def colV(rows:List Rw)(n:Str):V:=λi=>match rows[i]? with | some r=>((cf r.2.1 n:Int):Rat) | none=>0
def stV(rows:List Rw):Nat->Bool:=λi=>match rows[i]? with | some r=>isM r.1 | none=>false
theorem iU(c w:V):∀m,GB (m+1) c w=c 0*w 0+GB m (λi=>c (i+1)) (λi=>w (i+1))
 | 0=>by show (0:Rat)+c 0*w 0=c 0*w 0+0;grind
 | m+1=>by show GB (m+1) c w+c (m+1)*w (m+1)=_+(GB m _ _+c (m+1)*w (m+1));rw[iU c w m];grind
theorem lj:∀ {rows:List Rw} {w:Ze},w.length=rows.length->evl x (rows.zip w)=GB rows.length (eV x rows) (Ge w)
 | [],[],_=>rfl
 | r::rows,a::w,h=>by
  rw[G0,iU];show (a:Rat)*(fS x r.2.1-_)+evl x (rows.zip w)=(fS x r.2.1-_)*(a:Rat)+GB rows.length (eV x rows) (Ge w);rw[lj (by simpa using h)];grind
theorem kC:∀ {rows:List Rw} {w:Ze},w.length=rows.length->((cfs (rows.zip w) n:Int):Rat)=GB rows.length (colV rows n) (Ge w)
 | [],[],_=>rfl
 | r::rows,a::w,h=>by
  rw[G0,iU];show ((a*cf r.2.1 n+cfs (rows.zip w) n:Int):Rat)=((cf r.2.1 n:Int):Rat)*(a:Rat)+GB rows.length (colV rows n) (Ge w);rw[IM,Hy,kC (by simpa using h)];grind
theorem um:0<Ge w i↔0<w.getD i 0:=Rat.intCast_pos
theorem qz:∀ {rows:List Rw} {w:Ze},w.length=rows.length->(Gv (rows.zip w)=false↔∀i,i<rows.length->0<Ge w i->stV rows i=false)
 | [],[],_=>⟨λ_ i hi=>absurd hi (Nat.not_lt_zero i),λ_=>rfl⟩
 | r::rows,a::w,h=>by
  have ih:=qz (rows:=rows) (w:=w) (by simpa using h)
  have e:Gv ((r::rows).zip (a::w))=((isM r.1&&decide (0<a))||Gv (rows.zip w)):=rfl
  rw[e,Bool.or_eq_false_iff,ih]
  constructor
  ·rintro⟨h1,h2⟩ i hi hp
   cases i with
   | zero =>
    have:0<a:=um.mp hp
    rw[HJ this,Bool.and_true] at h1;exact h1
   | succ i=>exact h2 i (by simpa using hi) hp
  ·intro hh;refine⟨?_,λi hi hp=>hh (i+1) (by simpa using hi) hp⟩
   by_cases ha:0<a
   ·have:isM r.1=false:=hh 0 (Kn _) (um.mpr ha)
    rw[this,Bool.false_and]
   ·rw[HA ha,Bool.and_false]
theorem DX(h:Rws nm rows)(hl:w.length=rows.length):soR x (Gx nm rows w)↔sat rows.length (stV rows) (eV x rows) (Ge w):=by
 rw[uD h,lj hl,qz hl];rfl
theorem pz(w:V):∀m,sz (m+1) w=(if w 0=0 then 0 else 1)+sz m λi=>w (i+1)
 | 0=>by rw[eL];show sz 0 w+_=_+sz 0 _;unfold sz;simp
 | m+1=>by rw[eL,pz w m,eL m];omega
def usd(w:Ze):Nat:=(w.filter λa=>decide (0<a)).length
theorem yp:∀ {w:Ze},(∀a∈w,0<=a)->sz w.length (Ge w)=usd w
 | [],_=>rfl
 | a::w,h=>by
  rw[G0,pz];show (if ((a:Int):Rat)=0 then 0 else 1)+sz w.length (Ge w)=usd (a::w);rw[yp λb hb=>h b (GP _ hb)];have h0:=h a (GT ..);unfold usd
  by_cases e:0<a
  ·rw[HE (by simpa using e),Ha (λz=>by have:a=0:=Rat.intCast_inj.mp z;omega),G0];omega
  ·have:a=0:=by omega
   rw[Hk (by simpa using e),Hc (by rw[this];rfl)];omega
theorem t6(hl:w.length=m)(h:∀a∈w,0<=a):Nn m (Ge w):=by
 refine⟨λi=>?_,λi hi=>?_⟩
 ·show (0:Rat)<=((w.getD i 0:Int):Rat)
  refine Rat.intCast_nonneg.mpr ?_;rw[HY]
  cases e:w[i]? with
  | none=>exact Int.le_refl 0
  | some a=>exact h a (G9 e)
 ·show ((w.getD i 0:Int):Rat)=0
  rw[HY,HF (by omega)];rfl
def gW(ws:Ze):Int:=ws.foldl gc 0
theorem E2(a b:Int):0<=gc a b/\gc a b ∣ a/\gc a b ∣ b/\(a≠0\/b≠0->gc a b≠0):=by
 refine⟨tj a b,eI a b,dw a b,λh z=>?_⟩;unfold gc at z;have:=Int.gcd_eq_zero_iff.mp (by omega:Int.gcd a b=0)
 rcases h with h | h
 ·exact h this.1
 ·exact h this.2
theorem nF:∀(ws:Ze) (a:Int),ws.foldl gc a ∣ a/\(∀w∈ws,ws.foldl gc a ∣ w)/\((a≠0\/∃w∈ws,w≠0)->ws.foldl gc a≠0)/\(0<=a->0<=ws.foldl gc a)
 | [],a=>⟨Int.dvd_refl a,λ_ h=>(nomatch h),λh=>h.elim id λ⟨_,h,_⟩=>(nomatch h),id⟩
 | w::ws,a=>by
  obtain⟨h1,h2,h3,h4⟩:=nF ws (gc a w);obtain⟨g0,g1,g2,g3⟩:=E2 a w;refine⟨Int.dvd_trans h1 g1,λv hv=>?_,λh=>h3 ?_,λ_=>h4 g0⟩
  ·rcases GY.mp hv with rfl | hv
   ·exact Int.dvd_trans h1 g2
   ·exact h2 v hv
  ·rcases h with h | ⟨v,hv,hn⟩
   ·exact .inl (g3 (.inl h))
   ·rcases GY.mp hv with rfl | hv
    ·exact .inl (g3 (.inr hn))
    ·exact .inr ⟨v,hv,hn⟩
theorem qj(h:∃w∈ws,w≠0):0<gW ws:=by
 obtain⟨_,_,h3,h4⟩:=nF ws 0;have:=h3 (.inr h);have:=h4 (Int.le_refl 0);unfold gW;omega
theorem lY(h:w∈ws):gW ws ∣ w:=(nF ws 0).2.1 w h
def crS(rows:List Rw)(n:Str)(l h:Ze):Ze:=List.zipWith (λa b=>a * -(cfs (rows.zip h) n)+b*cfs (rows.zip l) n) l h
def shW(ws:Ze):Ze:=ws.map λa=>a.fdiv (gW ws)
def crW(rows:List Rw)(n:Str)(l h:Ze):Ze:=shW (crS rows n l h)
def woW(rows:List Rw)(n:Str)(most:Nat)(W:List (List Int)):List (List Int) :=
 (W.filter λw=>decide (cfs (rows.zip w) n=0))++(W.filter λw=>decide (0<cfs (rows.zip w) n)).flatMap λl =>
  ((W.filter λw=>decide (cfs (rows.zip w) n<0)).map (crW rows n l)).filter λu=>decide (usd u<=most)
def unW(m j:Nat):Ze:=(List.range m).map λi=>if i=j then 1 else 0
def vn(m:Nat):List (List Int):=(List.range m).map (unW m)
def Gr(rows:List Rw):Zb->List (List Int)
 | []=>vn rows.length
 | n::ns=>woW rows n (ns.length+2) (Gr rows ns)
structure Wt(m:Nat)(w:Ze):Prop where
 len:w.length=m
 nn:∀a∈w,0<=a
 nz:∃a∈w,a≠0
theorem nW(hf:f 0 0=0):∀ {l h:Ze},l.length=h.length->∀i,Ge (List.zipWith f l h) i=((f (l.getD i 0) (h.getD i 0):Int):Rat)
 | [],[],_,i=>by show (0:Rat)=((f 0 0:Int):Rat);rw[hf];rfl
 | a::l,b::h,e,0=>rfl
 | a::l,b::h,e,i+1=>nW hf (by simpa using e) i
theorem mX:∀ {rows:List Rw} {l h:Ze},l.length=rows.length->h.length=rows.length->cfs (rows.zip (List.zipWith (λx y=>x*a+y*b) l h)) n=a*cfs (rows.zip l) n+b*cfs (rows.zip h) n
 | [],[],[],_,_=>by show (0:Int)=a*0+b*0;omega
 | r::rows,x::l,y::h,h1,h2=>by
  show (x*a+y*b)*cf r.2.1 n+cfs (rows.zip (List.zipWith _ l h)) n=a*(x*cf r.2.1 n+cfs (rows.zip l) n)+b*(y*cf r.2.1 n+cfs (rows.zip h) n)
  rw[mX (rows:=rows) (l:=l) (h:=h) (by simpa using h1) (by simpa using h2)];grind
theorem uT(hz:∃w∈ws,w≠0):List.zipWith (λx y=>x*gW ws+y*0) (shW ws) (shW ws)=ws:=by
 unfold shW;have:∀(l:Ze),(∀a∈l,gW ws ∣ a)->List.zipWith (λx y=>x*gW ws+y*0) (l.map λa=>a.fdiv (gW ws)) (l.map λa=>a.fdiv (gW ws))=l:=λl=>by
  induction l with
  | nil=>intro _;rfl
  | cons a l ih =>
   intro h;show (a.fdiv (gW ws)*gW ws+_*0)::_=a::l;rw[ih λb hb=>h b (GP _ hb),Jb (h a (GT ..)),Int.mul_zero,JL]
 exact this ws λa ha=>lY ha
theorem mZ:(shW ws).length=ws.length:=GN ..
theorem Dy{rows:List Rw}{ws:Ze}(hl:ws.length=rows.length)(hz:∃w∈ws,w≠0):gW ws*cfs (rows.zip (shW ws)) n=cfs (rows.zip ws) n:=by
 have e:=mX (rows:=rows) (n:=n) (a:=gW ws) (b:=0) (l:=shW ws) (h:=shW ws) (by rw[mZ,hl]) (by rw[mZ,hl])
 rw[uT hz] at e;rw[e];omega
theorem C8(hz:∃w∈ws,w≠0)(i:Nat):((gW ws:Int):Rat)*Ge (shW ws) i=Ge ws i:=by
 have e:=nW (f:=λx y=>x*gW ws+y*0) (by omega) (l:=shW ws) (h:=shW ws) rfl i
 rw[uT hz] at e;rw[e];show _*((_:Int):Rat)=_;simp only[Int.mul_zero,Int.add_zero];rw[Hy];grind
theorem Gd(hz:∃w∈ws,w≠0)(h:∀a∈ws,0<=a):∀a∈shW ws,0<=a:=λa ha=>by
 obtain⟨b,hb,rfl⟩:=GR.mp ha;obtain⟨c,hc⟩:=lY hb;have g:=qj hz;have aa:=h b hb;have e:b.fdiv (gW ws)*gW ws=b:=Jb (lY hb);refine G2 λz=>?_;have:=Int.mul_lt_mul_of_pos_right (show b.fdiv (gW ws)<0 by omega) g;omega
theorem FF(hz:∃w∈ws,w≠0):∃a∈shW ws,a≠0:=by
 obtain⟨w,hw,hn⟩:=hz;refine⟨_,GR.mpr ⟨w,hw,rfl⟩,λz=>hn ?_⟩;have e:w.fdiv (gW ws)*gW ws=w:=Jb (lY hw);rw[z] at e;omega
theorem oC(hl:l.length=m)(hh:h.length=m):(crS rows n l h).length=m:=by unfold crS;rw[List.length_zipWith];omega
theorem CN(ha:0<a)(hb:0<b):∀ {l h:Ze},(∀x∈l,0<=x)->(∀x∈h,0<=x)->∀x∈List.zipWith (λx y=>x*a+y*b) l h,0<=x
 | [],_,_,_,x,hx=>by simp at hx
 | _::_,[],_,_,x,hx=>by simp at hx
 | u::l,v::h,h1,h2,x,hx=>by
  rw[JY] at hx
  rcases GY.mp hx with rfl | hx
  ·have:=Int.mul_nonneg (h1 u (GT ..)) (JN ha)
   have:=Int.mul_nonneg (h2 v (GT ..)) (JN hb)
   omega
  ·exact CN ha hb (λx hx=>h1 x (GP _ hx)) (λx hx=>h2 x (GP _ hx)) x hx
theorem D8(ha:0<a)(hb:0<b):∀ {l h:Ze},l.length=h.length->(∀x∈l,0<=x)->(∀x∈h,0<=x)->(∃x∈l,x≠0)->∃x∈List.zipWith (λx y=>x*a+y*b) l h,x≠0
 | [],_,_,_,_,⟨x,hx,_⟩=>by simp at hx
 | _::_,[],e,_,_,_=>by simp at e
 | u::l,v::h,e,h1,h2,⟨x,hx,hn⟩=>by
  rw[JY]
  rcases GY.mp hx with rfl | hx
  ·refine⟨_,GT ..,λz=>?_⟩;have:=Int.mul_pos (a:=x) (b:=a) (by have:=h1 x (GT ..);omega) ha;have:=Int.mul_nonneg (h2 v (GT ..)) (JN hb);omega
  ·obtain⟨y,hy,aa⟩:=D8 ha hb (by simpa using e) (λx hx=>h1 x (GP _ hx)) (λx hx=>h2 x (GP _ hx)) ⟨x,hx,hn⟩;exact⟨y,GP _ hy,aa⟩
section
theorem jS(wl:Wt rows.length l)(wh:Wt rows.length h)(cl:0<cfs (rows.zip l) n)(ch:cfs (rows.zip h) n<0):(∀a∈crS rows n l h,0<=a)/\∃a∈crS rows n l h,a≠0 :=
 ⟨CN (by omega) cl wl.nn wh.nn,D8 (by omega) cl (by rw[wl.len,wh.len]) wl.nn wh.nn wl.nz⟩
theorem tE(wl:Wt rows.length l)(wh:Wt rows.length h)(cl:0<cfs (rows.zip l) n)(ch:cfs (rows.zip h) n<0):Wt rows.length (crW rows n l h):=by
 obtain⟨h1,h2⟩:=jS wl wh cl ch;exact⟨by unfold crW;rw[mZ];exact oC wl.len wh.len,Gd h2 h1,FF h2⟩
theorem y7(wl:Wt rows.length l)(wh:Wt rows.length h)(cl:0<cfs (rows.zip l) n)(ch:cfs (rows.zip h) n<0):gW (crS rows n l h)*cfs (rows.zip (crW rows n l h)) k=-(cfs (rows.zip h) n)*cfs (rows.zip l) k+cfs (rows.zip l) n*cfs (rows.zip h) k:=by
 obtain⟨h1,h2⟩:=jS wl wh cl ch;unfold crW;rw[Dy (oC wl.len wh.len) h2];exact mX (rows:=rows) wl.len wh.len
theorem s0(wl:Wt rows.length l)(wh:Wt rows.length h)(cl:0<cfs (rows.zip l) n)(ch:cfs (rows.zip h) n<0)(i:Nat):((gW (crS rows n l h):Int):Rat)*Ge (crW rows n l h) i=-((cfs (rows.zip h) n:Int):Rat)*Ge l i+((cfs (rows.zip l) n:Int):Rat)*Ge h i:=by
 obtain⟨h1,h2⟩:=jS wl wh cl ch;unfold crW;rw[C8 h2];unfold crS;rw[nW (by omega) (by rw[wl.len,wh.len])];rw[IM,Hy,Hy,Rat.intCast_neg];unfold Ge
 grind
end
theorem iT{rows:List Rw}{W:List (List Int)}{w:List Int}:w∈woW rows n most W↔(w∈W/\cfs (rows.zip w) n=0)\/∃l∈W,0<cfs (rows.zip l) n/\∃h∈W,cfs (rows.zip h) n<0/\w=crW rows n l h/\usd w<=most:=by
 unfold woW;rw[Hb,G1,Je];refine or_congr (by simp) ?_
 constructor
 ·rintro⟨l,hl,hm⟩;obtain⟨ah,ab⟩:=G1.mp hl;obtain⟨aj,al⟩:=G1.mp hm;obtain⟨h,hh,rfl⟩:=GR.mp aj;obtain⟨aa,ai⟩:=G1.mp hh;exact⟨l,ah,by simpa using ab,h,aa,by simpa using ai,rfl,by simpa using al⟩
 ·rintro⟨l,hl,cl,h,hh,ch,rfl,hu⟩;exact⟨l,G1.mpr ⟨hl,by simpa using cl⟩,G1.mpr ⟨GR.mpr ⟨h,G1.mpr ⟨hh,by simpa using ch⟩,rfl⟩,by simpa using hu⟩⟩
theorem C1(h:j<m):Wt m (unW m j):=by
 refine⟨by unfold unW;simp,λa ha=>?_,1,?_,by decide⟩
 ·obtain⟨i,_,rfl⟩:=GR.mp ha
  split<;>decide
 ·exact GR.mpr ⟨j,Iq.mpr h,by simp⟩
theorem AM(h:j<m):Ge (unW m j)=By j:=by
 funext i
 unfold Ge unW By;rw[HY,G6]
 by_cases hi:i<m
 ·rw[JI hi];show (((if i=j then 1 else 0:Int)):Rat)=_
  by_cases e:i=j<;>simp[e]
 ·rw[HF (by simpa using Nat.le_of_not_lt hi)];have:i≠j:=by omega
  simp[this]
theorem cA:∀ {ns:Zb} {w:Ze},w∈Gr rows ns->Wt rows.length w/\∀n∈ns,cfs (rows.zip w) n=0
 | [],w,h=>by
  obtain⟨j,hj,rfl⟩:=GR.mp h;exact⟨C1 (Iq.mp hj),λ_ h=>(nomatch h)⟩
 | n::ns,w,h=>by
  rcases iT.mp h with⟨h1,h2⟩ | ⟨l,hl,cl,k,hk,ck,rfl,_⟩
  ·obtain⟨a,b⟩:=cA h1;exact⟨a,λx hx=>(GY.mp hx).elim (λe=>e ▸ h2) (b x)⟩
  ·obtain⟨a,b⟩:=cA hl;obtain⟨a',b'⟩:=cA hk;refine⟨tE a a' cl ck,λx hx=>?_⟩;have e:=y7 (k:=x) a a' cl ck;have g:=qj (jS a a' cl ck).2;have:-(cfs (rows.zip k) n)*cfs (rows.zip l) x+cfs (rows.zip l) n*cfs (rows.zip k) x=0:=by
    rcases GY.mp hx with rfl | hx
    ·grind
    ·rw[b x hx,b' x hx];omega
   rw[this] at e
   rcases Int.mul_eq_zero.mp e with z | z
   ·omega
   ·exact z
theorem vO:Kept rows.length (colV rows n) (ns.length+2) ((Gr rows ns).map Ge) ((Gr rows (n::ns)).map Ge):=by
 have dt:∀ {w},w∈Gr rows ns->GB rows.length (colV rows n) (Ge w)=((cfs (rows.zip w) n:Int):Rat):=λh=>(kC (cA h).1.len).symm
 constructor
 ·intro s hs;obtain⟨w,hw,rfl⟩:=GR.mp hs;exact t6 (cA hw).1.len (cA hw).1.nn
 ·intro s hs h0;obtain⟨w,hw,rfl⟩:=GR.mp hs;rw[dt hw] at h0;exact GR.mpr ⟨w,iT.mpr (.inl ⟨hw,Rat.intCast_inj.mp h0⟩),rfl⟩
 ·intro l hl h hh cl ch hz;obtain⟨l,aa,rfl⟩:=GR.mp hl;obtain⟨h,ab,rfl⟩:=GR.mp hh;clear hl hh;have hl:=aa;have hh:=ab;rw[dt hl] at cl hz ⊢;rw[dt hh] at ch hz ⊢;have cl:0<cfs (rows.zip l) n:=Rat.intCast_pos.mp cl;have ch:cfs (rows.zip h) n<0:=Rat.intCast_neg_iff.mp ch;have wl:=(cA hl).1;have wh:=(cA hh).1;have ww:=tE wl wh cl ch;have g:=qj (jS wl wh cl ch).2;have gr:(0:Rat)<((gW (crS rows n l h):Int):Rat):=Rat.intCast_pos.mpr g;refine⟨_,GR.mpr ⟨crW rows n l h,iT.mpr (.inr ⟨l,hl,cl,h,hh,ch,rfl,?_⟩),rfl⟩,_,gr,λi=>s0 wl wh cl ch i⟩;rw[<- yp ww.nn,ww.len];refine GS (xD _ λi _ hi=>?_) hz;rw[<- s0 wl wh cl ch i];intro z
  rcases JU.mp z with q | q
  ·grind
  ·exact hi q
theorem pG:∀ns:Zb,Comp rows.length (stV rows) (ns.map (colV rows)) ((Gr rows ns).map Ge)
 | []=>ul _ λj hj=>GR.mpr ⟨unW rows.length j,GR.mpr ⟨j,Iq.mpr hj,rfl⟩,AM hj⟩
 | n::ns=>sM (pG ns) (by rw[GN];exact vO)
def Gm(p:Int×Int):Rat:=(p.1:Rat) / (p.2:Rat)
theorem l5(h:a≠0):((a:Int):Rat)≠0:=λz=>h (Rat.intCast_inj.mp z)
theorem mv(h:0<a):(0:Rat)<((a:Int):Rat):=Rat.intCast_pos.mpr h
theorem oZ(t:Int)(h:b≠0):Gm (GJ t b,Gz t b)=(t:Rat) / (b:Rat):=by
 have c:=qr t b
 have hB:=(dX t h).ne
 have c2:((GJ t b:Int):Rat)*(b:Rat)=(t:Rat)*((Gz t b:Int):Rat):=by rw[<- Hy,<- Hy,c]
 have h1:=l5 h
 have h2:=l5 hB
 show ((GJ t b:Int):Rat) / ((Gz t b:Int):Rat)=_
 grind
theorem je(hp:0<p.2)(hq:0<q.2):Gm p<Gm q↔p.1*q.2<q.1*p.2:=by
 have h1:=mv hp
 have h2:=mv hq
 have h3:=Iy h1 h2
 have e1:Gm p*((p.2:Rat)*(q.2:Rat))=((p.1*q.2:Int):Rat):=by rw[Hy];unfold Gm;grind
 have e2:Gm q*((p.2:Rat)*(q.2:Rat))=((q.1*p.2:Int):Rat):=by rw[Hy];unfold Gm;grind
 rw[<- Rat.intCast_lt_intCast,<- e1,<- e2]
 constructor
 ·intro h;have:=Iy (a:=Gm q-Gm p) (by grind) h3
  grind
 ·intro h;refine G2 λz=>?_;have:=HL (a:=Gm p-Gm q) (b:=(p.2:Rat)*(q.2:Rat)) (by grind) (by grind)
  grind
theorem u9(hp:Gs p.1 p.2)(hq:Gs q.1 q.2)(e:Gm p=Gm q):p=q:=by
 have h1:¬ p.1*q.2<q.1*p.2:=λz=>by have:=(je hp.pos hq.pos).mpr z;grind
 have h2:¬ q.1*p.2<p.1*q.2:=λz=>by have:=(je hq.pos hp.pos).mpr z;grind
 have:=hp.uniq hq (by omega)
 exact Prod.ext this.1 this.2
theorem oF(a:Int):Gm (GJ a 1,Gz a 1)=(a:Rat):=by
 rw[oZ a (by decide)];show (a:Rat) / ((1:Int):Rat)=a;rw[show ((1:Int):Rat)=1 from rfl];grind
theorem yg(a:Int):GJ a 1=a/\Gz a 1=1:=Gs.self ⟨by decide,by unfold gc;simp⟩
theorem D5(h:0<p.2):((p.1.fdiv p.2:Int):Rat)<=Gm p/\Gm p<((p.1.fdiv p.2+1:Int):Rat):=by
 have m0:=Jg p.1 h
 have m1:=JS p.1 h
 have e:p.2*p.1.fdiv p.2+p.1.fmod p.2=p.1:=by rw[Int.fmod_def];omega
 have hr:=mv h
 generalize hf:p.1.fdiv p.2=f at *
 have e1:((f:Int):Rat)=Gm (f,1):=by unfold Gm;show _=((f:Int):Rat) / ((1:Int):Rat);rw[show ((1:Int):Rat)=1 from rfl];grind
 have e2:((f+1:Int):Rat)=Gm (f+1,1):=by unfold Gm;show _=((f+1:Int):Rat) / ((1:Int):Rat);rw[show ((1:Int):Rat)=1 from rfl];grind
 rw[e1,e2]
 constructor
 ·refine G2 λz=>?_;have:=(je (p:=p) (q:=(f,1)) h Int.one_pos).mp (by grind);simp only at this;have:p.2*f=f*p.2:=Im ..;omega
 ·refine(je (p:=p) (q:=(f+1,1)) h Int.one_pos).mpr ?_;simp only;rw[Int.add_mul];have:p.2*f=f*p.2:=Im ..;omega
def ptR(ks:Zb)(ps:Za):Str->Rat:=λn=>Gm (sy ks ps n)
theorem ov_R(h0:0<pB ks ps n)(hd:pB ks ps n ∣ K):((ov (pT ks ps) (pB ks ps) K n:Int):Rat)=(K:Rat)*ptR ks ps n:=by
 obtain⟨y,rfl⟩:=hd;have hn:pB ks ps n≠0:=by omega
 unfold ov ptR Gm;rw[JM _ hn,Hy,Hy];have:=l5 hn;show ((pT ks ps n:Int):Rat)*_=((pB ks ps n:Int):Rat)*_*(((pT ks ps n:Int):Rat) / ((pB ks ps n:Int):Rat))
 grind
theorem yn:∀ {ts:List (Str×Int)},(∀t∈ts,0<pB ks ps t.1/\pB ks ps t.1 ∣ K)->((fE (ov (pT ks ps) (pB ks ps) K) ts:Int):Rat)=(K:Rat)*fS (ptR ks ps) ts
 | [],_=>by show ((0:Int):Rat)=_*0;rw[show ((0:Int):Rat)=0 from rfl];grind
 | t::r,h=>by
  show ((t.2*ov _ _ K t.1+fE _ r:Int):Rat)=_*((t.2:Rat)*_+fS _ r)
  obtain⟨h1,h2⟩:=h t (GT ..);rw[IM,Hy,ov_R h1 h2,yn λu hu=>h u (GP _ hu)];grind
def bnd(ks:Zb)(ps:Za)(n:Str)(r:Rw):Int×Int :=
 let o:=r.2.1.filter λt=>decide (t.1≠n)
 let K:=bot (pB ks ps) (o.map (·.1))
 (GJ (r.2.2*K-fE (ov (pT ks ps) (pB ks ps) K) o) (cf r.2.1 n*K),Gz (r.2.2*K-fE (ov (pT ks ps) (pB ks ps) K) o) (cf r.2.1 n*K))
theorem eG(h:x n=0):∀ts:List (Str×Int),fS x (ts.filter λt=>decide (t.1≠n))=fS x ts
 | []=>rfl
 | t::r=>by
  by_cases e:t.1=n
  ·rw[Hk (by simp[e]),eG h r];show _=(t.2:Rat)*x t.1+_;rw[e,h];grind
  ·rw[HE (by simp[e])];show _+_=_+fS x r;rw[eG h r]
theorem Dx(hp:∀t∈r.2.1,t.1≠n->0<pB ks ps t.1)(h0:ptR ks ps n=0)(hc:cf r.2.1 n≠0) :
  Gs (bnd ks ps n r).1 (bnd ks ps n r).2/\Gm (bnd ks ps n r)=-(fS (ptR ks ps) r.2.1-(r.2.2:Int)) / ((cf r.2.1 n:Int):Rat):=by
 unfold bnd;have ho:∀t∈r.2.1.filter (λt=>decide (t.1≠n)),0<pB ks ps t.1:=λt ht=>by
  obtain⟨h1,h2⟩:=G1.mp ht;exact hp t h1 (by simpa using h2)
 have hs:=eG h0 r.2.1
 generalize ho':r.2.1.filter (λt=>decide (t.1≠n))=o at *
 have hK:0<bot (pB ks ps) (o.map (·.1)):=eD λk hk=>by
  obtain⟨t,ht,rfl⟩:=GR.mp hk;exact ho t ht
 have e:=yn (ks:=ks) (ps:=ps) (K:=bot (pB ks ps) (o.map (·.1))) (ts:=o) λt ht=>⟨ho t ht,i6 (GR.mpr ⟨t,ht,rfl⟩)⟩
 simp only;generalize bot (pB ks ps) (o.map (·.1))=K at *;have aa:cf r.2.1 n*K≠0:=Jt hc (by omega);refine⟨dX _ aa,?_⟩;rw[oZ _ aa,Hy,Rat.intCast_sub,Hy,e,hs];have h1:=l5 hc;have h2:=l5 (show K≠0 by omega)
 grind
abbrev En2:=Option (Int×Int)×Bool
def tgt(lo:Bool)(a b:En2):En2:=match a.1,b.1 with
 | none,_=>b
 | some _,none=>a
 | some p,some q=>if p=q then (some p,a.2&&b.2) else if decide (q.1*p.2<p.1*q.2)=lo then a else b
structure Tgt(lo:Bool)(cs:List ((Int×Int)×Bool))(e:En2):Prop where
 nn:e.1=none->cs=[]
 so:∀p,e.1=some p->Gs p.1 p.2/\(∃c∈cs,c.1=p/\c.2=e.2)/\∀c∈cs,(c.1=p/\(e.2=true->c.2=true))\/(c.1≠p/\(if lo then Gm c.1<Gm p else Gm p<Gm c.1))
theorem Tgt.nil:Tgt lo [] (none,false):=⟨λ_=>rfl,λ_ h=>(nomatch h)⟩
theorem Tgt.step(h:Tgt lo cs e)(hc:Gs c.1.1 c.1.2):Tgt lo (cs++[c]) (tgt lo e (some c.1,c.2)):=by
 obtain⟨e1,e2⟩:=e;obtain⟨q,b⟩:=c
 cases e1 with
 | none =>
  have:cs=[]:=h.nn rfl
  subst this;refine⟨λz=>(nomatch z),λp hp=>?_⟩
  cases hp
  exact⟨hc,⟨(q,b),by simp,rfl,rfl⟩,λc hc=>by
   have:c=(q,b):=by simpa using hc
   subst this;exact .inl ⟨rfl,id⟩⟩
 | some p =>
  obtain⟨lp,⟨w,hw,w1,w2⟩,all⟩:=h.so p rfl;show Tgt lo _ (if p=q then (some p,e2&&b) else if decide (q.1*p.2<p.1*q.2)=lo then (some p,e2) else (some q,b));have lt:=je (p:=q) (q:=p) hc.pos lp.pos;have gt:=je (p:=p) (q:=q) lp.pos hc.pos
  by_cases e:p=q
  ·rw[Hc e];subst e;refine⟨λz=>(nomatch z),λp' hp=>?_⟩
   cases hp
   refine⟨lp,?_,λc hc'=>?_⟩
   ·cases b
    ·exact⟨(p,false),by simp,rfl,by simp⟩
    ·exact⟨w,Hf _ hw,w1,by simpa using w2⟩
   ·rcases Hb.mp hc' with hc' | hc'
    ·rcases all c hc' with⟨a1,a2⟩ | a
     ·exact .inl ⟨a1,λz=>a2 (by simpa using (by simpa using z:e2=true/\b=true).1)⟩
     ·exact .inr a
    ·have:c=(p,b):=by simpa using hc'
     subst this;exact .inl ⟨rfl,λz=>(by simpa using z:e2=true/\b=true).2⟩
  ·rw[Ha e];have ne:Gm p≠Gm q:=λz=>e (u9 lp hc z)
   by_cases k:decide (q.1*p.2<p.1*q.2)=lo
   ·rw[Hc k];refine⟨λz=>(nomatch z),λp' hp=>?_⟩
    cases hp
    refine⟨lp,⟨w,Hf _ hw,w1,w2⟩,λc hc'=>?_⟩
    rcases Hb.mp hc' with hc' | hc'
    ·exact all c hc'
    ·have:c=(q,b):=by simpa using hc'
     subst this;refine .inr ⟨λz=>e z.symm,?_⟩
     cases lo
     ·have:=(decide_eq_false_iff_not.mp k)
      simp only[Bool.false_eq_true,if_false];have:¬ Gm q<Gm p:=λz=>this (lt.mp z)
      grind
     ·simp only[if_true];exact lt.mpr (decide_eq_true_eq.mp k)
   ·rw[Ha k];refine⟨λz=>(nomatch z),λp' hp=>?_⟩
    cases hp
    have pq:if lo then Gm p<Gm q else Gm q<Gm p:=by
     cases lo
     ·simp only[Bool.false_eq_true,if_false];simp only[Bool.not_eq_false,decide_eq_true_eq] at k;exact lt.mpr k
     ·simp only[if_true];simp only[decide_eq_true_eq] at k;have:¬ Gm q<Gm p:=λz=>k (lt.mp z)
      grind
    refine⟨hc,⟨(q,b),by simp,rfl,rfl⟩,λc hc'=>?_⟩
    rcases Hb.mp hc' with hc' | hc'
    ·have x:=all c hc'
     refine .inr ?_
     cases lo
     ·simp only[Bool.false_eq_true,if_false] at x pq ⊢;have:Gm q<Gm c.1:=by rcases x with x | x;rw[x.1];exact pq;grind
      exact⟨λz=>by rw[z] at this;grind,this⟩
     ·simp only[if_true] at x pq ⊢;have:Gm c.1<Gm q:=by rcases x with x | x;rw[x.1];exact pq;grind
      exact⟨λz=>by rw[z] at this;grind,this⟩
    ·have:c=(q,b):=by simpa using hc'
     subst this;exact .inl ⟨rfl,id⟩
def nmb(lo hi:Option (Int×Int)):Int×Int:=match lo,hi with
 | none,none=>(0,1)
 | none,some h=>(GJ (h.1.fdiv h.2-1) 1,Gz (h.1.fdiv h.2-1) 1)
 | some l,none=>(GJ (l.1.fdiv l.2+1) 1,Gz (l.1.fdiv l.2+1) 1)
 | some l,some h =>
  if GJ (l.1.fdiv l.2+1) 1*h.2<h.1*Gz (l.1.fdiv l.2+1) 1 then (GJ (l.1.fdiv l.2+1) 1,Gz (l.1.fdiv l.2+1) 1)
  else if l=h then l
  else
   let s:Int×Int:=(GJ (l.1*h.2+h.1*l.2) (l.2*h.2),Gz (l.1*h.2+h.1*l.2) (l.2*h.2))
   (GJ (s.1*1) (s.2*2),Gz (s.1*1) (s.2*2))
theorem C4{lo hi:En2}(h1:∀p,lo.1=some p->Gs p.1 p.2)(h2:∀p,hi.1=some p->Gs p.1 p.2)(hh:∀p q,lo.1=some p->hi.1=some q->Gm p<Gm q\/(Gm p=Gm q/\lo.2=true/\hi.2=true)) :
  Gs (nmb lo.1 hi.1).1 (nmb lo.1 hi.1).2/\(∀p,lo.1=some p->Gm p<Gm (nmb lo.1 hi.1)\/(Gm p=Gm (nmb lo.1 hi.1)/\lo.2=true))/\∀q,hi.1=some q->Gm (nmb lo.1 hi.1)<Gm q\/(Gm (nmb lo.1 hi.1)=Gm q/\hi.2=true):=by
 obtain⟨l,lb⟩:=lo;obtain⟨h,hb⟩:=hi;have L1:∀a,Gs (GJ a 1) (Gz a 1):=λa=>dX a (by decide)
 cases l with
 | none =>
  cases h with
  | none=>exact⟨(⟨by decide,by unfold gc;decide⟩:Gs 0 1),λp z=>(nomatch z),λp z=>(nomatch z)⟩
  | some h =>
   refine⟨L1 _,λp z=>(nomatch z),λp z=>?_⟩
   cases z
   have:=D5 (h2 _ rfl).pos
   refine .inl ?_;show Gm (GJ _ 1,Gz _ 1)<_;rw[oF,Rat.intCast_sub,show ((1:Int):Rat)=1 from rfl];grind
 | some l =>
  have hl:=h1 _ rfl
  have fl:=D5 hl.pos
  cases h with
  | none =>
   refine⟨L1 _,λp z=>?_,λp z=>(nomatch z)⟩
   cases z
   refine .inl ?_;show _<Gm (GJ _ 1,Gz _ 1);rw[oF];exact fl.2
  | some h =>
   have hH:=h2 _ rfl
   have c:=hh _ _ rfl rfl
   show Gs (nmb (some l) (some h)).1 (nmb (some l) (some h)).2/\(∀p,some l=some p->Gm p<Gm (nmb (some l) (some h))\/_/\lb=true)/\(∀q,some h=some q->Gm (nmb (some l) (some h))<Gm q\/_/\hb=true)
   unfold nmb;simp only
   by_cases k:GJ (l.1.fdiv l.2+1) 1*h.2<h.1*Gz (l.1.fdiv l.2+1) 1
   ·rw[Hc k];refine⟨L1 _,λp z=>?_,λp z=>?_⟩
    ·cases z;rw[oF];exact .inl fl.2
    ·cases z;exact .inl ((je (L1 _).pos hH.pos).mpr k)
   ·rw[Ha k]
    by_cases e:l=h
    ·rw[Hc e];subst e;have:lb=true/\hb=true:=by rcases c with c | c;grind;exact c.2
     exact⟨hl,λp z=>by cases z;exact .inr ⟨rfl,this.1⟩,λp z=>by cases z;exact .inr ⟨rfl,this.2⟩⟩
    ·rw[Ha e];have lt:Gm l<Gm h:=by
      rcases c with c | c
      ·exact c
      ·exact absurd (u9 hl hH c.1) e
     have nz:l.2*h.2≠0:=Jt hl.ne hH.ne
     have sl:=dX (l.1*h.2+h.1*l.2) nz
     have aa:Gz (l.1*h.2+h.1*l.2) (l.2*h.2)*2≠0:=Jt sl.ne (by decide)
     have e1:Gm (GJ (l.1*h.2+h.1*l.2) (l.2*h.2),Gz (l.1*h.2+h.1*l.2) (l.2*h.2))=Gm l+Gm h:=by
      rw[oZ _ nz,IM,Hy,Hy,Hy];have a1:=l5 hl.ne;have a2:=l5 hH.ne;unfold Gm
      grind
     have e2:Gm (GJ (GJ (l.1*h.2+h.1*l.2) (l.2*h.2)*1) (Gz (l.1*h.2+h.1*l.2) (l.2*h.2)*2),Gz (GJ (l.1*h.2+h.1*l.2) (l.2*h.2)*1) (Gz (l.1*h.2+h.1*l.2) (l.2*h.2)*2))=(Gm l+Gm h) / 2:=by
      rw[oZ _ aa,<- e1,Hy,Hy,show ((1:Int):Rat)=1 from rfl,show ((2:Int):Rat)=2 from rfl];have a1:=l5 sl.ne;unfold Gm
      grind
     refine⟨dX _ aa,λp z=>?_,λp z=>?_⟩
     ·cases z;rw[e2];exact .inl (by grind)
     ·cases z;rw[e2];exact .inl (by grind)
def Gp(nm:Zb)(rows:List Rw)(ks:Zb)(ps:Za)(n:Str)(w:Ze):(Int×Int)×Bool:=(bnd ks ps n (Gx nm rows w),!Gv (rows.zip w))
def pcs(nm:Zb)(rows:List Rw)(ks:Zb)(ps:Za)(n:Str)(W:List (List Int)):En2×En2 :=
  W.foldl (λe w =>
    (if 0<cfs (rows.zip w) n then tgt true e.1 (some (Gp nm rows ks ps n w).1,(Gp nm rows ks ps n w).2) else e.1,
     if cfs (rows.zip w) n<0 then tgt false e.2 (some (Gp nm rows ks ps n w).1,(Gp nm rows ks ps n w).2) else e.2)) ((none,false),(none,false))
theorem zk:∀(W:List (List Int)),(∀w∈W,cfs (rows.zip w) n≠0->Gs (Gp nm rows ks ps n w).1.1 (Gp nm rows ks ps n w).1.2) ->
    Tgt true ((W.filter λw=>decide (0<cfs (rows.zip w) n)).map (Gp nm rows ks ps n)) (pcs nm rows ks ps n W).1/\Tgt false ((W.filter λw=>decide (cfs (rows.zip w) n<0)).map (Gp nm rows ks ps n)) (pcs nm rows ks ps n W).2:=by
  intro W;unfold pcs;have:∀(W:List (List Int)) (c1 c2:List ((Int×Int)×Bool)) (e:En2×En2),(∀w∈W,cfs (rows.zip w) n≠0->Gs (Gp nm rows ks ps n w).1.1 (Gp nm rows ks ps n w).1.2)->Tgt true c1 e.1->Tgt false c2 e.2 ->
      Tgt true (c1++(W.filter λw=>decide (0<cfs (rows.zip w) n)).map (Gp nm rows ks ps n)) (W.foldl (λe w =>
    (if 0<cfs (rows.zip w) n then tgt true e.1 (some (Gp nm rows ks ps n w).1,(Gp nm rows ks ps n w).2) else e.1,
     if cfs (rows.zip w) n<0 then tgt false e.2 (some (Gp nm rows ks ps n w).1,(Gp nm rows ks ps n w).2) else e.2)) e).1 /\
      Tgt false (c2++(W.filter λw=>decide (cfs (rows.zip w) n<0)).map (Gp nm rows ks ps n)) (W.foldl (λe w =>
    (if 0<cfs (rows.zip w) n then tgt true e.1 (some (Gp nm rows ks ps n w).1,(Gp nm rows ks ps n w).2) else e.1,
     if cfs (rows.zip w) n<0 then tgt false e.2 (some (Gp nm rows ks ps n w).1,(Gp nm rows ks ps n w).2) else e.2)) e).2:=λW=>by
    induction W with
    | nil=>intro c1 c2 e _ h1 h2;simpa using ⟨h1,h2⟩
    | cons w W ih =>
      intro c1 c2 e hl h1 h2;have aa:=λw h=>hl w (GP _ h);rw[List.foldl_cons]
      by_cases p:0<cfs (rows.zip w) n
      · have q:¬ cfs (rows.zip w) n<0:=by omega
        rw[Hc p,Ha q,HE (by simpa using p),Hk (by simpa using q),Hs,List.append_cons];exact ih (c1++[Gp nm rows ks ps n w]) c2 (tgt true e.1 (some (Gp nm rows ks ps n w).1,(Gp nm rows ks ps n w).2),e.2) aa (h1.step (hl w (GT ..) (by omega))) h2
      · by_cases q:cfs (rows.zip w) n<0
        · rw[Ha p,Hc q,Hk (by simpa using p),HE (by simpa using q),Hs,List.append_cons];exact ih c1 (c2++[Gp nm rows ks ps n w]) (e.1,tgt false e.2 (some (Gp nm rows ks ps n w).1,(Gp nm rows ks ps n w).2)) aa h1 (h2.step (hl w (GT ..) (by omega)))
        · rw[Ha p,Ha q,Hk (by simpa using p),Hk (by simpa using q)];exact ih c1 c2 e aa h1 h2
  intro h;simpa using this W [] [] ((none,false),(none,false)) h .nil .nil
theorem ub(h:x n=0):∀l:List (Rw×Int),evl (xL x n v) l=evl x l+v*((cfs l n:Int):Rat)
 | []=>by show (0:Rat)=0+v*((0:Int):Rat);rw[show ((0:Int):Rat)=0 from rfl];grind
 | p::r=>by
  show _*(fS (xL x n v) p.1.2.1-_)+evl (xL x n v) r=_*(fS x p.1.2.1-_)+evl x r+v*((p.2*cf p.1.2.1 n+cfs r n:Int):Rat)
  rw[p9 h,ub h r,IM,Hy];grind
theorem Ck(h:Rws nm rows)(x:Str->Rat)(w:Ze):fS x (Gx nm rows w).2.1-((Gx nm rows w).2.2:Int)=evl x (rows.zip w):=by
 rw[sR (x:=x) h.nd (l:=rows.zip w) λp hp=>h.sub p.1 (HS hp).1];have e2:fS x (Mf.smT nm (Mf.cfs (rows.zip w)))=oB x (Mf.cfs (rows.zip w)) nm:=by
  rw[qM h.nd λt ht=>?_]
  ·congr 1;exact funext λn=>(h.smT w).cf n
  ·obtain⟨n,hn,rfl⟩:=GR.mp ht;exact(G1.mp hn).1
 show fS x (Mf.smT nm (Mf.cfs (rows.zip w)))-_=_
 rw[e2];rfl
theorem dU(h:Rws nm rows)(w:Ze)(n:Str):cf (Gx nm rows w).2.1 n=cfs (rows.zip w) n:=(h.smT w).cf n
theorem uh(ht:t∈(Gx nm rows w).2.1):t.1∈nm/\cfs (rows.zip w) t.1≠0/\t.2=cfs (rows.zip w) t.1:=by
 obtain⟨n,hn,rfl⟩:=GR.mp ht;obtain⟨h1,h2⟩:=G1.mp hn;exact⟨h1,by simpa using h2,rfl⟩
theorem Ah(H:Rws nm rows)(hso:∀w∈Gr rows (n::ns),soR x (Gx nm rows w))(hl:l∈Gr rows ns)(hh:h∈Gr rows ns)
    (cl:0<cfs (rows.zip l) n) (ch:cfs (rows.zip h) n<0) :
    -(evl x (rows.zip l)) / ((cfs (rows.zip l) n:Int):Rat) < -(evl x (rows.zip h)) / ((cfs (rows.zip h) n:Int):Rat) \/
      (-(evl x (rows.zip l)) / ((cfs (rows.zip l) n:Int):Rat)=-(evl x (rows.zip h)) / ((cfs (rows.zip h) n:Int):Rat)/\Gv (rows.zip l)=false/\Gv (rows.zip h)=false):=by
  obtain⟨wl,al⟩:=cA hl;obtain⟨wh,ah⟩:=cA hh;have nl:=t6 wl.len wl.nn;have nh:=t6 wh.len wh.nn;have c1:(0:Rat)<((cfs (rows.zip l) n:Int):Rat):=mv cl;have c2:((cfs (rows.zip h) n:Int):Rat)<0:=by have:=Rat.intCast_lt_intCast.mpr ch;simpa using this
  have aa:=pG (rows:=rows) (n::ns) (λ_=>True) (eV x rows) (λs hs _=>by
    obtain⟨w,hw,rfl⟩:=GR.mp hs
    exact(DX H (cA hw).1.len).mp (hso w hw)) (λi=>-((cfs (rows.zip h) n:Int):Rat)*Ge l i+((cfs (rows.zip l) n:Int):Rat)*Ge h i)
    ⟨λi=>by
      have a1:=HL (a:=-((cfs (rows.zip h) n:Int):Rat)) (b:=Ge l i) (by grind) (nl.pos i)
      have a2:=HL (a:=((cfs (rows.zip l) n:Int):Rat)) (b:=Ge h i) (by grind) (nh.pos i)
      grind,λi hi=>by rw[nl.top i hi,nh.top i hi];grind⟩
    (λc hc=>by
      obtain⟨k,hk,rfl⟩:=GR.mp hc;rw[cW,<- kC wl.len,<- kC wh.len]
      rcases GY.mp hk with rfl | hk
      · grind
      · rw[al k hk,ah k hk,show ((0:Int):Rat)=0 from rfl];grind) (λ_ _=>trivial)
  unfold sat at aa;rw[cW,<- lj wl.len,<- lj wh.len] at aa;generalize evl x (rows.zip l)=L at *;generalize evl x (rows.zip h)=R at *;generalize hcl:((cfs (rows.zip l) n:Int):Rat)=a at *;generalize hch:((cfs (rows.zip h) n:Int):Rat)=b at *;have e1:-b*L+a*R=((-R / b)-(-L / a))*(a*(-b)):=by grind
  have pp:=Iy (a:=a) (b:=-b) c1 (by grind)
  rw[e1] at aa
  rcases aa with k | ⟨k,st⟩
  · refine .inl (G2 λz=>?_);have:=HL (a:=(-L / a)-(-R / b)) (b:=a * -b) (by grind) (by grind)
    grind
  · refine .inr ⟨by rcases JU.mp k with q | q<;>grind,(qz wl.len).mpr λi hi hp=>st i hi ?_,(qz wh.len).mpr λi hi hp=>st i hi ?_⟩
    · have a1:=Iy (a:=-b) (b:=Ge l i) (by grind) hp
      have a2:=HL (a:=a) (b:=Ge h i) (by grind) (nh.pos i)
      grind
    · have a1:=HL (a:=-b) (b:=Ge l i) (by grind) (nl.pos i)
      have a2:=Iy (a:=a) (b:=Ge h i) c1 hp
      grind
theorem back(H:Rws nm rows)(hso:∀w∈Gr rows (n::ns),soR (ptR ks ps) (Gx nm rows w))(h0:ptR ks ps n=0)
  (hp:∀w∈Gr rows ns,∀t∈(Gx nm rows w).2.1,t.1≠n->0<pB ks ps t.1) :
  Gs (nmb (pcs nm rows ks ps n (Gr rows ns)).1.1 (pcs nm rows ks ps n (Gr rows ns)).2.1).1 (nmb (pcs nm rows ks ps n (Gr rows ns)).1.1 (pcs nm rows ks ps n (Gr rows ns)).2.1).2 /\
   ∀w∈Gr rows ns,soR (xL (ptR ks ps) n (Gm (nmb (pcs nm rows ks ps n (Gr rows ns)).1.1 (pcs nm rows ks ps n (Gr rows ns)).2.1))) (Gx nm rows w):=by
 have bo:∀w∈Gr rows ns,cfs (rows.zip w) n≠0->Gs (Gp nm rows ks ps n w).1.1 (Gp nm rows ks ps n w).1.2/\Gm (Gp nm rows ks ps n w).1=-(evl (ptR ks ps) (rows.zip w)) / ((cfs (rows.zip w) n:Int):Rat):=λw hw hc=>by
  have:=Dx (hp w hw) h0 (by rw[dU H];exact hc)
  rw[Ck H,dU H] at this;exact this
 obtain⟨T1,T2⟩:=zk (nm:=nm) (rows:=rows) (ks:=ks) (ps:=ps) (n:=n) (Gr rows ns) λw hw hc=>(bo w hw hc).1;generalize pcs nm rows ks ps n (Gr rows ns)=e at *;obtain⟨lo,hi⟩:=e;simp only at *;have at1:∀p,lo.1=some p->∃l∈Gr rows ns,0<cfs (rows.zip l) n/\p=(Gp nm rows ks ps n l).1/\lo.2=!Gv (rows.zip l):=λp hp=>by
  obtain⟨_,⟨c,hc,e1,e2⟩,_⟩:=T1.so p hp;obtain⟨l,hl,rfl⟩:=GR.mp hc;obtain⟨ah,ab⟩:=G1.mp hl;exact⟨l,ah,by simpa using ab,e1.symm,e2.symm⟩
 have at2:∀p,hi.1=some p->∃l∈Gr rows ns,cfs (rows.zip l) n<0/\p=(Gp nm rows ks ps n l).1/\hi.2=!Gv (rows.zip l):=λp hp=>by
  obtain⟨_,⟨c,hc,e1,e2⟩,_⟩:=T2.so p hp;obtain⟨l,hl,rfl⟩:=GR.mp hc;obtain⟨ah,ab⟩:=G1.mp hl;exact⟨l,ah,by simpa using ab,e1.symm,e2.symm⟩
 obtain⟨ai,v1,v2⟩:=C4 (lo:=lo) (hi:=hi) (λp h=>(T1.so p h).1) (λp h=>(T2.so p h).1) λp q hp hq=>by
  obtain⟨l,hl,cl,rfl,sl⟩:=at1 p hp;obtain⟨h,hh,ch,rfl,sh⟩:=at2 q hq;rw[(bo l hl (by omega)).2,(bo h hh (by omega)).2]
  rcases Ah H hso hl hh cl ch with k | ⟨k1,k2,k3⟩
  ·exact .inl k
  ·exact .inr ⟨k1,by rw[sl,k2];rfl,by rw[sh,k3];rfl⟩
 refine⟨ai,λw hw=>?_⟩;rw[uD H,ub h0];generalize Gm (nmb lo.1 hi.1)=v at *
 rcases Int.lt_trichotomy (cfs (rows.zip w) n) 0 with c | c | c
 ·obtain⟨_,b2⟩:=bo w hw (by omega);have cr:((cfs (rows.zip w) n:Int):Rat)<0:=by have:=Rat.intCast_lt_intCast.mpr c;simpa using this
  have hm:Gp nm rows ks ps n w∈((Gr rows ns).filter λw=>decide (cfs (rows.zip w) n<0)).map (Gp nm rows ks ps n):=GR.mpr ⟨w,G1.mpr ⟨hw,by simpa using c⟩,rfl⟩
  cases hlo:hi.1 with
  | none=>rw[T2.nn hlo] at hm;cases hm
  | some p =>
   have vv:=v2 p hlo
   have aa:v<Gm (Gp nm rows ks ps n w).1\/(v=Gm (Gp nm rows ks ps n w).1/\Gv (rows.zip w)=false):=by
    rcases(T2.so p hlo).2.2 _ hm with⟨z1,z2⟩ | ⟨_,z⟩
    ·rw[z1];refine vv.imp id λ⟨y1,y2⟩=>⟨y1,?_⟩;have:(!Gv (rows.zip w))=true:=z2 y2;simpa using this
    ·simp only[Bool.false_eq_true,if_false] at z;exact .inl (by grind)
   rw[b2] at aa;generalize evl (ptR ks ps) (rows.zip w)=L at *;generalize ((cfs (rows.zip w) n:Int):Rat)=a at *;have e1:L+v*a=((-L / a)-v)*(-a):=by grind
   rw[e1]
   rcases aa with k | k
   ·exact .inl (Iy (by grind) (by grind))
   ·exact .inr ⟨by rw[<- k.1];grind,k.2⟩
 ·have:=hso w (iT.mpr (.inl ⟨hw,c⟩))
  rw[uD H] at this;rw[c,show ((0:Int):Rat)=0 from rfl];have e:evl (ptR ks ps) (rows.zip w)+v*0=evl (ptR ks ps) (rows.zip w):=by grind
  rw[e];exact this
 ·obtain⟨_,b2⟩:=bo w hw (by omega);have cr:(0:Rat)<((cfs (rows.zip w) n:Int):Rat):=mv c;have hm:Gp nm rows ks ps n w∈((Gr rows ns).filter λw=>decide (0<cfs (rows.zip w) n)).map (Gp nm rows ks ps n):=GR.mpr ⟨w,G1.mpr ⟨hw,by simpa using c⟩,rfl⟩
  cases hlo:lo.1 with
  | none=>rw[T1.nn hlo] at hm;cases hm
  | some p =>
   have vv:=v1 p hlo
   have aa:Gm (Gp nm rows ks ps n w).1<v\/(Gm (Gp nm rows ks ps n w).1=v/\Gv (rows.zip w)=false):=by
    rcases(T1.so p hlo).2.2 _ hm with⟨z1,z2⟩ | ⟨_,z⟩
    ·rw[z1];refine vv.imp id λ⟨y1,y2⟩=>⟨y1,?_⟩;have:(!Gv (rows.zip w))=true:=z2 y2;simpa using this
    ·simp only[if_true] at z;exact .inl (by grind)
   rw[b2] at aa;generalize evl (ptR ks ps) (rows.zip w)=L at *;generalize ((cfs (rows.zip w) n:Int):Rat)=a at *;have e1:L+v*a=(v-(-L / a))*a:=by grind
   rw[e1]
   rcases aa with k | k
   ·exact .inl (Iy (by grind) (by grind))
   ·exact .inr ⟨by rw[<- k.1];grind,k.2⟩
theorem pP:∀ {ks:Zb} {ps:List α},ps.length=ks.length->n∉ks->dAt (ks++[n]) (ps++[v]) k=if k=n then some v else dAt ks ps k
 | [],[],_,_=>by
  show (if n=k then some v else dAt [] [] k)=if k=n then some v else none
  by_cases e:n=k
  ·rw[Hc e,Hc e.symm]
  ·rw[Ha e,Ha λz=>e z.symm];rfl
 | x::ks,p::ps,h,hn=>by
  rw[GY,not_or] at hn;show (if x=k then some p else dAt (ks++[n]) (ps++[v]) k)=_;rw[pP (by simpa using h) hn.2]
  by_cases e:x=k
  ·rw[Hc e,Ha λz=>hn.1 (z.symm.trans e.symm)];show _=if x=k then some p else dAt ks ps k;rw[Hc e]
  ·rw[Ha e];show _=if k=n then some v else if x=k then some p else dAt ks ps k;rw[Ha e]
theorem mI(h:ps.length=ks.length)(hn:n∉ks):sy (ks++[n]) (ps++[v]) k=if k=n then v else sy ks ps k:=by
 unfold sy;rw[pP h hn]
 by_cases e:k=n
 ·rw[Hc e,Hc e];rfl
 ·rw[Ha e,Ha e]
theorem wV(H:Rws nm rows)(hj:rows[j]?=some r):Gx nm rows (unW rows.length j)=r:=by
 have hr:=G9 hj
 have ab:j<rows.length:=(GZ.mp hj).1
 have z:∀ {i:Nat} {rs:List Rw} (k:Nat),k+rs.length<=i->∀n,cfs (rs.zip ((List.range' k rs.length).map λx=>if x=i then (1:Int) else 0)) n=0/\bds (rs.zip ((List.range' k rs.length).map λx=>if x=i then (1:Int) else 0))=0/\Gv (rs.zip ((List.range' k rs.length).map λx=>if x=i then (1:Int) else 0))=false:=λ{i rs}=>by
  induction rs with
  | nil=>intro k _ n;exact⟨rfl,rfl,rfl⟩
  | cons a rs ih =>
   intro k hk n;rw[G0] at hk;obtain⟨i1,i2,i3⟩:=ih (k+1) (by omega) n;rw[G0,List.range'_succ,Hs,Ha (by omega)];refine⟨?_,?_,?_⟩
   ·show 0*cf a.2.1 n+cfs (rs.zip _) n=0
    rw[i1];omega
   ·show 0*a.2.2+bds (rs.zip _)=0
    rw[i2];omega
   ·show ((isM a.1&&decide ((0:Int)<0))||Gv (rs.zip _))=false
    rw[i3];simp
 have z2:∀ {i:Nat} {rs:List Rw} (k:Nat),i<k->∀n,cfs (rs.zip ((List.range' k rs.length).map λx=>if x=i then (1:Int) else 0)) n=0/\bds (rs.zip ((List.range' k rs.length).map λx=>if x=i then (1:Int) else 0))=0/\Gv (rs.zip ((List.range' k rs.length).map λx=>if x=i then (1:Int) else 0))=false:=λ{i rs}=>by
  induction rs with
  | nil=>intro k _ n;exact⟨rfl,rfl,rfl⟩
  | cons a rs ih =>
   intro k hk n;obtain⟨i1,i2,i3⟩:=ih (k+1) (by omega) n;rw[G0,List.range'_succ,Hs,Ha (by omega)];refine⟨?_,?_,?_⟩
   ·show 0*cf a.2.1 n+cfs (rs.zip _) n=0
    rw[i1];omega
   ·show 0*a.2.2+bds (rs.zip _)=0
    rw[i2];omega
   ·show ((isM a.1&&decide ((0:Int)<0))||Gv (rs.zip _))=false
    rw[i3];simp
 have aa:∀ {rs:List Rw} (k i:Nat),rs[i]?=some r->∀n,cfs (rs.zip ((List.range' k rs.length).map λx=>if x=k+i then (1:Int) else 0)) n=cf r.2.1 n/\bds (rs.zip ((List.range' k rs.length).map λx=>if x=k+i then (1:Int) else 0))=r.2.2/\Gv (rs.zip ((List.range' k rs.length).map λx=>if x=k+i then (1:Int) else 0))=isM r.1:=λ{rs}=>by
  induction rs with
  | nil=>intro k i h;cases h
  | cons a rs ih =>
   intro k i h n;rw[G0,List.range'_succ,Hs]
   cases i with
   | zero =>
    cases h
    obtain⟨i1,i2,i3⟩:=z2 (i:=k) (rs:=rs) (k+1) (by omega) n;rw[Hc (by omega)];refine⟨?_,?_,?_⟩
    ·show 1*cf r.2.1 n+cfs (rs.zip _) n=_
     rw[Nat.add_zero,i1];omega
    ·show 1*r.2.2+bds (rs.zip _)=_
     rw[Nat.add_zero,i2];omega
    ·show ((isM r.1&&decide ((0:Int)<1))||Gv (rs.zip _))=_
     rw[Nat.add_zero,i3];simp
   | succ i =>
    obtain⟨i1,i2,i3⟩:=ih (k+1) i h n;rw[Ha (by omega),show k+(i+1)=k+1+i by omega];refine⟨?_,?_,?_⟩
    ·show 0*cf a.2.1 n+cfs (rs.zip _) n=_
     rw[i1];omega
    ·show 0*a.2.2+bds (rs.zip _)=_
     rw[i2];omega
    ·show ((isM a.1&&decide ((0:Int)<0))||Gv (rs.zip _))=_
     rw[i3];simp
 have k0:=aa (rs:=rows) 0 j hj
 have e:unW rows.length j=(List.range' 0 rows.length).map λx=>if x=0+j then (1:Int) else 0:=by unfold unW;rw[List.range_eq_range',Nat.zero_add]
 rw[<- e] at k0;have f1:(λn=>cfs (rows.zip (unW rows.length j)) n)=cf r.2.1:=funext λn=>(k0 n).1;have s1:=H.smT (unW rows.length j);unfold Gx;have t1:Mf.smT nm (Mf.cfs (rows.zip (unW rows.length j)))=r.2.1:=by
  have f2:Mf.cfs (rows.zip (unW rows.length j))=cf r.2.1:=f1
  rw[f2] at s1 ⊢;exact s1.uniq (H.sum r hr)
 rw[t1,(k0 "").2.1,(k0 "").2.2];obtain⟨k,ts,b⟩:=r
 cases k<;>rfl
abbrev ib(x:Int):Nat:=Builtin.Int.intBits x
def wb(B m:Nat):Nat->Nat
 | 0=>1
 | k+1=>2*wb B m k+B+m+1
def cb(B m k:Nat):Nat:=wb B m k+B+m
structure RwB(B:Nat)(rows:List Rw):Prop where
 tm:∀r∈rows,∀t∈r.2.1,ib t.2<=B
 bd:∀r∈rows,ib r.2.2<=B
theorem ib0:ib 0=0:=by decide
theorem zB(nd:(ts.map (·.1)).Nodup)(h:∀t∈ts,ib t.2<=B):ib (cf ts n)<=B:=by
 by_cases e:n∈ts.map (·.1)
 ·obtain⟨t,ht,rfl⟩:=GR.mp e;rw[mo nd ht];exact h t ht
 ·rw[jb e,ib0];exact Ir _
theorem pI{W:Nat}:∀ {l:List (Rw×Int)},(∀p∈l,ib (cf p.1.2.1 n)<=B/\ib p.2<=W)->ib (cfs l n)<=W+B+l.length
 | [],_=>by show ib 0<=_;rw[ib0];omega
 | p::r,h=>by
  have h1:=h p (GT ..)
  have:=Jf (HH h1.2 h1.1) (pI (B:=B) (W:=W) (n:=n) λq hq=>h q (GP _ hq))
  show ib (p.2*cf p.1.2.1 n+cfs r n)<=_
  rw[G0];unfold ib;omega
theorem qc{W:Nat}:∀ {l:List (Rw×Int)},(∀p∈l,ib p.1.2.2<=B/\ib p.2<=W)->ib (bds l)<=W+B+l.length
 | [],_=>by show ib 0<=_;rw[ib0];omega
 | p::r,h=>by
  have h1:=h p (GT ..)
  have:=Jf (HH h1.2 h1.1) (qc (B:=B) (W:=W) λq hq=>h q (GP _ hq))
  show ib (p.2*p.1.2.2+bds r)<=_
  rw[G0];unfold ib;omega
section
theorem Rws.cfb{rows:List Rw}(H:Rws nm rows)(hb:RwB B rows){w:Ze}{W:Nat}(hw:∀a∈w,ib a<=W)(n:Str):ib (Mf.cfs (rows.zip w) n)<=W+B+rows.length:=by
 refine GS (pI (B:=B) (W:=W) λp hp=>⟨zB (H.sum _ (HS hp).1).nd (hb.tm _ (HS hp).1),hw _ (HS hp).2⟩) ?_;rw[IL];omega
theorem Rws.bdb{rows:List Rw}(hb:RwB B rows){w:Ze}{W:Nat}(hw:∀a∈w,ib a<=W):ib (Mf.bds (rows.zip w))<=W+B+rows.length:=by
 refine GS (qc (B:=B) (W:=W) λp hp=>⟨hb.bd _ (HS hp).1,hw _ (HS hp).2⟩) ?_;rw[IL];omega
theorem tO{W:Nat}(ha:ib a<=C)(hb:ib b<=C):∀ {l h:Ze},(∀x∈l,ib x<=W)->(∀x∈h,ib x<=W)->∀x∈List.zipWith (λx y=>x*a+y*b) l h,ib x<=W+C+1
 | [],_,_,_,x,hx=>by simp at hx
 | _::_,[],_,_,x,hx=>by simp at hx
 | u::l,v::h,h1,h2,x,hx=>by
  rw[JY] at hx
  rcases GY.mp hx with rfl | hx
  ·have:=Jf (HH (h1 u (GT ..)) ha) (HH (h2 v (GT ..)) hb)
   unfold ib;omega
  ·exact tO ha hb (λx hx=>h1 x (GP _ hx)) (λx hx=>h2 x (GP _ hx)) x hx
theorem uP:wb B m k<=wb B m (k+1):=by
 show wb B m k<=2*wb B m k+B+m+1
 omega
theorem kf(H:Rws nm rows)(hb:RwB B rows)(hl:∀a∈l,ib a<=wb B rows.length k)(hh:∀a∈h,ib a<=wb B rows.length k):∀a∈crS rows n l h,ib a<=wb B rows.length (k+1):=λa ha=>by
 have:=tO (C:=cb B rows.length k) (JC (H.cfb hb hh n)) (H.cfb hb hl n) hl hh a ha
 show ib a<=2*wb B rows.length k+B+rows.length+1
 unfold cb at this;omega
theorem gP(H:Rws nm rows)(hb:RwB B rows):∀ {ns:Zb} {w:Ze},w∈Gr rows ns->∀a∈w,ib a<=wb B rows.length ns.length
 | [],w,h,a,ha=>by
  obtain⟨j,hj,rfl⟩:=GR.mp h;obtain⟨i,_,rfl⟩:=GR.mp ha;show ib _<=1
  split<;>decide
 | n::ns,w,h,a,ha=>by
  rw[G0]
  rcases iT.mp h with⟨h1,h2⟩ | ⟨l,hl,cl,k,hk,ck,rfl,_⟩
  ·exact GS (gP H hb h1 a ha) uP
  ·obtain⟨b,aa,rfl⟩:=GR.mp ha;exact Ic (kf H hb (gP H hb hl) (gP H hb hk) b aa)
end
theorem zab(h1:z+a+b<=c)(h4:4<=c):z+a*b<=c*c / 4:=by
 refine(J9 (by decide)).mpr ?_;have e1:4*(a*b)<=(a+b)*(a+b):=by
  have:(a+b)*(a+b)=a*a+2*(a*b)+b*b:=by rw[Nat.add_mul,J2,J2,Nat.mul_comm b a];omega
  rcases Nat.le_total a b with q | q
  ·obtain⟨d,rfl⟩:=JV q;have e:(a+d)*(a+d)=a*a+2*(a*d)+d*d:=by rw[Nat.add_mul,J2,J2,Nat.mul_comm d a];omega
   have e':a*(a+d)=a*a+a*d:=J2 ..
   omega
  ·obtain⟨d,rfl⟩:=JV q;have e:(b+d)*(b+d)=b*b+2*(b*d)+d*d:=by rw[Nat.add_mul,J2,J2,Nat.mul_comm d b];omega
   have e':(b+d)*b=b*b+b*d:=by rw[Nat.add_mul,Nat.mul_comm d b]
   omega
 have e2:(a+b)*(a+b)+4*z<=c*c:=by
  obtain⟨t,ht⟩:=JV (show a+b+z<=c by omega);have hs:c*c=(a+b)*(a+b)+(z+t)*(a+b+c):=by
   have:c=(a+b)+(z+t):=by omega
   generalize hx:a+b=x at *
   generalize hy:z+t=y at *
   subst this
   grind
  rw[hs];have:(z+t)*(a+b+c) ≥ z*4:=Nat.mul_le_mul (by omega) (by omega);omega
 omega
theorem cnt3{rows:List Rw}:∀W:List (List Int),(W.filter λw=>decide (cfs (rows.zip w) n=0)).length+(W.filter λw=>decide (0<cfs (rows.zip w) n)).length+(W.filter λw=>decide (cfs (rows.zip w) n<0)).length=W.length
 | []=>rfl
 | w::W=>by
  have ih:=cnt3 (rows:=rows) (n:=n) W
  rcases Int.lt_trichotomy (cfs (rows.zip w) n) 0 with q | q | q
  ·rw[Hk (by simp;omega),Hk (by simp;omega),HE (by simpa using q),G0,G0];omega
  ·rw[HE (by simpa using q),Hk (by simp;omega),Hk (by simp;omega),G0,G0];omega
  ·rw[Hk (by simp;omega),HE (by simpa using q),Hk (by simp;omega),G0,G0];omega
theorem kd(R:List (List Int)):∀L:List (List Int),(L.flatMap λl=>(R.map (crW rows n l)).filter λu=>decide (usd u<=most)).length<=L.length*R.length
 | []=>by simp
 | l::L=>by
  have ih:=kd (rows:=rows) (n:=n) (most:=most) R L
  rw[List.flatMap_cons,GV,G0,Nat.succ_mul];have:=HW (λu=>decide (usd u<=most)) (R.map (crW rows n l));rw[GN] at this;omega
theorem vR{W:List (List Int)}(h:W.length<=c)(h4:4<=c):(woW rows n most W).length<=c*c / 4:=by
 unfold woW;rw[GV];have h1:=cnt3 (rows:=rows) (n:=n) W;have h2:=kd (rows:=rows) (n:=n) (most:=most) (W.filter λw=>decide (cfs (rows.zip w) n<0)) (W.filter λw=>decide (0<cfs (rows.zip w) n));exact GS (Nat.add_le_add_left h2 _) (zab (by omega) h4)
def cnt:Nat->Nat->Nat
 | c,0=>c
 | c,k+1=>cnt c k*cnt c k / 4
theorem nV(h:rows.length<=c)(h4:4<=c):∀ns:Zb,(Gr rows ns).length<=cnt c ns.length/\4<=cnt c ns.length
 | []=>⟨by show (vn rows.length).length<=c;unfold vn;rw[GN,Il];exact h,h4⟩
 | n::ns=>by
  obtain⟨h1,h2⟩:=nV h h4 ns;refine⟨vR h1 h2,?_⟩;show 4<=cnt c ns.length*cnt c ns.length / 4;refine(J9 (by decide)).mpr ?_;exact Nat.mul_le_mul h2 h2
theorem kW(h:a ∣ b)(h0:b≠0)(hb:ib b<=n):ib a<=n:=intBits_le_of_natAbs (Nat.le_of_dvd (by omega) (Int.natAbs_dvd_natAbs.mpr h)) hb
theorem sT:∀ {l ks:Zb},l.Nodup->(∀n∈l,n∈ks)->bot q l ∣ bot q ks
 | [],ks,_,_=>⟨bot q ks,(Int.one_mul _).symm⟩
 | n::l,ks,nd,h=>by
  obtain⟨h1,h2⟩:=Ib.mp nd;have hn:=h n (GT ..);have e:bot q ks=q n*bot q (ks.erase n):=wC (List.perm_cons_erase hn);have:=sT (q:=q) (l:=l) (ks:=ks.erase n) h2 λk hk=>(List.mem_erase_of_ne (λ(z:k=n)=>h1 (z ▸ hk))).mpr (h k (GP _ hk));rw[e];exact Int.mul_dvd_mul (Int.dvd_refl _) this
theorem mP:∀ {l:Zb},(∀n∈l,q n=q' n)->bot q l=bot q' l
 | [],_=>rfl
 | n::l,h=>by show q n*_=q' n*_;rw[h n (GT ..),mP λk hk=>h k (GP _ hk)]
theorem jQ:∀ {ts:List (Str×Int)},(∀t∈ts,ib t.2<=c/\ib (f t.1)<=m)->ib (fE f ts)<=c+m+ts.length
 | [],_=>by show ib 0<=_;rw[ib0];omega
 | t::r,h=>by
  have h1:=h t (GT ..)
  have h2:=Jf (HH h1.1 h1.2) (jQ (c:=c) (m:=m) λu hu=>h u (GP _ hu))
  show ib (t.2*f t.1+fE f r)<=_
  rw[G0];unfold ib;omega
inductive Cu where
 | bot | at (x:Rat) (b:Bool) | top
def Cu.lt:Cu->Cu->Prop
 | .bot,.bot=>False
 | .bot,_=>True
 | .at x b,.at y c=>x<y\/(x=y/\b=false/\c=true)
 | .at _ _,.top=>True
 | _,_=>False
theorem Cu.irr(a:Cu):¬ Cu.lt a a:=by cases a<;>simp[Cu.lt]
theorem Cu.trans(h:Cu.lt a b)(h':Cu.lt b c):Cu.lt a c:=by
 cases a<;>cases b<;>cases c<;>simp[Cu.lt] at *<;>grind
theorem Cu.tot(a b:Cu):Cu.lt a b\/a=b\/Cu.lt b a:=by
 cases a<;>cases b<;>simp[Cu.lt]
 grind
instance:LT Cu:=⟨Cu.lt⟩
instance:LE Cu:=⟨λa b=>¬ Cu.lt b a⟩
instance:Std.IsLinearOrder Cu where
 le_refl a:=Cu.irr a
 le_trans a b c h h':=λz=>by
  rcases Cu.tot a b with k | k | k
  ·exact h' (Cu.trans z k)
  ·subst k;exact h' z
  ·exact h k
 le_antisymm a b h h':=by
  rcases Cu.tot a b with k | k | k
  ·exact absurd k h'
  ·exact k
  ·exact absurd k h
 le_total a b:=by
  rcases Cu.tot a b with k | k | k
  ·exact .inl λz=>Cu.irr _ (Cu.trans k z)
  ·subst k;exact .inl (Cu.irr _)
  ·exact .inr λz=>Cu.irr _ (Cu.trans k z)
instance:Std.LawfulOrderLT Cu where
 lt_iff _ _:=⟨λh=>⟨λz=>Cu.irr _ (Cu.trans h z),λz=>z h⟩,λ⟨_,h⟩=>Classical.not_not.mp h⟩
abbrev Pc:=En2×En2
def cl(e:En2):Cu:=match e.1 with | none=>.bot | some p=>.at (Gm p) (!e.2)
def ch(e:En2):Cu:=match e.1 with | none=>.top | some p=>.at (Gm p) e.2
structure EnOk(S:Int×Int->Prop)(e:En2):Prop where
 low:∀p,e.1=some p->Gs p.1 p.2/\S p
 no:e.1=none->e.2=false
theorem En.none{S:Int×Int->Prop}:EnOk S (none,false):=⟨λ_ h=>(nomatch h),λ_=>rfl⟩
end Mf
namespace Lw
open PySem L2 DL
variable {P:Program} {w:World} {K:Zf} {mg:Str→Zd} {base:Heap}
structure Zz where
 P:Program
 w:World
 K:Zf
 mg:Str->Zd
 base:Heap
 x0:Fd K mg "common_divisor" s_common_divisor ["one","other"]
 x1:Fd K mg "made" s_made ["top","bottom"]
 x2:Fd K mg "plus" s_plus ["one","other"]
 x3:Fd K mg "times" s_times ["one","other"]
 x4:Fd K mg "less" s_less ["one","other"]
 x5:Fd K mg "is_row" s_is_row ["saying"]
 x6:Fd K mg "mark_names" s_mark_names ["saying","found"]
 x7:Fd K mg "names_of" s_names_of ["saying"]
 x8:Fd K mg "tops_of" s_tops_of ["names","point"]
 x9:Fd K mg "top_of_sum" s_top_of_sum ["terms","tops"]
 x10:Fd K mg "row_is_so" s_row_is_so ["row","tops","bottom"]
 x11:Fd K mg "part_is_so" s_part_is_so ["saying","tops","bottom"]
 x12:Fd K mg "is_so" s_is_so ["saying","point"]
 x13:Fd K mg "contrary" s_contrary ["row"]
 x14:Fd K mg "plain_part" s_plain_part ["saying","turned"]
 x15:Fd K mg "plain" s_plain ["saying"]
 x16:Fd K mg "put_together" s_put_together ["one","other"]
 x17:Fd K mg "cases_within" s_cases_within ["part","whole"]
 x18:Fd K mg "cases" s_cases ["saying"]
 x19:Fd K mg "added" s_added ["rows","weights"]
 x20:Fd K mg "weight_of" s_weight_of ["name","row"]
 x21:Fd K mg "alone" s_alone ["rows"]
 x22:Fd K mg "shortened" s_shortened ["weights"]
 x23:Fd K mg "crossed" s_crossed ["low","high","name"]
 x24:Fd K mg "without" s_without ["rows","sums","name","most"]
 x25:Fd K mg "taken_out" s_taken_out ["rows","names"]
 x26:Fd K mg "bound_on" s_bound_on ["name","row","point"]
 x27:Fd K mg "tighter" s_tighter ["one","other","is_low"]
 x28:Fd K mg "number_in" s_number_in ["piece"]
 x29:Fd K mg "piece_for" s_piece_for ["name","sums","point"]
 x30:Fd K mg "found_back" s_found_back ["steps","names","point"]
 x31:Fd K mg "solved" s_solved ["rows","names"]
 x32:Fd K mg "joined" s_joined ["word","sayings"]
 x33:Fd K mg "both_so" s_both_so ["one","other"]
 x34:Fd K mg "lets_by" s_lets_by ["one","other","paper"]
 x35:Fd K mg "between" s_between ["one","other"]
 x36:Fd K mg "shadow" s_shadow ["saying","names"]
 x37:Fd K mg "filled" s_filled ["saying","names","point"]
 x38:Fd K mg "wider" s_wider ["one","other","is_low"]
 x39:Fd K mg "lies_below" s_lies_below ["one","other"]
 x40:Fd K mg "put_in" s_put_in ["pieces","piece"]
 x41:Fd K mg "stretch" s_stretch ["saying","name"]
 x42:Fd K mg "_law_row" s__law_row ["_law_cell"]
 x43:Fd K mg "_law_counted" s__law_counted ["_law_saying","_law_so"]
 x44:Fd K mg "_law_grown" s__law_grown ["_law_cell","_law_steps"]
 x45:Fd K mg "_law_names" s__law_names ["_law_saying"]
 x46:Fd K mg "_law_asked" s__law_asked ["_law_way","_law_one","_law_other","_law_kept","_law_point"]
 x47:Fd K mg "_law_kind" s__law_kind ["_law_told"]
 x48:Fd K mg "_law_due" s__law_due ["_law_way","_law_one","_law_other","_law_kept","_law_point"]
 x49:mg "abs"=none
 x50:mg "sorted"=none
 x51:mg "tuple"=none
 x52:mg "max"=none
 x53:mg "len"=none
 x54:mg "zip"=none
 x55:mg "enumerate"=none
 x56:mg "range"=none
 x57:mg "reversed"=none
 x58:mg "dict"=none
 x59:mg "all"=none
 x60:mg "set"=none
 x61:mg "isinstance"=none
 x62:mg "ValueError"=none
 g_OPPOSITES:GTab K mg "OPPOSITES" [("least","more"),("more","least"),("both","either"),("either","both")]
 g_MOST_ROWS:GInt mg "MOST_ROWS" 3
 g_MOST_CASES:GInt mg "MOST_CASES" 4
 g_ENDLESS:GEnd K mg "ENDLESS"
 g_ALWAYS_SO:GAlw K mg "ALWAYS_SO"
 R:Addr
 NR:Addr
 er:Er P w K mg base R NR
abbrev Zz.C(Z:Zz)(k:Nat)(x:Str)(ps:List Str)(sp:Sp):Prop:=Cal Z.P Z.w Z.K Z.mg Z.base k x ps sp
abbrev Zz.E(Z:Zz)(k:Nat)(x:Str)(ps:List Str)(f:FE):Prop:=vy Z.P Z.w Z.K Z.mg Z.base k x ps f
local macro_rules | `(tactic| walk_at "sc") => `(tactic| exact ⟨rfl, rfl, rfl, by decide +kernel, rfl, by decide +kernel, by decide +kernel⟩)
open Mf
theorem ak(h:∀K:En->Prop,K=u R->t { R with nx:=K } δ):dSeq t u R δ:=h _ rfl
def nQ(src:TDC)(F:D->aP->En->Prop):TDS:=λR δ=>src δ λxs δ1=>∃I:Nat->En->Prop,I 0 δ1 /\
 (∀i x δ',xs[i]?=some x->I i δ'->F x { R with nx:=I (i+1),ct:=I (i+1),bk:=R.nx,tp:=False } δ')/\∀δ',I xs.length δ'->R.nx δ'
theorem fZ(h:∀(F:D->aP->En->Prop) (N:En->Prop),F=(λx R δ=>g x δ λδ2=>tb R δ2)->N=R.nx->nQ src F { R with nx:=N } δ):dFor src g tb R δ:=h _ _ rfl rfl
def cO(t:GH)(F:D->aP->En->Prop):TDS:=λR δ=>t δ (wd λd δ1=>qL d λxs=>∃I:Nat->En->Prop,I 0 δ1 /\
 (∀i x δ',xs[i]?=some x->I i δ'->F x { R with nx:=I (i+1),ct:=I (i+1),bk:=R.nx,tp:=False } δ')/\∀δ',I xs.length δ'->R.nx δ')
theorem bh(h:∀(F:D->aP->En->Prop) (N:En->Prop),F=(λx R δ=>g x δ λδ2=>tb R δ2)->N=R.nx->cO t F { R with nx:=N } δ):sj t g tb R δ:=h _ _ rfl rfl
theorem bX{g:TDG}{x:D}{t u:TDS}{R:aP}{δ:En}(h:∀K:En->Prop,K=u R->g x δ λδ2=>t { R with nx:=K } δ2):g x δ λδ2=>dSeq t u R δ2:=h _ rfl
theorem aL(f:β->Option γ)(g:α->β)(h:α->γ):∀(l:List α),(∀x∈l,f (g x)=some (h x))->(l.map g).filterMap f=l.map h
 | [],_=>rfl
 | x::l,e=>by rw[Hs,Hs,HZ,e x (GT ..),aL f g h l λy hy=>e y (GP _ hy)]
theorem GG{c A B:Prop}[Decidable c](hc:¬ c)(h:B):if c then A else B:=by rw[Ha hc];exact h
theorem Gw{c A B:Prop}[Decidable c](hc:c)(h:A):if c then A else B:=by rw[Hc hc];exact h
theorem at0:Gi (x::xs) 0=some x:=by
 unfold Gi ixN;simp only[List.length_cons];rw[Hc (by omega),Hc (by omega)];rfl
theorem at1:Gi (x::y::xs) 1=some y:=by
 unfold Gi ixN;simp only[List.length_cons];rw[Hc (by omega),Hc (by omega)];rfl
theorem at2:Gi (x::y::z::xs) 2=some z:=by
 unfold Gi ixN;simp only[List.length_cons];rw[Hc (by omega),Hc (by omega)];rfl
theorem atm1:Gi (xs++[x]) (-1)=some x:=wO xs x
theorem vb:vd [.int i,.int j] R=(R (.int (i+j))):=rfl
theorem t5:vd [.lst xs,.lst ys] R=(xs.length+ys.length<=9000/\R (.lst (xs++ys))):=rfl
theorem vU:BA [.lst xs] R=(R (.int xs.length)):=rfl
theorem Bs:BA [.fz xs] R=(R (.int xs.length)):=rfl
theorem w9:BA [.tup xs] R=(R (.int xs.length)):=rfl
theorem wz:fInt [.int i] R=(R (.int i)):=rfl
theorem Ak:fInt [.bl b] R=(R (.int (if b then 1 else 0))):=rfl
theorem A5:fIx [.tup xs,.int i] R=qAt xs i R:=rfl
theorem zN:fIx [.lst xs,.int i] R=qAt xs i R:=rfl
theorem Dl:fIx [.fz xs,.int i] R=qAt xs i R:=rfl
theorem zx:fIx [.str z,.int i] R=(z.length<=9000/\∃c,Gi z.cps.toList i=some c/\R (.str ⟨#[c]⟩)):=rfl
theorem Ai:fSl (.lst xs) l u R=(R (.lst (cut xs l u))):=rfl
theorem CJ:fSl (.fz xs) l u R=(R (.lst (cut xs l u))):=rfl
theorem Nat.cast_ofNat_Int:((OfNat.ofNat n:Nat):Int)=OfNat.ofNat n:=rfl
theorem t4:vd [.tup xs,.tup ys] R=(xs≠[]/\ys≠[]/\xs.length+ys.length<=9000/\R (.tup (xs++ys))):=rfl
theorem ud:fSl (.tup xs) l u R=(¬ (HT.sIx xs.length 0 l=0/\HT.sIx xs.length xs.length u=xs.length)/\R (.tup (cut xs l u))):=rfl
theorem Be:fIs [.non,.non] R=(R (.bl true)):=rfl
theorem AG:fIs [.exn c f d,.non] R=(R (.bl false)):=rfl
theorem A9:fIs [.tup xs,.non] R=(R (.bl false)):=rfl
theorem wd_e:wd R (.d x) δ=R x δ:=rfl
theorem qB_e:qB (.bl b) k=k b:=rfl
theorem qI_e:qI (.int b) k=k b:=rfl
theorem qX_e:qX (.str b) k=k b:=rfl
theorem qT_e:qT (.tup b) k=k b:=rfl
theorem qL_e:qL (.lst b) k=k b:=rfl
theorem qY_l:qY (.lst b) k=k b:=rfl
theorem qY_t:qY (.tup b) k=k b:=rfl
theorem FU:qY (sq b l) k=k l:=by cases b<;>rfl
theorem qG_e:qG (.dct b c) k=k b c:=rfl
theorem qF_e:qF (.fd b c) k=k b c:=rfl
theorem qZ_d:qZ (.dct b c) k=k b c:=rfl
theorem qZ_f:qZ (.fd b c) k=k b c:=rfl
theorem qV_e:qV (some a) k=k a:=rfl
theorem qN_e:qN [] k=k:=rfl
theorem qC_e:qC (x::r) k=k x r:=rfl
theorem xW:vx [] 0 k=k:=rfl
theorem ya:vx (x::r) (n+1) k=vx r n k:=rfl
theorem q9_0:q9 [] k=k:=rfl
theorem q9_1:q9 [a] k=k:=rfl
theorem q9_2:q9 [a,b] k=k:=rfl
theorem q9_3:q9 [a,b,c] k=k:=rfl
theorem q9_4:q9 [a,b,c,d] k=k:=rfl
theorem qW_s:qW (x::δ)[i+1]? k=qW δ[i]? k:=rfl
theorem qW_z:qW (.own a d::δ)[0]? k=k a d:=rfl
theorem qD_s:qD (x::δ)[i+1]? k=qD δ[i]? k:=rfl
theorem qD_z:qD (.dat d::δ)[0]? k=k d:=rfl
theorem xQ:lq (x::δ) (i+1) y k=lq δ i y λδ'=>k (x::δ'):=rfl
theorem xS:lq (x::δ) 0 y k=k (y::δ):=rfl
theorem EV:qAt (x::l) 0 k=k x:=rfl
theorem Fw:qAt (x::y::l) 1 k=k y:=rfl
theorem Fp:qAt (x::y::z::l) 2 k=k z:=rfl
theorem Fq:qAt (x::y::z::u::l) 3 k=k u:=rfl
theorem Fa:qAt (x::y::z::u::v::l) 4 k=k v:=rfl
theorem qS_t:qS true d k=qL d k:=rfl
theorem qS_f:qS false d k=qT d k:=rfl
theorem ES:(if true=true then A else B)=A:=rfl
theorem Ey:(if false=true then A else B)=B:=rfl
theorem F1:(if (!true)=true then A else B)=B:=rfl
theorem Fo:(if (!false)=true then A else B)=A:=rfl
theorem B1:wG 0 p=p []:=rfl
theorem CO:wG (n+1) p=(∀t:Option D,wG n λts=>p (oS t::ts)):=rfl
theorem E4:okT 0 δ c=(δ=c):=rfl
theorem Fn:okT (n+1) (.dat d::δ) c=okT n δ c:=rfl
theorem Dg:u7 (some (.dat d))=.dat d:=rfl
theorem qD_e:qD (some (.dat d)) k=k d:=rfl
theorem qW_e:qW (some (.own a d)) k=k a d:=rfl
theorem CM:u7 (x::δ)[i+1]?=u7 δ[i]?:=rfl
theorem BV:u7 (.dat d::δ)[0]?=.dat d:=rfl
theorem ER:kOb f x R (.d y) δ=f [x,y] (kD R δ):=rfl
theorem FY:kOa f tb R (.d x) δ=tb δ (kOb f x R):=rfl
theorem EC:kUn f R (.d x) δ=f [x] (kD R δ):=rfl
theorem FD:kAc t R (.d x) δ=t δ (kAd x R):=rfl
theorem E3:kTs R (.d (.bl b)) δ=R b δ:=rfl
theorem F4:kAV u R (.d (.bl b)) δ=(if b=true then u δ R else R (.d (.bl false)) δ):=rfl
theorem EJ:kOV u R (.d (.bl b)) δ=(if b=true then R (.d (.bl true)) δ else u δ R):=rfl
theorem F6:kNV R (.d (.bl b)) δ=R (.d (.bl (!b))) δ:=rfl
theorem E8:kRe R (.d x) δ=R.rt x δ:=rfl
theorem B4:kSe i R (.d x) δ=lq δ i (.dat x) R.nx:=rfl
theorem Cy:kAs g R (.d x) δ=g x δ R.nx:=rfl
theorem F9:kIs T R (.d x) δ=(qIs T x λb=>R (.d (.bl b)) δ):=rfl
theorem Gn(i:Nat){j}(hN:X.N[i]?=some x:=by rfl)(hv:Vis X.env.scope x:=by walk_at "v3")(hd:(x==("__debug__":Str))=false:=by decide)(hcd:(x==("__classdict__":Str))=false:=by decide):DE X (.Subscript (.Name x p) (.Constant (.int k) j p2) pos) (dOp fIx (dV i) (dC (.int k))):=mn lM (ap i hN hv hd hcd) av (λ_ _=>rfl)
local macro_rules | `(tactic| walk_at "rh") => `(tactic| try simp only [↓kD, ↓kN, ↓kO, ↓kI, ↓wd_e, ↓B4, ↓Cy, ↓xQ, ↓xS, ↓ya, ↓xW, ↓qC_e, ↓qN_e, ↓qT_e, ↓qL_e, ↓lG, ↓CW, ↓uo, ↓zq, ↓cB, ↓kF, ↓mU, ↓qWD, ↓qW_s, ↓qW_z, ↓qG_e])
local macro_rules | `(tactic| walk_at "") => `(tactic| ((try simp only [d8, List.map_cons, List.map_nil, List.cons_append, List.nil_append, List.append_nil, List.length_cons, List.length_nil, Nat.reduceAdd, Nat.reduceSub, List.replicate]); try simp only [↓dTry, ↓ER, ↓FY, ↓EC, ↓FD, ↓E3, ↓F4, ↓EJ, ↓F6, ↓E8, ↓B4, ↓Cy, ↓F9, ↓kAd, ↓kCa, ↓kTu, ↓kLs, ↓kAn, ↓kOr, ↓kNo, ↓kIE, ↓dIsx, ↓dXm, ↓sH, ↓dXf, ↓dRaw, ↓Dj, ↓CL, ↓ym, ↓kS, ↓kT, ↓kX, ↓xV, ↓Dv, ↓dcSq, ↓yC, ↓CY, ↓kF, ↓yb, ↓xY, ↓vJ, ↓rH, ↓xb, ↓wT, ↓Bn, ↓t4, ↓ud, ↓dSlT, ↓B8, ↓Cr, ↓Dk, ↓C5, ↓Be, ↓A9, ↓AG, ↓dSS, ↓Da, ↓Dr, ↓xo, ↓wg, ↓Cv, ↓Cl, ↓D7, ↓Dw, ↓tZ, ↓Cp, ↓Eu, ↓uk, ↓mU, ↓dSeq, ↓dIf, ↓kIf, ↓dRet, ↓dSet, ↓dV, ↓dC, ↓dOp, ↓dUn, ↓dTst, ↓dAnd, ↓dOr, ↓dNot, ↓DZ, ↓dOrV, ↓Cd, ↓dIfE, ↓xN, ↓Cg, ↓rN, ↓kD, ↓kN, ↓kO, ↓kI, ↓dTup, ↓dLst, ↓BQ, ↓uc, ↓DN, ↓dAsg, ↓cB, ↓zq, ↓uo, ↓lG, ↓CW, ↓Cn, ↓wX, ↓xp, ↓dSl, ↓tS, ↓BO, ↓BZ, ↓FP, ↓EQ, ↓Bq, ↓AB, ↓De, ↓Bg, ↓wn, ↓CG, ↓vb, ↓t5, ↓vU, ↓Bs, ↓w9, ↓wz, ↓Ak, ↓A5, ↓zN, ↓Dl, ↓zx, ↓Ai, ↓CJ, ↓wF, ↓Al, ↓vK, ↓wu, ↓CF, ↓v4, ↓yG, ↓yS, ↓ny, ↓nD, ↓Co, ↓rR, ↓rZ, ↓An, ↓Cw, ↓CV, ↓Ei, ↓qWL, ↓qWD, ↓qWe, ↓Bo, ↓AX, ↓gU, ↓oS, ↓wd_e, ↓qB_e, ↓qI_e, ↓qX_e, ↓qT_e, ↓qL_e, ↓qY_l, ↓qY_t, ↓qG_e, ↓qF_e, ↓qZ_d, ↓qZ_f, ↓qV_e, ↓qN_e, ↓qC_e, ↓xW, ↓ya, ↓q9_0, ↓q9_1, ↓q9_2, ↓q9_3, ↓q9_4, ↓qW_s, ↓qW_z, ↓qD_s, ↓qD_z, ↓xQ, ↓xS, ↓EV, ↓Fw, ↓Fp, ↓Fq, ↓Fa, ↓qS_t, ↓qS_f, ↓ES, ↓Ey, ↓F1, ↓Fo, ↓B1, ↓CO, ↓E4, ↓Fn, ↓Dg, ↓qD_e, ↓qW_e, ↓CM, ↓BV, ↓List.map_cons, ↓List.map_nil, ↓List.cons_append, ↓List.nil_append, ↓List.replicate, FU, pdB, D.exn.injEq, zf, ne_eq, List.cons_ne_nil, Sl.own.injEq, exists_const, exists_eq, D.lst.injEq, D.dct.injEq, D.str.injEq, List.length_cons, List.length_nil, List.append_nil, List.getElem?_cons_zero, List.getElem?_cons_succ, List.set_cons_zero, List.set_cons_succ, Option.some.injEq, Sl.dat.injEq, D.int.injEq, D.bl.injEq, D.tup.injEq, List.cons.injEq, and_assoc, and_true, true_and, exists_eq_left', exists_eq_left, exists_eq_right', exists_and_left, Nat.zero_add, Nat.reduceAdd, Nat.reduceSub, Nat.add_zero, Nat.reduceLeDiff, Nat.sub_self, at0, at1, at2, atm1, if_true, if_false, ite_true, ite_false, Int.reduceEq, Int.reduceLT, Nat.cast_ofNat_Int, not_true_eq_false, not_false_eq_true, Bool.false_eq_true, reduceCtorEq, Bool.not_false, Bool.not_true, List.forall_mem_cons, List.mem_cons, List.not_mem_nil, forall_const, false_implies, implies_true, Nat.reduceLT, if_pos, List.filterMap_cons, List.filterMap_nil, decide_eq_true_eq, Bool.not_eq_true', decide_eq_false_iff_not]))
theorem mo2(h1:Builtin.Int.intBits x<=m)(h2:Builtin.Int.intBits y<=n)(h:m+n<=134217728:=by decide):IntMulOk x y:=IntMulOk.of_le h1 h2 h
theorem rA(h:Builtin.Int.intBits b<=n)(hn:n<=8000):b.natAbs.log2<9000:=by
 have h1:=intBits_le_iff.mp h
 rcases Nat.eq_zero_or_pos b.natAbs with h0 | hp
 ·rw[h0];decide
 ·have h2:b.natAbs.log2<n:=(Nat.log2_lt (IC hp)).mpr h1
  omega
inductive c6(ds:Zi)(R:D->Prop):Prop
 | mk (a b:_) (hh:ds=[.int a,.int b]/\R (.int (gc a b)))
theorem dQ:∀ds R,c6 ds R->ds.length=2:=λ_ _ ⟨_,_,e,_⟩=>by rw[e];rfl
theorem br:ay ["one","other","rest"] ["one","other"] (am s_common_divisor):=by walk_at "sc"
theorem cG(Z:Zz):Z.C 1 "common_divisor" ["one","other"] (Gy Z.K c6):=by
 refine cU Z.x0 br dQ λfa cdv A outer s H E ds R hr h=>?_;have hU:=hr.units;refine⟨_,(ae (wQ Hj (aC (jk hU) (ap 1) av (aB _)) (ae (aD 2 br.nd (aJ eS (ap 0) (ap 1))) (ae (aD 0 br.nd (ap 1)) (ag (aD 1 br.nd (ap 2)))))) (ag (ax (bg FM rfl Z.x49 Ew (ac (ap 0) af))))),?_⟩;obtain⟨x,y,rfl,q⟩:=h;refine⟨λδ=>∃a b t,δ=[.dat (.int a),.dat (.int b),t]/\gc a b=gc x y,λδ=>match δ with | [_,.dat (.int b),_]=>b.natAbs | _=>0,⟨x,y,.no,rfl,rfl⟩,?_⟩;rintro δ ⟨a,b,t,rfl,e⟩;walk_at "";refine dI (λc=>⟨c,(Bp a b).trans e,jl a b c⟩) (λc=>?_);have c:=Decidable.not_not.mp c;subst c;rw[<- yX,e];exact q
theorem Ag(hb:b≠0)(h:Builtin.Int.intBits b<=n):Builtin.Int.intBits (dv t b)<=n:=by
 refine intBits_le_of_natAbs ?_ h;rw[lK];exact Int.gcd_le_natAbs_right t hb
inductive xJ(ds:Zi)(R:D->Prop):Prop
 | mk (t b:_) (hh:ds=[.int t,.int b]/\b≠0/\Builtin.Int.intBits b<=8000/\R (.tup [.int (GJ t b),.int (Gz t b)]))
theorem rW:∀ds R,xJ ds R->ds.length=2:=λ_ _ ⟨_,_,e,_⟩=>by rw[e];rfl
theorem oG:ay ["top","bottom","divisor"] ["top","bottom"] (am s_made):=by walk_at "sc"
theorem eW(Z:Zz):Z.C 2 "made" ["top","bottom"] (Gy Z.K xJ):=by
 refine cU Z.x1 oG rW λfa cdv A outer s H E ds R hr h=>?_;have hU:=hr.units;refine⟨_,(ae (aK (aC (dH hU) (ap 1) av (aB _)) jd aA) (ae (aD 2 oG.nd (au (cG Z) (rm hr) rfl (ac (ap 0) (ac (ap 1) af)))) (ae (aK (aC o_lt (ap 1) av (aB _)) (ag (aD 2 oG.nd (vE vY (ap 2)))) aA) (ag (ax (aN (ac (aJ bU (ap 0) (ap 2)) (ac (aJ bU (ap 1) (ap 2)) af)))))))),?_⟩;obtain⟨x,y,rfl,hy,hb,q⟩:=h;walk_at "";rw[Ha hy];refine⟨x,y,rfl,?_⟩;walk_at "";have hd:=BM x hy;have hl:=rA (Ag (t:=x) hy hb) (GU _);unfold GJ Gz at q;unfold dv at hd hl q;refine dI (λc=>?_) (λc=>?_)
 ·simp only[if_pos c] at hd hl q;exact⟨⟨hd,hl⟩,⟨hd,hl⟩,q⟩
 ·simp only[if_neg c] at hd hl q;exact⟨⟨hd,hl⟩,⟨hd,hl⟩,q⟩
inductive xM(ds:Zi)(R:D->Prop):Prop
 | mk (p q:Int×Int) (hh:ds=[Gq p,Gq q]/\p.2*q.2≠0/\ib p.1<=1000000/\ib q.1<=1000000/\ib p.2<=4000/\ib q.2<=4000/\R (Gq (GJ (p.1*q.2+q.1*p.2) (p.2*q.2),Gz (p.1*q.2+q.1*p.2) (p.2*q.2))))
theorem rV:∀ds R,xM ds R->ds.length=2:=λ_ _ ⟨_,_,e,_⟩=>by rw[e];rfl
theorem zQ:ay ["one","other"] ["one","other"] (am s_plus):=by walk_at "sc"
theorem v9(Z:Zz):Z.C 3 "plus" ["one","other"] (Gy Z.K xM):=by
 refine cU Z.x2 zQ rV λfa cdv A outer s H E ds R hr h=>?_;have hU:=hr.units;refine⟨_,(ag (ax (au (eW Z) (rm hr) rfl (ac (aJ bC (aJ cZ (Gn 0) (Gn 1)) (aJ cZ (Gn 1) (Gn 0))) (ac (aJ cZ (Gn 0) (Gn 1)) af))))),?_⟩;obtain⟨p,q,rfl,nz,b1,b2,b3,b4,k⟩:=h;unfold Gq at k ⊢;walk_at "";exact⟨mo2 b1 b4,mo2 b2 b3,mo2 b3 b4,_,_,rfl,nz,GS (HH b3 b4) (by decide),k⟩
inductive sU(ds:Zi)(R:D->Prop):Prop
 | mk (p q:Int×Int) (hh:ds=[Gq p,Gq q]/\p.2*q.2≠0/\ib p.1<=2000000/\ib q.1<=1000000/\ib p.2<=7990/\ib q.2<=10/\R (Gq (GJ (p.1*q.1) (p.2*q.2),Gz (p.1*q.1) (p.2*q.2))))
theorem oH:∀ds R,sU ds R->ds.length=2:=λ_ _ ⟨_,_,e,_⟩=>by rw[e];rfl
theorem v8:ay ["one","other"] ["one","other"] (am s_times):=by walk_at "sc"
theorem sF(Z:Zz):Z.C 3 "times" ["one","other"] (Gy Z.K sU):=by
 refine cU Z.x3 v8 oH λfa cdv A outer s H E ds R hr h=>?_;have hU:=hr.units;refine⟨_,(ag (ax (au (eW Z) (rm hr) rfl (ac (aJ cZ (Gn 0) (Gn 1)) (ac (aJ cZ (Gn 0) (Gn 1)) af))))),?_⟩;obtain⟨p,q,rfl,nz,b1,b2,b3,b4,k⟩:=h;unfold Gq at k ⊢;walk_at "";exact⟨mo2 b1 b2,mo2 b3 b4,_,_,rfl,nz,GS (HH b3 b4) (by decide),k⟩
inductive yq(ds:Zi)(R:D->Prop):Prop
 | mk (p q:Int×Int) (hh:ds=[Gq p,Gq q]/\ib p.1<=2000000/\ib q.1<=2000000/\ib p.2<=8000/\ib q.2<=8000/\R (.bl (decide (p.1*q.2<q.1*p.2))))
theorem rC:∀ds R,yq ds R->ds.length=2:=λ_ _ ⟨_,_,e,_⟩=>by rw[e];rfl
theorem AW:ay ["one","other"] ["one","other"] (am s_less):=by walk_at "sc"
theorem gV(Z:Zz):Z.C 1 "less" ["one","other"] (Gy Z.K yq):=by
 refine cU Z.x4 AW rC λfa cdv A outer s H E ds R hr h=>?_;have hU:=hr.units;refine⟨_,(ag (ax (fw o_lt (aJ cZ (Gn 0) (Gn 1)) (aJ cZ (Gn 1) (Gn 0)) (aB _)))),?_⟩;obtain⟨p,q,rfl,b1,b2,b3,b4,k⟩:=h;unfold Gq;walk_at "";exact⟨mo2 b1 b4,mo2 b2 b3,k⟩
inductive Gh where
 | row (k:Kd) (ts:List (Str×Int)) (b:Int)
 | nt (s:Gh)
 | bo (s t:Gh)
 | ei (s t:Gh)
def Gh.D:Gh->D
 | .row k ts b=>lr k ts b
 | .nt s=>.tup [.str "not",s.D]
 | .bo s t=>.tup [.str "both",s.D,t.D]
 | .ei s t=>.tup [.str "either",s.D,t.D]
def Gh.dep:Gh->Nat
 | .row _ _ _=>1
 | .nt s=>s.dep+1
 | .bo s t=>max s.dep t.dep+1
 | .ei s t=>max s.dep t.dep+1
def Gh.nms:Gh->Zb
 | .row _ ts _=>ts.map (·.1)
 | .nt s=>s.nms
 | .bo s t=>s.nms++t.nms
 | .ei s t=>s.nms++t.nms
def Gh.ok(names:Zb):Gh->Prop
 | .row _ ts b=>my names ts/\Builtin.Int.intBits b<=10000
 | .nt s=>s.ok names
 | .bo s t=>s.ok names/\t.ok names
 | .ei s t=>s.ok names/\t.ok names
theorem Gh.dep_pos:∀s:Gh,0<s.dep
 | .row _ _ _=>Nat.one_pos
 | .nt s=>Kn _
 | .bo s t=>Kn _
 | .ei s t=>Kn _
theorem Gh.nms_sub:∀ {s:Gh},s.ok names->∀n∈s.nms,n∈names
 | .row _ ts _,h,n,hn=>h.1.sub.subset hn
 | .nt s,h,n,hn=>Gh.nms_sub (s:=s) h n hn
 | .bo s t,h,n,hn=>(Hb.mp hn).elim (Gh.nms_sub h.1 n) (Gh.nms_sub h.2 n)
 | .ei s t,h,n,hn=>(Hb.mp hn).elim (Gh.nms_sub h.1 n) (Gh.nms_sub h.2 n)
def Gh.isRow:Gh->Bool
 | .row _ _ _=>true
 | _=>false
inductive qg(ds:Zi)(R:D->Prop):Prop
 | mk (s:Gh) (hh:ds=[s.D]/\R (.bl s.isRow))
theorem mJ:∀ds R,qg ds R->ds.length=1:=λ_ _ ⟨_,e,_⟩=>by rw[e];rfl
theorem uv:ay ["saying"] ["saying"] (am s_is_row):=by walk_at "sc"
theorem dJ(Z:Zz):Z.C 1 "is_row" ["saying"] (Gy Z.K qg):=by
 refine cU Z.x5 uv mJ λfa cdv A outer s H E ds R hr h=>?_;have hU:=hr.units;refine⟨_,(ag (ax (zy (fw (dH hU) (Gn 0) aG (aB _)) (iJ (fw (dH hU) (Gn 0) aG (aB _)))))),?_⟩;obtain⟨s,rfl,q⟩:=h;walk_at ""
 cases s with
 | row k ts b =>
  cases k
  ·unfold Gh.D lr kdS;walk_at "";exact q
  ·unfold Gh.D lr kdS;walk_at "";exact GG (by decide) q
 | nt s=>unfold Gh.D;walk_at "";exact GG (by decide) q
 | bo s t=>unfold Gh.D;walk_at "";exact GG (by decide) q
 | ei s t=>unfold Gh.D;walk_at "";exact GG (by decide) q
def cm(ks:Zb)(l:Zb):Zb:=l.foldl jj ks
def jm(n:Nat):Zi:=List.replicate n (.bl true)
theorem xA:y∈jj ks x↔y∈ks\/y=x:=by
 unfold jj
 by_cases e:x∈ks
 ·rw[Hc e];exact⟨.inl,λh=>h.elim id λz=>z ▸ e⟩
 ·rw[Ha e,Hb,GX]
theorem ff:∀ {l ks:Zb},ks.Nodup->(cm ks l).Nodup
 | [],_,h=>h
 | _::l,_,h=>ff (l:=l) (sX h)
theorem cP:∀ {l ks:Zb} {y:Str},y∈cm ks l↔y∈ks\/y∈l
 | [],ks,y=>by show y∈ks↔_;simp
 | x::l,ks,y=>by
  show y∈cm (jj ks x) l↔_
  rw[cP,xA,GY,or_assoc]
theorem fB:cm ks (l++r)=cm (cm ks l) r:=List.foldl_append ..
theorem lS:∀(ks:Zb) (n:Nat) (x:Str),mS ks (jm n) x (D.bl true)=jm n
 | [],n,x=>by cases n<;>rfl
 | k::ks,0,x=>rfl
 | k::ks,n+1,x=>by
  show (if k=x then D.bl true else D.bl true)::mS ks (jm n) x (D.bl true)=D.bl true::jm n
  rw[lS ks n x];split<;>rfl
theorem tN:ln ks (jm ks.length) x (D.bl true)=jm (jj ks x).length:=by
 unfold ln jj
 by_cases e:x∈ks
 ·rw[Hc e,Hc e,lS]
 ·rw[Ha e,Ha e,GV];show List.replicate _ _++List.replicate 1 _=List.replicate _ _;rw[List.replicate_append_replicate];rfl
def Gh.subs:Gh->List Gh
 | .row _ _ _=>[]
 | .nt s=>[s]
 | .bo s t=>[s,t]
 | .ei s t=>[s,t]
theorem Gh.subs_dep{s u:Gh}(h:u∈s.subs):u.dep<s.dep:=by
 cases s with
 | row k ts b=>cases h
 | nt s=>rw[GX.mp h];exact JE _
 | bo s t =>
  have h:u∈[s,t]:=h
  simp only[List.mem_cons,List.not_mem_nil,or_false] at h;show u.dep<max s.dep t.dep+1
  rcases h with rfl | rfl<;>omega
 | ei s t =>
  have h:u∈[s,t]:=h
  simp only[List.mem_cons,List.not_mem_nil,or_false] at h;show u.dep<max s.dep t.dep+1
  rcases h with rfl | rfl<;>omega
theorem Gh.subs_ok{s u:Gh}(h:u∈s.subs)(o:s.ok names):u.ok names:=by
 cases s with
 | row k ts b=>cases h
 | nt s=>rw[GX.mp h];exact o
 | bo s t =>
  have h:u∈[s,t]:=h
  simp only[List.mem_cons,List.not_mem_nil,or_false] at h
  rcases h with rfl | rfl
  ·exact o.1
  ·exact o.2
 | ei s t =>
  have h:u∈[s,t]:=h
  simp only[List.mem_cons,List.not_mem_nil,or_false] at h
  rcases h with rfl | rfl
  ·exact o.1
  ·exact o.2
def Gh.word:Gh->Str
 | .row k _ _=>kdS k
 | .nt _=>"not"
 | .bo _ _=>"both"
 | .ei _ _=>"either"
theorem Gh.D_subs{s:Gh}(h:s.isRow=false):s.D=.tup (.str s.word::s.subs.map Gh.D):=by
 cases s with
 | row=>cases h
 | nt=>rfl
 | bo=>rfl
 | ei=>rfl
theorem Gh.nms_subs{s:Gh}(h:s.isRow=false):s.nms=s.subs.flatMap Gh.nms:=by
 cases s with
 | row=>cases h
 | nt s=>show s.nms=s.nms++[];rw[HM]
 | bo s t=>show s.nms++t.nms=s.nms++(t.nms++[]);rw[HM]
 | ei s t=>show s.nms++t.nms=s.nms++(t.nms++[]);rw[HM]
theorem xh:cut (x::xs) (some 1) none=xs:=by
 unfold cut;have e1:HT.sIx (x::xs).length 0 (some 1)=1:=by
  have:=HT.sIx_nat (x::xs).length 0 1
  rw[G0] at this ⊢;rw[show (some (1:Int))=some ((1:Nat):Int) from rfl,this];omega
 rw[e1,HT.sIx_none,G0,List.drop_one,List.tail_cons,Nat.add_sub_cancel,Ht]
inductive bJ(n:Nat)(d:D)(ds:Zi)(R:D->D->Prop):Prop
 | mk (names s ks:_) (hh:ds=[Gh.D s]/\s.dep<=n/\s.ok names/\names.length<=100/\ks.Nodup/\(∀k∈ks,k∈names)/\d=.dct ks (jm ks.length)/\R .non (.dct (cm ks s.nms) (jm (cm ks s.nms).length)))
theorem gq(n:Nat):∀d ds R,bJ n d ds R->ds.length=1:=λ_ _ _ ⟨_,_,_,e,_⟩=>by rw[e];rfl
theorem fX:∀d ds R,¬ bJ 0 d ds R:=λ_ _ _ ⟨_,s,_,_,h,_⟩=>by have:=s.dep_pos;omega
theorem cp:ay ["saying","found","name","weight","part"] ["saying","found"] (am s_mark_names):=by walk_at "sc"
theorem iL(Z:Zz)(mF:Z.C (2+n) "mark_names" ["saying","found"] (wq Z.K (bJ n))):Z.C (2+n+1) "mark_names" ["saying","found"] (wq Z.K (bJ (n+1))):=by
 refine Fz (k:=2+n) Z.x6 cp rfl (gq (n+1)) λfa cdv A outer s H E oa d0 d R hr h=>?_;have hU:=hr.units;refine⟨_,(ae (aK (bZ (au (dJ Z) (hr.mono (by omega)) rfl (ac (ap 0) af))) (ae (k7 Hj rfl (Gn 0) (bV (n:=2) rfl (aE (ar 2 cp.nd) (aE (ar 3 cp.nd) a5))) (ag (fR 1 hU gz (ap 2)))) (ag Ap)) aA) (ag (k7 Hj rfl (jR (ap 0) (cM av) cN) (ar 4 cp.nd) (ag (u8 (l8 1 mF (hr.mono (by omega)) rfl (ap 4))))))),?_⟩;obtain⟨names,s,ks,e,hd,ok,hl,nd,sub,rfl,q⟩:=h
 cases e
 walk_at "";refine⟨s,rfl,?_⟩;walk_at ""
 cases hrow:s.isRow with
 | true =>
  cases s with
  | row k ts b =>
   refine Gw rfl ?_;walk_at "";simp only[t9];unfold Gh.D lr;walk_at "";have ab:∀t∈ts,t.1∈names:=λt h=>ok.1.sub.subset (GR.mpr ⟨t,h,rfl⟩);have aa:∀i,∀x∈cm ks ((ts.take i).map (·.1)),x∈names:=λi x hx=>(cP.mp hx).elim (sub x) λh=>by
    obtain⟨t,h1,rfl⟩:=GR.mp h;exact ab t (JA h1)
   refine⟨λi δ=>∃x y z,δ=[.dat (.tup [.str (kdS k),.tup (ts.map GK),.int b]),.own oa (.dct (cm ks ((ts.take i).map (·.1))) (jm (cm ks ((ts.take i).map (·.1))).length)),x,y,z],⟨_,_,_,rfl⟩,?_,?_⟩
   ·rintro i d δ hd ⟨x,y,z,rfl⟩;obtain⟨t,hn,rfl⟩:=fe hd;walk_at "";have l1:=jp (ff (l:=(ts.take i).map (·.1)) nd) (aa i);refine⟨by omega,?_⟩;rw[tN,aI hn,Hg,fB];exact⟨rfl,rfl⟩
   ·rintro δ ⟨x,y,z,rfl⟩;rw[GN,Ht];exact⟨_,rfl,q⟩
  | nt s=>cases hrow
  | bo s t=>cases hrow
  | ei s t=>cases hrow
 | false =>
  refine GG GW ?_;walk_at "";simp only[t9];rw[Gh.D_subs hrow];walk_at "";refine⟨λ⟨h,_⟩=>?_,?_⟩
  ·rw[show (some (1:Int))=some ((1:Nat):Int) from rfl,HT.sIx_nat] at h;omega
  rw[xh];have aa:∀i,∀x∈cm ks ((s.subs.take i).flatMap Gh.nms),x∈names:=λi x hx=>(cP.mp hx).elim (sub x) λh=>by
   obtain⟨u,h1,h2⟩:=Je.mp h;exact Gh.nms_sub (Gh.subs_ok (JA h1) ok) x h2
  refine⟨λi δ=>∃x y z,δ=[.dat (.tup (.str s.word::s.subs.map Gh.D)),.own oa (.dct (cm ks ((s.subs.take i).flatMap Gh.nms)) (jm (cm ks ((s.subs.take i).flatMap Gh.nms)).length)),x,y,z],⟨_,_,_,rfl⟩,?_,?_⟩
  ·rintro i d δ hd2 ⟨x,y,z,rfl⟩;rw[G6] at hd2
   cases hu:s.subs[i]? with
   | none=>rw[hu] at hd2;cases hd2
   | some u =>
    rw[hu] at hd2
    cases hd2
    have hm:=G9 hu
    have dp:=Gh.subs_dep hm
    walk_at "";refine⟨names,u,_,rfl,by omega,Gh.subs_ok hm ok,hl,ff nd,aa i,rfl,?_⟩;walk_at "";rw[aI hu,List.flatMap_append,List.flatMap_singleton,fB];exact⟨rfl,rfl⟩
  ·rintro δ ⟨x,y,z,rfl⟩;rw[GN,Ht,<- Gh.nms_subs hrow];exact⟨_,rfl,q⟩
theorem jq(Z:Zz):Z.C 62 "mark_names" ["saying","found"] (wq Z.K (bJ 60)):=Nat.rec (motive:=λn=>Z.C (2+n) "mark_names" ["saying","found"] (wq Z.K (bJ n))) (uZ Z.x6 _ fX) (λ_=>iL Z) 60
inductive jL(ds:Zi)(R:D->Prop):Prop
 | mk (names s:_) (hh:ds=[Gh.D s]/\s.dep<=60/\s.ok names/\names.length<=60/\∀ss:Zb,ss.Nodup->(∀x,x∈ss↔x∈s.nms)->Srt ss->R (.lst (ss.map D.str)))
theorem jo:∀ds R,jL ds R->ds.length=1:=λ_ _ ⟨_,_,e,_⟩=>by rw[e];rfl
theorem hG:ay ["saying","found"] ["saying"] (am s_names_of):=by walk_at "sc"
theorem cc(Z:Zz):Z.C 63 "names_of" ["saying"] (Gy Z.K jL):=by
 refine cU Z.x7 hG jo λfa cdv A outer s H E ds R hr h=>?_;have hU:=hr.units;refine⟨_,(ae (iE 1 hG.nd) (ae (u8 (l8 1 (jq Z) (rm hr) rfl (ap 0))) (a6 1 (ag (ax (bg (pW rfl) rfl Z.x50 kt (ac (ap 1) af))))))),?_⟩;obtain⟨names,s,rfl,hd,ok,hl,q⟩:=h;walk_at "";intro a;refine⟨names,s,[],rfl,hd,ok,by omega,List.nodup_nil,λk h=>(nomatch h),rfl,?_⟩;walk_at "";have nd:(cm [] s.nms).Nodup:=ff List.nodup_nil;have sub:∀x∈cm [] s.nms,x∈names:=λx hx=>(cP.mp hx).elim (λh=>(nomatch h)) (Gh.nms_sub ok x);refine⟨by have:=jp nd sub;omega,λss hp hs=>q ss (hp.nodup_iff.mpr nd) (λx=>?_) hs⟩;rw[hp.mem_iff,cP];simp
inductive mC(ds:Zi)(R:D->Prop):Prop
 | mk (names ks ps T κ:_) (hh:ds=[.lst (names.map D.str),.dct ks (ps.map Gq)]/\names.Nodup/\names.length<=60/\(∀n∈names,n∈ks)/\Pt ks ps T/\T<=1000000/\ib (bot (pB ks ps) ks)<=κ/\κ<=7990 /\
 R (.tup [.dct names (names.map λn=>.int (ov (pT ks ps) (pB ks ps) (bot (pB ks ps) names) n)),.int (bot (pB ks ps) names)]))
theorem kK:∀ds R,mC ds R->ds.length=2:=λ_ _ ⟨_,_,_,_,_,e,_⟩=>by rw[e];rfl
theorem pc(nd:l.Nodup)(h:∀n∈l,n∈ks)(hp:∀n∈ks,0<q n)(hb:ib (bot q ks)<=κ):ib (bot q l)<=κ:=kW (sT nd h) (by have:=eD hp;omega) hb
theorem b8:ay ["names","point","bottom","name","tops","value"] ["names","point"] (am s_tops_of):=by walk_at "sc"
theorem iF(Z:Zz):Z.C 1 "tops_of" ["names","point"] (Gy Z.K mC):=by
 refine cU Z.x8 b8 kK λfa cdv A outer s H E ds R hr h=>?_;have hU:=hr.units;refine⟨_,(ae (aD 2 b8.nd av) (ae (aY Hj rfl (ap 0) (ar 3 b8.nd) (ae (aK (aC (jZ hU) (ap 3) (ap 1) rfl) jd aA) (ag (aD 2 b8.nd (aJ cZ (ap 2) (mn lM (fK hU (ap 1) (ap 3) (λ_ _=>rfl)) av (λ_ _=>rfl))))))) (ae (iE 4 b8.nd) (ae (aY Hj rfl (ap 0) (ar 3 b8.nd) (ae (aD 5 b8.nd (fK hU (ap 1) (ap 3) (λ_ _=>rfl))) (ag (fR 4 hU (aJ cZ (Gn 5) (aJ bU (ap 2) (Gn 5))) (ap 3))))) (a6 4 (ag (ax (aN (ac (ap 4) (ac (ap 2) af)))))))))),?_⟩;obtain⟨names,ks,ps,T,κ,rfl,nd,hl,aa,hp,hT,hb,hκ,q⟩:=h;have pos:∀n∈ks,0<pB ks ps n:=λn hn=>hp.pos hn;have bb:ib (bot (pB ks ps) names)<=κ:=pc nd aa pos hb;have bt:∀i,ib (bot (pB ks ps) (names.take i))<=κ:=λi=>pc (nd.sublist (List.take_sublist ..)) (λn hn=>aa n (JA hn)) pos hb;have b1:∀n∈ks,ib (pB ks ps n)<=κ:=λn hn=>kW (i6 hn) (by have:=eD pos;omega) hb;walk_at "";simp only[sj];walk_at "";refine⟨λi δ=>∃x y z,δ=[.dat (.lst (names.map D.str)),.dat (.dct ks (ps.map Gq)),.dat (.int (bot (pB ks ps) (names.take i))),x,y,z],⟨_,_,_,rfl⟩,?_,?_⟩
 ·rintro i d δ hd ⟨x,y,z,rfl⟩;obtain⟨n,hn,rfl⟩:=fC hd;have hk:=aa n (vg hn);walk_at "";refine GG (λz=>z hk) ?_;refine⟨_,hp.D hk,?_⟩;walk_at "";refine⟨mo2 (bt i) (b1 n hk) (by omega),?_⟩;rw[aI hn,jT,uL]
 ·rintro δ ⟨x,y,z,rfl⟩;intro a;rw[GN,Ht];walk_at "";simp only[sj];walk_at "";refine⟨λi δ=>∃x z,δ=[.dat (.lst (names.map D.str)),.dat (.dct ks (ps.map Gq)),.dat (.int (bot (pB ks ps) names)),x,.own a (.dct (names.take i) ((names.take i).map λn=>.int (ov (pT ks ps) (pB ks ps) (bot (pB ks ps) names) n))),z],⟨_,_,rfl⟩,?_,?_⟩
  ·rintro i d δ hd ⟨x,z,rfl⟩;obtain⟨n,hn,rfl⟩:=fC hd;have hk:=aa n (vg hn);have ab:=kQ nd hn;walk_at "";refine⟨_,hp.D hk,?_⟩;walk_at "";have qn:pB ks ps n≠0:=by have:=hp.pos hk;omega
   refine⟨⟨qn,rA (b1 n hk) (by omega)⟩,mo2 (hp.Tb hk) (Ic bb) (by omega),?_⟩;refine⟨by rw[HP];omega,?_⟩;rw[gK ab,gS ab,aI hn,Hg];exact⟨rfl,rfl⟩
  ·rintro δ ⟨x,z,rfl⟩;rw[GN,Ht];walk_at "";exact q
inductive gf(ds:Zi)(R:D->Prop):Prop
 | mk (k:Bool) (ts:List (Str×Int)) (ks:Zb) (vs:Zi) (f:Str->Int) (hh:ds=[sq k (ts.map GK),.dct ks vs]/\(∀t∈ts,dAt ks vs t.1=some (.int (f t.1))/\ib t.2<=60000/\ib (f t.1)<=2000000)/\R (.int (fE f ts)))
theorem gD:∀ds R,gf ds R->ds.length=2:=λ_ _ ⟨_,_,_,_,_,e,_⟩=>by rw[e];rfl
theorem bT:ay ["terms","tops","top","name","weight"] ["terms","tops"] (am s_top_of_sum):=by walk_at "sc"
theorem dW(Z:Zz):Z.C 1 "top_of_sum" ["terms","tops"] (Gy Z.K gf):=by
 refine cU Z.x9 bT gD λfa cdv A outer s H E ds R hr h=>?_;have hU:=hr.units;refine⟨_,(ae (aD 2 bT.nd av) (ae (jE Hj rfl (ET (ap 0)) (bV (n:=2) rfl (aE (ar 3 bT.nd) (aE (ar 4 bT.nd) a5))) (ag (aD 2 bT.nd (aJ bC (ap 2) (aJ cZ (ap 4) (fK hU (ap 1) (ap 3) (λ_ _=>rfl))))))) (ag (ax (ap 2))))),?_⟩;obtain⟨k,ts,ks,vs,f,rfl,ht,q⟩:=h;walk_at "";refine fZ λF N hF hN=>?_;walk_at "";simp only[nQ];walk_at "";refine⟨λi δ=>∃x y,δ=[.dat (sq k (ts.map GK)),.dat (.dct ks vs),.dat (.int (fE f (ts.take i))),x,y],⟨_,_,rfl⟩,?_,?_⟩
 ·rintro i d δ hd ⟨x,y,rfl⟩;obtain⟨t,hn,rfl⟩:=fe hd;obtain⟨h1,h2,h3⟩:=ht t (G9 hn);rw[hF];walk_at "";refine⟨_,h1,?_⟩;walk_at "";refine⟨mo2 h2 h3,?_⟩;rw[aI hn,mV,wH]
 ·rintro δ ⟨x,y,rfl⟩;rw[GN,Ht,hN];walk_at "";exact q
def v7(k:Kd)(s b:Int):Bool:=match k with
 | .least=>decide (b<=s)
 | .more=>decide (b<s)
def Gh.so(f:Str->Int)(B:Int):Gh->Bool
 | .row k ts b=>v7 k (fE f ts) (b*B)
 | .nt s=>!s.so f B
 | .bo s t=>s.so f B&&t.so f B
 | .ei s t=>s.so f B||t.so f B
def Bl(p q:Str->Int)(k:Kd)(ts:List (Str×Int))(b:Int):Bool:=v7 k (fE (ov p q (bot q (ts.map (·.1)))) ts) (b*bot q (ts.map (·.1)))
def Gh.tv(p q:Str->Int):Gh->Bool
 | .row k ts b=>Bl p q k ts b
 | .nt s=>!s.tv p q
 | .bo s t=>s.tv p q&&t.tv p q
 | .ei s t=>s.tv p q||t.tv p q
theorem DQ(hB:0<B)(h:∀t∈ts,0<q t.1/\q t.1 ∣ B):v7 k (fE (ov p q B) ts) (b*B)=Bl p q k ts b:=by
 have hC:0<bot q (ts.map (·.1)):=eD λn hn=>by
  obtain⟨t,h1,rfl⟩:=GR.mp hn;exact(h t h1).1
 have e:=uB (p:=p) (q:=q) (B:=B) (C:=bot q (ts.map (·.1))) (ts:=ts) λt h1=>⟨by have:=(h t h1).1;omega,(h t h1).2,i6 (GR.mpr ⟨t,h1,rfl⟩)⟩
 unfold Bl
 cases k with
 | least=>exact decide_eq_decide.mpr (xB (a:=0) hB hC e)
 | more=>exact decide_eq_decide.mpr (xn hB hC e)
theorem Gh.so_tv(hB:0<B):∀ {s:Gh},(∀n∈s.nms,0<q n/\q n ∣ B)->s.so (ov p q B) B=s.tv p q
 | .row k ts b,h=>DQ hB λt h1=>h t.1 (GR.mpr ⟨t,h1,rfl⟩)
 | .nt s,h=>by show (!s.so _ _)=!s.tv p q;rw[Gh.so_tv (s:=s) hB h]
 | .bo s t,h=>by
  show (s.so _ _&&t.so _ _)=(s.tv p q&&t.tv p q)
  rw[Gh.so_tv (s:=s) hB λn hn=>h n (Hf _ hn),Gh.so_tv (s:=t) hB λn hn=>h n (G7 _ hn)]
 | .ei s t,h=>by
  show (s.so _ _||t.so _ _)=(s.tv p q||t.tv p q)
  rw[Gh.so_tv (s:=s) hB λn hn=>h n (Hf _ hn),Gh.so_tv (s:=t) hB λn hn=>h n (G7 _ hn)]
inductive iQ(ds:Zi)(R:D->Prop):Prop
 | mk (k:Kd) (ts:List (Str×Int)) (b:Int) (ks:Zb) (vs:Zi) (f:Str->Int) (B:Int) (hh:ds=[lr k ts b,.dct ks vs,.int B]/\(∀t∈ts,dAt ks vs t.1=some (.int (f t.1))/\ib t.2<=60000/\ib (f t.1)<=2000000)/\ib b<=60000/\ib B<=8000/\R (.bl (v7 k (fE f ts) (b*B))))
theorem iG:∀ds R,iQ ds R->ds.length=3:=λ_ _ ⟨_,_,_,_,_,_,_,e,_⟩=>by rw[e];rfl
theorem dB:ay ["row","tops","bottom","top","bound"] ["row","tops","bottom"] (am s_row_is_so):=by walk_at "sc"
theorem kU(Z:Zz):Z.C 2 "row_is_so" ["row","tops","bottom"] (Gy Z.K iQ):=by
 refine cU Z.x10 dB iG λfa cdv A outer s H E ds R hr h=>?_;have hU:=hr.units;refine⟨_,(ae (aD 3 dB.nd (au (dW Z) (rm hr) rfl (ac (Gn 0) (ac (ap 1) af)))) (ae (aD 4 dB.nd (aJ cZ (Gn 0) (ap 2))) (ae (aK (aC (dH hU) (Gn 0) aG (aB _)) (ag (ax (fw o_ge (ap 3) (ap 4) (aB _)))) aA) (ag (ax (fw vQ (ap 3) (ap 4) (aB _))))))),?_⟩;obtain⟨k,ts,b,ks,vs,f,B,rfl,ht,hb,hB,q⟩:=h;unfold lr;walk_at "";refine⟨false,ts,ks,vs,f,rfl,ht,?_⟩;walk_at "";refine⟨mo2 hb hB,?_⟩
 cases k with
 | least=>exact Gw rfl q
 | more=>exact GG (by decide) q
inductive bM(n:Nat)(ds:Zi)(R:D->Prop):Prop
 | mk (s:Gh) (ks:Zb) (vs:Zi) (f:Str->Int) (B:Int) (names:Zb) (hh:ds=[s.D,.dct ks vs,.int B]/\s.dep<=n/\s.ok names/\(∀x∈s.nms,dAt ks vs x=some (.int (f x))/\Builtin.Int.intBits (f x)<=2000000)/\Builtin.Int.intBits B<=8000/\R (.bl (s.so f B)))
theorem gy(n:Nat):∀ds R,bM n ds R->ds.length=3:=λ_ _ ⟨_,_,_,_,_,_,e,_⟩=>by rw[e];rfl
theorem fM:∀ds R,¬ bM 0 ds R:=λ_ _ ⟨s,_,_,_,_,_,_,h,_⟩=>by have:=s.dep_pos;omega
theorem fD:ay ["saying","tops","bottom","first"] ["saying","tops","bottom"] (am s_part_is_so):=by walk_at "sc"
theorem iA(Z:Zz)(dk:Z.C (3+n) "part_is_so" ["saying","tops","bottom"] (Gy Z.K (bM n))):Z.C (3+n+1) "part_is_so" ["saying","tops","bottom"] (Gy Z.K (bM (n+1))):=by
 refine cU (k:=3+n) Z.x11 fD (gy (n+1)) λfa cdv A outer s H E ds R hr h=>?_;have hU:=hr.units;refine⟨_,(ae (aK (bZ (au (dJ Z) (hr.mono (by omega)) rfl (ac (ap 0) af))) (ag (ax (au (kU Z) (hr.mono (by omega)) rfl (ac (ap 0) (ac (ap 1) (ac (ap 2) af)))))) aA) (ae (aD 3 fD.nd (au dk (hr.mono (by omega)) rfl (ac (Gn 0) (ac (ap 1) (ac (ap 2) af))))) (ae (aK (aC (dH hU) (Gn 0) aG (aB _)) (ag (ax (mw (ap 3)))) aA) (ae (aK (aC (dH hU) (Gn 0) aG (aB _)) (ag (ax (pA (ap 3) (iJ (au dk (hr.mono (by omega)) rfl (ac (Gn 0) (ac (ap 1) (ac (ap 2) af)))))))) aA) (ag (ax (zy (ap 3) (iJ (au dk (hr.mono (by omega)) rfl (ac (Gn 0) (ac (ap 1) (ac (ap 2) af)))))))))))),?_⟩;obtain⟨s,ks,vs,f,B,names,rfl,hd,ok,hf,hB,q⟩:=h;refine ak λK1 h1=>?_;walk_at "";refine⟨s,rfl,?_⟩;walk_at ""
 cases s with
 | row k ts b =>
  refine Gw rfl ⟨k,ts,b,ks,vs,f,B,rfl,λt h1=>?_,GS ok.2 (by decide),hB,q⟩;obtain⟨h2,h3⟩:=hf t.1 (GR.mpr ⟨t,h1,rfl⟩);exact⟨h2,GS (ok.1.bits t h1) (by decide),h3⟩
 | nt s =>
  refine GG GW ?_;unfold Gh.D;rw[h1];refine ak λK2 h2=>?_;walk_at "";have hd:s.dep+1<=n+1:=hd;refine⟨s,ks,vs,f,B,names,rfl,by omega,ok,hf,hB,?_⟩;walk_at "";rw[h2];refine ak λK3 h3=>?_;walk_at "";exact q
 | bo s t =>
  refine GG GW ?_;unfold Gh.D;rw[h1];refine ak λK2 h2=>?_;walk_at "";have hd:max s.dep t.dep+1<=n+1:=hd;refine⟨s,ks,vs,f,B,names,rfl,by omega,ok.1,λx h=>hf x (Hf _ h),hB,?_⟩;walk_at "";rw[h2];refine ak λK3 h3=>?_;walk_at "";refine GG (by decide) ?_;rw[h3];refine ak λK4 h4=>?_;walk_at "";have q:R (.bl (s.so f B&&t.so f B)):=q
  cases e:s.so f B with
  | true =>
   rw[e,Bool.true_and] at q;exact Gw rfl ⟨t,ks,vs,f,B,names,rfl,by omega,ok.2,λx h=>hf x (G7 _ h),hB,q⟩
  | false =>
   rw[e,Bool.false_and] at q;exact GG GW q
 | ei s t =>
  refine GG GW ?_;unfold Gh.D;rw[h1];refine ak λK2 h2=>?_;walk_at "";have hd:max s.dep t.dep+1<=n+1:=hd;refine⟨s,ks,vs,f,B,names,rfl,by omega,ok.1,λx h=>hf x (Hf _ h),hB,?_⟩;walk_at "";rw[h2];refine ak λK3 h3=>?_;walk_at "";refine GG (by decide) ?_;rw[h3];refine ak λK4 h4=>?_;walk_at "";refine GG (by decide) ?_;rw[h4];walk_at "";have q:R (.bl (s.so f B||t.so f B)):=q
  cases e:s.so f B with
  | true =>
   rw[e,Bool.true_or] at q;exact Gw rfl q
  | false =>
   rw[e,Bool.false_or] at q;exact GG GW ⟨t,ks,vs,f,B,names,rfl,by omega,ok.2,λx h=>hf x (G7 _ h),hB,q⟩
theorem jn(Z:Zz):Z.C 63 "part_is_so" ["saying","tops","bottom"] (Gy Z.K (bM 60)):=Nat.rec (motive:=λn=>Z.C (3+n) "part_is_so" ["saying","tops","bottom"] (Gy Z.K (bM n))) (gO Z.x11 _ fM) (λ_=>iA Z) 60
inductive nu(ds:Zi)(R:D->Prop):Prop
 | mk (s:Gh) (ks:Zb) (ps:Za) (names:Zb) (T κ:Nat) (hh:ds=[s.D,.dct ks (ps.map Gq)]/\s.dep<=60/\s.ok names/\names.length<=60/\(∀x∈s.nms,x∈ks)/\Pt ks ps T/\T<=1000000/\ib (bot (pB ks ps) ks)<=κ/\κ<=7990/\R (.bl (s.tv (pT ks ps) (pB ks ps))))
theorem nw:∀ds R,nu ds R->ds.length=2:=λ_ _ ⟨_,_,_,_,_,_,e,_⟩=>by rw[e];rfl
theorem qo:ay ["saying","point","known"] ["saying","point"] (am s_is_so):=by walk_at "sc"
theorem ik(Z:Zz):Z.C 64 "is_so" ["saying","point"] (Gy Z.K nu):=by
 refine cU Z.x12 qo nw λfa cdv A outer s H E ds R hr h=>?_;have hU:=hr.units;refine⟨_,(ae (aD 2 qo.nd (au (iF Z) (rm hr) rfl (ac (au (cc Z) (rm hr) rfl (ac (ap 0) af)) (ac (ap 1) af)))) (ag (ax (au (jn Z) (rm hr) rfl (ac (ap 0) (ac (Gn 2) (ac (Gn 2) af))))))),?_⟩;obtain⟨s,ks,ps,names,T,κ,rfl,hd,ok,hl,ab,hp,hT,hb,hκ,q⟩:=h;walk_at "";refine⟨names,s,rfl,hd,ok,hl,λss nd hm hs=>?_⟩;have aa:∀n∈ss,n∈ks:=λn hn=>ab n ((hm n).mp hn);have ah:ss.length<=60:=GS (jp nd λk hk=>Gh.nms_sub ok k ((hm k).mp hk)) hl;refine⟨ss,ks,ps,T,κ,rfl,nd,by omega,aa,hp,hT,hb,hκ,?_⟩;walk_at "";have bp:=eD (q:=pB ks ps) (l:=ss) λn hn=>hp.pos (aa n hn);have bb:=pc (q:=pB ks ps) nd aa (λn hn=>hp.pos hn) hb;refine⟨s,ss,_,_,_,names,rfl,hd,ok,λx hx=>⟨cY (λn=>D.int (ov (pT ks ps) (pB ks ps) (bot (pB ks ps) ss) n)) ((hm x).mpr hx),GS (HH (hp.Tb (ab x hx)) (Ic bb)) (by omega)⟩,GS bb (by omega),?_⟩;rw[Gh.so_tv bp λn hn=>⟨hp.pos (ab n hn),i6 ((hm n).mpr hn)⟩];exact q
def _root_.Mf.Kd.op:Kd->Kd
 | .least=>.more
 | .more=>.least
def opps:List (Str×Str):=[("least","more"),("more","least"),("both","either"),("either","both")]
theorem BL(k:Kd):PyProof.Rows.KTD.datumAt (kdS k) opps=some (kdS k.op):=by cases k<;>decide
def conD(k:Kd)(ts:List (Str×Int))(b:Int):D:=lr k.op (BG ts) (-b)
inductive jG(ds:Zi)(R:D->Prop):Prop
 | mk (k:Kd) (ts:List (Str×Int)) (b:Int) (hh:ds=[lr k ts b]/\ts.length<=100/\R (conD k ts b))
theorem jr:∀ds R,jG ds R->ds.length=1:=λ_ _ ⟨_,_,_,e,_⟩=>by rw[e];rfl
theorem iV:ay ["row","terms"] ["row"] (am s_contrary):=by walk_at "sc"
theorem lu(Z:Zz):Z.C 1 "contrary" ["row"] (Gy Z.K jG):=by
 refine cU Z.x13 iV jr λfa cdv A outer s H E ds R hr h=>?_;have hU:=hr.units;refine⟨_,(ae (aD 1 iV.nd (dG jf rfl Z.x51 eK (ac (bR ["name","weight"] [] rfl rfl (by decide +kernel) rfl (by decide +kernel) (bE trivial) (λ_=>bO rfl) (aU trivial) (mB (Gn 0)) λ_ _ _ _ _=>⟨(bV (n:=2) rfl (aE (ar 0 (show List.Nodup (["name","weight"]:Zb) by decide +kernel)) (aE (ar 1 (show List.Nodup (["name","weight"]:Zb) by decide +kernel)) a5))),c7,(aN (ac (ap 0) (ac (vE vY (ap 1)) af)))⟩) af))) (ag (ax (aN (ac (ux rfl Z.g_OPPOSITES (Gn 0) (λ_ _=>rfl)) (ac (ap 1) (ac (vE vY (Gn 0)) af))))))),?_⟩;obtain⟨k,ts,b,rfl,hl,q⟩:=h;unfold lr;walk_at "";refine⟨by rw[GN];omega,λd=>match d with | .tup [.str n,.int w]=>some (.tup [.str n,.int (-w)]) | _=>none,λx hx=>?_,?_⟩
 ·obtain⟨t,_,rfl⟩:=GR.mp hx;unfold GK;walk_at ""
 ·rw[aL _ GK (λt=>D.tup [.str t.1,.int (-t.2)]) _ (by intro _ _;rfl)];refine⟨_,BL k,?_⟩;unfold conD lr BG at q;rw[HK] at q;exact q
def Gh.pl:Gh->Bool->Gh
 | .row k ts b,t=>if t=true then .row k.op (BG ts) (-b) else .row k ts b
 | .nt s,t=>s.pl (!t)
 | .bo s u,t=>if t=true then .ei (s.pl t) (u.pl t) else .bo (s.pl t) (u.pl t)
 | .ei s u,t=>if t=true then .bo (s.pl t) (u.pl t) else .ei (s.pl t) (u.pl t)
inductive bN(n:Nat)(ds:Zi)(R:D->Prop):Prop
 | mk (s:Gh) (t:Bool) (names:Zb) (hh:ds=[s.D,.bl t]/\s.dep<=n/\s.ok names/\names.length<=100/\R (s.pl t).D)
theorem gC(n:Nat):∀ds R,bN n ds R->ds.length=2:=λ_ _ ⟨_,_,_,e,_⟩=>by rw[e];rfl
theorem fJ:∀ds R,¬ bN 0 ds R:=λ_ _ ⟨s,_,_,_,h,_⟩=>by have:=s.dep_pos;omega
theorem tP(h:my names ts):ts.length<=names.length:=by have:=h.sub.length_le;rw[GN] at this;exact this
theorem eR:ay ["saying","turned","word"] ["saying","turned"] (am s_plain_part):=by walk_at "sc"
theorem iI(Z:Zz)(dl:Z.C (2+n) "plain_part" ["saying","turned"] (Gy Z.K (bN n))):Z.C (2+n+1) "plain_part" ["saying","turned"] (Gy Z.K (bN (n+1))):=by
 refine cU (k:=2+n) Z.x14 eR (gC (n+1)) λfa cdv A outer s H E ds R hr h=>?_;have hU:=hr.units;refine⟨_,(ae (aK (aC (dH hU) (Gn 0) aG (aB _)) (ag (ax (au dl (hr.mono (by omega)) rfl (ac (Gn 0) (ac (mw (ap 1)) af))))) aA) (ae (aK (bZ (au (dJ Z) (hr.mono (by omega)) rfl (ac (ap 0) af))) (ag (ax (og (bZ (ap 1)) (au (lu Z) (hr.mono (by omega)) rfl (ac (ap 0) af)) (ap 0)))) aA) (ae (aD 2 eR.nd (og (bZ (ap 1)) (ux rfl Z.g_OPPOSITES (Gn 0) (λ_ _=>rfl)) (Gn 0))) (ag (ax (aN (ac (ap 2) (ac (au dl (hr.mono (by omega)) rfl (ac (Gn 0) (ac (ap 1) af))) (ac (au dl (hr.mono (by omega)) rfl (ac (Gn 0) (ac (ap 1) af))) af))))))))),?_⟩;obtain⟨s,t,names,rfl,hd,ok,hl,q⟩:=h;refine ak λK1 h1=>?_
 cases s with
 | row k ts b =>
  have ab:=tP ok.1
  have aa:¬ kdS k=Str.ofString "not":=by cases k<;>decide
  unfold Gh.D lr;walk_at "";refine GG aa ?_;rw[h1];refine ak λK2 h2=>?_;walk_at "";refine⟨.row k ts b,rfl,?_⟩;walk_at "";refine Gw rfl ?_
  cases t with
  | true=>exact Gw rfl ⟨k,ts,b,rfl,by omega,q⟩
  | false=>exact GG GW q
 | nt s =>
  unfold Gh.D;walk_at "";have hd:s.dep+1<=n+1:=hd;exact⟨s,!t,names,rfl,by omega,ok,hl,q⟩
 | bo s u =>
  unfold Gh.D;walk_at "";have hd:max s.dep u.dep+1<=n+1:=hd;refine GG (by decide) ?_;rw[h1];refine ak λK2 h2=>?_;walk_at "";refine⟨.bo s u,rfl,?_⟩;walk_at "";refine GG GW ?_;walk_at "";rw[h2];refine ak λK3 h3=>?_;walk_at ""
  cases t with
  | true =>
   refine Gw rfl ⟨"either",by decide,?_⟩;rw[h3];walk_at "";refine⟨s,true,names,rfl,by omega,ok.1,hl,?_⟩;refine⟨u,true,names,rfl,by omega,ok.2,hl,?_⟩;exact q
  | false =>
   refine GG GW ?_;rw[h3];walk_at "";refine⟨s,false,names,rfl,by omega,ok.1,hl,?_⟩;refine⟨u,false,names,rfl,by omega,ok.2,hl,?_⟩;exact q
 | ei s u =>
  unfold Gh.D;walk_at "";have hd:max s.dep u.dep+1<=n+1:=hd;refine GG (by decide) ?_;rw[h1];refine ak λK2 h2=>?_;walk_at "";refine⟨.ei s u,rfl,?_⟩;walk_at "";refine GG GW ?_;walk_at "";rw[h2];refine ak λK3 h3=>?_;walk_at ""
  cases t with
  | true =>
   refine Gw rfl ⟨"both",by decide,?_⟩;rw[h3];walk_at "";refine⟨s,true,names,rfl,by omega,ok.1,hl,?_⟩;refine⟨u,true,names,rfl,by omega,ok.2,hl,?_⟩;exact q
  | false =>
   refine GG GW ?_;rw[h3];walk_at "";refine⟨s,false,names,rfl,by omega,ok.1,hl,?_⟩;refine⟨u,false,names,rfl,by omega,ok.2,hl,?_⟩;exact q
theorem jA(Z:Zz):Z.C 62 "plain_part" ["saying","turned"] (Gy Z.K (bN 60)):=Nat.rec (motive:=λn=>Z.C (2+n) "plain_part" ["saying","turned"] (Gy Z.K (bN n))) (gO Z.x14 _ fJ) (λ_=>iI Z) 60
inductive tw(ds:Zi)(R:D->Prop):Prop
 | mk (s:Gh) (names:Zb) (hh:ds=[s.D]/\s.dep<=60/\s.ok names/\names.length<=100/\R (s.pl false).D)
theorem nA:∀ds R,tw ds R->ds.length=1:=λ_ _ ⟨_,_,e,_⟩=>by rw[e];rfl
theorem vG:ay ["saying"] ["saying"] (am s_plain):=by walk_at "sc"
theorem uC(Z:Zz):Z.C 63 "plain" ["saying"] (Gy Z.K tw):=by
 refine cU Z.x15 vG nA λfa cdv A outer s H E ds R hr h=>?_;have hU:=hr.units;refine⟨_,(ag (ax (au (jA Z) (rm hr) rfl (ac (ap 0) (ac gz af))))),?_⟩;obtain⟨s,names,rfl,hd,ok,hl,q⟩:=h;walk_at "";exact⟨s,false,names,rfl,hd,ok,hl,q⟩
theorem rL(ts:List (Str×Int)):(BG ts).map (·.1)=ts.map (·.1):=by unfold BG;rw[HK];rfl
theorem rK(h:my names ts):my names (BG ts):=by
 refine⟨by rw[rL];exact h.sub,λt ht=>?_,λt ht=>?_⟩
 ·obtain⟨u,hu,rfl⟩:=GR.mp ht;have:=h.nz u hu;show -u.2≠0;omega
 ·obtain⟨u,hu,rfl⟩:=GR.mp ht;exact JC (h.bits u hu)
theorem Gh.pl_ok:∀ {s:Gh} {t:Bool},s.ok names->(s.pl t).ok names
 | .row k ts b,true,h=>⟨rK h.1,JC h.2⟩
 | .row k ts b,false,h=>h
 | .nt s,t,h=>Gh.pl_ok (s:=s) h
 | .bo s u,true,h=>⟨Gh.pl_ok h.1,Gh.pl_ok h.2⟩
 | .bo s u,false,h=>⟨Gh.pl_ok h.1,Gh.pl_ok h.2⟩
 | .ei s u,true,h=>⟨Gh.pl_ok h.1,Gh.pl_ok h.2⟩
 | .ei s u,false,h=>⟨Gh.pl_ok h.1,Gh.pl_ok h.2⟩
theorem Gh.pl_dep:∀ {s:Gh} {t:Bool},(s.pl t).dep<=s.dep
 | .row k ts b,true=>GU _
 | .row k ts b,false=>GU _
 | .nt s,t=>Nat.le_succ_of_le (Gh.pl_dep (s:=s))
 | .bo s u,true=>by have:=Gh.pl_dep (s:=s) (t:=true);have:=Gh.pl_dep (s:=u) (t:=true);show max _ _+1<=max _ _+1;omega
 | .bo s u,false=>by have:=Gh.pl_dep (s:=s) (t:=false);have:=Gh.pl_dep (s:=u) (t:=false);show max _ _+1<=max _ _+1;omega
 | .ei s u,true=>by have:=Gh.pl_dep (s:=s) (t:=true);have:=Gh.pl_dep (s:=u) (t:=true);show max _ _+1<=max _ _+1;omega
 | .ei s u,false=>by have:=Gh.pl_dep (s:=s) (t:=false);have:=Gh.pl_dep (s:=u) (t:=false);show max _ _+1<=max _ _+1;omega
def Gh.args:Gh->List DL.D
 | .row k ts b=>[.str (kdS k),.tup (ts.map GK),.int b]
 | .nt s=>[.str "not",s.D]
 | .bo s t=>[.str "both",s.D,t.D]
 | .ei s t=>[.str "either",s.D,t.D]
theorem Gh.D_args(s:Gh):s.D=.tup s.args:=by cases s<;>rfl
theorem Gh.nds:∀s:Gh,DL.D.nds s.args=true
 | .row k ts b=>by
  show (true&&(DL.D.nds (ts.map GK)&&(true&&true)))=true
  rw[tF];rfl
 | .nt s=>by
  show (true&&(DL.D.nd s.D&&true))=true
  rw[s.D_args];show (true&&(DL.D.nds s.args&&true))=true;rw[Gh.nds s];rfl
 | .bo s t=>by
  show (true&&(DL.D.nd s.D&&(DL.D.nd t.D&&true)))=true
  rw[s.D_args,t.D_args];show (true&&(DL.D.nds s.args&&(DL.D.nds t.args&&true)))=true;rw[Gh.nds s,Gh.nds t];rfl
 | .ei s t=>by
  show (true&&(DL.D.nd s.D&&(DL.D.nd t.D&&true)))=true
  rw[s.D_args,t.D_args];show (true&&(DL.D.nds s.args&&(DL.D.nds t.args&&true)))=true;rw[Gh.nds s,Gh.nds t];rfl
theorem Gh.dps:∀s:Gh,DL.D.dps s.args<=s.dep+1
 | .row k ts b=>by
  have:=uK ts
  show max 0 (max (DL.D.dps (ts.map GK)+1) (max 0 0))<=1+1
  omega
 | .nt s=>by
  have:=Gh.dps s
  show max 0 (max (DL.D.dp s.D) 0)<=s.dep+1+1
  rw[s.D_args];show max 0 (max (DL.D.dps s.args+1) 0)<=s.dep+1+1;omega
 | .bo s t=>by
  have:=Gh.dps s
  have:=Gh.dps t
  show max 0 (max (DL.D.dp s.D) (max (DL.D.dp t.D) 0))<=max s.dep t.dep+1+1
  rw[s.D_args,t.D_args];show max 0 (max (DL.D.dps s.args+1) (max (DL.D.dps t.args+1) 0))<=max s.dep t.dep+1+1;omega
 | .ei s t=>by
  have:=Gh.dps s
  have:=Gh.dps t
  show max 0 (max (DL.D.dp s.D) (max (DL.D.dp t.D) 0))<=max s.dep t.dep+1+1
  rw[s.D_args,t.D_args];show max 0 (max (DL.D.dps s.args+1) (max (DL.D.dps t.args+1) 0))<=max s.dep t.dep+1+1;omega
theorem y6{s t:Gh}{R}(e:s=t)(hd:s.dep<=59)(h:R (.bl false)):vp [s.D,t.D] R:=by
 subst e;rw[s.D_args];exact⟨⟨rfl,s.nds,by have:=s.dps;omega⟩,h⟩
theorem C3{α:Type}{xs:List α}{k:Nat}:cut xs none (some (k:Int))=xs.take k:=by
 unfold cut;rw[HT.sIx_none,HT.sIx_nat,List.drop_zero,Nat.sub_zero]
 by_cases h:k<=xs.length
 ·rw[Nat.min_eq_left h]
 ·rw[Nat.min_eq_right (by omega),Ht,JZ (by omega)]
def Gh.cs:Gh->List (List Gh)
 | .row k ts b=>[[.row k ts b]]
 | .nt _=>[]
 | .bo s t=>s.cs.flatMap λc=>t.cs.map λd=>c++d
 | .ei s t=>s.cs++t.cs
def Gh.pn:Gh->Bool
 | .row _ _ _=>true
 | .nt _=>false
 | .bo s t=>s.pn&&t.pn
 | .ei s t=>s.pn&&t.pn
def Gh.num:Gh->Nat
 | .bo s t=>s.num*t.num
 | .ei s t=>s.num+t.num
 | _=>1
def Gh.long:Gh->Nat
 | .bo s t=>s.long+t.long
 | .ei s t=>max s.long t.long
 | _=>1
theorem Gh.num_pos:∀s:Gh,0<s.num
 | .row _ _ _=>Nat.one_pos
 | .nt _=>Nat.one_pos
 | .bo s t=>Nat.mul_pos s.num_pos t.num_pos
 | .ei s t=>Nat.add_pos_left s.num_pos _
theorem vW(f:α->β->γ)(m:List β):∀l:List α,(l.flatMap λc=>m.map λd=>f c d).length=l.length*m.length
 | []=>(Nat.zero_mul _).symm
 | c::l=>by rw[List.flatMap_cons,GV,GN,vW f m l,G0,Nat.succ_mul,Nat.add_comm]
theorem Gh.cs_num:∀ {s:Gh},s.pn=true->s.cs.length=s.num
 | .row _ _ _,_=>rfl
 | .bo s t,h=>by
  obtain⟨h1,h2⟩:=Hu.mp h;show (s.cs.flatMap λc=>t.cs.map λd=>c++d).length=s.num*t.num;rw[vW,Gh.cs_num h1,Gh.cs_num h2]
 | .ei s t,h=>by
  obtain⟨h1,h2⟩:=Hu.mp h;show (s.cs++t.cs).length=s.num+t.num;rw[GV,Gh.cs_num h1,Gh.cs_num h2]
theorem Gh.cs_long:∀ {s:Gh},s.pn=true->∀c∈s.cs,c.length<=s.long
 | .row _ _ _,_,c,h=>by rw[GX.mp h];exact GU 1
 | .bo s t,h,c,hc=>by
  obtain⟨h1,h2⟩:=Hu.mp h;obtain⟨x,hx,hy⟩:=Je.mp hc;obtain⟨y,hz,rfl⟩:=GR.mp hy;have:=Gh.cs_long h1 x hx;have:=Gh.cs_long h2 y hz;rw[GV];show _<=s.long+t.long;omega
 | .ei s t,h,c,hc=>by
  obtain⟨h1,h2⟩:=Hu.mp h;show _<=max s.long t.long
  rcases Hb.mp hc with hc | hc
  ·have:=Gh.cs_long h1 c hc;omega
  ·have:=Gh.cs_long h2 c hc;omega
theorem Gh.pl_pn:∀ {s:Gh} {t:Bool},(s.pl t).pn=true
 | .row k ts b,true=>rfl
 | .row k ts b,false=>rfl
 | .nt s,t=>Gh.pl_pn (s:=s)
 | .bo s u,true=>by show ((s.pl true).pn&&(u.pl true).pn)=true;rw[Gh.pl_pn,Gh.pl_pn];rfl
 | .bo s u,false=>by show ((s.pl false).pn&&(u.pl false).pn)=true;rw[Gh.pl_pn,Gh.pl_pn];rfl
 | .ei s u,true=>by show ((s.pl true).pn&&(u.pl true).pn)=true;rw[Gh.pl_pn,Gh.pl_pn];rfl
 | .ei s u,false=>by show ((s.pl false).pn&&(u.pl false).pn)=true;rw[Gh.pl_pn,Gh.pl_pn];rfl
def c4(c:List Gh):D:=.lst (c.map Gh.D)
def csD(cs:List (List Gh)):D:=.lst (cs.map c4)
inductive dY(ds:Zi)(R:D->Prop):Prop
 | mk (A B:List (List Gh)) (hh:ds=[csD A,csD B]/\A.length<=20/\B.length<=20/\(∀c∈A,c.length<=20)/\(∀c∈B,c.length<=20)/\R (csD (A.flatMap λc=>B.map λd=>c++d)))
theorem eU:∀ds R,dY ds R->ds.length=2:=λ_ _ ⟨_,_,e,_⟩=>by rw[e];rfl
theorem yz{cs:List (List Gh)}{i:Nat}(h:(cs.map c4)[i]?=some d):∃c,cs[i]?=some c/\d=.lst (c.map Gh.D):=by
 rw[G6] at h
 cases e:cs[i]? with
 | none=>rw[e] at h;cases h
 | some n=>rw[e] at h;exact⟨n,rfl,(G4 h).symm⟩
theorem bY:ay ["one","other","told","first","second"] ["one","other"] (am s_put_together):=by walk_at "sc"
theorem gx(Z:Zz):Z.C 1 "put_together" ["one","other"] (Gy Z.K dY):=by
 refine cU Z.x16 bY eU λfa cdv A outer s H E ds R hr h=>?_;have hU:=hr.units;refine⟨_,(ae (cJ 2 bY.nd af) (ae (aY Hj rfl (ap 0) (ar 3 bY.nd) (ag (aY Hj rfl (ap 1) (ar 4 bY.nd) (ag (a8 2 (aJ bC (ap 3) (ap 4))))))) (ag (jY 2)))),?_⟩;obtain⟨A,B,rfl,hA,hB,lA,lB,q⟩:=h;unfold csD at q ⊢;walk_at "";intro a;walk_at "";simp only[sj];walk_at "";have fl:∀i,((A.take i).flatMap λc=>B.map λd=>c++d).length<=400:=λi=>by
  rw[vW,HP];exact Nat.mul_le_mul (show min i A.length<=20 by omega) hB
 refine⟨λi δ=>∃x y,δ=[.dat (.lst (A.map c4)),.dat (.lst (B.map c4)),.own a (.lst (((A.take i).flatMap λc=>B.map λd=>c++d).map c4)),x,y],⟨_,_,rfl⟩,?_,?_⟩
 ·rintro i d δ hd ⟨x,y,rfl⟩;obtain⟨c,hc,rfl⟩:=yz hd;have aa:=lA c (G9 hc);have ah:=fl i;walk_at "";refine⟨λj δ=>∃x,δ=[.dat (.lst (A.map c4)),.dat (.lst (B.map c4)),.own a (.lst (((A.take i).flatMap (λc=>B.map λd=>c++d)++(B.take j).map λd=>c++d).map c4)),.dat (.lst (c.map Gh.D)),x],⟨_,by rw[J3,Jo,HM]⟩,?_,?_⟩
  ·rintro j d δ hd ⟨x,rfl⟩;obtain⟨e,he,rfl⟩:=yz hd;have ab:=lB e (G9 he);walk_at "";refine⟨by simp only[List.length_map];omega,by simp only[List.length_map,List.length_append,List.length_take];omega,?_⟩;rw[aI he,Hg,Hg,Hg];simp only[c4,List.map_append,List.map_cons,List.map_nil,List.append_assoc]
  ·rintro δ ⟨x,rfl⟩;rw[GN,Ht];rw[aI hc,List.flatMap_append,List.flatMap_singleton];exact⟨_,_,rfl⟩
 ·rintro δ ⟨x,y,rfl⟩;rw[GN,Ht];walk_at "";exact q
def Gh.few(s:Gh):Prop:=s.num<=4/\s.long<=3
def a9(n:Nat):FE:=λds R RE=>∃(s:Gh) (w:D),ds=[s.D,w]/\s.dep<=n/\s.pn=true/\(s.few->R (csD s.cs))/\(¬ s.few->RE "TooMany" "saying" w)
theorem eQ(n:Nat):∀ds R RE,a9 n ds R RE->ds.length=2:=λ_ _ _ ⟨_,_,e,_⟩=>by rw[e];rfl
theorem et:∀ds R RE,¬ a9 0 ds R RE:=λ_ _ _ ⟨s,_,_,h,_⟩=>by have:=s.dep_pos;omega
theorem Gh.long_at:∀ {s:Gh},s.pn=true->∃c∈s.cs,c.length=s.long
 | .row _ _ _,_=>⟨_,GX.mpr rfl,rfl⟩
 | .bo s t,h=>by
  obtain⟨h1,h2⟩:=Hu.mp h;obtain⟨c,hc,e1⟩:=Gh.long_at h1;obtain⟨d,hd,e2⟩:=Gh.long_at h2;exact⟨c++d,Je.mpr ⟨c,hc,GR.mpr ⟨d,hd,rfl⟩⟩,by rw[GV,e1,e2];rfl⟩
 | .ei s t,h=>by
  obtain⟨h1,h2⟩:=Hu.mp h;obtain⟨c,hc,e1⟩:=Gh.long_at h1;obtain⟨d,hd,e2⟩:=Gh.long_at h2
  by_cases z:t.long<=s.long
  ·exact⟨c,Hf _ hc,by rw[e1];show s.long=max s.long t.long;omega⟩
  ·exact⟨d,G7 _ hd,by rw[e2];show t.long=max s.long t.long;omega⟩
theorem xU{s:Gh}{P Q:Prop}(hp:s.pn=true)(h16:s.cs.length<=900)(q0:¬ s.few->Q)(q:s.few->P):((4:Int)<(s.cs.map c4).length->Q)/\(¬ (4:Int)<(s.cs.map c4).length->(s.cs.map c4).length<=9000/\∃f:D->Option D,(∀x∈s.cs.map c4,BA [x] (kD (wd λy δ4=>okT 1 δ4 []/\f x=some y) [.dat x]))/\∃ns:Ze,(s.cs.map c4).filterMap f=ns.map D.int/\0<ns.length/\∀M∈ns,(∀m∈ns,m<=M)->if 3<M then Q else P):=by
 refine⟨λh=>q0 λf=>?_,λh=>⟨by rw[GN];omega,λd=>match d with | .lst l=>some (.int l.length) | _=>none,λx hx=>?_,s.cs.map λc=>(c.length:Int),?_,by rw[GN,Gh.cs_num hp];exact s.num_pos,λM hM hmax=>?_⟩⟩
 ·rw[GN,Gh.cs_num hp] at h;have:=f.1;omega
 ·obtain⟨c,_,rfl⟩:=GR.mp hx;exact⟨rfl,rfl⟩
 ·rw[aL _ c4 (λc=>D.int (c.length:Int)) _ (by intro c _;show some (D.int ((c.map Gh.D).length:Int))=_;rw[GN]),HK];rfl
 ·obtain⟨c,hc,rfl⟩:=GR.mp hM;obtain⟨d,hd,e⟩:=Gh.long_at hp;have h1:=hmax _ (GR.mpr ⟨d,hd,rfl⟩);have h2:=Gh.cs_long hp c hc;rw[GN,Gh.cs_num hp] at h
  by_cases z:(3:Int)<c.length
  ·rw[Hc z];exact q0 λf=>by have:=f.2;omega
  ·rw[Ha z];exact q ⟨by omega,by omega⟩
theorem bQ:ay ["part","whole","one","other","told"] ["part","whole"] (am s_cases_within):=by walk_at "sc"
theorem fW(Z:Zz){n:Nat}(d4:Z.E (3+n) "cases_within" ["part","whole"] (a9 n)):Z.E (3+n+1) "cases_within" ["part","whole"] (a9 (n+1)):=by
 refine ye (k:=3+n) Z.x17 bQ (eQ (n+1)) λfa cdv A outer s H E ds R RE hr h=>?_;have hU:=hr.units;refine⟨_,(ae (aK (bZ (au (dJ Z) (hr.mono (by omega)) rfl (ac (ap 0) af))) (ag (ax (aO (ac (aO (ac (ap 0) af)) af)))) aA) (ae (dm 2 bQ.nd d4 (hr.mono (by omega)) rfl (ac (Gn 0) (ac (ap 1) af))) (ae (dm 3 bQ.nd d4 (hr.mono (by omega)) rfl (ac (Gn 0) (ac (ap 1) af))) (ae (aD 4 bQ.nd (og (aC (dH hU) (Gn 0) aG (aB _)) (au (gx Z) (hr.mono (by omega)) rfl (ac (ap 2) (ac (ap 3) af))) (aJ bC (ap 2) (ap 3)))) (ae (aK (DW.dt (kL (aC vQ (bg oU rfl Z.x53 mx (ac (ap 4) af)) (vj rfl Z.g_MOST_CASES) (aB _)) (f6 (aC vQ (bg (DC rfl) rfl Z.x52 Ea (ac (DE.nox (bR ["case"] [] rfl rfl (by decide +kernel) rfl (by decide +kernel) (bE trivial) (λ_=>bO rfl) (aU trivial) (cR (ap 4)) λ_ _ _ _ _=>⟨(ar 0 (show List.Nodup (["case"]:Zb) by decide +kernel)),c7,(bg oU rfl Z.x53 mx (ac (ap 0) af))⟩)) af)) (vj rfl Z.g_MOST_ROWS) (aB _))))) (ag (ds_x Z.er.t (hr.mono (by omega)) rfl (ap 1))) aA) (ag (ax (ap 4)))))))),?_⟩;obtain⟨s,w,rfl,hd,hp,q,q0⟩:=h;walk_at "";refine⟨s,rfl,?_⟩;walk_at ""
 cases s with
 | nt s=>cases hp
 | row k ts b=>exact Gw rfl (q ⟨by show 1<=4;decide,by show 1<=3;decide⟩)
 | bo s t =>
  refine GG GW ?_;unfold Gh.D;walk_at "";obtain⟨p1,p2⟩:=Hu.mp hp;have hd:max s.dep t.dep+1<=n+1:=hd;have f1:(Gh.bo s t).few->s.few:=λf=>⟨GS (Nat.le_mul_of_pos_right _ t.num_pos) f.1,by have:s.long+t.long<=3:=f.2;omega⟩;have f2:(Gh.bo s t).few->t.few:=λf=>⟨GS (Nat.le_mul_of_pos_left _ s.num_pos) f.1,by have:s.long+t.long<=3:=f.2;omega⟩;refine⟨s,w,rfl,by omega,p1,λg1=>⟨t,w,rfl,by omega,p2,λg2=>?_,λg2=>q0 λf=>g2 (f2 f)⟩,λg1=>q0 λf=>g1 (f1 f)⟩;have l1:s.cs.length<=4:=by rw[Gh.cs_num p1];exact g1.1
  have l2:t.cs.length<=4:=by rw[Gh.cs_num p2];exact g2.1
  refine⟨s.cs,t.cs,rfl,by omega,by omega,λc hc=>by have:=Gh.cs_long p1 c hc;have:=g1.2;omega,λc hc=>by have:=Gh.cs_long p2 c hc;have:=g2.2;omega,?_⟩;have l3:(Gh.bo s t).cs.length<=900:=by
   show (s.cs.flatMap λc=>t.cs.map λd=>c++d).length<=900
   rw[vW];exact GS (Nat.mul_le_mul l1 l2) (by decide)
  obtain⟨e1,e2⟩:=xU hp l3 q0 q;show kD _ _ (csD (Gh.bo s t).cs);unfold csD;walk_at "";exact dI e1 e2
 | ei s t =>
  refine GG GW ?_;unfold Gh.D;walk_at "";obtain⟨p1,p2⟩:=Hu.mp hp;have hd:max s.dep t.dep+1<=n+1:=hd;have f1:(Gh.ei s t).few->s.few:=λf=>⟨by have:s.num+t.num<=4:=f.1;omega,by have:max s.long t.long<=3:=f.2;omega⟩;have f2:(Gh.ei s t).few->t.few:=λf=>⟨by have:s.num+t.num<=4:=f.1;omega,by have:max s.long t.long<=3:=f.2;omega⟩;refine⟨s,w,rfl,by omega,p1,λg1=>⟨t,w,rfl,by omega,p2,λg2=>?_,λg2=>q0 λf=>g2 (f2 f)⟩,λg1=>q0 λf=>g1 (f1 f)⟩;have l1:s.cs.length<=4:=by rw[Gh.cs_num p1];exact g1.1
  have l2:t.cs.length<=4:=by rw[Gh.cs_num p2];exact g2.1
  unfold csD at q ⊢;walk_at "";refine GG (by decide) ?_;have e0:s.cs.map c4++t.cs.map c4=(Gh.ei s t).cs.map c4:=(Hg ..).symm;rw[e0];refine⟨by rw[GN,GN];omega,?_⟩;have l3:(Gh.ei s t).cs.length<=900:=by
   show (s.cs++t.cs).length<=900
   rw[GV];omega
  obtain⟨e1,e2⟩:=xU hp l3 q0 q;exact dI e1 e2
theorem gF(Z:Zz):Z.E 63 "cases_within" ["part","whole"] (a9 60):=Nat.rec (motive:=λn=>Z.E (3+n) "cases_within" ["part","whole"] (a9 n)) (uM Z.x17 _ et) (λ_=>fW Z) 60
def nP:FE:=λds R RE=>∃(s:Gh) (names:Zb),ds=[s.D]/\s.dep<=60/\s.ok names/\names.length<=100/\((s.pl false).few->R (csD (s.pl false).cs))/\(¬ (s.pl false).few->RE "TooMany" "saying" s.D)
theorem ot:∀ds R RE,nP ds R RE->ds.length=1:=λ_ _ _ ⟨_,_,e,_⟩=>by rw[e];rfl
theorem vM:ay ["saying"] ["saying"] (am s_cases):=by walk_at "sc"
theorem bD(Z:Zz):Z.E 64 "cases" ["saying"] nP:=by
 refine ye Z.x18 vM ot λfa cdv A outer s H E ds R RE hr h=>?_;have hU:=hr.units;refine⟨_,(ag (zm (gF Z) (rm hr) rfl (ac (au (uC Z) (rm hr) rfl (ac (ap 0) af)) (ac (ap 0) af)))),?_⟩;obtain⟨s,names,rfl,hd,ok,hl,q,q0⟩:=h;walk_at "";refine⟨s,names,rfl,hd,ok,hl,?_⟩;exact⟨s.pl false,s.D,rfl,GS Gh.pl_dep hd,Gh.pl_pn,q,q0⟩
def Gh.kr:Gh->List (List Rw)
 | .row k ts b=>[[(k,ts,b)]]
 | .nt _=>[]
 | .bo s t=>s.kr.flatMap λc=>t.kr.map λd=>c++d
 | .ei s t=>s.kr++t.kr
def md(r:Rw):Gh:=.row r.1 r.2.1 r.2.2
theorem Gh.cs_kr:∀ {s:Gh},s.cs=s.kr.map λc=>c.map md
 | .row _ _ _=>rfl
 | .nt _=>rfl
 | .bo s t=>by
  show (s.cs.flatMap λc=>t.cs.map λd=>c++d)=(s.kr.flatMap λc=>t.kr.map λd=>c++d).map _
  rw[Gh.cs_kr (s:=s),Gh.cs_kr (s:=t),List.flatMap_map,List.map_flatMap]
  congr 1
  funext c
  rw[HK,HK]
  congr 1
  funext d
  show _=List.map md (c++d)
  rw[Hg];rfl
 | .ei s t=>by
  show s.cs++t.cs=(s.kr++t.kr).map _
  rw[Gh.cs_kr (s:=s),Gh.cs_kr (s:=t),Hg]
def krD(K:List (List Rw)):D:=.lst (K.map λc=>.lst (c.map GF))
theorem gZ{s:Gh}:csD s.cs=krD s.kr:=by
 unfold csD krD c4;rw[Gh.cs_kr,HK]
 congr 2
 funext c
 show DL.D.lst ((c.map md).map Gh.D)=_
 rw[HK];rfl
theorem Gh.kr_num{s:Gh}(h:s.pn=true):s.kr.length=s.num:=by rw[<- Gh.cs_num h,Gh.cs_kr,GN]
theorem Gh.kr_ne0(s:Gh):(s.pl false).kr≠[]:=λz=>by have:=Gh.kr_num (s:=s.pl false) Gh.pl_pn;rw[z] at this;have:=(s.pl false).num_pos;simp at *;omega
theorem Gh.kr_long{s:Gh}(h:s.pn=true){c:List Rw}(hc:c∈s.kr):c.length<=s.long:=by
 have:=Gh.cs_long h (c.map md) (by rw[Gh.cs_kr];exact GR.mpr ⟨c,hc,rfl⟩)
 rwa [GN] at this
def Gh.bt(B:Nat):Gh->Prop
 | .row _ ts b=>(∀t∈ts,ib t.2<=B)/\ib b<=B
 | .nt s=>s.bt B
 | .bo s t=>s.bt B/\t.bt B
 | .ei s t=>s.bt B/\t.bt B
theorem Gh.pl_bt{B:Nat}:∀ {s:Gh} {t:Bool},s.bt B->(s.pl t).bt B
 | .row k ts b,true,h=>⟨λt ht=>by
   obtain⟨u,hu,rfl⟩:=GR.mp ht
   exact JC (h.1 u hu),JC h.2⟩
 | .row k ts b,false,h=>h
 | .nt s,t,h=>Gh.pl_bt (s:=s) h
 | .bo s u,true,h=>⟨Gh.pl_bt h.1,Gh.pl_bt h.2⟩
 | .bo s u,false,h=>⟨Gh.pl_bt h.1,Gh.pl_bt h.2⟩
 | .ei s u,true,h=>⟨Gh.pl_bt h.1,Gh.pl_bt h.2⟩
 | .ei s u,false,h=>⟨Gh.pl_bt h.1,Gh.pl_bt h.2⟩
theorem Gh.kr_row{names:Zb}{B:Nat}:∀ {s:Gh},s.ok names->s.bt B->∀c∈s.kr,∀r∈c,my names r.2.1/\(∀t∈r.2.1,ib t.2<=B)/\ib r.2.2<=B/\∀n∈r.2.1.map (·.1),n∈s.nms
 | .row k ts b,o,h,c,hc,r,hr=>by
  rw[GX.mp hc] at hr;rw[GX.mp hr];exact⟨o.1,h.1,h.2,λn hn=>hn⟩
 | .bo s t,o,h,c,hc,r,hr=>by
  obtain⟨x,hx,hy⟩:=Je.mp hc;obtain⟨y,hz,rfl⟩:=GR.mp hy
  rcases Hb.mp hr with hr | hr
  ·obtain⟨a,b,d,e⟩:=Gh.kr_row o.1 h.1 x hx r hr;exact⟨a,b,d,λn hn=>Hf _ (e n hn)⟩
  ·obtain⟨a,b,d,e⟩:=Gh.kr_row o.2 h.2 y hz r hr;exact⟨a,b,d,λn hn=>G7 _ (e n hn)⟩
 | .ei s t,o,h,c,hc,r,hr=>by
  rcases Hb.mp hc with hc | hc
  ·obtain⟨a,b,d,e⟩:=Gh.kr_row o.1 h.1 c hc r hr;exact⟨a,b,d,λn hn=>Hf _ (e n hn)⟩
  ·obtain⟨a,b,d,e⟩:=Gh.kr_row o.2 h.2 c hc r hr;exact⟨a,b,d,λn hn=>G7 _ (e n hn)⟩
theorem tQ(f:α->β)(l:List α)(lo hi:Option Int):cut (l.map f) lo hi=(cut l lo hi).map f:=by
 unfold cut;rw[GN,List.map_take,List.map_drop]
theorem yo:(cut l lo hi).length<=l.length:=by
 unfold cut;rw[HP,Jd];omega
inductive uX(ds:Zi)(R:D->Prop):Prop
 | mk (rows:List Rw) (ws:Ze) (nm:Zb) (hh:ds=[.lst (rows.map GF),.tup (ws.map D.int)]/\nm.length<=60/\(∀r∈rows,RwOk nm 60000000 r)/\(∀w∈ws,Builtin.Int.intBits w<=60000000) /\
 ∀ts,eM (cfs (rows.zip ws)) ts->R (lr (kOf (Gv (rows.zip ws))) ts (bds (rows.zip ws))))
theorem m3:∀ds R,uX ds R->ds.length=2:=λ_ _ ⟨_,_,_,e,_⟩=>by rw[e];rfl
theorem bW:ay ["rows","weights","word","sums","bound","row","often","name","weight","terms"] ["rows","weights"] (am s_added):=by walk_at "sc"
theorem lw(Z:Zz):Z.C 1 "added" ["rows","weights"] (Gy Z.K uX):=by
 refine cU Z.x19 bW m3 λfa cdv A outer s H E ds R hr h=>?_;have hU:=hr.units;refine⟨_,(ae (aD 2 bW.nd aG) (ae (iE 3 bW.nd) (ae (aD 4 bW.nd av) (ae (jE Hj rfl (pZ true false rfl Z.x54 (ac (ap 0) (ac (ap 1) af))) (bV (n:=2) rfl (aE (ar 5 bW.nd) (aE (ar 6 bW.nd) a5))) (ae (aK (DW.dt (lL (aC (dH hU) (Gn 5) aG (aB _)) (iq (aC vQ (ap 6) av (aB _))))) (ag (aD 2 bW.nd aG)) aA) (ae (k7 Hj rfl (Gn 5) (bV (n:=2) rfl (aE (ar 7 bW.nd) (aE (ar 8 bW.nd) a5))) (ag (fR 3 hU (aJ bC (Ad 3 hU (ap 7) av) (aJ cZ (ap 6) (ap 8))) (ap 7)))) (ag (aD 4 bW.nd (aJ bC (ap 4) (aJ cZ (ap 6) (Gn 5)))))))) (a6 3 (ae (aD 9 bW.nd (dG jf rfl Z.x51 eK (ac (bR ["name"] [(3,"sums")] rfl rfl (by decide +kernel) rfl (by decide +kernel) (bE ⟨rfl,trivial⟩) (λ_=>bO rfl) (aU ⟨⟨rfl,rfl,.inl rfl⟩,trivial⟩) (cR (bg (pW rfl) rfl Z.x50 kt (ac (ap 3) af))) λ_ _ _ _ _=>⟨(ar 0 (show List.Nodup (["name","sums"]:Zb) by decide +kernel)),(f9 (aC (jk hU) (fK hU (ap 1) (ap 0) (λ_ _=>rfl)) av (aB _))),(aN (ac (ap 0) (ac (fK hU (ap 1) (ap 0) (λ_ _=>rfl)) af)))⟩) af))) (ag (ax (aN (ac (ap 2) (ac (ap 9) (ac (ap 4) af)))))))))))),?_⟩;obtain⟨rows,ws,nm,rfl,an,hr,hw,q⟩:=h;refine ak λK1 h1=>?_;walk_at "";rw[h1];refine ak λK3 h3=>?_;walk_at "";intro da;rw[h3];refine ak λK4 h4=>?_;walk_at "";rw[h4];refine ak λK5 h5=>?_;refine fZ λB N hB hN=>?_;walk_at "";simp only[nQ];walk_at "";rw[wo];generalize hl:rows.zip ws=l at q ⊢;have ai:∀p∈l,RwOk nm 60000000 p.1/\Builtin.Int.intBits p.2<=60000000:=λp hp=>by
  rw[<- hl] at hp;exact⟨hr _ (HS hp).1,hw _ (HS hp).2⟩
 clear hl hr hw
 refine⟨λi δ=>∃ks u v w z y,δ=[.dat (.lst (rows.map GF)),.dat (.tup (ws.map D.int)),.dat (.str (kdS (kOf (Gv (l.take i))))),.own da (.dct ks (ks.map λn=>.int (cfs (l.take i) n))),.dat (.int (bds (l.take i))),u,v,w,z,y]/\ks.Nodup/\(∀n∈ks,n∈nm)/\∀n,n∉ks->cfs (l.take i) n=0,
  ⟨[],_,_,_,_,_,rfl,List.nodup_nil,λn h=>(nomatch h),λn h=>rfl⟩,?_,?_⟩
 ·rintro i d δ hd ⟨ks,u,v,w,z,y,rfl,nd,hs,h0⟩;rw[G6] at hd
  cases hn:l[i]? with
  | none=>rw[hn] at hd;cases hd
  | some p =>
   rw[hn] at hd
   cases hd
   obtain⟨⟨k,ts,b⟩,c⟩:=p;obtain⟨ok,bc⟩:=ai _ (G9 hn);have aa:=aI hn;rw[hB];show lG _ _ (.tup [.tup [.str (kdS k),.tup (ts.map GK),.int b],.int c]) _ _;refine bX λK hK=>?_;walk_at "";have go:∀wd,wd=kdS (kOf (Gv (l.take (i+1))))->K [.dat (.lst (rows.map GF)),.dat (.tup (ws.map D.int)),.dat (.str wd),.own da (.dct ks (ks.map λn=>.int (cfs (l.take i) n))),.dat (.int (bds (l.take i))),.dat (.tup [.str (kdS k),.tup (ts.map GK),.int b]),.dat (.int c),w,z,y]:=?_
   ·have e:Gv (l.take (i+1))=(Gv (l.take i)||(isM k&&decide (0<c))):=by rw[aa,Ar,Bj]
    cases k with
    | least =>
     refine GG (by decide) (go _ ?_);rw[e];simp only[isM,Bool.false_and,Bool.or_false]
    | more =>
     refine Gw rfl (dI (λhc=>go _ ?_) λhc=>go _ ?_)
     ·rw[e,HJ hc];simp only[isM,Bool.and_true,Bool.or_true];rfl
     ·rw[e,HA hc];simp only[isM,Bool.and_false,Bool.or_false]
   intro wd al;rw[hK];refine ak λK2 hK2=>?_;walk_at "";simp only[t9];walk_at ""
   refine⟨λj δ=>∃ks w z y,δ=[.dat (.lst (rows.map GF)),.dat (.tup (ws.map D.int)),.dat (.str wd),.own da (.dct ks (ks.map λn=>.int (cfs (l.take i) n+c*cf (ts.take j) n))),.dat (.int (bds (l.take i))),.dat (.tup [.str (kdS k),.tup (ts.map GK),.int b]),.dat (.int c),w,z,y]/\ks.Nodup/\(∀n∈ks,n∈nm)/\∀n,n∉ks->cfs (l.take i) n+c*cf (ts.take j) n=0,
    ⟨ks,w,z,y,by simp only[List.take_zero,cf,Int.mul_zero,Int.add_zero],nd,hs,λn hn=>by rw[h0 n hn,J3];show 0+c*0=0;omega⟩,?_,?_⟩
   ·rintro j d δ hd ⟨ks,w,z,y,rfl,nd,hs,h0⟩;obtain⟨t,ht,rfl⟩:=fe hd;have ab:=G9 ht;have hj:=aI ht;walk_at "";rw[v5 (h0 t.1)];walk_at "";refine⟨mo2 bc (ok.bw t ab),by have:=jp nd hs;omega,?_,sX nd,λn hn=>?_,λn hn=>?_⟩
    ·have e:∀n,cfs (l.take i) n+c*cf (ts.take (j+1)) n=(cfs (l.take i) n+c*cf (ts.take j) n)+c*(if t.1=n then t.2 else 0):=λn=>by
      rw[hj,uQ,Int.mul_add];show _+(_+c*((if t.1=n then t.2 else 0)+0))=_;rw[JL,Int.add_assoc]
     have:=zZ (ks:=ks) (x:=t.1) (f:=λn=>D.int (cfs (l.take i) n+c*cf (ts.take j) n)) (g:=λn=>D.int (cfs (l.take i) n+c*cf (ts.take (j+1)) n)) (λn hn=>by rw[e,Ha (λz=>hn z.symm),Int.mul_zero,JL])
     rw[<- this,e,Hc rfl]
    ·rcases pC.mp hn with h | h
     ·exact hs n h
     ·rw[h];exact ok.sub t ab
    ·rw[pC,not_or] at hn;rw[hj,uQ,Int.mul_add,<- Int.add_assoc,h0 n hn.1];show 0+c*((if t.1=n then t.2 else 0)+0)=0;rw[Ha (λz=>hn.2 z.symm)];omega
   ·rintro δ ⟨ks,w,z,y,rfl,nd,hs,h0⟩;have e1:ts.take (ts.map GK).length=ts:=by rw[GN,Ht]
    rw[e1] at h0 ⊢;rw[hK2];walk_at "";have e2:∀n,cfs (l.take (i+1)) n=cfs (l.take i) n+c*cf ts n:=λn=>by
     rw[aa,tq];show _+(c*cf ts n+0)=_;rw[JL]
    simp only[e2];rw[aa,uf];exact⟨mo2 bc ok.bb,by rw[<- aa];exact al,trivial,(by show _=_+(c*b+0);rw[JL]),nd,hs,λn hn=>h0 n hn⟩
 ·rintro δ ⟨ks,u,v,w,z,y,rfl,nd,hs,h0⟩;rw[GN,Ht] at h0 ⊢;rw[hN];show K5 _;rw[h5];walk_at "";have hk:=jp nd hs;refine⟨by omega,λss' pm st=>?_⟩;have aj:=pm.length_eq;refine⟨by rw[GN];omega,λd=>match d with | .str n=>if cfs l n≠0 then some (.tup [.str n,.int (cfs l n)]) else none | _=>none,λx hx=>?_,?_⟩
  ·obtain⟨n,hn,rfl⟩:=GR.mp hx;have ah:n∈ks:=pm.mem_iff.mp hn;walk_at "";refine⟨_,cY (λn=>D.int (cfs l n)) ah,?_⟩;walk_at "";refine dI (λhz=>?_) λhz=>?_
   ·exact⟨_,cY (λn=>D.int (cfs l n)) ah,by rw[Hc hz]⟩
   ·rw[Ha hz]
  ·have e:(ss'.map D.str).filterMap (λd=>match d with | .str n=>if cfs l n≠0 then some (D.tup [.str n,.int (cfs l n)]) else none | _=>none)=((ss'.filter λn=>decide (cfs l n≠0)).map λn=>(n,cfs l n)).map GK:=by
    clear aj pm st
    induction ss' with
    | nil=>rfl
    | cons n r ih =>
     rw[Hs,HZ];simp only
     by_cases hz:cfs l n≠0
     ·rw[Hc hz,HE (by simpa using hz)];simp only[List.map_cons];rw[ih];rfl
     ·rw[Ha hz,Hk (by simpa using hz)];exact ih
   rw[e];exact q _ (eM.mk' (yD st) (pm.nodup_iff.mpr nd) λn hn=>pm.mem_iff.mpr (G2 λz=>hn (h0 n z)))
def smD(nm:Zb)(rows:List Rw)(w:Ze):D:=.tup [GF (Gx nm rows w),.tup (w.map D.int)]
inductive iC(ds:Zi)(R:D->Prop):Prop
 | mk (n:Str) (r:Rw) (hh:ds=[.str n,GF r]/\(r.2.1.map (·.1)).Nodup/\R (.int (cf r.2.1 n)))
theorem iN:∀ds R,iC ds R->ds.length=2:=λ_ _ ⟨_,_,e,_⟩=>by rw[e];rfl
theorem dy:ay ["name","row","found","weight"] ["name","row"] (am s_weight_of):=by walk_at "sc"
theorem aZ(Z:Zz):Z.C 1 "weight_of" ["name","row"] (Gy Z.K iC):=by
 refine cU Z.x20 dy iN λfa cdv A outer s H E ds R hr h=>?_;have hU:=hr.units;refine⟨_,(ae (k7 Hj rfl (Gn 1) (bV (n:=2) rfl (aE (ar 2 dy.nd) (aE (ar 3 dy.nd) a5))) (ag (aK (aC (dH hU) (ap 2) (ap 0) (aB _)) (ag (ax (ap 3))) aA))) (ag (ax av))),?_⟩;obtain⟨n,⟨k,ts,b⟩,rfl,nd,q⟩:=h;unfold GF lr;walk_at "";simp only[t9];walk_at "";refine⟨λi δ=>∃x y,δ=[.dat (.str n),.dat (.tup [.str (kdS k),.tup (ts.map GK),.int b]),x,y]/\n∉(ts.take i).map (·.1),⟨_,_,rfl,by simp⟩,?_,?_⟩
 ·rintro i d δ hd ⟨x,y,rfl,hn⟩;obtain⟨t,ht,rfl⟩:=fe hd;walk_at "";refine dI (λe=>?_) (λe=>?_)
  ·subst e;have:=mo nd (G9 ht);simp only at q this;rw[this] at q;exact q
  ·rw[aI ht,Hg,Hb,not_or];exact⟨hn,λz=>e (GX.mp z).symm⟩
 ·rintro δ ⟨x,y,rfl,hn⟩;rw[GN,Ht] at hn;have:=jb hn;simp only at q;rw[this] at q;exact q
theorem BW{α:Type}{f:α->D}{l:List α}{i:Nat}{d:D}(h:(enD (l.map f))[i]?=some d):∃r,l[i]?=some r/\d=.tup [.int (i:Nat),f r]:=by
 unfold enD at h;rw[List.getElem?_mapIdx,G6] at h
 cases e:l[i]? with
 | none=>rw[e] at h;cases h
 | some r=>rw[e] at h;exact⟨r,rfl,(G4 h).symm⟩
theorem Du{xs:Zi}:(enD xs).length=xs.length:=by unfold enD;rw[List.length_mapIdx]
inductive tJ(ds:Zi)(R:D->Prop):Prop
 | mk (rows:List Rw) (nm:Zb) (hh:ds=[.lst (rows.map GF)]/\Rws nm rows/\rows.length<=60/\R (.lst ((vn rows.length).map (smD nm rows))))
theorem oO:∀ds R,tJ ds R->ds.length=1:=λ_ _ ⟨_,_,e,_⟩=>by rw[e];rfl
theorem gM:ay ["rows","told","place","row"] ["rows"] (am s_alone):=by walk_at "sc"
theorem ue(Z:Zz):Z.C 1 "alone" ["rows"] (Gy Z.K tJ):=by
 refine cU Z.x21 gM oO λfa cdv A outer s H E ds R hr h=>?_;have hU:=hr.units;refine⟨_,(ae (cJ 1 gM.nd af) (ae (jE Hj rfl (zA true rfl Z.x55 (ac (ap 0) af)) (bV (n:=2) rfl (aE (ar 2 gM.nd) (aE (ar 3 gM.nd) a5))) (ag (a8 1 (aN (ac (ap 3) (ac (dG jf rfl Z.x51 eK (ac (bR ["other"] [(2,"place")] rfl rfl (by decide +kernel) rfl (by decide +kernel) (bE ⟨rfl,trivial⟩) (λ_=>bO rfl) (aU ⟨⟨rfl,rfl,.inl rfl⟩,trivial⟩) (xc rfl Z.x56 (ac (bg oU rfl Z.x53 mx (ac (ap 0) af)) af)) λ_ _ _ _ _=>⟨(ar 0 (show List.Nodup (["other","place"]:Zb) by decide +kernel)),c7,(og (aC (dH hU) (ap 0) (ap 1) (aB _)) av av)⟩) af)) af)))))) (ag (jY 1)))),?_⟩;obtain⟨rows,nm,rfl,H,hl,q⟩:=h;walk_at "";intro ta;refine fZ λB N hB hN=>?_;walk_at "";simp only[nQ];walk_at "";refine⟨λi δ=>∃x y,δ=[.dat (.lst (rows.map GF)),.own ta (.lst (((vn rows.length).take i).map (smD nm rows))),x,y],⟨_,_,rfl⟩,?_,?_⟩
 ·rintro i d δ hd ⟨x,y,rfl⟩;obtain⟨r,hr,rfl⟩:=BW hd;rw[hB];walk_at "";have aa:i<rows.length:=(GZ.mp hr).1;rw[GN];refine⟨by omega,by omega,by simp;omega,λd=>match d with | .int o=>some (.int (if o=(i:Int) then 1 else 0)) | _=>none,λx hx=>?_,?_⟩
  ·obtain⟨o,ho,rfl⟩:=GR.mp hx;walk_at "";refine dI (λe=>?_) (λe=>?_)
   ·rw[Hc e]
   ·rw[Ha e]
  ·have e1:((List.range (rows.length:Int).toNat).map λ(k:Nat)=>D.int (k:Int)).filterMap (λd=>match d with | .int o=>some (D.int (if o=(i:Int) then 1 else 0)) | _=>none)=(unW rows.length i).map D.int:=by
    unfold unW;rw[HK,Jv];rw[aL _ (λ(k:Nat)=>D.int (k:Int)) (λk=>D.int (if k=i then 1 else 0)) _ λk _=>?_]
    ·rfl
    ·show some (D.int (if (k:Int)=(i:Int) then 1 else 0))=_
     by_cases e:k=i
     ·rw[Hc e,Hc (by omega)]
     ·rw[Ha e,Ha (by omega)]
   have hu:(vn rows.length)[i]?=some (unW rows.length i):=by unfold vn;rw[G6,JI aa];rfl
   rw[e1,aI hu,Hg];refine⟨by rw[GN,HP];omega,?_⟩;show _++[D.tup [GF r,_]]=_++[smD nm rows (unW rows.length i)];unfold smD;rw[wV H hr]
 ·rintro δ ⟨x,y,rfl⟩;rw[Du,GN,hN];walk_at "";have e:(vn rows.length).take rows.length=vn rows.length:=JZ (by unfold vn;simp);rw[e];exact q
theorem o7{ws:Ze}{i:Nat}{d:D}(h:(ws.map D.int)[i]?=some d):∃a,ws[i]?=some a/\d=.int a:=by
 rw[G6] at h
 cases e:ws[i]? with
 | none=>rw[e] at h;cases h
 | some n=>rw[e] at h;exact⟨n,rfl,(G4 h).symm⟩
theorem AO{ws:Ze}{n:Nat}(hz:∃w∈ws,w≠0)(hb:∀w∈ws,ib w<=n):ib (gW ws)<=n:=by
 obtain⟨w,hw,hn⟩:=hz;exact kW (lY hw) hn (hb w hw)
inductive ig(ds:Zi)(R:D->Prop):Prop
 | mk (ws:Ze) (hh:ds=[.lst (ws.map D.int)]/\ws.length<=60/\(∃w∈ws,w≠0)/\(∀w∈ws,ib w<=8000)/\R (.tup ((shW ws).map D.int)))
theorem ix:∀ds R,ig ds R->ds.length=1:=λ_ _ ⟨_,e,_⟩=>by rw[e];rfl
theorem cH:ay ["weights","divisor","weight"] ["weights"] (am s_shortened):=by walk_at "sc"
theorem lc(Z:Zz):Z.C 2 "shortened" ["weights"] (Gy Z.K ig):=by
 refine cU Z.x22 cH ix λfa cdv A outer s H E ds R hr h=>?_;have hU:=hr.units;refine⟨_,(ae (aD 1 cH.nd av) (ae (aY Hj rfl (ap 0) (ar 2 cH.nd) (ag (aD 1 cH.nd (au (cG Z) (rm hr) rfl (ac (ap 1) (ac (ap 2) af)))))) (ag (ax (dG jf rfl Z.x51 eK (ac (bR ["weight"] [(1,"divisor")] rfl rfl (by decide +kernel) rfl (by decide +kernel) (bE ⟨rfl,trivial⟩) (λ_=>bO rfl) (aU ⟨⟨rfl,rfl,.inl rfl⟩,trivial⟩) (cR (ap 0)) λ_ _ _ _ _=>⟨(ar 0 (show List.Nodup (["weight","divisor"]:Zb) by decide +kernel)),c7,(aJ bU (ap 0) (ap 1))⟩) af)))))),?_⟩;obtain⟨ws,rfl,hl,hz,hb,q⟩:=h;walk_at "";simp only[sj];walk_at "";refine⟨λi δ=>∃x,δ=[.dat (.lst (ws.map D.int)),.dat (.int ((ws.take i).foldl gc 0)),x],⟨_,rfl⟩,?_,?_⟩
 ·rintro i d δ hd ⟨x,rfl⟩;obtain⟨a,ha,rfl⟩:=o7 hd;walk_at "";refine⟨_,_,rfl,?_⟩;walk_at "";rw[aI ha,List.foldl_append];rfl
 ·rintro δ ⟨x,rfl⟩;rw[GN,Ht];walk_at "";have g:=qj hz;refine⟨by rw[GN];omega,λd=>match d with | .int a=>some (.int (a.fdiv (gW ws))) | _=>none,λx hx=>?_,?_⟩
  ·obtain⟨a,_,rfl⟩:=GR.mp hx;walk_at "";exact⟨⟨by show gW ws≠0;omega,rA (AO hz hb) (GU _)⟩,rfl⟩
  ·rw[aL _ D.int (λa=>D.int (a.fdiv (gW ws))) _ λk _=>rfl];unfold shW at q;rw[HK] at q;exact q
theorem pY{nm:Zb}{rows:List Rw}{w:Ze}:smD nm rows w=.tup [GF (Gx nm rows w),.tup (w.map D.int)]:=rfl
theorem jc{nm:Zb}{rows:List Rw}(H:Rws nm rows)(w:Ze):((Gx nm rows w).2.1.map (·.1)).Nodup:=(H.smT w).nd
theorem wj{l h:Ze}:sw (l.map D.int) (h.map D.int)=(l.zip h).map λp=>D.tup [.int p.1,.int p.2]:=by
 unfold sw;rw[List.zipWith_map,List.zip,Kb]
inductive mi(ds:Zi)(R:D->Prop):Prop
 | mk (nm:Zb) (rows:List Rw) (n:Str) (l h:Ze) (hh:ds=[smD nm rows l,smD nm rows h,.str n]/\Rws nm rows/\rows.length<=60/\Wt rows.length l/\Wt rows.length h/\0<cfs (rows.zip l) n/\cfs (rows.zip h) n<0 /\
 ib (cfs (rows.zip l) n)<=8000/\ib (cfs (rows.zip h) n)<=8000/\(∀a∈l,ib a<=8000)/\(∀a∈h,ib a<=8000)/\(∀a∈crS rows n l h,ib a<=8000)/\R (.tup ((crW rows n l h).map D.int)))
theorem ku:∀ds R,mi ds R->ds.length=3:=λ_ _ ⟨_,_,_,_,_,e,_⟩=>by rw[e];rfl
theorem fP:ay ["low","high","name","low_times","high_times"] ["low","high","name"] (am s_crossed):=by walk_at "sc"
theorem oy(Z:Zz):Z.C 3 "crossed" ["low","high","name"] (Gy Z.K mi):=by
 refine cU Z.x23 fP ku λfa cdv A outer s H E ds R hr h=>?_;have hU:=hr.units;refine⟨_,(ae (aD 3 fP.nd (vE vY (au (aZ Z) (rm hr) rfl (ac (ap 2) (ac (Gn 1) af))))) (ae (aD 4 fP.nd (au (aZ Z) (rm hr) rfl (ac (ap 2) (ac (Gn 0) af)))) (ag (ax (au (lc Z) (rm hr) rfl (ac (bR ["one","other"] [(3,"low_times"),(4,"high_times")] rfl rfl (by decide +kernel) rfl (by decide +kernel) (bE ⟨rfl,rfl,trivial⟩) (λ_=>bO rfl) (aU ⟨⟨rfl,rfl,.inl rfl⟩,⟨rfl,rfl,.inl rfl⟩,trivial⟩) (pZ false false rfl Z.x54 (ac (Gn 0) (ac (Gn 1) af))) λ_ _ _ _ _=>⟨(bV (n:=2) rfl (aE (ar 0 (show List.Nodup (["one","other","low_times","high_times"]:Zb) by decide +kernel)) (aE (ar 1 (show List.Nodup (["one","other","low_times","high_times"]:Zb) by decide +kernel)) a5))),c7,(aJ bC (aJ cZ (ap 0) (ap 2)) (aJ cZ (ap 1) (ap 3)))⟩) af)))))),?_⟩;obtain⟨nm,rows,n,l,h,rfl,H,hm,wl,wh,cl,ch,b1,b2,b3,b4,b5,q⟩:=h;simp only[pY];walk_at "";refine⟨n,Gx nm rows h,rfl,jc H h,?_⟩;walk_at "";refine⟨n,Gx nm rows l,rfl,jc H l,?_⟩;walk_at "";rw[dU H,dU H,wj];have ll:=wl.len;have lh:=wh.len;refine⟨by rw[GN,IL];omega,λd=>match d with | .tup [.int a,.int b]=>some (.int (a * -(cfs (rows.zip h) n)+b*cfs (rows.zip l) n)) | _=>none,λx hx=>?_,?_⟩
 ·obtain⟨⟨a,b⟩,hp,rfl⟩:=GR.mp hx;walk_at "";exact⟨mo2 (b3 a (HS hp).1) (JC b2),mo2 (b4 b (HS hp).2) b1⟩
 ·obtain⟨_,nz⟩:=jS wl wh cl ch;refine⟨crS rows n l h,?_,by rw[oC ll lh];omega,nz,b5,q⟩;rw[aL _ (λp:Int×Int=>D.tup [.int p.1,.int p.2]) (λp=>D.int (p.1 * -(cfs (rows.zip h) n)+p.2*cfs (rows.zip l) n)) _ λk _=>rfl];unfold crS;rw[Kb,show l.zip h=List.zipWith Prod.mk l h from rfl,Kb]
def t7:D->Ze
 | .tup [_,.tup xs]=>xs.map λx=>match x with | .int a=>a | _=>0
 | _=>[]
theorem pU{nm:Zb}{rows:List Rw}{w:Ze}:t7 (smD nm rows w)=w:=by
 show (w.map D.int).map _=w
 rw[HK];exact Km _
theorem dA{nm:Zb}{rows:List Rw}(p:List Int->Bool):∀W:List (List Int),(W.map (smD nm rows)).filterMap (λd=>if p (t7 d)=true then some d else none)=(W.filter p).map (smD nm rows)
 | []=>rfl
 | w::W=>by
  rw[Hs,HZ,pU]
  by_cases h:p w=true
  ·rw[Hc h,HE h,dA p W];rfl
  ·rw[Ha h,Hk h,dA p W]
theorem pE{nm:Zb}{rows:List Rw}{W:List (List Int)}{i:Nat}{d:D}(h:(W.map (smD nm rows))[i]?=some d):∃w,W[i]?=some w/\d=smD nm rows w:=by
 rw[G6] at h
 cases e:W[i]? with
 | none=>rw[e] at h;cases h
 | some n=>rw[e] at h;exact⟨n,rfl,(G4 h).symm⟩
theorem Aq(u:Ze):((u.map D.int).filterMap (λd=>match d with | .int a=>if 0<a then some (D.int a) else none | _=>none)).length=usd u:=by
 unfold usd
 induction u with
 | nil=>rfl
 | cons a u ih =>
  rw[Hs,HZ];simp only
  by_cases h:0<a
  ·rw[Hc h,HE (by simpa using h),G0,G0,ih]
  ·rw[Ha h,Hk (by simpa using h),ih]
structure yE(nm:Zb)(rows:List Rw)(B k:Nat)(W:List (List Int)):Prop where
 H:Rws nm rows
 hB:RwB B rows
 m6:rows.length<=60
 n6:nm.length<=60
 wt:∀w∈W,Wt rows.length w
 bits:∀w∈W,∀a∈w,ib a<=wb B rows.length k
 fit:cb B rows.length k<=8000/\wb B rows.length (k+1)<=8000
theorem yE.w8{nm:Zb}{rows:List Rw}{B k:Nat}{W:List (List Int)}(S:yE nm rows B k W){w:List Int}(hw:w∈W):∀a∈w,ib a<=8000:=λa ha=>by
 have:=S.bits w hw a ha
 have:=S.fit.1
 unfold cb at this;omega
theorem yE.c8{nm:Zb}{rows:List Rw}{B k:Nat}{W:List (List Int)}(S:yE nm rows B k W){w:List Int}(hw:w∈W)(n:Str):ib (cfs (rows.zip w) n)<=8000:=GS (S.H.cfb S.hB (S.bits w hw) n) S.fit.1
theorem yE.rw{nm:Zb}{rows:List Rw}{B k:Nat}{W:List (List Int)}(S:yE nm rows B k W):∀r∈rows,RwOk nm 60000000 r:=λr hr=>by
 have h8:B<=8000:=by have:=S.fit.1;unfold cb at this;omega
 exact⟨S.H.sub r hr,λt ht=>GS (S.hB.tm r hr t ht) (by omega),GS (S.hB.bd r hr) (by omega)⟩
inductive ms(ds:Zi)(R:D->Prop):Prop
 | mk (nm:Zb) (rows:List Rw) (n:Str) (W:List (List Int)) (most B k c:Nat) (hh:ds=[.lst (rows.map GF),.lst (W.map (smD nm rows)),.str n,.int (most:Nat)]/\yE nm rows B k W/\W.length<=c/\4<=c/\c*c / 4<9000/\R (.lst ((woW rows n most W).map (smD nm rows))))
theorem kg:∀ds R,ms ds R->ds.length=4:=λ_ _ ⟨_,_,_,_,_,_,_,_,e,_⟩=>by rw[e];rfl
theorem b7:ay ["rows","sums","name","most","told","lows","highs","low","high","weights"] ["rows","sums","name","most"] (am s_without):=by walk_at "sc"
theorem oJ(Z:Zz):Z.C 4 "without" ["rows","sums","name","most"] (Gy Z.K ms):=by
 refine cU Z.x24 b7 kg λfa cdv A outer s H E ds R hr h=>?_;have hU:=hr.units;refine⟨_,(ae (wP 4 b7.nd ["held"] [(2,"name")] rfl rfl (by decide +kernel) rfl (by decide +kernel) (bE ⟨rfl,trivial⟩) (λ_=>bO rfl) (aU ⟨⟨rfl,rfl,.inl rfl⟩,trivial⟩) (cR (ap 1)) λ_ _ _ _ _=>⟨(ar 0 (show List.Nodup (["held","name"]:Zb) by decide +kernel)),(f9 (aC (dH hU) (au (aZ Z) (rm hr) rfl (ac (ap 1) (ac (Gn 0) af))) av (aB _))),(ap 0)⟩) (ae (fj 5 b7.nd ["held"] [(2,"name")] rfl rfl (by decide +kernel) rfl (by decide +kernel) (bE ⟨rfl,trivial⟩) (λ_=>bO rfl) (aU ⟨⟨rfl,rfl,.inl rfl⟩,trivial⟩) (cR (ap 1)) λ_ _ _ _ _=>⟨(ar 0 (show List.Nodup (["held","name"]:Zb) by decide +kernel)),(f9 (aC vQ (au (aZ Z) (rm hr) rfl (ac (ap 1) (ac (Gn 0) af))) av (aB _))),(ap 0)⟩) (ae (fj 6 b7.nd ["held"] [(2,"name")] rfl rfl (by decide +kernel) rfl (by decide +kernel) (bE ⟨rfl,trivial⟩) (λ_=>bO rfl) (aU ⟨⟨rfl,rfl,.inl rfl⟩,trivial⟩) (cR (ap 1)) λ_ _ _ _ _=>⟨(ar 0 (show List.Nodup (["held","name"]:Zb) by decide +kernel)),(f9 (aC o_lt (au (aZ Z) (rm hr) rfl (ac (ap 1) (ac (Gn 0) af))) av (aB _))),(ap 0)⟩) (ae (aY Hj rfl (ap 5) (ar 7 b7.nd) (ag (aY Hj rfl (ap 6) (ar 8 b7.nd) (ae (aD 9 b7.nd (au (oy Z) (rm hr) rfl (ac (ap 7) (ac (ap 8) (ac (ap 2) af))))) (ag (aK (aC o_le (bg oU rfl Z.x53 mx (ac (bR ["often"] [] rfl rfl (by decide +kernel) rfl (by decide +kernel) (bE trivial) (λ_=>bO rfl) (aU trivial) (mB (ap 9)) λ_ _ _ _ _=>⟨(ar 0 (show List.Nodup (["often"]:Zb) by decide +kernel)),(f9 (aC vQ (ap 0) av (aB _))),(ap 0)⟩) af)) (ap 3) (aB _)) (ag (a8 4 (aN (ac (au (lw Z) (rm hr) rfl (ac (ap 0) (ac (ap 9) af))) (ac (ap 9) af))))) aA)))))) (ag (jY 4)))))),?_⟩
 obtain⟨nm,rows,n,W,most,B,k,c,rfl,S,hc,h4,an,q⟩:=h;have c9:c<9000:=by
  have:c<=c*c / 4:=(J9 (by decide)).mpr (Nat.mul_le_mul_left c h4)
  omega
 have ah:=dA (nm:=nm) (rows:=rows) (λw=>decide (cfs (rows.zip w) n=0)) W
 have ab:=dA (nm:=nm) (rows:=rows) (λw=>decide (0<cfs (rows.zip w) n)) W
 have aa:=dA (nm:=nm) (rows:=rows) (λw=>decide (cfs (rows.zip w) n<0)) W
 refine ak λK1 hK1=>?_;walk_at "";refine⟨by rw[GN];omega,λd=>if decide (cfs (rows.zip (t7 d)) n=0)=true then some d else none,λx hx=>?_,?_⟩
 ·obtain⟨w,hw,rfl⟩:=GR.mp hx;simp only[pU];simp only[pY];walk_at "";refine⟨n,Gx nm rows w,rfl,jc S.H w,?_⟩;rw[dU S.H];walk_at "";refine dI (λe=>?_) λe=>?_
  ·rw[Hc e]
  ·rw[Ha e]
 ·rw[ah];intro ta;rw[hK1];refine ak λK2 hK2=>?_;walk_at "";refine⟨by rw[GN];omega,λd=>if decide (0<cfs (rows.zip (t7 d)) n)=true then some d else none,λx hx=>?_,?_⟩
  ·obtain⟨w,hw,rfl⟩:=GR.mp hx;simp only[pU];simp only[pY];walk_at "";refine⟨n,Gx nm rows w,rfl,jc S.H w,?_⟩;rw[dU S.H];walk_at "";refine dI (λe=>?_) λe=>?_
   ·rw[Hc e]
   ·rw[Ha e]
  ·rw[ab,hK2];refine ak λK3 hK3=>?_;walk_at "";refine⟨by rw[GN];omega,λd=>if decide (cfs (rows.zip (t7 d)) n<0)=true then some d else none,λx hx=>?_,?_⟩
   ·obtain⟨w,hw,rfl⟩:=GR.mp hx;simp only[pU];simp only[pY];walk_at "";refine⟨n,Gx nm rows w,rfl,jc S.H w,?_⟩;rw[dU S.H];walk_at "";refine dI (λe=>?_) λe=>?_
    ·rw[Hc e]
    ·rw[Ha e]
   ·rw[aa,hK3];clear ah ab aa;have c3:=cnt3 (rows:=rows) (n:=n) W;unfold woW at q;have hL:∀l∈W.filter (λw=>decide (0<cfs (rows.zip w) n)),l∈W/\0<cfs (rows.zip l) n:=λl hl=>⟨(G1.mp hl).1,by simpa using (G1.mp hl).2⟩;have hR:∀l∈W.filter (λw=>decide (cfs (rows.zip w) n<0)),l∈W/\cfs (rows.zip l) n<0:=λl hl=>⟨(G1.mp hl).1,by simpa using (G1.mp hl).2⟩;generalize W.filter (λw=>decide (cfs (rows.zip w) n=0))=Z at *;generalize W.filter (λw=>decide (0<cfs (rows.zip w) n))=Ls at *;generalize W.filter (λw=>decide (cfs (rows.zip w) n<0))=Rs at *;have zb:Z.length+Ls.length*Rs.length<9000:=Jl (zab (by omega) h4) an;refine ak λK4 hK4=>?_;refine bh λF N hF hN=>?_;walk_at "";simp only[cO];walk_at "";refine⟨λi δ=>∃x y z,δ=[.dat (.lst (rows.map GF)),.dat (.lst (W.map (smD nm rows))),.dat (.str n),.dat (.int (most:Nat)),.own ta (.lst ((Z++(Ls.take i).flatMap λl=>(Rs.map (crW rows n l)).filter λu=>decide (usd u<=most)).map (smD nm rows))),.dat (.lst (Ls.map (smD nm rows))),.dat (.lst (Rs.map (smD nm rows))),x,y,z],⟨_,_,_,by rw[J3,List.flatMap_nil,HM]⟩,?_,?_⟩
    ·rintro i d δ hd ⟨x,y,z,rfl⟩;obtain⟨l,hl,rfl⟩:=pE hd;obtain⟨lW,cl⟩:=hL l (G9 hl);have al:i<Ls.length:=(GZ.mp hl).1;rw[hF];walk_at "";refine bh λF2 N2 hF2 hN2=>?_;walk_at "";simp only[cO];walk_at "";refine⟨λj δ=>∃y z,δ=[.dat (.lst (rows.map GF)),.dat (.lst (W.map (smD nm rows))),.dat (.str n),.dat (.int (most:Nat)),.own ta (.lst ((Z++(Ls.take i).flatMap (λl=>(Rs.map (crW rows n l)).filter λu=>decide (usd u<=most))++((Rs.take j).map (crW rows n l)).filter λu=>decide (usd u<=most)).map (smD nm rows))),.dat (.lst (Ls.map (smD nm rows))),.dat (.lst (Rs.map (smD nm rows))),.dat (smD nm rows l),y,z],⟨_,_,by rw[J3,Jo,List.filter_nil,HM]⟩,?_,?_⟩
     ·rintro j d δ hd ⟨y,z,rfl⟩;obtain⟨h,hh,rfl⟩:=pE hd;obtain⟨hW,ch⟩:=hR h (G9 hh);have ao:j<Rs.length:=(GZ.mp hh).1;rw[hF2];show cB _ _ _ _;refine bX λK5 hK5=>?_;walk_at "";refine⟨nm,rows,n,l,h,rfl,S.H,S.m6,S.wt l lW,S.wt h hW,cl,ch,S.c8 lW n,S.c8 hW n,S.w8 lW,S.w8 hW,λa ha=>GS (kf S.H S.hB (S.bits l lW) (S.bits h hW) a ha) S.fit.2,?_⟩;walk_at "";rw[hK5];have ww:=tE (S.wt l lW) (S.wt h hW) cl ch;have ai:∀a∈crW rows n l h,ib a<=60000000:=λa ha=>by
       obtain⟨b,aj,rfl⟩:=GR.mp ha;exact Ic (GS (kf S.H S.hB (S.bits l lW) (S.bits h hW) b aj) (GS S.fit.2 (by decide)))
      have tk:(((Rs.take (j+1)).map (crW rows n l)).filter λu=>decide (usd u<=most))=(((Rs.take j).map (crW rows n l)).filter λu=>decide (usd u<=most))++if usd (crW rows n l h)<=most then [crW rows n l h] else []:=by
       rw[aI hh,Hg,IU]
       congr 1
       by_cases e:usd (crW rows n l h)<=most
       ·rw[Hc e];simp[e]
       ·rw[Ha e];simp[e]
      simp only[tk];generalize crW rows n l h=u at *;walk_at "";refine⟨by rw[GN,ww.len];have:=S.m6;omega,λd=>match d with | .int a=>if 0<a then some (.int a) else none | _=>none,λx hx=>?_,?_⟩
      ·obtain⟨a,_,rfl⟩:=GR.mp hx;walk_at "";refine dI (λe=>?_) λe=>?_
       ·rw[Hc e]
       ·rw[Ha e]
      ·rw[Aq];refine dI (λe=>?_) λe=>?_
       ·have e:usd u<=most:=by omega
        rw[Hc e];refine⟨rows,u,nm,rfl,S.n6,S.rw,ai,λts hts=>?_⟩;have:=hts.uniq (S.H.smT u);subst this;walk_at "";refine⟨?_,?_⟩
        ·rw[GN,GV,GV];have f1:=kd (rows:=rows) (n:=n) (most:=most) Rs (Ls.take i);have f2:=HW (λu=>decide (usd u<=most)) ((Rs.take j).map (crW rows n l));rw[GN,HP] at f2;rw[HP,show min i Ls.length=i by omega] at f1;have f3:=Nat.mul_le_mul_right Rs.length (show i+1<=Ls.length from al);rw[Nat.succ_mul] at f3;omega
        ·rw[<- Jw,Hg (l₂:=[u])];rfl
       ·have e:¬ usd u<=most:=by omega
        rw[Ha e,HM]
     ·rintro δ ⟨y,z,rfl⟩;rw[GN,Ht,hN2];walk_at "";rw[aI hl,List.flatMap_append,<- Jw];simp only[List.flatMap_cons,List.flatMap_nil,List.append_nil]
      try exact⟨_,_,_,rfl⟩
    ·rintro δ ⟨x,y,z,rfl⟩;rw[GN,Ht,hN,hK4];walk_at "";exact q
def rD(rows:List Rw):Zb->List (List (List Int))
 | []=>[Gr rows []]
 | n::ns=>Gr rows (n::ns)::rD rows ns
def jw(nm:Zb)(rows:List Rw)(W:List (List Int)):D:=.lst (W.map (smD nm rows))
theorem gI{rows:List Rw}:∀ns:Zb,(rD rows ns).length=ns.length+1
 | []=>rfl
 | n::ns=>by show (rD rows ns).length+1=_;rw[gI ns];rfl
theorem qH{rows:List Rw}:∀(ns:Zb) (j:Nat),j<=ns.length->(rD rows ns)[j]?=some (Gr rows (ns.drop j))
 | [],0,_=>rfl
 | n::ns,0,_=>rfl
 | n::ns,j+1,h=>qH ns j (by simpa using h)
theorem Bx{B B' m m':Nat}(h1:B<=B')(h2:m<=m'):∀k,wb B m k<=wb B' m' k
 | 0=>GU 1
 | k+1=>by have:=Bx h1 h2 k;show 2*wb B m k+B+m+1<=2*wb B' m' k+B'+m'+1;omega
theorem Ed{B m a:Nat}:∀ {b:Nat},a<=b->wb B m a<=wb B m b
 | 0,h=>by rw[Nat.le_zero.mp h];exact GU _
 | b+1,h=>by
  by_cases e:a=b+1
  ·rw[e];exact GU _
  ·exact GS (Ed (b:=b) (by omega)) uP
structure Fit(nm:Zb)(rows:List Rw):Prop where
 H:Rws nm rows
 hB:RwB 4 rows
 m6:rows.length<=6
 n6:nm.length<=60
theorem Fit.bits{nm:Zb}{rows:List Rw}(F:Fit nm rows){ns:Zb}(h:ns.length<=3){w:Ze}(hw:w∈Gr rows ns):∀a∈w,ib a<=wb 4 rows.length 3:=λa ha=>GS (gP F.H F.hB hw a ha) (Ed h)
theorem Fit.c3{nm:Zb}{rows:List Rw}(F:Fit nm rows):cb 4 rows.length 3<=95:=by
 have h1:=Bx (GU 4) F.m6 3
 have h2:wb 4 6 3=85:=rfl
 have:=F.m6
 unfold cb;omega
theorem Fit.sums{nm:Zb}{rows:List Rw}(F:Fit nm rows){ns:Zb}(h:ns.length<=3):yE nm rows 4 3 (Gr rows ns):=by
 have h1:=Bx (GU 4) F.m6 4
 have h2:wb 4 6 4=181:=rfl
 have h3:=F.c3
 have:=F.m6
 exact⟨F.H,F.hB,by omega,F.n6,λw hw=>(cA hw).1,λw hw=>F.bits h hw,by omega,by show wb 4 rows.length 4<=8000;omega⟩
inductive iH(ds:Zi)(R:D->Prop):Prop
 | mk (nm:Zb) (rows:List Rw) (ns:Zb) (hh:ds=[.lst (rows.map GF),.lst (ns.map D.str)]/\Fit nm rows/\ns.length<=3/\R (.lst ((rD rows ns).map (jw nm rows))))
theorem iX:∀ds R,iH ds R->ds.length=2:=λ_ _ ⟨_,_,_,e,_⟩=>by rw[e];rfl
theorem cnt6:∀ {k:Nat},k<=3->cnt 6 k*cnt 6 k / 4<9000
 | 0,_=>by decide
 | 1,_=>by decide
 | 2,_=>by decide
 | 3,_=>by decide
 | k+4,h=>by omega
theorem Ae{ns:Zb}{i:Nat}{d:D}(h:(ns.map D.str).reverse[i]?=some d):∃n,d=.str n/\i<ns.length/\ns.drop (ns.length-(i+1))=n::ns.drop (ns.length-i):=by
 have hi:i<ns.length:=by
  have:=(GZ.mp h).1
  simpa using this
 rw[List.getElem?_reverse (by simpa using hi),GN,G6] at h;have e:ns.length-(i+1)<ns.length:=by omega
 have e1:ns.length-1-i=ns.length-(i+1):=by omega
 rw[e1,Hl e] at h;refine⟨ns[ns.length-(i+1)],(G4 h).symm,hi,?_⟩;rw[JD e]
 congr 2
 omega
theorem ce:ay ["rows","names","sums","told","name"] ["rows","names"] (am s_taken_out):=by walk_at "sc"
theorem cu(Z:Zz):Z.C 5 "taken_out" ["rows","names"] (Gy Z.K iH):=by
 refine cU Z.x25 ce iX λfa cdv A outer s H E ds R hr h=>?_;have hU:=hr.units;refine⟨_,(ae (aD 2 ce.nd (au (ue Z) (rm hr) rfl (ac (ap 0) af))) (ae (cJ 3 ce.nd (ac (ap 2) af)) (ae (jE Hj rfl (Db rfl Z.x57 (ac (ap 1) af)) (ar 4 ce.nd) (ae (aD 2 ce.nd (au (oJ Z) (rm hr) rfl (ac (ap 0) (ac (ap 2) (ac (ap 4) (ac (aJ bC (AD 3 rfl Z.x53 mx) av) af)))))) (ag (wv 3 (ap 2))))) (ag (jY 3))))),?_⟩;obtain⟨nm,rows,ns,rfl,F,h4,q⟩:=h;walk_at "";refine⟨rows,nm,rfl,F.H,by have:=F.m6;omega,?_⟩;walk_at "";intro ta;refine fZ λFb N hF hN=>?_;walk_at "";simp only[nQ];walk_at "";refine⟨λi δ=>∃x,δ=[.dat (.lst (rows.map GF)),.dat (.lst (ns.map D.str)),.dat (jw nm rows (Gr rows (ns.drop (ns.length-i)))),.own ta (.lst ((rD rows (ns.drop (ns.length-i))).map (jw nm rows))),x],⟨_,by rw[Nat.sub_zero,List.drop_length];rfl⟩,?_,?_⟩
 ·rintro i d δ hd ⟨x,rfl⟩;obtain⟨n,rfl,hi,aa⟩:=Ae hd;simp only[aa];have hl:(ns.drop (ns.length-i)).length=i:=by rw[Jd];omega
  generalize ns.drop (ns.length-i)=l at *
  rw[hF];show cB _ _ _ _;refine bX λK1 hK1=>?_;walk_at "";obtain⟨c1,c2⟩:=nV (rows:=rows) F.m6 (by decide) l;rw[hl] at c1 c2;refine⟨nm,rows,n,Gr rows l,l.length+2,4,3,cnt 6 i,?_,F.sums (by omega),c1,c2,cnt6 (by omega),?_⟩
  ·rw[GN,gI];show [_,jw nm rows (Gr rows l),_,_]=_;unfold jw
   congr 4
  ·walk_at "";rw[hK1];walk_at "";refine⟨by rw[GN,gI];omega,rfl,rfl⟩
 ·rintro δ ⟨x,rfl⟩;rw[JK,GN,Nat.sub_self,hN];walk_at "";exact q
structure Cz(X Y:Nat)(p:Int×Int):Prop where
 low:Gs p.1 p.2
 t:ib p.1<=X
 b:ib p.2<=Y
inductive fQ(ds:Zi)(R:D->Prop):Prop
 | mk (n:Str) (r:Rw) (ks:Zb) (ps:Za) (κ T:Nat) (hh:ds=[.str n,GF r,.dct ks (ps.map Gq)]/\(r.2.1.map (·.1)).Nodup/\ks.length<=60/\(∀t∈r.2.1,t.1≠n->t.1∈ks)/\cf r.2.1 n≠0/\Pt ks ps T/\T<=900000/\ib (bot (pB ks ps) ks)<=κ/\κ<=3890 /\
 ib (cf r.2.1 n)<=95/\(∀t∈r.2.1,ib t.2<=95)/\ib r.2.2<=95/\∀p,Cz (T+κ+170) (95+κ) p->R (Gq p))
theorem jx:∀ds R,fQ ds R->ds.length=3:=λ_ _ ⟨_,_,_,_,_,_,e,_⟩=>by rw[e];rfl
theorem ia(p:Str×Int->Bool)(g:D->Option D)(h1:∀t,p t=true->g (GK t)=some (GK t))(h2:∀t,p t=false->g (GK t)=none):∀ts:List (Str×Int),(ts.map GK).filterMap g=(ts.filter p).map GK
 | []=>rfl
 | t::ts=>by
  rw[Hs,HZ]
  cases e:p t with
  | true=>rw[h1 t e,HE e,ia p g h1 h2 ts];rfl
  | false=>rw[h2 t e,Hk (by rw[e];decide),ia p g h1 h2 ts]
theorem eF:ay ["name","row","point","others","known"] ["name","row","point"] (am s_bound_on):=by walk_at "sc"
theorem gm(Z:Zz):Z.C 3 "bound_on" ["name","row","point"] (Gy Z.K fQ):=by
 refine cU Z.x26 eF jx λfa cdv A outer s H E ds R hr h=>?_;have hU:=hr.units;refine⟨_,(ae (fj 3 eF.nd ["term"] [(0,"name")] rfl rfl (by decide +kernel) rfl (by decide +kernel) (bE ⟨rfl,trivial⟩) (λ_=>bO rfl) (aU ⟨⟨rfl,rfl,.inl rfl⟩,trivial⟩) (mB (Gn 1)) λ_ _ _ _ _=>⟨(ar 0 (show List.Nodup (["term","name"]:Zb) by decide +kernel)),(f9 (aC (jk hU) (Gn 0) (ap 1) (aB _))),(ap 0)⟩) (ae (aD 4 eF.nd (au (iF Z) (rm hr) rfl (ac (bR ["term"] [] rfl rfl (by decide +kernel) rfl (by decide +kernel) (bE trivial) (λ_=>bO rfl) (aU trivial) (cR (ap 3)) λ_ _ _ _ _=>⟨(ar 0 (show List.Nodup (["term"]:Zb) by decide +kernel)),c7,(Gn 0)⟩) (ac (ap 2) af)))) (ag (ax (au (eW Z) (rm hr) rfl (ac (aJ wS (aJ cZ (Gn 1) (Gn 4)) (au (dW Z) (rm hr) rfl (ac (ap 3) (ac (Gn 4) af)))) (ac (aJ cZ (au (aZ Z) (rm hr) rfl (ac (ap 0) (ac (ap 1) af))) (Gn 4)) af))))))),?_⟩;obtain⟨n,⟨k,ts,b⟩,ks,ps,κ,T,rfl,nd,hk,hp,hc,P,hT,hκ,ai,b1,b2,b3,q⟩:=h;simp only at nd hp hc b1 b2 b3 q;have lt:ts.length<=61:=by
  have h1:(ts.map (·.1)).length<=(n::ks).length:=jp nd λx hx=>by
   obtain⟨t,ht,rfl⟩:=GR.mp hx
   by_cases e:t.1=n
   ·exact GY.mpr (.inl e)
   ·exact GP _ (hp t ht e)
  rw[GN,G0] at h1;omega
 unfold GF lr;refine ak λK1 hK1=>?_;walk_at "";refine⟨by rw[GN];omega,λd=>match d with | .tup [.str x,w]=>if x≠n then some (.tup [.str x,w]) else none | _=>none,λx hx=>?_,?_⟩
 ·obtain⟨t,_,rfl⟩:=GR.mp hx;unfold GK;walk_at "";refine dI (λe=>?_) λe=>?_
  ·simp[e]
  ·simp[e]
 ·rw[ia (λt=>decide (t.1≠n)) _ (λt ht=>by unfold GK;simp only;rw[Hc (by simpa using ht)]) (λt ht=>by unfold GK;simp only;rw[Ha (by simpa using ht)])];have ho:∀t∈ts.filter (λt=>decide (t.1≠n)),t.1∈ks/\ib t.2<=95:=λt ht=>by
   obtain⟨h1,h2⟩:=G1.mp ht;exact⟨hp t h1 (by simpa using h2),b2 t h1⟩
  have ab:((ts.filter (λt=>decide (t.1≠n))).map (·.1)).Nodup:=nd.sublist (List.filter_sublist.map _)
  have aj:=HW (λt:Str×Int=>decide (t.1≠n)) ts
  generalize ts.filter (λt=>decide (t.1≠n))=o at *
  have aa:∀x∈o.map (·.1),x∈ks:=λx hx=>by
   obtain⟨t,ht,rfl⟩:=GR.mp hx;exact(ho t ht).1
  have pos:∀x∈ks,0<pB ks ps x:=λx hx=>P.pos hx
  have bK:=pc ab aa pos hκ
  have pK:=eD (q:=pB ks ps) (l:=o.map (·.1)) λx hx=>pos x (aa x hx)
  rw[hK1];walk_at "";refine⟨by rw[GN];omega,λd=>match d with | .tup (x::_)=>some x | _=>none,λx hx=>?_,?_⟩
  ·obtain⟨t,_,rfl⟩:=GR.mp hx;unfold GK;walk_at ""
  ·refine⟨o.map (·.1),ks,ps,T,κ,?_,ab,?_,aa,P,by omega,hκ,by omega,?_⟩
   ·rw[aL _ GK (λt=>D.str t.1) _ (by intro _ _;rfl),HK];rfl
   ·have:=jp ab aa
    omega
   ·walk_at "";refine⟨mo2 b3 bK (by omega),true,o,_,_,_,rfl,λt ht=>⟨cY (λx=>D.int (ov (pT ks ps) (pB ks ps) (bot (pB ks ps) (o.map (·.1))) x)) (GR.mpr ⟨t,ht,rfl⟩),GS (ho t ht).2 (by omega),GS (HH (P.Tb (ho t ht).1) (Ic bK)) (by omega)⟩,?_⟩;walk_at "";refine⟨n,(k,ts,b),rfl,nd,?_⟩;walk_at "";have ah:=Jt hc (show bot (pB ks ps) (o.map (·.1))≠0 by omega);have hb:=HH b1 bK;refine⟨mo2 b1 bK (by omega),_,_,rfl,ah,GS hb (by omega),?_⟩;have ol:=jp ab aa;rw[GN] at ol;have hs:=intBits_sub_le (HH b3 bK) (jQ (f:=ov (pT ks ps) (pB ks ps) (bot (pB ks ps) (o.map (·.1)))) (ts:=o) (c:=95) (m:=T+κ) λt ht=>⟨(ho t ht).2,HH (P.Tb (ho t ht).1) (Ic bK)⟩);exact q (GJ _ _,Gz _ _) ⟨dX _ ah,GS (Ic hs) (by omega),Ic hb⟩
def oD:Option (Int×Int)->D
 | none=>.non
 | some p=>Gq p
def nk(e:En2):D:=.tup [oD e.1,.bl e.2]
def Ce(X Y:Nat)(o:Option (Int×Int)):Prop:=∀p,o=some p->Cz X Y p
inductive l6(ds:Zi)(R:D->Prop):Prop
 | mk (a b:En2) (lo:Bool) (X Y:Nat) (hh:ds=[nk a,nk b,.bl lo]/\X<=1000000/\Y<=8000/\Ce X Y a.1/\Ce X Y b.1/\∀e:En2,Ce X Y e.1->R (nk e))
theorem ky:∀ds R,l6 ds R->ds.length=3:=λ_ _ ⟨_,_,_,_,_,e,_⟩=>by rw[e];rfl
theorem r8:ay ["one","other","is_low"] ["one","other","is_low"] (am s_tighter):=by walk_at "sc"
theorem g6(Z:Zz):Z.C 2 "tighter" ["one","other","is_low"] (Gy Z.K l6):=by
 refine cU Z.x27 r8 ky λfa cdv A outer s H E ds R hr h=>?_;have hU:=hr.units;refine⟨_,(ae (aK (aC sB (Gn 0) cF (aB _)) (ag (ax (ap 1))) aA) (ae (aK (aC sB (Gn 1) cF (aB _)) (ag (ax (ap 0))) aA) (ae (aK (aC (rj hU) (Gn 0) (Gn 1) (aB _)) (ag (ax (aN (ac (Gn 0) (ac (pA (Gn 0) (iJ (Gn 1))) af))))) aA) (ag (ax (og (aC (rj hU) (au (gV Z) (rm hr) rfl (ac (Gn 1) (ac (Gn 0) af))) (ap 2) (aB _)) (ap 0) (ap 1))))))),?_⟩;obtain⟨⟨a,ab⟩,⟨b,bb⟩,lo,X,Y,rfl,hX,hY,ha,hb,q⟩:=h;refine ak λK1 h1=>?_
 cases a with
 | none =>
  unfold nk oD;walk_at "";exact q (b,bb) hb
 | some p =>
  have qa:∀z:Bool,R (.tup [.tup [.int p.1,.int p.2],.bl z]):=λz=>q (some p,z) ha
  unfold nk;rw[show oD ((some p,ab):En2).1=.tup [.int p.1,.int p.2] from rfl];walk_at "";rw[h1];refine ak λK2 h2=>?_
  cases b with
  | none =>
   unfold oD;walk_at "";exact qa ab
  | some r =>
   have p1:=(ha p rfl).t
   have p2:=(ha p rfl).b
   have r1:=(hb r rfl).t
   have r2:=(hb r rfl).b
   have qb:R (.tup [.tup [.int r.1,.int r.2],.bl bb]):=q (some r,bb) hb
   rw[show oD ((some r,bb):En2).1=.tup [.int r.1,.int r.2] from rfl];walk_at "";rw[h2];refine ak λK3 h3=>?_;walk_at "";refine dI (λe=>?_) λe=>?_
   ·cases ab with
    | true=>exact Gw rfl (qa bb)
    | false=>exact GG GW (qa false)
   ·rw[h3];walk_at "";refine⟨r,p,rfl,by omega,by omega,by omega,by omega,?_⟩;walk_at "";exact dI (λe=>qa ab) λe=>qb
inductive i4(ds:Zi)(R:D->Prop):Prop
 | mk (lo hi:Option (Int×Int)) (x y:Bool) (X Y:Nat) (hh:ds=[.tup [oD lo,.bl x,oD hi,.bl y]]/\X<=900000/\Y<=3990/\Ce X Y lo/\Ce X Y hi/\∀p,Cz (X+Y+4) (2*Y+2) p->R (Gq p))
theorem ji:∀ds R,i4 ds R->ds.length=1:=λ_ _ ⟨_,_,_,_,_,_,e,_⟩=>by rw[e];rfl
theorem cI:ay ["piece","low","high","whole"] ["piece"] (am s_number_in):=by walk_at "sc"
theorem kc(Z:Zz):Z.C 4 "number_in" ["piece"] (Gy Z.K i4):=by
 refine cU Z.x28 cI ji λfa cdv A outer s H E ds R hr h=>?_;have hU:=hr.units;refine⟨_,(ae (aD 1 cI.nd (Gn 0)) (ae (aD 2 cI.nd (Gn 0)) (ae (aK (DW.dt (lL (aC sB (ap 1) cF (aB _)) (iq (aC sB (ap 2) cF (aB _))))) (ag (ax (aN (ac av (ac av af))))) aA) (ae (aK (aC sB (ap 1) cF (aB _)) (ag (ax (au (eW Z) (rm hr) rfl (ac (aJ wS (aJ bU (Gn 2) (Gn 2)) av) (ac av af))))) aA) (ae (aD 3 cI.nd (au (eW Z) (rm hr) rfl (ac (aJ bC (aJ bU (Gn 1) (Gn 1)) av) (ac av af)))) (ae (aK (DW.dt (kL (aC sB (ap 2) cF (aB _)) (f6 (bZ (au (gV Z) (rm hr) rfl (ac (ap 3) (ac (ap 2) af))))))) (ag (ax (ap 3))) aA) (ae (aK (aC (rj hU) (ap 1) (ap 2) (aB _)) (ag (ax (ap 1))) aA) (ag (ax (au (sF Z) (rm hr) rfl (ac (au (v9 Z) (rm hr) rfl (ac (ap 1) (ac (ap 2) af))) (ac (aN (ac av (ac av af))) af)))))))))))),?_⟩;obtain⟨lo,hi,x,y,X,Y,rfl,hX,hY,hl,hh,q⟩:=h;have m1:∀a:Int,ib (Gz a 1)<=1:=λa=>by rw[(yg a).2];decide
 have wh:∀(p:Int×Int) (z:Int),ib p.1<=X->ib z<=1->Cz (X+Y+4) (2*Y+2) (GJ (p.1.fdiv p.2+z) 1,Gz (p.1.fdiv p.2+z) 1):=λp z h hz=>by
  refine⟨dX _ (by decide),?_,GS (m1 _) (by omega)⟩;show ib (GJ (p.1.fdiv p.2+z) 1)<=_;rw[(yg _).1];have:=Jf (Ic (y:=p.2) h) hz;unfold ib;omega
 refine ak λK1 hK1=>?_;walk_at "";rw[hK1];refine ak λK2 hK2=>?_;walk_at "";rw[hK2];refine ak λK3 hK3=>?_
 cases lo with
 | none =>
  cases hi with
  | none =>
   unfold oD;walk_at "";exact q (0,1) ⟨⟨by decide,by unfold gc;decide⟩,by show ib 0<=_;rw[ib0];omega,by show ib 1<=_;have:ib 1=1:=(by decide);omega⟩
  | some h =>
   obtain⟨h0,h1,h2⟩:=hh h rfl;unfold oD Gq;walk_at "";rw[hK3];refine ak λK4 hK4=>?_;walk_at "";exact⟨⟨h0.ne,rA h2 (by omega)⟩,_,_,rfl,by decide,by decide,q _ (wh h (-1) h1 (by decide))⟩
 | some l =>
  obtain⟨l0,l1,l2⟩:=hl l rfl;have w1:=wh l 1 l1 (by decide)
  cases hi with
  | none =>
   unfold oD Gq;walk_at "";rw[hK3];refine ak λK4 hK4=>?_;walk_at "";rw[hK4];refine ak λK5 hK5=>?_;walk_at "";refine⟨⟨l0.ne,rA l2 (by omega)⟩,_,_,rfl,by decide,by decide,?_⟩;walk_at "";rw[hK5];refine ak λK6 hK6=>?_;walk_at "";exact q _ w1
  | some h =>
   obtain⟨h0,h1,h2⟩:=hh h rfl;unfold oD Gq;walk_at "";rw[hK3];refine ak λK4 hK4=>?_;walk_at "";rw[hK4];refine ak λK5 hK5=>?_;walk_at "";refine⟨⟨l0.ne,rA l2 (by omega)⟩,_,_,rfl,by decide,by decide,?_⟩;walk_at "";rw[hK5];refine ak λK6 hK6=>?_;walk_at "";have w2:=w1.t;have w3:=w1.b;refine⟨(GJ (l.1.fdiv l.2+1) 1,Gz (l.1.fdiv l.2+1) 1),h,rfl,by omega,by omega,by omega,by omega,?_⟩;walk_at "";refine dI (λe=>q _ w1) λe=>?_;rw[hK6];refine ak λK7 hK7=>?_;walk_at "";refine dI (λe=>q l ⟨l0,by omega,by omega⟩) λe=>?_;rw[hK7];walk_at "";have nz:=Jt l0.ne h0.ne;refine⟨l,h,rfl,nz,by omega,by omega,by omega,by omega,?_⟩;have sb:=HH l2 h2;have st:=Jf (HH l1 h2) (HH h1 l2);have sl:=dX (l.1*h.2+h.1*l.2) nz;have aa:=Jt sl.ne (show (2:Int)≠0 by decide);have t1:=Ic (y:=dv (l.1*h.2+h.1*l.2) (l.2*h.2)) st;have b1:=Ic (y:=dv (l.1*h.2+h.1*l.2) (l.2*h.2)) sb;refine⟨(GJ (l.1*h.2+h.1*l.2) (l.2*h.2),Gz (l.1*h.2+h.1*l.2) (l.2*h.2)),(1,2),rfl,aa,GS t1 (by omega),by decide,GS b1 (by omega),by decide,?_⟩;refine q _ ⟨dX _ aa,GS (Ic (HH t1 (show ib 1<=1 by decide))) (by omega),GS (Ic (HH b1 (show ib 2<=2 by decide))) (by omega)⟩
theorem vF{l:List (Rw×Int)}:(decide (kdS (kOf (Gv l))=("least":Str)):Bool)=!Gv l:=by cases Gv l<;>rfl
structure Pcs(nm:Zb)(rows:List Rw)(ks:Zb)(ps:Za)(n:Str)(W:List (List Int))(κ T:Nat):Prop where
 H:Rws nm rows
 k6:ks.length<=60
 nms:∀w∈W,∀t∈(Gx nm rows w).2.1,t.1≠n->t.1∈ks
 P:Pt ks ps T
 hT:T<=800000
 hκ:ib (bot (pB ks ps) ks)<=κ
 κ3:κ<=3890
 cb:∀w∈W,∀x,ib (cfs (rows.zip w) x)<=95
 bb:∀w∈W,ib (bds (rows.zip w))<=95
inductive iW(ds:Zi)(R:D->Prop):Prop
 | mk (nm:Zb) (rows:List Rw) (ks:Zb) (ps:Za) (n:Str) (W:List (List Int)) (κ T:Nat) (hh:ds=[.str n,jw nm rows W,.dct ks (ps.map Gq)]/\Pcs nm rows ks ps n W κ T /\
 ∀lo hi:En2,Ce (T+κ+170) (95+κ) lo.1->Ce (T+κ+170) (95+κ) hi.1->R (.tup [oD lo.1,.bl lo.2,oD hi.1,.bl hi.2]))
theorem ip:∀ds R,iW ds R->ds.length=3:=λ_ _ ⟨_,_,_,_,_,_,_,_,e,_⟩=>by rw[e];rfl
theorem aX:ay ["name","sums","point","low","high","row","weights","weight"] ["name","sums","point"] (am s_piece_for):=by walk_at "sc"
theorem fi(Z:Zz):Z.C 4 "piece_for" ["name","sums","point"] (Gy Z.K iW):=by
 refine cU Z.x29 aX ip λfa cdv A outer s H E ds R hr h=>?_;have hU:=hr.units;refine⟨_,(ae (aD 3 aX.nd (mT rfl Z.g_ENDLESS)) (ae (aD 4 aX.nd (mT rfl Z.g_ENDLESS)) (ae (aY Hj rfl (ap 1) (bV (n:=2) rfl (aE (ar 5 aX.nd) (aE (ar 6 aX.nd) a5))) (ae (aD 7 aX.nd (au (aZ Z) (rm hr) rfl (ac (ap 0) (ac (ap 5) af)))) (ae (aK (aC vQ (ap 7) av (aB _)) (ag (aD 3 aX.nd (au (g6 Z) (rm hr) rfl (ac (ap 3) (ac (aN (ac (au (gm Z) (rm hr) rfl (ac (ap 0) (ac (ap 5) (ac (ap 2) af)))) (ac (fw (dH hU) (Gn 5) aG (aB _)) af))) (ac gz af)))))) aA) (ag (aK (aC o_lt (ap 7) av (aB _)) (ag (aD 4 aX.nd (au (g6 Z) (rm hr) rfl (ac (ap 4) (ac (aN (ac (au (gm Z) (rm hr) rfl (ac (ap 0) (ac (ap 5) (ac (ap 2) af)))) (ac (fw (dH hU) (Gn 5) aG (aB _)) af))) (ac gz af)))))) aA))))) (ag (ax (aJ bC (ap 3) (ap 4))))))),?_⟩;obtain⟨nm,rows,ks,ps,n,W,κ,T,rfl,S,q⟩:=h;have hT:=S.hT;have κ3:=S.κ3;unfold jw;refine ak λK1 hK1=>?_;walk_at "";rw[hK1];refine ak λK2 hK2=>?_;walk_at "";rw[hK2];refine ak λK3 hK3=>?_;refine bh λF N hF hN=>?_;walk_at "";simp only[cO];walk_at "";refine⟨λi δ=>∃(lo hi:En2) (x y z:Sl),δ=[.dat (.str n),.dat (.lst (W.map (smD nm rows))),.dat (.dct ks (ps.map Gq)),.dat (nk lo),.dat (nk hi),x,y,z]/\Ce (T+κ+170) (95+κ) lo.1/\Ce (T+κ+170) (95+κ) hi.1,⟨(none,false),(none,false),_,_,_,rfl,(λ_ h=>nomatch h),(λ_ h=>nomatch h)⟩,?_,?_⟩
 ·rintro i d δ hd ⟨lo,hi,x,y,z,rfl,pl,ph⟩;obtain⟨w,hw,rfl⟩:=pE hd;have hm:=G9 hw;rw[hF];show lG _ _ (.tup [GF (Gx nm rows w),.tup (w.map D.int)]) _ _;refine bX λK4 hK4=>?_;walk_at "";refine⟨n,Gx nm rows w,rfl,jc S.H w,?_⟩;walk_at "";rw[dU S.H,hK4];have k6:=S.k6;have bnd:cfs (rows.zip w) n≠0->∀R:D->Prop,(∀p,Cz (T+κ+170) (95+κ) p->R (Gq p))->fQ [.str n,GF (Gx nm rows w),.dct ks (ps.map Gq)] R:=λhc R r =>
   ⟨n,Gx nm rows w,ks,ps,κ,T,rfl,jc S.H w,k6,S.nms w hm,by rw[dU S.H];exact hc,S.P,by omega,S.hκ,κ3,by rw[dU S.H];exact S.cb w hm n,λt ht=>by rw[(uh ht).2.2];exact S.cb w hm _,S.bb w hm,r⟩
  have word:∀R:D->Prop,R (.bl (!Gv (rows.zip w)))->fIx [GF (Gx nm rows w),.int 0] λd=>fEq [d,.str "least"] R:=λR r=>by
   unfold GF lr Gx;walk_at "";rw[vF];exact r
  have en:∀ {p:Int×Int} {b:Bool},Cz (T+κ+170) (95+κ) p->Ce (T+κ+170) (95+κ) ((some p,b):En2).1:=λh p e=>by cases e;exact h
  rcases Int.lt_trichotomy (cfs (rows.zip w) n) 0 with hc | hc | hc
  ·refine ak λK5 hK5=>?_;walk_at "";refine GG (by omega) ?_;rw[hK5];walk_at "";refine Gw hc (bnd (by omega) _ λp hp=>?_);walk_at "";refine word _ ?_;refine⟨hi,(some p,_),false,_,_,rfl,by omega,by omega,ph,en hp,λe he=>?_⟩;walk_at "";exact⟨lo,rfl,e,rfl,pl,he⟩
  ·refine ak λK5 hK5=>?_;walk_at "";refine GG (by omega) ?_;rw[hK5];walk_at "";exact GG (by omega) ⟨lo,rfl,hi,rfl,pl,ph⟩
  ·refine ak λK5 hK5=>?_;walk_at "";refine Gw hc (bnd (by omega) _ λp hp=>?_);walk_at "";refine word _ ?_;refine⟨lo,(some p,_),true,_,_,rfl,by omega,by omega,pl,en hp,λe he=>?_⟩;rw[hK5];walk_at "";exact GG (by omega) ⟨e,rfl,hi,rfl,he,ph⟩
 ·rintro δ ⟨lo,hi,x,y,z,rfl,pl,ph⟩;rw[hN,hK3];unfold nk;walk_at "";exact q lo hi pl ph
def fitQ:Nat->Nat->Nat->Bool
 | 0,_,_=>true
 | k+1,κ,T=>decide (κ<=3890)&&decide (T<=800000)&&fitQ k (3*κ+192) (T+2*κ+270)
structure St(l ks:Zb)(ps:Za)(κ T:Nat):Prop where
 P:Pt ks ps T
 hκ:ib (bot (pB ks ps) ks)<=κ
 fq:fitQ l.length κ T=true
theorem tz{ks:Zb}{ps:Za}{n:Str}{v:Int×Int}{T T':Nat}(P:Pt ks ps T)(hv:Gs v.1 v.2)(hT:T<=T')(h1:ib v.1<=T')(h2:ib v.2<=T'):Pt (ks++[n]) (ps++[v]) T' :=
  ⟨by simp[P.len],λp hp=>(Hb.mp hp).elim (P.low p) λz=>by rw[GX.mp z];exact hv,λp hp=>(Hb.mp hp).elim (λz=>GS (P.b1 p z) hT) λz=>by rw[GX.mp z];exact h1,
   λp hp=>(Hb.mp hp).elim (λz=>GS (P.b2 p z) hT) λz=>by rw[GX.mp z];exact h2⟩
theorem vI{ks:Zb}{ps:Za}{n:Str}{v:Int×Int}(hl:ps.length=ks.length)(hn:n∉ks):bot (pB (ks++[n]) (ps++[v])) (ks++[n])=bot (pB ks ps) ks*v.2:=by
 rw[jT,uL];have e1:pB (ks++[n]) (ps++[v]) n=v.2:=by unfold pB;rw[mI hl hn,Hc rfl]
 rw[e1]
 congr 1
 refine mP λk hk=>?_;unfold pB;rw[mI hl hn,Ha (λ(z:k=n)=>hn (z ▸ hk))]
theorem Fit.pcs{nm:Zb}{rows:List Rw}{n:Str}{l ks:Zb}{ps:Za}{κ T:Nat}(F:Fit nm rows)(hl:l.length<=3)(hkl:ks.length<=60)(hcov:∀k∈nm,k∈ks\/k=n\/k∈l)(P:Pt ks ps T)(hκ:ib (bot (pB ks ps) ks)<=κ)(f1:κ<=3890)(f2:T<=800000):Pcs nm rows ks ps n (Gr rows l) κ T:=by
 refine⟨F.H,hkl,λw hw t ht hne=>?_,P,f2,hκ,f1,λw hw x=>GS (F.H.cfb F.hB (F.bits hl hw) x) F.c3,λw hw=>GS (Rws.bdb F.hB (F.bits hl hw)) F.c3⟩;obtain⟨m1,m2,_⟩:=uh ht
 rcases hcov t.1 m1 with z | z | z
 ·exact z
 ·exact absurd z hne
 ·exact absurd ((cA hw).2 _ z) m2
theorem St.get{n:Str}{l ks:Zb}{ps:Za}{κ T:Nat}(h:St (n::l) ks ps κ T):κ<=3890/\T<=800000/\fitQ l.length (3*κ+192) (T+2*κ+270)=true:=by
 have:(decide (κ<=3890)&&decide (T<=800000)&&fitQ l.length (3*κ+192) (T+2*κ+270))=true:=h.fq
 simpa only[Bool.and_eq_true,decide_eq_true_eq,and_assoc] using this
inductive gk(ds:Zi)(R:D->Prop):Prop
 | mk (nm:Zb) (rows:List Rw) (ns ks:Zb) (ps:Za) (κ T:Nat) (hh:ds=[.lst ((rD rows ns).map (jw nm rows)),.lst (ns.map D.str),.dct ks (ps.map Gq)]/\Fit nm rows/\ns.length<=3/\ks.length<=20/\(ks++ns).Nodup/\(∀n∈nm,n∈ks\/n∈ns)/\St ns ks ps κ T/\∀d,R d)
theorem gu:∀ds R,gk ds R->ds.length=3:=λ_ _ ⟨_,_,_,_,_,_,_,e,_⟩=>by rw[e];rfl
theorem FK(o:Option (Int×Int)):D.im (oD o)=true:=by cases o<;>rfl
theorem Cj{ns:Zb}{L:Zi}{i:Nat}{d:D}(h:(sw (ns.map D.str) L)[i]?=some d):∃n e,ns[i]?=some n/\L[i]?=some e/\d=.tup [.str n,e]:=by
 unfold sw at h;rw[List.getElem?_zipWith] at h;rw[G6] at h
 cases e1:ns[i]? with
 | none=>rw[e1] at h;cases h
 | some n =>
  rw[e1] at h
  cases e2:L[i]? with
  | none=>rw[e2] at h;cases h
  | some e=>rw[e2] at h;exact⟨n,e,rfl,rfl,(G4 h).symm⟩
theorem cut1{α:Type}(xs:List α)(h:0<xs.length):cut xs (some 1) none=xs.drop 1:=by
 unfold cut;have e1:HT.sIx xs.length 0 (some 1)=1:=by unfold HT.sIx;simp;omega
 have e2:HT.sIx xs.length xs.length none=xs.length:=rfl
 rw[e1,e2];exact JZ (by rw[Jd];omega)
theorem cn:ay ["steps","names","point","told","name","sums"] ["steps","names","point"] (am s_found_back):=by walk_at "sc"
theorem d9(Z:Zz):Z.C 5 "found_back" ["steps","names","point"] (Gy Z.K gk):=by
 refine cU Z.x30 cn gu λfa cdv A outer s H E ds R hr h=>?_;have hU:=hr.units;refine⟨_,(ae (wI 3 cn.nd rfl Z.x58 (ap 2)) (ae (jE Hj rfl (pZ true true rfl Z.x54 (ac (ap 1) (ac (jR (ap 0) (cM av) cN) af))) (bV (n:=2) rfl (aE (ar 4 cn.nd) (aE (ar 5 cn.nd) a5))) (ag (fR 3 hU (au (kc Z) (rm hr) rfl (ac (xi 3 (fi Z) (rm hr) rfl (ap 4) (ap 5)) af)) (ap 4)))) (a6 3 (ag (ax (ap 3)))))),?_⟩;obtain⟨nm,rows,ns,ks,ps,κ,T,rfl,F,h4,as,nd,aq,ai,q⟩:=h;refine ak λK1 hK1=>?_;walk_at "";intro da;rw[hK1];refine ak λK2 hK2=>?_;refine fZ λFb N hF hN=>?_;walk_at "";simp only[nQ];walk_at "";rw[cut1 _ (by rw[GN,gI];omega),<- List.map_drop];refine⟨λi δ=>∃(ks':Zb) (ps':Za) (x y:Sl),δ=[.dat (.lst ((rD rows ns).map (jw nm rows))),.dat (.lst (ns.map D.str)),.dat (.dct ks (ps.map Gq)),.own da (.dct ks' (ps'.map Gq)),x,y]/\ks'=ks++ns.take i/\∃κ T,St (ns.drop i) ks' ps' κ T,⟨ks,ps,_,_,rfl,by simp,κ,T,ai⟩,?_,?_⟩
 ·rintro i d δ hd ⟨ks',ps',x,y,rfl,rfl,κ',T',S'⟩;obtain⟨n,e,hn,he,rfl⟩:=Cj hd;have an:i<ns.length:=(GZ.mp hn).1;rw[G6,List.getElem?_drop,qH ns (1+i) (by omega)] at he;have he:=(G4 he).symm;subst he;have ab:ns.drop i=n::ns.drop (i+1):=by
   rw[JD an]
   congr 1
   exact(GZ.mp hn).2
  rw[Nat.add_comm 1 i];rw[ab] at S';have ao:(ks++ns.take i++n::ns.drop (i+1)).Nodup:=by
   rw[<- ab,Jw,IV];exact nd
  have aa:n∉ks++ns.take i:=λz=>(Iw.mp ao).2.2 n z n (GT ..) rfl
  have ah:∀k∈nm,k∈ks++ns.take i\/k=n\/k∈ns.drop (i+1):=λk hk=>by
   rcases aq k hk with z | z
   ·exact .inl (Hf _ z)
   ·rw[<- IV i ns,ab] at z
    rcases Hb.mp z with z | z
    ·exact .inl (G7 _ z)
    ·rcases GY.mp z with z | z
     ·exact .inr (.inl z)
     ·exact .inr (.inr z)
  have al:(ks++ns.take i).length<=60:=by rw[GV,HP];omega
  have aj:ns.take (i+1)=ns.take i++[n]:=aI hn
  have hdl:(ns.drop (i+1)).length<=3:=by rw[Jd];omega
  simp only[aj,<- List.append_assoc];generalize ks++ns.take i=k0 at *;generalize ns.drop (i+1)=l at *;obtain⟨f1,f2,f3⟩:=S'.get;have P':=S'.P;rw[hF];show lG _ _ (.tup [.str n,jw nm rows (Gr rows l)]) _ _;walk_at "";refine⟨nm,rows,k0,ps',n,Gr rows l,κ',T',rfl,F.pcs hdl al ah P' S'.hκ f1 f2,λlo hi pl ph=>?_⟩;refine⟨by simp only[D.im,D.ims,FK];rfl,?_⟩;refine⟨lo.1,hi.1,lo.2,hi.2,_,_,rfl,by omega,by omega,pl,ph,λv hv=>?_⟩;have v1:=hv.t;have v2:=hv.b;have lk:k0.length<9000:=by omega
  refine⟨lk,?_⟩;rw[gK aa,gS aa];walk_at "";refine⟨ps'++[v],by rw[Hg];rfl,_,_,tz P' hv.low (by omega) (by omega) (by omega),?_,f3⟩;rw[vI P'.len aa];exact GS (HH S'.hκ v2) (by omega)
 ·rintro δ ⟨ks',ps',x,y,rfl,rfl,_⟩;rw[hN,hK2];walk_at "";exact q _
theorem yQ{nm:Zb}{rows:List Rw}{ns ks:Zb}{ps:Za}{T:Nat}{w:Ze}{R:D->Prop}(F:Fit nm rows)(h:ns.length<=3)(cov:∀n∈nm,n∈ks\/n∈ns)(P:Pt ks ps T)(hT:T<=800000)(hκ:ib (bot (pB ks ps) ks)<=3890)(hw:w∈Gr rows ns)
  (r:R (.bl ((md (Gx nm rows w)).tv (pT ks ps) (pB ks ps)))):nu [GF (Gx nm rows w),.dct ks (ps.map Gq)] R:=by
 have c3:=F.c3
 unfold cb at c3;have ez:(smT nm (cfs (rows.zip w))).map (·.1)=nm.filter λn=>decide (cfs (rows.zip w) n≠0):=by unfold smT;rw[HK];exact Km _
 refine⟨md (Gx nm rows w),ks,ps,nm,T,3890,rfl,by show 1<=60;decide,⟨⟨?_,λt ht=>?_,λt ht=>?_⟩,?_⟩,F.n6,λx hx=>?_,P,by omega,hκ,by decide,r⟩
 ·show ((smT nm (cfs (rows.zip w))).map (·.1)).Sublist nm
  rw[ez];exact List.filter_sublist
 ·obtain⟨n,hn,rfl⟩:=GR.mp ht;exact Ip (G1.mp hn).2
 ·obtain⟨n,hn,rfl⟩:=GR.mp ht;have:=F.H.cfb F.hB (F.bits h hw) n;show ib (cfs (rows.zip w) n)<=10000;omega
 ·have:=Rws.bdb F.hB (F.bits h hw)
  show ib (bds (rows.zip w))<=10000
  omega
 ·have hx:x∈(smT nm (cfs (rows.zip w))).map (·.1):=hx
  rw[ez] at hx;obtain⟨h1,h2⟩:=G1.mp hx;exact(cov x h1).resolve_right λz=>Ip h2 ((cA hw).2 x z)
theorem pt0:Pt [] [] 0:=⟨rfl,(λ_ h=>nomatch h),(λ_ h=>nomatch h),(λ_ h=>nomatch h)⟩
theorem fit3:∀ {k:Nat},k<=3->fitQ k 1 3=true
 | 0,_=>by decide
 | 1,_=>by decide
 | 2,_=>by decide
 | 3,_=>by decide
 | k+4,h=>by omega
theorem ml{nm:Zb}{rows:List Rw}(ns:Zb):(rD rows ns).map (jw nm rows)=jw nm rows (Gr rows ns)::((rD rows ns).drop 1).map (jw nm rows):=by cases ns<;>rfl
theorem ma{ss nm:Zb}(h1:Srt ss)(n1:ss.Nodup)(h2:nm.Pairwise leS)(n2:nm.Nodup)(h:∀n,n∈ss↔n∈nm):ss=nm:=ki (yD h1) h2 n1 n2 h
inductive rb(ds:Zi)(R:D->Prop):Prop
 | mk (nm:Zb) (rows:List Rw) (ns:Zb) (hh:ds=[.lst (rows.map GF),.lst (ns.map D.str)]/\Fit nm rows/\ns.length<=3/\ns.Nodup/\(∀n∈nm,n∈ns)/\(∀w,Wt rows.length w->(∀a∈w,ib a<=95)->R (.tup [.str "weights",.tup (w.map D.int)]))/\∀d,R (.tup [.str "point",d]))
theorem lR:∀ds R,rb ds R->ds.length=2:=λ_ _ ⟨_,_,_,e,_⟩=>by rw[e];rfl
theorem fh:ay ["rows","names","steps","row","weights"] ["rows","names"] (am s_solved):=by walk_at "sc"
theorem rS(Z:Zz):Z.C 65 "solved" ["rows","names"] (Gy Z.K rb):=by
 refine cU Z.x31 fh lR λfa cdv A outer s H E ds R hr h=>?_;have hU:=hr.units;refine⟨_,(ae (aD 2 fh.nd (au (cu Z) (rm hr) rfl (ac (ap 0) (ac (ap 1) af)))) (ae (aY Hj rfl (Gn 2) (bV (n:=2) rfl (aE (ar 3 fh.nd) (aE (ar 4 fh.nd) a5))) (ag (aK (pL (bZ (au (ik Z) (rm hr) rfl (ac (ap 3) (ac eX af))))) (ag (ax (aN (ac aG (ac (ap 4) af))))) aA))) (ag (ax (aN (ac aG (ac (au (d9 Z) (rm hr) rfl (ac (ap 2) (ac (ap 1) (ac eX af)))) af))))))),?_⟩;obtain⟨nm,rows,ns,rfl,F,h4,nd,ab,qw,qp⟩:=h;have aa:∀n∈nm,n∈([]:Zb)\/n∈ns:=λn hn=>.inr (ab n hn);refine ak λK1 hK1=>?_;walk_at "";refine⟨nm,rows,ns,rfl,F,h4,?_⟩;walk_at "";rw[hK1];refine ak λK2 hK2=>?_;refine bh λFb N hF hN=>?_;walk_at "";simp only[cO];rw[ml];walk_at "";rw[<- ml];refine⟨λi δ=>∃x y,δ=[.dat (.lst (rows.map GF)),.dat (.lst (ns.map D.str)),.dat (.lst ((rD rows ns).map (jw nm rows))),x,y],⟨_,_,rfl⟩,?_,?_⟩
 ·rintro i d δ hd ⟨x,y,rfl⟩;obtain⟨w,hw,rfl⟩:=pE hd;have hm:=G9 hw;rw[hF];show lG _ _ (.tup [GF (Gx nm rows w),.tup (w.map D.int)]) _ _;walk_at "";refine yQ F h4 aa pt0 (by decide) (by show ib 1<=_;decide) hm ?_
  cases (md (Gx nm rows w)).tv (pT [] []) (pB [] []) with
  | false=>exact qw w (cA hm).1 λa ha=>GS (F.bits h4 hm a ha) (by have:=F.c3;unfold cb at this;omega)
  | true =>
   walk_at "";exact⟨_,rfl⟩
 ·rintro δ ⟨x,y,rfl⟩;rw[hN,hK2];walk_at "";refine⟨nm,rows,ns,[],[],1,3,rfl,F,h4,by decide,by simpa using nd,aa,⟨⟨rfl,(λ_ h=>nomatch h),(λ_ h=>nomatch h),(λ_ h=>nomatch h)⟩,by show ib 1<=1;decide,fit3 h4⟩,λd=>?_⟩;walk_at "";exact qp d
def S3:Zb:=["a","b","c"]
theorem CT:S3.Pairwise leS:=by unfold S3 leS;decide +kernel
theorem Ab:S3.Nodup:=by decide +kernel
structure Sy(a:Gh):Prop where
 dep:a.dep<=45
 ok:a.ok S3
 bt:a.bt 4
def Gu(a b:Gh):Zb:=S3.filter λn=>decide (n∈a.nms\/n∈b.nms)
theorem gl{a b:Gh}:(Gu a b).Pairwise leS:=CT.filter _
theorem dE{a b:Gh}:(Gu a b).Nodup:=Ab.filter _
theorem mD{a b:Gh}:(Gu a b).length<=3:=HW ..
theorem dh{a b:Gh}(ha:Sy a)(hb:Sy b)(n:Str):n∈Gu a b↔n∈a.nms\/n∈b.nms:=by
 unfold Gu;rw[G1,decide_eq_true_iff];exact⟨λh=>h.2,λz=>⟨z.elim (Gh.nms_sub ha.ok n) (Gh.nms_sub hb.ok n),z⟩⟩
theorem jK{S:Zb}{p:Str->Bool}:∀ {s:Gh},s.ok S->(∀n∈s.nms,p n=true)->s.ok (S.filter p)
 | .row k ts b,h,hn=>⟨⟨by
   have e:(ts.map (·.1)).filter p=ts.map (·.1):=List.filter_eq_self.mpr hn
   rw[<- e];exact h.1.sub.filter p,h.1.nz,h.1.bits⟩,h.2⟩
 | .nt s,h,hn=>jK (s:=s) h hn
 | .bo s t,h,hn=>⟨jK h.1 λn z=>hn n (Hf _ z),jK h.2 λn z=>hn n (G7 _ z)⟩
 | .ei s t,h,hn=>⟨jK h.1 λn z=>hn n (Hf _ z),jK h.2 λn z=>hn n (G7 _ z)⟩
theorem wB{nm:Zb}(pw:nm.Pairwise leS)(nd:nm.Nodup){ts:List (Str×Int)}(h:my nm ts):eM (cf ts) ts:=by
 have n1:=nd.sublist h.sub
 exact⟨pw.sublist h.sub,n1,λt ht=>⟨(mo n1 ht).symm,h.nz t ht⟩,λn hn=>G2 λz=>hn (jb z)⟩
structure Ks(nm:Zb)(A:List (List Rw)):Prop where
 ne:A≠[]
 l4:A.length<=4
 l3:∀c∈A,c.length<=3
 pos:∀c∈A,0<c.length
 row:∀c∈A,∀r∈c,my nm r.2.1/\(∀t∈r.2.1,ib t.2<=4)/\ib r.2.2<=4
theorem Gh.kr_ne:∀ {s:Gh},s.pn=true->∀c∈s.kr,0<c.length
 | .row _ _ _,_,c,h=>by rw[GX.mp h];exact Nat.one_pos
 | .bo s t,h,c,hc=>by
  obtain⟨h1,h2⟩:=Hu.mp h;obtain⟨x,hx,hy⟩:=Je.mp hc;obtain⟨y,hz,rfl⟩:=GR.mp hy;have:=Gh.kr_ne h1 x hx;rw[GV];omega
 | .ei s t,h,c,hc=>by
  obtain⟨h1,h2⟩:=Hu.mp h
  rcases Hb.mp hc with hc | hc
  ·exact Gh.kr_ne h1 c hc
  ·exact Gh.kr_ne h2 c hc
theorem Sy.ks{a x y:Gh}(h:Sy a)(f:(a.pl false).few)(sub:∀n∈a.nms,n∈x.nms\/n∈y.nms):Ks (Gu x y) (a.pl false).kr:=by
 refine⟨a.kr_ne0,by rw[Gh.kr_num Gh.pl_pn];exact f.1,λc hc=>GS (Gh.kr_long Gh.pl_pn hc) f.2,Gh.kr_ne Gh.pl_pn,λc hc r hr=>?_⟩;obtain⟨h1,h2,h3,_⟩:=Gh.kr_row (Gh.pl_ok (jK h.ok λn z=>HJ (sub n z))) (Gh.pl_bt h.bt) c hc r hr;exact⟨h1,h2,h3⟩
theorem Ks.fit{a b:Gh}{rows:List Rw}(h6:rows.length<=6)(h:∀r∈rows,my (Gu a b) r.2.1/\(∀t∈r.2.1,ib t.2<=4)/\ib r.2.2<=4):Fit (Gu a b) rows :=
 ⟨⟨gl,dE,λr hr=>wB gl dE (h r hr).1,λr hr t ht=>(h r hr).1.sub.subset (GR.mpr ⟨t,ht,rfl⟩)⟩,⟨λr hr=>(h r hr).2.1,λr hr=>(h r hr).2.2⟩,h6,GS mD (by decide)⟩
theorem Ks.fit1{a b:Gh}{A:List (List Rw)}(h:Ks (Gu a b) A){c:List Rw}(hc:c∈A):Fit (Gu a b) c:=Ks.fit (by have:=h.l3 c hc;omega) (h.row c hc)
theorem Ks.fit2{a b:Gh}{A B:List (List Rw)}(h:Ks (Gu a b) A)(g:Ks (Gu a b) B){c d:List Rw}(hc:c∈A)(hd:d∈B):Fit (Gu a b) (c++d) :=
 Ks.fit (by have:=h.l3 c hc;have:=g.l3 d hd;rw[GV];omega) λr hr=>(Hb.mp hr).elim (h.row c hc r) (g.row d hd r)
theorem mM{K:List (List Rw)}{i:Nat}{d:D}(h:(K.map λc=>D.lst (c.map GF))[i]?=some d):∃c,K[i]?=some c/\d=.lst (c.map GF):=by
 rw[G6] at h
 cases e:K[i]? with
 | none=>rw[e] at h;cases h
 | some n=>rw[e] at h;exact⟨n,rfl,(G4 h).symm⟩
inductive qv(ds:Zi)(R:D->Prop):Prop
 | mk (w:Str) (x:D) (l:Zi) (hh:ds=[.str w,.lst (x::l)]/\∀d,R d)
theorem mh:∀ds R,qv ds R->ds.length=2:=λ_ _ ⟨_,_,_,e,_⟩=>by rw[e];rfl
theorem fk:ay ["word","sayings","told","saying"] ["word","sayings"] (am s_joined):=by walk_at "sc"
theorem dO(Z:Zz):Z.C 1 "joined" ["word","sayings"] (Gy Z.K qv):=by
 refine cU Z.x32 fk mh λfa cdv A outer s H E ds R hr h=>?_;have hU:=hr.units;refine⟨_,(ae (aD 2 fk.nd (Gn 1)) (ae (aY Hj rfl (jR (ap 1) (cM av) cN) (ar 3 fk.nd) (ag (aD 2 fk.nd (aN (ac (ap 0) (ac (ap 2) (ac (ap 3) af))))))) (ag (ax (ap 2))))),?_⟩;obtain⟨w,x,l,rfl,q⟩:=h;refine ak λK1 hK1=>?_;walk_at "";rw[hK1];refine ak λK2 hK2=>?_;refine bh λF N hF hN=>?_;walk_at "";simp only[cO];walk_at "";refine⟨λi δ=>∃y z,δ=[.dat (.str w),.dat (.lst (x::l)),.dat y,z],⟨_,_,rfl⟩,?_,?_⟩
 ·rintro i d δ hd ⟨y,z,rfl⟩;rw[hF];walk_at "";exact⟨_,rfl⟩
 ·rintro δ ⟨y,z,rfl⟩;rw[hN,hK2];walk_at "";exact q _
def wtD(w:Ze):D:=.tup (w.map D.int)
abbrev Pp:=List Rw×List (List Int)
def Pp.ok(p:Pp):Prop:=(p.2≠[]/\p.2.length<=4)/\∀w∈p.2,p.1.length<w.length/\∀z∈w,ib z<=95
def pprD(PP:List Pp):D:=.tup (PP.map λp=>.tup (p.2.map wtD))
def Ref2(a b:Gh)(RE:Str->Str->D->Prop)(Q:Prop):Prop:=(¬ (a.pl false).few->RE "TooMany" "saying" a.D)/\((a.pl false).few->¬ (b.pl false).few->RE "TooMany" "saying" b.D)/\((a.pl false).few->(b.pl false).few->Q)
def l9:FE:=λds R RE=>∃a b:Gh,ds=[a.D,b.D]/\Sy a/\Sy b/\Ref2 a b RE ((∀d,R (.tup [.str "point",d]))/\∀PP:List Pp,PP.map (·.1)=(a.pl false).kr->(∀p∈PP,p.ok)->R (.tup [.str "paper",pprD PP]))
theorem km:∀ds R RE,l9 ds R RE->ds.length=2:=λ_ _ _ ⟨_,_,e,_⟩=>by rw[e];rfl
theorem bu:ay ["one","other","firsts","seconds","names","paper","first","line","second","answer"] ["one","other"] (am s_both_so):=by walk_at "sc"
theorem io(Z:Zz):Z.E 66 "both_so" ["one","other"] l9:=by
 refine ye Z.x33 bu km λfa cdv A outer s H E ds R RE hr h=>?_;have hU:=hr.units;refine⟨_,(ae (dm 2 bu.nd (bD Z) (rm hr) rfl (ac (ap 0) af)) (ae (dm 3 bu.nd (bD Z) (rm hr) rfl (ac (ap 1) af)) (ae (aD 4 bu.nd (au (cc Z) (rm hr) rfl (ac (aN (ac aG (ac (ap 0) (ac (ap 1) af)))) af))) (ae (cJ 5 bu.nd af) (ae (aY (cy ⟨rfl,rfl⟩) rfl (ap 2) (ar 6 bu.nd) (ae (cJ 7 bu.nd af) (ae (aY (cy ⟨rfl,rfl⟩) rfl (ap 3) (ar 8 bu.nd) (ae (aD 9 bu.nd (au (rS Z) (rm hr) rfl (ac (aJ bC (ap 6) (ap 8)) (ac (ap 4) af)))) (ae (aK (aC (dH hU) (Gn 9) aG (aB _)) (ag (ax (ap 9))) aA) (ag (a8 7 (Gn 9)))))) (ag (a8 5 (lV 7 rfl Z.x51 eK)))))) (ag (ax (aN (ac aG (ac (lV 5 rfl Z.x51 eK) af)))))))))),?_⟩;obtain⟨a,b,rfl,Sa,Sb,q1,q2,q⟩:=h;have da:=Sa.dep;have db:=Sb.dep;refine ak λK1 hK1=>?_;walk_at "";refine⟨a,S3,rfl,by omega,Sa.ok,by decide,λfa=>?_,q1⟩;walk_at "";rw[gZ,hK1];refine ak λK2 hK2=>?_;walk_at "";refine⟨b,S3,rfl,by omega,Sb.ok,by decide,λfb=>?_,q2 fa⟩;walk_at "";rw[gZ,hK2];obtain⟨qp,qw⟩:=q fa fb;refine ak λK3 hK3=>?_;walk_at "";refine⟨S3,.bo a b,rfl,by show max _ _+1<=60;omega,⟨Sa.ok,Sb.ok⟩,by decide,λss nds hms hs=>?_⟩;have es:ss=Gu a b:=ma hs nds gl dE λn=>by rw[hms n,dh Sa Sb];exact Hb
 subst es;walk_at "";rw[hK3];refine ak λK4 hK4=>?_;walk_at "";intro pa;rw[hK4];have kA:Ks (Gu a b) (a.pl false).kr:=Sa.ks fa λn h=>.inl h;have kB:Ks (Gu a b) (b.pl false).kr:=Sb.ks fb λn h=>.inr h;generalize (a.pl false).kr=A at *;generalize (b.pl false).kr=Bk at *;have a4:=kA.l4;have b4:=kB.l4;refine ak λK5 hK5=>?_;refine bh λF N hF hN=>?_;unfold krD;walk_at "";simp only[cO];walk_at "";refine⟨λi δ=>∃(PP:List Pp) (x y z u:Sl),δ=[.dat a.D,.dat b.D,.dat (.lst (A.map λc=>.lst (c.map GF))),.dat (.lst (Bk.map λc=>.lst (c.map GF))),.dat (.lst ((Gu a b).map D.str)),.own pa (.lst (PP.map λp=>.tup (p.2.map wtD))),x,y,z,u]/\PP.map (·.1)=A.take i/\∀p∈PP,p.ok,⟨[],_,_,_,_,rfl,rfl,λc hc=>(nomatch hc)⟩,?_,?_⟩
 ·rintro i d δ hd ⟨PP,x,y,z,u,rfl,hP,ok⟩;obtain⟨c,hc,rfl⟩:=mM hd;have ab:=G9 hc;have ai:=(GZ.mp hc).1;have c3:=kA.l3 c ab;have pl:PP.length<=i:=by rw[<- GN (f:=(·.1)),hP,HP];omega
  rw[hF];show cB _ _ _ _;refine bX λK6 hK6=>?_;walk_at "";intro la;rw[hK6];refine ak λK7 hK7=>?_;refine bh λF2 N2 hF2 hN2=>?_;walk_at "";simp only[cO];walk_at "";refine⟨λj δ=>∃(ws:List (List Int)) (z u:Sl),δ=[.dat a.D,.dat b.D,.dat (.lst (A.map λc=>.lst (c.map GF))),.dat (.lst (Bk.map λc=>.lst (c.map GF))),.dat (.lst ((Gu a b).map D.str)),.own pa (.lst (PP.map λp=>.tup (p.2.map wtD))),.dat (.lst (c.map GF)),.own la (.lst (ws.map wtD)),z,u]/\ws.length=j/\∀w∈ws,c.length<w.length/\∀z∈w,ib z<=95,⟨[],_,_,rfl,rfl,λc hc=>(nomatch hc)⟩,?_,?_⟩
  ·rintro j e δ he ⟨ws,z,u,rfl,hj,wok⟩;obtain⟨d,hd,rfl⟩:=mM he;have aa:=G9 hd;have ah:=(GZ.mp hd).1;have d3:=kB.l3 d aa;have d0:=kB.pos d aa;rw[hF2];show cB _ _ _ _;refine bX λK8 hK8=>?_;walk_at "";rw[<- Hg];refine⟨by simp only[List.length_map];omega,Gu a b,c++d,Gu a b,rfl,kA.fit2 kB ab aa,mD,dE,λ_ h=>h,λw wt wb=>?_,λp=>?_⟩
   ·rw[hK8];walk_at "";refine GG (by decide) ⟨by rw[GN];omega,ws++[w],by rw[Hg];rfl,by rw[GV,hj];rfl,λv hv=>?_⟩
    rcases Hb.mp hv with z | z
    ·exact wok v z
    ·rw[GX.mp z];exact⟨by rw[wt.len,GV];omega,wb⟩
   ·rw[hK8];walk_at "";exact qp p
  ·rintro δ ⟨ws,z,u,rfl,hj,wok⟩;rw[hN2,hK7];walk_at "";refine⟨by rw[GN];omega,PP++[(c,ws)],by rw[Hg];rfl,by rw[Hg,hP,aI hc];rfl,λp hp=>?_⟩
   rcases Hb.mp hp with z | z
   ·exact ok p z
   ·rw[GX.mp z];rw[GN] at hj;exact⟨⟨λz=>kB.ne (HR (by rw[<- hj,show ws=[] from z];rfl)),by show ws.length<=4;omega⟩,wok⟩
 ·rintro δ ⟨PP,x,y,z,u,rfl,hP,ok⟩;rw[GN,Ht] at hP;rw[hN,hK5];walk_at "";exact qw PP hP ok
def lE:FE:=λds R RE=>∃a b:Gh,ds=[a.D,b.D,.tup []]/\Sy a/\Sy b/\Ref2 a b RE (R (.bl false))
theorem j7:∀ds R RE,lE ds R RE->ds.length=3:=λ_ _ _ ⟨_,_,e,_⟩=>by rw[e];rfl
theorem fL:ay ["one","other","paper","firsts","seconds","first","line","second","weights"] ["one","other","paper"] (am s_lets_by):=by walk_at "sc"
theorem ni(Z:Zz):Z.E 65 "lets_by" ["one","other","paper"] lE:=by
 refine ye Z.x34 fL j7 λfa cdv A outer s H E ds R RE hr h=>?_;have hU:=hr.units;refine⟨_,(ae (dm 3 fL.nd (bD Z) (rm hr) rfl (ac (ap 0) af)) (ae (dm 4 fL.nd (bD Z) (rm hr) rfl (ac (ap 1) af)) (ae (aK (aC (jk hU) (bg oU rfl Z.x53 mx (ac (ap 2) af)) (bg oU rfl Z.x53 mx (ac (ap 3) af)) (aB _)) (ag (ax gz)) aA) jd))),?_⟩;obtain⟨a,b,rfl,Sa,Sb,q1,q2,q⟩:=h;have da:=Sa.dep;have db:=Sb.dep;refine ak λK1 hK1=>?_;walk_at "";refine⟨a,S3,rfl,by omega,Sa.ok,by decide,λfa=>?_,q1⟩;walk_at "";rw[gZ,hK1];refine ak λK2 hK2=>?_;walk_at "";refine⟨b,S3,rfl,by omega,Sb.ok,by decide,λfb=>?_,q2 fa⟩;walk_at "";rw[hK2];have ne:=a.kr_ne0;unfold krD;refine ak λK3 hK3=>?_;walk_at "";refine Gw (λz=>?_) (q fa fb);rw[GN] at z;exact ne (HR (Int.ofNat_inj.mp z.symm))
def unI:D->Int
 | .int z=>z
 | _=>0
theorem iD(w:Ze):(w.map D.int).map unI=w:=by rw[HK];exact Km _
def mq:FE:=λds R RE=>∃a b:Gh,ds=[a.D,b.D]/\Sy a/\Sy b/\Ref2 a b RE (∀d,R d)
theorem kb:∀ds R RE,mq ds R RE->ds.length=2:=λ_ _ _ ⟨_,_,e,_⟩=>by rw[e];rfl
theorem cT:ay ["one","other","answer","told","first","line"] ["one","other"] (am s_between):=by walk_at "sc"
theorem m7(Z:Zz):Z.E 67 "between" ["one","other"] mq:=by
 refine ye Z.x35 cT kb λfa cdv A outer s H E ds R RE hr h=>?_;have hU:=hr.units;refine⟨_,(ae (dm 2 cT.nd (io Z) (rm hr) rfl (ac (ap 0) (ac (ap 1) af))) (ae (aK (aC (dH hU) (Gn 2) aG (aB _)) (ag (ax cF)) aA) (ae (cJ 3 cT.nd af) (ae (jE (cy ⟨rfl,rfl⟩) rfl (pZ true false rfl Z.x54 (ac (au (bD Z).pure (rm hr) rfl (ac (ap 0) af)) (ac (Gn 2) af))) (bV (n:=2) rfl (aE (ar 4 cT.nd) (aE (ar 5 cT.nd) a5))) (ag (a8 3 (au (dO Z) (rm hr) rfl (ac aG (ac (DE.nox (bR ["weights"] [(4,"first")] rfl rfl (by decide +kernel) rfl (by decide +kernel) (bE ⟨rfl,trivial⟩) (λ_=>bO rfl) (aU ⟨⟨rfl,rfl,.inl rfl⟩,trivial⟩) (mB (ap 5)) λ_ _ _ _ _=>⟨(ar 0 (show List.Nodup (["weights","first"]:Zb) by decide +kernel)),c7,(au (lw Z) (rm hr) rfl (ac (ap 1) (ac (jR (ap 0) cN (cM (bg oU rfl Z.x53 mx (ac (ap 1) af)))) af)))⟩)) af)))))) (a6 3 (ag (ax (au (dO Z) (rm hr) rfl (ac aG (ac (ap 3) af)))))))))),?_⟩;obtain⟨a,b,rfl,Sa,Sb,q1,q2,q⟩:=h;have da:=Sa.dep;refine ak λK1 hK1=>?_;walk_at "";refine⟨a,b,rfl,Sa,Sb,q1,q2,λfa fb=>⟨λd=>?_,λPP hP ok=>?_⟩⟩
 ·walk_at "";rw[hK1];refine ak λK2 hK2=>?_;walk_at "";exact q fa fb _
 ·walk_at "";rw[hK1];refine ak λK2 hK2=>?_;walk_at "";refine GG (by decide) ?_;rw[hK2];have kA:Ks (Gu a a) (a.pl false).kr:=Sa.ks fa λn h=>.inl h;have aa:∀R:D->Prop,R (krD (a.pl false).kr)->nP [a.D] R λ_ _ _=>False:=λR r=>⟨a,S3,rfl,by omega,Sa.ok,by decide,λ_=>by rw[gZ];exact r,λz=>z fa⟩;generalize (a.pl false).kr=A at *;subst hP;have p4:=kA.l4;rw[GN] at p4;refine ak λK3 hK3=>?_;walk_at "";intro ta;walk_at "";rw[hK3];refine ak λK4 hK4=>?_;refine fZ λF N hF hN=>?_;walk_at "";simp only[nQ];walk_at "";refine aa _ ?_;unfold krD pprD;walk_at "";have ez:sw ((PP.map (·.1)).map λc=>D.lst (c.map GF)) (PP.map λp=>D.tup (p.2.map wtD))=PP.map λp=>D.tup [.lst (p.1.map GF),.tup (p.2.map wtD)]:=by
   unfold sw;rw[HK,List.zipWith_map,List.zipWith_self];rfl
  rw[ez];have A1:=λ{p} hp=>(kA.fit1 (c:=p) hp);refine⟨λi δ=>∃(l:Zi) (x y:Sl),δ=[.dat a.D,.dat b.D,.dat (.tup [.str "paper",.tup (PP.map λp=>.tup (p.2.map wtD))]),.own ta (.lst l),x,y]/\l.length=i,⟨[],_,_,rfl,rfl⟩,?_,?_⟩
  ·rintro i d δ hd ⟨l,x,y,rfl,hl⟩;rw[G6] at hd
   cases hn:PP[i]? with
   | none=>rw[hn] at hd;cases hd
   | some p =>
    rw[hn] at hd
    cases hd
    have ah:=G9 hn
    have ai:=(GZ.mp hn).1
    have ft:=A1 (GR.mpr ⟨p,ah,rfl⟩)
    obtain⟨c,ws⟩:=p;obtain⟨⟨ne,w4⟩,ab⟩:=ok _ ah;replace ab:∀w∈ws,c.length<w.length/\∀z∈w,ib z<=95:=ab;replace w4:ws.length<=4:=w4;rw[hF];show lG _ _ (.tup [.lst (c.map GF),.tup (ws.map wtD)]) _ _;walk_at "";refine⟨by rw[GN];omega,λd=>match d with | .tup ws=>some (GF (Gx (Gu a a) c ((ws.map unI).take c.length))) | _=>none,λx hx=>?_,?_⟩
    ·obtain⟨w,hw,rfl⟩:=GR.mp hx;obtain⟨w1,w2⟩:=ab w hw;unfold wtD;rw[ud,GN,GN,C3,<- List.map_take];refine⟨λz=>?_,c,w.take c.length,Gu a a,rfl,GS mD (by decide),λr hr=>⟨ft.H.sub r hr,λt ht=>GS (ft.hB.tm r hr t ht) (by decide),GS (ft.hB.bd r hr) (by decide)⟩,λz hz=>GS (w2 z (JA hz)) (by decide),λts hts=>?_⟩
     ·rw[HT.sIx_nat] at z;omega
     ·rw[hts.uniq (ft.H.smT _)];simp only[iD];exact⟨rfl,rfl⟩
    ·cases ws with
     | nil=>exact absurd rfl ne
     | cons w ws =>
      refine⟨"both",_,_,rfl,λd=>?_⟩;walk_at "";exact⟨by omega,by rw[GV,hl];rfl⟩
  ·rintro δ ⟨l,x,y,rfl,hl⟩;rw[hN,hK4];walk_at ""
   cases l with
   | nil=>exact absurd (HR (by simpa using hl.symm)) λz=>kA.ne (by rw[z];rfl)
   | cons x l=>exact⟨"either",x,l,rfl,q fa fb⟩
theorem iS{α:Type}{p:α->Bool}{l:List α}{i:Nat}{x:α}(h:l[i]?=some x)(hn:∀y∈l.take i,p y=false)(hp:p x=true):l.find? p=some x:=by
 rw[<- IV i l,List.find?_append];have e1:(l.take i).find? p=none:=Kq.mpr λy hy=>by rw[hn y hy];decide
 have hi:i<l.length:=(GZ.mp h).1
 rw[e1,JD hi,(GZ.mp h).2,Jh hp];rfl
theorem noxS{X:Cx}{st:Stmt}{i:Nat}{te:GH}(h:DS X.nox st (dSet i te)):DS X st (dSet i te):=λpins s σ H Q I hw=>by
 refine HX (h pins s σ H Q (I.wish _) ?_) (λ_ _ q=>q.unwish) λ_ _ z=>False.elim z;obtain⟨G,δ,P,R,s,h,k1,⟨k2,k3,_⟩,k⟩:=hw;exact⟨G,δ,P,{ R with ex:=λ_ _ _=>False },s,h,k1,⟨k2,k3,λ_ _ _ z=>False.elim z⟩,k⟩
def kFoF(F:D->aP->En->Prop)(R:aP)(δ1:En)(d:D):Prop:=qL d λxs=>∃I:Nat->En->Prop,I 0 δ1 /\
 (∀i x δ',xs[i]?=some x->I i δ'->F x { R with nx:=I (i+1),ct:=I (i+1),bk:=R.nx,tp:=False } δ')/\∀δ',I xs.length δ'->R.nx δ'
def tM(f:FE)(t:TDA)(F:D->aP->En->Prop):TDS:=λR δ=>t δ λds δ1=>f ds (kFoF F R δ1) R.ex
theorem pF{f:FE}{t:TDA}{g:TDG}{tb:TDS}{R:aP}{δ:En}(h:∀(F:D->aP->En->Prop) (N:En->Prop),F=(λx R δ=>g x δ λδ2=>tb R δ2)->N=R.nx->tM f t F { R with nx:=N } δ):BY f t g tb R δ:=h _ _ rfl rfl
theorem oE(q:Str->Prop)[DecidablePred q]:∀l:Zb,(l.map D.str).filterMap (λd=>match d with | .str n=>if q n then some (.str n) else none | _=>none)=(l.filter λn=>decide (q n)).map D.str
 | []=>rfl
 | n::l=>by simp only[List.map_cons,List.filterMap_cons,List.filter_cons,oE q l];by_cases h:q n<;>simp[h]
theorem cnt4:∀k,cnt 4 k=4
 | 0=>rfl
 | k+1=>by show cnt 4 k*cnt 4 k / 4=4;rw[cnt4 k]
theorem uW{c:List Rw}(h:c.length<=3)(ns:Zb):(Gr c ns).length<=4:=by have:=(nV (c:=4) (Nat.le_succ_of_le h) (by decide) ns).1;rwa [cnt4] at this
def out(nm kp:Zb):Zb:=nm.filter λn=>decide (n∉kp)
def qA:FE:=λds R RE=>∃(a:Gh) (kp:Zb),ds=[a.D,.lst (kp.map D.str)]/\Sy a/\kp.length<=60/\(¬ (a.pl false).few->RE "TooMany" "saying" a.D)/\((a.pl false).few->∀d,R d)
theorem lZ:∀ds R RE,qA ds R RE->ds.length=2:=λ_ _ _ ⟨_,_,e,_⟩=>by rw[e];rfl
theorem dg:ay ["saying","names","told","others","case","rows"] ["saying","names"] (am s_shadow):=by walk_at "sc"
theorem rG(Z:Zz):Z.E 65 "shadow" ["saying","names"] qA:=by
 refine ye Z.x36 dg lZ λfa cdv A outer s H E ds R RE hr h=>?_;have hU:=hr.units;refine⟨_,(ae (cJ 2 dg.nd af) (ae (noxS (fj 3 dg.nd ["name"] [(1,"names")] rfl rfl (by decide +kernel) rfl (by decide +kernel) (bE ⟨rfl,trivial⟩) (λ_=>bO rfl) (aU ⟨⟨rfl,rfl,.inl rfl⟩,trivial⟩) (cR (au (cc Z) (rm hr) rfl (ac (ap 0) af))) λ_ _ _ _ _=>⟨(ar 0 (show List.Nodup (["name","names"]:Zb) by decide +kernel)),(f9 (aC (jZ hU) (ap 0) (ap 1) rfl)),(ap 0)⟩)) (ae (sQ (cy ⟨rfl,rfl⟩) rfl (bD Z) (rm hr) rfl (ac (ap 0) af) (ar 4 dg.nd) (ae (noxS (fj 5 dg.nd ["row","weights"] [] rfl rfl (by decide +kernel) rfl (by decide +kernel) (bE trivial) (λ_=>bO rfl) (aU trivial) (cR (mn lM (au (cu Z) (rm hr) rfl (ac (ap 4) (ac (ap 3) af))) av (λ_ _=>rfl))) λ_ _ _ _ _=>⟨(bV (n:=2) rfl (aE (ar 0 (show List.Nodup (["row","weights"]:Zb) by decide +kernel)) (aE (ar 1 (show List.Nodup (["row","weights"]:Zb) by decide +kernel)) a5))),c7,(ap 0)⟩)) (ag (a8 2 (au (dO Z) (rm hr) rfl (ac aG (ac (og (aC (EZ hU) (ap 5) (aO af) (aB _)) (ap 5) (aO (ac (yP rfl Z.g_ALWAYS_SO) af))) af))))))) (a6 2 (ag (ax (au (dO Z) (rm hr) rfl (ac aG (ac (ap 2) af))))))))),?_⟩;obtain⟨a,kp,rfl,Sa,hk,q1,q⟩:=h;have da:=Sa.dep;refine ak λK1 hK1=>?_;walk_at "";intro ta;rw[hK1];refine ak λK2 hK2=>?_;walk_at "";refine⟨S3,a,rfl,by omega,Sa.ok,by decide,λss nds hms hs=>?_⟩;have es:ss=Gu a a:=ma hs nds gl dE λn=>by rw[hms n,dh Sa Sa,or_self]
 subst es;have nl:=mD (a:=a) (b:=a);walk_at "";refine⟨by rw[GN];omega,λd=>match d with | .str n=>if n∉kp then some (.str n) else none | _=>none,λx hx=>?_,?_⟩
 ·obtain⟨n,hn,rfl⟩:=GR.mp hx;walk_at "";exact⟨kp,rfl,dI (λz=>Hc z) λz=>Ha z⟩
 rw[oE];show K2 [.dat a.D,.dat (.lst (kp.map D.str)),.own ta (.lst []),.dat (.lst ((out (Gu a a) kp).map D.str)),.no,.no];rw[hK2];have ol:(out (Gu a a) kp).length<=3:=GS (HW ..) nl;refine ak λK3 hK3=>?_;refine pF λF N hF hN=>?_;unfold tM;walk_at "";refine⟨a,S3,rfl,by omega,Sa.ok,by decide,λfa=>?_,q1⟩;have kA:Ks (Gu a a) (a.pl false).kr:=Sa.ks fa λn h=>.inl h;rw[gZ];generalize (a.pl false).kr=A at *;generalize out (Gu a a) kp=ns at *;unfold krD kFoF;walk_at "";refine⟨λi δ=>∃(l:Zi) (x y:Sl),δ=[.dat a.D,.dat (.lst (kp.map D.str)),.own ta (.lst l),.dat (.lst (ns.map D.str)),x,y]/\l.length=i,⟨[],_,_,rfl,rfl⟩,?_,?_⟩
 ·rintro i d δ hd ⟨l,x,y,rfl,hl⟩;obtain⟨c,hc,rfl⟩:=mM hd;have aa:=G9 hc;have ab:=(GZ.mp hc).1;have a4:=kA.l4;rw[hF];show cB _ _ _ _;refine bX λK4 hK4=>?_;walk_at "";refine⟨Gu a a,c,ns,rfl,kA.fit1 aa,ol,?_⟩;rw[ml];walk_at "";have sl:=uW (kA.l3 c aa) ns;unfold jw;walk_at "";refine⟨by rw[GN];omega,λd=>match d with | .tup (x::_)=>some x | _=>none,λx hx=>?_,?_⟩
  ·obtain⟨w,hw,rfl⟩:=GR.mp hx;rfl
  rw[aL _ (smD (Gu a a) c) (λw=>GF (Gx (Gu a a) c w)) _ (by intro _ _;rfl),hK4];walk_at "";generalize (Gr c ns).map (λw=>GF (Gx (Gu a a) c w))=L;refine dI (λz=>?_) λz=>?_
  ·cases L with
   | nil=>exact absurd rfl z
   | cons x L =>
    refine⟨"both",x,L,rfl,λd=>?_⟩;walk_at "";exact⟨by omega,by rw[GV,hl];rfl⟩
  ·refine⟨"both",_,[],rfl,λd=>?_⟩;walk_at "";exact⟨by omega,by rw[GV,hl];rfl⟩
 ·rintro δ ⟨l,x,y,rfl,hl⟩;rw[hN,hK3];walk_at ""
  cases l with
  | nil=>exact absurd (HR (by simpa using hl.symm)) kA.ne
  | cons x l=>exact⟨"either",x,l,rfl,q fa⟩
def inn(nm kp:Zb):Zb:=nm.filter λn=>decide (n∈kp)
def knw(pk:Zb)(pv:Za)(ks:Zb):Za:=ks.map λn=>(pT pk pv n,pB pk pv n)
structure mW(pk:Zb)(pv:Za):Prop where
 P:Pt pk pv 3
 one:∀p∈pv,p.2=1
theorem mW.at{pk:Zb}{pv:Za}(h:mW pk pv){n:Str}(hn:n∈pk):pB pk pv n=1:=h.one _ (h.P.at hn).2
theorem bot1{q:Str->Int}:∀ {l:Zb},(∀n∈l,q n=1)->bot q l=1
 | [],_=>rfl
 | n::l,h=>by show q n*bot q l=1;rw[h n (GT ..),bot1 λk hk=>h k (GP _ hk)];rfl
theorem C0{pk:Zb}{pv:Za}{ks:Zb}{n:Str}(h:n∈ks):pB ks (knw pk pv ks) n=pB pk pv n:=by unfold knw;show (sy ks _ n).2=_;unfold sy;rw[cY _ h];rfl
theorem mW.st{pk:Zb}{pv:Za}(h:mW pk pv){ks l:Zb}(hk:∀n∈ks,n∈pk)(hl:l.length<=3):St l ks (knw pk pv ks) 1 3:=by
 refine⟨⟨GN _,λp hp=>?_,λp hp=>?_,λp hp=>?_⟩,?_,fit3 hl⟩
 ·obtain⟨n,hn,rfl⟩:=GR.mp hp;exact h.P.low _ (h.P.at (hk n hn)).2
 ·obtain⟨n,hn,rfl⟩:=GR.mp hp;exact h.P.b1 _ (h.P.at (hk n hn)).2
 ·obtain⟨n,hn,rfl⟩:=GR.mp hp;exact h.P.b2 _ (h.P.at (hk n hn)).2
 ·rw[bot1 λn hn=>by rw[C0 hn];exact h.at (hk n hn)];decide
def qk:FE:=λds R RE=>∃(a:Gh) (kp pk:Zb) (pv:Za),ds=[a.D,.lst (kp.map D.str),.fd pk (pv.map Gq)]/\Sy a/\kp.length<=60/\mW pk pv/\(¬ (a.pl false).few->RE "TooMany" "saying" a.D)/\((a.pl false).few ->
 (∀n,(Gu a a).find? (λn=>decide (n∈kp/\n∉pk))=some n->RE "NoName" "name" (.str n))/\((Gu a a).find? (λn=>decide (n∈kp/\n∉pk))=none->∀d,R d))
theorem mz:∀ds R RE,qk ds R RE->ds.length=3:=λ_ _ _ ⟨_,_,_,_,e,_⟩=>by rw[e];rfl
theorem cC:ay ["saying","names","point","told","others","known","name","case","steps"] ["saying","names","point"] (am s_filled):=by walk_at "sc"
theorem rO(Z:Zz):Z.E 65 "filled" ["saying","names","point"] qk:=by
 refine ye Z.x37 cC mz λfa cdv A outer s H E ds R RE hr h=>?_;have hU:=hr.units;refine⟨_,(ae (dm 3 cC.nd (bD Z) (rm hr) rfl (ac (ap 0) af)) (ae (cJ 4 cC.nd af) (ae (iE 5 cC.nd) (ae (aY (cy ⟨rfl,rfl⟩) rfl (au (cc Z) (rm hr) rfl (ac (ap 0) af)) (ar 6 cC.nd) (ag (aK (aC (jZ hU) (ap 6) (ap 1) rfl) (ag (a8 4 (ap 6))) (ag (aK (aC (FL hU) (ap 6) (ap 2) rfl) (ag (fR 5 hU (fK hU (ap 2) (ap 6) (λ_ _=>rfl)) (ap 6))) (ag (ds_x Z.er.n (rm hr) rfl (ap 6)))))))) (a6 4 (a6 5 (ae (aY (cy ⟨rfl,rfl⟩) rfl (ap 3) (ar 7 cC.nd) (ae (aD 8 cC.nd (au (cu Z) (rm hr) rfl (ac (ap 7) (ac (ap 4) af)))) (ag (aK (bZ (bg (C7 rfl) rfl Z.x59 Eg (ac (DE.nox (bR ["row","weights"] [(5,"known")] rfl rfl (by decide +kernel) rfl (by decide +kernel) (bE ⟨rfl,trivial⟩) (λ_=>bO rfl) (aU ⟨⟨rfl,rfl,.inl rfl⟩,trivial⟩) (cR (Gn 8)) λ_ _ _ _ _=>⟨(bV (n:=2) rfl (aE (ar 0 (show List.Nodup (["row","weights","known"]:Zb) by decide +kernel)) (aE (ar 1 (show List.Nodup (["row","weights","known"]:Zb) by decide +kernel)) a5))),c7,(au (ik Z) (rm hr) rfl (ac (ap 0) (ac (ap 2) af)))⟩)) af))) (ag (ax (au (d9 Z) (rm hr) rfl (ac (ap 8) (ac (ap 4) (ac (ap 5) af)))))) aA)))) (ag (ax cF))))))))),?_⟩;obtain⟨a,kp,pk,pv,rfl,Sa,hk,W,q1,q⟩:=h;have da:=Sa.dep;have pt:=W.P;refine ak λK1 hK1=>?_;walk_at "";refine⟨a,S3,rfl,by omega,Sa.ok,by decide,λfa=>?_,q1⟩;have kA:Ks (Gu a a) (a.pl false).kr:=Sa.ks fa λn h=>.inl h;obtain⟨qn,q⟩:=q fa;rw[gZ];walk_at "";rw[hK1];refine ak λK2 hK2=>?_;walk_at "";intro oa;walk_at "";rw[hK2];refine ak λK3 hK3=>?_;walk_at ""
 intro ka;walk_at "";rw[hK3];refine ak λK4 hK4=>?_;refine bh λF N hF hN=>?_;walk_at "";refine⟨S3,a,rfl,by omega,Sa.ok,by decide,λss nds hms hs=>?_⟩;have es:ss=Gu a a:=ma hs nds gl dE λn=>by rw[hms n,dh Sa Sa,or_self]
 subst es;have nl:=mD (a:=a) (b:=a);have ah:=dE (a:=a) (b:=a);have fit:=λ{c} hc=>kA.fit1 (c:=c) hc;have hS:∀n∈Gu a a,n.length<=100:=λn hn=>(show ∀n∈S3,n.length<=100 by decide +kernel) n (G1.mp hn).1;generalize Gu a a=ss at *;walk_at "";refine⟨λi δ=>∃x y z,δ=[.dat a.D,.dat (.lst (kp.map D.str)),.dat (.fd pk (pv.map Gq)),.dat (krD (a.pl false).kr),.own oa (.lst ((out (ss.take i) kp).map D.str)),.own ka (.dct (inn (ss.take i) kp) ((knw pk pv (inn (ss.take i) kp)).map Gq)),x,y,z]/\∀n∈ss.take i,¬ (n∈kp/\n∉pk),⟨_,_,_,rfl,λn h=>(nomatch h)⟩,?_,?_⟩
 ·rintro i d δ hd ⟨x,y,z,rfl,hin⟩;obtain⟨n,hn,rfl⟩:=fC hd;have aj:=G9 hn;have an:=(GZ.mp hn).1;have ab:¬ (n∈kp/\n∉pk)->∀m∈ss.take (i+1),¬ (m∈kp/\m∉pk):=λh m hm=>by
   rw[aI hn] at hm
   rcases Hb.mp hm with z | z
   ·exact hin m z
   ·rw[GX.mp z];exact h
  rw[hF];show cB _ _ _ _;walk_at "";refine⟨kp,rfl,dI (λh1=>?_) λh1=>?_⟩
  ·have e1:out (ss.take (i+1)) kp=out (ss.take i) kp++[n]:=by unfold out;rw[aI hn,IU];simp[h1]
   have e2:inn (ss.take (i+1)) kp=inn (ss.take i) kp:=by unfold inn;rw[aI hn,IU];simp[h1]
   rw[e1,e2,Hg];exact⟨by rw[GN];exact Jl (HW ..) (by rw[HP];omega),rfl,rfl,rfl,ab λz=>h1 z.1⟩
  ·have h1:n∈kp:=Decidable.not_not.mp h1
   have e1:out (ss.take (i+1)) kp=out (ss.take i) kp:=by unfold out;rw[aI hn,IU];simp[h1]
   have e2:inn (ss.take (i+1)) kp=inn (ss.take i) kp++[n]:=by unfold inn;rw[aI hn,IU];simp[h1]
   have nn:n∉inn (ss.take i) kp:=λz=>by
    have z:=(G1.mp z).1
    have nd:=ah
    rw[<- IV (i+1) ss,aI hn] at nd;exact(Iw.mp (Iw.mp nd).1).2.2 n z n (GX.mpr rfl) rfl
   refine dI (λhp=>?_) λhp=>⟨hS n aj,qn n (iS hn (λm hm=>HA (hin m hm)) (HJ ⟨h1,hp⟩))⟩;refine⟨_,pt.D hp,Jl (HW ..) (by rw[HP];omega),by rw[e1],by rw[e2,gK nn],?_,ab λz=>z.2 hp⟩;rw[e2,gS nn];unfold knw;rw[Hg,Hg];rfl
 ·rintro δ ⟨x,y,z,rfl,hin⟩;rw[GN,Ht] at hin ⊢;rw[hN,hK4];walk_at "";have q:=q (Kq.mpr λn hn z=>hin n hn (Ip z));have ol:(out ss kp).length<=3:=GS (HW ..) nl;have kl:(inn ss kp).length<=3:=GS (HW ..) nl;have al:∀n∈inn ss kp,n∈pk:=λn hn=>by
   obtain⟨h1,h2⟩:=G1.mp hn;exact G2 λz=>hin n h1 ⟨Ip h2,z⟩
  have kn:St (out ss kp) (inn ss kp) (knw pk pv (inn ss kp)) 1 3:=W.st al ol
  have ai:∀n∈ss,n∈inn ss kp\/n∈out ss kp:=λn hn=>(Classical.em (n∈kp)).elim (λz=>.inl (G1.mpr ⟨hn,HJ z⟩)) λz=>.inr (G1.mpr ⟨hn,HJ z⟩)
  have nd:(inn ss kp++out ss kp).Nodup:=Iw.mpr ⟨ah.filter _,ah.filter _,λx hx y hy z=>by rw[<- z] at hy;exact Ip (G1.mp hy).2 (Ip (G1.mp hx).2)⟩
  generalize (a.pl false).kr=A at *
  generalize inn ss kp=ks at *
  generalize knw pk pv ks=ps at *
  generalize out ss kp=ns at *
  refine bh λF2 N2 hF2 hN2=>?_;unfold krD;walk_at "";simp only[cO];walk_at "";refine⟨λi δ=>∃x y z,δ=[.dat a.D,.dat (.lst (kp.map D.str)),.dat (.fd pk (pv.map Gq)),.dat (.lst (A.map λc=>.lst (c.map GF))),.dat (.lst (ns.map D.str)),.dat (.dct ks (ps.map Gq)),x,y,z],⟨_,_,_,rfl⟩,?_,?_⟩
  ·rintro i d δ hd ⟨x,y,z,rfl⟩;obtain⟨c,hc,rfl⟩:=mM hd;have aa:=G9 hc;rw[hF2];show cB _ _ _ _;refine bX λK5 hK5=>?_;walk_at "";refine⟨ss,c,ns,rfl,fit aa,ol,?_⟩;walk_at "";rw[hK5];rw[ml];walk_at "";rw[<- ml];have sl:=uW (kA.l3 c aa) ns;unfold jw;walk_at "";refine⟨by rw[GN];omega,λd=>match d with | .tup [_,.tup ws]=>some (.bl ((md (Gx ss c (ws.map unI))).tv (pT ks ps) (pB ks ps))) | _=>none,λx hx=>?_,(Gr c ns).map (λw=>(md (Gx ss c w)).tv (pT ks ps) (pB ks ps)),?_,?_⟩
   ·obtain⟨w,hw,rfl⟩:=GR.mp hx;refine yQ (fit aa) ol ai kn.P (by decide) (GS kn.hκ (by decide)) hw ⟨rfl,?_⟩;show some (D.bl ((md (Gx ss c ((w.map D.int).map unI))).tv _ _))=_;rw[iD]
   ·rw[aL _ (smD ss c) (λw=>D.bl ((md (Gx ss c w)).tv (pT ks ps) (pB ks ps))) _ (by intro w _;show some (D.bl ((md (Gx ss c ((w.map D.int).map unI))).tv _ _))=_;rw[iD]),HK];rfl
   refine dI (λh1=>?_) λh1=>?_
   ·exact⟨ss,c,ns,ks,ps,1,3,rfl,fit aa,ol,by omega,nd,ai,kn,q⟩
   ·exact⟨_,rfl⟩
  ·rintro δ ⟨x,y,z,rfl⟩;rw[hN2];walk_at "";exact q _
structure Po(p:Pc):Prop where
 l:Ce 900000 3990 p.1.1
 h:Ce 900000 3990 p.2.1
def pcD(p:Pc):D:=.tup [oD p.1.1,.bl p.1.2,oD p.2.1,.bl p.2.2]
inductive sY(ds:Zi)(R:D->Prop):Prop
 | mk (a b:En2) (lo:Bool) (hh:ds=[nk a,nk b,.bl lo]/\Ce 900000 3990 a.1/\Ce 900000 3990 b.1/\∀e:En2,Ce 900000 3990 e.1->R (nk e))
theorem oz:∀ds R,sY ds R->ds.length=3:=λ_ _ ⟨_,_,_,e,_⟩=>by rw[e];rfl
theorem wc:ay ["one","other","is_low"] ["one","other","is_low"] (am s_wider):=by walk_at "sc"
theorem lJ(Z:Zz):Z.C 2 "wider" ["one","other","is_low"] (Gy Z.K sY):=by
 refine cU Z.x38 wc oz λfa cdv A outer s H E ds R hr h=>?_;have hU:=hr.units;refine⟨_,(ae (aK (DW.dt (kL (aC sB (Gn 0) cF (aB _)) (f6 (aC sB (Gn 1) cF (aB _))))) (ag (ax (mT rfl Z.g_ENDLESS))) aA) (ae (aK (aC (rj hU) (Gn 0) (Gn 1) (aB _)) (ag (ax (aN (ac (Gn 0) (ac (zy (Gn 0) (iJ (Gn 1))) af))))) aA) (ag (ax (og (aC (rj hU) (au (gV Z) (rm hr) rfl (ac (Gn 0) (ac (Gn 1) af))) (ap 2) (aB _)) (ap 0) (ap 1)))))),?_⟩;obtain⟨⟨a,ab⟩,⟨b,bb⟩,lo,rfl,ha,hb,q⟩:=h;have qn:R (.tup [.non,.bl false]):=q (none,false) λ_ z=>nomatch z;unfold nk;refine ak λK1 h1=>?_
 cases a with
 | none =>
  unfold oD;walk_at "";exact qn
 | some p =>
  have qa:∀z:Bool,R (.tup [.tup [.int p.1,.int p.2],.bl z]):=λz=>q (some p,z) ha
  rw[show oD ((some p,ab):En2).1=.tup [.int p.1,.int p.2] from rfl];walk_at ""
  cases b with
  | none =>
   unfold oD;walk_at "";exact qn
  | some r =>
   have qb:R (.tup [.tup [.int r.1,.int r.2],.bl bb]):=q (some r,bb) hb
   obtain⟨_,p1,p2⟩:=ha p rfl;obtain⟨_,r1,r2⟩:=hb r rfl;rw[show oD (some r)=.tup [.int r.1,.int r.2] from rfl];walk_at "";rw[h1];refine ak λK3 h3=>?_;walk_at "";refine dI (λe=>?_) λe=>?_
   ·cases ab with
    | true=>exact Gw rfl (qa true)
    | false=>exact GG GW (qa bb)
   ·rw[h3];walk_at "";refine⟨p,r,rfl,by omega,by omega,by omega,by omega,?_⟩;walk_at "";exact dI (λe=>qa ab) λe=>qb
inductive f8(ds:Zi)(R:D->Prop):Prop
 | mk (a b:Pc) (hh:ds=[pcD a,pcD b]/\Po a/\Po b/\∀z:Bool,R (.bl z))
theorem gA:∀ds R,f8 ds R->ds.length=2:=λ_ _ ⟨_,_,e,_⟩=>by rw[e];rfl
theorem lm:ay ["one","other"] ["one","other"] (am s_lies_below):=by walk_at "sc"
theorem d7(Z:Zz):Z.C 2 "lies_below" ["one","other"] (Gy Z.K f8):=by
 refine cU Z.x39 lm gA λfa cdv A outer s H E ds R hr h=>?_;have hU:=hr.units;refine⟨_,(ae (aK (DW.dt (kL (aC sB (Gn 0) cF (aB _)) (f6 (aC sB (Gn 1) cF (aB _))))) (ag (ax gz)) aA) (ae (aK (aC (rj hU) (Gn 0) (Gn 1) (aB _)) (ag (ax (pA (mw (Gn 0)) (iJ (mw (Gn 1)))))) aA) (ag (ax (au (gV Z) (rm hr) rfl (ac (Gn 0) (ac (Gn 1) af))))))),?_⟩;obtain⟨⟨a0,a,ab⟩,⟨⟨b,bb⟩,b0⟩,rfl,ha,hb,q⟩:=h;unfold pcD;refine ak λK1 h1=>?_
 cases a with
 | none =>
  rw[show oD none=.non from rfl];walk_at "";exact q _
 | some p =>
  rw[show oD (some p)=.tup [.int p.1,.int p.2] from rfl];walk_at ""
  cases b with
  | none =>
   rw[show oD none=.non from rfl];walk_at "";exact q _
  | some r =>
   obtain⟨_,p1,p2⟩:=ha.h p rfl;obtain⟨_,r1,r2⟩:=hb.l r rfl;rw[show oD (some r)=.tup [.int r.1,.int r.2] from rfl];walk_at "";rw[h1];refine ak λK3 h3=>?_;walk_at "";refine dI (λe=>?_) λe=>?_
   ·cases ab with
    | true=>exact GG (by decide) (q _)
    | false=>exact Gw rfl (q _)
   ·rw[h3];walk_at "";exact⟨p,r,rfl,by omega,by omega,by omega,by omega,q _⟩
inductive qi(ds:Zi)(R:D->Prop):Prop
 | mk (L:List Pc) (P:Pc) (hh:ds=[.lst (L.map pcD),pcD P]/\(∀p∈L,Po p)/\Po P/\L.length<=60/\∀M:List Pc,(∀p∈M,Po p)->M.length<=L.length+1->R (.lst (M.map pcD)))
theorem mr:∀ds R,qi ds R->ds.length=2:=λ_ _ ⟨_,_,e,_⟩=>by rw[e];rfl
theorem zt{L:List Pc}{i:Nat}{d:D}(h:(L.map pcD)[i]?=some d):∃p,L[i]?=some p/\d=pcD p:=by
 rw[G6] at h
 cases e:L[i]? with
 | none=>rw[e] at h;cases h
 | some p=>rw[e] at h;cases h;exact⟨p,rfl,rfl⟩
theorem Em{p:Pc}{R:D->Prop}(h:R (nk p.1)):fSlT (pcD p) none (some 2) R:=h
theorem El{p:Pc}{R:D->Prop}(h:R (nk p.2)):fSlT (pcD p) (some 2) none R:=h
theorem oh{M:List Pc}{p:Pc}(h:∀p∈M,Po p)(hp:Po p):∀q∈M++[p],Po q:=λq hq=>(Hb.mp hq).elim (h q) λz=>by rw[GX.mp z];exact hp
theorem cS:ay ["pieces","piece","below","above","grown","held"] ["pieces","piece"] (am s_put_in):=by walk_at "sc"
theorem rJ(Z:Zz):Z.C 3 "put_in" ["pieces","piece"] (Gy Z.K qi):=by
 refine cU Z.x40 cS mr λfa cdv A outer s H E ds R hr h=>?_;have hU:=hr.units;refine⟨_,(ae (cJ 2 cS.nd af) (ae (cJ 3 cS.nd af) (ae (aD 4 cS.nd (ap 1)) (ae (aY Hj rfl (ap 0) (ar 5 cS.nd) (ag (aK (bZ (au (d7 Z) (rm hr) rfl (ac (ap 5) (ac (ap 1) af)))) (ag (a8 2 (ap 5))) (ag (aK (bZ (au (d7 Z) (rm hr) rfl (ac (ap 1) (ac (ap 5) af)))) (ag (a8 3 (ap 5))) (ag (aD 4 cS.nd (aJ bC (au (lJ Z) (rm hr) rfl (ac (pO (ap 4) cN (cM av)) (ac (pO (ap 5) cN (cM av)) (ac gz af)))) (au (lJ Z) (rm hr) rfl (ac (pO (ap 4) (cM av) cN) (ac (pO (ap 5) (cM av) cN) (ac gz af)))))))))))) (a6 2 (a6 3 (ag (ax (aJ bC (aJ bC (ap 2) (aO (ac (ap 4) af))) (ap 3)))))))))),?_⟩;obtain⟨L,P,rfl,hL,hP,ab,q⟩:=h;refine ak λK1 hK1=>?_;walk_at "";intro ba;rw[hK1];refine ak λK2 hK2=>?_;walk_at "";intro aa;rw[hK2];refine ak λK3 hK3=>?_;walk_at "";rw[hK3];refine ak λK4 hK4=>?_;refine bh λF N hF hN=>?_;walk_at "";refine⟨λi δ=>∃(M1 M2:List Pc) (g:Pc) (x:Sl),δ=[.dat (.lst (L.map pcD)),.dat (pcD P),.own ba (.lst (M1.map pcD)),.own aa (.lst (M2.map pcD)),.dat (pcD g),x]/\(∀p∈M1,Po p)/\(∀p∈M2,Po p)/\Po g/\M1.length+M2.length<=i,⟨[],[],P,_,rfl,(λ_ h=>nomatch h),(λ_ h=>nomatch h),hP,by decide⟩,?_,?_⟩
 ·rintro i d δ hd ⟨M1,M2,g,x,rfl,m1,m2,gok,hi⟩;obtain⟨h,hh,rfl⟩:=zt hd;have hm:=G9 hh;have ah:=(GZ.mp hh).1;have ok:=hL h hm;rw[hF];walk_at "";refine⟨h,P,rfl,ok,hP,λk1=>?_⟩;walk_at ""
  cases k1 with
  | true =>
   walk_at "";exact⟨by rw[GN];omega,M1++[h],by rw[Hg];rfl,M2,rfl,g,rfl,oh m1 ok,m2,gok,by rw[GV,IS];omega⟩
  | false =>
   walk_at "";refine⟨P,h,rfl,hP,ok,λk2=>?_⟩;walk_at ""
   cases k2 with
   | true =>
    walk_at "";exact⟨by rw[GN];omega,M1,rfl,M2++[h],by rw[Hg];rfl,g,rfl,m1,oh m2 ok,gok,by rw[GV,IS];omega⟩
   | false =>
    walk_at "";refine Em (Em ⟨g.1,h.1,true,rfl,gok.l,ok.l,λe1 o1=>?_⟩);walk_at "";refine El (El ⟨g.2,h.2,false,rfl,gok.h,ok.h,λe2 o2=>?_⟩);walk_at "";unfold nk;walk_at "";exact⟨M1,rfl,M2,rfl,(e1,e2),rfl,m1,m2,⟨o1,o2⟩,by omega⟩
 ·rintro δ ⟨M1,M2,g,x,rfl,m1,m2,gok,hi⟩;rw[GN] at hi;rw[hN,hK4];walk_at "";have e:M1.map pcD++[pcD g]++M2.map pcD=(M1++[g]++M2).map pcD:=by rw[Hg,Hg];rfl
  rw[e];refine⟨by rw[GN];omega,by simp only[List.length_append,List.length_map,List.length_singleton];omega,q _ (λp hp=>(Hb.mp hp).elim (oh m1 gok p) (m2 p)) (by simp only[List.length_append,List.length_singleton];omega)⟩
def oth(nm:Zb)(n:Str):Zb:=nm.filter λk=>decide (k≠n)
def ly:FE:=λds R RE=>∃(a:Gh) (n:Str),ds=[a.D,.str n]/\Sy a/\n∈S3/\(¬ (a.pl false).few->RE "TooMany" "saying" a.D)/\((a.pl false).few->∀d,R d)
theorem kz:∀ds R RE,ly ds R RE->ds.length=2:=λ_ _ _ ⟨_,_,e,_⟩=>by rw[e];rfl
theorem cx:ay ["saying","name","names","told","case","steps"] ["saying","name"] (am s_stretch):=by walk_at "sc"
theorem nC(Z:Zz):Z.E 65 "stretch" ["saying","name"] ly:=by
 refine ye Z.x41 cx kz λfa cdv A outer s H E ds R RE hr h=>?_;have hU:=hr.units;refine⟨_,(ae (aD 2 cx.nd (aJ bC (aO (ac (ap 1) af)) (DE.nox (bR ["other"] [(1,"name")] rfl rfl (by decide +kernel) rfl (by decide +kernel) (bE ⟨rfl,trivial⟩) (λ_=>bO rfl) (aU ⟨⟨rfl,rfl,.inl rfl⟩,trivial⟩) (cR (au (cc Z) (rm hr) rfl (ac (ap 0) af))) λ_ _ _ _ _=>⟨(ar 0 (show List.Nodup (["other","name"]:Zb) by decide +kernel)),(f9 (aC (jk hU) (ap 0) (ap 1) (aB _))),(ap 0)⟩)))) (ae (aD 3 cx.nd (aO af)) (ae (sQ (cy ⟨rfl,rfl⟩) rfl (bD Z) (rm hr) rfl (ac (ap 0) af) (ar 4 cx.nd) (ae (aD 5 cx.nd (au (cu Z) (rm hr) rfl (ac (ap 4) (ac (ap 2) af)))) (ag (aK (bZ (bg (C7 rfl) rfl Z.x59 Eg (ac (DE.nox (bR ["row","weights"] [] rfl rfl (by decide +kernel) rfl (by decide +kernel) (bE trivial) (λ_=>bO rfl) (aU trivial) (cR (Gn 5)) λ_ _ _ _ _=>⟨(bV (n:=2) rfl (aE (ar 0 (show List.Nodup (["row","weights"]:Zb) by decide +kernel)) (aE (ar 1 (show List.Nodup (["row","weights"]:Zb) by decide +kernel)) a5))),c7,(au (ik Z) (rm hr) rfl (ac (ap 0) (ac eX af)))⟩)) af))) (ag (aD 3 cx.nd (au (rJ Z) (rm hr) rfl (ac (ap 3) (ac (au (fi Z) (rm hr) rfl (ac (ap 1) (ac (Gn 5) (ac eX af)))) af))))) aA)))) (ag (ax (ap 3)))))),?_⟩;obtain⟨a,n,rfl,Sa,hn,q1,q⟩:=h;have da:=Sa.dep;refine ak λK1 hK1=>?_;walk_at "";refine⟨S3,a,rfl,by omega,Sa.ok,by decide,λss nds hms hs=>?_⟩;have es:ss=Gu a a:=ma hs nds gl dE λn=>by rw[hms n,dh Sa Sa,or_self]
 subst es;have nl:=mD (a:=a) (b:=a);walk_at "";refine⟨by rw[GN];omega,λd=>match d with | .str k=>if k≠n then some (.str k) else none | _=>none,λx hx=>?_,?_⟩
 ·obtain⟨k,hk,rfl⟩:=GR.mp hx;walk_at "";exact dI (λz=>Hc z) λz=>Ha z
 rw[oE];have n1:n∉oth (Gu a a) n:=λz=>(show n≠n from Ip (G1.mp z).2) rfl;have n2:∀k∈n::oth (Gu a a) n,k∈S3:=λk hk=>(GY.mp hk).elim (λz=>by rw[z];exact hn) λz=>(G1.mp (G1.mp z).1).1;have l3:(n::oth (Gu a a) n).length<=3:=jp (Ib.mpr ⟨n1,dE.filter _⟩) n2;have l2:(oth (Gu a a) n).length<=3:=by rw[G0] at l3;omega
 refine⟨by rw[GN];exact GS (Nat.add_le_add_left (show (oth (Gu a a) n).length<=8999 by omega) 1) (by decide),?_⟩;show K1 [.dat a.D,.dat (.str n),.dat (.lst ((n::oth (Gu a a) n).map D.str)),.no,.no,.no];rw[hK1];refine ak λK2 hK2=>?_;walk_at "";rw[hK2];refine ak λK3 hK3=>?_;refine pF λF N hF hN=>?_;unfold tM;walk_at "";refine⟨a,S3,rfl,by omega,Sa.ok,by decide,λfa=>?_,q1⟩;have kA:Ks (Gu a a) (a.pl false).kr:=Sa.ks fa λn h=>.inl h;have fit:=λ{c} hc=>kA.fit1 (c:=c) hc;have ab:∀k∈Gu a a,k∈([]:Zb)\/k∈n::oth (Gu a a) n:=λk hk=>.inr (GY.mpr ((Classical.em (k=n)).imp id λe=>G1.mpr ⟨hk,HJ e⟩));rw[gZ];generalize (a.pl false).kr=A at *;have a4:=kA.l4;generalize Gu a a=ss at *;unfold krD kFoF;walk_at "";refine⟨λi δ=>∃(L:List Pc) (x y:Sl),δ=[.dat a.D,.dat (.str n),.dat (.lst ((n::oth ss n).map D.str)),.dat (.lst (L.map pcD)),x,y]/\(∀p∈L,Po p)/\L.length<=i,⟨[],_,_,rfl,(λ_ h=>nomatch h),by decide⟩,?_,?_⟩
 ·rintro i d δ hd ⟨L,x,y,rfl,ok,hL⟩;obtain⟨c,hc,rfl⟩:=mM hd;have aa:=G9 hc;have ah:=(GZ.mp hc).1;rw[hF];show cB _ _ _ _;refine bX λK4 hK4=>?_;walk_at "";refine⟨ss,c,n::oth ss n,rfl,fit aa,l3,?_⟩;walk_at "";rw[hK4];have e0:(rD c (n::oth ss n)).map (jw ss c)=jw ss c (Gr c (n::oth ss n))::jw ss c (Gr c (oth ss n))::((rD c (oth ss n)).drop 1).map (jw ss c):=by cases oth ss n<;>rfl
  rw[e0];have sl:=uW (kA.l3 c aa) (n::oth ss n);unfold jw;walk_at "";refine⟨by rw[GN];omega,λd=>match d with | .tup [_,.tup ws]=>some (.bl ((md (Gx ss c (ws.map unI))).tv (pT [] []) (pB [] []))) | _=>none,λx hx=>?_,(Gr c (n::oth ss n)).map (λw=>(md (Gx ss c w)).tv (pT [] []) (pB [] [])),?_,?_⟩
  ·obtain⟨w,hw,rfl⟩:=GR.mp hx;refine yQ (fit aa) l3 ab pt0 (by decide) (by show ib 1<=_;decide) hw ⟨rfl,?_⟩;show some (D.bl ((md (Gx ss c ((w.map D.int).map unI))).tv _ _))=_;rw[iD]
  ·rw[aL _ (smD ss c) (λw=>D.bl ((md (Gx ss c w)).tv (pT [] []) (pB [] []))) _ (by intro w _;show some (D.bl ((md (Gx ss c ((w.map D.int).map unI))).tv _ _))=_;rw[iD]),HK];rfl
  refine dI (λh1=>?_) λh1=>?_
  ·refine⟨ss,c,[],[],n,Gr c (oth ss n),1,0,rfl,(fit aa).pcs l2 (by decide) (λk hk=>(ab k hk).imp id GY.mp) pt0 (by show ib 1<=1;decide) (by decide) (by decide),λlo hi pl ph=>?_⟩;walk_at "";have up:∀ {o:Option (Int×Int)},Ce (0+1+170) (95+1) o->Ce 900000 3990 o:=λh p e=>⟨(h p e).low,GS (h p e).t (by decide),GS (h p e).b (by decide)⟩;refine⟨L,(lo,hi),rfl,ok,⟨up pl,up ph⟩,by omega,λM m1 m2=>?_⟩;walk_at "";exact⟨M,rfl,m1,by omega⟩
  ·exact⟨L,rfl,ok,by omega⟩
 ·rintro δ ⟨L,x,y,rfl,ok,hL⟩;rw[hN,hK3];walk_at "";exact q fa _
theorem cnz{i j:Int}(h:j≠0):CNz i j:=h
theorem eN{i j:Int}(h0:j≠0)(h:j.natAbs.log2<9000):CFd i j:=⟨h0,h⟩
theorem md4(c:Int):c.fmod 4=0\/c.fmod 4=1\/c.fmod 4=2\/c.fmod 4=3:=by rw[Jy c (by decide)];omega
theorem md3(c:Int):c.fmod 3=0\/c.fmod 3=1\/c.fmod 3=2:=by rw[Jy c (by decide)];omega
theorem md2(c:Int):c.fmod 2=0\/c.fmod 2=1:=by rw[Jy c (by decide)];omega
theorem mdr(c:Int){m:Int}(h:0<m):0<=c.fmod m/\c.fmod m<m:=⟨Jg c h,JS c h⟩
theorem AT{x:Int}(h1:-15<=x)(h2:x<=15):ib x<=4:=by
 have:∀n:Nat,n<=15->ib (n:Int)<=4/\ib (-(n:Int))<=4:=by decide
 by_cases h:0<=x
 ·have:=(this x.toNat (by omega)).1
  rwa [IN h] at this
 ·have:=(this (-x).toNat (by omega)).2
  rwa [IN (by omega),Int.neg_neg] at this
inductive jI(ds:Zi)(R:D->Prop):Prop
 | mk (c:Int) (hh:ds=[.int c]/\∀k ts b,Sy (.row k ts b)->R (Gh.row k ts b).D)
theorem jy:∀ds R,jI ds R->ds.length=1:=λ_ _ ⟨_,e,_⟩=>by rw[e];rfl
theorem eJ:ay ["_law_cell","_law_names_here","_law_terms"] ["_law_cell"] (am s__law_row):=by walk_at "sc"
set_option maxRecDepth 100000 in seal L2.PE L2.PS L2.PSs L2.PA L2.PT in
theorem gd(Z:Zz):Z.C 1 "_law_row" ["_law_cell"] (Gy Z.K jI):=by
 refine cU Z.x42 eJ jy λfa cdv A outer s H E ds R hr h=>?_;have hU:=hr.units;refine⟨_,(ae (aD 1 eJ.nd (mn lM (aO (ac (aO (ac aG af)) (ac (aO (ac aG af)) (ac (aO (ac aG (ac aG af))) (ac (aO (ac aG (ac aG (ac aG af)))) af))))) (aJ eS (ap 0) av) (λ_ _=>rfl))) (ae (aD 2 eJ.nd (dG jf rfl Z.x51 eK (ac (bR ["_law_name"] [(0,"_law_cell")] rfl rfl (by decide +kernel) rfl (by decide +kernel) (bE ⟨rfl,trivial⟩) (λ_=>bO rfl) (aU ⟨⟨rfl,rfl,.inl rfl⟩,trivial⟩) (cR (ap 1)) λ_ _ _ _ _=>⟨(ar 0 (show List.Nodup (["_law_name","_law_cell"]:Zb) by decide +kernel)),c7,(aN (ac (ap 0) (ac (aJ bC av (aJ eS (aJ bU (ap 1) av) av)) af)))⟩) af))) (ag (ax (aN (ac (mn lM (aO (ac aG (ac aG af))) (aJ eS (aJ bU (ap 0) av) av) (λ_ _=>rfl)) (ac (ap 2) (ac (aJ wS (aJ eS (aJ bU (ap 0) av) av) av) af)))))))),?_⟩;obtain⟨c,rfl,q⟩:=h;refine ak λK1 hK1=>?_;walk_at "";have hn:∃ns:Zb,Gi [D.lst [.str "a"],.lst [.str "b"],.lst [.str "a",.str "c"],.lst [.str "a",.str "b",.str "c"]] (c.fmod 4)=some (.lst (ns.map D.str))/\ns.Sublist S3:=by
  rcases md4 c with e | e | e | e<;>rw[e]
  ·exact⟨["a"],rfl,by decide +kernel⟩
  ·exact⟨["b"],rfl,by decide +kernel⟩
  ·exact⟨["a","c"],rfl,by decide +kernel⟩
  ·exact⟨["a","b","c"],rfl,by decide +kernel⟩
 obtain⟨ns,e,sub⟩:=hn;refine⟨cnz (by decide),qAt.of e ?_⟩;walk_at "";rw[hK1];refine ak λK2 hK2=>?_;walk_at "";have l3:=sub.length_le;refine⟨by rw[GN];exact GS l3 (by decide),λd=>match d with | .str n=>some (.tup [.str n,.int (1+(c.fdiv 4).fmod 3)]) | _=>none,λx hx=>?_,?_⟩
 ·obtain⟨n,_,rfl⟩:=GR.mp hx;walk_at "";exact⟨eN (by decide) (by decide),cnz (by decide)⟩
 rw[aL _ D.str (λn=>D.tup [.str n,.int (1+(c.fdiv 4).fmod 3)]) _ λ_ _=>rfl];walk_at "";rw[hK2];have hk:∃k:Kd,Gi [D.str "least",D.str "more"] ((c.fdiv 12).fmod 2)=some (.str (kdS k)):=by
  rcases md2 (c.fdiv 12) with e | e<;>rw[e]
  ·exact⟨.least,rfl⟩
  ·exact⟨.more,rfl⟩
 obtain⟨k,ek⟩:=hk;walk_at "";refine⟨eN (by decide) (by decide),cnz (by decide),qAt.of ek ?_⟩;walk_at "";refine⟨eN (by decide) (by decide),cnz (by decide),?_⟩;have w1:=mdr (c.fdiv 4) (m:=3) (by decide);have w2:=mdr (c.fdiv 24) (m:=5) (by decide);have wb:ib (1+(c.fdiv 4).fmod 3)<=4:=AT (by omega) (by omega);have bb:ib ((c.fdiv 24).fmod 5-2)<=4:=AT (by omega) (by omega);have g:=q k (ns.map λn=>(n,1+(c.fdiv 4).fmod 3)) ((c.fdiv 24).fmod 5-2) ⟨by show 1<=45;decide,⟨⟨by rw[HK];exact(show ns.map ((λx=>x.1) ∘ λn=>(n,1+(c.fdiv 4).fmod 3))=ns from Km _).symm ▸ sub,λt ht=>?_,λt ht=>?_⟩,GS bb (by decide)⟩,λt ht=>?_,bb⟩
 ·have g:R (.tup [.str (kdS k),.tup ((ns.map λn=>(n,1+(c.fdiv 4).fmod 3)).map GK),.int ((c.fdiv 24).fmod 5-2)]):=g
  rw[HK] at g;exact g
 ·obtain⟨n,_,rfl⟩:=GR.mp ht;show 1+(c.fdiv 4).fmod 3≠0;omega
 ·obtain⟨n,_,rfl⟩:=GR.mp ht;exact GS wb (by decide)
 ·obtain⟨n,_,rfl⟩:=GR.mp ht;exact wb
inductive a7(n:Nat)(ds:Zi)(R:D->Prop):Prop
 | mk (s:Gh) (t:Bool) (hh:ds=[s.D,.bl t]/\s.dep<=n/\s.dep<=10/\R (.tup [.int (s.pl (!t)).num,.int (s.pl (!t)).long]))
theorem fm(n:Nat):∀ds R,a7 n ds R->ds.length=2:=λ_ _ ⟨_,_,e,_⟩=>by rw[e];rfl
theorem eE:∀ds R,¬ a7 0 ds R:=λ_ _ ⟨s,_,_,h,_⟩=>by have:=s.dep_pos;omega
theorem qP(a b:Nat):max (a:Int) (b:Int)=((max a b:Nat):Int):=by omega
theorem mK:∀s:Gh,ib (s.num:Int)<=2 ^ s.dep
 | .row _ _ _=>by show ib 1<=2;decide
 | .nt s=>GS (by show ib 1<=1;decide) (Nat.one_le_two_pow)
 | .bo s t=>by
  have h:=HH (mK s) (mK t)
  have e1:2 ^ s.dep<=2 ^ max s.dep t.dep:=IX (by decide) (by omega)
  have e2:2 ^ t.dep<=2 ^ max s.dep t.dep:=IX (by decide) (by omega)
  show ib ((s.num*t.num:Nat):Int)<=2 ^ (max s.dep t.dep+1)
  rw[Nat.pow_succ,Int.natCast_mul];unfold ib;omega
 | .ei s t=>by
  have h:=Jf (mK s) (mK t)
  have e1:2 ^ s.dep<=2 ^ max s.dep t.dep:=IX (by decide) (by omega)
  have e2:2 ^ t.dep<=2 ^ max s.dep t.dep:=IX (by decide) (by omega)
  have e3:1<=2 ^ max s.dep t.dep:=Nat.one_le_two_pow
  show ib ((s.num+t.num:Nat):Int)<=2 ^ (max s.dep t.dep+1)
  rw[Nat.pow_succ,Int.natCast_add];unfold ib;omega
theorem vX{s:Gh}(b:Bool)(h:s.dep<=10):ib ((s.pl b).num:Int)<=1024:=GS (mK _) (IX (n:=2) (by decide) (GS Gh.pl_dep h))
theorem bn:ay ["_law_saying","_law_so","_law_one","_law_longest","_law_other","_law_longer"] ["_law_saying","_law_so"] (am s__law_counted):=by walk_at "sc"
theorem fO(Z:Zz)(cL:Z.C (1+n) "_law_counted" ["_law_saying","_law_so"] (Gy Z.K (a7 n))):Z.C (1+n+1) "_law_counted" ["_law_saying","_law_so"] (Gy Z.K (a7 (n+1))):=by
 refine cU (k:=1+n) Z.x43 bn (fm (n+1)) λfa cdv A outer s H E ds R hr h=>?_;have hU:=hr.units;refine⟨_,(ae (aK (aC (dH hU) (Gn 0) aG (aB _)) (ag (ax (au cL (hr.mono (by omega)) rfl (ac (Gn 0) (ac (mw (ap 1)) af))))) aA) (ae (aK (aC (jZ hU) (Gn 0) (aO (ac aG (ac aG af))) rfl) (ag (ax (aN (ac av (ac av af))))) aA) (ae (sL (au cL (hr.mono (by omega)) rfl (ac (Gn 0) (ac (ap 1) af))) (bV (n:=2) rfl (aE (ar 2 bn.nd) (aE (ar 3 bn.nd) a5)))) (ae (sL (au cL (hr.mono (by omega)) rfl (ac (Gn 0) (ac (ap 1) af))) (bV (n:=2) rfl (aE (ar 4 bn.nd) (aE (ar 5 bn.nd) a5)))) (ae (aK (aC (dH hU) (fw (dH hU) (Gn 0) aG (aB _)) (ap 1) (aB _)) (ag (ax (aN (ac (aJ cZ (ap 2) (ap 4)) (ac (aJ bC (ap 3) (ap 5)) af))))) aA) (ag (ax (aN (ac (aJ bC (ap 2) (ap 4)) (ac (bg (DC rfl) rfl Z.x52 Ea (ac (ap 3) (ac (ap 5) af))) af)))))))))),?_⟩;obtain⟨s,t,rfl,hd,aa,q⟩:=h
 cases s with
 | row k ts b =>
  unfold Gh.D lr;refine ak λK1 hK1=>?_;walk_at "";have k1:kdS k≠Str.ofString "not":=by cases k<;>decide
  refine GG k1 ?_;rw[hK1];refine ak λK2 hK2=>?_;walk_at "";exact⟨["both","either"],rfl,Gw (by cases k<;>decide) (by cases t<;>exact q)⟩
 | nt s =>
  have hd:s.dep+1<=n+1:=hd
  have aa:s.dep+1<=10:=aa
  obtain⟨w,hw⟩:∃w:Str,w=Str.ofString "not":=⟨_,rfl⟩;rw[show (Gh.nt s).D=.tup [.str w,s.D] by rw[hw];rfl];refine ak λK1 hK1=>?_;walk_at "";exact Gw hw ⟨s,!t,rfl,by omega,by omega,q⟩
 | bo s u =>
  have hd:max s.dep u.dep+1<=n+1:=hd
  have aa:max s.dep u.dep+1<=10:=aa
  obtain⟨w,hw⟩:∃w:Str,w=Str.ofString "both":=⟨_,rfl⟩;rw[show (Gh.bo s u).D=.tup [.str w,s.D,u.D] by rw[hw];rfl];refine ak λK1 hK1=>?_;walk_at "";refine GG (by rw[hw];decide) ?_;rw[hK1];refine ak λK2 hK2=>?_;walk_at "";refine⟨["both","either"],rfl,GG (by rw[hw];decide) ?_⟩;rw[hK2];refine ak λK3 hK3=>?_;walk_at "";refine⟨s,t,rfl,by omega,by omega,?_⟩;walk_at "";rw[hK3];refine ak λK4 hK4=>?_;walk_at "";refine⟨u,t,rfl,by omega,by omega,?_⟩;walk_at "";rw[hK4];refine ak λK5 hK5=>?_;walk_at "";rw[show decide (w=Str.ofString "both")=true from HJ hw]
  cases t with
  | true=>exact Gw rfl ⟨IntMulOk.of_le (vX false (by omega)) (vX false (by omega)) (by decide),q⟩
  | false =>
   refine GG (by decide) ?_;rw[hK5];walk_at "";rw[qP];exact q
 | ei s u =>
  have hd:max s.dep u.dep+1<=n+1:=hd
  have aa:max s.dep u.dep+1<=10:=aa
  obtain⟨w,hw⟩:∃w:Str,w=Str.ofString "either":=⟨_,rfl⟩;rw[show (Gh.ei s u).D=.tup [.str w,s.D,u.D] by rw[hw];rfl];refine ak λK1 hK1=>?_;walk_at "";refine GG (by rw[hw];decide) ?_;rw[hK1];refine ak λK2 hK2=>?_;walk_at "";refine⟨["both","either"],rfl,GG (by rw[hw];decide) ?_⟩;rw[hK2];refine ak λK3 hK3=>?_;walk_at "";refine⟨s,t,rfl,by omega,by omega,?_⟩;walk_at "";rw[hK3];refine ak λK4 hK4=>?_;walk_at "";refine⟨u,t,rfl,by omega,by omega,?_⟩;walk_at "";rw[hK4];refine ak λK5 hK5=>?_;walk_at "";rw[show decide (w=Str.ofString "both")=false by rw[hw];decide]
  cases t with
  | true =>
   refine GG (by decide) ?_;rw[hK5];walk_at "";rw[qP];exact q
  | false=>exact Gw rfl ⟨IntMulOk.of_le (vX true (by omega)) (vX true (by omega)) (by decide),q⟩
theorem gB(Z:Zz):Z.C 61 "_law_counted" ["_law_saying","_law_so"] (Gy Z.K (a7 60)):=Nat.rec (motive:=λn=>Z.C (1+n) "_law_counted" ["_law_saying","_law_so"] (Gy Z.K (a7 n))) (gO Z.x43 _ eE) (λ_=>fO Z) 60
inductive gi(ds:Zi)(R:D->Prop):Prop
 | mk (c:Int) (n:Nat) (hh:ds=[.int c,.int (n:Nat)]/\n<=7/\∀s:Gh,Sy s->s.dep<=10->R s.D)
theorem gE:∀ds R,gi ds R->ds.length=2:=λ_ _ ⟨_,_,e,_⟩=>by rw[e];rfl
theorem bx:ay ["_law_cell","_law_steps","_law_saying","_law_k","_law_beside"] ["_law_cell","_law_steps"] (am s__law_grown):=by walk_at "sc"
theorem dZ(Z:Zz):Z.C 2 "_law_grown" ["_law_cell","_law_steps"] (Gy Z.K gi):=by
 refine cU Z.x44 bx gE λfa cdv A outer s H E ds R hr h=>?_;have hU:=hr.units;refine⟨_,(ae (aD 2 bx.nd (au (gd Z) (rm hr) rfl (ac (ap 0) af))) (ae (nq Hj rfl rfl Z.x56 (ac (ap 1) af) (ar 3 bx.nd) (ae (aD 0 bx.nd (aJ bC (aJ bU (ap 0) av) (aJ cZ av (ap 3)))) (ae (aD 4 bx.nd (mn lM (aO (ac (au (gd Z) (rm hr) rfl (ac (ap 0) af)) (ac (ap 2) af))) (aJ eS (aJ bU (ap 0) av) av) (λ_ _=>rfl))) (ag (aD 2 bx.nd (mn lM (aO (ac (aN (ac aG (ac (ap 2) (ac (ap 4) af)))) (ac (aN (ac aG (ac (ap 4) (ac (ap 2) af)))) (ac (aN (ac aG (ac (ap 2) af))) af)))) (aJ eS (ap 0) av) (λ_ _=>rfl))))))) (ag (ax (ap 2))))),?_⟩;obtain⟨c,n,rfl,hn,q⟩:=h;refine ak λK1 hK1=>?_;walk_at "";refine⟨c,rfl,λk ts b y=>?_⟩;walk_at "";rw[hK1];refine ak λK2 hK2=>?_;walk_at "";simp only[wN];walk_at "";refine⟨by omega,by omega,λi δ=>∃(c:Int) (s:Gh) (x y:Sl),δ=[.dat (.int c),.dat (.int (n:Nat)),.dat s.D,x,y]/\Sy s/\s.dep<=i+1,⟨c,.row k ts b,_,_,rfl,y,by show 1<=1;decide⟩,?_,?_⟩
 ·rintro i δ hi ⟨c,s,x,z,rfl,ys,ds⟩;rw[Jv] at hi;walk_at "";refine⟨eN (by decide) (by decide),IntMulOk.of_le (show ib 3<=4 by decide) (AT (x:=(i:Int)) (by omega) (by omega)) (by decide),_,rfl,λk ts b yr=>?_⟩;generalize c.fdiv 7+3*(i:Int)=e;walk_at "";have hb:∃r:Gh,Gi [(Gh.row k ts b).D,s.D] ((e.fdiv 3).fmod 2)=some r.D/\Sy r/\r.dep<=i+1:=by
   rcases md2 (e.fdiv 3) with z | z<;>rw[z]
   ·exact⟨_,rfl,yr,by show 1<=i+1;omega⟩
   ·exact⟨s,rfl,ys,ds⟩
  obtain⟨r,er,yr,dr⟩:=hb;refine⟨eN (by decide) (by decide),cnz (by decide),qAt.of er ?_⟩;walk_at "";have hv:∃v:Gh,Gi [(Gh.bo s r).D,(Gh.ei r s).D,(Gh.nt s).D] (e.fmod 3)=some v.D/\Sy v/\v.dep<=i+1+1:=by
   rcases md3 e with z | z | z<;>rw[z]
   ·exact⟨_,rfl,⟨by show max s.dep r.dep+1<=45;omega,⟨ys.ok,yr.ok⟩,⟨ys.bt,yr.bt⟩⟩,by show max s.dep r.dep+1<=_;omega⟩
   ·exact⟨_,rfl,⟨by show max r.dep s.dep+1<=45;omega,⟨yr.ok,ys.ok⟩,⟨yr.bt,ys.bt⟩⟩,by show max r.dep s.dep+1<=_;omega⟩
   ·exact⟨_,rfl,⟨by show s.dep+1<=45;omega,ys.ok,ys.bt⟩,by show s.dep+1<=_;omega⟩
  obtain⟨v,ev,yv,dv⟩:=hv;refine⟨cnz (by decide),qAt.of ev ?_⟩;walk_at "";exact⟨v,rfl,yv,dv⟩
 ·rintro δ ⟨c,s,x,z,rfl,ys,ds⟩;rw[Jv] at ds;rw[hK2];walk_at "";exact q s ys (by omega)
theorem yj{s u v:Gh}(ys:Sy s)(yu:Sy u)(yv:Sy v)(h:∀m,m∈v.nms↔m∈s.nms\/m∈u.nms){R:D->Prop}(q:R (.lst ((Gu v v).map D.str))):((Gu s s).map D.str).length+((Gu u u).map D.str).length<=9000/\∃ss:Zb,(Gu s s).map D.str++(Gu u u).map D.str=ss.map D.str/\ss.length<64/\∀ss':Zb,ss'.Nodup->(∀y,y∈ss'↔y∈ss)->Srt ss'->R (.lst (ss'.map D.str)):=by
 have l1:=mD (a:=s) (b:=s)
 have l2:=mD (a:=u) (b:=u)
 refine⟨by rw[GN,GN];omega,Gu s s++Gu u u,by rw[Hg],by rw[GV];omega,λss' nd mem st=>?_⟩;have e:ss'=Gu v v:=ma st nd gl dE λm=>by rw[mem m,dh yv yv,or_self,Hb,dh ys ys,dh yu yu,or_self,or_self,h m]
 rw[e];exact q
inductive bL(n:Nat)(ds:Zi)(R:D->Prop):Prop
 | mk (s:Gh) (hh:ds=[s.D]/\s.dep<=n/\Sy s/\R (.lst ((Gu s s).map D.str)))
theorem gv(n:Nat):∀ds R,bL n ds R->ds.length=1:=λ_ _ ⟨_,e,_⟩=>by rw[e];rfl
theorem fH:∀ds R,¬ bL 0 ds R:=λ_ _ ⟨s,_,h,_⟩=>by have:=s.dep_pos;omega
theorem kG:ay ["_law_saying"] ["_law_saying"] (am s__law_names):=by walk_at "sc"
theorem jg(Z:Zz)(dD:Z.C (1+n) "_law_names" ["_law_saying"] (Gy Z.K (bL n))):Z.C (1+n+1) "_law_names" ["_law_saying"] (Gy Z.K (bL (n+1))):=by
 refine cU (k:=1+n) Z.x45 kG (gv (n+1)) λfa cdv A outer s H E ds R hr h=>?_;have hU:=hr.units;refine⟨_,(ae (aK (aC (dH hU) (Gn 0) aG (aB _)) (ag (ax (au dD (hr.mono (by omega)) rfl (ac (Gn 0) af)))) aA) (ae (aK (DW.dt (kL (aC (dH hU) (Gn 0) aG (aB _)) (f6 (aC (dH hU) (Gn 0) aG (aB _))))) (ag (ax (EB rfl rfl Z.x50 rfl Z.x60 (aJ bC (au dD (hr.mono (by omega)) rfl (ac (Gn 0) af)) (au dD (hr.mono (by omega)) rfl (ac (Gn 0) af)))))) aA) (ag (ax (bR ["_law_name","_law_weight"] [] rfl rfl (by decide +kernel) rfl (by decide +kernel) (bE trivial) (λ_=>bO rfl) (aU trivial) (mB (Gn 0)) λ_ _ _ _ _=>⟨(bV (n:=2) rfl (aE (ar 0 (show List.Nodup (["_law_name","_law_weight"]:Zb) by decide +kernel)) (aE (ar 1 (show List.Nodup (["_law_name","_law_weight"]:Zb) by decide +kernel)) a5))),c7,(ap 0)⟩))))),?_⟩;obtain⟨s,rfl,hd,y,q⟩:=h
 cases s with
 | row k ts b =>
  unfold Gh.D lr;refine ak λK1 hK1=>?_;walk_at "";have k1:kdS k≠Str.ofString "not":=by cases k<;>decide
  refine GG k1 ?_;rw[hK1];refine ak λK2 hK2=>?_;walk_at "";refine GG (by cases k<;>decide) (GG (by cases k<;>decide) ?_)
  rw[hK2];walk_at "";have o:=y.ok.1;have nd:=Ab.sublist o.sub;have e:Gu (.row k ts b) (.row k ts b)=ts.map (·.1):=ki gl (CT.sublist o.sub) dE nd λm=>by rw[dh y y,or_self];rfl
  rw[e] at q;have tl:=o.sub.length_le;rw[GN] at tl;refine⟨by rw[GN];exact GS tl (by decide),λd=>match d with | .tup [.str w,_]=>some (.str w) | _=>none,λx hx=>?_,?_⟩
  ·obtain⟨t,ht,rfl⟩:=GR.mp hx;exact rfl
  ·rw[aL _ GK (λt=>D.str t.1) _ (by intro t _;rfl)];rw[HK] at q;exact q
 | nt s =>
  have hd:s.dep+1<=n+1:=hd
  obtain⟨w,hw⟩:∃w:Str,w=Str.ofString "not":=⟨_,rfl⟩;rw[show (Gh.nt s).D=.tup [.str w,s.D] by rw[hw];rfl];refine ak λK1 hK1=>?_;walk_at "";have yd:s.dep+1<=45:=y.dep;exact Gw hw ⟨s,rfl,by omega,⟨by omega,y.ok,y.bt⟩,q⟩
 | bo s u =>
  have hd:max s.dep u.dep+1<=n+1:=hd
  have yd:max s.dep u.dep+1<=45:=y.dep
  have ys:Sy s:=⟨by omega,y.ok.1,y.bt.1⟩
  have yu:Sy u:=⟨by omega,y.ok.2,y.bt.2⟩
  obtain⟨w,hw⟩:∃w:Str,w=Str.ofString "both":=⟨_,rfl⟩;rw[show (Gh.bo s u).D=.tup [.str w,s.D,u.D] by rw[hw];rfl];refine ak λK1 hK1=>?_;walk_at "";refine GG (by rw[hw];decide) ?_;rw[hK1];refine ak λK2 hK2=>?_;walk_at "";refine Gw hw ⟨s,rfl,by omega,ys,?_⟩;walk_at "";refine⟨u,rfl,by omega,yu,?_⟩;walk_at "";exact yj ys yu y (λm=>Hb) q
 | ei s u =>
  have hd:max s.dep u.dep+1<=n+1:=hd
  have yd:max s.dep u.dep+1<=45:=y.dep
  have ys:Sy s:=⟨by omega,y.ok.1,y.bt.1⟩
  have yu:Sy u:=⟨by omega,y.ok.2,y.bt.2⟩
  obtain⟨w,hw⟩:∃w:Str,w=Str.ofString "either":=⟨_,rfl⟩;rw[show (Gh.ei s u).D=.tup [.str w,s.D,u.D] by rw[hw];rfl];refine ak λK1 hK1=>?_;walk_at "";refine GG (by rw[hw];decide) ?_;rw[hK1];refine ak λK2 hK2=>?_;walk_at "";refine GG (by rw[hw];decide) (Gw hw ⟨s,rfl,by omega,ys,?_⟩);walk_at "";refine⟨u,rfl,by omega,yu,?_⟩;walk_at "";exact yj ys yu y (λm=>Hb) q
theorem jt(Z:Zz):Z.C 61 "_law_names" ["_law_saying"] (Gy Z.K (bL 60)):=Nat.rec (motive:=λn=>Z.C (1+n) "_law_names" ["_law_saying"] (Gy Z.K (bL n))) (gO Z.x45 _ fH) (λ_=>jg Z) 60
noncomputable instance (s:Gh):Decidable s.few:=inferInstanceAs (Decidable (_/\_))
def vo(w:Int)(a b:Gh)(kp pk:Zb):Option (Bool×D) :=
 if ¬ (a.pl false).few then some (true,a.D)
 else if (w=1\/w=2\/w=3)/\¬ (b.pl false).few then some (true,b.D)
 else if w=5 then ((Gu a a).find? λn=>decide (n∈kp/\n∉pk)).map λn=>(false,.str n)
 else none
def errD:Option (Bool×D)->D
 | none=>.non
 | some (true,d)=>.exn "TooMany" "saying" d
 | some (false,d)=>.exn "NoName" "name" d
def Bz:Option (Bool×D)->D
 | none=>.lst []
 | some (true,d)=>.lst [.str "many",d]
 | some (false,d)=>.lst [.str "name",d]
inductive f7(ds:Zi)(R:D->Prop):Prop
 | mk (w:Int) (a b:Gh) (kp pk:Zb) (pv:Za) (y:D) (hh:ds=[.int w,a.D,b.D,.lst (kp.map D.str),y]/\0<=w/\w<=6/\Sy a/\Sy b/\kp.length<=60/\mW pk pv/\(w=5->y=.fd pk (pv.map Gq))/\R (errD (vo w a b kp pk)))
theorem gG:∀ds R,f7 ds R->ds.length=5:=λ_ _ ⟨_,_,_,_,_,_,_,e,_⟩=>by rw[e];rfl
theorem wa{w:Int}{a b:Gh}{kp pk:Zb}(h:¬ (a.pl false).few):vo w a b kp pk=some (true,a.D):=Hc h
theorem D4{w:Int}{a b:Gh}{kp pk:Zb}(h:(a.pl false).few)(hw:w=1\/w=2\/w=3)(g:¬ (b.pl false).few):vo w a b kp pk=some (true,b.D):=by unfold vo;rw[Ha (λz=>z h),Hc ⟨hw,g⟩]
theorem vC{w:Int}{a b:Gh}{kp pk:Zb}(h:(a.pl false).few)(hw:(w=1\/w=2\/w=3)->(b.pl false).few):vo w a b kp pk=if w=5 then ((Gu a a).find? λn=>decide (n∈kp/\n∉pk)).map λn=>(false,.str n) else none:=by unfold vo;rw[Ha (λz=>z h),Ha λz=>z.2 (hw z.1)]
theorem cX:ay ["_law_way","_law_one","_law_other","_law_kept","_law_point","_law_told","e"] ["_law_way","_law_one","_law_other","_law_kept","_law_point"] (am s__law_asked):=by walk_at "sc"
theorem d6(Z:Zz):Z.C 68 "_law_asked" ["_law_way","_law_one","_law_other","_law_kept","_law_point"] (Gy Z.K f7):=by
 refine cU Z.x46 cX gG λfa cdv A outer s H E ds R hr h=>?_;have hU:=hr.units;refine⟨_,(ae (aD 5 cX.nd cF) (ae (Ct (cs:=cD) 5 6 ⟨rfl,rfl⟩ cX.nd (by decide) rfl Z.er.mR Z.er.un λpins E=>(ae (aK (aC (dH hU) (ap 0) av (aB _)) (ag (c0 (bD Z) (rm hr) rfl (ac (ap 1) af))) aA) (ae (aK (aC (dH hU) (ap 0) av (aB _)) (ag (c0 (io Z) (rm hr) rfl (ac (ap 1) (ac (ap 2) af)))) aA) (ae (aK (aC (dH hU) (ap 0) av (aB _)) (ag (c0 (ni Z) (rm hr) rfl (ac (ap 1) (ac (ap 2) (ac (aN af) af))))) aA) (ae (aK (aC (dH hU) (ap 0) av (aB _)) (ag (c0 (m7 Z) (rm hr) rfl (ac (ap 1) (ac (ap 2) af)))) aA) (ae (aK (aC (dH hU) (ap 0) av (aB _)) (ag (c0 (rG Z) (rm hr) rfl (ac (ap 1) (ac (ap 3) af)))) aA) (ae (aK (aC (dH hU) (ap 0) av (aB _)) (ag (c0 (rO Z) (rm hr) rfl (ac (ap 1) (ac (ap 3) (ac (ap 4) af))))) aA) (ag (aK (aC (dH hU) (ap 0) av (aB _)) (ag (c0 (nC Z) (rm hr) rfl (ac (ap 1) (ac aG af)))) aA))))))))) (ag (ax (ap 5))))),?_⟩;obtain⟨w,a,b,kp,pk,pv,y,rfl,w0,w6,Sa,Sb,hk,W,hy,q⟩:=h;have da:=Sa.dep;refine ak λK1 hK1=>?_;walk_at "";rw[hK1];refine ak λK2 hK2=>?_;have kE:∀c f d,R (.exn c f d)->K2 [.no,.no,.no,.no,.no,.dat (.exn c f d),.no]:=λc f d r=>by
  rw[hK2];walk_at "";exact r
 have kN:R .non->K2 [.dat (.int w),.dat a.D,.dat b.D,.dat (.lst (kp.map D.str)),.dat y,.dat .non,.no]:=λr=>by
  rw[hK2];walk_at "";exact r
 have eA:¬ (a.pl false).few->("TooMany":Str)∈cD/\K2 [.no,.no,.no,.no,.no,.dat (.exn "TooMany" "saying" a.D),.no]:=λh=>⟨by decide,kE _ _ _ (by rw[wa h] at q;exact q)⟩
 have eB:(w=1\/w=2\/w=3)->(a.pl false).few->¬ (b.pl false).few->("TooMany":Str)∈cD/\K2 [.no,.no,.no,.no,.no,.dat (.exn "TooMany" "saying" b.D),.no]:=λhw h g=>⟨by decide,kE _ _ _ (by rw[D4 h hw g] at q;exact q)⟩
 have n5:w≠5->(a.pl false).few->((w=1\/w=2\/w=3)->(b.pl false).few)->K2 [.dat (.int w),.dat a.D,.dat b.D,.dat (.lst (kp.map D.str)),.dat y,.dat .non,.no]:=λh5 h g=>kN (by rw[vC h g,Ha h5] at q;exact q)
 walk_at "";have h7:w=0\/w=1\/w=2\/w=3\/w=4\/w=5\/w=6:=by omega
 rcases h7 with e | e | e | e | e | e | e
 ·refine Gw e ⟨a,S3,rfl,by omega,Sa.ok,by decide,λf=>?_,eA⟩;walk_at ""
  iterate 6 refine GG (by omega) ?_
  exact n5 (by omega) f λz=>absurd z (by omega)
 ·refine GG (by omega) (Gw e ⟨a,b,rfl,Sa,Sb,eA,eB (.inl e),λf g=>⟨λd=>?_,λPP _ _=>?_⟩⟩)
  ·walk_at ""
   iterate 5 refine GG (by omega) ?_
   exact n5 (by omega) f λ_=>g
  ·walk_at ""
   iterate 5 refine GG (by omega) ?_
   exact n5 (by omega) f λ_=>g
 ·iterate 2 refine GG (by omega) ?_
  refine Gw e ⟨a,b,rfl,Sa,Sb,eA,eB (.inr (.inl e)),λf g=>?_⟩;walk_at ""
  iterate 4 refine GG (by omega) ?_
  exact n5 (by omega) f λ_=>g
 ·iterate 3 refine GG (by omega) ?_
  refine Gw e ⟨a,b,rfl,Sa,Sb,eA,eB (.inr (.inr e)),λf g d=>?_⟩;walk_at ""
  iterate 3 refine GG (by omega) ?_
  exact n5 (by omega) f λ_=>g
 ·iterate 4 refine GG (by omega) ?_
  refine Gw e ⟨a,kp,rfl,Sa,hk,eA,λf d=>?_⟩;walk_at ""
  iterate 2 refine GG (by omega) ?_
  exact n5 (by omega) f λz=>absurd z (by omega)
 ·iterate 5 refine GG (by omega) ?_
  have e5:=hy e
  subst e5;have d5:=λf:(a.pl false).few=>vC (w:=w) (b:=b) (kp:=kp) (pk:=pk) f λz=>absurd z (by omega);refine Gw e ⟨a,kp,pk,pv,rfl,Sa,hk,W,eA,λf=>⟨λn hn=>⟨by decide,kE _ _ _ ?_⟩,λhn d=>?_⟩⟩
  ·rw[d5 f,Hc e,hn] at q;exact q
  ·walk_at "";refine GG (by omega) (kN ?_);rw[d5 f,Hc e,hn] at q;exact q
 ·iterate 6 refine GG (by omega) ?_
  refine Gw e ⟨a,"a",rfl,Sa,by decide +kernel,eA,λf d=>?_⟩;walk_at "";exact n5 (by omega) f λz=>absurd z (by omega)
inductive iO(ds:Zi)(R:D->Prop):Prop
 | mk (o:Option (Bool×D)) (hh:ds=[errD o]/\R (Bz o))
theorem iZ:∀ds R,iO ds R->ds.length=1:=λ_ _ ⟨_,e,_⟩=>by rw[e];rfl
theorem lO:ay ["_law_told"] ["_law_told"] (am s__law_kind):=by walk_at "sc"
theorem e7(Z:Zz):Z.C 3 "_law_kind" ["_law_told"] (Gy Z.K iO):=by
 refine cU Z.x47 lO iZ λfa cdv A outer s H E ds R hr h=>?_;have hU:=hr.units;refine⟨_,(ae (aK (aC sB (ap 0) cF (aB _)) (ag (ax (aO af))) aA) (ae (aK (DW.dt (kL (pL (bZ (za Z.er.tab rfl Z.x61 rfl Z.x62 (ap 0)))) (f6 (bZ (hZ Z.er.tab rfl Z.x61 rfl Z.er.aq (ap 0)))))) (ag (ax (aO (ac aG af)))) aA) (ae (aK (DW.dt (lL (bZ (hZ Z.er.tab rfl Z.x61 rfl Z.er.a_t (ap 0))) (iq (pL (bZ (hZ Z.er.tab rfl Z.x61 rfl Z.er.an (ap 0))))))) (ag (ax (aO (ac aG (ac (sV Z.er.tab (ap 0)) af))))) aA) (ae (aK (DW.dt (lL (bZ (hZ Z.er.tab rfl Z.x61 rfl Z.er.an (ap 0))) (iq (pL (bZ (hZ Z.er.tab rfl Z.x61 rfl Z.er.a_t (ap 0))))))) (ag (ax (aO (ac aG (ac (sV Z.er.tab (ap 0)) af))))) aA) (ag (ax (aO (ac aG af)))))))),?_⟩;obtain⟨o,rfl,q⟩:=h
 match o,q with
 | none,q =>
  unfold errD;refine ak λK1 hK1=>?_;walk_at "";exact q
 | some (true,d),q =>
  unfold errD;refine ak λK1 hK1=>?_;walk_at "";rw[hK1];refine ak λK2 hK2=>?_;walk_at "";refine⟨true,rfl,GG (by decide) ⟨false,rfl,GG (by decide) ?_⟩⟩;rw[hK2];refine ak λK3 hK3=>?_;walk_at "";exact⟨true,rfl,Gw rfl ⟨false,rfl,Gw rfl ⟨by decide,q⟩⟩⟩
 | some (false,d),q =>
  unfold errD;refine ak λK1 hK1=>?_;walk_at "";rw[hK1];refine ak λK2 hK2=>?_;walk_at "";refine⟨true,rfl,GG (by decide) ⟨false,rfl,GG (by decide) ?_⟩⟩;rw[hK2];refine ak λK3 hK3=>?_;walk_at "";refine⟨false,rfl,GG (by decide) ?_⟩;rw[hK3];refine ak λK4 hK4=>?_;walk_at "";exact⟨true,rfl,Gw rfl ⟨false,rfl,Gw rfl ⟨by decide,q⟩⟩⟩
inductive fInI(ds:Zi)(R:D->Prop):Prop
 | mk (i:Int) (js:Ze) (hh:ds=[.int i,.lst (js.map D.int)]/\R (.bl (decide (i∈js))))
theorem qt(x:Int):∀ {us:Zc} {js:Ze},PyProof.Rows.IntsAre us js->us.any (λy=>match y with | .int z _=>z==x | _=>false)=decide (x∈js)
 | _,_,.nil=>rfl
 | _,_,.cons y t h=>by
  rw[JR,qt x h]
  by_cases e:y=x
  ·subst e;simp
  ·have e2:¬ x=y:=λz=>e z.symm
   simp[e,e2]
theorem xf{us:Zc}{js:Ze}(h:PyProof.Rows.IntsAre us js):∀y∈us,∃z t,y=Value.int z t:=by
 induction h with
 | nil=>intro y hy;cases hy
 | cons z t h ih =>
  intro y hy
  rcases GY.mp hy with rfl | hy
  ·exact⟨z,t,rfl⟩
  ·exact ih y hy
theorem EL{X:Cx}:GC X (compareOp .In) λx y=>aQ X.K fInI [x,y]:=by
 intro pins s σ H x y v u Q I rx ry h;obtain⟨M,ds,R,m,rs,⟨x0,js,rfl,h⟩,k⟩:=h;have aa:∀b s',Inv X pins σ H s'->R (.bl b)->EP X pins σ Q (.bool b) s':=λb s' I' r=>⟨.bl b,H,I',rfl,k _ r _ H (bH.refl H) (GI.sc rfl)⟩;obtain⟨h1,h2⟩:=bP rs
 cases aR h1
 unfold GI at h2;obtain⟨a,vs,rfl,_,e,r⟩:=h2
 cases ry
 cases iR r
 obtain⟨t,rfl⟩:=rx;obtain⟨ab,rv,pl,_⟩:=I.list (GL.of e);have hs:=DL.intsAre_of rv;refine SeqAt.in_listAt (λy=>match y with | .int z _=>z==x0 | _=>false) pl.isList (λy hy=>?_) ?_
 ·obtain⟨z,t',rfl⟩:=xf hs y (by simpa using hy);exact JQ z t' x0 t
 ·rw[List.any_toArray,qt x0 hs];exact aa _ _ I h
inductive Fr(ds:Zi)(R:D->Prop):Prop
 | mk (x:Str) (ks:Zb) (vs:Zi) (hh:ds=[.str x,.fd ks vs]/\R (.bl (!decide (x∈ks))))
theorem Cm{X:Cx}(hu:X.A.units+64<cLine):GC X (compareOp .NotIn) λx y=>aQ X.K Fr [x,y]:=by
 intro pins s σ H x y v u Q I rx ry h;obtain⟨M,ds,R,m,rs,⟨_,_,_,rfl,h⟩,k⟩:=h;obtain⟨h1,h2⟩:=bP rs
 cases bm h1
 unfold GI at h2;obtain⟨a,vs,o,rfl,e,l,r⟩:=h2
 cases ry
 refine uV (by omega) I (.inl ⟨_,Sum.inr _,.inr ⟨o,e⟩,rfl,rfl⟩) rx λs' I'=>?_;rw[cV,e8 (by rw[l,Reps.length _ _ r])];exact⟨.bl _,H,I',rfl,k _ h _ H (bH.refl H) (GI.sc rfl)⟩
inductive jW(ds:Zi)(R:D->Prop):Prop
 | mk (w:Int) (a b:Gh) (kp pk:Zb) (pv:Za) (hh:ds=[.int w,a.D,b.D,.lst (kp.map D.str),.fd pk (pv.map Gq)]/\Sy a/\Sy b/\a.dep<=10/\b.dep<=10/\kp.length<=60/\R (Bz (vo w a b kp pk)))
theorem jB:∀ds R,jW ds R->ds.length=5:=λ_ _ ⟨_,_,_,_,_,_,e,_⟩=>by rw[e];rfl
theorem bI:ay ["_law_way","_law_one","_law_other","_law_kept","_law_point","_law_sayings","_law_saying","_law_many","_law_longest","_law_name"] ["_law_way","_law_one","_law_other","_law_kept","_law_point"] (am s__law_due):=by walk_at "sc"
theorem mE(Z:Zz):Z.C 62 "_law_due" ["_law_way","_law_one","_law_other","_law_kept","_law_point"] (Gy Z.K jW):=by
 refine cU Z.x48 bI jB λfa cdv A outer s H E ds R hr h=>?_;have hU:=hr.units;refine⟨_,(ae (aD 5 bI.nd (aO (ac (ap 1) af))) (ae (aK (aC EL (ap 0) (aO (ac av (ac av (ac av af)))) rfl) (ag (aD 5 bI.nd (aO (ac (ap 1) (ac (ap 2) af))))) aA) (ae (aY Hj rfl (ap 5) (ar 6 bI.nd) (ae (sL (au (gB Z) (rm hr) rfl (ac (ap 6) (ac gz af))) (bV (n:=2) rfl (aE (ar 7 bI.nd) (aE (ar 8 bI.nd) a5)))) (ag (aK (DW.dt (kL (aC vQ (ap 7) av (aB _)) (f6 (aC vQ (ap 8) av (aB _))))) (ag (ax (aO (ac aG (ac (ap 6) af))))) aA)))) (ae (aK (aC (dH hU) (ap 0) av (aB _)) (ag (aY Hj rfl (au (jt Z) (rm hr) rfl (ac (ap 1) af)) (ar 9 bI.nd) (ag (aK (DW.dt (lL (aC (o_in hU) (ap 9) (ap 3) rfl) (iq (aC (Cm hU) (ap 9) (ap 4) rfl)))) (ag (ax (aO (ac aG (ac (ap 9) af))))) aA)))) aA) (ag (ax (aO af))))))),?_⟩;obtain⟨w,a,b,kp,pk,pv,rfl,Sa,Sb,da,db,hk,q⟩:=h;refine ak λK1 hK1=>?_;walk_at "";rw[hK1];refine ak λK2 hK2=>?_;walk_at "";refine⟨w,[1,2,3],rfl,?_⟩;walk_at "";have go:∀L:List Gh,L.length<=2->(∀s∈L,s.dep<=10)->(∀s,L.find? (λs=>decide (¬ (s.pl false).few))=some s->R (.lst [.str "many",s.D]))->((∀s∈L,(s.pl false).few)->R (Bz (if w=5 then ((Gu a a).find? λn=>decide (n∈kp/\n∉pk)).map λn=>(false,.str n) else none))) ->
   K2 [.dat (.int w),.dat a.D,.dat b.D,.dat (.lst (kp.map D.str)),.dat (.fd pk (pv.map Gq)),.dat (.lst (L.map Gh.D)),.no,.no,.no,.no]:=λL l2 dL qm qn=>by
  rw[hK2];refine ak λK3 hK3=>?_;refine bh λF N hF hN=>?_;walk_at "";simp only[cO];walk_at "";refine⟨λi δ=>∃x y z u,δ=[.dat (.int w),.dat a.D,.dat b.D,.dat (.lst (kp.map D.str)),.dat (.fd pk (pv.map Gq)),.dat (.lst (L.map Gh.D)),x,y,z,u]/\∀s∈L.take i,(s.pl false).few,⟨_,_,_,_,rfl,λc hc=>by simp at hc⟩,?_,?_⟩
  ·rintro i d δ hd ⟨x,y,z,u,rfl,ok⟩;rw[G6] at hd
   cases hn:L[i]? with
   | none=>rw[hn] at hd;cases hd
   | some s =>
    rw[hn] at hd
    cases hd
    have hm:=G9 hn
    have ds:=dL s hm
    rw[hF];show cB _ _ _ _;refine bX λK4 hK4=>?_;walk_at "";refine⟨s,true,rfl,by omega,ds,?_⟩;walk_at "";rw[hK4];walk_at ""
    by_cases f:(s.pl false).few
    ·have f1:=f.1
     have f2:=f.2
     refine GG (by omega) (GG (by omega) λv hv=>?_);rw[aI hn] at hv
     rcases Hb.mp hv with z | z
     ·exact ok v z
     ·rw[GX.mp z];exact f
    ·have qq:=qm s (iS hn (λy hy=>HA λz=>z (ok y hy)) (HJ f))
     exact dI (λ_=>qq) λh4=>dI (λ_=>qq) λh3=>absurd ⟨by omega,by omega⟩ f
  ·rintro δ ⟨x,y,z,u,rfl,ok⟩;rw[GN,Ht] at ok;have qn:=qn ok;rw[hN];show K3 _;rw[hK3];refine ak λK5 hK5=>?_;walk_at ""
   by_cases w5:w=5
   ·rw[Hc w5] at qn;refine Gw w5 ?_;refine bh λF2 N2 hF2 hN2=>?_;walk_at "";simp only[cO];walk_at "";refine⟨a,rfl,by omega,Sa,?_⟩;walk_at "";refine⟨λi δ=>∃v,δ=[.dat (.int w),.dat a.D,.dat b.D,.dat (.lst (kp.map D.str)),.dat (.fd pk (pv.map Gq)),.dat (.lst (L.map Gh.D)),x,y,z,v]/\∀n∈(Gu a a).take i,¬ (n∈kp/\n∉pk),⟨_,rfl,λn hn=>by simp at hn⟩,?_,?_⟩
    ·rintro i d δ hd ⟨v,rfl,hin⟩;obtain⟨n,hn,rfl⟩:=fC hd;rw[hF2];show cB _ _ _ _;walk_at "";have aa:¬ (n∈kp/\n∉pk)->∀m∈(Gu a a).take (i+1),¬ (m∈kp/\m∉pk):=λh m hm=>by
      rw[aI hn] at hm
      rcases Hb.mp hm with z | z
      ·exact hin m z
      ·rw[GX.mp z];exact h
     refine⟨kp,rfl,dI (λh1=>?_) λh1=>aa λz=>h1 (HJ z.1)⟩;refine⟨n,pk,_,rfl,?_⟩;walk_at "";refine dI (λh2=>?_) λh2=>aa λz=>h2 z.2;rw[iS hn (λm hm=>HA (hin m hm)) (HJ ⟨Ip h1,h2⟩)] at qn;exact qn
    ·rintro δ ⟨v,rfl,hin⟩;rw[GN,Ht] at hin;rw[Kq.mpr λn hn z=>hin n hn (Ip z)] at qn;rw[hN2,hK5];walk_at "";exact qn
   ·rw[Ha w5] at qn;refine GG w5 ?_;rw[hK5];walk_at "";exact qn
 refine dI (λhw=>?_) λhw=>?_
 ·refine go [a,b] (GU 2) (λs hs=>?_) (λs hs=>?_) λok=>?_
  ·rcases GY.mp hs with z | z
   ·rw[z];exact da
   ·rw[GX.mp z];exact db
  ·by_cases f:(a.pl false).few
   ·rw[J0 (by simpa using f)] at hs
    by_cases g:(b.pl false).few
    ·rw[J0 (by simpa using g)] at hs;cases hs
    ·rw[Jh (by simpa using g)] at hs
     cases hs
     rw[D4 f (by simpa using hw) g] at q;exact q
   ·rw[Jh (by simpa using f)] at hs
    cases hs
    rw[wa f] at q;exact q
  ·rw[vC (ok a (by simp)) λ_=>ok b (by simp)] at q;exact q
 ·refine go [a] (Jr 1) (λs hs=>by rw[GX.mp hs];exact da) (λs hs=>?_) λok=>?_
  ·by_cases f:(a.pl false).few
   ·rw[J0 (by simpa using f)] at hs;cases hs
   ·rw[Jh (by simpa using f)] at hs
    cases hs
    rw[wa f] at q;exact q
  ·rw[vC (ok a (by simp)) λz=>absurd (by simpa using z) hw] at q;exact q
theorem C6{x:Int}(h1:-7<=x)(h2:x<=7):ib x<=3:=by
 have:∀n:Nat,n<=7->ib (n:Int)<=3/\ib (-(n:Int))<=3:=by decide
 by_cases h:0<=x
 ·have:=(this x.toNat (by omega)).1
  rwa [IN h] at this
 ·have:=(this (-x).toNat (by omega)).2
  rwa [IN (by omega),Int.neg_neg] at this
theorem key3:∀ {i:Nat},i<3->∃u,Gi (Str.ofString "abc").cps.toList (i:Int)=some u/\S3[i]?=some ⟨#[u]⟩
 | 0,_=>⟨97,by decide +kernel,by decide +kernel⟩
 | 1,_=>⟨98,by decide +kernel,by decide +kernel⟩
 | 2,_=>⟨99,by decide +kernel,by decide +kernel⟩
 | k+3,h=>by omega
theorem two3{c:Int}:∀ {i:Nat},i<3->CPow 1 (i:Int)/\CFd (c.fdiv 11) (1*2 ^ (i:Int).toNat)
 | 0,_=>⟨⟨by decide,by decide,by decide⟩,eN (by decide) (by decide)⟩
 | 1,_=>⟨⟨by decide,by decide,by decide⟩,eN (by decide) (by decide)⟩
 | 2,_=>⟨⟨by decide,by decide,by decide⟩,eN (by decide) (by decide)⟩
 | k+3,h=>by omega
theorem kQ{l:Zb}{i:Nat}{n:Str}(nd:l.Nodup)(hn:l[i]?=some n):n∉l.take i:=λz=>by
 rw[<- IV (i+1) l,aI hn] at nd;exact(Iw.mp (Iw.mp nd).1).2.2 n z n (GX.mpr rfl) rfl
theorem lf{s:Gh}(h:s.dep<=45):D.nds [.str "many",s.D]=true/\D.dps [.str "many",s.D]<=60:=by
 rw[s.D_args];refine⟨?_,?_⟩
 ·show (true&&(D.nds s.args&&true))=true
  rw[s.nds];rfl
 ·have:=s.dps
  show max 0 (max (D.dps s.args+1) 0)<=60
  omega
theorem qy{s:Gh}(h:s.dep<=45){R:D->Prop}(r:R (.bl false)):vp [.lst [.str "many",s.D],.lst [.str "many",s.D]] R:=⟨⟨rfl,(lf h).1,(lf h).2⟩,r⟩
theorem yT{w:Int}{a b:Gh}{kp pk:Zb}(Sa:Sy a)(Sb:Sy b){R:D->Prop}(r:R (.bl false)):vp [Bz (vo w a b kp pk),Bz (vo w a b kp pk)] R:=by
 unfold vo
 by_cases f:(a.pl false).few
 ·rw[Ha λz=>z f]
  by_cases g:(w=1\/w=2\/w=3)/\¬ (b.pl false).few
  ·rw[Hc g];exact qy Sb.dep r
  ·rw[Ha g]
   by_cases w5:w=5
   ·rw[Hc w5]
    cases (Gu a a).find? λn=>decide (n∈kp/\n∉pk) with
    | none=>exact⟨⟨rfl,rfl,by decide⟩,r⟩
    | some n=>exact⟨⟨rfl,rfl,by show max 0 (max 0 0)<=60;decide⟩,r⟩
   ·rw[Ha w5];exact⟨⟨rfl,rfl,by decide⟩,r⟩
 ·rw[Hc f];exact qy Sa.dep r
theorem df:ay ["_law_script","_law_cell","_law_one","_law_other","_law_kept","_law_point","_law_k","_law_way","_law_row_here","_law_long"] ["_law_script"] (am s_law):=by walk_at "sc"
theorem AH(Z:Zz){fa:Addr}{fd:FuncData}(F:Fun Z.K "law" "law" s_law fa fd):fG Z.P Z.w Z.K Z.mg Z.base CX0 69 fa fd ["_law_script"] (Gy Z.K fLaw):=by
 refine Do F df (λds R ⟨ns,e,_⟩=>by rw[e];rfl) λcdv A outer s H E ds R hr h=>?_;have hU:=hr.units;refine⟨_,(ae (aY Hj rfl (aJ bC (aO (ac av af)) (jR (ap 0) cN (cM av))) (ar 1 df.nd) (ae (aD 2 df.nd (au (dZ Z) (rm hr) rfl (ac (aJ bU (ap 1) av) (ac (aJ eS (ap 1) av) af)))) (ae (aD 3 df.nd (au (dZ Z) (rm hr) rfl (ac (aJ bU (ap 1) av) (ac (aJ eS (aJ bU (ap 1) av) av) af)))) (ae (aD 4 df.nd (jR (aO (ac aG (ac aG (ac aG af)))) (cM (aJ eS (aJ bU (ap 1) av) av)) cN)) (ae (iE 5 df.nd) (ae (nq Hj rfl rfl Z.x56 (ac av af) (ar 6 df.nd) (ag (aK (aC (dH hU) (aJ eS (aJ bU (aJ bU (ap 1) av) (aJ EU av (ap 6))) av) av (aB _)) (ag (fR 5 hU (aN (ac (aJ wS (aJ eS (ap 1) av) av) (ac av af))) (mn lM aG (ap 6) (λ_ _=>rfl)))) aA))) (nS 5 (ag (aY Hj rfl (aO (ac (aJ eS (aJ bU (ap 1) av) av) (ac (aJ eS (aJ bU (ap 1) av) av) af))) (ar 7 df.nd) (ag (aK (aC (jk hU) (au (e7 Z) (rm hr) rfl (ac (au (d6 Z) (rm hr) rfl (ac (ap 7) (ac (ap 2) (ac (ap 3) (ac (ap 4) (ac (ap 5) af)))))) af)) (au (mE Z) (rm hr) rfl (ac (ap 7) (ac (ap 2) (ac (ap 3) (ac (ap 4) (ac (ap 5) af)))))) (aB _)) (ag (ax gz)) aA))))))))))) (ae (aD 8 df.nd (aN (ac aG (ac (aN (ac (aN (ac aG (ac av af))) af)) (ac av af))))) (ae (aD 9 df.nd (aN (ac aG (ac (ap 8) (ac (ap 8) af))))) (ae (nq Hj rfl rfl Z.x56 (ac av af) (ar 6 df.nd) (ag (aD 9 df.nd (aN (ac aG (ac (aN (ac aG (ac (ap 8) (ac (ap 8) af)))) (ac (ap 9) af))))))) (ae (aK (aC (jk hU) (au (e7 Z) (rm hr) rfl (ac (au (d6 Z) (rm hr) rfl (ac av (ac (ap 9) (ac (ap 8) (ac (aO af) (ac eX af)))))) af)) (aO (ac aG (ac (ap 9) af))) (aB _)) (ag (ax gz)) aA) (ae (aK (DW.dt (kL (aC (jk hU) (au (bD Z).pure (rm hr) rfl (ac (ap 8) af)) (aO (ac (aO (ac (ap 8) af)) af)) (aB _)) (kL (aC (jk hU) (sV Z.er.tab (de_x Z.er.n (rm hr) rfl aG)) aG (aB _)) (f6 (aC (jk hU) (sV Z.er.tab (de_x Z.er.t (rm hr) rfl (ap 8))) (ap 8) (aB _)))))) (ag (ax gz)) aA) (ag (ax (pA (fw (dH hU) (sV Z.er.tab (de_x Z.er.q (rm hr) rfl av)) av (aB _)) (iJ (Dq Z.er.rc Z.er.gR Z.er.kR rfl Z.x61 rfl Z.er.mR rfl Z.x62 aG))))))))))),?_⟩
 obtain⟨ns,rfl,aa,hb,q⟩:=h;refine ak λK1 hK1=>?_;refine bh λF N hF hN=>?_;simp only[cO];walk_at "";rw[tQ];have ab:(cut ns none (some 30)).length<=63:=GS yo aa;refine⟨by rw[GN];omega,λi δ=>∃x1 x2 x3 x4 x5 x6 x7 x8 x9,δ=[.dat (.fz (ns.map D.int)),x1,x2,x3,x4,x5,x6,x7,x8,x9],⟨_,_,_,_,_,_,_,_,_,rfl⟩,?_,?_⟩
 ·rintro i d δ hd ⟨x1,x2,x3,x4,x5,x6,x7,x8,x9,rfl⟩;rw[show D.int 0::(cut ns none (some 30)).map D.int=(0::cut ns none (some 30)).map D.int from rfl] at hd;obtain⟨c,hc,rfl⟩:=o7 hd;rw[hF];show cB _ _ _ _;refine bX λK2 hK2=>?_;walk_at "";have m8:=mdr c (m:=8) (by decide);refine⟨eN (by decide) (by decide),cnz (by decide),_,(c.fmod 8).toNat,by rw[IN m8.1],by omega,λa Sa da=>?_⟩;walk_at "";rw[hK2];refine ak λK3 hK3=>?_;walk_at "";have m6:=mdr (c.fdiv 2) (m:=6) (by decide);refine⟨eN (by decide) (by decide),eN (by decide) (by decide),cnz (by decide),_,((c.fdiv 2).fmod 6).toNat,by rw[IN m6.1],by omega,λb Sb db=>?_⟩;walk_at "";rw[hK3];refine ak λK4 hK4=>?_;walk_at "";refine⟨eN (by decide) (by decide),cnz (by decide),?_⟩;rw[show [D.str (Str.ofString "c"),D.str (Str.ofString "a"),D.str (Str.ofString "b")]=([Str.ofString "c",Str.ofString "a",Str.ofString "b"]:Zb).map D.str from rfl,tQ];have kl:(cut ([Str.ofString "c",Str.ofString "a",Str.ofString "b"]:Zb) (some ((c.fdiv 5).fmod 3)) none).length<=60:=GS yo (by decide);generalize cut ([Str.ofString "c",Str.ofString "a",Str.ofString "b"]:Zb) (some ((c.fdiv 5).fmod 3)) none=kp at *;rw[hK4];refine ak λK5 hK5=>?_;walk_at "";intro pa;walk_at "";rw[hK5];refine ak λK6 hK6=>?_;walk_at "";simp only[wN];walk_at "";refine⟨by decide,by decide,λi δ=>∃(pk:Zb) (pv:Za) (x6 x7 x8 x9:Sl),δ=[.dat (.fz (ns.map D.int)),.dat (.int c),.dat a.D,.dat b.D,.dat (.lst (kp.map D.str)),.own pa (.dct pk (pv.map Gq)),x6,x7,x8,x9]/\mW pk pv/\pk.length<=i/\∀n∈pk,n∈S3.take i,⟨[],[],_,_,_,_,rfl,⟨⟨rfl,(λ_ h=>nomatch h),(λ_ h=>nomatch h),(λ_ h=>nomatch h)⟩,(λ_ h=>nomatch h)⟩,by decide,(λ_ h=>nomatch h)⟩,?_,?_⟩
  ·rintro i δ hi ⟨pk,pv,x6,x7,x8,x9,rfl,W,pl,pS⟩;replace hi:i<3:=hi;walk_at "";obtain⟨t1,t2⟩:=two3 (c:=c) hi;refine⟨eN (by decide) (by decide),t1,t2,cnz (by decide),dI (λ_=>?_) λ_=>⟨pv,rfl,W,by omega,λn hn=>(List.take_sublist_take_left (by omega)).subset (pS n hn)⟩⟩;obtain⟨u,e1,e2⟩:=key3 hi;refine⟨cnz (by decide),by decide,u,e1,by omega,?_⟩;generalize (⟨#[u]⟩:Str)=n at *;have nn:n∉pk:=λz=>kQ Ab e2 (pS n z);have m9:=mdr c (m:=9) (by decide);rw[gK nn,gS nn,aI e2];refine⟨pv++[(c.fmod 9-4,1)],by rw[Hg];rfl,⟨tz W.P ⟨by show (0:Int)<1;decide,by unfold gc;simp⟩ (GU 3) (C6 (by show -7<=c.fmod 9-4;omega) (by show c.fmod 9-4<=7;omega)) (by show ib 1<=3;decide),λp hp=>?_⟩,by rw[GV,IS];omega,λm hm=>?_⟩
   ·rcases Hb.mp hp with z | z
    ·exact W.one p z
    ·rw[GX.mp z]
   ·rcases Hb.mp hm with z | z
    ·exact Hf _ (pS m z)
    ·exact G7 _ z
  ·rintro δ ⟨pk,pv,x6,x7,x8,x9,rfl,W,pl,pS⟩;rw[hK6];clear hK1 hK2 hK3 hK4 hK5 hK6;walk_at "";refine bh λF2 N2 hF2 hN2=>?_;simp only[cO];walk_at "";have m1:=mdr (c.fdiv 3) (m:=7) (by decide);have m2:=mdr (c.fdiv 21) (m:=7) (by decide);refine⟨eN (by decide) (by decide),cnz (by decide),eN (by decide) (by decide),cnz (by decide),λi δ=>∃x6 x7 x8 x9,δ=[.dat (.fz (ns.map D.int)),.dat (.int c),.dat a.D,.dat b.D,.dat (.lst (kp.map D.str)),.dat (.fd pk (pv.map Gq)),x6,x7,x8,x9],⟨_,_,_,_,rfl⟩,?_,?_⟩
   ·rintro j d δ hd ⟨x6,x7,x8,x9,rfl⟩;have hw:∃w:Int,d=.int w/\0<=w/\w<=6:=by
     match j,hd with
     | 0,hd=>cases hd;exact⟨_,rfl,by omega,by omega⟩
     | 1,hd=>cases hd;exact⟨_,rfl,by omega,by omega⟩
     | j+2,hd=>cases hd
    obtain⟨w,rfl,w0,w6⟩:=hw;rw[hF2];show cB _ _ _ _;walk_at "";refine⟨w,a,b,kp,pk,pv,_,rfl,w0,w6,Sa,Sb,kl,W,λ_=>rfl,?_⟩;walk_at "";refine⟨_,rfl,?_⟩;walk_at "";refine⟨w,a,b,kp,pk,pv,rfl,Sa,Sb,da,db,kl,?_⟩;walk_at "";refine yT Sa Sb ?_;walk_at "";exact⟨_,rfl⟩
   ·rintro δ ⟨x6,x7,x8,x9,rfl⟩;rw[hN2];exact⟨_,_,_,_,_,_,_,_,_,rfl⟩
 ·rintro δ ⟨x1,x2,x3,x4,x5,x6,x7,x8,x9,rfl⟩;rw[hN];show K1 _;rw[hK1];clear hF hN F N hK1 K1;refine ak λK2 hK2=>?_;walk_at "";rw[hK2];refine ak λK3 hK3=>?_;walk_at "";rw[hK3];refine ak λK4 hK4=>?_;walk_at "";simp only[wN];walk_at "";obtain⟨rr,hr2⟩:∃rr:Gh,rr=.row .least [(Str.ofString "a",1)] 1:=⟨_,rfl⟩;have er:D.tup [D.str (Str.ofString "least"),D.tup [D.tup [D.str (Str.ofString "a"),D.int 1]],D.int 1]=rr.D:=by rw[hr2];rfl
  have yr:Sy rr:=by rw[hr2];exact⟨by show 1<=45;decide,⟨⟨by decide +kernel,by decide,by decide⟩,by decide⟩,by decide,by decide⟩
  have dr:rr.dep=1:=by rw[hr2];rfl
  have pr:rr.pl false=rr:=by rw[hr2];rfl
  have nr:rr.num=1:=by rw[hr2];rfl
  rw[er];refine⟨by decide,by decide,λi δ=>∃(s:Gh) (x1 x2 x3 x4 x5 x6 x7:Sl),δ=[.dat (.fz (ns.map D.int)),x1,x2,x3,x4,x5,x6,x7,.dat rr.D,.dat s.D]/\s.ok S3/\s.bt 4/\s.dep<=i+2/\i+2<=(s.pl false).num,⟨.ei rr rr,_,_,_,_,_,_,_,rfl,⟨yr.ok,yr.ok⟩,⟨yr.bt,yr.bt⟩,by show max rr.dep rr.dep+1<=2;omega,by show 2<=(rr.pl false).num+(rr.pl false).num;rw[pr,nr];decide⟩,?_,?_⟩
  ·rintro i δ hi ⟨s,x1,x2,x3,x4,x5,x6,x7,rfl,so,sb,sd,sn⟩;walk_at "";refine⟨.bo (.ei rr rr) s,rfl,⟨⟨yr.ok,yr.ok⟩,so⟩,⟨⟨yr.bt,yr.bt⟩,sb⟩,by show max (max rr.dep rr.dep+1) s.dep+1<=_;omega,?_⟩;show i+1+2<=((rr.pl false).num+(rr.pl false).num)*(s.pl false).num;rw[pr,nr];omega
  ·rintro δ ⟨s,x1,x2,x3,x4,x5,x6,x7,rfl,so,sb,sd,sn⟩;replace sd:s.dep<=39+2:=sd;replace sn:39+2<=(s.pl false).num:=sn;have ys:Sy s:=⟨by omega,so,sb⟩;rw[hK4];refine ak λK5 hK5=>?_;walk_at "";refine⟨0,s,rr,[],[],[],_,rfl,by decide,by decide,ys,yr,by decide,⟨⟨rfl,(λ_ h=>nomatch h),(λ_ h=>nomatch h),(λ_ h=>nomatch h)⟩,(λ_ h=>nomatch h)⟩,λz=>absurd z (by decide),?_⟩;rw[wa λf=>by have:=f.1;omega];walk_at "";refine⟨some (true,s.D),rfl,?_⟩;unfold Bz;walk_at "";refine⟨(lf ys.dep).1,(lf ys.dep).2,?_⟩;rw[hK5];clear hK5 hK4 hK3 hK2;refine ak λK6 hK6=>?_;walk_at "";refine⟨rr,S3,rfl,by omega,yr.ok,by decide,λf=>?_,λf=>f (by rw[pr,hr2];exact⟨by decide,by decide⟩)⟩;have ec:csD (rr.pl false).cs=.lst [.lst [rr.D]]:=by rw[pr,hr2];rfl
   have en:D.nds [.lst [rr.D]]=true/\D.dps [.lst [rr.D]]<=60:=by rw[hr2];exact⟨rfl,by decide⟩
   rw[ec];walk_at "";refine⟨en.1,en.2,by decide +kernel,by decide,by decide,y6 rfl (by omega) ?_⟩;walk_at "";rw[hK6];walk_at "";exact⟨by decide,q⟩
theorem jC:rl P w K mg base "NoQuotient.__init__" "top" "top" false i_NoQuotient:=λR C fI fd F ek rk m=>F.ok (N:=["self","top"]) ⟨rfl,rfl,rfl,by decide +kernel,rfl,by decide +kernel,by decide +kernel⟩ nU λcdv A outer s H vs Q E hr h=>⟨_,gY (eO (nZ rk ek rfl m (aM (bA (i:=0) rfl (.inl rfl)) (aM rg ci)))) (hV (oN ek (bA (i:=0) rfl (.inl rfl)) (bA (i:=1) rfl (.inl rfl)))),uj h⟩
theorem ju:BF "NoQuotient.__init__" "top" i_NoQuotient:=λ_ _ _ _ _ _ us hl=>match us,hl with | [_,_],_=>rfl
theorem sg:rl P w K mg base "NoName.__init__" "name" "name" true i_NoName:=λR C fI fd F ek rk m=>F.ok (N:=["self","name"]) ⟨rfl,rfl,rfl,by decide +kernel,rfl,by decide +kernel,by decide +kernel⟩ nU λcdv A outer s H vs Q E hr h=>⟨_,gY (eO (nZ rk ek rfl m (aM (bA (i:=0) rfl (.inl rfl)) (aM (AF (bA (i:=1) rfl (.inl rfl))) ci)))) (hV (oN ek (bA (i:=0) rfl (.inl rfl)) (bA (i:=1) rfl (.inl rfl)))),wR h⟩
theorem rM:BF "NoName.__init__" "name" i_NoName:=λ_ _ _ _ _ _ us hl=>match us,hl with | [_,_],_=>rfl
theorem oR:rl P w K mg base "TooMany.__init__" "saying" "saying" false i_TooMany:=λR C fI fd F ek rk m=>F.ok (N:=["self","saying"]) ⟨rfl,rfl,rfl,by decide +kernel,rfl,by decide +kernel,by decide +kernel⟩ nU λcdv A outer s H vs Q E hr h=>⟨_,gY (eO (nZ rk ek rfl m (aM (bA (i:=0) rfl (.inl rfl)) (aM rg ci)))) (hV (oN ek (bA (i:=0) rfl (.inl rfl)) (bA (i:=1) rfl (.inl rfl)))),uj h⟩
theorem oq:BF "TooMany.__init__" "saying" i_TooMany:=λ_ _ _ _ _ _ us hl=>match us,hl with | [_,_],_=>rfl
end Lw
namespace Lw
open PySem L2 DL
theorem all_mk{l:PySem.W.OpenLaw}{w:World}{K:Zf}{h:Heap}{mg:Str->Zd}(X:K.In h)(G:h.Ns mainGlobals mg)(hfa:mg "law"=some (.ref fa))(f:Hd.Facts K):∃fd:FuncData,(∀(s:Shared) (v:Value),BindsTo s fd ⟨[v],[]⟩ [("_law_script",v)])/\∀base:Heap,K.In base->base.Ns mainGlobals mg->fG l.prog w K mg base CX0 69 fa fd ["_law_script"] (zC K):=by
 obtain⟨⟨_,_,_,_,_,_,_,_,_,_,a,l1,c,k⟩⟩:=f.q49;obtain⟨_,al,an⟩:=f.g_OPPOSITES;obtain⟨_,ai⟩:=f.g_MOST_ROWS;obtain⟨_,aa⟩:=f.g_MOST_CASES;obtain⟨_,_,_,_,aq,ao⟩:=f.g_ENDLESS;obtain⟨_,_,_,_,_,_,_,_,_,_,aj,ab,ah⟩:=f.g_ALWAYS_SO;have e:=hfa.symm.trans (IB X G a)
 cases e
 have F:=yy (st:=s_law) l1 c k
 refine⟨_,?_,λbase _ _=>by obtain⟨R,NR,er⟩:=f.ef.er (P:=l.prog) (w:=w) (base:=base) X G jC ju sg rM oR oq;exact DB (AH ⟨l.prog,w,K,mg,base,f.q0.fd2 X G λ_ _ _ _ _ _ _ _=>rfl,f.q1.fd2 X G λ_ _ _ _ _ _ _ _=>rfl,f.q2.fd2 X G λ_ _ _ _ _ _ _ _=>rfl,f.q3.fd2 X G λ_ _ _ _ _ _ _ _=>rfl,f.q4.fd2 X G λ_ _ _ _ _ _ _ _=>rfl,f.q5.fd1 X G λ_ _ _ _ _ _ _=>rfl,f.q6.fd2 X G λ_ _ _ _ _ _ _ _=>rfl,f.q7.fd1 X G λ_ _ _ _ _ _ _=>rfl,f.q8.fd2 X G λ_ _ _ _ _ _ _ _=>rfl,f.q9.fd2 X G λ_ _ _ _ _ _ _ _=>rfl,f.q10.fd3 X G λ_ _ _ _ _ _ _ _ _=>rfl,f.q11.fd3 X G λ_ _ _ _ _ _ _ _ _=>rfl,f.q12.fd2 X G λ_ _ _ _ _ _ _ _=>rfl,f.q13.fd1 X G λ_ _ _ _ _ _ _=>rfl,f.q14.fd2 X G λ_ _ _ _ _ _ _ _=>rfl,f.q15.fd1 X G λ_ _ _ _ _ _ _=>rfl,f.q16.fd2 X G λ_ _ _ _ _ _ _ _=>rfl,f.q17.fd2 X G λ_ _ _ _ _ _ _ _=>rfl,f.q18.fd1 X G λ_ _ _ _ _ _ _=>rfl,f.q19.fd2 X G λ_ _ _ _ _ _ _ _=>rfl,f.q20.fd2 X G λ_ _ _ _ _ _ _ _=>rfl,f.q21.fd1 X G λ_ _ _ _ _ _ _=>rfl,f.q22.fd1 X G λ_ _ _ _ _ _ _=>rfl,f.q23.fd3 X G λ_ _ _ _ _ _ _ _ _=>rfl,f.q24.fd4 X G λ_ _ _ _ _ _ _ _ _ _=>rfl,f.q25.fd2 X G λ_ _ _ _ _ _ _ _=>rfl,f.q26.fd3 X G λ_ _ _ _ _ _ _ _ _=>rfl,f.q27.fd3 X G λ_ _ _ _ _ _ _ _ _=>rfl,f.q28.fd1 X G λ_ _ _ _ _ _ _=>rfl,f.q29.fd3 X G λ_ _ _ _ _ _ _ _ _=>rfl,f.q30.fd3 X G λ_ _ _ _ _ _ _ _ _=>rfl,f.q31.fd2 X G λ_ _ _ _ _ _ _ _=>rfl,f.q32.fd2 X G λ_ _ _ _ _ _ _ _=>rfl,f.q33.fd2 X G λ_ _ _ _ _ _ _ _=>rfl,f.q34.fd3 X G λ_ _ _ _ _ _ _ _ _=>rfl,f.q35.fd2 X G λ_ _ _ _ _ _ _ _=>rfl,f.q36.fd2 X G λ_ _ _ _ _ _ _ _=>rfl,f.q37.fd3 X G λ_ _ _ _ _ _ _ _ _=>rfl,f.q38.fd3 X G λ_ _ _ _ _ _ _ _ _=>rfl,f.q39.fd2 X G λ_ _ _ _ _ _ _ _=>rfl,f.q40.fd2 X G λ_ _ _ _ _ _ _ _=>rfl,f.q41.fd2 X G λ_ _ _ _ _ _ _ _=>rfl,f.q42.fd1 X G λ_ _ _ _ _ _ _=>rfl,f.q43.fd2 X G λ_ _ _ _ _ _ _ _=>rfl,f.q44.fd2 X G λ_ _ _ _ _ _ _ _=>rfl,f.q45.fd1 X G λ_ _ _ _ _ _ _=>rfl,f.q46.fd5 X G λ_ _ _ _ _ _ _ _ _ _ _=>rfl,f.q47.fd1 X G λ_ _ _ _ _ _ _=>rfl,f.q48.fd5 X G λ_ _ _ _ _ _ _ _ _ _ _=>rfl,HG X G f.z0,HG X G f.z1,HG X G f.z2,HG X G f.z3,HG X G f.z4,HG X G f.z5,HG X G f.z6,HG X G f.z7,HG X G f.z8,HG X G f.z9,HG X G f.z10,HG X G f.z11,HG X G f.z12,HG X G f.z13,⟨⟨_,IB X G al,an⟩⟩,⟨⟨_,IB X G ai⟩⟩,⟨⟨_,IB X G aa⟩⟩,⟨⟨_,_,_,IB X G aq,ao,rfl,rfl⟩⟩,⟨⟨_,_,_,_,_,_,_,_,IB X G aj,ab,rfl,rfl,ah,rfl,rfl⟩⟩,R,NR,er⟩ F)⟩
 exact λs v=>.of_eq rfl
end Lw
open PySem PySem.W PyProof.Rows
theorem PySem.Challenge.cw_rowbetween_k44_too_many_holds : PySem.Challenge.rw_rowbetween_k44_too_many.Holds := by
 refine Hd.half λYP d K hY hdf hdn f=>?_;refine DL.walkB (l:=PySem.Challenge.rw_rowbetween_k44_too_many) (k:=69) (x:="_law_script") rfl hdf ⟨rfl,by decide,by decide⟩ hY λw mg fa h KX G hmg=>?_;rw[hdn] at hmg;exact Lw.all_mk KX G hmg (f w)
#print axioms PySem.Challenge.cw_rowbetween_k44_too_many_holds
