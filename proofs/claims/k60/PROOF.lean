import PyProof.Rows.All
import Wide.All
import OpenK.AllK
import Wide.FinOn
import Lean
import PyProof.EqAt
import PyProof.EqKinds
import PyProof.TupleCall
import KE.LcSums
import PySem.Challenge.RW_rowbetween_k60_no_stretch
set_option Elab.async false
set_option linter.all false
set_option maxRecDepth 100000
set_option maxHeartbeats 4000000
local macro_rules|`(command|def $i:declId $s:optDeclSig $v:declVal)=>`(command|noncomputable def $i:declId $s:optDeclSig $v:declVal)|`(command|abbrev $i:declId $s:optDeclSig $v:declVal)=>`(command|noncomputable abbrev $i:declId $s:optDeclSig $v:declVal)
abbrev Za:=List (Int×Int)
abbrev Zb:=List PySem.Str
abbrev Zc:=List PySem.Value
abbrev Zd:=Option PySem.Value
abbrev Ze:=List Int
abbrev Zf:=PySem.W.Frag
local macro_rules | `(tactic| walk_at "or") => `(tactic| (intro d0 R h; rcases d0 with _ | ⟨a, _ | ⟨b, _ | ⟨c, l⟩⟩⟩; exact False.elim h; (cases a <;> first | exact False.elim h | (repeat first | exact ⟨_, rfl, h⟩ | exact ⟨_, _, rfl, h⟩ | exact ⟨_, _, _, rfl, h⟩ | exact .inl ⟨_, rfl, h⟩ | exact .inl ⟨_, _, rfl, h⟩ | exact .inl ⟨_, _, _, rfl, h⟩ | apply Or.inr)); (cases a <;> first | exact False.elim h | (cases b <;> first | exact False.elim h | (repeat first | exact ⟨_, rfl, h⟩ | exact ⟨_, _, rfl, h⟩ | exact ⟨_, _, _, rfl, h⟩ | exact .inl ⟨_, rfl, h⟩ | exact .inl ⟨_, _, rfl, h⟩ | exact .inl ⟨_, _, _, rfl, h⟩ | apply Or.inr))); (cases a <;> first | exact False.elim h | (cases b <;> exact False.elim h))))
local macro_rules | `(tactic| walk_at "v3") => `(tactic| first | exact Or.inl rfl | exact Or.inr (Or.inl rfl) | exact Or.inr (Or.inr rfl))
local macro_rules | `(tactic| walk_at "v2") => `(tactic| first | exact Or.inl rfl | exact Or.inr rfl)
local macro_rules | `(tactic| walk_at "v1") => `(tactic| first | exact .inl rfl | exact .inr rfl | assumption)
def Hv:=@List.length_map
def Hw:=@PySem.wpAny_bind
def Hx:=@List.mem_cons_of_mem
def Hy:=@PySem.Heap.get?_push_of_some
def Hz:=@Nat.le_trans
def HA:=@List.mem_map
def HB:=@List.mem_cons_self
def HC:=@List.length_append
def HD:=@Nat.le_refl
def HE:=@Bool.false_ne_true
def HF:=@Classical.byContradiction
def HG:=@List.mem_singleton
def HH:=@List.mem_filter
def HI:=@PySem.wpAny_pure
def HJ:=@List.length_cons
def HK:=@List.mem_cons
def HL:=@List.getElem?_eq_some_iff
def HM:=@List.getElem?_map
def HN:=@PySem.Heap.lt_size
def HP:=@List.mem_append_right
def HQ:=@if_neg
def HR:=@Option.some.inj
def HS:=@List.map_append
def HU:=@if_pos
def HV:=@List.mem_append_left
def HW:=@Nat.lt_of_lt_of_le
def HX:=@PySem.Heap.get?_push_size
def HY:=@List.mem_of_getElem?
def HZ:=@List.mem_append
def Ia:=@List.size_toArray
def Ib:=@List.getElem?_append_right
def Ic:=@List.length_replicate
def Ie:=@List.length_singleton
def Ig:=@Rat.intCast_mul
def Ih:=@PySem.PassesOwn.never
def Ii:=@List.filter_cons_of_neg
def Ij:=@List.getElem?_append_left
def Ik:=@List.take_length
def Il:=@List.getElem?_set_self
def Im:=@List.map_cons
def Io:=@List.getElem?_set_ne
def Ip:=@PySem.intBits_mul_le
def Iq:=@Nat.ne_of_lt
def Ir:=@Nat.lt_irrefl
def Iu:=@Bool.and_eq_true_iff
def Iv:=@List.getElem?_eq_getElem
def Iw:=@PySem.Heap.get?_update_other
def Iy:=@Int.fmod_nonneg_of_pos
def Iz:=@PySem.intBits_fdiv_le
def IA:=@PySem.W.mg_none_of
def IB:=@PySem.wpAny_field
def IC:=@Rat.mul_nonneg
def ID:=@List.filter_cons_of_pos
def IE:=@List.append_nil
def IF:=@decide_eq_true
def IG:=@PySem.W.kia_one
def IH:=@List.getElem?_replicate
def II:=@PySem.Heap.get?_update_self
def IJ:=@List.length_filter_le
def IK:=@List.length_take
def IL:=@Int.fmod_lt_of_pos
def IM:=@List.getD_eq_getElem?_getD
def IN:=@List.of_mem_zip
def IP:=@Int.mul_ne_zero
def IQ:=@decide_eq_false
def IR:=@PyProof.Rows.slot_tuple_getitem
def IS:=@List.length_set
def IT:=@List.getElem?_eq_none
def IU:=@PySem.wpAny_mono
def IV:=@Int.mul_left_comm
def IW:=@PySem.wpAny_loadPart_at
def IX:=@List.map_map
def IY:=@PySem.Obj.data_mapFields
def IZ:=@List.nodup_cons
def Ja:=@Int.mul_comm
def Jb:=@PySem.wpAny_holding
def Jc:=@List.filterMap_cons
def Jd:=@Rat.mul_pos
def Je:=@PySem.wpAny_newObj_type
def Jf:=@congrArg
def Jg:=@PyProof.Rows.callWith_type1
def Jh:=@PySem.wpAny_callSpecial?_slot
def Ji:=@Int.mul_assoc
def Jj:=@Array.getElem?_eq_some_iff
def Jk:=@Rat.intCast_lt_intCast
def Jl:=@List.length_range
def Jm:=@PySem.Heap.size_push
def Jn:=@PySem.Obj.isFreed_of_fields
def Jo:=@Rat.intCast_add
def Jp:=@Nat.zero_le
def Jq:=@List.mem_of_mem_take
def Jr:=@Ne.symm
def Js:=@PySem.W.mg_of
def Jt:=@List.mem_range
def Ju:=@PySem.wpAny_setField
def Jv:=@PySem.intBits_add_le
def Jw:=@PySem.wpAny_truthy_bool
def Jx:=@Nat.le_succ_of_le
def Jy:=@List.length_zip
def Jz:=@PySem.F.slot_tuple_iterator_next
def JA:=@PySem.wpAny_call_entry
def JB:=@List.all_eq_true
def JC:=@Nat.ne_of_gt
def JD:=@PySem.wpAny_setField_rec
def JE:=@PySem.wpAny_seqItems
def JF:=@Nat.mul_le_mul
def JG:=@List.drop_eq_getElem_cons
def JH:=@Nat.pow_le_pow_right
def JI:=@PySem.wpAny_passesOwn
def JJ:=@Rat.mul_eq_zero
def JK:=@Nat.le_of_lt
def JL:=@PySem.mem_of_lookup
def JM:=@Array.length_toList
def JN:=@List.any_cons
def JO:=@List.length_eq_zero_iff
def JP:=@Int.fdiv_mul_cancel
def JQ:=@PySem.wpAny_isSubtype_exc
def JR:=@List.length_drop
def JS:=@List.eq_nil_of_length_eq_zero
def JT:=@PySem.intBits_neg_le
def JU:=@PySem.Calls.callWith_builtin
def JV:=@List.length_pos_of_mem
def JW:=@PySem.tupleKind_room_in1
def JX:=@List.contains_cons
def JY:=@List.map_singleton
def JZ:=@Array.getElem?_toList
def J0:=@Nat.succ.inj
def J1:=@Int.zero_add
def J2:=@Int.dvd_gcd_mul_iff_dvd_mul
def J3:=@PySem.wpAny_standAt
def J4:=@PySem.wpAny_pyIter_list
def J5:=@List.append_assoc
def J6:=@Nat.lt_trichotomy
def J7:=@of_decide_eq_true
def J8:=@Nat.mul_le_mul_right
def J9:=@Nat.le_add_right
def Ka:=@beq_eq_false_iff_ne
def Kb:=@List.length_reverse
def Kc:=@Nat.mul_add
def Ke:=@Nat.mul_le_mul_left
def Kf:=@List.map_nil
def Kg:=@Int.add_zero
def Kh:=@Int.mul_fdiv_cancel_left
def Ki:=@Int.le_of_lt
def Kj:=@PySem.wpAny_execs_nil
def Kk:=@Bool.eq_iff_iff
def Kl:=@PySem.wpAny_Call_Name_kw
def Km:=@PySem.F.plainAttrs_list
def Kn:=@List.foldl_cons
def Ko:=@Nat.exists_eq_add_of_le
def Kq:=@Option.map_eq_some_iff
def Kr:=@List.zipWith_cons_cons
def Ks:=@PySem.W.kitx_dict
def Kt:=@Nat.lt_succ_of_lt
def Ku:=@List.foldl_append
def Kv:=@List.take_zero
def Kw:=@PySem.F.slot_dict_get
def Kx:=@Bool.beq_eq_decide_eq
def Ky:=@Int.fmod_def
def Kz:=@PySem.builtinLookup_eq_fast
def KA:=@Nat.le_div_iff_mul_le
def KB:=@List.take_append_drop
def KC:=@List.map_zipWith
def KD:=@PySem.Heap.get?_none_of_le
def KF:=@PySem.Calls.evalArgs_plain
def KG:=@PySem.wpAny_updateSeq_pair
def KH:=@PySem.codeAny_call_builtin
def KI:=@PySem.wpAny_onRaise
def KJ:=@PySem.SeqAt.EqAt.same
def KL:=@PySem.F.slot_zip_next
def KM:=@Rat.intCast_inj
def KN:=@Int.natCast_add
def KO:=@List.filter_eq_self
def KP:=@PySem.codeAny_mono
def KQ:=@Nat.lt_asymm
def KR:=@Bool.or_true
def KS:=@Nat.mul_comm
set_option compiler.extract_closed false
set_option genSizeOf false
set_option bootstrap.genMatcherCode false
namespace L2
open PySem
def bM(s:Stmt):Arguments:=match s with
 | .FunctionDef _ a _ _ _ _ _ _ _ _=>a
 | _=>{ posonlyargs:=[],args:=[],vararg:=none,kwonlyargs:=[],kw_defaults:=[],kwarg:=none,defaults:=[] }
def aU(s:Stmt):List Stmt:=match s with
 | .FunctionDef _ _ b _ _ _ _ _ _ _=>b
 | _=>[]
def ak(s:Stmt):Scope:=match s with
 | .FunctionDef _ _ _ _ _ _ sc _ _ _=>sc
 | _=>{ kind:=.function,names:=[],isGenerator:=false,isCoroutine:=false }
def nF(s:Stmt)(j:Nat):Stmt:=match s with
 | .ClassDef _ _ _ body _ _ _ _ _ _ _=>body.getD j (.Pass ⟨0,0,0,0⟩)
 | _=>.Pass ⟨0,0,0,0⟩
end L2
namespace DL
open PySem PySem.Spec PyProof.Rows L2
def txt(D:List (Str×Str)):List (Str×KTD.Dat):=D.map λp=>(p.1,KTD.Dat.flat (.str p.2))
structure FdK(K:Zf)(x:Str)(st:Stmt):Prop where
 ex:∃(f:Addr) (oc:Value) (od an:Option Addr) (sl:Array (Zd)) (kV dc pm cd ct:Value),PySem.W.nsIn K mainGlobals x=some (some (.ref f))/\K.lookup f=some ⟨oc,od,.func (PySem.W.fnOf x x (bM st) (aU st) (ak st) .none kV dc pm an cd ct),sl⟩/\PySem.W.codeIn K cd x=true/\PySem.W.keepIn K (.ref f)=true
abbrev bmV:List Value:=[.type "ValueError",.type "Exception",.type "BaseException",.type "object"]
def mr(K:Zf)(N:Addr):Bool:=match K.lookup N with
 | some ⟨_,_,.dict es _,_⟩=>es.toList.all λe=>match e.key with | .str _ _=>true | _=>false
 | _=>false
structure KCls(K:Zf)(C N:Addr)(mro:Zc):Prop where
 ex:∃nm q bs sn sub ab col dd k0 k1 k2 k3 k5,K.lookup C=some (excClassObj nm q C N bs mro true sn sub ab col dd k0 k1 k2 k3 k5 "ValueError.__new__")
structure RcK(K:Zf)(xR:Str)(R NR:Addr):Prop where
 at_:PySem.W.nsIn K mainGlobals xR=some (some (.ref R))
 cl:KCls K R NR bmV
 ns:mr K NR=true
 ini:PySem.W.nsIn K NR "__init__"=some none
 sa:PySem.W.nsIn K NR "__setattr__"=some none
 kp:PySem.W.keepIn K (.ref R)=true
 sp:PySem.W.specialIn K (.ref R) "__getattribute__"=some (some (.builtin "type.__getattribute__"))
 rd:PySem.W.readsIn K R (.type "type")=true
 fc:PySem.W.findCls K (.ref R) (.type "type") "__init__"=some (.val (.builtin "ValueError.__init__"))
structure XcK(K:Zf)(x f:Str)(R NR:Addr)(q:Str)(st:Stmt):Prop where
 ex:∃C N fI,PySem.W.nsIn K mainGlobals x=some (some (.ref C))/\KCls K C N (.ref R::bmV)/\mr K N=true/\PySem.W.nsIn K N "__init__"=some (some (.ref fI))/\PySem.W.nsIn K N "__setattr__"=some none/\PySem.W.nsIn K N f=some none/\PySem.W.nsIn K NR f=some none /\
  PySem.W.keepIn K (.ref C)=true/\∃od kV dc pm an cd ct sl,K.lookup fI=some ⟨.type "function",od,.func (PySem.W.fnOf "__init__" q (bM st) (aU st) (ak st) .none kV dc pm an cd ct),sl⟩/\PySem.W.codeIn K cd q=true/\PySem.W.keepIn K (.ref fI)=true
def jS:List (Str×Str):=[("NoQuotient","top"),("NoName","name"),("TooMany","saying")]
def xgB(K:Zf)(C:Addr):Bool :=
 PySem.W.findIn K (.ref C) "__getattribute__"==some (some (.builtin "BaseException.__getattribute__"))&&PySem.W.findIn K (.ref C) "__getattr__"==some none&&PySem.W.mroIn K C (.type "BaseException")==some true&&PySem.W.mroIn K C (.type "object")==some true&&PySem.W.hasDictIn K C &&
 PySem.W.findIn K (.ref C) "__class__"==some (some (.builtin "object.__class__"))&&PySem.W.specialIn K (.builtin "object.__class__") "__get__"==some (some (.builtin "getset_descriptor.__get__"))&&PySem.W.takesIn K (.builtin "object.__class__")==some true
def jG(K:Zf):Bool:=jS.all λp=>match PySem.W.nsIn K mainGlobals p.1 with
 | some (some (.ref C))=>xgB K C&&PySem.W.findIn K (.ref C) p.2==some none&&PySem.W.kitOne K (.ref C) (.type "ValueError")==some true&&PySem.W.kitOne K (.type "NoneType") (.ref C)==some false &&
  jS.all λr=>match PySem.W.nsIn K mainGlobals r.1 with
   | some (some (.ref C'))=>PySem.W.kitOne K (.ref C) (.ref C')==some (p.1==r.1)
   | _=>false
 | _=>false
structure ErF(K:Zf)(s1 s2 s3:Stmt):Prop where
 ex:∃R NR,RcK K "RowError" R NR/\xgB K R=true/\PySem.W.kitOne K (.ref R) (.type "ValueError")=some true/\jG K=true/\XcK K "NoQuotient" "top" R NR "NoQuotient.__init__" s1/\XcK K "NoName" "name" R NR "NoName.__init__" s2/\XcK K "TooMany" "saying" R NR "TooMany.__init__" s3
end DL
namespace Lw
open PySem L2 DL
def top(i:Nat):Stmt:=PySem.Challenge.pw_rowbetween_k60_no_stretch.main.body.getD i (.Pass ⟨0,0,0,0⟩)
abbrev s_common_divisor:Stmt:=top 6
abbrev s_made:Stmt:=top 7
abbrev s_plus:Stmt:=top 8
abbrev s_times:Stmt:=top 9
abbrev s_less:Stmt:=top 10
abbrev s_is_row:Stmt:=top 22
abbrev s_mark_names:Stmt:=top 23
abbrev s_names_of:Stmt:=top 24
abbrev s_tops_of:Stmt:=top 25
abbrev s_top_of_sum:Stmt:=top 26
abbrev s_row_is_so:Stmt:=top 27
abbrev s_part_is_so:Stmt:=top 28
abbrev s_is_so:Stmt:=top 29
abbrev s_contrary:Stmt:=top 30
abbrev s_plain_part:Stmt:=top 31
abbrev s_plain:Stmt:=top 32
abbrev s__law_cell:Stmt:=top 52
abbrev s_put_together:Stmt:=top 33
abbrev s_cases_within:Stmt:=top 34
abbrev s_cases:Stmt:=top 35
abbrev s_added:Stmt:=top 37
abbrev s_weight_of:Stmt:=top 38
abbrev s_alone:Stmt:=top 39
abbrev s_shortened:Stmt:=top 40
abbrev s_crossed:Stmt:=top 41
abbrev s_without:Stmt:=top 42
abbrev s_taken_out:Stmt:=top 43
abbrev s_bound_on:Stmt:=top 44
abbrev s_tighter:Stmt:=top 13
abbrev s_number_in:Stmt:=top 17
abbrev s_piece_for:Stmt:=top 45
abbrev s_found_back:Stmt:=top 46
abbrev s_wider:Stmt:=top 14
abbrev s_lies_below:Stmt:=top 15
abbrev s_put_in:Stmt:=top 16
abbrev s_stretch:Stmt:=top 48
abbrev s_filled:Stmt:=top 50
abbrev s__law_purse:Stmt:=top 53
abbrev s__law_take:Stmt:=top 54
abbrev s__law_weight:Stmt:=top 55
abbrev s__law_names:Stmt:=top 56
abbrev s__law_row:Stmt:=top 57
abbrev s__law_wild:Stmt:=top 58
abbrev s__law_joined:Stmt:=top 59
abbrev s__law_fits:Stmt:=top 60
abbrev s__law_grown:Stmt:=top 61
abbrev s__law_saying:Stmt:=top 62
abbrev s__law_counts:Stmt:=top 63
abbrev s__law_caught:Stmt:=top 64
abbrev s__law_good:Stmt:=top 65
abbrev s_law:Stmt:=top 66
abbrev i_NoQuotient:Stmt:=nF (top 2) 0
abbrev i_NoName:Stmt:=nF (top 3) 0
abbrev i_TooMany:Stmt:=nF (top 4) 0
end Lw
namespace Hd
open PySem PySem.W PyProof.Rows
set_option maxRecDepth 100000
set_option maxHeartbeats 0
def kept(i:Nat):Stmt:=PySem.Challenge.pw_rowbetween_k60_no_stretch.main.body.getD i (.Pass ⟨0,0,0,0⟩)
def vw:Program:={ PySem.Challenge.pw_rowbetween_k60_no_stretch with main:={ PySem.Challenge.pw_rowbetween_k60_no_stretch.main with body:=[kept 1,kept 2,kept 3,kept 4,kept 6,kept 7,kept 8,kept 9,kept 10,kept 12,kept 13,kept 14,kept 15,kept 16,kept 17,kept 19,kept 20,kept 21,kept 22,kept 23,kept 24,kept 25,kept 26,kept 27,kept 28,kept 29,kept 30,kept 31,kept 32,kept 33,kept 34,kept 35,kept 37,kept 38,kept 39,kept 40,kept 41,kept 42,kept 43,kept 44,kept 45,kept 46,kept 48,kept 50,kept 52,kept 53,kept 54,kept 55,kept 56,kept 57,kept 58,kept 59,kept 60,kept 61,kept 62,kept 63,kept 64,kept 65,kept 66] } }
def xt(s:Shared):Bool:=xlAt vw [] s&&recOk (RowW.records (OpenRow.toRowW PySem.Challenge.rw_rowbetween_k60_no_stretch.row)) s
noncomputable def st0 (w:World) (os:OsState):Shared:=⟨boot_heap w.params,#[],boot_drawn,boot_toks,os⟩
noncomputable def rn (w:World) (os:OsState):=(topRun treeTable PySem.Challenge.pw_rowbetween_k60_no_stretch w 11 (some (Value.ref 6)) 5414 (st0 w os) (topStub PySem.Challenge.pw_rowbetween_k60_no_stretch))
theorem said:PySem.W.OpenLaw.wellSaid PySem.Challenge.rw_rowbetween_k60_no_stretch=true:=by
 rw[PySem.W.Fast.te9446332074065402090]
 kernel_rfl
end Hd
local macro_rules | `(tactic| walk_at "hf") => `(tactic| (unfold Hd.rn Hd.st0; (try rw [PySem.W.Fast.te14082659384304107361]); (try rw [PySem.W.Fast.te14364793385576792824]); (try rw [PySem.W.Fast.te5160383126252970620]); (try rw [PySem.W.Fast.te10880121769531294198]); (try rw [PySem.W.Fast.te14722251495701143533]); (try rw [PySem.W.Fast.te10994771534591457954]); (try rw [PySem.W.Fast.te479339242167458305]); (try rw [PySem.W.Fast.te16090120013241838585]); (try rw [PySem.W.Fast.te2386780881361962483]); (try rw [PySem.W.Fast.te11698064438423848299]); (try rw [PySem.W.Fast.te7317090234206586261]); (try rw [PySem.W.Fast.te7369524293546568484]); (try rw [PySem.W.Fast.te821141287760084731]); (try rw [PySem.W.Fast.te3399658132070893891]); (try rw [PySem.W.Fast.te7409074990110511671]); (try rw [PySem.W.Fast.te13664370479719496447]); (try rw [PySem.W.Fast.te5991557255702980513]); (try rw [PySem.W.Fast.te3247288618530077131]); (try rw [PySem.W.Fast.te5923862056798008813]); kernel_rfl))
namespace Hd
open PySem PySem.W PyProof.Rows
set_option maxRecDepth 100000
set_option maxHeartbeats 0
theorem d6{σ α β:Type}{o:Option σ}{f:σ->α}{g:σ->β}{x:α}{y:β}(a:o.map f=some x)(b:o.map g=some y):o.map (λs=>(f s,g s))=some (x,y):=by
 cases o with
 | none=>cases a
 | some s=>cases a;cases b;rfl
theorem rb{σ α β:Type}{o:Option σ}{f:σ->α}{g:σ->β}{x:α}{y:β}(a:o.map (λs=>(f s,g s))=some (x,y)):o.map f=some x:=by
 cases o with
 | none=>cases a
 | some s=>cases a;rfl
theorem gQ{σ α β:Type}{o:Option σ}{f:σ->α}{g:σ->β}{x:α}{y:β}(a:o.map (λs=>(f s,g s))=some (x,y)):o.map g=some y:=by
 cases o with
 | none=>cases a
 | some s=>cases a;rfl
theorem left(go:∀(w:World) (os:OsState),(rn w os).map (λs=>(staticsOk (importedModules PySem.Challenge.pw_rowbetween_k60_no_stretch.main.body) (boot_heap w.params) s.heap&&namesBound PySem.Challenge.pw_rowbetween_k60_no_stretch s.heap&&gensDone s&&laidKept (boot_heap w.params) s.heap,openSeen vw ["OPPOSITES"] (importedModules PySem.Challenge.pw_rowbetween_k60_no_stretch.main.body) xt true s,Yf s))=some (true,openGood vw ["OPPOSITES"],Ya w)):LeftO PySem.Challenge.pw_rowbetween_k60_no_stretch vw ["OPPOSITES"] xt Yf Ya 5414 true:=λw=>by
 obtain⟨⟨h,gs,d,k,os⟩,e1,e2⟩:=Kq.mp (boot_open (p:=PySem.Challenge.pw_rowbetween_k60_no_stretch) (N:=5414) (by kernel_rfl) (by decide) (λs=>rfl) w);obtain⟨rfl,rfl,rfl,rfl⟩:h=boot_heap w.params/\gs=#[]/\d=boot_drawn/\k=boot_toks:=by simpa using e2
 have size:((boot_heap w.params).isNs mainGlobals,(boot_heap w.params).objs.size,(boot_heap w.params).nsMap mainGlobals "__annotations__")=(true,11,some (Value.ref 6)):=by kernel_rfl
 simp only[Prod.mk.injEq] at size;obtain⟨z1,z2,z3⟩:=size;obtain⟨s,r1,r2⟩:=Kq.mp (go w os);simp only[Prod.mk.injEq] at r2;obtain⟨l1,l2,l3⟩:=r2;unfold openEnds;rw[e1];show (topFrom treeTable PySem.Challenge.pw_rowbetween_k60_no_stretch w 5414 (st0 w os)).map _=_;have t:topFrom treeTable PySem.Challenge.pw_rowbetween_k60_no_stretch w 5414 (st0 w os)=some s:=by
  unfold topFrom;rw[show (st0 w os).heap=boot_heap w.params from rfl,z1,z2,z3];unfold rn at r1;rw[r1];show (match _&&_&&_&&_ with | true=>_ | false=>_)=_;rw[l1]
 rw[t];exact Jf some (Prod.ext (by exact l2) (by exact l3))
theorem twoRows{α:Type}{Yf:Shared->α}{Ya:World->α}(row:String)(a:∀(w:World) (os:OsState),(rn (w.withFollow row false) os).map (λs=>(staticsOk (importedModules PySem.Challenge.pw_rowbetween_k60_no_stretch.main.body) (boot_heap (w.withFollow row false).params) s.heap&&namesBound PySem.Challenge.pw_rowbetween_k60_no_stretch s.heap&&gensDone s&&laidKept (boot_heap (w.withFollow row false).params) s.heap,openSeen vw ["OPPOSITES"] (importedModules PySem.Challenge.pw_rowbetween_k60_no_stretch.main.body) xt true s,Yf s))=some (true,openGood vw ["OPPOSITES"],Ya (w.withFollow row false)))(b:∀(w:World) (os:OsState),(rn (w.withFollow row true) os).map (λs=>(staticsOk (importedModules PySem.Challenge.pw_rowbetween_k60_no_stretch.main.body) (boot_heap (w.withFollow row true).params) s.heap&&namesBound PySem.Challenge.pw_rowbetween_k60_no_stretch s.heap&&gensDone s&&laidKept (boot_heap (w.withFollow row true).params) s.heap,openSeen vw ["OPPOSITES"] (importedModules PySem.Challenge.pw_rowbetween_k60_no_stretch.main.body) xt true s,Yf s))=some (true,openGood vw ["OPPOSITES"],Ya (w.withFollow row true))):∀(w:World) (os:OsState),(rn w os).map (λs=>(staticsOk (importedModules PySem.Challenge.pw_rowbetween_k60_no_stretch.main.body) (boot_heap w.params) s.heap&&namesBound PySem.Challenge.pw_rowbetween_k60_no_stretch s.heap&&gensDone s&&laidKept (boot_heap w.params) s.heap,openSeen vw ["OPPOSITES"] (importedModules PySem.Challenge.pw_rowbetween_k60_no_stretch.main.body) xt true s,Yf s))=some (true,openGood vw ["OPPOSITES"],Ya w) :=
 byRow2 row (P:=λw=>∀os:OsState,(rn w os).map (λs=>(staticsOk (importedModules PySem.Challenge.pw_rowbetween_k60_no_stretch.main.body) (boot_heap w.params) s.heap&&namesBound PySem.Challenge.pw_rowbetween_k60_no_stretch s.heap&&gensDone s&&laidKept (boot_heap w.params) s.heap,openSeen vw ["OPPOSITES"] (importedModules PySem.Challenge.pw_rowbetween_k60_no_stretch.main.body) xt true s,Yf s))=some (true,openGood vw ["OPPOSITES"],Ya w)) a b
theorem qc(w:World)(os:OsState):(rn (w.withFollow "special-get-raises" false) os).map (λs=>(staticsOk (importedModules PySem.Challenge.pw_rowbetween_k60_no_stretch.main.body) (boot_heap (w.withFollow "special-get-raises" false).params) s.heap&&namesBound PySem.Challenge.pw_rowbetween_k60_no_stretch s.heap&&gensDone s&&laidKept (boot_heap (w.withFollow "special-get-raises" false).params) s.heap,seen ((recsOf vw).map (·.name)) (ownsOf vw) [] { s with gens:=#[] },s.heap.bltView,s.heap.keysOk (looseW vw ["OPPOSITES"]) ((recsOf vw).map (·.name)) ((litsOf vw).map (·.1)) ((clssOf vw (looseW vw ["OPPOSITES"])).map (·.name))&&s.heap.accountedOkI (importedModules PySem.Challenge.pw_rowbetween_k60_no_stretch.main.body)&&s.heap.isNs mainGlobals&&s.heap.isNs builtinsNs&&tablesOk vw s.heap&&xt s&&(if true then s.gens.size==0 else !leftWithCleanup s.gens)))=some ((true),(expectedOf vw),(bltViewBooted),(true)):=by
 (refine d6 ?_ (d6 ?_ (d6 ?_ ?_)));(focus (walk_at "hf"));(focus (walk_at "hf"));(focus (walk_at "hf"));(focus (walk_at "hf"))
theorem AM(w:World)(os:OsState):(rn (w.withFollow "special-get-raises" false) os).map (λs=>staticsOk (importedModules PySem.Challenge.pw_rowbetween_k60_no_stretch.main.body) (boot_heap (w.withFollow "special-get-raises" false).params) s.heap&&namesBound PySem.Challenge.pw_rowbetween_k60_no_stretch s.heap&&gensDone s&&laidKept (boot_heap (w.withFollow "special-get-raises" false).params) s.heap)=some (true):=(rb (qc w os))
theorem Ch(w:World)(os:OsState):(rn (w.withFollow "special-get-raises" false) os).map (λs=>seen ((recsOf vw).map (·.name)) (ownsOf vw) [] { s with gens:=#[] })=some (expectedOf vw):=(rb (gQ (qc w os)))
theorem Ce(w:World)(os:OsState):(rn (w.withFollow "special-get-raises" false) os).map (λs=>s.heap.bltView)=some (bltViewBooted):=(rb (gQ (gQ (qc w os))))
theorem Bj(w:World)(os:OsState):(rn (w.withFollow "special-get-raises" false) os).map (λs=>s.heap.keysOk (looseW vw ["OPPOSITES"]) ((recsOf vw).map (·.name)) ((litsOf vw).map (·.1)) ((clssOf vw (looseW vw ["OPPOSITES"])).map (·.name))&&s.heap.accountedOkI (importedModules PySem.Challenge.pw_rowbetween_k60_no_stretch.main.body)&&s.heap.isNs mainGlobals&&s.heap.isNs builtinsNs&&tablesOk vw s.heap&&xt s&&(if true then s.gens.size==0 else !leftWithCleanup s.gens))=some (true):=(gQ (gQ (gQ (qc w os))))
theorem u9(w:World)(os:OsState):(rn (w.withFollow "special-get-raises" false) os).map (λs=>(tabsOk vw s,pinSeenD vw (drecsOf vw) s,plainSeenE vw (looseW vw ["OPPOSITES"]) s))=some ((true),(pinGoodD (drecsOf vw)),(plainGoodE vw (looseW vw ["OPPOSITES"]))):=by
 (refine d6 ?_ (d6 ?_ ?_));(focus (walk_at "hf"));(focus (walk_at "hf"));(focus (walk_at "hf"))
theorem zZ(w:World)(os:OsState):(rn (w.withFollow "special-get-raises" false) os).map (λs=>tabsOk vw s)=some (true):=(rb (u9 w os))
theorem Bx(w:World)(os:OsState):(rn (w.withFollow "special-get-raises" false) os).map (λs=>pinSeenD vw (drecsOf vw) s)=some (pinGoodD (drecsOf vw)):=(rb (gQ (u9 w os)))
theorem Bm(w:World)(os:OsState):(rn (w.withFollow "special-get-raises" false) os).map (λs=>plainSeenE vw (looseW vw ["OPPOSITES"]) s)=some (plainGoodE vw (looseW vw ["OPPOSITES"])):=(gQ (gQ (u9 w os)))
theorem ux(w:World)(os:OsState):(rn (w.withFollow "special-get-raises" false) os).map (λs=>(plainSeenD vw ["OPPOSITES"] s,wideSeen vw s,clsSeenW vw ["OPPOSITES"] s))=some ((plainGoodD vw ["OPPOSITES"]),(wideGood vw),(clsGoodW vw ["OPPOSITES"])):=by
 (refine d6 ?_ (d6 ?_ ?_));(focus (walk_at "hf"));(focus (walk_at "hf"));(focus (walk_at "hf"))
theorem A9(w:World)(os:OsState):(rn (w.withFollow "special-get-raises" false) os).map (λs=>plainSeenD vw ["OPPOSITES"] s)=some (plainGoodD vw ["OPPOSITES"]):=(rb (ux w os))
theorem Bl(w:World)(os:OsState):(rn (w.withFollow "special-get-raises" false) os).map (λs=>wideSeen vw s)=some (wideGood vw):=(rb (gQ (ux w os)))
theorem Cc(w:World)(os:OsState):(rn (w.withFollow "special-get-raises" false) os).map (λs=>clsSeenW vw ["OPPOSITES"] s)=some (clsGoodW vw ["OPPOSITES"]):=(gQ (gQ (ux w os)))
theorem AC(w:World)(os:OsState):(rn (w.withFollow "special-get-raises" false) os).map (λs=>openSeen vw ["OPPOSITES"] (importedModules PySem.Challenge.pw_rowbetween_k60_no_stretch.main.body) xt true s)=some (openGood vw ["OPPOSITES"]):=(d6 (Ch w os) (d6 (Ce w os) (d6 (Bj w os) (d6 (zZ w os) (d6 (Bx w os) (d6 (Bm w os) (d6 (A9 w os) (d6 (Bl w os) (Cc w os)))))))))
theorem all_a{α:Type}{Yf:Shared->α}{Ya:World->α}(h:∀(w:World) (os:OsState),(rn (w.withFollow "special-get-raises" false) os).map (λs=>Yf s)=some (Ya (w.withFollow "special-get-raises" false)))(w:World)(os:OsState) :
  (rn (w.withFollow "special-get-raises" false) os).map (λs=>(staticsOk (importedModules PySem.Challenge.pw_rowbetween_k60_no_stretch.main.body) (boot_heap (w.withFollow "special-get-raises" false).params) s.heap&&namesBound PySem.Challenge.pw_rowbetween_k60_no_stretch s.heap&&gensDone s&&laidKept (boot_heap (w.withFollow "special-get-raises" false).params) s.heap,openSeen vw ["OPPOSITES"] (importedModules PySem.Challenge.pw_rowbetween_k60_no_stretch.main.body) xt true s,Yf s))=some (true,openGood vw ["OPPOSITES"],Ya (w.withFollow "special-get-raises" false)):=d6 (AM w os) (d6 (AC w os) (h w os))
theorem pU(w:World)(os:OsState):(rn (w.withFollow "special-get-raises" true) os).map (λs=>(staticsOk (importedModules PySem.Challenge.pw_rowbetween_k60_no_stretch.main.body) (boot_heap (w.withFollow "special-get-raises" true).params) s.heap&&namesBound PySem.Challenge.pw_rowbetween_k60_no_stretch s.heap&&gensDone s&&laidKept (boot_heap (w.withFollow "special-get-raises" true).params) s.heap,seen ((recsOf vw).map (·.name)) (ownsOf vw) [] { s with gens:=#[] },s.heap.bltView,s.heap.keysOk (looseW vw ["OPPOSITES"]) ((recsOf vw).map (·.name)) ((litsOf vw).map (·.1)) ((clssOf vw (looseW vw ["OPPOSITES"])).map (·.name))&&s.heap.accountedOkI (importedModules PySem.Challenge.pw_rowbetween_k60_no_stretch.main.body)&&s.heap.isNs mainGlobals&&s.heap.isNs builtinsNs&&tablesOk vw s.heap&&xt s&&(if true then s.gens.size==0 else !leftWithCleanup s.gens)))=some ((true),(expectedOf vw),(bltViewBooted),(true)):=by
 (refine d6 ?_ (d6 ?_ (d6 ?_ ?_)));(focus (walk_at "hf"));(focus (walk_at "hf"));(focus (walk_at "hf"));(focus (walk_at "hf"))
theorem A8(w:World)(os:OsState):(rn (w.withFollow "special-get-raises" true) os).map (λs=>staticsOk (importedModules PySem.Challenge.pw_rowbetween_k60_no_stretch.main.body) (boot_heap (w.withFollow "special-get-raises" true).params) s.heap&&namesBound PySem.Challenge.pw_rowbetween_k60_no_stretch s.heap&&gensDone s&&laidKept (boot_heap (w.withFollow "special-get-raises" true).params) s.heap)=some (true):=(rb (pU w os))
theorem zO(w:World)(os:OsState):(rn (w.withFollow "special-get-raises" true) os).map (λs=>seen ((recsOf vw).map (·.name)) (ownsOf vw) [] { s with gens:=#[] })=some (expectedOf vw):=(rb (gQ (pU w os)))
theorem BD(w:World)(os:OsState):(rn (w.withFollow "special-get-raises" true) os).map (λs=>s.heap.bltView)=some (bltViewBooted):=(rb (gQ (gQ (pU w os))))
theorem Bu(w:World)(os:OsState):(rn (w.withFollow "special-get-raises" true) os).map (λs=>s.heap.keysOk (looseW vw ["OPPOSITES"]) ((recsOf vw).map (·.name)) ((litsOf vw).map (·.1)) ((clssOf vw (looseW vw ["OPPOSITES"])).map (·.name))&&s.heap.accountedOkI (importedModules PySem.Challenge.pw_rowbetween_k60_no_stretch.main.body)&&s.heap.isNs mainGlobals&&s.heap.isNs builtinsNs&&tablesOk vw s.heap&&xt s&&(if true then s.gens.size==0 else !leftWithCleanup s.gens))=some (true):=(gQ (gQ (gQ (pU w os))))
theorem vp(w:World)(os:OsState):(rn (w.withFollow "special-get-raises" true) os).map (λs=>(tabsOk vw s,pinSeenD vw (drecsOf vw) s,plainSeenE vw (looseW vw ["OPPOSITES"]) s))=some ((true),(pinGoodD (drecsOf vw)),(plainGoodE vw (looseW vw ["OPPOSITES"]))):=by
 (refine d6 ?_ (d6 ?_ ?_));(focus (walk_at "hf"));(focus (walk_at "hf"));(focus (walk_at "hf"))
theorem An(w:World)(os:OsState):(rn (w.withFollow "special-get-raises" true) os).map (λs=>tabsOk vw s)=some (true):=(rb (vp w os))
theorem BZ(w:World)(os:OsState):(rn (w.withFollow "special-get-raises" true) os).map (λs=>pinSeenD vw (drecsOf vw) s)=some (pinGoodD (drecsOf vw)):=(rb (gQ (vp w os)))
theorem zF(w:World)(os:OsState):(rn (w.withFollow "special-get-raises" true) os).map (λs=>plainSeenE vw (looseW vw ["OPPOSITES"]) s)=some (plainGoodE vw (looseW vw ["OPPOSITES"])):=(gQ (gQ (vp w os)))
theorem uR(w:World)(os:OsState):(rn (w.withFollow "special-get-raises" true) os).map (λs=>(plainSeenD vw ["OPPOSITES"] s,wideSeen vw s,clsSeenW vw ["OPPOSITES"] s))=some ((plainGoodD vw ["OPPOSITES"]),(wideGood vw),(clsGoodW vw ["OPPOSITES"])):=by
 (refine d6 ?_ (d6 ?_ ?_));(focus (walk_at "hf"));(focus (walk_at "hf"));(focus (walk_at "hf"))
theorem Aw(w:World)(os:OsState):(rn (w.withFollow "special-get-raises" true) os).map (λs=>plainSeenD vw ["OPPOSITES"] s)=some (plainGoodD vw ["OPPOSITES"]):=(rb (uR w os))
theorem BC(w:World)(os:OsState):(rn (w.withFollow "special-get-raises" true) os).map (λs=>wideSeen vw s)=some (wideGood vw):=(rb (gQ (uR w os)))
theorem BW(w:World)(os:OsState):(rn (w.withFollow "special-get-raises" true) os).map (λs=>clsSeenW vw ["OPPOSITES"] s)=some (clsGoodW vw ["OPPOSITES"]):=(gQ (gQ (uR w os)))
theorem Ci(w:World)(os:OsState):(rn (w.withFollow "special-get-raises" true) os).map (λs=>openSeen vw ["OPPOSITES"] (importedModules PySem.Challenge.pw_rowbetween_k60_no_stretch.main.body) xt true s)=some (openGood vw ["OPPOSITES"]):=(d6 (zO w os) (d6 (BD w os) (d6 (Bu w os) (d6 (An w os) (d6 (BZ w os) (d6 (zF w os) (d6 (Aw w os) (d6 (BC w os) (BW w os)))))))))
theorem all_b{α:Type}{Yf:Shared->α}{Ya:World->α}(h:∀(w:World) (os:OsState),(rn (w.withFollow "special-get-raises" true) os).map (λs=>Yf s)=some (Ya (w.withFollow "special-get-raises" true)))(w:World)(os:OsState) :
  (rn (w.withFollow "special-get-raises" true) os).map (λs=>(staticsOk (importedModules PySem.Challenge.pw_rowbetween_k60_no_stretch.main.body) (boot_heap (w.withFollow "special-get-raises" true).params) s.heap&&namesBound PySem.Challenge.pw_rowbetween_k60_no_stretch s.heap&&gensDone s&&laidKept (boot_heap (w.withFollow "special-get-raises" true).params) s.heap,openSeen vw ["OPPOSITES"] (importedModules PySem.Challenge.pw_rowbetween_k60_no_stretch.main.body) xt true s,Yf s))=some (true,openGood vw ["OPPOSITES"],Ya (w.withFollow "special-get-raises" true)):=d6 (A8 w os) (d6 (Ci w os) (h w os))
end Hd
structure Hd.Facts(K:Zf):Prop where
 q0:DL.FdK K "common_divisor" Lw.s_common_divisor
 q1:DL.FdK K "made" Lw.s_made
 q2:DL.FdK K "plus" Lw.s_plus
 q3:DL.FdK K "times" Lw.s_times
 q4:DL.FdK K "less" Lw.s_less
 q5:DL.FdK K "is_row" Lw.s_is_row
 q6:DL.FdK K "mark_names" Lw.s_mark_names
 q7:DL.FdK K "names_of" Lw.s_names_of
 q8:DL.FdK K "tops_of" Lw.s_tops_of
 q9:DL.FdK K "top_of_sum" Lw.s_top_of_sum
 q10:DL.FdK K "row_is_so" Lw.s_row_is_so
 q11:DL.FdK K "part_is_so" Lw.s_part_is_so
 q12:DL.FdK K "is_so" Lw.s_is_so
 q13:DL.FdK K "contrary" Lw.s_contrary
 q14:DL.FdK K "plain_part" Lw.s_plain_part
 q15:DL.FdK K "plain" Lw.s_plain
 q16:DL.FdK K "_law_cell" Lw.s__law_cell
 q17:DL.FdK K "put_together" Lw.s_put_together
 q18:DL.FdK K "cases_within" Lw.s_cases_within
 q19:DL.FdK K "cases" Lw.s_cases
 q20:DL.FdK K "added" Lw.s_added
 q21:DL.FdK K "weight_of" Lw.s_weight_of
 q22:DL.FdK K "alone" Lw.s_alone
 q23:DL.FdK K "shortened" Lw.s_shortened
 q24:DL.FdK K "crossed" Lw.s_crossed
 q25:DL.FdK K "without" Lw.s_without
 q26:DL.FdK K "taken_out" Lw.s_taken_out
 q27:DL.FdK K "bound_on" Lw.s_bound_on
 q28:DL.FdK K "tighter" Lw.s_tighter
 q29:DL.FdK K "number_in" Lw.s_number_in
 q30:DL.FdK K "piece_for" Lw.s_piece_for
 q31:DL.FdK K "found_back" Lw.s_found_back
 q32:DL.FdK K "wider" Lw.s_wider
 q33:DL.FdK K "lies_below" Lw.s_lies_below
 q34:DL.FdK K "put_in" Lw.s_put_in
 q35:DL.FdK K "stretch" Lw.s_stretch
 q36:DL.FdK K "filled" Lw.s_filled
 q37:DL.FdK K "_law_purse" Lw.s__law_purse
 q38:DL.FdK K "_law_take" Lw.s__law_take
 q39:DL.FdK K "_law_weight" Lw.s__law_weight
 q40:DL.FdK K "_law_names" Lw.s__law_names
 q41:DL.FdK K "_law_row" Lw.s__law_row
 q42:DL.FdK K "_law_wild" Lw.s__law_wild
 q43:DL.FdK K "_law_joined" Lw.s__law_joined
 q44:DL.FdK K "_law_fits" Lw.s__law_fits
 q45:DL.FdK K "_law_grown" Lw.s__law_grown
 q46:DL.FdK K "_law_saying" Lw.s__law_saying
 q47:DL.FdK K "_law_counts" Lw.s__law_counts
 q48:DL.FdK K "_law_caught" Lw.s__law_caught
 q49:DL.FdK K "_law_good" Lw.s__law_good
 q50:DL.FdK K "law" Lw.s_law
 z0:PySem.W.nsIn K PySem.mainGlobals "abs"=some none
 z1:PySem.W.nsIn K PySem.mainGlobals "sorted"=some none
 z2:PySem.W.nsIn K PySem.mainGlobals "tuple"=some none
 z3:PySem.W.nsIn K PySem.mainGlobals "len"=some none
 z4:PySem.W.nsIn K PySem.mainGlobals "max"=some none
 z5:PySem.W.nsIn K PySem.mainGlobals "zip"=some none
 z6:PySem.W.nsIn K PySem.mainGlobals "enumerate"=some none
 z7:PySem.W.nsIn K PySem.mainGlobals "range"=some none
 z8:PySem.W.nsIn K PySem.mainGlobals "reversed"=some none
 z9:PySem.W.nsIn K PySem.mainGlobals "dict"=some none
 z10:PySem.W.nsIn K PySem.mainGlobals "all"=some none
 z11:PySem.W.nsIn K PySem.mainGlobals "int"=some none
 z12:PySem.W.nsIn K PySem.mainGlobals "isinstance"=some none
 z13:PySem.W.nsIn K PySem.mainGlobals "ValueError"=some none
 z14:PySem.W.nsIn K PySem.mainGlobals "list"=some none
 ef:DL.ErF K Lw.i_NoQuotient Lw.i_NoName Lw.i_TooMany
 g_OPPOSITES:∃ga:PySem.Addr,PySem.W.nsIn K PySem.mainGlobals "OPPOSITES"=some (some (.ref ga))/\PyProof.Rows.KTD.tabLook (PyProof.Rows.KTD.datLooks λb=>K.lookup b) (λb=>K.lookup b) ga (DL.txt [("least","more"),("more","least"),("both","either"),("either","both")])=true
 g_MOST_ROWS:∃ga:PySem.Tok,PySem.W.nsIn K PySem.mainGlobals "MOST_ROWS"=some (some (.int 3 ga))
 g_MOST_CASES:∃ga:PySem.Tok,PySem.W.nsIn K PySem.mainGlobals "MOST_CASES"=some (some (.int 4 ga))
 g_ENDLESS:∃(ga:PySem.Addr) (od:Option PySem.Addr) (n:Nat) (sl:Array (Option PySem.Value)),PySem.W.nsIn K PySem.mainGlobals "ENDLESS"=some (some (.ref ga))/\K.lookup ga=some ⟨.type "tuple",od,.seq #[.none,.bool false] n,sl⟩
section
open PySem PySem.W PyProof.Rows
local macro_rules | `(tactic| o_head $H) => `(tactic| assumption)
theorem Hd.mk(H:PySem.Challenge.rw_rowbetween_k60_no_stretch.row.Holds):PySem.Challenge.rw_rowbetween_k60_no_stretch.row.Holds:=by k_head
end
section
open PySem PySem.W PyProof.Rows
noncomputable def Hd.ads:List Addr:=(Hd.mk.heap_1 {strHash:=λ_=>0,shareClass:=λ_=>0,mergeTok:=id,idOf:=λ_=>0,idOfShared:=λ_ _=>0,followText:=λ_=>false,idOfImm:=λ_=>0}).map (·.1)
theorem Hd.adr(P:Params):Hd.ads=(Hd.mk.heap_1 P).map (·.1):=by kernel_rfl
set_option maxRecDepth 100000 in
set_option maxHeartbeats 0 in
theorem Hd.keyA(w:World)(os:OsState):(Hd.rn (w.withFollow "special-get-raises" false) os).map (λs=>PySem.W.Hook.obs (PySem.W.kHook Hd.mk.heap_1 Hd.ads Hd.adr) s)=some (PySem.W.Hook.val (PySem.W.kHook Hd.mk.heap_1 Hd.ads Hd.adr) (w.withFollow "special-get-raises" false)):=by walk_at "hf"
set_option maxRecDepth 100000 in
set_option maxHeartbeats 0 in
theorem Hd.keyB(w:World)(os:OsState):(Hd.rn (w.withFollow "special-get-raises" true) os).map (λs=>PySem.W.Hook.obs (PySem.W.kHook Hd.mk.heap_1 Hd.ads Hd.adr) s)=some (PySem.W.Hook.val (PySem.W.kHook Hd.mk.heap_1 Hd.ads Hd.adr) (w.withFollow "special-get-raises" true)):=by walk_at "hf"
local macro_rules | `(tactic| o_head $H) => `(tactic| (
 refine PySem.W.holds_open (r:=PySem.Challenge.rw_rowbetween_k60_no_stretch.row) (q:=Hd.vw) (loose:=["OPPOSITES"]) (Xt:=Hd.xt)
  (XP:=PySem.W.XL Hd.vw []) (Yf:=PySem.W.Hook.obs $H) (Ya:=PySem.W.Hook.val $H) (YP:=PySem.W.Hook.says $H) (N:=5414)
  ?_ (PySem.W.Hook.of $H) (PySem.W.Hook.keeps $H) (λs e=>PySem.W.xl_of s (Iu.mp e).1)
  PySem.W.XL.keeps (by rfl) (by rfl) (by rfl) (λs e=>PySem.W.recFacts_of (Iu.mp e).2)
  (by rfl) (by first | assumption | decide +kernel) (by decide +kernel) ⟨rfl,rfl,rfl,rfl,rfl,by decide +kernel⟩ ?_ ?_
 (focus (refine Hd.left ?_;refine Hd.twoRows "special-get-raises" (Hd.all_a ?_) (Hd.all_b ?_);exact Hd.keyA;exact Hd.keyB))
 (focus w_witness2)))
set_option maxRecDepth 100000 in
set_option maxHeartbeats 0 in
theorem Hd.half(F:∀(YP:World->Heap->Prop) (d:DefRec) (K:Params->Zf),(∀(w:World) (h:Heap),YP w h->(K w.params).In h)->d.params.defaults=[]->d.name="law"->(∀w:World,Hd.Facts (K w.params))->PySem.W.WalkO Hd.vw ["OPPOSITES"] (PySem.W.XL Hd.vw []) YP PySem.Challenge.rw_rowbetween_k60_no_stretch.row.toRowW d [] (λf vs=>PySem.call f vs)):PySem.Challenge.rw_rowbetween_k60_no_stretch.Holds:=by
 w_on;refine PySem.W.holds_law Hd.said λsaid=>?_;o_head (PySem.W.kHook Hd.mk.heap_1 Hd.ads Hd.adr)
 k_fill
 refine F _ _ _ (λw h Y=>PySem.W.kIn_of Y) rfl rfl λw=>?_
 constructor
 iterate 51 (focus (exact⟨⟨_,_,_,_,_,_,_,_,_,_,by k_is,by k_is,by k_is,by k_is⟩⟩))
 ·k_is
 ·k_is
 ·k_is
 ·k_is
 ·k_is
 ·k_is
 ·k_is
 ·k_is
 ·k_is
 ·k_is
 ·k_is
 ·k_is
 ·k_is
 ·k_is
 ·k_is
 ·exact⟨⟨_,_,⟨by k_is,⟨⟨_,_,_,_,_,_,_,_,_,_,_,_,_,by k_is⟩⟩,by kernel_rfl,by k_is,by k_is,by k_is,by k_is,by k_is,by k_is⟩,by kernel_rfl,by kernel_rfl,by kernel_rfl,⟨⟨_,_,_,by k_is,⟨⟨_,_,_,_,_,_,_,_,_,_,_,_,_,by k_is⟩⟩,by kernel_rfl,by k_is,by k_is,by k_is,by k_is,by k_is,_,_,_,_,_,_,_,_,by k_is,by k_is,by k_is⟩⟩,⟨⟨_,_,_,by k_is,⟨⟨_,_,_,_,_,_,_,_,_,_,_,_,_,by k_is⟩⟩,by kernel_rfl,by k_is,by k_is,by k_is,by k_is,by k_is,_,_,_,_,_,_,_,_,by k_is,by k_is,by k_is⟩⟩,⟨⟨_,_,_,by k_is,⟨⟨_,_,_,_,_,_,_,_,_,_,_,_,_,by k_is⟩⟩,by kernel_rfl,by k_is,by k_is,by k_is,by k_is,by k_is,_,_,_,_,_,_,_,_,by k_is,by k_is,by k_is⟩⟩⟩⟩
 ·exact⟨_,by k_is,by kernel_rfl⟩
 ·exact⟨_,by k_is⟩
 ·exact⟨_,by k_is⟩
 ·exact⟨_,_,_,_,by k_is,by k_is⟩
end
namespace L2
open PySem PySem.Spec PyProof.Rows
abbrev Hn:=Sum Int Str
def oK:Hn->Value->Bool
 | .inl k,v=>Value.isInt k v
 | .inr x,v=>Value.isStrOf x v
def keyH(w:World):Hn->Int
 | .inl k=>hashInt k
 | .inr x=>hashStr w x
theorem aV:∀ {k:Hn} {v:Value},oK k v=true->(∃i t,k=Sum.inl i/\v=Value.int i t)\/(∃x t,k=Sum.inr x/\v=Value.str x t)
 | .inl i,v,h=>by
  obtain⟨t,e⟩:=Value.isInt_shape (k:=i) (v:=v) h;exact .inl ⟨i,t,rfl,e⟩
 | .inr x,v,h=>by
  obtain⟨t,e⟩:=Value.isStrOf_shape (x:=x) (v:=v) h;exact .inr ⟨x,t,rfl,e⟩
theorem vI(i:Int)(t:Tok):oK (.inl i) (.int i t)=true:=by simp[oK,Value.isInt]
theorem uW(x:Str)(t:Tok):oK (.inr x) (.str x t)=true:=by simp[oK,Value.isStrOf]
theorem CJ(a b:Int):decide ((Sum.inl a:Hn)=Sum.inl b)=(a==b):=by
 by_cases e:a=b
 ·subst e;simp
 ·have h:¬ (Sum.inl a:Hn)=Sum.inl b:=λq=>e (Sum.inl.inj q)
  rw[IQ h];exact(Ka.mpr e).symm
theorem Fm(a b:Str):decide ((Sum.inr a:Hn)=Sum.inr b)=decide (a=b):=by
 by_cases e:a=b
 ·subst e;simp
 ·have h:¬ (Sum.inr a:Hn)=Sum.inr b:=λq=>e (Sum.inr.inj q)
  rw[IQ h,IQ e]
theorem CG(a:Int)(b:Str):decide ((Sum.inl a:Hn)=Sum.inr b)=false:=IQ (λq=>nomatch q)
theorem EW(a:Str)(b:Int):decide ((Sum.inr a:Hn)=Sum.inl b)=false:=IQ (λq=>nomatch q)
def a8(prog:Program)(w:World):PySem.KeyKind prog w Hn where
 is:=oK
 hash:=keyH w
 inj:=λv a b ha hb=>by
  rcases aV ha with⟨i,t,rfl,rfl⟩ | ⟨x,t,rfl,rfl⟩
  ·rcases aV hb with⟨j,u,rfl,e⟩ | ⟨y,u,rfl,e⟩
   ·injection e with e1 _;rw[e1]
   ·exact nomatch e
  ·rcases aV hb with⟨j,u,rfl,e⟩ | ⟨y,u,rfl,e⟩
   ·exact nomatch e
   ·injection e with e1 _;rw[e1]
 byValue:=λk v h=>by
  rcases aV h with⟨i,t,rfl,rfl⟩ | ⟨x,t,rfl,rfl⟩<;>rfl
 pyHash:=λhv h=>by
  rcases aV hv with⟨i,t,rfl,rfl⟩ | ⟨x,t,rfl,rfl⟩
  ·exact wpAny_pyHash_int h
  ·exact wpAny_pyHash_str h
 eqBool:=λhu hv h=>by
  rcases aV hu with⟨i,t,rfl,rfl⟩ | ⟨x,t,rfl,rfl⟩
  ·rcases aV hv with⟨j,u,rfl,rfl⟩ | ⟨y,u,rfl,rfl⟩
   ·rw[CJ] at h;exact wpAny_eqBool_int h
   ·rw[CG] at h;exact SeqAt.EqAt.int_str i t y u _ _ _ _ h
  ·rcases aV hv with⟨j,u,rfl,rfl⟩ | ⟨y,u,rfl,rfl⟩
   ·rw[EW] at h;exact SeqAt.EqAt.str_int x t j u _ _ _ _ h
   ·rw[Fm] at h;exact wpAny_eqBool_str h
 «strs»:=λk x t v h=>by
  rcases aV h with⟨i,u,rfl,e⟩ | ⟨y,u,rfl,e⟩
  ·exact nomatch e
  ·injection e with e1 _
   subst e1
   cases v<;>rfl
theorem nI(prog:Program)(w:World)(i:Int)(t:Tok):(a8 prog w).is (.inl i) (.int i t)=true:=vI i t
theorem o8(prog:Program)(w:World)(x:Str)(t:Tok):(a8 prog w).is (.inr x) (.str x t)=true:=uW x t
end L2
namespace L2
open PySem PySem.Spec PyProof.Rows
inductive V where
 | non | bl (b:Bool) | int (i:Int) | str (x:Str) | byt (b:Array UInt8) | flt (b:UInt64) | ref (a:Addr) | ty (n:String)
 deriving DecidableEq
abbrev Zg:=List V
def a5:V->Value->Prop
 | .non,u=>u=Value.none
 | .bl b,u=>u=Value.bool b
 | .int i,u=>∃t,u=Value.int i t
 | .str x,u=>∃t,u=Value.str x t
 | .byt b,u=>∃t,u=Value.bytes b t
 | .flt b,u=>∃t,u=Value.float b t
 | .ref a,u=>u=Value.ref a
 | .ty n,u=>u=Value.type n
abbrev bg:List V->List Value->Prop:=Paired a5
theorem bg.length(r:bg xs us):xs.length=us.length:=Paired.length r
theorem bg.get:∀ {xs:Zg} {us:Zc} {i:Nat} {x:V},bg xs us->xs[i]?=some x->∃u,us[i]?=some u/\a5 x u
 | _,_,_,_,.nil,e=>by simp at e
 | _,_,0,_,.cons r _,e=>by simp at e;subst e;exact⟨_,rfl,r⟩
 | _,_,i+1,x,.cons _ t,e=>by
  obtain⟨u,h1,h2⟩:=bg.get (i:=i) (x:=x) t (by simpa using e);exact⟨u,by simpa using h1,h2⟩
theorem bg.set(r:a5 x u):∀ {xs:Zg} {us:Zc} (i:Nat),bg xs us->bg (xs.set i x) (us.set i u)
 | _,_,_,.nil=>.nil
 | _,_,0,.cons _ t=>.cons r t
 | _,_,i+1,.cons q t=>.cons q (bg.set r i t)
theorem bg.append:∀ {xs ys:Zg} {us ws:Zc},bg xs us->bg ys ws->bg (xs++ys) (us++ws)
 | _,_,_,_,.nil,s=>s
 | _,_,_,_,.cons r t,s=>.cons r (bg.append t s)
theorem bg.take:∀ {xs:Zg} {us:Zc} (n:Nat),bg xs us->bg (xs.take n) (us.take n)
 | _,_,0,_=>.nil
 | _,_,_+1,.nil=>.nil
 | _,_,n+1,.cons r t=>.cons r (bg.take n t)
theorem bg.drop:∀ {xs:Zg} {us:Zc} (n:Nat),bg xs us->bg (xs.drop n) (us.drop n)
 | _,_,0,r=>r
 | _,_,_+1,.nil=>.nil
 | _,_,n+1,.cons _ t=>bg.drop n t
def nO:Option V->Zd->Prop
 | some v,some u=>a5 v u
 | none,none=>True
 | _,_=>False
def KV{κ:Type}:List (κ×V)->List (κ×Value)->Prop:=Paired λ(p:κ×V) (q:κ×Value)=>p.1=q.1/\a5 p.2 q.2
def kV:Hn->V
 | .inl i=>.int i
 | .inr x=>.str x
inductive HO where
 | lst (xs:Zg)
 | tup (xs:Zg)
 | dK (kvs:List (Hn×V)) | dT (kvs:List (List Hn×V))
 | set (S:Int->Bool) (n:Nat)
 | ins (C dx:Addr) (fs:List (Str×V))
 | own (x:Addr)
 | xd (fs:List (Str×V))
 | met (f x:Addr)
 | rng (lo hi:Int)
 | frz (o:Obj) (u:HO)
 | tbl (ps:Array Value)
 | ext (φ:Heap->Prop)
abbrev Hp:=Addr->Option HO
def G6(H:Hp)(a:Addr)(o:HO):Hp:=λb=>if b=a then some o else H b
theorem av:G6 H a o a=some o:=by unfold G6;rw[HU rfl]
theorem aG(h:b≠a):G6 H a o b=H b:=by unfold G6;rw[HQ h]
theorem GR{H:Hp}(h:H a=some o)(h':H b=some u)(d:o≠u):a≠b:=by
 intro e;subst e;rw[h] at h';exact d (HR h')
theorem cz{H:Hp}(h:H a=some o)(h':H b=none):a≠b:=by
 intro e;subst e;rw[h] at h';cases h'
section
variable (P:Program) (w:World)
def bA(H:Hp)(h:Heap)(a:Addr):HO->Prop
 | .lst xs=>xs.length<=sizeLine/\∃(its:Zc) (n:Nat),bg xs its/\h.get? a=some { cls:=.type "list",data:=.seq its.toArray n }
 | .tup xs=>xs.length<=sizeLine/\∃its:Zc,bg xs its/\IsTup h a its.toArray
 | .dK kvs=>kvs.length<=sizeLine/\(a==sysModules)=false/\∃vs,KV kvs vs/\h.DictOf (a8 P w) a vs
 | .dT kvs=>kvs.length<=sizeLine/\(a==sysModules)=false/\∃xs:List (List Hn×Addr×Value),
   Paired (λ(p:List Hn×V) (q:List Hn×Addr×Value)=>p.1=q.1/\H q.2.1=some (.tup (p.1.map kV))/\a5 p.2 q.2.2) kvs xs /\
   ∃o es ep,h.get? a=some o/\o.ExactDict/\o.data=.dict es ep/\es.toList=xs.map (entryOfKey (tupleKind (a8 P w)))/\(xs.map (·.1)).Nodup
 | .set S n=>h.SetOf (intKind P w) a S n
 | .ins C dx fs=>H dx=some (.own a)/\fs.length<=1000/\dx≠a/\h.get? a=some (PySem.W.instObj C dx) /\
   ∃mA,h.Ns1 dx mA/\(∀f,nO (fs.lookup f) (mA f))/\PySem.Within mA (fs.map (·.1))
 | .own _=>∃o,h.get? a=some o
 | .xd fs=>∃mA,h.Ns1 a mA/\∀f,nO (fs.lookup f) (mA f)
 | .rng lo hi=>∃t u v,h.get? a=some { cls:=.type "range",data:=.fields #[.int lo t,.int hi u,.int 1 v] }
 | .frz o u=>h.get? a=some o/\bA H h a u
 | .tbl ps=>h.get? a=some { cls:=.none,data:=.fields ps }
 | .met f x=>h.get? a=some (PySem.W.methodObj (.ref f) (.ref x))
 | .ext φ=>φ h/\(∃o,h.get? a=some o)/\∀h1 h2:Heap,φ h1->(∀o,h1.get? a=some o->h2.get? a=some o)->φ h2
def Hm(H:Hp)(h:Heap):Prop:=∀a o,H a=some o->bA P w H h a o
end
section
theorem bA.lt(x:bA P w H h a o):a<h.objs.size:=by
 cases o with
 | lst xs=>obtain⟨_,_,_,_,e⟩:=x;exact HN e
 | tup xs=>obtain⟨_,_,_,p⟩:=x;exact p.lt
 | dK kvs=>obtain⟨_,_,_,_,o,_,_,e,_⟩:=x;exact HN e
 | dT kvs=>obtain⟨_,_,_,_,o,_,_,e,_⟩:=x;exact HN e
 | set S n=>obtain⟨o,_,_,_,e,_⟩:=x;exact HN e
 | ins C dx fs=>obtain⟨_,_,_,e,_⟩:=x;exact HN e
 | own y=>obtain⟨_,e⟩:=x;exact HN e
 | xd fs=>obtain⟨_,⟨_,_,_,e,_⟩,_⟩:=x;exact HN e
 | rng lo hi=>obtain⟨_,_,_,e⟩:=x;exact HN e
 | frz ob u=>obtain⟨e,_⟩:=x;exact HN e
 | tbl ps=>exact HN (show h.get? a=some _ from x)
 | met f y=>exact HN (show h.get? a=some _ from x)
 | ext φ=>obtain⟨_,⟨_,e⟩,_⟩:=x;exact HN e
theorem Paired.mapP:∀ {l₁:List α} {l₂:List β},Paired F l₁ l₂->(∀a b,F a b->G a b)->Paired G l₁ l₂
 | _,_,.nil,_=>.nil
 | _,_,.cons r t,f=>.cons (f _ _ r) (Paired.mapP t f)
theorem bA.stay(x:bA P w H h a o)(k:∀b u,(b=a\/H b=some (.own a))->h.get? b=some u->h'.get? b=some u)
  (ho:∀b,H b=some (.own a)->H' b=some (.own a)) (ht:∀b xs,H b=some (.tup xs)->H' b=some (.tup xs)):bA P w H' h' a o:=by
 induction o with
 | lst xs=>obtain⟨z,aa,n,r,e⟩:=x;exact⟨z,aa,n,r,k _ _ (.inl rfl) e⟩
 | tup xs=>obtain⟨z,aa,r,ob,e,c⟩:=x;exact⟨z,aa,r,ob,k _ _ (.inl rfl) e,c⟩
 | dK kvs=>obtain⟨z,y,vs,r,ob,es,ep,e,c⟩:=x;exact⟨z,y,vs,r,ob,es,ep,k _ _ (.inl rfl) e,c⟩
 | dT kvs =>
  obtain⟨z,y,xs,r,ob,es,ep,e,c⟩:=x;exact⟨z,y,xs,Paired.mapP r λp q z=>⟨z.1,ht _ _ z.2.1,z.2.2⟩,ob,es,ep,k _ _ (.inl rfl) e,c⟩
 | set S n=>obtain⟨ob,es,ep,t,e,c⟩:=x;exact⟨ob,es,ep,t,k _ _ (.inl rfl) e,c⟩
 | ins C dx fs =>
  obtain⟨d,z,ne,e,mA,⟨od,es,ep,e2,c⟩,r⟩:=x;exact⟨ho _ d,z,ne,k _ _ (.inl rfl) e,mA,⟨od,es,ep,k _ _ (.inr d) e2,c⟩,r⟩
 | own y=>obtain⟨ob,e⟩:=x;exact⟨ob,k _ _ (.inl rfl) e⟩
 | xd fs=>obtain⟨mA,⟨od,es,ep,e,c⟩,r⟩:=x;exact⟨mA,⟨od,es,ep,k _ _ (.inl rfl) e,c⟩,r⟩
 | rng lo hi=>obtain⟨t,u,v,e⟩:=x;exact⟨t,u,v,k _ _ (.inl rfl) e⟩
 | frz ob u ih=>obtain⟨e,q⟩:=x;exact⟨k _ _ (.inl rfl) e,ih q⟩
 | tbl ps =>
  have e:h.get? a=some { cls:=.none,data:=.fields ps }:=x
  show h'.get? a=some { cls:=.none,data:=.fields ps }
  exact k a _ (.inl rfl) e
 | met f y =>
  have e:h.get? a=some (PySem.W.methodObj (.ref f) (.ref y)):=x
  show h'.get? a=some (PySem.W.methodObj (.ref f) (.ref y))
  exact k a _ (.inl rfl) e
 | ext φ=>obtain⟨p,⟨o,e⟩,st⟩:=x;exact⟨st _ _ p λo q=>k _ _ (.inl rfl) q,⟨o,k _ _ (.inl rfl) e⟩,st⟩
theorem Hm.lt(x:Hm P w H h)(e:H a=some o):a<h.objs.size:=(x a o e).lt
theorem Hm.fresh(x:Hm P w H h)(e:h.objs.size<=a):H a=none:=by
 cases q:H a with
 | none=>rfl
 | some u=>exact absurd (HW (x.lt q) e) (Ir _)
theorem Hm.kept(x:Hm P w H h)(k:∀b u,h.get? b=some u->h'.get? b=some u):Hm P w H h':=λa o e =>
 (x a o e).stay (λb u _ q=>k b u q) (λ_ q=>q) λ_ _ q=>q
theorem Hm.laid(x:Hm P w H h)(k:∀b u,h.get? b=some u->h'.get? b=some u)(hp:h.objs.size<=a)(new:bA P w (G6 H a o) h' a o):Hm P w (G6 H a o) h':=λb u e=>by
 have hn:=x.fresh hp
 by_cases hb:b=a
 ·subst hb;rw[av] at e;cases e;exact new
 ·rw[aG hb] at e;exact(x b u e).stay (λc v _ q=>k c v q) (λc q=>by rw[aG (cz q hn)];exact q) λc xs q=>by rw[aG (cz q hn)];exact q
end
def Rd(H:Hp)(a:Addr)(u:HO):Prop:=H a=some u\/∃o,H a=some (.frz o u)
theorem Rd.of(h:H a=some u):Rd H a u:=.inl h
theorem Rd.ok(r:Rd H a u)(x:Hm P w H h):bA P w H h a u:=by
 rcases r with r | ⟨o,r⟩
 ·exact x a u r
 ·obtain⟨_,q⟩:=x a _ r;exact q
def Mut:Option HO->Prop
 | some (.lst _)=>True
 | some (.dK _)=>True
 | some (.dT _)=>True
 | some (.set _ _)=>True
 | some (.ins _ _ _)=>True
 | some (.ext _)=>True
 | _=>False
section
theorem Hm.write(ok:Hm P w H h)(mu:Mut (H x))(he:e=x\/H e=some (.own x))(k:∀b u,b≠e->h.get? b=some u->h'.get? b=some u)(heo:∃u,h'.get? e=some u)
  (new:bA P w (G6 H x o') h' x o'):Hm P w (G6 H x o') h':=λb u q=>by
 have aa:∀c y,H c=some (.own y)->c≠x:=λc y r z=>by subst z;rw[r] at mu;exact mu
 have ab:∀c xs,H c=some (.tup xs)->c≠x:=λc xs r z=>by subst z;rw[r] at mu;exact mu
 by_cases hb:b=x
 ·subst hb;rw[av] at q;cases q;exact new
 ·rw[aG hb] at q
  by_cases hbe:b=e
  ·have q':H b=some (.own x):=by
    rcases he with z | z
    ·exact absurd (hbe.trans z) hb
    ·rw[hbe];exact z
   rw[q] at q';cases q';obtain⟨v,hv⟩:=heo;exact⟨v,by rw[hbe];exact hv⟩
  ·refine(ok b u q).stay (λc v hc r=>k c v ?_ r) (λc r=>by rw[aG (aa c b r)];exact r) λc xs r=>by rw[aG (ab c xs r)];exact r
   rcases hc with rfl | hc
   ·exact hbe
   ·rintro rfl
    rcases he with z | z
    ·exact aa c b hc z
    ·rw[hc] at z;cases z;exact hb rfl
end
structure Un(fs ex:List Addr)(H H':Hp)(h h':Heap):Prop where
 keep:∀b o,h.get? b=some o->H b=none->b∉fs->b∉ex->h'.get? b=some o
 slot:∀b o,h.get? b=some o->H b=none->b∈fs->b∉ex->∃sl,h'.get? b=some { o with slots:=sl }
 free:∀b o,h.get? b=some o->H b=none->b∉ex->H' b=none
 there:∀b o,h.get? b=some o->b∉ex->∃o',h'.get? b=some o'
 tups:∀b xs,H b=some (.tup xs)->H' b=some (.tup xs)
 frzs:∀b o u,H b=some (.frz o u)->H' b=some (.frz o u)
 tbls:∀b ps,H b=some (.tbl ps)->∃more,H' b=some (.tbl (ps++more))
section
theorem Un.any(u:Un fs ex H H1 h h1)(q:h.get? b=some ob)(n:H b=none)(hx:b∉ex):∃sl,h1.get? b=some { ob with slots:=sl }:=by
 by_cases hb:b∈fs
 ·exact u.slot b ob q n hb hx
 ·exact⟨ob.slots,u.keep b ob q n hb hx⟩
theorem Un.trans(a:Un fs ex H H1 h h1)(b:Un fs ex H1 H2 h1 h2):Un fs ex H H2 h h2 where
 keep:=λc ob q n hc hx=>b.keep c ob (a.keep c ob q n hc hx) (a.free c ob q n hx) hc hx
 slot:=λc ob q n hc hx=>by
  obtain⟨sl,e1⟩:=a.slot c ob q n hc hx;obtain⟨aa,e2⟩:=b.slot c _ e1 (a.free c ob q n hx) hc hx;exact⟨aa,e2⟩
 free:=λc ob q n hx=>by
  obtain⟨o',e1⟩:=a.there c ob q hx;exact b.free c o' e1 (a.free c ob q n hx) hx
 there:=λc ob q hx=>by
  obtain⟨o',e1⟩:=a.there c ob q hx;exact b.there c o' e1 hx
 tups:=λc xs q=>b.tups c xs (a.tups c xs q)
 frzs:=λc ob xs q=>b.frzs c ob xs (a.frzs c ob xs q)
 tbls:=λc ps q=>by
  obtain⟨m1,e1⟩:=a.tbls c ps q;obtain⟨m2,e2⟩:=b.tbls c _ e1;exact⟨m1++m2,by rw[e2,Array.append_assoc]⟩
theorem Un.kept(k:∀b u,h.get? b=some u->h'.get? b=some u):Un fs ex H H h h' :=
 ⟨λb ob q _ _ _=>k b ob q,λb ob q _ _ _=>⟨ob.slots,k b ob q⟩,λ_ _ _ n _=>n,λb ob q _=>⟨ob,k b ob q⟩,λ_ _ q=>q,λ_ _ _ q=>q,λ_ ps q=>⟨#[],by rw[q];simp⟩⟩
theorem Un.refl:Un fs ex H H h h:=Un.kept λ_ _ q=>q
theorem Un.laid(k:∀b u,h.get? b=some u->h'.get? b=some u)(hp:h.objs.size<=a)(hn:H a=none):Un fs ex H (G6 H a o) h h' where
 keep:=λb u q _ _ _=>k b u q
 slot:=λb u q _ _ _=>⟨u.slots,k b u q⟩
 free:=λb u q n _=>by rw[aG (Iq (HW (HN q) hp))];exact n
 there:=λb u q _=>⟨u,k b u q⟩
 tups:=λb xs q=>by rw[aG (cz q hn)];exact q
 frzs:=λb u xs q=>by rw[aG (cz q hn)];exact q
 tbls:=λb ps q=>⟨#[],by rw[aG (cz q hn),q];simp⟩
theorem Un.write(mu:Mut (H x))(he:e=x\/H e=some (.own x))(k:∀b u,b≠e->h.get? b=some u->h'.get? b=some u)(heo:∃u,h'.get? e=some u):Un fs ex H (G6 H x o) h h':=by
 have hx:∀b,H b=none->b≠x:=λb n z=>by subst z;rw[n] at mu;exact mu
 have hb:∀b,H b=none->b≠e:=λb n z=>by
  subst z
  rcases he with r | r
  ·exact hx b n r
  ·rw[n] at r;cases r
 have hm:∀b u,H b=some u->¬ Mut (some u)->b≠x:=λb u q nm z=>by subst z;rw[q] at mu;exact nm mu
 refine⟨λb u q n _ _=>k b u (hb b n) q,λb u q n _ _=>⟨u.slots,k b u (hb b n) q⟩,λb u q n _=>by rw[aG (hx b n)];exact n,λb u q _=>?_,
  λb xs q=>by rw[aG (hm b _ q λz=>z)];exact q,λb u xs q=>by rw[aG (hm b _ q λz=>z)];exact q,λb ps q=>⟨#[],by rw[aG (hm b _ q λz=>z),q];simp⟩⟩
 by_cases hbe:b=e
 ·subst hbe;exact heo
 ·exact⟨u,k b u hbe q⟩
theorem Un.mono(u:Un fs ex H H1 h h1)(hs:∀b∈fs,b∈fs')(hx:∀b∈ex,b∈ex'):Un fs' ex' H H1 h h1 :=
 ⟨λb ob q n hb he=>u.keep b ob q n (λz=>hb (hs b z)) λz=>he (hx b z),λ_ _ q n _ he=>u.any q n λz=>he (hx _ z),λb ob q n he=>u.free b ob q n λz=>he (hx b z),λb ob q he=>u.there b ob q λz=>he (hx b z),u.tups,u.frzs,u.tbls⟩
end
def trk(h:Heap)(H:Hp):List Addr:=(List.range h.objs.size).filter λa=>(H a).isSome
def xK(h:Heap)(H:Hp):Heap:=PySem.W.hideAll h (trk h H)
theorem uI(h:Heap)(H:Hp):(xK h H).objs.size=h.objs.size:=PySem.W.hideAll_size _ _
theorem wO(e:h.get? b=some o)(n:H b=none):(xK h H).get? b=some o :=
 PySem.W.hideAll_get _ e λhm=>by
  have q:(H b).isSome=true:=(HH.mp hm).2
  rw[n] at q;simp at q
theorem B8(e:(xK h H).get? b=some o):h.get? b=some o/\H b=none:=by
 have e':h.get? b=some o:=PySem.W.of_hideAll (trk h H) e
 refine⟨e',?_⟩
 cases q:H b with
 | none=>rfl
 | some x =>
  have hm:b∈trk h H:=HH.mpr ⟨Jt.mpr (HN e'),by simp[q]⟩
  have z:(xK h H).get? b=none:=PySem.W.hideAll_none (trk h H) hm
  rw[z] at e;cases e
def At(g h:Heap)(L:Addr):List (Addr×Obj):=(List.range h.objs.size).filterMap λa=>if a=L\/(g.get? a).isSome=true then none else (h.get? a).map λo=>(a,o)
def bS(g h:Heap)(L d:Addr):List (Addr×Obj):=(At g h L).filter λp=>decide (p.1≠d)
end L2
namespace L2
open PySem PySem.Spec PyProof.Rows
structure Mod(K:Zf)(mg:Str->Zd)(base:Heap):Prop where
 kin:K.In base
 glob:base.Ns mainGlobals mg
 blt:∃mb,base.Ns builtinsNs mb/\∀x:Str,x≠"__name__"->mb x=bootBuiltins x
 nolimit:base.NoLimit
structure Cx where
 prog:Program
 w:World
 K:Zf
 mg:Str->Zd
 base:Heap
 A:Around
 N:Zb
 s₀:Shared
 H₀:Hp
 env:Env
 outer:List Env
 stack:List Env
 ex:List Addr
 fn:Str->Bool
 calm:Bool
 pn:List (Addr×Obj)
 xe:Value->Shared->Prop
def frs(l:List Env):List Addr:=l.filterMap (·.frame)
abbrev Cx.fs(X:Cx):List Addr:=frs X.outer
def Vis(sc:Scope)(x:Str):Prop:=sc.names.lookup x=some .local\/sc.names.lookup x=some .cell\/sc.names.lookup x=some .free
def Loc(sc:Scope)(x:Str):Prop:=sc.names.lookup x=some .local\/sc.names.lookup x=some .cell
def Look(env:Env)(h:Heap)(m:Str->Zd)(x:Str)(u:Value):Prop :=
 (env.kindOf x=some .local/\m x=some u)\/((env.kindOf x=some .cell\/env.kindOf x=some .free)/\∃c,env.cells.lookup x=some c/\h.IsCell c (some u))
structure Cx.Ok(X:Cx):Prop where
 mod:Mod X.K X.mg X.base
 kind:X.env.scope.kind=.function
 glob:X.env.globals=mainGlobals
 blt:X.env.builtins=builtinsNs
 above:X.s₀.heap.objs.size<=X.env.locals
 inj:∀x y c,X.env.cells.lookup x=some c->X.env.cells.lookup y=some c->x=y
 has:∀x,(X.env.kindOf x=some .cell\/X.env.kindOf x=some .free)->∃c,X.env.cells.lookup x=some c
 cab:∀x c,X.fn x=true->X.env.cells.lookup x=some c->X.s₀.heap.objs.size<=c
 hd:X.calm=true->X.A.handled=none
 frames:X.A.frames=some X.stack
 stk:X.stack=X.outer\/(X.stack=X.env::X.outer/\X.env.frame=some X.env.locals)
 exf:∀b∈X.ex,b≠X.env.locals/\∀x c,X.env.cells.lookup x=some c->c≠b
 bs:∀b o,X.base.get? b=some o->X.s₀.heap.get? b=some o/\X.H₀ b=none
 bsz:X.base.objs.size<=X.s₀.heap.objs.size
 noex:∀b o,X.base.get? b=some o->b∉X.ex
 exfs:∀b∈X.ex,b∉X.fs
 funs:X.s₀.heap.FunFrames X.base X.outer
 frf:∀b∈X.fs,X.H₀ b=none
structure Inv(X:Cx)(pins:List (Addr×Obj))(σ:List (Option V))(H:Hp)(s:Shared):Prop where
 ok:X.Ok
 os:s.os=X.s₀.os
 bare:AllBare s.gens
 base:Un X.fs X.ex X.H₀ H X.s₀.heap s.heap
 loc:∃m,s.heap.Ns X.env.locals m/\∀(i:Nat) (x:Str) (v:V),X.N[i]?=some x->σ[i]?=some (some v)->Vis X.env.scope x->∃u,a5 v u/\Look X.env s.heap m x u
 cell:∀x c,X.env.cells.lookup x=some c->∃v,s.heap.IsCell c v
 free:H X.env.locals=none
 freeC:∀x c,X.env.cells.lookup x=some c->H c=none
 pin:∀p∈X.pn++pins,s.heap.get? p.1=some p.2/\H p.1=none/\p.1≠X.env.locals/\p.1∉X.fs/\∀v,p.2.data≠.cell v
 hok:Hm X.prog X.w H s.heap
 len:σ.length=X.N.length
section
theorem Cx.Ok.nofr{X:Cx}(ok:X.Ok)(e:X.base.get? b=some o):b∉X.fs:=λhb=>by
 have:=(ok.funs.mem hb).1
 rw[e] at this;cases this
theorem Inv.bs(I:Inv X pins σ H s):∀b o,X.base.get? b=some o->s.heap.get? b=some o/\H b=none:=λb o e =>
 ⟨I.base.keep b o (I.ok.bs b o e).1 (I.ok.bs b o e).2 (I.ok.nofr e) (I.ok.noex b o e),I.base.free b o (I.ok.bs b o e).1 (I.ok.bs b o e).2 (I.ok.noex b o e)⟩
theorem Inv.bk(I:Inv X pins σ H s):∀b o,X.base.get? b=some o->s.heap.get? b=some o:=λb o e=>(I.bs b o e).1
theorem Inv.mod(I:Inv X pins σ H s):Mod X.K X.mg X.base:=I.ok.mod
theorem Inv.kIn(I:Inv X pins σ H s):X.K.In s.heap:=I.ok.mod.kin.keeps I.bk
theorem Inv.lt(I:Inv X pins σ H s):X.env.locals<s.heap.objs.size:=let ⟨_,hn,_⟩:=I.loc;hn.lt
theorem Inv.sz(I:Inv X pins σ H s):X.s₀.heap.objs.size<=s.heap.objs.size:=Hz I.ok.above (JK I.lt)
theorem Inv.nofs(I:Inv X pins σ H s)(h:s.heap.objs.size<=a):a∉X.fs:=λhb=>by
 obtain⟨_,o,ho,_⟩:=I.ok.funs.mem hb;exact absurd (HW (HN ho) (Hz I.sz h)) (Ir _)
theorem Inv.cne(I:Inv X pins σ H s):∀x c,X.env.cells.lookup x=some c->c≠X.env.locals:=λx c e z=>by
 obtain⟨v,o,ho,hd⟩:=I.cell x c e;obtain⟨m,⟨o',es,ep,ab,aa,_⟩,_⟩:=I.loc;rw[z,ab] at ho;cases ho;rw[aa] at hd;cases hd
theorem Inv.funs(I:Inv X pins σ H s):s.heap.FunFrames X.base X.outer:=by
 have all:∀(l:List Env),(∀b∈frs l,b∈X.fs)->X.s₀.heap.FunFrames X.base l->s.heap.FunFrames X.base l:=by
  intro l
  induction l with
  | nil=>intro _ _;trivial
  | cons env r ih =>
   intro hs hl;obtain⟨hk,⟨L,o,hf,hn,ho,hd⟩,hr⟩:=hl;have hL:L∈X.fs:=hs L (by unfold frs;rw[Jc,hf];exact HB);obtain⟨sl,e⟩:=I.base.slot L o ho (I.ok.frf L hL) hL λz=>I.ok.exfs L z hL;exact⟨hk,⟨L,_,hf,hn,e,hd⟩,ih (λb hb=>hs b (by unfold frs;rw[Jc,hf];exact Hx _ hb)) hr⟩
 exact all X.outer (λ_ hb=>hb) I.ok.funs
theorem Inv.stack(I:Inv X pins σ H s):s.heap.FunFrames X.base X.stack:=by
 rcases I.ok.stk with e | ⟨e,hf⟩
 ·rw[e];exact I.funs
 ·rw[e];obtain⟨m,hn,_⟩:=I.loc;refine .cons (by rw[I.ok.kind];decide) hf hn ?_ I.funs;exact KD (Hz I.ok.bsz I.ok.above)
theorem Inv.stkSub(I:Inv X pins σ H s):∀b∈frs X.stack,b∈X.env.locals::X.fs:=λb hb=>by
 rcases I.ok.stk with e | ⟨e,hf⟩
 ·rw[e] at hb;exact Hx _ hb
 ·rw[e] at hb;unfold frs at hb;rw[Jc,hf] at hb;exact hb
theorem Inv.stkFree(I:Inv X pins σ H s):∀b∈frs X.stack,H b=none:=λb hb=>by
 rcases HK.mp (I.stkSub b hb) with e | hb
 ·rw[e];exact I.free
 ·obtain⟨_,o,ho,_⟩:=I.ok.funs.mem hb;exact I.base.free b o ho (I.ok.frf b hb) λz=>I.ok.exfs b z hb
theorem Inv.step{X:Cx}{pins:List (Addr×Obj)}{σ:List (Option V)}{H H':Hp}{s:Shared}{h':Heap}{g':Array GenState}{t':Nat}{d':Drawn}{ch:List Addr}(I:Inv X pins σ H s)
  (hch:∀b∈ch,(b∈X.ex\/X.s₀.heap.objs.size<=b)/\b≠X.env.locals/\(∀x c,X.env.cells.lookup x=some c->c≠b)/\∀p∈X.pn++pins,p.1≠b)
  (keep:∀b o,b≠X.env.locals->b∉X.fs->b∉ch->s.heap.get? b=some o->H b=none->h'.get? b=some o)
  (slot:∀b o,b≠X.env.locals->b∈X.fs->b∉ch->s.heap.get? b=some o->H b=none->∃sl,h'.get? b=some { o with slots:=sl }) (free:∀b o,b∉ch->s.heap.get? b=some o->H b=none->H' b=none)
  (there:∀b o,b∉ch->s.heap.get? b=some o->∃o',h'.get? b=some o')
  (tups:∀b xs,H b=some (.tup xs)->H' b=some (.tup xs)) (frzs:∀b o u,H b=some (.frz o u)->H' b=some (.frz o u)) (tbls:∀b ps,H b=some (.tbl ps)->∃more,H' b=some (.tbl (ps++more)))
  (ns:∀m,s.heap.Ns X.env.locals m->h'.Ns X.env.locals m) (hok:Hm X.prog X.w H' h') (hg:AllBare g') :
  Inv X pins σ H' { s with heap:=h',gens:=g',drawn:=d',toks:=t' }:=by
 have ai:∀b o,X.s₀.heap.get? b=some o->b≠X.env.locals:=λb o e=>Iq (HW (HN e) I.ok.above)
 have ah:∀b o,X.s₀.heap.get? b=some o->b∉X.ex->b∉ch:=λb o e hx hb=>by
  rcases(hch b hb).1 with z | z
  ·exact hx z
  ·exact absurd (HW (HN e) z) (Ir _)
 have ab:∀x c,X.env.cells.lookup x=some c->∀v,s.heap.IsCell c v->h'.IsCell c v:=λx c e v ⟨o,ho,hd⟩=>by
  have aa:c∉ch:=λz=>(hch c z).2.2.1 x c e rfl
  by_cases hc:c∈X.fs
  ·obtain⟨sl,q⟩:=slot c o (I.cne x c e) hc aa ho (I.freeC x c e);exact⟨_,q,hd⟩
  ·exact⟨o,keep c o (I.cne x c e) hc aa ho (I.freeC x c e),hd⟩
 refine⟨I.ok,I.os,hg,⟨λb o e n hb hx=>?_,λb o e n hb hx=>?_,λb o e n hx=>?_,λb o e hx=>?_,λb xs e=>tups b xs (I.base.tups b xs e),λb o xs e=>frzs b o xs (I.base.frzs b o xs e),λb ps e=>?_⟩,?_,λx c e=>?_,?_,λx c e=>?_,λp hp=>?_,hok,I.len⟩
 ·exact keep b o (ai b o e) hb (ah b o e hx) (I.base.keep b o e n hb hx) (I.base.free b o e n hx)
 ·obtain⟨sl,e1⟩:=I.base.slot b o e n hb hx;obtain⟨aj,e2⟩:=slot b _ (ai b o e) hb (ah b o e hx) e1 (I.base.free b o e n hx);exact⟨aj,e2⟩
 ·obtain⟨o',e1⟩:=I.base.there b o e hx;exact free b o' (ah b o e hx) e1 (I.base.free b o e n hx)
 ·obtain⟨o',e1⟩:=I.base.there b o e hx;exact there b o' (ah b o e hx) e1
 ·obtain⟨m1,e1⟩:=I.base.tbls b ps e;obtain⟨m2,e2⟩:=tbls b _ e1;exact⟨m1++m2,by rw[e2,Array.append_assoc]⟩
 ·obtain⟨m,hn,hl⟩:=I.loc;refine⟨m,ns m hn,λi x v e1 e2 e3=>?_⟩;obtain⟨u,r,l⟩:=hl i x v e1 e2 e3;refine⟨u,r,?_⟩
  rcases l with l | ⟨k,c,e,z⟩
  ·exact .inl l
  ·exact .inr ⟨k,c,e,ab x c e _ z⟩
 ·obtain⟨v,z⟩:=I.cell x c e;exact⟨v,ab x c e v z⟩
 ·obtain⟨m,⟨o,_,_,ho,_⟩,_⟩:=I.loc;exact free _ o (λz=>(hch _ z).2.1 rfl) ho I.free
 ·obtain⟨v,o,ho,hd⟩:=I.cell x c e;exact free c o (λz=>(hch c z).2.2.1 x c e rfl) ho (I.freeC x c e)
 ·obtain⟨e,n,ne,nf,d⟩:=I.pin p hp;have aa:p.1∉ch:=λz=>(hch p.1 z).2.2.2 p hp rfl;exact⟨keep p.1 p.2 ne nf aa e n,free p.1 p.2 aa e n,ne,nf,d⟩
theorem Inv.un(I:Inv X pins σ H s)(u:Un X.fs [] H H' s.heap h')(hok:Hm X.prog X.w H' h'):Inv X pins σ H' { s with heap:=h',toks:=t' }:=by
 obtain⟨m,⟨o,es,ep,ho,r⟩,_⟩:=id I.loc;obtain⟨sl,hL⟩:=u.any ho I.free (by simp)
 exact I.step (g':=s.gens) (d':=s.drawn) (ch:=[]) (λ_ z=>nomatch z) (λb o _ hb _ e n=>u.keep b o e n hb (by simp)) (λb o _ hb _ e n=>u.slot b o e n hb (by simp)) (λb o _ e n=>u.free b o e n (by simp)) (λb o _ e=>u.there b o e (by simp)) u.tups u.frzs u.tbls (λm' hm=>by
  obtain⟨o',ah,ab,aa,r'⟩:=hm;rw[ho] at aa;cases aa
  exact⟨_,ah,ab,hL,r'⟩) hok I.bare
theorem Inv.call(I:Inv X pins σ H s)(u:Un (frs X.stack) ch H H' s.heap h')(hok:Hm X.prog X.w H' h')(hg:AllBare g')
  (hch:∀b∈ch,(b∈X.ex\/X.s₀.heap.objs.size<=b)/\b≠X.env.locals/\(∀x c,X.env.cells.lookup x=some c->c≠b)/\∀p∈X.pn++pins,p.1≠b) :
  Inv X pins σ H' { s with heap:=h',gens:=g',drawn:=d',toks:=t' }:=by
 obtain⟨m,⟨o,es,ep,ho,r⟩,_⟩:=id I.loc;obtain⟨sl,hL⟩:=u.any ho I.free λz=>(hch _ z).2.1 rfl
 exact I.step (ch:=ch) hch (λb o hL hb hc e n=>u.keep b o e n (λz=>(HK.mp (I.stkSub b z)).elim hL hb) hc) (λb o _ _ hc e n=>u.any e n hc) (λb o hc e n=>u.free b o e n hc) (λb o hc e=>u.there b o e hc) u.tups u.frzs u.tbls (λm' hm=>by
  obtain⟨o',ah,ab,aa,r'⟩:=hm;rw[ho] at aa;cases aa
  exact⟨_,ah,ab,hL,r'⟩) hok hg
theorem Inv.turned(I:Inv X pins σ H s)(k:∀b o,b≠it->s.heap.get? b=some o->h'.get? b=some o)(hn:H it=none)(hL:it≠X.env.locals)
  (h1:it∈X.ex\/X.s₀.heap.objs.size<=it) (h2:∀x c,X.env.cells.lookup x=some c->c≠it) (h3:∀p∈X.pn++pins,p.1≠it):Inv X pins σ H { s with heap:=h',toks:=t' }:=by
 have aa:∀b u,H b=some u->b≠it:=λb u e z=>by rw[z,hn] at e;cases e
 refine I.step (g':=s.gens) (d':=s.drawn) (ch:=[it]) (λb hb=>?_) (λb o _ _ hc e _=>k b o (λz=>hc (by simp[z])) e) (λb o _ _ hc e _=>⟨o.slots,k b o (λz=>hc (by simp[z])) e⟩) (λ_ _ _ _ n=>n)
  (λb o hc e=>⟨o,k b o (λz=>hc (by simp[z])) e⟩) (λ_ _ e=>e) (λ_ _ _ e=>e) (λb ps e=>⟨#[],by rw[e];simp⟩) (λm hm=>?_) (λb u e=>?_) I.bare
 ·have e:b=it:=by simpa using hb
  subst e;exact⟨h1,hL,h2,h3⟩
 ·obtain⟨o,es,ep,ho,r⟩:=hm;exact⟨o,es,ep,k _ o (Jr hL) ho,r⟩
 ·refine(I.hok b u e).stay (λc v hc q=>k c v ?_ q) (λ_ q=>q) λ_ _ q=>q
  rcases hc with z | z
  ·rw[z];exact aa b u e
  ·exact aa c _ z
theorem Inv.tok(I:Inv X pins σ H s)(t:Nat):Inv X pins σ H { s with toks:=t }:=I.un (h':=s.heap) (t':=t) Un.refl I.hok
theorem Inv.kept(I:Inv X pins σ H s)(k:∀b u,s.heap.get? b=some u->h'.get? b=some u):Inv X pins σ H { s with heap:=h',toks:=t' }:=I.un (Un.kept k) (I.hok.kept k)
theorem Inv.laid(I:Inv X pins σ H s)(k:∀b u,s.heap.get? b=some u->h'.get? b=some u)(hp:s.heap.objs.size<=a)(new:bA X.prog X.w (G6 H a o) h' a o) :
  Inv X pins σ (G6 H a o) { s with heap:=h',toks:=t' }:=I.un (Un.laid k hp (I.hok.fresh hp)) (I.hok.laid k hp new)
theorem Inv.write(I:Inv X pins σ H s)(mu:Mut (H x))(he:e=x\/H e=some (.own x))(k:∀b u,b≠e->s.heap.get? b=some u->h'.get? b=some u)(heo:∃u,h'.get? e=some u)
  (new:bA X.prog X.w (G6 H x o) h' x o):Inv X pins σ (G6 H x o) { s with heap:=h',toks:=t' }:=I.un (Un.write mu he k heo) (I.hok.write mu he k heo new)
theorem Inv.pins_of(I:Inv X pins σ H s)(h:∀p∈pins',s.heap.get? p.1=some p.2/\H p.1=none/\p.1≠X.env.locals/\p.1∉X.fs/\∀v,p.2.data≠.cell v):Inv X pins' σ H s :=
 ⟨I.ok,I.os,I.bare,I.base,I.loc,I.cell,I.free,I.freeC,λp hp=>(HZ.mp hp).elim (λz=>I.pin p (HV _ z)) (h p),I.hok,I.len⟩
theorem kE{N:Zb}(hN:N.Nodup){i j:Nat}(a:N[i]?=some x)(b:N[j]?=some x):i=j:=by
 obtain⟨h1,e1⟩:=HL.mp a;obtain⟨h2,e2⟩:=HL.mp b;exact(List.getElem_inj hN).mp (e1.trans e2.symm)
theorem mL(I:Inv X pins σ H s)(hN:X.N.Nodup)(hi:X.N[i]?=some x)(hx:Loc X.env.scope x)(r:a5 v u)
  (h:∀s',Inv X pins (σ.set i (some v)) H s'->(∃a,Heap.SameBut a s.heap s'.heap/\(a=X.env.locals\/X.env.cells.lookup x=some a))->Q () s') (hf:X.fn x=true\/X.env.scope.names.lookup x=some .local :=by walk_at "v1"):wpAny M A (storeName X.env x u) Q E s:=by
 obtain⟨m,hn,hl⟩:=id I.loc;have al:(X.env.scope.kind == .class||(X.env.scope.kind == .module&&X.env.locals != X.env.globals))=false:=by rw[I.ok.kind];rfl
 have ai:i<σ.length:=by rw[I.len];exact(HL.mp hi).1
 have cne:=I.cne
 have aa:∀ {a:Addr} {h':Heap},(∃o,s.heap.get? a=some o/\H a=none)->Heap.SameBut a s.heap h'->Hm X.prog X.w H h':=λ{a h'} ha hs b ob e=>by
  obtain⟨_,_,ab⟩:=ha;refine(I.hok b ob e).stay (λc w' hc q=>(hs.2 c ?_).trans q) (λ_ q=>q) λ_ _ q=>q;rintro rfl
  rcases hc with rfl | hc
  ·rw[ab] at e;cases e
  ·rw[ab] at hc;cases hc
 rcases hx with hk | hk
 ·refine wpAny_storeName_local hk hn (λh' hn' hs=>?_) al;obtain⟨oL,_,_,ao,_⟩:=id hn;refine h _ ⟨I.ok,I.os,I.bare,⟨λb o e n hb hx=>?_,λb o e n hb hx=>?_,I.base.free,λb o e hx=>?_,I.base.tups,I.base.frzs,I.base.tbls⟩,⟨_,hn',λj y v' e1 e2 e3=>?_⟩,λy c e=>?_,I.free,I.freeC,λp hp=>?_,aa ⟨oL,ao,I.free⟩ hs,by simpa using I.len⟩ ⟨_,hs,.inl rfl⟩
  ·exact(hs.2 b (Iq (HW (HN e) I.ok.above))).trans (I.base.keep b o e n hb hx)
  ·obtain⟨sl,e1⟩:=I.base.slot b o e n hb hx;exact⟨sl,(hs.2 b (Iq (HW (HN e) I.ok.above))).trans e1⟩
  ·obtain⟨o',e1⟩:=I.base.there b o e hx;exact⟨o',(hs.2 b (Iq (HW (HN e) I.ok.above))).trans e1⟩
  ·by_cases hj:j=i
   ·subst hj;rw[hi] at e1;cases e1;rw[Il ai] at e2
    cases e2
    exact⟨u,r,.inl ⟨hk,by simp⟩⟩
   ·rw[Io (Jr hj)] at e2;obtain⟨u',r',q⟩:=hl j y v' e1 e2 e3;refine⟨u',r',?_⟩
    rcases q with⟨k,e⟩ | ⟨k,c,e,z⟩
    ·refine .inl ⟨k,?_⟩;have:y≠x:=λe=>hj (kE hN e1 (e ▸ hi));simp[this,e]
    ·exact .inr ⟨k,c,e,z.sameBut hs (cne y c e)⟩
  ·obtain⟨w',z⟩:=I.cell y c e;exact⟨w',z.sameBut hs (cne y c e)⟩
  ·obtain⟨e,n,ne,nf,d⟩:=I.pin p hp;exact⟨(hs.2 p.1 ne).trans e,n,ne,nf,d⟩
 ·have ah:X.fn x=true:=by
   rcases hf with z | z
   ·exact z
   ·rw[z] at hk;cases hk
  obtain⟨c,hc⟩:=I.ok.has x (.inl hk);obtain⟨w',z⟩:=I.cell x c hc;refine wpAny_storeName_cell I.ok.kind hk hc z (λh' hc' hs=>?_);obtain⟨oc,aj,an⟩:=id z;refine h { s with heap:=h' } ⟨I.ok,I.os,I.bare,⟨λb o e n hb hx=>?_,λb o e n hb hx=>?_,I.base.free,λb o e hx=>?_,I.base.tups,I.base.frzs,I.base.tbls⟩,⟨m,hn.sameBut hs (Jr (cne x c hc)),λj y v' e1 e2 e3=>?_⟩,λy c' e=>?_,I.free,I.freeC,λp hp=>?_,aa ⟨oc,aj,I.freeC x c hc⟩ hs,by simpa using I.len⟩ ⟨c,hs,.inr hc⟩
  ·exact(hs.2 b (Iq (HW (HN e) (I.ok.cab x c ah hc)))).trans (I.base.keep b o e n hb hx)
  ·obtain⟨sl,e1⟩:=I.base.slot b o e n hb hx;exact⟨sl,(hs.2 b (Iq (HW (HN e) (I.ok.cab x c ah hc)))).trans e1⟩
  ·obtain⟨o',e1⟩:=I.base.there b o e hx;exact⟨o',(hs.2 b (Iq (HW (HN e) (I.ok.cab x c ah hc)))).trans e1⟩
  ·by_cases hj:j=i
   ·subst hj;rw[hi] at e1;cases e1;rw[Il ai] at e2
    cases e2
    exact⟨u,r,.inr ⟨.inl hk,c,hc,hc'⟩⟩
   ·rw[Io (Jr hj)] at e2;obtain⟨u',r',q⟩:=hl j y v' e1 e2 e3;refine⟨u',r',?_⟩
    rcases q with q | ⟨k,c',e,z'⟩
    ·exact .inl q
    ·refine .inr ⟨k,c',e,z'.sameBut hs ?_⟩;rintro rfl;exact hj (kE hN e1 (I.ok.inj _ _ _ e hc ▸ hi))
  ·by_cases hcc:c'=c
   ·subst hcc;exact⟨_,hc'⟩
   ·obtain⟨w2,z2⟩:=I.cell y c' e;exact⟨w2,z2.sameBut hs hcc⟩
  ·obtain⟨e,n,ne,nf,d⟩:=I.pin p hp;refine⟨(hs.2 p.1 ?_).trans e,n,ne,nf,d⟩;intro q;rw[q,aj] at e;have q':oc=p.2:=HR e;exact d w' (by rw[<- q'];exact an)
theorem gV(I:Inv X pins σ H s)(hN:X.N.Nodup)(hi:X.N[i]?=some x)(hx:Loc X.env.scope x)(r:a5 v u)
  (h:∀s',Inv X pins (σ.set i (some v)) H s'->Q () s') (hf:X.fn x=true\/X.env.scope.names.lookup x=some .local :=by walk_at "v1"):wpAny M A (storeName X.env x u) Q E s :=
 mL I hN hi hx r (λs' I' _=>h s' I') hf
theorem Inv.call'(I:Inv X pins σ H s)(ho:s'.os=s.os)(u:Un (frs X.stack) ch H H' s.heap s'.heap)(hok:Hm X.prog X.w H' s'.heap)(hg:AllBare s'.gens)
  (hch:∀b∈ch,(b∈X.ex\/X.s₀.heap.objs.size<=b)/\b≠X.env.locals/\(∀x c,X.env.cells.lookup x=some c->c≠b)/\∀p∈X.pn++pins,p.1≠b):Inv X pins σ H' s':=by
 obtain⟨h',g',d',t',o'⟩:=s';have e:o'=s.os:=ho;subst e;exact I.call (g':=g') (t':=t') (d':=d') u hok hg hch
end
abbrev XK:=Value->Option Addr->Hp->Prop
abbrev St:=List (Option V)
abbrev VK:=V->Hp->Prop
abbrev TE:=St->Hp->VK->Prop
abbrev TT:=St->Hp->(Bool->Hp->Prop)->Prop
abbrev TA:=St->Hp->(List V->Hp->Prop)->Prop
structure Cp where
 nx:St->Hp->Prop
 rt:VK
 bk:St->Hp->Prop:=λ_ _=>False
 ct:St->Hp->Prop:=λ_ _=>False
abbrev TS:=Cp->St->Hp->Prop
def EP(X:Cx)(pins:List (Addr×Obj))(σ:St)(Q:VK)(u:Value)(s':Shared):Prop:=∃v H',Inv X pins σ H' s'/\a5 v u/\Q v H'
def TP(X:Cx)(pins:List (Addr×Obj))(σ:St)(Q:Bool->Hp->Prop)(b:Bool)(s':Shared):Prop:=∃H',Inv X pins σ H' s'/\Q b H'
def AP(X:Cx)(pins:List (Addr×Obj))(σ:St)(Q:Zg->Hp->Prop)(us:Zc)(s':Shared):Prop:=∃vs H',Inv X pins σ H' s'/\bg vs us/\Q vs H'
def SP(X:Cx)(pins:List (Addr×Obj))(D:Cp)(f:Flow)(s':Shared):Prop :=
 match f with
 | .next=>∃σ' H',Inv X pins σ' H' s'/\D.nx σ' H'
 | .brk=>∃σ' H',Inv X pins σ' H' s'/\D.bk σ' H'
 | .cont=>∃σ' H',Inv X pins σ' H' s'/\D.ct σ' H'
 | .ret u=>∃v σ' H',Inv X pins σ' H' s'/\a5 v u/\D.rt v H'
def PE(X:Cx)(e:Expr)(t:TE):Prop :=
 ∀(pins:List (Addr×Obj)) (s:Shared) (σ:St) (H:Hp) (Q:VK),Inv X pins σ H s->t σ H Q->wpAny (model X.prog X.w) X.A (eval e X.env) (EP X pins σ Q) X.xe s
def PT(X:Cx)(e:Expr)(t:TT):Prop :=
 ∀(pins:List (Addr×Obj)) (s:Shared) (σ:St) (H:Hp) (Q:Bool->Hp->Prop),Inv X pins σ H s->t σ H Q->wpAny (model X.prog X.w) X.A (isTrue e X.env (eval e X.env)) (TP X pins σ Q) X.xe s
def PW(X:Cx)(e:Expr)(t:TT):Prop :=
 ∀(whole:Sem Value) (pins:List (Addr×Obj)) (s:Shared) (σ:St) (H:Hp) (Q:Bool->Hp->Prop),Inv X pins σ H s->t σ H Q->wpAny (model X.prog X.w) X.A (isTrue e X.env whole) (TP X pins σ Q) X.xe s
theorem PW.pt(h:PW X e t):PT X e t:=h _
def PA(X:Cx)(es:List Expr)(t:TA):Prop :=
 ∀(pos:Pos) (pins:List (Addr×Obj)) (s:Shared) (σ:St) (H:Hp) (Q:Zg->Hp->Prop),Inv X pins σ H s->t σ H Q->wpAny (model X.prog X.w) X.A (spliced (backTo pos (starEach es X.env))) (AP X pins σ Q) X.xe s
def PS(X:Cx)(st:Stmt)(t:TS):Prop :=
 ∀(pins:List (Addr×Obj)) (s:Shared) (σ:St) (H:Hp) (D:Cp),Inv X pins σ H s->t D σ H->wpAny (model X.prog X.w) X.A (exec st X.env) (SP X pins D) X.xe s
def PSs(X:Cx)(st:List Stmt)(t:TS):Prop :=
 ∀(pins:List (Addr×Obj)) (s:Shared) (σ:St) (H:Hp) (D:Cp),Inv X pins σ H s->t D σ H->wpAny (model X.prog X.w) X.A (execs st X.env) (SP X pins D) X.xe s
theorem Ha(h:wpAny M A t Q E s)(hQ:∀a s,Q a s->Q' a s):wpAny M A t Q' E s:=IU h hQ λ_ _ x=>x
end L2
namespace L2
open PySem PySem.Spec PyProof.Rows
section
variable {X:Cx}
theorem bin(ha:PE X a ta)(hb:PE X b tb){H:Hp}{R:V->V->Hp->Prop}(I:Inv X pins σ H s)(h:ta σ H λx H1=>tb σ H1 λy H2=>R x y H2)
  {α:Type} {Q:α->Shared->Prop} {f:Value->Value->Sem α}
  (hf:∀v u s2 x y H2,Inv X pins σ H2 s2->a5 x v->a5 y u->R x y H2->wpAny (model X.prog X.w) X.A (f v u) Q X.xe s2) :
  wpAny (model X.prog X.w) X.A (eval a X.env) (λv s₁=>wpAny (model X.prog X.w) X.A (eval b X.env) (λu s₂=>wpAny (model X.prog X.w) X.A (f v u) Q X.xe s₂) X.xe s₁) X.xe s:=by
 refine Ha (ha pins s σ H _ I h) λv s1 ⟨x,H1,I1,r1,q1⟩=>?_;refine Ha (hb pins s1 σ H1 _ I1 q1) λu s2 ⟨y,H2,I2,r2,q2⟩=>?_;exact hf v u s2 x y H2 I2 r1 r2 q2
def zv(i:Nat):TE:=λσ H Q=>∃v,σ[i]?=some (some v)/\Q v H
def tC(v:V):TE:=λ_ H Q=>Q v H
theorem a4(hN:X.N[i]?=some x)(hv:Vis X.env.scope x)(hd:(x==("__debug__":Str))=false:=by decide)(hcd:(x==("__classdict__":Str))=false:=by decide):PE X (.Name x pos) (zv i):=by
 intro pins s σ H Q I h;obtain⟨v,e,h⟩:=h;obtain⟨m,hn,hl⟩:=I.loc;obtain⟨u,r,l⟩:=hl i x v hN e hv;have ab:EP X pins σ Q u s:=⟨v,H,I,r,h⟩
 rcases l with⟨hk,hm⟩ | ⟨hk,c,hc,aa⟩
 ·exact wpAny_Name (wpAny_loadName_local I.ok.kind hk hn hm ab) hd
 ·rcases hk with hk | hk
  ·exact wpAny_Name (wpAny_loadName_cell I.ok.kind hk hc aa ab) hd
  ·exact wpAny_Name (wpAny_loadName_free I.ok.kind hk hc aa ab hcd) hd
theorem yC{i j pos}:PE X (.Constant (.int i) j pos) (tC (.int i)):=λ_ _ _ H _ I h=>wpAny_Constant_int ⟨.int i,H,I.tok _,⟨_,rfl⟩,h⟩
theorem Gg{b j pos}:PE X (.Constant (.bool b) j pos) (tC (.bl b)):=λ_ _ _ H _ I h=>Constant_bool ⟨.bl b,H,I,rfl,h⟩
theorem DX{j pos}:PE X (.Constant .none j pos) (tC .non):=λ_ _ _ H _ I h=>Constant_none ⟨.non,H,I,rfl,h⟩
theorem pL{x j pos}:PE X (.Constant (.str x) j pos) (tC (.str x)):=λ_ _ _ H _ I h=>Calls.Constant_str ⟨.str x,H,I.tok _,⟨_,rfl⟩,h⟩
def Gl(X:Cx)(x:Str):Prop:=X.env.kindOf x=some .globalImplicit
theorem io(I:Inv X pins σ H s)(hg:Gl X x)(hm:X.mg x=some u)(h:Q u s)
  (hd:(x==("__debug__":Str))=false:=by decide):wpAny (model X.prog X.w) X.A (eval (.Name x pos) X.env) Q E s :=
 Calls.Name_function_global I.ok.kind hg (Calls.loadGlobal_global (by rw[I.ok.glob];exact I.mod.glob.keeps I.bk) hm h) hd
theorem i9(I:Inv X pins σ H s)(hg:Gl X x)(hm:X.mg x=none)(hv:bootBuiltins x=some u)(h:Q u s)
  (hn:x≠"__name__":=by decide) (hd:(x==("__debug__":Str))=false:=by decide):wpAny (model X.prog X.w) X.A (eval (.Name x pos) X.env) Q E s:=by
 obtain⟨mb,h1,h2⟩:=I.mod.blt;exact Calls.Name_function_global I.ok.kind hg (Calls.loadGlobal_builtin (by rw[I.ok.glob];exact I.mod.glob.keeps I.bk) hm (by rw[I.ok.blt];exact h1.keeps I.bk) ((h2 x hn).trans hv) h) hd
theorem ge(hg:Gl X x)(hm:X.mg x=some u)(r:a5 v u)(hd:(x==("__debug__":Str))=false:=by decide):PE X (.Name x pos) (tC v) :=
 λ_ _ _ H _ I h=>io I hg hm ⟨v,H,I,r,h⟩ hd
theorem uU(hg:Gl X x)(hm:X.mg x=none)(hv:bootBuiltins x=some u)(r:a5 v u)(hn:x≠"__name__":=by decide)(hd:(x==("__debug__":Str))=false:=by decide):PE X (.Name x pos) (tC v) :=
 λ_ _ _ H _ I h=>i9 I hg hm hv ⟨v,H,I,r,h⟩ hn hd
variable {a b:Expr} {ta tb:TE} {pos:Pos}
def PC(X:Cx)(op:CmpOp)(a b:Expr)(t:TE):Prop :=
 ∀(pins:List (Addr×Obj)) (s:Shared) (σ:St) (H:Hp) (Q:VK),Inv X pins σ H s->t σ H Q ->
  wpAny (model X.prog X.w) X.A (eval a X.env) (λv s₁=>wpAny (model X.prog X.w) X.A (eval b X.env) (λu s₂=>wpAny (model X.prog X.w) X.A (compareOp op v u) (EP X pins σ Q) X.xe s₂) X.xe s₁) X.xe s
def tB(t:TE):TT:=λσ H Q=>t σ H λx H1=>∃c,x=.bl c/\Q c H1
theorem pt_cmp(h:PC X op a b t)(h1:behindInMarks op b=false:=by first | exact nobehind _ (by decide) (by decide) | rfl):PT X (.Compare a [op] [b] pos) (tB t):=by
 intro pins s σ H Q I hw;refine wpAny_isTrue_Compare1 (Ha (h pins s σ H _ I hw) λv s1 h1=>Ha h1 λu s2 h2=>Ha h2 λc s3 ⟨x,H1,I1,r1,q1⟩=>?_) h1;obtain⟨d,rfl,q⟩:=q1
 cases r1
 exact Jw ⟨H1,I1,q⟩
theorem DD(h:PE X e t)(he:∀whole,isTrue e X.env whole=(do let v<-whole;standAt e.pos;holding [v] (truthy v)):=by intro _;rfl):PT X e (tB t):=by
 intro pins s σ H Q I hw;refine isTrue_plain (Ha (h pins s σ H _ I hw) λv s1 ⟨x,H1,I1,r1,q1⟩=>?_) (he _);obtain⟨d,rfl,q⟩:=q1
 cases r1
 exact Jw ⟨H1,I1,q⟩
def tAnd(t u:TT):TT:=λσ H Q=>t σ H λc H1=>if c=true then u σ H1 Q else Q false H1
def tOr(t u:TT):TT:=λσ H Q=>t σ H λc H1=>if c=true then Q true H1 else u σ H1 Q
def tNot(t:TT):TT:=λσ H Q=>t σ H λc H1=>Q (!c) H1
theorem Bw(ha:PT X a tA):PW X (.BoolOp .And [a] pos) tA:=by
 intro wh pins s σ H Q I h;refine isTrue_and (Ha (ha pins s σ H Q I h) λc s1 e=>?_)
 cases c with
 | true=>exact isTrue_and_nil e
 | false=>exact e
theorem CW(ha:PT X a tA):PW X (.BoolOp .Or [a] pos) tA:=by
 intro wh pins s σ H Q I h;refine isTrue_or (Ha (ha pins s σ H Q I h) λc s1 e=>?_)
 cases c with
 | false=>exact isTrue_or_nil e
 | true=>exact e
theorem Eb{bS:List Expr}(ha:PT X a tA)(hb:PW X (.BoolOp .And (b::bS) pos) tB'):PW X (.BoolOp .And (a::b::bS) pos) (tAnd tA tB'):=by
 intro wh pins s σ H Q I h;refine isTrue_and (Ha (ha pins s σ H _ I h) λc s1 ⟨H1,I1,q1⟩=>?_)
 cases c with
 | true=>exact hb wh pins s1 σ H1 Q I1 q1
 | false=>exact⟨H1,I1,q1⟩
theorem tE{tA tB':TT}{bS:List Expr}(ha:PT X a tA)(hb:PW X (.BoolOp .Or (b::bS) pos) tB'):PW X (.BoolOp .Or (a::b::bS) pos) (tOr tA tB'):=by
 intro wh pins s σ H Q I h;refine isTrue_or (Ha (ha pins s σ H _ I h) λc s1 ⟨H1,I1,q1⟩=>?_)
 cases c with
 | true=>exact⟨H1,I1,q1⟩
 | false=>exact hb wh pins s1 σ H1 Q I1 q1
theorem C3(ha:PT X a tA):PT X (.UnaryOp .Not a pos) (tNot tA):=by
 intro pins s σ H Q I h;exact isTrue_not (ha pins s σ H (λc H1=>Q (!c) H1) I h)
def FV(ta tb:TE):TE:=λσ H Q=>ta σ H λx H1=>∃c,x=.bl c/\if c=true then tb σ H1 Q else Q (.bl false) H1
def tOrV(ta tb:TE):TE:=λσ H Q=>ta σ H λx H1=>∃c,x=.bl c/\if c=true then Q (.bl true) H1 else tb σ H1 Q
def GP(ta:TE):TE:=λσ H Q=>ta σ H λx H1=>∃c,x=.bl c/\Q (.bl (!c)) H1
theorem Di{op}(h:PE X a t):PE X (.BoolOp op [a] pos) t:=λpins s σ H Q I hw=>BoolOp_one (h pins s σ H Q I hw)
theorem Fo{bS:List Expr}(ha:PE X a ta)(hb:PE X (.BoolOp .And (b::bS) pos) tb):PE X (.BoolOp .And (a::b::bS) pos) (FV ta tb):=by
 intro pins s σ H Q I h;refine BoolOp_and (Ha (ha pins s σ H _ I h) λv s1 ⟨x,H1,I1,r1,q1⟩=>?_);obtain⟨c,rfl,q1⟩:=q1
 cases r1
 refine Jw ?_
 cases c with
 | true=>exact hb pins s1 σ H1 Q I1 q1
 | false=>exact⟨.bl false,H1,I1,rfl,q1⟩
theorem FH{bS:List Expr}(ha:PE X a ta)(hb:PE X (.BoolOp .Or (b::bS) pos) tb):PE X (.BoolOp .Or (a::b::bS) pos) (tOrV ta tb):=by
 intro pins s σ H Q I h;refine BoolOp_or (Ha (ha pins s σ H _ I h) λv s1 ⟨x,H1,I1,r1,q1⟩=>?_);obtain⟨c,rfl,q1⟩:=q1
 cases r1
 refine Jw ?_
 cases c with
 | false=>exact hb pins s1 σ H1 Q I1 q1
 | true=>exact⟨.bl true,H1,I1,rfl,q1⟩
theorem CK(ha:PE X a ta):PE X (.UnaryOp .Not a pos) (GP ta):=by
 intro pins s σ H Q I h;refine UnaryOp_ (Ha (ha pins s σ H _ I h) λv s1 ⟨x,H1,I1,r1,q1⟩=>?_);obtain⟨c,rfl,q1⟩:=q1
 cases r1
 exact not_of (Jw ⟨.bl (!c),H1,I1,rfl,q1⟩)
def tIf(t:TT)(ta tb:TE):TE:=λσ H Q=>t σ H λc H1=>if c=true then ta σ H1 Q else tb σ H1 Q
theorem wH(hc:PT X c tA)(ha:PE X a ta)(hb:PE X b tb):PE X (.IfExp c a b pos) (tIf tA ta tb):=by
 intro pins s σ H Q I h;refine wpAny_IfExp (Ha (hc pins s σ H _ I h) λd s1 ⟨H1,I1,q1⟩=>?_)
 cases d with
 | true=>exact ha pins s1 σ H1 Q I1 q1
 | false=>exact hb pins s1 σ H1 Q I1 q1
end
end L2
namespace L2
open PySem PySem.Spec PyProof.Rows
def G4(K:Zf)(H:Hp)(a:Addr)(xs:Zg):Prop :=
 Rd H a (.lst xs) \/
  ∃(o:Obj) (its:Array Value) (n:Nat),K.lookup a=some o/\o.cls=.type "list"/\o.dict=none/\o.data=.seq its n/\its.size<=sizeLine/\bg xs its.toList
def Ho(K:Zf)(H:Hp)(a:Addr)(xs:Zg):Prop :=
 Rd H a (.tup xs) \/
  ∃(o:Obj) (its:Array Value) (n:Nat),K.lookup a=some o/\o.cls=.type "tuple"/\o.data=.seq its n/\its.size<=sizeLine/\bg xs its.toList
def absV:Value->Option V
 | .none=>some .non
 | .bool b=>some (.bl b)
 | .int i _=>some (.int i)
 | .str x _=>some (.str x)
 | .bytes b _=>some (.byt b)
 | .float b _=>some (.flt b)
 | .ref a=>some (.ref a)
 | .type n=>some (.ty n)
 | _=>none
theorem a5.abs(r:a5 x u):absV u=some x:=by
 cases x with
 | non=>cases r;rfl
 | bl _=>cases r;rfl
 | int _=>obtain⟨t,rfl⟩:=r;rfl
 | str _=>obtain⟨t,rfl⟩:=r;rfl
 | byt _=>obtain⟨t,rfl⟩:=r;rfl
 | flt _=>obtain⟨t,rfl⟩:=r;rfl
 | ref _=>cases r;rfl
 | ty _=>cases r;rfl
theorem a5.inj(r:a5 x u)(q:a5 y u):x=y:=HR (r.abs.symm.trans q.abs)
theorem bg.inj:∀ {xs ys:Zg} {us:Zc},bg xs us->bg ys us->xs=ys
 | _,_,_,.nil,.nil=>rfl
 | _,_,_,.cons r t,.cons r' t'=>by rw[r.inj r',bg.inj t t']
section
theorem G4.of{H:Hp}{K:Zf}(h:H a=some (.lst xs)):G4 K H a xs:=.inl (.inl h)
theorem Ho.of{H:Hp}{K:Zf}(h:H a=some (.tup xs)):Ho K H a xs:=.inl (.inl h)
theorem Inv.list(I:Inv X pins σ H s)(h:G4 X.K H a xs):∃its:Zc,bg xs its/\PlainL s.heap a its.toArray/\xs.length<=sizeLine:=by
 rcases h with h | ⟨o,its,n,hk,hc,hd,hs,hz,r⟩
 ·obtain⟨z,its,n,r,e⟩:=h.ok I.hok;exact⟨its,r,⟨_,n,e,rfl,rfl,rfl⟩,z⟩
 ·refine⟨its.toList,r,⟨o,n,I.kIn a o hk,hc,hd,by simpa using hs⟩,?_⟩;have e:=r.length;simp only[Array.length_toList] at e;omega
theorem Inv.tuple(I:Inv X pins σ H s)(h:Ho X.K H a xs):∃its:Zc,bg xs its/\IsTup s.heap a its.toArray/\xs.length<=sizeLine:=by
 rcases h with h | ⟨o,its,n,hk,hc,hs,hz,r⟩
 ·obtain⟨z,its,r,p⟩:=h.ok I.hok;exact⟨its,r,p,z⟩
 ·refine⟨its.toList,r,⟨o,I.kIn a o hk,hc,n,by simpa using hs⟩,?_⟩;have e:=r.length;simp only[Array.length_toList] at e;omega
theorem Inv.list_inj(I:Inv X pins σ H s)(h:G4 X.K H a xs)(h':G4 X.K H a ys):xs=ys:=by
 obtain⟨ab,r,⟨o,n,e,_,_,d⟩,_⟩:=I.list h;obtain⟨aa,r',⟨o',n',e',_,_,d'⟩,_⟩:=I.list h';rw[e] at e';cases e';rw[d] at d'
 injection d' with d1 _
 have:ab=aa:=by simpa using Jf Array.toList d1
 subst this;exact r.inj r'
theorem Inv.tuple_inj(I:Inv X pins σ H s)(h:Ho X.K H a xs)(h':Ho X.K H a ys):xs=ys:=by
 obtain⟨ab,r,⟨o,e,_,n,d⟩,_⟩:=I.tuple h;obtain⟨aa,r',⟨o',e',_,n',d'⟩,_⟩:=I.tuple h';rw[e] at e';cases e';rw[d] at d'
 injection d' with d1 _
 have:ab=aa:=by simpa using Jf Array.toList d1
 subst this;exact r.inj r'
end
abbrev Cx.wish(X:Cx)(E:Value->Shared->Prop):Cx:={ X with xe:=E }
abbrev Cx.nox(X:Cx):Cx:=X.wish λ_ _=>False
theorem Cx.Ok.wish{X:Cx}(ok:X.Ok)(E:Value->Shared->Prop):(X.wish E).Ok :=
 ⟨ok.mod,ok.kind,ok.glob,ok.blt,ok.above,ok.inj,ok.has,ok.cab,ok.hd,ok.frames,ok.stk,ok.exf,ok.bs,ok.bsz,ok.noex,ok.exfs,ok.funs,ok.frf⟩
theorem Cx.Ok.unwish{X:Cx}{E:Value->Shared->Prop}(ok:(X.wish E).Ok):X.Ok :=
 ⟨ok.mod,ok.kind,ok.glob,ok.blt,ok.above,ok.inj,ok.has,ok.cab,ok.hd,ok.frames,ok.stk,ok.exf,ok.bs,ok.bsz,ok.noex,ok.exfs,ok.funs,ok.frf⟩
section
theorem Inv.wish(I:Inv X pins σ H s)(E:Value->Shared->Prop):Inv (X.wish E) pins σ H s:=⟨I.ok.wish E,I.os,I.bare,I.base,I.loc,I.cell,I.free,I.freeC,I.pin,I.hok,I.len⟩
theorem Inv.unwish(I:Inv (X.wish E) pins σ H s):Inv X pins σ H s:=⟨I.ok.unwish,I.os,I.bare,I.base,I.loc,I.cell,I.free,I.freeC,I.pin,I.hok,I.len⟩
theorem SP.unwish(h:SP (X.wish E) pins D f s'):SP X pins D f s':=by
 cases f with
 | next=>obtain⟨σ',H',I,q⟩:=h;exact⟨σ',H',I.unwish,q⟩
 | brk=>obtain⟨σ',H',I,q⟩:=h;exact⟨σ',H',I.unwish,q⟩
 | cont=>obtain⟨σ',H',I,q⟩:=h;exact⟨σ',H',I.unwish,q⟩
 | ret u=>obtain⟨v,σ',H',I,r,q⟩:=h;exact⟨v,σ',H',I.unwish,r,q⟩
theorem PE.nox(h:PE X.nox e t):PE X e t:=λpins s σ H Q I hw =>
 IU (h pins s σ H Q (I.wish _) hw) (λ_ _ ⟨v,H',I',r,q⟩=>⟨v,H',I'.unwish,r,q⟩) λ_ _ z=>False.elim z
theorem PT.nox(h:PT X.nox e t):PT X e t:=λpins s σ H Q I hw =>
 IU (h pins s σ H Q (I.wish _) hw) (λ_ _ ⟨H',I',q⟩=>⟨H',I'.unwish,q⟩) λ_ _ z=>False.elim z
theorem PSs.nox{X:Cx}{st:List Stmt}(h:PSs X.nox st t):PSs X st t:=λpins s σ H D I hw =>
 IU (h pins s σ H D (I.wish _) hw) (λ_ _ q=>q.unwish) λ_ _ z=>False.elim z
end
section
variable {X:Cx} {st:Stmt} {bS:List Stmt} {t u:TS} {e:Expr} {te:TE} {pos:Pos}
def Ga:TS:=λD σ H=>D.nx σ H
def tSeq(t u:TS):TS:=λD σ H=>t { D with nx:=u D } σ H
theorem zQ:PSs X [] Ga:=λ_ _ σ H _ I h=>Kj ⟨σ,H,I,h⟩
theorem gP(h1:PS X st t)(h2:PSs X bS u):PSs X (st::bS) (tSeq t u):=by
 intro pins s σ H D I h;refine wpAny_execs_cons (Ha (h1 pins s σ H { D with nx:=u D } I h) λf s1 q=>?_)
 cases f with
 | next =>
  obtain⟨σ',H',I',q⟩:=q;exact h2 pins s1 σ' H' D I' q
 | ret v=>exact q
 | brk=>exact q
 | cont=>exact q
theorem iX(h1:PS X st t):PSs X [st] t:=by
 intro pins s σ H D I h;refine wpAny_execs_cons (Ha (h1 pins s σ H D I h) λf s1 q=>?_)
 cases f with
 | next=>exact Kj q
 | ret v=>exact q
 | brk=>exact q
 | cont=>exact q
theorem Inv.quiet(I:Inv X pins σ H s):interactive X.env=false:=by simp[interactive,I.ok.kind]
def Ax(te:TE):TS:=λD σ H=>te σ H λ_ H1=>D.nx σ H1
theorem eO(he:PE X e te)(hs:swapsWith e none pos.line X.env=pure false:=by rfl):PS X (.Expr e pos) (Ax te):=by
 intro pins s σ H D I h;exact wpAny_Expr_any (Ha (he pins s σ H _ I h) λv s1 ⟨x,H1,I1,r1,q1⟩=>⟨σ,H1,I1,q1⟩) I.quiet hs
def tRet(te:TE):TS:=λD σ H=>te σ H D.rt
theorem qz(he:PE X e te):PS X (.Return (some e) pos) (tRet te):=by
 intro pins s σ H D I h;exact wpAny_Return_some (Ha (he pins s σ H _ I h) λv s1 ⟨x,H1,I1,r1,q1⟩=>⟨x,σ,H1,I1,r1,q1⟩)
def GG:TS:=λD _ H=>D.rt .non H
theorem Ac:PS X (.Return none pos) GG:=λ_ _ σ H _ I h=>wpAny_Return_none ⟨.non,σ,H,I,rfl,h⟩
def tIfS(c:TT)(t u:TS):TS:=λD σ H=>c σ H λb H1=>if b=true then t D σ H1 else u D σ H1
theorem Fy(hc:PT X c tc)(ha:PSs X a t)(hb:PSs X b u):PS X (.If c a b pos) (tIfS tc t u):=by
 intro pins s σ H D I h;refine wpAny_If (Ha (hc pins s σ H _ I h) λd s1 ⟨H1,I1,q1⟩=>?_)
 cases d with
 | true=>exact ha pins s1 σ H1 D I1 q1
 | false=>exact hb pins s1 σ H1 D I1 q1
def yT:TS:=λ_ _ _=>False
theorem xI:PS X st yT:=λ_ _ _ _ _ _ h=>h.elim
theorem tM:PSs X sts yT:=λ_ _ _ _ _ _ h=>h.elim
end
abbrev TG:=V->St->Hp->(St->Hp->Prop)->Prop
abbrev TGs:=List V->St->Hp->(St->Hp->Prop)->Prop
def PG(X:Cx)(target:Expr)(t:TG):Prop :=
 ∀(pins:List (Addr×Obj)) (s:Shared) (σ:St) (H:Hp) (v:V) (u:Value) (Q:St->Hp->Prop),Inv X pins σ H s->a5 v u->t v σ H Q ->
  wpAny (model X.prog X.w) X.A (assign target X.env u) (λ_ s'=>∃σ' H',Inv X pins σ' H' s'/\Q σ' H') X.xe s
def PGs(X:Cx)(ts:List Expr)(t:TGs):Prop :=
 ∀(pins:List (Addr×Obj)) (s:Shared) (σ:St) (H:Hp) (vs:Zg) (us:Zc) (Q:St->Hp->Prop),Inv X pins σ H s->bg vs us->t vs σ H Q ->
  wpAny (model X.prog X.w) X.A (assignInOrder ((assignEach ts X.env).map (·.2)) us) (λ_ s'=>∃σ' H',Inv X pins σ' H' s'/\Q σ' H') X.xe s
abbrev TSet:=V->V->V->Hp->(Hp->Prop)->Prop
def PSet(X:Cx)(t:TSet):Prop :=
 ∀(pins:List (Addr×Obj)) (s:Shared) (σ:St) (H:Hp) (o i v:V) (ov iv u:Value) (Q:Hp->Prop),Inv X pins σ H s->a5 o ov->a5 i iv->a5 v u->t o i v H Q ->
  wpAny (model X.prog X.w) X.A (setItem ov iv u) (λ_ s'=>∃H',Inv X pins σ H' s'/\Q H') X.xe s
section
def ui(i:Nat):TG:=λv σ H Q=>Q (σ.set i (some v)) H
theorem Ad(hN:X.N.Nodup)(hi:X.N[i]?=some x)(hx:Loc X.env.scope x)(hf:X.fn x=true\/X.env.scope.names.lookup x=some .local :=by walk_at "v1"):PG X (.Name x pos) (ui i):=by
 intro pins s σ H v u Q I r h;exact wpAny_assign_Name (gV I hN hi hx r (λs' I'=>⟨_,H,I',h⟩) hf)
def gNil:TGs:=λvs σ H Q=>vs=[]/\Q σ H
def GI(t:TG)(u:TGs):TGs:=λvs σ H Q=>∃v r,vs=v::r/\t v σ H λσ' H'=>u r σ' H' Q
theorem AT:PGs X [] gNil:=by
 intro pins s σ H vs us Q I r h;obtain⟨e,h⟩:=h;subst e
 cases r
 exact assignInOrder_nil ⟨σ,H,I,h⟩
theorem xN(h1:PG X e t)(h2:PGs X es u)
  (hs:(assignEach (e::es) X.env).map (·.2)=assign e X.env::(assignEach es X.env).map (·.2):=by rfl):PGs X (e::es) (GI t u):=by
 intro pins s σ H vs us Q I r h;obtain⟨v,vr,e1,h⟩:=h;subst e1
 cases r with
 | cons r rr =>
  rw[hs];refine assignInOrder_cons (Ha (h1 pins s σ H _ _ _ I r h) λ_ s1 ⟨σ1,H1,I1,q1⟩=>?_);exact h2 pins s1 σ1 H1 _ _ Q I1 rr q1
def gTup(K:Zf)(n:Nat)(t:TGs):TG:=λv σ H Q=>∃a xs,v=.ref a/\Ho K H a xs/\xs.length=n/\t xs σ H Q
theorem Ef(hc:X.calm=true)(h:PGs X es t)
  (hn:(assignEach es X.env).length=n:=by rfl) (hst:(assignEach es X.env).findIdx? (·.1)=none:=by rfl):PG X (.Tuple es k pos) (gTup X.K n t):=by
 intro pins s σ H v u Q I r hw;obtain⟨a,xs,e1,hq,hl,hw⟩:=hw;subst e1
 cases r
 obtain⟨aa,rv,ht,hz⟩:=I.tuple hq;refine assign_Tuple_tuple (I.ok.hd hc) ht (by simp[hn,<- hl,rv.length]) hst λh' hx=>?_;have I1:Inv X pins σ H { s with heap:=h' }:=I.kept (t':=s.toks) λb o e=>hx b o (Iq (HN e)) e;exact h pins _ σ H xs _ Q I1 (by simpa using rv) hw
def gSub(to ti:TE)(t:TSet):TG:=λv σ H Q=>to σ H λo H1=>ti σ H1 λi H2=>t o i v H2 λH3=>Q σ H3
theorem DK(ho:PE X o to)(hi:PE X i ti)(hs:PSet X t)
    (ha:∀v,assign (.Subscript o i pos) X.env v=(do
      let ov<-holding [v] (eval o X.env)
      let iv<-holding [v,ov] (eval i X.env)
      standAt pos
      holding [v,ov,iv] (setItem ov iv v)
      release [v,ov,iv] []):=by intro _;rfl):PG X (.Subscript o i pos) (gSub to ti t):=by
  intro pins s σ H v u Q I r h;rw[ha];refine Hw (Jb (Ha (ho pins s σ H _ I h) λov s1 ⟨x,H1,I1,r1,q1⟩=>?_));refine Hw (Jb (Ha (hi pins s1 σ H1 _ I1 q1) λiv s2 ⟨y,H2,I2,r2,q2⟩=>?_));refine Hw (J3 (Hw (Jb (Ha (hs pins s2 σ H2 x y v ov iv u _ I2 r1 r2 r q2) λ_ s3 ⟨H3,I3,q3⟩=>?_))));exact wpAny_release ⟨σ,H3,I3,q3⟩
def tAsg(te:TE)(g:TG):TS:=λD σ H=>te σ H λx H1=>g x σ H1 D.nx
theorem zz(he:PE X e te)(hg:PG X tg g)(hs:swapsWithSole [tg] e pos.line X.env=pure false:=by rfl)(hw:swappedStores [tg] e X.env=pure none:=by rfl)
  (h1:(assignEach [tg] X.env).map (·.2)=[assign tg X.env]:=by rfl):PS X (.Assign [tg] e pos) (tAsg te g):=by
 intro pins s σ H D I h;refine wpAny_Assign_stores (Ha (he pins s σ H _ I h) λv s1 ⟨x,H1,I1,r1,q1⟩=>?_) hs hw;rw[h1];exact Ha (hg pins s1 σ H1 x v _ I1 r1 q1) λ_ s2 q=>q
theorem gx(hN:X.N.Nodup)(hi:X.N[i]?=some x)(hx:Loc X.env.scope x)(he:PE X e te)(hs:swapsWith e (some (.Name x pos')) pos.line X.env=pure false:=by rfl)(hf:X.fn x=true\/X.env.scope.names.lookup x=some .local :=by walk_at "v1") :
  PS X (.Assign [.Name x pos'] e pos) (tAsg te (ui i)):=by
 intro pins s σ H D I h;refine wpAny_Assign_Name (Ha (he pins s σ H _ I h) λv s1 ⟨y,H1,I1,r1,q1⟩=>?_) hs;exact gV I1 hN hi hx r1 (λs2 I2=>⟨_,H1,I2,q1⟩) hf
end
section
def DN(c:TT)(tb:TS):TS:=λD σ H=>∃W:Nat->St->Hp->Prop,(∃m,W m σ H)/\∀m σ H,W m σ H ->
 c σ H λb H1=>if b=true then ∃N:St->Hp->Prop,(∀σ' H',N σ' H'->∃m',m'<m/\W m' σ' H')/\tb { D with nx:=N,ct:=N,bk:=D.nx } σ H1 else D.nx σ H1
theorem wK(hp:PassesOwn (model X.prog X.w) X.A X.env X.xe)(hc:PT X c tc)(hb:PSs X body tb):PS X (.While c body [] pos) (DN tc tb):=by
 intro pins s σ H D I h;obtain⟨W,⟨m0,w0⟩,aa⟩:=h;refine wpAny_While (codeAny_whileLoop (λn s'=>∃σ' H',Inv X pins σ' H' s'/\W n σ' H') ?_ m0 ⟨σ,H,I,w0⟩);rintro n s1 ⟨σ1,H1,I1,w1⟩;refine JI hp (Ha (hc pins s1 σ1 H1 _ I1 (aa n σ1 H1 w1)) λb s2 ⟨H2,I2,q2⟩=>?_)
 cases b with
 | true =>
  obtain⟨N,hN,q2⟩:=q2;rw[HU rfl];refine JI hp (Ha (hb pins s2 σ1 H2 _ I2 q2) λf s3 q3=>?_)
  cases f with
  | next =>
   obtain⟨σ3,H3,I3,n3⟩:=q3;obtain⟨m',hm,w3⟩:=hN σ3 H3 n3;exact⟨m',hm,σ3,H3,I3,w3⟩
  | cont =>
   obtain⟨σ3,H3,I3,n3⟩:=q3;obtain⟨m',hm,w3⟩:=hN σ3 H3 n3;exact⟨m',hm,σ3,H3,I3,w3⟩
  | brk=>exact q3
  | ret v=>exact q3
 | false =>
  rw[HQ HE];exact Kj ⟨σ1,H2,I2,q2⟩
end
structure It where
 go:Nat->Hp->Prop
 yld:Nat->Hp->V->Hp->Prop
 stop:Nat->Hp->Prop
def wo(X:Cx)(pins:List (Addr×Obj))(H:Hp)(b:Addr):Prop :=
 H b=none/\b≠X.env.locals/\b∉X.fs/\(b∈X.ex\/X.s₀.heap.objs.size<=b)/\(∀x c,X.env.cells.lookup x=some c->c≠b)/\∀p∈X.pn++pins,p.1≠b
theorem Inv.fpOk(I:Inv X pins σ H s)(hb:s.heap.objs.size<=b)(hn:H' b=none):wo X pins H' b:=by
 refine⟨hn,JC (HW I.lt hb),I.nofs hb,.inr (Hz I.sz hb),λx c e z=>?_,λp hp z=>?_⟩
 ·obtain⟨v,q⟩:=I.cell x c e;exact absurd (HW q.lt (by rw[z];exact hb)) (Ir _)
 ·exact absurd (HW (HN (I.pin p hp).1) (by rw[z];exact hb)) (Ir _)
structure yD(P:Program)(w:World)(K:Zf)(tg:Expr)(J:It)(fp:List Addr)(it:Addr)(tn:Nat->Heap->Prop):Prop where
 mem:it∈fp
 obj:∀i h,tn i h->∀b∈fp,∃o,h.get? b=some o/\∀v,o.data≠.cell v
 keep:∀i h h',tn i h->(∀b∈fp,∀o,h.get? b=some o->h'.get? b=some o)->tn i h'
 item:∀(X:Cx),X.prog=P->X.w=w->X.K=K->X.calm=true->∀(i:Nat) (pins:List (Addr×Obj)) (s:Shared) (σ:St) (H:Hp) (E:Value->Shared->Prop),Inv X pins σ H s->(∀b∈fp,wo X pins H b)->tn i s.heap->J.go i H ->
  wpAny (model P w) X.A (pyNext (.ref it)) (λr s1=>∃u,r=some u /\
   wpAny (model P w) X.A (letOwnedTupleGo tg (.ref it) u) (λ_ s2=>∃x H',Inv X pins σ H' s2/\a5 x u/\J.yld i H x H'/\tn (i+1) s2.heap/\∀b∈fp,H' b=none) E s1) E s
 done:∀(X:Cx),X.prog=P->X.w=w->X.K=K->X.calm=true->∀(i:Nat) (pins:List (Addr×Obj)) (s:Shared) (σ:St) (H:Hp) (E:Value->Shared->Prop),Inv X pins σ H s->(∀b∈fp,wo X pins H b)->tn i s.heap->J.stop i H ->
  wpAny (model P w) X.A (pyNext (.ref it)) (λr s1=>r=none/\Inv X pins σ H s1) E s
 self:∀(A:Around) (i:Nat) (s:Shared) (Q:Value->Shared->Prop) (E:Value->Shared->Prop),tn i s.heap->Q (.ref it) s->wpAny (model P w) A (pyIter (.ref it)) Q E s
abbrev TI:=St->Hp->(It->Hp->Prop)->Prop
def PIE(X:Cx)(pins:List (Addr×Obj))(σ:St)(tg:Expr)(R:It->Hp->Prop)(itv:Value)(s2:Shared):Prop :=
 ∃(it:Addr) (fp:List Addr) (tn:Nat->Heap->Prop) (J:It) (H':Hp),itv=.ref it/\Inv X pins σ H' s2/\yD X.prog X.w X.K tg J fp it tn/\tn 0 s2.heap/\(∀b∈fp,wo X pins H' b)/\R J H'
def PI(X:Cx)(tg iter:Expr)(wi:TI):Prop :=
 ∀(pins:List (Addr×Obj)) (s:Shared) (σ:St) (H:Hp) (R:It->Hp->Prop),Inv X pins σ H s->wi σ H R ->
  wpAny (model X.prog X.w) X.A (eval iter X.env) (λv s1=>wpAny (model X.prog X.w) X.A (pyIter v) (PIE X pins σ tg R) X.xe s1) X.xe s
theorem vt(ho:s.heap.get? it=some o)(hc:o.cls=.type n)(hd:o.data=.fields vs)
    (hn:["enumerate","zip","dict_itemiterator","dict_reverseitemiterator","odict_iterator","itertools.zip_longest","itertools.pairwise"].contains n=false) (hQ:Q () s):wpAny M A (letOwnedTupleGo tg (.ref it) u) Q E s:=by
  unfold letOwnedTupleGo
  cases tg<;>first
    | exact HI hQ
    | (cases u<;>first
        | exact HI hQ
        | (refine Hw (wpAny_load ho ?_)
           rw[hc,hd];show wpAny M A (if (["enumerate","zip","dict_itemiterator","dict_reverseitemiterator","odict_iterator","itertools.zip_longest","itertools.pairwise"].contains n&&vs[0]?==some (rawInt _))=true then _ else _) Q E s;rw[HQ (by intro h;rw[hn,Bool.false_and] at h;cases h)]
           exact HI hQ))
def Itl(K:Zf)(a:Addr):It :=
 ⟨λi H=>∃xs x,G4 K H a xs/\xs[i]?=some x,λi H x H'=>H'=H/\∀xs,G4 K H a xs->xs[i]?=some x,λi H=>∃xs,G4 K H a xs/\xs.length<=i⟩
def Itt(K:Zf)(a:Addr):It :=
 ⟨λi H=>∃xs x,Ho K H a xs/\xs[i]?=some x,λi H x H'=>H'=H/\∀xs,Ho K H a xs->xs[i]?=some x,λi H=>∃xs,Ho K H a xs/\xs.length<=i⟩
def Itr(lo:Int)(n:Nat):It:=⟨λi _=>i<n,λi H x H'=>H'=H/\x=.int (lo+i),λi _=>n<=i⟩
theorem mD{w:World}{K:Zf}(a it:Addr):yD P w K tg (Itl K a) [it] it (λi h=>h.IsListIter it a i) where
 mem:=by simp
 obj:=λi h st b hb=>by
  have e:b=it:=by simpa using hb
  subst e;obtain⟨o,e,c,d⟩:=st;exact⟨o,e,λv z=>by rw[d] at z;cases z⟩
 keep:=λi h h' st k=>st.at λo e=>k it (by simp) o e
 item:=by
  intro X hP hw hK hc i pins s σ H E I hf st hg;subst hP hw hK;obtain⟨xs,x,hq,hx⟩:=hg;obtain⟨aa,rv,p,hz⟩:=I.list hq;obtain⟨u,hu,ru⟩:=rv.get hx;obtain⟨f0,f1,f2,f3,f4,f5⟩:=hf it (by simp);refine wpAny_pyNext_list_item st p.isList (x:=u) (by simpa using hu) λh' st' sb=>?_;have I1:Inv X pins σ H { s with heap:=h' }:=I.turned (t':=s.toks) (λb o hb e=>(sb.2 b hb).trans e) f0 f1 f3 f4 f5;obtain⟨o,e,c,d⟩:=id st';exact⟨u,rfl,vt (s:={ s with heap:=h' }) e c d (by decide) ⟨x,H,I1,ru,⟨rfl,λys hy=>by rw[I.list_inj hy hq];exact hx⟩,st',λb hb=>(hf b hb).1⟩⟩
 done:=by
  intro X hP hw hK hc i pins s σ H E I hf st hg;subst hP hw hK;obtain⟨xs,hq,hx⟩:=hg;obtain⟨aa,rv,p,hz⟩:=I.list hq;obtain⟨f0,f1,f2,f3,f4,f5⟩:=hf it (by simp);have hl:=rv.length;exact wpAny_pyNext_list_end (I.ok.hd hc) st p.isList (by simp;omega) λh' eb=>⟨rfl,I.turned (t':=s.toks) (λb o hb e=>eb b o hb e) f0 f1 f3 f4 f5⟩
 self:=λ_ _ _ _ _ st h=>wpAny_pyIter_listiter st h
theorem kd{w:World}{K:Zf}(a it:Addr):yD P w K tg (Itt K a) [it] it (λi h=>h.IsTupleIter it a i) where
 mem:=by simp
 obj:=λi h st b hb=>by
  have e:b=it:=by simpa using hb
  subst e;obtain⟨o,e,c,d⟩:=st;exact⟨o,e,λv z=>by rw[d] at z;cases z⟩
 keep:=λi h h' st k=>st.at λo e=>k it (by simp) o e
 item:=by
  intro X hP hw hK hc i pins s σ H E I hf st hg;subst hP hw hK;obtain⟨xs,x,hq,hx⟩:=hg;obtain⟨aa,rv,p,hz⟩:=I.tuple hq;obtain⟨u,hu,ru⟩:=rv.get hx;obtain⟨f0,f1,f2,f3,f4,f5⟩:=hf it (by simp);refine wpAny_pyNext_tuple_item st (show s.heap.IsTuple a aa.toArray from p) (x:=u) (by simpa using hu) λh' st' sb=>?_;have I1:Inv X pins σ H { s with heap:=h' }:=I.turned (t':=s.toks) (λb o hb e=>(sb.2 b hb).trans e) f0 f1 f3 f4 f5;obtain⟨o,e,c,d⟩:=id st';exact⟨u,rfl,vt (s:={ s with heap:=h' }) e c d (by decide) ⟨x,H,I1,ru,⟨rfl,λys hy=>by rw[I.tuple_inj hy hq];exact hx⟩,st',λb hb=>(hf b hb).1⟩⟩
 done:=by
  intro X hP hw hK hc i pins s σ H E I hf st hg;subst hP hw hK;obtain⟨xs,hq,hx⟩:=hg;obtain⟨aa,rv,p,hz⟩:=I.tuple hq;obtain⟨f0,f1,f2,f3,f4,f5⟩:=hf it (by simp);have hl:=rv.length;exact wpAny_pyNext_tuple_end (I.ok.hd hc) st (show s.heap.IsTuple a aa.toArray from p) (by simp;omega) λh' eb=>⟨rfl,I.turned (t':=s.toks) (λb o hb e=>eb b o hb e) f0 f1 f3 f4 f5⟩
 self:=λ_ _ _ _ _ st h=>wpAny_pyIter_tupleiter st h
theorem rN{w:World}{K:Zf}(it:Addr)(lo:Int)(n:Nat):yD P w K tg (Itr lo n) [it] it (λi h=>IsRangeIter h it (lo+(i:Nat)*1) ((n:Int)-(i:Nat)) 1) where
 mem:=by simp
 obj:=λi h st b hb=>by
  have e:b=it:=by simpa using hb
  subst e
  exact⟨_,st,λv z=>by
   have z':Data.fields _=Data.cell v:=z
   cases z'⟩
 keep:=λi h h' st k=>k it (by simp) _ st
 item:=by
  intro X hP hw hK hc i pins s σ H E I hf st hg;subst hP hw hK;obtain⟨f0,f1,f2,f3,f4,f5⟩:=hf it (by simp);have W:=Walks.range (prog:=X.prog) (w:=X.w) (I.ok.hd hc) it lo 1 n;refine W.item i s _ _ hg st λv h' tk hv st' kk=>?_;obtain⟨t,rfl⟩:=hv;have I1:Inv X pins σ H { s with heap:=h',toks:=tk }:=I.turned (λb o hb e=>kk b o (by simpa using hb) e) f0 f1 f3 f4 f5;refine⟨_,rfl,vt (s:={ s with heap:=h',toks:=tk }) (n:="range_iterator") st' rfl rfl (by decide) ⟨.int (lo+i),H,I1,⟨t,?_⟩,⟨rfl,rfl⟩,st',λb hb=>(hf b hb).1⟩⟩;rw[Int.mul_one]
 done:=by
  intro X hP hw hK hc i pins s σ H E I hf st hg;subst hP hw hK;obtain⟨f0,f1,f2,f3,f4,f5⟩:=hf it (by simp);exact wpAny_pyNext_range_end (I.ok.hd hc) st (by have:n<=i:=hg;omega) λh' eb=>⟨rfl,I.turned (t':=s.toks) (λb o hb e=>eb b o hb e) f0 f1 f3 f4 f5⟩
 self:=λ_ _ _ _ _ st h=>wpAny_pyIter_rangeiter st h
end L2
namespace L2
open PySem PySem.Spec PyProof.Rows
section
def GT(K:Zf)(tl:TE):TI:=λσ H R=>tl σ H λx H1=>∃a,x=.ref a/\(∃xs,G4 K H1 a xs)/\R (Itl K a) H1
def iTup(K:Zf)(tl:TE):TI:=λσ H R=>tl σ H λx H1=>∃a,x=.ref a/\(∃xs,Ho K H1 a xs)/\R (Itt K a) H1
theorem nG(hl:PE X l tl):PI X tg l (GT X.K tl):=by
 intro pins s σ H R I h;refine Ha (hl pins s σ H _ I h) λv s1 ⟨x,H1,I1,r1,q1⟩=>?_;obtain⟨a,e,⟨xs,hq⟩,q⟩:=q1;subst e
 cases r1
 obtain⟨aa,rv,p,hz⟩:=I1.list hq;refine J4 p.isList ?_;refine⟨s1.heap.objs.size,[s1.heap.objs.size],_,_,H1,rfl,I1.kept (t':=s1.toks) λb o e=>Hy _ e,mD a _,⟨_,HX _ rfl,rfl,rfl⟩,λb hb=>?_,q⟩;have e:b=s1.heap.objs.size:=by simpa using hb
 subst e;exact I1.fpOk (HD _) (I1.hok.fresh (HD _))
theorem yI(hl:PE X l tl):PI X tg l (iTup X.K tl):=by
 intro pins s σ H R I h;refine Ha (hl pins s σ H _ I h) λv s1 ⟨x,H1,I1,r1,q1⟩=>?_;obtain⟨a,e,⟨xs,hq⟩,q⟩:=q1;subst e
 cases r1
 obtain⟨aa,rv,p,hz⟩:=I1.tuple hq;refine wpAny_pyIter_tuple (show s1.heap.IsTuple a aa.toArray from p) ?_;refine⟨s1.heap.objs.size,[s1.heap.objs.size],_,_,H1,rfl,I1.kept (t':=s1.toks) λb o e=>Hy _ e,kd a _,⟨_,HX _ rfl,rfl,rfl⟩,λb hb=>?_,q⟩;have e:b=s1.heap.objs.size:=by simpa using hb
 subst e;exact I1.fpOk (HD _) (I1.hok.fresh (HD _))
theorem yg{X:Cx}{H:Hp}{s:Shared}{R:It->Hp->Prop}{E:Value->Shared->Prop}{lo hi:Int}{v:Tok}(I:Inv X pins σ H s)(h1:-(2 ^ 62)<=lo)(h2:lo<2 ^ 62)(h3:-(2 ^ 62)<=hi)(h4:hi<2 ^ 62)
  (q:R (Itr lo (hi-lo).toNat) H):wpAny (model X.prog X.w) X.A (pyIter (.ref s.heap.objs.size)) (PIE X pins σ tg R) E { s with heap:=s.heap.push { cls:=.type "range",data:=.fields #[.int lo t,.int hi u,.int 1 v] },toks:=tk }:=by
 refine wpAny_pyIter_range (IsRange.new ..) (small_one h1 h2 h3 h4) ?_;have I1:Inv X pins σ H { s with heap:=s.heap.push { cls:=.type "range",data:=.fields #[.int lo t,.int hi u,.int 1 v] },toks:=tk }:=I.kept λb o e=>Hy _ e
 refine⟨(s.heap.push { cls:=.type "range",data:=.fields #[.int lo t,.int hi u,.int 1 v] }).objs.size,[(s.heap.push { cls:=.type "range",data:=.fields #[.int lo t,.int hi u,.int 1 v] }).objs.size],_,_,H,rfl,
  I1.kept (t':=tk) λb o e=>Hy _ e,rN _ lo (hi-lo).toNat,?_,λb hb=>?_,q⟩
 ·have e1:lo+((0:Nat):Int)*1=lo:=by simp
  have e2:(((hi-lo).toNat:Nat):Int)-((0:Nat):Int)=Builtin.Range.rangeSize lo hi 1:=by rw[rangeSize_one];split<;>omega
  show IsRangeIter _ _ (lo+((0:Nat):Int)*1) ((((hi-lo).toNat:Nat):Int)-((0:Nat):Int)) 1
  rw[e1,e2];exact HX _ rfl
 ·have e:b=(s.heap.push { cls:=.type "range",data:=.fields #[.int lo t,.int hi u,.int 1 v] }).objs.size:=by simpa using hb
  subst e;exact I1.fpOk (HD _) (I1.hok.fresh (HD _))
def FN(ta:TA):TI:=λσ H R=>ta σ H λvs H1=>∃j:Int,vs=[.int j]/\-(2 ^ 62)<=j/\j<2 ^ 62/\R (Itr 0 j.toNat) H1
theorem mI(hg:Gl X "range")(hm:X.mg "range"=none)(ha:PA X [a] ta)(hs:starEach [a] X.env=[(false,eval a X.env)]:=by rfl):PI X tg (.Call (.Name "range" p) [a] [] pos) (FN ta):=by
 intro pins s σ H R I h;refine Call_ (i9 I hg hm boot_range (Jg (Ha (ha pos pins s σ H _ I h) λus s1 ⟨vs,H1,I1,r1,q1⟩=>?_) hs rfl));obtain⟨j,e,q1,q2,q⟩:=q1;subst e
 cases r1 with
 | cons r rr =>
  cases rr
  obtain⟨t,rfl⟩:=r;exact call_range_1 (yg I1 (by omega) (by omega) q1 q2 (by simpa using q))
def tFor(wi:TI)(g:TG)(tb:TS):TS:=λD σ H=>wi σ H λJ H1=>∃W:Nat->Nat->St->Hp->Prop,(∃m,W 0 m σ H1)/\∀i m σ H,W i m σ H ->
 (J.stop i H/\D.nx σ H)\/(J.go i H/\∃N:St->Hp->Prop,(∀σ' H',N σ' H'->∃m',m'<m/\W (i+1) m' σ' H')/\∀x H',J.yld i H x H'->g x σ H' λσ2 H2=>tb { D with nx:=N,ct:=N,bk:=D.nx } σ2 H2)
def l6(fp:List Addr)(h:Heap):List (Addr×Obj):=fp.filterMap λb=>(h.get? b).map λo=>(b,o)
theorem d8(hb:b∈fp)(e:h.get? b=some o):(b,o)∈l6 fp h:=List.mem_filterMap.mpr ⟨b,hb,by rw[e];rfl⟩
theorem tT(hp:p∈l6 fp h):p.1∈fp/\h.get? p.1=some p.2:=by
 obtain⟨b,hb,e⟩:=List.mem_filterMap.mp hp
 cases q:h.get? b with
 | none=>rw[q] at e;cases e
 | some o =>
  rw[q] at e;have e':(b,o)=p:=HR e;subst e';exact⟨hb,q⟩
theorem Inv.pinned(I:Inv X pins σ H s)(hf:∀b∈fp,wo X pins H b)(ho:∀b∈fp,∃o,s.heap.get? b=some o/\∀v,o.data≠.cell v):Inv X (pins++l6 fp s.heap) σ H s :=
 I.pins_of λp hp=>(HZ.mp hp).elim (λz=>I.pin p (HP _ z)) λz=>by
  obtain⟨hb,e⟩:=tT z;obtain⟨f0,f1,f2,_⟩:=hf p.1 hb;obtain⟨o,e',d⟩:=ho p.1 hb;rw[e] at e';cases e';exact⟨e,f0,f1,f2,d⟩
theorem Inv.unpinned(I:Inv X (pins++pl) σ H s):Inv X pins σ H s:=I.pins_of λp hp=>I.pin p (HP _ (HV _ hp))
theorem ml(hp:PassesOwn (model X.prog X.w) X.A X.env X.xe)(hc:X.calm=true)(hi:PI X tg iter wi)(hg:PG X tg g)(hb:PSs X body tb)
  (hs:∀x,foldedSetIterable iter X.env x=pure x:=by intro _;rfl):PS X (.For tg iter body [] pos) (tFor wi g tb):=by
 intro pins s σ H D I h;refine wpAny_For (Ha (hi pins s σ H _ I h) λv s1 h1=>Ha h1 λitv s2 h2=>?_) hs;obtain⟨it,fp,tn,J,H2,e,I2,T,al,f2,W,⟨m0,w0⟩,ah⟩:=h2;subst e;have aa:∀ {H':Hp},(∀b∈fp,H' b=none)->∀b∈fp,wo X pins H' b:=λhn b hb=>⟨hn b hb,(f2 b hb).2⟩;refine codeAny_forLoop_any (λn s'=>∃i σ' H',Inv X pins σ' H' s'/\tn i s'.heap/\(∀b∈fp,H' b=none)/\W i n σ' H') ?_ m0 ⟨0,σ,H2,I2,al,λb hb=>(f2 b hb).1,w0⟩;rintro n s3 ⟨i,σ3,H3,I3,st3,fr3,w3⟩
 rcases ah i n σ3 H3 w3 with⟨ai,qn⟩ | ⟨go,N,hN,step⟩
 ·refine JI hp (Ha (T.done X rfl rfl rfl hc i pins s3 σ3 H3 X.xe I3 (aa fr3) st3 ai) λr s4 ⟨hr,I4⟩=>?_);subst hr;exact Kj ⟨σ3,H3,I4,qn⟩
 ·refine JI hp (Ha (T.item X rfl rfl rfl hc i pins s3 σ3 H3 X.xe I3 (aa fr3) st3 go) λr s4 ⟨u,hr,h4⟩=>?_);subst hr;refine JI hp (Ha h4 λ_ s5 ⟨x,H5,I5,r5,y5,st5,fr5⟩=>?_);have aj:=I5.pinned (aa fr5) (T.obj _ _ st5);refine JI hp (Ha (hg _ s5 σ3 H5 x u _ aj r5 (step x H5 y5)) λ_ s6 ⟨σ6,H6,I6,q6⟩=>?_);refine JI hp (Ha (hb _ s6 σ6 H6 _ I6 q6) λf s7 q7=>?_);have ab:∀ {σ7:St} {H7:Hp},Inv X (pins++l6 fp s5.heap) σ7 H7 s7->N σ7 H7->∃m,m<n/\∃i σ' H',Inv X pins σ' H' s7/\tn i s7.heap/\(∀b∈fp,H' b=none)/\W i m σ' H':=λ{σ7 H7} I7 n7=>by
   obtain⟨m',hm,w7⟩:=hN σ7 H7 n7;refine⟨m',hm,i+1,σ7,H7,I7.unpinned,T.keep _ _ _ st5 λb hb o e=>(I7.pin (b,o) (HP _ (HP _ (d8 hb e)))).1,λb hb=>?_,w7⟩;obtain⟨o,e,d⟩:=T.obj _ _ st5 b hb;exact(I7.pin (b,o) (HP _ (HP _ (d8 hb e)))).2.1
  cases f with
  | next=>obtain⟨σ7,H7,I7,n7⟩:=q7;exact ab I7 n7
  | cont=>obtain⟨σ7,H7,I7,n7⟩:=q7;exact ab I7 n7
  | brk=>obtain⟨σ7,H7,I7,q7⟩:=q7;exact⟨σ7,H7,I7.unpinned,q7⟩
  | ret v=>obtain⟨x7,σ7,H7,I7,r7,q7⟩:=q7;exact⟨x7,σ7,H7,I7.unpinned,r7,q7⟩
end
theorem v5{lo:Int}{n:Nat}{g:TG}{tb:TS}{D:Cp}{σ:St}{H:Hp}(Pv:Nat->St->Hp->Prop)(h0:Pv 0 σ H)
  (hs:∀i σ H,i<n->Pv i σ H->g (.int (lo+i)) σ H λσ2 H2=>tb { D with nx:=Pv (i+1),ct:=Pv (i+1),bk:=D.nx } σ2 H2) (hd:∀σ H,Pv n σ H->D.nx σ H) :
  ∃W:Nat->Nat->St->Hp->Prop,(∃m,W 0 m σ H)/\∀i m σ H,W i m σ H ->
   ((Itr lo n).stop i H/\D.nx σ H)\/((Itr lo n).go i H/\∃N:St->Hp->Prop,(∀σ' H',N σ' H'->∃m',m'<m/\W (i+1) m' σ' H')/\∀x H',(Itr lo n).yld i H x H'->g x σ H' λσ2 H2=>tb { D with nx:=N,ct:=N,bk:=D.nx } σ2 H2):=by
 refine⟨λi m σ H=>m=n-i/\i<=n/\Pv i σ H,⟨n,by simp,Jp _,h0⟩,?_⟩;rintro i m σ H ⟨rfl,hi,p⟩
 by_cases hlt:i<n
 ·refine .inr ⟨hlt,Pv (i+1),λσ' H' p'=>⟨n-(i+1),by omega,rfl,hlt,p'⟩,λx H' y=>?_⟩;obtain⟨e,y⟩:=y;subst e y;exact hs i σ _ hlt p
 ·have e:i=n:=by omega
  subst e;exact .inl ⟨HD _,hd σ H p⟩
abbrev R2:=V->V->Hp->VK->Prop
def Hr(X:Cx)(f:Value->Value->Sem Value)(r:R2):Prop :=
 ∀(pins:List (Addr×Obj)) (s:Shared) (σ:St) (H:Hp) (x y:V) (v u:Value) (Q:VK),Inv X pins σ H s->a5 x v->a5 y u->r x y H Q ->
  wpAny (model X.prog X.w) X.A (f v u) (EP X pins σ Q) X.xe s
def UnR(X:Cx)(f:Value->Sem Value)(r:V->Hp->VK->Prop):Prop :=
 ∀(pins:List (Addr×Obj)) (s:Shared) (σ:St) (H:Hp) (x:V) (v:Value) (Q:VK),Inv X pins σ H s->a5 x v->r x H Q ->
  wpAny (model X.prog X.w) X.A (f v) (EP X pins σ Q) X.xe s
def bR(X:Cx)(f:Value)(r:Zg->Hp->VK->Prop):Prop :=
 ∀(pins:List (Addr×Obj)) (s:Shared) (σ:St) (H:Hp) (xs:Zg) (us:Zc) (Q:VK),Inv X pins σ H s->bg xs us->r xs H Q ->
  wpAny (model X.prog X.w) X.A (call f us) (EP X pins σ Q) X.xe s
def tOp(r:R2)(ta tb:TE):TE:=λσ H Q=>ta σ H λx H1=>tb σ H1 λy H2=>r x y H2 Q
def tUn(r:V->Hp->VK->Prop)(ta:TE):TE:=λσ H Q=>ta σ H λx H1=>r x H1 Q
def rI(C:Int->Int->Prop)(g:Int->Int->V):R2:=λx y H Q=>∃i j,x=.int i/\y=.int j/\C i j/\Q (g i j) H
def rI0(g:Int->Int->V):R2:=λx y H Q=>∃i j,x=.int i/\y=.int j/\Q (g i j) H
def rU(g:Int->V):V->Hp->VK->Prop:=λx H Q=>∃i,x=.int i/\Q (g i) H
section
theorem binT{X:Cx}(ha:PE X a ta)(hb:PE X b tb){H:Hp}{R:V->V->Hp->Prop}(I:Inv X pins σ H s)
  (h:ta σ H λx H1=>tb σ H1 λy H2=>R x y H2) {Q:Value->Shared->Prop} {f:Value->Value->Sem Value}
  (hf:∀v u s2 x y H2,Inv X pins σ H2 s2->a5 x v->a5 y u->R x y H2->wpAny (model X.prog X.w) X.A (f v u) Q X.xe s2) :
  wpAny (model X.prog X.w) X.A (eval a X.env) (λv s₁=>wpAny (model X.prog X.w) X.A (eval b X.env) (λu s₂=>wpAny (model X.prog X.w) X.A (f v u) Q X.xe s₂) X.xe s₁) X.xe s:=by
 refine Ha (ha pins s σ H _ I h) λv s1 ⟨x,H1,I1,r1,q1⟩=>?_;refine Ha (hb pins s1 σ H1 _ I1 q1) λu s2 ⟨y,H2,I2,r2,q2⟩=>?_;exact hf v u s2 x y H2 I2 r1 r2 q2
theorem F3(ho:Hr X (binaryOp op) r)(ha:PE X a ta)(hb:PE X b tb):PE X (.BinOp a op b pos) (tOp r ta tb):=by
 intro pins s σ H Q I h;exact wpAny_BinOp (binT ha hb I h λv u s2 x y H2 I2 rx ry q=>ho pins s2 σ H2 x y v u Q I2 rx ry q)
theorem FL(ho:UnR X (unaryOp op) r)(ha:PE X a ta):PE X (.UnaryOp op a pos) (tUn r ta):=by
 intro pins s σ H Q I h;exact UnaryOp_ (Ha (ha pins s σ H _ I h) λv s1 ⟨x,H1,I1,r1,q1⟩=>ho pins s1 σ H1 x v Q I1 r1 q1)
theorem opI{X:Cx}{f:Value->Value->Sem Value}{C:Int->Int->Prop}{g:Int->Int->Int}
  (rule:∀(i j:Int) (t u:Tok) (s:Shared) (Q:Value->Shared->Prop) (E:Value->Shared->Prop),C i j->Q (.int (g i j) s.toks) { s with toks:=s.toks+1 }->wpAny (model X.prog X.w) X.A (f (.int i t) (.int j u)) Q E s) :
  Hr X f (rI C λi j=>.int (g i j)):=by
 intro pins s σ H x y v u Q I rx ry h;obtain⟨i,j,rfl,rfl,hc,q⟩:=h;obtain⟨t,rfl⟩:=rx;obtain⟨t',rfl⟩:=ry;exact rule i j t t' s _ _ hc ⟨.int (g i j),H,I.tok _,⟨_,rfl⟩,q⟩
theorem yi{X:Cx}{f:Value->Value->Sem Value}{g:Int->Int->Int}
  (rule:∀(i j:Int) (t u:Tok) (s:Shared) (Q:Value->Shared->Prop) (E:Value->Shared->Prop),Q (.int (g i j) s.toks) { s with toks:=s.toks+1 }->wpAny (model X.prog X.w) X.A (f (.int i t) (.int j u)) Q E s) :
  Hr X f (rI0 λi j=>.int (g i j)):=by
 intro pins s σ H x y v u Q I rx ry h;obtain⟨i,j,rfl,rfl,q⟩:=h;obtain⟨t,rfl⟩:=rx;obtain⟨t',rfl⟩:=ry;exact rule i j t t' s _ _ ⟨.int (g i j),H,I.tok _,⟨_,rfl⟩,q⟩
theorem opB0{X:Cx}{f:Value->Value->Sem Value}{g:Int->Int->Bool}
  (rule:∀(i j:Int) (t u:Tok) (s:Shared) (Q:Value->Shared->Prop) (E:Value->Shared->Prop),Q (.bool (g i j)) s->wpAny (model X.prog X.w) X.A (f (.int i t) (.int j u)) Q E s) :
  Hr X f (rI0 λi j=>.bl (g i j)):=by
 intro pins s σ H x y v u Q I rx ry h;obtain⟨i,j,rfl,rfl,q⟩:=h;obtain⟨t,rfl⟩:=rx;obtain⟨t',rfl⟩:=ry;exact rule i j t t' s _ _ ⟨.bl (g i j),H,I,rfl,q⟩
def CPow(i j:Int):Prop:=0<=j/\j<=1000000/\i.natAbs<2 ^ 64
def CMul(i j:Int):Prop:=(-(2 ^ 64)<i/\i<2 ^ 64)\/(-(2 ^ 64)<j/\j<2 ^ 64)
theorem CMul.ok(h:CMul i j):IntMulOk i j:=by
 rcases h with⟨h1,h2⟩ | ⟨h1,h2⟩
 ·exact .of_left (intBits_le_64 h1 h2)
 ·exact .of_right (intBits_le_64 h1 h2)
theorem E9:Hr X (binaryOp .Add) (rI0 λi j=>.int (i+j)):=yi λ_ _ _ _ _ _ _ q=>add_int q
theorem Ej:Hr X (binaryOp .Sub) (rI0 λi j=>.int (i-j)):=yi λ_ _ _ _ _ _ _ q=>sub_int q
theorem AV:Hr X (binaryOp .Mod) (rI (λ_ j=>j≠0) λi j=>.int (i.fmod j)):=opI λ_ _ _ _ _ _ _ hc q=>mod_int' hc q
theorem Ek:Hr X (binaryOp .Pow) (rI CPow λi j=>.int (i ^ j.toNat)):=opI λ_ _ _ _ _ _ _ hc q=>pow_int_small hc.1 hc.2.1 hc.2.2 q
theorem unI{X:Cx}{f:Value->Sem Value}{g:Int->Int}
  (rule:∀(i:Int) (t:Tok) (s:Shared) (Q:Value->Shared->Prop) (E:Value->Shared->Prop),Q (.int (g i) s.toks) { s with toks:=s.toks+1 }->wpAny (model X.prog X.w) X.A (f (.int i t)) Q E s) :
  UnR X f (rU λi=>.int (g i)):=by
 intro pins s σ H x v Q I rx h;obtain⟨i,rfl,q⟩:=h;obtain⟨t,rfl⟩:=rx;exact rule i t s _ _ ⟨.int (g i),H,I.tok _,⟨_,rfl⟩,q⟩
theorem Fr:UnR X (unaryOp .USub) (rU λi=>.int (-i)):=unI λ_ _ _ _ _ q=>neg_int q
end
def scal:V->V->Bool
 | .non,.non=>true | .non,.int _=>true | .int _,.non=>true | .non,.bl _=>true | .bl _,.non=>true | .non,.str _=>true | .str _,.non=>true
 | .int _,.int _=>true | .bl _,.bl _=>true | .str _,.str _=>true | .byt _,.byt _=>true
 | .int _,.str _=>true | .str _,.int _=>true | .bl _,.str _=>true | .str _,.bl _=>true
 | _,_=>false
def rEq:R2:=λx y H Q=>scal x y=true/\Q (.bl (decide (x=y))) H
def rNe:R2:=λx y H Q=>scal x y=true/\Q (.bl (!decide (x=y))) H
theorem nJ:decide (V.int i=V.int j)=(i==j):=by
 rw[Kk];simp
theorem uo:decide (V.bl i=V.bl j)=(i==j):=by
 rw[Kk];simp
theorem pF:decide (V.str i=V.str j)=(i==j):=by
 rw[Kk];simp
theorem ug:decide (V.byt i=V.byt j)=(i.toList==j.toList):=by
 rw[Kk]
 cases i
 cases j
 simp
section
theorem aS(I:Inv X pins σ H s)(q:Q (.bl k) H)(e:k=k'):EP X pins σ Q (.bool k') s:=by
 subst e;exact⟨.bl k,H,I,rfl,q⟩
theorem Az:Hr X (compareOp .Eq) rEq:=by
 intro pins s σ H x y v u Q I rx ry h;obtain⟨hs,q⟩:=h
 cases x with
 | non =>
  cases rx
  cases y with
  | non=>cases ry;exact PySem.EqNone.eq_none_none (aS I q (by simp))
  | bl j=>cases ry;exact PySem.EqNone.eq_none_bool (aS I q (by simp))
  | int j=>obtain⟨t',rfl⟩:=ry;exact PySem.EqNone.eq_none_int (aS I q (by simp))
  | str j=>obtain⟨t',rfl⟩:=ry;exact PySem.EqNone.eq_none_str (aS I q (by simp))
  | _=>exact absurd (show false=true from hs) HE
 | bl i =>
  cases rx
  cases y with
  | non=>cases ry;exact PySem.EqNone.eq_bool_none (aS I q (by simp))
  | bl j=>cases ry;exact eq_bool (aS I q uo)
  | str j=>obtain⟨t',rfl⟩:=ry;exact PySem.EqMixed.eq_bool_str (aS I q (by simp))
  | _=>exact absurd (show false=true from hs) HE
 | int i =>
  obtain⟨t,rfl⟩:=rx
  cases y with
  | non=>cases ry;exact PySem.EqNone.eq_int_none (aS I q (by simp))
  | int j=>obtain⟨t',rfl⟩:=ry;exact eq_int (aS I q nJ)
  | str j=>obtain⟨t',rfl⟩:=ry;exact PySem.EqMixed.eq_int_str (aS I q (by simp))
  | _=>exact absurd (show false=true from hs) HE
 | str i =>
  obtain⟨t,rfl⟩:=rx
  cases y with
  | non=>cases ry;exact PySem.EqNone.eq_str_none (aS I q (by simp))
  | bl j=>cases ry;exact PySem.EqMixed.eq_str_bool (aS I q (by simp))
  | int j=>obtain⟨t',rfl⟩:=ry;exact PySem.EqMixed.eq_str_int (aS I q (by simp))
  | str j=>obtain⟨t',rfl⟩:=ry;exact eq_str (aS I q pF)
  | _=>exact absurd (show false=true from hs) HE
 | byt i =>
  obtain⟨t,rfl⟩:=rx
  cases y with
  | byt j=>obtain⟨t',rfl⟩:=ry;exact PySem.W.eq_bytes (aS I q ug)
  | _=>exact absurd (show false=true from hs) HE
 | _=>cases y<;>exact absurd (show false=true from hs) HE
theorem Bb:Hr X (compareOp .NotEq) rNe:=by
 intro pins s σ H x y v u Q I rx ry h;obtain⟨hs,q⟩:=h
 cases x with
 | non =>
  cases rx
  cases y with
  | non=>cases ry;exact PySem.EqNone.ne_none_none (aS I q (by simp))
  | bl j=>cases ry;exact PySem.EqNone.ne_none_bool (aS I q (by simp))
  | int j=>obtain⟨t',rfl⟩:=ry;exact PySem.EqNone.ne_none_int (aS I q (by simp))
  | str j=>obtain⟨t',rfl⟩:=ry;exact PySem.EqNone.ne_none_str (aS I q (by simp))
  | _=>exact absurd (show false=true from hs) HE
 | bl i =>
  cases rx
  cases y with
  | non=>cases ry;exact PySem.EqNone.ne_bool_none (aS I q (by simp))
  | bl j=>cases ry;exact ne_bool (aS I q (Jf not uo))
  | str j=>obtain⟨t',rfl⟩:=ry;exact PySem.EqMixed.ne_bool_str (aS I q (by simp))
  | _=>exact absurd (show false=true from hs) HE
 | int i =>
  obtain⟨t,rfl⟩:=rx
  cases y with
  | non=>cases ry;exact PySem.EqNone.ne_int_none (aS I q (by simp))
  | int j=>obtain⟨t',rfl⟩:=ry;exact ne_int (aS I q (Jf not nJ))
  | str j=>obtain⟨t',rfl⟩:=ry;exact PySem.EqMixed.ne_int_str (aS I q (by simp))
  | _=>exact absurd (show false=true from hs) HE
 | str i =>
  obtain⟨t,rfl⟩:=rx
  cases y with
  | non=>cases ry;exact PySem.EqNone.ne_str_none (aS I q (by simp))
  | bl j=>cases ry;exact PySem.EqMixed.ne_str_bool (aS I q (by simp))
  | int j=>obtain⟨t',rfl⟩:=ry;exact PySem.EqMixed.ne_str_int (aS I q (by simp))
  | str j=>obtain⟨t',rfl⟩:=ry;exact ne_str (aS I q (Jf not pF))
  | _=>exact absurd (show false=true from hs) HE
 | byt i =>
  obtain⟨t,rfl⟩:=rx
  cases y with
  | byt j=>obtain⟨t',rfl⟩:=ry;exact PySem.W.ne_bytes (aS I q (Jf not ug))
  | _=>exact absurd (show false=true from hs) HE
 | _=>cases y<;>exact absurd (show false=true from hs) HE
theorem FJ:Hr X (compareOp .Lt) (rI0 λi j=>.bl (decide (i<j))):=opB0 λ_ _ _ _ _ _ _ q=>lt_int q
theorem FZ:Hr X (compareOp .LtE) (rI0 λi j=>.bl (decide (i<=j))):=opB0 λ_ _ _ _ _ _ _ q=>le_int q
theorem Gu:Hr X (compareOp .Gt) (rI0 λi j=>.bl (decide (j<i))):=opB0 λ_ _ _ _ _ _ _ q=>gt_int q
theorem Gb:Hr X (compareOp .GtE) (rI0 λi j=>.bl (decide (j<=i))):=opB0 λ_ _ _ _ _ _ _ q=>ge_int q
theorem yR:Hr X (compareOp .Is) (λx y H Q=>y=.non/\Q (.bl (decide (x=.non))) H):=by
 intro pins s σ H x y v u Q I rx ry h;obtain⟨rfl,q⟩:=h
 cases ry
 refine is_none_gen (aS I q ?_)
 cases x<;>first
  | (cases rx;rfl)
  | (obtain⟨t,rfl⟩:=rx;rfl)
theorem Hr.or(h:Hr X f r)(h':Hr X f r'):Hr X f (λx y H Q=>r x y H Q\/r' x y H Q):=by
 intro pins s σ H x y v u Q I rx ry q
 rcases q with q | q
 ·exact h pins s σ H x y v u Q I rx ry q
 ·exact h' pins s σ H x y v u Q I rx ry q
theorem ay(b:Expr)(h:op≠.In:=by decide)(h2:op≠.NotIn:=by decide):behindInMarks op b=false:=by
 have e1:(op==CmpOp.In)=false:=by cases op<;>first | rfl | exact absurd rfl h
 have e2:(op==CmpOp.NotIn)=false:=by cases op<;>first | rfl | exact absurd rfl h2
 cases b<;>simp[behindInMarks,e1,e2]
theorem Bd(ho:Hr X (compareOp op) r)(ha:PE X a ta)(hb:PE X b tb)(hm:behindInMarks op b=false):PE X (.Compare a [op] [b] pos) (tOp r ta tb):=by
 intro pins s σ H Q I h;exact wpAny_Compare1 (binT ha hb I h λv u s2 x y H2 I2 rx ry q=>ho pins s2 σ H2 x y v u Q I2 rx ry q) hm
def GO(t:TE):TT:=λσ H Q=>t σ H λx H'=>∃k,x=.bl k/\Q k H'
theorem BP(ho:Hr X (compareOp op) r)(ha:PE X a ta)(hb:PE X b tb)(hm:behindInMarks op b=false):PT X (.Compare a [op] [b] pos) (GO (tOp r ta tb)):=by
 intro pins s σ H Q I h
 refine wpAny_isTrue_Compare1 (Ha (ha pins s σ H _ I h) λv s1 ⟨x,H1,I1,r1,q1⟩=>Ha (hb pins s1 σ H1 _ I1 q1) λu s2 ⟨y,H2,I2,r2,q2⟩ =>
  Ha (ho pins s2 σ H2 x y v u _ I2 r1 r2 q2) λc s3 ⟨z,H3,I3,r3,k,e,q3⟩=>?_) hm
 subst e
 cases r3
 exact Jw ⟨H3,I3,q3⟩
theorem mP:(sizeLine:Nat)<2 ^ 63:=by rw[sizeLine_eq];decide
theorem eW(r:bg [x] us):∃u,us=[u]/\a5 x u:=by
 cases r with
 | cons r1 r2=>cases r2;exact⟨_,rfl,r1⟩
theorem sV(r:bg [x,y] us):∃u w',us=[u,w']/\a5 x u/\a5 y w':=by
 cases r with
 | cons r1 r2 =>
  cases r2 with
  | cons r3 r4=>cases r4;exact⟨_,_,rfl,r1,r3⟩
theorem ym:bR X (.builtin "abs") (λxs H Q=>∃i,xs=[.int i]/\Q (.int (if i<0 then -i else i)) H):=by
 intro pins s σ H xs us Q I r h;obtain⟨i,rfl,q⟩:=h;obtain⟨u,rfl,t,rfl⟩:=eW r;exact call_abs_int λu tk=>⟨.int (if i<0 then -i else i),H,I.tok _,⟨_,rfl⟩,q⟩
theorem uA(hc:X.calm=true):bR X (.builtin "max") (λxs H Q=>∃i j,xs=[.int i,.int j]/\Q (.int (if j>i then j else i)) H):=by
 intro pins s σ H xs us Q I r h;obtain⟨i,j,rfl,q⟩:=h;obtain⟨u,w',rfl,⟨t,rfl⟩,⟨t',rfl⟩⟩:=sV r;refine max_two_ints (I.ok.hd hc) λh' tk k=>⟨_,H,I.kept k,?_,q⟩
 by_cases hj:j>i
 ·rw[HU hj,HU hj];exact⟨_,rfl⟩
 ·rw[HQ hj,HQ hj];exact⟨_,rfl⟩
theorem vy:bR X (.type "int") (λxs H Q=>(∃i,xs=[.int i]/\Q (.int i) H)\/∃k,xs=[.bl k]/\Q (.int (if k then 1 else 0)) H):=by
 intro pins s σ H xs us Q I r h
 rcases h with⟨i,rfl,q⟩ | ⟨k,rfl,q⟩
 ·obtain⟨u,rfl,t,rfl⟩:=eW r;exact call_int_int ⟨.int i,H,I,⟨_,rfl⟩,q⟩
 ·obtain⟨u,rfl,r1⟩:=eW r
  cases r1
  exact call_int_bool ⟨.int (if k then 1 else 0),H,I.tok _,⟨_,rfl⟩,q⟩
end
end L2
namespace L2
open PySem PySem.Spec PyProof.Rows
structure ObjM(h:Heap)(x dx C:Addr)(mA:Str->Zd):Prop where
 obj:h.get? x=some (PySem.W.instObj C dx)
 ns:h.Ns1 dx mA
 ne:dx≠x
theorem mo{h:Heap}{mA:Str->Zd}(n:h.Ns1 dx mA):∃od,h.get? dx=some od/\∀name,PySem.W.lookIn name od=some (mA name):=by
 obtain⟨o,es,ep,ho,hd,hk,_,hm⟩:=n;refine⟨o,ho,λname=>?_⟩;have e:=hm name;unfold nsFind findBy at e;rw[<- Array.find?_toList] at e;unfold PySem.W.lookIn;rw[hd]
 dsimp only
 split
 ·rename_i y q
  rw[q] at e;exact Jf some e
 ·rename_i q
  rw[q] at e;have a:es.toList.any (·.refKey)=false:=by
   rw[List.any_eq_false];intro y hy;obtain⟨z,t,aa⟩:=hk y (Array.mem_toList_iff.mp hy);simp[DictEntry.refKey,aa]
  have a':¬ es.toList.any (·.refKey)=true:=by rw[a];exact HE
  rw[HQ a'];exact Jf some e
theorem ObjM.look(I:ObjM h x dx C mA):∃od,PySem.W.InstAt h x (PySem.W.instObj C dx) C (some od)/\∀name,PySem.W.lookIn name od=some (mA name) :=
 let ⟨od,ho,hl⟩:=mo I.ns
 ⟨od,⟨I.obj,rfl,rfl,ho⟩,hl⟩
section
end
theorem nO.some_of(r:nO (some v) o):∃u,o=some u/\a5 v u:=by
 cases o with
 | none=>exact(show False from r).elim
 | some u=>exact⟨u,rfl,r⟩
theorem uT(r:a5 v u):PySem.W.handedIn u=true:=by
 cases v with
 | non=>cases (show u=Value.none from r);rfl
 | bl b=>cases (show u=Value.bool b from r);rfl
 | int i=>obtain⟨t,e⟩:=(show ∃t,u=Value.int i t from r);cases e;rfl
 | str x=>obtain⟨t,e⟩:=(show ∃t,u=Value.str x t from r);cases e;rfl
 | byt b=>obtain⟨t,e⟩:=(show ∃t,u=Value.bytes b t from r);cases e;rfl
 | flt b=>obtain⟨t,e⟩:=(show ∃t,u=Value.float b t from r);cases e;rfl
 | ref a=>cases (show u=Value.ref a from r);rfl
 | ty n=>cases (show u=Value.type n from r);rfl
section
theorem AH(hok:Hm P w H h)(e:H a=some (.ins C dx fs)):∃mA,ObjM h a dx C mA/\(∀f,nO (fs.lookup f) (mA f))/\PySem.Within mA (fs.map (·.1))/\fs.length<=1000/\H dx=some (.own a):=by
 obtain⟨d,z,ne,ob,mA,n,r,q⟩:=(show bA P w H h a (.ins C dx fs) from hok a _ e);exact⟨mA,⟨ob,n,ne⟩,r,q,z,d⟩
end
structure Cls(K:Zf)(C:Addr):Prop where
 pg:PySem.W.plainGet K C Str.empty=true
 hd:PySem.W.hasDictIn K C=true
 po:PySem.W.plainOver K C=true
 sa:PySem.W.findIn K (.ref C) "__setattr__"=some (some (.builtin "object.__setattr__"))
theorem Cls.get{K:Zf}(c:Cls K C)(f:Str):PySem.W.plainGet K C f=true:=c.pg
section
theorem zP(hb:attributeBase e f env (eval e env)=eval e env)
  (h:wpAny (model prog w) A (eval e env) (λo s₁=>wpAny (model prog w) A (getAttr o f true) Q E s₁) E s):wpAny (model prog w) A (eval (.Attribute e f pos) env) Q E s :=
 Attribute_any_ h (by rw[arm_eval_Attribute,hb])
end
section
end
section
variable {X:Cx} {pins:List (Addr×Obj)} {σ:St} {H:Hp} {s:Shared} {A:Around} {E:Value→Shared→Prop} {Q:Value→Shared→Prop} {c:Value} {b:Bool}
inductive sP(K:Zf)(H:Hp):V->Value->Prop where
 | non:sP K H .non (.type "NoneType")
 | bl (x:Bool):sP K H (.bl x) (.type "bool")
 | int (i:Int):sP K H (.int i) (.type "int")
 | str (x:Str):sP K H (.str x) (.type "str")
 | flt (x:UInt64):sP K H (.flt x) (.type "float")
 | lst {a:Addr} {xs:Zg} (e:H a=some (.lst xs)):sP K H (.ref a) (.type "list")
 | frz {a:Addr} {o:Obj} {xs:Zg} (e:H a=some (.frz o (.lst xs))):sP K H (.ref a) (.type "list")
 | tup {a:Addr} {xs:Zg} (e:H a=some (.tup xs)):sP K H (.ref a) (.type "tuple")
 | dK {a:Addr} {kvs:List (Hn×V)} (e:H a=some (.dK kvs)):sP K H (.ref a) (.type "dict")
 | dT {a:Addr} {kvs:List (List Hn×V)} (e:H a=some (.dT kvs)):sP K H (.ref a) (.type "dict")
 | ins {a C dx:Addr} {fs:List (Str×V)} (e:H a=some (.ins C dx fs)) (cl:Cls K C) (ha:PySem.W.findIn K (.ref C) "__class__"=some (some (.builtin "object.__class__")))
   (hn:PySem.W.specialIn K (.builtin "object.__class__") "__get__"=some (some (.builtin "getset_descriptor.__get__"))) (htk:PySem.W.takesIn K (.builtin "object.__class__")=some true)
   (hm:PySem.W.mroIn K C (.type "object")=some true):sP K H (.ref a) (.ref C)
theorem cT(I:Inv X pins σ H s)(rx:a5 x u)(ty:sP X.K H x t)(e:PySem.W.kitOne X.K t c=some b)(h:∀tk,Q (.bool b) { s with toks:=tk }) :
  wpAny (model X.prog X.w) A (call (.builtin "isinstance") [u,c]) Q E s:=by
 cases ty with
 | non=>cases (show u=Value.none from rx);exact IG PySem.W.kitx_none I.kIn True.intro e (λz=>nomatch z) h
 | bl y=>cases (show u=Value.bool y from rx);exact IG PySem.W.kitx_bool I.kIn True.intro e (λz=>nomatch z) h
 | int i=>obtain⟨t,q⟩:=(show ∃t,u=Value.int i t from rx);cases q;exact IG PySem.W.kitx_int I.kIn True.intro e (λz=>nomatch z) h
 | str y=>obtain⟨t,q⟩:=(show ∃t,u=Value.str y t from rx);cases q;exact IG PySem.W.kitx_str I.kIn True.intro e (λz=>nomatch z) h
 | flt y=>obtain⟨t,q⟩:=(show ∃t,u=Value.float y t from rx);cases q;exact IG PySem.W.kitx_float I.kIn True.intro e (λz=>nomatch z) h
 | @lst a xs ea =>
  cases (show u=Value.ref a from rx)
  obtain⟨_,_,n,_,h1⟩:=(show bA X.prog X.w H s.heap a (.lst xs) from I.hok a _ ea);exact IG PySem.W.kitx_list I.kIn ⟨_,h1,rfl⟩ e (λz=>nomatch z) h
 | @frz a ob xs ea =>
  cases (show u=Value.ref a from rx)
  obtain⟨_,_,_,n,_,h1⟩:=(show bA X.prog X.w H s.heap a (.frz ob (.lst xs)) from I.hok a _ ea);exact IG PySem.W.kitx_list I.kIn ⟨_,h1,rfl⟩ e (λz=>nomatch z) h
 | @tup a xs ea =>
  cases (show u=Value.ref a from rx)
  obtain⟨_,_,_,p⟩:=(show bA X.prog X.w H s.heap a (.tup xs) from I.hok a _ ea);obtain⟨o,h1,h2,_⟩:=p;exact IG PySem.W.kitx_tuple I.kIn ⟨o,h1,h2⟩ e (λz=>nomatch z) h
 | @dK a kvs ea =>
  cases (show u=Value.ref a from rx)
  obtain⟨_,_,vs,_,p⟩:=(show bA X.prog X.w H s.heap a (.dK kvs) from I.hok a _ ea);obtain⟨o,es,ep,h1,h2,_⟩:=p;exact IG Ks I.kIn ⟨o,h1,h2.1⟩ e (λz=>nomatch z) h
 | @dT a kvs ea =>
  cases (show u=Value.ref a from rx)
  obtain⟨_,_,xs,_,o,es,ep,h1,h2,_⟩:=(show bA X.prog X.w H s.heap a (.dT kvs) from I.hok a _ ea);exact IG Ks I.kIn ⟨o,h1,h2.1⟩ e (λz=>nomatch z) h
 | @ins a C dx fs ea cl ha hn htk hm =>
  cases (show u=Value.ref a from rx)
  obtain⟨mA,O,_⟩:=AH I.hok ea;obtain⟨od,J,_⟩:=O.look;exact IG (PySem.W.kitx_own (cl.get _) cl.hd ha hn htk hm) I.kIn J e (λz=>nomatch z) h
end
end L2
namespace L2
open PySem PySem.Spec PyProof.Rows
structure cI(k:Nat)(A:Around):Prop where
 hd:A.handled=none
 dp:A.depth+3*k+5<recursionLimit
 un:A.units+16*k+200<cLine
theorem cI.mono(r:cI k A)(h:j<=k):cI j A:=⟨r.hd,by have:=r.dp;omega,by have:=r.un;omega⟩
theorem cI.deeper(r:cI (k+1) A)(env:Env):cI k (A.deeper env) :=
 ⟨r.hd,by have:=r.dp;show A.depth+1+3*k+5<_;omega,by have:=r.un;show A.units+3+16*k+200<_;omega⟩
theorem sy{A:Around}{C:Addr}{us:Zc}{kw:List (Str×Value)}:(A.under (.builtin "type.__call__" ⟨.ref C::us,kw⟩)).depth=A.depth+1:=by
 first | rfl | simp[Around.under,Code.weight,Code.isCreation,Code.isGuard,Code.isCaller,Code.frames,Code.isFrame,guardIds]
theorem rX{A:Around}{C:Addr}{us:Zc}{kw:List (Str×Value)}:(A.under (.builtin "type.__call__" ⟨.ref C::us,kw⟩)).units=A.units+1:=by
 first | rfl | simp[Around.under,Code.cUnits,Code.frames,Code.isFrame]
theorem cI.make(r:cI (k+1) A)(C:Addr)(us:Zc)(kw:List (Str×Value)):cI k (A.under (.builtin "type.__call__" ⟨.ref C::us,kw⟩)) :=
 ⟨r.hd,by have:=r.dp;rw[sy];omega,by have:=r.un;rw[rX];omega⟩
theorem cI.depth(r:cI k A):A.depth<recursionLimit:=by have:=r.dp;omega
theorem cI.units(r:cI k A):A.units+64<cLine:=by have:=r.un;omega
def tNil:TA:=λ_ H Q=>Q [] H
def vq(ta:TE)(tr:TA):TA:=λσ H Q=>ta σ H λx H1=>tr σ H1 λxs H2=>Q (x::xs) H2
section
variable {X:Cx} {e:Expr} {es:List Expr} {te:TE} {t:TA} {pos:Pos}
theorem b9:PA X [] tNil:=λ_ _ _ _ H Q I h=>Calls.spliced_nil ⟨[],H,I,.nil,h⟩
theorem aJ(ha:PE X e te)(hr:PA X es t)(hs:starEach (e::es) X.env=(false,eval e X.env)::starEach es X.env:=by rfl):PA X (e::es) (vq te t):=by
 intro pos pins s σ H Q I h;rw[hs];show wpAny _ _ (spliced ((false,eval e X.env)::backTo pos (starEach es X.env))) _ _ s;refine Calls.spliced_cons (Ha (ha pins s σ H _ I h) λu s1 ⟨x,H1,I1,r1,q1⟩=>?_);exact Ha (hr pos pins s1 σ H1 _ I1 q1) λus s2 ⟨xs,H2,I2,r2,q2⟩=>⟨x::xs,H2,I2,.cons r1 r2,q2⟩
def tTup(t:TA):TE:=λσ H Q=>t σ H λxs H1=>xs.length<=sizeLine/\∀p,H1 p=none->Q (.ref p) (G6 H1 p (.tup xs))
def tLst(t:TA):TE:=λσ H Q=>t σ H λxs H1=>xs.length<=sizeLine/\∀p,H1 p=none->Q (.ref p) (G6 H1 p (.lst xs))
theorem yH{x1}(h:PA X es t):PE X (.Tuple es x1 pos) (tTup t):=by
 intro pins s σ H Q I hq;refine wpAny_Tuple_spliced (Ha (h pos pins s σ H _ I hq) λus s1 ⟨xs,H1,I1,r,z,q⟩=>⟨by rw[<- r.length];exact z,?_⟩);have hf:H1 s1.heap.objs.size=none:=I1.hok.fresh (HD _);refine⟨.ref s1.heap.objs.size,G6 H1 s1.heap.objs.size (.tup xs),I1.laid (t':=s1.toks) (λb u e=>Hy _ e) (HD _) ?_,rfl,q _ hf⟩;exact⟨z,us,r,⟨_,HX _ rfl,rfl,_,rfl⟩⟩
theorem ud(h:PA X es t):PE X (.List es pos) (tLst t):=by
 intro pins s σ H Q I hq;refine wpAny_List_spliced (Ha (h pos pins s σ H _ I hq) λus s1 ⟨xs,H1,I1,r,z,q⟩=>⟨by rw[<- r.length];exact z,?_⟩);have hf:H1 s1.heap.objs.size=none:=I1.hok.fresh (HD _);refine⟨.ref s1.heap.objs.size,G6 H1 s1.heap.objs.size (.lst xs),I1.laid (t':=s1.toks) (λb u e=>Hy _ e) (HD _) ?_,rfl,q _ hf⟩;exact⟨z,us,0,r,HX _ rfl⟩
end
abbrev Sp:=List V->Hp->VK->XK->Prop
abbrev CXT:=List Env->Hp->Shared->XK->Value->Shared->Prop
structure BL(P:Program)(w:World)(K:Zf)(mg:Str->Zd)(base:Heap)(A:Around)(outer:List Env)(s:Shared)(H:Hp):Prop where
 frames:A.frames=some outer
 mod:Mod K mg base
 bs:∀b o,base.get? b=some o->s.heap.get? b=some o/\H b=none
 bsz:base.objs.size<=s.heap.objs.size
 funs:s.heap.FunFrames base outer
 frf:∀b∈frs outer,H b=none
 hok:Hm P w H s.heap
 bare:AllBare s.gens
def CE(outer:List Env)(P:Program)(w:World)(H:Hp)(s:Shared)(Q:VK)(u:Value)(s':Shared):Prop :=
 ∃v H',s'.os=s.os/\AllBare s'.gens/\Un (frs outer) [] H H' s.heap s'.heap/\Hm P w H' s'.heap/\a5 v u/\Q v H'
def CR(CX:CXT)(outer:List Env)(P:Program)(w:World)(H:Hp)(s:Shared)(Q:VK)(E:XK)(r:Result)(s':Shared):Prop :=
 match r with
 | .ok (.ret u)=>CE outer P w H s Q u s'
 | .ok _=>False
 | .error e=>CX outer H s E e s'
structure f7(P:Program)(w:World)(K:Zf)(mg:Str->Zd)(base:Heap)(CX:CXT)(k:Nat)(f:Addr)(fd:FuncData)(ps:Zb)(sp:Sp):Prop where
 len:∀vs H Q E,sp vs H Q E->vs.length=ps.length
 run:∀(A:Around) (outer:List Env) (s:Shared) (H:Hp) (args:Args) (us:Zc) (vs:Zg) (Q:VK) (E:XK),cI k A->BL P w K mg base A outer s H->BindsTo s fd args (ps.zip us)->bg vs us->sp vs H Q E ->
  codeAny (model P w) A (.call (.ref f) args) (CR CX outer P w H s Q E) s
theorem f7.mono{w:World}{K:Zf}{mg:Str->Zd}(F:f7 P w K mg base CX j f fd ps sp)(h:j<=k) :
  f7 P w K mg base CX k f fd ps sp:=⟨F.len,λA outer s H args us vs Q E hr=>F.run A outer s H args us vs Q E (hr.mono h)⟩
theorem f7.imp{w:World}{K:Zf}{mg:Str->Zd}(F:f7 P w K mg base CX k f fd ps sp)
  (h:∀vs H Q E,sp' vs H Q E->sp vs H Q E):f7 P w K mg base CX k f fd ps sp' :=
 ⟨λvs H Q E q=>F.len vs H Q E (h _ _ _ _ q),λA outer s H args us vs Q E hr he hb hv hs=>F.run A outer s H args us vs Q E hr he hb hv (h _ _ _ _ hs)⟩
theorem BL.make{P:Program}{w:World}{K:Zf}{mg:Str->Zd}{base:Heap}{A:Around}{outer:List Env}{s:Shared}{H:Hp}(e:BL P w K mg base A outer s H)(C:Addr)(us:Zc)(kw:List (Str×Value)) :
  BL P w K mg base (A.under (.builtin "type.__call__" ⟨.ref C::us,kw⟩)) outer s H:=⟨by first | exact e.frames | (simpa [Around.under,Code.envs,Code.isFrame,pushEnvs] using e.frames),e.mod,e.bs,e.bsz,e.funs,e.frf,e.hok,e.bare⟩
section
theorem Inv.env0(I:Inv X pins σ H s):BL X.prog X.w X.K X.mg X.base X.A X.stack s H :=
 ⟨I.ok.frames,I.ok.mod,I.bs,Hz I.ok.bsz I.sz,I.stack,I.stkFree,I.hok,I.bare⟩
theorem Inv.after(I:Inv X pins σ H s)(h:CE X.stack X.prog X.w H s Q u s'):EP X pins σ Q u s':=by
 obtain⟨v,H',os,aa,un,hok,r,q⟩:=h;obtain⟨hh,g,d,t,ab⟩:=s';obtain rfl:ab=s.os:=os;exact⟨v,H',I.call (h':=hh) (g':=g) (d':=d) (t':=t) (ch:=[]) un hok aa (λb z=>absurd z (by simp)),r,q⟩
end
def zY(sp:Sp)(dvs:Zg)(E:XK)(t:TA):TE:=λσ H Q=>t σ H λvs H1=>sp (vs++dvs) H1 Q E
def eU(K:Zf)(fd:FuncData)(ps:Zb)(ds:Zc):Prop :=
 ∀(s:Shared) (us:Zc),K.In s.heap->(us++ds).length=ps.length->BindsTo s fd ⟨us,[]⟩ (ps.zip (us++ds))
theorem eU.all{K:Zf}{ps:Zb}(h:∀us:Zc,us.length=ps.length->bindArgs fd ⟨us,[]⟩=pure (ps.zip us)):eU K fd ps []:=λs us _ hl=>by
 rw[IE] at hl ⊢;exact .of_eq (h us hl)
def rl(CX:CXT)(X:Cx)(E:XK):Prop:=∀(pins:List (Addr×Obj)) (σ:St) (H:Hp) (s:Shared) (e:Value) (s':Shared),Inv X pins σ H s->CX X.stack H s E e s'->X.xe e s'
section
theorem DU(F:f7 X.prog X.w X.K X.mg X.base CX k f fd ps sp)(hr:cI k X.A)(hb:eU X.K fd ps ds)(hd:bg dvs ds)(hx:rl CX X E)
  (I:Inv X pins σ H s) (r:bg vs us) (h:sp (vs++dvs) H Q E):wpAny (model X.prog X.w) X.A (call (.ref f) us) (EP X pins σ Q) X.xe s:=by
 have r2:bg (vs++dvs) (us++ds):=r.append hd
 have hl:(us++ds).length=ps.length:=by rw[<- r2.length];exact F.len _ _ _ _ h
 refine wpAny_call (KP (F.run X.A X.stack s H ⟨us,[]⟩ (us++ds) (vs++dvs) Q E hr I.env0 (hb s us I.kIn hl) r2 h) λr s' hq=>?_)
 cases r with
 | error e=>exact hx pins σ H s e s' I hq
 | ok fl =>
  cases fl with
  | ret u=>exact I.after hq
  | next=>exact False.elim hq
  | brk=>exact False.elim hq
  | cont=>exact False.elim hq
theorem f6(F:f7 X.prog X.w X.K X.mg X.base CX k f fd ps sp)(hr:cI k X.A)(hg:Gl X x)(hm:X.mg x=some (.ref f))(hk:PySem.W.keepIn X.K (.ref f)=true)(hb:eU X.K fd ps ds)(hd:bg dvs ds)(hx:rl CX X E)
  (ha:PA X (e::es) t) (hdb:(x==("__debug__":Str))=false:=by decide) (he:starEach (e::es) X.env=(false,eval e X.env)::starEach es X.env:=by rfl) (hpl:(backTo pos (starEach es X.env)).any (·.1)=false:=by rfl) :
  PE X (.Call (.Name x p) (e::es) [] pos) (zY sp dvs E t):=by
 intro pins s σ H Q I h;refine Kl (io I hg hm ?_ hdb);refine PySem.W.callWith_K (h₀:=X.base) I.ok.mod.kin hk (Ha (ha pos pins s σ H _ I h) λus s1 ⟨vs,H1,I1,r,q⟩=>⟨I1.kIn,?_⟩) he hpl;exact DU F hr hb hd hx I1 r q
end
section
end
structure ax(N P:Zb)(sc:Scope):Prop where
 kind:sc.kind=.function
 co:sc.isCoroutine=false
 gen:sc.isGenerator=false
 nd:N.Nodup
 pre:N.take P.length=P
 par:∀x∈P,sc.names.lookup x=some .local\/sc.names.lookup x=some .cell
 nofree:∀y∈sc.names,y.2≠.free
theorem mB{kindOf:Str->Option NameKind}:∀ {binds:List (Str×Value)} {m:Str->Zd},(∀v,(x,v)∉binds)->bindL kindOf binds m x=m x
 | [],_,_=>rfl
 | (n,v)::r,m,h=>by
  unfold bindL;rw[mB λw hw=>h w (Hx _ hw)]
  split
  ·have:x≠n:=by rintro rfl;exact h v HB
   simp[this]
  ·rfl
theorem m7{kindOf:Str->Option NameKind}:∀ {binds:List (Str×Value)} {m:Str->Zd},(∀v,(x,v)∉binds)->bindC kindOf binds m x=m x
 | [],_,_=>rfl
 | (n,v)::r,m,h=>by
  unfold bindC;rw[m7 λw hw=>h w (Hx _ hw)]
  split
  ·rfl
  ·have:x≠n:=by rintro rfl;exact h v HB
   simp[this]
theorem mC{kindOf:Str->Option NameKind}:∀ {P:Zb} {vs:Zc} {i:Nat} {m:Str->Zd},P.Nodup->P[i]?=some x->vs[i]?=some v->kindOf x=some .local ->
  bindL kindOf (P.zip vs) m x=some v
 | [],_,_,_,_,h,_,_=>by simp at h
 | _::_,[],_,_,_,_,h,_=>by simp at h
 | p::P,w::vs,0,m,nd,h1,h2,hk=>by
  simp at h1 h2;subst h1;subst h2;show bindL kindOf ((p,w)::P.zip vs) m p=_;unfold bindL;rw[mB λv hv=>(IZ.mp nd).1 (IN hv).1,HU hk];simp
 | p::P,w::vs,i+1,m,nd,h1,h2,hk=>by
  show bindL kindOf ((p,w)::P.zip vs) m x=_
  unfold bindL;exact mC (i:=i) (IZ.mp nd).2 (by simpa using h1) (by simpa using h2) hk
theorem lX{kindOf:Str->Option NameKind}:∀ {P:Zb} {vs:Zc} {i:Nat} {m:Str->Zd},P.Nodup->P[i]?=some x->vs[i]?=some v->kindOf x≠some .local ->
  bindC kindOf (P.zip vs) m x=some v
 | [],_,_,_,_,h,_,_=>by simp at h
 | _::_,[],_,_,_,_,h,_=>by simp at h
 | p::P,w::vs,0,m,nd,h1,h2,hk=>by
  simp at h1 h2;subst h1;subst h2;show bindC kindOf ((p,w)::P.zip vs) m p=_;unfold bindC;rw[m7 λv hv=>(IZ.mp nd).1 (IN hv).1,HQ hk];simp
 | p::P,w::vs,i+1,m,nd,h1,h2,hk=>by
  show bindC kindOf ((p,w)::P.zip vs) m x=_
  unfold bindC;exact lX (i:=i) (IZ.mp nd).2 (by simpa using h1) (by simpa using h2) hk
def start(N:Zb)(vs:Zg):St:=vs.map some++List.replicate (N.length-vs.length) none
def ni(CX:CXT)(P:Program)(w:World)(K:Zf)(mg:Str->Zd)(base:Heap)(N:Zb)(qual:Str)(scope:Scope)(f:Addr)(cd:Value)(A:Around)(outer:List Env)(s:Shared)(H:Hp)(E:XK):Cx where
 prog:=P
 w:=w
 K:=K
 mg:=mg
 base:=base
 A:=A.deeper (envOfC qual scope s.heap.objs.size f cd)
 N:=N
 s₀:=s
 H₀:=H
 env:=envOfC qual scope s.heap.objs.size f cd
 outer:=outer
 stack:=envOfC qual scope s.heap.objs.size f cd::outer
 ex:=[]
 calm:=true
 fn:=λ_=>true
 pn:=[]
 xe:=λe s'=>wpAny (model P w) (A.deeper (envOfC qual scope s.heap.objs.size f cd)) (leaving (envOfC qual scope s.heap.objs.size f cd) e) (λ_ s''=>CX outer H s E e s'') (λe' s''=>CX outer H s E e' s'') s'
theorem lJ{sc:Scope}(h:sc.names.lookup x=some .cell):∃c,(cellsFrom n sc.names []).lookup x=some c:=by
 have q:=PySem.W.cellsFrom_some sc.names n [] (.inl h)
 exact Option.isSome_iff_exists.mp q
theorem tI{w:World}{K:Zf}{mg:Str->Zd}{ps:Zb}{scope:Scope}{A:Around}{s:Shared}{H:Hp}{E:XK}{vs:Zg}
  (S:ax N ps scope) (hd:A.handled=none) (e0:BL P w K mg base A outer s H) (hl:vs.length=ps.length) (r:bg vs us)
  (x:InCallC s s.heap.objs.size (bindL (envOfC qual scope s.heap.objs.size f cd).kindOf (ps.zip us) λ_=>none) (cellsFrom (s.heap.objs.size+1) scope.names []) (bindC (envOfC qual scope s.heap.objs.size f cd).kindOf (ps.zip us) λ_=>none) s1) :
  Inv (ni CX P w K mg base N qual scope f cd A outer s H E) [] (start N vs) H s1:=by
 have ah:ps.length<=N.length:=by have:=Jf List.length S.pre;rw[IK] at this;omega
 obtain⟨h1,tk,rfl,hk⟩:=x.done;have aa:∀b:Addr,b∉(ni CX P w K mg base N qual scope f cd A outer s H E).ex:=λb z=>absurd (show b∈([]:List Addr) from z) (by simp)
 refine⟨⟨e0.mod,S.kind,rfl,rfl,HD _,λy z c h1 h2=>?_,λy hy=>?_,λy c _ h=>?_,λ_=>hd,Around.frames_deeper e0.frames,.inr ⟨rfl,rfl⟩,λb z=>absurd z (aa b),e0.bs,e0.bsz,λb _ _=>aa b,λb z=>absurd z (aa b),e0.funs,e0.frf⟩,
  rfl,e0.bare,Un.kept hk,⟨_,x.toInCall.ns,λi y v h1 h2 h3=>?_⟩,λy c h=>⟨_,x.cell y c h⟩,e0.hok.fresh (HD _),λy c h=>?_,λp hp=>absurd (show p∈([]:List (Addr×Obj)) from hp) (by simp),e0.hok.kept hk,?_⟩
 ·exact name_of_addr x.apart (JL h1) (JL h2)
 ·have hy:scope.names.lookup y=some .cell\/scope.names.lookup y=some .free:=hy
  rcases hy with hy | hy
  ·exact lJ hy
  ·exact absurd rfl (S.nofree _ (JL hy))
 ·exact JK (x.above y c (JL h))
 ·have hi:i<vs.length:=by
   unfold start at h2
   by_cases hi:i<vs.length
   ·exact hi
   ·rw[Ib (by simpa using hi)] at h2;rw[IH] at h2
    split at h2<;>cases h2
  have ha:vs[i]?=some v:=by
   unfold start at h2;rw[Ij (by simpa using hi),HM] at h2
   cases e:vs[i]? with
   | none=>rw[e] at h2;cases h2
   | some a=>rw[e] at h2;cases h2;rfl
  obtain⟨u,hu,rv⟩:=r.get ha;have hp:ps[i]?=some y:=by
   rw[<- S.pre,List.getElem?_take_of_lt (by omega)];exact h1
  have ab:ps.Nodup:=by rw[<- S.pre];exact S.nd.sublist (List.take_sublist _ _)
  refine⟨u,rv,?_⟩
  rcases S.par y (HY hp) with k | k
  ·exact .inl ⟨k,mC ab hp hu k⟩
  ·obtain⟨c,e⟩:=lJ (n:=s.heap.objs.size+1) k;refine .inr ⟨.inl k,c,e,?_⟩;have q:=x.cell y c e;rw[lX ab hp hu (by show scope.names.lookup y≠_;rw[k];decide)] at q;exact q
 ·exact e0.hok.fresh (JK (x.above y c (JL h)))
 ·unfold start;show _=N.length;rw[HC,Hv,Ic];omega
theorem Dx{w:World}{K:Zf}{mg:Str->Zd}{kV:Value}
 {ps:Zb} (lk:K.lookup f=some ⟨oc,od,.func (PySem.W.fnOf name qual params body scope dV kV doc pm an cdv ct),osl⟩) (hcd:PySem.W.codeIn K cdv qual=true) (S:ax N ps scope)
    (len:∀vs H Q E,sp vs H Q E->vs.length=ps.length)
    (hbody:∀(A:Around) (outer:List Env) (s:Shared) (H:Hp) (vs:Zg) (Q:VK) (E:XK),cI k (A.deeper (envOfC qual scope s.heap.objs.size f cdv))->sp vs H Q E ->
      ∃t,PSs (ni CX P w K mg base N qual scope f cdv A outer s H E) body t/\t { nx:=λ_ H'=>Q .non H',rt:=Q } (start N vs) H) :
    f7 P w K mg base CX (k+1) f (PySem.W.fnOf name qual params body scope dV kV doc pm an cdv ct) ps sp:=by
  refine⟨len,λA outer s H args us vs Q E hr e0 hb r hsp=>?_⟩;have hl:=len _ _ _ _ hsp;have KX:K.In s.heap:=e0.mod.kin.keeps λb o e=>(e0.bs b o e).1;have ah:s.heap.NoLimit:=e0.mod.nolimit.keeps λb o e=>(e0.bs b o e).1;have aa:∀y∈ps.zip us,scope.names.lookup y.1=some .local\/(scope.names.lookup y.1=some .cell/\((cellsFrom (s.heap.objs.size+1) scope.names []).lookup y.1).isSome=true):=λ⟨n,v⟩ hy=>by
    rcases S.par n (IN hy).1 with q | q
    · exact .inl q
    · exact .inr ⟨q,PySem.W.cellsFrom_some _ _ _ (.inl q)⟩
  refine codeAny_call_function hr.depth (KX _ _ lk) rfl S.co S.gen rfl (PySem.W.codeRec_of KX hcd) (hb _ _ _ _ ?_);refine wpAny_newFunctionEnv_cells S.kind aa λenv he s1 x=>?_;subst he;refine⟨ah.keeps x.toInCall.keep,codeAny_func ?_⟩;obtain⟨t,ht,hq⟩:=hbody A outer s H vs Q E (hr.deeper _) hsp;have I:Inv (ni CX P w K mg base N qual scope f cdv A outer s H E) [] (start N vs) H s1:=tI S hr.hd e0 hl r x;refine IU (ht [] s1 (start N vs) H _ I hq) (λfl s' hs=>?_) λe s' hs=>hs;have ab:∀ {σ':St} {H':Hp} {v:V} {u:Value},Inv (ni CX P w K mg base N qual scope f cdv A outer s H E) [] σ' H' s'->a5 v u->Q v H'->CE outer P w H s Q u s' :=
    λ{σ' H' v u} J rv q=>⟨v,H',J.os,J.bare,J.base,J.hok,rv,q⟩
  cases fl with
  | ret u =>
    obtain⟨v,σ',H',J,rv,q⟩:=hs;exact ab J rv q
  | next =>
    obtain⟨σ',H',J,q⟩:=hs;exact ab (v:=V.non) (u:=Value.none) J rfl q
  | brk =>
    obtain⟨_,_,_,q⟩:=hs;exact False.elim q
  | cont =>
    obtain⟨_,_,_,q⟩:=hs;exact False.elim q
end L2
namespace L2
open PySem PySem.Spec PyProof.Rows
section
variable {X:Cx} {x:Str} {p pos:Pos} {e:Expr} {es:List Expr} {t:TA} {id T:String} {r:Zg→Hp→VK→Prop}
def tCB(r:Zg->Hp->VK->Prop)(t:TA):TE:=λσ H Q=>t σ H λvs H1=>r vs H1 Q
theorem dZ(hc:bR X (.builtin id) r)(hg:Gl X x)(hm:X.mg x=none)(hv:bootBuiltins x=some (.builtin id))(ha:PA X (e::es) t)(hn:x≠"__name__":=by decide)(hdb:(x==("__debug__":Str))=false:=by decide)
  (he:starEach (e::es) X.env=(false,eval e X.env)::starEach es X.env:=by rfl) (hpl:(backTo pos (starEach es X.env)).any (·.1)=false:=by rfl):PE X (.Call (.Name x p) (e::es) [] pos) (tCB r t):=by
 intro pins s σ H Q I h;refine Kl (i9 I hg hm hv ?_ hn hdb);exact PyProof.Rows.callWith_builtin1 (Ha (ha pos pins s σ H _ I h) λus s1 ⟨vs,H1,I1,r1,q1⟩=>hc pins s1 σ H1 vs us Q I1 r1 q1) he hpl
theorem jr(hc:bR X (.type T) r)(hg:Gl X x)(hm:X.mg x=none)(hv:bootBuiltins x=some (.type T))(ha:PA X (e::es) t)(hn:x≠"__name__":=by decide)(hdb:(x==("__debug__":Str))=false:=by decide)
  (he:starEach (e::es) X.env=(false,eval e X.env)::starEach es X.env:=by rfl) (hpl:(backTo pos (starEach es X.env)).any (·.1)=false:=by rfl):PE X (.Call (.Name x p) (e::es) [] pos) (tCB r t):=by
 intro pins s σ H Q I h;refine Kl (i9 I hg hm hv ?_ hn hdb);exact Jg (Ha (ha pos pins s σ H _ I h) λus s1 ⟨vs,H1,I1,r1,q1⟩=>hc pins s1 σ H1 vs us Q I1 r1 q1) he hpl
end
end L2
namespace HT
open PySem PyProof.Rows
section
open PySem.SeqAt
open PySem.AutoSeq1 (wpAny_loadPart')
open PySem.MeetsSeq PySem.MeetsSeq2 PySem.MeetsSeq3
end
section
theorem cat_tup(ht:IsTup s.heap t vs.toArray)(hb:IsTup s.heap b ws.toArray)(hv:vs≠[])
  (h1:ws=[]->Q (.ref t) s) (h2:ws≠[]->Q (.ref s.heap.objs.size) { s with heap:=s.heap.push { cls:=.type "tuple",data:=.seq (vs++ws).toArray } })
  (hsz:vs.length+ws.length<=sizeLine):wpAny (model prog w) A (binaryOp .Add (.ref t) (.ref b)) Q E s:=by
 obtain⟨⟨cls,dd,data,sl⟩,ho,hc,n,hd⟩:=id ht;obtain⟨⟨an,aj,al,ah⟩,aa,ai,n2,ab⟩:=id hb;simp only at hc hd ai ab;subst hc hd ai ab;have e:vs.toArray++ws.toArray=(vs++ws).toArray:=by simp
 by_cases hw:ws=[]
 ·exact concat_meets ⟨_,ho,rfl⟩ ⟨_,aa,rfl⟩ noFill_tuple_add seq_tuple_add PySem.F.slot_tuple_add PySem.F.entry_tuple_add (PySem.F.args_tuple_add_2 _ _)
   (tuple_addW1 t b vs.toArray ws.toArray n n2 dd aj sl ah (by simpa using hv) (by simp[hw])) ⟨ho,aa,h1 hw⟩
 ·refine concat_meets ⟨_,ho,rfl⟩ ⟨_,aa,rfl⟩ noFill_tuple_add seq_tuple_add PySem.F.slot_tuple_add PySem.F.entry_tuple_add (PySem.F.args_tuple_add_2 _ _)
   (tuple_addW2 t b vs.toArray ws.toArray n n2 dd aj sl ah (by simpa using hv) (by simpa using hw) (by rw[Ia,Ia];exact hsz)) ⟨ho,aa,?_⟩
  rw[e];exact h2 hw
def sIx(n d:Nat):Option Int->Nat
 | none=>d
 | some v=>if v<0 then (v+(n:Int)).toNat else min v.toNat n
theorem sIx_none(n d:Nat):sIx n d none=d:=rfl
theorem sIx_nat(n d k:Nat):sIx n d (some (k:Int))=min k n:=by
 show (if (k:Int)<0 then ((k:Int)+(n:Int)).toNat else min (k:Int).toNat n)=min k n
 rw[HQ (by omega),Int.toNat_natCast]
theorem yu(n d:Nat)(hd:d<=n)(o:Option Int):sIx n d o<=n:=by
 cases o with
 | none=>exact hd
 | some v =>
  show (if v<0 then (v+(n:Int)).toNat else min v.toNat n)<=n
  by_cases hv:v<0
  ·rw[HU hv];omega
  ·rw[HQ hv];exact Nat.min_le_right _ _
theorem tP(v:Int)(n d:Nat):(if v<0 then max (v+(n:Int)) 0 else min v (n:Int))=((sIx n d (some v):Nat):Int):=by
 show (if v<0 then max (v+(n:Int)) 0 else min v (n:Int))=(((if v<0 then (v+(n:Int)).toNat else min v.toNat n):Nat):Int)
 by_cases hv:v<0
 ·simp only[if_pos hv];omega
 ·simp only[if_neg hv];omega
theorem rP(lo hi:Option Int)(n:Nat):Builtin.Slice.sliceAdjust lo hi 1 (n:Int)=(((sIx n 0 lo:Nat):Int),((sIx n n hi:Nat):Int)):=by
 have h1:¬ ((1:Int)<0):=by omega
 unfold Builtin.Slice.sliceAdjust;simp only[h1,if_false];refine Prod.ext ?_ ?_
 ·cases lo with
  | none=>rfl
  | some v=>exact tP v n 0
 ·cases hi with
  | none=>rfl
  | some v=>exact tP v n n
theorem sJ(i j:Nat):Builtin.Slice.slicePlaces (i:Int) (j:Int) 1=j-i:=by
 unfold Builtin.Slice.slicePlaces;have h1:(1:Int)>0:=by omega
 simp only[h1,if_true,Int.ediv_one]
 split<;>omega
theorem j6(p:IsPart v o)(h:Q o s):wpAny (model prog w) A (Builtin.Slice.slicePartIndex v) Q E s:=by
 cases p with
 | none=>exact slicePart_none h
 | int i t=>exact slicePart_int h
theorem dA{w:World}{E:Value->Shared->Prop}{s:Shared}{lo hi:Option Int}{Q:Int×Int×Nat->Shared->Prop}(hs:s.heap.IsSliceOf sl vl vu .none)(pl:IsPart vl lo)(pu:IsPart vu hi)
  (h:Q (((sIx n 0 lo:Nat):Int),1,sIx n n hi-sIx n 0 lo) s):wpAny (model prog w) A (Builtin.Slice.sliceApplied (.ref sl) (pure (n:Int))) Q E s:=by
 obtain⟨os,aa,ah,ab⟩:=id hs;unfold Builtin.Slice.sliceApplied Builtin.Slice.sliceFields;refine Hw (Hw (IB aa ab (x:=vl) rfl (Hw (IB aa ab (x:=vu) rfl (Hw (IB aa ab (x:=.none) rfl (HI ?_)))))));refine Hw (slicePart_none ?_);show wpAny _ _ (if ((1:Int)==0)=true then _ else _) _ _ s;rw[HQ (by decide)];refine Hw (j6 pl (Hw (j6 pu (Hw (HI ?_)))));show wpAny _ _ (match Builtin.Slice.sliceAdjust lo hi 1 (n:Int) with | (lo,hi)=>pure (lo,(1:Int),Builtin.Slice.slicePlaces lo hi 1)) _ _ s;rw[rP lo hi n];show wpAny _ _ (pure (((sIx n 0 lo:Nat):Int),(1:Int),Builtin.Slice.slicePlaces ((sIx n 0 lo:Nat):Int) ((sIx n n hi:Nat):Int) 1)) _ _ s;rw[sJ];exact HI h
theorem xm(xs:Array Value)(i k:Nat):((List.range k).filterMap λ(m:Nat)=>xs[((i:Int)+(m:Int)*1).toNat]?).toArray=((xs.toList.drop i).take k).toArray:=by
 have e:(λ(m:Nat)=>xs[((i:Int)+(m:Int)*1).toNat]?)=λm=>xs[i+m]?:=by
  funext m
  have:((i:Int)+(m:Int)*1).toNat=i+m:=by omega
  rw[this]
 rw[e];have:=pick_run xs i k;rw[List.filterMap_map] at this;have e2:((λx=>xs[x]?) ∘ λx=>i+x)=λm=>xs[i+m]?:=rfl;rw[e2] at this;rw[this]
theorem getItem_tuple_cut{w:World}{E:Value->Shared->Prop}{s:Shared}{items:Array Value}{lo hi:Option Int}{Q:Value->Shared->Prop}(ht:IsTup s.heap t items)(hs:s.heap.IsSliceOf sl vl vu .none)(pl:IsPart vl lo)(pu:IsPart vu hi)
  (hw:¬ (sIx items.size 0 lo=0/\sIx items.size items.size hi=items.size))
  (h:Q (.ref s.heap.objs.size) { s with heap:=s.heap.push { cls:=.type "tuple",data:=.seq ((items.toList.drop (sIx items.size 0 lo)).take (sIx items.size items.size hi-sIx items.size 0 lo)).toArray } })
  (hsz:items.size<=sizeLine):wpAny (model prog w) A (getItem (.ref t) (.ref sl)) Q E s:=by
 have aa:sizeOk (.seq ((items.toList.drop (sIx items.size 0 lo)).take (sIx items.size items.size hi-sIx items.size 0 lo)).toArray):=by
  show ((items.toList.drop (sIx items.size 0 lo)).take (sIx items.size items.size hi-sIx items.size 0 lo)).toArray.size<=sizeLine
  rw[Ia,IK,JR,JM];omega
 have hj:sIx items.size items.size hi<=items.size:=yu _ _ (HD _) hi
 obtain⟨os,aj,ai,al⟩:=id hs;have ab:s.TypeIs (.ref sl) "slice":=⟨os,aj,ai⟩;unfold getItem
 try with_reducible refine Jb ?_
 first | refine Hw (HI ?_) | skip
 refine Hw (wpAny_sequenceKey ht.typeIs (by decide) ?_)
 refine Hw (Jh (name:=Str.ofString "__getitem__") ht.typeIs IR
  (JA IR ht.typeIs entry_tuple_getitem ?_ (args_tuple_getitem _ _)))
 show wpAny _ _ (Builtin.Tuple.tupleItemsOf (.ref t) >>= _) _ _ s
 refine Hw (tupleItemsOf_ ht ?_);refine Hw (wpAny_typeOf ab ?_);rw[HU (by decide)];refine Hw (dA hs pl pu ?_);have ah:¬ ((((sIx items.size 0 lo:Nat):Int)==0&&(1:Int)==1&&(sIx items.size items.size hi-sIx items.size 0 lo)==items.size)=true):=by
  intro q;rw[Bool.and_eq_true,Bool.and_eq_true] at q;have q1:((sIx items.size 0 lo:Nat):Int)=0:=eq_of_beq q.1.1;have q2:sIx items.size items.size hi-sIx items.size 0 lo=items.size:=eq_of_beq q.2;exact hw ⟨by omega,by omega⟩
 show wpAny _ _ (if (((sIx items.size 0 lo:Nat):Int)==0&&(1:Int)==1&&(sIx items.size items.size hi-sIx items.size 0 lo)==items.size)=true then _ else _) _ _ s
 rw[HQ ah,xm]
 first
  | exact Hw (m:=Builtin.Tuple.tupleExact _) (Je (HI ⟨_,rfl,HI h⟩) aa)
  | exact Hw (m:=Builtin.Tuple.tupleExact _) (Je (Hw (HI (HI ⟨_,rfl,HI h⟩))) aa)
  | exact Hw (Hw (m:=Builtin.Tuple.tupleExact _) (Je (HI (HI ⟨_,rfl,HI h⟩)) aa))
  | exact Hw (Hw (m:=Builtin.Tuple.tupleExact _) (Je (HI ⟨_,rfl,HI h⟩) aa))
end
end HT
namespace L2
open PySem PySem.Spec PyProof.Rows
abbrev TO:=St->Hp->(Option Int->Hp->Prop)->Prop
def PO(X:Cx)(e:Option Expr)(t:TO):Prop :=
 ∀(pins:List (Addr×Obj)) (s:Shared) (σ:St) (H:Hp) (Q:Option Int->Hp->Prop),Inv X pins σ H s->t σ H Q ->
  wpAny (model X.prog X.w) X.A (evalPart e X.env) (λu s'=>∃o H',Inv X pins σ H' s'/\IsPart u o/\Q o H') X.xe s
def zI:TO:=λ_ H Q=>Q none H
def Fw(t:TE):TO:=λσ H Q=>t σ H λx H1=>∃i,x=.int i/\Q (some i) H1
section
variable {X:Cx} {e:Expr} {te:TE} {lo hi:Option Expr} {tl th:TO} {pos p2:Pos}
theorem zM:PO X none zI:=by
 intro pins s σ H Q I h;rw[evalPart_none];exact HI ⟨none,H,I,.none,h⟩
theorem B7(h:PE X e te):PO X (some e) (Fw te):=by
 intro pins s σ H Q I hw;rw[evalPart_some];refine Ha (h pins s σ H _ I hw) λu s1 ⟨x,H1,I1,r1,q1⟩=>?_;obtain⟨i,rfl,q⟩:=q1;obtain⟨t,rfl⟩:=r1;exact⟨some i,H1,I1,.int i t,q⟩
def SlR(X:Cx)(r:V->Option Int->Option Int->Hp->VK->Prop):Prop :=
 ∀(pins:List (Addr×Obj)) (s:Shared) (σ:St) (H:Hp) (x:V) (v vl vu:Value) (lo hi:Option Int) (sl:Addr) (Q:VK),Inv X pins σ H s->a5 x v->s.heap.IsSliceOf sl vl vu .none->IsPart vl lo->IsPart vu hi->r x lo hi H Q ->
  ∃T id,typeLookup (.type T) "__getitem__"=pure (some (.builtin id))/\s.TypeIs v T/\wpAny (model X.prog X.w) X.A (getItem v (.ref sl)) (EP X pins σ Q) X.xe s
theorem SlR.or(h:SlR X r)(h':SlR X r'):SlR X (λx lo hi H Q=>r x lo hi H Q\/r' x lo hi H Q):=by
 intro pins s σ H x v vl vu lo hi sl Q I rx hs pl pu q
 rcases q with q | q
 ·exact h pins s σ H x v vl vu lo hi sl Q I rx hs pl pu q
 ·exact h' pins s σ H x v vl vu lo hi sl Q I rx hs pl pu q
def tSl(r:V->Option Int->Option Int->Hp->VK->Prop)(te:TE)(tl th:TO):TE:=λσ H Q=>te σ H λx H1=>tl σ H1 λl H2=>th σ H2 λu H3=>r x l u H3 Q
theorem qi(hr:SlR X r)(he:PE X e te)(hl:PO X lo tl)(hu:PO X hi th):PE X (.Subscript e (.Slice lo hi none p2) pos) (tSl r te tl th):=by
 intro pins s σ H Q I h;refine Subscript_ (Ha (he pins s σ H _ I h) λv s1 ⟨x,H1,I1,r1,q1⟩=>?_);refine wpAny_Slice (Ha (hl pins s1 σ H1 _ I1 q1) λvl s2 ⟨l,H2,I2,pl,q2⟩=>Ha (hu pins s2 σ H2 _ I2 q2) λvu s3 ⟨u,H3,I3,pu,q3⟩=>?_);rw[evalPart_none];refine HI ?_;have I4:Inv X pins σ H3 { s3 with heap:=s3.heap.push { cls:=.type "slice",data:=.fields #[vl,vu,.none] } }:=I3.kept (t':=s3.toks) λb ob q=>Hy _ q;obtain⟨T,id,hT,ht,hg⟩:=hr pins { s3 with heap:=s3.heap.push { cls:=.type "slice",data:=.fields #[vl,vu,.none] } } σ H3 x v vl vu l u s3.heap.objs.size Q I4 r1 (Heap.IsSliceOf.new ..) pl pu q3;show wpAny (model X.prog X.w) X.A (subscriptTail e (.Slice lo hi none p2) v (.ref s3.heap.objs.size)) (EP X pins σ Q) X.xe { s3 with heap:=s3.heap.push { cls:=.type "slice",data:=.fields #[vl,vu,.none] } };exact tail_any (ops:=[.ref s3.heap.objs.size,v]) ht hT hg (by with_unfolding_all rfl)
def sT(xs:Zg)(lo hi:Option Int):Zg:=(xs.drop (HT.sIx xs.length 0 lo)).take (HT.sIx xs.length xs.length hi-HT.sIx xs.length 0 lo)
theorem jj(xs:Zg)(lo hi:Option Int):(sT xs lo hi).length<=xs.length:=by
 unfold sT;rw[IK,JR];omega
def rSlT(K:Zf):V->Option Int->Option Int->Hp->VK->Prop:=λx lo hi H Q=>∃a xs,x=.ref a/\Ho K H a xs /\
 ¬ (HT.sIx xs.length 0 lo=0/\HT.sIx xs.length xs.length hi=xs.length)/\∀p,H p=none->Q (.ref p) (G6 H p (.tup (sT xs lo hi)))
theorem zy:SlR X (rSlT X.K):=by
 intro pins s σ H x v vl vu lo hi sl Q I rx hs pl pu h;obtain⟨a,xs,rfl,hx,hw,q⟩:=h
 cases rx
 obtain⟨ab,r,ht,hz⟩:=I.tuple hx;have aa:ab.toArray.size=xs.length:=by rw[Ia];exact r.length.symm
 refine⟨"tuple",_,IR.lookup,ht.typeIs,?_⟩;refine HT.getItem_tuple_cut ht hs pl pu (by rw[aa];exact hw) ?_ (by rw[aa];exact hz);rw[aa];refine⟨.ref s.heap.objs.size,_,I.laid (t':=s.toks) (o:=.tup (sT xs lo hi)) (λb ob q=>Hy _ q) (HD _) ?_,rfl,q _ (I.hok.fresh (HD _))⟩;exact⟨Hz (jj xs lo hi) hz,_,(r.drop (HT.sIx xs.length 0 lo)).take (HT.sIx xs.length xs.length hi-HT.sIx xs.length 0 lo),IsTup.new _ _⟩
def Fx(K:Zf):R2:=λx y H Q=>∃a b xs ys,x=.ref a/\y=.ref b/\Ho K H a xs/\Ho K H b ys/\xs≠[]/\xs.length+ys.length<=sizeLine /\
 (ys=[]->Q (.ref a) H)/\(ys≠[]->∀p,H p=none->Q (.ref p) (G6 H p (.tup (xs++ys))))
theorem bg.nil_iff(r:bg xs us):us=[]↔xs=[]:=by
 cases r with
 | nil=>simp
 | cons _ _=>simp
theorem AZ:Hr X (binaryOp .Add) (Fx X.K):=by
 intro pins s σ H x y v u Q I rx ry h;obtain⟨a,b,xs,ys,rfl,rfl,ha,hb,hx,hz,q1,q2⟩:=h
 cases rx
 cases ry
 obtain⟨ab,r1,p1,_⟩:=I.tuple ha;obtain⟨aa,r2,p2,_⟩:=I.tuple hb;refine HT.cat_tup p1 p2 (λz=>hx (r1.nil_iff.mp z)) (λz=>⟨.ref a,H,I,rfl,q1 (r2.nil_iff.mp z)⟩) (λz=>?_) (by rw[<- r1.length,<- r2.length];exact hz);refine⟨.ref s.heap.objs.size,_,I.laid (t':=s.toks) (o:=.tup (xs++ys)) (λb ob q=>Hy _ q) (HD _) ?_,rfl,q2 (λw=>z (r2.nil_iff.mpr w)) _ (I.hok.fresh (HD _))⟩;exact⟨by rw[HC];exact hz,_,r1.append r2,IsTup.new _ _⟩
end
end L2
namespace L2
open PySem PySem.Spec PyProof.Rows
def ixN(n:Nat)(i:Int):Option Nat:=if 0<=i then (if i<n then some i.toNat else none) else if -(n:Int)<=i then some (i+n).toNat else none
def Hl{α:Type}(xs:List α)(i:Int):Option α:=(ixN xs.length i).bind λj=>xs[j]?
theorem t4(h:ixN n i=some j):seqIndex? i n=some j/\j<n/\-(n:Int)<=i/\i<n:=by
 unfold ixN at h
 by_cases h0:0<=i
 ·rw[HU h0] at h
  by_cases h1:i<n
  ·rw[HU h1] at h;have e:i.toNat=j:=HR h;exact⟨by rw[seqIndex_of h0 h1,e],by omega,by omega,h1⟩
  ·rw[HQ h1] at h;cases h
 ·rw[HQ h0] at h
  by_cases h1:-(n:Int)<=i
  ·rw[HU h1] at h;have e:(i+n).toNat=j:=HR h;exact⟨by rw[seqIndex_neg (by omega) h1,e],by omega,h1,by omega⟩
  ·rw[HQ h1] at h;cases h
theorem o0(h:Hl xs i=some v):∃j,seqIndex? i xs.length=some j/\xs[j]?=some v/\j<xs.length/\-(xs.length:Int)<=i/\i<xs.length:=by
 unfold Hl at h
 cases e:ixN xs.length i with
 | none=>rw[e] at h;cases h
 | some j =>
  rw[e] at h;obtain⟨h1,h2,h3,h4⟩:=t4 e;exact⟨j,h1,h,h2,h3,h4⟩
theorem wR(xs:List α)(v:α):Hl (xs++[v]) (-1)=some v:=by
 have hl:(xs++[v]).length=xs.length+1:=by simp
 have e:ixN (xs++[v]).length (-1)=some xs.length:=by
  unfold ixN;rw[hl,HQ (by decide),HU (by omega)]
  congr 1
  omega
 unfold Hl;rw[e];show (xs++[v])[xs.length]?=some v;simp
def pA(b:Expr):Prop:=∀o i,subscripted b false o i=operate [o,i] (getItem o i)
def IxR(X:Cx)(r:R2):Prop :=
 ∀(value slice:Expr) (pins:List (Addr×Obj)) (s:Shared) (σ:St) (H:Hp) (x y:V) (v u:Value) (Q:VK),Inv X pins σ H s->a5 x v->a5 y u->r x y H Q ->
  subscripted slice false v u=operate [v,u] (getItem v u)->wpAny (model X.prog X.w) X.A (subscriptTail value slice v u) (EP X pins σ Q) X.xe s
def MtR(X:Cx)(id:String)(r:V->Zg->Hp->VK->Prop):Prop :=
 ∀(pins:List (Addr×Obj)) (s:Shared) (σ:St) (H:Hp) (x:V) (xs:Zg) (v:Value) (us:Zc) (Q:VK),Inv X pins σ H s->a5 x v->bg xs us->r x xs H Q ->
  wpAny (model X.prog X.w) X.A (call (.builtin id) (v::us)) (EP X pins σ Q) X.xe s
section
variable {X:Cx} {a b:Expr} {ta tb:TE} {pos:Pos}
theorem IxR.or(h:IxR X r)(h':IxR X r'):IxR X (λx y H Q=>r x y H Q\/r' x y H Q):=by
 intro ab aa pins s σ H x y v u Q I rx ry q hs
 rcases q with q | q
 ·exact h ab aa pins s σ H x y v u Q I rx ry q hs
 ·exact h' ab aa pins s σ H x y v u Q I rx ry q hs
theorem CA(hr:IxR X r)(ha:PE X a ta)(hb:PE X b tb)(hs:pA b):PE X (.Subscript a b pos) (tOp r ta tb):=by
 intro pins s σ H Q I h;exact Subscript_ (binT ha hb I h λv u s2 x y H2 I2 rx ry q=>hr a b pins s2 σ H2 x y v u Q I2 rx ry q (hs _ _))
def rIxL(K:Zf):R2:=λx y H Q=>∃p xs i v,x=.ref p/\y=.int i/\G4 K H p xs/\Hl xs i=some v/\Q v H
def rIxT(K:Zf):R2:=λx y H Q=>∃p xs i v,x=.ref p/\y=.int i/\Ho K H p xs/\Hl xs i=some v/\Q v H
def rIxS:R2:=λx y H Q=>∃z i c,x=.str z/\y=.int i/\z.length<=sizeLine/\Hl z.cps.toList i=some c/\Q (.str ⟨#[c]⟩) H
theorem vh:IxR X (rIxL X.K):=by
 intro aj ai pins s σ H x y v u Q I rx ry h hs;obtain⟨p,xs,i,z,rfl,rfl,hq,he,q⟩:=h
 cases rx
 obtain⟨t,rfl⟩:=ry;obtain⟨ah,r,pl,hz⟩:=I.list hq;obtain⟨j,h1,h2,h3,h4,h5⟩:=o0 he;obtain⟨w,ew,ab⟩:=r.get h2;have hl:=r.length;have hn:=mP;have aa:EP X pins σ Q w s:=⟨z,H,I,ab,q⟩
 by_cases h0:0<=i
 ·have hj:i.toNat=j:=by
   rw[seqIndex_of h0 h5] at h1;exact HR h1
  exact item_listR pl.isList h0 (by omega) (by rw[hj];simpa using ew) aa hs
 ·have hj:(i+(ah.toArray.size:Int)).toNat=j:=by
   rw[seqIndex_neg (by omega) h4] at h1;rw[Ia,<- hl];exact HR h1
  exact subscriptTail_builtinR (x:=w) pl.isList.typeIs slot_list_getitem.lookup
   (wpAny_getItem_list_neg (Q:=λr s'=>r=w/\EP X pins σ Q r s') pl.isList (by omega) (by rw[Ia]<;>omega) (by omega) (by rw[hj];simpa using ew) ⟨rfl,aa⟩) hs
theorem CV:IxR X (rIxT X.K):=by
 intro ai ah pins s σ H x y v u Q I rx ry h hs;obtain⟨p,xs,i,z,rfl,rfl,hq,he,q⟩:=h
 cases rx
 obtain⟨t,rfl⟩:=ry;obtain⟨aj,r,pl,hz⟩:=I.tuple hq;obtain⟨j,h1,h2,h3,h4,h5⟩:=o0 he;obtain⟨w,ew,ab⟩:=r.get h2;have hl:=r.length;have hn:=mP;have aa:EP X pins σ Q w s:=⟨z,H,I,ab,q⟩;exact subscriptTail_builtinR (x:=w) pl.typeIs slot_tuple_getitem.lookup
  (getItem_tuple (j:=j) (Q:=λr s'=>r=w/\EP X pins σ Q r s') pl (by omega) (by omega) (by rw[Ia,<- hl];exact h1) (by simpa using ew) ⟨rfl,aa⟩) hs
theorem Fk:IxR X rIxS:=by
 intro ab aa pins s σ H x y v u Q I rx ry h hs;obtain⟨z,i,c,rfl,rfl,hz,he,q⟩:=h;obtain⟨t,rfl⟩:=rx;obtain⟨t',rfl⟩:=ry;obtain⟨j,h1,h2,h3,h4,h5⟩:=o0 he;have hl:z.cps.toList.length=z.length:=by simp[Str.length]
 rw[hl] at h1 h4 h5;have hn:=mP
 exact tail_any (typeIs_str s z t) slot_str_getitem.lookup (getItem_str (c:=c) (by
  have e1:decide (i < -(2 ^ 63:Int))=false:=IQ (by omega)
  have e2:decide (i ≥ 2 ^ 63)=false:=IQ (by omega)
  rw[e1,e2,Bool.or_false]) (by rw[h1];simpa using h2) ⟨.str ⟨#[c]⟩,H,I.tok _,⟨_,rfl⟩,q⟩) hs
def rIx(K:Zf):R2:=λx y H Q=>rIxL K x y H Q\/rIxT K x y H Q\/rIxS x y H Q
theorem Dc:IxR X (rIx X.K):=vh.or (CV.or Fk)
theorem r9(its:Zc)(n j:Nat)(u:Value):Obj.mapSeq (·.setIfInBounds j u) { cls:=.type "list",data:=.seq its.toArray n }={ cls:=.type "list",data:=.seq (its.set j u).toArray n }:=by
 simp[Obj.mapSeq]
theorem Inv.lst{pins:List (Addr×Obj)}{σ:St}{H:Hp}{s:Shared}{p:Addr}{xs:Zg}(I:Inv X pins σ H s)(h:H p=some (.lst xs)) :
  ∃(its:Zc) (n:Nat),bg xs its/\s.heap.get? p=some { cls:=.type "list",data:=.seq its.toArray n }/\xs.length<=sizeLine:=by
 obtain⟨z,its,n,r,e⟩:=I.hok p _ h;exact⟨its,n,r,e,z⟩
theorem Inv.lstUpd{pins:List (Addr×Obj)}{σ:St}{H:Hp}{s:Shared}{p:Addr}{xs ys:Zg}{its its':Zc}{n n':Nat}{f:Obj->Obj}(I:Inv X pins σ H s)(h:H p=some (.lst xs))
  (ho:s.heap.get? p=some { cls:=.type "list",data:=.seq its.toArray n }) (hf:f { cls:=.type "list",data:=.seq its.toArray n }={ cls:=.type "list",data:=.seq its'.toArray n' }) (r:bg ys its') (hz:ys.length<=sizeLine) (t:Nat) :
  Inv X pins σ (G6 H p (.lst ys)) { s with heap:=s.heap.update p f,toks:=t }:=by
 have e:(s.heap.update p f).get? p=some { cls:=.type "list",data:=.seq its'.toArray n' }:=by
  rw[II f ho (by rw[hf]<;>rfl),hf]
 refine I.write (x:=p) (e:=p) (by rw[h];trivial) (.inl rfl) (λb u hb q=>(Iw _ _ (Jr hb)).trans q) ⟨_,e⟩ ?_;exact⟨hz,its',n',r,e⟩
def F0:V->V->V->Hp->(Hp->Prop)->Prop:=λo i v H Q=>∃p xs k j,o=.ref p/\i=.int k/\H p=some (.lst xs)/\ixN xs.length k=some j/\Q (G6 H p (.lst (xs.set j v)))
theorem xO:PSet X F0:=by
 intro pins s σ H o i v ov iv u Q I ro ri rv h;obtain⟨p,xs,k,j,rfl,rfl,hp,hj,q⟩:=h
 cases ro
 obtain⟨t,rfl⟩:=ri;obtain⟨aa,n,r,ho,hz⟩:=I.lst hp;obtain⟨h1,h2,h3,h4⟩:=t4 hj;have hl:=r.length;have hn:=mP;have I':Inv X pins σ (G6 H p (.lst (xs.set j v))) { s with heap:=s.heap.update p (Obj.mapSeq (·.setIfInBounds j u)) } :=
  I.lstUpd hp ho (r9 aa n j u) (r.set rv j) (by rw[IS];exact hz) s.toks
 by_cases h0:0<=k
 ·have hk:k.toNat=j:=by
   rw[seqIndex_of h0 h4] at h1;exact HR h1
  exact PySem.W.ki_setAt ho h0 (by omega) (by rw[Ia,<- hl];exact h4) (by rw[hk];exact⟨_,I',q⟩)
 ·have hk:(k+(aa.toArray.size:Int)).toNat=j:=by
   rw[seqIndex_neg (by omega) h3] at h1;rw[Ia,<- hl];exact HR h1
  exact PySem.W.ki_setBack ho (by omega) (by rw[Ia,<- hl];exact h3) (by omega) (by rw[hk];exact⟨_,I',q⟩)
theorem mX(lo hi:Option Int)(n:Nat):(sliceBounds lo hi none n).1=((HT.sIx n 0 lo:Nat):Int)/\(sliceBounds lo hi none n).2.1=((HT.sIx n n hi:Nat):Int)/\(sliceBounds lo hi none n).2.2=1:=by
 refine⟨?_,?_,rfl⟩
 ·cases lo with
  | none=>simp[sliceBounds,HT.sIx]
  | some i =>
   simp only[sliceBounds,HT.sIx,Option.getD_none,show (1:Int)>0 by decide,if_true]
   by_cases h:i<0
   ·simp only[h,if_true]<;>omega
   ·simp only[h,if_false]<;>omega
 ·cases hi with
  | none=>simp[sliceBounds,HT.sIx]
  | some i =>
   simp only[sliceBounds,HT.sIx,Option.getD_none,show (1:Int)>0 by decide,if_true]
   by_cases h:i<0
   ·simp only[h,if_true]<;>omega
   ·simp only[h,if_false]<;>omega
theorem lR(its:Zc)(lo hi:Option Int):slicePick its.toArray lo hi none=((its.drop (HT.sIx its.length 0 lo)).take (HT.sIx its.length its.length hi-HT.sIx its.length 0 lo)).toArray:=by
 obtain⟨h1,h2,h3⟩:=mX lo hi its.toArray.size;unfold slicePick;rw[h1,h2,h3];simp only[sliceRange_one,pick_run,List.size_toArray]<;>rfl
def rSlL(K:Zf):V->Option Int->Option Int->Hp->VK->Prop:=λx lo hi H Q=>∃a xs,x=.ref a/\G4 K H a xs/\∀p,H p=none->Q (.ref p) (G6 H p (.lst (sT xs lo hi)))
theorem BS:SlR X (rSlL X.K):=by
 intro pins s σ H x v vl vu lo hi sl Q I rx hs pl pu h;obtain⟨a,xs,rfl,hx,q⟩:=h
 cases rx
 obtain⟨ab,r,ht,hz⟩:=I.list hx;have aa:=r.length;refine⟨"list",_,slot_list_getitem.lookup,ht.isList.typeIs,?_⟩;refine wpAny_getItem_list_slice ht.isList hs pl pu .none (by simp) ?_ (by rw[Ia]<;>omega)
 rw[lR,<- aa];refine⟨.ref s.heap.objs.size,_,I.laid (t':=s.toks) (o:=.lst (sT xs lo hi)) (λb ob q=>Hy _ q) (HD _) ?_,rfl,q _ (I.hok.fresh (HD _))⟩;exact⟨Hz (jj xs lo hi) hz,_,0,(r.drop (HT.sIx xs.length 0 lo)).take (HT.sIx xs.length xs.length hi-HT.sIx xs.length 0 lo),HX _ rfl⟩
def EX:V->Bool
 | .non=>true
 | .bl _=>true
 | .int _=>true
 | .str _=>true
 | _=>false
def eqV:V->V->Bool
 | .non,.non=>true
 | .bl a,.bl b=>a==b
 | .bl a,.int b=>(if a then 1 else 0)==b
 | .int a,.bl b=>a==(if b then 1 else 0)
 | .int a,.int b=>a==b
 | .str a,.str b=>a==b
 | _,_=>false
theorem rG(ry:a5 y u)(rx:a5 x v)(fy:EX y=true)(fx:EX x=true):SeqAt.EqAt A s u v (eqV y x):=by
 cases y with
 | non =>
  cases ry
  cases x with
  | non=>cases rx;exact KJ _
  | bl b=>cases rx;exact SeqAt.EqAt.none_bool b
  | int b=>obtain⟨t,rfl⟩:=rx;exact SeqAt.EqAt.none_int b t
  | str b=>obtain⟨t,rfl⟩:=rx;exact SeqAt.EqAt.none_str b t
  | _=>exact absurd (show false=true from fx) HE
 | bl a =>
  cases ry
  cases x with
  | non=>cases rx;exact SeqAt.EqAt.bool_none a
  | bl b=>cases rx;exact SeqAt.EqAt.bool_bool a b
  | int b=>obtain⟨t,rfl⟩:=rx;exact SeqAt.EqAt.bool_int a b t
  | str b=>obtain⟨t,rfl⟩:=rx;exact SeqAt.EqAt.bool_str a b t
  | _=>exact absurd (show false=true from fx) HE
 | int a =>
  obtain⟨t',rfl⟩:=ry
  cases x with
  | non=>cases rx;exact SeqAt.EqAt.int_none a t'
  | bl b=>cases rx;exact SeqAt.EqAt.int_bool a t' b
  | int b=>obtain⟨t,rfl⟩:=rx;exact SeqAt.EqAt.int_int a t' b t
  | str b=>obtain⟨t,rfl⟩:=rx;exact SeqAt.EqAt.int_str a t' b t
  | _=>exact absurd (show false=true from fx) HE
 | str a =>
  obtain⟨t',rfl⟩:=ry
  cases x with
  | non=>cases rx;exact SeqAt.EqAt.str_none a t'
  | bl b=>cases rx;exact SeqAt.EqAt.str_bool a t' b
  | int b=>obtain⟨t,rfl⟩:=rx;exact SeqAt.EqAt.str_int a t' b t
  | str b=>obtain⟨t,rfl⟩:=rx;exact SeqAt.EqAt.str_str a t' b t
  | _=>exact absurd (show false=true from fx) HE
 | _=>exact absurd (show false=true from fy) HE
theorem gu:bR X (.builtin "len") (λxs H Q=>∃p ys,xs=[.ref p]/\(G4 X.K H p ys\/Ho X.K H p ys)/\Q (.int ys.length) H):=by
 intro pins s σ H xs us Q I r h;obtain⟨p,ys,rfl,hq,q⟩:=h;obtain⟨u,rfl,rx⟩:=eW r
 cases rx
 have hn:=mP
 rcases hq with hq | hq
 ·obtain⟨ab,r',pl,hz⟩:=I.list hq;have aa:=r'.length;exact Calls.call_len_list pl.isList (by simp only[List.size_toArray]<;>omega) ⟨.int ys.length,H,I.tok _,⟨s.toks+1,by rw[Ia,aa]⟩,q⟩
 ·obtain⟨ab,r',pl,hz⟩:=I.tuple hq;have aa:=r'.length;exact len_tuple pl (by simp only[List.size_toArray]<;>omega) ⟨.int ys.length,H,I.tok _,⟨s.toks+1,by rw[Ia,aa]⟩,q⟩
theorem ft:bR X (.type "tuple") (λxs H Q=>∃p ys,xs=[.ref p]/\((G4 X.K H p ys/\∀l,H l=none->Q (.ref l) (G6 H l (.tup ys)))\/(Ho X.K H p ys/\Q (.ref p) H))):=by
 intro pins s σ H xs us Q I r h;obtain⟨p,ys,rfl,h⟩:=h;obtain⟨u,rfl,rx⟩:=eW r
 cases rx
 rcases h with⟨hq,q⟩ | ⟨hq,q⟩
 ·obtain⟨aa,r',pl,hz⟩:=I.list hq;have ab:=r'.length;refine call_tuple_list pl.isList (λh' kp=>?_) (by simp only[List.size_toArray]<;>omega)
  have I1:Inv X pins σ H { s with heap:=h' }:=I.kept (t':=s.toks) kp
  have I2:Inv X pins σ (G6 H h'.objs.size (.tup ys)) { s with heap:=h'.push { cls:=.type "tuple",data:=.seq aa.toArray } } :=
   I1.laid (t':=s.toks) (λb o e=>Hy _ e) (HD _) (show bA X.prog X.w _ _ _ (.tup ys) from⟨hz,aa,r',IsTup.new _ _⟩)
  exact⟨.ref h'.objs.size,_,I2,rfl,q _ (I1.hok.fresh (HD _))⟩
 ·obtain⟨aa,r',pl,hz⟩:=I.tuple hq;exact call_tuple_same pl ⟨.ref p,H,I,rfl,q⟩
def tyV(K:Zf)(T:String)(x:V)(H:Hp):Prop:=match x with
 | .str _=>T="str"
 | .int _=>T="int"
 | .ref p=>(T="list"/\∃xs,G4 K H p xs)\/(T="tuple"/\∃o,K.lookup p=some o/\o.cls=.type "tuple"/\o.dict=none) \/
   (T="dict"/\((∃kvs,H p=some (.dK kvs))\/∃kvs,H p=some (.dT kvs)))\/(T="set"/\∃S n,H p=some (.set S n))
 | _=>False
theorem zm(I:Inv X pins σ H s)(r:a5 x v)(ty:tyV X.K T x H) :
  s.TypeIs v T/\∀a,v=.ref a->∃ob,s.heap.get? a=some ob/\ob.dict=none:=by
 cases x with
 | str z =>
  obtain⟨t,rfl⟩:=r
  cases (show T="str" from ty)
  exact⟨typeIs_str s z t,λ_ e=>nomatch e⟩
 | int i =>
  obtain⟨t,rfl⟩:=r
  cases (show T="int" from ty)
  exact⟨typeIs_int s i t,λ_ e=>nomatch e⟩
 | ref p =>
  cases r
  rcases ty with⟨rfl,xs,hq⟩ | ⟨rfl,o,hk,hc,hd⟩ | ⟨rfl,hk⟩ | ⟨rfl,S,n,hk⟩
  ·obtain⟨aa,_,pl,_⟩:=I.list hq;refine⟨pl.isList.typeIs,λa e=>?_⟩
   cases e
   obtain⟨o,n,e,c,hd,_⟩:=pl;exact⟨o,e,hd⟩
  ·refine⟨⟨o,I.kIn p o hk,hc⟩,λa e=>?_⟩
   cases e
   exact⟨o,I.kIn _ o hk,hd⟩
  ·have z:∃o,s.heap.get? p=some o/\o.ExactDict:=by
    rcases hk with⟨kvs,hk⟩ | ⟨kvs,hk⟩
    ·obtain⟨_,_,_,_,o,_,_,e,ex,_⟩:=I.hok p _ hk;exact⟨o,e,ex⟩
    ·obtain⟨_,_,_,_,o,_,_,e,ex,_⟩:=I.hok p _ hk;exact⟨o,e,ex⟩
   obtain⟨o,e,ex⟩:=z;refine⟨⟨o,e,ex.1⟩,λa e2=>?_⟩
   cases e2
   exact⟨o,e,ex.2.1⟩
  ·obtain⟨o,_,_,_,e,ex,_⟩:=I.hok p _ hk;refine⟨⟨o,e,ex.1⟩,λa e2=>?_⟩
   cases e2
   exact⟨o,e,ex.2.1⟩
 | _=>exact False.elim ty
def tBM0(K:Zf)(T:String)(r:V->Zg->Hp->VK->Prop)(to:TE):TE:=λσ H Q=>to σ H λx H1=>tyV K T x H1/\r x [] H1 Q
def tBM(K:Zf)(T:String)(r:V->Zg->Hp->VK->Prop)(to:TE)(t:TA):TE:=λσ H Q=>to σ H λx H1=>tyV K T x H1/\t σ H1 λxs H2=>r x xs H2 Q
theorem Fg{o:Expr}{to:TE}{name:Str}{apos cpos:Pos}{T id:String}{r:V->Zg->Hp->VK->Prop}(pa:PlainAttrs T)(slot:Slot T name id)(hty:typeOf (.builtin id)=pure (.type "method_descriptor"))(hm:MtR X id r)(ho:PE X o to)
  (hbase:attributeBase o name X.env (eval o X.env)=eval o X.env:=by rfl) (hline:(apos.endLine==cpos.line)=true:=by rfl):PE X (.Call (.Attribute o name apos) [] [] cpos) (tBM0 X.K T r to):=by
 intro pins s σ H Q I h;refine wpAny_Call_method0_late hbase hline (Ha (ho pins s σ H _ I h) λv s1 ⟨x,H1,I1,r1,ty,q1⟩=>?_);obtain⟨h1,h2⟩:=zm I1 r1 ty;exact⟨T,id,pa,slot,hty,h1,h2,JU rfl (PySem.evalArgs_none (hm pins s1 σ H1 x [] v [] Q I1 r1 .nil q1))⟩
theorem D6{apos cpos:Pos}{id:String}{r:V->Zg->Hp->VK->Prop}(pa:PlainAttrs T)(slot:Slot T name id)(hty:typeOf (.builtin id)=pure (.type "method_descriptor"))(hm:MtR X id r)(ho:PE X o to)(ha:PA X (e::es) t)
    (hbase:attributeBase o name X.env (eval o X.env)=eval o X.env:=by rfl)
    (hfew:((backTo cpos (starEach (e::es) X.env)).all (λx=>!x.1)&&(backToKw cpos (keywordEach [] X.env)).all (λx=>x.1.isSome)
      && decide ((e::es).length+([]:List Keyword).length+(if ([]:List Keyword).isEmpty then 0 else 1)<30))=true:=by rfl)
    (hline:(apos.endLine==cpos.line)=true:=by rfl) (hs:starEach (e::es) X.env=(false,eval e X.env)::starEach es X.env:=by rfl) (hplain:(backTo cpos (starEach es X.env)).any (·.1)=false:=by rfl) :
    PE X (.Call (.Attribute o name apos) (e::es) [] cpos) (tBM X.K T r to t):=by
  intro pins s σ H Q I h;refine wpAny_Call_method_late hbase hfew hline rfl (Ha (ho pins s σ H _ I h) λv s1 ⟨x,H1,I1,r1,ty,q1⟩=>?_);obtain⟨h1,h2⟩:=zm I1 r1 ty;refine⟨T,id,pa,slot,hty,h1,h2,?_⟩;have hA:=ha cpos pins s1 σ H1 _ I1 q1;rw[hs] at hA ⊢;refine JU (by show (false||(backTo cpos (starEach es X.env)).any (·.1))=false;rw[hplain]<;>rfl) (KF ?_)
  exact Ha hA λus s2 ⟨vs,H2,I2,r2,q2⟩=>hm pins s2 σ H2 x vs v us Q I2 r1 r2 q2
end
end L2
namespace L2
open PySem PySem.Spec PyProof.Rows
def MtM(X:Cx)(id:String)(r:V->Zg->Hp->VK->Prop):Prop :=
 ∀(pins:List (Addr×Obj)) (s:Shared) (σ:St) (H:Hp) (x:V) (xs:Zg) (v:Value) (us:Zc) (Q:VK),Inv X pins σ H s->a5 x v->bg xs us->r x xs H Q ->
  wpAny (model X.prog X.w) X.A (call (.builtin id) (v::us)) (EP X pins σ Q) X.xe s
theorem bg.one:∀ {x:V} {us:Zc},bg [x] us->∃u,us=[u]/\a5 x u
 | _,_,.cons r .nil=>⟨_,rfl,r⟩
theorem bg.zero:∀ {us:Zc},bg [] us->us=[]
 | _,.nil=>rfl
theorem bg.dropLast(h:bg xs us):bg xs.dropLast us.dropLast:=by
 induction h with
 | nil=>exact .nil
 | cons r t ih =>
  cases t with
  | nil=>exact .nil
  | cons q t'=>exact .cons r ih
theorem bg.reverse(h:bg xs us):bg xs.reverse us.reverse:=by
 induction h with
 | nil=>exact .nil
 | cons r t ih=>rw[List.reverse_cons,List.reverse_cons];exact bg.append ih (.cons r .nil)
theorem sN(l:List α):l.eraseIdx (l.length-1)=l.dropLast:=by
 induction l with
 | nil=>rfl
 | cons a r ih =>
  cases r with
  | nil=>rfl
  | cons b r =>
   have e:(a::b::r).length-1=((b::r).length-1)+1:=by
    have h1:(a::b::r).length=r.length+2:=rfl
    have h2:(b::r).length=r.length+1:=rfl
    omega
   rw[e,List.eraseIdx_cons_succ,ih]
   all_goals rfl
section
theorem Inv.lset{H:Hp}{s:Shared}{ys:Zg}{its its':Zc}{f:Array Value->Array Value}(I:Inv X pins σ H s)(hH:H l=some (.lst xs))
  (e:s.heap.get? l=some { cls:=.type "list",data:=.seq its.toArray n }) (hf:f its.toArray=its'.toArray) (hv:bg ys its') (hz:ys.length<=sizeLine) :
  Inv X pins σ (G6 H l (.lst ys)) { s with heap:=s.heap.update l (Obj.mapSeq f),toks:=t' }:=by
 have q:=PySem.IsL.update e f
 rw[hf] at q;refine I.write (x:=l) (e:=l) (by rw[hH];exact trivial) (.inl rfl) (λb' u hb hu=>(Iw s.heap (Obj.mapSeq f) (Jr hb)).trans hu) ⟨_,q⟩ ?_;exact⟨hz,its',_,hv,q⟩
theorem Inv.lnew(I:Inv X pins σ H s)(hv:bg ys its)(hz:ys.length<=sizeLine) :
  Inv X pins σ (G6 H s.heap.objs.size (.lst ys)) { s with heap:=s.heap.push { cls:=.type "list",data:=.seq its.toArray },toks:=t' } :=
 I.laid (λ_ _ q=>Hy _ q) (HD _) ⟨hz,its,0,hv,HX _ rfl⟩
theorem Inv.fresh(I:Inv X pins σ H s):H s.heap.objs.size=none:=I.hok.fresh (HD _)
theorem Inv.lstM(I:Inv X pins σ H s)(hH:H l=some (.lst xs)):xs.length<=sizeLine/\∃(its:Zc) (n:Nat),bg xs its/\xs.length=its.length/\s.heap.get? l=some { cls:=.type "list",data:=.seq its.toArray n }:=by
 obtain⟨z,its,n,r,e⟩:=I.hok l _ hH;exact⟨z,its,n,r,r.length,e⟩
theorem xX(h:n<=sizeLine):Builtin.List.listTooLong n=false:=by
 unfold Builtin.List.listTooLong;exact IQ (by omega)
end
section
def Br:V->Zg->Hp->VK->Prop:=λx vs H Q=>∃l xs y,x=.ref l/\vs=[y]/\H l=some (.lst xs)/\xs.length<sizeLine/\Q .non (G6 H l (.lst (xs++[y])))
theorem lZ:MtM X "list.append" Br:=by
 intro pins s σ H x vs v us Q I rx rv h;obtain⟨l,xs,y,rfl,rfl,hH,hz,q⟩:=h
 cases rx
 obtain⟨u,rfl,ru⟩:=rv.one;obtain⟨z,aa,n,r,hl,e⟩:=I.lstM hH;refine call_meets F.slot_list_append ⟨_,e,rfl⟩ F.entry_list_append (F.args_list_append_2 _ _) (PySem.list_append l aa.toArray n u (by rw[Ia];omega)) ⟨e,?_⟩;refine⟨.non,_,I.lset (its':=aa++[u]) hH e (by simp) (r.append (.cons ru .nil)) ?_,rfl,q⟩;rw[HC,Ie];omega
def B0:V->Zg->Hp->VK->Prop:=λx vs H Q=>∃l b xs zs,x=.ref l/\vs=[.ref b]/\H l=some (.lst xs)/\H b=some (.lst zs)/\xs.length+zs.length<=sizeLine/\Q .non (G6 H l (.lst (xs++zs)))
theorem mt_extend:MtM X "list.extend" B0:=by
 intro pins s σ H x vs v us Q I rx rv h;obtain⟨l,b,xs,zs,rfl,rfl,hH,hB,hz,q⟩:=h
 cases rx
 obtain⟨u,rfl,ru⟩:=rv.one
 cases ru
 obtain⟨z,ab,n,r,hl,e⟩:=I.lstM hH;obtain⟨z2,aa,n2,r2,ai,e2⟩:=I.lstM hB;have hsz:ab.toArray.size+aa.toArray.size<=sizeLine:=by rw[Ia,Ia];omega
 have ah:¬ (!ab.toArray.isEmpty&&Builtin.List.listTooLong (ab.toArray.size+aa.toArray.size))=true:=by
  rw[xX hsz,Bool.and_false];exact HE
 refine call_meets F.slot_list_extend ⟨_,e,rfl⟩ F.entry_list_extend (F.args_list_extend_2 _ _)
  (AutoSeq1.list_extend_list_list_0 l ab.toArray n b aa.toArray n2 ah (by rw[Ia];omega) (by omega)) ⟨e,e2,?_⟩
 refine⟨.non,_,I.lset (its':=ab++aa) hH e (by simp) (r.append r2) ?_,rfl,q⟩;rw[HC];omega
def rPop:V->Zg->Hp->VK->Prop:=λx vs H Q=>∃l xs y,x=.ref l/\vs=[]/\H l=some (.lst xs)/\xs[xs.length-1]?=some y/\Q y (G6 H l (.lst xs.dropLast))
theorem D0:MtM X "list.pop" rPop:=by
 intro pins s σ H x vs v us Q I rx rv h;obtain⟨l,xs,y,rfl,rfl,hH,hy,q⟩:=h
 cases rx
 have ah:=rv.zero
 subst ah;obtain⟨z,aa,n,r,hl,e⟩:=I.lstM hH;obtain⟨u,hu,ru⟩:=r.get hy;have ab:aa.toArray[aa.toArray.size-1]?=some u:=by
  show aa.toArray[aa.length-1]?=some u
  rw[<- JZ,<- hl];exact hu
 refine call_meets F.slot_list_pop ⟨_,e,rfl⟩ F.entry_list_pop (F.args_list_pop_1 _) (MeetsSeq.list_pop_last l aa.toArray n u ab (by rw[Ia];omega)) ⟨e,?_⟩;refine⟨y,_,I.lset (its':=aa.dropLast) hH e ?_ r.dropLast ?_,ru,q⟩
 ·show aa.toArray.eraseIdxIfInBounds (aa.toArray.size-1)=aa.dropLast.toArray
  rw[Ia,List.eraseIdxIfInBounds_toArray,sN]
 ·rw[List.length_dropLast];omega
def rCat:R2:=λx y H Q=>∃l b xs zs,x=.ref l/\y=.ref b/\H l=some (.lst xs)/\H b=some (.lst zs)/\xs.length+zs.length<=sizeLine/\∀p,H p=none->Q (.ref p) (G6 H p (.lst (xs++zs)))
theorem Dh:Hr X (binaryOp .Add) rCat:=by
 intro pins s σ H x y v u Q I rx ry h;obtain⟨l,b,xs,zs,rfl,rfl,hH,hB,hz,q⟩:=h
 cases rx
 cases ry
 obtain⟨z,ab,n,r,hl,e⟩:=I.lstM hH;obtain⟨z2,aa,n2,r2,ah,e2⟩:=I.lstM hB;refine PySem.P.add_list e e2 ?_ (by rw[Ia,Ia];omega);have ea:ab.toArray++aa.toArray=(ab++aa).toArray:=by simp
 rw[ea];exact⟨.ref _,_,I.lnew (t':=s.toks) (r.append r2) (by rw[HC];omega),rfl,q _ I.fresh⟩
end
section
set_option maxRecDepth 100000 in
end
section
end
end L2
namespace L2
open PySem PySem.Spec PyProof.Rows
section
variable {κ:Type} [DecidableEq κ]
def oH(kvs:List (κ×V))(k:κ):Option V:=(kvs.find? λkv=>decide (kv.1=k)).map (·.2)
def rC(kvs:List (κ×V))(k:κ)(v:V):List (κ×V) :=
 if (kvs.any λkv=>decide (kv.1=k))=true then kvs.map (λkv=>if kv.1=k then (kv.1,v) else kv) else kvs++[(k,v)]
def D8(kvs:List (κ×V))(k:κ):List (κ×V):=kvs.filter λkv=>decide (kv.1≠k)
theorem gY{p:κ×V}{r:List (κ×V)}{k:κ}(e:p.1=k):oH (p::r) k=some p.2:=by simp[oH,List.find?_cons,e]
theorem hG{p:κ×V}{r:List (κ×V)}{k:κ}(e:¬ p.1=k):oH (p::r) k=oH r k:=by simp[oH,List.find?_cons,e]
theorem pX(k:κ):∀kvs:List (κ×V),(kvs.any λkv=>decide (kv.1=k))=(oH kvs k).isSome
 | []=>rfl
 | p::r=>by
  rw[JN]
  by_cases e:p.1=k
  ·simp only[gY e,decide_eq_true e,Bool.true_or,Option.isSome_some]
  ·rw[hG e,IQ e,Bool.false_or];exact pX k r
theorem jm(kvs:List (κ×V))(k:κ)(v:V):(rC kvs k v).length<=kvs.length+1:=by
 unfold rC
 split
 ·rw[Hv];omega
 ·rw[HC,HJ,List.length_nil];omega
theorem nO.isSome_eq(r:nO o u):o.isSome=u.isSome:=by
 cases o with
 | none=>cases u with
  | none=>rfl
  | some _=>exact(show False from r).elim
 | some _=>cases u with
  | none=>exact(show False from r).elim
  | some _=>rfl
theorem nO.getD(r:nO o u)(rd:a5 d d'):a5 (o.getD d) (u.getD d'):=by
 cases o with
 | none=>cases u with
  | none=>exact rd
  | some _=>exact(show False from r).elim
 | some _=>cases u with
  | none=>exact(show False from r).elim
  | some _=>exact r
theorem KV.val(r:KV kvs vs)(k:κ):nO (oH kvs k) (valueAt vs k):=by
 unfold KV at r
 induction r with
 | nil=>exact True.intro
 | @cons p q ps qs h t ih =>
  obtain⟨h1,h2⟩:=h
  by_cases e:p.1=k
  ·have e':q.1=k:=h1.symm.trans e
   have b:valueAt (q::qs) k=some q.2:=by simp[valueAt,List.find?_cons,e']
   rw[gY e,b];exact h2
  ·have e':¬ q.1=k:=λz=>e (h1.trans z)
   have b:valueAt (q::qs) k=valueAt qs k:=by simp[valueAt,List.find?_cons,e']
   rw[hG e,b];exact ih
theorem KV.any(r:KV kvs vs)(k:κ):(kvs.any λkv=>decide (kv.1=k))=vs.any λkv=>decide (kv.1=k):=by
 unfold KV at r
 induction r with
 | nil=>rfl
 | cons h t ih=>rw[JN,JN,ih,h.1]
theorem KV.repl(r:KV kvs vs)(k:κ)(ry:a5 y u) :
  KV (kvs.map λkv=>if kv.1=k then (kv.1,y) else kv) (vs.map λkv=>if kv.1=k then (kv.1,u) else kv):=by
 unfold KV at r ⊢
 induction r with
 | nil=>exact .nil
 | @cons p q ps qs h t ih =>
  rw[Im,Im];refine .cons ?_ ih;obtain⟨h1,h2⟩:=h
  by_cases e:p.1=k
  ·rw[HU e,HU (h1.symm.trans e)];exact⟨h1,ry⟩
  ·rw[HQ e,HQ (λz=>e (h1.trans z))];exact⟨h1,h2⟩
theorem KV.put(r:KV kvs vs)(k:κ)(ry:a5 y u):KV (rC kvs k y) (stored vs k u):=by
 unfold rC stored;rw[r.any k]
 by_cases e:(vs.any λkv=>decide (kv.1=k))=true
 ·rw[HU e,HU e];exact r.repl k ry
 ·rw[HQ e,HQ e];exact Paired.snoc r ⟨rfl,ry⟩
theorem KV.drop(r:KV kvs vs)(k:κ):KV (D8 kvs k) (without vs k):=by
 unfold KV at r ⊢;unfold D8 without
 induction r with
 | nil=>exact .nil
 | @cons p q ps qs h t ih =>
  obtain⟨h1,h2⟩:=h;rw[List.filter_cons,List.filter_cons]
  by_cases e:p.1=k
  ·have a:¬ decide (p.1≠k)=true:=by simp[e]
   have b:¬ decide (q.1≠k)=true:=by simp[h1.symm.trans e]
   rw[HQ a,HQ b];exact ih
  ·have e':¬ q.1=k:=λz=>e (h1.trans z)
   have a:decide (p.1≠k)=true:=by simp[e]
   have b:decide (q.1≠k)=true:=by simp[e']
   rw[HU a,HU b];exact .cons ⟨h1,h2⟩ ih
theorem KV.length(r:KV kvs vs):kvs.length=vs.length:=Paired.length r
end
theorem rO(r:a5 (kV k) u):(a8 P w).is k u=true:=by
 cases k with
 | inl i=>obtain⟨t,e⟩:=(show ∃t,u=Value.int i t from r);subst e;exact nI P w i t
 | inr x=>obtain⟨t,e⟩:=(show ∃t,u=Value.str x t from r);subst e;exact o8 P w x t
theorem mG:∀ {ks:List Hn} {us:Zc},bg (ks.map kV) us->ItemsAre (a8 P w) ks us
 | [],_,r=>by rw[Kf] at r;cases r;exact .nil
 | k::ks,_,r=>by
  rw[Im] at r
  cases r with
  | cons h t=>exact .cons (rO h) (mG t)
abbrev KT(H:Hp):List (List Hn×V)->List (List Hn×Addr×Value)->Prop:=Paired λp q=>p.1=q.1/\H q.2.1=some (.tup (p.1.map kV))/\a5 p.2 q.2.2
theorem KT.val(r:KT H kvs xs)(k:List Hn):nO (oH kvs k) ((atKey xs k).map (·.2)):=by
 induction r with
 | nil=>exact True.intro
 | @cons p q ps qs h t ih =>
  obtain⟨h1,_,h2⟩:=h
  by_cases e:p.1=k
  ·have e':q.1=k:=h1.symm.trans e
   have b:atKey (q::qs) k=some q.2:=by simp[atKey,List.find?_cons,e']
   rw[gY e,b];exact h2
  ·have e':¬ q.1=k:=λz=>e (h1.trans z)
   have b:atKey (q::qs) k=atKey qs k:=by simp[atKey,List.find?_cons,e']
   rw[hG e,b];exact ih
theorem KT.repl(r:KT H kvs xs)(k:List Hn)(ry:a5 y u) :
  KT H (kvs.map λkv=>if kv.1=k then (kv.1,y) else kv) (xs.map (putAt k u)):=by
 induction r with
 | nil=>exact .nil
 | @cons p q ps qs h t ih =>
  rw[Im,Im];refine .cons ?_ ih;obtain⟨h1,h2,h3⟩:=h;unfold putAt
  by_cases e:p.1=k
  ·rw[HU e,HU (h1.symm.trans e)];exact⟨h1,h2,ry⟩
  ·rw[HQ e,HQ (λz=>e (h1.trans z))];exact⟨h1,h2,h3⟩
theorem KT.put(r:KT H kvs xs)(k:List Hn)(hb:H b=some (.tup (k.map kV)))(ry:a5 y u) :
  KT H (rC kvs k y) (storedH xs k b u):=by
 have e:(kvs.any λkv=>decide (kv.1=k))=(atKey xs k).isSome:=by
  rw[pX,(r.val k).isSome_eq,Option.isSome_map]
 unfold rC storedH;rw[e]
 by_cases q:(atKey xs k).isSome=true
 ·rw[HU q,HU q];exact r.repl k ry
 ·rw[HQ q,HQ q];exact Paired.snoc r ⟨rfl,hb,ry⟩
theorem KT.keeps(r:KT H kvs xs)(ht:∀b ys,H b=some (.tup ys)->H' b=some (.tup ys)):KT H' kvs xs :=
 Paired.mapP r λ_ _ z=>⟨z.1,ht _ _ z.2.1,z.2.2⟩
section
theorem C4(ok:Hm P w H h)(e:Rd H a u):bA P w H h a u:=e.ok ok
theorem iT(ok:Hm P w H h)(e:Rd H a (.dK kvs)):kvs.length<=sizeLine/\(a==sysModules)=false/\∃vs,KV kvs vs/\h.DictOf (a8 P w) a vs :=
 show bA P w H h a (.dK kvs) from C4 ok e
theorem Dn(ok:Hm P w H h)(e:H a=some (.dK kvs)):kvs.length<=sizeLine/\(a==sysModules)=false/\∃vs,KV kvs vs/\h.DictOf (a8 P w) a vs:=iT ok (.inl e)
theorem j8(ok:Hm P w H h)(e:H a=some (.tup (ks.map kV))):(tupleKind (a8 P w)).is h ks a:=by
 obtain⟨_,aa,r,o,h1,h2,n,h3⟩:=(show bA P w H h a (.tup (ks.map kV)) from ok a _ e);exact⟨o,aa.toArray,n,h1,h2,h3,by simpa using mG r⟩
theorem nY(ok:Hm P w H h)(e:Rd H a (.dT kvs)):kvs.length<=sizeLine/\(a==sysModules)=false /\
  ∃xs,KT H kvs xs/\h.DictOfH (tupleKind (a8 P w)) a xs:=by
 obtain⟨z,y,xs,r,o,es,ep,h1,h2,h3,h4,h5⟩:=(show bA P w H h a (.dT kvs) from C4 ok e);refine⟨z,y,xs,r,o,es,ep,h1,h2,h3,h4,λx hx=>?_,h5⟩;have all:∀ {l:List (List Hn×V)} {m:List (List Hn×Addr×Value)},KT H l m->∀x∈m,(tupleKind (a8 P w)).is h x.1 x.2.1:=by
  intro l m q
  induction q with
  | nil=>intro x hx;exact nomatch hx
  | @cons p q ps qs hq t ih =>
   intro x hx
   rcases HK.mp hx with e | hx
   ·subst e;exact j8 ok (by rw[<- hq.1];exact hq.2.1)
   ·exact ih x hx
 exact all r x hx
theorem Gi(ok:Hm P w H h)(e:H a=some (.dT kvs)):kvs.length<=sizeLine/\(a==sysModules)=false /\
  ∃xs,KT H kvs xs/\h.DictOfH (tupleKind (a8 P w)) a xs:=nY ok (.inl e)
end
def nk(H:Hp)(a:Addr)(y:V)(r:Option V):Prop :=
 (∃kvs k,Rd H a (.dK kvs)/\y=kV k/\r=oH kvs k)\/∃kvs k b,Rd H a (.dT kvs)/\y=.ref b/\H b=some (.tup (k.map kV))/\r=oH kvs k
def zK(H:Hp)(a:Addr)(y v:V)(H':Hp):Prop :=
 (∃kvs k,H a=some (.dK kvs)/\y=kV k/\kvs.length<sizeLine/\H'=G6 H a (.dK (rC kvs k v))) \/
 ∃kvs k b,H a=some (.dT kvs)/\y=.ref b/\H b=some (.tup (k.map kV))/\kvs.length<sizeLine/\H'=G6 H a (.dT (rC kvs k v))
theorem nk.k{H:Hp}{a:Addr}{kvs:List (Hn×V)}{k:Hn}(e:H a=some (.dK kvs)):nk H a (kV k) (oH kvs k):=.inl ⟨kvs,k,.inl e,rfl,rfl⟩
theorem nk.t{H:Hp}{a b:Addr}{kvs:List (List Hn×V)}{k:List Hn}(e:H a=some (.dT kvs))(eb:H b=some (.tup (k.map kV))):nk H a (.ref b) (oH kvs k):=.inr ⟨kvs,k,b,.inl e,rfl,eb,rfl⟩
theorem zK.k{H:Hp}{a:Addr}{kvs:List (Hn×V)}{k:Hn}{v:V}(e:H a=some (.dK kvs))(hl:kvs.length<sizeLine):zK H a (kV k) v (G6 H a (.dK (rC kvs k v))):=.inl ⟨kvs,k,e,rfl,hl,rfl⟩
theorem zK.t{H:Hp}{a b:Addr}{kvs:List (List Hn×V)}{k:List Hn}{v:V}(e:H a=some (.dT kvs))(eb:H b=some (.tup (k.map kV)))(hl:kvs.length<sizeLine) :
  zK H a (.ref b) v (G6 H a (.dT (rC kvs k v))):=.inr ⟨kvs,k,b,e,rfl,eb,hl,rfl⟩
section
theorem Inv.big(I:Inv X pins σ H s):sysModules<s.heap.objs.size:=by
 have h:mainGlobals<s.heap.objs.size:=(I.mod.glob.keeps I.bk).lt
 exact Nat.lt_trans (by decide) h
theorem tf(hu:A.units+1<cLine)(I:Inv X pins σ H s)(g:nk H a y (some v))(ry:a5 y u)(h:∀w' s',Inv X pins σ H s'->a5 v w'->Q w' s') :
  wpAny (model X.prog X.w) A (getItem (.ref a) u) Q E s:=by
 rcases g with⟨kvs,k,e,ey,l⟩ | ⟨kvs,k,b,e,ey,eb,l⟩
 ·subst ey;obtain⟨z,hd,vs,aa,dd⟩:=iT I.hok e;obtain⟨w',hw,ab⟩:=nO.some_of (v:=v) (o:=valueAt vs k) (by rw[l];exact aa.val k);exact wpAny_getItem_of (rO ry) dd.mapOf hw (h w' _ (I.tok _) ab)
 ·subst ey
  cases (show u=Value.ref b from ry)
  obtain⟨z,hd,xs,aa,dd⟩:=nY I.hok e;obtain⟨w',hw,ab⟩:=nO.some_of (v:=v) (o:=(atKey xs k).map (·.2)) (by rw[l];exact aa.val k);obtain⟨p,hp,ah⟩:=Kq.mp hw;refine wpAny_getItem_heap (JW hu) (j8 I.hok eb) dd hp ?_;rw[ah];exact h w' _ (I.tok _) ab
theorem d_in(hu:A.units+1<cLine)(I:Inv X pins σ H s)(g:nk H a y o)(ry:a5 y u)(h:∀s',Inv X pins σ H s'->Q (.bool o.isSome) s') :
  wpAny (model X.prog X.w) A (compareOp .In u (.ref a)) Q E s:=by
 rcases g with⟨kvs,k,e,ey,l⟩ | ⟨kvs,k,b,e,ey,eb,l⟩
 ·subst ey;obtain⟨z,hd,vs,aa,dd⟩:=iT I.hok e;refine wpAny_in_of (rO ry) hd dd.mapOf ?_;rw[<- (aa.val k).isSome_eq,<- l];exact h _ (I.tok _)
 ·subst ey
  cases (show u=Value.ref b from ry)
  obtain⟨z,hd,xs,aa,dd⟩:=nY I.hok e;refine wpAny_in_heap (JW hu) (j8 I.hok eb) hd dd ?_;have q:=(aa.val k).isSome_eq;rw[Option.isSome_map] at q;rw[<- q,<- l];exact h _ (I.tok _)
theorem BF(hu:A.units+1<cLine)(I:Inv X pins σ H s)(g:nk H a y o)(ry:a5 y u)(h:∀s',Inv X pins σ H s'->Q (.bool (!o.isSome)) s') :
  wpAny (model X.prog X.w) A (compareOp .NotIn u (.ref a)) Q E s:=by
 rcases g with⟨kvs,k,e,ey,l⟩ | ⟨kvs,k,b,e,ey,eb,l⟩
 ·subst ey;obtain⟨z,hd,vs,aa,dd⟩:=iT I.hok e;refine wpAny_notIn_of (rO ry) hd dd.mapOf ?_;rw[<- (aa.val k).isSome_eq,<- l];exact h _ (I.tok _)
 ·subst ey
  cases (show u=Value.ref b from ry)
  obtain⟨z,hd,xs,aa,dd⟩:=nY I.hok e;refine wpAny_notIn_heap (JW hu) (j8 I.hok eb) hd dd ?_;have q:=(aa.val k).isSome_eq;rw[Option.isSome_map] at q;rw[<- q,<- l];exact h _ (I.tok _)
theorem uh(I:Inv X pins σ H s)(mu:Mut (H a))(hs:Heap.SameBut a s.heap h')(he:∃q,h'.get? a=some q)(new:bA X.prog X.w (G6 H a ob) h' a ob) :
  Inv X pins σ (G6 H a ob) { s with heap:=h',toks:=t' } :=
 I.write (x:=a) (e:=a) mu (.inl rfl) (λb q hb z=>(hs.2 b hb).trans z) he new
theorem za(z:kvs.length<=sizeLine)(hd:(a==sysModules)=false)(rel:KV kvs vs)(dd:h'.DictOf (a8 P w) a vs) :
  bA P w H' h' a (.dK kvs):=⟨z,hd,vs,rel,dd⟩
theorem vn(hu:A.units+1<cLine)(I:Inv X pins σ H s)(g:zK H a y v H')(ry:a5 y u)(rv:a5 v r)(h:∀s',Inv X pins σ H' s'->Q () s') :
  wpAny (model X.prog X.w) A (setItem (.ref a) u r) Q E s:=by
 rcases g with⟨kvs,k,e,ey,l,eH⟩ | ⟨kvs,k,b,e,ey,eb,l,eH⟩
 ·subst ey eH;obtain⟨z,hd,vs,aa,dd⟩:=Dn I.hok e;have hz:vs.length<=sizeLine:=by rw[<- aa.length];exact z
  have hl:(rC kvs k v).length<=sizeLine:=by have:=jm kvs k v;omega
  refine wpAny_setItem_pairs (hsz:=hz) (rO ry) dd λh' dd' hs=>h _ ?_;have he:∃q,h'.get? a=some q:=let ⟨q,_,_,hq,_⟩:=dd';⟨q,hq⟩;exact uh I (by rw[e];exact True.intro) hs he (za hl hd (aa.put k rv) dd')
 ·subst ey eH
  cases (show u=Value.ref b from ry)
  obtain⟨z,hd,xs,aa,dd⟩:=Gi I.hok e;have hz:xs.length<=sizeLine:=by rw[<- Paired.length aa];exact z
  have hl:(rC kvs k v).length<=sizeLine:=by have:=jm kvs k v;omega
  refine wpAny_setItem_heap (hsz:=hz) (JW hu) (j8 I.hok eb) dd λh' dd' hs=>h _ ?_;obtain⟨q,es,ep,hq,h2,h3,h4,_,h5⟩:=dd';refine uh I (by rw[e];exact True.intro) hs ⟨q,hq⟩ ⟨hl,hd,_,(aa.put k eb rv).keeps λc ys ec=>?_,q,es,ep,hq,h2,h3,h4,h5⟩;rw[aG (GR ec e (λz=>nomatch z))];exact ec
end
section
end
def NoSl(i:Expr):Prop:=∀ov iv,subscripted i false ov iv=operate [ov,iv] (getItem ov iv)
theorem Af{w:World}{E:Value->Shared->Prop}{id:String}{Q:Value->Shared->Prop}
  (hl:typeLookup (.type T) "__getitem__"=pure (some (.builtin id))) (hs:NoSl slice)
  (h:wpAny (model prog w) A (eval value env) (λo s₁=>wpAny (model prog w) A (eval slice env) (λi s₂=>s₂.TypeIs o T/\wpAny (model prog w) A (getItem o i) Q E s₂) E s₁) E s) :
  wpAny (model prog w) A (eval (.Subscript value slice pos) env) Q E s:=by
 refine Subscript_ (IU h (λo s₁ h₁=>IU h₁ (λi s₂ h₂=>?_) λ_ _ x=>x) λ_ _ x=>x);obtain⟨hT,h₂⟩:=h₂;unfold subscriptTail;refine Hw ?_;rw[getitemInPython_of_ne hT.not_modules];refine Hw (wpAny_specialOf hT hl ?_);have aa:wpAny (model prog w) A (subscripted slice false o i) (λr s₃=>wpAny (model prog w) A (letTemporaryGo value o r >>= λ_=>pure r) Q E s₃) E s₂:=by
  rw[hs o i];exact wpAny_operating (IU h₂ (λr s₃ h₃=>Hw (wpAny_letTemporaryGo (HI h₃))) λ_ _ x=>x)
 first
  | exact HI (Hw aa)
  | exact Hw (HI (Hw aa))
  | exact Hw aa
theorem pk(I:Inv X pins σ H s)(g:nk H a y o):s.TypeIs (.ref a) "dict":=by
 rcases g with⟨kvs,k,e,_,_⟩ | ⟨kvs,k,b,e,_,_,_⟩
 ·obtain⟨_,_,vs,_,dd⟩:=iT I.hok e;exact dd.typeIs
 ·obtain⟨_,_,xs,_,dd⟩:=nY I.hok e;exact dd.typeIs
def FD(td ty:TE):TE:=λσ H Q=>td σ H λx H1=>ty σ H1 λy H2=>∃a v,x=.ref a/\nk H2 a y (some v)/\Q v H2
def Gv(td ty tv:TE):TS:=λD σ H=>tv σ H λv H1=>td σ H1 λx H2=>ty σ H2 λy H3=>∃a H4,x=.ref a/\zK H3 a y v H4/\D.nx σ H4
section
theorem AW(hu:X.A.units+1<cLine)(ho:PE X o td)(hi:PE X i ty)(hs:NoSl i):PE X (.Subscript o i pos) (FD td ty):=by
 intro pins s σ H Q I h;refine Af PySem.F.slot_dict_getitem.lookup hs (Ha (ho pins s σ H _ I h) λu s1 ⟨x,H1,I1,rx,q1⟩=>Ha (hi pins s1 σ H1 _ I1 q1) λiv s2 ⟨y,H2,I2,ry,a,v,ex,g,q2⟩=>?_);subst ex;obtain rfl:u=Value.ref a:=rx;exact⟨pk I2 g,tf hu I2 g ry λw' s3 I3 rw'=>⟨v,H2,I3,rw',q2⟩⟩
theorem Bh(hu:X.A.units+1<cLine)(ho:PE X o td)(hi:PE X i ty)(hv:PE X value tv)(hs:swapsWith value (some (.Subscript o i pos')) pos.line X.env=pure false) :
  PS X (.Assign [.Subscript o i pos'] value pos) (Gv td ty tv):=by
 intro pins s σ H D I h;refine wpAny_Assign_Subscript (Ha (hv pins s σ H _ I h) λr s1 ⟨v,H1,I1,rv,q1⟩=>Ha (ho pins s1 σ H1 _ I1 q1) λu s2 ⟨x,H2,I2,rx,q2⟩=>Ha (hi pins s2 σ H2 _ I2 q2) λiv s3 ⟨y,H3,I3,ry,a,H4,ex,g,q3⟩=>?_) hs;subst ex;obtain rfl:u=Value.ref a:=rx;exact vn hu I3 g ry rv λs4 I4=>⟨σ,H4,I4,q3⟩
end
theorem yf(h:Heap)(hb:sysModules<h.objs.size):bA P w H (h.push { cls:=.type "dict",data:=.dict #[] }) h.objs.size (.dK []) :=
 ⟨Jp _,Ka.mpr (Jr (Iq hb)),[],.nil,Heap.DictOf.new h⟩
def D9:TE:=λ_ H Q=>∀p,H p=none->Q (.ref p) (G6 H p (.dK []))
section
theorem qQ:PE X (.Dict [] [] pos) D9:=λpins s σ H Q I h =>
 wpAny_Dict_empty ⟨.ref s.heap.objs.size,_,I.laid (a:=s.heap.objs.size) (o:=.dK []) (t':=s.toks) (λ_ _ q=>Hy _ q) (HD _) (yf s.heap I.big),rfl,h _ (I.hok.fresh (HD _))⟩
end
structure M2(X:Cx)(o:Expr)(m:Str)(apos:Pos)(e f:Expr)(cpos:Pos):Prop where
 base:attributeBase o m X.env (eval o X.env)=eval o X.env
 few:((backTo cpos (starEach [e,f] X.env)).all (λx=>!x.1)&&(backToKw cpos (keywordEach [] X.env)).all (λx=>x.1.isSome)
  && decide (([e,f]:List Expr).length+([]:List Keyword).length+(if ([]:List Keyword).isEmpty then 0 else 1)<30))=true
 line:(apos.endLine==cpos.line)=true
 trees:backTo cpos (starEach [e,f] X.env)=[(false,eval e X.env),(false,eval f X.env)]
def IsD(H:Hp)(a:Addr):Prop:=(∃kvs,Rd H a (.dK kvs))\/∃kvs,Rd H a (.dT kvs)
theorem E7(I:Inv X pins σ H s)(d:IsD H a) :
  s.TypeIs (.ref a) "dict"/\(∀b,Value.ref a=.ref b->∃ob,s.heap.get? b=some ob/\ob.dict=none)/\(a==sysModules)=false:=by
 rcases d with⟨kvs,e⟩ | ⟨kvs,e⟩
 ·obtain⟨_,hd,vs,_,dd⟩:=iT I.hok e;refine⟨dd.typeIs,λb q=>?_,hd⟩
  cases q
  obtain⟨ob,_,_,h1,h2,_⟩:=dd;exact⟨ob,h1,h2.2.1⟩
 ·obtain⟨_,hd,xs,_,dd⟩:=nY I.hok e;refine⟨dd.typeIs,λb q=>?_,hd⟩
  cases q
  obtain⟨ob,_,_,h1,h2,_⟩:=dd;exact⟨ob,h1,h2.2.1⟩
section
theorem Eo(hu:A.units+1<cLine)(I:Inv X pins σ H s)(g:nk H a y o)(ry:a5 y u)(rd:a5 d r)(h:∀w' s',Inv X pins σ H s'->a5 (o.getD d) w'->Q w' s') :
  wpAny (model X.prog X.w) A (call (.builtin "dict.get") [.ref a,u,r]) Q E s:=by
 rcases g with⟨kvs,k,e,ey,l⟩ | ⟨kvs,k,b,e,ey,eb,l⟩
 ·subst ey;obtain⟨z,hd,vs,aa,dd⟩:=iT I.hok e;refine call_meetsIn Kw dd.typeIs PySem.F.entry_dict_get (PySem.F.args_dict_get_3 _ _ _) (meets_dict_get_default (a8 X.prog X.w) a (rO ry) hd r) ⟨_,dd.mapOf,h _ _ (I.tok _) ?_⟩;rw[l];exact(aa.val k).getD rd
 ·subst ey
  cases (show u=Value.ref b from ry)
  obtain⟨z,hd,xs,aa,dd⟩:=nY I.hok e;refine call_meetsIn Kw dd.typeIs PySem.F.entry_dict_get (PySem.F.args_dict_get_3 _ _ _) (meetsH_dict_get_default (tupleKind (a8 X.prog X.w)) a b hd r) ⟨JW hu,k,xs,j8 I.hok eb,dd,h _ _ (I.tok _) ?_⟩;rw[l];exact(aa.val k).getD rd
end
def E4(td ty tx:TE):TE:=λσ H Q=>td σ H λx H1=>∃a,x=.ref a/\IsD H1 a/\ty σ H1 λy H2=>tx σ H2 λz H3=>∃o,nk H3 a y o/\Q (o.getD z) H3
section
theorem xn(hu:X.A.units+1<cLine)(ho:PE X o td)(he:PE X e ty)(hf:PE X f tx)(m:M2 X o "get" apos e f cpos):PE X (.Call (.Attribute o "get" apos) [e,f] [] cpos) (E4 td ty tx):=by
 intro pins s σ H Q I h;refine wpAny_Call_method m.base m.few m.line PySem.F.plainAttrs_dict Kw PySem.F.type_dict_get (Ha (ho pins s σ H _ I h) λu s1 ⟨x,H1,I1,rx,a,ex,d,q1⟩=>?_);subst ex;obtain rfl:u=Value.ref a:=rx;obtain⟨t1,t2,_⟩:=E7 I1 d;refine⟨t1,t2,?_⟩;rw[m.trees]
 refine JU rfl (KF (Calls.spliced_cons (Ha (he pins s1 σ H1 _ I1 q1) λiv s2 ⟨y,H2,I2,ry,q2⟩ =>
  Calls.spliced_cons (Ha (hf pins s2 σ H2 _ I2 q2) λfv s3 ⟨z,H3,I3,rz,ov,g,q3⟩=>Calls.spliced_nil ?_))))
 exact Eo hu I3 g ry rz λw' s4 I4 rw'=>⟨_,H3,I4,rw',q3⟩
end
section
end
section
end
end L2
namespace Att
open PySem PySem.W PySem.Calls PyProof.Rows
theorem iG:∀(ns:Ze) (vs:Zc),WellAll P h vs (ns.map WData.int)->IntsAre vs ns:=by
 intro ns
 induction ns with
 | nil =>
  intro vs w;rw[Kf] at w
  cases w
  exact .nil
 | cons n ns ih =>
  intro vs w;rw[Im] at w
  cases w with
  | cons a b =>
   cases a
   exact .cons _ _ (ih _ b)
theorem script_of{l:OpenLaw}(hn:l.most=some n){h:Heap}
  (hpre:l.row.toRowW.claim.pre args=true) (hwl:WellAll P h vals args) :
  ∃a vs ns,vals=[Value.ref a]/\args=[WData.list (ns.map WData.int)]/\h.get? a=some { cls:=.type "list",data:=.seq vs.toArray }/\IntsAre vs ns/\ns.length<=n:=by
 have ab:WShape.hasAll [] args [.list .int]=true:=(pre_splitW hpre).1
 have hc:l.pre.holds [] { args:=args }=true:=(pre_splitW hpre).2
 obtain⟨d,r,rfl,h1,h2⟩:=hasAllW_cons ab;obtain rfl:=hasAllW_nil h2;obtain⟨xs,rfl,h3⟩:=hasW_list h1;obtain⟨ns,rfl⟩:=items_int h3;have aa:ns.length<=n:=by
  unfold OpenLaw.pre at hc;have h4:(WTm.not (.lt (.lit (.int (n:Int))) (.len (.arg 0)))).holds [] { args:=[.list (ns.map .int)] }=true:=by
   have h4:=(holds_andW hc).1
   rw[hn] at h4;exact h4
  have h5:=condW_of h4 (w_not (w_lt w_lit (w_len_list (w_arg rfl))))
  rw[Hv] at h5;refine Nat.le_of_not_lt λq=>?_;have q':(n:Int)<((ns.length:Nat):Int):=by omega
  first
   | (rw[IF q'] at h5;exact absurd h5 (by decide))
   | (simp at h5;omega)
 cases hwl with
 | cons w1 w2 =>
  cases w2
  cases w1 with
  | list ho hall=>exact⟨_,_,ns,rfl,rfl,ho,iG ns _ hall,aa⟩
theorem post_true(l:OpenLaw)(args:List WData):l.row.toRowW.claim.post args (.bool true) args=true :=
 postW_of (r:=l.row.toRowW) (X:=(true==true))
  (show WShape.has [] (.bool true) .bool=true by first | rfl | decide | simp[WShape.has,WShape.arms,WShape.armsAll])
  (show (WTm.eq .res (.lit (.bool true))).value [] { args:=args,res:=some (.bool true),after:=args }=some (.bool (true==true)) from w_eq_bool (w_res rfl) w_lit) rfl
section
end
end Att
namespace L2
open PySem PySem.Spec PyProof.Rows
theorem mK:∀ {vs:Zc} {ns:Ze},IntsAre vs ns->bg (ns.map V.int) vs
 | _,_,.nil=>.nil
 | _,_,.cons n t h=>.cons ⟨t,rfl⟩ (mK h)
def Only(H:Hp):Prop:=∀b,H b=none\/∃o xs,H b=some (.frz o (.lst xs))
theorem xa{w:World}{K:Zf}{mg mb:Str->Zd}{a:Addr}{x:Str}{s₁:Shared}{vs:Zc}{ns:Ze}
  (KX:K.In s₁.heap) (hns:s₁.heap.Ns mainGlobals mg) (hb:s₁.heap.Ns builtinsNs mb) (hbb:∀x:Str,x≠"__name__"->mb x=bootBuiltins x) (hlim:s₁.heap.NoLimit) (hg:s₁.gens=#[])
  (ha:s₁.heap.get? a=some { cls:=.type "list",data:=.seq vs.toArray }) (hi:IntsAre vs ns) (hl:ns.length<=sizeLine) (hr:cI k callerA)
  (F:∀base:Heap,K.In base->base.Ns mainGlobals mg->f7 P w K mg base CX k fa fd [x] sp) (hbind:∀(s:Shared) (u:Value),BindsTo s fd ⟨[u],[]⟩ [(x,u)])
  (hsp:∀H:Hp,Only H->G4 K H a (ns.map V.int)->sp [.ref a] H (λv _=>v=.bl true) λ_ _ _=>False)
  (hCX:∀H e s',CX [] H s₁ (λ_ _ _=>False) e s'->False) :
  codeAny (model P w) callerA (.call (.ref fa) ⟨[.ref a],[]⟩) (λr s'=>r=.ok (.ret (.bool true))/\OldK s₁.heap s'.heap/\s'.os=s₁.os/\AllBare s'.gens) s₁:=by
 have rv:=mK hi
 have aj:=hi.length
 have ah:∀H:Hp,Only H->G4 K H a (ns.map V.int)->Hm P w H s₁.heap->(∀b,H b≠none->b=a)->(H a≠none->K.lookup a=none) ->
   codeAny (model P w) callerA (.call (.ref fa) ⟨[.ref a],[]⟩) (λr s'=>r=.ok (.ret (.bool true))/\OldK s₁.heap s'.heap/\s'.os=s₁.os/\AllBare s'.gens) s₁:=by
  intro H hO hS hok hA hK;have aa:∀ {b:Addr} {o:Obj},s₁.heap.get? b=some o->H b=none->(xK s₁.heap H).get? b=some o:=λe n=>wO e n;have ao:∀ {b:Addr} {o:Obj} {es:Array DictEntry} {ep:Nat},s₁.heap.get? b=some o->o.data=.dict es ep->H b=none:=λ{b o es ep} e d=>by
   cases q:H b with
   | none=>rfl
   | some u =>
    have e':b=a:=hA b (by rw[q];simp)
    subst e';rw[ha] at e;cases e;have d':Data.seq vs.toArray _=Data.dict es ep:=d
    cases d'
  have ab:∀ {b:Addr} {m:Str->Zd},s₁.heap.Ns b m->(xK s₁.heap H).Ns b m:=λ{b m} ⟨o,es,ep,e,d,r⟩=>⟨o,es,ep,aa e (ao e d),d,r⟩
  have ai:K.In (xK s₁.heap H):=λb o e=>aa (KX b o e) (by
   cases q:H b with
   | none=>rfl
   | some u =>
    have e':b=a:=hA b (by rw[q];simp)
    subst e'
    rw[hK (by rw[q];simp)] at e;cases e)
  have hM:Mod K mg (xK s₁.heap H):=⟨ai,ab hns,⟨mb,ab hb,hbb⟩,let ⟨mc,h1,h2⟩:=hlim;⟨mc,ab h1,h2⟩⟩
  have e0:BL P w K mg (xK s₁.heap H) callerA [] s₁ H:=⟨rfl,hM,λb o e=>B8 e,Nat.le_of_eq (uI _ _),trivial,λb hb=>absurd (show b∈([]:List Addr) from hb) (by simp),hok,.of_eq hg⟩
  refine KP ((F _ ai (ab hns)).run callerA [] s₁ H ⟨[.ref a],[]⟩ [.ref a] [.ref a] _ _ hr e0 (hbind s₁ (.ref a)) (.cons rfl .nil) (hsp H hO hS)) λr s' h=>?_
  cases r with
  | error e=>exact(hCX H e s' h).elim
  | ok fl =>
   cases fl with
   | next=>exact False.elim h
   | brk=>exact False.elim h
   | cont=>exact False.elim h
   | ret u =>
    obtain⟨v,H',os,an,un,al,r',q⟩:=h;have q':v=.bl true:=q;subst q';obtain rfl:u=Value.bool true:=r';refine⟨rfl,OldK.of_keep λb o e=>?_,os,an⟩
    cases q:H b with
    | none=>exact un.keep b o e q (by intro z;exact absurd (show b∈([]:List Addr) from z) (by simp)) (by simp)
    | some u =>
     rcases hO b with z | ⟨ob,xs,z⟩
     ·rw[q] at z;cases z
     ·have z2:=un.frzs b ob _ z
      obtain⟨e1,_⟩:=hok b _ z;obtain⟨e2,_⟩:=al b _ z2;rw[e] at e1;cases e1;exact e2
 cases hk:K.lookup a with
 | some o =>
  have e:=KX a o hk
  rw[ha] at e
  cases e
  refine ah (λ_=>none) (λ_=>.inl rfl) (.inr ⟨_,vs.toArray,_,hk,rfl,rfl,rfl,by rw[Ia,aj];exact hl,by simpa using rv⟩) (λb u z=>by have z':(none:Option HO)=some u:=z;cases z') (λb z=>absurd rfl z) λz=>absurd rfl z
 | none =>
  refine ah (λb=>if b=a then some (.frz { cls:=.type "list",data:=.seq vs.toArray } (.lst (ns.map V.int))) else none) (λb=>?_) (.inl (.inr ⟨{ cls:=.type "list",data:=.seq vs.toArray },HU rfl⟩)) (λb u z=>?_) (λb z=>?_) λ_=>hk
  ·by_cases hb:b=a
   ·exact .inr ⟨_,_,HU hb⟩
   ·exact .inl (HQ hb)
  ·by_cases hb:b=a
   ·have z':=(HU hb).symm.trans z
    cases z'
    subst hb;exact⟨ha,by rw[Hv];exact hl,vs,_,rv,ha⟩
   ·have z':=(HQ hb).symm.trans z
    cases z'
  ·by_cases hb:b=a
   ·exact hb
   ·exact absurd (HQ hb) z
end L2
namespace L2
open PySem PySem.Spec PyProof.Rows
abbrev CX0:CXT:=λ_ _ _ _ _ _=>False
abbrev E0:XK:=λ_ _ _=>False
theorem v6:rl CX0 X E0:=λ_ _ _ _ _ _ _ h=>h.elim
structure Fun(K:Zf)(x qual:Str)(st:Stmt)(f:Addr)(fd:FuncData):Prop where
 ex:∃(oc:Value) (od:Option Addr) (kV doc pm:Value) (an:Option Addr) (cdv ct:Value) (osl:Array (Zd)),
  fd=PySem.W.fnOf x qual (bM st) (aU st) (ak st) .none kV doc pm an cdv ct/\K.lookup f=some ⟨oc,od,.func fd,osl⟩/\PySem.W.codeIn K cdv qual=true
 kp:PySem.W.keepIn K (.ref f)=true
section
theorem Fun.ok{w:World}{K:Zf}{mg:Str->Zd}{st:Stmt}{ps:Zb}(F:Fun K x qual st f fd)(S:ax N ps (ak st))(len:∀vs H Q E,sp vs H Q E->vs.length=ps.length)
    (hbody:∀(cdv:Value) (A:Around) (outer:List Env) (s:Shared) (H:Hp) (vs:Zg) (Q:VK) (E:XK),cI k (A.deeper (envOfC qual (ak st) s.heap.objs.size f cdv))->sp vs H Q E ->
      ∃t,PSs (ni CX0 P w K mg base N qual (ak st) f cdv A outer s H E).nox (aU st) t/\t { nx:=λ_ H'=>Q .non H',rt:=Q } (start N vs) H):f7 P w K mg base CX0 (k+1) f fd ps sp:=by
  obtain⟨oc,od,kV,ab,pm,an,cdv,ct,ah,rfl,lk,aa⟩:=F.ex;refine Dx lk aa S len λA outer s H vs Q E hr hsp=>?_;obtain⟨t,h,q⟩:=hbody cdv A outer s H vs Q E hr hsp;exact⟨t,h.nox,q⟩
theorem Fun.binds{K:Zf}{st:Stmt}{ps:Zb}(F:Fun K x qual st f fd)
  (h:∀(kV doc pm:Value) (an:Option Addr) (cdv ct:Value) (us:Zc),us.length=ps.length->bindArgs (PySem.W.fnOf x qual (bM st) (aU st) (ak st) .none kV doc pm an cdv ct) ⟨us,[]⟩=pure (ps.zip us)):eU K fd ps []:=by
 obtain⟨oc,od,kV,doc,pm,an,cdv,ct,aa,rfl,lk,ab⟩:=F.ex;exact .all (h kV doc pm an cdv ct)
theorem yq{K:Zf}{st:Stmt}{kV:Value}(l:K.lookup f=some ⟨oc,od,.func (PySem.W.fnOf x qual (bM st) (aU st) (ak st) .none kV doc pm an cdv ct),osl⟩)
  (c:PySem.W.codeIn K cdv qual=true) (k:PySem.W.keepIn K (.ref f)=true):Fun K x qual st f (PySem.W.fnOf x qual (bM st) (aU st) (ak st) .none kV doc pm an cdv ct):=⟨⟨oc,od,kV,doc,pm,an,cdv,ct,osl,rfl,l,c⟩,k⟩
end
section
end
theorem cR{c A B:Prop}[Decidable c](h1:c->A)(h2:¬ c->B):if c then A else B:=by
 by_cases h:c
 ·rw[HU h];exact h1 h
 ·rw[HQ h];exact h2 h
def bE(H H':Hp):Prop:=∀b o,H b=some o->H' b=some o
theorem bE.refl(H:Hp):bE H H:=λ_ _ h=>h
theorem bE.trans(a:bE H H1)(b:bE H1 H2):bE H H2:=λc o h=>b c o (a c o h)
theorem bE.seq{K:Zf}{H H':Hp}(e:bE H H')(h:G4 K H a xs):G4 K H' a xs:=by
 rcases h with(h | ⟨o,h⟩) | h
 ·exact .inl (.inl (e _ _ h))
 ·exact .inl (.inr ⟨o,e _ _ h⟩)
 ·exact .inr h
section
variable {κ:Type} [DecidableEq κ]
end
end L2
namespace DL
open PySem L2
inductive D where
 | non | bl (b:Bool) | int (i:Int) | str (x:Str)
 | tup (xs:List D) | lst (xs:List D) | fz (xs:List D) | dct (ks:Zb) (vs:List D) | fd (ks:Zb) (vs:List D) | fo (o:Obj) (ks:Zb) (vs:List D) | exn (c f:Str) (x:D)
abbrev Zh:=D->Prop
abbrev Zi:=List D
mutual
def D.im:D->Bool
 | .tup xs=>D.ims xs
 | .lst _=>false
 | .fz xs=>D.ims xs
 | .dct _ _=>false
 | .fd _ xs=>D.ims xs
 | .fo _ _ xs=>D.ims xs
 | .exn _ _ _=>false
 | .non=>true
 | .bl _=>true
 | .int _=>true
 | .str _=>true
def D.ims:Zi->Bool
 | []=>true
 | x::r=>D.im x&&D.ims r
end
abbrev GZ(C:Addr)(dx:Option Addr)(a t:Value):Obj:={ cls:=.ref C,dict:=dx,data:=.fields #[a,t,.none,.none,.bool false,.none] }
def XAt(e C dx:Addr):HO:=.ext λh=>∃a t,h.get? e=some (GZ C (some dx) a t)
def tF(e C dx:Addr):HO:=.ext λh=>∃a,h.get? e=some (GZ C (some dx) a .none)
structure xQ(K:Zf)(M:Addr->Prop)(H:Hp)(c f:Str)(v y:V):Prop where
 ex:∃e C dx,v=.ref e/\¬ M e/\¬ M dx/\(H e=some (XAt e C dx)\/H e=some (tF e C dx))/\H dx=some (.xd [(f,y)])/\PySem.W.nsIn K mainGlobals c=some (some (.ref C))
def cc(ks:Zb)(vs:Zg):List (Hn×V):=(ks.map Sum.inr).zip vs
def H0:Hp:=λ_=>none
def Cj(K:Zf)(H:Hp)(a:Addr)(vs:Zg):Prop:=(∃o,H a=some (.frz o (.lst vs)))\/G4 K H0 a vs
mutual
def G3(K:Zf)(M:Addr->Prop)(H:Hp):D->V->Prop
 | .non,v=>v=.non
 | .bl b,v=>v=.bl b
 | .int i,v=>v=.int i
 | .str x,v=>v=.str x
 | .tup ds,v=>∃a vs,v=.ref a/\Ho K H a vs/\Reps K M H ds vs
 | .lst ds,v=>∃a vs,v=.ref a/\¬ M a/\H a=some (.lst vs)/\Reps K M H ds vs
 | .fz ds,v=>∃a vs,v=.ref a/\Cj K H a vs/\Reps K M H ds vs
 | .dct ks ds,v=>∃a vs,v=.ref a/\¬ M a/\H a=some (.dK (cc ks vs))/\ks.length=ds.length/\Reps K M H ds vs
 | .fd ks ds,v=>∃a vs o,v=.ref a/\H a=some (.frz o (.dK (cc ks vs)))/\ks.length=ds.length/\Reps K M H ds vs
 | .fo o ks ds,v=>∃a vs,v=.ref a/\H a=some (.frz o (.dK (cc ks vs)))/\ks.length=ds.length/\Reps K M H ds vs
 | .exn c f d,v=>∃y,xQ K M H c f v y/\G3 K M H d y
def Reps(K:Zf)(M:Addr->Prop)(H:Hp):Zi->Zg->Prop
 | [],vs=>vs=[]
 | d::ds,vs=>∃v r,vs=v::r/\G3 K M H d v/\Reps K M H ds r
end
structure Kp(M:Addr->Prop)(H H':Hp):Prop where
 un:∀b o,H b=some o->¬ M b->H' b=some o
 tu:∀b xs,H b=some (.tup xs)->H' b=some (.tup xs)
 fr:∀b o u,H b=some (.frz o u)->H' b=some (.frz o u)
theorem Kp.of_same(h:bE H H'):Kp M H H':=⟨λb o e _=>h b o e,λb xs e=>h b _ e,λb o u e=>h b _ e⟩
theorem Kp.refl:Kp M H H:=Kp.of_same (bE.refl H)
section
theorem Ho.kp(k:Kp M H H')(h:Ho K H a vs):Ho K H' a vs:=by
 rcases h with(h | ⟨o,h⟩) | h
 ·exact .inl (.inl (k.tu _ _ h))
 ·exact .inl (.inr ⟨o,k.fr _ _ _ h⟩)
 ·exact .inr h
theorem Cj.kp(k:Kp M H H')(h:Cj K H a vs):Cj K H' a vs:=by
 rcases h with⟨o,h⟩ | h
 ·exact .inl ⟨o,k.fr _ _ _ h⟩
 ·exact .inr h
theorem Cj.seq(h:Cj K H a vs):G4 K H a vs:=by
 rcases h with⟨o,h⟩ | (h | ⟨o,h⟩) | h
 ·exact .inl (.inr ⟨o,h⟩)
 ·cases h
 ·cases h
 ·exact .inr h
theorem xQ.kp(k:Kp M H H')(h:xQ K M H c f v y):xQ K M H' c f v y:=by
 obtain⟨e,C,dx,rfl,n1,n2,h1,h2,h3⟩:=h.ex;exact⟨⟨e,C,dx,rfl,n1,n2,h1.imp (λz=>k.un _ _ z n1) (λz=>k.un _ _ z n1),k.un _ _ h2 n2,h3⟩⟩
theorem xQ.more(hM:∀b,M' b->M b\/H b=none)(h:xQ K M H c f v y):xQ K M' H c f v y:=by
 obtain⟨e,C,dx,rfl,n1,n2,h1,h2,h3⟩:=h.ex;refine⟨⟨e,C,dx,rfl,λz=>(hM _ z).elim n1 λq=>?_,λz=>(hM _ z).elim n2 (λq=>by rw[h2] at q;cases q),h1,h2,h3⟩⟩
 rcases h1 with h1 | h1<;>(rw[h1] at q;cases q)
mutual
theorem G3.kp(k:Kp M H H'):∀(d:D) (v:V),G3 K M H d v->G3 K M H' d v
 | .non,v,h=>by unfold G3 at h ⊢;exact h
 | .bl b,v,h=>by unfold G3 at h ⊢;exact h
 | .int i,v,h=>by unfold G3 at h ⊢;exact h
 | .str x,v,h=>by unfold G3 at h ⊢;exact h
 | .tup ds,v,h=>by
  unfold G3 at h ⊢;obtain⟨a,vs,e,q,r⟩:=h;exact⟨a,vs,e,Ho.kp k q,Reps.kp k ds vs r⟩
 | .lst ds,v,h=>by
  unfold G3 at h ⊢;obtain⟨a,vs,e,n,q,r⟩:=h;exact⟨a,vs,e,n,k.un _ _ q n,Reps.kp k ds vs r⟩
 | .fz ds,v,h=>by
  unfold G3 at h ⊢;obtain⟨a,vs,e,q,r⟩:=h;exact⟨a,vs,e,q.kp k,Reps.kp k ds vs r⟩
 | .dct ks ds,v,h=>by
  unfold G3 at h ⊢;obtain⟨a,vs,e,n,q,l,r⟩:=h;exact⟨a,vs,e,n,k.un _ _ q n,l,Reps.kp k ds vs r⟩
 | .fd ks ds,v,h=>by
  unfold G3 at h ⊢;obtain⟨a,vs,o,e,q,l,r⟩:=h;exact⟨a,vs,o,e,k.fr _ _ _ q,l,Reps.kp k ds vs r⟩
 | .fo o ks ds,v,h=>by
  unfold G3 at h ⊢;obtain⟨a,vs,e,q,l,r⟩:=h;exact⟨a,vs,e,k.fr _ _ _ q,l,Reps.kp k ds vs r⟩
 | .exn c f d,v,h=>by
  unfold G3 at h ⊢;obtain⟨y,q,r⟩:=h;exact⟨y,q.kp k,G3.kp k d y r⟩
theorem Reps.kp(k:Kp M H H'):∀(ds:Zi) (vs:Zg),Reps K M H ds vs->Reps K M H' ds vs
 | [],vs,h=>by unfold Reps at h ⊢;exact h
 | d::ds,vs,h=>by
  unfold Reps at h ⊢;obtain⟨v,r,e,q,s⟩:=h;exact⟨v,r,e,G3.kp k d v q,Reps.kp k ds r s⟩
end
mutual
theorem G3.more(hM:∀b,M' b->M b\/H b=none):∀(d:D) (v:V),G3 K M H d v->G3 K M' H d v
 | .non,v,h=>by unfold G3 at h ⊢;exact h
 | .bl b,v,h=>by unfold G3 at h ⊢;exact h
 | .int i,v,h=>by unfold G3 at h ⊢;exact h
 | .str x,v,h=>by unfold G3 at h ⊢;exact h
 | .tup ds,v,h=>by
  unfold G3 at h ⊢;obtain⟨a,vs,e,q,r⟩:=h;exact⟨a,vs,e,q,Reps.more hM ds vs r⟩
 | .lst ds,v,h=>by
  unfold G3 at h ⊢;obtain⟨a,vs,e,n,q,r⟩:=h;exact⟨a,vs,e,λz=>(hM _ z).elim n (λe=>by rw[q] at e;cases e),q,Reps.more hM ds vs r⟩
 | .fz ds,v,h=>by
  unfold G3 at h ⊢;obtain⟨a,vs,e,q,r⟩:=h;exact⟨a,vs,e,q,Reps.more hM ds vs r⟩
 | .dct ks ds,v,h=>by
  unfold G3 at h ⊢;obtain⟨a,vs,e,n,q,l,r⟩:=h;exact⟨a,vs,e,λz=>(hM _ z).elim n (λe=>by rw[q] at e;cases e),q,l,Reps.more hM ds vs r⟩
 | .fd ks ds,v,h=>by
  unfold G3 at h ⊢;obtain⟨a,vs,o,e,q,l,r⟩:=h;exact⟨a,vs,o,e,q,l,Reps.more hM ds vs r⟩
 | .fo o ks ds,v,h=>by
  unfold G3 at h ⊢;obtain⟨a,vs,e,q,l,r⟩:=h;exact⟨a,vs,e,q,l,Reps.more hM ds vs r⟩
 | .exn c f d,v,h=>by
  unfold G3 at h ⊢;obtain⟨y,q,r⟩:=h;exact⟨y,q.more hM,G3.more hM d y r⟩
theorem Reps.more(hM:∀b,M' b->M b\/H b=none):∀(ds:Zi) (vs:Zg),Reps K M H ds vs->Reps K M' H ds vs
 | [],vs,h=>by unfold Reps at h ⊢;exact h
 | d::ds,vs,h=>by
  unfold Reps at h ⊢;obtain⟨v,r,e,q,s⟩:=h;exact⟨v,r,e,G3.more hM d v q,Reps.more hM ds r s⟩
end
mutual
theorem G3.im:∀(d:D) (v:V),d.im=true->G3 K M H d v->G3 K M' H d v
 | .non,v,_,h=>by unfold G3 at h ⊢;exact h
 | .bl b,v,_,h=>by unfold G3 at h ⊢;exact h
 | .int i,v,_,h=>by unfold G3 at h ⊢;exact h
 | .str x,v,_,h=>by unfold G3 at h ⊢;exact h
 | .tup ds,v,i,h=>by
  unfold G3 at h ⊢;obtain⟨a,vs,e,q,r⟩:=h;unfold D.im at i;exact⟨a,vs,e,q,Reps.im ds vs i r⟩
 | .lst ds,v,i,h=>by unfold D.im at i;cases i
 | .fz ds,v,i,h=>by
  unfold G3 at h ⊢;obtain⟨a,vs,e,q,r⟩:=h;unfold D.im at i;exact⟨a,vs,e,q,Reps.im ds vs i r⟩
 | .dct ks ds,v,i,h=>by unfold D.im at i;cases i
 | .fd ks ds,v,i,h=>by
  unfold G3 at h ⊢;obtain⟨a,vs,o,e,q,l,r⟩:=h;unfold D.im at i;exact⟨a,vs,o,e,q,l,Reps.im ds vs i r⟩
 | .fo o ks ds,v,i,h=>by
  unfold G3 at h ⊢;obtain⟨a,vs,e,q,l,r⟩:=h;unfold D.im at i;exact⟨a,vs,e,q,l,Reps.im ds vs i r⟩
 | .exn c f d,v,i,h=>by unfold D.im at i;cases i
theorem Reps.im:∀(ds:Zi) (vs:Zg),D.ims ds=true->Reps K M H ds vs->Reps K M' H ds vs
 | [],vs,_,h=>by unfold Reps at h ⊢;exact h
 | d::ds,vs,i,h=>by
  unfold Reps at h ⊢;obtain⟨v,r,e,q,s⟩:=h;unfold D.ims at i;obtain⟨i1,i2⟩:=Iu.mp i;exact⟨v,r,e,G3.im d v i1 q,Reps.im ds r i2 s⟩
end
theorem Reps.length:∀(ds:Zi) (vs:Zg),Reps K M H ds vs->ds.length=vs.length
 | [],vs,h=>by unfold Reps at h;subst h;rfl
 | d::ds,vs,h=>by
  unfold Reps at h;obtain⟨v,r,rfl,q,s⟩:=h;rw[HJ,HJ,Reps.length ds r s]
theorem Reps.get:∀(ds:Zi) (vs:Zg),Reps K M H ds vs->∀(i:Nat) (d:D),ds[i]?=some d->∃v,vs[i]?=some v/\G3 K M H d v
 | [],vs,h,i,d,e=>by simp at e
 | d::ds,vs,h,i,d',e=>by
  unfold Reps at h;obtain⟨v,r,rfl,q,s⟩:=h
  cases i with
  | zero=>simp at e;subst e;exact⟨v,rfl,q⟩
  | succ i=>exact Reps.get ds r s i d' (by simpa using e)
theorem Reps.of:∀(ds:Zi) (vs:Zg),ds.length=vs.length->(∀(i:Nat) d v,ds[i]?=some d->vs[i]?=some v->G3 K M H d v)->Reps K M H ds vs
 | [],vs,l,_=>by unfold Reps;exact JO.mp l.symm
 | d::ds,[],l,_=>by cases l
 | d::ds,v::vs,l,h=>by
  unfold Reps;exact⟨v,vs,rfl,h 0 d v rfl rfl,Reps.of ds vs (J0 l) λi d' v' e e'=>h (i+1) d' v' (by simpa using e) (by simpa using e')⟩
theorem Reps.append:∀(ds es:Zi) (vs ws:Zg),Reps K M H ds vs->Reps K M H es ws->Reps K M H (ds++es) (vs++ws)
 | [],es,vs,ws,h,k=>by unfold Reps at h;subst h;exact k
 | d::ds,es,vs,ws,h,k=>by
  unfold Reps at h;obtain⟨v,r,rfl,q,s⟩:=h;show Reps K M H (d::(ds++es)) (v::(r++ws));unfold Reps;exact⟨v,r++ws,rfl,q,Reps.append ds es r ws s k⟩
theorem Reps.one(h:G3 K M H d v):Reps K M H [d] [v]:=by
 unfold Reps;exact⟨v,[],rfl,h,by unfold Reps;rfl⟩
theorem Reps.nil:Reps K M H [] []:=by unfold Reps;rfl
theorem Reps.cons{K:Zf}{M:Addr->Prop}{H:Hp}{d:D}{v:V}{ds:Zi}{vs:Zg}(h:G3 K M H d v)(r:Reps K M H ds vs):Reps K M H (d::ds) (v::vs):=by
 unfold Reps;exact⟨v,vs,rfl,h,r⟩
theorem Reps.take:∀(n:Nat) (ds:Zi) (vs:Zg),Reps K M H ds vs->Reps K M H (ds.take n) (vs.take n)
 | 0,ds,vs,h=>by simpa using Reps.nil
 | n+1,[],vs,h=>by unfold Reps at h;subst h;simpa using Reps.nil
 | n+1,d::ds,vs,h=>by
  unfold Reps at h;obtain⟨v,r,rfl,q,s⟩:=h;exact Reps.cons q (Reps.take n ds r s)
theorem Reps.drop:∀(n:Nat) (ds:Zi) (vs:Zg),Reps K M H ds vs->Reps K M H (ds.drop n) (vs.drop n)
 | 0,ds,vs,h=>h
 | n+1,[],vs,h=>by unfold Reps at h;subst h;simpa using Reps.nil
 | n+1,d::ds,vs,h=>by
  unfold Reps at h;obtain⟨v,r,rfl,q,s⟩:=h;exact Reps.drop n ds r s
theorem Reps.set(h:G3 K M H d v):∀(i:Nat) (ds:Zi) (vs:Zg),Reps K M H ds vs->Reps K M H (ds.set i d) (vs.set i v)
 | _,[],vs,r=>by unfold Reps at r;subst r;exact Reps.nil
 | 0,x::ds,vs,r=>by
  unfold Reps at r;obtain⟨w,r,rfl,q,s⟩:=r;exact Reps.cons h s
 | i+1,x::ds,vs,r=>by
  unfold Reps at r;obtain⟨w,r,rfl,q,s⟩:=r;exact Reps.cons q (Reps.set h i ds r s)
theorem Reps.ints(ns:Ze):Reps K M H (ns.map D.int) (ns.map V.int):=by
 induction ns with
 | nil=>exact Reps.nil
 | cons n r ih=>exact Reps.cons (by unfold G3;rfl) ih
end
inductive Sl where
 | no | dat (d:D) | own (a:Addr) (d:D)
structure Gf where
 M0:Addr->Prop
 H0:Hp
 Pm:Addr->Prop
def bx(K:Zf)(M:Addr->Prop)(H:Hp)(a:Addr):D->Prop
 | .lst ds=>∃vs,H a=some (.lst vs)/\Reps K M H ds vs
 | .dct ks ds=>∃vs,H a=some (.dK (cc ks vs))/\ks.length=ds.length/\Reps K M H ds vs
 | _=>False
structure Sx(K:Zf)(G:Gf)(A:Addr->Prop)(δ:List Sl)(P:List (D×V))(σ:St)(H:Hp):Prop where
 old:∀b o,G.H0 b=some o->¬ G.Pm b->H b=some o
 stay:∀b,G.H0 b≠none->H b≠none
 m0:∀b,G.M0 b->G.H0 b≠none
 pm:∀b,G.Pm b->G.H0 b≠none/\¬ G.M0 b
 new:∀b,A b->G.H0 b=none\/G.Pm b
 thr:∀b,A b->H b≠none
 len:δ.length=σ.length
 dat:∀(i:Nat) d,δ[i]?=some (.dat d)->∃v,σ[i]?=some (some v)/\G3 K (λb=>G.M0 b\/A b) H d v
 own:∀(i:Nat) a d,δ[i]?=some (.own a d)->σ[i]?=some (some (.ref a))/\A a/\bx K (λb=>G.M0 b\/A b) H a d
 inj:∀(i j:Nat) a d e,δ[i]?=some (.own a d)->δ[j]?=some (.own a e)->i=j
 pnd:∀p∈P,G3 K (λb=>G.M0 b\/A b) H p.1 p.2
def S(K:Zf)(G:Gf)(δ:List Sl)(P:List (D×V))(σ:St)(H:Hp):Prop:=∃A,Sx K G A δ P σ H
inductive aT(K:Zf)(f:Zi->(D->Prop)->Prop)(vs:Zg)(H:Hp)(Q:VK):Prop
 | mk (M:Addr->Prop) (ds:Zi) (R:D->Prop) (m:∀b,M b->H b≠none) (rs:Reps K M H ds vs) (h:f ds R) (k:∀d,R d->∀v H',bE H H'->G3 K M H' d v->Q v H')
section
theorem bx.kp(k:Kp M H H')(e:H' a=H a)(h:bx K M H a d):bx K M H' a d:=by
 cases d with
 | lst ds =>
  obtain⟨vs,q,r⟩:=h;exact⟨vs,e.trans q,Reps.kp k _ _ r⟩
 | dct ks ds =>
  obtain⟨vs,q,l,r⟩:=h;exact⟨vs,e.trans q,l,Reps.kp k _ _ r⟩
 | _=>exact h.elim
theorem bx.more(hM:∀b,M' b->M b\/H b=none)(h:bx K M H a d):bx K M' H a d:=by
 cases d with
 | lst ds =>
  obtain⟨vs,q,r⟩:=h;exact⟨vs,q,Reps.more hM _ _ r⟩
 | dct ks ds =>
  obtain⟨vs,q,l,r⟩:=h;exact⟨vs,q,l,Reps.more hM _ _ r⟩
 | _=>exact h.elim
theorem Sx.sub(s:Sx K G A δ P σ H)(h:∀p∈P',p∈P):Sx K G A δ P' σ H :=
 ⟨s.old,s.stay,s.m0,s.pm,s.new,s.thr,s.len,s.dat,s.own,s.inj,λp hp=>s.pnd p (h p hp)⟩
theorem S.sub(s:S K G δ P σ H)(h:∀p∈P',p∈P):S K G δ P' σ H:=let ⟨A,x⟩:=s;⟨A,x.sub h⟩
theorem Sx.same(s:Sx K G A δ P σ H)(h:bE H H'):Sx K G A δ P σ H' where
 old:=λb o e n=>h b o (s.old b o e n)
 stay:=λb e=>by
  cases q:H b with
  | none=>exact absurd q (s.stay b e)
  | some o=>rw[h b o q];exact λz=>nomatch z
 m0:=s.m0
 pm:=s.pm
 new:=s.new
 thr:=λb e=>by
  cases q:H b with
  | none=>exact absurd q (s.thr b e)
  | some o=>rw[h b o q];exact λz=>nomatch z
 len:=s.len
 dat:=λi d e=>let ⟨v,q,r⟩:=s.dat i d e;⟨v,q,G3.kp (Kp.of_same h) _ _ r⟩
 own:=λi a d e=>by
  obtain⟨q,a1,o⟩:=s.own i a d e;refine⟨q,a1,bx.kp (Kp.of_same h) ?_ o⟩
  cases z:H a with
  | none=>exact absurd z (s.thr a a1)
  | some o=>exact h a o z
 inj:=s.inj
 pnd:=λp hp=>G3.kp (Kp.of_same h) _ _ (s.pnd p hp)
theorem Sx.push(s:Sx K G A δ P σ H)(h:G3 K (λb=>G.M0 b\/A b) H d v):Sx K G A δ ((d,v)::P) σ H :=
 ⟨s.old,s.stay,s.m0,s.pm,s.new,s.thr,s.len,s.dat,s.own,s.inj,λp hp=>by
  rcases HK.mp hp with rfl | hp
  ·exact h
  ·exact s.pnd p hp⟩
theorem Sx.mem(s:Sx K G A δ P σ H):∀b,(G.M0 b\/A b)->H b≠none:=λb h=>h.elim (λz=>s.stay b (s.m0 b z)) λz=>s.thr b z
theorem Sx.reps(s:Sx K G A δ P σ H):∀(ds:Zi) (vs:Zg),ds.length=vs.length->(∀p∈ds.zip vs,p∈P)->Reps K (λb=>G.M0 b\/A b) H ds vs
 | [],[],_,_=>Reps.nil
 | d::ds,v::vs,l,h=>Reps.cons (s.pnd (d,v) (h _ (HB ..))) (Sx.reps s ds vs (J0 l) λp hp=>h p (Hx _ hp))
theorem S.pure(s:S K G δ P σ H)(hl:ds.length=vs.length)(hp:∀p∈ds.zip vs,p∈P)(hs:∀p∈P',p∈P)(hf:f ds R)
  (h:∀d,R d->∀v H',S K G δ ((d,v)::P') σ H'->Q v H'):aT K f vs H Q:=by
 obtain⟨A,x⟩:=s;refine⟨λb=>G.M0 b\/A b,ds,R,x.mem,x.reps ds vs hl hp,hf,λd r v H' sm rp=>h d r v H' ⟨A,?_⟩⟩;exact((x.same sm).sub hs).push rp
theorem Sx.set(s:Sx K G A δ P σ H)(hp:(d,v)∈P)(hs:∀p∈P',p∈P):Sx K G A (δ.set i (.dat d)) P' (σ.set i (some v)) H where
 old:=s.old
 stay:=s.stay
 m0:=s.m0
 pm:=s.pm
 new:=s.new
 thr:=s.thr
 len:=by rw[IS,IS,s.len]
 dat:=λj d' e=>by
  by_cases hij:i=j
  ·subst hij
   by_cases hl:i<δ.length
   ·rw[Il hl] at e
    cases e
    exact⟨v,by rw[Il (by rw[<- s.len];exact hl)],s.pnd _ hp⟩
   ·rw[IT (by rw[IS];omega)] at e
    cases e
  ·rw[Io hij] at e;obtain⟨v',q,r⟩:=s.dat j d' e;exact⟨v',by rw[Io hij];exact q,r⟩
 own:=λj a d' e=>by
  by_cases hij:i=j
  ·subst hij
   by_cases hl:i<δ.length
   ·rw[Il hl] at e
    cases e
   ·rw[IT (by rw[IS];omega)] at e
    cases e
  ·rw[Io hij] at e;obtain⟨q,r⟩:=s.own j a d' e;exact⟨by rw[Io hij];exact q,r⟩
 inj:=λj k a d' e' h1 h2=>by
  have hj:δ[j]?=some (.own a d'):=by
   by_cases hij:i=j
   ·subst hij
    by_cases hl:i<δ.length
    ·rw[Il hl] at h1;cases h1
    ·rw[IT (by rw[IS];omega)] at h1;cases h1
   ·rw[Io hij] at h1;exact h1
  have hk:δ[k]?=some (.own a e'):=by
   by_cases hij:i=k
   ·subst hij
    by_cases hl:i<δ.length
    ·rw[Il hl] at h2;cases h2
    ·rw[IT (by rw[IS];omega)] at h2;cases h2
   ·rw[Io hij] at h2;exact h2
  exact s.inj j k a d' e' hj hk
 pnd:=λp h=>s.pnd p (hs p h)
theorem S.set(s:S K G δ P σ H)(hp:(d,v)∈P)(hs:∀p∈P',p∈P):S K G (δ.set i (.dat d)) P' (σ.set i (some v)) H:=let ⟨A,x⟩:=s;⟨A,x.set hp hs⟩
end
section
theorem a9{α:Type}{l:List α}{i j:Nat}{x y:α}(h:(l.set i x)[j]?=some y):(i=j/\x=y/\i<l.length)\/(i≠j/\l[j]?=some y):=by
 by_cases e:i=j
 ·subst e
  by_cases hl:i<l.length
  ·rw[Il hl] at h;exact .inl ⟨rfl,HR h,hl⟩
  ·rw[IT (by rw[IS];omega)] at h
   cases h
 ·rw[Io e] at h;exact .inr ⟨e,h⟩
theorem Sx.claim(s:Sx K G A δ P σ H)(hn:H a=none)(hs:bE H H')(ho:bx K (λb=>(G.M0 b\/A b)\/b=a) H' a d)(hP:∀p∈P',p∈P) :
  Sx K G (λb=>A b\/b=a) (δ.set i (.own a d)) P' (σ.set i (some (.ref a))) H':=by
 have x:=s.same hs
 have hM:∀b,(G.M0 b\/(A b\/b=a))->(G.M0 b\/A b)\/H b=none:=λb h=>by
  rcases h with h | h | h
  ·exact .inl (.inl h)
  ·exact .inl (.inr h)
  ·subst h;exact .inr hn
 have ah:∀b,(G.M0 b\/(A b\/b=a))->((G.M0 b\/A b)\/b=a)\/H' b=none:=λb h=>by
  rcases h with h | h | h
  ·exact .inl (.inl (.inl h))
  ·exact .inl (.inl (.inr h))
  ·exact .inl (.inr h)
 have up:∀d v,G3 K (λb=>G.M0 b\/A b) H d v->G3 K (λb=>G.M0 b\/(A b\/b=a)) H' d v:=λd v r=>G3.kp (Kp.of_same hs) _ _ (G3.more hM _ _ r)
 have na:∀b,A b->b≠a:=λb h e=>s.thr b h (by rw[e];exact hn)
 have h0:G.H0 a=none:=by
  cases q:G.H0 a with
  | none=>rfl
  | some o=>exact absurd hn (s.stay a (by rw[q];exact λz=>nomatch z))
 have ai:H' a≠none:=by
  cases d with
  | lst ds=>obtain⟨vs,q,_⟩:=ho;rw[q];exact λz=>nomatch z
  | dct ks ds=>obtain⟨vs,q,_⟩:=ho;rw[q];exact λz=>nomatch z
  | _=>exact ho.elim
 refine⟨x.old,x.stay,x.m0,x.pm,λb h=>h.elim (s.new b) λe=>.inl (by rw[e];exact h0),λb h=>h.elim (x.thr b) λe=>by rw[e];exact ai,by rw[IS,IS,s.len],λj d' e=>?_,λj b d' e=>?_,
  λj k b d' e' h1 h2=>?_,λp hp=>up _ _ (s.pnd p (hP p hp))⟩
 ·rcases a9 e with⟨_,z,_⟩ | ⟨aa,e⟩
  ·cases z
  ·obtain⟨v,q,r⟩:=s.dat j d' e;exact⟨v,by rw[Io aa];exact q,up _ _ r⟩
 ·rcases a9 e with⟨aa,z,hl⟩ | ⟨aa,e⟩
  ·cases z
   subst aa;exact⟨by rw[Il (by rw[<- s.len];exact hl)],.inr rfl,bx.more ah ho⟩
  ·obtain⟨q,r,o⟩:=s.own j b d' e;refine⟨by rw[Io aa];exact q,.inl r,bx.kp (Kp.of_same hs) ?_ (bx.more hM o)⟩
   cases z:H b with
   | none=>exact absurd z (s.thr b r)
   | some o'=>exact hs b o' z
 ·rcases a9 h1 with⟨aa,z,hl⟩ | ⟨aa,e⟩
  ·cases z
   rcases a9 h2 with⟨ab,_,_⟩ | ⟨ab,e2⟩
   ·rw[<- aa,<- ab]
   ·exact absurd rfl (na _ (s.own k _ _ e2).2.1)
  ·rcases a9 h2 with⟨ab,z,_⟩ | ⟨ab,e2⟩
   ·cases z
    exact absurd rfl (na _ (s.own j _ _ e).2.1)
   ·exact s.inj j k b d' e' e e2
theorem Sx.change(s:Sx K G A δ P σ H)(hi:δ[i]?=some (.own a d))(hk:∀b o,b≠a->H b=some o->H' b=some o)(ho:bx K (λb=>G.M0 b\/A b) H' a d') :
  Sx K G A (δ.set i (.own a d')) P σ H':=by
 obtain⟨si,ai,oi⟩:=s.own i a d hi;have ab:(∀xs,H a≠some (.tup xs))/\∀o u,H a≠some (.frz o u):=by
  cases d with
  | lst ds=>obtain⟨vs,q,_⟩:=oi;rw[q];exact⟨λ_ z=>(nomatch z),λ_ _ z=>(nomatch z)⟩
  | dct ks ds=>obtain⟨vs,q,_⟩:=oi;rw[q];exact⟨λ_ z=>(nomatch z),λ_ _ z=>(nomatch z)⟩
  | _=>exact oi.elim
 have aj:H' a≠none:=by
  cases d' with
  | lst ds=>obtain⟨vs,q,_⟩:=ho;rw[q];exact λz=>nomatch z
  | dct ks ds=>obtain⟨vs,q,_⟩:=ho;rw[q];exact λz=>nomatch z
  | _=>exact ho.elim
 have kp:Kp (λb=>G.M0 b\/A b) H H':=⟨λb o e n=>hk b o (λz=>n (.inr (by rw[z];exact ai))) e,λb xs e=>hk b _ (λz=>ab.1 xs (by rw[<- z];exact e)) e,
  λb o u e=>hk b _ (λz=>ab.2 o u (by rw[<- z];exact e)) e⟩
 have stay:∀b,H b≠none->H' b≠none:=λb e=>by
  by_cases z:b=a
  ·rw[z];exact aj
  ·cases q:H b with
   | none=>exact absurd q e
   | some o=>rw[hk b o z q];exact λz=>nomatch z
 have na:∀b o,G.H0 b=some o->¬ G.Pm b->b≠a:=λb o e n z=>(s.new a ai).elim (λq=>by rw[z] at e;rw[e] at q;cases q) λq=>n (by rw[z];exact q)
 refine⟨λb o e n=>hk b o (na b o e n) (s.old b o e n),λb e=>stay b (s.stay b e),s.m0,s.pm,s.new,λb e=>stay b (s.thr b e),by rw[IS,s.len],λj x e=>?_,λj b x e=>?_,λj k b x y h1 h2=>?_,
  λp hp=>G3.kp kp _ _ (s.pnd p hp)⟩
 ·rcases a9 e with⟨_,z,_⟩ | ⟨aa,e⟩
  ·cases z
  ·obtain⟨v,q,r⟩:=s.dat j x e;exact⟨v,q,G3.kp kp _ _ r⟩
 ·rcases a9 e with⟨aa,z,hl⟩ | ⟨aa,e9⟩
  ·cases z
   subst aa;exact⟨si,ai,ho⟩
  ·clear e;obtain⟨q,r,o⟩:=s.own j b x e9;have hb:b≠a:=λz=>by rw[z] at e9;exact aa (s.inj _ _ _ _ _ hi e9)
   refine⟨q,r,bx.kp kp ?_ o⟩
   cases z:H b with
   | none=>exact absurd z (s.thr b r)
   | some o'=>exact hk b o' hb z
 ·have hj:∃x',δ[j]?=some (.own b x'):=by
   rcases a9 h1 with⟨aa,z,hl⟩ | ⟨aa,e⟩
   ·cases z;subst aa;exact⟨_,hi⟩
   ·exact⟨_,e⟩
  have ah:∃x',δ[k]?=some (.own b x'):=by
   rcases a9 h2 with⟨aa,z,hl⟩ | ⟨aa,e⟩
   ·cases z;subst aa;exact⟨_,hi⟩
   ·exact⟨_,e⟩
  obtain⟨x1,e1⟩:=hj;obtain⟨x2,e2⟩:=ah;exact s.inj j k b x1 x2 e1 e2
theorem bx.rep(h:bx K M H a d)(n:¬ M' a)(hM:∀b,M' b->M b):G3 K M' H d (.ref a):=by
 cases d with
 | lst ds =>
  obtain⟨vs,q,r⟩:=h;unfold G3;exact⟨a,vs,rfl,n,q,Reps.more (λb z=>.inl (hM b z)) _ _ r⟩
 | dct ks ds =>
  obtain⟨vs,q,l,r⟩:=h;unfold G3;exact⟨a,vs,rfl,n,q,l,Reps.more (λb z=>.inl (hM b z)) _ _ r⟩
 | _=>exact h.elim
theorem Sx.freeze(s:Sx K G A δ P σ H)(hi:δ[i]?=some (.own a d))(hp:¬ G.M0 a):Sx K G (λb=>A b/\b≠a) (δ.set i (.dat d)) P σ H:=by
 obtain⟨si,ai,oi⟩:=s.own i a d hi;have hM:∀b,(G.M0 b\/(A b/\b≠a))->(G.M0 b\/A b):=λb h=>h.elim .inl λz=>.inr z.1;have dn:∀d v,G3 K (λb=>G.M0 b\/A b) H d v->G3 K (λb=>G.M0 b\/(A b/\b≠a)) H d v:=λd v r=>G3.more (λb z=>.inl (hM b z)) _ _ r;refine⟨s.old,s.stay,s.m0,s.pm,λb h=>s.new b h.1,λb h=>s.thr b h.1,by rw[IS,s.len],λj x e=>?_,λj b x e=>?_,λj k b x y h1 h2=>?_,λp hp=>dn _ _ (s.pnd p hp)⟩
 ·rcases a9 e with⟨aa,z,_⟩ | ⟨aa,e⟩
  ·cases z;subst aa
   exact⟨.ref a,si,oi.rep (λz=>z.elim hp λq=>q.2 rfl) hM⟩
  ·obtain⟨v,q,r⟩:=s.dat j x e;exact⟨v,q,dn _ _ r⟩
 ·rcases a9 e with⟨_,z,_⟩ | ⟨aa,e9⟩
  ·cases z
  ·clear e;obtain⟨q,r,o⟩:=s.own j b x e9;have hb:b≠a:=λz=>by rw[z] at e9;exact aa (s.inj _ _ _ _ _ hi e9)
   exact⟨q,⟨r,hb⟩,bx.more (λb z=>.inl (hM b z)) o⟩
 ·rcases a9 h1 with⟨_,z,_⟩ | ⟨_,e1⟩
  ·cases z
  ·rcases a9 h2 with⟨_,z,_⟩ | ⟨_,e2⟩
   ·cases z
   ·exact s.inj j k b x y e1 e2
end
end DL
namespace DL
open PySem PySem.Spec PyProof.Rows L2
inductive W where
 | d (x:D) | o (i:Nat)
abbrev En:=List Sl
abbrev GX:=En->(W->En->Prop)->Prop
abbrev TDA:=En->(List D->En->Prop)->Prop
abbrev TDT:=En->(Bool->En->Prop)->Prop
structure aL where
 nx:En->Prop
 rt:D->En->Prop
 bk:En->Prop:=λ_=>False
 ct:En->Prop:=λ_=>False
 ro:D->Prop:=λ_=>False
 tp:Prop:=False
 ex:Str->Str->D->Prop:=λ_ _ _=>False
abbrev TDS:=aL->En->Prop
abbrev TDG:=D->En->(En->Prop)->Prop
abbrev Cl:=List D->En->(En->Prop)->Prop
def wd(R:D->En->Prop):W->En->Prop
 | .d x,δ=>R x δ
 | .o _,_=>False
def qB:D->(Bool->Prop)->Prop
 | .bl b,k=>k b
 | _,_=>False
def qI:D->(Int->Prop)->Prop
 | .int b,k=>k b
 | _,_=>False
def qX:D->(Str->Prop)->Prop
 | .str b,k=>k b
 | _,_=>False
def qT:D->(Zi->Prop)->Prop
 | .tup b,k=>k b
 | _,_=>False
def qL:D->(Zi->Prop)->Prop
 | .lst b,k=>k b
 | _,_=>False
def qW:Option Sl->(Addr->D->Prop)->Prop
 | some (.own a d),k=>k a d
 | _,_=>False
def qD:Option Sl->(D->Prop)->Prop
 | some (.dat d),k=>k d
 | _,_=>False
def qWL(o:Option Sl)(k:Addr->Zi->Prop):Prop:=qW o λa d=>qL d λxs=>k a xs
def qG:D->(Zb->Zi->Prop)->Prop
 | .dct ks ds,k=>k ks ds
 | _,_=>False
def qWD(o:Option Sl)(k:Addr->Zb->Zi->Prop):Prop:=qW o λa d=>qG d λks ds=>k a ks ds
def qF:D->(Zb->Zi->Prop)->Prop
 | .fd ks ds,k=>k ks ds
 | _,_=>False
def qV{α:Type}:Option α->(α->Prop)->Prop
 | some a,k=>k a
 | none,_=>False
def qN:Zi->Prop->Prop
 | [],k=>k
 | _::_,_=>False
def qC:Zi->(D->Zi->Prop)->Prop
 | x::r,k=>k x r
 | [],_=>False
def qIf:Bool->Prop->Prop
 | true,k=>k
 | false,_=>False
def q9:Zi->Prop->Prop
 | [],k=>k
 | [_],k=>k
 | [_,_],k=>k
 | [_,_,_],k=>k
 | [_,_,_,_],k=>k
 | xs,k=>xs.length<=9000/\k
def qWe(o:Option Sl)(k:D->Prop):Prop:=qW o λ_ d=>k d
def uB(o:Option Sl)(k:Zi->Prop):Prop:=qW o λ_ d=>qL d λxs=>k xs
def BV(o:Option Sl)(k:Zb->Zi->Prop):Prop:=qW o λ_ d=>qG d λks ds=>k ks ds
def jT(δ:En)(i:Nat)(x:Sl)(k:En->Prop):Prop:=k (δ.set i x)
def uO:Zi->Nat->Prop->Prop
 | [],0,k=>k
 | _::r,n+1,k=>uO r n k
 | _,_,_=>False
theorem uO.ex:∀ {xs:Zi} {n:Nat},uO xs n k->xs.length=n/\k
 | [],0,h=>⟨rfl,h⟩
 | _::r,n+1,h=>let ⟨a,b⟩:=uO.ex (xs:=r) (n:=n) h;⟨by rw[HJ,a],b⟩
 | [],_+1,h=>False.elim h
 | _::_,0,h=>False.elim h
def kD(R:W->En->Prop)(δ:En)(d:D):Prop:=R (.d d) δ
theorem qB.ex(h:qB x k):∃b,x=.bl b/\k b:=by cases x<;>first | exact False.elim h | exact⟨_,rfl,h⟩
theorem qI.ex(h:qI x k):∃b,x=.int b/\k b:=by cases x<;>first | exact False.elim h | exact⟨_,rfl,h⟩
theorem qX.ex(h:qX x k):∃b,x=.str b/\k b:=by cases x<;>first | exact False.elim h | exact⟨_,rfl,h⟩
theorem qT.ex(h:qT x k):∃b,x=.tup b/\k b:=by cases x<;>first | exact False.elim h | exact⟨_,rfl,h⟩
theorem qL.ex(h:qL x k):∃b,x=.lst b/\k b:=by cases x<;>first | exact False.elim h | exact⟨_,rfl,h⟩
theorem qF.ex(h:qF x k):∃ks ds,x=.fd ks ds/\k ks ds:=by cases x<;>first | exact False.elim h | exact⟨_,_,rfl,h⟩
theorem qG.ex(h:qG x k):∃ks ds,x=.dct ks ds/\k ks ds:=by cases x<;>first | exact False.elim h | exact⟨_,_,rfl,h⟩
theorem qW.ex(h:qW o k):∃a d,o=some (.own a d)/\k a d:=by
 cases o with
 | none=>exact False.elim h
 | some x=>cases x<;>first | exact False.elim h | exact⟨_,_,rfl,h⟩
theorem qD.ex(h:qD o k):∃d,o=some (.dat d)/\k d:=by
 cases o with
 | none=>exact False.elim h
 | some x=>cases x<;>first | exact False.elim h | exact⟨_,rfl,h⟩
theorem qWL.ex(h:qWL o k):∃a d,o=some (.own a (.lst d))/\k a d:=by
 replace h:=qW.ex h;obtain⟨a,d,rfl,h⟩:=h;replace h:=qL.ex h;obtain⟨xs,rfl,h⟩:=h;exact⟨_,_,rfl,h⟩
theorem qWD.ex(h:qWD o k):∃a ks ds,o=some (.own a (.dct ks ds))/\k a ks ds:=by
 replace h:=qW.ex h;obtain⟨a,d,rfl,h⟩:=h;replace h:=qG.ex h;obtain⟨ks,ds,rfl,h⟩:=h;exact⟨_,_,_,rfl,h⟩
theorem qWe.ex{K:Zf}{A:Addr->Prop}{H:Hp}{i:Nat}{k:D->Prop}(x:Sx K G A δ P σ H)(e:σ[i]?=some (some (.ref a)))(h:qWe δ[i]? k):∃d,δ[i]?=some (.own a d)/\k d:=by
 obtain⟨b,d,hi,h⟩:=qW.ex h;have q:=(x.own i b d hi).1;rw[e] at q
 cases q
 exact⟨_,hi,h⟩
theorem uB.ex{K:Zf}{A:Addr->Prop}{H:Hp}{i:Nat}{k:Zi->Prop}(x:Sx K G A δ P σ H)(e:σ[i]?=some (some (.ref a)))(h:uB δ[i]? k):∃d,δ[i]?=some (.own a (.lst d))/\k d:=by
 obtain⟨d,hi,h⟩:=qWe.ex (k:=λd=>qL d k) x e h;obtain⟨xs,rfl,h⟩:=qL.ex h;exact⟨_,hi,h⟩
theorem BV.ex{K:Zf}{A:Addr->Prop}{H:Hp}{i:Nat}{k:Zb->Zi->Prop}(x:Sx K G A δ P σ H)(e:σ[i]?=some (some (.ref a)))(h:BV δ[i]? k):∃ks ds,δ[i]?=some (.own a (.dct ks ds))/\k ks ds:=by
 obtain⟨d,hi,h⟩:=qWe.ex (k:=λd=>qG d k) x e h;obtain⟨ks,ds,rfl,h⟩:=qG.ex h;exact⟨_,_,hi,h⟩
theorem qV.ex(h:qV o k):∃a,o=some a/\k a:=by
 cases o with
 | none=>exact False.elim h
 | some x=>exact⟨_,rfl,h⟩
theorem qV.of(e:o=some a)(h:k a):qV o k:=by rw[e];exact h
theorem qN.ex(h:qN x k):x=[]/\k:=by
 cases x with
 | nil=>exact⟨rfl,h⟩
 | cons _ _=>exact False.elim h
theorem qC.ex(h:qC x k):∃a r,x=a::r/\k a r:=by
 cases x with
 | nil=>exact False.elim h
 | cons _ _=>exact⟨_,_,rfl,h⟩
theorem qIf.ex(h:qIf b k):b=true/\k:=by
 cases b with
 | true=>exact⟨rfl,h⟩
 | false=>exact False.elim h
theorem q9.ex(h:q9 x k):x.length<=9000/\k:=by
 rcases x with _ | ⟨a,_ | ⟨b,_ | ⟨c,_ | ⟨d,_ | ⟨e,l⟩⟩⟩⟩⟩
 ·exact⟨Jp _,h⟩
 ·exact⟨(by simp only[List.length_cons,List.length_nil];omega),h⟩
 ·exact⟨(by simp only[List.length_cons,List.length_nil];omega),h⟩
 ·exact⟨(by simp only[List.length_cons,List.length_nil];omega),h⟩
 ·exact⟨(by simp only[List.length_cons,List.length_nil];omega),h⟩
 ·exact h
inductive Up(K:Zf)(t:GX)(σ:L2.St)(H:Hp)(Q:VK):Prop
 | mk (G:Gf) (δ:En) (P:List (D×V)) (R:W->En->Prop) (s:S K G δ P σ H) (h:t δ R) (k:(∀x δ',R (.d x) δ'->∀v H',S K G δ' ((x,v)::P) σ H'->Q v H')/\(∀i δ',R (.o i) δ'->∀a d H',S K G δ' P σ H'->δ'[i]?=some (.own a d)->Q (.ref a) H'))
def up(K:Zf)(t:GX):TE:=Up K t
inductive UpA(K:Zf)(t:TDA)(σ:L2.St)(H:Hp)(Q:Zg->Hp->Prop):Prop
 | mk (G:Gf) (δ:En) (P:List (D×V)) (R:Zi->En->Prop) (s:S K G δ P σ H) (h:t δ R) (k:∀ds δ',R ds δ'->∀vs H',ds.length=vs.length->S K G δ' (ds.zip vs++P) σ H'->Q vs H')
def upA(K:Zf)(t:TDA):TA:=UpA K t
inductive UpT(K:Zf)(t:TDT)(σ:L2.St)(H:Hp)(Q:Bool->Hp->Prop):Prop
 | mk (G:Gf) (δ:En) (P:List (D×V)) (R:Bool->En->Prop) (s:S K G δ P σ H) (h:t δ R) (k:∀b δ',R b δ'->∀H',S K G δ' P σ H'->Q b H')
def upT(K:Zf)(t:TDT):TT:=UpT K t
inductive UpG(K:Zf)(t:TDG)(v:V)(σ:L2.St)(H:Hp)(Q:L2.St->Hp->Prop):Prop
 | mk (G:Gf) (δ:En) (P:List (D×V)) (d:D) (R:En->Prop) (s:S K G δ ((d,v)::P) σ H) (h:t d δ R) (k:∀δ',R δ'->∀σ' H',S K G δ' P σ' H'->Q σ' H')
def upG(K:Zf)(t:TDG):TG:=UpG K t
inductive UpGs(K:Zf)(t:Cl)(vs:Zg)(σ:L2.St)(H:Hp)(Q:L2.St->Hp->Prop):Prop
 | mk (G:Gf) (δ:En) (P:List (D×V)) (ds:Zi) (R:En->Prop) (hl:ds.length=vs.length) (s:S K G δ (ds.zip vs++P) σ H) (h:t ds δ R) (k:∀δ',R δ'->∀σ' H',S K G δ' P σ' H'->Q σ' H')
def upGs(K:Zf)(t:Cl):TGs:=UpGs K t
def zc(K:Zf)(G:Gf)(H':Hp)(a:Addr)(d:D):Prop:=(∀b o,G.H0 b=some o->¬ G.Pm b->H' b=some o)/\(G.H0 a=none\/G.Pm a)/\¬ G.M0 a/\bx K (λb=>G.M0 b\/b=a) H' a d
inductive UpS(K:Zf)(W:XK)(t:TDS)(E:Cp)(σ:L2.St)(H:Hp):Prop
 | mk (G:Gf) (δ:En) (P:List (D×V)) (R:aL) (s:S K G δ P σ H) (h:t R δ) (k:(∀δ',R.nx δ'->∀σ' H',S K G δ' P σ' H'->E.nx σ' H')/\((∀d δ',R.rt d δ'->∀v σ' H',S K G δ' ((d,v)::P) σ' H'->E.rt v H')/\(∀d,R.ro d->∀a H',zc K G H' a d->E.rt (.ref a) H')/\∀c f d,R.ex c f d->∀e C dx δ' σ' H',S K G δ' ((.exn c f d,.ref e)::P) σ' H'->H' e=some (XAt e C dx)->W (.ref e) (some dx) H') /\
 (∀δ',R.bk δ'->∀σ' H',S K G δ' P σ' H'->E.bk σ' H')/\(∀δ',R.ct δ'->∀σ' H',S K G δ' P σ' H'->E.ct σ' H')/\(R.tp->P=[]/\∀b o,G.H0 b=some o->∃ob xs,o=.frz ob (.lst xs)))
theorem exs{K:Zf}{W:XK}{R:Str->Str->D->Prop}(k:∀c f d,R c f d->∀e C dx δ' σ' H',S K G δ' ((.exn c f d,.ref e)::P) σ' H'->H' e=some (XAt e C dx)->W (.ref e) (some dx) H') :
  ∀c f d,R c f d->∀e C dx δ' σ' H',S K G δ' ((.exn c f d,.ref e)::q::P) σ' H'->H' e=some (XAt e C dx)->W (.ref e) (some dx) H':=λc f d r e C dx δ' σ' H' s=>k c f d r e C dx δ' σ' H' (s.sub λp hp=>by
 rcases HK.mp hp with rfl | hp
 ·simp
 ·simp[hp])
def xB(h:Heap)(e:Addr)(t:Value):Prop:=t=.none\/∃T oT ts,t=.ref T/\T≠e/\h.get? T=some oT/\oT.data=.fields ts/\ts[3]?=some .none
structure oV(X:Cx)(pins:List (Addr×Obj))(H':Hp)(e C dx:Addr)(s':Shared):Prop where
 ex:∃(σ:L2.St) (a t:Value),L2.Inv X pins σ H' s'/\s'.heap.get? e=some (GZ C (some dx) a t)/\xB s'.heap e t /\
  (∀T,t=.ref T->H' T=none/\X.s₀.heap.objs.size<=T/\T≠X.env.locals/\(∀x c,X.env.cells.lookup x=some c->c≠T)/\∀p∈X.pn++pins,p.1≠T)/\H' e=some (XAt e C dx)
def XEs(X:Cx):XK:=λev dxo H'=>∀e C dx pins s',ev=.ref e->dxo=some dx->oV X pins H' e C dx s'->X.xe (.ref e) s'
def upS(X:Cx)(t:TDS):TS:=UpS X.K (XEs X) t
def DE(X:Cx)(e:Expr)(t:GX):Prop:=PE X e (up X.K t)
def DA(X:Cx)(es:List Expr)(t:TDA):Prop:=PA X es (upA X.K t)
def DT(X:Cx)(e:Expr)(t:TDT):Prop:=PT X e (upT X.K t)
def DW(X:Cx)(e:Expr)(t:TDT):Prop:=PW X e (upT X.K t)
def DG(X:Cx)(e:Expr)(t:TDG):Prop:=PG X e (upG X.K t)
def DGs(X:Cx)(e:List Expr)(t:Cl):Prop:=PGs X e (upGs X.K t)
def DS(X:Cx)(st:Stmt)(t:TDS):Prop:=PS X st (upS X t)
def DSs(X:Cx)(st:List Stmt)(t:TDS):Prop:=PSs X st (upS X t)
section
theorem PE.imp(h:PE X e t)(i:∀σ H Q,t' σ H Q->t σ H Q):PE X e t':=λpins s σ H Q I q=>h pins s σ H Q I (i σ H Q q)
theorem PT.imp(h:PT X e t)(i:∀σ H Q,t' σ H Q->t σ H Q):PT X e t':=λpins s σ H Q I q=>h pins s σ H Q I (i σ H Q q)
theorem PW.imp(h:PW X e t)(i:∀σ H Q,t' σ H Q->t σ H Q):PW X e t':=λwh pins s σ H Q I q=>h wh pins s σ H Q I (i σ H Q q)
theorem PA.imp(h:PA X es t)(i:∀σ H Q,t' σ H Q->t σ H Q):PA X es t':=λp pins s σ H Q I q=>h p pins s σ H Q I (i σ H Q q)
theorem PS.imp{st:Stmt}(h:PS X st t)(i:∀E σ H,t' E σ H->t E σ H):PS X st t':=λpins s σ H D I q=>h pins s σ H D I (i D σ H q)
theorem PSs.imp{st:List Stmt}(h:PSs X st t)(i:∀E σ H,t' E σ H->t E σ H):PSs X st t':=λpins s σ H D I q=>h pins s σ H D I (i D σ H q)
theorem PG.imp(h:PG X e t)(i:∀v σ H Q,t' v σ H Q->t v σ H Q):PG X e t':=λpins s σ H v u Q I r q=>h pins s σ H v u Q I r (i v σ H Q q)
theorem PGs.imp(h:PGs X es t)(i:∀v σ H Q,t' v σ H Q->t v σ H Q):PGs X es t':=λpins s σ H v u Q I r q=>h pins s σ H v u Q I r (i v σ H Q q)
theorem Hr.imp(h:Hr X f r)(i:∀x y H Q,r' x y H Q->r x y H Q):Hr X f r':=λpins s σ H x y v u Q I rx ry q=>h pins s σ H x y v u Q I rx ry (i x y H Q q)
theorem UnR.imp(h:UnR X f r)(i:∀x H Q,r' x H Q->r x H Q):UnR X f r':=λpins s σ H x v Q I rx q=>h pins s σ H x v Q I rx (i x H Q q)
theorem bR.imp(h:bR X f r)(i:∀xs H Q,r' xs H Q->r xs H Q):bR X f r':=λpins s σ H x v Q I rx q=>h pins s σ H x v Q I rx (i x H Q q)
theorem IxR.imp(h:IxR X r)(i:∀x y H Q,r' x y H Q->r x y H Q):IxR X r':=λvalue slice pins s σ H x y v u Q I rx ry q hs=>h value slice pins s σ H x y v u Q I rx ry (i x y H Q q) hs
end
section
theorem up.mk{K:Zf}{H:Hp}{R:D->En->Prop}{Q:VK}(s:S K G δ P σ H)(h:t δ (wd R))(k:∀x δ',R x δ'->∀v H',S K G δ' ((x,v)::P) σ H'->Q v H'):up K t σ H Q:=⟨G,δ,P,wd R,s,h,k,λ_ _ z=>z.elim⟩
theorem S.dat{K:Zf}{H:Hp}{i:Nat}(s:S K G δ P σ H)(e:δ[i]?=some (.dat d)):∃v,σ[i]?=some (some v)/\S K G δ ((d,v)::P) σ H:=by
 obtain⟨A,x⟩:=s;obtain⟨v,q,r⟩:=x.dat i d e;exact⟨v,q,A,x.push r⟩
theorem S.own{K:Zf}{H:Hp}{i:Nat}(s:S K G δ P σ H)(e:δ[i]?=some (.own a d)):σ[i]?=some (some (.ref a)):=let ⟨_,x⟩:=s;(x.own i a d e).1
def sc:D->Option V
 | .non=>some .non
 | .bl b=>some (.bl b)
 | .int i=>some (.int i)
 | .str x=>some (.str x)
 | _=>none
theorem G3.sc{K:Zf}{H:Hp}{M:Addr->Prop}(h:sc d=some v):G3 K M H d v:=by
 cases d<;>simp only[DL.sc,Option.some.injEq,reduceCtorEq] at h<;>subst h<;>unfold G3<;>rfl
theorem S.sc{K:Zf}{H:Hp}(s:S K G δ P σ H)(h:sc d=some v):S K G δ ((d,v)::P) σ H:=let ⟨A,x⟩:=s;⟨A,x.push (G3.sc h)⟩
end
def dV(i:Nat)(δ:En)(R:W->En->Prop):Prop:=qD δ[i]? λd=>R (.d d) δ
def dC(d:D)(δ:En)(R:W->En->Prop):Prop:=R (.d d) δ
def kOb(f:Zi->(D->Prop)->Prop)(x:D)(R:W->En->Prop):W->En->Prop:=wd λy δ2=>f [x,y] (kD R δ2)
def kOa(f:Zi->(D->Prop)->Prop)(tb:GX)(R:W->En->Prop):W->En->Prop:=wd λx δ1=>tb δ1 (kOb f x R)
def dOp(f:Zi->(D->Prop)->Prop)(ta tb:GX)(δ:En)(R:W->En->Prop):Prop:=ta δ (kOa f tb R)
def kUn(f:Zi->(D->Prop)->Prop)(R:W->En->Prop):W->En->Prop:=wd λx δ1=>f [x] (kD R δ1)
def dUn(f:Zi->(D->Prop)->Prop)(ta:GX)(δ:En)(R:W->En->Prop):Prop:=ta δ (kUn f R)
def EJ(δ:En)(R:Zi->En->Prop):Prop:=R [] δ
def kAd(x:D)(R:Zi->En->Prop)(ds:Zi)(δ:En):Prop:=R (x::ds) δ
def kAc(t:TDA)(R:Zi->En->Prop):W->En->Prop:=wd λx δ1=>t δ1 (kAd x R)
def zq(te:GX)(t:TDA)(δ:En)(R:Zi->En->Prop):Prop:=te δ (kAc t R)
def kCa(f:Zi->(D->Prop)->Prop)(R:W->En->Prop)(ds:Zi)(δ:En):Prop:=f ds (kD R δ)
def rK(f:Zi->(D->Prop)->Prop)(t:TDA)(δ:En)(R:W->En->Prop):Prop:=t δ (kCa f R)
def kTu(R:W->En->Prop)(ds:Zi)(δ:En):Prop:=q9 ds (R (.d (.tup ds)) δ)
def dTup(t:TDA)(δ:En)(R:W->En->Prop):Prop:=t δ (kTu R)
def kLs(R:W->En->Prop)(ds:Zi)(δ:En):Prop:=q9 ds (R (.d (.lst ds)) δ)
def dLst(t:TDA)(δ:En)(R:W->En->Prop):Prop:=t δ (kLs R)
def kTs(R:Bool->En->Prop):W->En->Prop:=wd λx δ1=>qB x λb=>R b δ1
def dTst(t:GX)(δ:En)(R:Bool->En->Prop):Prop:=t δ (kTs R)
def kAn(u:TDT)(R:Bool->En->Prop)(b:Bool)(δ:En):Prop:=if b=true then u δ R else R false δ
def dAnd(t u:TDT)(δ:En)(R:Bool->En->Prop):Prop:=t δ (kAn u R)
def kOr(u:TDT)(R:Bool->En->Prop)(b:Bool)(δ:En):Prop:=if b=true then R true δ else u δ R
def dOr(t u:TDT)(δ:En)(R:Bool->En->Prop):Prop:=t δ (kOr u R)
def kNo(R:Bool->En->Prop)(b:Bool)(δ:En):Prop:=R (!b) δ
def dNot(t:TDT)(δ:En)(R:Bool->En->Prop):Prop:=t δ (kNo R)
def kAV(u:GX)(R:W->En->Prop):W->En->Prop:=wd λx δ1=>qB x λb=>if b=true then u δ1 R else R (.d (.bl false)) δ1
def Cv(t u:GX)(δ:En)(R:W->En->Prop):Prop:=t δ (kAV u R)
def kOV(u:GX)(R:W->En->Prop):W->En->Prop:=wd λx δ1=>qB x λb=>if b=true then R (.d (.bl true)) δ1 else u δ1 R
def dOrV(t u:GX)(δ:En)(R:W->En->Prop):Prop:=t δ (kOV u R)
def kNV(R:W->En->Prop):W->En->Prop:=wd λx δ1=>qB x λb=>R (.d (.bl (!b))) δ1
def Fn(t:GX)(δ:En)(R:W->En->Prop):Prop:=t δ (kNV R)
def kIE(t u:GX)(R:W->En->Prop)(b:Bool)(δ:En):Prop:=if b=true then t δ R else u δ R
def dIfE(c:TDT)(t u:GX)(δ:En)(R:W->En->Prop):Prop:=c δ (kIE t u R)
section
variable {X:Cx} {pos:Pos} {a b c:Expr} {ta tb:GX} {t:TDA} {f:Zi→(D→Prop)→Prop} {es:List Expr}
theorem ap(i:Nat)(hN:X.N[i]?=some x:=by rfl)(hv:Vis X.env.scope x:=by walk_at "v3")(hd:(x==("__debug__":Str))=false:=by decide)
  (hcd:(x==("__classdict__":Str))=false:=by decide):DE X (.Name x pos) (dV i):=PE.imp (a4 hN hv hd hcd) λσ H Q ⟨G,δ,P,R,s,h,k,_⟩=>by
 replace h:=qD.ex h;obtain⟨d,e,h⟩:=h;obtain⟨v,q,s'⟩:=s.dat e;exact⟨v,q,k d δ h v H s'⟩
theorem de_c(h:PE X a (tC v))(hs:sc d=some v):DE X a (dC d):=PE.imp h λσ H Q ⟨G,δ,P,R,s,r,k,_⟩=>k d δ r v H (s.sc hs)
theorem am{i j pos}:DE X (.Constant (.int i) j pos) (dC (.int i)):=de_c yC rfl
theorem gG{i j pos}:DE X (.Constant (.bool i) j pos) (dC (.bl i)):=de_c Gg rfl
theorem cm{j pos}:DE X (.Constant .none j pos) (dC .non):=de_c DX rfl
theorem aR{x j pos}:DE X (.Constant (.str x) j pos) (dC (.str x)):=de_c pL rfl
theorem aC(ho:Hr X (binaryOp op) λx y=>aT X.K f [x,y])(ha:DE X a ta)(hb:DE X b tb):DE X (.BinOp a op b pos) (dOp f ta tb) :=
 PE.imp (F3 ho ha hb) λσ H Q ⟨G,δ,P,R,s,h,k,_⟩=>up.mk s h λx δ1 h1 v H1 s1=>up.mk s1 h1 λy δ2 h2 u H2 s2 =>
  S.pure (P':=P) (ds:=[x,y]) (vs:=[v,u]) s2 rfl (by simp) (λp hp=>by simp[hp]) h2 λd r v' H' s'=>k d δ2 r v' H' s'
theorem ce(ho:Hr X (compareOp op) λx y=>aT X.K f [x,y])(ha:DE X a ta)(hb:DE X b tb)(hm:behindInMarks op b=false):DE X (.Compare a [op] [b] pos) (dOp f ta tb) :=
 PE.imp (Bd ho ha hb hm) λσ H Q ⟨G,δ,P,R,s,h,k,_⟩=>up.mk s h λx δ1 h1 v H1 s1=>up.mk s1 h1 λy δ2 h2 u H2 s2 =>
  S.pure (P':=P) (ds:=[x,y]) (vs:=[v,u]) s2 rfl (by simp) (λp hp=>by simp[hp]) h2 λd r v' H' s'=>k d δ2 r v' H' s'
theorem aD(ho:Hr X (compareOp op) λx y=>aT X.K f [x,y])(ha:DE X a ta)(hb:DE X b tb)(hm:behindInMarks op b=false):DT X (.Compare a [op] [b] pos) (dTst (dOp f ta tb)) :=
 PT.imp (BP ho ha hb hm) λσ H Q ⟨G,δ,P,R,s,h,k⟩=>up.mk s h λx δ1 h1 v H1 s1=>up.mk s1 h1 λy δ2 h2 u H2 s2 =>
  S.pure (P':=P) (ds:=[x,y]) (vs:=[v,u]) s2 rfl (by simp) (λp hp=>by simp[hp]) h2 λd r v' H' s'=>by
   replace r:=qB.ex r;obtain⟨b,e,r⟩:=r;subst e;have q:=s';obtain⟨A,q⟩:=q;have q2:=q.pnd (.bl b,v') (by simp);simp only[G3] at q2;exact⟨b,q2,k b δ2 r H' (s'.sub λp hp=>by simp[hp])⟩
theorem dE(ho:UnR X (unaryOp op) λx=>aT X.K f [x])(ha:DE X a ta):DE X (.UnaryOp op a pos) (dUn f ta) :=
 PE.imp (FL ho ha) λσ H Q ⟨G,δ,P,R,s,h,k,_⟩=>up.mk s h λx δ1 h1 v H1 s1 =>
  S.pure (P':=P) (ds:=[x]) (vs:=[v]) s1 rfl (by simp) (λp hp=>by simp[hp]) h1 λd r v' H' s'=>k d δ1 r v' H' s'
theorem bU(h:DE X a ta)(he:∀whole,isTrue a X.env whole=(do let v<-whole;standAt a.pos;holding [v] (truthy v)):=by intro _;rfl):DT X a (dTst ta) :=
 PT.imp (DD h he) λσ H Q ⟨G,δ,P,R,s,h,k⟩=>up.mk s h λx δ1 h1 v H1 s1=>by
  replace h1:=qB.ex h1;obtain⟨b,e,r⟩:=h1;subst e;obtain⟨A,q⟩:=id s1;have q2:=q.pnd (.bl b,v) (by simp);simp only[G3] at q2;exact⟨b,q2,k b δ1 r H1 (s1.sub λp hp=>by simp[hp])⟩
theorem DW.dt(h:DW X a tA):DT X a tA:=PW.pt h
theorem iL(ha:DT X a tA):DW X (.BoolOp .And [a] pos) tA:=Bw ha
theorem iA(ha:DT X a tA):DW X (.BoolOp .Or [a] pos) tA:=CW ha
theorem l7{bS:List Expr}(ha:DT X a tA)(hb:DW X (.BoolOp .And (b::bS) pos) tB'):DW X (.BoolOp .And (a::b::bS) pos) (dAnd tA tB') :=
 PW.imp (Eb ha hb) λσ H Q ⟨G,δ,P,R,s,h,k⟩=>⟨G,δ,P,_,s,h,λb δ1 h1 H1 s1=>by
  cases b with
  | true=>exact⟨G,δ1,P,R,s1,h1,k⟩
  | false=>exact k false δ1 h1 H1 s1⟩
theorem mM{bS:List Expr}(ha:DT X a tA)(hb:DW X (.BoolOp .Or (b::bS) pos) tB'):DW X (.BoolOp .Or (a::b::bS) pos) (dOr tA tB') :=
 PW.imp (tE ha hb) λσ H Q ⟨G,δ,P,R,s,h,k⟩=>⟨G,δ,P,_,s,h,λb δ1 h1 H1 s1=>by
  cases b with
  | true=>exact k true δ1 h1 H1 s1
  | false=>exact⟨G,δ1,P,R,s1,h1,k⟩⟩
theorem pI(ha:DT X a tA):DT X (.UnaryOp .Not a pos) (dNot tA) :=
 PT.imp (C3 ha) λσ H Q ⟨G,δ,P,R,s,h,k⟩=>⟨G,δ,P,_,s,h,λb δ1 h1 H1 s1=>k _ δ1 h1 H1 s1⟩
theorem tV{K:Zf}{G:Gf}{δ:En}{P:List (D×V)}{σ:L2.St}{H:Hp}{b:Bool}{v:V}(s:S K G δ ((.bl b,v)::P) σ H):v=.bl b:=by
 obtain⟨A,q⟩:=s;have q2:=q.pnd (.bl b,v) (by simp);simpa only[G3] using q2
theorem dm{op}(h:DE X a ta):DE X (.BoolOp op [a] pos) ta:=Di h
theorem gn{bS:List Expr}(ha:DE X a ta)(hb:DE X (.BoolOp .And (b::bS) pos) tb):DE X (.BoolOp .And (a::b::bS) pos) (Cv ta tb) :=
 PE.imp (Fo ha hb) λσ H Q ⟨G,δ,P,R,s,h,k,k2⟩=>up.mk s h λx δ1 h1 v H1 s1=>by
  replace h1:=qB.ex h1;obtain⟨b,e,r⟩:=h1;subst e;refine⟨b,tV s1,?_⟩
  cases b with
  | true=>exact⟨G,δ1,P,R,s1.sub λp hp=>by simp[hp],r,k,k2⟩
  | false=>exact k (.bl false) δ1 r _ H1 (by rw[<- tV s1];exact s1)
theorem yp{bS:List Expr}(ha:DE X a ta)(hb:DE X (.BoolOp .Or (b::bS) pos) tb):DE X (.BoolOp .Or (a::b::bS) pos) (dOrV ta tb) :=
 PE.imp (FH ha hb) λσ H Q ⟨G,δ,P,R,s,h,k,k2⟩=>up.mk s h λx δ1 h1 v H1 s1=>by
  replace h1:=qB.ex h1;obtain⟨b,e,r⟩:=h1;subst e;refine⟨b,tV s1,?_⟩
  cases b with
  | false=>exact⟨G,δ1,P,R,s1.sub λp hp=>by simp[hp],r,k,k2⟩
  | true=>exact k (.bl true) δ1 r _ H1 (by rw[<- tV s1];exact s1)
theorem mz(ha:DE X a ta):DE X (.UnaryOp .Not a pos) (Fn ta) :=
 PE.imp (CK ha) λσ H Q ⟨G,δ,P,R,s,h,k,k2⟩=>up.mk s h λx δ1 h1 v H1 s1=>by
  replace h1:=qB.ex h1;obtain⟨b,e,r⟩:=h1;subst e;exact⟨b,tV s1,k _ δ1 r _ H1 ((s1.sub λp hp=>by simp[hp]).sc rfl)⟩
theorem sK(hc:DT X c tA)(ha:DE X a ta)(hb:DE X b tb):DE X (.IfExp c a b pos) (dIfE tA ta tb) :=
 PE.imp (wH hc ha hb) λσ H Q ⟨G,δ,P,R,s,h,k,k2⟩=>⟨G,δ,P,_,s,h,λb δ1 h1 H1 s1=>by
  cases b with
  | true=>exact⟨G,δ1,P,R,s1,h1,k,k2⟩
  | false=>exact⟨G,δ1,P,R,s1,h1,k,k2⟩⟩
theorem af:DA X [] EJ:=PA.imp b9 λσ H Q ⟨G,δ,P,R,s,h,k⟩=>k [] δ h [] H rfl s
theorem ac(ha:DE X a ta)(hr:DA X es t)(hs:starEach (a::es) X.env=(false,eval a X.env)::starEach es X.env:=by rfl):DA X (a::es) (zq ta t) :=
 PA.imp (aJ ha hr hs) λσ H Q ⟨G,δ,P,R,s,h,k⟩=>up.mk s h λx δ1 h1 v H1 s1=>⟨G,δ1,(x,v)::P,_,s1,h1,λds δ2 h2 vs H2 hl s2 =>
  k (x::ds) δ2 h2 (v::vs) H2 (by simp[hl]) (s2.sub λp hp=>by
   simp only[List.zip_cons_cons,List.cons_append,List.mem_cons,List.mem_append] at hp ⊢
   rcases hp with h | h | h
   ·exact .inr (.inl h)
   ·exact .inl h
   ·exact .inr (.inr h))⟩
theorem aF(h:H p=none)(o:HO):bE H (G6 H p o):=λb u q=>by rw[aG (cz q h)];exact q
theorem jn(h:n<=9000):n<sizeLine:=Nat.lt_of_le_of_lt h (by decide)
theorem small(h:n<=9000):n<=sizeLine:=JK (jn h)
theorem bf{x1}(h:DA X es t):DE X (.Tuple es x1 pos) (dTup t) :=
 PE.imp (yH h) λσ H Q ⟨G,δ,P,R,s,h,k,_⟩=>⟨G,δ,P,_,s,h,λds δ1 h9 vs H1 hl s1=>⟨by rw[<- hl];exact small (q9.ex h9).1,λp hp=>by
  have h1:=(q9.ex h9).2
  obtain⟨A,x⟩:=s1;have r:=x.reps ds vs hl (λq hq=>HV _ hq);have x2:=x.same (aF hp (.tup vs));refine k (.tup ds) δ1 h1 (.ref p) _ ⟨A,(x2.sub λq hq=>HP _ hq).push ?_⟩;unfold G3
  exact⟨p,vs,rfl,Ho.of av,Reps.kp (Kp.of_same (aF hp _)) _ _ r⟩⟩⟩
theorem aW(h:DA X es t):DE X (.List es pos) (dLst t) :=
 PE.imp (ud h) λσ H Q ⟨G,δ,P,R,s,h,k,_⟩=>⟨G,δ,P,_,s,h,λds δ1 h9 vs H1 hl s1=>⟨by rw[<- hl];exact small (q9.ex h9).1,λp hp=>by
  have h1:=(q9.ex h9).2
  obtain⟨A,x⟩:=s1;have r:=x.reps ds vs hl (λq hq=>HV _ hq);have x2:=x.same (aF hp (.lst vs));refine k (.lst ds) δ1 h1 (.ref p) _ ⟨A,(x2.sub λq hq=>HP _ hq).push ?_⟩;unfold G3
  exact⟨p,vs,rfl,λz=>x.mem p z hp,av,Reps.kp (Kp.of_same (aF hp _)) _ _ r⟩⟩⟩
theorem fe(hr:IxR X λx y=>aT X.K f [x,y])(ha:DE X a ta)(hb:DE X b tb)(hs:pA b):DE X (.Subscript a b pos) (dOp f ta tb) :=
 PE.imp (CA hr ha hb hs) λσ H Q ⟨G,δ,P,R,s,h,k,_⟩=>up.mk s h λx δ1 h1 v H1 s1=>up.mk s1 h1 λy δ2 h2 u H2 s2 =>
  S.pure (P':=P) (ds:=[x,y]) (vs:=[v,u]) s2 rfl (by simp) (λp hp=>by simp[hp]) h2 λd r v' H' s'=>k d δ2 r v' H' s'
def Hg(K:Zf)(f:Zi->(D->Prop)->Prop):Sp:=λvs H Q _=>aT K f vs H Q
theorem kJ{K:Zf}{H:Hp}{Q:VK}{f:Zi->(D->Prop)->Prop}(h:up K (rK f t) σ H Q):upA K t σ H λvs H1=>aT K f vs H1 Q:=by
 obtain⟨G,δ,P,R,s,h,k,_⟩:=h;exact⟨G,δ,P,_,s,h,λds δ1 h1 vs H1 hl s1=>S.pure (P':=P) s1 hl (λp hp=>HV _ hp) (λp hp=>HP _ hp) h1 λd r v' H' s'=>k d δ1 r v' H' s'⟩
theorem AN(F:f7 X.prog X.w X.K X.mg X.base CX0 k g fd ps (Hg X.K f))(hr:cI k X.A)(hg:Gl X x)(hm:X.mg x=some (.ref g))(hk:PySem.W.keepIn X.K (.ref g)=true)
  (hb:eU X.K fd ps []) (ha:DA X (a::es) t) (hdb:(x==("__debug__":Str))=false:=by decide) (he:starEach (a::es) X.env=(false,eval a X.env)::starEach es X.env:=by rfl) (hpl:(backTo pos (starEach es X.env)).any (·.1)=false:=by rfl) :
  DE X (.Call (.Name x p) (a::es) [] pos) (rK f t) :=
 PE.imp (f6 F hr hg hm hk hb .nil v6 ha hdb he hpl) λσ H Q h=>by
  show upA X.K t σ H λvs H1=>aT X.K f (vs++[]) H1 Q
  have q:=kJ h
  simpa only[List.append_nil] using q
theorem aN{id:String}(hc:bR X (.builtin id) (aT X.K f))(hg:Gl X x)(hm:X.mg x=none)(hv:bootBuiltins x=some (.builtin id))(ha:DA X (a::es) t)(hn:x≠"__name__":=by decide)(hdb:(x==("__debug__":Str))=false:=by decide)
  (he:starEach (a::es) X.env=(false,eval a X.env)::starEach es X.env:=by rfl) (hpl:(backTo pos (starEach es X.env)).any (·.1)=false:=by rfl):DE X (.Call (.Name x p) (a::es) [] pos) (rK f t) :=
 PE.imp (dZ hc hg hm hv ha hn hdb he hpl) λσ H Q h=>kJ h
theorem dH(hc:bR X (.type T) (aT X.K f))(hg:Gl X x)(hm:X.mg x=none)(hv:bootBuiltins x=some (.type T))(ha:DA X (a::es) t)(hn:x≠"__name__":=by decide)(hdb:(x==("__debug__":Str))=false:=by decide)
  (he:starEach (a::es) X.env=(false,eval a X.env)::starEach es X.env:=by rfl) (hpl:(backTo pos (starEach es X.env)).any (·.1)=false:=by rfl):DE X (.Call (.Name x p) (a::es) [] pos) (rK f t) :=
 PE.imp (jr hc hg hm hv ha hn hdb he hpl) λσ H Q h=>kJ h
end
def C5(R:aL)(δ:En):Prop:=R.nx δ
def dSeq(t u:TDS)(R:aL)(δ:En):Prop:=t { R with nx:=u R } δ
def Dr(t:GX)(R:aL)(δ:En):Prop:=t δ λ_ δ1=>R.nx δ1
def kRe(R:aL):W->En->Prop:=wd λx δ1=>R.rt x δ1
def dRet(t:GX)(R:aL)(δ:En):Prop:=t δ (kRe R)
def kIf(t u:En->Prop)(b:Bool)(δ:En):Prop:=if b=true then t δ else u δ
def dIf(c:TDT)(t u:TDS)(R:aL)(δ:En):Prop:=c δ (kIf (t R) (u R))
def uC(_:aL)(_:En):Prop:=False
def kSe(i:Nat)(R:aL):W->En->Prop:=wd λx δ1=>jT δ1 i (.dat x) R.nx
def dSet(i:Nat)(t:GX)(R:aL)(δ:En):Prop:=t δ (kSe i R)
def kAs(g:TDG)(R:aL):W->En->Prop:=wd λx δ1=>g x δ1 R.nx
def dAsg(t:GX)(g:TDG)(R:aL)(δ:En):Prop:=t δ (kAs g R)
def e7(i:Nat)(x:D)(δ:En)(R:En->Prop):Prop:=jT δ i (.dat x) R
def Ak(ds:Zi)(δ:En)(R:En->Prop):Prop:=qN ds (R δ)
def uy(t:TDG)(u:Cl)(ds:Zi)(δ:En)(R:En->Prop):Prop:=qC ds λx r=>t x δ λδ1=>u r δ1 R
def sA(n:Nat)(t:Cl)(d:D)(δ:En)(R:En->Prop):Prop:=qT d λxs=>uO xs n (t xs δ R)
def zC(c:TDT)(tb:TDS)(R:aL)(δ:En):Prop:=∃(I:En->Prop) (μ:En->Nat),I δ/\∀δ,I δ->c δ (kIf (tb { R with nx:=λδ'=>I δ'/\μ δ'<μ δ,ct:=λδ'=>I δ'/\μ δ'<μ δ,bk:=R.nx,tp:=False }) R.nx)
def lQ(t:GX)(g:TDG)(tb:TDS)(R:aL)(δ:En):Prop:=t δ (wd λd δ1=>qL d λxs=>∃I:Nat->En->Prop,I 0 δ1 /\
 (∀i x δ',xs[i]?=some x->I i δ'->g x δ' (tb { R with nx:=I (i+1),ct:=I (i+1),bk:=R.nx,tp:=False }))/\∀δ',I xs.length δ'->R.nx δ')
def vc(t:GX)(g:TDG)(tb:TDS)(R:aL)(δ:En):Prop:=t δ (wd λd δ1=>qT d λxs=>∃I:Nat->En->Prop,I 0 δ1 /\
 (∀i x δ',xs[i]?=some x->I i δ'->g x δ' (tb { R with nx:=I (i+1),ct:=I (i+1),bk:=R.nx,tp:=False }))/\∀δ',I xs.length δ'->R.nx δ')
def CU(t:TDA)(g:TDG)(tb:TDS)(R:aL)(δ:En):Prop:=t δ λds δ1=>qC ds λx r=>qN r <| qI x λj=>-(2 ^ 62)<=j/\j<2 ^ 62/\∃I:Nat->En->Prop,I 0 δ1 /\
 (∀i δ',i<j.toNat->I i δ'->g (.int i) δ' (tb { R with nx:=I (i+1),ct:=I (i+1),bk:=R.nx,tp:=False }))/\∀δ',I j.toNat δ'->R.nx δ'
section
theorem aE:DSs X [] C5:=PSs.imp zQ λE σ H ⟨G,δ,P,R,s,h,k,_⟩=>k δ h σ H s
theorem ae{st:Stmt}{bS:List Stmt}(h1:DS X st t)(h2:DSs X bS u):DSs X (st::bS) (dSeq t u) :=
 PSs.imp (gP h1 h2) λE σ H ⟨G,δ,P,R,s,h,k1,k2,k3,k4⟩=>⟨G,δ,P,{ R with nx:=u R },s,h,λδ' h' σ' H' s'=>⟨G,δ',P,R,s',h',k1,k2,k3,k4⟩,k2,k3,k4⟩
theorem ag{st:Stmt}(h1:DS X st t):DSs X [st] t:=iX h1
theorem vF(he:DE X e ta)(hs:swapsWith e none pos.line X.env=pure false:=by rfl):DS X (.Expr e pos) (Dr ta) :=
 PS.imp (eO he hs) λE σ H ⟨G,δ,P,R,s,h,k,_⟩=>⟨G,δ,P,_,s,h,λx δ1 h1 v H1 s1=>k δ1 h1 σ H1 (s1.sub λp hp=>by simp[hp]),λi δ1 h1 a d H1 s1 _=>k δ1 h1 σ H1 s1⟩
theorem aA(he:DE X e ta):DS X (.Return (some e) pos) (dRet ta) :=
 PS.imp (qz he) λE σ H ⟨G,δ,P,R,s,h,_,k,_⟩=>up.mk s h λx δ1 h1 v H1 s1=>k.1 x δ1 h1 v σ H1 s1
theorem aK(hc:DT X c tA)(ha:DSs X aa t)(hb:DSs X bb u):DS X (.If c aa bb pos) (dIf tA t u) :=
 PS.imp (Fy hc ha hb) λE σ H ⟨G,δ,P,R,s,h,k1,k2,k3,k4⟩=>⟨G,δ,P,_,s,h,λb δ1 h1 H1 s1=>by
  cases b with
  | true=>exact⟨G,δ1,P,R,s1,h1,k1,k2,k3,k4⟩
  | false=>exact⟨G,δ1,P,R,s1,h1,k1,k2,k3,k4⟩⟩
theorem ds_never{st:Stmt}:DS X st uC:=PS.imp xI λE σ H ⟨G,δ,P,R,s,h,_⟩=>h
theorem ig{bS:List Stmt}:DSs X bS uC:=PSs.imp tM λE σ H ⟨G,δ,P,R,s,h,_⟩=>h
theorem aB(i:Nat)(hN:X.N.Nodup)(he:DE X e ta)(hi:X.N[i]?=some x:=by rfl)(hx:Loc X.env.scope x:=by walk_at "v2")(hs:swapsWith e (some (.Name x pos')) pos.line X.env=pure false:=by rfl)
  (hf:X.fn x=true\/X.env.scope.names.lookup x=some .local :=by walk_at "v1"):DS X (.Assign [.Name x pos'] e pos) (dSet i ta) :=
 PS.imp (gx hN hi hx he hs hf) λE σ H ⟨G,δ,P,R,s,h,k,_⟩=>up.mk s h λx δ1 h1 v H1 s1=>k _ h1 _ H1 (s1.set (by simp) λp hp=>by simp[hp])
theorem sX(he:DE X e ta)(hg:DG X tg g)(hs:swapsWithSole [tg] e pos.line X.env=pure false:=by rfl)(hw:swappedStores [tg] e X.env=pure none:=by rfl)
  (h1:(assignEach [tg] X.env).map (·.2)=[assign tg X.env]:=by rfl):DS X (.Assign [tg] e pos) (dAsg ta g) :=
 PS.imp (zz he hg hs hw h1) λE σ H ⟨G,δ,P,R,s,h,k,_⟩=>up.mk s h λx δ1 h1 v H1 s1=>⟨G,δ1,P,x,R.nx,s1,h1,k⟩
theorem aw(i:Nat)(hN:X.N.Nodup)(hi:X.N[i]?=some x:=by rfl)(hx:Loc X.env.scope x:=by walk_at "v2")(hf:X.fn x=true\/X.env.scope.names.lookup x=some .local :=by walk_at "v1") :
  DG X (.Name x pos) (e7 i):=PG.imp (Ad hN hi hx hf) λv σ H Q ⟨G,δ,P,d,R,s,h,k⟩=>k _ h _ H (s.set (by simp) λp hp=>by simp[hp])
theorem bC:DGs X [] Ak:=PGs.imp AT λvs σ H Q ⟨G,δ,P,ds,R,hl,s,h,k⟩=>by
 replace h:=qN.ex h;obtain⟨e,h⟩:=h;subst e;have:vs=[]:=JO.mp hl.symm;subst this;exact⟨rfl,k δ h σ H s⟩
theorem aH(h1:DG X e g)(h2:DGs X es gs)(hs:(assignEach (e::es) X.env).map (·.2)=assign e X.env::(assignEach es X.env).map (·.2):=by rfl):DGs X (e::es) (uy g gs) :=
 PGs.imp (xN h1 h2 hs) λvs σ H Q ⟨G,δ,P,ds,R,hl,s,h,k⟩=>by
  replace h:=qC.ex h;obtain⟨x,r,e,h⟩:=h;subst e
  cases vs with
  | nil=>cases hl
  | cons v vs =>
   refine⟨v,vs,rfl,G,δ,r.zip vs++P,x,_,s.sub λp hp=>by simpa using hp,h,λδ1 h1 σ1 H1 s1=>⟨G,δ1,P,r,R,J0 hl,s1,h1,k⟩⟩
theorem dk(hc:X.calm=true)(h:DGs X es gs)(hn:(assignEach es X.env).length=n:=by rfl)(hst:(assignEach es X.env).findIdx? (·.1)=none:=by rfl):DG X (.Tuple es kk pos) (sA n gs) :=
 PG.imp (Ef hc h hn hst) λv σ H Q ⟨G,δ,P,d,R,s,h,k⟩=>by
  replace h:=qT.ex h;obtain⟨xs,e,h⟩:=h;replace h:=uO.ex h;obtain⟨hl,h⟩:=h;subst e;obtain⟨A,x⟩:=s;have q:=x.pnd (.tup xs,v) (by simp);simp only[G3] at q;obtain⟨a,vs,e,sq,r⟩:=q;subst e;refine⟨a,vs,rfl,sq,by rw[<- Reps.length _ _ r];exact hl,G,δ,P,xs,R,Reps.length _ _ r,⟨A,?_⟩,h,k⟩
  exact⟨x.old,x.stay,x.m0,x.pm,x.new,x.thr,x.len,x.dat,x.own,x.inj,λp hp=>by
   rcases HZ.mp hp with hp | hp
   ·obtain⟨i,hi,e⟩:=List.mem_iff_getElem.mp hp;have h1:i<xs.length:=by rw[Jy] at hi;omega
    have h2:i<vs.length:=by rw[Jy] at hi;omega
    obtain⟨v',e',r'⟩:=Reps.get _ _ r i xs[i] (by simp[h1]);have:p=(xs[i],vs[i]):=by rw[<- e,List.getElem_zip]
    rw[this];rw[Iv h2] at e'
    cases e'
    exact r'
   ·exact x.pnd p (by simp[hp])⟩
theorem qm(hp:PassesOwn (model X.prog X.w) X.A X.env X.xe)(hc:DT X c tA)(hb:DSs X body t):DS X (.While c body [] pos) (zC tA t) :=
 PS.imp (wK hp hc hb) λE σ H ⟨G,δ,P,R,s,⟨I,μ,i0,turn⟩,k1,k2,k3,k4⟩=>by
  refine⟨λm σ H=>∃δ,m=μ δ/\I δ/\S X.K G δ P σ H,⟨_,δ,rfl,i0,s⟩,?_⟩;rintro m σ H ⟨δ,rfl,i,s⟩;refine⟨G,δ,P,_,s,turn δ i,λb δ1 h1 H1 s1=>?_⟩
  cases b with
  | false=>exact k1 δ1 h1 σ H1 s1
  | true =>
   refine⟨λσ' H'=>∃δ',(I δ'/\μ δ'<μ δ)/\S X.K G δ' P σ' H',λσ' H' ⟨δ',⟨i',l⟩,s'⟩=>⟨_,l,δ',rfl,i',s'⟩,?_⟩;exact⟨G,δ1,P,_,s1,h1,λδ' h' σ' H' s'=>⟨δ',h',s'⟩,k2,k1,λδ' h' σ' H' s'=>⟨δ',h',s'⟩,λz=>z.elim⟩
theorem bD(hp:PassesOwn (model X.prog X.w) X.A X.env X.xe)(hc:X.calm=true)(hi:DE X e ta)(hg:DG X tg g)(hb:DSs X body t)(hs:∀x,foldedSetIterable e X.env x=pure x:=by intro _;rfl):DS X (.For tg e body [] pos) (lQ ta g t) :=
 PS.imp (ml hp hc (nG hi) hg hb hs) λE σ H ⟨G,δ,P,R,s,h,k1,k2,k3,k4⟩=>up.mk s h λd δ1 h1 v H1 s1=>by
  replace h1:=qL.ex h1;obtain⟨xs,e,I,i0,aa,ab⟩:=h1;subst e;have al:∀δ σ H,S X.K G δ ((.lst xs,v)::P) σ H->∃a vs,v=.ref a/\G4 X.K H a vs/\vs.length=xs.length:=λδ σ H ⟨A,x⟩=>by
   have q:=x.pnd (.lst xs,v) (by simp)
   simp only[G3] at q;obtain⟨a,vs,e,_,l,r⟩:=q;exact⟨a,vs,e,G4.of l,(Reps.length _ _ r).symm⟩
  have ah:∃a vs,v=.ref a/\G4 X.K H1 a vs/\vs.length=xs.length:=al _ _ _ s1
  obtain⟨a,aj,rfl,ai,an⟩:=ah;refine⟨a,rfl,⟨aj,ai⟩,λi m σ H=>m=xs.length-i/\i<=xs.length/\∃δ,I i δ/\S X.K G δ ((.lst xs,.ref a)::P) σ H,⟨xs.length,by simp,Jp _,δ1,i0,s1⟩,?_⟩;rintro i m σ H ⟨rfl,hi,δ',ii,s'⟩;obtain⟨A,x⟩:=id s';have q:=x.pnd (.lst xs,.ref a) (by simp);simp only[G3] at q;obtain⟨a',vs,e,_,l,r⟩:=q
  cases e
  have l:G4 X.K H a vs:=G4.of l
  have hl:xs.length=vs.length:=Reps.length _ _ r
  by_cases hlt:i<xs.length
  ·obtain⟨v',e',r'⟩:=Reps.get _ _ r i xs[i] (by simp[hlt]);refine .inr ⟨⟨vs,v',l,e'⟩,λσ' H'=>∃δ',I (i+1) δ'/\S X.K G δ' ((.lst xs,.ref a)::P) σ' H',λσ' H' ⟨δ',p',s'⟩=>⟨xs.length-(i+1),by omega,rfl,hlt,δ',p',s'⟩,λy H' hy=>?_⟩;obtain⟨e,hy⟩:=hy;subst e;have:some y=some v':=(hy vs l).symm.trans e'
   cases this
   refine⟨G,δ',(.lst xs,.ref a)::P,xs[i],_,⟨A,x.push r'⟩,aa i xs[i] δ' (by simp[hlt]) ii,λδ2 h2 σ2 H2 s2=>?_⟩
   refine⟨G,δ2,(.lst xs,.ref a)::P,_,s2,h2,λδ3 h3 σ3 H3 s3=>⟨δ3,h3,s3⟩,⟨λd δ3 h3 v3 σ3 H3 s3=>k2.1 d δ3 h3 v3 σ3 H3 (s3.sub λp hp=>by
    rcases HK.mp hp with rfl | hp
    ·simp
    ·simp[hp]),k2.2.1,exs k2.2.2⟩,λδ3 h3 σ3 H3 s3=>k1 δ3 h3 σ3 H3 (s3.sub λp hp=>by simp[hp]),λδ3 h3 σ3 H3 s3=>⟨δ3,h3,s3⟩,λz=>z.elim⟩
  ·have e:i=xs.length:=by omega
   subst e;exact .inl ⟨⟨vs,l,by omega⟩,k1 δ' (ab δ' ii) σ H (s'.sub λp hp=>by simp[hp])⟩
theorem lm(hp:PassesOwn (model X.prog X.w) X.A X.env X.xe)(hc:X.calm=true)(hi:DE X e ta)(hg:DG X tg g)(hb:DSs X body t)(hs:∀x,foldedSetIterable e X.env x=pure x:=by intro _;rfl):DS X (.For tg e body [] pos) (vc ta g t) :=
 PS.imp (ml hp hc (yI hi) hg hb hs) λE σ H ⟨G,δ,P,R,s,h,k1,k2,k3,k4⟩=>up.mk s h λd δ1 h1 v H1 s1=>by
  replace h1:=qT.ex h1;obtain⟨xs,e,I,i0,aa,ab⟩:=h1;subst e;have al:∀δ σ H,S X.K G δ ((.tup xs,v)::P) σ H->∃a vs,v=.ref a/\Ho X.K H a vs/\vs.length=xs.length:=λδ σ H ⟨A,x⟩=>by
   have q:=x.pnd (.tup xs,v) (by simp)
   simp only[G3] at q;obtain⟨a,vs,e,l,r⟩:=q;exact⟨a,vs,e,l,(Reps.length _ _ r).symm⟩
  have ah:∃a vs,v=.ref a/\Ho X.K H1 a vs/\vs.length=xs.length:=al _ _ _ s1
  obtain⟨a,aj,rfl,ai,an⟩:=ah;refine⟨a,rfl,⟨aj,ai⟩,λi m σ H=>m=xs.length-i/\i<=xs.length/\∃δ,I i δ/\S X.K G δ ((.tup xs,.ref a)::P) σ H,⟨xs.length,by simp,Jp _,δ1,i0,s1⟩,?_⟩;rintro i m σ H ⟨rfl,hi,δ',ii,s'⟩;obtain⟨A,x⟩:=id s';have q:=x.pnd (.tup xs,.ref a) (by simp);simp only[G3] at q;obtain⟨a',vs,e,l,r⟩:=q
  cases e
  have hl:xs.length=vs.length:=Reps.length _ _ r
  by_cases hlt:i<xs.length
  ·obtain⟨v',e',r'⟩:=Reps.get _ _ r i xs[i] (by simp[hlt]);refine .inr ⟨⟨vs,v',l,e'⟩,λσ' H'=>∃δ',I (i+1) δ'/\S X.K G δ' ((.tup xs,.ref a)::P) σ' H',λσ' H' ⟨δ',p',s'⟩=>⟨xs.length-(i+1),by omega,rfl,hlt,δ',p',s'⟩,λy H' hy=>?_⟩;obtain⟨e,hy⟩:=hy;subst e;have:some y=some v':=(hy vs l).symm.trans e'
   cases this
   refine⟨G,δ',(.tup xs,.ref a)::P,xs[i],_,⟨A,x.push r'⟩,aa i xs[i] δ' (by simp[hlt]) ii,λδ2 h2 σ2 H2 s2=>?_⟩
   refine⟨G,δ2,(.tup xs,.ref a)::P,_,s2,h2,λδ3 h3 σ3 H3 s3=>⟨δ3,h3,s3⟩,⟨λd δ3 h3 v3 σ3 H3 s3=>k2.1 d δ3 h3 v3 σ3 H3 (s3.sub λp hp=>by
    rcases HK.mp hp with rfl | hp
    ·simp
    ·simp[hp]),k2.2.1,exs k2.2.2⟩,λδ3 h3 σ3 H3 s3=>k1 δ3 h3 σ3 H3 (s3.sub λp hp=>by simp[hp]),λδ3 h3 σ3 H3 s3=>⟨δ3,h3,s3⟩,λz=>z.elim⟩
  ·have e:i=xs.length:=by omega
   subst e;exact .inl ⟨⟨vs,l,by omega⟩,k1 δ' (ab δ' ii) σ H (s'.sub λp hp=>by simp[hp])⟩
theorem AQ(hp:PassesOwn (model X.prog X.w) X.A X.env X.xe)(hc:X.calm=true)(hgl:Gl X "range")(hm:X.mg "range"=none)(ha:DA X [a] tda)(hg:DG X tg g)(hb:DSs X body t)
  (hse:starEach [a] X.env=[(false,eval a X.env)]:=by rfl) (hs:∀x,foldedSetIterable (.Call (.Name "range" p) [a] [] pos') X.env x=pure x:=by intro _;rfl) :
  DS X (.For tg (.Call (.Name "range" p) [a] [] pos') body [] pos) (CU tda g t) :=
 PS.imp (ml hp hc (mI hgl hm ha hse) hg hb hs) λE σ H ⟨G,δ,P,R,s,h,k1,k2,k3,k4⟩=>⟨G,δ,P,_,s,h,λds δ1 h1 vs H1 hl s1=>by
  replace h1:=qC.ex h1;obtain⟨x,r,e,h1⟩:=h1;replace h1:=qN.ex h1;obtain⟨e',h1⟩:=h1;replace h1:=qI.ex h1;obtain⟨j,e2,h1,h2,I,i0,aa,ab⟩:=h1;subst e2 e' e
  match vs,hl with
  | [v],_ =>
   have q:v=.int j:=by
    obtain⟨A,x⟩:=s1;have q:=x.pnd (.int j,v) (by simp);simpa only[G3] using q
   subst q;have s2:S X.K G δ1 P σ H1:=s1.sub λp hp=>by simp[hp]
   refine⟨j,rfl,h1,h2,v5 (lo:=0) (n:=j.toNat) (λi σ H=>∃δ,I i δ/\S X.K G δ P σ H) ⟨δ1,i0,s2⟩ (λi σ H hi ⟨δ',ii,s'⟩=>?_) λσ H ⟨δ',ii,s'⟩=>k1 δ' (ab δ' ii) σ H s'⟩;refine⟨G,δ',P,.int (0+i),_,s'.sc rfl,(by have q:=aa i δ' hi ii;rw[J1];exact q),λδ2 h2 σ2 H2 s2=>?_⟩
   exact⟨G,δ2,P,_,s2,h2,λδ3 h3 σ3 H3 s3=>⟨δ3,h3,s3⟩,k2,k1,λδ3 h3 σ3 H3 s3=>⟨δ3,h3,s3⟩,λz=>z.elim⟩⟩
end
end DL
namespace DL
open PySem PySem.Spec PyProof.Rows L2
section
theorem C0{K:Zf}{M:Addr->Prop}{H:Hp}{a:D}{x:V}(h:Reps K M H [a] [x]):G3 K M H a x:=by
 unfold Reps at h;obtain⟨v,r,e,q,_⟩:=h
 cases e
 exact q
theorem b7{K:Zf}{M:Addr->Prop}{H:Hp}{b:D}{y:V}(h:Reps K M H [a,b] [x,y]):G3 K M H a x/\G3 K M H b y:=by
 unfold Reps at h;obtain⟨v,r,e,q,h⟩:=h
 cases e
 exact⟨q,C0 h⟩
theorem aY{K:Zf}{M:Addr->Prop}{H:Hp}{a:D}(h:Reps K M H [a] vs):∃x,vs=[x]/\G3 K M H a x:=by
 unfold Reps at h;obtain⟨v,r,e,q,h⟩:=h;unfold Reps at h;subst h;exact⟨v,e,q⟩
theorem kP{K:Zf}{M:Addr->Prop}{H:Hp}{b:D}(h:Reps K M H [a,b] vs):∃x y,vs=[x,y]/\G3 K M H a x/\G3 K M H b y:=by
 unfold Reps at h;obtain⟨v,r,e,q,h⟩:=h;obtain⟨y,e2,q2⟩:=aY h;subst e2;exact⟨v,y,e,q,q2⟩
theorem aM{K:Zf}{M:Addr->Prop}{H:Hp}(h:G3 K M H (.int i) v):v=.int i:=by unfold G3 at h;exact h
theorem gm{K:Zf}{M:Addr->Prop}{H:Hp}(h:G3 K M H (.bl i) v):v=.bl i:=by unfold G3 at h;exact h
theorem bv{K:Zf}{M:Addr->Prop}{H:Hp}(h:G3 K M H (.str i) v):v=.str i:=by unfold G3 at h;exact h
end
def fI0(g:Int->Int->D):Zi->(D->Prop)->Prop
 | [.int i,.int j],R=>R (g i j)
 | _,_=>False
def fI(C:Int->Int->Prop)(g:Int->Int->D):Zi->(D->Prop)->Prop
 | [.int i,.int j],R=>C i j/\R (g i j)
 | _,_=>False
def fU(g:Int->D):Zi->(D->Prop)->Prop
 | [.int i],R=>R (g i)
 | _,_=>False
theorem Ff:fI0 g [.int a,.int b] R=R (g a b):=rfl
theorem FQ:fI C g [.int a,.int b] R=(C a b/\R (g a b)):=rfl
theorem F1:fU g [.int a] R=R (g a):=rfl
theorem CB(h:fI0 g ds R):∃i j,ds=[.int i,.int j]/\R (g i j):=by
 unfold fI0 at h
 split at h
 ·exact⟨_,_,rfl,h⟩
 ·exact h.elim
theorem Gw(h:fI C g ds R):∃i j,ds=[.int i,.int j]/\C i j/\R (g i j):=by
 unfold fI at h
 split at h
 ·exact⟨_,_,rfl,h⟩
 ·exact h.elim
theorem Dw(h:fU g ds R):∃i,ds=[.int i]/\R (g i):=by
 unfold fU at h
 split at h
 ·exact⟨_,rfl,h⟩
 ·exact h.elim
def CFd(_ j:Int):Prop:=j≠0/\j.natAbs.log2<9000
def CNz(_ j:Int):Prop:=j≠0
section
variable {X:Cx}
theorem yi{f:Value->Value->Sem Value}{g':Int->Int->V}{g:Int->Int->D}(h:Hr X f (rI0 g'))(hs:∀i j,sc (g i j)=some (g' i j)):Hr X f λx y=>aT X.K (fI0 g) [x,y] :=
 Hr.imp h λx y H Q ⟨M,ds,R,m,rs,hf,k⟩=>by
  obtain⟨i,j,e,r⟩:=CB hf;subst e;obtain⟨h1,h2⟩:=b7 rs;exact⟨i,j,aM h1,aM h2,k _ r _ H (bE.refl H) (G3.sc (hs i j))⟩
theorem opI{f:Value->Value->Sem Value}{C C':Int->Int->Prop}{g':Int->Int->V}{g:Int->Int->D}(h:Hr X f (rI C' g'))(hs:∀i j,sc (g i j)=some (g' i j))(hc:∀i j,C i j->C' i j):Hr X f λx y=>aT X.K (fI C g) [x,y] :=
 Hr.imp h λx y H Q ⟨M,ds,R,m,rs,hf,k⟩=>by
  obtain⟨i,j,e,c,r⟩:=Gw hf;subst e;obtain⟨h1,h2⟩:=b7 rs;exact⟨i,j,aM h1,aM h2,hc i j c,k _ r _ H (bE.refl H) (G3.sc (hs i j))⟩
theorem F8:Hr X (binaryOp .Add) λx y=>aT X.K (fI0 λi j=>.int (i+j)) [x,y]:=yi E9 λ_ _=>rfl
theorem AX:Hr X (binaryOp .Sub) λx y=>aT X.K (fI0 λi j=>.int (i-j)) [x,y]:=yi Ej λ_ _=>rfl
theorem Bv:Hr X (binaryOp .Mult) (rI IntMulOk λi j=>.int (i*j)):=L2.opI λ_ _ _ _ _ _ _ hc q=>mul_int q hc
theorem bT:Hr X (binaryOp .Mult) λx y=>aT X.K (fI IntMulOk λi j=>.int (i*j)) [x,y]:=opI Bv (λ_ _=>rfl) λ_ _ h=>h
theorem wq:Hr X (binaryOp .FloorDiv) (rI CFd λi j=>.int (i.fdiv j)):=L2.opI λ_ _ _ _ _ _ _ hc q=>floordiv_int hc.1 q (.inl (PyProof.noPylong_of_log2 hc.2))
theorem cO:Hr X (binaryOp .FloorDiv) λx y=>aT X.K (fI CFd λi j=>.int (i.fdiv j)) [x,y]:=opI wq (λ_ _=>rfl) λ_ _ h=>h
theorem dB:Hr X (binaryOp .Mod) λx y=>aT X.K (fI CNz λi j=>.int (i.fmod j)) [x,y]:=opI AV (λ_ _=>rfl) λ_ _ h=>h
theorem E6:Hr X (binaryOp .Pow) λx y=>aT X.K (fI CPow λi j=>.int (i ^ j.toNat)) [x,y]:=opI Ek (λ_ _=>rfl) λ_ _ h=>h
theorem sQ:Hr X (compareOp .Lt) λx y=>aT X.K (fI0 λi j=>.bl (decide (i<j))) [x,y]:=yi FJ λ_ _=>rfl
theorem o_le:Hr X (compareOp .LtE) λx y=>aT X.K (fI0 λi j=>.bl (decide (i<=j))) [x,y]:=yi FZ λ_ _=>rfl
theorem sO:Hr X (compareOp .Gt) λx y=>aT X.K (fI0 λi j=>.bl (decide (j<i))) [x,y]:=yi Gu λ_ _=>rfl
theorem o_ge:Hr X (compareOp .GtE) λx y=>aT X.K (fI0 λi j=>.bl (decide (j<=i))) [x,y]:=yi Gb λ_ _=>rfl
theorem dD:UnR X (unaryOp .USub) λx=>aT X.K (fU λi=>.int (-i)) [x] :=
 UnR.imp Fr λx H Q ⟨M,ds,R,m,rs,hf,k⟩=>by
  obtain⟨i,e,r⟩:=Dw hf;subst e;exact⟨i,aM (C0 rs),k _ r _ H (bE.refl H) (G3.sc rfl)⟩
theorem Cz:bR X (.builtin "abs") (aT X.K (fU λi=>.int (if i<0 then -i else i))) :=
 bR.imp ym λxs H Q ⟨M,ds,R,m,rs,hf,k⟩=>by
  obtain⟨i,e,r⟩:=Dw hf;subst e;obtain⟨x,e,q⟩:=aY rs;subst e;exact⟨i,by rw[aM q],k _ r _ H (bE.refl H) (G3.sc rfl)⟩
def Cm:Zi->(D->Prop)->Prop
 | [.lst xs],R=>R (.int xs.length)
 | [.fz xs],R=>R (.int xs.length)
 | [.tup xs],R=>R (.int xs.length)
 | _,_=>False
theorem Cb:∀ {d0:Zi} {R:D->Prop},Cm d0 R->((∃(xs:Zi),d0=[.lst xs]/\R (.int xs.length))\/(∃(xs:Zi),d0=[.fz xs]/\R (.int xs.length))\/(∃(xs:Zi),d0=[.tup xs]/\R (.int xs.length))):=by walk_at "or"
theorem lC:bR X (.builtin "len") (aT X.K Cm) :=
 bR.imp gu λxs H Q ⟨M,ds,R,m,rs,h,k⟩=>by
  have aa:∀n:Nat,R (.int n)->Q (.int n) H:=λn r=>k _ r _ H (bE.refl H) (G3.sc rfl)
  replace h:=Cb h
  rcases h with⟨_,rfl,h⟩ | ⟨_,rfl,h⟩ | ⟨_,rfl,h⟩
  ·obtain⟨x,e,q⟩:=aY rs;unfold G3 at q;obtain⟨a,vs,e2,_,l,r⟩:=q;subst e e2;exact⟨a,vs,rfl,.inl (G4.of l),aa _ (by rw[<- Reps.length _ _ r];exact h)⟩
  ·obtain⟨x,e,q⟩:=aY rs;unfold G3 at q;obtain⟨a,vs,e2,l,r⟩:=q;subst e e2;exact⟨a,vs,rfl,.inl l.seq,aa _ (by rw[<- Reps.length _ _ r];exact h)⟩
  ·obtain⟨x,e,q⟩:=aY rs;unfold G3 at q;obtain⟨a,vs,e2,l,r⟩:=q;subst e e2;exact⟨a,vs,rfl,.inr l,aa _ (by rw[<- Reps.length _ _ r];exact h)⟩
def fInt:Zi->(D->Prop)->Prop
 | [.int i],R=>R (.int i)
 | [.bl b],R=>R (.int (if b then 1 else 0))
 | _,_=>False
theorem AJ:∀ {d0:Zi} {R:D->Prop},fInt d0 R->((∃(i:Int),d0=[.int i]/\R (.int i))\/(∃(b:Bool),d0=[.bl b]/\R (.int (if b then 1 else 0)))):=by walk_at "or"
theorem GL:bR X (.type "int") (aT X.K fInt) :=
 bR.imp vy λxs H Q ⟨M,ds,R,m,rs,h,k⟩=>by
  replace h:=AJ h
  rcases h with⟨_,rfl,h⟩ | ⟨_,rfl,h⟩
  ·obtain⟨x,e,q⟩:=aY rs;subst e;exact .inl ⟨_,by rw[aM q],k _ h _ H (bE.refl H) (G3.sc rfl)⟩
  ·obtain⟨x,e,q⟩:=aY rs;subst e;exact .inr ⟨_,by rw[gm q],k _ h _ H (bE.refl H) (G3.sc rfl)⟩
def Hu(xs:Zi):Int->(D->Prop)->Prop
 | .ofNat n,k=>qV xs[n]? k
 | .negSucc n,k=>qV (Hl xs (.negSucc n)) k
theorem u6:Hl xs (.ofNat n)=xs[n]?:=by
 have h0:(0:Int)<=Int.ofNat n:=Int.natCast_nonneg n
 unfold Hl ixN;rw[HU h0]
 by_cases h:n<xs.length
 ·rw[HU (show Int.ofNat n<(xs.length:Int) from Int.ofNat_lt.mpr h)];rfl
 ·rw[HQ (show ¬ Int.ofNat n<(xs.length:Int) from λz=>h (Int.ofNat_lt.mp z)),IT (Nat.le_of_not_lt h)];rfl
theorem Hu.ex(h:Hu xs i k):∃v,Hl xs i=some v/\k v:=by
 cases i with
 | ofNat n=>rw[u6];exact qV.ex h
 | negSucc n=>exact qV.ex h
theorem Hu.of(e:Hl xs i=some v)(h:k v):Hu xs i k:=by
 cases i with
 | ofNat n=>rw[u6] at e;exact qV.of e h
 | negSucc n=>exact qV.of e h
def fIx:Zi->(D->Prop)->Prop
 | [.tup xs,.int i],R=>Hu xs i R
 | [.lst xs,.int i],R=>Hu xs i R
 | [.fz xs,.int i],R=>Hu xs i R
 | [.str z,.int i],R=>z.length<=9000/\∃c,Hl z.cps.toList i=some c/\R (.str ⟨#[c]⟩)
 | _,_=>False
theorem Dp(h:fIx d0 R):(∃(xs:Zi) (i:Int),d0=[.tup xs,.int i]/\∃v,Hl xs i=some v/\R v)\/(∃(xs:Zi) (i:Int),d0=[.lst xs,.int i]/\∃v,Hl xs i=some v/\R v)\/(∃(xs:Zi) (i:Int),d0=[.fz xs,.int i]/\∃v,Hl xs i=some v/\R v)\/(∃(z:Str) (i:Int),d0=[.str z,.int i]/\z.length<=9000/\∃c,Hl z.cps.toList i=some c/\R (.str ⟨#[c]⟩)):=by
 rcases d0 with _ | ⟨a,_ | ⟨b,_ | ⟨c,l⟩⟩⟩
 ·exact False.elim h
 ·cases a<;>exact False.elim h
 ·cases a<;>first | exact False.elim h | (cases b<;>first | exact False.elim h | exact .inl ⟨_,_,rfl,Hu.ex h⟩ | exact .inr (.inl ⟨_,_,rfl,Hu.ex h⟩) | exact .inr (.inr (.inl ⟨_,_,rfl,Hu.ex h⟩)) | exact .inr (.inr (.inr ⟨_,_,rfl,h⟩)))
 ·cases a<;>first | exact False.elim h | (cases b<;>exact False.elim h)
theorem uY(h:xs.length=ys.length)(e:Hl xs i=some v):∃j:Nat,xs[j]?=some v/\∀w,ys[j]?=some w->Hl ys i=some w:=by
 unfold Hl at e ⊢;rw[h] at e
 cases q:ixN ys.length i with
 | none=>rw[q] at e;cases e
 | some j=>rw[q] at e;exact⟨j,e,λw z=>z⟩
theorem fh:IxR X λx y=>aT X.K fIx [x,y] :=
 IxR.imp Dc λx y H Q ⟨M,ds,R,m,rs,h,k⟩=>by
  have aa:∀(xs:Zi) (vs:Zg) (i:Int) (d:D),Reps X.K M H xs vs->Hl xs i=some d->R d->∃v,Hl vs i=some v/\Q v H:=λxs vs i d r e q=>by
   obtain⟨j,h1,h2⟩:=uY (Reps.length _ _ r) e;obtain⟨v,e',r'⟩:=Reps.get _ _ r j d h1;exact⟨v,h2 v e',k d q v H (bE.refl H) r'⟩
  replace h:=Dp h
  rcases h with⟨_,_,rfl,h⟩ | ⟨_,_,rfl,h⟩ | ⟨_,_,rfl,h⟩ | ⟨_,_,rfl,h⟩
  ·obtain⟨d,e,q⟩:=h;obtain⟨h1,h2⟩:=b7 rs;unfold G3 at h1;obtain⟨a,vs,e2,l,r⟩:=h1;obtain⟨v,e3,q3⟩:=aa _ _ _ _ r e q;exact .inr (.inl ⟨a,vs,_,v,e2,aM h2,l,e3,q3⟩)
  ·obtain⟨d,e,q⟩:=h;obtain⟨h1,h2⟩:=b7 rs;unfold G3 at h1;obtain⟨a,vs,e2,_,l,r⟩:=h1;obtain⟨v,e3,q3⟩:=aa _ _ _ _ r e q;exact .inl ⟨a,vs,_,v,e2,aM h2,G4.of l,e3,q3⟩
  ·obtain⟨d,e,q⟩:=h;obtain⟨h1,h2⟩:=b7 rs;unfold G3 at h1;obtain⟨a,vs,e2,l,r⟩:=h1;obtain⟨v,e3,q3⟩:=aa _ _ _ _ r e q;exact .inl ⟨a,vs,_,v,e2,aM h2,l.seq,e3,q3⟩
  ·obtain⟨hz,c,e,q⟩:=h;obtain⟨h1,h2⟩:=b7 rs;exact .inr (.inr ⟨_,_,c,bv h1,aM h2,small hz,e,k _ q _ H (bE.refl H) (G3.sc rfl)⟩)
def fCat:Zi->(D->Prop)->Prop
 | [.lst xs,.lst ys],R=>xs.length+ys.length<=9000/\R (.lst (xs++ys))
 | _,_=>False
theorem B2:∀ {d0:Zi} {R:D->Prop},fCat d0 R->∃(xs:Zi) (ys:Zi),d0=[.lst xs,.lst ys]/\xs.length+ys.length<=9000/\R (.lst (xs++ys)):=by walk_at "or"
theorem Gd:Hr X (binaryOp .Add) λx y=>aT X.K fCat [x,y] :=
 Hr.imp Dh λx y H Q ⟨M,ds,R,m,rs,h,k⟩=>by
  replace h:=B2 h;obtain⟨_,_,rfl,h⟩:=h
  ·obtain⟨hz,q⟩:=h;obtain⟨h1,h2⟩:=b7 rs;unfold G3 at h1 h2;obtain⟨a,vs,e,_,l,r⟩:=h1;obtain⟨b,ws,e',_,l',r'⟩:=h2;refine⟨a,b,vs,ws,e,e',l,l',small (by rw[<- Reps.length _ _ r,<- Reps.length _ _ r'];exact hz),λp hp=>k _ q _ _ (aF hp _) ?_⟩;unfold G3;exact⟨p,vs++ws,rfl,λz=>m p z hp,av,Reps.kp (Kp.of_same (aF hp _)) _ _ (Reps.append _ _ _ _ r r')⟩
def cut{α:Type}(xs:List α)(lo hi:Option Int):List α:=(xs.drop (HT.sIx xs.length 0 lo)).take (HT.sIx xs.length xs.length hi-HT.sIx xs.length 0 lo)
abbrev TDO:=En->(Option Int->En->Prop)->Prop
inductive UpO(K:Zf)(t:TDO)(σ:L2.St)(H:Hp)(Q:Option Int->Hp->Prop):Prop
 | mk (G:Gf) (δ:En) (P:List (D×V)) (R:Option Int->En->Prop) (s:S K G δ P σ H) (h:t δ R) (k:∀o δ',R o δ'->∀H',S K G δ' P σ H'->Q o H')
def upO(K:Zf)(t:TDO):TO:=UpO K t
def DO(X:Cx)(e:Option Expr)(t:TDO):Prop:=PO X e (upO X.K t)
def uk(δ:En)(R:Option Int->En->Prop):Prop:=R none δ
def Fq(t:GX)(δ:En)(R:Option Int->En->Prop):Prop:=t δ (wd λx δ1=>qI x λi=>R (some i) δ1)
theorem PO.imp(h:PO X e t)(i:∀σ H Q,t' σ H Q->t σ H Q):PO X e t':=λpins s σ H Q I q=>h pins s σ H Q I (i σ H Q q)
theorem cX:DO X none uk:=PO.imp zM λσ H Q ⟨G,δ,P,R,s,h,k⟩=>k none δ h H s
theorem bX(h:DE X e te):DO X (some e) (Fq te):=PO.imp (B7 h) λσ H Q ⟨G,δ,P,R,s,h,k⟩=>up.mk s h λx δ1 h1 v H1 s1=>by
 replace h1:=qI.ex h1;obtain⟨i,e,r⟩:=h1;subst e;obtain⟨A,q⟩:=id s1;exact⟨i,aM (q.pnd (.int i,v) (by simp)),k _ δ1 r H1 (s1.sub λp hp=>by simp[hp])⟩
def fSl:D->Option Int->Option Int->(D->Prop)->Prop
 | .lst xs,lo,hi,R=>R (.lst (cut xs lo hi))
 | .fz xs,lo,hi,R=>R (.lst (cut xs lo hi))
 | .tup xs,lo,hi,R=>¬ (HT.sIx xs.length 0 lo=0/\HT.sIx xs.length xs.length hi=xs.length)/\R (.tup (cut xs lo hi))
 | _,_,_,_=>False
def dSl(te:GX)(tl th:TDO)(δ:En)(R:W->En->Prop):Prop:=te δ (wd λx δ1=>tl δ1 λl δ2=>th δ2 λu δ3=>fSl x l u λd=>R (.d d) δ3)
theorem Reps.cut{K:Zf}{M:Addr->Prop}{H:Hp}(lo hi:Option Int)(r:Reps K M H ds vs):Reps K M H (DL.cut ds lo hi) (sT vs lo hi):=by
 unfold DL.cut sT;rw[Reps.length _ _ r];exact Reps.take _ _ _ (Reps.drop _ _ _ r)
theorem iN{te:GX}{lo hi:Option Expr}(he:DE X e te)(hl:DO X lo tl)(hu:DO X hi th):DE X (.Subscript e (.Slice lo hi none p2) pos) (dSl te tl th) :=
 PE.imp (qi (BS.or zy) he hl hu) λσ H Q ⟨G,δ,P,R,s,h,k,_⟩=>up.mk s h λx δ1 h1 v H1 s1=>⟨G,δ1,(x,v)::P,_,s1,h1,λl δ2 h2 H2 s2=>⟨G,δ2,(x,v)::P,_,s2,h2,λu δ3 h3 H3 s3=>by
  obtain⟨A,q⟩:=id s3;have r:=q.pnd (x,v) (by simp)
  cases x with
  | lst xs =>
   have h3:R (.d (.lst (cut xs l u))) δ3:=h3
   simp only[G3] at r;obtain⟨a,vs,e,_,sq,r⟩:=r;refine .inl ⟨a,vs,e,G4.of sq,λp hp=>?_⟩;have x2:=(q.same (aF hp (.lst (sT vs l u))));refine k _ δ3 h3 (.ref p) _ ⟨A,(x2.sub (P':=P) λp hp=>Hx _ hp).push ?_⟩;unfold G3;exact⟨p,_,rfl,λz=>q.mem p z hp,av,Reps.kp (Kp.of_same (aF hp _)) _ _ (Reps.cut l u r)⟩
  | fz xs =>
   have h3:R (.d (.lst (cut xs l u))) δ3:=h3
   simp only[G3] at r;obtain⟨a,vs,e,sq,r⟩:=r;refine .inl ⟨a,vs,e,sq.seq,λp hp=>?_⟩;have x2:=(q.same (aF hp (.lst (sT vs l u))));refine k _ δ3 h3 (.ref p) _ ⟨A,(x2.sub (P':=P) λp hp=>Hx _ hp).push ?_⟩;unfold G3;exact⟨p,_,rfl,λz=>q.mem p z hp,av,Reps.kp (Kp.of_same (aF hp _)) _ _ (Reps.cut l u r)⟩
  | tup xs =>
   have h3:¬ (HT.sIx xs.length 0 l=0/\HT.sIx xs.length xs.length u=xs.length)/\R (.d (.tup (cut xs l u))) δ3:=h3
   simp only[G3] at r;obtain⟨a,vs,e,sq,r⟩:=r;obtain⟨nf,h3⟩:=h3;refine .inr ⟨a,vs,e,sq,by rw[<- Reps.length _ _ r];exact nf,λp hp=>?_⟩;have x2:=(q.same (aF hp (.tup (sT vs l u))));refine k _ δ3 h3 (.ref p) _ ⟨A,(x2.sub (P':=P) λp hp=>Hx _ hp).push ?_⟩;unfold G3;exact⟨p,_,rfl,Ho.of av,Reps.kp (Kp.of_same (aF hp _)) _ _ (Reps.cut l u r)⟩
  | _=>exact(show False from h3).elim⟩⟩
end
end DL
namespace DL
open PySem PySem.Spec PyProof.Rows L2
def dy(N:Zb)(ds:Zi):En:=ds.map Sl.dat++List.replicate (N.length-ds.length) Sl.no
theorem sZ{K:Zf}{f:Zi->(D->Prop)->Prop}{vs:Zg}{H:Hp}{Q:VK}(h:aT K f vs H Q)(len:∀ds R,f ds R->ds.length=n):vs.length=n:=by
 obtain⟨M,ds,R,m,rs,hf,k⟩:=h;rw[<- Reps.length _ _ rs];exact len ds R hf
theorem pe{K:Zf}{M:Addr->Prop}{H:Hp}(N:Zb)(m:∀b,M b->H b≠none)(rs:Reps K M H ds vs):S K ⟨M,H,λ_=>False⟩ (dy N ds) [] (L2.start N vs) H:=by
 have hl:=Reps.length _ _ rs
 refine⟨λ_=>False,λb o e _=>e,λb e=>e,m,λb h=>h.elim,λb h=>h.elim,λb h=>h.elim,?_,λi d e=>?_,λi a d e=>?_,λi j a d e h1 h2=>?_,λp hp=>(nomatch hp)⟩
 ·unfold dy L2.start;rw[HC,HC,Hv,Hv,Ic,Ic,hl]
 ·unfold dy at e;unfold L2.start
  by_cases hi:i<ds.length
  ·rw[Ij (by rw[Hv];exact hi),HM] at e
   cases hd:ds[i]? with
   | none=>rw[hd] at e;cases e
   | some d' =>
    rw[hd] at e
    cases e
    obtain⟨v,ev,rv⟩:=Reps.get _ _ rs i d hd;refine⟨v,?_,G3.more (λb z=>.inl (z.elim id λq=>q.elim)) _ _ rv⟩;rw[Ij (by rw[Hv];omega),HM,ev];rfl
  ·rw[Ib (by rw[Hv];omega),IH] at e
   split at e<;>cases e
 all_goals
  unfold dy at *;exfalso
 ·by_cases hi:i<ds.length
  ·rw[Ij (by rw[Hv];exact hi),HM] at e
   cases hd:ds[i]? with
   | none=>rw[hd] at e;cases e
   | some d'=>rw[hd] at e;cases e
  ·rw[Ib (by rw[Hv];omega),IH] at e
   split at e<;>cases e
 ·by_cases hi:i<ds.length
  ·rw[Ij (by rw[Hv];exact hi),HM] at h1
   cases hd:ds[i]? with
   | none=>rw[hd] at h1;cases h1
   | some d'=>rw[hd] at h1;cases h1
  ·rw[Ib (by rw[Hv];omega),IH] at h1
   split at h1<;>cases h1
structure Fd(K:Zf)(mg:Str->Zd)(x:Str)(st:Stmt)(ps:Zb):Prop where
 ex:∃(a:Addr) (fd:FuncData),Fun K x x st a fd/\eU K fd ps []/\mg x=some (.ref a)
structure Cal(P:Program)(w:World)(K:Zf)(mg:Str->Zd)(base:Heap)(k:Nat)(x:Str)(ps:Zb)(sp:Sp):Prop where
 ex:∃(a:Addr) (fd:FuncData),f7 P w K mg base CX0 k a fd ps sp/\eU K fd ps []/\PySem.W.keepIn K (.ref a)=true/\mg x=some (.ref a)
section
variable {P:Program} {w:World} {K:Zf} {mg:Str→Zd} {base:Heap}
theorem Cal.mono(C:Cal P w K mg base j x ps sp)(h:j<=k):Cal P w K mg base k x ps sp:=by
 obtain⟨a,fd,F,b,kp,m⟩:=C.ex;exact⟨a,fd,F.mono h,b,kp,m⟩
theorem Fa{st:Stmt}{ps:Zb}{f:Zi->(D->Prop)->Prop}(Fu:Fun K x x st a fd)(Sc:ax N ps (ak st))(len:∀ds R,f ds R->ds.length=ps.length)
    (hbody:∀(cdv:Value) (A:Around) (outer:List Env) (s:Shared) (H:Hp) (E:XK) (ds:Zi) (R:D->Prop),cI k (A.deeper (envOfC x (ak st) s.heap.objs.size a cdv))->f ds R ->
      ∃t,DSs (ni CX0 P w K mg base N x (ak st) a cdv A outer s H E).nox (aU st) t/\t { nx:=λ_=>R .non,rt:=λd _=>R d,ro:=R } (dy N ds)) :
    f7 P w K mg base CX0 (k+1) a fd ps (Hg K f):=by
  refine Fu.ok Sc (λvs H Q E h=>sZ h len) (λcdv A outer s H vs Q E hr h=>?_);obtain⟨M,ds,R,hm,rs,hf,hk⟩:=h;obtain⟨t,ht,hq⟩:=hbody cdv A outer s H E ds R hr hf;refine⟨_,ht,⟨M,H,λ_=>False⟩,dy N ds,[],_,pe N hm rs,hq,λδ' r σ' H' ⟨A',x⟩=>?_,⟨λd δ' r v σ' H' ⟨A',x⟩=>?_,λd r a H' ⟨o1,o2,o3,o4⟩=>hk d r (.ref a) H' (λb o e=>o1 b o e id) (o4.rep o3 λb z=>.inl z),λ_ _ _ z=>z.elim⟩,λ_ h=>h.elim,λ_ h=>h.elim,λz=>z.elim⟩
  · exact hk .non r .non H' (λb o e=>x.old b o e id) (by unfold G3;rfl)
  · exact hk d r v H' (λb o e=>x.old b o e id) (G3.more (λb z=>.inl (.inl z)) _ _ (x.pnd (d,v) (by simp)))
theorem cS{st:Stmt}{ps:Zb}{f:Zi->(D->Prop)->Prop}(F:Fd K mg x st ps)(Sc:ax N ps (ak st))(len:∀ds R,f ds R->ds.length=ps.length)
    (hbody:∀(a:Addr) (cdv:Value) (A:Around) (outer:List Env) (s:Shared) (H:Hp) (E:XK) (ds:Zi) (R:D->Prop),cI k (A.deeper (envOfC x (ak st) s.heap.objs.size a cdv))->f ds R ->
      ∃t,DSs (ni CX0 P w K mg base N x (ak st) a cdv A outer s H E).nox (aU st) t/\t { nx:=λ_=>R .non,rt:=λd _=>R d,ro:=R } (dy N ds)) :
    Cal P w K mg base (k+1) x ps (Hg K f):=by
  obtain⟨a,fd,Fu,b,m⟩:=F.ex;exact⟨a,fd,Fa Fu Sc len (hbody a),b,Fu.kp,m⟩
theorem au(C:Cal X.prog X.w X.K X.mg X.base k x ps (Hg X.K f))(hr:cI k X.A)(hg:Gl X x)(ha:DA X (a::es) t)
  (hdb:(x==("__debug__":Str))=false:=by decide) (he:starEach (a::es) X.env=(false,eval a X.env)::starEach es X.env:=by rfl) (hpl:(backTo pos (starEach es X.env)).any (·.1)=false:=by rfl) :
  DE X (.Call (.Name x p) (a::es) [] pos) (rK f t):=by
 obtain⟨g,fd,F,b,kp,m⟩:=C.ex;exact AN F hr hg m kp b ha hdb he hpl
def zJ(K:Zf):Sp:=λvs H Q _=>∃(a:Addr) (ns:Ze),vs=[.ref a]/\G4 K H a (ns.map V.int)/\Only H/\ns.length<=63/\(∀n∈ns,Builtin.Int.intBits n<=1048576)/\∀H',Q (.bl true) H'
def fLaw:Zi->(D->Prop)->Prop:=λds R=>∃ns:Ze,ds=[.fz (ns.map D.int)]/\ns.length<=63/\(∀n∈ns,Builtin.Int.intBits n<=1048576)/\R (.bl true)
theorem ET(F:f7 P w K mg base CX0 k a fd ps (Hg K fLaw)):f7 P w K mg base CX0 k a fd ps (zJ K) :=
 F.imp λvs H Q E ⟨l,ns,e,sq,on,h63,hb,q⟩=>by
  subst e;refine⟨λ_=>False,[.fz (ns.map D.int)],λd=>d=.bl true,λ_ h=>h.elim,Reps.one ?_,⟨ns,rfl,h63,hb,rfl⟩,λd e v H' _ r=>?_⟩
  ·unfold G3;refine⟨l,ns.map V.int,rfl,?_,Reps.ints ns⟩
   rcases sq with(h | ⟨o,h⟩) | h
   ·rcases on l with z | ⟨o,xs,z⟩
    ·rw[z] at h;cases h
    ·rw[z] at h;cases h
   ·exact .inl ⟨o,h⟩
   ·exact .inr (.inr h)
  ·subst e;rw[gm r];exact q H'
end
end DL
namespace DLH
open PySem PySem.W PySem.Calls PyProof.Rows
theorem iZ{ns:Ze}(h:WData.layableAll [.list (ns.map .int)]=true):∀n∈ns,Builtin.Int.intBits n<=1048576:=λn hn=>by
 have h1:=layableW_arg h _ (HG.mpr rfl)
 have h2:=layableW_item h1 (.int n) (HA.mpr ⟨n,hn,rfl⟩)
 have h3:=(layableW_iff.mp h2).2.2
 simpa only[WData.weight,Builtin.Int.intBits] using h3
theorem attach_callB{l:OpenLaw}{XP:(Str->Zd)->Heap->Prop}{YP:World->Heap->Prop}{d:DefRec}
    (hn:l.most=some n) (hdf:d.params.defaults=[])
    (call:∀(w:World) (s₀ s₁:Shared) (mg mb:Str->Zd) (fa:Addr) (o:Obj) (pm cd doc:Value) (a:Addr) (vs:Zc) (ns:Ze),
      Ground q loose [] XP w s₀ mg mb s₁.heap->YP w s₁.heap ->
      s₁.heap.get? fa=some o->o.data=.func (docDef d.name d.params d.body d.scope pm cd doc)->s₁.heap.CodeRec cd d.name->mg d.name=some (.ref fa) ->
      s₁.heap.get? a=some { cls:=.type "list",data:=.seq vs.toArray }->IntsAre vs ns->ns.length<=n->(∀i∈ns,Builtin.Int.intBits i<=1048576)->s₁.gens=#[] ->
      codeAny (model l.prog w) callerA (.call (.ref fa) ⟨[.ref a],[]⟩) (λr s'=>r=.ok (.ret (.bool true))/\OldK s₁.heap s'.heap/\s'.os=s₁.os/\AllBare s'.gens) s₁) :
    WalkO q loose XP YP l.row.toRowW d [] (λf vs=>PySem.call f vs):=by
  intro w s₀ s₁ mg mb G Y fa o pm cd doc dV kV ho hd al hD an hg args aq as ab ah a0 ao az;obtain rfl:dV=.none:=Dflts.none hD hdf;obtain rfl:kV=.none:=Dflts.noKw hD;obtain⟨a,vs,ns,rfl,rfl,aj,aa,ai⟩:=Att.script_of hn ab ao;refine enter_call (KP (call w s₀ s₁ mg mb fa o pm cd doc a vs ns G Y ho (fd_plain hd) al an aj aa ai (iZ ah) hg) λr s' hq=>?_);obtain⟨rfl,h2,h3,h4⟩:=hq;exact⟨.inl ⟨.bool true,.bool true,[],rfl,λ_=>rfl,.bool true,Att.post_true l _,λ_=>⟨List.Pairwise.nil,λ_ hm=>(nomatch hm)⟩⟩,h2,h3,h4⟩
end DLH
namespace DL
open PySem PySem.Spec PyProof.Rows L2
theorem walkB{l:PySem.W.OpenLaw}{XP:(Str->Zd)->Heap->Prop}{YP:World->Heap->Prop}{d:DefRec}{K:Params->Zf}{x:Str}
    (hn:l.most=some 63) (hdf:d.params.defaults=[]) (hr:cI k PySem.callerA) (hY:∀(w:World) (h:Heap),YP w h->(K w.params).In h)
    (F:∀(w:World) (mg:Str->Zd) (fa:Addr) (h:Heap),(K w.params).In h->h.Ns mainGlobals mg->mg d.name=some (.ref fa) ->
      ∃fd:FuncData,(∀(s:Shared) (u:Value),BindsTo s fd ⟨[u],[]⟩ [(x,u)])/\∀base:Heap,(K w.params).In base->base.Ns mainGlobals mg->f7 l.prog w (K w.params) mg base CX0 k fa fd [x] (zJ (K w.params))) :
    PySem.W.WalkO q loose XP YP l.row.toRowW d [] (λf vs=>PySem.call f vs):=by
  refine DLH.attach_callB hn hdf λw s₀ s₁ mg mb fa o pm cd doc a vs ns G Y ho hd hcd hmg hobj hints hlen hbits hg=>?_;have KX:=hY w _ Y;obtain⟨fd,hb,hF⟩:=F w mg fa _ KX G.T.g hmg;exact xa KX G.T.g G.T.b G.T.builtins G.T.nolimit hg hobj hints (Hz hlen (by decide)) hr hF hb (λH hO hS=>⟨a,ns,rfl,hS,hO,hlen,hbits,λ_=>rfl⟩) λH e s' z=>z
def vR(ifs:List Expr)(env:Env):Sem Bool:=forIn ifs true λc r=>if r=true then do let ok<-isTrue c env (eval c env);pure (ForInStep.yield ok) else pure (ForInStep.yield r)
def PF(X:Cx)(ifs:List Expr)(t:TT):Prop :=
 ∀(pins:List (Addr×Obj)) (s:Shared) (σ:L2.St) (H:Hp) (Q:Bool->Hp->Prop),Inv X pins σ H s->t σ H Q->wpAny (model X.prog X.w) X.A (vR ifs X.env) (TP X pins σ Q) X.xe s
theorem C7:PF X [] (λ_ H Q=>Q true H):=λ_ _ _ H _ I h=>wpAny_tests_nil ⟨H,I,h⟩
theorem CM(h:PT X c t):PF X [c] t:=λpins s σ H Q I q=>wpAny_tests_one (h pins s σ H Q I q)
theorem ee(I:Nat->Shared->Prop)
    (turn:∀n s,I n s->wpAny (model prog w) A (pyNext it) (λr s₁=>match r with
      | none=>R (.ok .next) s₁
      | some v=>wpAny (model prog w) A (letOwnedTupleGo target it v) (λ_ s₁'=>wpAny (model prog w) A (assign target env v) (λ_ s₂ =>
          wpAny (model prog w) A (vR ifs env) (λok s₃ =>
            if ok=true then wpAny (model prog w) A (eval elt env) (λx s₄ =>
              wpAny (model prog w) A (call (.builtin "list.append") [acc,x]) (λ_ s₅=>∃m,m<n/\I m s₅) (λ_ _=>False) s₄) (λ_ _=>False) s₃
            else ∃m,m<n/\I m s₃) (λ_ _=>False) s₂) (λ_ _=>False) s₁') (λ_ _=>False) s₁) (λ_ _=>False) s)
    (n:Nat) (h:I n s) :
    codeAny (model prog w) A (.compLoop (.ListComp elt [⟨target,iter,ifs,0⟩] scope pos) 0 it acc env) R s:=by
  refine codeAny_loop rfl I (λn s hI=>?_) n h;show wpAny _ A ((compTurn (.ListComp elt [⟨target,iter,ifs,0⟩] scope pos) 0 it acc env).onRaise (λx=>do noteFrame x env;theTreesLotGoes x)) _ _ s;refine wpAny_noted ?_;rw[compTurn_list];refine Hw (J3 (Hw (IU (turn n s hI) (λr s₁ h₁=>?_) λ_ _ h'=>h'.elim)))
  cases r with
  | none=>exact HI h₁
  | some v =>
    refine Hw (IU h₁ (λ_ s₁' h₁'=>?_) λ_ _ h'=>h'.elim);refine Hw (IU h₁' (λ_ s₂ h₂=>Hw (IU h₂ (λok s₃ h₃=>?_) λ_ _ h'=>h'.elim)) λ_ _ h'=>h'.elim)
    cases ok with
    | false=>exact HI ⟨rfl,h₃⟩
    | true =>
      exact Hw (Hw (IU h₃ (λx s₄ h₄=>Hw (IU h₄ (λ_ s₅ h₅=>HI (HI ⟨rfl,h₅⟩)) λ_ _ h'=>h'.elim)) λ_ _ h'=>h'.elim))
theorem lM:∀ {names:List (Str×NameKind)} {n:Nat} {acc:List (Str×Addr)},cellsFrom n names acc=cellsFrom n names []++acc
 | [],_,_=>rfl
 | (x,k)::r,n,acc=>by
  unfold cellsFrom
  by_cases h:(k==NameKind.cell)=true
  ·rw[HU h,HU h,lM (names:=r) (acc:=(x,n)::acc),lM (names:=r) (acc:=[(x,n)]),J5];rfl
  ·rw[HQ h,HQ h];exact lM
theorem nT:∀ {names:List (Str×NameKind)} {n:Nat} {acc:List (Str×Addr)},(x,c)∈cellsFrom n names acc->(x,c)∈acc\/(x,NameKind.cell)∈names
 | [],_,_,h=>.inl h
 | (y,k)::r,n,acc,h=>by
  unfold cellsFrom at h
  by_cases hk:(k==NameKind.cell)=true
  ·rw[HU hk] at h
   rcases nT h with z | z
   ·rcases HK.mp z with e | e
    ·cases e;rw[eq_of_beq hk];exact .inr (HB ..)
    ·exact .inl e
   ·exact .inr (Hx _ z)
  ·rw[HQ hk] at h;exact(nT h).imp id (Hx _)
theorem wA{E:Value->Shared->Prop}{s:Shared}{scope:Scope}{code:Value}{Q:Env->Shared->Prop}
    (q:∀h',h'.Ns s.heap.objs.size (λ_=>none)->(∀b o,s.heap.get? b=some o->h'.get? b=some o)->(∀x c,(x,c)∈cellsFrom (s.heap.objs.size+1) scope.names []->h'.IsCell c none/\s.heap.objs.size+1<=c)->((cellsFrom (s.heap.objs.size+1) scope.names []).Pairwise λx y=>x.2≠y.2) ->
      Q (newEnv scope s.heap.objs.size globals (cellsFrom (s.heap.objs.size+1) scope.names []++cl) qual func code (some outer) bs) { s with heap:=h' }):wpAny M A (newFunctionEnv scope globals cl [] qual func code (some outer) bs) Q E s:=by
  unfold newFunctionEnv;refine Hw (wpAny_alloc (Hw (wpAny_layCells _ (λname kind cells=>by cases hkc:kind==NameKind.cell<;>simp[hkc]) _ _ _ _ ?_)))
  have ok:=cellsFrom_ok scope.names (s.heap.push { cls:=.type "dict",data:=.dict #[] }) (s.heap.objs.size+1) [] ⟨λ_ _ hm=>(nomatch hm),List.Pairwise.nil⟩ (by rw[Jm];exact HD _)
  rw[Jm] at ok;rw[show ({ s with heap:=s.heap.push { cls:=.type (if (some outer).isSome=true then "dict" else "frame"),data:=.dict #[] } }:Shared).heap.objs.size=s.heap.objs.size+1 from Jm ..,lM];exact Hw (HI (HI (q _ ((Heap.Ns.new s.heap (.type "dict")).keeps (pushCells_keeps _ _)) (λb o e=>pushCells_keeps _ _ b o (Hy _ e)) (λx c h=>ok.empty x c h) ok.apart)))
def cY(X:Cx)(N':Zb)(scope:Scope)(cl:List (Str×Addr))(s2:Shared)(H2:Hp)(C:Addr)(fp:List Addr)(pn:List (Addr×Obj)):Cx where
 prog:=X.prog
 w:=X.w
 K:=X.K
 mg:=X.mg
 base:=X.base
 A:=X.A
 N:=N'
 s₀:=s2
 H₀:=H2
 env:=compEnvC scope (cellsFrom (C+1) scope.names []++cl) C X.env
 outer:=X.stack
 stack:=X.stack
 ex:=fp
 fn:=λx=>scope.names.lookup x==some .cell
 calm:=X.calm
 pn:=pn
 xe:=λ_ _=>False
def wg(nt:Nat)(caps:List (Nat×Str))(σ:L2.St):L2.St:=List.replicate nt none++caps.map λp=>(σ[p.1]?).join
def zW(wi:TI)(nt:Nat)(caps:List (Nat×Str))(g:TG)(tc:TT)(te:TE):TE:=λσ H Q=>wi σ H λJ H1=>∀p,H1 p=none ->
 ∃W:Nat->Nat->Zg->L2.St->Hp->Prop,(∃m,W 0 m [] (wg nt caps σ) (G6 H1 p (.lst [])))/\∀i m xs σ' H',W i m xs σ' H'->(J.stop i H'/\Q (.ref p) H')\/(J.go i H'/\∀x H2,J.yld i H' x H2 ->
  g x σ' H2 λσ2 H3=>tc σ2 H3 λb H4=>if b=true then te σ2 H4 λy H5=>H5 p=some (.lst xs)/\xs.length<sizeLine/\∃m',m'<m/\W (i+1) m' (xs++[y]) σ2 (G6 H5 p (.lst (xs++[y]))) else ∃m',m'<m/\W (i+1) m' xs σ2 H4)
theorem qM(tn:Zb)(caps:List (Nat×Str))
    (hcalm:X.calm=true) (hclos:closureFor scope X.env=pure cl) (hcell:∀p∈caps,(p.2,NameKind.cell)∉scope.names) (hkind:scope.kind=.function) (hnames:∀y∈scope.names,y.2=.local->scope.names.lookup y.1=some .local)
    (hcl:∀x c,cl.lookup x=some c->X.env.cells.lookup x=some c) (hhas:∀(n:Nat) x,((relabel scope X.env).names.lookup x=some .cell\/(relabel scope X.env).names.lookup x=some .free)->∃c,(cellsFrom n scope.names []++cl).lookup x=some c)
    (hcap:∀p∈caps,X.N[p.1]?=some p.2/\X.env.scope.names.lookup p.2=some .cell/\((relabel scope X.env).names.lookup p.2=some .cell\/(relabel scope X.env).names.lookup p.2=some .free))
    (hi:PI X.nox tgt iter wi)
    (hb:∀s2 H2 C fp pn,PG (cY X (tn++caps.map (·.2)) scope cl s2 H2 C fp pn) tgt g/\PF (cY X (tn++caps.map (·.2)) scope cl s2 H2 C fp pn) ifs tc/\PE (cY X (tn++caps.map (·.2)) scope cl s2 H2 C fp pn) elt te)
    (hs:∀x,foldedSetIterable iter X.env x=pure x:=by intro _;rfl)
 (pins:List (Addr×Obj)) (s:Shared) (σ:L2.St) (H:Hp) (Q:VK) (I:Inv X.nox pins σ H s) (h:zW wi tn.length caps g tc te σ H Q)
    (fin:∀p C m4 H3 s4,Inv X.nox pins σ H3 s4->s4.heap.Ns C m4->wo X.nox pins H3 C->Q (.ref p) H3->compPost (model X.prog X.w) X.A (λ_ _=>False) use Qf (.ref p) C (.ok .next) s4) :
    wpAny (model X.prog X.w) X.A (comprehension (.ListComp elt [⟨tgt,iter,ifs,0⟩] scope pos) scope X.env posF (newList []) false (eval iter X.env) use) Qf (λ_ _=>False) s:=by
  refine wpAny_comprehension_free (use:=use) rfl hs hclos hkind hnames (IU (hi pins s σ H _ I h) (λx s₁ h₁=>IU h₁ (λitv s₂ h₂=>?_) λ_ _ e=>e) λ_ _ e=>e);obtain⟨it,fp,bi,J,H1,rfl,I1,T,st,ah,q⟩:=h₂;refine Je (wA λh₁ hns₁ hkp hcs hap=>?_)
  dsimp only at hns₁ hkp hcs hap ⊢
  generalize hH2:s₂.heap.push { cls:=.type "list",dict:=none,data:=.seq ([]:Zc).toArray }=Hq at hns₁ hkp hcs hap ⊢
  have hC:Hq.objs.size=s₂.heap.objs.size+1:=by rw[<- hH2,Jm]
  generalize hCe:Hq.objs.size=C at hns₁ hcs hap hC ⊢
  generalize hpe:s₂.heap.objs.size=p at hC ⊢
  obtain⟨m1,hns₁⟩:∃m,h₁.Ns C m:=⟨_,hns₁⟩;have ck:p≠C:=Iq (by rw[hC];exact Nat.lt_succ_self _);have ao:∀b,b<s₂.heap.objs.size->b≠C/\b≠p:=λb hb=>⟨Iq (by rw[hC,<- hpe];exact Kt hb),Iq (by rw[<- hpe];exact hb)⟩;have az:s₂.heap.objs.size<=p:=Nat.le_of_eq hpe;have ab:s₂.heap.objs.size<=C:=by rw[hC,<- hpe];exact Nat.le_succ _
  have an:∀b o,s₂.heap.get? b=some o->h₁.get? b=some o:=λb o e=>hkp b o (hH2 ▸ Hy _ e)
  have bz:h₁.get? p=some { cls:=.type "list",data:=.seq ([]:Zc).toArray 0 }:=by
    refine hkp p _ ?_;rw[<- hpe];exact hH2 ▸ HX _ rfl
  generalize hown:cellsFrom (C+1) scope.names []=own at hcs hap ⊢
  have look:∀x c,(own++cl).lookup x=some c->(x,c)∈own\/cl.lookup x=some c:=λx c e=>by
    rw[List.lookup_append] at e
    cases z:own.lookup x with
    | some d=>rw[z] at e;cases e;exact .inl (mem_of_lookup z)
    | none=>rw[z] at e;exact .inr e
  have b1:∀pr∈caps,own.lookup pr.2=none:=λpr hp=>by
    cases z:own.lookup pr.2 with
    | none=>rfl
    | some d =>
      rcases nT (hown ▸ mem_of_lookup z) with e | e
      · cases e
      · exact absurd e (hcell pr hp)
  have aq:∀x c,(x,c)∈own->C<c:=λx c e=>(hcs x c e).2
  have bb:H1 p=none:=I1.hok.fresh az
  have as:H1 C=none:=I1.hok.fresh ab
  obtain⟨W,⟨m0,w0⟩,b2⟩:=q p bb;have bj:∃X',X'=cY X (tn++caps.map (·.2)) scope cl s₂ H1 C fp (X.pn++pins):=⟨_,rfl⟩;obtain⟨X',aa⟩:=bj;have bd:∀b∈frs X.stack,b=X.env.locals\/b∈X.fs:=λb hb=>HK.mp (I1.stkSub b hb);have aj:∀b∈fp,b<s₂.heap.objs.size:=λb hb=>let ⟨_,e,_⟩:=T.obj _ _ st b hb;HN e;have be:∀b∈fp,b∉frs X.stack:=λb hb z=>(bd b z).elim (λe=>(ah b hb).2.1 e) λe=>(ah b hb).2.2.1 e;have al:∀x c,cl.lookup x=some c->c<s₂.heap.objs.size/\H1 c=none:=λx c e=>by
    obtain⟨v,hv⟩:=I1.cell x c (hcl x c e);exact⟨hv.lt,I1.freeC x c (hcl x c e)⟩
  have ai:∀x c,(x,c)∈own->∀b,b<s₂.heap.objs.size->c≠b:=λx c e b hb z=>absurd (HW hb ab) (Nat.not_lt.mpr (JK (by rw[<- z];exact aq x c e)))
  have ok:X'.Ok:=by
    subst aa;have o:=I1.ok
    exact { mod:=o.mod
            kind:=by show (relabel scope X.env).kind=.function;exact hkind
            glob:=o.glob
            blt:=o.blt
            above:=ab
            inj:=λx y c h1 h2=>by
              replace h1:=look x c (hown ▸ h1);replace h2:=look y c (hown ▸ h2)
              rcases h1 with h1 | h1<;>rcases h2 with h2 | h2
              · exact name_of_addr hap h1 h2
              · exact absurd rfl (ai x c h1 c (al y c h2).1)
              · exact absurd rfl (ai y c h2 c (al x c h1).1)
              · exact o.inj x y c (hcl x c h1) (hcl y c h2)
            has:=λx hx=>hhas _ x hx
            cab:=λx c h1 h2=>by
              obtain⟨d,hd⟩:=lJ (sc:=scope) (n:=C+1) (eq_of_beq h1);have h2:(cellsFrom (C+1) scope.names []++cl).lookup x=some c:=h2;rw[List.lookup_append,hd] at h2
              cases h2
              exact Hz ab (JK (aq x _ (hown ▸ mem_of_lookup hd)))
            hd:=o.hd
            frames:=o.frames
            stk:=.inl rfl
            exf:=λb hb=>⟨(ao b (aj b hb)).1,λx c e=>(look x c (hown ▸ e)).elim (λz=>ai x c z b (aj b hb)) λz=>(ah b hb).2.2.2.2.1 x c (hcl x c z)⟩
            bs:=λb ob e=>I1.bs b ob e
            bsz:=Hz o.bsz I1.sz
            noex:=λb ob e hb=>by
              obtain⟨_,_,_,hh,_⟩:=ah b hb
              rcases hh with hh | hh
              · exact o.noex b ob e hh
              · exact absurd (HN (I1.ok.bs b ob e).1) (Nat.not_lt.mpr hh)
            exfs:=be
            funs:=I1.stack
            frf:=I1.stkFree }
  have bl:∀(m:Str->Zd) (i:Nat) (x:Str) (v:V),X'.N[i]?=some x->(wg tn.length caps σ)[i]?=some (some v)->Vis X'.env.scope x->∃u,a5 v u/\Look X'.env h₁ m x u:=by
    subst aa;intro m i x v hN hσ hv;have hN:(tn++caps.map (·.2))[i]?=some x:=hN;unfold wg at hσ
    by_cases hi:i<tn.length
    · rw[Ij (by rw[Ic];exact hi),IH,HU hi] at hσ
      cases hσ
    · rw[Ib (by rw[Ic];omega),Ic] at hσ;rw[Ib (by omega)] at hN;rw[HM] at hσ hN
      cases hc:caps[i-tn.length]? with
      | none=>rw[hc] at hN;cases hN
      | some pr =>
        rw[hc] at hN hσ;have hN:pr.2=x:=HR hN;have hσ:(σ[pr.1]?).join=some v:=HR hσ;obtain⟨c1,c2,c3⟩:=hcap pr (HY hc);subst hN;have b4:σ[pr.1]?=some (some v):=by
          cases z:σ[pr.1]? with
          | none=>rw[z] at hσ;cases hσ
          | some o=>rw[z] at hσ;exact Jf some hσ
        obtain⟨m1,co,cn⟩:=I1.loc;obtain⟨u,ru,lk⟩:=cn pr.1 pr.2 v c1 b4 (.inr (.inl c2));refine⟨u,ru,.inr ⟨c3,?_⟩⟩
        rcases lk with⟨k,_⟩ | ⟨_,c,ec,ic⟩
        · have k:X.env.scope.names.lookup pr.2=some .local :=k
          rw[c2] at k
          cases k
        · obtain⟨c',bn⟩:=hhas (C+1) pr.2 c3;have bo:=bn;rw[hown,List.lookup_append,b1 pr (HY hc)] at bo;have e1:=hcl _ _ bo;have ec:X.env.cells.lookup pr.2=some c:=ec;rw[ec] at e1
          cases e1
          exact⟨c,bn,ic.keeps an⟩
  have b5:Un (frs X.stack) fp H1 (G6 H1 p (.lst [])) s₂.heap h₁:=Un.laid an az bb
  have I4:∀tk,Inv X' [] (wg tn.length caps σ) (G6 H1 p (.lst [])) { s₂ with heap:=h₁,toks:=tk }:=λtk=>by
    have hN:X'.N=tn++caps.map (·.2):=by rw[aa];rfl
    refine⟨ok,?_,I1.bare,?_,⟨m1,?_,λi x v e1 e2 e3=>?_⟩,λx c e=>?_,?_,λx c e=>?_,λpr hp=>?_,?_,?_⟩
    · rw[aa];rfl
    · rw[aa];exact b5
    · rw[aa];exact hns₁
    · exact bl _ i x v e1 e2 e3
    · rw[aa] at e
      rcases look x c (hown ▸ e) with e | e
      · exact⟨_,(hcs x c e).1⟩
      · obtain⟨v,hv⟩:=I1.cell x c (hcl x c e);exact⟨v,hv.keeps an⟩
    · rw[aa];show G6 H1 p (.lst []) C=none;rw[aG (Jr ck)];exact as
    · rw[aa] at e;show G6 H1 p (.lst []) c=none
      rcases look x c (hown ▸ e) with e | e
      · have:=aq x c e
        rw[aG (λz=>Ir p (Nat.lt_trans (hC ▸ Nat.lt_succ_self p) (z ▸ this)))];exact I1.hok.fresh (Hz ab (JK this))
      · have hc:=al x c e
        rw[aG (ao c hc.1).2];exact hc.2
    · rw[aa] at hp;have hp:pr∈(X.pn++pins)++[]:=hp;rw[IE] at hp;obtain⟨e,n,nl,nf,d⟩:=I1.pin pr hp;have br:=HN e;refine⟨an _ _ e,?_,?_,λz=>?_,d⟩
      · rw[aG (ao _ br).2];exact n
      · rw[aa];exact(ao _ br).1
      · rw[aa] at z;exact(bd _ z).elim nl nf
    · have e1:X'.prog=X.prog:=by rw[aa];rfl
      have e2:X'.w=X.w:=by rw[aa];rfl
      rw[e1,e2];exact I1.hok.laid an az ⟨Jp _,[],0,.nil,bz⟩
    · rw[hN];unfold wg;rw[HC,HC,Ic,Hv,Hv]
  have bc:∀H',(∀b∈fp,H' b=none)->∀b∈fp,wo X' [] H' b:=λH' hn b hb=>by
    rw[aa];refine⟨hn b hb,(ao b (aj b hb)).1,be b hb,.inl hb,λx c e=>(look x c (hown ▸ e)).elim (λz=>ai x c z b (aj b hb)) λz=>(ah b hb).2.2.2.2.1 x c (hcl x c z),λpr hp=>?_⟩;have hp:pr∈(X.pn++pins)++[]:=hp;rw[IE] at hp;exact(ah b hb).2.2.2.2.2 pr hp
  obtain⟨hg,hf,he⟩:=hb s₂ H1 C fp (X.pn++pins);rw[<- aa] at hg hf he;have p1:X'.prog=X.prog:=by rw[aa];rfl
  have p2:X'.w=X.w:=by rw[aa];rfl
  have p3:X'.K=X.K:=by rw[aa];rfl
  have p4:X'.calm=true:=by rw[aa];exact hcalm
  have p5:X'.env=compEnvC scope (own++cl) C X.env:=by rw[aa,<- hown];rfl
  have p6:X'.A=X.A:=by rw[aa];rfl
  have p7:X'.xe=λ_ _=>False:=by rw[aa];rfl
  have bm:bi 0 h₁:=T.keep _ _ _ st λb hb o e=>an b o e
  have bw:∀tk,codeAny (model X.prog X.w) X.A (.compLoop (.ListComp elt [⟨tgt,iter,ifs,0⟩] scope pos) 0 (.ref it) (.ref p) (compEnvC scope (own++cl) C X.env))
      (compPost (model X.prog X.w) X.A (λ_ _=>False) use Qf (.ref p) C) { s₂ with heap:=h₁,toks:=tk }:=λtk=>by
    refine ee (λn s'=>∃i xs σ' H',Inv X' [] σ' H' s'/\bi i s'.heap/\(∀b∈fp,H' b=none)/\W i n xs σ' H') ?_ m0 ⟨0,[],_,_,I4 tk,bm,λb hb=>?_,w0⟩
    · rintro n s3 ⟨i,xs,σ3,H3,I3,st3,fr3,w3⟩
      rcases b2 i n xs σ3 H3 w3 with⟨b3,qn⟩ | ⟨go,step⟩
      · have q1:=T.done X' p1 p2 p3 p4 i [] s3 _ H3 (λ_ _=>False) I3 (bc H3 fr3) st3 b3
        rw[p6] at q1;refine Ha q1 λr s4 ⟨hr,I4'⟩=>?_;subst hr;obtain⟨m4,bp,_⟩:=I4'.loc;rw[p5] at bp;have ba:=I4'.base;rw[aa] at ba;have ba:Un (frs X.stack) fp H1 H3 s₂.heap s4.heap:=ba;have ca:H3 C=none:=by
          have z:=I4'.free
          rw[p5] at z;exact z
        have b0:Hm X.prog X.w H3 s4.heap:=by
          have hk:=I4'.hok
          rw[p1,p2] at hk;exact hk
        have cg:s4.os=s₂.os:=by
          have z:=I4'.os
          rw[aa] at z;exact z
        have I9:=I1.call' (s':=s4) (ch:=fp) cg ba b0 I4'.bare (λb hb=>by
          obtain⟨_,f1,f2,f3,f4,f5⟩:=ah b hb
          exact⟨f3,f1,f4,f5⟩)
        exact fin p C m4 H3 s4 I9 bp ⟨ca,(I1.fpOk ab as).2⟩ qn
      · have q1:=T.item X' p1 p2 p3 p4 i [] s3 _ H3 (λ_ _=>False) I3 (bc H3 fr3) st3 go
        rw[p6] at q1;refine Ha q1 λr s4 ⟨u,hr,h4⟩=>?_;subst hr;refine Ha h4 λ_ s5 ⟨x,H5,I5,r5,y5,st5,fr5⟩=>?_;have cd:=I5.pinned (bc H5 fr5) (T.obj _ _ st5);have q5:=hg _ s5 _ H5 x u _ cd r5 (step x H5 y5);rw[p1,p2,p5,p6,p7] at q5;refine Ha q5 λ_ s6 ⟨σ6,H6,I6,q6⟩=>?_;have q6:=hf _ s6 σ6 H6 _ I6 q6;rw[p1,p2,p5,p6,p7] at q6;refine Ha q6 λb s7 ⟨H7,I7,q7⟩=>?_;have a0:∀ {s8:Shared} {H8:Hp},Inv X' ([]++l6 fp s5.heap) σ6 H8 s8->Inv X' [] σ6 H8 s8/\bi (i+1) s8.heap/\(∀b∈fp,H8 b=none):=λ{s8 H8} I8=>by
          refine⟨I8.unpinned,T.keep _ _ _ st5 λb hb o e=>(I8.pin (b,o) (HP _ (HP _ (d8 hb e)))).1,λb hb=>?_⟩;obtain⟨o,e,d⟩:=T.obj _ _ st5 b hb;exact(I8.pin (b,o) (HP _ (HP _ (d8 hb e)))).2.1
        cases b with
        | false =>
          obtain⟨m',hm,w7⟩:=q7;obtain⟨a1,a2,a3⟩:=a0 I7;exact⟨m',hm,i+1,xs,σ6,H7,a1,a2,a3,w7⟩
        | true =>
          rw[HU rfl];have q8:=he _ s7 σ6 H7 _ I7 q7;rw[p1,p2,p5,p6,p7] at q8;refine Ha q8 λy s8 ⟨yv,H8,I8,ry,hac,hsz,m',hm,w8⟩=>?_;have q9:=lZ (X:=X') _ s8 σ6 H8 (.ref p) [yv] (.ref p) [y] (λ_ H9=>H9=G6 H8 p (.lst (xs++[yv]))) I8 rfl (.cons ry .nil) ⟨p,xs,yv,rfl,rfl,hac,hsz,rfl⟩;rw[p1,p2,p6,p7] at q9;refine Ha q9 λ_ s9 ⟨_,H9,I9,_,e9⟩=>?_;subst e9;obtain⟨a1,a2,a3⟩:=a0 I9;exact⟨m',hm,i+1,xs++[yv],σ6,_,a1,a2,a3,w8⟩
    · rw[aG (ao b (aj b hb)).2];exact(ah b hb).1
  have L0:=bw s₂.toks
  exact codeAny_compStart_list L0 (T.self _ _ _ _ _ bm L0)
theorem Ca(tn:Zb)(caps:List (Nat×Str))
  (hcalm:X.calm=true) (hclos:closureFor scope X.env=pure cl) (hcell:∀p∈caps,(p.2,NameKind.cell)∉scope.names) (hkind:scope.kind=.function) (hnames:∀y∈scope.names,y.2=.local->scope.names.lookup y.1=some .local)
  (hcl:∀x c,cl.lookup x=some c->X.env.cells.lookup x=some c) (hhas:∀(n:Nat) x,((relabel scope X.env).names.lookup x=some .cell\/(relabel scope X.env).names.lookup x=some .free)->∃c,(cellsFrom n scope.names []++cl).lookup x=some c)
  (hcap:∀p∈caps,X.N[p.1]?=some p.2/\X.env.scope.names.lookup p.2=some .cell/\((relabel scope X.env).names.lookup p.2=some .cell\/(relabel scope X.env).names.lookup p.2=some .free))
  (hi:PI X.nox tgt iter wi)
  (hb:∀s2 H2 C fp pn,PG (cY X (tn++caps.map (·.2)) scope cl s2 H2 C fp pn) tgt g/\PF (cY X (tn++caps.map (·.2)) scope cl s2 H2 C fp pn) ifs tc/\PE (cY X (tn++caps.map (·.2)) scope cl s2 H2 C fp pn) elt te)
  (hs:∀x,foldedSetIterable iter X.env x=pure x:=by intro _;rfl) :
  PE X.nox (.ListComp elt [⟨tgt,iter,ifs,0⟩] scope pos) (zW wi tn.length caps g tc te):=by
 intro pins s σ H Q I h;rw[eval_ListComp];refine qM tn caps hcalm hclos hcell hkind hnames hcl hhas hcap hi hb hs (use:=none) pins s σ H Q I h λp C m4 H3 s4 I9 hm4 hf q=>?_;obtain⟨f0,f1,f2,f3,f4,f5⟩:=hf;exact⟨m4,hm4,λh' hs'=>⟨.ref p,H3,I9.turned (t':=s4.toks) (λb o hb e=>hs'.extBut b o hb e) f0 f1 f3 f4 f5,rfl,q⟩⟩
theorem pS(tn:Zb)(caps:List (Nat×Str))
  (hcalm:X.calm=true) (hclos:closureFor scope X.env=pure cl) (hcell:∀p∈caps,(p.2,NameKind.cell)∉scope.names) (hkind:scope.kind=.function) (hnames:∀y∈scope.names,y.2=.local->scope.names.lookup y.1=some .local)
  (hcl:∀x c,cl.lookup x=some c->X.env.cells.lookup x=some c) (hhas:∀(n:Nat) x,((relabel scope X.env).names.lookup x=some .cell\/(relabel scope X.env).names.lookup x=some .free)->∃c,(cellsFrom n scope.names []++cl).lookup x=some c)
  (hcap:∀p∈caps,X.N[p.1]?=some p.2/\X.env.scope.names.lookup p.2=some .cell/\((relabel scope X.env).names.lookup p.2=some .cell\/(relabel scope X.env).names.lookup p.2=some .free))
  (hi:PI X.nox tgt iter wi)
  (hb:∀s2 H2 C fp pn,PG (cY X (tn++caps.map (·.2)) scope cl s2 H2 C fp pn) tgt g/\PF (cY X (tn++caps.map (·.2)) scope cl s2 H2 C fp pn) ifs tc/\PE (cY X (tn++caps.map (·.2)) scope cl s2 H2 C fp pn) elt te)
  (hs:∀x,foldedSetIterable iter X.env x=pure x:=by intro _;rfl) (hN:X.N.Nodup) (hi':X.N[i]?=some y) (hx:Loc X.env.scope y) (hsw:swapsWith (.ListComp elt [⟨tgt,iter,ifs,0⟩] scope pos) (some (.Name y pos')) pos2.line X.env=pure true) (hf:X.fn y=true\/X.env.scope.names.lookup y=some .local) :
  PS X.nox (.Assign [.Name y pos'] (.ListComp elt [⟨tgt,iter,ifs,0⟩] scope pos) pos2) (tAsg (zW wi tn.length caps g tc te) (ui i)):=by
 intro pins s σ H D I h;show wpAny (model X.prog X.w) X.A (exec (.Assign [.Name y pos'] (.ListComp elt [⟨tgt,iter,ifs,0⟩] scope pos) pos2) X.env) _ _ s;rw[exec_Assign_Name_used _ _ _ _ hsw];refine Hw (J3 (Hw ?_));show wpAny _ _ (do let _<-comprehension (.ListComp elt [⟨tgt,iter,ifs,0⟩] scope pos) scope X.env _ (newList []) false (eval iter X.env) (some (assign (.Name y pos') X.env))) _ _ s;refine Hw (IU (qM tn caps hcalm hclos hcell hkind hnames hcl hhas hcap hi hb hs (use:=some (assign (.Name y pos') X.env)) (Qf:=λ_ s'=>SP X.nox pins D .next s') pins s σ H _ I h λp C m4 H3 s4 I9 hm4 hfp q=>?_) (λ_ s' hq=>HI (HI hq)) λ_ _ e=>e);obtain⟨f0,f1,f2,f3,f4,f5⟩:=hfp;show wpAny _ _ (assign (.Name y pos') X.env (.ref p)) _ _ s4;refine wpAny_assign_Name (mL (X:=X.nox) I9 hN hi' hx (v:=.ref p) rfl (λs5 I5 ⟨a,sb,ha⟩=>?_) hf);have aa:C≠a:=by
  rcases ha with rfl | ha
  ·exact f1
  ·exact λz=>f4 y a ha z.symm
 refine⟨m4,hm4.sameBut sb aa,λh' hs'=>⟨_,H3,I5.turned (t':=s5.toks) (λb o hb e=>hs'.extBut b o hb e) f0 f1 f3 f4 f5,q⟩⟩
theorem fP:bootBuiltins "len"=some (.builtin "len"):=by decide +kernel
theorem ED:bootBuiltins "abs"=some (.builtin "abs"):=by decide +kernel
theorem cL:bootBuiltins "isinstance"=some (.builtin "isinstance"):=by decide +kernel
theorem yk:bootBuiltins "max"=some (.builtin "max"):=by decide +kernel
theorem lS:bootBuiltins "sorted"=some (.builtin "sorted"):=by decide +kernel
theorem F4:bootBuiltins "int"=some (.type "int"):=by decide +kernel
theorem jA:bootBuiltins "tuple"=some (.type "tuple"):=by decide +kernel
theorem yL:bootBuiltins "list"=some (.type "list"):=by decide +kernel
theorem CT:bootBuiltins "dict"=some (.type "dict"):=by decide +kernel
section
def Cs:Zi->(D->Prop)->Prop
 | [.tup xs,.tup ys],R=>xs≠[]/\ys≠[]/\xs.length+ys.length<=9000/\R (.tup (xs++ys))
 | _,_=>False
theorem xC:∀ {d0:Zi} {R:D->Prop},Cs d0 R->∃(xs:Zi) (ys:Zi),d0=[.tup xs,.tup ys]/\xs≠[]/\ys≠[]/\xs.length+ys.length<=9000/\R (.tup (xs++ys)):=by walk_at "or"
theorem Ea:Hr X (binaryOp .Add) λx y=>aT X.K Cs [x,y] :=
 Hr.imp AZ λx y H Q ⟨M,ds,R,m,rs,h,k⟩=>by
  replace h:=xC h;obtain⟨_,_,rfl,h⟩:=h
  ·obtain⟨n1,n2,hz,q⟩:=h;obtain⟨h1,h2⟩:=b7 rs;unfold G3 at h1 h2;obtain⟨a,vs,e,l,r⟩:=h1;obtain⟨b,ws,e',l',r'⟩:=h2;have l1:=Reps.length _ _ r;have l2:=Reps.length _ _ r';refine⟨a,b,vs,ws,e,e',l,l',λz=>n1 (JS (by rw[l1,z];rfl)),small (by rw[<- l1,<- l2];exact hz),λz=>absurd (JS (by rw[l2,z];rfl)) n2,λ_ p hp=>k _ q _ _ (aF hp _) ?_⟩;unfold G3;exact⟨p,vs++ws,rfl,Ho.of av,Reps.kp (Kp.of_same (aF hp _)) _ _ (Reps.append _ _ _ _ r r')⟩
def u5:Zi->(D->Prop)->Prop
 | [.int i,.int j],R=>R (.int (i+j))
 | [.lst xs,.lst ys],R=>xs.length+ys.length<=9000/\R (.lst (xs++ys))
 | [.tup xs,.tup ys],R=>xs≠[]/\ys≠[]/\xs.length+ys.length<=9000/\R (.tup (xs++ys))
 | _,_=>False
theorem wB:∀ {d0:Zi} {R:D->Prop},u5 d0 R->((∃(i:Int) (j:Int),d0=[.int i,.int j]/\R (.int (i+j)))\/(∃(xs:Zi) (ys:Zi),d0=[.lst xs,.lst ys]/\xs.length+ys.length<=9000/\R (.lst (xs++ys)))\/(∃(xs:Zi) (ys:Zi),d0=[.tup xs,.tup ys]/\xs≠[]/\ys≠[]/\xs.length+ys.length<=9000/\R (.tup (xs++ys)))):=by walk_at "or"
theorem aO:Hr X (binaryOp .Add) λx y=>aT X.K u5 [x,y] :=
 Hr.imp (Hr.or (Hr.or F8 Gd) Ea) λx y H Q ⟨M,ds,R,m,rs,h,k⟩=>by
  replace h:=wB h
  rcases h with⟨_,_,rfl,h⟩ | ⟨_,_,rfl,h⟩ | ⟨_,_,rfl,h⟩
  ·exact .inl (.inl ⟨M,_,R,m,rs,h,k⟩)
  ·exact .inl (.inr ⟨M,_,R,m,rs,h,k⟩)
  ·exact .inr ⟨M,_,R,m,rs,h,k⟩
mutual
def D.dp:D->Nat
 | .tup xs=>D.dps xs+1
 | .lst xs=>D.dps xs+1
 | .fz xs=>D.dps xs+1
 | .dct _ _=>0
 | .fd _ _=>0
 | .fo _ _ _=>0
 | .exn _ _ _=>0
 | .non=>0
 | .bl _=>0
 | .int _=>0
 | .str _=>0
def D.dps:Zi->Nat
 | []=>0
 | x::r=>max (D.dp x) (D.dps r)
end
mutual
def D.nd:D->Bool
 | .tup xs=>D.nds xs
 | .lst xs=>D.nds xs
 | .fz xs=>D.nds xs
 | .dct _ _=>false
 | .fd _ _=>false
 | .fo _ _ _=>false
 | .exn _ _ _=>false
 | .non=>true
 | .bl _=>true
 | .int _=>true
 | .str _=>true
def D.nds:Zi->Bool
 | []=>true
 | x::r=>D.nd x&&D.nds r
end
theorem cB(A:Around):A.in1.units=A.units+1:=rfl
theorem gO(n:Nat):((List.range n).all λ_=>true)=true:=by simp
section
mutual
theorem Ey(I:Inv X pins σ H s):∀(d:D) (A:Around) (v v':V) (u u':Value),d.nd=true->A.units+d.dp<cLine->G3 X.K M H d v->G3 X.K M H d v'->a5 v u->a5 v' u'->SeqAt.EqAt A s u u' true
 | .non,A,v,v',u,u',_,_,r,r',q,q'=>by
  unfold G3 at r r';subst r r';have:=rG (A:=A) (s:=s) q q' rfl rfl;exact this
 | .bl b,A,v,v',u,u',_,_,r,r',q,q'=>by
  unfold G3 at r r';subst r r';have:=rG (A:=A) (s:=s) q q' rfl rfl;simpa [eqV] using this
 | .int b,A,v,v',u,u',_,_,r,r',q,q'=>by
  unfold G3 at r r';subst r r';have:=rG (A:=A) (s:=s) q q' rfl rfl;simpa [eqV] using this
 | .str b,A,v,v',u,u',_,_,r,r',q,q'=>by
  unfold G3 at r r';subst r r';have:=rG (A:=A) (s:=s) q q' rfl rfl;simpa [eqV] using this
 | .tup ds,A,v,v',u,u',hn,hd,r,r',q,q'=>by
  unfold G3 at r r';obtain⟨a,vs,rfl,sq,rs⟩:=r;obtain⟨b,ws,rfl,ai,ah⟩:=r'
  cases q
  cases q'
  unfold D.dp at hd
  by_cases e:a=b
  ·subst e;exact KJ _
  ·obtain⟨ab,r1,t1,_⟩:=I.tuple sq;obtain⟨aa,r2,t2,_⟩:=I.tuple ai;have hs:ab.length=aa.length:=by rw[<- r1.length,<- r2.length,<- Reps.length _ _ rs,<- Reps.length _ _ ah]
   have k:=SeqAt.RcAt.tuples (A:=A) (e:=λ_=>true) t1 t2 (by omega) (eqAt_Ds I ds A.in1 vs ws ab aa hn (by rw[cB];omega) rs ah r1 r2)
   have z:((List.range (min ab.toArray.size aa.toArray.size)).all (λ_=>true)&&ab.toArray.size==aa.toArray.size)=true:=by simp[hs]
   rw[z] at k;exact SeqAt.EqAt.of_refs e k
 | .lst ds,A,v,v',u,u',hn,hd,r,r',q,q'=>by
  unfold G3 at r r';obtain⟨a,vs,rfl,_,sq,rs⟩:=r;obtain⟨b,ws,rfl,_,ai,ah⟩:=r'
  cases q
  cases q'
  unfold D.dp at hd
  by_cases e:a=b
  ·subst e;exact KJ _
  ·obtain⟨ab,r1,t1,_⟩:=I.list (G4.of sq);obtain⟨aa,r2,t2,_⟩:=I.list (G4.of ai);have hs:ab.length=aa.length:=by rw[<- r1.length,<- r2.length,<- Reps.length _ _ rs,<- Reps.length _ _ ah]
   have k:=SeqAt.RcAt.lists (A:=A) (e:=λ_=>true) t1.isList t2.isList (by simp[hs]) (by omega) (eqAt_Ds I ds A.in1 vs ws ab aa hn (by rw[cB];omega) rs ah r1 r2)
   rw[gO] at k;exact SeqAt.EqAt.of_refs e k
 | .fz ds,A,v,v',u,u',hn,hd,r,r',q,q'=>by
  unfold G3 at r r';obtain⟨a,vs,rfl,sq,rs⟩:=r;obtain⟨b,ws,rfl,ai,ah⟩:=r'
  cases q
  cases q'
  unfold D.dp at hd
  by_cases e:a=b
  ·subst e;exact KJ _
  ·obtain⟨ab,r1,t1,_⟩:=I.list sq.seq;obtain⟨aa,r2,t2,_⟩:=I.list ai.seq;have hs:ab.length=aa.length:=by rw[<- r1.length,<- r2.length,<- Reps.length _ _ rs,<- Reps.length _ _ ah]
   have k:=SeqAt.RcAt.lists (A:=A) (e:=λ_=>true) t1.isList t2.isList (by simp[hs]) (by omega) (eqAt_Ds I ds A.in1 vs ws ab aa hn (by rw[cB];omega) rs ah r1 r2)
   rw[gO] at k;exact SeqAt.EqAt.of_refs e k
 | .dct ks ds,A,v,v',u,u',hn,_,_,_,_,_=>by unfold D.nd at hn;cases hn
 | .fd ks ds,A,v,v',u,u',hn,_,_,_,_,_=>by unfold D.nd at hn;cases hn
 | .fo o ks ds,A,v,v',u,u',hn,_,_,_,_,_=>by unfold D.nd at hn;cases hn
 | .exn _ _ _,A,v,v',u,u',hn,_,_,_,_,_=>by unfold D.nd at hn;cases hn
theorem eqAt_Ds(I:Inv X pins σ H s):∀(ds:Zi) (A:Around) (vs ws:Zg) (us us':Zc),D.nds ds=true->A.units+D.dps ds<cLine->Reps X.K M H ds vs->Reps X.K M H ds ws->bg vs us->bg ws us' ->
  ∀j (h1:j<us.toArray.size) (h2:j<us'.toArray.size),SeqAt.EqAt A s us.toArray[j] us'.toArray[j] true
 | [],A,vs,ws,us,us',_,_,r,r',q,q',j,h1,h2=>by
  unfold Reps at r;subst r
  cases q
  exact absurd h1 (by simp)
 | d::ds,A,vs,ws,us,us',hn,hd,r,r',q,q',j,h1,h2=>by
  unfold Reps at r r';obtain⟨v,vr,rfl,rv,rs⟩:=r;obtain⟨w',wr,rfl,ab,aa⟩:=r';unfold D.nds at hn;obtain⟨n1,n2⟩:=Iu.mp hn;unfold D.dps at hd
  cases q with
  | @cons _ u0 _ ur qa qb =>
   cases q' with
   | @cons _ u1 _ ur' qa' qb' =>
    cases j with
    | zero=>exact Ey I d A v w' _ _ n1 (by omega) rv ab qa qa'
    | succ j =>
     have z:=eqAt_Ds I ds A vr wr ur ur' n2 (by omega) rs aa qb qb' j (by simpa using h1) (by simpa using h2)
     simpa using z
end
end
theorem yG:decide (V.int i=V.int j)=decide (i=j):=by rw[nJ];exact Kx _ _
theorem Dk:decide (V.bl i=V.bl j)=decide (i=j):=by rw[uo];exact Kx _ _
theorem zg:decide (V.str i=V.str j)=decide (i=j):=by rw[pF];exact Kx _ _
def fEq:Zi->(D->Prop)->Prop
 | [.int i,.int j],R=>R (.bl (decide (i=j)))
 | [.str x,.str y],R=>R (.bl (decide (x=y)))
 | [.bl a,.bl b],R=>R (.bl (decide (a=b)))
 | [.tup xs,.tup ys],R=>(xs=ys/\D.nds xs=true/\D.dps xs<=60)/\R (.bl true)
 | [.lst xs,.lst ys],R=>((xs=ys/\D.nds xs=true/\D.dps xs<=60)/\R (.bl true))\/(xs.length≠ys.length/\R (.bl false))
 | _,_=>False
theorem Fh:∀ {d0:Zi} {R:D->Prop},fEq d0 R->((∃(i:Int) (j:Int),d0=[.int i,.int j]/\R (.bl (decide (i=j))))\/(∃(x:Str) (y:Str),d0=[.str x,.str y]/\R (.bl (decide (x=y))))\/(∃(a:Bool) (b:Bool),d0=[.bl a,.bl b]/\R (.bl (decide (a=b))))\/(∃(xs:Zi) (ys:Zi),d0=[.tup xs,.tup ys]/\(xs=ys/\D.nds xs=true/\D.dps xs<=60)/\R (.bl true))\/(∃(xs:Zi) (ys:Zi),d0=[.lst xs,.lst ys]/\(((xs=ys/\D.nds xs=true/\D.dps xs<=60)/\R (.bl true))\/(xs.length≠ys.length/\R (.bl false))))):=by walk_at "or"
theorem Ba:fEq [.int i,.int j] R=(R (.bl (decide (i=j)))):=rfl
theorem As:fEq [.str i,.str j] R=(R (.bl (decide (i=j)))):=rfl
theorem EG:fEq [.bl i,.bl j] R=(R (.bl (decide (i=j)))):=rfl
theorem Ag:fEq [.tup i,.tup j] R=((i=j/\D.nds i=true/\D.dps i<=60)/\R (.bl true)):=rfl
theorem eP(hu:X.A.units+64<cLine):Hr X (compareOp .Eq) λx y=>aT X.K fEq [x,y]:=by
 intro pins s σ H x y v u Q I rx ry h;obtain⟨M,ds,R,m,rs,h,k⟩:=h;replace h:=Fh h
 rcases h with⟨_,_,rfl,h⟩ | ⟨_,_,rfl,h⟩ | ⟨_,_,rfl,h⟩ | ⟨_,_,rfl,h⟩ | ⟨_,_,rfl,h⟩
 ·obtain⟨h1,h2⟩:=b7 rs
  cases aM h1
  cases aM h2
  refine Az pins s σ H _ _ v u Q I rx ry ⟨rfl,?_⟩;rw[yG];exact k _ h _ H (bE.refl H) (G3.sc rfl)
 ·obtain⟨h1,h2⟩:=b7 rs
  cases bv h1
  cases bv h2
  refine Az pins s σ H _ _ v u Q I rx ry ⟨rfl,?_⟩;rw[zg];exact k _ h _ H (bE.refl H) (G3.sc rfl)
 ·obtain⟨h1,h2⟩:=b7 rs
  cases gm h1
  cases gm h2
  refine Az pins s σ H _ _ v u Q I rx ry ⟨rfl,?_⟩;rw[Dk];exact k _ h _ H (bE.refl H) (G3.sc rfl)
 ·obtain⟨⟨e,hn,hd⟩,h⟩:=h;subst e;obtain⟨h1,h2⟩:=b7 rs;unfold G3 at h1 h2;obtain⟨a,vs,rfl,sq,ah⟩:=h1;obtain⟨b,ws,rfl,aj,ai⟩:=h2
  cases rx
  cases ry
  obtain⟨ab,r1,t1,_⟩:=I.tuple sq;obtain⟨aa,r2,t2,_⟩:=I.tuple aj;have hs:ab.length=aa.length:=by rw[<- r1.length,<- r2.length,<- Reps.length _ _ ah,<- Reps.length _ _ ai]
  refine SeqAt.eq_tupleAt (e:=λ_=>true) t1 t2 (by omega) (eqAt_Ds I _ X.A.in1 vs ws ab aa hn (by rw[cB];omega) ah ai r1 r2) ?_;have z:((List.range (min ab.toArray.size aa.toArray.size)).all (λ_=>true)&&ab.toArray.size==aa.toArray.size)=true:=by simp[hs]
  rw[z];exact⟨.bl true,H,I,rfl,k _ h _ H (bE.refl H) (G3.sc rfl)⟩
 ·obtain⟨h1,h2⟩:=b7 rs;unfold G3 at h1 h2;obtain⟨a,vs,rfl,_,sq,ah⟩:=h1;obtain⟨b,ws,rfl,_,aj,ai⟩:=h2
  cases rx
  cases ry
  obtain⟨ab,r1,t1,_⟩:=I.list (G4.of sq);obtain⟨aa,r2,t2,_⟩:=I.list (G4.of aj)
  rcases h with⟨⟨e,hn,hd⟩,h⟩ | ⟨ne,h⟩
  ·subst e;have hs:ab.length=aa.length:=by rw[<- r1.length,<- r2.length,<- Reps.length _ _ ah,<- Reps.length _ _ ai]
   refine SeqAt.eq_listAt (e:=λ_=>true) t1.isList t2.isList (by simp[hs]) (by omega) (eqAt_Ds I _ X.A.in1 vs ws ab aa hn (by rw[cB];omega) ah ai r1 r2) ?_;rw[gO];exact⟨.bl true,H,I,rfl,k _ h _ H (bE.refl H) (G3.sc rfl)⟩
  ·refine SeqAt.eq_list_lengthsAt t1.isList t2.isList ?_ (by omega) ⟨.bl false,H,I,rfl,k _ h _ H (bE.refl H) (G3.sc rfl)⟩;have l1:=r1.length;have l2:=r2.length;have l3:=Reps.length _ _ ah;have l4:=Reps.length _ _ ai;simp only[List.size_toArray,bne_iff_ne,ne_eq];omega
def fNe:Zi->(D->Prop)->Prop
 | [.int i,.int j],R=>R (.bl (!decide (i=j)))
 | [.str x,.str y],R=>R (.bl (!decide (x=y)))
 | [.bl a,.bl b],R=>R (.bl (!decide (a=b)))
 | _,_=>False
theorem Eu:∀ {d0:Zi} {R:D->Prop},fNe d0 R->((∃(i:Int) (j:Int),d0=[.int i,.int j]/\R (.bl (!decide (i=j))))\/(∃(x:Str) (y:Str),d0=[.str x,.str y]/\R (.bl (!decide (x=y))))\/(∃(a:Bool) (b:Bool),d0=[.bl a,.bl b]/\R (.bl (!decide (a=b))))):=by walk_at "or"
theorem o_ne(_:X.A.units+64<cLine):Hr X (compareOp .NotEq) λx y=>aT X.K fNe [x,y]:=by
 intro pins s σ H x y v u Q I rx ry h;obtain⟨M,ds,R,m,rs,h,k⟩:=h;replace h:=Eu h
 rcases h with⟨_,_,rfl,h⟩ | ⟨_,_,rfl,h⟩ | ⟨_,_,rfl,h⟩
 ·obtain⟨h1,h2⟩:=b7 rs
  cases aM h1
  cases aM h2
  refine Bb pins s σ H _ _ v u Q I rx ry ⟨rfl,?_⟩;rw[yG];exact k _ h _ H (bE.refl H) (G3.sc rfl)
 ·obtain⟨h1,h2⟩:=b7 rs
  cases bv h1
  cases bv h2
  refine Bb pins s σ H _ _ v u Q I rx ry ⟨rfl,?_⟩;rw[zg];exact k _ h _ H (bE.refl H) (G3.sc rfl)
 ·obtain⟨h1,h2⟩:=b7 rs
  cases gm h1
  cases gm h2
  refine Bb pins s σ H _ _ v u Q I rx ry ⟨rfl,?_⟩;rw[Dk];exact k _ h _ H (bE.refl H) (G3.sc rfl)
def fIs:Zi->(D->Prop)->Prop
 | [.bl a,.bl b],R=>R (.bl (decide (a=b)))
 | [.non,.non],R=>R (.bl true)
 | [.tup _,.non],R=>R (.bl false)
 | [.exn _ _ _,.non],R=>R (.bl false)
 | _,_=>False
theorem DM(h:fIs d0 R):(∃(a:Bool) (b:Bool),d0=[.bl a,.bl b]/\R (.bl (decide (a=b))))\/(d0=[.non,.non]/\R (.bl true))\/(∃(z1:Zi),d0=[.tup z1,.non]/\R (.bl false))\/(∃(c f:Str) (z1:D),d0=[.exn c f z1,.non]/\R (.bl false)):=by
 rcases d0 with _ | ⟨a,_ | ⟨b,_ | ⟨c,l⟩⟩⟩
 ·exact False.elim h
 ·cases a<;>exact False.elim h
 ·cases a<;>first | exact False.elim h | (cases b<;>first | exact False.elim h | exact .inl ⟨_,_,rfl,h⟩ | exact .inr (.inl ⟨rfl,h⟩) | exact .inr (.inr (.inl ⟨_,rfl,h⟩)) | exact .inr (.inr (.inr ⟨_,_,_,rfl,h⟩)))
 ·cases a<;>first | exact False.elim h | (cases b<;>exact False.elim h)
theorem CL:fIs [.bl i,.bl j] R=(R (.bl (decide (i=j)))):=rfl
theorem Do:Hr X (compareOp .Is) (λx y H Q=>∃a b,x=.bl a/\y=.bl b/\Q (.bl (decide (a=b))) H):=by
 intro pins s σ H x y v u Q I rx ry h;obtain⟨a,b,rfl,rfl,q⟩:=h
 cases rx
 cases ry
 refine wpAny_is_plain rfl ⟨.bl _,H,I,rfl,?_⟩;have e:(Value.bool a==Value.bool b)=decide (a=b):=by cases a<;>cases b<;>rfl
 rw[e];exact q
theorem vb:Hr X (compareOp .Is) λx y=>aT X.K fIs [x,y] :=
  Hr.imp (Hr.or Do yR) λx y H Q ⟨M,ds,R,m,rs,h,k⟩=>by
    have aa:∀b,R (.bl b)->Q (.bl b) H:=λb r=>k _ r _ H (bE.refl H) (G3.sc rfl)
    replace h:=DM h
    rcases h with⟨_,_,rfl,h⟩ | ⟨rfl,h⟩ | ⟨_,rfl,h⟩ | ⟨_,_,_,rfl,h⟩
    · obtain⟨h1,h2⟩:=b7 rs;exact .inl ⟨_,_,gm h1,gm h2,aa _ h⟩
    all_goals first
      | exact h.elim
      | (obtain⟨h1,h2⟩:=b7 rs
         unfold G3 at h1 h2
         first
           | (subst h1;exact .inr ⟨h2,aa _ h⟩)
           | (obtain⟨a,vs,e,_⟩:=h1;subst e;exact .inr ⟨h2,aa _ h⟩)
           | (obtain⟨y,⟨e,C,dx,e1,_⟩,_⟩:=h1;subst e1;exact .inr ⟨h2,aa _ h⟩))
def tyN:D->String
 | .non=>"NoneType"
 | .bl _=>"bool"
 | .int _=>"int"
 | .str _=>"str"
 | .tup _=>"tuple"
 | .lst _=>"list"
 | .fz _=>"list"
 | .dct _ _=>"dict"
 | .fd _ _=>"dict"
 | .fo _ _ _=>"dict"
 | .exn _ _ _=>"NoneType"
def D.noX:D->Prop
 | .exn _ _ _=>False
 | _=>True
def isT(T n:String):Bool:=n==T||(n=="bool"&&T=="int")
def uJ(T:String):Prop:=∀(K:Zf) (n:String),n∈["NoneType","bool","int","str","tuple","list","dict"]->PySem.W.kitOne K (.type n) (.type T)=some (isT T n)
theorem BA(d:D):tyN d∈["NoneType","bool","int","str","tuple","list","dict"]:=by cases d<;>simp[tyN]
theorem Gp(I:L2.Inv X pins σ H s)(r:G3 X.K M H d v)(nx:d.noX)(ru:a5 v u)(ht:uJ T)
  (h:∀tk,Q (.bool (isT T (tyN d))) { s with toks:=tk }):wpAny (model X.prog X.w) A (call (.builtin "isinstance") [u,.type T]) Q E s:=by
 have e:=ht X.K (tyN d) (BA d)
 cases d with
 | non=>unfold G3 at r;subst r;exact cT I ru (.non) e h
 | bl b=>unfold G3 at r;subst r;exact cT I ru (.bl b) e h
 | int b=>unfold G3 at r;subst r;exact cT I ru (.int b) e h
 | str b=>unfold G3 at r;subst r;exact cT I ru (.str b) e h
 | tup xs =>
  unfold G3 at r;obtain⟨a,vs,rfl,sq,_⟩:=r
  cases ru
  obtain⟨aa,_,⟨o,h1,h2,_⟩,_⟩:=I.tuple sq;exact IG PySem.W.kitx_tuple I.kIn ⟨o,h1,h2⟩ e (λz=>nomatch z) h
 | lst xs=>unfold G3 at r;obtain⟨a,vs,rfl,_,sq,_⟩:=r;exact cT I ru (.lst sq) e h
 | fz xs =>
  unfold G3 at r;obtain⟨a,vs,rfl,sq,_⟩:=r
  cases ru
  obtain⟨aa,_,⟨o,n,h1,h2,_⟩,_⟩:=I.list sq.seq;exact IG PySem.W.kitx_list I.kIn ⟨o,h1,h2⟩ e (λz=>nomatch z) h
 | dct ks xs=>unfold G3 at r;obtain⟨a,vs,rfl,_,sq,_⟩:=r;exact cT I ru (.dK sq) e h
 | fd ks xs =>
  unfold G3 at r;obtain⟨a,vs,o,rfl,sq,_⟩:=r
  cases ru
  obtain⟨_,_,va,_,da⟩:=iT I.hok (.inr ⟨o,sq⟩);obtain⟨o2,h1,h2⟩:=da.typeIs;exact IG Ks I.kIn ⟨o2,h1,h2⟩ e (λz=>nomatch z) h
 | fo o ks xs =>
  unfold G3 at r;obtain⟨a,vs,rfl,sq,_⟩:=r
  cases ru
  obtain⟨_,_,va,_,da⟩:=iT I.hok (.inr ⟨o,sq⟩);obtain⟨o2,h1,h2⟩:=da.typeIs;exact IG Ks I.kIn ⟨o2,h1,h2⟩ e (λz=>nomatch z) h
 | exn c f x=>exact nx.elim
def qIs(T:String):D->(Bool->Prop)->Prop
 | .exn _ _ _,_=>False
 | x,k=>k (isT T (tyN x))
theorem qIs.ex(h:qIs T x k):x.noX/\k (isT T (tyN x)):=by cases x<;>first | exact False.elim h | exact⟨trivial,h⟩
def kIs(T:String)(R:W->En->Prop):W->En->Prop:=wd λx δ1=>qIs T x λb=>R (.d (.bl b)) δ1
def dIsi(T:String)(t:GX)(δ:En)(R:W->En->Prop):Prop:=t δ (kIs T R)
def rIsi(K:Zf)(T:String):Zg->Hp->VK->Prop:=λxs H Q=>∃x M d,xs=[x,.ty T]/\G3 K M H d x/\d.noX/\Q (.bl (isT T (tyN d))) H
theorem xo(ht:uJ T):bR X (.builtin "isinstance") (rIsi X.K T):=by
 intro pins s σ H xs us Q I r h;obtain⟨x,M,d,rfl,rx,nx,q⟩:=h;obtain⟨u,w',rfl,ru,aa⟩:=sV r
 cases aa
 exact Gp I rx nx ru ht λtk=>⟨.bl _,H,I.tok _,rfl,q⟩
theorem zf(ht:uJ n)(hg:Gl X "isinstance")(hm:X.mg "isinstance"=none)(hgT:Gl X T)(hmT:X.mg T=none)(hvT:bootBuiltins T=some (.type n))(ha:DE X a ta)
  (hnT:T≠"__name__":=by decide) (hdT:(T==("__debug__":Str))=false:=by decide)
  (he:starEach [a,.Name T p2] X.env=(false,eval a X.env)::starEach [.Name T p2] X.env:=by rfl) (he2:starEach [.Name T p2] X.env=(false,eval (.Name T p2) X.env)::starEach [] X.env:=by rfl) (hpl:(backTo pos (starEach [.Name T p2] X.env)).any (·.1)=false:=by rfl) :
  DE X (.Call (.Name "isinstance" p) [a,.Name T p2] [] pos) (dIsi n ta) :=
 PE.imp (dZ (xo ht) hg hm cL (aJ ha (aJ (uU (v:=.ty n) hgT hmT hvT rfl hnT hdT) b9 he2) he) (by decide) (by decide) he hpl) λσ H Q ⟨G,δ,P,R,s,h,k,_⟩=>up.mk s h λd δ1 h1 v H1 s1=>by
  obtain⟨A,q⟩:=id s1;replace h1:=qIs.ex h1;exact⟨v,_,d,rfl,q.pnd (d,v) (by simp),h1.1,k _ δ1 h1.2 _ H1 ((s1.sub (P':=P) λp hp=>Hx _ hp).sc rfl)⟩
theorem ty_int:uJ "int":=λK n hn=>by
 simp only[List.mem_cons,List.not_mem_nil,or_false] at hn
 rcases hn with rfl | rfl | rfl | rfl | rfl | rfl | rfl<;>with_unfolding_all rfl
theorem vW:uJ "list":=λK n hn=>by
 simp only[List.mem_cons,List.not_mem_nil,or_false] at hn
 rcases hn with rfl | rfl | rfl | rfl | rfl | rfl | rfl<;>with_unfolding_all rfl
end
end DL
namespace DL
open PySem PySem.Spec PyProof.Rows L2
section
theorem Sx.addA{K:Zf}{A:Addr->Prop}{H H':Hp}(s:Sx K G A δ P σ H)(hn:H p=none)(hs:bE H H')(hp:H' p≠none):Sx K G (λb=>A b\/b=p) δ P σ H':=by
 have x:=s.same hs
 have hM:∀b,(G.M0 b\/(A b\/b=p))->(G.M0 b\/A b)\/H b=none:=λb h=>by
  rcases h with h | h | h
  ·exact .inl (.inl h)
  ·exact .inl (.inr h)
  ·subst h;exact .inr hn
 have up:∀d v,G3 K (λb=>G.M0 b\/A b) H d v->G3 K (λb=>G.M0 b\/(A b\/b=p)) H' d v:=λd v r=>G3.kp (Kp.of_same hs) _ _ (G3.more hM _ _ r)
 have h0:G.H0 p=none:=by
  cases q:G.H0 p with
  | none=>rfl
  | some o=>exact absurd hn (s.stay p (by rw[q];exact λz=>nomatch z))
 refine⟨x.old,x.stay,x.m0,x.pm,λb h=>h.elim (s.new b) λe=>.inl (by rw[e];exact h0),λb h=>h.elim (x.thr b) λe=>by rw[e];exact hp,s.len,λj d' e=>?_,λj b d' e=>?_,s.inj,λq hq=>up _ _ (s.pnd q hq)⟩
 ·obtain⟨v,q,r⟩:=s.dat j d' e;exact⟨v,q,up _ _ r⟩
 ·obtain⟨q,r,o⟩:=s.own j b d' e;refine⟨q,.inl r,bx.kp (Kp.of_same hs) ?_ (bx.more hM o)⟩
  cases z:H b with
  | none=>exact absurd z (s.thr b r)
  | some o'=>exact hs b o' z
theorem Sx.subA{K:Zf}{A A':Addr->Prop}{H:Hp}(s:Sx K G A δ P σ H)(hA:∀b,A' b->A b)(ho:∀(i:Nat) a d,δ[i]?=some (.own a d)->A' a):Sx K G A' δ P σ H:=by
 have hM:∀b,(G.M0 b\/A' b)->(G.M0 b\/A b)\/H b=none:=λb h=>.inl (h.elim .inl λz=>.inr (hA b z))
 exact⟨s.old,s.stay,s.m0,s.pm,λb h=>s.new b (hA b h),λb h=>s.thr b (hA b h),s.len,λi d e=>let ⟨v,q,r⟩:=s.dat i d e;⟨v,q,G3.more hM _ _ r⟩,λi a d e=>let ⟨q,_,o⟩:=s.own i a d e;⟨q,ho i a d e,bx.more hM o⟩,s.inj,
  λp hp=>G3.more hM _ _ (s.pnd p hp)⟩
theorem Sx.poke{K:Zf}{A:Addr->Prop}{H:Hp}(s:Sx K G A δ P σ H)(hp:A p)(hv:H p=some (.lst vs))(hno:∀(i:Nat) d,δ[i]?≠some (.own p d)):Sx K G A δ P σ (G6 H p (.lst ws)):=by
 have hk:∀b o,b≠p->H b=some o->G6 H p (.lst ws) b=some o:=λb o n e=>by rw[aG n];exact e
 have kp:Kp (λb=>G.M0 b\/A b) H (G6 H p (.lst ws)):=⟨λb o e n=>hk b o (λz=>n (.inr (by rw[z];exact hp))) e,λb xs e=>hk b _ (λz=>by rw[z,hv] at e;cases e) e,λb o u e=>hk b _ (λz=>by rw[z,hv] at e;cases e) e⟩
 have stay:∀b,H b≠none->G6 H p (.lst ws) b≠none:=λb e=>by
  by_cases z:b=p
  ·rw[z,av];exact λz=>nomatch z
  ·rw[aG z];exact e
 have na:∀b o,G.H0 b=some o->¬ G.Pm b->b≠p:=λb o e n z=>(s.new p hp).elim (λq=>by rw[z] at e;rw[e] at q;cases q) λq=>n (by rw[z];exact q)
 refine⟨λb o e n=>hk b o (na b o e n) (s.old b o e n),λb e=>stay b (s.stay b e),s.m0,s.pm,s.new,λb e=>stay b (s.thr b e),s.len,λi d e=>let ⟨v,q,r⟩:=s.dat i d e;⟨v,q,G3.kp kp _ _ r⟩,λi a d e=>?_,s.inj,λq hq=>G3.kp kp _ _ (s.pnd q hq)⟩;obtain⟨q,r,o⟩:=s.own i a d e;have ne:a≠p:=λz=>by subst z;exact hno i d e
 exact⟨q,r,bx.kp kp (by rw[aG ne]) o⟩
end
def t6:Option Sl->Sl
 | some (.dat d)=>.dat d
 | _=>.no
def gX(caps:List (Nat×Str))(δ:En):En:=caps.map λp=>t6 δ[p.1]?
def oS:Option D->Sl
 | none=>.no
 | some d=>.dat d
def wX:Nat->(List Sl->Prop)->Prop
 | 0,p=>p []
 | n+1,p=>∀t:Option D,wX n λts=>p (oS t::ts)
def okT:Nat->En->En->Prop
 | 0,δ,c=>δ=c
 | n+1,.dat _::r,c=>okT n r c
 | _+1,_,_=>False
abbrev TDC:=En->(List D->En->Prop)->Prop
def A7(src:TDC)(nt:Nat)(caps:List (Nat×Str))(g:TDG)(tc:TDT)(te:GX)(δ:En)(R:W->En->Prop):Prop:=src δ λxs δ1=>xs.length<=9000/\∃f:D->Option D,
 (∀x∈xs,wX nt λts=>g x (ts++gX caps δ1) λδ2=>tc δ2 λb δ3=>if b=true then te δ3 (wd λy δ4=>okT nt δ4 (gX caps δ1)/\f x=some y) else okT nt δ3 (gX caps δ1)/\f x=none)/\R (.d (.lst (xs.filterMap f))) δ1
theorem qE:∀ {n:Nat} {p:List Sl->Prop},wX n p->∀ts:List (Option D),ts.length=n->p (ts.map oS)
 | 0,p,h,ts,e=>by rw[JO.mp e];exact h
 | n+1,p,h,[],e=>by cases e
 | n+1,p,h,t::ts,e=>qE (h t) ts (J0 e)
theorem o6:∀ {n:Nat} {δ c:En},okT n δ c->∃ts:List (Option D),ts.length=n/\δ=ts.map oS++c
 | 0,δ,c,h=>⟨[],rfl,h⟩
 | n+1,[],c,h=>h.elim
 | n+1,.dat d::r,c,h=>by
  obtain⟨ts,e,q⟩:=o6 (n:=n) (δ:=r) h;exact⟨some d::ts,by rw[HJ,e],by rw[q];rfl⟩
 | n+1,.no::r,c,h=>h.elim
 | n+1,.own _ _::r,c,h=>h.elim
section
theorem wD{i:Nat}(e:(gX caps δ)[i]?=some (.dat d)):∃p,caps[i]?=some p/\δ[p.1]?=some (.dat d):=by
 unfold gX at e;rw[HM] at e
 cases hc:caps[i]? with
 | none=>rw[hc] at e;cases e
 | some p =>
  rw[hc] at e;refine⟨p,rfl,?_⟩;have e:=HR e
  cases q:δ[p.1]? with
  | none=>simp[q,t6] at e
  | some z =>
   cases z with
   | dat d'=>simp only[q,t6] at e;cases e;rfl
   | no=>simp[q,t6] at e
   | own _ _=>simp[q,t6] at e
theorem lO{i:Nat}(e:(gX caps δ)[i]?=some (.own a d)):False:=by
 unfold gX at e;rw[HM] at e
 cases hc:caps[i]? with
 | none=>rw[hc] at e;cases e
 | some p =>
  rw[hc] at e;have e:=HR e
  cases q:δ[p.1]? with
  | none=>simp[q,t6] at e
  | some z=>cases z<;>simp[q,t6] at e
theorem FR{K:Zf}{G:Gf}{A:Addr->Prop}{H:Hp}(s:Sx K G A δ P σ H):Sx K ⟨λb=>G.M0 b\/A b,H,λ_=>False⟩ (λ_=>False) ((List.replicate nt none).map oS++gX caps δ) [] (wg nt caps σ) H:=by
 have hM:∀b,((G.M0 b\/A b)\/False)->(G.M0 b\/A b)\/H b=none:=λb h=>h.elim .inl λz=>z.elim
 have hr:(List.replicate nt none).map oS=List.replicate nt Sl.no:=by rw[List.map_replicate];rfl
 rw[hr];refine⟨λb o e _=>e,λb e=>e,s.mem,λb h=>h.elim,λb h=>h.elim,λb h=>h.elim,?_,λi d e=>?_,λi a d e=>?_,λi j a d e h1 _=>?_,λp hp=>(nomatch hp)⟩
 ·unfold gX wg;rw[HC,HC,Ic,Ic,Hv,Hv]
 ·by_cases hi:i<nt
  ·rw[Ij (by rw[Ic];exact hi),IH,HU hi] at e
   cases e
  ·rw[Ib (by rw[Ic];omega),Ic] at e;obtain⟨p,hp,hd⟩:=wD e;obtain⟨v,q,r⟩:=s.dat _ _ hd;refine⟨v,?_,G3.more hM _ _ r⟩;unfold wg;rw[Ib (by rw[Ic];omega),Ic,HM,hp];show some ((σ[p.1]?).join)=_;rw[q];rfl
 all_goals
  exfalso
 ·by_cases hi:i<nt
  ·rw[Ij (by rw[Ic];exact hi),IH,HU hi] at e
   cases e
  ·rw[Ib (by rw[Ic];omega)] at e;exact lO e
 ·by_cases hi:i<nt
  ·rw[Ij (by rw[Ic];exact hi),IH,HU hi] at h1
   cases h1
  ·rw[Ib (by rw[Ic];omega)] at h1;exact lO h1
theorem y7{ts:List (Option D)}{i:Nat}(e:(ts.map oS++gX caps δ)[i]?=some (.own a d)):False:=by
 by_cases hi:i<ts.length
 ·rw[Ij (by rw[Hv];exact hi),HM] at e
  cases hc:ts[i]? with
  | none=>rw[hc] at e;cases e
  | some o =>
   rw[hc] at e
   cases o<;>cases e
 ·rw[Ib (by rw[Hv];omega)] at e;exact lO e
theorem re_S{K:Zf}{M:Addr->Prop}{A2:Addr->Prop}{ts:List (Option D)}{H H5 H6:Hp}(s:Sx K ⟨M,H,λ_=>False⟩ A2 (ts.map oS++gX caps δ) P2 σ2 H5)(k:Kp M H5 H6)(hm:∀b,M b->H6 b≠none) :
  Sx K ⟨M,H6,λ_=>False⟩ (λ_=>False) (ts.map oS++gX caps δ) [] σ2 H6:=by
 have hM:∀b,(M b\/False)->(M b\/A2 b)\/H5 b=none:=λb h=>.inl (h.elim .inl λz=>z.elim)
 have k':Kp (λb=>M b\/False) H5 H6:=⟨λb o e n=>k.un b o e λz=>n (.inl z),k.tu,k.fr⟩
 exact⟨λb o e _=>e,λb e=>e,hm,λb h=>h.elim,λb h=>h.elim,λb h=>h.elim,s.len,λi d e=>let ⟨v,q,r⟩:=s.dat i d e;⟨v,q,G3.kp k' _ _ (G3.more hM _ _ r)⟩,λi a d e=>(y7 e).elim,
  λi j a d e h1 _=>(y7 h1).elim,λp hp=>(nomatch hp)⟩
theorem jI{xs:Zi}{f:D->Option D}{i:Nat}(h:xs[i]?=some x):(xs.take (i+1)).filterMap f=(xs.take i).filterMap f++(match f x with | some y=>[y] | none=>[]):=by
 rw[List.take_add_one,h,List.filterMap_append]
 cases e:f x<;>simp[e]
theorem j9{K:Zf}{G:Gf}{J:It}{xs:Zi}{f:D->Option D}{te:GX}{H1:Hp}{Q:VK}(s:S K G δ P σ H1)(hz:xs.length<=9000)
  (hgo:∀A i H,Sx K G A δ P σ H->i<xs.length->J.go i H) (hst:∀A H,Sx K G A δ P σ H->J.stop xs.length H)
  (hyl:∀A i x H H2,Sx K G A δ P σ H->i<xs.length->J.yld i H x H2->bE H H2/\∃d,xs[i]?=some d/\G3 K (λb=>G.M0 b\/A b) H2 d x)
  (hf:∀x∈xs,wX nt λts=>g x (ts++gX caps δ) λδ2=>tc δ2 λb δ3=>if b=true then te δ3 (wd λy δ4=>okT nt δ4 (gX caps δ)/\f x=some y) else okT nt δ3 (gX caps δ)/\f x=none)
  (p:Addr) (hp:H1 p=none) (k:∀(A:Addr->Prop) acc H',¬ (G.M0 p\/A p)->(∀(i:Nat) a d,δ[i]?=some (.own a d)->A a)->Sx K G (λb=>A b\/b=p) δ P σ H'->H' p=some (.lst acc)->Reps K (λb=>G.M0 b\/(A b\/b=p)) H' (xs.filterMap f) acc->Q (.ref p) H') :
  ∃W:Nat->Nat->Zg->L2.St->Hp->Prop,(∃m,W 0 m [] (wg nt caps σ) (G6 H1 p (.lst [])))/\∀i m acc σ' H',W i m acc σ' H'->(J.stop i H'/\Q (.ref p) H')\/(J.go i H'/\∀x H2,J.yld i H' x H2 ->
   upG K g x σ' H2 λσ2 H3=>upT K tc σ2 H3 λb H4=>if b=true then up K te σ2 H4 λy H5=>H5 p=some (.lst acc)/\acc.length<sizeLine/\∃m',m'<m/\W (i+1) m' (acc++[y]) σ2 (G6 H5 p (.lst (acc++[y]))) else ∃m',m'<m/\W (i+1) m' acc σ2 H4):=by
 obtain⟨A0,x0⟩:=s;have ai:¬ (G.M0 p\/A0 p):=λz=>x0.mem p z hp;have ao:∀(i:Nat) d,δ[i]?≠some (.own p d):=λi d e=>ai (.inr (x0.own i p d e).2.1);have x1:=x0.addA hp (aF hp (.lst [])) (by rw[av];exact λz=>nomatch z)
 refine⟨λi m acc σ' H'=>i<=xs.length/\m=xs.length-i/\acc.length<=i/\H' p=some (.lst acc)/\Sx K G (λb=>A0 b\/b=p) δ P σ H'/\Reps K (λb=>G.M0 b\/(A0 b\/b=p)) H' ((xs.take i).filterMap f) acc /\
  ∃ts:List (Option D),ts.length=nt/\Sx K ⟨λb=>G.M0 b\/(A0 b\/b=p),H',λ_=>False⟩ (λ_=>False) (ts.map oS++gX caps δ) [] σ' H',⟨xs.length,Jp _,rfl,HD _,av,x1,by rw[Kv];exact Reps.nil,List.replicate nt none,Ic,FR x1⟩,?_⟩
 rintro i m acc σ' H' ⟨hi,rfl,hal,hac,x,rs,ts,hts,sx⟩
 by_cases hlt:i<xs.length
 ·refine .inr ⟨hgo _ i H' x hlt,λv H2 hy=>?_⟩;obtain⟨aa,d,hd,rd⟩:=hyl _ i v H' H2 x hlt hy;replace sx:=re_S sx (Kp.of_same aa) (x.same aa).mem;replace x:=x.same aa;replace hac:=aa _ _ hac;replace rs:=Reps.kp (Kp.of_same aa) _ _ rs;clear aa hy;have al:d∈xs:=HY hd;refine⟨_,ts.map oS++gX caps δ,[],d,_,⟨_,sx.push (G3.more (λb z=>.inl (z.elim id λq=>q.elim)) _ _ rd)⟩,qE (hf d al) ts hts,λδ2 h2 σ2 H3 s2=>?_⟩;refine⟨_,_,[],_,s2,h2,λb δ3 h3 H4 s3=>?_⟩;have ah:=jI (f:=f) hd;have a1:∀b,(G.M0 b\/(A0 b\/b=p))->H2 b≠none:=x.mem
  cases b with
  | false =>
   obtain⟨as,hn⟩:=h3;rw[hn,IE] at ah;obtain⟨az,aj,e3⟩:=o6 as;subst e3;obtain⟨A3,y3⟩:=s3;have sm:bE H2 H4:=λb o e=>y3.old b o e id;have x4:=x.same sm;exact⟨xs.length-(i+1),by omega,hlt,rfl,by omega,sm _ _ hac,x4,by rw[ah];exact Reps.kp (Kp.of_same sm) _ _ rs,az,aj,re_S y3 Kp.refl x4.mem⟩
  | true =>
   refine up.mk (P:=[]) s3 h3 λy δ4 h4 yv H5 s4=>?_;obtain⟨a0,hy⟩:=h4;rw[hy] at ah;obtain⟨aq,an,e4⟩:=o6 a0;subst e4;obtain⟨A4,y4⟩:=s4;have sm:bE H2 H5:=λb o e=>y4.old b o e id;have x5:=x.same sm;have ab:=sm _ _ hac;have ry:G3 K (λb=>G.M0 b\/(A0 b\/b=p)) H5 y yv:=G3.more (λb z=>.inl (.inl z)) _ _ (y4.pnd (y,yv) (by simp));have x6:=x5.poke (p:=p) (ws:=acc++[yv]) (.inr rfl) ab ao;have kp:Kp (λb=>G.M0 b\/(A0 b\/b=p)) H5 (G6 H5 p (.lst (acc++[yv]))):=by
    have hk:∀b o,b≠p->H5 b=some o->G6 H5 p (.lst (acc++[yv])) b=some o:=λb o n e=>by rw[aG n];exact e
    exact⟨λb o e n=>hk b o (λz=>n (.inr (.inr z))) e,λb xs e=>hk b _ (λz=>by rw[z,ab] at e;cases e) e,λb o u e=>hk b _ (λz=>by rw[z,ab] at e;cases e) e⟩
   refine⟨ab,Nat.lt_of_le_of_lt (Hz hal hi) (jn hz),xs.length-(i+1),by omega,hlt,rfl,by rw[HC,Ie];omega,av,x6,?_,aq,an,re_S y4 kp x6.mem⟩;rw[ah];exact Reps.kp kp _ _ (Reps.append _ _ _ _ (Reps.kp (Kp.of_same sm) _ _ rs) (Reps.one ry))
 ·have e:i=xs.length:=by omega
  subst e;rw[Ik] at rs;exact .inl ⟨hst _ H' x,k A0 acc H' ai (λi a d e=>(x0.own i a d e).2.1) x hac rs⟩
theorem mh{K:Zf}{G:Gf}{J:It}{xs:Zi}{f:D->Option D}{te:GX}{H1:Hp}{Q:VK}(s:S K G δ P σ H1)(hz:xs.length<=9000)
  (hgo:∀A i H,Sx K G A δ P σ H->i<xs.length->J.go i H) (hst:∀A H,Sx K G A δ P σ H->J.stop xs.length H)
  (hyl:∀A i x H H2,Sx K G A δ P σ H->i<xs.length->J.yld i H x H2->bE H H2/\∃d,xs[i]?=some d/\G3 K (λb=>G.M0 b\/A b) H2 d x)
  (hf:∀x∈xs,wX nt λts=>g x (ts++gX caps δ) λδ2=>tc δ2 λb δ3=>if b=true then te δ3 (wd λy δ4=>okT nt δ4 (gX caps δ)/\f x=some y) else okT nt δ3 (gX caps δ)/\f x=none)
  (k:∀v H',S K G δ ((.lst (xs.filterMap f),v)::P) σ H'->Q v H') (p:Addr) (hp:H1 p=none) :
  ∃W:Nat->Nat->Zg->L2.St->Hp->Prop,(∃m,W 0 m [] (wg nt caps σ) (G6 H1 p (.lst [])))/\∀i m acc σ' H',W i m acc σ' H'->(J.stop i H'/\Q (.ref p) H')\/(J.go i H'/\∀x H2,J.yld i H' x H2 ->
   upG K g x σ' H2 λσ2 H3=>upT K tc σ2 H3 λb H4=>if b=true then up K te σ2 H4 λy H5=>H5 p=some (.lst acc)/\acc.length<sizeLine/\∃m',m'<m/\W (i+1) m' (acc++[y]) σ2 (G6 H5 p (.lst (acc++[y]))) else ∃m',m'<m/\W (i+1) m' acc σ2 H4) :=
 j9 s hz hgo hst hyl hf p hp λA acc H' hA ho x hac rs=>k (.ref p) H' ⟨A,(x.subA (λb z=>.inl z) ho).push (by
  unfold G3
  exact⟨p,acc,rfl,hA,hac,Reps.more (λb z=>.inl (z.elim .inl λq=>.inr (.inl q))) _ _ rs⟩)⟩
end
def E5(t:GX)(δ:En)(R:Zi->En->Prop):Prop:=t δ (wd λd δ1=>qL d λxs=>R xs δ1)
def ER(t:GX)(δ:En)(R:Zi->En->Prop):Prop:=t δ (wd λd δ1=>qT d λxs=>R xs δ1)
def EQ(t:TDA)(δ:En)(R:Zi->En->Prop):Prop:=t δ λds δ1=>qC ds λx r=>qN r <| qI x λj=>-(2 ^ 62)<=j/\j<2 ^ 62/\R ((List.range j.toNat).map λ(i:Nat)=>D.int (i:Int)) δ1
def CI(X:Cx)(tg it:Expr)(src:TDC):Prop:=∃wi,PI X tg it wi/\∀(G:Gf) (δ:En) (P:List (D×V)) (σ:L2.St) (H:Hp) (R:Zi->En->Prop) (Q:It->Hp->Prop),S X.K G δ P σ H->src δ R ->
  (∀xs δ1,R xs δ1->∀(J:It) (P1:List (D×V)) (H1:Hp),(∀q∈P,q∈P1)->S X.K G δ1 P1 σ H1->(∀A δ σ i H,Sx X.K G A δ P1 σ H->i<xs.length->J.go i H)->(∀A δ σ H,Sx X.K G A δ P1 σ H->J.stop xs.length H) ->
    (∀A δ σ i x H H2,Sx X.K G A δ P1 σ H->i<xs.length->J.yld i H x H2->bE H H2/\∃d,xs[i]?=some d/\G3 X.K (λb=>G.M0 b\/A b) H2 d x)->Q J H1)->wi σ H Q
section
variable {X:Cx} {tg e:Expr} {te:GX} {ta:TDA}
theorem eB(h:DE X e te):CI X tg e (E5 te):=⟨_,nG h,λG δ P σ H R Q s hs k=>up.mk s hs λd δ1 h1 v H1 s1=>by
 replace h1:=qL.ex h1;obtain⟨xs,e,r⟩:=h1;subst e;have aa:∀A δ σ H,Sx X.K G A δ ((.lst xs,v)::P) σ H->∃a vs,v=.ref a/\H a=some (.lst vs)/\Reps X.K (λb=>G.M0 b\/A b) H xs vs:=λA δ σ H x=>by
  have q:=x.pnd (.lst xs,v) (by simp)
  unfold G3 at q;obtain⟨a,vs,e,_,l,r⟩:=q;exact⟨a,vs,e,l,r⟩
 obtain⟨A1,x1⟩:=id s1;obtain⟨a,ah,rfl,l0,_⟩:=aa _ _ _ _ x1;refine⟨a,rfl,⟨ah,G4.of l0⟩,k xs δ1 r _ _ H1 (λq hq=>by simp[hq]) s1 (λA δ σ i H x hi=>?_) (λA δ σ H x=>?_) λA δ σ i y H H2 x hi hy=>?_⟩
 ·obtain⟨b,vs,e,l,r⟩:=aa _ _ _ _ x
  cases e
  obtain⟨w',hw,_⟩:=Reps.get _ _ r i xs[i] (by simp[hi]);exact⟨vs,w',G4.of l,hw⟩
 ·obtain⟨b,vs,e,l,r⟩:=aa _ _ _ _ x
  cases e
  exact⟨vs,G4.of l,by rw[Reps.length _ _ r];exact HD _⟩
 ·obtain⟨b,vs,e,l,r⟩:=aa _ _ _ _ x
  cases e
  obtain⟨e,hy⟩:=hy;obtain⟨w',hw,ab⟩:=Reps.get _ _ r i xs[i] (by simp[hi]);have z:=hy vs (G4.of l);rw[hw] at z
  cases z
  subst e
  exact⟨bE.refl _,xs[i],by simp[hi],ab⟩⟩
theorem ua(h:DE X e te):CI X tg e (ER te):=⟨_,yI h,λG δ P σ H R Q s hs k=>up.mk s hs λd δ1 h1 v H1 s1=>by
 replace h1:=qT.ex h1;obtain⟨xs,e,r⟩:=h1;subst e;have aa:∀A δ σ H,Sx X.K G A δ ((.tup xs,v)::P) σ H->∃a vs,v=.ref a/\Ho X.K H a vs/\Reps X.K (λb=>G.M0 b\/A b) H xs vs:=λA δ σ H x=>by
  have q:=x.pnd (.tup xs,v) (by simp)
  unfold G3 at q;exact q
 obtain⟨A1,x1⟩:=id s1;obtain⟨a,ah,rfl,l0,_⟩:=aa _ _ _ _ x1;refine⟨a,rfl,⟨ah,l0⟩,k xs δ1 r _ _ H1 (λq hq=>by simp[hq]) s1 (λA δ σ i H x hi=>?_) (λA δ σ H x=>?_) λA δ σ i y H H2 x hi hy=>?_⟩
 ·obtain⟨b,vs,e,l,r⟩:=aa _ _ _ _ x
  cases e
  obtain⟨w',hw,_⟩:=Reps.get _ _ r i xs[i] (by simp[hi]);exact⟨vs,w',l,hw⟩
 ·obtain⟨b,vs,e,l,r⟩:=aa _ _ _ _ x
  cases e
  exact⟨vs,l,by rw[Reps.length _ _ r];exact HD _⟩
 ·obtain⟨b,vs,e,l,r⟩:=aa _ _ _ _ x
  cases e
  obtain⟨e,hy⟩:=hy;obtain⟨w',hw,ab⟩:=Reps.get _ _ r i xs[i] (by simp[hi]);have z:=hy vs l;rw[hw] at z
  cases z
  subst e
  exact⟨bE.refl _,xs[i],by simp[hi],ab⟩⟩
theorem rB(hg:Gl X "range")(hm:X.mg "range"=none)(ha:DA X [a] ta)(hs:starEach [a] X.env=[(false,eval a X.env)]:=by rfl):CI X tg (.Call (.Name "range" p) [a] [] pos) (EQ ta) :=
 ⟨_,mI hg hm ha hs,λG δ P σ H R Q s hs k=>⟨G,δ,P,_,s,hs,λds δ1 h1 vs H1 hl s1=>by
  replace h1:=qC.ex h1;obtain⟨x,r,e,h1⟩:=h1;replace h1:=qN.ex h1;obtain⟨e',h1⟩:=h1;replace h1:=qI.ex h1;obtain⟨j,e2,h1,h2,r⟩:=h1;subst e2 e' e
  match vs,hl with
  | [v],_ =>
   have q:v=.int j:=by
    obtain⟨A,x⟩:=s1;exact aM (x.pnd (.int j,v) (by simp))
   subst q;refine⟨j,rfl,h1,h2,k _ δ1 r _ P H1 (λq hq=>hq) (s1.sub λp hp=>by simp[hp]) (λA δ σ i H x hi=>?_) (λA δ σ H x=>?_) λA δ σ i y H H2 x hi hy=>?_⟩
   ·rw[Hv,Jl] at hi;exact hi
   ·rw[Hv,Jl];exact HD _
   ·rw[Hv,Jl] at hi;obtain⟨e,hy⟩:=hy;subst e;refine⟨bE.refl _,.int i,by rw[HM,List.getElem?_range hi];rfl,?_⟩;unfold G3
    rw[hy,J1]⟩⟩
def DF(X:Cx)(ifs:List Expr)(t:TDT):Prop:=PF X ifs (upT X.K t)
theorem fH:DF X [] (λδ R=>R true δ):=λpins s σ H Q I ⟨G,δ,P,R,s',h,k⟩=>C7 pins s σ H Q I (k true δ h H s')
theorem gj(h:DT X c t):DF X [c] t:=CM h
theorem bZ(tn:Zb)(caps:List (Nat×Str))
  (hcalm:X.calm=true) (hclos:closureFor scope X.env=pure cl) (hcell:∀p∈caps,(p.2,NameKind.cell)∉scope.names) (hkind:scope.kind=.function) (hnames:∀y∈scope.names,y.2=.local->scope.names.lookup y.1=some .local)
  (hcl:∀x c,cl.lookup x=some c->X.env.cells.lookup x=some c) (hhas:∀(n:Nat) x,((relabel scope X.env).names.lookup x=some .cell\/(relabel scope X.env).names.lookup x=some .free)->∃c,(cellsFrom n scope.names []++cl).lookup x=some c)
  (hcap:∀p∈caps,X.N[p.1]?=some p.2/\X.env.scope.names.lookup p.2=some .cell/\((relabel scope X.env).names.lookup p.2=some .cell\/(relabel scope X.env).names.lookup p.2=some .free))
  (hi:CI X.nox tgt iter src)
  (hb:∀s2 H2 C fp pn,DG (cY X (tn++caps.map (·.2)) scope cl s2 H2 C fp pn) tgt g/\DF (cY X (tn++caps.map (·.2)) scope cl s2 H2 C fp pn) ifs tc/\DE (cY X (tn++caps.map (·.2)) scope cl s2 H2 C fp pn) elt te)
  (hs:∀x,foldedSetIterable iter X.env x=pure x:=by intro _;rfl):DE X.nox (.ListComp elt [⟨tgt,iter,ifs,0⟩] scope pos) (A7 src tn.length caps g tc te):=by
 obtain⟨wi,hi,hw⟩:=hi;refine PE.imp (Ca (g:=upG X.K g) (tc:=upT X.K tc) (te:=up X.K te) tn caps hcalm hclos hcell hkind hnames hcl hhas hcap hi hb hs) λσ H Q ⟨G,δ,P,R,s,h,k,_⟩=>?_;refine hw G δ P σ H _ _ s h λxs δ1 ⟨hz,f,hf,r⟩ J P1 H1 hP s1 hgo hst hyl p hp=>?_
 exact mh s1 hz (λA i H x hi=>hgo A _ _ i H x hi) (λA H x=>hst A _ _ H x) (λA i x H H2 s hi hy=>hyl A _ _ i x H H2 s hi hy) hf (λv H' s'=>k _ δ1 r v H' (s'.sub λq hq=>by
  rcases HK.mp hq with rfl | hq
  ·simp
  ·exact Hx _ (hP q hq))) p hp
end
def Ee(cells:List (Str×Addr)):List (Str×Addr)->Prop
 | []=>True
 | y::r=>cells.lookup y.1=some y.2/\Ee cells r
theorem bV:∀ {cl:List (Str×Addr)},Ee cells cl->∀x c,cl.lookup x=some c->cells.lookup x=some c
 | [],_,x,c,h=>by cases h
 | y::r,⟨h1,h2⟩,x,c,h=>by
  rw[List.lookup_cons] at h
  cases e:x==y.1 with
  | true =>
   rw[e] at h;have e:=eq_of_beq e
   cases h
   rw[e];exact h1
  | false =>
   rw[e] at h;exact bV h2 x c h
theorem cj{names:List (Str×NameKind)}{cl:List (Str×Addr)}(h:(names.all λy=>!(y.2 == .cell||y.2 == .free)||(cl.lookup y.1).isSome)=true):∀x,(names.lookup x=some .cell\/names.lookup x=some .free)->∃c,cl.lookup x=some c:=λx hx=>by
 have aa:∀(ns:List (Str×NameKind)) k,ns.lookup x=some k->(x,k)∈ns:=λns=>by
  induction ns with
  | nil=>intro k h;cases h
  | cons y r ih =>
   intro k h;rw[List.lookup_cons] at h
   cases e:x==y.1 with
   | true =>
    rw[e] at h;have e:=eq_of_beq e
    cases h
    rw[e];exact HB ..
   | false =>
    rw[e] at h;exact Hx _ (ih k h)
 have go:∀k,(k=.cell\/k=.free)->names.lookup x=some k->∃c,cl.lookup x=some c:=λk hk e=>by
  have m:=aa _ _ e
  have q:=JB.mp h _ m
  have hb:((k==NameKind.cell||k == .free))=true:=by rcases hk with rfl | rfl<;>rfl
  simp only[hb,Bool.not_true,Bool.false_or] at q;exact Option.isSome_iff_exists.mp q
 rcases hx with e | e
 ·exact go _ (.inl rfl) e
 ·exact go _ (.inr rfl) e
def yO(p:Nat×Str->Prop):List (Nat×Str)->Prop
 | []=>True
 | y::r=>p y/\yO p r
theorem a7:∀ {l:List (Nat×Str)},yO p l->∀y∈l,p y
 | [],_,y,h=>by cases h
 | z::r,⟨h1,h2⟩,y,h=>by
  rcases HK.mp h with rfl | h
  ·exact h1
  ·exact a7 h2 y h
end DL
namespace DL
open PySem PySem.Spec PyProof.Rows L2
def spN(K:Zf)(f:Zi->(D->Prop)->Prop):Sp:=λvs H Q _=>∃(M:Addr->Prop) (ds:Zi) (R:D->Prop),(∀b,M b->H b≠none)/\Reps K M H ds vs/\f ds R /\
 ∀d,R d->∀a H',bE H H'->H a=none->bx K (λb=>M b\/b=a) H' a d->Q (.ref a) H'
abbrev FO:=D->List D->(D->D->Prop)->Prop
def spO(K:Zf)(f:FO):Sp:=λvs H Q _=>∃(M:Addr->Prop) (a:Addr) (d0:D) (vs':Zg) (ds:Zi) (R:D->D->Prop),vs=.ref a::vs'/\(∀b,M b->H b≠none)/\¬ M a/\bx K (λb=>M b\/b=a) H a d0/\Reps K (λb=>M b\/b=a) H ds vs'/\f d0 ds R /\
 ∀r d1,R r d1->∀v H',(∀b o,b≠a->H b=some o->H' b=some o)->bx K (λb=>M b\/b=a) H' a d1->G3 K (λb=>M b\/b=a) H' r v->Q v H'
def wL(K:Zf)(f:FO):Sp:=λvs H Q E=>∃v0 v1,vs=[v0,v1]/\spO K f [v1,v0] H Q E
theorem Ae{K:Zf}{f:Zi->(D->Prop)->Prop}{vs:Zg}{H:Hp}{Q:VK}{E:XK}(h:Hg K f vs H Q E):spN K f vs H Q E:=by
 obtain⟨M,ds,R,m,rs,hf,k⟩:=h;exact⟨M,ds,R,m,rs,hf,λd r a H' sm fr ow=>k d r (.ref a) H' sm (ow.rep (λz=>m a z fr) λb z=>.inl z)⟩
section
theorem Cal.imp{P:Program}{w:World}{K:Zf}{mg:Str->Zd}{base:Heap}{k:Nat}{x:Str}{ps:Zb}{sp sp':Sp}(C:Cal P w K mg base k x ps sp)(h:∀vs H Q E,sp' vs H Q E->sp vs H Q E):Cal P w K mg base k x ps sp':=by
 obtain⟨a,fd,F,b,kp,m⟩:=C.ex;exact⟨a,fd,F.imp h,b,kp,m⟩
theorem Cal.pure{P:Program}{w:World}{K:Zf}{mg:Str->Zd}{base:Heap}{k:Nat}{x:Str}{ps:Zb}{f:Zi->(D->Prop)->Prop}(C:Cal P w K mg base k x ps (spN K f)):Cal P w K mg base k x ps (Hg K f):=C.imp λ_ _ _ _ h=>Ae h
theorem lT{w:World}{K:Zf}{mg:Str->Zd}{st:Stmt}{f:Zi->(D->Prop)->Prop}(F:Fd K mg x st ps)(k:Nat)(h:∀ds R,¬ f ds R):Cal P w K mg base k x ps (Hg K f):=by
 obtain⟨a,fd,Fu,b,m⟩:=F.ex;have no:∀vs H Q E,¬ Hg K f vs H Q E:=λvs H Q E ⟨_,ds,R,_,_,hf,_⟩=>h ds R hf;exact⟨a,fd,⟨λvs H Q E h=>absurd h (no vs H Q E),λA outer s H args us vs Q E _ _ _ _ h=>absurd h (no vs H Q E)⟩,b,Fu.kp,m⟩
theorem vJ{w:World}{K:Zf}{mg:Str->Zd}{st:Stmt}(F:Fd K mg x st ps)(k:Nat)(h:∀d ds R,¬ f d ds R):Cal P w K mg base k x ps (wL K f):=by
 obtain⟨a,fd,Fu,b,m⟩:=F.ex;have no:∀vs H Q E,¬ wL K f vs H Q E:=λvs H Q E ⟨_,_,_,_,_,d0,_,ds,R,_,_,_,_,_,hf,_⟩=>h d0 ds R hf;exact⟨a,fd,⟨λvs H Q E h=>absurd h (no vs H Q E),λA outer s H args us vs Q E _ _ _ _ h=>absurd h (no vs H Q E)⟩,b,Fu.kp,m⟩
theorem fn_N{P:Program}{w:World}{K:Zf}{mg:Str->Zd}{base:Heap}{x:Str}{st:Stmt}{N ps:Zb}{k:Nat}{f:Zi->(D->Prop)->Prop}(F:Fd K mg x st ps)(Sc:ax N ps (ak st))(len:∀ds R,f ds R->ds.length=ps.length)
    (hbody:∀(a:Addr) (cdv:Value) (A:Around) (outer:List Env) (s:Shared) (H:Hp) (E:XK) (ds:Zi) (R:D->Prop),cI k (A.deeper (envOfC x (ak st) s.heap.objs.size a cdv))->f ds R ->
      ∃t,DSs (ni CX0 P w K mg base N x (ak st) a cdv A outer s H E).nox (aU st) t/\t { nx:=λ_=>False,rt:=λ_ _=>False,ro:=R } (dy N ds)) :
    Cal P w K mg base (k+1) x ps (spN K f):=by
  obtain⟨a,fd,Fu,b,m⟩:=F.ex;refine⟨a,fd,Fu.ok Sc (λvs H Q E h=>?_) (λcdv A outer s H vs Q E hr h=>?_),b,Fu.kp,m⟩
  · obtain⟨M,ds,R,hm,rs,hf,hk⟩:=h;rw[<- Reps.length _ _ rs];exact len ds R hf
  · obtain⟨M,ds,R,hm,rs,hf,hk⟩:=h;obtain⟨t,ht,hq⟩:=hbody a cdv A outer s H E ds R hr hf;refine⟨_,ht,⟨M,H,λ_=>False⟩,dy N ds,[],_,pe N hm rs,hq,λ_ h=>h.elim,⟨λ_ _ h=>h.elim,λd r a' H' ⟨o1,o2,o3,o4⟩=>hk d r a' H' (λb o e=>o1 b o e id) (o2.elim id λz=>z.elim) o4,λ_ _ _ z=>z.elim⟩,λ_ h=>h.elim,λ_ h=>h.elim,λz=>z.elim⟩
theorem qj{K:Zf}{M:Addr->Prop}{ds1 ds2:Zi}{H:Hp}(N:Zb)(m:∀b,M b->H b≠none)(na:¬ M a)(ow:bx K (λb=>M b\/b=a) H a d0)(r1:Reps K (λb=>M b\/b=a) H ds1 vs1)(r2:Reps K (λb=>M b\/b=a) H ds2 vs2) :
  S K ⟨M,H,λb=>b=a⟩ (ds1.map Sl.dat++Sl.own a d0::(ds2.map Sl.dat++List.replicate (N.length-(ds1.length+1+ds2.length)) Sl.no)) [] (L2.start N (vs1++.ref a::vs2)) H:=by
 have ab:=Reps.length _ _ r1
 have aj:=Reps.length _ _ r2
 have ah:H a≠none:=by
  cases d0 with
  | lst ds=>obtain⟨vs,q,_⟩:=ow;rw[q];exact λz=>nomatch z
  | dct ks ds=>obtain⟨vs,q,_⟩:=ow;rw[q];exact λz=>nomatch z
  | _=>exact ow.elim
 have aa:∀(i:Nat) z,(ds1.map Sl.dat++Sl.own a d0::(ds2.map Sl.dat++List.replicate (N.length-(ds1.length+1+ds2.length)) Sl.no))[i]?=some z ->
   (∃d,ds1[i]?=some d/\z=.dat d)\/(i=ds1.length/\z=.own a d0)\/(∃d,ds1.length+1<=i/\ds2[i-(ds1.length+1)]?=some d/\z=.dat d)\/z=.no:=λi z e=>by
  by_cases h1:i<ds1.length
  ·rw[Ij (by rw[Hv];exact h1),HM] at e
   cases hd:ds1[i]? with
   | none=>rw[hd] at e;cases e
   | some d=>rw[hd] at e;exact .inl ⟨d,rfl,(HR e).symm⟩
  ·rw[Ib (by rw[Hv];omega),Hv] at e
   by_cases h2:i=ds1.length
   ·subst h2;rw[Nat.sub_self,List.getElem?_cons_zero] at e;exact .inr (.inl ⟨rfl,(HR e).symm⟩)
   ·have e3:i-ds1.length=(i-(ds1.length+1))+1:=by omega
    rw[e3,List.getElem?_cons_succ] at e
    by_cases h3:i-(ds1.length+1)<ds2.length
    ·rw[Ij (by rw[Hv];exact h3),HM] at e
     cases hd:ds2[i-(ds1.length+1)]? with
     | none=>rw[hd] at e;cases e
     | some d=>rw[hd] at e;exact .inr (.inr (.inl ⟨d,by omega,rfl,(HR e).symm⟩))
    ·rw[Ib (by rw[Hv];omega),IH] at e
     split at e
     ·exact .inr (.inr (.inr (HR e).symm))
     ·cases e
 have st:∀i,i<(vs1++V.ref a::vs2).length->(L2.start N (vs1++.ref a::vs2))[i]?=(vs1++V.ref a::vs2)[i]?.map some:=λi hi=>by
  unfold L2.start;rw[Ij (by rw[Hv];exact hi),HM]
 have hM:∀b,(M b\/b=a)->(M b\/b=a)\/H b=none:=λb h=>.inl h
 refine⟨λb=>b=a,λb o e _=>e,λb e=>e,m,λb h=>⟨by rw[h];exact ah,by rw[h];exact na⟩,λb h=>.inr h,λb h=>by rw[h];exact ah,?_,λi d e=>?_,λi a' d e=>?_,λi j a' d e h1 h2=>?_,λp hp=>(nomatch hp)⟩
 ·unfold L2.start;simp only[List.length_append,List.length_map,List.length_cons,List.length_replicate];omega
 ·rcases aa i _ e with⟨d',hd,z⟩ | ⟨_,z⟩ | ⟨d',hi,hd,z⟩ | z
  ·cases z
   obtain⟨v,ev,rv⟩:=Reps.get _ _ r1 i d hd;have hi:i<vs1.length:=(HL.mp ev).1;exact⟨v,by rw[st i (by rw[HC];omega),Ij hi,ev];rfl,rv⟩
  ·cases z
  ·cases z
   obtain⟨v,ev,rv⟩:=Reps.get _ _ r2 _ d hd;have ai:i-(ds1.length+1)<vs2.length:=(HL.mp ev).1;refine⟨v,?_,rv⟩;rw[st i (by rw[HC,HJ];omega),Ib (by omega),<- ab];have e3:i-ds1.length=(i-(ds1.length+1))+1:=by omega
   rw[e3,List.getElem?_cons_succ,ev];rfl
  ·cases z
 ·rcases aa i _ e with⟨d',hd,z⟩ | ⟨hi,z⟩ | ⟨d',hi,hd,z⟩ | z
  ·cases z
  ·cases z
   subst hi;refine⟨?_,rfl,ow⟩;rw[st _ (by rw[HC,HJ];omega),Ib (by omega),ab,Nat.sub_self];rfl
  ·cases z
  ·cases z
 ·have u:∀i a' d,(ds1.map Sl.dat++Sl.own a d0::(ds2.map Sl.dat++List.replicate (N.length-(ds1.length+1+ds2.length)) Sl.no))[i]?=some (.own a' d)->i=ds1.length:=λi a' d e=>by
   rcases aa i _ e with⟨d',hd,z⟩ | ⟨hi,z⟩ | ⟨d',hi,hd,z⟩ | z
   ·cases z
   ·exact hi
   ·cases z
   ·cases z
  rw[u i _ _ h1,u j _ _ h2]
theorem jx{K:Zf}{M A':Addr->Prop}{H':Hp}(ha:A' a)(o:bx K (λb=>M b\/A' b) H' a d):bx K (λb=>M b\/b=a) H' a d:=bx.more (λb z=>.inl (z.elim .inl λe=>.inr (by rw[e];exact ha))) o
theorem fn_O{w:World}{K:Zf}{mg:Str->Zd}{st:Stmt}{N ps:Zb}(F:Fd K mg x st ps)(Sc:ax N ps (ak st))(len:∀d ds R,f d ds R->ds.length+1=ps.length)
    (hbody:∀(fa:Addr) (cdv:Value) (A:Around) (outer:List Env) (s:Shared) (H:Hp) (E:XK) (a:Addr) (d0:D) (ds:Zi) (R:D->D->Prop),cI k (A.deeper (envOfC x (ak st) s.heap.objs.size fa cdv))->f d0 ds R ->
      ∃t,DSs (ni CX0 P w K mg base N x (ak st) fa cdv A outer s H E).nox (aU st) t /\
        t { nx:=λδ=>∃d1,δ[0]?=some (.own a d1)/\R .non d1,rt:=λd δ=>∃d1,δ[0]?=some (.own a d1)/\R d d1 } (Sl.own a d0::(ds.map Sl.dat++List.replicate (N.length-(1+ds.length)) Sl.no))) :
    Cal P w K mg base (k+1) x ps (spO K f):=by
  obtain⟨fa,fd,Fu,b,mm⟩:=F.ex;refine⟨fa,fd,Fu.ok Sc (λvs H Q E h=>?_) (λcdv A outer s H vs Q E hr h=>?_),b,Fu.kp,mm⟩
  · obtain⟨M,a,d0,ab,ds,R,rfl,m,na,ow,rs,hf,hk⟩:=h;rw[HJ,<- Reps.length _ _ rs];exact len _ _ _ hf
  · obtain⟨M,a,d0,ab,ds,R,rfl,m,na,ow,rs,hf,hk⟩:=h;obtain⟨t,ht,hq⟩:=hbody fa cdv A outer s H E a d0 ds R hr hf;have ss:=qj (ds1:=[]) (vs1:=[]) N m na ow Reps.nil rs;rw[show ([]:Zi).length+1+ds.length=1+ds.length by simp] at ss;refine⟨_,ht,_,_,[],_,ss,hq,λδ' ⟨d1,e,r⟩ σ' H' ⟨A',x⟩=>?_,⟨λd δ' ⟨d1,e,r⟩ v σ' H' ⟨A',x⟩=>?_,λ_ h=>h.elim,λ_ _ _ z=>z.elim⟩,λ_ h=>h.elim,λ_ h=>h.elim,λz=>z.elim⟩
    · obtain⟨_,aa,oo⟩:=x.own 0 a d1 e;exact hk _ _ r .non H' (λb o n e=>x.old b o e n) (jx aa oo) (by unfold G3;rfl)
    · obtain⟨_,aa,oo⟩:=x.own 0 a d1 e;exact hk _ _ r v H' (λb o n e=>x.old b o e n) (jx aa oo) (G3.more (λb z=>.inl (z.elim .inl λe=>.inr (by rw[e];exact aa))) _ _ (x.pnd (d,v) (by simp)))
theorem FC{w:World}{K:Zf}{mg:Str->Zd}{st:Stmt}{N ps:Zb}(F:Fd K mg x st ps)(Sc:ax N ps (ak st))(hp:ps.length=2)(len:∀d ds R,f d ds R->ds.length=1)
    (hbody:∀(fa:Addr) (cdv:Value) (A:Around) (outer:List Env) (s:Shared) (H:Hp) (E:XK) (a:Addr) (d0 d:D) (R:D->D->Prop),cI k (A.deeper (envOfC x (ak st) s.heap.objs.size fa cdv))->f d0 [d] R ->
      ∃t,DSs (ni CX0 P w K mg base N x (ak st) fa cdv A outer s H E).nox (aU st) t /\
        t { nx:=λδ=>∃d1,δ[1]?=some (.own a d1)/\R .non d1,rt:=λd δ=>∃d1,δ[1]?=some (.own a d1)/\R d d1 } (Sl.dat d::Sl.own a d0::List.replicate (N.length-2) Sl.no)) :
    Cal P w K mg base (k+1) x ps (wL K f):=by
  obtain⟨fa,fd,Fu,b,mm⟩:=F.ex;refine⟨fa,fd,Fu.ok Sc (λvs H Q E h=>?_) (λcdv A outer s H vs Q E hr h=>?_),b,Fu.kp,mm⟩
  · obtain⟨v0,v1,rfl,_⟩:=h;exact hp.symm
  · obtain⟨v0,v1,rfl,M,a,d0,ab,ds,R,e,m,na,ow,rs,hf,hk⟩:=h
    cases e
    have hl:=len _ _ _ hf
    match ds,hl with
    | [d],_ =>
      obtain⟨t,ht,hq⟩:=hbody fa cdv A outer s H E a d0 d R hr hf;have ss:=qj (ds2:=[]) (vs2:=[]) N m na ow rs Reps.nil;refine⟨_,ht,_,_,[],_,ss,hq,λδ' ⟨d1,e,r⟩ σ' H' ⟨A',x⟩=>?_,⟨λd δ' ⟨d1,e,r⟩ v σ' H' ⟨A',x⟩=>?_,λ_ h=>h.elim,λ_ _ _ z=>z.elim⟩,λ_ h=>h.elim,λ_ h=>h.elim,λz=>z.elim⟩
      · obtain⟨_,aa,oo⟩:=x.own 1 a d1 e;exact hk _ _ r .non H' (λb o n e=>x.old b o e n) (jx aa oo) (by unfold G3;rfl)
      · obtain⟨_,aa,oo⟩:=x.own 1 a d1 e;exact hk _ _ r v H' (λb o n e=>x.old b o e n) (jx aa oo) (G3.more (λb z=>.inl (z.elim .inl λe=>.inr (by rw[e];exact aa))) _ _ (x.pnd (d,v) (by simp)))
end
def kN(i:Nat)(R:aL)(δ:En)(d:D):Prop:=∀a,jT δ i (.own a d) R.nx
def kO(i:Nat)(a:Addr)(R:W->En->Prop)(δ:En)(r d:D):Prop:=jT δ i (.own a d) (R (.d r))
def D1(i:Nat)(f:Zi->(D->Prop)->Prop)(t:TDA)(R:aL)(δ:En):Prop:=t δ λds δ1=>f ds (kN i R δ1)
def CP(i:Nat)(t:TDA)(R:aL)(δ:En):Prop:=t δ λds δ1=>q9 ds (∀a,jT δ1 i (.own a (.lst ds)) R.nx)
def CF(i:Nat)(R:aL)(δ:En):Prop:=∀a,jT δ i (.own a (.dct [] [])) R.nx
def CQ(i:Nat)(R:aL)(δ:En):Prop:=qW δ[i]? λ_ d=>R.ro d
def Fe(t:TDA)(R:aL)(δ:En):Prop:=t δ λds _=>q9 ds (R.ro (.lst ds))
def zB(i:Nat)(f:FO)(t:TDA)(δ:En)(R:W->En->Prop):Prop:=qW δ[i]? λa _=>t δ λds δ1=>qWe δ1[i]? λd0=>f d0 ds (kO i a R δ1)
def EY(i:Nat)(δ:En)(R:W->En->Prop):Prop:=qWL δ[i]? λ_ ds=>R (.d (.int ds.length)) δ
def vC(i:Nat)(δ:En)(R:W->En->Prop):Prop:=qWL δ[i]? λ_ ds=>R (.d (.tup ds)) δ
def nB(i:Nat)(t:TDS)(R:aL)(δ:En):Prop:=qW δ[i]? λ_ d=>jT δ i (.dat d) (t R)
def t7(i:Nat)(f:FO)(ta:GX)(δ:En)(R:W->En->Prop):Prop:=ta δ (wd λz δ1=>qW δ1[i]? λa d0=>f d0 [z] (kO i a R δ1))
def dIxO(i:Nat)(tb:GX)(δ:En)(R:W->En->Prop):Prop:=qW δ[i]? λ_ _=>tb δ (wd λz δ1=>uB δ1[i]? λds=>qI z λk=>Hu ds k λv=>R (.d v) δ1)
def DC(i:Nat)(ta tb:GX)(R:aL)(δ:En):Prop:=ta δ (wd λx δ1=>qW δ1[i]? λa _=>tb δ1 (wd λz δ2=>uB δ2[i]? λds=>qI z λk=>∃j,ixN ds.length k=some j/\jT δ2 i (.own a (.lst (ds.set j x))) R.nx))
def C9(i:Nat)(ta:GX)(R:aL)(δ:En):Prop:=qWL δ[i]? λa _=>ta δ (wd λx δ1=>uB δ1[i]? λds=>ds.length<9000/\jT δ1 i (.own a (.lst (ds++[x]))) R.nx)
section
theorem S.ret{K:Zf}{H:Hp}{i:Nat}(s:S K G δ P σ H)(e:δ[i]?=some (.own a d)):zc K G H a d:=by
 obtain⟨A,x⟩:=s;obtain⟨_,aa,oo⟩:=x.own i a d e;exact⟨x.old,x.new a aa,λz=>(x.new a aa).elim (λq=>x.m0 a z q) λq=>(x.pm a q).2 z,jx aa oo⟩
theorem lr(i:Nat)(hN:X.N[i]?=some x:=by rfl)(hv:Vis X.env.scope x:=by walk_at "v3")(hd:(x==("__debug__":Str))=false:=by decide)
  (hcd:(x==("__classdict__":Str))=false:=by decide):DS X (.Return (some (.Name x p)) pos) (CQ i) :=
 PS.imp (qz (a4 hN hv hd hcd)) λE σ H ⟨G,δ,P,R,s,h,_,k,_⟩=>let ⟨a,d,e,r⟩:=qW.ex h;⟨.ref a,s.own e,k.2.1 d r a H (s.ret e)⟩
theorem uv(h:DA X es t):DS X (.Return (some (.List es p)) pos) (Fe t) :=
 PS.imp (qz (ud h)) λE σ H ⟨G,δ,P,R,s,h,_,k,_⟩=>⟨G,δ,P,_,s,h,λds δ1 h9 vs H1 hl ⟨A,x⟩=>⟨by rw[<- hl];exact small (q9.ex h9).1,λp hp=>k.2.1 _ (q9.ex h9).2 p _ (by
  have rs:=x.reps ds vs hl (λq hq=>HV _ hq)
  have sm:=aF hp (.lst vs)
  have nm:¬ (G.M0 p\/A p):=λz=>x.mem p z hp
  refine⟨λb o e n=>sm b o (x.old b o e n),.inl ?_,λz=>nm (.inl z),vs,av,Reps.kp (Kp.of_same sm) _ _ (Reps.more (λb z=>?_) _ _ rs)⟩
  ·cases q:G.H0 p with
   | none=>rfl
   | some o=>exact absurd hp (x.stay p (by rw[q];exact λz=>nomatch z))
  ·rcases z with z | z
   ·exact .inl (.inl z)
   ·exact .inr (by rw[z];exact hp))⟩⟩
theorem dJ(i:Nat)(hN:X.N.Nodup)(h:DA X es t)(hi:X.N[i]?=some x:=by rfl)(hx:Loc X.env.scope x:=by walk_at "v2")(hs:swapsWith (.List es p) (some (.Name x pos')) pos.line X.env=pure false:=by rfl)
  (hf:X.fn x=true\/X.env.scope.names.lookup x=some .local :=by walk_at "v1"):DS X (.Assign [.Name x pos'] (.List es p) pos) (CP i t) :=
 PS.imp (gx hN hi hx (ud h) hs hf) λE σ H ⟨G,δ,P,R,s,h,k,_⟩=>⟨G,δ,P,_,s,h,λds δ1 h9 vs H1 hl ⟨A,x⟩=>⟨by rw[<- hl];exact small (q9.ex h9).1,λp hp=>by
  have r:=(q9.ex h9).2
  have rs:=x.reps ds vs hl (λq hq=>HV _ hq)
  have sm:=aF hp (.lst vs)
  refine k _ (r p) _ _ ⟨_,x.claim (P':=P) hp sm ⟨vs,av,Reps.kp (Kp.of_same sm) _ _ (Reps.more (λb z=>?_) _ _ rs)⟩ λq hq=>HP _ hq⟩
  rcases z with z | z
  ·exact .inl z
  ·exact .inr (by rw[z];exact hp)⟩⟩
theorem kC(i:Nat)(hN:X.N.Nodup)(hi:X.N[i]?=some x:=by rfl)(hx:Loc X.env.scope x:=by walk_at "v2")(hs:swapsWith (.Dict [] [] p) (some (.Name x pos')) pos.line X.env=pure false:=by rfl)
  (hf:X.fn x=true\/X.env.scope.names.lookup x=some .local :=by walk_at "v1"):DS X (.Assign [.Name x pos'] (.Dict [] [] p) pos) (CF i) :=
 PS.imp (gx hN hi hx qQ hs hf) λE σ H ⟨G,δ,P,R,⟨A,x⟩,h,k,_⟩=>λp hp=>by
  have sm:=aF hp (.dK [])
  exact k _ (h p) _ _ ⟨_,x.claim (P':=P) hp sm ⟨[],by rw[av];rfl,rfl,Reps.nil⟩ λq hq=>hq⟩
theorem Bk(i:Nat)(hN:X.N.Nodup)(C:Cal X.prog X.w X.K X.mg X.base k x ps (spN X.K f))(hr:cI k X.A)(hg:Gl X x)(ha:DA X (a::es) t)(hi:X.N[i]?=some y:=by rfl)(hx:Loc X.env.scope y:=by walk_at "v2")
  (hdb:(x==("__debug__":Str))=false:=by decide) (he:starEach (a::es) X.env=(false,eval a X.env)::starEach es X.env:=by rfl) (hpl:(backTo pos2 (starEach es X.env)).any (·.1)=false:=by rfl)
  (hs:swapsWith (.Call (.Name x p) (a::es) [] pos2) (some (.Name y pos')) pos.line X.env=pure false:=by rfl) (hf:X.fn y=true\/X.env.scope.names.lookup y=some .local :=by walk_at "v1") :
  DS X (.Assign [.Name y pos'] (.Call (.Name x p) (a::es) [] pos2) pos) (D1 i f t):=by
 obtain⟨g,fd,F,b,kp,m⟩:=C.ex;refine PS.imp (gx hN hi hx (f6 F hr hg m kp b .nil v6 ha hdb he hpl) hs hf) λE σ H ⟨G,δ,P,R,s,h,k,_⟩=>⟨G,δ,P,_,s,h,λds δ1 h1 vs H1 hl ⟨A,x⟩=>?_⟩;show spN X.K f (vs++[]) H1 _ _;rw[IE];exact⟨_,ds,_,x.mem,x.reps ds vs hl (λq hq=>HV _ hq),h1,λd r a H' sm fr ow=>k _ (r a) _ _ ⟨_,x.claim (P':=P) fr sm ow λq hq=>HP _ hq⟩⟩
theorem uQ{K:Zf}{A:Addr->Prop}{δ:En}{H:Hp}{i:Nat}{ds:Zi}{vs:Zg}{R:D->D->Prop}{Q:VK}{E:XK}(x:Sx K G A δ P σ H)(hi:δ[i]?=some (.own a d0))(hl:ds.length=vs.length)(hp:∀p∈ds.zip vs,p∈P)
  (hP:∀p∈P',p∈P) (hf:f d0 ds R) (k:∀r d1,R r d1->∀v H',S K G (δ.set i (.own a d1)) ((r,v)::P') σ H'->Q v H'):spO K f (.ref a::vs) H Q E:=by
 obtain⟨_,aa,oo⟩:=x.own i a d0 hi;have e1:∀b,(((G.M0 b\/A b)/\b≠a)\/b=a)->(G.M0 b\/A b):=λb h=>h.elim (λz=>z.1) λz=>.inr (by rw[z];exact aa);have e2:∀b,(G.M0 b\/A b)->(((G.M0 b\/A b)/\b≠a)\/b=a):=λb h=>by
  by_cases z:b=a
  ·exact .inr z
  ·exact .inl ⟨h,z⟩
 refine⟨λb=>(G.M0 b\/A b)/\b≠a,a,d0,vs,ds,R,rfl,λb z=>x.mem b z.1,λz=>z.2 rfl,bx.more (λb z=>.inl (e1 b z)) oo,Reps.more (λb z=>.inl (e1 b z)) _ _ (x.reps ds vs hl hp),hf,λr d1 hr v H' hk ow rp=>k r d1 hr v H' ⟨A,?_⟩⟩;exact((x.change hi hk (bx.more (λb z=>.inl (e2 b z)) ow)).sub hP).push (G3.more (λb z=>.inl (e2 b z)) _ _ rp)
theorem dY(i:Nat)(C:Cal X.prog X.w X.K X.mg X.base k x ps (spO X.K f))(hr:cI k X.A)(hg:Gl X x)(ha:DA X es t)(hN:X.N[i]?=some y:=by rfl)
  (hv:Vis X.env.scope y:=by walk_at "v3") (hd:(y==("__debug__":Str))=false:=by decide) (hcd:(y==("__classdict__":Str))=false:=by decide) (hdb:(x==("__debug__":Str))=false:=by decide)
  (he:starEach (.Name y p2::es) X.env=(false,eval (.Name y p2) X.env)::starEach es X.env:=by rfl) (hpl:(backTo pos (starEach es X.env)).any (·.1)=false:=by rfl) :
  DE X (.Call (.Name x p) (.Name y p2::es) [] pos) (zB i f t):=by
 obtain⟨g,fd,F,b,kp,m⟩:=C.ex;refine PE.imp (f6 F hr hg m kp b .nil v6 (aJ (a4 hN hv hd hcd) ha he) hdb he hpl) λσ H Q ⟨G,δ,P,R,s,h,k,_⟩=>?_;replace h:=qW.ex h;obtain⟨a,d,e,h⟩:=h;refine⟨.ref a,s.own e,G,δ,P,_,s,h,λds δ1 h1 vs H1 hl ⟨A,x⟩=>?_⟩;replace h1:=qWe.ex x (s.own e) h1;obtain⟨d0,hi,hf⟩:=h1;show spO X.K f ((V.ref a::vs)++[]) H1 Q _;rw[IE];exact uQ x hi hl (λq hq=>HV _ hq) (P':=P) (λq hq=>HP _ hq) hf λr d1 hr v H' s'=>k r _ hr v H' s'
theorem lV(i:Nat)(C:Cal X.prog X.w X.K X.mg X.base k x ps (wL X.K f))(hr:cI k X.A)(hg:Gl X x)(ha:DE X a ta)(hN:X.N[i]?=some y:=by rfl)
  (hv:Vis X.env.scope y:=by walk_at "v3") (hd:(y==("__debug__":Str))=false:=by decide) (hcd:(y==("__classdict__":Str))=false:=by decide) (hdb:(x==("__debug__":Str))=false:=by decide)
  (he:starEach [a,.Name y p2] X.env=(false,eval a X.env)::starEach [.Name y p2] X.env:=by rfl) (he2:starEach [.Name y p2] X.env=(false,eval (.Name y p2) X.env)::starEach [] X.env:=by rfl) (hpl:(backTo pos (starEach [.Name y p2] X.env)).any (·.1)=false:=by rfl) :
  DE X (.Call (.Name x p) [a,.Name y p2] [] pos) (t7 i f ta):=by
 obtain⟨g,fd,F,b,kp,m⟩:=C.ex;refine PE.imp (f6 F hr hg m kp b .nil v6 (aJ ha (aJ (a4 hN hv hd hcd) b9 he2) he) hdb he hpl) λσ H Q ⟨G,δ,P,R,s,h,k,_⟩=>up.mk s h λz δ1 h1 v H1 s1=>?_;replace h1:=qW.ex h1;obtain⟨a,d0,hi,hf⟩:=h1;refine⟨.ref a,s1.own hi,?_⟩;show wL X.K f [v,.ref a] H1 Q _;obtain⟨A,x⟩:=s1;exact⟨v,.ref a,rfl,uQ (ds:=[z]) x hi rfl (by simp) (P':=P) (λq hq=>Hx _ hq) hf λr d1 hr v H' s'=>k r _ hr v H' s'⟩
theorem c5{K:Zf}{G:Gf}{A:Addr->Prop}{H:Hp}{i:Nat}(x:Sx K G A δ P σ H)(hi:δ[i]?=some (.own a (.lst ds))):σ[i]?=some (some (.ref a))/\A a/\∃vs,H a=some (.lst vs)/\Reps K (λb=>G.M0 b\/A b) H ds vs:=by
 obtain⟨h1,h2,vs,h3,h4⟩:=x.own i a _ hi;exact⟨h1,h2,vs,h3,h4⟩
theorem jv(i:Nat)(hb:DE X b tb)(hs:pA b)(hN:X.N[i]?=some y:=by rfl)(hv:Vis X.env.scope y:=by walk_at "v3")
  (hd:(y==("__debug__":Str))=false:=by decide) (hcd:(y==("__classdict__":Str))=false:=by decide):DE X (.Subscript (.Name y p) b pos) (dIxO i tb) :=
 PE.imp (CA vh (a4 hN hv hd hcd) hb hs) λσ H Q ⟨G,δ,P,R,s,h,k,_⟩=>let ⟨a,ds0,e,h⟩:=qW.ex h;⟨.ref a,s.own e,up.mk s h λz δ1 h1 v H1 s1=>by
  obtain⟨A,x⟩:=id s1;replace h1:=uB.ex x (s.own e) h1;obtain⟨ds,hi,h1⟩:=h1;replace h1:=qI.ex h1;obtain⟨j,ez,h1⟩:=h1;replace h1:=Hu.ex h1;obtain⟨w,ew,r⟩:=h1;subst ez;obtain⟨_,aa,vs,ab,rs⟩:=c5 x hi;obtain⟨n,h1,h2⟩:=uY (Reps.length _ _ rs) ew;obtain⟨u,hu,ru⟩:=Reps.get _ _ rs n w h1
  exact⟨a,vs,j,u,rfl,aM (x.pnd (.int j,v) (by simp)),G4.of ab,h2 u hu,k w δ1 r u H1 ⟨A,(x.sub (P':=P) λq hq=>Hx _ hq).push ru⟩⟩⟩
theorem lu(i:Nat)(hg:Gl X "len")(hm:X.mg "len"=none)(hv':bootBuiltins "len"=some (.builtin "len"))(hN:X.N[i]?=some y:=by rfl)(hv:Vis X.env.scope y:=by walk_at "v3")
  (hd:(y==("__debug__":Str))=false:=by decide) (hcd:(y==("__classdict__":Str))=false:=by decide) (he:starEach [.Name y p2] X.env=(false,eval (.Name y p2) X.env)::starEach [] X.env:=by rfl) (hpl:(backTo pos (starEach [] X.env)).any (·.1)=false:=by rfl) :
  DE X (.Call (.Name "len" p) [.Name y p2] [] pos) (EY i) :=
 PE.imp (dZ gu hg hm hv' (aJ (a4 hN hv hd hcd) b9 he) (by decide) (by decide) he hpl) λσ H Q ⟨G,δ,P,R,s,h,k,_⟩=>by
  replace h:=qWL.ex h;obtain⟨a,ds,e,h⟩:=h;obtain⟨A,x⟩:=id s;obtain⟨h1,aa,vs,ab,rs⟩:=c5 x e;exact⟨.ref a,h1,a,vs,rfl,.inl (G4.of ab),k _ δ h _ H (s.sc (by rw[Reps.length _ _ rs];rfl))⟩
theorem wc(i:Nat)(hg:Gl X "tuple")(hm:X.mg "tuple"=none)(hv':bootBuiltins "tuple"=some (.type "tuple"))(hN:X.N[i]?=some y:=by rfl)(hv:Vis X.env.scope y:=by walk_at "v3")
  (hd:(y==("__debug__":Str))=false:=by decide) (hcd:(y==("__classdict__":Str))=false:=by decide) (he:starEach [.Name y p2] X.env=(false,eval (.Name y p2) X.env)::starEach [] X.env:=by rfl) (hpl:(backTo pos (starEach [] X.env)).any (·.1)=false:=by rfl) :
  DE X (.Call (.Name "tuple" p) [.Name y p2] [] pos) (vC i) :=
 PE.imp (jr ft hg hm hv' (aJ (a4 hN hv hd hcd) b9 he) (by decide) (by decide) he hpl) λσ H Q ⟨G,δ,P,R,s,h,k,_⟩=>by
  replace h:=qWL.ex h;obtain⟨a,ds,e,h⟩:=h;obtain⟨A,x⟩:=id s;obtain⟨h1,aa,vs,ab,rs⟩:=c5 x e;refine⟨.ref a,h1,a,vs,rfl,.inl ⟨G4.of ab,λl hl=>k _ δ h _ _ ⟨A,(x.same (aF hl _)).push ?_⟩⟩⟩;unfold G3;exact⟨l,vs,rfl,Ho.of av,Reps.kp (Kp.of_same (aF hl _)) _ _ rs⟩
theorem kF(i:Nat)(he:DE X e ta)(hb:DE X b tb)(hN:X.N[i]?=some y:=by rfl)(hv:Vis X.env.scope y:=by walk_at "v3")
    (hd:(y==("__debug__":Str))=false:=by decide) (hcd:(y==("__classdict__":Str))=false:=by decide) (hs:swapsWithSole [.Subscript (.Name y p) b pos'] e pos.line X.env=pure false:=by rfl) (hw:swappedStores [.Subscript (.Name y p) b pos'] e X.env=pure none:=by rfl)
    (h1:(assignEach [.Subscript (.Name y p) b pos'] X.env).map (·.2)=[assign (.Subscript (.Name y p) b pos') X.env]:=by rfl)
    (ha:∀v,assign (.Subscript (.Name y p) b pos') X.env v=(do
      let ov<-holding [v] (eval (.Name y p) X.env)
      let iv<-holding [v,ov] (eval b X.env)
      standAt pos'
      holding [v,ov,iv] (setItem ov iv v)
      release [v,ov,iv] []):=by intro _;rfl) :
    DS X (.Assign [.Subscript (.Name y p) b pos'] e pos) (DC i ta tb) :=
  PS.imp (zz he (DK (a4 hN hv hd hcd) hb xO ha) hs hw h1) λE σ H ⟨G,δ,P,R,s,h,k,_⟩=>up.mk s h λx δ1 h1 v H1 s1=>let ⟨a,ds0,hi0,h1⟩:=qW.ex h1;⟨.ref a,s1.own hi0,up.mk s1 h1 λz δ2 h2 u H2 ⟨A,q⟩=>by
    replace h2:=uB.ex q (s1.own hi0) h2;obtain⟨ds,hi,h2⟩:=h2;replace h2:=qI.ex h2;obtain⟨n,ez,h2⟩:=h2;obtain⟨j,hj,r⟩:=h2;subst ez;obtain⟨_,aa,vs,ab,rs⟩:=c5 q hi;refine⟨a,vs,n,j,rfl,aM (q.pnd (.int n,u) (by simp)),ab,by rw[<- Reps.length _ _ rs];exact hj,k _ r _ _ ⟨A,(q.change (d':=.lst (ds.set j x)) hi (λb o n e=>by rw[aG n];exact e) ⟨vs.set j v,av,?_⟩).sub (P':=P) λq hq=>Hx _ (Hx _ hq)⟩⟩;have kp:Kp (λb=>G.M0 b\/A b) H2 (G6 H2 a (.lst (vs.set j v))):=by
      have hk:∀b o,b≠a->H2 b=some o->G6 H2 a (.lst (vs.set j v)) b=some o:=λb o n e=>by rw[aG n];exact e
      exact⟨λb o e n=>hk b o (λz=>n (.inr (by rw[z];exact aa))) e,λb xs e=>hk b _ (λz=>by rw[z,ab] at e;cases e) e,λb o u e=>hk b _ (λz=>by rw[z,ab] at e;cases e) e⟩
    exact Reps.kp kp _ _ (Reps.set (q.pnd (x,v) (by simp)) j _ _ rs)⟩
theorem bH(i:Nat)(he:DE X e ta)(hN:X.N[i]?=some y:=by rfl)(hv:Vis X.env.scope y:=by walk_at "v3")
  (hd:(y==("__debug__":Str))=false:=by decide) (hcd:(y==("__classdict__":Str))=false:=by decide)
  (hbase:attributeBase (.Name y p) "append" X.env (eval (.Name y p) X.env)=eval (.Name y p) X.env:=by rfl)
  (hfew:((backTo cpos (starEach [e] X.env)).all (λx=>!x.1)&&(backToKw cpos (keywordEach [] X.env)).all (λx=>x.1.isSome)&&decide ([e].length+([]:List Keyword).length+(if ([]:List Keyword).isEmpty then 0 else 1)<30))=true:=by rfl)
  (hline:(apos.endLine==cpos.line)=true:=by rfl) (hs:starEach [e] X.env=(false,eval e X.env)::starEach [] X.env:=by rfl) (hplain:(backTo cpos (starEach [] X.env)).any (·.1)=false:=by rfl)
  (hsw:swapsWith (.Call (.Attribute (.Name y p) "append" apos) [e] [] cpos) none pos.line X.env=pure false:=by rfl) :
  DS X (.Expr (.Call (.Attribute (.Name y p) "append" apos) [e] [] cpos) pos) (C9 i ta) :=
 PS.imp (eO (D6 Km PySem.F.slot_list_append PySem.F.type_list_append lZ (a4 hN hv hd hcd) (aJ he b9 hs) hbase hfew hline hs hplain) hsw) λE σ H ⟨G,δ,P,R,s,h,k,_⟩=>by
  replace h:=qWL.ex h;obtain⟨a,al,ai,h⟩:=h;obtain⟨A0,x0⟩:=id s;obtain⟨h0,_,aj,ah,_⟩:=c5 x0 ai;refine⟨.ref a,h0,.inl ⟨rfl,aj,G4.of ah⟩,up.mk s h λx δ1 h1 v H1 ⟨A,q⟩=>?_⟩;replace h1:=uB.ex q h0 h1;obtain⟨ds,hi,hz,r⟩:=h1;obtain⟨_,aa,vs,ab,rs⟩:=c5 q hi;refine⟨a,vs,v,rfl,rfl,ab,by rw[<- Reps.length _ _ rs];exact jn (JK hz),k _ r _ _ ⟨A,(q.change (d':=.lst (ds++[x])) hi (λb o n e=>by rw[aG n];exact e) ⟨vs++[v],av,?_⟩).sub (P':=P) λq hq=>Hx _ hq⟩⟩;have kp:Kp (λb=>G.M0 b\/A b) H1 (G6 H1 a (.lst (vs++[v]))):=by
   have hk:∀b o,b≠a->H1 b=some o->G6 H1 a (.lst (vs++[v])) b=some o:=λb o n e=>by rw[aG n];exact e
   exact⟨λb o e n=>hk b o (λz=>n (.inr (by rw[z];exact aa))) e,λb xs e=>hk b _ (λz=>by rw[z,ab] at e;cases e) e,λb o u e=>hk b _ (λz=>by rw[z,ab] at e;cases e) e⟩
  exact Reps.kp kp _ _ (Reps.append _ _ _ _ rs (Reps.one (q.pnd (x,v) (by simp))))
theorem bJ(i:Nat){st:List Stmt}(h:DSs X st u):DSs X st (nB i u) :=
 PSs.imp h λE σ H ⟨G,δ,P,R,⟨A,x⟩,h,k⟩=>let ⟨a,d,e,h⟩:=qW.ex h;⟨G,_,P,R,⟨_,x.freeze e λz=>(x.new a (x.own i a d e).2.1).elim (λq=>x.m0 a z q) λq=>(x.pm a q).2 z⟩,h,k⟩
end
def dAt{α:Type}:Zb->List α->Str->Option α
 | k::ks,d::ds,x=>if k=x then some d else dAt ks ds x
 | _,_,_=>none
def nc{α:Type}:Zb->List α->Str->α->List α
 | k::ks,d::ds,x,y=>(if k=x then y else d)::nc ks ds x y
 | _,ds,_,_=>ds
def jB(ks:Zb)(x:Str):Zb:=if x∈ks then ks else ks++[x]
def lU{α:Type}(ks:Zb)(ds:List α)(x:Str)(y:α):List α:=if x∈ks then nc ks ds x y else ds++[y]
theorem pV:∀(ks:Zb) (ds:List α) (x:Str) (y:α),(nc ks ds x y).length=ds.length
 | [],ds,_,_=>by cases ds<;>rfl
 | k::ks,[],_,_=>rfl
 | k::ks,d::ds,x,y=>by unfold nc;rw[HJ,HJ,pV ks ds x y]
theorem Bq(h:ks.length=ds.length):(jB ks x).length=(lU ks ds x y).length:=by
 unfold jB lU
 by_cases e:x∈ks
 ·rw[HU e,HU e,pV];exact h
 ·rw[HQ e,HQ e,HC,HC,h];rfl
theorem xh(x:Str)(h:ks.length=vs.length):((cc ks vs).any λkv=>decide (kv.1=Sum.inr x))=decide (x∈ks):=by
 induction ks generalizing vs with
 | nil=>rfl
 | cons k ks ih =>
  cases vs with
  | nil=>cases h
  | cons v vs =>
   show ((Sum.inr k,v)::cc ks vs).any _=_
   rw[JN,ih (J0 h)]
   by_cases e:k=x
   ·subst e;simp
   ·have e2:¬ x=k:=λz=>e z.symm
    simp[e,e2]
theorem xU(x:Str)(y:V):(cc ks vs).map (λkv=>if kv.1=Sum.inr x then (kv.1,y) else kv)=cc ks (nc ks vs x y):=by
 induction ks generalizing vs with
 | nil=>rfl
 | cons k ks ih =>
  cases vs with
  | nil=>rfl
  | cons v vs =>
   show ((Sum.inr k,v)::cc ks vs).map _=(Sum.inr k,if k=x then y else v)::cc ks (nc ks vs x y)
   rw[Im,ih]
   by_cases e:k=x
   ·subst e;simp
   ·have:¬ (Sum.inr k:Hn)=Sum.inr x:=λz=>e (Sum.inr.inj z)
    simp[e]
theorem Av(x:Str)(y:V)(h:ks.length=vs.length):rC (cc ks vs) (Sum.inr x) y=cc (jB ks x) (lU ks vs x y):=by
 unfold rC;rw[xh x h];unfold jB lU
 by_cases e:x∈ks
 ·rw[IF e,HU rfl,HU e,HU e,xU]
 ·rw[IQ e,HQ HE,HQ e,HQ e];unfold cc;rw[HS,List.zip_append (by rw[Hv];exact h)];rfl
theorem fK(x:Str):oH (cc ks vs) (Sum.inr x)=dAt ks vs x:=by
 induction ks generalizing vs with
 | nil=>rfl
 | cons k ks ih =>
  cases vs with
  | nil=>rfl
  | cons v vs =>
   show oH ((Sum.inr k,v)::cc ks vs) _=if k=x then some v else dAt ks vs x
   by_cases e:k=x
   ·subst e;rw[gY rfl,HU rfl]
   ·rw[hG (λz=>e (Sum.inr.inj z)),HQ e,ih]
section
theorem Reps.rep{K:Zf}{M:Addr->Prop}{H:Hp}(r:G3 K M H d v)(x:Str):∀(ks:Zb) (ds:Zi) (vs:Zg),Reps K M H ds vs->Reps K M H (nc ks ds x d) (nc ks vs x v)
 | [],ds,vs,h=>by
  have e1:nc [] ds x d=ds:=by cases ds<;>rfl
  have e2:nc [] vs x v=vs:=by cases vs<;>rfl
  rw[e1,e2];exact h
 | k::ks,[],vs,h=>by unfold Reps at h;subst h;exact Reps.nil
 | k::ks,e::ds,vs,h=>by
  unfold Reps at h;obtain⟨w,rs,rfl,q,s⟩:=h;show Reps K M H ((if k=x then d else e)::nc ks ds x d) ((if k=x then v else w)::nc ks rs x v);refine Reps.cons ?_ (Reps.rep r x ks ds rs s)
  by_cases z:k=x
  ·rw[HU z,HU z];exact r
  ·rw[HQ z,HQ z];exact q
theorem Reps.put{K:Zf}{M:Addr->Prop}{H:Hp}(x:Str)(h:Reps K M H ds vs)(r:G3 K M H d v):Reps K M H (lU ks ds x d) (lU ks vs x v):=by
 unfold lU
 by_cases e:x∈ks
 ·rw[HU e,HU e];exact Reps.rep r x ks ds vs h
 ·rw[HQ e,HQ e];exact Reps.append _ _ _ _ h (Reps.one r)
theorem Reps.dAt{K:Zf}{M:Addr->Prop}{H:Hp}(x:Str):∀(ks:Zb) (ds:Zi) (vs:Zg),Reps K M H ds vs->(∀d,DL.dAt ks ds x=some d->∃v,DL.dAt ks vs x=some v/\G3 K M H d v)/\(DL.dAt ks ds x=none->DL.dAt ks vs x=none)
 | [],ds,vs,h=>⟨λd e=>(nomatch e),λ_=>rfl⟩
 | k::ks,[],vs,h=>by unfold Reps at h;subst h;exact⟨λd e=>(nomatch e),λ_=>rfl⟩
 | k::ks,e::ds,vs,h=>by
  unfold Reps at h;obtain⟨w,rs,rfl,q,s⟩:=h;obtain⟨h1,h2⟩:=Reps.dAt x ks ds rs s;show (∀d,(if k=x then some e else DL.dAt ks ds x)=some d->∃v,(if k=x then some w else DL.dAt ks rs x)=some v/\_)/\((if k=x then some e else DL.dAt ks ds x)=none->(if k=x then some w else DL.dAt ks rs x)=none)
  by_cases z:k=x
  ·simp only[if_pos z];exact⟨λd e=>by cases e;exact⟨w,rfl,q⟩,λe=>(nomatch e)⟩
  ·simp only[if_neg z];exact⟨h1,h2⟩
theorem lK(h:ks.length=ds.length):(dAt ks ds x).isSome=decide (x∈ks):=by
 induction ks generalizing ds with
 | nil=>rfl
 | cons k ks ih =>
  cases ds with
  | nil=>cases h
  | cons v vs =>
   show (if k=x then some v else dAt ks vs x).isSome=_
   by_cases e:k=x
   ·subst e;simp
   ·have e2:¬ x=k:=λz=>e z.symm
    rw[HQ e,ih (J0 h)];simp[e2]
end
def xM:Zi->(D->Prop)->Prop
 | [.dct ks ds,.str x],R=>∃d,dAt ks ds x=some d/\R d
 | [.fd ks ds,.str x],R=>∃d,dAt ks ds x=some d/\R d
 | _,_=>False
theorem xG:∀ {d0:Zi} {R:D->Prop},xM d0 R->((∃(ks:Zb) (ds:Zi) (x:Str),d0=[.dct ks ds,.str x]/\∃d,dAt ks ds x=some d/\R d)\/(∃(ks:Zb) (ds:Zi) (x:Str),d0=[.fd ks ds,.str x]/\∃d,dAt ks ds x=some d/\R d)):=by walk_at "or"
theorem xT:xM [.fd ks ds,.str x] R=(∃d,dAt ks ds x=some d/\R d):=rfl
theorem yh:xM [.dct ks ds,.str x] R=(∃d,dAt ks ds x=some d/\R d):=rfl
def fIn(g:Bool->Bool):Zi->(D->Prop)->Prop
 | [.str x,.dct ks _],R=>R (.bl (g (decide (x∈ks))))
 | [.str x,.lst ds],R=>∃ss:Zb,ds=ss.map D.str/\R (.bl (g (decide (x∈ss))))
 | _,_=>False
theorem yx(h:fIn g d0 R):(∃(x:Str) (ks:Zb) (z1:Zi),d0=[.str x,.dct ks z1]/\R (.bl (g (decide (x∈ks)))))\/(∃(x:Str) (ds:Zi),d0=[.str x,.lst ds]/\∃ss:Zb,ds=ss.map D.str/\R (.bl (g (decide (x∈ss))))):=by
 rcases d0 with _ | ⟨a,_ | ⟨b,_ | ⟨c,l⟩⟩⟩
 ·exact False.elim h
 ·cases a<;>exact False.elim h
 ·cases a<;>first | exact False.elim h | (cases b<;>first | exact False.elim h | exact .inl ⟨_,_,_,rfl,h⟩ | exact .inr ⟨_,_,rfl,h⟩)
 ·cases a<;>first | exact False.elim h | (cases b<;>exact False.elim h)
theorem Ar:fIn g [.str x,.dct ks ds] R=(R (.bl (g (decide (x∈ks))))):=rfl
theorem B4:fIn g [.str x,.lst ds] R=(∃ss:Zb,ds=ss.map D.str/\R (.bl (g (decide (x∈ss))))):=rfl
theorem fL{K:Zf}{M:Addr->Prop}{H:Hp}:∀ {ss:Zb} {vs:Zg},Reps K M H (ss.map D.str) vs->vs=ss.map V.str
 | [],vs,h=>by unfold Reps at h;exact h
 | s::ss,vs,h=>by
  rw[Im] at h;unfold Reps at h;obtain⟨v,r,rfl,q,t⟩:=h;rw[bv q,fL t];rfl
theorem cM{K:Zf}{M:Addr->Prop}{H:Hp}:∀(ss:Zb),Reps K M H (ss.map D.str) (ss.map V.str)
 | []=>Reps.nil
 | s::ss=>Reps.cons (by unfold G3;rfl) (cM ss)
theorem d3:∀ {ss:Zb} {us:Zc},bg (ss.map V.str) us->StrsAre us ss
 | [],_,r=>by rw[Kf] at r;cases r;exact .nil
 | s::ss,_,r=>by
  rw[Im] at r
  cases r with
  | @cons _ u _ us h t =>
   obtain⟨t',e⟩:=(show ∃t,u=Value.str s t from h);subst e;exact .cons _ _ (d3 t)
theorem cN:∀ {ss:Zb} {us:Zc},StrsAre us ss->bg (ss.map V.str) us
 | _,_,.nil=>.nil
 | _,_,.cons _ _ h=>.cons ⟨_,rfl⟩ (cN h)
theorem lP(x:Str):∀ {us:Zc} {ss:Zb},StrsAre us ss->us.any (λy=>match y with | .str z _=>z==x | _=>false)=decide (x∈ss)
 | _,_,.nil=>rfl
 | _,_,.cons y t (vs:=us) (ys:=ss) h=>by
  rw[JN,lP x h]
  by_cases e:y=x
  ·subst e;simp
  ·have e2:¬ x=y:=λz=>e z.symm
   simp[e,e2]
theorem p8(h:StrsAre us ss):∀y∈us,∃z t,y=Value.str z t:=by
 induction h with
 | nil=>intro y hy;cases hy
 | cons z t h ih =>
  intro y hy
  rcases HK.mp hy with rfl | hy
  ·exact⟨z,t,rfl⟩
  ·exact ih y hy
section
theorem o_in(hu:X.A.units+64<cLine):Hr X (compareOp .In) λx y=>aT X.K (fIn id) [x,y]:=by
 intro pins s σ H x y v u Q I rx ry h;obtain⟨M,ds,R,m,rs,h,k⟩:=h;have aa:∀b s',Inv X pins σ H s'->R (.bl b)->EP X pins σ Q (.bool b) s':=λb s' I' r=>⟨.bl b,H,I',rfl,k _ r _ H (bE.refl H) (G3.sc rfl)⟩;replace h:=yx h
 rcases h with⟨_,_,_,rfl,h⟩ | ⟨x0,_,rfl,h⟩
 ·obtain⟨h1,h2⟩:=b7 rs
  cases bv h1
  unfold G3 at h2;obtain⟨a,vs,rfl,_,e,l,r⟩:=h2
  cases ry
  refine d_in (by omega) I (nk.k (k:=Sum.inr _) e) rx λs' I'=>?_;rw[fK,lK (by rw[l,Reps.length _ _ r])];exact aa _ _ I' h
 ·obtain⟨ss,rfl,h⟩:=h;obtain⟨h1,h2⟩:=b7 rs
  cases bv h1
  unfold G3 at h2;obtain⟨a,vs,rfl,_,e,r⟩:=h2
  cases ry
  cases fL r
  obtain⟨t,rfl⟩:=rx;obtain⟨ab,rv,pl,_⟩:=I.list (G4.of e);have hs:=d3 rv;refine SeqAt.in_listAt (λy=>match y with | .str z _=>z==x0 | _=>false) pl.isList (λy hy=>?_) ?_
  ·obtain⟨z,t',rfl⟩:=p8 hs y (by simpa using hy);exact SeqAt.EqAt.str_str z t' x0 t
  ·rw[List.any_toArray,lP x0 hs];exact aa _ _ I h
theorem nP(hu:X.A.units+64<cLine):Hr X (compareOp .NotIn) λx y=>aT X.K (fIn Bool.not) [x,y]:=by
 intro pins s σ H x y v u Q I rx ry h;obtain⟨M,ds,R,m,rs,h,k⟩:=h;have aa:∀b s',Inv X pins σ H s'->R (.bl b)->EP X pins σ Q (.bool b) s':=λb s' I' r=>⟨.bl b,H,I',rfl,k _ r _ H (bE.refl H) (G3.sc rfl)⟩;replace h:=yx h
 rcases h with⟨_,_,_,rfl,h⟩ | ⟨x0,_,rfl,h⟩
 ·obtain⟨h1,h2⟩:=b7 rs
  cases bv h1
  unfold G3 at h2;obtain⟨a,vs,rfl,_,e,l,r⟩:=h2
  cases ry
  refine BF (by omega) I (nk.k (k:=Sum.inr _) e) rx λs' I'=>?_;rw[fK,lK (by rw[l,Reps.length _ _ r])];exact aa _ _ I' h
 ·obtain⟨ss,rfl,h⟩:=h;obtain⟨h1,h2⟩:=b7 rs
  cases bv h1
  unfold G3 at h2;obtain⟨a,vs,rfl,_,e,r⟩:=h2
  cases ry
  cases fL r
  obtain⟨t,rfl⟩:=rx;obtain⟨ab,rv,pl,_⟩:=I.list (G4.of e);have hs:=d3 rv;refine SeqAt.notIn_listAt (λy=>match y with | .str z _=>z==x0 | _=>false) pl.isList (λy hy=>?_) ?_
  ·obtain⟨z,t',rfl⟩:=p8 hs y (by simpa using hy);exact SeqAt.EqAt.str_str z t' x0 t
  ·rw[List.any_toArray,lP x0 hs];exact aa _ _ I h
def Bs:Zi->(D->Prop)->Prop
 | [.int i,.int j],R=>R (.bl (!decide (i=j)))
 | [.str x,.str y],R=>R (.bl (!decide (x=y)))
 | [.bl a,.bl b],R=>R (.bl (!decide (a=b)))
 | [.tup xs,.tup ys],R=>(xs=ys/\D.nds xs=true/\D.dps xs<=60)/\R (.bl false)
 | [.lst xs,.lst ys],R=>(xs=ys/\D.nds xs=true/\D.dps xs<=60)/\R (.bl false)
 | _,_=>False
theorem A6:∀ {d0:Zi} {R:D->Prop},Bs d0 R->((∃(i:Int) (j:Int),d0=[.int i,.int j]/\R (.bl (!decide (i=j))))\/(∃(x:Str) (y:Str),d0=[.str x,.str y]/\R (.bl (!decide (x=y))))\/(∃(a:Bool) (b:Bool),d0=[.bl a,.bl b]/\R (.bl (!decide (a=b))))\/(∃(xs:Zi) (ys:Zi),d0=[.tup xs,.tup ys]/\(xs=ys/\D.nds xs=true/\D.dps xs<=60)/\R (.bl false))\/(∃(xs:Zi) (ys:Zi),d0=[.lst xs,.lst ys]/\(xs=ys/\D.nds xs=true/\D.dps xs<=60)/\R (.bl false))):=by walk_at "or"
theorem xx:Bs [.int i,.int j] R=(R (.bl (!decide (i=j)))):=rfl
theorem wv:Bs [.str i,.str j] R=(R (.bl (!decide (i=j)))):=rfl
theorem Bt:Bs [.bl i,.bl j] R=(R (.bl (!decide (i=j)))):=rfl
theorem wZ:Bs [.tup xs,.tup ys] R=((xs=ys/\D.nds xs=true/\D.dps xs<=60)/\R (.bl false)):=rfl
theorem yl:Bs [.lst xs,.lst ys] R=((xs=ys/\D.nds xs=true/\D.dps xs<=60)/\R (.bl false)):=rfl
theorem oF:∀ {l₁:List α} {l₂:List β} {j:Nat} {b:β},Paired F l₁ l₂->l₂[j]?=some b->∃a,l₁[j]?=some a/\F a b
 | _,_,_,_,.nil,e=>by simp at e
 | _,_,0,_,.cons h t,e=>by simp at e;subst e;exact⟨_,rfl,h⟩
 | _,_,j+1,_,.cons h t,e=>by
  obtain⟨a,q,f⟩:=oF (j:=j) t (by simpa using e);exact⟨a,by simpa using q,f⟩
theorem uE{j:Nat}(e:(cc ks vs)[j]?=some (k,v)):∃x,k=Sum.inr x/\ks[j]?=some x/\vs[j]?=some v:=by
 unfold cc at e;rw[List.getElem?_zip_eq_some] at e;obtain⟨e1,e2⟩:=e;rw[HM] at e1
 cases h:ks[j]? with
 | none=>rw[h] at e1;cases e1
 | some x=>rw[h] at e1;exact⟨x,(HR e1).symm,rfl,e2⟩
theorem vD(hu:X.A.units+64<cLine):Hr X (compareOp .NotEq) λx y=>aT X.K Bs [x,y]:=by
 intro pins s σ H x y v u Q I rx ry h;obtain⟨M,ds,R,m,rs,h,k⟩:=h;have al:∀b,R (.bl b)->EP X pins σ Q (.bool b) s:=λb r=>⟨.bl b,H,I,rfl,k _ r _ H (bE.refl H) (G3.sc rfl)⟩;replace h:=A6 h
 rcases h with⟨_,_,rfl,h⟩ | ⟨_,_,rfl,h⟩ | ⟨_,_,rfl,h⟩ | ⟨_,_,rfl,h⟩ | ⟨_,_,rfl,h⟩
 ·exact o_ne hu pins s σ H x y v u Q I rx ry ⟨M,_,R,m,rs,h,k⟩
 ·exact o_ne hu pins s σ H x y v u Q I rx ry ⟨M,_,R,m,rs,h,k⟩
 ·exact o_ne hu pins s σ H x y v u Q I rx ry ⟨M,_,R,m,rs,h,k⟩
 ·obtain⟨⟨e,hn,hd⟩,h⟩:=h;subst e;obtain⟨h1,h2⟩:=b7 rs;unfold G3 at h1 h2;obtain⟨a,vs,rfl,sq,ah⟩:=h1;obtain⟨b,ws,rfl,aj,ai⟩:=h2
  cases rx
  cases ry
  obtain⟨ab,r1,t1,_⟩:=I.tuple sq;obtain⟨aa,r2,t2,_⟩:=I.tuple aj;have hs:ab.length=aa.length:=by rw[<- r1.length,<- r2.length,<- Reps.length _ _ ah,<- Reps.length _ _ ai]
  refine SeqAt.RcNeAt.tuples (e:=λ_=>true) t1 t2 (by omega) (eqAt_Ds I _ X.A.in1 vs ws ab aa hn (by rw[cB];omega) ah ai r1 r2) _ _ _ _ ?_;have z:((List.range (min ab.toArray.size aa.toArray.size)).all (λ_=>true)&&ab.toArray.size==aa.toArray.size)=true:=by simp[hs]
  rw[z];exact al _ h
 ·obtain⟨⟨e,hn,hd⟩,h⟩:=h;subst e;obtain⟨h1,h2⟩:=b7 rs;unfold G3 at h1 h2;obtain⟨a,vs,rfl,_,sq,ah⟩:=h1;obtain⟨b,ws,rfl,_,aj,ai⟩:=h2
  cases rx
  cases ry
  obtain⟨ab,r1,t1,_⟩:=I.list (G4.of sq);obtain⟨aa,r2,t2,_⟩:=I.list (G4.of aj);have hs:ab.length=aa.length:=by rw[<- r1.length,<- r2.length,<- Reps.length _ _ ah,<- Reps.length _ _ ai]
  refine SeqAt.RcNeAt.lists (e:=λ_=>true) t1.isList t2.isList (by simp[hs]) (by omega) (eqAt_Ds I _ X.A.in1 vs ws ab aa hn (by rw[cB];omega) ah ai r1 r2) _ _ _ _ ?_;rw[gO];exact al _ h
end
end DL
namespace DL
open PySem PySem.Spec PyProof.Rows L2
section
theorem kf(ho:s.heap.get? a=some (seqObj "list" vs.toArray n))(hS:StrsAre vs ss)(h64:vs.length<64)
  (h:∀(out:Array Value) (ss':Zb),StrsAre out.toList ss'->ss'.Perm ss->sortedS ss'=true->Q .none { s with heap:=sortedHeap s.heap a vs out }) :
  wpAny (model prog w) A (call (.builtin "list.sort") [.ref a]) Q E s:=by
 refine JA slot_list_sort ⟨_,ho,rfl⟩ entry_list_sort (list_sort_treeK strKind_oneLt ho hS.keysOf (λv₁ v₂ bS e=>keyKind_strs (by rw[<- e];exact hS)) h64 λst' hp hs=>?_) (args_list_sort _);obtain⟨ss',h1,h2,h3⟩:=sorted_out_str hS hp hs;exact⟨_,rfl,h _ ss' h1 h2 h3⟩
end
abbrev Srt(ss:List Str):Prop:=sortedS ss=true
def ja:Zi->(D->Prop)->Prop
 | [.lst ds],R=>∃ss:Zb,ds=ss.map D.str/\ss.length<64/\∀ss',ss'.Perm ss->Srt ss'->R (.lst (ss'.map D.str))
 | [.dct ks _],R=>ks.length<64/\∀ss',ss'.Perm ks->Srt ss'->R (.lst (ss'.map D.str))
 | [.fd ks _],R=>ks.length<64/\∀ss',ss'.Perm ks->Srt ss'->R (.lst (ss'.map D.str))
 | _,_=>False
theorem rM:∀ {d0:Zi} {R:D->Prop},ja d0 R->((∃(ds:Zi),d0=[.lst ds]/\∃ss:Zb,ds=ss.map D.str/\ss.length<64/\∀ss',ss'.Perm ss->Srt ss'->R (.lst (ss'.map D.str)))\/(∃(ks:Zb) (z1:Zi),d0=[.dct ks z1]/\ks.length<64/\∀ss',ss'.Perm ks->Srt ss'->R (.lst (ss'.map D.str)))\/(∃(ks:Zb) (z1:Zi),d0=[.fd ks z1]/\ks.length<64/\∀ss',ss'.Perm ks->Srt ss'->R (.lst (ss'.map D.str)))):=by walk_at "or"
theorem oY:ja [.lst ds] R=(∃ss:Zb,ds=ss.map D.str/\ss.length<64/\∀ss',ss'.Perm ss->Srt ss'->R (.lst (ss'.map D.str))):=rfl
theorem sC:ja [.fd ks ds] R=(ks.length<64/\∀ss',ss'.Perm ks->Srt ss'->R (.lst (ss'.map D.str))):=rfl
theorem oB:ja [.dct ks ds] R=(ks.length<64/\∀ss',ss'.Perm ks->Srt ss'->R (.lst (ss'.map D.str))):=rfl
theorem iC:∀ {ks:Zb} {us:Zc},ks.length=us.length->(∀(j:Nat) v k,us[j]?=some v->ks[j]?=some k->(a8 P w).is (Sum.inr k) v=true)->StrsAre us ks
 | [],[],_,_=>.nil
 | [],_::_,l,_=>by cases l
 | _::_,[],l,_=>by cases l
 | k::ks,u::us,l,h=>by
  have h0:=h 0 u k rfl rfl
  obtain⟨t,rfl⟩:∃t,u=Value.str k t:=by
   have:oK (Sum.inr k) u=true:=h0
   rcases aV this with⟨i,t,e,_⟩ | ⟨x,t,e,e2⟩
   ·cases e
   ·cases e;exact⟨t,e2⟩
  exact .cons _ _ (iC (J0 l) λj v k' e1 e2=>h (j+1) v k' (by simpa using e1) (by simpa using e2))
section
theorem kH(hc:X.calm=true):bR X (.builtin "sorted") (aT X.K ja):=by
 intro pins s σ H xs us Q I rv h;obtain⟨M,ds,R,m,rs,h,k⟩:=h;replace h:=rM h
 rcases h with⟨_,rfl,h⟩ | ⟨_,_,rfl,h⟩ | ⟨_,_,rfl,h⟩
 ·obtain⟨ss,rfl,an,h⟩:=h;obtain⟨x,rfl,q⟩:=aY rs;unfold G3 at q;obtain⟨a,vs,rfl,_,e,r⟩:=q;obtain⟨u,rfl,ru⟩:=eW rv
  cases ru
  cases fL r
  obtain⟨ah,ao,pl,_⟩:=I.list (G4.of e);have hs:=d3 ao;have hl:ah.length=ss.length:=by rw[<- ao.length,Hv]
  refine sorted_strs pl.isList hs (by omega) λout ss' h1 h2 h3=>?_;obtain⟨ep,he⟩:=sortedAll_at s.heap ah out;have hz:(ss'.map V.str).length<=sizeLine:=by rw[Hv,h2.length_eq];exact small (by omega)
  have I2:L2.Inv X pins σ (G6 H (s.heap.objs.size+1) (.lst (ss'.map V.str))) { s with heap:=sortedAll s.heap ah out } :=
   I.laid (t':=s.toks) (λb o=>sortedAll_old) (Nat.le_succ _) (show bA X.prog X.w _ _ _ (.lst (ss'.map V.str)) from⟨hz,out.toList,ep,cN h1,he⟩)
  have fr:H (s.heap.objs.size+1)=none:=I.hok.fresh (Nat.le_succ _)
  refine⟨.ref _,_,I2,rfl,k _ (h ss' h2 h3) _ _ (aF fr _) ?_⟩;unfold G3;exact⟨_,_,rfl,λz=>m _ z fr,av,cM ss'⟩
 ·obtain⟨an,h⟩:=h
  rename_i ks ds
  obtain⟨x,rfl,q⟩:=aY rs;unfold G3 at q;obtain⟨a,vs,rfl,_,e,l,r⟩:=q;obtain⟨u,rfl,ru⟩:=eW rv
  cases ru
  obtain⟨hz,lo,va,ra,da⟩:=Dn I.hok e;obtain⟨ep,al⟩:=da.dictAt;have lv:=Reps.length _ _ r;have aa:va.length=ks.length:=by
   rw[<- ra.length];unfold cc;rw[Jy,Hv];omega
  refine Calls.call_function_entry kind_sorted plain_sorted entry_sorted (args_sorted1 _) ?_;unfold Builtin.«sorted»;refine Hw (m:=checkCount "sorted" 1 1 _) (HI ?_);refine Hw (PySem.W.kdu_collect (A:=X.A.in1) (PySem.W.kdl_dict (knd:=a8 X.prog X.w) (kvs:=va) (ep:=ep) lo) (I.ok.hd hc) al (by rw[aa];exact small (by omega)) λh' tk acc hk hacc=>?_);have hl:acc.toList.length=ks.length:=by rw[JM,<- aa];exact hacc.1
  have hS:StrsAre acc.toList ks:=iC hl.symm λj v k' e1 e2=>by
   obtain⟨k2,x2,h1,h2⟩:=hacc.2 j v (by rw[<- JZ];exact e1);obtain⟨⟨k3,v3⟩,q1,z1,_⟩:=oF ra h1;obtain⟨x,rfl,kx,_⟩:=uE q1;simp only at z1;rw[kx] at e2
   cases e2
   rw[z1];exact h2
  refine Hw (wpAny_newList ?_ (by rw[hl];exact small (by omega)));have ab:(h'.push { cls:=.type "list",data:=.seq acc.toList.toArray }).get? h'.objs.size=some (seqObj "list" acc.toList.toArray 0):=HX _ rfl;refine Hw (Jb (kf ab hS (by omega) λout ss' h1 h2 h3=>?_));refine HI ⟨_,rfl,?_⟩;obtain⟨ai,he⟩:=sortedHeap_at (out:=out) ab;have I1:L2.Inv X pins σ H { s with heap:=h',toks:=tk }:=I.kept (t':=tk) hk;have kp:∀b o,h'.get? b=some o->(sortedHeap (h'.push { cls:=.type "list",data:=.seq acc.toList.toArray }) h'.objs.size acc.toList out).get? b=some o:=λb o e=>by
   have hb:=HN e
   rw[sortedHeap_old (Iq hb) (by rw[Jm];exact Kt hb)];exact Hy _ e
  have aj:(ss'.map V.str).length<=sizeLine:=by rw[Hv,h2.length_eq];exact small (by omega)
  have I2:L2.Inv X pins σ (G6 H h'.objs.size (.lst (ss'.map V.str))) { s with heap:=sortedHeap (h'.push { cls:=.type "list",data:=.seq acc.toList.toArray }) h'.objs.size acc.toList out,toks:=tk } :=
   I1.laid (t':=tk) kp (HD _) (show bA X.prog X.w _ _ _ (.lst (ss'.map V.str)) from⟨aj,out.toList,ai,cN h1,he⟩)
  have fr:H h'.objs.size=none:=I1.hok.fresh (HD _)
  refine⟨.ref _,_,I2,rfl,k _ (h ss' h2 h3) _ _ (aF fr _) ?_⟩;unfold G3;exact⟨_,_,rfl,λz=>m _ z fr,av,cM ss'⟩
 ·obtain⟨an,h⟩:=h
  rename_i ks ds
  obtain⟨x,rfl,q⟩:=aY rs;unfold G3 at q;obtain⟨a,vs,o9,rfl,e,l,r⟩:=q;obtain⟨u,rfl,ru⟩:=eW rv
  cases ru
  obtain⟨hz,lo,va,ra,da⟩:=iT I.hok (.inr ⟨o9,e⟩);obtain⟨ep,al⟩:=da.dictAt;have lv:=Reps.length _ _ r;have aa:va.length=ks.length:=by
   rw[<- ra.length];unfold cc;rw[Jy,Hv];omega
  refine Calls.call_function_entry kind_sorted plain_sorted entry_sorted (args_sorted1 _) ?_;unfold Builtin.«sorted»;refine Hw (m:=checkCount "sorted" 1 1 _) (HI ?_);refine Hw (PySem.W.kdu_collect (A:=X.A.in1) (PySem.W.kdl_dict (knd:=a8 X.prog X.w) (kvs:=va) (ep:=ep) lo) (I.ok.hd hc) al (by rw[aa];exact small (by omega)) λh' tk acc hk hacc=>?_);have hl:acc.toList.length=ks.length:=by rw[JM,<- aa];exact hacc.1
  have hS:StrsAre acc.toList ks:=iC hl.symm λj v k' e1 e2=>by
   obtain⟨k2,x2,h1,h2⟩:=hacc.2 j v (by rw[<- JZ];exact e1);obtain⟨⟨k3,v3⟩,q1,z1,_⟩:=oF ra h1;obtain⟨x,rfl,kx,_⟩:=uE q1;simp only at z1;rw[kx] at e2
   cases e2
   rw[z1];exact h2
  refine Hw (wpAny_newList ?_ (by rw[hl];exact small (by omega)));have ab:(h'.push { cls:=.type "list",data:=.seq acc.toList.toArray }).get? h'.objs.size=some (seqObj "list" acc.toList.toArray 0):=HX _ rfl;refine Hw (Jb (kf ab hS (by omega) λout ss' h1 h2 h3=>?_));refine HI ⟨_,rfl,?_⟩;obtain⟨ai,he⟩:=sortedHeap_at (out:=out) ab;have I1:L2.Inv X pins σ H { s with heap:=h',toks:=tk }:=I.kept (t':=tk) hk;have kp:∀b o,h'.get? b=some o->(sortedHeap (h'.push { cls:=.type "list",data:=.seq acc.toList.toArray }) h'.objs.size acc.toList out).get? b=some o:=λb o e=>by
   have hb:=HN e
   rw[sortedHeap_old (Iq hb) (by rw[Jm];exact Kt hb)];exact Hy _ e
  have aj:(ss'.map V.str).length<=sizeLine:=by rw[Hv,h2.length_eq];exact small (by omega)
  have I2:L2.Inv X pins σ (G6 H h'.objs.size (.lst (ss'.map V.str))) { s with heap:=sortedHeap (h'.push { cls:=.type "list",data:=.seq acc.toList.toArray }) h'.objs.size acc.toList out,toks:=tk } :=
   I1.laid (t':=tk) kp (HD _) (show bA X.prog X.w _ _ _ (.lst (ss'.map V.str)) from⟨aj,out.toList,ai,cN h1,he⟩)
  have fr:H h'.objs.size=none:=I1.hok.fresh (HD _)
  refine⟨.ref _,_,I2,rfl,k _ (h ss' h2 h3) _ _ (aF fr _) ?_⟩;unfold G3;exact⟨_,_,rfl,λz=>m _ z fr,av,cM ss'⟩
def qx:Zi->(D->Prop)->Prop
 | [.lst xs],R=>R (.tup xs)
 | [.fz xs],R=>R (.tup xs)
 | [.tup xs],R=>R (.tup xs)
 | _,_=>False
theorem vX:∀ {d0:Zi} {R:D->Prop},qx d0 R->((∃(xs:Zi),d0=[.lst xs]/\R (.tup xs))\/(∃(xs:Zi),d0=[.fz xs]/\R (.tup xs))\/(∃(xs:Zi),d0=[.tup xs]/\R (.tup xs))):=by walk_at "or"
theorem sw:qx [.lst xs] R=(R (.tup xs)):=rfl
theorem rZ:qx [.tup xs] R=(R (.tup xs)):=rfl
theorem lI:bR X (.type "tuple") (aT X.K qx) :=
 bR.imp ft λxs H Q ⟨M,ds,R,m,rs,h,k⟩=>by
  replace h:=vX h
  rcases h with⟨_,rfl,h⟩ | ⟨_,rfl,h⟩ | ⟨_,rfl,h⟩
  ·obtain⟨x,rfl,q⟩:=aY rs;unfold G3 at q;obtain⟨a,vs,rfl,_,e,r⟩:=q;refine⟨a,vs,rfl,.inl ⟨G4.of e,λl hl=>k _ h _ _ (aF hl _) ?_⟩⟩;unfold G3;exact⟨l,vs,rfl,Ho.of av,Reps.kp (Kp.of_same (aF hl _)) _ _ r⟩
  ·obtain⟨x,rfl,q⟩:=aY rs;unfold G3 at q;obtain⟨a,vs,rfl,e,r⟩:=q;refine⟨a,vs,rfl,.inl ⟨e.seq,λl hl=>k _ h _ _ (aF hl _) ?_⟩⟩;unfold G3;exact⟨l,vs,rfl,Ho.of av,Reps.kp (Kp.of_same (aF hl _)) _ _ r⟩
  ·obtain⟨x,rfl,q⟩:=aY rs;have q0:=q;unfold G3 at q;obtain⟨a,vs,rfl,e,r⟩:=q;exact⟨a,vs,rfl,.inr ⟨e,k _ h _ _ (bE.refl H) q0⟩⟩
theorem kQ:DE X (.Dict [] [] pos) (dC (.dct [] [])) :=
 PE.imp qQ λσ H Q ⟨G,δ,P,R,⟨A,x⟩,r,k,_⟩=>λp hp=>by
  refine k _ δ r (.ref p) _ ⟨A,(x.same (aF hp (.dK []))).push ?_⟩;unfold G3;exact⟨p,[],rfl,λz=>x.mem p z hp,av,rfl,Reps.nil⟩
variable {a b e:Expr} {ta tb:GX} {pos:Pos}
theorem fQ(hu:X.A.units+64<cLine)(ha:DE X a ta)(hb:DE X b tb)(hs:NoSl b):DE X (.Subscript a b pos) (dOp xM ta tb) :=
 PE.imp (AW (by omega) ha hb hs) λσ H Q ⟨G,δ,P,R,s,h,k,_⟩=>up.mk s h λx δ1 h1 v H1 s1=>up.mk s1 h1 λy δ2 h2 u H2 s2=>by
  replace h2:=xG h2
  rcases h2 with⟨ks,ds,z,eq,h2⟩ | ⟨ks,ds,z,eq,h2⟩
  ·skip
   cases eq
   obtain⟨d,ed,r⟩:=h2;obtain⟨A,q⟩:=id s2;have p1:=q.pnd (.dct ks ds,v) (by simp);have p2:u=.str z:=bv (q.pnd (.str z,u) (by simp));unfold G3 at p1;obtain⟨a,vs,rfl,_,he,l,rs⟩:=p1;obtain⟨w',hw,aa⟩:=(Reps.dAt z ks ds vs rs).1 d ed;refine⟨a,w',rfl,?_,k d δ2 r w' H2 ⟨A,(q.sub (P':=P) λp hp=>by simp[hp]).push aa⟩⟩;have g:=nk.k (k:=Sum.inr z) he;rw[fK,hw] at g;rw[p2];exact g
  ·skip
   cases eq
   obtain⟨d,ed,r⟩:=h2;obtain⟨A,q⟩:=id s2;have p1:=q.pnd (.fd ks ds,v) (by simp);have p2:u=.str z:=bv (q.pnd (.str z,u) (by simp));unfold G3 at p1;obtain⟨a,vs,o,rfl,he,l,rs⟩:=p1;obtain⟨w',hw,aa⟩:=(Reps.dAt z ks ds vs rs).1 d ed;refine⟨a,w',rfl,?_,k d δ2 r w' H2 ⟨A,(q.sub (P':=P) λp hp=>by simp[hp]).push aa⟩⟩;have g:nk H2 a (kV (Sum.inr z)) (oH (cc ks vs) (Sum.inr z)):=.inl ⟨_,_,.inr ⟨o,he⟩,rfl,rfl⟩;rw[fK,hw] at g;rw[p2];exact g
def DR(i:Nat)(tv tk:GX)(R:aL)(δ:En):Prop:=tv δ (wd λx δ1=>qW δ1[i]? λa _=>tk δ1 (wd λz δ2=>BV δ2[i]? λks ds=>qX z λy=>ks.length<9000/\jT δ2 i (.own a (.dct (jB ks y) (lU ks ds y x))) R.nx))
theorem ji(i:Nat)(hu:X.A.units+64<cLine)(he:DE X e ta)(hb:DE X b tb)(hN:X.N[i]?=some y:=by rfl)(hv:Vis X.env.scope y:=by walk_at "v3")
  (hd:(y==("__debug__":Str))=false:=by decide) (hcd:(y==("__classdict__":Str))=false:=by decide) (hs:swapsWith e (some (.Subscript (.Name y p) b pos')) pos.line X.env=pure false:=by rfl) :
  DS X (.Assign [.Subscript (.Name y p) b pos'] e pos) (DR i ta tb) :=
 PS.imp (Bh (by omega) (a4 hN hv hd hcd) hb he hs) λE σ H ⟨G,δ,P,R,s,h,k,_⟩=>up.mk s h λx δ1 h1 v H1 s1=>let ⟨a,ds0,hi0,h1⟩:=qW.ex h1;⟨.ref a,s1.own hi0,up.mk s1 h1 λz δ2 h2 u H2 ⟨A,q⟩=>by
  replace h2:=BV.ex q (s1.own hi0) h2;obtain⟨ks,ds,hi,h2⟩:=h2;replace h2:=qX.ex h2;obtain⟨y,ez,hz,r⟩:=h2;subst ez;obtain⟨_,aa,vs,ab,l,rs⟩:=q.own i a _ hi;have lv:=Reps.length _ _ rs;have p2:u=.str y:=bv (q.pnd (.str y,u) (by simp));have ah:(cc ks vs).length<sizeLine:=by
   unfold cc;rw[Jy,Hv];exact jn (by omega)
  have g:=zK.k (k:=Sum.inr y) (v:=v) ab ah
  rw[Av y v (by omega)] at g;refine⟨a,_,rfl,by rw[p2];exact g,k _ r _ _ ⟨A,(q.change (d':=.dct (jB ks y) (lU ks ds y x)) hi (λb o n e=>by rw[aG n];exact e) ⟨lU ks vs y v,av,Bq l,?_⟩).sub (P':=P) λq hq=>Hx _ (Hx _ hq)⟩⟩;have kp:Kp (λb=>G.M0 b\/A b) H2 (G6 H2 a (.dK (cc (jB ks y) (lU ks vs y v)))):=by
   have hk:∀b o,b≠a->H2 b=some o->G6 H2 a (.dK (cc (jB ks y) (lU ks vs y v))) b=some o:=λb o n e=>by rw[aG n];exact e
   exact⟨λb o e n=>hk b o (λz=>n (.inr (by rw[z];exact aa))) e,λb xs e=>hk b _ (λz=>by rw[z,ab] at e;cases e) e,λb o u e=>hk b _ (λz=>by rw[z,ab] at e;cases e) e⟩
  exact Reps.kp kp _ _ (Reps.put y rs (q.pnd (x,v) (by simp)))⟩
def CC(R:aL)(δ:En):Prop:=R.rt .non δ
theorem AI:DS X (.Return none pos) CC:=PS.imp Ac λE σ H ⟨G,δ,P,R,s,h,_,k,_⟩=>k.1 .non δ h .non σ H (s.sc rfl)
def Its(x:Str):It:=⟨λi _=>i<x.cps.size,λi H v H'=>H'=H/\∃c,x.cps[i]?=some c/\v=.str ⟨#[c]⟩,λi _=>x.cps.size<=i⟩
theorem qy{P:Program}{w:World}{K:Zf}{tg:Expr}(it:Addr)(x:Str)(t:Tok)(ty:String)(hty:ty="str_ascii_iterator"\/ty="str_iterator"):yD P w K tg (Its x) [it] it (λi h=>h.IsStrIter it ty x t i) where
 mem:=by simp
 obj:=λi h st b hb=>by
  have e:b=it:=by simpa using hb
  subst e;obtain⟨o,e,c,d⟩:=st;exact⟨o,e,λv z=>by rw[d] at z;cases z⟩
 keep:=λi h h' st k=>let ⟨o,ho,r⟩:=st;⟨o,k it (by simp) o ho,r⟩
 item:=by
  intro X hP hw hK hc i pins s σ H E I hf st hg;subst hP hw hK;have hg:i<x.cps.size:=hg;obtain⟨f0,f1,f2,f3,f4,f5⟩:=hf it (by simp);have aa:∀h',h'.IsStrIter it ty x t (i+1)->Heap.SameBut it s.heap h'->∃u,some (Value.str ⟨#[x.cps[i]]⟩ s.toks)=some u/\wpAny (model X.prog X.w) X.A (letOwnedTupleGo tg (.ref it) u) (λ_ s2=>∃x' H',L2.Inv X pins σ H' s2/\a5 x' u/\(Its x).yld i H x' H'/\s2.heap.IsStrIter it ty x t (i+1)/\∀b∈[it],H' b=none) E { s with heap:=h',toks:=s.toks+1 }:=λh' st' sb=>by
   have I1:L2.Inv X pins σ H { s with heap:=h',toks:=s.toks+1 }:=I.turned (t':=s.toks+1) (λb o hb e=>(sb.2 b hb).trans e) f0 f1 f3 f4 f5
   obtain⟨o,e,c,d⟩:=id st';refine⟨_,rfl,vt (s:={ s with heap:=h',toks:=s.toks+1 }) e c d (by rcases hty with rfl | rfl<;>decide) ⟨.str ⟨#[x.cps[i]]⟩,H,I1,⟨_,rfl⟩,⟨rfl,x.cps[i],by simp[hg],rfl⟩,st',λb hb=>(hf b hb).1⟩⟩
  rcases hty with rfl | rfl
  ·exact wpAny_pyNext_ascii_item st (c:=x.cps[i]) (by simp[hg]) λh' st' sb=>aa h' st' sb
  ·exact wpAny_pyNext_wide_item st (c:=x.cps[i]) (by simp[hg]) λh' st' sb=>aa h' st' sb
 done:=by
  intro X hP hw hK hc i pins s σ H E I hf st hg;subst hP hw hK;have hg:x.cps.size<=i:=hg;obtain⟨f0,f1,f2,f3,f4,f5⟩:=hf it (by simp)
  rcases hty with rfl | rfl
  ·exact wpAny_pyNext_ascii_end (I.ok.hd hc) st (by simp;omega) λh' eb=>⟨rfl,I.turned (t':=s.toks) (λb o hb e=>eb b o hb e) f0 f1 f3 f4 f5⟩
  ·exact wpAny_pyNext_wide_end (I.ok.hd hc) st (by simp;omega) λh' eb=>⟨rfl,I.turned (t':=s.toks) (λb o hb e=>eb b o hb e) f0 f1 f3 f4 f5⟩
 self:=λ_ _ _ _ _ st h=>by
  rcases hty with rfl | rfl
  ·exact wpAny_pyIter_striter_ascii st h
  ·exact wpAny_pyIter_striter_wide st h
def iStr(tl:TE):TI:=λσ H R=>tl σ H λv H1=>∃x,v=.str x/\R (Its x) H1
theorem D4{X:Cx}{tg l:Expr}{tl:TE}(hl:PE X l tl):PI X tg l (iStr tl):=by
 intro pins s σ H R I h;refine Ha (hl pins s σ H _ I h) λv s1 ⟨y,H1,I1,r1,q1⟩=>?_;obtain⟨x,e,q⟩:=q1;subst e;obtain⟨t,rfl⟩:=r1;have fp:∀b∈[s1.heap.objs.size],wo X pins H1 b:=λb hb=>by
  have e:b=s1.heap.objs.size:=by simpa using hb
  subst e;exact I1.fpOk (HD _) (I1.hok.fresh (HD _))
 cases ha:x.cps.all (· < 128)
 ·exact wpAny_pyIter_wide ha ⟨s1.heap.objs.size,[s1.heap.objs.size],_,_,H1,rfl,I1.kept (t':=s1.toks) λb o e=>Hy _ e,qy _ x t _ (.inr rfl),⟨_,HX _ rfl,rfl,rfl⟩,fp,q⟩
 ·exact wpAny_pyIter_ascii ha ⟨s1.heap.objs.size,[s1.heap.objs.size],_,_,H1,rfl,I1.kept (t':=s1.toks) λb o e=>Hy _ e,qy _ x t _ (.inl rfl),⟨_,HX _ rfl,rfl,rfl⟩,fp,q⟩
def tW(x:Str):Zi:=x.cps.toList.map λc=>D.str ⟨#[c]⟩
def Fc(t:GX)(δ:En)(R:Zi->En->Prop):Prop:=t δ (wd λd δ1=>qX d λx=>R (tW x) δ1)
theorem E3(h:DE X e ta):CI X tg e (Fc ta):=⟨_,D4 h,λG δ P σ H R Q s hs k=>up.mk s hs λd δ1 h1 v H1 s1=>by
 replace h1:=qX.ex h1;obtain⟨x,rfl,r⟩:=h1;obtain⟨A1,x1⟩:=id s1
 cases bv (x1.pnd (.str x,v) (by simp))
 have hl:(tW x).length=x.cps.size:=by unfold tW;rw[Hv,JM]
 refine⟨x,rfl,k _ δ1 r _ _ H1 (λq hq=>by simp[hq]) s1 (λA δ σ i H _ hi=>?_) (λA δ σ H _=>?_) λA δ σ i y H H2 _ hi hy=>?_⟩
 ·show i<x.cps.size;omega
 ·show x.cps.size<=_;omega
 ·obtain⟨e,c,hc,rfl⟩:=hy;subst e;refine⟨bE.refl _,.str ⟨#[c]⟩,?_,by unfold G3;rfl⟩;unfold tW;rw[HM,JZ,hc]
  rfl⟩
def dPop(i j:Nat)(R:aL)(δ:En):Prop:=∃a ds y,δ[i]?=some (.own a (.lst (ds++[y])))/\jT δ i (.own a (.lst ds)) λδ1=>jT δ1 j (.dat y) R.nx
theorem tj{X:Cx}(i j:Nat){x y:Str}{p apos cpos pos':Pos}(hN:X.N.Nodup)(hi:X.N[i]?=some y:=by rfl)(hj:X.N[j]?=some x:=by rfl)(hx:Loc X.env.scope x:=by walk_at "v2")(hv:Vis X.env.scope y:=by walk_at "v3")
  (hd:(y==("__debug__":Str))=false:=by decide) (hcd:(y==("__classdict__":Str))=false:=by decide)
  (hbase:attributeBase (.Name y p) "pop" X.env (eval (.Name y p) X.env)=eval (.Name y p) X.env:=by rfl) (hline:(apos.endLine==cpos.line)=true:=by rfl)
  (hsw:swapsWith (.Call (.Attribute (.Name y p) "pop" apos) [] [] cpos) (some (.Name x pos')) pos.line X.env=pure false:=by rfl)
  (hf:X.fn x=true\/X.env.scope.names.lookup x=some .local :=by walk_at "v1") :
  DS X (.Assign [.Name x pos'] (.Call (.Attribute (.Name y p) "pop" apos) [] [] cpos) pos) (dPop i j) :=
 PS.imp (gx hN hj hx (Fg Km PySem.F.slot_list_pop PySem.F.type_list_pop D0 (a4 hi hv hd hcd) hbase hline) hsw hf) λE σ H ⟨G,δ,P,R,⟨A,q⟩,⟨a,ds,y,e,r⟩,k,_⟩=>by
  obtain⟨h1,aa,vs,ab,rs⟩:=c5 q e;have hl:=Reps.length _ _ rs;rw[HC,Ie] at hl;obtain⟨v,ev,rv⟩:=Reps.get _ _ rs ds.length y (by simp);have e1:vs.length-1=ds.length:=by omega
  refine⟨.ref a,h1,.inl ⟨rfl,vs,G4.of ab⟩,a,vs,v,rfl,rfl,ab,by rw[e1];exact ev,k _ r _ _ ?_⟩;have rt:=Reps.take ds.length _ _ rs;rw[List.take_left] at rt;have e2:vs.take ds.length=vs.dropLast:=by rw[List.dropLast_eq_take,e1]
  rw[e2] at rt;have hk:∀b o,b≠a->H b=some o->G6 H a (.lst vs.dropLast) b=some o:=λb o n e=>by rw[aG n];exact e
  have kp:Kp (λb=>G.M0 b\/A b) H (G6 H a (.lst vs.dropLast)) :=
   ⟨λb o e n=>hk b o (λz=>n (.inr (by rw[z];exact aa))) e,λb xs e=>hk b _ (λz=>by rw[z,ab] at e;cases e) e,λb o u e=>hk b _ (λz=>by rw[z,ab] at e;cases e) e⟩
  have q1:=(q.change (d':=.lst ds) e hk ⟨vs.dropLast,av,Reps.kp kp _ _ rt⟩).push (G3.kp kp _ _ rv)
  exact⟨A,q1.set (P':=P) (by simp) λp hp=>by simp[hp]⟩
end
end DL
namespace DL
open PySem PySem.Spec PyProof.Rows L2
section
theorem ke{w:World}{E:Value->Shared->Prop}{us:Zc}(ne:l≠it):∀(bS:Zc) (i:Nat) (s:Shared) (Q:Zc->Shared->Prop),us.drop i=bS->s.heap.IsListIter it l i->s.heap.IsList l us.toArray ->
  (∀h',h'.IsListIter it l (i+bS.length)->Heap.SameBut it s.heap h'->Q bS { s with heap:=h' })->wpAny (model prog w) A (draw (.ref it) bS.length) Q E s
 | [],i,s,Q,_,si,_,k=>HI (k s.heap si (Heap.SameBut.refl ..))
 | u::bS,i,s,Q,e,si,sl,k=>by
  have hu:us[i]?=some u:=by
   have:=Jf (λz=>z[0]?) e
   simpa using this
  have hr:us.drop (i+1)=bS:=by
   have:=Jf List.tail e
   rw[List.tail_drop] at this;simpa using this
  refine Hw (wpAny_pyNext_list_item si sl (x:=u) (by simpa using hu) λh1 s1 b1=>Hw (Jb ?_));have aa:h1.IsList l us.toArray:=by
   obtain⟨o,ho,r⟩:=sl;exact⟨o,(b1.2 l ne).trans ho,r⟩
  refine ke ne bS (i+1) { s with heap:=h1 } _ hr s1 aa λh2 s2 b2=>HI ?_;refine k h2 ?_ (b1.trans b2);rw[HJ,Nat.add_comm bS.length 1,<- Nat.add_assoc];exact s2
theorem ku(hh:A.handled=none)(sl:s.heap.IsList l us.toArray)
  (k:∀h',(∀b o,s.heap.get? b=some o->h'.get? b=some o)->Q us { s with heap:=h' }):wpAny (model prog w) A (unpackItems (.ref l) us.length none) Q E s:=by
 have aa:l<s.heap.objs.size:=let ⟨_,ho,_⟩:=sl;HN ho
 have ty:s.TypeIs (.ref l) "list":=let ⟨o,ho,hc,_⟩:=sl;⟨o,ho,hc⟩
 unfold unpackItems notIterableAtAll;refine Hw (Hw (wpAny_specialOf ty F.slot_list_iter.lookup (HI ?_)));rw[HQ HE];refine Hw (Jb (J4 sl (Hw (Jb ?_))));have ah:∀o:Obj,(s.heap.push o).IsList l us.toArray:=λo=>let ⟨q,ho,r⟩:=sl;⟨q,Hy _ ho,r⟩;refine ke (us:=us) (Iq aa) us 0 _ _ (List.drop_zero ..) ⟨_,HX _ rfl,rfl,rfl⟩ (ah _) λh1 s1 b1=>?_;rw[HQ (Ir _)];have ab:h1.IsList l us.toArray:=by
  obtain⟨o,ho,r⟩:=sl;exact⟨o,(b1.2 l (Iq aa)).trans (Hy _ ho),r⟩
 refine Hw (Jb (wpAny_pyNext_list_end hh s1 ab (by simp) λh2 b2=>?_));rw[HQ (show ¬ ((none:Zd).isSome=true) from HE)];refine HI (k h2 λb o e=>?_);have nb:b≠s.heap.objs.size:=Iq (HN e);exact b2 b o nb ((b1.2 b nb).trans (Hy _ e))
end
section
def gLst(K:Zf)(n:Nat)(t:TGs):TG:=λv σ H Q=>∃a xs,v=.ref a/\G4 K H a xs/\xs.length=n/\t xs σ H Q
theorem Cw(hc:X.calm=true)(h:PGs X es t)(hn:(assignEach es X.env).length=n:=by rfl)(hst:(assignEach es X.env).findIdx? (·.1)=none:=by rfl):PG X (.Tuple es k pos) (gLst X.K n t):=by
 intro pins s σ H v u Q I r ⟨a,xs,e,hq,hl,hw⟩;subst e
 cases r
 obtain⟨us,rv,pl,_⟩:=I.list hq;rw[arm_assign_Tuple];refine Hw (J3 ?_);unfold unpack;rw[hst,hn,<- hl,rv.length];exact Hw (Jb (ku (I.ok.hd hc) pl.isList λh' kp=>h pins _ σ H xs _ Q (I.kept (t':=s.toks) kp) rv hw))
def BH(n:Nat)(t:Cl)(d:D)(δ:En)(R:En->Prop):Prop:=qL d λxs=>uO xs n (t xs δ R)
theorem tz(hc:X.calm=true)(h:DGs X es gs)(hn:(assignEach es X.env).length=n:=by rfl)(hst:(assignEach es X.env).findIdx? (·.1)=none:=by rfl):DG X (.Tuple es kk pos) (BH n gs) :=
 PG.imp (Cw hc h hn hst) λv σ H Q ⟨G,δ,P,d,R,⟨A,x⟩,h,k⟩=>by
  replace h:=qL.ex h;obtain⟨xs,e,h⟩:=h;replace h:=uO.ex h;obtain⟨hl,h⟩:=h;subst e;have q:=x.pnd (.lst xs,v) (by simp);unfold G3 at q;obtain⟨a,vs,e,_,sq,r⟩:=q;subst e;have lv:=Reps.length _ _ r;refine⟨a,vs,rfl,G4.of sq,by rw[<- lv];exact hl,G,δ,P,xs,R,lv,⟨A,?_⟩,h,k⟩;have aa:∀(ds:Zi) (ws:Zg),Reps X.K (λb=>G.M0 b\/A b) H ds ws->∀p∈ds.zip ws,G3 X.K (λb=>G.M0 b\/A b) H p.1 p.2:=by
   intro ds
   induction ds with
   | nil=>intro ws _ p hp;cases hp
   | cons d ds ih =>
    intro ws hr p hp;unfold Reps at hr;obtain⟨w',bS,rfl,q1,q2⟩:=hr
    rcases HK.mp hp with rfl | hp
    ·exact q1
    ·exact ih bS q2 p hp
  have y:=x.sub (P':=P) λp hp=>Hx _ hp
  exact⟨y.old,y.stay,y.m0,y.pm,y.new,y.thr,y.len,y.dat,y.own,y.inj,λp hp=>(HZ.mp hp).elim (aa xs vs r p) (y.pnd p)⟩
end
structure GInt(mg:Str->Zd)(x:Str)(i:Int):Prop where
 ex:∃t,mg x=some (.int i t)
structure GTab(K:Zf)(mg:Str->Zd)(x:Str)(D:List (Str×Str)):Prop where
 ex:∃a,mg x=some (.ref a)/\KTD.tabLook (KTD.datLooks λb=>K.lookup b) (λb=>K.lookup b) a (txt D)=true
theorem yP(k:Str):∀D:List (Str×Str),KTD.datumAt k (txt D)=(KTD.datumAt k D).map λv=>KTD.Dat.flat (.str v)
 | []=>rfl
 | (x,d)::D=>by
  show (if decide (k=x)=true then some (KTD.Dat.flat (.str d)) else KTD.datumAt k (txt D))=(if decide (k=x)=true then some d else KTD.datumAt k D).map _
  rw[yP k D]
  by_cases h:decide (k=x)=true
  ·rw[HU h,HU h];rfl
  ·rw[HQ h,HQ h]
theorem qk:∀(D:List (Str×Str)),(∀v,KTD.datumAt k D=some v->∀t,P (.str v t))->KTD.EachL h k P (txt D)
 | [],_=>trivial
 | (x,d)::D,hq=>by
  show KTD.EachL h k P ((x,KTD.Dat.flat (.str d))::txt D)
  by_cases e:k=x
  ·exact KTD.eachL_hit e (KTD.opened_str λt=>hq d (by show (if decide (k=x)=true then some d else _)=_;rw[HU (IF e)]) t)
  ·exact KTD.eachL_miss e (qk D λv hv=>hq v (by show (if decide (k=x)=true then some d else _)=_;rw[HQ (by simp[e])];exact hv))
section
theorem ul(hg:Gl X x)(h:GInt X.mg x i)(hd:(x==("__debug__":Str))=false:=by decide):DE X (.Name x pos) (dC (.int i)):=by
 obtain⟨t,e⟩:=h.ex;exact de_c (ge (v:=.int i) hg e ⟨t,rfl⟩ hd) rfl
def DQ(D:List (Str×Str))(ty:TE):TE:=λσ H Q=>ty σ H λy H1=>∃k v,y=.str k/\KTD.datumAt k D=some v/\Q (.str v) H1
theorem BU{X:Cx}{D:List (Str×Str)}(hg:Gl X x)(T:GTab X.K X.mg x D)(hb:PE X b ty)(hs:NoSl b)(hd:(x==("__debug__":Str))=false:=by decide):PE X (.Subscript (.Name x p) b pos) (DQ D ty):=by
 obtain⟨a,hm,hl⟩:=T.ex;intro pins s σ H Q I h;refine Subscript_ (Ha (ge (v:=.ref a) hg hm rfl hd pins s σ H (λy0 H0=>y0=.ref a/\DQ D ty σ H0 Q) I ⟨rfl,h⟩) λu s1 ⟨y0,H0,I0,r0,e0,q0⟩=>?_);subst e0
 cases r0
 refine Ha (hb pins s1 σ H0 _ I0 q0) λiv s2 ⟨y,H1,I1,ry,k,v,ey,ev,q⟩=>?_;subst ey;obtain⟨t,rfl⟩:=ry;have T2:KTD.TextTab s2.heap a (txt D):=PySem.W.kt_text_in I1.kIn hl;refine KTD.item_text (h₀:=s2.heap) (D:=txt D) ⟨T2,λ_ _ e=>e⟩ ?_ (qk D λv' hv t'=>?_) (hs _ _)
 ·rw[<- KTD.isSome_datumAt,yP,ev];rfl
 ·rw[ev] at hv
  cases hv
  exact⟨.str v,H1,I1.tok _,⟨t',rfl⟩,q⟩
def DY(D:List (Str×Str))(t:GX)(δ:En)(R:W->En->Prop):Prop:=t δ (wd λz δ1=>qX z λk=>∃v,KTD.datumAt k D=some v/\R (.d (.str v)) δ1)
theorem uw{X:Cx}{D:List (Str×Str)}(hg:Gl X x)(T:GTab X.K X.mg x D)(hb:DE X b tb)(hs:NoSl b)(hd:(x==("__debug__":Str))=false:=by decide):DE X (.Subscript (.Name x p) b pos) (DY D tb) :=
 PE.imp (BU hg T hb hs hd) λσ H Q ⟨G,δ,P,R,s,h,k,_⟩=>up.mk s h λz δ1 h1 u H1 s1=>by
  replace h1:=qX.ex h1;obtain⟨y,ez,h1⟩:=h1;obtain⟨v,ev,r⟩:=h1;subst ez;obtain⟨A,q⟩:=id s1;exact⟨y,v,bv (q.pnd (.str y,u) (by simp)),ev,k _ δ1 r _ H1 ((s1.sub (P':=P) λp hp=>by simp[hp]).sc rfl)⟩
end
def fMax:Zi->(D->Prop)->Prop
 | [.int i,.int j],R=>R (.int (max i j))
 | [.lst ds],R=>∃ns:Ze,ds=ns.map D.int/\0<ns.length/\∀M∈ns,(∀a∈ns,a<=M)->R (.int M)
 | _,_=>False
theorem AR:∀ {d0:Zi} {R:D->Prop},fMax d0 R->((∃(i:Int) (j:Int),d0=[.int i,.int j]/\R (.int (max i j)))\/(∃(ds:Zi),d0=[.lst ds]/\∃ns:Ze,ds=ns.map D.int/\0<ns.length/\∀M∈ns,(∀a∈ns,a<=M)->R (.int M))):=by walk_at "or"
theorem xF:fMax [.int i,.int j] R=(R (.int (max i j))):=rfl
theorem xp:fMax [.lst ds] R=(∃ns:Ze,ds=ns.map D.int/\0<ns.length/\∀M∈ns,(∀a∈ns,a<=M)->R (.int M)):=rfl
theorem m8{K:Zf}{M:Addr->Prop}{H:Hp}:∀ {ns:Ze} {vs:Zg},Reps K M H (ns.map D.int) vs->vs=ns.map V.int
 | [],vs,h=>by unfold Reps at h;exact h
 | s::ss,vs,h=>by
  rw[Im] at h;unfold Reps at h;obtain⟨v,r,rfl,q,t⟩:=h;rw[aM q,m8 t];rfl
theorem kb:∀ {ns:Ze} {us:Zc},bg (ns.map V.int) us->IntsAre us ns
 | [],_,r=>by rw[Kf] at r;cases r;exact .nil
 | n::ns,_,r=>by
  rw[Im] at r
  cases r with
  | @cons _ u _ us h t =>
   obtain⟨t',e⟩:=(show ∃t,u=Value.int n t from h);subst e;exact .cons _ _ (kb t)
theorem wx(hc:X.calm=true):bR X (.builtin "max") (aT X.K fMax):=by
 intro pins s σ H xs us Q I rv h;obtain⟨M,ds,R,m,rs,h,k⟩:=h;replace h:=AR h
 rcases h with⟨i,j,rfl,h⟩ | ⟨_,rfl,h⟩
 ·skip
  refine uA hc pins s σ H xs us Q I rv ?_;obtain⟨x,y,rfl,h1,h2⟩:=kP rs;refine⟨i,j,by rw[aM h1,aM h2],k _ h _ H (bE.refl H) ?_⟩;unfold G3
  congr 1
  by_cases z:j>i
  ·rw[HU z];omega
  ·rw[HQ z];omega
 ·obtain⟨ns,rfl,ai,h⟩:=h;obtain⟨x,rfl,q⟩:=aY rs;unfold G3 at q;obtain⟨a,vs,rfl,_,e,r⟩:=q;obtain⟨u,rfl,ru⟩:=eW rv
  cases ru
  cases m8 r
  obtain⟨aj,ab,pl,_⟩:=I.list (G4.of e);have hi:=kb ab;obtain⟨ys,ey⟩:=hi.allInts.items;have hn:ys.toList.map (·.1)=ns:=by
   have e1:=nums_intItems ys
   rw[<- ey] at e1;exact e1.symm.trans hi.numsOf
  have hz:ys.size=ns.length:=by rw[<- hn,Hv,JM]
  have hl:=pl.isList
  rw[ey] at hl;refine max_intList (I.ok.hd hc) hl (by omega) λv h' tk hv hk=>?_;obtain⟨t,rfl⟩:=intItems_at hv;obtain⟨h1,h2⟩:=argBest_gt (numAt ys) (ys.size-1);refine⟨.int _,H,I.kept (t':=tk) hk,⟨t,rfl⟩,k _ (h _ ?_ λb hb=>?_) _ H (bE.refl H) (G3.sc rfl)⟩
  ·rw[numAt_eq,hn];have aa:argBest (λi j=>decide (numAt ys i>numAt ys j)) (ys.size-1)<ns.length:=by omega
   rw[IM,Iv aa];exact List.getElem_mem aa
  ·obtain⟨j,hj,ej⟩:=List.getElem_of_mem hb;have:=h2 j (by omega);rw[numAt_eq ys j,hn] at this;have ah:ns.getD j 0=b:=by rw[IM,Iv hj];exact ej
   rw[ah] at this;exact this
end DL
namespace Mf
def gc(a b:Int):Int:=(Int.gcd a b:Nat)
theorem Ah(a b:Int):gc b (a.fmod b)=gc a b:=by
 unfold gc;rw[Ky,Int.gcd_sub_mul_left_right,Int.gcd_comm]
theorem jC(a b:Int)(hb:b≠0):(a.fmod b).natAbs<b.natAbs:=by
 rcases Int.lt_or_gt_of_ne hb with h | h
 ·have e:a.fmod b=-((-a).fmod (-b)):=by
   have h1:(-a).fdiv (-b)=a.fdiv b:=Int.neg_fdiv_neg a b
   rw[Ky,Ky,h1,Int.neg_mul];omega
  have h1:=Iy (-a) (b:=-b) (by omega)
  have h2:=IL (-a) (b:=-b) (by omega)
  rw[e];omega
 ·have h1:=Iy a h
  have h2:=IL a h
  omega
theorem BR(a:Int):gc a 0=if a<0 then -a else a:=by
 unfold gc;rw[Int.gcd_zero_right]
 split<;>omega
theorem v9(a b:Int):0<=gc a b:=by unfold gc;omega
theorem yU(a:Int)(h:b≠0):0<gc a b:=by
 unfold gc;have:=Int.gcd_pos_of_ne_zero_right a h;omega
theorem eL(a b:Int):gc a b ∣ a:=Int.gcd_dvd_left a b
theorem dP(a b:Int):gc a b ∣ b:=Int.gcd_dvd_right a b
structure GW(p q:Int):Prop where
 pos:0<q
 cop:gc p q=1
theorem GW.cop'(h:GW p q):Int.gcd p q=1:=by have:=h.cop;unfold gc at this;omega
theorem GW.ne(h:GW p q):q≠0:=by have:=h.pos;omega
theorem GW.uniq(h:GW p q)(h':GW p' q')(e:p*q'=p'*q):p=p'/\q=q':=by
 have d1:q ∣ q':=by
  have:q ∣ p*q':=⟨p',by rw[e,Ja]⟩
  have g:Int.gcd q p=1:=by rw[Int.gcd_comm];exact h.cop'
  have k:=(J2 (k:=q) (n:=p) (m:=q')).mpr this
  rw[g] at k;simpa using k
 have d2:q' ∣ q:=by
  have:q' ∣ p'*q:=⟨p,by rw[<- e,Ja]⟩
  have g:Int.gcd q' p'=1:=by rw[Int.gcd_comm];exact h'.cop'
  have k:=(J2 (k:=q') (n:=p') (m:=q)).mpr this
  rw[g] at k;simpa using k
 have eq:q=q':=by
  have a1:=Int.le_of_dvd h'.pos d1
  have a2:=Int.le_of_dvd h.pos d2
  omega
 subst eq;exact⟨Int.eq_of_mul_eq_mul_right h.ne e,rfl⟩
def dv(t b:Int):Int:=if b<0 then -(gc t b) else gc t b
def G2(t b:Int):Int:=t.fdiv (dv t b)
def G5(t b:Int):Int:=b.fdiv (dv t b)
theorem E8(t:Int)(h:b≠0):dv t b≠0:=by
 have:=yU t h
 unfold dv
 split<;>omega
theorem pz(t b:Int):dv t b ∣ t:=by
 unfold dv
 split
 ·exact(Int.neg_dvd).mpr (eL t b)
 ·exact eL t b
theorem mv(t b:Int):dv t b ∣ b:=by
 unfold dv
 split
 ·exact(Int.neg_dvd).mpr (dP t b)
 ·exact dP t b
theorem t3(t b:Int):G2 t b*dv t b=t:=JP (pz t b)
theorem vd(t b:Int):G5 t b*dv t b=b:=JP (mv t b)
theorem mW(t b:Int):(dv t b).natAbs=Int.gcd t b:=by
 unfold dv gc
 split<;>omega
theorem eC(t:Int)(h:b≠0):GW (G2 t b) (G5 t b):=by
 have e1:=t3 t b
 have e2:=vd t b
 have hd:=E8 t h
 constructor
 ·unfold dv at e2 hd;have gp:=yU t h
  by_cases hb:b<0
  ·rw[HU hb] at e2;have:G5 t b*gc t b=-b:=by rw[Int.mul_neg] at e2;omega
   exact Int.pos_of_mul_pos_left (by omega) gp |> λz=>z
  ·rw[HQ hb] at e2;exact Int.pos_of_mul_pos_left (by omega) gp |> λz=>z
 ·have g:Int.gcd (G2 t b*dv t b) (G5 t b*dv t b)=Int.gcd (G2 t b) (G5 t b)*(dv t b).natAbs:=Int.gcd_mul_right _ _ _
  rw[e1,e2,mW] at g;have gp:=Int.gcd_pos_of_ne_zero_right t h;unfold gc;have:Int.gcd (G2 t b) (G5 t b)=1:=by
   have g2:1*Int.gcd t b=Int.gcd (G2 t b) (G5 t b)*Int.gcd t b:=by rw[Nat.one_mul];exact g
   exact(Nat.eq_of_mul_eq_mul_right gp g2).symm
  omega
theorem qv(t b:Int):G2 t b*b=t*G5 t b:=by
 have e1:=t3 t b
 have e2:=vd t b
 calc G2 t b*b=G2 t b*(G5 t b*dv t b):=by rw[e2]
  _=(G2 t b*dv t b)*G5 t b:=by rw[Ji,Ja (G5 t b)]
  _=t*G5 t b:=by rw[e1]
theorem BK(hb:b≠0)(h:GW p q)(e:p*b=t*q):G2 t b=p/\G5 t b=q:=by
 refine(eC t hb).uniq h ?_;have c:=qv t b;refine Int.eq_of_mul_eq_mul_right hb ?_
 calc G2 t b*q*b=G2 t b*b*q:=by rw[Ji,Ja q,<- Ji]
  _=t*G5 t b*q:=by rw[c]
  _=(t*q)*G5 t b:=by rw[Ji,Ja (G5 t b),<- Ji]
  _=p*b*G5 t b:=by rw[e]
  _=p*G5 t b*b:=by rw[Ji,Ja b,<- Ji]
theorem GW.self(h:GW p q):G2 p q=p/\G5 p q=q:=BK h.ne h rfl
open PySem L2 DL
def bot(q:Str->Int):Zb->Int
 | []=>1
 | n::r=>q n*bot q r
theorem jX(q:Str->Int)(l r:Zb):bot q (l++r)=bot q l*bot q r:=by
 induction l with
 | nil=>show bot q r=1*bot q r;rw[Int.one_mul]
 | cons x l ih=>show q x*bot q (l++r)=q x*bot q l*bot q r;rw[ih,Ji]
theorem vP(q:Str->Int)(n:Str):bot q [n]=q n:=by show q n*1=q n;rw[Int.mul_one]
theorem c4:∀ {l:Zb},(∀n∈l,0<q n)->0<bot q l
 | [],_=>(by decide:(0:Int)<1)
 | n::r,h=>Int.mul_pos (h n (HB ..)) (c4 λm hm=>h m (Hx _ hm))
theorem fS:∀ {l:Zb} {n:Str},n∈l->q n ∣ bot q l
 | x::r,n,h=>by
  rcases HK.mp h with rfl | h
  ·exact Int.dvd_mul_right _ _
  ·exact Int.dvd_trans (fS h) (Int.dvd_mul_left _ _)
theorem yb(h:l.Perm r):bot q l=bot q r:=by
 induction h with
 | nil=>rfl
 | cons x _ ih=>show q x*_=q x*_;rw[ih]
 | swap x y l=>show q y*(q x*bot q l)=q x*(q y*bot q l);rw[<- Ji,<- Ji,Ja (q y)]
 | trans _ _ h1 h2=>rw[h1,h2]
def d9(f:Str->Int):List (Str×Int)->Int
 | []=>0
 | t::r=>t.2*f t.1+d9 f r
theorem oJ(f:Str->Int)(l r:List (Str×Int)):d9 f (l++r)=d9 f l+d9 f r:=by
 induction l with
 | nil=>show d9 f r=0+d9 f r;rw[J1]
 | cons x l ih=>show x.2*f x.1+d9 f (l++r)=x.2*f x.1+d9 f l+d9 f r;rw[ih,Int.add_assoc]
theorem xP(f:Str->Int)(t:Str×Int):d9 f [t]=t.2*f t.1:=by show t.2*f t.1+0=_;rw[Kg]
theorem kc:∀ {l:List (Str×Int)},(∀t∈l,f t.1=g t.1)->d9 f l=d9 g l
 | [],_=>rfl
 | t::r,h=>by show t.2*f t.1+_=t.2*g t.1+_;rw[h t (HB ..),kc λu hu=>h u (Hx _ hu)]
theorem lD(f:Str->Int)(k:Int):∀l:List (Str×Int),k*d9 f l=d9 (λn=>k*f n) l
 | []=>Int.mul_zero k
 | t::r=>by
  show k*(t.2*f t.1+d9 f r)=t.2*(k*f t.1)+_
  rw[Int.mul_add,lD f k r,IV]
def Cr(ts:List (Str×Int)):List (Str×Int):=ts.map λt=>(t.1,-t.2)
def ov(p q:Str->Int)(B:Int)(n:Str):Int:=p n*B.fdiv (q n)
theorem xf(h0:q n≠0)(h:q n ∣ B)(h':q n ∣ C):C*ov p q B n=B*ov p q C n:=by
 obtain⟨x,rfl⟩:=h;obtain⟨y,rfl⟩:=h';unfold ov;rw[Kh _ h0,Kh _ h0];rw[IV,IV (q n*x),Ji,Ji,Ja y x]
theorem vB(h:∀t∈ts,q t.1≠0/\q t.1 ∣ B/\q t.1 ∣ C):C*d9 (ov p q B) ts=B*d9 (ov p q C) ts:=by
 rw[lD,lD];exact kc λt ht=>xf (h t ht).1 (h t ht).2.1 (h t ht).2.2
theorem wI{a b B C s t:Int}(hB:0<B)(hC:0<C)(e:C*s=B*t):(b*B<=s↔b*C<=t):=by
 constructor
 ·intro h;have h1:=Int.mul_le_mul_of_nonneg_left h (Ki hC);rw[e] at h1;have h2:B*(b*C)<=B*t:=by rw[IV B,Ja B C,IV b];exact h1
  exact Int.le_of_mul_le_mul_left h2 hB
 ·intro h;have h1:=Int.mul_le_mul_of_nonneg_left h (Ki hB);rw[<- e] at h1;have h2:C*(b*B)<=C*s:=by rw[IV C,Ja C B,IV b];exact h1
  exact Int.le_of_mul_le_mul_left h2 hC
theorem wQ{b B C s t:Int}(hB:0<B)(hC:0<C)(e:C*s=B*t):(b*B<s↔b*C<t):=by
 constructor
 ·intro h;have h1:=Int.mul_lt_mul_of_pos_left h hC;rw[e] at h1;have h2:B*(b*C)<B*t:=by rw[IV B,Ja B C,IV b];exact h1
  exact Int.lt_of_mul_lt_mul_left h2 (Ki hB)
 ·intro h;have h1:=Int.mul_lt_mul_of_pos_left h hB;rw[<- e] at h1;have h2:C*(b*B)<C*s:=by rw[IV C,Ja C B,IV b];exact h1
  exact Int.lt_of_mul_lt_mul_left h2 (Ki hC)
end Mf
namespace DL
open PySem PySem.Spec PyProof.Rows L2
theorem tG:ltCps (x::r) (y::t)=if x<y then true else if y<x then false else ltCps r t:=by
 show (decide (x<y)||(x==y&&ltCps r t))=_
 rcases J6 x y with h | h | h
 ·rw[HU h,IF h];rfl
 ·subst h;rw[HQ (Ir x),HQ (Ir x)];simp
 ·rw[HQ (KQ h),HU h,IQ (KQ h)];have:(x==y)=false:=by simp;omega
  rw[this];rfl
theorem pP:∀ {a b:List Nat},ltCps a b=false->ltCps b a=false->a=b
 | [],[],_,_=>rfl
 | [],y::s,h,_=>by simp[ltCps] at h
 | x::r,[],_,h=>by simp[ltCps] at h
 | x::r,y::s,h1,h2=>by
  rw[tG] at h1 h2
  rcases J6 x y with h | h | h
  ·rw[HU h] at h1;cases h1
  ·subst h;rw[HQ (Ir x),HQ (Ir x)] at h1 h2;rw[pP h1 h2]
  ·rw[HU h] at h2;cases h2
theorem jl:∀ {a b c:List Nat},ltCps b a=false->ltCps c b=false->ltCps c a=false
 | [],b,c,_,_=>by cases c<;>rfl
 | x::r,[],c,h,_=>by simp[ltCps] at h
 | x::r,y::s,[],_,h=>by simp[ltCps] at h
 | x::r,y::s,z::t,h1,h2=>by
  rw[tG] at h1 h2 ⊢
  rcases J6 y x with h | h | h
  ·rw[HU h] at h1;cases h1
  ·subst h;rw[HQ (Ir y),HQ (Ir y)] at h1
   rcases J6 z y with g | g | g
   ·rw[HU g] at h2;cases h2
   ·subst g;rw[HQ (Ir z),HQ (Ir z)] at h2 ⊢;exact jl h1 h2
   ·rw[HQ (KQ g),HU g]
  ·rcases J6 z y with g | g | g
   ·rw[HU g] at h2;cases h2
   ·subst g;rw[HQ (KQ h),HU h]
   ·have:x<z:=Nat.lt_trans h g
    rw[HQ (KQ this),HU this]
def leS(a b:Str):Prop:=ltCps b.cps.toList a.cps.toList=false
theorem EU(h1:leS a b)(h2:leS b a):a=b:=by
 have:=pP h2 h1
 cases a;cases b
 simp only[Str.mk.injEq] at *;exact Array.toList_inj.mp this
theorem vE:∀ {ss:Zb},Srt ss->ss.Pairwise leS
 | [],_=>.nil
 | x::r,h=>by
  have h:risingS x r=true:=h
  have aa:∀(r:Zb) (x:Str),risingS x r=true->(∀y∈r,leS x y)/\r.Pairwise leS:=by
   intro r
   induction r with
   | nil=>intro x _;exact⟨λy hy=>(nomatch hy),.nil⟩
   | cons y r ih =>
    intro x h;unfold risingS at h;obtain⟨h1,h2⟩:=Iu.mp h;have h1:leS x y:=by unfold leS;cases q:ltCps y.cps.toList x.cps.toList with
     | false=>rfl
     | true=>rw[q] at h1;cases h1
    obtain⟨i1,i2⟩:=ih y h2;refine⟨λz hz=>?_,.cons i1 i2⟩
    rcases HK.mp hz with rfl | hz
    ·exact h1
    ·exact jl h1 (i1 z hz)
  obtain⟨k1,k2⟩:=aa r x h;exact .cons k1 k2
theorem pC:∀ {as bs:Zb},as.Pairwise leS->bs.Pairwise leS->as.Nodup->bs.Nodup->(∀x,x∈as↔x∈bs)->as=bs
 | [],[],_,_,_,_,_=>rfl
 | [],b::bs,_,_,_,_,h=>by have:=(h b).mpr (HB ..);cases this
 | a::as,[],_,_,_,_,h=>by have:=(h a).mp (HB ..);cases this
 | a::as,b::bs,pa,pb,na,nb,h=>by
  cases pa with
  | cons pa1 pa2 =>
   cases pb with
   | cons pb1 pb2 =>
    have e:a=b:=by
     rcases HK.mp ((h a).mp (HB ..)) with e | ha
     ·exact e
     ·rcases HK.mp ((h b).mpr (HB ..)) with e | hb
      ·exact e.symm
      ·exact EU (pa1 b hb) (pb1 a ha)
    subst e;obtain⟨n1,n2⟩:=IZ.mp na;obtain⟨n3,n4⟩:=IZ.mp nb;rw[pC pa2 pb2 n2 n4 λx=>⟨λhx=>?_,λhx=>?_⟩]
    ·rcases HK.mp ((h x).mp (Hx _ hx)) with e | hx'
     ·exact absurd (e ▸ hx) n1
     ·exact hx'
    ·rcases HK.mp ((h x).mpr (Hx _ hx)) with e | hx'
     ·exact absurd (e ▸ hx) n3
     ·exact hx'
def ItA(k:Bool)(h:Heap)(it a:Addr)(i:Nat):Prop:=match k with | true=>h.IsListIter it a i | false=>h.IsTupleIter it a i
def SqA(k:Bool)(h:Heap)(a:Addr)(xs:Array Value):Prop:=match k with | true=>h.IsList a xs | false=>h.IsTuple a xs
theorem ItA.keep(x:ItA k h it a i)(f:∀o,h.get? it=some o->h'.get? it=some o):ItA k h' it a i:=by
 cases k
 ·exact Heap.IsTupleIter.at x f
 ·exact Heap.IsListIter.at x f
theorem SqA.keep(x:SqA k h a xs)(f:∀o,h.get? a=some o->h'.get? a=some o):SqA k h' a xs:=by
 cases k
 ·exact Heap.IsTuple.at x f
 ·exact Heap.IsList.at x f
theorem ItA.obj(x:ItA k h it a i):∃o,h.get? it=some o/\o.cls=.type (if k then "list_iterator" else "tuple_iterator")/\o.data=.fields #[.ref a,.int i 0]:=by
 cases k
 ·exact x
 ·exact x
theorem SqA.there(x:SqA k h a xs):∃o,h.get? a=some o/\∃n,o.data=.seq xs n:=by
 cases k
 ·obtain⟨o,e,_,d⟩:=x;exact⟨o,e,d⟩
 ·obtain⟨o,e,_,d⟩:=x;exact⟨o,e,d⟩
section
theorem GH(a1:s.heap.IsTupleIter it t i)(a2:s.heap.IsTuple t xs)(a3:xs[i]?=some x)
  (q:∀h',h'.IsTupleIter it t (i+1)->Heap.SameBut it s.heap h'->Q x { s with heap:=h' }):wpAny (model prog w) A (Builtin.SmallTypes.nextOf (.ref it)) Q E s:=by
 obtain⟨u,e1,e2,e3⟩:=id a1;obtain⟨ut,f1,_,nn,f2⟩:=a2;unfold Builtin.SmallTypes.nextOf;refine Hw (Jh (name:=Str.ofString "__next__") a1.typeIs Jz (JA Jz a1.typeIs F.entry_tuple_iterator_next ?_ (F.args_tuple_iterator_next_1 _)));refine Hw (m:=field (.ref it) 0) (IB e1 e3 (x:=.ref t) rfl ?_);rw[HQ (c:=(Value.ref t==Value.none)=true) HE];refine Hw (m:=field (.ref it) 1) (IB e1 e3 (x:=.int i 0) rfl ?_);refine Hw (m:=seqItems? (.ref t)) (JE f1 f2 ?_);simp only[Int.toNat_natCast,a3];refine Hw (Ju e1 e3 (by simp) (HI ⟨x,rfl,HI (q _ ?_ (Heap.SameBut.update ..))⟩));refine⟨_,II _ e1 (Jn (IY e3 _)),(Obj.cls_mapFields ..).trans e2,?_⟩;rw[IY e3];simp[rawInt]
theorem vK(a0:A.handled=none)(a1:s.heap.IsTupleIter it t i)(a2:s.heap.IsTuple t xs)(a3:xs[i]?=none)
  (q:∀h' e,Heap.ExtBut it s.heap h'->(∃o,h'.get? e=some o/\o.cls=.type "StopIteration")->E (.ref e) { s with heap:=h' }):wpAny (model prog w) A (Builtin.SmallTypes.nextOf (.ref it)) Q E s:=by
 obtain⟨u,e1,e2,e3⟩:=id a1;obtain⟨ut,f1,_,nn,f2⟩:=a2;unfold Builtin.SmallTypes.nextOf;refine Hw (Jh (name:=Str.ofString "__next__") a1.typeIs Jz (JA Jz a1.typeIs F.entry_tuple_iterator_next ?_ (F.args_tuple_iterator_next_1 _)));refine Hw (m:=field (.ref it) 0) (IB e1 e3 (x:=.ref t) rfl ?_);rw[HQ (c:=(Value.ref t==Value.none)=true) HE];refine Hw (m:=field (.ref it) 1) (IB e1 e3 (x:=.int i 0) rfl ?_);refine Hw (m:=seqItems? (.ref t)) (JE f1 f2 ?_);simp only[Int.toNat_natCast,a3];refine Hw (wpAny_rule (Hw (Ju e1 e3 (by simp) ?_)));refine Hw (m:=newExc (.type "StopIteration") []) ?_;simp only[newExc,newTuple];refine Hw (Je ?_ (by size_fits));refine Hw (m:=firstArgMember _ _) (wpAny_of_eq (a:=Value.none) (by first | rfl | (simp only[firstArgMember];rfl)) ?_);refine Je ?_ (by size_fits);simp only[raiseNew];refine Hw (wpAny_handled ?_)
 first | rw[show A.in1.handled=none from a0] | rw[a0]
 exact Hw (HI (wpAny_throw (q _ _ (((Heap.SameBut.update ..).extBut.push _).push _) ⟨_,HX _ rfl,rfl⟩)))
theorem xW(a1:ItA k s.heap it a i)(a2:SqA k s.heap a xs)(a3:xs[i]?=some x)
  (q:∀h',ItA k h' it a (i+1)->Heap.SameBut it s.heap h'->Q x { s with heap:=h' }):wpAny (model prog w) A (Builtin.SmallTypes.nextOf (.ref it)) Q E s:=by
 cases k
 ·exact GH a1 a2 a3 q
 ·exact wpAny_nextOf_list_item a1 a2 a3 q
theorem i6(a0:A.handled=none)(a1:ItA k s.heap it a i)(a2:SqA k s.heap a xs)(a3:xs[i]?=none)
  (q:∀h' e,Heap.ExtBut it s.heap h'->(∃o,h'.get? e=some o/\o.cls=.type "StopIteration")->E (.ref e) { s with heap:=h' }):wpAny (model prog w) A (Builtin.SmallTypes.nextOf (.ref it)) Q E s:=by
 cases k
 ·exact vK a0 a1 a2 a3 q
 ·exact wpAny_nextOf_list_end a0 a1 a2 a3 q
theorem rF(a1:SqA k s.heap a xs)
  (q:Q (.ref s.heap.objs.size) { s with heap:=s.heap.push { cls:=.type (if k then "list_iterator" else "tuple_iterator"),data:=.fields #[.ref a,.int 0 0] } }):wpAny (model prog w) A (pyIter (.ref a)) Q E s:=by
 cases k
 ·exact wpAny_pyIter_tuple a1 q
 ·exact J4 a1 q
structure ZAp(z p o i j a b:Addr):Prop where
 zp:p≠z
 zo:o≠z
 zi:i≠z
 zj:j≠z
 po:p≠o
 pi:p≠i
 pj:p≠j
 oi:o≠i
 oj:o≠j
 ij:i≠j
 az:a≠z
 ao:a≠o
 ai:a≠i
 aj:a≠j
 bz:b≠z
 bo:b≠o
 bi:b≠i
 bj:b≠j
structure ZAt(k l:Bool)(h:Heap)(z p o i j a b:Addr)(m:Nat)(xs ys:Array Value):Prop where
 hz:IsZip h z p o .none
 hp:IsPair h p (.ref i) (.ref j)
 ho:∃u v,IsPair h o u v
 hi:ItA k h i a m
 hj:ItA l h j b m
 ha:SqA k h a xs
 hb:SqA l h b ys
theorem FW{x1}(D:ZAp z p o i j a b)(Z:ZAt k l s.heap z p o i j a b m xs ys)(hx:xs[m]?=some x)(hy:ys[m]?=some y)
  (q:∀h',ZAt k l h' z p o i j a b (m+1) xs ys->IsPair h' s.heap.objs.size x y->h'.objs.size=s.heap.objs.size+1->(∀c u,c≠z->c≠o->c≠i->c≠j->s.heap.get? c=some u->h'.get? c=some u)->Q () { s with heap:=h' }) :
  wpAny (model prog w) A (pyNext (.ref z)) (λr s1=>∃u,r=some u/\u=.ref s.heap.objs.size/\wpAny (model prog w) A (letOwnedTupleGo (.Tuple elts x1 pos) (.ref z) u) Q E s1) E s:=by
 obtain⟨hz,hp,⟨u,v,ho⟩,hi,hj,ha,hb⟩:=Z;have hT:s.TypeIs (.ref z) "zip":=⟨_,hz,rfl⟩;unfold pyNext;refine Hw (wpAny_attempt (Jh (name:=Str.ofString "__next__") hT KL (JA KL hT F.entry_zip_next ?_ (F.args_zip_next_1 _))));refine Hw (m:=field (.ref z) 2) (IB hz rfl (x:=.bool false) rfl ?_);refine Hw (m:=field (.ref z) 3) (IB hz rfl (x:=.ref p) rfl ?_);refine Hw (JE hp rfl ?_);refine Hw (m:=Builtin.SmallTypes.ownedTupleIsFree (.ref z)) ?_;unfold Builtin.SmallTypes.ownedTupleIsFree;refine Hw (IB hz rfl (x:=.none) rfl (HI ?_));simp only[if_true];refine Hw (wpAny_rule (Hw (IB hz rfl (x:=.ref o) rfl (Hw (JD hz (by simp) λg1 z1 s1=>?_)))));replace z1:IsZip g1 z p o .ellipsis:=z1;refine Hw ?_;simp only[List.zipIdx_cons,List.zipIdx_nil,List.forIn_cons,List.forIn_nil];refine Hw (Hw (KI ?_));have k1:∀c u,c≠z->s.heap.get? c=some u->g1.get? c=some u:=λc u n e=>s1.extBut _ _ n e;refine Hw (m:=Builtin.SmallTypes.nextOf (.ref i)) (xW (hi.keep λu e=>k1 _ u D.zi e) (ha.keep λu e=>k1 _ u D.az e) hx λg2 i2 s2=>HI ?_);have k2:∀c u,c≠i->g1.get? c=some u->g2.get? c=some u:=λc u n e=>s2.extBut _ _ n e;have o2:IsPair g2 o u v:=k2 _ _ D.oi (k1 _ _ D.zo ho);refine Hw (JE o2 rfl (Hw (KG o2 λg3 o3 s3=>Hw (wpAny_letGo (HI ?_)))));replace o3:IsPair g3 o x v:=o3;have k3:∀c u,c≠o->g2.get? c=some u->g3.get? c=some u:=λc u n e=>s3.extBut _ _ n e;refine Hw (Hw (KI ?_));refine Hw (m:=Builtin.SmallTypes.nextOf (.ref j)) (xW (hj.keep λu e=>k3 _ u D.oj.symm (k2 _ u D.ij.symm (k1 _ u D.zj e))) (hb.keep λu e=>k3 _ u D.bo (k2 _ u D.bi (k1 _ u D.bz e))) hy λg4 j4 s4=>HI ?_)
 have k4:∀c u,c≠j->g3.get? c=some u->g4.get? c=some u:=λc u n e=>s4.extBut _ _ n e
 have o4:IsPair g4 o x v:=k4 _ _ D.oj o3
 refine Hw (JE o4 rfl (Hw (KG o4 λg5 o5 s5=>Hw (wpAny_letGo (HI (HI ?_))))));replace o5:IsPair g5 o x y:=o5;have k5:∀c u,c≠o->g4.get? c=some u->g5.get? c=some u:=λc u n e=>s5.extBut _ _ n e;refine Hw (JE o5 rfl (Hw (wpAny_newTuple ?_)));have hsz:g5.objs.size=s.heap.objs.size:=by rw[s5.1,s4.1,s3.1,s2.1,s1.1]
 have z5:IsZip g5 z p o .ellipsis:=k5 _ _ D.zo.symm (k4 _ _ D.zj.symm (k3 _ _ D.zo.symm (k2 _ _ D.zi.symm z1)))
 have kk:∀c u,c≠z->c≠o->c≠i->c≠j->s.heap.get? c=some u->g5.get? c=some u:=λc u n1 n2 n3 n4 e=>k5 _ _ n2 (k4 _ _ n4 (k3 _ _ n2 (k2 _ _ n3 (k1 _ _ n1 e))))
 have i5:ItA k g5 i a (m+1):=i2.keep λu e=>k5 _ u D.oi.symm (k4 _ u D.ij (k3 _ u D.oi.symm e))
 have j5:ItA l g5 j b (m+1):=j4.keep λu e=>k5 _ u D.oj.symm e
 have lz:=HN z5
 refine Hw (m:=Builtin.SmallTypes.ownedTupleHandOut (.ref z) (.ref g5.objs.size)) ?_;unfold Builtin.SmallTypes.ownedTupleHandOut;have z6:IsZip (g5.push { cls:=.type "tuple",data:=.seq #[x,y] }) z p o .ellipsis:=Hy _ z5;refine Hw (JD z6 (by simp) λg7 z7 s7=>?_);replace z7:IsZip g7 z p o (rawInt g5.objs.size):=z7;refine JD z7 (by simp) λg8 z8 s8=>?_;replace z8:IsZip g8 z p o (rawInt g5.objs.size):=z8;have k8:∀c u,c≠z->g5.get? c=some u->g8.get? c=some u:=λc u n e=>s8.extBut _ _ n (s7.extBut _ _ n (Hy _ e));have t8:IsPair g8 g5.objs.size x y:=s8.extBut _ _ (JC lz) (s7.extBut _ _ (JC lz) (HX _ rfl));have n8:g8.objs.size=g5.objs.size+1:=by rw[s8.1,s7.1,Jm]
 rw[hsz] at z8 t8 n8;refine HI ⟨_,rfl,HI ⟨_,rfl,Jf Value.ref hsz,?_⟩⟩;show wpAny (model prog w) A (letOwnedTupleGo (.Tuple elts x1 pos) (.ref z) (.ref g5.objs.size)) Q E _;rw[hsz];refine wpAny_letOwnedTupleGo_zip z8 λg9 z9 s9=>?_;have k9:∀c u,c≠z->g8.get? c=some u->g9.get? c=some u:=λc u n e=>s9.extBut _ _ n e;have up:∀c u,c≠z->g5.get? c=some u->g9.get? c=some u:=λc u n e=>k9 _ _ n (k8 _ _ n e);refine q g9 ⟨z9,up _ _ D.zp (kk _ _ D.zp D.po D.pi D.pj hp),⟨x,y,up _ _ D.zo o5⟩,i5.keep λu e=>up _ u D.zi e,j5.keep λu e=>up _ u D.zj e,ha.keep λu e=>up _ u D.az (kk _ _ D.az D.ao D.ai D.aj e),hb.keep λu e=>up _ u D.bz (kk _ _ D.bz D.bo D.bi D.bj e)⟩ ?_ ?_ λc u n1 n2 n3 n4 e=>up c u n1 (kk c u n1 n2 n3 n4 e)
 ·exact k9 _ _ (by rw[<- hsz];exact JC lz) t8
 ·rw[s9.1,n8]
theorem GF(a0:A.handled=none)(D:ZAp z p o i j a b)(Z:ZAt k l s.heap z p o i j a b m xs ys)(hend:xs[m]?=none\/ys[m]?=none)
  (q:∀h',(∀c u,c≠z->c≠o->c≠i->c≠j->s.heap.get? c=some u->h'.get? c=some u)->Q none { s with heap:=h' }):wpAny (model prog w) A (pyNext (.ref z)) Q E s:=by
 obtain⟨hz,hp,⟨u,v,ho⟩,hi,hj,ha,hb⟩:=Z;have hT:s.TypeIs (.ref z) "zip":=⟨_,hz,rfl⟩;unfold pyNext;have ai:∀(g:Heap) (e:Addr),(∀c u,c≠z->c≠o->c≠i->c≠j->s.heap.get? c=some u->g.get? c=some u)->(∃o,g.get? e=some o/\o.cls=.type "StopIteration") ->
   wpAny (model prog w) A (do if<-isInstance (.ref e) (.type "StopIteration") then pure (none:Zd) else throw (.ref e)) Q E { s with heap:=g }:=λg e kk ⟨oe,h1,h2⟩ =>
  Hw (wpAny_isInstance (T:="StopIteration") (b:=true) ⟨oe,h1,h2⟩ isSubtype_stop (HI (q _ kk)))
 refine Hw (wpAny_attempt (Jh (name:=Str.ofString "__next__") hT KL (JA KL hT F.entry_zip_next ?_ (F.args_zip_next_1 _))));refine Hw (m:=field (.ref z) 2) (IB hz rfl (x:=.bool false) rfl ?_);refine Hw (m:=field (.ref z) 3) (IB hz rfl (x:=.ref p) rfl ?_);refine Hw (JE hp rfl ?_);refine Hw (m:=Builtin.SmallTypes.ownedTupleIsFree (.ref z)) ?_;unfold Builtin.SmallTypes.ownedTupleIsFree;refine Hw (IB hz rfl (x:=.none) rfl (HI ?_));simp only[if_true];refine Hw (wpAny_rule (Hw (IB hz rfl (x:=.ref o) rfl (Hw (JD hz (by simp) λg1 z1 s1=>?_)))));replace z1:IsZip g1 z p o .ellipsis:=z1;refine Hw ?_;simp only[List.zipIdx_cons,List.zipIdx_nil,List.forIn_cons,List.forIn_nil];refine Hw (Hw (KI ?_));have k1:∀c u,c≠z->s.heap.get? c=some u->g1.get? c=some u:=λc u n e=>s1.extBut _ _ n e;have i1:=hi.keep λu e=>k1 _ u D.zi e;have a1:=ha.keep λu e=>k1 _ u D.az e
 cases hx:xs[m]? with
 | none =>
  refine Hw (m:=Builtin.SmallTypes.nextOf (.ref i)) (i6 a0 i1 a1 hx λg2 e s2 he=>?_);obtain⟨oe,aa,ab⟩:=he;have z2:IsZip g2 z p o .ellipsis:=s2 _ _ D.zi.symm z1;have ah:e≠z:=λx=>by subst x;rw[z2] at aa;cases aa;simp at ab
  exact JD z2 (by simp) λg3 _ s3=>ai g3 e (λc u n1 _ n3 _ x=>s3.extBut _ _ n1 (s2 _ _ n3 (k1 _ _ n1 x))) ⟨oe,s3.extBut _ _ ah aa,ab⟩
 | some x =>
  have hy:ys[m]?=none:=by rcases hend with h | h;rw[hx] at h;cases h;exact h
  refine Hw (m:=Builtin.SmallTypes.nextOf (.ref i)) (xW i1 a1 hx λg2 i2 s2=>HI ?_);have k2:∀c u,c≠i->g1.get? c=some u->g2.get? c=some u:=λc u n e=>s2.extBut _ _ n e;have o2:IsPair g2 o u v:=k2 _ _ D.oi (k1 _ _ D.zo ho);refine Hw (JE o2 rfl (Hw (KG o2 λg3 o3 s3=>Hw (wpAny_letGo (HI ?_)))));have k3:∀c u,c≠o->g2.get? c=some u->g3.get? c=some u:=λc u n e=>s3.extBut _ _ n e;refine Hw (Hw (KI ?_));refine Hw (m:=Builtin.SmallTypes.nextOf (.ref j)) (i6 a0 (hj.keep λu e=>k3 _ u D.oj.symm (k2 _ u D.ij.symm (k1 _ u D.zj e))) (hb.keep λu e=>k3 _ u D.bo (k2 _ u D.bi (k1 _ u D.bz e))) hy λg4 e s4 he=>?_);obtain⟨oe,aa,ab⟩:=he;have z4:IsZip g4 z p o .ellipsis:=s4 _ _ D.zj.symm (k3 _ _ D.zo.symm (k2 _ _ D.zi.symm z1));have ah:e≠z:=λx=>by subst x;rw[z4] at aa;cases aa;simp at ab
  exact JD z4 (by simp) λg5 _ s5=>ai g5 e (λc u n1 n2 n3 n4 x=>s5.extBut _ _ n1 (s4 _ _ n4 (k3 _ _ n2 (k2 _ _ n3 (k1 _ _ n1 x))))) ⟨oe,s5.extBut _ _ ah aa,ab⟩
abbrev zh(k l:Bool)(h:Heap)(a b:Addr):Heap:=((((h.push { cls:=.type (if k then "list_iterator" else "tuple_iterator"),data:=.fields #[.ref a,.int 0 0] }).push { cls:=.type (if l then "list_iterator" else "tuple_iterator"),data:=.fields #[.ref b,.int 0 0] }).push
 { cls:=.type "tuple",data:=.seq #[.ref h.objs.size,.ref (h.objs.size+1)] }).push { cls:=.type "tuple",data:=.seq #[.none,.none] }).push { cls:=.type "zip",data:=.fields #[.none,.bool false,.bool false,.ref (h.objs.size+2),.ref (h.objs.size+3)] }
theorem EF(k l:Bool)(a b:Addr)(xs ys:Array Value):Meets (Builtin.«zip.__new__» ⟨[.type "zip",.ref a,.ref b],[]⟩) (λ_ R s=>SqA k s.heap a xs/\SqA l s.heap b ys/\R (.ok (.ret (.ref (s.heap.objs.size+4)))) { s with heap:=zh k l s.heap a b }) :=
 .of_wp λprog w A R s h=>by
  obtain⟨hp,g,d,tk,os⟩:=s;obtain⟨a1,a2,h⟩:=h;have aa:=sub_zip;have b1:SqA k (Shared.heap ⟨hp,g,d,tk,os⟩) a xs:=a1;have b2:SqA l (Shared.heap ⟨hp.push { cls:=.type (if k then "list_iterator" else "tuple_iterator"),data:=.fields #[.ref a,.int 0 0] },g,d,tk,os⟩) b ys:=SqA.keep a2 λo e=>Hy _ e
  wp_walk using rF b1,rF b2
  refine⟨_,rfl,?_⟩;simp only[Heap.size_push];exact h
theorem Gz(a1:SqA k s.heap a xs)(a2:SqA l s.heap b ys)
  (h:ZAt k l (zh k l s.heap a b) (s.heap.objs.size+4) (s.heap.objs.size+2) (s.heap.objs.size+3) s.heap.objs.size (s.heap.objs.size+1) a b 0 xs ys->(∀c o,s.heap.get? c=some o->(zh k l s.heap a b).get? c=some o)->Q (.ref (s.heap.objs.size+4)) { s with heap:=zh k l s.heap a b }) :
  wpAny (model prog w) A (call (.type "zip") [.ref a,.ref b]) Q E s:=by
 refine callType_new F.called_zip (by decide) (F.typeCall_zip_2 _ _) (F.newCall_zip_2 _ _) (λobj=>F.args_object_init_3 obj _ _) F.entry_zip_new (EF k l a b xs ys) ⟨a1,a2,?_⟩;have up:∀c o,s.heap.get? c=some o->(zh k l s.heap a b).get? c=some o:=λc o e=>Hy _ (Hy _ (Hy _ (Hy _ (Hy _ e))));have sz:∀(h:Heap) (o:Obj) (n:Nat),h.objs.size=n->o.isFreed=false->(h.push o).get? n=some o:=λh o n e f=>by rw[<- e];exact HX _ f
 have e4:(zh k l s.heap a b).get? (s.heap.objs.size+4)=some _:=sz _ _ _ (by simp only[Heap.size_push]) rfl
 have e3:(zh k l s.heap a b).get? (s.heap.objs.size+3)=some _:=Hy _ (sz _ _ _ (by simp only[Heap.size_push]) rfl)
 have e2:(zh k l s.heap a b).get? (s.heap.objs.size+2)=some _:=Hy _ (Hy _ (sz _ _ _ (by simp only[Heap.size_push]) rfl))
 have e1:(zh k l s.heap a b).get? (s.heap.objs.size+1)=some _:=Hy _ (Hy _ (Hy _ (sz _ _ _ (by simp only[Heap.size_push]) rfl)))
 have e0:(zh k l s.heap a b).get? s.heap.objs.size=some _:=Hy _ (Hy _ (Hy _ (Hy _ (HX _ rfl))))
 have i0:ItA k (zh k l s.heap a b) s.heap.objs.size a 0:=by
  cases k
  ·exact⟨_,e0,rfl,rfl⟩
  ·exact⟨_,e0,rfl,rfl⟩
 have i1:ItA l (zh k l s.heap a b) (s.heap.objs.size+1) b 0:=by
  cases l
  ·exact⟨_,e1,rfl,rfl⟩
  ·exact⟨_,e1,rfl,rfl⟩
 exact⟨⟨_,e4,rfl⟩,h ⟨e4,e2,⟨_,_,e3⟩,i0,i1,a1.keep λo e=>up _ o e,a2.keep λo e=>up _ o e⟩ up⟩
theorem ZAp.new{n a b:Nat}(h1:a<n)(h2:b<n):ZAp (n+4) (n+2) (n+3) n (n+1) a b:=by
 constructor<;>(intro e;have e:(_:Nat)=_:=e;omega)
end
theorem lN{X:Cx}{pins:List (Addr×Obj)}{σ:L2.St}{H:Hp}{s:Shared}{h':Heap}{t':Nat}{fp:List Addr}(I:Inv X pins σ H s)(k:∀b o,b∉fp->s.heap.get? b=some o->h'.get? b=some o)(hf:∀b∈fp,wo X pins H b) :
  Inv X pins σ H { s with heap:=h',toks:=t' }:=by
 have aa:∀b u,H b=some u->b∉fp:=λb u e z=>by rw[(hf b z).1] at e;cases e
 refine I.step (g':=s.gens) (d':=s.drawn) (ch:=fp) (λb hb=>?_) (λb o _ _ hc e _=>k b o hc e) (λb o _ _ hc e _=>⟨o.slots,k b o hc e⟩) (λ_ _ _ _ n=>n)
  (λb o hc e=>⟨o,k b o hc e⟩) (λ_ _ e=>e) (λ_ _ _ e=>e) (λb ps e=>⟨#[],by rw[e];simp⟩) (λm hm=>?_) (λb u e=>?_) I.bare
 ·obtain⟨f0,f1,f2,f3,f4,f5⟩:=hf b hb;exact⟨f3,f1,f4,f5⟩
 ·obtain⟨o,es,ep,ho,r⟩:=hm;exact⟨o,es,ep,k _ o (λz=>(hf _ z).2.1 rfl) ho,r⟩
 ·refine(I.hok b u e).stay (λc v hc q=>k c v ?_ q) (λ_ q=>q) λ_ _ q=>q
  rcases hc with z | z
  ·rw[z];exact aa b u e
  ·exact aa c _ z
def GY(k:Bool)(K:Zf)(H:Hp)(a:Addr)(xs:Zg):Prop:=match k with | true=>G4 K H a xs | false=>Ho K H a xs
theorem GY.at(I:Inv X pins σ H s)(h:GY k X.K H a xs):∃its:Zc,bg xs its/\SqA k s.heap a its.toArray:=by
 cases k
 ·obtain⟨its,r,p,_⟩:=I.tuple h;exact⟨its,r,p⟩
 ·obtain⟨its,r,p,_⟩:=I.list h;exact⟨its,r,p.isList⟩
theorem GY.inj(I:Inv X pins σ H s)(h:GY k X.K H a xs)(h':GY k X.K H a ys):xs=ys:=by
 cases k
 ·exact I.tuple_inj h h'
 ·exact I.list_inj h h'
def Itz(K:Zf)(k l:Bool)(a b:Addr):It :=
  ⟨λi H=>∃xs ys x y,GY k K H a xs/\GY l K H b ys/\xs[i]?=some x/\ys[i]?=some y,
   λi H v H'=>∃T x y,H T=none/\H'=G6 H T (.tup [x,y])/\v=.ref T/\(∀xs,GY k K H a xs->xs[i]?=some x)/\∀ys,GY l K H b ys->ys[i]?=some y,
   λi H=>∃xs ys,GY k K H a xs/\GY l K H b ys/\(xs.length<=i\/ys.length<=i)⟩
structure ZI(k l:Bool)(h:Heap)(z p o i j a b:Addr)(m:Nat):Prop where
 hz:IsZip h z p o .none
 hp:IsPair h p (.ref i) (.ref j)
 ho:∃u v,IsPair h o u v
 hi:ItA k h i a m
 hj:ItA l h j b m
theorem ZAt.zi(Z:ZAt k l h z p o i j a b m xs ys):ZI k l h z p o i j a b m:=⟨Z.hz,Z.hp,Z.ho,Z.hi,Z.hj⟩
theorem xk{w:World}{K:Zf}{x1}{j:Addr}(D:ZAp z p o i j a b) :
  yD P w K (.Tuple elts x1 pos) (Itz K k l a b) [z,p,o,i,j] z (λm h=>ZI k l h z p o i j a b m) where
 mem:=by simp
 obj:=λm h Z c hc=>by
  simp only[List.mem_cons,List.not_mem_nil,or_false] at hc
  rcases hc with rfl | rfl | rfl | rfl | rfl
  ·exact⟨_,Z.hz,λv=>nofun⟩
  ·exact⟨_,Z.hp,λv=>nofun⟩
  ·obtain⟨u,v,e⟩:=Z.ho;exact⟨_,e,λv=>nofun⟩
  ·obtain⟨q,e,_,d⟩:=Z.hi.obj;exact⟨q,e,λv=>by rw[d];nofun⟩
  ·obtain⟨q,e,_,d⟩:=Z.hj.obj;exact⟨q,e,λv=>by rw[d];nofun⟩
 keep:=λm h h' Z kk=>⟨kk _ (by simp) _ Z.hz,kk _ (by simp) _ Z.hp,(by obtain⟨u,v,e⟩:=Z.ho;exact⟨u,v,kk _ (by simp) _ e⟩),Z.hi.keep λq e=>kk _ (by simp) q e,Z.hj.keep λq e=>kk _ (by simp) q e⟩
 item:=by
  intro X hP hw hK hc m pins s σ H E I hf Z hg;subst hP hw hK;obtain⟨xs,ys,x,y,h1,h2,hx,hy⟩:=hg;obtain⟨is,r1,p1⟩:=GY.at I h1;obtain⟨js,r2,p2⟩:=GY.at I h2;obtain⟨u,hu,ru⟩:=r1.get hx;obtain⟨v,hv,rv⟩:=r2.get hy;refine Ha (FW (E:=E) (Q:=λ_ s2=>∃x H',Inv X pins σ H' s2/\a5 x (.ref s.heap.objs.size)/\(Itz X.K k l a b).yld m H x H'/\ZI k l s2.heap z p o i j a b (m+1)/\∀b∈[z,p,o,i,j],H' b=none) (elts:=elts) (x1:=x1) (pos:=pos) D ⟨Z.hz,Z.hp,Z.ho,Z.hi,Z.hj,p1,p2⟩ (x:=u) (y:=v) (by simpa using hu) (by simpa using hv) λh' Z' t' n' kk=>?_) λr s1 ⟨u',e1,e2,q⟩=>⟨u',e1,by subst e2;exact q⟩;have aa:H s.heap.objs.size=none:=I.hok.fresh (HD _);have I1:Inv X pins σ (G6 H s.heap.objs.size (.tup [x,y])) { s with heap:=s.heap.push { cls:=.type "tuple",data:=.seq #[u,v] } }:=I.laid (t':=s.toks) (λb u e=>Hy _ e) (HD _) ⟨by show 2<=sizeLine;decide,[u,v],.cons ru (.cons rv .nil),⟨_,HX _ rfl,rfl,_,rfl⟩⟩;have lt:∀c∈[z,p,o,i,j],c≠s.heap.objs.size:=λc hc=>by
   have:∃q,s.heap.get? c=some q:=by
    simp only[List.mem_cons,List.not_mem_nil,or_false] at hc
    rcases hc with rfl | rfl | rfl | rfl | rfl
    ·exact⟨_,Z.hz⟩
    ·exact⟨_,Z.hp⟩
    ·obtain⟨u,v,e⟩:=Z.ho;exact⟨_,e⟩
    ·obtain⟨q,e,_⟩:=Z.hi.obj;exact⟨q,e⟩
    ·obtain⟨q,e,_⟩:=Z.hj.obj;exact⟨q,e⟩
   obtain⟨q,e⟩:=this;exact Iq (HN e)
  have fr:∀c∈[z,p,o,i,j],G6 H s.heap.objs.size (.tup [x,y]) c=none:=λc hc=>by rw[aG (lt c hc)];exact(hf c hc).1
  have I2:Inv X pins σ (G6 H s.heap.objs.size (.tup [x,y])) { s with heap:=h' }:=lN (s:={ s with heap:=s.heap.push { cls:=.type "tuple",data:=.seq #[u,v] } }) (t':=s.toks) (fp:=[z,p,o,i,j]) I1 (λc q hc e=>?_) λc hc=>⟨fr c hc,(hf c hc).2⟩
  ·exact⟨.ref s.heap.objs.size,_,I2,rfl,⟨_,x,y,aa,rfl,rfl,λzs hz=>by rw[GY.inj I hz h1];exact hx,λzs hz=>by rw[GY.inj I hz h2];exact hy⟩,Z'.zi,fr⟩
  ·rcases Heap.get?_push_cases e with⟨rfl,rfl⟩ | e
   ·exact t'
   ·exact kk c q (λz=>hc (by simp[z])) (λz=>hc (by simp[z])) (λz=>hc (by simp[z])) (λz=>hc (by simp[z])) e
 done:=by
  intro X hP hw hK hc m pins s σ H E I hf Z hg;subst hP hw hK;obtain⟨xs,ys,h1,h2,hl⟩:=hg;obtain⟨is,r1,p1⟩:=GY.at I h1;obtain⟨js,r2,p2⟩:=GY.at I h2;have l1:=r1.length;have l2:=r2.length;refine GF (I.ok.hd hc) D ⟨Z.hz,Z.hp,Z.ho,Z.hi,Z.hj,p1,p2⟩ (hl.imp (λh=>by simp;omega) λh=>by simp;omega) λh' kk=>⟨rfl,lN (t':=s.toks) (fp:=[z,p,o,i,j]) I (λc q hc e=>?_) hf⟩;exact kk c q (λz=>hc (by simp[z])) (λz=>hc (by simp[z])) (λz=>hc (by simp[z])) (λz=>hc (by simp[z])) e
 self:=λ_ _ _ _ _ Z h=>wpAny_pyIter_zip Z.hz h
section
def iZip(K:Zf)(k l:Bool)(ta:TA):TI:=λσ H R=>ta σ H λvs H1=>∃a b,vs=[.ref a,.ref b]/\(∃xs,GY k K H1 a xs)/\(∃ys,GY l K H1 b ys)/\R (Itz K k l a b) H1
theorem Dt{x1}(hg:Gl X "zip")(hm:X.mg "zip"=none)(ha:PA X [a,b] ta)(hs:starEach [a,b] X.env=[(false,eval a X.env),(false,eval b X.env)]:=by rfl)(hs2:starEach [b] X.env=[(false,eval b X.env)]:=by rfl) :
  PI X (.Tuple elts x1 pos') (.Call (.Name "zip" p) [a,b] [] pos) (iZip X.K k l ta):=by
 intro pins s σ H R I h;refine Call_ (i9 I hg hm boot_zip (Jg (Ha (ha pos pins s σ H _ I h) λus s1 ⟨vs,H1,I1,r1,q1⟩=>?_) (by rw[hs,hs2]) (by rw[hs2];rfl)));obtain⟨c,d,e,⟨xs,hx⟩,⟨ys,hy⟩,q⟩:=q1;subst e
 cases r1 with
 | cons r rr =>
  cases rr with
  | cons r' rr =>
   cases rr
   cases r
   cases r'
   obtain⟨is,_,p1⟩:=GY.at I1 hx;obtain⟨js,_,p2⟩:=GY.at I1 hy;refine Gz p1 p2 λZ up=>wpAny_pyIter_zip Z.hz ?_;have lt:∀ {k:Bool} {c:Addr} {zs:Array Value},SqA k s1.heap c zs->c<s1.heap.objs.size:=λh=>let ⟨_,e,_⟩:=h.there;HN e;refine⟨_,_,_,_,H1,rfl,I1.kept (t':=s1.toks) up,xk (ZAp.new (lt p1) (lt p2)),Z.zi,λb hb=>?_,q⟩;have hb:s1.heap.objs.size<=b:=by
    simp only[List.mem_cons,List.not_mem_nil,or_false] at hb
    rcases hb with rfl | rfl | rfl | rfl | rfl
    ·exact J9 ..
    ·exact J9 ..
    ·exact J9 ..
    ·exact HD _
    ·exact J9 ..
   exact I1.fpOk hb (I1.hok.fresh hb)
end
def sq(k:Bool)(xs:Zi):D:=match k with | true=>.lst xs | false=>.tup xs
def sS(xs ys:Zi):Zi:=List.zipWith (λx y=>D.tup [x,y]) xs ys
def qS:Bool->D->(Zi->Prop)->Prop
 | true,d,k=>qL d k
 | false,d,k=>qT d k
theorem qS.ex(h:qS b d k):∃xs,d=sq b xs/\k xs:=by
 cases b
 ·exact qT.ex h
 ·exact qL.ex h
def Fp(k l:Bool)(t:TDA)(δ:En)(R:Zi->En->Prop):Prop:=t δ λds δ1=>qC ds λx r=>qC r λy r=>qN r <| qS k x λxs=>qS l y λys=>R (sS xs ys) δ1
section
theorem qU{K:Zf}{M:Addr->Prop}{H:Hp}(h:G3 K M H (sq k xs) v):∃a vs,v=.ref a/\GY k K H a vs/\Reps K M H xs vs:=by
 cases k
 ·unfold sq G3 at h;exact h
 ·unfold sq G3 at h;obtain⟨a,vs,e,_,l,r⟩:=h;exact⟨a,vs,e,G4.of l,r⟩
theorem tL(k l:Bool){x1}(hg:Gl X "zip")(hm:X.mg "zip"=none)(ha:DA X [a,b] ta)(hs:starEach [a,b] X.env=[(false,eval a X.env),(false,eval b X.env)]:=by rfl)(hs2:starEach [b] X.env=[(false,eval b X.env)]:=by rfl) :
  CI X (.Tuple elts x1 pos') (.Call (.Name "zip" p) [a,b] [] pos) (Fp k l ta) :=
 ⟨_,Dt (k:=k) (l:=l) hg hm ha hs hs2,λG δ P σ H R Q s hs kk=>⟨G,δ,P,_,s,hs,λds δ1 h1 vs H1 hl s1=>by
  replace h1:=qC.ex h1;obtain⟨x,r,e,h1⟩:=h1;replace h1:=qC.ex h1;obtain⟨y,r',e',h1⟩:=h1;replace h1:=qN.ex h1;obtain⟨e2,h1⟩:=h1;replace h1:=qS.ex h1;obtain⟨xs,e3,h1⟩:=h1;replace h1:=qS.ex h1;obtain⟨ys,e4,r⟩:=h1;subst e4 e3 e2 e' e
  match vs,hl with
  | [v,w],_ =>
   have s2:S X.K G δ1 ((sq k xs,v)::(sq l ys,w)::P) σ H1:=s1
   have at1:∀A δ σ H,Sx X.K G A δ ((sq k xs,v)::(sq l ys,w)::P) σ H->∃a vs,v=.ref a/\GY k X.K H a vs/\Reps X.K (λb=>G.M0 b\/A b) H xs vs:=λA δ σ H x=>qU (x.pnd (sq k xs,v) (by simp))
   have at2:∀A δ σ H,Sx X.K G A δ ((sq k xs,v)::(sq l ys,w)::P) σ H->∃a vs,w=.ref a/\GY l X.K H a vs/\Reps X.K (λb=>G.M0 b\/A b) H ys vs:=λA δ σ H x=>qU (x.pnd (sq l ys,w) (by simp))
   obtain⟨A1,x1⟩:=id s2;obtain⟨a,aj,rfl,l0,_⟩:=at1 _ _ _ _ x1;obtain⟨b,ai,rfl,m0,_⟩:=at2 _ _ _ _ x1;have al:(sS xs ys).length=min xs.length ys.length:=by unfold sS;rw[List.length_zipWith]
   refine⟨a,b,rfl,⟨aj,l0⟩,⟨ai,m0⟩,kk _ δ1 r _ _ H1 (λq hq=>by simp[hq]) s2 (λA δ σ i H x hi=>?_) (λA δ σ H x=>?_) λA δ σ i y H H2 x hi hy=>?_⟩
   ·obtain⟨_,vs,e,l,r⟩:=at1 _ _ _ _ x
    cases e
    obtain⟨_,ws,e,l2,r2⟩:=at2 _ _ _ _ x
    cases e
    obtain⟨v',hv,_⟩:=Reps.get _ _ r i (xs[i]'(by omega)) (by simp);obtain⟨w',hw,_⟩:=Reps.get _ _ r2 i (ys[i]'(by omega)) (by simp);exact⟨vs,ws,v',w',l,l2,hv,hw⟩
   ·obtain⟨_,vs,e,l,r⟩:=at1 _ _ _ _ x
    cases e
    obtain⟨_,ws,e,l2,r2⟩:=at2 _ _ _ _ x
    cases e
    have:=Reps.length _ _ r
    have:=Reps.length _ _ r2
    exact⟨vs,ws,l,l2,by omega⟩
   ·obtain⟨_,vs,e,l,r⟩:=at1 _ _ _ _ x
    cases e
    obtain⟨_,ws,e,l2,r2⟩:=at2 _ _ _ _ x
    cases e
    obtain⟨T,x',y',hT,rfl,rfl,hx,hy⟩:=hy;have ab:i<xs.length:=by omega
    have ah:i<ys.length:=by omega
    obtain⟨v',hv,rv⟩:=Reps.get _ _ r i xs[i] (by simp[ab]);obtain⟨w',hw,aa⟩:=Reps.get _ _ r2 i ys[i] (by simp[ah]);have e1:=hx vs l;have e2:=hy ws l2;rw[hv] at e1;rw[hw] at e2;have e1:=HR e1;have e2:=HR e2;rw[e1] at rv;rw[e2] at aa;have sm:bE H (G6 H T (.tup [x',y'])):=aF hT _;refine⟨sm,.tup [xs[i],ys[i]],?_,?_⟩
    ·unfold sS;rw[List.getElem?_zipWith,Iv ab,Iv ah]
    ·unfold G3
     exact⟨T,[x',y'],rfl,.inl (.inl av),Reps.cons (G3.kp (Kp.of_same sm) _ _ rv) (Reps.one (G3.kp (Kp.of_same sm) _ _ aa))⟩⟩⟩
end
def dFor(src:TDC)(g:TDG)(tb:TDS)(R:aL)(δ:En):Prop:=src δ λxs δ1=>∃I:Nat->En->Prop,I 0 δ1 /\
 (∀i x δ',xs[i]?=some x->I i δ'->g x δ' (tb { R with nx:=I (i+1),ct:=I (i+1),bk:=R.nx,tp:=False }))/\∀δ',I xs.length δ'->R.nx δ'
theorem exsP{K:Zf}{W:XK}{R:Str->Str->D->Prop}(hP:∀p∈P,p∈P1)(k:∀c f d,R c f d->∀e C dx δ' σ' H',S K G δ' ((.exn c f d,.ref e)::P) σ' H'->H' e=some (XAt e C dx)->W (.ref e) (some dx) H') :
  ∀c f d,R c f d->∀e C dx δ' σ' H',S K G δ' ((.exn c f d,.ref e)::P1) σ' H'->H' e=some (XAt e C dx)->W (.ref e) (some dx) H':=λc f d r e C dx δ' σ' H' s=>k c f d r e C dx δ' σ' H' (s.sub λp hp=>by
 rcases HK.mp hp with rfl | hp
 ·simp
 ·simp[hP p hp])
theorem mi(hp:PassesOwn (model X.prog X.w) X.A X.env X.xe)(hc:X.calm=true)(hi:CI X tg e src)(hg:DG X tg g)(hb:DSs X body t)(hs:∀x,foldedSetIterable e X.env x=pure x:=by intro _;rfl) :
  DS X (.For tg e body [] pos) (dFor src g t):=by
 obtain⟨wi,hi,hw⟩:=hi;refine PS.imp (ml hp hc hi hg hb hs) λE σ H ⟨G,δ,P,R,s,h,k1,k2,k3,k4⟩=>?_;refine hw G δ P σ H _ _ s h λxs δ1 ⟨I,i0,turn,fin⟩ J P1 H1 hP s1 hgo hst hyl=>?_;refine⟨λi m σ H=>m=xs.length-i/\i<=xs.length/\∃δ,I i δ/\S X.K G δ P1 σ H,⟨xs.length,by simp,Jp _,δ1,i0,s1⟩,?_⟩;rintro i m σ H ⟨rfl,hi,δ',ii,s'⟩;obtain⟨A,x⟩:=id s'
 by_cases hlt:i<xs.length
 ·refine .inr ⟨hgo A _ _ i H x hlt,λσ' H'=>∃δ',I (i+1) δ'/\S X.K G δ' P1 σ' H',λσ' H' ⟨δ',p',s'⟩=>⟨xs.length-(i+1),by omega,rfl,hlt,δ',p',s'⟩,λy H' hy=>?_⟩;obtain⟨sm,d,hd,rd⟩:=hyl A _ _ i y H H' x hlt hy;refine⟨G,δ',P1,d,_,⟨A,(x.same sm).push rd⟩,turn i d δ' hd ii,λδ2 h2 σ2 H2 s2=>?_⟩;refine⟨G,δ2,P1,_,s2,h2,λδ3 h3 σ3 H3 s3=>⟨δ3,h3,s3⟩,⟨λd δ3 h3 v3 σ3 H3 s3=>k2.1 d δ3 h3 v3 σ3 H3 (s3.sub λp hp=>?_),k2.2.1,exsP hP k2.2.2⟩,λδ3 h3 σ3 H3 s3=>k1 δ3 h3 σ3 H3 (s3.sub λp hp=>hP p hp),λδ3 h3 σ3 H3 s3=>⟨δ3,h3,s3⟩,λz=>z.elim⟩
  rcases HK.mp hp with rfl | hp
  ·simp
  ·simp[hP p hp]
 ·have e:i=xs.length:=by omega
  subst e;exact .inl ⟨hst A _ _ H x,k1 δ' (fin δ' ii) σ H (s'.sub λp hp=>hP p hp)⟩
section
def Ei(i:Nat)(tk tx:GX)(δ:En)(R:W->En->Prop):Prop:=qWD δ[i]? λ_ _ _=>tk δ (wd λz δ1=>tx δ1 (wd λx δ2=>BV δ2[i]? λks ds=>qX z λy=>R (.d ((dAt ks ds y).getD x)) δ2))
theorem Ao(i:Nat)(hu:X.A.units+64<cLine)(he:DE X e ta)(hf:DE X f tb)(hN:X.N[i]?=some y:=by rfl)(hv:Vis X.env.scope y:=by walk_at "v3")
  (hd:(y==("__debug__":Str))=false:=by decide) (hcd:(y==("__classdict__":Str))=false:=by decide) (m:M2 X (.Name y p) "get" apos e f cpos:=by exact⟨rfl,rfl,rfl,rfl⟩) :
  DE X (.Call (.Attribute (.Name y p) "get" apos) [e,f] [] cpos) (Ei i ta tb) :=
 PE.imp (xn (by omega) (a4 hN hv hd hcd) he hf m) λσ H Q ⟨G,δ,P,R,s,h1,k,_⟩=>let ⟨a,ks0,ds0,hi0,h1⟩:=qWD.ex h1;⟨.ref a,s.own hi0,a,rfl,by
  obtain⟨A,q⟩:=id s;obtain⟨_,aa,vs,ab,l,rs⟩:=q.own i a _ hi0;exact .inl ⟨_,.inl ab⟩,up.mk s h1 λz δ1 h2 v H1 s1=>up.mk s1 h2 λx δ2 h3 w H2 ⟨A,q⟩=>by
   replace h3:=BV.ex q (s.own hi0) h3;obtain⟨ks,ds,hi,h3⟩:=h3;replace h3:=qX.ex h3;obtain⟨y,ez,r⟩:=h3;subst ez;obtain⟨_,aa,vs,ab,l,rs⟩:=q.own i a _ hi;have p2:v=.str y:=bv (q.pnd (.str y,v) (by simp));have g:=nk.k (k:=Sum.inr y) ab;rw[fK] at g;refine⟨_,by rw[p2];exact g,?_⟩
   cases ed:dAt ks ds y with
   | some d =>
    obtain⟨w',hw,ah⟩:=(Reps.dAt y ks ds vs rs).1 d ed;rw[ed] at r;rw[hw];exact k d δ2 r w' H2 ⟨A,(q.sub (P':=P) λp hp=>by simp[hp]).push ah⟩
   | none =>
    have hw:=(Reps.dAt y ks ds vs rs).2 ed
    rw[ed] at r;rw[hw]
    exact k x δ2 r w H2 ⟨A,q.sub λp hp=>by
     rcases HK.mp hp with rfl | hp
     ·simp
     ·simp[hp]⟩⟩
end
end DL
namespace Mf
open PySem L2 DL
def tmD(t:Str×Int):D:=.tup [.str t.1,.int t.2]
structure kW(names:Zb)(ts:List (Str×Int)):Prop where
 sub:(ts.map (·.1)).Sublist names
 nz:∀t∈ts,t.2≠0
 bits:∀t∈ts,Builtin.Int.intBits t.2<=10000
theorem eR{ts:List (Str×Int)}{i:Nat}(h:(ts.map tmD)[i]?=some d):∃t,ts[i]?=some t/\d=.tup [.str t.1,.int t.2]:=by
 rw[HM] at h
 cases e:ts[i]? with
 | none=>rw[e] at h;cases h
 | some n=>rw[e] at h;exact⟨n,rfl,(HR h).symm⟩
theorem aI{α:Type}{l:List α}{i:Nat}{x:α}(h:l[i]?=some x):l.take (i+1)=l.take i++[x]:=by rw[List.take_add_one,h];rfl
inductive Kd where
 | least | more
def kdS:Kd->Str
 | .least=>"least"
 | .more=>"more"
def lc(k:Kd)(ts:List (Str×Int))(b:Int):D:=.tup [.str (kdS k),.tup (ts.map tmD),.int b]
theorem tH:∀ts:List (Str×Int),D.nds (ts.map tmD)=true
 | []=>rfl
 | t::r=>by rw[Im];unfold D.nds;rw[tH r];rfl
theorem uP:∀ts:List (Str×Int),D.dps (ts.map tmD)<=1
 | []=>Jp _
 | t::r=>by
  rw[Im];unfold D.dps;exact Nat.max_le.mpr ⟨by show 1<=1;decide,uP r⟩
def Hk(p:Int×Int):D:=.tup [.int p.1,.int p.2]
def sR(ks:Zb)(ps:Za)(n:Str):Int×Int:=(dAt ks ps n).getD (0,1)
def pT(ks:Zb)(ps:Za)(n:Str):Int:=(sR ks ps n).1
def pB(ks:Zb)(ps:Za)(n:Str):Int:=(sR ks ps n).2
theorem vx(f:α->β):∀(ks:Zb) (ps:List α) (n:Str),dAt ks (ps.map f) n=(dAt ks ps n).map f
 | [],ps,n=>by cases ps<;>rfl
 | k::ks,[],n=>rfl
 | k::ks,p::ps,n=>by
  show (if k=n then some (f p) else dAt ks (ps.map f) n)=(if k=n then some p else dAt ks ps n).map f
  by_cases e:k=n
  ·rw[HU e,HU e];rfl
  ·rw[HQ e,HQ e];exact vx f ks ps n
theorem vS:∀ {ks:Zb} {ps:List α} {n:Str} {p:α},dAt ks ps n=some p->p∈ps
 | [],ps,n,p,h=>by cases ps<;>cases h
 | k::ks,[],n,p,h=>by cases h
 | k::ks,x::ps,n,p,h=>by
  have h:(if k=n then some x else dAt ks ps n)=some p:=h
  by_cases e:k=n
  ·rw[HU e] at h;cases h;exact HB ..
  ·rw[HQ e] at h;exact Hx _ (vS h)
theorem iu{names:Zb}{i:Nat}(h:(names.map D.str)[i]?=some d):∃n,names[i]?=some n/\d=.str n:=by
 rw[HM] at h
 cases e:names[i]? with
 | none=>rw[e] at h;cases h
 | some n=>rw[e] at h;exact⟨n,rfl,(HR h).symm⟩
theorem pH(h:x∉ks):jB ks x=ks++[x]:=by unfold jB;rw[HQ h]
theorem qh(h:x∉ks):lU ks ds x y=ds++[y]:=by unfold lU;rw[HQ h]
theorem xH{l:Zb}{i:Nat}(nd:l.Nodup)(h:l[i]?=some x):x∉l.take i:=by
 intro hm;obtain⟨j,hj,e⟩:=List.getElem_of_mem hm;rw[IK] at hj;rw[List.getElem_take] at e;obtain⟨hi,e2⟩:=HL.mp h;have:=(List.getElem_inj (h₀:=by omega) (h₁:=hi) nd).mp (e.trans e2.symm);omega
theorem v7{l:Zb}{i:Nat}{x:Str}(h:l[i]?=some x):x∈l:=HY h
theorem tw{α:Type}{l:List α}{i:Nat}{x:α}(h:l[i]?=some x):i<l.length:=(HL.mp h).1
theorem dW(f:Str->α):∀ {names:Zb} {n:Str},n∈names->dAt names (names.map f) n=some (f n)
 | x::r,n,h=>by
  show (if x=n then some (f x) else dAt r (r.map f) n)=_
  by_cases e:x=n
  ·rw[HU e,e]
  ·rw[HQ e];exact dW f ((HK.mp h).resolve_left λz=>e z.symm)
abbrev Rw:=Kd×List (Str×Int)×Int
def rwD(r:Rw):D:=lc r.1 r.2.1 r.2.2
def cf:List (Str×Int)->Str->Int
 | [],_=>0
 | t::r,n=>(if t.1=n then t.2 else 0)+cf r n
def cfs:List (Rw×Int)->Str->Int
 | [],_=>0
 | p::r,n=>p.2*cf p.1.2.1 n+cfs r n
def bds:List (Rw×Int)->Int
 | []=>0
 | p::r=>p.2*p.1.2.2+bds r
def isM:Kd->Bool
 | .least=>false
 | .more=>true
def Hh(l:List (Rw×Int)):Bool:=l.any λp=>isM p.1.1&&decide (0<p.2)
def kOf:Bool->Kd
 | true=>.more
 | false=>.least
theorem tQ:∀ {a b:List (Str×Int)},cf (a++b) n=cf a n+cf b n
 | [],b=>(J1 _).symm
 | t::a,b=>by show _+cf (a++b) n=_+cf a n+_;rw[tQ];omega
theorem vo:∀ {a b:List (Rw×Int)},cfs (a++b) n=cfs a n+cfs b n
 | [],b=>(J1 _).symm
 | t::a,b=>by show _+cfs (a++b) n=_+cfs a n+_;rw[vo];omega
theorem v8:∀ {a b:List (Rw×Int)},bds (a++b)=bds a+bds b
 | [],b=>(J1 _).symm
 | t::a,b=>by show _+bds (a++b)=_+bds a+_;rw[v8];omega
theorem Ap:Hh (a++b)=(Hh a||Hh b):=List.any_append
theorem Be:Hh [p]=(isM p.1.1&&decide (0<p.2)):=by unfold Hh;simp
theorem iy:∀ {ts:List (Str×Int)},n∉ts.map (·.1)->cf ts n=0
 | [],_=>rfl
 | t::r,h=>by
  rw[Im,HK,not_or] at h;show (if t.1=n then t.2 else 0)+cf r n=0;rw[HQ (λz=>h.1 z.symm),iy h.2];rfl
structure eM(F:Str->Int)(ts:List (Str×Int)):Prop where
 pw:(ts.map (·.1)).Pairwise leS
 nd:(ts.map (·.1)).Nodup
 val:∀t∈ts,t.2=F t.1/\t.2≠0
 all:∀n,F n≠0->n∈ts.map (·.1)
theorem eM.ext{F:Str->Int}{ts us:List (Str×Int)}(h1:∀t∈ts,t.2=F t.1)(h2:∀t∈us,t.2=F t.1)(h:ts.map (·.1)=us.map (·.1)):ts=us:=by
 have e:∀ {l:List (Str×Int)},(∀t∈l,t.2=F t.1)->l=(l.map (·.1)).map λn=>(n,F n):=λ{l} hl=>by
  rw[IX]
  conv=>lhs;rw[<- List.map_id l]
  refine List.map_congr_left λt ht=>?_;show t=(t.1,F t.1);rw[<- hl t ht]
 rw[e h1,e h2,h]
theorem eM.uniq(a:eM F ts)(b:eM F us):ts=us:=by
 refine eM.ext (λt h=>(a.val t h).1) (λt h=>(b.val t h).1) (pC a.pw b.pw a.nd b.nd λn=>⟨λh=>b.all n ?_,λh=>a.all n ?_⟩)
 ·obtain⟨t,ht,rfl⟩:=HA.mp h;rw[<- (a.val t ht).1];exact(a.val t ht).2
 ·obtain⟨t,ht,rfl⟩:=HA.mp h;rw[<- (b.val t ht).1];exact(b.val t ht).2
theorem eM.mk'{F:Str->Int}{ns:Zb}(pw:ns.Pairwise leS)(nd:ns.Nodup)(all:∀n,F n≠0->n∈ns):eM F ((ns.filter λn=>decide (F n≠0)).map λn=>(n,F n)):=by
 have e:((ns.filter λn=>decide (F n≠0)).map λn=>(n,F n)).map (·.1)=ns.filter λn=>decide (F n≠0):=by rw[IX];exact List.map_id _
 refine⟨by rw[e];exact pw.filter _,by rw[e];exact nd.filter _,λt ht=>?_,λn hn=>?_⟩
 ·obtain⟨n,h1,rfl⟩:=HA.mp ht;exact⟨rfl,by simpa using (HH.mp h1).2⟩
 ·rw[e,HH];exact⟨all n hn,by simpa using hn⟩
theorem rg(h:∀n,n≠x->g n=f n):∀ks:Zb,nc ks (ks.map f) x (g x)=ks.map g
 | []=>rfl
 | k::ks=>by
  show (if k=x then g x else f k)::nc ks (ks.map f) x (g x)=g k::ks.map g
  rw[rg h ks]
  by_cases e:k=x
  ·rw[HU e,e]
  ·rw[HQ e,h k e]
theorem Cg(h:∀n,n≠x->g n=f n):lU ks (ks.map f) x (g x)=(jB ks x).map g:=by
 unfold lU jB
 by_cases e:x∈ks
 ·rw[HU e,HU e,rg h]
 ·rw[HQ e,HQ e,HS]
  congr 1
  exact List.map_congr_left λn hn=>(h n λz=>e (z ▸ hn)).symm
theorem uZ(h:ks.Nodup):(jB ks x).Nodup:=by
 unfold jB
 by_cases e:x∈ks
 ·rw[HU e];exact h
 ·rw[HQ e,List.nodup_append];exact⟨h,by simp,λa ha b hb z=>by rw[HG.mp hb] at z;exact e (z ▸ ha)⟩
theorem pN:n∈jB ks x↔n∈ks\/n=x:=by
 unfold jB
 by_cases e:x∈ks
 ·rw[HU e];exact⟨.inl,λh=>h.elim id λz=>z ▸ e⟩
 ·rw[HQ e,HZ,HG]
theorem jM:∀ {ks nm:Zb},ks.Nodup->(∀n∈ks,n∈nm)->ks.length<=nm.length
 | [],_,_,_=>Jp _
 | k::ks,nm,h,hs=>by
  obtain⟨h1,h2⟩:=IZ.mp h;have hk:=hs k (HB ..);have:=jM (ks:=ks) (nm:=nm.erase k) h2 λn hn=>(List.mem_erase_of_ne (λz=>h1 (by rw[<- z];exact hn))).mpr (hs n (Hx _ hn));rw[List.length_erase_of_mem hk] at this;have:0<nm.length:=JV hk;rw[HJ];omega
theorem oE:∀ {ks:Zb} {ds:List α},x∉ks->dAt ks ds x=none
 | [],ds,_=>by cases ds<;>rfl
 | k::ks,[],_=>rfl
 | k::ks,d::ds,h=>by
  rw[HK,not_or] at h;show (if k=x then some d else dAt ks ds x)=none;rw[HQ (λz=>h.1 z.symm)];exact oE h.2
theorem w4{F:Str->Int}{ks:Zb}(h:x∉ks->F x=0):(dAt ks (ks.map λn=>D.int (F n)) x).getD (.int 0)=.int (F x):=by
 by_cases e:x∈ks
 ·rw[dW (λn=>D.int (F n)) e];rfl
 ·rw[oE e,h e];rfl
theorem xZ{rows:List Rw}{ws:Ze}:sS (rows.map rwD) (ws.map D.int)=(rows.zip ws).map λp=>D.tup [rwD p.1,.int p.2]:=by
 unfold sS;rw[List.zipWith_map,List.zip,KC]
theorem u8{nm:Zb}{n:Str}:∀ {l:List (Rw×Int)},(∀p∈l,∀t∈p.1.2.1,t.1∈nm)->cfs l n≠0->n∈nm
 | [],_,h=>absurd rfl h
 | p::r,hp,h=>by
  refine HF λz=>?_;have h1:cfs r n=0:=HF λy=>z (u8 (λp h=>hp p (Hx _ h)) y);have h2:cf p.1.2.1 n=0:=iy λhm=>by
   obtain⟨t,ht,e⟩:=HA.mp hm;exact z (e ▸ hp p (HB ..) t ht)
  refine h ?_;show p.2*cf p.1.2.1 n+cfs r n=0;rw[h1,h2,Int.mul_zero,J1]
structure RwOk(nm:Zb)(B:Nat)(r:Rw):Prop where
 sub:∀t∈r.2.1,t.1∈nm
 bw:∀t∈r.2.1,Builtin.Int.intBits t.2<=B
 bb:Builtin.Int.intBits r.2.2<=B
structure Pt(ks:Zb)(ps:Za)(X:Nat):Prop where
 len:ps.length=ks.length
 low:∀p∈ps,GW p.1 p.2
 b1:∀p∈ps,Builtin.Int.intBits p.1<=X
 b2:∀p∈ps,Builtin.Int.intBits p.2<=X
theorem Pt.at(hp:Pt ks ps X)(h:n∈ks):dAt ks ps n=some (sR ks ps n)/\sR ks ps n∈ps:=by
 have e:=lK (ks:=ks) (ds:=ps) (x:=n) hp.len.symm
 rw[IF h] at e
 cases q:dAt ks ps n with
 | none=>rw[q] at e;cases e
 | some p =>
  have:sR ks ps n=p:=by unfold sR;rw[q];rfl
  rw[this];exact⟨rfl,vS q⟩
theorem Pt.D(hp:Pt ks ps X)(h:n∈ks):dAt ks (ps.map Hk) n=some (.tup [.int (pT ks ps n),.int (pB ks ps n)]):=by
 rw[vx,(hp.at h).1];rfl
theorem Pt.pos(hp:Pt ks ps X)(h:n∈ks):0<pB ks ps n:=(hp.low _ (hp.at h).2).pos
theorem Pt.Tb(hp:Pt ks ps X)(h:n∈ks):Builtin.Int.intBits (pT ks ps n)<=X:=hp.b1 _ (hp.at h).2
theorem Pt.mono(hp:Pt ks ps X)(h:X<=Y):Pt ks ps Y:=⟨hp.len,hp.low,λp hq=>Hz (hp.b1 p hq) h,λp hq=>Hz (hp.b2 p hq) h⟩
end Mf
namespace DL
open PySem PySem.Spec PyProof.Rows L2
section
variable {X:Cx} {pos:Pos} {a b e:Expr} {es:List Expr} {ta tb:GX} {t:TDA}
theorem rQ:bR X (.type "dict") (λxs H Q=>∃a kvs,xs=[.ref a]/\Rd H a (.dK kvs)/\∀l,H l=none->Q (.ref l) (G6 H l (.dK kvs))):=by
 intro pins s σ H xs us Q I rv h;obtain⟨a,kvs,rfl,e,k⟩:=h;obtain⟨u,rfl,ru⟩:=eW rv
 cases ru
 obtain⟨hz,lo,va,ra,da⟩:=iT I.hok e;have fr:H s.heap.objs.size=none:=I.hok.fresh (HD _);refine kt_call_dict lo da (by rw[<- ra.length];exact hz) λh' dd sb=>?_;have kp:∀b o,s.heap.get? b=some o->h'.get? b=some o:=λb o e=>sb.extBut b o (Iq (HN e)) (Hy _ e);have aa:(s.heap.objs.size==sysModules)=false:=Ka.mpr (JC I.big);exact⟨.ref _,_,I.laid (t':=s.toks) kp (HD _) (za hz aa ra dd),rfl,k _ fr⟩
def qZ:D->(Zb->Zi->Prop)->Prop
 | .dct ks ds,k=>k ks ds
 | .fd ks ds,k=>k ks ds
 | _,_=>False
theorem qZ.ex(h:qZ d k):∃ks ds,(d=.dct ks ds\/d=.fd ks ds)/\k ks ds:=by
 cases d<;>first | exact False.elim h | exact⟨_,_,.inl rfl,h⟩ | exact⟨_,_,.inr rfl,h⟩
def y6(i:Nat)(te:GX)(R:aL)(δ:En):Prop:=te δ (wd λd δ1=>qZ d λks ds=>∀a,jT δ1 i (.own a (.dct ks ds)) R.nx)
theorem xV(i:Nat)(hN:X.N.Nodup)(hg:Gl X "dict")(hm:X.mg "dict"=none)(he:DE X e ta)(hi:X.N[i]?=some y:=by rfl)(hx:Loc X.env.scope y:=by walk_at "v2")
  (h2:starEach [e] X.env=(false,eval e X.env)::starEach [] X.env:=by rfl) (hpl:(backTo pos2 (starEach [] X.env)).any (·.1)=false:=by rfl)
  (hs:swapsWith (.Call (.Name "dict" p) [e] [] pos2) (some (.Name y pos')) pos.line X.env=pure false:=by rfl) (hf:X.fn y=true\/X.env.scope.names.lookup y=some .local :=by walk_at "v1") :
  DS X (.Assign [.Name y pos'] (.Call (.Name "dict" p) [e] [] pos2) pos) (y6 i ta) :=
 PS.imp (gx hN hi hx (jr rQ hg hm CT (aJ he b9 h2) (by decide) (by decide) h2 hpl) hs hf) λE σ H ⟨G,δ,P,R,s,h,k,_⟩=>up.mk s h λd δ1 h1 v H1 ⟨A,q⟩=>by
  replace h1:=qZ.ex h1;obtain⟨ks,ds,ed,r⟩:=h1;have r0:∃a0 vs,v=.ref a0/\Rd H1 a0 (.dK (cc ks vs))/\ks.length=ds.length/\Reps X.K (λb=>G.M0 b\/A b) H1 ds vs:=by
   rcases ed with ed | ed
   ·subst ed;have r0:=q.pnd (.dct ks ds,v) (by simp);unfold G3 at r0;obtain⟨a0,vs,e,n0,e0,l0,rs⟩:=r0;exact⟨a0,vs,e,.inl e0,l0,rs⟩
   ·subst ed;have r0:=q.pnd (.fd ks ds,v) (by simp);unfold G3 at r0;obtain⟨a0,vs,o,e,e0,l0,rs⟩:=r0;exact⟨a0,vs,e,.inr ⟨o,e0⟩,l0,rs⟩
  obtain⟨a0,vs,rfl,e0,l0,rs⟩:=r0;refine⟨a0,_,rfl,e0,λl hl=>?_⟩;have sm:=aF hl (.dK (cc ks vs));refine k _ (r l) _ _ ⟨_,q.claim (P':=P) hl sm ⟨vs,av,l0,Reps.kp (Kp.of_same sm) _ _ (Reps.more (λb z=>?_) _ _ rs)⟩ λq hq=>Hx _ hq⟩
  rcases z with z | z
  ·exact .inl z
  ·exact .inr (by rw[z];exact hl)
def FI:V->Zg->Hp->VK->Prop:=λx vs H Q=>∃l xs y,x=.ref l/\vs=[.int 0,y]/\H l=some (.lst xs)/\xs.length<sizeLine/\Q .non (G6 H l (.lst (y::xs)))
theorem BX:MtM X "list.insert" FI:=by
 intro pins s σ H x vs v us Q I rx rv h;obtain⟨l,xs,y,rfl,rfl,hH,hz,q⟩:=h
 cases rx
 cases rv with
 | cons r0 rv =>
  obtain⟨t,rfl⟩:=r0;obtain⟨u,rfl,ru⟩:=eW rv;obtain⟨z,aa,n,r,hl,e⟩:=I.lstM hH;refine call_meets PySem.F.slot_list_insert ⟨_,e,rfl⟩ PySem.F.entry_list_insert (PySem.F.args_list_insert_3 _ _ _) (PySem.AutoSeq1.list_insert_list_int_val_1 l aa.toArray n 0 t u (by decide) (by rw[Ia];omega)) ⟨e,?_⟩;refine⟨.non,_,I.lset (its':=u::aa) hH e ?_ (.cons ru r) ?_,rfl,q⟩
  ·apply Array.toList_inj.mp;simp
  ·rw[HJ];omega
def EN(i:Nat)(te:GX)(R:aL)(δ:En):Prop:=qWL δ[i]? λa _=>te δ (wd λx δ1=>uB δ1[i]? λds=>ds.length<9000/\jT δ1 i (.own a (.lst (x::ds))) R.nx)
theorem wM(i:Nat){j0}(he:DE X e ta)(hN:X.N[i]?=some y:=by rfl)(hv:Vis X.env.scope y:=by walk_at "v3")
  (hd:(y==("__debug__":Str))=false:=by decide) (hcd:(y==("__classdict__":Str))=false:=by decide)
  (hbase:attributeBase (.Name y p) "insert" X.env (eval (.Name y p) X.env)=eval (.Name y p) X.env:=by rfl)
  (hfew:((backTo cpos (starEach [.Constant (.int 0) j0 p0,e] X.env)).all (λx=>!x.1)&&(backToKw cpos (keywordEach [] X.env)).all (λx=>x.1.isSome)&&decide ([Expr.Constant (.int 0) j0 p0,e].length+([]:List Keyword).length+(if ([]:List Keyword).isEmpty then 0 else 1)<30))=true:=by rfl)
  (hline:(apos.endLine==cpos.line)=true:=by rfl) (hs:starEach [.Constant (.int 0) j0 p0,e] X.env=(false,eval (.Constant (.int 0) j0 p0) X.env)::starEach [e] X.env:=by rfl) (hs2:starEach [e] X.env=(false,eval e X.env)::starEach [] X.env:=by rfl) (hplain:(backTo cpos (starEach [e] X.env)).any (·.1)=false:=by rfl)
  (hsw:swapsWith (.Call (.Attribute (.Name y p) "insert" apos) [.Constant (.int 0) j0 p0,e] [] cpos) none pos.line X.env=pure false:=by rfl) :
  DS X (.Expr (.Call (.Attribute (.Name y p) "insert" apos) [.Constant (.int 0) j0 p0,e] [] cpos) pos) (EN i ta) :=
 PS.imp (eO (D6 Km PySem.F.slot_list_insert PySem.F.type_list_insert BX (a4 hN hv hd hcd) (aJ yC (aJ he b9 hs2) hs) hbase hfew hline hs hplain) hsw) λE σ H ⟨G,δ,P,R,s,h,k,_⟩=>by
  replace h:=qWL.ex h;obtain⟨a,al,ai,h⟩:=h;obtain⟨A0,x0⟩:=id s;obtain⟨h0,_,aj,ah,_⟩:=c5 x0 ai;refine⟨.ref a,h0,.inl ⟨rfl,aj,G4.of ah⟩,up.mk s h λx δ1 h1 v H1 ⟨A,q⟩=>?_⟩;replace h1:=uB.ex q h0 h1;obtain⟨ds,hi,hz,r⟩:=h1;obtain⟨_,aa,vs,ab,rs⟩:=c5 q hi;refine⟨a,vs,v,rfl,rfl,ab,by rw[<- Reps.length _ _ rs];exact jn (JK hz),k _ r _ _ ⟨A,(q.change (d':=.lst (x::ds)) hi (λb o n e=>by rw[aG n];exact e) ⟨v::vs,av,?_⟩).sub (P':=P) λq hq=>Hx _ hq⟩⟩;have kp:Kp (λb=>G.M0 b\/A b) H1 (G6 H1 a (.lst (v::vs))):=by
   have hk:∀b o,b≠a->H1 b=some o->G6 H1 a (.lst (v::vs)) b=some o:=λb o n e=>by rw[aG n];exact e
   exact⟨λb o e n=>hk b o (λz=>n (.inr (by rw[z];exact aa))) e,λb xs e=>hk b _ (λz=>by rw[z,ab] at e;cases e) e,λb o u e=>hk b _ (λz=>by rw[z,ab] at e;cases e) e⟩
  exact Reps.kp kp _ _ (Reps.cons (q.pnd (x,v) (by simp)) rs)
structure GEnd(K:Zf)(mg:Str->Zd)(x:Str):Prop where
 ex:∃a o n,mg x=some (.ref a)/\K.lookup a=some o/\o.cls=.type "tuple"/\o.data=.seq #[.none,.bool false] n
theorem n9(hg:Gl X x)(h:GEnd X.K X.mg x)(hd:(x==("__debug__":Str))=false:=by decide):DE X (.Name x pos) (dC (.tup [.non,.bl false])):=by
 obtain⟨a,o,n,e,h1,h2,h3⟩:=h.ex;refine PE.imp (ge (v:=.ref a) hg e rfl hd) λσ H Q ⟨G,δ,P,R,⟨A,s⟩,h,k,_⟩=>k _ δ h _ H ⟨A,s.push ?_⟩;unfold G3;exact⟨a,[.non,.bl false],rfl,.inr ⟨o,_,n,h1,h2,h3,by show 2<=sizeLine;decide,.cons rfl (.cons rfl .nil)⟩,Reps.cons (by unfold G3;rfl) (Reps.one (by unfold G3;rfl))⟩
end
end DL
namespace DL
open PySem PySem.Spec PyProof.Rows L2
def Ite(K:Zf)(k:Bool)(a:Addr):It :=
  ⟨λi H=>∃xs x,GY k K H a xs/\xs[i]?=some x,
   λi H v H'=>∃T x,H T=none/\H'=G6 H T (.tup [.int (i:Nat),x])/\v=.ref T/\∀xs,GY k K H a xs->xs[i]?=some x,
   λi H=>∃xs,GY k K H a xs/\xs.length=i⟩
def EI(k:Bool)(h:Heap)(e it a:Addr)(m:Nat):Prop:=(∃old,IsEnum h e it ((m:Nat):Int) old)/\ItA k h it a m
section
theorem vO(hh:A.handled=none)(hne:a≠it):Draws prog w A it [it,a] xs.size (λi v=>xs[i]?=some v) (λi h=>ItA k h it a i/\SqA k h a xs) where
 live:=λi h z=>let ⟨o,e,_⟩:=z.1.obj;⟨o,e⟩
 frame:=λi h h' z kk=>⟨z.1.keep λo e=>kk it (by simp) o e,z.2.keep λo e=>kk a (by simp) o e⟩
 item:=λi s Q E hi z hQ=>xW z.1 z.2 (Array.getElem?_eq_getElem hi) λh' z' sb=>hQ _ h' s.toks (Array.getElem?_eq_getElem hi) ⟨z',z.2.keep λo e=>sb.extBut _ _ hne e⟩ sb
 done:=λs Q E z hE=>i6 hh z.1 z.2 (Array.getElem?_eq_none (HD _)) hE
def eh(k:Bool)(h:Heap)(a:Addr):Heap:=(h.push { cls:=.type (if k then "list_iterator" else "tuple_iterator"),data:=.fields #[.ref a,.int 0 0] }).push { cls:=.type "enumerate",data:=.fields #[.none,.bool false,.ref h.objs.size,rawInt 0,.none,.none] }
theorem D3(k:Bool)(a:Addr)(xs:Array Value):Meets (Builtin.«enumerate.__new__» ⟨[.type "enumerate",.ref a],[]⟩) (λ_ R s=>SqA k s.heap a xs/\R (.ok (.ret (.ref (s.heap.objs.size+1)))) { s with heap:=eh k s.heap a }) :=
 .of_wp λprog w A R s h=>by
  obtain⟨hp,g,d,tk,os⟩:=s;obtain⟨a1,h⟩:=h;have aa:=sub_enumerate;have b1:SqA k (Shared.heap ⟨hp,g,d,tk,os⟩) a xs:=a1;obtain⟨o,ho,_⟩:=b1.there;have e:(Shared.heap ⟨hp,g,d,tk,os⟩).objs.size+1=(hp.push { cls:=.type (if k then "list_iterator" else "tuple_iterator"),data:=.fields #[.ref a,.int 0 0] }).objs.size:=(Jm ..).symm;rw[e] at h
  wp_walk using wpAny_loadPart' ho
  refine wpAny_stack_any λst=>HI (by
   split
   ·rename_i c _ _ _ _ _
    cases (c==Value.type "enumerate")<;>(wp_walk using wpAny_loadPart' ho,rF b1)<;>exact⟨_,rfl,h⟩
   ·wp_walk using wpAny_loadPart' ho,rF b1
    exact⟨_,rfl,h⟩)
theorem GA(a1:SqA k s.heap a xs)
  (h:IsEnum (eh k s.heap a) (s.heap.objs.size+1) s.heap.objs.size 0 .none->ItA k (eh k s.heap a) s.heap.objs.size a 0->(∀c o,s.heap.get? c=some o->(eh k s.heap a).get? c=some o)->Q (.ref (s.heap.objs.size+1)) { s with heap:=eh k s.heap a }):wpAny (model prog w) A (call (.type "enumerate") [.ref a]) Q E s:=by
 refine callType_new F.called_enumerate (by decide) (F.typeCall_enumerate_1 _) (F.newCall_enumerate_1 _) (λobj=>F.args_object_init_2 obj _) F.entry_enumerate_new (D3 k a xs) ⟨a1,?_⟩;have sz:∀(h:Heap) (o:Obj) (n:Nat),h.objs.size=n->o.isFreed=false->(h.push o).get? n=some o:=λh o n e f=>by rw[<- e];exact HX _ f
 have e1:IsEnum (eh k s.heap a) (s.heap.objs.size+1) s.heap.objs.size 0 .none:=sz _ _ _ (Jm ..) rfl
 have e0:(eh k s.heap a).get? s.heap.objs.size=some _:=Hy _ (HX _ rfl)
 exact⟨⟨_,e1,rfl⟩,h e1 (by cases k<;>exact⟨_,e0,rfl,rfl⟩) λc o e=>Hy _ (Hy _ e)⟩
end
theorem t5{w:World}{K:Zf}{x1}{it:Addr}(hne:e≠it)(hea:e≠a)(hia:a≠it):yD P w K (.Tuple elts x1 pos) (Ite K k a) [e,it] e (λm h=>EI k h e it a m) where
 mem:=by simp
 obj:=λm h Z c hc=>by
  obtain⟨⟨aa,z⟩,zi⟩:=Z;simp only[List.mem_cons,List.not_mem_nil,or_false] at hc
  rcases hc with rfl | rfl
  ·exact⟨_,z,λv=>nofun⟩
  ·obtain⟨q,x,_,d⟩:=zi.obj;exact⟨q,x,λv=>by rw[d];nofun⟩
 keep:=λm h h' Z kk=>by
  obtain⟨⟨aa,z⟩,zi⟩:=Z;exact⟨⟨aa,kk _ (by simp) _ z⟩,zi.keep λo x=>kk _ (by simp) o x⟩
 item:=by
  intro X hP hw hK hc m pins s σ H E I hf Z hg;subst hP hw hK;obtain⟨xs,x,h1,hx⟩:=hg;obtain⟨⟨aa,z⟩,zi⟩:=Z;obtain⟨is,r1,p1⟩:=GY.at I h1;obtain⟨u,hu,ru⟩:=r1.get hx;have hm:m<is.toArray.size:=by rw[Ia];exact(HL.mp hu).1
  refine wpAny_pyNext_enum_itemD (vO (I.ok.hd hc) hia) z ⟨zi,p1⟩ hm hne (by simp[hne,hea]) λy h' tk hy e1 i1 t1 n1 kk=>⟨_,rfl,?_⟩;have ey:y=u:=by rw[List.getElem?_toArray,hu] at hy;exact(HR hy).symm
  subst ey;refine wpAny_letOwnedTupleGo_enum (s:={ s with heap:=h',toks:=tk+1 }) e1 λh2 e2 s2=>?_;have s2:Heap.SameBut e h' h2:=s2;have ab:H s.heap.objs.size=none:=I.hok.fresh (HD _);have I1:Inv X pins σ (G6 H s.heap.objs.size (.tup [.int (m:Nat),x])) { s with heap:=s.heap.push { cls:=.type "tuple",data:=.seq #[.int (m:Nat) tk,y] },toks:=tk+1 }:=I.laid (t':=tk+1) (λb u e=>Hy _ e) (HD _) ⟨by show 2<=sizeLine;decide,[.int (m:Nat) tk,y],.cons ⟨_,rfl⟩ (.cons ru .nil),⟨_,HX _ rfl,rfl,_,rfl⟩⟩;have ne:∀ {c o},s.heap.get? c=some o->c≠s.heap.objs.size:=λe=>Iq (HN e);have le:e≠s.heap.objs.size:=ne z;have li:it≠s.heap.objs.size:=by obtain⟨q,y,_⟩:=zi.obj;exact ne y
  have fr:∀c∈[e,it],G6 H s.heap.objs.size (.tup [.int (m:Nat),x]) c=none:=λc hc'=>by
   rw[aG (by simp only[List.mem_cons,List.not_mem_nil,or_false] at hc';rcases hc' with rfl | rfl;exact le;exact li)];exact(hf c hc').1
  have I2:Inv X pins σ (G6 H s.heap.objs.size (.tup [.int (m:Nat),x])) { s with heap:=h2,toks:=tk+1 }:=lN (s:={ s with heap:=s.heap.push { cls:=.type "tuple",data:=.seq #[.int (m:Nat) tk,y] },toks:=tk+1 }) (t':=tk+1) (fp:=[e,it]) I1 (λc q hc ec=>?_) λc hc=>⟨fr c hc,(hf c hc).2⟩
  ·exact⟨.ref s.heap.objs.size,_,I2,rfl,⟨_,x,ab,rfl,rfl,λzs hz=>by rw[GY.inj I hz h1];exact hx⟩,⟨⟨_,e2⟩,i1.1.keep λo y=>s2.extBut _ _ (Jr hne) y⟩,fr⟩
  ·have n1:c≠e:=λz=>hc (by rw[z];simp)
   have n2:c≠it:=λz=>hc (by rw[z];simp)
   rcases Heap.get?_push_cases ec with⟨rfl,rfl⟩ | ec
   ·exact s2.extBut _ _ n1 t1
   ·exact s2.extBut _ _ n1 (kk c q n1 n2 ec)
 done:=by
  intro X hP hw hK hc m pins s σ H E I hf Z hg;subst hP hw hK;obtain⟨xs,h1,hl⟩:=hg;obtain⟨⟨aa,z⟩,zi⟩:=Z;obtain⟨is,r1,p1⟩:=GY.at I h1;have l1:=r1.length;have hm:is.toArray.size=m:=by rw[Ia];omega
  subst hm;exact wpAny_pyNext_enum_endD (vO (I.ok.hd hc) hia) z ⟨zi,p1⟩ λh' kk=>⟨rfl,lN (t':=s.toks) (fp:=[e,it]) I (λc q hc e=>kk c q (λz=>hc (by rw[z];simp)) e) hf⟩
 self:=λ_ _ _ _ _ Z h=>wpAny_pyIter_enum Z.1.choose_spec h
section
def FG(K:Zf)(k:Bool)(ta:TA):TI:=λσ H R=>ta σ H λvs H1=>∃a,vs=[.ref a]/\(∃xs,GY k K H1 a xs)/\R (Ite K k a) H1
theorem A5{x1}(hg:Gl X "enumerate")(hm:X.mg "enumerate"=none)(ha:PA X [a] ta)(hs:starEach [a] X.env=[(false,eval a X.env)]:=by rfl) :
  PI X (.Tuple elts x1 pos') (.Call (.Name "enumerate" p) [a] [] pos) (FG X.K k ta):=by
 intro pins s σ H R I h;refine Call_ (i9 I hg hm boot_enumerate (Jg (Ha (ha pos pins s σ H _ I h) λus s1 ⟨vs,H1,I1,r1,q1⟩=>?_) (by rw[hs];rfl) rfl));obtain⟨c,e,⟨xs,hx⟩,q⟩:=q1;subst e;obtain⟨u,rfl,ru⟩:=eW r1
 cases ru
 obtain⟨is,_,p1⟩:=GY.at I1 hx;obtain⟨o,ho,_⟩:=p1.there;have lt:=HN ho;refine GA p1 λe1 i1 up=>wpAny_pyIter_enum (s:={ s1 with heap:=eh k s1.heap c }) e1 ?_;refine⟨_,[s1.heap.objs.size+1,s1.heap.objs.size],_,_,H1,rfl,I1.kept (t':=s1.toks) up,t5 (Nat.succ_ne_self _) (JC (Kt lt)) (Iq lt),⟨⟨_,e1⟩,i1⟩,λb hb=>?_,q⟩;have hb:s1.heap.objs.size<=b:=by
  simp only[List.mem_cons,List.not_mem_nil,or_false] at hb
  rcases hb with rfl | rfl
  ·exact J9 ..
  ·exact HD _
 exact I1.fpOk hb (I1.hok.fresh hb)
def enD(xs:Zi):Zi:=xs.mapIdx λi x=>.tup [.int (i:Nat),x]
def zk(k:Bool)(t:TDA)(δ:En)(R:Zi->En->Prop):Prop:=t δ λds δ1=>qC ds λx r=>qN r <| qS k x λxs=>R (enD xs) δ1
theorem zX(k:Bool){x1}(hg:Gl X "enumerate")(hm:X.mg "enumerate"=none)(ha:DA X [a] ta)(hs:starEach [a] X.env=[(false,eval a X.env)]:=by rfl) :
  CI X (.Tuple elts x1 pos') (.Call (.Name "enumerate" p) [a] [] pos) (zk k ta) :=
 ⟨_,A5 (k:=k) hg hm ha hs,λG δ P σ H R Q s hs kk=>⟨G,δ,P,_,s,hs,λds δ1 h1 vs H1 hl s1=>by
  replace h1:=qC.ex h1;obtain⟨x,r,e,h1⟩:=h1;replace h1:=qN.ex h1;obtain⟨e',h1⟩:=h1;replace h1:=qS.ex h1;obtain⟨xs,e2,r⟩:=h1;subst e2 e' e
  match vs,hl with
  | [v],_ =>
   have s2:S X.K G δ1 ((sq k xs,v)::P) σ H1:=s1
   have at1:∀A δ σ H,Sx X.K G A δ ((sq k xs,v)::P) σ H->∃a vs,v=.ref a/\GY k X.K H a vs/\Reps X.K (λb=>G.M0 b\/A b) H xs vs:=λA δ σ H x=>qU (x.pnd (sq k xs,v) (by simp))
   obtain⟨A1,x1⟩:=id s2;obtain⟨a,ab,rfl,l0,_⟩:=at1 _ _ _ _ x1;have ah:(enD xs).length=xs.length:=by unfold enD;rw[List.length_mapIdx]
   refine⟨a,rfl,⟨ab,l0⟩,kk _ δ1 r _ _ H1 (λq hq=>by simp[hq]) s2 (λA δ σ i H x hi=>?_) (λA δ σ H x=>?_) λA δ σ i y H H2 x hi hy=>?_⟩
   ·obtain⟨_,vs,e,l,r⟩:=at1 _ _ _ _ x
    cases e
    obtain⟨v',hv,_⟩:=Reps.get _ _ r i (xs[i]'(by omega)) (by simp);exact⟨vs,v',l,hv⟩
   ·obtain⟨_,vs,e,l,r⟩:=at1 _ _ _ _ x
    cases e
    have:=Reps.length _ _ r
    exact⟨vs,l,by omega⟩
   ·obtain⟨_,vs,e,l,r⟩:=at1 _ _ _ _ x
    cases e
    obtain⟨T,x',hT,rfl,rfl,hx⟩:=hy;have aa:i<xs.length:=by omega
    obtain⟨v',hv,rv⟩:=Reps.get _ _ r i xs[i] (by simp[aa]);have e1:=hx vs l;rw[hv] at e1;have e1:=HR e1;rw[e1] at rv;have sm:bE H (G6 H T (.tup [.int (i:Nat),x'])):=aF hT _;refine⟨sm,.tup [.int (i:Nat),xs[i]],?_,?_⟩
    ·unfold enD;rw[List.getElem?_mapIdx,Iv aa];rfl
    ·unfold G3
     exact⟨T,[.int (i:Nat),x'],rfl,.inl (.inl av),Reps.cons (by unfold G3;rfl) (Reps.one (G3.kp (Kp.of_same sm) _ _ rv))⟩⟩⟩
end
def Itv(K:Zf)(a:Addr)(n:Nat):It :=
  ⟨λi H=>i<n/\∃xs x,G4 K H a xs/\xs.length=n/\xs[n-1-i]?=some x,
   λi H v H'=>H'=H/\∀xs,G4 K H a xs->xs[n-1-i]?=some v,
   λi _=>i=n⟩
theorem xj{w:World}{K:Zf}{it:Addr}:yD P w K tg (Itv K a n) [it] it (λi h=>h.IsRevIter it a ((n:Int)-1-(i:Nat))) where
 mem:=by simp
 obj:=λi h st b hb=>by
  have e:b=it:=by simpa using hb
  subst e;obtain⟨o,ho,_,d⟩:=st;exact⟨o,ho,λv=>by rw[d];nofun⟩
 keep:=λi h h' st k=>st.at λo e=>k it (by simp) o e
 item:=by
  intro X hP hw hK hc i pins s σ H E I hf st hg;subst hP hw hK;obtain⟨f0,f1,f2,f3,f4,f5⟩:=hf it (by simp);obtain⟨hi,xs,x,h1,hn,hx⟩:=hg;obtain⟨is,r1,p1,_⟩:=I.list h1;obtain⟨u,hu,ru⟩:=r1.get hx;have e:(n:Int)-1-(i:Nat)=((n-1-i:Nat):Int):=by omega
  rw[e] at st;refine wpAny_pyNext_rev_item st p1.isList (by simpa using hu) λh' st' sb=>⟨_,rfl,?_⟩;have e2:((n-1-i:Nat):Int)-1=(n:Int)-1-((i+1:Nat):Int):=by omega
  rw[e2] at st';obtain⟨o,ho,aa,ab⟩:=id st';have I1:Inv X pins σ H { s with heap:=h' }:=I.turned (t':=s.toks) (λb o hb e=>sb.extBut b o hb e) f0 f1 f3 f4 f5;exact vt (s:={ s with heap:=h' }) (n:="list_reverseiterator") ho aa ab (by decide) ⟨x,H,I1,ru,⟨rfl,λzs hz=>by rw[I.list_inj hz h1];exact hx⟩,st',λb hb=>(hf b hb).1⟩
 done:=by
  intro X hP hw hK hc i pins s σ H E I hf st hg;subst hP hw hK;obtain⟨f0,f1,f2,f3,f4,f5⟩:=hf it (by simp);have hg:i=n:=hg;subst hg;have e:(i:Int)-1-(i:Nat)=-1:=by omega
  rw[e] at st;exact wpAny_pyNext_rev_end (I.ok.hd hc) st λh' eb=>⟨rfl,I.turned (t':=s.toks) (λb o hb e=>eb b o hb e) f0 f1 f3 f4 f5⟩
 self:=λ_ _ _ _ _ st h=>wpAny_pyIter_revIter st h
section
def iRev(K:Zf)(ta:TA):TI:=λσ H R=>ta σ H λvs H1=>∃a xs,vs=[.ref a]/\G4 K H1 a xs/\R (Itv K a xs.length) H1
theorem De(hg:Gl X "reversed")(hm:X.mg "reversed"=none)(ha:PA X [a] ta)(hs:starEach [a] X.env=[(false,eval a X.env)]:=by rfl) :
  PI X tg (.Call (.Name "reversed" p) [a] [] pos) (iRev X.K ta):=by
 intro pins s σ H R I h;refine Call_ (i9 I hg hm boot_reversed (Jg (Ha (ha pos pins s σ H _ I h) λus s1 ⟨vs,H1,I1,r1,q1⟩=>?_) (by rw[hs];rfl) rfl));obtain⟨c,xs,e,hx,q⟩:=q1;subst e;obtain⟨u,rfl,ru⟩:=eW r1
 cases ru
 obtain⟨is,rv,p1,_⟩:=I1.list hx;have hl:is.toArray.size=xs.length:=by rw[Ia,rv.length]
 refine call_reversed_list p1.isList ?_;have st:(s1.heap.push (revObj c ((is.toArray.size:Int)-1))).IsRevIter s1.heap.objs.size c ((xs.length:Int)-1-((0:Nat):Int)):=⟨_,HX _ rfl,rfl,by show Data.fields #[.ref c,rawInt ((is.toArray.size:Int)-1)]=_;rw[hl,show ((0:Nat):Int)=0 from rfl,Int.sub_zero]⟩;refine wpAny_pyIter_revIter (s:={ s1 with heap:=s1.heap.push (revObj c ((is.toArray.size:Int)-1)) }) st ?_;refine⟨_,[s1.heap.objs.size],_,_,H1,rfl,I1.kept (t':=s1.toks) λb o e=>Hy _ e,xj,st,λb hb=>?_,q⟩;have e:b=s1.heap.objs.size:=by simpa using hb
 subst e;exact I1.fpOk (HD _) (I1.hok.fresh (HD _))
def Cy(t:TDA)(δ:En)(R:Zi->En->Prop):Prop:=t δ λds δ1=>qC ds λx r=>qN r <| qL x λxs=>R xs.reverse δ1
theorem El(hg:Gl X "reversed")(hm:X.mg "reversed"=none)(ha:DA X [a] ta)(hs:starEach [a] X.env=[(false,eval a X.env)]:=by rfl) :
  CI X tg (.Call (.Name "reversed" p) [a] [] pos) (Cy ta) :=
 ⟨_,De hg hm ha hs,λG δ P σ H R Q s hs kk=>⟨G,δ,P,_,s,hs,λds δ1 h1 vs H1 hl s1=>by
  replace h1:=qC.ex h1;obtain⟨x,r,e,h1⟩:=h1;replace h1:=qN.ex h1;obtain⟨e',h1⟩:=h1;replace h1:=qL.ex h1;obtain⟨xs,e2,r⟩:=h1;subst e2 e' e
  match vs,hl with
  | [v],_ =>
   have s2:S X.K G δ1 ((.lst xs,v)::P) σ H1:=s1
   have at1:∀A δ σ H,Sx X.K G A δ ((.lst xs,v)::P) σ H->∃a vs,v=.ref a/\G4 X.K H a vs/\Reps X.K (λb=>G.M0 b\/A b) H xs vs:=λA δ σ H x=>by
    have q:=x.pnd (.lst xs,v) (by simp)
    unfold G3 at q;obtain⟨a,vs,e,_,l,r⟩:=q;exact⟨a,vs,e,G4.of l,r⟩
   obtain⟨A1,x1⟩:=id s2;obtain⟨a,aa,rfl,l0,r0⟩:=at1 _ _ _ _ x1;have ah:=Reps.length _ _ r0;refine⟨a,aa,rfl,l0,kk _ δ1 r _ _ H1 (λq hq=>by simp[hq]) s2 (λA δ σ i H x hi=>?_) (λA δ σ H x=>by show xs.reverse.length=aa.length;rw[Kb,ah]) λA δ σ i y H H2 x hi hy=>?_⟩
   ·rw[Kb] at hi;obtain⟨_,vs,e,l,r⟩:=at1 _ _ _ _ x
    cases e
    have ab:=Reps.length _ _ r
    obtain⟨v',hv,_⟩:=Reps.get _ _ r (aa.length-1-i) (xs[aa.length-1-i]'(by omega)) (by simp);exact⟨by omega,vs,v',l,by omega,hv⟩
   ·rw[Kb] at hi;obtain⟨_,vs,e,l,r⟩:=at1 _ _ _ _ x
    cases e
    have ab:=Reps.length _ _ r
    obtain⟨e,hy⟩:=hy;subst e;obtain⟨v',hv,rv⟩:=Reps.get _ _ r (aa.length-1-i) (xs[aa.length-1-i]'(by omega)) (by simp);have z:=hy vs l;rw[hv] at z
    cases z
    refine⟨bE.refl _,_,?_,rv⟩;have e9:xs.length-1-i=aa.length-1-i:=by omega
    rw[List.getElem?_reverse (by omega),e9]
    exact Iv _⟩⟩
end
section
end
section
end
section
end
section
set_option maxRecDepth 100000 in
set_option maxHeartbeats 3200000 in
end
namespace FS
end FS
section
end
section
set_option maxHeartbeats 1000000 in
set_option maxHeartbeats 1000000 in
end
section
set_option maxHeartbeats 2000000 in
end
section
end
section
end
def qp(i:Nat)(t:TDS)(R:aL)(δ:En):Prop:=qWD δ[i]? λ_ ks ds=>jT δ i (.dat (.fd ks ds)) (t R)
section
end
section
end
section
end
section
end
def Cn:Zi->(D->Prop)->Prop
 | [.int i,.int j],R=>R (.bl (decide (i=j)))
 | [.str x,.str y],R=>R (.bl (decide (x=y)))
 | [.bl x,.bl y],R=>R (.bl (decide (x=y)))
 | [.tup xs,.tup ys],R=>∃a b c d,xs=[.int a,.int b]/\ys=[.int c,.int d]/\R (.bl (decide ((a,b)=(c,d))))
 | _,_=>False
theorem Bp:∀ {d0:Zi} {R:D->Prop},Cn d0 R->((∃(i:Int) (j:Int),d0=[.int i,.int j]/\R (.bl (decide (i=j))))\/(∃(x:Str) (y:Str),d0=[.str x,.str y]/\R (.bl (decide (x=y))))\/(∃(x:Bool) (y:Bool),d0=[.bl x,.bl y]/\R (.bl (decide (x=y))))\/(∃(xs:Zi) (ys:Zi),d0=[.tup xs,.tup ys]/\∃a b c d,xs=[.int a,.int b]/\ys=[.int c,.int d]/\R (.bl (decide ((a,b)=(c,d)))))):=by walk_at "or"
theorem AD:Cn [.tup [.int a,.int b],.tup [.int c,.int d]] R↔R (.bl (decide ((a,b)=(c,d)))):=by
 constructor
 ·intro h;obtain⟨_,_,_,_,e,e',h⟩:=h
  cases e
  cases e'
  exact h
 ·exact λh=>⟨_,_,_,_,rfl,rfl,h⟩
theorem xv:Cn [.int i,.int j] R=(R (.bl (decide (i=j)))):=rfl
theorem zL:Cn [.bl i,.bl j] R=(R (.bl (decide (i=j)))):=rfl
theorem wS:Cn [.str i,.str j] R=(R (.bl (decide (i=j)))):=rfl
section
theorem rY(hu:X.A.units+64<cLine):Hr X (compareOp .Eq) λx y=>aT X.K Cn [x,y]:=by
 intro pins s σ H x y v u Q I rx ry h;obtain⟨M,ds,R,m,rs,h,k⟩:=h;replace h:=Bp h
 rcases h with⟨_,_,rfl,h⟩ | ⟨_,_,rfl,h⟩ | ⟨_,_,rfl,h⟩ | ⟨_,_,rfl,h⟩
 ·exact eP hu pins s σ H x y v u Q I rx ry ⟨M,_,R,m,rs,h,k⟩
 ·exact eP hu pins s σ H x y v u Q I rx ry ⟨M,_,R,m,rs,h,k⟩
 ·exact eP hu pins s σ H x y v u Q I rx ry ⟨M,_,R,m,rs,h,k⟩
 ·obtain⟨i1,i2,j1,j2,rfl,rfl,h⟩:=h;obtain⟨h1,h2⟩:=b7 rs;unfold G3 at h1 h2;obtain⟨a,vs,rfl,sq,aa⟩:=h1;obtain⟨b,ws,rfl,ab,ah⟩:=h2
  cases rx
  cases ry
  obtain⟨v1,v2,rfl,p1,p2⟩:=kP aa;obtain⟨w1,w2,rfl,p3,p4⟩:=kP ah
  cases aM p1
  cases aM p2
  cases aM p3
  cases aM p4
  obtain⟨aj,r1,t1,_⟩:=I.tuple sq;obtain⟨ai,r2,t2,_⟩:=I.tuple ab
  cases r1 with
  | cons q1 r1 =>
   cases r1 with
   | cons q2 r1 =>
    cases r1
    obtain⟨s1,rfl⟩:=q1;obtain⟨s2,rfl⟩:=q2
    cases r2 with
    | cons q3 r2 =>
     cases r2 with
     | cons q4 r2 =>
      cases r2
      obtain⟨s3,rfl⟩:=q3;obtain⟨s4,rfl⟩:=q4;refine SeqAt.eq_tupleAt (e:=λn=>if n=0 then i1==j1 else i2==j2) t1 t2 (by omega) (λn h1 h2=>?_) ?_
      ·match n,h1 with
       | 0,_=>exact SeqAt.EqAt.int_int i1 s1 j1 s3
       | 1,_=>exact SeqAt.EqAt.int_int i2 s2 j2 s4
      ·refine⟨.bl _,H,I,rfl,?_⟩;have e1:((List.range (min [Value.int i1 s1,Value.int i2 s2].toArray.size [Value.int j1 s3,Value.int j2 s4].toArray.size)).all (λn=>if n=0 then i1==j1 else i2==j2)&&[Value.int i1 s1,Value.int i2 s2].toArray.size==[Value.int j1 s3,Value.int j2 s4].toArray.size)=decide ((i1,i2)=(j1,j2)):=by
        show ((i1==j1)&&((i2==j2)&&true)&&true)=_
        rw[Kk];simp
       rw[e1];exact k _ h _ H (bE.refl H) (G3.sc rfl)
end
section
end
def kI(R:W->En->Prop)(δ:En)(r:D):Prop:=r.im=true/\R (.d r) δ
def zE(i:Nat)(f:Zi->(D->Prop)->Prop)(ta tb:GX)(δ:En)(R:W->En->Prop):Prop:=ta δ (wd λx δ1=>tb δ1 (wd λy δ2=>qW δ2[i]? λ_ d=>f [x,y,d] (kI R δ2)))
theorem wE(i:Nat)(C:Cal X.prog X.w X.K X.mg X.base k x ps (Hg X.K f))(hr:cI k X.A)(hg:Gl X x)(ha:DE X a ta)(hb:DE X b tb)(hN:X.N[i]?=some y:=by rfl)
  (hv:Vis X.env.scope y:=by walk_at "v3") (hd:(y==("__debug__":Str))=false:=by decide) (hcd:(y==("__classdict__":Str))=false:=by decide)
  (hdb:(x==("__debug__":Str))=false:=by decide) (he:starEach [a,b,.Name y p2] X.env=(false,eval a X.env)::starEach [b,.Name y p2] X.env:=by rfl) (he1:starEach [b,.Name y p2] X.env=(false,eval b X.env)::starEach [.Name y p2] X.env:=by rfl)
  (he2:starEach [.Name y p2] X.env=(false,eval (.Name y p2) X.env)::starEach [] X.env:=by rfl) (hpl:(backTo pos (starEach [b,.Name y p2] X.env)).any (·.1)=false:=by rfl) :
  DE X (.Call (.Name x p) [a,b,.Name y p2] [] pos) (zE i f ta tb):=by
 obtain⟨g,fd,F,b',kp,m⟩:=C.ex;refine PE.imp (f6 F hr hg m kp b' .nil v6 (aJ ha (aJ hb (aJ (a4 hN hv hd hcd) b9 he2) he1) he) hdb he hpl) λσ H Q ⟨G,δ,P,R,s,h,k,_⟩=>up.mk s h λz δ1 h1 v H1 s1=>up.mk s1 h1 λz2 δ2 h2 v2 H2 s2=>?_;replace h2:=qW.ex h2;obtain⟨a0,d0,hi,hf⟩:=h2;refine⟨.ref a0,s2.own hi,?_⟩;show aT X.K f ([v,v2,.ref a0]++[]) H2 Q;rw[IE];obtain⟨A,q⟩:=s2;obtain⟨_,aa,oo⟩:=q.own i a0 d0 hi;have hM:∀b,((G.M0 b\/A b)/\b≠a0)->(G.M0 b\/A b)\/H2 b=none:=λb h=>.inl h.1;refine⟨λb=>(G.M0 b\/A b)/\b≠a0,[z,z2,d0],λr=>r.im=true/\R (.d r) δ2,λb h=>q.mem b h.1,Reps.cons (G3.more hM _ _ (q.pnd (z,v) (by simp))) (Reps.cons (G3.more hM _ _ (q.pnd (z2,v2) (by simp))) (Reps.one (oo.rep (λz=>z.2 rfl) λb z=>z.1))),hf,λr ⟨im,hr⟩ u H' sm rp=>?_⟩;exact k r δ2 hr u H' ⟨A,((q.same sm).sub (P':=P) λp hp=>by simp[hp]).push (G3.im _ _ im rp)⟩
theorem Sx.slot{K:Zf}{G:Gf}{A:Addr->Prop}{δ:List Sl}{σ:L2.St}{H:Hp}(s:Sx K G A δ P σ H)(aa:A p)(oo:bx K (λb=>G.M0 b\/A b) H p d)(hno:∀(j:Nat) e,δ[j]?≠some (.own p e))(hP:∀q∈P',q∈P) :
  Sx K G A (δ.set i (.own p d)) P' (σ.set i (some (.ref p))) H:=by
 refine⟨s.old,s.stay,s.m0,s.pm,s.new,s.thr,by rw[IS,IS,s.len],λj d' e=>?_,λj b d' e=>?_,λj k b d' e' h1 h2=>?_,λq hq=>s.pnd q (hP q hq)⟩
 ·rcases a9 e with⟨_,z,_⟩ | ⟨ab,e⟩
  ·cases z
  ·obtain⟨v,q,r⟩:=s.dat j d' e;exact⟨v,by rw[Io ab];exact q,r⟩
 ·rcases a9 e with⟨ab,z,hl⟩ | ⟨ab,e⟩
  ·cases z
   subst ab;exact⟨by rw[Il (by rw[<- s.len];exact hl)],aa,oo⟩
  ·obtain⟨q,r,o⟩:=s.own j b d' e;exact⟨by rw[Io ab];exact q,r,o⟩
 ·rcases a9 h1 with⟨ab,z,hl⟩ | ⟨ab,e⟩
  ·cases z
   rcases a9 h2 with⟨ah,_,_⟩ | ⟨ah,e2⟩
   ·rw[<- ab,<- ah]
   ·exact absurd e2 (hno k _)
  ·rcases a9 h2 with⟨ah,z,_⟩ | ⟨ah,e2⟩
   ·cases z
    exact absurd e (hno j _)
   ·exact s.inj j k b d' e' e e2
def zr(i:Nat)(src:TDC)(nt:Nat)(caps:List (Nat×Str))(g:TDG)(tc:TDT)(te:GX)(R:aL)(δ:En):Prop:=src δ λxs δ1=>xs.length<=9000/\∃f:D->Option D,
 (∀x∈xs,wX nt λts=>g x (ts++gX caps δ1) λδ2=>tc δ2 λb δ3=>if b=true then te δ3 (wd λy δ4=>okT nt δ4 (gX caps δ1)/\f x=some y) else okT nt δ3 (gX caps δ1)/\f x=none)/\∀a,jT δ1 i (.own a (.lst (xs.filterMap f))) R.nx
theorem wJ(i:Nat)(hN:X.N.Nodup)(tn:Zb)(caps:List (Nat×Str))
  (hcalm:X.calm=true) (hclos:closureFor scope X.env=pure cl) (hcell:∀p∈caps,(p.2,NameKind.cell)∉scope.names) (hkind:scope.kind=.function) (hnames:∀y∈scope.names,y.2=.local->scope.names.lookup y.1=some .local)
  (hcl:∀x c,cl.lookup x=some c->X.env.cells.lookup x=some c) (hhas:∀(n:Nat) x,((relabel scope X.env).names.lookup x=some .cell\/(relabel scope X.env).names.lookup x=some .free)->∃c,(cellsFrom n scope.names []++cl).lookup x=some c)
  (hcap:∀p∈caps,X.N[p.1]?=some p.2/\X.env.scope.names.lookup p.2=some .cell/\((relabel scope X.env).names.lookup p.2=some .cell\/(relabel scope X.env).names.lookup p.2=some .free))
  (hi:CI X.nox tgt iter src)
  (hb:∀s2 H2 C fp pn,DG (cY X (tn++caps.map (·.2)) scope cl s2 H2 C fp pn) tgt g/\DF (cY X (tn++caps.map (·.2)) scope cl s2 H2 C fp pn) ifs tc/\DE (cY X (tn++caps.map (·.2)) scope cl s2 H2 C fp pn) elt te)
  (hs:∀x,foldedSetIterable iter X.env x=pure x:=by intro _;rfl) (hi':X.N[i]?=some y:=by rfl) (hx:Loc X.env.scope y:=by walk_at "v2")
  (hsw:swapsWith (.ListComp elt [⟨tgt,iter,ifs,0⟩] scope pos) (some (.Name y pos')) pos2.line X.env=pure true:=by rfl) (hf:X.fn y=true\/X.env.scope.names.lookup y=some .local :=by walk_at "v1") :
  DS X.nox (.Assign [.Name y pos'] (.ListComp elt [⟨tgt,iter,ifs,0⟩] scope pos) pos2) (zr i src tn.length caps g tc te):=by
 obtain⟨wi,hi,hw⟩:=hi;refine PS.imp (pS (g:=upG X.K g) (tc:=upT X.K tc) (te:=up X.K te) tn caps hcalm hclos hcell hkind hnames hcl hhas hcap hi hb hs hN hi' hx hsw hf) λE σ H ⟨G,δ,P,R,s,h,k,_⟩=>?_;refine hw G δ P σ H _ _ s h λxs δ1 ⟨hz,f,hf,r⟩ J P1 H1 hP s1 hgo hst hyl p hp=>?_;refine j9 (Q:=λx H1=>ui i x σ H1 E.nx) s1 hz (λA i H x hi=>hgo A _ _ i H x hi) (λA H x=>hst A _ _ H x) (λA i x H H2 s hi hy=>hyl A _ _ i x H H2 s hi hy) hf p hp λA acc H' hA ho x hac rs=>?_;exact k _ (r p) _ H' ⟨_,x.slot (P':=P) (.inr rfl) ⟨acc,hac,rs⟩ (λj e z=>hA (.inr (ho j p e z))) hP⟩
theorem kq(i:Nat)(hN:X.N.Nodup)(tn:Zb)(caps:List (Nat×Str))
  (hcalm:X.calm=true) (hclos:closureFor scope X.env=pure cl) (hcell:∀p∈caps,(p.2,NameKind.cell)∉scope.names) (hkind:scope.kind=.function) (hnames:∀y∈scope.names,y.2=.local->scope.names.lookup y.1=some .local)
  (hcl:∀x c,cl.lookup x=some c->X.env.cells.lookup x=some c) (hhas:∀(n:Nat) x,((relabel scope X.env).names.lookup x=some .cell\/(relabel scope X.env).names.lookup x=some .free)->∃c,(cellsFrom n scope.names []++cl).lookup x=some c)
  (hcap:∀p∈caps,X.N[p.1]?=some p.2/\X.env.scope.names.lookup p.2=some .cell/\((relabel scope X.env).names.lookup p.2=some .cell\/(relabel scope X.env).names.lookup p.2=some .free))
  (hi:CI X.nox tgt iter src)
  (hb:∀s2 H2 C fp pn,DG (cY X (tn++caps.map (·.2)) scope cl s2 H2 C fp pn) tgt g/\DF (cY X (tn++caps.map (·.2)) scope cl s2 H2 C fp pn) ifs tc/\DE (cY X (tn++caps.map (·.2)) scope cl s2 H2 C fp pn) elt te)
  (hs:∀x,foldedSetIterable iter X.env x=pure x:=by intro _;rfl) (hi':X.N[i]?=some y:=by rfl) (hx:Loc X.env.scope y:=by walk_at "v2")
  (hsw:swapsWith (.ListComp elt [⟨tgt,iter,ifs,0⟩] scope pos) (some (.Name y pos')) pos2.line X.env=pure true:=by rfl) (hf:X.fn y=true\/X.env.scope.names.lookup y=some .local :=by walk_at "v1") :
  DS X.nox (.Assign [.Name y pos'] (.ListComp elt [⟨tgt,iter,ifs,0⟩] scope pos) pos2) (dSet i (A7 src tn.length caps g tc te)):=by
 obtain⟨wi,hi,hw⟩:=hi;refine PS.imp (pS (g:=upG X.K g) (tc:=upT X.K tc) (te:=up X.K te) tn caps hcalm hclos hcell hkind hnames hcl hhas hcap hi hb hs hN hi' hx hsw hf) λE σ H ⟨G,δ,P,R,s,h,k,_⟩=>?_;refine hw G δ P σ H _ _ s h λxs δ1 ⟨hz,f,hf,r⟩ J P1 H1 hP s1 hgo hst hyl p hp=>?_
 exact mh (Q:=λx H1=>ui i x σ H1 E.nx) s1 hz (λA i H x hi=>hgo A _ _ i H x hi) (λA H x=>hst A _ _ H x) (λA i x H H2 s hi hy=>hyl A _ _ i x H H2 s hi hy) hf (λv H' s'=>k _ r _ H' ((s'.sub (P':=(.lst (xs.filterMap f),v)::P) λq hq=>by
  rcases HK.mp hq with rfl | hq
  ·simp
  ·exact Hx _ (hP q hq)).set (by simp) λp hp=>by simp[hp])) p hp
section
def iSeq(K:Zf)(tl:TE):TI:=λσ H R=>tl σ H λx H1=>(∃a,x=.ref a/\(∃xs,G4 K H1 a xs)/\R (Itl K a) H1)\/∃a,x=.ref a/\(∃xs,Ho K H1 a xs)/\R (Itt K a) H1
theorem DH(hl:PE X l tl):PI X tg l (iSeq X.K tl):=by
 intro pins s σ H R I h;refine Ha (hl pins s σ H _ I h) λv s1 ⟨x,H1,I1,r1,q1⟩=>?_
 rcases q1 with⟨a,e,⟨xs,hq⟩,q⟩ | ⟨a,e,⟨xs,hq⟩,q⟩
 ·subst e
  cases r1
  obtain⟨aa,rv,p,hz⟩:=I1.list hq;refine J4 p.isList ?_;refine⟨s1.heap.objs.size,[s1.heap.objs.size],_,_,H1,rfl,I1.kept (t':=s1.toks) λb o e=>Hy _ e,mD a _,⟨_,HX _ rfl,rfl,rfl⟩,λb hb=>?_,q⟩;have e:b=s1.heap.objs.size:=by simpa using hb
  subst e;exact I1.fpOk (HD _) (I1.hok.fresh (HD _))
 ·subst e
  cases r1
  obtain⟨aa,rv,p,hz⟩:=I1.tuple hq;refine wpAny_pyIter_tuple p ?_;refine⟨s1.heap.objs.size,[s1.heap.objs.size],_,_,H1,rfl,I1.kept (t':=s1.toks) λb o e=>Hy _ e,kd a _,⟨_,HX _ rfl,rfl,rfl⟩,λb hb=>?_,q⟩;have e:b=s1.heap.objs.size:=by simpa using hb
  subst e;exact I1.fpOk (HD _) (I1.hok.fresh (HD _))
def qY:D->(Zi->Prop)->Prop
 | .lst xs,k=>k xs
 | .tup xs,k=>k xs
 | _,_=>False
theorem qY.ex(h:qY d k):∃b xs,d=sq b xs/\k xs:=by
 cases d<;>first | exact False.elim h | exact⟨true,_,rfl,h⟩ | exact⟨false,_,rfl,h⟩
def dcSq(t:GX)(δ:En)(R:Zi->En->Prop):Prop:=t δ (wd λd δ1=>qY d λxs=>R xs δ1)
theorem F9(h:DE X e te):CI X tg e (dcSq te):=⟨_,DH h,λG δ P σ H R Q s hs k=>up.mk s hs λd δ1 h1 v H1 s1=>by
 replace h1:=qY.ex h1;obtain⟨kk,xs,e,r⟩:=h1;subst e;have aa:∀A δ σ H,Sx X.K G A δ ((sq kk xs,v)::P) σ H->∃a vs,v=.ref a/\GY kk X.K H a vs/\Reps X.K (λb=>G.M0 b\/A b) H xs vs:=λA δ σ H x=>qU (x.pnd (sq kk xs,v) (by simp));obtain⟨A1,x1⟩:=id s1;obtain⟨a,ah,rfl,l0,_⟩:=aa _ _ _ _ x1
 cases kk
 ·refine .inr ⟨a,rfl,⟨ah,l0⟩,k xs δ1 r _ _ H1 (λq hq=>by simp[hq]) s1 (λA δ σ i H x hi=>?_) (λA δ σ H x=>?_) λA δ σ i y H H2 x hi hy=>?_⟩
  ·obtain⟨b,vs,e,l,r⟩:=aa _ _ _ _ x
   cases e
   obtain⟨w',hw,_⟩:=Reps.get _ _ r i xs[i] (by simp[hi]);exact⟨vs,w',l,hw⟩
  ·obtain⟨b,vs,e,l,r⟩:=aa _ _ _ _ x
   cases e
   exact⟨vs,l,by rw[Reps.length _ _ r];exact HD _⟩
  ·obtain⟨b,vs,e,l,r⟩:=aa _ _ _ _ x
   cases e
   obtain⟨e,hy⟩:=hy;obtain⟨w',hw,ab⟩:=Reps.get _ _ r i xs[i] (by simp[hi]);have z:=hy vs l;rw[hw] at z
   cases z
   subst e;exact⟨bE.refl _,xs[i],by simp[hi],ab⟩
 ·refine .inl ⟨a,rfl,⟨ah,l0⟩,k xs δ1 r _ _ H1 (λq hq=>by simp[hq]) s1 (λA δ σ i H x hi=>?_) (λA δ σ H x=>?_) λA δ σ i y H H2 x hi hy=>?_⟩
  ·obtain⟨b,vs,e,l,r⟩:=aa _ _ _ _ x
   cases e
   obtain⟨w',hw,_⟩:=Reps.get _ _ r i xs[i] (by simp[hi]);exact⟨vs,w',l,hw⟩
  ·obtain⟨b,vs,e,l,r⟩:=aa _ _ _ _ x
   cases e
   exact⟨vs,l,by rw[Reps.length _ _ r];exact HD _⟩
  ·obtain⟨b,vs,e,l,r⟩:=aa _ _ _ _ x
   cases e
   obtain⟨e,hy⟩:=hy;obtain⟨w',hw,ab⟩:=Reps.get _ _ r i xs[i] (by simp[hi]);have z:=hy vs l;rw[hw] at z
   cases z
   subst e
   exact⟨bE.refl _,xs[i],by simp[hi],ab⟩⟩
end
section
end
section
end
section
end
theorem FdK.fd{K:Zf}{st:Stmt}{h:Heap}{mg:Str->Zd}{ps:Zb}(q:FdK K x st)(X:K.In h)(G:h.Ns mainGlobals mg)
  (b:∀(kV doc pm:Value) (an:Option Addr) (cdv ct:Value) (us:Zc),us.length=ps.length->bindArgs (PySem.W.fnOf x x (bM st) (aU st) (ak st) .none kV doc pm an cdv ct) ⟨us,[]⟩=pure (ps.zip us)):Fd K mg x st ps:=by
 obtain⟨f,oc,od,an,sl,kV,dc,pm,cd,ct,a,l,c,k⟩:=q.ex;have F:=yq (st:=st) l c k;exact⟨_,_,F,F.binds (ps:=ps) b,Js X G a⟩
theorem gZ(h:l.length=n+1):∃a r,l=a::r/\r.length=n:=by
 cases l with
 | nil=>cases h
 | cons a r=>exact⟨a,r,rfl,J0 h⟩
theorem len1(h:l.length=1):∃a,l=[a]:=by
 obtain⟨a,r,rfl,h1⟩:=gZ h;rw[JS h1];exact⟨a,rfl⟩
theorem len2(h:l.length=2):∃a b,l=[a,b]:=by
 obtain⟨a,r,rfl,h1⟩:=gZ h;obtain⟨b,rfl⟩:=len1 h1;exact⟨a,b,rfl⟩
theorem len3(h:l.length=3):∃a b c,l=[a,b,c]:=by
 obtain⟨a,r,rfl,h1⟩:=gZ h;obtain⟨b,c,rfl⟩:=len2 h1;exact⟨a,b,c,rfl⟩
theorem len4(h:l.length=4):∃a b c d,l=[a,b,c,d]:=by
 obtain⟨a,r,rfl,h1⟩:=gZ h;obtain⟨b,c,d,rfl⟩:=len3 h1;exact⟨a,b,c,d,rfl⟩
theorem FdK.fd1{K:Zf}{x1:Str}{st:Stmt}{h:Heap}{mg:Str->Zd}(q:FdK K x st)(X:K.In h)(G:h.Ns mainGlobals mg)
  (b:∀(kV doc pm:Value) (an:Option Addr) (cdv ct u1:Value),bindArgs (PySem.W.fnOf x x (bM st) (aU st) (ak st) .none kV doc pm an cdv ct) ⟨[u1],[]⟩=pure [(x1,u1)]):Fd K mg x st [x1] :=
 q.fd X G λkV doc pm an cdv ct us hl=>by
  obtain⟨u1,rfl⟩:=len1 hl;exact b kV doc pm an cdv ct u1
theorem FdK.fd2{K:Zf}{x2:Str}{st:Stmt}{h:Heap}{mg:Str->Zd}(q:FdK K x st)(X:K.In h)(G:h.Ns mainGlobals mg)
  (b:∀(kV doc pm:Value) (an:Option Addr) (cdv ct u1 u2:Value),bindArgs (PySem.W.fnOf x x (bM st) (aU st) (ak st) .none kV doc pm an cdv ct) ⟨[u1,u2],[]⟩=pure [(x1,u1),(x2,u2)]):Fd K mg x st [x1,x2] :=
 q.fd X G λkV doc pm an cdv ct us hl=>by
  obtain⟨u1,u2,rfl⟩:=len2 hl;exact b kV doc pm an cdv ct u1 u2
theorem FdK.fd3{K:Zf}{x3:Str}{st:Stmt}{h:Heap}{mg:Str->Zd}(q:FdK K x st)(X:K.In h)(G:h.Ns mainGlobals mg)
  (b:∀(kV doc pm:Value) (an:Option Addr) (cdv ct u1 u2 u3:Value),bindArgs (PySem.W.fnOf x x (bM st) (aU st) (ak st) .none kV doc pm an cdv ct) ⟨[u1,u2,u3],[]⟩=pure [(x1,u1),(x2,u2),(x3,u3)]):Fd K mg x st [x1,x2,x3] :=
 q.fd X G λkV doc pm an cdv ct us hl=>by
  obtain⟨u1,u2,u3,rfl⟩:=len3 hl;exact b kV doc pm an cdv ct u1 u2 u3
theorem FdK.fd4{K:Zf}{x4:Str}{st:Stmt}{h:Heap}{mg:Str->Zd}(q:FdK K x st)(X:K.In h)(G:h.Ns mainGlobals mg)
  (b:∀(kV doc pm:Value) (an:Option Addr) (cdv ct u1 u2 u3 u4:Value),bindArgs (PySem.W.fnOf x x (bM st) (aU st) (ak st) .none kV doc pm an cdv ct) ⟨[u1,u2,u3,u4],[]⟩=pure [(x1,u1),(x2,u2),(x3,u3),(x4,u4)]):Fd K mg x st [x1,x2,x3,x4] :=
 q.fd X G λkV doc pm an cdv ct us hl=>by
  obtain⟨u1,u2,u3,u4,rfl⟩:=len4 hl;exact b kV doc pm an cdv ct u1 u2 u3 u4
theorem rm(h:cI k A)(e:j<=k:=by decide):cI j A:=h.mono e
section
def fAny:Zi->(D->Prop)->Prop
 | [.lst ds],R=>∃bs:List Bool,ds=bs.map D.bl/\R (.bl (bs.any id))
 | _,_=>False
theorem wy:fAny [.lst ds] R=(∃bs:List Bool,ds=bs.map D.bl/\R (.bl (bs.any id))):=rfl
def fAll:Zi->(D->Prop)->Prop
 | [.lst ds],R=>∃bs:List Bool,ds=bs.map D.bl/\R (.bl (bs.all id))
 | _,_=>False
theorem B9:∀ {d0:Zi} {R:D->Prop},fAll d0 R->∃(ds:Zi),d0=[.lst ds]/\∃bs:List Bool,ds=bs.map D.bl/\R (.bl (bs.all id)):=by walk_at "or"
theorem wC:fAll [.lst ds] R=(∃bs:List Bool,ds=bs.map D.bl/\R (.bl (bs.all id))):=rfl
theorem pZ{K:Zf}{M:Addr->Prop}{H:Hp}:∀ {ns:List Bool} {vs:Zg},Reps K M H (ns.map D.bl) vs->vs=ns.map V.bl
 | [],_,h=>h
 | n::ns,_,h=>by
  obtain⟨v,r,rfl,q,t⟩:=h;have q:v=.bl n:=q;rw[q,pZ t];rfl
theorem zA:∀ {ns:List Bool} {us:Zc},bg (ns.map V.bl) us->us.length=ns.length/\∀(i:Nat) (v:Value),us[i]?=some v->∃b,ns[i]?=some b/\v=.bool b
 | [],_,r=>by rw[Kf] at r;cases r;exact⟨rfl,λi v e=>by simp at e⟩
 | n::ns,_,r=>by
  rw[Im] at r
  cases r with
  | @cons _ u _ us h t =>
   have e:u=Value.bool n:=h
   subst e;obtain⟨h1,h2⟩:=zA t;refine⟨by rw[HJ,HJ,h1],λi v e=>?_⟩
   cases i with
   | zero=>cases e;exact⟨n,rfl,rfl⟩
   | succ i=>exact h2 i v e
theorem Ft(hc:X.calm=true):bR X (.builtin "all") (aT X.K fAll):=by
 intro pins s σ H xs us Q I rv h;obtain⟨M,ds,R,m,rs,h,k⟩:=h;replace h:=B9 h;obtain⟨_,rfl,h⟩:=h;obtain⟨bs,rfl,h⟩:=h;obtain⟨x,rfl,q⟩:=aY rs;unfold G3 at q;obtain⟨a,vs,rfl,_,e,r⟩:=q;obtain⟨u,rfl,ru⟩:=eW rv
 cases ru
 cases pZ r
 obtain⟨aa,ab,pl,_⟩:=I.list (G4.of e);obtain⟨hl,hg⟩:=zA ab;have il:=pl.isList;have lt:a<s.heap.objs.size:=by obtain⟨_,e,_⟩:=il;exact HN e
 refine call_all_walk (J4 il ⟨_,[_,a],_,_,_,_,λi=>(bs[i]?).getD true,rfl,Walks.list (A:=Around.in1 _) (I.ok.hd hc) _ a (Iq lt) aa.toArray,⟨⟨_,HX _ rfl,rfl,rfl⟩,il.push _⟩,λi v s' Q' E' hP hQ=>?_,λh' tk hk=>?_⟩)
 ·obtain⟨b,e,rfl⟩:=hg i v (by simpa using hP);have hQ:Q' ((bs[i]?).getD true) s':=hQ;rw[e] at hQ;exact Jw hQ
 ·refine⟨.bl (bs.all id),H,I.kept (t':=tk) (LSm.kept_iter hk),?_,k _ h _ H (bE.refl H) (G3.sc rfl)⟩;show Value.bool _=Value.bool _;rw[Ia,hl,LSm.range_all]
end
theorem Ct:bootBuiltins "all"=some (.builtin "all"):=by decide +kernel
section
end
section
end
section
end
section
end
open PySem PySem.Spec PySem.W PyProof.Rows L2
section
end
section
end
section
end
section
end
end DL
namespace HT
open PySem PyProof.Rows
open PySem.SeqAt
open PySem.AutoSeq1 (wpAny_loadPart')
open PySem.MeetsSeq PySem.MeetsSeq2 PySem.MeetsSeq3
section
theorem getItem_tuple_all{prog:Program}{w:World}{A:Around}{E:Value->Shared->Prop}{s:Shared}{t sl:Addr}{items:Array Value}{vl vu:Value}{lo hi:Option Int}{Q:Value->Shared->Prop}(ht:IsTup s.heap t items)(hs:s.heap.IsSliceOf sl vl vu .none)(pl:IsPart vl lo)(pu:IsPart vu hi)
  (hw:sIx items.size 0 lo=0/\sIx items.size items.size hi=items.size) (h:Q (.ref t) s):wpAny (model prog w) A (getItem (.ref t) (.ref sl)) Q E s:=by
 have hj:sIx items.size items.size hi<=items.size:=yu _ _ (HD _) hi
 obtain⟨os,ai,ah,aj⟩:=id hs;have ab:s.TypeIs (.ref sl) "slice":=⟨os,ai,ah⟩;unfold getItem
 try with_reducible refine Jb ?_
 first | refine Hw (HI ?_) | skip
 refine Hw (wpAny_sequenceKey ht.typeIs (by decide) ?_)
 refine Hw (Jh (name:=Str.ofString "__getitem__") ht.typeIs IR
  (JA IR ht.typeIs entry_tuple_getitem ?_ (args_tuple_getitem _ _)))
 show wpAny _ _ (Builtin.Tuple.tupleItemsOf (.ref t) >>= _) _ _ s
 refine Hw (tupleItemsOf_ ht ?_);refine Hw (wpAny_typeOf ab ?_);rw[HU (by decide)];refine Hw (dA hs pl pu ?_);have aa:(((sIx items.size 0 lo:Nat):Int)==0&&(1:Int)==1&&(sIx items.size items.size hi-sIx items.size 0 lo)==items.size)=true:=by
  rw[hw.1,hw.2];simp
 show wpAny _ _ (if (((sIx items.size 0 lo:Nat):Int)==0&&(1:Int)==1&&(sIx items.size items.size hi-sIx items.size 0 lo)==items.size)=true then _ else _) _ _ s
 rw[HU aa];refine Hw (Hw (wpAny_typeOf ht.typeIs (HI ?_)));rw[HU (by decide)];refine Hw (wpAny_rule ?_);exact HI ⟨_,rfl,HI h⟩
end
end HT
namespace DL
open PySem PySem.Spec PyProof.Rows L2
section
theorem Ay:SlR X (λx lo hi H Q=>∃a xs,x=.ref a/\Ho X.K H a xs/\(HT.sIx xs.length 0 lo=0/\HT.sIx xs.length xs.length hi=xs.length)/\Q x H):=by
 intro pins s σ H x v vl vu lo hi sl Q I rx hs pl pu h;obtain⟨a,xs,rfl,hx,hw,q⟩:=h
 cases rx
 obtain⟨ab,r,ht,hz⟩:=I.tuple hx;have aa:ab.toArray.size=xs.length:=by rw[Ia];exact r.length.symm
 refine⟨"tuple",_,IR.lookup,ht.typeIs,HT.getItem_tuple_all ht hs pl pu (by rw[aa];exact hw) ⟨.ref a,H,I,rfl,q⟩⟩
def fSlT:D->Option Int->Option Int->(D->Prop)->Prop
 | .tup xs,lo,hi,R=>R (.tup (cut xs lo hi))
 | _,_,_,_=>False
theorem Es:fSlT (.tup xs) l u R=R (.tup (cut xs l u)):=rfl
def dSlT(te:GX)(tl th:TDO)(δ:En)(R:W->En->Prop):Prop:=te δ (wd λx δ1=>tl δ1 λl δ2=>th δ2 λu δ3=>fSlT x l u λd=>R (.d d) δ3)
theorem Am(h:HT.sIx xs.length 0 l=0/\HT.sIx xs.length xs.length u=xs.length):cut xs l u=xs:=by
 unfold cut;rw[h.1,h.2,List.drop_zero,Nat.sub_zero,Ik]
theorem rH{X:Cx}{e:Expr}{te:GX}{lo hi:Option Expr}{tl th:TDO}{p2 pos:Pos}(he:DE X e te)(hl:DO X lo tl)(hu:DO X hi th):DE X (.Subscript e (.Slice lo hi none p2) pos) (dSlT te tl th) :=
 PE.imp (qi (Ay.or zy) he hl hu) λσ H Q ⟨G,δ,P,R,s,h,k,_⟩=>up.mk s h λx δ1 h1 v H1 s1=>⟨G,δ1,(x,v)::P,_,s1,h1,λl δ2 h2 H2 s2=>⟨G,δ2,(x,v)::P,_,s2,h2,λu δ3 h3 H3 s3=>by
  obtain⟨A,q⟩:=id s3;have r:=q.pnd (x,v) (by simp)
  cases x with
  | tup xs =>
   have h3:R (.d (.tup (cut xs l u))) δ3:=h3
   have rr:=r
   simp only[G3] at r;obtain⟨a,vs,e,sq,r⟩:=r
   by_cases w:HT.sIx xs.length 0 l=0/\HT.sIx xs.length xs.length u=xs.length
   ·rw[Am w] at h3;rw[Reps.length _ _ r] at w;exact .inl ⟨a,vs,e,sq,w,k _ δ3 h3 v _ s3⟩
   ·refine .inr ⟨a,vs,e,sq,by rw[<- Reps.length _ _ r];exact w,λp hp=>?_⟩;have x2:=(q.same (aF hp (.tup (sT vs l u))));refine k _ δ3 h3 (.ref p) _ ⟨A,(x2.sub (P':=P) λp hp=>Hx _ hp).push ?_⟩;unfold G3;exact⟨p,_,rfl,Ho.of av,Reps.kp (Kp.of_same (aF hp _)) _ _ (Reps.cut l u r)⟩
  | _=>exact(show False from h3).elim⟩⟩
end
section
end
section
end
section
end
section
end
section
end
end DL
namespace DL
open PySem PySem.Spec PyProof.Rows L2
structure C2(h:Heap)(C N R NR:Addr)(mN mR:Str->Zd):Prop where
 hC:∃nm q bs sn sub ab col dd k0 k1 k2 k3 k5,h.get? C=some (excClassObj nm q C N bs (.ref R::bmV) true sn sub ab col dd k0 k1 k2 k3 k5 "ValueError.__new__")
 hR:∃nm q bs sn sub ab col dd k0 k1 k2 k3 k5,h.get? R=some (excClassObj nm q R NR bs bmV true sn sub ab col dd k0 k1 k2 k3 k5 "ValueError.__new__")
 nN:h.Ns N mN
 nR:h.Ns NR mR
 ini:mR "__init__"=none
theorem C2.keep(c:C2 h C N R NR mN mR)(k:∀b o,h.get? b=some o->h'.get? b=some o):C2 h' C N R NR mN mR:=by
 obtain⟨⟨nm,q,bs,sn,sub,ab,ai,dd,k0,k1,k2,k3,k5,hC⟩,⟨aq,q',ao,aj,ah,al,aa,an,j0,j1,j2,j3,j5,hR⟩,nN,nR,i⟩:=c;exact⟨⟨nm,q,bs,sn,sub,ab,ai,dd,k0,k1,k2,k3,k5,k _ _ hC⟩,⟨aq,q',ao,aj,ah,al,aa,an,j0,j1,j2,j3,j5,k _ _ hR⟩,nN.keeps k,nR.keeps k,i⟩
theorem C2.tail(c:C2 h C N R NR mN mR):OwnTail h bmV (.ref R::bmV):=by
 obtain⟨_,⟨an,q',aj,ah,ab,ai,aa,al,j0,j1,j2,j3,j5,hR⟩,nN,nR,i⟩:=c;exact .own hR nR i .base
section
theorem EZ{A:Around}{E:Value->Shared->Prop}{h:Heap}{g:Array GenState}{d:Drawn}{t:Nat}{os:OsState}{C N R NR:Addr}{mN mR:Str->Zd}{M:Model}{name:Str}{y:Zd}{Q:Zd->Shared->Prop}(c:C2 h C N R NR mN mR)(hB:typeLookup (.type "ValueError") name=pure y)
  (hq:Q (match mN name with | some v=>some v | none=>match mR name with | some v=>some v | none=>y) ⟨h,g,d,t,os⟩):wpAny M A (typeLookup (.ref C) name) Q E ⟨h,g,d,t,os⟩:=by
 obtain⟨⟨nm,q,bs,sn,sub,ab,aj,dd,k0,k1,k2,k3,k5,hC⟩,⟨as,q',aq,al,ai,an,ah,ao,j0,j1,j2,j3,j5,hR⟩,nN,nR,i⟩:=c;have aa:lookupAlong bmV name=pure y:=by rw[typeLookup_eq,PySem.F.excBase_ValueError.mroIs] at hB;exact hB
 rw[typeLookup_eq];refine Hw (wpAny_mroOf_exc hC ?_);rw[lookupAlong_cons];refine Hw (wpAny_classOwn_exc hC nN ?_)
 cases hv:mN name with
 | some v=>rw[hv] at hq;exact HI hq
 | none =>
  rw[hv] at hq;show wpAny _ _ (lookupAlong (.ref R::bmV) name) _ _ _;rw[lookupAlong_cons];refine Hw (wpAny_classOwn_cls hR nR ?_)
  cases hu:mR name with
  | some v=>rw[hu] at hq;exact HI hq
  | none =>
   rw[hu] at hq;show wpAny _ _ (lookupAlong bmV name) _ _ _;rw[aa];exact HI hq
set_option maxHeartbeats 2000000 in
theorem Fz{prog:Program}{w:World}{A:Around}{E:Value->Shared->Prop}{h:Heap}{g:Array GenState}{d:Drawn}{t:Nat}{os:OsState}{C N R NR:Addr}{mN mR:Str->Zd}{bS:Zc}{fI:Addr}{oI:Obj}{Q:Value->Shared->Prop}(c:C2 h C N R NR mN mR)(hi:mN "__init__"=some (.ref fI))(hfI:h.get? fI=some oI)(hfc:oI.cls=.type "function")
  (hq:∀h' e,h.objs.size<=e->Heap.MadeExcOf h h' e (.ref C) bS->wpAny (model prog w) (A.under (.builtin "type.__call__" ⟨.ref C::bS,[]⟩)) (call (.ref fI) (.ref e::bS)) (λr s'=>r=.none/\Q (.ref e) s') E ⟨h',g,d,t,os⟩) (hrest:bS.length<=sizeLine) :
  wpAny (model prog w) A (call (.ref C) bS) Q E ⟨h,g,d,t,os⟩:=by
 obtain⟨nm,q,bs,sn,sub,ab,al,dd,k0,k1,k2,k3,k5,hC⟩:=c.hC;have F:=PySem.F.excBase_ValueError;have T:=c.tail;have f1:=tc_lookup;have f2:=tc_bind (.ref C);have hT:(⟨h,g,d,t,os⟩:Shared).TypeIs (.ref C) "type":=⟨_,hC,rfl⟩;refine wpAny_call (codeAny_of_tree ?_);show wpAny _ _ (callAny (.ref C) ⟨bS,[]⟩) _ _ _
 repeat (any_goals (first | assumption | with_reducible refine IW hC ?_ | wp_step))
 refine⟨rfl,codeAny_call_builtin_at (Code.quiet_builtin _ (by decide +kernel)) entry_typeCall (wpAny_check_type_call_sub hC ?_)⟩
 repeat (first | with_reducible refine IW hC ?_ | with_reducible refine wpAny_madeBy_exc hC ?_ | wp_step)
 refine codeAny_call_builtin_code (Code.quiet_builtin _ F.quiet) (wpAny_check_new_subT F T hC (codeAny_exc_new_subT F T hC ?_ hrest));show wpAny _ _ _ _ _ _;have ah:∀b o,h.get? b=some o->((h.push { cls:=.type "tuple",data:=.seq bS.toArray }).push { cls:=.ref C,data:=.fields #[.ref h.objs.size,.none,.none,.none,.bool false,.none] }).get? b=some o:=λb o e=>Hy _ (Hy _ e);have c1:=c.keep ah;have aj:=ah _ _ hC;have ai:=ah _ _ hfI;have aa:((h.push { cls:=.type "tuple",data:=.seq bS.toArray }).push { cls:=.ref C,data:=.fields #[.ref h.objs.size,.none,.none,.none,.bool false,.none] }).get? (h.objs.size+1)=some { cls:=.ref C,data:=.fields #[.ref h.objs.size,.none,.none,.none,.bool false,.none] }:=by heap_get
 unfold isInstance
 repeat (first | with_reducible refine IW aa ?_ | wp_step)
 show wpAny _ _ (isSubtype (.ref C) (.ref C)) _ _ _
 refine JQ aj ?_;rw[show (Value.ref C::(Value.ref R::bmV)).contains (.ref C)=true by simp]
 repeat (first | with_reducible refine IW aa ?_ | wp_step)
 show wpAny _ _ (typeLookup (.ref C) _) _ _ _
 refine EZ c1 F.init.lookup ?_;rw[hi];refine Jb (Hw ?_);unfold bindSpecial;refine Hw (wpAny_typeOf (T:="function") ⟨_,ai,hfc⟩ ?_);rw[HU (by decide)];refine HI (Hw (IU (hq _ (h.objs.size+1) (Nat.le_succ _) ⟨ah,KD (Nat.le_succ _),h.objs.size,aa,KD (HD _),?_⟩) (λr s' hr=>?_) λ_ _ x=>x))
 ·exact Hy _ (Heap.get?_push_at rfl rfl)
 ·obtain⟨rfl,hQ⟩:=hr
  wp_walk
  exact hQ
theorem FB{prog:Program}{w:World}{A:Around}{E:Value->Shared->Prop}{h:Heap}{g:Array GenState}{d:Drawn}{t:Nat}{os:OsState}{C N R NR:Addr}{mN mR:Str->Zd}{e:Addr}{bS:Zc}{a0:Value}{Q:Value->Shared->Prop}(c:C2 h C N R NR mN mR)(he:h.get? e=some (GZ C none a0 .none))
  (hq:∀h' a,h'.get? e=some (GZ C none a .none)->(∀b o,b≠e->h.get? b=some o->h'.get? b=some o)->Q .none ⟨h',g,d,t,os⟩) (hrest:bS.length<=sizeLine) :
  wpAny (model prog w) A (call (.builtin "ValueError.__init__") (.ref e::bS)) Q E ⟨h,g,d,t,os⟩:=by
 obtain⟨nm,q,bs,sn,sub,ab,aj,dd,k0,k1,k2,k3,k5,hC⟩:=c.hC;have F:=PySem.F.excBase_ValueError;refine wpAny_call (KH F.init.plain F.initEntry (wpAny_check_init_subT F c.tail hC he rfl ?_))
 wp_walk
 have aa:((h.push { cls:=.type "tuple",data:=.seq bS.toArray }).update e (Obj.mapFields λx=>x.setIfInBounds 0 (Value.ref h.objs.size))).get? e=some (GZ C none (.ref h.objs.size) .none):=II (Obj.mapFields λx=>x.setIfInBounds 0 (Value.ref h.objs.size)) (Hy _ he) rfl
 have ah:=hq _ (.ref h.objs.size) aa λb o hb ho=>by
  rw[Iw _ _ (Jr hb)];exact Hy _ ho
 have ai:∀ {Q':Unit->Shared->Prop} {E':Value->Shared->Prop} {s':Shared},Q' () s'->wpAny (model prog w) A.in1 (match #[a0,Value.none,Value.none,Value.none,Value.bool false,Value.none][0] with | Value.ref a=>letGo [#[a0,Value.none,Value.none,Value.none,Value.bool false,Value.none][0]] | x=>pure ()) Q' E' s':=λ{Q' E' s'} q=>by
  show wpAny _ _ (match a0 with | Value.ref a=>letGo [a0] | x=>pure ()) _ _ _
  cases a0<;>first | exact wpAny_letGo q | exact HI q
 refine ai ?_
 wp_walk
 exact ah
end
section
open Builtin Builtin.ObjectAttr in
theorem Ed{prog:Program}{w:World}{A:Around}{E:Value->Shared->Prop}{h:Heap}{g:Array GenState}{d:Drawn}{t:Nat}{os:OsState}{C N R NR:Addr}{mN mR:Str->Zd}{e:Addr}{name:Str}{a v:Value}{Q:Unit->Shared->Prop}{sa owner:String}(SF:StoreFacts "ValueError" bmV sa owner)(c:C2 h C N R NR mN mR)(n1:mN "__setattr__"=none)(n2:mR "__setattr__"=none)(n3:mN name=none)(n4:mR name=none)
  (hB:typeLookup (.type "ValueError") name=pure none) (he:h.get? e=some (GZ C none a .none))
  (hq:∀h' tk' dx,h.objs.size<=dx->h'.get? e=some (GZ C (some dx) a .none)->h'.Ns1 dx (λy=>if y=name then some v else none)->(∀b o,b≠e->h.get? b=some o->h'.get? b=some o)->Q () ⟨h',g,d,tk',os⟩) :
  wpAny (model prog w) A (setAttr (.ref e) name v) Q E ⟨h,g,d,t,os⟩:=by
 obtain⟨nm,q,bs,sn,sub,ab,bi,dd,k0,k1,k2,k3,k5,hC⟩:=c.hC;have f3:=SF.slot.bind (.ref e);have aa:=SF.passes (.ref e);have ha:∀tk,argsOk sa ⟨[.ref e,.str name tk,v],[]⟩:=λtk=>SF.args (.ref e) (.str name tk) v;have bc:(Value.ref C::(Value.ref R::bmV)).contains (.type owner)=true:=by rw[JX,JX,SF.hasOwner,KR,KR]
 have lk:∀ {M:Model} {A':Around} {E':Value->Shared->Prop} {tk:Nat} {Q':Zd->Shared->Prop} {nme:Str} {y:Zd},mN nme=none->mR nme=none->typeLookup (.type "ValueError") nme=pure y->Q' y ⟨h,g,d,tk,os⟩->wpAny M A' (typeLookup (.ref C) nme) Q' E' ⟨h,g,d,tk,os⟩:=λa1 a2 a3 q'=>EZ c a3 (by rw[a1,a2];exact q')
 unfold setAttr callSpecial? specialOf
 repeat (any_goals (first | assumption | (with_reducible refine IW he ?_) | (with_reducible refine lk n1 n2 SF.slot.lookup ?_) | wp_step))
 refine KH SF.slot.plain SF.entry ?_;simp only[checkBuiltinCall,SF.kind,SF.split];show wpAny _ _ _ _ _ _;refine Hw ?_;unfold isInstance
 repeat (first | (with_reducible refine IW he ?_) | (with_reducible refine JQ hC ?_;rw[bc]) | wp_step)
 have body:∀ {Q':Fin->Shared->Prop} {E':Value->Shared->Prop} {tk:Nat} {A':Around},(∀h' tk' dx,h.objs.size<=dx->h'.get? e=some (GZ C (some dx) a .none)->h'.Ns1 dx (λy=>if y=name then some v else none)->(∀b o,b≠e->h.get? b=some o->h'.get? b=some o)->Q' (.done (.ret .none)) ⟨h',g,d,tk',os⟩) ->
   wpAny (model prog w) A' (Builtin.«object.__setattr__» ⟨[.ref e,.str name t,v],[]⟩) Q' E' ⟨h,g,d,tk,os⟩:=λ{Q' E' tk A'} hq=>by
  have ah:e≠h.objs.size:=Iq (HN he)
  have aj:∀h' tk',h'.get? e=some (GZ C (some h.objs.size) a .none)->h'.Ns1 h.objs.size (λy=>if y=name then some v else none)->(∀b o,b≠e->h.get? b=some o->h'.get? b=some o)->Q' (.done (.ret .none)) ⟨h',g,d,tk',os⟩:=λh' tk' a1 a2 a3=>hq h' tk' _ (HD _) a1 a2 a3
  clear hq;generalize hO:GZ C none a .none=o at he;have hc:o.cls=.ref C:=by rw[<- hO]
  have ao:o.dict=none:=by rw[<- hO]
  have aq:∀c,o.data≠.cls c:=λc z=>by rw[<- hO] at z;cases z
  have az:({ cls:=o.cls,dict:=some h.objs.size,data:=o.data,slots:=o.slots }:Obj)=GZ C (some h.objs.size) a .none:=by rw[<- hO]
  unfold Builtin.«object.__setattr__»
  repeat (first | rw[refuse_eq] | (rw[refuseLoop_ref,refuseLoop_ref,aa]) | (with_reducible refine IW he ?_;rw[hc]) | with_reducible refine wpAny_mroOf_exc hC ?_ | (with_reducible refine lk n3 n4 hB ?_) | wp_step)
  rw[ao,HQ (by simp[typeHasDict])]
  split
  ·rename_i hcd
   cases hcd
  split
  ·rename_i c hcd
   exact absurd hcd (aq c)
  have ai:(h.push { cls:=.type "dict",data:=.dict #[] }).get? e=some o:=Hy _ he
  refine Hw (wpAny_alloc' ?_);refine Hw (wpAny_update' ai ?_);refine HI ?_;have bb:((h.push { cls:=.type "dict",data:=.dict #[] }).update e λo=>{ cls:=o.cls,dict:=some h.objs.size,data:=o.data,slots:=o.slots }).get? h.objs.size=some { cls:=.type "dict",data:=.dict #[] } :=
   (Heap.get?_update_ne _ _ _ _ ah.symm).trans (Heap.get?_push_at rfl rfl)
  have bd:((h.push { cls:=.type "dict",data:=.dict #[] }).update e λo=>{ cls:=o.cls,dict:=some h.objs.size,data:=o.data,slots:=o.slots }).Ns h.objs.size (λ_=>none) :=
   ⟨_,#[],_,bb,rfl,λe he=>absurd he (by simp),λ_=>rfl⟩
  show wpAny _ _ (storeInDict h.objs.size (.str name t) name v) _ _ _
  unfold storeInDict newKeyGuard;refine Hw (HI (Hw (wpAny_nsSet1 (Heap.Ns1.of_empty bd) λh' hn' hs=>?_)));obtain⟨oD,bj,be,an,as,ba⟩:=hn'.count (Within.cons name v Within.nil);refine Hw (wpAny_lookBehind an (by rw[as];exact pastItsLine_dict (Hz ba (by rw[HJ,List.length_nil,sizeLine_eq];omega))) ?_)
  wp_walk
  refine aj h' _ ?_ hn' λb ob hbx hb=>?_
  ·rw[<- az];refine(hs.2 e ah).trans (II _ ai ?_);rw[<- hO];rfl
  ·exact(hs.2 b (Iq (HN hb))).trans ((Heap.get?_update_ne _ _ _ _ hbx).trans (Hy _ hb))
 have al:∀ {Q':Unit->Shared->Prop} {E':Value->Shared->Prop} {s':Shared} {A':Around},Q' () s'->wpAny (model prog w) A' (match Manifest.signature? sa with | some sig=>Bind.checkArgs sa sig ⟨[.ref e,.str name t,v],[]⟩ | _=>pure ()) Q' E' s':=λ{Q' E' s' A'} q'=>by
  have ha:=ha t
  cases hsig:Manifest.signature? sa with
  | none=>exact HI q'
  | some sig =>
   simp only[argsOk,hsig] at ha;have h2:Bind.checkArgs sa sig ⟨[.ref e,.str name t,v],[]⟩=pure ():=ha;show wpAny _ _ (Bind.checkArgs sa sig ⟨[.ref e,.str name t,v],[]⟩) _ _ _;rw[h2];exact HI q'
 refine al (body λh' tk' dx a0 a1 a2 a3=>?_);exact HI (HI (hq h' tk' dx a0 a1 a2 a3))
end
def nq(e C:Addr):HO:=.ext λh=>∃a,h.get? e=some (GZ C none a .none)
structure EK(K:Zf)(C R:Addr)(fld:Str):Prop where
 ex:∃N NR mN mR,(∀h,K.In h->C2 h C N R NR mN mR)/\mN "__setattr__"=none/\mR "__setattr__"=none/\mN fld=none/\mR fld=none
 fb:typeLookup (.type "ValueError") fld=pure none
structure RK(K:Zf)(R:Addr):Prop where
 sp:PySem.W.specialIn K (.ref R) "__getattribute__"=some (some (.builtin "type.__getattribute__"))
 rd:∃mc,PySem.W.readsIn K R mc=true/\PySem.W.findCls K (.ref R) mc "__init__"=some (.val (.builtin "ValueError.__init__"))
section
variable {X:Cx} {pins:List (Addr×Obj)} {σ:L2.St} {H:Hp} {s:Shared} {C R e:Addr} {fld:Str}
theorem Dd(h:H e=some o):G6 H e o=H:=funext λb=>by
 by_cases z:b=e
 ·rw[z,av,h]
 ·rw[aG z]
theorem vG(I:L2.Inv X pins σ H s)(h:H e=some (nq e C)):∃a,s.heap.get? e=some (GZ C none a .none):=(I.hok e _ h).1
theorem uL(g:h'.get? e=some (GZ C none a .none)):bA P w H h' e (nq e C) :=
 ⟨⟨a,g⟩,⟨_,g⟩,λh1 h2 p k=>by obtain⟨a,p⟩:=p;exact⟨a,k _ p⟩⟩
theorem B6(g:h'.get? e=some (GZ C (some dx) a .none)):bA P w H h' e (tF e C dx) :=
 ⟨⟨a,g⟩,⟨_,g⟩,λh1 h2 p k=>by obtain⟨a,p⟩:=p;exact⟨a,k _ p⟩⟩
def Al(C:Addr)(t:TA):TE:=λσ H Q=>t σ H λvs H1=>∃e y,vs=[.ref e,y]/\H1 e=some (nq e C)/\Q .non H1
theorem oW(rk:RK X.K R)(ek:EK X.K C R fld)(hg:Gl X xR)(hm:X.mg xR=some (.ref R))(ha:PA X [a1,a2] t)(hdb:(xR==("__debug__":Str))=false:=by decide)
    (hst:starEach [a1,a2] X.env=(false,eval a1 X.env)::starEach [a2] X.env:=by rfl) (hpl:(backTo pos (starEach [a2] X.env)).any (·.1)=false:=by rfl)
    (ht:eval (.Call (.Attribute (.Name xR pR) "__init__" apos) [a1,a2] [] pos) X.env=(do
      let ov<-eval (.Name xR pR) X.env
      standAt apos.atName
      let (f,first)<-holding [ov] (getMethod ov "__init__" pl)
      callWith pos f first (backTo pos (starEach [a1,a2] X.env)) (backToKw pos (keywordEach [] X.env))):=by rfl) :
    PE X (.Call (.Attribute (.Name xR pR) "__init__" apos) [a1,a2] [] pos) (Al C t):=by
  intro pins s σ H Q I h;obtain⟨mc,ab,aa⟩:=rk.rd;refine PySem.W.methodCall_KW (pl:=pl) (io I hg hm ?_ hdb) ht;refine PySem.W.method_cls I.kIn rk.sp (PySem.W.cls_value I.kIn ab aa (by rfl) ?_);have I1:=I.tok (s.toks+1);have hA:=ha pos pins _ σ H _ I1 h;rw[hst] at hA;show wpAny _ _ (callWith pos (.builtin "ValueError.__init__") [] (backTo pos (starEach [a1,a2] X.env)) (backToKw pos (keywordEach [] X.env))) _ _ _;rw[hst];refine JU (by show (false||(backTo pos (starEach [a2] X.env)).any (·.1))=false;rw[hpl]<;>rfl) (KF ?_)
  refine Ha hA λus s2 hs2=>?_;obtain⟨vs,H2,I2,r2,e,y,rfl,hX,q2⟩:=hs2
  cases r2 with
  | cons r0 r2 =>
    cases r2 with
    | cons r1 r2 =>
      cases r2
      cases r0
      obtain⟨N,NR,mN,mR,c2,_⟩:=ek.ex;obtain⟨a,he⟩:=vG I2 hX;obtain⟨hh,g,d,tk,os⟩:=s2;refine FB (c2 _ I2.kIn) he (λh' a' g1 g2=>?_) (by show 1<=sizeLine;decide);have I3:=I2.write (t':=tk) (x:=e) (e:=e) (o:=nq e C) (h':=h') (by rw[hX];trivial) (.inl rfl) g2 ⟨_,g1⟩ (uL g1);rw[Dd hX] at I3;exact⟨.non,H2,I3,rfl,q2⟩
end
end DL
namespace DL
open PySem PySem.Spec PyProof.Rows L2
structure Lft(fs:List Addr)(h h':Heap)(e:Addr)(t:Value)(C:Addr)(dx:Option Addr)(a:Value)(T:Addr):Prop where
 ex:h'.get? e=some (GZ C dx a (.ref T))
 tb:xB h' e (.ref T)
 new:h.objs.size<=T
 keep:∀b o,h.get? b=some o->b≠e->t≠.ref b->b∉fs->h'.get? b=some o
 slot:∀b o,h.get? b=some o->b≠e->t≠.ref b->∃sl,h'.get? b=some { o with slots:=sl }
 there:∀b o,h.get? b=some o->∃o',h'.get? b=some o'
section
theorem entry(hfr:A.frames=some (env::outer))(hl:s.heap.FunFrames base (env::outer))(hf:env.frame=some L)(he:s.heap.get? e=some (GZ C dx a t))
  (h:∀h' T,h'.get? e=some (GZ C dx a (.ref T))->xB h' e (.ref T)->s.heap.objs.size<=T->(∀b o,s.heap.get? b=some o->b≠e->b∉frs (env::outer)->h'.get? b=some o)->(∀b o,s.heap.get? b=some o->b≠e->∃sl,h'.get? b=some { o with slots:=sl })->Q () { s with heap:=h' }) :
  wpAny M A (do let a<-frameOf env;let pl<-entryPlaceOf L had;let b<-EntryCells.newEntry head a .none (rawInt L) .none pl;setField (.ref e) 1 b) (λ_ s'=>wpAny M A (setFlight (.ref e) none) Q E s') E s:=by
 have an:e∉(env::outer).filterMap (·.frame):=λhm=>by
  obtain⟨_,o,ho,ao⟩:=hl.mem hm;rw[he] at ho;injection ho with ho;subst ho;exact ao _ rfl
 refine Hw (wpAny_frameOf_fun hfr hl hf λh₁ hs₁=>?_);refine Hw (wpAny_entryPlaceOf λpl hpl=>?_);unfold EntryCells.newEntry newFields;refine Hw (Je ?_ (hpl.sizeOk5 _ _ _ _ _));have ah:h₁.get? e=some (GZ C dx a t):=(hs₁.2.1 e an).trans he;generalize hO:({ cls:=.type "traceback",dict:=none,data:=.fields ([head,.ref L,.none,rawInt L,.none]++(if pl.isEmpty then List.replicate 6 Value.none else pl)).toArray }:Obj)=O;have ab:O.data=.fields ([head,.ref L,.none,rawInt L,.none]++(if pl.isEmpty then List.replicate 6 Value.none else pl)).toArray:=by rw[<- hO]
 have aq:O.isFreed=false:=by rw[<- hO];rfl
 have aj:=Hy (h:=h₁) O ah
 refine Ju aj rfl (by simp) ?_;have aa:h₁.objs.size≠e:=JC (HN ah);have al:((h₁.push O).update e (Obj.mapFields (·.setIfInBounds 1 (Value.ref h₁.objs.size)))).get? e=some (GZ C dx a (.ref h₁.objs.size)):=II (Obj.mapFields (·.setIfInBounds 1 (Value.ref h₁.objs.size))) aj rfl;have ai:((h₁.push O).update e (Obj.mapFields (·.setIfInBounds 1 (Value.ref h₁.objs.size)))).get? h₁.objs.size=some O:=(Iw _ _ (Jr aa)).trans (HX h₁ aq);unfold setFlight;refine Hw (IB al rfl (x:=.ref h₁.objs.size) rfl ?_);rw[HU (show (Value.ref h₁.objs.size != Value.none)=true from by simp)];have hsz:3<([head,.ref L,.none,rawInt L,.none]++(if pl.isEmpty then List.replicate 6 Value.none else pl)).toArray.size:=by simp only[List.size_toArray,List.length_append,List.length_cons,List.length_nil]<;>omega
 have as:∀b o,h₁.get? b=some o->h₁.objs.size≠b:=λb o hb=>JC (HN hb)
 have keep:∀b o,b≠e->h₁.get? b=some o->(((h₁.push O).update e (Obj.mapFields (·.setIfInBounds 1 (Value.ref h₁.objs.size)))).update h₁.objs.size (Obj.mapFields (·.setIfInBounds 3 ((none:Option Addr).elim Value.none λf=>rawInt f)))).get? b=some o:=λb o hbe hb=>by
  rw[Iw _ _ (as b o hb),Iw _ _ (Jr hbe)];exact Hy _ hb
 refine Ju ai ab hsz (h _ h₁.objs.size ?_ ?_ ?_ (λb o hb hbe hbf=>keep b o hbe ((hs₁.2.1 b hbf).trans hb)) λb o hb hbe=>?_)
 ·rw[Iw _ _ aa];exact al
 ·exact .inr ⟨_,_,_,rfl,aa,II _ ai (Jn (IY ab _)),IY ab _,by simp[hsz]⟩
 ·rw[hs₁.1];exact HD _
 ·obtain⟨sl,hs⟩:=hs₁.2.2 b o hb;exact⟨sl,keep b _ hbe hs⟩
theorem note(hfr:A.frames=some (env::outer))(hl:s.heap.FunFrames base (env::outer))(hf:env.frame=some L)(he:s.heap.get? e=some (GZ C dx a t))(ht:xB s.heap e t)
  (h:∀h' T,Lft (frs (env::outer)) s.heap h' e t C dx a T->Q () { s with heap:=h' }) :
  wpAny M A (noteFrame (.ref e) env) (λ_ s'=>wpAny M A (setFlight (.ref e) none) Q E s') E s:=by
 unfold noteFrame;simp only[hf];refine Hw (IB he rfl (x:=t) rfl ?_)
 rcases ht with rfl | ⟨T,oT,ts,rfl,hTe,hT,hdT,h3⟩
 ·rw[HQ (by decide)];refine entry hfr hl hf he λh' T h1 h2 h3 h4 h5=>h h' T ⟨h1,h2,h3,λb o hb hbe _=>h4 b o hb hbe,λb o hb hbe _=>h5 b o hb hbe,λb o hb=>?_⟩
  by_cases z:b=e
  ·exact⟨_,by rw[z];exact h1⟩
  ·obtain⟨sl,q⟩:=h5 b o hb z;exact⟨_,q⟩
 ·rw[HU (show (Value.ref T != Value.none)=true from by simp)];refine Hw (IB hT hdT h3 ?_);rw[HQ (show ¬ ((Value.none==rawInt L)=true) from by simp[rawInt])];refine Hw (Ju hT hdT (Jj.mp h3).1 ?_);have aa:∀b,b≠T->(s.heap.update T (Obj.mapFields (·.setIfInBounds 3 Value.none))).get? b=s.heap.get? b:=λb hb=>Iw _ _ (Jr hb);have ab:∀b o,s.heap.get? b=some o->(∀vs,o.data≠.fields vs)->b≠T:=λb o hb hnf q=>by
   rw[q,hT] at hb;injection hb with hb;subst hb;exact hnf ts hdT
  have ah:=II (Obj.mapFields (·.setIfInBounds 3 Value.none)) hT (Jn (IY hdT _))
  refine entry (s:={ s with heap:=s.heap.update T (Obj.mapFields (·.setIfInBounds 3 Value.none)) }) hfr (hl.of_keeps λb o hb hnf=>⟨o,(aa b (ab b o hb hnf)).trans hb,rfl⟩) hf ((aa e (Jr hTe)).trans he)
   λh' T' h1 h2 h3 h4 h5=>h h' T' ⟨h1,h2,by rw[<- Heap.size_after_update];exact h3,λb o hb hbe hbt=>h4 b o ((aa b λz=>hbt (by rw[z])).trans hb) hbe,λb o hb hbe hbt=>h5 b o ((aa b λz=>hbt (by rw[z])).trans hb) hbe,λb o hb=>?_⟩
  by_cases z:b=e
  ·exact⟨_,by rw[z];exact h1⟩
  ·by_cases z2:b=T
   ·subst z2;obtain⟨sl,q⟩:=h5 b _ ah z;exact⟨_,q⟩
   ·obtain⟨sl,q⟩:=h5 b o ((aa b z2).trans hb) z;exact⟨_,q⟩
theorem Gq(hfr:A.frames=some (env::outer))(hl:s.heap.FunFrames base (env::outer))(hf:env.frame=some L)(he:s.heap.get? e=some (GZ C dx a t))(ht:xB s.heap e t)
  (h:∀h' T,Lft (frs (env::outer)) s.heap h' e t C dx a T->Q () { s with heap:=h' }):wpAny M A (leaving env (.ref e)) Q E s:=by
 unfold leaving;exact Hw (note hfr hl hf he ht h)
end
inductive CXE(P:Program)(w:World)(outer:List Env)(H:Hp)(s:Shared)(E:XK)(v:Value)(s':Shared):Prop
 | mk (e C dx:Addr) (a t:Value) (H':Hp) (hv:v=.ref e) (os:s'.os=s.os) (bare:AllBare s'.gens) (un:Un (frs outer) [] H H' s.heap s'.heap) (hok:Hm P w H' s'.heap)
  (he:s'.heap.get? e=some (GZ C (some dx) a t)) (ht:xB s'.heap e t) (hT:∀T,t=.ref T->H' T=none/\s.heap.objs.size<=T) (hX:H' e=some (XAt e C dx)) (hE:E (.ref e) (some dx) H')
section
theorem Lft.hok(l:Lft fs h h' e t C (some dx) a T)(hok:Hm P w H' h)(hX:H' e=some (XAt e C dx))(hT:∀T,t=.ref T->H' T=none)(hfs:∀b∈fs,H' b=none):Hm P w H' h':=λb o q=>by
 have kp:∀c u v,H' c=some v->c≠e->h.get? c=some u->h'.get? c=some u:=λc u v hc hce hu=>l.keep c u hu hce (λz=>by rw[hT c z] at hc;cases hc) λz=>by rw[hfs c z] at hc;cases hc
 by_cases hb:b=e
 ·subst hb;rw[hX] at q
  cases q
  refine⟨⟨_,_,l.ex⟩,⟨_,l.ex⟩,λh1 h2 p k=>?_⟩;obtain⟨a,t,p⟩:=p;exact⟨a,t,k _ p⟩
 ·refine(hok b o q).stay (λc u hc hu=>?_) (λ_ r=>r) λ_ _ r=>r
  rcases hc with rfl | hc
  ·exact kp _ _ _ q hb hu
  ·exact kp _ _ _ hc (λz=>by rw[z,hX] at hc;cases hc) hu
end
end DL
namespace DL
open PySem PySem.Spec PyProof.Rows L2
section
variable {X:Cx} {pins:List (Addr×Obj)} {σ:L2.St} {H:Hp} {s:Shared} {C R e:Addr} {fld:Str}
theorem yo(r:a5 y u)(f':Str):nO (([(f,y)]:List (Str×V)).lookup f') (if f'=f then some u else none):=by
 by_cases z:f'=f
 ·subst z;rw[HU rfl];simp only[List.lookup,beq_self_eq_true];exact r
 ·rw[HQ z];have:(f'==f)=false:=Ka.mpr z;simp only[List.lookup,this];exact True.intro
theorem Inv.xput(I:L2.Inv X pins σ H s)(hX:H e=some (nq e C))(hdx:s.heap.objs.size<=dx)(r:a5 y u)(g1:h'.get? e=some (GZ C (some dx) a .none))(g2:h'.Ns1 dx (λz=>if z=fld then some u else none))
  (g3:∀b o,b≠e->s.heap.get? b=some o->h'.get? b=some o):L2.Inv X pins σ (G6 (G6 H dx (.xd [(fld,y)])) e (tF e C dx)) { s with heap:=h',toks:=t' }:=by
 have hn:H dx=none:=I.hok.fresh hdx
 have ah:dx≠e:=λz=>by rw[z,hX] at hn;cases hn
 have aa:∀b,b≠e->b≠dx->G6 (G6 H dx (.xd [(fld,y)])) e (tF e C dx) b=H b:=λb z1 z2=>by rw[aG z1,aG z2]
 have ab:∀b o,s.heap.get? b=some o->b≠dx:=λb o hb z=>by
  have:=HN hb
  rw[z] at this;exact absurd (HW this hdx) (Ir _)
 have nH:∀b v,H b=some v->b≠dx:=λb v hb z=>by rw[z,hn] at hb;cases hb
 have nX:∀b v,H b=some v->v≠nq e C->b≠e:=λb v hb hv z=>by rw[z,hX] at hb;exact hv (HR hb).symm
 refine I.un ⟨λb o hb hu _ _=>g3 b o (λz=>by rw[z,hX] at hu;cases hu) hb,λb o hb hu _ _=>⟨o.slots,g3 b o (λz=>by rw[z,hX] at hu;cases hu) hb⟩,λb o hb hu _=>?_,λb o hb _=>?_,λb xs hb=>?_,λb o u hb=>?_,λb ps hb=>⟨#[],?_⟩⟩ λb o q=>?_
 ·rw[aa b (λz=>by rw[z,hX] at hu;cases hu) (ab b o hb)];exact hu
 ·by_cases z:b=e
  ·exact⟨_,by rw[z];exact g1⟩
  ·exact⟨o,g3 b o z hb⟩
 ·rw[aa b (nX b _ hb (by unfold nq;exact λz=>nomatch z)) (nH b _ hb)];exact hb
 ·rw[aa b (nX b _ hb (by unfold nq;exact λz=>nomatch z)) (nH b _ hb)];exact hb
 ·rw[aa b (nX b _ hb (by unfold nq;exact λz=>nomatch z)) (nH b _ hb),hb,Array.append_empty]
 ·by_cases z:b=e
  ·subst z;rw[av] at q
   cases q
   exact B6 g1
  ·by_cases z2:b=dx
   ·subst z2;rw[aG z,av] at q
    cases q
    exact⟨_,g2,yo r⟩
   ·rw[aa b z z2] at q;refine(I.hok b o q).stay (λc v hc hv=>?_) (λc hc=>?_) λc xs hc=>?_
    ·refine g3 c v ?_ hv
     rcases hc with rfl | hc
     ·exact z
     ·exact nX c _ hc (by unfold nq;exact λz=>nomatch z)
    ·rw[aa c (nX c _ hc (by unfold nq;exact λz=>nomatch z)) (nH c _ hc)];exact hc
    ·rw[aa c (nX c _ hc (by unfold nq;exact λz=>nomatch z)) (nH c _ hc)];exact hc
def BT(C:Addr)(f:Str)(ta tv:TE):TS:=λD σ H=>tv σ H λy H1=>ta σ H1 λx H2=>∃e,x=.ref e/\H2 e=some (nq e C)/\∀dx,H2 dx=none->dx≠e->D.nx σ (G6 (G6 H2 dx (.xd [(f,y)])) e (tF e C dx))
theorem nD(ek:EK X.K C R fld)(ha:PE X o ta)(hv:PE X value tv)(hs:swapsWith value (some (.Attribute o fld pos')) pos.line X.env=pure false:=by rfl):PS X (.Assign [.Attribute o fld pos'] value pos) (BT C fld ta tv):=by
 intro pins s σ H D I h;refine plainObj_wpAny_Assign_Attribute (Ha (hv pins s σ H _ I h) λu s1 hs1=>?_) hs;obtain⟨y,H1,I1,ry,q⟩:=hs1;refine Ha (ha pins s1 σ H1 _ I1 q) λov s2 hs2=>?_;obtain⟨x,H2,I2,rx,e,rfl,hX,q2⟩:=hs2
 cases rx
 obtain⟨N,NR,mN,mR,c2,n1,n2,n3,n4⟩:=ek.ex;obtain⟨a,he⟩:=vG I2 hX;obtain⟨hh,g,d,tk,os⟩:=s2;refine Ed PySem.F.store_ValueError (c2 _ I2.kIn) n1 n2 n3 n4 ek.fb he λh' tk' dx hdx g1 g2 g3=>?_;have hn:H2 dx=none:=I2.hok.fresh hdx;exact⟨σ,_,Inv.xput (t':=tk') I2 hX hdx ry g1 g2 g3,q2 dx hn λz=>by rw[z,hX] at hn;cases hn⟩
end
structure EM(K:Zf)(C R fI:Addr):Prop where
 ex:∃N NR mN mR,(∀h,K.In h->C2 h C N R NR mN mR)/\mN "__init__"=some (.ref fI)
 kp:PySem.W.keepIn K (.ref C)=true
 fn:∃o,K.lookup fI=some o/\o.cls=.type "function"
def pyB:Bool->V->Prop
 | false,_=>True
 | true,v=>∃x,v=.str x/\x.length<=100
def spI(C:Addr)(fld:Str)(b:Bool):Sp:=λvs H Q _=>∃e y,vs=[.ref e,y]/\pyB b y/\H e=some (nq e C)/\∀dx,H dx=none->dx≠e->Q .non (G6 (G6 H dx (.xd [(fld,y)])) e (tF e C dx))
theorem upd3:G6 (G6 (G6 H e a) dx b) e c=G6 (G6 H dx b) e c:=funext λz=>by
 by_cases h:z=e
 ·rw[h,av,av]
 ·rw[aG h,aG h]
  by_cases h2:z=dx
  ·rw[h2,av,av]
  ·rw[aG h2,aG h2,aG h]
section
variable {X:Cx} {pins:List (Addr×Obj)} {σ:L2.St} {H:Hp} {s:Shared} {C R fI:Addr} {fld:Str} {k:Nat} {fd:FuncData} {ps:Zb} {Q:VK} {b:Bool}
theorem wf(em:EM X.K C R fI)(F:f7 X.prog X.w X.K X.mg X.base CX0 k fI fd ps (spI C fld b))(hr:cI (k+1) X.A)(hb:eU X.K fd ps [])(I:L2.Inv X pins σ H s)(r:a5 y u)(hy:pyB b y)
  (h:∀e dx,H e=none->H dx=none->dx≠e->Q (.ref e) (G6 (G6 H dx (.xd [(fld,y)])) e (tF e C dx))):wpAny (model X.prog X.w) X.A (call (.ref C) [u]) (EP X pins σ Q) X.xe s:=by
 obtain⟨N,NR,mN,mR,c2,hi⟩:=em.ex;obtain⟨o,lk,hc⟩:=em.fn;obtain⟨hh,g,d,tk,os⟩:=s;refine Fz (c2 _ I.kIn) hi (I.kIn _ _ lk) hc (λh' e hs M=>?_) (by show 1<=sizeLine;decide);obtain⟨t,he,_⟩:=M.there;have I2:=I.laid (t':=tk) (a:=e) (o:=nq e C) M.keeps hs (uL he);have hn:H e=none:=I.hok.fresh hs
 have sp:spI C fld b [.ref e,y] (G6 H e (nq e C)) (λv H2=>v=.non/\Q (.ref e) H2) E0:=⟨e,y,rfl,hy,av,λdx hdx hne=>⟨rfl,by
  rw[upd3]
  exact h e dx hn (by rw[aG hne] at hdx;exact hdx) hne⟩⟩
 have r2:bg [V.ref e,y] [Value.ref e,u]:=.cons rfl (.cons r .nil)
 have hl:([Value.ref e,u]++[]).length=ps.length:=by
  have:=F.len _ _ _ _ sp
  exact this
 refine wpAny_call (KP (F.run _ X.stack _ _ ⟨[Value.ref e,u],[]⟩ [Value.ref e,u] [V.ref e,y] _ E0 (hr.make C [u] []) (I2.env0.make C [u] []) (hb _ [Value.ref e,u] I2.kIn hl) r2 sp) λr s' hq'=>?_)
 cases r with
 | error e=>exact False.elim hq'
 | ok fl =>
  cases fl with
  | ret u' =>
   obtain⟨v,H',I3,rv,ev,q3⟩:=I2.after hq';subst ev;exact⟨rv,⟨V.ref e,H',I3,rfl,q3⟩⟩
  | next=>exact False.elim hq'
  | brk=>exact False.elim hq'
  | cont=>exact False.elim hq'
def y9(C:Addr)(fld:Str)(b:Bool)(t:TA):TE:=λσ H Q=>t σ H λvs H1=>∃y,vs=[y]/\pyB b y/\∀e dx,H1 e=none->H1 dx=none->dx≠e->Q (.ref e) (G6 (G6 H1 dx (.xd [(fld,y)])) e (tF e C dx))
theorem w9(em:EM X.K C R fI)(F:f7 X.prog X.w X.K X.mg X.base CX0 k fI fd ps (spI C fld b))(hr:cI (k+1) X.A)(hg:Gl X x)(hm:X.mg x=some (.ref C))(hb:eU X.K fd ps [])(ha:PA X [a] t)
  (hdb:(x==("__debug__":Str))=false:=by decide) (he:starEach [a] X.env=(false,eval a X.env)::starEach [] X.env:=by rfl) (hpl:(backTo pos (starEach [] X.env)).any (·.1)=false:=by rfl) :
  PE X (.Call (.Name x p) [a] [] pos) (y9 C fld b t):=by
 intro pins s σ H Q I h;refine Kl (io I hg hm ?_ hdb);refine PySem.W.callWith_K (h₀:=X.base) I.ok.mod.kin em.kp (Ha (ha pos pins s σ H _ I h) λus s1 hs1=>?_) he hpl;obtain⟨vs,H1,I1,r,y,rfl,hy,q⟩:=hs1;refine⟨I1.kIn,?_⟩
 cases r with
 | cons r0 r =>
  cases r
  exact wf em F hr hb I1 r0 hy q
end
theorem Ew(hh:A.handled=none)
  (h:wpAny M A x (λv s₁=>∃e dx a,v=.ref e/\C2 s₁.heap C N R NR mN mR/\s₁.heap.get? e=some (GZ C dx a .none)/\E (.ref e) s₁) E s):wpAny M A (raiseStmt env (some x) none) Q E s:=by
 unfold raiseStmt;refine Hw (IU h (λv s₁ h₁=>?_) λ_ _ x=>x);obtain⟨e,dx,a,rfl,c,he,hE⟩:=h₁;obtain⟨nm,q,bs,sn,sub,ab,ah,dd,k0,k1,k2,k3,k5,hC⟩:=c.hC;have aa:(Value.ref C::(Value.ref R::bmV)).contains (.type "BaseException")=true:=by rw[JX,JX,show bmV.contains (.type "BaseException")=true by decide +kernel,KR,KR]
 obtain⟨hp,g,d,tk,os⟩:=s₁
 repeat (first | with_reducible refine IW he ?_ | with_reducible refine IW hC ?_ | (with_reducible refine JQ hC ?_;rw[aa]) | wp_step)
 exact wpAny_raiseNew_none hh hE
section
end
end DL
namespace DL
open PySem PySem.Spec PyProof.Rows L2
section
variable {X:Cx} {pins:List (Addr×Obj)} {σ:L2.St} {H:Hp} {s:Shared}
theorem vi(I:L2.Inv X pins σ H s)(hN:X.N.Nodup)(hi:X.N[i]?=some x)(hk:X.env.scope.names.lookup x=some .local)(hv:σ[i]?=some (some v))
  (h:∀s',L2.Inv X pins (σ.set i none) H s'->Q () s'):wpAny M A (unbindName X.env x) Q E s:=by
 obtain⟨m,hn,hl⟩:=id I.loc;have ab:(X.env.scope.kind == .class||(X.env.scope.kind == .module&&X.env.locals != X.env.globals))=false:=by rw[I.ok.kind];rfl
 have ah:i<σ.length:=by rw[I.len];exact(HL.mp hi).1
 have cne:=I.cne
 obtain⟨u,r,q⟩:=hl i x v hi hv (.inl hk);have hm:m x=some u:=by
  rcases q with⟨_,e⟩ | ⟨k,_⟩
  ·exact e
  ·rcases k with k | k
   ·rw[show X.env.kindOf x=X.env.scope.names.lookup x from rfl,hk] at k;cases k
   ·rw[show X.env.kindOf x=X.env.scope.names.lookup x from rfl,hk] at k;cases k
 refine wpAny_unbindName_local hk hn hm ab λh' u' hn' hs=>?_;obtain⟨oL,_,_,ai,_⟩:=id hn;have aa:Hm X.prog X.w H h':=λb ob e=>by
  refine(I.hok b ob e).stay (λc w' hc q=>(hs.2 c ?_).trans q) (λ_ q=>q) λ_ _ q=>q;rintro rfl
  rcases hc with rfl | hc
  ·rw[I.free] at e;cases e
  ·rw[I.free] at hc;cases hc
 refine h _ ⟨I.ok,I.os,I.bare,⟨λb o e n hb hx=>?_,λb o e n hb hx=>?_,I.base.free,λb o e hx=>?_,I.base.tups,I.base.frzs,I.base.tbls⟩,⟨_,hn',λj y v' e1 e2 e3=>?_⟩,λy c e=>?_,I.free,I.freeC,λp hp=>?_,aa,by simpa using I.len⟩
 ·exact(hs.2 b (Iq (HW (HN e) I.ok.above))).trans (I.base.keep b o e n hb hx)
 ·obtain⟨sl,e1⟩:=I.base.slot b o e n hb hx;exact⟨sl,(hs.2 b (Iq (HW (HN e) I.ok.above))).trans e1⟩
 ·obtain⟨o',e1⟩:=I.base.there b o e hx;exact⟨o',(hs.2 b (Iq (HW (HN e) I.ok.above))).trans e1⟩
 ·by_cases hj:j=i
  ·subst hj;rw[Il ah] at e2
   cases e2
  ·rw[Io (Jr hj)] at e2;obtain⟨u',r',q⟩:=hl j y v' e1 e2 e3;refine⟨u',r',?_⟩
   rcases q with⟨k,e⟩ | ⟨k,c,e,z⟩
   ·refine .inl ⟨k,?_⟩;have:y≠x:=λe=>hj (kE hN e1 (e ▸ hi));simp[this,e]
   ·exact .inr ⟨k,c,e,z.sameBut hs (cne y c e)⟩
 ·obtain⟨w',z⟩:=I.cell y c e;exact⟨w',z.sameBut hs (cne y c e)⟩
 ·obtain⟨e,n,ne,nf,d⟩:=I.pin p hp;exact⟨(hs.2 p.1 ne).trans e,n,ne,nf,d⟩
abbrev _root_.L2.Cx.inTry(X:Cx)(pins:List (Addr×Obj))(E:Value->Shared->Prop):Cx:={ X with pn:=X.pn++pins,xe:=E }
theorem wN(ok:X.Ok):(X.inTry pins E).Ok:=⟨ok.mod,ok.kind,ok.glob,ok.blt,ok.above,ok.inj,ok.has,ok.cab,ok.hd,ok.frames,ok.stk,ok.exf,ok.bs,ok.bsz,ok.noex,ok.exfs,ok.funs,ok.frf⟩
theorem yc(ok:(X.inTry pins E).Ok):X.Ok:=⟨ok.mod,ok.kind,ok.glob,ok.blt,ok.above,ok.inj,ok.has,ok.cab,ok.hd,ok.frames,ok.stk,ok.exf,ok.bs,ok.bsz,ok.noex,ok.exfs,ok.funs,ok.frf⟩
theorem GJ(I:L2.Inv X pins σ H s):L2.Inv (X.inTry pins E) [] σ H s:=⟨wN I.ok,I.os,I.bare,I.base,I.loc,I.cell,I.free,I.freeC,λp hp=>I.pin p (by simpa using hp),I.hok,I.len⟩
theorem uu(I:L2.Inv (X.inTry pins E) q σ H s):L2.Inv X pins σ H s:=⟨yc I.ok,I.os,I.bare,I.base,I.loc,I.cell,I.free,I.freeC,λp hp=>I.pin p (HV _ hp),I.hok,I.len⟩
inductive kj(X:Cx)(pins:List (Addr×Obj))(Ex:XK)(v:Value)(s':Shared):Prop
 | mk (σ:L2.St) (H':Hp) (e C dx:Addr) (a t:Value) (hv:v=.ref e) (I:L2.Inv X pins σ H' s') (he:s'.heap.get? e=some (GZ C (some dx) a t)) (ht:xB s'.heap e t)
  (hT:∀T,t=.ref T->H' T=none/\X.s₀.heap.objs.size<=T/\T≠X.env.locals/\(∀x c,X.env.cells.lookup x=some c->c≠T)/\∀p∈X.pn++pins,p.1≠T) (hX:H' e=some (XAt e C dx)) (hE:Ex (.ref e) (some dx) H')
end
section
theorem fi(hX:H' e=some (XAt e C dx))(ch:List Addr)(keep:∀b o,h.get? b=some o->b≠e->b∉ch->b∉fs->h'.get? b=some o)
  (slot:∀b o,h.get? b=some o->b≠e->b∉ch->∃sl,h'.get? b=some { o with slots:=sl }) (there:∀b o,h.get? b=some o->∃o',h'.get? b=some o'):Un fs ch H' H' h h' :=
 ⟨λb o hb hn hf hx=>keep b o hb (λz=>by rw[z,hX] at hn;cases hn) hx hf,λb o hb hn _ hx=>slot b o hb (λz=>by rw[z,hX] at hn;cases hn) hx,λ_ _ _ hn _=>hn,λb o hb _=>there b o hb,λ_ _ q=>q,λ_ _ _ q=>q,λb ps q=>⟨#[],by rw[Array.append_empty];exact q⟩⟩
def trk:Value->List Addr
 | .ref T=>[T]
 | _=>[]
theorem ko(h:b∉trk t):t≠.ref b:=λz=>h (by rw[z];exact HG.mpr rfl)
theorem yN(h:b∈trk t):t=.ref b:=by
 cases t with
 | ref T=>rw[HG.mp h]
 | _=>cases h
theorem tZ(hst:X.stack=X.env::X.outer/\X.env.frame=some X.env.locals)(hA:A.frames=some X.stack)(L:kj X pins Ex v s)(h:∀h',kj X pins Ex v { s with heap:=h' }->Q () { s with heap:=h' }) :
  wpAny M A (noteFrame v X.env) (λ_ s2=>wpAny M A (setFlight v none) Q E s2) E s:=by
 obtain⟨σ,H',e,C,dx,a,t,rfl,I,he,ht,hT,hX,hE⟩:=L;have st:=I.stack;have sf:=I.stkFree;rw[hst.1] at hA st;refine note hA st hst.2 he ht λh' T l=>h h' ⟨σ,H',e,C,dx,a,.ref T,rfl,?_,l.ex,l.tb,λT' z=>?_,hX,hE⟩
 ·refine I.call' (s':={ s with heap:=h' }) (ch:=trk t) rfl (fi hX _ (λb o hb hbe hc hf=>l.keep b o hb hbe (ko hc) (by rw[<- hst.1];exact hf)) (λb o hb hbe hc=>l.slot b o hb hbe (ko hc)) l.there) (l.hok I.hok hX (λT z=>(hT T z).1) (by rw[<- hst.1];exact sf)) I.bare λb hb=>?_;obtain⟨_,z2,z3,z4,z5⟩:=hT b (yN hb);exact⟨.inr z2,z3,z4,z5⟩
 ·cases z
  have fr:s.heap.objs.size<=T:=l.new
  refine⟨I.hok.fresh fr,Hz I.sz fr,λy=>?_,λx c hxc y=>?_,λp hp y=>?_⟩
  ·exact absurd (HW I.lt fr) (by rw[y];exact Ir _)
  ·obtain⟨w',o,ho,_⟩:=I.cell x c hxc;exact absurd (HW (HN ho) fr) (by rw[y];exact Ir _)
  ·exact absurd (HW (HN (I.pin p hp).1) fr) (by rw[y];exact Ir _)
theorem oG(L:kj X pins Ex v s)(h:∀h',kj X pins Ex v { s with heap:=h' }->Q () { s with heap:=h' }):wpAny M A (setFlight v none) Q E s:=by
 obtain⟨σ,H',e,C,dx,a,t,rfl,I,he,ht,hT,hX,hE⟩:=L;unfold setFlight;refine Hw (IB he rfl (x:=t) rfl ?_);have ab:=ht
 rcases ht with rfl | ⟨T,oT,ts,rfl,hTe,hg,hd,h3⟩
 ·rw[HQ (by decide)];exact HI (h s.heap ⟨σ,H',e,C,dx,a,.none,rfl,I,he,ab,hT,hX,hE⟩)
 ·rw[HU (show (Value.ref T != Value.none)=true from by simp)];have hsz:3<ts.size:=(Jj.mp h3).1;have aa:∀b,b≠T->(s.heap.update T (Obj.mapFields (·.setIfInBounds 3 ((none:Option Addr).elim Value.none λf=>rawInt f)))).get? b=s.heap.get? b:=λb hb=>Iw _ _ (Jr hb);have self:=II (Obj.mapFields (·.setIfInBounds 3 ((none:Option Addr).elim Value.none λf=>rawInt f))) hg (Jn (IY hd _));refine Ju hg hd hsz (h _ ⟨σ,H',e,C,dx,a,.ref T,rfl,?_,(aa e (Jr hTe)).trans he,.inr ⟨T,_,_,rfl,hTe,self,IY hd _,by simp[hsz]⟩,hT,hX,hE⟩);obtain⟨z1,z2,z3,z4,z5⟩:=hT T rfl;refine I.call' (ch:=[T]) rfl (fi hX _ (λb o hb _ hc _=>(aa b λz=>hc (by rw[z];exact HG.mpr rfl)).trans hb) (λb o hb _ hc=>⟨o.slots,(aa b λz=>hc (by rw[z];exact HG.mpr rfl)).trans hb⟩) λb o hb=>?_) (λb o q=>?_) I.bare λb hb=>?_
  ·by_cases z:b=T
   ·exact⟨_,by rw[z];exact self⟩
   ·exact⟨o,(aa b z).trans hb⟩
  ·refine(I.hok b o q).stay (λc u hc hu=>(aa c λz=>?_).trans hu) (λ_ r=>r) λ_ _ r=>r
   rcases hc with rfl | hc
   ·rw[z,z1] at q;cases q
   ·rw[z,z1] at hc;cases hc
  ·rw[HG.mp hb];exact⟨.inr z2,z3,z4,z5⟩
theorem Dv{M:Model}{A:Around}{E:Value->Shared->Prop}{h:Heap}{g:Array GenState}{d:Drawn}{t:Nat}{os:OsState}{e C N R NR:Addr}{mN mR:Str->Zd}{dx:Option Addr}{a tb:Value}{Q:Bool->Shared->Prop}(c:C2 h C N R NR mN mR)(he:h.get? e=some (GZ C dx a tb))(hq:Q true ⟨h,g,d,t,os⟩) :
  wpAny M A (excMatches (.ref e) (.ref R)) Q E ⟨h,g,d,t,os⟩:=by
 obtain⟨⟨nm,q,bs,sn,sub,ab,al,dd,k0,k1,k2,k3,k5,hC⟩,⟨az,q',as,an,aj,ao,ai,aq,j0,j1,j2,j3,j5,hR⟩,_⟩:=c;have ah:(Value.ref R::bmV).contains (.type "BaseException")=true:=by rw[JX,show bmV.contains (.type "BaseException")=true by decide +kernel,KR]
 have aa:(Value.ref C::(Value.ref R::bmV)).contains (.ref R)=true:=by simp
 have f:=tc_notTuple
 unfold excMatches
 repeat (first | (with_reducible refine IW he ?_) | with_reducible refine IW hR ?_ | (with_reducible refine JQ hR ?_;rw[ah]) | (with_reducible refine JQ hC ?_;rw[aa]) | wp_step)
 exact hq
end
abbrev _root_.L2.Cx.hdl(X:Cx)(A':Around)(E:Value->Shared->Prop):Cx:={ X with A:=A',calm:=false,xe:=E }
section
variable {X:Cx} {pins:List (Addr×Obj)} {σ:L2.St} {H:Hp} {s:Shared}
theorem DB(hA:A'.frames=some X.stack)(I:L2.Inv X pins σ H s):L2.Inv (X.hdl A' E) pins σ H s :=
 ⟨⟨I.ok.mod,I.ok.kind,I.ok.glob,I.ok.blt,I.ok.above,I.ok.inj,I.ok.has,I.ok.cab,(λz=>nomatch z),hA,I.ok.stk,I.ok.exf,I.ok.bs,I.ok.bsz,I.ok.noex,I.ok.exfs,I.ok.funs,I.ok.frf⟩,I.os,I.bare,I.base,I.loc,I.cell,I.free,I.freeC,I.pin,I.hok,I.len⟩
theorem GS(ok:X.Ok)(I:L2.Inv (X.hdl A' E) pins σ H s):L2.Inv X pins σ H s:=⟨ok,I.os,I.bare,I.base,I.loc,I.cell,I.free,I.freeC,I.pin,I.hok,I.len⟩
def sTry(X:Cx)(R:Addr)(j:Nat)(tb:List (Addr×Obj)->(Value->Shared->Prop)->TS)(ts:TS):TS:=λD σ H=>∃Ex:XK,(∀e C dx H',H' e=some (XAt e C dx)->Ex (.ref e) (some dx) H'->∃N NR mN mR,∀h,X.K.In h->C2 h C N R NR mN mR)/\(∀pins E,(∀v s',kj X pins Ex v s'->E v s')->tb pins E D σ H) /\
 ∀(σ':L2.St) (H':Hp) (e C dx:Addr),σ'.length=σ.length->H' e=some (XAt e C dx)->Ex (.ref e) (some dx) H'->ts { nx:=λσ2 H2=>D.nx (σ2.set j none) H2,rt:=λ_ _=>False } (σ'.set j (some (.ref e))) H'
theorem CS{R:Addr}{body:List Stmt}{st:Stmt}{n xR:Str}{j:Nat}{np hpos pos:Pos}{tb:List (Addr×Obj)->(Value->Shared->Prop)->TS}{ts:TS}(hst:X.stack=X.env::X.outer/\X.env.frame=some X.env.locals)(hN:X.N.Nodup)(hj:X.N[j]?=some n)(hk:X.env.scope.names.lookup n=some .local)
  (hg:Gl X xR) (hm:X.mg xR=some (.ref R))
  (hb:∀(pins:List (Addr×Obj)) (E:Value->Shared->Prop),PSs (X.inTry pins E) body (tb pins E)) (hs:∀A' E',PSs (X.hdl A' E') [st] ts) (hdb:(xR==("__debug__":Str))=false:=by decide) :
  PS X (.Try body [.ExceptHandler (some (.Name xR np)) (some n) [st] hpos] [] [] pos) (sTry X R j tb ts):=by
 intro pins s σ H D I h;obtain⟨Ex,ah,h1,h2⟩:=h;rw[arm_exec_Try];refine Hw (J3 (wpAny_tryStmt_except ?_));have ab:∀v s',kj X pins Ex v s'->(λv s₁=>wpAny (model X.prog X.w) X.A (noteFrame v X.env) (λ_ s₂=>wpAny (model X.prog X.w) X.A (setFlight v none) (λ_ s₃=>wpAny (model X.prog X.w) X.A (handleBy v X.env [.ExceptHandler (some (.Name xR np)) (some n) [st] hpos]) (SP X pins D) X.xe s₃) X.xe s₂) X.xe s₁) v s':=λv s' L=>?_;refine IU (hb pins _ [] s σ H D (GJ I) (h1 pins _ ab)) (λf s1 q=>?_) λ_ _ q=>q
 ·cases f with
  | next =>
   obtain⟨σ',H',I',q⟩:=q;exact Kj ⟨σ',H',uu I',q⟩
  | brk=>obtain⟨σ',H',I',q⟩:=q;exact⟨σ',H',uu I',q⟩
  | cont=>obtain⟨σ',H',I',q⟩:=q;exact⟨σ',H',uu I',q⟩
  | ret u=>obtain⟨v,σ',H',I',r,q⟩:=q;exact⟨v,σ',H',uu I',r,q⟩
 ·refine tZ hst I.ok.frames L λh' L=>?_;obtain⟨σ1,H1,e,C,dx,a,t,rfl,I1,he,ht,hT,hX,hE⟩:=id L;have hA:(X.A.mark (some (.ref e))).frames=some X.stack:=I.ok.frames;obtain⟨N,NR,mN,mR,c2⟩:=ah e C dx _ hX hE;refine wpAny_handleBy_cons (codeAny_handlers_test (io (X:=X.hdl (X.A.mark (some (.ref e))) X.xe) (DB hA I1) hg hm ?_ hdb)) (by intro q;cases q);refine Dv (c2 _ I1.kIn) he ?_;show codeAny _ _ (.handlers (.ref e) [.ExceptHandler none (some n) [st] hpos] X.env) _ _;refine codeAny_handlers_suite_as (oG L λh2' L2=>?_);obtain⟨σ2,H2,e2,an,aj,a2,t2,al,I2,ao,aq,as,ai,aa⟩:=L2
  cases al
  refine gV I2 hN hj (.inl hk) (v:=.ref e) rfl (λs3 I3=>?_) (.inr hk);refine IU (hs (X.A.mark (some (.ref e))) _ pins s3 _ H2 _ (DB hA I3) (h2 σ2 H2 e an aj (by rw[I2.len,I.len]) ai aa)) (λf s4 q=>?_) λ_ _ z=>z
  cases f with
  | next =>
   obtain⟨σ4,H4,I4,q4⟩:=q;have I5:=GS I.ok I4;refine Hw (wpAny_bindName (gV I5 hN hj (.inl hk) (v:=.non) rfl (λs5 I6=>?_) (.inr hk)));unfold unbindBehindTheSuite;have hl:j<σ4.length:=by rw[I5.len];exact(HL.mp hj).1
   refine KI (vi I6 hN hj hk (v:=.non) (by rw[Il hl]) λs6 I7=>?_);rw[List.set_set] at I7;exact⟨_,H4,I7,q4⟩
  | brk=>obtain⟨σ',H',I',q⟩:=q;exact q.elim
  | cont=>obtain⟨σ',H',I',q⟩:=q;exact q.elim
  | ret u=>obtain⟨v,σ',H',I',r,q⟩:=q;exact q.elim
end
end DL
namespace DL
open PySem PySem.Spec PyProof.Rows L2
def wz(L:Addr)(h:Heap)(e:Addr)(t:Value):Prop:=∃T oT ts,t=.ref T/\T≠e/\h.get? T=some oT/\oT.data=.fields ts/\ts[3]?=some (rawInt L)
structure LftN(fs:List Addr)(L:Addr)(h h':Heap)(e:Addr)(t:Value)(C:Addr)(dx:Option Addr)(a:Value)(T:Addr):Prop where
 ex:h'.get? e=some (GZ C dx a (.ref T))
 tb:wz L h' e (.ref T)
 new:h.objs.size<=T
 keep:∀b o,h.get? b=some o->b≠e->t≠.ref b->b∉fs->h'.get? b=some o
 slot:∀b o,h.get? b=some o->b≠e->t≠.ref b->∃sl,h'.get? b=some { o with slots:=sl }
 there:∀b o,h.get? b=some o->∃o',h'.get? b=some o'
section
theorem zn(hfr:A.frames=some (env::outer))(hl:s.heap.FunFrames base (env::outer))(hf:env.frame=some L)(he:s.heap.get? e=some (GZ C dx a t))
  (h:∀h' T,h'.get? e=some (GZ C dx a (.ref T))->wz L h' e (.ref T)->s.heap.objs.size<=T->(∀b o,s.heap.get? b=some o->b≠e->b∉frs (env::outer)->h'.get? b=some o)->(∀b o,s.heap.get? b=some o->b≠e->∃sl,h'.get? b=some { o with slots:=sl })->Q () { s with heap:=h' }) :
  wpAny M A (do let a<-frameOf env;let pl<-entryPlaceOf L had;let b<-EntryCells.newEntry head a .none (rawInt L) .none pl;setField (.ref e) 1 b) Q E s:=by
 have ai:e∉(env::outer).filterMap (·.frame):=λhm=>by
  obtain⟨_,o,ho,aj⟩:=hl.mem hm;rw[he] at ho;injection ho with ho;subst ho;exact aj _ rfl
 refine Hw (wpAny_frameOf_fun hfr hl hf λh₁ hs₁=>?_);refine Hw (wpAny_entryPlaceOf λpl hpl=>?_);unfold EntryCells.newEntry newFields;refine Hw (Je ?_ (hpl.sizeOk5 _ _ _ _ _));have ab:h₁.get? e=some (GZ C dx a t):=(hs₁.2.1 e ai).trans he;generalize hO:({ cls:=.type "traceback",dict:=none,data:=.fields ([head,.ref L,.none,rawInt L,.none]++(if pl.isEmpty then List.replicate 6 Value.none else pl)).toArray }:Obj)=O;have ao:O.data=.fields ([head,.ref L,.none,rawInt L,.none]++(if pl.isEmpty then List.replicate 6 Value.none else pl)).toArray:=by rw[<- hO]
 have an:O.isFreed=false:=by rw[<- hO];rfl
 have ah:=Hy (h:=h₁) O ab
 have aa:h₁.objs.size≠e:=JC (HN ab)
 have aq:((h₁.push O).update e (Obj.mapFields (·.setIfInBounds 1 (Value.ref h₁.objs.size)))).get? e=some (GZ C dx a (.ref h₁.objs.size)):=II (Obj.mapFields (·.setIfInBounds 1 (Value.ref h₁.objs.size))) ah rfl
 have al:((h₁.push O).update e (Obj.mapFields (·.setIfInBounds 1 (Value.ref h₁.objs.size)))).get? h₁.objs.size=some O:=(Iw _ _ (Jr aa)).trans (HX h₁ an)
 have keep:∀b o,b≠e->h₁.get? b=some o->((h₁.push O).update e (Obj.mapFields (·.setIfInBounds 1 (Value.ref h₁.objs.size)))).get? b=some o:=λb o hbe hb=>by
  rw[Iw _ _ (Jr hbe)];exact Hy _ hb
 refine Ju ah rfl (by simp) (h _ h₁.objs.size aq ⟨_,O,_,rfl,aa,al,ao,by simp⟩ ?_ (λb o hb hbe hbf=>keep b o hbe ((hs₁.2.1 b hbf).trans hb)) λb o hb hbe=>?_)
 ·rw[hs₁.1];exact HD _
 ·obtain⟨sl,hs⟩:=hs₁.2.2 b o hb;exact⟨sl,keep b _ hbe hs⟩
theorem Gh(hfr:A.frames=some (env::outer))(hl:s.heap.FunFrames base (env::outer))(hf:env.frame=some L)(he:s.heap.get? e=some (GZ C dx a t))(ht:xB s.heap e t)
  (h:∀h' T,LftN (frs (env::outer)) L s.heap h' e t C dx a T->Q () { s with heap:=h' }):wpAny M A (noteFrame (.ref e) env) Q E s:=by
 unfold noteFrame;simp only[hf];refine Hw (IB he rfl (x:=t) rfl ?_)
 rcases ht with rfl | ⟨T,oT,ts,rfl,hTe,hT,hdT,h3⟩
 ·rw[HQ (by decide)];refine zn hfr hl hf he λh' T h1 h2 h3 h4 h5=>h h' T ⟨h1,h2,h3,λb o hb hbe _=>h4 b o hb hbe,λb o hb hbe _=>h5 b o hb hbe,λb o hb=>?_⟩
  by_cases z:b=e
  ·exact⟨_,by rw[z];exact h1⟩
  ·obtain⟨sl,q⟩:=h5 b o hb z;exact⟨_,q⟩
 ·rw[HU (show (Value.ref T != Value.none)=true from by simp)];refine Hw (IB hT hdT h3 ?_);rw[HQ (show ¬ ((Value.none==rawInt L)=true) from by simp[rawInt])];refine Hw (Ju hT hdT (Jj.mp h3).1 ?_);have aa:∀b,b≠T->(s.heap.update T (Obj.mapFields (·.setIfInBounds 3 Value.none))).get? b=s.heap.get? b:=λb hb=>Iw _ _ (Jr hb);have ab:∀b o,s.heap.get? b=some o->(∀vs,o.data≠.fields vs)->b≠T:=λb o hb hnf q=>by
   rw[q,hT] at hb;injection hb with hb;subst hb;exact hnf ts hdT
  have ah:=II (Obj.mapFields (·.setIfInBounds 3 Value.none)) hT (Jn (IY hdT _))
  refine zn (s:={ s with heap:=s.heap.update T (Obj.mapFields (·.setIfInBounds 3 Value.none)) }) hfr (hl.of_keeps λb o hb hnf=>⟨o,(aa b (ab b o hb hnf)).trans hb,rfl⟩) hf ((aa e (Jr hTe)).trans he)
   λh' T' h1 h2 h3 h4 h5=>h h' T' ⟨h1,h2,by rw[<- Heap.size_after_update];exact h3,λb o hb hbe hbt=>h4 b o ((aa b λz=>hbt (by rw[z])).trans hb) hbe,λb o hb hbe hbt=>h5 b o ((aa b λz=>hbt (by rw[z])).trans hb) hbe,λb o hb=>?_⟩
  by_cases z:b=e
  ·exact⟨_,by rw[z];exact h1⟩
  ·by_cases z2:b=T
   ·subst z2;obtain⟨sl,q⟩:=h5 b _ ah z;exact⟨_,q⟩
   ·obtain⟨sl,q⟩:=h5 b o ((aa b z2).trans hb) z;exact⟨_,q⟩
end
theorem LftN.hok(l:LftN fs L h h' e t C (some dx) a T)(hok:Hm P w H' h)(hX:H' e=some (XAt e C dx))(hT:∀T,t=.ref T->H' T=none)(hfs:∀b∈fs,H' b=none):Hm P w H' h':=λb o q=>by
 have kp:∀c u v,H' c=some v->c≠e->h.get? c=some u->h'.get? c=some u:=λc u v hc hce hu=>l.keep c u hu hce (λz=>by rw[hT c z] at hc;cases hc) λz=>by rw[hfs c z] at hc;cases hc
 by_cases hb:b=e
 ·subst hb;rw[hX] at q
  cases q
  refine⟨⟨_,_,l.ex⟩,⟨_,l.ex⟩,λh1 h2 p k=>?_⟩;obtain⟨a,t,p⟩:=p;exact⟨a,t,k _ p⟩
 ·refine(hok b o q).stay (λc u hc hu=>?_) (λ_ r=>r) λ_ _ r=>r
  rcases hc with rfl | hc
  ·exact kp _ _ _ q hb hu
  ·exact kp _ _ _ hc (λz=>by rw[z,hX] at hc;cases hc) hu
inductive sG(X:Cx)(E:XK)(v:Value)(s':Shared):Prop
 | mk (σ:L2.St) (H':Hp) (e C dx:Addr) (a t:Value) (hv:v=.ref e) (I:L2.Inv X [] σ H' s') (he:s'.heap.get? e=some (GZ C (some dx) a t)) (ht:xB s'.heap e t\/wz X.env.locals s'.heap e t)
  (hT:∀T,t=.ref T->H' T=none/\X.s₀.heap.objs.size<=T/\T≠X.env.locals/\(∀x c,X.env.cells.lookup x=some c->c≠T)/\∀p∈X.pn++[],p.1≠T) (hX:H' e=some (XAt e C dx)) (hE:E (.ref e) (some dx) H')
abbrev _root_.L2.Cx.lx(X:Cx)(E:XK):Cx:={ X with xe:=sG X E }
section
theorem GC{X:Cx}{e:Value->Shared->Prop}(ok:X.Ok):({ X with xe:=e }:Cx).Ok:=⟨ok.mod,ok.kind,ok.glob,ok.blt,ok.above,ok.inj,ok.has,ok.cab,ok.hd,ok.frames,ok.stk,ok.exf,ok.bs,ok.bsz,ok.noex,ok.exfs,ok.funs,ok.frf⟩
theorem toLx(I:L2.Inv X pins σ H s):L2.Inv { X with xe:=e } pins σ H s:=⟨GC I.ok,I.os,I.bare,I.base,I.loc,I.cell,I.free,I.freeC,I.pin,I.hok,I.len⟩
theorem ofLx(I:L2.Inv { X with xe:=e } pins σ H s):L2.Inv X pins σ H s:=toLx (X:={ X with xe:=e }) (e:=X.xe) I
theorem Db(I:L2.Inv X pins σ H s):L2.Inv X [] σ H s:=⟨I.ok,I.os,I.bare,I.base,I.loc,I.cell,I.free,I.freeC,λp hp=>I.pin p (by rw[IE] at hp;exact HV _ hp),I.hok,I.len⟩
theorem yj(L:oV (X.lx E) pins H' e C dx s')(hE:E (.ref e) (some dx) H'):sG X E (.ref e) s':=by
 obtain⟨σ,a,t,I,he,ht,hT,hX⟩:=L.ex;refine⟨σ,H',e,C,dx,a,t,rfl,Db (ofLx I),he,.inl ht,λT z=>?_,hX,hE⟩;obtain⟨z1,z2,z3,z4,z5⟩:=hT T z;exact⟨z1,z2,z3,z4,λp hp=>z5 p (by rw[IE] at hp;exact HV _ hp)⟩
theorem mF{X:Cx}{σ:L2.St}{s:Shared}{fl:Value}{Q:Unit->Shared->Prop}{M:Model}{A:Around}{W:Value->Shared->Prop}{H':Hp}{e C dx T:Addr}{a:Value}{oT:Obj}{ts:Array Value}(I:L2.Inv X [] σ H' s)(he:s.heap.get? e=some (GZ C (some dx) a (.ref T)))(hTe:T≠e)(hg:s.heap.get? T=some oT)(hd:oT.data=.fields ts)(h3:3<ts.size)
  (hT:H' T=none/\X.s₀.heap.objs.size<=T/\T≠X.env.locals/\(∀x c,X.env.cells.lookup x=some c->c≠T)/\∀p∈X.pn++[],p.1≠T) (hX:H' e=some (XAt e C dx))
  (h:∀h',L2.Inv X [] σ H' { s with heap:=h' }->h'.get? e=some (GZ C (some dx) a (.ref T))->(∃oT ts,h'.get? T=some oT/\oT.data=.fields ts/\ts[3]?=some fl)->Q () { s with heap:=h' }):wpAny M A (setField (.ref T) 3 fl) Q W s:=by
 have aa:∀b,b≠T->(s.heap.update T (Obj.mapFields (·.setIfInBounds 3 fl))).get? b=s.heap.get? b:=λb hb=>Iw _ _ (Jr hb)
 have self:=II (Obj.mapFields (·.setIfInBounds 3 fl)) hg (Jn (IY hd _))
 obtain⟨z1,z2,z3,z4,z5⟩:=hT;refine Ju hg hd h3 (h _ ?_ ((aa e (Jr hTe)).trans he) ⟨_,_,self,IY hd _,by simp[h3]⟩);refine I.call' (ch:=[T]) rfl (fi hX _ (λb o hb _ hc _=>(aa b λz=>hc (by rw[z];exact HG.mpr rfl)).trans hb) (λb o hb _ hc=>⟨o.slots,(aa b λz=>hc (by rw[z];exact HG.mpr rfl)).trans hb⟩) λb o hb=>?_) (λb o q=>?_) I.bare λb hb=>?_
 ·by_cases z:b=T
  ·exact⟨_,by rw[z];exact self⟩
  ·exact⟨o,(aa b z).trans hb⟩
 ·refine(I.hok b o q).stay (λc u hc hu=>(aa c λz=>?_).trans hu) (λ_ r=>r) λ_ _ r=>r
  rcases hc with rfl | hc
  ·rw[z,z1] at q;cases q
  ·rw[z,z1] at hc;cases hc
 ·rw[HG.mp hb];exact⟨.inr z2,z3,z4,z5⟩
theorem tX(hst:X.stack=X.env::X.outer/\X.env.frame=some X.env.locals):PassesOwn (model X.prog X.w) X.A X.env (sG X E):=by
 intro v s' L;show wpAny _ _ (noteFrame v X.env) (λ_ s''=>cameBackBy (model X.prog X.w) X.A X.env (sG X E) v s'') _ s';have back:∀(σ:L2.St) (H':Hp) (e C dx T:Addr) (a:Value) (s':Shared),L2.Inv X [] σ H' s'->s'.heap.get? e=some (GZ C (some dx) a (.ref T))->wz X.env.locals s'.heap e (.ref T) ->
   (H' T=none/\X.s₀.heap.objs.size<=T/\T≠X.env.locals/\(∀x c,X.env.cells.lookup x=some c->c≠T)/\∀p∈X.pn++[],p.1≠T)->H' e=some (XAt e C dx)->E (.ref e) (some dx) H'->cameBackBy (model X.prog X.w) X.A X.env (sG X E) (.ref e) s':=λσ H' e C dx T a s' I he hN hT hX hE=>by
  obtain⟨T',oT,ts,q,aa,hg,hd,h3⟩:=hN
  cases q
  unfold cameBackBy;refine Hw (IB he rfl (x:=.ref T) rfl ?_);rw[HQ (show ¬ ((Value.ref T==Value.none)=true) from by simp)];unfold setFlight;refine Hw (IB he rfl (x:=.ref T) rfl ?_);rw[HU (show (Value.ref T != Value.none)=true from by simp),hst.2];refine mF I he aa hg hd (Jj.mp h3).1 hT hX λh' I' he' hr=>?_;obtain⟨ah,ab,g1,g2,g3⟩:=hr;exact⟨σ,H',e,C,dx,a,.ref T,rfl,I',he',.inr ⟨T,ah,ab,rfl,aa,g1,g2,g3⟩,λT' z=>by cases z;exact hT,hX,hE⟩
 obtain⟨σ,H',e,C,dx,a,t,rfl,I,he,ht,hT,hX,hE⟩:=L
 rcases ht with ht | hN
 ·have st:=I.stack
  have sf:=I.stkFree
  have hA:=I.ok.frames
  rw[hst.1] at hA st;refine Gh hA st hst.2 he ht λh' T l=>?_;refine back σ H' e C dx T a _ ?_ l.ex l.tb ?_ hX hE
  ·refine I.call' (s':={ s' with heap:=h' }) (ch:=trk t) rfl (fi hX _ (λb o hb hbe hc hf=>l.keep b o hb hbe (ko hc) (by rw[<- hst.1];exact hf)) (λb o hb hbe hc=>l.slot b o hb hbe (ko hc)) l.there) (l.hok I.hok hX (λT z=>(hT T z).1) (by rw[<- hst.1];exact sf)) I.bare λb hb=>?_;obtain⟨_,z2,z3,z4,z5⟩:=hT b (yN hb);exact⟨.inr z2,z3,z4,z5⟩
  ·have fr:s'.heap.objs.size<=T:=l.new
   refine⟨I.hok.fresh fr,Hz I.sz fr,λy=>?_,λx c hxc y=>?_,λp hp y=>?_⟩
   ·exact absurd (HW I.lt fr) (by rw[y];exact Ir _)
   ·obtain⟨w',o,ho,_⟩:=I.cell x c hxc;exact absurd (HW (HN ho) fr) (by rw[y];exact Ir _)
   ·exact absurd (HW (HN (I.pin p hp).1) fr) (by rw[y];exact Ir _)
 ·obtain⟨T,oT,ts,rfl,aa,hg,hd,h3⟩:=id hN;unfold noteFrame;simp only[hst.2];refine Hw (IB he rfl (x:=.ref T) rfl ?_);rw[HU (show (Value.ref T != Value.none)=true from by simp)];refine Hw (IB hg hd h3 ?_);rw[HU (by simp)];exact HI (back σ H' e C dx T a _ I he hN (hT T rfl) hX hE)
end
end DL
namespace DL
open PySem PySem.Spec PyProof.Rows L2
section
theorem GM:rl (CXE X.prog X.w) X (XEs X):=by
 intro pins σ H s v s' I hc;obtain⟨e,C,dx,a,t,H',rfl,os,aa,un,hok,he,ht,hT,hX,hx⟩:=hc;have lo:∀T,t=.ref T->s.heap.objs.size<=T:=λT z=>(hT T z).2;refine hx e C dx pins s' rfl rfl ⟨σ,a,t,I.call' (ch:=[]) os un hok aa (λb z=>absurd z (by simp)),he,ht,λT z=>⟨(hT T z).1,Hz I.sz (lo T z),λy=>?_,λx c hxc y=>?_,λp hp y=>?_⟩,hX⟩
 ·exact absurd (HW I.lt (lo T z)) (by rw[y];exact Ir _)
 ·obtain⟨w',o,ho,_⟩:=I.cell x c hxc;exact absurd (HW (HN ho) (lo T z)) (by rw[y];exact Ir _)
 ·have:=(I.pin p hp).1
  exact absurd (HW (HN this) (lo T z)) (by rw[y];exact Ir _)
end
section
theorem Gr{P:Program}{w:World}{K:Zf}{mg:Str->Zd}{base:Heap}{N:Zb}{qual:Str}{scope:Scope}{f:Addr}{cd:Value}{A:Around}{outer:List Env}{s:Shared}{H:Hp}{E:XK}{pins:List (Addr×Obj)}{H':Hp}{e C dx:Addr}{s':Shared}(L:oV (ni (CXE P w) P w K mg base N qual scope f cd A outer s H E) pins H' e C dx s')(hE:E (.ref e) (some dx) H'):(ni (CXE P w) P w K mg base N qual scope f cd A outer s H E).xe (.ref e) s':=by
 obtain⟨σ,a,t,I',he,ht,hT,hX⟩:=L.ex;show wpAny _ _ _ _ _ _;refine Gq I'.ok.frames I'.stack rfl he ht λh' T l=>?_;have ai:∀T,t=.ref T->H' T=none:=λT z=>(hT T z).1;refine⟨e,C,dx,a,.ref T,H',rfl,I'.os,I'.bare,?_,l.hok I'.hok hX ai I'.stkFree,l.ex,l.tb,λT' z=>?_,hX,hE⟩
 ·have aa:∀b o,s.heap.get? b=some o->t≠.ref b:=λb o hb z=>absurd (HW (HN hb) (hT b z).2.1) (Ir _)
  have ah:∀b o,s.heap.get? b=some o->b≠s.heap.objs.size:=λb o hb=>Iq (HN hb)
  have ne:∀b,H' b=none->b≠e:=λb z q=>by rw[q,hX] at z;cases z
  refine⟨λb o hb hn hf hx=>?_,λb o hb hn hf hx=>?_,λb o hb hn hx=>?_,λb o hb hx=>?_,I'.base.tups,I'.base.frzs,I'.base.tbls⟩
  ·exact l.keep b o (I'.base.keep b o hb hn hf hx) (ne b (I'.base.free b o hb hn hx)) (aa b o hb) λz=>by
    rcases HK.mp (show b∈s.heap.objs.size::frs outer from z) with z | z
    ·exact ah b o hb z
    ·exact hf z
  ·obtain⟨sl,q⟩:=I'.base.slot b o hb hn hf hx;obtain⟨ab,q'⟩:=l.slot b _ q (ne b (I'.base.free b o hb hn hx)) (aa b o hb);exact⟨ab,q'⟩
  ·exact I'.base.free b o hb hn hx
  ·obtain⟨o',q⟩:=I'.base.there b o hb hx;exact l.there b o' q
 ·cases z
  have fr:s'.heap.objs.size<=T:=l.new
  exact⟨I'.hok.fresh fr,Hz I'.sz fr⟩
theorem Ge{P:Program}{w:World}{K:Zf}{mg:Str->Zd}{base:Heap}{N:Zb}{qual:Str}{scope:Scope}{f:Addr}{cd:Value}{A:Around}{outer:List Env}{s:Shared}{H:Hp}{E:XK}{v:Value}{s':Shared}(L:sG (ni (CXE P w) P w K mg base N qual scope f cd A outer s H E) E v s'):(ni (CXE P w) P w K mg base N qual scope f cd A outer s H E).xe v s':=by
 obtain⟨σ,H',e,C,dx,a,t,rfl,I',he,ht,hT,hX,hE⟩:=L
 rcases ht with ht | hN
 ·exact Gr (pins:=[]) ⟨σ,a,t,I',he,ht,hT,hX⟩ hE
 ·obtain⟨T,oT,ts,rfl,aa,hg,hd,h3⟩:=hN;show wpAny _ _ (leaving _ _) _ _ _;unfold leaving noteFrame;refine Hw ?_;show wpAny _ _ (do let head<-field (Value.ref e) 1;_) _ _ _;refine Hw (IB he rfl (x:=.ref T) rfl ?_);rw[HU (show (Value.ref T != Value.none)=true from by simp)];refine Hw (IB hg hd h3 ?_);rw[HU (by simp;rfl)];refine HI ?_;unfold setFlight;refine Hw (IB he rfl (x:=.ref T) rfl ?_);rw[HU (show (Value.ref T != Value.none)=true from by simp)];refine mF I' he aa hg hd (Jj.mp h3).1 (hT T rfl) hX λh' I2 he2 hr=>?_;obtain⟨ah,ab,g1,g2,g3⟩:=hr;refine⟨e,C,dx,a,.ref T,H',rfl,I2.os,I2.bare,I2.base,I2.hok,he2,.inr ⟨T,ah,ab,rfl,aa,g1,g2,g3⟩,λT' z=>?_,hX,hE⟩
  cases z
  exact⟨(hT T rfl).1,(hT T rfl).2.1⟩
end
theorem PSs.lx{X:Cx}{W:Value->Shared->Prop}{st:List Stmt}{t:TS}(h:PSs { X with xe:=W } st t)(hW:∀v s',W v s'->X.xe v s'):PSs X st t:=λpins s σ H D I hw =>
 IU (h pins s σ H D (toLx I) hw) (λf s' q=>by
  cases f with
  | next=>obtain⟨σ',H',I',q⟩:=q;exact⟨σ',H',ofLx I',q⟩
  | brk=>obtain⟨σ',H',I',q⟩:=q;exact⟨σ',H',ofLx I',q⟩
  | cont=>obtain⟨σ',H',I',q⟩:=q;exact⟨σ',H',ofLx I',q⟩
  | ret u=>obtain⟨v,σ',H',I',r,q⟩:=q;exact⟨v,σ',H',ofLx I',r,q⟩) hW
abbrev FE:=List D->(D->Prop)->(Str->Str->D->Prop)->Prop
inductive spE(K:Zf)(f:FE)(vs:Zg)(H:Hp)(Q:VK)(E:XK):Prop
 | mk (M:Addr->Prop) (ds:Zi) (R:D->Prop) (RE:Str->Str->D->Prop) (m:∀b,M b->H b≠none) (rs:Reps K M H ds vs) (h:f ds R RE) (k:∀d,R d->∀v H',bE H H'->G3 K M H' d v->Q v H')
  (kx:∀c fl d,RE c fl d->∀e C dx H',bE H H'->H' e=some (XAt e C dx)->G3 K M H' (.exn c fl d) (.ref e)->E (.ref e) (some dx) H')
structure wj(P:Program)(w:World)(K:Zf)(mg:Str->Zd)(base:Heap)(k:Nat)(x:Str)(ps:Zb)(f:FE):Prop where
 ex:∃(a:Addr) (fd:FuncData),f7 P w K mg base (CXE P w) k a fd ps (spE K f)/\eU K fd ps []/\PySem.W.keepIn K (.ref a)=true/\mg x=some (.ref a)
section
theorem fn_E{P:Program}{w:World}{K:Zf}{mg:Str->Zd}{base:Heap}{x:Str}{st:Stmt}{N ps:Zb}{k:Nat}{f:FE}(F:Fd K mg x st ps)(Sc:ax N ps (ak st))(len:∀ds R RE,f ds R RE->ds.length=ps.length)
    (hbody:∀(a:Addr) (cdv:Value) (A:Around) (outer:List Env) (s:Shared) (H:Hp) (E:XK) (ds:Zi) (R:D->Prop) (RE:Str->Str->D->Prop),cI k (A.deeper (envOfC x (ak st) s.heap.objs.size a cdv))->f ds R RE ->
      ∃t,DSs ((ni (CXE P w) P w K mg base N x (ak st) a cdv A outer s H E).lx E) (aU st) t/\t { nx:=λ_=>R .non,rt:=λd _=>R d,ro:=R,ex:=RE } (dy N ds)) :
    wj P w K mg base (k+1) x ps f:=by
  obtain⟨a,fd,Fu,b,m⟩:=F.ex;refine⟨a,fd,?_,b,Fu.kp,m⟩;obtain⟨oc,od,kV,aj,pm,an,cdv,ct,ai,rfl,lk,ab⟩:=Fu.ex;refine Dx lk ab Sc (λvs H Q E h=>?_) λA outer s H vs Q E hr h=>?_
  · obtain⟨M,ds,R,RE,_,rs,hf,_,_⟩:=h;rw[<- Reps.length _ _ rs];exact len _ _ _ hf
  · obtain⟨M,ds,R,RE,hm,rs,hf,hk,aa⟩:=h;obtain⟨t,ht,hq⟩:=hbody a cdv A outer s H E ds R RE hr hf;refine⟨_,PSs.lx ht (λ_ _=>Ge),⟨M,H,λ_=>False⟩,dy N ds,[],_,pe N hm rs,hq,λδ' r σ' H' hs=>?_,⟨λd δ' r v σ' H' hs=>?_,λd r a H' hs=>?_,λc fl d r e C dx δ' σ' H' hs hX=>?_⟩,λ_ h=>h.elim,λ_ h=>h.elim,λz=>z.elim⟩
    · obtain⟨A',x⟩:=hs;exact hk .non r .non H' (λb o e=>x.old b o e id) (by unfold G3;rfl)
    · obtain⟨A',x⟩:=hs;exact hk d r v H' (λb o e=>x.old b o e id) (G3.more (λb z=>.inl (.inl z)) _ _ (x.pnd (d,v) (by simp)))
    · obtain⟨o1,o2,o3,o4⟩:=hs;exact hk d r (.ref a) H' (λb o e=>o1 b o e id) (o4.rep o3 λb z=>.inl z)
    · obtain⟨A',x⟩:=hs;intro e' C' ah pins s' hC hd L
      cases hC
      cases hd
      refine yj L ?_;exact aa c fl d r e C dx H' (λb o q=>x.old b o q id) hX (G3.more (λb z=>.inl (.inl z)) _ _ (x.pnd (.exn c fl d,.ref e) (by simp)))
end
section
variable {X:Cx} {pos:Pos} {a:Expr} {es:List Expr} {ta:GX} {t:TDA} {f:FE}
theorem eQ{K:Zf}{G:Gf}{δ:En}{P:List (D×V)}{σ:L2.St}{H:Hp}{Q:VK}{Wx:XK}{Rv:D->En->Prop}{RE:Str->Str->D->Prop}(s:S K G δ P σ H)(h:t δ λds δ1=>f ds (λd=>Rv d δ1) RE)
  (k:∀d δ',Rv d δ'->∀v H',S K G δ' ((d,v)::P) σ H'->Q v H') (kx:∀c fl d,RE c fl d->∀e C dx δ' σ' H',S K G δ' ((.exn c fl d,.ref e)::P) σ' H'->H' e=some (XAt e C dx)->Wx (.ref e) (some dx) H') :
  zY (spE K f) [] Wx (upA K t) σ H Q:=by
 refine⟨G,δ,P,_,s,h,λds δ1 h1 vs H1 hl s1=>?_⟩;obtain⟨A,x⟩:=s1;rw[IE];refine⟨λb=>G.M0 b\/A b,ds,_,RE,x.mem,x.reps ds vs hl (λq hq=>HV _ hq),h1,λd r v H' sm rp=>k d δ1 r v H' ⟨A,((x.same sm).sub (P':=P) λq hq=>HP _ hq).push rp⟩,λc fl d r e C dx H' sm hX rp=>kx c fl d r e C dx δ1 σ H' ⟨A,((x.same sm).sub (P':=P) λq hq=>HP _ hq).push rp⟩ hX⟩
def kS(i:Nat)(R:aL)(δ:En)(d:D):Prop:=jT δ i (.dat d) R.nx
def kT(R:aL)(δ:En)(d:D):Prop:=R.rt d δ
def kX(R:aL)(δ:En)(_:D):Prop:=R.nx δ
def EC(i:Nat)(f:FE)(t:TDA)(R:aL)(δ:En):Prop:=t δ λds δ1=>f ds (kS i R δ1) R.ex
def Dl(f:FE)(t:TDA)(R:aL)(δ:En):Prop:=t δ λds δ1=>f ds (kT R δ1) R.ex
def yW(f:FE)(t:TDA)(R:aL)(δ:En):Prop:=t δ λds δ1=>f ds (kX R δ1) R.ex
theorem gN(C:wj X.prog X.w X.K X.mg X.base k x ps f)(hr:cI k X.A)(hg:Gl X x)(ha:DA X (a::es) t)(hdb:(x==("__debug__":Str))=false:=by decide)
  (he:starEach (a::es) X.env=(false,eval a X.env)::starEach es X.env:=by rfl) (hpl:(backTo pos (starEach es X.env)).any (·.1)=false:=by rfl):PE X (.Call (.Name x p) (a::es) [] pos) (zY (spE X.K f) [] (XEs X) (upA X.K t)):=by
 obtain⟨g,fd,F,b,kp,m⟩:=C.ex;exact f6 F hr hg m kp b .nil GM ha hdb he hpl
theorem vQ(i:Nat){x y:Str}{k:Nat}{ps:Zb}{p pos' cpos:Pos}(hN:X.N.Nodup)(C:wj X.prog X.w X.K X.mg X.base k x ps f)(hr:cI k X.A)(hg:Gl X x)(ha:DA X (a::es) t)(hdb:(x==("__debug__":Str))=false:=by decide)
  (he:starEach (a::es) X.env=(false,eval a X.env)::starEach es X.env:=by rfl) (hpl:(backTo cpos (starEach es X.env)).any (·.1)=false:=by rfl) (hi:X.N[i]?=some y:=by rfl) (hx:Loc X.env.scope y:=by walk_at "v2")
  (hs:swapsWith (.Call (.Name x p) (a::es) [] cpos) (some (.Name y pos')) pos.line X.env=pure false:=by rfl) (hf:X.fn y=true\/X.env.scope.names.lookup y=some .local :=by walk_at "v1") :
  DS X (.Assign [.Name y pos'] (.Call (.Name x p) (a::es) [] cpos) pos) (EC i f t) :=
 PS.imp (gx hN hi hx (gN C hr hg ha hdb he hpl) hs hf) λE σ H hu=>by
  obtain⟨G,δ,P,R,s,h,k1,k2,_⟩:=hu;exact eQ (Rv:=λd δ1=>R.nx (δ1.set i (.dat d))) s h (λd δ' r v H' s1=>k1 _ r _ H' (s1.set (by simp) λp hp=>by simp[hp])) k2.2.2
theorem BN(C:wj X.prog X.w X.K X.mg X.base k x ps f)(hr:cI k X.A)(hg:Gl X x)(ha:DA X (a::es) t)(hdb:(x==("__debug__":Str))=false:=by decide)
  (he:starEach (a::es) X.env=(false,eval a X.env)::starEach es X.env:=by rfl) (hpl:(backTo cpos (starEach es X.env)).any (·.1)=false:=by rfl):DS X (.Return (some (.Call (.Name x p) (a::es) [] cpos)) pos) (Dl f t) :=
 PS.imp (qz (gN C hr hg ha hdb he hpl)) λE σ H hu=>by
  obtain⟨G,δ,P,R,s,h,k1,k2,_⟩:=hu;exact eQ (Rv:=λd δ1=>R.rt d δ1) s h (λd δ' r v H' s1=>k2.1 d δ' r v σ H' s1) k2.2.2
theorem xi{x:Str}{k:Nat}{ps:Zb}{p cpos:Pos}(C:wj X.prog X.w X.K X.mg X.base k x ps f)(hr:cI k X.A)(hg:Gl X x)(ha:DA X (a::es) t)(hdb:(x==("__debug__":Str))=false:=by decide)
  (he:starEach (a::es) X.env=(false,eval a X.env)::starEach es X.env:=by rfl) (hpl:(backTo cpos (starEach es X.env)).any (·.1)=false:=by rfl) (hs:swapsWith (.Call (.Name x p) (a::es) [] cpos) none pos.line X.env=pure false:=by rfl) :
  DS X (.Expr (.Call (.Name x p) (a::es) [] cpos) pos) (yW f t) :=
 PS.imp (eO (gN C hr hg ha hdb he hpl) hs) λE σ H hu=>by
  obtain⟨G,δ,P,R,s,h,k1,k2,_⟩:=hu;exact eQ (Rv:=λ_ δ1=>R.nx δ1) s h (λd δ' r v H' s1=>k1 _ r _ H' (s1.sub λp hp=>by simp[hp])) k2.2.2
variable {C R fI:Addr} {fld:Str} {k:Nat} {fd:FuncData} {ps:Zb} {x:Str} {p cpos:Pos} {b:Bool}
theorem G3.made{K:Zf}{G:Gf}{δ:En}{P P':List (D×V)}{σ:L2.St}{H:Hp}{c:Str}{d:D}{v:V}{e dx:Addr}{o:HO}(s:S K G δ P σ H)(hp:(d,v)∈P)(hs:∀q∈P',q∈P)(he:H e=none)(hdx:H dx=none)(hne:dx≠e)(ho:o=XAt e C dx\/o=tF e C dx)
  (hns:PySem.W.nsIn K mainGlobals c=some (some (.ref C))):S K G δ ((.exn c fld d,.ref e)::P') σ (G6 (G6 H dx (.xd [(fld,v)])) e o):=by
 obtain⟨A,x⟩:=s;have sm:bE H (G6 (G6 H dx (.xd [(fld,v)])) e o):=bE.trans (aF hdx _) (aF (by rw[aG (Jr hne)];exact he) _);refine⟨A,((x.same sm).sub hs).push ?_⟩;unfold G3;refine⟨v,⟨⟨e,C,dx,rfl,λz=>x.mem e z he,λz=>x.mem dx z hdx,?_,?_,hns⟩⟩,G3.kp (Kp.of_same sm) _ _ (x.pnd (d,v) hp)⟩
 ·rw[av];exact ho.imp (λz=>by rw[z]) λz=>by rw[z]
 ·rw[aG hne,av]
def pdB:Bool->D->Prop
 | false,_=>True
 | true,d=>∃x,d=.str x/\x.length<=100
theorem pdB.rep{K:Zf}{M:Addr->Prop}{H:Hp}{b:Bool}{d:D}{v:V}(h:pdB b d)(r:G3 K M H d v):pyB b v:=by
 cases b with
 | false=>trivial
 | true =>
  obtain⟨x,rfl,l⟩:=h;unfold G3 at r;exact⟨x,r,l⟩
theorem S.pd{K:Zf}{G:Gf}{δ:En}{P:List (D×V)}{σ:L2.St}{H:Hp}{b:Bool}{d:D}{v:V}(s:S K G δ ((d,v)::P) σ H)(h:pdB b d):pyB b v:=let ⟨_,x⟩:=s;h.rep (x.pnd (d,v) (HB ..))
end
theorem upd2:G6 (G6 H e a) e b=G6 H e b:=funext λz=>by
 by_cases h:z=e
 ·rw[h,av,av]
 ·rw[aG h,aG h,aG h]
section
variable {X:Cx} {pos:Pos} {a:Expr} {ta:GX} {C R fI:Addr} {fld:Str} {k:Nat} {fd:FuncData} {ps:Zb} {x:Str} {p cpos:Pos} {t:TA} {b:Bool}
def AB(X:Cx)(C:Addr)(fld:Str)(b:Bool)(t:TA):TS:=λ_ σ H=>y9 C fld b t σ H λv H3=>∃e dx y H2,v=.ref e/\H3=G6 (G6 H2 dx (.xd [(fld,y)])) e (tF e C dx)/\XEs X (.ref e) (some dx) (G6 (G6 H2 dx (.xd [(fld,y)])) e (XAt e C dx))
theorem tR(ek:EK X.K C R fld)(em:EM X.K C R fI)(F:f7 X.prog X.w X.K X.mg X.base CX0 k fI fd ps (spI C fld b))(hr:cI (k+1) X.A)(hg:Gl X x)(hm:X.mg x=some (.ref C))(hb:eU X.K fd ps [])(ha:PA X [a] t)(hc:X.calm=true)
  (hdb:(x==("__debug__":Str))=false:=by decide) (he:starEach [a] X.env=(false,eval a X.env)::starEach [] X.env:=by rfl) (hpl:(backTo cpos (starEach [] X.env)).any (·.1)=false:=by rfl) :
  PS X (.Raise (some (.Call (.Name x p) [a] [] cpos)) none pos) (AB X C fld b t):=by
 intro pins s1 σ H1 D I h;obtain⟨Nn,NR,mN,mR,c2,_⟩:=ek.ex;rw[arm_exec_Raise];refine Hw (J3 (Ew (C:=C) (N:=Nn) (R:=R) (NR:=NR) (mN:=mN) (mR:=mR) (I.ok.hd hc) (Hw (Ha (w9 em F hr hg hm hb ha hdb he hpl pins s1 σ H1 _ I h) λv s2 hs2=>?_))));obtain⟨v',H3,I3,r,e,dx,y,H2,rfl,rfl,hE⟩:=hs2
 cases r
 obtain⟨a',aa⟩:=(I3.hok e _ av).1;obtain⟨hh,g,d,tk,os⟩:=s2;have I4:=I3.write (t':=tk) (x:=e) (e:=e) (o:=XAt e C dx) (h':=hh) (by rw[av];trivial) (.inl rfl) (λ_ _ _ q=>q) ⟨_,aa⟩ ⟨⟨a',.none,aa⟩,⟨_,aa⟩,λh1 h2 p k=>by obtain⟨a,t,p⟩:=p;exact⟨a,t,k _ p⟩⟩;rw[upd2] at I4;exact Hw (J3 (HI ⟨e,some dx,a',rfl,c2 _ I3.kIn,aa,hE e C dx pins _ rfl rfl ⟨σ,a',.none,I4,aa,.inl rfl,(λT z=>nomatch z),av⟩⟩))
def uz(c f:Str)(b:Bool)(ta:GX)(R:aL)(δ:En):Prop:=ta δ (wd λd _=>pdB b d/\R.ex c f d)
theorem ye(ek:EK X.K C R fld)(em:EM X.K C R fI)(F:f7 X.prog X.w X.K X.mg X.base CX0 k fI fd ps (spI C fld b))(hr:cI (k+1) X.A)(hg:Gl X x)(hm:X.mg x=some (.ref C))(hb:eU X.K fd ps [])(hns:PySem.W.nsIn X.K mainGlobals x=some (some (.ref C)))(ha:DE X a ta)(hc:X.calm=true:=by rfl)
  (hdb:(x==("__debug__":Str))=false:=by decide) (he:starEach [a] X.env=(false,eval a X.env)::starEach [] X.env:=by rfl) (hpl:(backTo cpos (starEach [] X.env)).any (·.1)=false:=by rfl) :
  DS X (.Raise (some (.Call (.Name x p) [a] [] cpos)) none pos) (uz x fld b ta) :=
 PS.imp (tR ek em F hr hg hm hb (aJ ha b9 he) hc hdb he hpl) λE σ H hu=>by
  obtain⟨G,δ,P,R',s,h,k1,k2,_⟩:=hu;refine up.mk s h λd δ1 h1 v H1 s1=>⟨v,rfl,s1.pd h1.1,λe dx he hdx hne=>⟨e,dx,v,H1,rfl,rfl,?_⟩⟩;exact k2.2.2 x fld d h1.2 e C dx δ1 σ _ (G3.made s1 (by simp) (λq hq=>by simp[hq]) he hdx hne (.inl rfl) hns) av
end
end DL
namespace DL
open PySem PySem.Spec PyProof.Rows L2
structure XG(K:Zf)(C:Addr):Prop where
 ga:PySem.W.findIn K (.ref C) "__getattribute__"=some (some (.builtin "BaseException.__getattribute__"))
 gh:PySem.W.findIn K (.ref C) "__getattr__"=some none
 be:PySem.W.mroIn K C (.type "BaseException")=some true
 ob:PySem.W.mroIn K C (.type "object")=some true
 hd:PySem.W.hasDictIn K C=true
 cl:PySem.W.findIn K (.ref C) "__class__"=some (some (.builtin "object.__class__"))
 cg:PySem.W.specialIn K (.builtin "object.__class__") "__get__"=some (some (.builtin "getset_descriptor.__get__"))
 ct:PySem.W.takesIn K (.builtin "object.__class__")=some true
section
theorem AL{prog:Program}{w:World}{A:Around}{E:Value->Shared->Prop}{s:Shared}{K:Zf}{x C:Addr}{ox:Obj}{od:Option Obj}{name:Str}{tk:Tok}{v:Value}{Q:Fin->Shared->Prop}(X:K.In s.heap)(I:PySem.W.InstAt s.heap x ox C od)(hf:PySem.W.findObj K C od name=some (.value v))(h:Q (.done (.ret v)) s) :
  wpAny (model prog w) A (Builtin.«object.__getattribute__» ⟨[.ref x,.str name tk],[]⟩) Q E s:=by
 obtain⟨hh,g,d,t,os⟩:=s;have L0:=I.type (M:=model prog w);have L1:=PySem.W.looks_find (M:=model prog w) X I hf;refine Hw (HI (Hw (HI (Hw (L0.at (Hw (L1.at ?_)))))));exact HI h
theorem Ab{prog:Program}{w:World}{A:Around}{E:Value->Shared->Prop}{s:Shared}{K:Zf}{x C:Addr}{ox:Obj}{od:Option Obj}{tk:Tok}{Q:Fin->Shared->Prop}(X:K.In s.heap)(g:XG K C)(I:PySem.W.InstAt s.heap x ox C od)(h:Q (.done (.ret (.ref C))) s) :
  wpAny (model prog w) A (Builtin.«object.__getattribute__» ⟨[.ref x,.str "__class__" tk],[]⟩) Q E s:=by
 have hf:PySem.W.findObj K C od "__class__"=some (.bind (.builtin "getset_descriptor.__get__") (.builtin "object.__class__")):=by
  obtain⟨cd,hc,_⟩:=PySem.W.any_some g.hd;unfold PySem.W.findObj;rw[hc,Option.bind_some,g.cl,Option.bind_some];simp[g.cg,g.ct]
 have L0:=I.type (M:=model prog w)
 have L1:=PySem.W.looks_find (M:=model prog w) X I hf
 obtain⟨hh,gg,d,t,os⟩:=s;refine Hw (HI (Hw (HI (Hw (L0.at (Hw (L1.at ?_)))))));show wpAny _ _ (holding [Value.builtin "object.__class__"] (call (.builtin "getset_descriptor.__get__") [.builtin "object.__class__",.ref x,.ref C]) >>= ret) _ _ _;exact Hw (Jb (wpAny_call (PySem.W.class_get (s:=⟨hh,gg,d,t,os⟩) X I g.ob (HI h))))
theorem tS{A:Around}{E:Value->Shared->Prop}{s:Shared}{K:Zf}{x C:Addr}{ox:Obj}{od:Option Obj}{M:Model}{nameV:Value}{Q:Unit->Shared->Prop}(X:K.In s.heap)(g:XG K C)(I:PySem.W.InstAt s.heap x ox C od)(hq:Q () s):wpAny M A (checkBuiltinCall "BaseException.__getattribute__" ⟨[.ref x,nameV],[]⟩) Q E s:=by
 obtain⟨hh,gg,d,t,os⟩:=s;have L0:=I.type (M:=M);have L3:=PySem.W.looks_mroIn (M:=M) X g.be;have hk:builtinKind "BaseException.__getattribute__"=some .slot:=by decide +kernel
 have aa:splitId "BaseException.__getattribute__"=some ("BaseException","__getattribute__"):=by decide +kernel
 have ha:=PySem.F.args_bexc_ga (.ref x) nameV
 simp only[checkBuiltinCall,hk,aa];refine Hw ?_;unfold isInstance
 repeat (first | (with_reducible refine L0.at ?_) | (with_reducible refine L3.at ?_) | wp_step)
 exact hq
theorem yS{prog:Program}{w:World}{A:Around}{E:Value->Shared->Prop}{s:Shared}{K:Zf}{x C:Addr}{ox:Obj}{od:Option Obj}{name:Str}{tk:Tok}{v:Value}{fill expr:Bool}{Q:Value->Shared->Prop}(X:K.In s.heap)(g:XG K C)(I:PySem.W.InstAt s.heap x ox C od)(hv:PySem.W.handedIn v=true)
  (body:∀(A:Around) (E:Value->Shared->Prop) (Q:Fin->Shared->Prop),Q (.done (.ret v)) s->wpAny (model prog w) A (Builtin.«object.__getattribute__» ⟨[.ref x,.str name tk],[]⟩) Q E s) (h:Q v s) :
  wpAny (model prog w) A (getAttrBy (.ref x) (.str name tk) fill expr) Q E s:=by
 obtain⟨hh,gg,d,t,os⟩:=s;have L0:=I.type (M:=model prog w);have L1:=PySem.W.looks_findIn (M:=model prog w) X g.ga;have L2:=PySem.W.looks_findIn (M:=model prog w) X g.gh;have f3:=PySem.F.attrBase_ValueError.ga.bind (.ref x);have ah:(expr&&onTheHeap (Value.builtin "BaseException.__getattribute__"))=false:=by cases expr<;>rfl
 have aa:(Value.builtin "BaseException.__getattribute__"==Value.builtin "object.__getattribute__")=false:=by decide +kernel
 have ab:(onTheHeap (Value.ref C)&&Value.builtin "BaseException.__getattribute__"==Value.builtin "object.__getattribute__")=false:=by rw[aa];rfl
 repeat (any_goals (first | assumption | (with_reducible refine L0.at ?_) | (with_reducible refine L1.at ?_) | (with_reducible refine L2.at ?_) | wp_step))
 refine KH PySem.F.attrBase_ValueError.ga.plain PySem.F.entry_bexc_ga (tS X g I (body _ _ _ ?_));show wpAny _ _ (handedOut v) _ _ _;rw[PySem.W.handedOut_of hv];exact HI h
theorem xget{prog:Program}{w:World}{A:Around}{E:Value->Shared->Prop}{s:Shared}{K:Zf}{x C:Addr}{ox:Obj}{od:Option Obj}{name:Str}{v:Value}{expr:Bool}{Q:Value->Shared->Prop}(X:K.In s.heap)(g:XG K C)(I:PySem.W.InstAt s.heap x ox C od)(hv:PySem.W.handedIn v=true)
  (body:∀(A:Around) (E:Value->Shared->Prop) (Q:Fin->Shared->Prop),Q (.done (.ret v)) { s with toks:=s.toks+1 }->wpAny (model prog w) A (Builtin.«object.__getattribute__» ⟨[.ref x,.str name s.toks],[]⟩) Q E { s with toks:=s.toks+1 })
  (h:Q v { s with toks:=s.toks+1 }):wpAny (model prog w) A (getAttr (.ref x) name expr) Q E s:=by
 unfold getAttr;exact Hw (wpAny_mkText (yS (s:={ s with toks:=s.toks+1 }) X g I hv body h))
theorem xget?{prog:Program}{w:World}{A:Around}{E:Value->Shared->Prop}{s:Shared}{K:Zf}{x C:Addr}{ox:Obj}{od:Option Obj}{name:Str}{v:Value}{Q:Zd->Shared->Prop}(X:K.In s.heap)(g:XG K C)(I:PySem.W.InstAt s.heap x ox C od)(hv:PySem.W.handedIn v=true)
  (body:∀(A:Around) (E:Value->Shared->Prop) (Q:Fin->Shared->Prop),Q (.done (.ret v)) { s with toks:=s.toks+1 }->wpAny (model prog w) A (Builtin.«object.__getattribute__» ⟨[.ref x,.str name s.toks],[]⟩) Q E { s with toks:=s.toks+1 })
  (h:Q (some v) { s with toks:=s.toks+1 }):wpAny (model prog w) A (getAttr? (.ref x) name) Q E s:=by
 unfold getAttr? getAttrBy?;exact Hw (wpAny_mkText (Hw (wpAny_attempt (yS (s:={ s with toks:=s.toks+1 }) X g I hv body (HI h)))))
end
theorem AU(n:Nat):∃h:Heap,h.objs.size=n:=by
 induction n with
 | zero=>exact⟨{ objs:=#[] },rfl⟩
 | succ n ih =>
  obtain⟨h,e⟩:=ih;exact⟨h.push { cls:=.type "tuple",data:=.seq #[] },by rw[Jm,e]⟩
theorem Bn(h:XAt e C dx=XAt e C' dx'\/XAt e C dx=tF e C' dx'):C=C'/\dx=dx':=by
 obtain⟨g,hg⟩:=AU e;have q:(g.push (GZ C (some dx) .none .none)).get? e=some (GZ C (some dx) .none .none):=by
  rw[<- hg];exact HX g rfl
 have p:∃a t,(g.push (GZ C (some dx) .none .none)).get? e=some (GZ C' (some dx') a t):=by
  rcases h with h | h
  ·have z:=congrFun (HO.ext.inj h) (g.push (GZ C (some dx) .none .none))
   exact z.mp ⟨_,_,q⟩
  ·have z:=congrFun (HO.ext.inj h) (g.push (GZ C (some dx) .none .none))
   obtain⟨a,r⟩:=z.mp ⟨_,_,q⟩;exact⟨a,.none,r⟩
 obtain⟨a,t,r⟩:=p;rw[q] at r;have r:=HR r;exact⟨Value.ref.inj (Jf Obj.cls r),HR (Jf Obj.dict r)⟩
section
theorem Sx.raised{K:Zf}{G:Gf}{A:Addr->Prop}{δ:En}{P:List (D×V)}{σ σ':L2.St}{H:Hp}{i j n:Nat}{c f:Str}{d:D}{e:Addr}(s:Sx K G A δ ((.exn c f d,.ref e)::P) σ H)(hl:σ'.length=n)(hij:i≠j)(hn:i<n):Sx K G A ((List.replicate n .no).set i (.dat (.exn c f d))) P (((σ'.set j (some (.ref e))).set i (some (.ref e))).set j none) H:=by
 have aa:∀(k:Nat) (y:Sl),y≠.no->((List.replicate n Sl.no).set i (.dat (.exn c f d)))[k]?=some y->i=k/\y=.dat (.exn c f d):=λk y hy q=>by
  by_cases hk:i=k
  ·subst hk;rw[Il (by simpa using hn)] at q;exact⟨rfl,(HR q).symm⟩
  ·rw[Io hk,IH] at q
   split at q
   ·exact absurd (HR q).symm hy
   ·cases q
 refine⟨s.old,s.stay,s.m0,s.pm,s.new,s.thr,by simp[hl],λk d' q=>?_,λk a d' q=>?_,λk l a d' e' q _=>?_,λp hp=>s.pnd p (Hx _ hp)⟩
 ·obtain⟨rfl,z⟩:=aa k _ (by simp) q
  cases z
  refine⟨.ref e,?_,s.pnd _ (HB ..)⟩;rw[Io (Jr hij),Il (by simp[hl,hn])]
 ·obtain⟨_,z⟩:=aa k _ (by simp) q
  cases z
 ·obtain⟨_,z⟩:=aa k _ (by simp) q
  cases z
end
def dTry(cs:Zb)(i j:Nat)(tb:TDS)(R:aL)(δ:En):Prop:=(i<δ.length/\j<δ.length)/\tb { R with ex:=λc f d=>c∈cs/\R.nx ((List.replicate δ.length .no).set i (.dat (.exn c f d))) } δ
def ph(K:Zf)(R:Addr)(cs:Zb):Prop:=∀c∈cs,∀C,PySem.W.nsIn K mainGlobals c=some (some (.ref C))->∃N NR mN mR,∀h,K.In h->C2 h C N R NR mN mR
section
theorem Fl(i j:Nat)(hst:X.stack=X.env::X.outer/\X.env.frame=some X.env.locals)(hN:X.N.Nodup)(hij:i≠j)(hg:Gl X xR)(hm:X.mg xR=some (.ref R))(hcs:ph X.K R cs)
  (hb:∀(pins:List (Addr×Obj)) (E:Value->Shared->Prop),DSs (X.inTry pins E) body tb) (hj:X.N[j]?=some n:=by rfl) (hk:X.env.scope.names.lookup n=some .local :=by rfl) (hi:X.N[i]?=some y:=by rfl) (hki:X.env.scope.names.lookup y=some .local :=by rfl)
  (hdb:(xR==("__debug__":Str))=false:=by decide) (hd:(n==("__debug__":Str))=false:=by decide) (hcd:(n==("__classdict__":Str))=false:=by decide)
  (hs:∀A' E',swapsWith (.Name n p2) (some (.Name y p1)) p3.line (X.hdl A' E').env=pure false:=by intro _ _;rfl) :
  DS X (.Try body [.ExceptHandler (some (.Name xR np)) (some n) [.Assign [.Name y p1] (.Name n p2) p3] hpos] [] [] pos) (dTry cs i j tb) :=
 PS.imp (CS (tb:=λpins E=>upS (X.inTry pins E) tb) hst hN hj hk hg hm hb (λA' E'=>iX (gx (X:=X.hdl A' E') (i:=i) hN hi (.inl hki) (a4 (X:=X.hdl A' E') (i:=j) hj (.inl hk) hd hcd) (hs A' E') (.inr hki))) hdb) λE σ H hu=>by
  obtain⟨G,δ,P,R0,s,⟨⟨ai,al⟩,h⟩,k1,k2,k3,k4,k5⟩:=hu;have aa:δ.length=σ.length:=let ⟨_,x⟩:=s;x.len;refine⟨λev dxo H'=>∃c f d e C dx δ' σ',ev=.ref e/\dxo=some dx/\c∈cs/\R0.nx ((List.replicate δ.length .no).set i (.dat (.exn c f d)))/\S X.K G δ' ((.exn c f d,.ref e)::P) σ' H'/\H' e=some (XAt e C dx),?_,?_,?_⟩
  ·rintro e C dx H' hX ⟨c,f,d,e',C',ab,δ',σ',q1,q2,hc,_,⟨A,x⟩,hX'⟩
   cases q1
   cases q2
   have rp:=x.pnd (.exn c f d,.ref e) (HB ..)
   unfold G3 at rp;obtain⟨y,xr,_⟩:=rp;obtain⟨e2,C2,ao,q,_,_,ho,_,ah⟩:=xr.ex
   cases q
   have z:=Bn (ho.imp (λz=>HR (hX.symm.trans z)) λz=>HR (hX.symm.trans z))
   rw[z.1];exact hcs c hc C2 ah
  ·intro pins E1 hE;refine⟨G,δ,P,_,s,h,k1,⟨k2.1,k2.2.1,λc f d hcn e C dx δ' σ' H' s' hX=>?_⟩,k3,k4,k5⟩;intro e' C' ab an s1 q1 q2 L
   cases q1
   cases q2
   obtain⟨σ1,a,t,I1,he,ht,hT,aj⟩:=L.ex;refine hE _ _ ⟨σ1,H',e,C',dx,a,t,rfl,uu I1,he,ht,λT z=>?_,aj,c,f,d,e,C,dx,δ',σ',rfl,rfl,hcn.1,hcn.2,s',hX⟩;obtain⟨z1,z2,z3,z4,z5⟩:=hT T z;exact⟨z1,z2,z3,z4,λp hp=>z5 p (HV _ hp)⟩
  ·rintro σ' H' e C dx hl hX ⟨c,f,d,e',C',ab,δ',σ'',q1,q2,hc,hn,⟨A,x⟩,hX'⟩
   cases q1
   cases q2
   refine⟨.ref e,?_,?_⟩
   ·rw[Il (by rw[hl,<- aa];exact al)]
   ·exact k1 _ hn _ H' ⟨A,x.raised (by rw[hl,aa]) hij ai⟩
end
def tFs(te:TE):TE:=λσ H Q=>te σ H λv H1=>∃x,v=.str x/\x.length<=100/\∀y,Q (.str y) H1
section
theorem By{j}(he:PE X e te)(hc:c.length<=1000:=by decide +kernel):PE X (.JoinedStr [.Constant (.str c) j p1,.FormattedValue e (-1) none p2] pos) (tFs te):=by
 intro pins s σ H Q I h;have ec:(Str.empty++c).length<=1000:=by rw[strLen_append];exact Hz (Nat.le_of_eq (by rw[show Str.empty.length=0 from rfl,Nat.zero_add])) hc
 refine JoinedStr_many (joinParts_cons (Ha (pL (x:=c) (j:=j) (pos:=p1) pins s σ H (λv H1=>v=.str c/\tFs te σ H1 Q) I ⟨rfl,h⟩) λu s1 hs1=>?_));obtain⟨v,H1,I1,r,rfl,h1⟩:=hs1;obtain⟨t,rfl⟩:=r;refine⟨Hz ec (by decide),joinParts_cons (FormattedValue_plain (Ha (he pins s1 σ H1 _ I1 h1) λu2 s2 hs2=>?_))⟩;obtain⟨v2,H2,I2,r2,x,rfl,hx,q⟩:=hs2;obtain⟨t2,rfl⟩:=r2;refine formatField_str (λt' tk=>?_) (Hz hx (by decide));have e2:(Str.empty++c++x).length<=2000:=by rw[strLen_append];omega
 exact⟨Hz e2 (by decide),joinParts_nil ⟨.str _,H2,(I2.tok tk).tok _,⟨_,rfl⟩,q _⟩ (Hz e2 (by decide))⟩
end
structure Exc(P:Program)(w:World)(K:Zf)(mg:Str->Zd)(base:Heap)(k:Nat)(x f:Str)(b:Bool):Prop where
 ex:∃(C R fI:Addr) (fd:FuncData) (ps:Zb),EK K C R f/\EM K C R fI/\f7 P w K mg base CX0 k fI fd ps (spI C f b)/\eU K fd ps []/\mg x=some (.ref C)/\PySem.W.nsIn K mainGlobals x=some (some (.ref C))
section
theorem ds_x(E:Exc X.prog X.w X.K X.mg X.base k x f b)(hr:cI (k+1) X.A)(hg:Gl X x)(ha:DE X a ta)(hc:X.calm=true:=by rfl)
  (hdb:(x==("__debug__":Str))=false:=by decide) (he:starEach [a] X.env=(false,eval a X.env)::starEach [] X.env:=by rfl) (hpl:(backTo cpos (starEach [] X.env)).any (·.1)=false:=by rfl) :
  DS X (.Raise (some (.Call (.Name x p) [a] [] cpos)) none pos) (uz x f b ta):=by
 obtain⟨C,R,fI,fd,ps,ek,em,F,hb,hm,aa⟩:=E.ex;exact ye ek em F hr hg hm hb aa ha hc hdb he hpl
end
def mNs(K:Zf)(N:Addr):Str->Zd:=λx=>match K.lookup N with
 | some ⟨_,_,.dict es _,_⟩=>nsFind es x
 | _=>none
theorem mr.ns{K:Zf}{N:Addr}{h:Heap}(q:mr K N=true)(X:K.In h):h.Ns N (mNs K N):=by
 unfold mr at q
 split at q
 ·rename_i c d es n sl e
  refine⟨_,es,n,X _ _ e,rfl,λen hen=>?_,λname=>?_⟩
  ·have:=JB.mp q en (by simpa using hen)
   split at this
   ·rename_i y t z
    exact⟨y,t,z⟩
   ·cases this
  ·unfold mNs;rw[e]
 ·cases q
theorem kl{K:Zf}{N:Addr}{x:Str}{r:Zd}(q:PySem.W.nsIn K N x=some r):mNs K N x=r:=by
 unfold PySem.W.nsIn at q;unfold mNs
 split at q
 ·rename_i c d es n sl e
  rw[e];show nsFind es x=r;unfold nsFind findBy;rw[<- Array.find?_toList]
  split at q
  ·rename_i en he
   rw[he]
   cases q
   rfl
  ·rename_i he
   rw[he]
   split at q
   ·cases q
   ·cases q
    rfl
 ·cases q
theorem RcK.rk{K:Zf}{xR:Str}{R NR:Addr}(r:RcK K xR R NR):RK K R:=⟨r.sp,_,r.rd,r.fc⟩
section
theorem KCls.c2{K:Zf}{xR:Str}{R NR:Addr}{C N:Addr}(c:KCls K C N (.ref R::bmV))(r:RcK K xR R NR)(ns:mr K N=true):∀h,K.In h->C2 h C N R NR (mNs K N) (mNs K NR):=λh X=>by
 obtain⟨nm,q,bs,sn,sub,ab,ai,dd,k0,k1,k2,k3,k5,hC⟩:=c.ex;obtain⟨aq,q',an,aj,ah,al,aa,ao,j0,j1,j2,j3,j5,hR⟩:=r.cl.ex;exact⟨⟨nm,q,bs,sn,sub,ab,ai,dd,k0,k1,k2,k3,k5,X _ _ hC⟩,⟨aq,q',an,aj,ah,al,aa,ao,j0,j1,j2,j3,j5,X _ _ hR⟩,mr.ns ns X,mr.ns r.ns X,kl r.ini⟩
theorem XcK.exc{K:Zf}{x f xR q:Str}{R NR:Addr}{st:Stmt}{P:Program}{w:World}{mg:Str->Zd}{base h:Heap}{k:Nat}{b:Bool}{ps:Zb}(e:XcK K x f R NR q st)(r:RcK K xR R NR)(X:K.In h)(G:h.Ns mainGlobals mg)(fb:typeLookup (.type "ValueError") f=pure none)
  (hini:∀(C fI:Addr) (fd:FuncData),Fun K "__init__" q st fI fd->EK K C R f->RK K R->mg xR=some (.ref R)->f7 P w K mg base CX0 k fI fd ps (spI C f b))
  (hb:∀(kV doc pm:Value) (an:Option Addr) (cdv ct:Value) (us:Zc),us.length=ps.length->bindArgs (PySem.W.fnOf "__init__" q (bM st) (aU st) (ak st) .none kV doc pm an cdv ct) ⟨us,[]⟩=pure (ps.zip us)) :
  Exc P w K mg base k x f b:=by
 obtain⟨C,N,fI,h1,h2,h3,h4,h5,h6,h7,h8,od,kV,dc,pm,an,cd,ct,sl,h9,ab,aa⟩:=e.ex;have F:Fun K "__init__" q st fI (PySem.W.fnOf "__init__" q (bM st) (aU st) (ak st) .none kV dc pm an cd ct):=⟨⟨_,od,kV,dc,pm,an,cd,ct,sl,rfl,h9,ab⟩,aa⟩;have ek:EK K C R f:=⟨⟨N,NR,mNs K N,mNs K NR,h2.c2 r h3,kl h5,kl r.sa,kl h6,kl h7⟩,fb⟩;exact⟨C,R,fI,_,ps,ek,⟨⟨N,NR,mNs K N,mNs K NR,h2.c2 r h3,kl h4⟩,h8,_,h9,rfl⟩,hini C fI _ F ek r.rk (Js X G r.at_),F.binds hb,Js X G h1,h1⟩
theorem XcK.under{K:Zf}{x f xR q:Str}{R NR:Addr}{st:Stmt}(e:XcK K x f R NR q st)(r:RcK K xR R NR):ph K R [x]:=λc hc C hC=>by
 obtain⟨C',N,fI,h1,h2,h3,_⟩:=e.ex
 cases HG.mp hc
 rw[h1] at hC
 cases hC
 exact⟨N,NR,_,_,h2.c2 r h3⟩
theorem ph.app{K:Zf}{R:Addr}{cs ds:Zb}(h:ph K R cs)(h':ph K R ds):ph K R (cs++ds):=λc hc=>(HZ.mp hc).elim (h c) (h' c)
end
end DL
namespace DL
open PySem PySem.Spec PyProof.Rows L2
theorem xgB.xg{K:Zf}{C:Addr}(h:xgB K C=true):XG K C:=by
 unfold xgB at h;simp only[Bool.and_eq_true,beq_iff_eq] at h;obtain⟨⟨⟨⟨⟨⟨⟨h1,h2⟩,h3⟩,h4⟩,h5⟩,h6⟩,h7⟩,h8⟩:=h;exact⟨h1,h2,h3,h4,h5,h6,h7,h8⟩
theorem jG.at{K:Zf}{x f:Str}{C:Addr}(h:jG K=true)(hx:(x,f)∈jS)(hC:PySem.W.nsIn K mainGlobals x=some (some (.ref C))) :
  XG K C/\PySem.W.findIn K (.ref C) f=some none/\PySem.W.kitOne K (.ref C) (.type "ValueError")=some true/\PySem.W.kitOne K (.type "NoneType") (.ref C)=some false /\
   ∀y g C',(y,g)∈jS->PySem.W.nsIn K mainGlobals y=some (some (.ref C'))->PySem.W.kitOne K (.ref C) (.ref C')=some (x==y):=by
 have q:=JB.mp h (x,f) hx
 simp only[hC,Bool.and_eq_true,beq_iff_eq] at q;obtain⟨⟨⟨⟨q1,q2⟩,q3⟩,q4⟩,q5⟩:=q;refine⟨xgB.xg q1,q2,q3,q4,λy g C' hy hC'=>?_⟩;have z:=JB.mp q5 (y,g) hy;simp only[hC',beq_iff_eq] at z;exact z
def cD:Zb:=["NoQuotient","NoName","TooMany"]
theorem bI(h:x∈cD):∃f,(x,f)∈jS:=by
 simp only[cD,List.mem_cons,List.not_mem_nil,or_false] at h
 rcases h with rfl | rfl | rfl
 ·exact⟨"top",by simp[jS]⟩
 ·exact⟨"name",by simp[jS]⟩
 ·exact⟨"saying",by simp[jS]⟩
def xis(c:Str->Bool):D->Option Bool
 | .exn x _ _=>if cD.contains x then some (c x) else none
 | .non=>some false
 | _=>none
def dIsx(c:Str->Bool)(t:GX)(δ:En)(R:W->En->Prop):Prop:=t δ (wd λx δ1=>∃b,xis c x=some b/\R (.d (.bl b)) δ1)
theorem re{K:Zf}{e C:Addr}(g:XG K C):PySem.W.KitX K (.ref e) (.ref C) (λh=>∃ox od,PySem.W.InstAt h e ox C od) where
 ty:=λ_ _ _ ⟨_,_,I⟩=>I.type
 it:=λ_ _ X _=>by
  obtain⟨ab,aa,_⟩:=PySem.W.any_some g.hd;unfold PySem.W.clsIn at aa
  split at aa
  ·rename_i c' d' cd' sl' ho
   intro A' Q' E' s' k q;unfold isType loadHead;exact Hw (wpAny_loadPart (k _ _ (X _ _ ho)) (HI q))
  ·cases aa
 ne:=λh tp dd its n sl X htp=>by
  obtain⟨ab,aa,_⟩:=PySem.W.any_some g.hd;refine Bool.eq_false_iff.mpr λq=>?_;have e:C=tp:=Value.ref.inj (beq_iff_eq.mp q);subst e;unfold PySem.W.clsIn at aa
  split at aa
  ·rename_i c' d' cd' sl' ho
   have z:=(X _ _ ho).symm.trans htp
   cases z
  ·cases aa
 ca:=λ{prog w A E Q s} X ⟨ox,od,I⟩ k=>xget? X g I rfl (λA E Q h=>Ab (s:={ s with toks:=s.toks+1 }) X g I h) k
section
theorem jp(I:L2.Inv X pins σ H s)(r:xQ X.K M H c f v y):∃e C ox od,v=.ref e/\PySem.W.nsIn X.K mainGlobals c=some (some (.ref C))/\PySem.W.InstAt s.heap e ox C (some od)/\∃u,PySem.W.lookIn f od=some (some u)/\a5 y u:=by
 obtain⟨e,C,dx,rfl,_,_,h1,h2,h3⟩:=r.ex;have ho:∃a t,s.heap.get? e=some (GZ C (some dx) a t):=by
  rcases h1 with h1 | h1
  ·exact(I.hok e _ h1).1
  ·obtain⟨a,q⟩:=(I.hok e _ h1).1;exact⟨a,.none,q⟩
 obtain⟨a,t,ho⟩:=ho;obtain⟨mA,ns,aa⟩:=I.hok dx _ h2;obtain⟨od,ab,hl⟩:=mo ns;have rf:=aa f;simp only[List.lookup,beq_self_eq_true] at rf;obtain⟨u,hu,ru⟩:=nO.some_of (v:=y) (o:=mA f) rf;exact⟨e,C,_,od,rfl,h3,⟨ho,rfl,rfl,ab⟩,u,by rw[hl,hu],ru⟩
theorem t9(tab:jG X.K=true)(I:L2.Inv X pins σ H s)(r:G3 X.K M H d v)(ru:a5 v u)(hb:xis k d=some b)
  (h1:∀x∈cD,∀C,PySem.W.nsIn X.K mainGlobals x=some (some (.ref C))->PySem.W.kitOne X.K (.ref C) cv=some (k x)) (h2:PySem.W.kitOne X.K (.type "NoneType") cv=some false) (h:∀tk,Q (.bool b) { s with toks:=tk }) :
  wpAny (model X.prog X.w) A (call (.builtin "isinstance") [u,cv]) Q E s:=by
 unfold xis at hb
 split at hb
 ·rename_i x f x'
  split at hb
  ·rename_i hx
   cases hb
   have hx:x∈cD:=by simpa using hx
   unfold G3 at r;obtain⟨y,xr,_⟩:=r;obtain⟨e,C,ox,od,rfl,aa,J,_⟩:=jp I xr
   cases ru
   obtain⟨f',hf⟩:=bI hx;exact IG (re (jG.at tab hf aa).1) I.kIn ⟨_,_,J⟩ (h1 x hx C aa) (λz=>nomatch z) h
  ·cases hb
 ·cases hb
  unfold G3 at r;subst r
  cases ru
  exact IG PySem.W.kitx_none I.kIn True.intro h2 (λz=>nomatch z) h
 ·cases hb
theorem AA(tab:jG X.K=true)(I:L2.Inv X pins σ H s)(r:G3 X.K M H d v)(ru:a5 v u)(hb:xis k d=some b)
  (htp:s.heap.get? tp=some ⟨.type "tuple",dd,.seq ([c1,c2]:Zc).toArray n,sl⟩)
  (h1:∀x∈cD,∀C,PySem.W.nsIn X.K mainGlobals x=some (some (.ref C))->PySem.W.kitAny X.K (.ref C) [c1,c2]=some (k x)) (h2:PySem.W.kitAny X.K (.type "NoneType") [c1,c2]=some false) (h:∀tk,Q (.bool b) { s with toks:=tk }) :
  wpAny (model X.prog X.w) A (call (.builtin "isinstance") [u,.ref tp]) Q E s:=by
 unfold xis at hb
 split at hb
 ·rename_i x f x'
  split at hb
  ·rename_i hx
   cases hb
   have hx:x∈cD:=by simpa using hx
   unfold G3 at r;obtain⟨y,xr,_⟩:=r;obtain⟨e,C,ox,od,rfl,aa,J,_⟩:=jp I xr
   cases ru
   obtain⟨f',hf⟩:=bI hx;exact PySem.W.kia_tup (re (jG.at tab hf aa).1) I.kIn ⟨_,_,J⟩ htp (h1 x hx C aa) (λz=>nomatch z) h
  ·cases hb
 ·cases hb
  unfold G3 at r;subst r
  cases ru
  exact PySem.W.kia_tup PySem.W.kitx_none I.kIn True.intro htp h2 (λz=>nomatch z) h
 ·cases hb
end
section
variable {X:Cx} {a:Expr} {ta:GX} {p p2 p3 p4 pos:Pos}
def rIsx(K:Zf)(c:Str->Bool)(T:V->Hp->Prop):Zg->Hp->VK->Prop:=λvs H Q=>∃x y M d b,vs=[x,y]/\T y H/\G3 K M H d x/\xis c d=some b/\Q (.bl b) H
theorem CZ(K:Zf):PySem.W.kitOne K (.type "NoneType") (.type "ValueError")=some false:=by with_unfolding_all rfl
theorem mf:bootBuiltins "ValueError"=some (.type "ValueError"):=by decide +kernel
theorem Au(tab:jG X.K=true)(hg:Gl X "isinstance")(hm:X.mg "isinstance"=none)(hgT:Gl X "ValueError")(hmT:X.mg "ValueError"=none)(ha:DE X a ta)
  (he:starEach [a,.Name "ValueError" p2] X.env=(false,eval a X.env)::starEach [.Name "ValueError" p2] X.env:=by rfl) (he2:starEach [.Name "ValueError" p2] X.env=(false,eval (.Name "ValueError" p2) X.env)::starEach [] X.env:=by rfl)
  (hpl:(backTo pos (starEach [.Name "ValueError" p2] X.env)).any (·.1)=false:=by rfl) :
  DE X (.Call (.Name "isinstance" p) [a,.Name "ValueError" p2] [] pos) (dIsx (λ_=>true) ta):=by
 have cr:bR X (.builtin "isinstance") (rIsx X.K (λ_=>true) λy _=>y=.ty "ValueError"):=by
  intro pins s σ H xs us Q I r h;obtain⟨x,y,M,d,b,rfl,rfl,rx,hb,q⟩:=h;obtain⟨u,w',rfl,ru,aa⟩:=sV r
  cases aa
  exact t9 tab I rx ru hb (λx hx C hC=>let ⟨f,hf⟩:=bI hx;(jG.at tab hf hC).2.2.1) (CZ _) λtk=>⟨.bl _,H,I.tok _,rfl,q⟩
 exact PE.imp (dZ cr hg hm cL (aJ ha (aJ (uU (v:=.ty "ValueError") hgT hmT mf rfl) b9 he2) he) (by decide) (by decide) he hpl) λσ H Q ⟨G,δ,P,R,s,h,k,_⟩=>up.mk s h λd δ1 h1 v H1 s1=>by
  obtain⟨A,q⟩:=id s1;obtain⟨b,hb,hR⟩:=h1;exact⟨v,_,_,d,b,rfl,rfl,q.pnd (d,v) (by simp),hb,k _ δ1 hR _ H1 ((s1.sub (P':=P) λp hp=>Hx _ hp).sc rfl)⟩
structure XAd(K:Zf)(mg:Str->Zd)(x:Str)(C:Addr):Prop where
 mg:mg x=some (.ref C)
 ns:PySem.W.nsIn K mainGlobals x=some (some (.ref C))
 mem:x∈cD
theorem zR(tab:jG X.K=true)(hg:Gl X "isinstance")(hm:X.mg "isinstance"=none)(hgT:Gl X y)(hC:∃C,XAd X.K X.mg y C)(ha:DE X a ta)(hdT:(y==("__debug__":Str))=false:=by decide)
  (he:starEach [a,.Name y p2] X.env=(false,eval a X.env)::starEach [.Name y p2] X.env:=by rfl) (he2:starEach [.Name y p2] X.env=(false,eval (.Name y p2) X.env)::starEach [] X.env:=by rfl) (hpl:(backTo pos (starEach [.Name y p2] X.env)).any (·.1)=false:=by rfl) :
  DE X (.Call (.Name "isinstance" p) [a,.Name y p2] [] pos) (dIsx (λx=>x==y) ta):=by
 obtain⟨C,hC⟩:=hC;have cr:bR X (.builtin "isinstance") (rIsx X.K (λx=>x==y) λz _=>z=.ref C):=by
  intro pins s σ H xs us Q I r h;obtain⟨x,z,M,d,b,rfl,rfl,rx,hb,q⟩:=h;obtain⟨u,w',rfl,ru,aa⟩:=sV r
  cases aa
  obtain⟨g,hg⟩:=bI hC.mem;exact t9 tab I rx ru hb (λx hx C' hC'=>let ⟨f,hf⟩:=bI hx;(jG.at tab hf hC').2.2.2.2 y g C hg hC.ns) (jG.at tab hg hC.ns).2.2.2.1 λtk=>⟨.bl _,H,I.tok _,rfl,q⟩
 exact PE.imp (dZ cr hg hm cL (aJ ha (aJ (ge (v:=.ref C) hgT hC.mg rfl hdT) b9 he2) he) (by decide) (by decide) he hpl) λσ H Q ⟨G,δ,P,R,s,h,k,_⟩=>up.mk s h λd δ1 h1 v H1 s1=>by
  obtain⟨A,q⟩:=id s1;obtain⟨b,hb,hR⟩:=h1;exact⟨v,_,_,d,b,rfl,rfl,q.pnd (d,v) (by simp),hb,k _ δ1 hR _ H1 ((s1.sub (P':=P) λp hp=>Hx _ hp).sc rfl)⟩
theorem tq{K:Zf}{t c1 c2:Value}{b1 b2:Bool}(h1:PySem.W.kitOne K t c1=some b1)(h2:PySem.W.kitOne K t c2=some b2):PySem.W.kitAny K t [c1,c2]=some (b1||b2):=by
 unfold PySem.W.kitAny;rw[h1]
 cases b1 with
 | true=>rfl
 | false =>
  show PySem.W.kitAny K t [c2]=_
  unfold PySem.W.kitAny;rw[h2]
  cases b2<;>rfl
theorem zN{kt}(tab:jG X.K=true)(hg:Gl X "isinstance")(hm:X.mg "isinstance"=none)(hgy:Gl X y)(hgz:Gl X z)(hC:∃C,XAd X.K X.mg y C)(hC':∃C,XAd X.K X.mg z C)(ha:DE X a ta)(hdy:(y==("__debug__":Str))=false:=by decide)(hdz:(z==("__debug__":Str))=false:=by decide)
  (he:starEach [a,.Tuple [.Name y p2,.Name z p3] kt p4] X.env=(false,eval a X.env)::starEach [.Tuple [.Name y p2,.Name z p3] kt p4] X.env:=by rfl)
  (he2:starEach [.Tuple [.Name y p2,.Name z p3] kt p4] X.env=(false,eval (.Tuple [.Name y p2,.Name z p3] kt p4) X.env)::starEach [] X.env:=by rfl) (hpl:(backTo pos (starEach [.Tuple [.Name y p2,.Name z p3] kt p4] X.env)).any (·.1)=false:=by rfl)
  (he3:starEach [.Name y p2,.Name z p3] X.env=(false,eval (.Name y p2) X.env)::starEach [.Name z p3] X.env:=by rfl) (he4:starEach [.Name z p3] X.env=(false,eval (.Name z p3) X.env)::starEach [] X.env:=by rfl) :
  DE X (.Call (.Name "isinstance" p) [a,.Tuple [.Name y p2,.Name z p3] kt p4] [] pos) (dIsx (λx=>x==y||x==z) ta):=by
 obtain⟨C,hC⟩:=hC;obtain⟨C',hC'⟩:=hC';have cr:bR X (.builtin "isinstance") (rIsx X.K (λx=>x==y||x==z) λt H=>∃tp,t=.ref tp/\H tp=some (.tup [.ref C,.ref C'])):=by
  intro pins s σ H xs us Q I r h;obtain⟨x,t,M,d,b,rfl,⟨tp,rfl,aa⟩,rx,hb,q⟩:=h;obtain⟨u,w',rfl,ru,ai⟩:=sV r
  cases ai
  obtain⟨_,aj,vs,o,ho,hc,n,hd⟩:=(show bA X.prog X.w H s.heap tp (.tup [.ref C,.ref C']) from I.hok tp _ aa);obtain⟨g,hg⟩:=bI hC.mem;obtain⟨g',ab⟩:=bI hC'.mem;have ah:aj=[.ref C,.ref C']:=by
   cases vs with
   | cons r0 vs =>
    cases vs with
    | cons r1 vs =>
     cases vs
     cases r0
     cases r1
     rfl
  subst ah;obtain⟨cls,al,dat,sl⟩:=o
  cases hc
  cases hd
  exact AA tab I rx ru hb ho (λx hx C'' hC''=>let ⟨f,hf⟩:=bI hx;tq ((jG.at tab hf hC'').2.2.2.2 y g C hg hC.ns) ((jG.at tab hf hC'').2.2.2.2 z g' C' ab hC'.ns)) (tq (jG.at tab hg hC.ns).2.2.2.1 (jG.at tab ab hC'.ns).2.2.2.1) λtk=>⟨.bl _,H,I.tok _,rfl,q⟩
 exact PE.imp (dZ cr hg hm cL (aJ ha (aJ (yH (aJ (ge (v:=.ref C) hgy hC.mg rfl hdy) (aJ (ge (v:=.ref C') hgz hC'.mg rfl hdz) b9 he4) he3)) b9 he2) he) (by decide) (by decide) he hpl) λσ H Q ⟨G,δ,P,R,s,h,k,_⟩=>up.mk s h λd δ1 h1 v H1 s1=>by
  refine⟨by show 2<=sizeLine;decide,λtp aa=>?_⟩;obtain⟨b,hb,hR⟩:=h1;obtain⟨A,x⟩:=s1;have x2:=x.same (aF aa (.tup [.ref C,.ref C']));exact⟨v,_,_,d,b,rfl,⟨tp,rfl,av⟩,x2.pnd (d,v) (by simp),hb,k _ δ1 hR _ _ (S.sc (S.sub ⟨A,x2⟩ (P':=P) λp hp=>Hx _ hp) rfl)⟩
def tXf(K:Zf)(f:Str)(ta:TE):TE:=λσ H Q=>ta σ H λv H1=>∃M c y,xQ K M H1 c f v y/\(c,f)∈jS/\Q y H1
theorem Go(tab:jG X.K=true)(he:PE X e te)(hb:attributeBase e f X.env (eval e X.env)=eval e X.env):PE X (.Attribute e f pos) (tXf X.K f te):=by
 intro pins s σ H Q I h;refine zP hb (Ha (he pins s σ H _ I h) λu s1 hs1=>?_);obtain⟨v,H1,I1,r,M,c,y,xr,hc,q⟩:=hs1;obtain⟨e,C,ox,od,rfl,aa,J,u',hl,ru⟩:=jp I1 xr
 cases r
 obtain⟨g,hf,_⟩:=jG.at tab hc aa;refine xget I1.kIn g J (uT ru) (λA E Q h=>AL (s:={ s1 with toks:=s1.toks+1 }) I1.kIn J (PySem.W.findObj_own g.hd hf rfl hl) h) ?_;exact⟨y,H1,I1.tok _,ru,q⟩
def dXf(f:Str)(t:GX)(δ:En)(R:W->En->Prop):Prop:=t δ (wd λx δ1=>∃c d,x=.exn c f d/\(c,f)∈jS/\R (.d d) δ1)
theorem GE(tab:jG X.K=true)(ha:DE X a ta)(hb:attributeBase a f X.env (eval a X.env)=eval a X.env:=by rfl):DE X (.Attribute a f pos) (dXf f ta) :=
 PE.imp (Go tab ha hb) λσ H Q ⟨G,δ,P,R,s,h,k,_⟩=>up.mk s h λx δ1 h1 v H1 s1=>by
  obtain⟨c,d,rfl,hc,hR⟩:=h1;obtain⟨A,x⟩:=s1;have rp:=x.pnd (.exn c f d,v) (by simp);unfold G3 at rp;obtain⟨y,xr,ry⟩:=rp;exact⟨_,c,y,xr,hc,k _ δ1 hR y H1 ⟨A,(x.sub (P':=P) λp hp=>Hx _ hp).push ry⟩⟩
end
section
end
end DL
namespace DL
open PySem PySem.Spec PyProof.Rows L2
structure Er(P:Program)(w:World)(K:Zf)(mg:Str->Zd)(base:Heap)(R NR:Addr):Prop where
 rc:RcK K "RowError" R NR
 mR:mg "RowError"=some (.ref R)
 gR:XG K R
 kR:PySem.W.kitOne K (.ref R) (.type "ValueError")=some true
 tab:jG K=true
 un:ph K R cD
 q:Exc P w K mg base 1 "NoQuotient" "top" false
 n:Exc P w K mg base 1 "NoName" "name" true
 t:Exc P w K mg base 1 "TooMany" "saying" false
 aq:∃C,XAd K mg "NoQuotient" C
 an:∃C,XAd K mg "NoName" C
 a_t:∃C,XAd K mg "TooMany" C
abbrev sB(P:Program)(w:World)(K:PySem.W.Frag)(mg:Str->Option Value)(base:Heap)(q p f:Str)(b:Bool)(st:Stmt):Prop :=
 ∀(R C fI:Addr) (fd:FuncData),Fun K "__init__" q st fI fd->EK K C R f->RK K R->mg "RowError"=some (.ref R)->f7 P w K mg base CX0 1 fI fd ["self",p] (spI C f b)
abbrev Ck(q p:Str)(st:Stmt):Prop:=∀(kV doc pm:Value) (an:Option Addr) (cdv ct:Value) (us:List Value),us.length=2->bindArgs (PySem.W.fnOf "__init__" q (bM st) (aU st) (ak st) .none kV doc pm an cdv ct) ⟨us,[]⟩=pure ((["self",p]:List Str).zip us)
theorem EV:typeLookup (.type "ValueError") "top"=pure none:=by rw[typeLookup_type,Kz];kernel_rfl
theorem BG:typeLookup (.type "ValueError") "name"=pure none:=by rw[typeLookup_type,Kz];kernel_rfl
theorem vY:typeLookup (.type "ValueError") "saying"=pure none:=by rw[typeLookup_type,Kz];kernel_rfl
theorem XcK.ad{K:Zf}{x f q:Str}{R NR:Addr}{st:Stmt}{h:Heap}{mg:Str->Zd}(e:XcK K x f R NR q st)(X:K.In h)(G:h.Ns mainGlobals mg)(hx:x∈cD):∃C,XAd K mg x C:=by
 obtain⟨C,N,fI,h1,_⟩:=e.ex;exact⟨C,Js X G h1,h1,hx⟩
theorem ErF.er{P:Program}{w:World}{K:Zf}{mg:Str->Zd}{base h:Heap}{s1 s2 s3:Stmt}(e:ErF K s1 s2 s3)(X:K.In h)(G:h.Ns mainGlobals mg)
  (i1:sB P w K mg base "NoQuotient.__init__" "top" "top" false s1) (b1:Ck "NoQuotient.__init__" "top" s1) (i2:sB P w K mg base "NoName.__init__" "name" "name" true s2) (b2:Ck "NoName.__init__" "name" s2)
  (i3:sB P w K mg base "TooMany.__init__" "saying" "saying" false s3) (b3:Ck "TooMany.__init__" "saying" s3):∃R NR,Er P w K mg base R NR:=by
 obtain⟨R,NR,rc,gR,kR,aa,x1,x2,x3⟩:=e.ex;refine⟨R,NR,rc,Js X G rc.at_,xgB.xg gR,kR,aa,(x1.under rc).app ((x2.under rc).app (x3.under rc)),x1.exc rc X G EV (i1 R) b1,x2.exc rc X G BG (i2 R) b2,x3.exc rc X G vY (i3 R) b3,x1.ad X G ?_,x2.ad X G ?_,x3.ad X G ?_⟩<;>decide
theorem oO:∀vs H Q E,spI C f b vs H Q E->vs.length=(["self",p]:Zb).length:=λvs H Q E ⟨e,y,h,_⟩=>by rw[h];rfl
theorem vM(h:spI C f b vs H Q E) :
  tSeq (Ax (Al C (vq (zv 0) (vq (tC x) tNil)))) (BT C f (zv 0) (zv 1)) { nx:=λ_ H'=>Q .non H',rt:=Q } (start ["self",p] vs) H:=by
 obtain⟨e,y,rfl,_,hX,h⟩:=h;exact⟨.ref e,rfl,e,x,rfl,hX,y,rfl,.ref e,rfl,e,rfl,hX,h⟩
theorem yn(h:spI C f true vs H Q E) :
  tSeq (Ax (Al C (vq (zv 0) (vq (tFs (zv 1)) tNil)))) (BT C f (zv 0) (zv 1)) { nx:=λ_ H'=>Q .non H',rt:=Q } (start ["self",p] vs) H:=by
 obtain⟨e,y,rfl,⟨t,rfl,ht⟩,hX,h⟩:=h;exact⟨.ref e,rfl,.str t,rfl,t,rfl,ht,λz=>⟨e,.str z,rfl,hX,.str t,rfl,.ref e,rfl,e,rfl,hX,h⟩⟩
theorem wj.pure{P:Program}{w:World}{K:Zf}{mg:Str->Zd}{base:Heap}{k:Nat}{x:Str}{ps:Zb}{f:FE}(C:wj P w K mg base k x ps f):Cal P w K mg base k x ps (Hg K λds R=>f ds R λ_ _ _=>False):=by
 obtain⟨a,fd,F,b,kp,m⟩:=C.ex;refine⟨a,fd,⟨λvs H Q E h=>?_,λA outer s H args us vs Q E hr he hb hv h=>?_⟩,b,kp,m⟩
 ·obtain⟨M,ds,R,m,rs,h,k⟩:=h;exact F.len vs H Q (λ_ _ _=>False) ⟨M,ds,R,λ_ _ _=>False,m,rs,h,k,λ_ _ _ z=>z.elim⟩
 ·obtain⟨M,ds,R,m,rs,h,k⟩:=h;refine KP (F.run A outer s H args us vs Q (λ_ _ _=>False) hr he hb hv ⟨M,ds,R,λ_ _ _=>False,m,rs,h,k,λ_ _ _ z=>z.elim⟩) λr s' q=>?_
  cases r with
  | error e =>
   obtain⟨_,_,_,_,_,_,_,_,_,_,_,_,_,_,_,z⟩:=q;exact z.elim
  | ok fl=>cases fl<;>exact q
theorem vk{P:Program}{w:World}{K:Zf}{mg:Str->Zd}{base:Heap}{x:Str}{st:Stmt}{ps:Zb}{f:FE}(F:Fd K mg x st ps)(k:Nat)(h:∀ds R RE,¬ f ds R RE):wj P w K mg base k x ps f:=by
 obtain⟨a,fd,Fu,b,m⟩:=F.ex;have no:∀vs H Q E,¬ spE K f vs H Q E:=λvs H Q E ⟨_,ds,R,RE,_,_,hf,_,_⟩=>h ds R RE hf;exact⟨a,fd,⟨λvs H Q E h=>absurd h (no vs H Q E),λA outer s H args us vs Q E _ _ _ _ h=>absurd h (no vs H Q E)⟩,b,Fu.kp,m⟩
theorem DE.nox(h:DE X.nox e t):DE X e t:=PE.nox h
section
end
end DL
namespace DL
open PySem PySem.Spec PyProof.Rows L2
section
variable {X:Cx} {pos:Pos} {a tg:Expr} {es:List Expr} {t:TDA} {f:FE} {g:TDG} {tb:TDS} {body:List Stmt}
def kFo(g:TDG)(tb:TDS)(R:aL)(δ1:En)(d:D):Prop:=qL d λxs=>∃I:Nat->En->Prop,I 0 δ1 /\
 (∀i x δ',xs[i]?=some x->I i δ'->g x δ' (tb { R with nx:=I (i+1),ct:=I (i+1),bk:=R.nx,tp:=False }))/\∀δ',I xs.length δ'->R.nx δ'
def Dq(f:FE)(t:TDA)(g:TDG)(tb:TDS)(R:aL)(δ:En):Prop:=t δ λds δ1=>f ds (kFo g tb R δ1) R.ex
theorem Bg(hp:PassesOwn (model X.prog X.w) X.A X.env X.xe)(hc:X.calm=true)(C:wj X.prog X.w X.K X.mg X.base k x ps f)(hr:cI k X.A)(hg:Gl X x)(ha:DA X (a::es) t)(hgd:DG X tg g)(hb:DSs X body tb)(hdb:(x==("__debug__":Str))=false:=by decide)
  (he:starEach (a::es) X.env=(false,eval a X.env)::starEach es X.env:=by rfl) (hpl:(backTo cpos (starEach es X.env)).any (·.1)=false:=by rfl) (hs:∀y,foldedSetIterable (.Call (.Name x p) (a::es) [] cpos) X.env y=pure y:=by intro _;rfl) :
  DS X (.For tg (.Call (.Name x p) (a::es) [] cpos) body [] pos) (Dq f t g tb) :=
 PS.imp (ml hp hc (nG (gN C hr hg ha hdb he hpl)) hgd hb hs) λE σ H ⟨G,δ,P,R,s,h,k1,k2,k3,k4⟩=>eQ (Rv:=λd δ1=>kFo g tb R δ1 d) s h (λd δ1 h1 v H1 s1=>by
  replace h1:=qL.ex h1;obtain⟨xs,e,I,i0,aa,ab⟩:=h1;subst e;have al:∀δ σ H,S X.K G δ ((.lst xs,v)::P) σ H->∃a vs,v=.ref a/\G4 X.K H a vs/\vs.length=xs.length:=λδ σ H ⟨A,x⟩=>by
   have q:=x.pnd (.lst xs,v) (by simp)
   simp only[G3] at q;obtain⟨a,vs,e,_,l,r⟩:=q;exact⟨a,vs,e,G4.of l,(Reps.length _ _ r).symm⟩
  have ah:∃a vs,v=.ref a/\G4 X.K H1 a vs/\vs.length=xs.length:=al _ _ _ s1
  obtain⟨a,aj,rfl,ai,an⟩:=ah;refine⟨a,rfl,⟨aj,ai⟩,λi m σ H=>m=xs.length-i/\i<=xs.length/\∃δ,I i δ/\S X.K G δ ((.lst xs,.ref a)::P) σ H,⟨xs.length,by simp,Jp _,δ1,i0,s1⟩,?_⟩;rintro i m σ H ⟨rfl,hi,δ',ii,s'⟩;obtain⟨A,x⟩:=id s';have q:=x.pnd (.lst xs,.ref a) (by simp);simp only[G3] at q;obtain⟨a',vs,e,_,l,r⟩:=q
  cases e
  have l:G4 X.K H a vs:=G4.of l
  have hl:xs.length=vs.length:=Reps.length _ _ r
  by_cases hlt:i<xs.length
  ·obtain⟨v',e',r'⟩:=Reps.get _ _ r i xs[i] (by simp[hlt]);refine .inr ⟨⟨vs,v',l,e'⟩,λσ' H'=>∃δ',I (i+1) δ'/\S X.K G δ' ((.lst xs,.ref a)::P) σ' H',λσ' H' ⟨δ',p',s'⟩=>⟨xs.length-(i+1),by omega,rfl,hlt,δ',p',s'⟩,λy H' hy=>?_⟩;obtain⟨e,hy⟩:=hy;subst e;have:some y=some v':=(hy vs l).symm.trans e'
   cases this
   refine⟨G,δ',(.lst xs,.ref a)::P,xs[i],_,⟨A,x.push r'⟩,aa i xs[i] δ' (by simp[hlt]) ii,λδ2 h2 σ2 H2 s2=>?_⟩
   refine⟨G,δ2,(.lst xs,.ref a)::P,_,s2,h2,λδ3 h3 σ3 H3 s3=>⟨δ3,h3,s3⟩,⟨λd δ3 h3 v3 σ3 H3 s3=>k2.1 d δ3 h3 v3 σ3 H3 (s3.sub λp hp=>by
    rcases HK.mp hp with rfl | hp
    ·simp
    ·simp[hp]),k2.2.1,exs k2.2.2⟩,λδ3 h3 σ3 H3 s3=>k1 δ3 h3 σ3 H3 (s3.sub λp hp=>by simp[hp]),λδ3 h3 σ3 H3 s3=>⟨δ3,h3,s3⟩,λz=>z.elim⟩
  ·have e:i=xs.length:=by omega
   subst e
   exact .inl ⟨⟨vs,l,by omega⟩,k1 δ' (ab δ' ii) σ H (s'.sub λp hp=>by simp[hp])⟩) k2.2.2
end
section
def fIsD:Zi->(D->Prop)->Prop
 | [.non,.non],R=>R (.bl true)
 | [.dct _ _,.non],R=>R (.bl false)
 | _,_=>False
theorem Ep:fIsD [.non,.non] R=R (.bl true):=rfl
theorem Ev:fIsD [.dct ks ds,.non] R=R (.bl false):=rfl
theorem FK:Hr X (compareOp .Is) λx y=>aT X.K fIsD [x,y] :=
 Hr.imp yR λx y H Q ⟨M,ds,R,m,rs,h,k⟩=>by
  have aa:∀b,R (.bl b)->Q (.bl b) H:=λb r=>k _ r _ H (bE.refl H) (G3.sc rfl)
  have h0:ds=[.non,.non]/\R (.bl true)\/∃ks vs,ds=[.dct ks vs,.non]/\R (.bl false):=by
   rcases ds with _ | ⟨a,_ | ⟨b,_ | ⟨c,l⟩⟩⟩
   ·exact False.elim h
   ·cases a<;>exact False.elim h
   ·cases a<;>first | exact False.elim h | (cases b<;>first | exact False.elim h | exact .inl ⟨rfl,h⟩ | exact .inr ⟨_,_,rfl,h⟩)
   ·cases a<;>first | exact False.elim h | (cases b<;>exact False.elim h)
  clear h
  rcases h0 with⟨rfl,h⟩ | ⟨ks,vs,rfl,h⟩
  ·obtain⟨h1,h2⟩:=b7 rs;unfold G3 at h1 h2;subst h1;exact⟨h2,aa _ h⟩
  ·obtain⟨h1,h2⟩:=b7 rs;unfold G3 at h1 h2;obtain⟨a,_,e,_⟩:=h1;subst e;exact⟨h2,aa _ h⟩
end
end DL
namespace DL
open PySem PySem.Spec PyProof.Rows L2
section
end
end DL
namespace Mf
abbrev V:=Nat->Rat
def Hc:Nat->V->V->Rat
 | 0,_,_=>0
 | m+1,c,w=>Hc m c w+c m*w m
theorem c7(c u v:V)(a b:Rat):∀m,Hc m c (λi=>a*u i+b*v i)=a*Hc m c u+b*Hc m c v
 | 0=>by show (0:Rat)=a*0+b*0;grind
 | m+1=>by show Hc m c _+_=a*(Hc m c u+_)+b*(Hc m c v+_);rw[c7 c u v a b m];grind
theorem ql(e c w:V)(a b:Rat):∀m,Hc m (λi=>a*e i+b*c i) w=a*Hc m e w+b*Hc m c w
 | 0=>by show (0:Rat)=a*0+b*0;grind
 | m+1=>by show Hc m _ w+_=a*(Hc m e w+_)+b*(Hc m c w+_);rw[ql e c w a b m];grind
theorem jy:∀ {m},(∀i,i<m->w i=w' i)->Hc m c w=Hc m c w'
 | 0,_=>rfl
 | m+1,h=>by show Hc m c w+_=Hc m c w'+_;rw[jy λi hi=>h i (by omega),h m (by omega)]
def sz(m:Nat)(w:V):Nat:=((List.range m).filter λi=>decide (w i≠0)).length
theorem eE(m:Nat)(w:V):sz (m+1) w=sz m w+if w m=0 then 0 else 1:=by
 unfold sz;rw[List.range_succ,List.filter_append,HC]
 by_cases h:w m=0<;>simp[h]
theorem xJ:∀(m:Nat),(∀i,i<m->w' i≠0->w i≠0)->sz m w'<=sz m w
 | 0,_=>HD _
 | m+1,h=>by
  rw[eE,eE];have:=xJ m λi hi=>h i (by omega);have:=h m (by omega)
  grind
theorem AK:∀(m:Nat),(∀i,i<m->w' i≠0->w i≠0)->q<m->w q≠0->w' q=0->sz m w'<sz m w
 | 0,_,hq,_,_=>by omega
 | m+1,h,hq,h1,h2=>by
  rw[eE,eE];have h3:=xJ m λi hi=>h i (by omega);have h4:=h m (by omega)
  by_cases e:q=m
  ·subst e;grind
  ·have:=AK m (λi hi=>h i (by omega)) (by omega) h1 h2
   grind
variable {m:Nat} {st:Nat→Bool}
def sat(m:Nat)(st:Nat->Bool)(e w:V):Prop:=0<Hc m e w\/(Hc m e w=0/\∀i,i<m->0<w i->st i=false)
theorem fA(hu:sat m st e u)(hv:sat m st e v)(ha:0<=a)(hb:0<=b):sat m st e (λi=>a*u i+b*v i):=by
 unfold sat;rw[c7];have ah:0<=Hc m e u:=by rcases hu with h | h<;>grind
 have aa:0<=Hc m e v:=by rcases hv with h | h<;>grind
 have h1:=IC ha ah
 have h2:=IC hb aa
 by_cases z:0<a*Hc m e u+b*Hc m e v
 ·exact .inl z
 ·refine .inr ⟨by grind,λi hi hw=>?_⟩;have e1:a*Hc m e u=0:=by grind
  have e2:b*Hc m e v=0:=by grind
  have pos:0<a*u i\/0<b*v i:=by grind
  rcases pos with p | p
  ·have ab:0<a:=by
    refine HF λz=>?_;have:a=0:=by grind
    rw[this] at p;grind
   have aj:0<u i:=by
    refine HF λz=>?_;have:=IC ha (b:=- u i) (by grind)
    grind
   rcases hu with h | h
   ·have:=Jd ab h;grind
   ·exact h.2 i hi aj
  ·have al:0<b:=by
    refine HF λz=>?_;have:b=0:=by grind
    rw[this] at p;grind
   have ai:0<v i:=by
    refine HF λz=>?_;have:=IC hb (b:=- v i) (by grind)
    grind
   rcases hv with h | h
   ·have:=Jd al h;grind
   ·exact h.2 i hi ai
theorem cV(h:∀i,i<m->w i=w' i)(s:sat m st e w):sat m st e w':=by
 unfold sat at s ⊢;rw[<- jy h];exact s.imp id λ⟨h1,h2⟩=>⟨h1,λi hi hp=>h2 i hi (by rw[h i hi];exact hp)⟩
theorem nv:∀(cs:List V) (J:List Nat),J.Nodup->cs.length<J.length->∃d:V,(∀i,d i≠0->i∈J)/\(∃i,d i≠0)/\∀c∈cs,Hc m c d=0
 | [],J,nd,h=>by
  cases J with
  | nil=>simp at h
  | cons j J=>exact⟨λi=>if i=j then 1 else 0,λi hi=>by by_cases e:i=j<;>simp_all,⟨j,by simp⟩,λc hc=>nomatch hc⟩
 | c::cs,J,nd,h=>by
  cases J with
  | nil=>simp at h
  | cons j J =>
   have h:cs.length+1<J.length+1:=h
   obtain⟨nj,ab⟩:=IZ.mp nd;obtain⟨d1,a1,⟨i,hi⟩,b1⟩:=nv cs J ab (by omega);have ah:=a1 i hi;obtain⟨d2,a2,⟨k,hk⟩,b2⟩:=nv cs ((j::J).erase i) (nd.erase i) (by rw[List.length_erase_of_mem (Hx _ ah)];simpa using by omega);have aa:d2 i=0:=HF λz=>((nd.mem_erase_iff).mp (a2 i z)).1 rfl
   by_cases e:Hc m c d2=0
   ·refine⟨d2,λi hi=>List.mem_of_mem_erase (a2 i hi),⟨k,hk⟩,λc' hc'=>?_⟩
    rcases HK.mp hc' with rfl | hc'
    ·exact e
    ·exact b2 c' hc'
   ·refine⟨λi=>Hc m c d2*d1 i+(- Hc m c d1)*d2 i,λx hx=>?_,⟨i,?_⟩,λc' hc'=>?_⟩
    ·by_cases z1:d1 x=0
     ·by_cases z2:d2 x=0
      ·refine absurd ?_ hx;show _*d1 x+_*d2 x=0;rw[z1,z2];grind
      ·exact List.mem_of_mem_erase (a2 x z2)
     ·exact Hx _ (a1 x z1)
    ·show _*d1 i+_*d2 i≠0
     rw[aa];intro z;have:Hc m c d2*d1 i=0:=by grind
     rcases JJ.mp this with q | q
     ·exact e q
     ·exact hi q
    ·rw[c7]
     rcases HK.mp hc' with rfl | hc'
     ·grind
     ·rw[b1 c' hc',b2 c' hc'];grind
theorem Bo{w d:V}(hw:∀i,0<=w i)(hd:∀i,d i≠0->0<w i):∀(J:List Nat),(∃i∈J,0<d i)->∃t,0<t/\(∀i∈J,0<=w i-t*d i)/\∃q∈J,0<d q/\w q-t*d q=0
 | [],⟨i,hi,_⟩=>nomatch hi
 | j::J,h=>by
  have one:∀i,0<d i->0<w i / d i/\w i-(w i / d i)*d i=0:=λi hi=>by
   have aa:=hd i (by grind)
   exact⟨by rw[Rat.lt_div_iff hi];grind,by grind⟩
  by_cases hJ:∃i∈J,0<d i
  ·obtain⟨t,t0,h1,q,hq,dq,eq⟩:=Bo hw hd J hJ
   by_cases hj:0<=w j-t*d j
   ·refine⟨t,t0,λi hi=>?_,q,Hx _ hq,dq,eq⟩
    rcases HK.mp hi with rfl | hi
    ·exact hj
    ·exact h1 i hi
   ·have dj:0<d j:=by
     refine HF λz=>hj ?_;have:=IC (a:=t) (b:=- d j) (by grind) (by grind);have:=hw j
     grind
    obtain⟨o1,o2⟩:=one j dj;have lt:w j / d j<t:=by
     refine HF λz=>hj ?_;have:=IC (a:=w j / d j-t) (b:=d j) (by grind) (by grind)
     grind
    refine⟨w j / d j,o1,λi hi=>?_,j,HB ..,dj,o2⟩
    rcases HK.mp hi with rfl | hi
    ·grind
    ·by_cases di:0<d i
     ·have:=h1 i hi
      have:=IC (a:=t-w j / d j) (b:=d i) (by grind) (by grind)
      grind
     ·have:=IC (a:=w j / d j) (b:=- d i) (by grind) (by grind)
      have:=hw i
      grind
  ·have dj:0<d j:=by
    obtain⟨i,hi,p⟩:=h
    rcases HK.mp hi with rfl | hi
    ·exact p
    ·exact absurd ⟨i,hi,p⟩ hJ
   obtain⟨o1,o2⟩:=one j dj;refine⟨w j / d j,o1,λi hi=>?_,j,HB ..,dj,o2⟩
   rcases HK.mp hi with rfl | hi
   ·grind
   ·have di:¬ 0<d i:=λp=>hJ ⟨i,hi,p⟩
    have:=IC (a:=w j / d j) (b:=- d i) (by grind) (by grind)
    have:=hw i
    grind
structure Nn(m:Nat)(w:V):Prop where
 pos:∀i,0<=w i
 top:∀i,m<=i->w i=0
structure Sub(m:Nat)(cs:List V)(w u:V):Prop where
 nn:Nn m u
 an:∀c∈cs,Hc m c u=0
 su:∀i,u i≠0->w i≠0
 lt:sz m u<sz m w
theorem EL(hw:Nn m w)(ha:∀c∈cs,Hc m c w=0)(hd:∀i,d i≠0->w i≠0)(da:∀c∈cs,Hc m c d=0)(hp:w p≠0)(dp:d p=0)(h:∃i,0<d i) :
  ∃u v a b,0<=a/\0<=b/\(∀i,w i=a*u i+b*v i)/\Sub m cs w u/\Sub m cs w v:=by
 have lt:∀ {i},w i≠0->i<m:=λ{i} h=>HF λz=>h (hw.top i (by omega))
 have pos:∀ {i},w i≠0->0<w i:=λ{i} h=>by have:=hw.pos i;grind
 have mk:∀ {x:V} {a b:Rat},0<=a->(∀i,x i=a*w i+b*d i)->(∀i,i<m->0<=x i)->(∃q,w q≠0/\x q=0)->Sub m cs w x:=λ{x a b} ha0 hx h0 ⟨q,hq,xq⟩=>by
  have su:∀i,x i≠0->w i≠0:=λi hi z=>hi (by
   have:d i=0:=HF λy=>hd i y z
   rw[hx i,z,this];grind)
  refine⟨⟨λi=>?_,λi hi=>HF λz=>su i z (hw.top i hi)⟩,λc hc=>?_,su,AK m (λi _=>su i) (lt hq) hq xq⟩
  ·by_cases hi:i<m
   ·exact h0 i hi
   ·have:x i=0:=HF λz=>su i z (hw.top i (by omega))
    rw[this];exact Rat.le_refl
  ·have:x=λi=>a*w i+b*d i:=funext hx
   rw[this,c7,ha c hc,da c hc];grind
 have hr:∀ {i},d i≠0->i∈List.range m:=λ{i} h=>Jt.mpr (lt (hd i h))
 obtain⟨i,hi⟩:=h;obtain⟨t,t0,h1,q,hq,dq,eq⟩:=Bo hw.pos (λi h=>pos (hd i h)) (List.range m) ⟨i,hr (by grind),hi⟩;have s1:Sub m cs w (λi=>w i-t*d i):=mk (a:=1) (b:=-t) (by grind) (λi=>by grind) (λi hi=>h1 i (Jt.mpr hi)) ⟨q,hd q (by grind),eq⟩
 by_cases hn:∃i,0 < - d i
 ·obtain⟨k,hk⟩:=hn;obtain⟨t',aj,ab,q',ai,ah,aa⟩:=Bo (d:=λi=>- d i) hw.pos (λi h=>pos (hd i (by grind))) (List.range m) ⟨k,hr (by grind),hk⟩;have s2:Sub m cs w (λi=>w i-t' * - d i):=mk (a:=1) (b:=t') (by grind) (λi=>by grind) (λi hi=>ab i (Jt.mpr hi)) ⟨q',hd q' (by grind),aa⟩;have tt:t+t'≠0:=by grind
  have e1:0<t' / (t+t'):=by rw[Rat.lt_div_iff (by grind)];grind
  have e2:0<t / (t+t'):=by rw[Rat.lt_div_iff (by grind)];grind
  refine⟨_,_,t' / (t+t'),t / (t+t'),by grind,by grind,λi=>?_,s1,s2⟩;have e3:t' / (t+t')+t / (t+t')=1:=by grind
  have e4:t' / (t+t')*t=t / (t+t')*t':=by grind
  grind
 ·have s2:Sub m cs w d:=mk (a:=0) (b:=1) (by grind) (λi=>by grind) (λi hi=>HF λz=>hn ⟨i,by grind⟩) ⟨p,hp,dp⟩
  exact⟨_,_,1,t,by grind,by grind,λi=>by grind,s1,s2⟩
theorem split(hw:Nn m w)(ha:∀c∈cs,Hc m c w=0)(hz:cs.length+1<sz m w) :
  ∃u v a b,0<=a/\0<=b/\(∀i,w i=a*u i+b*v i)/\Sub m cs w u/\Sub m cs w v:=by
 have mem:∀ {i},i∈(List.range m).filter (λi=>decide (w i≠0))↔i<m/\w i≠0:=by simp
 have nd:((List.range m).filter (λi=>decide (w i≠0))).Nodup:=List.nodup_range.filter _
 unfold sz at hz;generalize hJ:(List.range m).filter (λi=>decide (w i≠0))=J at mem nd hz
 cases J with
 | nil=>simp at hz
 | cons p J =>
  obtain⟨np,aa⟩:=IZ.mp nd;obtain⟨d,h1,⟨i,hi⟩,h3⟩:=nv (m:=m) cs J aa (by simpa using hz);have hd:∀i,d i≠0->w i≠0:=λi h=>(mem.mp (Hx _ (h1 i h))).2;have dp:d p=0:=HF λz=>np (h1 p z);have hp:=(mem.mp (HB ..:p∈p::J)).2
  by_cases s:0<d i
  ·exact EL hw ha hd h3 hp dp ⟨i,s⟩
  ·have e:(λi=>- d i)=λi=>(-1)*d i+0*d i:=by funext i;grind
   exact EL (d:=λi=>- d i) hw ha (λi h=>hd i (by grind)) (λc hc=>by rw[e,c7,h3 c hc];grind) hp (by rw[dp];grind) ⟨i,by grind⟩
def vT(v:Rat)(x:Rat×Rat×Bool):Prop:=0<x.1+v*x.2.1\/(x.1+v*x.2.1=0/\x.2.2=false)
theorem maxL:∀(l:List (Rat×Bool)),l≠[]->∃x∈l,∀y∈l,y.1<x.1\/(y.1=x.1/\(y.2=true->x.2=true))
 | [],h=>absurd rfl h
 | z::l,_=>by
  by_cases hl:l=[]
  ·subst hl;exact⟨z,HB ..,λy hy=>by rcases HK.mp hy with rfl | h;exact .inr ⟨rfl,id⟩;cases h⟩
  ·obtain⟨x,hx,h⟩:=maxL l hl
   by_cases c:z.1<x.1\/(z.1=x.1/\(z.2=true->x.2=true))
   ·refine⟨x,Hx _ hx,λy hy=>?_⟩
    rcases HK.mp hy with rfl | hy
    ·exact c
    ·exact h y hy
   ·refine⟨z,HB ..,λy hy=>?_⟩
    rcases HK.mp hy with rfl | hy
    ·exact .inr ⟨rfl,id⟩
    ·have:=h y hy
     cases hz2:z.2<;>cases hx2:x.2<;>grind
theorem Ds(L:List (Rat×Rat×Bool))(hz:∀x∈L,x.2.1=0->vT 0 x)
  (hp:∀l∈L,∀h∈L,0<l.2.1->h.2.1<0->0<l.1*(- h.2.1)+h.1*l.2.1\/(l.1*(- h.2.1)+h.1*l.2.1=0/\l.2.2=false/\h.2.2=false)):∃v,∀x∈L,vT v x:=by
 have ah:(∀x∈L,¬ 0<x.2.1)\/∃l∈L,0<l.2.1/\∀x∈L,0<x.2.1->-x.1 / x.2.1 < -l.1 / l.2.1\/(-x.1 / x.2.1=-l.1 / l.2.1/\(x.2.2=true->l.2.2=true)):=by
  by_cases h:(L.filter λx=>decide (0<x.2.1)).map (λx=>(-x.1 / x.2.1,x.2.2))=[]
  ·refine .inl λx hx hp=>?_;rw[List.map_eq_nil_iff,List.filter_eq_nil_iff] at h;exact h x hx (by simpa using hp)
  ·obtain⟨y,hy,h⟩:=maxL _ h;obtain⟨l,hl,rfl⟩:=HA.mp hy;obtain⟨hl,aa⟩:=HH.mp hl;exact .inr ⟨l,hl,by simpa using aa,λx hx hp=>h _ (HA.mpr ⟨x,HH.mpr ⟨hx,by simpa using hp⟩,rfl⟩)⟩
 have ab:(∀x∈L,¬ x.2.1<0)\/∃l∈L,l.2.1<0/\∀x∈L,x.2.1<0->x.1 / x.2.1<l.1 / l.2.1\/(x.1 / x.2.1=l.1 / l.2.1/\(x.2.2=true->l.2.2=true)):=by
  by_cases h:(L.filter λx=>decide (x.2.1<0)).map (λx=>(x.1 / x.2.1,x.2.2))=[]
  ·refine .inl λx hx hp=>?_;rw[List.map_eq_nil_iff,List.filter_eq_nil_iff] at h;exact h x hx (by simpa using hp)
  ·obtain⟨y,hy,h⟩:=maxL _ h;obtain⟨l,hl,rfl⟩:=HA.mp hy;obtain⟨hl,aa⟩:=HH.mp hl;exact .inr ⟨l,hl,by simpa using aa,λx hx hp=>h _ (HA.mpr ⟨x,HH.mpr ⟨hx,by simpa using hp⟩,rfl⟩)⟩
 have lo:∀(x:Rat×Rat×Bool) (v:Rat),0<x.2.1->(-x.1 / x.2.1<v\/(-x.1 / x.2.1=v/\x.2.2=false))->vT v x:=λx v hc h=>by
  have e:x.1=-((-x.1 / x.2.1)*x.2.1):=by grind
  rcases h with h | h
  ·have:=Jd (a:=v-(-x.1 / x.2.1)) (b:=x.2.1) (by grind) hc
   exact .inl (by grind)
  ·exact .inr ⟨by grind,h.2⟩
 have hi:∀(x:Rat×Rat×Bool) (v:Rat),x.2.1<0->(x.1 / x.2.1 < -v\/(x.1 / x.2.1=-v/\x.2.2=false))->vT v x:=λx v hc h=>by
  have e:x.1=(x.1 / x.2.1)*x.2.1:=by grind
  rcases h with h | h
  ·have:=Jd (a:=-v-(x.1 / x.2.1)) (b:=-x.2.1) (by grind) (by grind)
   exact .inl (by grind)
  ·exact .inr ⟨by grind,h.2⟩
 have ze:∀(x:Rat×Rat×Bool) (v:Rat),x∈L->x.2.1=0->vT v x:=λx v hx h=>by
  have:=hz x hx h
  unfold vT at this ⊢;rw[h] at this ⊢
  grind
 have done:∀v,(∀x∈L,0<x.2.1->vT v x)->(∀x∈L,x.2.1<0->vT v x)->∃v,∀x∈L,vT v x:=λv h1 h2=>⟨v,λx hx=>by
  rcases(by grind:x.2.1<0\/x.2.1=0\/0<x.2.1) with c | c | c
  ·exact h2 x hx c
  ·exact ze x v hx c
  ·exact h1 x hx c⟩
 rcases ah with nl | ⟨l,hl,cl,tl⟩
 ·rcases ab with nh | ⟨k,hk,ck,tk⟩
  ·exact done 0 (λx hx h=>absurd h (nl x hx)) λx hx h=>absurd h (nh x hx)
  ·exact done (-(k.1 / k.2.1)-1) (λx hx h=>absurd h (nl x hx)) λx hx h=>hi x _ h (.inl (by have:=tk x hx h;grind))
 ·rcases ab with nh | ⟨k,hk,ck,tk⟩
  ·exact done (-l.1 / l.2.1+1) (λx hx h=>lo x _ h (.inl (by have:=tl x hx h;grind))) λx hx h=>absurd h (nh x hx)
  ·have pr:=hp l hl k hk cl ck
   have e1:l.1=-((-l.1 / l.2.1)*l.2.1):=by grind
   have e2:k.1=(k.1 / k.2.1)*k.2.1:=by grind
   generalize hA:-l.1 / l.2.1=A at *
   generalize hB:k.1 / k.2.1=B at *
   have ai:A < -B\/(A=-B/\l.2.2=false/\k.2.2=false):=by
    have e3:l.1*(-k.2.1)+k.1*l.2.1=(-B-A)*(l.2.1*(-k.2.1)):=by grind
    have pp:=Jd (a:=l.2.1) (b:=-k.2.1) cl (by grind)
    rw[e3] at pr
    rcases pr with p | p
    ·refine .inl (HF λz=>?_);have:=IC (a:=A+B) (b:=l.2.1 * -k.2.1) (by grind) (by grind)
     grind
    ·rcases JJ.mp p.1 with q | q
     ·exact .inr ⟨by grind,p.2⟩
     ·grind
   refine done ((A-B) / 2) (λx hx h=>lo x _ h ?_) λx hx h=>hi x _ h ?_
   ·have:=tl x hx h
    cases hx2:x.2.2<;>cases aa:l.2.2<;>grind
   ·have:=tk x hx h
    cases hx2:x.2.2<;>cases hk2:k.2.2<;>grind
def Comp(m:Nat)(st:Nat->Bool)(cs:List V)(S:List V):Prop:=∀(I:Nat->Prop) (e:V),(∀s∈S,(∀i,s i≠0->I i)->sat m st e s)->∀w,Nn m w->(∀c∈cs,Hc m c w=0)->(∀i,w i≠0->I i)->sat m st e w
def Co(j:Nat):V:=λi=>if i=j then 1 else 0
theorem pY(h:∀i,i<m->w i=0):sat m st e w:=by
 have:Hc m e w=0:=by
  rw[jy (w':=λi=>0*w i+0*w i) λi hi=>by rw[h i hi];grind,c7];grind
 exact .inr ⟨this,λi hi hp=>by rw[h i hi] at hp;grind⟩
theorem tD(S:List V)(h:∀j,j<m->Co j∈S):Comp m st [] S:=by
 intro I e hs w hw _ hI;have go:∀k,k<=m->sat m st e (λi=>if i<k then w i else 0):=λk=>by
  induction k with
  | zero=>intro _;exact pY λi _=>by simp
  | succ k ih =>
   intro hk;have h1:=ih (by omega)
   by_cases z:w k=0
   ·refine cV (λi hi=>?_) h1
    by_cases e1:i<k
    ·simp[e1,Nat.lt_succ_of_lt e1]
    ·by_cases e2:i=k
     ·subst e2;simp[z]
     ·simp[e1,show ¬ i<k+1 by omega]
   ·have h2:=hs (Co k) (h k (by omega)) λi hi=>by
     have:i=k:=HF λy=>hi (by simp[Co,y])
     subst this;exact hI i z
    refine cV (λi hi=>?_) (fA h1 h2 (a:=1) (b:=w k) (by grind) (hw.pos k));unfold Co
    by_cases e1:i<k
    ·simp[e1,Nat.lt_succ_of_lt e1,show i≠k by omega];grind
    ·by_cases e2:i=k
     ·subst e2;simp;grind
     ·simp[e1,e2,show ¬ i<k+1 by omega];grind
 exact cV (λi hi=>by simp[hi]) (go m (HD m))
structure Kept(m:Nat)(c:V)(most:Nat)(S S':List V):Prop where
 nn:∀s∈S,Nn m s
 zero:∀s∈S,Hc m c s=0->s∈S'
 cross:∀l∈S,∀h∈S,0<Hc m c l->Hc m c h<0->sz m (λi=>(- Hc m c h)*l i+Hc m c l*h i)<=most->∃u∈S',∃g,0<g/\∀i,g*u i=(- Hc m c h)*l i+Hc m c l*h i
theorem vA(e c w:V)(v:Rat):sat m st (λi=>1*e i+v*c i) w↔(0<Hc m e w+v*Hc m c w\/(Hc m e w+v*Hc m c w=0/\∀i,i<m->0<w i->st i=false)):=by
 unfold sat;rw[ql];have:1*Hc m e w+v*Hc m c w=Hc m e w+v*Hc m c w:=by grind
 rw[this]
open Classical in
theorem um(k:Comp m st cs S)(h:Kept m c (cs.length+2) S S'):Comp m st (c::cs) S':=by
 intro I e hs w hw ha hI;have main:∀n w,sz m w<=n->Nn m w->(∀c'∈c::cs,Hc m c' w=0)->(∀i,w i≠0->I i)->sat m st e w:=λn=>by
  induction n with
  | zero =>
   intro w hz hw _ _;refine pY λi hi=>byContradiction λz=>?_;have:=AK (w:=w) (w':=λ_=>0) m (λi _ h=>absurd rfl h) hi z rfl;omega
  | succ n ih =>
   intro w hz hw ha hI
   by_cases big:(c::cs).length+1<sz m w
   ·obtain⟨u,v,a,b,a0,b0,az,su,sv⟩:=split hw ha big;have h1:=ih u (by have:=su.lt;omega) su.nn su.an λi hi=>hI i (su.su i hi);have h2:=ih v (by have:=sv.lt;omega) sv.nn sv.an λi hi=>hI i (sv.su i hi);exact cV (λi _=>(az i).symm) (fA h1 h2 a0 b0)
   ·have big:sz m w<=cs.length+2:=by simp at big;omega
    have pr:∀l∈S,∀k∈S,(∀i,l i≠0->w i≠0)->(∀i,k i≠0->w i≠0)->0<Hc m c l->Hc m c k<0->sat m st e (λi=>(- Hc m c k)*l i+Hc m c l*k i):=λl hl k hk sl sk cl ck=>by
     have su:∀i,(- Hc m c k)*l i+Hc m c l*k i≠0->w i≠0:=λi hi=>by
      by_cases z:l i=0
      ·by_cases y:k i=0
       ·refine absurd ?_ hi;rw[z,y];grind
       ·exact sk i y
      ·exact sl i z
     obtain⟨u,hu,g,g0,eu⟩:=h.cross l hl k hk cl ck (Hz (xJ m λi _=>su i) big);have aj:=hs u hu λi hi=>hI i (su i (by rw[<- eu i];intro z;rcases JJ.mp z with q | q;grind;exact hi q));exact cV (λi _=>by rw[<- eu i];grind) (fA aj aj (a:=g) (b:=0) (by grind) (by grind))
    have od:=Ds ((S.filter λs=>decide (∀i,s i≠0->w i≠0)).map λs=>(Hc m e s,Hc m c s,!decide (∀i,i<m->0<s i->st i=false)))
    have as:=od λx hx h0=>by
     obtain⟨s,aa,rfl⟩:=HA.mp hx;obtain⟨aa,ai⟩:=HH.mp aa;have:=hs s (h.zero s aa h0) λi hi=>hI i ((by simpa using ai:∀i,¬ s i=0->¬ w i=0) i hi);unfold sat at this;unfold vT;have e0:Hc m e s+0*Hc m c s=Hc m e s:=by grind
     simp only[e0];simpa using this
    have ao:=as λl hl k hk cl ck=>by
     obtain⟨l,ah,rfl⟩:=HA.mp hl;obtain⟨k',ab,rfl⟩:=HA.mp hk;obtain⟨ah,aq⟩:=HH.mp ah;obtain⟨ab,al⟩:=HH.mp ab;have:=pr l ah k' ab (by simpa using aq) (by simpa using al) cl ck;unfold sat at this;rw[c7] at this;have e0:(- Hc m c k')*Hc m e l+Hc m c l*Hc m e k'=Hc m e l*(- Hc m c k')+Hc m e k'*Hc m c l:=by grind
     rw[e0] at this;refine this.imp id λ⟨h1,h2⟩=>⟨h1,?_,?_⟩
     ·simp only[Bool.not_eq_false',decide_eq_true_eq];intro i hi hp;refine h2 i hi ?_;have p1:=Jd (a:=- Hc m c k') (b:=l i) (by grind) hp;have p2:=IC (a:=Hc m c l) (b:=k' i) (by grind) ((h.nn k' ab).pos i)
      grind
     ·simp only[Bool.not_eq_false',decide_eq_true_eq];intro i hi hp;refine h2 i hi ?_;have p1:=Jd (a:=Hc m c l) (b:=k' i) cl hp;have p2:=IC (a:=- Hc m c k') (b:=l i) (by grind) ((h.nn l ah).pos i)
      grind
    obtain⟨v,hv⟩:=ao;have all:∀s∈S,(∀i,s i≠0->w i≠0)->sat m st (λi=>1*e i+v*c i) s:=λs aa ai=>by
     have:=hv _ (HA.mpr ⟨s,HH.mpr ⟨aa,by simpa using ai⟩,rfl⟩)
     rw[vA];unfold vT at this;simpa using this
    have:=k (λi=>w i≠0) _ all w hw (λc' hc'=>ha c' (Hx _ hc')) λi hi=>hi
    rw[vA,ha c (HB ..)] at this;unfold sat;have e0:Hc m e w+v*0=Hc m e w:=by grind
    rw[e0] at this;exact this
 exact main _ w (HD _) hw ha hI
end Mf
namespace Mf
open PySem L2 DL
def fN(x:Str->Rat):List (Str×Int)->Rat
 | []=>0
 | t::r=>(t.2:Rat)*x t.1+fN x r
def soR(x:Str->Rat)(r:Rw):Prop:=match r.1 with
 | .least=>(r.2.2:Rat)<=fN x r.2.1
 | .more=>(r.2.2:Rat)<fN x r.2.1
def nr(x:Str->Rat)(n:Str)(v:Rat):Str->Rat:=λk=>if k=n then v else x k
theorem qH(h:x n=0):∀ts,fN (nr x n v) ts=fN x ts+v*(cf ts n:Int)
 | []=>by show (0:Rat)=0+v*((0:Int):Rat);rw[show ((0:Int):Rat)=0 from rfl];grind
 | t::r=>by
  show (t.2:Rat)*nr x n v t.1+fN (nr x n v) r=(t.2:Rat)*x t.1+fN x r+v*(((if t.1=n then t.2 else 0)+cf r n:Int):Rat)
  rw[qH h r,Jo];unfold nr
  by_cases e:t.1=n
  ·rw[HU e,HU e,e,h];grind
  ·rw[HQ e,HQ e,show ((0:Int):Rat)=0 from rfl];grind
def pE(x:Str->Rat)(F:Str->Int):Zb->Rat
 | []=>0
 | n::r=>(F n:Rat)*x n+pE x F r
theorem ly:∀nm:Zb,pE x (λn=>F n+G n) nm=pE x F nm+pE x G nm
 | []=>by show (0:Rat)=0+0;grind
 | n::r=>by show ((F n+G n:Int):Rat)*x n+_=(F n:Rat)*x n+_+((G n:Rat)*x n+_);rw[ly r,Jo];grind
theorem qw:∀nm:Zb,pE x (λn=>a*F n) nm=a*pE x F nm
 | []=>by show (0:Rat)=a*0;grind
 | n::r=>by show ((a*F n:Int):Rat)*x n+_=a*((F n:Rat)*x n+_);rw[qw r,Ig];grind
theorem fJ:∀ {nm:Zb},(∀n∈nm,F n=0)->pE x F nm=0
 | [],_=>rfl
 | n::r,h=>by show (F n:Rat)*x n+_=0;rw[fJ λk hk=>h k (Hx _ hk),h n (HB ..),show ((0:Int):Rat)=0 from rfl];grind
theorem qO:∀ {nm:Zb},nm.Nodup->k∈nm->pE x (λn=>if k=n then a else 0) nm=a*x k
 | n::r,nd,h=>by
  obtain⟨h1,h2⟩:=IZ.mp nd;show ((if k=n then a else 0:Int):Rat)*x n+pE x _ r=_
  by_cases e:k=n
  ·subst e;rw[HU rfl,fJ (F:=λn=>if k=n then a else 0) λm hm=>HQ λ(z:k=m)=>h1 (z ▸ hm)];grind
  ·rw[HQ e,qO h2 ((HK.mp h).resolve_left e),show ((0:Int):Rat)=0 from rfl];grind
theorem rq(nd:nm.Nodup):∀ {ts:List (Str×Int)},(∀t∈ts,t.1∈nm)->fN x ts=pE x (cf ts) nm
 | [],_=>(fJ λ_ _=>rfl).symm
 | t::r,h=>by
  show _+fN x r=pE x (λn=>(if t.1=n then t.2 else 0)+cf r n) nm
  rw[ly,qO nd (h t (HB ..)),rq nd λu hu=>h u (Hx _ hu)]
theorem mS:∀ {ts:List (Str×Int)} {t:Str×Int},(ts.map (·.1)).Nodup->t∈ts->cf ts t.1=t.2
 | u::r,t,nd,h=>by
  obtain⟨h1,h2⟩:=IZ.mp nd;show (if u.1=t.1 then u.2 else 0)+cf r t.1=t.2
  rcases HK.mp h with rfl | h
  ·rw[HU rfl,iy h1,Kg]
  ·rw[HQ λe=>h1 (HA.mpr ⟨t,h,e.symm⟩),mS h2 h,J1]
theorem eM.cf(h:eM F us)(n:Str):cf us n=F n:=by
 by_cases e:n∈us.map (·.1)
 ·obtain⟨t,ht,rfl⟩:=HA.mp e;rw[mS h.nd ht,(h.val t ht).1]
 ·rw[iy e];exact(HF λz=>e (h.all n λy=>z y.symm))
def evl(x:Str->Rat):List (Rw×Int)->Rat
 | []=>0
 | p::r=>(p.2:Rat)*(fN x p.1.2.1-(p.1.2.2:Int))+evl x r
theorem tO(nd:nm.Nodup):∀ {l:List (Rw×Int)},(∀p∈l,∀t∈p.1.2.1,t.1∈nm)->evl x l=pE x (cfs l) nm-(bds l:Int)
 | [],_=>by
  show (0:Rat)=_-((0:Int):Rat)
  rw[fJ (F:=cfs []) λ_ _=>rfl,show ((0:Int):Rat)=0 from rfl];grind
 | p::r,h=>by
  show (p.2:Rat)*_+evl x r=pE x (λn=>p.2*cf p.1.2.1 n+cfs r n) nm-((p.2*p.1.2.2+bds r:Int):Rat)
  rw[ly,qw,tO nd λq hq=>h q (Hx _ hq),rq nd (h p (HB ..)),Jo,Ig]
  grind
def smT(nm:Zb)(F:Str->Int):List (Str×Int):=(nm.filter λn=>decide (F n≠0)).map λn=>(n,F n)
def Ht(nm:Zb)(rows:List Rw)(w:Ze):Rw:=(kOf (Hh (rows.zip w)),smT nm (cfs (rows.zip w)),bds (rows.zip w))
structure G7(nm:Zb)(rows:List Rw):Prop where
 pw:nm.Pairwise leS
 nd:nm.Nodup
 sum:∀r∈rows,eM (cf r.2.1) r.2.1
 sub:∀r∈rows,∀t∈r.2.1,t.1∈nm
theorem G7.cfs(h:G7 nm rows)(e:cfs (rows.zip w) n≠0):n∈nm :=
 u8 (λp hp=>h.sub p.1 (IN hp).1) e
theorem G7.smT(h:G7 nm rows)(w:Ze):eM (Mf.cfs (rows.zip w)) (Mf.smT nm (Mf.cfs (rows.zip w))):=eM.mk' h.pw h.nd λ_ e=>h.cfs e
theorem kh(h:G7 nm rows):soR x (Ht nm rows w)↔(0<evl x (rows.zip w)\/(evl x (rows.zip w)=0/\Hh (rows.zip w)=false)):=by
 have e:=tO (x:=x) h.nd (l:=rows.zip w) λp hp=>h.sub p.1 (IN hp).1
 have e2:fN x (Mf.smT nm (Mf.cfs (rows.zip w)))=pE x (Mf.cfs (rows.zip w)) nm:=by
  rw[rq h.nd λt ht=>?_]
  ·congr 1;exact funext λn=>(h.smT w).cf n
  ·obtain⟨n,hn,rfl⟩:=HA.mp ht;exact(HH.mp hn).1
 rw[e];unfold soR Ht
 cases Hh (rows.zip w)
 ·show ((bds _:Int):Rat)<=fN x _↔_
  rw[e2];grind
 ·show ((bds _:Int):Rat)<fN x _↔_
  rw[e2];grind
def Hf(w:Ze):V:=λi=>((w.getD i 0:Int):Rat)
def eV(x:Str->Rat)(rows:List Rw):V:=λi=>match rows[i]? with | some r=>fN x r.2.1-(r.2.2:Int) | none=>0
def colV(rows:List Rw)(n:Str):V:=λi=>match rows[i]? with | some r=>((cf r.2.1 n:Int):Rat) | none=>0
def stV(rows:List Rw):Nat->Bool:=λi=>match rows[i]? with | some r=>isM r.1 | none=>false
theorem jt(c w:V):∀m,Hc (m+1) c w=c 0*w 0+Hc m (λi=>c (i+1)) (λi=>w (i+1))
 | 0=>by show (0:Rat)+c 0*w 0=c 0*w 0+0;grind
 | m+1=>by show Hc (m+1) c w+c (m+1)*w (m+1)=_+(Hc m _ _+c (m+1)*w (m+1));rw[jt c w m];grind
theorem lL:∀ {rows:List Rw} {w:Ze},w.length=rows.length->evl x (rows.zip w)=Hc rows.length (eV x rows) (Hf w)
 | [],[],_=>rfl
 | r::rows,a::w,h=>by
  rw[HJ,jt];show (a:Rat)*(fN x r.2.1-_)+evl x (rows.zip w)=(fN x r.2.1-_)*(a:Rat)+Hc rows.length (eV x rows) (Hf w);rw[lL (by simpa using h)];grind
theorem ky:∀ {rows:List Rw} {w:Ze},w.length=rows.length->((cfs (rows.zip w) n:Int):Rat)=Hc rows.length (colV rows n) (Hf w)
 | [],[],_=>rfl
 | r::rows,a::w,h=>by
  rw[HJ,jt];show ((a*cf r.2.1 n+cfs (rows.zip w) n:Int):Rat)=((cf r.2.1 n:Int):Rat)*(a:Rat)+Hc rows.length (colV rows n) (Hf w);rw[Jo,Ig,ky (by simpa using h)];grind
theorem vN:0<Hf w i↔0<w.getD i 0:=Rat.intCast_pos
theorem pW:∀ {rows:List Rw} {w:Ze},w.length=rows.length->(Hh (rows.zip w)=false↔∀i,i<rows.length->0<Hf w i->stV rows i=false)
 | [],[],_=>⟨λ_ i hi=>absurd hi (Nat.not_lt_zero i),λ_=>rfl⟩
 | r::rows,a::w,h=>by
  have ih:=pW (rows:=rows) (w:=w) (by simpa using h)
  have e:Hh ((r::rows).zip (a::w))=((isM r.1&&decide (0<a))||Hh (rows.zip w)):=rfl
  rw[e,Bool.or_eq_false_iff,ih]
  constructor
  ·rintro⟨h1,h2⟩ i hi hp
   cases i with
   | zero =>
    have:0<a:=vN.mp hp
    rw[IF this,Bool.and_true] at h1;exact h1
   | succ i=>exact h2 i (by simpa using hi) hp
  ·intro hh;refine⟨?_,λi hi hp=>hh (i+1) (by simpa using hi) hp⟩
   by_cases ha:0<a
   ·have:isM r.1=false:=hh 0 (Nat.succ_pos _) (vN.mpr ha)
    rw[this,Bool.false_and]
   ·rw[IQ ha,Bool.and_false]
theorem rA(h:G7 nm rows)(hl:w.length=rows.length):soR x (Ht nm rows w)↔sat rows.length (stV rows) (eV x rows) (Hf w):=by
 rw[kh h,lL hl,pW hl];rfl
theorem qt(w:V):∀m,sz (m+1) w=(if w 0=0 then 0 else 1)+sz m λi=>w (i+1)
 | 0=>by rw[eE];show sz 0 w+_=_+sz 0 _;unfold sz;simp
 | m+1=>by rw[eE,qt w m,eE m];omega
def usd(w:Ze):Nat:=(w.filter λa=>decide (0<a)).length
theorem yA:∀ {w:Ze},(∀a∈w,0<=a)->sz w.length (Hf w)=usd w
 | [],_=>rfl
 | a::w,h=>by
  rw[HJ,qt];show (if ((a:Int):Rat)=0 then 0 else 1)+sz w.length (Hf w)=usd (a::w);rw[yA λb hb=>h b (Hx _ hb)];have h0:=h a (HB ..);unfold usd
  by_cases e:0<a
  ·rw[ID (by simpa using e),HQ (λz=>by have:a=0:=KM.mp z;omega),HJ];omega
  ·have:a=0:=by omega
   rw[Ii (by simpa using e),HU (by rw[this];rfl)];omega
theorem we(hl:w.length=m)(h:∀a∈w,0<=a):Nn m (Hf w):=by
 refine⟨λi=>?_,λi hi=>?_⟩
 ·show (0:Rat)<=((w.getD i 0:Int):Rat)
  refine Rat.intCast_nonneg.mpr ?_;rw[IM]
  cases e:w[i]? with
  | none=>exact Int.le_refl 0
  | some a=>exact h a (HY e)
 ·show ((w.getD i 0:Int):Rat)=0
  rw[IM,IT (by omega)];rfl
def gW(ws:Ze):Int:=ws.foldl gc 0
theorem Gk(a b:Int):0<=gc a b/\gc a b ∣ a/\gc a b ∣ b/\(a≠0\/b≠0->gc a b≠0):=by
 refine⟨v9 a b,eL a b,dP a b,λh z=>?_⟩;unfold gc at z;have:=Int.gcd_eq_zero_iff.mp (by omega:Int.gcd a b=0)
 rcases h with h | h
 ·exact h this.1
 ·exact h this.2
theorem nC:∀(ws:Ze) (a:Int),ws.foldl gc a ∣ a/\(∀w∈ws,ws.foldl gc a ∣ w)/\((a≠0\/∃w∈ws,w≠0)->ws.foldl gc a≠0)/\(0<=a->0<=ws.foldl gc a)
 | [],a=>⟨Int.dvd_refl a,λ_ h=>(nomatch h),λh=>h.elim id λ⟨_,h,_⟩=>(nomatch h),id⟩
 | w::ws,a=>by
  obtain⟨h1,h2,h3,h4⟩:=nC ws (gc a w);obtain⟨g0,g1,g2,g3⟩:=Gk a w;refine⟨Int.dvd_trans h1 g1,λv hv=>?_,λh=>h3 ?_,λ_=>h4 g0⟩
  ·rcases HK.mp hv with rfl | hv
   ·exact Int.dvd_trans h1 g2
   ·exact h2 v hv
  ·rcases h with h | ⟨v,hv,hn⟩
   ·exact .inl (g3 (.inl h))
   ·rcases HK.mp hv with rfl | hv
    ·exact .inl (g3 (.inr hn))
    ·exact .inr ⟨v,hv,hn⟩
theorem mJ(h:∃w∈ws,w≠0):0<gW ws:=by
 obtain⟨_,_,h3,h4⟩:=nC ws 0;have:=h3 (.inr h);have:=h4 (Int.le_refl 0);unfold gW;omega
theorem mx(h:w∈ws):gW ws ∣ w:=(nC ws 0).2.1 w h
def crS(rows:List Rw)(n:Str)(l h:Ze):Ze:=List.zipWith (λa b=>a * -(cfs (rows.zip h) n)+b*cfs (rows.zip l) n) l h
def shW(ws:Ze):Ze:=ws.map λa=>a.fdiv (gW ws)
def crW(rows:List Rw)(n:Str)(l h:Ze):Ze:=shW (crS rows n l h)
def woW(rows:List Rw)(n:Str)(most:Nat)(W:List (List Int)):List (List Int) :=
 (W.filter λw=>decide (cfs (rows.zip w) n=0))++(W.filter λw=>decide (0<cfs (rows.zip w) n)).flatMap λl =>
  ((W.filter λw=>decide (cfs (rows.zip w) n<0)).map (crW rows n l)).filter λu=>decide (usd u<=most)
def unW(m j:Nat):Ze:=(List.range m).map λi=>if i=j then 1 else 0
def sU(m:Nat):List (List Int):=(List.range m).map (unW m)
def G8(rows:List Rw):Zb->List (List Int)
 | []=>sU rows.length
 | n::ns=>woW rows n (ns.length+2) (G8 rows ns)
structure Wt(m:Nat)(w:Ze):Prop where
 len:w.length=m
 nn:∀a∈w,0<=a
 nz:∃a∈w,a≠0
theorem oQ(hf:f 0 0=0):∀ {l h:Ze},l.length=h.length->∀i,Hf (List.zipWith f l h) i=((f (l.getD i 0) (h.getD i 0):Int):Rat)
 | [],[],_,i=>by show (0:Rat)=((f 0 0:Int):Rat);rw[hf];rfl
 | a::l,b::h,e,0=>rfl
 | a::l,b::h,e,i+1=>oQ hf (by simpa using e) i
theorem nU:∀ {rows:List Rw} {l h:Ze},l.length=rows.length->h.length=rows.length->cfs (rows.zip (List.zipWith (λx y=>x*a+y*b) l h)) n=a*cfs (rows.zip l) n+b*cfs (rows.zip h) n
 | [],[],[],_,_=>by show (0:Int)=a*0+b*0;omega
 | r::rows,x::l,y::h,h1,h2=>by
  show (x*a+y*b)*cf r.2.1 n+cfs (rows.zip (List.zipWith _ l h)) n=a*(x*cf r.2.1 n+cfs (rows.zip l) n)+b*(y*cf r.2.1 n+cfs (rows.zip h) n)
  rw[nU (rows:=rows) (l:=l) (h:=h) (by simpa using h1) (by simpa using h2)];grind
theorem uX(hz:∃w∈ws,w≠0):List.zipWith (λx y=>x*gW ws+y*0) (shW ws) (shW ws)=ws:=by
 unfold shW;have:∀(l:Ze),(∀a∈l,gW ws ∣ a)->List.zipWith (λx y=>x*gW ws+y*0) (l.map λa=>a.fdiv (gW ws)) (l.map λa=>a.fdiv (gW ws))=l:=λl=>by
  induction l with
  | nil=>intro _;rfl
  | cons a l ih =>
   intro h;show (a.fdiv (gW ws)*gW ws+_*0)::_=a::l;rw[ih λb hb=>h b (Hx _ hb),JP (h a (HB ..)),Int.mul_zero,Kg]
 exact this ws λa ha=>mx ha
theorem nA:(shW ws).length=ws.length:=Hv ..
theorem ES{rows:List Rw}{ws:Ze}(hl:ws.length=rows.length)(hz:∃w∈ws,w≠0):gW ws*cfs (rows.zip (shW ws)) n=cfs (rows.zip ws) n:=by
 have e:=nU (rows:=rows) (n:=n) (a:=gW ws) (b:=0) (l:=shW ws) (h:=shW ws) (by rw[nA,hl]) (by rw[nA,hl])
 rw[uX hz] at e;rw[e];omega
theorem EE(hz:∃w∈ws,w≠0)(i:Nat):((gW ws:Int):Rat)*Hf (shW ws) i=Hf ws i:=by
 have e:=oQ (f:=λx y=>x*gW ws+y*0) (by omega) (l:=shW ws) (h:=shW ws) rfl i
 rw[uX hz] at e;rw[e];show _*((_:Int):Rat)=_;simp only[Int.mul_zero,Int.add_zero];rw[Ig];grind
theorem Gc(hz:∃w∈ws,w≠0)(h:∀a∈ws,0<=a):∀a∈shW ws,0<=a:=λa ha=>by
 obtain⟨b,hb,rfl⟩:=HA.mp ha;obtain⟨c,hc⟩:=mx hb;have g:=mJ hz;have aa:=h b hb;have e:b.fdiv (gW ws)*gW ws=b:=JP (mx hb);refine HF λz=>?_;have:=Int.mul_lt_mul_of_pos_right (show b.fdiv (gW ws)<0 by omega) g;omega
theorem Fv(hz:∃w∈ws,w≠0):∃a∈shW ws,a≠0:=by
 obtain⟨w,hw,hn⟩:=hz;refine⟨_,HA.mpr ⟨w,hw,rfl⟩,λz=>hn ?_⟩;have e:w.fdiv (gW ws)*gW ws=w:=JP (mx hw);rw[z] at e;omega
theorem nW(hl:l.length=m)(hh:h.length=m):(crS rows n l h).length=m:=by unfold crS;rw[List.length_zipWith];omega
theorem Du(ha:0<a)(hb:0<b):∀ {l h:Ze},(∀x∈l,0<=x)->(∀x∈h,0<=x)->∀x∈List.zipWith (λx y=>x*a+y*b) l h,0<=x
 | [],_,_,_,x,hx=>by simp at hx
 | _::_,[],_,_,x,hx=>by simp at hx
 | u::l,v::h,h1,h2,x,hx=>by
  rw[Kr] at hx
  rcases HK.mp hx with rfl | hx
  ·have:=Int.mul_nonneg (h1 u (HB ..)) (Ki ha)
   have:=Int.mul_nonneg (h2 v (HB ..)) (Ki hb)
   omega
  ·exact Du ha hb (λx hx=>h1 x (Hx _ hx)) (λx hx=>h2 x (Hx _ hx)) x hx
theorem Dy(ha:0<a)(hb:0<b):∀ {l h:Ze},l.length=h.length->(∀x∈l,0<=x)->(∀x∈h,0<=x)->(∃x∈l,x≠0)->∃x∈List.zipWith (λx y=>x*a+y*b) l h,x≠0
 | [],_,_,_,_,⟨x,hx,_⟩=>by simp at hx
 | _::_,[],e,_,_,_=>by simp at e
 | u::l,v::h,e,h1,h2,⟨x,hx,hn⟩=>by
  rw[Kr]
  rcases HK.mp hx with rfl | hx
  ·refine⟨_,HB ..,λz=>?_⟩;have:=Int.mul_pos (a:=x) (b:=a) (by have:=h1 x (HB ..);omega) ha;have:=Int.mul_nonneg (h2 v (HB ..)) (Ki hb);omega
  ·obtain⟨y,hy,aa⟩:=Dy ha hb (by simpa using e) (λx hx=>h1 x (Hx _ hx)) (λx hx=>h2 x (Hx _ hx)) ⟨x,hx,hn⟩;exact⟨y,Hx _ hy,aa⟩
section
theorem jg(wl:Wt rows.length l)(wh:Wt rows.length h)(cl:0<cfs (rows.zip l) n)(ch:cfs (rows.zip h) n<0):(∀a∈crS rows n l h,0<=a)/\∃a∈crS rows n l h,a≠0 :=
 ⟨Du (by omega) cl wl.nn wh.nn,Dy (by omega) cl (by rw[wl.len,wh.len]) wl.nn wh.nn wl.nz⟩
theorem pQ(wl:Wt rows.length l)(wh:Wt rows.length h)(cl:0<cfs (rows.zip l) n)(ch:cfs (rows.zip h) n<0):Wt rows.length (crW rows n l h):=by
 obtain⟨h1,h2⟩:=jg wl wh cl ch;exact⟨by unfold crW;rw[nA];exact nW wl.len wh.len,Gc h2 h1,Fv h2⟩
theorem AS(wl:Wt rows.length l)(wh:Wt rows.length h)(cl:0<cfs (rows.zip l) n)(ch:cfs (rows.zip h) n<0):gW (crS rows n l h)*cfs (rows.zip (crW rows n l h)) k=-(cfs (rows.zip h) n)*cfs (rows.zip l) k+cfs (rows.zip l) n*cfs (rows.zip h) k:=by
 obtain⟨h1,h2⟩:=jg wl wh cl ch;unfold crW;rw[ES (nW wl.len wh.len) h2];exact nU (rows:=rows) wl.len wh.len
theorem oh(wl:Wt rows.length l)(wh:Wt rows.length h)(cl:0<cfs (rows.zip l) n)(ch:cfs (rows.zip h) n<0)(i:Nat):((gW (crS rows n l h):Int):Rat)*Hf (crW rows n l h) i=-((cfs (rows.zip h) n:Int):Rat)*Hf l i+((cfs (rows.zip l) n:Int):Rat)*Hf h i:=by
 obtain⟨h1,h2⟩:=jg wl wh cl ch;unfold crW;rw[EE h2];unfold crS;rw[oQ (by omega) (by rw[wl.len,wh.len])];rw[Jo,Ig,Ig,Rat.intCast_neg];unfold Hf
 grind
end
theorem cZ{rows:List Rw}{W:List (List Int)}{w:List Int}:w∈woW rows n most W↔(w∈W/\cfs (rows.zip w) n=0)\/∃l∈W,0<cfs (rows.zip l) n/\∃h∈W,cfs (rows.zip h) n<0/\w=crW rows n l h/\usd w<=most:=by
 unfold woW;rw[HZ,HH,List.mem_flatMap];refine or_congr (by simp) ?_
 constructor
 ·rintro⟨l,hl,hm⟩;obtain⟨aa,al⟩:=HH.mp hl;obtain⟨ai,aj⟩:=HH.mp hm;obtain⟨h,hh,rfl⟩:=HA.mp ai;obtain⟨ab,ah⟩:=HH.mp hh;exact⟨l,aa,by simpa using al,h,ab,by simpa using ah,rfl,by simpa using aj⟩
 ·rintro⟨l,hl,cl,h,hh,ch,rfl,hu⟩;exact⟨l,HH.mpr ⟨hl,by simpa using cl⟩,HH.mpr ⟨HA.mpr ⟨h,HH.mpr ⟨hh,by simpa using ch⟩,rfl⟩,by simpa using hu⟩⟩
theorem Eh(h:j<m):Wt m (unW m j):=by
 refine⟨by unfold unW;simp,λa ha=>?_,1,?_,by decide⟩
 ·obtain⟨i,_,rfl⟩:=HA.mp ha
  split<;>decide
 ·exact HA.mpr ⟨j,Jt.mpr h,by simp⟩
theorem zS(h:j<m):Hf (unW m j)=Co j:=by
 funext i
 unfold Hf unW Co;rw[IM,HM]
 by_cases hi:i<m
 ·rw[List.getElem?_range hi];show (((if i=j then 1 else 0:Int)):Rat)=_
  by_cases e:i=j<;>simp[e]
 ·rw[IT (by simpa using Nat.le_of_not_lt hi)];have:i≠j:=by omega
  simp[this]
theorem cu:∀ {ns:Zb} {w:Ze},w∈G8 rows ns->Wt rows.length w/\∀n∈ns,cfs (rows.zip w) n=0
 | [],w,h=>by
  obtain⟨j,hj,rfl⟩:=HA.mp h;exact⟨Eh (Jt.mp hj),λ_ h=>(nomatch h)⟩
 | n::ns,w,h=>by
  rcases cZ.mp h with⟨h1,h2⟩ | ⟨l,hl,cl,k,hk,ck,rfl,_⟩
  ·obtain⟨a,b⟩:=cu h1;exact⟨a,λx hx=>(HK.mp hx).elim (λe=>e ▸ h2) (b x)⟩
  ·obtain⟨a,b⟩:=cu hl;obtain⟨a',b'⟩:=cu hk;refine⟨pQ a a' cl ck,λx hx=>?_⟩;have e:=AS (k:=x) a a' cl ck;have g:=mJ (jg a a' cl ck).2;have:-(cfs (rows.zip k) n)*cfs (rows.zip l) x+cfs (rows.zip l) n*cfs (rows.zip k) x=0:=by
    rcases HK.mp hx with rfl | hx
    ·grind
    ·rw[b x hx,b' x hx];omega
   rw[this] at e
   rcases Int.mul_eq_zero.mp e with z | z
   ·omega
   ·exact z
theorem xD:Kept rows.length (colV rows n) (ns.length+2) ((G8 rows ns).map Hf) ((G8 rows (n::ns)).map Hf):=by
 have dt:∀ {w},w∈G8 rows ns->Hc rows.length (colV rows n) (Hf w)=((cfs (rows.zip w) n:Int):Rat):=λh=>(ky (cu h).1.len).symm
 constructor
 ·intro s hs;obtain⟨w,hw,rfl⟩:=HA.mp hs;exact we (cu hw).1.len (cu hw).1.nn
 ·intro s hs h0;obtain⟨w,hw,rfl⟩:=HA.mp hs;rw[dt hw] at h0;exact HA.mpr ⟨w,cZ.mpr (.inl ⟨hw,KM.mp h0⟩),rfl⟩
 ·intro l hl h hh cl ch hz;obtain⟨l,ab,rfl⟩:=HA.mp hl;obtain⟨h,aa,rfl⟩:=HA.mp hh;clear hl hh;have hl:=ab;have hh:=aa;rw[dt hl] at cl hz ⊢;rw[dt hh] at ch hz ⊢;have cl:0<cfs (rows.zip l) n:=Rat.intCast_pos.mp cl;have ch:cfs (rows.zip h) n<0:=Rat.intCast_neg_iff.mp ch;have wl:=(cu hl).1;have wh:=(cu hh).1;have ww:=pQ wl wh cl ch;have g:=mJ (jg wl wh cl ch).2;have gr:(0:Rat)<((gW (crS rows n l h):Int):Rat):=Rat.intCast_pos.mpr g;refine⟨_,HA.mpr ⟨crW rows n l h,cZ.mpr (.inr ⟨l,hl,cl,h,hh,ch,rfl,?_⟩),rfl⟩,_,gr,λi=>oh wl wh cl ch i⟩;rw[<- yA ww.nn,ww.len];refine Hz (xJ _ λi _ hi=>?_) hz;rw[<- oh wl wh cl ch i];intro z
  rcases JJ.mp z with q | q
  ·grind
  ·exact hi q
theorem qo:∀ns:Zb,Comp rows.length (stV rows) (ns.map (colV rows)) ((G8 rows ns).map Hf)
 | []=>tD _ λj hj=>HA.mpr ⟨unW rows.length j,HA.mpr ⟨j,Jt.mpr hj,rfl⟩,zS hj⟩
 | n::ns=>um (qo ns) (by rw[Hv];exact xD)
def He(p:Int×Int):Rat:=(p.1:Rat) / (p.2:Rat)
theorem eG(h:a≠0):((a:Int):Rat)≠0:=λz=>h (KM.mp z)
theorem gy(h:0<a):(0:Rat)<((a:Int):Rat):=Rat.intCast_pos.mpr h
theorem iY(t:Int)(h:b≠0):He (G2 t b,G5 t b)=(t:Rat) / (b:Rat):=by
 have c:=qv t b
 have hB:=(eC t h).ne
 have c2:((G2 t b:Int):Rat)*(b:Rat)=(t:Rat)*((G5 t b:Int):Rat):=by rw[<- Ig,<- Ig,c]
 have h1:=eG h
 have h2:=eG hB
 show ((G2 t b:Int):Rat) / ((G5 t b:Int):Rat)=_
 grind
theorem el(hp:0<p.2)(hq:0<q.2):He p<He q↔p.1*q.2<q.1*p.2:=by
 have h1:=gy hp
 have h2:=gy hq
 have h3:=Jd h1 h2
 have e1:He p*((p.2:Rat)*(q.2:Rat))=((p.1*q.2:Int):Rat):=by rw[Ig];unfold He;grind
 have e2:He q*((p.2:Rat)*(q.2:Rat))=((q.1*p.2:Int):Rat):=by rw[Ig];unfold He;grind
 rw[<- Jk,<- e1,<- e2]
 constructor
 ·intro h;have:=Jd (a:=He q-He p) (by grind) h3
  grind
 ·intro h;refine HF λz=>?_;have:=IC (a:=He p-He q) (b:=(p.2:Rat)*(q.2:Rat)) (by grind) (by grind)
  grind
theorem iP(hp:GW p.1 p.2)(hq:GW q.1 q.2)(e:He p=He q):p=q:=by
 have h1:¬ p.1*q.2<q.1*p.2:=λz=>by have:=(el hp.pos hq.pos).mpr z;grind
 have h2:¬ q.1*p.2<p.1*q.2:=λz=>by have:=(el hq.pos hp.pos).mpr z;grind
 have:=hp.uniq hq (by omega)
 exact Prod.ext this.1 this.2
theorem ny(a:Int):He (G2 a 1,G5 a 1)=(a:Rat):=by
 rw[iY a (by decide)];show (a:Rat) / ((1:Int):Rat)=a;rw[show ((1:Int):Rat)=1 from rfl];grind
theorem kn(a:Int):G2 a 1=a/\G5 a 1=1:=GW.self ⟨by decide,by unfold gc;simp⟩
theorem D5(h:0<p.2):((p.1.fdiv p.2:Int):Rat)<=He p/\He p<((p.1.fdiv p.2+1:Int):Rat):=by
 have m0:=Iy p.1 h
 have m1:=IL p.1 h
 have e:p.2*p.1.fdiv p.2+p.1.fmod p.2=p.1:=by rw[Ky];omega
 have hr:=gy h
 generalize hf:p.1.fdiv p.2=f at *
 have e1:((f:Int):Rat)=He (f,1):=by unfold He;show _=((f:Int):Rat) / ((1:Int):Rat);rw[show ((1:Int):Rat)=1 from rfl];grind
 have e2:((f+1:Int):Rat)=He (f+1,1):=by unfold He;show _=((f+1:Int):Rat) / ((1:Int):Rat);rw[show ((1:Int):Rat)=1 from rfl];grind
 rw[e1,e2]
 constructor
 ·refine HF λz=>?_;have:=(el (p:=p) (q:=(f,1)) h Int.one_pos).mp (by grind);simp only at this;have:p.2*f=f*p.2:=Ja ..;omega
 ·refine(el (p:=p) (q:=(f+1,1)) h Int.one_pos).mpr ?_;simp only;rw[Int.add_mul];have:p.2*f=f*p.2:=Ja ..;omega
def Hj(ks:Zb)(ps:Za):Str->Rat:=λn=>He (sR ks ps n)
theorem ov_R(h0:0<pB ks ps n)(hd:pB ks ps n ∣ K):((ov (pT ks ps) (pB ks ps) K n:Int):Rat)=(K:Rat)*Hj ks ps n:=by
 obtain⟨y,rfl⟩:=hd;have hn:pB ks ps n≠0:=by omega
 unfold ov Hj He;rw[Kh _ hn,Ig,Ig];have:=eG hn;show ((pT ks ps n:Int):Rat)*_=((pB ks ps n:Int):Rat)*_*(((pT ks ps n:Int):Rat) / ((pB ks ps n:Int):Rat))
 grind
theorem qu:∀ {ts:List (Str×Int)},(∀t∈ts,0<pB ks ps t.1/\pB ks ps t.1 ∣ K)->((d9 (ov (pT ks ps) (pB ks ps) K) ts:Int):Rat)=(K:Rat)*fN (Hj ks ps) ts
 | [],_=>by show ((0:Int):Rat)=_*0;rw[show ((0:Int):Rat)=0 from rfl];grind
 | t::r,h=>by
  show ((t.2*ov _ _ K t.1+d9 _ r:Int):Rat)=_*((t.2:Rat)*_+fN _ r)
  obtain⟨h1,h2⟩:=h t (HB ..);rw[Jo,Ig,ov_R h1 h2,qu λu hu=>h u (Hx _ hu)];grind
def bnd(ks:Zb)(ps:Za)(n:Str)(r:Rw):Int×Int :=
 let o:=r.2.1.filter λt=>decide (t.1≠n)
 let K:=bot (pB ks ps) (o.map (·.1))
 (G2 (r.2.2*K-d9 (ov (pT ks ps) (pB ks ps) K) o) (cf r.2.1 n*K),G5 (r.2.2*K-d9 (ov (pT ks ps) (pB ks ps) K) o) (cf r.2.1 n*K))
theorem eK(h:x n=0):∀ts:List (Str×Int),fN x (ts.filter λt=>decide (t.1≠n))=fN x ts
 | []=>rfl
 | t::r=>by
  by_cases e:t.1=n
  ·rw[Ii (by simp[e]),eK h r];show _=(t.2:Rat)*x t.1+_;rw[e,h];grind
  ·rw[ID (by simp[e])];show _+_=_+fN x r;rw[eK h r]
theorem zd(hp:∀t∈r.2.1,t.1≠n->0<pB ks ps t.1)(h0:Hj ks ps n=0)(hc:cf r.2.1 n≠0) :
  GW (bnd ks ps n r).1 (bnd ks ps n r).2/\He (bnd ks ps n r)=-(fN (Hj ks ps) r.2.1-(r.2.2:Int)) / ((cf r.2.1 n:Int):Rat):=by
 unfold bnd;have ho:∀t∈r.2.1.filter (λt=>decide (t.1≠n)),0<pB ks ps t.1:=λt ht=>by
  obtain⟨h1,h2⟩:=HH.mp ht;exact hp t h1 (by simpa using h2)
 have hs:=eK h0 r.2.1
 generalize ho':r.2.1.filter (λt=>decide (t.1≠n))=o at *
 have hK:0<bot (pB ks ps) (o.map (·.1)):=c4 λk hk=>by
  obtain⟨t,ht,rfl⟩:=HA.mp hk;exact ho t ht
 have e:=qu (ks:=ks) (ps:=ps) (K:=bot (pB ks ps) (o.map (·.1))) (ts:=o) λt ht=>⟨ho t ht,fS (HA.mpr ⟨t,ht,rfl⟩)⟩
 simp only;generalize bot (pB ks ps) (o.map (·.1))=K at *;have aa:cf r.2.1 n*K≠0:=IP hc (by omega);refine⟨eC _ aa,?_⟩;rw[iY _ aa,Ig,Rat.intCast_sub,Ig,e,hs];have h1:=eG hc;have h2:=eG (show K≠0 by omega)
 grind
abbrev Hb:=Option (Int×Int)×Bool
def tgt(lo:Bool)(a b:Hb):Hb:=match a.1,b.1 with
 | none,_=>b
 | some _,none=>a
 | some p,some q=>if p=q then (some p,a.2&&b.2) else if decide (q.1*p.2<p.1*q.2)=lo then a else b
structure Tgt(lo:Bool)(cs:List ((Int×Int)×Bool))(e:Hb):Prop where
 nn:e.1=none->cs=[]
 so:∀p,e.1=some p->GW p.1 p.2/\(∃c∈cs,c.1=p/\c.2=e.2)/\∀c∈cs,(c.1=p/\(e.2=true->c.2=true))\/(c.1≠p/\(if lo then He c.1<He p else He p<He c.1))
theorem Tgt.nil:Tgt lo [] (none,false):=⟨λ_=>rfl,λ_ h=>(nomatch h)⟩
theorem Tgt.step(h:Tgt lo cs e)(hc:GW c.1.1 c.1.2):Tgt lo (cs++[c]) (tgt lo e (some c.1,c.2)):=by
 obtain⟨e1,e2⟩:=e;obtain⟨q,b⟩:=c
 cases e1 with
 | none =>
  have:cs=[]:=h.nn rfl
  subst this;refine⟨λz=>(nomatch z),λp hp=>?_⟩
  cases hp
  exact⟨hc,⟨(q,b),by simp,rfl,rfl⟩,λc hc=>by
   have:c=(q,b):=by simpa using hc
   subst this;exact .inl ⟨rfl,id⟩⟩
 | some p =>
  obtain⟨lp,⟨w,hw,w1,w2⟩,all⟩:=h.so p rfl;show Tgt lo _ (if p=q then (some p,e2&&b) else if decide (q.1*p.2<p.1*q.2)=lo then (some p,e2) else (some q,b));have lt:=el (p:=q) (q:=p) hc.pos lp.pos;have gt:=el (p:=p) (q:=q) lp.pos hc.pos
  by_cases e:p=q
  ·rw[HU e];subst e;refine⟨λz=>(nomatch z),λp' hp=>?_⟩
   cases hp
   refine⟨lp,?_,λc hc'=>?_⟩
   ·cases b
    ·exact⟨(p,false),by simp,rfl,by simp⟩
    ·exact⟨w,HV _ hw,w1,by simpa using w2⟩
   ·rcases HZ.mp hc' with hc' | hc'
    ·rcases all c hc' with⟨a1,a2⟩ | a
     ·exact .inl ⟨a1,λz=>a2 (by simpa using (by simpa using z:e2=true/\b=true).1)⟩
     ·exact .inr a
    ·have:c=(p,b):=by simpa using hc'
     subst this;exact .inl ⟨rfl,λz=>(by simpa using z:e2=true/\b=true).2⟩
  ·rw[HQ e];have ne:He p≠He q:=λz=>e (iP lp hc z)
   by_cases k:decide (q.1*p.2<p.1*q.2)=lo
   ·rw[HU k];refine⟨λz=>(nomatch z),λp' hp=>?_⟩
    cases hp
    refine⟨lp,⟨w,HV _ hw,w1,w2⟩,λc hc'=>?_⟩
    rcases HZ.mp hc' with hc' | hc'
    ·exact all c hc'
    ·have:c=(q,b):=by simpa using hc'
     subst this;refine .inr ⟨λz=>e z.symm,?_⟩
     cases lo
     ·have:=(decide_eq_false_iff_not.mp k)
      simp only[Bool.false_eq_true,if_false];have:¬ He q<He p:=λz=>this (lt.mp z)
      grind
     ·simp only[if_true];exact lt.mpr (decide_eq_true_eq.mp k)
   ·rw[HQ k];refine⟨λz=>(nomatch z),λp' hp=>?_⟩
    cases hp
    have pq:if lo then He p<He q else He q<He p:=by
     cases lo
     ·simp only[Bool.false_eq_true,if_false];simp only[Bool.not_eq_false,decide_eq_true_eq] at k;exact lt.mpr k
     ·simp only[if_true];simp only[decide_eq_true_eq] at k;have:¬ He q<He p:=λz=>k (lt.mp z)
      grind
    refine⟨hc,⟨(q,b),by simp,rfl,rfl⟩,λc hc'=>?_⟩
    rcases HZ.mp hc' with hc' | hc'
    ·have x:=all c hc'
     refine .inr ?_
     cases lo
     ·simp only[Bool.false_eq_true,if_false] at x pq ⊢;have:He q<He c.1:=by rcases x with x | x;rw[x.1];exact pq;grind
      exact⟨λz=>by rw[z] at this;grind,this⟩
     ·simp only[if_true] at x pq ⊢;have:He c.1<He q:=by rcases x with x | x;rw[x.1];exact pq;grind
      exact⟨λz=>by rw[z] at this;grind,this⟩
    ·have:c=(q,b):=by simpa using hc'
     subst this;exact .inl ⟨rfl,id⟩
def G9(lo hi:Option (Int×Int)):Int×Int:=match lo,hi with
 | none,none=>(0,1)
 | none,some h=>(G2 (h.1.fdiv h.2-1) 1,G5 (h.1.fdiv h.2-1) 1)
 | some l,none=>(G2 (l.1.fdiv l.2+1) 1,G5 (l.1.fdiv l.2+1) 1)
 | some l,some h =>
  if G2 (l.1.fdiv l.2+1) 1*h.2<h.1*G5 (l.1.fdiv l.2+1) 1 then (G2 (l.1.fdiv l.2+1) 1,G5 (l.1.fdiv l.2+1) 1)
  else if l=h then l
  else
   let s:Int×Int:=(G2 (l.1*h.2+h.1*l.2) (l.2*h.2),G5 (l.1*h.2+h.1*l.2) (l.2*h.2))
   (G2 (s.1*1) (s.2*2),G5 (s.1*1) (s.2*2))
theorem Ez{lo hi:Hb}(h1:∀p,lo.1=some p->GW p.1 p.2)(h2:∀p,hi.1=some p->GW p.1 p.2)(hh:∀p q,lo.1=some p->hi.1=some q->He p<He q\/(He p=He q/\lo.2=true/\hi.2=true)) :
  GW (G9 lo.1 hi.1).1 (G9 lo.1 hi.1).2/\(∀p,lo.1=some p->He p<He (G9 lo.1 hi.1)\/(He p=He (G9 lo.1 hi.1)/\lo.2=true))/\∀q,hi.1=some q->He (G9 lo.1 hi.1)<He q\/(He (G9 lo.1 hi.1)=He q/\hi.2=true):=by
 obtain⟨l,lb⟩:=lo;obtain⟨h,hb⟩:=hi;have L1:∀a,GW (G2 a 1) (G5 a 1):=λa=>eC a (by decide)
 cases l with
 | none =>
  cases h with
  | none=>exact⟨(⟨by decide,by unfold gc;decide⟩:GW 0 1),λp z=>(nomatch z),λp z=>(nomatch z)⟩
  | some h =>
   refine⟨L1 _,λp z=>(nomatch z),λp z=>?_⟩
   cases z
   have:=D5 (h2 _ rfl).pos
   refine .inl ?_;show He (G2 _ 1,G5 _ 1)<_;rw[ny,Rat.intCast_sub,show ((1:Int):Rat)=1 from rfl];grind
 | some l =>
  have hl:=h1 _ rfl
  have fl:=D5 hl.pos
  cases h with
  | none =>
   refine⟨L1 _,λp z=>?_,λp z=>(nomatch z)⟩
   cases z
   refine .inl ?_;show _<He (G2 _ 1,G5 _ 1);rw[ny];exact fl.2
  | some h =>
   have hH:=h2 _ rfl
   have c:=hh _ _ rfl rfl
   show GW (G9 (some l) (some h)).1 (G9 (some l) (some h)).2/\(∀p,some l=some p->He p<He (G9 (some l) (some h))\/_/\lb=true)/\(∀q,some h=some q->He (G9 (some l) (some h))<He q\/_/\hb=true)
   unfold G9;simp only
   by_cases k:G2 (l.1.fdiv l.2+1) 1*h.2<h.1*G5 (l.1.fdiv l.2+1) 1
   ·rw[HU k];refine⟨L1 _,λp z=>?_,λp z=>?_⟩
    ·cases z;rw[ny];exact .inl fl.2
    ·cases z;exact .inl ((el (L1 _).pos hH.pos).mpr k)
   ·rw[HQ k]
    by_cases e:l=h
    ·rw[HU e];subst e;have:lb=true/\hb=true:=by rcases c with c | c;grind;exact c.2
     exact⟨hl,λp z=>by cases z;exact .inr ⟨rfl,this.1⟩,λp z=>by cases z;exact .inr ⟨rfl,this.2⟩⟩
    ·rw[HQ e];have lt:He l<He h:=by
      rcases c with c | c
      ·exact c
      ·exact absurd (iP hl hH c.1) e
     have nz:l.2*h.2≠0:=IP hl.ne hH.ne
     have sl:=eC (l.1*h.2+h.1*l.2) nz
     have aa:G5 (l.1*h.2+h.1*l.2) (l.2*h.2)*2≠0:=IP sl.ne (by decide)
     have e1:He (G2 (l.1*h.2+h.1*l.2) (l.2*h.2),G5 (l.1*h.2+h.1*l.2) (l.2*h.2))=He l+He h:=by
      rw[iY _ nz,Jo,Ig,Ig,Ig];have a1:=eG hl.ne;have a2:=eG hH.ne;unfold He
      grind
     have e2:He (G2 (G2 (l.1*h.2+h.1*l.2) (l.2*h.2)*1) (G5 (l.1*h.2+h.1*l.2) (l.2*h.2)*2),G5 (G2 (l.1*h.2+h.1*l.2) (l.2*h.2)*1) (G5 (l.1*h.2+h.1*l.2) (l.2*h.2)*2))=(He l+He h) / 2:=by
      rw[iY _ aa,<- e1,Ig,Ig,show ((1:Int):Rat)=1 from rfl,show ((2:Int):Rat)=2 from rfl];have a1:=eG sl.ne;unfold He
      grind
     refine⟨eC _ aa,λp z=>?_,λp z=>?_⟩
     ·cases z;rw[e2];exact .inl (by grind)
     ·cases z;rw[e2];exact .inl (by grind)
def cnd(nm:Zb)(rows:List Rw)(ks:Zb)(ps:Za)(n:Str)(w:Ze):(Int×Int)×Bool:=(bnd ks ps n (Ht nm rows w),!Hh (rows.zip w))
def pcs(nm:Zb)(rows:List Rw)(ks:Zb)(ps:Za)(n:Str)(W:List (List Int)):Hb×Hb :=
  W.foldl (λe w =>
    (if 0<cfs (rows.zip w) n then tgt true e.1 (some (cnd nm rows ks ps n w).1,(cnd nm rows ks ps n w).2) else e.1,
     if cfs (rows.zip w) n<0 then tgt false e.2 (some (cnd nm rows ks ps n w).1,(cnd nm rows ks ps n w).2) else e.2)) ((none,false),(none,false))
theorem uN:∀(W:List (List Int)),(∀w∈W,cfs (rows.zip w) n≠0->GW (cnd nm rows ks ps n w).1.1 (cnd nm rows ks ps n w).1.2) ->
    Tgt true ((W.filter λw=>decide (0<cfs (rows.zip w) n)).map (cnd nm rows ks ps n)) (pcs nm rows ks ps n W).1/\Tgt false ((W.filter λw=>decide (cfs (rows.zip w) n<0)).map (cnd nm rows ks ps n)) (pcs nm rows ks ps n W).2:=by
  intro W;unfold pcs;have:∀(W:List (List Int)) (c1 c2:List ((Int×Int)×Bool)) (e:Hb×Hb),(∀w∈W,cfs (rows.zip w) n≠0->GW (cnd nm rows ks ps n w).1.1 (cnd nm rows ks ps n w).1.2)->Tgt true c1 e.1->Tgt false c2 e.2 ->
      Tgt true (c1++(W.filter λw=>decide (0<cfs (rows.zip w) n)).map (cnd nm rows ks ps n)) (W.foldl (λe w =>
    (if 0<cfs (rows.zip w) n then tgt true e.1 (some (cnd nm rows ks ps n w).1,(cnd nm rows ks ps n w).2) else e.1,
     if cfs (rows.zip w) n<0 then tgt false e.2 (some (cnd nm rows ks ps n w).1,(cnd nm rows ks ps n w).2) else e.2)) e).1 /\
      Tgt false (c2++(W.filter λw=>decide (cfs (rows.zip w) n<0)).map (cnd nm rows ks ps n)) (W.foldl (λe w =>
    (if 0<cfs (rows.zip w) n then tgt true e.1 (some (cnd nm rows ks ps n w).1,(cnd nm rows ks ps n w).2) else e.1,
     if cfs (rows.zip w) n<0 then tgt false e.2 (some (cnd nm rows ks ps n w).1,(cnd nm rows ks ps n w).2) else e.2)) e).2:=λW=>by
    induction W with
    | nil=>intro c1 c2 e _ h1 h2;simpa using ⟨h1,h2⟩
    | cons w W ih =>
      intro c1 c2 e hl h1 h2;have aa:=λw h=>hl w (Hx _ h);rw[Kn]
      by_cases p:0<cfs (rows.zip w) n
      · have q:¬ cfs (rows.zip w) n<0:=by omega
        rw[HU p,HQ q,ID (by simpa using p),Ii (by simpa using q),Im,List.append_cons];exact ih (c1++[cnd nm rows ks ps n w]) c2 (tgt true e.1 (some (cnd nm rows ks ps n w).1,(cnd nm rows ks ps n w).2),e.2) aa (h1.step (hl w (HB ..) (by omega))) h2
      · by_cases q:cfs (rows.zip w) n<0
        · rw[HQ p,HU q,Ii (by simpa using p),ID (by simpa using q),Im,List.append_cons];exact ih c1 (c2++[cnd nm rows ks ps n w]) (e.1,tgt false e.2 (some (cnd nm rows ks ps n w).1,(cnd nm rows ks ps n w).2)) aa h1 (h2.step (hl w (HB ..) (by omega)))
        · rw[HQ p,HQ q,Ii (by simpa using p),Ii (by simpa using q)];exact ih c1 c2 e aa h1 h2
  intro h;simpa using this W [] [] ((none,false),(none,false)) h .nil .nil
theorem iV(h:x n=0):∀l:List (Rw×Int),evl (nr x n v) l=evl x l+v*((cfs l n:Int):Rat)
 | []=>by show (0:Rat)=0+v*((0:Int):Rat);rw[show ((0:Int):Rat)=0 from rfl];grind
 | p::r=>by
  show _*(fN (nr x n v) p.1.2.1-_)+evl (nr x n v) r=_*(fN x p.1.2.1-_)+evl x r+v*((p.2*cf p.1.2.1 n+cfs r n:Int):Rat)
  rw[qH h,iV h r,Jo,Ig];grind
theorem zu(h:G7 nm rows)(x:Str->Rat)(w:Ze):fN x (Ht nm rows w).2.1-((Ht nm rows w).2.2:Int)=evl x (rows.zip w):=by
 rw[tO (x:=x) h.nd (l:=rows.zip w) λp hp=>h.sub p.1 (IN hp).1];have e2:fN x (Mf.smT nm (Mf.cfs (rows.zip w)))=pE x (Mf.cfs (rows.zip w)) nm:=by
  rw[rq h.nd λt ht=>?_]
  ·congr 1;exact funext λn=>(h.smT w).cf n
  ·obtain⟨n,hn,rfl⟩:=HA.mp ht;exact(HH.mp hn).1
 show fN x (Mf.smT nm (Mf.cfs (rows.zip w)))-_=_
 rw[e2];rfl
theorem cH(h:G7 nm rows)(w:Ze)(n:Str):cf (Ht nm rows w).2.1 n=cfs (rows.zip w) n:=(h.smT w).cf n
theorem og(ht:t∈(Ht nm rows w).2.1):t.1∈nm/\cfs (rows.zip w) t.1≠0/\t.2=cfs (rows.zip w) t.1:=by
 obtain⟨n,hn,rfl⟩:=HA.mp ht;obtain⟨h1,h2⟩:=HH.mp hn;exact⟨h1,by simpa using h2,rfl⟩
theorem zG(H:G7 nm rows)(hso:∀w∈G8 rows (n::ns),soR x (Ht nm rows w))(hl:l∈G8 rows ns)(hh:h∈G8 rows ns)
    (cl:0<cfs (rows.zip l) n) (ch:cfs (rows.zip h) n<0) :
    -(evl x (rows.zip l)) / ((cfs (rows.zip l) n:Int):Rat) < -(evl x (rows.zip h)) / ((cfs (rows.zip h) n:Int):Rat) \/
      (-(evl x (rows.zip l)) / ((cfs (rows.zip l) n:Int):Rat)=-(evl x (rows.zip h)) / ((cfs (rows.zip h) n:Int):Rat)/\Hh (rows.zip l)=false/\Hh (rows.zip h)=false):=by
  obtain⟨wl,al⟩:=cu hl;obtain⟨wh,ah⟩:=cu hh;have nl:=we wl.len wl.nn;have nh:=we wh.len wh.nn;have c1:(0:Rat)<((cfs (rows.zip l) n:Int):Rat):=gy cl;have c2:((cfs (rows.zip h) n:Int):Rat)<0:=by have:=Jk.mpr ch;simpa using this
  have aa:=qo (rows:=rows) (n::ns) (λ_=>True) (eV x rows) (λs hs _=>by
    obtain⟨w,hw,rfl⟩:=HA.mp hs
    exact(rA H (cu hw).1.len).mp (hso w hw)) (λi=>-((cfs (rows.zip h) n:Int):Rat)*Hf l i+((cfs (rows.zip l) n:Int):Rat)*Hf h i)
    ⟨λi=>by
      have a1:=IC (a:=-((cfs (rows.zip h) n:Int):Rat)) (b:=Hf l i) (by grind) (nl.pos i)
      have a2:=IC (a:=((cfs (rows.zip l) n:Int):Rat)) (b:=Hf h i) (by grind) (nh.pos i)
      grind,λi hi=>by rw[nl.top i hi,nh.top i hi];grind⟩
    (λc hc=>by
      obtain⟨k,hk,rfl⟩:=HA.mp hc;rw[c7,<- ky wl.len,<- ky wh.len]
      rcases HK.mp hk with rfl | hk
      · grind
      · rw[al k hk,ah k hk,show ((0:Int):Rat)=0 from rfl];grind) (λ_ _=>trivial)
  unfold sat at aa;rw[c7,<- lL wl.len,<- lL wh.len] at aa;generalize evl x (rows.zip l)=L at *;generalize evl x (rows.zip h)=R at *;generalize hcl:((cfs (rows.zip l) n:Int):Rat)=a at *;generalize hch:((cfs (rows.zip h) n:Int):Rat)=b at *;have e1:-b*L+a*R=((-R / b)-(-L / a))*(a*(-b)):=by grind
  have pp:=Jd (a:=a) (b:=-b) c1 (by grind)
  rw[e1] at aa
  rcases aa with k | ⟨k,st⟩
  · refine .inl (HF λz=>?_);have:=IC (a:=(-L / a)-(-R / b)) (b:=a * -b) (by grind) (by grind)
    grind
  · refine .inr ⟨by rcases JJ.mp k with q | q<;>grind,(pW wl.len).mpr λi hi hp=>st i hi ?_,(pW wh.len).mpr λi hi hp=>st i hi ?_⟩
    · have a1:=Jd (a:=-b) (b:=Hf l i) (by grind) hp
      have a2:=IC (a:=a) (b:=Hf h i) (by grind) (nh.pos i)
      grind
    · have a1:=IC (a:=-b) (b:=Hf l i) (by grind) (nl.pos i)
      have a2:=Jd (a:=a) (b:=Hf h i) c1 hp
      grind
theorem back(H:G7 nm rows)(hso:∀w∈G8 rows (n::ns),soR (Hj ks ps) (Ht nm rows w))(h0:Hj ks ps n=0)
  (hp:∀w∈G8 rows ns,∀t∈(Ht nm rows w).2.1,t.1≠n->0<pB ks ps t.1) :
  GW (G9 (pcs nm rows ks ps n (G8 rows ns)).1.1 (pcs nm rows ks ps n (G8 rows ns)).2.1).1 (G9 (pcs nm rows ks ps n (G8 rows ns)).1.1 (pcs nm rows ks ps n (G8 rows ns)).2.1).2 /\
   ∀w∈G8 rows ns,soR (nr (Hj ks ps) n (He (G9 (pcs nm rows ks ps n (G8 rows ns)).1.1 (pcs nm rows ks ps n (G8 rows ns)).2.1))) (Ht nm rows w):=by
 have bo:∀w∈G8 rows ns,cfs (rows.zip w) n≠0->GW (cnd nm rows ks ps n w).1.1 (cnd nm rows ks ps n w).1.2/\He (cnd nm rows ks ps n w).1=-(evl (Hj ks ps) (rows.zip w)) / ((cfs (rows.zip w) n:Int):Rat):=λw hw hc=>by
  have:=zd (hp w hw) h0 (by rw[cH H];exact hc)
  rw[zu H,cH H] at this;exact this
 obtain⟨T1,T2⟩:=uN (nm:=nm) (rows:=rows) (ks:=ks) (ps:=ps) (n:=n) (G8 rows ns) λw hw hc=>(bo w hw hc).1;generalize pcs nm rows ks ps n (G8 rows ns)=e at *;obtain⟨lo,hi⟩:=e;simp only at *;have at1:∀p,lo.1=some p->∃l∈G8 rows ns,0<cfs (rows.zip l) n/\p=(cnd nm rows ks ps n l).1/\lo.2=!Hh (rows.zip l):=λp hp=>by
  obtain⟨_,⟨c,hc,e1,e2⟩,_⟩:=T1.so p hp;obtain⟨l,hl,rfl⟩:=HA.mp hc;obtain⟨ab,ah⟩:=HH.mp hl;exact⟨l,ab,by simpa using ah,e1.symm,e2.symm⟩
 have at2:∀p,hi.1=some p->∃l∈G8 rows ns,cfs (rows.zip l) n<0/\p=(cnd nm rows ks ps n l).1/\hi.2=!Hh (rows.zip l):=λp hp=>by
  obtain⟨_,⟨c,hc,e1,e2⟩,_⟩:=T2.so p hp;obtain⟨l,hl,rfl⟩:=HA.mp hc;obtain⟨ab,ah⟩:=HH.mp hl;exact⟨l,ab,by simpa using ah,e1.symm,e2.symm⟩
 obtain⟨ai,v1,v2⟩:=Ez (lo:=lo) (hi:=hi) (λp h=>(T1.so p h).1) (λp h=>(T2.so p h).1) λp q hp hq=>by
  obtain⟨l,hl,cl,rfl,sl⟩:=at1 p hp;obtain⟨h,hh,ch,rfl,sh⟩:=at2 q hq;rw[(bo l hl (by omega)).2,(bo h hh (by omega)).2]
  rcases zG H hso hl hh cl ch with k | ⟨k1,k2,k3⟩
  ·exact .inl k
  ·exact .inr ⟨k1,by rw[sl,k2];rfl,by rw[sh,k3];rfl⟩
 refine⟨ai,λw hw=>?_⟩;rw[kh H,iV h0];generalize He (G9 lo.1 hi.1)=v at *
 rcases Int.lt_trichotomy (cfs (rows.zip w) n) 0 with c | c | c
 ·obtain⟨_,b2⟩:=bo w hw (by omega);have cr:((cfs (rows.zip w) n:Int):Rat)<0:=by have:=Jk.mpr c;simpa using this
  have hm:cnd nm rows ks ps n w∈((G8 rows ns).filter λw=>decide (cfs (rows.zip w) n<0)).map (cnd nm rows ks ps n):=HA.mpr ⟨w,HH.mpr ⟨hw,by simpa using c⟩,rfl⟩
  cases hlo:hi.1 with
  | none=>rw[T2.nn hlo] at hm;cases hm
  | some p =>
   have vv:=v2 p hlo
   have aa:v<He (cnd nm rows ks ps n w).1\/(v=He (cnd nm rows ks ps n w).1/\Hh (rows.zip w)=false):=by
    rcases(T2.so p hlo).2.2 _ hm with⟨z1,z2⟩ | ⟨_,z⟩
    ·rw[z1];refine vv.imp id λ⟨y1,y2⟩=>⟨y1,?_⟩;have:(!Hh (rows.zip w))=true:=z2 y2;simpa using this
    ·simp only[Bool.false_eq_true,if_false] at z;exact .inl (by grind)
   rw[b2] at aa;generalize evl (Hj ks ps) (rows.zip w)=L at *;generalize ((cfs (rows.zip w) n:Int):Rat)=a at *;have e1:L+v*a=((-L / a)-v)*(-a):=by grind
   rw[e1]
   rcases aa with k | k
   ·exact .inl (Jd (by grind) (by grind))
   ·exact .inr ⟨by rw[<- k.1];grind,k.2⟩
 ·have:=hso w (cZ.mpr (.inl ⟨hw,c⟩))
  rw[kh H] at this;rw[c,show ((0:Int):Rat)=0 from rfl];have e:evl (Hj ks ps) (rows.zip w)+v*0=evl (Hj ks ps) (rows.zip w):=by grind
  rw[e];exact this
 ·obtain⟨_,b2⟩:=bo w hw (by omega);have cr:(0:Rat)<((cfs (rows.zip w) n:Int):Rat):=gy c;have hm:cnd nm rows ks ps n w∈((G8 rows ns).filter λw=>decide (0<cfs (rows.zip w) n)).map (cnd nm rows ks ps n):=HA.mpr ⟨w,HH.mpr ⟨hw,by simpa using c⟩,rfl⟩
  cases hlo:lo.1 with
  | none=>rw[T1.nn hlo] at hm;cases hm
  | some p =>
   have vv:=v1 p hlo
   have aa:He (cnd nm rows ks ps n w).1<v\/(He (cnd nm rows ks ps n w).1=v/\Hh (rows.zip w)=false):=by
    rcases(T1.so p hlo).2.2 _ hm with⟨z1,z2⟩ | ⟨_,z⟩
    ·rw[z1];refine vv.imp id λ⟨y1,y2⟩=>⟨y1,?_⟩;have:(!Hh (rows.zip w))=true:=z2 y2;simpa using this
    ·simp only[if_true] at z;exact .inl (by grind)
   rw[b2] at aa;generalize evl (Hj ks ps) (rows.zip w)=L at *;generalize ((cfs (rows.zip w) n:Int):Rat)=a at *;have e1:L+v*a=(v-(-L / a))*a:=by grind
   rw[e1]
   rcases aa with k | k
   ·exact .inl (Jd (by grind) (by grind))
   ·exact .inr ⟨by rw[<- k.1];grind,k.2⟩
def fbk(nm:Zb)(rows:List Rw):Zb->Zb->Za->Za
 | [],_,ps=>ps
 | n::ns,ks,ps=>fbk nm rows ns (ks++[n]) (ps++[G9 (pcs nm rows ks ps n (G8 rows ns)).1.1 (pcs nm rows ks ps n (G8 rows ns)).2.1])
theorem pJ:∀ {ks:Zb} {ps:List α},ps.length=ks.length->n∉ks->dAt (ks++[n]) (ps++[v]) k=if k=n then some v else dAt ks ps k
 | [],[],_,_=>by
  show (if n=k then some v else dAt [] [] k)=if k=n then some v else none
  by_cases e:n=k
  ·rw[HU e,HU e.symm]
  ·rw[HQ e,HQ λz=>e z.symm];rfl
 | x::ks,p::ps,h,hn=>by
  rw[HK,not_or] at hn;show (if x=k then some p else dAt (ks++[n]) (ps++[v]) k)=_;rw[pJ (by simpa using h) hn.2]
  by_cases e:x=k
  ·rw[HU e,HQ λz=>hn.1 (z.symm.trans e.symm)];show _=if x=k then some p else dAt ks ps k;rw[HU e]
  ·rw[HQ e];show _=if k=n then some v else if x=k then some p else dAt ks ps k;rw[HQ e]
theorem eZ(h:ps.length=ks.length)(hn:n∉ks):sR (ks++[n]) (ps++[v]) k=if k=n then v else sR ks ps k:=by
 unfold sR;rw[pJ h hn]
 by_cases e:k=n
 ·rw[HU e,HU e];rfl
 ·rw[HQ e,HQ e]
theorem wG(h:ps.length=ks.length)(hn:n∉ks):Hj (ks++[n]) (ps++[v])=nr (Hj ks ps) n (He v):=by
 funext k
 unfold Hj nr;rw[eZ h hn]
 by_cases e:k=n
 ·rw[HU e,HU e]
 ·rw[HQ e,HQ e]
theorem wp(h:n∉ks):sR ks ps n=(0,1):=by
 unfold sR;rw[oE h];rfl
theorem uq(h:n∉ks):Hj ks ps n=0:=by
 unfold Hj He;rw[wp h,show ((((0,1):Int×Int).1:Int):Rat)=0 from rfl];grind
theorem xb(H:G7 nm rows)(hj:rows[j]?=some r):Ht nm rows (unW rows.length j)=r:=by
 have hr:=HY hj
 have ab:j<rows.length:=(HL.mp hj).1
 have z:∀ {i:Nat} {rs:List Rw} (k:Nat),k+rs.length<=i->∀n,cfs (rs.zip ((List.range' k rs.length).map λx=>if x=i then (1:Int) else 0)) n=0/\bds (rs.zip ((List.range' k rs.length).map λx=>if x=i then (1:Int) else 0))=0/\Hh (rs.zip ((List.range' k rs.length).map λx=>if x=i then (1:Int) else 0))=false:=λ{i rs}=>by
  induction rs with
  | nil=>intro k _ n;exact⟨rfl,rfl,rfl⟩
  | cons a rs ih =>
   intro k hk n;rw[HJ] at hk;obtain⟨i1,i2,i3⟩:=ih (k+1) (by omega) n;rw[HJ,List.range'_succ,Im,HQ (by omega)];refine⟨?_,?_,?_⟩
   ·show 0*cf a.2.1 n+cfs (rs.zip _) n=0
    rw[i1];omega
   ·show 0*a.2.2+bds (rs.zip _)=0
    rw[i2];omega
   ·show ((isM a.1&&decide ((0:Int)<0))||Hh (rs.zip _))=false
    rw[i3];simp
 have z2:∀ {i:Nat} {rs:List Rw} (k:Nat),i<k->∀n,cfs (rs.zip ((List.range' k rs.length).map λx=>if x=i then (1:Int) else 0)) n=0/\bds (rs.zip ((List.range' k rs.length).map λx=>if x=i then (1:Int) else 0))=0/\Hh (rs.zip ((List.range' k rs.length).map λx=>if x=i then (1:Int) else 0))=false:=λ{i rs}=>by
  induction rs with
  | nil=>intro k _ n;exact⟨rfl,rfl,rfl⟩
  | cons a rs ih =>
   intro k hk n;obtain⟨i1,i2,i3⟩:=ih (k+1) (by omega) n;rw[HJ,List.range'_succ,Im,HQ (by omega)];refine⟨?_,?_,?_⟩
   ·show 0*cf a.2.1 n+cfs (rs.zip _) n=0
    rw[i1];omega
   ·show 0*a.2.2+bds (rs.zip _)=0
    rw[i2];omega
   ·show ((isM a.1&&decide ((0:Int)<0))||Hh (rs.zip _))=false
    rw[i3];simp
 have aa:∀ {rs:List Rw} (k i:Nat),rs[i]?=some r->∀n,cfs (rs.zip ((List.range' k rs.length).map λx=>if x=k+i then (1:Int) else 0)) n=cf r.2.1 n/\bds (rs.zip ((List.range' k rs.length).map λx=>if x=k+i then (1:Int) else 0))=r.2.2/\Hh (rs.zip ((List.range' k rs.length).map λx=>if x=k+i then (1:Int) else 0))=isM r.1:=λ{rs}=>by
  induction rs with
  | nil=>intro k i h;cases h
  | cons a rs ih =>
   intro k i h n;rw[HJ,List.range'_succ,Im]
   cases i with
   | zero =>
    cases h
    obtain⟨i1,i2,i3⟩:=z2 (i:=k) (rs:=rs) (k+1) (by omega) n;rw[HU (by omega)];refine⟨?_,?_,?_⟩
    ·show 1*cf r.2.1 n+cfs (rs.zip _) n=_
     rw[Nat.add_zero,i1];omega
    ·show 1*r.2.2+bds (rs.zip _)=_
     rw[Nat.add_zero,i2];omega
    ·show ((isM r.1&&decide ((0:Int)<1))||Hh (rs.zip _))=_
     rw[Nat.add_zero,i3];simp
   | succ i =>
    obtain⟨i1,i2,i3⟩:=ih (k+1) i h n;rw[HQ (by omega),show k+(i+1)=k+1+i by omega];refine⟨?_,?_,?_⟩
    ·show 0*cf a.2.1 n+cfs (rs.zip _) n=_
     rw[i1];omega
    ·show 0*a.2.2+bds (rs.zip _)=_
     rw[i2];omega
    ·show ((isM a.1&&decide ((0:Int)<0))||Hh (rs.zip _))=_
     rw[i3];simp
 have k0:=aa (rs:=rows) 0 j hj
 have e:unW rows.length j=(List.range' 0 rows.length).map λx=>if x=0+j then (1:Int) else 0:=by unfold unW;rw[List.range_eq_range',Nat.zero_add]
 rw[<- e] at k0;have f1:(λn=>cfs (rows.zip (unW rows.length j)) n)=cf r.2.1:=funext λn=>(k0 n).1;have s1:=H.smT (unW rows.length j);unfold Ht;have t1:Mf.smT nm (Mf.cfs (rows.zip (unW rows.length j)))=r.2.1:=by
  have f2:Mf.cfs (rows.zip (unW rows.length j))=cf r.2.1:=f1
  rw[f2] at s1 ⊢;exact s1.uniq (H.sum r hr)
 rw[t1,(k0 "").2.1,(k0 "").2.2];obtain⟨k,ts,b⟩:=r
 cases k<;>rfl
abbrev ib(x:Int):Nat:=Builtin.Int.intBits x
def wb(B m:Nat):Nat->Nat
 | 0=>1
 | k+1=>2*wb B m k+B+m+1
def cb(B m k:Nat):Nat:=wb B m k+B+m
structure RwB(B:Nat)(rows:List Rw):Prop where
 tm:∀r∈rows,∀t∈r.2.1,ib t.2<=B
 bd:∀r∈rows,ib r.2.2<=B
theorem ib0:ib 0=0:=by decide
theorem Bf(nd:(ts.map (·.1)).Nodup)(h:∀t∈ts,ib t.2<=B):ib (cf ts n)<=B:=by
 by_cases e:n∈ts.map (·.1)
 ·obtain⟨t,ht,rfl⟩:=HA.mp e;rw[mS nd ht];exact h t ht
 ·rw[iy e,ib0];exact Jp _
theorem qK{W:Nat}:∀ {l:List (Rw×Int)},(∀p∈l,ib (cf p.1.2.1 n)<=B/\ib p.2<=W)->ib (cfs l n)<=W+B+l.length
 | [],_=>by show ib 0<=_;rw[ib0];omega
 | p::r,h=>by
  have h1:=h p (HB ..)
  have:=Jv (Ip h1.2 h1.1) (qK (B:=B) (W:=W) (n:=n) λq hq=>h q (Hx _ hq))
  show ib (p.2*cf p.1.2.1 n+cfs r n)<=_
  rw[HJ];unfold ib;omega
theorem rE{W:Nat}:∀ {l:List (Rw×Int)},(∀p∈l,ib p.1.2.2<=B/\ib p.2<=W)->ib (bds l)<=W+B+l.length
 | [],_=>by show ib 0<=_;rw[ib0];omega
 | p::r,h=>by
  have h1:=h p (HB ..)
  have:=Jv (Ip h1.2 h1.1) (rE (B:=B) (W:=W) λq hq=>h q (Hx _ hq))
  show ib (p.2*p.1.2.2+bds r)<=_
  rw[HJ];unfold ib;omega
section
theorem G7.cfb{rows:List Rw}(H:G7 nm rows)(hb:RwB B rows){w:Ze}{W:Nat}(hw:∀a∈w,ib a<=W)(n:Str):ib (Mf.cfs (rows.zip w) n)<=W+B+rows.length:=by
 refine Hz (qK (B:=B) (W:=W) λp hp=>⟨Bf (H.sum _ (IN hp).1).nd (hb.tm _ (IN hp).1),hw _ (IN hp).2⟩) ?_;rw[Jy];omega
theorem G7.bdb{rows:List Rw}(hb:RwB B rows){w:Ze}{W:Nat}(hw:∀a∈w,ib a<=W):ib (Mf.bds (rows.zip w))<=W+B+rows.length:=by
 refine Hz (rE (B:=B) (W:=W) λp hp=>⟨hb.bd _ (IN hp).1,hw _ (IN hp).2⟩) ?_;rw[Jy];omega
theorem vg{W:Nat}(ha:ib a<=C)(hb:ib b<=C):∀ {l h:Ze},(∀x∈l,ib x<=W)->(∀x∈h,ib x<=W)->∀x∈List.zipWith (λx y=>x*a+y*b) l h,ib x<=W+C+1
 | [],_,_,_,x,hx=>by simp at hx
 | _::_,[],_,_,x,hx=>by simp at hx
 | u::l,v::h,h1,h2,x,hx=>by
  rw[Kr] at hx
  rcases HK.mp hx with rfl | hx
  ·have:=Jv (Ip (h1 u (HB ..)) ha) (Ip (h2 v (HB ..)) hb)
   unfold ib;omega
  ·exact vg ha hb (λx hx=>h1 x (Hx _ hx)) (λx hx=>h2 x (Hx _ hx)) x hx
theorem o7:wb B m k<=wb B m (k+1):=by
 show wb B m k<=2*wb B m k+B+m+1
 omega
theorem gS(H:G7 nm rows)(hb:RwB B rows)(hl:∀a∈l,ib a<=wb B rows.length k)(hh:∀a∈h,ib a<=wb B rows.length k):∀a∈crS rows n l h,ib a<=wb B rows.length (k+1):=λa ha=>by
 have:=vg (C:=cb B rows.length k) (JT (H.cfb hb hh n)) (H.cfb hb hl n) hl hh a ha
 show ib a<=2*wb B rows.length k+B+rows.length+1
 unfold cb at this;omega
theorem hV(H:G7 nm rows)(hb:RwB B rows):∀ {ns:Zb} {w:Ze},w∈G8 rows ns->∀a∈w,ib a<=wb B rows.length ns.length
 | [],w,h,a,ha=>by
  obtain⟨j,hj,rfl⟩:=HA.mp h;obtain⟨i,_,rfl⟩:=HA.mp ha;show ib _<=1
  split<;>decide
 | n::ns,w,h,a,ha=>by
  rw[HJ]
  rcases cZ.mp h with⟨h1,h2⟩ | ⟨l,hl,cl,k,hk,ck,rfl,_⟩
  ·exact Hz (hV H hb h1 a ha) o7
  ·obtain⟨b,aa,rfl⟩:=HA.mp ha;exact Iz (gS H hb (hV H hb hl) (hV H hb hk) b aa)
end
theorem zab(h1:z+a+b<=c)(h4:4<=c):z+a*b<=c*c / 4:=by
 refine(KA (by decide)).mpr ?_;have e1:4*(a*b)<=(a+b)*(a+b):=by
  have:(a+b)*(a+b)=a*a+2*(a*b)+b*b:=by rw[Nat.add_mul,Kc,Kc,KS b a];omega
  rcases Nat.le_total a b with q | q
  ·obtain⟨d,rfl⟩:=Ko q;have e:(a+d)*(a+d)=a*a+2*(a*d)+d*d:=by rw[Nat.add_mul,Kc,Kc,KS d a];omega
   have e':a*(a+d)=a*a+a*d:=Kc ..
   omega
  ·obtain⟨d,rfl⟩:=Ko q;have e:(b+d)*(b+d)=b*b+2*(b*d)+d*d:=by rw[Nat.add_mul,Kc,Kc,KS d b];omega
   have e':(b+d)*b=b*b+b*d:=by rw[Nat.add_mul,KS d b]
   omega
 have e2:(a+b)*(a+b)+4*z<=c*c:=by
  obtain⟨t,ht⟩:=Ko (show a+b+z<=c by omega);have hs:c*c=(a+b)*(a+b)+(z+t)*(a+b+c):=by
   have:c=(a+b)+(z+t):=by omega
   generalize hx:a+b=x at *
   generalize hy:z+t=y at *
   subst this
   grind
  rw[hs];have:(z+t)*(a+b+c) ≥ z*4:=JF (by omega) (by omega);omega
 omega
theorem cnt3{rows:List Rw}:∀W:List (List Int),(W.filter λw=>decide (cfs (rows.zip w) n=0)).length+(W.filter λw=>decide (0<cfs (rows.zip w) n)).length+(W.filter λw=>decide (cfs (rows.zip w) n<0)).length=W.length
 | []=>rfl
 | w::W=>by
  have ih:=cnt3 (rows:=rows) (n:=n) W
  rcases Int.lt_trichotomy (cfs (rows.zip w) n) 0 with q | q | q
  ·rw[Ii (by simp;omega),Ii (by simp;omega),ID (by simpa using q),HJ,HJ];omega
  ·rw[ID (by simpa using q),Ii (by simp;omega),Ii (by simp;omega),HJ,HJ];omega
  ·rw[Ii (by simp;omega),ID (by simpa using q),Ii (by simp;omega),HJ,HJ];omega
theorem gT(R:List (List Int)):∀L:List (List Int),(L.flatMap λl=>(R.map (crW rows n l)).filter λu=>decide (usd u<=most)).length<=L.length*R.length
 | []=>by simp
 | l::L=>by
  have ih:=gT (rows:=rows) (n:=n) (most:=most) R L
  rw[List.flatMap_cons,HC,HJ,Nat.succ_mul];have:=IJ (λu=>decide (usd u<=most)) (R.map (crW rows n l));rw[Hv] at this;omega
theorem wu{W:List (List Int)}(h:W.length<=c)(h4:4<=c):(woW rows n most W).length<=c*c / 4:=by
 unfold woW;rw[HC];have h1:=cnt3 (rows:=rows) (n:=n) W;have h2:=gT (rows:=rows) (n:=n) (most:=most) (W.filter λw=>decide (cfs (rows.zip w) n<0)) (W.filter λw=>decide (0<cfs (rows.zip w) n));exact Hz (Nat.add_le_add_left h2 _) (zab (by omega) h4)
def cnt:Nat->Nat->Nat
 | c,0=>c
 | c,k+1=>cnt c k*cnt c k / 4
theorem wa(h:rows.length<=c)(h4:4<=c):∀ns:Zb,(G8 rows ns).length<=cnt c ns.length/\4<=cnt c ns.length
 | []=>⟨by show (sU rows.length).length<=c;unfold sU;rw[Hv,Jl];exact h,h4⟩
 | n::ns=>by
  obtain⟨h1,h2⟩:=wa h h4 ns;refine⟨wu h1 h2,?_⟩;show 4<=cnt c ns.length*cnt c ns.length / 4;refine(KA (by decide)).mpr ?_;exact JF h2 h2
theorem oR(h:GW p q)(e:((N:Int):Rat)*He (p,q)=(z:Int)):q ∣ N:=by
 have hq:=eG h.ne
 have e2:((N*p:Int):Rat)=((z*q:Int):Rat):=by
  rw[Ig,Ig,<- e];show _=((N:Int):Rat)*(((p:Int):Rat) / ((q:Int):Rat))*_
  grind
 have e3:N*p=z*q:=KM.mp e2
 have d:q ∣ p*N:=⟨z,by rw[Ja p,e3,Ja]⟩
 have g:Int.gcd q p=1:=by rw[Int.gcd_comm];exact h.cop'
 have k:=(J2 (k:=q) (n:=p) (m:=N)).mpr d
 rw[g] at k;simpa using k
theorem d4(h:a ∣ b)(h0:b≠0)(hb:ib b<=n):ib a<=n:=intBits_le_of_natAbs (Nat.le_of_dvd (by omega) (Int.natAbs_dvd_natAbs.mpr h)) hb
theorem nM:∀ {l ks:Zb},l.Nodup->(∀n∈l,n∈ks)->bot q l ∣ bot q ks
 | [],ks,_,_=>⟨bot q ks,(Int.one_mul _).symm⟩
 | n::l,ks,nd,h=>by
  obtain⟨h1,h2⟩:=IZ.mp nd;have hn:=h n (HB ..);have e:bot q ks=q n*bot q (ks.erase n):=yb (List.perm_cons_erase hn);have:=nM (q:=q) (l:=l) (ks:=ks.erase n) h2 λk hk=>(List.mem_erase_of_ne (λ(z:k=n)=>h1 (z ▸ hk))).mpr (h k (Hx _ hk));rw[e];exact Int.mul_dvd_mul (Int.dvd_refl _) this
theorem mY:∀ {l:Zb},(∀n∈l,q n=q' n)->bot q l=bot q' l
 | [],_=>rfl
 | n::l,h=>by show q n*_=q' n*_;rw[h n (HB ..),mY λk hk=>h k (Hx _ hk)]
theorem jZ:∀ {ts:List (Str×Int)},(∀t∈ts,ib t.2<=c/\ib (f t.1)<=m)->ib (d9 f ts)<=c+m+ts.length
 | [],_=>by show ib 0<=_;rw[ib0];omega
 | t::r,h=>by
  have h1:=h t (HB ..)
  have h2:=Jv (Ip h1.1 h1.2) (jZ (c:=c) (m:=m) λu hu=>h u (Hx _ hu))
  show ib (t.2*f t.1+d9 f r)<=_
  rw[HJ];unfold ib;omega
structure mU(L:Int)(c g κ T:Nat)(p:Int×Int):Prop where
 low:GW p.1 p.2
 bb:ib p.2<=c+g
 tb:ib p.1<=c+T+κ+70
 wh:∃N z:Int,N≠0/\ib N<=c/\((N*L:Int):Rat)*He p=(z:Int)
theorem xc(P:Pt ks ps T)(hκ:ib (bot (pB ks ps) ks)<=κ)(L0:L≠0)(hL:∀k∈ks,pB ks ps k ∣ L)(hg:ib L<=g)(nd:(r.2.1.map (·.1)).Nodup)(hk:ks.length<=60)
  (hp:∀t∈r.2.1,t.1≠n->t.1∈ks) (hc:cf r.2.1 n≠0) (hcb:ib (cf r.2.1 n)<=c) (htb:∀t∈r.2.1,ib t.2<=c) (hbb:ib r.2.2<=c):mU L c g κ T (bnd ks ps n r):=by
 unfold bnd;have ho:∀t∈r.2.1.filter (λt=>decide (t.1≠n)),t.1∈ks/\ib t.2<=c:=λt ht=>by
  obtain⟨h1,h2⟩:=HH.mp ht;exact⟨hp t h1 (by simpa using h2),htb t h1⟩
 have ah:((r.2.1.filter (λt=>decide (t.1≠n))).map (·.1)).Nodup:=nd.sublist (List.filter_sublist.map _)
 generalize ho':r.2.1.filter (λt=>decide (t.1≠n))=o at *
 have aa:∀k∈o.map (·.1),k∈ks:=λk hk=>by
  obtain⟨t,ht,rfl⟩:=HA.mp hk;exact(ho t ht).1
 have al:o.length<=60:=by
  have:=jM ah aa
  rw[Hv] at this;omega
 have hK:0<bot (pB ks ps) (o.map (·.1)):=c4 λk hk=>P.pos (aa k hk)
 have an:0<bot (pB ks ps) ks:=c4 λk hk=>P.pos hk
 have hd:=nM (q:=pB ks ps) ah aa
 have ab:ib (bot (pB ks ps) (o.map (·.1)))<=κ:=d4 hd (by omega) hκ
 have aj:ib (d9 (ov (pT ks ps) (pB ks ps) (bot (pB ks ps) (o.map (·.1)))) o)<=c+(T+κ)+o.length:=jZ λt ht=>⟨(ho t ht).2,Ip (P.Tb (ho t ht).1) (Iz ab)⟩
 have r1:=qu (ks:=ks) (ps:=ps) (K:=bot (pB ks ps) (o.map (·.1))) (ts:=o) λt ht=>⟨P.pos (ho t ht).1,fS (HA.mpr ⟨t,ht,rfl⟩)⟩
 have r2:=qu (ks:=ks) (ps:=ps) (K:=L) (ts:=o) λt ht=>⟨P.pos (ho t ht).1,hL _ (ho t ht).1⟩
 simp only;generalize bot (pB ks ps) (o.map (·.1))=K at *;have ai:cf r.2.1 n*K≠0:=IP hc (by omega);have lw:=eC (r.2.2*K-d9 (ov (pT ks ps) (pB ks ps) K) o) ai;have wh:((cf r.2.1 n*L:Int):Rat)*He (G2 (r.2.2*K-d9 (ov (pT ks ps) (pB ks ps) K) o) (cf r.2.1 n*K),G5 (r.2.2*K-d9 (ov (pT ks ps) (pB ks ps) K) o) (cf r.2.1 n*K))=((r.2.2*L-d9 (ov (pT ks ps) (pB ks ps) L) o:Int):Rat):=by
  rw[iY _ ai];have h1:=eG hc;have h2:=eG (show K≠0 by omega);simp only[Rat.intCast_mul,Rat.intCast_sub,r1,r2];generalize fN (Hj ks ps) o=x at *;generalize ((cf r.2.1 n:Int):Rat)=a at *;generalize ((K:Int):Rat)=b at *;generalize ((L:Int):Rat)=d at *;generalize ((r.2.2:Int):Rat)=e at *
  grind
 refine⟨lw,d4 (oR lw wh) (IP hc L0) (Ip hcb hg),?_,?_⟩
 ·have:=intBits_sub_le (Ip hbb ab) aj
  exact Hz (Iz this) (by omega)
 ·exact⟨cf r.2.1 n,_,hc,hcb,wh⟩
theorem yr{lo:Bool}{Pr:Int×Int->Prop}(ha:∀p,a.1=some p->Pr p)(hb:∀p,b.1=some p->Pr p):∀p,(tgt lo a b).1=some p->Pr p:=by
 obtain⟨a1,a2⟩:=a;obtain⟨b1,b2⟩:=b;intro p h
 cases a1 with
 | none=>exact hb p h
 | some x =>
  cases b1 with
  | none=>exact ha p h
  | some y =>
   have h:(if x=y then ((some x,a2&&b2):Hb) else if decide (y.1*x.2<x.1*y.2)=lo then (some x,a2) else (some y,b2)).1=some p:=h
   split at h
   ·exact ha p h
   ·split at h
    ·exact ha p h
    ·exact hb p h
theorem ub{rows:List Rw}{Pr:Int×Int->Prop}:∀ {W:List (List Int)},(∀w∈W,cfs (rows.zip w) n≠0->Pr (cnd nm rows ks ps n w).1)->(∀p,(pcs nm rows ks ps n W).1.1=some p->Pr p)/\∀p,(pcs nm rows ks ps n W).2.1=some p->Pr p:=by
  intro W;unfold pcs
  have:∀(W:List (List Int)) (e:Hb×Hb),(∀w∈W,cfs (rows.zip w) n≠0->Pr (cnd nm rows ks ps n w).1)->(∀p,e.1.1=some p->Pr p)->(∀p,e.2.1=some p->Pr p)->(∀p,(W.foldl (λe w =>
    (if 0<cfs (rows.zip w) n then tgt true e.1 (some (cnd nm rows ks ps n w).1,(cnd nm rows ks ps n w).2) else e.1,
     if cfs (rows.zip w) n<0 then tgt false e.2 (some (cnd nm rows ks ps n w).1,(cnd nm rows ks ps n w).2) else e.2)) e).1.1=some p->Pr p)/\∀p,(W.foldl (λe w =>
    (if 0<cfs (rows.zip w) n then tgt true e.1 (some (cnd nm rows ks ps n w).1,(cnd nm rows ks ps n w).2) else e.1,
     if cfs (rows.zip w) n<0 then tgt false e.2 (some (cnd nm rows ks ps n w).1,(cnd nm rows ks ps n w).2) else e.2)) e).2.1=some p->Pr p:=λW=>by
    induction W with
    | nil=>intro e _ h1 h2;exact⟨h1,h2⟩
    | cons w W ih =>
      intro e h h1 h2;rw[Kn];refine ih _ (λw hw=>h w (Hx _ hw)) ?_ ?_
      · show ∀p,(if 0<cfs (rows.zip w) n then tgt true e.1 (some (cnd nm rows ks ps n w).1,(cnd nm rows ks ps n w).2) else e.1).1=some p->Pr p
        by_cases q:0<cfs (rows.zip w) n
        · rw[HU q];exact yr h1 λp hp=>by cases hp;exact h w (HB ..) (by omega)
        · rw[HQ q];exact h1
      · show ∀p,(if cfs (rows.zip w) n<0 then tgt false e.2 (some (cnd nm rows ks ps n w).1,(cnd nm rows ks ps n w).2) else e.2).1=some p->Pr p
        by_cases q:cfs (rows.zip w) n<0
        · rw[HU q];exact yr h2 λp hp=>by cases hp;exact h w (HB ..) (by omega)
        · rw[HQ q];exact h2
  exact λh=>this W _ h (λp hp=>nomatch hp) λp hp=>nomatch hp
theorem pO(h0:L≠0)(hg:ib L<=g)(hgκ:g<=κ)(h1:∀p,lo=some p->mU L c g κ T p)(h2:∀p,hi=some p->mU L c g κ T p) :
  ib (G9 lo hi).1<=2*(c+T+κ+72)+2/\ib (G9 lo hi).2<=2*c+g+2/\∃M:Int,M≠0/\ib M<=2*c+2/\(G9 lo hi).2 ∣ M*L:=by
 have ab:ib (G9 lo hi).1<=2*(c+T+κ+72)+2/\∃M:Int,M≠0/\ib M<=2*c+2/\(G9 lo hi).2 ∣ M*L:=?_
 ·obtain⟨k1,M,m0,mb,md⟩:=ab;refine⟨k1,d4 md (IP m0 h0) ?_,M,m0,mb,md⟩;have:=Ip mb hg;unfold ib;omega
 have i1:ib 1=1:=by decide
 have o1:∀a,∃M:Int,M≠0/\ib M<=2*c+2/\G5 a 1 ∣ M*L:=λa=>⟨1,by decide,by omega,by rw[(kn a).2];exact Int.one_dvd _⟩
 have o2:∀ {p:Int×Int} {z:Int},ib p.1<=c+T+κ+70->ib z<=1->ib (G2 (p.1.fdiv p.2+z) 1)<=2*(c+T+κ+72)+2:=λ{p z} h hz=>by
  rw[(kn _).1];have:=Jv (Iz (y:=p.2) h) hz;unfold ib;omega
 unfold G9
 cases lo with
 | none =>
  cases hi with
  | none=>exact⟨by show ib 0<=_;rw[ib0];omega,1,by decide,by omega,Int.one_dvd _⟩
  | some h=>exact⟨o2 (p:=h) (z:=-1) (h2 h rfl).tb (by decide),o1 _⟩
 | some l =>
  cases hi with
  | none=>exact⟨o2 (p:=l) (z:=1) (h1 l rfl).tb (by decide),o1 _⟩
  | some h =>
   have cl:=h1 l rfl
   have ch:=h2 h rfl
   simp only
   by_cases k:G2 (l.1.fdiv l.2+1) 1*h.2<h.1*G5 (l.1.fdiv l.2+1) 1
   ·rw[HU k];exact⟨o2 (p:=l) (z:=1) cl.tb (by decide),o1 _⟩
   ·rw[HQ k];obtain⟨N1,z1,n1,b1,w1⟩:=cl.wh;obtain⟨N2,z2,n2,b2,w2⟩:=ch.wh
    by_cases e:l=h
    ·rw[HU e];have b:=cl.tb;exact⟨by omega,N1,n1,by omega,oR (p:=l.1) cl.low w1⟩
    ·rw[HQ e];have nz:l.2*h.2≠0:=IP cl.low.ne ch.low.ne;have sl:=eC (l.1*h.2+h.1*l.2) nz;have aa:G5 (l.1*h.2+h.1*l.2) (l.2*h.2)*2≠0:=IP sl.ne (by decide);have e1:He (G2 (l.1*h.2+h.1*l.2) (l.2*h.2),G5 (l.1*h.2+h.1*l.2) (l.2*h.2))=He l+He h:=by
      rw[iY _ nz,Jo,Ig,Ig,Ig];have a1:=eG cl.low.ne;have a2:=eG ch.low.ne;unfold He
      grind
     have e2:He (G2 (G2 (l.1*h.2+h.1*l.2) (l.2*h.2)*1) (G5 (l.1*h.2+h.1*l.2) (l.2*h.2)*2),G5 (G2 (l.1*h.2+h.1*l.2) (l.2*h.2)*1) (G5 (l.1*h.2+h.1*l.2) (l.2*h.2)*2))=(He l+He h) / 2:=by
      rw[iY _ aa,<- e1,Ig,Ig,show ((1:Int):Rat)=1 from rfl,show ((2:Int):Rat)=2 from rfl];have a1:=eG sl.ne;unfold He
      grind
     have dv:G5 (G2 (l.1*h.2+h.1*l.2) (l.2*h.2)*1) (G5 (l.1*h.2+h.1*l.2) (l.2*h.2)*2) ∣ 2*(N1*N2)*L:=by
      refine oR (z:=N2*z1+N1*z2) (eC _ aa) ?_;rw[e2];simp only[Rat.intCast_mul,Rat.intCast_add] at w1 w2 ⊢;rw[show ((2:Int):Rat)=2 from rfl]
      grind
     refine⟨?_,2*(N1*N2),IP (by decide) (IP n1 n2),?_,dv⟩
     ·have s1:=Jv (Ip cl.tb ch.bb) (Ip ch.tb cl.bb)
      have s2:ib (G2 (l.1*h.2+h.1*l.2) (l.2*h.2)*1)<=2*(c+T+κ+72)+2:=by
       rw[Int.mul_one];exact Hz (Iz s1) (by omega)
      exact Iz s2
     ·have:=Ip (show ib 2<=2 by decide) (Ip b1 b2)
      unfold ib;omega
inductive Cu where
 | bot | at (x:Rat) (b:Bool) | top
def Cu.lt:Cu->Cu->Prop
 | .bot,.bot=>False
 | .bot,_=>True
 | .at x b,.at y c=>x<y\/(x=y/\b=false/\c=true)
 | .at _ _,.top=>True
 | _,_=>False
theorem Cu.irr(a:Cu):¬ Cu.lt a a:=by cases a<;>simp[Cu.lt]
theorem Cu.trans(h:Cu.lt a b)(h':Cu.lt b c):Cu.lt a c:=by
 cases a<;>cases b<;>cases c<;>simp[Cu.lt] at *<;>grind
theorem Cu.tot(a b:Cu):Cu.lt a b\/a=b\/Cu.lt b a:=by
 cases a<;>cases b<;>simp[Cu.lt]
 grind
instance:LT Cu:=⟨Cu.lt⟩
instance:LE Cu:=⟨λa b=>¬ Cu.lt b a⟩
instance:Std.IsLinearOrder Cu where
 le_refl a:=Cu.irr a
 le_trans a b c h h':=λz=>by
  rcases Cu.tot a b with k | k | k
  ·exact h' (Cu.trans z k)
  ·subst k;exact h' z
  ·exact h k
 le_antisymm a b h h':=by
  rcases Cu.tot a b with k | k | k
  ·exact absurd k h'
  ·exact k
  ·exact absurd k h
 le_total a b:=by
  rcases Cu.tot a b with k | k | k
  ·exact .inl λz=>Cu.irr _ (Cu.trans k z)
  ·subst k;exact .inl (Cu.irr _)
  ·exact .inr λz=>Cu.irr _ (Cu.trans k z)
instance:Std.LawfulOrderLT Cu where
 lt_iff _ _:=⟨λh=>⟨λz=>Cu.irr _ (Cu.trans h z),λz=>z h⟩,λ⟨_,h⟩=>Classical.not_not.mp h⟩
theorem ix:Cu.at x b<Cu.at y c↔x<y\/(x=y/\b=false/\c=true):=Iff.rfl
theorem dl:¬ c<Cu.bot:=by cases c<;>exact λz=>z
theorem dQ:¬ Cu.top<c:=by cases c<;>exact λz=>z
abbrev Pc:=Hb×Hb
def cl(e:Hb):Cu:=match e.1 with | none=>.bot | some p=>.at (He p) (!e.2)
def ch(e:Hb):Cu:=match e.1 with | none=>.top | some p=>.at (He p) e.2
def wid(lo:Bool)(a b:Hb):Hb:=match a.1,b.1 with
 | none,_=>(none,false)
 | some _,none=>(none,false)
 | some p,some q=>if p=q then (some p,a.2||b.2) else if decide (p.1*q.2<q.1*p.2)=lo then a else b
def lbw(a b:Pc):Bool:=match a.2.1,b.1.1 with
 | none,_=>false
 | some _,none=>false
 | some p,some q=>if p=q then !a.2.2 && !b.1.2 else decide (p.1*q.2<q.1*p.2)
structure nK(S:Int×Int->Prop)(e:Hb):Prop where
 low:∀p,e.1=some p->GW p.1 p.2/\S p
 no:e.1=none->e.2=false
structure rS(S:Int×Int->Prop)(p:Pc):Prop where
 l:nK S p.1
 h:nK S p.2
 ne:cl p.1<ch p.2
def inP(p:Pc)(x:Rat):Prop:=¬ Cu.at x false<cl p.1/\Cu.at x false<ch p.2
theorem En.none{S:Int×Int->Prop}:nK S (none,false):=⟨λ_ h=>(nomatch h),λ_=>rfl⟩
theorem zD{S:Int×Int->Prop}{lo:Bool}{a b:Hb}(ha:nK S a)(hb:nK S b):nK S (wid lo a b):=by
 obtain⟨a,x⟩:=a;obtain⟨b,y⟩:=b
 cases a with
 | none=>exact En.none
 | some p=>cases b with
  | none=>exact En.none
  | some q =>
   unfold wid;simp only
   by_cases e:p=q
   ·rw[HU e];exact⟨λr h=>ha.low r h,λh=>(nomatch h)⟩
   ·rw[HQ e]
    split
    ·exact ha
    ·exact hb
theorem Eg{S:Int×Int->Prop}{a b:Hb}(ha:nK S a)(hb:nK S b)(c:Cu):c<cl (wid true a b)↔c<cl a/\c<cl b:=by
 obtain⟨a,x⟩:=a;obtain⟨b,y⟩:=b
 cases a with
 | none=>exact⟨λz=>absurd z dl,λz=>absurd z.1 dl⟩
 | some p=>cases b with
  | none=>exact⟨λz=>absurd z dl,λz=>absurd z.2 dl⟩
  | some q =>
   have lp:=(ha.low p rfl).1
   have lq:=(hb.low q rfl).1
   have f:=el lp.pos lq.pos
   have g:=iP lp lq
   unfold wid cl;simp only
   by_cases e:p=q
   ·subst e;rw[HU rfl]
    cases c with
    | bot=>exact⟨λ_=>⟨trivial,trivial⟩,λ_=>trivial⟩
    | top=>exact⟨λz=>absurd z dQ,λz=>absurd z.1 dQ⟩
    | «at» u v=>simp only[ix];cases x<;>cases y<;>simp<;>grind
   ·rw[HQ e];have ne:He p≠He q:=λz=>e (g z)
    by_cases l:p.1*q.2<q.1*p.2
    ·rw[HU (IF l)];have:=f.mpr l
     cases c with
     | bot=>exact⟨λ_=>⟨trivial,trivial⟩,λ_=>trivial⟩
     | top=>exact⟨λz=>absurd z dQ,λz=>absurd z.1 dQ⟩
     | «at» u v=>simp only[ix];grind
    ·rw[HQ (by simpa using l)];have:=mt f.mp l
     cases c with
     | bot=>exact⟨λ_=>⟨trivial,trivial⟩,λ_=>trivial⟩
     | top=>exact⟨λz=>absurd z dQ,λz=>absurd z.1 dQ⟩
     | «at» u v=>simp only[ix];grind
theorem DV{S:Int×Int->Prop}{a b:Hb}(ha:nK S a)(hb:nK S b)(c:Cu):ch (wid false a b)<c↔ch a<c/\ch b<c:=by
 obtain⟨a,x⟩:=a;obtain⟨b,y⟩:=b
 cases a with
 | none=>exact⟨λz=>absurd z dQ,λz=>absurd z.1 dQ⟩
 | some p=>cases b with
  | none=>exact⟨λz=>absurd z dQ,λz=>absurd z.2 dQ⟩
  | some q =>
   have lp:=(ha.low p rfl).1
   have lq:=(hb.low q rfl).1
   have f:=el lp.pos lq.pos
   have g:=iP lp lq
   unfold wid ch;simp only
   by_cases e:p=q
   ·subst e;rw[HU rfl]
    cases c with
    | top=>exact⟨λ_=>⟨trivial,trivial⟩,λ_=>trivial⟩
    | bot=>exact⟨λz=>absurd z dl,λz=>absurd z.1 dl⟩
    | «at» u v=>simp only[ix];cases x<;>cases y<;>simp<;>grind
   ·rw[HQ e];have ne:He p≠He q:=λz=>e (g z)
    by_cases l:p.1*q.2<q.1*p.2
    ·rw[HQ (by simpa using l)];have:=f.mpr l
     cases c with
     | top=>exact⟨λ_=>⟨trivial,trivial⟩,λ_=>trivial⟩
     | bot=>exact⟨λz=>absurd z dl,λz=>absurd z.1 dl⟩
     | «at» u v=>simp only[ix];grind
    ·rw[HU (by simpa using l)];have:=mt f.mp l
     cases c with
     | top=>exact⟨λ_=>⟨trivial,trivial⟩,λ_=>trivial⟩
     | bot=>exact⟨λz=>absurd z dl,λz=>absurd z.1 dl⟩
     | «at» u v=>simp only[ix];grind
theorem lj{S:Int×Int->Prop}{a b:Pc}(ha:nK S a.2)(hb:nK S b.1):lbw a b=true↔ch a.2<cl b.1:=by
 obtain⟨a0,a,x⟩:=a;obtain⟨⟨b,y⟩,b0⟩:=b
 cases a with
 | none=>exact⟨λz=>(nomatch z),λz=>absurd z dQ⟩
 | some p=>cases b with
  | none=>exact⟨λz=>(nomatch z),λz=>absurd z dl⟩
  | some q =>
   have lp:=(ha.low p rfl).1
   have lq:=(hb.low q rfl).1
   have f:=el lp.pos lq.pos
   have g:=iP lp lq
   unfold lbw ch cl;simp only[ix]
   by_cases e:p=q
   ·subst e;rw[HU rfl]
    cases x<;>cases y<;>simp<;>grind
   ·rw[HQ e];have ne:He p≠He q:=λz=>e (g z);simp[ne,f]
def grw(P g h:Pc):Pc:=if lbw h P=true then g else if lbw P h=true then g else (wid true g.1 h.1,wid false g.2 h.2)
def rT(L:List Pc)(P:Pc):List Pc:=L.filter (λh=>lbw h P)++[L.foldl (grw P) P]++L.filter (λh=>!lbw h P&&lbw P h)
def bfr(a b:Pc):Prop:=ch a.2<cl b.1
theorem tE{α:Type}{R:α->α->Prop}{a b:α}:∀ {l:List α},l.Pairwise R->a∈l->b∈l->R a b\/a=b\/R b a
 | x::l,h,ha,hb=>by
  rw[List.pairwise_cons] at h
  rcases HK.mp ha with e | ha1
  ·rcases HK.mp hb with f | hb1
   ·exact .inr (.inl (e.trans f.symm))
   ·rw[e];exact .inl (h.1 b hb1)
  ·rcases HK.mp hb with f | hb1
   ·rw[f];exact .inr (.inr (h.1 a ha1))
   ·exact tE h.2 ha1 hb1
def tch(P h:Pc):Prop:=¬ ch h.2<cl P.1/\¬ ch P.2<cl h.1
theorem grow{S:Int×Int->Prop}{P:Pc}(hP:rS S P):∀(L:List Pc) (g:Pc),(∀p∈L,rS S p)->rS S g->¬ cl P.1<cl g.1->¬ ch g.2<ch P.2 ->
  rS S (L.foldl (grw P) g)/\(∀c,c<cl (L.foldl (grw P) g).1↔c<cl g.1/\∀h∈L,tch P h->c<cl h.1)/\(∀c,ch (L.foldl (grw P) g).2<c↔ch g.2<c/\∀h∈L,tch P h->ch h.2<c) /\
   ∀x,inP (L.foldl (grw P) g) x↔inP g x\/∃h∈L,tch P h/\inP h x
 | [],g,_,hg,_,_=>⟨hg,by simp,by simp,by simp⟩
 | h::L,g,hL,hg,h1,h2=>by
  have hh:=hL h (by simp)
  have aa:=λp hp=>hL p (Hx _ hp)
  rw[Kn];have e1:=lj hh.h hP.l;have e2:=lj hP.h hh.l
  by_cases k1:lbw h P=true
  ·have nt:¬ tch P h:=λz=>z.1 (e1.mp k1)
   rw[show grw P g h=g from HU k1];obtain⟨r1,r2,r3,r4⟩:=grow hP L g aa hg h1 h2;refine⟨r1,λc=>?_,λc=>?_,λx=>?_⟩
   ·rw[r2];simp[nt]
   ·rw[r3];simp[nt]
   ·rw[r4];simp[nt]
  ·by_cases k2:lbw P h=true
   ·have nt:¬ tch P h:=λz=>z.2 (e2.mp k2)
    rw[show grw P g h=g by unfold grw;rw[HQ k1,HU k2]];obtain⟨r1,r2,r3,r4⟩:=grow hP L g aa hg h1 h2;refine⟨r1,λc=>?_,λc=>?_,λx=>?_⟩
    ·rw[r2];simp[nt]
    ·rw[r3];simp[nt]
    ·rw[r4];simp[nt]
   ·have t:tch P h:=⟨λz=>k1 (e1.mpr z),λz=>k2 (e2.mpr z)⟩
    rw[show grw P g h=(wid true g.1 h.1,wid false g.2 h.2) by unfold grw;rw[HQ k1,HQ k2]];have w1:=Eg hg.l hh.l;have w2:=DV hg.h hh.h;have ng:=hg.ne;have nh:=hh.ne;obtain⟨t1,t2⟩:=t;have wn:cl (wid true g.1 h.1)<ch (wid false g.2 h.2):=by
     have a:=w1 (cl g.1)
     have b:=w2 (ch g.2)
     grind
    obtain⟨r1,r2,r3,r4⟩:=grow hP L (wid true g.1 h.1,wid false g.2 h.2) aa ⟨zD hg.l hh.l,zD hg.h hh.h,wn⟩
     (λz=>by have:=(w1 _).mp z;grind) (λz=>by have:=(w2 _).mp z;grind)
    refine⟨r1,λc=>?_,λc=>?_,λx=>?_⟩
    ·rw[r2,w1];simp[tch,t1,t2,and_assoc]
    ·rw[r3,w2];simp[tch,t1,t2,and_assoc]
    ·rw[r4];have e:inP (wid true g.1 h.1,wid false g.2 h.2) x↔inP g x\/inP h x:=by
      unfold inP;simp only;have a:=w1 (Cu.at x false);have b:=w2 (Cu.at x false);have b':=w2 (ch g.2);have b2:=w2 (ch h.2)
      grind
     rw[e];simp[tch,t1,t2,or_assoc]
theorem Dj{S:Int×Int->Prop}{L:List Pc}{P:Pc}(hL:∀p∈L,rS S p)(pw:L.Pairwise bfr)(hP:rS S P) :
  (∀p∈rT L P,rS S p)/\(rT L P).Pairwise bfr/\∀x,(∃p∈rT L P,inP p x)↔(∃p∈L,inP p x)\/inP P x:=by
 obtain⟨r1,r2,r3,r4⟩:=grow hP L P hL hP (by grind) (by grind);unfold rT;generalize L.foldl (grw P) P=G at *;have i1:∀ {h},h∈L->(lbw h P=true↔ch h.2<cl P.1):=λhh=>lj (hL _ hh).h hP.l;have i2:∀ {h},h∈L->(lbw P h=true↔ch P.2<cl h.1):=λhh=>lj hP.h (hL _ hh).l;have np:=hP.ne
 have ah:∀a∈L,ch a.2<cl P.1->bfr a G:=λa ha la=>(r2 _).mpr ⟨la,λh hh t=>by
  have na:=(hL a ha).ne
  have nh:=(hL h hh).ne
  have:=t.1
  rcases tE pw ha hh with k | k | k
  ·exact k
  ·rw[k] at la;exact absurd la t.1
  ·unfold bfr at k;grind⟩
 have aa:∀a∈L,ch P.2<cl a.1->bfr G a:=λa ha la=>(r3 _).mpr ⟨la,λh hh t=>by
  have na:=(hL a ha).ne
  have nh:=(hL h hh).ne
  have:=t.2
  rcases tE pw ha hh with k | k | k
  ·unfold bfr at k;grind
  ·rw[k] at la;exact absurd la t.2
  ·exact k⟩
 refine⟨λp hp=>?_,?_,λx=>?_⟩
 ·simp only[List.mem_append,List.mem_filter,List.mem_singleton] at hp
  rcases hp with(hp | rfl) | hp
  ·exact hL p hp.1
  ·exact r1
  ·exact hL p hp.1
 ·rw[List.pairwise_append,List.pairwise_append];refine⟨⟨pw.filter _,List.pairwise_singleton ..,λa ha b hb=>?_⟩,pw.filter _,λa ha b hb=>?_⟩
  ·obtain⟨ha,la⟩:=HH.mp ha;rw[HG.mp hb];exact ah a ha ((i1 ha).mp la)
  ·obtain⟨hb,lb⟩:=HH.mp hb;simp only[Bool.and_eq_true] at lb;have ab:=(i2 hb).mp lb.2
   rcases HZ.mp ha with ha | ha
   ·obtain⟨ha,la⟩:=HH.mp ha;have:=(i1 ha).mp la;unfold bfr;grind
   ·rw[HG.mp ha];exact aa b hb ab
 ·constructor
  ·rintro⟨p,hp,ip⟩;simp only[List.mem_append,List.mem_filter,List.mem_singleton] at hp
   rcases hp with(hp | rfl) | hp
   ·exact .inl ⟨p,hp.1,ip⟩
   ·rcases(r4 x).mp ip with h | ⟨h,hh,_,ih⟩
    ·exact .inr h
    ·exact .inl ⟨h,hh,ih⟩
   ·exact .inl ⟨p,hp.1,ip⟩
  ·rintro(⟨p,hp,ip⟩ | ip)
   ·by_cases k1:lbw p P=true
    ·exact⟨p,by simp[hp,k1],ip⟩
    ·by_cases k2:lbw P p=true
     ·exact⟨p,by simp[hp,k1,k2],ip⟩
     ·exact⟨G,by simp,(r4 x).mpr (.inr ⟨p,hp,⟨λz=>k1 ((i1 hp).mpr z),λz=>k2 ((i2 hp).mpr z)⟩,ip⟩)⟩
   ·exact⟨G,by simp,(r4 x).mpr (.inl ip)⟩
theorem Tgt.lo_iff(T:Tgt true cs e):¬ Cu.at x false<cl e↔∀c∈cs,¬ Cu.at x false<cl (some c.1,c.2):=by
 obtain⟨e,b⟩:=e
 cases e with
 | none=>rw[T.nn rfl];exact⟨λ_ _ h=>(nomatch h),λ_=>dl⟩
 | some p =>
  obtain⟨_,⟨c,hc,e1,e2⟩,all⟩:=T.so p rfl
  constructor
  ·intro h d hd;unfold cl at h ⊢;simp only[ix] at h ⊢
   rcases all d hd with⟨z1,z2⟩ | ⟨_,z⟩
   ·rw[z1];simp only at z2;grind
   ·simp only[if_true] at z;grind
  ·intro h;have:=h c hc;rw[e1,e2] at this;exact this
theorem Tgt.hi_iff(T:Tgt false cs e):Cu.at x false<ch e↔∀c∈cs,Cu.at x false<ch (some c.1,c.2):=by
 obtain⟨e,b⟩:=e
 cases e with
 | none=>rw[T.nn rfl];exact⟨λ_ _ h=>(nomatch h),λ_=>trivial⟩
 | some p =>
  obtain⟨_,⟨c,hc,e1,e2⟩,all⟩:=T.so p rfl
  constructor
  ·intro h d hd;unfold ch at h ⊢;simp only[ix] at h ⊢
   rcases all d hd with⟨z1,z2⟩ | ⟨_,z⟩
   ·rw[z1];simp only at z2;grind
   ·simp only[Bool.false_eq_true,if_false] at z;grind
  ·intro h;have:=h c hc;rw[e1,e2] at this;exact this
theorem sY{α β:Type}{P:α->Prop}{f:α->β->α}(hf:∀e w,P e->P (f e w)):∀(W:List β) (e:α),P e->P (W.foldl f e)
 | [],_,h=>h
 | w::W,e,h=>sY hf W _ (hf e w h)
theorem Dm{nm:Zb}{rows:List Rw}{ks:Zb}{ps:Za}{n:Str}{W:List (List Int)}:((pcs nm rows ks ps n W).1.1=none->(pcs nm rows ks ps n W).1.2=false)/\((pcs nm rows ks ps n W).2.1=none->(pcs nm rows ks ps n W).2.2=false):=by
 have t:∀(lo:Bool) (e:Hb) (p:Int×Int) (b:Bool),(tgt lo e (some p,b)).1≠none:=λlo e p b=>by
  obtain⟨e,d⟩:=e;unfold tgt
  cases e with
  | none=>exact λz=>(nomatch z)
  | some q =>
   simp only
   split
   ·exact λz=>(nomatch z)
   ·split<;>exact λz=>(nomatch z)
 refine sY (P:=λe:Hb×Hb=>(e.1.1=none->e.1.2=false)/\(e.2.1=none->e.2.2=false)) (λe w h=>?_) W _ ⟨λ_=>rfl,λ_=>rfl⟩;refine⟨?_,?_⟩
 ·simp only
  split
  ·exact λz=>absurd z (t _ _ _ _)
  ·exact h.1
 ·simp only
  split
  ·exact λz=>absurd z (t _ _ _ _)
  ·exact h.2
theorem w6(H:G7 nm rows)(h0:Hj ks ps n=0)(hp:∀t∈(Ht nm rows w).2.1,t.1≠n->0<pB ks ps t.1)(hc:cfs (rows.zip w) n≠0) :
  GW (cnd nm rows ks ps n w).1.1 (cnd nm rows ks ps n w).1.2/\(0<cfs (rows.zip w) n->(soR (nr (Hj ks ps) n x) (Ht nm rows w)↔¬ Cu.at x false<cl (some (cnd nm rows ks ps n w).1,(cnd nm rows ks ps n w).2))) /\
   (cfs (rows.zip w) n<0->(soR (nr (Hj ks ps) n x) (Ht nm rows w)↔Cu.at x false<ch (some (cnd nm rows ks ps n w).1,(cnd nm rows ks ps n w).2))):=by
 have:=zd hp h0 (by rw[cH H];exact hc)
 rw[zu H,cH H] at this;have e:He (cnd nm rows ks ps n w).1=-(evl (Hj ks ps) (rows.zip w)) / ((cfs (rows.zip w) n:Int):Rat):=this.2;have e2:(cnd nm rows ks ps n w).2=!Hh (rows.zip w):=rfl;have nz:=eG hc;refine⟨this.1,λc=>?_,λc=>?_⟩
 ·have cr:(0:Rat)<((cfs (rows.zip w) n:Int):Rat):=gy c
  rw[kh H,iV h0];unfold cl;simp only[ix];rw[e,e2];generalize evl (Hj ks ps) (rows.zip w)=L at *;generalize ((cfs (rows.zip w) n:Int):Rat)=a at *;have e1:L+x*a=(x-(-L / a))*a:=by grind
  rw[e1];generalize -L / a=d
  have k1:0<(x-d)*a↔d<x:=⟨λz=>HF λy=>by
   have:=IC (a:=d-x) (b:=a) (by grind) (by grind)
   grind,λz=>Jd (by grind) cr⟩
  have k2:(x-d)*a=0↔d=x:=⟨λz=>by rcases JJ.mp z with z | z<;>grind,λz=>by rw[z];grind⟩
  rw[k1,k2]
  cases Hh (rows.zip w)<;>simp<;>grind
 ·have cr:((cfs (rows.zip w) n:Int):Rat)<0:=by have:=Jk.mpr c;simpa using this
  rw[kh H,iV h0];unfold ch;simp only[ix];rw[e,e2];generalize evl (Hj ks ps) (rows.zip w)=L at *;generalize ((cfs (rows.zip w) n:Int):Rat)=a at *;have e1:L+x*a=((-L / a)-x)*(-a):=by grind
  rw[e1];generalize -L / a=d
  have k1:0<(d-x)*(-a)↔x<d:=⟨λz=>HF λy=>by
   have:=IC (a:=x-d) (b:=-a) (by grind) (by grind)
   grind,λz=>Jd (by grind) (by grind)⟩
  have k2:(d-x)*(-a)=0↔x=d:=⟨λz=>by rcases JJ.mp z with z | z<;>grind,λz=>by rw[z];grind⟩
  rw[k1,k2]
  cases Hh (rows.zip w)<;>simp
theorem C8{nm:Zb}{rows:List Rw}(H:G7 nm rows){ks:Zb}{ps:Za}{n:Str}{W:List (List Int)}(h0:Hj ks ps n=0)(hp:∀w∈W,∀t∈(Ht nm rows w).2.1,t.1≠n->0<pB ks ps t.1){S:Int×Int->Prop}(hS:∀w∈W,cfs (rows.zip w) n≠0->S (cnd nm rows ks ps n w).1) :
  nK S (pcs nm rows ks ps n W).1/\nK S (pcs nm rows ks ps n W).2/\∀x,inP (pcs nm rows ks ps n W) x↔∀w∈W,cfs (rows.zip w) n≠0->soR (nr (Hj ks ps) n x) (Ht nm rows w):=by
 obtain⟨T1,T2⟩:=uN (nm:=nm) (rows:=rows) (ks:=ks) (ps:=ps) (n:=n) W λw hw hc=>(w6 (x:=0) H h0 (hp w hw) hc).1;have no:=Dm (nm:=nm) (rows:=rows) (ks:=ks) (ps:=ps) (n:=n) (W:=W);refine⟨⟨λp h=>⟨(T1.so p h).1,?_⟩,no.1⟩,⟨λp h=>⟨(T2.so p h).1,?_⟩,no.2⟩,λx=>?_⟩
 ·obtain⟨c,hc,e1,_⟩:=(T1.so p h).2.1;obtain⟨w,hw,rfl⟩:=HA.mp hc;obtain⟨h1,h2⟩:=HH.mp hw;have h2:0<cfs (rows.zip w) n:=J7 h2;rw[<- e1];exact hS w h1 (by omega)
 ·obtain⟨c,hc,e1,_⟩:=(T2.so p h).2.1;obtain⟨w,hw,rfl⟩:=HA.mp hc;obtain⟨h1,h2⟩:=HH.mp hw;have h2:cfs (rows.zip w) n<0:=J7 h2;rw[<- e1];exact hS w h1 (by omega)
 ·unfold inP;rw[T1.lo_iff,T2.hi_iff]
  constructor
  ·rintro⟨a,b⟩ w hw hc;obtain⟨_,k1,k2⟩:=w6 (x:=x) H h0 (hp w hw) hc
   rcases Int.lt_or_gt_of_ne hc with c | c
   ·exact(k2 c).mpr (b _ (HA.mpr ⟨w,HH.mpr ⟨hw,IF c⟩,rfl⟩))
   ·exact(k1 c).mpr (a _ (HA.mpr ⟨w,HH.mpr ⟨hw,IF c⟩,rfl⟩))
  ·intro all;refine⟨λc hc=>?_,λc hc=>?_⟩
   ·obtain⟨w,hw,rfl⟩:=HA.mp hc;obtain⟨h1,h2⟩:=HH.mp hw;have h2:0<cfs (rows.zip w) n:=J7 h2;exact((w6 (x:=x) H h0 (hp w h1) (by omega)).2.1 h2).mp (all w h1 (by omega))
   ·obtain⟨w,hw,rfl⟩:=HA.mp hc;obtain⟨h1,h2⟩:=HH.mp hw;have h2:cfs (rows.zip w) n<0:=J7 h2;exact((w6 (x:=x) H h0 (hp w h1) (by omega)).2.2 h2).mp (all w h1 (by omega))
theorem Dg{nm:Zb}{rows:List Rw}(H:G7 nm rows){ks:Zb}{ps:Za}{n:Str}{ns:Zb}(hso:∀w∈G8 rows (n::ns),soR (Hj ks ps) (Ht nm rows w))(h0:Hj ks ps n=0)(hp:∀w∈G8 rows ns,∀t∈(Ht nm rows w).2.1,t.1≠n->0<pB ks ps t.1){S:Int×Int->Prop}(hS:∀w∈G8 rows ns,cfs (rows.zip w) n≠0->S (cnd nm rows ks ps n w).1) :
  rS S (pcs nm rows ks ps n (G8 rows ns))/\∀x,inP (pcs nm rows ks ps n (G8 rows ns)) x↔∀w∈G8 rows ns,soR (nr (Hj ks ps) n x) (Ht nm rows w):=by
 obtain⟨e1,e2,i⟩:=C8 H h0 hp hS;have i2:∀x,inP (pcs nm rows ks ps n (G8 rows ns)) x↔∀w∈G8 rows ns,soR (nr (Hj ks ps) n x) (Ht nm rows w):=λx=>by
  rw[i x];refine⟨λh w hw=>?_,λh w hw _=>h w hw⟩
  by_cases c:cfs (rows.zip w) n=0
  ·have:=hso w (cZ.mpr (.inl ⟨hw,c⟩))
   rw[kh H] at this ⊢;rw[iV h0,c];have e:evl (Hj ks ps) (rows.zip w)+x*((0:Int):Rat)=evl (Hj ks ps) (rows.zip w):=by rw[show ((0:Int):Rat)=0 from rfl];grind
   rw[e];exact this
  ·exact h w hw c
 refine⟨⟨e1,e2,?_⟩,i2⟩;obtain⟨a,b⟩:=(i2 _).mpr (back H hso h0 hp).2
 grind
def wW{α:Type}(ok:α->Bool)(pc:α->Pc)(K:List α):List Pc:=K.foldl (λtold c=>if ok c=true then rT told (pc c) else told) []
theorem mw:wW ok pc (K++[c])=if ok c=true then rT (wW ok pc K) (pc c) else wW ok pc K:=by
 unfold wW;rw[Ku];rfl
theorem wP:(rT L P).length<=2*L.length+1:=by
 unfold rT;have h1:=IJ (λh=>lbw h P) L;have h2:=IJ (λh=>!lbw h P&&lbw P h) L;rw[HC,HC,Ie];omega
structure C6{α:Type}(S:Int×Int->Prop)(In:α->Rat->Prop)(K:List α)(L:List Pc):Prop where
 ok:∀p∈L,rS S p
 pw:L.Pairwise bfr
 «in»:∀x,(∃p∈L,inP p x)↔∃c∈K,In c x
 len:L.length+1<=2 ^ K.length
theorem CO{α:Type}{S:Int×Int->Prop}{ok:α->Bool}{pc:α->Pc}{In:α->Rat->Prop}{A:List α}(h:∀c∈A,(ok c=true->rS S (pc c)/\∀x,inP (pc c) x↔In c x)/\(ok c=false->∀x,¬ In c x)) :
  ∀i,i<=A.length->C6 S In (A.take i) (wW ok pc (A.take i)):=λi=>by
 induction i with
 | zero=>exact λ_=>⟨λ_ h=>(nomatch h),.nil,λx=>⟨λ⟨_,h,_⟩=>(nomatch h),λ⟨_,h,_⟩=>absurd h (by simp)⟩,by simp[wW]⟩
 | succ i ih =>
  intro hi;obtain⟨i1,i2,i3,i4⟩:=ih (by omega);have hc:A[i]?=some A[i]:=Iv (by omega);obtain⟨h1,h2⟩:=h A[i] (List.getElem_mem _);rw[aI hc,mw];generalize A[i]=c at *;have aa:2 ^ (A.take i++[c]).length=2*2 ^ (A.take i).length:=by rw[HC,Ie,Nat.pow_succ,KS]
  cases e:ok c with
  | true =>
   obtain⟨p1,p2⟩:=h1 e;obtain⟨r1,r2,r3⟩:=Dj i1 i2 p1;rw[HU rfl];refine⟨r1,r2,λx=>?_,?_⟩
   ·rw[r3,i3,p2];simp[or_and_right,exists_or]
   ·have:=wP (L:=wW ok pc (A.take i)) (P:=pc c)
    omega
  | false =>
   rw[HQ (by decide)];refine⟨i1,i2,λx=>?_,by omega⟩;rw[i3];simp[or_and_right,exists_or,h2 e]
theorem AG(H:G7 nm rows)(hy:∀w∈G8 rows ns,soR y (Ht nm rows w))(hw:w∈G8 rows (n::ns)):soR y (Ht nm rows w):=by
 rcases cZ.mp hw with⟨h1,_⟩ | ⟨l,hl,cl,h,hh,ch,rfl,_⟩
 ·exact hy w h1
 ·have wl:=(cu hl).1
  have wh:=(cu hh).1
  have s1:=(rA H wl.len).mp (hy l hl)
  have s2:=(rA H wh.len).mp (hy h hh)
  have g0:=gy (mJ (jg wl wh cl ch).2)
  have c1:(0:Rat)<((cfs (rows.zip l) n:Int):Rat):=gy cl
  have c2:((cfs (rows.zip h) n:Int):Rat)<0:=by have:=Jk.mpr ch;simpa using this
  refine(rA H (pQ wl wh cl ch).len).mpr ?_;have s:=fA s1 s2 (a:=-((cfs (rows.zip h) n:Int):Rat)) (b:=((cfs (rows.zip l) n:Int):Rat)) (by grind) (by grind)
  have s':=fA s s (a:=1 / ((gW (crS rows n l h):Int):Rat)) (b:=0) (by
   have:=Rat.inv_pos (a:=((gW (crS rows n l h):Int):Rat)) |>.mpr g0
   grind) (by grind)
  refine cV (λi _=>?_) s';have:=oh wl wh cl ch i
  grind
theorem pq3(h:z+p+q+l<=3)(hp:0<p)(hq:0<q):z+p*q+(l+1)<=3:=by
 have h1:p=1\/p=2:=by omega
 rcases h1 with rfl | rfl
 ·omega
 ·have:q=1:=by omega
  subst this;omega
theorem tN(H:G7 nm rows)(hb:RwB B rows)(h3:rows.length<=3):∀ns:Zb,∃lv,(G8 rows ns).length+lv<=3/\∀w∈G8 rows ns,∀a∈w,ib a<=wb B rows.length lv
 | []=>⟨0,by show (sU rows.length).length+0<=3;unfold sU;rw[Hv,Jl];exact h3,λw hw a ha=>hV (ns:=[]) H hb hw a ha⟩
 | n::ns=>by
  obtain⟨lv,h1,h2⟩:=tN H hb h3 ns;have ct:=cnt3 (rows:=rows) (n:=n) (G8 rows ns);have fl:=gT (rows:=rows) (n:=n) (most:=ns.length+2) ((G8 rows ns).filter λw=>decide (cfs (rows.zip w) n<0)) ((G8 rows ns).filter λw=>decide (0<cfs (rows.zip w) n));have ln:(G8 rows (n::ns)).length<=((G8 rows ns).filter λw=>decide (cfs (rows.zip w) n=0)).length+((G8 rows ns).filter λw=>decide (0<cfs (rows.zip w) n)).length*((G8 rows ns).filter λw=>decide (cfs (rows.zip w) n<0)).length:=by
   show (woW rows n _ (G8 rows ns)).length<=_
   unfold woW;rw[HC];exact Nat.add_le_add_left fl _
  by_cases hp:0<((G8 rows ns).filter λw=>decide (0<cfs (rows.zip w) n)).length/\0<((G8 rows ns).filter λw=>decide (cfs (rows.zip w) n<0)).length
  ·refine⟨lv+1,Hz (Nat.add_le_add_right ln _) (pq3 (by omega) hp.1 hp.2),λw hw a ha=>?_⟩
   rcases cZ.mp hw with⟨k1,_⟩ | ⟨l,hl,cl,k,hk,ck,rfl,_⟩
   ·exact Hz (h2 w k1 a ha) o7
   ·obtain⟨b,aa,rfl⟩:=HA.mp ha;exact Iz (gS H hb (h2 l hl) (h2 k hk) b aa)
  ·have e0:((G8 rows ns).filter λw=>decide (0<cfs (rows.zip w) n)).length*((G8 rows ns).filter λw=>decide (cfs (rows.zip w) n<0)).length=0:=by
    rcases Nat.eq_zero_or_pos ((G8 rows ns).filter λw=>decide (0<cfs (rows.zip w) n)).length with z | z
    ·rw[z,Nat.zero_mul]
    ·rcases Nat.eq_zero_or_pos ((G8 rows ns).filter λw=>decide (cfs (rows.zip w) n<0)).length with y | y
     ·rw[y,Nat.mul_zero]
     ·exact absurd ⟨z,y⟩ hp
   refine⟨lv,by omega,λw hw a ha=>?_⟩
   rcases cZ.mp hw with⟨k1,_⟩ | ⟨l,hl,cl,k,hk,ck,rfl,_⟩
   ·exact h2 w k1 a ha
   ·exact absurd ⟨JV (HH.mpr ⟨hl,IF cl⟩),JV (HH.mpr ⟨hk,IF ck⟩)⟩ hp
end Mf
namespace Lw
open PySem L2 DL
variable {P:Program} {w:World} {K:Zf} {mg:Str→Zd} {base:Heap}
structure Zz where
 P:Program
 w:World
 K:Zf
 mg:Str->Zd
 base:Heap
 x0:Fd K mg "common_divisor" s_common_divisor ["one","other"]
 x1:Fd K mg "made" s_made ["top","bottom"]
 x2:Fd K mg "plus" s_plus ["one","other"]
 x3:Fd K mg "times" s_times ["one","other"]
 x4:Fd K mg "less" s_less ["one","other"]
 x5:Fd K mg "is_row" s_is_row ["saying"]
 x6:Fd K mg "mark_names" s_mark_names ["saying","found"]
 x7:Fd K mg "names_of" s_names_of ["saying"]
 x8:Fd K mg "tops_of" s_tops_of ["names","point"]
 x9:Fd K mg "top_of_sum" s_top_of_sum ["terms","tops"]
 x10:Fd K mg "row_is_so" s_row_is_so ["row","tops","bottom"]
 x11:Fd K mg "part_is_so" s_part_is_so ["saying","tops","bottom"]
 x12:Fd K mg "is_so" s_is_so ["saying","point"]
 x13:Fd K mg "contrary" s_contrary ["row"]
 x14:Fd K mg "plain_part" s_plain_part ["saying","turned"]
 x15:Fd K mg "plain" s_plain ["saying"]
 x16:Fd K mg "_law_cell" s__law_cell ["_law_script","_law_k"]
 x17:Fd K mg "put_together" s_put_together ["one","other"]
 x18:Fd K mg "cases_within" s_cases_within ["part","whole"]
 x19:Fd K mg "cases" s_cases ["saying"]
 x20:Fd K mg "added" s_added ["rows","weights"]
 x21:Fd K mg "weight_of" s_weight_of ["name","row"]
 x22:Fd K mg "alone" s_alone ["rows"]
 x23:Fd K mg "shortened" s_shortened ["weights"]
 x24:Fd K mg "crossed" s_crossed ["low","high","name"]
 x25:Fd K mg "without" s_without ["rows","sums","name","most"]
 x26:Fd K mg "taken_out" s_taken_out ["rows","names"]
 x27:Fd K mg "bound_on" s_bound_on ["name","row","point"]
 x28:Fd K mg "tighter" s_tighter ["one","other","is_low"]
 x29:Fd K mg "number_in" s_number_in ["piece"]
 x30:Fd K mg "piece_for" s_piece_for ["name","sums","point"]
 x31:Fd K mg "found_back" s_found_back ["steps","names","point"]
 x32:Fd K mg "wider" s_wider ["one","other","is_low"]
 x33:Fd K mg "lies_below" s_lies_below ["one","other"]
 x34:Fd K mg "put_in" s_put_in ["pieces","piece"]
 x35:Fd K mg "stretch" s_stretch ["saying","name"]
 x36:Fd K mg "filled" s_filled ["saying","names","point"]
 x37:Fd K mg "_law_purse" s__law_purse ["_law_cell_here"]
 x38:Fd K mg "_law_take" s__law_take ["_law_purse_here","_law_many"]
 x39:Fd K mg "_law_weight" s__law_weight ["_law_purse_here"]
 x40:Fd K mg "_law_names" s__law_names ["_law_cell_here"]
 x41:Fd K mg "_law_row" s__law_row ["_law_cell_here","_law_names_here"]
 x42:Fd K mg "_law_wild" s__law_wild ["_law_cells","_law_names_here"]
 x43:Fd K mg "_law_joined" s__law_joined ["_law_sort","_law_one","_law_other"]
 x44:Fd K mg "_law_fits" s__law_fits ["_law_one"]
 x45:Fd K mg "_law_grown" s__law_grown ["_law_row_here","_law_cell_here","_law_names_here"]
 x46:Fd K mg "_law_saying" s__law_saying ["_law_cells","_law_names_here"]
 x47:Fd K mg "_law_counts" s__law_counts ["_law_saying_here","_law_so"]
 x48:Fd K mg "_law_caught" s__law_caught ["_law_saying_here","_law_name"]
 x49:Fd K mg "_law_good" s__law_good ["_law_saying_here","_law_name"]
 x50:mg "abs"=none
 x51:mg "sorted"=none
 x52:mg "tuple"=none
 x53:mg "len"=none
 x54:mg "max"=none
 x55:mg "zip"=none
 x56:mg "enumerate"=none
 x57:mg "range"=none
 x58:mg "reversed"=none
 x59:mg "dict"=none
 x60:mg "all"=none
 x61:mg "int"=none
 x62:mg "isinstance"=none
 x63:mg "ValueError"=none
 x64:mg "list"=none
 g_OPPOSITES:GTab K mg "OPPOSITES" [("least","more"),("more","least"),("both","either"),("either","both")]
 g_MOST_ROWS:GInt mg "MOST_ROWS" 3
 g_MOST_CASES:GInt mg "MOST_CASES" 4
 g_ENDLESS:GEnd K mg "ENDLESS"
 R:Addr
 NR:Addr
 er:Er P w K mg base R NR
abbrev Zz.C(Z:Zz)(k:Nat)(x:Str)(ps:List Str)(sp:Sp):Prop:=Cal Z.P Z.w Z.K Z.mg Z.base k x ps sp
abbrev Zz.E(Z:Zz)(k:Nat)(x:Str)(ps:List Str)(f:FE):Prop:=wj Z.P Z.w Z.K Z.mg Z.base k x ps f
local macro_rules | `(tactic| walk_at "sc") => `(tactic| exact ⟨rfl, rfl, rfl, by decide +kernel, rfl, by decide +kernel, by decide +kernel⟩)
open Mf
theorem ar(h:∀K:En->Prop,K=u R->t { R with nx:=K } δ):dSeq t u R δ:=h _ rfl
def sr(src:TDC)(F:D->aL->En->Prop):TDS:=λR δ=>src δ λxs δ1=>∃I:Nat->En->Prop,I 0 δ1 /\
 (∀i x δ',xs[i]?=some x->I i δ'->F x { R with nx:=I (i+1),ct:=I (i+1),bk:=R.nx,tp:=False } δ')/\∀δ',I xs.length δ'->R.nx δ'
theorem jz(h:∀(F:D->aL->En->Prop) (N:En->Prop),F=(λx R δ=>g x δ λδ2=>tb R δ2)->N=R.nx->sr src F { R with nx:=N } δ):dFor src g tb R δ:=h _ _ rfl rfl
def lY(t:GX)(F:D->aL->En->Prop):TDS:=λR δ=>t δ (wd λd δ1=>qL d λxs=>∃I:Nat->En->Prop,I 0 δ1 /\
 (∀i x δ',xs[i]?=some x->I i δ'->F x { R with nx:=I (i+1),ct:=I (i+1),bk:=R.nx,tp:=False } δ')/\∀δ',I xs.length δ'->R.nx δ')
theorem db(h:∀(F:D->aL->En->Prop) (N:En->Prop),F=(λx R δ=>g x δ λδ2=>tb R δ2)->N=R.nx->lY t F { R with nx:=N } δ):lQ t g tb R δ:=h _ _ rfl rfl
theorem d7{g:TDG}{x:D}{t u:TDS}{R:aL}{δ:En}(h:∀K:En->Prop,K=u R->g x δ λδ2=>t { R with nx:=K } δ2):g x δ λδ2=>dSeq t u R δ2:=h _ rfl
theorem aP(f:β->Option γ)(g:α->β)(h:α->γ):∀(l:List α),(∀x∈l,f (g x)=some (h x))->(l.map g).filterMap f=l.map h
 | [],_=>rfl
 | x::l,e=>by rw[Im,Im,Jc,e x (HB ..),aP f g h l λy hy=>e y (Hx _ hy)]
theorem G0{c A B:Prop}[Decidable c](hc:¬ c)(h:B):if c then A else B:=by rw[HQ hc];exact h
theorem ifp{c A B:Prop}[Decidable c](hc:c)(h:A):if c then A else B:=by rw[HU hc];exact h
theorem at0:Hl (x::xs) 0=some x:=by
 unfold Hl ixN;simp only[List.length_cons];rw[HU (by omega),HU (by omega)];rfl
theorem at1:Hl (x::y::xs) 1=some y:=by
 unfold Hl ixN;simp only[List.length_cons];rw[HU (by omega),HU (by omega)];rfl
theorem at2:Hl (x::y::z::xs) 2=some z:=by
 unfold Hl ixN;simp only[List.length_cons];rw[HU (by omega),HU (by omega)];rfl
theorem Cq:Hl (xs++[x]) (-1)=some x:=wR xs x
theorem uf:u5 [.int i,.int j] R=(R (.int (i+j))):=rfl
theorem u7:u5 [.lst xs,.lst ys] R=(xs.length+ys.length<=9000/\R (.lst (xs++ys))):=rfl
theorem wY:Cm [.lst xs] R=(R (.int xs.length)):=rfl
theorem AY:Cm [.fz xs] R=(R (.int xs.length)):=rfl
theorem wT:Cm [.tup xs] R=(R (.int xs.length)):=rfl
theorem wF:fInt [.int i] R=(R (.int i)):=rfl
theorem BB:fInt [.bl b] R=(R (.int (if b then 1 else 0))):=rfl
theorem BJ:fIx [.tup xs,.int i] R=Hu xs i R:=rfl
theorem Bi:fIx [.lst xs,.int i] R=Hu xs i R:=rfl
theorem DZ:fIx [.fz xs,.int i] R=Hu xs i R:=rfl
theorem Aj:fIx [.str z,.int i] R=(z.length<=9000/\∃c,Hl z.cps.toList i=some c/\R (.str ⟨#[c]⟩)):=rfl
theorem B5:fSl (.lst xs) l u R=(R (.lst (cut xs l u))):=rfl
theorem EB:fSl (.fz xs) l u R=(R (.lst (cut xs l u))):=rfl
theorem Nat.cast_ofNat_Int:((OfNat.ofNat n:Nat):Int)=OfNat.ofNat n:=rfl
theorem uM:u5 [.tup xs,.tup ys] R=(xs≠[]/\ys≠[]/\xs.length+ys.length<=9000/\R (.tup (xs++ys))):=rfl
theorem Cd:fSl (.tup xs) l u R=(¬ (HT.sIx xs.length 0 l=0/\HT.sIx xs.length xs.length u=xs.length)/\R (.tup (cut xs l u))):=rfl
theorem B1:fIs [.non,.non] R=(R (.bl true)):=rfl
theorem Bc:fIs [.exn c f d,.non] R=(R (.bl false)):=rfl
theorem zU:fIs [.tup xs,.non] R=(R (.bl false)):=rfl
theorem wd_e:wd R (.d x) δ=R x δ:=rfl
theorem qB_e:qB (.bl b) k=k b:=rfl
theorem qI_e:qI (.int b) k=k b:=rfl
theorem qX_e:qX (.str b) k=k b:=rfl
theorem qT_e:qT (.tup b) k=k b:=rfl
theorem qL_e:qL (.lst b) k=k b:=rfl
theorem qY_l:qY (.lst b) k=k b:=rfl
theorem qY_t:qY (.tup b) k=k b:=rfl
theorem Gn:qY (sq b l) k=k l:=by cases b<;>rfl
theorem qG_e:qG (.dct b c) k=k b c:=rfl
theorem qF_e:qF (.fd b c) k=k b c:=rfl
theorem qZ_d:qZ (.dct b c) k=k b c:=rfl
theorem qZ_f:qZ (.fd b c) k=k b c:=rfl
theorem qV_e:qV (some a) k=k a:=rfl
theorem qN_e:qN [] k=k:=rfl
theorem qC_e:qC (x::r) k=k x r:=rfl
theorem yJ:uO [] 0 k=k:=rfl
theorem yM:uO (x::r) (n+1) k=uO r n k:=rfl
theorem q9_0:q9 [] k=k:=rfl
theorem q9_1:q9 [a] k=k:=rfl
theorem q9_2:q9 [a,b] k=k:=rfl
theorem q9_3:q9 [a,b,c] k=k:=rfl
theorem q9_4:q9 [a,b,c,d] k=k:=rfl
theorem qW_s:qW (x::δ)[i+1]? k=qW δ[i]? k:=rfl
theorem qW_z:qW (.own a d::δ)[0]? k=k a d:=rfl
theorem qD_s:qD (x::δ)[i+1]? k=qD δ[i]? k:=rfl
theorem qD_z:qD (.dat d::δ)[0]? k=k d:=rfl
theorem yY:jT (x::δ) (i+1) y k=jT δ i y λδ'=>k (x::δ'):=rfl
theorem yz:jT (x::δ) 0 y k=k (y::δ):=rfl
theorem GV:Hu (x::l) 0 k=k x:=rfl
theorem Gy:Hu (x::y::l) 1 k=k y:=rfl
theorem GQ:Hu (x::y::z::l) 2 k=k z:=rfl
theorem FX:Hu (x::y::z::u::l) 3 k=k u:=rfl
theorem FM:Hu (x::y::z::u::v::l) 4 k=k v:=rfl
theorem qS_t:qS true d k=qL d k:=rfl
theorem qS_f:qS false d k=qT d k:=rfl
theorem GN:(if true=true then A else B)=A:=rfl
theorem FA:(if false=true then A else B)=B:=rfl
theorem GB:(if (!true)=true then A else B)=B:=rfl
theorem GD:(if (!false)=true then A else B)=A:=rfl
theorem E2:wX 0 p=p []:=rfl
theorem Fj:wX (n+1) p=(∀t:Option D,wX n λts=>p (oS t::ts)):=rfl
theorem GK:okT 0 δ c=(δ=c):=rfl
theorem Gx:okT (n+1) (.dat d::δ) c=okT n δ c:=rfl
theorem EH:t6 (some (.dat d))=.dat d:=rfl
theorem qD_e:qD (some (.dat d)) k=k d:=rfl
theorem qW_e:qW (some (.own a d)) k=k a d:=rfl
theorem C1:t6 (x::δ)[i+1]?=t6 δ[i]?:=rfl
theorem CH:t6 (.dat d::δ)[0]?=.dat d:=rfl
theorem oZ:qIs "list" .non k=k false:=rfl
theorem sj:qIs "list" (.bl b) k=k false:=rfl
theorem oX:qIs "list" (.int b) k=k false:=rfl
theorem oM:qIs "list" (.str b) k=k false:=rfl
theorem oA:qIs "list" (.tup b) k=k false:=rfl
theorem pG:qIs "list" (.lst b) k=k true:=rfl
theorem sL:qIs "list" (.fz b) k=k true:=rfl
theorem nL:qIs "list" (.dct b c) k=k false:=rfl
theorem r6:qIs "list" (.fd b c) k=k false:=rfl
theorem Gm:kOb f x R (.d y) δ=f [x,y] (kD R δ):=rfl
theorem F5:kOa f tb R (.d x) δ=tb δ (kOb f x R):=rfl
theorem Gj:kUn f R (.d x) δ=f [x] (kD R δ):=rfl
theorem FP:kAc t R (.d x) δ=t δ (kAd x R):=rfl
theorem GU:kTs R (.d (.bl b)) δ=R b δ:=rfl
theorem Gs:kAV u R (.d (.bl b)) δ=(if b=true then u δ R else R (.d (.bl false)) δ):=rfl
theorem F6:kOV u R (.d (.bl b)) δ=(if b=true then R (.d (.bl true)) δ else u δ R):=rfl
theorem F7:kNV R (.d (.bl b)) δ=R (.d (.bl (!b))) δ:=rfl
theorem FF:kRe R (.d x) δ=R.rt x δ:=rfl
theorem Fi:kSe i R (.d x) δ=jT δ i (.dat x) R.nx:=rfl
theorem CY:kAs g R (.d x) δ=g x δ R.nx:=rfl
theorem FY:kIs T R (.d x) δ=(qIs T x λb=>R (.d (.bl b)) δ):=rfl
theorem G1(i:Nat){j}(hN:X.N[i]?=some x:=by rfl)(hv:Vis X.env.scope x:=by walk_at "v3")(hd:(x==("__debug__":Str))=false:=by decide)(hcd:(x==("__classdict__":Str))=false:=by decide):DE X (.Subscript (.Name x p) (.Constant (.int k) j p2) pos) (dOp fIx (dV i) (dC (.int k))):=fe fh (ap i hN hv hd hcd) am (λ_ _=>rfl)
local macro_rules | `(tactic| walk_at "rh") => `(tactic| try simp only [↓kD, ↓kN, ↓kO, ↓kI, ↓wd_e, ↓Fi, ↓CY, ↓yY, ↓yz, ↓yM, ↓yJ, ↓qC_e, ↓qN_e, ↓qT_e, ↓qL_e, ↓sA, ↓BH, ↓uy, ↓Ak, ↓e7, ↓qp, ↓nB, ↓qWD, ↓qW_s, ↓qW_z, ↓qG_e])
local macro_rules | `(tactic| walk_at "") => `(tactic| ((try simp only [dy, List.map_cons, List.map_nil, List.cons_append, List.nil_append, List.append_nil, List.length_cons, List.length_nil, Nat.reduceAdd, Nat.reduceSub, List.replicate]); try simp only [↓dTry, ↓Gm, ↓F5, ↓Gj, ↓FP, ↓GU, ↓Gs, ↓F6, ↓F7, ↓FF, ↓Fi, ↓CY, ↓FY, ↓kAd, ↓kCa, ↓kTu, ↓kLs, ↓kAn, ↓kOr, ↓kNo, ↓kIE, ↓dIsx, ↓uz, ↓dXf, ↓EC, ↓Dl, ↓yW, ↓kS, ↓kT, ↓kX, ↓zk, ↓Cy, ↓dcSq, ↓y6, ↓EN, ↓qp, ↓zE, ↓zr, ↓xT, ↓sC, ↓xv, ↓wS, ↓zL, ↓uM, ↓Cd, ↓dSlT, ↓Es, ↓B1, ↓zU, ↓Bc, ↓Ei, ↓Fp, ↓wy, ↓wC, ↓D1, ↓CP, ↓CF, ↓CQ, ↓Fe, ↓zB, ↓t7, ↓dIxO, ↓DC, ↓C9, ↓EY, ↓vC, ↓nB, ↓dSeq, ↓dIf, ↓kIf, ↓dRet, ↓dSet, ↓dV, ↓dC, ↓dOp, ↓dUn, ↓dTst, ↓dAnd, ↓dOr, ↓dNot, ↓Cv, ↓dOrV, ↓Fn, ↓dIfE, ↓zq, ↓EJ, ↓rK, ↓kD, ↓kN, ↓kO, ↓kI, ↓dTup, ↓dLst, ↓C5, ↓uC, ↓Dr, ↓dAsg, ↓e7, ↓Ak, ↓uy, ↓sA, ↓BH, ↓DY, ↓xF, ↓xp, ↓dSl, ↓uk, ↓Fq, ↓dIsi, ↓Ff, ↓FQ, ↓F1, ↓Ba, ↓As, ↓EG, ↓Ag, ↓xx, ↓CL, ↓uf, ↓u7, ↓wY, ↓AY, ↓wT, ↓wF, ↓BB, ↓BJ, ↓Bi, ↓DZ, ↓Aj, ↓B5, ↓EB, ↓wv, ↓Bt, ↓wZ, ↓yl, ↓DR, ↓dPop, ↓yh, ↓Ar, ↓B4, ↓oY, ↓oB, ↓CC, ↓sw, ↓rZ, ↓Fc, ↓A7, ↓E5, ↓ER, ↓EQ, ↓qWL, ↓qWD, ↓qWe, ↓uB, ↓BV, ↓gX, ↓oS, ↓wd_e, ↓qB_e, ↓qI_e, ↓qX_e, ↓qT_e, ↓qL_e, ↓qY_l, ↓qY_t, ↓qG_e, ↓qF_e, ↓qZ_d, ↓qZ_f, ↓qV_e, ↓qN_e, ↓qC_e, ↓yJ, ↓yM, ↓q9_0, ↓q9_1, ↓q9_2, ↓q9_3, ↓q9_4, ↓qW_s, ↓qW_z, ↓qD_s, ↓qD_z, ↓yY, ↓yz, ↓GV, ↓Gy, ↓GQ, ↓FX, ↓FM, ↓qS_t, ↓qS_f, ↓GN, ↓FA, ↓GB, ↓GD, ↓E2, ↓Fj, ↓GK, ↓Gx, ↓EH, ↓qD_e, ↓qW_e, ↓C1, ↓CH, ↓oZ, ↓sj, ↓oX, ↓oM, ↓oA, ↓pG, ↓sL, ↓nL, ↓r6, ↓List.map_cons, ↓List.map_nil, ↓List.cons_append, ↓List.nil_append, ↓List.replicate, Gn, pdB, D.exn.injEq, AD, ne_eq, List.cons_ne_nil, Sl.own.injEq, exists_const, exists_eq, D.lst.injEq, D.dct.injEq, D.str.injEq, List.length_cons, List.length_nil, List.append_nil, List.getElem?_cons_zero, List.getElem?_cons_succ, List.set_cons_zero, List.set_cons_succ, Option.some.injEq, Sl.dat.injEq, D.int.injEq, D.bl.injEq, D.tup.injEq, List.cons.injEq, and_assoc, and_true, true_and, exists_eq_left', exists_eq_left, exists_eq_right', exists_and_left, Nat.zero_add, Nat.reduceAdd, Nat.reduceSub, Nat.add_zero, Nat.reduceLeDiff, Nat.sub_self, at0, at1, at2, Cq, if_true, if_false, ite_true, ite_false, Int.reduceEq, Int.reduceLT, Nat.cast_ofNat_Int, not_true_eq_false, not_false_eq_true, Bool.false_eq_true, reduceCtorEq, Bool.not_false, Bool.not_true, List.forall_mem_cons, List.mem_cons, List.not_mem_nil, forall_const, false_implies, implies_true, Nat.reduceLT, if_pos, List.filterMap_cons, List.filterMap_nil, decide_eq_true_eq, Bool.not_eq_true', decide_eq_false_iff_not]))
theorem mo2(h1:Builtin.Int.intBits x<=m)(h2:Builtin.Int.intBits y<=n)(h:m+n<=134217728:=by decide):IntMulOk x y:=IntMulOk.of_le h1 h2 h
theorem w5(h0:0<=x)(h1:x<18446744073709551616):Builtin.Int.intBits x<=64:=intBits_le_64 (by omega) (by omega)
theorem nZ(h:Builtin.Int.intBits b<=n)(hn:n<=8000):b.natAbs.log2<9000:=by
 have h1:=intBits_le_iff.mp h
 rcases Nat.eq_zero_or_pos b.natAbs with h0 | hp
 ·rw[h0];decide
 ·have h2:b.natAbs.log2<n:=(Nat.log2_lt (JC hp)).mpr h1
  omega
inductive dr(ds:Zi)(R:D->Prop):Prop
 | mk (a b:_) (hh:ds=[.int a,.int b]/\R (.int (gc a b)))
theorem eg:∀ds R,dr ds R->ds.length=2:=λ_ _ ⟨_,_,e,_⟩=>by rw[e];rfl
theorem bq:ax ["one","other","rest"] ["one","other"] (ak s_common_divisor):=by walk_at "sc"
theorem cG(Z:Zz):Z.C 1 "common_divisor" ["one","other"] (Hg Z.K dr):=by
 refine cS Z.x0 bq eg λfa cdv A outer s H E ds R hr h=>?_;have hU:=hr.units;refine⟨_,(ae (qm Ih (aD (vD hU) (ap 1) am (ay _)) (ae (aB 2 bq.nd (aC dB (ap 0) (ap 1))) (ae (aB 0 bq.nd (ap 1)) (ag (aB 1 bq.nd (ap 2)))))) (ag (aA (aN Cz rfl Z.x50 ED (ac (ap 0) af))))),?_⟩;obtain⟨x,y,rfl,q⟩:=h;refine⟨λδ=>∃a b t,δ=[.dat (.int a),.dat (.int b),t]/\gc a b=gc x y,λδ=>match δ with | [_,.dat (.int b),_]=>b.natAbs | _=>0,⟨x,y,.no,rfl,rfl⟩,?_⟩;rintro δ ⟨a,b,t,rfl,e⟩;walk_at "";refine cR (λc=>⟨c,(Ah a b).trans e,jC a b c⟩) (λc=>?_);have c:=Decidable.not_not.mp c;subst c;rw[<- BR,e];exact q
theorem BQ(hb:b≠0)(h:Builtin.Int.intBits b<=n):Builtin.Int.intBits (dv t b)<=n:=by
 refine intBits_le_of_natAbs ?_ h;rw[mW];exact Int.gcd_le_natAbs_right t hb
inductive yZ(ds:Zi)(R:D->Prop):Prop
 | mk (t b:_) (hh:ds=[.int t,.int b]/\b≠0/\Builtin.Int.intBits b<=8000/\R (.tup [.int (G2 t b),.int (G5 t b)]))
theorem sH:∀ds R,yZ ds R->ds.length=2:=λ_ _ ⟨_,_,e,_⟩=>by rw[e];rfl
theorem oN:ax ["top","bottom","divisor"] ["top","bottom"] (ak s_made):=by walk_at "sc"
theorem fM(Z:Zz):Z.C 2 "made" ["top","bottom"] (Hg Z.K yZ):=by
 refine cS Z.x1 oN sH λfa cdv A outer s H E ds R hr h=>?_;have hU:=hr.units;refine⟨_,(ae (aK (aD (eP hU) (ap 1) am (ay _)) ig aE) (ae (aB 2 oN.nd (au (cG Z) (rm hr) rfl (ac (ap 0) (ac (ap 1) af)))) (ae (aK (aD sQ (ap 1) am (ay _)) (ag (aB 2 oN.nd (dE dD (ap 2)))) aE) (ag (aA (bf (ac (aC cO (ap 0) (ap 2)) (ac (aC cO (ap 1) (ap 2)) af)))))))),?_⟩;obtain⟨x,y,rfl,hy,hb,q⟩:=h;walk_at "";rw[HQ hy];refine⟨x,y,rfl,?_⟩;walk_at "";have hd:=E8 x hy;have hl:=nZ (BQ (t:=x) hy hb) (HD _);unfold G2 G5 at q;unfold dv at hd hl q;refine cR (λc=>?_) (λc=>?_)
 ·simp only[if_pos c] at hd hl q;exact⟨⟨hd,hl⟩,⟨hd,hl⟩,q⟩
 ·simp only[if_neg c] at hd hl q;exact⟨⟨hd,hl⟩,⟨hd,hl⟩,q⟩
inductive zw(ds:Zi)(R:D->Prop):Prop
 | mk (p q:Int×Int) (hh:ds=[Hk p,Hk q]/\p.2*q.2≠0/\ib p.1<=1000000/\ib q.1<=1000000/\ib p.2<=4000/\ib q.2<=4000/\R (Hk (G2 (p.1*q.2+q.1*p.2) (p.2*q.2),G5 (p.1*q.2+q.1*p.2) (p.2*q.2))))
theorem rL:∀ds R,zw ds R->ds.length=2:=λ_ _ ⟨_,_,e,_⟩=>by rw[e];rfl
theorem zV:ax ["one","other"] ["one","other"] (ak s_plus):=by walk_at "sc"
theorem xz(Z:Zz):Z.C 3 "plus" ["one","other"] (Hg Z.K zw):=by
 refine cS Z.x2 zV rL λfa cdv A outer s H E ds R hr h=>?_;have hU:=hr.units;refine⟨_,(ag (aA (au (fM Z) (rm hr) rfl (ac (aC aO (aC bT (G1 0) (G1 1)) (aC bT (G1 1) (G1 0))) (ac (aC bT (G1 0) (G1 1)) af))))),?_⟩;obtain⟨p,q,rfl,nz,b1,b2,b3,b4,k⟩:=h;unfold Hk at k ⊢;walk_at "";exact⟨mo2 b1 b4,mo2 b2 b3,mo2 b3 b4,_,_,rfl,nz,Hz (Ip b3 b4) (by decide),k⟩
inductive ue(ds:Zi)(R:D->Prop):Prop
 | mk (p q:Int×Int) (hh:ds=[Hk p,Hk q]/\p.2*q.2≠0/\ib p.1<=2000000/\ib q.1<=1000000/\ib p.2<=7990/\ib q.2<=10/\R (Hk (G2 (p.1*q.1) (p.2*q.2),G5 (p.1*q.1) (p.2*q.2))))
theorem oq:∀ds R,ue ds R->ds.length=2:=λ_ _ ⟨_,_,e,_⟩=>by rw[e];rfl
theorem xL:ax ["one","other"] ["one","other"] (ak s_times):=by walk_at "sc"
theorem uj(Z:Zz):Z.C 3 "times" ["one","other"] (Hg Z.K ue):=by
 refine cS Z.x3 xL oq λfa cdv A outer s H E ds R hr h=>?_;have hU:=hr.units;refine⟨_,(ag (aA (au (fM Z) (rm hr) rfl (ac (aC bT (G1 0) (G1 1)) (ac (aC bT (G1 0) (G1 1)) af))))),?_⟩;obtain⟨p,q,rfl,nz,b1,b2,b3,b4,k⟩:=h;unfold Hk at k ⊢;walk_at "";exact⟨mo2 b1 b2,mo2 b3 b4,_,_,rfl,nz,Hz (Ip b3 b4) (by decide),k⟩
inductive yy(ds:Zi)(R:D->Prop):Prop
 | mk (p q:Int×Int) (hh:ds=[Hk p,Hk q]/\ib p.1<=2000000/\ib q.1<=2000000/\ib p.2<=8000/\ib q.2<=8000/\R (.bl (decide (p.1*q.2<q.1*p.2))))
theorem sg:∀ds R,yy ds R->ds.length=2:=λ_ _ ⟨_,_,e,_⟩=>by rw[e];rfl
theorem Ai:ax ["one","other"] ["one","other"] (ak s_less):=by walk_at "sc"
theorem g6(Z:Zz):Z.C 1 "less" ["one","other"] (Hg Z.K yy):=by
 refine cS Z.x4 Ai sg λfa cdv A outer s H E ds R hr h=>?_;have hU:=hr.units;refine⟨_,(ag (aA (ce sQ (aC bT (G1 0) (G1 1)) (aC bT (G1 1) (G1 0)) (ay _)))),?_⟩;obtain⟨p,q,rfl,b1,b2,b3,b4,k⟩:=h;unfold Hk;walk_at "";exact⟨mo2 b1 b4,mo2 b2 b3,k⟩
inductive Hi where
 | row (k:Kd) (ts:List (Str×Int)) (b:Int)
 | nt (s:Hi)
 | bo (s t:Hi)
 | ei (s t:Hi)
def Hi.D:Hi->D
 | .row k ts b=>lc k ts b
 | .nt s=>.tup [.str "not",s.D]
 | .bo s t=>.tup [.str "both",s.D,t.D]
 | .ei s t=>.tup [.str "either",s.D,t.D]
def Hi.dep:Hi->Nat
 | .row _ _ _=>1
 | .nt s=>s.dep+1
 | .bo s t=>max s.dep t.dep+1
 | .ei s t=>max s.dep t.dep+1
def Hi.nms:Hi->Zb
 | .row _ ts _=>ts.map (·.1)
 | .nt s=>s.nms
 | .bo s t=>s.nms++t.nms
 | .ei s t=>s.nms++t.nms
def Hi.ok(names:Zb):Hi->Prop
 | .row _ ts b=>kW names ts/\Builtin.Int.intBits b<=10000
 | .nt s=>s.ok names
 | .bo s t=>s.ok names/\t.ok names
 | .ei s t=>s.ok names/\t.ok names
theorem Hi.dep_pos:∀s:Hi,0<s.dep
 | .row _ _ _=>Nat.one_pos
 | .nt s=>Nat.succ_pos _
 | .bo s t=>Nat.succ_pos _
 | .ei s t=>Nat.succ_pos _
theorem Hi.nms_sub:∀ {s:Hi},s.ok names->∀n∈s.nms,n∈names
 | .row _ ts _,h,n,hn=>h.1.sub.subset hn
 | .nt s,h,n,hn=>Hi.nms_sub (s:=s) h n hn
 | .bo s t,h,n,hn=>(HZ.mp hn).elim (Hi.nms_sub h.1 n) (Hi.nms_sub h.2 n)
 | .ei s t,h,n,hn=>(HZ.mp hn).elim (Hi.nms_sub h.1 n) (Hi.nms_sub h.2 n)
def Hi.isRow:Hi->Bool
 | .row _ _ _=>true
 | _=>false
inductive qA(ds:Zi)(R:D->Prop):Prop
 | mk (s:Hi) (hh:ds=[s.D]/\R (.bl s.isRow))
theorem mE:∀ds R,qA ds R->ds.length=1:=λ_ _ ⟨_,e,_⟩=>by rw[e];rfl
theorem vm:ax ["saying"] ["saying"] (ak s_is_row):=by walk_at "sc"
theorem dX(Z:Zz):Z.C 1 "is_row" ["saying"] (Hg Z.K qA):=by
 refine cS Z.x5 vm mE λfa cdv A outer s H E ds R hr h=>?_;have hU:=hr.units;refine⟨_,(ag (aA (yp (ce (eP hU) (G1 0) aR (ay _)) (dm (ce (eP hU) (G1 0) aR (ay _)))))),?_⟩;obtain⟨s,rfl,q⟩:=h;walk_at ""
 cases s with
 | row k ts b =>
  cases k
  ·unfold Hi.D lc kdS;walk_at "";exact q
  ·unfold Hi.D lc kdS;walk_at "";exact G0 (by decide) q
 | nt s=>unfold Hi.D;walk_at "";exact G0 (by decide) q
 | bo s t=>unfold Hi.D;walk_at "";exact G0 (by decide) q
 | ei s t=>unfold Hi.D;walk_at "";exact G0 (by decide) q
def cq(ks:Zb)(l:Zb):Zb:=l.foldl jB ks
def jD(n:Nat):Zi:=List.replicate n (.bl true)
theorem xY:y∈jB ks x↔y∈ks\/y=x:=by
 unfold jB
 by_cases e:x∈ks
 ·rw[HU e];exact⟨.inl,λh=>h.elim id λz=>z ▸ e⟩
 ·rw[HQ e,HZ,HG]
theorem fj:∀ {l ks:Zb},ks.Nodup->(cq ks l).Nodup
 | [],_,h=>h
 | _::l,_,h=>fj (l:=l) (uZ h)
theorem cU:∀ {l ks:Zb} {y:Str},y∈cq ks l↔y∈ks\/y∈l
 | [],ks,y=>by show y∈ks↔_;simp
 | x::l,ks,y=>by
  show y∈cq (jB ks x) l↔_
  rw[cU,xY,HK,or_assoc]
theorem eT:cq ks (l++r)=cq (cq ks l) r:=Ku ..
theorem ms:∀(ks:Zb) (n:Nat) (x:Str),nc ks (jD n) x (D.bl true)=jD n
 | [],n,x=>by cases n<;>rfl
 | k::ks,0,x=>rfl
 | k::ks,n+1,x=>by
  show (if k=x then D.bl true else D.bl true)::nc ks (jD n) x (D.bl true)=D.bl true::jD n
  rw[ms ks n x];split<;>rfl
theorem tJ:lU ks (jD ks.length) x (D.bl true)=jD (jB ks x).length:=by
 unfold lU jB
 by_cases e:x∈ks
 ·rw[HU e,HU e,ms]
 ·rw[HQ e,HQ e,HC];show List.replicate _ _++List.replicate 1 _=List.replicate _ _;rw[List.replicate_append_replicate];rfl
def Hi.subs:Hi->List Hi
 | .row _ _ _=>[]
 | .nt s=>[s]
 | .bo s t=>[s,t]
 | .ei s t=>[s,t]
theorem Hi.subs_dep{s u:Hi}(h:u∈s.subs):u.dep<s.dep:=by
 cases s with
 | row k ts b=>cases h
 | nt s=>rw[HG.mp h];exact Nat.lt_succ_self _
 | bo s t =>
  have h:u∈[s,t]:=h
  simp only[List.mem_cons,List.not_mem_nil,or_false] at h;show u.dep<max s.dep t.dep+1
  rcases h with rfl | rfl<;>omega
 | ei s t =>
  have h:u∈[s,t]:=h
  simp only[List.mem_cons,List.not_mem_nil,or_false] at h;show u.dep<max s.dep t.dep+1
  rcases h with rfl | rfl<;>omega
theorem Hi.subs_ok{s u:Hi}(h:u∈s.subs)(o:s.ok names):u.ok names:=by
 cases s with
 | row k ts b=>cases h
 | nt s=>rw[HG.mp h];exact o
 | bo s t =>
  have h:u∈[s,t]:=h
  simp only[List.mem_cons,List.not_mem_nil,or_false] at h
  rcases h with rfl | rfl
  ·exact o.1
  ·exact o.2
 | ei s t =>
  have h:u∈[s,t]:=h
  simp only[List.mem_cons,List.not_mem_nil,or_false] at h
  rcases h with rfl | rfl
  ·exact o.1
  ·exact o.2
def Hi.word:Hi->Str
 | .row k _ _=>kdS k
 | .nt _=>"not"
 | .bo _ _=>"both"
 | .ei _ _=>"either"
theorem Hi.D_subs{s:Hi}(h:s.isRow=false):s.D=.tup (.str s.word::s.subs.map Hi.D):=by
 cases s with
 | row=>cases h
 | nt=>rfl
 | bo=>rfl
 | ei=>rfl
theorem Hi.nms_subs{s:Hi}(h:s.isRow=false):s.nms=s.subs.flatMap Hi.nms:=by
 cases s with
 | row=>cases h
 | nt s=>show s.nms=s.nms++[];rw[IE]
 | bo s t=>show s.nms++t.nms=s.nms++(t.nms++[]);rw[IE]
 | ei s t=>show s.nms++t.nms=s.nms++(t.nms++[]);rw[IE]
theorem qd:cut (x::xs) (some 1) none=xs:=by
 unfold cut;have e1:HT.sIx (x::xs).length 0 (some 1)=1:=by
  have:=HT.sIx_nat (x::xs).length 0 1
  rw[HJ] at this ⊢;rw[show (some (1:Int))=some ((1:Nat):Int) from rfl,this];omega
 rw[e1,HT.sIx_none,HJ,List.drop_one,List.tail_cons,Nat.add_sub_cancel,Ik]
inductive bG(n:Nat)(d:D)(ds:Zi)(R:D->D->Prop):Prop
 | mk (names s ks:_) (hh:ds=[Hi.D s]/\s.dep<=n/\s.ok names/\names.length<=100/\ks.Nodup/\(∀k∈ks,k∈names)/\d=.dct ks (jD ks.length)/\R .non (.dct (cq ks s.nms) (jD (cq ks s.nms).length)))
theorem gF(n:Nat):∀d ds R,bG n d ds R->ds.length=1:=λ_ _ _ ⟨_,_,_,e,_⟩=>by rw[e];rfl
theorem fO:∀d ds R,¬ bG 0 d ds R:=λ_ _ _ ⟨_,s,_,_,h,_⟩=>by have:=s.dep_pos;omega
theorem cy:ax ["saying","found","name","weight","part"] ["saying","found"] (ak s_mark_names):=by walk_at "sc"
theorem iJ(Z:Zz)(mn:Z.C (2+n) "mark_names" ["saying","found"] (wL Z.K (bG n))):Z.C (2+n+1) "mark_names" ["saying","found"] (wL Z.K (bG (n+1))):=by
 refine FC (k:=2+n) Z.x6 cy rfl (gF (n+1)) λfa cdv A outer s H E oa d0 d R hr h=>?_;have hU:=hr.units;refine⟨_,(ae (aK (bU (au (dX Z) (hr.mono (by omega)) rfl (ac (ap 0) af))) (ae (lm Ih rfl (G1 0) (dk (n:=2) rfl (aH (aw 2 cy.nd) (aH (aw 3 cy.nd) bC))) (ag (ji 1 hU gG (ap 2)))) (ag AI)) aE) (ag (lm Ih rfl (iN (ap 0) (bX am) cX) (aw 4 cy.nd) (ag (vF (lV 1 mn (hr.mono (by omega)) rfl (ap 4))))))),?_⟩;obtain⟨names,s,ks,e,hd,ok,hl,nd,sub,rfl,q⟩:=h
 cases e
 walk_at "";refine⟨s,rfl,?_⟩;walk_at ""
 cases hrow:s.isRow with
 | true =>
  cases s with
  | row k ts b =>
   refine ifp rfl ?_;walk_at "";simp only[vc];unfold Hi.D lc;walk_at "";have ab:∀t∈ts,t.1∈names:=λt h=>ok.1.sub.subset (HA.mpr ⟨t,h,rfl⟩);have aa:∀i,∀x∈cq ks ((ts.take i).map (·.1)),x∈names:=λi x hx=>(cU.mp hx).elim (sub x) λh=>by
    obtain⟨t,h1,rfl⟩:=HA.mp h;exact ab t (Jq h1)
   refine⟨λi δ=>∃x y z,δ=[.dat (.tup [.str (kdS k),.tup (ts.map tmD),.int b]),.own oa (.dct (cq ks ((ts.take i).map (·.1))) (jD (cq ks ((ts.take i).map (·.1))).length)),x,y,z],⟨_,_,_,rfl⟩,?_,?_⟩
   ·rintro i d δ hd ⟨x,y,z,rfl⟩;obtain⟨t,hn,rfl⟩:=eR hd;walk_at "";have l1:=jM (fj (l:=(ts.take i).map (·.1)) nd) (aa i);refine⟨by omega,?_⟩;rw[tJ,aI hn,HS,eT];exact⟨rfl,rfl⟩
   ·rintro δ ⟨x,y,z,rfl⟩;rw[Hv,Ik];exact⟨_,rfl,q⟩
  | nt s=>cases hrow
  | bo s t=>cases hrow
  | ei s t=>cases hrow
 | false =>
  refine G0 HE ?_;walk_at "";simp only[vc];rw[Hi.D_subs hrow];walk_at "";refine⟨λ⟨h,_⟩=>?_,?_⟩
  ·rw[show (some (1:Int))=some ((1:Nat):Int) from rfl,HT.sIx_nat] at h;omega
  rw[qd];have aa:∀i,∀x∈cq ks ((s.subs.take i).flatMap Hi.nms),x∈names:=λi x hx=>(cU.mp hx).elim (sub x) λh=>by
   obtain⟨u,h1,h2⟩:=List.mem_flatMap.mp h;exact Hi.nms_sub (Hi.subs_ok (Jq h1) ok) x h2
  refine⟨λi δ=>∃x y z,δ=[.dat (.tup (.str s.word::s.subs.map Hi.D)),.own oa (.dct (cq ks ((s.subs.take i).flatMap Hi.nms)) (jD (cq ks ((s.subs.take i).flatMap Hi.nms)).length)),x,y,z],⟨_,_,_,rfl⟩,?_,?_⟩
  ·rintro i d δ hd2 ⟨x,y,z,rfl⟩;rw[HM] at hd2
   cases hu:s.subs[i]? with
   | none=>rw[hu] at hd2;cases hd2
   | some u =>
    rw[hu] at hd2
    cases hd2
    have hm:=HY hu
    have dp:=Hi.subs_dep hm
    walk_at "";refine⟨names,u,_,rfl,by omega,Hi.subs_ok hm ok,hl,fj nd,aa i,rfl,?_⟩;walk_at "";rw[aI hu,List.flatMap_append,List.flatMap_singleton,eT];exact⟨rfl,rfl⟩
  ·rintro δ ⟨x,y,z,rfl⟩;rw[Hv,Ik,<- Hi.nms_subs hrow];exact⟨_,rfl,q⟩
theorem jE(Z:Zz):Z.C 62 "mark_names" ["saying","found"] (wL Z.K (bG 60)):=Nat.rec (motive:=λn=>Z.C (2+n) "mark_names" ["saying","found"] (wL Z.K (bG n))) (vJ Z.x6 _ fO) (λ_=>iJ Z) 60
inductive ki(ds:Zi)(R:D->Prop):Prop
 | mk (names s:_) (hh:ds=[Hi.D s]/\s.dep<=60/\s.ok names/\names.length<=60/\∀ss:Zb,ss.Nodup->(∀x,x∈ss↔x∈s.nms)->Srt ss->R (.lst (ss.map D.str)))
theorem jJ:∀ds R,ki ds R->ds.length=1:=λ_ _ ⟨_,_,e,_⟩=>by rw[e];rfl
theorem iU:ax ["saying","found"] ["saying"] (ak s_names_of):=by walk_at "sc"
theorem dS(Z:Zz):Z.C 63 "names_of" ["saying"] (Hg Z.K ki):=by
 refine cS Z.x7 iU jJ λfa cdv A outer s H E ds R hr h=>?_;have hU:=hr.units;refine⟨_,(ae (kC 1 iU.nd) (ae (vF (lV 1 (jE Z) (rm hr) rfl (ap 0))) (bJ 1 (ag (aA (aN (kH rfl) rfl Z.x51 lS (ac (ap 1) af))))))),?_⟩;obtain⟨names,s,rfl,hd,ok,hl,q⟩:=h;walk_at "";intro a;refine⟨names,s,[],rfl,hd,ok,by omega,List.nodup_nil,λk h=>(nomatch h),rfl,?_⟩;walk_at "";have nd:(cq [] s.nms).Nodup:=fj List.nodup_nil;have sub:∀x∈cq [] s.nms,x∈names:=λx hx=>(cU.mp hx).elim (λh=>(nomatch h)) (Hi.nms_sub ok x);refine⟨by have:=jM nd sub;omega,λss hp hs=>q ss (hp.nodup_iff.mpr nd) (λx=>?_) hs⟩;rw[hp.mem_iff,cU];simp
inductive m9(ds:Zi)(R:D->Prop):Prop
 | mk (names ks ps T κ:_) (hh:ds=[.lst (names.map D.str),.dct ks (ps.map Hk)]/\names.Nodup/\names.length<=60/\(∀n∈names,n∈ks)/\Pt ks ps T/\T<=1000000/\ib (bot (pB ks ps) ks)<=κ/\κ<=7990 /\
 R (.tup [.dct names (names.map λn=>.int (ov (pT ks ps) (pB ks ps) (bot (pB ks ps) names) n)),.int (bot (pB ks ps) names)]))
theorem lE:∀ds R,m9 ds R->ds.length=2:=λ_ _ ⟨_,_,_,_,_,e,_⟩=>by rw[e];rfl
theorem qR(nd:l.Nodup)(h:∀n∈l,n∈ks)(hp:∀n∈ks,0<q n)(hb:ib (bot q ks)<=κ):ib (bot q l)<=κ:=d4 (nM nd h) (by have:=c4 hp;omega) hb
theorem bW:ax ["names","point","bottom","name","tops","value"] ["names","point"] (ak s_tops_of):=by walk_at "sc"
theorem i7(Z:Zz):Z.C 1 "tops_of" ["names","point"] (Hg Z.K m9):=by
 refine cS Z.x8 bW lE λfa cdv A outer s H E ds R hr h=>?_;have hU:=hr.units;refine⟨_,(ae (aB 2 bW.nd am) (ae (bD Ih rfl (ap 0) (aw 3 bW.nd) (ae (aK (aD (nP hU) (ap 3) (ap 1) rfl) ig aE) (ag (aB 2 bW.nd (aC bT (ap 2) (fe fh (fQ hU (ap 1) (ap 3) (λ_ _=>rfl)) am (λ_ _=>rfl))))))) (ae (kC 4 bW.nd) (ae (bD Ih rfl (ap 0) (aw 3 bW.nd) (ae (aB 5 bW.nd (fQ hU (ap 1) (ap 3) (λ_ _=>rfl))) (ag (ji 4 hU (aC bT (G1 5) (aC cO (ap 2) (G1 5))) (ap 3))))) (bJ 4 (ag (aA (bf (ac (ap 4) (ac (ap 2) af)))))))))),?_⟩;obtain⟨names,ks,ps,T,κ,rfl,nd,hl,aa,hp,hT,hb,hκ,q⟩:=h;have pos:∀n∈ks,0<pB ks ps n:=λn hn=>hp.pos hn;have bb:ib (bot (pB ks ps) names)<=κ:=qR nd aa pos hb;have bt:∀i,ib (bot (pB ks ps) (names.take i))<=κ:=λi=>qR (nd.sublist (List.take_sublist ..)) (λn hn=>aa n (Jq hn)) pos hb;have b1:∀n∈ks,ib (pB ks ps n)<=κ:=λn hn=>d4 (fS hn) (by have:=c4 pos;omega) hb;walk_at "";simp only[lQ];walk_at "";refine⟨λi δ=>∃x y z,δ=[.dat (.lst (names.map D.str)),.dat (.dct ks (ps.map Hk)),.dat (.int (bot (pB ks ps) (names.take i))),x,y,z],⟨_,_,_,rfl⟩,?_,?_⟩
 ·rintro i d δ hd ⟨x,y,z,rfl⟩;obtain⟨n,hn,rfl⟩:=iu hd;have hk:=aa n (v7 hn);walk_at "";refine G0 (λz=>z hk) ?_;refine⟨_,hp.D hk,?_⟩;walk_at "";refine⟨mo2 (bt i) (b1 n hk) (by omega),?_⟩;rw[aI hn,jX,vP]
 ·rintro δ ⟨x,y,z,rfl⟩;intro a;rw[Hv,Ik];walk_at "";simp only[lQ];walk_at "";refine⟨λi δ=>∃x z,δ=[.dat (.lst (names.map D.str)),.dat (.dct ks (ps.map Hk)),.dat (.int (bot (pB ks ps) names)),x,.own a (.dct (names.take i) ((names.take i).map λn=>.int (ov (pT ks ps) (pB ks ps) (bot (pB ks ps) names) n))),z],⟨_,_,rfl⟩,?_,?_⟩
  ·rintro i d δ hd ⟨x,z,rfl⟩;obtain⟨n,hn,rfl⟩:=iu hd;have hk:=aa n (v7 hn);have ab:=xH nd hn;walk_at "";refine⟨_,hp.D hk,?_⟩;walk_at "";have qn:pB ks ps n≠0:=by have:=hp.pos hk;omega
   refine⟨⟨qn,nZ (b1 n hk) (by omega)⟩,mo2 (hp.Tb hk) (Iz bb) (by omega),?_⟩;refine⟨by rw[IK];omega,?_⟩;rw[pH ab,qh ab,aI hn,HS];exact⟨rfl,rfl⟩
  ·rintro δ ⟨x,z,rfl⟩;rw[Hv,Ik];walk_at "";exact q
inductive gl(ds:Zi)(R:D->Prop):Prop
 | mk (k:Bool) (ts:List (Str×Int)) (ks:Zb) (vs:Zi) (f:Str->Int) (hh:ds=[sq k (ts.map tmD),.dct ks vs]/\(∀t∈ts,dAt ks vs t.1=some (.int (f t.1))/\ib t.2<=60000/\ib (f t.1)<=2000000)/\R (.int (d9 f ts)))
theorem gE:∀ds R,gl ds R->ds.length=2:=λ_ _ ⟨_,_,_,_,_,e,_⟩=>by rw[e];rfl
theorem bO:ax ["terms","tops","top","name","weight"] ["terms","tops"] (ak s_top_of_sum):=by walk_at "sc"
theorem eo(Z:Zz):Z.C 1 "top_of_sum" ["terms","tops"] (Hg Z.K gl):=by
 refine cS Z.x9 bO gE λfa cdv A outer s H E ds R hr h=>?_;have hU:=hr.units;refine⟨_,(ae (aB 2 bO.nd am) (ae (mi Ih rfl (F9 (ap 0)) (dk (n:=2) rfl (aH (aw 3 bO.nd) (aH (aw 4 bO.nd) bC))) (ag (aB 2 bO.nd (aC aO (ap 2) (aC bT (ap 4) (fQ hU (ap 1) (ap 3) (λ_ _=>rfl))))))) (ag (aA (ap 2))))),?_⟩;obtain⟨k,ts,ks,vs,f,rfl,ht,q⟩:=h;walk_at "";refine jz λF N hF hN=>?_;walk_at "";simp only[sr];walk_at "";refine⟨λi δ=>∃x y,δ=[.dat (sq k (ts.map tmD)),.dat (.dct ks vs),.dat (.int (d9 f (ts.take i))),x,y],⟨_,_,rfl⟩,?_,?_⟩
 ·rintro i d δ hd ⟨x,y,rfl⟩;obtain⟨t,hn,rfl⟩:=eR hd;obtain⟨h1,h2,h3⟩:=ht t (HY hn);rw[hF];walk_at "";refine⟨_,h1,?_⟩;walk_at "";refine⟨mo2 h2 h3,?_⟩;rw[aI hn,oJ,xP]
 ·rintro δ ⟨x,y,rfl⟩;rw[Hv,Ik,hN];walk_at "";exact q
def om(k:Kd)(s b:Int):Bool:=match k with
 | .least=>decide (b<=s)
 | .more=>decide (b<s)
def Hi.so(f:Str->Int)(B:Int):Hi->Bool
 | .row k ts b=>om k (d9 f ts) (b*B)
 | .nt s=>!s.so f B
 | .bo s t=>s.so f B&&t.so f B
 | .ei s t=>s.so f B||t.so f B
def zH(p q:Str->Int)(k:Kd)(ts:List (Str×Int))(b:Int):Bool:=om k (d9 (ov p q (bot q (ts.map (·.1)))) ts) (b*bot q (ts.map (·.1)))
def Hi.tv(p q:Str->Int):Hi->Bool
 | .row k ts b=>zH p q k ts b
 | .nt s=>!s.tv p q
 | .bo s t=>s.tv p q&&t.tv p q
 | .ei s t=>s.tv p q||t.tv p q
theorem EO(hB:0<B)(h:∀t∈ts,0<q t.1/\q t.1 ∣ B):om k (d9 (ov p q B) ts) (b*B)=zH p q k ts b:=by
 have hC:0<bot q (ts.map (·.1)):=c4 λn hn=>by
  obtain⟨t,h1,rfl⟩:=HA.mp hn;exact(h t h1).1
 have e:=vB (p:=p) (q:=q) (B:=B) (C:=bot q (ts.map (·.1))) (ts:=ts) λt h1=>⟨by have:=(h t h1).1;omega,(h t h1).2,fS (HA.mpr ⟨t,h1,rfl⟩)⟩
 unfold zH
 cases k with
 | least=>exact decide_eq_decide.mpr (wI (a:=0) hB hC e)
 | more=>exact decide_eq_decide.mpr (wQ hB hC e)
theorem Hi.so_tv(hB:0<B):∀ {s:Hi},(∀n∈s.nms,0<q n/\q n ∣ B)->s.so (ov p q B) B=s.tv p q
 | .row k ts b,h=>EO hB λt h1=>h t.1 (HA.mpr ⟨t,h1,rfl⟩)
 | .nt s,h=>by show (!s.so _ _)=!s.tv p q;rw[Hi.so_tv (s:=s) hB h]
 | .bo s t,h=>by
  show (s.so _ _&&t.so _ _)=(s.tv p q&&t.tv p q)
  rw[Hi.so_tv (s:=s) hB λn hn=>h n (HV _ hn),Hi.so_tv (s:=t) hB λn hn=>h n (HP _ hn)]
 | .ei s t,h=>by
  show (s.so _ _||t.so _ _)=(s.tv p q||t.tv p q)
  rw[Hi.so_tv (s:=s) hB λn hn=>h n (HV _ hn),Hi.so_tv (s:=t) hB λn hn=>h n (HP _ hn)]
inductive jo(ds:Zi)(R:D->Prop):Prop
 | mk (k:Kd) (ts:List (Str×Int)) (b:Int) (ks:Zb) (vs:Zi) (f:Str->Int) (B:Int) (hh:ds=[lc k ts b,.dct ks vs,.int B]/\(∀t∈ts,dAt ks vs t.1=some (.int (f t.1))/\ib t.2<=60000/\ib (f t.1)<=2000000)/\ib b<=60000/\ib B<=8000/\R (.bl (om k (d9 f ts) (b*B))))
theorem iw:∀ds R,jo ds R->ds.length=3:=λ_ _ ⟨_,_,_,_,_,_,_,e,_⟩=>by rw[e];rfl
theorem dL:ax ["row","tops","bottom","top","bound"] ["row","tops","bottom"] (ak s_row_is_so):=by walk_at "sc"
theorem kz(Z:Zz):Z.C 2 "row_is_so" ["row","tops","bottom"] (Hg Z.K jo):=by
 refine cS Z.x10 dL iw λfa cdv A outer s H E ds R hr h=>?_;have hU:=hr.units;refine⟨_,(ae (aB 3 dL.nd (au (eo Z) (rm hr) rfl (ac (G1 0) (ac (ap 1) af)))) (ae (aB 4 dL.nd (aC bT (G1 0) (ap 2))) (ae (aK (aD (eP hU) (G1 0) aR (ay _)) (ag (aA (ce o_ge (ap 3) (ap 4) (ay _)))) aE) (ag (aA (ce sO (ap 3) (ap 4) (ay _))))))),?_⟩;obtain⟨k,ts,b,ks,vs,f,B,rfl,ht,hb,hB,q⟩:=h;unfold lc;walk_at "";refine⟨false,ts,ks,vs,f,rfl,ht,?_⟩;walk_at "";refine⟨mo2 hb hB,?_⟩
 cases k with
 | least=>exact ifp rfl q
 | more=>exact G0 (by decide) q
inductive bF(n:Nat)(ds:Zi)(R:D->Prop):Prop
 | mk (s:Hi) (ks:Zb) (vs:Zi) (f:Str->Int) (B:Int) (names:Zb) (hh:ds=[s.D,.dct ks vs,.int B]/\s.dep<=n/\s.ok names/\(∀x∈s.nms,dAt ks vs x=some (.int (f x))/\Builtin.Int.intBits (f x)<=2000000)/\Builtin.Int.intBits B<=8000/\R (.bl (s.so f B)))
theorem gC(n:Nat):∀ds R,bF n ds R->ds.length=3:=λ_ _ ⟨_,_,_,_,_,_,e,_⟩=>by rw[e];rfl
theorem fV:∀ds R,¬ bF 0 ds R:=λ_ _ ⟨s,_,_,_,_,_,_,h,_⟩=>by have:=s.dep_pos;omega
theorem fw:ax ["saying","tops","bottom","first"] ["saying","tops","bottom"] (ak s_part_is_so):=by walk_at "sc"
theorem iz(Z:Zz)(dI:Z.C (3+n) "part_is_so" ["saying","tops","bottom"] (Hg Z.K (bF n))):Z.C (3+n+1) "part_is_so" ["saying","tops","bottom"] (Hg Z.K (bF (n+1))):=by
 refine cS (k:=3+n) Z.x11 fw (gC (n+1)) λfa cdv A outer s H E ds R hr h=>?_;have hU:=hr.units;refine⟨_,(ae (aK (bU (au (dX Z) (hr.mono (by omega)) rfl (ac (ap 0) af))) (ag (aA (au (kz Z) (hr.mono (by omega)) rfl (ac (ap 0) (ac (ap 1) (ac (ap 2) af)))))) aE) (ae (aB 3 fw.nd (au dI (hr.mono (by omega)) rfl (ac (G1 0) (ac (ap 1) (ac (ap 2) af))))) (ae (aK (aD (eP hU) (G1 0) aR (ay _)) (ag (aA (mz (ap 3)))) aE) (ae (aK (aD (eP hU) (G1 0) aR (ay _)) (ag (aA (gn (ap 3) (dm (au dI (hr.mono (by omega)) rfl (ac (G1 0) (ac (ap 1) (ac (ap 2) af)))))))) aE) (ag (aA (yp (ap 3) (dm (au dI (hr.mono (by omega)) rfl (ac (G1 0) (ac (ap 1) (ac (ap 2) af)))))))))))),?_⟩;obtain⟨s,ks,vs,f,B,names,rfl,hd,ok,hf,hB,q⟩:=h;refine ar λK1 h1=>?_;walk_at "";refine⟨s,rfl,?_⟩;walk_at ""
 cases s with
 | row k ts b =>
  refine ifp rfl ⟨k,ts,b,ks,vs,f,B,rfl,λt h1=>?_,Hz ok.2 (by decide),hB,q⟩;obtain⟨h2,h3⟩:=hf t.1 (HA.mpr ⟨t,h1,rfl⟩);exact⟨h2,Hz (ok.1.bits t h1) (by decide),h3⟩
 | nt s =>
  refine G0 HE ?_;unfold Hi.D;rw[h1];refine ar λK2 h2=>?_;walk_at "";have hd:s.dep+1<=n+1:=hd;refine⟨s,ks,vs,f,B,names,rfl,by omega,ok,hf,hB,?_⟩;walk_at "";rw[h2];refine ar λK3 h3=>?_;walk_at "";exact q
 | bo s t =>
  refine G0 HE ?_;unfold Hi.D;rw[h1];refine ar λK2 h2=>?_;walk_at "";have hd:max s.dep t.dep+1<=n+1:=hd;refine⟨s,ks,vs,f,B,names,rfl,by omega,ok.1,λx h=>hf x (HV _ h),hB,?_⟩;walk_at "";rw[h2];refine ar λK3 h3=>?_;walk_at "";refine G0 (by decide) ?_;rw[h3];refine ar λK4 h4=>?_;walk_at "";have q:R (.bl (s.so f B&&t.so f B)):=q
  cases e:s.so f B with
  | true =>
   rw[e,Bool.true_and] at q;exact ifp rfl ⟨t,ks,vs,f,B,names,rfl,by omega,ok.2,λx h=>hf x (HP _ h),hB,q⟩
  | false =>
   rw[e,Bool.false_and] at q;exact G0 HE q
 | ei s t =>
  refine G0 HE ?_;unfold Hi.D;rw[h1];refine ar λK2 h2=>?_;walk_at "";have hd:max s.dep t.dep+1<=n+1:=hd;refine⟨s,ks,vs,f,B,names,rfl,by omega,ok.1,λx h=>hf x (HV _ h),hB,?_⟩;walk_at "";rw[h2];refine ar λK3 h3=>?_;walk_at "";refine G0 (by decide) ?_;rw[h3];refine ar λK4 h4=>?_;walk_at "";refine G0 (by decide) ?_;rw[h4];walk_at "";have q:R (.bl (s.so f B||t.so f B)):=q
  cases e:s.so f B with
  | true =>
   rw[e,Bool.true_or] at q;exact ifp rfl q
  | false =>
   rw[e,Bool.false_or] at q;exact G0 HE ⟨t,ks,vs,f,B,names,rfl,by omega,ok.2,λx h=>hf x (HP _ h),hB,q⟩
theorem jL(Z:Zz):Z.C 63 "part_is_so" ["saying","tops","bottom"] (Hg Z.K (bF 60)):=Nat.rec (motive:=λn=>Z.C (3+n) "part_is_so" ["saying","tops","bottom"] (Hg Z.K (bF n))) (lT Z.x11 _ fV) (λ_=>iz Z) 60
inductive vj(ds:Zi)(R:D->Prop):Prop
 | mk (s:Hi) (ks:Zb) (ps:Za) (names:Zb) (T κ:Nat) (hh:ds=[s.D,.dct ks (ps.map Hk)]/\s.dep<=60/\s.ok names/\names.length<=60/\(∀x∈s.nms,x∈ks)/\Pt ks ps T/\T<=1000000/\ib (bot (pB ks ps) ks)<=κ/\κ<=7990/\R (.bl (s.tv (pT ks ps) (pB ks ps))))
theorem oU:∀ds R,vj ds R->ds.length=2:=λ_ _ ⟨_,_,_,_,_,_,e,_⟩=>by rw[e];rfl
theorem p9:ax ["saying","point","known"] ["saying","point"] (ak s_is_so):=by walk_at "sc"
theorem mV(Z:Zz):Z.C 64 "is_so" ["saying","point"] (Hg Z.K vj):=by
 refine cS Z.x12 p9 oU λfa cdv A outer s H E ds R hr h=>?_;have hU:=hr.units;refine⟨_,(ae (aB 2 p9.nd (au (i7 Z) (rm hr) rfl (ac (au (dS Z) (rm hr) rfl (ac (ap 0) af)) (ac (ap 1) af)))) (ag (aA (au (jL Z) (rm hr) rfl (ac (ap 0) (ac (G1 2) (ac (G1 2) af))))))),?_⟩;obtain⟨s,ks,ps,names,T,κ,rfl,hd,ok,hl,aa,hp,hT,hb,hκ,q⟩:=h;walk_at "";refine⟨names,s,rfl,hd,ok,hl,λss nd hm hs=>?_⟩;have ab:∀n∈ss,n∈ks:=λn hn=>aa n ((hm n).mp hn);have ah:ss.length<=60:=Hz (jM nd λk hk=>Hi.nms_sub ok k ((hm k).mp hk)) hl;refine⟨ss,ks,ps,T,κ,rfl,nd,by omega,ab,hp,hT,hb,hκ,?_⟩;walk_at "";have bp:=c4 (q:=pB ks ps) (l:=ss) λn hn=>hp.pos (ab n hn);have bb:=qR (q:=pB ks ps) nd ab (λn hn=>hp.pos hn) hb;refine⟨s,ss,_,_,_,names,rfl,hd,ok,λx hx=>⟨dW (λn=>D.int (ov (pT ks ps) (pB ks ps) (bot (pB ks ps) ss) n)) ((hm x).mpr hx),Hz (Ip (hp.Tb (aa x hx)) (Iz bb)) (by omega)⟩,Hz bb (by omega),?_⟩;rw[Hi.so_tv bp λn hn=>⟨hp.pos (aa n hn),fS ((hm n).mpr hn)⟩];exact q
def _root_.Mf.Kd.op:Kd->Kd
 | .least=>.more
 | .more=>.least
def opps:List (Str×Str):=[("least","more"),("more","least"),("both","either"),("either","both")]
theorem Em(k:Kd):PyProof.Rows.KTD.datumAt (kdS k) opps=some (kdS k.op):=by cases k<;>decide
def conD(k:Kd)(ts:List (Str×Int))(b:Int):D:=lc k.op (Cr ts) (-b)
inductive j7(ds:Zi)(R:D->Prop):Prop
 | mk (k:Kd) (ts:List (Str×Int)) (b:Int) (hh:ds=[lc k ts b]/\ts.length<=100/\R (conD k ts b))
theorem jR:∀ds R,j7 ds R->ds.length=1:=λ_ _ ⟨_,_,_,e,_⟩=>by rw[e];rfl
theorem ie:ax ["row","terms"] ["row"] (ak s_contrary):=by walk_at "sc"
theorem mj(Z:Zz):Z.C 1 "contrary" ["row"] (Hg Z.K j7):=by
 refine cS Z.x13 ie jR λfa cdv A outer s H E ds R hr h=>?_;have hU:=hr.units;refine⟨_,(ae (aB 1 ie.nd (dH lI rfl Z.x52 jA (ac (bZ ["name","weight"] [] rfl rfl (by decide +kernel) rfl (by decide +kernel) (bV trivial) (λ_=>cj rfl) (a7 trivial) (ua (G1 0)) λ_ _ _ _ _=>⟨(dk (n:=2) rfl (aH (aw 0 (show List.Nodup (["name","weight"]:Zb) by decide +kernel)) (aH (aw 1 (show List.Nodup (["name","weight"]:Zb) by decide +kernel)) bC))),fH,(bf (ac (ap 0) (ac (dE dD (ap 1)) af)))⟩) af))) (ag (aA (bf (ac (uw rfl Z.g_OPPOSITES (G1 0) (λ_ _=>rfl)) (ac (ap 1) (ac (dE dD (G1 0)) af))))))),?_⟩;obtain⟨k,ts,b,rfl,hl,q⟩:=h;unfold lc;walk_at "";refine⟨by rw[Hv];omega,λd=>match d with | .tup [.str n,.int w]=>some (.tup [.str n,.int (-w)]) | _=>none,λx hx=>?_,?_⟩
 ·obtain⟨t,_,rfl⟩:=HA.mp hx;unfold tmD;walk_at ""
 ·rw[aP _ tmD (λt=>D.tup [.str t.1,.int (-t.2)]) _ (by intro _ _;rfl)];refine⟨_,Em k,?_⟩;unfold conD lc Cr at q;rw[IX] at q;exact q
def Hi.pl:Hi->Bool->Hi
 | .row k ts b,t=>if t=true then .row k.op (Cr ts) (-b) else .row k ts b
 | .nt s,t=>s.pl (!t)
 | .bo s u,t=>if t=true then .ei (s.pl t) (u.pl t) else .bo (s.pl t) (u.pl t)
 | .ei s u,t=>if t=true then .bo (s.pl t) (u.pl t) else .ei (s.pl t) (u.pl t)
inductive bL(n:Nat)(ds:Zi)(R:D->Prop):Prop
 | mk (s:Hi) (t:Bool) (names:Zb) (hh:ds=[s.D,.bl t]/\s.dep<=n/\s.ok names/\names.length<=100/\R (s.pl t).D)
theorem gA(n:Nat):∀ds R,bL n ds R->ds.length=2:=λ_ _ ⟨_,_,_,e,_⟩=>by rw[e];rfl
theorem f9:∀ds R,¬ bL 0 ds R:=λ_ _ ⟨s,_,_,_,h,_⟩=>by have:=s.dep_pos;omega
theorem tK(h:kW names ts):ts.length<=names.length:=by have:=h.sub.length_le;rw[Hv] at this;exact this
theorem eX:ax ["saying","turned","word"] ["saying","turned"] (ak s_plain_part):=by walk_at "sc"
theorem jd(Z:Zz)(dN:Z.C (2+n) "plain_part" ["saying","turned"] (Hg Z.K (bL n))):Z.C (2+n+1) "plain_part" ["saying","turned"] (Hg Z.K (bL (n+1))):=by
 refine cS (k:=2+n) Z.x14 eX (gA (n+1)) λfa cdv A outer s H E ds R hr h=>?_;have hU:=hr.units;refine⟨_,(ae (aK (aD (eP hU) (G1 0) aR (ay _)) (ag (aA (au dN (hr.mono (by omega)) rfl (ac (G1 0) (ac (mz (ap 1)) af))))) aE) (ae (aK (bU (au (dX Z) (hr.mono (by omega)) rfl (ac (ap 0) af))) (ag (aA (sK (bU (ap 1)) (au (mj Z) (hr.mono (by omega)) rfl (ac (ap 0) af)) (ap 0)))) aE) (ae (aB 2 eX.nd (sK (bU (ap 1)) (uw rfl Z.g_OPPOSITES (G1 0) (λ_ _=>rfl)) (G1 0))) (ag (aA (bf (ac (ap 2) (ac (au dN (hr.mono (by omega)) rfl (ac (G1 0) (ac (ap 1) af))) (ac (au dN (hr.mono (by omega)) rfl (ac (G1 0) (ac (ap 1) af))) af))))))))),?_⟩;obtain⟨s,t,names,rfl,hd,ok,hl,q⟩:=h;refine ar λK1 h1=>?_
 cases s with
 | row k ts b =>
  have ab:=tK ok.1
  have aa:¬ kdS k=Str.ofString "not":=by cases k<;>decide
  unfold Hi.D lc;walk_at "";refine G0 aa ?_;rw[h1];refine ar λK2 h2=>?_;walk_at "";refine⟨.row k ts b,rfl,?_⟩;walk_at "";refine ifp rfl ?_
  cases t with
  | true=>exact ifp rfl ⟨k,ts,b,rfl,by omega,q⟩
  | false=>exact G0 HE q
 | nt s =>
  unfold Hi.D;walk_at "";have hd:s.dep+1<=n+1:=hd;exact⟨s,!t,names,rfl,by omega,ok,hl,q⟩
 | bo s u =>
  unfold Hi.D;walk_at "";have hd:max s.dep u.dep+1<=n+1:=hd;refine G0 (by decide) ?_;rw[h1];refine ar λK2 h2=>?_;walk_at "";refine⟨.bo s u,rfl,?_⟩;walk_at "";refine G0 HE ?_;walk_at "";rw[h2];refine ar λK3 h3=>?_;walk_at ""
  cases t with
  | true =>
   refine ifp rfl ⟨"either",by decide,?_⟩;rw[h3];walk_at "";refine⟨s,true,names,rfl,by omega,ok.1,hl,?_⟩;refine⟨u,true,names,rfl,by omega,ok.2,hl,?_⟩;exact q
  | false =>
   refine G0 HE ?_;rw[h3];walk_at "";refine⟨s,false,names,rfl,by omega,ok.1,hl,?_⟩;refine⟨u,false,names,rfl,by omega,ok.2,hl,?_⟩;exact q
 | ei s u =>
  unfold Hi.D;walk_at "";have hd:max s.dep u.dep+1<=n+1:=hd;refine G0 (by decide) ?_;rw[h1];refine ar λK2 h2=>?_;walk_at "";refine⟨.ei s u,rfl,?_⟩;walk_at "";refine G0 HE ?_;walk_at "";rw[h2];refine ar λK3 h3=>?_;walk_at ""
  cases t with
  | true =>
   refine ifp rfl ⟨"both",by decide,?_⟩;rw[h3];walk_at "";refine⟨s,true,names,rfl,by omega,ok.1,hl,?_⟩;refine⟨u,true,names,rfl,by omega,ok.2,hl,?_⟩;exact q
  | false =>
   refine G0 HE ?_;rw[h3];walk_at "";refine⟨s,false,names,rfl,by omega,ok.1,hl,?_⟩;refine⟨u,false,names,rfl,by omega,ok.2,hl,?_⟩;exact q
theorem jW(Z:Zz):Z.C 62 "plain_part" ["saying","turned"] (Hg Z.K (bL 60)):=Nat.rec (motive:=λn=>Z.C (2+n) "plain_part" ["saying","turned"] (Hg Z.K (bL n))) (lT Z.x14 _ f9) (λ_=>jd Z) 60
inductive v4(ds:Zi)(R:D->Prop):Prop
 | mk (s:Hi) (names:Zb) (hh:ds=[s.D]/\s.dep<=60/\s.ok names/\names.length<=100/\R (s.pl false).D)
theorem n5:∀ds R,v4 ds R->ds.length=1:=λ_ _ ⟨_,_,e,_⟩=>by rw[e];rfl
theorem yd:ax ["saying"] ["saying"] (ak s_plain):=by walk_at "sc"
theorem vU(Z:Zz):Z.C 63 "plain" ["saying"] (Hg Z.K v4):=by
 refine cS Z.x15 yd n5 λfa cdv A outer s H E ds R hr h=>?_;have hU:=hr.units;refine⟨_,(ag (aA (au (jW Z) (rm hr) rfl (ac (ap 0) (ac gG af))))),?_⟩;obtain⟨s,names,rfl,hd,ok,hl,q⟩:=h;walk_at "";exact⟨s,false,names,rfl,hd,ok,hl,q⟩
theorem sd(ts:List (Str×Int)):(Cr ts).map (·.1)=ts.map (·.1):=by unfold Cr;rw[IX];rfl
theorem sM(h:kW names ts):kW names (Cr ts):=by
 refine⟨by rw[sd];exact h.sub,λt ht=>?_,λt ht=>?_⟩
 ·obtain⟨u,hu,rfl⟩:=HA.mp ht;have:=h.nz u hu;show -u.2≠0;omega
 ·obtain⟨u,hu,rfl⟩:=HA.mp ht;exact JT (h.bits u hu)
theorem Hi.pl_ok:∀ {s:Hi} {t:Bool},s.ok names->(s.pl t).ok names
 | .row k ts b,true,h=>⟨sM h.1,JT h.2⟩
 | .row k ts b,false,h=>h
 | .nt s,t,h=>Hi.pl_ok (s:=s) h
 | .bo s u,true,h=>⟨Hi.pl_ok h.1,Hi.pl_ok h.2⟩
 | .bo s u,false,h=>⟨Hi.pl_ok h.1,Hi.pl_ok h.2⟩
 | .ei s u,true,h=>⟨Hi.pl_ok h.1,Hi.pl_ok h.2⟩
 | .ei s u,false,h=>⟨Hi.pl_ok h.1,Hi.pl_ok h.2⟩
theorem Hi.pl_dep:∀ {s:Hi} {t:Bool},(s.pl t).dep<=s.dep
 | .row k ts b,true=>HD _
 | .row k ts b,false=>HD _
 | .nt s,t=>Jx (Hi.pl_dep (s:=s))
 | .bo s u,true=>by have:=Hi.pl_dep (s:=s) (t:=true);have:=Hi.pl_dep (s:=u) (t:=true);show max _ _+1<=max _ _+1;omega
 | .bo s u,false=>by have:=Hi.pl_dep (s:=s) (t:=false);have:=Hi.pl_dep (s:=u) (t:=false);show max _ _+1<=max _ _+1;omega
 | .ei s u,true=>by have:=Hi.pl_dep (s:=s) (t:=true);have:=Hi.pl_dep (s:=u) (t:=true);show max _ _+1<=max _ _+1;omega
 | .ei s u,false=>by have:=Hi.pl_dep (s:=s) (t:=false);have:=Hi.pl_dep (s:=u) (t:=false);show max _ _+1<=max _ _+1;omega
def Hi.args:Hi->List DL.D
 | .row k ts b=>[.str (kdS k),.tup (ts.map tmD),.int b]
 | .nt s=>[.str "not",s.D]
 | .bo s t=>[.str "both",s.D,t.D]
 | .ei s t=>[.str "either",s.D,t.D]
theorem Hi.D_args(s:Hi):s.D=.tup s.args:=by cases s<;>rfl
theorem Hi.nds:∀s:Hi,DL.D.nds s.args=true
 | .row k ts b=>by
  show (true&&(DL.D.nds (ts.map tmD)&&(true&&true)))=true
  rw[tH];rfl
 | .nt s=>by
  show (true&&(DL.D.nd s.D&&true))=true
  rw[s.D_args];show (true&&(DL.D.nds s.args&&true))=true;rw[Hi.nds s];rfl
 | .bo s t=>by
  show (true&&(DL.D.nd s.D&&(DL.D.nd t.D&&true)))=true
  rw[s.D_args,t.D_args];show (true&&(DL.D.nds s.args&&(DL.D.nds t.args&&true)))=true;rw[Hi.nds s,Hi.nds t];rfl
 | .ei s t=>by
  show (true&&(DL.D.nd s.D&&(DL.D.nd t.D&&true)))=true
  rw[s.D_args,t.D_args];show (true&&(DL.D.nds s.args&&(DL.D.nds t.args&&true)))=true;rw[Hi.nds s,Hi.nds t];rfl
theorem Hi.dps:∀s:Hi,DL.D.dps s.args<=s.dep+1
 | .row k ts b=>by
  have:=uP ts
  show max 0 (max (DL.D.dps (ts.map tmD)+1) (max 0 0))<=1+1
  omega
 | .nt s=>by
  have:=Hi.dps s
  show max 0 (max (DL.D.dp s.D) 0)<=s.dep+1+1
  rw[s.D_args];show max 0 (max (DL.D.dps s.args+1) 0)<=s.dep+1+1;omega
 | .bo s t=>by
  have:=Hi.dps s
  have:=Hi.dps t
  show max 0 (max (DL.D.dp s.D) (max (DL.D.dp t.D) 0))<=max s.dep t.dep+1+1
  rw[s.D_args,t.D_args];show max 0 (max (DL.D.dps s.args+1) (max (DL.D.dps t.args+1) 0))<=max s.dep t.dep+1+1;omega
 | .ei s t=>by
  have:=Hi.dps s
  have:=Hi.dps t
  show max 0 (max (DL.D.dp s.D) (max (DL.D.dp t.D) 0))<=max s.dep t.dep+1+1
  rw[s.D_args,t.D_args];show max 0 (max (DL.D.dps s.args+1) (max (DL.D.dps t.args+1) 0))<=max s.dep t.dep+1+1;omega
theorem Ec{s t:Hi}{R:D->Prop}(e:s=t)(hd:s.dep<=59)(h:R (.bl true)):fEq [s.D,t.D] R:=by
 subst e;rw[s.D_args];exact⟨⟨rfl,s.nds,by have:=s.dps;omega⟩,h⟩
def iD(ns:Ze)(k:Int):Int:=ns.getD k.toNat 0
inductive iW(ds:Zi)(R:D->Prop):Prop
 | mk (ns:Ze) (k:Int) (hh:ds=[.fz (ns.map D.int),.int k]/\0<=k/\R (.int (iD ns k)))
theorem iH:∀ds R,iW ds R->ds.length=2:=λ_ _ ⟨_,_,e,_⟩=>by rw[e];rfl
theorem vV(h0:0<=k)(h:k<xs.length):Hl xs k=xs[k.toNat]?:=by
 unfold Hl ixN;rw[HU h0,HU h];rfl
theorem mq:ax ["_law_script","_law_k"] ["_law_script","_law_k"] (ak s__law_cell):=by walk_at "sc"
theorem kB(Z:Zz):Z.C 1 "_law_cell" ["_law_script","_law_k"] (Hg Z.K iW):=by
 refine cS Z.x16 mq iH λfa cdv A outer s H E ds R hr h=>?_;have hU:=hr.units;refine⟨_,(ae (aK (aD sQ (ap 1) (aN lC rfl Z.x53 fP (ac (ap 0) af)) (ay _)) (ag (aA (fe fh (ap 0) (ap 1) (λ_ _=>rfl)))) aE) (ag (aA am))),?_⟩;obtain⟨ns,k,rfl,h0,q⟩:=h;walk_at "";refine cR (λc=>?_) (λc=>?_)
 ·rw[Hv] at c;refine Hu.of (v:=.int (iD ns k)) ?_ q;rw[vV h0 (by rw[Hv];exact c),HM];have:k.toNat<ns.length:=by omega
  unfold iD;rw[IM,Iv this];rfl
 ·rw[Hv] at c;have:ns.length<=k.toNat:=by omega
  unfold iD at q;rw[IM,IT this] at q;exact q
def Hi.cs:Hi->List (List Hi)
 | .row k ts b=>[[.row k ts b]]
 | .nt _=>[]
 | .bo s t=>s.cs.flatMap λc=>t.cs.map λd=>c++d
 | .ei s t=>s.cs++t.cs
def Hi.pn:Hi->Bool
 | .row _ _ _=>true
 | .nt _=>false
 | .bo s t=>s.pn&&t.pn
 | .ei s t=>s.pn&&t.pn
def Hi.num:Hi->Nat
 | .bo s t=>s.num*t.num
 | .ei s t=>s.num+t.num
 | _=>1
def Hi.long:Hi->Nat
 | .bo s t=>s.long+t.long
 | .ei s t=>max s.long t.long
 | _=>1
theorem Hi.num_pos:∀s:Hi,0<s.num
 | .row _ _ _=>Nat.one_pos
 | .nt _=>Nat.one_pos
 | .bo s t=>Nat.mul_pos s.num_pos t.num_pos
 | .ei s t=>Nat.add_pos_left s.num_pos _
theorem ya(f:α->β->γ)(m:List β):∀l:List α,(l.flatMap λc=>m.map λd=>f c d).length=l.length*m.length
 | []=>(Nat.zero_mul _).symm
 | c::l=>by rw[List.flatMap_cons,HC,Hv,ya f m l,HJ,Nat.succ_mul,Nat.add_comm]
theorem Hi.cs_num:∀ {s:Hi},s.pn=true->s.cs.length=s.num
 | .row _ _ _,_=>rfl
 | .bo s t,h=>by
  obtain⟨h1,h2⟩:=Iu.mp h;show (s.cs.flatMap λc=>t.cs.map λd=>c++d).length=s.num*t.num;rw[ya,Hi.cs_num h1,Hi.cs_num h2]
 | .ei s t,h=>by
  obtain⟨h1,h2⟩:=Iu.mp h;show (s.cs++t.cs).length=s.num+t.num;rw[HC,Hi.cs_num h1,Hi.cs_num h2]
theorem Hi.cs_long:∀ {s:Hi},s.pn=true->∀c∈s.cs,c.length<=s.long
 | .row _ _ _,_,c,h=>by rw[HG.mp h];exact HD 1
 | .bo s t,h,c,hc=>by
  obtain⟨h1,h2⟩:=Iu.mp h;obtain⟨x,hx,hy⟩:=List.mem_flatMap.mp hc;obtain⟨y,hz,rfl⟩:=HA.mp hy;have:=Hi.cs_long h1 x hx;have:=Hi.cs_long h2 y hz;rw[HC];show _<=s.long+t.long;omega
 | .ei s t,h,c,hc=>by
  obtain⟨h1,h2⟩:=Iu.mp h;show _<=max s.long t.long
  rcases HZ.mp hc with hc | hc
  ·have:=Hi.cs_long h1 c hc;omega
  ·have:=Hi.cs_long h2 c hc;omega
theorem Hi.pl_pn:∀ {s:Hi} {t:Bool},(s.pl t).pn=true
 | .row k ts b,true=>rfl
 | .row k ts b,false=>rfl
 | .nt s,t=>Hi.pl_pn (s:=s)
 | .bo s u,true=>by show ((s.pl true).pn&&(u.pl true).pn)=true;rw[Hi.pl_pn,Hi.pl_pn];rfl
 | .bo s u,false=>by show ((s.pl false).pn&&(u.pl false).pn)=true;rw[Hi.pl_pn,Hi.pl_pn];rfl
 | .ei s u,true=>by show ((s.pl true).pn&&(u.pl true).pn)=true;rw[Hi.pl_pn,Hi.pl_pn];rfl
 | .ei s u,false=>by show ((s.pl false).pn&&(u.pl false).pn)=true;rw[Hi.pl_pn,Hi.pl_pn];rfl
def df(c:List Hi):D:=.lst (c.map Hi.D)
def csD(cs:List (List Hi)):D:=.lst (cs.map df)
inductive eD(ds:Zi)(R:D->Prop):Prop
 | mk (A B:List (List Hi)) (hh:ds=[csD A,csD B]/\A.length<=20/\B.length<=20/\(∀c∈A,c.length<=20)/\(∀c∈B,c.length<=20)/\R (csD (A.flatMap λc=>B.map λd=>c++d)))
theorem fD:∀ds R,eD ds R->ds.length=2:=λ_ _ ⟨_,_,e,_⟩=>by rw[e];rfl
theorem yB{cs:List (List Hi)}{i:Nat}(h:(cs.map df)[i]?=some d):∃c,cs[i]?=some c/\d=.lst (c.map Hi.D):=by
 rw[HM] at h
 cases e:cs[i]? with
 | none=>rw[e] at h;cases h
 | some n=>rw[e] at h;exact⟨n,rfl,(HR h).symm⟩
theorem bQ:ax ["one","other","told","first","second"] ["one","other"] (ak s_put_together):=by walk_at "sc"
theorem gI(Z:Zz):Z.C 1 "put_together" ["one","other"] (Hg Z.K eD):=by
 refine cS Z.x17 bQ fD λfa cdv A outer s H E ds R hr h=>?_;have hU:=hr.units;refine⟨_,(ae (dJ 2 bQ.nd af) (ae (bD Ih rfl (ap 0) (aw 3 bQ.nd) (ag (bD Ih rfl (ap 1) (aw 4 bQ.nd) (ag (bH 2 (aC aO (ap 3) (ap 4))))))) (ag (lr 2)))),?_⟩;obtain⟨A,B,rfl,hA,hB,lA,lB,q⟩:=h;unfold csD at q ⊢;walk_at "";intro a;walk_at "";simp only[lQ];walk_at "";have fl:∀i,((A.take i).flatMap λc=>B.map λd=>c++d).length<=400:=λi=>by
  rw[ya,IK];exact JF (show min i A.length<=20 by omega) hB
 refine⟨λi δ=>∃x y,δ=[.dat (.lst (A.map df)),.dat (.lst (B.map df)),.own a (.lst (((A.take i).flatMap λc=>B.map λd=>c++d).map df)),x,y],⟨_,_,rfl⟩,?_,?_⟩
 ·rintro i d δ hd ⟨x,y,rfl⟩;obtain⟨c,hc,rfl⟩:=yB hd;have ab:=lA c (HY hc);have aa:=fl i;walk_at "";refine⟨λj δ=>∃x,δ=[.dat (.lst (A.map df)),.dat (.lst (B.map df)),.own a (.lst (((A.take i).flatMap (λc=>B.map λd=>c++d)++(B.take j).map λd=>c++d).map df)),.dat (.lst (c.map Hi.D)),x],⟨_,by rw[Kv,Kf,IE]⟩,?_,?_⟩
  ·rintro j d δ hd ⟨x,rfl⟩;obtain⟨e,he,rfl⟩:=yB hd;have ah:=lB e (HY he);walk_at "";refine⟨by simp only[List.length_map];omega,by simp only[List.length_map,List.length_append,List.length_take];omega,?_⟩;rw[aI he,HS,HS,HS];simp only[df,List.map_append,List.map_cons,List.map_nil,List.append_assoc]
  ·rintro δ ⟨x,rfl⟩;rw[Hv,Ik];rw[aI hc,List.flatMap_append,List.flatMap_singleton];exact⟨_,_,rfl⟩
 ·rintro δ ⟨x,y,rfl⟩;rw[Hv,Ik];walk_at "";exact q
def Hi.few(s:Hi):Prop:=s.num<=4/\s.long<=3
def a6(n:Nat):FE:=λds R RE=>∃(s:Hi) (w:D),ds=[s.D,w]/\s.dep<=n/\s.pn=true/\(s.few->R (csD s.cs))/\(¬ s.few->RE "TooMany" "saying" w)
theorem fF(n:Nat):∀ds R RE,a6 n ds R RE->ds.length=2:=λ_ _ _ ⟨_,_,e,_⟩=>by rw[e];rfl
theorem eJ:∀ds R RE,¬ a6 0 ds R RE:=λ_ _ _ ⟨s,_,_,h,_⟩=>by have:=s.dep_pos;omega
theorem Hi.long_at:∀ {s:Hi},s.pn=true->∃c∈s.cs,c.length=s.long
 | .row _ _ _,_=>⟨_,HG.mpr rfl,rfl⟩
 | .bo s t,h=>by
  obtain⟨h1,h2⟩:=Iu.mp h;obtain⟨c,hc,e1⟩:=Hi.long_at h1;obtain⟨d,hd,e2⟩:=Hi.long_at h2;exact⟨c++d,List.mem_flatMap.mpr ⟨c,hc,HA.mpr ⟨d,hd,rfl⟩⟩,by rw[HC,e1,e2];rfl⟩
 | .ei s t,h=>by
  obtain⟨h1,h2⟩:=Iu.mp h;obtain⟨c,hc,e1⟩:=Hi.long_at h1;obtain⟨d,hd,e2⟩:=Hi.long_at h2
  by_cases z:t.long<=s.long
  ·exact⟨c,HV _ hc,by rw[e1];show s.long=max s.long t.long;omega⟩
  ·exact⟨d,HP _ hd,by rw[e2];show t.long=max s.long t.long;omega⟩
theorem y8{s:Hi}{P Q:Prop}(hp:s.pn=true)(h16:s.cs.length<=900)(q0:¬ s.few->Q)(q:s.few->P):((4:Int)<(s.cs.map df).length->Q)/\(¬ (4:Int)<(s.cs.map df).length->(s.cs.map df).length<=9000/\∃f:D->Option D,(∀x∈s.cs.map df,Cm [x] (kD (wd λy δ4=>okT 1 δ4 []/\f x=some y) [.dat x]))/\∃ns:Ze,(s.cs.map df).filterMap f=ns.map D.int/\0<ns.length/\∀M∈ns,(∀m∈ns,m<=M)->if 3<M then Q else P):=by
 refine⟨λh=>q0 λf=>?_,λh=>⟨by rw[Hv];omega,λd=>match d with | .lst l=>some (.int l.length) | _=>none,λx hx=>?_,s.cs.map λc=>(c.length:Int),?_,by rw[Hv,Hi.cs_num hp];exact s.num_pos,λM hM hmax=>?_⟩⟩
 ·rw[Hv,Hi.cs_num hp] at h;have:=f.1;omega
 ·obtain⟨c,_,rfl⟩:=HA.mp hx;exact⟨rfl,rfl⟩
 ·rw[aP _ df (λc=>D.int (c.length:Int)) _ (by intro c _;show some (D.int ((c.map Hi.D).length:Int))=_;rw[Hv]),IX];rfl
 ·obtain⟨c,hc,rfl⟩:=HA.mp hM;obtain⟨d,hd,e⟩:=Hi.long_at hp;have h1:=hmax _ (HA.mpr ⟨d,hd,rfl⟩);have h2:=Hi.cs_long hp c hc;rw[Hv,Hi.cs_num hp] at h
  by_cases z:(3:Int)<c.length
  ·rw[HU z];exact q0 λf=>by have:=f.2;omega
  ·rw[HQ z];exact q ⟨by omega,by omega⟩
theorem bP:ax ["part","whole","one","other","told"] ["part","whole"] (ak s_cases_within):=by walk_at "sc"
theorem gd(Z:Zz){n:Nat}(et:Z.E (3+n) "cases_within" ["part","whole"] (a6 n)):Z.E (3+n+1) "cases_within" ["part","whole"] (a6 (n+1)):=by
 refine fn_E (k:=3+n) Z.x18 bP (fF (n+1)) λfa cdv A outer s H E ds R RE hr h=>?_;have hU:=hr.units;refine⟨_,(ae (aK (bU (au (dX Z) (hr.mono (by omega)) rfl (ac (ap 0) af))) (ag (aA (aW (ac (aW (ac (ap 0) af)) af)))) aE) (ae (vQ 2 bP.nd et (hr.mono (by omega)) rfl (ac (G1 0) (ac (ap 1) af))) (ae (vQ 3 bP.nd et (hr.mono (by omega)) rfl (ac (G1 0) (ac (ap 1) af))) (ae (aB 4 bP.nd (sK (aD (eP hU) (G1 0) aR (ay _)) (au (gI Z) (hr.mono (by omega)) rfl (ac (ap 2) (ac (ap 3) af))) (aC aO (ap 2) (ap 3)))) (ae (aK (DW.dt (mM (aD sO (aN lC rfl Z.x53 fP (ac (ap 4) af)) (ul rfl Z.g_MOST_CASES) (ay _)) (iA (aD sO (aN (wx rfl) rfl Z.x54 yk (ac (DE.nox (bZ ["case"] [] rfl rfl (by decide +kernel) rfl (by decide +kernel) (bV trivial) (λ_=>cj rfl) (a7 trivial) (eB (ap 4)) λ_ _ _ _ _=>⟨(aw 0 (show List.Nodup (["case"]:Zb) by decide +kernel)),fH,(aN lC rfl Z.x53 fP (ac (ap 0) af))⟩)) af)) (ul rfl Z.g_MOST_ROWS) (ay _))))) (ag (ds_x Z.er.t (hr.mono (by omega)) rfl (ap 1))) aE) (ag (aA (ap 4)))))))),?_⟩;obtain⟨s,w,rfl,hd,hp,q,q0⟩:=h;walk_at "";refine⟨s,rfl,?_⟩;walk_at ""
 cases s with
 | nt s=>cases hp
 | row k ts b=>exact ifp rfl (q ⟨by show 1<=4;decide,by show 1<=3;decide⟩)
 | bo s t =>
  refine G0 HE ?_;unfold Hi.D;walk_at "";obtain⟨p1,p2⟩:=Iu.mp hp;have hd:max s.dep t.dep+1<=n+1:=hd;have f1:(Hi.bo s t).few->s.few:=λf=>⟨Hz (Nat.le_mul_of_pos_right _ t.num_pos) f.1,by have:s.long+t.long<=3:=f.2;omega⟩;have f2:(Hi.bo s t).few->t.few:=λf=>⟨Hz (Nat.le_mul_of_pos_left _ s.num_pos) f.1,by have:s.long+t.long<=3:=f.2;omega⟩;refine⟨s,w,rfl,by omega,p1,λg1=>⟨t,w,rfl,by omega,p2,λg2=>?_,λg2=>q0 λf=>g2 (f2 f)⟩,λg1=>q0 λf=>g1 (f1 f)⟩;have l1:s.cs.length<=4:=by rw[Hi.cs_num p1];exact g1.1
  have l2:t.cs.length<=4:=by rw[Hi.cs_num p2];exact g2.1
  refine⟨s.cs,t.cs,rfl,by omega,by omega,λc hc=>by have:=Hi.cs_long p1 c hc;have:=g1.2;omega,λc hc=>by have:=Hi.cs_long p2 c hc;have:=g2.2;omega,?_⟩;have l3:(Hi.bo s t).cs.length<=900:=by
   show (s.cs.flatMap λc=>t.cs.map λd=>c++d).length<=900
   rw[ya];exact Hz (JF l1 l2) (by decide)
  obtain⟨e1,e2⟩:=y8 hp l3 q0 q;show kD _ _ (csD (Hi.bo s t).cs);unfold csD;walk_at "";exact cR e1 e2
 | ei s t =>
  refine G0 HE ?_;unfold Hi.D;walk_at "";obtain⟨p1,p2⟩:=Iu.mp hp;have hd:max s.dep t.dep+1<=n+1:=hd;have f1:(Hi.ei s t).few->s.few:=λf=>⟨by have:s.num+t.num<=4:=f.1;omega,by have:max s.long t.long<=3:=f.2;omega⟩;have f2:(Hi.ei s t).few->t.few:=λf=>⟨by have:s.num+t.num<=4:=f.1;omega,by have:max s.long t.long<=3:=f.2;omega⟩;refine⟨s,w,rfl,by omega,p1,λg1=>⟨t,w,rfl,by omega,p2,λg2=>?_,λg2=>q0 λf=>g2 (f2 f)⟩,λg1=>q0 λf=>g1 (f1 f)⟩;have l1:s.cs.length<=4:=by rw[Hi.cs_num p1];exact g1.1
  have l2:t.cs.length<=4:=by rw[Hi.cs_num p2];exact g2.1
  unfold csD at q ⊢;walk_at "";refine G0 (by decide) ?_;have e0:s.cs.map df++t.cs.map df=(Hi.ei s t).cs.map df:=(HS ..).symm;rw[e0];refine⟨by rw[Hv,Hv];omega,?_⟩;have l3:(Hi.ei s t).cs.length<=900:=by
   show (s.cs++t.cs).length<=900
   rw[HC];omega
  obtain⟨e1,e2⟩:=y8 hp l3 q0 q;exact cR e1 e2
theorem gJ(Z:Zz):Z.E 63 "cases_within" ["part","whole"] (a6 60):=Nat.rec (motive:=λn=>Z.E (3+n) "cases_within" ["part","whole"] (a6 n)) (vk Z.x18 _ eJ) (λ_=>gd Z) 60
def vf:FE:=λds R RE=>∃(s:Hi) (names:Zb),ds=[s.D]/\s.dep<=60/\s.ok names/\names.length<=100/\((s.pl false).few->R (csD (s.pl false).cs))/\(¬ (s.pl false).few->RE "TooMany" "saying" s.D)
theorem ot:∀ds R RE,vf ds R RE->ds.length=1:=λ_ _ _ ⟨_,_,e,_⟩=>by rw[e];rfl
theorem xl:ax ["saying"] ["saying"] (ak s_cases):=by walk_at "sc"
theorem mT(Z:Zz):Z.E 64 "cases" ["saying"] vf:=by
 refine fn_E Z.x19 xl ot λfa cdv A outer s H E ds R RE hr h=>?_;have hU:=hr.units;refine⟨_,(ag (BN (gJ Z) (rm hr) rfl (ac (au (vU Z) (rm hr) rfl (ac (ap 0) af)) (ac (ap 0) af)))),?_⟩;obtain⟨s,names,rfl,hd,ok,hl,q,q0⟩:=h;walk_at "";refine⟨s,names,rfl,hd,ok,hl,?_⟩;exact⟨s.pl false,s.D,rfl,Hz Hi.pl_dep hd,Hi.pl_pn,q,q0⟩
inductive vz(ds:Zi)(R:D->Prop):Prop
 | mk (rows:List Rw) (ws:Ze) (nm:Zb) (hh:ds=[.lst (rows.map rwD),.tup (ws.map D.int)]/\nm.length<=60/\(∀r∈rows,RwOk nm 60000000 r)/\(∀w∈ws,Builtin.Int.intBits w<=60000000) /\
 ∀ts,eM (cfs (rows.zip ws)) ts->R (lc (kOf (Hh (rows.zip ws))) ts (bds (rows.zip ws))))
theorem oP:∀ds R,vz ds R->ds.length=2:=λ_ _ ⟨_,_,_,e,_⟩=>by rw[e];rfl
theorem bN:ax ["rows","weights","word","sums","bound","row","often","name","weight","terms"] ["rows","weights"] (ak s_added):=by walk_at "sc"
theorem vL(Z:Zz):Z.C 1 "added" ["rows","weights"] (Hg Z.K vz):=by
 refine cS Z.x20 bN oP λfa cdv A outer s H E ds R hr h=>?_;have hU:=hr.units;refine⟨_,(ae (aB 2 bN.nd aR) (ae (kC 3 bN.nd) (ae (aB 4 bN.nd am) (ae (mi Ih rfl (tL true false rfl Z.x55 (ac (ap 0) (ac (ap 1) af))) (dk (n:=2) rfl (aH (aw 5 bN.nd) (aH (aw 6 bN.nd) bC))) (ae (aK (DW.dt (l7 (aD (eP hU) (G1 5) aR (ay _)) (iL (aD sO (ap 6) am (ay _))))) (ag (aB 2 bN.nd aR)) aE) (ae (lm Ih rfl (G1 5) (dk (n:=2) rfl (aH (aw 7 bN.nd) (aH (aw 8 bN.nd) bC))) (ag (ji 3 hU (aC aO (Ao 3 hU (ap 7) am) (aC bT (ap 6) (ap 8))) (ap 7)))) (ag (aB 4 bN.nd (aC aO (ap 4) (aC bT (ap 6) (G1 5)))))))) (bJ 3 (ae (aB 9 bN.nd (dH lI rfl Z.x52 jA (ac (bZ ["name"] [(3,"sums")] rfl rfl (by decide +kernel) rfl (by decide +kernel) (bV ⟨rfl,trivial⟩) (λ_=>cj rfl) (a7 ⟨⟨rfl,rfl,.inl rfl⟩,trivial⟩) (eB (aN (kH rfl) rfl Z.x51 lS (ac (ap 3) af))) λ_ _ _ _ _=>⟨(aw 0 (show List.Nodup (["name","sums"]:Zb) by decide +kernel)),(gj (aD (vD hU) (fQ hU (ap 1) (ap 0) (λ_ _=>rfl)) am (ay _))),(bf (ac (ap 0) (ac (fQ hU (ap 1) (ap 0) (λ_ _=>rfl)) af)))⟩) af))) (ag (aA (bf (ac (ap 2) (ac (ap 9) (ac (ap 4) af)))))))))))),?_⟩;obtain⟨rows,ws,nm,rfl,an,hr,hw,q⟩:=h;refine ar λK1 h1=>?_;walk_at "";rw[h1];refine ar λK3 h3=>?_;walk_at "";intro da;rw[h3];refine ar λK4 h4=>?_;walk_at "";rw[h4];refine ar λK5 h5=>?_;refine jz λB N hB hN=>?_;walk_at "";simp only[sr];walk_at "";rw[xZ];generalize hl:rows.zip ws=l at q ⊢;have ai:∀p∈l,RwOk nm 60000000 p.1/\Builtin.Int.intBits p.2<=60000000:=λp hp=>by
  rw[<- hl] at hp;exact⟨hr _ (IN hp).1,hw _ (IN hp).2⟩
 clear hl hr hw
 refine⟨λi δ=>∃ks u v w z y,δ=[.dat (.lst (rows.map rwD)),.dat (.tup (ws.map D.int)),.dat (.str (kdS (kOf (Hh (l.take i))))),.own da (.dct ks (ks.map λn=>.int (cfs (l.take i) n))),.dat (.int (bds (l.take i))),u,v,w,z,y]/\ks.Nodup/\(∀n∈ks,n∈nm)/\∀n,n∉ks->cfs (l.take i) n=0,
  ⟨[],_,_,_,_,_,rfl,List.nodup_nil,λn h=>(nomatch h),λn h=>rfl⟩,?_,?_⟩
 ·rintro i d δ hd ⟨ks,u,v,w,z,y,rfl,nd,hs,h0⟩;rw[HM] at hd
  cases hn:l[i]? with
  | none=>rw[hn] at hd;cases hd
  | some p =>
   rw[hn] at hd
   cases hd
   obtain⟨⟨k,ts,b⟩,c⟩:=p;obtain⟨ok,bc⟩:=ai _ (HY hn);have aa:=aI hn;rw[hB];show sA _ _ (.tup [.tup [.str (kdS k),.tup (ts.map tmD),.int b],.int c]) _ _;refine d7 λK hK=>?_;walk_at "";have go:∀wd,wd=kdS (kOf (Hh (l.take (i+1))))->K [.dat (.lst (rows.map rwD)),.dat (.tup (ws.map D.int)),.dat (.str wd),.own da (.dct ks (ks.map λn=>.int (cfs (l.take i) n))),.dat (.int (bds (l.take i))),.dat (.tup [.str (kdS k),.tup (ts.map tmD),.int b]),.dat (.int c),w,z,y]:=?_
   ·have e:Hh (l.take (i+1))=(Hh (l.take i)||(isM k&&decide (0<c))):=by rw[aa,Ap,Be]
    cases k with
    | least =>
     refine G0 (by decide) (go _ ?_);rw[e];simp only[isM,Bool.false_and,Bool.or_false]
    | more =>
     refine ifp rfl (cR (λhc=>go _ ?_) λhc=>go _ ?_)
     ·rw[e,IF hc];simp only[isM,Bool.and_true,Bool.or_true];rfl
     ·rw[e,IQ hc];simp only[isM,Bool.and_false,Bool.or_false]
   intro wd al;rw[hK];refine ar λK2 hK2=>?_;walk_at "";simp only[vc];walk_at ""
   refine⟨λj δ=>∃ks w z y,δ=[.dat (.lst (rows.map rwD)),.dat (.tup (ws.map D.int)),.dat (.str wd),.own da (.dct ks (ks.map λn=>.int (cfs (l.take i) n+c*cf (ts.take j) n))),.dat (.int (bds (l.take i))),.dat (.tup [.str (kdS k),.tup (ts.map tmD),.int b]),.dat (.int c),w,z,y]/\ks.Nodup/\(∀n∈ks,n∈nm)/\∀n,n∉ks->cfs (l.take i) n+c*cf (ts.take j) n=0,
    ⟨ks,w,z,y,by simp only[List.take_zero,cf,Int.mul_zero,Int.add_zero],nd,hs,λn hn=>by rw[h0 n hn,Kv];show 0+c*0=0;omega⟩,?_,?_⟩
   ·rintro j d δ hd ⟨ks,w,z,y,rfl,nd,hs,h0⟩;obtain⟨t,ht,rfl⟩:=eR hd;have ab:=HY ht;have hj:=aI ht;walk_at "";rw[w4 (h0 t.1)];walk_at "";refine⟨mo2 bc (ok.bw t ab),by have:=jM nd hs;omega,?_,uZ nd,λn hn=>?_,λn hn=>?_⟩
    ·have e:∀n,cfs (l.take i) n+c*cf (ts.take (j+1)) n=(cfs (l.take i) n+c*cf (ts.take j) n)+c*(if t.1=n then t.2 else 0):=λn=>by
      rw[hj,tQ,Int.mul_add];show _+(_+c*((if t.1=n then t.2 else 0)+0))=_;rw[Kg,Int.add_assoc]
     have:=Cg (ks:=ks) (x:=t.1) (f:=λn=>D.int (cfs (l.take i) n+c*cf (ts.take j) n)) (g:=λn=>D.int (cfs (l.take i) n+c*cf (ts.take (j+1)) n)) (λn hn=>by rw[e,HQ (λz=>hn z.symm),Int.mul_zero,Kg])
     rw[<- this,e,HU rfl]
    ·rcases pN.mp hn with h | h
     ·exact hs n h
     ·rw[h];exact ok.sub t ab
    ·rw[pN,not_or] at hn;rw[hj,tQ,Int.mul_add,<- Int.add_assoc,h0 n hn.1];show 0+c*((if t.1=n then t.2 else 0)+0)=0;rw[HQ (λz=>hn.2 z.symm)];omega
   ·rintro δ ⟨ks,w,z,y,rfl,nd,hs,h0⟩;have e1:ts.take (ts.map tmD).length=ts:=by rw[Hv,Ik]
    rw[e1] at h0 ⊢;rw[hK2];walk_at "";have e2:∀n,cfs (l.take (i+1)) n=cfs (l.take i) n+c*cf ts n:=λn=>by
     rw[aa,vo];show _+(c*cf ts n+0)=_;rw[Kg]
    simp only[e2];rw[aa,v8];exact⟨mo2 bc ok.bb,by rw[<- aa];exact al,trivial,(by show _=_+(c*b+0);rw[Kg]),nd,hs,λn hn=>h0 n hn⟩
 ·rintro δ ⟨ks,u,v,w,z,y,rfl,nd,hs,h0⟩;rw[Hv,Ik] at h0 ⊢;rw[hN];show K5 _;rw[h5];walk_at "";have hk:=jM nd hs;refine⟨by omega,λss' pm st=>?_⟩;have aj:=pm.length_eq;refine⟨by rw[Hv];omega,λd=>match d with | .str n=>if cfs l n≠0 then some (.tup [.str n,.int (cfs l n)]) else none | _=>none,λx hx=>?_,?_⟩
  ·obtain⟨n,hn,rfl⟩:=HA.mp hx;have ah:n∈ks:=pm.mem_iff.mp hn;walk_at "";refine⟨_,dW (λn=>D.int (cfs l n)) ah,?_⟩;walk_at "";refine cR (λhz=>?_) λhz=>?_
   ·exact⟨_,dW (λn=>D.int (cfs l n)) ah,by rw[HU hz]⟩
   ·rw[HQ hz]
  ·have e:(ss'.map D.str).filterMap (λd=>match d with | .str n=>if cfs l n≠0 then some (D.tup [.str n,.int (cfs l n)]) else none | _=>none)=((ss'.filter λn=>decide (cfs l n≠0)).map λn=>(n,cfs l n)).map tmD:=by
    clear aj pm st
    induction ss' with
    | nil=>rfl
    | cons n r ih =>
     rw[Im,Jc];simp only
     by_cases hz:cfs l n≠0
     ·rw[HU hz,ID (by simpa using hz)];simp only[List.map_cons];rw[ih];rfl
     ·rw[HQ hz,Ii (by simpa using hz)];exact ih
   rw[e];exact q _ (eM.mk' (vE st) (pm.nodup_iff.mpr nd) λn hn=>pm.mem_iff.mpr (HF λz=>hn (h0 n z)))
def smD(nm:Zb)(rows:List Rw)(w:Ze):D:=.tup [rwD (Ht nm rows w),.tup (w.map D.int)]
inductive jf(ds:Zi)(R:D->Prop):Prop
 | mk (n:Str) (r:Rw) (hh:ds=[.str n,rwD r]/\(r.2.1.map (·.1)).Nodup/\R (.int (cf r.2.1 n)))
theorem je:∀ds R,jf ds R->ds.length=2:=λ_ _ ⟨_,_,e,_⟩=>by rw[e];rfl
theorem dR:ax ["name","row","found","weight"] ["name","row"] (ak s_weight_of):=by walk_at "sc"
theorem aZ(Z:Zz):Z.C 1 "weight_of" ["name","row"] (Hg Z.K jf):=by
 refine cS Z.x21 dR je λfa cdv A outer s H E ds R hr h=>?_;have hU:=hr.units;refine⟨_,(ae (lm Ih rfl (G1 1) (dk (n:=2) rfl (aH (aw 2 dR.nd) (aH (aw 3 dR.nd) bC))) (ag (aK (aD (eP hU) (ap 2) (ap 0) (ay _)) (ag (aA (ap 3))) aE))) (ag (aA am))),?_⟩;obtain⟨n,⟨k,ts,b⟩,rfl,nd,q⟩:=h;unfold rwD lc;walk_at "";simp only[vc];walk_at "";refine⟨λi δ=>∃x y,δ=[.dat (.str n),.dat (.tup [.str (kdS k),.tup (ts.map tmD),.int b]),x,y]/\n∉(ts.take i).map (·.1),⟨_,_,rfl,by simp⟩,?_,?_⟩
 ·rintro i d δ hd ⟨x,y,rfl,hn⟩;obtain⟨t,ht,rfl⟩:=eR hd;walk_at "";refine cR (λe=>?_) (λe=>?_)
  ·subst e;have:=mS nd (HY ht);simp only at q this;rw[this] at q;exact q
  ·rw[aI ht,HS,HZ,not_or];exact⟨hn,λz=>e (HG.mp z).symm⟩
 ·rintro δ ⟨x,y,rfl,hn⟩;rw[Hv,Ik] at hn;have:=iy hn;simp only at q;rw[this] at q;exact q
theorem D2{α:Type}{f:α->D}{l:List α}{i:Nat}(h:(enD (l.map f))[i]?=some d):∃r,l[i]?=some r/\d=.tup [.int (i:Nat),f r]:=by
 unfold enD at h;rw[List.getElem?_mapIdx,HM] at h
 cases e:l[i]? with
 | none=>rw[e] at h;cases h
 | some r=>rw[e] at h;exact⟨r,rfl,(HR h).symm⟩
theorem Fs:(enD xs).length=xs.length:=by unfold enD;rw[List.length_mapIdx]
inductive ve(ds:Zi)(R:D->Prop):Prop
 | mk (rows:List Rw) (nm:Zb) (hh:ds=[.lst (rows.map rwD)]/\G7 nm rows/\rows.length<=60/\R (.lst ((sU rows.length).map (smD nm rows))))
theorem nS:∀ds R,ve ds R->ds.length=1:=λ_ _ ⟨_,_,e,_⟩=>by rw[e];rfl
theorem gU:ax ["rows","told","place","row"] ["rows"] (ak s_alone):=by walk_at "sc"
theorem tY(Z:Zz):Z.C 1 "alone" ["rows"] (Hg Z.K ve):=by
 refine cS Z.x22 gU nS λfa cdv A outer s H E ds R hr h=>?_;have hU:=hr.units;refine⟨_,(ae (dJ 1 gU.nd af) (ae (mi Ih rfl (zX true rfl Z.x56 (ac (ap 0) af)) (dk (n:=2) rfl (aH (aw 2 gU.nd) (aH (aw 3 gU.nd) bC))) (ag (bH 1 (bf (ac (ap 3) (ac (dH lI rfl Z.x52 jA (ac (bZ ["other"] [(2,"place")] rfl rfl (by decide +kernel) rfl (by decide +kernel) (bV ⟨rfl,trivial⟩) (λ_=>cj rfl) (a7 ⟨⟨rfl,rfl,.inl rfl⟩,trivial⟩) (rB rfl Z.x57 (ac (aN lC rfl Z.x53 fP (ac (ap 0) af)) af)) λ_ _ _ _ _=>⟨(aw 0 (show List.Nodup (["other","place"]:Zb) by decide +kernel)),fH,(sK (aD (eP hU) (ap 0) (ap 1) (ay _)) am am)⟩) af)) af)))))) (ag (lr 1)))),?_⟩;obtain⟨rows,nm,rfl,H,hl,q⟩:=h;walk_at "";intro ta;refine jz λB N hB hN=>?_;walk_at "";simp only[sr];walk_at "";refine⟨λi δ=>∃x y,δ=[.dat (.lst (rows.map rwD)),.own ta (.lst (((sU rows.length).take i).map (smD nm rows))),x,y],⟨_,_,rfl⟩,?_,?_⟩
 ·rintro i d δ hd ⟨x,y,rfl⟩;obtain⟨r,hr,rfl⟩:=D2 hd;rw[hB];walk_at "";have aa:i<rows.length:=(HL.mp hr).1;rw[Hv];refine⟨by omega,by omega,by simp;omega,λd=>match d with | .int o=>some (.int (if o=(i:Int) then 1 else 0)) | _=>none,λx hx=>?_,?_⟩
  ·obtain⟨o,ho,rfl⟩:=HA.mp hx;walk_at "";refine cR (λe=>?_) (λe=>?_)
   ·rw[HU e]
   ·rw[HQ e]
  ·have e1:((List.range (rows.length:Int).toNat).map λ(k:Nat)=>D.int (k:Int)).filterMap (λd=>match d with | .int o=>some (D.int (if o=(i:Int) then 1 else 0)) | _=>none)=(unW rows.length i).map D.int:=by
    unfold unW;rw[IX,Int.toNat_natCast];rw[aP _ (λ(k:Nat)=>D.int (k:Int)) (λk=>D.int (if k=i then 1 else 0)) _ λk _=>?_]
    ·rfl
    ·show some (D.int (if (k:Int)=(i:Int) then 1 else 0))=_
     by_cases e:k=i
     ·rw[HU e,HU (by omega)]
     ·rw[HQ e,HQ (by omega)]
   have hu:(sU rows.length)[i]?=some (unW rows.length i):=by unfold sU;rw[HM,List.getElem?_range aa];rfl
   rw[e1,aI hu,HS];refine⟨by rw[Hv,IK];omega,?_⟩;show _++[D.tup [rwD r,_]]=_++[smD nm rows (unW rows.length i)];unfold smD;rw[xb H hr]
 ·rintro δ ⟨x,y,rfl⟩;rw[Fs,Hv,hN];walk_at "";have e:(sU rows.length).take rows.length=sU rows.length:=List.take_of_length_le (by unfold sU;simp);rw[e];exact q
theorem xw{ws:Ze}{i:Nat}(h:(ws.map D.int)[i]?=some d):∃a,ws[i]?=some a/\d=.int a:=by
 rw[HM] at h
 cases e:ws[i]? with
 | none=>rw[e] at h;cases h
 | some n=>rw[e] at h;exact⟨n,rfl,(HR h).symm⟩
theorem Aq(hz:∃w∈ws,w≠0)(hb:∀w∈ws,ib w<=n):ib (gW ws)<=n:=by
 obtain⟨w,hw,hn⟩:=hz;exact d4 (mx hw) hn (hb w hw)
inductive jb(ds:Zi)(R:D->Prop):Prop
 | mk (ws:Ze) (hh:ds=[.lst (ws.map D.int)]/\ws.length<=60/\(∃w∈ws,w≠0)/\(∀w∈ws,ib w<=8000)/\R (.tup ((shW ws).map D.int)))
theorem jw:∀ds R,jb ds R->ds.length=1:=λ_ _ ⟨_,e,_⟩=>by rw[e];rfl
theorem cK:ax ["weights","divisor","weight"] ["weights"] (ak s_shortened):=by walk_at "sc"
theorem lH(Z:Zz):Z.C 2 "shortened" ["weights"] (Hg Z.K jb):=by
 refine cS Z.x23 cK jw λfa cdv A outer s H E ds R hr h=>?_;have hU:=hr.units;refine⟨_,(ae (aB 1 cK.nd am) (ae (bD Ih rfl (ap 0) (aw 2 cK.nd) (ag (aB 1 cK.nd (au (cG Z) (rm hr) rfl (ac (ap 1) (ac (ap 2) af)))))) (ag (aA (dH lI rfl Z.x52 jA (ac (bZ ["weight"] [(1,"divisor")] rfl rfl (by decide +kernel) rfl (by decide +kernel) (bV ⟨rfl,trivial⟩) (λ_=>cj rfl) (a7 ⟨⟨rfl,rfl,.inl rfl⟩,trivial⟩) (eB (ap 0)) λ_ _ _ _ _=>⟨(aw 0 (show List.Nodup (["weight","divisor"]:Zb) by decide +kernel)),fH,(aC cO (ap 0) (ap 1))⟩) af)))))),?_⟩;obtain⟨ws,rfl,hl,hz,hb,q⟩:=h;walk_at "";simp only[lQ];walk_at "";refine⟨λi δ=>∃x,δ=[.dat (.lst (ws.map D.int)),.dat (.int ((ws.take i).foldl gc 0)),x],⟨_,rfl⟩,?_,?_⟩
 ·rintro i d δ hd ⟨x,rfl⟩;obtain⟨a,ha,rfl⟩:=xw hd;walk_at "";refine⟨_,_,rfl,?_⟩;walk_at "";rw[aI ha,Ku];rfl
 ·rintro δ ⟨x,rfl⟩;rw[Hv,Ik];walk_at "";have g:=mJ hz;refine⟨by rw[Hv];omega,λd=>match d with | .int a=>some (.int (a.fdiv (gW ws))) | _=>none,λx hx=>?_,?_⟩
  ·obtain⟨a,_,rfl⟩:=HA.mp hx;walk_at "";exact⟨⟨by show gW ws≠0;omega,nZ (Aq hz hb) (HD _)⟩,rfl⟩
  ·rw[aP _ D.int (λa=>D.int (a.fdiv (gW ws))) _ λk _=>rfl];unfold shW at q;rw[IX] at q;exact q
theorem rD{w:Ze}:smD nm rows w=.tup [rwD (Ht nm rows w),.tup (w.map D.int)]:=rfl
theorem gv(H:G7 nm rows)(w:Ze):((Ht nm rows w).2.1.map (·.1)).Nodup:=(H.smT w).nd
theorem xE{l h:Ze}:sS (l.map D.int) (h.map D.int)=(l.zip h).map λp=>D.tup [.int p.1,.int p.2]:=by
 unfold sS;rw[List.zipWith_map,List.zip,KC]
inductive mQ(ds:Zi)(R:D->Prop):Prop
 | mk (nm:Zb) (rows:List Rw) (n:Str) (l h:Ze) (hh:ds=[smD nm rows l,smD nm rows h,.str n]/\G7 nm rows/\rows.length<=60/\Wt rows.length l/\Wt rows.length h/\0<cfs (rows.zip l) n/\cfs (rows.zip h) n<0 /\
 ib (cfs (rows.zip l) n)<=8000/\ib (cfs (rows.zip h) n)<=8000/\(∀a∈l,ib a<=8000)/\(∀a∈h,ib a<=8000)/\(∀a∈crS rows n l h,ib a<=8000)/\R (.tup ((crW rows n l h).map D.int)))
theorem kZ:∀ds R,mQ ds R->ds.length=3:=λ_ _ ⟨_,_,_,_,_,e,_⟩=>by rw[e];rfl
theorem fW:ax ["low","high","name","low_times","high_times"] ["low","high","name"] (ak s_crossed):=by walk_at "sc"
theorem pD(Z:Zz):Z.C 3 "crossed" ["low","high","name"] (Hg Z.K mQ):=by
 refine cS Z.x24 fW kZ λfa cdv A outer s H E ds R hr h=>?_;have hU:=hr.units;refine⟨_,(ae (aB 3 fW.nd (dE dD (au (aZ Z) (rm hr) rfl (ac (ap 2) (ac (G1 1) af))))) (ae (aB 4 fW.nd (au (aZ Z) (rm hr) rfl (ac (ap 2) (ac (G1 0) af)))) (ag (aA (au (lH Z) (rm hr) rfl (ac (bZ ["one","other"] [(3,"low_times"),(4,"high_times")] rfl rfl (by decide +kernel) rfl (by decide +kernel) (bV ⟨rfl,rfl,trivial⟩) (λ_=>cj rfl) (a7 ⟨⟨rfl,rfl,.inl rfl⟩,⟨rfl,rfl,.inl rfl⟩,trivial⟩) (tL false false rfl Z.x55 (ac (G1 0) (ac (G1 1) af))) λ_ _ _ _ _=>⟨(dk (n:=2) rfl (aH (aw 0 (show List.Nodup (["one","other","low_times","high_times"]:Zb) by decide +kernel)) (aH (aw 1 (show List.Nodup (["one","other","low_times","high_times"]:Zb) by decide +kernel)) bC))),fH,(aC aO (aC bT (ap 0) (ap 2)) (aC bT (ap 1) (ap 3)))⟩) af)))))),?_⟩;obtain⟨nm,rows,n,l,h,rfl,H,hm,wl,wh,cl,ch,b1,b2,b3,b4,b5,q⟩:=h;simp only[rD];walk_at "";refine⟨n,Ht nm rows h,rfl,gv H h,?_⟩;walk_at "";refine⟨n,Ht nm rows l,rfl,gv H l,?_⟩;walk_at "";rw[cH H,cH H,xE];have ll:=wl.len;have lh:=wh.len;refine⟨by rw[Hv,Jy];omega,λd=>match d with | .tup [.int a,.int b]=>some (.int (a * -(cfs (rows.zip h) n)+b*cfs (rows.zip l) n)) | _=>none,λx hx=>?_,?_⟩
 ·obtain⟨⟨a,b⟩,hp,rfl⟩:=HA.mp hx;walk_at "";exact⟨mo2 (b3 a (IN hp).1) (JT b2),mo2 (b4 b (IN hp).2) b1⟩
 ·obtain⟨_,nz⟩:=jg wl wh cl ch;refine⟨crS rows n l h,?_,by rw[nW ll lh];omega,nz,b5,q⟩;rw[aP _ (λp:Int×Int=>D.tup [.int p.1,.int p.2]) (λp=>D.int (p.1 * -(cfs (rows.zip h) n)+p.2*cfs (rows.zip l) n)) _ λk _=>rfl];unfold crS;rw[KC,show l.zip h=List.zipWith Prod.mk l h from rfl,KC]
def tU:D->Ze
 | .tup [_,.tup xs]=>xs.map λx=>match x with | .int a=>a | _=>0
 | _=>[]
theorem pM{w:Ze}:tU (smD nm rows w)=w:=by
 show (w.map D.int).map _=w
 rw[IX];exact List.map_id _
theorem dG(p:List Int->Bool):∀W:List (List Int),(W.map (smD nm rows)).filterMap (λd=>if p (tU d)=true then some d else none)=(W.filter p).map (smD nm rows)
 | []=>rfl
 | w::W=>by
  rw[Im,Jc,pM]
  by_cases h:p w=true
  ·rw[HU h,ID h,dG p W];rfl
  ·rw[HQ h,Ii h,dG p W]
theorem uK{W:List (List Int)}{i:Nat}(h:(W.map (smD nm rows))[i]?=some d):∃w,W[i]?=some w/\d=smD nm rows w:=by
 rw[HM] at h
 cases e:W[i]? with
 | none=>rw[e] at h;cases h
 | some n=>rw[e] at h;exact⟨n,rfl,(HR h).symm⟩
theorem Cf(u:Ze):((u.map D.int).filterMap (λd=>match d with | .int a=>if 0<a then some (D.int a) else none | _=>none)).length=usd u:=by
 unfold usd
 induction u with
 | nil=>rfl
 | cons a u ih =>
  rw[Im,Jc];simp only
  by_cases h:0<a
  ·rw[HU h,ID (by simpa using h),HJ,HJ,ih]
  ·rw[HQ h,Ii (by simpa using h),ih]
structure yw(nm:Zb)(rows:List Rw)(B k:Nat)(W:List (List Int)):Prop where
 H:G7 nm rows
 hB:RwB B rows
 m6:rows.length<=60
 n6:nm.length<=60
 wt:∀w∈W,Wt rows.length w
 bits:∀w∈W,∀a∈w,ib a<=wb B rows.length k
 fit:cb B rows.length k<=8000/\wb B rows.length (k+1)<=8000
theorem yw.w8{W:List (List Int)}(S:yw nm rows B k W){w:List Int}(hw:w∈W):∀a∈w,ib a<=8000:=λa ha=>by
 have:=S.bits w hw a ha
 have:=S.fit.1
 unfold cb at this;omega
theorem yw.c8{rows:List Rw}{W:List (List Int)}(S:yw nm rows B k W){w:List Int}(hw:w∈W)(n:Str):ib (cfs (rows.zip w) n)<=8000:=Hz (S.H.cfb S.hB (S.bits w hw) n) S.fit.1
theorem yw.rw{W:List (List Int)}(S:yw nm rows B k W):∀r∈rows,RwOk nm 60000000 r:=λr hr=>by
 have h8:B<=8000:=by have:=S.fit.1;unfold cb at this;omega
 exact⟨S.H.sub r hr,λt ht=>Hz (S.hB.tm r hr t ht) (by omega),Hz (S.hB.bd r hr) (by omega)⟩
inductive my(ds:Zi)(R:D->Prop):Prop
 | mk (nm:Zb) (rows:List Rw) (n:Str) (W:List (List Int)) (most B k c:Nat) (hh:ds=[.lst (rows.map rwD),.lst (W.map (smD nm rows)),.str n,.int (most:Nat)]/\yw nm rows B k W/\W.length<=c/\4<=c/\c*c / 4<9000/\R (.lst ((woW rows n most W).map (smD nm rows))))
theorem kM:∀ds R,my ds R->ds.length=4:=λ_ _ ⟨_,_,_,_,_,_,_,_,e,_⟩=>by rw[e];rfl
theorem b6:ax ["rows","sums","name","most","told","lows","highs","low","high","weights"] ["rows","sums","name","most"] (ak s_without):=by walk_at "sc"
theorem nQ(Z:Zz):Z.C 4 "without" ["rows","sums","name","most"] (Hg Z.K my):=by
 refine cS Z.x25 b6 kM λfa cdv A outer s H E ds R hr h=>?_;have hU:=hr.units;refine⟨_,(ae (wJ 4 b6.nd ["held"] [(2,"name")] rfl rfl (by decide +kernel) rfl (by decide +kernel) (bV ⟨rfl,trivial⟩) (λ_=>cj rfl) (a7 ⟨⟨rfl,rfl,.inl rfl⟩,trivial⟩) (eB (ap 1)) λ_ _ _ _ _=>⟨(aw 0 (show List.Nodup (["held","name"]:Zb) by decide +kernel)),(gj (aD (eP hU) (au (aZ Z) (rm hr) rfl (ac (ap 1) (ac (G1 0) af))) am (ay _))),(ap 0)⟩) (ae (kq 5 b6.nd ["held"] [(2,"name")] rfl rfl (by decide +kernel) rfl (by decide +kernel) (bV ⟨rfl,trivial⟩) (λ_=>cj rfl) (a7 ⟨⟨rfl,rfl,.inl rfl⟩,trivial⟩) (eB (ap 1)) λ_ _ _ _ _=>⟨(aw 0 (show List.Nodup (["held","name"]:Zb) by decide +kernel)),(gj (aD sO (au (aZ Z) (rm hr) rfl (ac (ap 1) (ac (G1 0) af))) am (ay _))),(ap 0)⟩) (ae (kq 6 b6.nd ["held"] [(2,"name")] rfl rfl (by decide +kernel) rfl (by decide +kernel) (bV ⟨rfl,trivial⟩) (λ_=>cj rfl) (a7 ⟨⟨rfl,rfl,.inl rfl⟩,trivial⟩) (eB (ap 1)) λ_ _ _ _ _=>⟨(aw 0 (show List.Nodup (["held","name"]:Zb) by decide +kernel)),(gj (aD sQ (au (aZ Z) (rm hr) rfl (ac (ap 1) (ac (G1 0) af))) am (ay _))),(ap 0)⟩) (ae (bD Ih rfl (ap 5) (aw 7 b6.nd) (ag (bD Ih rfl (ap 6) (aw 8 b6.nd) (ae (aB 9 b6.nd (au (pD Z) (rm hr) rfl (ac (ap 7) (ac (ap 8) (ac (ap 2) af))))) (ag (aK (aD o_le (aN lC rfl Z.x53 fP (ac (bZ ["often"] [] rfl rfl (by decide +kernel) rfl (by decide +kernel) (bV trivial) (λ_=>cj rfl) (a7 trivial) (ua (ap 9)) λ_ _ _ _ _=>⟨(aw 0 (show List.Nodup (["often"]:Zb) by decide +kernel)),(gj (aD sO (ap 0) am (ay _))),(ap 0)⟩) af)) (ap 3) (ay _)) (ag (bH 4 (bf (ac (au (vL Z) (rm hr) rfl (ac (ap 0) (ac (ap 9) af))) (ac (ap 9) af))))) aE)))))) (ag (lr 4)))))),?_⟩
 obtain⟨nm,rows,n,W,most,B,k,c,rfl,S,hc,h4,ai,q⟩:=h;have c9:c<9000:=by
  have:c<=c*c / 4:=(KA (by decide)).mpr (Ke c h4)
  omega
 have ah:=dG (nm:=nm) (rows:=rows) (λw=>decide (cfs (rows.zip w) n=0)) W
 have aa:=dG (nm:=nm) (rows:=rows) (λw=>decide (0<cfs (rows.zip w) n)) W
 have ab:=dG (nm:=nm) (rows:=rows) (λw=>decide (cfs (rows.zip w) n<0)) W
 refine ar λK1 hK1=>?_;walk_at "";refine⟨by rw[Hv];omega,λd=>if decide (cfs (rows.zip (tU d)) n=0)=true then some d else none,λx hx=>?_,?_⟩
 ·obtain⟨w,hw,rfl⟩:=HA.mp hx;simp only[pM];simp only[rD];walk_at "";refine⟨n,Ht nm rows w,rfl,gv S.H w,?_⟩;rw[cH S.H];walk_at "";refine cR (λe=>?_) λe=>?_
  ·rw[HU e]
  ·rw[HQ e]
 ·rw[ah];intro ta;rw[hK1];refine ar λK2 hK2=>?_;walk_at "";refine⟨by rw[Hv];omega,λd=>if decide (0<cfs (rows.zip (tU d)) n)=true then some d else none,λx hx=>?_,?_⟩
  ·obtain⟨w,hw,rfl⟩:=HA.mp hx;simp only[pM];simp only[rD];walk_at "";refine⟨n,Ht nm rows w,rfl,gv S.H w,?_⟩;rw[cH S.H];walk_at "";refine cR (λe=>?_) λe=>?_
   ·rw[HU e]
   ·rw[HQ e]
  ·rw[aa,hK2];refine ar λK3 hK3=>?_;walk_at "";refine⟨by rw[Hv];omega,λd=>if decide (cfs (rows.zip (tU d)) n<0)=true then some d else none,λx hx=>?_,?_⟩
   ·obtain⟨w,hw,rfl⟩:=HA.mp hx;simp only[pM];simp only[rD];walk_at "";refine⟨n,Ht nm rows w,rfl,gv S.H w,?_⟩;rw[cH S.H];walk_at "";refine cR (λe=>?_) λe=>?_
    ·rw[HU e]
    ·rw[HQ e]
   ·rw[ab,hK3];clear ah aa ab;have c3:=cnt3 (rows:=rows) (n:=n) W;unfold woW at q;have hL:∀l∈W.filter (λw=>decide (0<cfs (rows.zip w) n)),l∈W/\0<cfs (rows.zip l) n:=λl hl=>⟨(HH.mp hl).1,by simpa using (HH.mp hl).2⟩;have hR:∀l∈W.filter (λw=>decide (cfs (rows.zip w) n<0)),l∈W/\cfs (rows.zip l) n<0:=λl hl=>⟨(HH.mp hl).1,by simpa using (HH.mp hl).2⟩;generalize W.filter (λw=>decide (cfs (rows.zip w) n=0))=Z at *;generalize W.filter (λw=>decide (0<cfs (rows.zip w) n))=Ls at *;generalize W.filter (λw=>decide (cfs (rows.zip w) n<0))=Rs at *;have zb:Z.length+Ls.length*Rs.length<9000:=Nat.lt_of_le_of_lt (zab (by omega) h4) ai;refine ar λK4 hK4=>?_;refine db λF N hF hN=>?_;walk_at "";simp only[lY];walk_at "";refine⟨λi δ=>∃x y z,δ=[.dat (.lst (rows.map rwD)),.dat (.lst (W.map (smD nm rows))),.dat (.str n),.dat (.int (most:Nat)),.own ta (.lst ((Z++(Ls.take i).flatMap λl=>(Rs.map (crW rows n l)).filter λu=>decide (usd u<=most)).map (smD nm rows))),.dat (.lst (Ls.map (smD nm rows))),.dat (.lst (Rs.map (smD nm rows))),x,y,z],⟨_,_,_,by rw[Kv,List.flatMap_nil,IE]⟩,?_,?_⟩
    ·rintro i d δ hd ⟨x,y,z,rfl⟩;obtain⟨l,hl,rfl⟩:=uK hd;obtain⟨lW,cl⟩:=hL l (HY hl);have aj:i<Ls.length:=(HL.mp hl).1;rw[hF];walk_at "";refine db λF2 N2 hF2 hN2=>?_;walk_at "";simp only[lY];walk_at "";refine⟨λj δ=>∃y z,δ=[.dat (.lst (rows.map rwD)),.dat (.lst (W.map (smD nm rows))),.dat (.str n),.dat (.int (most:Nat)),.own ta (.lst ((Z++(Ls.take i).flatMap (λl=>(Rs.map (crW rows n l)).filter λu=>decide (usd u<=most))++((Rs.take j).map (crW rows n l)).filter λu=>decide (usd u<=most)).map (smD nm rows))),.dat (.lst (Ls.map (smD nm rows))),.dat (.lst (Rs.map (smD nm rows))),.dat (smD nm rows l),y,z],⟨_,_,by rw[Kv,Kf,List.filter_nil,IE]⟩,?_,?_⟩
     ·rintro j d δ hd ⟨y,z,rfl⟩;obtain⟨h,hh,rfl⟩:=uK hd;obtain⟨hW,ch⟩:=hR h (HY hh);have ao:j<Rs.length:=(HL.mp hh).1;rw[hF2];show e7 _ _ _ _;refine d7 λK5 hK5=>?_;walk_at "";refine⟨nm,rows,n,l,h,rfl,S.H,S.m6,S.wt l lW,S.wt h hW,cl,ch,S.c8 lW n,S.c8 hW n,S.w8 lW,S.w8 hW,λa ha=>Hz (gS S.H S.hB (S.bits l lW) (S.bits h hW) a ha) S.fit.2,?_⟩;walk_at "";rw[hK5];have ww:=pQ (S.wt l lW) (S.wt h hW) cl ch;have al:∀a∈crW rows n l h,ib a<=60000000:=λa ha=>by
       obtain⟨b,an,rfl⟩:=HA.mp ha;exact Iz (Hz (gS S.H S.hB (S.bits l lW) (S.bits h hW) b an) (Hz S.fit.2 (by decide)))
      have tk:(((Rs.take (j+1)).map (crW rows n l)).filter λu=>decide (usd u<=most))=(((Rs.take j).map (crW rows n l)).filter λu=>decide (usd u<=most))++if usd (crW rows n l h)<=most then [crW rows n l h] else []:=by
       rw[aI hh,HS,List.filter_append]
       congr 1
       by_cases e:usd (crW rows n l h)<=most
       ·rw[HU e];simp[e]
       ·rw[HQ e];simp[e]
      simp only[tk];generalize crW rows n l h=u at *;walk_at "";refine⟨by rw[Hv,ww.len];have:=S.m6;omega,λd=>match d with | .int a=>if 0<a then some (.int a) else none | _=>none,λx hx=>?_,?_⟩
      ·obtain⟨a,_,rfl⟩:=HA.mp hx;walk_at "";refine cR (λe=>?_) λe=>?_
       ·rw[HU e]
       ·rw[HQ e]
      ·rw[Cf];refine cR (λe=>?_) λe=>?_
       ·have e:usd u<=most:=by omega
        rw[HU e];refine⟨rows,u,nm,rfl,S.n6,S.rw,al,λts hts=>?_⟩;have:=hts.uniq (S.H.smT u);subst this;walk_at "";refine⟨?_,?_⟩
        ·rw[Hv,HC,HC];have f1:=gT (rows:=rows) (n:=n) (most:=most) Rs (Ls.take i);have f2:=IJ (λu=>decide (usd u<=most)) ((Rs.take j).map (crW rows n l));rw[Hv,IK] at f2;rw[IK,show min i Ls.length=i by omega] at f1;have f3:=J8 Rs.length (show i+1<=Ls.length from aj);rw[Nat.succ_mul] at f3;omega
        ·rw[<- J5,HS (l₂:=[u])];rfl
       ·have e:¬ usd u<=most:=by omega
        rw[HQ e,IE]
     ·rintro δ ⟨y,z,rfl⟩;rw[Hv,Ik,hN2];walk_at "";rw[aI hl,List.flatMap_append,<- J5];simp only[List.flatMap_cons,List.flatMap_nil,List.append_nil]
      try exact⟨_,_,_,rfl⟩
    ·rintro δ ⟨x,y,z,rfl⟩;rw[Hv,Ik,hN,hK4];walk_at "";exact q
def sI(rows:List Rw):Zb->List (List (List Int))
 | []=>[G8 rows []]
 | n::ns=>G8 rows (n::ns)::sI rows ns
def kg(nm:Zb)(rows:List Rw)(W:List (List Int)):D:=.lst (W.map (smD nm rows))
theorem fE:∀ns:Zb,(sI rows ns).length=ns.length+1
 | []=>rfl
 | n::ns=>by show (sI rows ns).length+1=_;rw[fE ns];rfl
theorem qg:∀(ns:Zb) (j:Nat),j<=ns.length->(sI rows ns)[j]?=some (G8 rows (ns.drop j))
 | [],0,_=>rfl
 | n::ns,0,_=>rfl
 | n::ns,j+1,h=>qg ns j (by simpa using h)
theorem CN(h1:B<=B')(h2:m<=m'):∀k,wb B m k<=wb B' m' k
 | 0=>HD 1
 | k+1=>by have:=CN h1 h2 k;show 2*wb B m k+B+m+1<=2*wb B' m' k+B'+m'+1;omega
theorem Bz:∀ {b:Nat},a<=b->wb B m a<=wb B m b
 | 0,h=>by rw[Nat.le_zero.mp h];exact HD _
 | b+1,h=>by
  by_cases e:a=b+1
  ·rw[e];exact HD _
  ·exact Hz (Bz (b:=b) (by omega)) o7
structure Fit(nm:Zb)(rows:List Rw)(B:Nat):Prop where
 H:G7 nm rows
 hB:RwB B rows
 m3:rows.length<=3
 n6:nm.length<=60
 b2:B<=200
theorem Fit.wk(F:Fit nm rows B)(h:k<=3):wb B rows.length k<=wb 200 3 k:=CN F.b2 F.m3 k
theorem Fit.lv(F:Fit nm rows B)(ns:Zb):∃lv,(G8 rows ns).length+lv<=3/\∀w∈G8 rows ns,∀a∈w,ib a<=wb B rows.length lv:=tN F.H F.hB F.m3 ns
theorem Fit.len(F:Fit nm rows B)(ns:Zb):(G8 rows ns).length<=3:=by
 obtain⟨lv,h,_⟩:=F.lv ns;omega
theorem Fit.bits{nm:Zb}{rows:List Rw}{B:Nat}(F:Fit nm rows B){ns:Zb}{w:Ze}(hw:w∈G8 rows ns):∀a∈w,ib a<=wb B rows.length 2:=λa ha=>by
 obtain⟨lv,h,hb⟩:=F.lv ns;have:=JV hw;exact Hz (hb w hw a ha) (Bz (by omega))
theorem Fit.bits1{nm:Zb}{rows:List Rw}{B:Nat}(F:Fit nm rows B){ns:Zb}(h2:2<=(G8 rows ns).length){w:Ze}(hw:w∈G8 rows ns):∀a∈w,ib a<=wb B rows.length 1:=λa ha=>by
 obtain⟨lv,h,hb⟩:=F.lv ns;exact Hz (hb w hw a ha) (Bz (by omega))
theorem Fit.c2(F:Fit nm rows B):cb B rows.length 2<=819:=by
 have h1:=F.wk (k:=2) (by decide)
 have h2:wb 200 3 2=616:=rfl
 have:=F.b2
 have:=F.m3
 unfold cb;omega
theorem Fit.c1(F:Fit nm rows B):cb B rows.length 1<=409:=by
 have h1:=F.wk (k:=1) (by decide)
 have h2:wb 200 3 1=206:=rfl
 have:=F.b2
 have:=F.m3
 unfold cb;omega
theorem Fit.sums(F:Fit nm rows B)(ns:Zb):yw nm rows B 2 (G8 rows ns):=by
 have h1:=F.wk (k:=3) (by decide)
 have h2:wb 200 3 3=1436:=rfl
 have h3:=F.c2
 have:=F.m3
 exact⟨F.H,F.hB,by omega,F.n6,λw hw=>(cu hw).1,λw hw=>F.bits hw,by omega,by show wb B rows.length 3<=8000;omega⟩
inductive iF(ds:Zi)(R:D->Prop):Prop
 | mk (nm:Zb) (rows:List Rw) (B:Nat) (ns:Zb) (hh:ds=[.lst (rows.map rwD),.lst (ns.map D.str)]/\Fit nm rows B/\ns.length<=60/\R (.lst ((sI rows ns).map (kg nm rows))))
theorem i8:∀ds R,iF ds R->ds.length=2:=λ_ _ ⟨_,_,_,_,e,_⟩=>by rw[e];rfl
theorem AF{ns:Zb}{i:Nat}(h:(ns.map D.str).reverse[i]?=some d):∃n,d=.str n/\i<ns.length/\ns.drop (ns.length-(i+1))=n::ns.drop (ns.length-i):=by
 have hi:i<ns.length:=by
  have:=(HL.mp h).1
  simpa using this
 rw[List.getElem?_reverse (by simpa using hi),Hv,HM] at h;have e:ns.length-(i+1)<ns.length:=by omega
 have e1:ns.length-1-i=ns.length-(i+1):=by omega
 rw[e1,Iv e] at h;refine⟨ns[ns.length-(i+1)],(HR h).symm,hi,?_⟩;rw[JG e]
 congr 2
 omega
theorem b8:ax ["rows","names","sums","told","name"] ["rows","names"] (ak s_taken_out):=by walk_at "sc"
theorem eY(Z:Zz):Z.C 5 "taken_out" ["rows","names"] (Hg Z.K iF):=by
 refine cS Z.x26 b8 i8 λfa cdv A outer s H E ds R hr h=>?_;have hU:=hr.units;refine⟨_,(ae (aB 2 b8.nd (au (tY Z) (rm hr) rfl (ac (ap 0) af))) (ae (dJ 3 b8.nd (ac (ap 2) af)) (ae (mi Ih rfl (El rfl Z.x58 (ac (ap 1) af)) (aw 4 b8.nd) (ae (aB 2 b8.nd (au (nQ Z) (rm hr) rfl (ac (ap 0) (ac (ap 2) (ac (ap 4) (ac (aC aO (lu 3 rfl Z.x53 fP) am) af)))))) (ag (wM 3 (ap 2))))) (ag (lr 3))))),?_⟩;obtain⟨nm,rows,B,ns,rfl,F,h4,q⟩:=h;walk_at "";refine⟨rows,nm,rfl,F.H,by have:=F.m3;omega,?_⟩;walk_at "";intro ta;refine jz λFb N hF hN=>?_;walk_at "";simp only[sr];walk_at "";refine⟨λi δ=>∃x,δ=[.dat (.lst (rows.map rwD)),.dat (.lst (ns.map D.str)),.dat (kg nm rows (G8 rows (ns.drop (ns.length-i)))),.own ta (.lst ((sI rows (ns.drop (ns.length-i))).map (kg nm rows))),x],⟨_,by rw[Nat.sub_zero,List.drop_length];rfl⟩,?_,?_⟩
 ·rintro i d δ hd ⟨x,rfl⟩;obtain⟨n,rfl,hi,aa⟩:=AF hd;simp only[aa];have hl:(ns.drop (ns.length-i)).length=i:=by rw[JR];omega
  generalize ns.drop (ns.length-i)=l at *
  rw[hF];show e7 _ _ _ _;refine d7 λK1 hK1=>?_;walk_at "";refine⟨nm,rows,n,G8 rows l,l.length+2,B,2,4,?_,F.sums l,Jx (F.len l),by decide,by decide,?_⟩
  ·rw[Hv,fE];show [_,kg nm rows (G8 rows l),_,_]=_;unfold kg
   congr 4
  ·walk_at "";rw[hK1];walk_at "";refine⟨by rw[Hv,fE];omega,rfl,rfl⟩
 ·rintro δ ⟨x,rfl⟩;rw[Kb,Hv,Nat.sub_self,hN];walk_at "";exact q
inductive f8(ds:Zi)(R:D->Prop):Prop
 | mk (n:Str) (r:Rw) (ks:Zb) (ps:Za) (c κ T:Nat) (hh:ds=[.str n,rwD r,.dct ks (ps.map Hk)]/\(r.2.1.map (·.1)).Nodup/\ks.length<=60/\(∀t∈r.2.1,t.1≠n->t.1∈ks)/\cf r.2.1 n≠0/\Pt ks ps T/\T<=1000000/\ib (bot (pB ks ps) ks)<=κ/\c+κ<=7990 /\
 ib (cf r.2.1 n)<=c/\(∀t∈r.2.1,ib t.2<=c)/\ib r.2.2<=c/\R (Hk (bnd ks ps n r)))
theorem jQ:∀ds R,f8 ds R->ds.length=3:=λ_ _ ⟨_,_,_,_,_,_,_,e,_⟩=>by rw[e];rfl
theorem iM(p:Str×Int->Bool)(g:D->Option D)(h1:∀t,p t=true->g (tmD t)=some (tmD t))(h2:∀t,p t=false->g (tmD t)=none):∀ts:List (Str×Int),(ts.map tmD).filterMap g=(ts.filter p).map tmD
 | []=>rfl
 | t::ts=>by
  rw[Im,Jc]
  cases e:p t with
  | true=>rw[h1 t e,ID e,iM p g h1 h2 ts];rfl
  | false=>rw[h2 t e,Ii (by rw[e];decide),iM p g h1 h2 ts]
theorem eF:ax ["name","row","point","others","known"] ["name","row","point"] (ak s_bound_on):=by walk_at "sc"
theorem gf(Z:Zz):Z.C 3 "bound_on" ["name","row","point"] (Hg Z.K f8):=by
 refine cS Z.x27 eF jQ λfa cdv A outer s H E ds R hr h=>?_;have hU:=hr.units;refine⟨_,(ae (kq 3 eF.nd ["term"] [(0,"name")] rfl rfl (by decide +kernel) rfl (by decide +kernel) (bV ⟨rfl,trivial⟩) (λ_=>cj rfl) (a7 ⟨⟨rfl,rfl,.inl rfl⟩,trivial⟩) (ua (G1 1)) λ_ _ _ _ _=>⟨(aw 0 (show List.Nodup (["term","name"]:Zb) by decide +kernel)),(gj (aD (vD hU) (G1 0) (ap 1) (ay _))),(ap 0)⟩) (ae (aB 4 eF.nd (au (i7 Z) (rm hr) rfl (ac (bZ ["term"] [] rfl rfl (by decide +kernel) rfl (by decide +kernel) (bV trivial) (λ_=>cj rfl) (a7 trivial) (eB (ap 3)) λ_ _ _ _ _=>⟨(aw 0 (show List.Nodup (["term"]:Zb) by decide +kernel)),fH,(G1 0)⟩) (ac (ap 2) af)))) (ag (aA (au (fM Z) (rm hr) rfl (ac (aC AX (aC bT (G1 1) (G1 4)) (au (eo Z) (rm hr) rfl (ac (ap 3) (ac (G1 4) af)))) (ac (aC bT (au (aZ Z) (rm hr) rfl (ac (ap 0) (ac (ap 1) af))) (G1 4)) af))))))),?_⟩;obtain⟨n,⟨k,ts,b⟩,ks,ps,c,κ,T,rfl,nd,hk,hp,hc,P,hT,hκ,ai,b1,b2,b3,q⟩:=h;simp only at nd hp hc b1 b2 b3 q;have lt:ts.length<=61:=by
  have h1:(ts.map (·.1)).length<=(n::ks).length:=jM nd λx hx=>by
   obtain⟨t,ht,rfl⟩:=HA.mp hx
   by_cases e:t.1=n
   ·exact HK.mpr (.inl e)
   ·exact Hx _ (hp t ht e)
  rw[Hv,HJ] at h1;omega
 unfold rwD lc;refine ar λK1 hK1=>?_;walk_at "";refine⟨by rw[Hv];omega,λd=>match d with | .tup [.str x,w]=>if x≠n then some (.tup [.str x,w]) else none | _=>none,λx hx=>?_,?_⟩
 ·obtain⟨t,_,rfl⟩:=HA.mp hx;unfold tmD;walk_at "";refine cR (λe=>?_) λe=>?_
  ·simp[e]
  ·simp[e]
 ·rw[iM (λt=>decide (t.1≠n)) _ (λt ht=>by unfold tmD;simp only;rw[HU (by simpa using ht)]) (λt ht=>by unfold tmD;simp only;rw[HQ (by simpa using ht)])];unfold bnd at q;simp only at q;have ho:∀t∈ts.filter (λt=>decide (t.1≠n)),t.1∈ks/\ib t.2<=c:=λt ht=>by
   obtain⟨h1,h2⟩:=HH.mp ht;exact⟨hp t h1 (by simpa using h2),b2 t h1⟩
  have ab:((ts.filter (λt=>decide (t.1≠n))).map (·.1)).Nodup:=nd.sublist (List.filter_sublist.map _)
  have ah:=IJ (λt:Str×Int=>decide (t.1≠n)) ts
  generalize ts.filter (λt=>decide (t.1≠n))=o at *
  have aa:∀x∈o.map (·.1),x∈ks:=λx hx=>by
   obtain⟨t,ht,rfl⟩:=HA.mp hx;exact(ho t ht).1
  have pos:∀x∈ks,0<pB ks ps x:=λx hx=>P.pos hx
  have bK:=qR ab aa pos hκ
  have pK:=c4 (q:=pB ks ps) (l:=o.map (·.1)) λx hx=>pos x (aa x hx)
  rw[hK1];walk_at "";refine⟨by rw[Hv];omega,λd=>match d with | .tup (x::_)=>some x | _=>none,λx hx=>?_,?_⟩
  ·obtain⟨t,_,rfl⟩:=HA.mp hx;unfold tmD;walk_at ""
  ·refine⟨o.map (·.1),ks,ps,T,κ,?_,ab,?_,aa,P,hT,hκ,by omega,?_⟩
   ·rw[aP _ tmD (λt=>D.str t.1) _ (by intro _ _;rfl),IX];rfl
   ·have:=jM ab aa
    omega
   ·walk_at "";refine⟨mo2 b3 bK (by omega),true,o,_,_,_,rfl,λt ht=>⟨dW (λx=>D.int (ov (pT ks ps) (pB ks ps) (bot (pB ks ps) (o.map (·.1))) x)) (HA.mpr ⟨t,ht,rfl⟩),Hz (ho t ht).2 (by omega),Hz (Ip (P.Tb (ho t ht).1) (Iz bK)) (by omega)⟩,?_⟩;walk_at "";refine⟨n,(k,ts,b),rfl,nd,?_⟩;walk_at "";refine⟨mo2 b1 bK (by omega),_,_,rfl,IP hc (by omega),Hz (Ip b1 bK) (by omega),?_⟩;exact q
def oD:Option (Int×Int)->D
 | none=>.non
 | some p=>Hk p
def qq(e:Hb):D:=.tup [oD e.1,.bl e.2]
inductive mO(ds:Zi)(R:D->Prop):Prop
 | mk (a b:Hb) (lo:Bool) (hh:ds=[qq a,qq b,.bl lo]/\(∀p,a.1=some p->ib p.1<=1000000/\ib p.2<=8000)/\(∀p,b.1=some p->ib p.1<=1000000/\ib p.2<=8000)/\R (qq (tgt lo a b)))
theorem lF:∀ds R,mO ds R->ds.length=3:=λ_ _ ⟨_,_,_,e,_⟩=>by rw[e];rfl
theorem sE:ax ["one","other","is_low"] ["one","other","is_low"] (ak s_tighter):=by walk_at "sc"
theorem iS(Z:Zz):Z.C 2 "tighter" ["one","other","is_low"] (Hg Z.K mO):=by
 refine cS Z.x28 sE lF λfa cdv A outer s H E ds R hr h=>?_;have hU:=hr.units;refine⟨_,(ae (aK (aD vb (G1 0) cm (ay _)) (ag (aA (ap 1))) aE) (ae (aK (aD vb (G1 1) cm (ay _)) (ag (aA (ap 0))) aE) (ae (aK (aD (rY hU) (G1 0) (G1 1) (ay _)) (ag (aA (bf (ac (G1 0) (ac (gn (G1 0) (dm (G1 1))) af))))) aE) (ag (aA (sK (aD (rY hU) (au (g6 Z) (rm hr) rfl (ac (G1 1) (ac (G1 0) af))) (ap 2) (ay _)) (ap 0) (ap 1))))))),?_⟩;obtain⟨⟨a,ab⟩,⟨b,bb⟩,lo,rfl,ha,hb,q⟩:=h;unfold qq at q ⊢;refine ar λK1 h1=>?_
 cases a with
 | none =>
  unfold oD;walk_at "";exact q
 | some p =>
  rw[show oD (some p)=.tup [.int p.1,.int p.2] from rfl];walk_at "";rw[h1];refine ar λK2 h2=>?_
  cases b with
  | none =>
   unfold oD;walk_at "";exact q
  | some r =>
   obtain⟨p1,p2⟩:=ha p rfl;obtain⟨r1,r2⟩:=hb r rfl;unfold tgt at q;simp only at q;rw[show oD (some r)=.tup [.int r.1,.int r.2] from rfl];walk_at "";rw[h2];refine ar λK3 h3=>?_;walk_at "";refine cR (λe=>?_) λe=>?_
   ·have e:p=r:=Prod.ext (by simpa using Jf Prod.fst e) (by simpa using Jf Prod.snd e)
    rw[HU e] at q
    cases ab with
    | true=>exact ifp rfl q
    | false=>exact G0 HE q
   ·rw[HQ (λz=>e (by rw[z]))] at q;rw[h3];walk_at "";refine⟨r,p,rfl,Hz r1 (by decide),Hz p1 (by decide),r2,p2,?_⟩;walk_at "";refine cR (λe=>?_) λe=>?_
    ·rw[HU e] at q;exact q
    ·rw[HQ e] at q;exact q
inductive iK(ds:Zi)(R:D->Prop):Prop
 | mk (lo hi:Option (Int×Int)) (x y:Bool) (hh:ds=[.tup [oD lo,.bl x,oD hi,.bl y]]/\(∀p,lo=some p->p.2≠0/\ib p.1<=1000000/\ib p.2<=3990)/\(∀p,hi=some p->p.2≠0/\ib p.1<=1000000/\ib p.2<=3990)/\R (Hk (G9 lo hi)))
theorem jh:∀ds R,iK ds R->ds.length=1:=λ_ _ ⟨_,_,_,_,e,_⟩=>by rw[e];rfl
theorem cE:ax ["piece","low","high","whole"] ["piece"] (ak s_number_in):=by walk_at "sc"
theorem kY(Z:Zz):Z.C 4 "number_in" ["piece"] (Hg Z.K iK):=by
 refine cS Z.x29 cE jh λfa cdv A outer s H E ds R hr h=>?_;have hU:=hr.units;refine⟨_,(ae (aB 1 cE.nd (G1 0)) (ae (aB 2 cE.nd (G1 0)) (ae (aK (DW.dt (l7 (aD vb (ap 1) cm (ay _)) (iL (aD vb (ap 2) cm (ay _))))) (ag (aA (bf (ac am (ac am af))))) aE) (ae (aK (aD vb (ap 1) cm (ay _)) (ag (aA (au (fM Z) (rm hr) rfl (ac (aC AX (aC cO (G1 2) (G1 2)) am) (ac am af))))) aE) (ae (aB 3 cE.nd (au (fM Z) (rm hr) rfl (ac (aC aO (aC cO (G1 1) (G1 1)) am) (ac am af)))) (ae (aK (DW.dt (mM (aD vb (ap 2) cm (ay _)) (iA (bU (au (g6 Z) (rm hr) rfl (ac (ap 3) (ac (ap 2) af))))))) (ag (aA (ap 3))) aE) (ae (aK (aD (rY hU) (ap 1) (ap 2) (ay _)) (ag (aA (ap 1))) aE) (ag (aA (au (uj Z) (rm hr) rfl (ac (au (xz Z) (rm hr) rfl (ac (ap 1) (ac (ap 2) af))) (ac (bf (ac am (ac am af))) af)))))))))))),?_⟩;obtain⟨lo,hi,x,y,rfl,hl,hh,q⟩:=h;have m1:∀a:Int,ib (G5 a 1)<=1:=λa=>by rw[(kn a).2];decide
 refine ar λK1 hK1=>?_;walk_at "";rw[hK1];refine ar λK2 hK2=>?_;walk_at "";rw[hK2];refine ar λK3 hK3=>?_
 cases lo with
 | none =>
  cases hi with
  | none =>
   unfold oD;walk_at "";exact q
  | some h =>
   obtain⟨h0,h1,h2⟩:=hh h rfl;unfold oD Hk;walk_at "";rw[hK3];refine ar λK4 hK4=>?_;walk_at "";exact⟨⟨h0,nZ h2 (by decide)⟩,_,_,rfl,by decide,by decide,q⟩
 | some l =>
  obtain⟨l0,l1,l2⟩:=hl l rfl;have bt:ib (G2 (l.1.fdiv l.2+1) 1)<=1000000+1:=by
   rw[(kn _).1];have:=Jv (Iz (y:=l.2) l1) (show ib 1<=1 by decide);unfold ib;omega
  cases hi with
  | none =>
   unfold oD Hk;walk_at "";rw[hK3];refine ar λK4 hK4=>?_;walk_at "";rw[hK4];refine ar λK5 hK5=>?_;walk_at "";refine⟨⟨l0,nZ l2 (by decide)⟩,_,_,rfl,by decide,by decide,?_⟩;walk_at "";rw[hK5];refine ar λK6 hK6=>?_;walk_at "";exact q
  | some h =>
   obtain⟨h0,h1,h2⟩:=hh h rfl;unfold G9 at q;simp only at q;unfold oD Hk;walk_at "";rw[hK3];refine ar λK4 hK4=>?_;walk_at "";rw[hK4];refine ar λK5 hK5=>?_;walk_at "";refine⟨⟨l0,nZ l2 (by decide)⟩,_,_,rfl,by decide,by decide,?_⟩;walk_at "";rw[hK5];refine ar λK6 hK6=>?_;walk_at "";refine⟨(G2 (l.1.fdiv l.2+1) 1,G5 (l.1.fdiv l.2+1) 1),h,rfl,Hz bt (by decide),Hz h1 (by decide),Hz (m1 _) (by decide),Hz h2 (by decide),?_⟩;walk_at "";refine cR (λe=>?_) λe=>?_
   ·rw[HU e] at q;exact q
   ·rw[HQ e] at q;rw[hK6];refine ar λK7 hK7=>?_;walk_at "";refine cR (λe=>?_) λe=>?_
    ·have e:l=h:=Prod.ext (by simpa using Jf Prod.fst e) (by simpa using Jf Prod.snd e)
     rw[HU e] at q;exact q
    ·rw[HQ (λz=>e (by rw[z]))] at q;rw[hK7];walk_at "";refine⟨l,h,rfl,IP l0 h0,l1,h1,Hz l2 (by decide),Hz h2 (by decide),?_⟩;have sb:=Ip l2 h2;have st:=Jv (Ip l1 h2) (Ip h1 l2);have sl:=eC (l.1*h.2+h.1*l.2) (IP l0 h0);refine⟨(G2 (l.1*h.2+h.1*l.2) (l.2*h.2),G5 (l.1*h.2+h.1*l.2) (l.2*h.2)),(1,2),rfl,IP sl.ne (by decide),Hz (Iz st) (by decide),by decide,Hz (Iz sb) (by decide),by decide,?_⟩;exact q
theorem xA:(decide (kdS (kOf (Hh l))=("least":Str)):Bool)=!Hh l:=by cases Hh l<;>rfl
structure Pcs(nm:Zb)(rows:List Rw)(ks:Zb)(ps:Za)(n:Str)(W:List (List Int))(c κ g T:Nat)(L:Int):Prop where
 H:G7 nm rows
 k6:ks.length<=60
 nms:∀w∈W,∀t∈(Ht nm rows w).2.1,t.1≠n->t.1∈ks
 P:Pt ks ps T
 hT:c+T+κ+80<=1000000
 hκ:ib (bot (pB ks ps) ks)<=κ
 L0:L≠0
 hL:∀k∈ks,pB ks ps k ∣ L
 hg:ib L<=g
 gκ:g<=κ
 cg:c+g<=3990
 cκ:c+κ<=7990
 cb:∀w∈W,∀x,ib (cfs (rows.zip w) x)<=c
 bb:∀w∈W,ib (bds (rows.zip w))<=c
theorem Pcs.tb{W:List (List Int)}(h:Pcs nm rows ks ps n W c κ g T L){w:List Int}(hw:w∈W):∀t∈(Ht nm rows w).2.1,ib t.2<=c:=λt ht=>by
 rw[(og ht).2.2];exact h.cb w hw _
theorem Pcs.cnd{rows:List Rw}{W:List (List Int)}(h:Pcs nm rows ks ps n W c κ g T L){w:List Int}(hw:w∈W)(hc:cfs (rows.zip w) n≠0):mU L c g κ T (cnd nm rows ks ps n w).1 :=
 xc h.P h.hκ h.L0 h.hL h.hg (gv h.H w) h.k6 (h.nms w hw) (by rw[cH h.H];exact hc) (by rw[cH h.H];exact h.cb w hw n) (h.tb hw) (h.bb w hw)
inductive ik(ds:Zi)(R:D->Prop):Prop
 | mk (nm:Zb) (rows:List Rw) (ks:Zb) (ps:Za) (n:Str) (W:List (List Int)) (c κ g T:Nat) (L:Int) (hh:ds=[.str n,kg nm rows W,.dct ks (ps.map Hk)]/\Pcs nm rows ks ps n W c κ g T L /\
 R (.tup [oD (pcs nm rows ks ps n W).1.1,.bl (pcs nm rows ks ps n W).1.2,oD (pcs nm rows ks ps n W).2.1,.bl (pcs nm rows ks ps n W).2.2]))
theorem hZ:∀ds R,ik ds R->ds.length=3:=λ_ _ ⟨_,_,_,_,_,_,_,_,_,_,_,e,_⟩=>by rw[e];rfl
theorem rJ{rows:List Rw}{W:List (List Int)}{i:Nat}{w:List Int}(h:W[i]?=some w):pcs nm rows ks ps n (W.take (i+1)) =
    (if 0<cfs (rows.zip w) n then tgt true (pcs nm rows ks ps n (W.take i)).1 (some (cnd nm rows ks ps n w).1,(cnd nm rows ks ps n w).2) else (pcs nm rows ks ps n (W.take i)).1,
     if cfs (rows.zip w) n<0 then tgt false (pcs nm rows ks ps n (W.take i)).2 (some (cnd nm rows ks ps n w).1,(cnd nm rows ks ps n w).2) else (pcs nm rows ks ps n (W.take i)).2):=by
  unfold pcs;rw[aI h,Ku];rfl
theorem aX:ax ["name","sums","point","low","high","row","weights","weight"] ["name","sums","point"] (ak s_piece_for):=by walk_at "sc"
theorem eS(Z:Zz):Z.C 4 "piece_for" ["name","sums","point"] (Hg Z.K ik):=by
 refine cS Z.x30 aX hZ λfa cdv A outer s H E ds R hr h=>?_;have hU:=hr.units;refine⟨_,(ae (aB 3 aX.nd (n9 rfl Z.g_ENDLESS)) (ae (aB 4 aX.nd (n9 rfl Z.g_ENDLESS)) (ae (bD Ih rfl (ap 1) (dk (n:=2) rfl (aH (aw 5 aX.nd) (aH (aw 6 aX.nd) bC))) (ae (aB 7 aX.nd (au (aZ Z) (rm hr) rfl (ac (ap 0) (ac (ap 5) af)))) (ae (aK (aD sO (ap 7) am (ay _)) (ag (aB 3 aX.nd (au (iS Z) (rm hr) rfl (ac (ap 3) (ac (bf (ac (au (gf Z) (rm hr) rfl (ac (ap 0) (ac (ap 5) (ac (ap 2) af)))) (ac (ce (eP hU) (G1 5) aR (ay _)) af))) (ac gG af)))))) aE) (ag (aK (aD sQ (ap 7) am (ay _)) (ag (aB 4 aX.nd (au (iS Z) (rm hr) rfl (ac (ap 4) (ac (bf (ac (au (gf Z) (rm hr) rfl (ac (ap 0) (ac (ap 5) (ac (ap 2) af)))) (ac (ce (eP hU) (G1 5) aR (ay _)) af))) (ac gG af)))))) aE))))) (ag (aA (aC aO (ap 3) (ap 4))))))),?_⟩;obtain⟨nm,rows,ks,ps,n,W,c,κ,g,T,L,rfl,S,q⟩:=h;unfold kg;refine ar λK1 hK1=>?_;walk_at "";rw[hK1];refine ar λK2 hK2=>?_;walk_at "";rw[hK2];refine ar λK3 hK3=>?_;refine db λF N hF hN=>?_;walk_at "";simp only[lY];walk_at "";refine⟨λi δ=>∃x y z,δ=[.dat (.str n),.dat (.lst (W.map (smD nm rows))),.dat (.dct ks (ps.map Hk)),.dat (qq (pcs nm rows ks ps n (W.take i)).1),.dat (qq (pcs nm rows ks ps n (W.take i)).2),x,y,z],⟨_,_,_,rfl⟩,?_,?_⟩
 ·rintro i d δ hd ⟨x,y,z,rfl⟩;obtain⟨w,hw,rfl⟩:=uK hd;have hm:=HY hw;have aa:=ub (nm:=nm) (rows:=rows) (ks:=ks) (ps:=ps) (n:=n) (Pr:=λp=>ib p.1<=1000000/\ib p.2<=8000) (W:=W.take i) λw hw hc=>by
   have k:=S.cnd (Jq hw) hc
   have k1:=k.bb
   have k2:=k.tb
   have k3:=S.cg
   have k4:=S.hT
   exact⟨by omega,by omega⟩
  rw[hF];simp only[rJ hw];generalize pcs nm rows ks ps n (W.take i)=e at *;obtain⟨lo,hi⟩:=e;show sA _ _ (.tup [rwD (Ht nm rows w),.tup (w.map D.int)]) _ _;refine d7 λK4 hK4=>?_;walk_at "";refine⟨n,Ht nm rows w,rfl,gv S.H w,?_⟩;walk_at "";rw[cH S.H,hK4];have k6:=S.k6;have bnd:cfs (rows.zip w) n≠0->∀R:D->Prop,R (Hk (cnd nm rows ks ps n w).1)->f8 [.str n,rwD (Ht nm rows w),.dct ks (ps.map Hk)] R:=λhc R r =>
   ⟨n,Ht nm rows w,ks,ps,c,κ,T,rfl,gv S.H w,k6,S.nms w hm,by rw[cH S.H];exact hc,S.P,by have:=S.hT;omega,S.hκ,by have:=S.cκ;omega,by rw[cH S.H];exact S.cb w hm n,S.tb hm,S.bb w hm,r⟩
  have cb:cfs (rows.zip w) n≠0->∀p,some (cnd nm rows ks ps n w).1=some p->ib p.1<=1000000/\ib p.2<=8000:=λhc p hp=>by
   cases hp
   have k:=S.cnd hm hc
   have k1:=k.bb
   have k2:=k.tb
   have k3:=S.cg
   have k4:=S.hT
   exact⟨by omega,by omega⟩
  have word:∀R:D->Prop,R (.bl (cnd nm rows ks ps n w).2)->fIx [rwD (Ht nm rows w),.int 0] λd=>fEq [d,.str "least"] R:=λR r=>by
   unfold rwD lc Ht;walk_at "";rw[xA];exact r
  generalize cnd nm rows ks ps n w=cn at *
  obtain⟨cp,cs⟩:=cn
  rcases Int.lt_trichotomy (cfs (rows.zip w) n) 0 with hc | hc | hc
  ·refine ar λK5 hK5=>?_;walk_at "";refine G0 (by omega) ?_;rw[hK5];walk_at "";refine ifp hc (bnd (by omega) _ ?_);walk_at "";refine word _ ?_;refine⟨hi,(some cp,cs),false,rfl,aa.2,cb (by omega),?_⟩;simp only[if_neg (show ¬ 0<cfs (rows.zip w) n by omega),if_pos hc]
   first | exact⟨_,_,_,rfl⟩ | trivial | rfl
  ·refine ar λK5 hK5=>?_;walk_at "";refine G0 (by omega) ?_;rw[hK5];walk_at "";refine G0 (by omega) ?_;simp only[if_neg (show ¬ 0<cfs (rows.zip w) n by omega),if_neg (show ¬ cfs (rows.zip w) n<0 by omega)]
   first | exact⟨_,_,_,rfl⟩ | trivial | rfl
  ·refine ar λK5 hK5=>?_;walk_at "";refine ifp hc (bnd (by omega) _ ?_);walk_at "";refine word _ ?_;refine⟨lo,(some cp,cs),true,rfl,aa.1,cb (by omega),?_⟩;rw[hK5];walk_at "";refine G0 (by omega) ?_;simp only[if_pos hc,if_neg (show ¬ cfs (rows.zip w) n<0 by omega)]
   first | exact⟨_,_,_,rfl⟩ | trivial | rfl
 ·rintro δ ⟨x,y,z,rfl⟩;rw[Hv,Ik,hN,hK3];unfold qq;walk_at "";exact q
def fitQ:Nat->Nat->Nat->Nat->Bool
 | 0,_,_,_=>true
 | k+1,κ,g,T=>(decide (819+g<=3990)&&decide (819+κ<=7990))&&(decide (g<=κ)&&decide (819+T+κ+80<=1000000))&&fitQ k (κ+(820+g)) (820+g) (2*(819+T+κ+72)+2)
structure St(nm:Zb)(rows:List Rw)(l ks:Zb)(ps:Za)(κ g T:Nat)(L:Int):Prop where
 P:Pt ks ps T
 hκ:ib (bot (pB ks ps) ks)<=κ
 L0:L≠0
 hL:∀k∈ks,pB ks ps k ∣ L
 hg:ib L<=g
 fq:fitQ l.length κ g T=true
 so:∀w∈G8 rows l,soR (Hj ks ps) (Ht nm rows w)
theorem BM(P:Pt ks ps T)(hv:GW v.1 v.2)(hT:T<=T')(h1:ib v.1<=T')(h2:ib v.2<=T'):Pt (ks++[n]) (ps++[v]) T' :=
  ⟨by simp[P.len],λp hp=>(HZ.mp hp).elim (P.low p) λz=>by rw[HG.mp z];exact hv,λp hp=>(HZ.mp hp).elim (λz=>Hz (P.b1 p z) hT) λz=>by rw[HG.mp z];exact h1,
   λp hp=>(HZ.mp hp).elim (λz=>Hz (P.b2 p z) hT) λz=>by rw[HG.mp z];exact h2⟩
theorem wV(hl:ps.length=ks.length)(hn:n∉ks):bot (pB (ks++[n]) (ps++[v])) (ks++[n])=bot (pB ks ps) ks*v.2:=by
 rw[jX,vP];have e1:pB (ks++[n]) (ps++[v]) n=v.2:=by unfold pB;rw[eZ hl hn,HU rfl]
 rw[e1]
 congr 1
 refine mY λk hk=>?_;unfold pB;rw[eZ hl hn,HQ (λ(z:k=n)=>hn (z ▸ hk))]
theorem uD(h:lo=none\/hi=none):(G9 lo hi).2=1:=by
 unfold G9
 cases lo with
 | none =>
  cases hi with
  | none=>rfl
  | some q=>exact(kn _).2
 | some p =>
  cases hi with
  | none=>exact(kn _).2
  | some q=>rcases h with z | z<;>cases z
theorem Aa{nm:Zb}{rows:List Rw}{ks:Zb}{ps:Za}{n:Str}{W:List (List Int)}(h:¬ 2<=W.length):(pcs nm rows ks ps n W).1.1=none\/(pcs nm rows ks ps n W).2.1=none:=by
 match W,h with
 | [],_=>exact .inl rfl
 | [w],_ =>
  have e:=rJ (nm:=nm) (rows:=rows) (ks:=ks) (ps:=ps) (n:=n) (W:=[w]) (i:=0) rfl
  rw[show [w].take (0+1)=[w] from rfl,show [w].take 0=[] from rfl] at e;rw[e]
  by_cases c:0<cfs (rows.zip w) n
  ·refine .inr ?_;simp only[if_neg (show ¬ cfs (rows.zip w) n<0 by omega)];rfl
  ·refine .inl ?_;rw[HQ c];rfl
 | _::_::_,h=>exact absurd (by simp) h
theorem Fit.pcs{nm:Zb}{rows:List Rw}{B c:Nat}{n:Str}{l ks:Zb}{ps:Za}{κ g T:Nat}{L:Int}(F:Fit nm rows B)(hkl:ks.length<=60)(hcov:∀k∈nm,k∈ks\/k=n\/k∈l)(P:Pt ks ps T)(hκ:ib (bot (pB ks ps) ks)<=κ)(L0:L≠0)(hL:∀k∈ks,pB ks ps k ∣ L)(hg:ib L<=g)(f1:c+g<=3990)(f1':c+κ<=7990)(f2:g<=κ)(f2':c+T+κ+80<=1000000)
  {lv:Nat} (hc:cb B rows.length lv<=c) (hb:∀w∈G8 rows l,∀a∈w,ib a<=wb B rows.length lv):Pcs nm rows ks ps n (G8 rows l) c κ g T L:=by
 refine⟨F.H,hkl,λw hw t ht hne=>?_,P,f2',hκ,L0,hL,hg,f2,f1,f1',λw hw x=>Hz (F.H.cfb F.hB (hb w hw) x) hc,λw hw=>Hz (G7.bdb F.hB (hb w hw)) hc⟩;obtain⟨m1,m2,_⟩:=og ht
 rcases hcov t.1 m1 with z | z | z
 ·exact z
 ·exact absurd z hne
 ·exact absurd ((cu hw).2 _ z) m2
theorem St.step{B:Nat}{nm:Zb}{rows:List Rw}{n:Str}{l ks:Zb}{ps:Za}{κ g T:Nat}{L:Int}(F:Fit nm rows B)(h:St nm rows (n::l) ks ps κ g T L)(hnk:n∉ks)(hkl:ks.length<=60)(hcov:∀k∈nm,k∈ks\/k=n\/k∈l) :
  Pcs nm rows ks ps n (G8 rows l) 819 κ g T L/\(∀p,(pcs nm rows ks ps n (G8 rows l)).1.1=some p->mU L 819 g κ T p)/\(∀p,(pcs nm rows ks ps n (G8 rows l)).2.1=some p->mU L 819 g κ T p) /\
  ∃L',St nm rows l (ks++[n]) (ps++[G9 (pcs nm rows ks ps n (G8 rows l)).1.1 (pcs nm rows ks ps n (G8 rows l)).2.1]) (κ+(820+g)) (820+g) (2*(819+T+κ+72)+2) L':=by
 obtain⟨P,hκ,L0,hL,hg,fq,so⟩:=h;have ai:((819+g<=3990/\819+κ<=7990)/\(g<=κ/\819+T+κ+80<=1000000))/\fitQ l.length (κ+(820+g)) (820+g) (2*(819+T+κ+72)+2)=true:=by
  have:((decide (819+g<=3990)&&decide (819+κ<=7990))&&(decide (g<=κ)&&decide (819+T+κ+80<=1000000))&&fitQ l.length (κ+(820+g)) (820+g) (2*(819+T+κ+72)+2))=true:=fq
  simpa only[Bool.and_eq_true,decide_eq_true_eq] using this
 obtain⟨⟨⟨f1,al⟩,f2,aj⟩,f3⟩:=ai;have S:Pcs nm rows ks ps n (G8 rows l) 819 κ g T L:=F.pcs hkl hcov P hκ L0 hL hg f1 al f2 aj F.c2 λw hw=>F.bits hw;have aa:=ub (nm:=nm) (rows:=rows) (ks:=ks) (ps:=ps) (n:=n) (Pr:=mU L 819 g κ T) (W:=G8 rows l) λw hw hc=>S.cnd hw hc;have bk:=back F.H so (uq hnk) (λw hw t ht hne=>P.pos (S.nms w hw t ht hne));have ah:ib (G9 (Mf.pcs nm rows ks ps n (G8 rows l)).1.1 (Mf.pcs nm rows ks ps n (G8 rows l)).2.1).1<=2*(819+T+κ+72)+2/\ib (G9 (Mf.pcs nm rows ks ps n (G8 rows l)).1.1 (Mf.pcs nm rows ks ps n (G8 rows l)).2.1).2<=820+g/\∃M:Int,M≠0/\ib M<=820/\(G9 (Mf.pcs nm rows ks ps n (G8 rows l)).1.1 (Mf.pcs nm rows ks ps n (G8 rows l)).2.1).2 ∣ M*L:=by
  by_cases h2:2<=(G8 rows l).length
  ·have S1:Pcs nm rows ks ps n (G8 rows l) 409 κ g T L:=F.pcs hkl hcov P hκ L0 hL hg (by omega) (by omega) f2 (by omega) F.c1 λw hw=>F.bits1 h2 hw
   have ab:=ub (nm:=nm) (rows:=rows) (ks:=ks) (ps:=ps) (n:=n) (Pr:=mU L 409 g κ T) (W:=G8 rows l) λw hw hc=>S1.cnd hw hc
   obtain⟨s1,s2,M,m0,mb,md⟩:=pO L0 hg f2 ab.1 ab.2;exact⟨by omega,by omega,M,m0,by omega,md⟩
  ·obtain⟨s1,_⟩:=pO L0 hg f2 aa.1 aa.2;have e:=uD (Aa (nm:=nm) (rows:=rows) (ks:=ks) (ps:=ps) (n:=n) h2);rw[e];have i1:ib 1=1:=by decide
   exact⟨s1,by omega,1,by decide,by decide,Int.one_dvd _⟩
 obtain⟨s1,s2,M,m0,mb,md⟩:=ah;refine⟨S,aa.1,aa.2,M*L,BM P bk.1 (by omega) s1 (by omega),?_,IP m0 L0,λk hk=>?_,Ip mb hg,f3,λw hw=>?_⟩
 ·rw[wV P.len hnk];exact Ip hκ s2
 ·unfold pB;rw[eZ P.len hnk]
  by_cases e:k=n
  ·rw[HU e];exact md
  ·rw[HQ e]
   rcases HZ.mp hk with z | z
   ·exact Int.dvd_trans (hL k z) (Int.dvd_mul_left ..)
   ·exact absurd (HG.mp z) e
 ·rw[wG P.len hnk];exact bk.2 w hw
inductive gz(ds:Zi)(R:D->Prop):Prop
 | mk (nm:Zb) (rows:List Rw) (B:Nat) (ns ks:Zb) (ps:Za) (κ g T:Nat) (L:Int) (hh:ds=[.lst ((sI rows ns).map (kg nm rows)),.lst (ns.map D.str),.dct ks (ps.map Hk)]/\Fit nm rows B/\ns.length<=20/\ks.length<=20/\(ks++ns).Nodup/\(∀n∈nm,n∈ks\/n∈ns)/\St nm rows ns ks ps κ g T L/\R (.dct (ks++ns) ((fbk nm rows ns ks ps).map Hk)))
theorem gD:∀ds R,gz ds R->ds.length=3:=λ_ _ ⟨_,_,_,_,_,_,_,_,_,_,e,_⟩=>by rw[e];rfl
theorem FU(o:Option (Int×Int)):D.im (oD o)=true:=by cases o<;>rfl
theorem DP{ns:Zb}{i:Nat}(h:(sS (ns.map D.str) L)[i]?=some d):∃n e,ns[i]?=some n/\L[i]?=some e/\d=.tup [.str n,e]:=by
 unfold sS at h;rw[List.getElem?_zipWith] at h;rw[HM] at h
 cases e1:ns[i]? with
 | none=>rw[e1] at h;cases h
 | some n =>
  rw[e1] at h
  cases e2:L[i]? with
  | none=>rw[e2] at h;cases h
  | some e=>rw[e2] at h;exact⟨n,e,rfl,rfl,(HR h).symm⟩
theorem cut1(xs:List α)(h:0<xs.length):cut xs (some 1) none=xs.drop 1:=by
 unfold cut;have e1:HT.sIx xs.length 0 (some 1)=1:=by unfold HT.sIx;simp;omega
 have e2:HT.sIx xs.length xs.length none=xs.length:=rfl
 rw[e1,e2];exact List.take_of_length_le (by rw[JR];omega)
theorem cw:ax ["steps","names","point","told","name","sums"] ["steps","names","point"] (ak s_found_back):=by walk_at "sc"
theorem jH(Z:Zz):Z.C 5 "found_back" ["steps","names","point"] (Hg Z.K gz):=by
 refine cS Z.x31 cw gD λfa cdv A outer s H E ds R hr h=>?_;have hU:=hr.units;refine⟨_,(ae (xV 3 cw.nd rfl Z.x59 (ap 2)) (ae (mi Ih rfl (tL true true rfl Z.x55 (ac (ap 1) (ac (iN (ap 0) (bX am) cX) af))) (dk (n:=2) rfl (aH (aw 4 cw.nd) (aH (aw 5 cw.nd) bC))) (ag (ji 3 hU (au (kY Z) (rm hr) rfl (ac (wE 3 (eS Z) (rm hr) rfl (ap 4) (ap 5)) af)) (ap 4)))) (bJ 3 (ag (aA (ap 3)))))),?_⟩;obtain⟨nm,rows,B,ns,ks,ps,κ,g,T,L,rfl,F,h4,a3,nd,as,a1,q⟩:=h;refine ar λK1 hK1=>?_;walk_at "";intro da;rw[hK1];refine ar λK2 hK2=>?_;refine jz λFb N hF hN=>?_;walk_at "";simp only[sr];walk_at "";rw[cut1 _ (by rw[Hv,fE];omega),<- List.map_drop];have zl:(sS (ns.map D.str) (((sI rows ns).drop 1).map (kg nm rows))).length=ns.length:=by
  unfold sS;rw[List.length_zipWith,Hv,Hv,JR,fE];omega
 refine⟨λi δ=>∃(ks':Zb) (ps':Za) (x y:Sl),δ=[.dat (.lst ((sI rows ns).map (kg nm rows))),.dat (.lst (ns.map D.str)),.dat (.dct ks (ps.map Hk)),.own da (.dct ks' (ps'.map Hk)),x,y]/\ks'=ks++ns.take i/\fbk nm rows (ns.drop i) ks' ps'=fbk nm rows ns ks ps/\∃κ g T L,St nm rows (ns.drop i) ks' ps' κ g T L,⟨ks,ps,_,_,rfl,by simp,rfl,κ,g,T,L,a1⟩,?_,?_⟩
 ·rintro i d δ hd ⟨ks',ps',x,y,rfl,rfl,aa,κ',g',T',L',S'⟩;obtain⟨n,e,hn,he,rfl⟩:=DP hd;have aq:i<ns.length:=(HL.mp hn).1;rw[HM,List.getElem?_drop,qg ns (1+i) (by omega)] at he;have he:=(HR he).symm;subst he;have ab:ns.drop i=n::ns.drop (i+1):=by
   rw[JG aq]
   congr 1
   exact(HL.mp hn).2
  rw[Nat.add_comm 1 i];rw[ab] at aa S';have az:(ks++ns.take i++n::ns.drop (i+1)).Nodup:=by
   rw[<- ab,J5,KB];exact nd
  have ai:n∉ks++ns.take i:=λz=>(List.nodup_append.mp az).2.2 n z n (HB ..) rfl
  have ao:∀k∈nm,k∈ks++ns.take i\/k=n\/k∈ns.drop (i+1):=λk hk=>by
   rcases as k hk with z | z
   ·exact .inl (HV _ z)
   ·rw[<- KB i ns,ab] at z
    rcases HZ.mp z with z | z
    ·exact .inl (HP _ z)
    ·rcases HK.mp z with z | z
     ·exact .inr (.inl z)
     ·exact .inr (.inr z)
  have a2:(ks++ns.take i).length<=60:=by rw[HC,IK];omega
  have a0:ns.take (i+1)=ns.take i++[n]:=aI hn
  simp only[a0,<- List.append_assoc];generalize ks++ns.take i=k0 at *;generalize ns.drop (i+1)=l at *;obtain⟨S,aj,an,al⟩:=S'.step F ai a2 ao;rw[hF];show sA _ _ (.tup [.str n,kg nm rows (G8 rows l)]) _ _;walk_at "";refine⟨nm,rows,k0,ps',n,G8 rows l,_,κ',g',T',L',rfl,S,?_⟩;refine⟨by simp only[D.im,D.ims,FU];rfl,?_⟩;have ah:fbk nm rows l (k0++[n]) (ps'++[G9 (pcs nm rows k0 ps' n (G8 rows l)).1.1 (pcs nm rows k0 ps' n (G8 rows l)).2.1])=fbk nm rows ns ks ps:=aa;clear aa;have cg:=S.cg;have hT:=S.hT;generalize pcs nm rows k0 ps' n (G8 rows l)=e at *;obtain⟨lo,hi⟩:=e;simp only at aj an al ah ⊢;refine⟨lo.1,hi.1,lo.2,hi.2,rfl,λp hp=>?_,λp hp=>?_,?_⟩
  ·have k:=aj p hp
   have k1:=k.bb
   have k2:=k.tb
   exact⟨k.low.ne,by omega,by omega⟩
  ·have k:=an p hp
   have k1:=k.bb
   have k2:=k.tb
   exact⟨k.low.ne,by omega,by omega⟩
  ·generalize G9 lo.1 hi.1=v at *
   have lk:k0.length<9000:=by omega
   refine⟨lk,?_⟩;rw[pH ai,qh ai];walk_at "";exact⟨ps'++[v],by rw[HS];rfl,ah,_,_,_,al⟩
 ·rintro δ ⟨ks',ps',x,y,rfl,rfl,aa,_⟩;rw[zl] at aa ⊢;rw[List.drop_length] at aa;rw[Ik,hN,hK2];have aa:ps'=fbk nm rows ns ks ps:=aa;rw[aa];walk_at "";exact q
def so0(l:List (Rw×Int)):Bool:=om (kOf (Hh l)) 0 (bds l)
theorem vH(hin:∀n∈nm,n∈ns){w:Ze}(hw:w∈G8 rows ns):(Ht nm rows w).2.1=[]:=by
 cases e:(Ht nm rows w).2.1 with
 | nil=>rfl
 | cons t r =>
  have ht:t∈(Ht nm rows w).2.1:=by rw[e];exact HB ..
  obtain⟨h1,h2,_⟩:=og ht;exact absurd ((cu hw).2 _ (hin _ h1)) h2
theorem vZ{rows:List Rw}(hin:∀n∈nm,n∈ns){w:Ze}(hw:w∈G8 rows ns):rwD (Ht nm rows w)=(Hi.row (kOf (Hh (rows.zip w))) [] (bds (rows.zip w))).D:=by
 have e:=vH hin hw
 show lc _ (Ht nm rows w).2.1 _=_
 rw[e];rfl
theorem AO{rows:List Rw}(hin:∀n∈nm,n∈ns){w:Ze}(hw:w∈G8 rows ns)(x:Str->Rat):so0 (rows.zip w)=true↔soR x (Ht nm rows w):=by
 have e:=vH hin hw
 unfold soR so0;rw[e];show _↔(match kOf (Hh (rows.zip w)) with | .least=>((bds (rows.zip w):Int):Rat)<=0 | .more=>((bds (rows.zip w):Int):Rat)<0)
 cases Hh (rows.zip w)
 ·show decide (bds (rows.zip w)<=0)=true↔_
  rw[decide_eq_true_eq];exact(Rat.intCast_le_intCast (a:=bds (rows.zip w)) (b:=0)).symm
 ·show decide (bds (rows.zip w)<0)=true↔_
  rw[decide_eq_true_eq];exact(Jk (a:=bds (rows.zip w)) (b:=0)).symm
theorem uH{α:Type}{p:α->Bool}{l:List α}{i:Nat}{x:α}(h:l[i]?=some x)(hn:∀y∈l.take i,p y=false)(hp:p x=true):l.find? p=some x:=by
 rw[<- KB i l,List.find?_append];have e1:(l.take i).find? p=none:=List.find?_eq_none.mpr λy hy=>by rw[hn y hy];decide
 have hi:i<l.length:=(HL.mp h).1
 rw[e1,JG hi,(HL.mp h).2,List.find?_cons_of_pos hp];rfl
theorem yQ(h1:Srt ss)(n1:ss.Nodup)(h2:nm.Pairwise leS)(n2:nm.Nodup)(h:∀n,n∈ss↔n∈nm):ss=nm:=pC (vE h1) h2 n1 n2 h
theorem uF(hb:∀c∈ns,Builtin.Int.intBits c<=n)(k:Int):Builtin.Int.intBits (iD ns k)<=n:=by
 unfold iD;rw[IM]
 cases e:ns[k.toNat]? with
 | none=>exact Hz (by decide:Builtin.Int.intBits 0<=0) (Jp _)
 | some c=>exact hb c (HY e)
theorem uc(f:α->β)(l:List α)(lo hi:Option Int):cut (l.map f) lo hi=(cut l lo hi).map f:=by
 unfold cut;rw[Hv,List.map_take,List.map_drop]
theorem BE(h:x∈cut l lo hi):x∈l:=List.mem_of_mem_drop (Jq h)
theorem zT(a b:Nat):(cut l (some (a:Int)) (some (b:Int))).length<=b-a:=by
 unfold cut;rw[IK,JR,HT.sIx_nat,HT.sIx_nat];omega
def Hi.kr:Hi->List (List Rw)
 | .row k ts b=>[[(k,ts,b)]]
 | .nt _=>[]
 | .bo s t=>s.kr.flatMap λc=>t.kr.map λd=>c++d
 | .ei s t=>s.kr++t.kr
def sayR(r:Rw):Hi:=.row r.1 r.2.1 r.2.2
theorem Hi.cs_kr:∀ {s:Hi},s.cs=s.kr.map λc=>c.map sayR
 | .row _ _ _=>rfl
 | .nt _=>rfl
 | .bo s t=>by
  show (s.cs.flatMap λc=>t.cs.map λd=>c++d)=(s.kr.flatMap λc=>t.kr.map λd=>c++d).map _
  rw[Hi.cs_kr (s:=s),Hi.cs_kr (s:=t),List.flatMap_map,List.map_flatMap]
  congr 1
  funext c
  rw[IX,IX]
  congr 1
  funext d
  show _=List.map sayR (c++d)
  rw[HS];rfl
 | .ei s t=>by
  show s.cs++t.cs=(s.kr++t.kr).map _
  rw[Hi.cs_kr (s:=s),Hi.cs_kr (s:=t),HS]
def krD(K:List (List Rw)):D:=.lst (K.map λc=>.lst (c.map rwD))
theorem zx{s:Hi}:csD s.cs=krD s.kr:=by
 unfold csD krD df;rw[Hi.cs_kr,IX]
 congr 2
 funext c
 show DL.D.lst ((c.map sayR).map Hi.D)=_
 rw[IX];rfl
theorem Hi.kr_num{s:Hi}(h:s.pn=true):s.kr.length=s.num:=by rw[<- Hi.cs_num h,Hi.cs_kr,Hv]
theorem Hi.kr_long{s:Hi}(h:s.pn=true){c:List Rw}(hc:c∈s.kr):c.length<=s.long:=by
 have:=Hi.cs_long h (c.map sayR) (by rw[Hi.cs_kr];exact HA.mpr ⟨c,hc,rfl⟩)
 rwa [Hv] at this
def Hi.bt(B:Nat):Hi->Prop
 | .row _ ts b=>(∀t∈ts,ib t.2<=B)/\ib b<=B
 | .nt s=>s.bt B
 | .bo s t=>s.bt B/\t.bt B
 | .ei s t=>s.bt B/\t.bt B
theorem Hi.pl_bt:∀ {s:Hi} {t:Bool},s.bt B->(s.pl t).bt B
 | .row k ts b,true,h=>⟨λt ht=>by
   obtain⟨u,hu,rfl⟩:=HA.mp ht
   exact JT (h.1 u hu),JT h.2⟩
 | .row k ts b,false,h=>h
 | .nt s,t,h=>Hi.pl_bt (s:=s) h
 | .bo s u,true,h=>⟨Hi.pl_bt h.1,Hi.pl_bt h.2⟩
 | .bo s u,false,h=>⟨Hi.pl_bt h.1,Hi.pl_bt h.2⟩
 | .ei s u,true,h=>⟨Hi.pl_bt h.1,Hi.pl_bt h.2⟩
 | .ei s u,false,h=>⟨Hi.pl_bt h.1,Hi.pl_bt h.2⟩
theorem Hi.kr_row:∀ {s:Hi},s.ok names->s.bt B->∀c∈s.kr,∀r∈c,kW names r.2.1/\(∀t∈r.2.1,ib t.2<=B)/\ib r.2.2<=B/\∀n∈r.2.1.map (·.1),n∈s.nms
 | .row k ts b,o,h,c,hc,r,hr=>by
  rw[HG.mp hc] at hr;rw[HG.mp hr];exact⟨o.1,h.1,h.2,λn hn=>hn⟩
 | .bo s t,o,h,c,hc,r,hr=>by
  obtain⟨x,hx,hy⟩:=List.mem_flatMap.mp hc;obtain⟨y,hz,rfl⟩:=HA.mp hy
  rcases HZ.mp hr with hr | hr
  ·obtain⟨a,b,d,e⟩:=Hi.kr_row o.1 h.1 x hx r hr;exact⟨a,b,d,λn hn=>HV _ (e n hn)⟩
  ·obtain⟨a,b,d,e⟩:=Hi.kr_row o.2 h.2 y hz r hr;exact⟨a,b,d,λn hn=>HP _ (e n hn)⟩
 | .ei s t,o,h,c,hc,r,hr=>by
  rcases HZ.mp hc with hc | hc
  ·obtain⟨a,b,d,e⟩:=Hi.kr_row o.1 h.1 c hc r hr;exact⟨a,b,d,λn hn=>HV _ (e n hn)⟩
  ·obtain⟨a,b,d,e⟩:=Hi.kr_row o.2 h.2 c hc r hr;exact⟨a,b,d,λn hn=>HP _ (e n hn)⟩
theorem xy(pw:nm.Pairwise leS)(nd:nm.Nodup)(h:kW nm ts):eM (cf ts) ts:=by
 have n1:=nd.sublist h.sub
 exact⟨pw.sublist h.sub,n1,λt ht=>⟨(mS n1 ht).symm,h.nz t ht⟩,λn hn=>HF λz=>hn (iy z)⟩
theorem yK{K:List (List Rw)}{i:Nat}(h:(K.map λc=>D.lst (c.map rwD))[i]?=some d):∃c,K[i]?=some c/\d=.lst (c.map rwD):=by
 rw[HM] at h
 cases e:K[i]? with
 | none=>rw[e] at h;cases h
 | some n=>rw[e] at h;exact⟨n,rfl,(HR h).symm⟩
theorem pv(q:Str->Prop)[DecidablePred q]:∀l:Zb,(l.map D.str).filterMap (λd=>match d with | .str n=>if q n then some (.str n) else none | _=>none)=(l.filter λn=>decide (q n)).map D.str
 | []=>rfl
 | n::l=>by simp only[List.map_cons,List.filterMap_cons,List.filter_cons,pv q l];by_cases h:q n<;>simp[h]
theorem cnt4:∀k,cnt 4 k=4
 | 0=>rfl
 | k+1=>by show cnt 4 k*cnt 4 k / 4=4;rw[cnt4 k]
theorem zt(h:c.length<=3)(ns:Zb):(G8 c ns).length<=4:=by have:=(wa (c:=4) (Jx h) (by decide) ns).1;rwa [cnt4] at this
def unI:D->Int
 | .int z=>z
 | _=>0
theorem k7(w:Ze):(w.map D.int).map unI=w:=by rw[IX];exact List.map_id _
def pcD(p:Pc):D:=.tup [oD p.1.1,.bl p.1.2,oD p.2.1,.bl p.2.2]
def Sm(p:Int×Int):Prop:=ib p.1<=1000000/\ib p.2<=8000
inductive uS(ds:Zi)(R:D->Prop):Prop
 | mk (a b:Hb) (lo:Bool) (hh:ds=[qq a,qq b,.bl lo]/\(∀p,a.1=some p->Sm p)/\(∀p,b.1=some p->Sm p)/\R (qq (wid lo a b)))
theorem nE:∀ds R,uS ds R->ds.length=3:=λ_ _ ⟨_,_,_,e,_⟩=>by rw[e];rfl
theorem xS:ax ["one","other","is_low"] ["one","other","is_low"] (ak s_wider):=by walk_at "sc"
theorem mH(Z:Zz):Z.C 2 "wider" ["one","other","is_low"] (Hg Z.K uS):=by
 refine cS Z.x32 xS nE λfa cdv A outer s H E ds R hr h=>?_;have hU:=hr.units;refine⟨_,(ae (aK (DW.dt (mM (aD vb (G1 0) cm (ay _)) (iA (aD vb (G1 1) cm (ay _))))) (ag (aA (n9 rfl Z.g_ENDLESS))) aE) (ae (aK (aD (rY hU) (G1 0) (G1 1) (ay _)) (ag (aA (bf (ac (G1 0) (ac (yp (G1 0) (dm (G1 1))) af))))) aE) (ag (aA (sK (aD (rY hU) (au (g6 Z) (rm hr) rfl (ac (G1 0) (ac (G1 1) af))) (ap 2) (ay _)) (ap 0) (ap 1)))))),?_⟩;obtain⟨⟨a,ab⟩,⟨b,bb⟩,lo,rfl,ha,hb,q⟩:=h;unfold qq at q ⊢;refine ar λK1 h1=>?_
 cases a with
 | none =>
  unfold oD;walk_at "";exact q
 | some p =>
  rw[show oD (some p)=.tup [.int p.1,.int p.2] from rfl];walk_at ""
  cases b with
  | none =>
   unfold oD;walk_at "";exact q
  | some r =>
   obtain⟨p1,p2⟩:=ha p rfl;obtain⟨r1,r2⟩:=hb r rfl;unfold wid at q;simp only at q;rw[show oD (some r)=.tup [.int r.1,.int r.2] from rfl];walk_at "";rw[h1];refine ar λK3 h3=>?_;walk_at "";refine cR (λe=>?_) λe=>?_
   ·have e:p=r:=Prod.ext (by simpa using Jf Prod.fst e) (by simpa using Jf Prod.snd e)
    rw[HU e] at q
    cases ab with
    | true=>exact ifp rfl q
    | false=>exact G0 HE q
   ·rw[HQ (λz=>e (by rw[z]))] at q;rw[h3];walk_at "";refine⟨p,r,rfl,Hz p1 (by decide),Hz r1 (by decide),p2,r2,?_⟩;walk_at "";refine cR (λe=>?_) λe=>?_
    ·rw[HU e] at q;exact q
    ·rw[HQ e] at q;exact q
inductive gk(ds:Zi)(R:D->Prop):Prop
 | mk (a b:Pc) (hh:ds=[pcD a,pcD b]/\(∀p,a.2.1=some p->Sm p)/\(∀p,b.1.1=some p->Sm p)/\R (.bl (lbw a b)))
theorem gH:∀ds R,gk ds R->ds.length=2:=λ_ _ ⟨_,_,e,_⟩=>by rw[e];rfl
theorem lG:ax ["one","other"] ["one","other"] (ak s_lies_below):=by walk_at "sc"
theorem eA(Z:Zz):Z.C 2 "lies_below" ["one","other"] (Hg Z.K gk):=by
 refine cS Z.x33 lG gH λfa cdv A outer s H E ds R hr h=>?_;have hU:=hr.units;refine⟨_,(ae (aK (DW.dt (mM (aD vb (G1 0) cm (ay _)) (iA (aD vb (G1 1) cm (ay _))))) (ag (aA gG)) aE) (ae (aK (aD (rY hU) (G1 0) (G1 1) (ay _)) (ag (aA (gn (mz (G1 0)) (dm (mz (G1 1)))))) aE) (ag (aA (au (g6 Z) (rm hr) rfl (ac (G1 0) (ac (G1 1) af))))))),?_⟩;obtain⟨⟨a0,a,ab⟩,⟨⟨b,bb⟩,b0⟩,rfl,ha,hb,q⟩:=h;unfold pcD;refine ar λK1 h1=>?_
 cases a with
 | none =>
  rw[show oD none=.non from rfl];walk_at "";exact q
 | some p =>
  rw[show oD (some p)=.tup [.int p.1,.int p.2] from rfl];walk_at ""
  cases b with
  | none =>
   rw[show oD none=.non from rfl];walk_at "";exact q
  | some r =>
   obtain⟨p1,p2⟩:=ha p rfl;obtain⟨r1,r2⟩:=hb r rfl;unfold lbw at q;simp only at q;rw[show oD (some r)=.tup [.int r.1,.int r.2] from rfl];walk_at "";rw[h1];refine ar λK3 h3=>?_;walk_at "";refine cR (λe=>?_) λe=>?_
   ·have e:p=r:=Prod.ext (by simpa using Jf Prod.fst e) (by simpa using Jf Prod.snd e)
    rw[HU e] at q
    cases ab with
    | true=>exact G0 (by decide) q
    | false=>exact ifp rfl q
   ·rw[HQ (λz=>e (by rw[z]))] at q;rw[h3];walk_at "";exact⟨p,r,rfl,Hz p1 (by decide),Hz r1 (by decide),p2,r2,q⟩
inductive qf(ds:Zi)(R:D->Prop):Prop
 | mk (L:List Pc) (P:Pc) (S:Int×Int->Prop) (hh:ds=[.lst (L.map pcD),pcD P]/\(∀p,S p->Sm p)/\(∀p∈L,rS S p)/\rS S P/\L.length<=60/\R (.lst ((rT L P).map pcD)))
theorem me:∀ds R,qf ds R->ds.length=2:=λ_ _ ⟨_,_,_,e,_⟩=>by rw[e];rfl
theorem BO{L:List Pc}{i:Nat}{d:D}(h:(L.map pcD)[i]?=some d):∃p,L[i]?=some p/\d=pcD p:=by
 rw[HM] at h
 cases e:L[i]? with
 | none=>rw[e] at h;cases h
 | some p=>rw[e] at h;cases h;exact⟨p,rfl,rfl⟩
theorem ma{S:Int×Int->Prop}{e:Hb}(hS:∀p,S p->Sm p)(h:nK S e):∀p,e.1=some p->Sm p:=λp hp=>hS p (h.low p hp).2
theorem D7(h:R (qq p.1)):fSlT (pcD p) none (some 2) R:=h
theorem Dz(h:R (qq p.2)):fSlT (pcD p) (some 2) none R:=h
theorem cW:ax ["pieces","piece","below","above","grown","held"] ["pieces","piece"] (ak s_put_in):=by walk_at "sc"
theorem se(Z:Zz):Z.C 3 "put_in" ["pieces","piece"] (Hg Z.K qf):=by
 refine cS Z.x34 cW me λfa cdv A outer s H E ds R hr h=>?_;have hU:=hr.units;refine⟨_,(ae (dJ 2 cW.nd af) (ae (dJ 3 cW.nd af) (ae (aB 4 cW.nd (ap 1)) (ae (bD Ih rfl (ap 0) (aw 5 cW.nd) (ag (aK (bU (au (eA Z) (rm hr) rfl (ac (ap 5) (ac (ap 1) af)))) (ag (bH 2 (ap 5))) (ag (aK (bU (au (eA Z) (rm hr) rfl (ac (ap 1) (ac (ap 5) af)))) (ag (bH 3 (ap 5))) (ag (aB 4 cW.nd (aC aO (au (mH Z) (rm hr) rfl (ac (rH (ap 4) cX (bX am)) (ac (rH (ap 5) cX (bX am)) (ac gG af)))) (au (mH Z) (rm hr) rfl (ac (rH (ap 4) (bX am) cX) (ac (rH (ap 5) (bX am) cX) (ac gG af)))))))))))) (bJ 2 (bJ 3 (ag (aA (aC aO (aC aO (ap 2) (aW (ac (ap 4) af))) (ap 3)))))))))),?_⟩;obtain⟨L,P,S,rfl,hS,hL,hP,ab,q⟩:=h;refine ar λK1 hK1=>?_;walk_at "";intro ba;rw[hK1];refine ar λK2 hK2=>?_;walk_at "";intro aa;rw[hK2];refine ar λK3 hK3=>?_;walk_at "";rw[hK3];refine ar λK4 hK4=>?_;refine db λF N hF hN=>?_;walk_at "";refine⟨λi δ=>∃x,δ=[.dat (.lst (L.map pcD)),.dat (pcD P),.own ba (.lst (((L.take i).filter λh=>lbw h P).map pcD)),.own aa (.lst (((L.take i).filter λh=>!lbw h P&&lbw P h).map pcD)),.dat (pcD ((L.take i).foldl (grw P) P)),x],⟨_,rfl⟩,?_,?_⟩
 ·rintro i d δ hd ⟨x,rfl⟩;obtain⟨h,hh,rfl⟩:=BO hd;have hm:=HY hh;have ai:=(HL.mp hh).1;have ok:=hL h hm;have ah:=(grow hP (L.take i) P (λp hp=>hL p (Jq hp)) hP (by grind) (by grind)).1;have l1:((L.take i).filter λh=>lbw h P).length<=i:=Hz (IJ ..) (by rw[IK];omega);have l2:((L.take i).filter λh=>!lbw h P&&lbw P h).length<=i:=Hz (IJ ..) (by rw[IK];omega);rw[hF];simp only[aI hh,List.filter_append,List.foldl_append,List.map_append];generalize (L.take i).foldl (grw P) P=g at *;walk_at "";refine⟨h,P,rfl,ma hS ok.h,ma hS hP.l,?_⟩;walk_at ""
  cases k1:lbw h P with
  | true =>
   walk_at "";refine⟨by rw[Hv];omega,?_,?_,?_⟩<;>simp[grw,k1]
  | false =>
   walk_at "";refine⟨P,h,rfl,ma hS hP.h,ma hS ok.l,?_⟩;walk_at ""
   cases k2:lbw P h with
   | true =>
    walk_at "";refine⟨by rw[Hv];omega,?_,?_,?_⟩<;>simp[grw,k1,k2]
   | false =>
    walk_at "";refine D7 (D7 ⟨g.1,h.1,true,rfl,ma hS ah.l,ma hS ok.l,?_⟩);walk_at "";refine Dz (Dz ⟨g.2,h.2,false,rfl,ma hS ah.h,ma hS ok.h,?_⟩);walk_at "";unfold qq;walk_at "";refine⟨?_,?_,?_⟩<;>simp[grw,k1,k2,pcD]
 ·rintro δ ⟨x,rfl⟩;rw[Hv,Ik,hN,hK4];walk_at "";have l1:(L.filter λh=>lbw h P).length<=60:=Hz (IJ ..) ab;have l2:(L.filter λh=>!lbw h P&&lbw P h).length<=60:=Hz (IJ ..) ab;unfold rT at q;rw[HS,HS] at q;exact⟨by rw[Hv];omega,by rw[HC,Hv,Hv,Ie];omega,q⟩
def kFoF(F:D->aL->En->Prop)(R:aL)(δ1:En)(d:D):Prop:=qL d λxs=>∃I:Nat->En->Prop,I 0 δ1 /\
 (∀i x δ',xs[i]?=some x->I i δ'->F x { R with nx:=I (i+1),ct:=I (i+1),bk:=R.nx,tp:=False } δ')/\∀δ',I xs.length δ'->R.nx δ'
def yX(f:FE)(t:TDA)(F:D->aL->En->Prop):TDS:=λR δ=>t δ λds δ1=>f ds (kFoF F R δ1) R.ex
theorem xu(h:∀(F:D->aL->En->Prop) (N:En->Prop),F=(λx R δ=>g x δ λδ2=>tb R δ2)->N=R.nx->yX f t F { R with nx:=N } δ):Dq f t g tb R δ:=h _ _ rfl rfl
def Hs(nm:Zb)(n:Str):Zb:=nm.filter λk=>decide (k≠n)
structure One(a:Hi)(nm:Zb)(B:Nat):Prop where
 da:a.dep<=60
 oa:a.ok nm
 ta:a.bt B
 pw:nm.Pairwise leS
 nd:nm.Nodup
 mem:∀n,n∈nm↔n∈a.nms
 l4:nm.length<=4
 b2:B<=200
theorem One.lens{a:Hi}(f:(a.pl false).few){c:List Rw}(hc:c∈(a.pl false).kr):c.length<=3:=by
 have h1:=Hi.kr_long Hi.pl_pn hc
 have:=f.2
 omega
theorem One.fit{a:Hi}{nm:Zb}{B:Nat}(T:One a nm B)(f:(a.pl false).few){c:List Rw}(hc:c∈(a.pl false).kr):Fit nm c B:=by
 have hr:=Hi.kr_row (Hi.pl_ok T.oa) (Hi.pl_bt T.ta) c hc
 have:=T.l4
 exact⟨⟨T.pw,T.nd,λr h=>xy T.pw T.nd (hr r h).1,λr h t ht=>(hr r h).1.sub.subset (HA.mpr ⟨t,ht,rfl⟩)⟩,⟨λr h=>(hr r h).2.1,λr h=>(hr r h).2.2.1⟩,One.lens f hc,by omega,T.b2⟩
def ok1(ns:Zb)(c:List Rw):Bool:=(G8 c ns).all λw=>so0 (c.zip w)
def pc1(nm:Zb)(n:Str)(ns:Zb)(c:List Rw):Pc:=pcs nm c [] [] n (G8 c ns)
def wm(nm:Zb)(n:Str)(A:List (List Rw)):List Pc:=wW (ok1 (n::Hs nm n)) (pc1 nm n (Hs nm n)) A
def In1(nm:Zb)(n:Str)(c:List Rw)(x:Rat):Prop:=∀w∈G8 c (Hs nm n),soR (nr (Hj [] []) n x) (Ht nm c w)
theorem qP:∀k∈nm,k∈n::Hs nm n:=λk hk=>by
 by_cases e:k=n
 ·rw[e];exact HB ..
 ·exact Hx _ (HH.mpr ⟨hk,IF e⟩)
theorem One.pcs(T:One a nm B)(f:(a.pl false).few)(hc:c∈(a.pl false).kr):Pcs nm c [] [] n (G8 c (Hs nm n)) 819 1 1 0 1:=by
 have F:=T.fit f hc
 exact F.pcs (by decide) (λk hk=>.inr (HK.mp (qP k hk))) ⟨rfl,λ_ h=>(nomatch h),λ_ h=>(nomatch h),λ_ h=>(nomatch h)⟩ (by show ib 1<=1;decide) (by decide) (λ_ h=>(nomatch h)) (by decide) (by decide) (by decide) (by decide) (by decide) F.c2 λw hw=>F.bits hw
theorem One.case{a:Hi}{nm:Zb}{n:Str}{B:Nat}(T:One a nm B)(f:(a.pl false).few){S:Int×Int->Prop}(hS:∀c∈(a.pl false).kr,∀w∈G8 c (Hs nm n),cfs (c.zip w) n≠0->S (cnd nm c [] [] n w).1) :
  ∀c∈(a.pl false).kr,(ok1 (n::Hs nm n) c=true->rS S (pc1 nm n (Hs nm n) c)/\∀x,inP (pc1 nm n (Hs nm n) c) x↔In1 nm n c x)/\(ok1 (n::Hs nm n) c=false->∀x,¬ In1 nm n c x):=λc hc=>by
 have F:=T.fit f hc
 refine⟨λh=>?_,λh x hx=>?_⟩
 ·have aa:∀w∈G8 c (n::Hs nm n),soR (Hj [] []) (Ht nm c w):=λw hw=>(AO qP hw _).mp (JB.mp h w hw)
  exact Dg F.H aa (uq (by simp)) (λw _ t _ _=>by show (0:Int)<1;decide) (hS c hc)
 ·refine absurd (JB.mpr λw hw=>(AO qP hw _).mpr (AG F.H hx hw)) (by show ¬ ok1 (n::Hs nm n) c=true;rw[h];decide)
theorem One.bits(T:One a nm B)(f:(a.pl false).few):∀c∈(a.pl false).kr,∀w∈G8 c (Hs nm n),cfs (c.zip w) n≠0->ib (cnd nm c [] [] n w).1.1<=819+71/\ib (cnd nm c [] [] n w).1.2<=819+1:=λc hc w hw h=>by
 have k:=(T.pcs f hc).cnd hw h
 have k1:=k.tb
 have k2:=k.bb
 exact⟨by omega,by omega⟩
theorem One.small(T:One a nm B)(f:(a.pl false).few):∀c∈(a.pl false).kr,∀w∈G8 c (Hs nm n),cfs (c.zip w) n≠0->Sm (cnd nm c [] [] n w).1:=λc hc w hw h=>by
 obtain⟨k1,k2⟩:=T.bits f c hc w hw h;exact⟨by omega,by omega⟩
theorem One.str{a:Hi}{nm:Zb}{n:Str}{B:Nat}(T:One a nm B)(f:(a.pl false).few){S:Int×Int->Prop}(hS:∀c∈(a.pl false).kr,∀w∈G8 c (Hs nm n),cfs (c.zip w) n≠0->S (cnd nm c [] [] n w).1)(i:Nat)(hi:i<=(a.pl false).kr.length):C6 S (In1 nm n) ((a.pl false).kr.take i) (wm nm n ((a.pl false).kr.take i)):=CO (T.case f hS) i hi
def l8:FE:=λds R RE=>∃(a:Hi) (n:Str) (nm:Zb) (B:Nat),ds=[a.D,.str n]/\One a nm B/\((a.pl false).few->R (.lst ((wm nm n (a.pl false).kr).map pcD)))/\(¬ (a.pl false).few->RE "TooMany" "saying" a.D)
theorem lf:∀ds R RE,l8 ds R RE->ds.length=2:=λ_ _ _ ⟨_,_,_,_,e,_⟩=>by rw[e];rfl
theorem cA:ax ["saying","name","names","told","case","steps"] ["saying","name"] (ak s_stretch):=by walk_at "sc"
theorem iR(Z:Zz):Z.E 65 "stretch" ["saying","name"] l8:=by
 refine fn_E Z.x35 cA lf λfa cdv A outer s H E ds R RE hr h=>?_;have hU:=hr.units;refine⟨_,(ae (aB 2 cA.nd (aC aO (aW (ac (ap 1) af)) (DE.nox (bZ ["other"] [(1,"name")] rfl rfl (by decide +kernel) rfl (by decide +kernel) (bV ⟨rfl,trivial⟩) (λ_=>cj rfl) (a7 ⟨⟨rfl,rfl,.inl rfl⟩,trivial⟩) (eB (au (dS Z) (rm hr) rfl (ac (ap 0) af))) λ_ _ _ _ _=>⟨(aw 0 (show List.Nodup (["other","name"]:Zb) by decide +kernel)),(gj (aD (vD hU) (ap 0) (ap 1) (ay _))),(ap 0)⟩)))) (ae (aB 3 cA.nd (aW af)) (ae (Bg (tX ⟨rfl,rfl⟩) rfl (mT Z) (rm hr) rfl (ac (ap 0) af) (aw 4 cA.nd) (ae (aB 5 cA.nd (au (eY Z) (rm hr) rfl (ac (ap 4) (ac (ap 2) af)))) (ag (aK (bU (aN (Ft rfl) rfl Z.x60 Ct (ac (DE.nox (bZ ["row","weights"] [] rfl rfl (by decide +kernel) rfl (by decide +kernel) (bV trivial) (λ_=>cj rfl) (a7 trivial) (eB (G1 5)) λ_ _ _ _ _=>⟨(dk (n:=2) rfl (aH (aw 0 (show List.Nodup (["row","weights"]:Zb) by decide +kernel)) (aH (aw 1 (show List.Nodup (["row","weights"]:Zb) by decide +kernel)) bC))),fH,(au (mV Z) (rm hr) rfl (ac (ap 0) (ac kQ af)))⟩)) af))) (ag (aB 3 cA.nd (au (se Z) (rm hr) rfl (ac (ap 3) (ac (au (eS Z) (rm hr) rfl (ac (ap 1) (ac (G1 5) (ac kQ af)))) af))))) aE)))) (ag (aA (ap 3)))))),?_⟩;obtain⟨a,n,nm,B,rfl,T,q,q0⟩:=h;have l4:=T.l4;refine ar λK1 hK1=>?_;walk_at "";refine⟨nm,a,rfl,T.da,T.oa,by omega,λss nds hms hs=>?_⟩;have es:=yQ hs nds T.pw T.nd λk=>by rw[hms k,T.mem k]
 subst es;walk_at "";refine⟨by rw[Hv];omega,λd=>match d with | .str k=>if k≠n then some (.str k) else none | _=>none,λx hx=>?_,?_⟩
 ·obtain⟨k,hk,rfl⟩:=HA.mp hx;walk_at "";exact cR (λz=>HU z) λz=>HQ z
 rw[pv];have ol:(Hs ss n).length<=ss.length:=IJ ..;refine⟨by rw[Hv];exact Hz (Nat.add_le_add_left (show (Hs ss n).length<=8999 by omega) 1) (by decide),?_⟩;show K1 [.dat a.D,.dat (.str n),.dat (.lst ((n::Hs ss n).map D.str)),.no,.no,.no];rw[hK1];refine ar λK2 hK2=>?_;walk_at "";rw[hK2];refine ar λK3 hK3=>?_;refine xu λF N hF hN=>?_;unfold yX;walk_at "";refine⟨a,ss,rfl,T.da,T.oa,by omega,λf=>?_,q0⟩;replace q:=q f;have kA:(a.pl false).kr.length<=4:=by rw[Hi.kr_num Hi.pl_pn];exact f.1
 rw[zx];have str:=T.str (n:=n) f (T.small f);have pcs:=λ{c} hc=>T.pcs (n:=n) f (c:=c) hc;have fit:=λ{c} hc=>T.fit f (c:=c) hc;have l3:∀c∈(a.pl false).kr,c.length<=3:=λc hc=>One.lens f hc;have case:=T.case (n:=n) f (T.small f);generalize (a.pl false).kr=A at *;unfold krD kFoF;walk_at "";refine⟨λi δ=>∃x y,δ=[.dat a.D,.dat (.str n),.dat (.lst ((n::Hs ss n).map D.str)),.dat (.lst ((wm ss n (A.take i)).map pcD)),x,y],⟨_,_,rfl⟩,?_,?_⟩
 ·rintro i d δ hd ⟨x,y,rfl⟩;obtain⟨c,hc,rfl⟩:=yK hd;have aa:=HY hc;have ai:=(HL.mp hc).1;rw[hF];show e7 _ _ _ _;refine d7 λK4 hK4=>?_;walk_at "";refine⟨ss,c,B,n::Hs ss n,rfl,fit aa,by rw[HJ];omega,?_⟩;walk_at "";rw[hK4];have e0:(sI c (n::Hs ss n)).map (kg ss c)=kg ss c (G8 c (n::Hs ss n))::kg ss c (G8 c (Hs ss n))::((sI c (Hs ss n)).drop 1).map (kg ss c):=by cases Hs ss n<;>rfl
  rw[e0];have sl:=zt (l3 c aa) (n::Hs ss n);have bb:∀w∈G8 c (n::Hs ss n),ib (bds (c.zip w))<=10000:=λw hw=>by
   have h1:=G7.bdb (fit aa).hB ((fit aa).bits hw)
   have h2:=(fit aa).c2
   unfold cb at h2;omega
  unfold kg;walk_at "";refine⟨by rw[Hv];omega,λd=>match d with | .tup [_,.tup ws]=>some (.bl (so0 (c.zip (ws.map unI)))) | _=>none,λx hx=>?_,(G8 c (n::Hs ss n)).map (λw=>so0 (c.zip w)),?_,?_⟩
  ·obtain⟨w,hw,rfl⟩:=HA.mp hx;refine⟨Hi.row (kOf (Hh (c.zip w))) [] (bds (c.zip w)),[],[],[],0,1,?_,by show 1<=60;decide,⟨⟨by simp,(λ_ h=>nomatch h),(λ_ h=>nomatch h)⟩,bb w hw⟩,by decide,(λ_ h=>nomatch h),⟨rfl,(λ_ h=>nomatch h),(λ_ h=>nomatch h),(λ_ h=>nomatch h)⟩,by decide,by show ib 1<=1;decide,by decide,rfl,?_⟩
   ·rw[vZ qP hw];rfl
   ·have e1:(Hi.row (kOf (Hh (c.zip w))) [] (bds (c.zip w))).tv (pT [] []) (pB [] [])=so0 (c.zip w):=by
     show om _ 0 (bds (c.zip w)*1)=_
     rw[Int.mul_one];rfl
    show some (D.bl (so0 (c.zip ((w.map D.int).map unI))))=_
    rw[k7,e1]
  ·rw[aP _ (smD ss c) (λw=>D.bl (so0 (c.zip w))) _ (by intro w _;show some (D.bl (so0 (c.zip ((w.map D.int).map unI))))=_;rw[k7]),IX];rfl
  rw[List.all_map];have ab:=case c aa;have sn:wm ss n (A.take (i+1))=if ok1 (n::Hs ss n) c=true then rT (wm ss n (A.take i)) (pc1 ss n (Hs ss n) c) else wm ss n (A.take i):=by unfold wm;rw[aI hc,mw]
  rw[sn];have st:=str i (by omega);have len:=st.len;have ah:2 ^ (A.take i).length<=2 ^ 4:=JH (by decide) (by rw[IK];omega);refine cR (λh1=>?_) λh1=>?_
  ·have e:ok1 (n::Hs ss n) c=true:=h1
   simp only[if_pos e];refine⟨ss,c,[],[],n,G8 c (Hs ss n),819,1,1,0,1,rfl,pcs aa,?_⟩;walk_at "";refine⟨wm ss n (A.take i),pc1 ss n (Hs ss n) c,Sm,rfl,λ_ h=>h,st.ok,(ab.1 e).1,by omega,?_⟩;walk_at "";exact⟨_,rfl⟩
  ·have e:¬ ok1 (n::Hs ss n) c=true:=h1
   simp only[if_neg e]
 ·rintro δ ⟨x,y,rfl⟩;rw[Hv,Ik,hN,hK3];walk_at "";exact q
def fil0(nm:Zb)(A:List (List Rw)):D:=match A.find? (ok1 nm) with
 | some c=>.dct nm ((fbk nm c nm [] []).map Hk)
 | none=>.non
theorem fit4:∀ {k:Nat},k<=4->fitQ k 1 1 0=true
 | 0,_=>by decide
 | 1,_=>by decide
 | 2,_=>by decide
 | 3,_=>by decide
 | 4,_=>by decide
 | k+5,h=>by omega
inductive rj(ds:Zi)(R:D->Prop):Prop
 | mk (a:Hi) (nm:Zb) (B:Nat) (hh:ds=[a.D,.lst [],.dct [] []]/\One a nm B/\(a.pl false).few/\R (fil0 nm (a.pl false).kr))
theorem mZ:∀ds R,rj ds R->ds.length=3:=λ_ _ ⟨_,_,_,e,_⟩=>by rw[e];rfl
theorem cC:ax ["saying","names","point","told","others","known","name","case","steps"] ["saying","names","point"] (ak s_filled):=by walk_at "sc"
theorem rR(Z:Zz):Z.C 65 "filled" ["saying","names","point"] (Hg Z.K rj):=by
 refine cS Z.x36 cC mZ λfa cdv A outer s H E ds R hr h=>?_;have hU:=hr.units;refine⟨_,(ae (aB 3 cC.nd (au (mT Z).pure (rm hr) rfl (ac (ap 0) af))) (ae (dJ 4 cC.nd af) (ae (kC 5 cC.nd) (ae (bD Ih rfl (au (dS Z) (rm hr) rfl (ac (ap 0) af)) (aw 6 cC.nd) (ag (aK (aD (nP hU) (ap 6) (ap 1) rfl) (ag (bH 4 (ap 6))) (ag (aK (aD (o_in hU) (ap 6) (ap 2) rfl) (ag (ji 5 hU (fQ hU (ap 2) (ap 6) (λ_ _=>rfl)) (ap 6))) ig))))) (bJ 4 (bJ 5 (ae (bD Ih rfl (ap 3) (aw 7 cC.nd) (ae (aB 8 cC.nd (au (eY Z) (rm hr) rfl (ac (ap 7) (ac (ap 4) af)))) (ag (aK (bU (aN (Ft rfl) rfl Z.x60 Ct (ac (bZ ["row","weights"] [(5,"known")] rfl rfl (by decide +kernel) rfl (by decide +kernel) (bV ⟨rfl,trivial⟩) (λ_=>cj rfl) (a7 ⟨⟨rfl,rfl,.inl rfl⟩,trivial⟩) (eB (G1 8)) λ_ _ _ _ _=>⟨(dk (n:=2) rfl (aH (aw 0 (show List.Nodup (["row","weights","known"]:Zb) by decide +kernel)) (aH (aw 1 (show List.Nodup (["row","weights","known"]:Zb) by decide +kernel)) bC))),fH,(au (mV Z) (rm hr) rfl (ac (ap 0) (ac (ap 2) af)))⟩) af))) (ag (aA (au (jH Z) (rm hr) rfl (ac (ap 8) (ac (ap 4) (ac (ap 5) af)))))) aE)))) (ag (aA cm))))))))),?_⟩;obtain⟨a,nm,B,rfl,T,f,q⟩:=h;have l4:=T.l4;refine ar λK1 hK1=>?_;walk_at "";refine⟨a,nm,rfl,T.da,T.oa,by omega,λ_=>?_,λh=>absurd f h⟩;rw[zx];walk_at "";rw[hK1];refine ar λK2 hK2=>?_;walk_at "";intro oa;walk_at "";rw[hK2];refine ar λK3 hK3=>?_;walk_at "";intro ka;walk_at "";rw[hK3];refine ar λK4 hK4=>?_;refine db λF N hF hN=>?_;walk_at "";refine⟨nm,a,rfl,T.da,T.oa,by omega,λss nds hms hs=>?_⟩
 have es:=yQ hs nds T.pw T.nd λn=>by rw[hms n,T.mem n]
 subst es;walk_at "";refine⟨λi δ=>∃x y z,δ=[.dat a.D,.dat (.lst []),.dat (.dct [] []),.dat (krD (a.pl false).kr),.own oa (.lst ((ss.take i).map D.str)),.own ka (.dct [] []),x,y,z],⟨_,_,_,rfl⟩,?_,?_⟩
 ·rintro i d δ hd ⟨x,y,z,rfl⟩;obtain⟨n,hn,rfl⟩:=iu hd;have ah:=(HL.mp hn).1;rw[hF];show e7 _ _ _ _;walk_at "";refine⟨[],rfl,ifp (by simp) ?_⟩;rw[aI hn,HS];exact⟨by rw[Hv,IK];omega,rfl⟩
 ·rintro δ ⟨x,y,z,rfl⟩;rw[Hv,Ik,hN,hK4];walk_at "";have fit:=λ{c} hc=>T.fit f (c:=c) hc;have l3:∀c∈(a.pl false).kr,c.length<=3:=λc hc=>One.lens f hc;generalize (a.pl false).kr=A at *;refine db λF2 N2 hF2 hN2=>?_;unfold krD;walk_at "";simp only[lY];walk_at "";refine⟨λi δ=>∃x y z,δ=[.dat a.D,.dat (.lst []),.dat (.dct [] []),.dat (.lst (A.map λc=>.lst (c.map rwD))),.dat (.lst (ss.map D.str)),.dat (.dct [] []),x,y,z]/\∀c∈A.take i,ok1 ss c=false,⟨_,_,_,rfl,λc hc=>by simp at hc⟩,?_,?_⟩
  ·rintro i d δ hd ⟨x,y,z,rfl,ho⟩;obtain⟨c,hc,rfl⟩:=yK hd;have aa:=HY hc;rw[hF2];show e7 _ _ _ _;refine d7 λK5 hK5=>?_;walk_at "";refine⟨ss,c,B,_,rfl,fit aa,by omega,?_⟩;walk_at "";rw[hK5];have e0:(sI c ss).map (kg ss c)=kg ss c (G8 c ss)::((sI c ss).drop 1).map (kg ss c):=by cases ss<;>rfl
   rw[e0];walk_at "";rw[<- e0];have sl:=zt (l3 c aa) ss;have bb:∀w∈G8 c ss,ib (bds (c.zip w))<=10000:=λw hw=>by
    have h1:=G7.bdb (fit aa).hB ((fit aa).bits hw)
    have h2:=(fit aa).c2
    unfold cb at h2;omega
   unfold kg;walk_at "";refine⟨by rw[Hv];omega,λd=>match d with | .tup [_,.tup ws]=>some (.bl (so0 (c.zip (ws.map unI)))) | _=>none,λx hx=>?_,(G8 c ss).map (λw=>so0 (c.zip w)),?_,?_⟩
   ·obtain⟨w,hw,rfl⟩:=HA.mp hx;refine⟨Hi.row (kOf (Hh (c.zip w))) [] (bds (c.zip w)),[],[],[],0,1,?_,by show 1<=60;decide,⟨⟨by simp,(λ_ h=>nomatch h),(λ_ h=>nomatch h)⟩,bb w hw⟩,by decide,(λ_ h=>nomatch h),⟨rfl,(λ_ h=>nomatch h),(λ_ h=>nomatch h),(λ_ h=>nomatch h)⟩,by decide,by show ib 1<=1;decide,by decide,rfl,?_⟩
    ·rw[vZ (λ_ h=>h) hw];rfl
    ·have e1:(Hi.row (kOf (Hh (c.zip w))) [] (bds (c.zip w))).tv (pT [] []) (pB [] [])=so0 (c.zip w):=by
      show om _ 0 (bds (c.zip w)*1)=_
      rw[Int.mul_one];rfl
     show some (D.bl (so0 (c.zip ((w.map D.int).map unI))))=_
     rw[k7,e1]
   ·rw[aP _ (smD ss c) (λw=>D.bl (so0 (c.zip w))) _ (by intro w _;show some (D.bl (so0 (c.zip ((w.map D.int).map unI))))=_;rw[k7]),IX];rfl
   rw[List.all_map];refine cR (λh1=>?_) λh1=>?_
   ·have e:ok1 ss c=true:=h1
    unfold fil0 at q;rw[uH hc ho e] at q;refine⟨ss,c,B,ss,[],[],1,1,0,1,rfl,fit aa,by omega,by decide,by simpa using T.nd,λn hn=>.inr hn,⟨⟨rfl,(λ_ h=>nomatch h),(λ_ h=>nomatch h),(λ_ h=>nomatch h)⟩,by show ib 1<=1;decide,by decide,(λ_ h=>nomatch h),by decide,fit4 l4,λw hw=>?_⟩,q⟩;exact(AO (λ_ h=>h) hw _).mp (JB.mp e w hw)
   ·have e:ok1 ss c=false:=Bool.eq_false_iff.mpr h1
    intro c' ab;rw[aI hc] at ab
    rcases HZ.mp ab with z | z
    ·exact ho c' z
    ·rw[HG.mp z];exact e
  ·rintro δ ⟨x,y,z,rfl,ho⟩;rw[Hv,Ik] at ho;rw[hN2];walk_at "";have e:A.find? (ok1 ss)=none:=List.find?_eq_none.mpr λc hc=>by rw[ho c hc];decide
   unfold fil0 at q;rw[e] at q;exact q
theorem cnz(h:j≠0):CNz i j:=h
theorem r8(h0:j≠0)(h:j.natAbs.log2<9000):CFd i j:=⟨h0,h⟩
structure sD(a b:Int):Prop where
 a0:0<=a
 b0:0<=b
 ab:Builtin.Int.intBits a<=1048576
 bb:Builtin.Int.intBits b<=1048576
inductive gq(ds:Zi)(R:D->Prop):Prop
 | mk (c:_) (hh:ds=[.int c]/\Builtin.Int.intBits c<=1048576/\∀a b,sD a b->R (.lst [.int a,.int b]))
theorem gM:∀ds R,gq ds R->ds.length=1:=λ_ _ ⟨_,e,_⟩=>by rw[e];rfl
theorem bh:ax ["_law_cell_here","_law_number","_law_found","_law_k"] ["_law_cell_here"] (ak s__law_purse):=by walk_at "sc"
theorem jU(Z:Zz):Z.C 1 "_law_purse" ["_law_cell_here"] (spN Z.K gq):=by
 refine fn_N Z.x37 bh gM λfa cdv A outer s H E ds R hr h=>?_;have hU:=hr.units;refine⟨_,(ae (aB 1 bh.nd (aC dB (ap 0) am)) (ae (aB 2 bh.nd am) (ae (AQ Ih rfl rfl Z.x57 (ac am af) (aw 3 bh.nd) (ae (aB 1 bh.nd (aC dB (aC aO (aC aO (aC aO (aC bT (ap 1) (ap 1)) (aC bT (aC bT am (ap 3)) (ap 3))) (ap 3)) am) am)) (ag (aB 2 bh.nd (aC aO (aC bT (ap 2) am) (aC dB (aC bT (ap 1) (ap 1)) am)))))) (ae (aK (aD (eP hU) (aC dB (ap 0) am) am (ay _)) (ag (uv (ac (aC cO (aN Cz rfl Z.x50 ED (ac (ap 0) af)) am) (ac (ap 2) af)))) aE) (ag (uv (ac am (ac (ap 2) af)))))))),?_⟩;obtain⟨c,rfl,hc,q⟩:=h;walk_at "";refine⟨cnz (by decide),?_⟩;walk_at "";simp only[CU];walk_at "";have n0:=Iy c (b:=2147483647) (by decide);have n1:=IL c (b:=2147483647) (by decide);refine⟨by decide,by decide,λi δ=>∃n f k,δ=[.dat (.int c),.dat (.int n),.dat (.int f),k]/\i<=16/\0<=n/\n<2147483648/\0<=f/\Builtin.Int.intBits f<=40*(i+1),⟨_,_,_,rfl,by decide,n0,by omega,by decide,by decide⟩,?_,?_⟩
 ·rintro i δ hi ⟨n,f,k,rfl,_,hn0,hn1,hf0,aa⟩;have ah:i<16:=hi;walk_at "";have bi:Builtin.Int.intBits (i:Int)<=64:=w5 (by omega) (by omega);have bn:Builtin.Int.intBits n<=64:=w5 hn0 (by omega);have z0:=Iy (n*n+48271*(i:Int)*i+i+3) (b:=2147483629) (by decide);have z1:=IL (n*n+48271*(i:Int)*i+i+3) (b:=2147483629) (by decide);generalize (n*n+48271*(i:Int)*i+i+3).fmod 2147483629=z at z0 z1 ⊢;have bz:Builtin.Int.intBits z<=64:=w5 z0 (by omega);have y0:=Iy (z*z) (b:=2147483587) (by decide);have y1:=IL (z*z) (b:=2147483587) (by decide);have ab:Builtin.Int.intBits ((z*z).fmod 2147483587)<=31:=intBits_le_iff.mpr (by rw[show (2:Nat) ^ 31=2147483648 from rfl];omega);have fm:=Int.mul_nonneg hf0 (show (0:Int)<=2147483587 by decide);refine⟨mo2 bn bn,IntMulOk.of_left (by decide),IntMulOk.of_right bi,cnz (by decide),IntMulOk.of_right (by decide),mo2 bz bz,cnz (by decide),by omega,z0,by omega,by omega,?_⟩;have h1:=Jv (Ip aa (show Builtin.Int.intBits 2147483587<=31 by decide)) ab;omega
 ·rintro δ ⟨n,f,k,rfl,_,hn0,hn1,hf0,aa⟩;walk_at "";have aa:Builtin.Int.intBits f<=1048576:=Hz aa (by decide);refine⟨cnz (by decide),cR (λ_=>⟨⟨by decide,by decide +kernel⟩,?_⟩) (λ_=>?_)⟩
  ·have ha:0<=(if c<0 then -c else c):=by split<;>omega
   have hb:Builtin.Int.intBits (if c<0 then -c else c)<=1048576:=by
    split
    ·exact JT hc
    ·exact hc
   exact q _ _ ⟨by rw[Int.fdiv_eq_ediv_of_nonneg _ (by decide)];exact Int.ediv_nonneg ha (by decide),hf0,Iz hb,aa⟩
  ·exact q _ _ ⟨Int.le_refl 0,hf0,by decide,aa⟩
inductive ju(d:D)(ds:Zi)(R:D->D->Prop):Prop
 | mk (a b m:_) (hh:d=.lst [.int a,.int b]/\ds=[.int m]/\sD a b/\0<m/\Builtin.Int.intBits m<=8000/\∀a' b' r,sD a' b'->0<=r->r<m->R (.int r) (.lst [.int a',.int b']))
theorem iB:∀d ds R,ju d ds R->ds.length+1=2:=λ_ _ _ ⟨_,_,_,_,e,_⟩=>by rw[e];rfl
theorem uV{a m:Int}(ha:0<=a)(hm:0<m):0<=a.fdiv m:=by rw[Int.fdiv_eq_ediv_of_nonneg _ (by omega)];exact Int.ediv_nonneg ha (by omega)
theorem dO:ax ["_law_purse_here","_law_many","_law_at","_law_found"] ["_law_purse_here","_law_many"] (ak s__law_take):=by walk_at "sc"
theorem cx(Z:Zz):Z.C 1 "_law_take" ["_law_purse_here","_law_many"] (spO Z.K ju):=by
 refine fn_O Z.x38 dO iB λfa cdv A outer s H E oa d0 ds R hr h=>?_;have hU:=hr.units;refine⟨_,(ae (aB 2 dO.nd (dH GL rfl Z.x61 F4 (ac (ce (eP hU) (jv 0 am (λ_ _=>rfl)) am (ay _)) af))) (ae (aB 3 dO.nd (aC dB (jv 0 (ap 2) (λ_ _=>rfl)) (ap 1))) (ae (kF 0 (aC cO (jv 0 (ap 2) (λ_ _=>rfl)) (ap 1)) (ap 2)) (ag (aA (ap 3)))))),?_⟩;obtain⟨a,b,m,rfl,rfl,pu,hm,bm,q⟩:=h;walk_at "";have cf:∀x:Int,CFd x m:=λx=>⟨by omega,nZ bm (HD _)⟩;have m0:∀x:Int,CNz x m:=λx=>cnz (by omega)
 by_cases ha:a=0
 ·simp only[if_pos ha];walk_at "";refine⟨m0 b,cf b,1,rfl,?_⟩;exact q _ _ _ ⟨pu.a0,uV pu.b0 hm,pu.ab,Iz pu.bb⟩ (Iy _ hm) (IL _ hm)
 ·simp only[if_neg ha];walk_at "";refine⟨m0 a,cf a,0,rfl,?_⟩;exact q _ _ _ ⟨uV pu.a0 hm,pu.b0,Iz pu.ab,pu.bb⟩ (Iy _ hm) (IL _ hm)
inductive fG(d:D)(ds:Zi)(R:D->D->Prop):Prop
 | mk (a b:_) (hh:d=.lst [.int a,.int b]/\ds=[]/\sD a b/\∀a' b' r,sD a' b'->Builtin.Int.intBits r<=200->R (.int r) (.lst [.int a',.int b']))
theorem fR:∀d ds R,fG d ds R->ds.length+1=1:=λ_ _ _ ⟨_,_,_,e,_⟩=>by rw[e];rfl
theorem wU(h0:0<=k)(h:k<xs.length):∃x∈xs,Hl xs k=some x:=by
 unfold Hl ixN;rw[HU h0,HU h];have:k.toNat<xs.length:=by omega
 exact⟨xs[k.toNat],List.getElem_mem _,by show xs[k.toNat]?=_;rw[Iv this]⟩
theorem yV:CPow 10 59:=⟨by decide,by decide,by decide⟩
theorem jF:ax ["_law_purse_here"] ["_law_purse_here"] (ak s__law_weight):=by walk_at "sc"
theorem dF(Z:Zz):Z.C 2 "_law_weight" ["_law_purse_here"] (spO Z.K fG):=by
 refine fn_O Z.x39 jF fR λfa cdv A outer s H E oa d0 ds R hr h=>?_;have hU:=hr.units;refine⟨_,(ae (aK (aD sQ (dY 0 (cx Z) (rm hr) rfl (ac am af)) am (ay _)) (ag (aA (fe fh (aW (ac am (ac am (ac (dE dD am) (ac am (ac (dE dD am) (ac am (ac (dE dD am) (ac am (ac am (ac am af))))))))))) (dY 0 (cx Z) (rm hr) rfl (ac am af)) (λ_ _=>rfl)))) aE) (ag (aA (aC AX (dY 0 (cx Z) (rm hr) rfl (ac (aC aO (aC bT am (aC E6 am am)) am) af)) (aC E6 am am))))),?_⟩;obtain⟨a,b,rfl,rfl,pu,q⟩:=h;walk_at "";refine⟨a,b,6,rfl,rfl,pu,by decide,by decide,λa1 b1 r pu1 r0 r1=>?_⟩;walk_at "";refine cR (λc=>?_) (λc=>?_)
 ·refine⟨by decide,a1,b1,10,rfl,rfl,pu1,by decide,by decide,λa2 b2 r2 pu2 s0 s1=>?_⟩;walk_at "";obtain⟨x,hx,e⟩:=wU (xs:=[D.int 0,D.int 1,D.int (-1),D.int 2,D.int (-2),D.int 3,D.int (-3),D.int 0,D.int 5,D.int 0]) s0 (by show r2<10;exact s1);have hr:∃r:Int,x=.int r/\ib r<=200:=by
   simp only[List.mem_cons,List.not_mem_nil,or_false] at hx
   rcases hx with rfl | rfl | rfl | rfl | rfl | rfl | rfl | rfl | rfl | rfl<;>exact⟨_,rfl,by decide⟩
  obtain⟨r,rfl,br⟩:=hr;refine Hu.of e ?_;walk_at "";exact q _ _ _ pu2 br
 ·have aa:(10:Int) ^ Int.toNat 59=100000000000000000000000000000000000000000000000000000000000:=by decide +kernel
  rw[aa];refine⟨yV,IntMulOk.of_left (by decide),a1,b1,_,rfl,rfl,pu1,by decide,intBits_le_iff.mpr (HW (by decide +kernel:(2*100000000000000000000000000000000000000000000000000000000000+1:Int).natAbs<2 ^ 200) (JH (by decide) (by decide))),λa2 b2 r2 pu2 s0 s1=>?_⟩;walk_at "";refine⟨yV,q _ _ _ pu2 (intBits_le_iff.mpr ?_)⟩;rw[show (2:Nat) ^ 200=1606938044258990275541962092341162602522202993782792835301376 by decide +kernel];omega
structure Df(names:Zb):Prop where
 nd:names.Nodup
 len:names.length<=4
 pos:0<names.length
 srt:Srt names
 one:∀n∈names,n.length<=100
def ltr(i:Int):Str:=⟨#[97+i.toNat]⟩
theorem DI:∀i:Fin 26,Hl (PySem.Str.cps "abcdefghijklmnopqrstuvwxyz").toList (i.val:Int)=some (97+i.val):=by decide +kernel
theorem CD(h0:0<=i)(h1:i<26):Hl (PySem.Str.cps "abcdefghijklmnopqrstuvwxyz").toList i=some (97+i.toNat):=by
 have:=DI ⟨i.toNat,by omega⟩
 simp only at this;rw[show ((i.toNat:Nat):Int)=i by omega] at this;exact this
inductive gw(ds:Zi)(R:D->Prop):Prop
 | mk (c:_) (hh:ds=[.int c]/\Builtin.Int.intBits c<=1048576/\∀names,Df names->R (.lst (names.map D.str)))
theorem gB:∀ds R,gw ds R->ds.length=1:=λ_ _ ⟨_,e,_⟩=>by rw[e];rfl
theorem BI(h0:0<=i)(h1:0<=j)(e:ltr i=ltr j):i=j:=by
 unfold ltr at e;simp only[Str.mk.injEq,Array.mk.injEq,List.cons.injEq,and_true] at e;omega
theorem iE(inj:∀i j,i<j->j<n->h i≠h j):((List.range n).map h).Nodup:=by
 refine List.pairwise_map.mpr ?_;have:=List.pairwise_lt_range (n:=n);refine List.Pairwise.imp_of_mem ?_ this;intro a b ha hb aa;exact inj a b aa (Jt.mp hb)
theorem de:ax ["_law_cell_here","_law_letters","_law_many"] ["_law_cell_here"] (ak s__law_names):=by walk_at "sc"
theorem jV(Z:Zz):Z.C 1 "_law_names" ["_law_cell_here"] (Hg Z.K gw):=by
 refine cS Z.x40 de gB λfa cdv A outer s H E ds R hr h=>?_;have hU:=hr.units;refine⟨_,(ae (aB 1 de.nd aR) (ae (aB 2 de.nd (aC aO am (aC dB (aC cO (ap 0) am) am))) (ag (aA (aN (kH rfl) rfl Z.x51 lS (ac (bZ ["_law_k"] [(1,"_law_letters"),(0,"_law_cell_here")] rfl rfl (by decide +kernel) rfl (by decide +kernel) (bV ⟨rfl,rfl,trivial⟩) (λ_=>cj rfl) (a7 ⟨⟨rfl,rfl,.inl rfl⟩,⟨rfl,rfl,.inl rfl⟩,trivial⟩) (rB rfl Z.x57 (ac (ap 2) af)) λ_ _ _ _ _=>⟨(aw 0 (show List.Nodup (["_law_k","_law_letters","_law_cell_here"]:Zb) by decide +kernel)),fH,(fe fh (ap 1) (aC dB (aC aO (aC dB (ap 2) am) (aC bT (aC aO am (aC bT (aC dB (aC cO (ap 2) am) am) am)) (ap 0))) am) (λ_ _=>rfl))⟩) af)))))),?_⟩;obtain⟨c,rfl,hc,q⟩:=h;walk_at "";have a0:=Iy c (b:=26) (by decide);have a1:=IL c (b:=26) (by decide);have m0:=Iy (c.fdiv 26) (b:=4) (by decide);have m1:=IL (c.fdiv 26) (b:=4) (by decide);have t0:=Iy (c.fdiv 104) (b:=3) (by decide);have t1:=IL (c.fdiv 104) (b:=3) (by decide);refine⟨r8 (by decide) (by decide +kernel),cnz (by decide),by omega,by omega,by rw[Hv,Jl];omega,?_⟩;generalize c.fmod 26=a at a0 a1 ⊢;generalize (c.fdiv 26).fmod 4=m at m0 m1 ⊢;generalize (c.fdiv 104).fmod 3=t at t0 t1 ⊢
 let g:Int->Int:=λk=>(a+(5+t*2)*k).fmod 26
 have g0:∀k,0<=g k:=λk=>Iy _ (by decide)
 have g1:∀k,g k<26:=λk=>IL _ (by decide)
 have ht:t=0\/t=1\/t=2:=by omega
 refine⟨λd=>match d with | .int k=>some (.str (ltr (g k))) | _=>none,λx hx=>?_,(List.range (1+m).toNat).map λk:Nat=>ltr (g k),?_,?_,λss' hp hs=>q ss' ⟨?_,?_,?_,hs,λn hn=>?_⟩⟩
 ·obtain⟨k,hk,rfl⟩:=HA.mp hx;refine⟨cnz (by decide),r8 (by decide) (by decide +kernel),cnz (by decide),IntMulOk.of_right (by decide),?_⟩;walk_at "";have hk:=Jt.mp hk;refine⟨mo2 (w5 (by omega) (by omega)) (w5 (by omega) (by omega)),cnz (by decide),by decide,97+(g k).toNat,CD (g0 k) (g1 k),rfl⟩
 ·exact(aP _ (λi:Nat=>D.int i) (λk:Nat=>D.str (ltr (g k))) _ (by intro _ _;rfl)).trans (by rw[IX];rfl)
 ·simp only[List.length_map,List.length_range];omega
 ·refine hp.nodup_iff.mpr (iE λi j hij hj e=>?_);have e:=BI (g0 i) (g0 j) e;have d1:=Ky (a+(5+t*2)*(i:Int)) 26;have d2:=Ky (a+(5+t*2)*(j:Int)) 26;have e:(a+(5+t*2)*(i:Int)).fmod 26=(a+(5+t*2)*(j:Int)).fmod 26:=e;rw[d1,d2] at e;have aa:j<4:=by omega
  have ab:i<4:=by omega
  rcases ht with rfl | rfl | rfl<;>omega
 ·rw[hp.length_eq,Hv,Jl];omega
 ·rw[hp.length_eq,Hv,Jl];omega
 ·obtain⟨k,_,rfl⟩:=HA.mp (hp.mem_iff.mp hn);show 1<=100
  decide
inductive fX(ds:Zi)(R:D->Prop):Prop
 | mk (c names:_) (hh:ds=[.int c,.lst (names.map D.str)]/\Builtin.Int.intBits c<=1048576/\names.length<=100/\∀k ts b,kW names ts->(∀t∈ts,ib t.2<=200)->Builtin.Int.intBits b<=200->R (lc k ts b))
theorem jO:∀ds R,fX ds R->ds.length=2:=λ_ _ ⟨_,_,e,_⟩=>by rw[e];rfl
theorem bY:ax ["_law_cell_here","_law_names_here","_law_purse_here","_law_terms","_law_name","_law_weight_here","_law_bound"] ["_law_cell_here","_law_names_here"] (ak s__law_row):=by walk_at "sc"
theorem cJ(Z:Zz):Z.C 3 "_law_row" ["_law_cell_here","_law_names_here"] (Hg Z.K fX):=by
 refine cS Z.x41 bY jO λfa cdv A outer s H E ds R hr h=>?_;have hU:=hr.units;refine⟨_,(ae (Bk 2 bY.nd (jU Z) (rm hr) rfl (ac (ap 0) af)) (ae (dJ 3 bY.nd af) (ae (bD Ih rfl (ap 1) (aw 4 bY.nd) (ae (aB 5 bY.nd (dY 2 (dF Z) (rm hr) rfl af)) (ag (aK (aD (vD hU) (ap 5) am (ay _)) (ag (bH 3 (bf (ac (ap 4) (ac (ap 5) af))))) aE)))) (ae (aB 6 bY.nd (dY 2 (dF Z) (rm hr) rfl af)) (ag (aA (bf (ac (fe fh (aW (ac aR (ac aR af))) (dY 2 (cx Z) (rm hr) rfl (ac am af)) (λ_ _=>rfl)) (ac (wc 3 rfl Z.x52 jA) (ac (ap 6) af)))))))))),?_⟩;obtain⟨c,names,rfl,hc,hl,q⟩:=h;walk_at "";refine⟨c,rfl,hc,λa b pu=>?_⟩;walk_at "";intro pa ta;walk_at "";simp only[lQ];walk_at "";refine⟨λi δ=>∃a b ts x y z,δ=[.dat (.int c),.dat (.lst (names.map D.str)),.own pa (.lst [.int a,.int b]),.own ta (.lst (ts.map tmD)),x,y,z]/\sD a b/\ts.length<=i/\kW (names.take i) ts/\∀t∈ts,ib t.2<=200,⟨a,b,[],_,_,_,rfl,pu,HD _,⟨by simp,λ_ h=>(nomatch h),λ_ h=>(nomatch h)⟩,λ_ h=>(nomatch h)⟩,?_,?_⟩
 ·rintro i d δ hd ⟨a,b,ts,x,y,z,rfl,pu,hl2,tm,tb⟩;rw[HM] at hd
  cases hn:names[i]? with
  | none=>rw[hn] at hd;cases hd
  | some n =>
   rw[hn] at hd
   cases hd
   have ah:i<names.length:=(HL.mp hn).1
   walk_at "";refine⟨a,b,rfl,rfl,pu,λa1 b1 r pu1 br=>?_⟩;walk_at "";have aa:names.take (i+1)=names.take i++[n]:=by rw[List.take_add_one,hn];rfl
   refine cR (λc0=>⟨by rw[Hv];omega,ts++[(n,r)],by rw[HS];rfl,pu1,by rw[HC,Ie];omega,?_,λt ht=>(HZ.mp ht).elim (tb t) λz=>by rw[HG.mp z];exact br⟩) (λc0=>⟨ts,rfl,pu1,by omega,?_,tb⟩)
   ·rw[aa];refine⟨by rw[HS];exact tm.sub.append (List.Sublist.refl _),λt ht=>?_,λt ht=>?_⟩
    ·rcases HZ.mp ht with ht | ht
     ·exact tm.nz t ht
     ·rw[HG.mp ht];exact c0
    ·rcases HZ.mp ht with ht | ht
     ·exact tm.bits t ht
     ·rw[HG.mp ht];exact Hz br (by decide)
   ·rw[aa];exact⟨tm.sub.trans (List.sublist_append_left _ _),tm.nz,tm.bits⟩
 ·rintro δ ⟨a,b,ts,x,y,z,rfl,pu,hl2,tm,tb⟩;walk_at "";rw[Hv,Ik] at tm;refine⟨a,b,rfl,rfl,pu,λa1 b1 r pu1 br=>?_⟩;refine⟨a1,b1,2,rfl,rfl,pu1,by decide,by decide,λa2 b2 r2 pu2 s0 s1=>?_⟩;have ab:r2=0\/r2=1:=by omega
  rcases ab with rfl | rfl
  ·walk_at "";exact q .least ts r tm tb br
  ·walk_at "";exact q .more ts r tm tb br
def Hi.o2(names:Zb)(s:Hi):Prop:=s.ok names/\s.bt 200
theorem yF{names:Zb}{x y z:Hi}(hz:z=.bo x y\/z=.ei x y)(ox:x.o2 names)(oy:y.o2 names):z.o2 names:=by
 rcases hz with rfl | rfl
 ·exact⟨⟨ox.1,oy.1⟩,ox.2,oy.2⟩
 ·exact⟨⟨ox.1,oy.1⟩,ox.2,oy.2⟩
def Hi.rows:Hi->Nat
 | .row _ _ _=>1
 | .nt s=>s.rows
 | .bo s t=>s.rows+t.rows
 | .ei s t=>s.rows+t.rows
structure dU(names:Zb)(ss:List Hi)(n:Nat):Prop where
 ok:∀s∈ss,s.o2 names
 dep:(ss.map Hi.dep).sum<=n
 rws:(ss.map Hi.rows).sum<=n
 pos:0<ss.length
theorem lg(tm:kW names ts)(tb:∀t∈ts,ib t.2<=200)(hb:Builtin.Int.intBits b<=200):Hi.o2 names (.row k ts b):=⟨⟨tm,Hz hb (by decide)⟩,tb,hb⟩
theorem eI(h:0<l.length):∃i x,l=i++[x]:=by
 have:l≠[]:=by intro e;rw[e] at h;cases h
 exact⟨l.dropLast,l.getLast this,(List.dropLast_concat_getLast this).symm⟩
theorem ld(n:Nat):ixN (n+1) (-1)=some n:=by
 unfold ixN;rw[HQ (by omega),HU (by omega)]
 congr 1
 omega
theorem kU(l:List α)(x y:α):(l++[x]).set l.length y=l++[y]:=by
 rw[List.set_append_right _ _ (HD _),Nat.sub_self];rfl
theorem kK{x y:D}{c:Int}:∃v,Hl [x,y] (c.fmod 2)=some v/\(v=x\/v=y):=by
 have h0:=Iy c (b:=2) (by decide)
 have h1:=IL c (b:=2) (by decide)
 have h:c.fmod 2=0\/c.fmod 2=1:=by omega
 rcases h with h | h
 ·rw[h];exact⟨x,at0,.inl rfl⟩
 ·rw[h];exact⟨y,at1,.inr rfl⟩
theorem e6(l:List Hi)(x:Hi):((l++[x]).map Hi.dep).sum=(l.map Hi.dep).sum+x.dep:=by
 rw[HS,List.sum_append];show _+(x.dep+0)=_;rfl
theorem fC(l:List Hi)(x:Hi):((l++[x]).map Hi.rows).sum=(l.map Hi.rows).sum+x.rows:=by
 rw[HS,List.sum_append];show _+(x.rows+0)=_;rfl
theorem uG:∀l:List Hi,l.length<=(l.map Hi.dep).sum
 | []=>HD _
 | x::l=>by
  have:=uG l
  have:=x.dep_pos
  show l.length+1<=x.dep+(l.map Hi.dep).sum
  omega
theorem dU.len(h:dU names ss n):ss.length<=n:=Hz (uG ss) h.dep
theorem dU.not(h:dU names (l++[x]) n):dU names (l++[.nt x]) (n+1):=by
 refine⟨λs hs=>?_,?_,?_,by simp⟩
 ·rcases HZ.mp hs with hs | hs
  ·exact h.ok s (HV _ hs)
  ·rw[HG.mp hs];exact h.ok x (by simp)
 ·have:=h.dep
  rw[e6] at this ⊢;show _+(x.dep+1)<=_;omega
 ·have:=h.rws
  rw[fC] at this ⊢;show _+x.rows<=_;omega
theorem dU.row(h:dU names l n)(o:x.o2 names)(d:x.dep=1)(r:x.rows=1):dU names (l++[x]) (n+1):=by
 refine⟨λs hs=>?_,?_,?_,by simp⟩
 ·rcases HZ.mp hs with hs | hs
  ·exact h.ok s hs
  ·rw[HG.mp hs];exact o
 ·have:=h.dep
  rw[e6];omega
 ·have:=h.rws
  rw[fC];omega
theorem dU.join{names:Zb}{l:List Hi}{x y z:Hi}{n:Nat}(h:dU names (l++[x]++[y]) n)(hz:z=.bo x y\/z=.ei x y):dU names (l++[z]) n:=by
 have ox:=h.ok x (by simp)
 have oy:=h.ok y (by simp)
 have px:=x.dep_pos
 have py:=y.dep_pos
 have dz:z.dep<=x.dep+y.dep:=by
  rcases hz with rfl | rfl
  ·show max x.dep y.dep+1<=_;omega
  ·show max x.dep y.dep+1<=_;omega
 have rz:z.rows=x.rows+y.rows:=by
  rcases hz with rfl | rfl
  ·rfl
  ·rfl
 have oz:z.o2 names:=yF hz ox oy
 refine⟨λs hs=>?_,?_,?_,by simp⟩
 ·rcases HZ.mp hs with hs | hs
  ·exact h.ok s (by simp[hs])
  ·rw[HG.mp hs];exact oz
 ·have:=h.dep
  rw[e6,e6] at this;rw[e6];omega
 ·have:=h.rws
  rw[fC,fC] at this;rw[fC];omega
theorem yt(h:v=.str "both"\/v=.str "either"):∃z:Hi,(z=.bo x y\/z=.ei x y)/\D.tup [v,x.D,y.D]=z.D:=by
 rcases h with rfl | rfl
 ·exact⟨.bo x y,.inl rfl,rfl⟩
 ·exact⟨.ei x y,.inr rfl,rfl⟩
inductive jk(ds:Zi)(R:D->Prop):Prop
 | mk (cs:Ze) (names:Zb) (hh:ds=[.lst (cs.map D.int),.lst (names.map D.str)]/\cs.length<=58/\(∀c∈cs,Builtin.Int.intBits c<=1048576)/\names.length<=60/\∀s:Hi,s.o2 names->s.dep<=cs.length+1->s.rows<=cs.length+1->R s.D)
theorem ir:∀ds R,jk ds R->ds.length=2:=λ_ _ ⟨_,_,e,_⟩=>by rw[e];rfl
theorem ci:ax ["_law_cells","_law_names_here","_law_row_here","_law_cell_here","_law_last"] ["_law_cells","_law_names_here"] (ak s__law_wild):=by walk_at "sc"
theorem kG(Z:Zz):Z.C 4 "_law_wild" ["_law_cells","_law_names_here"] (Hg Z.K jk):=by
 refine cS Z.x42 ci ir λfa cdv A outer s H E ds R hr h=>?_;have hU:=hr.units;refine⟨_,(ae (dJ 2 ci.nd (ac (au (cJ Z) (rm hr) rfl (ac (aN lC rfl Z.x53 fP (ac (ap 0) af)) (ac (ap 1) af))) af)) (ae (bD Ih rfl (ap 0) (aw 3 ci.nd) (ag (aK (aD (eP hU) (aC dB (ap 3) am) am (ay _)) (ag (kF 2 (bf (ac aR (ac (jv 2 (dE dD am) (λ_ _=>rfl)) af))) (dE dD am))) (ag (aK (DW.dt (l7 (aD (eP hU) (aC dB (ap 3) am) am (ay _)) (iL (aD sO (lu 2 rfl Z.x53 fP) am (ay _))))) (ae (tj 2 4 ci.nd) (ag (kF 2 (bf (ac (fe fh (aW (ac aR (ac aR af))) (aC dB (aC cO (ap 3) am) am) (λ_ _=>rfl)) (ac (jv 2 (dE dD am) (λ_ _=>rfl)) (ac (ap 4) af)))) (dE dD am)))) (ag (bH 2 (au (cJ Z) (rm hr) rfl (ac (aC cO (ap 3) am) (ac (ap 1) af)))))))))) (ae (qm Ih (aD sO (lu 2 rfl Z.x53 fP) am (ay _)) (ae (tj 2 4 ci.nd) (ag (kF 2 (bf (ac (fe fh (aW (ac aR (ac aR af))) (aC dB (lu 2 rfl Z.x53 fP) am) (λ_ _=>rfl)) (ac (jv 2 (dE dD am) (λ_ _=>rfl)) (ac (ap 4) af)))) (dE dD am))))) (ag (aA (jv 2 am (λ_ _=>rfl))))))),?_⟩;obtain⟨cs,names,rfl,hl,hb,hn,q⟩:=h;refine ar λK1 hK1=>?_;walk_at "";rw[Hv];refine⟨_,names,rfl,Hz (w5 (by omega) (by omega)) (by decide),by omega,λk ts b tm tb bb=>?_⟩;walk_at "";intro a;walk_at "";rw[hK1];refine ar λK2 hK2=>?_;refine db λF N hF hN=>?_;walk_at "";refine⟨λi δ=>∃ss x y,δ=[.dat (.lst (cs.map D.int)),.dat (.lst (names.map D.str)),.own a (.lst (ss.map Hi.D)),x,y]/\dU names ss (i+1),⟨[.row k ts b],_,_,rfl,⟨λs hs=>by rw[HG.mp hs];exact lg tm tb bb,by show 1+0<=0+1;decide,by show 1+0<=0+1;decide,Nat.one_pos⟩⟩,?_,?_⟩
 ·rintro i d δ hd ⟨ss,x,y,rfl,hs⟩;rw[HM] at hd
  cases hc:cs[i]? with
  | none=>rw[hc] at hd;cases hd
  | some c =>
   rw[hc] at hd
   cases hd
   have ai:=hb c (HY hc)
   have aj:=tw hc
   obtain⟨ab,lst,rfl⟩:=eI hs.pos;rw[HS,JY];rw[hF];show e7 _ _ _ _;walk_at "";have ln:=hs.len;rw[HC,Ie] at ln;have app:∀ {Q:D->Prop},(∀s:Hi,(ab.map Hi.D++[lst.D]).length<9000/\dU names (ab++[lst]++[s]) (i+1+1)->Q s.D)->CFd c 4/\fX [D.int (c.fdiv 4),D.lst (names.map D.str)] Q:=λ{Q} h=>⟨r8 (by decide) (by decide +kernel),_,names,rfl,Iz ai,by omega,λk ts b tm tb bb=>h (.row k ts b) ⟨by rw[HC,Hv,Ie];omega,hs.row (lg tm tb bb) rfl rfl⟩⟩;refine⟨cnz (by decide),cR (λ_=>?_) (λ_=>⟨cnz (by decide),cR (λ_=>cR (λh1=>?_) (λ_=>?_)) (λ_=>?_)⟩)⟩
   ·refine Hu.of Cq ?_;refine⟨ab.length,by rw[HC,Hv,Ie];exact ld _,ab++[.nt lst],?_,hs.not⟩;rw[show ab.length=(ab.map Hi.D).length by rw[Hv],kU,HS];rfl
   ·rw[HC,Hv,Ie] at h1;obtain⟨aa,x2,rfl⟩:=eI (l:=ab) (by omega);obtain⟨v,hv,ah⟩:=kK (x:=D.str (Str.ofString "both")) (y:=D.str (Str.ofString "either")) (c:=c.fdiv 4);obtain⟨z,hz,ez⟩:=yt (x:=x2) (y:=lst) ah;refine⟨(aa++[x2]).map Hi.D,lst.D,rfl,r8 (by decide) (by decide +kernel),cnz (by decide),Hu.of hv ?_⟩;rw[HS,JY];walk_at "";refine Hu.of Cq ?_;walk_at "";refine⟨aa.length,by rw[HC,Hv,Ie];exact ld _,aa++[z],?_,?_⟩
    ·rw[ez,HS,show aa.length=(aa.map Hi.D).length by rw[Hv]];exact kU _ _ _
    ·have:=hs.join hz
     exact⟨this.ok,Jx this.dep,Jx this.rws,this.pos⟩
   ·refine app λs hs'=>?_;walk_at "";exact⟨hs'.1,_,by rw[HS,HS];rfl,hs'.2⟩
   ·refine app λs hs'=>?_;walk_at "";exact⟨hs'.1,_,by rw[HS,HS];rfl,hs'.2⟩
 ·rintro δ ⟨ss,x,y,rfl,hs⟩;rw[Hv] at hs;rw[hN,hK2]
  dsimp only
  refine ar λK3 hK3=>?_;simp only[zC];refine⟨λδ=>∃ss x y,δ=[.dat (.lst (cs.map D.int)),.dat (.lst (names.map D.str)),.own a (.lst (ss.map Hi.D)),x,y]/\dU names ss (cs.length+1),λδ=>match δ with | [_,_,.own _ (.lst l),_,_]=>l.length | _=>0,⟨ss,x,y,rfl,hs⟩,?_⟩;rintro δ ⟨ss,x,y,rfl,hs⟩;obtain⟨ab,lst,rfl⟩:=eI hs.pos;rw[HS,JY];walk_at "";refine cR (λh1=>?_) (λh1=>?_)
  ·rw[HC,Hv,Ie] at h1;obtain⟨aa,x2,rfl⟩:=eI (l:=ab) (by omega);obtain⟨v,hv,ah⟩:=kK (x:=D.str (Str.ofString "either")) (y:=D.str (Str.ofString "both")) (c:=(((aa++[x2]).map Hi.D).length:Int));obtain⟨z,hz,ez⟩:=yt (x:=x2) (y:=lst) ah.symm;refine⟨(aa++[x2]).map Hi.D,lst.D,rfl,cnz (by decide),Hu.of hv ?_⟩;rw[HS,JY];walk_at "";refine Hu.of Cq ?_;walk_at "";refine⟨aa.length,by rw[HC,Hv,Ie];exact ld _,⟨aa++[z],?_,hs.join hz⟩,?_⟩
   ·rw[ez,HS,show aa.length=(aa.map Hi.D).length by rw[Hv]];exact kU _ _ _
   ·simp only[List.length_set,List.length_append,List.length_singleton];omega
  ·rw[HC,Hv,Ie] at h1;have e:ab=[]:=JO.mp (by omega);subst e;rw[hK3];walk_at "";have h2:=hs.dep;have h3:=hs.rws;have e2:(([]++[lst]:List Hi).map Hi.dep).sum=lst.dep+0:=rfl;have e3:(([]++[lst]:List Hi).map Hi.rows).sum=lst.rows+0:=rfl;exact q lst (hs.ok lst (by simp)) (by omega) (by omega)
theorem Hi.rows_pos:∀s:Hi,0<s.rows
 | .row _ _ _=>Nat.one_pos
 | .nt s=>s.rows_pos
 | .bo s t=>Nat.add_pos_left s.rows_pos _
 | .ei s t=>Nat.add_pos_left s.rows_pos _
theorem rW(ha:0<a)(hb:0<b):2 ^ a+2 ^ b<=2 ^ (a+b):=by
 rw[Nat.pow_add];have h1:2<=2 ^ a:=Hz (by decide:2<=2 ^ 1) (JH (by decide) ha);have h2:2<=2 ^ b:=Hz (by decide:2<=2 ^ 1) (JH (by decide) hb);generalize 2 ^ a=x at h1;generalize 2 ^ b=y at h2
 rcases Nat.le_total x y with h | h
 ·have:=J8 y h1;omega
 ·have:=Ke x h2;omega
theorem Hi.num_rows:∀s:Hi,s.num<=2 ^ s.rows/\s.long<=s.rows
 | .row _ _ _=>⟨(by decide:1<=2 ^ 1),HD 1⟩
 | .nt s=>⟨Nat.one_le_two_pow,s.rows_pos⟩
 | .bo s t=>by
  obtain⟨a,b⟩:=Hi.num_rows s;obtain⟨c,d⟩:=Hi.num_rows t;refine⟨?_,?_⟩
  ·show s.num*t.num<=2 ^ (s.rows+t.rows)
   rw[Nat.pow_add];exact JF a c
  ·show s.long+t.long<=s.rows+t.rows;omega
 | .ei s t=>by
  obtain⟨a,b⟩:=Hi.num_rows s;obtain⟨c,d⟩:=Hi.num_rows t;refine⟨?_,?_⟩
  ·show s.num+t.num<=2 ^ (s.rows+t.rows)
   have:=rW s.rows_pos t.rows_pos
   omega
  ·show max s.long t.long<=s.rows+t.rows;omega
theorem Hi.rows_num:∀ {s:Hi},s.pn=true->s.rows<=s.num*s.long
 | .row _ _ _,_=>HD 1
 | .bo s t,h=>by
  obtain⟨h1,h2⟩:=Iu.mp h;have a:=Hi.rows_num h1;have b:=Hi.rows_num h2;show s.rows+t.rows<=s.num*t.num*(s.long+t.long);rw[Kc];have c:s.num*s.long<=s.num*t.num*s.long:=J8 _ (Nat.le_mul_of_pos_right _ t.num_pos);have d:t.num*t.long<=s.num*t.num*t.long:=J8 _ (Nat.le_mul_of_pos_left _ s.num_pos);omega
 | .ei s t,h=>by
  obtain⟨h1,h2⟩:=Iu.mp h;have a:=Hi.rows_num h1;have b:=Hi.rows_num h2;show s.rows+t.rows<=(s.num+t.num)*max s.long t.long;rw[Nat.add_mul];have c:s.num*s.long<=s.num*max s.long t.long:=Ke _ (Nat.le_max_left _ _);have d:t.num*t.long<=t.num*max s.long t.long:=Ke _ (Nat.le_max_right _ _);omega
theorem Hi.pl_rows:∀ {s:Hi} {t:Bool},(s.pl t).rows=s.rows
 | .row k ts b,true=>rfl
 | .row k ts b,false=>rfl
 | .nt s,t=>Hi.pl_rows (s:=s)
 | .bo s u,true=>by show (s.pl true).rows+(u.pl true).rows=_;rw[Hi.pl_rows,Hi.pl_rows];rfl
 | .bo s u,false=>by show (s.pl false).rows+(u.pl false).rows=_;rw[Hi.pl_rows,Hi.pl_rows];rfl
 | .ei s u,true=>by show (s.pl true).rows+(u.pl true).rows=_;rw[Hi.pl_rows,Hi.pl_rows];rfl
 | .ei s u,false=>by show (s.pl false).rows+(u.pl false).rows=_;rw[Hi.pl_rows,Hi.pl_rows];rfl
theorem qr(n:Nat)(r:Nat)(h:n<=2 ^ r)(hr:r<=60):Builtin.Int.intBits (n:Int)<=64:=by
 have:2 ^ r<=2 ^ 60:=JH (by decide) hr
 have e:(2:Nat) ^ 60=1152921504606846976:=by decide
 exact w5 (by omega) (by omega)
def entL(s:Hi):Zi:=[s.D,.int (s.pl false).num,.int (s.pl false).long,.int (s.pl true).num,.int (s.pl true).long]
def eN(s:Hi):D:=.lst (entL s)
def Hi.fits(s:Hi):Prop:=((s.pl false).num<5/\(s.pl false).long<4)\/((s.pl true).num<5/\(s.pl true).long<4)
theorem Hi.fits_rows{s:Hi}(h:s.fits):s.rows<=12:=by
 rcases h with⟨h1,h2⟩ | ⟨h1,h2⟩
 ·have:=Hi.rows_num (Hi.pl_pn (s:=s) (t:=false))
  rw[Hi.pl_rows] at this;exact Hz this (JF (show _<=4 by omega) (show _<=3 by omega))
 ·have:=Hi.rows_num (Hi.pl_pn (s:=s) (t:=true))
  rw[Hi.pl_rows] at this;exact Hz this (JF (show _<=4 by omega) (show _<=3 by omega))
theorem kL{s:Hi}{t:Bool}(h:s.rows<=50):Builtin.Int.intBits ((s.pl t).num:Int)<=64/\Builtin.Int.intBits ((s.pl t).long:Int)<=64:=by
 obtain⟨a,b⟩:=Hi.num_rows (s.pl t);rw[Hi.pl_rows] at a b;exact⟨qr _ _ a (by omega),w5 (by omega) (by omega)⟩
inductive fu(ds:Zi)(R:D->Prop):Prop
 | mk (w:D) (s t:Hi) (hh:ds=[w,eN s,eN t]/\(w=.str "both"\/w=.str "either")/\s.rows<=50/\t.rows<=50/\∀u:Hi,(u=.bo s t\/u=.ei s t)->R (eN u))
theorem fZ:∀ds R,fu ds R->ds.length=3:=λ_ _ ⟨_,_,_,e,_⟩=>by rw[e];rfl
theorem cQ:ax ["_law_sort","_law_one","_law_other","_law_few"] ["_law_sort","_law_one","_law_other"] (ak s__law_joined):=by walk_at "sc"
theorem dM(Z:Zz):Z.C 1 "_law_joined" ["_law_sort","_law_one","_law_other"] (Hg Z.K fu):=by
 refine cS Z.x43 cQ fZ λfa cdv A outer s H E ds R hr h=>?_;have hU:=hr.units;refine⟨_,(ae (aK (aD (eP hU) (ap 0) aR (ay _)) (ag (aB 3 cQ.nd (aW (ac (aC bT (G1 1) (G1 2)) (ac (aC aO (G1 1) (G1 2)) (ac (aC aO (G1 1) (G1 2)) (ac (aN (wx rfl) rfl Z.x54 yk (ac (G1 1) (ac (G1 2) af))) af))))))) (ag (aB 3 cQ.nd (aW (ac (aC aO (G1 1) (G1 2)) (ac (aN (wx rfl) rfl Z.x54 yk (ac (G1 1) (ac (G1 2) af))) (ac (aC bT (G1 1) (G1 2)) (ac (aC aO (G1 1) (G1 2)) af)))))))) (ag (aA (aC aO (aW (ac (bf (ac (ap 0) (ac (G1 1) (ac (G1 2) af)))) af)) (ap 3))))),?_⟩;obtain⟨w,s,t,rfl,hw,hs,ht,q⟩:=h;unfold eN entL at q ⊢;have b1:=kL (t:=false) hs;have b2:=kL (t:=true) hs;have b3:=kL (t:=false) ht;have b4:=kL (t:=true) ht
 rcases hw with rfl | rfl
 ·walk_at "";refine⟨mo2 b1.1 b3.1,?_⟩
  rw[show ((s.pl false).num:Int)*(t.pl false).num=(((Hi.bo s t).pl false).num:Int) from(Int.natCast_mul _ _).symm,show ((s.pl false).long:Int)+(t.pl false).long=(((Hi.bo s t).pl false).long:Int) from(KN _ _).symm,
   show ((s.pl true).num:Int)+(t.pl true).num=(((Hi.bo s t).pl true).num:Int) from(KN _ _).symm,show max ((s.pl true).long:Int) (t.pl true).long=(((Hi.bo s t).pl true).long:Int) by show _=((max (s.pl true).long (t.pl true).long:Nat):Int);omega]
  exact q _ (.inl rfl)
 ·walk_at "";refine G0 (by decide) ?_;walk_at "";refine⟨mo2 b2.1 b4.1,?_⟩
  rw[show ((s.pl false).num:Int)+(t.pl false).num=(((Hi.ei s t).pl false).num:Int) from(KN _ _).symm,show max ((s.pl false).long:Int) (t.pl false).long=(((Hi.ei s t).pl false).long:Int) by show _=((max (s.pl false).long (t.pl false).long:Nat):Int);omega,
   show ((s.pl true).num:Int)*(t.pl true).num=(((Hi.ei s t).pl true).num:Int) from(Int.natCast_mul _ _).symm,show ((s.pl true).long:Int)+(t.pl true).long=(((Hi.ei s t).pl true).long:Int) from(KN _ _).symm]
  exact q _ (.inr rfl)
inductive jc(ds:Zi)(R:D->Prop):Prop
 | mk (s:Hi) (hh:ds=[eN s]/\(s.fits->R (.bl true))/\(¬ s.fits->R (.bl false)))
theorem iO:∀ds R,jc ds R->ds.length=1:=λ_ _ ⟨_,e,_⟩=>by rw[e];rfl
theorem m5:ax ["_law_one"] ["_law_one"] (ak s__law_fits):=by walk_at "sc"
theorem e8(Z:Zz):Z.C 1 "_law_fits" ["_law_one"] (Hg Z.K jc):=by
 refine cS Z.x44 m5 iO λfa cdv A outer s H E ds R hr h=>?_;have hU:=hr.units;refine⟨_,(ag (aA (yp (gn (ce sQ (G1 0) am (ay _)) (dm (ce sQ (G1 0) am (ay _)))) (dm (gn (ce sQ (G1 0) am (ay _)) (dm (ce sQ (G1 0) am (ay _)))))))),?_⟩;obtain⟨s,rfl,q1,q2⟩:=h;unfold eN entL;walk_at "";unfold Hi.fits at q1 q2;have x1:((s.pl false).num:Int)<5↔(s.pl false).num<5:=by omega
 have x2:((s.pl false).long:Int)<4↔(s.pl false).long<4:=by omega
 have x3:((s.pl true).num:Int)<5↔(s.pl true).num<5:=by omega
 have x4:((s.pl true).long:Int)<4↔(s.pl true).long<4:=by omega
 have aa:((s.pl false).num<5->¬ (s.pl false).long<4)->if ((s.pl true).num:Int)<5 then R (D.bl (decide (((s.pl true).long:Int)<4))) else R (D.bl false):=λhn=>cR (λa=>by
  by_cases b:((s.pl true).long:Int)<4
  ·rw[IF b];exact q1 (.inr ⟨x3.mp a,x4.mp b⟩)
  ·rw[IQ b];exact q2 (λh=>h.elim (λz=>hn z.1 z.2) λz=>b (x4.mpr z.2))) (λa=>q2 λh=>h.elim (λz=>hn z.1 z.2) λz=>a (x3.mpr z.1))
 exact cR (λa=>cR (λb=>q1 (.inl ⟨x1.mp a,x2.mp b⟩)) λb=>aa λ_ z=>b (x2.mpr z)) (λa=>aa λz _=>a (x1.mpr z))
theorem sW(l r:List α)(k:Nat)(hk:r.length=k)(h0:0<k):cut (l++r) none (some (-(k:Int)))=l:=by
 unfold cut;rw[HT.sIx_none];have:HT.sIx (l++r).length (l++r).length (some (-(k:Int)))=l.length:=by
  show (if -(k:Int)<0 then (-(k:Int)+((l++r).length:Int)).toNat else _)=_
  rw[HU (by omega),HC];omega
 rw[this,List.drop_zero,Nat.sub_zero,List.take_left]
theorem atm2(l:List α)(x y:α):Hl (l++[x]++[y]) (-2)=some x:=by
 unfold Hl ixN;rw[HQ (by omega)];simp only[List.length_append,List.length_singleton];rw[HU (by omega)];show (l++[x]++[y])[(-2+((l.length+1+1:Nat):Int)).toNat]?=some x;rw[show (-2+((l.length+1+1:Nat):Int)).toNat=l.length by omega];simp
inductive gi(ds:Zi)(R:D->Prop):Prop
 | mk (ss:List Hi) (c:Int) (names:Zb) (m:Nat) (hh:ds=[.lst (ss.map eN),.int c,.lst (names.map D.str)]/\Builtin.Int.intBits c<=1048576/\names.length<=60/\dU names ss m/\m<=60/\(∀s∈ss,s.fits)/\∀ss':List Hi,dU names ss' (m+1)->(∀s∈ss',s.fits)->R (.lst (ss'.map eN)))
theorem gK:∀ds R,gi ds R->ds.length=3:=λ_ _ ⟨_,_,_,_,e,_⟩=>by rw[e];rfl
theorem qJ:(Hi.row k ts b).fits:=.inl ⟨by show 1<5;decide,by show 1<4;decide⟩
theorem dh:ax ["_law_row_here","_law_cell_here","_law_names_here","_law_last","_law_laid"] ["_law_row_here","_law_cell_here","_law_names_here"] (ak s__law_grown):=by walk_at "sc"
theorem jP(Z:Zz):Z.C 4 "_law_grown" ["_law_row_here","_law_cell_here","_law_names_here"] (Hg Z.K gi):=by
 refine cS Z.x45 dh gK λfa cdv A outer s H E ds R hr h=>?_;have hU:=hr.units;refine⟨_,(ae (aB 3 dh.nd (fe fh (ap 0) (dE dD am) (λ_ _=>rfl))) (ae (aK (aD (eP hU) (aC dB (ap 1) am) am (ay _)) (ag (aA (aC aO (iN (ap 0) cX (bX (dE dD am))) (aW (ac (aW (ac (bf (ac aR (ac (G1 3) af))) (ac (G1 3) (ac (G1 3) (ac (G1 3) (ac (G1 3) af)))))) af))))) aE) (ae (aK (DW.dt (l7 (aD (eP hU) (aC dB (ap 1) am) am (ay _)) (iL (aD sO (aN lC rfl Z.x53 fP (ac (ap 0) af)) am (ay _))))) (ae (aB 4 dh.nd (au (dM Z) (rm hr) rfl (ac (fe fh (aW (ac aR (ac aR af))) (aC dB (aC cO (ap 1) am) am) (λ_ _=>rfl)) (ac (fe fh (ap 0) (dE dD am) (λ_ _=>rfl)) (ac (ap 3) af))))) (ag (aK (bU (au (e8 Z) (rm hr) rfl (ac (ap 4) af))) (ag (aA (aC aO (iN (ap 0) cX (bX (dE dD am))) (aW (ac (ap 4) af))))) aE))) aE) (ag (aA (aC aO (ap 0) (aW (ac (aW (ac (au (cJ Z) (rm hr) rfl (ac (aC cO (ap 1) am) (ac (ap 2) af))) (ac am (ac am (ac am (ac am af)))))) af)))))))),?_⟩;obtain⟨ss,c,names,m,rfl,hc,hn,hs,hm,hf,q⟩:=h;obtain⟨aa,lst,rfl⟩:=eI hs.pos;rw[HS,JY];refine ar λK1 hK1=>?_;walk_at "";refine Hu.of Cq ?_;walk_at "";rw[hK1];have ln:(aa++[lst]).length<=60:=Hz hs.len hm;rw[HC,Ie] at ln;have c1:cut (aa.map eN++[eN lst]) none (some (-1))=aa.map eN:=sW (aa.map eN) [eN lst] 1 rfl (by decide);refine ar λK2 hK2=>?_;walk_at "";refine⟨cnz (by decide),cR (λ_=>?_) λ_=>?_⟩
 ·rw[c1];unfold eN entL;walk_at "";refine⟨by show 5<=9000;decide,by rw[Hv];omega,?_⟩;have:=q (aa++[.nt lst]) hs.not λs h=>by
   rcases HZ.mp h with h | h
   ·exact hf s (HV _ h)
   ·rw[HG.mp h];exact(hf lst (by simp)).symm
  rw[HS] at this;exact this
 rw[hK2];refine ar λK3 hK3=>?_;have app:∀z,K3 [.dat (.lst (aa.map eN++[eN lst])),.dat (.int c),.dat (.lst (names.map D.str)),.dat (eN lst),z]:=λz=>by
  rw[hK3];walk_at "";refine⟨r8 (by decide) (by decide +kernel),_,names,rfl,Iz hc,by omega,λk ts b tm tb bb=>?_⟩;walk_at "";refine⟨by show 5<=9000;decide,by rw[HC,Hv,Ie];omega,?_⟩;have:=q (aa++[lst]++[.row k ts b]) (hs.row (lg tm tb bb) rfl rfl) λs h=>by
   rcases HZ.mp h with h | h
   ·exact hf s h
   ·rw[HG.mp h];exact qJ
  rw[HS,HS] at this;exact this
 walk_at "";refine⟨cnz (by decide),cR (λ_=>cR (λh1=>?_) λ_=>app _) λ_=>app _⟩;rw[HC,Hv,Ie] at h1;obtain⟨ab,x2,rfl⟩:=eI (l:=aa) (by omega);obtain⟨v,hv,ah⟩:=kK (x:=D.str (Str.ofString "both")) (y:=D.str (Str.ofString "either")) (c:=c.fdiv 4);have c2:cut ((ab++[x2]).map eN++[eN lst]) none (some (-2))=ab.map eN:=by
  rw[HS,J5];exact sW (ab.map eN) _ 2 rfl (by decide)
 have g2:Hl ((ab++[x2]).map eN++[eN lst]) (-2)=some (eN x2):=by
  rw[HS];exact atm2 _ _ _
 refine⟨r8 (by decide) (by decide +kernel),cnz (by decide),Hu.of hv ?_⟩;walk_at "";refine Hu.of g2 ?_;walk_at "";refine⟨v,x2,lst,rfl,ah,Hz (Hi.fits_rows (hf x2 (by simp))) (by decide),Hz (Hi.fits_rows (hf lst (by simp))) (by decide),λu hu=>?_⟩;walk_at "";refine⟨u,rfl,λhfit=>?_,λ_=>?_⟩
 ·walk_at "";rw[c2];rw[HC,Ie] at ln;refine⟨by rw[Hv];omega,?_⟩;have j:=hs.join hu;have:=q (ab++[u]) ⟨j.ok,Jx j.dep,Jx j.rws,j.pos⟩ λs h=>by
   rcases HZ.mp h with h | h
   ·exact hf s (by simp[h])
   ·rw[HG.mp h];exact hfit
  rw[HS] at this;exact this
 ·walk_at "";exact app _
def few(s:Hi):Prop:=(s.pl false).num<=4/\(s.pl false).long<=3
inductive fk(ds:Zi)(R:D->Prop):Prop
 | mk (cs:Ze) (names:Zb) (hh:ds=[.lst (cs.map D.int),.lst (names.map D.str)]/\cs.length<=50/\(∀c∈cs,Builtin.Int.intBits c<=1048576)/\names.length<=60/\∀s:Hi,s.o2 names->s.dep<=cs.length+2->few s->R s.D)
theorem fT:∀ds R,fk ds R->ds.length=2:=λ_ _ ⟨_,_,e,_⟩=>by rw[e];rfl
theorem aQ:ax ["_law_cells","_law_names_here","_law_row_here","_law_cell_here","_law_found","_law_one","_law_both"] ["_law_cells","_law_names_here"] (ak s__law_saying):=by walk_at "sc"
theorem jq(Z:Zz):Z.C 5 "_law_saying" ["_law_cells","_law_names_here"] (Hg Z.K fk):=by
 refine cS Z.x46 aQ fT λfa cdv A outer s H E ds R hr h=>?_;have hU:=hr.units;refine⟨_,(ae (aB 2 aQ.nd (aW (ac (aW (ac (au (cJ Z) (rm hr) rfl (ac (aN lC rfl Z.x53 fP (ac (ap 0) af)) (ac (ap 1) af))) (ac am (ac am (ac am (ac am af)))))) af))) (ae (bD Ih rfl (ap 0) (aw 3 aQ.nd) (ag (aB 2 aQ.nd (au (jP Z) (rm hr) rfl (ac (ap 2) (ac (ap 3) (ac (ap 1) af))))))) (ae (aB 4 aQ.nd (G1 2)) (ae (bD Ih rfl (iN (ap 2) (bX am) cX) (aw 5 aQ.nd) (ae (aB 6 aQ.nd (au (dM Z) (rm hr) rfl (ac (fe fh (aW (ac aR (ac aR af))) (aC dB (aN lC rfl Z.x53 fP (ac (ap 2) af)) am) (λ_ _=>rfl)) (ac (ap 4) (ac (ap 5) af))))) (ag (aK (bU (au (e8 Z) (rm hr) rfl (ac (ap 6) af))) (ag (aB 4 aQ.nd (ap 6))) aE)))) (ae (aK (DW.dt (mM (aD sO (G1 4) am (ay _)) (iA (aD sO (G1 4) am (ay _))))) (ag (aA (bf (ac aR (ac (G1 4) af))))) aE) (ag (aA (G1 4)))))))),?_⟩;obtain⟨cs,names,rfl,hl,hb,hn,q⟩:=h;walk_at "";rw[Hv];refine⟨_,names,rfl,Hz (w5 (by omega) (by omega)) (by decide),by omega,λk ts b tm tb bb=>?_⟩;walk_at "";simp only[lQ];walk_at "";refine⟨by show 5<=9000;decide,λi δ=>∃ss x y z u,δ=[.dat (.lst (cs.map D.int)),.dat (.lst (names.map D.str)),.dat (.lst (ss.map eN)),x,y,z,u]/\dU names ss (i+1)/\∀s∈ss,s.fits,⟨[.row k ts b],_,_,_,_,rfl,⟨λs hs=>by rw[HG.mp hs];exact lg tm tb bb,by show 1+0<=0+1;decide,by show 1+0<=0+1;decide,Nat.one_pos⟩,λs hs=>by rw[HG.mp hs];exact qJ⟩,?_,?_⟩
 ·rintro i d δ hd ⟨ss,x,y,z,u,rfl,hs,hf⟩;rw[HM] at hd
  cases hc:cs[i]? with
  | none=>rw[hc] at hd;cases hd
  | some c =>
   rw[hc] at hd
   cases hd
   have aq:=hb c (HY hc)
   have aa:=tw hc
   walk_at "";refine⟨ss,c,names,i+1,rfl,aq,hn,hs,by omega,hf,λss' hs' hf'=>?_⟩;walk_at "";exact⟨ss',rfl,hs',hf'⟩
 ·rintro δ ⟨ss,x,y,z,u,rfl,hs,hf⟩;rw[Hv] at hs
  cases ss with
  | nil=>exact absurd hs.pos (by decide)
  | cons s0 r =>
  walk_at "";simp only[lQ];walk_at "";rw[qd];have ai:s0.dep+(r.map Hi.dep).sum<=cs.length+1:=hs.dep;refine⟨λi δ=>∃f x z u,δ=[.dat (.lst (cs.map D.int)),.dat (.lst (names.map D.str)),.dat (.lst (eN s0::r.map eN)),x,.dat (eN f),z,u]/\f.o2 names/\f.fits/\f.dep+((r.drop i).map Hi.dep).sum<=cs.length+1,⟨s0,_,_,_,rfl,hs.ok s0 (by simp),hf s0 (by simp),by rw[List.drop_zero];exact ai⟩,?_,?_⟩
  ·rintro i d δ hd ⟨f,x,z,u,rfl,fo,ff,fd⟩;rw[HM] at hd
   cases hc:r[i]? with
   | none=>rw[hc] at hd;cases hd
   | some t =>
    rw[hc] at hd
    cases hd
    have ab:=HY hc
    have an:=hs.ok t (Hx _ ab)
    have al:=hf t (Hx _ ab)
    have aa:=tw hc
    have aj:r.drop i=t::r.drop (i+1):=by
     rw[JG aa]
     congr 1
     exact(HL.mp hc).2
    rw[aj,Im,List.sum_cons] at fd;obtain⟨v,hv,ao⟩:=kK (x:=D.str (Str.ofString "either")) (y:=D.str (Str.ofString "both")) (c:=((eN s0::r.map eN).length:Int));walk_at "";refine⟨cnz (by decide),Hu.of hv ?_⟩;walk_at "";refine⟨v,f,t,rfl,ao.symm,Hz (Hi.fits_rows ff) (by decide),Hz (Hi.fits_rows al) (by decide),λw hw=>?_⟩;walk_at "";have pf:=f.dep_pos;have pt:=t.dep_pos;have dw:w.dep<=f.dep+t.dep:=by
     rcases hw with rfl | rfl
     ·show max f.dep t.dep+1<=_;omega
     ·show max f.dep t.dep+1<=_;omega
    have ow:w.o2 names:=yF hw fo an
    refine⟨w,rfl,λhfit=>?_,λ_=>?_⟩
    ·walk_at "";exact⟨w,rfl,ow,hfit,by omega⟩
    ·walk_at "";exact⟨f,rfl,fo,ff,by omega⟩
  ·rintro δ ⟨f,x,z,u,rfl,fo,ff,fd⟩;unfold eN entL;walk_at "";have fd2:f.dep<=cs.length+1:=by omega
   have ah:¬ few f->few (.nt f):=λh=>by
    rcases ff with h1 | h1
    ·exact absurd ⟨by omega,by omega⟩ h
    ·exact⟨show (f.pl true).num<=4 by omega,show (f.pl true).long<=3 by omega⟩
   refine cR (λh1=>?_) (λh1=>cR (λh2=>?_) (λh2=>?_))
   ·exact q (.nt f) fo (by show f.dep+1<=_;omega) (ah λh=>by have:=h.1;omega)
   ·exact q (.nt f) fo (by show f.dep+1<=_;omega) (ah λh=>by have:=h.2;omega)
   ·exact q f fo (by omega) ⟨by omega,by omega⟩
def yE:Pc:=((none,false),(none,false))
theorem B3(H:G7 nm c)(h:o∉nm)(w:Ze):cfs (c.zip w) o=0:=Decidable.byContradiction λz=>h (H.cfs z)
theorem Et(H:G7 nm c)(h:o∉nm)(ns:Zb):G8 c (o::ns)=G8 c ns:=by
 show woW c o _ (G8 c ns)=_
 unfold woW;have e1:(G8 c ns).filter (λw=>decide (cfs (c.zip w) o=0))=G8 c ns:=KO.mpr λw _=>IF (B3 H h w);have e2:(G8 c ns).filter (λw=>decide (0<cfs (c.zip w) o))=[]:=List.filter_eq_nil_iff.mpr λw _=>by rw[B3 H h w];decide
 rw[e1,e2,List.flatMap_nil,IE]
theorem EA(H:G7 nm c)(h:o∉nm)(W:List (List Int)):pcs nm c [] [] o W=yE:=by
  unfold pcs
  suffices ∀e:Hb×Hb,W.foldl (λe w =>
    (if 0<cfs (c.zip w) o then tgt true e.1 (some (cnd nm c [] [] o w).1,(cnd nm c [] [] o w).2) else e.1,
     if cfs (c.zip w) o<0 then tgt false e.2 (some (cnd nm c [] [] o w).1,(cnd nm c [] [] o w).2) else e.2)) e=e from this _
  induction W with
  | nil=>exact λe=>rfl
  | cons w W ih =>
    intro e;rw[Kn,B3 H h w];exact ih e
theorem Da(h:o∉nm):Hs nm o=nm:=KO.mpr λk hk=>IF λz=>h (z ▸ hk)
theorem AE{α:Type}{ok:α->Bool}{pc:α->Pc}{K:List α}(h:∀c∈K,pc c=yE):wW ok pc K=if K.any ok=true then [yE] else []:=by
 suffices ∀aa:List Pc,aa=[]\/aa=[yE]->K.foldl (λaa c=>if ok c=true then rT aa (pc c) else aa) aa=if K.any ok=true then [yE] else aa from this [] (.inl rfl)
 induction K with
 | nil=>exact λ_ _=>rfl
 | cons c K ih =>
  intro aa ht;rw[Kn,JN,h c (HB ..)];have ih:=ih λc hc=>h c (Hx _ hc)
  cases e:ok c with
  | false=>exact ih aa ht
  | true =>
   have e1:rT aa yE=[yE]:=by rcases ht with rfl | rfl<;>rfl
   rw[HU rfl,e1,ih _ (.inr rfl)];simp
theorem DJ{a:Hi}{nm:Zb}{B:Nat}{o:Str}(T:One a nm B)(f:(a.pl false).few)(h:o∉nm):wm nm o (a.pl false).kr=if (a.pl false).kr.any (ok1 nm)=true then [yE] else []:=by
 unfold wm;rw[Da h,AE (pc:=pc1 nm o nm) λc hc=>EA (T.fit f hc).H h _];have e:(a.pl false).kr.any (ok1 (o::nm))=(a.pl false).kr.any (ok1 nm):=by
  have:∀K:List (List Rw),(∀c∈K,G7 nm c)->K.any (ok1 (o::nm))=K.any (ok1 nm):=λK=>by
   induction K with
   | nil=>exact λ_=>rfl
   | cons c K ih =>
    intro hk;rw[JN,JN,ih λc hc=>hk c (Hx _ hc)];unfold ok1;rw[Et (hk c (HB ..)) h]
  exact this _ λc hc=>(T.fit f hc).H
 rw[e]
theorem km{S:Zb}{p:Str->Bool}:∀ {s:Hi},s.ok S->(∀n∈s.nms,p n=true)->s.ok (S.filter p)
 | .row k ts b,h,hn=>⟨⟨by
   have e:(ts.map (·.1)).filter p=ts.map (·.1):=KO.mpr hn
   rw[<- e];exact h.1.sub.filter p,h.1.nz,h.1.bits⟩,h.2⟩
 | .nt s,h,hn=>km (s:=s) h hn
 | .bo s t,h,hn=>⟨km h.1 λn z=>hn n (HV _ z),km h.2 λn z=>hn n (HP _ z)⟩
 | .ei s t,h,hn=>⟨km h.1 λn z=>hn n (HV _ z),km h.2 λn z=>hn n (HP _ z)⟩
theorem one4(N:Df names)(o:s.o2 names)(d:s.dep<=60):∃nm,One s nm 200/\∀n∈nm,n∈names:=by
 refine⟨names.filter λk=>decide (k∈s.nms),⟨d,km o.1 λk z=>IF z,o.2,(vE N.srt).filter _,N.nd.filter _,λk=>?_,Hz (IJ ..) N.len,by decide⟩,λn hn=>(HH.mp hn).1⟩;rw[HH,decide_eq_true_iff];exact⟨λh=>h.2,λh=>⟨Hi.nms_sub o.1 k h,h⟩⟩
theorem FT(k:Kd):id (decide (kdS k∈[Str.ofString "least",Str.ofString "more"]))=true:=by cases k<;>decide
theorem qe(a b:Nat):max (a:Int) (b:Int)=((max a b:Nat):Int):=by omega
inductive bu(n:Nat)(ds:Zi)(R:D->Prop):Prop
 | mk (s:Hi) (t:Bool) (hh:ds=[s.D,.bl t]/\s.dep<=n/\s.rows<=60/\R (.lst [.int (s.pl (!t)).num,.int (s.pl (!t)).long]))
theorem gb(n:Nat):∀ds R,bu n ds R->ds.length=2:=λ_ _ ⟨_,_,e,_⟩=>by rw[e];rfl
theorem fg:∀ds R,¬ bu 0 ds R:=λ_ _ ⟨s,_,_,h,_⟩=>by have:=s.dep_pos;omega
theorem bB:ax ["_law_saying_here","_law_so","_law_one","_law_long","_law_other","_law_longer"] ["_law_saying_here","_law_so"] (ak s__law_counts):=by walk_at "sc"
theorem gL(Z:Zz)(dg:Z.C (1+n) "_law_counts" ["_law_saying_here","_law_so"] (Hg Z.K (bu n))):Z.C (1+n+1) "_law_counts" ["_law_saying_here","_law_so"] (Hg Z.K (bu (n+1))):=by
 refine cS (k:=1+n) Z.x47 bB (gb (n+1)) λfa cdv A outer s H E ds R hr h=>?_;have hU:=hr.units;refine⟨_,(ae (aK (aD (o_in hU) (G1 0) (aW (ac aR (ac aR af))) rfl) (ag (aA (aW (ac am (ac am af))))) aE) (ae (aK (aD (eP hU) (G1 0) aR (ay _)) (ag (aA (au dg (hr.mono (by omega)) rfl (ac (G1 0) (ac (mz (ap 1)) af))))) aE) (ae (sX (au dg (hr.mono (by omega)) rfl (ac (G1 0) (ac (ap 1) af))) (tz (n:=2) rfl (aH (aw 2 bB.nd) (aH (aw 3 bB.nd) bC)))) (ae (sX (au dg (hr.mono (by omega)) rfl (ac (G1 0) (ac (ap 1) af))) (tz (n:=2) rfl (aH (aw 4 bB.nd) (aH (aw 5 bB.nd) bC)))) (ae (aK (aD (eP hU) (ce (eP hU) (G1 0) aR (ay _)) (ap 1) (ay _)) (ag (aA (aW (ac (aC bT (ap 2) (ap 4)) (ac (aC aO (ap 3) (ap 5)) af))))) aE) (ag (aA (aW (ac (aC aO (ap 2) (ap 4)) (ac (aN (wx rfl) rfl Z.x54 yk (ac (ap 3) (ac (ap 5) af))) af)))))))))),?_⟩;obtain⟨s,t,rfl,hd,hr,q⟩:=h;have pb:∀(x:Hi) (b:Bool),x.rows<=60->Builtin.Int.intBits ((x.pl b).num:Int)<=64:=λx b h=>qr _ x.rows (by have:=(Hi.num_rows (x.pl b)).1;rwa [Hi.pl_rows] at this) h
 cases s with
 | row k ts b =>
  unfold Hi.D lc;refine ar λK1 hK1=>?_;walk_at "";exact⟨["least","more"],rfl,ifp (FT k) (by cases t<;>exact q)⟩
 | nt s =>
  have hd:s.dep+1<=n+1:=hd
  obtain⟨w,hw⟩:∃w:Str,w=Str.ofString "not":=⟨_,rfl⟩;rw[show (Hi.nt s).D=.tup [.str w,s.D] by rw[hw];rfl];refine ar λK1 hK1=>?_;walk_at "";refine⟨["least","more"],rfl,G0 (by rw[hw];decide) ?_⟩;rw[hK1];refine ar λK2 hK2=>?_;walk_at "";exact ifp hw ⟨s,!t,rfl,by omega,hr,q⟩
 | bo s u =>
  have hd:max s.dep u.dep+1<=n+1:=hd
  have hr:s.rows+u.rows<=60:=hr
  obtain⟨w,hw⟩:∃w:Str,w=Str.ofString "both":=⟨_,rfl⟩;rw[show (Hi.bo s u).D=.tup [.str w,s.D,u.D] by rw[hw];rfl];refine ar λK1 hK1=>?_;walk_at "";refine⟨["least","more"],rfl,G0 (by rw[hw];decide) ?_⟩;rw[hK1];refine ar λK2 hK2=>?_;walk_at "";refine G0 (by rw[hw];decide) ?_;rw[hK2];refine ar λK3 hK3=>?_;walk_at "";refine⟨s,t,rfl,by omega,by omega,?_⟩;walk_at "";rw[hK3];refine ar λK4 hK4=>?_;walk_at "";refine⟨u,t,rfl,by omega,by omega,?_⟩;walk_at "";rw[hK4];refine ar λK5 hK5=>?_;walk_at "";rw[show decide (w=Str.ofString "both")=true from IF hw]
  cases t with
  | true=>exact ifp rfl ⟨IntMulOk.of_le (pb s false (by omega)) (pb u false (by omega)) (by decide),q⟩
  | false =>
   refine G0 (by decide) ?_;rw[hK5];walk_at "";rw[qe];exact q
 | ei s u =>
  have hd:max s.dep u.dep+1<=n+1:=hd
  have hr:s.rows+u.rows<=60:=hr
  obtain⟨w,hw⟩:∃w:Str,w=Str.ofString "either":=⟨_,rfl⟩;rw[show (Hi.ei s u).D=.tup [.str w,s.D,u.D] by rw[hw];rfl];refine ar λK1 hK1=>?_;walk_at "";refine⟨["least","more"],rfl,G0 (by rw[hw];decide) ?_⟩;rw[hK1];refine ar λK2 hK2=>?_;walk_at "";refine G0 (by rw[hw];decide) ?_;rw[hK2];refine ar λK3 hK3=>?_;walk_at "";refine⟨s,t,rfl,by omega,by omega,?_⟩;walk_at "";rw[hK3];refine ar λK4 hK4=>?_;walk_at "";refine⟨u,t,rfl,by omega,by omega,?_⟩;walk_at "";rw[hK4];refine ar λK5 hK5=>?_;walk_at "";rw[show decide (w=Str.ofString "both")=false by rw[hw];decide]
  cases t with
  | true =>
   refine G0 (by decide) ?_;rw[hK5];walk_at "";rw[qe];exact q
  | false=>exact ifp rfl ⟨IntMulOk.of_le (pb s true (by omega)) (pb u true (by omega)) (by decide),q⟩
theorem iq(Z:Zz):Z.C 61 "_law_counts" ["_law_saying_here","_law_so"] (Hg Z.K (bu 60)):=Nat.rec (motive:=λn=>Z.C (1+n) "_law_counts" ["_law_saying_here","_law_so"] (Hg Z.K (bu n))) (lT Z.x47 _ fg) (λ_=>gL Z) 60
inductive fB(ds:Zi)(R:D->Prop):Prop
 | mk (s:Hi) (n:Str) (nm:Zb) (hh:ds=[s.D,.str n]/\One s nm 200/\((s.pl false).few->R .non)/\(¬ (s.pl false).few->R (.exn "TooMany" "saying" s.D)))
theorem fY:∀ds R,fB ds R->ds.length=2:=λ_ _ ⟨_,_,_,e,_⟩=>by rw[e];rfl
theorem cP:ax ["_law_saying_here","_law_name","_law_caught_here","_law_e"] ["_law_saying_here","_law_name"] (ak s__law_caught):=by walk_at "sc"
theorem ia(Z:Zz):Z.C 66 "_law_caught" ["_law_saying_here","_law_name"] (Hg Z.K fB):=by
 refine cS Z.x48 cP fY λfa cdv A outer s H E ds R hr h=>?_;have hU:=hr.units;refine⟨_,(ae (aB 2 cP.nd cm) (ae (Fl (cs:=cD) 2 3 ⟨rfl,rfl⟩ cP.nd (by decide) rfl Z.er.mR Z.er.un λpins E=>(ag (xi (iR Z) (rm hr) rfl (ac (ap 0) (ac (ap 1) af))))) (ag (aA (ap 2))))),?_⟩;obtain⟨s,n,nm,rfl,T,q,q0⟩:=h;walk_at "";exact⟨s,n,nm,200,rfl,T,q,λh=>⟨by decide,q0 h⟩⟩
inductive iI(ds:Zi)(R:D->Prop):Prop
 | mk (s:Hi) (n:Str) (nm:Zb) (hh:ds=[s.D,.str n]/\One s nm 200/\s.dep<=59/\s.rows<=60/\R (.bl true))
theorem iQ:∀ds R,iI ds R->ds.length=2:=λ_ _ ⟨_,_,_,e,_⟩=>by rw[e];rfl
theorem cF:ax ["_law_saying_here","_law_name","_law_many","_law_long","_law_e"] ["_law_saying_here","_law_name"] (ak s__law_good):=by walk_at "sc"
theorem c6(Z:Zz):Z.C 67 "_law_good" ["_law_saying_here","_law_name"] (Hg Z.K iI):=by
 refine cS Z.x49 cF iQ λfa cdv A outer s H E ds R hr h=>?_;have hU:=hr.units;refine⟨_,(ae (sX (au (iq Z) (rm hr) rfl (ac (ap 0) (ac gG af))) (tz (n:=2) rfl (aH (aw 2 cF.nd) (aH (aw 3 cF.nd) bC)))) (ae (aB 4 cF.nd (au (ia Z) (rm hr) rfl (ac (ap 0) (ac (ap 1) af)))) (ae (aK (DW.dt (l7 (aD sQ (ap 2) am (ay _)) (iL (aD sQ (ap 3) am (ay _))))) (ag (aA (ce vb (ap 4) cm (ay _)))) aE) (ae (aK (DW.dt (mM (pI (bU (zR Z.er.tab rfl Z.x62 rfl Z.er.a_t (ap 4)))) (iA (bU (zN Z.er.tab rfl Z.x62 rfl rfl Z.er.an Z.er.aq (ap 4)))))) (ag (aA gG)) aE) (ag (aA (gn (Au Z.er.tab rfl Z.x62 rfl Z.x63 (ap 4)) (dm (ce (eP hU) (GE Z.er.tab (ap 4)) (ap 0) (ay _)))))))))),?_⟩;obtain⟨s,n,nm,rfl,T,hd,hr,q⟩:=h;refine ar λK1 hK1=>?_;walk_at "";refine⟨s,true,rfl,by omega,hr,?_⟩;walk_at "";rw[hK1];refine ar λK2 hK2=>?_;walk_at "";refine⟨s,n,nm,rfl,T,λf=>?_,λf=>?_⟩
 ·walk_at "";rw[hK2];refine ar λK3 hK3=>?_;walk_at "";have f1:=f.1;have f2:=f.2;exact ifp (by omega) (ifp (by omega) q)
 ·walk_at "";rw[hK2];refine ar λK3 hK3=>?_;walk_at "";have tl:K3 [.dat s.D,.dat (.str n),.dat (.int (s.pl false).num),.dat (.int (s.pl false).long),.dat (.exn "TooMany" "saying" s.D)]:=by
   rw[hK3];refine ar λK4 hK4=>?_;walk_at "";refine⟨true,rfl,G0 (by decide) ⟨false,rfl,G0 (by decide) ?_⟩⟩;rw[hK4];walk_at "";exact⟨true,rfl,ifp rfl ⟨by decide,Ec rfl (by omega) q⟩⟩
  refine cR (λh4=>cR (λh3=>absurd ⟨by omega,by omega⟩ f) λh3=>tl) λh4=>tl
theorem jY:ax ["_law_script","_law_names_here","_law_other","_law_saying_here","_law_wild_here","_law_found"] ["_law_script"] (ak s_law):=by walk_at "sc"
theorem BY(Z:Zz){fa:Addr}{fd:FuncData}(F:Fun Z.K "law" "law" s_law fa fd):f7 Z.P Z.w Z.K Z.mg Z.base CX0 68 fa fd ["_law_script"] (Hg Z.K fLaw):=by
 refine Fa F jY (λds R ⟨ns,e,_⟩=>by rw[e];rfl) λcdv A outer s H E ds R hr h=>?_;have hU:=hr.units;refine⟨_,(ae (aB 1 jY.nd (au (jV Z) (rm hr) rfl (ac (au (kB Z) (rm hr) rfl (ac (ap 0) (ac am af))) af))) (ae (aB 2 jY.nd (fe fh (bZ ["_law_letter"] [(1,"_law_names_here")] rfl rfl (by decide +kernel) rfl (by decide +kernel) (bV ⟨rfl,trivial⟩) (λ_=>cj rfl) (a7 ⟨⟨rfl,rfl,.inl rfl⟩,trivial⟩) (E3 aR) λ_ _ _ _ _=>⟨(aw 0 (show List.Nodup (["_law_letter","_law_names_here"]:Zb) by decide +kernel)),(gj (aD (nP hU) (ap 0) (ap 1) rfl)),(ap 0)⟩) am (λ_ _=>rfl))) (ae (aB 3 jY.nd (au (jq Z) (rm hr) rfl (ac (iN (ap 0) (bX am) (bX am)) (ac (ap 1) af)))) (ae (aB 4 jY.nd (au (kG Z) (rm hr) rfl (ac (iN (ap 0) (bX am) (bX am)) (ac (ap 1) af)))) (ae (aK (DW.dt (mM (pI (bU (au (c6 Z) (rm hr) rfl (ac (ap 4) (ac (G1 1) af))))) (mM (pI (bU (au (c6 Z) (rm hr) rfl (ac (ap 4) (ac (ap 2) af))))) (iA (pI (bU (au (c6 Z) (rm hr) rfl (ac (ap 3) (ac (fe fh (ap 1) (dE dD am) (λ_ _=>rfl)) af))))))))) (ag (aA gG)) aE) (ae (aB 5 jY.nd (au (iR Z).pure (rm hr) rfl (ac (ap 3) (ac (ap 2) af)))) (ae (aK (aD FK (au (rR Z) (rm hr) rfl (ac (ap 3) (ac (aW af) (ac kQ af)))) cm (ay _)) (ag (aA (gn (zf vW rfl Z.x62 rfl Z.x64 yL (ap 5)) (dm (ce (eP hU) (ap 5) (aW af) (ay _)))))) aE) (ag (aA (gn (zf vW rfl Z.x62 rfl Z.x64 yL (ap 5)) (dm (ce (eP hU) (ap 5) (aW (ac (bf (ac cm (ac gG (ac cm (ac gG af))))) af)) (ay _))))))))))))),?_⟩;obtain⟨ns,rfl,ai,hb,q⟩:=h;refine ar λK1 hK1=>?_;walk_at "";refine⟨ns,0,rfl,by decide,?_⟩;walk_at "";refine⟨iD ns 0,rfl,uF hb _,λnames nms=>?_⟩
 walk_at "";rw[hK1];refine ar λK2 hK2=>?_;walk_at "";have e5:tW (Str.ofString "qjxzk")=[Str.ofString "q",Str.ofString "j",Str.ofString "x",Str.ofString "z",Str.ofString "k"].map D.str:=by kernel_rfl
 rw[e5];have d5:[Str.ofString "q",Str.ofString "j",Str.ofString "x",Str.ofString "z",Str.ofString "k"].Nodup:=by decide +kernel
 have l5:5<=[Str.ofString "q",Str.ofString "j",Str.ofString "x",Str.ofString "z",Str.ofString "k"].length:=by decide
 have l9:([Str.ofString "q",Str.ofString "j",Str.ofString "x",Str.ofString "z",Str.ofString "k"].map D.str).length<=9000:=by decide
 generalize [Str.ofString "q",Str.ofString "j",Str.ofString "x",Str.ofString "z",Str.ofString "k"]=ls at *
 have n4:=nms.len
 have n0:=nms.pos
 refine⟨l9,λd=>match d with | .str k=>if k∉names then some (.str k) else none | _=>none,λx hx=>?_,?_⟩
 ·obtain⟨k,hk,rfl⟩:=HA.mp hx;refine⟨names,rfl,?_⟩;walk_at "";exact cR (λz=>HU z) λz=>HQ z
 rw[pv];have ho:∃o r,ls.filter (λk=>decide (k∉names))=o::r:=by
  cases e:ls.filter (λk=>decide (k∉names)) with
  | cons o r=>exact⟨o,r,rfl⟩
  | nil =>
   have:=jM d5 λk hk=>HF λz=>(List.filter_eq_nil_iff.mp e k hk) (IF z)
   omega
 obtain⟨o,r,ho⟩:=ho;have on:o∉names:=J7 (HH.mp (show o∈ls.filter (λk=>decide (k∉names)) by rw[ho];exact HB ..)).2;rw[ho];refine Hu.of (v:=.str o) (by rw[vV (by decide) (by rw[Im,HJ];omega)];rfl) ?_;walk_at "";rw[hK2];refine ar λK3 hK3=>?_;walk_at "";simp only[uc];have aa:(cut ns (some 1) (some 25)).length<=24:=zT 1 25;have mem:∀c∈cut ns (some 1) (some 25),Builtin.Int.intBits c<=1048576:=λc h=>hb c (BE h);refine⟨_,names,rfl,by omega,mem,by omega,λs os ds fs=>?_⟩;walk_at "";rw[hK3];refine ar λK4 hK4=>?_;walk_at "";simp only[uc];refine⟨_,names,rfl,by omega,mem,by omega,λu ou du ru=>?_⟩;walk_at "";rw[hK4];refine ar λK5 hK5=>?_;have ab:s.rows<=12:=by
  have:=Hi.rows_num (s:=s.pl false) Hi.pl_pn
  rw[Hi.pl_rows] at this;exact Hz this (JF fs.1 fs.2)
 obtain⟨nu,Tu,su⟩:=one4 nms ou (by omega);obtain⟨nw,Ts,ss⟩:=one4 nms os (by omega);have a0:∃n,Hl (names.map D.str) 0=some (.str n):=⟨names[0],by rw[vV (by decide) (by rw[Hv];omega),HM];show Option.map D.str names[0]?=_;rw[Iv n0];rfl⟩;have a1:∃n,Hl (names.map D.str) (-1)=some (.str n):=by
  obtain⟨ah,lst,e⟩:=eI n0;exact⟨lst,by rw[e,HS];exact Cq⟩
 obtain⟨n1,a0⟩:=a0;obtain⟨n2,a1⟩:=a1;walk_at "";refine Hu.of a0 ?_;walk_at "";refine⟨u,n1,nu,rfl,Tu,by omega,by omega,?_⟩;walk_at "";refine⟨u,o,nu,rfl,Tu,by omega,by omega,?_⟩;walk_at "";refine Hu.of a1 ?_;walk_at "";refine⟨s,n2,nw,rfl,Ts,by omega,by omega,?_⟩;walk_at "";rw[hK5];refine ar λK6 hK6=>?_;walk_at "";refine⟨s,o,nw,200,rfl,Ts,λ_=>?_,λf=>absurd fs f⟩;rw[DJ Ts fs λz=>on (ss o z)];walk_at "";rw[hK6];refine ar λK7 hK7=>?_;walk_at "";refine⟨s,nw,200,rfl,Ts,fs,?_⟩;unfold fil0;generalize (s.pl false).kr=A
 cases e:A.find? (ok1 nw) with
 | none =>
  have e2:¬ A.any (ok1 nw)=true:=λz=>by
   obtain⟨c,hc,h⟩:=List.any_eq_true.mp z;exact List.find?_eq_none.mp e c hc h
  rw[HQ e2];walk_at "";rw[Ep];walk_at "";exact .inl ⟨⟨rfl,rfl,by decide⟩,q⟩
 | some c =>
  have e2:A.any (ok1 nw)=true:=List.any_eq_true.mpr ⟨c,List.mem_of_find?_eq_some e,List.find?_some e⟩
  rw[HU e2];walk_at "";rw[Ev];walk_at "";rw[hK7];walk_at "";exact .inl ⟨⟨rfl,rfl,by decide⟩,q⟩
theorem jK:sB P w K mg base "NoQuotient.__init__" "top" "top" false i_NoQuotient:=λR C fI fd F ek rk m=>F.ok (N:=["self","top"]) ⟨rfl,rfl,rfl,by decide +kernel,rfl,by decide +kernel,by decide +kernel⟩ oO λcdv A outer s H vs Q E hr h=>⟨_,gP (eO (oW rk ek rfl m (aJ (a4 (i:=0) rfl (.inl rfl)) (aJ pL b9)))) (iX (nD ek (a4 (i:=0) rfl (.inl rfl)) (a4 (i:=1) rfl (.inl rfl)))),vM h⟩
theorem jN:Ck "NoQuotient.__init__" "top" i_NoQuotient:=λ_ _ _ _ _ _ us hl=>match us,hl with | [_,_],_=>rfl
theorem rV:sB P w K mg base "NoName.__init__" "name" "name" true i_NoName:=λR C fI fd F ek rk m=>F.ok (N:=["self","name"]) ⟨rfl,rfl,rfl,by decide +kernel,rfl,by decide +kernel,by decide +kernel⟩ oO λcdv A outer s H vs Q E hr h=>⟨_,gP (eO (oW rk ek rfl m (aJ (a4 (i:=0) rfl (.inl rfl)) (aJ (By (a4 (i:=1) rfl (.inl rfl))) b9)))) (iX (nD ek (a4 (i:=0) rfl (.inl rfl)) (a4 (i:=1) rfl (.inl rfl)))),yn h⟩
theorem sF:Ck "NoName.__init__" "name" i_NoName:=λ_ _ _ _ _ _ us hl=>match us,hl with | [_,_],_=>rfl
theorem nV:sB P w K mg base "TooMany.__init__" "saying" "saying" false i_TooMany:=λR C fI fd F ek rk m=>F.ok (N:=["self","saying"]) ⟨rfl,rfl,rfl,by decide +kernel,rfl,by decide +kernel,by decide +kernel⟩ oO λcdv A outer s H vs Q E hr h=>⟨_,gP (eO (oW rk ek rfl m (aJ (a4 (i:=0) rfl (.inl rfl)) (aJ pL b9)))) (iX (nD ek (a4 (i:=0) rfl (.inl rfl)) (a4 (i:=1) rfl (.inl rfl)))),vM h⟩
theorem oC:Ck "TooMany.__init__" "saying" i_TooMany:=λ_ _ _ _ _ _ us hl=>match us,hl with | [_,_],_=>rfl
end Lw
namespace Lw
open PySem L2 DL
theorem all_mk{l:PySem.W.OpenLaw}{w:World}{K:Zf}{h:Heap}{mg:Str->Zd}(X:K.In h)(G:h.Ns mainGlobals mg)(hfa:mg "law"=some (.ref fa))(f:Hd.Facts K):∃fd:FuncData,(∀(s:Shared) (v:Value),BindsTo s fd ⟨[v],[]⟩ [("_law_script",v)])/\∀base:Heap,K.In base->base.Ns mainGlobals mg->f7 l.prog w K mg base CX0 68 fa fd ["_law_script"] (zJ K):=by
 obtain⟨⟨_,_,_,_,_,_,_,_,_,_,a,l1,c,k⟩⟩:=f.q50;obtain⟨_,ab,ai⟩:=f.g_OPPOSITES;obtain⟨_,ah⟩:=f.g_MOST_ROWS;obtain⟨_,aa⟩:=f.g_MOST_CASES;obtain⟨_,_,_,_,al,aj⟩:=f.g_ENDLESS;have e:=hfa.symm.trans (Js X G a)
 cases e
 have F:=yq (st:=s_law) l1 c k
 refine⟨_,?_,λbase _ _=>by obtain⟨R,NR,er⟩:=f.ef.er (P:=l.prog) (w:=w) (base:=base) X G jK jN rV sF nV oC;exact ET (BY ⟨l.prog,w,K,mg,base,f.q0.fd2 X G λ_ _ _ _ _ _ _ _=>rfl,f.q1.fd2 X G λ_ _ _ _ _ _ _ _=>rfl,f.q2.fd2 X G λ_ _ _ _ _ _ _ _=>rfl,f.q3.fd2 X G λ_ _ _ _ _ _ _ _=>rfl,f.q4.fd2 X G λ_ _ _ _ _ _ _ _=>rfl,f.q5.fd1 X G λ_ _ _ _ _ _ _=>rfl,f.q6.fd2 X G λ_ _ _ _ _ _ _ _=>rfl,f.q7.fd1 X G λ_ _ _ _ _ _ _=>rfl,f.q8.fd2 X G λ_ _ _ _ _ _ _ _=>rfl,f.q9.fd2 X G λ_ _ _ _ _ _ _ _=>rfl,f.q10.fd3 X G λ_ _ _ _ _ _ _ _ _=>rfl,f.q11.fd3 X G λ_ _ _ _ _ _ _ _ _=>rfl,f.q12.fd2 X G λ_ _ _ _ _ _ _ _=>rfl,f.q13.fd1 X G λ_ _ _ _ _ _ _=>rfl,f.q14.fd2 X G λ_ _ _ _ _ _ _ _=>rfl,f.q15.fd1 X G λ_ _ _ _ _ _ _=>rfl,f.q16.fd2 X G λ_ _ _ _ _ _ _ _=>rfl,f.q17.fd2 X G λ_ _ _ _ _ _ _ _=>rfl,f.q18.fd2 X G λ_ _ _ _ _ _ _ _=>rfl,f.q19.fd1 X G λ_ _ _ _ _ _ _=>rfl,f.q20.fd2 X G λ_ _ _ _ _ _ _ _=>rfl,f.q21.fd2 X G λ_ _ _ _ _ _ _ _=>rfl,f.q22.fd1 X G λ_ _ _ _ _ _ _=>rfl,f.q23.fd1 X G λ_ _ _ _ _ _ _=>rfl,f.q24.fd3 X G λ_ _ _ _ _ _ _ _ _=>rfl,f.q25.fd4 X G λ_ _ _ _ _ _ _ _ _ _=>rfl,f.q26.fd2 X G λ_ _ _ _ _ _ _ _=>rfl,f.q27.fd3 X G λ_ _ _ _ _ _ _ _ _=>rfl,f.q28.fd3 X G λ_ _ _ _ _ _ _ _ _=>rfl,f.q29.fd1 X G λ_ _ _ _ _ _ _=>rfl,f.q30.fd3 X G λ_ _ _ _ _ _ _ _ _=>rfl,f.q31.fd3 X G λ_ _ _ _ _ _ _ _ _=>rfl,f.q32.fd3 X G λ_ _ _ _ _ _ _ _ _=>rfl,f.q33.fd2 X G λ_ _ _ _ _ _ _ _=>rfl,f.q34.fd2 X G λ_ _ _ _ _ _ _ _=>rfl,f.q35.fd2 X G λ_ _ _ _ _ _ _ _=>rfl,f.q36.fd3 X G λ_ _ _ _ _ _ _ _ _=>rfl,f.q37.fd1 X G λ_ _ _ _ _ _ _=>rfl,f.q38.fd2 X G λ_ _ _ _ _ _ _ _=>rfl,f.q39.fd1 X G λ_ _ _ _ _ _ _=>rfl,f.q40.fd1 X G λ_ _ _ _ _ _ _=>rfl,f.q41.fd2 X G λ_ _ _ _ _ _ _ _=>rfl,f.q42.fd2 X G λ_ _ _ _ _ _ _ _=>rfl,f.q43.fd3 X G λ_ _ _ _ _ _ _ _ _=>rfl,f.q44.fd1 X G λ_ _ _ _ _ _ _=>rfl,f.q45.fd3 X G λ_ _ _ _ _ _ _ _ _=>rfl,f.q46.fd2 X G λ_ _ _ _ _ _ _ _=>rfl,f.q47.fd2 X G λ_ _ _ _ _ _ _ _=>rfl,f.q48.fd2 X G λ_ _ _ _ _ _ _ _=>rfl,f.q49.fd2 X G λ_ _ _ _ _ _ _ _=>rfl,IA X G f.z0,IA X G f.z1,IA X G f.z2,IA X G f.z3,IA X G f.z4,IA X G f.z5,IA X G f.z6,IA X G f.z7,IA X G f.z8,IA X G f.z9,IA X G f.z10,IA X G f.z11,IA X G f.z12,IA X G f.z13,IA X G f.z14,⟨⟨_,Js X G ab,ai⟩⟩,⟨⟨_,Js X G ah⟩⟩,⟨⟨_,Js X G aa⟩⟩,⟨⟨_,_,_,Js X G al,aj,rfl,rfl⟩⟩,R,NR,er⟩ F)⟩
 exact λs v=>.of_eq rfl
end Lw
open PySem PySem.W PyProof.Rows
theorem PySem.Challenge.cw_rowbetween_k60_no_stretch_holds : PySem.Challenge.rw_rowbetween_k60_no_stretch.Holds := by
 refine Hd.half λYP d K hY hdf hdn f=>?_;refine DL.walkB (l:=PySem.Challenge.rw_rowbetween_k60_no_stretch) (k:=68) (x:="_law_script") rfl hdf ⟨rfl,by decide,by decide⟩ hY λw mg fa h KX G hmg=>?_;rw[hdn] at hmg;exact Lw.all_mk KX G hmg (f w)
#print axioms PySem.Challenge.cw_rowbetween_k60_no_stretch_holds
