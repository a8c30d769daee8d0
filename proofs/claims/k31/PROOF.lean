import PyProof.Rows.All
import Wide.All
import OpenK.AllK
import Wide.FinOn
import Lean
import PyProof.EqAt
import PyProof.EqKinds
import PyProof.TupleCall
import PySem.Challenge.RW_rowbetween_k31_both_so
set_option Elab.async false
set_option linter.all false
set_option maxRecDepth 100000
set_option maxHeartbeats 4000000
set_option Elab.async false
set_option linter.all false
set_option maxRecDepth 100000
local macro_rules | `(tactic| walk_at "or") => `(tactic| (intro d0 R h; rcases d0 with _ | ⟨a, _ | ⟨b, _ | ⟨c, l⟩⟩⟩; exact False.elim h; (cases a <;> first | exact False.elim h | (repeat first | exact ⟨_, rfl, h⟩ | exact ⟨_, _, rfl, h⟩ | exact ⟨_, _, _, rfl, h⟩ | exact .inl ⟨_, rfl, h⟩ | exact .inl ⟨_, _, rfl, h⟩ | exact .inl ⟨_, _, _, rfl, h⟩ | apply Or.inr)); (cases a <;> first | exact False.elim h | (cases b <;> first | exact False.elim h | (repeat first | exact ⟨_, rfl, h⟩ | exact ⟨_, _, rfl, h⟩ | exact ⟨_, _, _, rfl, h⟩ | exact .inl ⟨_, rfl, h⟩ | exact .inl ⟨_, _, rfl, h⟩ | exact .inl ⟨_, _, _, rfl, h⟩ | apply Or.inr))); (cases a <;> first | exact False.elim h | (cases b <;> exact False.elim h))))
local macro_rules | `(tactic| walk_at "v3") => `(tactic| first | exact Or.inl rfl | exact Or.inr (Or.inl rfl) | exact Or.inr (Or.inr rfl))
local macro_rules | `(tactic| walk_at "v2") => `(tactic| first | exact Or.inl rfl | exact Or.inr rfl)
local macro_rules | `(tactic| walk_at "v1") => `(tactic| first | exact .inl rfl | exact .inr rfl | assumption)
def GW:=@List.length_map
def GX:=@PySem.wpAny_bind
def GY:=@List.mem_cons_of_mem
def GZ:=@List.mem_map
def G0:=@Nat.le_trans
def G1:=@List.mem_cons_self
def G2:=@PySem.wpAny_pure
def G3:=@Nat.le_refl
def G4:=@Bool.false_ne_true
def G5:=@Classical.byContradiction
def G6:=@List.mem_append_right
def G7:=@List.mem_cons
def G8:=@List.length_append
def G9:=@List.mem_singleton
def Ha:=@List.length_cons
def Hb:=@List.mem_append
def Hc:=@List.mem_of_getElem?
def He:=@if_neg
def Hf:=@List.mem_append_left
def Hg:=@Option.some.inj
def Hh:=@if_pos
def Hi:=@List.mem_filter
def Hj:=@List.map_append
def Hk:=@PySem.Heap.lt_size
def Hl:=@PySem.PassesOwn.never
def Hm:=@List.map_cons
def Hn:=@Bool.and_eq_true_iff
def Ho:=@List.take_length
def Hr:=@Rat.intCast_mul
def Hs:=@List.length_replicate
def Ht:=@List.filter_cons_of_neg
def Hu:=@List.size_toArray
def Hv:=@List.of_mem_zip
def Hw:=@PySem.intBits_mul_le
def Hx:=@Array.length_toList
def Hy:=@Int.fmod_nonneg_of_pos
def Hz:=@Nat.ne_of_lt
def HA:=@decide_eq_false
def HB:=@List.map_map
def HC:=@List.filter_cons_of_pos
def HD:=@Nat.lt_of_lt_of_le
def HE:=@PySem.wpAny_setField_rec
def HF:=@PySem.W.mg_none_of
def HG:=@decide_eq_true
def HH:=@Rat.mul_nonneg
def HI:=@List.length_take
def HJ:=@List.append_nil
def HK:=@Int.fmod_lt_of_pos
def HL:=@PySem.W.kia_one
def HM:=@List.nodup_cons
def HN:=@Int.mul_ne_zero
def HP:=@List.filterMap_cons
def HQ:=@Int.mul_comm
def HR:=@PySem.wpAny_newObj_type
def HS:=@List.length_set
def HU:=@List.length_range
def HV:=@Int.mul_left_comm
def HW:=@PySem.intBits_fdiv_le
def HX:=@Nat.lt_irrefl
def HY:=@PyProof.Rows.callWith_type1
def HZ:=@PySem.wpAny_call_entry
def Ia:=@List.getElem_mem
def Ib:=@PySem.wpAny_holding
def Ic:=@Int.mul_assoc
def Ie:=@Nat.zero_le
def Ig:=@List.mem_range
def Ih:=@List.length_zip
def Ii:=@Int.mul_fdiv_cancel_left
def Ij:=@PySem.wpAny_setState_of
def Ik:=@PySem.Heap.size_push
def Il:=@PySem.wpAny_field
def Im:=@Rat.mul_pos
def Io:=@PySem.wpAny_seqItems
def Ip:=@List.drop_eq_getElem_cons
def Iq:=@Rat.intCast_add
def Ir:=@PySem.wpAny_mono
def Iu:=@List.eq_nil_of_length_eq_zero
def Iv:=@List.length_eq_zero_iff
def Iw:=@Nat.le_mul_of_pos_right
def Ix:=@Int.add_zero
def Iy:=@PySem.wpAny_truthy_bool
def Iz:=@PySem.wpAny_ite_split
def IA:=@List.flatMap_append
def IB:=@congrArg
def IC:=@Rat.intCast_lt_intCast
def ID:=@Nat.le_mul_of_pos_left
def IE:=@PySem.F.slot_tuple_iterator_next
def IF:=@List.mem_flatMap
def IG:=@List.length_singleton
def IH:=@List.take_append_drop
def II:=@PySem.intBits_add_le
def IJ:=@PySem.Around.under_plainId
def IK:=@List.mem_of_mem_take
def IL:=@PySem.wpAny_passesOwn
def IM:=@Nat.lt_succ_of_lt
def IN:=@PySem.mem_of_lookup
def IP:=@Int.fdiv_mul_cancel
def IQ:=@List.all_eq_true
def IR:=@List.map_zipWith
def IS:=@PySem.IntMulOk.of_left
def IT:=@List.flatMap_singleton
def IU:=@PySem.Calls.spliced_cons
def IV:=@PySem.wpAny_Call_Name_kw
def IW:=@PySem.tupleKind_room_in1
def IX:=@Nat.le_of_lt
def IY:=@Nat.ne_of_gt
def IZ:=@Bool.eq_iff_iff
def Ja:=@Nat.succ.inj
def Jb:=@Int.zero_add
def Jc:=@Int.dvd_gcd_mul_iff_dvd_mul
def Jd:=@PySem.codeAny_builtin
def Je:=@List.length_filter_le
def Jf:=@PySem.wpAny_pyIter_list
def Jg:=@Nat.lt_trichotomy
def Jh:=@List.nodup_append
def Ji:=@List.append_assoc
def Jj:=@decide_eq_true_eq
def Jk:=@Decidable.not_not
def Jl:=@List.take_zero
def Jm:=@PySem.Calls.call_function_entry
def Jn:=@List.nodup_nil
def Jo:=@PySem.intBits_neg_le
def Jp:=@Nat.mul_le_mul
def Jq:=@List.length_drop
def Jr:=@Nat.le_add_right
def Js:=@PySem.Heap.SameBut.update
def Jt:=@List.map_congr_left
def Ju:=@List.length_reverse
def Jv:=@List.map_nil
def Jw:=@Int.le_of_lt
def Jx:=@PySem.SeqAt.EqAt.same
def Jy:=@PySem.SeqAt.EqAt.str_str
def Jz:=@PySem.F.plainAttrs_list
def JA:=@PySem.W.mg_of
def JB:=@Rat.mul_eq_zero
def JC:=@Nat.exists_eq_add_of_le
def JD:=@Option.map_eq_some_iff
def JE:=@PySem.Calls.callWith_builtin
def JF:=@List.zipWith_cons_cons
def JG:=@List.take_of_length_le
def JH:=@PySem.W.kitx_dict
def JI:=@PySem.Calls.spliced_nil
def JJ:=@Int.toNat_natCast
def JK:=@Nat.le_succ
def JL:=@Nat.mul_add
def JM:=@Bool.eq_false_iff
def JN:=@List.Perm.refl
def JO:=@PySem.codeAny_mono
def JP:=@PySem.F.slot_dict_get
def JQ:=@Bool.beq_eq_decide_eq
def JR:=@Nat.lt_asymm
def JS:=@Nat.le_div_iff_mul_le
def JT:=@Nat.succ_le_succ
def JU:=@Nat.lt_succ_self
def JV:=@List.zipWith_map
def JW:=@PySem.wpAny_updateSeq_pair
def JX:=@List.any_cons
def JY:=@Int.add_assoc
def JZ:=@PySem.wpAny_rule
def J0:=@beq_eq_false_iff_ne
def J1:=@PySem.wpAny_execs_nil
def J2:=@PySem.F.slot_zip_next
def J3:=@Rat.intCast_inj
def J4:=@Rat.intCast_neg
def J5:=@List.foldl_cons
def J6:=@Int.mul_zero
def J7:=@Nat.succ_pos
def J8:=@Ne.symm
namespace L2
open PySem
def cU(s:Stmt):Arguments:=match s with
 | .FunctionDef _ a _ _ _ _ _ _ _ _=>a
 | _=>{ posonlyargs:=[],args:=[],vararg:=none,kwonlyargs:=[],kw_defaults:=[],kwarg:=none,defaults:=[] }
def bG(s:Stmt):List Stmt:=match s with
 | .FunctionDef _ _ b _ _ _ _ _ _ _=>b
 | _=>[]
def am(s:Stmt):Scope:=match s with
 | .FunctionDef _ _ _ _ _ _ sc _ _ _=>sc
 | _=>{ kind:=.function,names:=[],isGenerator:=false,isCoroutine:=false }
end L2
namespace DL
open PySem PySem.Spec PyProof.Rows L2
def txt(D:List (Str×Str)):List (Str×KTD.Dat):=D.map λp=>(p.1,KTD.Dat.flat (.str p.2))
structure FdK(K:PySem.W.Frag)(x:Str)(st:Stmt):Prop where
 ex:∃(f:Addr) (oc:Value) (od an:Option Addr) (sl:Array (Option Value)) (kV dc pm cd ct:Value),PySem.W.nsIn K mainGlobals x=some (some (.ref f))/\K.lookup f=some ⟨oc,od,.func (PySem.W.fnOf x x (cU st) (bG st) (am st) .none kV dc pm an cd ct),sl⟩/\PySem.W.codeIn K cd x=true/\PySem.W.keepIn K (.ref f)=true
end DL
namespace Lw
open PySem L2 DL
def top(i:Nat):Stmt:=PySem.Challenge.pw_rowbetween_k31_both_so.main.body.getD i (.Pass ⟨0,0,0,0⟩)
abbrev s_common_divisor:Stmt:=top 6
abbrev s_made:Stmt:=top 7
abbrev s_plus:Stmt:=top 8
abbrev s_times:Stmt:=top 9
abbrev s_less:Stmt:=top 10
abbrev s_is_row:Stmt:=top 15
abbrev s_mark_names:Stmt:=top 16
abbrev s_names_of:Stmt:=top 17
abbrev s_tops_of:Stmt:=top 18
abbrev s_top_of_sum:Stmt:=top 19
abbrev s_row_is_so:Stmt:=top 20
abbrev s_part_is_so:Stmt:=top 21
abbrev s_is_so:Stmt:=top 22
abbrev s_contrary:Stmt:=top 23
abbrev s_plain_part:Stmt:=top 24
abbrev s_plain:Stmt:=top 25
abbrev s__law_cell:Stmt:=top 48
abbrev s_put_together:Stmt:=top 26
abbrev s_cases_within:Stmt:=top 27
abbrev s_cases:Stmt:=top 28
abbrev s_added:Stmt:=top 34
abbrev s_weight_of:Stmt:=top 35
abbrev s_alone:Stmt:=top 36
abbrev s_shortened:Stmt:=top 37
abbrev s_crossed:Stmt:=top 38
abbrev s_without:Stmt:=top 39
abbrev s_taken_out:Stmt:=top 40
abbrev s_bound_on:Stmt:=top 41
abbrev s_tighter:Stmt:=top 31
abbrev s_number_in:Stmt:=top 32
abbrev s_piece_for:Stmt:=top 42
abbrev s_found_back:Stmt:=top 43
abbrev s_solved:Stmt:=top 44
abbrev s_both_so:Stmt:=top 46
abbrev s__law_whole:Stmt:=top 50
abbrev s__law_is_fraction:Stmt:=top 51
abbrev s__law_over:Stmt:=top 52
abbrev s__law_total:Stmt:=top 53
abbrev s__law_row_so:Stmt:=top 54
abbrev s__law_number:Stmt:=top 49
abbrev s__law_line:Stmt:=top 55
abbrev s__law_fence:Stmt:=top 56
abbrev s__law_shaped:Stmt:=top 57
abbrev s__law_sayings:Stmt:=top 58
abbrev s__law_so:Stmt:=top 59
abbrev s__law_cases:Stmt:=top 61
abbrev s__law_weights_good:Stmt:=top 62
abbrev s__law_paper_good:Stmt:=top 63
abbrev s__law_letters:Stmt:=top 65
abbrev s__law_called:Stmt:=top 66
abbrev s__law_names:Stmt:=top 60
abbrev s__law_point_good:Stmt:=top 64
abbrev s_law:Stmt:=top 67
end Lw
namespace Hd
open PySem PySem.W PyProof.Rows
set_option maxRecDepth 100000
set_option maxHeartbeats 0
def kept(i:Nat):Stmt:=PySem.Challenge.pw_rowbetween_k31_both_so.main.body.getD i (.Pass ⟨0,0,0,0⟩)
def vw:Program:={ PySem.Challenge.pw_rowbetween_k31_both_so with main:={ PySem.Challenge.pw_rowbetween_k31_both_so.main with body:=[kept 1,kept 2,kept 3,kept 4,kept 6,kept 7,kept 8,kept 9,kept 10,kept 12,kept 13,kept 14,kept 15,kept 16,kept 17,kept 18,kept 19,kept 20,kept 21,kept 22,kept 23,kept 24,kept 25,kept 26,kept 27,kept 28,kept 30,kept 31,kept 32,kept 34,kept 35,kept 36,kept 37,kept 38,kept 39,kept 40,kept 41,kept 42,kept 43,kept 44,kept 46,kept 48,kept 49,kept 50,kept 51,kept 52,kept 53,kept 54,kept 55,kept 56,kept 57,kept 58,kept 59,kept 60,kept 61,kept 62,kept 63,kept 64,kept 65,kept 66,kept 67] } }
def xt(s:Shared):Bool:=xlAt vw [] s&&recOk (RowW.records (OpenRow.toRowW PySem.Challenge.rw_rowbetween_k31_both_so.row)) s
noncomputable def st0 (w:World) (os:OsState):Shared:=⟨boot_heap w.params,#[],boot_drawn,boot_toks,os⟩
noncomputable def rn (w:World) (os:OsState):=(topRun treeTable PySem.Challenge.pw_rowbetween_k31_both_so w 11 (some (Value.ref 6)) 5494 (st0 w os) (topStub PySem.Challenge.pw_rowbetween_k31_both_so))
theorem said:PySem.W.OpenLaw.wellSaid PySem.Challenge.rw_rowbetween_k31_both_so=true:=by
 rw[PySem.W.Fast.te9446332074065402090]
 kernel_rfl
local macro_rules | `(tactic| walk_at "hf") => `(tactic| (unfold Hd.rn Hd.st0; (try rw [PySem.W.Fast.te14082659384304107361]); (try rw [PySem.W.Fast.te14364793385576792824]); (try rw [PySem.W.Fast.te5160383126252970620]); (try rw [PySem.W.Fast.te10880121769531294198]); (try rw [PySem.W.Fast.te14722251495701143533]); (try rw [PySem.W.Fast.te10994771534591457954]); (try rw [PySem.W.Fast.te479339242167458305]); (try rw [PySem.W.Fast.te16090120013241838585]); (try rw [PySem.W.Fast.te2386780881361962483]); (try rw [PySem.W.Fast.te11698064438423848299]); (try rw [PySem.W.Fast.te7317090234206586261]); (try rw [PySem.W.Fast.te7369524293546568484]); (try rw [PySem.W.Fast.te821141287760084731]); (try rw [PySem.W.Fast.te3399658132070893891]); (try rw [PySem.W.Fast.te7409074990110511671]); (try rw [PySem.W.Fast.te13664370479719496447]); (try rw [PySem.W.Fast.te5991557255702980513]); (try rw [PySem.W.Fast.te3247288618530077131]); (try rw [PySem.W.Fast.te5923862056798008813]); kernel_rfl))
theorem et{σ α β:Type}{o:Option σ}{f:σ->α}{g:σ->β}{x:α}{y:β}(a:o.map f=some x)(b:o.map g=some y):o.map (λs=>(f s,g s))=some (x,y):=by
 cases o with
 | none=>cases a
 | some s=>cases a;cases b;rfl
theorem pz{σ α β:Type}{o:Option σ}{f:σ->α}{g:σ->β}{x:α}{y:β}(a:o.map (λs=>(f s,g s))=some (x,y)):o.map f=some x:=by
 cases o with
 | none=>cases a
 | some s=>cases a;rfl
theorem iI{σ α β:Type}{o:Option σ}{f:σ->α}{g:σ->β}{x:α}{y:β}(a:o.map (λs=>(f s,g s))=some (x,y)):o.map g=some y:=by
 cases o with
 | none=>cases a
 | some s=>cases a;rfl
theorem left{α:Type}{Yf:Shared->α}{Ya:World->α}(go:∀(w:World) (os:OsState),(rn w os).map (λs=>(staticsOk (importedModules PySem.Challenge.pw_rowbetween_k31_both_so.main.body) (boot_heap w.params) s.heap&&namesBound PySem.Challenge.pw_rowbetween_k31_both_so s.heap&&gensDone s&&laidKept (boot_heap w.params) s.heap,openSeen vw ["OPPOSITES"] (importedModules PySem.Challenge.pw_rowbetween_k31_both_so.main.body) xt true s,Yf s))=some (true,openGood vw ["OPPOSITES"],Ya w)):LeftO PySem.Challenge.pw_rowbetween_k31_both_so vw ["OPPOSITES"] xt Yf Ya 5494 true:=λw=>by
 obtain⟨⟨h,gs,d,k,os⟩,e1,e2⟩:=JD.mp (boot_open (p:=PySem.Challenge.pw_rowbetween_k31_both_so) (N:=5494) (by kernel_rfl) (by decide) (λs=>rfl) w);obtain⟨rfl,rfl,rfl,rfl⟩:h=boot_heap w.params/\gs=#[]/\d=boot_drawn/\k=boot_toks:=by simpa using e2
 have size:((boot_heap w.params).isNs mainGlobals,(boot_heap w.params).objs.size,(boot_heap w.params).nsMap mainGlobals "__annotations__")=(true,11,some (Value.ref 6)):=by kernel_rfl
 simp only[Prod.mk.injEq] at size;obtain⟨z1,z2,z3⟩:=size;obtain⟨s,r1,r2⟩:=JD.mp (go w os);simp only[Prod.mk.injEq] at r2;obtain⟨l1,l2,l3⟩:=r2;unfold openEnds;rw[e1];show (topFrom treeTable PySem.Challenge.pw_rowbetween_k31_both_so w 5494 (st0 w os)).map _=_;have t:topFrom treeTable PySem.Challenge.pw_rowbetween_k31_both_so w 5494 (st0 w os)=some s:=by
  unfold topFrom;rw[show (st0 w os).heap=boot_heap w.params from rfl,z1,z2,z3];unfold rn at r1;rw[r1];show (match _&&_&&_&&_ with | true=>_ | false=>_)=_;rw[l1]
 rw[t];exact IB some (Prod.ext (by exact l2) (by exact l3))
def twoRows{α:Type}{Yf:Shared->α}{Ya:World->α}(row:String)(a:∀(w:World) (os:OsState),(rn (w.withFollow row false) os).map (λs=>(staticsOk (importedModules PySem.Challenge.pw_rowbetween_k31_both_so.main.body) (boot_heap (w.withFollow row false).params) s.heap&&namesBound PySem.Challenge.pw_rowbetween_k31_both_so s.heap&&gensDone s&&laidKept (boot_heap (w.withFollow row false).params) s.heap,openSeen vw ["OPPOSITES"] (importedModules PySem.Challenge.pw_rowbetween_k31_both_so.main.body) xt true s,Yf s))=some (true,openGood vw ["OPPOSITES"],Ya (w.withFollow row false)))(b:∀(w:World) (os:OsState),(rn (w.withFollow row true) os).map (λs=>(staticsOk (importedModules PySem.Challenge.pw_rowbetween_k31_both_so.main.body) (boot_heap (w.withFollow row true).params) s.heap&&namesBound PySem.Challenge.pw_rowbetween_k31_both_so s.heap&&gensDone s&&laidKept (boot_heap (w.withFollow row true).params) s.heap,openSeen vw ["OPPOSITES"] (importedModules PySem.Challenge.pw_rowbetween_k31_both_so.main.body) xt true s,Yf s))=some (true,openGood vw ["OPPOSITES"],Ya (w.withFollow row true))):∀(w:World) (os:OsState),(rn w os).map (λs=>(staticsOk (importedModules PySem.Challenge.pw_rowbetween_k31_both_so.main.body) (boot_heap w.params) s.heap&&namesBound PySem.Challenge.pw_rowbetween_k31_both_so s.heap&&gensDone s&&laidKept (boot_heap w.params) s.heap,openSeen vw ["OPPOSITES"] (importedModules PySem.Challenge.pw_rowbetween_k31_both_so.main.body) xt true s,Yf s))=some (true,openGood vw ["OPPOSITES"],Ya w) :=
 byRow2 row (P:=λw=>∀os:OsState,(rn w os).map (λs=>(staticsOk (importedModules PySem.Challenge.pw_rowbetween_k31_both_so.main.body) (boot_heap w.params) s.heap&&namesBound PySem.Challenge.pw_rowbetween_k31_both_so s.heap&&gensDone s&&laidKept (boot_heap w.params) s.heap,openSeen vw ["OPPOSITES"] (importedModules PySem.Challenge.pw_rowbetween_k31_both_so.main.body) xt true s,Yf s))=some (true,openGood vw ["OPPOSITES"],Ya w)) a b
theorem ri(w:World)(os:OsState):(rn (w.withFollow "special-get-raises" false) os).map (λs=>(staticsOk (importedModules PySem.Challenge.pw_rowbetween_k31_both_so.main.body) (boot_heap (w.withFollow "special-get-raises" false).params) s.heap&&namesBound PySem.Challenge.pw_rowbetween_k31_both_so s.heap&&gensDone s&&laidKept (boot_heap (w.withFollow "special-get-raises" false).params) s.heap,seen ((recsOf vw).map (·.name)) (ownsOf vw) [] { s with gens:=#[] },s.heap.bltView,s.heap.keysOk (looseW vw ["OPPOSITES"]) ((recsOf vw).map (·.name)) ((litsOf vw).map (·.1)) ((clssOf vw (looseW vw ["OPPOSITES"])).map (·.name))&&s.heap.accountedOkI (importedModules PySem.Challenge.pw_rowbetween_k31_both_so.main.body)&&s.heap.isNs mainGlobals&&s.heap.isNs builtinsNs&&tablesOk vw s.heap&&xt s&&(if true then s.gens.size==0 else !leftWithCleanup s.gens)))=some ((true),(expectedOf vw),(bltViewBooted),(true)):=by
 (refine et ?_ (et ?_ (et ?_ ?_)));(focus (walk_at "hf"));(focus (walk_at "hf"));(focus (walk_at "hf"));(focus (walk_at "hf"))
def Bl(w:World)(os:OsState):(rn (w.withFollow "special-get-raises" false) os).map (λs=>staticsOk (importedModules PySem.Challenge.pw_rowbetween_k31_both_so.main.body) (boot_heap (w.withFollow "special-get-raises" false).params) s.heap&&namesBound PySem.Challenge.pw_rowbetween_k31_both_so s.heap&&gensDone s&&laidKept (boot_heap (w.withFollow "special-get-raises" false).params) s.heap)=some (true):=(pz (ri w os))
def As(w:World)(os:OsState):(rn (w.withFollow "special-get-raises" false) os).map (λs=>seen ((recsOf vw).map (·.name)) (ownsOf vw) [] { s with gens:=#[] })=some (expectedOf vw):=(pz (iI (ri w os)))
def zE(w:World)(os:OsState):(rn (w.withFollow "special-get-raises" false) os).map (λs=>s.heap.bltView)=some (bltViewBooted):=(pz (iI (iI (ri w os))))
def BD(w:World)(os:OsState):(rn (w.withFollow "special-get-raises" false) os).map (λs=>s.heap.keysOk (looseW vw ["OPPOSITES"]) ((recsOf vw).map (·.name)) ((litsOf vw).map (·.1)) ((clssOf vw (looseW vw ["OPPOSITES"])).map (·.name))&&s.heap.accountedOkI (importedModules PySem.Challenge.pw_rowbetween_k31_both_so.main.body)&&s.heap.isNs mainGlobals&&s.heap.isNs builtinsNs&&tablesOk vw s.heap&&xt s&&(if true then s.gens.size==0 else !leftWithCleanup s.gens))=some (true):=(iI (iI (iI (ri w os))))
theorem vz(w:World)(os:OsState):(rn (w.withFollow "special-get-raises" false) os).map (λs=>(tabsOk vw s,pinSeenD vw (drecsOf vw) s,plainSeenE vw (looseW vw ["OPPOSITES"]) s))=some ((true),(pinGoodD (drecsOf vw)),(plainGoodE vw (looseW vw ["OPPOSITES"]))):=by
 (refine et ?_ (et ?_ ?_));(focus (walk_at "hf"));(focus (walk_at "hf"));(focus (walk_at "hf"))
def Bo(w:World)(os:OsState):(rn (w.withFollow "special-get-raises" false) os).map (λs=>tabsOk vw s)=some (true):=(pz (vz w os))
def AD(w:World)(os:OsState):(rn (w.withFollow "special-get-raises" false) os).map (λs=>pinSeenD vw (drecsOf vw) s)=some (pinGoodD (drecsOf vw)):=(pz (iI (vz w os)))
def zv(w:World)(os:OsState):(rn (w.withFollow "special-get-raises" false) os).map (λs=>plainSeenE vw (looseW vw ["OPPOSITES"]) s)=some (plainGoodE vw (looseW vw ["OPPOSITES"])):=(iI (iI (vz w os)))
theorem uY(w:World)(os:OsState):(rn (w.withFollow "special-get-raises" false) os).map (λs=>(plainSeenD vw ["OPPOSITES"] s,wideSeen vw s,clsSeenW vw ["OPPOSITES"] s))=some ((plainGoodD vw ["OPPOSITES"]),(wideGood vw),(clsGoodW vw ["OPPOSITES"])):=by
 (refine et ?_ (et ?_ ?_));(focus (walk_at "hf"));(focus (walk_at "hf"));(focus (walk_at "hf"))
def BK(w:World)(os:OsState):(rn (w.withFollow "special-get-raises" false) os).map (λs=>plainSeenD vw ["OPPOSITES"] s)=some (plainGoodD vw ["OPPOSITES"]):=(pz (uY w os))
def AT(w:World)(os:OsState):(rn (w.withFollow "special-get-raises" false) os).map (λs=>wideSeen vw s)=some (wideGood vw):=(pz (iI (uY w os)))
def BY(w:World)(os:OsState):(rn (w.withFollow "special-get-raises" false) os).map (λs=>clsSeenW vw ["OPPOSITES"] s)=some (clsGoodW vw ["OPPOSITES"]):=(iI (iI (uY w os)))
def AK(w:World)(os:OsState):(rn (w.withFollow "special-get-raises" false) os).map (λs=>openSeen vw ["OPPOSITES"] (importedModules PySem.Challenge.pw_rowbetween_k31_both_so.main.body) xt true s)=some (openGood vw ["OPPOSITES"]):=(et (As w os) (et (zE w os) (et (BD w os) (et (Bo w os) (et (AD w os) (et (zv w os) (et (BK w os) (et (AT w os) (BY w os)))))))))
def all_a{α:Type}{Yf:Shared->α}{Ya:World->α}(h:∀(w:World) (os:OsState),(rn (w.withFollow "special-get-raises" false) os).map (λs=>Yf s)=some (Ya (w.withFollow "special-get-raises" false)))(w:World)(os:OsState) :
  (rn (w.withFollow "special-get-raises" false) os).map (λs=>(staticsOk (importedModules PySem.Challenge.pw_rowbetween_k31_both_so.main.body) (boot_heap (w.withFollow "special-get-raises" false).params) s.heap&&namesBound PySem.Challenge.pw_rowbetween_k31_both_so s.heap&&gensDone s&&laidKept (boot_heap (w.withFollow "special-get-raises" false).params) s.heap,openSeen vw ["OPPOSITES"] (importedModules PySem.Challenge.pw_rowbetween_k31_both_so.main.body) xt true s,Yf s))=some (true,openGood vw ["OPPOSITES"],Ya (w.withFollow "special-get-raises" false)):=et (Bl w os) (et (AK w os) (h w os))
theorem pN(w:World)(os:OsState):(rn (w.withFollow "special-get-raises" true) os).map (λs=>(staticsOk (importedModules PySem.Challenge.pw_rowbetween_k31_both_so.main.body) (boot_heap (w.withFollow "special-get-raises" true).params) s.heap&&namesBound PySem.Challenge.pw_rowbetween_k31_both_so s.heap&&gensDone s&&laidKept (boot_heap (w.withFollow "special-get-raises" true).params) s.heap,seen ((recsOf vw).map (·.name)) (ownsOf vw) [] { s with gens:=#[] },s.heap.bltView,s.heap.keysOk (looseW vw ["OPPOSITES"]) ((recsOf vw).map (·.name)) ((litsOf vw).map (·.1)) ((clssOf vw (looseW vw ["OPPOSITES"])).map (·.name))&&s.heap.accountedOkI (importedModules PySem.Challenge.pw_rowbetween_k31_both_so.main.body)&&s.heap.isNs mainGlobals&&s.heap.isNs builtinsNs&&tablesOk vw s.heap&&xt s&&(if true then s.gens.size==0 else !leftWithCleanup s.gens)))=some ((true),(expectedOf vw),(bltViewBooted),(true)):=by
 (refine et ?_ (et ?_ (et ?_ ?_)));(focus (walk_at "hf"));(focus (walk_at "hf"));(focus (walk_at "hf"));(focus (walk_at "hf"))
def zN(w:World)(os:OsState):(rn (w.withFollow "special-get-raises" true) os).map (λs=>staticsOk (importedModules PySem.Challenge.pw_rowbetween_k31_both_so.main.body) (boot_heap (w.withFollow "special-get-raises" true).params) s.heap&&namesBound PySem.Challenge.pw_rowbetween_k31_both_so s.heap&&gensDone s&&laidKept (boot_heap (w.withFollow "special-get-raises" true).params) s.heap)=some (true):=(pz (pN w os))
def zF(w:World)(os:OsState):(rn (w.withFollow "special-get-raises" true) os).map (λs=>seen ((recsOf vw).map (·.name)) (ownsOf vw) [] { s with gens:=#[] })=some (expectedOf vw):=(pz (iI (pN w os)))
def zr(w:World)(os:OsState):(rn (w.withFollow "special-get-raises" true) os).map (λs=>s.heap.bltView)=some (bltViewBooted):=(pz (iI (iI (pN w os))))
def zY(w:World)(os:OsState):(rn (w.withFollow "special-get-raises" true) os).map (λs=>s.heap.keysOk (looseW vw ["OPPOSITES"]) ((recsOf vw).map (·.name)) ((litsOf vw).map (·.1)) ((clssOf vw (looseW vw ["OPPOSITES"])).map (·.name))&&s.heap.accountedOkI (importedModules PySem.Challenge.pw_rowbetween_k31_both_so.main.body)&&s.heap.isNs mainGlobals&&s.heap.isNs builtinsNs&&tablesOk vw s.heap&&xt s&&(if true then s.gens.size==0 else !leftWithCleanup s.gens))=some (true):=(iI (iI (iI (pN w os))))
theorem vg(w:World)(os:OsState):(rn (w.withFollow "special-get-raises" true) os).map (λs=>(tabsOk vw s,pinSeenD vw (drecsOf vw) s,plainSeenE vw (looseW vw ["OPPOSITES"]) s))=some ((true),(pinGoodD (drecsOf vw)),(plainGoodE vw (looseW vw ["OPPOSITES"]))):=by
 (refine et ?_ (et ?_ ?_));(focus (walk_at "hf"));(focus (walk_at "hf"));(focus (walk_at "hf"))
def AJ(w:World)(os:OsState):(rn (w.withFollow "special-get-raises" true) os).map (λs=>tabsOk vw s)=some (true):=(pz (vg w os))
def AC(w:World)(os:OsState):(rn (w.withFollow "special-get-raises" true) os).map (λs=>pinSeenD vw (drecsOf vw) s)=some (pinGoodD (drecsOf vw)):=(pz (iI (vg w os)))
def B0(w:World)(os:OsState):(rn (w.withFollow "special-get-raises" true) os).map (λs=>plainSeenE vw (looseW vw ["OPPOSITES"]) s)=some (plainGoodE vw (looseW vw ["OPPOSITES"])):=(iI (iI (vg w os)))
theorem sU(w:World)(os:OsState):(rn (w.withFollow "special-get-raises" true) os).map (λs=>(plainSeenD vw ["OPPOSITES"] s,wideSeen vw s,clsSeenW vw ["OPPOSITES"] s))=some ((plainGoodD vw ["OPPOSITES"]),(wideGood vw),(clsGoodW vw ["OPPOSITES"])):=by
 (refine et ?_ (et ?_ ?_));(focus (walk_at "hf"));(focus (walk_at "hf"));(focus (walk_at "hf"))
def zH(w:World)(os:OsState):(rn (w.withFollow "special-get-raises" true) os).map (λs=>plainSeenD vw ["OPPOSITES"] s)=some (plainGoodD vw ["OPPOSITES"]):=(pz (sU w os))
def Bx(w:World)(os:OsState):(rn (w.withFollow "special-get-raises" true) os).map (λs=>wideSeen vw s)=some (wideGood vw):=(pz (iI (sU w os)))
def Ao(w:World)(os:OsState):(rn (w.withFollow "special-get-raises" true) os).map (λs=>clsSeenW vw ["OPPOSITES"] s)=some (clsGoodW vw ["OPPOSITES"]):=(iI (iI (sU w os)))
def BC(w:World)(os:OsState):(rn (w.withFollow "special-get-raises" true) os).map (λs=>openSeen vw ["OPPOSITES"] (importedModules PySem.Challenge.pw_rowbetween_k31_both_so.main.body) xt true s)=some (openGood vw ["OPPOSITES"]):=(et (zF w os) (et (zr w os) (et (zY w os) (et (AJ w os) (et (AC w os) (et (B0 w os) (et (zH w os) (et (Bx w os) (Ao w os)))))))))
def all_b{α:Type}{Yf:Shared->α}{Ya:World->α}(h:∀(w:World) (os:OsState),(rn (w.withFollow "special-get-raises" true) os).map (λs=>Yf s)=some (Ya (w.withFollow "special-get-raises" true)))(w:World)(os:OsState) :
  (rn (w.withFollow "special-get-raises" true) os).map (λs=>(staticsOk (importedModules PySem.Challenge.pw_rowbetween_k31_both_so.main.body) (boot_heap (w.withFollow "special-get-raises" true).params) s.heap&&namesBound PySem.Challenge.pw_rowbetween_k31_both_so s.heap&&gensDone s&&laidKept (boot_heap (w.withFollow "special-get-raises" true).params) s.heap,openSeen vw ["OPPOSITES"] (importedModules PySem.Challenge.pw_rowbetween_k31_both_so.main.body) xt true s,Yf s))=some (true,openGood vw ["OPPOSITES"],Ya (w.withFollow "special-get-raises" true)):=et (zN w os) (et (BC w os) (h w os))
end Hd
structure Hd.Facts(K:PySem.W.Frag):Prop where
 q0:DL.FdK K "common_divisor" Lw.s_common_divisor
 q1:DL.FdK K "made" Lw.s_made
 q2:DL.FdK K "plus" Lw.s_plus
 q3:DL.FdK K "times" Lw.s_times
 q4:DL.FdK K "less" Lw.s_less
 q5:DL.FdK K "is_row" Lw.s_is_row
 q6:DL.FdK K "mark_names" Lw.s_mark_names
 q7:DL.FdK K "names_of" Lw.s_names_of
 q8:DL.FdK K "tops_of" Lw.s_tops_of
 q9:DL.FdK K "top_of_sum" Lw.s_top_of_sum
 q10:DL.FdK K "row_is_so" Lw.s_row_is_so
 q11:DL.FdK K "part_is_so" Lw.s_part_is_so
 q12:DL.FdK K "is_so" Lw.s_is_so
 q13:DL.FdK K "contrary" Lw.s_contrary
 q14:DL.FdK K "plain_part" Lw.s_plain_part
 q15:DL.FdK K "plain" Lw.s_plain
 q16:DL.FdK K "_law_cell" Lw.s__law_cell
 q17:DL.FdK K "put_together" Lw.s_put_together
 q18:DL.FdK K "cases_within" Lw.s_cases_within
 q19:DL.FdK K "cases" Lw.s_cases
 q20:DL.FdK K "added" Lw.s_added
 q21:DL.FdK K "weight_of" Lw.s_weight_of
 q22:DL.FdK K "alone" Lw.s_alone
 q23:DL.FdK K "shortened" Lw.s_shortened
 q24:DL.FdK K "crossed" Lw.s_crossed
 q25:DL.FdK K "without" Lw.s_without
 q26:DL.FdK K "taken_out" Lw.s_taken_out
 q27:DL.FdK K "bound_on" Lw.s_bound_on
 q28:DL.FdK K "tighter" Lw.s_tighter
 q29:DL.FdK K "number_in" Lw.s_number_in
 q30:DL.FdK K "piece_for" Lw.s_piece_for
 q31:DL.FdK K "found_back" Lw.s_found_back
 q32:DL.FdK K "solved" Lw.s_solved
 q33:DL.FdK K "both_so" Lw.s_both_so
 q34:DL.FdK K "_law_whole" Lw.s__law_whole
 q35:DL.FdK K "_law_is_fraction" Lw.s__law_is_fraction
 q36:DL.FdK K "_law_over" Lw.s__law_over
 q37:DL.FdK K "_law_total" Lw.s__law_total
 q38:DL.FdK K "_law_row_so" Lw.s__law_row_so
 q39:DL.FdK K "_law_number" Lw.s__law_number
 q40:DL.FdK K "_law_line" Lw.s__law_line
 q41:DL.FdK K "_law_fence" Lw.s__law_fence
 q42:DL.FdK K "_law_shaped" Lw.s__law_shaped
 q43:DL.FdK K "_law_sayings" Lw.s__law_sayings
 q44:DL.FdK K "_law_so" Lw.s__law_so
 q45:DL.FdK K "_law_cases" Lw.s__law_cases
 q46:DL.FdK K "_law_weights_good" Lw.s__law_weights_good
 q47:DL.FdK K "_law_paper_good" Lw.s__law_paper_good
 q48:DL.FdK K "_law_letters" Lw.s__law_letters
 q49:DL.FdK K "_law_called" Lw.s__law_called
 q50:DL.FdK K "_law_names" Lw.s__law_names
 q51:DL.FdK K "_law_point_good" Lw.s__law_point_good
 q52:DL.FdK K "law" Lw.s_law
 z0:PySem.W.nsIn K PySem.mainGlobals "abs"=some none
 z1:PySem.W.nsIn K PySem.mainGlobals "sorted"=some none
 z2:PySem.W.nsIn K PySem.mainGlobals "tuple"=some none
 z3:PySem.W.nsIn K PySem.mainGlobals "len"=some none
 z4:PySem.W.nsIn K PySem.mainGlobals "max"=some none
 z5:PySem.W.nsIn K PySem.mainGlobals "zip"=some none
 z6:PySem.W.nsIn K PySem.mainGlobals "enumerate"=some none
 z7:PySem.W.nsIn K PySem.mainGlobals "range"=some none
 z8:PySem.W.nsIn K PySem.mainGlobals "reversed"=some none
 z9:PySem.W.nsIn K PySem.mainGlobals "dict"=some none
 z10:PySem.W.nsIn K PySem.mainGlobals "isinstance"=some none
 z11:PySem.W.nsIn K PySem.mainGlobals "bool"=some none
 z12:PySem.W.nsIn K PySem.mainGlobals "int"=some none
 z13:PySem.W.nsIn K PySem.mainGlobals "list"=some none
 z14:PySem.W.nsIn K PySem.mainGlobals "set"=some none
 g_OPPOSITES:∃ga:PySem.Addr,PySem.W.nsIn K PySem.mainGlobals "OPPOSITES"=some (some (.ref ga))/\PyProof.Rows.KTD.tabLook (PyProof.Rows.KTD.datLooks λb=>K.lookup b) (λb=>K.lookup b) ga (DL.txt [("least","more"),("more","least"),("both","either"),("either","both")])=true
 g_MOST_ROWS:∃ga:PySem.Tok,PySem.W.nsIn K PySem.mainGlobals "MOST_ROWS"=some (some (.int 3 ga))
 g_MOST_CASES:∃ga:PySem.Tok,PySem.W.nsIn K PySem.mainGlobals "MOST_CASES"=some (some (.int 4 ga))
 g_ENDLESS:∃(ga:PySem.Addr) (od:Option PySem.Addr) (n:Nat) (sl:Array (Option PySem.Value)),PySem.W.nsIn K PySem.mainGlobals "ENDLESS"=some (some (.ref ga))/\K.lookup ga=some ⟨.type "tuple",od,.seq #[.none,.bool false] n,sl⟩
section
open PySem PySem.W PyProof.Rows
local macro_rules | `(tactic| o_head $H) => `(tactic| (
 refine PySem.W.holds_open (r:=PySem.Challenge.rw_rowbetween_k31_both_so.row) (q:=Hd.vw) (loose:=["OPPOSITES"]) (Xt:=Hd.xt)
  (XP:=PySem.W.XL Hd.vw []) (Yf:=PySem.W.Hook.obs $H) (Ya:=PySem.W.Hook.val $H) (YP:=PySem.W.Hook.says $H) (N:=5494)
  ?_ (PySem.W.Hook.of $H) (PySem.W.Hook.keeps $H) (λs e=>PySem.W.xl_of s (Hn.mp e).1)
  PySem.W.XL.keeps (by rfl) (by rfl) (by rfl) (λs e=>PySem.W.recFacts_of (Hn.mp e).2)
  (by rfl) (by first | assumption | decide +kernel) (by decide +kernel) ⟨rfl,rfl,rfl,rfl,rfl,by decide +kernel⟩ ?_ ?_
 (focus (refine Hd.left ?_;refine Hd.twoRows "special-get-raises" (Hd.all_a ?_) (Hd.all_b ?_);(focus (intro w os;unfold Hd.rn Hd.st0;(try rw[PySem.W.Fast.te14082659384304107361]);(try rw[PySem.W.Fast.te14364793385576792824]);(try rw[PySem.W.Fast.te5160383126252970620]);(try rw[PySem.W.Fast.te10880121769531294198]);(try rw[PySem.W.Fast.te14722251495701143533]);(try rw[PySem.W.Fast.te10994771534591457954]);(try rw[PySem.W.Fast.te479339242167458305]);(try rw[PySem.W.Fast.te16090120013241838585]);(try rw[PySem.W.Fast.te2386780881361962483]);(try rw[PySem.W.Fast.te11698064438423848299]);(try rw[PySem.W.Fast.te7317090234206586261]);(try rw[PySem.W.Fast.te7369524293546568484]);(try rw[PySem.W.Fast.te821141287760084731]);(try rw[PySem.W.Fast.te3399658132070893891]);(try rw[PySem.W.Fast.te7409074990110511671]);(try rw[PySem.W.Fast.te13664370479719496447]);(try rw[PySem.W.Fast.te5991557255702980513]);(try rw[PySem.W.Fast.te3247288618530077131]);(try rw[PySem.W.Fast.te5923862056798008813]);kernel_rfl));(focus (intro w os;unfold Hd.rn Hd.st0;(try rw[PySem.W.Fast.te14082659384304107361]);(try rw[PySem.W.Fast.te14364793385576792824]);(try rw[PySem.W.Fast.te5160383126252970620]);(try rw[PySem.W.Fast.te10880121769531294198]);(try rw[PySem.W.Fast.te14722251495701143533]);(try rw[PySem.W.Fast.te10994771534591457954]);(try rw[PySem.W.Fast.te479339242167458305]);(try rw[PySem.W.Fast.te16090120013241838585]);(try rw[PySem.W.Fast.te2386780881361962483]);(try rw[PySem.W.Fast.te11698064438423848299]);(try rw[PySem.W.Fast.te7317090234206586261]);(try rw[PySem.W.Fast.te7369524293546568484]);(try rw[PySem.W.Fast.te821141287760084731]);(try rw[PySem.W.Fast.te3399658132070893891]);(try rw[PySem.W.Fast.te7409074990110511671]);(try rw[PySem.W.Fast.te13664370479719496447]);(try rw[PySem.W.Fast.te5991557255702980513]);(try rw[PySem.W.Fast.te3247288618530077131]);(try rw[PySem.W.Fast.te5923862056798008813]);kernel_rfl))))
 (focus w_witness2)))
set_option maxRecDepth 100000 in
set_option maxHeartbeats 0 in
theorem Hd.half(F:∀(YP:World->Heap->Prop) (d:DefRec) (K:Params->PySem.W.Frag),(∀(w:World) (h:Heap),YP w h->(K w.params).In h)->d.params.defaults=[]->d.name="law"->(∀w:World,Hd.Facts (K w.params))->PySem.W.WalkO Hd.vw ["OPPOSITES"] (PySem.W.XL Hd.vw []) YP PySem.Challenge.rw_rowbetween_k31_both_so.row.toRowW d [] (λf vs=>PySem.call f vs)):PySem.Challenge.rw_rowbetween_k31_both_so.Holds:=by
 w_on;refine PySem.W.holds_law Hd.said λsaid=>?_;k_head
 k_fill
 refine F _ _ _ (λw h Y=>PySem.W.kIn_of Y) rfl rfl λw=>?_
 constructor
 iterate 53 (focus (exact⟨⟨_,_,_,_,_,_,_,_,_,_,by k_is,by k_is,by k_is,by k_is⟩⟩))
 ·k_is
 ·k_is
 ·k_is
 ·k_is
 ·k_is
 ·k_is
 ·k_is
 ·k_is
 ·k_is
 ·k_is
 ·k_is
 ·k_is
 ·k_is
 ·k_is
 ·k_is
 ·exact⟨_,by k_is,by kernel_rfl⟩
 ·exact⟨_,by k_is⟩
 ·exact⟨_,by k_is⟩
 ·exact⟨_,_,_,_,by k_is,by k_is⟩
end
namespace L2
open PySem PySem.Spec PyProof.Rows
abbrev Gr:=Sum Int Str
def nu:Gr->Value->Bool
 | .inl k,v=>Value.isInt k v
 | .inr x,v=>Value.isStrOf x v
def keyH(w:World):Gr->Int
 | .inl k=>hashInt k
 | .inr x=>hashStr w x
def a5:∀ {k:Gr} {v:Value},nu k v=true->(∃i t,k=Sum.inl i/\v=Value.int i t)\/(∃x t,k=Sum.inr x/\v=Value.str x t)
 | .inl i,v,h=>by
  obtain⟨t,e⟩:=Value.isInt_shape (k:=i) (v:=v) h;exact .inl ⟨i,t,rfl,e⟩
 | .inr x,v,h=>by
  obtain⟨t,e⟩:=Value.isStrOf_shape (x:=x) (v:=v) h;exact .inr ⟨x,t,rfl,e⟩
theorem uS(i:Int)(t:Tok):nu (.inl i) (.int i t)=true:=by simp[nu,Value.isInt]
theorem tD(x:Str)(t:Tok):nu (.inr x) (.str x t)=true:=by simp[nu,Value.isStrOf]
theorem CH(a b:Int):decide ((Sum.inl a:Gr)=Sum.inl b)=(a==b):=by
 by_cases e:a=b
 ·subst e;simp
 ·have h:¬ (Sum.inl a:Gr)=Sum.inl b:=λq=>e (Sum.inl.inj q)
  rw[HA h];exact(J0.mpr e).symm
theorem DH(a b:Str):decide ((Sum.inr a:Gr)=Sum.inr b)=decide (a=b):=by
 by_cases e:a=b
 ·subst e;simp
 ·have h:¬ (Sum.inr a:Gr)=Sum.inr b:=λq=>e (Sum.inr.inj q)
  rw[HA h,HA e]
def C0(a:Int)(b:Str):decide ((Sum.inl a:Gr)=Sum.inr b)=false:=HA (λq=>nomatch q)
def Ec(a:Str)(b:Int):decide ((Sum.inr a:Gr)=Sum.inl b)=false:=HA (λq=>nomatch q)
def aX(prog:Program)(w:World):PySem.KeyKind prog w Gr where
 is:=nu
 hash:=keyH w
 inj:=λv a b ha hb=>by
  rcases a5 ha with⟨i,t,rfl,rfl⟩ | ⟨x,t,rfl,rfl⟩
  ·rcases a5 hb with⟨j,u,rfl,e⟩ | ⟨y,u,rfl,e⟩
   ·injection e with e1 _;rw[e1]
   ·exact nomatch e
  ·rcases a5 hb with⟨j,u,rfl,e⟩ | ⟨y,u,rfl,e⟩
   ·exact nomatch e
   ·injection e with e1 _;rw[e1]
 byValue:=λk v h=>by
  rcases a5 h with⟨i,t,rfl,rfl⟩ | ⟨x,t,rfl,rfl⟩<;>rfl
 pyHash:=λhv h=>by
  rcases a5 hv with⟨i,t,rfl,rfl⟩ | ⟨x,t,rfl,rfl⟩
  ·exact wpAny_pyHash_int h
  ·exact wpAny_pyHash_str h
 eqBool:=λhu hv h=>by
  rcases a5 hu with⟨i,t,rfl,rfl⟩ | ⟨x,t,rfl,rfl⟩
  ·rcases a5 hv with⟨j,u,rfl,rfl⟩ | ⟨y,u,rfl,rfl⟩
   ·rw[CH] at h;exact wpAny_eqBool_int h
   ·rw[C0] at h;exact SeqAt.EqAt.int_str i t y u _ _ _ _ h
  ·rcases a5 hv with⟨j,u,rfl,rfl⟩ | ⟨y,u,rfl,rfl⟩
   ·rw[Ec] at h;exact SeqAt.EqAt.str_int x t j u _ _ _ _ h
   ·rw[DH] at h;exact wpAny_eqBool_str h
 «strs»:=λk x t v h=>by
  rcases a5 h with⟨i,u,rfl,e⟩ | ⟨y,u,rfl,e⟩
  ·exact nomatch e
  ·injection e with e1 _
   subst e1
   cases v<;>rfl
def oV(prog:Program)(w:World)(i:Int)(t:Tok):(aX prog w).is (.inl i) (.int i t)=true:=uS i t
def oU(prog:Program)(w:World)(x:Str)(t:Tok):(aX prog w).is (.inr x) (.str x t)=true:=tD x t
end L2
namespace L2
open PySem PySem.Spec PyProof.Rows
variable {a b:Addr} {h:Heap}
inductive V where
 | non | bl (b:Bool) | int (i:Int) | str (x:Str) | byt (b:Array UInt8) | flt (b:UInt64) | ref (a:Addr) | ty (n:String)
 deriving DecidableEq
def bx:V->Value->Prop
 | .non,u=>u=Value.none
 | .bl b,u=>u=Value.bool b
 | .int i,u=>∃t,u=Value.int i t
 | .str x,u=>∃t,u=Value.str x t
 | .byt b,u=>∃t,u=Value.bytes b t
 | .flt b,u=>∃t,u=Value.float b t
 | .ref a,u=>u=Value.ref a
 | .ty n,u=>u=Value.type n
abbrev bn:List V->List Value->Prop:=Paired bx
def bn.length{xs:List V}{us:List Value}(r:bn xs us):xs.length=us.length:=Paired.length r
def bn.get:∀ {xs:List V} {us:List Value} {i:Nat} {x:V},bn xs us->xs[i]?=some x->∃u,us[i]?=some u/\bx x u
 | _,_,_,_,.nil,e=>by simp at e
 | _,_,0,_,.cons r _,e=>by simp at e;subst e;exact⟨_,rfl,r⟩
 | _,_,i+1,x,.cons _ t,e=>by
  obtain⟨u,h1,h2⟩:=bn.get (i:=i) (x:=x) t (by simpa using e);exact⟨u,by simpa using h1,h2⟩
def bn.set{x:V}{u:Value}(r:bx x u):∀ {xs:List V} {us:List Value} (i:Nat),bn xs us->bn (xs.set i x) (us.set i u)
 | _,_,_,.nil=>.nil
 | _,_,0,.cons _ t=>.cons r t
 | _,_,i+1,.cons q t=>.cons q (bn.set r i t)
def bn.append:∀ {xs ys:List V} {us ws:List Value},bn xs us->bn ys ws->bn (xs++ys) (us++ws)
 | _,_,_,_,.nil,s=>s
 | _,_,_,_,.cons r t,s=>.cons r (bn.append t s)
def bn.take:∀ {xs:List V} {us:List Value} (n:Nat),bn xs us->bn (xs.take n) (us.take n)
 | _,_,0,_=>.nil
 | _,_,_+1,.nil=>.nil
 | _,_,n+1,.cons r t=>.cons r (bn.take n t)
def bn.drop:∀ {xs:List V} {us:List Value} (n:Nat),bn xs us->bn (xs.drop n) (us.drop n)
 | _,_,0,r=>r
 | _,_,_+1,.nil=>.nil
 | _,_,n+1,.cons _ t=>bn.drop n t
def sG:Option V->Option Value->Prop
 | some v,some u=>bx v u
 | none,none=>True
 | _,_=>False
def KV{κ:Type}:List (κ×V)->List (κ×Value)->Prop:=Paired λ(p:κ×V) (q:κ×Value)=>p.1=q.1/\bx p.2 q.2
def kV:Gr->V
 | .inl i=>.int i
 | .inr x=>.str x
inductive HO where
 | lst (xs:List V)
 | tup (xs:List V)
 | dK (kvs:List (Gr×V)) | dT (kvs:List (List Gr×V))
 | set (S:Int->Bool) (n:Nat)
 | ins (C dx:Addr) (fs:List (Str×V))
 | own (x:Addr)
 | xd (fs:List (Str×V))
 | met (f x:Addr)
 | rng (lo hi:Int)
 | frz (o:Obj) (u:HO)
 | tbl (ps:Array Value)
 | ext (φ:Heap->Prop)
abbrev Hp:=Addr->Option HO
def GC(H:Hp)(a:Addr)(o:HO):Hp:=λb=>if b=a then some o else H b
theorem aC{H:Hp}{o:HO}:GC H a o a=some o:=by unfold GC;rw[Hh rfl]
theorem aH{H:Hp}{o:HO}(h:b≠a):GC H a o b=H b:=by unfold GC;rw[He h]
theorem FK{H:Hp}{o u:HO}(h:H a=some o)(h':H b=some u)(d:o≠u):a≠b:=by
 intro e;subst e;rw[h] at h';exact d (Hg h')
theorem cD{H:Hp}{o:HO}(h:H a=some o)(h':H b=none):a≠b:=by
 intro e;subst e;rw[h] at h';cases h'
section
variable (P:Program) (w:World)
def bN(H:Hp)(h:Heap)(a:Addr):HO->Prop
 | .lst xs=>xs.length<=sizeLine/\∃(its:List Value) (n:Nat),bn xs its/\h.get? a=some { cls:=.type "list",data:=.seq its.toArray n }
 | .tup xs=>xs.length<=sizeLine/\∃its:List Value,bn xs its/\IsTup h a its.toArray
 | .dK kvs=>kvs.length<=sizeLine/\(a==sysModules)=false/\∃vs,KV kvs vs/\h.DictOf (aX P w) a vs
 | .dT kvs=>kvs.length<=sizeLine/\(a==sysModules)=false/\∃xs:List (List Gr×Addr×Value),
   Paired (λ(p:List Gr×V) (q:List Gr×Addr×Value)=>p.1=q.1/\H q.2.1=some (.tup (p.1.map kV))/\bx p.2 q.2.2) kvs xs /\
   ∃o es ep,h.get? a=some o/\o.ExactDict/\o.data=.dict es ep/\es.toList=xs.map (entryOfKey (tupleKind (aX P w)))/\(xs.map (·.1)).Nodup
 | .set S n=>h.SetOf (intKind P w) a S n
 | .ins C dx fs=>H dx=some (.own a)/\fs.length<=1000/\dx≠a/\h.get? a=some (PySem.W.instObj C dx) /\
   ∃mA,h.Ns1 dx mA/\(∀f,sG (fs.lookup f) (mA f))/\PySem.Within mA (fs.map (·.1))
 | .own _=>∃o,h.get? a=some o
 | .xd fs=>∃mA,h.Ns1 a mA/\∀f,sG (fs.lookup f) (mA f)
 | .rng lo hi=>∃t u v,h.get? a=some { cls:=.type "range",data:=.fields #[.int lo t,.int hi u,.int 1 v] }
 | .frz o u=>h.get? a=some o/\bN H h a u
 | .tbl ps=>h.get? a=some { cls:=.none,data:=.fields ps }
 | .met f x=>h.get? a=some (PySem.W.methodObj (.ref f) (.ref x))
 | .ext φ=>φ h/\(∃o,h.get? a=some o)/\∀h1 h2:Heap,φ h1->(∀o,h1.get? a=some o->h2.get? a=some o)->φ h2
def GT(H:Hp)(h:Heap):Prop:=∀a o,H a=some o->bN P w H h a o
end
section
variable {P:Program} {w:World} {H H':Hp} {h h':Heap} {a:Addr} {o:HO}
theorem bN.lt(x:bN P w H h a o):a<h.objs.size:=by
 cases o with
 | lst xs=>obtain⟨_,_,_,_,e⟩:=x;exact Hk e
 | tup xs=>obtain⟨_,_,_,p⟩:=x;exact p.lt
 | dK kvs=>obtain⟨_,_,_,_,o,_,_,e,_⟩:=x;exact Hk e
 | dT kvs=>obtain⟨_,_,_,_,o,_,_,e,_⟩:=x;exact Hk e
 | set S n=>obtain⟨o,_,_,_,e,_⟩:=x;exact Hk e
 | ins C dx fs=>obtain⟨_,_,_,e,_⟩:=x;exact Hk e
 | own y=>obtain⟨_,e⟩:=x;exact Hk e
 | xd fs=>obtain⟨_,⟨_,_,_,e,_⟩,_⟩:=x;exact Hk e
 | rng lo hi=>obtain⟨_,_,_,e⟩:=x;exact Hk e
 | frz ob u=>obtain⟨e,_⟩:=x;exact Hk e
 | tbl ps=>exact Hk (show h.get? a=some _ from x)
 | met f y=>exact Hk (show h.get? a=some _ from x)
 | ext φ=>obtain⟨_,⟨_,e⟩,_⟩:=x;exact Hk e
def Paired.mapP{α β:Type}{F G:α->β->Prop}:∀ {l₁:List α} {l₂:List β},Paired F l₁ l₂->(∀a b,F a b->G a b)->Paired G l₁ l₂
 | _,_,.nil,_=>.nil
 | _,_,.cons r t,f=>.cons (f _ _ r) (Paired.mapP t f)
theorem bN.stay(x:bN P w H h a o)(k:∀b u,(b=a\/H b=some (.own a))->h.get? b=some u->h'.get? b=some u)
  (ho:∀b,H b=some (.own a)->H' b=some (.own a)) (ht:∀b xs,H b=some (.tup xs)->H' b=some (.tup xs)):bN P w H' h' a o:=by
 induction o with
 | lst xs=>obtain⟨z,its,n,r,e⟩:=x;exact⟨z,its,n,r,k _ _ (.inl rfl) e⟩
 | tup xs=>obtain⟨z,its,r,ob,e,c⟩:=x;exact⟨z,its,r,ob,k _ _ (.inl rfl) e,c⟩
 | dK kvs=>obtain⟨z,y,vs,r,ob,es,ep,e,c⟩:=x;exact⟨z,y,vs,r,ob,es,ep,k _ _ (.inl rfl) e,c⟩
 | dT kvs =>
  obtain⟨z,y,xs,r,ob,es,ep,e,c⟩:=x;exact⟨z,y,xs,Paired.mapP r λp q z=>⟨z.1,ht _ _ z.2.1,z.2.2⟩,ob,es,ep,k _ _ (.inl rfl) e,c⟩
 | set S n=>obtain⟨ob,es,ep,t,e,c⟩:=x;exact⟨ob,es,ep,t,k _ _ (.inl rfl) e,c⟩
 | ins C dx fs =>
  obtain⟨d,z,ne,e,mA,⟨od,es,ep,e2,c⟩,r⟩:=x;exact⟨ho _ d,z,ne,k _ _ (.inl rfl) e,mA,⟨od,es,ep,k _ _ (.inr d) e2,c⟩,r⟩
 | own y=>obtain⟨ob,e⟩:=x;exact⟨ob,k _ _ (.inl rfl) e⟩
 | xd fs=>obtain⟨mA,⟨od,es,ep,e,c⟩,r⟩:=x;exact⟨mA,⟨od,es,ep,k _ _ (.inl rfl) e,c⟩,r⟩
 | rng lo hi=>obtain⟨t,u,v,e⟩:=x;exact⟨t,u,v,k _ _ (.inl rfl) e⟩
 | frz ob u ih=>obtain⟨e,q⟩:=x;exact⟨k _ _ (.inl rfl) e,ih q⟩
 | tbl ps =>
  have e:h.get? a=some { cls:=.none,data:=.fields ps }:=x
  show h'.get? a=some { cls:=.none,data:=.fields ps }
  exact k a _ (.inl rfl) e
 | met f y =>
  have e:h.get? a=some (PySem.W.methodObj (.ref f) (.ref y)):=x
  show h'.get? a=some (PySem.W.methodObj (.ref f) (.ref y))
  exact k a _ (.inl rfl) e
 | ext φ=>obtain⟨p,⟨o,e⟩,st⟩:=x;exact⟨st _ _ p λo q=>k _ _ (.inl rfl) q,⟨o,k _ _ (.inl rfl) e⟩,st⟩
def GT.lt(x:GT P w H h)(e:H a=some o):a<h.objs.size:=(x a o e).lt
theorem GT.fresh(x:GT P w H h)(e:h.objs.size<=a):H a=none:=by
 cases q:H a with
 | none=>rfl
 | some u=>exact absurd (HD (x.lt q) e) (HX _)
def GT.kept(x:GT P w H h)(k:∀b u,h.get? b=some u->h'.get? b=some u):GT P w H h':=λa o e =>
 (x a o e).stay (λb u _ q=>k b u q) (λ_ q=>q) λ_ _ q=>q
def GT.laid(x:GT P w H h)(k:∀b u,h.get? b=some u->h'.get? b=some u)(hp:h.objs.size<=a)(new:bN P w (GC H a o) h' a o):GT P w (GC H a o) h':=λb u e=>by
 have hn:=x.fresh hp
 by_cases hb:b=a
 ·subst hb;rw[aC] at e;cases e;exact new
 ·rw[aH hb] at e;exact(x b u e).stay (λc v _ q=>k c v q) (λc q=>by rw[aH (cD q hn)];exact q) λc xs q=>by rw[aH (cD q hn)];exact q
end
def Rd(H:Hp)(a:Addr)(u:HO):Prop:=H a=some u\/∃o,H a=some (.frz o u)
def Rd.of{H:Hp}{u:HO}(h:H a=some u):Rd H a u:=.inl h
theorem Rd.ok{P:Program}{w:World}{H:Hp}{u:HO}(r:Rd H a u)(x:GT P w H h):bN P w H h a u:=by
 rcases r with r | ⟨o,r⟩
 ·exact x a u r
 ·obtain⟨_,q⟩:=x a _ r;exact q
def Mut:Option HO->Prop
 | some (.lst _)=>True
 | some (.dK _)=>True
 | some (.dT _)=>True
 | some (.set _ _)=>True
 | some (.ins _ _ _)=>True
 | some (.ext _)=>True
 | _=>False
section
variable {P:Program} {w:World} {H:Hp} {h h':Heap} {x e:Addr} {o':HO}
theorem GT.write(ok:GT P w H h)(mu:Mut (H x))(he:e=x\/H e=some (.own x))(k:∀b u,b≠e->h.get? b=some u->h'.get? b=some u)(heo:∃u,h'.get? e=some u)
  (new:bN P w (GC H x o') h' x o'):GT P w (GC H x o') h':=λb u q=>by
 have nown:∀c y,H c=some (.own y)->c≠x:=λc y r z=>by subst z;rw[r] at mu;exact mu
 have ntup:∀c xs,H c=some (.tup xs)->c≠x:=λc xs r z=>by subst z;rw[r] at mu;exact mu
 by_cases hb:b=x
 ·subst hb;rw[aC] at q;cases q;exact new
 ·rw[aH hb] at q
  by_cases hbe:b=e
  ·have q':H b=some (.own x):=by
    rcases he with z | z
    ·exact absurd (hbe.trans z) hb
    ·rw[hbe];exact z
   rw[q] at q';cases q';obtain⟨v,hv⟩:=heo;exact⟨v,by rw[hbe];exact hv⟩
  ·refine(ok b u q).stay (λc v hc r=>k c v ?_ r) (λc r=>by rw[aH (nown c b r)];exact r) λc xs r=>by rw[aH (ntup c xs r)];exact r
   rcases hc with rfl | hc
   ·exact hbe
   ·rintro rfl
    rcases he with z | z
    ·exact nown c b hc z
    ·rw[hc] at z;cases z;exact hb rfl
end
structure Un(fs ex:List Addr)(H H':Hp)(h h':Heap):Prop where
 keep:∀b o,h.get? b=some o->H b=none->b∉fs->b∉ex->h'.get? b=some o
 slot:∀b o,h.get? b=some o->H b=none->b∈fs->b∉ex->∃sl,h'.get? b=some { o with slots:=sl }
 free:∀b o,h.get? b=some o->H b=none->b∉ex->H' b=none
 there:∀b o,h.get? b=some o->b∉ex->∃o',h'.get? b=some o'
 tups:∀b xs,H b=some (.tup xs)->H' b=some (.tup xs)
 frzs:∀b o u,H b=some (.frz o u)->H' b=some (.frz o u)
 tbls:∀b ps,H b=some (.tbl ps)->∃more,H' b=some (.tbl (ps++more))
section
variable {fs fs' ex ex':List Addr} {H H1 H2:Hp} {h h1 h2 h':Heap} {a x e:Addr} {o:HO}
theorem Un.any(u:Un fs ex H H1 h h1){ob:Obj}(q:h.get? b=some ob)(n:H b=none)(hx:b∉ex):∃sl,h1.get? b=some { ob with slots:=sl }:=by
 by_cases hb:b∈fs
 ·exact u.slot b ob q n hb hx
 ·exact⟨ob.slots,u.keep b ob q n hb hx⟩
def Un.trans(a:Un fs ex H H1 h h1)(b:Un fs ex H1 H2 h1 h2):Un fs ex H H2 h h2 where
 keep:=λc ob q n hc hx=>b.keep c ob (a.keep c ob q n hc hx) (a.free c ob q n hx) hc hx
 slot:=λc ob q n hc hx=>by
  obtain⟨sl,e1⟩:=a.slot c ob q n hc hx;obtain⟨sl',e2⟩:=b.slot c _ e1 (a.free c ob q n hx) hc hx;exact⟨sl',e2⟩
 free:=λc ob q n hx=>by
  obtain⟨o',e1⟩:=a.there c ob q hx;exact b.free c o' e1 (a.free c ob q n hx) hx
 there:=λc ob q hx=>by
  obtain⟨o',e1⟩:=a.there c ob q hx;exact b.there c o' e1 hx
 tups:=λc xs q=>b.tups c xs (a.tups c xs q)
 frzs:=λc ob xs q=>b.frzs c ob xs (a.frzs c ob xs q)
 tbls:=λc ps q=>by
  obtain⟨m1,e1⟩:=a.tbls c ps q;obtain⟨m2,e2⟩:=b.tbls c _ e1;exact⟨m1++m2,by rw[e2,Array.append_assoc]⟩
def Un.kept(k:∀b u,h.get? b=some u->h'.get? b=some u):Un fs ex H H h h' :=
 ⟨λb ob q _ _ _=>k b ob q,λb ob q _ _ _=>⟨ob.slots,k b ob q⟩,λ_ _ _ n _=>n,λb ob q _=>⟨ob,k b ob q⟩,λ_ _ q=>q,λ_ _ _ q=>q,λ_ ps q=>⟨#[],by rw[q];simp⟩⟩
def Un.refl:Un fs ex H H h h:=Un.kept λ_ _ q=>q
def Un.laid(k:∀b u,h.get? b=some u->h'.get? b=some u)(hp:h.objs.size<=a)(hn:H a=none):Un fs ex H (GC H a o) h h' where
 keep:=λb u q _ _ _=>k b u q
 slot:=λb u q _ _ _=>⟨u.slots,k b u q⟩
 free:=λb u q n _=>by rw[aH (Hz (HD (Hk q) hp))];exact n
 there:=λb u q _=>⟨u,k b u q⟩
 tups:=λb xs q=>by rw[aH (cD q hn)];exact q
 frzs:=λb u xs q=>by rw[aH (cD q hn)];exact q
 tbls:=λb ps q=>⟨#[],by rw[aH (cD q hn),q];simp⟩
theorem Un.write(mu:Mut (H x))(he:e=x\/H e=some (.own x))(k:∀b u,b≠e->h.get? b=some u->h'.get? b=some u)(heo:∃u,h'.get? e=some u):Un fs ex H (GC H x o) h h':=by
 have hx:∀b,H b=none->b≠x:=λb n z=>by subst z;rw[n] at mu;exact mu
 have hb:∀b,H b=none->b≠e:=λb n z=>by
  subst z
  rcases he with r | r
  ·exact hx b n r
  ·rw[n] at r;cases r
 have hm:∀b u,H b=some u->¬ Mut (some u)->b≠x:=λb u q nm z=>by subst z;rw[q] at mu;exact nm mu
 refine⟨λb u q n _ _=>k b u (hb b n) q,λb u q n _ _=>⟨u.slots,k b u (hb b n) q⟩,λb u q n _=>by rw[aH (hx b n)];exact n,λb u q _=>?_,
  λb xs q=>by rw[aH (hm b _ q λz=>z)];exact q,λb u xs q=>by rw[aH (hm b _ q λz=>z)];exact q,λb ps q=>⟨#[],by rw[aH (hm b _ q λz=>z),q];simp⟩⟩
 by_cases hbe:b=e
 ·subst hbe;exact heo
 ·exact⟨u,k b u hbe q⟩
def Un.mono(u:Un fs ex H H1 h h1)(hs:∀b∈fs,b∈fs')(hx:∀b∈ex,b∈ex'):Un fs' ex' H H1 h h1 :=
 ⟨λb ob q n hb he=>u.keep b ob q n (λz=>hb (hs b z)) λz=>he (hx b z),λ_ _ q n _ he=>u.any q n λz=>he (hx _ z),λb ob q n he=>u.free b ob q n λz=>he (hx b z),λb ob q he=>u.there b ob q λz=>he (hx b z),u.tups,u.frzs,u.tbls⟩
end
def trk(h:Heap)(H:Hp):List Addr:=(List.range h.objs.size).filter λa=>(H a).isSome
def xH(h:Heap)(H:Hp):Heap:=PySem.W.hideAll h (trk h H)
def vD(h:Heap)(H:Hp):(xH h H).objs.size=h.objs.size:=PySem.W.hideAll_size _ _
def yd{H:Hp}{o:Obj}(e:h.get? b=some o)(n:H b=none):(xH h H).get? b=some o :=
 PySem.W.hideAll_get _ e λhm=>by
  have q:(H b).isSome=true:=(Hi.mp hm).2
  rw[n] at q;simp at q
theorem Ae{H:Hp}{o:Obj}(e:(xH h H).get? b=some o):h.get? b=some o/\H b=none:=by
 have e':h.get? b=some o:=PySem.W.of_hideAll (trk h H) e
 refine⟨e',?_⟩
 cases q:H b with
 | none=>rfl
 | some x =>
  have hm:b∈trk h H:=Hi.mpr ⟨Ig.mpr (Hk e'),by simp[q]⟩
  have z:(xH h H).get? b=none:=PySem.W.hideAll_none (trk h H) hm
  rw[z] at e;cases e
def BT(g h:Heap)(L:Addr):List (Addr×Obj):=(List.range h.objs.size).filterMap λa=>if a=L\/(g.get? a).isSome=true then none else (h.get? a).map λo=>(a,o)
def cJ(g h:Heap)(L d:Addr):List (Addr×Obj):=(BT g h L).filter λp=>decide (p.1≠d)
end L2
namespace L2
open PySem PySem.Spec PyProof.Rows
variable {t' i:Nat} {ch:List Addr} {x:Str} {M:Model} {A:Around} {E:Value→Shared→Prop}
structure Mod(K:PySem.W.Frag)(mg:Str->Option Value)(base:Heap):Prop where
 kin:K.In base
 glob:base.Ns mainGlobals mg
 blt:∃mb,base.Ns builtinsNs mb/\∀x:Str,x≠"__name__"->mb x=bootBuiltins x
 nolimit:base.NoLimit
structure Cx where
 prog:Program
 w:World
 K:PySem.W.Frag
 mg:Str->Option Value
 base:Heap
 A:Around
 N:List Str
 s₀:Shared
 H₀:Hp
 env:Env
 outer:List Env
 stack:List Env
 ex:List Addr
 fn:Str->Bool
 calm:Bool
 pn:List (Addr×Obj)
 xe:Value->Shared->Prop
def frs(l:List Env):List Addr:=l.filterMap (·.frame)
abbrev Cx.fs(X:Cx):List Addr:=frs X.outer
def Vis(sc:Scope)(x:Str):Prop:=sc.names.lookup x=some .local\/sc.names.lookup x=some .cell\/sc.names.lookup x=some .free
def Loc(sc:Scope)(x:Str):Prop:=sc.names.lookup x=some .local\/sc.names.lookup x=some .cell
def Look(env:Env)(h:Heap)(m:Str->Option Value)(x:Str)(u:Value):Prop :=
 (env.kindOf x=some .local/\m x=some u)\/((env.kindOf x=some .cell\/env.kindOf x=some .free)/\∃c,env.cells.lookup x=some c/\h.IsCell c (some u))
structure Cx.Ok(X:Cx):Prop where
 mod:Mod X.K X.mg X.base
 kind:X.env.scope.kind=.function
 glob:X.env.globals=mainGlobals
 blt:X.env.builtins=builtinsNs
 above:X.s₀.heap.objs.size<=X.env.locals
 inj:∀x y c,X.env.cells.lookup x=some c->X.env.cells.lookup y=some c->x=y
 has:∀x,(X.env.kindOf x=some .cell\/X.env.kindOf x=some .free)->∃c,X.env.cells.lookup x=some c
 cab:∀x c,X.fn x=true->X.env.cells.lookup x=some c->X.s₀.heap.objs.size<=c
 hd:X.calm=true->X.A.handled=none
 frames:X.A.frames=some X.stack
 stk:X.stack=X.outer\/(X.stack=X.env::X.outer/\X.env.frame=some X.env.locals)
 exf:∀b∈X.ex,b≠X.env.locals/\∀x c,X.env.cells.lookup x=some c->c≠b
 bs:∀b o,X.base.get? b=some o->X.s₀.heap.get? b=some o/\X.H₀ b=none
 bsz:X.base.objs.size<=X.s₀.heap.objs.size
 noex:∀b o,X.base.get? b=some o->b∉X.ex
 exfs:∀b∈X.ex,b∉X.fs
 funs:X.s₀.heap.FunFrames X.base X.outer
 frf:∀b∈X.fs,X.H₀ b=none
structure Inv(X:Cx)(pins:List (Addr×Obj))(σ:List (Option V))(H:Hp)(s:Shared):Prop where
 ok:X.Ok
 os:s.os=X.s₀.os
 bare:AllBare s.gens
 base:Un X.fs X.ex X.H₀ H X.s₀.heap s.heap
 loc:∃m,s.heap.Ns X.env.locals m/\∀(i:Nat) (x:Str) (v:V),X.N[i]?=some x->σ[i]?=some (some v)->Vis X.env.scope x->∃u,bx v u/\Look X.env s.heap m x u
 cell:∀x c,X.env.cells.lookup x=some c->∃v,s.heap.IsCell c v
 free:H X.env.locals=none
 freeC:∀x c,X.env.cells.lookup x=some c->H c=none
 pin:∀p∈X.pn++pins,s.heap.get? p.1=some p.2/\H p.1=none/\p.1≠X.env.locals/\p.1∉X.fs/\∀v,p.2.data≠.cell v
 hok:GT X.prog X.w H s.heap
 len:σ.length=X.N.length
section
variable {X:Cx} {pins:List (Addr×Obj)} {σ:List (Option V)} {H H':Hp} {s:Shared} {h':Heap}
def Cx.Ok.nofr(ok:X.Ok){b:Addr}{o:Obj}(e:X.base.get? b=some o):b∉X.fs:=λhb=>by
 have:=(ok.funs.mem hb).1
 rw[e] at this;cases this
def Inv.bs(I:Inv X pins σ H s):∀b o,X.base.get? b=some o->s.heap.get? b=some o/\H b=none:=λb o e =>
 ⟨I.base.keep b o (I.ok.bs b o e).1 (I.ok.bs b o e).2 (I.ok.nofr e) (I.ok.noex b o e),I.base.free b o (I.ok.bs b o e).1 (I.ok.bs b o e).2 (I.ok.noex b o e)⟩
def Inv.bk(I:Inv X pins σ H s):∀b o,X.base.get? b=some o->s.heap.get? b=some o:=λb o e=>(I.bs b o e).1
def Inv.mod(I:Inv X pins σ H s):Mod X.K X.mg X.base:=I.ok.mod
def Inv.kIn(I:Inv X pins σ H s):X.K.In s.heap:=I.ok.mod.kin.keeps I.bk
def Inv.lt(I:Inv X pins σ H s):X.env.locals<s.heap.objs.size:=let ⟨_,hn,_⟩:=I.loc;hn.lt
def Inv.sz(I:Inv X pins σ H s):X.s₀.heap.objs.size<=s.heap.objs.size:=G0 I.ok.above (IX I.lt)
def Inv.nofs(I:Inv X pins σ H s){a:Addr}(h:s.heap.objs.size<=a):a∉X.fs:=λhb=>by
 obtain⟨_,o,ho,_⟩:=I.ok.funs.mem hb;exact absurd (HD (Hk ho) (G0 I.sz h)) (HX _)
def Inv.cne(I:Inv X pins σ H s):∀x c,X.env.cells.lookup x=some c->c≠X.env.locals:=λx c e z=>by
 obtain⟨v,o,ho,hd⟩:=I.cell x c e;obtain⟨m,⟨o',es,ep,ho',hd',_⟩,_⟩:=I.loc;rw[z,ho'] at ho;cases ho;rw[hd'] at hd;cases hd
theorem Inv.funs(I:Inv X pins σ H s):s.heap.FunFrames X.base X.outer:=by
 have all:∀(l:List Env),(∀b∈frs l,b∈X.fs)->X.s₀.heap.FunFrames X.base l->s.heap.FunFrames X.base l:=by
  intro l
  induction l with
  | nil=>intro _ _;trivial
  | cons env r ih =>
   intro hs hl;obtain⟨hk,⟨L,o,hf,hn,ho,hd⟩,hr⟩:=hl;have hL:L∈X.fs:=hs L (by unfold frs;rw[HP,hf];exact G1);obtain⟨sl,e⟩:=I.base.slot L o ho (I.ok.frf L hL) hL λz=>I.ok.exfs L z hL;exact⟨hk,⟨L,_,hf,hn,e,hd⟩,ih (λb hb=>hs b (by unfold frs;rw[HP,hf];exact GY _ hb)) hr⟩
 exact all X.outer (λ_ hb=>hb) I.ok.funs
theorem Inv.stack(I:Inv X pins σ H s):s.heap.FunFrames X.base X.stack:=by
 rcases I.ok.stk with e | ⟨e,hf⟩
 ·rw[e];exact I.funs
 ·rw[e];obtain⟨m,hn,_⟩:=I.loc;refine .cons (by rw[I.ok.kind];decide) hf hn ?_ I.funs;exact Heap.get?_none_of_le (G0 I.ok.bsz I.ok.above)
def Inv.stkSub(I:Inv X pins σ H s):∀b∈frs X.stack,b∈X.env.locals::X.fs:=λb hb=>by
 rcases I.ok.stk with e | ⟨e,hf⟩
 ·rw[e] at hb;exact GY _ hb
 ·rw[e] at hb;unfold frs at hb;rw[HP,hf] at hb;exact hb
def Inv.stkFree(I:Inv X pins σ H s):∀b∈frs X.stack,H b=none:=λb hb=>by
 rcases G7.mp (I.stkSub b hb) with e | hb
 ·rw[e];exact I.free
 ·obtain⟨_,o,ho,_⟩:=I.ok.funs.mem hb;exact I.base.free b o ho (I.ok.frf b hb) λz=>I.ok.exfs b z hb
theorem Inv.step{g':Array GenState}{d':Drawn}(I:Inv X pins σ H s)
  (hch:∀b∈ch,(b∈X.ex\/X.s₀.heap.objs.size<=b)/\b≠X.env.locals/\(∀x c,X.env.cells.lookup x=some c->c≠b)/\∀p∈X.pn++pins,p.1≠b)
  (keep:∀b o,b≠X.env.locals->b∉X.fs->b∉ch->s.heap.get? b=some o->H b=none->h'.get? b=some o)
  (slot:∀b o,b≠X.env.locals->b∈X.fs->b∉ch->s.heap.get? b=some o->H b=none->∃sl,h'.get? b=some { o with slots:=sl }) (free:∀b o,b∉ch->s.heap.get? b=some o->H b=none->H' b=none)
  (there:∀b o,b∉ch->s.heap.get? b=some o->∃o',h'.get? b=some o')
  (tups:∀b xs,H b=some (.tup xs)->H' b=some (.tup xs)) (frzs:∀b o u,H b=some (.frz o u)->H' b=some (.frz o u)) (tbls:∀b ps,H b=some (.tbl ps)->∃more,H' b=some (.tbl (ps++more)))
  (ns:∀m,s.heap.Ns X.env.locals m->h'.Ns X.env.locals m) (hok:GT X.prog X.w H' h') (hg:AllBare g') :
  Inv X pins σ H' { s with heap:=h',gens:=g',drawn:=d',toks:=t' }:=by
 have neL:∀b o,X.s₀.heap.get? b=some o->b≠X.env.locals:=λb o e=>Hz (HD (Hk e) I.ok.above)
 have neC:∀b o,X.s₀.heap.get? b=some o->b∉X.ex->b∉ch:=λb o e hx hb=>by
  rcases(hch b hb).1 with z | z
  ·exact hx z
  ·exact absurd (HD (Hk e) z) (HX _)
 have cellK:∀x c,X.env.cells.lookup x=some c->∀v,s.heap.IsCell c v->h'.IsCell c v:=λx c e v ⟨o,ho,hd⟩=>by
  have nch:c∉ch:=λz=>(hch c z).2.2.1 x c e rfl
  by_cases hc:c∈X.fs
  ·obtain⟨sl,q⟩:=slot c o (I.cne x c e) hc nch ho (I.freeC x c e);exact⟨_,q,hd⟩
  ·exact⟨o,keep c o (I.cne x c e) hc nch ho (I.freeC x c e),hd⟩
 refine⟨I.ok,I.os,hg,⟨λb o e n hb hx=>?_,λb o e n hb hx=>?_,λb o e n hx=>?_,λb o e hx=>?_,λb xs e=>tups b xs (I.base.tups b xs e),λb o xs e=>frzs b o xs (I.base.frzs b o xs e),λb ps e=>?_⟩,?_,λx c e=>?_,?_,λx c e=>?_,λp hp=>?_,hok,I.len⟩
 ·exact keep b o (neL b o e) hb (neC b o e hx) (I.base.keep b o e n hb hx) (I.base.free b o e n hx)
 ·obtain⟨sl,e1⟩:=I.base.slot b o e n hb hx;obtain⟨sl',e2⟩:=slot b _ (neL b o e) hb (neC b o e hx) e1 (I.base.free b o e n hx);exact⟨sl',e2⟩
 ·obtain⟨o',e1⟩:=I.base.there b o e hx;exact free b o' (neC b o e hx) e1 (I.base.free b o e n hx)
 ·obtain⟨o',e1⟩:=I.base.there b o e hx;exact there b o' (neC b o e hx) e1
 ·obtain⟨m1,e1⟩:=I.base.tbls b ps e;obtain⟨m2,e2⟩:=tbls b _ e1;exact⟨m1++m2,by rw[e2,Array.append_assoc]⟩
 ·obtain⟨m,hn,hl⟩:=I.loc;refine⟨m,ns m hn,λi x v e1 e2 e3=>?_⟩;obtain⟨u,r,l⟩:=hl i x v e1 e2 e3;refine⟨u,r,?_⟩
  rcases l with l | ⟨k,c,e,z⟩
  ·exact .inl l
  ·exact .inr ⟨k,c,e,cellK x c e _ z⟩
 ·obtain⟨v,z⟩:=I.cell x c e;exact⟨v,cellK x c e v z⟩
 ·obtain⟨m,⟨o,_,_,ho,_⟩,_⟩:=I.loc;exact free _ o (λz=>(hch _ z).2.1 rfl) ho I.free
 ·obtain⟨v,o,ho,hd⟩:=I.cell x c e;exact free c o (λz=>(hch c z).2.2.1 x c e rfl) ho (I.freeC x c e)
 ·obtain⟨e,n,ne,nf,d⟩:=I.pin p hp;have nch:p.1∉ch:=λz=>(hch p.1 z).2.2.2 p hp rfl;exact⟨keep p.1 p.2 ne nf nch e n,free p.1 p.2 nch e n,ne,nf,d⟩
theorem Inv.un(I:Inv X pins σ H s)(u:Un X.fs [] H H' s.heap h')(hok:GT X.prog X.w H' h'):Inv X pins σ H' { s with heap:=h',toks:=t' }:=by
 obtain⟨m,⟨o,es,ep,ho,r⟩,_⟩:=id I.loc;obtain⟨sl,hL⟩:=u.any ho I.free (by simp)
 exact I.step (g':=s.gens) (d':=s.drawn) (ch:=[]) (λ_ z=>nomatch z) (λb o _ hb _ e n=>u.keep b o e n hb (by simp)) (λb o _ hb _ e n=>u.slot b o e n hb (by simp)) (λb o _ e n=>u.free b o e n (by simp)) (λb o _ e=>u.there b o e (by simp)) u.tups u.frzs u.tbls (λm' hm=>by
  obtain⟨o',es',ep',ho',r'⟩:=hm;rw[ho] at ho';cases ho'
  exact⟨_,es',ep',hL,r'⟩) hok I.bare
theorem Inv.call{g':Array GenState}{d':Drawn}(I:Inv X pins σ H s)(u:Un (frs X.stack) ch H H' s.heap h')(hok:GT X.prog X.w H' h')(hg:AllBare g')
  (hch:∀b∈ch,(b∈X.ex\/X.s₀.heap.objs.size<=b)/\b≠X.env.locals/\(∀x c,X.env.cells.lookup x=some c->c≠b)/\∀p∈X.pn++pins,p.1≠b) :
  Inv X pins σ H' { s with heap:=h',gens:=g',drawn:=d',toks:=t' }:=by
 obtain⟨m,⟨o,es,ep,ho,r⟩,_⟩:=id I.loc;obtain⟨sl,hL⟩:=u.any ho I.free λz=>(hch _ z).2.1 rfl
 exact I.step (ch:=ch) hch (λb o hL hb hc e n=>u.keep b o e n (λz=>(G7.mp (I.stkSub b z)).elim hL hb) hc) (λb o _ _ hc e n=>u.any e n hc) (λb o hc e n=>u.free b o e n hc) (λb o hc e=>u.there b o e hc) u.tups u.frzs u.tbls (λm' hm=>by
  obtain⟨o',es',ep',ho',r'⟩:=hm;rw[ho] at ho';cases ho'
  exact⟨_,es',ep',hL,r'⟩) hok hg
theorem Inv.turned{it:Addr}(I:Inv X pins σ H s)(k:∀b o,b≠it->s.heap.get? b=some o->h'.get? b=some o)(hn:H it=none)(hL:it≠X.env.locals)
  (h1:it∈X.ex\/X.s₀.heap.objs.size<=it) (h2:∀x c,X.env.cells.lookup x=some c->c≠it) (h3:∀p∈X.pn++pins,p.1≠it):Inv X pins σ H { s with heap:=h',toks:=t' }:=by
 have nit:∀b u,H b=some u->b≠it:=λb u e z=>by rw[z,hn] at e;cases e
 refine I.step (g':=s.gens) (d':=s.drawn) (ch:=[it]) (λb hb=>?_) (λb o _ _ hc e _=>k b o (λz=>hc (by simp[z])) e) (λb o _ _ hc e _=>⟨o.slots,k b o (λz=>hc (by simp[z])) e⟩) (λ_ _ _ _ n=>n)
  (λb o hc e=>⟨o,k b o (λz=>hc (by simp[z])) e⟩) (λ_ _ e=>e) (λ_ _ _ e=>e) (λb ps e=>⟨#[],by rw[e];simp⟩) (λm hm=>?_) (λb u e=>?_) I.bare
 ·have e:b=it:=by simpa using hb
  subst e;exact⟨h1,hL,h2,h3⟩
 ·obtain⟨o,es,ep,ho,r⟩:=hm;exact⟨o,es,ep,k _ o (J8 hL) ho,r⟩
 ·refine(I.hok b u e).stay (λc v hc q=>k c v ?_ q) (λ_ q=>q) λ_ _ q=>q
  rcases hc with z | z
  ·rw[z];exact nit b u e
  ·exact nit c _ z
def Inv.tok(I:Inv X pins σ H s)(t:Nat):Inv X pins σ H { s with toks:=t }:=I.un (h':=s.heap) (t':=t) Un.refl I.hok
def Inv.kept(I:Inv X pins σ H s)(k:∀b u,s.heap.get? b=some u->h'.get? b=some u):Inv X pins σ H { s with heap:=h',toks:=t' }:=I.un (Un.kept k) (I.hok.kept k)
def Inv.laid{a:Addr}{o:HO}(I:Inv X pins σ H s)(k:∀b u,s.heap.get? b=some u->h'.get? b=some u)(hp:s.heap.objs.size<=a)(new:bN X.prog X.w (GC H a o) h' a o) :
  Inv X pins σ (GC H a o) { s with heap:=h',toks:=t' }:=I.un (Un.laid k hp (I.hok.fresh hp)) (I.hok.laid k hp new)
def Inv.write{x e:Addr}{o:HO}(I:Inv X pins σ H s)(mu:Mut (H x))(he:e=x\/H e=some (.own x))(k:∀b u,b≠e->s.heap.get? b=some u->h'.get? b=some u)(heo:∃u,h'.get? e=some u)
  (new:bN X.prog X.w (GC H x o) h' x o):Inv X pins σ (GC H x o) { s with heap:=h',toks:=t' }:=I.un (Un.write mu he k heo) (I.hok.write mu he k heo new)
def Inv.pins_of{pins':List (Addr×Obj)}(I:Inv X pins σ H s)(h:∀p∈pins',s.heap.get? p.1=some p.2/\H p.1=none/\p.1≠X.env.locals/\p.1∉X.fs/\∀v,p.2.data≠.cell v):Inv X pins' σ H s :=
 ⟨I.ok,I.os,I.bare,I.base,I.loc,I.cell,I.free,I.freeC,λp hp=>(Hb.mp hp).elim (λz=>I.pin p (Hf _ z)) (h p),I.hok,I.len⟩
theorem pG{N:List Str}(hN:N.Nodup){j:Nat}(a:N[i]?=some x)(b:N[j]?=some x):i=j:=by
 obtain⟨h1,e1⟩:=List.getElem?_eq_some_iff.mp a;obtain⟨h2,e2⟩:=List.getElem?_eq_some_iff.mp b;exact(List.getElem_inj hN).mp (e1.trans e2.symm)
theorem mj{v:V}{u:Value}{Q:Unit->Shared->Prop}(I:Inv X pins σ H s)(hN:X.N.Nodup)(hi:X.N[i]?=some x)(hx:Loc X.env.scope x)(r:bx v u)
  (h:∀s',Inv X pins (σ.set i (some v)) H s'->(∃a,Heap.SameBut a s.heap s'.heap/\(a=X.env.locals\/X.env.cells.lookup x=some a))->Q () s') (hf:X.fn x=true\/X.env.scope.names.lookup x=some .local :=by walk_at "v1"):wpAny M A (storeName X.env x u) Q E s:=by
 obtain⟨m,hn,hl⟩:=id I.loc;have hcls:(X.env.scope.kind == .class||(X.env.scope.kind == .module&&X.env.locals != X.env.globals))=false:=by rw[I.ok.kind];rfl
 have hiσ:i<σ.length:=by rw[I.len];exact(List.getElem?_eq_some_iff.mp hi).1
 have cne:=I.cne
 have tracked:∀ {a:Addr} {h':Heap},(∃o,s.heap.get? a=some o/\H a=none)->Heap.SameBut a s.heap h'->GT X.prog X.w H h':=λ{a h'} ha hs b ob e=>by
  obtain⟨_,_,hfree⟩:=ha;refine(I.hok b ob e).stay (λc w' hc q=>(hs.2 c ?_).trans q) (λ_ q=>q) λ_ _ q=>q;rintro rfl
  rcases hc with rfl | hc
  ·rw[hfree] at e;cases e
  ·rw[hfree] at hc;cases hc
 rcases hx with hk | hk
 ·refine wpAny_storeName_local hk hn (λh' hn' hs=>?_) hcls;obtain⟨oL,_,_,hoL,_⟩:=id hn;refine h _ ⟨I.ok,I.os,I.bare,⟨λb o e n hb hx=>?_,λb o e n hb hx=>?_,I.base.free,λb o e hx=>?_,I.base.tups,I.base.frzs,I.base.tbls⟩,⟨_,hn',λj y v' e1 e2 e3=>?_⟩,λy c e=>?_,I.free,I.freeC,λp hp=>?_,tracked ⟨oL,hoL,I.free⟩ hs,by simpa using I.len⟩ ⟨_,hs,.inl rfl⟩
  ·exact(hs.2 b (Hz (HD (Hk e) I.ok.above))).trans (I.base.keep b o e n hb hx)
  ·obtain⟨sl,e1⟩:=I.base.slot b o e n hb hx;exact⟨sl,(hs.2 b (Hz (HD (Hk e) I.ok.above))).trans e1⟩
  ·obtain⟨o',e1⟩:=I.base.there b o e hx;exact⟨o',(hs.2 b (Hz (HD (Hk e) I.ok.above))).trans e1⟩
  ·by_cases hj:j=i
   ·subst hj;rw[hi] at e1;cases e1;rw[List.getElem?_set_self hiσ] at e2
    cases e2
    exact⟨u,r,.inl ⟨hk,by simp⟩⟩
   ·rw[List.getElem?_set_ne (J8 hj)] at e2;obtain⟨u',r',q⟩:=hl j y v' e1 e2 e3;refine⟨u',r',?_⟩
    rcases q with⟨k,e⟩ | ⟨k,c,e,z⟩
    ·refine .inl ⟨k,?_⟩;have:y≠x:=λe=>hj (pG hN e1 (e ▸ hi));simp[this,e]
    ·exact .inr ⟨k,c,e,z.sameBut hs (cne y c e)⟩
  ·obtain⟨w',z⟩:=I.cell y c e;exact⟨w',z.sameBut hs (cne y c e)⟩
  ·obtain⟨e,n,ne,nf,d⟩:=I.pin p hp;exact⟨(hs.2 p.1 ne).trans e,n,ne,nf,d⟩
 ·have hfn:X.fn x=true:=by
   rcases hf with z | z
   ·exact z
   ·rw[z] at hk;cases hk
  obtain⟨c,hc⟩:=I.ok.has x (.inl hk);obtain⟨w',z⟩:=I.cell x c hc;refine wpAny_storeName_cell I.ok.kind hk hc z (λh' hc' hs=>?_);obtain⟨oc,hoc,hocd⟩:=id z;refine h { s with heap:=h' } ⟨I.ok,I.os,I.bare,⟨λb o e n hb hx=>?_,λb o e n hb hx=>?_,I.base.free,λb o e hx=>?_,I.base.tups,I.base.frzs,I.base.tbls⟩,⟨m,hn.sameBut hs (J8 (cne x c hc)),λj y v' e1 e2 e3=>?_⟩,λy c' e=>?_,I.free,I.freeC,λp hp=>?_,tracked ⟨oc,hoc,I.freeC x c hc⟩ hs,by simpa using I.len⟩ ⟨c,hs,.inr hc⟩
  ·exact(hs.2 b (Hz (HD (Hk e) (I.ok.cab x c hfn hc)))).trans (I.base.keep b o e n hb hx)
  ·obtain⟨sl,e1⟩:=I.base.slot b o e n hb hx;exact⟨sl,(hs.2 b (Hz (HD (Hk e) (I.ok.cab x c hfn hc)))).trans e1⟩
  ·obtain⟨o',e1⟩:=I.base.there b o e hx;exact⟨o',(hs.2 b (Hz (HD (Hk e) (I.ok.cab x c hfn hc)))).trans e1⟩
  ·by_cases hj:j=i
   ·subst hj;rw[hi] at e1;cases e1;rw[List.getElem?_set_self hiσ] at e2
    cases e2
    exact⟨u,r,.inr ⟨.inl hk,c,hc,hc'⟩⟩
   ·rw[List.getElem?_set_ne (J8 hj)] at e2;obtain⟨u',r',q⟩:=hl j y v' e1 e2 e3;refine⟨u',r',?_⟩
    rcases q with q | ⟨k,c',e,z'⟩
    ·exact .inl q
    ·refine .inr ⟨k,c',e,z'.sameBut hs ?_⟩;rintro rfl;exact hj (pG hN e1 (I.ok.inj _ _ _ e hc ▸ hi))
  ·by_cases hcc:c'=c
   ·subst hcc;exact⟨_,hc'⟩
   ·obtain⟨w2,z2⟩:=I.cell y c' e;exact⟨w2,z2.sameBut hs hcc⟩
  ·obtain⟨e,n,ne,nf,d⟩:=I.pin p hp;refine⟨(hs.2 p.1 ?_).trans e,n,ne,nf,d⟩;intro q;rw[q,hoc] at e;have q':oc=p.2:=Hg e;exact d w' (by rw[<- q'];exact hocd)
theorem iN{v:V}{u:Value}{Q:Unit->Shared->Prop}(I:Inv X pins σ H s)(hN:X.N.Nodup)(hi:X.N[i]?=some x)(hx:Loc X.env.scope x)(r:bx v u)
  (h:∀s',Inv X pins (σ.set i (some v)) H s'->Q () s') (hf:X.fn x=true\/X.env.scope.names.lookup x=some .local :=by walk_at "v1"):wpAny M A (storeName X.env x u) Q E s :=
 mj I hN hi hx r (λs' I' _=>h s' I') hf
theorem Inv.call'{s':Shared}(I:Inv X pins σ H s)(ho:s'.os=s.os)(u:Un (frs X.stack) ch H H' s.heap s'.heap)(hok:GT X.prog X.w H' s'.heap)(hg:AllBare s'.gens)
  (hch:∀b∈ch,(b∈X.ex\/X.s₀.heap.objs.size<=b)/\b≠X.env.locals/\(∀x c,X.env.cells.lookup x=some c->c≠b)/\∀p∈X.pn++pins,p.1≠b):Inv X pins σ H' s':=by
 obtain⟨h',g',d',t',o'⟩:=s';have e:o'=s.os:=ho;subst e;exact I.call (g':=g') (t':=t') (d':=d') u hok hg hch
end
abbrev XK:=Value->Option Addr->Hp->Prop
abbrev St:=List (Option V)
abbrev VK:=V->Hp->Prop
abbrev TE:=St->Hp->VK->Prop
abbrev TT:=St->Hp->(Bool->Hp->Prop)->Prop
abbrev TA:=St->Hp->(List V->Hp->Prop)->Prop
structure BA where
 nx:St->Hp->Prop
 rt:VK
 bk:St->Hp->Prop:=λ_ _=>False
 ct:St->Hp->Prop:=λ_ _=>False
abbrev TS:=BA->St->Hp->Prop
def EP(X:Cx)(pins:List (Addr×Obj))(σ:St)(Q:VK)(u:Value)(s':Shared):Prop:=∃v H',Inv X pins σ H' s'/\bx v u/\Q v H'
def TP(X:Cx)(pins:List (Addr×Obj))(σ:St)(Q:Bool->Hp->Prop)(b:Bool)(s':Shared):Prop:=∃H',Inv X pins σ H' s'/\Q b H'
def AP(X:Cx)(pins:List (Addr×Obj))(σ:St)(Q:List V->Hp->Prop)(us:List Value)(s':Shared):Prop:=∃vs H',Inv X pins σ H' s'/\bn vs us/\Q vs H'
def SP(X:Cx)(pins:List (Addr×Obj))(D:BA)(f:Flow)(s':Shared):Prop :=
 match f with
 | .next=>∃σ' H',Inv X pins σ' H' s'/\D.nx σ' H'
 | .brk=>∃σ' H',Inv X pins σ' H' s'/\D.bk σ' H'
 | .cont=>∃σ' H',Inv X pins σ' H' s'/\D.ct σ' H'
 | .ret u=>∃v σ' H',Inv X pins σ' H' s'/\bx v u/\D.rt v H'
def PE(X:Cx)(e:Expr)(t:TE):Prop :=
 ∀(pins:List (Addr×Obj)) (s:Shared) (σ:St) (H:Hp) (Q:VK),Inv X pins σ H s->t σ H Q->wpAny (model X.prog X.w) X.A (eval e X.env) (EP X pins σ Q) X.xe s
def PT(X:Cx)(e:Expr)(t:TT):Prop :=
 ∀(pins:List (Addr×Obj)) (s:Shared) (σ:St) (H:Hp) (Q:Bool->Hp->Prop),Inv X pins σ H s->t σ H Q->wpAny (model X.prog X.w) X.A (isTrue e X.env (eval e X.env)) (TP X pins σ Q) X.xe s
def PW(X:Cx)(e:Expr)(t:TT):Prop :=
 ∀(whole:Sem Value) (pins:List (Addr×Obj)) (s:Shared) (σ:St) (H:Hp) (Q:Bool->Hp->Prop),Inv X pins σ H s->t σ H Q->wpAny (model X.prog X.w) X.A (isTrue e X.env whole) (TP X pins σ Q) X.xe s
def PW.pt{X:Cx}{e:Expr}{t:TT}(h:PW X e t):PT X e t:=h _
def PA(X:Cx)(es:List Expr)(t:TA):Prop :=
 ∀(pos:Pos) (pins:List (Addr×Obj)) (s:Shared) (σ:St) (H:Hp) (Q:List V->Hp->Prop),Inv X pins σ H s->t σ H Q->wpAny (model X.prog X.w) X.A (spliced (backTo pos (starEach es X.env))) (AP X pins σ Q) X.xe s
def PS(X:Cx)(st:Stmt)(t:TS):Prop :=
 ∀(pins:List (Addr×Obj)) (s:Shared) (σ:St) (H:Hp) (D:BA),Inv X pins σ H s->t D σ H->wpAny (model X.prog X.w) X.A (exec st X.env) (SP X pins D) X.xe s
def PSs(X:Cx)(st:List Stmt)(t:TS):Prop :=
 ∀(pins:List (Addr×Obj)) (s:Shared) (σ:St) (H:Hp) (D:BA),Inv X pins σ H s->t D σ H->wpAny (model X.prog X.w) X.A (execs st X.env) (SP X pins D) X.xe s
def GE{α:Type}{t:Sem α}{Q Q':α->Shared->Prop}{s:Shared}(h:wpAny M A t Q E s)(hQ:∀a s,Q a s->Q' a s):wpAny M A t Q' E s:=Ir h hQ λ_ _ x=>x
end L2
namespace L2
open PySem PySem.Spec PyProof.Rows
variable {pins:List (Addr×Obj)} {s:Shared} {σ:St} {H:Hp} {x:Str} {pos:Pos} {u:Value} {t:TE}
section
variable {X:Cx}
theorem bin{a b:Expr}{ta tb:TE}(ha:PE X a ta)(hb:PE X b tb){R:V->V->Hp->Prop}(I:Inv X pins σ H s)(h:ta σ H λx H1=>tb σ H1 λy H2=>R x y H2)
  {α:Type} {Q:α->Shared->Prop} {f:Value->Value->Sem α}
  (hf:∀v u s2 x y H2,Inv X pins σ H2 s2->bx x v->bx y u->R x y H2->wpAny (model X.prog X.w) X.A (f v u) Q X.xe s2) :
  wpAny (model X.prog X.w) X.A (eval a X.env) (λv s₁=>wpAny (model X.prog X.w) X.A (eval b X.env) (λu s₂=>wpAny (model X.prog X.w) X.A (f v u) Q X.xe s₂) X.xe s₁) X.xe s:=by
 refine GE (ha pins s σ H _ I h) λv s1 ⟨x,H1,I1,r1,q1⟩=>?_;refine GE (hb pins s1 σ H1 _ I1 q1) λu s2 ⟨y,H2,I2,r2,q2⟩=>?_;exact hf v u s2 x y H2 I2 r1 r2 q2
def tVar(i:Nat):TE:=λσ H Q=>∃v,σ[i]?=some (some v)/\Q v H
def tC(v:V):TE:=λ_ H Q=>Q v H
theorem dF{i:Nat}(hN:X.N[i]?=some x)(hv:Vis X.env.scope x)(hd:(x==("__debug__":Str))=false:=by decide)(hcd:(x==("__classdict__":Str))=false:=by decide):PE X (.Name x pos) (tVar i):=by
 intro pins s σ H Q I h;obtain⟨v,e,h⟩:=h;obtain⟨m,hn,hl⟩:=I.loc;obtain⟨u,r,l⟩:=hl i x v hN e hv;have fin:EP X pins σ Q u s:=⟨v,H,I,r,h⟩
 rcases l with⟨hk,hm⟩ | ⟨hk,c,hc,hcell⟩
 ·exact wpAny_Name (wpAny_loadName_local I.ok.kind hk hn hm fin) hd
 ·rcases hk with hk | hk
  ·exact wpAny_Name (wpAny_loadName_cell I.ok.kind hk hc hcell fin) hd
  ·exact wpAny_Name (wpAny_loadName_free I.ok.kind hk hc hcell fin hcd) hd
def yJ{i j pos}:PE X (.Constant (.int i) j pos) (tC (.int i)):=λ_ _ _ H _ I h=>wpAny_Constant_int ⟨.int i,H,I.tok _,⟨_,rfl⟩,h⟩
def Fq{b j pos}:PE X (.Constant (.bool b) j pos) (tC (.bl b)):=λ_ _ _ H _ I h=>Constant_bool ⟨.bl b,H,I,rfl,h⟩
def Cp{j pos}:PE X (.Constant .none j pos) (tC .non):=λ_ _ _ H _ I h=>Constant_none ⟨.non,H,I,rfl,h⟩
def qP{x j pos}:PE X (.Constant (.str x) j pos) (tC (.str x)):=λ_ _ _ H _ I h=>Calls.Constant_str ⟨.str x,H,I.tok _,⟨_,rfl⟩,h⟩
def Gl(X:Cx)(x:Str):Prop:=X.env.kindOf x=some .globalImplicit
theorem tK{E:Value->Shared->Prop}{Q:Value->Shared->Prop}(I:Inv X pins σ H s)(hg:Gl X x)(hm:X.mg x=some u)(h:Q u s)
  (hd:(x==("__debug__":Str))=false:=by decide):wpAny (model X.prog X.w) X.A (eval (.Name x pos) X.env) Q E s :=
 Calls.Name_function_global I.ok.kind hg (Calls.loadGlobal_global (by rw[I.ok.glob];exact I.mod.glob.keeps I.bk) hm h) hd
theorem gd{E:Value->Shared->Prop}{Q:Value->Shared->Prop}(I:Inv X pins σ H s)(hg:Gl X x)(hm:X.mg x=none)(hv:bootBuiltins x=some u)(h:Q u s)
  (hn:x≠"__name__":=by decide) (hd:(x==("__debug__":Str))=false:=by decide):wpAny (model X.prog X.w) X.A (eval (.Name x pos) X.env) Q E s:=by
 obtain⟨mb,h1,h2⟩:=I.mod.blt;exact Calls.Name_function_global I.ok.kind hg (Calls.loadGlobal_builtin (by rw[I.ok.glob];exact I.mod.glob.keeps I.bk) hm (by rw[I.ok.blt];exact h1.keeps I.bk) ((h2 x hn).trans hv) h) hd
theorem oM{v:V}(hg:Gl X x)(hm:X.mg x=some u)(r:bx v u)(hd:(x==("__debug__":Str))=false:=by decide):PE X (.Name x pos) (tC v) :=
 λ_ _ _ H _ I h=>tK I hg hm ⟨v,H,I,r,h⟩ hd
theorem Am{v:V}(hg:Gl X x)(hm:X.mg x=none)(hv:bootBuiltins x=some u)(r:bx v u)(hn:x≠"__name__":=by decide)(hd:(x==("__debug__":Str))=false:=by decide):PE X (.Name x pos) (tC v) :=
 λ_ _ _ H _ I h=>gd I hg hm hv ⟨v,H,I,r,h⟩ hn hd
variable {a b:Expr} {ta tb:TE} {pos:Pos}
def PC(X:Cx)(op:CmpOp)(a b:Expr)(t:TE):Prop :=
 ∀(pins:List (Addr×Obj)) (s:Shared) (σ:St) (H:Hp) (Q:VK),Inv X pins σ H s->t σ H Q ->
  wpAny (model X.prog X.w) X.A (eval a X.env) (λv s₁=>wpAny (model X.prog X.w) X.A (eval b X.env) (λu s₂=>wpAny (model X.prog X.w) X.A (compareOp op v u) (EP X pins σ Q) X.xe s₂) X.xe s₁) X.xe s
def tB(t:TE):TT:=λσ H Q=>t σ H λx H1=>∃c,x=.bl c/\Q c H1
theorem pt_cmp{op:CmpOp}(h:PC X op a b t)(h1:behindInMarks op b=false:=by first | exact nobehind _ (by decide) (by decide) | rfl):PT X (.Compare a [op] [b] pos) (tB t):=by
 intro pins s σ H Q I hw;refine wpAny_isTrue_Compare1 (GE (h pins s σ H _ I hw) λv s1 h1=>GE h1 λu s2 h2=>GE h2 λc s3 ⟨x,H1,I1,r1,q1⟩=>?_) h1;obtain⟨d,rfl,q⟩:=q1
 cases r1
 exact Iy ⟨H1,I1,q⟩
theorem CT{e:Expr}(h:PE X e t)(he:∀whole,isTrue e X.env whole=(do let v<-whole;standAt e.pos;holding [v] (truthy v)):=by intro _;rfl):PT X e (tB t):=by
 intro pins s σ H Q I hw;refine isTrue_plain (GE (h pins s σ H _ I hw) λv s1 ⟨x,H1,I1,r1,q1⟩=>?_) (he _);obtain⟨d,rfl,q⟩:=q1
 cases r1
 exact Iy ⟨H1,I1,q⟩
variable {tA tB':TT} {cJ:List Expr}
def tAnd(t u:TT):TT:=λσ H Q=>t σ H λc H1=>if c=true then u σ H1 Q else Q false H1
def tOr(t u:TT):TT:=λσ H Q=>t σ H λc H1=>if c=true then Q true H1 else u σ H1 Q
def tNot(t:TT):TT:=λσ H Q=>t σ H λc H1=>Q (!c) H1
theorem Bw(ha:PT X a tA):PW X (.BoolOp .And [a] pos) tA:=by
 intro wh pins s σ H Q I h;refine isTrue_and (GE (ha pins s σ H Q I h) λc s1 e=>?_)
 cases c with
 | true=>exact isTrue_and_nil e
 | false=>exact e
theorem Cu(ha:PT X a tA):PW X (.BoolOp .Or [a] pos) tA:=by
 intro wh pins s σ H Q I h;refine isTrue_or (GE (ha pins s σ H Q I h) λc s1 e=>?_)
 cases c with
 | false=>exact isTrue_or_nil e
 | true=>exact e
theorem Ey(ha:PT X a tA)(hb:PW X (.BoolOp .And (b::cJ) pos) tB'):PW X (.BoolOp .And (a::b::cJ) pos) (tAnd tA tB'):=by
 intro wh pins s σ H Q I h;refine isTrue_and (GE (ha pins s σ H _ I h) λc s1 ⟨H1,I1,q1⟩=>?_)
 cases c with
 | true=>exact hb wh pins s1 σ H1 Q I1 q1
 | false=>exact⟨H1,I1,q1⟩
theorem FY(ha:PT X a tA)(hb:PW X (.BoolOp .Or (b::cJ) pos) tB'):PW X (.BoolOp .Or (a::b::cJ) pos) (tOr tA tB'):=by
 intro wh pins s σ H Q I h;refine isTrue_or (GE (ha pins s σ H _ I h) λc s1 ⟨H1,I1,q1⟩=>?_)
 cases c with
 | true=>exact⟨H1,I1,q1⟩
 | false=>exact hb wh pins s1 σ H1 Q I1 q1
theorem DB(ha:PT X a tA):PT X (.UnaryOp .Not a pos) (tNot tA):=by
 intro pins s σ H Q I h;exact isTrue_not (ha pins s σ H (λc H1=>Q (!c) H1) I h)
def Fa(ta tb:TE):TE:=λσ H Q=>ta σ H λx H1=>∃c,x=.bl c/\if c=true then tb σ H1 Q else Q (.bl false) H1
def tOrV(ta tb:TE):TE:=λσ H Q=>ta σ H λx H1=>∃c,x=.bl c/\if c=true then Q (.bl true) H1 else tb σ H1 Q
def FR(ta:TE):TE:=λσ H Q=>ta σ H λx H1=>∃c,x=.bl c/\Q (.bl (!c)) H1
def El{op}(h:PE X a t):PE X (.BoolOp op [a] pos) t:=λpins s σ H Q I hw=>BoolOp_one (h pins s σ H Q I hw)
theorem Cn(ha:PE X a ta)(hb:PE X (.BoolOp .And (b::cJ) pos) tb):PE X (.BoolOp .And (a::b::cJ) pos) (Fa ta tb):=by
 intro pins s σ H Q I h;refine BoolOp_and (GE (ha pins s σ H _ I h) λv s1 ⟨x,H1,I1,r1,q1⟩=>?_);obtain⟨c,rfl,q1⟩:=q1
 cases r1
 refine Iy ?_
 cases c with
 | true=>exact hb pins s1 σ H1 Q I1 q1
 | false=>exact⟨.bl false,H1,I1,rfl,q1⟩
theorem E1(ha:PE X a ta)(hb:PE X (.BoolOp .Or (b::cJ) pos) tb):PE X (.BoolOp .Or (a::b::cJ) pos) (tOrV ta tb):=by
 intro pins s σ H Q I h;refine BoolOp_or (GE (ha pins s σ H _ I h) λv s1 ⟨x,H1,I1,r1,q1⟩=>?_);obtain⟨c,rfl,q1⟩:=q1
 cases r1
 refine Iy ?_
 cases c with
 | false=>exact hb pins s1 σ H1 Q I1 q1
 | true=>exact⟨.bl true,H1,I1,rfl,q1⟩
theorem D7(ha:PE X a ta):PE X (.UnaryOp .Not a pos) (FR ta):=by
 intro pins s σ H Q I h;refine UnaryOp_ (GE (ha pins s σ H _ I h) λv s1 ⟨x,H1,I1,r1,q1⟩=>?_);obtain⟨c,rfl,q1⟩:=q1
 cases r1
 exact not_of (Iy ⟨.bl (!c),H1,I1,rfl,q1⟩)
def tIf(t:TT)(ta tb:TE):TE:=λσ H Q=>t σ H λc H1=>if c=true then ta σ H1 Q else tb σ H1 Q
theorem wX{c:Expr}(hc:PT X c tA)(ha:PE X a ta)(hb:PE X b tb):PE X (.IfExp c a b pos) (tIf tA ta tb):=by
 intro pins s σ H Q I h;refine wpAny_IfExp (GE (hc pins s σ H _ I h) λd s1 ⟨H1,I1,q1⟩=>?_)
 cases d with
 | true=>exact ha pins s1 σ H1 Q I1 q1
 | false=>exact hb pins s1 σ H1 Q I1 q1
end
end L2
namespace L2
open PySem PySem.Spec PyProof.Rows
variable {K:PySem.W.Frag} {s:Shared} {i:Nat} {x:Str} {e tg:Expr} {P:Program} {w:World}
def Gz(K:PySem.W.Frag)(H:Hp)(a:Addr)(xs:List V):Prop :=
 Rd H a (.lst xs) \/
  ∃(o:Obj) (its:Array Value) (n:Nat),K.lookup a=some o/\o.cls=.type "list"/\o.dict=none/\o.data=.seq its n/\its.size<=sizeLine/\bn xs its.toList
def Gy(K:PySem.W.Frag)(H:Hp)(a:Addr)(xs:List V):Prop :=
 Rd H a (.tup xs) \/
  ∃(o:Obj) (its:Array Value) (n:Nat),K.lookup a=some o/\o.cls=.type "tuple"/\o.data=.seq its n/\its.size<=sizeLine/\bn xs its.toList
def absV:Value->Option V
 | .none=>some .non
 | .bool b=>some (.bl b)
 | .int i _=>some (.int i)
 | .str x _=>some (.str x)
 | .bytes b _=>some (.byt b)
 | .float b _=>some (.flt b)
 | .ref a=>some (.ref a)
 | .type n=>some (.ty n)
 | _=>none
theorem bx.abs{x:V}{u:Value}(r:bx x u):absV u=some x:=by
 cases x with
 | non=>cases r;rfl
 | bl _=>cases r;rfl
 | int _=>obtain⟨t,rfl⟩:=r;rfl
 | str _=>obtain⟨t,rfl⟩:=r;rfl
 | byt _=>obtain⟨t,rfl⟩:=r;rfl
 | flt _=>obtain⟨t,rfl⟩:=r;rfl
 | ref _=>cases r;rfl
 | ty _=>cases r;rfl
def bx.inj{x y:V}{u:Value}(r:bx x u)(q:bx y u):x=y:=Hg (r.abs.symm.trans q.abs)
def bn.inj:∀ {xs ys:List V} {us:List Value},bn xs us->bn ys us->xs=ys
 | _,_,_,.nil,.nil=>rfl
 | _,_,_,.cons r t,.cons r' t'=>by rw[r.inj r',bn.inj t t']
section
variable {X:Cx} {pins:List (Addr×Obj)} {σ:St} {H:Hp} {s:Shared} {a:Addr} {xs ys:List V}
def Gz.of(h:H a=some (.lst xs)):Gz K H a xs:=.inl (.inl h)
def Gy.of(h:H a=some (.tup xs)):Gy K H a xs:=.inl (.inl h)
theorem Inv.list(I:Inv X pins σ H s)(h:Gz X.K H a xs):∃its:List Value,bn xs its/\PlainL s.heap a its.toArray/\xs.length<=sizeLine:=by
 rcases h with h | ⟨o,its,n,hk,hc,hd,hs,hz,r⟩
 ·obtain⟨z,its,n,r,e⟩:=h.ok I.hok;exact⟨its,r,⟨_,n,e,rfl,rfl,rfl⟩,z⟩
 ·refine⟨its.toList,r,⟨o,n,I.kIn a o hk,hc,hd,by simpa using hs⟩,?_⟩;have e:=r.length;simp only[Array.length_toList] at e;omega
theorem Inv.tuple(I:Inv X pins σ H s)(h:Gy X.K H a xs):∃its:List Value,bn xs its/\IsTup s.heap a its.toArray/\xs.length<=sizeLine:=by
 rcases h with h | ⟨o,its,n,hk,hc,hs,hz,r⟩
 ·obtain⟨z,its,r,p⟩:=h.ok I.hok;exact⟨its,r,p,z⟩
 ·refine⟨its.toList,r,⟨o,I.kIn a o hk,hc,n,by simpa using hs⟩,?_⟩;have e:=r.length;simp only[Array.length_toList] at e;omega
theorem Inv.list_inj(I:Inv X pins σ H s)(h:Gz X.K H a xs)(h':Gz X.K H a ys):xs=ys:=by
 obtain⟨its,r,⟨o,n,e,_,_,d⟩,_⟩:=I.list h;obtain⟨its',r',⟨o',n',e',_,_,d'⟩,_⟩:=I.list h';rw[e] at e';cases e';rw[d] at d'
 injection d' with d1 _
 have:its=its':=by simpa using IB Array.toList d1
 subst this;exact r.inj r'
theorem Inv.tuple_inj(I:Inv X pins σ H s)(h:Gy X.K H a xs)(h':Gy X.K H a ys):xs=ys:=by
 obtain⟨its,r,⟨o,e,_,n,d⟩,_⟩:=I.tuple h;obtain⟨its',r',⟨o',e',_,n',d'⟩,_⟩:=I.tuple h';rw[e] at e';cases e';rw[d] at d'
 injection d' with d1 _
 have:its=its':=by simpa using IB Array.toList d1
 subst this;exact r.inj r'
end
abbrev Cx.wish(X:Cx)(E:Value->Shared->Prop):Cx:={ X with xe:=E }
abbrev Cx.nox(X:Cx):Cx:=X.wish λ_ _=>False
def Cx.Ok.wish{X:Cx}(ok:X.Ok)(E:Value->Shared->Prop):(X.wish E).Ok :=
 ⟨ok.mod,ok.kind,ok.glob,ok.blt,ok.above,ok.inj,ok.has,ok.cab,ok.hd,ok.frames,ok.stk,ok.exf,ok.bs,ok.bsz,ok.noex,ok.exfs,ok.funs,ok.frf⟩
def Cx.Ok.unwish{X:Cx}{E:Value->Shared->Prop}(ok:(X.wish E).Ok):X.Ok :=
 ⟨ok.mod,ok.kind,ok.glob,ok.blt,ok.above,ok.inj,ok.has,ok.cab,ok.hd,ok.frames,ok.stk,ok.exf,ok.bs,ok.bsz,ok.noex,ok.exfs,ok.funs,ok.frf⟩
section
variable {X:Cx} {pins:List (Addr×Obj)} {σ:St} {H:Hp} {s:Shared} {E:Value→Shared→Prop}
def Inv.wish(I:Inv X pins σ H s)(E:Value->Shared->Prop):Inv (X.wish E) pins σ H s:=⟨I.ok.wish E,I.os,I.bare,I.base,I.loc,I.cell,I.free,I.freeC,I.pin,I.hok,I.len⟩
def Inv.unwish(I:Inv (X.wish E) pins σ H s):Inv X pins σ H s:=⟨I.ok.unwish,I.os,I.bare,I.base,I.loc,I.cell,I.free,I.freeC,I.pin,I.hok,I.len⟩
theorem SP.unwish{D:BA}{f:Flow}{s':Shared}(h:SP (X.wish E) pins D f s'):SP X pins D f s':=by
 cases f with
 | next=>obtain⟨σ',H',I,q⟩:=h;exact⟨σ',H',I.unwish,q⟩
 | brk=>obtain⟨σ',H',I,q⟩:=h;exact⟨σ',H',I.unwish,q⟩
 | cont=>obtain⟨σ',H',I,q⟩:=h;exact⟨σ',H',I.unwish,q⟩
 | ret u=>obtain⟨v,σ',H',I,r,q⟩:=h;exact⟨v,σ',H',I.unwish,r,q⟩
def PSs.nox{st:List Stmt}{t:TS}(h:PSs X.nox st t):PSs X st t:=λpins s σ H D I hw =>
 Ir (h pins s σ H D (I.wish _) hw) (λ_ _ q=>q.unwish) λ_ _ z=>False.elim z
end
section
variable {X:Cx} {st:Stmt} {cJ:List Stmt} {t u:TS} {e:Expr} {te:TE} {pos:Pos}
def F5:TS:=λD σ H=>D.nx σ H
def tSeq(t u:TS):TS:=λD σ H=>t { D with nx:=u D } σ H
def A8:PSs X [] F5:=λ_ _ σ H _ I h=>J1 ⟨σ,H,I,h⟩
theorem xX(h1:PS X st t)(h2:PSs X cJ u):PSs X (st::cJ) (tSeq t u):=by
 intro pins s σ H D I h;refine wpAny_execs_cons (GE (h1 pins s σ H { D with nx:=u D } I h) λf s1 q=>?_)
 cases f with
 | next =>
  obtain⟨σ',H',I',q⟩:=q;exact h2 pins s1 σ' H' D I' q
 | ret v=>exact q
 | brk=>exact q
 | cont=>exact q
theorem An(h1:PS X st t):PSs X [st] t:=by
 intro pins s σ H D I h;refine wpAny_execs_cons (GE (h1 pins s σ H D I h) λf s1 q=>?_)
 cases f with
 | next=>exact J1 q
 | ret v=>exact q
 | brk=>exact q
 | cont=>exact q
theorem Inv.quiet{pins:List (Addr×Obj)}{σ:St}{H:Hp}(I:Inv X pins σ H s):interactive X.env=false:=by simp[interactive,I.ok.kind]
def E3(te:TE):TS:=λD σ H=>te σ H λ_ H1=>D.nx σ H1
theorem kT(he:PE X e te)(hs:swapsWith e none pos.line X.env=pure false:=by rfl):PS X (.Expr e pos) (E3 te):=by
 intro pins s σ H D I h;exact wpAny_Expr_any (GE (he pins s σ H _ I h) λv s1 ⟨x,H1,I1,r1,q1⟩=>⟨σ,H1,I1,q1⟩) I.quiet hs
def tRet(te:TE):TS:=λD σ H=>te σ H D.rt
theorem tN(he:PE X e te):PS X (.Return (some e) pos) (tRet te):=by
 intro pins s σ H D I h;exact wpAny_Return_some (GE (he pins s σ H _ I h) λv s1 ⟨x,H1,I1,r1,q1⟩=>⟨x,σ,H1,I1,r1,q1⟩)
def Fg:TS:=λD _ H=>D.rt .non H
def AZ:PS X (.Return none pos) Fg:=λ_ _ σ H _ I h=>wpAny_Return_none ⟨.non,σ,H,I,rfl,h⟩
def tIfS(c:TT)(t u:TS):TS:=λD σ H=>c σ H λb H1=>if b=true then t D σ H1 else u D σ H1
theorem FE{c:Expr}{a b:List Stmt}{tc:TT}(hc:PT X c tc)(ha:PSs X a t)(hb:PSs X b u):PS X (.If c a b pos) (tIfS tc t u):=by
 intro pins s σ H D I h;refine wpAny_If (GE (hc pins s σ H _ I h) λd s1 ⟨H1,I1,q1⟩=>?_)
 cases d with
 | true=>exact ha pins s1 σ H1 D I1 q1
 | false=>exact hb pins s1 σ H1 D I1 q1
def yx:TS:=λ_ _ _=>False
def xZ:PS X st yx:=λ_ _ _ _ _ _ h=>h.elim
def uI{sts:List Stmt}:PSs X sts yx:=λ_ _ _ _ _ _ h=>h.elim
end
abbrev TG:=V->St->Hp->(St->Hp->Prop)->Prop
abbrev TGs:=List V->St->Hp->(St->Hp->Prop)->Prop
def PG(X:Cx)(target:Expr)(t:TG):Prop :=
 ∀(pins:List (Addr×Obj)) (s:Shared) (σ:St) (H:Hp) (v:V) (u:Value) (Q:St->Hp->Prop),Inv X pins σ H s->bx v u->t v σ H Q ->
  wpAny (model X.prog X.w) X.A (assign target X.env u) (λ_ s'=>∃σ' H',Inv X pins σ' H' s'/\Q σ' H') X.xe s
def PGs(X:Cx)(ts:List Expr)(t:TGs):Prop :=
 ∀(pins:List (Addr×Obj)) (s:Shared) (σ:St) (H:Hp) (vs:List V) (us:List Value) (Q:St->Hp->Prop),Inv X pins σ H s->bn vs us->t vs σ H Q ->
  wpAny (model X.prog X.w) X.A (assignInOrder ((assignEach ts X.env).map (·.2)) us) (λ_ s'=>∃σ' H',Inv X pins σ' H' s'/\Q σ' H') X.xe s
section
variable {X:Cx} {pos:Pos}
def tf(i:Nat):TG:=λv σ H Q=>Q (σ.set i (some v)) H
theorem B2(hN:X.N.Nodup)(hi:X.N[i]?=some x)(hx:Loc X.env.scope x)(hf:X.fn x=true\/X.env.scope.names.lookup x=some .local :=by walk_at "v1"):PG X (.Name x pos) (tf i):=by
 intro pins s σ H v u Q I r h;exact wpAny_assign_Name (iN I hN hi hx r (λs' I'=>⟨_,H,I',h⟩) hf)
def gNil:TGs:=λvs σ H Q=>vs=[]/\Q σ H
def FX(t:TG)(u:TGs):TGs:=λvs σ H Q=>∃v r,vs=v::r/\t v σ H λσ' H'=>u r σ' H' Q
theorem Bv:PGs X [] gNil:=by
 intro pins s σ H vs us Q I r h;obtain⟨e,h⟩:=h;subst e
 cases r
 exact assignInOrder_nil ⟨σ,H,I,h⟩
theorem xK{es:List Expr}{t:TG}{u:TGs}(h1:PG X e t)(h2:PGs X es u)
  (hs:(assignEach (e::es) X.env).map (·.2)=assign e X.env::(assignEach es X.env).map (·.2):=by rfl):PGs X (e::es) (FX t u):=by
 intro pins s σ H vs us Q I r h;obtain⟨v,vr,e1,h⟩:=h;subst e1
 cases r with
 | cons r rr =>
  rw[hs];refine assignInOrder_cons (GE (h1 pins s σ H _ _ _ I r h) λ_ s1 ⟨σ1,H1,I1,q1⟩=>?_);exact h2 pins s1 σ1 H1 _ _ Q I1 rr q1
def gTup(K:PySem.W.Frag)(n:Nat)(t:TGs):TG:=λv σ H Q=>∃a xs,v=.ref a/\Gy K H a xs/\xs.length=n/\t xs σ H Q
theorem Dw{es:List Expr}{k:Nat}{t:TGs}{n:Nat}(hc:X.calm=true)(h:PGs X es t)
  (hn:(assignEach es X.env).length=n:=by rfl) (hst:(assignEach es X.env).findIdx? (·.1)=none:=by rfl):PG X (.Tuple es k pos) (gTup X.K n t):=by
 intro pins s σ H v u Q I r hw;obtain⟨a,xs,e1,hq,hl,hw⟩:=hw;subst e1
 cases r
 obtain⟨its,rv,ht,hz⟩:=I.tuple hq;refine assign_Tuple_tuple (I.ok.hd hc) ht (by simp[hn,<- hl,rv.length]) hst λh' hx=>?_;have I1:Inv X pins σ H { s with heap:=h' }:=I.kept (t':=s.toks) λb o e=>hx b o (Hz (Hk e)) e;exact h pins _ σ H xs _ Q I1 (by simpa using rv) hw
def tAsg(te:TE)(g:TG):TS:=λD σ H=>te σ H λx H1=>g x σ H1 D.nx
theorem Di{te:TE}{g:TG}(he:PE X e te)(hg:PG X tg g)(hs:swapsWithSole [tg] e pos.line X.env=pure false:=by rfl)(hw:swappedStores [tg] e X.env=pure none:=by rfl)
  (h1:(assignEach [tg] X.env).map (·.2)=[assign tg X.env]:=by rfl):PS X (.Assign [tg] e pos) (tAsg te g):=by
 intro pins s σ H D I h;refine wpAny_Assign_stores (GE (he pins s σ H _ I h) λv s1 ⟨x,H1,I1,r1,q1⟩=>?_) hs hw;rw[h1];exact GE (hg pins s1 σ H1 x v _ I1 r1 q1) λ_ s2 q=>q
theorem kf{te:TE}{pos':Pos}(hN:X.N.Nodup)(hi:X.N[i]?=some x)(hx:Loc X.env.scope x)(he:PE X e te)(hs:swapsWith e (some (.Name x pos')) pos.line X.env=pure false:=by rfl)(hf:X.fn x=true\/X.env.scope.names.lookup x=some .local :=by walk_at "v1") :
  PS X (.Assign [.Name x pos'] e pos) (tAsg te (tf i)):=by
 intro pins s σ H D I h;refine wpAny_Assign_Name (GE (he pins s σ H _ I h) λv s1 ⟨y,H1,I1,r1,q1⟩=>?_) hs;exact iN I1 hN hi hx r1 (λs2 I2=>⟨_,H1,I2,q1⟩) hf
def tPar(i j:Nat)(ta:TA):TS:=λD σ H=>ta σ H λvs H1=>∃v w,vs=[v,w]/\D.nx ((σ.set i (some v)).set j (some w)) H1
theorem Dr{j:Nat}{y:Str}{a b:Expr}{ta:TA}{px py pt:Pos}{kt k2 pt2}(hc:X.calm=true)(hN:X.N.Nodup)(hi:X.N[i]?=some x)(hj:X.N[j]?=some y)(hij:i≠j)
  (hx:X.env.scope.names.lookup x=some .local) (hy:X.env.scope.names.lookup y=some .local) (ha:PA X [a,b] ta)
  (hw:swappedStores [.Tuple [.Name x px,.Name y py] kt pt] (.Tuple [a,b] k2 pt2) X.env=pure (some [x,y]))
  (hs:swapsWithSole [.Tuple [.Name x px,.Name y py] kt pt] (.Tuple [a,b] k2 pt2) pos.line X.env=pure false:=by rfl) :
  PS X (.Assign [.Tuple [.Name x px,.Name y py] kt pt] (.Tuple [a,b] k2 pt2) pos) (tPar i j ta):=by
 intro pins s σ H D I h;rw[exec_Assign_arm];refine GX (wpAny_standAt ?_);rw[hs];refine GX (G2 ?_);rw[He (by decide)];refine GX (Tuple_ (GE (ha _ pins s σ H _ I h) λus s1 ⟨vs,H1,I1,r1,q1⟩=>?_));obtain⟨v,w,e1,q1⟩:=q1;subst e1;obtain⟨u1,u2,rfl,rv,rw'⟩:∃u1 u2,us=[u1,u2]/\bx v u1/\bx w u2:=by
  cases r1 with
  | cons p q =>
   cases q with
   | cons p' q' =>
    cases q'
    exact⟨_,_,rfl,p,p'⟩
 refine HR ?_ (by show 2<=sizeLine;decide);have I2:Inv X pins σ H1 { s1 with heap:=s1.heap.push { cls:=.type "tuple",data:=.seq [u1,u2].toArray } }:=I1.kept (t':=s1.toks) λb o e=>Heap.get?_push_of_some _ e;rw[hw];refine GX (G2 ?_);show wpAny (model X.prog X.w) X.A (do rule "assign.swapped-stores";let items<-unpackItems (.ref s1.heap.objs.size) 2 none;assignInOrder [λv=>bindName X.env y v,λv=>bindName X.env x v] items.reverse;pure Flow.next) _ _ _;refine GX (JZ (GX (unpackItems_tuple (items:=#[u1,u2]) (I.ok.hd hc) (IsTup.new s1.heap _) λh' hx'=>?_)));have I3:=I2.kept (h':=h') (t':=s1.toks) λb o e=>hx' b o (Hz (Hk e)) e;show wpAny _ _ (assignInOrder [λv=>bindName X.env y v,λv=>bindName X.env x v] [u2,u1] >>= λ_=>pure Flow.next) _ _ _;refine GX (assignInOrder_cons (wpAny_bindName (iN I3 hN hj (.inl hy) rw' (λs2 I4=>?_) (.inr hy))));refine assignInOrder_cons (wpAny_bindName (iN I4 hN hi (.inl hx) rv (λs3 I5=>assignInOrder_nil (G2 ?_)) (.inr hx)));rw[List.set_comm _ _ (J8 hij)] at I5;exact⟨_,H1,I5,q1⟩
end
section
variable {X:Cx} {pos:Pos}
def Do(c:TT)(tb:TS):TS:=λD σ H=>∃W:Nat->St->Hp->Prop,(∃m,W m σ H)/\∀m σ H,W m σ H ->
 c σ H λb H1=>if b=true then ∃N:St->Hp->Prop,(∀σ' H',N σ' H'->∃m',m'<m/\W m' σ' H')/\tb { D with nx:=N,ct:=N,bk:=D.nx } σ H1 else D.nx σ H1
theorem wY{c:Expr}{body:List Stmt}{tc:TT}{tb:TS}(hp:PassesOwn (model X.prog X.w) X.A X.env X.xe)(hc:PT X c tc)(hb:PSs X body tb):PS X (.While c body [] pos) (Do tc tb):=by
 intro pins s σ H D I h;obtain⟨W,⟨m0,w0⟩,turn⟩:=h;refine wpAny_While (codeAny_whileLoop (λn s'=>∃σ' H',Inv X pins σ' H' s'/\W n σ' H') ?_ m0 ⟨σ,H,I,w0⟩);rintro n s1 ⟨σ1,H1,I1,w1⟩;refine IL hp (GE (hc pins s1 σ1 H1 _ I1 (turn n σ1 H1 w1)) λb s2 ⟨H2,I2,q2⟩=>?_)
 cases b with
 | true =>
  obtain⟨N,hN,q2⟩:=q2;rw[Hh rfl];refine IL hp (GE (hb pins s2 σ1 H2 _ I2 q2) λf s3 q3=>?_)
  cases f with
  | next =>
   obtain⟨σ3,H3,I3,n3⟩:=q3;obtain⟨m',hm,w3⟩:=hN σ3 H3 n3;exact⟨m',hm,σ3,H3,I3,w3⟩
  | cont =>
   obtain⟨σ3,H3,I3,n3⟩:=q3;obtain⟨m',hm,w3⟩:=hN σ3 H3 n3;exact⟨m',hm,σ3,H3,I3,w3⟩
  | brk=>exact q3
  | ret v=>exact q3
 | false =>
  rw[He G4];exact J1 ⟨σ1,H2,I2,q2⟩
end
structure It where
 go:Nat->Hp->Prop
 yld:Nat->Hp->V->Hp->Prop
 stop:Nat->Hp->Prop
def xo(X:Cx)(pins:List (Addr×Obj))(H:Hp)(b:Addr):Prop :=
 H b=none/\b≠X.env.locals/\b∉X.fs/\(b∈X.ex\/X.s₀.heap.objs.size<=b)/\(∀x c,X.env.cells.lookup x=some c->c≠b)/\∀p∈X.pn++pins,p.1≠b
theorem Inv.fpOk{X:Cx}{pins:List (Addr×Obj)}{σ:St}{H H':Hp}{b:Addr}(I:Inv X pins σ H s)(hb:s.heap.objs.size<=b)(hn:H' b=none):xo X pins H' b:=by
 refine⟨hn,IY (HD I.lt hb),I.nofs hb,.inr (G0 I.sz hb),λx c e z=>?_,λp hp z=>?_⟩
 ·obtain⟨v,q⟩:=I.cell x c e;exact absurd (HD q.lt (by rw[z];exact hb)) (HX _)
 ·exact absurd (HD (Hk (I.pin p hp).1) (by rw[z];exact hb)) (HX _)
structure yW(P:Program)(w:World)(K:PySem.W.Frag)(tg:Expr)(J:It)(fp:List Addr)(it:Addr)(tn:Nat->Heap->Prop):Prop where
 mem:it∈fp
 obj:∀i h,tn i h->∀b∈fp,∃o,h.get? b=some o/\∀v,o.data≠.cell v
 keep:∀i h h',tn i h->(∀b∈fp,∀o,h.get? b=some o->h'.get? b=some o)->tn i h'
 item:∀(X:Cx),X.prog=P->X.w=w->X.K=K->X.calm=true->∀(i:Nat) (pins:List (Addr×Obj)) (s:Shared) (σ:St) (H:Hp) (E:Value->Shared->Prop),Inv X pins σ H s->(∀b∈fp,xo X pins H b)->tn i s.heap->J.go i H ->
  wpAny (model P w) X.A (pyNext (.ref it)) (λr s1=>∃u,r=some u /\
   wpAny (model P w) X.A (letOwnedTupleGo tg (.ref it) u) (λ_ s2=>∃x H',Inv X pins σ H' s2/\bx x u/\J.yld i H x H'/\tn (i+1) s2.heap/\∀b∈fp,H' b=none) E s1) E s
 done:∀(X:Cx),X.prog=P->X.w=w->X.K=K->X.calm=true->∀(i:Nat) (pins:List (Addr×Obj)) (s:Shared) (σ:St) (H:Hp) (E:Value->Shared->Prop),Inv X pins σ H s->(∀b∈fp,xo X pins H b)->tn i s.heap->J.stop i H ->
  wpAny (model P w) X.A (pyNext (.ref it)) (λr s1=>r=none/\Inv X pins σ H s1) E s
 self:∀(A:Around) (i:Nat) (s:Shared) (Q:Value->Shared->Prop) (E:Value->Shared->Prop),tn i s.heap->Q (.ref it) s->wpAny (model P w) A (pyIter (.ref it)) Q E s
abbrev TI:=St->Hp->(It->Hp->Prop)->Prop
def PIE(X:Cx)(pins:List (Addr×Obj))(σ:St)(tg:Expr)(R:It->Hp->Prop)(itv:Value)(s2:Shared):Prop :=
 ∃(it:Addr) (fp:List Addr) (tn:Nat->Heap->Prop) (J:It) (H':Hp),itv=.ref it/\Inv X pins σ H' s2/\yW X.prog X.w X.K tg J fp it tn/\tn 0 s2.heap/\(∀b∈fp,xo X pins H' b)/\R J H'
def PI(X:Cx)(tg iter:Expr)(wi:TI):Prop :=
 ∀(pins:List (Addr×Obj)) (s:Shared) (σ:St) (H:Hp) (R:It->Hp->Prop),Inv X pins σ H s->wi σ H R ->
  wpAny (model X.prog X.w) X.A (eval iter X.env) (λv s1=>wpAny (model X.prog X.w) X.A (pyIter v) (PIE X pins σ tg R) X.xe s1) X.xe s
theorem vC{M:Model}{A:Around}{E:Value->Shared->Prop}{it:Addr}{u:Value}{o:Obj}{n:String}{vs:Array Value}{Q:Unit->Shared->Prop}(ho:s.heap.get? it=some o)(hc:o.cls=.type n)(hd:o.data=.fields vs)
    (hn:["enumerate","zip","dict_itemiterator","dict_reverseitemiterator","odict_iterator","itertools.zip_longest","itertools.pairwise"].contains n=false) (hQ:Q () s):wpAny M A (letOwnedTupleGo tg (.ref it) u) Q E s:=by
  unfold letOwnedTupleGo
  cases tg<;>first
    | exact G2 hQ
    | (cases u<;>first
        | exact G2 hQ
        | (refine GX (wpAny_load ho ?_)
           rw[hc,hd];show wpAny M A (if (["enumerate","zip","dict_itemiterator","dict_reverseitemiterator","odict_iterator","itertools.zip_longest","itertools.pairwise"].contains n&&vs[0]?==some (rawInt _))=true then _ else _) Q E s;rw[He (by intro h;rw[hn,Bool.false_and] at h;cases h)]
           exact G2 hQ))
def Itl(K:PySem.W.Frag)(a:Addr):It :=
 ⟨λi H=>∃xs x,Gz K H a xs/\xs[i]?=some x,λi H x H'=>H'=H/\∀xs,Gz K H a xs->xs[i]?=some x,λi H=>∃xs,Gz K H a xs/\xs.length<=i⟩
def Itt(K:PySem.W.Frag)(a:Addr):It :=
 ⟨λi H=>∃xs x,Gy K H a xs/\xs[i]?=some x,λi H x H'=>H'=H/\∀xs,Gy K H a xs->xs[i]?=some x,λi H=>∃xs,Gy K H a xs/\xs.length<=i⟩
def Itr(lo:Int)(n:Nat):It:=⟨λi _=>i<n,λi H x H'=>H'=H/\x=.int (lo+i),λi _=>n<=i⟩
theorem mQ(a it:Addr):yW P w K tg (Itl K a) [it] it (λi h=>h.IsListIter it a i) where
 mem:=by simp
 obj:=λi h st b hb=>by
  have e:b=it:=by simpa using hb
  subst e;obtain⟨o,e,c,d⟩:=st;exact⟨o,e,λv z=>by rw[d] at z;cases z⟩
 keep:=λi h h' st k=>st.at λo e=>k it (by simp) o e
 item:=by
  intro X hP hw hK hc i pins s σ H E I hf st hg;subst hP hw hK;obtain⟨xs,x,hq,hx⟩:=hg;obtain⟨its,rv,p,hz⟩:=I.list hq;obtain⟨u,hu,ru⟩:=rv.get hx;obtain⟨f0,f1,f2,f3,f4,f5⟩:=hf it (by simp);refine wpAny_pyNext_list_item st p.isList (x:=u) (by simpa using hu) λh' st' sb=>?_;have I1:Inv X pins σ H { s with heap:=h' }:=I.turned (t':=s.toks) (λb o hb e=>(sb.2 b hb).trans e) f0 f1 f3 f4 f5;obtain⟨o,e,c,d⟩:=id st';exact⟨u,rfl,vC (s:={ s with heap:=h' }) e c d (by decide) ⟨x,H,I1,ru,⟨rfl,λys hy=>by rw[I.list_inj hy hq];exact hx⟩,st',λb hb=>(hf b hb).1⟩⟩
 done:=by
  intro X hP hw hK hc i pins s σ H E I hf st hg;subst hP hw hK;obtain⟨xs,hq,hx⟩:=hg;obtain⟨its,rv,p,hz⟩:=I.list hq;obtain⟨f0,f1,f2,f3,f4,f5⟩:=hf it (by simp);have hl:=rv.length;exact wpAny_pyNext_list_end (I.ok.hd hc) st p.isList (by simp;omega) λh' eb=>⟨rfl,I.turned (t':=s.toks) (λb o hb e=>eb b o hb e) f0 f1 f3 f4 f5⟩
 self:=λ_ _ _ _ _ st h=>wpAny_pyIter_listiter st h
theorem kg(a it:Addr):yW P w K tg (Itt K a) [it] it (λi h=>h.IsTupleIter it a i) where
 mem:=by simp
 obj:=λi h st b hb=>by
  have e:b=it:=by simpa using hb
  subst e;obtain⟨o,e,c,d⟩:=st;exact⟨o,e,λv z=>by rw[d] at z;cases z⟩
 keep:=λi h h' st k=>st.at λo e=>k it (by simp) o e
 item:=by
  intro X hP hw hK hc i pins s σ H E I hf st hg;subst hP hw hK;obtain⟨xs,x,hq,hx⟩:=hg;obtain⟨its,rv,p,hz⟩:=I.tuple hq;obtain⟨u,hu,ru⟩:=rv.get hx;obtain⟨f0,f1,f2,f3,f4,f5⟩:=hf it (by simp);refine wpAny_pyNext_tuple_item st (show s.heap.IsTuple a its.toArray from p) (x:=u) (by simpa using hu) λh' st' sb=>?_;have I1:Inv X pins σ H { s with heap:=h' }:=I.turned (t':=s.toks) (λb o hb e=>(sb.2 b hb).trans e) f0 f1 f3 f4 f5;obtain⟨o,e,c,d⟩:=id st';exact⟨u,rfl,vC (s:={ s with heap:=h' }) e c d (by decide) ⟨x,H,I1,ru,⟨rfl,λys hy=>by rw[I.tuple_inj hy hq];exact hx⟩,st',λb hb=>(hf b hb).1⟩⟩
 done:=by
  intro X hP hw hK hc i pins s σ H E I hf st hg;subst hP hw hK;obtain⟨xs,hq,hx⟩:=hg;obtain⟨its,rv,p,hz⟩:=I.tuple hq;obtain⟨f0,f1,f2,f3,f4,f5⟩:=hf it (by simp);have hl:=rv.length;exact wpAny_pyNext_tuple_end (I.ok.hd hc) st (show s.heap.IsTuple a its.toArray from p) (by simp;omega) λh' eb=>⟨rfl,I.turned (t':=s.toks) (λb o hb e=>eb b o hb e) f0 f1 f3 f4 f5⟩
 self:=λ_ _ _ _ _ st h=>wpAny_pyIter_tupleiter st h
theorem sf(it:Addr)(lo:Int)(n:Nat):yW P w K tg (Itr lo n) [it] it (λi h=>IsRangeIter h it (lo+(i:Nat)*1) ((n:Int)-(i:Nat)) 1) where
 mem:=by simp
 obj:=λi h st b hb=>by
  have e:b=it:=by simpa using hb
  subst e
  exact⟨_,st,λv z=>by
   have z':Data.fields _=Data.cell v:=z
   cases z'⟩
 keep:=λi h h' st k=>k it (by simp) _ st
 item:=by
  intro X hP hw hK hc i pins s σ H E I hf st hg;subst hP hw hK;obtain⟨f0,f1,f2,f3,f4,f5⟩:=hf it (by simp);have W:=Walks.range (prog:=X.prog) (w:=X.w) (I.ok.hd hc) it lo 1 n;refine W.item i s _ _ hg st λv h' tk hv st' kk=>?_;obtain⟨t,rfl⟩:=hv;have I1:Inv X pins σ H { s with heap:=h',toks:=tk }:=I.turned (λb o hb e=>kk b o (by simpa using hb) e) f0 f1 f3 f4 f5;refine⟨_,rfl,vC (s:={ s with heap:=h',toks:=tk }) (n:="range_iterator") st' rfl rfl (by decide) ⟨.int (lo+i),H,I1,⟨t,?_⟩,⟨rfl,rfl⟩,st',λb hb=>(hf b hb).1⟩⟩;rw[Int.mul_one]
 done:=by
  intro X hP hw hK hc i pins s σ H E I hf st hg;subst hP hw hK;obtain⟨f0,f1,f2,f3,f4,f5⟩:=hf it (by simp);exact wpAny_pyNext_range_end (I.ok.hd hc) st (by have:n<=i:=hg;omega) λh' eb=>⟨rfl,I.turned (t':=s.toks) (λb o hb e=>eb b o hb e) f0 f1 f3 f4 f5⟩
 self:=λ_ _ _ _ _ st h=>wpAny_pyIter_rangeiter st h
end L2
namespace L2
open PySem PySem.Spec PyProof.Rows
variable {pins:List (Addr×Obj)} {σ:St} {H:Hp} {s:Shared} {fp:List Addr}
section
variable {X:Cx} {tg:Expr}
def EO(K:PySem.W.Frag)(tl:TE):TI:=λσ H R=>tl σ H λx H1=>∃a,x=.ref a/\(∃xs,Gz K H1 a xs)/\R (Itl K a) H1
def iTup(K:PySem.W.Frag)(tl:TE):TI:=λσ H R=>tl σ H λx H1=>∃a,x=.ref a/\(∃xs,Gy K H1 a xs)/\R (Itt K a) H1
theorem uC{l:Expr}{tl:TE}(hl:PE X l tl):PI X tg l (EO X.K tl):=by
 intro pins s σ H R I h;refine GE (hl pins s σ H _ I h) λv s1 ⟨x,H1,I1,r1,q1⟩=>?_;obtain⟨a,e,⟨xs,hq⟩,q⟩:=q1;subst e
 cases r1
 obtain⟨its,rv,p,hz⟩:=I1.list hq;refine Jf p.isList ?_;refine⟨s1.heap.objs.size,[s1.heap.objs.size],_,_,H1,rfl,I1.kept (t':=s1.toks) λb o e=>Heap.get?_push_of_some _ e,mQ a _,⟨_,Heap.get?_push_size _ rfl,rfl,rfl⟩,λb hb=>?_,q⟩;have e:b=s1.heap.objs.size:=by simpa using hb
 subst e;exact I1.fpOk (G3 _) (I1.hok.fresh (G3 _))
theorem y8{l:Expr}{tl:TE}(hl:PE X l tl):PI X tg l (iTup X.K tl):=by
 intro pins s σ H R I h;refine GE (hl pins s σ H _ I h) λv s1 ⟨x,H1,I1,r1,q1⟩=>?_;obtain⟨a,e,⟨xs,hq⟩,q⟩:=q1;subst e
 cases r1
 obtain⟨its,rv,p,hz⟩:=I1.tuple hq;refine wpAny_pyIter_tuple (show s1.heap.IsTuple a its.toArray from p) ?_;refine⟨s1.heap.objs.size,[s1.heap.objs.size],_,_,H1,rfl,I1.kept (t':=s1.toks) λb o e=>Heap.get?_push_of_some _ e,kg a _,⟨_,Heap.get?_push_size _ rfl,rfl,rfl⟩,λb hb=>?_,q⟩;have e:b=s1.heap.objs.size:=by simpa using hb
 subst e;exact I1.fpOk (G3 _) (I1.hok.fresh (G3 _))
theorem wj{R:It->Hp->Prop}{E:Value->Shared->Prop}{lo hi:Int}{t u v:Tok}{tk:Nat}(I:Inv X pins σ H s)(h1:-(2 ^ 62)<=lo)(h2:lo<2 ^ 62)(h3:-(2 ^ 62)<=hi)(h4:hi<2 ^ 62)
  (q:R (Itr lo (hi-lo).toNat) H):wpAny (model X.prog X.w) X.A (pyIter (.ref s.heap.objs.size)) (PIE X pins σ tg R) E { s with heap:=s.heap.push { cls:=.type "range",data:=.fields #[.int lo t,.int hi u,.int 1 v] },toks:=tk }:=by
 refine wpAny_pyIter_range (IsRange.new ..) (small_one h1 h2 h3 h4) ?_;have I1:Inv X pins σ H { s with heap:=s.heap.push { cls:=.type "range",data:=.fields #[.int lo t,.int hi u,.int 1 v] },toks:=tk }:=I.kept λb o e=>Heap.get?_push_of_some _ e
 refine⟨(s.heap.push { cls:=.type "range",data:=.fields #[.int lo t,.int hi u,.int 1 v] }).objs.size,[(s.heap.push { cls:=.type "range",data:=.fields #[.int lo t,.int hi u,.int 1 v] }).objs.size],_,_,H,rfl,
  I1.kept (t':=tk) λb o e=>Heap.get?_push_of_some _ e,sf _ lo (hi-lo).toNat,?_,λb hb=>?_,q⟩
 ·have e1:lo+((0:Nat):Int)*1=lo:=by simp
  have e2:(((hi-lo).toNat:Nat):Int)-((0:Nat):Int)=Builtin.Range.rangeSize lo hi 1:=by rw[rangeSize_one];split<;>omega
  show IsRangeIter _ _ (lo+((0:Nat):Int)*1) ((((hi-lo).toNat:Nat):Int)-((0:Nat):Int)) 1
  rw[e1,e2];exact Heap.get?_push_size _ rfl
 ·have e:b=(s.heap.push { cls:=.type "range",data:=.fields #[.int lo t,.int hi u,.int 1 v] }).objs.size:=by simpa using hb
  subst e;exact I1.fpOk (G3 _) (I1.hok.fresh (G3 _))
def Fp(ta:TA):TI:=λσ H R=>ta σ H λvs H1=>∃j:Int,vs=[.int j]/\-(2 ^ 62)<=j/\j<2 ^ 62/\R (Itr 0 j.toNat) H1
theorem mK{a:Expr}{ta:TA}{p pos:Pos}(hg:Gl X "range")(hm:X.mg "range"=none)(ha:PA X [a] ta)(hs:starEach [a] X.env=[(false,eval a X.env)]:=by rfl):PI X tg (.Call (.Name "range" p) [a] [] pos) (Fp ta):=by
 intro pins s σ H R I h;refine Call_ (gd I hg hm boot_range (HY (GE (ha pos pins s σ H _ I h) λus s1 ⟨vs,H1,I1,r1,q1⟩=>?_) hs rfl));obtain⟨j,e,q1,q2,q⟩:=q1;subst e
 cases r1 with
 | cons r rr =>
  cases rr
  obtain⟨t,rfl⟩:=r;exact call_range_1 (wj I1 (by omega) (by omega) q1 q2 (by simpa using q))
def tFor(wi:TI)(g:TG)(tb:TS):TS:=λD σ H=>wi σ H λJ H1=>∃W:Nat->Nat->St->Hp->Prop,(∃m,W 0 m σ H1)/\∀i m σ H,W i m σ H ->
 (J.stop i H/\D.nx σ H)\/(J.go i H/\∃N:St->Hp->Prop,(∀σ' H',N σ' H'->∃m',m'<m/\W (i+1) m' σ' H')/\∀x H',J.yld i H x H'->g x σ H' λσ2 H2=>tb { D with nx:=N,ct:=N,bk:=D.nx } σ2 H2)
def mz(fp:List Addr)(h:Heap):List (Addr×Obj):=fp.filterMap λb=>(h.get? b).map λo=>(b,o)
def eA{h:Heap}{b:Addr}{o:Obj}(hb:b∈fp)(e:h.get? b=some o):(b,o)∈mz fp h:=List.mem_filterMap.mpr ⟨b,hb,by rw[e];rfl⟩
theorem vT{h:Heap}{p:Addr×Obj}(hp:p∈mz fp h):p.1∈fp/\h.get? p.1=some p.2:=by
 obtain⟨b,hb,e⟩:=List.mem_filterMap.mp hp
 cases q:h.get? b with
 | none=>rw[q] at e;cases e
 | some o =>
  rw[q] at e;have e':(b,o)=p:=Hg e;subst e';exact⟨hb,q⟩
def Inv.pinned(I:Inv X pins σ H s)(hf:∀b∈fp,xo X pins H b)(ho:∀b∈fp,∃o,s.heap.get? b=some o/\∀v,o.data≠.cell v):Inv X (pins++mz fp s.heap) σ H s :=
 I.pins_of λp hp=>(Hb.mp hp).elim (λz=>I.pin p (G6 _ z)) λz=>by
  obtain⟨hb,e⟩:=vT z;obtain⟨f0,f1,f2,_⟩:=hf p.1 hb;obtain⟨o,e',d⟩:=ho p.1 hb;rw[e] at e';cases e';exact⟨e,f0,f1,f2,d⟩
def Inv.unpinned{pl:List (Addr×Obj)}(I:Inv X (pins++pl) σ H s):Inv X pins σ H s:=I.pins_of λp hp=>I.pin p (G6 _ (Hf _ hp))
theorem qO{iter:Expr}{body:List Stmt}{wi:TI}{g:TG}{tb:TS}{pos:Pos}(hp:PassesOwn (model X.prog X.w) X.A X.env X.xe)(hc:X.calm=true)(hi:PI X tg iter wi)(hg:PG X tg g)(hb:PSs X body tb)
  (hs:∀x,foldedSetIterable iter X.env x=pure x:=by intro _;rfl):PS X (.For tg iter body [] pos) (tFor wi g tb):=by
 intro pins s σ H D I h;refine wpAny_For (GE (hi pins s σ H _ I h) λv s1 h1=>GE h1 λitv s2 h2=>?_) hs;obtain⟨it,fp,tn,J,H2,e,I2,T,st2,f2,W,⟨m0,w0⟩,turn⟩:=h2;subst e;have stat:∀ {H':Hp},(∀b∈fp,H' b=none)->∀b∈fp,xo X pins H' b:=λhn b hb=>⟨hn b hb,(f2 b hb).2⟩;refine codeAny_forLoop_any (λn s'=>∃i σ' H',Inv X pins σ' H' s'/\tn i s'.heap/\(∀b∈fp,H' b=none)/\W i n σ' H') ?_ m0 ⟨0,σ,H2,I2,st2,λb hb=>(f2 b hb).1,w0⟩;rintro n s3 ⟨i,σ3,H3,I3,st3,fr3,w3⟩
 rcases turn i n σ3 H3 w3 with⟨stop,qn⟩ | ⟨go,N,hN,step⟩
 ·refine IL hp (GE (T.done X rfl rfl rfl hc i pins s3 σ3 H3 X.xe I3 (stat fr3) st3 stop) λr s4 ⟨hr,I4⟩=>?_);subst hr;exact J1 ⟨σ3,H3,I4,qn⟩
 ·refine IL hp (GE (T.item X rfl rfl rfl hc i pins s3 σ3 H3 X.xe I3 (stat fr3) st3 go) λr s4 ⟨u,hr,h4⟩=>?_);subst hr;refine IL hp (GE h4 λ_ s5 ⟨x,H5,I5,r5,y5,st5,fr5⟩=>?_);have I5':=I5.pinned (stat fr5) (T.obj _ _ st5);refine IL hp (GE (hg _ s5 σ3 H5 x u _ I5' r5 (step x H5 y5)) λ_ s6 ⟨σ6,H6,I6,q6⟩=>?_);refine IL hp (GE (hb _ s6 σ6 H6 _ I6 q6) λf s7 q7=>?_);have again:∀ {σ7:St} {H7:Hp},Inv X (pins++mz fp s5.heap) σ7 H7 s7->N σ7 H7->∃m,m<n/\∃i σ' H',Inv X pins σ' H' s7/\tn i s7.heap/\(∀b∈fp,H' b=none)/\W i m σ' H':=λ{σ7 H7} I7 n7=>by
   obtain⟨m',hm,w7⟩:=hN σ7 H7 n7;refine⟨m',hm,i+1,σ7,H7,I7.unpinned,T.keep _ _ _ st5 λb hb o e=>(I7.pin (b,o) (G6 _ (G6 _ (eA hb e)))).1,λb hb=>?_,w7⟩;obtain⟨o,e,d⟩:=T.obj _ _ st5 b hb;exact(I7.pin (b,o) (G6 _ (G6 _ (eA hb e)))).2.1
  cases f with
  | next=>obtain⟨σ7,H7,I7,n7⟩:=q7;exact again I7 n7
  | cont=>obtain⟨σ7,H7,I7,n7⟩:=q7;exact again I7 n7
  | brk=>obtain⟨σ7,H7,I7,q7⟩:=q7;exact⟨σ7,H7,I7.unpinned,q7⟩
  | ret v=>obtain⟨x7,σ7,H7,I7,r7,q7⟩:=q7;exact⟨x7,σ7,H7,I7.unpinned,r7,q7⟩
end
theorem uo{lo:Int}{n:Nat}{g:TG}{tb:TS}{D:BA}(Pv:Nat->St->Hp->Prop)(h0:Pv 0 σ H)
  (hs:∀i σ H,i<n->Pv i σ H->g (.int (lo+i)) σ H λσ2 H2=>tb { D with nx:=Pv (i+1),ct:=Pv (i+1),bk:=D.nx } σ2 H2) (hd:∀σ H,Pv n σ H->D.nx σ H) :
  ∃W:Nat->Nat->St->Hp->Prop,(∃m,W 0 m σ H)/\∀i m σ H,W i m σ H ->
   ((Itr lo n).stop i H/\D.nx σ H)\/((Itr lo n).go i H/\∃N:St->Hp->Prop,(∀σ' H',N σ' H'->∃m',m'<m/\W (i+1) m' σ' H')/\∀x H',(Itr lo n).yld i H x H'->g x σ H' λσ2 H2=>tb { D with nx:=N,ct:=N,bk:=D.nx } σ2 H2):=by
 refine⟨λi m σ H=>m=n-i/\i<=n/\Pv i σ H,⟨n,by simp,Ie _,h0⟩,?_⟩;rintro i m σ H ⟨rfl,hi,p⟩
 by_cases hlt:i<n
 ·refine .inr ⟨hlt,Pv (i+1),λσ' H' p'=>⟨n-(i+1),by omega,rfl,hlt,p'⟩,λx H' y=>?_⟩;obtain⟨e,y⟩:=y;subst e y;exact hs i σ _ hlt p
 ·have e:i=n:=by omega
  subst e;exact .inl ⟨G3 _,hd σ H p⟩
end L2
namespace L2
open PySem PySem.Spec PyProof.Rows
variable {f:Value→Value→Sem Value} {op:CmpOp}
abbrev R2:=V->V->Hp->VK->Prop
def GM(X:Cx)(f:Value->Value->Sem Value)(r:R2):Prop :=
 ∀(pins:List (Addr×Obj)) (s:Shared) (σ:St) (H:Hp) (x y:V) (v u:Value) (Q:VK),Inv X pins σ H s->bx x v->bx y u->r x y H Q ->
  wpAny (model X.prog X.w) X.A (f v u) (EP X pins σ Q) X.xe s
def UnR(X:Cx)(f:Value->Sem Value)(r:V->Hp->VK->Prop):Prop :=
 ∀(pins:List (Addr×Obj)) (s:Shared) (σ:St) (H:Hp) (x:V) (v:Value) (Q:VK),Inv X pins σ H s->bx x v->r x H Q ->
  wpAny (model X.prog X.w) X.A (f v) (EP X pins σ Q) X.xe s
def bW(X:Cx)(f:Value)(r:List V->Hp->VK->Prop):Prop :=
 ∀(pins:List (Addr×Obj)) (s:Shared) (σ:St) (H:Hp) (xs:List V) (us:List Value) (Q:VK),Inv X pins σ H s->bn xs us->r xs H Q ->
  wpAny (model X.prog X.w) X.A (call f us) (EP X pins σ Q) X.xe s
def tOp(r:R2)(ta tb:TE):TE:=λσ H Q=>ta σ H λx H1=>tb σ H1 λy H2=>r x y H2 Q
def tUn(r:V->Hp->VK->Prop)(ta:TE):TE:=λσ H Q=>ta σ H λx H1=>r x H1 Q
def rI(C:Int->Int->Prop)(g:Int->Int->V):R2:=λx y H Q=>∃i j,x=.int i/\y=.int j/\C i j/\Q (g i j) H
def rI0(g:Int->Int->V):R2:=λx y H Q=>∃i j,x=.int i/\y=.int j/\Q (g i j) H
def rU(g:Int->V):V->Hp->VK->Prop:=λx H Q=>∃i,x=.int i/\Q (g i) H
section
variable {X:Cx} {a b c:Expr} {ta tb tc:TE} {pos:Pos}
theorem binT(ha:PE X a ta)(hb:PE X b tb){pins:List (Addr×Obj)}{s:Shared}{σ:St}{H:Hp}{R:V->V->Hp->Prop}(I:Inv X pins σ H s)
  (h:ta σ H λx H1=>tb σ H1 λy H2=>R x y H2) {Q:Value->Shared->Prop} {f:Value->Value->Sem Value}
  (hf:∀v u s2 x y H2,Inv X pins σ H2 s2->bx x v->bx y u->R x y H2->wpAny (model X.prog X.w) X.A (f v u) Q X.xe s2) :
  wpAny (model X.prog X.w) X.A (eval a X.env) (λv s₁=>wpAny (model X.prog X.w) X.A (eval b X.env) (λu s₂=>wpAny (model X.prog X.w) X.A (f v u) Q X.xe s₂) X.xe s₁) X.xe s:=by
 refine GE (ha pins s σ H _ I h) λv s1 ⟨x,H1,I1,r1,q1⟩=>?_;refine GE (hb pins s1 σ H1 _ I1 q1) λu s2 ⟨y,H2,I2,r2,q2⟩=>?_;exact hf v u s2 x y H2 I2 r1 r2 q2
theorem EW{op:Operator}{r:R2}(ho:GM X (binaryOp op) r)(ha:PE X a ta)(hb:PE X b tb):PE X (.BinOp a op b pos) (tOp r ta tb):=by
 intro pins s σ H Q I h;exact wpAny_BinOp (binT ha hb I h λv u s2 x y H2 I2 rx ry q=>ho pins s2 σ H2 x y v u Q I2 rx ry q)
theorem Gi{op:UnaryOp}{r:V->Hp->VK->Prop}(ho:UnR X (unaryOp op) r)(ha:PE X a ta):PE X (.UnaryOp op a pos) (tUn r ta):=by
 intro pins s σ H Q I h;exact UnaryOp_ (GE (ha pins s σ H _ I h) λv s1 ⟨x,H1,I1,r1,q1⟩=>ho pins s1 σ H1 x v Q I1 r1 q1)
theorem opI{C:Int->Int->Prop}{g:Int->Int->Int}
  (rule:∀(i j:Int) (t u:Tok) (s:Shared) (Q:Value->Shared->Prop) (E:Value->Shared->Prop),C i j->Q (.int (g i j) s.toks) { s with toks:=s.toks+1 }->wpAny (model X.prog X.w) X.A (f (.int i t) (.int j u)) Q E s) :
  GM X f (rI C λi j=>.int (g i j)):=by
 intro pins s σ H x y v u Q I rx ry h;obtain⟨i,j,rfl,rfl,hc,q⟩:=h;obtain⟨t,rfl⟩:=rx;obtain⟨t',rfl⟩:=ry;exact rule i j t t' s _ _ hc ⟨.int (g i j),H,I.tok _,⟨_,rfl⟩,q⟩
theorem wg{g:Int->Int->Int}
  (rule:∀(i j:Int) (t u:Tok) (s:Shared) (Q:Value->Shared->Prop) (E:Value->Shared->Prop),Q (.int (g i j) s.toks) { s with toks:=s.toks+1 }->wpAny (model X.prog X.w) X.A (f (.int i t) (.int j u)) Q E s) :
  GM X f (rI0 λi j=>.int (g i j)):=by
 intro pins s σ H x y v u Q I rx ry h;obtain⟨i,j,rfl,rfl,q⟩:=h;obtain⟨t,rfl⟩:=rx;obtain⟨t',rfl⟩:=ry;exact rule i j t t' s _ _ ⟨.int (g i j),H,I.tok _,⟨_,rfl⟩,q⟩
theorem opB0{g:Int->Int->Bool}
  (rule:∀(i j:Int) (t u:Tok) (s:Shared) (Q:Value->Shared->Prop) (E:Value->Shared->Prop),Q (.bool (g i j)) s->wpAny (model X.prog X.w) X.A (f (.int i t) (.int j u)) Q E s) :
  GM X f (rI0 λi j=>.bl (g i j)):=by
 intro pins s σ H x y v u Q I rx ry h;obtain⟨i,j,rfl,rfl,q⟩:=h;obtain⟨t,rfl⟩:=rx;obtain⟨t',rfl⟩:=ry;exact rule i j t t' s _ _ ⟨.bl (g i j),H,I,rfl,q⟩
def CPow(i j:Int):Prop:=0<=j/\j<=1000000/\i.natAbs<2 ^ 64
def CMul(i j:Int):Prop:=(-(2 ^ 64)<i/\i<2 ^ 64)\/(-(2 ^ 64)<j/\j<2 ^ 64)
theorem CMul.ok{i j:Int}(h:CMul i j):IntMulOk i j:=by
 rcases h with⟨h1,h2⟩ | ⟨h1,h2⟩
 ·exact .of_left (intBits_le_64 h1 h2)
 ·exact .of_right (intBits_le_64 h1 h2)
def EA:GM X (binaryOp .Add) (rI0 λi j=>.int (i+j)):=wg λ_ _ _ _ _ _ _ q=>add_int q
def ED:GM X (binaryOp .Sub) (rI0 λi j=>.int (i-j)):=wg λ_ _ _ _ _ _ _ q=>sub_int q
def Ba:GM X (binaryOp .Mod) (rI (λ_ j=>j≠0) λi j=>.int (i.fmod j)):=opI λ_ _ _ _ _ _ _ hc q=>mod_int' hc q
def EE:GM X (binaryOp .Pow) (rI CPow λi j=>.int (i ^ j.toNat)):=opI λ_ _ _ _ _ _ _ hc q=>pow_int_small hc.1 hc.2.1 hc.2.2 q
def DJ:GM X (binaryOp .LShift) (rI CPow λi j=>.int (i*2 ^ j.toNat)):=opI λ_ _ _ _ _ _ _ hc q=>lshift_int_small hc.1 hc.2.1 hc.2.2 q
theorem unI{f:Value->Sem Value}{g:Int->Int}
  (rule:∀(i:Int) (t:Tok) (s:Shared) (Q:Value->Shared->Prop) (E:Value->Shared->Prop),Q (.int (g i) s.toks) { s with toks:=s.toks+1 }->wpAny (model X.prog X.w) X.A (f (.int i t)) Q E s) :
  UnR X f (rU λi=>.int (g i)):=by
 intro pins s σ H x v Q I rx h;obtain⟨i,rfl,q⟩:=h;obtain⟨t,rfl⟩:=rx;exact rule i t s _ _ ⟨.int (g i),H,I.tok _,⟨_,rfl⟩,q⟩
def Ex:UnR X (unaryOp .USub) (rU λi=>.int (-i)):=unI λ_ _ _ _ _ q=>neg_int q
end
def scal:V->V->Bool
 | .non,.non=>true | .non,.int _=>true | .int _,.non=>true | .non,.bl _=>true | .bl _,.non=>true | .non,.str _=>true | .str _,.non=>true
 | .int _,.int _=>true | .bl _,.bl _=>true | .str _,.str _=>true | .byt _,.byt _=>true
 | .int _,.str _=>true | .str _,.int _=>true | .bl _,.str _=>true | .str _,.bl _=>true
 | _,_=>false
def rEq:R2:=λx y H Q=>scal x y=true/\Q (.bl (decide (x=y))) H
def rNe:R2:=λx y H Q=>scal x y=true/\Q (.bl (!decide (x=y))) H
theorem oB{i j:Int}:decide (V.int i=V.int j)=(i==j):=by
 rw[IZ];simp
theorem uP{i j:Bool}:decide (V.bl i=V.bl j)=(i==j):=by
 rw[IZ];simp
theorem oy{i j:Str}:decide (V.str i=V.str j)=(i==j):=by
 rw[IZ];simp
theorem vU{i j:Array UInt8}:decide (V.byt i=V.byt j)=(i.toList==j.toList):=by
 rw[IZ]
 cases i
 cases j
 simp
section
variable {X:Cx} {a b c:Expr} {ta tb tc:TE} {pos:Pos}
theorem aT{pins:List (Addr×Obj)}{σ:St}{H:Hp}{s:Shared}{Q:VK}{k k':Bool}(I:Inv X pins σ H s)(q:Q (.bl k) H)(e:k=k'):EP X pins σ Q (.bool k') s:=by
 subst e;exact⟨.bl k,H,I,rfl,q⟩
theorem A6:GM X (compareOp .Eq) rEq:=by
 intro pins s σ H x y v u Q I rx ry h;obtain⟨hs,q⟩:=h
 cases x with
 | non =>
  cases rx
  cases y with
  | non=>cases ry;exact PySem.EqNone.eq_none_none (aT I q (by simp))
  | bl j=>cases ry;exact PySem.EqNone.eq_none_bool (aT I q (by simp))
  | int j=>obtain⟨t',rfl⟩:=ry;exact PySem.EqNone.eq_none_int (aT I q (by simp))
  | str j=>obtain⟨t',rfl⟩:=ry;exact PySem.EqNone.eq_none_str (aT I q (by simp))
  | _=>exact absurd (show false=true from hs) G4
 | bl i =>
  cases rx
  cases y with
  | non=>cases ry;exact PySem.EqNone.eq_bool_none (aT I q (by simp))
  | bl j=>cases ry;exact eq_bool (aT I q uP)
  | str j=>obtain⟨t',rfl⟩:=ry;exact PySem.EqMixed.eq_bool_str (aT I q (by simp))
  | _=>exact absurd (show false=true from hs) G4
 | int i =>
  obtain⟨t,rfl⟩:=rx
  cases y with
  | non=>cases ry;exact PySem.EqNone.eq_int_none (aT I q (by simp))
  | int j=>obtain⟨t',rfl⟩:=ry;exact eq_int (aT I q oB)
  | str j=>obtain⟨t',rfl⟩:=ry;exact PySem.EqMixed.eq_int_str (aT I q (by simp))
  | _=>exact absurd (show false=true from hs) G4
 | str i =>
  obtain⟨t,rfl⟩:=rx
  cases y with
  | non=>cases ry;exact PySem.EqNone.eq_str_none (aT I q (by simp))
  | bl j=>cases ry;exact PySem.EqMixed.eq_str_bool (aT I q (by simp))
  | int j=>obtain⟨t',rfl⟩:=ry;exact PySem.EqMixed.eq_str_int (aT I q (by simp))
  | str j=>obtain⟨t',rfl⟩:=ry;exact eq_str (aT I q oy)
  | _=>exact absurd (show false=true from hs) G4
 | byt i =>
  obtain⟨t,rfl⟩:=rx
  cases y with
  | byt j=>obtain⟨t',rfl⟩:=ry;exact PySem.W.eq_bytes (aT I q vU)
  | _=>exact absurd (show false=true from hs) G4
 | _=>cases y<;>exact absurd (show false=true from hs) G4
theorem AW:GM X (compareOp .NotEq) rNe:=by
 intro pins s σ H x y v u Q I rx ry h;obtain⟨hs,q⟩:=h
 cases x with
 | non =>
  cases rx
  cases y with
  | non=>cases ry;exact PySem.EqNone.ne_none_none (aT I q (by simp))
  | bl j=>cases ry;exact PySem.EqNone.ne_none_bool (aT I q (by simp))
  | int j=>obtain⟨t',rfl⟩:=ry;exact PySem.EqNone.ne_none_int (aT I q (by simp))
  | str j=>obtain⟨t',rfl⟩:=ry;exact PySem.EqNone.ne_none_str (aT I q (by simp))
  | _=>exact absurd (show false=true from hs) G4
 | bl i =>
  cases rx
  cases y with
  | non=>cases ry;exact PySem.EqNone.ne_bool_none (aT I q (by simp))
  | bl j=>cases ry;exact ne_bool (aT I q (IB not uP))
  | str j=>obtain⟨t',rfl⟩:=ry;exact PySem.EqMixed.ne_bool_str (aT I q (by simp))
  | _=>exact absurd (show false=true from hs) G4
 | int i =>
  obtain⟨t,rfl⟩:=rx
  cases y with
  | non=>cases ry;exact PySem.EqNone.ne_int_none (aT I q (by simp))
  | int j=>obtain⟨t',rfl⟩:=ry;exact ne_int (aT I q (IB not oB))
  | str j=>obtain⟨t',rfl⟩:=ry;exact PySem.EqMixed.ne_int_str (aT I q (by simp))
  | _=>exact absurd (show false=true from hs) G4
 | str i =>
  obtain⟨t,rfl⟩:=rx
  cases y with
  | non=>cases ry;exact PySem.EqNone.ne_str_none (aT I q (by simp))
  | bl j=>cases ry;exact PySem.EqMixed.ne_str_bool (aT I q (by simp))
  | int j=>obtain⟨t',rfl⟩:=ry;exact PySem.EqMixed.ne_str_int (aT I q (by simp))
  | str j=>obtain⟨t',rfl⟩:=ry;exact ne_str (aT I q (IB not oy))
  | _=>exact absurd (show false=true from hs) G4
 | byt i =>
  obtain⟨t,rfl⟩:=rx
  cases y with
  | byt j=>obtain⟨t',rfl⟩:=ry;exact PySem.W.ne_bytes (aT I q (IB not vU))
  | _=>exact absurd (show false=true from hs) G4
 | _=>cases y<;>exact absurd (show false=true from hs) G4
def Fm:GM X (compareOp .Lt) (rI0 λi j=>.bl (decide (i<j))):=opB0 λ_ _ _ _ _ _ _ q=>lt_int q
def ET:GM X (compareOp .LtE) (rI0 λi j=>.bl (decide (i<=j))):=opB0 λ_ _ _ _ _ _ _ q=>le_int q
def E8:GM X (compareOp .Gt) (rI0 λi j=>.bl (decide (j<i))):=opB0 λ_ _ _ _ _ _ _ q=>gt_int q
def Ft:GM X (compareOp .GtE) (rI0 λi j=>.bl (decide (j<=i))):=opB0 λ_ _ _ _ _ _ _ q=>ge_int q
theorem DM:GM X (compareOp .Is) (λx y H Q=>y=.non/\Q (.bl (decide (x=.non))) H):=by
 intro pins s σ H x y v u Q I rx ry h;obtain⟨rfl,q⟩:=h
 cases ry
 refine is_none_gen (aT I q ?_)
 cases x<;>first
  | (cases rx;rfl)
  | (obtain⟨t,rfl⟩:=rx;rfl)
theorem GM.or{r r':R2}(h:GM X f r)(h':GM X f r'):GM X f (λx y H Q=>r x y H Q\/r' x y H Q):=by
 intro pins s σ H x y v u Q I rx ry q
 rcases q with q | q
 ·exact h pins s σ H x y v u Q I rx ry q
 ·exact h' pins s σ H x y v u Q I rx ry q
theorem av(b:Expr)(h:op≠.In:=by decide)(h2:op≠.NotIn:=by decide):behindInMarks op b=false:=by
 have e1:(op==CmpOp.In)=false:=by cases op<;>first | rfl | exact absurd rfl h
 have e2:(op==CmpOp.NotIn)=false:=by cases op<;>first | rfl | exact absurd rfl h2
 cases b<;>simp[behindInMarks,e1,e2]
theorem AA{r:R2}(ho:GM X (compareOp op) r)(ha:PE X a ta)(hb:PE X b tb)(hm:behindInMarks op b=false):PE X (.Compare a [op] [b] pos) (tOp r ta tb):=by
 intro pins s σ H Q I h;exact wpAny_Compare1 (binT ha hb I h λv u s2 x y H2 I2 rx ry q=>ho pins s2 σ H2 x y v u Q I2 rx ry q) hm
def Ge(t:TE):TT:=λσ H Q=>t σ H λx H'=>∃k,x=.bl k/\Q k H'
theorem BG{r:R2}(ho:GM X (compareOp op) r)(ha:PE X a ta)(hb:PE X b tb)(hm:behindInMarks op b=false):PT X (.Compare a [op] [b] pos) (Ge (tOp r ta tb)):=by
 intro pins s σ H Q I h
 refine wpAny_isTrue_Compare1 (GE (ha pins s σ H _ I h) λv s1 ⟨x,H1,I1,r1,q1⟩=>GE (hb pins s1 σ H1 _ I1 q1) λu s2 ⟨y,H2,I2,r2,q2⟩ =>
  GE (ho pins s2 σ H2 x y v u _ I2 r1 r2 q2) λc s3 ⟨z,H3,I3,r3,k,e,q3⟩=>?_) hm
 subst e
 cases r3
 exact Iy ⟨H3,I3,q3⟩
theorem qg:(sizeLine:Nat)<2 ^ 63:=by rw[sizeLine_eq];decide
theorem fk{x:V}{us:List Value}(r:bn [x] us):∃u,us=[u]/\bx x u:=by
 cases r with
 | cons r1 r2=>cases r2;exact⟨_,rfl,r1⟩
theorem DZ{x y:V}{us:List Value}(r:bn [x,y] us):∃u w',us=[u,w']/\bx x u/\bx y w':=by
 cases r with
 | cons r1 r2 =>
  cases r2 with
  | cons r3 r4=>cases r4;exact⟨_,_,rfl,r1,r3⟩
theorem w6:bW X (.builtin "abs") (λxs H Q=>∃i,xs=[.int i]/\Q (.int (if i<0 then -i else i)) H):=by
 intro pins s σ H xs us Q I r h;obtain⟨i,rfl,q⟩:=h;obtain⟨u,rfl,t,rfl⟩:=fk r;exact call_abs_int λu tk=>⟨.int (if i<0 then -i else i),H,I.tok _,⟨_,rfl⟩,q⟩
theorem tq(hc:X.calm=true):bW X (.builtin "max") (λxs H Q=>∃i j,xs=[.int i,.int j]/\Q (.int (if j>i then j else i)) H):=by
 intro pins s σ H xs us Q I r h;obtain⟨i,j,rfl,q⟩:=h;obtain⟨u,w',rfl,⟨t,rfl⟩,⟨t',rfl⟩⟩:=DZ r;refine max_two_ints (I.ok.hd hc) λh' tk k=>⟨_,H,I.kept k,?_,q⟩
 by_cases hj:j>i
 ·rw[Hh hj,Hh hj];exact⟨_,rfl⟩
 ·rw[He hj,He hj];exact⟨_,rfl⟩
theorem vj:bW X (.type "int") (λxs H Q=>(∃i,xs=[.int i]/\Q (.int i) H)\/∃k,xs=[.bl k]/\Q (.int (if k then 1 else 0)) H):=by
 intro pins s σ H xs us Q I r h
 rcases h with⟨i,rfl,q⟩ | ⟨k,rfl,q⟩
 ·obtain⟨u,rfl,t,rfl⟩:=fk r;exact call_int_int ⟨.int i,H,I,⟨_,rfl⟩,q⟩
 ·obtain⟨u,rfl,r1⟩:=fk r
  cases r1
  exact call_int_bool ⟨.int (if k then 1 else 0),H,I.tok _,⟨_,rfl⟩,q⟩
end
end L2
namespace L2
open PySem PySem.Spec PyProof.Rows
structure ObjM(h:Heap)(x dx C:Addr)(mA:Str->Option Value):Prop where
 obj:h.get? x=some (PySem.W.instObj C dx)
 ns:h.Ns1 dx mA
 ne:dx≠x
theorem vW{h:Heap}{dx:Addr}{mA:Str->Option Value}(n:h.Ns1 dx mA):∃od,h.get? dx=some od/\∀name,PySem.W.lookIn name od=some (mA name):=by
 obtain⟨o,es,ep,ho,hd,hk,_,hm⟩:=n;refine⟨o,ho,λname=>?_⟩;have e:=hm name;unfold nsFind findBy at e;rw[<- Array.find?_toList] at e;unfold PySem.W.lookIn;rw[hd]
 dsimp only
 split
 ·rename_i y q
  rw[q] at e;exact IB some e
 ·rename_i q
  rw[q] at e;have a:es.toList.any (·.refKey)=false:=by
   rw[List.any_eq_false];intro y hy;obtain⟨z,t,hkey⟩:=hk y (Array.mem_toList_iff.mp hy);simp[DictEntry.refKey,hkey]
  have a':¬ es.toList.any (·.refKey)=true:=by rw[a];exact G4
  rw[He a'];exact IB some e
def ObjM.look{h:Heap}{x dx C:Addr}{mA:Str->Option Value}(I:ObjM h x dx C mA):∃od,PySem.W.InstAt h x (PySem.W.instObj C dx) C (some od)/\∀name,PySem.W.lookIn name od=some (mA name) :=
 let ⟨od,ho,hl⟩:=vW I.ns
 ⟨od,⟨I.obj,rfl,rfl,ho⟩,hl⟩
section
variable {prog:Program} {w:World} {A:Around} {E:Value→Shared→Prop} {s:Shared} {K:PySem.W.Frag} {x dx C f:Addr} {mA:Str→Option Value} {name:Str} {v:Value}
end
theorem sG.some_of{v:V}{o:Option Value}(r:sG (some v) o):∃u,o=some u/\bx v u:=by
 cases o with
 | none=>exact(show False from r).elim
 | some u=>exact⟨u,rfl,r⟩
section
variable {P:Program} {w:World} {H H':Hp} {h h':Heap} {a C dx:Addr} {fs fs':List (Str×V)}
theorem zT(hok:GT P w H h)(e:H a=some (.ins C dx fs)):∃mA,ObjM h a dx C mA/\(∀f,sG (fs.lookup f) (mA f))/\PySem.Within mA (fs.map (·.1))/\fs.length<=1000/\H dx=some (.own a):=by
 obtain⟨d,z,ne,ob,mA,n,r,q⟩:=(show bN P w H h a (.ins C dx fs) from hok a _ e);exact⟨mA,⟨ob,n,ne⟩,r,q,z,d⟩
end
structure Cls(K:PySem.W.Frag)(C:Addr):Prop where
 pg:PySem.W.plainGet K C Str.empty=true
 hd:PySem.W.hasDictIn K C=true
 po:PySem.W.plainOver K C=true
 sa:PySem.W.findIn K (.ref C) "__setattr__"=some (some (.builtin "object.__setattr__"))
def Cls.get{K:PySem.W.Frag}{C:Addr}(c:Cls K C)(f:Str):PySem.W.plainGet K C f=true:=c.pg
section
variable {X:Cx} {pins:List (Addr×Obj)} {σ:St} {H:Hp} {s:Shared} {a C dx:Addr} {fs:List (Str×V)} {f:Str} {v:V} {A:Around} {E:Value→Shared→Prop}
end
section
variable {X:Cx} {o e value:Expr} {f:Str} {pos pos' tpos:Pos} {ta tv:TE}
end
section
variable {X:Cx} {pins:List (Addr×Obj)} {σ:St} {H:Hp} {s:Shared} {A:Around} {E:Value→Shared→Prop} {Q:Value→Shared→Prop} {c:Value} {b:Bool}
inductive sS(K:PySem.W.Frag)(H:Hp):V->Value->Prop where
 | non:sS K H .non (.type "NoneType")
 | bl (x:Bool):sS K H (.bl x) (.type "bool")
 | int (i:Int):sS K H (.int i) (.type "int")
 | str (x:Str):sS K H (.str x) (.type "str")
 | flt (x:UInt64):sS K H (.flt x) (.type "float")
 | lst {a:Addr} {xs:List V} (e:H a=some (.lst xs)):sS K H (.ref a) (.type "list")
 | frz {a:Addr} {o:Obj} {xs:List V} (e:H a=some (.frz o (.lst xs))):sS K H (.ref a) (.type "list")
 | tup {a:Addr} {xs:List V} (e:H a=some (.tup xs)):sS K H (.ref a) (.type "tuple")
 | dK {a:Addr} {kvs:List (Gr×V)} (e:H a=some (.dK kvs)):sS K H (.ref a) (.type "dict")
 | dT {a:Addr} {kvs:List (List Gr×V)} (e:H a=some (.dT kvs)):sS K H (.ref a) (.type "dict")
 | ins {a C dx:Addr} {fs:List (Str×V)} (e:H a=some (.ins C dx fs)) (cl:Cls K C) (ha:PySem.W.findIn K (.ref C) "__class__"=some (some (.builtin "object.__class__")))
   (hn:PySem.W.specialIn K (.builtin "object.__class__") "__get__"=some (some (.builtin "getset_descriptor.__get__"))) (htk:PySem.W.takesIn K (.builtin "object.__class__")=some true)
   (hm:PySem.W.mroIn K C (.type "object")=some true):sS K H (.ref a) (.ref C)
theorem de{x:V}{u t:Value}(I:Inv X pins σ H s)(rx:bx x u)(ty:sS X.K H x t)(e:PySem.W.kitOne X.K t c=some b)(h:∀tk,Q (.bool b) { s with toks:=tk }) :
  wpAny (model X.prog X.w) A (call (.builtin "isinstance") [u,c]) Q E s:=by
 cases ty with
 | non=>cases (show u=Value.none from rx);exact HL PySem.W.kitx_none I.kIn True.intro e (λz=>nomatch z) h
 | bl y=>cases (show u=Value.bool y from rx);exact HL PySem.W.kitx_bool I.kIn True.intro e (λz=>nomatch z) h
 | int i=>obtain⟨t,q⟩:=(show ∃t,u=Value.int i t from rx);cases q;exact HL PySem.W.kitx_int I.kIn True.intro e (λz=>nomatch z) h
 | str y=>obtain⟨t,q⟩:=(show ∃t,u=Value.str y t from rx);cases q;exact HL PySem.W.kitx_str I.kIn True.intro e (λz=>nomatch z) h
 | flt y=>obtain⟨t,q⟩:=(show ∃t,u=Value.float y t from rx);cases q;exact HL PySem.W.kitx_float I.kIn True.intro e (λz=>nomatch z) h
 | @lst a xs ea =>
  cases (show u=Value.ref a from rx)
  obtain⟨_,_,n,_,h1⟩:=(show bN X.prog X.w H s.heap a (.lst xs) from I.hok a _ ea);exact HL PySem.W.kitx_list I.kIn ⟨_,h1,rfl⟩ e (λz=>nomatch z) h
 | @frz a ob xs ea =>
  cases (show u=Value.ref a from rx)
  obtain⟨_,_,_,n,_,h1⟩:=(show bN X.prog X.w H s.heap a (.frz ob (.lst xs)) from I.hok a _ ea);exact HL PySem.W.kitx_list I.kIn ⟨_,h1,rfl⟩ e (λz=>nomatch z) h
 | @tup a xs ea =>
  cases (show u=Value.ref a from rx)
  obtain⟨_,_,_,p⟩:=(show bN X.prog X.w H s.heap a (.tup xs) from I.hok a _ ea);obtain⟨o,h1,h2,_⟩:=p;exact HL PySem.W.kitx_tuple I.kIn ⟨o,h1,h2⟩ e (λz=>nomatch z) h
 | @dK a kvs ea =>
  cases (show u=Value.ref a from rx)
  obtain⟨_,_,vs,_,p⟩:=(show bN X.prog X.w H s.heap a (.dK kvs) from I.hok a _ ea);obtain⟨o,es,ep,h1,h2,_⟩:=p;exact HL JH I.kIn ⟨o,h1,h2.1⟩ e (λz=>nomatch z) h
 | @dT a kvs ea =>
  cases (show u=Value.ref a from rx)
  obtain⟨_,_,xs,_,o,es,ep,h1,h2,_⟩:=(show bN X.prog X.w H s.heap a (.dT kvs) from I.hok a _ ea);exact HL JH I.kIn ⟨o,h1,h2.1⟩ e (λz=>nomatch z) h
 | @ins a C dx fs ea cl ha hn htk hm =>
  cases (show u=Value.ref a from rx)
  obtain⟨mA,O,_⟩:=zT I.hok ea;obtain⟨od,J,_⟩:=O.look;exact HL (PySem.W.kitx_own (cl.get _) cl.hd ha hn htk hm) I.kIn J e (λz=>nomatch z) h
end
end L2
namespace L2
open PySem PySem.Spec PyProof.Rows
variable {k:Nat} {A:Around} {P:Program} {w:World} {K:PySem.W.Frag} {mg:Str→Option Value} {base:Heap} {f:Addr} {fd:FuncData} {ps:List Str} {x:Str}
structure fK(k:Nat)(A:Around):Prop where
 hd:A.handled=none
 dp:A.depth+3*k+5<recursionLimit
 un:A.units+16*k+200<cLine
def fK.mono{j:Nat}(r:fK k A)(h:j<=k):fK j A:=⟨r.hd,by have:=r.dp;omega,by have:=r.un;omega⟩
def fK.deeper(r:fK (k+1) A)(env:Env):fK k (A.deeper env) :=
 ⟨r.hd,by have:=r.dp;show A.depth+1+3*k+5<_;omega,by have:=r.un;show A.units+3+16*k+200<_;omega⟩
theorem fK.depth(r:fK k A):A.depth<recursionLimit:=by have:=r.dp;omega
theorem fK.units(r:fK k A):A.units+64<cLine:=by have:=r.un;omega
def tNil:TA:=λ_ H Q=>Q [] H
def F0(ta:TE)(tr:TA):TA:=λσ H Q=>ta σ H λx H1=>tr σ H1 λxs H2=>Q (x::xs) H2
section
variable {X:Cx} {e:Expr} {es:List Expr} {te:TE} {t:TA} {pos:Pos}
def dr:PA X [] tNil:=λ_ _ _ _ H Q I h=>JI ⟨[],H,I,.nil,h⟩
theorem a9(ha:PE X e te)(hr:PA X es t)(hs:starEach (e::es) X.env=(false,eval e X.env)::starEach es X.env:=by rfl):PA X (e::es) (F0 te t):=by
 intro pos pins s σ H Q I h;rw[hs];show wpAny _ _ (spliced ((false,eval e X.env)::backTo pos (starEach es X.env))) _ _ s;refine IU (GE (ha pins s σ H _ I h) λu s1 ⟨x,H1,I1,r1,q1⟩=>?_);exact GE (hr pos pins s1 σ H1 _ I1 q1) λus s2 ⟨xs,H2,I2,r2,q2⟩=>⟨x::xs,H2,I2,.cons r1 r2,q2⟩
def tTup(t:TA):TE:=λσ H Q=>t σ H λxs H1=>xs.length<=sizeLine/\∀p,H1 p=none->Q (.ref p) (GC H1 p (.tup xs))
def tLst(t:TA):TE:=λσ H Q=>t σ H λxs H1=>xs.length<=sizeLine/\∀p,H1 p=none->Q (.ref p) (GC H1 p (.lst xs))
theorem Dy{x1}(h:PA X es t):PE X (.Tuple es x1 pos) (tTup t):=by
 intro pins s σ H Q I hq;refine wpAny_Tuple_spliced (GE (h pos pins s σ H _ I hq) λus s1 ⟨xs,H1,I1,r,z,q⟩=>⟨by rw[<- r.length];exact z,?_⟩);have hf:H1 s1.heap.objs.size=none:=I1.hok.fresh (G3 _);refine⟨.ref s1.heap.objs.size,GC H1 s1.heap.objs.size (.tup xs),I1.laid (t':=s1.toks) (λb u e=>Heap.get?_push_of_some _ e) (G3 _) ?_,rfl,q _ hf⟩;exact⟨z,us,r,⟨_,Heap.get?_push_size _ rfl,rfl,_,rfl⟩⟩
theorem t6(h:PA X es t):PE X (.List es pos) (tLst t):=by
 intro pins s σ H Q I hq;refine wpAny_List_spliced (GE (h pos pins s σ H _ I hq) λus s1 ⟨xs,H1,I1,r,z,q⟩=>⟨by rw[<- r.length];exact z,?_⟩);have hf:H1 s1.heap.objs.size=none:=I1.hok.fresh (G3 _);refine⟨.ref s1.heap.objs.size,GC H1 s1.heap.objs.size (.lst xs),I1.laid (t':=s1.toks) (λb u e=>Heap.get?_push_of_some _ e) (G3 _) ?_,rfl,q _ hf⟩;exact⟨z,us,0,r,Heap.get?_push_size _ rfl⟩
end
abbrev Sp:=List V->Hp->VK->XK->Prop
abbrev CXT:=List Env->Hp->Shared->XK->Value->Shared->Prop
structure Env0(P:Program)(w:World)(K:PySem.W.Frag)(mg:Str->Option Value)(base:Heap)(A:Around)(outer:List Env)(s:Shared)(H:Hp):Prop where
 frames:A.frames=some outer
 mod:Mod K mg base
 bs:∀b o,base.get? b=some o->s.heap.get? b=some o/\H b=none
 bsz:base.objs.size<=s.heap.objs.size
 funs:s.heap.FunFrames base outer
 frf:∀b∈frs outer,H b=none
 hok:GT P w H s.heap
 bare:AllBare s.gens
def CE(outer:List Env)(P:Program)(w:World)(H:Hp)(s:Shared)(Q:VK)(u:Value)(s':Shared):Prop :=
 ∃v H',s'.os=s.os/\AllBare s'.gens/\Un (frs outer) [] H H' s.heap s'.heap/\GT P w H' s'.heap/\bx v u/\Q v H'
def CR(CX:CXT)(outer:List Env)(P:Program)(w:World)(H:Hp)(s:Shared)(Q:VK)(E:XK)(r:Result)(s':Shared):Prop :=
 match r with
 | .ok (.ret u)=>CE outer P w H s Q u s'
 | .ok _=>False
 | .error e=>CX outer H s E e s'
structure kd(P:Program)(w:World)(K:PySem.W.Frag)(mg:Str->Option Value)(base:Heap)(CX:CXT)(k:Nat)(f:Addr)(fd:FuncData)(ps:List Str)(sp:Sp):Prop where
 len:∀vs H Q E,sp vs H Q E->vs.length=ps.length
 run:∀(A:Around) (outer:List Env) (s:Shared) (H:Hp) (args:Args) (us:List Value) (vs:List V) (Q:VK) (E:XK),fK k A->Env0 P w K mg base A outer s H->BindsTo s fd args (ps.zip us)->bn vs us->sp vs H Q E ->
  codeAny (model P w) A (.call (.ref f) args) (CR CX outer P w H s Q E) s
def kd.mono{CX:CXT}{j:Nat}{sp:Sp}(F:kd P w K mg base CX j f fd ps sp)(h:j<=k) :
  kd P w K mg base CX k f fd ps sp:=⟨F.len,λA outer s H args us vs Q E hr=>F.run A outer s H args us vs Q E (hr.mono h)⟩
def kd.imp{CX:CXT}{sp sp':Sp}(F:kd P w K mg base CX k f fd ps sp)
  (h:∀vs H Q E,sp' vs H Q E->sp vs H Q E):kd P w K mg base CX k f fd ps sp' :=
 ⟨λvs H Q E q=>F.len vs H Q E (h _ _ _ _ q),λA outer s H args us vs Q E hr he hb hv hs=>F.run A outer s H args us vs Q E hr he hb hv (h _ _ _ _ hs)⟩
section
variable {X:Cx} {pins:List (Addr×Obj)} {σ:St} {H:Hp} {s s':Shared}
def Inv.env0(I:Inv X pins σ H s):Env0 X.prog X.w X.K X.mg X.base X.A X.stack s H :=
 ⟨I.ok.frames,I.ok.mod,I.bs,G0 I.ok.bsz I.sz,I.stack,I.stkFree,I.hok,I.bare⟩
theorem Inv.after{Q:VK}{u:Value}(I:Inv X pins σ H s)(h:CE X.stack X.prog X.w H s Q u s'):EP X pins σ Q u s':=by
 obtain⟨v,H',os,bare,un,hok,r,q⟩:=h;obtain⟨hh,g,d,t,os'⟩:=s';obtain rfl:os'=s.os:=os;exact⟨v,H',I.call (h':=hh) (g':=g) (d':=d) (t':=t) (ch:=[]) un hok bare (λb z=>absurd z (by simp)),r,q⟩
end
def Fo(sp:Sp)(dvs:List V)(E:XK)(t:TA):TE:=λσ H Q=>t σ H λvs H1=>sp (vs++dvs) H1 Q E
def me(K:PySem.W.Frag)(fd:FuncData)(ps:List Str)(ds:List Value):Prop :=
 ∀(s:Shared) (us:List Value),K.In s.heap->(us++ds).length=ps.length->BindsTo s fd ⟨us,[]⟩ (ps.zip (us++ds))
def me.all(h:∀us:List Value,us.length=ps.length->bindArgs fd ⟨us,[]⟩=pure (ps.zip us)):me K fd ps []:=λs us _ hl=>by
 rw[HJ] at hl ⊢;exact .of_eq (h us hl)
def uv(CX:CXT)(X:Cx)(E:XK):Prop:=∀(pins:List (Addr×Obj)) (σ:St) (H:Hp) (s:Shared) (e:Value) (s':Shared),Inv X pins σ H s->CX X.stack H s E e s'->X.xe e s'
section
variable {X:Cx} {CX:CXT} {k:Nat} {f C:Addr} {fd:FuncData} {ps:List Str} {sp:Sp} {dvs:List V} {ds:List Value} {E:XK} {x m:Str} {p pos apos:Pos} {e o:Expr} {es:List Expr} {ta:TE} {t:TA}
theorem Cv{pins:List (Addr×Obj)}{σ:St}{H:Hp}{s:Shared}{Q:VK}{us:List Value}{vs:List V}(F:kd X.prog X.w X.K X.mg X.base CX k f fd ps sp)(hr:fK k X.A)(hb:me X.K fd ps ds)(hd:bn dvs ds)(hx:uv CX X E)
  (I:Inv X pins σ H s) (r:bn vs us) (h:sp (vs++dvs) H Q E):wpAny (model X.prog X.w) X.A (call (.ref f) us) (EP X pins σ Q) X.xe s:=by
 have r2:bn (vs++dvs) (us++ds):=r.append hd
 have hl:(us++ds).length=ps.length:=by rw[<- r2.length];exact F.len _ _ _ _ h
 refine wpAny_call (JO (F.run X.A X.stack s H ⟨us,[]⟩ (us++ds) (vs++dvs) Q E hr I.env0 (hb s us I.kIn hl) r2 h) λr s' hq=>?_)
 cases r with
 | error e=>exact hx pins σ H s e s' I hq
 | ok fl =>
  cases fl with
  | ret u=>exact I.after hq
  | next=>exact False.elim hq
  | brk=>exact False.elim hq
  | cont=>exact False.elim hq
theorem lM(F:kd X.prog X.w X.K X.mg X.base CX k f fd ps sp)(hr:fK k X.A)(hg:Gl X x)(hm:X.mg x=some (.ref f))(hk:PySem.W.keepIn X.K (.ref f)=true)(hb:me X.K fd ps ds)(hd:bn dvs ds)(hx:uv CX X E)
  (ha:PA X (e::es) t) (hdb:(x==("__debug__":Str))=false:=by decide) (he:starEach (e::es) X.env=(false,eval e X.env)::starEach es X.env:=by rfl) (hpl:(backTo pos (starEach es X.env)).any (·.1)=false:=by rfl) :
  PE X (.Call (.Name x p) (e::es) [] pos) (Fo sp dvs E t):=by
 intro pins s σ H Q I h;refine IV (tK I hg hm ?_ hdb);refine PySem.W.callWith_K (h₀:=X.base) I.ok.mod.kin hk (GE (ha pos pins s σ H _ I h) λus s1 ⟨vs,H1,I1,r,q⟩=>⟨I1.kIn,?_⟩) he hpl;exact Cv F hr hb hd hx I1 r q
end
section
variable {X:Cx} {CX:CXT} {k:Nat} {f C:Addr} {fd:FuncData} {ps ks:List Str} {sp:Sp} {E:XK} {x m:Str} {p pos apos kpos:Pos} {e o:Expr} {es:List Expr} {kws:List Keyword} {te ta:TE} {t tk:TA} {nm:Option Str}
variable {g:List Value→List Value→List Value} {gV:List V→List V→List V}
end
structure aw(N P:List Str)(sc:Scope):Prop where
 kind:sc.kind=.function
 co:sc.isCoroutine=false
 gen:sc.isGenerator=false
 nd:N.Nodup
 pre:N.take P.length=P
 par:∀x∈P,sc.names.lookup x=some .local\/sc.names.lookup x=some .cell
 nofree:∀y∈sc.names,y.2≠.free
theorem lZ{kindOf:Str->Option NameKind}:∀ {binds:List (Str×Value)} {m:Str->Option Value},(∀v,(x,v)∉binds)->bindL kindOf binds m x=m x
 | [],_,_=>rfl
 | (n,v)::r,m,h=>by
  unfold bindL;rw[lZ λw hw=>h w (GY _ hw)]
  split
  ·have:x≠n:=by rintro rfl;exact h v G1
   simp[this]
  ·rfl
theorem mH{kindOf:Str->Option NameKind}:∀ {binds:List (Str×Value)} {m:Str->Option Value},(∀v,(x,v)∉binds)->bindC kindOf binds m x=m x
 | [],_,_=>rfl
 | (n,v)::r,m,h=>by
  unfold bindC;rw[mH λw hw=>h w (GY _ hw)]
  split
  ·rfl
  ·have:x≠n:=by rintro rfl;exact h v G1
   simp[this]
theorem mJ{kindOf:Str->Option NameKind}{v:Value}:∀ {P:List Str} {vs:List Value} {i:Nat} {m:Str->Option Value},P.Nodup->P[i]?=some x->vs[i]?=some v->kindOf x=some .local ->
  bindL kindOf (P.zip vs) m x=some v
 | [],_,_,_,_,h,_,_=>by simp at h
 | _::_,[],_,_,_,_,h,_=>by simp at h
 | p::P,w::vs,0,m,nd,h1,h2,hk=>by
  simp at h1 h2;subst h1;subst h2;show bindL kindOf ((p,w)::P.zip vs) m p=_;unfold bindL;rw[lZ λv hv=>(HM.mp nd).1 (Hv hv).1,Hh hk];simp
 | p::P,w::vs,i+1,m,nd,h1,h2,hk=>by
  show bindL kindOf ((p,w)::P.zip vs) m x=_
  unfold bindL;exact mJ (i:=i) (HM.mp nd).2 (by simpa using h1) (by simpa using h2) hk
theorem ma{kindOf:Str->Option NameKind}{v:Value}:∀ {P:List Str} {vs:List Value} {i:Nat} {m:Str->Option Value},P.Nodup->P[i]?=some x->vs[i]?=some v->kindOf x≠some .local ->
  bindC kindOf (P.zip vs) m x=some v
 | [],_,_,_,_,h,_,_=>by simp at h
 | _::_,[],_,_,_,_,h,_=>by simp at h
 | p::P,w::vs,0,m,nd,h1,h2,hk=>by
  simp at h1 h2;subst h1;subst h2;show bindC kindOf ((p,w)::P.zip vs) m p=_;unfold bindC;rw[mH λv hv=>(HM.mp nd).1 (Hv hv).1,He hk];simp
 | p::P,w::vs,i+1,m,nd,h1,h2,hk=>by
  show bindC kindOf ((p,w)::P.zip vs) m x=_
  unfold bindC;exact ma (i:=i) (HM.mp nd).2 (by simpa using h1) (by simpa using h2) hk
def start(N:List Str)(vs:List V):St:=vs.map some++List.replicate (N.length-vs.length) none
def sY(CX:CXT)(P:Program)(w:World)(K:PySem.W.Frag)(mg:Str->Option Value)(base:Heap)(N:List Str)(qual:Str)(scope:Scope)(f:Addr)(cd:Value)(A:Around)(outer:List Env)(s:Shared)(H:Hp)(E:XK):Cx where
 prog:=P
 w:=w
 K:=K
 mg:=mg
 base:=base
 A:=A.deeper (envOfC qual scope s.heap.objs.size f cd)
 N:=N
 s₀:=s
 H₀:=H
 env:=envOfC qual scope s.heap.objs.size f cd
 outer:=outer
 stack:=envOfC qual scope s.heap.objs.size f cd::outer
 ex:=[]
 calm:=true
 fn:=λ_=>true
 pn:=[]
 xe:=λe s'=>wpAny (model P w) (A.deeper (envOfC qual scope s.heap.objs.size f cd)) (leaving (envOfC qual scope s.heap.objs.size f cd) e) (λ_ s''=>CX outer H s E e s'') (λe' s''=>CX outer H s E e' s'') s'
theorem qo{sc:Scope}{n:Nat}(h:sc.names.lookup x=some .cell):∃c,(cellsFrom n sc.names []).lookup x=some c:=by
 have q:=PySem.W.cellsFrom_some sc.names n [] (.inl h)
 exact Option.isSome_iff_exists.mp q
theorem uG{CX:CXT}{N:List Str}{qual:Str}{scope:Scope}{cd:Value}{outer:List Env}{s s1:Shared}{H:Hp}{E:XK}{us:List Value}{vs:List V}
  (S:aw N ps scope) (hd:A.handled=none) (e0:Env0 P w K mg base A outer s H) (hl:vs.length=ps.length) (r:bn vs us)
  (x:InCallC s s.heap.objs.size (bindL (envOfC qual scope s.heap.objs.size f cd).kindOf (ps.zip us) λ_=>none) (cellsFrom (s.heap.objs.size+1) scope.names []) (bindC (envOfC qual scope s.heap.objs.size f cd).kindOf (ps.zip us) λ_=>none) s1) :
  Inv (sY CX P w K mg base N qual scope f cd A outer s H E) [] (start N vs) H s1:=by
 have hpl:ps.length<=N.length:=by have:=IB List.length S.pre;rw[HI] at this;omega
 obtain⟨h1,tk,rfl,hk⟩:=x.done;have noA:∀b:Addr,b∉(sY CX P w K mg base N qual scope f cd A outer s H E).ex:=λb z=>absurd (show b∈([]:List Addr) from z) (by simp)
 refine⟨⟨e0.mod,S.kind,rfl,rfl,G3 _,λy z c h1 h2=>?_,λy hy=>?_,λy c _ h=>?_,λ_=>hd,Around.frames_deeper e0.frames,.inr ⟨rfl,rfl⟩,λb z=>absurd z (noA b),e0.bs,e0.bsz,λb _ _=>noA b,λb z=>absurd z (noA b),e0.funs,e0.frf⟩,
  rfl,e0.bare,Un.kept hk,⟨_,x.toInCall.ns,λi y v h1 h2 h3=>?_⟩,λy c h=>⟨_,x.cell y c h⟩,e0.hok.fresh (G3 _),λy c h=>?_,λp hp=>absurd (show p∈([]:List (Addr×Obj)) from hp) (by simp),e0.hok.kept hk,?_⟩
 ·exact name_of_addr x.apart (IN h1) (IN h2)
 ·have hy:scope.names.lookup y=some .cell\/scope.names.lookup y=some .free:=hy
  rcases hy with hy | hy
  ·exact qo hy
  ·exact absurd rfl (S.nofree _ (IN hy))
 ·exact IX (x.above y c (IN h))
 ·have hi:i<vs.length:=by
   unfold start at h2
   by_cases hi:i<vs.length
   ·exact hi
   ·rw[List.getElem?_append_right (by simpa using hi)] at h2;rw[List.getElem?_replicate] at h2
    split at h2<;>cases h2
  have ha:vs[i]?=some v:=by
   unfold start at h2;rw[List.getElem?_append_left (by simpa using hi),List.getElem?_map] at h2
   cases e:vs[i]? with
   | none=>rw[e] at h2;cases h2
   | some a=>rw[e] at h2;cases h2;rfl
  obtain⟨u,hu,rv⟩:=r.get ha;have hp:ps[i]?=some y:=by
   rw[<- S.pre,List.getElem?_take_of_lt (by omega)];exact h1
  have ndP:ps.Nodup:=by rw[<- S.pre];exact S.nd.sublist (List.take_sublist _ _)
  refine⟨u,rv,?_⟩
  rcases S.par y (Hc hp) with k | k
  ·exact .inl ⟨k,mJ ndP hp hu k⟩
  ·obtain⟨c,e⟩:=qo (n:=s.heap.objs.size+1) k;refine .inr ⟨.inl k,c,e,?_⟩;have q:=x.cell y c e;rw[ma ndP hp hu (by show scope.names.lookup y≠_;rw[k];decide)] at q;exact q
 ·exact e0.hok.fresh (IX (x.above y c (IN h)))
 ·unfold start;show _=N.length;rw[G8,GW,Hs];omega
theorem FN{CX:CXT}{name qual:Str}{params:Arguments}{body:List Stmt}{scope:Scope}{dV kV doc pm cdv ct oc:Value}{an od:Option Addr}
    {osl:Array (Option Value)} {N ps:List Str} {sp:Sp} (lk:K.lookup f=some ⟨oc,od,.func (PySem.W.fnOf name qual params body scope dV kV doc pm an cdv ct),osl⟩) (hcd:PySem.W.codeIn K cdv qual=true) (S:aw N ps scope)
    (len:∀vs H Q E,sp vs H Q E->vs.length=ps.length)
    (hbody:∀(A:Around) (outer:List Env) (s:Shared) (H:Hp) (vs:List V) (Q:VK) (E:XK),fK k (A.deeper (envOfC qual scope s.heap.objs.size f cdv))->sp vs H Q E ->
      ∃t,PSs (sY CX P w K mg base N qual scope f cdv A outer s H E) body t/\t { nx:=λ_ H'=>Q .non H',rt:=Q } (start N vs) H) :
    kd P w K mg base CX (k+1) f (PySem.W.fnOf name qual params body scope dV kV doc pm an cdv ct) ps sp:=by
  refine⟨len,λA outer s H args us vs Q E hr e0 hb r hsp=>?_⟩;have hl:=len _ _ _ _ hsp;have KX:K.In s.heap:=e0.mod.kin.keeps λb o e=>(e0.bs b o e).1;have lim:s.heap.NoLimit:=e0.mod.nolimit.keeps λb o e=>(e0.bs b o e).1;have hkind:∀y∈ps.zip us,scope.names.lookup y.1=some .local\/(scope.names.lookup y.1=some .cell/\((cellsFrom (s.heap.objs.size+1) scope.names []).lookup y.1).isSome=true):=λ⟨n,v⟩ hy=>by
    rcases S.par n (Hv hy).1 with q | q
    · exact .inl q
    · exact .inr ⟨q,PySem.W.cellsFrom_some _ _ _ (.inl q)⟩
  refine codeAny_call_function hr.depth (KX _ _ lk) rfl S.co S.gen rfl (PySem.W.codeRec_of KX hcd) (hb _ _ _ _ ?_);refine wpAny_newFunctionEnv_cells S.kind hkind λenv he s1 x=>?_;subst he;refine⟨lim.keeps x.toInCall.keep,codeAny_func ?_⟩;obtain⟨t,ht,hq⟩:=hbody A outer s H vs Q E (hr.deeper _) hsp;have I:Inv (sY CX P w K mg base N qual scope f cdv A outer s H E) [] (start N vs) H s1:=uG S hr.hd e0 hl r x;refine Ir (ht [] s1 (start N vs) H _ I hq) (λfl s' hs=>?_) λe s' hs=>hs;have fin:∀ {σ':St} {H':Hp} {v:V} {u:Value},Inv (sY CX P w K mg base N qual scope f cdv A outer s H E) [] σ' H' s'->bx v u->Q v H'->CE outer P w H s Q u s' :=
    λ{σ' H' v u} J rv q=>⟨v,H',J.os,J.bare,J.base,J.hok,rv,q⟩
  cases fl with
  | ret u =>
    obtain⟨v,σ',H',J,rv,q⟩:=hs;exact fin J rv q
  | next =>
    obtain⟨σ',H',J,q⟩:=hs;exact fin (v:=V.non) (u:=Value.none) J rfl q
  | brk =>
    obtain⟨_,_,_,q⟩:=hs;exact False.elim q
  | cont =>
    obtain⟨_,_,_,q⟩:=hs;exact False.elim q
end L2
namespace L2
open PySem PySem.Spec PyProof.Rows
section
variable {X:Cx} {x:Str} {p pos:Pos} {e:Expr} {es:List Expr} {t:TA} {id T:String} {r:List V→Hp→VK→Prop}
def tCB(r:List V->Hp->VK->Prop)(t:TA):TE:=λσ H Q=>t σ H λvs H1=>r vs H1 Q
theorem kJ(hc:bW X (.builtin id) r)(hg:Gl X x)(hm:X.mg x=none)(hv:bootBuiltins x=some (.builtin id))(ha:PA X (e::es) t)(hn:x≠"__name__":=by decide)(hdb:(x==("__debug__":Str))=false:=by decide)
  (he:starEach (e::es) X.env=(false,eval e X.env)::starEach es X.env:=by rfl) (hpl:(backTo pos (starEach es X.env)).any (·.1)=false:=by rfl):PE X (.Call (.Name x p) (e::es) [] pos) (tCB r t):=by
 intro pins s σ H Q I h;refine IV (gd I hg hm hv ?_ hn hdb);exact PyProof.Rows.callWith_builtin1 (GE (ha pos pins s σ H _ I h) λus s1 ⟨vs,H1,I1,r1,q1⟩=>hc pins s1 σ H1 vs us Q I1 r1 q1) he hpl
theorem gk(hc:bW X (.type T) r)(hg:Gl X x)(hm:X.mg x=none)(hv:bootBuiltins x=some (.type T))(ha:PA X (e::es) t)(hn:x≠"__name__":=by decide)(hdb:(x==("__debug__":Str))=false:=by decide)
  (he:starEach (e::es) X.env=(false,eval e X.env)::starEach es X.env:=by rfl) (hpl:(backTo pos (starEach es X.env)).any (·.1)=false:=by rfl):PE X (.Call (.Name x p) (e::es) [] pos) (tCB r t):=by
 intro pins s σ H Q I h;refine IV (gd I hg hm hv ?_ hn hdb);exact HY (GE (ha pos pins s σ H _ I h) λus s1 ⟨vs,H1,I1,r1,q1⟩=>hc pins s1 σ H1 vs us Q I1 r1 q1) he hpl
end
end L2
namespace HT
open PySem PyProof.Rows
section
open PySem.SeqAt
open PySem.AutoSeq1 (wpAny_loadPart')
open PySem.MeetsSeq PySem.MeetsSeq2 PySem.MeetsSeq3
end
section
variable {prog:Program} {w:World} {A:Around} {E:Value→Shared→Prop} {s:Shared}
theorem cat_tup{t b:Addr}{vs ws:List Value}{Q:Value->Shared->Prop}(ht:IsTup s.heap t vs.toArray)(hb:IsTup s.heap b ws.toArray)(hv:vs≠[])
  (h1:ws=[]->Q (.ref t) s) (h2:ws≠[]->Q (.ref s.heap.objs.size) { s with heap:=s.heap.push { cls:=.type "tuple",data:=.seq (vs++ws).toArray } })
  (hsz:vs.length+ws.length<=sizeLine):wpAny (model prog w) A (binaryOp .Add (.ref t) (.ref b)) Q E s:=by
 obtain⟨⟨cls,dd,data,sl⟩,ho,hc,n,hd⟩:=id ht;obtain⟨⟨cls2,dd2,data2,sl2⟩,ho2,hc2,n2,hd2⟩:=id hb;simp only at hc hd hc2 hd2;subst hc hd hc2 hd2;have e:vs.toArray++ws.toArray=(vs++ws).toArray:=by simp
 by_cases hw:ws=[]
 ·exact concat_meets ⟨_,ho,rfl⟩ ⟨_,ho2,rfl⟩ noFill_tuple_add seq_tuple_add PySem.F.slot_tuple_add PySem.F.entry_tuple_add (PySem.F.args_tuple_add_2 _ _)
   (tuple_addW1 t b vs.toArray ws.toArray n n2 dd dd2 sl sl2 (by simpa using hv) (by simp[hw])) ⟨ho,ho2,h1 hw⟩
 ·refine concat_meets ⟨_,ho,rfl⟩ ⟨_,ho2,rfl⟩ noFill_tuple_add seq_tuple_add PySem.F.slot_tuple_add PySem.F.entry_tuple_add (PySem.F.args_tuple_add_2 _ _)
   (tuple_addW2 t b vs.toArray ws.toArray n n2 dd dd2 sl sl2 (by simpa using hv) (by simpa using hw) (by rw[Hu,Hu];exact hsz)) ⟨ho,ho2,?_⟩
  rw[e];exact h2 hw
def sIx(n d:Nat):Option Int->Nat
 | none=>d
 | some v=>if v<0 then (v+(n:Int)).toNat else min v.toNat n
def sIx_none(n d:Nat):sIx n d none=d:=rfl
theorem sIx_nat(n d k:Nat):sIx n d (some (k:Int))=min k n:=by
 show (if (k:Int)<0 then ((k:Int)+(n:Int)).toNat else min (k:Int).toNat n)=min k n
 rw[He (by omega),JJ]
theorem Dc(n d:Nat)(hd:d<=n)(o:Option Int):sIx n d o<=n:=by
 cases o with
 | none=>exact hd
 | some v =>
  show (if v<0 then (v+(n:Int)).toNat else min v.toNat n)<=n
  by_cases hv:v<0
  ·rw[Hh hv];omega
  ·rw[He hv];exact Nat.min_le_right _ _
theorem sW(v:Int)(n d:Nat):(if v<0 then max (v+(n:Int)) 0 else min v (n:Int))=((sIx n d (some v):Nat):Int):=by
 show (if v<0 then max (v+(n:Int)) 0 else min v (n:Int))=(((if v<0 then (v+(n:Int)).toNat else min v.toNat n):Nat):Int)
 by_cases hv:v<0
 ·simp only[if_pos hv];omega
 ·simp only[if_neg hv];omega
theorem sJ(lo hi:Option Int)(n:Nat):Builtin.Slice.sliceAdjust lo hi 1 (n:Int)=(((sIx n 0 lo:Nat):Int),((sIx n n hi:Nat):Int)):=by
 have h1:¬ ((1:Int)<0):=by omega
 unfold Builtin.Slice.sliceAdjust;simp only[h1,if_false];refine Prod.ext ?_ ?_
 ·cases lo with
  | none=>rfl
  | some v=>exact sW v n 0
 ·cases hi with
  | none=>rfl
  | some v=>exact sW v n n
theorem rZ(i j:Nat):Builtin.Slice.slicePlaces (i:Int) (j:Int) 1=j-i:=by
 unfold Builtin.Slice.slicePlaces;have h1:(1:Int)>0:=by omega
 simp only[h1,if_true,Int.ediv_one]
 split<;>omega
theorem kE{v:Value}{o:Option Int}{Q:Option Int->Shared->Prop}(p:IsPart v o)(h:Q o s):wpAny (model prog w) A (Builtin.Slice.slicePartIndex v) Q E s:=by
 cases p with
 | none=>exact slicePart_none h
 | int i t=>exact slicePart_int h
theorem ir{sl:Addr}{vl vu:Value}{lo hi:Option Int}{n:Nat}{Q:Int×Int×Nat->Shared->Prop}(hs:s.heap.IsSliceOf sl vl vu .none)(pl:IsPart vl lo)(pu:IsPart vu hi)
  (h:Q (((sIx n 0 lo:Nat):Int),1,sIx n n hi-sIx n 0 lo) s):wpAny (model prog w) A (Builtin.Slice.sliceApplied (.ref sl) (pure (n:Int))) Q E s:=by
 obtain⟨os,hos,hcs,hds⟩:=id hs;unfold Builtin.Slice.sliceApplied Builtin.Slice.sliceFields;refine GX (GX (Il hos hds (x:=vl) rfl (GX (Il hos hds (x:=vu) rfl (GX (Il hos hds (x:=.none) rfl (G2 ?_)))))));refine GX (slicePart_none ?_);show wpAny _ _ (if ((1:Int)==0)=true then _ else _) _ _ s;rw[He (by decide)];refine GX (kE pl (GX (kE pu (GX (G2 ?_)))));show wpAny _ _ (match Builtin.Slice.sliceAdjust lo hi 1 (n:Int) with | (lo,hi)=>pure (lo,(1:Int),Builtin.Slice.slicePlaces lo hi 1)) _ _ s;rw[sJ lo hi n];show wpAny _ _ (pure (((sIx n 0 lo:Nat):Int),(1:Int),Builtin.Slice.slicePlaces ((sIx n 0 lo:Nat):Int) ((sIx n n hi:Nat):Int) 1)) _ _ s;rw[rZ];exact G2 h
theorem xY(xs:Array Value)(i k:Nat):((List.range k).filterMap λ(m:Nat)=>xs[((i:Int)+(m:Int)*1).toNat]?).toArray=((xs.toList.drop i).take k).toArray:=by
 have e:(λ(m:Nat)=>xs[((i:Int)+(m:Int)*1).toNat]?)=λm=>xs[i+m]?:=by
  funext m
  have:((i:Int)+(m:Int)*1).toNat=i+m:=by omega
  rw[this]
 rw[e];have:=pick_run xs i k;rw[List.filterMap_map] at this;have e2:((λx=>xs[x]?) ∘ λx=>i+x)=λm=>xs[i+m]?:=rfl;rw[e2] at this;rw[this]
theorem getItem_tuple_cut{t sl:Addr}{items:Array Value}{vl vu:Value}{lo hi:Option Int}{Q:Value->Shared->Prop}(ht:IsTup s.heap t items)(hs:s.heap.IsSliceOf sl vl vu .none)(pl:IsPart vl lo)(pu:IsPart vu hi)
  (hw:¬ (sIx items.size 0 lo=0/\sIx items.size items.size hi=items.size))
  (h:Q (.ref s.heap.objs.size) { s with heap:=s.heap.push { cls:=.type "tuple",data:=.seq ((items.toList.drop (sIx items.size 0 lo)).take (sIx items.size items.size hi-sIx items.size 0 lo)).toArray } })
  (hsz:items.size<=sizeLine):wpAny (model prog w) A (getItem (.ref t) (.ref sl)) Q E s:=by
 have htake:sizeOk (.seq ((items.toList.drop (sIx items.size 0 lo)).take (sIx items.size items.size hi-sIx items.size 0 lo)).toArray):=by
  show ((items.toList.drop (sIx items.size 0 lo)).take (sIx items.size items.size hi-sIx items.size 0 lo)).toArray.size<=sizeLine
  rw[Hu,HI,Jq,Hx];omega
 have hj:sIx items.size items.size hi<=items.size:=Dc _ _ (G3 _) hi
 obtain⟨os,hos,hcs,hds⟩:=id hs;have hTs:s.TypeIs (.ref sl) "slice":=⟨os,hos,hcs⟩;unfold getItem
 try with_reducible refine Ib ?_
 first | refine GX (G2 ?_) | skip
 refine GX (wpAny_sequenceKey ht.typeIs (by decide) ?_)
 refine GX (wpAny_callSpecial?_slot (name:=Str.ofString "__getitem__") ht.typeIs PyProof.Rows.slot_tuple_getitem
  (HZ PyProof.Rows.slot_tuple_getitem ht.typeIs entry_tuple_getitem ?_ (args_tuple_getitem _ _)))
 show wpAny _ _ (Builtin.Tuple.tupleItemsOf (.ref t) >>= _) _ _ s
 refine GX (tupleItemsOf_ ht ?_);refine GX (wpAny_typeOf hTs ?_);rw[Hh (by decide)];refine GX (ir hs pl pu ?_);have hno:¬ ((((sIx items.size 0 lo:Nat):Int)==0&&(1:Int)==1&&(sIx items.size items.size hi-sIx items.size 0 lo)==items.size)=true):=by
  intro q;rw[Bool.and_eq_true,Bool.and_eq_true] at q;have q1:((sIx items.size 0 lo:Nat):Int)=0:=eq_of_beq q.1.1;have q2:sIx items.size items.size hi-sIx items.size 0 lo=items.size:=eq_of_beq q.2;exact hw ⟨by omega,by omega⟩
 show wpAny _ _ (if (((sIx items.size 0 lo:Nat):Int)==0&&(1:Int)==1&&(sIx items.size items.size hi-sIx items.size 0 lo)==items.size)=true then _ else _) _ _ s
 rw[He hno,xY]
 first
  | exact GX (m:=Builtin.Tuple.tupleExact _) (HR (G2 ⟨_,rfl,G2 h⟩) htake)
  | exact GX (m:=Builtin.Tuple.tupleExact _) (HR (GX (G2 (G2 ⟨_,rfl,G2 h⟩))) htake)
  | exact GX (GX (m:=Builtin.Tuple.tupleExact _) (HR (G2 (G2 ⟨_,rfl,G2 h⟩)) htake))
  | exact GX (GX (m:=Builtin.Tuple.tupleExact _) (HR (G2 ⟨_,rfl,G2 h⟩) htake))
end
end HT
namespace L2
open PySem PySem.Spec PyProof.Rows
abbrev TO:=St->Hp->(Option Int->Hp->Prop)->Prop
def PO(X:Cx)(e:Option Expr)(t:TO):Prop :=
 ∀(pins:List (Addr×Obj)) (s:Shared) (σ:St) (H:Hp) (Q:Option Int->Hp->Prop),Inv X pins σ H s->t σ H Q ->
  wpAny (model X.prog X.w) X.A (evalPart e X.env) (λu s'=>∃o H',Inv X pins σ H' s'/\IsPart u o/\Q o H') X.xe s
def Bs:TO:=λ_ H Q=>Q none H
def FC(t:TE):TO:=λσ H Q=>t σ H λx H1=>∃i,x=.int i/\Q (some i) H1
section
variable {X:Cx} {e:Expr} {te:TE} {lo hi:Option Expr} {tl th:TO} {pos p2:Pos}
theorem AB:PO X none Bs:=by
 intro pins s σ H Q I h;rw[evalPart_none];exact G2 ⟨none,H,I,.none,h⟩
theorem zR(h:PE X e te):PO X (some e) (FC te):=by
 intro pins s σ H Q I hw;rw[evalPart_some];refine GE (h pins s σ H _ I hw) λu s1 ⟨x,H1,I1,r1,q1⟩=>?_;obtain⟨i,rfl,q⟩:=q1;obtain⟨t,rfl⟩:=r1;exact⟨some i,H1,I1,.int i t,q⟩
def SlR(X:Cx)(r:V->Option Int->Option Int->Hp->VK->Prop):Prop :=
 ∀(pins:List (Addr×Obj)) (s:Shared) (σ:St) (H:Hp) (x:V) (v vl vu:Value) (lo hi:Option Int) (sl:Addr) (Q:VK),Inv X pins σ H s->bx x v->s.heap.IsSliceOf sl vl vu .none->IsPart vl lo->IsPart vu hi->r x lo hi H Q ->
  ∃T id,typeLookup (.type T) "__getitem__"=pure (some (.builtin id))/\s.TypeIs v T/\wpAny (model X.prog X.w) X.A (getItem v (.ref sl)) (EP X pins σ Q) X.xe s
theorem SlR.or{r r':V->Option Int->Option Int->Hp->VK->Prop}(h:SlR X r)(h':SlR X r'):SlR X (λx lo hi H Q=>r x lo hi H Q\/r' x lo hi H Q):=by
 intro pins s σ H x v vl vu lo hi sl Q I rx hs pl pu q
 rcases q with q | q
 ·exact h pins s σ H x v vl vu lo hi sl Q I rx hs pl pu q
 ·exact h' pins s σ H x v vl vu lo hi sl Q I rx hs pl pu q
def tSl(r:V->Option Int->Option Int->Hp->VK->Prop)(te:TE)(tl th:TO):TE:=λσ H Q=>te σ H λx H1=>tl σ H1 λl H2=>th σ H2 λu H3=>r x l u H3 Q
theorem xn{r:V->Option Int->Option Int->Hp->VK->Prop}(hr:SlR X r)(he:PE X e te)(hl:PO X lo tl)(hu:PO X hi th):PE X (.Subscript e (.Slice lo hi none p2) pos) (tSl r te tl th):=by
 intro pins s σ H Q I h;refine Subscript_ (GE (he pins s σ H _ I h) λv s1 ⟨x,H1,I1,r1,q1⟩=>?_);refine wpAny_Slice (GE (hl pins s1 σ H1 _ I1 q1) λvl s2 ⟨l,H2,I2,pl,q2⟩=>GE (hu pins s2 σ H2 _ I2 q2) λvu s3 ⟨u,H3,I3,pu,q3⟩=>?_);rw[evalPart_none];refine G2 ?_;have I4:Inv X pins σ H3 { s3 with heap:=s3.heap.push { cls:=.type "slice",data:=.fields #[vl,vu,.none] } }:=I3.kept (t':=s3.toks) λb ob q=>Heap.get?_push_of_some _ q;obtain⟨T,id,hT,ht,hg⟩:=hr pins { s3 with heap:=s3.heap.push { cls:=.type "slice",data:=.fields #[vl,vu,.none] } } σ H3 x v vl vu l u s3.heap.objs.size Q I4 r1 (Heap.IsSliceOf.new ..) pl pu q3;show wpAny (model X.prog X.w) X.A (subscriptTail e (.Slice lo hi none p2) v (.ref s3.heap.objs.size)) (EP X pins σ Q) X.xe { s3 with heap:=s3.heap.push { cls:=.type "slice",data:=.fields #[vl,vu,.none] } };exact tail_any (ops:=[.ref s3.heap.objs.size,v]) ht hT hg (by with_unfolding_all rfl)
def uz(xs:List V)(lo hi:Option Int):List V:=(xs.drop (HT.sIx xs.length 0 lo)).take (HT.sIx xs.length xs.length hi-HT.sIx xs.length 0 lo)
theorem jG(xs:List V)(lo hi:Option Int):(uz xs lo hi).length<=xs.length:=by
 unfold uz;rw[HI,Jq];omega
def rSlT(K:PySem.W.Frag):V->Option Int->Option Int->Hp->VK->Prop:=λx lo hi H Q=>∃a xs,x=.ref a/\Gy K H a xs /\
 ¬ (HT.sIx xs.length 0 lo=0/\HT.sIx xs.length xs.length hi=xs.length)/\∀p,H p=none->Q (.ref p) (GC H p (.tup (uz xs lo hi)))
theorem CJ:SlR X (rSlT X.K):=by
 intro pins s σ H x v vl vu lo hi sl Q I rx hs pl pu h;obtain⟨a,xs,rfl,hx,hw,q⟩:=h
 cases rx
 obtain⟨its,r,ht,hz⟩:=I.tuple hx;have hlen:its.toArray.size=xs.length:=by rw[Hu];exact r.length.symm
 refine⟨"tuple",_,PyProof.Rows.slot_tuple_getitem.lookup,ht.typeIs,?_⟩;refine HT.getItem_tuple_cut ht hs pl pu (by rw[hlen];exact hw) ?_ (by rw[hlen];exact hz);rw[hlen];refine⟨.ref s.heap.objs.size,_,I.laid (t':=s.toks) (o:=.tup (uz xs lo hi)) (λb ob q=>Heap.get?_push_of_some _ q) (G3 _) ?_,rfl,q _ (I.hok.fresh (G3 _))⟩;exact⟨G0 (jG xs lo hi) hz,_,(r.drop (HT.sIx xs.length 0 lo)).take (HT.sIx xs.length xs.length hi-HT.sIx xs.length 0 lo),IsTup.new _ _⟩
def EL(K:PySem.W.Frag):R2:=λx y H Q=>∃a b xs ys,x=.ref a/\y=.ref b/\Gy K H a xs/\Gy K H b ys/\xs≠[]/\xs.length+ys.length<=sizeLine /\
 (ys=[]->Q (.ref a) H)/\(ys≠[]->∀p,H p=none->Q (.ref p) (GC H p (.tup (xs++ys))))
theorem bn.nil_iff{xs:List V}{us:List Value}(r:bn xs us):us=[]↔xs=[]:=by
 cases r with
 | nil=>simp
 | cons _ _=>simp
theorem AH:GM X (binaryOp .Add) (EL X.K):=by
 intro pins s σ H x y v u Q I rx ry h;obtain⟨a,b,xs,ys,rfl,rfl,ha,hb,hx,hz,q1,q2⟩:=h
 cases rx
 cases ry
 obtain⟨its,r1,p1,_⟩:=I.tuple ha;obtain⟨its2,r2,p2,_⟩:=I.tuple hb;refine HT.cat_tup p1 p2 (λz=>hx (r1.nil_iff.mp z)) (λz=>⟨.ref a,H,I,rfl,q1 (r2.nil_iff.mp z)⟩) (λz=>?_) (by rw[<- r1.length,<- r2.length];exact hz);refine⟨.ref s.heap.objs.size,_,I.laid (t':=s.toks) (o:=.tup (xs++ys)) (λb ob q=>Heap.get?_push_of_some _ q) (G3 _) ?_,rfl,q2 (λw=>z (r2.nil_iff.mpr w)) _ (I.hok.fresh (G3 _))⟩;exact⟨by rw[G8];exact hz,_,r1.append r2,IsTup.new _ _⟩
end
end L2
namespace L2
open PySem PySem.Spec PyProof.Rows
def ixN(n:Nat)(i:Int):Option Nat:=if 0<=i then (if i<n then some i.toNat else none) else if -(n:Int)<=i then some (i+n).toNat else none
def GK{α:Type}(xs:List α)(i:Int):Option α:=(ixN xs.length i).bind λj=>xs[j]?
theorem Bp{n:Nat}{i:Int}{j:Nat}(h:ixN n i=some j):seqIndex? i n=some j/\j<n/\-(n:Int)<=i/\i<n:=by
 unfold ixN at h
 by_cases h0:0<=i
 ·rw[Hh h0] at h
  by_cases h1:i<n
  ·rw[Hh h1] at h;have e:i.toNat=j:=Hg h;exact⟨by rw[seqIndex_of h0 h1,e],by omega,by omega,h1⟩
  ·rw[He h1] at h;cases h
 ·rw[He h0] at h
  by_cases h1:-(n:Int)<=i
  ·rw[Hh h1] at h;have e:(i+n).toNat=j:=Hg h;exact⟨by rw[seqIndex_neg (by omega) h1,e],by omega,h1,by omega⟩
  ·rw[He h1] at h;cases h
theorem oH{α:Type}{xs:List α}{i:Int}{v:α}(h:GK xs i=some v):∃j,seqIndex? i xs.length=some j/\xs[j]?=some v/\j<xs.length/\-(xs.length:Int)<=i/\i<xs.length:=by
 unfold GK at h
 cases e:ixN xs.length i with
 | none=>rw[e] at h;cases h
 | some j =>
  rw[e] at h;obtain⟨h1,h2,h3,h4⟩:=Bp e;exact⟨j,h1,h,h2,h3,h4⟩
theorem wq{α:Type}(xs:List α)(v:α):GK (xs++[v]) (-1)=some v:=by
 have hl:(xs++[v]).length=xs.length+1:=by simp
 have e:ixN (xs++[v]).length (-1)=some xs.length:=by
  unfold ixN;rw[hl,He (by decide),Hh (by omega)]
  congr 1
  omega
 unfold GK;rw[e];show (xs++[v])[xs.length]?=some v;simp
def ub(b:Expr):Prop:=∀o i,subscripted b false o i=operate [o,i] (getItem o i)
def IxR(X:Cx)(r:R2):Prop :=
 ∀(value slice:Expr) (pins:List (Addr×Obj)) (s:Shared) (σ:St) (H:Hp) (x y:V) (v u:Value) (Q:VK),Inv X pins σ H s->bx x v->bx y u->r x y H Q ->
  subscripted slice false v u=operate [v,u] (getItem v u)->wpAny (model X.prog X.w) X.A (subscriptTail value slice v u) (EP X pins σ Q) X.xe s
def MtR(X:Cx)(id:String)(r:V->List V->Hp->VK->Prop):Prop :=
 ∀(pins:List (Addr×Obj)) (s:Shared) (σ:St) (H:Hp) (x:V) (xs:List V) (v:Value) (us:List Value) (Q:VK),Inv X pins σ H s->bx x v->bn xs us->r x xs H Q ->
  wpAny (model X.prog X.w) X.A (call (.builtin id) (v::us)) (EP X pins σ Q) X.xe s
section
variable {X:Cx} {a b:Expr} {ta tb:TE} {pos:Pos}
theorem IxR.or{r r':R2}(h:IxR X r)(h':IxR X r'):IxR X (λx y H Q=>r x y H Q\/r' x y H Q):=by
 intro value slice pins s σ H x y v u Q I rx ry q hs
 rcases q with q | q
 ·exact h value slice pins s σ H x y v u Q I rx ry q hs
 ·exact h' value slice pins s σ H x y v u Q I rx ry q hs
theorem MtR.or{id:String}{r r':V->List V->Hp->VK->Prop}(h:MtR X id r)(h':MtR X id r'):MtR X id (λx xs H Q=>r x xs H Q\/r' x xs H Q):=by
 intro pins s σ H x xs v us Q I rx rs q
 rcases q with q | q
 ·exact h pins s σ H x xs v us Q I rx rs q
 ·exact h' pins s σ H x xs v us Q I rx rs q
theorem Gk{r:R2}(hr:IxR X r)(ha:PE X a ta)(hb:PE X b tb)(hs:ub b):PE X (.Subscript a b pos) (tOp r ta tb):=by
 intro pins s σ H Q I h;exact Subscript_ (binT ha hb I h λv u s2 x y H2 I2 rx ry q=>hr a b pins s2 σ H2 x y v u Q I2 rx ry q (hs _ _))
def rIxL(K:PySem.W.Frag):R2:=λx y H Q=>∃p xs i v,x=.ref p/\y=.int i/\Gz K H p xs/\GK xs i=some v/\Q v H
def rIxT(K:PySem.W.Frag):R2:=λx y H Q=>∃p xs i v,x=.ref p/\y=.int i/\Gy K H p xs/\GK xs i=some v/\Q v H
def rIxS:R2:=λx y H Q=>∃z i c,x=.str z/\y=.int i/\z.length<=sizeLine/\GK z.cps.toList i=some c/\Q (.str ⟨#[c]⟩) H
theorem Au:IxR X (rIxL X.K):=by
 intro value slice pins s σ H x y v u Q I rx ry h hs;obtain⟨p,xs,i,z,rfl,rfl,hq,he,q⟩:=h
 cases rx
 obtain⟨t,rfl⟩:=ry;obtain⟨its,r,pl,hz⟩:=I.list hq;obtain⟨j,h1,h2,h3,h4,h5⟩:=oH he;obtain⟨w,ew,rw'⟩:=r.get h2;have hl:=r.length;have hn:=qg;have fin:EP X pins σ Q w s:=⟨z,H,I,rw',q⟩
 by_cases h0:0<=i
 ·have hj:i.toNat=j:=by
   rw[seqIndex_of h0 h5] at h1;exact Hg h1
  exact item_listR pl.isList h0 (by omega) (by rw[hj];simpa using ew) fin hs
 ·have hj:(i+(its.toArray.size:Int)).toNat=j:=by
   rw[seqIndex_neg (by omega) h4] at h1;rw[Hu,<- hl];exact Hg h1
  exact subscriptTail_builtinR (x:=w) pl.isList.typeIs slot_list_getitem.lookup
   (wpAny_getItem_list_neg (Q:=λr s'=>r=w/\EP X pins σ Q r s') pl.isList (by omega) (by rw[Hu]<;>omega) (by omega) (by rw[hj];simpa using ew) ⟨rfl,fin⟩) hs
theorem CQ:IxR X (rIxT X.K):=by
 intro value slice pins s σ H x y v u Q I rx ry h hs;obtain⟨p,xs,i,z,rfl,rfl,hq,he,q⟩:=h
 cases rx
 obtain⟨t,rfl⟩:=ry;obtain⟨its,r,pl,hz⟩:=I.tuple hq;obtain⟨j,h1,h2,h3,h4,h5⟩:=oH he;obtain⟨w,ew,rw'⟩:=r.get h2;have hl:=r.length;have hn:=qg;have fin:EP X pins σ Q w s:=⟨z,H,I,rw',q⟩;exact subscriptTail_builtinR (x:=w) pl.typeIs slot_tuple_getitem.lookup
  (getItem_tuple (j:=j) (Q:=λr s'=>r=w/\EP X pins σ Q r s') pl (by omega) (by omega) (by rw[Hu,<- hl];exact h1) (by simpa using ew) ⟨rfl,fin⟩) hs
theorem Ej:IxR X rIxS:=by
 intro value slice pins s σ H x y v u Q I rx ry h hs;obtain⟨z,i,c,rfl,rfl,hz,he,q⟩:=h;obtain⟨t,rfl⟩:=rx;obtain⟨t',rfl⟩:=ry;obtain⟨j,h1,h2,h3,h4,h5⟩:=oH he;have hl:z.cps.toList.length=z.length:=by simp[Str.length]
 rw[hl] at h1 h4 h5;have hn:=qg
 exact tail_any (typeIs_str s z t) slot_str_getitem.lookup (getItem_str (c:=c) (by
  have e1:decide (i < -(2 ^ 63:Int))=false:=HA (by omega)
  have e2:decide (i ≥ 2 ^ 63)=false:=HA (by omega)
  rw[e1,e2,Bool.or_false]) (by rw[h1];simpa using h2) ⟨.str ⟨#[c]⟩,H,I.tok _,⟨_,rfl⟩,q⟩) hs
def rIx(K:PySem.W.Frag):R2:=λx y H Q=>rIxL K x y H Q\/rIxT K x y H Q\/rIxS x y H Q
def Du:IxR X (rIx X.K):=Au.or (CQ.or Ej)
theorem Inv.lst{pins:List (Addr×Obj)}{σ:St}{H:Hp}{s:Shared}{p:Addr}{xs:List V}(I:Inv X pins σ H s)(h:H p=some (.lst xs)) :
  ∃(its:List Value) (n:Nat),bn xs its/\s.heap.get? p=some { cls:=.type "list",data:=.seq its.toArray n }/\xs.length<=sizeLine:=by
 obtain⟨z,its,n,r,e⟩:=I.hok p _ h;exact⟨its,n,r,e,z⟩
theorem mB(lo hi:Option Int)(n:Nat):(sliceBounds lo hi none n).1=((HT.sIx n 0 lo:Nat):Int)/\(sliceBounds lo hi none n).2.1=((HT.sIx n n hi:Nat):Int)/\(sliceBounds lo hi none n).2.2=1:=by
 refine⟨?_,?_,rfl⟩
 ·cases lo with
  | none=>simp[sliceBounds,HT.sIx]
  | some i =>
   simp only[sliceBounds,HT.sIx,Option.getD_none,show (1:Int)>0 by decide,if_true]
   by_cases h:i<0
   ·simp only[h,if_true]<;>omega
   ·simp only[h,if_false]<;>omega
 ·cases hi with
  | none=>simp[sliceBounds,HT.sIx]
  | some i =>
   simp only[sliceBounds,HT.sIx,Option.getD_none,show (1:Int)>0 by decide,if_true]
   by_cases h:i<0
   ·simp only[h,if_true]<;>omega
   ·simp only[h,if_false]<;>omega
theorem lx(its:List Value)(lo hi:Option Int):slicePick its.toArray lo hi none=((its.drop (HT.sIx its.length 0 lo)).take (HT.sIx its.length its.length hi-HT.sIx its.length 0 lo)).toArray:=by
 obtain⟨h1,h2,h3⟩:=mB lo hi its.toArray.size;unfold slicePick;rw[h1,h2,h3];simp only[sliceRange_one,pick_run,List.size_toArray]<;>rfl
def rSlL(K:PySem.W.Frag):V->Option Int->Option Int->Hp->VK->Prop:=λx lo hi H Q=>∃a xs,x=.ref a/\Gz K H a xs/\∀p,H p=none->Q (.ref p) (GC H p (.lst (uz xs lo hi)))
theorem zG:SlR X (rSlL X.K):=by
 intro pins s σ H x v vl vu lo hi sl Q I rx hs pl pu h;obtain⟨a,xs,rfl,hx,q⟩:=h
 cases rx
 obtain⟨its,r,ht,hz⟩:=I.list hx;have hlen:=r.length;refine⟨"list",_,slot_list_getitem.lookup,ht.isList.typeIs,?_⟩;refine wpAny_getItem_list_slice ht.isList hs pl pu .none (by simp) ?_ (by rw[Hu]<;>omega)
 rw[lx,<- hlen];refine⟨.ref s.heap.objs.size,_,I.laid (t':=s.toks) (o:=.lst (uz xs lo hi)) (λb ob q=>Heap.get?_push_of_some _ q) (G3 _) ?_,rfl,q _ (I.hok.fresh (G3 _))⟩;exact⟨G0 (jG xs lo hi) hz,_,0,(r.drop (HT.sIx xs.length 0 lo)).take (HT.sIx xs.length xs.length hi-HT.sIx xs.length 0 lo),Heap.get?_push_size _ rfl⟩
def CW:V->Bool
 | .non=>true
 | .bl _=>true
 | .int _=>true
 | .str _=>true
 | _=>false
def eqV:V->V->Bool
 | .non,.non=>true
 | .bl a,.bl b=>a==b
 | .bl a,.int b=>(if a then 1 else 0)==b
 | .int a,.bl b=>a==(if b then 1 else 0)
 | .int a,.int b=>a==b
 | .str a,.str b=>a==b
 | _,_=>false
theorem pI{A:Around}{s:Shared}{y x:V}{u v:Value}(ry:bx y u)(rx:bx x v)(fy:CW y=true)(fx:CW x=true):SeqAt.EqAt A s u v (eqV y x):=by
 cases y with
 | non =>
  cases ry
  cases x with
  | non=>cases rx;exact Jx _
  | bl b=>cases rx;exact SeqAt.EqAt.none_bool b
  | int b=>obtain⟨t,rfl⟩:=rx;exact SeqAt.EqAt.none_int b t
  | str b=>obtain⟨t,rfl⟩:=rx;exact SeqAt.EqAt.none_str b t
  | _=>exact absurd (show false=true from fx) G4
 | bl a =>
  cases ry
  cases x with
  | non=>cases rx;exact SeqAt.EqAt.bool_none a
  | bl b=>cases rx;exact SeqAt.EqAt.bool_bool a b
  | int b=>obtain⟨t,rfl⟩:=rx;exact SeqAt.EqAt.bool_int a b t
  | str b=>obtain⟨t,rfl⟩:=rx;exact SeqAt.EqAt.bool_str a b t
  | _=>exact absurd (show false=true from fx) G4
 | int a =>
  obtain⟨t',rfl⟩:=ry
  cases x with
  | non=>cases rx;exact SeqAt.EqAt.int_none a t'
  | bl b=>cases rx;exact SeqAt.EqAt.int_bool a t' b
  | int b=>obtain⟨t,rfl⟩:=rx;exact SeqAt.EqAt.int_int a t' b t
  | str b=>obtain⟨t,rfl⟩:=rx;exact SeqAt.EqAt.int_str a t' b t
  | _=>exact absurd (show false=true from fx) G4
 | str a =>
  obtain⟨t',rfl⟩:=ry
  cases x with
  | non=>cases rx;exact SeqAt.EqAt.str_none a t'
  | bl b=>cases rx;exact SeqAt.EqAt.str_bool a t' b
  | int b=>obtain⟨t,rfl⟩:=rx;exact SeqAt.EqAt.str_int a t' b t
  | str b=>obtain⟨t,rfl⟩:=rx;exact Jy a t' b t
  | _=>exact absurd (show false=true from fx) G4
 | _=>exact absurd (show false=true from fy) G4
theorem gY:bW X (.builtin "len") (λxs H Q=>∃p ys,xs=[.ref p]/\(Gz X.K H p ys\/Gy X.K H p ys)/\Q (.int ys.length) H):=by
 intro pins s σ H xs us Q I r h;obtain⟨p,ys,rfl,hq,q⟩:=h;obtain⟨u,rfl,rx⟩:=fk r
 cases rx
 have hn:=qg
 rcases hq with hq | hq
 ·obtain⟨its,r',pl,hz⟩:=I.list hq;have hlen:=r'.length;exact Calls.call_len_list pl.isList (by simp only[List.size_toArray]<;>omega) ⟨.int ys.length,H,I.tok _,⟨s.toks+1,by rw[Hu,hlen]⟩,q⟩
 ·obtain⟨its,r',pl,hz⟩:=I.tuple hq;have hlen:=r'.length;exact len_tuple pl (by simp only[List.size_toArray]<;>omega) ⟨.int ys.length,H,I.tok _,⟨s.toks+1,by rw[Hu,hlen]⟩,q⟩
theorem bW.or{f:Value}{r r':List V->Hp->VK->Prop}(h:bW X f r)(h':bW X f r'):bW X f (λxs H Q=>r xs H Q\/r' xs H Q):=by
 intro pins s σ H xs us Q I rs q
 rcases q with q | q
 ·exact h pins s σ H xs us Q I rs q
 ·exact h' pins s σ H xs us Q I rs q
theorem fT:bW X (.type "tuple") (λxs H Q=>∃p ys,xs=[.ref p]/\((Gz X.K H p ys/\∀l,H l=none->Q (.ref l) (GC H l (.tup ys)))\/(Gy X.K H p ys/\Q (.ref p) H))):=by
 intro pins s σ H xs us Q I r h;obtain⟨p,ys,rfl,h⟩:=h;obtain⟨u,rfl,rx⟩:=fk r
 cases rx
 rcases h with⟨hq,q⟩ | ⟨hq,q⟩
 ·obtain⟨its,r',pl,hz⟩:=I.list hq;have hlen:=r'.length;refine call_tuple_list pl.isList (λh' kp=>?_) (by simp only[List.size_toArray]<;>omega)
  have I1:Inv X pins σ H { s with heap:=h' }:=I.kept (t':=s.toks) kp
  have I2:Inv X pins σ (GC H h'.objs.size (.tup ys)) { s with heap:=h'.push { cls:=.type "tuple",data:=.seq its.toArray } } :=
   I1.laid (t':=s.toks) (λb o e=>Heap.get?_push_of_some _ e) (G3 _) (show bN X.prog X.w _ _ _ (.tup ys) from⟨hz,its,r',IsTup.new _ _⟩)
  exact⟨.ref h'.objs.size,_,I2,rfl,q _ (I1.hok.fresh (G3 _))⟩
 ·obtain⟨its,r',pl,hz⟩:=I.tuple hq;exact call_tuple_same pl ⟨.ref p,H,I,rfl,q⟩
def tyV(K:PySem.W.Frag)(T:String)(x:V)(H:Hp):Prop:=match x with
 | .str _=>T="str"
 | .int _=>T="int"
 | .ref p=>(T="list"/\∃xs,Gz K H p xs)\/(T="tuple"/\∃o,K.lookup p=some o/\o.cls=.type "tuple"/\o.dict=none) \/
   (T="dict"/\((∃kvs,H p=some (.dK kvs))\/∃kvs,H p=some (.dT kvs)))\/(T="set"/\∃S n,H p=some (.set S n))
 | _=>False
theorem yO{pins:List (Addr×Obj)}{σ:St}{H:Hp}{s:Shared}{T:String}{x:V}{v:Value}(I:Inv X pins σ H s)(r:bx x v)(ty:tyV X.K T x H) :
  s.TypeIs v T/\∀a,v=.ref a->∃ob,s.heap.get? a=some ob/\ob.dict=none:=by
 cases x with
 | str z =>
  obtain⟨t,rfl⟩:=r
  cases (show T="str" from ty)
  exact⟨typeIs_str s z t,λ_ e=>nomatch e⟩
 | int i =>
  obtain⟨t,rfl⟩:=r
  cases (show T="int" from ty)
  exact⟨typeIs_int s i t,λ_ e=>nomatch e⟩
 | ref p =>
  cases r
  rcases ty with⟨rfl,xs,hq⟩ | ⟨rfl,o,hk,hc,hd⟩ | ⟨rfl,hk⟩ | ⟨rfl,S,n,hk⟩
  ·obtain⟨its,_,pl,_⟩:=I.list hq;refine⟨pl.isList.typeIs,λa e=>?_⟩
   cases e
   obtain⟨o,n,e,c,hd,_⟩:=pl;exact⟨o,e,hd⟩
  ·refine⟨⟨o,I.kIn p o hk,hc⟩,λa e=>?_⟩
   cases e
   exact⟨o,I.kIn _ o hk,hd⟩
  ·have z:∃o,s.heap.get? p=some o/\o.ExactDict:=by
    rcases hk with⟨kvs,hk⟩ | ⟨kvs,hk⟩
    ·obtain⟨_,_,_,_,o,_,_,e,ex,_⟩:=I.hok p _ hk;exact⟨o,e,ex⟩
    ·obtain⟨_,_,_,_,o,_,_,e,ex,_⟩:=I.hok p _ hk;exact⟨o,e,ex⟩
   obtain⟨o,e,ex⟩:=z;refine⟨⟨o,e,ex.1⟩,λa e2=>?_⟩
   cases e2
   exact⟨o,e,ex.2.1⟩
  ·obtain⟨o,_,_,_,e,ex,_⟩:=I.hok p _ hk;refine⟨⟨o,e,ex.1⟩,λa e2=>?_⟩
   cases e2
   exact⟨o,e,ex.2.1⟩
 | _=>exact False.elim ty
def tBM0(K:PySem.W.Frag)(T:String)(r:V->List V->Hp->VK->Prop)(to:TE):TE:=λσ H Q=>to σ H λx H1=>tyV K T x H1/\r x [] H1 Q
def tBM(K:PySem.W.Frag)(T:String)(r:V->List V->Hp->VK->Prop)(to:TE)(t:TA):TE:=λσ H Q=>to σ H λx H1=>tyV K T x H1/\t σ H1 λxs H2=>r x xs H2 Q
variable {o e:Expr} {es:List Expr} {to:TE} {t:TA} {name:Str} {apos cpos:Pos} {T id:String} {r:V→List V→Hp→VK→Prop}
theorem EC(pa:PlainAttrs T)(slot:Slot T name id)(hty:typeOf (.builtin id)=pure (.type "method_descriptor"))(hm:MtR X id r)(ho:PE X o to)
  (hbase:attributeBase o name X.env (eval o X.env)=eval o X.env:=by rfl) (hline:(apos.endLine==cpos.line)=true:=by rfl):PE X (.Call (.Attribute o name apos) [] [] cpos) (tBM0 X.K T r to):=by
 intro pins s σ H Q I h;refine wpAny_Call_method0_late hbase hline (GE (ho pins s σ H _ I h) λv s1 ⟨x,H1,I1,r1,ty,q1⟩=>?_);obtain⟨h1,h2⟩:=yO I1 r1 ty;exact⟨T,id,pa,slot,hty,h1,h2,JE rfl (PySem.evalArgs_none (hm pins s1 σ H1 x [] v [] Q I1 r1 .nil q1))⟩
theorem yc(pa:PlainAttrs T)(slot:Slot T name id)(hty:typeOf (.builtin id)=pure (.type "method_descriptor"))(hm:MtR X id r)(ho:PE X o to)(ha:PA X (e::es) t)
    (hbase:attributeBase o name X.env (eval o X.env)=eval o X.env:=by rfl)
    (hfew:((backTo cpos (starEach (e::es) X.env)).all (λx=>!x.1)&&(backToKw cpos (keywordEach [] X.env)).all (λx=>x.1.isSome)
      && decide ((e::es).length+([]:List Keyword).length+(if ([]:List Keyword).isEmpty then 0 else 1)<30))=true:=by rfl)
    (hline:(apos.endLine==cpos.line)=true:=by rfl) (hs:starEach (e::es) X.env=(false,eval e X.env)::starEach es X.env:=by rfl) (hplain:(backTo cpos (starEach es X.env)).any (·.1)=false:=by rfl) :
    PE X (.Call (.Attribute o name apos) (e::es) [] cpos) (tBM X.K T r to t):=by
  intro pins s σ H Q I h;refine wpAny_Call_method_late hbase hfew hline rfl (GE (ho pins s σ H _ I h) λv s1 ⟨x,H1,I1,r1,ty,q1⟩=>?_);obtain⟨h1,h2⟩:=yO I1 r1 ty;refine⟨T,id,pa,slot,hty,h1,h2,?_⟩;have hA:=ha cpos pins s1 σ H1 _ I1 q1;rw[hs] at hA ⊢;refine JE (by show (false||(backTo cpos (starEach es X.env)).any (·.1))=false;rw[hplain]<;>rfl) (Calls.evalArgs_plain ?_)
  exact GE hA λus s2 ⟨vs,H2,I2,r2,q2⟩=>hm pins s2 σ H2 x vs v us Q I2 r1 r2 q2
end
end L2
namespace L2
open PySem PySem.Spec PyProof.Rows
def MtM(X:Cx)(id:String)(r:V->List V->Hp->VK->Prop):Prop :=
 ∀(pins:List (Addr×Obj)) (s:Shared) (σ:St) (H:Hp) (x:V) (xs:List V) (v:Value) (us:List Value) (Q:VK),Inv X pins σ H s->bx x v->bn xs us->r x xs H Q ->
  wpAny (model X.prog X.w) X.A (call (.builtin id) (v::us)) (EP X pins σ Q) X.xe s
def bn.one:∀ {x:V} {us:List Value},bn [x] us->∃u,us=[u]/\bx x u
 | _,_,.cons r .nil=>⟨_,rfl,r⟩
def bn.two:∀ {x y:V} {us:List Value},bn [x,y] us->∃u v,us=[u,v]/\bx x u/\bx y v
 | _,_,_,.cons r (.cons q .nil)=>⟨_,_,rfl,r,q⟩
def bn.eraseIdx:∀ {xs:List V} {us:List Value} (i:Nat),bn xs us->bn (xs.eraseIdx i) (us.eraseIdx i)
 | _,_,_,.nil=>.nil
 | _,_,0,.cons _ t=>t
 | _,_,i+1,.cons r t=>.cons r (bn.eraseIdx i t)
theorem bn.reverse{xs:List V}{us:List Value}(h:bn xs us):bn xs.reverse us.reverse:=by
 induction h with
 | nil=>exact .nil
 | cons r t ih=>rw[List.reverse_cons,List.reverse_cons];exact bn.append ih (.cons r .nil)
theorem mM{α:Type}:∀(l:List α) (i:Nat),(l.eraseIdx i).length<=l.length
 | [],_=>G3 _
 | _::_,0=>JK _
 | _::r,i+1=>JT (mM r i)
section
variable {X:Cx} {pins:List (Addr×Obj)} {σ:St} {H:Hp} {s:Shared} {l b:Addr} {xs ys zs:List V}
theorem Inv.lset{its its':List Value}{n:Nat}{f:Array Value->Array Value}{t':Nat}(I:Inv X pins σ H s)(hH:H l=some (.lst xs))
  (e:s.heap.get? l=some { cls:=.type "list",data:=.seq its.toArray n }) (hf:f its.toArray=its'.toArray) (hv:bn ys its') (hz:ys.length<=sizeLine) :
  Inv X pins σ (GC H l (.lst ys)) { s with heap:=s.heap.update l (Obj.mapSeq f),toks:=t' }:=by
 have q:=PySem.IsL.update e f
 rw[hf] at q;refine I.write (x:=l) (e:=l) (by rw[hH];exact trivial) (.inl rfl) (λb' u hb hu=>(Heap.get?_update_other s.heap (Obj.mapSeq f) (J8 hb)).trans hu) ⟨_,q⟩ ?_;exact⟨hz,its',_,hv,q⟩
def Inv.lnew{its:List Value}{t':Nat}(I:Inv X pins σ H s)(hv:bn ys its)(hz:ys.length<=sizeLine) :
  Inv X pins σ (GC H s.heap.objs.size (.lst ys)) { s with heap:=s.heap.push { cls:=.type "list",data:=.seq its.toArray },toks:=t' } :=
 I.laid (λ_ _ q=>Heap.get?_push_of_some _ q) (G3 _) ⟨hz,its,0,hv,Heap.get?_push_size _ rfl⟩
def Inv.fresh(I:Inv X pins σ H s):H s.heap.objs.size=none:=I.hok.fresh (G3 _)
theorem Inv.lstM(I:Inv X pins σ H s)(hH:H l=some (.lst xs)):xs.length<=sizeLine/\∃(its:List Value) (n:Nat),bn xs its/\xs.length=its.length/\s.heap.get? l=some { cls:=.type "list",data:=.seq its.toArray n }:=by
 obtain⟨z,its,n,r,e⟩:=I.hok l _ hH;exact⟨z,its,n,r,r.length,e⟩
theorem xF{n:Nat}(h:n<=sizeLine):Builtin.List.listTooLong n=false:=by
 unfold Builtin.List.listTooLong;exact HA (by omega)
end
section
variable {X:Cx}
def Bh:V->List V->Hp->VK->Prop:=λx vs H Q=>∃l xs y,x=.ref l/\vs=[y]/\H l=some (.lst xs)/\xs.length<sizeLine/\Q .non (GC H l (.lst (xs++[y])))
theorem mi:MtM X "list.append" Bh:=by
 intro pins s σ H x vs v us Q I rx rv h;obtain⟨l,xs,y,rfl,rfl,hH,hz,q⟩:=h
 cases rx
 obtain⟨u,rfl,ru⟩:=rv.one;obtain⟨z,its,n,r,hl,e⟩:=I.lstM hH;refine call_meets F.slot_list_append ⟨_,e,rfl⟩ F.entry_list_append (F.args_list_append_2 _ _) (PySem.list_append l its.toArray n u (by rw[Hu];omega)) ⟨e,?_⟩;refine⟨.non,_,I.lset (its':=its++[u]) hH e (by simp) (r.append (.cons ru .nil)) ?_,rfl,q⟩;rw[G8,IG];omega
def zD:V->List V->Hp->VK->Prop:=λx vs H Q=>∃l b xs zs,x=.ref l/\vs=[.ref b]/\H l=some (.lst xs)/\H b=some (.lst zs)/\xs.length+zs.length<=sizeLine/\Q .non (GC H l (.lst (xs++zs)))
theorem mt_extend:MtM X "list.extend" zD:=by
 intro pins s σ H x vs v us Q I rx rv h;obtain⟨l,b,xs,zs,rfl,rfl,hH,hB,hz,q⟩:=h
 cases rx
 obtain⟨u,rfl,ru⟩:=rv.one
 cases ru
 obtain⟨z,its,n,r,hl,e⟩:=I.lstM hH;obtain⟨z2,its2,n2,r2,hl2,e2⟩:=I.lstM hB;have hsz:its.toArray.size+its2.toArray.size<=sizeLine:=by rw[Hu,Hu];omega
 have hlong:¬ (!its.toArray.isEmpty&&Builtin.List.listTooLong (its.toArray.size+its2.toArray.size))=true:=by
  rw[xF hsz,Bool.and_false];exact G4
 refine call_meets F.slot_list_extend ⟨_,e,rfl⟩ F.entry_list_extend (F.args_list_extend_2 _ _)
  (AutoSeq1.list_extend_list_list_0 l its.toArray n b its2.toArray n2 hlong (by rw[Hu];omega) (by omega)) ⟨e,e2,?_⟩
 refine⟨.non,_,I.lset (its':=its++its2) hH e (by simp) (r.append r2) ?_,rfl,q⟩;rw[G8];omega
def CL:V->List V->Hp->VK->Prop:=λx vs H Q=>∃l xs i k y,x=.ref l/\vs=[.int i]/\H l=some (.lst xs)/\-(2 ^ 63)<=i/\i<2 ^ 63/\seqIndex? i xs.length=some k/\xs[k]?=some y/\Q y (GC H l (.lst (xs.eraseIdx k)))
theorem ya:MtM X "list.pop" CL:=by
 intro pins s σ H x vs v us Q I rx rv h;obtain⟨l,xs,i,k,y,rfl,rfl,hH,h1,h2,hk,hy,q⟩:=h
 cases rx
 obtain⟨u,rfl,ru⟩:=rv.one;obtain⟨t,rfl⟩:=ru;obtain⟨z,its,n,r,hl,e⟩:=I.lstM hH;obtain⟨w,hw,rw'⟩:=r.get hy;refine call_meets F.slot_list_pop ⟨_,e,rfl⟩ F.entry_list_pop (F.args_list_pop_2 _ _)
  (MeetsSeq.list_pop_at l its.toArray n i t k w (fitsIndex_both h1 h2) (by rw[Hu,<- hl];exact hk) (by rw[<- Array.getElem?_toList];exact hw) (by rw[Hu];omega)) ⟨e,?_⟩
 refine⟨y,_,I.lset (its':=its.eraseIdx k) hH e ?_ (r.eraseIdx k) ?_,rw',q⟩
 ·show its.toArray.eraseIdxIfInBounds k=(its.eraseIdx k).toArray
  rw[List.eraseIdxIfInBounds_toArray]
 ·have:=mM xs k
  omega
def rCat:R2:=λx y H Q=>∃l b xs zs,x=.ref l/\y=.ref b/\H l=some (.lst xs)/\H b=some (.lst zs)/\xs.length+zs.length<=sizeLine/\∀p,H p=none->Q (.ref p) (GC H p (.lst (xs++zs)))
theorem DR:GM X (binaryOp .Add) rCat:=by
 intro pins s σ H x y v u Q I rx ry h;obtain⟨l,b,xs,zs,rfl,rfl,hH,hB,hz,q⟩:=h
 cases rx
 cases ry
 obtain⟨z,its,n,r,hl,e⟩:=I.lstM hH;obtain⟨z2,its2,n2,r2,hl2,e2⟩:=I.lstM hB;refine PySem.P.add_list e e2 ?_ (by rw[Hu,Hu];omega);have ea:its.toArray++its2.toArray=(its++its2).toArray:=by simp
 rw[ea];exact⟨.ref _,_,I.lnew (t':=s.toks) (r.append r2) (by rw[G8];omega),rfl,q _ I.fresh⟩
end
section
variable {prog:Program} {w:World} {A:Around} {E:Value→Shared→Prop} {s:Shared}
set_option maxRecDepth 100000 in
end
section
variable {X:Cx}
end
end L2
namespace L2
open PySem PySem.Spec PyProof.Rows
variable {P:Program} {w:World} {u:Value} {H H':Hp} {xs:List (List Gr×Addr×Value)} {y:V} {kvs:List (Gr×V)} {Q:Value→Shared→Prop} {s:Shared} {pos:Pos} {X:Cx}
section
variable {κ:Type} [DecidableEq κ]
def qp(kvs:List (κ×V))(k:κ):Option V:=(kvs.find? λkv=>decide (kv.1=k)).map (·.2)
def ky(kvs:List (κ×V))(k:κ)(v:V):List (κ×V) :=
 if (kvs.any λkv=>decide (kv.1=k))=true then kvs.map (λkv=>if kv.1=k then (kv.1,v) else kv) else kvs++[(k,v)]
def CF(kvs:List (κ×V))(k:κ):List (κ×V):=kvs.filter λkv=>decide (kv.1≠k)
theorem iJ{p:κ×V}{r:List (κ×V)}{k:κ}(e:p.1=k):qp (p::r) k=some p.2:=by simp[qp,List.find?_cons,e]
theorem iL{p:κ×V}{r:List (κ×V)}{k:κ}(e:¬ p.1=k):qp (p::r) k=qp r k:=by simp[qp,List.find?_cons,e]
theorem pQ(k:κ):∀kvs:List (κ×V),(kvs.any λkv=>decide (kv.1=k))=(qp kvs k).isSome
 | []=>rfl
 | p::r=>by
  rw[JX]
  by_cases e:p.1=k
  ·simp only[iJ e,decide_eq_true e,Bool.true_or,Option.isSome_some]
  ·rw[iL e,HA e,Bool.false_or];exact pQ k r
theorem eZ(kvs:List (κ×V))(k:κ)(v:V):(ky kvs k v).length<=kvs.length+1:=by
 unfold ky
 split
 ·rw[GW];omega
 ·rw[G8,Ha,List.length_nil];omega
theorem sG.isSome_eq{o:Option V}{u:Option Value}(r:sG o u):o.isSome=u.isSome:=by
 cases o with
 | none=>cases u with
  | none=>rfl
  | some _=>exact(show False from r).elim
 | some _=>cases u with
  | none=>exact(show False from r).elim
  | some _=>rfl
theorem sG.getD{o:Option V}{u:Option Value}{d:V}{d':Value}(r:sG o u)(rd:bx d d'):bx (o.getD d) (u.getD d'):=by
 cases o with
 | none=>cases u with
  | none=>exact rd
  | some _=>exact(show False from r).elim
 | some _=>cases u with
  | none=>exact(show False from r).elim
  | some _=>exact r
theorem KV.val{kvs:List (κ×V)}{vs:List (κ×Value)}(r:KV kvs vs)(k:κ):sG (qp kvs k) (valueAt vs k):=by
 unfold KV at r
 induction r with
 | nil=>exact True.intro
 | @cons p q ps qs h t ih =>
  obtain⟨h1,h2⟩:=h
  by_cases e:p.1=k
  ·have e':q.1=k:=h1.symm.trans e
   have b:valueAt (q::qs) k=some q.2:=by simp[valueAt,List.find?_cons,e']
   rw[iJ e,b];exact h2
  ·have e':¬ q.1=k:=λz=>e (h1.trans z)
   have b:valueAt (q::qs) k=valueAt qs k:=by simp[valueAt,List.find?_cons,e']
   rw[iL e,b];exact ih
theorem KV.any{kvs:List (κ×V)}{vs:List (κ×Value)}(r:KV kvs vs)(k:κ):(kvs.any λkv=>decide (kv.1=k))=vs.any λkv=>decide (kv.1=k):=by
 unfold KV at r
 induction r with
 | nil=>rfl
 | cons h t ih=>rw[JX,JX,ih,h.1]
theorem KV.repl{kvs:List (κ×V)}{vs:List (κ×Value)}(r:KV kvs vs)(k:κ){y:V}{u:Value}(ry:bx y u) :
  KV (kvs.map λkv=>if kv.1=k then (kv.1,y) else kv) (vs.map λkv=>if kv.1=k then (kv.1,u) else kv):=by
 unfold KV at r ⊢
 induction r with
 | nil=>exact .nil
 | @cons p q ps qs h t ih =>
  rw[Hm,Hm];refine .cons ?_ ih;obtain⟨h1,h2⟩:=h
  by_cases e:p.1=k
  ·rw[Hh e,Hh (h1.symm.trans e)];exact⟨h1,ry⟩
  ·rw[He e,He (λz=>e (h1.trans z))];exact⟨h1,h2⟩
theorem KV.put{kvs:List (κ×V)}{vs:List (κ×Value)}(r:KV kvs vs)(k:κ){y:V}{u:Value}(ry:bx y u):KV (ky kvs k y) (stored vs k u):=by
 unfold ky stored;rw[r.any k]
 by_cases e:(vs.any λkv=>decide (kv.1=k))=true
 ·rw[Hh e,Hh e];exact r.repl k ry
 ·rw[He e,He e];exact Paired.snoc r ⟨rfl,ry⟩
theorem KV.drop{kvs:List (κ×V)}{vs:List (κ×Value)}(r:KV kvs vs)(k:κ):KV (CF kvs k) (without vs k):=by
 unfold KV at r ⊢;unfold CF without
 induction r with
 | nil=>exact .nil
 | @cons p q ps qs h t ih =>
  obtain⟨h1,h2⟩:=h;rw[List.filter_cons,List.filter_cons]
  by_cases e:p.1=k
  ·have a:¬ decide (p.1≠k)=true:=by simp[e]
   have b:¬ decide (q.1≠k)=true:=by simp[h1.symm.trans e]
   rw[He a,He b];exact ih
  ·have e':¬ q.1=k:=λz=>e (h1.trans z)
   have a:decide (p.1≠k)=true:=by simp[e]
   have b:decide (q.1≠k)=true:=by simp[e']
   rw[Hh a,Hh b];exact .cons ⟨h1,h2⟩ ih
theorem KV.keys{kvs:List (κ×V)}{vs:List (κ×Value)}(r:KV kvs vs):kvs.map (·.1)=vs.map (·.1):=by
 unfold KV at r
 induction r with
 | nil=>rfl
 | cons h t ih=>rw[Hm,Hm,ih,h.1]
def KV.length{kvs:List (κ×V)}{vs:List (κ×Value)}(r:KV kvs vs):kvs.length=vs.length:=Paired.length r
end
theorem nH{k:Gr}(r:bx (kV k) u):(aX P w).is k u=true:=by
 cases k with
 | inl i=>obtain⟨t,e⟩:=(show ∃t,u=Value.int i t from r);subst e;exact oV P w i t
 | inr x=>obtain⟨t,e⟩:=(show ∃t,u=Value.str x t from r);subst e;exact oU P w x t
theorem mW:∀ {ks:List Gr} {us:List Value},bn (ks.map kV) us->ItemsAre (aX P w) ks us
 | [],_,r=>by rw[Jv] at r;cases r;exact .nil
 | k::ks,_,r=>by
  rw[Hm] at r
  cases r with
  | cons h t=>exact .cons (nH h) (mW t)
abbrev KT(H:Hp):List (List Gr×V)->List (List Gr×Addr×Value)->Prop:=Paired λp q=>p.1=q.1/\H q.2.1=some (.tup (p.1.map kV))/\bx p.2 q.2.2
theorem KT.val{kvs:List (List Gr×V)}(r:KT H kvs xs)(k:List Gr):sG (qp kvs k) ((atKey xs k).map (·.2)):=by
 induction r with
 | nil=>exact True.intro
 | @cons p q ps qs h t ih =>
  obtain⟨h1,_,h2⟩:=h
  by_cases e:p.1=k
  ·have e':q.1=k:=h1.symm.trans e
   have b:atKey (q::qs) k=some q.2:=by simp[atKey,List.find?_cons,e']
   rw[iJ e,b];exact h2
  ·have e':¬ q.1=k:=λz=>e (h1.trans z)
   have b:atKey (q::qs) k=atKey qs k:=by simp[atKey,List.find?_cons,e']
   rw[iL e,b];exact ih
theorem KT.repl{kvs:List (List Gr×V)}(r:KT H kvs xs)(k:List Gr)(ry:bx y u) :
  KT H (kvs.map λkv=>if kv.1=k then (kv.1,y) else kv) (xs.map (putAt k u)):=by
 induction r with
 | nil=>exact .nil
 | @cons p q ps qs h t ih =>
  rw[Hm,Hm];refine .cons ?_ ih;obtain⟨h1,h2,h3⟩:=h;unfold putAt
  by_cases e:p.1=k
  ·rw[Hh e,Hh (h1.symm.trans e)];exact⟨h1,h2,ry⟩
  ·rw[He e,He (λz=>e (h1.trans z))];exact⟨h1,h2,h3⟩
theorem KT.put{kvs:List (List Gr×V)}(r:KT H kvs xs)(k:List Gr){b:Addr}(hb:H b=some (.tup (k.map kV)))(ry:bx y u) :
  KT H (ky kvs k y) (storedH xs k b u):=by
 have e:(kvs.any λkv=>decide (kv.1=k))=(atKey xs k).isSome:=by
  rw[pQ,(r.val k).isSome_eq,Option.isSome_map]
 unfold ky storedH;rw[e]
 by_cases q:(atKey xs k).isSome=true
 ·rw[Hh q,Hh q];exact r.repl k ry
 ·rw[He q,He q];exact Paired.snoc r ⟨rfl,hb,ry⟩
def KT.keeps{kvs:List (List Gr×V)}(r:KT H kvs xs)(ht:∀b ys,H b=some (.tup ys)->H' b=some (.tup ys)):KT H' kvs xs :=
 Paired.mapP r λ_ _ z=>⟨z.1,ht _ _ z.2.1,z.2.2⟩
section
variable {P:Program} {w:World} {H:Hp} {h:Heap} {a:Addr}
def Dh{u:HO}(ok:GT P w H h)(e:Rd H a u):bN P w H h a u:=e.ok ok
def gy(ok:GT P w H h)(e:Rd H a (.dK kvs)):kvs.length<=sizeLine/\(a==sysModules)=false/\∃vs,KV kvs vs/\h.DictOf (aX P w) a vs :=
 show bN P w H h a (.dK kvs) from Dh ok e
def tz(ok:GT P w H h)(e:H a=some (.dK kvs)):kvs.length<=sizeLine/\(a==sysModules)=false/\∃vs,KV kvs vs/\h.DictOf (aX P w) a vs:=gy ok (.inl e)
theorem kz{ks:List Gr}(ok:GT P w H h)(e:H a=some (.tup (ks.map kV))):(tupleKind (aX P w)).is h ks a:=by
 obtain⟨_,its,r,o,h1,h2,n,h3⟩:=(show bN P w H h a (.tup (ks.map kV)) from ok a _ e);exact⟨o,its.toArray,n,h1,h2,h3,by simpa using mW r⟩
theorem nw{kvs:List (List Gr×V)}(ok:GT P w H h)(e:Rd H a (.dT kvs)):kvs.length<=sizeLine/\(a==sysModules)=false /\
  ∃xs,KT H kvs xs/\h.DictOfH (tupleKind (aX P w)) a xs:=by
 obtain⟨z,y,xs,r,o,es,ep,h1,h2,h3,h4,h5⟩:=(show bN P w H h a (.dT kvs) from Dh ok e);refine⟨z,y,xs,r,o,es,ep,h1,h2,h3,h4,λx hx=>?_,h5⟩;have all:∀ {l:List (List Gr×V)} {m:List (List Gr×Addr×Value)},KT H l m->∀x∈m,(tupleKind (aX P w)).is h x.1 x.2.1:=by
  intro l m q
  induction q with
  | nil=>intro x hx;exact nomatch hx
  | @cons p q ps qs hq t ih =>
   intro x hx
   rcases G7.mp hx with e | hx
   ·subst e;exact kz ok (by rw[<- hq.1];exact hq.2.1)
   ·exact ih x hx
 exact all r x hx
def Ff{kvs:List (List Gr×V)}(ok:GT P w H h)(e:H a=some (.dT kvs)):kvs.length<=sizeLine/\(a==sysModules)=false /\
  ∃xs,KT H kvs xs/\h.DictOfH (tupleKind (aX P w)) a xs:=nw ok (.inl e)
end
def qi(H:Hp)(a:Addr)(y:V)(r:Option V):Prop :=
 (∃kvs k,Rd H a (.dK kvs)/\y=kV k/\r=qp kvs k)\/∃kvs k b,Rd H a (.dT kvs)/\y=.ref b/\H b=some (.tup (k.map kV))/\r=qp kvs k
def DPut(H:Hp)(a:Addr)(y v:V)(H':Hp):Prop :=
 (∃kvs k,H a=some (.dK kvs)/\y=kV k/\kvs.length<sizeLine/\H'=GC H a (.dK (ky kvs k v))) \/
 ∃kvs k b,H a=some (.dT kvs)/\y=.ref b/\H b=some (.tup (k.map kV))/\kvs.length<sizeLine/\H'=GC H a (.dT (ky kvs k v))
def qi.k{H:Hp}{a:Addr}{kvs:List (Gr×V)}{k:Gr}(e:H a=some (.dK kvs)):qi H a (kV k) (qp kvs k):=.inl ⟨kvs,k,.inl e,rfl,rfl⟩
def DPut.k{H:Hp}{a:Addr}{kvs:List (Gr×V)}{k:Gr}{v:V}(e:H a=some (.dK kvs))(hl:kvs.length<sizeLine):DPut H a (kV k) v (GC H a (.dK (ky kvs k v))):=.inl ⟨kvs,k,e,rfl,hl,rfl⟩
section
variable {X:Cx} {pins:List (Addr×Obj)} {σ:St} {H:Hp} {s:Shared} {a:Addr} {y v:V} {u r:Value} {o:Option V} {A:Around} {E:Value→Shared→Prop}
theorem Inv.big(I:Inv X pins σ H s):sysModules<s.heap.objs.size:=by
 have h:mainGlobals<s.heap.objs.size:=(I.mod.glob.keeps I.bk).lt
 exact Nat.lt_trans (by decide) h
theorem vH(hu:A.units+1<cLine)(I:Inv X pins σ H s)(g:qi H a y (some v))(ry:bx y u)(h:∀w' s',Inv X pins σ H s'->bx v w'->Q w' s') :
  wpAny (model X.prog X.w) A (getItem (.ref a) u) Q E s:=by
 rcases g with⟨kvs,k,e,ey,l⟩ | ⟨kvs,k,b,e,ey,eb,l⟩
 ·subst ey;obtain⟨z,hd,vs,rel,dd⟩:=gy I.hok e;obtain⟨w',hw,rw'⟩:=sG.some_of (v:=v) (o:=valueAt vs k) (by rw[l];exact rel.val k);exact wpAny_getItem_of (nH ry) dd.mapOf hw (h w' _ (I.tok _) rw')
 ·subst ey
  cases (show u=Value.ref b from ry)
  obtain⟨z,hd,xs,rel,dd⟩:=nw I.hok e;obtain⟨w',hw,rw'⟩:=sG.some_of (v:=v) (o:=(atKey xs k).map (·.2)) (by rw[l];exact rel.val k);obtain⟨p,hp,hp2⟩:=JD.mp hw;refine wpAny_getItem_heap (IW hu) (kz I.hok eb) dd hp ?_;rw[hp2];exact h w' _ (I.tok _) rw'
theorem d_in(hu:A.units+1<cLine)(I:Inv X pins σ H s)(g:qi H a y o)(ry:bx y u)(h:∀s',Inv X pins σ H s'->Q (.bool o.isSome) s') :
  wpAny (model X.prog X.w) A (compareOp .In u (.ref a)) Q E s:=by
 rcases g with⟨kvs,k,e,ey,l⟩ | ⟨kvs,k,b,e,ey,eb,l⟩
 ·subst ey;obtain⟨z,hd,vs,rel,dd⟩:=gy I.hok e;refine wpAny_in_of (nH ry) hd dd.mapOf ?_;rw[<- (rel.val k).isSome_eq,<- l];exact h _ (I.tok _)
 ·subst ey
  cases (show u=Value.ref b from ry)
  obtain⟨z,hd,xs,rel,dd⟩:=nw I.hok e;refine wpAny_in_heap (IW hu) (kz I.hok eb) hd dd ?_;have q:=(rel.val k).isSome_eq;rw[Option.isSome_map] at q;rw[<- q,<- l];exact h _ (I.tok _)
theorem A7(hu:A.units+1<cLine)(I:Inv X pins σ H s)(g:qi H a y o)(ry:bx y u)(h:∀s',Inv X pins σ H s'->Q (.bool (!o.isSome)) s') :
  wpAny (model X.prog X.w) A (compareOp .NotIn u (.ref a)) Q E s:=by
 rcases g with⟨kvs,k,e,ey,l⟩ | ⟨kvs,k,b,e,ey,eb,l⟩
 ·subst ey;obtain⟨z,hd,vs,rel,dd⟩:=gy I.hok e;refine wpAny_notIn_of (nH ry) hd dd.mapOf ?_;rw[<- (rel.val k).isSome_eq,<- l];exact h _ (I.tok _)
 ·subst ey
  cases (show u=Value.ref b from ry)
  obtain⟨z,hd,xs,rel,dd⟩:=nw I.hok e;refine wpAny_notIn_heap (IW hu) (kz I.hok eb) hd dd ?_;have q:=(rel.val k).isSome_eq;rw[Option.isSome_map] at q;rw[<- q,<- l];exact h _ (I.tok _)
def lR{h':Heap}{t':Nat}{ob:HO}(I:Inv X pins σ H s)(mu:Mut (H a))(hs:Heap.SameBut a s.heap h')(he:∃q,h'.get? a=some q)(new:bN X.prog X.w (GC H a ob) h' a ob) :
  Inv X pins σ (GC H a ob) { s with heap:=h',toks:=t' } :=
 I.write (x:=a) (e:=a) mu (.inl rfl) (λb q hb z=>(hs.2 b hb).trans z) he new
def qx{h':Heap}{vs:List (Gr×Value)}(z:kvs.length<=sizeLine)(hd:(a==sysModules)=false)(rel:KV kvs vs)(dd:h'.DictOf (aX P w) a vs) :
  bN P w H' h' a (.dK kvs):=⟨z,hd,vs,rel,dd⟩
theorem tP{Q:Unit->Shared->Prop}(hu:A.units+1<cLine)(I:Inv X pins σ H s)(g:DPut H a y v H')(ry:bx y u)(rv:bx v r)(h:∀s',Inv X pins σ H' s'->Q () s') :
  wpAny (model X.prog X.w) A (setItem (.ref a) u r) Q E s:=by
 rcases g with⟨kvs,k,e,ey,l,eH⟩ | ⟨kvs,k,b,e,ey,eb,l,eH⟩
 ·subst ey eH;obtain⟨z,hd,vs,rel,dd⟩:=tz I.hok e;have hz:vs.length<=sizeLine:=by rw[<- rel.length];exact z
  have hl:(ky kvs k v).length<=sizeLine:=by have:=eZ kvs k v;omega
  refine wpAny_setItem_pairs (hsz:=hz) (nH ry) dd λh' dd' hs=>h _ ?_;have he:∃q,h'.get? a=some q:=let ⟨q,_,_,hq,_⟩:=dd';⟨q,hq⟩;exact lR I (by rw[e];exact True.intro) hs he (qx hl hd (rel.put k rv) dd')
 ·subst ey eH
  cases (show u=Value.ref b from ry)
  obtain⟨z,hd,xs,rel,dd⟩:=Ff I.hok e;have hz:xs.length<=sizeLine:=by rw[<- Paired.length rel];exact z
  have hl:(ky kvs k v).length<=sizeLine:=by have:=eZ kvs k v;omega
  refine wpAny_setItem_heap (hsz:=hz) (IW hu) (kz I.hok eb) dd λh' dd' hs=>h _ ?_;obtain⟨q,es,ep,hq,h2,h3,h4,_,h5⟩:=dd';refine lR I (by rw[e];exact True.intro) hs ⟨q,hq⟩ ⟨hl,hd,_,(rel.put k eb rv).keeps λc ys ec=>?_,q,es,ep,hq,h2,h3,h4,h5⟩;rw[aH (FK ec e (λz=>nomatch z))];exact ec
end
section
variable {X:Cx} {pins:List (Addr×Obj)} {σ:St} {H:Hp} {s:Shared} {a:Addr} {kvs:List (Gr×V)} {k:Gr} {u:Value} {A:Around} {E:Value→Shared→Prop}
theorem AO(I:Inv X pins σ H s)(e:H a=some (.dK kvs))(h:∀s',Inv X pins σ (GC H a (.dK [])) s'->Q .none s'):wpAny (model X.prog X.w) A (call (.builtin "dict.clear") [.ref a]) Q E s:=by
 obtain⟨z,hd,vs,rel,dd⟩:=tz I.hok e;refine call_meetsIn PySem.F.slot_dict_clear dd.typeIs PySem.F.entry_dict_clear (PySem.F.args_dict_clear_1 _) (meets_dict_clear (aX X.prog X.w) a) ⟨vs,dd,by rw[<- rel.length];exact z,λh' dd' hs=>h _ ?_⟩;have he:∃q,h'.get? a=some q:=let ⟨q,_,_,hq,_⟩:=dd';⟨q,hq⟩;exact lR (t':=s.toks) I (by rw[e];exact True.intro) hs he (qx (Ie _) hd .nil dd')
end
def NoSl(i:Expr):Prop:=∀ov iv,subscripted i false ov iv=operate [ov,iv] (getItem ov iv)
theorem Be{prog:Program}{A:Around}{E:Value->Shared->Prop}{env:Env}{value slice:Expr}{T id:String}
  (hl:typeLookup (.type T) "__getitem__"=pure (some (.builtin id))) (hs:NoSl slice)
  (h:wpAny (model prog w) A (eval value env) (λo s₁=>wpAny (model prog w) A (eval slice env) (λi s₂=>s₂.TypeIs o T/\wpAny (model prog w) A (getItem o i) Q E s₂) E s₁) E s) :
  wpAny (model prog w) A (eval (.Subscript value slice pos) env) Q E s:=by
 refine Subscript_ (Ir h (λo s₁ h₁=>Ir h₁ (λi s₂ h₂=>?_) λ_ _ x=>x) λ_ _ x=>x);obtain⟨hT,h₂⟩:=h₂;unfold subscriptTail;refine GX ?_;rw[getitemInPython_of_ne hT.not_modules];refine GX (wpAny_specialOf hT hl ?_);have fin:wpAny (model prog w) A (subscripted slice false o i) (λr s₃=>wpAny (model prog w) A (letTemporaryGo value o r >>= λ_=>pure r) Q E s₃) E s₂:=by
  rw[hs o i];exact wpAny_operating (Ir h₂ (λr s₃ h₃=>GX (wpAny_letTemporaryGo (G2 h₃))) λ_ _ x=>x)
 first
  | exact G2 (GX fin)
  | exact GX (G2 (GX fin))
  | exact GX fin
theorem nU{pins:List (Addr×Obj)}{σ:St}{a:Addr}{o:Option V}(I:Inv X pins σ H s)(g:qi H a y o):s.TypeIs (.ref a) "dict":=by
 rcases g with⟨kvs,k,e,_,_⟩ | ⟨kvs,k,b,e,_,_,_⟩
 ·obtain⟨_,_,vs,_,dd⟩:=gy I.hok e;exact dd.typeIs
 ·obtain⟨_,_,xs,_,dd⟩:=nw I.hok e;exact dd.typeIs
def Ga(td ty:TE):TE:=λσ H Q=>td σ H λx H1=>ty σ H1 λy H2=>∃a v,x=.ref a/\qi H2 a y (some v)/\Q v H2
def E6(td ty tv:TE):TS:=λD σ H=>tv σ H λv H1=>td σ H1 λx H2=>ty σ H2 λy H3=>∃a H4,x=.ref a/\DPut H3 a y v H4/\D.nx σ H4
section
variable {X:Cx} {o i e value:Expr} {pos pos' tpos:Pos} {td ty tv:TE}
theorem Ad(hu:X.A.units+1<cLine)(ho:PE X o td)(hi:PE X i ty)(hs:NoSl i):PE X (.Subscript o i pos) (Ga td ty):=by
 intro pins s σ H Q I h;refine Be PySem.F.slot_dict_getitem.lookup hs (GE (ho pins s σ H _ I h) λu s1 ⟨x,H1,I1,rx,q1⟩=>GE (hi pins s1 σ H1 _ I1 q1) λiv s2 ⟨y,H2,I2,ry,a,v,ex,g,q2⟩=>?_);subst ex;obtain rfl:u=Value.ref a:=rx;exact⟨nU I2 g,vH hu I2 g ry λw' s3 I3 rw'=>⟨v,H2,I3,rw',q2⟩⟩
theorem BV(hu:X.A.units+1<cLine)(ho:PE X o td)(hi:PE X i ty)(hv:PE X value tv)(hs:swapsWith value (some (.Subscript o i pos')) pos.line X.env=pure false) :
  PS X (.Assign [.Subscript o i pos'] value pos) (E6 td ty tv):=by
 intro pins s σ H D I h;refine wpAny_Assign_Subscript (GE (hv pins s σ H _ I h) λr s1 ⟨v,H1,I1,rv,q1⟩=>GE (ho pins s1 σ H1 _ I1 q1) λu s2 ⟨x,H2,I2,rx,q2⟩=>GE (hi pins s2 σ H2 _ I2 q2) λiv s3 ⟨y,H3,I3,ry,a,H4,ex,g,q3⟩=>?_) hs;subst ex;obtain rfl:u=Value.ref a:=rx;exact tP hu I3 g ry rv λs4 I4=>⟨σ,H4,I4,q3⟩
end
def qE(h:Heap)(hb:sysModules<h.objs.size):bN P w H (h.push { cls:=.type "dict",data:=.dict #[] }) h.objs.size (.dK []) :=
 ⟨Ie _,J0.mpr (J8 (Hz hb)),[],.nil,Heap.DictOf.new h⟩
def CA:TE:=λ_ H Q=>∀p,H p=none->Q (.ref p) (GC H p (.dK []))
section
variable {X:Cx} {pos:Pos}
def qR:PE X (.Dict [] [] pos) CA:=λpins s σ H Q I h =>
 wpAny_Dict_empty ⟨.ref s.heap.objs.size,_,I.laid (a:=s.heap.objs.size) (o:=.dK []) (t':=s.toks) (λ_ _ q=>Heap.get?_push_of_some _ q) (G3 _) (qE s.heap I.big),rfl,h _ (I.hok.fresh (G3 _))⟩
end
def tL:List (TE×TE)->St->Hp->(List (V×V)->Hp->Prop)->Prop
 | [],_,H,Q=>Q [] H
 | (tk,tv)::r,σ,H,Q=>tk σ H λx H1=>tv σ H1 λy H2=>tL r σ H2 λps H3=>Q ((x,y)::ps) H3
abbrev VV:List (V×V)->List (Value×Value)->Prop:=Paired λp q=>bx p.1 q.1/\bx p.2 q.2
def PPs(X:Cx)(pos:Pos)(keys:List (Option Expr))(values:List Expr)(trs:List (TE×TE)):Prop :=
 ∀(pins:List (Addr×Obj)) (s:Shared) (σ:St) (H:Hp) (Q:List (V×V)->Hp->Prop),Inv X pins σ H s->tL trs σ H Q ->
  wpAny (model X.prog X.w) X.A (evalPairs (pairTrees keys values X.env pos)) (λvs s'=>∃ps H',Inv X pins σ H' s'/\VV ps vs/\Q ps H') X.xe s
def Aq:PPs X pos [] [] []:=λpins s σ H Q I h=>pairTrees_nil_walk ⟨[],H,I,.nil,h⟩
def qh{k v:Expr}{ks:List (Option Expr)}{vs:List Expr}{tk tv:TE}{trs:List (TE×TE)}(hk:PE X k tk)(hv:PE X v tv)(hr:PPs X pos ks vs trs) :
  PPs X pos (some k::ks) (v::vs) ((tk,tv)::trs):=λpins s σ H Q I h =>
 pairTrees_cons_walk (GE (hk pins s σ H _ I h) λu s1 ⟨x,H1,I1,rx,q1⟩=>GE (hv pins s1 σ H1 _ I1 q1) λw2 s2 ⟨y,H2,I2,ry,q2⟩ =>
  GE (hr pins s2 σ H2 _ I2 q2) λws s3 ⟨ps,H3,I3,rel,q3⟩=>⟨(x,y)::ps,H3,I3,.cons ⟨rx,ry⟩ rel,q3⟩)
def kG(kvs more:List (Gr×V)):List (Gr×V):=more.foldl (λacc kv=>ky acc kv.1 kv.2) kvs
theorem KV.merge:∀ {more:List (Gr×V)} {rs:List (Gr×Value)} {kvs:List (Gr×V)} {vs:List (Gr×Value)},KV more rs->KV kvs vs->KV (kG kvs more) (merged vs rs):=by
 intro more rs kvs vs r;unfold KV at r
 induction r generalizing kvs vs with
 | nil=>intro q;exact q
 | @cons p q ps qs h t ih =>
  intro r0;have e:KV (ky kvs p.1 p.2) (stored vs q.1 q.2):=by
   have:=r0.put p.1 h.2
   rw[<- h.1];exact this
  exact ih e
theorem fJ:∀(more kvs:List (Gr×V)),(kG kvs more).length<=kvs.length+more.length
 | [],kvs=>by show kvs.length<=kvs.length+0;omega
 | p::r,kvs=>by
  have h1:=fJ r (ky kvs p.1 p.2)
  have h2:=eZ kvs p.1 p.2
  show (kG (ky kvs p.1 p.2) r).length<=_
  rw[Ha];omega
theorem kF{P:Program}{w:World}:∀ {kvs:List (Gr×V)} {ws:List (Value×Value)},VV (kvs.map λkv=>(kV kv.1,kv.2)) ws->∃rs,Carries (aX P w) ws rs/\KV kvs rs
 | [],_,r=>by rw[Jv] at r;cases r;exact⟨[],True.intro,.nil⟩
 | p::kvs,_,r=>by
  rw[Hm] at r
  cases r with
  | @cons a b as bs h t =>
   obtain⟨rs,c,q⟩:=kF (P:=P) (w:=w) t;obtain⟨b1,b2⟩:=b;exact⟨(p.1,b2)::rs,⟨nH h.1,rfl,c⟩,.cons ⟨rfl,h.2⟩ q⟩
def EZ(trs:List (TE×TE)):TE:=λσ H Q=>∀p,H p=none->tL trs σ (GC H p (.dK [])) λps H2=>H2 p=some (.dK [])/\∃kvs:List (Gr×V),ps=kvs.map (λkv=>(kV kv.1,kv.2))/\kvs.length<=15/\Q (.ref p) (GC H2 p (.dK (kG [] kvs)))
theorem BQ{keys:List (Option Expr)}{values:List Expr}{trs:List (TE×TE)}(h:PPs X pos keys values trs)(hall:keys.all (·.isSome)=true)(hl:keys.length=values.length)(h0:keys≠[])
  (h15:keys.length<=15):PE X (.Dict keys values pos) (EZ trs):=by
 intro pins s σ H Q I q;have hn:=I.hok.fresh (G3 s.heap.objs.size);have I1:=I.laid (a:=s.heap.objs.size) (o:=.dK []) (h':=s.heap.push { cls:=.type "dict",data:=.dict #[] }) (t':=s.toks) (λ_ _ q=>Heap.get?_push_of_some _ q) (G3 _) (qE s.heap I.big);refine wpAny_Dict_walk (knd:=aX X.prog X.w) hall hl h0 h15 (GE (h pins _ σ _ _ I1 (q _ hn)) λws s2 ⟨ps,H2,I2,rel,e,kvs,ep,lk,q2⟩=>?_);subst ep;obtain⟨rs,c,rk⟩:=kF (P:=X.prog) (w:=X.w) rel;obtain⟨z,hd,vs0,r0,dd⟩:=tz I2.hok e
 cases r0
 refine⟨rs,c,dd,λh' dd' hs=>⟨.ref s.heap.objs.size,_,?_,rfl,q2⟩⟩;have hz:(kG [] kvs).length<=sizeLine:=by
  have h1:=fJ kvs []
  rw[List.length_nil] at h1;rw[sizeLine_eq];omega
 have he:∃q,h'.get? s.heap.objs.size=some q:=let ⟨q,_,_,hq,_⟩:=dd';⟨q,hq⟩
 exact lR I2 (by rw[e];exact True.intro) hs he (qx hz hd (rk.merge .nil) dd')
structure M2(X:Cx)(o:Expr)(m:Str)(apos:Pos)(e f:Expr)(cpos:Pos):Prop where
 base:attributeBase o m X.env (eval o X.env)=eval o X.env
 few:((backTo cpos (starEach [e,f] X.env)).all (λx=>!x.1)&&(backToKw cpos (keywordEach [] X.env)).all (λx=>x.1.isSome)
  && decide (([e,f]:List Expr).length+([]:List Keyword).length+(if ([]:List Keyword).isEmpty then 0 else 1)<30))=true
 line:(apos.endLine==cpos.line)=true
 trees:backTo cpos (starEach [e,f] X.env)=[(false,eval e X.env),(false,eval f X.env)]
def IsD(H:Hp)(a:Addr):Prop:=(∃kvs,Rd H a (.dK kvs))\/∃kvs,Rd H a (.dT kvs)
theorem Dx{pins:List (Addr×Obj)}{σ:St}{a:Addr}(I:Inv X pins σ H s)(d:IsD H a) :
  s.TypeIs (.ref a) "dict"/\(∀b,Value.ref a=.ref b->∃ob,s.heap.get? b=some ob/\ob.dict=none)/\(a==sysModules)=false:=by
 rcases d with⟨kvs,e⟩ | ⟨kvs,e⟩
 ·obtain⟨_,hd,vs,_,dd⟩:=gy I.hok e;refine⟨dd.typeIs,λb q=>?_,hd⟩
  cases q
  obtain⟨ob,_,_,h1,h2,_⟩:=dd;exact⟨ob,h1,h2.2.1⟩
 ·obtain⟨_,hd,xs,_,dd⟩:=nw I.hok e;refine⟨dd.typeIs,λb q=>?_,hd⟩
  cases q
  obtain⟨ob,_,_,h1,h2,_⟩:=dd;exact⟨ob,h1,h2.2.1⟩
section
variable {X:Cx} {pins:List (Addr×Obj)} {σ:St} {H:Hp} {s:Shared} {a:Addr} {y d:V} {u r:Value} {o:Option V} {A:Around} {E:Value→Shared→Prop}
theorem DK(hu:A.units+1<cLine)(I:Inv X pins σ H s)(g:qi H a y o)(ry:bx y u)(rd:bx d r)(h:∀w' s',Inv X pins σ H s'->bx (o.getD d) w'->Q w' s') :
  wpAny (model X.prog X.w) A (call (.builtin "dict.get") [.ref a,u,r]) Q E s:=by
 rcases g with⟨kvs,k,e,ey,l⟩ | ⟨kvs,k,b,e,ey,eb,l⟩
 ·subst ey;obtain⟨z,hd,vs,rel,dd⟩:=gy I.hok e;refine call_meetsIn JP dd.typeIs PySem.F.entry_dict_get (PySem.F.args_dict_get_3 _ _ _) (meets_dict_get_default (aX X.prog X.w) a (nH ry) hd r) ⟨_,dd.mapOf,h _ _ (I.tok _) ?_⟩;rw[l];exact(rel.val k).getD rd
 ·subst ey
  cases (show u=Value.ref b from ry)
  obtain⟨z,hd,xs,rel,dd⟩:=nw I.hok e;refine call_meetsIn JP dd.typeIs PySem.F.entry_dict_get (PySem.F.args_dict_get_3 _ _ _) (meetsH_dict_get_default (tupleKind (aX X.prog X.w)) a b hd r) ⟨IW hu,k,xs,kz I.hok eb,dd,h _ _ (I.tok _) ?_⟩;rw[l];exact(rel.val k).getD rd
end
def Ed(td ty tx:TE):TE:=λσ H Q=>td σ H λx H1=>∃a,x=.ref a/\IsD H1 a/\ty σ H1 λy H2=>tx σ H2 λz H3=>∃o,qi H3 a y o/\Q (o.getD z) H3
section
variable {X:Cx} {o e f:Expr} {apos cpos:Pos} {td ty tx:TE}
theorem v8(hu:X.A.units+1<cLine)(ho:PE X o td)(he:PE X e ty)(hf:PE X f tx)(m:M2 X o "get" apos e f cpos):PE X (.Call (.Attribute o "get" apos) [e,f] [] cpos) (Ed td ty tx):=by
 intro pins s σ H Q I h;refine wpAny_Call_method m.base m.few m.line PySem.F.plainAttrs_dict JP PySem.F.type_dict_get (GE (ho pins s σ H _ I h) λu s1 ⟨x,H1,I1,rx,a,ex,d,q1⟩=>?_);subst ex;obtain rfl:u=Value.ref a:=rx;obtain⟨t1,t2,_⟩:=Dx I1 d;refine⟨t1,t2,?_⟩;rw[m.trees]
 refine JE rfl (Calls.evalArgs_plain (IU (GE (he pins s1 σ H1 _ I1 q1) λiv s2 ⟨y,H2,I2,ry,q2⟩ =>
  IU (GE (hf pins s2 σ H2 _ I2 q2) λfv s3 ⟨z,H3,I3,rz,ov,g,q3⟩=>JI ?_))))
 exact DK hu I3 g ry rz λw' s4 I4 rw'=>⟨_,H3,I4,rw',q3⟩
end
section
variable {X:Cx} {pins:List (Addr×Obj)} {σ:St} {H:Hp} {s:Shared} {a:Addr} {kvs:List (Gr×V)} {A:Around} {E:Value→Shared→Prop}
end
section
variable {X:Cx} {pins:List (Addr×Obj)} {σ:St} {H:Hp} {s:Shared} {a:Addr} {y:V} {u:Value} {A:Around} {E:Value→Shared→Prop}
end
end L2
namespace Att
open PySem PySem.W PySem.Calls PyProof.Rows
theorem iX{P:Params}{h:Heap}:∀(ns:List Int) (vs:List Value),WellAll P h vs (ns.map WData.int)->IntsAre vs ns:=by
 intro ns
 induction ns with
 | nil =>
  intro vs w;rw[Jv] at w
  cases w
  exact .nil
 | cons n ns ih =>
  intro vs w;rw[Hm] at w
  cases w with
  | cons a b =>
   cases a
   exact .cons _ _ (ih _ b)
theorem script_of{l:OpenLaw}{n:Nat}(hn:l.most=some n){P:Params}{h:Heap}{args:List WData}{vals:List Value}
  (hpre:l.row.toRowW.claim.pre args=true) (hwl:WellAll P h vals args) :
  ∃a vs ns,vals=[Value.ref a]/\args=[WData.list (ns.map WData.int)]/\h.get? a=some { cls:=.type "list",data:=.seq vs.toArray }/\IntsAre vs ns/\ns.length<=n:=by
 have hsh:WShape.hasAll [] args [.list .int]=true:=(pre_splitW hpre).1
 have hc:l.pre.holds [] { args:=args }=true:=(pre_splitW hpre).2
 obtain⟨d,r,rfl,h1,h2⟩:=hasAllW_cons hsh;obtain rfl:=hasAllW_nil h2;obtain⟨xs,rfl,h3⟩:=hasW_list h1;obtain⟨ns,rfl⟩:=items_int h3;have hlen:ns.length<=n:=by
  unfold OpenLaw.pre at hc;have h4:(WTm.not (.lt (.lit (.int (n:Int))) (.len (.arg 0)))).holds [] { args:=[.list (ns.map .int)] }=true:=by
   have h4:=(holds_andW hc).1
   rw[hn] at h4;exact h4
  have h5:=condW_of h4 (w_not (w_lt w_lit (w_len_list (w_arg rfl))))
  rw[GW] at h5;refine Nat.le_of_not_lt λq=>?_;have q':(n:Int)<((ns.length:Nat):Int):=by omega
  first
   | (rw[HG q'] at h5;exact absurd h5 (by decide))
   | (simp at h5;omega)
 cases hwl with
 | cons w1 w2 =>
  cases w2
  cases w1 with
  | list ho hall=>exact⟨_,_,ns,rfl,rfl,ho,iX ns _ hall,hlen⟩
def post_true(l:OpenLaw)(args:List WData):l.row.toRowW.claim.post args (.bool true) args=true :=
 postW_of (r:=l.row.toRowW) (X:=(true==true))
  (show WShape.has [] (.bool true) .bool=true by first | rfl | decide | simp[WShape.has,WShape.arms,WShape.armsAll])
  (show (WTm.eq .res (.lit (.bool true))).value [] { args:=args,res:=some (.bool true),after:=args }=some (.bool (true==true)) from w_eq_bool (w_res rfl) w_lit) rfl
section
variable {prog:Program} {w:World} {A:Around} {E:Value→Shared→Prop} {s:Shared} {K:Frag}
end
end Att
namespace L2
open PySem PySem.Spec PyProof.Rows
theorem mP:∀ {vs:List Value} {ns:List Int},IntsAre vs ns->bn (ns.map V.int) vs
 | _,_,.nil=>.nil
 | _,_,.cons n t h=>.cons ⟨t,rfl⟩ (mP h)
def Only(H:Hp):Prop:=∀b,H b=none\/∃o xs,H b=some (.frz o (.lst xs))
theorem wm{P:Program}{w:World}{K:PySem.W.Frag}{mg mb:Str->Option Value}{CX:CXT}{k:Nat}{fa a:Addr}{fd:FuncData}{x:Str}{sp:Sp}{s₁:Shared}{vs:List Value}{ns:List Int}
  (KX:K.In s₁.heap) (hns:s₁.heap.Ns mainGlobals mg) (hb:s₁.heap.Ns builtinsNs mb) (hbb:∀x:Str,x≠"__name__"->mb x=bootBuiltins x) (hlim:s₁.heap.NoLimit) (hg:s₁.gens=#[])
  (ha:s₁.heap.get? a=some { cls:=.type "list",data:=.seq vs.toArray }) (hi:IntsAre vs ns) (hl:ns.length<=sizeLine) (hr:fK k callerA)
  (F:∀base:Heap,K.In base->base.Ns mainGlobals mg->kd P w K mg base CX k fa fd [x] sp) (hbind:∀(s:Shared) (u:Value),BindsTo s fd ⟨[u],[]⟩ [(x,u)])
  (hsp:∀H:Hp,Only H->Gz K H a (ns.map V.int)->sp [.ref a] H (λv _=>v=.bl true) λ_ _ _=>False)
  (hCX:∀H e s',CX [] H s₁ (λ_ _ _=>False) e s'->False) :
  codeAny (model P w) callerA (.call (.ref fa) ⟨[.ref a],[]⟩) (λr s'=>r=.ok (.ret (.bool true))/\OldK s₁.heap s'.heap/\s'.os=s₁.os/\AllBare s'.gens) s₁:=by
 have rv:=mP hi
 have lenV:=hi.length
 have core:∀H:Hp,Only H->Gz K H a (ns.map V.int)->GT P w H s₁.heap->(∀b,H b≠none->b=a)->(H a≠none->K.lookup a=none) ->
   codeAny (model P w) callerA (.call (.ref fa) ⟨[.ref a],[]⟩) (λr s'=>r=.ok (.ret (.bool true))/\OldK s₁.heap s'.heap/\s'.os=s₁.os/\AllBare s'.gens) s₁:=by
  intro H hO hS hok hA hK;have base_of:∀ {b:Addr} {o:Obj},s₁.heap.get? b=some o->H b=none->(xH s₁.heap H).get? b=some o:=λe n=>yd e n;have noA:∀ {b:Addr} {o:Obj} {es:Array DictEntry} {ep:Nat},s₁.heap.get? b=some o->o.data=.dict es ep->H b=none:=λ{b o es ep} e d=>by
   cases q:H b with
   | none=>rfl
   | some u =>
    have e':b=a:=hA b (by rw[q];simp)
    subst e';rw[ha] at e;cases e;have d':Data.seq vs.toArray _=Data.dict es ep:=d
    cases d'
  have nsK:∀ {b:Addr} {m:Str->Option Value},s₁.heap.Ns b m->(xH s₁.heap H).Ns b m:=λ{b m} ⟨o,es,ep,e,d,r⟩=>⟨o,es,ep,base_of e (noA e d),d,r⟩
  have hKb:K.In (xH s₁.heap H):=λb o e=>base_of (KX b o e) (by
   cases q:H b with
   | none=>rfl
   | some u =>
    have e':b=a:=hA b (by rw[q];simp)
    subst e'
    rw[hK (by rw[q];simp)] at e;cases e)
  have hM:Mod K mg (xH s₁.heap H):=⟨hKb,nsK hns,⟨mb,nsK hb,hbb⟩,let ⟨mc,h1,h2⟩:=hlim;⟨mc,nsK h1,h2⟩⟩
  have e0:Env0 P w K mg (xH s₁.heap H) callerA [] s₁ H:=⟨rfl,hM,λb o e=>Ae e,Nat.le_of_eq (vD _ _),trivial,λb hb=>absurd (show b∈([]:List Addr) from hb) (by simp),hok,.of_eq hg⟩
  refine JO ((F _ hKb (nsK hns)).run callerA [] s₁ H ⟨[.ref a],[]⟩ [.ref a] [.ref a] _ _ hr e0 (hbind s₁ (.ref a)) (.cons rfl .nil) (hsp H hO hS)) λr s' h=>?_
  cases r with
  | error e=>exact(hCX H e s' h).elim
  | ok fl =>
   cases fl with
   | next=>exact False.elim h
   | brk=>exact False.elim h
   | cont=>exact False.elim h
   | ret u =>
    obtain⟨v,H',os,bare,un,hok',r',q⟩:=h;have q':v=.bl true:=q;subst q';obtain rfl:u=Value.bool true:=r';refine⟨rfl,OldK.of_keep λb o e=>?_,os,bare⟩
    cases q:H b with
    | none=>exact un.keep b o e q (by intro z;exact absurd (show b∈([]:List Addr) from z) (by simp)) (by simp)
    | some u =>
     rcases hO b with z | ⟨ob,xs,z⟩
     ·rw[q] at z;cases z
     ·have z2:=un.frzs b ob _ z
      obtain⟨e1,_⟩:=hok b _ z;obtain⟨e2,_⟩:=hok' b _ z2;rw[e] at e1;cases e1;exact e2
 cases hk:K.lookup a with
 | some o =>
  have e:=KX a o hk
  rw[ha] at e
  cases e
  refine core (λ_=>none) (λ_=>.inl rfl) (.inr ⟨_,vs.toArray,_,hk,rfl,rfl,rfl,by rw[Hu,lenV];exact hl,by simpa using rv⟩) (λb u z=>by have z':(none:Option HO)=some u:=z;cases z') (λb z=>absurd rfl z) λz=>absurd rfl z
 | none =>
  refine core (λb=>if b=a then some (.frz { cls:=.type "list",data:=.seq vs.toArray } (.lst (ns.map V.int))) else none) (λb=>?_) (.inl (.inr ⟨{ cls:=.type "list",data:=.seq vs.toArray },Hh rfl⟩)) (λb u z=>?_) (λb z=>?_) λ_=>hk
  ·by_cases hb:b=a
   ·exact .inr ⟨_,_,Hh hb⟩
   ·exact .inl (He hb)
  ·by_cases hb:b=a
   ·have z':=(Hh hb).symm.trans z
    cases z'
    subst hb;exact⟨ha,by rw[GW];exact hl,vs,_,rv,ha⟩
   ·have z':=(He hb).symm.trans z
    cases z'
  ·by_cases hb:b=a
   ·exact hb
   ·exact absurd (He hb) z
end L2
namespace L2
open PySem PySem.Spec PyProof.Rows
variable {x qual:Str} {st:Stmt} {f:Addr}
abbrev CX0:CXT:=λ_ _ _ _ _ _=>False
abbrev E0:XK:=λ_ _ _=>False
def wP{X:Cx}:uv CX0 X E0:=λ_ _ _ _ _ _ _ h=>h.elim
structure Fun(K:PySem.W.Frag)(x qual:Str)(st:Stmt)(f:Addr)(fd:FuncData):Prop where
 ex:∃(oc:Value) (od:Option Addr) (kV doc pm:Value) (an:Option Addr) (cdv ct:Value) (osl:Array (Option Value)),
  fd=PySem.W.fnOf x qual (cU st) (bG st) (am st) .none kV doc pm an cdv ct/\K.lookup f=some ⟨oc,od,.func fd,osl⟩/\PySem.W.codeIn K cdv qual=true
 kp:PySem.W.keepIn K (.ref f)=true
section
variable {P:Program} {w:World} {K:PySem.W.Frag} {mg:Str→Option Value} {base:Heap}
theorem Fun.ok{fd:FuncData}{N ps:List Str}{k:Nat}{sp:Sp}(F:Fun K x qual st f fd)(S:aw N ps (am st))(len:∀vs H Q E,sp vs H Q E->vs.length=ps.length)
    (hbody:∀(cdv:Value) (A:Around) (outer:List Env) (s:Shared) (H:Hp) (vs:List V) (Q:VK) (E:XK),fK k (A.deeper (envOfC qual (am st) s.heap.objs.size f cdv))->sp vs H Q E ->
      ∃t,PSs (sY CX0 P w K mg base N qual (am st) f cdv A outer s H E).nox (bG st) t/\t { nx:=λ_ H'=>Q .non H',rt:=Q } (start N vs) H):kd P w K mg base CX0 (k+1) f fd ps sp:=by
  obtain⟨oc,od,kV,doc,pm,an,cdv,ct,osl,rfl,lk,hcd⟩:=F.ex;refine FN lk hcd S len λA outer s H vs Q E hr hsp=>?_;obtain⟨t,h,q⟩:=hbody cdv A outer s H vs Q E hr hsp;exact⟨t,h.nox,q⟩
theorem Fun.binds{fd:FuncData}{ps:List Str}(F:Fun K x qual st f fd)
  (h:∀(kV doc pm:Value) (an:Option Addr) (cdv ct:Value) (us:List Value),us.length=ps.length->bindArgs (PySem.W.fnOf x qual (cU st) (bG st) (am st) .none kV doc pm an cdv ct) ⟨us,[]⟩=pure (ps.zip us)):me K fd ps []:=by
 obtain⟨oc,od,kV,doc,pm,an,cdv,ct,osl,rfl,lk,hcd⟩:=F.ex;exact .all (h kV doc pm an cdv ct)
def yp{oc:Value}{od an:Option Addr}{osl:Array (Option Value)}{kV doc pm cdv ct:Value}(l:K.lookup f=some ⟨oc,od,.func (PySem.W.fnOf x qual (cU st) (bG st) (am st) .none kV doc pm an cdv ct),osl⟩)
  (c:PySem.W.codeIn K cdv qual=true) (k:PySem.W.keepIn K (.ref f)=true):Fun K x qual st f (PySem.W.fnOf x qual (cU st) (bG st) (am st) .none kV doc pm an cdv ct):=⟨⟨oc,od,kV,doc,pm,an,cdv,ct,osl,rfl,l,c⟩,k⟩
end
section
variable {X:Cx}
end
theorem dQ{c A B:Prop}[Decidable c](h1:c->A)(h2:¬ c->B):if c then A else B:=by
 by_cases h:c
 ·rw[Hh h];exact h1 h
 ·rw[He h];exact h2 h
def b9(H H':Hp):Prop:=∀b o,H b=some o->H' b=some o
def b9.refl(H:Hp):b9 H H:=λ_ _ h=>h
def b9.trans{H H1 H2:Hp}(a:b9 H H1)(b:b9 H1 H2):b9 H H2:=λc o h=>b c o (a c o h)
theorem b9.seq{K:PySem.W.Frag}{H H':Hp}{a:Addr}{xs:List V}(e:b9 H H')(h:Gz K H a xs):Gz K H' a xs:=by
 rcases h with(h | ⟨o,h⟩) | h
 ·exact .inl (.inl (e _ _ h))
 ·exact .inl (.inr ⟨o,e _ _ h⟩)
 ·exact .inr h
section
variable {κ:Type} [DecidableEq κ]
end
end L2
namespace DL
open PySem L2
variable {M:Addr→Prop} {a:Addr} {vs:List V} {v:V}
inductive D where
 | non | bl (b:Bool) | int (i:Int) | str (x:Str)
 | tup (xs:List D) | lst (xs:List D) | fz (xs:List D) | dct (ks:List Str) (vs:List D) | fd (ks:List Str) (vs:List D) | fo (o:Obj) (ks:List Str) (vs:List D) | exn (c f:Str) (x:D)
mutual
def D.im:D->Bool
 | .tup xs=>D.ims xs
 | .lst _=>false
 | .fz xs=>D.ims xs
 | .dct _ _=>false
 | .fd _ xs=>D.ims xs
 | .fo _ _ xs=>D.ims xs
 | .exn _ _ _=>false
 | .non=>true
 | .bl _=>true
 | .int _=>true
 | .str _=>true
def D.ims:List D->Bool
 | []=>true
 | x::r=>D.im x&&D.ims r
end
abbrev xob(C:Addr)(dx:Option Addr)(a t:Value):Obj:={ cls:=.ref C,dict:=dx,data:=.fields #[a,t,.none,.none,.bool false,.none] }
def XAt(e C dx:Addr):HO:=.ext λh=>∃a t,h.get? e=some (xob C (some dx) a t)
def XNew(e C dx:Addr):HO:=.ext λh=>∃a,h.get? e=some (xob C (some dx) a .none)
structure zz(K:PySem.W.Frag)(M:Addr->Prop)(H:Hp)(c f:Str)(v y:V):Prop where
 ex:∃e C dx,v=.ref e/\¬ M e/\¬ M dx/\(H e=some (XAt e C dx)\/H e=some (XNew e C dx))/\H dx=some (.xd [(f,y)])/\PySem.W.nsIn K mainGlobals c=some (some (.ref C))
def aO(ks:List Str)(vs:List V):List (Gr×V):=(ks.map Sum.inr).zip vs
def H0:Hp:=λ_=>none
def B7(K:PySem.W.Frag)(H:Hp)(a:Addr)(vs:List V):Prop:=(∃o,H a=some (.frz o (.lst vs)))\/Gz K H0 a vs
mutual
def GU(K:PySem.W.Frag)(M:Addr->Prop)(H:Hp):D->V->Prop
 | .non,v=>v=.non
 | .bl b,v=>v=.bl b
 | .int i,v=>v=.int i
 | .str x,v=>v=.str x
 | .tup ds,v=>∃a vs,v=.ref a/\Gy K H a vs/\Reps K M H ds vs
 | .lst ds,v=>∃a vs,v=.ref a/\¬ M a/\H a=some (.lst vs)/\Reps K M H ds vs
 | .fz ds,v=>∃a vs,v=.ref a/\B7 K H a vs/\Reps K M H ds vs
 | .dct ks ds,v=>∃a vs,v=.ref a/\¬ M a/\H a=some (.dK (aO ks vs))/\ks.length=ds.length/\Reps K M H ds vs
 | .fd ks ds,v=>∃a vs o,v=.ref a/\H a=some (.frz o (.dK (aO ks vs)))/\ks.length=ds.length/\Reps K M H ds vs
 | .fo o ks ds,v=>∃a vs,v=.ref a/\H a=some (.frz o (.dK (aO ks vs)))/\ks.length=ds.length/\Reps K M H ds vs
 | .exn c f d,v=>∃y,zz K M H c f v y/\GU K M H d y
def Reps(K:PySem.W.Frag)(M:Addr->Prop)(H:Hp):List D->List V->Prop
 | [],vs=>vs=[]
 | d::ds,vs=>∃v r,vs=v::r/\GU K M H d v/\Reps K M H ds r
end
structure Kp(M:Addr->Prop)(H H':Hp):Prop where
 un:∀b o,H b=some o->¬ M b->H' b=some o
 tu:∀b xs,H b=some (.tup xs)->H' b=some (.tup xs)
 fr:∀b o u,H b=some (.frz o u)->H' b=some (.frz o u)
def Kp.of_same{H H':Hp}(h:b9 H H'):Kp M H H':=⟨λb o e _=>h b o e,λb xs e=>h b _ e,λb o u e=>h b _ e⟩
def Kp.refl{H:Hp}:Kp M H H:=Kp.of_same (b9.refl H)
section
variable {K:PySem.W.Frag} {M M':Addr→Prop} {H H':Hp}
theorem Gy.kp(k:Kp M H H')(h:Gy K H a vs):Gy K H' a vs:=by
 rcases h with(h | ⟨o,h⟩) | h
 ·exact .inl (.inl (k.tu _ _ h))
 ·exact .inl (.inr ⟨o,k.fr _ _ _ h⟩)
 ·exact .inr h
theorem B7.kp(k:Kp M H H')(h:B7 K H a vs):B7 K H' a vs:=by
 rcases h with⟨o,h⟩ | h
 ·exact .inl ⟨o,k.fr _ _ _ h⟩
 ·exact .inr h
theorem B7.seq(h:B7 K H a vs):Gz K H a vs:=by
 rcases h with⟨o,h⟩ | (h | ⟨o,h⟩) | h
 ·exact .inl (.inr ⟨o,h⟩)
 ·cases h
 ·cases h
 ·exact .inr h
theorem zz.kp{c f:Str}{y:V}(k:Kp M H H')(h:zz K M H c f v y):zz K M H' c f v y:=by
 obtain⟨e,C,dx,rfl,n1,n2,h1,h2,h3⟩:=h.ex;exact⟨⟨e,C,dx,rfl,n1,n2,h1.imp (λz=>k.un _ _ z n1) (λz=>k.un _ _ z n1),k.un _ _ h2 n2,h3⟩⟩
theorem zz.more{c f:Str}{y:V}(hM:∀b,M' b->M b\/H b=none)(h:zz K M H c f v y):zz K M' H c f v y:=by
 obtain⟨e,C,dx,rfl,n1,n2,h1,h2,h3⟩:=h.ex;refine⟨⟨e,C,dx,rfl,λz=>(hM _ z).elim n1 λq=>?_,λz=>(hM _ z).elim n2 (λq=>by rw[h2] at q;cases q),h1,h2,h3⟩⟩
 rcases h1 with h1 | h1<;>(rw[h1] at q;cases q)
mutual
theorem GU.kp(k:Kp M H H'):∀(d:D) (v:V),GU K M H d v->GU K M H' d v
 | .non,v,h=>by unfold GU at h ⊢;exact h
 | .bl b,v,h=>by unfold GU at h ⊢;exact h
 | .int i,v,h=>by unfold GU at h ⊢;exact h
 | .str x,v,h=>by unfold GU at h ⊢;exact h
 | .tup ds,v,h=>by
  unfold GU at h ⊢;obtain⟨a,vs,e,q,r⟩:=h;exact⟨a,vs,e,Gy.kp k q,Reps.kp k ds vs r⟩
 | .lst ds,v,h=>by
  unfold GU at h ⊢;obtain⟨a,vs,e,n,q,r⟩:=h;exact⟨a,vs,e,n,k.un _ _ q n,Reps.kp k ds vs r⟩
 | .fz ds,v,h=>by
  unfold GU at h ⊢;obtain⟨a,vs,e,q,r⟩:=h;exact⟨a,vs,e,q.kp k,Reps.kp k ds vs r⟩
 | .dct ks ds,v,h=>by
  unfold GU at h ⊢;obtain⟨a,vs,e,n,q,l,r⟩:=h;exact⟨a,vs,e,n,k.un _ _ q n,l,Reps.kp k ds vs r⟩
 | .fd ks ds,v,h=>by
  unfold GU at h ⊢;obtain⟨a,vs,o,e,q,l,r⟩:=h;exact⟨a,vs,o,e,k.fr _ _ _ q,l,Reps.kp k ds vs r⟩
 | .fo o ks ds,v,h=>by
  unfold GU at h ⊢;obtain⟨a,vs,e,q,l,r⟩:=h;exact⟨a,vs,e,k.fr _ _ _ q,l,Reps.kp k ds vs r⟩
 | .exn c f d,v,h=>by
  unfold GU at h ⊢;obtain⟨y,q,r⟩:=h;exact⟨y,q.kp k,GU.kp k d y r⟩
theorem Reps.kp(k:Kp M H H'):∀(ds:List D) (vs:List V),Reps K M H ds vs->Reps K M H' ds vs
 | [],vs,h=>by unfold Reps at h ⊢;exact h
 | d::ds,vs,h=>by
  unfold Reps at h ⊢;obtain⟨v,r,e,q,s⟩:=h;exact⟨v,r,e,GU.kp k d v q,Reps.kp k ds r s⟩
end
mutual
theorem GU.more(hM:∀b,M' b->M b\/H b=none):∀(d:D) (v:V),GU K M H d v->GU K M' H d v
 | .non,v,h=>by unfold GU at h ⊢;exact h
 | .bl b,v,h=>by unfold GU at h ⊢;exact h
 | .int i,v,h=>by unfold GU at h ⊢;exact h
 | .str x,v,h=>by unfold GU at h ⊢;exact h
 | .tup ds,v,h=>by
  unfold GU at h ⊢;obtain⟨a,vs,e,q,r⟩:=h;exact⟨a,vs,e,q,Reps.more hM ds vs r⟩
 | .lst ds,v,h=>by
  unfold GU at h ⊢;obtain⟨a,vs,e,n,q,r⟩:=h;exact⟨a,vs,e,λz=>(hM _ z).elim n (λe=>by rw[q] at e;cases e),q,Reps.more hM ds vs r⟩
 | .fz ds,v,h=>by
  unfold GU at h ⊢;obtain⟨a,vs,e,q,r⟩:=h;exact⟨a,vs,e,q,Reps.more hM ds vs r⟩
 | .dct ks ds,v,h=>by
  unfold GU at h ⊢;obtain⟨a,vs,e,n,q,l,r⟩:=h;exact⟨a,vs,e,λz=>(hM _ z).elim n (λe=>by rw[q] at e;cases e),q,l,Reps.more hM ds vs r⟩
 | .fd ks ds,v,h=>by
  unfold GU at h ⊢;obtain⟨a,vs,o,e,q,l,r⟩:=h;exact⟨a,vs,o,e,q,l,Reps.more hM ds vs r⟩
 | .fo o ks ds,v,h=>by
  unfold GU at h ⊢;obtain⟨a,vs,e,q,l,r⟩:=h;exact⟨a,vs,e,q,l,Reps.more hM ds vs r⟩
 | .exn c f d,v,h=>by
  unfold GU at h ⊢;obtain⟨y,q,r⟩:=h;exact⟨y,q.more hM,GU.more hM d y r⟩
theorem Reps.more(hM:∀b,M' b->M b\/H b=none):∀(ds:List D) (vs:List V),Reps K M H ds vs->Reps K M' H ds vs
 | [],vs,h=>by unfold Reps at h ⊢;exact h
 | d::ds,vs,h=>by
  unfold Reps at h ⊢;obtain⟨v,r,e,q,s⟩:=h;exact⟨v,r,e,GU.more hM d v q,Reps.more hM ds r s⟩
end
mutual
theorem GU.im:∀(d:D) (v:V),d.im=true->GU K M H d v->GU K M' H d v
 | .non,v,_,h=>by unfold GU at h ⊢;exact h
 | .bl b,v,_,h=>by unfold GU at h ⊢;exact h
 | .int i,v,_,h=>by unfold GU at h ⊢;exact h
 | .str x,v,_,h=>by unfold GU at h ⊢;exact h
 | .tup ds,v,i,h=>by
  unfold GU at h ⊢;obtain⟨a,vs,e,q,r⟩:=h;unfold D.im at i;exact⟨a,vs,e,q,Reps.im ds vs i r⟩
 | .lst ds,v,i,h=>by unfold D.im at i;cases i
 | .fz ds,v,i,h=>by
  unfold GU at h ⊢;obtain⟨a,vs,e,q,r⟩:=h;unfold D.im at i;exact⟨a,vs,e,q,Reps.im ds vs i r⟩
 | .dct ks ds,v,i,h=>by unfold D.im at i;cases i
 | .fd ks ds,v,i,h=>by
  unfold GU at h ⊢;obtain⟨a,vs,o,e,q,l,r⟩:=h;unfold D.im at i;exact⟨a,vs,o,e,q,l,Reps.im ds vs i r⟩
 | .fo o ks ds,v,i,h=>by
  unfold GU at h ⊢;obtain⟨a,vs,e,q,l,r⟩:=h;unfold D.im at i;exact⟨a,vs,e,q,l,Reps.im ds vs i r⟩
 | .exn c f d,v,i,h=>by unfold D.im at i;cases i
theorem Reps.im:∀(ds:List D) (vs:List V),D.ims ds=true->Reps K M H ds vs->Reps K M' H ds vs
 | [],vs,_,h=>by unfold Reps at h ⊢;exact h
 | d::ds,vs,i,h=>by
  unfold Reps at h ⊢;obtain⟨v,r,e,q,s⟩:=h;unfold D.ims at i;obtain⟨i1,i2⟩:=Hn.mp i;exact⟨v,r,e,GU.im d v i1 q,Reps.im ds r i2 s⟩
end
def Reps.length:∀(ds:List D) (vs:List V),Reps K M H ds vs->ds.length=vs.length
 | [],vs,h=>by unfold Reps at h;subst h;rfl
 | d::ds,vs,h=>by
  unfold Reps at h;obtain⟨v,r,rfl,q,s⟩:=h;rw[Ha,Ha,Reps.length ds r s]
def Reps.get:∀(ds:List D) (vs:List V),Reps K M H ds vs->∀(i:Nat) (d:D),ds[i]?=some d->∃v,vs[i]?=some v/\GU K M H d v
 | [],vs,h,i,d,e=>by simp at e
 | d::ds,vs,h,i,d',e=>by
  unfold Reps at h;obtain⟨v,r,rfl,q,s⟩:=h
  cases i with
  | zero=>simp at e;subst e;exact⟨v,rfl,q⟩
  | succ i=>exact Reps.get ds r s i d' (by simpa using e)
def Reps.of:∀(ds:List D) (vs:List V),ds.length=vs.length->(∀(i:Nat) d v,ds[i]?=some d->vs[i]?=some v->GU K M H d v)->Reps K M H ds vs
 | [],vs,l,_=>by unfold Reps;exact Iv.mp l.symm
 | d::ds,[],l,_=>by cases l
 | d::ds,v::vs,l,h=>by
  unfold Reps;exact⟨v,vs,rfl,h 0 d v rfl rfl,Reps.of ds vs (Ja l) λi d' v' e e'=>h (i+1) d' v' (by simpa using e) (by simpa using e')⟩
def Reps.append:∀(ds es:List D) (vs ws:List V),Reps K M H ds vs->Reps K M H es ws->Reps K M H (ds++es) (vs++ws)
 | [],es,vs,ws,h,k=>by unfold Reps at h;subst h;exact k
 | d::ds,es,vs,ws,h,k=>by
  unfold Reps at h;obtain⟨v,r,rfl,q,s⟩:=h;show Reps K M H (d::(ds++es)) (v::(r++ws));unfold Reps;exact⟨v,r++ws,rfl,q,Reps.append ds es r ws s k⟩
theorem Reps.one{d:D}(h:GU K M H d v):Reps K M H [d] [v]:=by
 unfold Reps;exact⟨v,[],rfl,h,by unfold Reps;rfl⟩
theorem Reps.nil:Reps K M H [] []:=by unfold Reps;rfl
theorem Reps.cons{d:D}{v:V}{ds:List D}{vs:List V}(h:GU K M H d v)(r:Reps K M H ds vs):Reps K M H (d::ds) (v::vs):=by
 unfold Reps;exact⟨v,vs,rfl,h,r⟩
def Reps.take:∀(n:Nat) (ds:List D) (vs:List V),Reps K M H ds vs->Reps K M H (ds.take n) (vs.take n)
 | 0,ds,vs,h=>by simpa using Reps.nil
 | n+1,[],vs,h=>by unfold Reps at h;subst h;simpa using Reps.nil
 | n+1,d::ds,vs,h=>by
  unfold Reps at h;obtain⟨v,r,rfl,q,s⟩:=h;exact Reps.cons q (Reps.take n ds r s)
def Reps.drop:∀(n:Nat) (ds:List D) (vs:List V),Reps K M H ds vs->Reps K M H (ds.drop n) (vs.drop n)
 | 0,ds,vs,h=>h
 | n+1,[],vs,h=>by unfold Reps at h;subst h;simpa using Reps.nil
 | n+1,d::ds,vs,h=>by
  unfold Reps at h;obtain⟨v,r,rfl,q,s⟩:=h;exact Reps.drop n ds r s
theorem Reps.ints(ns:List Int):Reps K M H (ns.map D.int) (ns.map V.int):=by
 induction ns with
 | nil=>exact Reps.nil
 | cons n r ih=>exact Reps.cons (by unfold GU;rfl) ih
end
inductive Sl where
 | no | dat (d:D) | own (a:Addr) (d:D)
structure Gf where
 M0:Addr->Prop
 H0:Hp
 Pm:Addr->Prop
def bq(K:PySem.W.Frag)(M:Addr->Prop)(H:Hp)(a:Addr):D->Prop
 | .lst ds=>∃vs,H a=some (.lst vs)/\Reps K M H ds vs
 | .dct ks ds=>∃vs,H a=some (.dK (aO ks vs))/\ks.length=ds.length/\Reps K M H ds vs
 | _=>False
structure Sx(K:PySem.W.Frag)(G:Gf)(A:Addr->Prop)(δ:List Sl)(P:List (D×V))(σ:St)(H:Hp):Prop where
 old:∀b o,G.H0 b=some o->¬ G.Pm b->H b=some o
 stay:∀b,G.H0 b≠none->H b≠none
 m0:∀b,G.M0 b->G.H0 b≠none
 pm:∀b,G.Pm b->G.H0 b≠none/\¬ G.M0 b
 new:∀b,A b->G.H0 b=none\/G.Pm b
 thr:∀b,A b->H b≠none
 len:δ.length=σ.length
 dat:∀(i:Nat) d,δ[i]?=some (.dat d)->∃v,σ[i]?=some (some v)/\GU K (λb=>G.M0 b\/A b) H d v
 own:∀(i:Nat) a d,δ[i]?=some (.own a d)->σ[i]?=some (some (.ref a))/\A a/\bq K (λb=>G.M0 b\/A b) H a d
 inj:∀(i j:Nat) a d e,δ[i]?=some (.own a d)->δ[j]?=some (.own a e)->i=j
 pnd:∀p∈P,GU K (λb=>G.M0 b\/A b) H p.1 p.2
def S(K:PySem.W.Frag)(G:Gf)(δ:List Sl)(P:List (D×V))(σ:St)(H:Hp):Prop:=∃A,Sx K G A δ P σ H
inductive aV(K:PySem.W.Frag)(f:List D->(D->Prop)->Prop)(vs:List V)(H:Hp)(Q:VK):Prop
 | mk (M:Addr->Prop) (ds:List D) (R:D->Prop) (m:∀b,M b->H b≠none) (rs:Reps K M H ds vs) (h:f ds R) (k:∀d,R d->∀v H',b9 H H'->GU K M H' d v->Q v H')
section
variable {K:PySem.W.Frag} {G:Gf} {A:Addr→Prop} {δ:List Sl} {P P':List (D×V)} {σ:St} {H H':Hp}
theorem bq.kp{d:D}(k:Kp M H H')(e:H' a=H a)(h:bq K M H a d):bq K M H' a d:=by
 cases d with
 | lst ds =>
  obtain⟨vs,q,r⟩:=h;exact⟨vs,e.trans q,Reps.kp k _ _ r⟩
 | dct ks ds =>
  obtain⟨vs,q,l,r⟩:=h;exact⟨vs,e.trans q,l,Reps.kp k _ _ r⟩
 | _=>exact h.elim
theorem bq.more{M':Addr->Prop}{d:D}(hM:∀b,M' b->M b\/H b=none)(h:bq K M H a d):bq K M' H a d:=by
 cases d with
 | lst ds =>
  obtain⟨vs,q,r⟩:=h;exact⟨vs,q,Reps.more hM _ _ r⟩
 | dct ks ds =>
  obtain⟨vs,q,l,r⟩:=h;exact⟨vs,q,l,Reps.more hM _ _ r⟩
 | _=>exact h.elim
def Sx.sub(s:Sx K G A δ P σ H)(h:∀p∈P',p∈P):Sx K G A δ P' σ H :=
 ⟨s.old,s.stay,s.m0,s.pm,s.new,s.thr,s.len,s.dat,s.own,s.inj,λp hp=>s.pnd p (h p hp)⟩
def S.sub(s:S K G δ P σ H)(h:∀p∈P',p∈P):S K G δ P' σ H:=let ⟨A,x⟩:=s;⟨A,x.sub h⟩
def Sx.same(s:Sx K G A δ P σ H)(h:b9 H H'):Sx K G A δ P σ H' where
 old:=λb o e n=>h b o (s.old b o e n)
 stay:=λb e=>by
  cases q:H b with
  | none=>exact absurd q (s.stay b e)
  | some o=>rw[h b o q];exact λz=>nomatch z
 m0:=s.m0
 pm:=s.pm
 new:=s.new
 thr:=λb e=>by
  cases q:H b with
  | none=>exact absurd q (s.thr b e)
  | some o=>rw[h b o q];exact λz=>nomatch z
 len:=s.len
 dat:=λi d e=>let ⟨v,q,r⟩:=s.dat i d e;⟨v,q,GU.kp (Kp.of_same h) _ _ r⟩
 own:=λi a d e=>by
  obtain⟨q,a1,o⟩:=s.own i a d e;refine⟨q,a1,bq.kp (Kp.of_same h) ?_ o⟩
  cases z:H a with
  | none=>exact absurd z (s.thr a a1)
  | some o=>exact h a o z
 inj:=s.inj
 pnd:=λp hp=>GU.kp (Kp.of_same h) _ _ (s.pnd p hp)
def Sx.push(s:Sx K G A δ P σ H){d:D}(h:GU K (λb=>G.M0 b\/A b) H d v):Sx K G A δ ((d,v)::P) σ H :=
 ⟨s.old,s.stay,s.m0,s.pm,s.new,s.thr,s.len,s.dat,s.own,s.inj,λp hp=>by
  rcases G7.mp hp with rfl | hp
  ·exact h
  ·exact s.pnd p hp⟩
def Sx.mem(s:Sx K G A δ P σ H):∀b,(G.M0 b\/A b)->H b≠none:=λb h=>h.elim (λz=>s.stay b (s.m0 b z)) λz=>s.thr b z
def Sx.reps(s:Sx K G A δ P σ H):∀(ds:List D) (vs:List V),ds.length=vs.length->(∀p∈ds.zip vs,p∈P)->Reps K (λb=>G.M0 b\/A b) H ds vs
 | [],[],_,_=>Reps.nil
 | d::ds,v::vs,l,h=>Reps.cons (s.pnd (d,v) (h _ (G1 ..))) (Sx.reps s ds vs (Ja l) λp hp=>h p (GY _ hp))
theorem S.pure{f:List D->(D->Prop)->Prop}{ds:List D}{R:D->Prop}{Q:VK}(s:S K G δ P σ H)(hl:ds.length=vs.length)(hp:∀p∈ds.zip vs,p∈P)(hs:∀p∈P',p∈P)(hf:f ds R)
  (h:∀d,R d->∀v H',S K G δ ((d,v)::P') σ H'->Q v H'):aV K f vs H Q:=by
 obtain⟨A,x⟩:=s;refine⟨λb=>G.M0 b\/A b,ds,R,x.mem,x.reps ds vs hl hp,hf,λd r v H' sm rp=>h d r v H' ⟨A,?_⟩⟩;exact((x.same sm).sub hs).push rp
theorem Sx.set{i:Nat}{d:D}(s:Sx K G A δ P σ H)(hp:(d,v)∈P)(hs:∀p∈P',p∈P):Sx K G A (δ.set i (.dat d)) P' (σ.set i (some v)) H where
 old:=s.old
 stay:=s.stay
 m0:=s.m0
 pm:=s.pm
 new:=s.new
 thr:=s.thr
 len:=by rw[HS,HS,s.len]
 dat:=λj d' e=>by
  by_cases hij:i=j
  ·subst hij
   by_cases hl:i<δ.length
   ·rw[List.getElem?_set_self hl] at e
    cases e
    exact⟨v,by rw[List.getElem?_set_self (by rw[<- s.len];exact hl)],s.pnd _ hp⟩
   ·rw[List.getElem?_eq_none (by rw[HS];omega)] at e
    cases e
  ·rw[List.getElem?_set_ne hij] at e;obtain⟨v',q,r⟩:=s.dat j d' e;exact⟨v',by rw[List.getElem?_set_ne hij];exact q,r⟩
 own:=λj a d' e=>by
  by_cases hij:i=j
  ·subst hij
   by_cases hl:i<δ.length
   ·rw[List.getElem?_set_self hl] at e
    cases e
   ·rw[List.getElem?_eq_none (by rw[HS];omega)] at e
    cases e
  ·rw[List.getElem?_set_ne hij] at e;obtain⟨q,r⟩:=s.own j a d' e;exact⟨by rw[List.getElem?_set_ne hij];exact q,r⟩
 inj:=λj k a d' e' h1 h2=>by
  have hj:δ[j]?=some (.own a d'):=by
   by_cases hij:i=j
   ·subst hij
    by_cases hl:i<δ.length
    ·rw[List.getElem?_set_self hl] at h1;cases h1
    ·rw[List.getElem?_eq_none (by rw[HS];omega)] at h1;cases h1
   ·rw[List.getElem?_set_ne hij] at h1;exact h1
  have hk:δ[k]?=some (.own a e'):=by
   by_cases hij:i=k
   ·subst hij
    by_cases hl:i<δ.length
    ·rw[List.getElem?_set_self hl] at h2;cases h2
    ·rw[List.getElem?_eq_none (by rw[HS];omega)] at h2;cases h2
   ·rw[List.getElem?_set_ne hij] at h2;exact h2
  exact s.inj j k a d' e' hj hk
 pnd:=λp h=>s.pnd p (hs p h)
def S.set{i:Nat}{d:D}(s:S K G δ P σ H)(hp:(d,v)∈P)(hs:∀p∈P',p∈P):S K G (δ.set i (.dat d)) P' (σ.set i (some v)) H:=let ⟨A,x⟩:=s;⟨A,x.set hp hs⟩
end
end DL
namespace DL
open PySem L2
variable {i:Nat} {a:Addr} {d:D}
section
variable {K:PySem.W.Frag} {G:Gf} {A:Addr→Prop} {δ:List Sl} {P P':List (D×V)} {σ:St} {H H':Hp}
theorem aW{α:Type}{l:List α}{j:Nat}{x y:α}(h:(l.set i x)[j]?=some y):(i=j/\x=y/\i<l.length)\/(i≠j/\l[j]?=some y):=by
 by_cases e:i=j
 ·subst e
  by_cases hl:i<l.length
  ·rw[List.getElem?_set_self hl] at h;exact .inl ⟨rfl,Hg h,hl⟩
  ·rw[List.getElem?_eq_none (by rw[HS];omega)] at h
   cases h
 ·rw[List.getElem?_set_ne e] at h;exact .inr ⟨e,h⟩
theorem Sx.claim(s:Sx K G A δ P σ H)(hn:H a=none)(hs:b9 H H')(ho:bq K (λb=>(G.M0 b\/A b)\/b=a) H' a d)(hP:∀p∈P',p∈P) :
  Sx K G (λb=>A b\/b=a) (δ.set i (.own a d)) P' (σ.set i (some (.ref a))) H':=by
 have x:=s.same hs
 have hM:∀b,(G.M0 b\/(A b\/b=a))->(G.M0 b\/A b)\/H b=none:=λb h=>by
  rcases h with h | h | h
  ·exact .inl (.inl h)
  ·exact .inl (.inr h)
  ·subst h;exact .inr hn
 have hM2:∀b,(G.M0 b\/(A b\/b=a))->((G.M0 b\/A b)\/b=a)\/H' b=none:=λb h=>by
  rcases h with h | h | h
  ·exact .inl (.inl (.inl h))
  ·exact .inl (.inl (.inr h))
  ·exact .inl (.inr h)
 have up:∀d v,GU K (λb=>G.M0 b\/A b) H d v->GU K (λb=>G.M0 b\/(A b\/b=a)) H' d v:=λd v r=>GU.kp (Kp.of_same hs) _ _ (GU.more hM _ _ r)
 have na:∀b,A b->b≠a:=λb h e=>s.thr b h (by rw[e];exact hn)
 have h0:G.H0 a=none:=by
  cases q:G.H0 a with
  | none=>rfl
  | some o=>exact absurd hn (s.stay a (by rw[q];exact λz=>nomatch z))
 have hne:H' a≠none:=by
  cases d with
  | lst ds=>obtain⟨vs,q,_⟩:=ho;rw[q];exact λz=>nomatch z
  | dct ks ds=>obtain⟨vs,q,_⟩:=ho;rw[q];exact λz=>nomatch z
  | _=>exact ho.elim
 refine⟨x.old,x.stay,x.m0,x.pm,λb h=>h.elim (s.new b) λe=>.inl (by rw[e];exact h0),λb h=>h.elim (x.thr b) λe=>by rw[e];exact hne,by rw[HS,HS,s.len],λj d' e=>?_,λj b d' e=>?_,
  λj k b d' e' h1 h2=>?_,λp hp=>up _ _ (s.pnd p (hP p hp))⟩
 ·rcases aW e with⟨_,z,_⟩ | ⟨hij,e⟩
  ·cases z
  ·obtain⟨v,q,r⟩:=s.dat j d' e;exact⟨v,by rw[List.getElem?_set_ne hij];exact q,up _ _ r⟩
 ·rcases aW e with⟨hij,z,hl⟩ | ⟨hij,e⟩
  ·cases z
   subst hij;exact⟨by rw[List.getElem?_set_self (by rw[<- s.len];exact hl)],.inr rfl,bq.more hM2 ho⟩
  ·obtain⟨q,r,o⟩:=s.own j b d' e;refine⟨by rw[List.getElem?_set_ne hij];exact q,.inl r,bq.kp (Kp.of_same hs) ?_ (bq.more hM o)⟩
   cases z:H b with
   | none=>exact absurd z (s.thr b r)
   | some o'=>exact hs b o' z
 ·rcases aW h1 with⟨hij,z,hl⟩ | ⟨hij,e⟩
  ·cases z
   rcases aW h2 with⟨hik,_,_⟩ | ⟨hik,e2⟩
   ·rw[<- hij,<- hik]
   ·exact absurd rfl (na _ (s.own k _ _ e2).2.1)
  ·rcases aW h2 with⟨hik,z,_⟩ | ⟨hik,e2⟩
   ·cases z
    exact absurd rfl (na _ (s.own j _ _ e).2.1)
   ·exact s.inj j k b d' e' e e2
theorem Sx.change{d':D}(s:Sx K G A δ P σ H)(hi:δ[i]?=some (.own a d))(hk:∀b o,b≠a->H b=some o->H' b=some o)(ho:bq K (λb=>G.M0 b\/A b) H' a d') :
  Sx K G A (δ.set i (.own a d')) P σ H':=by
 obtain⟨si,ai,oi⟩:=s.own i a d hi;have hmu:(∀xs,H a≠some (.tup xs))/\∀o u,H a≠some (.frz o u):=by
  cases d with
  | lst ds=>obtain⟨vs,q,_⟩:=oi;rw[q];exact⟨λ_ z=>(nomatch z),λ_ _ z=>(nomatch z)⟩
  | dct ks ds=>obtain⟨vs,q,_⟩:=oi;rw[q];exact⟨λ_ z=>(nomatch z),λ_ _ z=>(nomatch z)⟩
  | _=>exact oi.elim
 have hne:H' a≠none:=by
  cases d' with
  | lst ds=>obtain⟨vs,q,_⟩:=ho;rw[q];exact λz=>nomatch z
  | dct ks ds=>obtain⟨vs,q,_⟩:=ho;rw[q];exact λz=>nomatch z
  | _=>exact ho.elim
 have kp:Kp (λb=>G.M0 b\/A b) H H':=⟨λb o e n=>hk b o (λz=>n (.inr (by rw[z];exact ai))) e,λb xs e=>hk b _ (λz=>hmu.1 xs (by rw[<- z];exact e)) e,
  λb o u e=>hk b _ (λz=>hmu.2 o u (by rw[<- z];exact e)) e⟩
 have stay:∀b,H b≠none->H' b≠none:=λb e=>by
  by_cases z:b=a
  ·rw[z];exact hne
  ·cases q:H b with
   | none=>exact absurd q e
   | some o=>rw[hk b o z q];exact λz=>nomatch z
 have na:∀b o,G.H0 b=some o->¬ G.Pm b->b≠a:=λb o e n z=>(s.new a ai).elim (λq=>by rw[z] at e;rw[e] at q;cases q) λq=>n (by rw[z];exact q)
 refine⟨λb o e n=>hk b o (na b o e n) (s.old b o e n),λb e=>stay b (s.stay b e),s.m0,s.pm,s.new,λb e=>stay b (s.thr b e),by rw[HS,s.len],λj x e=>?_,λj b x e=>?_,λj k b x y h1 h2=>?_,
  λp hp=>GU.kp kp _ _ (s.pnd p hp)⟩
 ·rcases aW e with⟨_,z,_⟩ | ⟨hij,e⟩
  ·cases z
  ·obtain⟨v,q,r⟩:=s.dat j x e;exact⟨v,q,GU.kp kp _ _ r⟩
 ·rcases aW e with⟨hij,z,hl⟩ | ⟨hij,e9⟩
  ·cases z
   subst hij;exact⟨si,ai,ho⟩
  ·clear e;obtain⟨q,r,o⟩:=s.own j b x e9;have hb:b≠a:=λz=>by rw[z] at e9;exact hij (s.inj _ _ _ _ _ hi e9)
   refine⟨q,r,bq.kp kp ?_ o⟩
   cases z:H b with
   | none=>exact absurd z (s.thr b r)
   | some o'=>exact hk b o' hb z
 ·have hj:∃x',δ[j]?=some (.own b x'):=by
   rcases aW h1 with⟨hij,z,hl⟩ | ⟨hij,e⟩
   ·cases z;subst hij;exact⟨_,hi⟩
   ·exact⟨_,e⟩
  have hk':∃x',δ[k]?=some (.own b x'):=by
   rcases aW h2 with⟨hij,z,hl⟩ | ⟨hij,e⟩
   ·cases z;subst hij;exact⟨_,hi⟩
   ·exact⟨_,e⟩
  obtain⟨x1,e1⟩:=hj;obtain⟨x2,e2⟩:=hk';exact s.inj j k b x1 x2 e1 e2
theorem bq.rep{M M':Addr->Prop}(h:bq K M H a d)(n:¬ M' a)(hM:∀b,M' b->M b):GU K M' H d (.ref a):=by
 cases d with
 | lst ds =>
  obtain⟨vs,q,r⟩:=h;unfold GU;exact⟨a,vs,rfl,n,q,Reps.more (λb z=>.inl (hM b z)) _ _ r⟩
 | dct ks ds =>
  obtain⟨vs,q,l,r⟩:=h;unfold GU;exact⟨a,vs,rfl,n,q,l,Reps.more (λb z=>.inl (hM b z)) _ _ r⟩
 | _=>exact h.elim
theorem Sx.freeze(s:Sx K G A δ P σ H)(hi:δ[i]?=some (.own a d))(hp:¬ G.M0 a):Sx K G (λb=>A b/\b≠a) (δ.set i (.dat d)) P σ H:=by
 obtain⟨si,ai,oi⟩:=s.own i a d hi;have hM:∀b,(G.M0 b\/(A b/\b≠a))->(G.M0 b\/A b):=λb h=>h.elim .inl λz=>.inr z.1;have dn:∀d v,GU K (λb=>G.M0 b\/A b) H d v->GU K (λb=>G.M0 b\/(A b/\b≠a)) H d v:=λd v r=>GU.more (λb z=>.inl (hM b z)) _ _ r;refine⟨s.old,s.stay,s.m0,s.pm,λb h=>s.new b h.1,λb h=>s.thr b h.1,by rw[HS,s.len],λj x e=>?_,λj b x e=>?_,λj k b x y h1 h2=>?_,λp hp=>dn _ _ (s.pnd p hp)⟩
 ·rcases aW e with⟨hij,z,_⟩ | ⟨hij,e⟩
  ·cases z;subst hij
   exact⟨.ref a,si,oi.rep (λz=>z.elim hp λq=>q.2 rfl) hM⟩
  ·obtain⟨v,q,r⟩:=s.dat j x e;exact⟨v,q,dn _ _ r⟩
 ·rcases aW e with⟨_,z,_⟩ | ⟨hij,e9⟩
  ·cases z
  ·clear e;obtain⟨q,r,o⟩:=s.own j b x e9;have hb:b≠a:=λz=>by rw[z] at e9;exact hij (s.inj _ _ _ _ _ hi e9)
   exact⟨q,⟨r,hb⟩,bq.more (λb z=>.inl (hM b z)) o⟩
 ·rcases aW h1 with⟨_,z,_⟩ | ⟨_,e1⟩
  ·cases z
  ·rcases aW h2 with⟨_,z,_⟩ | ⟨_,e2⟩
   ·cases z
   ·exact s.inj j k b x y e1 e2
end
end DL
namespace DL
open PySem PySem.Spec PyProof.Rows L2
variable {x d:D} {k:List D→Prop} {o:Option Sl} {G:Gf} {A:Addr→Prop} {P:List (D×V)} {σ:L2.St} {H:Hp} {i n:Nat} {es:List Expr} {v:V} {p:Pos}
inductive W where
 | d (x:D) | o (i:Nat)
abbrev En:=List Sl
abbrev GS:=En->(W->En->Prop)->Prop
abbrev TDA:=En->(List D->En->Prop)->Prop
abbrev TDT:=En->(Bool->En->Prop)->Prop
structure a6 where
 nx:En->Prop
 rt:D->En->Prop
 bk:En->Prop:=λ_=>False
 ct:En->Prop:=λ_=>False
 ro:D->Prop:=λ_=>False
 tp:Prop:=False
 ex:Str->Str->D->Prop:=λ_ _ _=>False
abbrev TDS:=a6->En->Prop
abbrev TDG:=D->En->(En->Prop)->Prop
abbrev yw:=List D->En->(En->Prop)->Prop
def wd(R:D->En->Prop):W->En->Prop
 | .d x,δ=>R x δ
 | .o _,_=>False
def qB:D->(Bool->Prop)->Prop
 | .bl b,k=>k b
 | _,_=>False
def qI:D->(Int->Prop)->Prop
 | .int b,k=>k b
 | _,_=>False
def qX:D->(Str->Prop)->Prop
 | .str b,k=>k b
 | _,_=>False
def qT:D->(List D->Prop)->Prop
 | .tup b,k=>k b
 | _,_=>False
def qL:D->(List D->Prop)->Prop
 | .lst b,k=>k b
 | _,_=>False
def qW:Option Sl->(Addr->D->Prop)->Prop
 | some (.own a d),k=>k a d
 | _,_=>False
def qD:Option Sl->(D->Prop)->Prop
 | some (.dat d),k=>k d
 | _,_=>False
def qWL(o:Option Sl)(k:Addr->List D->Prop):Prop:=qW o λa d=>qL d λxs=>k a xs
def qG:D->(List Str->List D->Prop)->Prop
 | .dct ks ds,k=>k ks ds
 | _,_=>False
def qWD(o:Option Sl)(k:Addr->List Str->List D->Prop):Prop:=qW o λa d=>qG d λks ds=>k a ks ds
def qF:D->(List Str->List D->Prop)->Prop
 | .fd ks ds,k=>k ks ds
 | _,_=>False
def qV{α:Type}:Option α->(α->Prop)->Prop
 | some a,k=>k a
 | none,_=>False
def qN:List D->Prop->Prop
 | [],k=>k
 | _::_,_=>False
def qC:List D->(D->List D->Prop)->Prop
 | x::r,k=>k x r
 | [],_=>False
def q9:List D->Prop->Prop
 | [],k=>k
 | [_],k=>k
 | [_,_],k=>k
 | [_,_,_],k=>k
 | [_,_,_,_],k=>k
 | xs,k=>xs.length<=9000/\k
def qWe(o:Option Sl)(k:D->Prop):Prop:=qW o λ_ d=>k d
def wn(o:Option Sl)(k:List D->Prop):Prop:=qW o λ_ d=>qL d λxs=>k xs
def Ar(o:Option Sl)(k:List Str->List D->Prop):Prop:=qW o λ_ d=>qG d λks ds=>k ks ds
def jO(δ:En)(i:Nat)(x:Sl)(k:En->Prop):Prop:=k (δ.set i x)
def sV:List D->Nat->Prop->Prop
 | [],0,k=>k
 | _::r,n+1,k=>sV r n k
 | _,_,_=>False
def sV.ex{k:Prop}:∀ {xs:List D} {n:Nat},sV xs n k->xs.length=n/\k
 | [],0,h=>⟨rfl,h⟩
 | _::r,n+1,h=>let ⟨a,b⟩:=sV.ex (xs:=r) (n:=n) h;⟨by rw[Ha,a],b⟩
 | [],_+1,h=>False.elim h
 | _::_,0,h=>False.elim h
def kD(R:W->En->Prop)(δ:En)(d:D):Prop:=R (.d d) δ
theorem qB.ex{k:Bool->Prop}(h:qB x k):∃b,x=.bl b/\k b:=by cases x<;>first | exact False.elim h | exact⟨_,rfl,h⟩
theorem qI.ex{k:Int->Prop}(h:qI x k):∃b,x=.int b/\k b:=by cases x<;>first | exact False.elim h | exact⟨_,rfl,h⟩
theorem qX.ex{k:Str->Prop}(h:qX x k):∃b,x=.str b/\k b:=by cases x<;>first | exact False.elim h | exact⟨_,rfl,h⟩
theorem qT.ex(h:qT x k):∃b,x=.tup b/\k b:=by cases x<;>first | exact False.elim h | exact⟨_,rfl,h⟩
theorem qL.ex(h:qL x k):∃b,x=.lst b/\k b:=by cases x<;>first | exact False.elim h | exact⟨_,rfl,h⟩
theorem qF.ex{k:List Str->List D->Prop}(h:qF x k):∃ks ds,x=.fd ks ds/\k ks ds:=by cases x<;>first | exact False.elim h | exact⟨_,_,rfl,h⟩
theorem qG.ex{k:List Str->List D->Prop}(h:qG x k):∃ks ds,x=.dct ks ds/\k ks ds:=by cases x<;>first | exact False.elim h | exact⟨_,_,rfl,h⟩
theorem qW.ex{k:Addr->D->Prop}(h:qW o k):∃a d,o=some (.own a d)/\k a d:=by
 cases o with
 | none=>exact False.elim h
 | some x=>cases x<;>first | exact False.elim h | exact⟨_,_,rfl,h⟩
theorem qD.ex{k:D->Prop}(h:qD o k):∃d,o=some (.dat d)/\k d:=by
 cases o with
 | none=>exact False.elim h
 | some x=>cases x<;>first | exact False.elim h | exact⟨_,rfl,h⟩
theorem qWL.ex{k:Addr->List D->Prop}(h:qWL o k):∃a d,o=some (.own a (.lst d))/\k a d:=by
 replace h:=qW.ex h;obtain⟨a,d,rfl,h⟩:=h;replace h:=qL.ex h;obtain⟨xs,rfl,h⟩:=h;exact⟨_,_,rfl,h⟩
theorem qWD.ex{k:Addr->List Str->List D->Prop}(h:qWD o k):∃a ks ds,o=some (.own a (.dct ks ds))/\k a ks ds:=by
 replace h:=qW.ex h;obtain⟨a,d,rfl,h⟩:=h;replace h:=qG.ex h;obtain⟨ks,ds,rfl,h⟩:=h;exact⟨_,_,_,rfl,h⟩
theorem qWe.ex{K:PySem.W.Frag}{δ:En}{a:Addr}{k:D->Prop}(x:Sx K G A δ P σ H)(e:σ[i]?=some (some (.ref a)))(h:qWe δ[i]? k):∃d,δ[i]?=some (.own a d)/\k d:=by
 obtain⟨b,d,hi,h⟩:=qW.ex h;have q:=(x.own i b d hi).1;rw[e] at q
 cases q
 exact⟨_,hi,h⟩
theorem wn.ex{K:PySem.W.Frag}{δ:En}{a:Addr}(x:Sx K G A δ P σ H)(e:σ[i]?=some (some (.ref a)))(h:wn δ[i]? k):∃d,δ[i]?=some (.own a (.lst d))/\k d:=by
 obtain⟨d,hi,h⟩:=qWe.ex (k:=λd=>qL d k) x e h;obtain⟨xs,rfl,h⟩:=qL.ex h;exact⟨_,hi,h⟩
theorem Ar.ex{K:PySem.W.Frag}{δ:En}{a:Addr}{k:List Str->List D->Prop}(x:Sx K G A δ P σ H)(e:σ[i]?=some (some (.ref a)))(h:Ar δ[i]? k):∃ks ds,δ[i]?=some (.own a (.dct ks ds))/\k ks ds:=by
 obtain⟨d,hi,h⟩:=qWe.ex (k:=λd=>qG d k) x e h;obtain⟨ks,ds,rfl,h⟩:=qG.ex h;exact⟨_,_,hi,h⟩
theorem qV.ex{α:Type}{o:Option α}{k:α->Prop}(h:qV o k):∃a,o=some a/\k a:=by
 cases o with
 | none=>exact False.elim h
 | some x=>exact⟨_,rfl,h⟩
theorem qV.of{α:Type}{o:Option α}{k:α->Prop}{a:α}(e:o=some a)(h:k a):qV o k:=by rw[e];exact h
theorem qN.ex{x:List D}{k:Prop}(h:qN x k):x=[]/\k:=by
 cases x with
 | nil=>exact⟨rfl,h⟩
 | cons _ _=>exact False.elim h
theorem qC.ex{x:List D}{k:D->List D->Prop}(h:qC x k):∃a r,x=a::r/\k a r:=by
 cases x with
 | nil=>exact False.elim h
 | cons _ _=>exact⟨_,_,rfl,h⟩
theorem q9.ex{x:List D}{k:Prop}(h:q9 x k):x.length<=9000/\k:=by
 rcases x with _ | ⟨a,_ | ⟨b,_ | ⟨c,_ | ⟨d,_ | ⟨e,l⟩⟩⟩⟩⟩
 ·exact⟨Ie _,h⟩
 ·exact⟨(by simp only[List.length_cons,List.length_nil];omega),h⟩
 ·exact⟨(by simp only[List.length_cons,List.length_nil];omega),h⟩
 ·exact⟨(by simp only[List.length_cons,List.length_nil];omega),h⟩
 ·exact⟨(by simp only[List.length_cons,List.length_nil];omega),h⟩
 ·exact h
inductive Up(K:PySem.W.Frag)(t:GS)(σ:L2.St)(H:Hp)(Q:VK):Prop
 | mk (G:Gf) (δ:En) (P:List (D×V)) (R:W->En->Prop) (s:S K G δ P σ H) (h:t δ R) (k:(∀x δ',R (.d x) δ'->∀v H',S K G δ' ((x,v)::P) σ H'->Q v H')/\(∀i δ',R (.o i) δ'->∀a d H',S K G δ' P σ H'->δ'[i]?=some (.own a d)->Q (.ref a) H'))
def up(K:PySem.W.Frag)(t:GS):TE:=Up K t
inductive UpA(K:PySem.W.Frag)(t:TDA)(σ:L2.St)(H:Hp)(Q:List V->Hp->Prop):Prop
 | mk (G:Gf) (δ:En) (P:List (D×V)) (R:List D->En->Prop) (s:S K G δ P σ H) (h:t δ R) (k:∀ds δ',R ds δ'->∀vs H',ds.length=vs.length->S K G δ' (ds.zip vs++P) σ H'->Q vs H')
def upA(K:PySem.W.Frag)(t:TDA):TA:=UpA K t
inductive UpT(K:PySem.W.Frag)(t:TDT)(σ:L2.St)(H:Hp)(Q:Bool->Hp->Prop):Prop
 | mk (G:Gf) (δ:En) (P:List (D×V)) (R:Bool->En->Prop) (s:S K G δ P σ H) (h:t δ R) (k:∀b δ',R b δ'->∀H',S K G δ' P σ H'->Q b H')
def upT(K:PySem.W.Frag)(t:TDT):TT:=UpT K t
inductive UpG(K:PySem.W.Frag)(t:TDG)(v:V)(σ:L2.St)(H:Hp)(Q:L2.St->Hp->Prop):Prop
 | mk (G:Gf) (δ:En) (P:List (D×V)) (d:D) (R:En->Prop) (s:S K G δ ((d,v)::P) σ H) (h:t d δ R) (k:∀δ',R δ'->∀σ' H',S K G δ' P σ' H'->Q σ' H')
def upG(K:PySem.W.Frag)(t:TDG):TG:=UpG K t
inductive UpGs(K:PySem.W.Frag)(t:yw)(vs:List V)(σ:L2.St)(H:Hp)(Q:L2.St->Hp->Prop):Prop
 | mk (G:Gf) (δ:En) (P:List (D×V)) (ds:List D) (R:En->Prop) (hl:ds.length=vs.length) (s:S K G δ (ds.zip vs++P) σ H) (h:t ds δ R) (k:∀δ',R δ'->∀σ' H',S K G δ' P σ' H'->Q σ' H')
def upGs(K:PySem.W.Frag)(t:yw):TGs:=UpGs K t
def yD(K:PySem.W.Frag)(G:Gf)(H':Hp)(a:Addr)(d:D):Prop:=(∀b o,G.H0 b=some o->¬ G.Pm b->H' b=some o)/\(G.H0 a=none\/G.Pm a)/\¬ G.M0 a/\bq K (λb=>G.M0 b\/b=a) H' a d
inductive UpS(K:PySem.W.Frag)(W:XK)(t:TDS)(E:BA)(σ:L2.St)(H:Hp):Prop
 | mk (G:Gf) (δ:En) (P:List (D×V)) (R:a6) (s:S K G δ P σ H) (h:t R δ) (k:(∀δ',R.nx δ'->∀σ' H',S K G δ' P σ' H'->E.nx σ' H')/\((∀d δ',R.rt d δ'->∀v σ' H',S K G δ' ((d,v)::P) σ' H'->E.rt v H')/\(∀d,R.ro d->∀a H',yD K G H' a d->E.rt (.ref a) H')/\∀c f d,R.ex c f d->∀e C dx δ' σ' H',S K G δ' ((.exn c f d,.ref e)::P) σ' H'->H' e=some (XAt e C dx)->W (.ref e) (some dx) H') /\
 (∀δ',R.bk δ'->∀σ' H',S K G δ' P σ' H'->E.bk σ' H')/\(∀δ',R.ct δ'->∀σ' H',S K G δ' P σ' H'->E.ct σ' H')/\(R.tp->P=[]/\∀b o,G.H0 b=some o->∃ob xs,o=.frz ob (.lst xs)))
def exs{K:PySem.W.Frag}{W:XK}{R:Str->Str->D->Prop}{q:D×V}(k:∀c f d,R c f d->∀e C dx δ' σ' H',S K G δ' ((.exn c f d,.ref e)::P) σ' H'->H' e=some (XAt e C dx)->W (.ref e) (some dx) H') :
  ∀c f d,R c f d->∀e C dx δ' σ' H',S K G δ' ((.exn c f d,.ref e)::q::P) σ' H'->H' e=some (XAt e C dx)->W (.ref e) (some dx) H':=λc f d r e C dx δ' σ' H' s=>k c f d r e C dx δ' σ' H' (s.sub λp hp=>by
 rcases G7.mp hp with rfl | hp
 ·simp
 ·simp[hp])
def TbOk(h:Heap)(e:Addr)(t:Value):Prop:=t=.none\/∃T oT ts,t=.ref T/\T≠e/\h.get? T=some oT/\oT.data=.fields ts/\ts[3]?=some .none
structure BW(X:Cx)(pins:List (Addr×Obj))(H':Hp)(e C dx:Addr)(s':Shared):Prop where
 ex:∃(σ:L2.St) (a t:Value),L2.Inv X pins σ H' s'/\s'.heap.get? e=some (xob C (some dx) a t)/\TbOk s'.heap e t /\
  (∀T,t=.ref T->H' T=none/\X.s₀.heap.objs.size<=T/\T≠X.env.locals/\(∀x c,X.env.cells.lookup x=some c->c≠T)/\∀p∈X.pn++pins,p.1≠T)/\H' e=some (XAt e C dx)
def XEs(X:Cx):XK:=λev dxo H'=>∀e C dx pins s',ev=.ref e->dxo=some dx->BW X pins H' e C dx s'->X.xe (.ref e) s'
def upS(X:Cx)(t:TDS):TS:=UpS X.K (XEs X) t
def DE(X:Cx)(e:Expr)(t:GS):Prop:=PE X e (up X.K t)
def DA(X:Cx)(es:List Expr)(t:TDA):Prop:=PA X es (upA X.K t)
def DT(X:Cx)(e:Expr)(t:TDT):Prop:=PT X e (upT X.K t)
def DW(X:Cx)(e:Expr)(t:TDT):Prop:=PW X e (upT X.K t)
def DG(X:Cx)(e:Expr)(t:TDG):Prop:=PG X e (upG X.K t)
def DGs(X:Cx)(e:List Expr)(t:yw):Prop:=PGs X e (upGs X.K t)
def DS(X:Cx)(st:Stmt)(t:TDS):Prop:=PS X st (upS X t)
def DSs(X:Cx)(st:List Stmt)(t:TDS):Prop:=PSs X st (upS X t)
section
variable {X:Cx} {e:Expr} {pos:Pos}
def PE.imp{t t':TE}(h:PE X e t)(i:∀σ H Q,t' σ H Q->t σ H Q):PE X e t':=λpins s σ H Q I q=>h pins s σ H Q I (i σ H Q q)
def PT.imp{t t':TT}(h:PT X e t)(i:∀σ H Q,t' σ H Q->t σ H Q):PT X e t':=λpins s σ H Q I q=>h pins s σ H Q I (i σ H Q q)
def PW.imp{t t':TT}(h:PW X e t)(i:∀σ H Q,t' σ H Q->t σ H Q):PW X e t':=λwh pins s σ H Q I q=>h wh pins s σ H Q I (i σ H Q q)
def PA.imp{t t':TA}(h:PA X es t)(i:∀σ H Q,t' σ H Q->t σ H Q):PA X es t':=λp pins s σ H Q I q=>h p pins s σ H Q I (i σ H Q q)
def PS.imp{st:Stmt}{t t':TS}(h:PS X st t)(i:∀E σ H,t' E σ H->t E σ H):PS X st t':=λpins s σ H D I q=>h pins s σ H D I (i D σ H q)
def PSs.imp{st:List Stmt}{t t':TS}(h:PSs X st t)(i:∀E σ H,t' E σ H->t E σ H):PSs X st t':=λpins s σ H D I q=>h pins s σ H D I (i D σ H q)
def PG.imp{t t':TG}(h:PG X e t)(i:∀v σ H Q,t' v σ H Q->t v σ H Q):PG X e t':=λpins s σ H v u Q I r q=>h pins s σ H v u Q I r (i v σ H Q q)
def PGs.imp{t t':TGs}(h:PGs X es t)(i:∀v σ H Q,t' v σ H Q->t v σ H Q):PGs X es t':=λpins s σ H v u Q I r q=>h pins s σ H v u Q I r (i v σ H Q q)
def GM.imp{f:Value->Value->Sem Value}{r r':R2}(h:GM X f r)(i:∀x y H Q,r' x y H Q->r x y H Q):GM X f r':=λpins s σ H x y v u Q I rx ry q=>h pins s σ H x y v u Q I rx ry (i x y H Q q)
def UnR.imp{f:Value->Sem Value}{r r':V->Hp->VK->Prop}(h:UnR X f r)(i:∀x H Q,r' x H Q->r x H Q):UnR X f r':=λpins s σ H x v Q I rx q=>h pins s σ H x v Q I rx (i x H Q q)
def bW.imp{f:Value}{r r':List V->Hp->VK->Prop}(h:bW X f r)(i:∀xs H Q,r' xs H Q->r xs H Q):bW X f r':=λpins s σ H x v Q I rx q=>h pins s σ H x v Q I rx (i x H Q q)
def IxR.imp{r r':R2}(h:IxR X r)(i:∀x y H Q,r' x y H Q->r x y H Q):IxR X r':=λvalue slice pins s σ H x y v u Q I rx ry q hs=>h value slice pins s σ H x y v u Q I rx ry (i x y H Q q) hs
end
section
variable {K:PySem.W.Frag} {G:Gf} {δ:En} {P:List (D×V)} {σ:L2.St} {H:Hp}
def up.mk{t:GS}{R:D->En->Prop}{Q:VK}(s:S K G δ P σ H)(h:t δ (wd R))(k:∀x δ',R x δ'->∀v H',S K G δ' ((x,v)::P) σ H'->Q v H'):up K t σ H Q:=⟨G,δ,P,wd R,s,h,k,λ_ _ z=>z.elim⟩
theorem S.dat(s:S K G δ P σ H)(e:δ[i]?=some (.dat d)):∃v,σ[i]?=some (some v)/\S K G δ ((d,v)::P) σ H:=by
 obtain⟨A,x⟩:=s;obtain⟨v,q,r⟩:=x.dat i d e;exact⟨v,q,A,x.push r⟩
def S.own{a:Addr}(s:S K G δ P σ H)(e:δ[i]?=some (.own a d)):σ[i]?=some (some (.ref a)):=let ⟨_,x⟩:=s;(x.own i a d e).1
def sc:D->Option V
 | .non=>some .non
 | .bl b=>some (.bl b)
 | .int i=>some (.int i)
 | .str x=>some (.str x)
 | _=>none
theorem GU.sc{M:Addr->Prop}(h:sc d=some v):GU K M H d v:=by
 cases d<;>simp only[DL.sc,Option.some.injEq,reduceCtorEq] at h<;>subst h<;>unfold GU<;>rfl
def S.sc(s:S K G δ P σ H)(h:sc d=some v):S K G δ ((d,v)::P) σ H:=let ⟨A,x⟩:=s;⟨A,x.push (GU.sc h)⟩
end
def dV(i:Nat)(δ:En)(R:W->En->Prop):Prop:=qD δ[i]? λd=>R (.d d) δ
def dC(d:D)(δ:En)(R:W->En->Prop):Prop:=R (.d d) δ
def kOb(f:List D->(D->Prop)->Prop)(x:D)(R:W->En->Prop):W->En->Prop:=wd λy δ2=>f [x,y] (kD R δ2)
def kOa(f:List D->(D->Prop)->Prop)(tb:GS)(R:W->En->Prop):W->En->Prop:=wd λx δ1=>tb δ1 (kOb f x R)
def dOp(f:List D->(D->Prop)->Prop)(ta tb:GS)(δ:En)(R:W->En->Prop):Prop:=ta δ (kOa f tb R)
def kUn(f:List D->(D->Prop)->Prop)(R:W->En->Prop):W->En->Prop:=wd λx δ1=>f [x] (kD R δ1)
def dUn(f:List D->(D->Prop)->Prop)(ta:GS)(δ:En)(R:W->En->Prop):Prop:=ta δ (kUn f R)
def Ca(δ:En)(R:List D->En->Prop):Prop:=R [] δ
def kAd(x:D)(R:List D->En->Prop)(ds:List D)(δ:En):Prop:=R (x::ds) δ
def kAc(t:TDA)(R:List D->En->Prop):W->En->Prop:=wd λx δ1=>t δ1 (kAd x R)
def y6(te:GS)(t:TDA)(δ:En)(R:List D->En->Prop):Prop:=te δ (kAc t R)
def kCa(f:List D->(D->Prop)->Prop)(R:W->En->Prop)(ds:List D)(δ:En):Prop:=f ds (kD R δ)
def sQ(f:List D->(D->Prop)->Prop)(t:TDA)(δ:En)(R:W->En->Prop):Prop:=t δ (kCa f R)
def kTu(R:W->En->Prop)(ds:List D)(δ:En):Prop:=q9 ds (R (.d (.tup ds)) δ)
def dTup(t:TDA)(δ:En)(R:W->En->Prop):Prop:=t δ (kTu R)
def kLs(R:W->En->Prop)(ds:List D)(δ:En):Prop:=q9 ds (R (.d (.lst ds)) δ)
def dLst(t:TDA)(δ:En)(R:W->En->Prop):Prop:=t δ (kLs R)
def kTs(R:Bool->En->Prop):W->En->Prop:=wd λx δ1=>qB x λb=>R b δ1
def dTst(t:GS)(δ:En)(R:Bool->En->Prop):Prop:=t δ (kTs R)
def kAn(u:TDT)(R:Bool->En->Prop)(b:Bool)(δ:En):Prop:=if b=true then u δ R else R false δ
def dAnd(t u:TDT)(δ:En)(R:Bool->En->Prop):Prop:=t δ (kAn u R)
def kOr(u:TDT)(R:Bool->En->Prop)(b:Bool)(δ:En):Prop:=if b=true then R true δ else u δ R
def dOr(t u:TDT)(δ:En)(R:Bool->En->Prop):Prop:=t δ (kOr u R)
def kNo(R:Bool->En->Prop)(b:Bool)(δ:En):Prop:=R (!b) δ
def dNot(t:TDT)(δ:En)(R:Bool->En->Prop):Prop:=t δ (kNo R)
def kAV(u:GS)(R:W->En->Prop):W->En->Prop:=wd λx δ1=>qB x λb=>if b=true then u δ1 R else R (.d (.bl false)) δ1
def Ez(t u:GS)(δ:En)(R:W->En->Prop):Prop:=t δ (kAV u R)
def kOV(u:GS)(R:W->En->Prop):W->En->Prop:=wd λx δ1=>qB x λb=>if b=true then R (.d (.bl true)) δ1 else u δ1 R
def dOrV(t u:GS)(δ:En)(R:W->En->Prop):Prop:=t δ (kOV u R)
def kNV(R:W->En->Prop):W->En->Prop:=wd λx δ1=>qB x λb=>R (.d (.bl (!b))) δ1
def Cw(t:GS)(δ:En)(R:W->En->Prop):Prop:=t δ (kNV R)
def kIE(t u:GS)(R:W->En->Prop)(b:Bool)(δ:En):Prop:=if b=true then t δ R else u δ R
def dIfE(c:TDT)(t u:GS)(δ:En)(R:W->En->Prop):Prop:=c δ (kIE t u R)
section
variable {X:Cx} {pos:Pos} {a b c:Expr} {ta tb:GS} {t:TDA} {f:List D→(D→Prop)→Prop} {es:List Expr}
theorem ak(i:Nat){x:Str}(hN:X.N[i]?=some x:=by rfl)(hv:Vis X.env.scope x:=by walk_at "v3")(hd:(x==("__debug__":Str))=false:=by decide)
  (hcd:(x==("__classdict__":Str))=false:=by decide):DE X (.Name x pos) (dV i):=PE.imp (dF hN hv hd hcd) λσ H Q ⟨G,δ,P,R,s,h,k,_⟩=>by
 replace h:=qD.ex h;obtain⟨d,e,h⟩:=h;obtain⟨v,q,s'⟩:=s.dat e;exact⟨v,q,k d δ h v H s'⟩
def de_c(h:PE X a (tC v))(hs:sc d=some v):DE X a (dC d):=PE.imp h λσ H Q ⟨G,δ,P,R,s,r,k,_⟩=>k d δ r v H (s.sc hs)
def ar{i j pos}:DE X (.Constant (.int i) j pos) (dC (.int i)):=de_c yJ rfl
def dh{i j pos}:DE X (.Constant (.bool i) j pos) (dC (.bl i)):=de_c Fq rfl
def kq{j pos}:DE X (.Constant .none j pos) (dC .non):=de_c Cp rfl
def ay{x j pos}:DE X (.Constant (.str x) j pos) (dC (.str x)):=de_c qP rfl
def aD{op:Operator}(ho:GM X (binaryOp op) λx y=>aV X.K f [x,y])(ha:DE X a ta)(hb:DE X b tb):DE X (.BinOp a op b pos) (dOp f ta tb) :=
 PE.imp (EW ho ha hb) λσ H Q ⟨G,δ,P,R,s,h,k,_⟩=>up.mk s h λx δ1 h1 v H1 s1=>up.mk s1 h1 λy δ2 h2 u H2 s2 =>
  S.pure (P':=P) (ds:=[x,y]) (vs:=[v,u]) s2 rfl (by simp) (λp hp=>by simp[hp]) h2 λd r v' H' s'=>k d δ2 r v' H' s'
def bU{op:CmpOp}(ho:GM X (compareOp op) λx y=>aV X.K f [x,y])(ha:DE X a ta)(hb:DE X b tb)(hm:behindInMarks op b=false):DE X (.Compare a [op] [b] pos) (dOp f ta tb) :=
 PE.imp (AA ho ha hb hm) λσ H Q ⟨G,δ,P,R,s,h,k,_⟩=>up.mk s h λx δ1 h1 v H1 s1=>up.mk s1 h1 λy δ2 h2 u H2 s2 =>
  S.pure (P':=P) (ds:=[x,y]) (vs:=[v,u]) s2 rfl (by simp) (λp hp=>by simp[hp]) h2 λd r v' H' s'=>k d δ2 r v' H' s'
def aE{op:CmpOp}(ho:GM X (compareOp op) λx y=>aV X.K f [x,y])(ha:DE X a ta)(hb:DE X b tb)(hm:behindInMarks op b=false):DT X (.Compare a [op] [b] pos) (dTst (dOp f ta tb)) :=
 PT.imp (BG ho ha hb hm) λσ H Q ⟨G,δ,P,R,s,h,k⟩=>up.mk s h λx δ1 h1 v H1 s1=>up.mk s1 h1 λy δ2 h2 u H2 s2 =>
  S.pure (P':=P) (ds:=[x,y]) (vs:=[v,u]) s2 rfl (by simp) (λp hp=>by simp[hp]) h2 λd r v' H' s'=>by
   replace r:=qB.ex r;obtain⟨b,e,r⟩:=r;subst e;have q:=s';obtain⟨A,q⟩:=q;have q2:=q.pnd (.bl b,v') (by simp);simp only[GU] at q2;exact⟨b,q2,k b δ2 r H' (s'.sub λp hp=>by simp[hp])⟩
def wW{op:UnaryOp}(ho:UnR X (unaryOp op) λx=>aV X.K f [x])(ha:DE X a ta):DE X (.UnaryOp op a pos) (dUn f ta) :=
 PE.imp (Gi ho ha) λσ H Q ⟨G,δ,P,R,s,h,k,_⟩=>up.mk s h λx δ1 h1 v H1 s1 =>
  S.pure (P':=P) (ds:=[x]) (vs:=[v]) s1 rfl (by simp) (λp hp=>by simp[hp]) h1 λd r v' H' s'=>k d δ1 r v' H' s'
theorem bJ(h:DE X a ta)(he:∀whole,isTrue a X.env whole=(do let v<-whole;standAt a.pos;holding [v] (truthy v)):=by intro _;rfl):DT X a (dTst ta) :=
 PT.imp (CT h he) λσ H Q ⟨G,δ,P,R,s,h,k⟩=>up.mk s h λx δ1 h1 v H1 s1=>by
  replace h1:=qB.ex h1;obtain⟨b,e,r⟩:=h1;subst e;obtain⟨A,q⟩:=id s1;have q2:=q.pnd (.bl b,v) (by simp);simp only[GU] at q2;exact⟨b,q2,k b δ1 r H1 (s1.sub λp hp=>by simp[hp])⟩
variable {tA tB':TDT} {cJ:List Expr}
def DW.dt(h:DW X a tA):DT X a tA:=PW.pt h
def uW(ha:DT X a tA):DW X (.BoolOp .And [a] pos) tA:=Bw ha
def dm(ha:DT X a tA):DW X (.BoolOp .Or [a] pos) tA:=Cu ha
def y7(ha:DT X a tA)(hb:DW X (.BoolOp .And (b::cJ) pos) tB'):DW X (.BoolOp .And (a::b::cJ) pos) (dAnd tA tB') :=
 PW.imp (Ey ha hb) λσ H Q ⟨G,δ,P,R,s,h,k⟩=>⟨G,δ,P,_,s,h,λb δ1 h1 H1 s1=>by
  cases b with
  | true=>exact⟨G,δ1,P,R,s1,h1,k⟩
  | false=>exact k false δ1 h1 H1 s1⟩
def fu(ha:DT X a tA)(hb:DW X (.BoolOp .Or (b::cJ) pos) tB'):DW X (.BoolOp .Or (a::b::cJ) pos) (dOr tA tB') :=
 PW.imp (FY ha hb) λσ H Q ⟨G,δ,P,R,s,h,k⟩=>⟨G,δ,P,_,s,h,λb δ1 h1 H1 s1=>by
  cases b with
  | true=>exact k true δ1 h1 H1 s1
  | false=>exact⟨G,δ1,P,R,s1,h1,k⟩⟩
def df(ha:DT X a tA):DT X (.UnaryOp .Not a pos) (dNot tA) :=
 PT.imp (DB ha) λσ H Q ⟨G,δ,P,R,s,h,k⟩=>⟨G,δ,P,_,s,h,λb δ1 h1 H1 s1=>k _ δ1 h1 H1 s1⟩
theorem vo{K:PySem.W.Frag}{δ:En}{b:Bool}(s:S K G δ ((.bl b,v)::P) σ H):v=.bl b:=by
 obtain⟨A,q⟩:=s;have q2:=q.pnd (.bl b,v) (by simp);simpa only[GU] using q2
def cF{op}(h:DE X a ta):DE X (.BoolOp op [a] pos) ta:=El h
def gf(ha:DE X a ta)(hb:DE X (.BoolOp .And (b::cJ) pos) tb):DE X (.BoolOp .And (a::b::cJ) pos) (Ez ta tb) :=
 PE.imp (Cn ha hb) λσ H Q ⟨G,δ,P,R,s,h,k,k2⟩=>up.mk s h λx δ1 h1 v H1 s1=>by
  replace h1:=qB.ex h1;obtain⟨b,e,r⟩:=h1;subst e;refine⟨b,vo s1,?_⟩
  cases b with
  | true=>exact⟨G,δ1,P,R,s1.sub λp hp=>by simp[hp],r,k,k2⟩
  | false=>exact k (.bl false) δ1 r _ H1 (by rw[<- vo s1];exact s1)
def sn(ha:DE X a ta)(hb:DE X (.BoolOp .Or (b::cJ) pos) tb):DE X (.BoolOp .Or (a::b::cJ) pos) (dOrV ta tb) :=
 PE.imp (E1 ha hb) λσ H Q ⟨G,δ,P,R,s,h,k,k2⟩=>up.mk s h λx δ1 h1 v H1 s1=>by
  replace h1:=qB.ex h1;obtain⟨b,e,r⟩:=h1;subst e;refine⟨b,vo s1,?_⟩
  cases b with
  | false=>exact⟨G,δ1,P,R,s1.sub λp hp=>by simp[hp],r,k,k2⟩
  | true=>exact k (.bl true) δ1 r _ H1 (by rw[<- vo s1];exact s1)
def mq(ha:DE X a ta):DE X (.UnaryOp .Not a pos) (Cw ta) :=
 PE.imp (D7 ha) λσ H Q ⟨G,δ,P,R,s,h,k,k2⟩=>up.mk s h λx δ1 h1 v H1 s1=>by
  replace h1:=qB.ex h1;obtain⟨b,e,r⟩:=h1;subst e;exact⟨b,vo s1,k _ δ1 r _ H1 ((s1.sub λp hp=>by simp[hp]).sc rfl)⟩
def uQ(hc:DT X c tA)(ha:DE X a ta)(hb:DE X b tb):DE X (.IfExp c a b pos) (dIfE tA ta tb) :=
 PE.imp (wX hc ha hb) λσ H Q ⟨G,δ,P,R,s,h,k,k2⟩=>⟨G,δ,P,_,s,h,λb δ1 h1 H1 s1=>by
  cases b with
  | true=>exact⟨G,δ1,P,R,s1,h1,k,k2⟩
  | false=>exact⟨G,δ1,P,R,s1,h1,k,k2⟩⟩
def ae:DA X [] Ca:=PA.imp dr λσ H Q ⟨G,δ,P,R,s,h,k⟩=>k [] δ h [] H rfl s
theorem ac(ha:DE X a ta)(hr:DA X es t)(hs:starEach (a::es) X.env=(false,eval a X.env)::starEach es X.env:=by rfl):DA X (a::es) (y6 ta t) :=
 PA.imp (a9 ha hr hs) λσ H Q ⟨G,δ,P,R,s,h,k⟩=>up.mk s h λx δ1 h1 v H1 s1=>⟨G,δ1,(x,v)::P,_,s1,h1,λds δ2 h2 vs H2 hl s2 =>
  k (x::ds) δ2 h2 (v::vs) H2 (by simp[hl]) (s2.sub λp hp=>by
   simp only[List.zip_cons_cons,List.cons_append,List.mem_cons,List.mem_append] at hp ⊢
   rcases hp with h | h | h
   ·exact .inr (.inl h)
   ·exact .inl h
   ·exact .inr (.inr h))⟩
def aI{p:Addr}(h:H p=none)(o:HO):b9 H (GC H p o):=λb u q=>by rw[aH (cD q h)];exact q
def i9(h:n<=9000):n<sizeLine:=Nat.lt_of_le_of_lt h (by decide)
def dI(h:n<=9000):n<=sizeLine:=IX (i9 h)
def aJ{x1}(h:DA X es t):DE X (.Tuple es x1 pos) (dTup t) :=
 PE.imp (Dy h) λσ H Q ⟨G,δ,P,R,s,h,k,_⟩=>⟨G,δ,P,_,s,h,λds δ1 h9 vs H1 hl s1=>⟨by rw[<- hl];exact dI (q9.ex h9).1,λp hp=>by
  have h1:=(q9.ex h9).2
  obtain⟨A,x⟩:=s1;have r:=x.reps ds vs hl (λq hq=>Hf _ hq);have x2:=x.same (aI hp (.tup vs));refine k (.tup ds) δ1 h1 (.ref p) _ ⟨A,(x2.sub λq hq=>G6 _ hq).push ?_⟩;unfold GU
  exact⟨p,vs,rfl,Gy.of aC,Reps.kp (Kp.of_same (aI hp _)) _ _ r⟩⟩⟩
def bV(h:DA X es t):DE X (.List es pos) (dLst t) :=
 PE.imp (t6 h) λσ H Q ⟨G,δ,P,R,s,h,k,_⟩=>⟨G,δ,P,_,s,h,λds δ1 h9 vs H1 hl s1=>⟨by rw[<- hl];exact dI (q9.ex h9).1,λp hp=>by
  have h1:=(q9.ex h9).2
  obtain⟨A,x⟩:=s1;have r:=x.reps ds vs hl (λq hq=>Hf _ hq);have x2:=x.same (aI hp (.lst vs));refine k (.lst ds) δ1 h1 (.ref p) _ ⟨A,(x2.sub λq hq=>G6 _ hq).push ?_⟩;unfold GU
  exact⟨p,vs,rfl,λz=>x.mem p z hp,aC,Reps.kp (Kp.of_same (aI hp _)) _ _ r⟩⟩⟩
def gM(hr:IxR X λx y=>aV X.K f [x,y])(ha:DE X a ta)(hb:DE X b tb)(hs:ub b):DE X (.Subscript a b pos) (dOp f ta tb) :=
 PE.imp (Gk hr ha hb hs) λσ H Q ⟨G,δ,P,R,s,h,k,_⟩=>up.mk s h λx δ1 h1 v H1 s1=>up.mk s1 h1 λy δ2 h2 u H2 s2 =>
  S.pure (P':=P) (ds:=[x,y]) (vs:=[v,u]) s2 rfl (by simp) (λp hp=>by simp[hp]) h2 λd r v' H' s'=>k d δ2 r v' H' s'
def Gx(K:PySem.W.Frag)(f:List D->(D->Prop)->Prop):Sp:=λvs H Q _=>aV K f vs H Q
theorem ld{K:PySem.W.Frag}{Q:VK}{f:List D->(D->Prop)->Prop}(h:up K (sQ f t) σ H Q):upA K t σ H λvs H1=>aV K f vs H1 Q:=by
 obtain⟨G,δ,P,R,s,h,k,_⟩:=h;exact⟨G,δ,P,_,s,h,λds δ1 h1 vs H1 hl s1=>S.pure (P':=P) s1 hl (λp hp=>Hf _ hp) (λp hp=>G6 _ hp) h1 λd r v' H' s'=>k d δ1 r v' H' s'⟩
theorem AE{x:Str}{k:Nat}{g:Addr}{fd:FuncData}{ps:List Str}(F:kd X.prog X.w X.K X.mg X.base CX0 k g fd ps (Gx X.K f))(hr:fK k X.A)(hg:Gl X x)(hm:X.mg x=some (.ref g))(hk:PySem.W.keepIn X.K (.ref g)=true)
  (hb:me X.K fd ps []) (ha:DA X (a::es) t) (hdb:(x==("__debug__":Str))=false:=by decide) (he:starEach (a::es) X.env=(false,eval a X.env)::starEach es X.env:=by rfl) (hpl:(backTo pos (starEach es X.env)).any (·.1)=false:=by rfl) :
  DE X (.Call (.Name x p) (a::es) [] pos) (sQ f t) :=
 PE.imp (lM F hr hg hm hk hb .nil wP ha hdb he hpl) λσ H Q h=>by
  show upA X.K t σ H λvs H1=>aV X.K f (vs++[]) H1 Q
  have q:=ld h
  simpa only[List.append_nil] using q
theorem aM{x:Str}{id:String}(hc:bW X (.builtin id) (aV X.K f))(hg:Gl X x)(hm:X.mg x=none)(hv:bootBuiltins x=some (.builtin id))(ha:DA X (a::es) t)(hn:x≠"__name__":=by decide)(hdb:(x==("__debug__":Str))=false:=by decide)
  (he:starEach (a::es) X.env=(false,eval a X.env)::starEach es X.env:=by rfl) (hpl:(backTo pos (starEach es X.env)).any (·.1)=false:=by rfl):DE X (.Call (.Name x p) (a::es) [] pos) (sQ f t) :=
 PE.imp (kJ hc hg hm hv ha hn hdb he hpl) λσ H Q h=>ld h
theorem cj{x:Str}{T:String}(hc:bW X (.type T) (aV X.K f))(hg:Gl X x)(hm:X.mg x=none)(hv:bootBuiltins x=some (.type T))(ha:DA X (a::es) t)(hn:x≠"__name__":=by decide)(hdb:(x==("__debug__":Str))=false:=by decide)
  (he:starEach (a::es) X.env=(false,eval a X.env)::starEach es X.env:=by rfl) (hpl:(backTo pos (starEach es X.env)).any (·.1)=false:=by rfl):DE X (.Call (.Name x p) (a::es) [] pos) (sQ f t) :=
 PE.imp (gk hc hg hm hv ha hn hdb he hpl) λσ H Q h=>ld h
end
def EJ(R:a6)(δ:En):Prop:=R.nx δ
def dSeq(t u:TDS)(R:a6)(δ:En):Prop:=t { R with nx:=u R } δ
def Ei(t:GS)(R:a6)(δ:En):Prop:=t δ λ_ δ1=>R.nx δ1
def kRe(R:a6):W->En->Prop:=wd λx δ1=>R.rt x δ1
def dRet(t:GS)(R:a6)(δ:En):Prop:=t δ (kRe R)
def kIf(t u:En->Prop)(b:Bool)(δ:En):Prop:=if b=true then t δ else u δ
def dIf(c:TDT)(t u:TDS)(R:a6)(δ:En):Prop:=c δ (kIf (t R) (u R))
def vk(_:a6)(_:En):Prop:=False
def kSe(i:Nat)(R:a6):W->En->Prop:=wd λx δ1=>jO δ1 i (.dat x) R.nx
def dSet(i:Nat)(t:GS)(R:a6)(δ:En):Prop:=t δ (kSe i R)
def kAs(g:TDG)(R:a6):W->En->Prop:=wd λx δ1=>g x δ1 R.nx
def dAsg(t:GS)(g:TDG)(R:a6)(δ:En):Prop:=t δ (kAs g R)
def dPar(i j:Nat)(t:TDA)(R:a6)(δ:En):Prop:=t δ λds δ1=>qC ds λx r=>qC r λy r=>qN r (jO δ1 i (.dat x) λδ2=>jO δ2 j (.dat y) R.nx)
def eT(i:Nat)(x:D)(δ:En)(R:En->Prop):Prop:=jO δ i (.dat x) R
def AI(ds:List D)(δ:En)(R:En->Prop):Prop:=qN ds (R δ)
def ux(t:TDG)(u:yw)(ds:List D)(δ:En)(R:En->Prop):Prop:=qC ds λx r=>t x δ λδ1=>u r δ1 R
def jS(n:Nat)(t:yw)(d:D)(δ:En)(R:En->Prop):Prop:=qT d λxs=>sV xs n (t xs δ R)
def Dt(c:TDT)(tb:TDS)(R:a6)(δ:En):Prop:=∃(I:En->Prop) (μ:En->Nat),I δ/\∀δ,I δ->c δ (kIf (tb { R with nx:=λδ'=>I δ'/\μ δ'<μ δ,ct:=λδ'=>I δ'/\μ δ'<μ δ,bk:=R.nx,tp:=False }) R.nx)
def se(t:GS)(g:TDG)(tb:TDS)(R:a6)(δ:En):Prop:=t δ (wd λd δ1=>qL d λxs=>∃I:Nat->En->Prop,I 0 δ1 /\
 (∀i x δ',xs[i]?=some x->I i δ'->g x δ' (tb { R with nx:=I (i+1),ct:=I (i+1),bk:=R.nx,tp:=False }))/\∀δ',I xs.length δ'->R.nx δ')
def oC(t:GS)(g:TDG)(tb:TDS)(R:a6)(δ:En):Prop:=t δ (wd λd δ1=>qT d λxs=>∃I:Nat->En->Prop,I 0 δ1 /\
 (∀i x δ',xs[i]?=some x->I i δ'->g x δ' (tb { R with nx:=I (i+1),ct:=I (i+1),bk:=R.nx,tp:=False }))/\∀δ',I xs.length δ'->R.nx δ')
def Bj(t:TDA)(g:TDG)(tb:TDS)(R:a6)(δ:En):Prop:=t δ λds δ1=>qC ds λx r=>qN r <| qI x λj=>-(2 ^ 62)<=j/\j<2 ^ 62/\∃I:Nat->En->Prop,I 0 δ1 /\
 (∀i δ',i<j.toNat->I i δ'->g (.int i) δ' (tb { R with nx:=I (i+1),ct:=I (i+1),bk:=R.nx,tp:=False }))/\∀δ',I j.toNat δ'->R.nx δ'
section
variable {X:Cx} {pos:Pos} {a b c e tg:Expr} {ta:GS} {tA:TDT} {t u:TDS} {st:Stmt} {cJ body:List Stmt} {g:TDG} {gs:yw} {tda:TDA}
def aB:DSs X [] EJ:=PSs.imp A8 λE σ H ⟨G,δ,P,R,s,h,k,_⟩=>k δ h σ H s
def ad(h1:DS X st t)(h2:DSs X cJ u):DSs X (st::cJ) (dSeq t u) :=
 PSs.imp (xX h1 h2) λE σ H ⟨G,δ,P,R,s,h,k1,k2,k3,k4⟩=>⟨G,δ,P,{ R with nx:=u R },s,h,λδ' h' σ' H' s'=>⟨G,δ',P,R,s',h',k1,k2,k3,k4⟩,k2,k3,k4⟩
def af(h1:DS X st t):DSs X [st] t:=An h1
theorem tF(he:DE X e ta)(hs:swapsWith e none pos.line X.env=pure false:=by rfl):DS X (.Expr e pos) (Ei ta) :=
 PS.imp (kT he hs) λE σ H ⟨G,δ,P,R,s,h,k,_⟩=>⟨G,δ,P,_,s,h,λx δ1 h1 v H1 s1=>k δ1 h1 σ H1 (s1.sub λp hp=>by simp[hp]),λi δ1 h1 a d H1 s1 _=>k δ1 h1 σ H1 s1⟩
def au(he:DE X e ta):DS X (.Return (some e) pos) (dRet ta) :=
 PS.imp (tN he) λE σ H ⟨G,δ,P,R,s,h,_,k,_⟩=>up.mk s h λx δ1 h1 v H1 s1=>k.1 x δ1 h1 v σ H1 s1
def aN{aa bb:List Stmt}(hc:DT X c tA)(ha:DSs X aa t)(hb:DSs X bb u):DS X (.If c aa bb pos) (dIf tA t u) :=
 PS.imp (FE hc ha hb) λE σ H ⟨G,δ,P,R,s,h,k1,k2,k3,k4⟩=>⟨G,δ,P,_,s,h,λb δ1 h1 H1 s1=>by
  cases b with
  | true=>exact⟨G,δ1,P,R,s1,h1,k1,k2,k3,k4⟩
  | false=>exact⟨G,δ1,P,R,s1,h1,k1,k2,k3,k4⟩⟩
def ds_never:DS X st vk:=PS.imp xZ λE σ H ⟨G,δ,P,R,s,h,_⟩=>h
def jg:DSs X cJ vk:=PSs.imp uI λE σ H ⟨G,δ,P,R,s,h,_⟩=>h
theorem aA(i:Nat){x:Str}{pos':Pos}(hN:X.N.Nodup)(he:DE X e ta)(hi:X.N[i]?=some x:=by rfl)(hx:Loc X.env.scope x:=by walk_at "v2")(hs:swapsWith e (some (.Name x pos')) pos.line X.env=pure false:=by rfl)
  (hf:X.fn x=true\/X.env.scope.names.lookup x=some .local :=by walk_at "v1"):DS X (.Assign [.Name x pos'] e pos) (dSet i ta) :=
 PS.imp (kf hN hi hx he hs hf) λE σ H ⟨G,δ,P,R,s,h,k,_⟩=>up.mk s h λx δ1 h1 v H1 s1=>k _ h1 _ H1 (s1.set (by simp) λp hp=>by simp[hp])
theorem t7(he:DE X e ta)(hg:DG X tg g)(hs:swapsWithSole [tg] e pos.line X.env=pure false:=by rfl)(hw:swappedStores [tg] e X.env=pure none:=by rfl)
  (h1:(assignEach [tg] X.env).map (·.2)=[assign tg X.env]:=by rfl):DS X (.Assign [tg] e pos) (dAsg ta g) :=
 PS.imp (Di he hg hs hw h1) λE σ H ⟨G,δ,P,R,s,h,k,_⟩=>up.mk s h λx δ1 h1 v H1 s1=>⟨G,δ1,P,x,R.nx,s1,h1,k⟩
theorem ap(i:Nat){x:Str}(hN:X.N.Nodup)(hi:X.N[i]?=some x:=by rfl)(hx:Loc X.env.scope x:=by walk_at "v2")(hf:X.fn x=true\/X.env.scope.names.lookup x=some .local :=by walk_at "v1") :
  DG X (.Name x pos) (eT i):=PG.imp (B2 hN hi hx hf) λv σ H Q ⟨G,δ,P,d,R,s,h,k⟩=>k _ h _ H (s.set (by simp) λp hp=>by simp[hp])
def aS:DGs X [] AI:=PGs.imp Bv λvs σ H Q ⟨G,δ,P,ds,R,hl,s,h,k⟩=>by
 replace h:=qN.ex h;obtain⟨e,h⟩:=h;subst e;have:vs=[]:=Iv.mp hl.symm;subst this;exact⟨rfl,k δ h σ H s⟩
theorem ax(h1:DG X e g)(h2:DGs X es gs)(hs:(assignEach (e::es) X.env).map (·.2)=assign e X.env::(assignEach es X.env).map (·.2):=by rfl):DGs X (e::es) (ux g gs) :=
 PGs.imp (xK h1 h2 hs) λvs σ H Q ⟨G,δ,P,ds,R,hl,s,h,k⟩=>by
  replace h:=qC.ex h;obtain⟨x,r,e,h⟩:=h;subst e
  cases vs with
  | nil=>cases hl
  | cons v vs =>
   refine⟨v,vs,rfl,G,δ,r.zip vs++P,x,_,s.sub λp hp=>by simpa using hp,h,λδ1 h1 σ1 H1 s1=>⟨G,δ1,P,r,R,Ja hl,s1,h1,k⟩⟩
theorem bH{kk:Nat}(hc:X.calm=true)(h:DGs X es gs)(hn:(assignEach es X.env).length=n:=by rfl)(hst:(assignEach es X.env).findIdx? (·.1)=none:=by rfl):DG X (.Tuple es kk pos) (jS n gs) :=
 PG.imp (Dw hc h hn hst) λv σ H Q ⟨G,δ,P,d,R,s,h,k⟩=>by
  replace h:=qT.ex h;obtain⟨xs,e,h⟩:=h;replace h:=sV.ex h;obtain⟨hl,h⟩:=h;subst e;obtain⟨A,x⟩:=s;have q:=x.pnd (.tup xs,v) (by simp);simp only[GU] at q;obtain⟨a,vs,e,sq,r⟩:=q;subst e;refine⟨a,vs,rfl,sq,by rw[<- Reps.length _ _ r];exact hl,G,δ,P,xs,R,Reps.length _ _ r,⟨A,?_⟩,h,k⟩
  exact⟨x.old,x.stay,x.m0,x.pm,x.new,x.thr,x.len,x.dat,x.own,x.inj,λp hp=>by
   rcases Hb.mp hp with hp | hp
   ·obtain⟨i,hi,e⟩:=List.mem_iff_getElem.mp hp;have h1:i<xs.length:=by rw[Ih] at hi;omega
    have h2:i<vs.length:=by rw[Ih] at hi;omega
    obtain⟨v',e',r'⟩:=Reps.get _ _ r i xs[i] (by simp[h1]);have:p=(xs[i],vs[i]):=by rw[<- e,List.getElem_zip]
    rw[this];rw[List.getElem?_eq_getElem h2] at e'
    cases e'
    exact r'
   ·exact x.pnd p (by simp[hp])⟩
theorem CY(i j:Nat){x y:Str}{px py pt pt2:Pos}{kt k2}(hc:X.calm=true)(hN:X.N.Nodup)(hij:i≠j)(ha:DA X [a,b] tda)(hi:X.N[i]?=some x:=by rfl)(hj:X.N[j]?=some y:=by rfl)
  (hx:X.env.scope.names.lookup x=some .local :=by rfl) (hy:X.env.scope.names.lookup y=some .local :=by rfl) (hw:swappedStores [.Tuple [.Name x px,.Name y py] kt pt] (.Tuple [a,b] k2 pt2) X.env=pure (some [x,y]):=by rfl)
  (hs:swapsWithSole [.Tuple [.Name x px,.Name y py] kt pt] (.Tuple [a,b] k2 pt2) pos.line X.env=pure false:=by rfl) :
  DS X (.Assign [.Tuple [.Name x px,.Name y py] kt pt] (.Tuple [a,b] k2 pt2) pos) (dPar i j tda) :=
 PS.imp (Dr hc hN hi hj hij hx hy ha hw hs) λE σ H ⟨G,δ,P,R,s,h,k,_⟩=>⟨G,δ,P,_,s,h,λds δ1 h1 vs H1 hl s1=>by
  replace h1:=qC.ex h1;obtain⟨x,r,e,h1⟩:=h1;replace h1:=qC.ex h1;obtain⟨y,r',e',h1⟩:=h1;replace h1:=qN.ex h1;obtain⟨e2,h1⟩:=h1;subst e2 e' e
  match vs,hl with
  | [v,w],_=>exact⟨v,w,rfl,k _ h1 _ H1 ((s1.set (P':=(x,v)::(y,w)::P) (i:=i) (d:=x) (v:=v) (by simp) λp hp=>by simpa using hp).set (by simp) λp hp=>by simp[hp])⟩⟩
def pP(hp:PassesOwn (model X.prog X.w) X.A X.env X.xe)(hc:DT X c tA)(hb:DSs X body t):DS X (.While c body [] pos) (Dt tA t) :=
 PS.imp (wY hp hc hb) λE σ H ⟨G,δ,P,R,s,⟨I,μ,i0,turn⟩,k1,k2,k3,k4⟩=>by
  refine⟨λm σ H=>∃δ,m=μ δ/\I δ/\S X.K G δ P σ H,⟨_,δ,rfl,i0,s⟩,?_⟩;rintro m σ H ⟨δ,rfl,i,s⟩;refine⟨G,δ,P,_,s,turn δ i,λb δ1 h1 H1 s1=>?_⟩
  cases b with
  | false=>exact k1 δ1 h1 σ H1 s1
  | true =>
   refine⟨λσ' H'=>∃δ',(I δ'/\μ δ'<μ δ)/\S X.K G δ' P σ' H',λσ' H' ⟨δ',⟨i',l⟩,s'⟩=>⟨_,l,δ',rfl,i',s'⟩,?_⟩;exact⟨G,δ1,P,_,s1,h1,λδ' h' σ' H' s'=>⟨δ',h',s'⟩,k2,k1,λδ' h' σ' H' s'=>⟨δ',h',s'⟩,λz=>z.elim⟩
theorem cx(hp:PassesOwn (model X.prog X.w) X.A X.env X.xe)(hc:X.calm=true)(hi:DE X e ta)(hg:DG X tg g)(hb:DSs X body t)(hs:∀x,foldedSetIterable e X.env x=pure x:=by intro _;rfl):DS X (.For tg e body [] pos) (se ta g t) :=
 PS.imp (qO hp hc (uC hi) hg hb hs) λE σ H ⟨G,δ,P,R,s,h,k1,k2,k3,k4⟩=>up.mk s h λd δ1 h1 v H1 s1=>by
  replace h1:=qL.ex h1;obtain⟨xs,e,I,i0,turn,fin⟩:=h1;subst e;have hat:∀δ σ H,S X.K G δ ((.lst xs,v)::P) σ H->∃a vs,v=.ref a/\Gz X.K H a vs/\vs.length=xs.length:=λδ σ H ⟨A,x⟩=>by
   have q:=x.pnd (.lst xs,v) (by simp)
   simp only[GU] at q;obtain⟨a,vs,e,_,l,r⟩:=q;exact⟨a,vs,e,Gz.of l,(Reps.length _ _ r).symm⟩
  have hev:∃a vs,v=.ref a/\Gz X.K H1 a vs/\vs.length=xs.length:=hat _ _ _ s1
  obtain⟨a,vs0,rfl,hsq,hl0⟩:=hev;refine⟨a,rfl,⟨vs0,hsq⟩,λi m σ H=>m=xs.length-i/\i<=xs.length/\∃δ,I i δ/\S X.K G δ ((.lst xs,.ref a)::P) σ H,⟨xs.length,by simp,Ie _,δ1,i0,s1⟩,?_⟩;rintro i m σ H ⟨rfl,hi,δ',ii,s'⟩;obtain⟨A,x⟩:=id s';have q:=x.pnd (.lst xs,.ref a) (by simp);simp only[GU] at q;obtain⟨a',vs,e,_,l,r⟩:=q
  cases e
  have l:Gz X.K H a vs:=Gz.of l
  have hl:xs.length=vs.length:=Reps.length _ _ r
  by_cases hlt:i<xs.length
  ·obtain⟨v',e',r'⟩:=Reps.get _ _ r i xs[i] (by simp[hlt]);refine .inr ⟨⟨vs,v',l,e'⟩,λσ' H'=>∃δ',I (i+1) δ'/\S X.K G δ' ((.lst xs,.ref a)::P) σ' H',λσ' H' ⟨δ',p',s'⟩=>⟨xs.length-(i+1),by omega,rfl,hlt,δ',p',s'⟩,λy H' hy=>?_⟩;obtain⟨e,hy⟩:=hy;subst e;have:some y=some v':=(hy vs l).symm.trans e'
   cases this
   refine⟨G,δ',(.lst xs,.ref a)::P,xs[i],_,⟨A,x.push r'⟩,turn i xs[i] δ' (by simp[hlt]) ii,λδ2 h2 σ2 H2 s2=>?_⟩
   refine⟨G,δ2,(.lst xs,.ref a)::P,_,s2,h2,λδ3 h3 σ3 H3 s3=>⟨δ3,h3,s3⟩,⟨λd δ3 h3 v3 σ3 H3 s3=>k2.1 d δ3 h3 v3 σ3 H3 (s3.sub λp hp=>by
    rcases G7.mp hp with rfl | hp
    ·simp
    ·simp[hp]),k2.2.1,exs k2.2.2⟩,λδ3 h3 σ3 H3 s3=>k1 δ3 h3 σ3 H3 (s3.sub λp hp=>by simp[hp]),λδ3 h3 σ3 H3 s3=>⟨δ3,h3,s3⟩,λz=>z.elim⟩
  ·have e:i=xs.length:=by omega
   subst e;exact .inl ⟨⟨vs,l,by omega⟩,k1 δ' (fin δ' ii) σ H (s'.sub λp hp=>by simp[hp])⟩
theorem gF(hp:PassesOwn (model X.prog X.w) X.A X.env X.xe)(hc:X.calm=true)(hi:DE X e ta)(hg:DG X tg g)(hb:DSs X body t)(hs:∀x,foldedSetIterable e X.env x=pure x:=by intro _;rfl):DS X (.For tg e body [] pos) (oC ta g t) :=
 PS.imp (qO hp hc (y8 hi) hg hb hs) λE σ H ⟨G,δ,P,R,s,h,k1,k2,k3,k4⟩=>up.mk s h λd δ1 h1 v H1 s1=>by
  replace h1:=qT.ex h1;obtain⟨xs,e,I,i0,turn,fin⟩:=h1;subst e;have hat:∀δ σ H,S X.K G δ ((.tup xs,v)::P) σ H->∃a vs,v=.ref a/\Gy X.K H a vs/\vs.length=xs.length:=λδ σ H ⟨A,x⟩=>by
   have q:=x.pnd (.tup xs,v) (by simp)
   simp only[GU] at q;obtain⟨a,vs,e,l,r⟩:=q;exact⟨a,vs,e,l,(Reps.length _ _ r).symm⟩
  have hev:∃a vs,v=.ref a/\Gy X.K H1 a vs/\vs.length=xs.length:=hat _ _ _ s1
  obtain⟨a,vs0,rfl,hsq,hl0⟩:=hev;refine⟨a,rfl,⟨vs0,hsq⟩,λi m σ H=>m=xs.length-i/\i<=xs.length/\∃δ,I i δ/\S X.K G δ ((.tup xs,.ref a)::P) σ H,⟨xs.length,by simp,Ie _,δ1,i0,s1⟩,?_⟩;rintro i m σ H ⟨rfl,hi,δ',ii,s'⟩;obtain⟨A,x⟩:=id s';have q:=x.pnd (.tup xs,.ref a) (by simp);simp only[GU] at q;obtain⟨a',vs,e,l,r⟩:=q
  cases e
  have hl:xs.length=vs.length:=Reps.length _ _ r
  by_cases hlt:i<xs.length
  ·obtain⟨v',e',r'⟩:=Reps.get _ _ r i xs[i] (by simp[hlt]);refine .inr ⟨⟨vs,v',l,e'⟩,λσ' H'=>∃δ',I (i+1) δ'/\S X.K G δ' ((.tup xs,.ref a)::P) σ' H',λσ' H' ⟨δ',p',s'⟩=>⟨xs.length-(i+1),by omega,rfl,hlt,δ',p',s'⟩,λy H' hy=>?_⟩;obtain⟨e,hy⟩:=hy;subst e;have:some y=some v':=(hy vs l).symm.trans e'
   cases this
   refine⟨G,δ',(.tup xs,.ref a)::P,xs[i],_,⟨A,x.push r'⟩,turn i xs[i] δ' (by simp[hlt]) ii,λδ2 h2 σ2 H2 s2=>?_⟩
   refine⟨G,δ2,(.tup xs,.ref a)::P,_,s2,h2,λδ3 h3 σ3 H3 s3=>⟨δ3,h3,s3⟩,⟨λd δ3 h3 v3 σ3 H3 s3=>k2.1 d δ3 h3 v3 σ3 H3 (s3.sub λp hp=>by
    rcases G7.mp hp with rfl | hp
    ·simp
    ·simp[hp]),k2.2.1,exs k2.2.2⟩,λδ3 h3 σ3 H3 s3=>k1 δ3 h3 σ3 H3 (s3.sub λp hp=>by simp[hp]),λδ3 h3 σ3 H3 s3=>⟨δ3,h3,s3⟩,λz=>z.elim⟩
  ·have e:i=xs.length:=by omega
   subst e;exact .inl ⟨⟨vs,l,by omega⟩,k1 δ' (fin δ' ii) σ H (s'.sub λp hp=>by simp[hp])⟩
theorem lD{pos':Pos}(hp:PassesOwn (model X.prog X.w) X.A X.env X.xe)(hc:X.calm=true)(hgl:Gl X "range")(hm:X.mg "range"=none)(ha:DA X [a] tda)(hg:DG X tg g)(hb:DSs X body t)
  (hse:starEach [a] X.env=[(false,eval a X.env)]:=by rfl) (hs:∀x,foldedSetIterable (.Call (.Name "range" p) [a] [] pos') X.env x=pure x:=by intro _;rfl) :
  DS X (.For tg (.Call (.Name "range" p) [a] [] pos') body [] pos) (Bj tda g t) :=
 PS.imp (qO hp hc (mK hgl hm ha hse) hg hb hs) λE σ H ⟨G,δ,P,R,s,h,k1,k2,k3,k4⟩=>⟨G,δ,P,_,s,h,λds δ1 h1 vs H1 hl s1=>by
  replace h1:=qC.ex h1;obtain⟨x,r,e,h1⟩:=h1;replace h1:=qN.ex h1;obtain⟨e',h1⟩:=h1;replace h1:=qI.ex h1;obtain⟨j,e2,h1,h2,I,i0,turn,fin⟩:=h1;subst e2 e' e
  match vs,hl with
  | [v],_ =>
   have q:v=.int j:=by
    obtain⟨A,x⟩:=s1;have q:=x.pnd (.int j,v) (by simp);simpa only[GU] using q
   subst q;have s2:S X.K G δ1 P σ H1:=s1.sub λp hp=>by simp[hp]
   refine⟨j,rfl,h1,h2,uo (lo:=0) (n:=j.toNat) (λi σ H=>∃δ,I i δ/\S X.K G δ P σ H) ⟨δ1,i0,s2⟩ (λi σ H hi ⟨δ',ii,s'⟩=>?_) λσ H ⟨δ',ii,s'⟩=>k1 δ' (fin δ' ii) σ H s'⟩;refine⟨G,δ',P,.int (0+i),_,s'.sc rfl,(by have q:=turn i δ' hi ii;rw[Jb];exact q),λδ2 h2 σ2 H2 s2=>?_⟩
   exact⟨G,δ2,P,_,s2,h2,λδ3 h3 σ3 H3 s3=>⟨δ3,h3,s3⟩,k2,k1,λδ3 h3 σ3 H3 s3=>⟨δ3,h3,s3⟩,λz=>z.elim⟩⟩
end
end DL
namespace DL
open PySem PySem.Spec PyProof.Rows L2
variable {a:D} {vs:List V} {i:Int} {v:V} {g:Int→Int→D} {R:D→Prop} {C:Int→Int→Prop} {ds:List D}
section
variable {K:PySem.W.Frag} {M:Addr→Prop} {H:Hp}
theorem C8{x:V}(h:Reps K M H [a] [x]):GU K M H a x:=by
 unfold Reps at h;obtain⟨v,r,e,q,_⟩:=h
 cases e
 exact q
theorem cv{b:D}{x y:V}(h:Reps K M H [a,b] [x,y]):GU K M H a x/\GU K M H b y:=by
 unfold Reps at h;obtain⟨v,r,e,q,h⟩:=h
 cases e
 exact⟨q,C8 h⟩
theorem bm(h:Reps K M H [a] vs):∃x,vs=[x]/\GU K M H a x:=by
 unfold Reps at h;obtain⟨v,r,e,q,h⟩:=h;unfold Reps at h;subst h;exact⟨v,e,q⟩
theorem f8{b:D}(h:Reps K M H [a,b] vs):∃x y,vs=[x,y]/\GU K M H a x/\GU K M H b y:=by
 unfold Reps at h;obtain⟨v,r,e,q,h⟩:=h;obtain⟨y,e2,q2⟩:=bm h;subst e2;exact⟨v,y,e,q,q2⟩
theorem aQ(h:GU K M H (.int i) v):v=.int i:=by unfold GU at h;exact h
theorem gZ{i:Bool}(h:GU K M H (.bl i) v):v=.bl i:=by unfold GU at h;exact h
theorem bh{i:Str}(h:GU K M H (.str i) v):v=.str i:=by unfold GU at h;exact h
end
def fI0(g:Int->Int->D):List D->(D->Prop)->Prop
 | [.int i,.int j],R=>R (g i j)
 | _,_=>False
def fI(C:Int->Int->Prop)(g:Int->Int->D):List D->(D->Prop)->Prop
 | [.int i,.int j],R=>C i j/\R (g i j)
 | _,_=>False
def fU(g:Int->D):List D->(D->Prop)->Prop
 | [.int i],R=>R (g i)
 | _,_=>False
def CC{a b:Int}:fI0 g [.int a,.int b] R=R (g a b):=rfl
def Fj{a b:Int}:fI C g [.int a,.int b] R=(C a b/\R (g a b)):=rfl
def E7{g:Int->D}{a:Int}:fU g [.int a] R=R (g a):=rfl
theorem Ew(h:fI0 g ds R):∃i j,ds=[.int i,.int j]/\R (g i j):=by
 unfold fI0 at h
 split at h
 ·exact⟨_,_,rfl,h⟩
 ·exact h.elim
theorem EV(h:fI C g ds R):∃i j,ds=[.int i,.int j]/\C i j/\R (g i j):=by
 unfold fI at h
 split at h
 ·exact⟨_,_,rfl,h⟩
 ·exact h.elim
theorem Er{g:Int->D}(h:fU g ds R):∃i,ds=[.int i]/\R (g i):=by
 unfold fU at h
 split at h
 ·exact⟨_,rfl,h⟩
 ·exact h.elim
def CFd(_ j:Int):Prop:=j≠0/\j.natAbs.log2<9000
def CNz(_ j:Int):Prop:=j≠0
section
variable {X:Cx}
def wg{f:Value->Value->Sem Value}{g':Int->Int->V}(h:GM X f (rI0 g'))(hs:∀i j,sc (g i j)=some (g' i j)):GM X f λx y=>aV X.K (fI0 g) [x,y] :=
 GM.imp h λx y H Q ⟨M,ds,R,m,rs,hf,k⟩=>by
  obtain⟨i,j,e,r⟩:=Ew hf;subst e;obtain⟨h1,h2⟩:=cv rs;exact⟨i,j,aQ h1,aQ h2,k _ r _ H (b9.refl H) (GU.sc (hs i j))⟩
def opI{f:Value->Value->Sem Value}{C':Int->Int->Prop}{g':Int->Int->V}(h:GM X f (rI C' g'))(hs:∀i j,sc (g i j)=some (g' i j))(hc:∀i j,C i j->C' i j):GM X f λx y=>aV X.K (fI C g) [x,y] :=
 GM.imp h λx y H Q ⟨M,ds,R,m,rs,hf,k⟩=>by
  obtain⟨i,j,e,c,r⟩:=EV hf;subst e;obtain⟨h1,h2⟩:=cv rs;exact⟨i,j,aQ h1,aQ h2,hc i j c,k _ r _ H (b9.refl H) (GU.sc (hs i j))⟩
def ER:GM X (binaryOp .Add) λx y=>aV X.K (fI0 λi j=>.int (i+j)) [x,y]:=wg EA λ_ _=>rfl
def jZ:GM X (binaryOp .Sub) λx y=>aV X.K (fI0 λi j=>.int (i-j)) [x,y]:=wg ED λ_ _=>rfl
def zx:GM X (binaryOp .Mult) (rI IntMulOk λi j=>.int (i*j)):=L2.opI λ_ _ _ _ _ _ _ hc q=>mul_int q hc
def bu:GM X (binaryOp .Mult) λx y=>aV X.K (fI IntMulOk λi j=>.int (i*j)) [x,y]:=opI zx (λ_ _=>rfl) λ_ _ h=>h
def wF:GM X (binaryOp .FloorDiv) (rI CFd λi j=>.int (i.fdiv j)):=L2.opI λ_ _ _ _ _ _ _ hc q=>floordiv_int hc.1 q (.inl (PyProof.noPylong_of_log2 hc.2))
def ee:GM X (binaryOp .FloorDiv) λx y=>aV X.K (fI CFd λi j=>.int (i.fdiv j)) [x,y]:=opI wF (λ_ _=>rfl) λ_ _ h=>h
def gh:GM X (binaryOp .Mod) λx y=>aV X.K (fI CNz λi j=>.int (i.fmod j)) [x,y]:=opI Ba (λ_ _=>rfl) λ_ _ h=>h
def DC:GM X (binaryOp .Pow) λx y=>aV X.K (fI CPow λi j=>.int (i ^ j.toNat)) [x,y]:=opI EE (λ_ _=>rfl) λ_ _ h=>h
def yj:GM X (compareOp .Lt) λx y=>aV X.K (fI0 λi j=>.bl (decide (i<j))) [x,y]:=wg Fm λ_ _=>rfl
def o_le:GM X (compareOp .LtE) λx y=>aV X.K (fI0 λi j=>.bl (decide (i<=j))) [x,y]:=wg ET λ_ _=>rfl
def uD:GM X (compareOp .Gt) λx y=>aV X.K (fI0 λi j=>.bl (decide (j<i))) [x,y]:=wg E8 λ_ _=>rfl
def o_ge:GM X (compareOp .GtE) λx y=>aV X.K (fI0 λi j=>.bl (decide (j<=i))) [x,y]:=wg Ft λ_ _=>rfl
def wZ:UnR X (unaryOp .USub) λx=>aV X.K (fU λi=>.int (-i)) [x] :=
 UnR.imp Ex λx H Q ⟨M,ds,R,m,rs,hf,k⟩=>by
  obtain⟨i,e,r⟩:=Er hf;subst e;exact⟨i,aQ (C8 rs),k _ r _ H (b9.refl H) (GU.sc rfl)⟩
def DI:bW X (.builtin "abs") (aV X.K (fU λi=>.int (if i<0 then -i else i))) :=
 bW.imp w6 λxs H Q ⟨M,ds,R,m,rs,hf,k⟩=>by
  obtain⟨i,e,r⟩:=Er hf;subst e;obtain⟨x,e,q⟩:=bm rs;subst e;exact⟨i,by rw[aQ q],k _ r _ H (b9.refl H) (GU.sc rfl)⟩
def B9:List D->(D->Prop)->Prop
 | [.lst xs],R=>R (.int xs.length)
 | [.fz xs],R=>R (.int xs.length)
 | [.tup xs],R=>R (.int xs.length)
 | _,_=>False
theorem zQ:∀ {d0:List D} {R:D->Prop},B9 d0 R->((∃(xs:List D),d0=[.lst xs]/\R (.int xs.length))\/(∃(xs:List D),d0=[.fz xs]/\R (.int xs.length))\/(∃(xs:List D),d0=[.tup xs]/\R (.int xs.length))):=by walk_at "or"
def f9:bW X (.builtin "len") (aV X.K B9) :=
 bW.imp gY λxs H Q ⟨M,ds,R,m,rs,h,k⟩=>by
  have fin:∀n:Nat,R (.int n)->Q (.int n) H:=λn r=>k _ r _ H (b9.refl H) (GU.sc rfl)
  replace h:=zQ h
  rcases h with⟨_,rfl,h⟩ | ⟨_,rfl,h⟩ | ⟨_,rfl,h⟩
  ·obtain⟨x,e,q⟩:=bm rs;unfold GU at q;obtain⟨a,vs,e2,_,l,r⟩:=q;subst e e2;exact⟨a,vs,rfl,.inl (Gz.of l),fin _ (by rw[<- Reps.length _ _ r];exact h)⟩
  ·obtain⟨x,e,q⟩:=bm rs;unfold GU at q;obtain⟨a,vs,e2,l,r⟩:=q;subst e e2;exact⟨a,vs,rfl,.inl l.seq,fin _ (by rw[<- Reps.length _ _ r];exact h)⟩
  ·obtain⟨x,e,q⟩:=bm rs;unfold GU at q;obtain⟨a,vs,e2,l,r⟩:=q;subst e e2;exact⟨a,vs,rfl,.inr l,fin _ (by rw[<- Reps.length _ _ r];exact h)⟩
def fInt:List D->(D->Prop)->Prop
 | [.int i],R=>R (.int i)
 | [.bl b],R=>R (.int (if b then 1 else 0))
 | _,_=>False
theorem AM:∀ {d0:List D} {R:D->Prop},fInt d0 R->((∃(i:Int),d0=[.int i]/\R (.int i))\/(∃(b:Bool),d0=[.bl b]/\R (.int (if b then 1 else 0)))):=by walk_at "or"
def F3:bW X (.type "int") (aV X.K fInt) :=
 bW.imp vj λxs H Q ⟨M,ds,R,m,rs,h,k⟩=>by
  replace h:=AM h
  rcases h with⟨_,rfl,h⟩ | ⟨_,rfl,h⟩
  ·obtain⟨x,e,q⟩:=bm rs;subst e;exact .inl ⟨_,by rw[aQ q],k _ h _ H (b9.refl H) (GU.sc rfl)⟩
  ·obtain⟨x,e,q⟩:=bm rs;subst e;exact .inr ⟨_,by rw[gZ q],k _ h _ H (b9.refl H) (GU.sc rfl)⟩
def GD(xs:List D):Int->(D->Prop)->Prop
 | .ofNat n,k=>qV xs[n]? k
 | .negSucc n,k=>qV (GK xs (.negSucc n)) k
theorem uc{α:Type}{xs:List α}{n:Nat}:GK xs (.ofNat n)=xs[n]?:=by
 have h0:(0:Int)<=Int.ofNat n:=Int.natCast_nonneg n
 unfold GK ixN;rw[Hh h0]
 by_cases h:n<xs.length
 ·rw[Hh (show Int.ofNat n<(xs.length:Int) from Int.ofNat_lt.mpr h)];rfl
 ·rw[He (show ¬ Int.ofNat n<(xs.length:Int) from λz=>h (Int.ofNat_lt.mp z)),List.getElem?_eq_none (Nat.le_of_not_lt h)];rfl
theorem GD.ex{xs:List D}{k:D->Prop}(h:GD xs i k):∃v,GK xs i=some v/\k v:=by
 cases i with
 | ofNat n=>rw[uc];exact qV.ex h
 | negSucc n=>exact qV.ex h
theorem GD.of{xs:List D}{k:D->Prop}{v:D}(e:GK xs i=some v)(h:k v):GD xs i k:=by
 cases i with
 | ofNat n=>rw[uc] at e;exact qV.of e h
 | negSucc n=>exact qV.of e h
def fIx:List D->(D->Prop)->Prop
 | [.tup xs,.int i],R=>GD xs i R
 | [.lst xs,.int i],R=>GD xs i R
 | [.fz xs,.int i],R=>GD xs i R
 | [.str z,.int i],R=>z.length<=9000/\∃c,GK z.cps.toList i=some c/\R (.str ⟨#[c]⟩)
 | _,_=>False
theorem DX{d0:List D}(h:fIx d0 R):(∃(xs:List D) (i:Int),d0=[.tup xs,.int i]/\∃v,GK xs i=some v/\R v)\/(∃(xs:List D) (i:Int),d0=[.lst xs,.int i]/\∃v,GK xs i=some v/\R v)\/(∃(xs:List D) (i:Int),d0=[.fz xs,.int i]/\∃v,GK xs i=some v/\R v)\/(∃(z:Str) (i:Int),d0=[.str z,.int i]/\z.length<=9000/\∃c,GK z.cps.toList i=some c/\R (.str ⟨#[c]⟩)):=by
 rcases d0 with _ | ⟨a,_ | ⟨b,_ | ⟨c,l⟩⟩⟩
 ·exact False.elim h
 ·cases a<;>exact False.elim h
 ·cases a<;>first | exact False.elim h | (cases b<;>first | exact False.elim h | exact .inl ⟨_,_,rfl,GD.ex h⟩ | exact .inr (.inl ⟨_,_,rfl,GD.ex h⟩) | exact .inr (.inr (.inl ⟨_,_,rfl,GD.ex h⟩)) | exact .inr (.inr (.inr ⟨_,_,rfl,h⟩)))
 ·cases a<;>first | exact False.elim h | (cases b<;>exact False.elim h)
theorem BJ{α β:Type}{xs:List α}{ys:List β}(h:xs.length=ys.length){v:α}(e:GK xs i=some v):∃j:Nat,xs[j]?=some v/\∀w,ys[j]?=some w->GK ys i=some w:=by
 unfold GK at e ⊢;rw[h] at e
 cases q:ixN ys.length i with
 | none=>rw[q] at e;cases e
 | some j=>rw[q] at e;exact⟨j,e,λw z=>z⟩
def gz:IxR X λx y=>aV X.K fIx [x,y] :=
 IxR.imp Du λx y H Q ⟨M,ds,R,m,rs,h,k⟩=>by
  have fin:∀(xs:List D) (vs:List V) (i:Int) (d:D),Reps X.K M H xs vs->GK xs i=some d->R d->∃v,GK vs i=some v/\Q v H:=λxs vs i d r e q=>by
   obtain⟨j,h1,h2⟩:=BJ (Reps.length _ _ r) e;obtain⟨v,e',r'⟩:=Reps.get _ _ r j d h1;exact⟨v,h2 v e',k d q v H (b9.refl H) r'⟩
  replace h:=DX h
  rcases h with⟨_,_,rfl,h⟩ | ⟨_,_,rfl,h⟩ | ⟨_,_,rfl,h⟩ | ⟨_,_,rfl,h⟩
  ·obtain⟨d,e,q⟩:=h;obtain⟨h1,h2⟩:=cv rs;unfold GU at h1;obtain⟨a,vs,e2,l,r⟩:=h1;obtain⟨v,e3,q3⟩:=fin _ _ _ _ r e q;exact .inr (.inl ⟨a,vs,_,v,e2,aQ h2,l,e3,q3⟩)
  ·obtain⟨d,e,q⟩:=h;obtain⟨h1,h2⟩:=cv rs;unfold GU at h1;obtain⟨a,vs,e2,_,l,r⟩:=h1;obtain⟨v,e3,q3⟩:=fin _ _ _ _ r e q;exact .inl ⟨a,vs,_,v,e2,aQ h2,Gz.of l,e3,q3⟩
  ·obtain⟨d,e,q⟩:=h;obtain⟨h1,h2⟩:=cv rs;unfold GU at h1;obtain⟨a,vs,e2,l,r⟩:=h1;obtain⟨v,e3,q3⟩:=fin _ _ _ _ r e q;exact .inl ⟨a,vs,_,v,e2,aQ h2,l.seq,e3,q3⟩
  ·obtain⟨hz,c,e,q⟩:=h;obtain⟨h1,h2⟩:=cv rs;exact .inr (.inr ⟨_,_,c,bh h1,aQ h2,dI hz,e,k _ q _ H (b9.refl H) (GU.sc rfl)⟩)
def fCat:List D->(D->Prop)->Prop
 | [.lst xs,.lst ys],R=>xs.length+ys.length<=9000/\R (.lst (xs++ys))
 | _,_=>False
theorem zV:∀ {d0:List D} {R:D->Prop},fCat d0 R->∃(xs:List D) (ys:List D),d0=[.lst xs,.lst ys]/\xs.length+ys.length<=9000/\R (.lst (xs++ys)):=by walk_at "or"
def E2:GM X (binaryOp .Add) λx y=>aV X.K fCat [x,y] :=
 GM.imp DR λx y H Q ⟨M,ds,R,m,rs,h,k⟩=>by
  replace h:=zV h;obtain⟨_,_,rfl,h⟩:=h
  ·obtain⟨hz,q⟩:=h;obtain⟨h1,h2⟩:=cv rs;unfold GU at h1 h2;obtain⟨a,vs,e,_,l,r⟩:=h1;obtain⟨b,ws,e',_,l',r'⟩:=h2;refine⟨a,b,vs,ws,e,e',l,l',dI (by rw[<- Reps.length _ _ r,<- Reps.length _ _ r'];exact hz),λp hp=>k _ q _ _ (aI hp _) ?_⟩;unfold GU;exact⟨p,vs++ws,rfl,λz=>m p z hp,aC,Reps.kp (Kp.of_same (aI hp _)) _ _ (Reps.append _ _ _ _ r r')⟩
def cut{α:Type}(xs:List α)(lo hi:Option Int):List α:=(xs.drop (HT.sIx xs.length 0 lo)).take (HT.sIx xs.length xs.length hi-HT.sIx xs.length 0 lo)
abbrev TDO:=En->(Option Int->En->Prop)->Prop
inductive UpO(K:PySem.W.Frag)(t:TDO)(σ:L2.St)(H:Hp)(Q:Option Int->Hp->Prop):Prop
 | mk (G:Gf) (δ:En) (P:List (D×V)) (R:Option Int->En->Prop) (s:S K G δ P σ H) (h:t δ R) (k:∀o δ',R o δ'->∀H',S K G δ' P σ H'->Q o H')
def upO(K:PySem.W.Frag)(t:TDO):TO:=UpO K t
def DO(X:Cx)(e:Option Expr)(t:TDO):Prop:=PO X e (upO X.K t)
def vp(δ:En)(R:Option Int->En->Prop):Prop:=R none δ
def Eh(t:GS)(δ:En)(R:Option Int->En->Prop):Prop:=t δ (wd λx δ1=>qI x λi=>R (some i) δ1)
def PO.imp{e:Option Expr}{t t':TO}(h:PO X e t)(i:∀σ H Q,t' σ H Q->t σ H Q):PO X e t':=λpins s σ H Q I q=>h pins s σ H Q I (i σ H Q q)
def uR:DO X none vp:=PO.imp AB λσ H Q ⟨G,δ,P,R,s,h,k⟩=>k none δ h H s
def uf{e:Expr}{te:GS}(h:DE X e te):DO X (some e) (Eh te):=PO.imp (zR h) λσ H Q ⟨G,δ,P,R,s,h,k⟩=>up.mk s h λx δ1 h1 v H1 s1=>by
 replace h1:=qI.ex h1;obtain⟨i,e,r⟩:=h1;subst e;obtain⟨A,q⟩:=id s1;exact⟨i,aQ (q.pnd (.int i,v) (by simp)),k _ δ1 r H1 (s1.sub λp hp=>by simp[hp])⟩
def fSl:D->Option Int->Option Int->(D->Prop)->Prop
 | .lst xs,lo,hi,R=>R (.lst (cut xs lo hi))
 | .fz xs,lo,hi,R=>R (.lst (cut xs lo hi))
 | .tup xs,lo,hi,R=>¬ (HT.sIx xs.length 0 lo=0/\HT.sIx xs.length xs.length hi=xs.length)/\R (.tup (cut xs lo hi))
 | _,_,_,_=>False
def dSl(te:GS)(tl th:TDO)(δ:En)(R:W->En->Prop):Prop:=te δ (wd λx δ1=>tl δ1 λl δ2=>th δ2 λu δ3=>fSl x l u λd=>R (.d d) δ3)
theorem Reps.cut{K:PySem.W.Frag}{M:Addr->Prop}{H:Hp}(lo hi:Option Int)(r:Reps K M H ds vs):Reps K M H (DL.cut ds lo hi) (uz vs lo hi):=by
 unfold DL.cut uz;rw[Reps.length _ _ r];exact Reps.take _ _ _ (Reps.drop _ _ _ r)
def y9{e:Expr}{te:GS}{lo hi:Option Expr}{tl th:TDO}{p2 pos:Pos}(he:DE X e te)(hl:DO X lo tl)(hu:DO X hi th):DE X (.Subscript e (.Slice lo hi none p2) pos) (dSl te tl th) :=
 PE.imp (xn (zG.or CJ) he hl hu) λσ H Q ⟨G,δ,P,R,s,h,k,_⟩=>up.mk s h λx δ1 h1 v H1 s1=>⟨G,δ1,(x,v)::P,_,s1,h1,λl δ2 h2 H2 s2=>⟨G,δ2,(x,v)::P,_,s2,h2,λu δ3 h3 H3 s3=>by
  obtain⟨A,q⟩:=id s3;have r:=q.pnd (x,v) (by simp)
  cases x with
  | lst xs =>
   have h3:R (.d (.lst (cut xs l u))) δ3:=h3
   simp only[GU] at r;obtain⟨a,vs,e,_,sq,r⟩:=r;refine .inl ⟨a,vs,e,Gz.of sq,λp hp=>?_⟩;have x2:=(q.same (aI hp (.lst (uz vs l u))));refine k _ δ3 h3 (.ref p) _ ⟨A,(x2.sub (P':=P) λp hp=>GY _ hp).push ?_⟩;unfold GU;exact⟨p,_,rfl,λz=>q.mem p z hp,aC,Reps.kp (Kp.of_same (aI hp _)) _ _ (Reps.cut l u r)⟩
  | fz xs =>
   have h3:R (.d (.lst (cut xs l u))) δ3:=h3
   simp only[GU] at r;obtain⟨a,vs,e,sq,r⟩:=r;refine .inl ⟨a,vs,e,sq.seq,λp hp=>?_⟩;have x2:=(q.same (aI hp (.lst (uz vs l u))));refine k _ δ3 h3 (.ref p) _ ⟨A,(x2.sub (P':=P) λp hp=>GY _ hp).push ?_⟩;unfold GU;exact⟨p,_,rfl,λz=>q.mem p z hp,aC,Reps.kp (Kp.of_same (aI hp _)) _ _ (Reps.cut l u r)⟩
  | tup xs =>
   have h3:¬ (HT.sIx xs.length 0 l=0/\HT.sIx xs.length xs.length u=xs.length)/\R (.d (.tup (cut xs l u))) δ3:=h3
   simp only[GU] at r;obtain⟨a,vs,e,sq,r⟩:=r;obtain⟨nf,h3⟩:=h3;refine .inr ⟨a,vs,e,sq,by rw[<- Reps.length _ _ r];exact nf,λp hp=>?_⟩;have x2:=(q.same (aI hp (.tup (uz vs l u))));refine k _ δ3 h3 (.ref p) _ ⟨A,(x2.sub (P':=P) λp hp=>GY _ hp).push ?_⟩;unfold GU;exact⟨p,_,rfl,Gy.of aC,Reps.kp (Kp.of_same (aI hp _)) _ _ (Reps.cut l u r)⟩
  | _=>exact(show False from h3).elim⟩⟩
end
end DL
namespace DL
open PySem PySem.Spec PyProof.Rows L2
variable {f:List D→(D→Prop)→Prop} {k:Nat} {x:Str} {ps:List Str}
def eS(N:List Str)(ds:List D):En:=ds.map Sl.dat++List.replicate (N.length-ds.length) Sl.no
theorem mZ{K:PySem.W.Frag}{vs:List V}{H:Hp}{Q:VK}{n:Nat}(h:aV K f vs H Q)(len:∀ds R,f ds R->ds.length=n):vs.length=n:=by
 obtain⟨M,ds,R,m,rs,hf,k⟩:=h;rw[<- Reps.length _ _ rs];exact len ds R hf
theorem tX{K:PySem.W.Frag}{M:Addr->Prop}{ds:List D}{vs:List V}{H:Hp}(N:List Str)(m:∀b,M b->H b≠none)(rs:Reps K M H ds vs):S K ⟨M,H,λ_=>False⟩ (eS N ds) [] (L2.start N vs) H:=by
 have hl:=Reps.length _ _ rs
 refine⟨λ_=>False,λb o e _=>e,λb e=>e,m,λb h=>h.elim,λb h=>h.elim,λb h=>h.elim,?_,λi d e=>?_,λi a d e=>?_,λi j a d e h1 h2=>?_,λp hp=>(nomatch hp)⟩
 ·unfold eS L2.start;rw[G8,G8,GW,GW,Hs,Hs,hl]
 ·unfold eS at e;unfold L2.start
  by_cases hi:i<ds.length
  ·rw[List.getElem?_append_left (by rw[GW];exact hi),List.getElem?_map] at e
   cases hd:ds[i]? with
   | none=>rw[hd] at e;cases e
   | some d' =>
    rw[hd] at e
    cases e
    obtain⟨v,ev,rv⟩:=Reps.get _ _ rs i d hd;refine⟨v,?_,GU.more (λb z=>.inl (z.elim id λq=>q.elim)) _ _ rv⟩;rw[List.getElem?_append_left (by rw[GW];omega),List.getElem?_map,ev];rfl
  ·rw[List.getElem?_append_right (by rw[GW];omega),List.getElem?_replicate] at e
   split at e<;>cases e
 all_goals
  unfold eS at *;exfalso
 ·by_cases hi:i<ds.length
  ·rw[List.getElem?_append_left (by rw[GW];exact hi),List.getElem?_map] at e
   cases hd:ds[i]? with
   | none=>rw[hd] at e;cases e
   | some d'=>rw[hd] at e;cases e
  ·rw[List.getElem?_append_right (by rw[GW];omega),List.getElem?_replicate] at e
   split at e<;>cases e
 ·by_cases hi:i<ds.length
  ·rw[List.getElem?_append_left (by rw[GW];exact hi),List.getElem?_map] at h1
   cases hd:ds[i]? with
   | none=>rw[hd] at h1;cases h1
   | some d'=>rw[hd] at h1;cases h1
  ·rw[List.getElem?_append_right (by rw[GW];omega),List.getElem?_replicate] at h1
   split at h1<;>cases h1
structure Fd(K:PySem.W.Frag)(mg:Str->Option Value)(x:Str)(st:Stmt)(ps:List Str):Prop where
 ex:∃(a:Addr) (fd:FuncData),Fun K x x st a fd/\me K fd ps []/\mg x=some (.ref a)
structure Cal(P:Program)(w:World)(K:PySem.W.Frag)(mg:Str->Option Value)(base:Heap)(k:Nat)(x:Str)(ps:List Str)(sp:Sp):Prop where
 ex:∃(a:Addr) (fd:FuncData),kd P w K mg base CX0 k a fd ps sp/\me K fd ps []/\PySem.W.keepIn K (.ref a)=true/\mg x=some (.ref a)
section
variable {P:Program} {w:World} {K:PySem.W.Frag} {mg:Str→Option Value} {base:Heap}
theorem Cal.mono{j:Nat}{sp:Sp}(C:Cal P w K mg base j x ps sp)(h:j<=k):Cal P w K mg base k x ps sp:=by
 obtain⟨a,fd,F,b,kp,m⟩:=C.ex;exact⟨a,fd,F.mono h,b,kp,m⟩
theorem Fk{st:Stmt}{N:List Str}{a:Addr}{fd:FuncData}(Fu:Fun K x x st a fd)(Sc:aw N ps (am st))(len:∀ds R,f ds R->ds.length=ps.length)
    (hbody:∀(cdv:Value) (A:Around) (outer:List Env) (s:Shared) (H:Hp) (E:XK) (ds:List D) (R:D->Prop),fK k (A.deeper (envOfC x (am st) s.heap.objs.size a cdv))->f ds R ->
      ∃t,DSs (sY CX0 P w K mg base N x (am st) a cdv A outer s H E).nox (bG st) t/\t { nx:=λ_=>R .non,rt:=λd _=>R d,ro:=R } (eS N ds)) :
    kd P w K mg base CX0 (k+1) a fd ps (Gx K f):=by
  refine Fu.ok Sc (λvs H Q E h=>mZ h len) (λcdv A outer s H vs Q E hr h=>?_);obtain⟨M,ds,R,hm,rs,hf,hk⟩:=h;obtain⟨t,ht,hq⟩:=hbody cdv A outer s H E ds R hr hf;refine⟨_,ht,⟨M,H,λ_=>False⟩,eS N ds,[],_,tX N hm rs,hq,λδ' r σ' H' ⟨A',x⟩=>?_,⟨λd δ' r v σ' H' ⟨A',x⟩=>?_,λd r a H' ⟨o1,o2,o3,o4⟩=>hk d r (.ref a) H' (λb o e=>o1 b o e id) (o4.rep o3 λb z=>.inl z),λ_ _ _ z=>z.elim⟩,λ_ h=>h.elim,λ_ h=>h.elim,λz=>z.elim⟩
  · exact hk .non r .non H' (λb o e=>x.old b o e id) (by unfold GU;rfl)
  · exact hk d r v H' (λb o e=>x.old b o e id) (GU.more (λb z=>.inl (.inl z)) _ _ (x.pnd (d,v) (by simp)))
theorem cw{st:Stmt}{N:List Str}(F:Fd K mg x st ps)(Sc:aw N ps (am st))(len:∀ds R,f ds R->ds.length=ps.length)
    (hbody:∀(a:Addr) (cdv:Value) (A:Around) (outer:List Env) (s:Shared) (H:Hp) (E:XK) (ds:List D) (R:D->Prop),fK k (A.deeper (envOfC x (am st) s.heap.objs.size a cdv))->f ds R ->
      ∃t,DSs (sY CX0 P w K mg base N x (am st) a cdv A outer s H E).nox (bG st) t/\t { nx:=λ_=>R .non,rt:=λd _=>R d,ro:=R } (eS N ds)) :
    Cal P w K mg base (k+1) x ps (Gx K f):=by
  obtain⟨a,fd,Fu,b,m⟩:=F.ex;exact⟨a,fd,Fk Fu Sc len (hbody a),b,Fu.kp,m⟩
theorem aq{X:Cx}{a:Expr}{es:List Expr}{t:TDA}{p pos:Pos}(C:Cal X.prog X.w X.K X.mg X.base k x ps (Gx X.K f))(hr:fK k X.A)(hg:Gl X x)(ha:DA X (a::es) t)
  (hdb:(x==("__debug__":Str))=false:=by decide) (he:starEach (a::es) X.env=(false,eval a X.env)::starEach es X.env:=by rfl) (hpl:(backTo pos (starEach es X.env)).any (·.1)=false:=by rfl) :
  DE X (.Call (.Name x p) (a::es) [] pos) (sQ f t):=by
 obtain⟨g,fd,F,b,kp,m⟩:=C.ex;exact AE F hr hg m kp b ha hdb he hpl
def BL(K:PySem.W.Frag):Sp:=λvs H Q _=>∃(a:Addr) (ns:List Int),vs=[.ref a]/\Gz K H a (ns.map V.int)/\Only H/\ns.length<=63/\(∀n∈ns,Builtin.Int.intBits n<=1048576)/\∀H',Q (.bl true) H'
def fLaw:List D->(D->Prop)->Prop:=λds R=>∃ns:List Int,ds=[.fz (ns.map D.int)]/\ns.length<=63/\(∀n∈ns,Builtin.Int.intBits n<=1048576)/\R (.bl true)
end
end DL
namespace DLH
open PySem PySem.W PySem.Calls PyProof.Rows
def jh{ns:List Int}(h:WData.layableAll [.list (ns.map .int)]=true):∀n∈ns,Builtin.Int.intBits n<=1048576:=λn hn=>by
 have h1:=layableW_arg h _ (G9.mpr rfl)
 have h2:=layableW_item h1 (.int n) (GZ.mpr ⟨n,hn,rfl⟩)
 have h3:=(layableW_iff.mp h2).2.2
 simpa only[WData.weight,Builtin.Int.intBits] using h3
theorem attach_callB{l:OpenLaw}{n:Nat}{q:Program}{loose:List Str}{XP:(Str->Option Value)->Heap->Prop}{YP:World->Heap->Prop}{d:DefRec}
    (hn:l.most=some n) (hdf:d.params.defaults=[])
    (call:∀(w:World) (s₀ s₁:Shared) (mg mb:Str->Option Value) (fa:Addr) (o:Obj) (pm cd doc:Value) (a:Addr) (vs:List Value) (ns:List Int),
      Ground q loose [] XP w s₀ mg mb s₁.heap->YP w s₁.heap ->
      s₁.heap.get? fa=some o->o.data=.func (docDef d.name d.params d.body d.scope pm cd doc)->s₁.heap.CodeRec cd d.name->mg d.name=some (.ref fa) ->
      s₁.heap.get? a=some { cls:=.type "list",data:=.seq vs.toArray }->IntsAre vs ns->ns.length<=n->(∀i∈ns,Builtin.Int.intBits i<=1048576)->s₁.gens=#[] ->
      codeAny (model l.prog w) callerA (.call (.ref fa) ⟨[.ref a],[]⟩) (λr s'=>r=.ok (.ret (.bool true))/\OldK s₁.heap s'.heap/\s'.os=s₁.os/\AllBare s'.gens) s₁) :
    WalkO q loose XP YP l.row.toRowW d [] (λf vs=>PySem.call f vs):=by
  intro w s₀ s₁ mg mb G Y fa o pm cd doc dV kV ho hd hcd hD hmg hg args vals as hpre hlay hrd hwl hlo;obtain rfl:dV=.none:=Dflts.none hD hdf;obtain rfl:kV=.none:=Dflts.noKw hD;obtain⟨a,vs,ns,rfl,rfl,hobj,hints,hlen⟩:=Att.script_of hn hpre hwl;refine enter_call (JO (call w s₀ s₁ mg mb fa o pm cd doc a vs ns G Y ho (fd_plain hd) hcd hmg hobj hints hlen (jh hlay) hg) λr s' hq=>?_);obtain⟨rfl,h2,h3,h4⟩:=hq;exact⟨.inl ⟨.bool true,.bool true,[],rfl,λ_=>rfl,.bool true,Att.post_true l _,λ_=>⟨List.Pairwise.nil,λ_ hm=>(nomatch hm)⟩⟩,h2,h3,h4⟩
end DLH
namespace DL
open PySem PySem.Spec PyProof.Rows L2
theorem walkB{l:PySem.W.OpenLaw}{k:Nat}{q:Program}{loose:List Str}{XP:(Str->Option Value)->Heap->Prop}{YP:World->Heap->Prop}{d:DefRec}{K:Params->PySem.W.Frag}{x:Str}
    (hn:l.most=some 63) (hdf:d.params.defaults=[]) (hr:fK k PySem.callerA) (hY:∀(w:World) (h:Heap),YP w h->(K w.params).In h)
    (F:∀(w:World) (mg:Str->Option Value) (fa:Addr) (h:Heap),(K w.params).In h->h.Ns mainGlobals mg->mg d.name=some (.ref fa) ->
      ∃fd:FuncData,(∀(s:Shared) (u:Value),BindsTo s fd ⟨[u],[]⟩ [(x,u)])/\∀base:Heap,(K w.params).In base->base.Ns mainGlobals mg->kd l.prog w (K w.params) mg base CX0 k fa fd [x] (BL (K w.params))) :
    PySem.W.WalkO q loose XP YP l.row.toRowW d [] (λf vs=>PySem.call f vs):=by
  refine DLH.attach_callB hn hdf λw s₀ s₁ mg mb fa o pm cd doc a vs ns G Y ho hd hcd hmg hobj hints hlen hbits hg=>?_;have KX:=hY w _ Y;obtain⟨fd,hb,hF⟩:=F w mg fa _ KX G.T.g hmg;exact wm KX G.T.g G.T.b G.T.builtins G.T.nolimit hg hobj hints (G0 hlen (by decide)) hr hF hb (λH hO hS=>⟨a,ns,rfl,hS,hO,hlen,hbits,λ_=>rfl⟩) λH e s' z=>z
end DL
namespace DL
open PySem PySem.Spec PyProof.Rows L2
variable {X:Cx} {elt iter:Expr} {ifs:List Expr} {scope:Scope} {pos:Pos} {wi:TI} {cl:List (Str×Addr)} {g:TG} {tc:TT} {te:TE}
def uL(ifs:List Expr)(env:Env):Sem Bool:=forIn ifs true λc r=>if r=true then do let ok<-isTrue c env (eval c env);pure (ForInStep.yield ok) else pure (ForInStep.yield r)
def PF(X:Cx)(ifs:List Expr)(t:TT):Prop :=
 ∀(pins:List (Addr×Obj)) (s:Shared) (σ:L2.St) (H:Hp) (Q:Bool->Hp->Prop),Inv X pins σ H s->t σ H Q->wpAny (model X.prog X.w) X.A (uL ifs X.env) (TP X pins σ Q) X.xe s
def Dl:PF X [] (λ_ H Q=>Q true H):=λ_ _ _ H _ I h=>wpAny_tests_nil ⟨H,I,h⟩
def C1{c:Expr}{t:TT}(h:PT X c t):PF X [c] t:=λpins s σ H Q I q=>wpAny_tests_one (h pins s σ H Q I q)
theorem eJ{prog:Program}{w:World}{A:Around}{R:Result->Shared->Prop}{s:Shared}{target:Expr}{it acc:Value}{env:Env}(I:Nat->Shared->Prop)
    (turn:∀n s,I n s->wpAny (model prog w) A (pyNext it) (λr s₁=>match r with
      | none=>R (.ok .next) s₁
      | some v=>wpAny (model prog w) A (letOwnedTupleGo target it v) (λ_ s₁'=>wpAny (model prog w) A (assign target env v) (λ_ s₂ =>
          wpAny (model prog w) A (uL ifs env) (λok s₃ =>
            if ok=true then wpAny (model prog w) A (eval elt env) (λx s₄ =>
              wpAny (model prog w) A (call (.builtin "list.append") [acc,x]) (λ_ s₅=>∃m,m<n/\I m s₅) (λ_ _=>False) s₄) (λ_ _=>False) s₃
            else ∃m,m<n/\I m s₃) (λ_ _=>False) s₂) (λ_ _=>False) s₁') (λ_ _=>False) s₁) (λ_ _=>False) s)
    (n:Nat) (h:I n s) :
    codeAny (model prog w) A (.compLoop (.ListComp elt [⟨target,iter,ifs,0⟩] scope pos) 0 it acc env) R s:=by
  refine codeAny_loop rfl I (λn s hI=>?_) n h;show wpAny _ A ((compTurn (.ListComp elt [⟨target,iter,ifs,0⟩] scope pos) 0 it acc env).onRaise (λx=>do noteFrame x env;theTreesLotGoes x)) _ _ s;refine wpAny_noted ?_;rw[compTurn_list];refine GX (wpAny_standAt (GX (Ir (turn n s hI) (λr s₁ h₁=>?_) λ_ _ h'=>h'.elim)))
  cases r with
  | none=>exact G2 h₁
  | some v =>
    refine GX (Ir h₁ (λ_ s₁' h₁'=>?_) λ_ _ h'=>h'.elim);refine GX (Ir h₁' (λ_ s₂ h₂=>GX (Ir h₂ (λok s₃ h₃=>?_) λ_ _ h'=>h'.elim)) λ_ _ h'=>h'.elim)
    cases ok with
    | false=>exact G2 ⟨rfl,h₃⟩
    | true =>
      exact GX (GX (Ir h₃ (λx s₄ h₄=>GX (Ir h₄ (λ_ s₅ h₅=>G2 (G2 ⟨rfl,h₅⟩)) λ_ _ h'=>h'.elim)) λ_ _ h'=>h'.elim))
def dB(X:Cx)(N':List Str)(scope:Scope)(cl:List (Str×Addr))(s2:Shared)(H2:Hp)(C:Addr)(fp:List Addr)(pn:List (Addr×Obj)):Cx where
 prog:=X.prog
 w:=X.w
 K:=X.K
 mg:=X.mg
 base:=X.base
 A:=X.A
 N:=N'
 s₀:=s2
 H₀:=H2
 env:=compEnvC scope cl C X.env
 outer:=X.stack
 stack:=X.stack
 ex:=fp
 fn:=λ_=>false
 calm:=X.calm
 pn:=pn
 xe:=λ_ _=>False
def v6(nt:Nat)(caps:List (Nat×Str))(σ:L2.St):L2.St:=List.replicate nt none++caps.map λp=>(σ[p.1]?).join
def Ah(wi:TI)(nt:Nat)(caps:List (Nat×Str))(g:TG)(tc:TT)(te:TE):TE:=λσ H Q=>wi σ H λJ H1=>∀p,H1 p=none ->
 ∃W:Nat->Nat->List V->L2.St->Hp->Prop,(∃m,W 0 m [] (v6 nt caps σ) (GC H1 p (.lst [])))/\∀i m xs σ' H',W i m xs σ' H'->(J.stop i H'/\Q (.ref p) H')\/(J.go i H'/\∀x H2,J.yld i H' x H2 ->
  g x σ' H2 λσ2 H3=>tc σ2 H3 λb H4=>if b=true then te σ2 H4 λy H5=>H5 p=some (.lst xs)/\xs.length<sizeLine/\∃m',m'<m/\W (i+1) m' (xs++[y]) σ2 (GC H5 p (.lst (xs++[y]))) else ∃m',m'<m/\W (i+1) m' xs σ2 H4)
theorem pU{tgt:Expr}(tn:List Str)(caps:List (Nat×Str))
    (hcalm:X.calm=true) (hclos:closureFor scope X.env=pure cl) (hcell:∀y∈scope.names,y.2≠.cell) (hkind:scope.kind=.function) (hnames:∀y∈scope.names,y.2=.local->scope.names.lookup y.1=some .local)
    (hcl:∀x c,cl.lookup x=some c->X.env.cells.lookup x=some c) (hhas:∀x,((relabel scope X.env).names.lookup x=some .cell\/(relabel scope X.env).names.lookup x=some .free)->∃c,cl.lookup x=some c)
    (hcap:∀p∈caps,X.N[p.1]?=some p.2/\X.env.scope.names.lookup p.2=some .cell/\((relabel scope X.env).names.lookup p.2=some .cell\/(relabel scope X.env).names.lookup p.2=some .free))
    (hi:PI X.nox tgt iter wi)
    (hb:∀s2 H2 C fp pn,PG (dB X (tn++caps.map (·.2)) scope cl s2 H2 C fp pn) tgt g/\PF (dB X (tn++caps.map (·.2)) scope cl s2 H2 C fp pn) ifs tc/\PE (dB X (tn++caps.map (·.2)) scope cl s2 H2 C fp pn) elt te)
    (hs:∀x,foldedSetIterable iter X.env x=pure x:=by intro _;rfl)
    {posF:Pos} {use:Option (Value->Sem Unit)} {Qf:Value->Shared->Prop} (pins:List (Addr×Obj)) (s:Shared) (σ:L2.St) (H:Hp) (Q:VK) (I:Inv X.nox pins σ H s) (h:Ah wi tn.length caps g tc te σ H Q)
    (fin:∀p C m4 H3 s4,Inv X.nox pins σ H3 s4->s4.heap.Ns C m4->xo X.nox pins H3 C->Q (.ref p) H3->compPost (model X.prog X.w) X.A (λ_ _=>False) use Qf (.ref p) C (.ok .next) s4) :
    wpAny (model X.prog X.w) X.A (comprehension (.ListComp elt [⟨tgt,iter,ifs,0⟩] scope pos) scope X.env posF (newList []) false (eval iter X.env) use) Qf (λ_ _=>False) s:=by
  refine wpAny_comprehension_free (use:=use) rfl hs hclos hkind hnames (Ir (hi pins s σ H _ I h) (λx s₁ h₁=>Ir h₁ (λitv s₂ h₂=>?_) λ_ _ e=>e) λ_ _ e=>e);obtain⟨it,fp,tnr,J,H1,rfl,I1,T,st,hfp,q⟩:=h₂;refine HR (wpAny_newFunctionEnv hcell (by intro y hy;simp at hy) (λh₁ hns₁ hsb₁=>?_) hkind)
  dsimp only at hns₁ hsb₁ ⊢
  generalize hH2:s₂.heap.push { cls:=.type "list",dict:=none,data:=.seq ([]:List Value).toArray }=Hq at hns₁ hsb₁ ⊢
  have hC:Hq.objs.size=s₂.heap.objs.size+1:=by rw[<- hH2,Ik]
  generalize hCe:Hq.objs.size=C at hns₁ hsb₁ hC ⊢
  generalize hpe:s₂.heap.objs.size=p at hC ⊢
  obtain⟨m1,hns₁⟩:∃m,h₁.Ns C m:=⟨_,hns₁⟩;have hpC:p≠C:=Hz (by rw[hC];exact JU _);have hbs:∀b,b<s₂.heap.objs.size->b≠C/\b≠p:=λb hb=>⟨Hz (by rw[hC,<- hpe];exact IM hb),Hz (by rw[<- hpe];exact hb)⟩;have hple:s₂.heap.objs.size<=p:=Nat.le_of_eq hpe;have hCle:s₂.heap.objs.size<=C:=by rw[hC,<- hpe];exact JK _
  have old:∀b o,s₂.heap.get? b=some o->h₁.get? b=some o:=λb o e =>
    hsb₁.extBut b o (hbs b (Hk e)).1 (Heap.get?_push_of_some _ (hH2 ▸ Heap.get?_push_of_some _ e))
  have hacc:h₁.get? p=some { cls:=.type "list",data:=.seq ([]:List Value).toArray 0 }:=by
    refine hsb₁.extBut p _ hpC ?_;rw[<- hpe];exact Heap.get?_push_of_some _ (hH2 ▸ Heap.get?_push_size _ rfl)
  have hfree:H1 p=none:=I1.hok.fresh hple
  have hfreeC:H1 C=none:=I1.hok.fresh hCle
  obtain⟨W,⟨m0,w0⟩,turn⟩:=q p hfree;have X'def:∃X',X'=dB X (tn++caps.map (·.2)) scope cl s₂ H1 C fp (X.pn++pins):=⟨_,rfl⟩;obtain⟨X',hX'⟩:=X'def;have hstk:∀b∈frs X.stack,b=X.env.locals\/b∈X.fs:=λb hb=>G7.mp (I1.stkSub b hb);have hfpl:∀b∈fp,b<s₂.heap.objs.size:=λb hb=>let ⟨_,e,_⟩:=T.obj _ _ st b hb;Hk e;have hfps:∀b∈fp,b∉frs X.stack:=λb hb z=>(hstk b z).elim (λe=>(hfp b hb).2.1 e) λe=>(hfp b hb).2.2.1 e;have hcells:∀x c,cl.lookup x=some c->c<s₂.heap.objs.size/\H1 c=none:=λx c e=>by
    obtain⟨v,hv⟩:=I1.cell x c (hcl x c e);exact⟨hv.lt,I1.freeC x c (hcl x c e)⟩
  have ok:X'.Ok:=by
    subst hX';have o:=I1.ok
    exact { mod:=o.mod
            kind:=by show (relabel scope X.env).kind=.function;exact hkind
            glob:=o.glob
            blt:=o.blt
            above:=hCle
            inj:=λx y c h1 h2=>o.inj x y c (hcl x c h1) (hcl y c h2)
            has:=λx hx=>hhas x hx
            cab:=λx c h1 _=>nomatch h1
            hd:=o.hd
            frames:=o.frames
            stk:=.inl rfl
            exf:=λb hb=>⟨(hbs b (hfpl b hb)).1,λx c e=>λz=>(hfp b hb).2.2.2.2.1 x c (hcl x c e) z⟩
            bs:=λb ob e=>I1.bs b ob e
            bsz:=G0 o.bsz I1.sz
            noex:=λb ob e hb=>by
              obtain⟨_,_,_,hh,_⟩:=hfp b hb
              rcases hh with hh | hh
              · exact o.noex b ob e hh
              · exact absurd (Hk (I1.ok.bs b ob e).1) (Nat.not_lt.mpr hh)
            exfs:=hfps
            funs:=I1.stack
            frf:=I1.stkFree }
  have capOk:∀(m:Str->Option Value) (i:Nat) (x:Str) (v:V),X'.N[i]?=some x->(v6 tn.length caps σ)[i]?=some (some v)->Vis X'.env.scope x->∃u,bx v u/\Look X'.env h₁ m x u:=by
    subst hX';intro m i x v hN hσ hv;have hN:(tn++caps.map (·.2))[i]?=some x:=hN;unfold v6 at hσ
    by_cases hi:i<tn.length
    · rw[List.getElem?_append_left (by rw[Hs];exact hi),List.getElem?_replicate,Hh hi] at hσ
      cases hσ
    · rw[List.getElem?_append_right (by rw[Hs];omega),Hs] at hσ;rw[List.getElem?_append_right (by omega)] at hN;rw[List.getElem?_map] at hσ hN
      cases hc:caps[i-tn.length]? with
      | none=>rw[hc] at hN;cases hN
      | some pr =>
        rw[hc] at hN hσ;have hN:pr.2=x:=Hg hN;have hσ:(σ[pr.1]?).join=some v:=Hg hσ;obtain⟨c1,c2,c3⟩:=hcap pr (Hc hc);subst hN;have hσ':σ[pr.1]?=some (some v):=by
          cases z:σ[pr.1]? with
          | none=>rw[z] at hσ;cases hσ
          | some o=>rw[z] at hσ;exact IB some hσ
        obtain⟨m1,hm1,hl1⟩:=I1.loc;obtain⟨u,ru,lk⟩:=hl1 pr.1 pr.2 v c1 hσ' (.inr (.inl c2));refine⟨u,ru,.inr ⟨c3,?_⟩⟩
        rcases lk with⟨k,_⟩ | ⟨_,c,ec,ic⟩
        · have k:X.env.scope.names.lookup pr.2=some .local :=k
          rw[c2] at k
          cases k
        · obtain⟨c',ec'⟩:=hhas pr.2 c3;have e1:=hcl _ _ ec';have ec:X.env.cells.lookup pr.2=some c:=ec;rw[ec] at e1
          cases e1
          exact⟨c,ec',ic.keeps old⟩
  have un0:Un (frs X.stack) fp H1 (GC H1 p (.lst [])) s₂.heap h₁:=Un.laid old hple hfree
  have I4:∀tk,Inv X' [] (v6 tn.length caps σ) (GC H1 p (.lst [])) { s₂ with heap:=h₁,toks:=tk }:=λtk=>by
    have hN:X'.N=tn++caps.map (·.2):=by rw[hX'];rfl
    refine⟨ok,?_,I1.bare,?_,⟨m1,?_,λi x v e1 e2 e3=>?_⟩,λx c e=>?_,?_,λx c e=>?_,λpr hp=>?_,?_,?_⟩
    · rw[hX'];rfl
    · rw[hX'];exact un0
    · rw[hX'];exact hns₁
    · exact capOk _ i x v e1 e2 e3
    · rw[hX'] at e;obtain⟨v,hv⟩:=I1.cell x c (hcl x c e);exact⟨v,hv.keeps old⟩
    · rw[hX'];show GC H1 p (.lst []) C=none;rw[aH (J8 hpC)];exact hfreeC
    · rw[hX'] at e;have hc:=hcells x c e;show GC H1 p (.lst []) c=none;rw[aH (hbs c hc.1).2];exact hc.2
    · rw[hX'] at hp;have hp:pr∈(X.pn++pins)++[]:=hp;rw[HJ] at hp;obtain⟨e,n,nl,nf,d⟩:=I1.pin pr hp;have hlt:=Hk e;refine⟨old _ _ e,?_,?_,λz=>?_,d⟩
      · rw[aH (hbs _ hlt).2];exact n
      · rw[hX'];exact(hbs _ hlt).1
      · rw[hX'] at z;exact(hstk _ z).elim nl nf
    · have e1:X'.prog=X.prog:=by rw[hX'];rfl
      have e2:X'.w=X.w:=by rw[hX'];rfl
      rw[e1,e2];exact I1.hok.laid old hple ⟨Ie _,[],0,.nil,hacc⟩
    · rw[hN];unfold v6;rw[G8,G8,Hs,GW,GW]
  have fpk:∀H',(∀b∈fp,H' b=none)->∀b∈fp,xo X' [] H' b:=λH' hn b hb=>by
    rw[hX'];refine⟨hn b hb,(hbs b (hfpl b hb)).1,hfps b hb,.inl hb,λx c e=>λz=>(hfp b hb).2.2.2.2.1 x c (hcl x c e) z,λpr hp=>?_⟩;have hp:pr∈(X.pn++pins)++[]:=hp;rw[HJ] at hp;exact(hfp b hb).2.2.2.2.2 pr hp
  obtain⟨hg,hf,he⟩:=hb s₂ H1 C fp (X.pn++pins);rw[<- hX'] at hg hf he;have p1:X'.prog=X.prog:=by rw[hX'];rfl
  have p2:X'.w=X.w:=by rw[hX'];rfl
  have p3:X'.K=X.K:=by rw[hX'];rfl
  have p4:X'.calm=true:=by rw[hX'];exact hcalm
  have p5:X'.env=compEnvC scope cl C X.env:=by rw[hX'];rfl
  have p6:X'.A=X.A:=by rw[hX'];rfl
  have p7:X'.xe=λ_ _=>False:=by rw[hX'];rfl
  have st1:tnr 0 h₁:=T.keep _ _ _ st λb hb o e=>old b o e
  have loop:∀tk,codeAny (model X.prog X.w) X.A (.compLoop (.ListComp elt [⟨tgt,iter,ifs,0⟩] scope pos) 0 (.ref it) (.ref p) (compEnvC scope cl C X.env))
      (compPost (model X.prog X.w) X.A (λ_ _=>False) use Qf (.ref p) C) { s₂ with heap:=h₁,toks:=tk }:=λtk=>by
    refine eJ (λn s'=>∃i xs σ' H',Inv X' [] σ' H' s'/\tnr i s'.heap/\(∀b∈fp,H' b=none)/\W i n xs σ' H') ?_ m0 ⟨0,[],_,_,I4 tk,st1,λb hb=>?_,w0⟩
    · rintro n s3 ⟨i,xs,σ3,H3,I3,st3,fr3,w3⟩
      rcases turn i n xs σ3 H3 w3 with⟨stop,qn⟩ | ⟨go,step⟩
      · have q1:=T.done X' p1 p2 p3 p4 i [] s3 _ H3 (λ_ _=>False) I3 (fpk H3 fr3) st3 stop
        rw[p6] at q1;refine GE q1 λr s4 ⟨hr,I4'⟩=>?_;subst hr;obtain⟨m4,hm4,_⟩:=I4'.loc;rw[p5] at hm4;have hb4:=I4'.base;rw[hX'] at hb4;have hb4:Un (frs X.stack) fp H1 H3 s₂.heap s4.heap:=hb4;have hfc:H3 C=none:=by
          have z:=I4'.free
          rw[p5] at z;exact z
        have hok4:GT X.prog X.w H3 s4.heap:=by
          have hk:=I4'.hok
          rw[p1,p2] at hk;exact hk
        have hos:s4.os=s₂.os:=by
          have z:=I4'.os
          rw[hX'] at z;exact z
        have I9:=I1.call' (s':=s4) (ch:=fp) hos hb4 hok4 I4'.bare (λb hb=>by
          obtain⟨_,f1,f2,f3,f4,f5⟩:=hfp b hb
          exact⟨f3,f1,f4,f5⟩)
        exact fin p C m4 H3 s4 I9 hm4 ⟨hfc,(I1.fpOk hCle hfreeC).2⟩ qn
      · have q1:=T.item X' p1 p2 p3 p4 i [] s3 _ H3 (λ_ _=>False) I3 (fpk H3 fr3) st3 go
        rw[p6] at q1;refine GE q1 λr s4 ⟨u,hr,h4⟩=>?_;subst hr;refine GE h4 λ_ s5 ⟨x,H5,I5,r5,y5,st5,fr5⟩=>?_;have I5':=I5.pinned (fpk H5 fr5) (T.obj _ _ st5);have q5:=hg _ s5 _ H5 x u _ I5' r5 (step x H5 y5);rw[p1,p2,p5,p6,p7] at q5;refine GE q5 λ_ s6 ⟨σ6,H6,I6,q6⟩=>?_;have q6:=hf _ s6 σ6 H6 _ I6 q6;rw[p1,p2,p5,p6,p7] at q6;refine GE q6 λb s7 ⟨H7,I7,q7⟩=>?_;have again:∀ {s8:Shared} {H8:Hp},Inv X' ([]++mz fp s5.heap) σ6 H8 s8->Inv X' [] σ6 H8 s8/\tnr (i+1) s8.heap/\(∀b∈fp,H8 b=none):=λ{s8 H8} I8=>by
          refine⟨I8.unpinned,T.keep _ _ _ st5 λb hb o e=>(I8.pin (b,o) (G6 _ (G6 _ (eA hb e)))).1,λb hb=>?_⟩;obtain⟨o,e,d⟩:=T.obj _ _ st5 b hb;exact(I8.pin (b,o) (G6 _ (G6 _ (eA hb e)))).2.1
        cases b with
        | false =>
          obtain⟨m',hm,w7⟩:=q7;obtain⟨a1,a2,a3⟩:=again I7;exact⟨m',hm,i+1,xs,σ6,H7,a1,a2,a3,w7⟩
        | true =>
          rw[Hh rfl];have q8:=he _ s7 σ6 H7 _ I7 q7;rw[p1,p2,p5,p6,p7] at q8;refine GE q8 λy s8 ⟨yv,H8,I8,ry,hac,hsz,m',hm,w8⟩=>?_;have q9:=mi (X:=X') _ s8 σ6 H8 (.ref p) [yv] (.ref p) [y] (λ_ H9=>H9=GC H8 p (.lst (xs++[yv]))) I8 rfl (.cons ry .nil) ⟨p,xs,yv,rfl,rfl,hac,hsz,rfl⟩;rw[p1,p2,p6,p7] at q9;refine GE q9 λ_ s9 ⟨_,H9,I9,_,e9⟩=>?_;subst e9;obtain⟨a1,a2,a3⟩:=again I9;exact⟨m',hm,i+1,xs++[yv],σ6,_,a1,a2,a3,w8⟩
    · rw[aH (hbs b (hfpl b hb)).2];exact(hfp b hb).1
  have L0:=loop (s₂.toks+([]:List (Str×Value)).length)
  exact codeAny_compStart_list L0 (T.self _ _ _ _ _ st1 L0)
theorem Ak{tgt:Expr}(tn:List Str)(caps:List (Nat×Str))
  (hcalm:X.calm=true) (hclos:closureFor scope X.env=pure cl) (hcell:∀y∈scope.names,y.2≠.cell) (hkind:scope.kind=.function) (hnames:∀y∈scope.names,y.2=.local->scope.names.lookup y.1=some .local)
  (hcl:∀x c,cl.lookup x=some c->X.env.cells.lookup x=some c) (hhas:∀x,((relabel scope X.env).names.lookup x=some .cell\/(relabel scope X.env).names.lookup x=some .free)->∃c,cl.lookup x=some c)
  (hcap:∀p∈caps,X.N[p.1]?=some p.2/\X.env.scope.names.lookup p.2=some .cell/\((relabel scope X.env).names.lookup p.2=some .cell\/(relabel scope X.env).names.lookup p.2=some .free))
  (hi:PI X.nox tgt iter wi)
  (hb:∀s2 H2 C fp pn,PG (dB X (tn++caps.map (·.2)) scope cl s2 H2 C fp pn) tgt g/\PF (dB X (tn++caps.map (·.2)) scope cl s2 H2 C fp pn) ifs tc/\PE (dB X (tn++caps.map (·.2)) scope cl s2 H2 C fp pn) elt te)
  (hs:∀x,foldedSetIterable iter X.env x=pure x:=by intro _;rfl) :
  PE X.nox (.ListComp elt [⟨tgt,iter,ifs,0⟩] scope pos) (Ah wi tn.length caps g tc te):=by
 intro pins s σ H Q I h;rw[eval_ListComp];refine pU tn caps hcalm hclos hcell hkind hnames hcl hhas hcap hi hb hs (use:=none) pins s σ H Q I h λp C m4 H3 s4 I9 hm4 hf q=>?_;obtain⟨f0,f1,f2,f3,f4,f5⟩:=hf;exact⟨m4,hm4,λh' hs'=>⟨.ref p,H3,I9.turned (t':=s4.toks) (λb o hb e=>hs'.extBut b o hb e) f0 f1 f3 f4 f5,rfl,q⟩⟩
theorem qd{tgt:Expr}(tn:List Str)(caps:List (Nat×Str))
  (hcalm:X.calm=true) (hclos:closureFor scope X.env=pure cl) (hcell:∀y∈scope.names,y.2≠.cell) (hkind:scope.kind=.function) (hnames:∀y∈scope.names,y.2=.local->scope.names.lookup y.1=some .local)
  (hcl:∀x c,cl.lookup x=some c->X.env.cells.lookup x=some c) (hhas:∀x,((relabel scope X.env).names.lookup x=some .cell\/(relabel scope X.env).names.lookup x=some .free)->∃c,cl.lookup x=some c)
  (hcap:∀p∈caps,X.N[p.1]?=some p.2/\X.env.scope.names.lookup p.2=some .cell/\((relabel scope X.env).names.lookup p.2=some .cell\/(relabel scope X.env).names.lookup p.2=some .free))
  (hi:PI X.nox tgt iter wi)
  (hb:∀s2 H2 C fp pn,PG (dB X (tn++caps.map (·.2)) scope cl s2 H2 C fp pn) tgt g/\PF (dB X (tn++caps.map (·.2)) scope cl s2 H2 C fp pn) ifs tc/\PE (dB X (tn++caps.map (·.2)) scope cl s2 H2 C fp pn) elt te)
  (hs:∀x,foldedSetIterable iter X.env x=pure x:=by intro _;rfl) {i:Nat} {y:Str} {pos' pos2:Pos} (hN:X.N.Nodup) (hi':X.N[i]?=some y) (hx:Loc X.env.scope y) (hsw:swapsWith (.ListComp elt [⟨tgt,iter,ifs,0⟩] scope pos) (some (.Name y pos')) pos2.line X.env=pure true) (hf:X.fn y=true\/X.env.scope.names.lookup y=some .local) :
  PS X.nox (.Assign [.Name y pos'] (.ListComp elt [⟨tgt,iter,ifs,0⟩] scope pos) pos2) (tAsg (Ah wi tn.length caps g tc te) (tf i)):=by
 intro pins s σ H D I h;show wpAny (model X.prog X.w) X.A (exec (.Assign [.Name y pos'] (.ListComp elt [⟨tgt,iter,ifs,0⟩] scope pos) pos2) X.env) _ _ s;rw[exec_Assign_Name_used _ _ _ _ hsw];refine GX (wpAny_standAt (GX ?_));show wpAny _ _ (do let _<-comprehension (.ListComp elt [⟨tgt,iter,ifs,0⟩] scope pos) scope X.env _ (newList []) false (eval iter X.env) (some (assign (.Name y pos') X.env))) _ _ s;refine GX (Ir (pU tn caps hcalm hclos hcell hkind hnames hcl hhas hcap hi hb hs (use:=some (assign (.Name y pos') X.env)) (Qf:=λ_ s'=>SP X.nox pins D .next s') pins s σ H _ I h λp C m4 H3 s4 I9 hm4 hfp q=>?_) (λ_ s' hq=>G2 (G2 hq)) λ_ _ e=>e);obtain⟨f0,f1,f2,f3,f4,f5⟩:=hfp;show wpAny _ _ (assign (.Name y pos') X.env (.ref p)) _ _ s4;refine wpAny_assign_Name (mj (X:=X.nox) I9 hN hi' hx (v:=.ref p) rfl (λs5 I5 ⟨a,sb,ha⟩=>?_) hf);have hac:C≠a:=by
  rcases ha with rfl | ha
  ·exact f1
  ·exact λz=>f4 y a ha z.symm
 refine⟨m4,hm4.sameBut sb hac,λh' hs'=>⟨_,H3,I5.turned (t':=s5.toks) (λb o hb e=>hs'.extBut b o hb e) f0 f1 f3 f4 f5,q⟩⟩
end DL
namespace DL
open PySem PySem.Spec PyProof.Rows L2
variable {i j:Bool} {T:String}
theorem dP:bootBuiltins "len"=some (.builtin "len"):=by decide +kernel
theorem DU:bootBuiltins "abs"=some (.builtin "abs"):=by decide +kernel
theorem l7:bootBuiltins "isinstance"=some (.builtin "isinstance"):=by decide +kernel
theorem FJ:bootBuiltins "max"=some (.builtin "max"):=by decide +kernel
theorem eB:bootBuiltins "sorted"=some (.builtin "sorted"):=by decide +kernel
theorem CM:bootBuiltins "int"=some (.type "int"):=by decide +kernel
theorem CG:bootBuiltins "bool"=some (.type "bool"):=by decide +kernel
theorem bM:bootBuiltins "tuple"=some (.type "tuple"):=by decide +kernel
theorem D5:bootBuiltins "list"=some (.type "list"):=by decide +kernel
theorem yu:bootBuiltins "dict"=some (.type "dict"):=by decide +kernel
theorem Gc:bootBuiltins "set"=some (.type "set"):=by decide +kernel
section
variable {X:Cx}
def CZ:List D->(D->Prop)->Prop
 | [.tup xs,.tup ys],R=>xs≠[]/\ys≠[]/\xs.length+ys.length<=9000/\R (.tup (xs++ys))
 | _,_=>False
theorem wD:∀ {d0:List D} {R:D->Prop},CZ d0 R->∃(xs:List D) (ys:List D),d0=[.tup xs,.tup ys]/\xs≠[]/\ys≠[]/\xs.length+ys.length<=9000/\R (.tup (xs++ys)):=by walk_at "or"
def CO:GM X (binaryOp .Add) λx y=>aV X.K CZ [x,y] :=
 GM.imp AH λx y H Q ⟨M,ds,R,m,rs,h,k⟩=>by
  replace h:=wD h;obtain⟨_,_,rfl,h⟩:=h
  ·obtain⟨n1,n2,hz,q⟩:=h;obtain⟨h1,h2⟩:=cv rs;unfold GU at h1 h2;obtain⟨a,vs,e,l,r⟩:=h1;obtain⟨b,ws,e',l',r'⟩:=h2;have l1:=Reps.length _ _ r;have l2:=Reps.length _ _ r';refine⟨a,b,vs,ws,e,e',l,l',λz=>n1 (Iu (by rw[l1,z];rfl)),dI (by rw[<- l1,<- l2];exact hz),λz=>absurd (Iu (by rw[l2,z];rfl)) n2,λ_ p hp=>k _ q _ _ (aI hp _) ?_⟩;unfold GU;exact⟨p,vs++ws,rfl,Gy.of aC,Reps.kp (Kp.of_same (aI hp _)) _ _ (Reps.append _ _ _ _ r r')⟩
def u5:List D->(D->Prop)->Prop
 | [.int i,.int j],R=>R (.int (i+j))
 | [.lst xs,.lst ys],R=>xs.length+ys.length<=9000/\R (.lst (xs++ys))
 | [.tup xs,.tup ys],R=>xs≠[]/\ys≠[]/\xs.length+ys.length<=9000/\R (.tup (xs++ys))
 | _,_=>False
theorem wB:∀ {d0:List D} {R:D->Prop},u5 d0 R->((∃(i:Int) (j:Int),d0=[.int i,.int j]/\R (.int (i+j)))\/(∃(xs:List D) (ys:List D),d0=[.lst xs,.lst ys]/\xs.length+ys.length<=9000/\R (.lst (xs++ys)))\/(∃(xs:List D) (ys:List D),d0=[.tup xs,.tup ys]/\xs≠[]/\ys≠[]/\xs.length+ys.length<=9000/\R (.tup (xs++ys)))):=by walk_at "or"
def aR:GM X (binaryOp .Add) λx y=>aV X.K u5 [x,y] :=
 GM.imp (GM.or (GM.or ER E2) CO) λx y H Q ⟨M,ds,R,m,rs,h,k⟩=>by
  replace h:=wB h
  rcases h with⟨_,_,rfl,h⟩ | ⟨_,_,rfl,h⟩ | ⟨_,_,rfl,h⟩
  ·exact .inl (.inl ⟨M,_,R,m,rs,h,k⟩)
  ·exact .inl (.inr ⟨M,_,R,m,rs,h,k⟩)
  ·exact .inr ⟨M,_,R,m,rs,h,k⟩
mutual
def D.dp:D->Nat
 | .tup xs=>D.dps xs+1
 | .lst xs=>D.dps xs+1
 | .fz xs=>D.dps xs+1
 | .dct _ _=>0
 | .fd _ _=>0
 | .fo _ _ _=>0
 | .exn _ _ _=>0
 | .non=>0
 | .bl _=>0
 | .int _=>0
 | .str _=>0
def D.dps:List D->Nat
 | []=>0
 | x::r=>max (D.dp x) (D.dps r)
end
mutual
def D.nd:D->Bool
 | .tup xs=>D.nds xs
 | .lst xs=>D.nds xs
 | .fz xs=>D.nds xs
 | .dct _ _=>false
 | .fd _ _=>false
 | .fo _ _ _=>false
 | .exn _ _ _=>false
 | .non=>true
 | .bl _=>true
 | .int _=>true
 | .str _=>true
def D.nds:List D->Bool
 | []=>true
 | x::r=>D.nd x&&D.nds r
end
def bL(A:Around):A.in1.units=A.units+1:=rfl
theorem iH(n:Nat):((List.range n).all λ_=>true)=true:=by simp
section
variable {pins:List (Addr×Obj)} {σ:L2.St} {H:Hp} {s:Shared} {M:Addr→Prop}
mutual
theorem yk(I:Inv X pins σ H s):∀(d:D) (A:Around) (v v':V) (u u':Value),d.nd=true->A.units+d.dp<cLine->GU X.K M H d v->GU X.K M H d v'->bx v u->bx v' u'->SeqAt.EqAt A s u u' true
 | .non,A,v,v',u,u',_,_,r,r',q,q'=>by
  unfold GU at r r';subst r r';have:=pI (A:=A) (s:=s) q q' rfl rfl;exact this
 | .bl b,A,v,v',u,u',_,_,r,r',q,q'=>by
  unfold GU at r r';subst r r';have:=pI (A:=A) (s:=s) q q' rfl rfl;simpa [eqV] using this
 | .int b,A,v,v',u,u',_,_,r,r',q,q'=>by
  unfold GU at r r';subst r r';have:=pI (A:=A) (s:=s) q q' rfl rfl;simpa [eqV] using this
 | .str b,A,v,v',u,u',_,_,r,r',q,q'=>by
  unfold GU at r r';subst r r';have:=pI (A:=A) (s:=s) q q' rfl rfl;simpa [eqV] using this
 | .tup ds,A,v,v',u,u',hn,hd,r,r',q,q'=>by
  unfold GU at r r';obtain⟨a,vs,rfl,sq,rs⟩:=r;obtain⟨b,ws,rfl,sq',rs'⟩:=r'
  cases q
  cases q'
  unfold D.dp at hd
  by_cases e:a=b
  ·subst e;exact Jx _
  ·obtain⟨its,r1,t1,_⟩:=I.tuple sq;obtain⟨its',r2,t2,_⟩:=I.tuple sq';have hs:its.length=its'.length:=by rw[<- r1.length,<- r2.length,<- Reps.length _ _ rs,<- Reps.length _ _ rs']
   have k:=SeqAt.RcAt.tuples (A:=A) (e:=λ_=>true) t1 t2 (by omega) (eqAt_Ds I ds A.in1 vs ws its its' hn (by rw[bL];omega) rs rs' r1 r2)
   have z:((List.range (min its.toArray.size its'.toArray.size)).all (λ_=>true)&&its.toArray.size==its'.toArray.size)=true:=by simp[hs]
   rw[z] at k;exact SeqAt.EqAt.of_refs e k
 | .lst ds,A,v,v',u,u',hn,hd,r,r',q,q'=>by
  unfold GU at r r';obtain⟨a,vs,rfl,_,sq,rs⟩:=r;obtain⟨b,ws,rfl,_,sq',rs'⟩:=r'
  cases q
  cases q'
  unfold D.dp at hd
  by_cases e:a=b
  ·subst e;exact Jx _
  ·obtain⟨its,r1,t1,_⟩:=I.list (Gz.of sq);obtain⟨its',r2,t2,_⟩:=I.list (Gz.of sq');have hs:its.length=its'.length:=by rw[<- r1.length,<- r2.length,<- Reps.length _ _ rs,<- Reps.length _ _ rs']
   have k:=SeqAt.RcAt.lists (A:=A) (e:=λ_=>true) t1.isList t2.isList (by simp[hs]) (by omega) (eqAt_Ds I ds A.in1 vs ws its its' hn (by rw[bL];omega) rs rs' r1 r2)
   rw[iH] at k;exact SeqAt.EqAt.of_refs e k
 | .fz ds,A,v,v',u,u',hn,hd,r,r',q,q'=>by
  unfold GU at r r';obtain⟨a,vs,rfl,sq,rs⟩:=r;obtain⟨b,ws,rfl,sq',rs'⟩:=r'
  cases q
  cases q'
  unfold D.dp at hd
  by_cases e:a=b
  ·subst e;exact Jx _
  ·obtain⟨its,r1,t1,_⟩:=I.list sq.seq;obtain⟨its',r2,t2,_⟩:=I.list sq'.seq;have hs:its.length=its'.length:=by rw[<- r1.length,<- r2.length,<- Reps.length _ _ rs,<- Reps.length _ _ rs']
   have k:=SeqAt.RcAt.lists (A:=A) (e:=λ_=>true) t1.isList t2.isList (by simp[hs]) (by omega) (eqAt_Ds I ds A.in1 vs ws its its' hn (by rw[bL];omega) rs rs' r1 r2)
   rw[iH] at k;exact SeqAt.EqAt.of_refs e k
 | .dct ks ds,A,v,v',u,u',hn,_,_,_,_,_=>by unfold D.nd at hn;cases hn
 | .fd ks ds,A,v,v',u,u',hn,_,_,_,_,_=>by unfold D.nd at hn;cases hn
 | .fo o ks ds,A,v,v',u,u',hn,_,_,_,_,_=>by unfold D.nd at hn;cases hn
 | .exn _ _ _,A,v,v',u,u',hn,_,_,_,_,_=>by unfold D.nd at hn;cases hn
theorem eqAt_Ds(I:Inv X pins σ H s):∀(ds:List D) (A:Around) (vs ws:List V) (us us':List Value),D.nds ds=true->A.units+D.dps ds<cLine->Reps X.K M H ds vs->Reps X.K M H ds ws->bn vs us->bn ws us' ->
  ∀j (h1:j<us.toArray.size) (h2:j<us'.toArray.size),SeqAt.EqAt A s us.toArray[j] us'.toArray[j] true
 | [],A,vs,ws,us,us',_,_,r,r',q,q',j,h1,h2=>by
  unfold Reps at r;subst r
  cases q
  exact absurd h1 (by simp)
 | d::ds,A,vs,ws,us,us',hn,hd,r,r',q,q',j,h1,h2=>by
  unfold Reps at r r';obtain⟨v,vr,rfl,rv,rs⟩:=r;obtain⟨w',wr,rfl,rw',rs'⟩:=r';unfold D.nds at hn;obtain⟨n1,n2⟩:=Hn.mp hn;unfold D.dps at hd
  cases q with
  | @cons _ u0 _ ur qa qb =>
   cases q' with
   | @cons _ u1 _ ur' qa' qb' =>
    cases j with
    | zero=>exact yk I d A v w' _ _ n1 (by omega) rv rw' qa qa'
    | succ j =>
     have z:=eqAt_Ds I ds A vr wr ur ur' n2 (by omega) rs rs' qb qb' j (by simpa using h1) (by simpa using h2)
     simpa using z
end
end
theorem yR{i j:Int}:decide (V.int i=V.int j)=decide (i=j):=by rw[oB];exact JQ _ _
theorem Cq:decide (V.bl i=V.bl j)=decide (i=j):=by rw[uP];exact JQ _ _
theorem yS{i j:Str}:decide (V.str i=V.str j)=decide (i=j):=by rw[oy];exact JQ _ _
def fEq:List D->(D->Prop)->Prop
 | [.int i,.int j],R=>R (.bl (decide (i=j)))
 | [.str x,.str y],R=>R (.bl (decide (x=y)))
 | [.bl a,.bl b],R=>R (.bl (decide (a=b)))
 | [.tup xs,.tup ys],R=>(xs=ys/\D.nds xs=true/\D.dps xs<=60)/\R (.bl true)
 | [.lst xs,.lst ys],R=>((xs=ys/\D.nds xs=true/\D.dps xs<=60)/\R (.bl true))\/(xs.length≠ys.length/\R (.bl false))
 | _,_=>False
theorem Cj:∀ {d0:List D} {R:D->Prop},fEq d0 R->((∃(i:Int) (j:Int),d0=[.int i,.int j]/\R (.bl (decide (i=j))))\/(∃(x:Str) (y:Str),d0=[.str x,.str y]/\R (.bl (decide (x=y))))\/(∃(a:Bool) (b:Bool),d0=[.bl a,.bl b]/\R (.bl (decide (a=b))))\/(∃(xs:List D) (ys:List D),d0=[.tup xs,.tup ys]/\(xs=ys/\D.nds xs=true/\D.dps xs<=60)/\R (.bl true))\/(∃(xs:List D) (ys:List D),d0=[.lst xs,.lst ys]/\(((xs=ys/\D.nds xs=true/\D.dps xs<=60)/\R (.bl true))\/(xs.length≠ys.length/\R (.bl false))))):=by walk_at "or"
def At{i j:Int}{R:D->Prop}:fEq [.int i,.int j] R=(R (.bl (decide (i=j)))):=rfl
def Bi{i j:Str}{R:D->Prop}:fEq [.str i,.str j] R=(R (.bl (decide (i=j)))):=rfl
def Dq{R:D->Prop}:fEq [.bl i,.bl j] R=(R (.bl (decide (i=j)))):=rfl
def zw{i j:List D}{R:D->Prop}:fEq [.tup i,.tup j] R=((i=j/\D.nds i=true/\D.dps i<=60)/\R (.bl true)):=rfl
theorem cX(hu:X.A.units+64<cLine):GM X (compareOp .Eq) λx y=>aV X.K fEq [x,y]:=by
 intro pins s σ H x y v u Q I rx ry h;obtain⟨M,ds,R,m,rs,h,k⟩:=h;replace h:=Cj h
 rcases h with⟨_,_,rfl,h⟩ | ⟨_,_,rfl,h⟩ | ⟨_,_,rfl,h⟩ | ⟨_,_,rfl,h⟩ | ⟨_,_,rfl,h⟩
 ·obtain⟨h1,h2⟩:=cv rs
  cases aQ h1
  cases aQ h2
  refine A6 pins s σ H _ _ v u Q I rx ry ⟨rfl,?_⟩;rw[yR];exact k _ h _ H (b9.refl H) (GU.sc rfl)
 ·obtain⟨h1,h2⟩:=cv rs
  cases bh h1
  cases bh h2
  refine A6 pins s σ H _ _ v u Q I rx ry ⟨rfl,?_⟩;rw[yS];exact k _ h _ H (b9.refl H) (GU.sc rfl)
 ·obtain⟨h1,h2⟩:=cv rs
  cases gZ h1
  cases gZ h2
  refine A6 pins s σ H _ _ v u Q I rx ry ⟨rfl,?_⟩;rw[Cq];exact k _ h _ H (b9.refl H) (GU.sc rfl)
 ·obtain⟨⟨e,hn,hd⟩,h⟩:=h;subst e;obtain⟨h1,h2⟩:=cv rs;unfold GU at h1 h2;obtain⟨a,vs,rfl,sq,rs1⟩:=h1;obtain⟨b,ws,rfl,sq',rs2⟩:=h2
  cases rx
  cases ry
  obtain⟨its,r1,t1,_⟩:=I.tuple sq;obtain⟨its',r2,t2,_⟩:=I.tuple sq';have hs:its.length=its'.length:=by rw[<- r1.length,<- r2.length,<- Reps.length _ _ rs1,<- Reps.length _ _ rs2]
  refine SeqAt.eq_tupleAt (e:=λ_=>true) t1 t2 (by omega) (eqAt_Ds I _ X.A.in1 vs ws its its' hn (by rw[bL];omega) rs1 rs2 r1 r2) ?_;have z:((List.range (min its.toArray.size its'.toArray.size)).all (λ_=>true)&&its.toArray.size==its'.toArray.size)=true:=by simp[hs]
  rw[z];exact⟨.bl true,H,I,rfl,k _ h _ H (b9.refl H) (GU.sc rfl)⟩
 ·obtain⟨h1,h2⟩:=cv rs;unfold GU at h1 h2;obtain⟨a,vs,rfl,_,sq,rs1⟩:=h1;obtain⟨b,ws,rfl,_,sq',rs2⟩:=h2
  cases rx
  cases ry
  obtain⟨its,r1,t1,_⟩:=I.list (Gz.of sq);obtain⟨its',r2,t2,_⟩:=I.list (Gz.of sq')
  rcases h with⟨⟨e,hn,hd⟩,h⟩ | ⟨ne,h⟩
  ·subst e;have hs:its.length=its'.length:=by rw[<- r1.length,<- r2.length,<- Reps.length _ _ rs1,<- Reps.length _ _ rs2]
   refine SeqAt.eq_listAt (e:=λ_=>true) t1.isList t2.isList (by simp[hs]) (by omega) (eqAt_Ds I _ X.A.in1 vs ws its its' hn (by rw[bL];omega) rs1 rs2 r1 r2) ?_;rw[iH];exact⟨.bl true,H,I,rfl,k _ h _ H (b9.refl H) (GU.sc rfl)⟩
  ·refine SeqAt.eq_list_lengthsAt t1.isList t2.isList ?_ (by omega) ⟨.bl false,H,I,rfl,k _ h _ H (b9.refl H) (GU.sc rfl)⟩;have l1:=r1.length;have l2:=r2.length;have l3:=Reps.length _ _ rs1;have l4:=Reps.length _ _ rs2;simp only[List.size_toArray,bne_iff_ne,ne_eq];omega
def fNe:List D->(D->Prop)->Prop
 | [.int i,.int j],R=>R (.bl (!decide (i=j)))
 | [.str x,.str y],R=>R (.bl (!decide (x=y)))
 | [.bl a,.bl b],R=>R (.bl (!decide (a=b)))
 | _,_=>False
theorem CP:∀ {d0:List D} {R:D->Prop},fNe d0 R->((∃(i:Int) (j:Int),d0=[.int i,.int j]/\R (.bl (!decide (i=j))))\/(∃(x:Str) (y:Str),d0=[.str x,.str y]/\R (.bl (!decide (x=y))))\/(∃(a:Bool) (b:Bool),d0=[.bl a,.bl b]/\R (.bl (!decide (a=b))))):=by walk_at "or"
theorem o_ne(_:X.A.units+64<cLine):GM X (compareOp .NotEq) λx y=>aV X.K fNe [x,y]:=by
 intro pins s σ H x y v u Q I rx ry h;obtain⟨M,ds,R,m,rs,h,k⟩:=h;replace h:=CP h
 rcases h with⟨_,_,rfl,h⟩ | ⟨_,_,rfl,h⟩ | ⟨_,_,rfl,h⟩
 ·obtain⟨h1,h2⟩:=cv rs
  cases aQ h1
  cases aQ h2
  refine AW pins s σ H _ _ v u Q I rx ry ⟨rfl,?_⟩;rw[yR];exact k _ h _ H (b9.refl H) (GU.sc rfl)
 ·obtain⟨h1,h2⟩:=cv rs
  cases bh h1
  cases bh h2
  refine AW pins s σ H _ _ v u Q I rx ry ⟨rfl,?_⟩;rw[yS];exact k _ h _ H (b9.refl H) (GU.sc rfl)
 ·obtain⟨h1,h2⟩:=cv rs
  cases gZ h1
  cases gZ h2
  refine AW pins s σ H _ _ v u Q I rx ry ⟨rfl,?_⟩;rw[Cq];exact k _ h _ H (b9.refl H) (GU.sc rfl)
def fIs:List D->(D->Prop)->Prop
 | [.bl a,.bl b],R=>R (.bl (decide (a=b)))
 | [.non,.non],R=>R (.bl true)
 | [.tup _,.non],R=>R (.bl false)
 | [.exn _ _ _,.non],R=>R (.bl false)
 | _,_=>False
theorem D4{d0:List D}{R:D->Prop}(h:fIs d0 R):(∃(a:Bool) (b:Bool),d0=[.bl a,.bl b]/\R (.bl (decide (a=b))))\/(d0=[.non,.non]/\R (.bl true))\/(∃(z1:List D),d0=[.tup z1,.non]/\R (.bl false))\/(∃(c f:Str) (z1:D),d0=[.exn c f z1,.non]/\R (.bl false)):=by
 rcases d0 with _ | ⟨a,_ | ⟨b,_ | ⟨c,l⟩⟩⟩
 ·exact False.elim h
 ·cases a<;>exact False.elim h
 ·cases a<;>first | exact False.elim h | (cases b<;>first | exact False.elim h | exact .inl ⟨_,_,rfl,h⟩ | exact .inr (.inl ⟨rfl,h⟩) | exact .inr (.inr (.inl ⟨_,rfl,h⟩)) | exact .inr (.inr (.inr ⟨_,_,_,rfl,h⟩)))
 ·cases a<;>first | exact False.elim h | (cases b<;>exact False.elim h)
def Ci{R:D->Prop}:fIs [.bl i,.bl j] R=(R (.bl (decide (i=j)))):=rfl
theorem EH:GM X (compareOp .Is) (λx y H Q=>∃a b,x=.bl a/\y=.bl b/\Q (.bl (decide (a=b))) H):=by
 intro pins s σ H x y v u Q I rx ry h;obtain⟨a,b,rfl,rfl,q⟩:=h
 cases rx
 cases ry
 refine wpAny_is_plain rfl ⟨.bl _,H,I,rfl,?_⟩;have e:(Value.bool a==Value.bool b)=decide (a=b):=by cases a<;>cases b<;>rfl
 rw[e];exact q
def B5:GM X (compareOp .Is) λx y=>aV X.K fIs [x,y] :=
  GM.imp (GM.or EH DM) λx y H Q ⟨M,ds,R,m,rs,h,k⟩=>by
    have fin:∀b,R (.bl b)->Q (.bl b) H:=λb r=>k _ r _ H (b9.refl H) (GU.sc rfl)
    replace h:=D4 h
    rcases h with⟨_,_,rfl,h⟩ | ⟨rfl,h⟩ | ⟨_,rfl,h⟩ | ⟨_,_,_,rfl,h⟩
    · obtain⟨h1,h2⟩:=cv rs;exact .inl ⟨_,_,gZ h1,gZ h2,fin _ h⟩
    all_goals first
      | exact h.elim
      | (obtain⟨h1,h2⟩:=cv rs
         unfold GU at h1 h2
         first
           | (subst h1;exact .inr ⟨h2,fin _ h⟩)
           | (obtain⟨a,vs,e,_⟩:=h1;subst e;exact .inr ⟨h2,fin _ h⟩)
           | (obtain⟨y,⟨e,C,dx,e1,_⟩,_⟩:=h1;subst e1;exact .inr ⟨h2,fin _ h⟩))
def tyN:D->String
 | .non=>"NoneType"
 | .bl _=>"bool"
 | .int _=>"int"
 | .str _=>"str"
 | .tup _=>"tuple"
 | .lst _=>"list"
 | .fz _=>"list"
 | .dct _ _=>"dict"
 | .fd _ _=>"dict"
 | .fo _ _ _=>"dict"
 | .exn _ _ _=>"NoneType"
def D.noX:D->Prop
 | .exn _ _ _=>False
 | _=>True
def isT(T n:String):Bool:=n==T||(n=="bool"&&T=="int")
def n5(T:String):Prop:=∀(K:PySem.W.Frag) (n:String),n∈["NoneType","bool","int","str","tuple","list","dict"]->PySem.W.kitOne K (.type n) (.type T)=some (isT T n)
theorem Ag(d:D):tyN d∈["NoneType","bool","int","str","tuple","list","dict"]:=by cases d<;>simp[tyN]
theorem FH{pins:List (Addr×Obj)}{σ:L2.St}{H:Hp}{s:Shared}{A:Around}{E:Value->Shared->Prop}{M:Addr->Prop}{d:D}{v:V}{u:Value}{Q:Value->Shared->Prop}(I:L2.Inv X pins σ H s)(r:GU X.K M H d v)(nx:d.noX)(ru:bx v u)(ht:n5 T)
  (h:∀tk,Q (.bool (isT T (tyN d))) { s with toks:=tk }):wpAny (model X.prog X.w) A (call (.builtin "isinstance") [u,.type T]) Q E s:=by
 have e:=ht X.K (tyN d) (Ag d)
 cases d with
 | non=>unfold GU at r;subst r;exact de I ru (.non) e h
 | bl b=>unfold GU at r;subst r;exact de I ru (.bl b) e h
 | int b=>unfold GU at r;subst r;exact de I ru (.int b) e h
 | str b=>unfold GU at r;subst r;exact de I ru (.str b) e h
 | tup xs =>
  unfold GU at r;obtain⟨a,vs,rfl,sq,_⟩:=r
  cases ru
  obtain⟨its,_,⟨o,h1,h2,_⟩,_⟩:=I.tuple sq;exact HL PySem.W.kitx_tuple I.kIn ⟨o,h1,h2⟩ e (λz=>nomatch z) h
 | lst xs=>unfold GU at r;obtain⟨a,vs,rfl,_,sq,_⟩:=r;exact de I ru (.lst sq) e h
 | fz xs =>
  unfold GU at r;obtain⟨a,vs,rfl,sq,_⟩:=r
  cases ru
  obtain⟨its,_,⟨o,n,h1,h2,_⟩,_⟩:=I.list sq.seq;exact HL PySem.W.kitx_list I.kIn ⟨o,h1,h2⟩ e (λz=>nomatch z) h
 | dct ks xs=>unfold GU at r;obtain⟨a,vs,rfl,_,sq,_⟩:=r;exact de I ru (.dK sq) e h
 | fd ks xs =>
  unfold GU at r;obtain⟨a,vs,o,rfl,sq,_⟩:=r
  cases ru
  obtain⟨_,_,va,_,da⟩:=gy I.hok (.inr ⟨o,sq⟩);obtain⟨o2,h1,h2⟩:=da.typeIs;exact HL JH I.kIn ⟨o2,h1,h2⟩ e (λz=>nomatch z) h
 | fo o ks xs =>
  unfold GU at r;obtain⟨a,vs,rfl,sq,_⟩:=r
  cases ru
  obtain⟨_,_,va,_,da⟩:=gy I.hok (.inr ⟨o,sq⟩);obtain⟨o2,h1,h2⟩:=da.typeIs;exact HL JH I.kIn ⟨o2,h1,h2⟩ e (λz=>nomatch z) h
 | exn c f x=>exact nx.elim
def GR(T:String):D->(Bool->Prop)->Prop
 | .exn _ _ _,_=>False
 | x,k=>k (isT T (tyN x))
theorem GR.ex{x:D}{k:Bool->Prop}(h:GR T x k):x.noX/\k (isT T (tyN x)):=by cases x<;>first | exact False.elim h | exact⟨trivial,h⟩
def kIs(T:String)(R:W->En->Prop):W->En->Prop:=wd λx δ1=>GR T x λb=>R (.d (.bl b)) δ1
def dIsi(T:String)(t:GS)(δ:En)(R:W->En->Prop):Prop:=t δ (kIs T R)
def rIsi(K:PySem.W.Frag)(T:String):List V->Hp->VK->Prop:=λxs H Q=>∃x M d,xs=[x,.ty T]/\GU K M H d x/\d.noX/\Q (.bl (isT T (tyN d))) H
theorem xk(ht:n5 T):bW X (.builtin "isinstance") (rIsi X.K T):=by
 intro pins s σ H xs us Q I r h;obtain⟨x,M,d,rfl,rx,nx,q⟩:=h;obtain⟨u,w',rfl,ru,rw'⟩:=DZ r
 cases rw'
 exact FH I rx nx ru ht λtk=>⟨.bl _,H,I.tok _,rfl,q⟩
theorem ia{T:Str}{n:String}{a:Expr}{ta:GS}{p p2 pos:Pos}(ht:n5 n)(hg:Gl X "isinstance")(hm:X.mg "isinstance"=none)(hgT:Gl X T)(hmT:X.mg T=none)(hvT:bootBuiltins T=some (.type n))(ha:DE X a ta)
  (hnT:T≠"__name__":=by decide) (hdT:(T==("__debug__":Str))=false:=by decide)
  (he:starEach [a,.Name T p2] X.env=(false,eval a X.env)::starEach [.Name T p2] X.env:=by rfl) (he2:starEach [.Name T p2] X.env=(false,eval (.Name T p2) X.env)::starEach [] X.env:=by rfl) (hpl:(backTo pos (starEach [.Name T p2] X.env)).any (·.1)=false:=by rfl) :
  DE X (.Call (.Name "isinstance" p) [a,.Name T p2] [] pos) (dIsi n ta) :=
 PE.imp (kJ (xk ht) hg hm l7 (a9 ha (a9 (Am (v:=.ty n) hgT hmT hvT rfl hnT hdT) dr he2) he) (by decide) (by decide) he hpl) λσ H Q ⟨G,δ,P,R,s,h,k,_⟩=>up.mk s h λd δ1 h1 v H1 s1=>by
  obtain⟨A,q⟩:=id s1;replace h1:=GR.ex h1;exact⟨v,_,d,rfl,q.pnd (d,v) (by simp),h1.1,k _ δ1 h1.2 _ H1 ((s1.sub (P':=P) λp hp=>GY _ hp).sc rfl)⟩
def Dz:n5 "int":=λK n hn=>by
 simp only[List.mem_cons,List.not_mem_nil,or_false] at hn
 rcases hn with rfl | rfl | rfl | rfl | rfl | rfl | rfl<;>with_unfolding_all rfl
def A5:n5 "bool":=λK n hn=>by
 simp only[List.mem_cons,List.not_mem_nil,or_false] at hn
 rcases hn with rfl | rfl | rfl | rfl | rfl | rfl | rfl<;>with_unfolding_all rfl
def gi:n5 "tuple":=λK n hn=>by
 simp only[List.mem_cons,List.not_mem_nil,or_false] at hn
 rcases hn with rfl | rfl | rfl | rfl | rfl | rfl | rfl<;>with_unfolding_all rfl
def AG:n5 "dict":=λK n hn=>by
 simp only[List.mem_cons,List.not_mem_nil,or_false] at hn
 rcases hn with rfl | rfl | rfl | rfl | rfl | rfl | rfl<;>with_unfolding_all rfl
end
end DL
namespace DL
open PySem PySem.Spec PyProof.Rows L2
variable {caps:List (Nat×Str)} {i nt:Nat} {d:D} {xs:List D} {f:D→Option D} {g:TDG} {tc:TDT}
section
variable {K:PySem.W.Frag} {G:Gf} {A A':Addr→Prop} {δ:List Sl} {P P':List (D×V)} {σ:L2.St} {H H':Hp}
theorem Sx.addA{p:Addr}(s:Sx K G A δ P σ H)(hn:H p=none)(hs:b9 H H')(hp:H' p≠none):Sx K G (λb=>A b\/b=p) δ P σ H':=by
 have x:=s.same hs
 have hM:∀b,(G.M0 b\/(A b\/b=p))->(G.M0 b\/A b)\/H b=none:=λb h=>by
  rcases h with h | h | h
  ·exact .inl (.inl h)
  ·exact .inl (.inr h)
  ·subst h;exact .inr hn
 have up:∀d v,GU K (λb=>G.M0 b\/A b) H d v->GU K (λb=>G.M0 b\/(A b\/b=p)) H' d v:=λd v r=>GU.kp (Kp.of_same hs) _ _ (GU.more hM _ _ r)
 have h0:G.H0 p=none:=by
  cases q:G.H0 p with
  | none=>rfl
  | some o=>exact absurd hn (s.stay p (by rw[q];exact λz=>nomatch z))
 refine⟨x.old,x.stay,x.m0,x.pm,λb h=>h.elim (s.new b) λe=>.inl (by rw[e];exact h0),λb h=>h.elim (x.thr b) λe=>by rw[e];exact hp,s.len,λj d' e=>?_,λj b d' e=>?_,s.inj,λq hq=>up _ _ (s.pnd q hq)⟩
 ·obtain⟨v,q,r⟩:=s.dat j d' e;exact⟨v,q,up _ _ r⟩
 ·obtain⟨q,r,o⟩:=s.own j b d' e;refine⟨q,.inl r,bq.kp (Kp.of_same hs) ?_ (bq.more hM o)⟩
  cases z:H b with
  | none=>exact absurd z (s.thr b r)
  | some o'=>exact hs b o' z
theorem Sx.subA(s:Sx K G A δ P σ H)(hA:∀b,A' b->A b)(ho:∀(i:Nat) a d,δ[i]?=some (.own a d)->A' a):Sx K G A' δ P σ H:=by
 have hM:∀b,(G.M0 b\/A' b)->(G.M0 b\/A b)\/H b=none:=λb h=>.inl (h.elim .inl λz=>.inr (hA b z))
 exact⟨s.old,s.stay,s.m0,s.pm,λb h=>s.new b (hA b h),λb h=>s.thr b (hA b h),s.len,λi d e=>let ⟨v,q,r⟩:=s.dat i d e;⟨v,q,GU.more hM _ _ r⟩,λi a d e=>let ⟨q,_,o⟩:=s.own i a d e;⟨q,ho i a d e,bq.more hM o⟩,s.inj,
  λp hp=>GU.more hM _ _ (s.pnd p hp)⟩
theorem Sx.poke{p:Addr}{vs ws:List V}(s:Sx K G A δ P σ H)(hp:A p)(hv:H p=some (.lst vs))(hno:∀(i:Nat) d,δ[i]?≠some (.own p d)):Sx K G A δ P σ (GC H p (.lst ws)):=by
 have hk:∀b o,b≠p->H b=some o->GC H p (.lst ws) b=some o:=λb o n e=>by rw[aH n];exact e
 have kp:Kp (λb=>G.M0 b\/A b) H (GC H p (.lst ws)):=⟨λb o e n=>hk b o (λz=>n (.inr (by rw[z];exact hp))) e,λb xs e=>hk b _ (λz=>by rw[z,hv] at e;cases e) e,λb o u e=>hk b _ (λz=>by rw[z,hv] at e;cases e) e⟩
 have stay:∀b,H b≠none->GC H p (.lst ws) b≠none:=λb e=>by
  by_cases z:b=p
  ·rw[z,aC];exact λz=>nomatch z
  ·rw[aH z];exact e
 have na:∀b o,G.H0 b=some o->¬ G.Pm b->b≠p:=λb o e n z=>(s.new p hp).elim (λq=>by rw[z] at e;rw[e] at q;cases q) λq=>n (by rw[z];exact q)
 refine⟨λb o e n=>hk b o (na b o e n) (s.old b o e n),λb e=>stay b (s.stay b e),s.m0,s.pm,s.new,λb e=>stay b (s.thr b e),s.len,λi d e=>let ⟨v,q,r⟩:=s.dat i d e;⟨v,q,GU.kp kp _ _ r⟩,λi a d e=>?_,s.inj,λq hq=>GU.kp kp _ _ (s.pnd q hq)⟩;obtain⟨q,r,o⟩:=s.own i a d e;have ne:a≠p:=λz=>by subst z;exact hno i d e
 exact⟨q,r,bq.kp kp (by rw[aH ne]) o⟩
end
def t9:Option Sl->Sl
 | some (.dat d)=>.dat d
 | _=>.no
def iK(caps:List (Nat×Str))(δ:En):En:=caps.map λp=>t9 δ[p.1]?
def oS:Option D->Sl
 | none=>.no
 | some d=>.dat d
def v7:Nat->(List Sl->Prop)->Prop
 | 0,p=>p []
 | n+1,p=>∀t:Option D,v7 n λts=>p (oS t::ts)
def okT:Nat->En->En->Prop
 | 0,δ,c=>δ=c
 | n+1,.dat _::r,c=>okT n r c
 | _+1,_,_=>False
abbrev TDC:=En->(List D->En->Prop)->Prop
def BI(src:TDC)(nt:Nat)(caps:List (Nat×Str))(g:TDG)(tc:TDT)(te:GS)(δ:En)(R:W->En->Prop):Prop:=src δ λxs δ1=>xs.length<=9000/\∃f:D->Option D,
 (∀x∈xs,v7 nt λts=>g x (ts++iK caps δ1) λδ2=>tc δ2 λb δ3=>if b=true then te δ3 (wd λy δ4=>okT nt δ4 (iK caps δ1)/\f x=some y) else okT nt δ3 (iK caps δ1)/\f x=none)/\R (.d (.lst (xs.filterMap f))) δ1
theorem rj:∀ {n:Nat} {p:List Sl->Prop},v7 n p->∀ts:List (Option D),ts.length=n->p (ts.map oS)
 | 0,p,h,ts,e=>by rw[Iv.mp e];exact h
 | n+1,p,h,[],e=>by cases e
 | n+1,p,h,t::ts,e=>rj (h t) ts (Ja e)
theorem nE:∀ {n:Nat} {δ c:En},okT n δ c->∃ts:List (Option D),ts.length=n/\δ=ts.map oS++c
 | 0,δ,c,h=>⟨[],rfl,h⟩
 | n+1,[],c,h=>h.elim
 | n+1,.dat d::r,c,h=>by
  obtain⟨ts,e,q⟩:=nE (n:=n) (δ:=r) h;exact⟨some d::ts,by rw[Ha,e],by rw[q];rfl⟩
 | n+1,.no::r,c,h=>h.elim
 | n+1,.own _ _::r,c,h=>h.elim
section
variable {K:PySem.W.Frag} {G:Gf} {δ:List Sl} {P:List (D×V)} {σ:L2.St}
theorem xB(e:(iK caps δ)[i]?=some (.dat d)):∃p,caps[i]?=some p/\δ[p.1]?=some (.dat d):=by
 unfold iK at e;rw[List.getElem?_map] at e
 cases hc:caps[i]? with
 | none=>rw[hc] at e;cases e
 | some p =>
  rw[hc] at e;refine⟨p,rfl,?_⟩;have e:=Hg e
  cases q:δ[p.1]? with
  | none=>simp[q,t9] at e
  | some z =>
   cases z with
   | dat d'=>simp only[q,t9] at e;cases e;rfl
   | no=>simp[q,t9] at e
   | own _ _=>simp[q,t9] at e
theorem kK{a:Addr}(e:(iK caps δ)[i]?=some (.own a d)):False:=by
 unfold iK at e;rw[List.getElem?_map] at e
 cases hc:caps[i]? with
 | none=>rw[hc] at e;cases e
 | some p =>
  rw[hc] at e;have e:=Hg e
  cases q:δ[p.1]? with
  | none=>simp[q,t9] at e
  | some z=>cases z<;>simp[q,t9] at e
theorem E9{A:Addr->Prop}{H:Hp}(s:Sx K G A δ P σ H):Sx K ⟨λb=>G.M0 b\/A b,H,λ_=>False⟩ (λ_=>False) ((List.replicate nt none).map oS++iK caps δ) [] (v6 nt caps σ) H:=by
 have hM:∀b,((G.M0 b\/A b)\/False)->(G.M0 b\/A b)\/H b=none:=λb h=>h.elim .inl λz=>z.elim
 have hr:(List.replicate nt none).map oS=List.replicate nt Sl.no:=by rw[List.map_replicate];rfl
 rw[hr];refine⟨λb o e _=>e,λb e=>e,s.mem,λb h=>h.elim,λb h=>h.elim,λb h=>h.elim,?_,λi d e=>?_,λi a d e=>?_,λi j a d e h1 _=>?_,λp hp=>(nomatch hp)⟩
 ·unfold iK v6;rw[G8,G8,Hs,Hs,GW,GW]
 ·by_cases hi:i<nt
  ·rw[List.getElem?_append_left (by rw[Hs];exact hi),List.getElem?_replicate,Hh hi] at e
   cases e
  ·rw[List.getElem?_append_right (by rw[Hs];omega),Hs] at e;obtain⟨p,hp,hd⟩:=xB e;obtain⟨v,q,r⟩:=s.dat _ _ hd;refine⟨v,?_,GU.more hM _ _ r⟩;unfold v6;rw[List.getElem?_append_right (by rw[Hs];omega),Hs,List.getElem?_map,hp];show some ((σ[p.1]?).join)=_;rw[q];rfl
 all_goals
  exfalso
 ·by_cases hi:i<nt
  ·rw[List.getElem?_append_left (by rw[Hs];exact hi),List.getElem?_replicate,Hh hi] at e
   cases e
  ·rw[List.getElem?_append_right (by rw[Hs];omega)] at e;exact kK e
 ·by_cases hi:i<nt
  ·rw[List.getElem?_append_left (by rw[Hs];exact hi),List.getElem?_replicate,Hh hi] at h1
   cases h1
  ·rw[List.getElem?_append_right (by rw[Hs];omega)] at h1;exact kK h1
theorem zm{ts:List (Option D)}{a:Addr}(e:(ts.map oS++iK caps δ)[i]?=some (.own a d)):False:=by
 by_cases hi:i<ts.length
 ·rw[List.getElem?_append_left (by rw[GW];exact hi),List.getElem?_map] at e
  cases hc:ts[i]? with
  | none=>rw[hc] at e;cases e
  | some o =>
   rw[hc] at e
   cases o<;>cases e
 ·rw[List.getElem?_append_right (by rw[GW];omega)] at e;exact kK e
theorem re_S{M:Addr->Prop}{A2:Addr->Prop}{ts:List (Option D)}{H H5 H6:Hp}{P2:List (D×V)}{σ2:L2.St}(s:Sx K ⟨M,H,λ_=>False⟩ A2 (ts.map oS++iK caps δ) P2 σ2 H5)(k:Kp M H5 H6)(hm:∀b,M b->H6 b≠none) :
  Sx K ⟨M,H6,λ_=>False⟩ (λ_=>False) (ts.map oS++iK caps δ) [] σ2 H6:=by
 have hM:∀b,(M b\/False)->(M b\/A2 b)\/H5 b=none:=λb h=>.inl (h.elim .inl λz=>z.elim)
 have k':Kp (λb=>M b\/False) H5 H6:=⟨λb o e n=>k.un b o e λz=>n (.inl z),k.tu,k.fr⟩
 exact⟨λb o e _=>e,λb e=>e,hm,λb h=>h.elim,λb h=>h.elim,λb h=>h.elim,s.len,λi d e=>let ⟨v,q,r⟩:=s.dat i d e;⟨v,q,GU.kp k' _ _ (GU.more hM _ _ r)⟩,λi a d e=>(zm e).elim,
  λi j a d e h1 _=>(zm h1).elim,λp hp=>(nomatch hp)⟩
theorem jU{x:D}(h:xs[i]?=some x):(xs.take (i+1)).filterMap f=(xs.take i).filterMap f++(match f x with | some y=>[y] | none=>[]):=by
 rw[List.take_add_one,h,List.filterMap_append]
 cases e:f x<;>simp[e]
theorem kl{J:It}{te:GS}{H1:Hp}{Q:VK}(s:S K G δ P σ H1)(hz:xs.length<=9000)
  (hgo:∀A i H,Sx K G A δ P σ H->i<xs.length->J.go i H) (hst:∀A H,Sx K G A δ P σ H->J.stop xs.length H)
  (hyl:∀A i x H H2,Sx K G A δ P σ H->i<xs.length->J.yld i H x H2->b9 H H2/\∃d,xs[i]?=some d/\GU K (λb=>G.M0 b\/A b) H2 d x)
  (hf:∀x∈xs,v7 nt λts=>g x (ts++iK caps δ) λδ2=>tc δ2 λb δ3=>if b=true then te δ3 (wd λy δ4=>okT nt δ4 (iK caps δ)/\f x=some y) else okT nt δ3 (iK caps δ)/\f x=none)
  (p:Addr) (hp:H1 p=none) (k:∀(A:Addr->Prop) acc H',¬ (G.M0 p\/A p)->(∀(i:Nat) a d,δ[i]?=some (.own a d)->A a)->Sx K G (λb=>A b\/b=p) δ P σ H'->H' p=some (.lst acc)->Reps K (λb=>G.M0 b\/(A b\/b=p)) H' (xs.filterMap f) acc->Q (.ref p) H') :
  ∃W:Nat->Nat->List V->L2.St->Hp->Prop,(∃m,W 0 m [] (v6 nt caps σ) (GC H1 p (.lst [])))/\∀i m acc σ' H',W i m acc σ' H'->(J.stop i H'/\Q (.ref p) H')\/(J.go i H'/\∀x H2,J.yld i H' x H2 ->
   upG K g x σ' H2 λσ2 H3=>upT K tc σ2 H3 λb H4=>if b=true then up K te σ2 H4 λy H5=>H5 p=some (.lst acc)/\acc.length<sizeLine/\∃m',m'<m/\W (i+1) m' (acc++[y]) σ2 (GC H5 p (.lst (acc++[y]))) else ∃m',m'<m/\W (i+1) m' acc σ2 H4):=by
 obtain⟨A0,x0⟩:=s;have hA0:¬ (G.M0 p\/A0 p):=λz=>x0.mem p z hp;have hno:∀(i:Nat) d,δ[i]?≠some (.own p d):=λi d e=>hA0 (.inr (x0.own i p d e).2.1);have x1:=x0.addA hp (aI hp (.lst [])) (by rw[aC];exact λz=>nomatch z)
 refine⟨λi m acc σ' H'=>i<=xs.length/\m=xs.length-i/\acc.length<=i/\H' p=some (.lst acc)/\Sx K G (λb=>A0 b\/b=p) δ P σ H'/\Reps K (λb=>G.M0 b\/(A0 b\/b=p)) H' ((xs.take i).filterMap f) acc /\
  ∃ts:List (Option D),ts.length=nt/\Sx K ⟨λb=>G.M0 b\/(A0 b\/b=p),H',λ_=>False⟩ (λ_=>False) (ts.map oS++iK caps δ) [] σ' H',⟨xs.length,Ie _,rfl,G3 _,aC,x1,by rw[Jl];exact Reps.nil,List.replicate nt none,Hs,E9 x1⟩,?_⟩
 rintro i m acc σ' H' ⟨hi,rfl,hal,hac,x,rs,ts,hts,sx⟩
 by_cases hlt:i<xs.length
 ·refine .inr ⟨hgo _ i H' x hlt,λv H2 hy=>?_⟩;obtain⟨sm0,d,hd,rd⟩:=hyl _ i v H' H2 x hlt hy;replace sx:=re_S sx (Kp.of_same sm0) (x.same sm0).mem;replace x:=x.same sm0;replace hac:=sm0 _ _ hac;replace rs:=Reps.kp (Kp.of_same sm0) _ _ rs;clear sm0 hy;have hmem:d∈xs:=Hc hd;refine⟨_,ts.map oS++iK caps δ,[],d,_,⟨_,sx.push (GU.more (λb z=>.inl (z.elim id λq=>q.elim)) _ _ rd)⟩,rj (hf d hmem) ts hts,λδ2 h2 σ2 H3 s2=>?_⟩;refine⟨_,_,[],_,s2,h2,λb δ3 h3 H4 s3=>?_⟩;have fmS:=jU (f:=f) hd;have hM1:∀b,(G.M0 b\/(A0 b\/b=p))->H2 b≠none:=x.mem
  cases b with
  | false =>
   obtain⟨ok3,hn⟩:=h3;rw[hn,HJ] at fmS;obtain⟨ts3,hts3,e3⟩:=nE ok3;subst e3;obtain⟨A3,y3⟩:=s3;have sm:b9 H2 H4:=λb o e=>y3.old b o e id;have x4:=x.same sm;exact⟨xs.length-(i+1),by omega,hlt,rfl,by omega,sm _ _ hac,x4,by rw[fmS];exact Reps.kp (Kp.of_same sm) _ _ rs,ts3,hts3,re_S y3 Kp.refl x4.mem⟩
  | true =>
   refine up.mk (P:=[]) s3 h3 λy δ4 h4 yv H5 s4=>?_;obtain⟨ok4,hy⟩:=h4;rw[hy] at fmS;obtain⟨ts4,hts4,e4⟩:=nE ok4;subst e4;obtain⟨A4,y4⟩:=s4;have sm:b9 H2 H5:=λb o e=>y4.old b o e id;have x5:=x.same sm;have hac5:=sm _ _ hac;have ry:GU K (λb=>G.M0 b\/(A0 b\/b=p)) H5 y yv:=GU.more (λb z=>.inl (.inl z)) _ _ (y4.pnd (y,yv) (by simp));have x6:=x5.poke (p:=p) (ws:=acc++[yv]) (.inr rfl) hac5 hno;have kp:Kp (λb=>G.M0 b\/(A0 b\/b=p)) H5 (GC H5 p (.lst (acc++[yv]))):=by
    have hk:∀b o,b≠p->H5 b=some o->GC H5 p (.lst (acc++[yv])) b=some o:=λb o n e=>by rw[aH n];exact e
    exact⟨λb o e n=>hk b o (λz=>n (.inr (.inr z))) e,λb xs e=>hk b _ (λz=>by rw[z,hac5] at e;cases e) e,λb o u e=>hk b _ (λz=>by rw[z,hac5] at e;cases e) e⟩
   refine⟨hac5,Nat.lt_of_le_of_lt (G0 hal hi) (i9 hz),xs.length-(i+1),by omega,hlt,rfl,by rw[G8,IG];omega,aC,x6,?_,ts4,hts4,re_S y4 kp x6.mem⟩;rw[fmS];exact Reps.kp kp _ _ (Reps.append _ _ _ _ (Reps.kp (Kp.of_same sm) _ _ rs) (Reps.one ry))
 ·have e:i=xs.length:=by omega
  subst e;rw[Ho] at rs;exact .inl ⟨hst _ H' x,k A0 acc H' hA0 (λi a d e=>(x0.own i a d e).2.1) x hac rs⟩
def l5{J:It}{te:GS}{H1:Hp}{Q:VK}(s:S K G δ P σ H1)(hz:xs.length<=9000)
  (hgo:∀A i H,Sx K G A δ P σ H->i<xs.length->J.go i H) (hst:∀A H,Sx K G A δ P σ H->J.stop xs.length H)
  (hyl:∀A i x H H2,Sx K G A δ P σ H->i<xs.length->J.yld i H x H2->b9 H H2/\∃d,xs[i]?=some d/\GU K (λb=>G.M0 b\/A b) H2 d x)
  (hf:∀x∈xs,v7 nt λts=>g x (ts++iK caps δ) λδ2=>tc δ2 λb δ3=>if b=true then te δ3 (wd λy δ4=>okT nt δ4 (iK caps δ)/\f x=some y) else okT nt δ3 (iK caps δ)/\f x=none)
  (k:∀v H',S K G δ ((.lst (xs.filterMap f),v)::P) σ H'->Q v H') (p:Addr) (hp:H1 p=none) :
  ∃W:Nat->Nat->List V->L2.St->Hp->Prop,(∃m,W 0 m [] (v6 nt caps σ) (GC H1 p (.lst [])))/\∀i m acc σ' H',W i m acc σ' H'->(J.stop i H'/\Q (.ref p) H')\/(J.go i H'/\∀x H2,J.yld i H' x H2 ->
   upG K g x σ' H2 λσ2 H3=>upT K tc σ2 H3 λb H4=>if b=true then up K te σ2 H4 λy H5=>H5 p=some (.lst acc)/\acc.length<sizeLine/\∃m',m'<m/\W (i+1) m' (acc++[y]) σ2 (GC H5 p (.lst (acc++[y]))) else ∃m',m'<m/\W (i+1) m' acc σ2 H4) :=
 kl s hz hgo hst hyl hf p hp λA acc H' hA ho x hac rs=>k (.ref p) H' ⟨A,(x.subA (λb z=>.inl z) ho).push (by
  unfold GU
  exact⟨p,acc,rfl,hA,hac,Reps.more (λb z=>.inl (z.elim .inl λq=>.inr (.inl q))) _ _ rs⟩)⟩
end
def D8(t:GS)(δ:En)(R:List D->En->Prop):Prop:=t δ (wd λd δ1=>qL d λxs=>R xs δ1)
def De(t:GS)(δ:En)(R:List D->En->Prop):Prop:=t δ (wd λd δ1=>qT d λxs=>R xs δ1)
def D0(t:TDA)(δ:En)(R:List D->En->Prop):Prop:=t δ λds δ1=>qC ds λx r=>qN r <| qI x λj=>-(2 ^ 62)<=j/\j<2 ^ 62/\R ((List.range j.toNat).map λ(i:Nat)=>D.int (i:Int)) δ1
def CI(X:Cx)(tg it:Expr)(src:TDC):Prop:=∃wi,PI X tg it wi/\∀(G:Gf) (δ:En) (P:List (D×V)) (σ:L2.St) (H:Hp) (R:List D->En->Prop) (Q:It->Hp->Prop),S X.K G δ P σ H->src δ R ->
  (∀xs δ1,R xs δ1->∀(J:It) (P1:List (D×V)) (H1:Hp),(∀q∈P,q∈P1)->S X.K G δ1 P1 σ H1->(∀A δ σ i H,Sx X.K G A δ P1 σ H->i<xs.length->J.go i H)->(∀A δ σ H,Sx X.K G A δ P1 σ H->J.stop xs.length H) ->
    (∀A δ σ i x H H2,Sx X.K G A δ P1 σ H->i<xs.length->J.yld i H x H2->b9 H H2/\∃d,xs[i]?=some d/\GU X.K (λb=>G.M0 b\/A b) H2 d x)->Q J H1)->wi σ H Q
section
variable {X:Cx} {tg e:Expr} {te:GS} {ta:TDA}
def fC(h:DE X e te):CI X tg e (D8 te):=⟨_,uC h,λG δ P σ H R Q s hs k=>up.mk s hs λd δ1 h1 v H1 s1=>by
 replace h1:=qL.ex h1;obtain⟨xs,e,r⟩:=h1;subst e;have hat:∀A δ σ H,Sx X.K G A δ ((.lst xs,v)::P) σ H->∃a vs,v=.ref a/\H a=some (.lst vs)/\Reps X.K (λb=>G.M0 b\/A b) H xs vs:=λA δ σ H x=>by
  have q:=x.pnd (.lst xs,v) (by simp)
  unfold GU at q;obtain⟨a,vs,e,_,l,r⟩:=q;exact⟨a,vs,e,l,r⟩
 obtain⟨A1,x1⟩:=id s1;obtain⟨a,vs0,rfl,l0,_⟩:=hat _ _ _ _ x1;refine⟨a,rfl,⟨vs0,Gz.of l0⟩,k xs δ1 r _ _ H1 (λq hq=>by simp[hq]) s1 (λA δ σ i H x hi=>?_) (λA δ σ H x=>?_) λA δ σ i y H H2 x hi hy=>?_⟩
 ·obtain⟨b,vs,e,l,r⟩:=hat _ _ _ _ x
  cases e
  obtain⟨w',hw,_⟩:=Reps.get _ _ r i xs[i] (by simp[hi]);exact⟨vs,w',Gz.of l,hw⟩
 ·obtain⟨b,vs,e,l,r⟩:=hat _ _ _ _ x
  cases e
  exact⟨vs,Gz.of l,by rw[Reps.length _ _ r];exact G3 _⟩
 ·obtain⟨b,vs,e,l,r⟩:=hat _ _ _ _ x
  cases e
  obtain⟨e,hy⟩:=hy;obtain⟨w',hw,rw'⟩:=Reps.get _ _ r i xs[i] (by simp[hi]);have z:=hy vs (Gz.of l);rw[hw] at z
  cases z
  subst e
  exact⟨b9.refl _,xs[i],by simp[hi],rw'⟩⟩
def km(h:DE X e te):CI X tg e (De te):=⟨_,y8 h,λG δ P σ H R Q s hs k=>up.mk s hs λd δ1 h1 v H1 s1=>by
 replace h1:=qT.ex h1;obtain⟨xs,e,r⟩:=h1;subst e;have hat:∀A δ σ H,Sx X.K G A δ ((.tup xs,v)::P) σ H->∃a vs,v=.ref a/\Gy X.K H a vs/\Reps X.K (λb=>G.M0 b\/A b) H xs vs:=λA δ σ H x=>by
  have q:=x.pnd (.tup xs,v) (by simp)
  unfold GU at q;exact q
 obtain⟨A1,x1⟩:=id s1;obtain⟨a,vs0,rfl,l0,_⟩:=hat _ _ _ _ x1;refine⟨a,rfl,⟨vs0,l0⟩,k xs δ1 r _ _ H1 (λq hq=>by simp[hq]) s1 (λA δ σ i H x hi=>?_) (λA δ σ H x=>?_) λA δ σ i y H H2 x hi hy=>?_⟩
 ·obtain⟨b,vs,e,l,r⟩:=hat _ _ _ _ x
  cases e
  obtain⟨w',hw,_⟩:=Reps.get _ _ r i xs[i] (by simp[hi]);exact⟨vs,w',l,hw⟩
 ·obtain⟨b,vs,e,l,r⟩:=hat _ _ _ _ x
  cases e
  exact⟨vs,l,by rw[Reps.length _ _ r];exact G3 _⟩
 ·obtain⟨b,vs,e,l,r⟩:=hat _ _ _ _ x
  cases e
  obtain⟨e,hy⟩:=hy;obtain⟨w',hw,rw'⟩:=Reps.get _ _ r i xs[i] (by simp[hi]);have z:=hy vs l;rw[hw] at z
  cases z
  subst e
  exact⟨b9.refl _,xs[i],by simp[hi],rw'⟩⟩
theorem lE{a:Expr}{p pos:Pos}(hg:Gl X "range")(hm:X.mg "range"=none)(ha:DA X [a] ta)(hs:starEach [a] X.env=[(false,eval a X.env)]:=by rfl):CI X tg (.Call (.Name "range" p) [a] [] pos) (D0 ta) :=
 ⟨_,mK hg hm ha hs,λG δ P σ H R Q s hs k=>⟨G,δ,P,_,s,hs,λds δ1 h1 vs H1 hl s1=>by
  replace h1:=qC.ex h1;obtain⟨x,r,e,h1⟩:=h1;replace h1:=qN.ex h1;obtain⟨e',h1⟩:=h1;replace h1:=qI.ex h1;obtain⟨j,e2,h1,h2,r⟩:=h1;subst e2 e' e
  match vs,hl with
  | [v],_ =>
   have q:v=.int j:=by
    obtain⟨A,x⟩:=s1;exact aQ (x.pnd (.int j,v) (by simp))
   subst q;refine⟨j,rfl,h1,h2,k _ δ1 r _ P H1 (λq hq=>hq) (s1.sub λp hp=>by simp[hp]) (λA δ σ i H x hi=>?_) (λA δ σ H x=>?_) λA δ σ i y H H2 x hi hy=>?_⟩
   ·rw[GW,HU] at hi;exact hi
   ·rw[GW,HU];exact G3 _
   ·rw[GW,HU] at hi;obtain⟨e,hy⟩:=hy;subst e;refine⟨b9.refl _,.int i,by rw[List.getElem?_map,List.getElem?_range hi];rfl,?_⟩;unfold GU
    rw[hy,Jb]⟩⟩
def DF(X:Cx)(ifs:List Expr)(t:TDT):Prop:=PF X ifs (upT X.K t)
def dl:DF X [] (λδ R=>R true δ):=λpins s σ H Q I ⟨G,δ,P,R,s',h,k⟩=>Dl pins s σ H Q I (k true δ h H s')
def gX{c:Expr}{t:TDT}(h:DT X c t):DF X [c] t:=C1 h
theorem b6{elt tgt iter:Expr}{ifs:List Expr}{scope:Scope}{pos:Pos}{src:TDC}{cl:List (Str×Addr)}(tn:List Str)(caps:List (Nat×Str))
  (hcalm:X.calm=true) (hclos:closureFor scope X.env=pure cl) (hcell:∀y∈scope.names,y.2≠.cell) (hkind:scope.kind=.function) (hnames:∀y∈scope.names,y.2=.local->scope.names.lookup y.1=some .local)
  (hcl:∀x c,cl.lookup x=some c->X.env.cells.lookup x=some c) (hhas:∀x,((relabel scope X.env).names.lookup x=some .cell\/(relabel scope X.env).names.lookup x=some .free)->∃c,cl.lookup x=some c)
  (hcap:∀p∈caps,X.N[p.1]?=some p.2/\X.env.scope.names.lookup p.2=some .cell/\((relabel scope X.env).names.lookup p.2=some .cell\/(relabel scope X.env).names.lookup p.2=some .free))
  (hi:CI X.nox tgt iter src)
  (hb:∀s2 H2 C fp pn,DG (dB X (tn++caps.map (·.2)) scope cl s2 H2 C fp pn) tgt g/\DF (dB X (tn++caps.map (·.2)) scope cl s2 H2 C fp pn) ifs tc/\DE (dB X (tn++caps.map (·.2)) scope cl s2 H2 C fp pn) elt te)
  (hs:∀x,foldedSetIterable iter X.env x=pure x:=by intro _;rfl):DE X.nox (.ListComp elt [⟨tgt,iter,ifs,0⟩] scope pos) (BI src tn.length caps g tc te):=by
 obtain⟨wi,hi,hw⟩:=hi;refine PE.imp (Ak (g:=upG X.K g) (tc:=upT X.K tc) (te:=up X.K te) tn caps hcalm hclos hcell hkind hnames hcl hhas hcap hi hb hs) λσ H Q ⟨G,δ,P,R,s,h,k,_⟩=>?_;refine hw G δ P σ H _ _ s h λxs δ1 ⟨hz,f,hf,r⟩ J P1 H1 hP s1 hgo hst hyl p hp=>?_
 exact l5 s1 hz (λA i H x hi=>hgo A _ _ i H x hi) (λA H x=>hst A _ _ H x) (λA i x H H2 s hi hy=>hyl A _ _ i x H H2 s hi hy) hf (λv H' s'=>k _ δ1 r v H' (s'.sub λq hq=>by
  rcases G7.mp hq with rfl | hq
  ·simp
  ·exact GY _ (hP q hq))) p hp
end
def Eu(cells:List (Str×Addr)):List (Str×Addr)->Prop
 | []=>True
 | y::r=>cells.lookup y.1=some y.2/\Eu cells r
theorem bE{cells:List (Str×Addr)}:∀ {cl:List (Str×Addr)},Eu cells cl->∀x c,cl.lookup x=some c->cells.lookup x=some c
 | [],_,x,c,h=>by cases h
 | y::r,⟨h1,h2⟩,x,c,h=>by
  rw[List.lookup_cons] at h
  cases e:x==y.1 with
  | true =>
   rw[e] at h;have e:=eq_of_beq e
   cases h
   rw[e];exact h1
  | false =>
   rw[e] at h;exact bE h2 x c h
theorem bI{names:List (Str×NameKind)}{cl:List (Str×Addr)}(h:(names.all λy=>!(y.2 == .cell||y.2 == .free)||(cl.lookup y.1).isSome)=true):∀x,(names.lookup x=some .cell\/names.lookup x=some .free)->∃c,cl.lookup x=some c:=λx hx=>by
 have key:∀(ns:List (Str×NameKind)) k,ns.lookup x=some k->(x,k)∈ns:=λns=>by
  induction ns with
  | nil=>intro k h;cases h
  | cons y r ih =>
   intro k h;rw[List.lookup_cons] at h
   cases e:x==y.1 with
   | true =>
    rw[e] at h;have e:=eq_of_beq e
    cases h
    rw[e];exact G1 ..
   | false =>
    rw[e] at h;exact GY _ (ih k h)
 have go:∀k,(k=.cell\/k=.free)->names.lookup x=some k->∃c,cl.lookup x=some c:=λk hk e=>by
  have m:=key _ _ e
  have q:=IQ.mp h _ m
  have hb:((k==NameKind.cell||k == .free))=true:=by rcases hk with rfl | rfl<;>rfl
  simp only[hb,Bool.not_true,Bool.false_or] at q;exact Option.isSome_iff_exists.mp q
 rcases hx with e | e
 ·exact go _ (.inl rfl) e
 ·exact go _ (.inr rfl) e
def yP(p:Nat×Str->Prop):List (Nat×Str)->Prop
 | []=>True
 | y::r=>p y/\yP p r
theorem aY{p:Nat×Str->Prop}:∀ {l:List (Nat×Str)},yP p l->∀y∈l,p y
 | [],_,y,h=>by cases h
 | z::r,⟨h1,h2⟩,y,h=>by
  rcases G7.mp h with rfl | h
  ·exact h1
  ·exact aY h2 y h
end DL
namespace DL
open PySem PySem.Spec PyProof.Rows L2
variable {x y:Str} {st:Stmt} {ps:List Str} {p:Pos}
abbrev FO:=D->List D->(D->D->Prop)->Prop
def spO(K:PySem.W.Frag)(f:FO):Sp:=λvs H Q _=>∃(M:Addr->Prop) (a:Addr) (d0:D) (vs':List V) (ds:List D) (R:D->D->Prop),vs=.ref a::vs'/\(∀b,M b->H b≠none)/\¬ M a/\bq K (λb=>M b\/b=a) H a d0/\Reps K (λb=>M b\/b=a) H ds vs'/\f d0 ds R /\
 ∀r d1,R r d1->∀v H',(∀b o,b≠a->H b=some o->H' b=some o)->bq K (λb=>M b\/b=a) H' a d1->GU K (λb=>M b\/b=a) H' r v->Q v H'
def wa(K:PySem.W.Frag)(f:FO):Sp:=λvs H Q E=>∃v0 v1,vs=[v0,v1]/\spO K f [v1,v0] H Q E
section
variable {P:Program} {w:World} {K:PySem.W.Frag} {mg:Str→Option Value} {base:Heap}
theorem dz{f:List D->(D->Prop)->Prop}(F:Fd K mg x st ps)(k:Nat)(h:∀ds R,¬ f ds R):Cal P w K mg base k x ps (Gx K f):=by
 obtain⟨a,fd,Fu,b,m⟩:=F.ex;have no:∀vs H Q E,¬ Gx K f vs H Q E:=λvs H Q E ⟨_,ds,R,_,_,hf,_⟩=>h ds R hf;exact⟨a,fd,⟨λvs H Q E h=>absurd h (no vs H Q E),λA outer s H args us vs Q E _ _ _ _ h=>absurd h (no vs H Q E)⟩,b,Fu.kp,m⟩
theorem vR{f:FO}(F:Fd K mg x st ps)(k:Nat)(h:∀d ds R,¬ f d ds R):Cal P w K mg base k x ps (wa K f):=by
 obtain⟨a,fd,Fu,b,m⟩:=F.ex;have no:∀vs H Q E,¬ wa K f vs H Q E:=λvs H Q E ⟨_,_,_,_,_,d0,_,ds,R,_,_,_,_,_,hf,_⟩=>h d0 ds R hf;exact⟨a,fd,⟨λvs H Q E h=>absurd h (no vs H Q E),λA outer s H args us vs Q E _ _ _ _ h=>absurd h (no vs H Q E)⟩,b,Fu.kp,m⟩
theorem rF{M:Addr->Prop}{a:Addr}{d0:D}{ds1 ds2:List D}{vs1 vs2:List V}{H:Hp}(N:List Str)(m:∀b,M b->H b≠none)(na:¬ M a)(ow:bq K (λb=>M b\/b=a) H a d0)(r1:Reps K (λb=>M b\/b=a) H ds1 vs1)(r2:Reps K (λb=>M b\/b=a) H ds2 vs2) :
  S K ⟨M,H,λb=>b=a⟩ (ds1.map Sl.dat++Sl.own a d0::(ds2.map Sl.dat++List.replicate (N.length-(ds1.length+1+ds2.length)) Sl.no)) [] (L2.start N (vs1++.ref a::vs2)) H:=by
 have hl1:=Reps.length _ _ r1
 have hl2:=Reps.length _ _ r2
 have hHa:H a≠none:=by
  cases d0 with
  | lst ds=>obtain⟨vs,q,_⟩:=ow;rw[q];exact λz=>nomatch z
  | dct ks ds=>obtain⟨vs,q,_⟩:=ow;rw[q];exact λz=>nomatch z
  | _=>exact ow.elim
 have place:∀(i:Nat) z,(ds1.map Sl.dat++Sl.own a d0::(ds2.map Sl.dat++List.replicate (N.length-(ds1.length+1+ds2.length)) Sl.no))[i]?=some z ->
   (∃d,ds1[i]?=some d/\z=.dat d)\/(i=ds1.length/\z=.own a d0)\/(∃d,ds1.length+1<=i/\ds2[i-(ds1.length+1)]?=some d/\z=.dat d)\/z=.no:=λi z e=>by
  by_cases h1:i<ds1.length
  ·rw[List.getElem?_append_left (by rw[GW];exact h1),List.getElem?_map] at e
   cases hd:ds1[i]? with
   | none=>rw[hd] at e;cases e
   | some d=>rw[hd] at e;exact .inl ⟨d,rfl,(Hg e).symm⟩
  ·rw[List.getElem?_append_right (by rw[GW];omega),GW] at e
   by_cases h2:i=ds1.length
   ·subst h2;rw[Nat.sub_self,List.getElem?_cons_zero] at e;exact .inr (.inl ⟨rfl,(Hg e).symm⟩)
   ·have e3:i-ds1.length=(i-(ds1.length+1))+1:=by omega
    rw[e3,List.getElem?_cons_succ] at e
    by_cases h3:i-(ds1.length+1)<ds2.length
    ·rw[List.getElem?_append_left (by rw[GW];exact h3),List.getElem?_map] at e
     cases hd:ds2[i-(ds1.length+1)]? with
     | none=>rw[hd] at e;cases e
     | some d=>rw[hd] at e;exact .inr (.inr (.inl ⟨d,by omega,rfl,(Hg e).symm⟩))
    ·rw[List.getElem?_append_right (by rw[GW];omega),List.getElem?_replicate] at e
     split at e
     ·exact .inr (.inr (.inr (Hg e).symm))
     ·cases e
 have st:∀i,i<(vs1++V.ref a::vs2).length->(L2.start N (vs1++.ref a::vs2))[i]?=(vs1++V.ref a::vs2)[i]?.map some:=λi hi=>by
  unfold L2.start;rw[List.getElem?_append_left (by rw[GW];exact hi),List.getElem?_map]
 have hM:∀b,(M b\/b=a)->(M b\/b=a)\/H b=none:=λb h=>.inl h
 refine⟨λb=>b=a,λb o e _=>e,λb e=>e,m,λb h=>⟨by rw[h];exact hHa,by rw[h];exact na⟩,λb h=>.inr h,λb h=>by rw[h];exact hHa,?_,λi d e=>?_,λi a' d e=>?_,λi j a' d e h1 h2=>?_,λp hp=>(nomatch hp)⟩
 ·unfold L2.start;simp only[List.length_append,List.length_map,List.length_cons,List.length_replicate];omega
 ·rcases place i _ e with⟨d',hd,z⟩ | ⟨_,z⟩ | ⟨d',hi,hd,z⟩ | z
  ·cases z
   obtain⟨v,ev,rv⟩:=Reps.get _ _ r1 i d hd;have hi:i<vs1.length:=(List.getElem?_eq_some_iff.mp ev).1;exact⟨v,by rw[st i (by rw[G8];omega),List.getElem?_append_left hi,ev];rfl,rv⟩
  ·cases z
  ·cases z
   obtain⟨v,ev,rv⟩:=Reps.get _ _ r2 _ d hd;have hi2:i-(ds1.length+1)<vs2.length:=(List.getElem?_eq_some_iff.mp ev).1;refine⟨v,?_,rv⟩;rw[st i (by rw[G8,Ha];omega),List.getElem?_append_right (by omega),<- hl1];have e3:i-ds1.length=(i-(ds1.length+1))+1:=by omega
   rw[e3,List.getElem?_cons_succ,ev];rfl
  ·cases z
 ·rcases place i _ e with⟨d',hd,z⟩ | ⟨hi,z⟩ | ⟨d',hi,hd,z⟩ | z
  ·cases z
  ·cases z
   subst hi;refine⟨?_,rfl,ow⟩;rw[st _ (by rw[G8,Ha];omega),List.getElem?_append_right (by omega),hl1,Nat.sub_self];rfl
  ·cases z
  ·cases z
 ·have u:∀i a' d,(ds1.map Sl.dat++Sl.own a d0::(ds2.map Sl.dat++List.replicate (N.length-(ds1.length+1+ds2.length)) Sl.no))[i]?=some (.own a' d)->i=ds1.length:=λi a' d e=>by
   rcases place i _ e with⟨d',hd,z⟩ | ⟨hi,z⟩ | ⟨d',hi,hd,z⟩ | z
   ·cases z
   ·exact hi
   ·cases z
   ·cases z
  rw[u i _ _ h1,u j _ _ h2]
def jf{M A':Addr->Prop}{a:Addr}{d:D}{H':Hp}(ha:A' a)(o:bq K (λb=>M b\/A' b) H' a d):bq K (λb=>M b\/b=a) H' a d:=bq.more (λb z=>.inl (z.elim .inl λe=>.inr (by rw[e];exact ha))) o
theorem fn_O{N:List Str}{k:Nat}{f:FO}(F:Fd K mg x st ps)(Sc:aw N ps (am st))(len:∀d ds R,f d ds R->ds.length+1=ps.length)
    (hbody:∀(fa:Addr) (cdv:Value) (A:Around) (outer:List Env) (s:Shared) (H:Hp) (E:XK) (a:Addr) (d0:D) (ds:List D) (R:D->D->Prop),fK k (A.deeper (envOfC x (am st) s.heap.objs.size fa cdv))->f d0 ds R ->
      ∃t,DSs (sY CX0 P w K mg base N x (am st) fa cdv A outer s H E).nox (bG st) t /\
        t { nx:=λδ=>∃d1,δ[0]?=some (.own a d1)/\R .non d1,rt:=λd δ=>∃d1,δ[0]?=some (.own a d1)/\R d d1 } (Sl.own a d0::(ds.map Sl.dat++List.replicate (N.length-(1+ds.length)) Sl.no))) :
    Cal P w K mg base (k+1) x ps (spO K f):=by
  obtain⟨fa,fd,Fu,b,mm⟩:=F.ex;refine⟨fa,fd,Fu.ok Sc (λvs H Q E h=>?_) (λcdv A outer s H vs Q E hr h=>?_),b,Fu.kp,mm⟩
  · obtain⟨M,a,d0,vs',ds,R,rfl,m,na,ow,rs,hf,hk⟩:=h;rw[Ha,<- Reps.length _ _ rs];exact len _ _ _ hf
  · obtain⟨M,a,d0,vs',ds,R,rfl,m,na,ow,rs,hf,hk⟩:=h;obtain⟨t,ht,hq⟩:=hbody fa cdv A outer s H E a d0 ds R hr hf;have ss:=rF (ds1:=[]) (vs1:=[]) N m na ow Reps.nil rs;rw[show ([]:List D).length+1+ds.length=1+ds.length by simp] at ss;refine⟨_,ht,_,_,[],_,ss,hq,λδ' ⟨d1,e,r⟩ σ' H' ⟨A',x⟩=>?_,⟨λd δ' ⟨d1,e,r⟩ v σ' H' ⟨A',x⟩=>?_,λ_ h=>h.elim,λ_ _ _ z=>z.elim⟩,λ_ h=>h.elim,λ_ h=>h.elim,λz=>z.elim⟩
    · obtain⟨_,aa,oo⟩:=x.own 0 a d1 e;exact hk _ _ r .non H' (λb o n e=>x.old b o e n) (jf aa oo) (by unfold GU;rfl)
    · obtain⟨_,aa,oo⟩:=x.own 0 a d1 e;exact hk _ _ r v H' (λb o n e=>x.old b o e n) (jf aa oo) (GU.more (λb z=>.inl (z.elim .inl λe=>.inr (by rw[e];exact aa))) _ _ (x.pnd (d,v) (by simp)))
theorem FQ{N:List Str}{k:Nat}{f:FO}(F:Fd K mg x st ps)(Sc:aw N ps (am st))(hp:ps.length=2)(len:∀d ds R,f d ds R->ds.length=1)
    (hbody:∀(fa:Addr) (cdv:Value) (A:Around) (outer:List Env) (s:Shared) (H:Hp) (E:XK) (a:Addr) (d0 d:D) (R:D->D->Prop),fK k (A.deeper (envOfC x (am st) s.heap.objs.size fa cdv))->f d0 [d] R ->
      ∃t,DSs (sY CX0 P w K mg base N x (am st) fa cdv A outer s H E).nox (bG st) t /\
        t { nx:=λδ=>∃d1,δ[1]?=some (.own a d1)/\R .non d1,rt:=λd δ=>∃d1,δ[1]?=some (.own a d1)/\R d d1 } (Sl.dat d::Sl.own a d0::List.replicate (N.length-2) Sl.no)) :
    Cal P w K mg base (k+1) x ps (wa K f):=by
  obtain⟨fa,fd,Fu,b,mm⟩:=F.ex;refine⟨fa,fd,Fu.ok Sc (λvs H Q E h=>?_) (λcdv A outer s H vs Q E hr h=>?_),b,Fu.kp,mm⟩
  · obtain⟨v0,v1,rfl,_⟩:=h;exact hp.symm
  · obtain⟨v0,v1,rfl,M,a,d0,vs',ds,R,e,m,na,ow,rs,hf,hk⟩:=h
    cases e
    have hl:=len _ _ _ hf
    match ds,hl with
    | [d],_ =>
      obtain⟨t,ht,hq⟩:=hbody fa cdv A outer s H E a d0 d R hr hf;have ss:=rF (ds2:=[]) (vs2:=[]) N m na ow rs Reps.nil;refine⟨_,ht,_,_,[],_,ss,hq,λδ' ⟨d1,e,r⟩ σ' H' ⟨A',x⟩=>?_,⟨λd δ' ⟨d1,e,r⟩ v σ' H' ⟨A',x⟩=>?_,λ_ h=>h.elim,λ_ _ _ z=>z.elim⟩,λ_ h=>h.elim,λ_ h=>h.elim,λz=>z.elim⟩
      · obtain⟨_,aa,oo⟩:=x.own 1 a d1 e;exact hk _ _ r .non H' (λb o n e=>x.old b o e n) (jf aa oo) (by unfold GU;rfl)
      · obtain⟨_,aa,oo⟩:=x.own 1 a d1 e;exact hk _ _ r v H' (λb o n e=>x.old b o e n) (jf aa oo) (GU.more (λb z=>.inl (z.elim .inl λe=>.inr (by rw[e];exact aa))) _ _ (x.pnd (d,v) (by simp)))
end
def kN(i:Nat)(R:a6)(δ:En)(d:D):Prop:=∀a,jO δ i (.own a d) R.nx
def kO(i:Nat)(a:Addr)(R:W->En->Prop)(δ:En)(r d:D):Prop:=jO δ i (.own a d) (R (.d r))
def Cr(i:Nat)(t:TDA)(R:a6)(δ:En):Prop:=t δ λds δ1=>q9 ds (∀a,jO δ1 i (.own a (.lst ds)) R.nx)
def Ck(i:Nat)(R:a6)(δ:En):Prop:=∀a,jO δ i (.own a (.dct [] [])) R.nx
def Cz(i:Nat)(R:a6)(δ:En):Prop:=qW δ[i]? λ_ d=>R.ro d
def Ct(t:TDA)(R:a6)(δ:En):Prop:=t δ λds _=>q9 ds (R.ro (.lst ds))
def Ev(i:Nat)(δ:En)(R:W->En->Prop):Prop:=qWL δ[i]? λ_ ds=>R (.d (.int ds.length)) δ
def vi(i:Nat)(δ:En)(R:W->En->Prop):Prop:=qWL δ[i]? λ_ ds=>R (.d (.tup ds)) δ
def nV(i:Nat)(t:TDS)(R:a6)(δ:En):Prop:=qW δ[i]? λ_ d=>jO δ i (.dat d) (t R)
def uE(i:Nat)(f:FO)(ta:GS)(δ:En)(R:W->En->Prop):Prop:=ta δ (wd λz δ1=>qW δ1[i]? λa d0=>f d0 [z] (kO i a R δ1))
def Cf(i:Nat)(ta:GS)(R:a6)(δ:En):Prop:=qWL δ[i]? λa _=>ta δ (wd λx δ1=>wn δ1[i]? λds=>ds.length<9000/\jO δ1 i (.own a (.lst (ds++[x]))) R.nx)
section
variable {X:Cx} {pos:Pos} {a b e:Expr} {es:List Expr} {ta tb:GS} {t:TDA} {f:List D→(D→Prop)→Prop}
theorem S.ret{K:PySem.W.Frag}{G:Gf}{δ:En}{P:List (D×V)}{σ:L2.St}{H:Hp}{i:Nat}{a:Addr}{d:D}(s:S K G δ P σ H)(e:δ[i]?=some (.own a d)):yD K G H a d:=by
 obtain⟨A,x⟩:=s;obtain⟨_,aa,oo⟩:=x.own i a d e;exact⟨x.old,x.new a aa,λz=>(x.new a aa).elim (λq=>x.m0 a z q) λq=>(x.pm a q).2 z,jf aa oo⟩
theorem kY(i:Nat)(hN:X.N[i]?=some x:=by rfl)(hv:Vis X.env.scope x:=by walk_at "v3")(hd:(x==("__debug__":Str))=false:=by decide)
  (hcd:(x==("__classdict__":Str))=false:=by decide):DS X (.Return (some (.Name x p)) pos) (Cz i) :=
 PS.imp (tN (dF hN hv hd hcd)) λE σ H ⟨G,δ,P,R,s,h,_,k,_⟩=>let ⟨a,d,e,r⟩:=qW.ex h;⟨.ref a,s.own e,k.2.1 d r a H (s.ret e)⟩
def ds_retL(h:DA X es t):DS X (.Return (some (.List es p)) pos) (Ct t) :=
 PS.imp (tN (t6 h)) λE σ H ⟨G,δ,P,R,s,h,_,k,_⟩=>⟨G,δ,P,_,s,h,λds δ1 h9 vs H1 hl ⟨A,x⟩=>⟨by rw[<- hl];exact dI (q9.ex h9).1,λp hp=>k.2.1 _ (q9.ex h9).2 p _ (by
  have rs:=x.reps ds vs hl (λq hq=>Hf _ hq)
  have sm:=aI hp (.lst vs)
  have nm:¬ (G.M0 p\/A p):=λz=>x.mem p z hp
  refine⟨λb o e n=>sm b o (x.old b o e n),.inl ?_,λz=>nm (.inl z),vs,aC,Reps.kp (Kp.of_same sm) _ _ (Reps.more (λb z=>?_) _ _ rs)⟩
  ·cases q:G.H0 p with
   | none=>rfl
   | some o=>exact absurd hp (x.stay p (by rw[q];exact λz=>nomatch z))
  ·rcases z with z | z
   ·exact .inl (.inl z)
   ·exact .inr (by rw[z];exact hp))⟩⟩
theorem dy(i:Nat){pos':Pos}(hN:X.N.Nodup)(h:DA X es t)(hi:X.N[i]?=some x:=by rfl)(hx:Loc X.env.scope x:=by walk_at "v2")(hs:swapsWith (.List es p) (some (.Name x pos')) pos.line X.env=pure false:=by rfl)
  (hf:X.fn x=true\/X.env.scope.names.lookup x=some .local :=by walk_at "v1"):DS X (.Assign [.Name x pos'] (.List es p) pos) (Cr i t) :=
 PS.imp (kf hN hi hx (t6 h) hs hf) λE σ H ⟨G,δ,P,R,s,h,k,_⟩=>⟨G,δ,P,_,s,h,λds δ1 h9 vs H1 hl ⟨A,x⟩=>⟨by rw[<- hl];exact dI (q9.ex h9).1,λp hp=>by
  have r:=(q9.ex h9).2
  have rs:=x.reps ds vs hl (λq hq=>Hf _ hq)
  have sm:=aI hp (.lst vs)
  refine k _ (r p) _ _ ⟨_,x.claim (P':=P) hp sm ⟨vs,aC,Reps.kp (Kp.of_same sm) _ _ (Reps.more (λb z=>?_) _ _ rs)⟩ λq hq=>G6 _ hq⟩
  rcases z with z | z
  ·exact .inl z
  ·exact .inr (by rw[z];exact hp)⟩⟩
theorem lN(i:Nat){pos':Pos}(hN:X.N.Nodup)(hi:X.N[i]?=some x:=by rfl)(hx:Loc X.env.scope x:=by walk_at "v2")(hs:swapsWith (.Dict [] [] p) (some (.Name x pos')) pos.line X.env=pure false:=by rfl)
  (hf:X.fn x=true\/X.env.scope.names.lookup x=some .local :=by walk_at "v1"):DS X (.Assign [.Name x pos'] (.Dict [] [] p) pos) (Ck i) :=
 PS.imp (kf hN hi hx qR hs hf) λE σ H ⟨G,δ,P,R,⟨A,x⟩,h,k,_⟩=>λp hp=>by
  have sm:=aI hp (.dK [])
  exact k _ (h p) _ _ ⟨_,x.claim (P':=P) hp sm ⟨[],by rw[aC];rfl,rfl,Reps.nil⟩ λq hq=>hq⟩
theorem Bz{K:PySem.W.Frag}{G:Gf}{A:Addr->Prop}{δ:En}{P P':List (D×V)}{σ:L2.St}{H:Hp}{i:Nat}{a:Addr}{d0:D}{ds:List D}{vs:List V}{f:FO}{R:D->D->Prop}{Q:VK}{E:XK}(x:Sx K G A δ P σ H)(hi:δ[i]?=some (.own a d0))(hl:ds.length=vs.length)(hp:∀p∈ds.zip vs,p∈P)
  (hP:∀p∈P',p∈P) (hf:f d0 ds R) (k:∀r d1,R r d1->∀v H',S K G (δ.set i (.own a d1)) ((r,v)::P') σ H'->Q v H'):spO K f (.ref a::vs) H Q E:=by
 obtain⟨_,aa,oo⟩:=x.own i a d0 hi;have e1:∀b,(((G.M0 b\/A b)/\b≠a)\/b=a)->(G.M0 b\/A b):=λb h=>h.elim (λz=>z.1) λz=>.inr (by rw[z];exact aa);have e2:∀b,(G.M0 b\/A b)->(((G.M0 b\/A b)/\b≠a)\/b=a):=λb h=>by
  by_cases z:b=a
  ·exact .inr z
  ·exact .inl ⟨h,z⟩
 refine⟨λb=>(G.M0 b\/A b)/\b≠a,a,d0,vs,ds,R,rfl,λb z=>x.mem b z.1,λz=>z.2 rfl,bq.more (λb z=>.inl (e1 b z)) oo,Reps.more (λb z=>.inl (e1 b z)) _ _ (x.reps ds vs hl hp),hf,λr d1 hr v H' hk ow rp=>k r d1 hr v H' ⟨A,?_⟩⟩;exact((x.change hi hk (bq.more (λb z=>.inl (e2 b z)) ow)).sub hP).push (GU.more (λb z=>.inl (e2 b z)) _ _ rp)
theorem mO(i:Nat){f:FO}{x y:Str}{k:Nat}{ps:List Str}{p p2 pos:Pos}(C:Cal X.prog X.w X.K X.mg X.base k x ps (wa X.K f))(hr:fK k X.A)(hg:Gl X x)(ha:DE X a ta)(hN:X.N[i]?=some y:=by rfl)
  (hv:Vis X.env.scope y:=by walk_at "v3") (hd:(y==("__debug__":Str))=false:=by decide) (hcd:(y==("__classdict__":Str))=false:=by decide) (hdb:(x==("__debug__":Str))=false:=by decide)
  (he:starEach [a,.Name y p2] X.env=(false,eval a X.env)::starEach [.Name y p2] X.env:=by rfl) (he2:starEach [.Name y p2] X.env=(false,eval (.Name y p2) X.env)::starEach [] X.env:=by rfl) (hpl:(backTo pos (starEach [.Name y p2] X.env)).any (·.1)=false:=by rfl) :
  DE X (.Call (.Name x p) [a,.Name y p2] [] pos) (uE i f ta):=by
 obtain⟨g,fd,F,b,kp,m⟩:=C.ex;refine PE.imp (lM F hr hg m kp b .nil wP (a9 ha (a9 (dF hN hv hd hcd) dr he2) he) hdb he hpl) λσ H Q ⟨G,δ,P,R,s,h,k,_⟩=>up.mk s h λz δ1 h1 v H1 s1=>?_;replace h1:=qW.ex h1;obtain⟨a,d0,hi,hf⟩:=h1;refine⟨.ref a,s1.own hi,?_⟩;show wa X.K f [v,.ref a] H1 Q _;obtain⟨A,x⟩:=s1;exact⟨v,.ref a,rfl,Bz (ds:=[z]) x hi rfl (by simp) (P':=P) (λq hq=>GY _ hq) hf λr d1 hr v H' s'=>k r _ hr v H' s'⟩
theorem er{K:PySem.W.Frag}{G:Gf}{A:Addr->Prop}{δ:En}{P:List (D×V)}{σ:L2.St}{H:Hp}{i:Nat}{a:Addr}{ds:List D}(x:Sx K G A δ P σ H)(hi:δ[i]?=some (.own a (.lst ds))):σ[i]?=some (some (.ref a))/\A a/\∃vs,H a=some (.lst vs)/\Reps K (λb=>G.M0 b\/A b) H ds vs:=by
 obtain⟨h1,h2,vs,h3,h4⟩:=x.own i a _ hi;exact⟨h1,h2,vs,h3,h4⟩
theorem oI(i:Nat){p2 pos:Pos}(hg:Gl X "len")(hm:X.mg "len"=none)(hv':bootBuiltins "len"=some (.builtin "len"))(hN:X.N[i]?=some y:=by rfl)(hv:Vis X.env.scope y:=by walk_at "v3")
  (hd:(y==("__debug__":Str))=false:=by decide) (hcd:(y==("__classdict__":Str))=false:=by decide) (he:starEach [.Name y p2] X.env=(false,eval (.Name y p2) X.env)::starEach [] X.env:=by rfl) (hpl:(backTo pos (starEach [] X.env)).any (·.1)=false:=by rfl) :
  DE X (.Call (.Name "len" p) [.Name y p2] [] pos) (Ev i) :=
 PE.imp (kJ gY hg hm hv' (a9 (dF hN hv hd hcd) dr he) (by decide) (by decide) he hpl) λσ H Q ⟨G,δ,P,R,s,h,k,_⟩=>by
  replace h:=qWL.ex h;obtain⟨a,ds,e,h⟩:=h;obtain⟨A,x⟩:=id s;obtain⟨h1,aa,vs,hvs,rs⟩:=er x e;exact⟨.ref a,h1,a,vs,rfl,.inl (Gz.of hvs),k _ δ h _ H (s.sc (by rw[Reps.length _ _ rs];rfl))⟩
theorem jz(i:Nat){p2 pos:Pos}(hg:Gl X "tuple")(hm:X.mg "tuple"=none)(hv':bootBuiltins "tuple"=some (.type "tuple"))(hN:X.N[i]?=some y:=by rfl)(hv:Vis X.env.scope y:=by walk_at "v3")
  (hd:(y==("__debug__":Str))=false:=by decide) (hcd:(y==("__classdict__":Str))=false:=by decide) (he:starEach [.Name y p2] X.env=(false,eval (.Name y p2) X.env)::starEach [] X.env:=by rfl) (hpl:(backTo pos (starEach [] X.env)).any (·.1)=false:=by rfl) :
  DE X (.Call (.Name "tuple" p) [.Name y p2] [] pos) (vi i) :=
 PE.imp (gk fT hg hm hv' (a9 (dF hN hv hd hcd) dr he) (by decide) (by decide) he hpl) λσ H Q ⟨G,δ,P,R,s,h,k,_⟩=>by
  replace h:=qWL.ex h;obtain⟨a,ds,e,h⟩:=h;obtain⟨A,x⟩:=id s;obtain⟨h1,aa,vs,hvs,rs⟩:=er x e;refine⟨.ref a,h1,a,vs,rfl,.inl ⟨Gz.of hvs,λl hl=>k _ δ h _ _ ⟨A,(x.same (aI hl _)).push ?_⟩⟩⟩;unfold GU;exact⟨l,vs,rfl,Gy.of aC,Reps.kp (Kp.of_same (aI hl _)) _ _ rs⟩
theorem bf(i:Nat){apos cpos:Pos}(he:DE X e ta)(hN:X.N[i]?=some y:=by rfl)(hv:Vis X.env.scope y:=by walk_at "v3")
  (hd:(y==("__debug__":Str))=false:=by decide) (hcd:(y==("__classdict__":Str))=false:=by decide)
  (hbase:attributeBase (.Name y p) "append" X.env (eval (.Name y p) X.env)=eval (.Name y p) X.env:=by rfl)
  (hfew:((backTo cpos (starEach [e] X.env)).all (λx=>!x.1)&&(backToKw cpos (keywordEach [] X.env)).all (λx=>x.1.isSome)&&decide ([e].length+([]:List Keyword).length+(if ([]:List Keyword).isEmpty then 0 else 1)<30))=true:=by rfl)
  (hline:(apos.endLine==cpos.line)=true:=by rfl) (hs:starEach [e] X.env=(false,eval e X.env)::starEach [] X.env:=by rfl) (hplain:(backTo cpos (starEach [] X.env)).any (·.1)=false:=by rfl)
  (hsw:swapsWith (.Call (.Attribute (.Name y p) "append" apos) [e] [] cpos) none pos.line X.env=pure false:=by rfl) :
  DS X (.Expr (.Call (.Attribute (.Name y p) "append" apos) [e] [] cpos) pos) (Cf i ta) :=
 PS.imp (kT (yc Jz PySem.F.slot_list_append PySem.F.type_list_append mi (dF hN hv hd hcd) (a9 he dr hs) hbase hfew hline hs hplain) hsw) λE σ H ⟨G,δ,P,R,s,h,k,_⟩=>by
  replace h:=qWL.ex h;obtain⟨a,ds0,hi0,h⟩:=h;obtain⟨A0,x0⟩:=id s;obtain⟨h0,_,vs0,hvs0,_⟩:=er x0 hi0;refine⟨.ref a,h0,.inl ⟨rfl,vs0,Gz.of hvs0⟩,up.mk s h λx δ1 h1 v H1 ⟨A,q⟩=>?_⟩;replace h1:=wn.ex q h0 h1;obtain⟨ds,hi,hz,r⟩:=h1;obtain⟨_,aa,vs,hvs,rs⟩:=er q hi;refine⟨a,vs,v,rfl,rfl,hvs,by rw[<- Reps.length _ _ rs];exact i9 (IX hz),k _ r _ _ ⟨A,(q.change (d':=.lst (ds++[x])) hi (λb o n e=>by rw[aH n];exact e) ⟨vs++[v],aC,?_⟩).sub (P':=P) λq hq=>GY _ hq⟩⟩;have kp:Kp (λb=>G.M0 b\/A b) H1 (GC H1 a (.lst (vs++[v]))):=by
   have hk:∀b o,b≠a->H1 b=some o->GC H1 a (.lst (vs++[v])) b=some o:=λb o n e=>by rw[aH n];exact e
   exact⟨λb o e n=>hk b o (λz=>n (.inr (by rw[z];exact aa))) e,λb xs e=>hk b _ (λz=>by rw[z,hvs] at e;cases e) e,λb o u e=>hk b _ (λz=>by rw[z,hvs] at e;cases e) e⟩
  exact Reps.kp kp _ _ (Reps.append _ _ _ _ rs (Reps.one (q.pnd (x,v) (by simp))))
def ci(i:Nat){st:List Stmt}{u:TDS}(h:DSs X st u):DSs X st (nV i u) :=
 PSs.imp h λE σ H ⟨G,δ,P,R,⟨A,x⟩,h,k⟩=>let ⟨a,d,e,h⟩:=qW.ex h;⟨G,_,P,R,⟨_,x.freeze e λz=>(x.new a (x.own i a d e).2.1).elim (λq=>x.m0 a z q) λq=>(x.pm a q).2 z⟩,h,k⟩
end
end DL
namespace DL
open PySem PySem.Spec PyProof.Rows L2
variable {ks:List Str} {x:Str} {vs:List V} {v:V} {ds:List D} {R:D→Prop} {g:Bool→Bool} {M:Addr→Prop} {H:Hp} {j:Nat}
def dAt{α:Type}:List Str->List α->Str->Option α
 | k::ks,d::ds,x=>if k=x then some d else dAt ks ds x
 | _,_,_=>none
def nr{α:Type}:List Str->List α->Str->α->List α
 | k::ks,d::ds,x,y=>(if k=x then y else d)::nr ks ds x y
 | _,ds,_,_=>ds
def jN(ks:List Str)(x:Str):List Str:=if x∈ks then ks else ks++[x]
def lU{α:Type}(ks:List Str)(ds:List α)(x:Str)(y:α):List α:=if x∈ks then nr ks ds x y else ds++[y]
theorem pR{α:Type}:∀(ks:List Str) (ds:List α) (x:Str) (y:α),(nr ks ds x y).length=ds.length
 | [],ds,_,_=>by cases ds<;>rfl
 | k::ks,[],_,_=>rfl
 | k::ks,d::ds,x,y=>by unfold nr;rw[Ha,Ha,pR ks ds x y]
theorem BX{α:Type}{ds:List α}{y:α}(h:ks.length=ds.length):(jN ks x).length=(lU ks ds x y).length:=by
 unfold jN lU
 by_cases e:x∈ks
 ·rw[Hh e,Hh e,pR];exact h
 ·rw[He e,He e,G8,G8,h];rfl
theorem xf(x:Str)(h:ks.length=vs.length):((aO ks vs).any λkv=>decide (kv.1=Sum.inr x))=decide (x∈ks):=by
 induction ks generalizing vs with
 | nil=>rfl
 | cons k ks ih =>
  cases vs with
  | nil=>cases h
  | cons v vs =>
   show ((Sum.inr k,v)::aO ks vs).any _=_
   rw[JX,ih (Ja h)]
   by_cases e:k=x
   ·subst e;simp
   ·have e2:¬ x=k:=λz=>e z.symm
    simp[e,e2]
theorem w9(x:Str)(y:V):(aO ks vs).map (λkv=>if kv.1=Sum.inr x then (kv.1,y) else kv)=aO ks (nr ks vs x y):=by
 induction ks generalizing vs with
 | nil=>rfl
 | cons k ks ih =>
  cases vs with
  | nil=>rfl
  | cons v vs =>
   show ((Sum.inr k,v)::aO ks vs).map _=(Sum.inr k,if k=x then y else v)::aO ks (nr ks vs x y)
   rw[Hm,ih]
   by_cases e:k=x
   ·subst e;simp
   ·have:¬ (Sum.inr k:Gr)=Sum.inr x:=λz=>e (Sum.inr.inj z)
    simp[e]
theorem BU(x:Str)(y:V)(h:ks.length=vs.length):ky (aO ks vs) (Sum.inr x) y=aO (jN ks x) (lU ks vs x y):=by
 unfold ky;rw[xf x h];unfold jN lU
 by_cases e:x∈ks
 ·rw[HG e,Hh rfl,Hh e,Hh e,w9]
 ·rw[HA e,He G4,He e,He e];unfold aO;rw[Hj,List.zip_append (by rw[GW];exact h)];rfl
theorem fV(x:Str):qp (aO ks vs) (Sum.inr x)=dAt ks vs x:=by
 induction ks generalizing vs with
 | nil=>rfl
 | cons k ks ih =>
  cases vs with
  | nil=>rfl
  | cons v vs =>
   show qp ((Sum.inr k,v)::aO ks vs) _=if k=x then some v else dAt ks vs x
   by_cases e:k=x
   ·subst e;rw[iJ rfl,Hh rfl]
   ·rw[iL (λz=>e (Sum.inr.inj z)),He e,ih]
section
variable {K:PySem.W.Frag} {M:Addr→Prop} {H:Hp}
theorem Reps.rep{d:D}(r:GU K M H d v)(x:Str):∀(ks:List Str) (ds:List D) (vs:List V),Reps K M H ds vs->Reps K M H (nr ks ds x d) (nr ks vs x v)
 | [],ds,vs,h=>by
  have e1:nr [] ds x d=ds:=by cases ds<;>rfl
  have e2:nr [] vs x v=vs:=by cases vs<;>rfl
  rw[e1,e2];exact h
 | k::ks,[],vs,h=>by unfold Reps at h;subst h;exact Reps.nil
 | k::ks,e::ds,vs,h=>by
  unfold Reps at h;obtain⟨w,rs,rfl,q,s⟩:=h;show Reps K M H ((if k=x then d else e)::nr ks ds x d) ((if k=x then v else w)::nr ks rs x v);refine Reps.cons ?_ (Reps.rep r x ks ds rs s)
  by_cases z:k=x
  ·rw[Hh z,Hh z];exact r
  ·rw[He z,He z];exact q
theorem Reps.put{d:D}(x:Str)(h:Reps K M H ds vs)(r:GU K M H d v):Reps K M H (lU ks ds x d) (lU ks vs x v):=by
 unfold lU
 by_cases e:x∈ks
 ·rw[Hh e,Hh e];exact Reps.rep r x ks ds vs h
 ·rw[He e,He e];exact Reps.append _ _ _ _ h (Reps.one r)
def Reps.dAt(x:Str):∀(ks:List Str) (ds:List D) (vs:List V),Reps K M H ds vs->(∀d,DL.dAt ks ds x=some d->∃v,DL.dAt ks vs x=some v/\GU K M H d v)/\(DL.dAt ks ds x=none->DL.dAt ks vs x=none)
 | [],ds,vs,h=>⟨λd e=>(nomatch e),λ_=>rfl⟩
 | k::ks,[],vs,h=>by unfold Reps at h;subst h;exact⟨λd e=>(nomatch e),λ_=>rfl⟩
 | k::ks,e::ds,vs,h=>by
  unfold Reps at h;obtain⟨w,rs,rfl,q,s⟩:=h;obtain⟨h1,h2⟩:=Reps.dAt x ks ds rs s;show (∀d,(if k=x then some e else DL.dAt ks ds x)=some d->∃v,(if k=x then some w else DL.dAt ks rs x)=some v/\_)/\((if k=x then some e else DL.dAt ks ds x)=none->(if k=x then some w else DL.dAt ks rs x)=none)
  by_cases z:k=x
  ·simp only[if_pos z];exact⟨λd e=>by cases e;exact⟨w,rfl,q⟩,λe=>(nomatch e)⟩
  ·simp only[if_neg z];exact⟨h1,h2⟩
theorem lP{α:Type}{ds:List α}(h:ks.length=ds.length):(dAt ks ds x).isSome=decide (x∈ks):=by
 induction ks generalizing ds with
 | nil=>rfl
 | cons k ks ih =>
  cases ds with
  | nil=>cases h
  | cons v vs =>
   show (if k=x then some v else dAt ks vs x).isSome=_
   by_cases e:k=x
   ·subst e;simp
   ·have e2:¬ x=k:=λz=>e z.symm
    rw[He e,ih (Ja h)];simp[e2]
end
def wQ:List D->(D->Prop)->Prop
 | [.dct ks ds,.str x],R=>∃d,dAt ks ds x=some d/\R d
 | [.fd ks ds,.str x],R=>∃d,dAt ks ds x=some d/\R d
 | _,_=>False
theorem xw:∀ {d0:List D} {R:D->Prop},wQ d0 R->((∃(ks:List Str) (ds:List D) (x:Str),d0=[.dct ks ds,.str x]/\∃d,dAt ks ds x=some d/\R d)\/(∃(ks:List Str) (ds:List D) (x:Str),d0=[.fd ks ds,.str x]/\∃d,dAt ks ds x=some d/\R d)):=by walk_at "or"
def xQ:wQ [.fd ks ds,.str x] R=(∃d,dAt ks ds x=some d/\R d):=rfl
def w5:wQ [.dct ks ds,.str x] R=(∃d,dAt ks ds x=some d/\R d):=rfl
def fIn(g:Bool->Bool):List D->(D->Prop)->Prop
 | [.str x,.dct ks _],R=>R (.bl (g (decide (x∈ks))))
 | [.str x,.lst ds],R=>∃ss:List Str,ds=ss.map D.str/\R (.bl (g (decide (x∈ss))))
 | _,_=>False
theorem yL{d0:List D}(h:fIn g d0 R):(∃(x:Str) (ks:List Str) (z1:List D),d0=[.str x,.dct ks z1]/\R (.bl (g (decide (x∈ks)))))\/(∃(x:Str) (ds:List D),d0=[.str x,.lst ds]/\∃ss:List Str,ds=ss.map D.str/\R (.bl (g (decide (x∈ss))))):=by
 rcases d0 with _ | ⟨a,_ | ⟨b,_ | ⟨c,l⟩⟩⟩
 ·exact False.elim h
 ·cases a<;>exact False.elim h
 ·cases a<;>first | exact False.elim h | (cases b<;>first | exact False.elim h | exact .inl ⟨_,_,_,rfl,h⟩ | exact .inr ⟨_,_,rfl,h⟩)
 ·cases a<;>first | exact False.elim h | (cases b<;>exact False.elim h)
def Al:fIn g [.str x,.dct ks ds] R=(R (.bl (g (decide (x∈ks))))):=rfl
def Aw:fIn g [.str x,.lst ds] R=(∃ss:List Str,ds=ss.map D.str/\R (.bl (g (decide (x∈ss))))):=rfl
theorem dR{K:PySem.W.Frag}:∀ {ss:List Str} {vs:List V},Reps K M H (ss.map D.str) vs->vs=ss.map V.str
 | [],vs,h=>by unfold Reps at h;exact h
 | s::ss,vs,h=>by
  rw[Hm] at h;unfold Reps at h;obtain⟨v,r,rfl,q,t⟩:=h;rw[bh q,dR t];rfl
theorem cm{K:PySem.W.Frag}:∀(ss:List Str),Reps K M H (ss.map D.str) (ss.map V.str)
 | []=>Reps.nil
 | s::ss=>Reps.cons (by unfold GU;rfl) (cm ss)
theorem dk:∀ {ss:List Str} {us:List Value},bn (ss.map V.str) us->StrsAre us ss
 | [],_,r=>by rw[Jv] at r;cases r;exact .nil
 | s::ss,_,r=>by
  rw[Hm] at r
  cases r with
  | @cons _ u _ us h t =>
   obtain⟨t',e⟩:=(show ∃t,u=Value.str s t from h);subst e;exact .cons _ _ (dk t)
theorem cq:∀ {ss:List Str} {us:List Value},StrsAre us ss->bn (ss.map V.str) us
 | _,_,.nil=>.nil
 | _,_,.cons _ _ h=>.cons ⟨_,rfl⟩ (cq h)
theorem lL(x:Str):∀ {us:List Value} {ss:List Str},StrsAre us ss->us.any (λy=>match y with | .str z _=>z==x | _=>false)=decide (x∈ss)
 | _,_,.nil=>rfl
 | _,_,.cons y t (vs:=us) (ys:=ss) h=>by
  rw[JX,lL x h]
  by_cases e:y=x
  ·subst e;simp
  ·have e2:¬ x=y:=λz=>e z.symm
   simp[e,e2]
theorem pZ{us:List Value}{ss:List Str}(h:StrsAre us ss):∀y∈us,∃z t,y=Value.str z t:=by
 induction h with
 | nil=>intro y hy;cases hy
 | cons z t h ih =>
  intro y hy
  rcases G7.mp hy with rfl | hy
  ·exact⟨z,t,rfl⟩
  ·exact ih y hy
section
variable {X:Cx}
theorem o_in(hu:X.A.units+64<cLine):GM X (compareOp .In) λx y=>aV X.K (fIn id) [x,y]:=by
 intro pins s σ H x y v u Q I rx ry h;obtain⟨M,ds,R,m,rs,h,k⟩:=h;have fin:∀b s',Inv X pins σ H s'->R (.bl b)->EP X pins σ Q (.bool b) s':=λb s' I' r=>⟨.bl b,H,I',rfl,k _ r _ H (b9.refl H) (GU.sc rfl)⟩;replace h:=yL h
 rcases h with⟨_,_,_,rfl,h⟩ | ⟨x0,_,rfl,h⟩
 ·obtain⟨h1,h2⟩:=cv rs
  cases bh h1
  unfold GU at h2;obtain⟨a,vs,rfl,_,e,l,r⟩:=h2
  cases ry
  refine d_in (by omega) I (qi.k (k:=Sum.inr _) e) rx λs' I'=>?_;rw[fV,lP (by rw[l,Reps.length _ _ r])];exact fin _ _ I' h
 ·obtain⟨ss,rfl,h⟩:=h;obtain⟨h1,h2⟩:=cv rs
  cases bh h1
  unfold GU at h2;obtain⟨a,vs,rfl,_,e,r⟩:=h2
  cases ry
  cases dR r
  obtain⟨t,rfl⟩:=rx;obtain⟨its,rv,pl,_⟩:=I.list (Gz.of e);have hs:=dk rv;refine SeqAt.in_listAt (λy=>match y with | .str z _=>z==x0 | _=>false) pl.isList (λy hy=>?_) ?_
  ·obtain⟨z,t',rfl⟩:=pZ hs y (by simpa using hy);exact Jy z t' x0 t
  ·rw[List.any_toArray,lL x0 hs];exact fin _ _ I h
theorem zA(hu:X.A.units+64<cLine):GM X (compareOp .NotIn) λx y=>aV X.K (fIn Bool.not) [x,y]:=by
 intro pins s σ H x y v u Q I rx ry h;obtain⟨M,ds,R,m,rs,h,k⟩:=h;have fin:∀b s',Inv X pins σ H s'->R (.bl b)->EP X pins σ Q (.bool b) s':=λb s' I' r=>⟨.bl b,H,I',rfl,k _ r _ H (b9.refl H) (GU.sc rfl)⟩;replace h:=yL h
 rcases h with⟨_,_,_,rfl,h⟩ | ⟨x0,_,rfl,h⟩
 ·obtain⟨h1,h2⟩:=cv rs
  cases bh h1
  unfold GU at h2;obtain⟨a,vs,rfl,_,e,l,r⟩:=h2
  cases ry
  refine A7 (by omega) I (qi.k (k:=Sum.inr _) e) rx λs' I'=>?_;rw[fV,lP (by rw[l,Reps.length _ _ r])];exact fin _ _ I' h
 ·obtain⟨ss,rfl,h⟩:=h;obtain⟨h1,h2⟩:=cv rs
  cases bh h1
  unfold GU at h2;obtain⟨a,vs,rfl,_,e,r⟩:=h2
  cases ry
  cases dR r
  obtain⟨t,rfl⟩:=rx;obtain⟨its,rv,pl,_⟩:=I.list (Gz.of e);have hs:=dk rv;refine SeqAt.notIn_listAt (λy=>match y with | .str z _=>z==x0 | _=>false) pl.isList (λy hy=>?_) ?_
  ·obtain⟨z,t',rfl⟩:=pZ hs y (by simpa using hy);exact Jy z t' x0 t
  ·rw[List.any_toArray,lL x0 hs];exact fin _ _ I h
def B1:List D->(D->Prop)->Prop
 | [.int i,.int j],R=>R (.bl (!decide (i=j)))
 | [.str x,.str y],R=>R (.bl (!decide (x=y)))
 | [.bl a,.bl b],R=>R (.bl (!decide (a=b)))
 | [.tup xs,.tup ys],R=>(xs=ys/\D.nds xs=true/\D.dps xs<=60)/\R (.bl false)
 | [.lst xs,.lst ys],R=>(xs=ys/\D.nds xs=true/\D.dps xs<=60)/\R (.bl false)
 | _,_=>False
theorem BS:∀ {d0:List D} {R:D->Prop},B1 d0 R->((∃(i:Int) (j:Int),d0=[.int i,.int j]/\R (.bl (!decide (i=j))))\/(∃(x:Str) (y:Str),d0=[.str x,.str y]/\R (.bl (!decide (x=y))))\/(∃(a:Bool) (b:Bool),d0=[.bl a,.bl b]/\R (.bl (!decide (a=b))))\/(∃(xs:List D) (ys:List D),d0=[.tup xs,.tup ys]/\(xs=ys/\D.nds xs=true/\D.dps xs<=60)/\R (.bl false))\/(∃(xs:List D) (ys:List D),d0=[.lst xs,.lst ys]/\(xs=ys/\D.nds xs=true/\D.dps xs<=60)/\R (.bl false))):=by walk_at "or"
def xC{i j:Int}:B1 [.int i,.int j] R=(R (.bl (!decide (i=j)))):=rfl
def v9{i j:Str}:B1 [.str i,.str j] R=(R (.bl (!decide (i=j)))):=rfl
def AS{i j:Bool}:B1 [.bl i,.bl j] R=(R (.bl (!decide (i=j)))):=rfl
def wA{xs ys:List D}:B1 [.tup xs,.tup ys] R=((xs=ys/\D.nds xs=true/\D.dps xs<=60)/\R (.bl false)):=rfl
def wx{xs ys:List D}:B1 [.lst xs,.lst ys] R=((xs=ys/\D.nds xs=true/\D.dps xs<=60)/\R (.bl false)):=rfl
theorem tj{A:Around}{s:Shared}:∀(kb:List (Gr×Value)) (ka:List (Gr×Value)),(∀(j:Nat) k v,ka[j]?=some (k,v)->∃y,valueAt kb k=some y/\SeqAt.EqAt A s v y true)->PySem.W.KeqHits A s kb ka true
 | kb,[],_=>.nil
 | kb,(k,v)::r,h=>by
  obtain⟨y,hy,he⟩:=h 0 k v rfl;have q:=PySem.W.KeqHits.hit hy he (tj kb r λj k' v' e=>h (j+1) k' v' (by simpa using e));exact q
theorem rM{kb:List (Gr×Value)}(hn:(kb.map (·.1)).Nodup){k:Gr}{y:Value}(e:kb[j]?=some (k,y)):valueAt kb k=some y:=by
 induction kb generalizing j with
 | nil=>simp at e
 | cons p r ih =>
  rw[Hm,HM] at hn
  cases j with
  | zero=>simp at e;subst e;simp[valueAt]
  | succ j =>
   have e':r[j]?=some (k,y):=by simpa using e
   have ne:¬ p.1=k:=λz=>hn.1 (by rw[z];exact GZ.mpr ⟨(k,y),Hc e',rfl⟩)
   have q:=ih hn.2 e'
   unfold valueAt at q ⊢;rw[List.find?_cons];simp only[ne,decide_false];exact q
theorem jj{α β:Type}{F:α->β->Prop}:∀ {l₁:List α} {l₂:List β} {j:Nat} {b:β},Paired F l₁ l₂->l₂[j]?=some b->∃a,l₁[j]?=some a/\F a b
 | _,_,_,_,.nil,e=>by simp at e
 | _,_,0,_,.cons h t,e=>by simp at e;subst e;exact⟨_,rfl,h⟩
 | _,_,j+1,_,.cons h t,e=>by
  obtain⟨a,q,f⟩:=jj (j:=j) t (by simpa using e);exact⟨a,by simpa using q,f⟩
theorem vS{α β:Type}{F:α->β->Prop}:∀ {l₁:List α} {l₂:List β} {j:Nat} {a:α},Paired F l₁ l₂->l₁[j]?=some a->∃b,l₂[j]?=some b/\F a b
 | _,_,_,_,.nil,e=>by simp at e
 | _,_,0,_,.cons h t,e=>by simp at e;subst e;exact⟨_,rfl,h⟩
 | _,_,j+1,_,.cons h t,e=>by
  obtain⟨a,q,f⟩:=vS (j:=j) t (by simpa using e);exact⟨a,by simpa using q,f⟩
theorem ve:∀ {ds:List D} {j:Nat} {d:D},D.nds ds=true->ds[j]?=some d->d.nd=true
 | [],_,_,_,e=>by simp at e
 | x::r,0,d,h,e=>by
  simp at e;subst e;unfold D.nds at h;exact(Hn.mp h).1
 | x::r,j+1,d,h,e=>by
  unfold D.nds at h;exact ve (j:=j) (Hn.mp h).2 (by simpa using e)
theorem vn:∀ {ds:List D} {j:Nat} {d:D},ds[j]?=some d->d.dp<=D.dps ds
 | [],_,_,e=>by simp at e
 | x::r,0,d,e=>by
  simp at e;subst e;unfold D.dps;exact Nat.le_max_left _ _
 | x::r,j+1,d,e=>by
  unfold D.dps;exact G0 (vn (j:=j) (by simpa using e)) (Nat.le_max_right _ _)
theorem lG{k:Gr}(e:(aO ks vs)[j]?=some (k,v)):∃x,k=Sum.inr x/\ks[j]?=some x/\vs[j]?=some v:=by
 unfold aO at e;rw[List.getElem?_zip_eq_some] at e;obtain⟨e1,e2⟩:=e;rw[List.getElem?_map] at e1
 cases h:ks[j]? with
 | none=>rw[h] at e1;cases e1
 | some x=>rw[h] at e1;exact⟨x,(Hg e1).symm,rfl,e2⟩
theorem CN(e1:ks[j]?=some x)(e2:vs[j]?=some v):(aO ks vs)[j]?=some (Sum.inr x,v):=by
 unfold aO;rw[List.getElem?_zip_eq_some];exact⟨by rw[List.getElem?_map,e1];rfl,e2⟩
theorem wc{pins:List (Addr×Obj)}{σ:L2.St}{s:Shared}{A:Around}{ws:List V}{va vb:List (Gr×Value)}(I:L2.Inv X pins σ H s)(nd:ks.Nodup)(hn:D.nds ds=true)(hd:A.units+D.dps ds<cLine)(l1:ks.length=ds.length)
  (rs1:Reps X.K M H ds vs) (rs2:Reps X.K M H ds ws) (ra:KV (aO ks vs) va) (rb:KV (aO ks ws) vb):PySem.W.KeqHits A s vb va true:=by
 have lw:=Reps.length _ _ rs2
 have hkb:(vb.map (·.1)).Nodup:=by
  rw[<- rb.keys];have:(aO ks ws).map (·.1)=ks.map Sum.inr:=by unfold aO;rw[List.map_fst_zip (by rw[GW];omega)]
  rw[this];exact List.Pairwise.map _ (λa b ne z=>ne (Sum.inr.inj z)) nd
 refine tj vb va λj k1 v1 e1=>?_;obtain⟨⟨k2,v2⟩,q1,z1,z2⟩:=jj ra e1;obtain⟨x,rfl,kx,vx⟩:=lG q1;simp only at z1 z2;subst z1;have hj:j<ds.length:=by rw[<- l1];exact(List.getElem?_eq_some_iff.mp kx).1
 have ed:ds[j]?=some ds[j]:=by simp[hj]
 obtain⟨v',ev,rv⟩:=Reps.get _ _ rs1 j _ ed;rw[vx] at ev
 cases ev
 obtain⟨w',ew,rw'⟩:=Reps.get _ _ rs2 j _ ed;obtain⟨⟨k3,y⟩,qy,y1,y2⟩:=vS rb (CN kx ew);simp only at y1 y2;subst y1;exact⟨y,rM hkb qy,yk I ds[j] A v2 w' v1 y (ve hn ed) (by have:=vn ed;omega) rv rw' z2 y2⟩
theorem fS(hu:X.A.units+64<cLine):GM X (compareOp .NotEq) λx y=>aV X.K B1 [x,y]:=by
 intro pins s σ H x y v u Q I rx ry h;obtain⟨M,ds,R,m,rs,h,k⟩:=h;have fin:∀b,R (.bl b)->EP X pins σ Q (.bool b) s:=λb r=>⟨.bl b,H,I,rfl,k _ r _ H (b9.refl H) (GU.sc rfl)⟩;replace h:=BS h
 rcases h with⟨_,_,rfl,h⟩ | ⟨_,_,rfl,h⟩ | ⟨_,_,rfl,h⟩ | ⟨_,_,rfl,h⟩ | ⟨_,_,rfl,h⟩
 ·exact o_ne hu pins s σ H x y v u Q I rx ry ⟨M,_,R,m,rs,h,k⟩
 ·exact o_ne hu pins s σ H x y v u Q I rx ry ⟨M,_,R,m,rs,h,k⟩
 ·exact o_ne hu pins s σ H x y v u Q I rx ry ⟨M,_,R,m,rs,h,k⟩
 ·obtain⟨⟨e,hn,hd⟩,h⟩:=h;subst e;obtain⟨h1,h2⟩:=cv rs;unfold GU at h1 h2;obtain⟨a,vs,rfl,sq,rs1⟩:=h1;obtain⟨b,ws,rfl,sq',rs2⟩:=h2
  cases rx
  cases ry
  obtain⟨its,r1,t1,_⟩:=I.tuple sq;obtain⟨its',r2,t2,_⟩:=I.tuple sq';have hs:its.length=its'.length:=by rw[<- r1.length,<- r2.length,<- Reps.length _ _ rs1,<- Reps.length _ _ rs2]
  refine SeqAt.RcNeAt.tuples (e:=λ_=>true) t1 t2 (by omega) (eqAt_Ds I _ X.A.in1 vs ws its its' hn (by rw[bL];omega) rs1 rs2 r1 r2) _ _ _ _ ?_;have z:((List.range (min its.toArray.size its'.toArray.size)).all (λ_=>true)&&its.toArray.size==its'.toArray.size)=true:=by simp[hs]
  rw[z];exact fin _ h
 ·obtain⟨⟨e,hn,hd⟩,h⟩:=h;subst e;obtain⟨h1,h2⟩:=cv rs;unfold GU at h1 h2;obtain⟨a,vs,rfl,_,sq,rs1⟩:=h1;obtain⟨b,ws,rfl,_,sq',rs2⟩:=h2
  cases rx
  cases ry
  obtain⟨its,r1,t1,_⟩:=I.list (Gz.of sq);obtain⟨its',r2,t2,_⟩:=I.list (Gz.of sq');have hs:its.length=its'.length:=by rw[<- r1.length,<- r2.length,<- Reps.length _ _ rs1,<- Reps.length _ _ rs2]
  refine SeqAt.RcNeAt.lists (e:=λ_=>true) t1.isList t2.isList (by simp[hs]) (by omega) (eqAt_Ds I _ X.A.in1 vs ws its its' hn (by rw[bL];omega) rs1 rs2 r1 r2) _ _ _ _ ?_;rw[iH];exact fin _ h
end
end DL
namespace DL
open PySem PySem.Spec PyProof.Rows L2
variable {ds:List D} {R:D→Prop}
section
variable {prog:Program} {w:World} {A:Around} {E:Value→Shared→Prop} {s:Shared}
theorem gJ{a:Addr}{vs:List Value}{ss:List Str}{n:Nat}{Q:Value->Shared->Prop}(ho:s.heap.get? a=some (seqObj "list" vs.toArray n))(hS:StrsAre vs ss)(h64:vs.length<64)
  (h:∀(out:Array Value) (ss':List Str),StrsAre out.toList ss'->ss'.Perm ss->sortedS ss'=true->Q .none { s with heap:=sortedHeap s.heap a vs out }) :
  wpAny (model prog w) A (call (.builtin "list.sort") [.ref a]) Q E s:=by
 refine HZ slot_list_sort ⟨_,ho,rfl⟩ entry_list_sort (list_sort_treeK strKind_oneLt ho hS.keysOf (λv₁ v₂ cJ e=>keyKind_strs (by rw[<- e];exact hS)) h64 λst' hp hs=>?_) (args_list_sort _);obtain⟨ss',h1,h2,h3⟩:=sorted_out_str hS hp hs;exact⟨_,rfl,h _ ss' h1 h2 h3⟩
end
abbrev Srt(ss:List Str):Prop:=sortedS ss=true
def jc:List D->(D->Prop)->Prop
 | [.lst ds],R=>∃ss:List Str,ds=ss.map D.str/\ss.length<64/\∀ss',ss'.Perm ss->Srt ss'->R (.lst (ss'.map D.str))
 | [.dct ks _],R=>ks.length<64/\∀ss',ss'.Perm ks->Srt ss'->R (.lst (ss'.map D.str))
 | [.fd ks _],R=>ks.length<64/\∀ss',ss'.Perm ks->Srt ss'->R (.lst (ss'.map D.str))
 | _,_=>False
theorem rW:∀ {d0:List D} {R:D->Prop},jc d0 R->((∃(ds:List D),d0=[.lst ds]/\∃ss:List Str,ds=ss.map D.str/\ss.length<64/\∀ss',ss'.Perm ss->Srt ss'->R (.lst (ss'.map D.str)))\/(∃(ks:List Str) (z1:List D),d0=[.dct ks z1]/\ks.length<64/\∀ss',ss'.Perm ks->Srt ss'->R (.lst (ss'.map D.str)))\/(∃(ks:List Str) (z1:List D),d0=[.fd ks z1]/\ks.length<64/\∀ss',ss'.Perm ks->Srt ss'->R (.lst (ss'.map D.str)))):=by walk_at "or"
def o6:jc [.lst ds] R=(∃ss:List Str,ds=ss.map D.str/\ss.length<64/\∀ss',ss'.Perm ss->Srt ss'->R (.lst (ss'.map D.str))):=rfl
def rQ{ks:List Str}:jc [.fd ks ds] R=(ks.length<64/\∀ss',ss'.Perm ks->Srt ss'->R (.lst (ss'.map D.str))):=rfl
def oX{ks:List Str}:jc [.dct ks ds] R=(ks.length<64/\∀ss',ss'.Perm ks->Srt ss'->R (.lst (ss'.map D.str))):=rfl
theorem iO{P:Program}{w:World}:∀ {ks:List Str} {us:List Value},ks.length=us.length->(∀(j:Nat) v k,us[j]?=some v->ks[j]?=some k->(aX P w).is (Sum.inr k) v=true)->StrsAre us ks
 | [],[],_,_=>.nil
 | [],_::_,l,_=>by cases l
 | _::_,[],l,_=>by cases l
 | k::ks,u::us,l,h=>by
  have h0:=h 0 u k rfl rfl
  obtain⟨t,rfl⟩:∃t,u=Value.str k t:=by
   have:nu (Sum.inr k) u=true:=h0
   rcases a5 this with⟨i,t,e,_⟩ | ⟨x,t,e,e2⟩
   ·cases e
   ·cases e;exact⟨t,e2⟩
  exact .cons _ _ (iO (Ja l) λj v k' e1 e2=>h (j+1) v k' (by simpa using e1) (by simpa using e2))
section
variable {X:Cx}
theorem fQ(hc:X.calm=true):bW X (.builtin "sorted") (aV X.K jc):=by
 intro pins s σ H xs us Q I rv h;obtain⟨M,ds,R,m,rs,h,k⟩:=h;replace h:=rW h
 rcases h with⟨_,rfl,h⟩ | ⟨_,_,rfl,h⟩ | ⟨_,_,rfl,h⟩
 ·obtain⟨ss,rfl,h64,h⟩:=h;obtain⟨x,rfl,q⟩:=bm rs;unfold GU at q;obtain⟨a,vs,rfl,_,e,r⟩:=q;obtain⟨u,rfl,ru⟩:=fk rv
  cases ru
  cases dR r
  obtain⟨its,rv2,pl,_⟩:=I.list (Gz.of e);have hs:=dk rv2;have hl:its.length=ss.length:=by rw[<- rv2.length,GW]
  refine sorted_strs pl.isList hs (by omega) λout ss' h1 h2 h3=>?_;obtain⟨ep,he⟩:=sortedAll_at s.heap its out;have hz:(ss'.map V.str).length<=sizeLine:=by rw[GW,h2.length_eq];exact dI (by omega)
  have I2:L2.Inv X pins σ (GC H (s.heap.objs.size+1) (.lst (ss'.map V.str))) { s with heap:=sortedAll s.heap its out } :=
   I.laid (t':=s.toks) (λb o=>sortedAll_old) (JK _) (show bN X.prog X.w _ _ _ (.lst (ss'.map V.str)) from⟨hz,out.toList,ep,cq h1,he⟩)
  have fr:H (s.heap.objs.size+1)=none:=I.hok.fresh (JK _)
  refine⟨.ref _,_,I2,rfl,k _ (h ss' h2 h3) _ _ (aI fr _) ?_⟩;unfold GU;exact⟨_,_,rfl,λz=>m _ z fr,aC,cm ss'⟩
 ·obtain⟨h64,h⟩:=h
  rename_i ks ds
  obtain⟨x,rfl,q⟩:=bm rs;unfold GU at q;obtain⟨a,vs,rfl,_,e,l,r⟩:=q;obtain⟨u,rfl,ru⟩:=fk rv
  cases ru
  obtain⟨hz,lo,va,ra,da⟩:=tz I.hok e;obtain⟨ep,hat⟩:=da.dictAt;have lv:=Reps.length _ _ r;have hlen:va.length=ks.length:=by
   rw[<- ra.length];unfold aO;rw[Ih,GW];omega
  refine Jm kind_sorted plain_sorted entry_sorted (args_sorted1 _) ?_;unfold Builtin.«sorted»;refine GX (m:=checkCount "sorted" 1 1 _) (G2 ?_);refine GX (PySem.W.kdu_collect (A:=X.A.in1) (PySem.W.kdl_dict (knd:=aX X.prog X.w) (kvs:=va) (ep:=ep) lo) (I.ok.hd hc) hat (by rw[hlen];exact dI (by omega)) λh' tk acc hk hacc=>?_);have hl:acc.toList.length=ks.length:=by rw[Hx,<- hlen];exact hacc.1
  have hS:StrsAre acc.toList ks:=iO hl.symm λj v k' e1 e2=>by
   obtain⟨k2,x2,h1,h2⟩:=hacc.2 j v (by rw[<- Array.getElem?_toList];exact e1);obtain⟨⟨k3,v3⟩,q1,z1,_⟩:=jj ra h1;obtain⟨x,rfl,kx,_⟩:=lG q1;simp only at z1;rw[kx] at e2
   cases e2
   rw[z1];exact h2
  refine GX (wpAny_newList ?_ (by rw[hl];exact dI (by omega)));have hoL:(h'.push { cls:=.type "list",data:=.seq acc.toList.toArray }).get? h'.objs.size=some (seqObj "list" acc.toList.toArray 0):=Heap.get?_push_size _ rfl;refine GX (Ib (gJ hoL hS (by omega) λout ss' h1 h2 h3=>?_));refine G2 ⟨_,rfl,?_⟩;obtain⟨ep2,he⟩:=sortedHeap_at (out:=out) hoL;have I1:L2.Inv X pins σ H { s with heap:=h',toks:=tk }:=I.kept (t':=tk) hk;have kp:∀b o,h'.get? b=some o->(sortedHeap (h'.push { cls:=.type "list",data:=.seq acc.toList.toArray }) h'.objs.size acc.toList out).get? b=some o:=λb o e=>by
   have hb:=Hk e
   rw[sortedHeap_old (Hz hb) (by rw[Ik];exact IM hb)];exact Heap.get?_push_of_some _ e
  have hz2:(ss'.map V.str).length<=sizeLine:=by rw[GW,h2.length_eq];exact dI (by omega)
  have I2:L2.Inv X pins σ (GC H h'.objs.size (.lst (ss'.map V.str))) { s with heap:=sortedHeap (h'.push { cls:=.type "list",data:=.seq acc.toList.toArray }) h'.objs.size acc.toList out,toks:=tk } :=
   I1.laid (t':=tk) kp (G3 _) (show bN X.prog X.w _ _ _ (.lst (ss'.map V.str)) from⟨hz2,out.toList,ep2,cq h1,he⟩)
  have fr:H h'.objs.size=none:=I1.hok.fresh (G3 _)
  refine⟨.ref _,_,I2,rfl,k _ (h ss' h2 h3) _ _ (aI fr _) ?_⟩;unfold GU;exact⟨_,_,rfl,λz=>m _ z fr,aC,cm ss'⟩
 ·obtain⟨h64,h⟩:=h
  rename_i ks ds
  obtain⟨x,rfl,q⟩:=bm rs;unfold GU at q;obtain⟨a,vs,o9,rfl,e,l,r⟩:=q;obtain⟨u,rfl,ru⟩:=fk rv
  cases ru
  obtain⟨hz,lo,va,ra,da⟩:=gy I.hok (.inr ⟨o9,e⟩);obtain⟨ep,hat⟩:=da.dictAt;have lv:=Reps.length _ _ r;have hlen:va.length=ks.length:=by
   rw[<- ra.length];unfold aO;rw[Ih,GW];omega
  refine Jm kind_sorted plain_sorted entry_sorted (args_sorted1 _) ?_;unfold Builtin.«sorted»;refine GX (m:=checkCount "sorted" 1 1 _) (G2 ?_);refine GX (PySem.W.kdu_collect (A:=X.A.in1) (PySem.W.kdl_dict (knd:=aX X.prog X.w) (kvs:=va) (ep:=ep) lo) (I.ok.hd hc) hat (by rw[hlen];exact dI (by omega)) λh' tk acc hk hacc=>?_);have hl:acc.toList.length=ks.length:=by rw[Hx,<- hlen];exact hacc.1
  have hS:StrsAre acc.toList ks:=iO hl.symm λj v k' e1 e2=>by
   obtain⟨k2,x2,h1,h2⟩:=hacc.2 j v (by rw[<- Array.getElem?_toList];exact e1);obtain⟨⟨k3,v3⟩,q1,z1,_⟩:=jj ra h1;obtain⟨x,rfl,kx,_⟩:=lG q1;simp only at z1;rw[kx] at e2
   cases e2
   rw[z1];exact h2
  refine GX (wpAny_newList ?_ (by rw[hl];exact dI (by omega)));have hoL:(h'.push { cls:=.type "list",data:=.seq acc.toList.toArray }).get? h'.objs.size=some (seqObj "list" acc.toList.toArray 0):=Heap.get?_push_size _ rfl;refine GX (Ib (gJ hoL hS (by omega) λout ss' h1 h2 h3=>?_));refine G2 ⟨_,rfl,?_⟩;obtain⟨ep2,he⟩:=sortedHeap_at (out:=out) hoL;have I1:L2.Inv X pins σ H { s with heap:=h',toks:=tk }:=I.kept (t':=tk) hk;have kp:∀b o,h'.get? b=some o->(sortedHeap (h'.push { cls:=.type "list",data:=.seq acc.toList.toArray }) h'.objs.size acc.toList out).get? b=some o:=λb o e=>by
   have hb:=Hk e
   rw[sortedHeap_old (Hz hb) (by rw[Ik];exact IM hb)];exact Heap.get?_push_of_some _ e
  have hz2:(ss'.map V.str).length<=sizeLine:=by rw[GW,h2.length_eq];exact dI (by omega)
  have I2:L2.Inv X pins σ (GC H h'.objs.size (.lst (ss'.map V.str))) { s with heap:=sortedHeap (h'.push { cls:=.type "list",data:=.seq acc.toList.toArray }) h'.objs.size acc.toList out,toks:=tk } :=
   I1.laid (t':=tk) kp (G3 _) (show bN X.prog X.w _ _ _ (.lst (ss'.map V.str)) from⟨hz2,out.toList,ep2,cq h1,he⟩)
  have fr:H h'.objs.size=none:=I1.hok.fresh (G3 _)
  refine⟨.ref _,_,I2,rfl,k _ (h ss' h2 h3) _ _ (aI fr _) ?_⟩;unfold GU;exact⟨_,_,rfl,λz=>m _ z fr,aC,cm ss'⟩
def qA:List D->(D->Prop)->Prop
 | [.lst xs],R=>R (.tup xs)
 | [.fz xs],R=>R (.tup xs)
 | [.tup xs],R=>R (.tup xs)
 | _,_=>False
theorem vX:∀ {d0:List D} {R:D->Prop},qA d0 R->((∃(xs:List D),d0=[.lst xs]/\R (.tup xs))\/(∃(xs:List D),d0=[.fz xs]/\R (.tup xs))\/(∃(xs:List D),d0=[.tup xs]/\R (.tup xs))):=by walk_at "or"
def rO{xs:List D}:qA [.lst xs] R=(R (.tup xs)):=rfl
def sK{xs:List D}:qA [.tup xs] R=(R (.tup xs)):=rfl
def fg:bW X (.type "tuple") (aV X.K qA) :=
 bW.imp fT λxs H Q ⟨M,ds,R,m,rs,h,k⟩=>by
  replace h:=vX h
  rcases h with⟨_,rfl,h⟩ | ⟨_,rfl,h⟩ | ⟨_,rfl,h⟩
  ·obtain⟨x,rfl,q⟩:=bm rs;unfold GU at q;obtain⟨a,vs,rfl,_,e,r⟩:=q;refine⟨a,vs,rfl,.inl ⟨Gz.of e,λl hl=>k _ h _ _ (aI hl _) ?_⟩⟩;unfold GU;exact⟨l,vs,rfl,Gy.of aC,Reps.kp (Kp.of_same (aI hl _)) _ _ r⟩
  ·obtain⟨x,rfl,q⟩:=bm rs;unfold GU at q;obtain⟨a,vs,rfl,e,r⟩:=q;refine⟨a,vs,rfl,.inl ⟨e.seq,λl hl=>k _ h _ _ (aI hl _) ?_⟩⟩;unfold GU;exact⟨l,vs,rfl,Gy.of aC,Reps.kp (Kp.of_same (aI hl _)) _ _ r⟩
  ·obtain⟨x,rfl,q⟩:=bm rs;have q0:=q;unfold GU at q;obtain⟨a,vs,rfl,e,r⟩:=q;exact⟨a,vs,rfl,.inr ⟨e,k _ h _ _ (b9.refl H) q0⟩⟩
def qM{pos:Pos}:DE X (.Dict [] [] pos) (dC (.dct [] [])) :=
 PE.imp qR λσ H Q ⟨G,δ,P,R,⟨A,x⟩,r,k,_⟩=>λp hp=>by
  refine k _ δ r (.ref p) _ ⟨A,(x.same (aI hp (.dK []))).push ?_⟩;unfold GU;exact⟨p,[],rfl,λz=>x.mem p z hp,aC,rfl,Reps.nil⟩
variable {a b e:Expr} {ta tb:GS} {pos:Pos}
def cT(hu:X.A.units+64<cLine)(ha:DE X a ta)(hb:DE X b tb)(hs:NoSl b):DE X (.Subscript a b pos) (dOp wQ ta tb) :=
 PE.imp (Ad (by omega) ha hb hs) λσ H Q ⟨G,δ,P,R,s,h,k,_⟩=>up.mk s h λx δ1 h1 v H1 s1=>up.mk s1 h1 λy δ2 h2 u H2 s2=>by
  replace h2:=xw h2
  rcases h2 with⟨ks,ds,z,eq,h2⟩ | ⟨ks,ds,z,eq,h2⟩
  ·skip
   cases eq
   obtain⟨d,ed,r⟩:=h2;obtain⟨A,q⟩:=id s2;have p1:=q.pnd (.dct ks ds,v) (by simp);have p2:u=.str z:=bh (q.pnd (.str z,u) (by simp));unfold GU at p1;obtain⟨a,vs,rfl,_,he,l,rs⟩:=p1;obtain⟨w',hw,rw'⟩:=(Reps.dAt z ks ds vs rs).1 d ed;refine⟨a,w',rfl,?_,k d δ2 r w' H2 ⟨A,(q.sub (P':=P) λp hp=>by simp[hp]).push rw'⟩⟩;have g:=qi.k (k:=Sum.inr z) he;rw[fV,hw] at g;rw[p2];exact g
  ·skip
   cases eq
   obtain⟨d,ed,r⟩:=h2;obtain⟨A,q⟩:=id s2;have p1:=q.pnd (.fd ks ds,v) (by simp);have p2:u=.str z:=bh (q.pnd (.str z,u) (by simp));unfold GU at p1;obtain⟨a,vs,o,rfl,he,l,rs⟩:=p1;obtain⟨w',hw,rw'⟩:=(Reps.dAt z ks ds vs rs).1 d ed;refine⟨a,w',rfl,?_,k d δ2 r w' H2 ⟨A,(q.sub (P':=P) λp hp=>by simp[hp]).push rw'⟩⟩;have g:qi H2 a (kV (Sum.inr z)) (qp (aO ks vs) (Sum.inr z)):=.inl ⟨_,_,.inr ⟨o,he⟩,rfl,rfl⟩;rw[fV,hw] at g;rw[p2];exact g
def Dv(i:Nat)(tv tk:GS)(R:a6)(δ:En):Prop:=tv δ (wd λx δ1=>qW δ1[i]? λa _=>tk δ1 (wd λz δ2=>Ar δ2[i]? λks ds=>qX z λy=>ks.length<9000/\jO δ2 i (.own a (.dct (jN ks y) (lU ks ds y x))) R.nx))
theorem gG(i:Nat){y:Str}{p pos':Pos}(hu:X.A.units+64<cLine)(he:DE X e ta)(hb:DE X b tb)(hN:X.N[i]?=some y:=by rfl)(hv:Vis X.env.scope y:=by walk_at "v3")
  (hd:(y==("__debug__":Str))=false:=by decide) (hcd:(y==("__classdict__":Str))=false:=by decide) (hs:swapsWith e (some (.Subscript (.Name y p) b pos')) pos.line X.env=pure false:=by rfl) :
  DS X (.Assign [.Subscript (.Name y p) b pos'] e pos) (Dv i ta tb) :=
 PS.imp (BV (by omega) (dF hN hv hd hcd) hb he hs) λE σ H ⟨G,δ,P,R,s,h,k,_⟩=>up.mk s h λx δ1 h1 v H1 s1=>let ⟨a,ds0,hi0,h1⟩:=qW.ex h1;⟨.ref a,s1.own hi0,up.mk s1 h1 λz δ2 h2 u H2 ⟨A,q⟩=>by
  replace h2:=Ar.ex q (s1.own hi0) h2;obtain⟨ks,ds,hi,h2⟩:=h2;replace h2:=qX.ex h2;obtain⟨y,ez,hz,r⟩:=h2;subst ez;obtain⟨_,aa,vs,hvs,l,rs⟩:=q.own i a _ hi;have lv:=Reps.length _ _ rs;have p2:u=.str y:=bh (q.pnd (.str y,u) (by simp));have hlen:(aO ks vs).length<sizeLine:=by
   unfold aO;rw[Ih,GW];exact i9 (by omega)
  have g:=DPut.k (k:=Sum.inr y) (v:=v) hvs hlen
  rw[BU y v (by omega)] at g;refine⟨a,_,rfl,by rw[p2];exact g,k _ r _ _ ⟨A,(q.change (d':=.dct (jN ks y) (lU ks ds y x)) hi (λb o n e=>by rw[aH n];exact e) ⟨lU ks vs y v,aC,BX l,?_⟩).sub (P':=P) λq hq=>GY _ (GY _ hq)⟩⟩;have kp:Kp (λb=>G.M0 b\/A b) H2 (GC H2 a (.dK (aO (jN ks y) (lU ks vs y v)))):=by
   have hk:∀b o,b≠a->H2 b=some o->GC H2 a (.dK (aO (jN ks y) (lU ks vs y v))) b=some o:=λb o n e=>by rw[aH n];exact e
   exact⟨λb o e n=>hk b o (λz=>n (.inr (by rw[z];exact aa))) e,λb xs e=>hk b _ (λz=>by rw[z,hvs] at e;cases e) e,λb o u e=>hk b _ (λz=>by rw[z,hvs] at e;cases e) e⟩
  exact Reps.kp kp _ _ (Reps.put y rs (q.pnd (x,v) (by simp)))⟩
def DV(R:a6)(δ:En):Prop:=R.rt .non δ
def Bg{pos:Pos}:DS X (.Return none pos) DV:=PS.imp AZ λE σ H ⟨G,δ,P,R,s,h,_,k,_⟩=>k.1 .non δ h .non σ H (s.sc rfl)
def zt(x:Str):List D:=x.cps.toList.map λc=>D.str ⟨#[c]⟩
end
end DL
namespace DL
open PySem PySem.Spec PyProof.Rows L2
section
variable {prog:Program} {w:World} {A:Around} {E:Value→Shared→Prop}
theorem kj{it l:Addr}{us:List Value}(ne:l≠it):∀(cJ:List Value) (i:Nat) (s:Shared) (Q:List Value->Shared->Prop),us.drop i=cJ->s.heap.IsListIter it l i->s.heap.IsList l us.toArray ->
  (∀h',h'.IsListIter it l (i+cJ.length)->Heap.SameBut it s.heap h'->Q cJ { s with heap:=h' })->wpAny (model prog w) A (draw (.ref it) cJ.length) Q E s
 | [],i,s,Q,_,si,_,k=>G2 (k s.heap si (Heap.SameBut.refl ..))
 | u::cJ,i,s,Q,e,si,sl,k=>by
  have hu:us[i]?=some u:=by
   have:=IB (λz=>z[0]?) e
   simpa using this
  have hr:us.drop (i+1)=cJ:=by
   have:=IB List.tail e
   rw[List.tail_drop] at this;simpa using this
  refine GX (wpAny_pyNext_list_item si sl (x:=u) (by simpa using hu) λh1 s1 b1=>GX (Ib ?_));have sl1:h1.IsList l us.toArray:=by
   obtain⟨o,ho,r⟩:=sl;exact⟨o,(b1.2 l ne).trans ho,r⟩
  refine kj ne cJ (i+1) { s with heap:=h1 } _ hr s1 sl1 λh2 s2 b2=>G2 ?_;refine k h2 ?_ (b1.trans b2);rw[Ha,Nat.add_comm cJ.length 1,<- Nat.add_assoc];exact s2
theorem kW{l:Addr}{us:List Value}{s:Shared}{Q:List Value->Shared->Prop}(hh:A.handled=none)(sl:s.heap.IsList l us.toArray)
  (k:∀h',(∀b o,s.heap.get? b=some o->h'.get? b=some o)->Q us { s with heap:=h' }):wpAny (model prog w) A (unpackItems (.ref l) us.length none) Q E s:=by
 have hlt:l<s.heap.objs.size:=let ⟨_,ho,_⟩:=sl;Hk ho
 have ty:s.TypeIs (.ref l) "list":=let ⟨o,ho,hc,_⟩:=sl;⟨o,ho,hc⟩
 unfold unpackItems notIterableAtAll;refine GX (GX (wpAny_specialOf ty F.slot_list_iter.lookup (G2 ?_)));rw[He G4];refine GX (Ib (Jf sl (GX (Ib ?_))));have sl0:∀o:Obj,(s.heap.push o).IsList l us.toArray:=λo=>let ⟨q,ho,r⟩:=sl;⟨q,Heap.get?_push_of_some _ ho,r⟩;refine kj (us:=us) (Hz hlt) us 0 _ _ (List.drop_zero ..) ⟨_,Heap.get?_push_size _ rfl,rfl,rfl⟩ (sl0 _) λh1 s1 b1=>?_;rw[He (HX _)];have sl1:h1.IsList l us.toArray:=by
  obtain⟨o,ho,r⟩:=sl;exact⟨o,(b1.2 l (Hz hlt)).trans (Heap.get?_push_of_some _ ho),r⟩
 refine GX (Ib (wpAny_pyNext_list_end hh s1 sl1 (by simp) λh2 b2=>?_));rw[He (show ¬ ((none:Option Value).isSome=true) from G4)];refine G2 (k h2 λb o e=>?_);have nb:b≠s.heap.objs.size:=Hz (Hk e);exact b2 b o nb ((b1.2 b nb).trans (Heap.get?_push_of_some _ e))
end
section
variable {X:Cx} {pos:Pos}
def gLst(K:PySem.W.Frag)(n:Nat)(t:TGs):TG:=λv σ H Q=>∃a xs,v=.ref a/\Gz K H a xs/\xs.length=n/\t xs σ H Q
theorem Ek{es:List Expr}{k:Nat}{t:TGs}{n:Nat}(hc:X.calm=true)(h:PGs X es t)(hn:(assignEach es X.env).length=n:=by rfl)(hst:(assignEach es X.env).findIdx? (·.1)=none:=by rfl):PG X (.Tuple es k pos) (gLst X.K n t):=by
 intro pins s σ H v u Q I r ⟨a,xs,e,hq,hl,hw⟩;subst e
 cases r
 obtain⟨us,rv,pl,_⟩:=I.list hq;rw[arm_assign_Tuple];refine GX (wpAny_standAt ?_);unfold unpack;rw[hst,hn,<- hl,rv.length];exact GX (Ib (kW (I.ok.hd hc) pl.isList λh' kp=>h pins _ σ H xs _ Q (I.kept (t':=s.toks) kp) rv hw))
def A9(n:Nat)(t:yw)(d:D)(δ:En)(R:En->Prop):Prop:=qL d λxs=>sV xs n (t xs δ R)
theorem yY{es:List Expr}{kk n:Nat}{gs:yw}(hc:X.calm=true)(h:DGs X es gs)(hn:(assignEach es X.env).length=n:=by rfl)(hst:(assignEach es X.env).findIdx? (·.1)=none:=by rfl):DG X (.Tuple es kk pos) (A9 n gs) :=
 PG.imp (Ek hc h hn hst) λv σ H Q ⟨G,δ,P,d,R,⟨A,x⟩,h,k⟩=>by
  replace h:=qL.ex h;obtain⟨xs,e,h⟩:=h;replace h:=sV.ex h;obtain⟨hl,h⟩:=h;subst e;have q:=x.pnd (.lst xs,v) (by simp);unfold GU at q;obtain⟨a,vs,e,_,sq,r⟩:=q;subst e;have lv:=Reps.length _ _ r;refine⟨a,vs,rfl,Gz.of sq,by rw[<- lv];exact hl,G,δ,P,xs,R,lv,⟨A,?_⟩,h,k⟩;have each:∀(ds:List D) (ws:List V),Reps X.K (λb=>G.M0 b\/A b) H ds ws->∀p∈ds.zip ws,GU X.K (λb=>G.M0 b\/A b) H p.1 p.2:=by
   intro ds
   induction ds with
   | nil=>intro ws _ p hp;cases hp
   | cons d ds ih =>
    intro ws hr p hp;unfold Reps at hr;obtain⟨w',cJ,rfl,q1,q2⟩:=hr
    rcases G7.mp hp with rfl | hp
    ·exact q1
    ·exact ih cJ q2 p hp
  have y:=x.sub (P':=P) λp hp=>GY _ hp
  exact⟨y.old,y.stay,y.m0,y.pm,y.new,y.thr,y.len,y.dat,y.own,y.inj,λp hp=>(Hb.mp hp).elim (each xs vs r p) (y.pnd p)⟩
end
end DL
namespace DL
open PySem PySem.Spec PyProof.Rows L2
variable {x:Str}
structure GInt(mg:Str->Option Value)(x:Str)(i:Int):Prop where
 ex:∃t,mg x=some (.int i t)
structure GTab(K:PySem.W.Frag)(mg:Str->Option Value)(x:Str)(D:List (Str×Str)):Prop where
 ex:∃a,mg x=some (.ref a)/\KTD.tabLook (KTD.datLooks λb=>K.lookup b) (λb=>K.lookup b) a (txt D)=true
theorem yn(k:Str):∀D:List (Str×Str),KTD.datumAt k (txt D)=(KTD.datumAt k D).map λv=>KTD.Dat.flat (.str v)
 | []=>rfl
 | (x,d)::D=>by
  show (if decide (k=x)=true then some (KTD.Dat.flat (.str d)) else KTD.datumAt k (txt D))=(if decide (k=x)=true then some d else KTD.datumAt k D).map _
  rw[yn k D]
  by_cases h:decide (k=x)=true
  ·rw[Hh h,Hh h];rfl
  ·rw[He h,He h]
theorem rg{h:Heap}{k:Str}{P:Value->Prop}:∀(D:List (Str×Str)),(∀v,KTD.datumAt k D=some v->∀t,P (.str v t))->KTD.EachL h k P (txt D)
 | [],_=>trivial
 | (x,d)::D,hq=>by
  show KTD.EachL h k P ((x,KTD.Dat.flat (.str d))::txt D)
  by_cases e:k=x
  ·exact KTD.eachL_hit e (KTD.opened_str λt=>hq d (by show (if decide (k=x)=true then some d else _)=_;rw[Hh (HG e)]) t)
  ·exact KTD.eachL_miss e (rg D λv hv=>hq v (by show (if decide (k=x)=true then some d else _)=_;rw[He (by simp[e])];exact hv))
section
variable {X:Cx} {b:Expr} {tb:GS} {pos p:Pos}
theorem vK{i:Int}(hg:Gl X x)(h:GInt X.mg x i)(hd:(x==("__debug__":Str))=false:=by decide):DE X (.Name x pos) (dC (.int i)):=by
 obtain⟨t,e⟩:=h.ex;exact de_c (oM (v:=.int i) hg e ⟨t,rfl⟩ hd) rfl
def Ds(D:List (Str×Str))(ty:TE):TE:=λσ H Q=>ty σ H λy H1=>∃k v,y=.str k/\KTD.datumAt k D=some v/\Q (.str v) H1
theorem Ap{D:List (Str×Str)}{ty:TE}(hg:Gl X x)(T:GTab X.K X.mg x D)(hb:PE X b ty)(hs:NoSl b)(hd:(x==("__debug__":Str))=false:=by decide):PE X (.Subscript (.Name x p) b pos) (Ds D ty):=by
 obtain⟨a,hm,hl⟩:=T.ex;intro pins s σ H Q I h;refine Subscript_ (GE (oM (v:=.ref a) hg hm rfl hd pins s σ H (λy0 H0=>y0=.ref a/\Ds D ty σ H0 Q) I ⟨rfl,h⟩) λu s1 ⟨y0,H0,I0,r0,e0,q0⟩=>?_);subst e0
 cases r0
 refine GE (hb pins s1 σ H0 _ I0 q0) λiv s2 ⟨y,H1,I1,ry,k,v,ey,ev,q⟩=>?_;subst ey;obtain⟨t,rfl⟩:=ry;have T2:KTD.TextTab s2.heap a (txt D):=PySem.W.kt_text_in I1.kIn hl;refine KTD.item_text (h₀:=s2.heap) (D:=txt D) ⟨T2,λ_ _ e=>e⟩ ?_ (rg D λv' hv t'=>?_) (hs _ _)
 ·rw[<- KTD.isSome_datumAt,yn,ev];rfl
 ·rw[ev] at hv
  cases hv
  exact⟨.str v,H1,I1.tok _,⟨t',rfl⟩,q⟩
def Es(D:List (Str×Str))(t:GS)(δ:En)(R:W->En->Prop):Prop:=t δ (wd λz δ1=>qX z λk=>∃v,KTD.datumAt k D=some v/\R (.d (.str v)) δ1)
theorem vI{D:List (Str×Str)}(hg:Gl X x)(T:GTab X.K X.mg x D)(hb:DE X b tb)(hs:NoSl b)(hd:(x==("__debug__":Str))=false:=by decide):DE X (.Subscript (.Name x p) b pos) (Es D tb) :=
 PE.imp (Ap hg T hb hs hd) λσ H Q ⟨G,δ,P,R,s,h,k,_⟩=>up.mk s h λz δ1 h1 u H1 s1=>by
  replace h1:=qX.ex h1;obtain⟨y,ez,h1⟩:=h1;obtain⟨v,ev,r⟩:=h1;subst ez;obtain⟨A,q⟩:=id s1;exact⟨y,v,bh (q.pnd (.str y,u) (by simp)),ev,k _ δ1 r _ H1 ((s1.sub (P':=P) λp hp=>by simp[hp]).sc rfl)⟩
end
end DL
namespace DL
open PySem PySem.Spec PyProof.Rows L2
def fMax:List D->(D->Prop)->Prop
 | [.int i,.int j],R=>R (.int (max i j))
 | [.lst ds],R=>∃ns:List Int,ds=ns.map D.int/\0<ns.length/\∀M∈ns,(∀a∈ns,a<=M)->R (.int M)
 | _,_=>False
theorem BB:∀ {d0:List D} {R:D->Prop},fMax d0 R->((∃(i:Int) (j:Int),d0=[.int i,.int j]/\R (.int (max i j)))\/(∃(ds:List D),d0=[.lst ds]/\∃ns:List Int,ds=ns.map D.int/\0<ns.length/\∀M∈ns,(∀a∈ns,a<=M)->R (.int M))):=by walk_at "or"
def wL{i j:Int}{R:D->Prop}:fMax [.int i,.int j] R=(R (.int (max i j))):=rfl
def wy{ds:List D}{R:D->Prop}:fMax [.lst ds] R=(∃ns:List Int,ds=ns.map D.int/\0<ns.length/\∀M∈ns,(∀a∈ns,a<=M)->R (.int M)):=rfl
theorem mL{K:PySem.W.Frag}{M:Addr->Prop}{H:Hp}:∀ {ns:List Int} {vs:List V},Reps K M H (ns.map D.int) vs->vs=ns.map V.int
 | [],vs,h=>by unfold Reps at h;exact h
 | s::ss,vs,h=>by
  rw[Hm] at h;unfold Reps at h;obtain⟨v,r,rfl,q,t⟩:=h;rw[aQ q,mL t];rfl
theorem ko:∀ {ns:List Int} {us:List Value},bn (ns.map V.int) us->IntsAre us ns
 | [],_,r=>by rw[Jv] at r;cases r;exact .nil
 | n::ns,_,r=>by
  rw[Hm] at r
  cases r with
  | @cons _ u _ us h t =>
   obtain⟨t',e⟩:=(show ∃t,u=Value.int n t from h);subst e;exact .cons _ _ (ko t)
theorem F1{X:Cx}(hc:X.calm=true):bW X (.builtin "max") (aV X.K fMax):=by
 intro pins s σ H xs us Q I rv h;obtain⟨M,ds,R,m,rs,h,k⟩:=h;replace h:=BB h
 rcases h with⟨i,j,rfl,h⟩ | ⟨_,rfl,h⟩
 ·skip
  refine tq hc pins s σ H xs us Q I rv ?_;obtain⟨x,y,rfl,h1,h2⟩:=f8 rs;refine⟨i,j,by rw[aQ h1,aQ h2],k _ h _ H (b9.refl H) ?_⟩;unfold GU
  congr 1
  by_cases z:j>i
  ·rw[Hh z];omega
  ·rw[He z];omega
 ·obtain⟨ns,rfl,hpos,h⟩:=h;obtain⟨x,rfl,q⟩:=bm rs;unfold GU at q;obtain⟨a,vs,rfl,_,e,r⟩:=q;obtain⟨u,rfl,ru⟩:=fk rv
  cases ru
  cases mL r
  obtain⟨its,rv2,pl,_⟩:=I.list (Gz.of e);have hi:=ko rv2;obtain⟨ys,ey⟩:=hi.allInts.items;have hn:ys.toList.map (·.1)=ns:=by
   have e1:=nums_intItems ys
   rw[<- ey] at e1;exact e1.symm.trans hi.numsOf
  have hz:ys.size=ns.length:=by rw[<- hn,GW,Hx]
  have hl:=pl.isList
  rw[ey] at hl;refine max_intList (I.ok.hd hc) hl (by omega) λv h' tk hv hk=>?_;obtain⟨t,rfl⟩:=intItems_at hv;obtain⟨h1,h2⟩:=argBest_gt (numAt ys) (ys.size-1);refine⟨.int _,H,I.kept (t':=tk) hk,⟨t,rfl⟩,k _ (h _ ?_ λb hb=>?_) _ H (b9.refl H) (GU.sc rfl)⟩
  ·rw[numAt_eq,hn];have hlt:argBest (λi j=>decide (numAt ys i>numAt ys j)) (ys.size-1)<ns.length:=by omega
   rw[List.getD_eq_getElem?_getD,List.getElem?_eq_getElem hlt];exact Ia hlt
  ·obtain⟨j,hj,ej⟩:=List.getElem_of_mem hb;have:=h2 j (by omega);rw[numAt_eq ys j,hn] at this;have ej2:ns.getD j 0=b:=by rw[List.getD_eq_getElem?_getD,List.getElem?_eq_getElem hj];exact ej
   rw[ej2] at this;exact this
end DL
namespace Mf
variable {b p q:Int}
def gc(a b:Int):Int:=(Int.gcd a b:Nat)
theorem uy(a b:Int):gc b (a.fmod b)=gc a b:=by
 unfold gc;rw[Int.fmod_def,Int.gcd_sub_mul_left_right,Int.gcd_comm]
theorem eM(a b:Int)(hb:b≠0):(a.fmod b).natAbs<b.natAbs:=by
 rcases Int.lt_or_gt_of_ne hb with h | h
 ·have e:a.fmod b=-((-a).fmod (-b)):=by
   have h1:(-a).fdiv (-b)=a.fdiv b:=Int.neg_fdiv_neg a b
   rw[Int.fmod_def,Int.fmod_def,h1,Int.neg_mul];omega
  have h1:=Hy (-a) (b:=-b) (by omega)
  have h2:=HK (-a) (b:=-b) (by omega)
  rw[e];omega
 ·have h1:=Hy a h
  have h2:=HK a h
  omega
theorem uH(a:Int):gc a 0=if a<0 then -a else a:=by
 unfold gc;rw[Int.gcd_zero_right]
 split<;>omega
theorem t5(a b:Int):0<=gc a b:=by unfold gc;omega
theorem ye(a:Int)(h:b≠0):0<gc a b:=by
 unfold gc;have:=Int.gcd_pos_of_ne_zero_right a h;omega
def fj(a b:Int):gc a b ∣ a:=Int.gcd_dvd_left a b
def dW(a b:Int):gc a b ∣ b:=Int.gcd_dvd_right a b
structure Low(p q:Int):Prop where
 pos:0<q
 cop:gc p q=1
theorem Low.cop'(h:Low p q):Int.gcd p q=1:=by have:=h.cop;unfold gc at this;omega
theorem Low.ne(h:Low p q):q≠0:=by have:=h.pos;omega
theorem Low.uniq{p' q':Int}(h:Low p q)(h':Low p' q')(e:p*q'=p'*q):p=p'/\q=q':=by
 have d1:q ∣ q':=by
  have:q ∣ p*q':=⟨p',by rw[e,HQ]⟩
  have g:Int.gcd q p=1:=by rw[Int.gcd_comm];exact h.cop'
  have k:=(Jc (k:=q) (n:=p) (m:=q')).mpr this
  rw[g] at k;simpa using k
 have d2:q' ∣ q:=by
  have:q' ∣ p'*q:=⟨p,by rw[<- e,HQ]⟩
  have g:Int.gcd q' p'=1:=by rw[Int.gcd_comm];exact h'.cop'
  have k:=(Jc (k:=q') (n:=p') (m:=q)).mpr this
  rw[g] at k;simpa using k
 have eq:q=q':=by
  have a1:=Int.le_of_dvd h'.pos d1
  have a2:=Int.le_of_dvd h.pos d2
  omega
 subst eq;exact⟨Int.eq_of_mul_eq_mul_right h.ne e,rfl⟩
def dv(t b:Int):Int:=if b<0 then -(gc t b) else gc t b
def GN(t b:Int):Int:=t.fdiv (dv t b)
def GG(t b:Int):Int:=b.fdiv (dv t b)
theorem D6(t:Int)(h:b≠0):dv t b≠0:=by
 have:=ye t h
 unfold dv
 split<;>omega
theorem ph(t b:Int):dv t b ∣ t:=by
 unfold dv
 split
 ·exact(Int.neg_dvd).mpr (fj t b)
 ·exact fj t b
theorem mD(t b:Int):dv t b ∣ b:=by
 unfold dv
 split
 ·exact(Int.neg_dvd).mpr (dW t b)
 ·exact dW t b
def vd(t b:Int):GN t b*dv t b=t:=IP (ph t b)
def vE(t b:Int):GG t b*dv t b=b:=IP (mD t b)
theorem nk(t b:Int):(dv t b).natAbs=Int.gcd t b:=by
 unfold dv gc
 split<;>omega
theorem eL(t:Int)(h:b≠0):Low (GN t b) (GG t b):=by
 have e1:=vd t b
 have e2:=vE t b
 have hd:=D6 t h
 constructor
 ·unfold dv at e2 hd;have gp:=ye t h
  by_cases hb:b<0
  ·rw[Hh hb] at e2;have:GG t b*gc t b=-b:=by rw[Int.mul_neg] at e2;omega
   exact Int.pos_of_mul_pos_left (by omega) gp |> λz=>z
  ·rw[He hb] at e2;exact Int.pos_of_mul_pos_left (by omega) gp |> λz=>z
 ·have g:Int.gcd (GN t b*dv t b) (GG t b*dv t b)=Int.gcd (GN t b) (GG t b)*(dv t b).natAbs:=Int.gcd_mul_right _ _ _
  rw[e1,e2,nk] at g;have gp:=Int.gcd_pos_of_ne_zero_right t h;unfold gc;have:Int.gcd (GN t b) (GG t b)=1:=by
   have g2:1*Int.gcd t b=Int.gcd (GN t b) (GG t b)*Int.gcd t b:=by rw[Nat.one_mul];exact g
   exact(Nat.eq_of_mul_eq_mul_right gp g2).symm
  omega
theorem pF(t b:Int):GN t b*b=t*GG t b:=by
 have e1:=vd t b
 have e2:=vE t b
 calc GN t b*b=GN t b*(GG t b*dv t b):=by rw[e2]
  _=(GN t b*dv t b)*GG t b:=by rw[Ic,HQ (GG t b)]
  _=t*GG t b:=by rw[e1]
theorem zZ{t:Int}(hb:b≠0)(h:Low p q)(e:p*b=t*q):GN t b=p/\GG t b=q:=by
 refine(eL t hb).uniq h ?_;have c:=pF t b;refine Int.eq_of_mul_eq_mul_right hb ?_
 calc GN t b*q*b=GN t b*b*q:=by rw[Ic,HQ q,<- Ic]
  _=t*GG t b*q:=by rw[c]
  _=(t*q)*GG t b:=by rw[Ic,HQ (GG t b),<- Ic]
  _=p*b*GG t b:=by rw[e]
  _=p*GG t b*b:=by rw[Ic,HQ b,<- Ic]
def Low.self(h:Low p q):GN p q=p/\GG p q=q:=zZ h.ne h rfl
end Mf
namespace Mf
open PySem L2 DL
variable {q p:Str→Int} {B C:Int}
def Gs(q:Str->Int):List Str->Int
 | []=>1
 | n::r=>q n*Gs q r
theorem gq(q:Str->Int)(l r:List Str):Gs q (l++r)=Gs q l*Gs q r:=by
 induction l with
 | nil=>show Gs q r=1*Gs q r;rw[Int.one_mul]
 | cons x l ih=>show q x*Gs q (l++r)=q x*Gs q l*Gs q r;rw[ih,Ic]
theorem oE(q:Str->Int)(n:Str):Gs q [n]=q n:=by show q n*1=q n;rw[Int.mul_one]
theorem cG:∀ {l:List Str},(∀n∈l,0<q n)->0<Gs q l
 | [],_=>(by decide:(0:Int)<1)
 | n::r,h=>Int.mul_pos (h n (G1 ..)) (cG λm hm=>h m (GY _ hm))
theorem dO:∀ {l:List Str} {n:Str},n∈l->q n ∣ Gs q l
 | x::r,n,h=>by
  rcases G7.mp h with rfl | h
  ·exact Int.dvd_mul_right _ _
  ·exact Int.dvd_trans (dO h) (Int.dvd_mul_left _ _)
theorem w4{l r:List Str}(h:l.Perm r):Gs q l=Gs q r:=by
 induction h with
 | nil=>rfl
 | cons x _ ih=>show q x*_=q x*_;rw[ih]
 | swap x y l=>show q y*(q x*Gs q l)=q x*(q y*Gs q l);rw[<- Ic,<- Ic,HQ (q y)]
 | trans _ _ h1 h2=>rw[h1,h2]
def cI(f:Str->Int):List (Str×Int)->Int
 | []=>0
 | t::r=>t.2*f t.1+cI f r
theorem jm(f:Str->Int)(l r:List (Str×Int)):cI f (l++r)=cI f l+cI f r:=by
 induction l with
 | nil=>show cI f r=0+cI f r;rw[Jb]
 | cons x l ih=>show x.2*f x.1+cI f (l++r)=x.2*f x.1+cI f l+cI f r;rw[ih,JY]
theorem rG(f:Str->Int)(t:Str×Int):cI f [t]=t.2*f t.1:=by show t.2*f t.1+0=_;rw[Ix]
theorem gE{f g:Str->Int}:∀ {l:List (Str×Int)},(∀t∈l,f t.1=g t.1)->cI f l=cI g l
 | [],_=>rfl
 | t::r,h=>by show t.2*f t.1+_=t.2*g t.1+_;rw[h t (G1 ..),gE λu hu=>h u (GY _ hu)]
theorem iG(f:Str->Int)(k:Int):∀l:List (Str×Int),k*cI f l=cI (λn=>k*f n) l
 | []=>J6 k
 | t::r=>by
  show k*(t.2*f t.1+cI f r)=t.2*(k*f t.1)+_
  rw[Int.mul_add,iG f k r,HV]
def lF(ts:List (Str×Int)):List (Str×Int):=ts.map λt=>(t.1,-t.2)
def ov(p q:Str->Int)(B:Int)(n:Str):Int:=p n*B.fdiv (q n)
theorem wC{n:Str}(h0:q n≠0)(h:q n ∣ B)(h':q n ∣ C):C*ov p q B n=B*ov p q C n:=by
 obtain⟨x,rfl⟩:=h;obtain⟨y,rfl⟩:=h';unfold ov;rw[Ii _ h0,Ii _ h0];rw[HV,HV (q n*x),Ic,Ic,HQ y x]
theorem vV{ts:List (Str×Int)}(h:∀t∈ts,q t.1≠0/\q t.1 ∣ B/\q t.1 ∣ C):C*cI (ov p q B) ts=B*cI (ov p q C) ts:=by
 rw[iG,iG];exact gE λt ht=>wC (h t ht).1 (h t ht).2.1 (h t ht).2.2
theorem xl{ts:List (Str×Int)}{t:Str×Int}(h:∀u∈ts,q u.1≠0/\q u.1 ∣ B)(ht:q t.1≠0) :
  cI (ov p q B) ts*q t.1+t.2*p t.1*B=cI (ov p q (B*q t.1)) (ts++[t]):=by
 rw[jm,rG];have e1:cI (ov p q (B*q t.1)) ts=cI (ov p q B) ts*q t.1:=by
  rw[HQ (cI (ov p q B) ts),iG];refine gE λu hu=>?_;obtain⟨h0,x,rfl⟩:=h u hu;unfold ov;rw[Ic,Ii _ h0,Ii _ h0,HQ x,HV]
 have e2:ov p q (B*q t.1) t.1=p t.1*B:=by
  unfold ov;rw[HQ B,Ii _ ht]
 rw[e1,e2,Ic]
theorem xT{a b s t:Int}(hB:0<B)(hC:0<C)(e:C*s=B*t):(b*B<=s↔b*C<=t):=by
 constructor
 ·intro h;have h1:=Int.mul_le_mul_of_nonneg_left h (Jw hC);rw[e] at h1;have h2:B*(b*C)<=B*t:=by rw[HV B,HQ B C,HV b];exact h1
  exact Int.le_of_mul_le_mul_left h2 hB
 ·intro h;have h1:=Int.mul_le_mul_of_nonneg_left h (Jw hB);rw[<- e] at h1;have h2:C*(b*B)<=C*s:=by rw[HV C,HQ C B,HV b];exact h1
  exact Int.le_of_mul_le_mul_left h2 hC
theorem xW{b s t:Int}(hB:0<B)(hC:0<C)(e:C*s=B*t):(b*B<s↔b*C<t):=by
 constructor
 ·intro h;have h1:=Int.mul_lt_mul_of_pos_left h hC;rw[e] at h1;have h2:B*(b*C)<B*t:=by rw[HV B,HQ B C,HV b];exact h1
  exact Int.lt_of_mul_lt_mul_left h2 (Jw hB)
 ·intro h;have h1:=Int.mul_lt_mul_of_pos_left h hB;rw[<- e] at h1;have h2:C*(b*B)<C*s:=by rw[HV C,HQ C B,HV b];exact h1
  exact Int.lt_of_mul_lt_mul_left h2 (Jw hC)
end Mf
namespace DL
open PySem PySem.Spec PyProof.Rows L2
theorem vP{x y:Nat}{r t:List Nat}:ltCps (x::r) (y::t)=if x<y then true else if y<x then false else ltCps r t:=by
 show (decide (x<y)||(x==y&&ltCps r t))=_
 rcases Jg x y with h | h | h
 ·rw[Hh h,HG h];rfl
 ·subst h;rw[He (HX x),He (HX x)];simp
 ·rw[He (JR h),Hh h,HA (JR h)];have:(x==y)=false:=by simp;omega
  rw[this];rfl
theorem qH:∀ {a b:List Nat},ltCps a b=false->ltCps b a=false->a=b
 | [],[],_,_=>rfl
 | [],y::s,h,_=>by simp[ltCps] at h
 | x::r,[],_,h=>by simp[ltCps] at h
 | x::r,y::s,h1,h2=>by
  rw[vP] at h1 h2
  rcases Jg x y with h | h | h
  ·rw[Hh h] at h1;cases h1
  ·subst h;rw[He (HX x),He (HX x)] at h1 h2;rw[qH h1 h2]
  ·rw[Hh h] at h2;cases h2
theorem jB:∀ {a b c:List Nat},ltCps b a=false->ltCps c b=false->ltCps c a=false
 | [],b,c,_,_=>by cases c<;>rfl
 | x::r,[],c,h,_=>by simp[ltCps] at h
 | x::r,y::s,[],_,h=>by simp[ltCps] at h
 | x::r,y::s,z::t,h1,h2=>by
  rw[vP] at h1 h2 ⊢
  rcases Jg y x with h | h | h
  ·rw[Hh h] at h1;cases h1
  ·subst h;rw[He (HX y),He (HX y)] at h1
   rcases Jg z y with g | g | g
   ·rw[Hh g] at h2;cases h2
   ·subst g;rw[He (HX z),He (HX z)] at h2 ⊢;exact jB h1 h2
   ·rw[He (JR g),Hh g]
  ·rcases Jg z y with g | g | g
   ·rw[Hh g] at h2;cases h2
   ·subst g;rw[He (JR h),Hh h]
   ·have:x<z:=Nat.lt_trans h g
    rw[He (JR this),Hh this]
def leS(a b:Str):Prop:=ltCps b.cps.toList a.cps.toList=false
theorem CD{a b:Str}(h1:leS a b)(h2:leS b a):a=b:=by
 have:=qH h2 h1
 cases a;cases b
 simp only[Str.mk.injEq] at *;exact Array.toList_inj.mp this
theorem gP:∀ {ss:List Str},Srt ss->ss.Pairwise leS
 | [],_=>.nil
 | x::r,h=>by
  have h:risingS x r=true:=h
  have key:∀(r:List Str) (x:Str),risingS x r=true->(∀y∈r,leS x y)/\r.Pairwise leS:=by
   intro r
   induction r with
   | nil=>intro x _;exact⟨λy hy=>(nomatch hy),.nil⟩
   | cons y r ih =>
    intro x h;unfold risingS at h;obtain⟨h1,h2⟩:=Hn.mp h;have h1:leS x y:=by unfold leS;cases q:ltCps y.cps.toList x.cps.toList with
     | false=>rfl
     | true=>rw[q] at h1;cases h1
    obtain⟨i1,i2⟩:=ih y h2;refine⟨λz hz=>?_,.cons i1 i2⟩
    rcases G7.mp hz with rfl | hz
    ·exact h1
    ·exact jB h1 (i1 z hz)
  obtain⟨k1,k2⟩:=key r x h;exact .cons k1 k2
theorem ja:∀ {as bs:List Str},as.Pairwise leS->bs.Pairwise leS->as.Nodup->bs.Nodup->(∀x,x∈as↔x∈bs)->as=bs
 | [],[],_,_,_,_,_=>rfl
 | [],b::bs,_,_,_,_,h=>by have:=(h b).mpr (G1 ..);cases this
 | a::as,[],_,_,_,_,h=>by have:=(h a).mp (G1 ..);cases this
 | a::as,b::bs,pa,pb,na,nb,h=>by
  cases pa with
  | cons pa1 pa2 =>
   cases pb with
   | cons pb1 pb2 =>
    have e:a=b:=by
     rcases G7.mp ((h a).mp (G1 ..)) with e | ha
     ·exact e
     ·rcases G7.mp ((h b).mpr (G1 ..)) with e | hb
      ·exact e.symm
      ·exact CD (pa1 b hb) (pb1 a ha)
    subst e;obtain⟨n1,n2⟩:=HM.mp na;obtain⟨n3,n4⟩:=HM.mp nb;rw[ja pa2 pb2 n2 n4 λx=>⟨λhx=>?_,λhx=>?_⟩]
    ·rcases G7.mp ((h x).mp (GY _ hx)) with e | hx'
     ·exact absurd (e ▸ hx) n1
     ·exact hx'
    ·rcases G7.mp ((h x).mpr (GY _ hx)) with e | hx'
     ·exact absurd (e ▸ hx) n3
     ·exact hx'
def wz{as bs:List Str}(ha:Srt as)(hb:Srt bs)(na:as.Nodup)(nb:bs.Nodup)(h:∀x,x∈as↔x∈bs):as=bs:=ja (gP ha) (gP hb) na nb h
end DL
namespace DL
open PySem PySem.Spec PyProof.Rows L2
variable {k l:Bool} {h h':Heap} {it a z p o j b:Addr} {i m:Nat} {xs ys:Array Value} {x:Value} {Q:Value→Shared→Prop} {elts:List Expr} {pos:Pos} {X:Cx} {pins:List (Addr×Obj)} {σ:L2.St} {H:Hp} {s:Shared}
def ItA(k:Bool)(h:Heap)(it a:Addr)(i:Nat):Prop:=match k with | true=>h.IsListIter it a i | false=>h.IsTupleIter it a i
def SqA(k:Bool)(h:Heap)(a:Addr)(xs:Array Value):Prop:=match k with | true=>h.IsList a xs | false=>h.IsTuple a xs
theorem ItA.keep(x:ItA k h it a i)(f:∀o,h.get? it=some o->h'.get? it=some o):ItA k h' it a i:=by
 cases k
 ·exact Heap.IsTupleIter.at x f
 ·exact Heap.IsListIter.at x f
theorem SqA.keep(x:SqA k h a xs)(f:∀o,h.get? a=some o->h'.get? a=some o):SqA k h' a xs:=by
 cases k
 ·exact Heap.IsTuple.at x f
 ·exact Heap.IsList.at x f
theorem ItA.obj(x:ItA k h it a i):∃o,h.get? it=some o/\o.cls=.type (if k then "list_iterator" else "tuple_iterator")/\o.data=.fields #[.ref a,.int i 0]:=by
 cases k
 ·exact x
 ·exact x
theorem SqA.there(x:SqA k h a xs):∃o,h.get? a=some o/\∃n,o.data=.seq xs n:=by
 cases k
 ·obtain⟨o,e,_,d⟩:=x;exact⟨o,e,d⟩
 ·obtain⟨o,e,_,d⟩:=x;exact⟨o,e,d⟩
section
variable {prog:Program} {w:World} {A:Around} {E:Value→Shared→Prop} {s:Shared}
theorem Fi{t:Addr}(a1:s.heap.IsTupleIter it t i)(a2:s.heap.IsTuple t xs)(a3:xs[i]?=some x)
  (q:∀h',h'.IsTupleIter it t (i+1)->Heap.SameBut it s.heap h'->Q x { s with heap:=h' }):wpAny (model prog w) A (Builtin.SmallTypes.nextOf (.ref it)) Q E s:=by
 obtain⟨u,e1,e2,e3⟩:=id a1;obtain⟨ut,f1,_,nn,f2⟩:=a2;unfold Builtin.SmallTypes.nextOf;refine GX (wpAny_callSpecial?_slot (name:=Str.ofString "__next__") a1.typeIs IE (HZ IE a1.typeIs F.entry_tuple_iterator_next ?_ (F.args_tuple_iterator_next_1 _)));refine GX (m:=field (.ref it) 0) (Il e1 e3 (x:=.ref t) rfl ?_);rw[He (c:=(Value.ref t==Value.none)=true) G4];refine GX (m:=field (.ref it) 1) (Il e1 e3 (x:=.int i 0) rfl ?_);refine GX (m:=seqItems? (.ref t)) (Io f1 f2 ?_);simp only[Int.toNat_natCast,a3];refine GX (wpAny_setField e1 e3 (by simp) (G2 ⟨x,rfl,G2 (q _ ?_ (Js ..))⟩));refine⟨_,Heap.get?_update_self _ e1 (Obj.isFreed_of_fields (Obj.data_mapFields e3 _)),(Obj.cls_mapFields ..).trans e2,?_⟩;rw[Obj.data_mapFields e3];simp[rawInt]
theorem tW{t:Addr}(a0:A.handled=none)(a1:s.heap.IsTupleIter it t i)(a2:s.heap.IsTuple t xs)(a3:xs[i]?=none)
  (q:∀h' e,Heap.ExtBut it s.heap h'->(∃o,h'.get? e=some o/\o.cls=.type "StopIteration")->E (.ref e) { s with heap:=h' }):wpAny (model prog w) A (Builtin.SmallTypes.nextOf (.ref it)) Q E s:=by
 obtain⟨u,e1,e2,e3⟩:=id a1;obtain⟨ut,f1,_,nn,f2⟩:=a2;unfold Builtin.SmallTypes.nextOf;refine GX (wpAny_callSpecial?_slot (name:=Str.ofString "__next__") a1.typeIs IE (HZ IE a1.typeIs F.entry_tuple_iterator_next ?_ (F.args_tuple_iterator_next_1 _)));refine GX (m:=field (.ref it) 0) (Il e1 e3 (x:=.ref t) rfl ?_);rw[He (c:=(Value.ref t==Value.none)=true) G4];refine GX (m:=field (.ref it) 1) (Il e1 e3 (x:=.int i 0) rfl ?_);refine GX (m:=seqItems? (.ref t)) (Io f1 f2 ?_);simp only[Int.toNat_natCast,a3];refine GX (JZ (GX (wpAny_setField e1 e3 (by simp) ?_)));refine GX (m:=newExc (.type "StopIteration") []) ?_;simp only[newExc,newTuple];refine GX (HR ?_ (by size_fits));refine GX (m:=firstArgMember _ _) (wpAny_of_eq (a:=Value.none) (by first | rfl | (simp only[firstArgMember];rfl)) ?_);refine HR ?_ (by size_fits);simp only[raiseNew];refine GX (wpAny_handled ?_)
 first | rw[show A.in1.handled=none from a0] | rw[a0]
 exact GX (G2 (wpAny_throw (q _ _ (((Js ..).extBut.push _).push _) ⟨_,Heap.get?_push_size _ rfl,rfl⟩)))
theorem zJ(a1:ItA k s.heap it a i)(a2:SqA k s.heap a xs)(a3:xs[i]?=some x)
  (q:∀h',ItA k h' it a (i+1)->Heap.SameBut it s.heap h'->Q x { s with heap:=h' }):wpAny (model prog w) A (Builtin.SmallTypes.nextOf (.ref it)) Q E s:=by
 cases k
 ·exact Fi a1 a2 a3 q
 ·exact wpAny_nextOf_list_item a1 a2 a3 q
theorem l9(a0:A.handled=none)(a1:ItA k s.heap it a i)(a2:SqA k s.heap a xs)(a3:xs[i]?=none)
  (q:∀h' e,Heap.ExtBut it s.heap h'->(∃o,h'.get? e=some o/\o.cls=.type "StopIteration")->E (.ref e) { s with heap:=h' }):wpAny (model prog w) A (Builtin.SmallTypes.nextOf (.ref it)) Q E s:=by
 cases k
 ·exact tW a0 a1 a2 a3 q
 ·exact wpAny_nextOf_list_end a0 a1 a2 a3 q
theorem yr(a1:SqA k s.heap a xs)
  (q:Q (.ref s.heap.objs.size) { s with heap:=s.heap.push { cls:=.type (if k then "list_iterator" else "tuple_iterator"),data:=.fields #[.ref a,.int 0 0] } }):wpAny (model prog w) A (pyIter (.ref a)) Q E s:=by
 cases k
 ·exact wpAny_pyIter_tuple a1 q
 ·exact Jf a1 q
structure ZAp(z p o i j a b:Addr):Prop where
 zp:p≠z
 zo:o≠z
 zi:i≠z
 zj:j≠z
 po:p≠o
 pi:p≠i
 pj:p≠j
 oi:o≠i
 oj:o≠j
 ij:i≠j
 az:a≠z
 ao:a≠o
 ai:a≠i
 aj:a≠j
 bz:b≠z
 bo:b≠o
 bi:b≠i
 bj:b≠j
structure ZAt(k l:Bool)(h:Heap)(z p o i j a b:Addr)(m:Nat)(xs ys:Array Value):Prop where
 hz:IsZip h z p o .none
 hp:IsPair h p (.ref i) (.ref j)
 ho:∃u v,IsPair h o u v
 hi:ItA k h i a m
 hj:ItA l h j b m
 ha:SqA k h a xs
 hb:SqA l h b ys
theorem EQ{i:Addr}{y:Value}{x1}{Q:Unit->Shared->Prop}(D:ZAp z p o i j a b)(Z:ZAt k l s.heap z p o i j a b m xs ys)(hx:xs[m]?=some x)(hy:ys[m]?=some y)
  (q:∀h',ZAt k l h' z p o i j a b (m+1) xs ys->IsPair h' s.heap.objs.size x y->h'.objs.size=s.heap.objs.size+1->(∀c u,c≠z->c≠o->c≠i->c≠j->s.heap.get? c=some u->h'.get? c=some u)->Q () { s with heap:=h' }) :
  wpAny (model prog w) A (pyNext (.ref z)) (λr s1=>∃u,r=some u/\u=.ref s.heap.objs.size/\wpAny (model prog w) A (letOwnedTupleGo (.Tuple elts x1 pos) (.ref z) u) Q E s1) E s:=by
 obtain⟨hz,hp,⟨u,v,ho⟩,hi,hj,ha,hb⟩:=Z;have hT:s.TypeIs (.ref z) "zip":=⟨_,hz,rfl⟩;unfold pyNext;refine GX (wpAny_attempt (wpAny_callSpecial?_slot (name:=Str.ofString "__next__") hT J2 (HZ J2 hT F.entry_zip_next ?_ (F.args_zip_next_1 _))));refine GX (m:=field (.ref z) 2) (Il hz rfl (x:=.bool false) rfl ?_);refine GX (m:=field (.ref z) 3) (Il hz rfl (x:=.ref p) rfl ?_);refine GX (Io hp rfl ?_);refine GX (m:=Builtin.SmallTypes.ownedTupleIsFree (.ref z)) ?_;unfold Builtin.SmallTypes.ownedTupleIsFree;refine GX (Il hz rfl (x:=.none) rfl (G2 ?_));simp only[if_true];refine GX (JZ (GX (Il hz rfl (x:=.ref o) rfl (GX (HE hz (by simp) λg1 z1 s1=>?_)))));replace z1:IsZip g1 z p o .ellipsis:=z1;refine GX ?_;simp only[List.zipIdx_cons,List.zipIdx_nil,List.forIn_cons,List.forIn_nil];refine GX (GX (wpAny_onRaise ?_));have k1:∀c u,c≠z->s.heap.get? c=some u->g1.get? c=some u:=λc u n e=>s1.extBut _ _ n e;refine GX (m:=Builtin.SmallTypes.nextOf (.ref i)) (zJ (hi.keep λu e=>k1 _ u D.zi e) (ha.keep λu e=>k1 _ u D.az e) hx λg2 i2 s2=>G2 ?_);have k2:∀c u,c≠i->g1.get? c=some u->g2.get? c=some u:=λc u n e=>s2.extBut _ _ n e;have o2:IsPair g2 o u v:=k2 _ _ D.oi (k1 _ _ D.zo ho);refine GX (Io o2 rfl (GX (JW o2 λg3 o3 s3=>GX (wpAny_letGo (G2 ?_)))));replace o3:IsPair g3 o x v:=o3;have k3:∀c u,c≠o->g2.get? c=some u->g3.get? c=some u:=λc u n e=>s3.extBut _ _ n e;refine GX (GX (wpAny_onRaise ?_));refine GX (m:=Builtin.SmallTypes.nextOf (.ref j)) (zJ (hj.keep λu e=>k3 _ u D.oj.symm (k2 _ u D.ij.symm (k1 _ u D.zj e))) (hb.keep λu e=>k3 _ u D.bo (k2 _ u D.bi (k1 _ u D.bz e))) hy λg4 j4 s4=>G2 ?_)
 have k4:∀c u,c≠j->g3.get? c=some u->g4.get? c=some u:=λc u n e=>s4.extBut _ _ n e
 have o4:IsPair g4 o x v:=k4 _ _ D.oj o3
 refine GX (Io o4 rfl (GX (JW o4 λg5 o5 s5=>GX (wpAny_letGo (G2 (G2 ?_))))));replace o5:IsPair g5 o x y:=o5;have k5:∀c u,c≠o->g4.get? c=some u->g5.get? c=some u:=λc u n e=>s5.extBut _ _ n e;refine GX (Io o5 rfl (GX (wpAny_newTuple ?_)));have hsz:g5.objs.size=s.heap.objs.size:=by rw[s5.1,s4.1,s3.1,s2.1,s1.1]
 have z5:IsZip g5 z p o .ellipsis:=k5 _ _ D.zo.symm (k4 _ _ D.zj.symm (k3 _ _ D.zo.symm (k2 _ _ D.zi.symm z1)))
 have kk:∀c u,c≠z->c≠o->c≠i->c≠j->s.heap.get? c=some u->g5.get? c=some u:=λc u n1 n2 n3 n4 e=>k5 _ _ n2 (k4 _ _ n4 (k3 _ _ n2 (k2 _ _ n3 (k1 _ _ n1 e))))
 have i5:ItA k g5 i a (m+1):=i2.keep λu e=>k5 _ u D.oi.symm (k4 _ u D.ij (k3 _ u D.oi.symm e))
 have j5:ItA l g5 j b (m+1):=j4.keep λu e=>k5 _ u D.oj.symm e
 have lz:=Hk z5
 refine GX (m:=Builtin.SmallTypes.ownedTupleHandOut (.ref z) (.ref g5.objs.size)) ?_;unfold Builtin.SmallTypes.ownedTupleHandOut;have z6:IsZip (g5.push { cls:=.type "tuple",data:=.seq #[x,y] }) z p o .ellipsis:=Heap.get?_push_of_some _ z5;refine GX (HE z6 (by simp) λg7 z7 s7=>?_);replace z7:IsZip g7 z p o (rawInt g5.objs.size):=z7;refine HE z7 (by simp) λg8 z8 s8=>?_;replace z8:IsZip g8 z p o (rawInt g5.objs.size):=z8;have k8:∀c u,c≠z->g5.get? c=some u->g8.get? c=some u:=λc u n e=>s8.extBut _ _ n (s7.extBut _ _ n (Heap.get?_push_of_some _ e));have t8:IsPair g8 g5.objs.size x y:=s8.extBut _ _ (IY lz) (s7.extBut _ _ (IY lz) (Heap.get?_push_size _ rfl));have n8:g8.objs.size=g5.objs.size+1:=by rw[s8.1,s7.1,Ik]
 rw[hsz] at z8 t8 n8;refine G2 ⟨_,rfl,G2 ⟨_,rfl,IB Value.ref hsz,?_⟩⟩;show wpAny (model prog w) A (letOwnedTupleGo (.Tuple elts x1 pos) (.ref z) (.ref g5.objs.size)) Q E _;rw[hsz];refine wpAny_letOwnedTupleGo_zip z8 λg9 z9 s9=>?_;have k9:∀c u,c≠z->g8.get? c=some u->g9.get? c=some u:=λc u n e=>s9.extBut _ _ n e;have up:∀c u,c≠z->g5.get? c=some u->g9.get? c=some u:=λc u n e=>k9 _ _ n (k8 _ _ n e);refine q g9 ⟨z9,up _ _ D.zp (kk _ _ D.zp D.po D.pi D.pj hp),⟨x,y,up _ _ D.zo o5⟩,i5.keep λu e=>up _ u D.zi e,j5.keep λu e=>up _ u D.zj e,ha.keep λu e=>up _ u D.az (kk _ _ D.az D.ao D.ai D.aj e),hb.keep λu e=>up _ u D.bz (kk _ _ D.bz D.bo D.bi D.bj e)⟩ ?_ ?_ λc u n1 n2 n3 n4 e=>up c u n1 (kk c u n1 n2 n3 n4 e)
 ·exact k9 _ _ (by rw[<- hsz];exact IY lz) t8
 ·rw[s9.1,n8]
theorem FW{i:Addr}{Q:Option Value->Shared->Prop}(a0:A.handled=none)(D:ZAp z p o i j a b)(Z:ZAt k l s.heap z p o i j a b m xs ys)(hend:xs[m]?=none\/ys[m]?=none)
  (q:∀h',(∀c u,c≠z->c≠o->c≠i->c≠j->s.heap.get? c=some u->h'.get? c=some u)->Q none { s with heap:=h' }):wpAny (model prog w) A (pyNext (.ref z)) Q E s:=by
 obtain⟨hz,hp,⟨u,v,ho⟩,hi,hj,ha,hb⟩:=Z;have hT:s.TypeIs (.ref z) "zip":=⟨_,hz,rfl⟩;unfold pyNext;have fin:∀(g:Heap) (e:Addr),(∀c u,c≠z->c≠o->c≠i->c≠j->s.heap.get? c=some u->g.get? c=some u)->(∃o,g.get? e=some o/\o.cls=.type "StopIteration") ->
   wpAny (model prog w) A (do if<-isInstance (.ref e) (.type "StopIteration") then pure (none:Option Value) else throw (.ref e)) Q E { s with heap:=g }:=λg e kk ⟨oe,h1,h2⟩ =>
  GX (wpAny_isInstance (T:="StopIteration") (b:=true) ⟨oe,h1,h2⟩ isSubtype_stop (G2 (q _ kk)))
 refine GX (wpAny_attempt (wpAny_callSpecial?_slot (name:=Str.ofString "__next__") hT J2 (HZ J2 hT F.entry_zip_next ?_ (F.args_zip_next_1 _))));refine GX (m:=field (.ref z) 2) (Il hz rfl (x:=.bool false) rfl ?_);refine GX (m:=field (.ref z) 3) (Il hz rfl (x:=.ref p) rfl ?_);refine GX (Io hp rfl ?_);refine GX (m:=Builtin.SmallTypes.ownedTupleIsFree (.ref z)) ?_;unfold Builtin.SmallTypes.ownedTupleIsFree;refine GX (Il hz rfl (x:=.none) rfl (G2 ?_));simp only[if_true];refine GX (JZ (GX (Il hz rfl (x:=.ref o) rfl (GX (HE hz (by simp) λg1 z1 s1=>?_)))));replace z1:IsZip g1 z p o .ellipsis:=z1;refine GX ?_;simp only[List.zipIdx_cons,List.zipIdx_nil,List.forIn_cons,List.forIn_nil];refine GX (GX (wpAny_onRaise ?_));have k1:∀c u,c≠z->s.heap.get? c=some u->g1.get? c=some u:=λc u n e=>s1.extBut _ _ n e;have i1:=hi.keep λu e=>k1 _ u D.zi e;have a1:=ha.keep λu e=>k1 _ u D.az e
 cases hx:xs[m]? with
 | none =>
  refine GX (m:=Builtin.SmallTypes.nextOf (.ref i)) (l9 a0 i1 a1 hx λg2 e s2 he=>?_);obtain⟨oe,hoe,hce⟩:=he;have z2:IsZip g2 z p o .ellipsis:=s2 _ _ D.zi.symm z1;have hez:e≠z:=λx=>by subst x;rw[z2] at hoe;cases hoe;simp at hce
  exact HE z2 (by simp) λg3 _ s3=>fin g3 e (λc u n1 _ n3 _ x=>s3.extBut _ _ n1 (s2 _ _ n3 (k1 _ _ n1 x))) ⟨oe,s3.extBut _ _ hez hoe,hce⟩
 | some x =>
  have hy:ys[m]?=none:=by rcases hend with h | h;rw[hx] at h;cases h;exact h
  refine GX (m:=Builtin.SmallTypes.nextOf (.ref i)) (zJ i1 a1 hx λg2 i2 s2=>G2 ?_);have k2:∀c u,c≠i->g1.get? c=some u->g2.get? c=some u:=λc u n e=>s2.extBut _ _ n e;have o2:IsPair g2 o u v:=k2 _ _ D.oi (k1 _ _ D.zo ho);refine GX (Io o2 rfl (GX (JW o2 λg3 o3 s3=>GX (wpAny_letGo (G2 ?_)))));have k3:∀c u,c≠o->g2.get? c=some u->g3.get? c=some u:=λc u n e=>s3.extBut _ _ n e;refine GX (GX (wpAny_onRaise ?_));refine GX (m:=Builtin.SmallTypes.nextOf (.ref j)) (l9 a0 (hj.keep λu e=>k3 _ u D.oj.symm (k2 _ u D.ij.symm (k1 _ u D.zj e))) (hb.keep λu e=>k3 _ u D.bo (k2 _ u D.bi (k1 _ u D.bz e))) hy λg4 e s4 he=>?_);obtain⟨oe,hoe,hce⟩:=he;have z4:IsZip g4 z p o .ellipsis:=s4 _ _ D.zj.symm (k3 _ _ D.zo.symm (k2 _ _ D.zi.symm z1));have hez:e≠z:=λx=>by subst x;rw[z4] at hoe;cases hoe;simp at hce
  exact HE z4 (by simp) λg5 _ s5=>fin g5 e (λc u n1 n2 n3 n4 x=>s5.extBut _ _ n1 (s4 _ _ n4 (k3 _ _ n2 (k2 _ _ n3 (k1 _ _ n1 x))))) ⟨oe,s5.extBut _ _ hez hoe,hce⟩
abbrev zh(k l:Bool)(h:Heap)(a b:Addr):Heap:=((((h.push { cls:=.type (if k then "list_iterator" else "tuple_iterator"),data:=.fields #[.ref a,.int 0 0] }).push { cls:=.type (if l then "list_iterator" else "tuple_iterator"),data:=.fields #[.ref b,.int 0 0] }).push
 { cls:=.type "tuple",data:=.seq #[.ref h.objs.size,.ref (h.objs.size+1)] }).push { cls:=.type "tuple",data:=.seq #[.none,.none] }).push { cls:=.type "zip",data:=.fields #[.none,.bool false,.bool false,.ref (h.objs.size+2),.ref (h.objs.size+3)] }
def Dm(k l:Bool)(a b:Addr)(xs ys:Array Value):Meets (Builtin.«zip.__new__» ⟨[.type "zip",.ref a,.ref b],[]⟩) (λ_ R s=>SqA k s.heap a xs/\SqA l s.heap b ys/\R (.ok (.ret (.ref (s.heap.objs.size+4)))) { s with heap:=zh k l s.heap a b }) :=
 .of_wp λprog w A R s h=>by
  obtain⟨hp,g,d,tk,os⟩:=s;obtain⟨a1,a2,h⟩:=h;have hsub:=sub_zip;have b1:SqA k (Shared.heap ⟨hp,g,d,tk,os⟩) a xs:=a1;have b2:SqA l (Shared.heap ⟨hp.push { cls:=.type (if k then "list_iterator" else "tuple_iterator"),data:=.fields #[.ref a,.int 0 0] },g,d,tk,os⟩) b ys:=SqA.keep a2 λo e=>Heap.get?_push_of_some _ e
  wp_walk using yr b1,yr b2
  refine⟨_,rfl,?_⟩;simp only[Heap.size_push];exact h
theorem Gj(a1:SqA k s.heap a xs)(a2:SqA l s.heap b ys)
  (h:ZAt k l (zh k l s.heap a b) (s.heap.objs.size+4) (s.heap.objs.size+2) (s.heap.objs.size+3) s.heap.objs.size (s.heap.objs.size+1) a b 0 xs ys->(∀c o,s.heap.get? c=some o->(zh k l s.heap a b).get? c=some o)->Q (.ref (s.heap.objs.size+4)) { s with heap:=zh k l s.heap a b }) :
  wpAny (model prog w) A (call (.type "zip") [.ref a,.ref b]) Q E s:=by
 refine callType_new F.called_zip (by decide) (F.typeCall_zip_2 _ _) (F.newCall_zip_2 _ _) (λobj=>F.args_object_init_3 obj _ _) F.entry_zip_new (Dm k l a b xs ys) ⟨a1,a2,?_⟩;have up:∀c o,s.heap.get? c=some o->(zh k l s.heap a b).get? c=some o:=λc o e=>Heap.get?_push_of_some _ (Heap.get?_push_of_some _ (Heap.get?_push_of_some _ (Heap.get?_push_of_some _ (Heap.get?_push_of_some _ e))));have sz:∀(h:Heap) (o:Obj) (n:Nat),h.objs.size=n->o.isFreed=false->(h.push o).get? n=some o:=λh o n e f=>by rw[<- e];exact Heap.get?_push_size _ f
 have e4:(zh k l s.heap a b).get? (s.heap.objs.size+4)=some _:=sz _ _ _ (by simp only[Heap.size_push]) rfl
 have e3:(zh k l s.heap a b).get? (s.heap.objs.size+3)=some _:=Heap.get?_push_of_some _ (sz _ _ _ (by simp only[Heap.size_push]) rfl)
 have e2:(zh k l s.heap a b).get? (s.heap.objs.size+2)=some _:=Heap.get?_push_of_some _ (Heap.get?_push_of_some _ (sz _ _ _ (by simp only[Heap.size_push]) rfl))
 have e1:(zh k l s.heap a b).get? (s.heap.objs.size+1)=some _:=Heap.get?_push_of_some _ (Heap.get?_push_of_some _ (Heap.get?_push_of_some _ (sz _ _ _ (by simp only[Heap.size_push]) rfl)))
 have e0:(zh k l s.heap a b).get? s.heap.objs.size=some _:=Heap.get?_push_of_some _ (Heap.get?_push_of_some _ (Heap.get?_push_of_some _ (Heap.get?_push_of_some _ (Heap.get?_push_size _ rfl))))
 have i0:ItA k (zh k l s.heap a b) s.heap.objs.size a 0:=by
  cases k
  ·exact⟨_,e0,rfl,rfl⟩
  ·exact⟨_,e0,rfl,rfl⟩
 have i1:ItA l (zh k l s.heap a b) (s.heap.objs.size+1) b 0:=by
  cases l
  ·exact⟨_,e1,rfl,rfl⟩
  ·exact⟨_,e1,rfl,rfl⟩
 exact⟨⟨_,e4,rfl⟩,h ⟨e4,e2,⟨_,_,e3⟩,i0,i1,a1.keep λo e=>up _ o e,a2.keep λo e=>up _ o e⟩ up⟩
theorem ZAp.new{n a b:Nat}(h1:a<n)(h2:b<n):ZAp (n+4) (n+2) (n+3) n (n+1) a b:=by
 constructor<;>(intro e;have e:(_:Nat)=_:=e;omega)
end
theorem lq{t':Nat}{fp:List Addr}(I:Inv X pins σ H s)(k:∀b o,b∉fp->s.heap.get? b=some o->h'.get? b=some o)(hf:∀b∈fp,xo X pins H b) :
  Inv X pins σ H { s with heap:=h',toks:=t' }:=by
 have nit:∀b u,H b=some u->b∉fp:=λb u e z=>by rw[(hf b z).1] at e;cases e
 refine I.step (g':=s.gens) (d':=s.drawn) (ch:=fp) (λb hb=>?_) (λb o _ _ hc e _=>k b o hc e) (λb o _ _ hc e _=>⟨o.slots,k b o hc e⟩) (λ_ _ _ _ n=>n)
  (λb o hc e=>⟨o,k b o hc e⟩) (λ_ _ e=>e) (λ_ _ _ e=>e) (λb ps e=>⟨#[],by rw[e];simp⟩) (λm hm=>?_) (λb u e=>?_) I.bare
 ·obtain⟨f0,f1,f2,f3,f4,f5⟩:=hf b hb;exact⟨f3,f1,f4,f5⟩
 ·obtain⟨o,es,ep,ho,r⟩:=hm;exact⟨o,es,ep,k _ o (λz=>(hf _ z).2.1 rfl) ho,r⟩
 ·refine(I.hok b u e).stay (λc v hc q=>k c v ?_ q) (λ_ q=>q) λ_ _ q=>q
  rcases hc with z | z
  ·rw[z];exact nit b u e
  ·exact nit c _ z
def SqV(k:Bool)(K:PySem.W.Frag)(H:Hp)(a:Addr)(xs:List V):Prop:=match k with | true=>Gz K H a xs | false=>Gy K H a xs
theorem SqV.at{xs:List V}(I:Inv X pins σ H s)(h:SqV k X.K H a xs):∃its:List Value,bn xs its/\SqA k s.heap a its.toArray:=by
 cases k
 ·obtain⟨its,r,p,_⟩:=I.tuple h;exact⟨its,r,p⟩
 ·obtain⟨its,r,p,_⟩:=I.list h;exact⟨its,r,p.isList⟩
theorem SqV.inj{xs ys:List V}(I:Inv X pins σ H s)(h:SqV k X.K H a xs)(h':SqV k X.K H a ys):xs=ys:=by
 cases k
 ·exact I.tuple_inj h h'
 ·exact I.list_inj h h'
def Itz(K:PySem.W.Frag)(k l:Bool)(a b:Addr):It :=
  ⟨λi H=>∃xs ys x y,SqV k K H a xs/\SqV l K H b ys/\xs[i]?=some x/\ys[i]?=some y,
   λi H v H'=>∃T x y,H T=none/\H'=GC H T (.tup [x,y])/\v=.ref T/\(∀xs,SqV k K H a xs->xs[i]?=some x)/\∀ys,SqV l K H b ys->ys[i]?=some y,
   λi H=>∃xs ys,SqV k K H a xs/\SqV l K H b ys/\(xs.length<=i\/ys.length<=i)⟩
structure ZI(k l:Bool)(h:Heap)(z p o i j a b:Addr)(m:Nat):Prop where
 hz:IsZip h z p o .none
 hp:IsPair h p (.ref i) (.ref j)
 ho:∃u v,IsPair h o u v
 hi:ItA k h i a m
 hj:ItA l h j b m
def ZAt.zi{i:Addr}(Z:ZAt k l h z p o i j a b m xs ys):ZI k l h z p o i j a b m:=⟨Z.hz,Z.hp,Z.ho,Z.hi,Z.hj⟩
theorem wH{P:Program}{w:World}{K:PySem.W.Frag}{x1}{i:Addr}(D:ZAp z p o i j a b) :
  yW P w K (.Tuple elts x1 pos) (Itz K k l a b) [z,p,o,i,j] z (λm h=>ZI k l h z p o i j a b m) where
 mem:=by simp
 obj:=λm h Z c hc=>by
  simp only[List.mem_cons,List.not_mem_nil,or_false] at hc
  rcases hc with rfl | rfl | rfl | rfl | rfl
  ·exact⟨_,Z.hz,λv=>nofun⟩
  ·exact⟨_,Z.hp,λv=>nofun⟩
  ·obtain⟨u,v,e⟩:=Z.ho;exact⟨_,e,λv=>nofun⟩
  ·obtain⟨q,e,_,d⟩:=Z.hi.obj;exact⟨q,e,λv=>by rw[d];nofun⟩
  ·obtain⟨q,e,_,d⟩:=Z.hj.obj;exact⟨q,e,λv=>by rw[d];nofun⟩
 keep:=λm h h' Z kk=>⟨kk _ (by simp) _ Z.hz,kk _ (by simp) _ Z.hp,(by obtain⟨u,v,e⟩:=Z.ho;exact⟨u,v,kk _ (by simp) _ e⟩),Z.hi.keep λq e=>kk _ (by simp) q e,Z.hj.keep λq e=>kk _ (by simp) q e⟩
 item:=by
  intro X hP hw hK hc m pins s σ H E I hf Z hg;subst hP hw hK;obtain⟨xs,ys,x,y,h1,h2,hx,hy⟩:=hg;obtain⟨is,r1,p1⟩:=SqV.at I h1;obtain⟨js,r2,p2⟩:=SqV.at I h2;obtain⟨u,hu,ru⟩:=r1.get hx;obtain⟨v,hv,rv⟩:=r2.get hy;refine GE (EQ (E:=E) (Q:=λ_ s2=>∃x H',Inv X pins σ H' s2/\bx x (.ref s.heap.objs.size)/\(Itz X.K k l a b).yld m H x H'/\ZI k l s2.heap z p o i j a b (m+1)/\∀b∈[z,p,o,i,j],H' b=none) (elts:=elts) (x1:=x1) (pos:=pos) D ⟨Z.hz,Z.hp,Z.ho,Z.hi,Z.hj,p1,p2⟩ (x:=u) (y:=v) (by simpa using hu) (by simpa using hv) λh' Z' t' n' kk=>?_) λr s1 ⟨u',e1,e2,q⟩=>⟨u',e1,by subst e2;exact q⟩;have hfr:H s.heap.objs.size=none:=I.hok.fresh (G3 _);have I1:Inv X pins σ (GC H s.heap.objs.size (.tup [x,y])) { s with heap:=s.heap.push { cls:=.type "tuple",data:=.seq #[u,v] } }:=I.laid (t':=s.toks) (λb u e=>Heap.get?_push_of_some _ e) (G3 _) ⟨by show 2<=sizeLine;decide,[u,v],.cons ru (.cons rv .nil),⟨_,Heap.get?_push_size _ rfl,rfl,_,rfl⟩⟩;have lt:∀c∈[z,p,o,i,j],c≠s.heap.objs.size:=λc hc=>by
   have:∃q,s.heap.get? c=some q:=by
    simp only[List.mem_cons,List.not_mem_nil,or_false] at hc
    rcases hc with rfl | rfl | rfl | rfl | rfl
    ·exact⟨_,Z.hz⟩
    ·exact⟨_,Z.hp⟩
    ·obtain⟨u,v,e⟩:=Z.ho;exact⟨_,e⟩
    ·obtain⟨q,e,_⟩:=Z.hi.obj;exact⟨q,e⟩
    ·obtain⟨q,e,_⟩:=Z.hj.obj;exact⟨q,e⟩
   obtain⟨q,e⟩:=this;exact Hz (Hk e)
  have fr:∀c∈[z,p,o,i,j],GC H s.heap.objs.size (.tup [x,y]) c=none:=λc hc=>by rw[aH (lt c hc)];exact(hf c hc).1
  have I2:Inv X pins σ (GC H s.heap.objs.size (.tup [x,y])) { s with heap:=h' }:=lq (s:={ s with heap:=s.heap.push { cls:=.type "tuple",data:=.seq #[u,v] } }) (t':=s.toks) (fp:=[z,p,o,i,j]) I1 (λc q hc e=>?_) λc hc=>⟨fr c hc,(hf c hc).2⟩
  ·exact⟨.ref s.heap.objs.size,_,I2,rfl,⟨_,x,y,hfr,rfl,rfl,λzs hz=>by rw[SqV.inj I hz h1];exact hx,λzs hz=>by rw[SqV.inj I hz h2];exact hy⟩,Z'.zi,fr⟩
  ·rcases Heap.get?_push_cases e with⟨rfl,rfl⟩ | e
   ·exact t'
   ·exact kk c q (λz=>hc (by simp[z])) (λz=>hc (by simp[z])) (λz=>hc (by simp[z])) (λz=>hc (by simp[z])) e
 done:=by
  intro X hP hw hK hc m pins s σ H E I hf Z hg;subst hP hw hK;obtain⟨xs,ys,h1,h2,hl⟩:=hg;obtain⟨is,r1,p1⟩:=SqV.at I h1;obtain⟨js,r2,p2⟩:=SqV.at I h2;have l1:=r1.length;have l2:=r2.length;refine FW (I.ok.hd hc) D ⟨Z.hz,Z.hp,Z.ho,Z.hi,Z.hj,p1,p2⟩ (hl.imp (λh=>by simp;omega) λh=>by simp;omega) λh' kk=>⟨rfl,lq (t':=s.toks) (fp:=[z,p,o,i,j]) I (λc q hc e=>?_) hf⟩;exact kk c q (λz=>hc (by simp[z])) (λz=>hc (by simp[z])) (λz=>hc (by simp[z])) (λz=>hc (by simp[z])) e
 self:=λ_ _ _ _ _ Z h=>wpAny_pyIter_zip Z.hz h
section
variable {X:Cx}
def iZip(K:PySem.W.Frag)(k l:Bool)(ta:TA):TI:=λσ H R=>ta σ H λvs H1=>∃a b,vs=[.ref a,.ref b]/\(∃xs,SqV k K H1 a xs)/\(∃ys,SqV l K H1 b ys)/\R (Itz K k l a b) H1
theorem Eg{a b:Expr}{ta:TA}{p:Pos}{x1}{pos':Pos}(hg:Gl X "zip")(hm:X.mg "zip"=none)(ha:PA X [a,b] ta)(hs:starEach [a,b] X.env=[(false,eval a X.env),(false,eval b X.env)]:=by rfl)(hs2:starEach [b] X.env=[(false,eval b X.env)]:=by rfl) :
  PI X (.Tuple elts x1 pos') (.Call (.Name "zip" p) [a,b] [] pos) (iZip X.K k l ta):=by
 intro pins s σ H R I h;refine Call_ (gd I hg hm boot_zip (HY (GE (ha pos pins s σ H _ I h) λus s1 ⟨vs,H1,I1,r1,q1⟩=>?_) (by rw[hs,hs2]) (by rw[hs2];rfl)));obtain⟨c,d,e,⟨xs,hx⟩,⟨ys,hy⟩,q⟩:=q1;subst e
 cases r1 with
 | cons r rr =>
  cases rr with
  | cons r' rr =>
   cases rr
   cases r
   cases r'
   obtain⟨is,_,p1⟩:=SqV.at I1 hx;obtain⟨js,_,p2⟩:=SqV.at I1 hy;refine Gj p1 p2 λZ up=>wpAny_pyIter_zip Z.hz ?_;have lt:∀ {k:Bool} {c:Addr} {zs:Array Value},SqA k s1.heap c zs->c<s1.heap.objs.size:=λh=>let ⟨_,e,_⟩:=h.there;Hk e;refine⟨_,_,_,_,H1,rfl,I1.kept (t':=s1.toks) up,wH (ZAp.new (lt p1) (lt p2)),Z.zi,λb hb=>?_,q⟩;have hb:s1.heap.objs.size<=b:=by
    simp only[List.mem_cons,List.not_mem_nil,or_false] at hb
    rcases hb with rfl | rfl | rfl | rfl | rfl
    ·exact Jr ..
    ·exact Jr ..
    ·exact Jr ..
    ·exact G3 _
    ·exact Jr ..
   exact I1.fpOk hb (I1.hok.fresh hb)
end
def sq(k:Bool)(xs:List D):D:=match k with | true=>.lst xs | false=>.tup xs
def nq(xs ys:List D):List D:=List.zipWith (λx y=>D.tup [x,y]) xs ys
def qS:Bool->D->(List D->Prop)->Prop
 | true,d,k=>qL d k
 | false,d,k=>qT d k
theorem qS.ex{b:Bool}{d:D}{k:List D->Prop}(h:qS b d k):∃xs,d=sq b xs/\k xs:=by
 cases b
 ·exact qT.ex h
 ·exact qL.ex h
def DQ(k l:Bool)(t:TDA)(δ:En)(R:List D->En->Prop):Prop:=t δ λds δ1=>qC ds λx r=>qC r λy r=>qN r <| qS k x λxs=>qS l y λys=>R (nq xs ys) δ1
section
variable {X:Cx} {ta:TDA}
theorem vA{K:PySem.W.Frag}{M:Addr->Prop}{xs:List D}{v:V}(h:GU K M H (sq k xs) v):∃a vs,v=.ref a/\SqV k K H a vs/\Reps K M H xs vs:=by
 cases k
 ·unfold sq GU at h;exact h
 ·unfold sq GU at h;obtain⟨a,vs,e,_,l,r⟩:=h;exact⟨a,vs,e,Gz.of l,r⟩
theorem kh(k l:Bool){a b:Expr}{p:Pos}{x1}{pos':Pos}(hg:Gl X "zip")(hm:X.mg "zip"=none)(ha:DA X [a,b] ta)(hs:starEach [a,b] X.env=[(false,eval a X.env),(false,eval b X.env)]:=by rfl)(hs2:starEach [b] X.env=[(false,eval b X.env)]:=by rfl) :
  CI X (.Tuple elts x1 pos') (.Call (.Name "zip" p) [a,b] [] pos) (DQ k l ta) :=
 ⟨_,Eg (k:=k) (l:=l) hg hm ha hs hs2,λG δ P σ H R Q s hs kk=>⟨G,δ,P,_,s,hs,λds δ1 h1 vs H1 hl s1=>by
  replace h1:=qC.ex h1;obtain⟨x,r,e,h1⟩:=h1;replace h1:=qC.ex h1;obtain⟨y,r',e',h1⟩:=h1;replace h1:=qN.ex h1;obtain⟨e2,h1⟩:=h1;replace h1:=qS.ex h1;obtain⟨xs,e3,h1⟩:=h1;replace h1:=qS.ex h1;obtain⟨ys,e4,r⟩:=h1;subst e4 e3 e2 e' e
  match vs,hl with
  | [v,w],_ =>
   have s2:S X.K G δ1 ((sq k xs,v)::(sq l ys,w)::P) σ H1:=s1
   have at1:∀A δ σ H,Sx X.K G A δ ((sq k xs,v)::(sq l ys,w)::P) σ H->∃a vs,v=.ref a/\SqV k X.K H a vs/\Reps X.K (λb=>G.M0 b\/A b) H xs vs:=λA δ σ H x=>vA (x.pnd (sq k xs,v) (by simp))
   have at2:∀A δ σ H,Sx X.K G A δ ((sq k xs,v)::(sq l ys,w)::P) σ H->∃a vs,w=.ref a/\SqV l X.K H a vs/\Reps X.K (λb=>G.M0 b\/A b) H ys vs:=λA δ σ H x=>vA (x.pnd (sq l ys,w) (by simp))
   obtain⟨A1,x1⟩:=id s2;obtain⟨a,vs0,rfl,l0,_⟩:=at1 _ _ _ _ x1;obtain⟨b,ws0,rfl,m0,_⟩:=at2 _ _ _ _ x1;have hlen:(nq xs ys).length=min xs.length ys.length:=by unfold nq;rw[List.length_zipWith]
   refine⟨a,b,rfl,⟨vs0,l0⟩,⟨ws0,m0⟩,kk _ δ1 r _ _ H1 (λq hq=>by simp[hq]) s2 (λA δ σ i H x hi=>?_) (λA δ σ H x=>?_) λA δ σ i y H H2 x hi hy=>?_⟩
   ·obtain⟨_,vs,e,l,r⟩:=at1 _ _ _ _ x
    cases e
    obtain⟨_,ws,e,l2,r2⟩:=at2 _ _ _ _ x
    cases e
    obtain⟨v',hv,_⟩:=Reps.get _ _ r i (xs[i]'(by omega)) (by simp);obtain⟨w',hw,_⟩:=Reps.get _ _ r2 i (ys[i]'(by omega)) (by simp);exact⟨vs,ws,v',w',l,l2,hv,hw⟩
   ·obtain⟨_,vs,e,l,r⟩:=at1 _ _ _ _ x
    cases e
    obtain⟨_,ws,e,l2,r2⟩:=at2 _ _ _ _ x
    cases e
    have:=Reps.length _ _ r
    have:=Reps.length _ _ r2
    exact⟨vs,ws,l,l2,by omega⟩
   ·obtain⟨_,vs,e,l,r⟩:=at1 _ _ _ _ x
    cases e
    obtain⟨_,ws,e,l2,r2⟩:=at2 _ _ _ _ x
    cases e
    obtain⟨T,x',y',hT,rfl,rfl,hx,hy⟩:=hy;have hi1:i<xs.length:=by omega
    have hi2:i<ys.length:=by omega
    obtain⟨v',hv,rv⟩:=Reps.get _ _ r i xs[i] (by simp[hi1]);obtain⟨w',hw,rw'⟩:=Reps.get _ _ r2 i ys[i] (by simp[hi2]);have e1:=hx vs l;have e2:=hy ws l2;rw[hv] at e1;rw[hw] at e2;have e1:=Hg e1;have e2:=Hg e2;rw[e1] at rv;rw[e2] at rw';have sm:b9 H (GC H T (.tup [x',y'])):=aI hT _;refine⟨sm,.tup [xs[i],ys[i]],?_,?_⟩
    ·unfold nq;rw[List.getElem?_zipWith,List.getElem?_eq_getElem hi1,List.getElem?_eq_getElem hi2]
    ·unfold GU
     exact⟨T,[x',y'],rfl,.inl (.inl aC),Reps.cons (GU.kp (Kp.of_same sm) _ _ rv) (Reps.one (GU.kp (Kp.of_same sm) _ _ rw'))⟩⟩⟩
end
def dFor(src:TDC)(g:TDG)(tb:TDS)(R:a6)(δ:En):Prop:=src δ λxs δ1=>∃I:Nat->En->Prop,I 0 δ1 /\
 (∀i x δ',xs[i]?=some x->I i δ'->g x δ' (tb { R with nx:=I (i+1),ct:=I (i+1),bk:=R.nx,tp:=False }))/\∀δ',I xs.length δ'->R.nx δ'
def exsP{K:PySem.W.Frag}{G:Gf}{P P1:List (D×V)}{W:XK}{R:Str->Str->D->Prop}(hP:∀p∈P,p∈P1)(k:∀c f d,R c f d->∀e C dx δ' σ' H',S K G δ' ((.exn c f d,.ref e)::P) σ' H'->H' e=some (XAt e C dx)->W (.ref e) (some dx) H') :
  ∀c f d,R c f d->∀e C dx δ' σ' H',S K G δ' ((.exn c f d,.ref e)::P1) σ' H'->H' e=some (XAt e C dx)->W (.ref e) (some dx) H':=λc f d r e C dx δ' σ' H' s=>k c f d r e C dx δ' σ' H' (s.sub λp hp=>by
 rcases G7.mp hp with rfl | hp
 ·simp
 ·simp[hP p hp])
theorem fY{tg e:Expr}{src:TDC}{g:TDG}{t:TDS}{body:List Stmt}(hp:PassesOwn (model X.prog X.w) X.A X.env X.xe)(hc:X.calm=true)(hi:CI X tg e src)(hg:DG X tg g)(hb:DSs X body t)(hs:∀x,foldedSetIterable e X.env x=pure x:=by intro _;rfl) :
  DS X (.For tg e body [] pos) (dFor src g t):=by
 obtain⟨wi,hi,hw⟩:=hi;refine PS.imp (qO hp hc hi hg hb hs) λE σ H ⟨G,δ,P,R,s,h,k1,k2,k3,k4⟩=>?_;refine hw G δ P σ H _ _ s h λxs δ1 ⟨I,i0,turn,fin⟩ J P1 H1 hP s1 hgo hst hyl=>?_;refine⟨λi m σ H=>m=xs.length-i/\i<=xs.length/\∃δ,I i δ/\S X.K G δ P1 σ H,⟨xs.length,by simp,Ie _,δ1,i0,s1⟩,?_⟩;rintro i m σ H ⟨rfl,hi,δ',ii,s'⟩;obtain⟨A,x⟩:=id s'
 by_cases hlt:i<xs.length
 ·refine .inr ⟨hgo A _ _ i H x hlt,λσ' H'=>∃δ',I (i+1) δ'/\S X.K G δ' P1 σ' H',λσ' H' ⟨δ',p',s'⟩=>⟨xs.length-(i+1),by omega,rfl,hlt,δ',p',s'⟩,λy H' hy=>?_⟩;obtain⟨sm,d,hd,rd⟩:=hyl A _ _ i y H H' x hlt hy;refine⟨G,δ',P1,d,_,⟨A,(x.same sm).push rd⟩,turn i d δ' hd ii,λδ2 h2 σ2 H2 s2=>?_⟩;refine⟨G,δ2,P1,_,s2,h2,λδ3 h3 σ3 H3 s3=>⟨δ3,h3,s3⟩,⟨λd δ3 h3 v3 σ3 H3 s3=>k2.1 d δ3 h3 v3 σ3 H3 (s3.sub λp hp=>?_),k2.2.1,exsP hP k2.2.2⟩,λδ3 h3 σ3 H3 s3=>k1 δ3 h3 σ3 H3 (s3.sub λp hp=>hP p hp),λδ3 h3 σ3 H3 s3=>⟨δ3,h3,s3⟩,λz=>z.elim⟩
  rcases G7.mp hp with rfl | hp
  ·simp
  ·simp[hP p hp]
 ·have e:i=xs.length:=by omega
  subst e;exact .inl ⟨hst A _ _ H x,k1 δ' (fin δ' ii) σ H (s'.sub λp hp=>hP p hp)⟩
end DL
namespace DL
open PySem PySem.Spec PyProof.Rows L2
section
variable {X:Cx}
def Dd(i:Nat)(tk tx:GS)(δ:En)(R:W->En->Prop):Prop:=qWD δ[i]? λ_ _ _=>tk δ (wd λz δ1=>tx δ1 (wd λx δ2=>Ar δ2[i]? λks ds=>qX z λy=>R (.d ((dAt ks ds y).getD x)) δ2))
variable {e f:Expr} {ta tb:GS} {pos:Pos}
theorem sZ(i:Nat){y:Str}{p apos cpos:Pos}(hu:X.A.units+64<cLine)(he:DE X e ta)(hf:DE X f tb)(hN:X.N[i]?=some y:=by rfl)(hv:Vis X.env.scope y:=by walk_at "v3")
  (hd:(y==("__debug__":Str))=false:=by decide) (hcd:(y==("__classdict__":Str))=false:=by decide) (m:M2 X (.Name y p) "get" apos e f cpos:=by exact⟨rfl,rfl,rfl,rfl⟩) :
  DE X (.Call (.Attribute (.Name y p) "get" apos) [e,f] [] cpos) (Dd i ta tb) :=
 PE.imp (v8 (by omega) (dF hN hv hd hcd) he hf m) λσ H Q ⟨G,δ,P,R,s,h1,k,_⟩=>let ⟨a,ks0,ds0,hi0,h1⟩:=qWD.ex h1;⟨.ref a,s.own hi0,a,rfl,by
  obtain⟨A,q⟩:=id s;obtain⟨_,aa,vs,hvs,l,rs⟩:=q.own i a _ hi0;exact .inl ⟨_,.inl hvs⟩,up.mk s h1 λz δ1 h2 v H1 s1=>up.mk s1 h2 λx δ2 h3 w H2 ⟨A,q⟩=>by
   replace h3:=Ar.ex q (s.own hi0) h3;obtain⟨ks,ds,hi,h3⟩:=h3;replace h3:=qX.ex h3;obtain⟨y,ez,r⟩:=h3;subst ez;obtain⟨_,aa,vs,hvs,l,rs⟩:=q.own i a _ hi;have p2:v=.str y:=bh (q.pnd (.str y,v) (by simp));have g:=qi.k (k:=Sum.inr y) hvs;rw[fV] at g;refine⟨_,by rw[p2];exact g,?_⟩
   cases ed:dAt ks ds y with
   | some d =>
    obtain⟨w',hw,rw'⟩:=(Reps.dAt y ks ds vs rs).1 d ed;rw[ed] at r;rw[hw];exact k d δ2 r w' H2 ⟨A,(q.sub (P':=P) λp hp=>by simp[hp]).push rw'⟩
   | none =>
    have hw:=(Reps.dAt y ks ds vs rs).2 ed
    rw[ed] at r;rw[hw]
    exact k x δ2 r w H2 ⟨A,q.sub λp hp=>by
     rcases G7.mp hp with rfl | hp
     ·simp
     ·simp[hp]⟩⟩
end
end DL
namespace DL
open PySem PyProof.Rows
open PySem PySem.Spec PyProof.Rows L2
end DL
namespace Mf
open PySem L2 DL
variable {ts:List (Str×Int)} {i X:Nat} {ks:List Str} {x n:Str} {F:Str→Int} {ps:List (Int×Int)}
def GQ(t:Str×Int):D:=.tup [.str t.1,.int t.2]
structure jP(names:List Str)(ts:List (Str×Int)):Prop where
 sub:(ts.map (·.1)).Sublist names
 nz:∀t∈ts,t.2≠0
 bits:∀t∈ts,Builtin.Int.intBits t.2<=10000
theorem c6{d:D}(h:(ts.map GQ)[i]?=some d):∃t,ts[i]?=some t/\d=.tup [.str t.1,.int t.2]:=by
 rw[List.getElem?_map] at h
 cases e:ts[i]? with
 | none=>rw[e] at h;cases h
 | some n=>rw[e] at h;exact⟨n,rfl,(Hg h).symm⟩
theorem aG{α:Type}{l:List α}{x:α}(h:l[i]?=some x):l.take (i+1)=l.take i++[x]:=by rw[List.take_add_one,h];rfl
inductive Kd where
 | least | more
def kdS:Kd->Str
 | .least=>"least"
 | .more=>"more"
def ie(k:Kd)(ts:List (Str×Int))(b:Int):D:=.tup [.str (kdS k),.tup (ts.map GQ),.int b]
theorem sX:∀ts:List (Str×Int),D.nds (ts.map GQ)=true
 | []=>rfl
 | t::r=>by rw[Hm];unfold D.nds;rw[sX r];rfl
theorem tG:∀ts:List (Str×Int),D.dps (ts.map GQ)<=1
 | []=>Ie _
 | t::r=>by
  rw[Hm];unfold D.dps;exact Nat.max_le.mpr ⟨by show 1<=1;decide,tG r⟩
def GJ(p:Int×Int):D:=.tup [.int p.1,.int p.2]
theorem nK:∀ps:List (Int×Int),D.nds (ps.map GJ)=true
 | []=>rfl
 | p::r=>by rw[Hm];unfold D.nds;rw[nK r];rfl
def sR(ks:List Str)(ps:List (Int×Int))(n:Str):Int×Int:=(dAt ks ps n).getD (0,1)
def pT(ks:List Str)(ps:List (Int×Int))(n:Str):Int:=(sR ks ps n).1
def pB(ks:List Str)(ps:List (Int×Int))(n:Str):Int:=(sR ks ps n).2
theorem tR{α β:Type}(f:α->β):∀(ks:List Str) (ps:List α) (n:Str),dAt ks (ps.map f) n=(dAt ks ps n).map f
 | [],ps,n=>by cases ps<;>rfl
 | k::ks,[],n=>rfl
 | k::ks,p::ps,n=>by
  show (if k=n then some (f p) else dAt ks (ps.map f) n)=(if k=n then some p else dAt ks ps n).map f
  by_cases e:k=n
  ·rw[Hh e,Hh e];rfl
  ·rw[He e,He e];exact tR f ks ps n
theorem t4{α:Type}:∀ {ks:List Str} {ps:List α} {n:Str} {p:α},dAt ks ps n=some p->p∈ps
 | [],ps,n,p,h=>by cases ps<;>cases h
 | k::ks,[],n,p,h=>by cases h
 | k::ks,x::ps,n,p,h=>by
  have h:(if k=n then some x else dAt ks ps n)=some p:=h
  by_cases e:k=n
  ·rw[Hh e] at h;cases h;exact G1 ..
  ·rw[He e] at h;exact GY _ (t4 h)
theorem jl{names:List Str}{d:D}(h:(names.map D.str)[i]?=some d):∃n,names[i]?=some n/\d=.str n:=by
 rw[List.getElem?_map] at h
 cases e:names[i]? with
 | none=>rw[e] at h;cases h
 | some n=>rw[e] at h;exact⟨n,rfl,(Hg h).symm⟩
theorem p9(h:x∉ks):jN ks x=ks++[x]:=by unfold jN;rw[He h]
theorem p8{ds:List D}{y:D}(h:x∉ks):lU ks ds x y=ds++[y]:=by unfold lU;rw[He h]
theorem wJ{l:List Str}(nd:l.Nodup)(h:l[i]?=some x):x∉l.take i:=by
 intro hm;obtain⟨j,hj,e⟩:=List.getElem_of_mem hm;rw[HI] at hj;rw[List.getElem_take] at e;obtain⟨hi,e2⟩:=List.getElem?_eq_some_iff.mp h;have:=(List.getElem_inj (h₀:=by omega) (h₁:=hi) nd).mp (e.trans e2.symm);omega
def tw{l:List Str}(h:l[i]?=some x):x∈l:=Hc h
theorem cB{α:Type}(f:Str->α):∀ {names:List Str} {n:Str},n∈names->dAt names (names.map f) n=some (f n)
 | x::r,n,h=>by
  show (if x=n then some (f x) else dAt r (r.map f) n)=_
  by_cases e:x=n
  ·rw[Hh e,e]
  ·rw[He e];exact cB f ((G7.mp h).resolve_left λz=>e z.symm)
abbrev Rw:=Kd×List (Str×Int)×Int
def Gu(r:Rw):D:=ie r.1 r.2.1 r.2.2
def cf:List (Str×Int)->Str->Int
 | [],_=>0
 | t::r,n=>(if t.1=n then t.2 else 0)+cf r n
def cfs:List (Rw×Int)->Str->Int
 | [],_=>0
 | p::r,n=>p.2*cf p.1.2.1 n+cfs r n
def bds:List (Rw×Int)->Int
 | []=>0
 | p::r=>p.2*p.1.2.2+bds r
def isM:Kd->Bool
 | .least=>false
 | .more=>true
def GI(l:List (Rw×Int)):Bool:=l.any λp=>isM p.1.1&&decide (0<p.2)
def kOf:Bool->Kd
 | true=>.more
 | false=>.least
theorem m7:∀ {a b:List (Str×Int)},cf (a++b) n=cf a n+cf b n
 | [],b=>(Jb _).symm
 | t::a,b=>by show _+cf (a++b) n=_+cf a n+_;rw[m7];omega
theorem ou:∀ {a b:List (Rw×Int)},cfs (a++b) n=cfs a n+cfs b n
 | [],b=>(Jb _).symm
 | t::a,b=>by show _+cfs (a++b) n=_+cfs a n+_;rw[ou];omega
theorem nS:∀ {a b:List (Rw×Int)},bds (a++b)=bds a+bds b
 | [],b=>(Jb _).symm
 | t::a,b=>by show _+bds (a++b)=_+bds a+_;rw[nS];omega
def oF{a b:List (Rw×Int)}:GI (a++b)=(GI a||GI b):=List.any_append
theorem nP{p:Rw×Int}:GI [p]=(isM p.1.1&&decide (0<p.2)):=by unfold GI;simp
theorem ju:∀ {ts:List (Str×Int)},n∉ts.map (·.1)->cf ts n=0
 | [],_=>rfl
 | t::r,h=>by
  rw[Hm,G7,not_or] at h;show (if t.1=n then t.2 else 0)+cf r n=0;rw[He (λz=>h.1 z.symm),ju h.2];rfl
structure e8(F:Str->Int)(ts:List (Str×Int)):Prop where
 pw:(ts.map (·.1)).Pairwise leS
 nd:(ts.map (·.1)).Nodup
 val:∀t∈ts,t.2=F t.1/\t.2≠0
 all:∀n,F n≠0->n∈ts.map (·.1)
theorem e8.ext{us:List (Str×Int)}(h1:∀t∈ts,t.2=F t.1)(h2:∀t∈us,t.2=F t.1)(h:ts.map (·.1)=us.map (·.1)):ts=us:=by
 have e:∀ {l:List (Str×Int)},(∀t∈l,t.2=F t.1)->l=(l.map (·.1)).map λn=>(n,F n):=λ{l} hl=>by
  rw[HB]
  conv=>lhs;rw[<- List.map_id l]
  refine Jt λt ht=>?_;show t=(t.1,F t.1);rw[<- hl t ht]
 rw[e h1,e h2,h]
theorem e8.uniq{us:List (Str×Int)}(a:e8 F ts)(b:e8 F us):ts=us:=by
 refine e8.ext (λt h=>(a.val t h).1) (λt h=>(b.val t h).1) (ja a.pw b.pw a.nd b.nd λn=>⟨λh=>b.all n ?_,λh=>a.all n ?_⟩)
 ·obtain⟨t,ht,rfl⟩:=GZ.mp h;rw[<- (a.val t ht).1];exact(a.val t ht).2
 ·obtain⟨t,ht,rfl⟩:=GZ.mp h;rw[<- (b.val t ht).1];exact(b.val t ht).2
theorem e8.mk'{ns:List Str}(pw:ns.Pairwise leS)(nd:ns.Nodup)(all:∀n,F n≠0->n∈ns):e8 F ((ns.filter λn=>decide (F n≠0)).map λn=>(n,F n)):=by
 have e:((ns.filter λn=>decide (F n≠0)).map λn=>(n,F n)).map (·.1)=ns.filter λn=>decide (F n≠0):=by rw[HB];exact List.map_id _
 refine⟨by rw[e];exact pw.filter _,by rw[e];exact nd.filter _,λt ht=>?_,λn hn=>?_⟩
 ·obtain⟨n,h1,rfl⟩:=GZ.mp ht;exact⟨rfl,by simpa using (Hi.mp h1).2⟩
 ·rw[e,Hi];exact⟨all n hn,by simpa using hn⟩
theorem pS{f g:Str->D}(h:∀n,n≠x->g n=f n):∀ks:List Str,nr ks (ks.map f) x (g x)=ks.map g
 | []=>rfl
 | k::ks=>by
  show (if k=x then g x else f k)::nr ks (ks.map f) x (g x)=g k::ks.map g
  rw[pS h ks]
  by_cases e:k=x
  ·rw[Hh e,e]
  ·rw[He e,h k e]
theorem vO{f g:Str->D}(h:∀n,n≠x->g n=f n):lU ks (ks.map f) x (g x)=(jN ks x).map g:=by
 unfold lU jN
 by_cases e:x∈ks
 ·rw[Hh e,Hh e,pS h]
 ·rw[He e,He e,Hj]
  congr 1
  exact Jt λn hn=>(h n λz=>e (z ▸ hn)).symm
theorem oQ(h:ks.Nodup):(jN ks x).Nodup:=by
 unfold jN
 by_cases e:x∈ks
 ·rw[Hh e];exact h
 ·rw[He e,Jh];exact⟨h,by simp,λa ha b hb z=>by rw[G9.mp hb] at z;exact e (z ▸ ha)⟩
theorem iM:n∈jN ks x↔n∈ks\/n=x:=by
 unfold jN
 by_cases e:x∈ks
 ·rw[Hh e];exact⟨.inl,λh=>h.elim id λz=>z ▸ e⟩
 ·rw[He e,Hb,G9]
theorem dM:∀ {ks nm:List Str},ks.Nodup->(∀n∈ks,n∈nm)->ks.length<=nm.length
 | [],_,_,_=>Ie _
 | k::ks,nm,h,hs=>by
  obtain⟨h1,h2⟩:=HM.mp h;have hk:=hs k (G1 ..);have:=dM (ks:=ks) (nm:=nm.erase k) h2 λn hn=>(List.mem_erase_of_ne (λz=>h1 (by rw[<- z];exact hn))).mpr (hs n (GY _ hn));rw[List.length_erase_of_mem hk] at this;have:0<nm.length:=List.length_pos_of_mem hk;rw[Ha];omega
theorem o7{α:Type}:∀ {ks:List Str} {ds:List α},x∉ks->dAt ks ds x=none
 | [],ds,_=>by cases ds<;>rfl
 | k::ks,[],_=>rfl
 | k::ks,d::ds,h=>by
  rw[G7,not_or] at h;show (if k=x then some d else dAt ks ds x)=none;rw[He (λz=>h.1 z.symm)];exact o7 h.2
theorem qc(h:x∉ks->F x=0):(dAt ks (ks.map λn=>D.int (F n)) x).getD (.int 0)=.int (F x):=by
 by_cases e:x∈ks
 ·rw[cB (λn=>D.int (F n)) e];rfl
 ·rw[o7 e,h e];rfl
theorem qe{rows:List Rw}{ws:List Int}:nq (rows.map Gu) (ws.map D.int)=(rows.zip ws).map λp=>D.tup [Gu p.1,.int p.2]:=by
 unfold nq;rw[JV,List.zip,IR]
theorem tJ{nm:List Str}:∀ {l:List (Rw×Int)},(∀p∈l,∀t∈p.1.2.1,t.1∈nm)->cfs l n≠0->n∈nm
 | [],_,h=>absurd rfl h
 | p::r,hp,h=>by
  refine G5 λz=>?_;have h1:cfs r n=0:=G5 λy=>z (tJ (λp h=>hp p (GY _ h)) y);have h2:cf p.1.2.1 n=0:=ju λhm=>by
   obtain⟨t,ht,e⟩:=GZ.mp hm;exact z (e ▸ hp p (G1 ..) t ht)
  refine h ?_;show p.2*cf p.1.2.1 n+cfs r n=0;rw[h1,h2,J6,Jb]
structure RwOk(nm:List Str)(B:Nat)(r:Rw):Prop where
 sub:∀t∈r.2.1,t.1∈nm
 bw:∀t∈r.2.1,Builtin.Int.intBits t.2<=B
 bb:Builtin.Int.intBits r.2.2<=B
structure Pt(ks:List Str)(ps:List (Int×Int))(X:Nat):Prop where
 len:ps.length=ks.length
 low:∀p∈ps,Low p.1 p.2
 b1:∀p∈ps,Builtin.Int.intBits p.1<=X
 b2:∀p∈ps,Builtin.Int.intBits p.2<=X
theorem Pt.at(hp:Pt ks ps X)(h:n∈ks):dAt ks ps n=some (sR ks ps n)/\sR ks ps n∈ps:=by
 have e:=lP (ks:=ks) (ds:=ps) (x:=n) hp.len.symm
 rw[HG h] at e
 cases q:dAt ks ps n with
 | none=>rw[q] at e;cases e
 | some p =>
  have:sR ks ps n=p:=by unfold sR;rw[q];rfl
  rw[this];exact⟨rfl,t4 q⟩
theorem Pt.D(hp:Pt ks ps X)(h:n∈ks):dAt ks (ps.map GJ) n=some (.tup [.int (pT ks ps n),.int (pB ks ps n)]):=by
 rw[tR,(hp.at h).1];rfl
def Pt.Low(hp:Pt ks ps X)(h:n∈ks):Low (pT ks ps n) (pB ks ps n):=hp.low _ (hp.at h).2
def Pt.pos(hp:Pt ks ps X)(h:n∈ks):0<pB ks ps n:=(hp.low _ (hp.at h).2).pos
def Pt.Bb(hp:Pt ks ps X)(h:n∈ks):Builtin.Int.intBits (pB ks ps n)<=X:=hp.b2 _ (hp.at h).2
def Pt.Tb(hp:Pt ks ps X)(h:n∈ks):Builtin.Int.intBits (pT ks ps n)<=X:=hp.b1 _ (hp.at h).2
def Pt.mono{Y:Nat}(hp:Pt ks ps X)(h:X<=Y):Pt ks ps Y:=⟨hp.len,hp.low,λp hq=>G0 (hp.b1 p hq) h,λp hq=>G0 (hp.b2 p hq) h⟩
end Mf
namespace DL
open PySem PySem.Spec PyProof.Rows L2
variable {y:Str} {p:Pos}
section
variable {X:Cx} {pos:Pos} {a b e:Expr} {es:List Expr} {ta tb:GS} {t:TDA}
theorem r6:bW X (.type "dict") (λxs H Q=>∃a kvs,xs=[.ref a]/\Rd H a (.dK kvs)/\∀l,H l=none->Q (.ref l) (GC H l (.dK kvs))):=by
 intro pins s σ H xs us Q I rv h;obtain⟨a,kvs,rfl,e,k⟩:=h;obtain⟨u,rfl,ru⟩:=fk rv
 cases ru
 obtain⟨hz,lo,va,ra,da⟩:=gy I.hok e;have fr:H s.heap.objs.size=none:=I.hok.fresh (G3 _);refine kt_call_dict lo da (by rw[<- ra.length];exact hz) λh' dd sb=>?_;have kp:∀b o,s.heap.get? b=some o->h'.get? b=some o:=λb o e=>sb.extBut b o (Hz (Hk e)) (Heap.get?_push_of_some _ e);have lo2:(s.heap.objs.size==sysModules)=false:=J0.mpr (IY I.big);exact⟨.ref _,_,I.laid (t':=s.toks) kp (G3 _) (qx hz lo2 ra dd),rfl,k _ fr⟩
def qZ:D->(List Str->List D->Prop)->Prop
 | .dct ks ds,k=>k ks ds
 | .fd ks ds,k=>k ks ds
 | _,_=>False
theorem qZ.ex{d:D}{k:List Str->List D->Prop}(h:qZ d k):∃ks ds,(d=.dct ks ds\/d=.fd ks ds)/\k ks ds:=by
 cases d<;>first | exact False.elim h | exact⟨_,_,.inl rfl,h⟩ | exact⟨_,_,.inr rfl,h⟩
def yB(i:Nat)(te:GS)(R:a6)(δ:En):Prop:=te δ (wd λd δ1=>qZ d λks ds=>∀a,jO δ1 i (.own a (.dct ks ds)) R.nx)
theorem pJ(i:Nat){pos' pos2:Pos}(hN:X.N.Nodup)(hg:Gl X "dict")(hm:X.mg "dict"=none)(he:DE X e ta)(hi:X.N[i]?=some y:=by rfl)(hx:Loc X.env.scope y:=by walk_at "v2")
  (h2:starEach [e] X.env=(false,eval e X.env)::starEach [] X.env:=by rfl) (hpl:(backTo pos2 (starEach [] X.env)).any (·.1)=false:=by rfl)
  (hs:swapsWith (.Call (.Name "dict" p) [e] [] pos2) (some (.Name y pos')) pos.line X.env=pure false:=by rfl) (hf:X.fn y=true\/X.env.scope.names.lookup y=some .local :=by walk_at "v1") :
  DS X (.Assign [.Name y pos'] (.Call (.Name "dict" p) [e] [] pos2) pos) (yB i ta) :=
 PS.imp (kf hN hi hx (gk r6 hg hm yu (a9 he dr h2) (by decide) (by decide) h2 hpl) hs hf) λE σ H ⟨G,δ,P,R,s,h,k,_⟩=>up.mk s h λd δ1 h1 v H1 ⟨A,q⟩=>by
  replace h1:=qZ.ex h1;obtain⟨ks,ds,ed,r⟩:=h1;have r0:∃a0 vs,v=.ref a0/\Rd H1 a0 (.dK (aO ks vs))/\ks.length=ds.length/\Reps X.K (λb=>G.M0 b\/A b) H1 ds vs:=by
   rcases ed with ed | ed
   ·subst ed;have r0:=q.pnd (.dct ks ds,v) (by simp);unfold GU at r0;obtain⟨a0,vs,e,n0,e0,l0,rs⟩:=r0;exact⟨a0,vs,e,.inl e0,l0,rs⟩
   ·subst ed;have r0:=q.pnd (.fd ks ds,v) (by simp);unfold GU at r0;obtain⟨a0,vs,o,e,e0,l0,rs⟩:=r0;exact⟨a0,vs,e,.inr ⟨o,e0⟩,l0,rs⟩
  obtain⟨a0,vs,rfl,e0,l0,rs⟩:=r0;refine⟨a0,_,rfl,e0,λl hl=>?_⟩;have sm:=aI hl (.dK (aO ks vs));refine k _ (r l) _ _ ⟨_,q.claim (P':=P) hl sm ⟨vs,aC,l0,Reps.kp (Kp.of_same sm) _ _ (Reps.more (λb z=>?_) _ _ rs)⟩ λq hq=>GY _ hq⟩
  rcases z with z | z
  ·exact .inl z
  ·exact .inr (by rw[z];exact hl)
theorem sA{x:Str}{acc:Array Value}(h:ItemsOf (SignAt x) acc x.cps.size):bn (x.cps.toList.map λc=>V.str ⟨#[c]⟩) acc.toList:=by
 obtain⟨h1,h2⟩:=h;have:∀(cs:List Nat) (vs:List Value),vs.length=cs.length->(∀(j:Nat) v,vs[j]?=some v->∃(c:Nat) (u:Tok),cs[j]?=some c/\v=Value.str ⟨#[c]⟩ u)->bn (cs.map λc=>V.str ⟨#[c]⟩) vs:=λcs=>by
  induction cs with
  | nil=>intro vs hl _;rw[Iu hl];exact .nil
  | cons c cs ih =>
   intro vs hl hh
   cases vs with
   | nil=>cases hl
   | cons v vs =>
    obtain⟨c',u,e1,e2⟩:=hh 0 v rfl
    cases e1
    exact .cons ⟨u,e2⟩ (ih vs (by simpa using hl) λj v hv=>hh (j+1) v hv)
 refine this _ _ (by rw[Hx,Hx];exact h1) λj v hv=>?_;obtain⟨c,u,e1,e2⟩:=h2 j v (by rw[<- Array.getElem?_toList];exact hv);exact⟨c,u,by rw[Array.getElem?_toList];exact e1,e2⟩
theorem rT(hc:X.calm=true):bW X (.type "list") (λxs H Q=>∃x,xs=[.str x]/\x.cps.size<=9000/\∀l,H l=none->Q (.ref l) (GC H l (.lst (x.cps.toList.map λc=>V.str ⟨#[c]⟩)))):=by
 intro pins s σ H xs us Q I rv h;obtain⟨x,rfl,hz,k⟩:=h;obtain⟨u,rfl,ru⟩:=fk rv;obtain⟨t,rfl⟩:=ru;have fr:H s.heap.objs.size=none:=I.hok.fresh (G3 _);refine call_list_str (I.ok.hd hc) x t (λh' tk acc' c' kp e it=>?_) (dI hz);exact⟨.ref _,_,I.laid (t':=tk) kp (G3 _) (show bN X.prog X.w _ h' _ (.lst (x.cps.toList.map λc=>V.str ⟨#[c]⟩)) from⟨by rw[GW,Hx];exact dI hz,acc'.toList,c',sA it,e⟩),rfl,k _ fr⟩
def yV(i:Nat)(te:GS)(R:a6)(δ:En):Prop:=te δ (wd λd δ1=>qX d λx=>x.cps.size<=9000/\∀a,jO δ1 i (.own a (.lst (zt x))) R.nx)
theorem xR(i:Nat){pos' pos2:Pos}(hN:X.N.Nodup)(hc:X.calm=true)(hg:Gl X "list")(hm:X.mg "list"=none)(he:DE X e ta)(hi:X.N[i]?=some y:=by rfl)(hx:Loc X.env.scope y:=by walk_at "v2")
  (h2:starEach [e] X.env=(false,eval e X.env)::starEach [] X.env:=by rfl) (hpl:(backTo pos2 (starEach [] X.env)).any (·.1)=false:=by rfl)
  (hs:swapsWith (.Call (.Name "list" p) [e] [] pos2) (some (.Name y pos')) pos.line X.env=pure false:=by rfl) (hf:X.fn y=true\/X.env.scope.names.lookup y=some .local :=by walk_at "v1") :
  DS X (.Assign [.Name y pos'] (.Call (.Name "list" p) [e] [] pos2) pos) (yV i ta) :=
 PS.imp (kf hN hi hx (gk (rT hc) hg hm D5 (a9 he dr h2) (by decide) (by decide) h2 hpl) hs hf) λE σ H ⟨G,δ,P,R,s,h,k,_⟩=>up.mk s h λd δ1 h1 v H1 ⟨A,q⟩=>by
  replace h1:=qX.ex h1;obtain⟨x,ed,hz,r⟩:=h1;subst ed;have p2:v=.str x:=bh (q.pnd (.str x,v) (by simp));subst p2;refine⟨x,rfl,hz,λl hl=>?_⟩;have sm:=aI hl (.lst (x.cps.toList.map λc=>V.str ⟨#[c]⟩));refine k _ (r l) _ _ ⟨_,q.claim (P':=P) hl sm ⟨_,aC,?_⟩ λq hq=>GY _ hq⟩;have:∀cs:List Nat,Reps X.K (λb=>(G.M0 b\/A b)\/b=l) (GC H1 l (.lst (x.cps.toList.map λc=>V.str ⟨#[c]⟩))) (cs.map λc=>D.str ⟨#[c]⟩) (cs.map λc=>V.str ⟨#[c]⟩):=λcs=>by
   induction cs with
   | nil=>exact Reps.nil
   | cons c cs ih=>exact Reps.cons (by unfold GU;rfl) ih
  exact this _
def yI(i:Nat)(te:GS)(δ:En)(R:W->En->Prop):Prop:=qWL δ[i]? λa _=>te δ (wd λz δ1=>wn δ1[i]? λds=>∃(k:Nat) (y:D),z=.int (k:Nat)/\ds.length<=9000/\ds[k]?=some y/\jO δ1 i (.own a (.lst (ds.eraseIdx k))) (R (.d y)))
def Reps.erase{K:PySem.W.Frag}{M:Addr->Prop}{H:Hp}:∀(k:Nat) (ds:List D) (vs:List V),Reps K M H ds vs->Reps K M H (ds.eraseIdx k) (vs.eraseIdx k)
 | k,[],vs,r=>by
  unfold Reps at r;subst r;rw[List.eraseIdx_nil,List.eraseIdx_nil];exact Reps.nil
 | 0,d::ds,vs,r=>by
  unfold Reps at r;obtain⟨v,r',rfl,_,q⟩:=r;exact q
 | k+1,d::ds,vs,r=>by
  unfold Reps at r;obtain⟨v,r',rfl,p,q⟩:=r;exact Reps.cons p (Reps.erase k ds r' q)
theorem vm(i:Nat){apos cpos:Pos}(he:DE X e ta)(hN:X.N[i]?=some y:=by rfl)(hv:Vis X.env.scope y:=by walk_at "v3")
  (hd:(y==("__debug__":Str))=false:=by decide) (hcd:(y==("__classdict__":Str))=false:=by decide)
  (hbase:attributeBase (.Name y p) "pop" X.env (eval (.Name y p) X.env)=eval (.Name y p) X.env:=by rfl)
  (hfew:((backTo cpos (starEach [e] X.env)).all (λx=>!x.1)&&(backToKw cpos (keywordEach [] X.env)).all (λx=>x.1.isSome)&&decide ([e].length+([]:List Keyword).length+(if ([]:List Keyword).isEmpty then 0 else 1)<30))=true:=by rfl)
  (hline:(apos.endLine==cpos.line)=true:=by rfl) (hs:starEach [e] X.env=(false,eval e X.env)::starEach [] X.env:=by rfl) (hplain:(backTo cpos (starEach [] X.env)).any (·.1)=false:=by rfl) :
  DE X (.Call (.Attribute (.Name y p) "pop" apos) [e] [] cpos) (yI i ta) :=
 PE.imp (yc Jz PySem.F.slot_list_pop PySem.F.type_list_pop ya (dF hN hv hd hcd) (a9 he dr hs) hbase hfew hline hs hplain) λσ H Q ⟨G,δ,P,R,s,h,k,_⟩=>by
  obtain⟨a,ds0,hi0,h⟩:=qWL.ex h;obtain⟨A0,x0⟩:=id s;obtain⟨h0,_,vs0,hvs0,_⟩:=er x0 hi0;refine⟨.ref a,h0,.inl ⟨rfl,vs0,Gz.of hvs0⟩,up.mk s h λz δ1 h1 v H1 ⟨A,q⟩=>?_⟩;obtain⟨ds,hi,j,y,ez,hz,hy,r⟩:=wn.ex q h0 h1;subst ez;obtain⟨_,aa,vs,hvs,rs⟩:=er q hi;have p2:v=.int (j:Nat):=aQ (q.pnd (.int (j:Nat),v) (by simp));subst p2;obtain⟨w,ew,rw'⟩:=Reps.get _ _ rs j y hy;have hl:=Reps.length _ _ rs;have hj:j<ds.length:=(List.getElem?_eq_some_iff.mp hy).1;refine⟨a,vs,(j:Nat),j,w,rfl,rfl,hvs,by omega,by omega,by unfold seqIndex?;simp only[show ¬ ((j:Nat):Int)<0 by omega,if_false];rw[Hh (by simp only[Bool.and_eq_true,decide_eq_true_eq];omega)];rfl,ew,?_⟩;have hk:∀b o,b≠a->H1 b=some o->GC H1 a (.lst (vs.eraseIdx j)) b=some o:=λb o n e=>by rw[aH n];exact e
  have kp:Kp (λb=>G.M0 b\/A b) H1 (GC H1 a (.lst (vs.eraseIdx j))) :=
   ⟨λb o e n=>hk b o (λz=>n (.inr (by rw[z];exact aa))) e,λb xs e=>hk b _ (λz=>by rw[z,hvs] at e;cases e) e,λb o u e=>hk b _ (λz=>by rw[z,hvs] at e;cases e) e⟩
  have q1:=(q.change (d':=.lst (ds.eraseIdx j)) hi hk ⟨_,aC,Reps.kp kp _ _ (Reps.erase j _ _ rs)⟩)
  exact k _ _ r _ _ ⟨A,(q1.sub (P':=P) λp hp=>GY _ hp).push (GU.kp kp _ _ rw')⟩
def EN:V->List V->Hp->VK->Prop:=λx vs H Q=>∃l xs y,x=.ref l/\vs=[.int 0,y]/\H l=some (.lst xs)/\xs.length<sizeLine/\Q .non (GC H l (.lst (y::xs)))
theorem BH:MtM X "list.insert" EN:=by
 intro pins s σ H x vs v us Q I rx rv h;obtain⟨l,xs,y,rfl,rfl,hH,hz,q⟩:=h
 cases rx
 cases rv with
 | cons r0 rv =>
  obtain⟨t,rfl⟩:=r0;obtain⟨u,rfl,ru⟩:=fk rv;obtain⟨z,its,n,r,hl,e⟩:=I.lstM hH;refine call_meets PySem.F.slot_list_insert ⟨_,e,rfl⟩ PySem.F.entry_list_insert (PySem.F.args_list_insert_3 _ _ _) (PySem.AutoSeq1.list_insert_list_int_val_1 l its.toArray n 0 t u (by decide) (by rw[Hu];omega)) ⟨e,?_⟩;refine⟨.non,_,I.lset (its':=u::its) hH e ?_ (.cons ru r) ?_,rfl,q⟩
  ·apply Array.toList_inj.mp;simp
  ·rw[Ha];omega
def Dp(i:Nat)(te:GS)(R:a6)(δ:En):Prop:=qWL δ[i]? λa _=>te δ (wd λx δ1=>wn δ1[i]? λds=>ds.length<9000/\jO δ1 i (.own a (.lst (x::ds))) R.nx)
theorem wM(i:Nat){j0}{p0 apos cpos:Pos}(he:DE X e ta)(hN:X.N[i]?=some y:=by rfl)(hv:Vis X.env.scope y:=by walk_at "v3")
  (hd:(y==("__debug__":Str))=false:=by decide) (hcd:(y==("__classdict__":Str))=false:=by decide)
  (hbase:attributeBase (.Name y p) "insert" X.env (eval (.Name y p) X.env)=eval (.Name y p) X.env:=by rfl)
  (hfew:((backTo cpos (starEach [.Constant (.int 0) j0 p0,e] X.env)).all (λx=>!x.1)&&(backToKw cpos (keywordEach [] X.env)).all (λx=>x.1.isSome)&&decide ([Expr.Constant (.int 0) j0 p0,e].length+([]:List Keyword).length+(if ([]:List Keyword).isEmpty then 0 else 1)<30))=true:=by rfl)
  (hline:(apos.endLine==cpos.line)=true:=by rfl) (hs:starEach [.Constant (.int 0) j0 p0,e] X.env=(false,eval (.Constant (.int 0) j0 p0) X.env)::starEach [e] X.env:=by rfl) (hs2:starEach [e] X.env=(false,eval e X.env)::starEach [] X.env:=by rfl) (hplain:(backTo cpos (starEach [e] X.env)).any (·.1)=false:=by rfl)
  (hsw:swapsWith (.Call (.Attribute (.Name y p) "insert" apos) [.Constant (.int 0) j0 p0,e] [] cpos) none pos.line X.env=pure false:=by rfl) :
  DS X (.Expr (.Call (.Attribute (.Name y p) "insert" apos) [.Constant (.int 0) j0 p0,e] [] cpos) pos) (Dp i ta) :=
 PS.imp (kT (yc Jz PySem.F.slot_list_insert PySem.F.type_list_insert BH (dF hN hv hd hcd) (a9 yJ (a9 he dr hs2) hs) hbase hfew hline hs hplain) hsw) λE σ H ⟨G,δ,P,R,s,h,k,_⟩=>by
  replace h:=qWL.ex h;obtain⟨a,ds0,hi0,h⟩:=h;obtain⟨A0,x0⟩:=id s;obtain⟨h0,_,vs0,hvs0,_⟩:=er x0 hi0;refine⟨.ref a,h0,.inl ⟨rfl,vs0,Gz.of hvs0⟩,up.mk s h λx δ1 h1 v H1 ⟨A,q⟩=>?_⟩;replace h1:=wn.ex q h0 h1;obtain⟨ds,hi,hz,r⟩:=h1;obtain⟨_,aa,vs,hvs,rs⟩:=er q hi;refine⟨a,vs,v,rfl,rfl,hvs,by rw[<- Reps.length _ _ rs];exact i9 (IX hz),k _ r _ _ ⟨A,(q.change (d':=.lst (x::ds)) hi (λb o n e=>by rw[aH n];exact e) ⟨v::vs,aC,?_⟩).sub (P':=P) λq hq=>GY _ hq⟩⟩;have kp:Kp (λb=>G.M0 b\/A b) H1 (GC H1 a (.lst (v::vs))):=by
   have hk:∀b o,b≠a->H1 b=some o->GC H1 a (.lst (v::vs)) b=some o:=λb o n e=>by rw[aH n];exact e
   exact⟨λb o e n=>hk b o (λz=>n (.inr (by rw[z];exact aa))) e,λb xs e=>hk b _ (λz=>by rw[z,hvs] at e;cases e) e,λb o u e=>hk b _ (λz=>by rw[z,hvs] at e;cases e) e⟩
  exact Reps.kp kp _ _ (Reps.cons (q.pnd (x,v) (by simp)) rs)
structure GEnd(K:PySem.W.Frag)(mg:Str->Option Value)(x:Str):Prop where
 ex:∃a o n,mg x=some (.ref a)/\K.lookup a=some o/\o.cls=.type "tuple"/\o.data=.seq #[.none,.bool false] n
theorem uq{x:Str}(hg:Gl X x)(h:GEnd X.K X.mg x)(hd:(x==("__debug__":Str))=false:=by decide):DE X (.Name x pos) (dC (.tup [.non,.bl false])):=by
 obtain⟨a,o,n,e,h1,h2,h3⟩:=h.ex;refine PE.imp (oM (v:=.ref a) hg e rfl hd) λσ H Q ⟨G,δ,P,R,⟨A,s⟩,h,k,_⟩=>k _ δ h _ H ⟨A,s.push ?_⟩;unfold GU;exact⟨a,[.non,.bl false],rfl,.inr ⟨o,_,n,h1,h2,h3,by show 2<=sizeLine;decide,.cons rfl (.cons rfl .nil)⟩,Reps.cons (by unfold GU;rfl) (Reps.one (by unfold GU;rfl))⟩
end
end DL
namespace DL
open PySem PySem.Spec PyProof.Rows L2
variable {elts:List Expr} {pos p:Pos} {a:Expr}
def Ite(K:PySem.W.Frag)(a:Addr):It :=
  ⟨λi H=>∃xs x,Gz K H a xs/\xs[i]?=some x,
   λi H v H'=>∃T x,H T=none/\H'=GC H T (.tup [.int (i:Nat),x])/\v=.ref T/\∀xs,Gz K H a xs->xs[i]?=some x,
   λi H=>∃xs,Gz K H a xs/\xs.length<=i⟩
def EI(h:Heap)(e it a:Addr)(m:Nat):Prop:=(∃old,IsEnum h e it ((m:Nat):Int) old)/\h.IsListIter it a m
theorem tH{P:Program}{w:World}{K:PySem.W.Frag}{x1}{e it a:Addr}(hne:e≠it):yW P w K (.Tuple elts x1 pos) (Ite K a) [e,it] e (λm h=>EI h e it a m) where
 mem:=by simp
 obj:=λm h Z c hc=>by
  obtain⟨⟨old,z⟩,zi⟩:=Z;simp only[List.mem_cons,List.not_mem_nil,or_false] at hc
  rcases hc with rfl | rfl
  ·exact⟨_,z,λv=>nofun⟩
  ·obtain⟨q,x,_,d⟩:=zi;exact⟨q,x,λv=>by rw[d];nofun⟩
 keep:=λm h h' Z kk=>by
  obtain⟨⟨old,z⟩,zi⟩:=Z;exact⟨⟨old,kk _ (by simp) _ z⟩,zi.at λo x=>kk _ (by simp) o x⟩
 item:=by
  intro X hP hw hK hc m pins s σ H E I hf Z hg;subst hP hw hK;obtain⟨xs,x,h1,hx⟩:=hg;obtain⟨⟨old,z⟩,zi⟩:=Z;obtain⟨is,r1,p1,_⟩:=I.list h1;obtain⟨u,hu,ru⟩:=r1.get hx;refine wpAny_pyNext_enum_item z zi p1.isList (by simpa using hu) hne λh' e1 i1 t1 n1 kk=>⟨_,rfl,?_⟩;refine wpAny_letOwnedTupleGo_enum (s:={ s with heap:=h',toks:=s.toks+1 }) e1 λh2 e2 s2=>?_;have s2:Heap.SameBut e h' h2:=s2;have hfr:H s.heap.objs.size=none:=I.hok.fresh (G3 _);have I1:Inv X pins σ (GC H s.heap.objs.size (.tup [.int (m:Nat),x])) { s with heap:=s.heap.push { cls:=.type "tuple",data:=.seq #[.int (m:Nat) s.toks,u] },toks:=s.toks+1 }:=I.laid (t':=s.toks+1) (λb u e=>Heap.get?_push_of_some _ e) (G3 _) ⟨by show 2<=sizeLine;decide,[.int (m:Nat) s.toks,u],.cons ⟨_,rfl⟩ (.cons ru .nil),⟨_,Heap.get?_push_size _ rfl,rfl,_,rfl⟩⟩;have ne:∀ {c o},s.heap.get? c=some o->c≠s.heap.objs.size:=λe=>Hz (Hk e);have le:e≠s.heap.objs.size:=ne z;have li:it≠s.heap.objs.size:=by obtain⟨q,y,_⟩:=zi;exact ne y
  have fr:∀c∈[e,it],GC H s.heap.objs.size (.tup [.int (m:Nat),x]) c=none:=λc hc'=>by
   rw[aH (by simp only[List.mem_cons,List.not_mem_nil,or_false] at hc';rcases hc' with rfl | rfl;exact le;exact li)];exact(hf c hc').1
  have I2:Inv X pins σ (GC H s.heap.objs.size (.tup [.int (m:Nat),x])) { s with heap:=h2,toks:=s.toks+1 }:=lq (s:={ s with heap:=s.heap.push { cls:=.type "tuple",data:=.seq #[.int (m:Nat) s.toks,u] },toks:=s.toks+1 }) (t':=s.toks+1) (fp:=[e,it]) I1 (λc q hc ec=>?_) λc hc=>⟨fr c hc,(hf c hc).2⟩
  ·exact⟨.ref s.heap.objs.size,_,I2,rfl,⟨_,x,hfr,rfl,rfl,λzs hz=>by rw[I.list_inj hz h1];exact hx⟩,⟨⟨_,e2⟩,i1.at λo y=>s2.extBut _ _ (J8 hne) y⟩,fr⟩
  ·have n1:c≠e:=λz=>hc (by rw[z];simp)
   have n2:c≠it:=λz=>hc (by rw[z];simp)
   rcases Heap.get?_push_cases ec with⟨rfl,rfl⟩ | ec
   ·exact s2.extBut _ _ n1 t1
   ·exact s2.extBut _ _ n1 (kk c q n1 n2 ec)
 done:=by
  intro X hP hw hK hc m pins s σ H E I hf Z hg;subst hP hw hK;obtain⟨xs,h1,hl⟩:=hg;obtain⟨⟨old,z⟩,zi⟩:=Z;obtain⟨is,r1,p1,_⟩:=I.list h1;have l1:=r1.length;refine wpAny_pyNext_enum_end (I.ok.hd hc) z zi p1.isList (by simp;omega) λh' kk=>⟨rfl,lq (t':=s.toks) (fp:=[e,it]) I (λc q hc e=>kk c q (λz=>hc (by rw[z];simp)) e) hf⟩
 self:=λ_ _ _ _ _ Z h=>wpAny_pyIter_enum Z.1.choose_spec h
section
variable {X:Cx}
def FA(K:PySem.W.Frag)(ta:TA):TI:=λσ H R=>ta σ H λvs H1=>∃a,vs=[.ref a]/\(∃xs,Gz K H1 a xs)/\R (Ite K a) H1
theorem Aj{ta:TA}{x1}{pos':Pos}(hg:Gl X "enumerate")(hm:X.mg "enumerate"=none)(ha:PA X [a] ta)(hs:starEach [a] X.env=[(false,eval a X.env)]:=by rfl) :
  PI X (.Tuple elts x1 pos') (.Call (.Name "enumerate" p) [a] [] pos) (FA X.K ta):=by
 intro pins s σ H R I h;refine Call_ (gd I hg hm boot_enumerate (HY (GE (ha pos pins s σ H _ I h) λus s1 ⟨vs,H1,I1,r1,q1⟩=>?_) (by rw[hs];rfl) rfl));obtain⟨c,e,⟨xs,hx⟩,q⟩:=q1;subst e;obtain⟨u,rfl,ru⟩:=fk r1
 cases ru
 obtain⟨is,_,p1,_⟩:=I1.list hx;refine call_enumerate_list p1.isList λh' e1 i1 n1 up=>wpAny_pyIter_enum (s:={ s1 with heap:=h' }) e1 ?_;have n1:s1.heap.objs.size+1≠s1.heap.objs.size:=λz=>by have z:(_:Nat)=_:=z;omega
 refine⟨_,[s1.heap.objs.size+1,s1.heap.objs.size],_,_,H1,rfl,I1.kept (t':=s1.toks) up,tH n1,⟨⟨_,e1⟩,i1⟩,λb hb=>?_,q⟩;have hb:s1.heap.objs.size<=b:=by
  simp only[List.mem_cons,List.not_mem_nil,or_false] at hb
  rcases hb with rfl | rfl
  ·exact Jr ..
  ·exact G3 _
 exact I1.fpOk hb (I1.hok.fresh hb)
def enD(xs:List D):List D:=xs.mapIdx λi x=>.tup [.int (i:Nat),x]
def yF(t:TDA)(δ:En)(R:List D->En->Prop):Prop:=t δ λds δ1=>qC ds λx r=>qN r <| qL x λxs=>R (enD xs) δ1
theorem uU{ta:TDA}{x1}{pos':Pos}(hg:Gl X "enumerate")(hm:X.mg "enumerate"=none)(ha:DA X [a] ta)(hs:starEach [a] X.env=[(false,eval a X.env)]:=by rfl) :
  CI X (.Tuple elts x1 pos') (.Call (.Name "enumerate" p) [a] [] pos) (yF ta) :=
 ⟨_,Aj hg hm ha hs,λG δ P σ H R Q s hs kk=>⟨G,δ,P,_,s,hs,λds δ1 h1 vs H1 hl s1=>by
  replace h1:=qC.ex h1;obtain⟨x,r,e,h1⟩:=h1;replace h1:=qN.ex h1;obtain⟨e',h1⟩:=h1;replace h1:=qL.ex h1;obtain⟨xs,e2,r⟩:=h1;subst e2 e' e
  match vs,hl with
  | [v],_ =>
   have s2:S X.K G δ1 ((.lst xs,v)::P) σ H1:=s1
   have at1:∀A δ σ H,Sx X.K G A δ ((.lst xs,v)::P) σ H->∃a vs,v=.ref a/\Gz X.K H a vs/\Reps X.K (λb=>G.M0 b\/A b) H xs vs:=λA δ σ H x=>by
    have q:=x.pnd (.lst xs,v) (by simp)
    unfold GU at q;obtain⟨a,vs,e,_,l,r⟩:=q;exact⟨a,vs,e,Gz.of l,r⟩
   obtain⟨A1,x1⟩:=id s2;obtain⟨a,vs0,rfl,l0,_⟩:=at1 _ _ _ _ x1;have hlen:(enD xs).length=xs.length:=by unfold enD;rw[List.length_mapIdx]
   refine⟨a,rfl,⟨vs0,l0⟩,kk _ δ1 r _ _ H1 (λq hq=>by simp[hq]) s2 (λA δ σ i H x hi=>?_) (λA δ σ H x=>?_) λA δ σ i y H H2 x hi hy=>?_⟩
   ·obtain⟨_,vs,e,l,r⟩:=at1 _ _ _ _ x
    cases e
    obtain⟨v',hv,_⟩:=Reps.get _ _ r i (xs[i]'(by omega)) (by simp);exact⟨vs,v',l,hv⟩
   ·obtain⟨_,vs,e,l,r⟩:=at1 _ _ _ _ x
    cases e
    have:=Reps.length _ _ r
    exact⟨vs,l,by omega⟩
   ·obtain⟨_,vs,e,l,r⟩:=at1 _ _ _ _ x
    cases e
    obtain⟨T,x',hT,rfl,rfl,hx⟩:=hy;have hi1:i<xs.length:=by omega
    obtain⟨v',hv,rv⟩:=Reps.get _ _ r i xs[i] (by simp[hi1]);have e1:=hx vs l;rw[hv] at e1;have e1:=Hg e1;rw[e1] at rv;have sm:b9 H (GC H T (.tup [.int (i:Nat),x'])):=aI hT _;refine⟨sm,.tup [.int (i:Nat),xs[i]],?_,?_⟩
    ·unfold enD;rw[List.getElem?_mapIdx,List.getElem?_eq_getElem hi1];rfl
    ·unfold GU
     exact⟨T,[.int (i:Nat),x'],rfl,.inl (.inl aC),Reps.cons (by unfold GU;rfl) (Reps.one (GU.kp (Kp.of_same sm) _ _ rv))⟩⟩⟩
end
def Itv(K:PySem.W.Frag)(a:Addr)(n:Nat):It :=
  ⟨λi H=>i<n/\∃xs x,Gz K H a xs/\xs.length=n/\xs[n-1-i]?=some x,
   λi H v H'=>H'=H/\∀xs,Gz K H a xs->xs[n-1-i]?=some v,
   λi _=>i=n⟩
theorem yb{P:Program}{w:World}{K:PySem.W.Frag}{tg:Expr}{a it:Addr}{n:Nat}:yW P w K tg (Itv K a n) [it] it (λi h=>h.IsRevIter it a ((n:Int)-1-(i:Nat))) where
 mem:=by simp
 obj:=λi h st b hb=>by
  have e:b=it:=by simpa using hb
  subst e;obtain⟨o,ho,_,d⟩:=st;exact⟨o,ho,λv=>by rw[d];nofun⟩
 keep:=λi h h' st k=>st.at λo e=>k it (by simp) o e
 item:=by
  intro X hP hw hK hc i pins s σ H E I hf st hg;subst hP hw hK;obtain⟨f0,f1,f2,f3,f4,f5⟩:=hf it (by simp);obtain⟨hi,xs,x,h1,hn,hx⟩:=hg;obtain⟨is,r1,p1,_⟩:=I.list h1;obtain⟨u,hu,ru⟩:=r1.get hx;have e:(n:Int)-1-(i:Nat)=((n-1-i:Nat):Int):=by omega
  rw[e] at st;refine wpAny_pyNext_rev_item st p1.isList (by simpa using hu) λh' st' sb=>⟨_,rfl,?_⟩;have e2:((n-1-i:Nat):Int)-1=(n:Int)-1-((i+1:Nat):Int):=by omega
  rw[e2] at st';obtain⟨o,ho,hoc,hod⟩:=id st';have I1:Inv X pins σ H { s with heap:=h' }:=I.turned (t':=s.toks) (λb o hb e=>sb.extBut b o hb e) f0 f1 f3 f4 f5;exact vC (s:={ s with heap:=h' }) (n:="list_reverseiterator") ho hoc hod (by decide) ⟨x,H,I1,ru,⟨rfl,λzs hz=>by rw[I.list_inj hz h1];exact hx⟩,st',λb hb=>(hf b hb).1⟩
 done:=by
  intro X hP hw hK hc i pins s σ H E I hf st hg;subst hP hw hK;obtain⟨f0,f1,f2,f3,f4,f5⟩:=hf it (by simp);have hg:i=n:=hg;subst hg;have e:(i:Int)-1-(i:Nat)=-1:=by omega
  rw[e] at st;exact wpAny_pyNext_rev_end (I.ok.hd hc) st λh' eb=>⟨rfl,I.turned (t':=s.toks) (λb o hb e=>eb b o hb e) f0 f1 f3 f4 f5⟩
 self:=λ_ _ _ _ _ st h=>wpAny_pyIter_revIter st h
section
variable {X:Cx} {tg:Expr}
def iRev(K:PySem.W.Frag)(ta:TA):TI:=λσ H R=>ta σ H λvs H1=>∃a xs,vs=[.ref a]/\Gz K H1 a xs/\R (Itv K a xs.length) H1
theorem Eo{ta:TA}(hg:Gl X "reversed")(hm:X.mg "reversed"=none)(ha:PA X [a] ta)(hs:starEach [a] X.env=[(false,eval a X.env)]:=by rfl) :
  PI X tg (.Call (.Name "reversed" p) [a] [] pos) (iRev X.K ta):=by
 intro pins s σ H R I h;refine Call_ (gd I hg hm boot_reversed (HY (GE (ha pos pins s σ H _ I h) λus s1 ⟨vs,H1,I1,r1,q1⟩=>?_) (by rw[hs];rfl) rfl));obtain⟨c,xs,e,hx,q⟩:=q1;subst e;obtain⟨u,rfl,ru⟩:=fk r1
 cases ru
 obtain⟨is,rv,p1,_⟩:=I1.list hx;have hl:is.toArray.size=xs.length:=by rw[Hu,rv.length]
 refine call_reversed_list p1.isList ?_;have st:(s1.heap.push (revObj c ((is.toArray.size:Int)-1))).IsRevIter s1.heap.objs.size c ((xs.length:Int)-1-((0:Nat):Int)):=⟨_,Heap.get?_push_size _ rfl,rfl,by show Data.fields #[.ref c,rawInt ((is.toArray.size:Int)-1)]=_;rw[hl,show ((0:Nat):Int)=0 from rfl,Int.sub_zero]⟩;refine wpAny_pyIter_revIter (s:={ s1 with heap:=s1.heap.push (revObj c ((is.toArray.size:Int)-1)) }) st ?_;refine⟨_,[s1.heap.objs.size],_,_,H1,rfl,I1.kept (t':=s1.toks) λb o e=>Heap.get?_push_of_some _ e,yb,st,λb hb=>?_,q⟩;have e:b=s1.heap.objs.size:=by simpa using hb
 subst e;exact I1.fpOk (G3 _) (I1.hok.fresh (G3 _))
def DD(t:TDA)(δ:En)(R:List D->En->Prop):Prop:=t δ λds δ1=>qC ds λx r=>qN r <| qL x λxs=>R xs.reverse δ1
theorem EF{ta:TDA}(hg:Gl X "reversed")(hm:X.mg "reversed"=none)(ha:DA X [a] ta)(hs:starEach [a] X.env=[(false,eval a X.env)]:=by rfl) :
  CI X tg (.Call (.Name "reversed" p) [a] [] pos) (DD ta) :=
 ⟨_,Eo hg hm ha hs,λG δ P σ H R Q s hs kk=>⟨G,δ,P,_,s,hs,λds δ1 h1 vs H1 hl s1=>by
  replace h1:=qC.ex h1;obtain⟨x,r,e,h1⟩:=h1;replace h1:=qN.ex h1;obtain⟨e',h1⟩:=h1;replace h1:=qL.ex h1;obtain⟨xs,e2,r⟩:=h1;subst e2 e' e
  match vs,hl with
  | [v],_ =>
   have s2:S X.K G δ1 ((.lst xs,v)::P) σ H1:=s1
   have at1:∀A δ σ H,Sx X.K G A δ ((.lst xs,v)::P) σ H->∃a vs,v=.ref a/\Gz X.K H a vs/\Reps X.K (λb=>G.M0 b\/A b) H xs vs:=λA δ σ H x=>by
    have q:=x.pnd (.lst xs,v) (by simp)
    unfold GU at q;obtain⟨a,vs,e,_,l,r⟩:=q;exact⟨a,vs,e,Gz.of l,r⟩
   obtain⟨A1,x1⟩:=id s2;obtain⟨a,vs0,rfl,l0,r0⟩:=at1 _ _ _ _ x1;have hl0:=Reps.length _ _ r0;refine⟨a,vs0,rfl,l0,kk _ δ1 r _ _ H1 (λq hq=>by simp[hq]) s2 (λA δ σ i H x hi=>?_) (λA δ σ H x=>by show xs.reverse.length=vs0.length;rw[Ju,hl0]) λA δ σ i y H H2 x hi hy=>?_⟩
   ·rw[Ju] at hi;obtain⟨_,vs,e,l,r⟩:=at1 _ _ _ _ x
    cases e
    have hl1:=Reps.length _ _ r
    obtain⟨v',hv,_⟩:=Reps.get _ _ r (vs0.length-1-i) (xs[vs0.length-1-i]'(by omega)) (by simp);exact⟨by omega,vs,v',l,by omega,hv⟩
   ·rw[Ju] at hi;obtain⟨_,vs,e,l,r⟩:=at1 _ _ _ _ x
    cases e
    have hl1:=Reps.length _ _ r
    obtain⟨e,hy⟩:=hy;subst e;obtain⟨v',hv,rv⟩:=Reps.get _ _ r (vs0.length-1-i) (xs[vs0.length-1-i]'(by omega)) (by simp);have z:=hy vs l;rw[hv] at z
    cases z
    refine⟨b9.refl _,_,?_,rv⟩;have e9:xs.length-1-i=vs0.length-1-i:=by omega
    rw[List.getElem?_reverse (by omega),e9]
    exact List.getElem?_eq_getElem _⟩⟩
end
end DL
namespace DL
open PySem PySem.Spec PyProof.Rows L2
variable {k:Str} {t:SetTable} {n:Nat} {a:Addr}
def vZ(w:World):Bool:=w.params.followText "set-order"
def sOf:Value->Str
 | .str x _=>x
 | _=>⟨#[]⟩
structure TxS(P:Program)(w:World)(h:Heap)(a:Addr)(es:Array (Int×Value))(ep:Nat)(t:SetTable):Prop where
 ob:∃o,h.get? a=some o/\o.ExactSet/\o.data=.set es ep t
 el:ElemsOf (PySem.strKind P w) es.toList
 nd:(es.toList.map λe=>sOf e.2).Nodup
 few:es.size<scanBound
 fit:t.fits es.size=true
 led:t.led=!vZ w
 pl:es.size≠0->t.plain=false
section
variable {P:Program} {w:World} {h h':Heap} {a:Addr} {es:Array (Int×Value)} {ep:Nat} {t:SetTable}
theorem TxS.keep(x:TxS P w h a es ep t)(k:∀o,h.get? a=some o->h'.get? a=some o):TxS P w h' a es ep t:=by
 obtain⟨o,e,r⟩:=x.ob;exact⟨⟨o,k o e,r⟩,x.el,x.nd,x.few,x.fit,x.led,x.pl⟩
def yX{v:Value}(h:(PySem.strKind P w).is k v=true):∃t,v=.str k t:=Value.isStrOf_shape h
theorem yZ(he:ElemsOf (PySem.strKind P w) es.toList){e:Int×Value}(h:e∈es.toList):∃t,e.2=.str (sOf e.2) t:=by
 obtain⟨⟨k,hk,_⟩,_⟩:=he e h;obtain⟨t,q⟩:=yX hk;exact⟨t,by rw[q];rfl⟩
theorem Dg(he:ElemsOf (PySem.strKind P w) es.toList){e:Int×Value}(h:e∈es.toList):(PySem.strKind P w).is k e.2=true↔sOf e.2=k:=by
 obtain⟨t,q⟩:=yZ he h
 constructor
 ·intro z;obtain⟨u,z⟩:=yX z;rw[z];rfl
 ·intro z;rw[q,z];exact PySem.strKind_is P w k t
theorem om:(t.orStandIn n).led=t.led:=by
 unfold SetTable.orStandIn
 split<;>rfl
theorem sI{x:Value}{n:Int}:(layNew t es n x).2.1.led=t.led:=by
 unfold layNew
 split
 ·exact om
 ·rfl
theorem uu:(relayAll t es n).2.1.led=t.led:=by
 unfold relayAll
 split
 ·rename_i t' order e
  unfold SetTable.relaid SetTable.laid at e;simp only[Option.bind_eq_bind,Option.bind_eq_some_iff] at e;obtain⟨ow,_,e⟩:=e;have e:=Hg e;simp only[Prod.mk.injEq] at e;simp only
  split
  ·rw[<- e.1]
  ·rfl
 ·rfl
theorem pc(h:t.plain=false):(relayAll t es n).2.1.plain=false:=by
 unfold relayAll
 split
 ·rename_i t' order e
  unfold SetTable.relaid SetTable.laid at e;simp only[Option.bind_eq_bind,Option.bind_eq_some_iff] at e;obtain⟨ow,_,e⟩:=e;have e:=Hg e;simp only[Prod.mk.injEq] at e;simp only
  split
  ·rw[<- e.1];exact h
  ·rfl
 ·rfl
end
section
variable {prog:Program} {w:World} {A:Around} {E:Value→Shared→Prop} {s:Shared}
theorem qz{h:Heap}{o:Obj}{es es':Array (Int×Value)}{ep:Nat}{t':SetTable}(ho:h.get? a=some o)(hd:o.data=.set es ep t):(h.update a (Obj.putSet es' t')).get? a=some { o with data:=.set es' (ep+1) t' }:=by
 have:=Heap.get?_update_self (Obj.putSet es' t') ho (by rw[putSet_of es' t' hd];rfl)
 rw[putSet_of es' t' hd] at this;exact this
theorem zO{es:Array (Int×Value)}{ep:Nat}{tk:Tok}{Q:Bool->Shared->Prop}(hS:TxS prog w s.heap a es ep t)(hroom:es.size+1<scanBound)
  (h:∀b h' es' ep' t',Heap.SameBut a s.heap h'->TxS prog w h' a es' ep' t'->(∀y,y∈es'.toList.map (λe=>sOf e.2)↔y∈es.toList.map (λe=>sOf e.2)\/y=k)->es'.size<=es.size+1->Q b { s with heap:=h' }) :
  wpAny (model prog w) A (setAddHashed a (.str k tk) ((PySem.strKind prog w).hash k)) Q E s:=by
 obtain⟨⟨o,ho,hex,hd⟩,hel,nd,hb,hf,led,pl⟩:=id hS;have hkey:=PySem.strKind_is prog w k tk;have hsc:(Value.str k tk).scannable=true:=rfl;unfold setAddHashed setAddHashedIn;refine Ib (GX (Ij ho hd hf ?_))
 dsimp only
 rw[byScan_of hsc hb hel];simp only[↓reduceIte];unfold setAddByScan;refine GX (GX (JZ (GX (wpAny_setScan_of hkey ho hd hf hel ?_))))
 cases hr:List.findIdx? (λe=>(PySem.strKind prog w).is k e.2) es.toList with
 | some j =>
  dsimp only
  obtain⟨hj,hpj,_⟩:=List.findIdx?_eq_some_iff_getElem.mp hr;refine G2 (G2 (h false s.heap es ep t (Heap.SameBut.refl a s.heap) hS (λy=>⟨.inl,λz=>z.elim id λe=>?_⟩) (by omega)));rw[e];exact GZ.mpr ⟨_,Ia hj,(Dg hel (Ia hj)).mp hpj⟩
 | none =>
  dsimp only
  have hno:k∉es.toList.map λe=>sOf e.2:=λhm=>by
   obtain⟨e,he,ek⟩:=GZ.mp hm;have:=List.findIdx?_eq_none_iff.mp hr e he;rw[(Dg hel he).mpr ek] at this
   cases this
  have hperm:=layNew_perm t es ((PySem.strKind prog w).hash k) (.str k tk)
  have hfits:=layNew_fits t es ((PySem.strKind prog w).hash k) (.str k tk)
  have hled:=sI (t:=t) (es:=es) (n:=(PySem.strKind prog w).hash k) (x:=.str k tk)
  generalize layNew t es ((PySem.strKind prog w).hash k) (.str k tk)=L at hperm hfits hled ⊢
  obtain⟨es1,t1,wasDummy,gave⟩:=L
  dsimp only at hperm hfits hled ⊢
  rw[Array.toList_push] at hperm;have hel1:ElemsOf (PySem.strKind prog w) es1.toList:=λe he=>by
   rcases Hb.mp (hperm.mem_iff.mp he) with he | he
   ·exact hel e he
   ·rw[G9.mp he];exact⟨⟨k,hkey,rfl⟩,hsc⟩
  have hm1:(es1.toList.map λe=>sOf e.2).Perm ((es.toList.map λe=>sOf e.2)++[k]):=(hperm.map _).trans (by rw[Hj];exact JN _)
  have hn1:(es1.toList.map λe=>sOf e.2).Nodup:=hm1.nodup_iff.mpr (by
   rw[Jh]
   exact⟨nd,by simp,λx hx y hy e=>by rw[G9.mp hy] at e;exact hno (e ▸ hx)⟩)
  have hsz:es1.size=es.size+1:=by rw[<- Hx,hperm.length_eq,G8,Hx];rfl
  have hmem:∀ {es2:Array (Int×Value)},es2.toList.Perm es1.toList->∀y,y∈es2.toList.map (λe=>sOf e.2)↔y∈es.toList.map (λe=>sOf e.2)\/y=k:=λhp y=>by
   rw[((hp.map λe=>sOf e.2).trans hm1).mem_iff,Hb,G9]
  have gw:∀(b:Bool) {s₁:Shared} {Q':Unit->Shared->Prop},Q' () s₁->wpAny (model prog w) A (match b with | true=>rule "set.scan.the-table-gave-way" | false=>pure ()) Q' E s₁:=λb s₁ Q' q=>by
   cases b
   ·exact G2 q
   ·exact JZ q
  refine GX (gw _ ?_)
  have tail:∀t2:SetTable,t2.fits es1.size=true->t2.led=t.led->t2.plain=false->wpAny (model prog w) A (do
    storeSet a es1 t2
    if (!wasDummy&&t2.tooFull)=true then do
      (match (relayAll t2 es1 (SetTable.grown es1.size)).2.2 with | true=>rule "set.scan.the-table-gave-way" | false=>pure ())
      storeSet a (relayAll t2 es1 (SetTable.grown es1.size)).1 (relayAll t2 es1 (SetTable.grown es1.size)).2.1
      pure (some true)
     else pure (some true)) (λr s'=>wpAny (model prog w) A (match r with | some added=>pure added | none=>setAddHashedIn a (.str k tk) ((PySem.strKind prog w).hash k) 99999) Q E s') E s:=λt2 f2 l2 p2=>by
   refine GX (wpAny_storeSet_of ho hd ?_ (fits_of_scanBound (by omega)));have ho1:=qz (es':=es1) (t':=t2) ho hd;have sb1:=Js s.heap a (Obj.putSet es1 t2)
   split
   ·have hp:=relayAll_perm t2 es1 (SetTable.grown es1.size)
    have hfr:=relayAll_fits t2 es1 (SetTable.grown es1.size)
    have hl2:=uu (t:=t2) (es:=es1) (n:=SetTable.grown es1.size)
    have hp2:=pc (t:=t2) (es:=es1) (n:=SetTable.grown es1.size) p2
    generalize relayAll t2 es1 (SetTable.grown es1.size)=Rl at hp hfr hl2 hp2 ⊢
    obtain⟨es2,t3,g2⟩:=Rl
    dsimp only at hp hfr hl2 hp2 ⊢
    have hsz2:es2.size=es1.size:=by rw[<- Hx,hp.length_eq,Hx]
    refine GX (gw _ ?_);refine GX (wpAny_storeSet_of ho1 rfl ?_ (fits_of_scanBound (by omega)));refine G2 (G2 (h true _ es2 (ep+1+1) t3 (sb1.trans (Js _ a _)) ⟨⟨_,qz ho1 rfl,hex,rfl⟩,λe he=>hel1 e (hp.mem_iff.mp he),((hp.map λe=>sOf e.2).nodup_iff).mpr hn1,by omega,hfr,by rw[hl2,l2,led],λ_=>hp2⟩ (hmem hp) (by omega)))
   ·exact G2 (G2 (h true _ es1 (ep+1) t2 sb1 ⟨⟨_,ho1,hex,rfl⟩,hel1,hn1,by omega,f2,by rw[l2,led],λ_=>p2⟩ (hmem (JN _)) (by omega)))
  split
  ·rename_i hpl
   refine GX ?_;rw[hashByValue_scannable 8 hsc];refine G2 ?_;exact tail { t1 with plain:=false } (SetTable.fits_plain_off hfits) hled rfl
  ·rename_i hpl
   refine GX (G2 ?_);simp only[↓reduceIte];exact tail t1 hfits hled (by simpa using hpl)
end
section
variable {prog:Program} {w:World} {A:Around} {R:Result→Shared→Prop} {I:Addr} {fp wr:List Addr} {G:Array GenState→Array GenState→Prop} {n:Nat} {P:Nat→Value→Prop} {St:Nat→Shared→Prop}
theorem xu(W:WalksS prog w A.in1 I fp wr G n P St)(S:Addr)(hSf:S∉fp)(val:Nat->Str)(hval:∀i v,P i v->∃t,v=.str (val i) t)(hb:n+1<scanBound) :
  ∀(k i:Nat) (s:Shared) (es:Array (Int×Value)) (ep:Nat) (t:SetTable),n-i=k->i<=n->St i s->TxS prog w s.heap S es ep t->(∀y,y∈es.toList.map (λe=>sOf e.2)↔∃j,j<i/\y=val j)->es.size<=i ->
   (∀s' es' ep' t',Moved (S::wr) G s s'->TxS prog w s'.heap S es' ep' t'->(∀y,y∈es'.toList.map (λe=>sOf e.2)↔∃j,j<n/\y=val j)->es'.size<=n->R (.ok (.ret .none)) s') ->
   codeAny (model prog w) A (.builtin "set.update.loop" ⟨[.ref S,.ref I],[]⟩) R s:=by
 have hSw:S∉wr:=λh=>hSf (W.sub _ h)
 have hsub:∀b∈wr,b∈S::wr:=λb hb=>GY _ hb
 intro k
 induction k with
 | zero =>
  intro i s es ep t hk hi hst hS hy hz hR;obtain rfl:i=n:=by omega
  refine Jd F.entry_set_update_loop ?_;rw[IJ F.plain_set_update_loop _];refine GX (m:=pyNext (.ref I)) (W.done s _ _ hst λs' hm=>?_);exact G2 (hR s' es ep t (hm.mono hsub) (hS.keep λo e=>hm.heap S o hSw e) hy hz)
 | succ k ih =>
  intro i s es ep t hk hi hst hS hy hz hR;have hlt:i<n:=by omega
  refine Jd F.entry_set_update_loop ?_;rw[IJ F.plain_set_update_loop _];refine GX (m:=pyNext (.ref I)) (W.item i s _ _ hlt hst λv s' hP hst' hm=>?_);obtain⟨u,rfl⟩:=hval i v hP;have hS':TxS prog w s'.heap S es ep t:=hS.keep λo e=>hm.heap S o hSw e;refine GX (m:=holding [Value.str (val i) u] (setAdd S (.str (val i) u))) (Ib ?_);unfold setAdd;refine Ib (GX ((PySem.strKind prog w).pyHash (k:=val i) (PySem.strKind_is _ _ _ _) ?_));refine zO (s:={ s' with toks:=s'.toks+1 }) hS' (by omega) λb h' es' ep' t' hsb hS2 hy2 hz2=>?_;refine G2 ⟨plainId_quiet F.plain_set_update_loop _,ih (i+1) _ es' ep' t' (by omega) hlt (W.frame _ s' _ _ hst' (JK _) λb hb o e=>?_) hS2 (λy=>?_) (by omega) λs'' es3 ep3 t3 hm3 hS3 hy3 hz3=>?_⟩
  ·rw[hsb.2 b (λh:b=S=>hSf (by rw[<- h];exact hb))];exact e
  ·rw[hy2 y,hy y]
   constructor
   ·rintro(⟨j,hj,e⟩ | e)
    ·exact⟨j,by omega,e⟩
    ·exact⟨i,by omega,e⟩
   ·rintro⟨j,hj,e⟩
    by_cases hji:j<i
    ·exact .inl ⟨j,hji,e⟩
    ·have:j=i:=by omega
     exact .inr (this ▸ e)
  ·refine hR s'' es3 ep3 t3 (Moved.trans W.gtrans ((hm.mono hsub).then_heap (JK _) λb o hb e=>?_) hm3) hS3 hy3 hz3;rw[hsb.2 b (λh:b=S=>hb (by rw[h];exact G1))];exact e
end
section
variable {prog:Program} {w:World} {A:Around} {E:Value→Shared→Prop} {s:Shared}
abbrev vf(w:World):Obj:={ cls:=.type "set",dict:=none,data:=.set #[] 0 (.fresh 0 0 (!vZ w)) }
theorem C4(x:Value){Q:Value->Shared->Prop}(h:Q (.ref s.heap.objs.size) { s with heap:=s.heap.push (vf w) }):codeAny (model prog w) A (.call (.builtin "set.__new__") ⟨[.type "set",x],[]⟩) (wants Q E) s:=by
 refine codeAny_of_tree ?_;refine GX (m:=checkBuiltinCall "set.__new__" ⟨[.type "set",x],[]⟩) (wpAny_of_eq (F.newCall_set_1 x) (G2 ⟨plainId_quiet F.plain_set_new _,Jd F.entry_set_new ?_⟩));rw[IJ F.plain_set_new _];unfold Builtin.«set.__new__» Builtin.Frozenset.newClass;have hsub:=sub_set_self;obtain⟨hp,g,d,tk,os⟩:=s
 dsimp only
 wp_walk
 refine wpAny_askSetting (G2 ?_)
 dsimp only
 simp only[newObj];exact GX (wpAny_alloc (G2 (G2 h)))
def xj{h:Heap}(e:h.get? a=some (vf w)):TxS prog w h a #[] 0 (.fresh 0 0 (!vZ w)) :=
 ⟨⟨_,e,⟨rfl,rfl,rfl⟩,rfl⟩,λ_ h=>(nomatch h),Jn,by decide,rfl,rfl,λh=>absurd rfl h⟩
set_option maxRecDepth 100000 in
set_option maxHeartbeats 3200000 in
theorem wV{l:Addr}{items:Array Value}{ss:List Str}{Q:Value->Shared->Prop}(hh:A.handled=none)(hl:s.heap.IsList l items)(hi:StrsAre items.toList ss)(hb:items.size+1<scanBound)
  (h:∀h' tk es ep t,TxS prog w h' s.heap.objs.size es ep t->(∀y,y∈es.toList.map (λe=>sOf e.2)↔y∈ss)->es.size<=ss.length->(∀b o,s.heap.get? b=some o->h'.get? b=some o)->Q (.ref s.heap.objs.size) { s with heap:=h',toks:=tk }) :
  wpAny (model prog w) A (call (.type "set") [.ref l]) Q E s:=by
 have hlen:items.size=ss.length:=by rw[<- Hx];exact hi.length
 obtain⟨c,tl,hmro⟩:=F.called_set.mro;have hmade:=F.called_set.made;have hsub:=F.called_set.sub;refine wpAny_call (codeAny_of_tree ?_);show wpAny _ _ (callAny (.type "set") ⟨[.ref l],[]⟩) _ _ _;refine G2 ⟨Code.quiet_builtin _ (by decide +kernel),Jd F.entry_type_call ?_⟩;rw[Around.under_plain (weight_type_call_type "set" [.ref l] []) rfl];have h1:=F.called_set.notType;have h2:=F.called_set.canCreate;have hct:=F.typeCall_set_1 (.ref l)
 repeat (any_goals (first | assumption | wp_step))
 refine JO (C4 (.ref l) (E:=E) (Q:=λobj s₁=>obj=.ref s.heap.objs.size/\s₁={ s with heap:=s.heap.push (vf w) }) ⟨rfl,rfl⟩) λr s₁ hr=>?_
 cases r with
 | error e=>exact hr
 | ok fl =>
  cases fl with
  | ret obj =>
   obtain⟨rfl,rfl⟩:=hr;have hS:(s.heap.push (vf w)).get? s.heap.objs.size=some (vf w):=Heap.get?_push_size _ rfl;have hT:Shared.TypeIs { s with heap:=s.heap.push (vf w) } (.ref s.heap.objs.size) "set":=⟨_,hS,rfl⟩;have hli:=F.called_set.init.lookup;have hbi:=F.called_set.init.bind (.ref s.heap.objs.size)
   repeat (any_goals (first | assumption | wp_step))
   refine JO (codeAny_call_builtin (R:=wants (λr s₂=>r=.none/\∃h' tk es ep t,s₂={ s with heap:=h',toks:=tk }/\TxS prog w h' s.heap.objs.size es ep t/\(∀y,y∈es.toList.map (λe=>sOf e.2)↔y∈ss)/\es.size<=ss.length/\(∀b o,s.heap.get? b=some o->h'.get? b=some o)) E) F.called_set.init.plain F.entry_set_init (check_set_init_1 hT ?_)) λr₂ s₂ hr₂=>?_
   ·obtain⟨ol,hol,hcl,nl,hdl⟩:=hl;obtain⟨ocls,odict,odata,oslots⟩:=ol;simp only at hcl hdl;subst hcl;subst hdl;have hol':(s.heap.push (vf w)).get? l=some { cls:=.type "list",dict:=odict,data:=.seq items nl,slots:=oslots }:=Heap.get?_push_of_some _ hol;have hsls:=F.sub_list_set;have hslf:=F.sub_list_frozenset;have hne:(Value.type "list"==Value.type "dict")=false:=by decide
    have hl1:(s.heap.push (vf w)).IsList l items:=⟨_,hol',rfl,nl,rfl⟩
    unfold Builtin.«set.__init__» noKeywords Builtin.Frozenset.updateFrom;generalize hPI:pyIter=PI
    wp_walk
    subst hPI;refine Jf hl1 (GX (wpAny_runValue ?_));have hlS:l<s.heap.objs.size:=Hk hol;have hh3:A.in1.in1.in1.handled=none:=by simp[hh]
    have hneI:l≠(s.heap.push (vf w)).objs.size:=by rw[Ik];exact Hz (IM hlS)
    have hSf:s.heap.objs.size∉[(s.heap.push (vf w)).objs.size,l]:=by
     rw[Ik];simp only[List.mem_cons,List.not_mem_nil,or_false,not_or];exact⟨Hz (JU _),IY hlS⟩
    have hval:∀(i:Nat) (v:Value),items[i]?=some v->∃t,v=.str ((λi=>ss.getD i ⟨#[]⟩) i) t:=λi v hv=>by
     have hv:items.toList[i]?=some v:=by rw[Array.getElem?_toList];exact hv
     have:∀ {us:List Value} {ss:List Str},StrsAre us ss->∀(i:Nat) (v:Value),us[i]?=some v->∃t,v=.str (ss.getD i ⟨#[]⟩) t:=by
      intro us ss hu
      induction hu with
      | nil=>intro i v e;cases e
      | cons x t _ ih =>
       intro i v e
       cases i with
       | zero=>cases e;exact⟨t,rfl⟩
       | succ i=>exact ih i v (by simpa using e)
     exact this hi i v hv
    refine xu ((Walks.list hh3 _ l hneI items).toS) s.heap.objs.size hSf (λi=>ss.getD i ⟨#[]⟩) hval hb (items.size-0) 0 _ #[] 0 _ (by omega) (Ie _)
     ⟨⟨_,Heap.get?_push_size _ rfl,rfl,rfl⟩,(hl1.push _)⟩ (xj (Heap.get?_push_of_some _ hS)) (λy=>⟨λh=>(nomatch h),λ⟨j,hj,_⟩=>absurd hj (Nat.not_lt_zero _)⟩) (G3 _) ?_
    intro s' es' ep' t' hm hS' hy hz;obtain⟨h',g',d',tk',os'⟩:=s';have eg:g'=s.gens:=hm.gens;have ed:d'=s.drawn:=hm.drawn;have eo:os'=s.os:=hm.os;subst eg;subst ed;subst eo;show wpAny _ _ _ _ _ _;refine G2 (G2 ⟨rfl,h',tk',es',ep',t',rfl,hS',λy=>?_,by omega,λb o e=>?_⟩)
    ·rw[hy y]
     constructor
     ·rintro⟨j,hj,rfl⟩;have:j<ss.length:=by omega
      rw[List.getD_eq_getElem?_getD,List.getElem?_eq_getElem this];exact Ia this
     ·intro hy;obtain⟨j,hj,e⟩:=List.getElem_of_mem hy;exact⟨j,by omega,by rw[List.getD_eq_getElem?_getD,List.getElem?_eq_getElem hj];exact e.symm⟩
    ·have hb:=Hk e
     have hb1:b≠s.heap.objs.size:=Hz hb
     have hb2:b≠(s.heap.push (vf w)).objs.size:=by rw[Ik];exact Hz (IM hb)
     exact hm.heap b o (by simp only[List.mem_cons,List.not_mem_nil,or_false,not_or];exact⟨hb1,hb2⟩) (Heap.get?_push_of_some _ (Heap.get?_push_of_some _ e))
   ·cases r₂ with
    | error e=>exact hr₂
    | ok fl₂ =>
     cases fl₂ with
     | ret r =>
      obtain⟨rfl,h',tk,es,ep,t,rfl,hS',hy,hz,hk'⟩:=hr₂
      repeat (any_goals (first | assumption | wp_step))
      exact h _ _ _ _ _ hS' hy hz hk'
     | _=>exact hr₂.elim
  | _=>exact hr.elim
end
end DL
namespace DL
open PySem PySem.Spec PyProof.Rows L2
namespace FS
def slot_next:Slot "set_iterator" "__next__" "set_iterator.__next__" :=
 .of (owner:="set_iterator") (n:="__next__") (by rw[typeLookup_type,builtinLookup_eq_fast];kernel_rfl) (by decide +kernel) (by decide +kernel) (by decide +kernel) (by first | exact .inl (by decide +kernel) | exact .inr (by decide +kernel)) (by rw[isSubtype_type];kernel_rfl)
def entry_next:entryFor table "set_iterator.__next__"=some Builtin.«set_iterator.__next__»:=entryFor_of_tree (by kernel_rfl)
theorem qw:Manifest.owners.lookup (String.ofList ['r','o','t','a','r','e','t','i','_','t','e','s'].reverse)=some Manifest.sig_set_iterator:=by kernel_rfl
theorem args_next(a:Value):argsOk "set_iterator.__next__" ⟨[a],[]⟩:=by
 unfold argsOk;rw[signature?_of (id:="set_iterator.__next__") (n:=['_','_','t','x','e','n','_','_']) (o:=['r','o','t','a','r','e','t','i','_','t','e','s']) (by kernel_rfl) qw]
 kernel_rfl
def slot_self:Slot "set_iterator" "__iter__" "set_iterator.__iter__" :=
 .of (owner:="set_iterator") (n:="__iter__") (by rw[typeLookup_type,builtinLookup_eq_fast];kernel_rfl) (by decide +kernel) (by decide +kernel) (by decide +kernel) (by first | exact .inl (by decide +kernel) | exact .inr (by decide +kernel)) (by rw[isSubtype_type];kernel_rfl)
def entry_self:entryFor table "set_iterator.__iter__"=some Builtin.«dict_keyiterator.__iter__» :=
 entryFor_alias (id':="dict_keyiterator.__iter__") (by kernel_rfl) (by first | rfl | decide +kernel | (unfold String.splitOn;simp +decide [String.splitOnAux])) (by decide +kernel) (by kernel_rfl)
theorem args_self(a:Value):argsOk "set_iterator.__iter__" ⟨[a],[]⟩:=by
 unfold argsOk;rw[signature?_of (id:="set_iterator.__iter__") (n:=['_','_','r','e','t','i','_','_']) (o:=['r','o','t','a','r','e','t','i','_','t','e','s']) (by kernel_rfl) qw]
 kernel_rfl
def entry_iter:entryFor table "set.__iter__"=some Builtin.«frozenset.__iter__» :=
 entryFor_alias (id':="frozenset.__iter__") (by kernel_rfl) (by first | rfl | decide +kernel | (unfold String.splitOn;simp +decide [String.splitOnAux])) (by decide +kernel) (by kernel_rfl)
end FS
theorem gN{α:Type}:∀ {l:List α} {i:Nat} (h:i<l.length),(l[i]::l.eraseIdx i).Perm l
 | x::l,0,h=>JN _
 | x::l,i+1,h=>by
  have h':i<l.length:=Nat.lt_of_succ_lt_succ h
  show (l[i]::x::l.eraseIdx i).Perm (x::l)
  exact(List.Perm.swap _ _ _).trans (List.Perm.cons _ (gN h'))
section
variable {prog:Program} {w:World} {A:Around} {E:Value→Shared→Prop} {s:Shared}
def mh{n:Nat}{Q:Nat->Shared->Prop}(hn:n≠0)(h:∀i d,i<n->Q i { s with drawn:=d }):wpAny (model prog w) A (choose .order n) Q E s:=λΓ p hΓ=>by
 show Sem.wp (model prog w) Γ (.choose .order n _) _ _ p s
 rw[Sem.wp_choose];exact⟨hn,h _ _ (Nat.mod_lt _ (Nat.pos_of_ne_zero hn))⟩
theorem hV{α:Type}:∀(n:Nat) (xs:List α) {s:Shared} {Q:List α->Shared->Prop},n=xs.length->(∀ys d,ys.Perm xs->Q ys { s with drawn:=d })->wpAny (model prog w) A (drawOrder n xs) Q E s
 | 0,xs,s,Q,e,h=>by
  have:xs=[]:=Iv.mp e.symm
  subst this;unfold drawOrder;exact G2 (h [] s.drawn (JN _))
 | n+1,[],s,Q,e,h=>by cases e
 | n+1,x::xs,s,Q,e,h=>by
  unfold drawOrder;refine GX (mh (by simp) λi d hi=>?_);have hi':i<(x::xs).length:=hi;rw[List.getElem?_eq_getElem hi']
  dsimp only
  refine GX (hV n ((x::xs).eraseIdx i) (by rw[List.length_eraseIdx_of_lt hi'];omega) λys d' hp=>G2 (h _ d' ?_));exact(List.Perm.cons _ hp).trans (gN hi')
end
theorem iZ{α:Type}(next:Nat->Nat):∀(fuel k:Nat) (left:List α) (out:Array α),fuel=left.length->(pickOrder.go next fuel k left out).toList.Perm (out.toList++left)
 | 0,k,left,out,e=>by
  have:left=[]:=Iv.mp e.symm
  subst this;unfold pickOrder.go;rw[HJ]
 | n+1,k,[],out,e=>by cases e
 | n+1,k,x::left,out,e=>by
  unfold pickOrder.go;have hi:next k % (x::left).length<(x::left).length:=Nat.mod_lt _ (J7 _);rw[List.getElem?_eq_getElem hi]
  dsimp only
  refine(iZ next n (k+1) _ _ (by rw[List.length_eraseIdx_of_lt hi];omega)).trans ?_;rw[Array.toList_push,Ji];exact List.Perm.append_left _ (gN hi)
def B4(h:Heap)(I S:Addr)(fst:Value)(i n ep:Nat):Prop:=h.get? I=some { cls:=.type "set_iterator",dict:=none,data:=.fields #[fst,rawInt i,.ref S,rawInt n,rawInt ep],slots:=#[] }
inductive Rd3(w:World)(S:Addr)(es:Array (Int×Value))(ep:Nat)(t:SetTable):(Heap->Nat->Value->Prop)->List Value->Prop
 | text (hb:vZ w=true):Rd3 w S es ep t (λ_ _ f=>f=rawInt 0) ((pickOrder (w.params.setOrder S ep) es).toList.map (·.2))
 | drawn (hb:vZ w=false) (hs:es.size≠0) (T:Addr) (ps:List Nat) (hp:ps.Perm (List.range es.size)):Rd3 w S es ep t (λh _ f=>f=.ref T/\h.get? T=some { cls:=.type "tuple",data:=.seq (ps.map λ(i:Nat)=>rawInt i).toArray }) (ps.filterMap λi=>(es[i]?).map (·.2))
 | one (hb:vZ w=false) (hs:es.size<=1):Rd3 w S es ep t (λ_ i f=>f=rawInt (if i=0 then 0 else ((t.place[0]?).getD 0+1:Nat))) (es.toList.map (·.2))
theorem f6{α β:Type}{f:Nat->Option β}{ps:List Nat}(h:∀p∈ps,(f p).isSome=true)(i:Nat):(ps.filterMap f)[i]?=(ps[i]?).bind f:=by
 induction ps generalizing i with
 | nil=>simp
 | cons p ps ih =>
  have hp:=h p (G1 ..)
  cases e:f p with
  | none=>rw[e] at hp;cases hp
  | some x =>
   rw[HP,e]
   cases i with
   | zero=>simp[e]
   | succ i=>simpa using ih (λq hq=>h q (GY _ hq)) i
theorem kn(xs:Array Nat):SetTable.below xs 0=0:=by
 unfold SetTable.below;have:∀fuel hi,SetTable.below.go xs 0 fuel 0 hi=0:=by
  intro fuel
  induction fuel with
  | zero=>intro hi;rfl
  | succ n ih =>
   intro hi;unfold SetTable.below.go
   split
   ·rw[He (Nat.not_lt_zero _)];exact ih _
   ·rfl
 exact this _ _
theorem u7{xs:Array Nat}{j:Nat}(h:xs.size=1)(e:xs[0]?=some j):SetTable.below xs (j+1)=1:=by
 unfold SetTable.below;rw[h];unfold SetTable.below.go;have:xs.getD ((0+1) / 2) (j+1)=j:=by
  show xs.getD 0 (j+1)=j
  rw[Array.getD_eq_getD_getElem?,e];rfl
 rw[Hh (by decide)];simp only;rw[this,Hh (JU _)];rfl
section
variable {prog:Program} {w:World} {A:Around} {E:Value→Shared→Prop} {s:Shared} {I S:Addr} {es:Array (Int×Value)} {ep:Nat} {t:SetTable} {F:Heap→Nat→Value→Prop} {vs:List Value}
theorem k7(R:Rd3 w S es ep t F vs):vs.length=es.size:=by
 cases R with
 | text hb =>
  rw[GW];have:=(iZ (w.params.setOrder S ep) es.size 0 es.toList #[] (by simp)).length_eq;unfold pickOrder;simpa using this
 | drawn hb hs T ps hp =>
  have h:∀p∈ps,((es[p]?).map (·.2)).isSome=true:=λp h=>by
   have:=Ig.mp (hp.mem_iff.mp h)
   rw[Array.getElem?_eq_getElem this];rfl
  have e:=hp.length_eq
  rw[HU] at e;rw[<- e];clear e hp
  induction ps with
  | nil=>rfl
  | cons p ps ih =>
   have hp:=h p (G1 ..)
   cases e:(es[p]?).map (·.2) with
   | none=>rw[e] at hp;cases hp
   | some x=>rw[HP,e,Ha,Ha,ih λq hq=>h q (GY _ hq)]
 | one hb hs=>rw[GW,Hx]
theorem xP(R:Rd3 w S es ep t F vs):vs.Perm (es.toList.map (·.2)):=by
 cases R with
 | text hb =>
  refine List.Perm.map _ ?_;have:=iZ (w.params.setOrder S ep) es.size 0 es.toList #[] (by simp);unfold pickOrder;simpa using this
 | drawn hb hs T ps hp =>
  refine(hp.filterMap _).trans ?_;have:(List.range es.size).filterMap (λi=>(es[i]?).map (·.2))=es.toList.map (·.2):=by
   apply List.ext_getElem?;intro i;rw[f6 (α:=Nat) (λp h=>by rw[Array.getElem?_eq_getElem (Ig.mp h)];rfl)];rw[List.getElem?_map]
   by_cases hi:i<es.size
   ·rw[List.getElem?_range hi,Array.getElem?_toList];rfl
   ·rw[List.getElem?_eq_none (l:=List.range es.size) (by rw[HU];omega),List.getElem?_eq_none (l:=es.toList) (by rw[Hx];omega)];rfl
  rw[this]
 | one hb hs=>exact JN _
theorem ke(h:t.fits es.size=true):t.place.size=es.size:=by
 unfold SetTable.fits at h;simp only[Bool.and_eq_true,beq_iff_eq] at h;exact h.1
theorem gj{Q:Bool->Shared->Prop}(h:Q (vZ w) s):wpAny (model prog w) A setsByText Q E s:=by
 unfold setsByText;exact GX (wpAny_askSetting (G2 h))
theorem ms(X:TxS prog w s.heap S es ep t)(hb:vZ w=true){sl g:Nat}{Q:Option (Value×Nat)->Shared->Prop}(h:Q (((pickOrder (w.params.setOrder S ep) es)[g]?).map λe=>(e.2,sl)) s):wpAny (model prog w) A (setNext S sl g ep) Q E s:=by
 obtain⟨o,ho,hex,hd⟩:=X.ob;unfold setNext;refine GX (Ij ho hd X.fit (GX (gj ?_)));rw[hb,Hh rfl,He (by simp)];unfold setWalk;refine GX (GX (Ij ho hd X.fit (GX (gj ?_))));rw[hb,Hh rfl];exact GX (wpAny_askSetting (G2 (G2 h)))
theorem rf(X:TxS prog w s.heap S es ep t)(hb:vZ w=false)(hs:es.size<=1){sl g:Nat}{Q:Option (Value×Nat)->Shared->Prop}
  (h:Q (match es[SetTable.below t.place sl]?,t.place[SetTable.below t.place sl]? with | some (_,x),some j=>some (x,j+1) | _,_=>none) s):wpAny (model prog w) A (setNext S sl g ep) Q E s:=by
 obtain⟨o,ho,hex,hd⟩:=X.ob;have hl:t.led=true:=by rw[X.led,hb];rfl
 unfold setNext;refine GX (Ij ho hd X.fit (GX (gj ?_)));rw[hb,He G4]
 dsimp only
 have hdr:¬ (!t.plain&&decide (es.size>1))=true:=by rw[HA (by omega),Bool.and_false];exact G4
 refine Iz (λz=>absurd z hdr) λ_=>GX ?_;show wpAny _ _ (if (!t.led && !es.isEmpty)=true then unsupported "set:maker-not-led" else pure ()) _ _ _;rw[hl,He (by simp)];exact G2 (G2 h)
set_option maxHeartbeats 1000000 in
theorem Gm(R:Rd3 w S es ep t F vs)(X:TxS prog w s.heap S es ep t){i:Nat}{f v:Value}(hI:B4 s.heap I S f i es.size ep)(hF:F s.heap i f)(hv:vs[i]?=some v){Q:Option Value->Shared->Prop}
  (q:∀h' f',B4 h' I S f' (i+1) es.size ep->(∀h'':Heap,(∀b o,b≠I->s.heap.get? b=some o->h''.get? b=some o)->F h'' (i+1) f')->Heap.SameBut I s.heap h'->Q (some v) { s with heap:=h' }) :
  wpAny (model prog w) A (pyNext (.ref I)) Q E s:=by
 obtain⟨o,ho,hex,hd⟩:=X.ob;have hT:s.TypeIs (.ref I) "set_iterator":=⟨_,hI,rfl⟩;have hIS:S≠I:=λe=>by rw[e,hI] at ho;cases ho;cases hd
 have hlen:=k7 R
 have hi:i<es.size:=by rw[<- hlen];exact(List.getElem?_eq_some_iff.mp hv).1
 unfold pyNext;refine GX (wpAny_attempt (wpAny_callSpecial?_slot (name:=Str.ofString "__next__") hT FS.slot_next (HZ FS.slot_next hT FS.entry_next ?_ (FS.args_next _))));unfold Builtin.«set_iterator.__next__»;refine GX (m:=slotArgs "__next__" 0 _) (G2 ?_);refine GX (wpAny_fieldsOf hI rfl ?_)
 dsimp only
 refine GX (m:=setEntries S) (GX (Ij ho hd X.fit (G2 ?_)));rw[He (by simp)]
 cases R with
 | text hb =>
  subst hF;refine GX (m:=setNext S (0:Int).toNat (i:Int).toNat (ep:Int).toNat) (ms X hb ?_);have e:(pickOrder (w.params.setOrder S ep) es)[(i:Int).toNat]?=(pickOrder (w.params.setOrder S ep) es).toList[i]?:=by rw[Array.getElem?_toList];rfl
  rw[List.getElem?_map] at hv;rw[e]
  cases z:(pickOrder (w.params.setOrder S ep) es).toList[i]? with
  | none=>rw[z] at hv;cases hv
  | some p =>
   rw[z] at hv;obtain rfl:p.2=v:=Hg hv;refine GX (HE hI (by simp) λh1 e1 s1=>GX (HE e1 (by simp) λh2 e2 s2=>G2 ⟨_,rfl,G2 (q h2 (rawInt 0) e2 (λ_ _=>rfl) (s1.trans s2))⟩))
 | drawn hb hs T ps hp =>
  obtain⟨rfl,hT'⟩:=hF;have hTI:T≠I:=λe=>by rw[e,hI] at hT';have h9:=IB Obj.cls (Hg hT');simp at h9
  refine GX (m:=seqItems? (.ref T)) (Io hT' rfl ?_)
  dsimp only
  have hpl:ps.length=es.size:=by rw[hp.length_eq,HU]
  have hpi:i<ps.length:=by omega
  have e:((ps.map λ(i:Nat)=>rawInt i).toArray)[(i:Int).toNat]?=some (rawInt (ps[i]:Nat)):=by
   show ((ps.map λ(i:Nat)=>rawInt i).toArray)[i]?=_
   rw[List.getElem?_toArray,List.getElem?_map,List.getElem?_eq_getElem hpi];rfl
  rw[e];have hin:ps[i]<es.size:=Ig.mp (hp.mem_iff.mp (Ia hpi));have hvv:v=es[ps[i]].2:=by
   rw[f6 (α:=Nat) (λp h=>by rw[Array.getElem?_eq_getElem (Ig.mp (hp.mem_iff.mp h))];rfl),List.getElem?_eq_getElem hpi] at hv;have hv:(es[ps[i]]?).map (·.2)=some v:=hv;rw[Array.getElem?_eq_getElem hin] at hv;exact(Hg hv).symm
  refine GX (m:=setNextDrawn S ((ps[i]:Nat):Int).toNat (ep:Int).toNat) ?_;unfold setNextDrawn;refine GX (Ij ho hd X.fit ?_)
  dsimp only
  rw[He (by simp)];rw[show es[((ps[i]:Nat):Int).toNat]?=some es[ps[i]] from Array.getElem?_eq_getElem hin];refine G2 ?_;refine GX (HE hI (by simp) λh1 e1 s1=>G2 ⟨_,rfl,G2 ?_⟩);show Q (some es[ps[i]].2) _;rw[<- hvv];exact q h1 (.ref T) e1 (λh'' k=>⟨rfl,k _ _ hTI hT'⟩) s1
 | one hb hs =>
  have hz:i=0:=by omega
  subst hz;subst hF;refine GX (m:=setNext S (0:Int).toNat (0:Int).toNat (ep:Int).toNat) (rf X hb hs ?_);rw[show (0:Int).toNat=0 from rfl,kn];have hps:=ke X.fit;rw[Array.getElem?_eq_getElem (show 0<es.size by omega),Array.getElem?_eq_getElem (show 0<t.place.size by omega)];rw[List.getElem?_map,Array.getElem?_toList,Array.getElem?_eq_getElem (show 0<es.size by omega)] at hv;obtain rfl:es[0].2=v:=Hg hv;refine GX (HE hI (by simp) λh1 e1 s1=>GX (HE e1 (by simp) λh2 e2 s2=>G2 ⟨_,rfl,G2 (q h2 (rawInt ((t.place[0]?).getD 0+1:Nat)) ?_ (λ_ _=>rfl) (s1.trans s2))⟩));rw[Array.getElem?_eq_getElem (show 0<t.place.size by omega)];exact e2
theorem fh{α:Type}{Q:α->Shared->Prop}(a0:A.handled=none)(q:∀h' e,(∀b o,s.heap.get? b=some o->h'.get? b=some o)->(∃o,h'.get? e=some o/\o.cls=.type "StopIteration")->E (.ref e) { s with heap:=h' }) :
  wpAny (model prog w) A (do raiseNew (α:=α) (<- newExc (.type "StopIteration") [])) Q E s:=by
 refine GX ?_;simp only[newExc,newTuple];refine GX (HR ?_ (by size_fits));refine GX (m:=firstArgMember _ _) (wpAny_of_eq (a:=Value.none) (by first | rfl | (simp only[firstArgMember];rfl)) ?_);refine HR ?_ (by size_fits);simp only[raiseNew];refine GX (wpAny_handled ?_);rw[a0];exact GX (G2 (wpAny_throw (q _ _ (λb o e=>Heap.get?_push_of_some _ (Heap.get?_push_of_some _ e)) ⟨_,Heap.get?_push_size _ rfl,rfl⟩)))
set_option maxHeartbeats 1000000 in
theorem EX(a0:A.handled=none)(R:Rd3 w S es ep t F vs)(X:TxS prog w s.heap S es ep t){f:Value}(hI:B4 s.heap I S f es.size es.size ep)(hF:F s.heap es.size f){Q:Option Value->Shared->Prop}
  (q:∀h',(∀b o,b≠I->s.heap.get? b=some o->h'.get? b=some o)->Q none { s with heap:=h' }) :
  wpAny (model prog w) A (pyNext (.ref I)) Q E s:=by
 obtain⟨o,ho,hex,hd⟩:=X.ob;have hT:s.TypeIs (.ref I) "set_iterator":=⟨_,hI,rfl⟩;have hlen:=k7 R;have a1:A.in1.handled=none:=a0;unfold pyNext;have fin:∀(g:Heap) (e:Addr),(∀b o,b≠I->s.heap.get? b=some o->g.get? b=some o)->(∃o,g.get? e=some o/\o.cls=.type "StopIteration") ->
   wpAny (model prog w) A (do if<-isInstance (.ref e) (.type "StopIteration") then pure (none:Option Value) else throw (.ref e)) Q E { s with heap:=g }:=λg e kk ⟨oe,h1,h2⟩ =>
  GX (wpAny_isInstance (T:="StopIteration") (b:=true) ⟨oe,h1,h2⟩ isSubtype_stop (G2 (q _ kk)))
 refine GX (wpAny_attempt (wpAny_callSpecial?_slot (name:=Str.ofString "__next__") hT FS.slot_next (HZ FS.slot_next hT FS.entry_next ?_ (FS.args_next _))));unfold Builtin.«set_iterator.__next__»;refine GX (m:=slotArgs "__next__" 0 _) (G2 ?_);refine GX (wpAny_fieldsOf hI rfl ?_)
 dsimp only
 refine GX (m:=setEntries S) (GX (Ij ho hd X.fit (G2 ?_)));rw[He (by simp)]
 cases R with
 | text hb =>
  subst hF;rw[GW] at hlen;refine GX (m:=setNext S (0:Int).toNat (es.size:Int).toNat (ep:Int).toNat) (ms X hb ?_);rw[show (pickOrder (w.params.setOrder S ep) es)[(es.size:Int).toNat]?=none from Array.getElem?_eq_none (by rw[<- Hx,hlen];exact G3 _)];refine GX (HE hI (by simp) λh1 e1 s1=>fh (s:={ s with heap:=h1 }) a1 λh' e k he=>fin h' e (λb o n x=>k _ _ (s1.extBut _ _ n x)) he)
 | drawn hb hs T ps hp =>
  obtain⟨rfl,hT'⟩:=hF;refine GX (m:=seqItems? (.ref T)) (Io hT' rfl ?_)
  dsimp only
  have hpl:ps.length=es.size:=by rw[hp.length_eq,HU]
  rw[show ((ps.map λ(i:Nat)=>rawInt i).toArray)[(es.size:Int).toNat]?=none from Array.getElem?_eq_none (by rw[Hu,GW,hpl];exact G3 _)];refine GX (HE hI (by simp) λh1 e1 s1=>GX (HE e1 (by simp) λh2 e2 s2=>fh (s:={ s with heap:=h2 }) a1 λh' e k he=>fin h' e (λb o n x=>k _ _ (s2.extBut _ _ n (s1.extBut _ _ n x))) he))
 | one hb hs =>
  subst hF;have hps:=ke X.fit;have hn:es[SetTable.below t.place (if es.size=0 then 0 else ((t.place[0]?).getD 0+1:Nat))]?=none:=by
   by_cases hz:es.size=0
   ·rw[Hh hz,kn];exact Array.getElem?_eq_none (by omega)
   ·rw[He hz];have h1:t.place.size=1:=by omega
    rw[Array.getElem?_eq_getElem (show 0<t.place.size by omega)];show es[SetTable.below t.place (t.place[0]+1)]?=none;rw[u7 h1 (Array.getElem?_eq_getElem (by omega))];exact Array.getElem?_eq_none (by omega)
  have ec:rawInt ((if es.size=0 then 0 else ((t.place[0]?).getD 0+1:Nat)):Int)=rawInt ((if es.size=0 then 0 else ((t.place[0]?).getD 0+1:Nat):Nat):Int):=by
   by_cases hz:es.size=0
   ·rw[Hh hz,Hh hz];rfl
   ·rw[He hz,He hz]
  rw[ec] at hI ⊢;generalize (if es.size=0 then 0 else ((t.place[0]?).getD 0+1:Nat):Nat)=sl at hn hI ⊢;refine GX (m:=setNext S (sl:Int).toNat (es.size:Int).toNat (ep:Int).toNat) (rf X hb hs ?_);rw[JJ,hn];refine GX (HE hI (by simp) λh1 e1 s1=>fh (s:={ s with heap:=h1 }) a1 λh' e k he=>fin h' e (λb o n x=>k _ _ (s1.extBut _ _ n x)) he)
theorem Fc(X:TxS prog w s.heap S es ep t){Q:Value->Shared->Prop}
  (q:∀h' d I f F vs,Rd3 w S es ep t F vs->B4 h' I S f 0 es.size ep->F h' 0 f->s.heap.objs.size<=I->(∀b o,s.heap.get? b=some o->h'.get? b=some o)->(∀b,s.heap.objs.size<=b->∀o,h'.get? b=some o->b<=I)->Q (.ref I) { s with heap:=h',drawn:=d }) :
  wpAny (model prog w) A (pyIter (.ref S)) Q E s:=by
 obtain⟨o,ho,hex,hd⟩:=X.ob;have hT:s.TypeIs (.ref S) "set":=⟨o,ho,hex.1⟩;refine wpAny_pyIter_slot hT PySem.F.slot_set_iter (HZ PySem.F.slot_set_iter hT FS.entry_iter ?_ (PySem.F.args_set_iter_1 _));unfold Builtin.«frozenset.__iter__»;refine GX (m:=Builtin.Frozenset.slot0 "__iter__" _) (G2 ?_);refine GX (m:=Builtin.Frozenset.sizeOf S) (GX (m:=setEntries S) (GX (Ij ho hd X.fit (G2 (G2 ?_)))));refine GX (m:=setDrawn S) (GX (Ij ho hd X.fit (GX (gj (G2 ?_)))))
 dsimp only
 have tail:∀(h1:Heap) (d:Drawn) (f:Value) (F:Heap->Nat->Value->Prop) (vs:List Value),Rd3 w S es ep t F vs->(∀o:Obj,F (h1.push o) 0 f)->s.heap.objs.size<=h1.objs.size->(∀b o,s.heap.get? b=some o->h1.get? b=some o) ->
   wpAny (model prog w) A.in1 (do ret (<- newFields "set_iterator" [f,rawInt 0,.ref S,rawInt es.size,rawInt (<- setEpoch S)]))
    (λfin s'=>∃v,fin=Fin.done (Flow.ret v)/\∃T' r,s'.TypeIs v T'/\typeLookup (.type T') "__next__"=pure (some r)/\Q v s') E { s with heap:=h1,drawn:=d }:=λh1 d f F vs R hF hz hk=>by
  refine GX (wpAny_setEpoch_of (s:={ s with heap:=h1,drawn:=d }) (hk _ _ ho) hd X.fit ?_);refine GX (HR ?_);refine G2 ⟨_,rfl,"set_iterator",_,⟨_,Heap.get?_push_size _ rfl,rfl⟩,FS.slot_next.lookup,?_⟩;exact q _ d h1.objs.size f F vs R (Heap.get?_push_size _ rfl) (hF _) hz (λb o e=>Heap.get?_push_of_some _ (hk b o e)) λb _ o e=>by
   have:=Hk e
   rw[Ik] at this;exact Nat.le_of_lt_succ this
 cases hb:vZ w with
 | true =>
  refine Iz (λz=>by simp at z) λ_=>?_;exact GX (G2 (tail s.heap s.drawn _ _ _ (.text hb) (λ_=>rfl) (G3 _) λb o e=>e))
 | false =>
  by_cases hs:es.size<=1
  ·have hdr:¬ (!t.plain&&decide (es.size>1))=true:=by rw[HA (by omega),Bool.and_false];exact G4
   refine Iz (λz=>absurd (Hn.mp z).2 hdr) λ_=>?_;exact GX (G2 (tail s.heap s.drawn _ _ _ (.one hb hs) (λ_=>rfl) (G3 _) λb o e=>e))
  ·have hdr:(!t.plain&&decide (es.size>1))=true:=by rw[X.pl (by omega),HG (show es.size>1 by omega)];rfl
   refine Iz (λ_=>?_) λz=>absurd (show (!false&&_)=true from hdr) z;refine GX (hV _ _ (by rw[HU]) λys d hp=>?_);refine GX (wpAny_newTuple ?_ (by rw[GW,hp.length_eq,HU];exact G0 (IX X.few) (by decide)))
   ·exact tail _ d _ _ _ (.drawn hb (by omega) s.heap.objs.size ys hp) (λ_=>⟨rfl,Heap.get?_push_of_some _ (Heap.get?_push_size _ rfl)⟩) (by rw[Ik];exact JK _) λb o e=>Heap.get?_push_of_some _ e
end
end DL
namespace DL
open PySem PySem.Spec PyProof.Rows L2
section
variable {prog:Program} {w:World} {A:Around} {E:Value→Shared→Prop} {s:Shared} {I S:Addr} {es:Array (Int×Value)} {ep:Nat} {t:SetTable} {F:Heap→Nat→Value→Prop} {vs:List Value}
theorem Cc(R:Rd3 w S es ep t F vs):∃fx:List Addr,(∀h h' i f,(∀b∈fx,∀o,h.get? b=some o->h'.get? b=some o)->F h i f->F h' i f)/\∀h i f,F h i f->∀b∈fx,∃o,h.get? b=some o/\o.cls=.type "tuple":=by
 cases R with
 | text hb=>exact⟨[],λ_ _ _ _ _ h=>h,λ_ _ _ _ _ h=>(nomatch h)⟩
 | drawn hb hs T ps hp=>exact⟨[T],λh h' i f k x=>⟨x.1,k T (by simp) _ x.2⟩,λh i f x b hb=>by rw[G9.mp hb];exact⟨_,x.2,rfl⟩⟩
 | one hb hs=>exact⟨[],λ_ _ _ _ _ h=>h,λ_ _ _ _ _ h=>(nomatch h)⟩
theorem tU{f:Value}{i n:Nat}(hI:B4 s.heap I S f i n ep){Q:Value->Shared->Prop}(q:Q (.ref I) s):wpAny (model prog w) A (pyIter (.ref I)) Q E s:=by
 have hT:s.TypeIs (.ref I) "set_iterator":=⟨_,hI,rfl⟩
 refine wpAny_pyIter_slot hT FS.slot_self (HZ FS.slot_self hT FS.entry_self ?_ (FS.args_self _));show wpAny _ _ (ret (.ref I)) _ _ s;exact G2 ⟨_,rfl,"set_iterator",_,hT,FS.slot_next.lookup,q⟩
def C2(a0:A.handled=none)(R:Rd3 w S es ep t F vs){fx:List Addr}(k1:∀h h' i f,(∀b∈fx,∀o,h.get? b=some o->h'.get? b=some o)->F h i f->F h' i f)
  (k2:∀h i f,F h i f->∀b∈fx,∃o,h.get? b=some o/\o.cls=.type "tuple") :
  Walks prog w A I (I::S::fx) [I] es.size (λi v=>vs[i]?=some v) (λi h=>TxS prog w h S es ep t/\∃f,B4 h I S f i es.size ep/\F h i f) where
 sub:=λb hb=>by rw[G9.mp hb];exact G1 ..
 frame:=λi h h' ⟨X,f,hI,hF⟩ k=>⟨X.keep λo e=>k S (by simp) o e,f,k I (by simp) _ hI,k1 h h' i f (λb hb o e=>k b (by simp[hb]) o e) hF⟩
 item:=λi s Q E hi ⟨X,f,hI,hF⟩ hQ=>by
  have hlen:=k7 R
  have hv:vs[i]?=some vs[i]:=List.getElem?_eq_getElem (by omega)
  obtain⟨o,ho,hex,hd⟩:=X.ob;have hIS:S≠I:=λe=>by rw[e,hI] at ho;cases ho;cases hd
  refine Gm R X hI hF hv λh' f' e1 e2 sb=>hQ vs[i] h' s.toks hv ⟨X.keep λo e=>sb.extBut _ _ hIS e,f',e1,e2 h' λb o n e=>sb.extBut _ _ n e⟩ λb o hb e=>sb.extBut _ _ (λz=>hb (by simp[z])) e
 done:=λs Q E ⟨X,f,hI,hF⟩ hQ=>EX a0 R X hI hF λh' k=>hQ h' s.toks λb o hb e=>k b o (λz=>hb (by simp[z])) e
 self:=λi s Q E ⟨X,f,hI,hF⟩ hQ=>tU hI hQ
theorem FZ(hT:s.TypeIs (.ref S) "set"){Q:Bool->Shared->Prop}(h:Q false s):wpAny (model prog w) A (Builtin.List.listLengthHint (.ref S)) Q E s:=by
 unfold Builtin.List.listLengthHint;refine GX (wpAny_specialOf hT PySem.F.slot_set_len.lookup ?_);generalize hid:("set.__len__":String)=id0
 wp_delta
 rw[show splitId id0=some ("set","__len__") from by subst hid;decide +kernel];subst hid;refine GX (wpAny_isInstance (T:="set") (b:=true) hT (by rw[isSubtype_type];kernel_rfl) ?_);refine Iz (λz=>absurd z (by decide)) λ_=>Iz (λ_=>?_) λz=>absurd (by decide +kernel) z;exact GX (wpAny_typeOf hT (G2 h))
set_option maxHeartbeats 2000000 in
theorem xx(a0:A.handled=none)(X:TxS prog w s.heap S es ep t){Q:List Value->Shared->Prop}
  (q:∀h' d tk (ys:List Value),ys.Perm (es.toList.map (·.2))->(∀b o,s.heap.get? b=some o->h'.get? b=some o)->Q ys { s with heap:=h',drawn:=d,toks:=tk }):wpAny (model prog w) A (collect (.ref S)) Q E s:=by
 obtain⟨o,ho,hex,hd⟩:=X.ob;have hSL:S≠s.heap.objs.size:=Hz (Hk ho);have hn:es.size<=sizeLine:=G0 (IX X.few) (by decide);unfold collect;refine GX (wpAny_runValue (Jd entry_proto_collect' ?_));rw[IJ PySem.F.plain_proto_collect _];show wpAny _ A.in1 (newList [] >>= λl=>again (.builtin "list.__iadd__" ⟨[l,.ref S],[]⟩)) _ _ s;refine GX (HR (G2 ⟨plainId_quiet PySem.F.plain_list_iadd _,Jd entry_list_iadd' ?_⟩));rw[IJ PySem.F.plain_list_iadd _];have hL:(s.heap.push { cls:=.type "list",data:=.seq ([]:List Value).toArray }).get? s.heap.objs.size=some { cls:=.type "list",data:=.seq #[] }:=Heap.get?_push_size _ rfl;have X1:TxS prog w (s.heap.push { cls:=.type "list",data:=.seq ([]:List Value).toArray }) S es ep t:=X.keep λo e=>Heap.get?_push_of_some _ e;have hT:Shared.TypeIs { s with heap:=s.heap.push { cls:=.type "list",data:=.seq ([]:List Value).toArray } } (.ref S) "set":=⟨o,Heap.get?_push_of_some _ ho,hex.1⟩;show wpAny _ A.in1 (Builtin.List.listExtendWith (.ref s.heap.objs.size) (.ref S) (.ref s.heap.objs.size)) _ _ _;unfold Builtin.List.listExtendWith;refine GX (wpAny_typeOf hT ?_);have h1:Builtin.List.listSameRef (.ref s.heap.objs.size) (.ref S)=false:=by simp[Builtin.List.listSameRef,Ne.symm hSL]
 have n1:(Value.type "set"==Value.type "list")=false:=by decide
 have n2:(Value.type "set"==Value.type "tuple")=false:=by decide
 simp only[h1,n1,n2,Bool.or_false,Bool.false_eq_true,if_false];refine GX (Fc (s:={ s with heap:=s.heap.push { cls:=.type "list",data:=.seq ([]:List Value).toArray } }) X1 λh' d I f F vs R hI hF hge hk hle=>?_);obtain⟨fx,k1,k2⟩:=Cc R;have hL':=hk _ _ hL;have X2:TxS prog w h' S es ep t:=X1.keep λo e=>hk _ _ e;refine GX (Ib (FZ (s:={ s with heap:=h',drawn:=d }) ⟨o,hk _ _ (Heap.get?_push_of_some _ ho),hex.1⟩ ?_));have hge:s.heap.objs.size<I:=by rw[Ik] at hge;exact hge
 have hLf:s.heap.objs.size∉I::S::fx:=λhm=>by
  rcases G7.mp hm with e | hm
  ·exact HX _ (e ▸ hge)
  ·rcases G7.mp hm with e | hm
   ·exact hSL e.symm
   ·obtain⟨oo,e1,e2⟩:=k2 _ _ _ hF _ hm;rw[hL'] at e1
    cases e1
    simp at e2
 have a2:A.in1.handled=none:=a0
 have key:∀(h2:Heap) (c:Nat),(∀b o,b≠s.heap.objs.size->h'.get? b=some o->h2.get? b=some o)->h2.get? s.heap.objs.size=some { cls:=.type "list",data:=.seq #[] c } ->
   codeAny (model prog w) A (.builtin "list.extend.loop" ⟨[.ref s.heap.objs.size,.ref I,.ref s.heap.objs.size],[]⟩) (λr s'=>match r with
    | .ok (.ret v)=>wpAny (model prog w) A (match v with | .ref a=>(do match (<- load a).data with | .seq xs _=>pure xs.toList | _=>unsupported "internal:collect") | _=>unsupported "internal:collect") Q E s'
    | .ok _=>False
    | .error e=>E e s') { s with heap:=h2,drawn:=d }:=λh2 c hk2 hL2=>by
  refine codeAny_extend_loopS ((C2 a2 R k1 k2).toS) hn s.heap.objs.size hLf (.ref s.heap.objs.size) es.size 0 _ #[] c rfl (Ie _) ⟨X2.keep λo e=>hk2 _ _ hSL e,f,hk2 _ _ (IY hge) hI,k1 _ _ _ _ (λb hb o e=>hk2 b o (λz=>hLf (by rw[<- z];simp[hb])) e) hF⟩ hL2 (ItemsOf.nil _) λs' acc c' hm hS' hacc=>?_;refine GX (wpAny_load hS' (G2 ?_));rw[Moved.eq_with hm];have hv:acc.toList=vs:=by
   apply List.ext_getElem?;intro j;have hl:=k7 R
   by_cases hj:j<es.size
   ·have hja:j<acc.size:=by rw[hacc.1];exact hj
    have e1:acc.toList[j]?=some acc[j]:=by rw[Array.getElem?_toList];exact Array.getElem?_eq_getElem hja
    rw[e1,hacc.2 j acc[j] (by rw[<- Array.getElem?_toList];exact e1)]
   ·rw[List.getElem?_eq_none (by rw[Hx,hacc.1];omega),List.getElem?_eq_none (by omega)]
  rw[hv];refine q s'.heap d s'.toks vs (xP R) λb o e=>hm.heap b o (λz=>?_) (hk2 b o (Hz (Hk e)) (hk b o (Heap.get?_push_of_some _ e)));have hb:=Hk e
  rcases G7.mp z with z | z
  ·exact HX _ (z ▸ hb)
  ·have z:=G9.mp z
   rw[z] at hb;exact JR hb hge
 refine Iz (λ_=>?_) λz=>absurd (by decide) z;refine GX (JZ (GX ?_));show wpAny _ _ (updateSeq s.heap.objs.size (·.push .none) >>= λ_=>updateSeq s.heap.objs.size (·.pop)) _ _ _;refine GX (wpAny_updateSeq hL' rfl ?_);have hL2:=Heap.get?_update_self (Obj.mapSeq (·.push Value.none)) hL' rfl;refine wpAny_updateSeq (hz:=by seq_fits) hL2 rfl ?_;have hL3:=Heap.get?_update_self (Obj.mapSeq (·.pop)) hL2 rfl;refine G2 ⟨plainId_quiet PySem.F.plain_extend_loop _,JO (key _ _ (λb o n e=>?_) hL3) λr s' h=>?_⟩
 ·exact(Heap.get?_update_other _ _ (J8 n)).trans ((Heap.get?_update_other _ _ (J8 n)).trans e)
 ·cases r with
  | error e=>exact h
  | ok fl =>
   cases fl with
   | ret v=>exact h
   | _=>exact h.elim
end
theorem mN{es:Array (Int×Value)}{ys:List Value}(he:∀e∈es.toList,∃t,e.2=.str (sOf e.2) t)(hp:ys.Perm (es.toList.map (·.2))):StrsAre ys (ys.map sOf):=by
 have:∀ys:List Value,(∀y∈ys,∃t,y=.str (sOf y) t)->StrsAre ys (ys.map sOf):=by
  intro ys
  induction ys with
  | nil=>intro _;exact .nil
  | cons y ys ih =>
   intro h;obtain⟨t,e⟩:=h y (G1 ..);rw[Hm];have:=ih λz hz=>h z (GY _ hz);rw[e];exact .cons _ _ this
 refine this ys λy hy=>?_;obtain⟨e,h1,rfl⟩:=GZ.mp (hp.mem_iff.mp hy);exact he e h1
section
variable {X:Cx} {e:Expr} {p p2 pos pos2:Pos} {te:TE}
def ue{pins:List (Addr×Obj)}{σ:L2.St}{H:Hp}{s:Shared}(I:L2.Inv X pins σ H s)(d:Drawn):L2.Inv X pins σ H { s with drawn:=d }:=⟨I.ok,I.os,I.bare,I.base,I.loc,I.cell,I.free,I.freeC,I.pin,I.hok,I.len⟩
def tSS(te:TE):TE:=λσ H Q=>te σ H λx H1=>∃(a:Addr) (ss:List Str),x=.ref a/\H1 a=some (.lst (ss.map V.str))/\ss.length<64/\∀(ss':List Str) (b:Addr),ss'.Nodup->(∀y,y∈ss'↔y∈ss)->Srt ss'->H1 b=none->Q (.ref b) (GC H1 b (.lst (ss'.map V.str)))
theorem Fy(hc:X.calm=true)(hg:Gl X "sorted")(hm:X.mg "sorted"=none)(hg2:Gl X "set")(hm2:X.mg "set"=none)(he:PE X e te)
  (hs:starEach [e] X.env=[(false,eval e X.env)]:=by rfl) (hs1:starEach [.Call (.Name "set" p2) [e] [] pos2] X.env=[(false,eval (.Call (.Name "set" p2) [e] [] pos2) X.env)]:=by rfl) :
  PE X (.Call (.Name "sorted" p) [.Call (.Name "set" p2) [e] [] pos2] [] pos) (tSS te):=by
 have hin:PE X (.Call (.Name "set" p2) [e] [] pos2) (λ_ _ _=>False):=λ_ _ _ _ _ _ h=>h.elim
 intro pins s σ H Q I h;refine IV (gd I hg hm eB ?_);refine PyProof.Rows.callWith_builtin1 ?_ hs1 rfl;rw[hs1];refine IU ?_;show wpAny _ _ (eval (.Call (.Name "set" p2) [e] [] pos2) X.env) _ _ _;refine IV (gd I hg2 hm2 Gc ?_);refine HY ?_ hs rfl;rw[hs];refine IU (GE (he pins s σ H _ I h) λu s1 ⟨x,H1,I1,rx,a,ss,ex,ha,hl,q⟩=>JI ?_);subst ex
 cases rx
 obtain⟨its,rv,pl,_⟩:=I1.list (Gz.of ha);have hs2:=dk rv;have hz:its.length=ss.length:=by rw[<- rv.length,GW]
 refine wV (I1.ok.hd hc) pl.isList (by simpa using hs2) (by rw[Hu,hz];exact Nat.lt_trans (Nat.succ_lt_succ hl) (by decide)) λh' tk es ep t X1 hy hn hk=>JI ?_;have I2:L2.Inv X pins σ H1 { s1 with heap:=h',toks:=tk }:=I1.kept (t':=tk) hk;refine Jm kind_sorted plain_sorted entry_sorted (args_sorted1 _) ?_;unfold Builtin.«sorted»;refine GX (m:=checkCount "sorted" 1 1 _) (G2 ?_);refine GX (xx (A:=X.A.in1) (s:={ s1 with heap:=h',toks:=tk }) (I1.ok.hd hc) X1 λh2 d tk2 ys hp hk2=>?_);have hS:=mN (λe h=>yZ X1.el h) hp;have hm:(ys.map sOf).Perm (es.toList.map λe=>sOf e.2):=by
  have:=hp.map sOf
  rwa [HB] at this
 have hyl:ys.length<64:=by
  have e0:=hp.length_eq
  rw[GW] at e0;have e1:es.toList.length=es.size:=Hx;omega
 refine GX (wpAny_newList ?_ (dI (by omega)));have hoL:(h2.push { cls:=.type "list",data:=.seq ys.toArray }).get? h2.objs.size=some (seqObj "list" ys.toArray 0):=Heap.get?_push_size _ rfl;refine GX (Ib (gJ (s:={ s1 with heap:=h2.push { cls:=.type "list",data:=.seq ys.toArray },drawn:=d,toks:=tk2 }) hoL hS hyl λout ss' h1 h2' h3=>?_));refine G2 ⟨_,rfl,?_⟩;obtain⟨ep2,he2⟩:=sortedHeap_at (out:=out) hoL;have I3:L2.Inv X pins σ H1 { s1 with heap:=h2,drawn:=d,toks:=tk2 }:=ue (I2.kept (t':=tk2) hk2) d;have kp:∀b o,h2.get? b=some o->(sortedHeap (h2.push { cls:=.type "list",data:=.seq ys.toArray }) h2.objs.size ys out).get? b=some o:=λb o e=>by
  have hb:=Hk e
  rw[sortedHeap_old (Hz hb) (by rw[Ik];exact IM hb)];exact Heap.get?_push_of_some _ e
 have hz2:(ss'.map V.str).length<=sizeLine:=by rw[GW,h2'.length_eq,GW];exact dI (by omega)
 have I4:L2.Inv X pins σ (GC H1 h2.objs.size (.lst (ss'.map V.str))) { s1 with heap:=sortedHeap (h2.push { cls:=.type "list",data:=.seq ys.toArray }) h2.objs.size ys out,drawn:=d,toks:=tk2 } :=
  I3.laid (t':=tk2) kp (G3 _) (show bN X.prog X.w _ _ _ (.lst (ss'.map V.str)) from⟨hz2,out.toList,ep2,cq h1,he2⟩)
 have fr:H1 h2.objs.size=none:=I3.hok.fresh (G3 _)
 exact⟨.ref _,_,I4,rfl,q ss' _ ((h2'.trans hm).nodup_iff.mpr X1.nd) (λy=>((h2'.trans hm).mem_iff).trans (hy y)) h3 fr⟩
end
def dSS(te:GS)(δ:En)(R:W->En->Prop):Prop:=te δ (wd λd δ1=>∃ss:List Str,d=.lst (ss.map D.str)/\ss.length<64/\∀ss',ss'.Nodup->(∀y,y∈ss'↔y∈ss)->Srt ss'->R (.d (.lst (ss'.map D.str))) δ1)
theorem Cb{X:Cx}{e:Expr}{p p2 pos pos2:Pos}{te:GS}(hc:X.calm=true)(hg:Gl X "sorted")(hm:X.mg "sorted"=none)(hg2:Gl X "set")(hm2:X.mg "set"=none)(he:DE X e te)
  (hs:starEach [e] X.env=[(false,eval e X.env)]:=by rfl) (hs1:starEach [.Call (.Name "set" p2) [e] [] pos2] X.env=[(false,eval (.Call (.Name "set" p2) [e] [] pos2) X.env)]:=by rfl) :
  DE X (.Call (.Name "sorted" p) [.Call (.Name "set" p2) [e] [] pos2] [] pos) (dSS te) :=
 PE.imp (Fy hc hg hm hg2 hm2 he hs hs1) λσ H Q ⟨G,δ,P,R,s,h,k,_⟩=>up.mk s h λd δ1 ⟨ss,e,hl,r⟩ v H1 s1=>by
  subst e;obtain⟨A,x⟩:=id s1;have q:=x.pnd (.lst (ss.map D.str),v) (by simp);unfold GU at q;obtain⟨a,vs,rfl,_,ha,rs⟩:=q
  cases dR rs
  refine⟨a,ss,rfl,ha,hl,λss' b nd hy st hb=>k _ δ1 (r ss' nd hy st) _ _ ⟨A,((x.same (aI hb _)).sub (P':=P) λp hp=>by simp[hp]).push ?_⟩⟩;unfold GU;exact⟨b,_,rfl,λz=>x.mem b z hb,aC,cm ss'⟩
end DL
namespace DL
open PySem PySem.Spec PyProof.Rows L2
variable {a:Addr} {ks:List Str} {o:Obj}
section
variable {K:PySem.W.Frag} {G:Gf} {A:Addr→Prop} {δ:List Sl} {P:List (D×V)} {σ:L2.St} {H:Hp}
theorem Sx.freezeF{i:Nat}{ds:List D}(s:Sx K G A δ P σ H)(hi:δ[i]?=some (.own a (.dct ks ds)))(hp:¬ G.M0 a) :
  ∃kvs,H a=some (.dK kvs)/\Sx K G (λb=>A b/\b≠a) (δ.set i (.dat (.fd ks ds))) P σ (GC H a (.frz o (.dK kvs))):=by
 obtain⟨si,ai,vs,hH,l,rs⟩:=s.own i a _ hi;refine⟨_,hH,?_⟩;have hk:∀b u,b≠a->H b=some u->GC H a (.frz o (.dK (aO ks vs))) b=some u:=λb u n e=>by rw[aH n];exact e
 have kp:Kp (λb=>G.M0 b\/A b) H (GC H a (.frz o (.dK (aO ks vs)))) :=
  ⟨λb u e n=>hk b u (λz=>n (.inr (by rw[z];exact ai))) e,λb xs e=>hk b _ (λz=>by rw[z,hH] at e;cases e) e,λb u v e=>hk b _ (λz=>by rw[z,hH] at e;cases e) e⟩
 have hM:∀b,(G.M0 b\/(A b/\b≠a))->(G.M0 b\/A b):=λb h=>h.elim .inl λz=>.inr z.1
 have dn:∀d v,GU K (λb=>G.M0 b\/A b) H d v->GU K (λb=>G.M0 b\/(A b/\b≠a)) (GC H a (.frz o (.dK (aO ks vs)))) d v:=λd v r=>GU.more (λb z=>.inl (hM b z)) _ _ (GU.kp kp _ _ r)
 have stay:∀b,H b≠none->GC H a (.frz o (.dK (aO ks vs))) b≠none:=λb e=>by
  by_cases z:b=a
  ·rw[z,aC];exact λq=>nomatch q
  ·rw[aH z];exact e
 refine⟨λb u e n=>hk b u (λz=>?_) (s.old b u e n),λb e=>stay b (s.stay b e),s.m0,s.pm,λb h=>s.new b h.1,λb h=>stay b (s.thr b h.1),by rw[HS,s.len],λj x e=>?_,λj b x e=>?_,λj k b x y h1 h2=>?_,λp hp=>dn _ _ (s.pnd p hp)⟩
 ·subst z;exact(s.new b ai).elim (λq=>by rw[q] at e;cases e) λq=>n q
 ·rcases aW e with⟨hij,z,_⟩ | ⟨hij,e⟩
  ·cases z;subst hij
   refine⟨.ref a,si,?_⟩;unfold GU;exact⟨a,vs,o,rfl,aC,l,Reps.more (λb z=>.inl (hM b z)) _ _ (Reps.kp kp _ _ rs)⟩
  ·obtain⟨v,q,r⟩:=s.dat j x e;exact⟨v,q,dn _ _ r⟩
 ·rcases aW e with⟨_,z,_⟩ | ⟨hij,e9⟩
  ·cases z
  ·clear e;obtain⟨q,r,w⟩:=s.own j b x e9;have hb:b≠a:=λz=>by rw[z] at e9;exact hij (s.inj _ _ _ _ _ hi e9)
   exact⟨q,⟨r,hb⟩,bq.more (λb z=>.inl (hM b z)) (bq.kp kp (by rw[aH hb]) w)⟩
 ·rcases aW h1 with⟨_,z,_⟩ | ⟨_,e1⟩
  ·cases z
  ·rcases aW h2 with⟨_,z,_⟩ | ⟨_,e2⟩
   ·cases z
   ·exact s.inj j k b x y e1 e2
end
def ln(i:Nat)(t:TDS)(R:a6)(δ:En):Prop:=qWD δ[i]? λ_ ks ds=>jO δ i (.dat (.fd ks ds)) (t R)
theorem i6{X:Cx}(i:Nat){st:List Stmt}{u:TDS}(h:DSs X st u):DSs X st (ln i u):=by
 rintro pins s σ H D I ⟨G,δ,P,R,⟨A,x⟩,hu,k⟩;replace hu:=qWD.ex hu;obtain⟨a,ks,ds,e,hu⟩:=hu;have hp:¬ G.M0 a:=λz=>(x.new a (x.own i a _ e).2.1).elim (λq=>x.m0 a z q) λq=>(x.pm a q).2 z;obtain⟨si,ai,vs,hH,l,rs⟩:=x.own i a _ e;obtain⟨hz,lo,va,ra,da⟩:=tz I.hok hH;obtain⟨o,es,ep,ho,r9⟩:=id da;obtain⟨kvs,hH2,y⟩:=x.freezeF (o:=o) e hp;rw[hH] at hH2
 cases hH2
 have I2:L2.Inv X pins σ (GC H a (.frz o (.dK (aO ks vs)))) s:=I.write (x:=a) (e:=a) (t':=s.toks) (h':=s.heap) (by rw[hH];trivial) (.inl rfl) (λb u _ q=>q) ⟨o,ho⟩ ⟨ho,hz,lo,va,ra,da⟩
 exact h pins s σ _ D I2 ⟨G,_,P,R,⟨_,y⟩,hu,k⟩
def Itd(a:Addr)(o:Obj)(ks:List Str):It :=
  ⟨λi H=>i<ks.length/\∃vs,vs.length=ks.length/\H a=some (.frz o (.dK (aO ks vs))),
   λi H v H'=>H'=H/\∃x,ks[i]?=some x/\v=.str x,
   λi H=>i=ks.length/\∃vs,vs.length=ks.length/\H a=some (.frz o (.dK (aO ks vs)))⟩
theorem tI{X:Cx}{pins:List (Addr×Obj)}{σ:L2.St}{H:Hp}{s:Shared}{vs:List V}{es:Array DictEntry}{ep:Nat}(I:L2.Inv X pins σ H s)(hd:o.data=.dict es ep)(hl:vs.length=ks.length)(e:H a=some (.frz o (.dK (aO ks vs)))) :
  ∃va,KV (aO ks vs) va/\va.length=ks.length/\(a==sysModules)=false/\s.heap.DictAt (aX X.prog X.w) a va ep:=by
 obtain⟨ho,hz,lo,va,ra,da⟩:=I.hok a _ e;obtain⟨ep',dt⟩:=da.dictAt;obtain⟨o',es',ho',r1,r2,r3⟩:=id dt;rw[ho] at ho'
 cases ho'
 rw[hd] at r2
 cases r2
 refine⟨va,ra,?_,lo,dt⟩;rw[<- ra.length];unfold aO;rw[Ih,GW];omega
theorem vG{P:Program}{w:World}{K:PySem.W.Frag}{tg:Expr}{it:Addr}{es:Array DictEntry}{ep:Nat}(hd:o.data=.dict es ep):yW P w K tg (Itd a o ks) [it] it (λi h=>h.IsKeyIter it a i ks.length ep) where
 mem:=by simp
 obj:=λi h st b hb=>by
  have e:b=it:=by simpa using hb
  subst e;obtain⟨o,ho,_,d⟩:=st;exact⟨o,ho,λv=>by rw[d];nofun⟩
 keep:=λi h h' st k=>st.at λo e=>k it (by simp) o e
 item:=by
  intro X hP hw hK hc i pins s σ H E I hf st hg;subst hP hw hK;obtain⟨f0,f1,f2,f3,f4,f5⟩:=hf it (by simp);obtain⟨hi,vs,hl,e⟩:=hg;obtain⟨va,ra,lv,lo,dt⟩:=tI I hd hl e;rw[<- lv] at st;obtain⟨⟨k,v⟩,hx⟩:∃p,va[i]?=some p:=⟨va[i]'(by omega),by simp[show i<va.length by omega]⟩;obtain⟨⟨k2,v2⟩,q1,z1,_⟩:=jj ra hx;obtain⟨x,rfl,kx,_⟩:=lG q1;simp only at z1;subst z1;refine wpAny_pyNext_dict_item st dt hx λkey h' hkey hit' sb=>⟨_,rfl,?_⟩;rw[lv] at hit';obtain⟨oi,ho,hoc,hod⟩:=id hit';have I1:Inv X pins σ H { s with heap:=h' }:=I.turned (t':=s.toks) (λb o hb e=>sb.extBut b o hb e) f0 f1 f3 f4 f5;have hkey:Value.isStrOf x key=true:=hkey;obtain⟨t,rfl⟩:=Value.isStrOf_shape hkey;exact vC (s:={ s with heap:=h' }) (n:="dict_keyiterator") ho hoc hod (by decide) ⟨.str x,H,I1,⟨t,rfl⟩,⟨rfl,x,kx,rfl⟩,hit',λb hb=>(hf b hb).1⟩
 done:=by
  intro X hP hw hK hc i pins s σ H E I hf st hg;subst hP hw hK;obtain⟨f0,f1,f2,f3,f4,f5⟩:=hf it (by simp);obtain⟨hi,vs,hl,e⟩:=hg;obtain⟨va,ra,lv,lo,dt⟩:=tI I hd hl e;rw[<- lv] at st;exact wpAny_pyNext_dict_end (I.ok.hd hc) st dt (by simp;omega) λh' eb=>⟨rfl,I.turned (t':=s.toks) (λb o hb e=>eb b o hb e) f0 f1 f3 f4 f5⟩
 self:=λ_ _ _ _ _ st h=>wpAny_pyIter_keyiter st h
section
variable {X:Cx} {tg e:Expr} {te:GS}
def Fz(te:TE):TI:=λσ H R=>te σ H λx H1=>∃a o ks vs,x=.ref a/\vs.length=ks.length/\H1 a=some (.frz o (.dK (aO ks vs)))/\R (Itd a o ks) H1
theorem BE{te:TE}(he:PE X e te):PI X tg e (Fz te):=by
 intro pins s σ H R I h;refine GE (he pins s σ H _ I h) λv s1 ⟨x,H1,I1,r1,q1⟩=>?_;obtain⟨a,o,ks,vs,rfl,hl,e1,q⟩:=q1
 cases r1
 obtain⟨ho,hz,lo,va0,ra0,da⟩:=I1.hok a _ e1;obtain⟨o',es,ep,ho',r1,r2,r3⟩:=id da;rw[ho] at ho'
 cases ho'
 obtain⟨va,ra,lv,lo,dt⟩:=tI I1 r2 hl e1;refine wpAny_pyIter_dict lo dt ?_;refine⟨s1.heap.objs.size,[s1.heap.objs.size],_,_,H1,rfl,I1.kept (t':=s1.toks) λb o e=>Heap.get?_push_of_some _ e,vG r2,⟨_,Heap.get?_push_size _ rfl,rfl,by rw[lv];rfl⟩,λb hb=>?_,q⟩;have e:b=s1.heap.objs.size:=by simpa using hb
 subst e;exact I1.fpOk (G3 _) (I1.hok.fresh (G3 _))
def CS(t:GS)(δ:En)(R:List D->En->Prop):Prop:=t δ (wd λd δ1=>qF d λks _=>R (ks.map D.str) δ1)
theorem yM(h:DE X e te):CI X tg e (CS te):=⟨_,BE h,λG δ P σ H R Q s hs k=>up.mk s hs λd δ1 h1 v H1 s1=>by
 replace h1:=qF.ex h1;obtain⟨ks,ds,e,r⟩:=h1;subst e;have hat:∀A δ σ H,Sx X.K G A δ ((.fd ks ds,v)::P) σ H->∃a vs o,v=.ref a/\vs.length=ks.length/\H a=some (.frz o (.dK (aO ks vs))):=λA δ σ H x=>by
  have q:=x.pnd (.fd ks ds,v) (by simp)
  unfold GU at q;obtain⟨a,vs,o,e,q,l,r⟩:=q;exact⟨a,vs,o,e,by rw[l,Reps.length _ _ r],q⟩
 obtain⟨A1,x1⟩:=id s1;obtain⟨a,vs0,o,rfl,l0,e0⟩:=hat _ _ _ _ x1;have p0:GU X.K (λb=>G.M0 b\/A1 b) H1 (.fo o ks ds) (.ref a):=by
  have q:=x1.pnd (.fd ks ds,.ref a) (by simp)
  unfold GU at q ⊢;obtain⟨a',vs,o',e,q,l,r⟩:=q
  cases e
  rw[e0] at q;have hq:o=o'/\aO ks vs0=aO ks vs:=by
   have q:=Hg q
   injection q with q1 q2
   injection q2 with q2
   exact⟨q1,q2⟩
  exact⟨a,vs,rfl,by rw[e0,hq.2],l,r⟩
 have hat2:∀A δ σ H,Sx X.K G A δ ((.fo o ks ds,.ref a)::P) σ H->∃vs,vs.length=ks.length/\H a=some (.frz o (.dK (aO ks vs))):=λA δ σ H x=>by
  have q:=x.pnd (.fo o ks ds,.ref a) (by simp)
  unfold GU at q;obtain⟨a',vs,e,q,l,r⟩:=q
  cases e
  exact⟨vs,by rw[l,Reps.length _ _ r],q⟩
 refine⟨a,o,ks,vs0,rfl,l0,e0,k _ δ1 r _ ((.fo o ks ds,.ref a)::P) H1 (λq hq=>by simp[hq]) ⟨A1,(x1.sub (P':=P) λq hq=>by simp[hq]).push p0⟩ (λA δ σ i H x hi=>?_) (λA δ σ H x=>?_) λA δ σ i y H H2 x hi hy=>?_⟩
 ·exact⟨by simpa using hi,hat2 _ _ _ _ x⟩
 ·exact⟨by simp,hat2 _ _ _ _ x⟩
 ·obtain⟨rfl,x',hx',rfl⟩:=hy
  exact⟨b9.refl _,.str x',by rw[List.getElem?_map,hx'];rfl,by unfold GU;rfl⟩⟩
end
end DL
namespace DL
open PySem PySem.Spec PyProof.Rows L2
variable {H:Hp} {a:Addr} {o:Obj} {kvs:List (Gr×V)} {K:PySem.W.Frag} {u:HO}
theorem Inv.thaw{X:Cx}{pins:List (Addr×Obj)}{σ:L2.St}{s:Shared}(I:L2.Inv X pins σ H s)(e:H a=some (.frz o (.dK kvs)))(hx:∀b u,X.H₀ b=some u->∃ob xs,u=.frz ob (.lst xs)) :
  L2.Inv X pins σ (GC H a (.dK kvs)) s:=by
 have ne:∀b,H b=none->b≠a:=λb n z=>by rw[z,e] at n;cases n
 have n0:∀b u,X.H₀ b=some u->b≠a:=λb u hb z=>by
  obtain⟨ob,xs,rfl⟩:=hx b u hb;have:=I.base.frzs b ob _ hb;rw[z,e] at this;cases this
 have base:Un X.fs X.ex X.H₀ (GC H a (.dK kvs)) X.s₀.heap s.heap :=
  ⟨I.base.keep,I.base.slot,λb u q n hb=>by have z:=I.base.free b u q n hb;rw[aH (ne b z)];exact z,I.base.there,λb xs q=>by rw[aH (n0 b _ q)];exact I.base.tups b xs q,λb u xs q=>by rw[aH (n0 b _ q)];exact I.base.frzs b u xs q,λb ps q=>by
   obtain⟨m,hm⟩:=I.base.tbls b ps q
   exact⟨m,by rw[aH (n0 b _ q)];exact hm⟩⟩
 refine⟨I.ok,I.os,I.bare,base,I.loc,I.cell,by rw[aH (ne _ I.free)];exact I.free,λx c hc=>by rw[aH (ne _ (I.freeC x c hc))];exact I.freeC x c hc,λp hp=>?_,λb u hb=>?_,I.len⟩
 ·obtain⟨q1,q2,q3⟩:=I.pin p hp;exact⟨q1,by rw[aH (ne _ q2)];exact q2,q3⟩
 ·by_cases z:b=a
  ·rw[z,aC] at hb
   cases hb
   rw[z];exact(I.hok a _ e).2
  ·rw[aH z] at hb;refine(I.hok b u hb).stay (λc v _ q=>q) (λc q=>?_) λc xs q=>?_
   ·rw[aH (λw=>by rw[w,e] at q;cases q)];exact q
   ·rw[aH (λw=>by rw[w,e] at q;cases q)];exact q
section
variable {X:Cx} {pos:Pos} {e:Expr}
def F7(te:TE):TE:=λσ H Q=>te σ H λx H1=>∃a o kvs,x=.ref a/\H1 a=some (.frz o (.dK kvs))/\Q x (GC H1 a (.dK kvs))
theorem Bc{te:TE}(hx:∀b u,X.H₀ b=some u->∃ob xs,u=.frz ob (.lst xs))(he:PE X e te):PE X e (F7 te):=by
 intro pins s σ H Q I h;refine GE (he pins s σ H _ I h) λv s1 ⟨x,H1,I1,r1,a,o,kvs,e1,e2,q⟩=>⟨x,_,Inv.thaw I1 e2 hx,r1,q⟩
def AU:V->List V->Hp->VK->Prop:=λx vs H Q=>∃a kvs,x=.ref a/\vs=[]/\H a=some (.dK kvs)/\Q .non (GC H a (.dK []))
theorem vQ:MtM X "dict.clear" AU:=by
 intro pins s σ H x vs v us Q I rx rv h;obtain⟨a,kvs,rfl,rfl,hH,q⟩:=h
 cases rx
 cases rv
 exact AO I hH λs' I'=>⟨.non,_,I',rfl,q⟩
end
mutual
theorem GU.ndk{M:Addr->Prop}(ea:H a=some (.frz o (.dK kvs))):∀(d:D) (v:V),d.nd=true->GU K M H d v->GU K M (GC H a u) d v
 | .non,v,_,h=>by unfold GU at h ⊢;exact h
 | .bl b,v,_,h=>by unfold GU at h ⊢;exact h
 | .int i,v,_,h=>by unfold GU at h ⊢;exact h
 | .str x,v,_,h=>by unfold GU at h ⊢;exact h
 | .tup ds,v,n,h=>by
  unfold GU at h ⊢;obtain⟨b,vs,e,q,r⟩:=h;unfold D.nd at n;refine⟨b,vs,e,?_,Reps.ndk ea ds vs n r⟩
  rcases q with(q | ⟨w,q⟩) | q
  ·exact .inl (.inl (by rw[aH (λz=>by rw[z,ea] at q;cases q)];exact q))
  ·exact .inl (.inr ⟨w,by rw[aH (λz=>by rw[z,ea] at q;cases q)];exact q⟩)
  ·exact .inr q
 | .lst ds,v,n,h=>by
  unfold GU at h ⊢;obtain⟨b,vs,e,m,q,r⟩:=h;unfold D.nd at n;exact⟨b,vs,e,m,by rw[aH (λz=>by rw[z,ea] at q;cases q)];exact q,Reps.ndk ea ds vs n r⟩
 | .fz ds,v,n,h=>by
  unfold GU at h ⊢;obtain⟨b,vs,e,q,r⟩:=h;unfold D.nd at n;refine⟨b,vs,e,?_,Reps.ndk ea ds vs n r⟩
  rcases q with⟨w,q⟩ | q
  ·exact .inl ⟨w,by rw[aH (λz=>by rw[z,ea] at q;cases q)];exact q⟩
  ·exact .inr q
 | .dct ks ds,v,n,_=>by unfold D.nd at n;cases n
 | .fd ks ds,v,n,_=>by unfold D.nd at n;cases n
 | .fo _ ks ds,v,n,_=>by unfold D.nd at n;cases n
 | .exn _ _ _,v,n,_=>by unfold D.nd at n;cases n
theorem Reps.ndk{M:Addr->Prop}(ea:H a=some (.frz o (.dK kvs))):∀(ds:List D) (vs:List V),D.nds ds=true->Reps K M H ds vs->Reps K M (GC H a u) ds vs
 | [],vs,_,h=>by unfold Reps at h ⊢;exact h
 | d::ds,vs,n,h=>by
  unfold Reps at h ⊢;obtain⟨v,r,e,q,s⟩:=h;unfold D.nds at n;obtain⟨n1,n2⟩:=Hn.mp n;exact⟨v,r,e,GU.ndk ea d v n1 q,Reps.ndk ea ds r n2 s⟩
end
def D.ndo:D->Bool
 | .lst xs=>D.nds xs
 | .dct _ xs=>D.nds xs
 | _=>false
def vJ:Sl->Sl
 | .dat d=>if d.nd then .dat d else .no
 | .own a d=>if d.ndo then .own a d else .no
 | .no=>.no
def wipe(δ:En):En:=δ.map vJ
theorem Sx.wipe{G:Gf}{A:Addr->Prop}{δ:List Sl}{P:List (D×V)}{σ:L2.St}(s:Sx K G A δ P σ H)(ea:H a=some (.frz o (.dK kvs)))(hG:∀b o,G.H0 b=some o->∃ob xs,o=.frz ob (.lst xs)):Sx K G A (DL.wipe δ) [] σ (GC H a u):=by
 have get:∀ {i:Nat} {x:Sl},(DL.wipe δ)[i]?=some x->∃y,δ[i]?=some y/\vJ y=x:=λ{i x} h=>by
  unfold DL.wipe at h;rw[List.getElem?_map] at h
  cases q:δ[i]? with
  | none=>rw[q] at h;cases h
  | some y=>rw[q] at h;exact⟨y,rfl,Hg h⟩
 have dt:∀ {y:Sl} {d:D},vJ y=.dat d->y=.dat d/\d.nd=true:=λ{y d} h=>by
  cases y with
  | no=>cases h
  | dat d' =>
   have h:(if d'.nd=true then Sl.dat d' else Sl.no)=_:=h
   by_cases z:d'.nd=true
   ·rw[Hh z] at h;cases h;exact⟨rfl,z⟩
   ·rw[He z] at h;cases h
  | own b d' =>
   have h:(if d'.ndo=true then Sl.own b d' else Sl.no)=_:=h
   by_cases z:d'.ndo=true
   ·rw[Hh z] at h;cases h
   ·rw[He z] at h;cases h
 have ot:∀ {y:Sl} {b:Addr} {d:D},vJ y=.own b d->y=.own b d/\d.ndo=true:=λ{y b d} h=>by
  cases y with
  | no=>cases h
  | dat d' =>
   have h:(if d'.nd=true then Sl.dat d' else Sl.no)=_:=h
   by_cases z:d'.nd=true
   ·rw[Hh z] at h;cases h
   ·rw[He z] at h;cases h
  | own b d' =>
   have h:(if d'.ndo=true then Sl.own b d' else Sl.no)=_:=h
   by_cases z:d'.ndo=true
   ·rw[Hh z] at h;cases h;exact⟨rfl,z⟩
   ·rw[He z] at h;cases h
 have st:∀b,H b≠none->GC H a u b≠none:=λb e=>by
  by_cases z:b=a
  ·rw[z,aC];exact λq=>nomatch q
  ·rw[aH z];exact e
 refine⟨λb w e n=>?_,λb e=>st b (s.stay b e),s.m0,s.pm,s.new,λb h=>st b (s.thr b h),by unfold DL.wipe;rw[GW,s.len],λi d e=>?_,λi b d e=>?_,λi j b d e h1 h2=>?_,λp hp=>nomatch hp⟩
 ·obtain⟨ob,xs,rfl⟩:=hG b w e;have q:=s.old b _ e n;rw[aH (λz=>by rw[z,ea] at q;cases q)];exact q
 ·obtain⟨y,h1,h2⟩:=get e;obtain⟨rfl,h3⟩:=dt h2;obtain⟨v,q,r⟩:=s.dat i d h1;exact⟨v,q,GU.ndk ea _ _ h3 r⟩
 ·obtain⟨y,h1,h2⟩:=get e;obtain⟨rfl,h3⟩:=ot h2;obtain⟨q1,q2,q3⟩:=s.own i b d h1;refine⟨q1,q2,?_⟩
  cases d with
  | lst ds =>
   obtain⟨vs,q,r⟩:=q3;exact⟨vs,by rw[aH (λz=>by rw[z,ea] at q;cases q)];exact q,Reps.ndk ea _ _ h3 r⟩
  | dct ks ds =>
   obtain⟨vs,q,l,r⟩:=q3;exact⟨vs,by rw[aH (λz=>by rw[z,ea] at q;cases q)];exact q,l,Reps.ndk ea _ _ h3 r⟩
  | _=>exact q3.elim
 ·obtain⟨y1,a1,b1⟩:=get h1;obtain⟨y2,a2,b2⟩:=get h2;obtain⟨rfl,_⟩:=ot b1;obtain⟨rfl,_⟩:=ot b2;exact s.inj i j b d e a1 a2
section
variable {X:Cx} {pos:Pos} {e:Expr} {ta:GS}
def Ep(t:GS)(R:a6)(δ:En):Prop:=R.tp/\t δ (wd λd δ1=>qF d λ_ _=>R.nx (wipe δ1))
theorem zI{apos cpos:Pos}(hx:∀b u,X.H₀ b=some u->∃ob xs,u=.frz ob (.lst xs))(he:DE X e ta)
  (hbase:attributeBase e "clear" X.env (eval e X.env)=eval e X.env:=by rfl) (hline:(apos.endLine==cpos.line)=true:=by rfl)
  (hsw:swapsWith (.Call (.Attribute e "clear" apos) [] [] cpos) none pos.line X.env=pure false:=by rfl) :
  DS X (.Expr (.Call (.Attribute e "clear" apos) [] [] cpos) pos) (Ep ta) :=
 PS.imp (kT (EC PySem.F.plainAttrs_dict PySem.F.slot_dict_clear PySem.F.type_dict_clear vQ (Bc hx he) hbase hline) hsw) λE σ H ⟨G,δ,P,R,s,⟨ht,h⟩,k,_,_,_,k5⟩=>by
  obtain⟨hP,hG⟩:=k5 ht;subst hP;refine up.mk s h λd δ1 h1 v H1 ⟨A,x⟩=>?_;replace h1:=qF.ex h1;obtain⟨ks,ds,ed,r⟩:=h1;subst ed;have q:=x.pnd (.fd ks ds,v) (by simp);unfold GU at q;obtain⟨a,vs,o,rfl,ea,l,rs⟩:=q;refine⟨a,o,_,rfl,ea,.inr (.inr (.inl ⟨rfl,.inl ⟨_,aC⟩⟩)),a,_,rfl,rfl,aC,?_⟩;have e2:GC (GC H1 a (.dK (aO ks vs))) a (.dK [])=GC H1 a (.dK []):=by
   funext b
   by_cases z:b=a
   ·rw[z,aC,aC]
   ·rw[aH z,aH z,aH z]
  rw[e2];exact k _ r σ _ ⟨A,x.wipe ea hG⟩
end
def spT(K:PySem.W.Frag)(f:List D->(D->Prop)->Prop):Sp:=λvs H Q E=>Only H/\Gx K f vs H Q E
section
variable {P:Program} {w:World} {K:PySem.W.Frag} {mg:Str→Option Value} {base:Heap}
def uJ(h:Only H):∀b u,H b=some u->∃ob xs,u=.frz ob (.lst xs):=λb u e=>by
 rcases h b with z | ⟨o,xs,z⟩
 ·rw[z] at e;cases e
 ·rw[z] at e;cases e;exact⟨o,xs,rfl⟩
theorem Gh{x:Str}{st:Stmt}{N ps:List Str}{k:Nat}{fd:FuncData}{f:List D->(D->Prop)->Prop}(Fu:Fun K x x st a fd)(Sc:aw N ps (am st))(len:∀ds R,f ds R->ds.length=ps.length)
    (hbody:∀(cdv:Value) (A:Around) (outer:List Env) (s:Shared) (H:Hp) (E:XK) (ds:List D) (R:D->Prop),fK k (A.deeper (envOfC x (am st) s.heap.objs.size a cdv))->(∀b u,H b=some u->∃ob xs,u=.frz ob (.lst xs))->f ds R ->
      ∃t,DSs (sY CX0 P w K mg base N x (am st) a cdv A outer s H E).nox (bG st) t/\t { nx:=λ_=>R .non,rt:=λd _=>R d,ro:=R,tp:=True } (eS N ds)) :
    kd P w K mg base CX0 (k+1) a fd ps (spT K f):=by
  refine Fu.ok Sc (λvs H Q E h=>mZ h.2 len) (λcdv A outer s H vs Q E hr h=>?_);obtain⟨on,M,ds,R,hm,rs,hf,hk⟩:=h;obtain⟨t,ht,hq⟩:=hbody cdv A outer s H E ds R hr (uJ on) hf;refine⟨_,ht,⟨M,H,λ_=>False⟩,eS N ds,[],_,tX N hm rs,hq,λδ' r σ' H' ⟨A',x⟩=>?_,⟨λd δ' r v σ' H' ⟨A',x⟩=>?_,λd r a H' ⟨o1,o2,o3,o4⟩=>hk d r (.ref a) H' (λb o e=>o1 b o e id) (o4.rep o3 λb z=>.inl z),λ_ _ _ z=>z.elim⟩,λ_ h=>h.elim,λ_ h=>h.elim,λ_=>⟨rfl,uJ on⟩⟩
  · exact hk .non r .non H' (λb o e=>x.old b o e id) (by unfold GU;rfl)
  · exact hk d r v H' (λb o e=>x.old b o e id) (GU.more (λb z=>.inl (.inl z)) _ _ (x.pnd (d,v) (by simp)))
def AF{k:Nat}{ps:List Str}{fd:FuncData}(F:kd P w K mg base CX0 k a fd ps (spT K fLaw)):kd P w K mg base CX0 k a fd ps (BL K) :=
 F.imp λvs H Q E ⟨l,ns,e,sq,on,h63,hb,q⟩=>by
  subst e;refine⟨on,λ_=>False,[.fz (ns.map D.int)],λd=>d=.bl true,λ_ h=>h.elim,Reps.one ?_,⟨ns,rfl,h63,hb,rfl⟩,λd e v H' _ r=>?_⟩
  ·unfold GU;refine⟨l,ns.map V.int,rfl,?_,Reps.ints ns⟩
   rcases sq with(h | ⟨o,h⟩) | h
   ·rcases on l with z | ⟨o,xs,z⟩
    ·rw[z] at h;cases h
    ·rw[z] at h;cases h
   ·exact .inl ⟨o,h⟩
   ·exact .inr (.inr h)
  ·subst e;rw[gZ r];exact q H'
end
def B8:List D->(D->Prop)->Prop
 | [.int i,.int j],R=>R (.bl (decide (i=j)))
 | [.str x,.str y],R=>R (.bl (decide (x=y)))
 | [.bl x,.bl y],R=>R (.bl (decide (x=y)))
 | [.tup xs,.tup ys],R=>∃a b c d,xs=[.int a,.int b]/\ys=[.int c,.int d]/\R (.bl (decide ((a,b)=(c,d))))
 | _,_=>False
theorem Av:∀ {d0:List D} {R:D->Prop},B8 d0 R->((∃(i:Int) (j:Int),d0=[.int i,.int j]/\R (.bl (decide (i=j))))\/(∃(x:Str) (y:Str),d0=[.str x,.str y]/\R (.bl (decide (x=y))))\/(∃(x:Bool) (y:Bool),d0=[.bl x,.bl y]/\R (.bl (decide (x=y))))\/(∃(xs:List D) (ys:List D),d0=[.tup xs,.tup ys]/\∃a b c d,xs=[.int a,.int b]/\ys=[.int c,.int d]/\R (.bl (decide ((a,b)=(c,d)))))):=by walk_at "or"
theorem BP{a b c d:Int}{R:D->Prop}:B8 [.tup [.int a,.int b],.tup [.int c,.int d]] R↔R (.bl (decide ((a,b)=(c,d)))):=by
 constructor
 ·intro h;obtain⟨_,_,_,_,e,e',h⟩:=h
  cases e
  cases e'
  exact h
 ·exact λh=>⟨_,_,_,_,rfl,rfl,h⟩
def wf{i j:Int}{R:D->Prop}:B8 [.int i,.int j] R=(R (.bl (decide (i=j)))):=rfl
def Az{i j:Bool}{R:D->Prop}:B8 [.bl i,.bl j] R=(R (.bl (decide (i=j)))):=rfl
def xG{i j:Str}{R:D->Prop}:B8 [.str i,.str j] R=(R (.bl (decide (i=j)))):=rfl
section
variable {X:Cx}
theorem Br(hu:X.A.units+64<cLine):GM X (compareOp .Eq) λx y=>aV X.K B8 [x,y]:=by
 intro pins s σ H x y v u Q I rx ry h;obtain⟨M,ds,R,m,rs,h,k⟩:=h;replace h:=Av h
 rcases h with⟨_,_,rfl,h⟩ | ⟨_,_,rfl,h⟩ | ⟨_,_,rfl,h⟩ | ⟨_,_,rfl,h⟩
 ·exact cX hu pins s σ H x y v u Q I rx ry ⟨M,_,R,m,rs,h,k⟩
 ·exact cX hu pins s σ H x y v u Q I rx ry ⟨M,_,R,m,rs,h,k⟩
 ·exact cX hu pins s σ H x y v u Q I rx ry ⟨M,_,R,m,rs,h,k⟩
 ·obtain⟨i1,i2,j1,j2,rfl,rfl,h⟩:=h;obtain⟨h1,h2⟩:=cv rs;unfold GU at h1 h2;obtain⟨a,vs,rfl,sq,rs1⟩:=h1;obtain⟨b,ws,rfl,sq',rs2⟩:=h2
  cases rx
  cases ry
  obtain⟨v1,v2,rfl,p1,p2⟩:=f8 rs1;obtain⟨w1,w2,rfl,p3,p4⟩:=f8 rs2
  cases aQ p1
  cases aQ p2
  cases aQ p3
  cases aQ p4
  obtain⟨its,r1,t1,_⟩:=I.tuple sq;obtain⟨its',r2,t2,_⟩:=I.tuple sq'
  cases r1 with
  | cons q1 r1 =>
   cases r1 with
   | cons q2 r1 =>
    cases r1
    obtain⟨s1,rfl⟩:=q1;obtain⟨s2,rfl⟩:=q2
    cases r2 with
    | cons q3 r2 =>
     cases r2 with
     | cons q4 r2 =>
      cases r2
      obtain⟨s3,rfl⟩:=q3;obtain⟨s4,rfl⟩:=q4;refine SeqAt.eq_tupleAt (e:=λn=>if n=0 then i1==j1 else i2==j2) t1 t2 (by omega) (λn h1 h2=>?_) ?_
      ·match n,h1 with
       | 0,_=>exact SeqAt.EqAt.int_int i1 s1 j1 s3
       | 1,_=>exact SeqAt.EqAt.int_int i2 s2 j2 s4
      ·refine⟨.bl _,H,I,rfl,?_⟩;have e1:((List.range (min [Value.int i1 s1,Value.int i2 s2].toArray.size [Value.int j1 s3,Value.int j2 s4].toArray.size)).all (λn=>if n=0 then i1==j1 else i2==j2)&&[Value.int i1 s1,Value.int i2 s2].toArray.size==[Value.int j1 s3,Value.int j2 s4].toArray.size)=decide ((i1,i2)=(j1,j2)):=by
        show ((i1==j1)&&((i2==j2)&&true)&&true)=_
        rw[IZ];simp
       rw[e1];exact k _ h _ H (b9.refl H) (GU.sc rfl)
end
end DL
namespace DL
open PySem PySem.Spec PyProof.Rows L2
theorem zy{prog:Program}{w:World}{A:Around}{E:Value->Shared->Prop}{s:Shared}{l b:Addr}{x1 x2 y1 y2:Value}{Q:Value->Shared->Prop}(hl:s.heap.IsTuple l #[x1,x2])(hb:s.heap.IsTuple b #[y1,y2])(hu:A.units<cLine)
  (h1:∀(E:Value->Shared->Prop) (Q:Bool->Shared->Prop),Q true s->wpAny (model prog w) A.in1 (eqBool x1 y1) Q E s) (h2:∀(E:Value->Shared->Prop) (Q:Bool->Shared->Prop),Q true s->wpAny (model prog w) A.in1 (eqBool x2 y2) Q E s) (h:Q (.bool true) s):wpAny (model prog w) A (compareOp .Eq (.ref l) (.ref b)) Q E s:=by
 obtain⟨⟨cls,dd,data,sl⟩,ho,hc,n,hd⟩:=id hl;obtain⟨⟨cls2,dd2,data2,sl2⟩,ho2,hc2,n2,hd2⟩:=id hb;simp only at hc hd hc2 hd2;subst hc hd hc2 hd2;refine wpAny_richCompare_same_room (op:=.Eq) ⟨_,ho,rfl⟩ ⟨_,ho2,rfl⟩ F.slot_tuple_eq (HZ F.slot_tuple_eq ⟨_,ho,rfl⟩ F.entry_tuple_eq ?_ (F.args_tuple_eq_2 _ _)) hu;obtain⟨hp,g,d,tk,os⟩:=s;have f2:=AutoSeq1.sub_tuple_tuple;have hZ:((#[x1,x2]:Array Value).toList.zip (#[y1,y2]:Array Value).toList)=[(x1,y1),(x2,y2)]:=rfl
 wp_walk using AutoSeq1.wpAny_loadPart' ho,AutoSeq1.wpAny_loadPart' ho2,h1 _ _,h2 _ _
 exact⟨.bool true,rfl,(λx=>nomatch x),h⟩
section
variable {X:Cx}
def lY:D->Option (List Str×List D)
 | .dct ks ds=>some (ks,ds)
 | .fd ks ds=>some (ks,ds)
 | _=>none
theorem l6{K:PySem.W.Frag}{M:Addr->Prop}{H:Hp}{d:D}{ks:List Str}{ds:List D}{v:V}(e:lY d=some (ks,ds))(r:GU K M H d v):∃a vs,v=.ref a/\Rd H a (.dK (aO ks vs))/\ks.length=ds.length/\Reps K M H ds vs:=by
 cases d<;>simp only[lY,reduceCtorEq,Option.some.injEq,Prod.mk.injEq] at e
 ·obtain⟨rfl,rfl⟩:=e;unfold GU at r;obtain⟨a,vs,e,_,q,l,r⟩:=r;exact⟨a,vs,e,.inl q,l,r⟩
 ·obtain⟨rfl,rfl⟩:=e;unfold GU at r;obtain⟨a,vs,o,e,q,l,r⟩:=r;exact⟨a,vs,e,.inr ⟨o,q⟩,l,r⟩
def fEqd:List D->(D->Prop)->Prop
 | [.tup xs,.tup ys],R=>∃x d y e,xs=[.str x,d]/\ys=[.str y,e]/\x=y/\∃ks ds,lY d=some (ks,ds)/\lY e=some (ks,ds)/\ks.Nodup/\D.nds ds=true/\D.dps ds<=50/\R (.bl true)
 | _,_=>False
theorem Bd:∀ {d0:List D} {R:D->Prop},fEqd d0 R->∃(xs:List D) (ys:List D),d0=[.tup xs,.tup ys]/\∃x d y e,xs=[.str x,d]/\ys=[.str y,e]/\x=y/\∃ks ds,lY d=some (ks,ds)/\lY e=some (ks,ds)/\ks.Nodup/\D.nds ds=true/\D.dps ds<=50/\R (.bl true):=by walk_at "or"
theorem zX{x y:Str}{d e:D}{R:D->Prop}:fEqd [.tup [.str x,d],.tup [.str y,e]] R↔x=y/\∃ks ds,lY d=some (ks,ds)/\lY e=some (ks,ds)/\ks.Nodup/\D.nds ds=true/\D.dps ds<=50/\R (.bl true):=by
 constructor
 ·intro h;obtain⟨_,_,_,_,e,e',h⟩:=h
  cases e
  cases e'
  exact h
 ·exact λh=>⟨_,_,_,_,rfl,rfl,h⟩
theorem Gb(hu:X.A.units+64<cLine):GM X (compareOp .Eq) λx y=>aV X.K fEqd [x,y]:=by
 intro pins s σ H x y v u Q I rx ry h;obtain⟨M,ds0,R,m,rs,h,k⟩:=h;replace h:=Bd h;obtain⟨_,_,rfl,h⟩:=h
 ·obtain⟨z,d1,_,d2,rfl,rfl,rfl,ks,ds,e1,e2,nd,hn,hd,h⟩:=h;obtain⟨h1,h2⟩:=cv rs;unfold GU at h1 h2;obtain⟨a,vs,rfl,sq,rs1⟩:=h1;obtain⟨b,ws,rfl,sq',rs2⟩:=h2
  cases rx
  cases ry
  obtain⟨v1,v2,rfl,p1,p2⟩:=f8 rs1;obtain⟨w1,w2,rfl,p3,p4⟩:=f8 rs2
  cases bh p1
  cases bh p3
  obtain⟨a2,va,rfl,qa,la,ra⟩:=l6 e1 p2;obtain⟨b2,vb,rfl,qb,lb,rb⟩:=l6 e2 p4;obtain⟨its,r1,t1,_⟩:=I.tuple sq;obtain⟨its',r2,t2,_⟩:=I.tuple sq'
  cases r1 with
  | cons q1 r1 =>
   cases r1 with
   | cons q2 r1 =>
    cases r1
    obtain⟨s1,rfl⟩:=q1
    cases q2
    cases r2 with
    | cons q3 r2 =>
     cases r2 with
     | cons q4 r2 =>
      cases r2
      obtain⟨s3,rfl⟩:=q3
      cases q4
      refine zy t1 t2 (by omega) (λE Q hq=>?_) (λE Q hq=>?_) ?_
      ·have:=Jy (A:=X.A.in1) (s:=s) z s1 z s3
       rw[beq_self_eq_true] at this;exact this _ _ E Q hq
      ·by_cases e:a2=b2
       ·rw[e];exact Jx _ _ _ E Q hq
       ·unfold eqBool;refine Ib ?_;refine Iz (λhab=>absurd (by have:=eq_of_beq hab;injection this) e) (λ_=>?_)
        ·obtain⟨_,lo,ka,ka1,da⟩:=gy I.hok qa;obtain⟨_,lo',kb,kb1,db⟩:=gy I.hok qb;have l1:=ka1.length;have l2:=kb1.length;have m1:=Reps.length _ _ ra;have m2:=Reps.length _ _ rb;have e3:ka.length=kb.length:=by
          rw[<- l1,<- l2];unfold aO;rw[Ih,Ih,<- m1,<- m2]
         refine GX (PySem.W.keq_eq (r:=true) lo lo' da db (by rw[bL];omega) (λ_=>wc I nd hn (by rw[bL,bL];omega) la ra rb ka1 kb1) ?_);have:(ka.length==kb.length)=true:=by rw[e3];simp
         rw[this];exact Iy hq
      ·exact⟨.bl true,H,I,rfl,k _ h _ H (b9.refl H) (GU.sc rfl)⟩
end
end DL
namespace DL
open PySem PySem.Spec PyProof.Rows L2
variable {X:Cx} {y:Str} {pos:Pos}
def kI(R:W->En->Prop)(δ:En)(r:D):Prop:=r.im=true/\R (.d r) δ
def yh(i:Nat)(f:List D->(D->Prop)->Prop)(ta tb:GS)(δ:En)(R:W->En->Prop):Prop:=ta δ (wd λx δ1=>tb δ1 (wd λy δ2=>qW δ2[i]? λ_ d=>f [x,y,d] (kI R δ2)))
theorem wS{a b:Expr}{ta tb:GS}{f:List D->(D->Prop)->Prop}{x:Str}{k:Nat}{ps:List Str}{p p2:Pos}(i:Nat)(C:Cal X.prog X.w X.K X.mg X.base k x ps (Gx X.K f))(hr:fK k X.A)(hg:Gl X x)(ha:DE X a ta)(hb:DE X b tb)(hN:X.N[i]?=some y:=by rfl)
  (hv:Vis X.env.scope y:=by walk_at "v3") (hd:(y==("__debug__":Str))=false:=by decide) (hcd:(y==("__classdict__":Str))=false:=by decide)
  (hdb:(x==("__debug__":Str))=false:=by decide) (he:starEach [a,b,.Name y p2] X.env=(false,eval a X.env)::starEach [b,.Name y p2] X.env:=by rfl) (he1:starEach [b,.Name y p2] X.env=(false,eval b X.env)::starEach [.Name y p2] X.env:=by rfl)
  (he2:starEach [.Name y p2] X.env=(false,eval (.Name y p2) X.env)::starEach [] X.env:=by rfl) (hpl:(backTo pos (starEach [b,.Name y p2] X.env)).any (·.1)=false:=by rfl) :
  DE X (.Call (.Name x p) [a,b,.Name y p2] [] pos) (yh i f ta tb):=by
 obtain⟨g,fd,F,b',kp,m⟩:=C.ex;refine PE.imp (lM F hr hg m kp b' .nil wP (a9 ha (a9 hb (a9 (dF hN hv hd hcd) dr he2) he1) he) hdb he hpl) λσ H Q ⟨G,δ,P,R,s,h,k,_⟩=>up.mk s h λz δ1 h1 v H1 s1=>up.mk s1 h1 λz2 δ2 h2 v2 H2 s2=>?_;replace h2:=qW.ex h2;obtain⟨a0,d0,hi,hf⟩:=h2;refine⟨.ref a0,s2.own hi,?_⟩;show aV X.K f ([v,v2,.ref a0]++[]) H2 Q;rw[HJ];obtain⟨A,q⟩:=s2;obtain⟨_,aa,oo⟩:=q.own i a0 d0 hi;have hM:∀b,((G.M0 b\/A b)/\b≠a0)->(G.M0 b\/A b)\/H2 b=none:=λb h=>.inl h.1;refine⟨λb=>(G.M0 b\/A b)/\b≠a0,[z,z2,d0],λr=>r.im=true/\R (.d r) δ2,λb h=>q.mem b h.1,Reps.cons (GU.more hM _ _ (q.pnd (z,v) (by simp))) (Reps.cons (GU.more hM _ _ (q.pnd (z2,v2) (by simp))) (Reps.one (oo.rep (λz=>z.2 rfl) λb z=>z.1))),hf,λr ⟨im,hr⟩ u H' sm rp=>?_⟩;exact k r δ2 hr u H' ⟨A,((q.same sm).sub (P':=P) λp hp=>by simp[hp]).push (GU.im _ _ im rp)⟩
theorem Sx.slot{K:PySem.W.Frag}{G:Gf}{A:Addr->Prop}{δ:List Sl}{P P':List (D×V)}{σ:L2.St}{H:Hp}{i:Nat}{p:Addr}{d:D}(s:Sx K G A δ P σ H)(aa:A p)(oo:bq K (λb=>G.M0 b\/A b) H p d)(hno:∀(j:Nat) e,δ[j]?≠some (.own p e))(hP:∀q∈P',q∈P) :
  Sx K G A (δ.set i (.own p d)) P' (σ.set i (some (.ref p))) H:=by
 refine⟨s.old,s.stay,s.m0,s.pm,s.new,s.thr,by rw[HS,HS,s.len],λj d' e=>?_,λj b d' e=>?_,λj k b d' e' h1 h2=>?_,λq hq=>s.pnd q (hP q hq)⟩
 ·rcases aW e with⟨_,z,_⟩ | ⟨hij,e⟩
  ·cases z
  ·obtain⟨v,q,r⟩:=s.dat j d' e;exact⟨v,by rw[List.getElem?_set_ne hij];exact q,r⟩
 ·rcases aW e with⟨hij,z,hl⟩ | ⟨hij,e⟩
  ·cases z
   subst hij;exact⟨by rw[List.getElem?_set_self (by rw[<- s.len];exact hl)],aa,oo⟩
  ·obtain⟨q,r,o⟩:=s.own j b d' e;exact⟨by rw[List.getElem?_set_ne hij];exact q,r,o⟩
 ·rcases aW h1 with⟨hij,z,hl⟩ | ⟨hij,e⟩
  ·cases z
   rcases aW h2 with⟨hik,_,_⟩ | ⟨hik,e2⟩
   ·rw[<- hij,<- hik]
   ·exact absurd e2 (hno k _)
  ·rcases aW h2 with⟨hik,z,_⟩ | ⟨hik,e2⟩
   ·cases z
    exact absurd e (hno j _)
   ·exact s.inj j k b d' e' e e2
def yQ(i:Nat)(src:TDC)(nt:Nat)(caps:List (Nat×Str))(g:TDG)(tc:TDT)(te:GS)(R:a6)(δ:En):Prop:=src δ λxs δ1=>xs.length<=9000/\∃f:D->Option D,
 (∀x∈xs,v7 nt λts=>g x (ts++iK caps δ1) λδ2=>tc δ2 λb δ3=>if b=true then te δ3 (wd λy δ4=>okT nt δ4 (iK caps δ1)/\f x=some y) else okT nt δ3 (iK caps δ1)/\f x=none)/\∀a,jO δ1 i (.own a (.lst (xs.filterMap f))) R.nx
theorem wU{elt tgt iter:Expr}{ifs:List Expr}{scope:Scope}{pos2 pos':Pos}{src:TDC}{cl:List (Str×Addr)}{te:GS}(i:Nat)(hN:X.N.Nodup)(tn:List Str)(caps:List (Nat×Str)){g:TDG}{tc:TDT}
  (hcalm:X.calm=true) (hclos:closureFor scope X.env=pure cl) (hcell:∀y∈scope.names,y.2≠.cell) (hkind:scope.kind=.function) (hnames:∀y∈scope.names,y.2=.local->scope.names.lookup y.1=some .local)
  (hcl:∀x c,cl.lookup x=some c->X.env.cells.lookup x=some c) (hhas:∀x,((relabel scope X.env).names.lookup x=some .cell\/(relabel scope X.env).names.lookup x=some .free)->∃c,cl.lookup x=some c)
  (hcap:∀p∈caps,X.N[p.1]?=some p.2/\X.env.scope.names.lookup p.2=some .cell/\((relabel scope X.env).names.lookup p.2=some .cell\/(relabel scope X.env).names.lookup p.2=some .free))
  (hi:CI X.nox tgt iter src)
  (hb:∀s2 H2 C fp pn,DG (dB X (tn++caps.map (·.2)) scope cl s2 H2 C fp pn) tgt g/\DF (dB X (tn++caps.map (·.2)) scope cl s2 H2 C fp pn) ifs tc/\DE (dB X (tn++caps.map (·.2)) scope cl s2 H2 C fp pn) elt te)
  (hs:∀x,foldedSetIterable iter X.env x=pure x:=by intro _;rfl) (hi':X.N[i]?=some y:=by rfl) (hx:Loc X.env.scope y:=by walk_at "v2")
  (hsw:swapsWith (.ListComp elt [⟨tgt,iter,ifs,0⟩] scope pos) (some (.Name y pos')) pos2.line X.env=pure true:=by rfl) (hf:X.fn y=true\/X.env.scope.names.lookup y=some .local :=by walk_at "v1") :
  DS X.nox (.Assign [.Name y pos'] (.ListComp elt [⟨tgt,iter,ifs,0⟩] scope pos) pos2) (yQ i src tn.length caps g tc te):=by
 obtain⟨wi,hi,hw⟩:=hi;refine PS.imp (qd (g:=upG X.K g) (tc:=upT X.K tc) (te:=up X.K te) tn caps hcalm hclos hcell hkind hnames hcl hhas hcap hi hb hs hN hi' hx hsw hf) λE σ H ⟨G,δ,P,R,s,h,k,_⟩=>?_;refine hw G δ P σ H _ _ s h λxs δ1 ⟨hz,f,hf,r⟩ J P1 H1 hP s1 hgo hst hyl p hp=>?_;refine kl (Q:=λx H1=>tf i x σ H1 E.nx) s1 hz (λA i H x hi=>hgo A _ _ i H x hi) (λA H x=>hst A _ _ H x) (λA i x H H2 s hi hy=>hyl A _ _ i x H H2 s hi hy) hf p hp λA acc H' hA ho x hac rs=>?_;exact k _ (r p) _ H' ⟨_,x.slot (P':=P) (.inr rfl) ⟨acc,hac,rs⟩ (λj e z=>hA (.inr (ho j p e z))) hP⟩
theorem eC{elt tgt iter:Expr}{ifs:List Expr}{scope:Scope}{pos2 pos':Pos}{src:TDC}{cl:List (Str×Addr)}{te:GS}(i:Nat)(hN:X.N.Nodup)(tn:List Str)(caps:List (Nat×Str)){g:TDG}{tc:TDT}
  (hcalm:X.calm=true) (hclos:closureFor scope X.env=pure cl) (hcell:∀y∈scope.names,y.2≠.cell) (hkind:scope.kind=.function) (hnames:∀y∈scope.names,y.2=.local->scope.names.lookup y.1=some .local)
  (hcl:∀x c,cl.lookup x=some c->X.env.cells.lookup x=some c) (hhas:∀x,((relabel scope X.env).names.lookup x=some .cell\/(relabel scope X.env).names.lookup x=some .free)->∃c,cl.lookup x=some c)
  (hcap:∀p∈caps,X.N[p.1]?=some p.2/\X.env.scope.names.lookup p.2=some .cell/\((relabel scope X.env).names.lookup p.2=some .cell\/(relabel scope X.env).names.lookup p.2=some .free))
  (hi:CI X.nox tgt iter src)
  (hb:∀s2 H2 C fp pn,DG (dB X (tn++caps.map (·.2)) scope cl s2 H2 C fp pn) tgt g/\DF (dB X (tn++caps.map (·.2)) scope cl s2 H2 C fp pn) ifs tc/\DE (dB X (tn++caps.map (·.2)) scope cl s2 H2 C fp pn) elt te)
  (hs:∀x,foldedSetIterable iter X.env x=pure x:=by intro _;rfl) (hi':X.N[i]?=some y:=by rfl) (hx:Loc X.env.scope y:=by walk_at "v2")
  (hsw:swapsWith (.ListComp elt [⟨tgt,iter,ifs,0⟩] scope pos) (some (.Name y pos')) pos2.line X.env=pure true:=by rfl) (hf:X.fn y=true\/X.env.scope.names.lookup y=some .local :=by walk_at "v1") :
  DS X.nox (.Assign [.Name y pos'] (.ListComp elt [⟨tgt,iter,ifs,0⟩] scope pos) pos2) (dSet i (BI src tn.length caps g tc te)):=by
 obtain⟨wi,hi,hw⟩:=hi;refine PS.imp (qd (g:=upG X.K g) (tc:=upT X.K tc) (te:=up X.K te) tn caps hcalm hclos hcell hkind hnames hcl hhas hcap hi hb hs hN hi' hx hsw hf) λE σ H ⟨G,δ,P,R,s,h,k,_⟩=>?_;refine hw G δ P σ H _ _ s h λxs δ1 ⟨hz,f,hf,r⟩ J P1 H1 hP s1 hgo hst hyl p hp=>?_
 exact l5 (Q:=λx H1=>tf i x σ H1 E.nx) s1 hz (λA i H x hi=>hgo A _ _ i H x hi) (λA H x=>hst A _ _ H x) (λA i x H H2 s hi hy=>hyl A _ _ i x H H2 s hi hy) hf (λv H' s'=>k _ r _ H' ((s'.sub (P':=(.lst (xs.filterMap f),v)::P) λq hq=>by
  rcases G7.mp hq with rfl | hq
  ·simp
  ·exact GY _ (hP q hq)).set (by simp) λp hp=>by simp[hp])) p hp
section
variable {X:Cx} {tg e:Expr} {te:GS}
def iSeq(K:PySem.W.Frag)(tl:TE):TI:=λσ H R=>tl σ H λx H1=>(∃a,x=.ref a/\(∃xs,Gz K H1 a xs)/\R (Itl K a) H1)\/∃a,x=.ref a/\(∃xs,Gy K H1 a xs)/\R (Itt K a) H1
theorem Cd{l:Expr}{tl:TE}(hl:PE X l tl):PI X tg l (iSeq X.K tl):=by
 intro pins s σ H R I h;refine GE (hl pins s σ H _ I h) λv s1 ⟨x,H1,I1,r1,q1⟩=>?_
 rcases q1 with⟨a,e,⟨xs,hq⟩,q⟩ | ⟨a,e,⟨xs,hq⟩,q⟩
 ·subst e
  cases r1
  obtain⟨its,rv,p,hz⟩:=I1.list hq;refine Jf p.isList ?_;refine⟨s1.heap.objs.size,[s1.heap.objs.size],_,_,H1,rfl,I1.kept (t':=s1.toks) λb o e=>Heap.get?_push_of_some _ e,mQ a _,⟨_,Heap.get?_push_size _ rfl,rfl,rfl⟩,λb hb=>?_,q⟩;have e:b=s1.heap.objs.size:=by simpa using hb
  subst e;exact I1.fpOk (G3 _) (I1.hok.fresh (G3 _))
 ·subst e
  cases r1
  obtain⟨its,rv,p,hz⟩:=I1.tuple hq;refine wpAny_pyIter_tuple p ?_;refine⟨s1.heap.objs.size,[s1.heap.objs.size],_,_,H1,rfl,I1.kept (t':=s1.toks) λb o e=>Heap.get?_push_of_some _ e,kg a _,⟨_,Heap.get?_push_size _ rfl,rfl,rfl⟩,λb hb=>?_,q⟩;have e:b=s1.heap.objs.size:=by simpa using hb
  subst e;exact I1.fpOk (G3 _) (I1.hok.fresh (G3 _))
def qY:D->(List D->Prop)->Prop
 | .lst xs,k=>k xs
 | .tup xs,k=>k xs
 | _,_=>False
theorem qY.ex{d:D}{k:List D->Prop}(h:qY d k):∃b xs,d=sq b xs/\k xs:=by
 cases d<;>first | exact False.elim h | exact⟨true,_,rfl,h⟩ | exact⟨false,_,rfl,h⟩
def dcSq(t:GS)(δ:En)(R:List D->En->Prop):Prop:=t δ (wd λd δ1=>qY d λxs=>R xs δ1)
def E4(h:DE X e te):CI X tg e (dcSq te):=⟨_,Cd h,λG δ P σ H R Q s hs k=>up.mk s hs λd δ1 h1 v H1 s1=>by
 replace h1:=qY.ex h1;obtain⟨kk,xs,e,r⟩:=h1;subst e;have hat:∀A δ σ H,Sx X.K G A δ ((sq kk xs,v)::P) σ H->∃a vs,v=.ref a/\SqV kk X.K H a vs/\Reps X.K (λb=>G.M0 b\/A b) H xs vs:=λA δ σ H x=>vA (x.pnd (sq kk xs,v) (by simp));obtain⟨A1,x1⟩:=id s1;obtain⟨a,vs0,rfl,l0,_⟩:=hat _ _ _ _ x1
 cases kk
 ·refine .inr ⟨a,rfl,⟨vs0,l0⟩,k xs δ1 r _ _ H1 (λq hq=>by simp[hq]) s1 (λA δ σ i H x hi=>?_) (λA δ σ H x=>?_) λA δ σ i y H H2 x hi hy=>?_⟩
  ·obtain⟨b,vs,e,l,r⟩:=hat _ _ _ _ x
   cases e
   obtain⟨w',hw,_⟩:=Reps.get _ _ r i xs[i] (by simp[hi]);exact⟨vs,w',l,hw⟩
  ·obtain⟨b,vs,e,l,r⟩:=hat _ _ _ _ x
   cases e
   exact⟨vs,l,by rw[Reps.length _ _ r];exact G3 _⟩
  ·obtain⟨b,vs,e,l,r⟩:=hat _ _ _ _ x
   cases e
   obtain⟨e,hy⟩:=hy;obtain⟨w',hw,rw'⟩:=Reps.get _ _ r i xs[i] (by simp[hi]);have z:=hy vs l;rw[hw] at z
   cases z
   subst e;exact⟨b9.refl _,xs[i],by simp[hi],rw'⟩
 ·refine .inl ⟨a,rfl,⟨vs0,l0⟩,k xs δ1 r _ _ H1 (λq hq=>by simp[hq]) s1 (λA δ σ i H x hi=>?_) (λA δ σ H x=>?_) λA δ σ i y H H2 x hi hy=>?_⟩
  ·obtain⟨b,vs,e,l,r⟩:=hat _ _ _ _ x
   cases e
   obtain⟨w',hw,_⟩:=Reps.get _ _ r i xs[i] (by simp[hi]);exact⟨vs,w',l,hw⟩
  ·obtain⟨b,vs,e,l,r⟩:=hat _ _ _ _ x
   cases e
   exact⟨vs,l,by rw[Reps.length _ _ r];exact G3 _⟩
  ·obtain⟨b,vs,e,l,r⟩:=hat _ _ _ _ x
   cases e
   obtain⟨e,hy⟩:=hy;obtain⟨w',hw,rw'⟩:=Reps.get _ _ r i xs[i] (by simp[hi]);have z:=hy vs l;rw[hw] at z
   cases z
   subst e
   exact⟨b9.refl _,xs[i],by simp[hi],rw'⟩⟩
end
end DL
namespace DL
open PySem PySem.Spec PyProof.Rows L2
def EG(i:Nat)(f:List D->(D->Prop)->Prop)(ta:GS)(δ:En)(R:W->En->Prop):Prop:=qW δ[i]? λa _=>ta δ (wd λz δ1=>qWe δ1[i]? λd=>f [d,z] (kI R δ1))
theorem AN{X:Cx}{b:Expr}{tb:GS}{f:List D->(D->Prop)->Prop}{x y:Str}{k:Nat}{ps:List Str}{p p2 pos:Pos}(i:Nat)(C:Cal X.prog X.w X.K X.mg X.base k x ps (Gx X.K f))(hr:fK k X.A)(hg:Gl X x)(hb:DE X b tb)(hN:X.N[i]?=some y:=by rfl)
  (hv:Vis X.env.scope y:=by walk_at "v3") (hd:(y==("__debug__":Str))=false:=by decide) (hcd:(y==("__classdict__":Str))=false:=by decide)
  (hdb:(x==("__debug__":Str))=false:=by decide) (he:starEach [.Name y p2,b] X.env=(false,eval (.Name y p2) X.env)::starEach [b] X.env:=by rfl) (he1:starEach [b] X.env=(false,eval b X.env)::starEach [] X.env:=by rfl)
  (hpl:(backTo pos (starEach [b] X.env)).any (·.1)=false:=by rfl) :
  DE X (.Call (.Name x p) [.Name y p2,b] [] pos) (EG i f tb):=by
 obtain⟨g,fd,F,b',kp,m⟩:=C.ex;refine PE.imp (lM F hr hg m kp b' .nil wP (a9 (dF hN hv hd hcd) (a9 hb dr he1) he) hdb he hpl) λσ H Q ⟨G,δ,P,R,s,h,k,_⟩=>?_;replace h:=qW.ex h;obtain⟨a0,d00,hi0,h⟩:=h;refine⟨.ref a0,s.own hi0,up.mk s h λz δ1 h1 v H1 s1=>?_⟩;obtain⟨A,q⟩:=s1;replace h1:=qWe.ex q (s.own hi0) h1;obtain⟨d0,hi,hf⟩:=h1;show aV X.K f ([.ref a0,v]++[]) H1 Q;rw[HJ];obtain⟨_,aa,oo⟩:=q.own i a0 d0 hi;have hM:∀b,((G.M0 b\/A b)/\b≠a0)->(G.M0 b\/A b)\/H1 b=none:=λb h=>.inl h.1;refine⟨λb=>(G.M0 b\/A b)/\b≠a0,[d0,z],λr=>r.im=true/\R (.d r) δ1,λb h=>q.mem b h.1,Reps.cons (oo.rep (λz=>z.2 rfl) λb z=>z.1) (Reps.one (GU.more hM _ _ (q.pnd (z,v) (by simp)))),hf,λr ⟨im,hr⟩ u H' sm rp=>?_⟩;exact k r δ1 hr u H' ⟨A,((q.same sm).sub (P':=P) λp hp=>by simp[hp]).push (GU.im _ _ im rp)⟩
end DL
namespace DL
open PySem PySem.Spec PyProof.Rows L2
section
variable {X:Cx} {pos:Pos} {a b e:Expr} {ta tb:GS}
def FL:GM X (binaryOp .LShift) λx y=>aV X.K (fI CPow λi j=>.int (i*2 ^ j.toNat)) [x,y]:=opI DJ (λ_ _=>rfl) λ_ _ h=>h
end
section
variable {K:PySem.W.Frag} {G:Gf} {A A':Addr→Prop} {δ δ':List Sl} {P P':List (D×V)} {σ σ':L2.St} {H H':Hp} {p:Addr}
theorem Sx.inner(s:Sx K G (λb=>A b\/b=p) δ P σ H)(hp:¬ A p)(ho:∀(i:Nat) a d,δ[i]?=some (.own a d)->A a):Sx K ⟨λb=>G.M0 b\/b=p,H,A⟩ A δ P σ H:=by
 have hM:∀b,((G.M0 b\/b=p)\/A b)->(G.M0 b\/(A b\/b=p))\/H b=none:=λb h=>.inl (by
  rcases h with(h | h) | h
  ·exact .inl h
  ·exact .inr (.inr h)
  ·exact .inr (.inl h))
 refine⟨λb o h _=>h,λb h=>h,λb h=>?_,λb h=>⟨s.thr b (.inl h),?_⟩,λb h=>.inr h,λb h=>s.thr b (.inl h),s.len,λi d e=>let ⟨v,q,r⟩:=s.dat i d e;⟨v,q,GU.more hM _ _ r⟩,λi a d e=>let ⟨q,_,o⟩:=s.own i a d e;⟨q,ho i a d e,bq.more hM o⟩,s.inj,λq hq=>GU.more hM _ _ (s.pnd q hq)⟩
 ·rcases h with h | h
  ·exact s.stay b (s.m0 b h)
  ·exact s.thr b (.inr h)
 ·rintro(z | z)
  ·rcases s.new b (.inl h) with q | q
   ·exact s.m0 b z q
   ·exact(s.pm b q).2 z
  ·exact hp (by rw[<- z];exact h)
theorem Sx.outer(s:Sx K G (λb=>A b\/b=p) δ P σ H)(h0:G.H0 p=none)(t:Sx K ⟨λb=>G.M0 b\/b=p,H,A⟩ A' δ' P' σ' H'):Sx K G (λb=>A' b\/b=p) δ' P' σ' H':=by
 have hM:∀b,(G.M0 b\/(A' b\/b=p))->((G.M0 b\/b=p)\/A' b)\/H' b=none:=λb h=>.inl (by
  rcases h with h | h | h
  ·exact .inl (.inl h)
  ·exact .inr h
  ·exact .inl (.inr h))
 refine⟨λb o h hn=>t.old b o (s.old b o h hn) (λz=>?_),λb h=>t.stay b (s.stay b h),s.m0,s.pm,λb h=>?_,λb h=>?_,t.len,λi d e=>let ⟨v,q,r⟩:=t.dat i d e;⟨v,q,GU.more hM _ _ r⟩,λi a d e=>let ⟨q,r,o⟩:=t.own i a d e;⟨q,.inl r,bq.more hM o⟩,t.inj,λq hq=>GU.more hM _ _ (t.pnd q hq)⟩
 ·rcases s.new b (.inl z) with q | q
  ·rw[q] at h;cases h
  ·exact hn q
 ·rcases h with h | h
  ·rcases t.new b h with q | q
   ·refine .inl ?_
    cases e:G.H0 b with
    | none=>rfl
    | some o=>exact absurd q (s.stay b (by rw[e];exact λz=>nomatch z))
   ·exact s.new b (.inl q)
  ·exact .inl (by rw[h];exact h0)
 ·rcases h with h | h
  ·exact t.thr b h
  ·exact t.stay b (s.thr b (.inr h))
theorem Sx.pokeD{kvs kvs':List (Gr×V)}(s:Sx K G A δ P σ H)(hp:A p)(hv:H p=some (.dK kvs))(hno:∀(i:Nat) d,δ[i]?≠some (.own p d)):Sx K G A δ P σ (GC H p (.dK kvs')):=by
 have hk:∀b o,b≠p->H b=some o->GC H p (.dK kvs') b=some o:=λb o n e=>by rw[aH n];exact e
 have kp:Kp (λb=>G.M0 b\/A b) H (GC H p (.dK kvs')):=⟨λb o e n=>hk b o (λz=>n (.inr (by rw[z];exact hp))) e,λb xs e=>hk b _ (λz=>by rw[z,hv] at e;cases e) e,λb o u e=>hk b _ (λz=>by rw[z,hv] at e;cases e) e⟩
 have stay:∀b,H b≠none->GC H p (.dK kvs') b≠none:=λb e=>by
  by_cases z:b=p
  ·rw[z,aC];exact λz=>nomatch z
  ·rw[aH z];exact e
 have na:∀b o,G.H0 b=some o->¬ G.Pm b->b≠p:=λb o e n z=>(s.new p hp).elim (λq=>by rw[z] at e;rw[e] at q;cases q) λq=>n (by rw[z];exact q)
 refine⟨λb o e n=>hk b o (na b o e n) (s.old b o e n),λb e=>stay b (s.stay b e),s.m0,s.pm,s.new,λb e=>stay b (s.thr b e),s.len,λi d e=>let ⟨v,q,r⟩:=s.dat i d e;⟨v,q,GU.kp kp _ _ r⟩,λi a d e=>?_,s.inj,λq hq=>GU.kp kp _ _ (s.pnd q hq)⟩;obtain⟨q,r,o⟩:=s.own i a d e;have ne:a≠p:=λz=>by subst z;exact hno i d e
 exact⟨q,r,bq.kp kp (by rw[aH ne]) o⟩
end
section
variable {X:Cx} {pos:Pos} {a b e:Expr} {ta tb:GS}
def zf(i:Nat)(k l:Str)(ta tb:GS)(R:a6)(δ:En):Prop:=ta δ (wd λx δ1=>tb δ1 (wd λy δ2=>k≠l/\∀a,jO δ2 i (.own a (.dct [k,l] [x,y])) R.nx))
theorem xh(i:Nat){x k l:Str}{j1 j2}{p p1 p2 pos':Pos}(hN:X.N.Nodup)(ha:DE X a ta)(hb:DE X b tb)(hi:X.N[i]?=some x:=by rfl)(hx:Loc X.env.scope x:=by walk_at "v2")
  (hs:swapsWith (.Dict [some (.Constant (.str k) j1 p1),some (.Constant (.str l) j2 p2)] [a,b] p) (some (.Name x pos')) pos.line X.env=pure false:=by rfl)
  (hf:X.fn x=true\/X.env.scope.names.lookup x=some .local :=by walk_at "v1") :
  DS X (.Assign [.Name x pos'] (.Dict [some (.Constant (.str k) j1 p1),some (.Constant (.str l) j2 p2)] [a,b] p) pos) (zf i k l ta tb) :=
 PS.imp (kf hN hi hx (BQ (qh qP ha (qh qP hb Aq)) rfl rfl (λz=>nomatch z) (by show 2<=15;decide)) hs hf) λE σ H ⟨G,δ,P,R,⟨A,s⟩,h,kk,_⟩=>λp hp=>by
  have nA:¬ A p:=λz=>s.thr p z hp
  have h0:G.H0 p=none:=by
   cases q:G.H0 p with
   | none=>rfl
   | some o=>exact absurd hp (s.stay p (by rw[q];exact λz=>nomatch z))
  have hg:GC H p (.dK []) p=some (.dK []):=aC
  have s1:=s.addA hp (aI hp (.dK [])) (by rw[hg];exact λz=>nomatch z)
  have sin:=s1.inner nA (λi a d e=>(s.own i a d e).2.1)
  refine⟨_,δ,P,_,⟨A,sin⟩,h,λxv δ1 r1 v H2 s2=>?_,λi δ' r=>r.elim⟩;refine⟨_,δ1,(xv,v)::P,_,s2,r1,λyv δ2 r2 u H3 s3=>?_,λi δ' r=>r.elim⟩;obtain⟨ne,r2⟩:=r2;obtain⟨A3,x3⟩:=s3;have e3:H3 p=some (.dK []):=x3.old p _ hg nA;have n3:¬ A3 p:=λz=>by
   rcases x3.new p z with q | q
   ·have q:GC H p (.dK []) p=none:=q
    rw[hg] at q;cases q
   ·exact nA q
  have hno:∀(j:Nat) d,δ2[j]?≠some (.own p d):=λj d e=>n3 (x3.own j p d e).2.1
  have x4:=s1.outer h0 x3
  have x5:=x4.pokeD (kvs':=aO [k,l] [v,u]) (.inr rfl) e3 hno
  refine⟨e3,aO [k,l] [v,u],rfl,by show 2<=15;decide,?_⟩;have em:kG [] (aO [k,l] [v,u])=aO [k,l] [v,u]:=by
   show ky (ky [] (Sum.inr k) v) (Sum.inr l) u=[(Sum.inr k,v),(Sum.inr l,u)]
   unfold ky;simp[ne]
  rw[em];refine kk _ (r2 p) _ _ ⟨_,x5.slot (P':=P) (.inr rfl) ⟨[v,u],aC,rfl,?_⟩ hno λq hq=>GY _ (GY _ hq)⟩
  exact x5.reps [xv,yv] [v,u] rfl (λq hq=>by
   rcases G7.mp hq with rfl | hq
   ·exact GY _ (G1 ..)
   ·rw[G9.mp hq];exact G1 ..)
end
end DL
namespace DL
open PySem PySem.Spec PyProof.Rows L2
variable {K:PySem.W.Frag} {x x1 x2:Str} {st:Stmt} {h:Heap} {mg:Str→Option Value}
theorem FdK.fd{ps:List Str}(q:FdK K x st)(X:K.In h)(G:h.Ns mainGlobals mg)
  (b:∀(kV doc pm:Value) (an:Option Addr) (cdv ct:Value) (us:List Value),us.length=ps.length->bindArgs (PySem.W.fnOf x x (cU st) (bG st) (am st) .none kV doc pm an cdv ct) ⟨us,[]⟩=pure (ps.zip us)):Fd K mg x st ps:=by
 obtain⟨f,oc,od,an,sl,kV,dc,pm,cd,ct,a,l,c,k⟩:=q.ex;have F:=yp (st:=st) l c k;exact⟨_,_,F,F.binds (ps:=ps) b,JA X G a⟩
theorem iE{α:Type}{l:List α}{n:Nat}(h:l.length=n+1):∃a r,l=a::r/\r.length=n:=by
 cases l with
 | nil=>cases h
 | cons a r=>exact⟨a,r,rfl,Ja h⟩
theorem len1{α:Type}{l:List α}(h:l.length=1):∃a,l=[a]:=by
 obtain⟨a,r,rfl,h1⟩:=iE h;rw[Iu h1];exact⟨a,rfl⟩
theorem len2{α:Type}{l:List α}(h:l.length=2):∃a b,l=[a,b]:=by
 obtain⟨a,r,rfl,h1⟩:=iE h;obtain⟨b,rfl⟩:=len1 h1;exact⟨a,b,rfl⟩
theorem len3{α:Type}{l:List α}(h:l.length=3):∃a b c,l=[a,b,c]:=by
 obtain⟨a,r,rfl,h1⟩:=iE h;obtain⟨b,c,rfl⟩:=len2 h1;exact⟨a,b,c,rfl⟩
theorem len4{α:Type}{l:List α}(h:l.length=4):∃a b c d,l=[a,b,c,d]:=by
 obtain⟨a,r,rfl,h1⟩:=iE h;obtain⟨b,c,d,rfl⟩:=len3 h1;exact⟨a,b,c,d,rfl⟩
def FdK.fd1(q:FdK K x st)(X:K.In h)(G:h.Ns mainGlobals mg)
  (b:∀(kV doc pm:Value) (an:Option Addr) (cdv ct u1:Value),bindArgs (PySem.W.fnOf x x (cU st) (bG st) (am st) .none kV doc pm an cdv ct) ⟨[u1],[]⟩=pure [(x1,u1)]):Fd K mg x st [x1] :=
 q.fd X G λkV doc pm an cdv ct us hl=>by
  obtain⟨u1,rfl⟩:=len1 hl;exact b kV doc pm an cdv ct u1
def FdK.fd2(q:FdK K x st)(X:K.In h)(G:h.Ns mainGlobals mg)
  (b:∀(kV doc pm:Value) (an:Option Addr) (cdv ct u1 u2:Value),bindArgs (PySem.W.fnOf x x (cU st) (bG st) (am st) .none kV doc pm an cdv ct) ⟨[u1,u2],[]⟩=pure [(x1,u1),(x2,u2)]):Fd K mg x st [x1,x2] :=
 q.fd X G λkV doc pm an cdv ct us hl=>by
  obtain⟨u1,u2,rfl⟩:=len2 hl;exact b kV doc pm an cdv ct u1 u2
def FdK.fd3{x3:Str}(q:FdK K x st)(X:K.In h)(G:h.Ns mainGlobals mg)
  (b:∀(kV doc pm:Value) (an:Option Addr) (cdv ct u1 u2 u3:Value),bindArgs (PySem.W.fnOf x x (cU st) (bG st) (am st) .none kV doc pm an cdv ct) ⟨[u1,u2,u3],[]⟩=pure [(x1,u1),(x2,u2),(x3,u3)]):Fd K mg x st [x1,x2,x3] :=
 q.fd X G λkV doc pm an cdv ct us hl=>by
  obtain⟨u1,u2,u3,rfl⟩:=len3 hl;exact b kV doc pm an cdv ct u1 u2 u3
def FdK.fd4{x3 x4:Str}(q:FdK K x st)(X:K.In h)(G:h.Ns mainGlobals mg)
  (b:∀(kV doc pm:Value) (an:Option Addr) (cdv ct u1 u2 u3 u4:Value),bindArgs (PySem.W.fnOf x x (cU st) (bG st) (am st) .none kV doc pm an cdv ct) ⟨[u1,u2,u3,u4],[]⟩=pure [(x1,u1),(x2,u2),(x3,u3),(x4,u4)]):Fd K mg x st [x1,x2,x3,x4] :=
 q.fd X G λkV doc pm an cdv ct us hl=>by
  obtain⟨u1,u2,u3,u4,rfl⟩:=len4 hl;exact b kV doc pm an cdv ct u1 u2 u3 u4
theorem rm{j k:Nat}{A:Around}(h:fK k A)(e:j<=k:=by decide):fK j A:=h.mono e
end DL
namespace DL
open PySem PySem.Spec PyProof.Rows L2
end DL
namespace DL
open PySem PySem.Spec PyProof.Rows L2
section
variable {X:Cx}
end
end DL
namespace DL
open PySem PySem.Spec PyProof.Rows L2
section
variable {X:Cx} {a:Expr} {ta:GS} {apos cpos p1:Pos}
def Ce:V->List V->Hp->VK->Prop:=λx vs H Q=>∃(s b:Str) (i:Nat) (cJ:List Nat),x=.str s/\vs=[.str b]/\Builtin.Str.occurrences s b 0 s.length 1=i::cJ/\Q (.int i) H
theorem xA:MtM X "str.index" Ce:=by
 intro pins s σ H x vs v us Q I rx rv h;obtain⟨y,b,i,cJ,rfl,rfl,ho,q⟩:=h;obtain⟨t,rfl⟩:=rx;obtain⟨w',rfl,rw'⟩:=fk rv;obtain⟨u,rfl⟩:=rw';refine call_gives PySem.F.slot_str_index (typeIs_str _ _ _) PySem.F.entry_str_index (PySem.F.args_str_index_2 _ _) (gives_str_index y b t u i cJ ho) ?_;exact⟨.int i,H,I.tok _,⟨_,rfl⟩,q⟩
def dIdx(s:Str)(t:GS)(δ:En)(R:W->En->Prop):Prop:=t δ (wd λx δ1=>∃(b:Str) (i:Nat) (cJ:List Nat),x=.str b/\Builtin.Str.occurrences s b 0 s.length 1=i::cJ/\R (.d (.int i)) δ1)
theorem D3{s:Str}{j}(ha:DE X a ta)(he:starEach [a] X.env=(false,eval a X.env)::starEach [] X.env:=by rfl)
    (hbase:attributeBase (.Constant (.str s) j p1) "index" X.env (eval (.Constant (.str s) j p1) X.env)=eval (.Constant (.str s) j p1) X.env:=by rfl)
    (hfew:((backTo cpos (starEach [a] X.env)).all (λx=>!x.1)&&(backToKw cpos (keywordEach [] X.env)).all (λx=>x.1.isSome)
      && decide (([a]:List Expr).length+([]:List Keyword).length+(if ([]:List Keyword).isEmpty then 0 else 1)<30))=true:=by rfl)
    (hline:(apos.endLine==cpos.line)=true:=by rfl) (hplain:(backTo cpos (starEach [] X.env)).any (·.1)=false:=by rfl) :
    DE X (.Call (.Attribute (.Constant (.str s) j p1) "index" apos) [a] [] cpos) (dIdx s ta) :=
  PE.imp (yc PySem.F.plainAttrs_str PySem.F.slot_str_index PySem.F.type_str_index xA qP (a9 ha dr he) hbase hfew hline he hplain) λσ H Q hu=>by
    obtain⟨G,δ,P,R,st,h,k,_⟩:=hu;refine⟨rfl,up.mk st h λd δ1 h1 v H1 s1=>?_⟩;obtain⟨b,i,cJ,rfl,ho,r⟩:=h1;obtain⟨A,x⟩:=id s1;have q:=x.pnd (.str b,v) (by simp);unfold GU at q;subst q;exact⟨s,b,i,cJ,rfl,rfl,ho,k _ δ1 r _ H1 ((s1.sub (P':=P) λp hp=>GY _ hp).sc rfl)⟩
end
end DL
namespace Mf
abbrev V:=Nat->Rat
def GP:Nat->V->V->Rat
 | 0,_,_=>0
 | m+1,c,w=>GP m c w+c m*w m
theorem dE(c u v:V)(a b:Rat):∀m,GP m c (λi=>a*u i+b*v i)=a*GP m c u+b*GP m c v
 | 0=>by show (0:Rat)=a*0+b*0;grind
 | m+1=>by show GP m c _+_=a*(GP m c u+_)+b*(GP m c v+_);rw[dE c u v a b m];grind
theorem pv(e c w:V)(a b:Rat):∀m,GP m (λi=>a*e i+b*c i) w=a*GP m e w+b*GP m c w
 | 0=>by show (0:Rat)=a*0+b*0;grind
 | m+1=>by show GP m _ w+_=a*(GP m e w+_)+b*(GP m c w+_);rw[pv e c w a b m];grind
theorem iU{c w w':V}:∀ {m},(∀i,i<m->w i=w' i)->GP m c w=GP m c w'
 | 0,_=>rfl
 | m+1,h=>by show GP m c w+_=GP m c w'+_;rw[iU λi hi=>h i (by omega),h m (by omega)]
def sz(m:Nat)(w:V):Nat:=((List.range m).filter λi=>decide (w i≠0)).length
theorem fi(m:Nat)(w:V):sz (m+1) w=sz m w+if w m=0 then 0 else 1:=by
 unfold sz;rw[List.range_succ,List.filter_append,G8]
 by_cases h:w m=0<;>simp[h]
theorem xp{w w':V}:∀(m:Nat),(∀i,i<m->w' i≠0->w i≠0)->sz m w'<=sz m w
 | 0,_=>G3 _
 | m+1,h=>by
  rw[fi,fi];have:=xp m λi hi=>h i (by omega);have:=h m (by omega)
  grind
theorem Ab{w w':V}{q:Nat}:∀(m:Nat),(∀i,i<m->w' i≠0->w i≠0)->q<m->w q≠0->w' q=0->sz m w'<sz m w
 | 0,_,hq,_,_=>by omega
 | m+1,h,hq,h1,h2=>by
  rw[fi,fi];have h3:=xp m λi hi=>h i (by omega);have h4:=h m (by omega)
  by_cases e:q=m
  ·subst e;grind
  ·have:=Ab m (λi hi=>h i (by omega)) (by omega) h1 h2
   grind
variable {m:Nat} {st:Nat→Bool}
def sat(m:Nat)(st:Nat->Bool)(e w:V):Prop:=0<GP m e w\/(GP m e w=0/\∀i,i<m->0<w i->st i=false)
theorem kM{e u v:V}{a b:Rat}(hu:sat m st e u)(hv:sat m st e v)(ha:0<=a)(hb:0<=b):sat m st e (λi=>a*u i+b*v i):=by
 unfold sat;rw[dE];have hu0:0<=GP m e u:=by rcases hu with h | h<;>grind
 have hv0:0<=GP m e v:=by rcases hv with h | h<;>grind
 have h1:=HH ha hu0
 have h2:=HH hb hv0
 by_cases z:0<a*GP m e u+b*GP m e v
 ·exact .inl z
 ·refine .inr ⟨by grind,λi hi hw=>?_⟩;have e1:a*GP m e u=0:=by grind
  have e2:b*GP m e v=0:=by grind
  have pos:0<a*u i\/0<b*v i:=by grind
  rcases pos with p | p
  ·have ha':0<a:=by
    refine G5 λz=>?_;have:a=0:=by grind
    rw[this] at p;grind
   have hu':0<u i:=by
    refine G5 λz=>?_;have:=HH ha (b:=- u i) (by grind)
    grind
   rcases hu with h | h
   ·have:=Im ha' h;grind
   ·exact h.2 i hi hu'
  ·have hb':0<b:=by
    refine G5 λz=>?_;have:b=0:=by grind
    rw[this] at p;grind
   have hv':0<v i:=by
    refine G5 λz=>?_;have:=HH hb (b:=- v i) (by grind)
    grind
   rcases hv with h | h
   ·have:=Im hb' h;grind
   ·exact h.2 i hi hv'
theorem dZ{e w w':V}(h:∀i,i<m->w i=w' i)(s:sat m st e w):sat m st e w':=by
 unfold sat at s ⊢;rw[<- iU h];exact s.imp id λ⟨h1,h2⟩=>⟨h1,λi hi hp=>h2 i hi (by rw[h i hi];exact hp)⟩
theorem nO:∀(cs:List V) (J:List Nat),J.Nodup->cs.length<J.length->∃d:V,(∀i,d i≠0->i∈J)/\(∃i,d i≠0)/\∀c∈cs,GP m c d=0
 | [],J,nd,h=>by
  cases J with
  | nil=>simp at h
  | cons j J=>exact⟨λi=>if i=j then 1 else 0,λi hi=>by by_cases e:i=j<;>simp_all,⟨j,by simp⟩,λc hc=>nomatch hc⟩
 | c::cs,J,nd,h=>by
  cases J with
  | nil=>simp at h
  | cons j J =>
   have h:cs.length+1<J.length+1:=h
   obtain⟨nj,ndJ⟩:=HM.mp nd;obtain⟨d1,a1,⟨i,hi⟩,b1⟩:=nO cs J ndJ (by omega);have him:=a1 i hi;obtain⟨d2,a2,⟨k,hk⟩,b2⟩:=nO cs ((j::J).erase i) (nd.erase i) (by rw[List.length_erase_of_mem (GY _ him)];simpa using by omega);have hd2i:d2 i=0:=G5 λz=>((nd.mem_erase_iff).mp (a2 i z)).1 rfl
   by_cases e:GP m c d2=0
   ·refine⟨d2,λi hi=>List.mem_of_mem_erase (a2 i hi),⟨k,hk⟩,λc' hc'=>?_⟩
    rcases G7.mp hc' with rfl | hc'
    ·exact e
    ·exact b2 c' hc'
   ·refine⟨λi=>GP m c d2*d1 i+(- GP m c d1)*d2 i,λx hx=>?_,⟨i,?_⟩,λc' hc'=>?_⟩
    ·by_cases z1:d1 x=0
     ·by_cases z2:d2 x=0
      ·refine absurd ?_ hx;show _*d1 x+_*d2 x=0;rw[z1,z2];grind
      ·exact List.mem_of_mem_erase (a2 x z2)
     ·exact GY _ (a1 x z1)
    ·show _*d1 i+_*d2 i≠0
     rw[hd2i];intro z;have:GP m c d2*d1 i=0:=by grind
     rcases JB.mp this with q | q
     ·exact e q
     ·exact hi q
    ·rw[dE]
     rcases G7.mp hc' with rfl | hc'
     ·grind
     ·rw[b1 c' hc',b2 c' hc'];grind
theorem BO{w d:V}(hw:∀i,0<=w i)(hd:∀i,d i≠0->0<w i):∀(J:List Nat),(∃i∈J,0<d i)->∃t,0<t/\(∀i∈J,0<=w i-t*d i)/\∃q∈J,0<d q/\w q-t*d q=0
 | [],⟨i,hi,_⟩=>nomatch hi
 | j::J,h=>by
  have one:∀i,0<d i->0<w i / d i/\w i-(w i / d i)*d i=0:=λi hi=>by
   have hwi:=hd i (by grind)
   exact⟨by rw[Rat.lt_div_iff hi];grind,by grind⟩
  by_cases hJ:∃i∈J,0<d i
  ·obtain⟨t,t0,h1,q,hq,dq,eq⟩:=BO hw hd J hJ
   by_cases hj:0<=w j-t*d j
   ·refine⟨t,t0,λi hi=>?_,q,GY _ hq,dq,eq⟩
    rcases G7.mp hi with rfl | hi
    ·exact hj
    ·exact h1 i hi
   ·have dj:0<d j:=by
     refine G5 λz=>hj ?_;have:=HH (a:=t) (b:=- d j) (by grind) (by grind);have:=hw j
     grind
    obtain⟨o1,o2⟩:=one j dj;have lt:w j / d j<t:=by
     refine G5 λz=>hj ?_;have:=HH (a:=w j / d j-t) (b:=d j) (by grind) (by grind)
     grind
    refine⟨w j / d j,o1,λi hi=>?_,j,G1 ..,dj,o2⟩
    rcases G7.mp hi with rfl | hi
    ·grind
    ·by_cases di:0<d i
     ·have:=h1 i hi
      have:=HH (a:=t-w j / d j) (b:=d i) (by grind) (by grind)
      grind
     ·have:=HH (a:=w j / d j) (b:=- d i) (by grind) (by grind)
      have:=hw i
      grind
  ·have dj:0<d j:=by
    obtain⟨i,hi,p⟩:=h
    rcases G7.mp hi with rfl | hi
    ·exact p
    ·exact absurd ⟨i,hi,p⟩ hJ
   obtain⟨o1,o2⟩:=one j dj;refine⟨w j / d j,o1,λi hi=>?_,j,G1 ..,dj,o2⟩
   rcases G7.mp hi with rfl | hi
   ·grind
   ·have di:¬ 0<d i:=λp=>hJ ⟨i,hi,p⟩
    have:=HH (a:=w j / d j) (b:=- d i) (by grind) (by grind)
    have:=hw i
    grind
structure Nn(m:Nat)(w:V):Prop where
 pos:∀i,0<=w i
 top:∀i,m<=i->w i=0
structure Sub(m:Nat)(cs:List V)(w u:V):Prop where
 nn:Nn m u
 an:∀c∈cs,GP m c u=0
 su:∀i,u i≠0->w i≠0
 lt:sz m u<sz m w
theorem DP{cs:List V}{w d:V}{p:Nat}(hw:Nn m w)(ha:∀c∈cs,GP m c w=0)(hd:∀i,d i≠0->w i≠0)(da:∀c∈cs,GP m c d=0)(hp:w p≠0)(dp:d p=0)(h:∃i,0<d i) :
  ∃u v a b,0<=a/\0<=b/\(∀i,w i=a*u i+b*v i)/\Sub m cs w u/\Sub m cs w v:=by
 have lt:∀ {i},w i≠0->i<m:=λ{i} h=>G5 λz=>h (hw.top i (by omega))
 have pos:∀ {i},w i≠0->0<w i:=λ{i} h=>by have:=hw.pos i;grind
 have mk:∀ {x:V} {a b:Rat},0<=a->(∀i,x i=a*w i+b*d i)->(∀i,i<m->0<=x i)->(∃q,w q≠0/\x q=0)->Sub m cs w x:=λ{x a b} ha0 hx h0 ⟨q,hq,xq⟩=>by
  have su:∀i,x i≠0->w i≠0:=λi hi z=>hi (by
   have:d i=0:=G5 λy=>hd i y z
   rw[hx i,z,this];grind)
  refine⟨⟨λi=>?_,λi hi=>G5 λz=>su i z (hw.top i hi)⟩,λc hc=>?_,su,Ab m (λi _=>su i) (lt hq) hq xq⟩
  ·by_cases hi:i<m
   ·exact h0 i hi
   ·have:x i=0:=G5 λz=>su i z (hw.top i (by omega))
    rw[this];exact Rat.le_refl
  ·have:x=λi=>a*w i+b*d i:=funext hx
   rw[this,dE,ha c hc,da c hc];grind
 have hr:∀ {i},d i≠0->i∈List.range m:=λ{i} h=>Ig.mpr (lt (hd i h))
 obtain⟨i,hi⟩:=h;obtain⟨t,t0,h1,q,hq,dq,eq⟩:=BO hw.pos (λi h=>pos (hd i h)) (List.range m) ⟨i,hr (by grind),hi⟩;have s1:Sub m cs w (λi=>w i-t*d i):=mk (a:=1) (b:=-t) (by grind) (λi=>by grind) (λi hi=>h1 i (Ig.mpr hi)) ⟨q,hd q (by grind),eq⟩
 by_cases hn:∃i,0 < - d i
 ·obtain⟨k,hk⟩:=hn;obtain⟨t',t0',h1',q',hq',dq',eq'⟩:=BO (d:=λi=>- d i) hw.pos (λi h=>pos (hd i (by grind))) (List.range m) ⟨k,hr (by grind),hk⟩;have s2:Sub m cs w (λi=>w i-t' * - d i):=mk (a:=1) (b:=t') (by grind) (λi=>by grind) (λi hi=>h1' i (Ig.mpr hi)) ⟨q',hd q' (by grind),eq'⟩;have tt:t+t'≠0:=by grind
  have e1:0<t' / (t+t'):=by rw[Rat.lt_div_iff (by grind)];grind
  have e2:0<t / (t+t'):=by rw[Rat.lt_div_iff (by grind)];grind
  refine⟨_,_,t' / (t+t'),t / (t+t'),by grind,by grind,λi=>?_,s1,s2⟩;have e3:t' / (t+t')+t / (t+t')=1:=by grind
  have e4:t' / (t+t')*t=t / (t+t')*t':=by grind
  grind
 ·have s2:Sub m cs w d:=mk (a:=0) (b:=1) (by grind) (λi=>by grind) (λi hi=>G5 λz=>hn ⟨i,by grind⟩) ⟨p,hp,dp⟩
  exact⟨_,_,1,t,by grind,by grind,λi=>by grind,s1,s2⟩
theorem split{cs:List V}{w:V}(hw:Nn m w)(ha:∀c∈cs,GP m c w=0)(hz:cs.length+1<sz m w) :
  ∃u v a b,0<=a/\0<=b/\(∀i,w i=a*u i+b*v i)/\Sub m cs w u/\Sub m cs w v:=by
 have mem:∀ {i},i∈(List.range m).filter (λi=>decide (w i≠0))↔i<m/\w i≠0:=by simp
 have nd:((List.range m).filter (λi=>decide (w i≠0))).Nodup:=List.nodup_range.filter _
 unfold sz at hz;generalize hJ:(List.range m).filter (λi=>decide (w i≠0))=J at mem nd hz
 cases J with
 | nil=>simp at hz
 | cons p J =>
  obtain⟨np,ndJ⟩:=HM.mp nd;obtain⟨d,h1,⟨i,hi⟩,h3⟩:=nO (m:=m) cs J ndJ (by simpa using hz);have hd:∀i,d i≠0->w i≠0:=λi h=>(mem.mp (GY _ (h1 i h))).2;have dp:d p=0:=G5 λz=>np (h1 p z);have hp:=(mem.mp (G1 ..:p∈p::J)).2
  by_cases s:0<d i
  ·exact DP hw ha hd h3 hp dp ⟨i,s⟩
  ·have e:(λi=>- d i)=λi=>(-1)*d i+0*d i:=by funext i;grind
   exact DP (d:=λi=>- d i) hw ha (λi h=>hd i (by grind)) (λc hc=>by rw[e,dE,h3 c hc];grind) hp (by rw[dp];grind) ⟨i,by grind⟩
def uX(v:Rat)(x:Rat×Rat×Bool):Prop:=0<x.1+v*x.2.1\/(x.1+v*x.2.1=0/\x.2.2=false)
theorem maxL:∀(l:List (Rat×Bool)),l≠[]->∃x∈l,∀y∈l,y.1<x.1\/(y.1=x.1/\(y.2=true->x.2=true))
 | [],h=>absurd rfl h
 | z::l,_=>by
  by_cases hl:l=[]
  ·subst hl;exact⟨z,G1 ..,λy hy=>by rcases G7.mp hy with rfl | h;exact .inr ⟨rfl,id⟩;cases h⟩
  ·obtain⟨x,hx,h⟩:=maxL l hl
   by_cases c:z.1<x.1\/(z.1=x.1/\(z.2=true->x.2=true))
   ·refine⟨x,GY _ hx,λy hy=>?_⟩
    rcases G7.mp hy with rfl | hy
    ·exact c
    ·exact h y hy
   ·refine⟨z,G1 ..,λy hy=>?_⟩
    rcases G7.mp hy with rfl | hy
    ·exact .inr ⟨rfl,id⟩
    ·have:=h y hy
     cases hz2:z.2<;>cases hx2:x.2<;>grind
theorem Ef(L:List (Rat×Rat×Bool))(hz:∀x∈L,x.2.1=0->uX 0 x)
  (hp:∀l∈L,∀h∈L,0<l.2.1->h.2.1<0->0<l.1*(- h.2.1)+h.1*l.2.1\/(l.1*(- h.2.1)+h.1*l.2.1=0/\l.2.2=false/\h.2.2=false)):∃v,∀x∈L,uX v x:=by
 have low:(∀x∈L,¬ 0<x.2.1)\/∃l∈L,0<l.2.1/\∀x∈L,0<x.2.1->-x.1 / x.2.1 < -l.1 / l.2.1\/(-x.1 / x.2.1=-l.1 / l.2.1/\(x.2.2=true->l.2.2=true)):=by
  by_cases h:(L.filter λx=>decide (0<x.2.1)).map (λx=>(-x.1 / x.2.1,x.2.2))=[]
  ·refine .inl λx hx hp=>?_;rw[List.map_eq_nil_iff,List.filter_eq_nil_iff] at h;exact h x hx (by simpa using hp)
  ·obtain⟨y,hy,h⟩:=maxL _ h;obtain⟨l,hl,rfl⟩:=GZ.mp hy;obtain⟨hl,hl2⟩:=Hi.mp hl;exact .inr ⟨l,hl,by simpa using hl2,λx hx hp=>h _ (GZ.mpr ⟨x,Hi.mpr ⟨hx,by simpa using hp⟩,rfl⟩)⟩
 have high:(∀x∈L,¬ x.2.1<0)\/∃l∈L,l.2.1<0/\∀x∈L,x.2.1<0->x.1 / x.2.1<l.1 / l.2.1\/(x.1 / x.2.1=l.1 / l.2.1/\(x.2.2=true->l.2.2=true)):=by
  by_cases h:(L.filter λx=>decide (x.2.1<0)).map (λx=>(x.1 / x.2.1,x.2.2))=[]
  ·refine .inl λx hx hp=>?_;rw[List.map_eq_nil_iff,List.filter_eq_nil_iff] at h;exact h x hx (by simpa using hp)
  ·obtain⟨y,hy,h⟩:=maxL _ h;obtain⟨l,hl,rfl⟩:=GZ.mp hy;obtain⟨hl,hl2⟩:=Hi.mp hl;exact .inr ⟨l,hl,by simpa using hl2,λx hx hp=>h _ (GZ.mpr ⟨x,Hi.mpr ⟨hx,by simpa using hp⟩,rfl⟩)⟩
 have lo:∀(x:Rat×Rat×Bool) (v:Rat),0<x.2.1->(-x.1 / x.2.1<v\/(-x.1 / x.2.1=v/\x.2.2=false))->uX v x:=λx v hc h=>by
  have e:x.1=-((-x.1 / x.2.1)*x.2.1):=by grind
  rcases h with h | h
  ·have:=Im (a:=v-(-x.1 / x.2.1)) (b:=x.2.1) (by grind) hc
   exact .inl (by grind)
  ·exact .inr ⟨by grind,h.2⟩
 have hi:∀(x:Rat×Rat×Bool) (v:Rat),x.2.1<0->(x.1 / x.2.1 < -v\/(x.1 / x.2.1=-v/\x.2.2=false))->uX v x:=λx v hc h=>by
  have e:x.1=(x.1 / x.2.1)*x.2.1:=by grind
  rcases h with h | h
  ·have:=Im (a:=-v-(x.1 / x.2.1)) (b:=-x.2.1) (by grind) (by grind)
   exact .inl (by grind)
  ·exact .inr ⟨by grind,h.2⟩
 have ze:∀(x:Rat×Rat×Bool) (v:Rat),x∈L->x.2.1=0->uX v x:=λx v hx h=>by
  have:=hz x hx h
  unfold uX at this ⊢;rw[h] at this ⊢
  grind
 have done:∀v,(∀x∈L,0<x.2.1->uX v x)->(∀x∈L,x.2.1<0->uX v x)->∃v,∀x∈L,uX v x:=λv h1 h2=>⟨v,λx hx=>by
  rcases(by grind:x.2.1<0\/x.2.1=0\/0<x.2.1) with c | c | c
  ·exact h2 x hx c
  ·exact ze x v hx c
  ·exact h1 x hx c⟩
 rcases low with nl | ⟨l,hl,cl,tl⟩
 ·rcases high with nh | ⟨k,hk,ck,tk⟩
  ·exact done 0 (λx hx h=>absurd h (nl x hx)) λx hx h=>absurd h (nh x hx)
  ·exact done (-(k.1 / k.2.1)-1) (λx hx h=>absurd h (nl x hx)) λx hx h=>hi x _ h (.inl (by have:=tk x hx h;grind))
 ·rcases high with nh | ⟨k,hk,ck,tk⟩
  ·exact done (-l.1 / l.2.1+1) (λx hx h=>lo x _ h (.inl (by have:=tl x hx h;grind))) λx hx h=>absurd h (nh x hx)
  ·have pr:=hp l hl k hk cl ck
   have e1:l.1=-((-l.1 / l.2.1)*l.2.1):=by grind
   have e2:k.1=(k.1 / k.2.1)*k.2.1:=by grind
   generalize hA:-l.1 / l.2.1=A at *
   generalize hB:k.1 / k.2.1=B at *
   have pr2:A < -B\/(A=-B/\l.2.2=false/\k.2.2=false):=by
    have e3:l.1*(-k.2.1)+k.1*l.2.1=(-B-A)*(l.2.1*(-k.2.1)):=by grind
    have pp:=Im (a:=l.2.1) (b:=-k.2.1) cl (by grind)
    rw[e3] at pr
    rcases pr with p | p
    ·refine .inl (G5 λz=>?_);have:=HH (a:=A+B) (b:=l.2.1 * -k.2.1) (by grind) (by grind)
     grind
    ·rcases JB.mp p.1 with q | q
     ·exact .inr ⟨by grind,p.2⟩
     ·grind
   refine done ((A-B) / 2) (λx hx h=>lo x _ h ?_) λx hx h=>hi x _ h ?_
   ·have:=tl x hx h
    cases hx2:x.2.2<;>cases hl2:l.2.2<;>grind
   ·have:=tk x hx h
    cases hx2:x.2.2<;>cases hk2:k.2.2<;>grind
def Comp(m:Nat)(st:Nat->Bool)(cs:List V)(S:List V):Prop:=∀(I:Nat->Prop) (e:V),(∀s∈S,(∀i,s i≠0->I i)->sat m st e s)->∀w,Nn m w->(∀c∈cs,GP m c w=0)->(∀i,w i≠0->I i)->sat m st e w
def B6(j:Nat):V:=λi=>if i=j then 1 else 0
theorem pY{e w:V}(h:∀i,i<m->w i=0):sat m st e w:=by
 have:GP m e w=0:=by
  rw[iU (w':=λi=>0*w i+0*w i) λi hi=>by rw[h i hi];grind,dE];grind
 exact .inr ⟨this,λi hi hp=>by rw[h i hi] at hp;grind⟩
theorem ud(S:List V)(h:∀j,j<m->B6 j∈S):Comp m st [] S:=by
 intro I e hs w hw _ hI;have go:∀k,k<=m->sat m st e (λi=>if i<k then w i else 0):=λk=>by
  induction k with
  | zero=>intro _;exact pY λi _=>by simp
  | succ k ih =>
   intro hk;have h1:=ih (by omega)
   by_cases z:w k=0
   ·refine dZ (λi hi=>?_) h1
    by_cases e1:i<k
    ·simp[e1,Nat.lt_succ_of_lt e1]
    ·by_cases e2:i=k
     ·subst e2;simp[z]
     ·simp[e1,show ¬ i<k+1 by omega]
   ·have h2:=hs (B6 k) (h k (by omega)) λi hi=>by
     have:i=k:=G5 λy=>hi (by simp[B6,y])
     subst this;exact hI i z
    refine dZ (λi hi=>?_) (kM h1 h2 (a:=1) (b:=w k) (by grind) (hw.pos k));unfold B6
    by_cases e1:i<k
    ·simp[e1,Nat.lt_succ_of_lt e1,show i≠k by omega];grind
    ·by_cases e2:i=k
     ·subst e2;simp;grind
     ·simp[e1,e2,show ¬ i<k+1 by omega];grind
 exact dZ (λi hi=>by simp[hi]) (go m (G3 m))
structure Kept(m:Nat)(c:V)(most:Nat)(S S':List V):Prop where
 nn:∀s∈S,Nn m s
 zero:∀s∈S,GP m c s=0->s∈S'
 cross:∀l∈S,∀h∈S,0<GP m c l->GP m c h<0->sz m (λi=>(- GP m c h)*l i+GP m c l*h i)<=most->∃u∈S',∃g,0<g/\∀i,g*u i=(- GP m c h)*l i+GP m c l*h i
theorem uB(e c w:V)(v:Rat):sat m st (λi=>1*e i+v*c i) w↔(0<GP m e w+v*GP m c w\/(GP m e w+v*GP m c w=0/\∀i,i<m->0<w i->st i=false)):=by
 unfold sat;rw[pv];have:1*GP m e w+v*GP m c w=GP m e w+v*GP m c w:=by grind
 rw[this]
open Classical in
theorem vM{cs S S':List V}{c:V}(k:Comp m st cs S)(h:Kept m c (cs.length+2) S S'):Comp m st (c::cs) S':=by
 intro I e hs w hw ha hI;have main:∀n w,sz m w<=n->Nn m w->(∀c'∈c::cs,GP m c' w=0)->(∀i,w i≠0->I i)->sat m st e w:=λn=>by
  induction n with
  | zero =>
   intro w hz hw _ _;refine pY λi hi=>byContradiction λz=>?_;have:=Ab (w:=w) (w':=λ_=>0) m (λi _ h=>absurd rfl h) hi z rfl;omega
  | succ n ih =>
   intro w hz hw ha hI
   by_cases big:(c::cs).length+1<sz m w
   ·obtain⟨u,v,a,b,a0,b0,hwe,su,sv⟩:=split hw ha big;have h1:=ih u (by have:=su.lt;omega) su.nn su.an λi hi=>hI i (su.su i hi);have h2:=ih v (by have:=sv.lt;omega) sv.nn sv.an λi hi=>hI i (sv.su i hi);exact dZ (λi _=>(hwe i).symm) (kM h1 h2 a0 b0)
   ·have big:sz m w<=cs.length+2:=by simp at big;omega
    have pr:∀l∈S,∀k∈S,(∀i,l i≠0->w i≠0)->(∀i,k i≠0->w i≠0)->0<GP m c l->GP m c k<0->sat m st e (λi=>(- GP m c k)*l i+GP m c l*k i):=λl hl k hk sl sk cl ck=>by
     have su:∀i,(- GP m c k)*l i+GP m c l*k i≠0->w i≠0:=λi hi=>by
      by_cases z:l i=0
      ·by_cases y:k i=0
       ·refine absurd ?_ hi;rw[z,y];grind
       ·exact sk i y
      ·exact sl i z
     obtain⟨u,hu,g,g0,eu⟩:=h.cross l hl k hk cl ck (G0 (xp m λi _=>su i) big);have hu2:=hs u hu λi hi=>hI i (su i (by rw[<- eu i];intro z;rcases JB.mp z with q | q;grind;exact hi q));exact dZ (λi _=>by rw[<- eu i];grind) (kM hu2 hu2 (a:=g) (b:=0) (by grind) (by grind))
    have od:=Ef ((S.filter λs=>decide (∀i,s i≠0->w i≠0)).map λs=>(GP m e s,GP m c s,!decide (∀i,i<m->0<s i->st i=false)))
    have od1:=od λx hx h0=>by
     obtain⟨s,hs',rfl⟩:=GZ.mp hx;obtain⟨hs',hsu⟩:=Hi.mp hs';have:=hs s (h.zero s hs' h0) λi hi=>hI i ((by simpa using hsu:∀i,¬ s i=0->¬ w i=0) i hi);unfold sat at this;unfold uX;have e0:GP m e s+0*GP m c s=GP m e s:=by grind
     simp only[e0];simpa using this
    have od2:=od1 λl hl k hk cl ck=>by
     obtain⟨l,hl',rfl⟩:=GZ.mp hl;obtain⟨k',hk',rfl⟩:=GZ.mp hk;obtain⟨hl',hlu⟩:=Hi.mp hl';obtain⟨hk',hku⟩:=Hi.mp hk';have:=pr l hl' k' hk' (by simpa using hlu) (by simpa using hku) cl ck;unfold sat at this;rw[dE] at this;have e0:(- GP m c k')*GP m e l+GP m c l*GP m e k'=GP m e l*(- GP m c k')+GP m e k'*GP m c l:=by grind
     rw[e0] at this;refine this.imp id λ⟨h1,h2⟩=>⟨h1,?_,?_⟩
     ·simp only[Bool.not_eq_false',decide_eq_true_eq];intro i hi hp;refine h2 i hi ?_;have p1:=Im (a:=- GP m c k') (b:=l i) (by grind) hp;have p2:=HH (a:=GP m c l) (b:=k' i) (by grind) ((h.nn k' hk').pos i)
      grind
     ·simp only[Bool.not_eq_false',decide_eq_true_eq];intro i hi hp;refine h2 i hi ?_;have p1:=Im (a:=GP m c l) (b:=k' i) cl hp;have p2:=HH (a:=- GP m c k') (b:=l i) (by grind) ((h.nn l hl').pos i)
      grind
    obtain⟨v,hv⟩:=od2;have all:∀s∈S,(∀i,s i≠0->w i≠0)->sat m st (λi=>1*e i+v*c i) s:=λs hs' hsu=>by
     have:=hv _ (GZ.mpr ⟨s,Hi.mpr ⟨hs',by simpa using hsu⟩,rfl⟩)
     rw[uB];unfold uX at this;simpa using this
    have:=k (λi=>w i≠0) _ all w hw (λc' hc'=>ha c' (GY _ hc')) λi hi=>hi
    rw[uB,ha c (G1 ..)] at this;unfold sat;have e0:GP m e w+v*0=GP m e w:=by grind
    rw[e0] at this;exact this
 exact main _ w (G3 _) hw ha hI
end Mf
namespace Mf
open PySem L2 DL
variable {x:Str→Rat} {n:Str} {F:Str→Int} {nm:List Str} {rows:List Rw} {w:List Int}
def cZ(x:Str->Rat):List (Str×Int)->Rat
 | []=>0
 | t::r=>(t.2:Rat)*x t.1+cZ x r
def soR(x:Str->Rat)(r:Rw):Prop:=match r.1 with
 | .least=>(r.2.2:Rat)<=cZ x r.2.1
 | .more=>(r.2.2:Rat)<cZ x r.2.1
def v4(x:Str->Rat)(n:Str)(v:Rat):Str->Rat:=λk=>if k=n then v else x k
theorem rq{v:Rat}(h:x n=0):∀ts,cZ (v4 x n v) ts=cZ x ts+v*(cf ts n:Int)
 | []=>by show (0:Rat)=0+v*((0:Int):Rat);rw[show ((0:Int):Rat)=0 from rfl];grind
 | t::r=>by
  show (t.2:Rat)*v4 x n v t.1+cZ (v4 x n v) r=(t.2:Rat)*x t.1+cZ x r+v*(((if t.1=n then t.2 else 0)+cf r n:Int):Rat)
  rw[rq h r,Iq];unfold v4
  by_cases e:t.1=n
  ·rw[Hh e,Hh e,e,h];grind
  ·rw[He e,He e,show ((0:Int):Rat)=0 from rfl];grind
def oY(x:Str->Rat)(F:Str->Int):List Str->Rat
 | []=>0
 | n::r=>(F n:Rat)*x n+oY x F r
theorem lS{G:Str->Int}:∀nm:List Str,oY x (λn=>F n+G n) nm=oY x F nm+oY x G nm
 | []=>by show (0:Rat)=0+0;grind
 | n::r=>by show ((F n+G n:Int):Rat)*x n+_=(F n:Rat)*x n+_+((G n:Rat)*x n+_);rw[lS r,Iq];grind
theorem pO{a:Int}:∀nm:List Str,oY x (λn=>a*F n) nm=a*oY x F nm
 | []=>by show (0:Rat)=a*0;grind
 | n::r=>by show ((a*F n:Int):Rat)*x n+_=a*((F n:Rat)*x n+_);rw[pO r,Hr];grind
theorem dX:∀ {nm:List Str},(∀n∈nm,F n=0)->oY x F nm=0
 | [],_=>rfl
 | n::r,h=>by show (F n:Rat)*x n+_=0;rw[dX λk hk=>h k (GY _ hk),h n (G1 ..),show ((0:Int):Rat)=0 from rfl];grind
theorem pA{k:Str}{a:Int}:∀ {nm:List Str},nm.Nodup->k∈nm->oY x (λn=>if k=n then a else 0) nm=a*x k
 | n::r,nd,h=>by
  obtain⟨h1,h2⟩:=HM.mp nd;show ((if k=n then a else 0:Int):Rat)*x n+oY x _ r=_
  by_cases e:k=n
  ·subst e;rw[Hh rfl,dX (F:=λn=>if k=n then a else 0) λm hm=>He λ(z:k=m)=>h1 (z ▸ hm)];grind
  ·rw[He e,pA h2 ((G7.mp h).resolve_left e),show ((0:Int):Rat)=0 from rfl];grind
theorem rA(nd:nm.Nodup):∀ {ts:List (Str×Int)},(∀t∈ts,t.1∈nm)->cZ x ts=oY x (cf ts) nm
 | [],_=>(dX λ_ _=>rfl).symm
 | t::r,h=>by
  show _+cZ x r=oY x (λn=>(if t.1=n then t.2 else 0)+cf r n) nm
  rw[lS,pA nd (h t (G1 ..)),rA nd λu hu=>h u (GY _ hu)]
theorem mT:∀ {ts:List (Str×Int)} {t:Str×Int},(ts.map (·.1)).Nodup->t∈ts->cf ts t.1=t.2
 | u::r,t,nd,h=>by
  obtain⟨h1,h2⟩:=HM.mp nd;show (if u.1=t.1 then u.2 else 0)+cf r t.1=t.2
  rcases G7.mp h with rfl | h
  ·rw[Hh rfl,ju h1,Ix]
  ·rw[He λe=>h1 (GZ.mpr ⟨t,h,e.symm⟩),mT h2 h,Jb]
theorem e8.cf{us:List (Str×Int)}(h:e8 F us)(n:Str):cf us n=F n:=by
 by_cases e:n∈us.map (·.1)
 ·obtain⟨t,ht,rfl⟩:=GZ.mp e;rw[mT h.nd ht,(h.val t ht).1]
 ·rw[ju e];exact(G5 λz=>e (h.all n λy=>z y.symm))
def evl(x:Str->Rat):List (Rw×Int)->Rat
 | []=>0
 | p::r=>(p.2:Rat)*(cZ x p.1.2.1-(p.1.2.2:Int))+evl x r
theorem rE(nd:nm.Nodup):∀ {l:List (Rw×Int)},(∀p∈l,∀t∈p.1.2.1,t.1∈nm)->evl x l=oY x (cfs l) nm-(bds l:Int)
 | [],_=>by
  show (0:Rat)=_-((0:Int):Rat)
  rw[dX (F:=cfs []) λ_ _=>rfl,show ((0:Int):Rat)=0 from rfl];grind
 | p::r,h=>by
  show (p.2:Rat)*_+evl x r=oY x (λn=>p.2*cf p.1.2.1 n+cfs r n) nm-((p.2*p.1.2.2+bds r:Int):Rat)
  rw[lS,pO,rE nd λq hq=>h q (GY _ hq),rA nd (h p (G1 ..)),Iq,Hr]
  grind
def smT(nm:List Str)(F:Str->Int):List (Str×Int):=(nm.filter λn=>decide (F n≠0)).map λn=>(n,F n)
def Gw(nm:List Str)(rows:List Rw)(w:List Int):Rw:=(kOf (GI (rows.zip w)),smT nm (cfs (rows.zip w)),bds (rows.zip w))
structure Rws(nm:List Str)(rows:List Rw):Prop where
 pw:nm.Pairwise leS
 nd:nm.Nodup
 sum:∀r∈rows,e8 (cf r.2.1) r.2.1
 sub:∀r∈rows,∀t∈r.2.1,t.1∈nm
def Rws.cfs(h:Rws nm rows)(e:cfs (rows.zip w) n≠0):n∈nm :=
 tJ (λp hp=>h.sub p.1 (Hv hp).1) e
def Rws.smT(h:Rws nm rows)(w:List Int):e8 (Mf.cfs (rows.zip w)) (Mf.smT nm (Mf.cfs (rows.zip w))):=e8.mk' h.pw h.nd λ_ e=>h.cfs e
theorem uT(h:Rws nm rows):soR x (Gw nm rows w)↔(0<evl x (rows.zip w)\/(evl x (rows.zip w)=0/\GI (rows.zip w)=false)):=by
 have e:=rE (x:=x) h.nd (l:=rows.zip w) λp hp=>h.sub p.1 (Hv hp).1
 have e2:cZ x (Mf.smT nm (Mf.cfs (rows.zip w)))=oY x (Mf.cfs (rows.zip w)) nm:=by
  rw[rA h.nd λt ht=>?_]
  ·congr 1;exact funext λn=>(h.smT w).cf n
  ·obtain⟨n,hn,rfl⟩:=GZ.mp ht;exact(Hi.mp hn).1
 rw[e];unfold soR Gw
 cases GI (rows.zip w)
 ·show ((bds _:Int):Rat)<=cZ x _↔_
  rw[e2];grind
 ·show ((bds _:Int):Rat)<cZ x _↔_
  rw[e2];grind
def Gq(w:List Int):V:=λi=>((w.getD i 0:Int):Rat)
def eV(x:Str->Rat)(rows:List Rw):V:=λi=>match rows[i]? with | some r=>cZ x r.2.1-(r.2.2:Int) | none=>0
def colV(rows:List Rw)(n:Str):V:=λi=>match rows[i]? with | some r=>((cf r.2.1 n:Int):Rat) | none=>0
def stV(rows:List Rw):Nat->Bool:=λi=>match rows[i]? with | some r=>isM r.1 | none=>false
theorem jr(c w:V):∀m,GP (m+1) c w=c 0*w 0+GP m (λi=>c (i+1)) (λi=>w (i+1))
 | 0=>by show (0:Rat)+c 0*w 0=c 0*w 0+0;grind
 | m+1=>by show GP (m+1) c w+c (m+1)*w (m+1)=_+(GP m _ _+c (m+1)*w (m+1));rw[jr c w m];grind
theorem kR:∀ {rows:List Rw} {w:List Int},w.length=rows.length->evl x (rows.zip w)=GP rows.length (eV x rows) (Gq w)
 | [],[],_=>rfl
 | r::rows,a::w,h=>by
  rw[Ha,jr];show (a:Rat)*(cZ x r.2.1-_)+evl x (rows.zip w)=(cZ x r.2.1-_)*(a:Rat)+GP rows.length (eV x rows) (Gq w);rw[kR (by simpa using h)];grind
theorem ly:∀ {rows:List Rw} {w:List Int},w.length=rows.length->((cfs (rows.zip w) n:Int):Rat)=GP rows.length (colV rows n) (Gq w)
 | [],[],_=>rfl
 | r::rows,a::w,h=>by
  rw[Ha,jr];show ((a*cf r.2.1 n+cfs (rows.zip w) n:Int):Rat)=((cf r.2.1 n:Int):Rat)*(a:Rat)+GP rows.length (colV rows n) (Gq w);rw[Iq,Hr,ly (by simpa using h)];grind
def tZ{i:Nat}:0<Gq w i↔0<w.getD i 0:=Rat.intCast_pos
theorem qf:∀ {rows:List Rw} {w:List Int},w.length=rows.length->(GI (rows.zip w)=false↔∀i,i<rows.length->0<Gq w i->stV rows i=false)
 | [],[],_=>⟨λ_ i hi=>absurd hi (Nat.not_lt_zero i),λ_=>rfl⟩
 | r::rows,a::w,h=>by
  have ih:=qf (rows:=rows) (w:=w) (by simpa using h)
  have e:GI ((r::rows).zip (a::w))=((isM r.1&&decide (0<a))||GI (rows.zip w)):=rfl
  rw[e,Bool.or_eq_false_iff,ih]
  constructor
  ·rintro⟨h1,h2⟩ i hi hp
   cases i with
   | zero =>
    have:0<a:=tZ.mp hp
    rw[HG this,Bool.and_true] at h1;exact h1
   | succ i=>exact h2 i (by simpa using hi) hp
  ·intro hh;refine⟨?_,λi hi hp=>hh (i+1) (by simpa using hi) hp⟩
   by_cases ha:0<a
   ·have:isM r.1=false:=hh 0 (J7 _) (tZ.mpr ha)
    rw[this,Bool.false_and]
   ·rw[HA ha,Bool.and_false]
theorem Cl(h:Rws nm rows)(hl:w.length=rows.length):soR x (Gw nm rows w)↔sat rows.length (stV rows) (eV x rows) (Gq w):=by
 rw[uT h,kR hl,qf hl];rfl
theorem qK(w:V):∀m,sz (m+1) w=(if w 0=0 then 0 else 1)+sz m λi=>w (i+1)
 | 0=>by rw[fi];show sz 0 w+_=_+sz 0 _;unfold sz;simp
 | m+1=>by rw[fi,qK w m,fi m];omega
def usd(w:List Int):Nat:=(w.filter λa=>decide (0<a)).length
theorem zc:∀ {w:List Int},(∀a∈w,0<=a)->sz w.length (Gq w)=usd w
 | [],_=>rfl
 | a::w,h=>by
  rw[Ha,qK];show (if ((a:Int):Rat)=0 then 0 else 1)+sz w.length (Gq w)=usd (a::w);rw[zc λb hb=>h b (GY _ hb)];have h0:=h a (G1 ..);unfold usd
  by_cases e:0<a
  ·rw[HC (by simpa using e),He (λz=>by have:a=0:=J3.mp z;omega),Ha];omega
  ·have:a=0:=by omega
   rw[Ht (by simpa using e),Hh (by rw[this];rfl)];omega
theorem u9{m:Nat}(hl:w.length=m)(h:∀a∈w,0<=a):Nn m (Gq w):=by
 refine⟨λi=>?_,λi hi=>?_⟩
 ·show (0:Rat)<=((w.getD i 0:Int):Rat)
  refine Rat.intCast_nonneg.mpr ?_;rw[List.getD_eq_getElem?_getD]
  cases e:w[i]? with
  | none=>exact Int.le_refl 0
  | some a=>exact h a (Hc e)
 ·show ((w.getD i 0:Int):Rat)=0
  rw[List.getD_eq_getElem?_getD,List.getElem?_eq_none (by omega)];rfl
end Mf
namespace Mf
open PySem L2 DL
variable {ws:List Int} {n:Str} {a b:Int} {rows:List Rw} {m:Nat}
def gW(ws:List Int):Int:=ws.foldl gc 0
theorem Gd(a b:Int):0<=gc a b/\gc a b ∣ a/\gc a b ∣ b/\(a≠0\/b≠0->gc a b≠0):=by
 refine⟨t5 a b,fj a b,dW a b,λh z=>?_⟩;unfold gc at z;have:=Int.gcd_eq_zero_iff.mp (by omega:Int.gcd a b=0)
 rcases h with h | h
 ·exact h this.1
 ·exact h this.2
theorem nX:∀(ws:List Int) (a:Int),ws.foldl gc a ∣ a/\(∀w∈ws,ws.foldl gc a ∣ w)/\((a≠0\/∃w∈ws,w≠0)->ws.foldl gc a≠0)/\(0<=a->0<=ws.foldl gc a)
 | [],a=>⟨Int.dvd_refl a,λ_ h=>(nomatch h),λh=>h.elim id λ⟨_,h,_⟩=>(nomatch h),id⟩
 | w::ws,a=>by
  obtain⟨h1,h2,h3,h4⟩:=nX ws (gc a w);obtain⟨g0,g1,g2,g3⟩:=Gd a w;refine⟨Int.dvd_trans h1 g1,λv hv=>?_,λh=>h3 ?_,λ_=>h4 g0⟩
  ·rcases G7.mp hv with rfl | hv
   ·exact Int.dvd_trans h1 g2
   ·exact h2 v hv
  ·rcases h with h | ⟨v,hv,hn⟩
   ·exact .inl (g3 (.inl h))
   ·rcases G7.mp hv with rfl | hv
    ·exact .inl (g3 (.inr hn))
    ·exact .inr ⟨v,hv,hn⟩
theorem rH(h:∃w∈ws,w≠0):0<gW ws:=by
 obtain⟨_,_,h3,h4⟩:=nX ws 0;have:=h3 (.inr h);have:=h4 (Int.le_refl 0);unfold gW;omega
def mS{w:Int}(h:w∈ws):gW ws ∣ w:=(nX ws 0).2.1 w h
def crS(rows:List Rw)(n:Str)(l h:List Int):List Int:=List.zipWith (λa b=>a * -(cfs (rows.zip h) n)+b*cfs (rows.zip l) n) l h
def shW(ws:List Int):List Int:=ws.map λa=>a.fdiv (gW ws)
def crW(rows:List Rw)(n:Str)(l h:List Int):List Int:=shW (crS rows n l h)
def woW(rows:List Rw)(n:Str)(most:Nat)(W:List (List Int)):List (List Int) :=
 (W.filter λw=>decide (cfs (rows.zip w) n=0))++(W.filter λw=>decide (0<cfs (rows.zip w) n)).flatMap λl =>
  ((W.filter λw=>decide (cfs (rows.zip w) n<0)).map (crW rows n l)).filter λu=>decide (usd u<=most)
def unW(m j:Nat):List Int:=(List.range m).map λi=>if i=j then 1 else 0
def v5(m:Nat):List (List Int):=(List.range m).map (unW m)
def Gv(rows:List Rw):List Str->List (List Int)
 | []=>v5 rows.length
 | n::ns=>woW rows n (ns.length+2) (Gv rows ns)
structure Wt(m:Nat)(w:List Int):Prop where
 len:w.length=m
 nn:∀a∈w,0<=a
 nz:∃a∈w,a≠0
theorem pd{f:Int->Int->Int}(hf:f 0 0=0):∀ {l h:List Int},l.length=h.length->∀i,Gq (List.zipWith f l h) i=((f (l.getD i 0) (h.getD i 0):Int):Rat)
 | [],[],_,i=>by show (0:Rat)=((f 0 0:Int):Rat);rw[hf];rfl
 | a::l,b::h,e,0=>rfl
 | a::l,b::h,e,i+1=>pd hf (by simpa using e) i
theorem nN:∀ {rows:List Rw} {l h:List Int},l.length=rows.length->h.length=rows.length->cfs (rows.zip (List.zipWith (λx y=>x*a+y*b) l h)) n=a*cfs (rows.zip l) n+b*cfs (rows.zip h) n
 | [],[],[],_,_=>by show (0:Int)=a*0+b*0;omega
 | r::rows,x::l,y::h,h1,h2=>by
  show (x*a+y*b)*cf r.2.1 n+cfs (rows.zip (List.zipWith _ l h)) n=a*(x*cf r.2.1 n+cfs (rows.zip l) n)+b*(y*cf r.2.1 n+cfs (rows.zip h) n)
  rw[nN (rows:=rows) (l:=l) (h:=h) (by simpa using h1) (by simpa using h2)];grind
theorem ti(hz:∃w∈ws,w≠0):List.zipWith (λx y=>x*gW ws+y*0) (shW ws) (shW ws)=ws:=by
 unfold shW;have:∀(l:List Int),(∀a∈l,gW ws ∣ a)->List.zipWith (λx y=>x*gW ws+y*0) (l.map λa=>a.fdiv (gW ws)) (l.map λa=>a.fdiv (gW ws))=l:=λl=>by
  induction l with
  | nil=>intro _;rfl
  | cons a l ih =>
   intro h;show (a.fdiv (gW ws)*gW ws+_*0)::_=a::l;rw[ih λb hb=>h b (GY _ hb),IP (h a (G1 ..)),J6,Ix]
 exact this ws λa ha=>mS ha
def n9:(shW ws).length=ws.length:=GW ..
theorem C3(hl:ws.length=rows.length)(hz:∃w∈ws,w≠0):gW ws*cfs (rows.zip (shW ws)) n=cfs (rows.zip ws) n:=by
 have e:=nN (rows:=rows) (n:=n) (a:=gW ws) (b:=0) (l:=shW ws) (h:=shW ws) (by rw[n9,hl]) (by rw[n9,hl])
 rw[ti hz] at e;rw[e];omega
theorem Ee(hz:∃w∈ws,w≠0)(i:Nat):((gW ws:Int):Rat)*Gq (shW ws) i=Gq ws i:=by
 have e:=pd (f:=λx y=>x*gW ws+y*0) (by omega) (l:=shW ws) (h:=shW ws) rfl i
 rw[ti hz] at e;rw[e];show _*((_:Int):Rat)=_;simp only[Int.mul_zero,Int.add_zero];rw[Hr];grind
def F6(hz:∃w∈ws,w≠0)(h:∀a∈ws,0<=a):∀a∈shW ws,0<=a:=λa ha=>by
 obtain⟨b,hb,rfl⟩:=GZ.mp ha;obtain⟨c,hc⟩:=mS hb;have g:=rH hz;have hb0:=h b hb;have e:b.fdiv (gW ws)*gW ws=b:=IP (mS hb);refine G5 λz=>?_;have:=Int.mul_lt_mul_of_pos_right (show b.fdiv (gW ws)<0 by omega) g;omega
theorem Gn(hz:∃w∈ws,w≠0):∃a∈shW ws,a≠0:=by
 obtain⟨w,hw,hn⟩:=hz;refine⟨_,GZ.mpr ⟨w,hw,rfl⟩,λz=>hn ?_⟩;have e:w.fdiv (gW ws)*gW ws=w:=IP (mS hw);rw[z] at e;omega
theorem oW{l h:List Int}(hl:l.length=m)(hh:h.length=m):(crS rows n l h).length=m:=by unfold crS;rw[List.length_zipWith];omega
theorem D9(ha:0<a)(hb:0<b):∀ {l h:List Int},(∀x∈l,0<=x)->(∀x∈h,0<=x)->∀x∈List.zipWith (λx y=>x*a+y*b) l h,0<=x
 | [],_,_,_,x,hx=>by simp at hx
 | _::_,[],_,_,x,hx=>by simp at hx
 | u::l,v::h,h1,h2,x,hx=>by
  rw[JF] at hx
  rcases G7.mp hx with rfl | hx
  ·have:=Int.mul_nonneg (h1 u (G1 ..)) (Jw ha)
   have:=Int.mul_nonneg (h2 v (G1 ..)) (Jw hb)
   omega
  ·exact D9 ha hb (λx hx=>h1 x (GY _ hx)) (λx hx=>h2 x (GY _ hx)) x hx
theorem Cs(ha:0<a)(hb:0<b):∀ {l h:List Int},l.length=h.length->(∀x∈l,0<=x)->(∀x∈h,0<=x)->(∃x∈l,x≠0)->∃x∈List.zipWith (λx y=>x*a+y*b) l h,x≠0
 | [],_,_,_,_,⟨x,hx,_⟩=>by simp at hx
 | _::_,[],e,_,_,_=>by simp at e
 | u::l,v::h,e,h1,h2,⟨x,hx,hn⟩=>by
  rw[JF]
  rcases G7.mp hx with rfl | hx
  ·refine⟨_,G1 ..,λz=>?_⟩;have:=Int.mul_pos (a:=x) (b:=a) (by have:=h1 x (G1 ..);omega) ha;have:=Int.mul_nonneg (h2 v (G1 ..)) (Jw hb);omega
  ·obtain⟨y,hy,hy0⟩:=Cs ha hb (by simpa using e) (λx hx=>h1 x (GY _ hx)) (λx hx=>h2 x (GY _ hx)) ⟨x,hx,hn⟩;exact⟨y,GY _ hy,hy0⟩
section
variable {rows:List Rw} {n:Str} {l h:List Int}
def kw(wl:Wt rows.length l)(wh:Wt rows.length h)(cl:0<cfs (rows.zip l) n)(ch:cfs (rows.zip h) n<0):(∀a∈crS rows n l h,0<=a)/\∃a∈crS rows n l h,a≠0 :=
 ⟨D9 (by omega) cl wl.nn wh.nn,Cs (by omega) cl (by rw[wl.len,wh.len]) wl.nn wh.nn wl.nz⟩
theorem vF(wl:Wt rows.length l)(wh:Wt rows.length h)(cl:0<cfs (rows.zip l) n)(ch:cfs (rows.zip h) n<0):Wt rows.length (crW rows n l h):=by
 obtain⟨h1,h2⟩:=kw wl wh cl ch;exact⟨by unfold crW;rw[n9];exact oW wl.len wh.len,F6 h2 h1,Gn h2⟩
theorem zU{k:Str}(wl:Wt rows.length l)(wh:Wt rows.length h)(cl:0<cfs (rows.zip l) n)(ch:cfs (rows.zip h) n<0):gW (crS rows n l h)*cfs (rows.zip (crW rows n l h)) k=-(cfs (rows.zip h) n)*cfs (rows.zip l) k+cfs (rows.zip l) n*cfs (rows.zip h) k:=by
 obtain⟨h1,h2⟩:=kw wl wh cl ch;unfold crW;rw[C3 (oW wl.len wh.len) h2];exact nN (rows:=rows) wl.len wh.len
theorem uK(wl:Wt rows.length l)(wh:Wt rows.length h)(cl:0<cfs (rows.zip l) n)(ch:cfs (rows.zip h) n<0)(i:Nat):((gW (crS rows n l h):Int):Rat)*Gq (crW rows n l h) i=-((cfs (rows.zip h) n:Int):Rat)*Gq l i+((cfs (rows.zip l) n:Int):Rat)*Gq h i:=by
 obtain⟨h1,h2⟩:=kw wl wh cl ch;unfold crW;rw[Ee h2];unfold crS;rw[pd (by omega) (by rw[wl.len,wh.len])];rw[Iq,Hr,Hr,J4];unfold Gq
 grind
end
theorem jC{most:Nat}{W:List (List Int)}{w:List Int}:w∈woW rows n most W↔(w∈W/\cfs (rows.zip w) n=0)\/∃l∈W,0<cfs (rows.zip l) n/\∃h∈W,cfs (rows.zip h) n<0/\w=crW rows n l h/\usd w<=most:=by
 unfold woW;rw[Hb,Hi,IF];refine or_congr (by simp) ?_
 constructor
 ·rintro⟨l,hl,hm⟩;obtain⟨hl1,hl2⟩:=Hi.mp hl;obtain⟨hm1,hm2⟩:=Hi.mp hm;obtain⟨h,hh,rfl⟩:=GZ.mp hm1;obtain⟨hh1,hh2⟩:=Hi.mp hh;exact⟨l,hl1,by simpa using hl2,h,hh1,by simpa using hh2,rfl,by simpa using hm2⟩
 ·rintro⟨l,hl,cl,h,hh,ch,rfl,hu⟩;exact⟨l,Hi.mpr ⟨hl,by simpa using cl⟩,Hi.mpr ⟨GZ.mpr ⟨h,Hi.mpr ⟨hh,by simpa using ch⟩,rfl⟩,by simpa using hu⟩⟩
theorem CV{j:Nat}(h:j<m):Wt m (unW m j):=by
 refine⟨by unfold unW;simp,λa ha=>?_,1,?_,by decide⟩
 ·obtain⟨i,_,rfl⟩:=GZ.mp ha
  split<;>decide
 ·exact GZ.mpr ⟨j,Ig.mpr h,by simp⟩
theorem AR{j:Nat}(h:j<m):Gq (unW m j)=B6 j:=by
 funext i
 unfold Gq unW B6;rw[List.getD_eq_getElem?_getD,List.getElem?_map]
 by_cases hi:i<m
 ·rw[List.getElem?_range hi];show (((if i=j then 1 else 0:Int)):Rat)=_
  by_cases e:i=j<;>simp[e]
 ·rw[List.getElem?_eq_none (by simpa using Nat.le_of_not_lt hi)];have:i≠j:=by omega
  simp[this]
theorem cz:∀ {ns:List Str} {w:List Int},w∈Gv rows ns->Wt rows.length w/\∀n∈ns,cfs (rows.zip w) n=0
 | [],w,h=>by
  obtain⟨j,hj,rfl⟩:=GZ.mp h;exact⟨CV (Ig.mp hj),λ_ h=>(nomatch h)⟩
 | n::ns,w,h=>by
  rcases jC.mp h with⟨h1,h2⟩ | ⟨l,hl,cl,k,hk,ck,rfl,_⟩
  ·obtain⟨a,b⟩:=cz h1;exact⟨a,λx hx=>(G7.mp hx).elim (λe=>e ▸ h2) (b x)⟩
  ·obtain⟨a,b⟩:=cz hl;obtain⟨a',b'⟩:=cz hk;refine⟨vF a a' cl ck,λx hx=>?_⟩;have e:=zU (k:=x) a a' cl ck;have g:=rH (kw a a' cl ck).2;have:-(cfs (rows.zip k) n)*cfs (rows.zip l) x+cfs (rows.zip l) n*cfs (rows.zip k) x=0:=by
    rcases G7.mp hx with rfl | hx
    ·grind
    ·rw[b x hx,b' x hx];omega
   rw[this] at e
   rcases Int.mul_eq_zero.mp e with z | z
   ·omega
   ·exact z
theorem xr{ns:List Str}:Kept rows.length (colV rows n) (ns.length+2) ((Gv rows ns).map Gq) ((Gv rows (n::ns)).map Gq):=by
 have dt:∀ {w},w∈Gv rows ns->GP rows.length (colV rows n) (Gq w)=((cfs (rows.zip w) n:Int):Rat):=λh=>(ly (cz h).1.len).symm
 constructor
 ·intro s hs;obtain⟨w,hw,rfl⟩:=GZ.mp hs;exact u9 (cz hw).1.len (cz hw).1.nn
 ·intro s hs h0;obtain⟨w,hw,rfl⟩:=GZ.mp hs;rw[dt hw] at h0;exact GZ.mpr ⟨w,jC.mpr (.inl ⟨hw,J3.mp h0⟩),rfl⟩
 ·intro l hl h hh cl ch hz;obtain⟨l,hl2,rfl⟩:=GZ.mp hl;obtain⟨h,hh2,rfl⟩:=GZ.mp hh;clear hl hh;have hl:=hl2;have hh:=hh2;rw[dt hl] at cl hz ⊢;rw[dt hh] at ch hz ⊢;have cl:0<cfs (rows.zip l) n:=Rat.intCast_pos.mp cl;have ch:cfs (rows.zip h) n<0:=Rat.intCast_neg_iff.mp ch;have wl:=(cz hl).1;have wh:=(cz hh).1;have ww:=vF wl wh cl ch;have g:=rH (kw wl wh cl ch).2;have gr:(0:Rat)<((gW (crS rows n l h):Int):Rat):=Rat.intCast_pos.mpr g;refine⟨_,GZ.mpr ⟨crW rows n l h,jC.mpr (.inr ⟨l,hl,cl,h,hh,ch,rfl,?_⟩),rfl⟩,_,gr,λi=>uK wl wh cl ch i⟩;rw[<- zc ww.nn,ww.len];refine G0 (xp _ λi _ hi=>?_) hz;rw[<- uK wl wh cl ch i];intro z
  rcases JB.mp z with q | q
  ·grind
  ·exact hi q
theorem rl:∀ns:List Str,Comp rows.length (stV rows) (ns.map (colV rows)) ((Gv rows ns).map Gq)
 | []=>ud _ λj hj=>GZ.mpr ⟨unW rows.length j,GZ.mpr ⟨j,Ig.mpr hj,rfl⟩,AR hj⟩
 | n::ns=>vM (rl ns) (by rw[GW];exact xr)
end Mf
namespace Mf
open PySem L2 DL
variable {p:Int×Int} {ks:List Str} {ps:List (Int×Int)} {n:Str}
def GO(p:Int×Int):Rat:=(p.1:Rat) / (p.2:Rat)
def fB{a:Int}(h:a≠0):((a:Int):Rat)≠0:=λz=>h (J3.mp z)
def h6{a:Int}(h:0<a):(0:Rat)<((a:Int):Rat):=Rat.intCast_pos.mpr h
theorem jH(t:Int){b:Int}(h:b≠0):GO (GN t b,GG t b)=(t:Rat) / (b:Rat):=by
 have c:=pF t b
 have hB:=(eL t h).ne
 have c2:((GN t b:Int):Rat)*(b:Rat)=(t:Rat)*((GG t b:Int):Rat):=by rw[<- Hr,<- Hr,c]
 have h1:=fB h
 have h2:=fB hB
 show ((GN t b:Int):Rat) / ((GG t b:Int):Rat)=_
 grind
theorem jb{q:Int×Int}(hp:0<p.2)(hq:0<q.2):GO p<GO q↔p.1*q.2<q.1*p.2:=by
 have h1:=h6 hp
 have h2:=h6 hq
 have h3:=Im h1 h2
 have e1:GO p*((p.2:Rat)*(q.2:Rat))=((p.1*q.2:Int):Rat):=by rw[Hr];unfold GO;grind
 have e2:GO q*((p.2:Rat)*(q.2:Rat))=((q.1*p.2:Int):Rat):=by rw[Hr];unfold GO;grind
 rw[<- IC,<- e1,<- e2]
 constructor
 ·intro h;have:=Im (a:=GO q-GO p) (by grind) h3
  grind
 ·intro h;refine G5 λz=>?_;have:=HH (a:=GO p-GO q) (b:=(p.2:Rat)*(q.2:Rat)) (by grind) (by grind)
  grind
theorem vh{q:Int×Int}(hp:Low p.1 p.2)(hq:Low q.1 q.2)(e:GO p=GO q):p=q:=by
 have h1:¬ p.1*q.2<q.1*p.2:=λz=>by have:=(jb hp.pos hq.pos).mpr z;grind
 have h2:¬ q.1*p.2<p.1*q.2:=λz=>by have:=(jb hq.pos hp.pos).mpr z;grind
 have:=hp.uniq hq (by omega)
 exact Prod.ext this.1 this.2
theorem nI(a:Int):GO (GN a 1,GG a 1)=(a:Rat):=by
 rw[jH a (by decide)];show (a:Rat) / ((1:Int):Rat)=a;rw[show ((1:Int):Rat)=1 from rfl];grind
def pD(a:Int):GN a 1=a/\GG a 1=1:=Low.self ⟨by decide,by unfold gc;simp⟩
theorem C7(h:0<p.2):((p.1.fdiv p.2:Int):Rat)<=GO p/\GO p<((p.1.fdiv p.2+1:Int):Rat):=by
 have m0:=Hy p.1 h
 have m1:=HK p.1 h
 have e:p.2*p.1.fdiv p.2+p.1.fmod p.2=p.1:=by rw[Int.fmod_def];omega
 have hr:=h6 h
 generalize hf:p.1.fdiv p.2=f at *
 have e1:((f:Int):Rat)=GO (f,1):=by unfold GO;show _=((f:Int):Rat) / ((1:Int):Rat);rw[show ((1:Int):Rat)=1 from rfl];grind
 have e2:((f+1:Int):Rat)=GO (f+1,1):=by unfold GO;show _=((f+1:Int):Rat) / ((1:Int):Rat);rw[show ((1:Int):Rat)=1 from rfl];grind
 rw[e1,e2]
 constructor
 ·refine G5 λz=>?_;have:=(jb (p:=p) (q:=(f,1)) h Int.one_pos).mp (by grind);simp only at this;have:p.2*f=f*p.2:=HQ ..;omega
 ·refine(jb (p:=p) (q:=(f+1,1)) h Int.one_pos).mpr ?_;simp only;rw[Int.add_mul];have:p.2*f=f*p.2:=HQ ..;omega
def GV(ks:List Str)(ps:List (Int×Int)):Str->Rat:=λn=>GO (sR ks ps n)
theorem ov_R{K:Int}(h0:0<pB ks ps n)(hd:pB ks ps n ∣ K):((ov (pT ks ps) (pB ks ps) K n:Int):Rat)=(K:Rat)*GV ks ps n:=by
 obtain⟨y,rfl⟩:=hd;have hn:pB ks ps n≠0:=by omega
 unfold ov GV GO;rw[Ii _ hn,Hr,Hr];have:=fB hn;show ((pT ks ps n:Int):Rat)*_=((pB ks ps n:Int):Rat)*_*(((pT ks ps n:Int):Rat) / ((pB ks ps n:Int):Rat))
 grind
theorem mv{K:Int}:∀ {ts:List (Str×Int)},(∀t∈ts,0<pB ks ps t.1/\pB ks ps t.1 ∣ K)->((cI (ov (pT ks ps) (pB ks ps) K) ts:Int):Rat)=(K:Rat)*cZ (GV ks ps) ts
 | [],_=>by show ((0:Int):Rat)=_*0;rw[show ((0:Int):Rat)=0 from rfl];grind
 | t::r,h=>by
  show ((t.2*ov _ _ K t.1+cI _ r:Int):Rat)=_*((t.2:Rat)*_+cZ _ r)
  obtain⟨h1,h2⟩:=h t (G1 ..);rw[Iq,Hr,ov_R h1 h2,mv λu hu=>h u (GY _ hu)];grind
def bnd(ks:List Str)(ps:List (Int×Int))(n:Str)(r:Rw):Int×Int :=
 let o:=r.2.1.filter λt=>decide (t.1≠n)
 let K:=Gs (pB ks ps) (o.map (·.1))
 (GN (r.2.2*K-cI (ov (pT ks ps) (pB ks ps) K) o) (cf r.2.1 n*K),GG (r.2.2*K-cI (ov (pT ks ps) (pB ks ps) K) o) (cf r.2.1 n*K))
theorem eY{x:Str->Rat}(h:x n=0):∀ts:List (Str×Int),cZ x (ts.filter λt=>decide (t.1≠n))=cZ x ts
 | []=>rfl
 | t::r=>by
  by_cases e:t.1=n
  ·rw[Ht (by simp[e]),eY h r];show _=(t.2:Rat)*x t.1+_;rw[e,h];grind
  ·rw[HC (by simp[e])];show _+_=_+cZ x r;rw[eY h r]
theorem CB{r:Rw}(hp:∀t∈r.2.1,t.1≠n->0<pB ks ps t.1)(h0:GV ks ps n=0)(hc:cf r.2.1 n≠0) :
  Low (bnd ks ps n r).1 (bnd ks ps n r).2/\GO (bnd ks ps n r)=-(cZ (GV ks ps) r.2.1-(r.2.2:Int)) / ((cf r.2.1 n:Int):Rat):=by
 unfold bnd;have ho:∀t∈r.2.1.filter (λt=>decide (t.1≠n)),0<pB ks ps t.1:=λt ht=>by
  obtain⟨h1,h2⟩:=Hi.mp ht;exact hp t h1 (by simpa using h2)
 have hs:=eY h0 r.2.1
 generalize ho':r.2.1.filter (λt=>decide (t.1≠n))=o at *
 have hK:0<Gs (pB ks ps) (o.map (·.1)):=cG λk hk=>by
  obtain⟨t,ht,rfl⟩:=GZ.mp hk;exact ho t ht
 have e:=mv (ks:=ks) (ps:=ps) (K:=Gs (pB ks ps) (o.map (·.1))) (ts:=o) λt ht=>⟨ho t ht,dO (GZ.mpr ⟨t,ht,rfl⟩)⟩
 simp only;generalize Gs (pB ks ps) (o.map (·.1))=K at *;have hcK:cf r.2.1 n*K≠0:=HN hc (by omega);refine⟨eL _ hcK,?_⟩;rw[jH _ hcK,Hr,Rat.intCast_sub,Hr,e,hs];have h1:=fB hc;have h2:=fB (show K≠0 by omega)
 grind
abbrev En2:=Option (Int×Int)×Bool
def tgt(lo:Bool)(a b:En2):En2:=match a.1,b.1 with
 | none,_=>b
 | some _,none=>a
 | some p,some q=>if p=q then (some p,a.2&&b.2) else if decide (q.1*p.2<p.1*q.2)=lo then a else b
structure Tgt(lo:Bool)(cs:List ((Int×Int)×Bool))(e:En2):Prop where
 nn:e.1=none->cs=[]
 so:∀p,e.1=some p->Low p.1 p.2/\(∃c∈cs,c.1=p/\c.2=e.2)/\∀c∈cs,(c.1=p/\(e.2=true->c.2=true))\/(c.1≠p/\(if lo then GO c.1<GO p else GO p<GO c.1))
def Tgt.nil{lo:Bool}:Tgt lo [] (none,false):=⟨λ_=>rfl,λ_ h=>(nomatch h)⟩
theorem Tgt.step{lo:Bool}{cs:List ((Int×Int)×Bool)}{e:En2}{c:(Int×Int)×Bool}(h:Tgt lo cs e)(hc:Low c.1.1 c.1.2):Tgt lo (cs++[c]) (tgt lo e (some c.1,c.2)):=by
 obtain⟨e1,e2⟩:=e;obtain⟨q,b⟩:=c
 cases e1 with
 | none =>
  have:cs=[]:=h.nn rfl
  subst this;refine⟨λz=>(nomatch z),λp hp=>?_⟩
  cases hp
  exact⟨hc,⟨(q,b),by simp,rfl,rfl⟩,λc hc=>by
   have:c=(q,b):=by simpa using hc
   subst this;exact .inl ⟨rfl,id⟩⟩
 | some p =>
  obtain⟨lp,⟨w,hw,w1,w2⟩,all⟩:=h.so p rfl;show Tgt lo _ (if p=q then (some p,e2&&b) else if decide (q.1*p.2<p.1*q.2)=lo then (some p,e2) else (some q,b));have lt:=jb (p:=q) (q:=p) hc.pos lp.pos;have gt:=jb (p:=p) (q:=q) lp.pos hc.pos
  by_cases e:p=q
  ·rw[Hh e];subst e;refine⟨λz=>(nomatch z),λp' hp=>?_⟩
   cases hp
   refine⟨lp,?_,λc hc'=>?_⟩
   ·cases b
    ·exact⟨(p,false),by simp,rfl,by simp⟩
    ·exact⟨w,Hf _ hw,w1,by simpa using w2⟩
   ·rcases Hb.mp hc' with hc' | hc'
    ·rcases all c hc' with⟨a1,a2⟩ | a
     ·exact .inl ⟨a1,λz=>a2 (by simpa using (by simpa using z:e2=true/\b=true).1)⟩
     ·exact .inr a
    ·have:c=(p,b):=by simpa using hc'
     subst this;exact .inl ⟨rfl,λz=>(by simpa using z:e2=true/\b=true).2⟩
  ·rw[He e];have ne:GO p≠GO q:=λz=>e (vh lp hc z)
   by_cases k:decide (q.1*p.2<p.1*q.2)=lo
   ·rw[Hh k];refine⟨λz=>(nomatch z),λp' hp=>?_⟩
    cases hp
    refine⟨lp,⟨w,Hf _ hw,w1,w2⟩,λc hc'=>?_⟩
    rcases Hb.mp hc' with hc' | hc'
    ·exact all c hc'
    ·have:c=(q,b):=by simpa using hc'
     subst this;refine .inr ⟨λz=>e z.symm,?_⟩
     cases lo
     ·have:=(decide_eq_false_iff_not.mp k)
      simp only[Bool.false_eq_true,if_false];have:¬ GO q<GO p:=λz=>this (lt.mp z)
      grind
     ·simp only[if_true];exact lt.mpr (Jj.mp k)
   ·rw[He k];refine⟨λz=>(nomatch z),λp' hp=>?_⟩
    cases hp
    have pq:if lo then GO p<GO q else GO q<GO p:=by
     cases lo
     ·simp only[Bool.false_eq_true,if_false];simp only[Bool.not_eq_false,decide_eq_true_eq] at k;exact lt.mpr k
     ·simp only[if_true];simp only[decide_eq_true_eq] at k;have:¬ GO q<GO p:=λz=>k (lt.mp z)
      grind
    refine⟨hc,⟨(q,b),by simp,rfl,rfl⟩,λc hc'=>?_⟩
    rcases Hb.mp hc' with hc' | hc'
    ·have x:=all c hc'
     refine .inr ?_
     cases lo
     ·simp only[Bool.false_eq_true,if_false] at x pq ⊢;have:GO q<GO c.1:=by rcases x with x | x;rw[x.1];exact pq;grind
      exact⟨λz=>by rw[z] at this;grind,this⟩
     ·simp only[if_true] at x pq ⊢;have:GO c.1<GO q:=by rcases x with x | x;rw[x.1];exact pq;grind
      exact⟨λz=>by rw[z] at this;grind,this⟩
    ·have:c=(q,b):=by simpa using hc'
     subst this;exact .inl ⟨rfl,id⟩
def nmb(lo hi:Option (Int×Int)):Int×Int:=match lo,hi with
 | none,none=>(0,1)
 | none,some h=>(GN (h.1.fdiv h.2-1) 1,GG (h.1.fdiv h.2-1) 1)
 | some l,none=>(GN (l.1.fdiv l.2+1) 1,GG (l.1.fdiv l.2+1) 1)
 | some l,some h =>
  if GN (l.1.fdiv l.2+1) 1*h.2<h.1*GG (l.1.fdiv l.2+1) 1 then (GN (l.1.fdiv l.2+1) 1,GG (l.1.fdiv l.2+1) 1)
  else if l=h then l
  else
   let s:Int×Int:=(GN (l.1*h.2+h.1*l.2) (l.2*h.2),GG (l.1*h.2+h.1*l.2) (l.2*h.2))
   (GN (s.1*1) (s.2*2),GG (s.1*1) (s.2*2))
theorem DN{lo hi:En2}(h1:∀p,lo.1=some p->Low p.1 p.2)(h2:∀p,hi.1=some p->Low p.1 p.2)(hh:∀p q,lo.1=some p->hi.1=some q->GO p<GO q\/(GO p=GO q/\lo.2=true/\hi.2=true)) :
  Low (nmb lo.1 hi.1).1 (nmb lo.1 hi.1).2/\(∀p,lo.1=some p->GO p<GO (nmb lo.1 hi.1)\/(GO p=GO (nmb lo.1 hi.1)/\lo.2=true))/\∀q,hi.1=some q->GO (nmb lo.1 hi.1)<GO q\/(GO (nmb lo.1 hi.1)=GO q/\hi.2=true):=by
 obtain⟨l,lb⟩:=lo;obtain⟨h,hb⟩:=hi;have L1:∀a,Low (GN a 1) (GG a 1):=λa=>eL a (by decide)
 cases l with
 | none =>
  cases h with
  | none=>exact⟨(⟨by decide,by unfold gc;decide⟩:Low 0 1),λp z=>(nomatch z),λp z=>(nomatch z)⟩
  | some h =>
   refine⟨L1 _,λp z=>(nomatch z),λp z=>?_⟩
   cases z
   have:=C7 (h2 _ rfl).pos
   refine .inl ?_;show GO (GN _ 1,GG _ 1)<_;rw[nI,Rat.intCast_sub,show ((1:Int):Rat)=1 from rfl];grind
 | some l =>
  have hl:=h1 _ rfl
  have fl:=C7 hl.pos
  cases h with
  | none =>
   refine⟨L1 _,λp z=>?_,λp z=>(nomatch z)⟩
   cases z
   refine .inl ?_;show _<GO (GN _ 1,GG _ 1);rw[nI];exact fl.2
  | some h =>
   have hH:=h2 _ rfl
   have c:=hh _ _ rfl rfl
   show Low (nmb (some l) (some h)).1 (nmb (some l) (some h)).2/\(∀p,some l=some p->GO p<GO (nmb (some l) (some h))\/_/\lb=true)/\(∀q,some h=some q->GO (nmb (some l) (some h))<GO q\/_/\hb=true)
   unfold nmb;simp only
   by_cases k:GN (l.1.fdiv l.2+1) 1*h.2<h.1*GG (l.1.fdiv l.2+1) 1
   ·rw[Hh k];refine⟨L1 _,λp z=>?_,λp z=>?_⟩
    ·cases z;rw[nI];exact .inl fl.2
    ·cases z;exact .inl ((jb (L1 _).pos hH.pos).mpr k)
   ·rw[He k]
    by_cases e:l=h
    ·rw[Hh e];subst e;have:lb=true/\hb=true:=by rcases c with c | c;grind;exact c.2
     exact⟨hl,λp z=>by cases z;exact .inr ⟨rfl,this.1⟩,λp z=>by cases z;exact .inr ⟨rfl,this.2⟩⟩
    ·rw[He e];have lt:GO l<GO h:=by
      rcases c with c | c
      ·exact c
      ·exact absurd (vh hl hH c.1) e
     have nz:l.2*h.2≠0:=HN hl.ne hH.ne
     have sl:=eL (l.1*h.2+h.1*l.2) nz
     have nz2:GG (l.1*h.2+h.1*l.2) (l.2*h.2)*2≠0:=HN sl.ne (by decide)
     have e1:GO (GN (l.1*h.2+h.1*l.2) (l.2*h.2),GG (l.1*h.2+h.1*l.2) (l.2*h.2))=GO l+GO h:=by
      rw[jH _ nz,Iq,Hr,Hr,Hr];have a1:=fB hl.ne;have a2:=fB hH.ne;unfold GO
      grind
     have e2:GO (GN (GN (l.1*h.2+h.1*l.2) (l.2*h.2)*1) (GG (l.1*h.2+h.1*l.2) (l.2*h.2)*2),GG (GN (l.1*h.2+h.1*l.2) (l.2*h.2)*1) (GG (l.1*h.2+h.1*l.2) (l.2*h.2)*2))=(GO l+GO h) / 2:=by
      rw[jH _ nz2,<- e1,Hr,Hr,show ((1:Int):Rat)=1 from rfl,show ((2:Int):Rat)=2 from rfl];have a1:=fB sl.ne;unfold GO
      grind
     refine⟨eL _ nz2,λp z=>?_,λp z=>?_⟩
     ·cases z;rw[e2];exact .inl (by grind)
     ·cases z;rw[e2];exact .inl (by grind)
end Mf
namespace Mf
open PySem L2 DL
variable {nm ks:List Str} {rows:List Rw} {ps:List (Int×Int)} {n:Str}
def cnd(nm:List Str)(rows:List Rw)(ks:List Str)(ps:List (Int×Int))(n:Str)(w:List Int):(Int×Int)×Bool:=(bnd ks ps n (Gw nm rows w),!GI (rows.zip w))
def GA(nm:List Str)(rows:List Rw)(ks:List Str)(ps:List (Int×Int))(n:Str)(W:List (List Int)):En2×En2 :=
  W.foldl (λe w =>
    (if 0<cfs (rows.zip w) n then tgt true e.1 (some (cnd nm rows ks ps n w).1,(cnd nm rows ks ps n w).2) else e.1,
     if cfs (rows.zip w) n<0 then tgt false e.2 (some (cnd nm rows ks ps n w).1,(cnd nm rows ks ps n w).2) else e.2)) ((none,false),(none,false))
theorem AV:∀(W:List (List Int)),(∀w∈W,cfs (rows.zip w) n≠0->Low (cnd nm rows ks ps n w).1.1 (cnd nm rows ks ps n w).1.2) ->
    Tgt true ((W.filter λw=>decide (0<cfs (rows.zip w) n)).map (cnd nm rows ks ps n)) (GA nm rows ks ps n W).1/\Tgt false ((W.filter λw=>decide (cfs (rows.zip w) n<0)).map (cnd nm rows ks ps n)) (GA nm rows ks ps n W).2:=by
  intro W;unfold GA;have:∀(W:List (List Int)) (c1 c2:List ((Int×Int)×Bool)) (e:En2×En2),(∀w∈W,cfs (rows.zip w) n≠0->Low (cnd nm rows ks ps n w).1.1 (cnd nm rows ks ps n w).1.2)->Tgt true c1 e.1->Tgt false c2 e.2 ->
      Tgt true (c1++(W.filter λw=>decide (0<cfs (rows.zip w) n)).map (cnd nm rows ks ps n)) (W.foldl (λe w =>
    (if 0<cfs (rows.zip w) n then tgt true e.1 (some (cnd nm rows ks ps n w).1,(cnd nm rows ks ps n w).2) else e.1,
     if cfs (rows.zip w) n<0 then tgt false e.2 (some (cnd nm rows ks ps n w).1,(cnd nm rows ks ps n w).2) else e.2)) e).1 /\
      Tgt false (c2++(W.filter λw=>decide (cfs (rows.zip w) n<0)).map (cnd nm rows ks ps n)) (W.foldl (λe w =>
    (if 0<cfs (rows.zip w) n then tgt true e.1 (some (cnd nm rows ks ps n w).1,(cnd nm rows ks ps n w).2) else e.1,
     if cfs (rows.zip w) n<0 then tgt false e.2 (some (cnd nm rows ks ps n w).1,(cnd nm rows ks ps n w).2) else e.2)) e).2:=λW=>by
    induction W with
    | nil=>intro c1 c2 e _ h1 h2;simpa using ⟨h1,h2⟩
    | cons w W ih =>
      intro c1 c2 e hl h1 h2;have hl':=λw h=>hl w (GY _ h);rw[J5]
      by_cases p:0<cfs (rows.zip w) n
      · have q:¬ cfs (rows.zip w) n<0:=by omega
        rw[Hh p,He q,HC (by simpa using p),Ht (by simpa using q),Hm,List.append_cons];exact ih (c1++[cnd nm rows ks ps n w]) c2 (tgt true e.1 (some (cnd nm rows ks ps n w).1,(cnd nm rows ks ps n w).2),e.2) hl' (h1.step (hl w (G1 ..) (by omega))) h2
      · by_cases q:cfs (rows.zip w) n<0
        · rw[He p,Hh q,Ht (by simpa using p),HC (by simpa using q),Hm,List.append_cons];exact ih c1 (c2++[cnd nm rows ks ps n w]) (e.1,tgt false e.2 (some (cnd nm rows ks ps n w).1,(cnd nm rows ks ps n w).2)) hl' h1 (h2.step (hl w (G1 ..) (by omega)))
        · rw[He p,He q,Ht (by simpa using p),Ht (by simpa using q)];exact ih c1 c2 e hl' h1 h2
  intro h;simpa using this W [] [] ((none,false),(none,false)) h .nil .nil
theorem tT{x:Str->Rat}{v:Rat}(h:x n=0):∀l:List (Rw×Int),evl (v4 x n v) l=evl x l+v*((cfs l n:Int):Rat)
 | []=>by show (0:Rat)=0+v*((0:Int):Rat);rw[show ((0:Int):Rat)=0 from rfl];grind
 | p::r=>by
  show _*(cZ (v4 x n v) p.1.2.1-_)+evl (v4 x n v) r=_*(cZ x p.1.2.1-_)+evl x r+v*((p.2*cf p.1.2.1 n+cfs r n:Int):Rat)
  rw[rq h,tT h r,Iq,Hr];grind
theorem Et(h:Rws nm rows)(x:Str->Rat)(w:List Int):cZ x (Gw nm rows w).2.1-((Gw nm rows w).2.2:Int)=evl x (rows.zip w):=by
 rw[rE (x:=x) h.nd (l:=rows.zip w) λp hp=>h.sub p.1 (Hv hp).1];have e2:cZ x (Mf.smT nm (Mf.cfs (rows.zip w)))=oY x (Mf.cfs (rows.zip w)) nm:=by
  rw[rA h.nd λt ht=>?_]
  ·congr 1;exact funext λn=>(h.smT w).cf n
  ·obtain⟨n,hn,rfl⟩:=GZ.mp ht;exact(Hi.mp hn).1
 show cZ x (Mf.smT nm (Mf.cfs (rows.zip w)))-_=_
 rw[e2];rfl
def dH(h:Rws nm rows)(w:List Int)(n:Str):cf (Gw nm rows w).2.1 n=cfs (rows.zip w) n:=(h.smT w).cf n
theorem kX{w:List Int}{t:Str×Int}(ht:t∈(Gw nm rows w).2.1):t.1∈nm/\cfs (rows.zip w) t.1≠0/\t.2=cfs (rows.zip w) t.1:=by
 obtain⟨n,hn,rfl⟩:=GZ.mp ht;obtain⟨h1,h2⟩:=Hi.mp hn;exact⟨h1,by simpa using h2,rfl⟩
theorem zS(H:Rws nm rows){ns:List Str}{x:Str->Rat}(hso:∀w∈Gv rows (n::ns),soR x (Gw nm rows w)){l h:List Int}(hl:l∈Gv rows ns)(hh:h∈Gv rows ns)
    (cl:0<cfs (rows.zip l) n) (ch:cfs (rows.zip h) n<0) :
    -(evl x (rows.zip l)) / ((cfs (rows.zip l) n:Int):Rat) < -(evl x (rows.zip h)) / ((cfs (rows.zip h) n:Int):Rat) \/
      (-(evl x (rows.zip l)) / ((cfs (rows.zip l) n:Int):Rat)=-(evl x (rows.zip h)) / ((cfs (rows.zip h) n:Int):Rat)/\GI (rows.zip l)=false/\GI (rows.zip h)=false):=by
  obtain⟨wl,al⟩:=cz hl;obtain⟨wh,ah⟩:=cz hh;have nl:=u9 wl.len wl.nn;have nh:=u9 wh.len wh.nn;have c1:(0:Rat)<((cfs (rows.zip l) n:Int):Rat):=h6 cl;have c2:((cfs (rows.zip h) n:Int):Rat)<0:=by have:=IC.mpr ch;simpa using this
  have key:=rl (rows:=rows) (n::ns) (λ_=>True) (eV x rows) (λs hs _=>by
    obtain⟨w,hw,rfl⟩:=GZ.mp hs
    exact(Cl H (cz hw).1.len).mp (hso w hw)) (λi=>-((cfs (rows.zip h) n:Int):Rat)*Gq l i+((cfs (rows.zip l) n:Int):Rat)*Gq h i)
    ⟨λi=>by
      have a1:=HH (a:=-((cfs (rows.zip h) n:Int):Rat)) (b:=Gq l i) (by grind) (nl.pos i)
      have a2:=HH (a:=((cfs (rows.zip l) n:Int):Rat)) (b:=Gq h i) (by grind) (nh.pos i)
      grind,λi hi=>by rw[nl.top i hi,nh.top i hi];grind⟩
    (λc hc=>by
      obtain⟨k,hk,rfl⟩:=GZ.mp hc;rw[dE,<- ly wl.len,<- ly wh.len]
      rcases G7.mp hk with rfl | hk
      · grind
      · rw[al k hk,ah k hk,show ((0:Int):Rat)=0 from rfl];grind) (λ_ _=>trivial)
  unfold sat at key;rw[dE,<- kR wl.len,<- kR wh.len] at key;generalize evl x (rows.zip l)=L at *;generalize evl x (rows.zip h)=R at *;generalize hcl:((cfs (rows.zip l) n:Int):Rat)=a at *;generalize hch:((cfs (rows.zip h) n:Int):Rat)=b at *;have e1:-b*L+a*R=((-R / b)-(-L / a))*(a*(-b)):=by grind
  have pp:=Im (a:=a) (b:=-b) c1 (by grind)
  rw[e1] at key
  rcases key with k | ⟨k,st⟩
  · refine .inl (G5 λz=>?_);have:=HH (a:=(-L / a)-(-R / b)) (b:=a * -b) (by grind) (by grind)
    grind
  · refine .inr ⟨by rcases JB.mp k with q | q<;>grind,(qf wl.len).mpr λi hi hp=>st i hi ?_,(qf wh.len).mpr λi hi hp=>st i hi ?_⟩
    · have a1:=Im (a:=-b) (b:=Gq l i) (by grind) hp
      have a2:=HH (a:=a) (b:=Gq h i) (by grind) (nh.pos i)
      grind
    · have a1:=HH (a:=-b) (b:=Gq l i) (by grind) (nl.pos i)
      have a2:=Im (a:=a) (b:=Gq h i) c1 hp
      grind
theorem back(H:Rws nm rows){ns:List Str}(hso:∀w∈Gv rows (n::ns),soR (GV ks ps) (Gw nm rows w))(h0:GV ks ps n=0)
  (hp:∀w∈Gv rows ns,∀t∈(Gw nm rows w).2.1,t.1≠n->0<pB ks ps t.1) :
  Low (nmb (GA nm rows ks ps n (Gv rows ns)).1.1 (GA nm rows ks ps n (Gv rows ns)).2.1).1 (nmb (GA nm rows ks ps n (Gv rows ns)).1.1 (GA nm rows ks ps n (Gv rows ns)).2.1).2 /\
   ∀w∈Gv rows ns,soR (v4 (GV ks ps) n (GO (nmb (GA nm rows ks ps n (Gv rows ns)).1.1 (GA nm rows ks ps n (Gv rows ns)).2.1))) (Gw nm rows w):=by
 have bo:∀w∈Gv rows ns,cfs (rows.zip w) n≠0->Low (cnd nm rows ks ps n w).1.1 (cnd nm rows ks ps n w).1.2/\GO (cnd nm rows ks ps n w).1=-(evl (GV ks ps) (rows.zip w)) / ((cfs (rows.zip w) n:Int):Rat):=λw hw hc=>by
  have:=CB (hp w hw) h0 (by rw[dH H];exact hc)
  rw[Et H,dH H] at this;exact this
 obtain⟨T1,T2⟩:=AV (nm:=nm) (rows:=rows) (ks:=ks) (ps:=ps) (n:=n) (Gv rows ns) λw hw hc=>(bo w hw hc).1;generalize GA nm rows ks ps n (Gv rows ns)=e at *;obtain⟨lo,hi⟩:=e;simp only at *;have at1:∀p,lo.1=some p->∃l∈Gv rows ns,0<cfs (rows.zip l) n/\p=(cnd nm rows ks ps n l).1/\lo.2=!GI (rows.zip l):=λp hp=>by
  obtain⟨_,⟨c,hc,e1,e2⟩,_⟩:=T1.so p hp;obtain⟨l,hl,rfl⟩:=GZ.mp hc;obtain⟨hl1,hl2⟩:=Hi.mp hl;exact⟨l,hl1,by simpa using hl2,e1.symm,e2.symm⟩
 have at2:∀p,hi.1=some p->∃l∈Gv rows ns,cfs (rows.zip l) n<0/\p=(cnd nm rows ks ps n l).1/\hi.2=!GI (rows.zip l):=λp hp=>by
  obtain⟨_,⟨c,hc,e1,e2⟩,_⟩:=T2.so p hp;obtain⟨l,hl,rfl⟩:=GZ.mp hc;obtain⟨hl1,hl2⟩:=Hi.mp hl;exact⟨l,hl1,by simpa using hl2,e1.symm,e2.symm⟩
 obtain⟨low,v1,v2⟩:=DN (lo:=lo) (hi:=hi) (λp h=>(T1.so p h).1) (λp h=>(T2.so p h).1) λp q hp hq=>by
  obtain⟨l,hl,cl,rfl,sl⟩:=at1 p hp;obtain⟨h,hh,ch,rfl,sh⟩:=at2 q hq;rw[(bo l hl (by omega)).2,(bo h hh (by omega)).2]
  rcases zS H hso hl hh cl ch with k | ⟨k1,k2,k3⟩
  ·exact .inl k
  ·exact .inr ⟨k1,by rw[sl,k2];rfl,by rw[sh,k3];rfl⟩
 refine⟨low,λw hw=>?_⟩;rw[uT H,tT h0];generalize GO (nmb lo.1 hi.1)=v at *
 rcases Int.lt_trichotomy (cfs (rows.zip w) n) 0 with c | c | c
 ·obtain⟨_,b2⟩:=bo w hw (by omega);have cr:((cfs (rows.zip w) n:Int):Rat)<0:=by have:=IC.mpr c;simpa using this
  have hm:cnd nm rows ks ps n w∈((Gv rows ns).filter λw=>decide (cfs (rows.zip w) n<0)).map (cnd nm rows ks ps n):=GZ.mpr ⟨w,Hi.mpr ⟨hw,by simpa using c⟩,rfl⟩
  cases hlo:hi.1 with
  | none=>rw[T2.nn hlo] at hm;cases hm
  | some p =>
   have vv:=v2 p hlo
   have key:v<GO (cnd nm rows ks ps n w).1\/(v=GO (cnd nm rows ks ps n w).1/\GI (rows.zip w)=false):=by
    rcases(T2.so p hlo).2.2 _ hm with⟨z1,z2⟩ | ⟨_,z⟩
    ·rw[z1];refine vv.imp id λ⟨y1,y2⟩=>⟨y1,?_⟩;have:(!GI (rows.zip w))=true:=z2 y2;simpa using this
    ·simp only[Bool.false_eq_true,if_false] at z;exact .inl (by grind)
   rw[b2] at key;generalize evl (GV ks ps) (rows.zip w)=L at *;generalize ((cfs (rows.zip w) n:Int):Rat)=a at *;have e1:L+v*a=((-L / a)-v)*(-a):=by grind
   rw[e1]
   rcases key with k | k
   ·exact .inl (Im (by grind) (by grind))
   ·exact .inr ⟨by rw[<- k.1];grind,k.2⟩
 ·have:=hso w (jC.mpr (.inl ⟨hw,c⟩))
  rw[uT H] at this;rw[c,show ((0:Int):Rat)=0 from rfl];have e:evl (GV ks ps) (rows.zip w)+v*0=evl (GV ks ps) (rows.zip w):=by grind
  rw[e];exact this
 ·obtain⟨_,b2⟩:=bo w hw (by omega);have cr:(0:Rat)<((cfs (rows.zip w) n:Int):Rat):=h6 c;have hm:cnd nm rows ks ps n w∈((Gv rows ns).filter λw=>decide (0<cfs (rows.zip w) n)).map (cnd nm rows ks ps n):=GZ.mpr ⟨w,Hi.mpr ⟨hw,by simpa using c⟩,rfl⟩
  cases hlo:lo.1 with
  | none=>rw[T1.nn hlo] at hm;cases hm
  | some p =>
   have vv:=v1 p hlo
   have key:GO (cnd nm rows ks ps n w).1<v\/(GO (cnd nm rows ks ps n w).1=v/\GI (rows.zip w)=false):=by
    rcases(T1.so p hlo).2.2 _ hm with⟨z1,z2⟩ | ⟨_,z⟩
    ·rw[z1];refine vv.imp id λ⟨y1,y2⟩=>⟨y1,?_⟩;have:(!GI (rows.zip w))=true:=z2 y2;simpa using this
    ·simp only[if_true] at z;exact .inl (by grind)
   rw[b2] at key;generalize evl (GV ks ps) (rows.zip w)=L at *;generalize ((cfs (rows.zip w) n:Int):Rat)=a at *;have e1:L+v*a=(v-(-L / a))*a:=by grind
   rw[e1]
   rcases key with k | k
   ·exact .inl (Im (by grind) (by grind))
   ·exact .inr ⟨by rw[<- k.1];grind,k.2⟩
def fbk(nm:List Str)(rows:List Rw):List Str->List Str->List (Int×Int)->List (Int×Int)
 | [],_,ps=>ps
 | n::ns,ks,ps=>fbk nm rows ns (ks++[n]) (ps++[nmb (GA nm rows ks ps n (Gv rows ns)).1.1 (GA nm rows ks ps n (Gv rows ns)).2.1])
theorem qk{α:Type}{k:Str}{v:α}:∀ {ks:List Str} {ps:List α},ps.length=ks.length->n∉ks->dAt (ks++[n]) (ps++[v]) k=if k=n then some v else dAt ks ps k
 | [],[],_,_=>by
  show (if n=k then some v else dAt [] [] k)=if k=n then some v else none
  by_cases e:n=k
  ·rw[Hh e,Hh e.symm]
  ·rw[He e,He λz=>e z.symm];rfl
 | x::ks,p::ps,h,hn=>by
  rw[G7,not_or] at hn;show (if x=k then some p else dAt (ks++[n]) (ps++[v]) k)=_;rw[qk (by simpa using h) hn.2]
  by_cases e:x=k
  ·rw[Hh e,He λz=>hn.1 (z.symm.trans e.symm)];show _=if x=k then some p else dAt ks ps k;rw[Hh e]
  ·rw[He e];show _=if k=n then some v else if x=k then some p else dAt ks ps k;rw[He e]
theorem fW{k:Str}{v:Int×Int}(h:ps.length=ks.length)(hn:n∉ks):sR (ks++[n]) (ps++[v]) k=if k=n then v else sR ks ps k:=by
 unfold sR;rw[qk h hn]
 by_cases e:k=n
 ·rw[Hh e,Hh e];rfl
 ·rw[He e,He e]
theorem pV{v:Int×Int}(h:ps.length=ks.length)(hn:n∉ks):GV (ks++[n]) (ps++[v])=v4 (GV ks ps) n (GO v):=by
 funext k
 unfold GV v4;rw[fW h hn]
 by_cases e:k=n
 ·rw[Hh e,Hh e]
 ·rw[He e,He e]
theorem wG(h:n∉ks):sR ks ps n=(0,1):=by
 unfold sR;rw[o7 h];rfl
theorem tS(h:n∉ks):GV ks ps n=0:=by
 unfold GV GO;rw[wG h,show ((((0,1):Int×Int).1:Int):Rat)=0 from rfl];grind
theorem yi(H:Rws nm rows):∀(ns ks:List Str) (ps:List (Int×Int)),ps.length=ks.length->(∀p∈ps,Low p.1 p.2)->(ks++ns).Nodup->(∀n∈nm,n∈ks\/n∈ns)->(∀w∈Gv rows ns,soR (GV ks ps) (Gw nm rows w)) ->
  (fbk nm rows ns ks ps).length=(ks++ns).length/\(∀p∈fbk nm rows ns ks ps,Low p.1 p.2)/\ps <+: fbk nm rows ns ks ps/\∀w∈Gv rows [],soR (GV (ks++ns) (fbk nm rows ns ks ps)) (Gw nm rows w)
 | [],ks,ps,hl,lo,nd,hm,hs=>by
  rw[HJ];exact⟨hl,lo,List.prefix_refl _,hs⟩
 | n::ns,ks,ps,hl,lo,nd,hm,hs=>by
  have nd':(ks++[n]++ns).Nodup:=by simpa using nd
  have hn:n∉ks:=λz=>by
   have:=(Jh.mp nd).2.2 n z n (G1 ..)
   exact this rfl
  have hp:∀w∈Gv rows ns,∀t∈(Gw nm rows w).2.1,t.1≠n->0<pB ks ps t.1:=λw hw t ht hne=>by
   obtain⟨h1,h2,_⟩:=kX ht;have:t.1∈ks:=by
    rcases hm t.1 h1 with z | z
    ·exact z
    ·rcases G7.mp z with z | z
     ·exact absurd z hne
     ·exact absurd ((cz hw).2 _ z) h2
   have P:Pt ks ps (ps.foldl (λa p=>a+Builtin.Int.intBits p.1+Builtin.Int.intBits p.2) 0):=⟨hl,lo,λp hp=>?_,λp hp=>?_⟩
   ·exact P.pos this
   ·exact(bits_fold ps 0 p hp).1
   ·exact(bits_fold ps 0 p hp).2
  obtain⟨b1,b2⟩:=back H hs (tS hn) hp
  obtain⟨c1,c2,c3,c4⟩:=yi H ns (ks++[n]) (ps++[_]) (by simp[hl]) (λp hp=>(Hb.mp hp).elim (lo p) λz=>by rw[G9.mp z];exact b1) nd' (λk hk=>by
   rcases hm k hk with z | z
   ·exact .inl (Hf _ z)
   ·rcases G7.mp z with z | z
    ·exact .inl (G6 _ (G9.mpr z))
    ·exact .inr z) (λw hw=>by rw[pV hl hn];exact b2 w hw)
  have e:ks++n::ns=ks++[n]++ns:=by simp
  rw[e];exact⟨c1,c2,(List.prefix_append ..).trans c3,c4⟩
where
 bits_fold:∀(l:List (Int×Int)) (a:Nat),∀p∈l,Builtin.Int.intBits p.1<=l.foldl (λa p=>a+Builtin.Int.intBits p.1+Builtin.Int.intBits p.2) a/\Builtin.Int.intBits p.2<=l.foldl (λa p=>a+Builtin.Int.intBits p.1+Builtin.Int.intBits p.2) a
  | q::l,a,p,h=>by
   rw[J5];have mono:∀(l:List (Int×Int)) (a:Nat),a<=l.foldl (λa p=>a+Builtin.Int.intBits p.1+Builtin.Int.intBits p.2) a:=λl=>by
    induction l with
    | nil=>intro a;exact G3 a
    | cons q l ih=>intro a;rw[J5];exact G0 (by omega) (ih _)
   rcases G7.mp h with rfl | h
   ·have:=mono l (a+Builtin.Int.intBits p.1+Builtin.Int.intBits p.2)
    omega
   ·exact bits_fold l _ p h
theorem rc(H:Rws nm rows){j:Nat}{r:Rw}(hj:rows[j]?=some r):Gw nm rows (unW rows.length j)=r:=by
 have hr:=Hc hj
 have hlt:j<rows.length:=(List.getElem?_eq_some_iff.mp hj).1
 have z:∀ {i:Nat} {rs:List Rw} (k:Nat),k+rs.length<=i->∀n,cfs (rs.zip ((List.range' k rs.length).map λx=>if x=i then (1:Int) else 0)) n=0/\bds (rs.zip ((List.range' k rs.length).map λx=>if x=i then (1:Int) else 0))=0/\GI (rs.zip ((List.range' k rs.length).map λx=>if x=i then (1:Int) else 0))=false:=λ{i rs}=>by
  induction rs with
  | nil=>intro k _ n;exact⟨rfl,rfl,rfl⟩
  | cons a rs ih =>
   intro k hk n;rw[Ha] at hk;obtain⟨i1,i2,i3⟩:=ih (k+1) (by omega) n;rw[Ha,List.range'_succ,Hm,He (by omega)];refine⟨?_,?_,?_⟩
   ·show 0*cf a.2.1 n+cfs (rs.zip _) n=0
    rw[i1];omega
   ·show 0*a.2.2+bds (rs.zip _)=0
    rw[i2];omega
   ·show ((isM a.1&&decide ((0:Int)<0))||GI (rs.zip _))=false
    rw[i3];simp
 have z2:∀ {i:Nat} {rs:List Rw} (k:Nat),i<k->∀n,cfs (rs.zip ((List.range' k rs.length).map λx=>if x=i then (1:Int) else 0)) n=0/\bds (rs.zip ((List.range' k rs.length).map λx=>if x=i then (1:Int) else 0))=0/\GI (rs.zip ((List.range' k rs.length).map λx=>if x=i then (1:Int) else 0))=false:=λ{i rs}=>by
  induction rs with
  | nil=>intro k _ n;exact⟨rfl,rfl,rfl⟩
  | cons a rs ih =>
   intro k hk n;obtain⟨i1,i2,i3⟩:=ih (k+1) (by omega) n;rw[Ha,List.range'_succ,Hm,He (by omega)];refine⟨?_,?_,?_⟩
   ·show 0*cf a.2.1 n+cfs (rs.zip _) n=0
    rw[i1];omega
   ·show 0*a.2.2+bds (rs.zip _)=0
    rw[i2];omega
   ·show ((isM a.1&&decide ((0:Int)<0))||GI (rs.zip _))=false
    rw[i3];simp
 have key:∀ {rs:List Rw} (k i:Nat),rs[i]?=some r->∀n,cfs (rs.zip ((List.range' k rs.length).map λx=>if x=k+i then (1:Int) else 0)) n=cf r.2.1 n/\bds (rs.zip ((List.range' k rs.length).map λx=>if x=k+i then (1:Int) else 0))=r.2.2/\GI (rs.zip ((List.range' k rs.length).map λx=>if x=k+i then (1:Int) else 0))=isM r.1:=λ{rs}=>by
  induction rs with
  | nil=>intro k i h;cases h
  | cons a rs ih =>
   intro k i h n;rw[Ha,List.range'_succ,Hm]
   cases i with
   | zero =>
    cases h
    obtain⟨i1,i2,i3⟩:=z2 (i:=k) (rs:=rs) (k+1) (by omega) n;rw[Hh (by omega)];refine⟨?_,?_,?_⟩
    ·show 1*cf r.2.1 n+cfs (rs.zip _) n=_
     rw[Nat.add_zero,i1];omega
    ·show 1*r.2.2+bds (rs.zip _)=_
     rw[Nat.add_zero,i2];omega
    ·show ((isM r.1&&decide ((0:Int)<1))||GI (rs.zip _))=_
     rw[Nat.add_zero,i3];simp
   | succ i =>
    obtain⟨i1,i2,i3⟩:=ih (k+1) i h n;rw[He (by omega),show k+(i+1)=k+1+i by omega];refine⟨?_,?_,?_⟩
    ·show 0*cf a.2.1 n+cfs (rs.zip _) n=_
     rw[i1];omega
    ·show 0*a.2.2+bds (rs.zip _)=_
     rw[i2];omega
    ·show ((isM a.1&&decide ((0:Int)<0))||GI (rs.zip _))=_
     rw[i3];simp
 have k0:=key (rs:=rows) 0 j hj
 have e:unW rows.length j=(List.range' 0 rows.length).map λx=>if x=0+j then (1:Int) else 0:=by unfold unW;rw[List.range_eq_range',Nat.zero_add]
 rw[<- e] at k0;have f1:(λn=>cfs (rows.zip (unW rows.length j)) n)=cf r.2.1:=funext λn=>(k0 n).1;have s1:=H.smT (unW rows.length j);unfold Gw;have t1:Mf.smT nm (Mf.cfs (rows.zip (unW rows.length j)))=r.2.1:=by
  have f2:Mf.cfs (rows.zip (unW rows.length j))=cf r.2.1:=f1
  rw[f2] at s1 ⊢;exact s1.uniq (H.sum r hr)
 rw[t1,(k0 "").2.1,(k0 "").2.2];obtain⟨k,ts,b⟩:=r
 cases k<;>rfl
end Mf
namespace Mf
open PySem L2 DL
variable {n:Str} {c:Nat} {rows:List Rw}
abbrev ib(x:Int):Nat:=Builtin.Int.intBits x
def wb(B m:Nat):Nat->Nat
 | 0=>1
 | k+1=>2*wb B m k+B+m+1
def cb(B m k:Nat):Nat:=wb B m k+B+m
structure RwB(B:Nat)(rows:List Rw):Prop where
 tm:∀r∈rows,∀t∈r.2.1,ib t.2<=B
 bd:∀r∈rows,ib r.2.2<=B
theorem ib0:ib 0=0:=by decide
theorem By{ts:List (Str×Int)}{B:Nat}(nd:(ts.map (·.1)).Nodup)(h:∀t∈ts,ib t.2<=B):ib (cf ts n)<=B:=by
 by_cases e:n∈ts.map (·.1)
 ·obtain⟨t,ht,rfl⟩:=GZ.mp e;rw[mT nd ht];exact h t ht
 ·rw[ju e,ib0];exact Ie _
theorem rB{B W:Nat}{n:Str}:∀ {l:List (Rw×Int)},(∀p∈l,ib (cf p.1.2.1 n)<=B/\ib p.2<=W)->ib (cfs l n)<=W+B+l.length
 | [],_=>by show ib 0<=_;rw[ib0];omega
 | p::r,h=>by
  have h1:=h p (G1 ..)
  have:=II (Hw h1.2 h1.1) (rB (B:=B) (W:=W) (n:=n) λq hq=>h q (GY _ hq))
  show ib (p.2*cf p.1.2.1 n+cfs r n)<=_
  rw[Ha];unfold ib;omega
theorem qr{B W:Nat}:∀ {l:List (Rw×Int)},(∀p∈l,ib p.1.2.2<=B/\ib p.2<=W)->ib (bds l)<=W+B+l.length
 | [],_=>by show ib 0<=_;rw[ib0];omega
 | p::r,h=>by
  have h1:=h p (G1 ..)
  have:=II (Hw h1.2 h1.1) (qr (B:=B) (W:=W) λq hq=>h q (GY _ hq))
  show ib (p.2*p.1.2.2+bds r)<=_
  rw[Ha];unfold ib;omega
section
variable {nm:List Str} {rows:List Rw} {B:Nat}
theorem Rws.cfb(H:Rws nm rows)(hb:RwB B rows){w:List Int}{W:Nat}(hw:∀a∈w,ib a<=W)(n:Str):ib (Mf.cfs (rows.zip w) n)<=W+B+rows.length:=by
 refine G0 (rB (B:=B) (W:=W) λp hp=>⟨By (H.sum _ (Hv hp).1).nd (hb.tm _ (Hv hp).1),hw _ (Hv hp).2⟩) ?_;rw[Ih];omega
theorem Rws.bdb(hb:RwB B rows){w:List Int}{W:Nat}(hw:∀a∈w,ib a<=W):ib (Mf.bds (rows.zip w))<=W+B+rows.length:=by
 refine G0 (qr (B:=B) (W:=W) λp hp=>⟨hb.bd _ (Hv hp).1,hw _ (Hv hp).2⟩) ?_;rw[Ih];omega
theorem u8{a b:Int}{W C:Nat}(ha:ib a<=C)(hb:ib b<=C):∀ {l h:List Int},(∀x∈l,ib x<=W)->(∀x∈h,ib x<=W)->∀x∈List.zipWith (λx y=>x*a+y*b) l h,ib x<=W+C+1
 | [],_,_,_,x,hx=>by simp at hx
 | _::_,[],_,_,x,hx=>by simp at hx
 | u::l,v::h,h1,h2,x,hx=>by
  rw[JF] at hx
  rcases G7.mp hx with rfl | hx
  ·have:=II (Hw (h1 u (G1 ..)) ha) (Hw (h2 v (G1 ..)) hb)
   unfold ib;omega
  ·exact u8 ha hb (λx hx=>h1 x (GY _ hx)) (λx hx=>h2 x (GY _ hx)) x hx
theorem uM{B m k:Nat}:wb B m k<=wb B m (k+1):=by
 show wb B m k<=2*wb B m k+B+m+1
 omega
def lu(H:Rws nm rows)(hb:RwB B rows){l h:List Int}{k:Nat}(hl:∀a∈l,ib a<=wb B rows.length k)(hh:∀a∈h,ib a<=wb B rows.length k):∀a∈crS rows n l h,ib a<=wb B rows.length (k+1):=λa ha=>by
 have:=u8 (C:=cb B rows.length k) (Jo (H.cfb hb hh n)) (H.cfb hb hl n) hl hh a ha
 show ib a<=2*wb B rows.length k+B+rows.length+1
 unfold cb at this;omega
theorem cN(H:Rws nm rows)(hb:RwB B rows):∀ {ns:List Str} {w:List Int},w∈Gv rows ns->∀a∈w,ib a<=wb B rows.length ns.length
 | [],w,h,a,ha=>by
  obtain⟨j,hj,rfl⟩:=GZ.mp h;obtain⟨i,_,rfl⟩:=GZ.mp ha;show ib _<=1
  split<;>decide
 | n::ns,w,h,a,ha=>by
  rw[Ha]
  rcases jC.mp h with⟨h1,h2⟩ | ⟨l,hl,cl,k,hk,ck,rfl,_⟩
  ·exact G0 (cN H hb h1 a ha) uM
  ·obtain⟨b,hb',rfl⟩:=GZ.mp ha;exact HW (lu H hb (cN H hb hl) (cN H hb hk) b hb')
end
theorem zab{z a b:Nat}(h1:z+a+b<=c)(h4:4<=c):z+a*b<=c*c / 4:=by
 refine(JS (by decide)).mpr ?_;have e1:4*(a*b)<=(a+b)*(a+b):=by
  have:(a+b)*(a+b)=a*a+2*(a*b)+b*b:=by rw[Nat.add_mul,JL,JL,Nat.mul_comm b a];omega
  rcases Nat.le_total a b with q | q
  ·obtain⟨d,rfl⟩:=JC q;have e:(a+d)*(a+d)=a*a+2*(a*d)+d*d:=by rw[Nat.add_mul,JL,JL,Nat.mul_comm d a];omega
   have e':a*(a+d)=a*a+a*d:=JL ..
   omega
  ·obtain⟨d,rfl⟩:=JC q;have e:(b+d)*(b+d)=b*b+2*(b*d)+d*d:=by rw[Nat.add_mul,JL,JL,Nat.mul_comm d b];omega
   have e':(b+d)*b=b*b+b*d:=by rw[Nat.add_mul,Nat.mul_comm d b]
   omega
 have e2:(a+b)*(a+b)+4*z<=c*c:=by
  obtain⟨t,ht⟩:=JC (show a+b+z<=c by omega);have hs:c*c=(a+b)*(a+b)+(z+t)*(a+b+c):=by
   have:c=(a+b)+(z+t):=by omega
   generalize hx:a+b=x at *
   generalize hy:z+t=y at *
   subst this
   grind
  rw[hs];have:(z+t)*(a+b+c) ≥ z*4:=Jp (by omega) (by omega);omega
 omega
theorem cnt3{rows:List Rw}{n:Str}:∀W:List (List Int),(W.filter λw=>decide (cfs (rows.zip w) n=0)).length+(W.filter λw=>decide (0<cfs (rows.zip w) n)).length+(W.filter λw=>decide (cfs (rows.zip w) n<0)).length=W.length
 | []=>rfl
 | w::W=>by
  have ih:=cnt3 (rows:=rows) (n:=n) W
  rcases Int.lt_trichotomy (cfs (rows.zip w) n) 0 with q | q | q
  ·rw[Ht (by simp;omega),Ht (by simp;omega),HC (by simpa using q),Ha,Ha];omega
  ·rw[HC (by simpa using q),Ht (by simp;omega),Ht (by simp;omega),Ha,Ha];omega
  ·rw[Ht (by simp;omega),HC (by simpa using q),Ht (by simp;omega),Ha,Ha];omega
theorem lH{rows:List Rw}{n:Str}{most:Nat}(R:List (List Int)):∀L:List (List Int),(L.flatMap λl=>(R.map (crW rows n l)).filter λu=>decide (usd u<=most)).length<=L.length*R.length
 | []=>by simp
 | l::L=>by
  have ih:=lH (rows:=rows) (n:=n) (most:=most) R L
  rw[List.flatMap_cons,G8,Ha,Nat.succ_mul];have:=Je (λu=>decide (usd u<=most)) (R.map (crW rows n l));rw[GW] at this;omega
theorem xU{most:Nat}{W:List (List Int)}(h:W.length<=c)(h4:4<=c):(woW rows n most W).length<=c*c / 4:=by
 unfold woW;rw[G8];have h1:=cnt3 (rows:=rows) (n:=n) W;have h2:=lH (rows:=rows) (n:=n) (most:=most) (W.filter λw=>decide (cfs (rows.zip w) n<0)) (W.filter λw=>decide (0<cfs (rows.zip w) n));exact G0 (Nat.add_le_add_left h2 _) (zab (by omega) h4)
def cnt:Nat->Nat->Nat
 | c,0=>c
 | c,k+1=>cnt c k*cnt c k / 4
theorem vq(h:rows.length<=c)(h4:4<=c):∀ns:List Str,(Gv rows ns).length<=cnt c ns.length/\4<=cnt c ns.length
 | []=>⟨by show (v5 rows.length).length<=c;unfold v5;rw[GW,HU];exact h,h4⟩
 | n::ns=>by
  obtain⟨h1,h2⟩:=vq h h4 ns;refine⟨xU h1 h2,?_⟩;show 4<=cnt c ns.length*cnt c ns.length / 4;refine(JS (by decide)).mpr ?_;exact Jp h2 h2
theorem og{p q N z:Int}(h:Low p q)(e:((N:Int):Rat)*GO (p,q)=(z:Int)):q ∣ N:=by
 have hq:=fB h.ne
 have e2:((N*p:Int):Rat)=((z*q:Int):Rat):=by
  rw[Hr,Hr,<- e];show _=((N:Int):Rat)*(((p:Int):Rat) / ((q:Int):Rat))*_
  grind
 have e3:N*p=z*q:=J3.mp e2
 have d:q ∣ p*N:=⟨z,by rw[HQ p,e3,HQ]⟩
 have g:Int.gcd q p=1:=by rw[Int.gcd_comm];exact h.cop'
 have k:=(Jc (k:=q) (n:=p) (m:=N)).mpr d
 rw[g] at k;simpa using k
def eD{a b:Int}{n:Nat}(h:a ∣ b)(h0:b≠0)(hb:ib b<=n):ib a<=n:=intBits_le_of_natAbs (Nat.le_of_dvd (by omega) (Int.natAbs_dvd_natAbs.mpr h)) hb
theorem oN{q:Str->Int}:∀ {l ks:List Str},l.Nodup->(∀n∈l,n∈ks)->Gs q l ∣ Gs q ks
 | [],ks,_,_=>⟨Gs q ks,(Int.one_mul _).symm⟩
 | n::l,ks,nd,h=>by
  obtain⟨h1,h2⟩:=HM.mp nd;have hn:=h n (G1 ..);have e:Gs q ks=q n*Gs q (ks.erase n):=w4 (List.perm_cons_erase hn);have:=oN (q:=q) (l:=l) (ks:=ks.erase n) h2 λk hk=>(List.mem_erase_of_ne (λ(z:k=n)=>h1 (z ▸ hk))).mpr (h k (GY _ hk));rw[e];exact Int.mul_dvd_mul (Int.dvd_refl _) this
theorem mY{q q':Str->Int}:∀ {l:List Str},(∀n∈l,q n=q' n)->Gs q l=Gs q' l
 | [],_=>rfl
 | n::l,h=>by show q n*_=q' n*_;rw[h n (G1 ..),mY λk hk=>h k (GY _ hk)]
theorem gH{f:Str->Int}{c m:Nat}:∀ {ts:List (Str×Int)},(∀t∈ts,ib t.2<=c/\ib (f t.1)<=m)->ib (cI f ts)<=c+m+ts.length
 | [],_=>by show ib 0<=_;rw[ib0];omega
 | t::r,h=>by
  have h1:=h t (G1 ..)
  have h2:=II (Hw h1.1 h1.2) (gH (c:=c) (m:=m) λu hu=>h u (GY _ hu))
  show ib (t.2*f t.1+cI f r)<=_
  rw[Ha];unfold ib;omega
structure nQ(L:Int)(c g κ T:Nat)(p:Int×Int):Prop where
 low:Low p.1 p.2
 bb:ib p.2<=c+g
 tb:ib p.1<=c+T+κ+70
 wh:∃N z:Int,N≠0/\ib N<=c/\((N*L:Int):Rat)*GO p=(z:Int)
theorem wR{ks:List Str}{ps:List (Int×Int)}{r:Rw}{κ g T:Nat}{L:Int}(P:Pt ks ps T)(hκ:ib (Gs (pB ks ps) ks)<=κ)(L0:L≠0)(hL:∀k∈ks,pB ks ps k ∣ L)(hg:ib L<=g)(nd:(r.2.1.map (·.1)).Nodup)(hk:ks.length<=60)
  (hp:∀t∈r.2.1,t.1≠n->t.1∈ks) (hc:cf r.2.1 n≠0) (hcb:ib (cf r.2.1 n)<=c) (htb:∀t∈r.2.1,ib t.2<=c) (hbb:ib r.2.2<=c):nQ L c g κ T (bnd ks ps n r):=by
 unfold bnd;have ho:∀t∈r.2.1.filter (λt=>decide (t.1≠n)),t.1∈ks/\ib t.2<=c:=λt ht=>by
  obtain⟨h1,h2⟩:=Hi.mp ht;exact⟨hp t h1 (by simpa using h2),htb t h1⟩
 have ndo:((r.2.1.filter (λt=>decide (t.1≠n))).map (·.1)).Nodup:=nd.sublist (List.filter_sublist.map _)
 generalize ho':r.2.1.filter (λt=>decide (t.1≠n))=o at *
 have hon:∀k∈o.map (·.1),k∈ks:=λk hk=>by
  obtain⟨t,ht,rfl⟩:=GZ.mp hk;exact(ho t ht).1
 have hlen:o.length<=60:=by
  have:=dM ndo hon
  rw[GW] at this;omega
 have hK:0<Gs (pB ks ps) (o.map (·.1)):=cG λk hk=>P.pos (hon k hk)
 have hKa:0<Gs (pB ks ps) ks:=cG λk hk=>P.pos hk
 have hd:=oN (q:=pB ks ps) ndo hon
 have hKb:ib (Gs (pB ks ps) (o.map (·.1)))<=κ:=eD hd (by omega) hκ
 have hsb:ib (cI (ov (pT ks ps) (pB ks ps) (Gs (pB ks ps) (o.map (·.1)))) o)<=c+(T+κ)+o.length:=gH λt ht=>⟨(ho t ht).2,Hw (P.Tb (ho t ht).1) (HW hKb)⟩
 have r1:=mv (ks:=ks) (ps:=ps) (K:=Gs (pB ks ps) (o.map (·.1))) (ts:=o) λt ht=>⟨P.pos (ho t ht).1,dO (GZ.mpr ⟨t,ht,rfl⟩)⟩
 have r2:=mv (ks:=ks) (ps:=ps) (K:=L) (ts:=o) λt ht=>⟨P.pos (ho t ht).1,hL _ (ho t ht).1⟩
 simp only;generalize Gs (pB ks ps) (o.map (·.1))=K at *;have hcK:cf r.2.1 n*K≠0:=HN hc (by omega);have lw:=eL (r.2.2*K-cI (ov (pT ks ps) (pB ks ps) K) o) hcK;have wh:((cf r.2.1 n*L:Int):Rat)*GO (GN (r.2.2*K-cI (ov (pT ks ps) (pB ks ps) K) o) (cf r.2.1 n*K),GG (r.2.2*K-cI (ov (pT ks ps) (pB ks ps) K) o) (cf r.2.1 n*K))=((r.2.2*L-cI (ov (pT ks ps) (pB ks ps) L) o:Int):Rat):=by
  rw[jH _ hcK];have h1:=fB hc;have h2:=fB (show K≠0 by omega);simp only[Rat.intCast_mul,Rat.intCast_sub,r1,r2];generalize cZ (GV ks ps) o=x at *;generalize ((cf r.2.1 n:Int):Rat)=a at *;generalize ((K:Int):Rat)=b at *;generalize ((L:Int):Rat)=d at *;generalize ((r.2.2:Int):Rat)=e at *
  grind
 refine⟨lw,eD (og lw wh) (HN hc L0) (Hw hcb hg),?_,?_⟩
 ·have:=intBits_sub_le (Hw hbb hKb) hsb
  exact G0 (HW this) (by omega)
 ·exact⟨cf r.2.1 n,_,hc,hcb,wh⟩
theorem yH{lo:Bool}{Pr:Int×Int->Prop}{a b:En2}(ha:∀p,a.1=some p->Pr p)(hb:∀p,b.1=some p->Pr p):∀p,(tgt lo a b).1=some p->Pr p:=by
 obtain⟨a1,a2⟩:=a;obtain⟨b1,b2⟩:=b;intro p h
 cases a1 with
 | none=>exact hb p h
 | some x =>
  cases b1 with
  | none=>exact ha p h
  | some y =>
   have h:(if x=y then ((some x,a2&&b2):En2) else if decide (y.1*x.2<x.1*y.2)=lo then (some x,a2) else (some y,b2)).1=some p:=h
   split at h
   ·exact ha p h
   ·split at h
    ·exact ha p h
    ·exact hb p h
theorem yC{nm:List Str}{ks:List Str}{ps:List (Int×Int)}{Pr:Int×Int->Prop}:∀ {W:List (List Int)},(∀w∈W,cfs (rows.zip w) n≠0->Pr (cnd nm rows ks ps n w).1)->(∀p,(GA nm rows ks ps n W).1.1=some p->Pr p)/\∀p,(GA nm rows ks ps n W).2.1=some p->Pr p:=by
  intro W;unfold GA
  have:∀(W:List (List Int)) (e:En2×En2),(∀w∈W,cfs (rows.zip w) n≠0->Pr (cnd nm rows ks ps n w).1)->(∀p,e.1.1=some p->Pr p)->(∀p,e.2.1=some p->Pr p)->(∀p,(W.foldl (λe w =>
    (if 0<cfs (rows.zip w) n then tgt true e.1 (some (cnd nm rows ks ps n w).1,(cnd nm rows ks ps n w).2) else e.1,
     if cfs (rows.zip w) n<0 then tgt false e.2 (some (cnd nm rows ks ps n w).1,(cnd nm rows ks ps n w).2) else e.2)) e).1.1=some p->Pr p)/\∀p,(W.foldl (λe w =>
    (if 0<cfs (rows.zip w) n then tgt true e.1 (some (cnd nm rows ks ps n w).1,(cnd nm rows ks ps n w).2) else e.1,
     if cfs (rows.zip w) n<0 then tgt false e.2 (some (cnd nm rows ks ps n w).1,(cnd nm rows ks ps n w).2) else e.2)) e).2.1=some p->Pr p:=λW=>by
    induction W with
    | nil=>intro e _ h1 h2;exact⟨h1,h2⟩
    | cons w W ih =>
      intro e h h1 h2;rw[J5];refine ih _ (λw hw=>h w (GY _ hw)) ?_ ?_
      · show ∀p,(if 0<cfs (rows.zip w) n then tgt true e.1 (some (cnd nm rows ks ps n w).1,(cnd nm rows ks ps n w).2) else e.1).1=some p->Pr p
        by_cases q:0<cfs (rows.zip w) n
        · rw[Hh q];exact yH h1 λp hp=>by cases hp;exact h w (G1 ..) (by omega)
        · rw[He q];exact h1
      · show ∀p,(if cfs (rows.zip w) n<0 then tgt false e.2 (some (cnd nm rows ks ps n w).1,(cnd nm rows ks ps n w).2) else e.2).1=some p->Pr p
        by_cases q:cfs (rows.zip w) n<0
        · rw[Hh q];exact yH h2 λp hp=>by cases hp;exact h w (G1 ..) (by omega)
        · rw[He q];exact h2
  exact λh=>this W _ h (λp hp=>nomatch hp) λp hp=>nomatch hp
theorem wI{L:Int}{g κ T:Nat}{lo hi:Option (Int×Int)}(h0:L≠0)(hg:ib L<=g)(hgκ:g<=κ)(h1:∀p,lo=some p->nQ L c g κ T p)(h2:∀p,hi=some p->nQ L c g κ T p) :
  ib (nmb lo hi).1<=2*(c+T+κ+72)+2/\ib (nmb lo hi).2<=2*c+g+2/\∃M:Int,M≠0/\ib M<=2*c+2/\(nmb lo hi).2 ∣ M*L:=by
 have key:ib (nmb lo hi).1<=2*(c+T+κ+72)+2/\∃M:Int,M≠0/\ib M<=2*c+2/\(nmb lo hi).2 ∣ M*L:=?_
 ·obtain⟨k1,M,m0,mb,md⟩:=key;refine⟨k1,eD md (HN m0 h0) ?_,M,m0,mb,md⟩;have:=Hw mb hg;unfold ib;omega
 have i1:ib 1=1:=by decide
 have o1:∀a,∃M:Int,M≠0/\ib M<=2*c+2/\GG a 1 ∣ M*L:=λa=>⟨1,by decide,by omega,by rw[(pD a).2];exact Int.one_dvd _⟩
 have o2:∀ {p:Int×Int} {z:Int},ib p.1<=c+T+κ+70->ib z<=1->ib (GN (p.1.fdiv p.2+z) 1)<=2*(c+T+κ+72)+2:=λ{p z} h hz=>by
  rw[(pD _).1];have:=II (HW (y:=p.2) h) hz;unfold ib;omega
 unfold nmb
 cases lo with
 | none =>
  cases hi with
  | none=>exact⟨by show ib 0<=_;rw[ib0];omega,1,by decide,by omega,Int.one_dvd _⟩
  | some h=>exact⟨o2 (p:=h) (z:=-1) (h2 h rfl).tb (by decide),o1 _⟩
 | some l =>
  cases hi with
  | none=>exact⟨o2 (p:=l) (z:=1) (h1 l rfl).tb (by decide),o1 _⟩
  | some h =>
   have cl:=h1 l rfl
   have ch:=h2 h rfl
   simp only
   by_cases k:GN (l.1.fdiv l.2+1) 1*h.2<h.1*GG (l.1.fdiv l.2+1) 1
   ·rw[Hh k];exact⟨o2 (p:=l) (z:=1) cl.tb (by decide),o1 _⟩
   ·rw[He k];obtain⟨N1,z1,n1,b1,w1⟩:=cl.wh;obtain⟨N2,z2,n2,b2,w2⟩:=ch.wh
    by_cases e:l=h
    ·rw[Hh e];have b:=cl.tb;exact⟨by omega,N1,n1,by omega,og (p:=l.1) cl.low w1⟩
    ·rw[He e];have nz:l.2*h.2≠0:=HN cl.low.ne ch.low.ne;have sl:=eL (l.1*h.2+h.1*l.2) nz;have nz2:GG (l.1*h.2+h.1*l.2) (l.2*h.2)*2≠0:=HN sl.ne (by decide);have e1:GO (GN (l.1*h.2+h.1*l.2) (l.2*h.2),GG (l.1*h.2+h.1*l.2) (l.2*h.2))=GO l+GO h:=by
      rw[jH _ nz,Iq,Hr,Hr,Hr];have a1:=fB cl.low.ne;have a2:=fB ch.low.ne;unfold GO
      grind
     have e2:GO (GN (GN (l.1*h.2+h.1*l.2) (l.2*h.2)*1) (GG (l.1*h.2+h.1*l.2) (l.2*h.2)*2),GG (GN (l.1*h.2+h.1*l.2) (l.2*h.2)*1) (GG (l.1*h.2+h.1*l.2) (l.2*h.2)*2))=(GO l+GO h) / 2:=by
      rw[jH _ nz2,<- e1,Hr,Hr,show ((1:Int):Rat)=1 from rfl,show ((2:Int):Rat)=2 from rfl];have a1:=fB sl.ne;unfold GO
      grind
     have dv:GG (GN (l.1*h.2+h.1*l.2) (l.2*h.2)*1) (GG (l.1*h.2+h.1*l.2) (l.2*h.2)*2) ∣ 2*(N1*N2)*L:=by
      refine og (z:=N2*z1+N1*z2) (eL _ nz2) ?_;rw[e2];simp only[Rat.intCast_mul,Rat.intCast_add] at w1 w2 ⊢;rw[show ((2:Int):Rat)=2 from rfl]
      grind
     refine⟨?_,2*(N1*N2),HN (by decide) (HN n1 n2),?_,dv⟩
     ·have s1:=II (Hw cl.tb ch.bb) (Hw ch.tb cl.bb)
      have s2:ib (GN (l.1*h.2+h.1*l.2) (l.2*h.2)*1)<=2*(c+T+κ+72)+2:=by
       rw[Int.mul_one];exact G0 (HW s1) (by omega)
      exact HW s2
     ·have:=Hw (show ib 2<=2 by decide) (Hw b1 b2)
      unfold ib;omega
end Mf
namespace Lw
open PySem L2 DL
variable {t u:TDS} {R:a6} {δ:En} {g:TDG} {i j L:Int} {b:Bool} {l names ks nm ns ss:List Str} {k:Bool→Prop} {x:Sl} {q:Str→Int} {ts:List (Str×Int)} {rows c d:List Rw} {ps:List (Int×Int)} {n:Str} {A B:List (List Rw)}
variable {P:Program} {w:World} {K:PySem.W.Frag} {mg:Str→Option Value} {base:Heap}
structure Zz where
 P:Program
 w:World
 K:PySem.W.Frag
 mg:Str->Option Value
 base:Heap
 x0:Fd K mg "common_divisor" s_common_divisor ["one","other"]
 x1:Fd K mg "made" s_made ["top","bottom"]
 x2:Fd K mg "plus" s_plus ["one","other"]
 x3:Fd K mg "times" s_times ["one","other"]
 x4:Fd K mg "less" s_less ["one","other"]
 x5:Fd K mg "is_row" s_is_row ["saying"]
 x6:Fd K mg "mark_names" s_mark_names ["saying","found"]
 x7:Fd K mg "names_of" s_names_of ["saying"]
 x8:Fd K mg "tops_of" s_tops_of ["names","point"]
 x9:Fd K mg "top_of_sum" s_top_of_sum ["terms","tops"]
 x10:Fd K mg "row_is_so" s_row_is_so ["row","tops","bottom"]
 x11:Fd K mg "part_is_so" s_part_is_so ["saying","tops","bottom"]
 x12:Fd K mg "is_so" s_is_so ["saying","point"]
 x13:Fd K mg "contrary" s_contrary ["row"]
 x14:Fd K mg "plain_part" s_plain_part ["saying","turned"]
 x15:Fd K mg "plain" s_plain ["saying"]
 x16:Fd K mg "_law_cell" s__law_cell ["_law_script","_law_k"]
 x17:Fd K mg "put_together" s_put_together ["one","other"]
 x18:Fd K mg "cases_within" s_cases_within ["part","whole"]
 x19:Fd K mg "cases" s_cases ["saying"]
 x20:Fd K mg "added" s_added ["rows","weights"]
 x21:Fd K mg "weight_of" s_weight_of ["name","row"]
 x22:Fd K mg "alone" s_alone ["rows"]
 x23:Fd K mg "shortened" s_shortened ["weights"]
 x24:Fd K mg "crossed" s_crossed ["low","high","name"]
 x25:Fd K mg "without" s_without ["rows","sums","name","most"]
 x26:Fd K mg "taken_out" s_taken_out ["rows","names"]
 x27:Fd K mg "bound_on" s_bound_on ["name","row","point"]
 x28:Fd K mg "tighter" s_tighter ["one","other","is_low"]
 x29:Fd K mg "number_in" s_number_in ["piece"]
 x30:Fd K mg "piece_for" s_piece_for ["name","sums","point"]
 x31:Fd K mg "found_back" s_found_back ["steps","names","point"]
 x32:Fd K mg "solved" s_solved ["rows","names"]
 x33:Fd K mg "both_so" s_both_so ["one","other"]
 x34:Fd K mg "_law_whole" s__law_whole ["_law_found"]
 x35:Fd K mg "_law_is_fraction" s__law_is_fraction ["_law_found"]
 x36:Fd K mg "_law_over" s__law_over ["_law_one","_law_other"]
 x37:Fd K mg "_law_total" s__law_total ["_law_terms","_law_point"]
 x38:Fd K mg "_law_row_so" s__law_row_so ["_law_row","_law_point"]
 x39:Fd K mg "_law_number" s__law_number ["_law_cell_here"]
 x40:Fd K mg "_law_line" s__law_line ["_law_cells","_law_names_here"]
 x41:Fd K mg "_law_fence" s__law_fence ["_law_cells","_law_fence_here","_law_side"]
 x42:Fd K mg "_law_shaped" s__law_shaped ["_law_rows","_law_cell_here"]
 x43:Fd K mg "_law_sayings" s__law_sayings ["_law_script"]
 x44:Fd K mg "_law_so" s__law_so ["_law_saying","_law_point"]
 x45:Fd K mg "_law_cases" s__law_cases ["_law_saying","_law_so_here"]
 x46:Fd K mg "_law_weights_good" s__law_weights_good ["_law_rows","_law_weights"]
 x47:Fd K mg "_law_paper_good" s__law_paper_good ["_law_one","_law_other","_law_paper"]
 x48:Fd K mg "_law_letters" s__law_letters ["_law_cell_here"]
 x49:Fd K mg "_law_called" s__law_called ["_law_saying","_law_letters_here"]
 x50:Fd K mg "_law_names" s__law_names ["_law_saying"]
 x51:Fd K mg "_law_point_good" s__law_point_good ["_law_one","_law_other","_law_point"]
 x52:mg "abs"=none
 x53:mg "sorted"=none
 x54:mg "tuple"=none
 x55:mg "len"=none
 x56:mg "max"=none
 x57:mg "zip"=none
 x58:mg "enumerate"=none
 x59:mg "range"=none
 x60:mg "reversed"=none
 x61:mg "dict"=none
 x62:mg "isinstance"=none
 x63:mg "bool"=none
 x64:mg "int"=none
 x65:mg "list"=none
 x66:mg "set"=none
 g_OPPOSITES:GTab K mg "OPPOSITES" [("least","more"),("more","least"),("both","either"),("either","both")]
 g_MOST_ROWS:GInt mg "MOST_ROWS" 3
 g_MOST_CASES:GInt mg "MOST_CASES" 4
 g_ENDLESS:GEnd K mg "ENDLESS"
abbrev Zz.C(Z:Zz)(k:Nat)(x:Str)(ps:List Str)(sp:Sp):Prop:=Cal Z.P Z.w Z.K Z.mg Z.base k x ps sp
local macro_rules | `(tactic| walk_at "sc") => `(tactic| exact ⟨rfl, rfl, rfl, by decide +kernel, rfl, by decide +kernel, by decide +kernel⟩)
open Mf
def ag(h:∀K:En->Prop,K=u R->t { R with nx:=K } δ):dSeq t u R δ:=h _ rfl
def kc(src:TDC)(F:D->a6->En->Prop):TDS:=λR δ=>src δ λxs δ1=>∃I:Nat->En->Prop,I 0 δ1 /\
 (∀i x δ',xs[i]?=some x->I i δ'->F x { R with nx:=I (i+1),ct:=I (i+1),bk:=R.nx,tp:=False } δ')/\∀δ',I xs.length δ'->R.nx δ'
def dA{src:TDC}{tb:TDS}(h:∀(F:D->a6->En->Prop) (N:En->Prop),F=(λx R δ=>g x δ λδ2=>tb R δ2)->N=R.nx->kc src F { R with nx:=N } δ):dFor src g tb R δ:=h _ _ rfl rfl
def fM(t:GS)(F:D->a6->En->Prop):TDS:=λR δ=>t δ (wd λd δ1=>qL d λxs=>∃I:Nat->En->Prop,I 0 δ1 /\
 (∀i x δ',xs[i]?=some x->I i δ'->F x { R with nx:=I (i+1),ct:=I (i+1),bk:=R.nx,tp:=False } δ')/\∀δ',I xs.length δ'->R.nx δ')
def cP{t:GS}{tb:TDS}(h:∀(F:D->a6->En->Prop) (N:En->Prop),F=(λx R δ=>g x δ λδ2=>tb R δ2)->N=R.nx->fM t F { R with nx:=N } δ):se t g tb R δ:=h _ _ rfl rfl
def qv(t:TDA)(F:D->a6->En->Prop):TDS:=λR δ=>t δ λds δ1=>qC ds λx r=>qN r <| qI x λj=>-(2 ^ 62)<=j/\j<2 ^ 62/\∃I:Nat->En->Prop,I 0 δ1 /\
 (∀i δ',i<j.toNat->I i δ'->F (.int i) { R with nx:=I (i+1),ct:=I (i+1),bk:=R.nx,tp:=False } δ')/\∀δ',I j.toNat δ'->R.nx δ'
def kU{t:TDA}{tb:TDS}(h:∀(F:D->a6->En->Prop) (N:En->Prop),F=(λx R δ=>g x δ λδ2=>tb R δ2)->N=R.nx->qv t F { R with nx:=N } δ):Bj t g tb R δ:=h _ _ rfl rfl
def bX{x:D}(h:∀K:En->Prop,K=u R->g x δ λδ2=>t { R with nx:=K } δ2):g x δ λδ2=>dSeq t u R δ2:=h _ rfl
theorem aK{α β γ:Type}(f:β->Option γ)(g:α->β)(h:α->γ):∀(l:List α),(∀x∈l,f (g x)=some (h x))->(l.map g).filterMap f=l.map h
 | [],_=>rfl
 | x::l,e=>by rw[Hm,Hm,HP,e x (G1 ..),aK f g h l λy hy=>e y (GY _ hy)]
theorem GH{c A B:Prop}[Decidable c](hc:¬ c)(h:B):if c then A else B:=by rw[He hc];exact h
theorem ifp{c A B:Prop}[Decidable c](hc:c)(h:A):if c then A else B:=by rw[Hh hc];exact h
theorem at0{α:Type}{x:α}{xs:List α}:GK (x::xs) 0=some x:=by
 unfold GK ixN;simp only[List.length_cons];rw[Hh (by omega),Hh (by omega)];rfl
theorem at1{α:Type}{x y:α}{xs:List α}:GK (x::y::xs) 1=some y:=by
 unfold GK ixN;simp only[List.length_cons];rw[Hh (by omega),Hh (by omega)];rfl
theorem at2{α:Type}{x y z:α}{xs:List α}:GK (x::y::z::xs) 2=some z:=by
 unfold GK ixN;simp only[List.length_cons];rw[Hh (by omega),Hh (by omega)];rfl
def atm1{α:Type}{x:α}{xs:List α}:GK (xs++[x]) (-1)=some x:=wq xs x
def um{R:D->Prop}:u5 [.int i,.int j] R=(R (.int (i+j))):=rfl
def vL{xs ys:List D}{R:D->Prop}:u5 [.lst xs,.lst ys] R=(xs.length+ys.length<=9000/\R (.lst (xs++ys))):=rfl
def xm{xs:List D}{R:D->Prop}:B9 [.lst xs] R=(R (.int xs.length)):=rfl
def zB{xs:List D}{R:D->Prop}:B9 [.fz xs] R=(R (.int xs.length)):=rfl
def xM{xs:List D}{R:D->Prop}:B9 [.tup xs] R=(R (.int xs.length)):=rfl
def wu{R:D->Prop}:fInt [.int i] R=(R (.int i)):=rfl
def Ai{R:D->Prop}:fInt [.bl b] R=(R (.int (if b then 1 else 0))):=rfl
def Ax{xs:List D}{R:D->Prop}:fIx [.tup xs,.int i] R=GD xs i R:=rfl
def zu{xs:List D}{R:D->Prop}:fIx [.lst xs,.int i] R=GD xs i R:=rfl
def DY{xs:List D}{R:D->Prop}:fIx [.fz xs,.int i] R=GD xs i R:=rfl
def Ac{z:Str}{R:D->Prop}:fIx [.str z,.int i] R=(z.length<=9000/\∃c,GK z.cps.toList i=some c/\R (.str ⟨#[c]⟩)):=rfl
def BF{xs:List D}{l u:Option Int}{R:D->Prop}:fSl (.lst xs) l u R=(R (.lst (cut xs l u))):=rfl
def C6{xs:List D}{l u:Option Int}{R:D->Prop}:fSl (.fz xs) l u R=(R (.lst (cut xs l u))):=rfl
def Nat.cast_ofNat_Int{n:Nat}:((OfNat.ofNat n:Nat):Int)=OfNat.ofNat n:=rfl
def vt{xs ys:List D}{R:D->Prop}:u5 [.tup xs,.tup ys] R=(xs≠[]/\ys≠[]/\xs.length+ys.length<=9000/\R (.tup (xs++ys))):=rfl
def zK{xs:List D}{l u:Option Int}{R:D->Prop}:fSl (.tup xs) l u R=(¬ (HT.sIx xs.length 0 l=0/\HT.sIx xs.length xs.length u=xs.length)/\R (.tup (cut xs l u))):=rfl
def BN{R:D->Prop}:fIs [.non,.non] R=(R (.bl true)):=rfl
def AL{c f:Str}{d:D}{R:D->Prop}:fIs [.exn c f d,.non] R=(R (.bl false)):=rfl
def BR{xs:List D}{R:D->Prop}:fIs [.tup xs,.non] R=(R (.bl false)):=rfl
def wd_e{R:D->En->Prop}{x:D}:wd R (.d x) δ=R x δ:=rfl
def qB_e:qB (.bl b) k=k b:=rfl
def qI_e{b:Int}{k:Int->Prop}:qI (.int b) k=k b:=rfl
def qX_e{b:Str}{k:Str->Prop}:qX (.str b) k=k b:=rfl
def qT_e{b:List D}{k:List D->Prop}:qT (.tup b) k=k b:=rfl
def qL_e{b:List D}{k:List D->Prop}:qL (.lst b) k=k b:=rfl
def qY_l{b:List D}{k:List D->Prop}:qY (.lst b) k=k b:=rfl
def qY_t{b:List D}{k:List D->Prop}:qY (.tup b) k=k b:=rfl
theorem FD{l:List D}{k:List D->Prop}:qY (sq b l) k=k l:=by cases b<;>rfl
def qG_e{b:List Str}{c:List D}{k:List Str->List D->Prop}:qG (.dct b c) k=k b c:=rfl
def qF_e{b:List Str}{c:List D}{k:List Str->List D->Prop}:qF (.fd b c) k=k b c:=rfl
def qZ_d{b:List Str}{c:List D}{k:List Str->List D->Prop}:qZ (.dct b c) k=k b c:=rfl
def qZ_f{b:List Str}{c:List D}{k:List Str->List D->Prop}:qZ (.fd b c) k=k b c:=rfl
def qV_e{α:Type}{a:α}{k:α->Prop}:qV (some a) k=k a:=rfl
def qN_e{k:Prop}:qN [] k=k:=rfl
def qC_e{x:D}{r:List D}{k:D->List D->Prop}:qC (x::r) k=k x r:=rfl
def yN{k:Prop}:sV [] 0 k=k:=rfl
def yE{x:D}{r:List D}{n:Nat}{k:Prop}:sV (x::r) (n+1) k=sV r n k:=rfl
def q9_0{k:Prop}:q9 [] k=k:=rfl
def q9_1{a:D}{k:Prop}:q9 [a] k=k:=rfl
def q9_2{a b:D}{k:Prop}:q9 [a,b] k=k:=rfl
def q9_3{a b c:D}{k:Prop}:q9 [a,b,c] k=k:=rfl
def q9_4{a b c d:D}{k:Prop}:q9 [a,b,c,d] k=k:=rfl
def qW_s{i:Nat}{k:Addr->D->Prop}:qW (x::δ)[i+1]? k=qW δ[i]? k:=rfl
def qW_z{a:Addr}{d:D}{k:Addr->D->Prop}:qW (.own a d::δ)[0]? k=k a d:=rfl
def qD_s{i:Nat}{k:D->Prop}:qD (x::δ)[i+1]? k=qD δ[i]? k:=rfl
def qD_z{d:D}{k:D->Prop}:qD (.dat d::δ)[0]? k=k d:=rfl
def yU{y:Sl}{i:Nat}{k:En->Prop}:jO (x::δ) (i+1) y k=jO δ i y λδ'=>k (x::δ'):=rfl
def yo{y:Sl}{k:En->Prop}:jO (x::δ) 0 y k=k (y::δ):=rfl
def FM{x:D}{l:List D}{k:D->Prop}:GD (x::l) 0 k=k x:=rfl
def FG{x y:D}{l:List D}{k:D->Prop}:GD (x::y::l) 1 k=k y:=rfl
def F8{x y z:D}{l:List D}{k:D->Prop}:GD (x::y::z::l) 2 k=k z:=rfl
def Fs{x y z u:D}{l:List D}{k:D->Prop}:GD (x::y::z::u::l) 3 k=k u:=rfl
def qS_t{d:D}{k:List D->Prop}:qS true d k=qL d k:=rfl
def qS_f{d:D}{k:List D->Prop}:qS false d k=qT d k:=rfl
def Fv{A B:Prop}:(if true=true then A else B)=A:=rfl
def FT{A B:Prop}:(if false=true then A else B)=B:=rfl
def Fx{A B:Prop}:(if (!true)=true then A else B)=B:=rfl
def F4{A B:Prop}:(if (!false)=true then A else B)=A:=rfl
def Cg{p:List Sl->Prop}:v7 0 p=p []:=rfl
def Em{n:Nat}{p:List Sl->Prop}:v7 (n+1) p=(∀t:Option D,v7 n λts=>p (oS t::ts)):=rfl
def E5{c:En}:okT 0 δ c=(δ=c):=rfl
def EK{n:Nat}{d:D}{c:En}:okT (n+1) (.dat d::δ) c=okT n δ c:=rfl
def EB{d:D}:t9 (some (.dat d))=.dat d:=rfl
def qD_e{d:D}{k:D->Prop}:qD (some (.dat d)) k=k d:=rfl
def qW_e{a:Addr}{d:D}{k:Addr->D->Prop}:qW (some (.own a d)) k=k a d:=rfl
def D1{i:Nat}:t9 (x::δ)[i+1]?=t9 δ[i]?:=rfl
def Cy{d:D}:t9 (.dat d::δ)[0]?=.dat d:=rfl
def sN:GR "int" .non k=k false:=rfl
def uN:GR "int" (.bl b) k=k true:=rfl
def rN{b:Int}:GR "int" (.int b) k=k true:=rfl
def sB{b:Str}:GR "int" (.str b) k=k false:=rfl
def sD{b:List D}:GR "int" (.tup b) k=k false:=rfl
def r8{b:List D}:GR "int" (.lst b) k=k false:=rfl
def u6{b:List D}:GR "int" (.fz b) k=k false:=rfl
def sj{b:List Str}{c:List D}:GR "int" (.dct b c) k=k false:=rfl
def vN{b:List Str}{c:List D}:GR "int" (.fd b c) k=k false:=rfl
def nJ:GR "bool" .non k=k false:=rfl
def sP:GR "bool" (.bl b) k=k true:=rfl
def nM{b:Int}:GR "bool" (.int b) k=k false:=rfl
def oJ{b:Str}:GR "bool" (.str b) k=k false:=rfl
def oP{b:List D}:GR "bool" (.tup b) k=k false:=rfl
def pe{b:List D}:GR "bool" (.lst b) k=k false:=rfl
def sH{b:List D}:GR "bool" (.fz b) k=k false:=rfl
def oR{b:List Str}{c:List D}:GR "bool" (.dct b c) k=k false:=rfl
def sE{b:List Str}{c:List D}:GR "bool" (.fd b c) k=k false:=rfl
def mn:GR "tuple" .non k=k false:=rfl
def nG:GR "tuple" (.bl b) k=k false:=rfl
def lX{b:Int}:GR "tuple" (.int b) k=k false:=rfl
def ni{b:Str}:GR "tuple" (.str b) k=k false:=rfl
def mF{b:List D}:GR "tuple" (.tup b) k=k true:=rfl
def m5{b:List D}:GR "tuple" (.lst b) k=k false:=rfl
def ny{b:List D}:GR "tuple" (.fz b) k=k false:=rfl
def m9{b:List Str}{c:List D}:GR "tuple" (.dct b c) k=k false:=rfl
def oK{b:List Str}{c:List D}:GR "tuple" (.fd b c) k=k false:=rfl
def nv:GR "dict" .non k=k false:=rfl
def sr:GR "dict" (.bl b) k=k false:=rfl
def nL{b:Int}:GR "dict" (.int b) k=k false:=rfl
def oG{b:Str}:GR "dict" (.str b) k=k false:=rfl
def oq{b:List D}:GR "dict" (.tup b) k=k false:=rfl
def nZ{b:List D}:GR "dict" (.lst b) k=k false:=rfl
def rR{b:List D}:GR "dict" (.fz b) k=k false:=rfl
def nD{b:List Str}{c:List D}:GR "dict" (.dct b c) k=k true:=rfl
def rK{b:List Str}{c:List D}:GR "dict" (.fd b c) k=k true:=rfl
def Fr{f:List D->(D->Prop)->Prop}{x y:D}{R:W->En->Prop}:kOb f x R (.d y) δ=f [x,y] (kD R δ):=rfl
def ES{f:List D->(D->Prop)->Prop}{tb:GS}{x:D}{R:W->En->Prop}:kOa f tb R (.d x) δ=tb δ (kOb f x R):=rfl
def FP{f:List D->(D->Prop)->Prop}{x:D}{R:W->En->Prop}:kUn f R (.d x) δ=f [x] (kD R δ):=rfl
def F9{t:TDA}{x:D}{R:List D->En->Prop}:kAc t R (.d x) δ=t δ (kAd x R):=rfl
def Go{R:Bool->En->Prop}:kTs R (.d (.bl b)) δ=R b δ:=rfl
def Fh{u:GS}{R:W->En->Prop}:kAV u R (.d (.bl b)) δ=(if b=true then u δ R else R (.d (.bl false)) δ):=rfl
def FB{u:GS}{R:W->En->Prop}:kOV u R (.d (.bl b)) δ=(if b=true then R (.d (.bl true)) δ else u δ R):=rfl
def Gg{R:W->En->Prop}:kNV R (.d (.bl b)) δ=R (.d (.bl (!b))) δ:=rfl
def Fn{x:D}:kRe R (.d x) δ=R.rt x δ:=rfl
def Ch{i:Nat}{x:D}:kSe i R (.d x) δ=jO δ i (.dat x) R.nx:=rfl
def Db{x:D}:kAs g R (.d x) δ=g x δ R.nx:=rfl
def EY{T:String}{x:D}{R:W->En->Prop}:kIs T R (.d x) δ=(GR T x λb=>R (.d (.bl b)) δ):=rfl
theorem GF(i:Nat){X:Cx}{x:Str}{j}{k:Int}{p p2 pos:Pos}(hN:X.N[i]?=some x:=by rfl)(hv:Vis X.env.scope x:=by walk_at "v3")(hd:(x==("__debug__":Str))=false:=by decide)(hcd:(x==("__classdict__":Str))=false:=by decide):DE X (.Subscript (.Name x p) (.Constant (.int k) j p2) pos) (dOp fIx (dV i) (dC (.int k))):=gM gz (ak i hN hv hd hcd) ar (λ_ _=>rfl)
local macro_rules | `(tactic| walk_at "rh") => `(tactic| try simp only [↓kD, ↓kN, ↓kO, ↓kI, ↓wd_e, ↓Ch, ↓Db, ↓yU, ↓yo, ↓yE, ↓yN, ↓qC_e, ↓qN_e, ↓qT_e, ↓qL_e, ↓jS, ↓A9, ↓ux, ↓AI, ↓eT, ↓ln, ↓nV, ↓qWD, ↓qW_s, ↓qW_z, ↓qG_e])
local macro_rules | `(tactic| walk_at "rd") => `(tactic| ((try simp only [eS, List.map_cons, List.map_nil, List.cons_append, List.nil_append, List.append_nil, List.length_cons, List.length_nil, Nat.reduceAdd, Nat.reduceSub, List.replicate]); try simp only [↓Fr, ↓ES, ↓FP, ↓F9, ↓Go, ↓Fh, ↓FB, ↓Gg, ↓Fn, ↓Ch, ↓Db, ↓EY, ↓kAd, ↓kCa, ↓kTu, ↓kLs, ↓kAn, ↓kOr, ↓kNo, ↓kIE, ↓yF, ↓DD, ↓CS, ↓dcSq, ↓yB, ↓yV, ↓yI, ↓Dp, ↓ln, ↓Ep, ↓yh, ↓EG, ↓yQ, ↓zf, ↓xQ, ↓rQ, ↓wf, ↓xG, ↓Az, ↓vt, ↓zK, ↓BN, ↓BR, ↓AL, ↓dSS, ↓Dd, ↓DQ, ↓Cr, ↓Ck, ↓Cz, ↓Ct, ↓uE, ↓Cf, ↓Ev, ↓vi, ↓nV, ↓dSeq, ↓dIf, ↓kIf, ↓dRet, ↓dSet, ↓dV, ↓dC, ↓dOp, ↓dUn, ↓dTst, ↓dAnd, ↓dOr, ↓dNot, ↓Ez, ↓dOrV, ↓Cw, ↓dIfE, ↓y6, ↓Ca, ↓sQ, ↓kD, ↓kN, ↓kO, ↓kI, ↓dTup, ↓dLst, ↓dPar, ↓EJ, ↓vk, ↓Ei, ↓dAsg, ↓eT, ↓AI, ↓ux, ↓jS, ↓A9, ↓Es, ↓wL, ↓wy, ↓dSl, ↓vp, ↓Eh, ↓dIsi, ↓CC, ↓Fj, ↓E7, ↓At, ↓Bi, ↓Dq, ↓zw, ↓xC, ↓Ci, ↓um, ↓vL, ↓xm, ↓zB, ↓xM, ↓wu, ↓Ai, ↓Ax, ↓zu, ↓DY, ↓Ac, ↓BF, ↓C6, ↓v9, ↓AS, ↓wA, ↓wx, ↓Dv, ↓w5, ↓Al, ↓Aw, ↓o6, ↓oX, ↓DV, ↓rO, ↓sK, ↓BI, ↓D8, ↓De, ↓D0, ↓qWL, ↓qWD, ↓qWe, ↓wn, ↓Ar, ↓iK, ↓oS, ↓wd_e, ↓qB_e, ↓qI_e, ↓qX_e, ↓qT_e, ↓qL_e, ↓qY_l, ↓qY_t, ↓qG_e, ↓qF_e, ↓qZ_d, ↓qZ_f, ↓qV_e, ↓qN_e, ↓qC_e, ↓yN, ↓yE, ↓q9_0, ↓q9_1, ↓q9_2, ↓q9_3, ↓q9_4, ↓qW_s, ↓qW_z, ↓qD_s, ↓qD_z, ↓yU, ↓yo, ↓FM, ↓FG, ↓F8, ↓Fs, ↓qS_t, ↓qS_f, ↓Fv, ↓FT, ↓Fx, ↓F4, ↓Cg, ↓Em, ↓E5, ↓EK, ↓EB, ↓qD_e, ↓qW_e, ↓D1, ↓Cy, ↓sN, ↓uN, ↓rN, ↓sB, ↓sD, ↓r8, ↓u6, ↓sj, ↓vN, ↓nJ, ↓sP, ↓nM, ↓oJ, ↓oP, ↓pe, ↓sH, ↓oR, ↓sE, ↓mn, ↓nG, ↓lX, ↓ni, ↓mF, ↓m5, ↓ny, ↓m9, ↓oK, ↓nv, ↓sr, ↓nL, ↓oG, ↓oq, ↓nZ, ↓rR, ↓nD, ↓rK, ↓List.map_cons, ↓List.map_nil, ↓List.cons_append, ↓List.nil_append, ↓List.replicate, FD, D.exn.injEq, BP, zX, ne_eq, List.cons_ne_nil, Sl.own.injEq, exists_const, exists_eq, D.lst.injEq, D.dct.injEq, D.str.injEq, List.length_cons, List.length_nil, List.append_nil, List.getElem?_cons_zero, List.getElem?_cons_succ, List.set_cons_zero, List.set_cons_succ, Option.some.injEq, Sl.dat.injEq, D.int.injEq, D.bl.injEq, D.tup.injEq, List.cons.injEq, and_assoc, and_true, true_and, exists_eq_left', exists_eq_left, exists_eq_right', exists_and_left, Nat.zero_add, Nat.reduceAdd, Nat.reduceSub, Nat.add_zero, Nat.reduceLeDiff, Nat.sub_self, at0, at1, at2, atm1, if_true, if_false, ite_true, ite_false, Int.reduceEq, Int.reduceLT, Nat.cast_ofNat_Int, not_true_eq_false, not_false_eq_true, Bool.false_eq_true, reduceCtorEq, Bool.not_false, Bool.not_true, List.forall_mem_cons, List.mem_cons, List.not_mem_nil, forall_const, false_implies, implies_true, Nat.reduceLT, if_pos, List.filterMap_cons, List.filterMap_nil, decide_eq_true_eq, Bool.not_eq_true', decide_eq_false_iff_not]))
theorem mo2{x y:Int}{m n:Nat}(h1:Builtin.Int.intBits x<=m)(h2:Builtin.Int.intBits y<=n)(h:m+n<=134217728:=by decide):IntMulOk x y:=IntMulOk.of_le h1 h2 h
theorem rS{b:Int}{n:Nat}(h:Builtin.Int.intBits b<=n)(hn:n<=8000):b.natAbs.log2<9000:=by
 have h1:=intBits_le_iff.mp h
 rcases Nat.eq_zero_or_pos b.natAbs with h0 | hp
 ·rw[h0];decide
 ·have h2:b.natAbs.log2<n:=(Nat.log2_lt (IY hp)).mpr h1
  omega
inductive dG(ds:List D)(R:D->Prop):Prop
 | mk (a b:_) (hh:ds=[.int a,.int b]/\R (.int (gc a b)))
def eI:∀ds R,dG ds R->ds.length=2:=λ_ _ ⟨_,_,e,_⟩=>by rw[e];rfl
theorem bA:aw ["one","other","rest"] ["one","other"] (am s_common_divisor):=by walk_at "sc"
theorem cS(Z:Zz):Z.C 1 "common_divisor" ["one","other"] (Gx Z.K dG):=by
 refine cw Z.x0 bA eI λfa cdv A outer s H E ds R hr h=>?_;have hU:=hr.units;refine⟨_,(ad (pP Hl (aE (fS hU) (ak 1) ar (av _)) (ad (aA 2 bA.nd (aD gh (ak 0) (ak 1))) (ad (aA 0 bA.nd (ak 1)) (af (aA 1 bA.nd (ak 2)))))) (af (au (aM DI rfl Z.x52 DU (ac (ak 0) ae))))),?_⟩;obtain⟨x,y,rfl,q⟩:=h;refine⟨λδ=>∃a b t,δ=[.dat (.int a),.dat (.int b),t]/\gc a b=gc x y,λδ=>match δ with | [_,.dat (.int b),_]=>b.natAbs | _=>0,⟨x,y,.no,rfl,rfl⟩,?_⟩;rintro δ ⟨a,b,t,rfl,e⟩;walk_at "rd";refine dQ (λc=>⟨c,(uy a b).trans e,eM a b c⟩) (λc=>?_);have c:=Jk.mp c;subst c;rw[<- uH,e];exact q
theorem BZ{t b:Int}{n:Nat}(hb:b≠0)(h:Builtin.Int.intBits b<=n):Builtin.Int.intBits (dv t b)<=n:=by
 refine intBits_le_of_natAbs ?_ h;rw[nk];exact Int.gcd_le_natAbs_right t hb
inductive zq(ds:List D)(R:D->Prop):Prop
 | mk (t b:_) (hh:ds=[.int t,.int b]/\b≠0/\Builtin.Int.intBits b<=8000/\R (.tup [.int (GN t b),.int (GG t b)]))
def sC:∀ds R,zq ds R->ds.length=2:=λ_ _ ⟨_,_,e,_⟩=>by rw[e];rfl
theorem nW:aw ["top","bottom","divisor"] ["top","bottom"] (am s_made):=by walk_at "sc"
theorem fN(Z:Zz):Z.C 2 "made" ["top","bottom"] (Gx Z.K zq):=by
 refine cw Z.x1 nW sC λfa cdv A outer s H E ds R hr h=>?_;have hU:=hr.units;refine⟨_,(ad (aN (aE (cX hU) (ak 1) ar (av _)) jg aB) (ad (aA 2 nW.nd (aq (cS Z) (rm hr) rfl (ac (ak 0) (ac (ak 1) ae)))) (ad (aN (aE yj (ak 1) ar (av _)) (af (aA 2 nW.nd (wW wZ (ak 2)))) aB) (af (au (aJ (ac (aD ee (ak 0) (ak 2)) (ac (aD ee (ak 1) (ak 2)) ae)))))))),?_⟩;obtain⟨x,y,rfl,hy,hb,q⟩:=h;walk_at "rd";rw[He hy];refine⟨x,y,rfl,?_⟩;walk_at "rd";have hd:=D6 x hy;have hl:=rS (BZ (t:=x) hy hb) (G3 _);unfold GN GG at q;unfold dv at hd hl q;refine dQ (λc=>?_) (λc=>?_)
 ·simp only[if_pos c] at hd hl q;exact⟨⟨hd,hl⟩,⟨hd,hl⟩,q⟩
 ·simp only[if_neg c] at hd hl q;exact⟨⟨hd,hl⟩,⟨hd,hl⟩,q⟩
inductive zk(ds:List D)(R:D->Prop):Prop
 | mk (p q:Int×Int) (hh:ds=[GJ p,GJ q]/\p.2*q.2≠0/\ib p.1<=1000000/\ib q.1<=1000000/\ib p.2<=4000/\ib q.2<=4000/\R (GJ (GN (p.1*q.2+q.1*p.2) (p.2*q.2),GG (p.1*q.2+q.1*p.2) (p.2*q.2))))
def rL:∀ds R,zk ds R->ds.length=2:=λ_ _ ⟨_,_,e,_⟩=>by rw[e];rfl
theorem zM:aw ["one","other"] ["one","other"] (am s_plus):=by walk_at "sc"
theorem wT(Z:Zz):Z.C 3 "plus" ["one","other"] (Gx Z.K zk):=by
 refine cw Z.x2 zM rL λfa cdv A outer s H E ds R hr h=>?_;have hU:=hr.units;refine⟨_,(af (au (aq (fN Z) (rm hr) rfl (ac (aD aR (aD bu (GF 0) (GF 1)) (aD bu (GF 1) (GF 0))) (ac (aD bu (GF 0) (GF 1)) ae))))),?_⟩;obtain⟨p,q,rfl,nz,b1,b2,b3,b4,k⟩:=h;unfold GJ at k ⊢;walk_at "rd";exact⟨mo2 b1 b4,mo2 b2 b3,mo2 b3 b4,_,_,rfl,nz,G0 (Hw b3 b4) (by decide),k⟩
inductive vy(ds:List D)(R:D->Prop):Prop
 | mk (p q:Int×Int) (hh:ds=[GJ p,GJ q]/\p.2*q.2≠0/\ib p.1<=2000000/\ib q.1<=1000000/\ib p.2<=7990/\ib q.2<=10/\R (GJ (GN (p.1*q.1) (p.2*q.2),GG (p.1*q.1) (p.2*q.2))))
def oA:∀ds R,vy ds R->ds.length=2:=λ_ _ ⟨_,_,e,_⟩=>by rw[e];rfl
theorem wO:aw ["one","other"] ["one","other"] (am s_times):=by walk_at "sc"
theorem uF(Z:Zz):Z.C 3 "times" ["one","other"] (Gx Z.K vy):=by
 refine cw Z.x3 wO oA λfa cdv A outer s H E ds R hr h=>?_;have hU:=hr.units;refine⟨_,(af (au (aq (fN Z) (rm hr) rfl (ac (aD bu (GF 0) (GF 1)) (ac (aD bu (GF 0) (GF 1)) ae))))),?_⟩;obtain⟨p,q,rfl,nz,b1,b2,b3,b4,k⟩:=h;unfold GJ at k ⊢;walk_at "rd";exact⟨mo2 b1 b2,mo2 b3 b4,_,_,rfl,nz,G0 (Hw b3 b4) (by decide),k⟩
inductive ym(ds:List D)(R:D->Prop):Prop
 | mk (p q:Int×Int) (hh:ds=[GJ p,GJ q]/\ib p.1<=2000000/\ib q.1<=2000000/\ib p.2<=8000/\ib q.2<=8000/\R (.bl (decide (p.1*q.2<q.1*p.2))))
def sO:∀ds R,ym ds R->ds.length=2:=λ_ _ ⟨_,_,e,_⟩=>by rw[e];rfl
theorem zL:aw ["one","other"] ["one","other"] (am s_less):=by walk_at "sc"
theorem pC(Z:Zz):Z.C 1 "less" ["one","other"] (Gx Z.K ym):=by
 refine cw Z.x4 zL sO λfa cdv A outer s H E ds R hr h=>?_;have hU:=hr.units;refine⟨_,(af (au (bU yj (aD bu (GF 0) (GF 1)) (aD bu (GF 1) (GF 0)) (av _)))),?_⟩;obtain⟨p,q,rfl,b1,b2,b3,b4,k⟩:=h;unfold GJ;walk_at "rd";exact⟨mo2 b1 b4,mo2 b2 b3,k⟩
inductive GL where
 | row (k:Kd) (ts:List (Str×Int)) (b:Int)
 | nt (s:GL)
 | bo (s t:GL)
 | ei (s t:GL)
def GL.D:GL->D
 | .row k ts b=>ie k ts b
 | .nt s=>.tup [.str "not",s.D]
 | .bo s t=>.tup [.str "both",s.D,t.D]
 | .ei s t=>.tup [.str "either",s.D,t.D]
def GL.dep:GL->Nat
 | .row _ _ _=>1
 | .nt s=>s.dep+1
 | .bo s t=>max s.dep t.dep+1
 | .ei s t=>max s.dep t.dep+1
def GL.nms:GL->List Str
 | .row _ ts _=>ts.map (·.1)
 | .nt s=>s.nms
 | .bo s t=>s.nms++t.nms
 | .ei s t=>s.nms++t.nms
def GL.ok(names:List Str):GL->Prop
 | .row _ ts b=>jP names ts/\Builtin.Int.intBits b<=10000
 | .nt s=>s.ok names
 | .bo s t=>s.ok names/\t.ok names
 | .ei s t=>s.ok names/\t.ok names
def GL.dep_pos:∀s:GL,0<s.dep
 | .row _ _ _=>Nat.one_pos
 | .nt s=>J7 _
 | .bo s t=>J7 _
 | .ei s t=>J7 _
def GL.nms_sub:∀ {s:GL},s.ok names->∀n∈s.nms,n∈names
 | .row _ ts _,h,n,hn=>h.1.sub.subset hn
 | .nt s,h,n,hn=>GL.nms_sub (s:=s) h n hn
 | .bo s t,h,n,hn=>(Hb.mp hn).elim (GL.nms_sub h.1 n) (GL.nms_sub h.2 n)
 | .ei s t,h,n,hn=>(Hb.mp hn).elim (GL.nms_sub h.1 n) (GL.nms_sub h.2 n)
def GL.isRow:GL->Bool
 | .row _ _ _=>true
 | _=>false
inductive qQ(ds:List D)(R:D->Prop):Prop
 | mk (s:GL) (hh:ds=[s.D]/\R (.bl s.isRow))
def mU:∀ds R,qQ ds R->ds.length=1:=λ_ _ ⟨_,e,_⟩=>by rw[e];rfl
theorem uh:aw ["saying"] ["saying"] (am s_is_row):=by walk_at "sc"
theorem eE(Z:Zz):Z.C 1 "is_row" ["saying"] (Gx Z.K qQ):=by
 refine cw Z.x5 uh mU λfa cdv A outer s H E ds R hr h=>?_;have hU:=hr.units;refine⟨_,(af (au (sn (bU (cX hU) (GF 0) ay (av _)) (cF (bU (cX hU) (GF 0) ay (av _)))))),?_⟩;obtain⟨s,rfl,q⟩:=h;walk_at "rd"
 cases s with
 | row k ts b =>
  cases k
  ·unfold GL.D ie kdS;walk_at "rd";exact q
  ·unfold GL.D ie kdS;walk_at "rd";exact GH (by decide) q
 | nt s=>unfold GL.D;walk_at "rd";exact GH (by decide) q
 | bo s t=>unfold GL.D;walk_at "rd";exact GH (by decide) q
 | ei s t=>unfold GL.D;walk_at "rd";exact GH (by decide) q
def cy(ks:List Str)(l:List Str):List Str:=l.foldl jN ks
def j3(n:Nat):List D:=List.replicate n (.bl true)
theorem xL{x y:Str}:y∈jN ks x↔y∈ks\/y=x:=by
 unfold jN
 by_cases e:x∈ks
 ·rw[Hh e];exact⟨.inl,λh=>h.elim id λz=>z ▸ e⟩
 ·rw[He e,Hb,G9]
def fF:∀ {l ks:List Str},ks.Nodup->(cy ks l).Nodup
 | [],_,h=>h
 | _::l,_,h=>fF (l:=l) (oQ h)
theorem dg:∀ {l ks:List Str} {y:Str},y∈cy ks l↔y∈ks\/y∈l
 | [],ks,y=>by show y∈ks↔_;simp
 | x::l,ks,y=>by
  show y∈cy (jN ks x) l↔_
  rw[dg,xL,G7,or_assoc]
def fP{r:List Str}:cy ks (l++r)=cy (cy ks l) r:=List.foldl_append ..
theorem lV:∀(ks:List Str) (n:Nat) (x:Str),nr ks (j3 n) x (D.bl true)=j3 n
 | [],n,x=>by cases n<;>rfl
 | k::ks,0,x=>rfl
 | k::ks,n+1,x=>by
  show (if k=x then D.bl true else D.bl true)::nr ks (j3 n) x (D.bl true)=D.bl true::j3 n
  rw[lV ks n x];split<;>rfl
theorem uA{x:Str}:lU ks (j3 ks.length) x (D.bl true)=j3 (jN ks x).length:=by
 unfold lU jN
 by_cases e:x∈ks
 ·rw[Hh e,Hh e,lV]
 ·rw[He e,He e,G8];show List.replicate _ _++List.replicate 1 _=List.replicate _ _;rw[List.replicate_append_replicate];rfl
def GL.subs:GL->List GL
 | .row _ _ _=>[]
 | .nt s=>[s]
 | .bo s t=>[s,t]
 | .ei s t=>[s,t]
theorem GL.subs_dep{s u:GL}(h:u∈s.subs):u.dep<s.dep:=by
 cases s with
 | row k ts b=>cases h
 | nt s=>rw[G9.mp h];exact JU _
 | bo s t =>
  have h:u∈[s,t]:=h
  simp only[List.mem_cons,List.not_mem_nil,or_false] at h;show u.dep<max s.dep t.dep+1
  rcases h with rfl | rfl<;>omega
 | ei s t =>
  have h:u∈[s,t]:=h
  simp only[List.mem_cons,List.not_mem_nil,or_false] at h;show u.dep<max s.dep t.dep+1
  rcases h with rfl | rfl<;>omega
theorem GL.subs_ok{s u:GL}(h:u∈s.subs)(o:s.ok names):u.ok names:=by
 cases s with
 | row k ts b=>cases h
 | nt s=>rw[G9.mp h];exact o
 | bo s t =>
  have h:u∈[s,t]:=h
  simp only[List.mem_cons,List.not_mem_nil,or_false] at h
  rcases h with rfl | rfl
  ·exact o.1
  ·exact o.2
 | ei s t =>
  have h:u∈[s,t]:=h
  simp only[List.mem_cons,List.not_mem_nil,or_false] at h
  rcases h with rfl | rfl
  ·exact o.1
  ·exact o.2
def GL.word:GL->Str
 | .row k _ _=>kdS k
 | .nt _=>"not"
 | .bo _ _=>"both"
 | .ei _ _=>"either"
theorem GL.D_subs{s:GL}(h:s.isRow=false):s.D=.tup (.str s.word::s.subs.map GL.D):=by
 cases s with
 | row=>cases h
 | nt=>rfl
 | bo=>rfl
 | ei=>rfl
theorem GL.nms_subs{s:GL}(h:s.isRow=false):s.nms=s.subs.flatMap GL.nms:=by
 cases s with
 | row=>cases h
 | nt s=>show s.nms=s.nms++[];rw[HJ]
 | bo s t=>show s.nms++t.nms=s.nms++(t.nms++[]);rw[HJ]
 | ei s t=>show s.nms++t.nms=s.nms++(t.nms++[]);rw[HJ]
theorem xz{α:Type}{x:α}{xs:List α}:cut (x::xs) (some 1) none=xs:=by
 unfold cut;have e1:HT.sIx (x::xs).length 0 (some 1)=1:=by
  have:=HT.sIx_nat (x::xs).length 0 1
  rw[Ha] at this ⊢;rw[show (some (1:Int))=some ((1:Nat):Int) from rfl,this];omega
 rw[e1,HT.sIx_none,Ha,List.drop_one,List.tail_cons,Nat.add_sub_cancel,Ho]
inductive bP(n:Nat)(d:D)(ds:List D)(R:D->D->Prop):Prop
 | mk (names s ks:_) (hh:ds=[GL.D s]/\s.dep<=n/\s.ok names/\names.length<=100/\ks.Nodup/\(∀k∈ks,k∈names)/\d=.dct ks (j3 ks.length)/\R .non (.dct (cy ks s.nms) (j3 (cy ks s.nms).length)))
def iB(n:Nat):∀d ds R,bP n d ds R->ds.length=1:=λ_ _ _ ⟨_,_,_,e,_⟩=>by rw[e];rfl
def gu:∀d ds R,¬ bP 0 d ds R:=λ_ _ _ ⟨_,s,_,_,h,_⟩=>by have:=s.dep_pos;omega
theorem cA:aw ["saying","found","name","weight","part"] ["saying","found"] (am s_mark_names):=by walk_at "sc"
theorem iW(Z:Zz){n:Nat}(mX:Z.C (2+n) "mark_names" ["saying","found"] (wa Z.K (bP n))):Z.C (2+n+1) "mark_names" ["saying","found"] (wa Z.K (bP (n+1))):=by
 refine FQ (k:=2+n) Z.x6 cA rfl (iB (n+1)) λfa cdv A outer s H E oa d0 d R hr h=>?_;have hU:=hr.units;refine⟨_,(ad (aN (bJ (aq (eE Z) (hr.mono (by omega)) rfl (ac (ak 0) ae))) (ad (gF Hl rfl (GF 0) (bH (n:=2) rfl (ax (ap 2 cA.nd) (ax (ap 3 cA.nd) aS))) (af (gG 1 hU dh (ak 2)))) (af Bg)) aB) (af (gF Hl rfl (y9 (ak 0) (uf ar) uR) (ap 4 cA.nd) (af (tF (mO 1 mX (hr.mono (by omega)) rfl (ak 4))))))),?_⟩;obtain⟨names,s,ks,e,hd,ok,hl,nd,sub,rfl,q⟩:=h
 cases e
 walk_at "rd";refine⟨s,rfl,?_⟩;walk_at "rd"
 cases hrow:s.isRow with
 | true =>
  cases s with
  | row k ts b =>
   refine ifp rfl ?_;walk_at "rd";simp only[oC];unfold GL.D ie;walk_at "rd";have tsub:∀t∈ts,t.1∈names:=λt h=>ok.1.sub.subset (GZ.mpr ⟨t,h,rfl⟩);have sub2:∀i,∀x∈cy ks ((ts.take i).map (·.1)),x∈names:=λi x hx=>(dg.mp hx).elim (sub x) λh=>by
    obtain⟨t,h1,rfl⟩:=GZ.mp h;exact tsub t (IK h1)
   refine⟨λi δ=>∃x y z,δ=[.dat (.tup [.str (kdS k),.tup (ts.map GQ),.int b]),.own oa (.dct (cy ks ((ts.take i).map (·.1))) (j3 (cy ks ((ts.take i).map (·.1))).length)),x,y,z],⟨_,_,_,rfl⟩,?_,?_⟩
   ·rintro i d δ hd ⟨x,y,z,rfl⟩;obtain⟨t,hn,rfl⟩:=c6 hd;walk_at "rd";have l1:=dM (fF (l:=(ts.take i).map (·.1)) nd) (sub2 i);refine⟨by omega,?_⟩;rw[uA,aG hn,Hj,fP];exact⟨rfl,rfl⟩
   ·rintro δ ⟨x,y,z,rfl⟩;rw[GW,Ho];exact⟨_,rfl,q⟩
  | nt s=>cases hrow
  | bo s t=>cases hrow
  | ei s t=>cases hrow
 | false =>
  refine GH G4 ?_;walk_at "rd";simp only[oC];rw[GL.D_subs hrow];walk_at "rd";refine⟨λ⟨h,_⟩=>?_,?_⟩
  ·rw[show (some (1:Int))=some ((1:Nat):Int) from rfl,HT.sIx_nat] at h;omega
  rw[xz];have sub2:∀i,∀x∈cy ks ((s.subs.take i).flatMap GL.nms),x∈names:=λi x hx=>(dg.mp hx).elim (sub x) λh=>by
   obtain⟨u,h1,h2⟩:=IF.mp h;exact GL.nms_sub (GL.subs_ok (IK h1) ok) x h2
  refine⟨λi δ=>∃x y z,δ=[.dat (.tup (.str s.word::s.subs.map GL.D)),.own oa (.dct (cy ks ((s.subs.take i).flatMap GL.nms)) (j3 (cy ks ((s.subs.take i).flatMap GL.nms)).length)),x,y,z],⟨_,_,_,rfl⟩,?_,?_⟩
  ·rintro i d δ hd2 ⟨x,y,z,rfl⟩;rw[List.getElem?_map] at hd2
   cases hu:s.subs[i]? with
   | none=>rw[hu] at hd2;cases hd2
   | some u =>
    rw[hu] at hd2
    cases hd2
    have hm:=Hc hu
    have dp:=GL.subs_dep hm
    walk_at "rd";refine⟨names,u,_,rfl,by omega,GL.subs_ok hm ok,hl,fF nd,sub2 i,rfl,?_⟩;walk_at "rd";rw[aG hu,IA,IT,fP];exact⟨rfl,rfl⟩
  ·rintro δ ⟨x,y,z,rfl⟩;rw[GW,Ho,<- GL.nms_subs hrow];exact⟨_,rfl,q⟩
def jW(Z:Zz):Z.C 62 "mark_names" ["saying","found"] (wa Z.K (bP 60)):=Nat.rec (motive:=λn=>Z.C (2+n) "mark_names" ["saying","found"] (wa Z.K (bP n))) (vR Z.x6 _ gu) (λ_=>iW Z) 60
inductive ki(ds:List D)(R:D->Prop):Prop
 | mk (names s:_) (hh:ds=[GL.D s]/\s.dep<=60/\s.ok names/\names.length<=60/\∀ss:List Str,ss.Nodup->(∀x,x∈ss↔x∈s.nms)->Srt ss->R (.lst (ss.map D.str)))
def j9:∀ds R,ki ds R->ds.length=1:=λ_ _ ⟨_,_,e,_⟩=>by rw[e];rfl
theorem jn:aw ["saying","found"] ["saying"] (am s_names_of):=by walk_at "sc"
theorem gS(Z:Zz):Z.C 63 "names_of" ["saying"] (Gx Z.K ki):=by
 refine cw Z.x7 jn j9 λfa cdv A outer s H E ds R hr h=>?_;have hU:=hr.units;refine⟨_,(ad (lN 1 jn.nd) (ad (tF (mO 1 (jW Z) (rm hr) rfl (ak 0))) (ci 1 (af (au (aM (fQ rfl) rfl Z.x53 eB (ac (ak 1) ae))))))),?_⟩;obtain⟨names,s,rfl,hd,ok,hl,q⟩:=h;walk_at "rd";intro a;refine⟨names,s,[],rfl,hd,ok,by omega,Jn,λk h=>(nomatch h),rfl,?_⟩;walk_at "rd";have nd:(cy [] s.nms).Nodup:=fF Jn;have sub:∀x∈cy [] s.nms,x∈names:=λx hx=>(dg.mp hx).elim (λh=>(nomatch h)) (GL.nms_sub ok x);refine⟨by have:=dM nd sub;omega,λss hp hs=>q ss (hp.nodup_iff.mpr nd) (λx=>?_) hs⟩;rw[hp.mem_iff,dg];simp
inductive mI(ds:List D)(R:D->Prop):Prop
 | mk (names ks ps T κ:_) (hh:ds=[.lst (names.map D.str),.dct ks (ps.map GJ)]/\names.Nodup/\names.length<=60/\(∀n∈names,n∈ks)/\Pt ks ps T/\T<=1000000/\ib (Gs (pB ks ps) ks)<=κ/\κ<=7990 /\
 R (.tup [.dct names (names.map λn=>.int (ov (pT ks ps) (pB ks ps) (Gs (pB ks ps) names) n)),.int (Gs (pB ks ps) names)]))
def lJ:∀ds R,mI ds R->ds.length=2:=λ_ _ ⟨_,_,_,_,_,e,_⟩=>by rw[e];rfl
def mR{κ:Nat}(nd:l.Nodup)(h:∀n∈l,n∈ks)(hp:∀n∈ks,0<q n)(hb:ib (Gs q ks)<=κ):ib (Gs q l)<=κ:=eD (oN nd h) (by have:=cG hp;omega) hb
theorem ce:aw ["names","point","bottom","name","tops","value"] ["names","point"] (am s_tops_of):=by walk_at "sc"
theorem jd(Z:Zz):Z.C 1 "tops_of" ["names","point"] (Gx Z.K mI):=by
 refine cw Z.x8 ce lJ λfa cdv A outer s H E ds R hr h=>?_;have hU:=hr.units;refine⟨_,(ad (aA 2 ce.nd ar) (ad (cx Hl rfl (ak 0) (ap 3 ce.nd) (ad (aN (aE (zA hU) (ak 3) (ak 1) rfl) jg aB) (af (aA 2 ce.nd (aD bu (ak 2) (gM gz (cT hU (ak 1) (ak 3) (λ_ _=>rfl)) ar (λ_ _=>rfl))))))) (ad (lN 4 ce.nd) (ad (cx Hl rfl (ak 0) (ap 3 ce.nd) (ad (aA 5 ce.nd (cT hU (ak 1) (ak 3) (λ_ _=>rfl))) (af (gG 4 hU (aD bu (GF 5) (aD ee (ak 2) (GF 5))) (ak 3))))) (ci 4 (af (au (aJ (ac (ak 4) (ac (ak 2) ae)))))))))),?_⟩;obtain⟨names,ks,ps,T,κ,rfl,nd,hl,hin,hp,hT,hb,hκ,q⟩:=h;have pos:∀n∈ks,0<pB ks ps n:=λn hn=>hp.pos hn;have bb:ib (Gs (pB ks ps) names)<=κ:=mR nd hin pos hb;have bt:∀i,ib (Gs (pB ks ps) (names.take i))<=κ:=λi=>mR (nd.sublist (List.take_sublist ..)) (λn hn=>hin n (IK hn)) pos hb;have b1:∀n∈ks,ib (pB ks ps n)<=κ:=λn hn=>eD (dO hn) (by have:=cG pos;omega) hb;walk_at "rd";simp only[se];walk_at "rd";refine⟨λi δ=>∃x y z,δ=[.dat (.lst (names.map D.str)),.dat (.dct ks (ps.map GJ)),.dat (.int (Gs (pB ks ps) (names.take i))),x,y,z],⟨_,_,_,rfl⟩,?_,?_⟩
 ·rintro i d δ hd ⟨x,y,z,rfl⟩;obtain⟨n,hn,rfl⟩:=jl hd;have hk:=hin n (tw hn);walk_at "rd";refine GH (λz=>z hk) ?_;refine⟨_,hp.D hk,?_⟩;walk_at "rd";refine⟨mo2 (bt i) (b1 n hk) (by omega),?_⟩;rw[aG hn,gq,oE]
 ·rintro δ ⟨x,y,z,rfl⟩;intro a;rw[GW,Ho];walk_at "rd";simp only[se];walk_at "rd";refine⟨λi δ=>∃x z,δ=[.dat (.lst (names.map D.str)),.dat (.dct ks (ps.map GJ)),.dat (.int (Gs (pB ks ps) names)),x,.own a (.dct (names.take i) ((names.take i).map λn=>.int (ov (pT ks ps) (pB ks ps) (Gs (pB ks ps) names) n))),z],⟨_,_,rfl⟩,?_,?_⟩
  ·rintro i d δ hd ⟨x,z,rfl⟩;obtain⟨n,hn,rfl⟩:=jl hd;have hk:=hin n (tw hn);have hnt:=wJ nd hn;walk_at "rd";refine⟨_,hp.D hk,?_⟩;walk_at "rd";have qn:pB ks ps n≠0:=by have:=hp.pos hk;omega
   refine⟨⟨qn,rS (b1 n hk) (by omega)⟩,mo2 (hp.Tb hk) (HW bb) (by omega),?_⟩;refine⟨by rw[HI];omega,?_⟩;rw[p9 hnt,p8 hnt,aG hn,Hj];exact⟨rfl,rfl⟩
  ·rintro δ ⟨x,z,rfl⟩;rw[GW,Ho];walk_at "rd";exact q
inductive gT(ds:List D)(R:D->Prop):Prop
 | mk (k:Bool) (ts:List (Str×Int)) (ks:List Str) (vs:List D) (f:Str->Int) (hh:ds=[sq k (ts.map GQ),.dct ks vs]/\(∀t∈ts,dAt ks vs t.1=some (.int (f t.1))/\ib t.2<=60000/\ib (f t.1)<=2000000)/\R (.int (cI f ts)))
def iw:∀ds R,gT ds R->ds.length=2:=λ_ _ ⟨_,_,_,_,_,e,_⟩=>by rw[e];rfl
theorem b7:aw ["terms","tops","top","name","weight"] ["terms","tops"] (am s_top_of_sum):=by walk_at "sc"
theorem eQ(Z:Zz):Z.C 1 "top_of_sum" ["terms","tops"] (Gx Z.K gT):=by
 refine cw Z.x9 b7 iw λfa cdv A outer s H E ds R hr h=>?_;have hU:=hr.units;refine⟨_,(ad (aA 2 b7.nd ar) (ad (fY Hl rfl (E4 (ak 0)) (bH (n:=2) rfl (ax (ap 3 b7.nd) (ax (ap 4 b7.nd) aS))) (af (aA 2 b7.nd (aD aR (ak 2) (aD bu (ak 4) (cT hU (ak 1) (ak 3) (λ_ _=>rfl))))))) (af (au (ak 2))))),?_⟩;obtain⟨k,ts,ks,vs,f,rfl,ht,q⟩:=h;walk_at "rd";refine dA λF N hF hN=>?_;walk_at "rd";simp only[kc];walk_at "rd";refine⟨λi δ=>∃x y,δ=[.dat (sq k (ts.map GQ)),.dat (.dct ks vs),.dat (.int (cI f (ts.take i))),x,y],⟨_,_,rfl⟩,?_,?_⟩
 ·rintro i d δ hd ⟨x,y,rfl⟩;obtain⟨t,hn,rfl⟩:=c6 hd;obtain⟨h1,h2,h3⟩:=ht t (Hc hn);rw[hF];walk_at "rd";refine⟨_,h1,?_⟩;walk_at "rd";refine⟨mo2 h2 h3,?_⟩;rw[aG hn,jm,rG]
 ·rintro δ ⟨x,y,rfl⟩;rw[GW,Ho,hN];walk_at "rd";exact q
def oZ(k:Kd)(s b:Int):Bool:=match k with
 | .least=>decide (b<=s)
 | .more=>decide (b<s)
def GL.so(f:Str->Int)(B:Int):GL->Bool
 | .row k ts b=>oZ k (cI f ts) (b*B)
 | .nt s=>!s.so f B
 | .bo s t=>s.so f B&&t.so f B
 | .ei s t=>s.so f B||t.so f B
def sM(p q:Str->Int)(k:Kd)(ts:List (Str×Int))(b:Int):Bool:=oZ k (cI (ov p q (Gs q (ts.map (·.1)))) ts) (b*Gs q (ts.map (·.1)))
def GL.tv(p q:Str->Int):GL->Bool
 | .row k ts b=>sM p q k ts b
 | .nt s=>!s.tv p q
 | .bo s t=>s.tv p q&&t.tv p q
 | .ei s t=>s.tv p q||t.tv p q
theorem Da{p:Str->Int}{B:Int}{k:Kd}{b:Int}(hB:0<B)(h:∀t∈ts,0<q t.1/\q t.1 ∣ B):oZ k (cI (ov p q B) ts) (b*B)=sM p q k ts b:=by
 have hC:0<Gs q (ts.map (·.1)):=cG λn hn=>by
  obtain⟨t,h1,rfl⟩:=GZ.mp hn;exact(h t h1).1
 have e:=vV (p:=p) (q:=q) (B:=B) (C:=Gs q (ts.map (·.1))) (ts:=ts) λt h1=>⟨by have:=(h t h1).1;omega,(h t h1).2,dO (GZ.mpr ⟨t,h1,rfl⟩)⟩
 unfold sM
 cases k with
 | least=>exact decide_eq_decide.mpr (xT (a:=0) hB hC e)
 | more=>exact decide_eq_decide.mpr (xW hB hC e)
def GL.so_tv{p:Str->Int}{B:Int}(hB:0<B):∀ {s:GL},(∀n∈s.nms,0<q n/\q n ∣ B)->s.so (ov p q B) B=s.tv p q
 | .row k ts b,h=>Da hB λt h1=>h t.1 (GZ.mpr ⟨t,h1,rfl⟩)
 | .nt s,h=>by show (!s.so _ _)=!s.tv p q;rw[GL.so_tv (s:=s) hB h]
 | .bo s t,h=>by
  show (s.so _ _&&t.so _ _)=(s.tv p q&&t.tv p q)
  rw[GL.so_tv (s:=s) hB λn hn=>h n (Hf _ hn),GL.so_tv (s:=t) hB λn hn=>h n (G6 _ hn)]
 | .ei s t,h=>by
  show (s.so _ _||t.so _ _)=(s.tv p q||t.tv p q)
  rw[GL.so_tv (s:=s) hB λn hn=>h n (Hf _ hn),GL.so_tv (s:=t) hB λn hn=>h n (G6 _ hn)]
inductive iV(ds:List D)(R:D->Prop):Prop
 | mk (k:Kd) (ts:List (Str×Int)) (b:Int) (ks:List Str) (vs:List D) (f:Str->Int) (B:Int) (hh:ds=[ie k ts b,.dct ks vs,.int B]/\(∀t∈ts,dAt ks vs t.1=some (.int (f t.1))/\ib t.2<=60000/\ib (f t.1)<=2000000)/\ib b<=60000/\ib B<=8000/\R (.bl (oZ k (cI f ts) (b*B))))
def i8:∀ds R,iV ds R->ds.length=3:=λ_ _ ⟨_,_,_,_,_,_,_,e,_⟩=>by rw[e];rfl
theorem d4:aw ["row","tops","bottom","top","bound"] ["row","tops","bottom"] (am s_row_is_so):=by walk_at "sc"
theorem lj(Z:Zz):Z.C 2 "row_is_so" ["row","tops","bottom"] (Gx Z.K iV):=by
 refine cw Z.x10 d4 i8 λfa cdv A outer s H E ds R hr h=>?_;have hU:=hr.units;refine⟨_,(ad (aA 3 d4.nd (aq (eQ Z) (rm hr) rfl (ac (GF 0) (ac (ak 1) ae)))) (ad (aA 4 d4.nd (aD bu (GF 0) (ak 2))) (ad (aN (aE (cX hU) (GF 0) ay (av _)) (af (au (bU o_ge (ak 3) (ak 4) (av _)))) aB) (af (au (bU uD (ak 3) (ak 4) (av _))))))),?_⟩;obtain⟨k,ts,b,ks,vs,f,B,rfl,ht,hb,hB,q⟩:=h;unfold ie;walk_at "rd";refine⟨false,ts,ks,vs,f,rfl,ht,?_⟩;walk_at "rd";refine⟨mo2 hb hB,?_⟩
 cases k with
 | least=>exact ifp rfl q
 | more=>exact GH (by decide) q
inductive bR(n:Nat)(ds:List D)(R:D->Prop):Prop
 | mk (s:GL) (ks:List Str) (vs:List D) (f:Str->Int) (B:Int) (names:List Str) (hh:ds=[s.D,.dct ks vs,.int B]/\s.dep<=n/\s.ok names/\(∀x∈s.nms,dAt ks vs x=some (.int (f x))/\Builtin.Int.intBits (f x)<=2000000)/\Builtin.Int.intBits B<=8000/\R (.bl (s.so f B)))
def ip(n:Nat):∀ds R,bR n ds R->ds.length=3:=λ_ _ ⟨_,_,_,_,_,_,e,_⟩=>by rw[e];rfl
def gx:∀ds R,¬ bR 0 ds R:=λ_ _ ⟨s,_,_,_,_,_,_,h,_⟩=>by have:=s.dep_pos;omega
theorem fE:aw ["saying","tops","bottom","first"] ["saying","tops","bottom"] (am s_part_is_so):=by walk_at "sc"
theorem jF(Z:Zz){n:Nat}(d9:Z.C (3+n) "part_is_so" ["saying","tops","bottom"] (Gx Z.K (bR n))):Z.C (3+n+1) "part_is_so" ["saying","tops","bottom"] (Gx Z.K (bR (n+1))):=by
 refine cw (k:=3+n) Z.x11 fE (ip (n+1)) λfa cdv A outer s H E ds R hr h=>?_;have hU:=hr.units;refine⟨_,(ad (aN (bJ (aq (eE Z) (hr.mono (by omega)) rfl (ac (ak 0) ae))) (af (au (aq (lj Z) (hr.mono (by omega)) rfl (ac (ak 0) (ac (ak 1) (ac (ak 2) ae)))))) aB) (ad (aA 3 fE.nd (aq d9 (hr.mono (by omega)) rfl (ac (GF 0) (ac (ak 1) (ac (ak 2) ae))))) (ad (aN (aE (cX hU) (GF 0) ay (av _)) (af (au (mq (ak 3)))) aB) (ad (aN (aE (cX hU) (GF 0) ay (av _)) (af (au (gf (ak 3) (cF (aq d9 (hr.mono (by omega)) rfl (ac (GF 0) (ac (ak 1) (ac (ak 2) ae)))))))) aB) (af (au (sn (ak 3) (cF (aq d9 (hr.mono (by omega)) rfl (ac (GF 0) (ac (ak 1) (ac (ak 2) ae)))))))))))),?_⟩;obtain⟨s,ks,vs,f,B,names,rfl,hd,ok,hf,hB,q⟩:=h;refine ag λK1 h1=>?_;walk_at "rd";refine⟨s,rfl,?_⟩;walk_at "rd"
 cases s with
 | row k ts b =>
  refine ifp rfl ⟨k,ts,b,ks,vs,f,B,rfl,λt h1=>?_,G0 ok.2 (by decide),hB,q⟩;obtain⟨h2,h3⟩:=hf t.1 (GZ.mpr ⟨t,h1,rfl⟩);exact⟨h2,G0 (ok.1.bits t h1) (by decide),h3⟩
 | nt s =>
  refine GH G4 ?_;unfold GL.D;rw[h1];refine ag λK2 h2=>?_;walk_at "rd";have hd:s.dep+1<=n+1:=hd;refine⟨s,ks,vs,f,B,names,rfl,by omega,ok,hf,hB,?_⟩;walk_at "rd";rw[h2];refine ag λK3 h3=>?_;walk_at "rd";exact q
 | bo s t =>
  refine GH G4 ?_;unfold GL.D;rw[h1];refine ag λK2 h2=>?_;walk_at "rd";have hd:max s.dep t.dep+1<=n+1:=hd;refine⟨s,ks,vs,f,B,names,rfl,by omega,ok.1,λx h=>hf x (Hf _ h),hB,?_⟩;walk_at "rd";rw[h2];refine ag λK3 h3=>?_;walk_at "rd";refine GH (by decide) ?_;rw[h3];refine ag λK4 h4=>?_;walk_at "rd";have q:R (.bl (s.so f B&&t.so f B)):=q
  cases e:s.so f B with
  | true =>
   rw[e,Bool.true_and] at q;exact ifp rfl ⟨t,ks,vs,f,B,names,rfl,by omega,ok.2,λx h=>hf x (G6 _ h),hB,q⟩
  | false =>
   rw[e,Bool.false_and] at q;exact GH G4 q
 | ei s t =>
  refine GH G4 ?_;unfold GL.D;rw[h1];refine ag λK2 h2=>?_;walk_at "rd";have hd:max s.dep t.dep+1<=n+1:=hd;refine⟨s,ks,vs,f,B,names,rfl,by omega,ok.1,λx h=>hf x (Hf _ h),hB,?_⟩;walk_at "rd";rw[h2];refine ag λK3 h3=>?_;walk_at "rd";refine GH (by decide) ?_;rw[h3];refine ag λK4 h4=>?_;walk_at "rd";refine GH (by decide) ?_;rw[h4];walk_at "rd";have q:R (.bl (s.so f B||t.so f B)):=q
  cases e:s.so f B with
  | true =>
   rw[e,Bool.true_or] at q;exact ifp rfl q
  | false =>
   rw[e,Bool.false_or] at q;exact GH G4 ⟨t,ks,vs,f,B,names,rfl,by omega,ok.2,λx h=>hf x (G6 _ h),hB,q⟩
def jR(Z:Zz):Z.C 63 "part_is_so" ["saying","tops","bottom"] (Gx Z.K (bR 60)):=Nat.rec (motive:=λn=>Z.C (3+n) "part_is_so" ["saying","tops","bottom"] (Gx Z.K (bR n))) (dz Z.x11 _ gx) (λ_=>jF Z) 60
inductive uj(ds:List D)(R:D->Prop):Prop
 | mk (s:GL) (ks:List Str) (ps:List (Int×Int)) (names:List Str) (T κ:Nat) (hh:ds=[s.D,.dct ks (ps.map GJ)]/\s.dep<=60/\s.ok names/\names.length<=60/\(∀x∈s.nms,x∈ks)/\Pt ks ps T/\T<=1000000/\ib (Gs (pB ks ps) ks)<=κ/\κ<=7990/\R (.bl (s.tv (pT ks ps) (pB ks ps))))
def nF:∀ds R,uj ds R->ds.length=2:=λ_ _ ⟨_,_,_,_,_,_,e,_⟩=>by rw[e];rfl
theorem pX:aw ["saying","point","known"] ["saying","point"] (am s_is_so):=by walk_at "sc"
theorem ug(Z:Zz):Z.C 64 "is_so" ["saying","point"] (Gx Z.K uj):=by
 refine cw Z.x12 pX nF λfa cdv A outer s H E ds R hr h=>?_;have hU:=hr.units;refine⟨_,(ad (aA 2 pX.nd (aq (jd Z) (rm hr) rfl (ac (aq (gS Z) (rm hr) rfl (ac (ak 0) ae)) (ac (ak 1) ae)))) (af (au (aq (jR Z) (rm hr) rfl (ac (ak 0) (ac (GF 2) (ac (GF 2) ae))))))),?_⟩;obtain⟨s,ks,ps,names,T,κ,rfl,hd,ok,hl,hin,hp,hT,hb,hκ,q⟩:=h;walk_at "rd";refine⟨names,s,rfl,hd,ok,hl,λss nd hm hs=>?_⟩;have hs2:∀n∈ss,n∈ks:=λn hn=>hin n ((hm n).mp hn);have l60:ss.length<=60:=G0 (dM nd λk hk=>GL.nms_sub ok k ((hm k).mp hk)) hl;refine⟨ss,ks,ps,T,κ,rfl,nd,by omega,hs2,hp,hT,hb,hκ,?_⟩;walk_at "rd";have bp:=cG (q:=pB ks ps) (l:=ss) λn hn=>hp.pos (hs2 n hn);have bb:=mR (q:=pB ks ps) nd hs2 (λn hn=>hp.pos hn) hb;refine⟨s,ss,_,_,_,names,rfl,hd,ok,λx hx=>⟨cB (λn=>D.int (ov (pT ks ps) (pB ks ps) (Gs (pB ks ps) ss) n)) ((hm x).mpr hx),G0 (Hw (hp.Tb (hin x hx)) (HW bb)) (by omega)⟩,G0 bb (by omega),?_⟩;rw[GL.so_tv bp λn hn=>⟨hp.pos (hin n hn),dO ((hm n).mpr hn)⟩];exact q
def _root_.Mf.Kd.op:Kd->Kd
 | .least=>.more
 | .more=>.least
def opps:List (Str×Str):=[("least","more"),("more","least"),("both","either"),("either","both")]
theorem C9(k:Kd):PyProof.Rows.KTD.datumAt (kdS k) opps=some (kdS k.op):=by cases k<;>decide
def conD(k:Kd)(ts:List (Str×Int))(b:Int):D:=ie k.op (lF ts) (-b)
inductive kC(ds:List D)(R:D->Prop):Prop
 | mk (k:Kd) (ts:List (Str×Int)) (b:Int) (hh:ds=[ie k ts b]/\ts.length<=100/\R (conD k ts b))
def j7:∀ds R,kC ds R->ds.length=1:=λ_ _ ⟨_,_,_,e,_⟩=>by rw[e];rfl
theorem jE:aw ["row","terms"] ["row"] (am s_contrary):=by walk_at "sc"
theorem mE(Z:Zz):Z.C 1 "contrary" ["row"] (Gx Z.K kC):=by
 refine cw Z.x13 jE j7 λfa cdv A outer s H E ds R hr h=>?_;have hU:=hr.units;refine⟨_,(ad (aA 1 jE.nd (cj fg rfl Z.x54 bM (ac (b6 ["name","weight"] [] rfl rfl (by decide +kernel) rfl (by decide +kernel) (bE trivial) (bI rfl) (aY trivial) (km (GF 0)) λ_ _ _ _ _=>⟨(bH (n:=2) rfl (ax (ap 0 (show List.Nodup (["name","weight"]:List Str) by decide +kernel)) (ax (ap 1 (show List.Nodup (["name","weight"]:List Str) by decide +kernel)) aS))),dl,(aJ (ac (ak 0) (ac (wW wZ (ak 1)) ae)))⟩) ae))) (af (au (aJ (ac (vI rfl Z.g_OPPOSITES (GF 0) (λ_ _=>rfl)) (ac (ak 1) (ac (wW wZ (GF 0)) ae))))))),?_⟩;obtain⟨k,ts,b,rfl,hl,q⟩:=h;unfold ie;walk_at "rd";refine⟨by rw[GW];omega,λd=>match d with | .tup [.str n,.int w]=>some (.tup [.str n,.int (-w)]) | _=>none,λx hx=>?_,?_⟩
 ·obtain⟨t,_,rfl⟩:=GZ.mp hx;unfold GQ;walk_at "rd"
 ·rw[aK _ GQ (λt=>D.tup [.str t.1,.int (-t.2)]) _ (by intro _ _;rfl)];refine⟨_,C9 k,?_⟩;unfold conD ie lF at q;rw[HB] at q;exact q
def GL.pl:GL->Bool->GL
 | .row k ts b,t=>if t=true then .row k.op (lF ts) (-b) else .row k ts b
 | .nt s,t=>s.pl (!t)
 | .bo s u,t=>if t=true then .ei (s.pl t) (u.pl t) else .bo (s.pl t) (u.pl t)
 | .ei s u,t=>if t=true then .bo (s.pl t) (u.pl t) else .ei (s.pl t) (u.pl t)
inductive bO(n:Nat)(ds:List D)(R:D->Prop):Prop
 | mk (s:GL) (t:Bool) (names:List Str) (hh:ds=[s.D,.bl t]/\s.dep<=n/\s.ok names/\names.length<=100/\R (s.pl t).D)
def iu(n:Nat):∀ds R,bO n ds R->ds.length=2:=λ_ _ ⟨_,_,_,e,_⟩=>by rw[e];rfl
def gI:∀ds R,¬ bO 0 ds R:=λ_ _ ⟨s,_,_,_,h,_⟩=>by have:=s.dep_pos;omega
theorem tV(h:jP names ts):ts.length<=names.length:=by have:=h.sub.length_le;rw[GW] at this;exact this
theorem gg:aw ["saying","turned","word"] ["saying","turned"] (am s_plain_part):=by walk_at "sc"
theorem jk(Z:Zz){n:Nat}(dS:Z.C (2+n) "plain_part" ["saying","turned"] (Gx Z.K (bO n))):Z.C (2+n+1) "plain_part" ["saying","turned"] (Gx Z.K (bO (n+1))):=by
 refine cw (k:=2+n) Z.x14 gg (iu (n+1)) λfa cdv A outer s H E ds R hr h=>?_;have hU:=hr.units;refine⟨_,(ad (aN (aE (cX hU) (GF 0) ay (av _)) (af (au (aq dS (hr.mono (by omega)) rfl (ac (GF 0) (ac (mq (ak 1)) ae))))) aB) (ad (aN (bJ (aq (eE Z) (hr.mono (by omega)) rfl (ac (ak 0) ae))) (af (au (uQ (bJ (ak 1)) (aq (mE Z) (hr.mono (by omega)) rfl (ac (ak 0) ae)) (ak 0)))) aB) (ad (aA 2 gg.nd (uQ (bJ (ak 1)) (vI rfl Z.g_OPPOSITES (GF 0) (λ_ _=>rfl)) (GF 0))) (af (au (aJ (ac (ak 2) (ac (aq dS (hr.mono (by omega)) rfl (ac (GF 0) (ac (ak 1) ae))) (ac (aq dS (hr.mono (by omega)) rfl (ac (GF 0) (ac (ak 1) ae))) ae))))))))),?_⟩;obtain⟨s,t,names,rfl,hd,ok,hl,q⟩:=h;refine ag λK1 h1=>?_
 cases s with
 | row k ts b =>
  have hts:=tV ok.1
  have hnot:¬ kdS k=Str.ofString "not":=by cases k<;>decide
  unfold GL.D ie;walk_at "rd";refine GH hnot ?_;rw[h1];refine ag λK2 h2=>?_;walk_at "rd";refine⟨.row k ts b,rfl,?_⟩;walk_at "rd";refine ifp rfl ?_
  cases t with
  | true=>exact ifp rfl ⟨k,ts,b,rfl,by omega,q⟩
  | false=>exact GH G4 q
 | nt s =>
  unfold GL.D;walk_at "rd";have hd:s.dep+1<=n+1:=hd;exact⟨s,!t,names,rfl,by omega,ok,hl,q⟩
 | bo s u =>
  unfold GL.D;walk_at "rd";have hd:max s.dep u.dep+1<=n+1:=hd;refine GH (by decide) ?_;rw[h1];refine ag λK2 h2=>?_;walk_at "rd";refine⟨.bo s u,rfl,?_⟩;walk_at "rd";refine GH G4 ?_;walk_at "rd";rw[h2];refine ag λK3 h3=>?_;walk_at "rd"
  cases t with
  | true =>
   refine ifp rfl ⟨"either",by decide,?_⟩;rw[h3];walk_at "rd";refine⟨s,true,names,rfl,by omega,ok.1,hl,?_⟩;refine⟨u,true,names,rfl,by omega,ok.2,hl,?_⟩;exact q
  | false =>
   refine GH G4 ?_;rw[h3];walk_at "rd";refine⟨s,false,names,rfl,by omega,ok.1,hl,?_⟩;refine⟨u,false,names,rfl,by omega,ok.2,hl,?_⟩;exact q
 | ei s u =>
  unfold GL.D;walk_at "rd";have hd:max s.dep u.dep+1<=n+1:=hd;refine GH (by decide) ?_;rw[h1];refine ag λK2 h2=>?_;walk_at "rd";refine⟨.ei s u,rfl,?_⟩;walk_at "rd";refine GH G4 ?_;walk_at "rd";rw[h2];refine ag λK3 h3=>?_;walk_at "rd"
  cases t with
  | true =>
   refine ifp rfl ⟨"both",by decide,?_⟩;rw[h3];walk_at "rd";refine⟨s,true,names,rfl,by omega,ok.1,hl,?_⟩;refine⟨u,true,names,rfl,by omega,ok.2,hl,?_⟩;exact q
  | false =>
   refine GH G4 ?_;rw[h3];walk_at "rd";refine⟨s,false,names,rfl,by omega,ok.1,hl,?_⟩;refine⟨u,false,names,rfl,by omega,ok.2,hl,?_⟩;exact q
def j8(Z:Zz):Z.C 62 "plain_part" ["saying","turned"] (Gx Z.K (bO 60)):=Nat.rec (motive:=λn=>Z.C (2+n) "plain_part" ["saying","turned"] (Gx Z.K (bO n))) (dz Z.x14 _ gI) (λ_=>jk Z) 60
inductive uk(ds:List D)(R:D->Prop):Prop
 | mk (s:GL) (names:List Str) (hh:ds=[s.D]/\s.dep<=60/\s.ok names/\names.length<=100/\R (s.pl false).D)
def nT:∀ds R,uk ds R->ds.length=1:=λ_ _ ⟨_,_,e,_⟩=>by rw[e];rfl
theorem xJ:aw ["saying"] ["saying"] (am s_plain):=by walk_at "sc"
theorem tO(Z:Zz):Z.C 63 "plain" ["saying"] (Gx Z.K uk):=by
 refine cw Z.x15 xJ nT λfa cdv A outer s H E ds R hr h=>?_;have hU:=hr.units;refine⟨_,(af (au (aq (j8 Z) (rm hr) rfl (ac (ak 0) (ac dh ae))))),?_⟩;obtain⟨s,names,rfl,hd,ok,hl,q⟩:=h;walk_at "rd";exact⟨s,false,names,rfl,hd,ok,hl,q⟩
theorem rY(ts:List (Str×Int)):(lF ts).map (·.1)=ts.map (·.1):=by unfold lF;rw[HB];rfl
theorem rP(h:jP names ts):jP names (lF ts):=by
 refine⟨by rw[rY];exact h.sub,λt ht=>?_,λt ht=>?_⟩
 ·obtain⟨u,hu,rfl⟩:=GZ.mp ht;have:=h.nz u hu;show -u.2≠0;omega
 ·obtain⟨u,hu,rfl⟩:=GZ.mp ht;exact Jo (h.bits u hu)
def GL.pl_ok:∀ {s:GL} {t:Bool},s.ok names->(s.pl t).ok names
 | .row k ts b,true,h=>⟨rP h.1,Jo h.2⟩
 | .row k ts b,false,h=>h
 | .nt s,t,h=>GL.pl_ok (s:=s) h
 | .bo s u,true,h=>⟨GL.pl_ok h.1,GL.pl_ok h.2⟩
 | .bo s u,false,h=>⟨GL.pl_ok h.1,GL.pl_ok h.2⟩
 | .ei s u,true,h=>⟨GL.pl_ok h.1,GL.pl_ok h.2⟩
 | .ei s u,false,h=>⟨GL.pl_ok h.1,GL.pl_ok h.2⟩
def GL.pl_dep:∀ {s:GL} {t:Bool},(s.pl t).dep<=s.dep
 | .row k ts b,true=>G3 _
 | .row k ts b,false=>G3 _
 | .nt s,t=>Nat.le_succ_of_le (GL.pl_dep (s:=s))
 | .bo s u,true=>by have:=GL.pl_dep (s:=s) (t:=true);have:=GL.pl_dep (s:=u) (t:=true);show max _ _+1<=max _ _+1;omega
 | .bo s u,false=>by have:=GL.pl_dep (s:=s) (t:=false);have:=GL.pl_dep (s:=u) (t:=false);show max _ _+1<=max _ _+1;omega
 | .ei s u,true=>by have:=GL.pl_dep (s:=s) (t:=true);have:=GL.pl_dep (s:=u) (t:=true);show max _ _+1<=max _ _+1;omega
 | .ei s u,false=>by have:=GL.pl_dep (s:=s) (t:=false);have:=GL.pl_dep (s:=u) (t:=false);show max _ _+1<=max _ _+1;omega
def GL.args:GL->List DL.D
 | .row k ts b=>[.str (kdS k),.tup (ts.map GQ),.int b]
 | .nt s=>[.str "not",s.D]
 | .bo s t=>[.str "both",s.D,t.D]
 | .ei s t=>[.str "either",s.D,t.D]
theorem GL.D_args(s:GL):s.D=.tup s.args:=by cases s<;>rfl
def GL.nds:∀s:GL,DL.D.nds s.args=true
 | .row k ts b=>by
  show (true&&(DL.D.nds (ts.map GQ)&&(true&&true)))=true
  rw[sX];rfl
 | .nt s=>by
  show (true&&(DL.D.nd s.D&&true))=true
  rw[s.D_args];show (true&&(DL.D.nds s.args&&true))=true;rw[GL.nds s];rfl
 | .bo s t=>by
  show (true&&(DL.D.nd s.D&&(DL.D.nd t.D&&true)))=true
  rw[s.D_args,t.D_args];show (true&&(DL.D.nds s.args&&(DL.D.nds t.args&&true)))=true;rw[GL.nds s,GL.nds t];rfl
 | .ei s t=>by
  show (true&&(DL.D.nd s.D&&(DL.D.nd t.D&&true)))=true
  rw[s.D_args,t.D_args];show (true&&(DL.D.nds s.args&&(DL.D.nds t.args&&true)))=true;rw[GL.nds s,GL.nds t];rfl
def GL.dps:∀s:GL,DL.D.dps s.args<=s.dep+1
 | .row k ts b=>by
  have:=tG ts
  show max 0 (max (DL.D.dps (ts.map GQ)+1) (max 0 0))<=1+1
  omega
 | .nt s=>by
  have:=GL.dps s
  show max 0 (max (DL.D.dp s.D) 0)<=s.dep+1+1
  rw[s.D_args];show max 0 (max (DL.D.dps s.args+1) 0)<=s.dep+1+1;omega
 | .bo s t=>by
  have:=GL.dps s
  have:=GL.dps t
  show max 0 (max (DL.D.dp s.D) (max (DL.D.dp t.D) 0))<=max s.dep t.dep+1+1
  rw[s.D_args,t.D_args];show max 0 (max (DL.D.dps s.args+1) (max (DL.D.dps t.args+1) 0))<=max s.dep t.dep+1+1;omega
 | .ei s t=>by
  have:=GL.dps s
  have:=GL.dps t
  show max 0 (max (DL.D.dp s.D) (max (DL.D.dp t.D) 0))<=max s.dep t.dep+1+1
  rw[s.D_args,t.D_args];show max 0 (max (DL.D.dps s.args+1) (max (DL.D.dps t.args+1) 0))<=max s.dep t.dep+1+1;omega
def cQ(ns:List Int)(k:Int):Int:=ns.getD k.toNat 0
inductive i4(ds:List D)(R:D->Prop):Prop
 | mk (ns:List Int) (k:Int) (hh:ds=[.fz (ns.map D.int),.int k]/\0<=k/\R (.int (cQ ns k)))
def jx:∀ds R,i4 ds R->ds.length=2:=λ_ _ ⟨_,_,e,_⟩=>by rw[e];rfl
theorem zn{α:Type}{xs:List α}{k:Int}(h0:0<=k)(h:k<xs.length):GK xs k=xs[k.toNat]?:=by
 unfold GK ixN;rw[Hh h0,Hh h];rfl
theorem mx:aw ["_law_script","_law_k"] ["_law_script","_law_k"] (am s__law_cell):=by walk_at "sc"
theorem bT(Z:Zz):Z.C 1 "_law_cell" ["_law_script","_law_k"] (Gx Z.K i4):=by
 refine cw Z.x16 mx jx λfa cdv A outer s H E ds R hr h=>?_;have hU:=hr.units;refine⟨_,(ad (aN (aE yj (ak 1) (aM f9 rfl Z.x55 dP (ac (ak 0) ae)) (av _)) (af (au (gM gz (ak 0) (ak 1) (λ_ _=>rfl)))) aB) (af (au ar))),?_⟩;obtain⟨ns,k,rfl,h0,q⟩:=h;walk_at "rd";refine dQ (λc=>?_) (λc=>?_)
 ·rw[GW] at c;refine GD.of (v:=.int (cQ ns k)) ?_ q;rw[zn h0 (by rw[GW];exact c),List.getElem?_map];have:k.toNat<ns.length:=by omega
  unfold cQ;rw[List.getD_eq_getElem?_getD,List.getElem?_eq_getElem this];rfl
 ·rw[GW] at c;have:ns.length<=k.toNat:=by omega
  unfold cQ at q;rw[List.getD_eq_getElem?_getD,List.getElem?_eq_none this] at q;exact q
def GL.cs:GL->List (List GL)
 | .row k ts b=>[[.row k ts b]]
 | .nt _=>[]
 | .bo s t=>s.cs.flatMap λc=>t.cs.map λd=>c++d
 | .ei s t=>s.cs++t.cs
def GL.pn:GL->Bool
 | .row _ _ _=>true
 | .nt _=>false
 | .bo s t=>s.pn&&t.pn
 | .ei s t=>s.pn&&t.pn
def GL.num:GL->Nat
 | .bo s t=>s.num*t.num
 | .ei s t=>s.num+t.num
 | _=>1
def GL.long:GL->Nat
 | .bo s t=>s.long+t.long
 | .ei s t=>max s.long t.long
 | _=>1
def GL.num_pos:∀s:GL,0<s.num
 | .row _ _ _=>Nat.one_pos
 | .nt _=>Nat.one_pos
 | .bo s t=>Nat.mul_pos s.num_pos t.num_pos
 | .ei s t=>Nat.add_pos_left s.num_pos _
def GL.long_pos:∀s:GL,0<s.long
 | .row _ _ _=>Nat.one_pos
 | .nt _=>Nat.one_pos
 | .bo s t=>Nat.add_pos_left s.long_pos _
 | .ei s t=>by have:=s.long_pos;show 0<max s.long t.long;omega
theorem uZ{α β γ:Type}(f:α->β->γ)(m:List β):∀l:List α,(l.flatMap λc=>m.map λd=>f c d).length=l.length*m.length
 | []=>(Nat.zero_mul _).symm
 | c::l=>by rw[List.flatMap_cons,G8,GW,uZ f m l,Ha,Nat.succ_mul,Nat.add_comm]
def GL.cs_num:∀ {s:GL},s.pn=true->s.cs.length=s.num
 | .row _ _ _,_=>rfl
 | .bo s t,h=>by
  obtain⟨h1,h2⟩:=Hn.mp h;show (s.cs.flatMap λc=>t.cs.map λd=>c++d).length=s.num*t.num;rw[uZ,GL.cs_num h1,GL.cs_num h2]
 | .ei s t,h=>by
  obtain⟨h1,h2⟩:=Hn.mp h;show (s.cs++t.cs).length=s.num+t.num;rw[G8,GL.cs_num h1,GL.cs_num h2]
def GL.cs_long:∀ {s:GL},s.pn=true->∀c∈s.cs,c.length<=s.long
 | .row _ _ _,_,c,h=>by rw[G9.mp h];exact G3 1
 | .bo s t,h,c,hc=>by
  obtain⟨h1,h2⟩:=Hn.mp h;obtain⟨x,hx,hy⟩:=IF.mp hc;obtain⟨y,hz,rfl⟩:=GZ.mp hy;have:=GL.cs_long h1 x hx;have:=GL.cs_long h2 y hz;rw[G8];show _<=s.long+t.long;omega
 | .ei s t,h,c,hc=>by
  obtain⟨h1,h2⟩:=Hn.mp h;show _<=max s.long t.long
  rcases Hb.mp hc with hc | hc
  ·have:=GL.cs_long h1 c hc;omega
  ·have:=GL.cs_long h2 c hc;omega
def GL.pl_pn:∀ {s:GL} {t:Bool},(s.pl t).pn=true
 | .row k ts b,true=>rfl
 | .row k ts b,false=>rfl
 | .nt s,t=>GL.pl_pn (s:=s)
 | .bo s u,true=>by show ((s.pl true).pn&&(u.pl true).pn)=true;rw[GL.pl_pn,GL.pl_pn];rfl
 | .bo s u,false=>by show ((s.pl false).pn&&(u.pl false).pn)=true;rw[GL.pl_pn,GL.pl_pn];rfl
 | .ei s u,true=>by show ((s.pl true).pn&&(u.pl true).pn)=true;rw[GL.pl_pn,GL.pl_pn];rfl
 | .ei s u,false=>by show ((s.pl false).pn&&(u.pl false).pn)=true;rw[GL.pl_pn,GL.pl_pn];rfl
def dL(c:List GL):D:=.lst (c.map GL.D)
def csD(cs:List (List GL)):D:=.lst (cs.map dL)
inductive eW(ds:List D)(R:D->Prop):Prop
 | mk (A B:List (List GL)) (hh:ds=[csD A,csD B]/\A.length<=20/\B.length<=20/\(∀c∈A,c.length<=20)/\(∀c∈B,c.length<=20)/\R (csD (A.flatMap λc=>B.map λd=>c++d)))
def f7:∀ds R,eW ds R->ds.length=2:=λ_ _ ⟨_,_,e,_⟩=>by rw[e];rfl
theorem zd{cs:List (List GL)}{i:Nat}{d:D}(h:(cs.map dL)[i]?=some d):∃c,cs[i]?=some c/\d=.lst (c.map GL.D):=by
 rw[List.getElem?_map] at h
 cases e:cs[i]? with
 | none=>rw[e] at h;cases h
 | some n=>rw[e] at h;exact⟨n,rfl,(Hg h).symm⟩
theorem bY:aw ["one","other","told","first","second"] ["one","other"] (am s_put_together):=by walk_at "sc"
theorem io(Z:Zz):Z.C 1 "put_together" ["one","other"] (Gx Z.K eW):=by
 refine cw Z.x17 bY f7 λfa cdv A outer s H E ds R hr h=>?_;have hU:=hr.units;refine⟨_,(ad (dy 2 bY.nd ae) (ad (cx Hl rfl (ak 0) (ap 3 bY.nd) (af (cx Hl rfl (ak 1) (ap 4 bY.nd) (af (bf 2 (aD aR (ak 3) (ak 4))))))) (af (kY 2)))),?_⟩;obtain⟨A,B,rfl,hA,hB,lA,lB,q⟩:=h;unfold csD at q ⊢;walk_at "rd";intro a;walk_at "rd";simp only[se];walk_at "rd";have fl:∀i,((A.take i).flatMap λc=>B.map λd=>c++d).length<=400:=λi=>by
  rw[uZ,HI];exact Jp (show min i A.length<=20 by omega) hB
 refine⟨λi δ=>∃x y,δ=[.dat (.lst (A.map dL)),.dat (.lst (B.map dL)),.own a (.lst (((A.take i).flatMap λc=>B.map λd=>c++d).map dL)),x,y],⟨_,_,rfl⟩,?_,?_⟩
 ·rintro i d δ hd ⟨x,y,rfl⟩;obtain⟨c,hc,rfl⟩:=zd hd;have hcl:=lA c (Hc hc);have hfl:=fl i;walk_at "rd";refine⟨λj δ=>∃x,δ=[.dat (.lst (A.map dL)),.dat (.lst (B.map dL)),.own a (.lst (((A.take i).flatMap (λc=>B.map λd=>c++d)++(B.take j).map λd=>c++d).map dL)),.dat (.lst (c.map GL.D)),x],⟨_,by rw[Jl,Jv,HJ]⟩,?_,?_⟩
  ·rintro j d δ hd ⟨x,rfl⟩;obtain⟨e,he,rfl⟩:=zd hd;have hel:=lB e (Hc he);walk_at "rd";refine⟨by simp only[List.length_map];omega,by simp only[List.length_map,List.length_append,List.length_take];omega,?_⟩;rw[aG he,Hj,Hj,Hj];simp only[dL,List.map_append,List.map_cons,List.map_nil,List.append_assoc]
  ·rintro δ ⟨x,rfl⟩;rw[GW,Ho];rw[aG hc,IA,IT];exact⟨_,_,rfl⟩
 ·rintro δ ⟨x,y,rfl⟩;rw[GW,Ho];walk_at "rd";exact q
inductive bg(n:Nat)(ds:List D)(R:D->Prop):Prop
 | mk (s:GL) (w:D) (hh:ds=[s.D,w]/\s.dep<=n/\s.pn=true/\s.num<=4/\s.long<=3/\R (csD s.cs))
def fG(n:Nat):∀ds R,bg n ds R->ds.length=2:=λ_ _ ⟨_,_,e,_⟩=>by rw[e];rfl
def eX:∀ds R,¬ bg 0 ds R:=λ_ _ ⟨s,_,_,h,_⟩=>by have:=s.dep_pos;omega
theorem uw{cs:List (List GL)}{P:Prop}(h4:cs.length<=4)(h3:∀c∈cs,c.length<=3)(h0:0<cs.length)(q:P):¬ (4:Int)<(cs.map dL).length/\(cs.map dL).length<=9000/\∃f:D->Option D,(∀x∈cs.map dL,B9 [x] (kD (wd λy δ4=>okT 1 δ4 []/\f x=some y) [.dat x]))/\∃ns:List Int,(cs.map dL).filterMap f=ns.map D.int/\0<ns.length/\∀M∈ns,(∀a∈ns,a<=M)->if 3<M then False else P:=by
 refine⟨by rw[GW];omega,by rw[GW];omega,λd=>match d with | .lst l=>some (.int l.length) | _=>none,λx hx=>?_,cs.map λc=>(c.length:Int),?_,by rw[GW];exact h0,λM hM _=>?_⟩
 ·obtain⟨c,_,rfl⟩:=GZ.mp hx;exact⟨rfl,rfl⟩
 ·rw[aK _ dL (λc=>D.int (c.length:Int)) _ (by intro c _;show some (D.int ((c.map GL.D).length:Int))=_;rw[GW]),HB];rfl
 ·obtain⟨c,hc,rfl⟩:=GZ.mp hM;have:=h3 c hc;exact GH (by omega) q
theorem GL.cs_pos{s:GL}(h:s.pn=true):0<s.cs.length:=by rw[GL.cs_num h];exact s.num_pos
theorem b8:aw ["part","whole","one","other","told"] ["part","whole"] (am s_cases_within):=by walk_at "sc"
theorem gA(Z:Zz){n:Nat}(eR:Z.C (2+n) "cases_within" ["part","whole"] (Gx Z.K (bg n))):Z.C (2+n+1) "cases_within" ["part","whole"] (Gx Z.K (bg (n+1))):=by
 refine cw (k:=2+n) Z.x18 b8 (fG (n+1)) λfa cdv A outer s H E ds R hr h=>?_;have hU:=hr.units;refine⟨_,(ad (aN (bJ (aq (eE Z) (hr.mono (by omega)) rfl (ac (ak 0) ae))) (af (au (bV (ac (bV (ac (ak 0) ae)) ae)))) aB) (ad (aA 2 b8.nd (aq eR (hr.mono (by omega)) rfl (ac (GF 0) (ac (ak 1) ae)))) (ad (aA 3 b8.nd (aq eR (hr.mono (by omega)) rfl (ac (GF 0) (ac (ak 1) ae)))) (ad (aA 4 b8.nd (uQ (aE (cX hU) (GF 0) ay (av _)) (aq (io Z) (hr.mono (by omega)) rfl (ac (ak 2) (ac (ak 3) ae))) (aD aR (ak 2) (ak 3)))) (ad (aN (DW.dt (fu (aE uD (aM f9 rfl Z.x55 dP (ac (ak 4) ae)) (vK rfl Z.g_MOST_CASES) (av _)) (dm (aE uD (aM (F1 rfl) rfl Z.x56 FJ (ac (b6 ["case"] [] rfl rfl (by decide +kernel) rfl (by decide +kernel) (bE trivial) (bI rfl) (aY trivial) (fC (ak 4)) λ_ _ _ _ _=>⟨(ap 0 (show List.Nodup (["case"]:List Str) by decide +kernel)),dl,(aM f9 rfl Z.x55 dP (ac (ak 0) ae))⟩) ae)) (vK rfl Z.g_MOST_ROWS) (av _))))) jg aB) (af (au (ak 4)))))))),?_⟩;obtain⟨s,w,rfl,hd,hp,hn,hl,q⟩:=h;walk_at "rd";refine⟨s,rfl,?_⟩;walk_at "rd"
 cases s with
 | nt s=>cases hp
 | row k ts b=>exact ifp rfl q
 | bo s t =>
  refine GH G4 ?_;unfold GL.D;walk_at "rd";obtain⟨p1,p2⟩:=Hn.mp hp;have hd:max s.dep t.dep+1<=n+1:=hd;have hn2:s.num*t.num<=4:=hn;have hl2:s.long+t.long<=3:=hl;have ns1:s.num<=4:=G0 (Iw _ t.num_pos) hn2;have ns2:t.num<=4:=G0 (ID _ s.num_pos) hn2;refine⟨s,w,rfl,by omega,p1,ns1,by omega,?_⟩;refine⟨t,w,rfl,by omega,p2,ns2,by omega,?_⟩;refine⟨s.cs,t.cs,rfl,by rw[GL.cs_num p1];omega,by rw[GL.cs_num p2];omega,λc hc=>by have:=GL.cs_long p1 c hc;omega,λc hc=>by have:=GL.cs_long p2 c hc;omega,?_⟩;have h4:(GL.bo s t).cs.length<=4:=by rw[GL.cs_num hp];exact hn
  have h3:∀c∈(GL.bo s t).cs,c.length<=3:=λc hc=>G0 (GL.cs_long hp c hc) hl
  obtain⟨e1,e2⟩:=uw h4 h3 (GL.cs_pos hp) q;show kD _ _ (csD (GL.bo s t).cs);unfold csD;walk_at "rd";exact GH e1 e2
 | ei s t =>
  refine GH G4 ?_;unfold GL.D;walk_at "rd";obtain⟨p1,p2⟩:=Hn.mp hp;have hd:max s.dep t.dep+1<=n+1:=hd;have hn2:s.num+t.num<=4:=hn;have hl2:max s.long t.long<=3:=hl;refine⟨s,w,rfl,by omega,p1,by omega,by omega,?_⟩;refine⟨t,w,rfl,by omega,p2,by omega,by omega,?_⟩;have h4:(GL.ei s t).cs.length<=4:=by rw[GL.cs_num hp];exact hn
  have h3:∀c∈(GL.ei s t).cs,c.length<=3:=λc hc=>G0 (GL.cs_long hp c hc) hl
  obtain⟨e1,e2⟩:=uw h4 h3 (GL.cs_pos hp) q;unfold csD;walk_at "rd";refine GH (by decide) ?_;have e0:s.cs.map dL++t.cs.map dL=(GL.ei s t).cs.map dL:=(Hj ..).symm;rw[e0];have h5:s.cs.length+t.cs.length<=4:=by rw[<- G8];exact h4
  refine⟨by rw[GW,GW];omega,?_⟩;exact GH e1 e2
def ik(Z:Zz):Z.C 62 "cases_within" ["part","whole"] (Gx Z.K (bg 60)):=Nat.rec (motive:=λn=>Z.C (2+n) "cases_within" ["part","whole"] (Gx Z.K (bg n))) (dz Z.x18 _ eX) (λ_=>gA Z) 60
inductive tE(ds:List D)(R:D->Prop):Prop
 | mk (s:GL) (names:List Str) (hh:ds=[s.D]/\s.dep<=60/\s.ok names/\names.length<=100/\(s.pl false).num<=4/\(s.pl false).long<=3/\R (csD (s.pl false).cs))
def ox:∀ds R,tE ds R->ds.length=1:=λ_ _ ⟨_,_,e,_⟩=>by rw[e];rfl
theorem we:aw ["saying"] ["saying"] (am s_cases):=by walk_at "sc"
theorem ml(Z:Zz):Z.C 64 "cases" ["saying"] (Gx Z.K tE):=by
 refine cw Z.x19 we ox λfa cdv A outer s H E ds R hr h=>?_;have hU:=hr.units;refine⟨_,(af (au (aq (ik Z) (rm hr) rfl (ac (aq (tO Z) (rm hr) rfl (ac (ak 0) ae)) (ac (ak 0) ae))))),?_⟩;obtain⟨s,names,rfl,hd,ok,hl,hn,hg,q⟩:=h;walk_at "rd";refine⟨s,names,rfl,hd,ok,hl,?_⟩;exact⟨s.pl false,s.D,rfl,G0 GL.pl_dep hd,GL.pl_pn,hn,hg,q⟩
inductive uO(ds:List D)(R:D->Prop):Prop
 | mk (rows:List Rw) (ws:List Int) (nm:List Str) (hh:ds=[.lst (rows.map Gu),.tup (ws.map D.int)]/\nm.length<=60/\(∀r∈rows,RwOk nm 60000000 r)/\(∀w∈ws,Builtin.Int.intBits w<=60000000) /\
 ∀ts,e8 (cfs (rows.zip ws)) ts->R (ie (kOf (GI (rows.zip ws))) ts (bds (rows.zip ws))))
def nR:∀ds R,uO ds R->ds.length=2:=λ_ _ ⟨_,_,_,e,_⟩=>by rw[e];rfl
theorem bZ:aw ["rows","weights","word","sums","bound","row","often","name","weight","terms"] ["rows","weights"] (am s_added):=by walk_at "sc"
theorem ui(Z:Zz):Z.C 1 "added" ["rows","weights"] (Gx Z.K uO):=by
 refine cw Z.x20 bZ nR λfa cdv A outer s H E ds R hr h=>?_;have hU:=hr.units;refine⟨_,(ad (aA 2 bZ.nd ay) (ad (lN 3 bZ.nd) (ad (aA 4 bZ.nd ar) (ad (fY Hl rfl (kh true false rfl Z.x57 (ac (ak 0) (ac (ak 1) ae))) (bH (n:=2) rfl (ax (ap 5 bZ.nd) (ax (ap 6 bZ.nd) aS))) (ad (aN (DW.dt (y7 (aE (cX hU) (GF 5) ay (av _)) (uW (aE uD (ak 6) ar (av _))))) (af (aA 2 bZ.nd ay)) aB) (ad (gF Hl rfl (GF 5) (bH (n:=2) rfl (ax (ap 7 bZ.nd) (ax (ap 8 bZ.nd) aS))) (af (gG 3 hU (aD aR (sZ 3 hU (ak 7) ar) (aD bu (ak 6) (ak 8))) (ak 7)))) (af (aA 4 bZ.nd (aD aR (ak 4) (aD bu (ak 6) (GF 5)))))))) (ci 3 (ad (aA 9 bZ.nd (cj fg rfl Z.x54 bM (ac (b6 ["name"] [(3,"sums")] rfl rfl (by decide +kernel) rfl (by decide +kernel) (bE ⟨rfl,trivial⟩) (bI rfl) (aY ⟨⟨rfl,rfl,.inl rfl⟩,trivial⟩) (fC (aM (fQ rfl) rfl Z.x53 eB (ac (ak 3) ae))) λ_ _ _ _ _=>⟨(ap 0 (show List.Nodup (["name","sums"]:List Str) by decide +kernel)),(gX (aE (fS hU) (cT hU (ak 1) (ak 0) (λ_ _=>rfl)) ar (av _))),(aJ (ac (ak 0) (ac (cT hU (ak 1) (ak 0) (λ_ _=>rfl)) ae)))⟩) ae))) (af (au (aJ (ac (ak 2) (ac (ak 9) (ac (ak 4) ae)))))))))))),?_⟩;obtain⟨rows,ws,nm,rfl,hnm,hr,hw,q⟩:=h;refine ag λK1 h1=>?_;walk_at "rd";rw[h1];refine ag λK3 h3=>?_;walk_at "rd";intro da;rw[h3];refine ag λK4 h4=>?_;walk_at "rd";rw[h4];refine ag λK5 h5=>?_;refine dA λB N hB hN=>?_;walk_at "rd";simp only[kc];walk_at "rd";rw[qe];generalize hl:rows.zip ws=l at q ⊢;have hl1:∀p∈l,RwOk nm 60000000 p.1/\Builtin.Int.intBits p.2<=60000000:=λp hp=>by
  rw[<- hl] at hp;exact⟨hr _ (Hv hp).1,hw _ (Hv hp).2⟩
 clear hl hr hw
 refine⟨λi δ=>∃ks u v w z y,δ=[.dat (.lst (rows.map Gu)),.dat (.tup (ws.map D.int)),.dat (.str (kdS (kOf (GI (l.take i))))),.own da (.dct ks (ks.map λn=>.int (cfs (l.take i) n))),.dat (.int (bds (l.take i))),u,v,w,z,y]/\ks.Nodup/\(∀n∈ks,n∈nm)/\∀n,n∉ks->cfs (l.take i) n=0,
  ⟨[],_,_,_,_,_,rfl,Jn,λn h=>(nomatch h),λn h=>rfl⟩,?_,?_⟩
 ·rintro i d δ hd ⟨ks,u,v,w,z,y,rfl,nd,hs,h0⟩;rw[List.getElem?_map] at hd
  cases hn:l[i]? with
  | none=>rw[hn] at hd;cases hd
  | some p =>
   rw[hn] at hd
   cases hd
   obtain⟨⟨k,ts,b⟩,c⟩:=p;obtain⟨ok,bc⟩:=hl1 _ (Hc hn);have htk:=aG hn;rw[hB];show jS _ _ (.tup [.tup [.str (kdS k),.tup (ts.map GQ),.int b],.int c]) _ _;refine bX λK hK=>?_;walk_at "rd";have go:∀wd,wd=kdS (kOf (GI (l.take (i+1))))->K [.dat (.lst (rows.map Gu)),.dat (.tup (ws.map D.int)),.dat (.str wd),.own da (.dct ks (ks.map λn=>.int (cfs (l.take i) n))),.dat (.int (bds (l.take i))),.dat (.tup [.str (kdS k),.tup (ts.map GQ),.int b]),.dat (.int c),w,z,y]:=?_
   ·have e:GI (l.take (i+1))=(GI (l.take i)||(isM k&&decide (0<c))):=by rw[htk,oF,nP]
    cases k with
    | least =>
     refine GH (by decide) (go _ ?_);rw[e];simp only[isM,Bool.false_and,Bool.or_false]
    | more =>
     refine ifp rfl (dQ (λhc=>go _ ?_) λhc=>go _ ?_)
     ·rw[e,HG hc];simp only[isM,Bool.and_true,Bool.or_true];rfl
     ·rw[e,HA hc];simp only[isM,Bool.and_false,Bool.or_false]
   intro wd hwd;rw[hK];refine ag λK2 hK2=>?_;walk_at "rd";simp only[oC];walk_at "rd"
   refine⟨λj δ=>∃ks w z y,δ=[.dat (.lst (rows.map Gu)),.dat (.tup (ws.map D.int)),.dat (.str wd),.own da (.dct ks (ks.map λn=>.int (cfs (l.take i) n+c*cf (ts.take j) n))),.dat (.int (bds (l.take i))),.dat (.tup [.str (kdS k),.tup (ts.map GQ),.int b]),.dat (.int c),w,z,y]/\ks.Nodup/\(∀n∈ks,n∈nm)/\∀n,n∉ks->cfs (l.take i) n+c*cf (ts.take j) n=0,
    ⟨ks,w,z,y,by simp only[List.take_zero,cf,Int.mul_zero,Int.add_zero],nd,hs,λn hn=>by rw[h0 n hn,Jl];show 0+c*0=0;omega⟩,?_,?_⟩
   ·rintro j d δ hd ⟨ks,w,z,y,rfl,nd,hs,h0⟩;obtain⟨t,ht,rfl⟩:=c6 hd;have htm:=Hc ht;have hj:=aG ht;walk_at "rd";rw[qc (h0 t.1)];walk_at "rd";refine⟨mo2 bc (ok.bw t htm),by have:=dM nd hs;omega,?_,oQ nd,λn hn=>?_,λn hn=>?_⟩
    ·have e:∀n,cfs (l.take i) n+c*cf (ts.take (j+1)) n=(cfs (l.take i) n+c*cf (ts.take j) n)+c*(if t.1=n then t.2 else 0):=λn=>by
      rw[hj,m7,Int.mul_add];show _+(_+c*((if t.1=n then t.2 else 0)+0))=_;rw[Ix,JY]
     have:=vO (ks:=ks) (x:=t.1) (f:=λn=>D.int (cfs (l.take i) n+c*cf (ts.take j) n)) (g:=λn=>D.int (cfs (l.take i) n+c*cf (ts.take (j+1)) n)) (λn hn=>by rw[e,He (λz=>hn z.symm),J6,Ix])
     rw[<- this,e,Hh rfl]
    ·rcases iM.mp hn with h | h
     ·exact hs n h
     ·rw[h];exact ok.sub t htm
    ·rw[iM,not_or] at hn;rw[hj,m7,Int.mul_add,<- JY,h0 n hn.1];show 0+c*((if t.1=n then t.2 else 0)+0)=0;rw[He (λz=>hn.2 z.symm)];omega
   ·rintro δ ⟨ks,w,z,y,rfl,nd,hs,h0⟩;have e1:ts.take (ts.map GQ).length=ts:=by rw[GW,Ho]
    rw[e1] at h0 ⊢;rw[hK2];walk_at "rd";have e2:∀n,cfs (l.take (i+1)) n=cfs (l.take i) n+c*cf ts n:=λn=>by
     rw[htk,ou];show _+(c*cf ts n+0)=_;rw[Ix]
    simp only[e2];rw[htk,nS];exact⟨mo2 bc ok.bb,by rw[<- htk];exact hwd,trivial,(by show _=_+(c*b+0);rw[Ix]),nd,hs,λn hn=>h0 n hn⟩
 ·rintro δ ⟨ks,u,v,w,z,y,rfl,nd,hs,h0⟩;rw[GW,Ho] at h0 ⊢;rw[hN];show K5 _;rw[h5];walk_at "rd";have hk:=dM nd hs;refine⟨by omega,λss' pm st=>?_⟩;have hl':=pm.length_eq;refine⟨by rw[GW];omega,λd=>match d with | .str n=>if cfs l n≠0 then some (.tup [.str n,.int (cfs l n)]) else none | _=>none,λx hx=>?_,?_⟩
  ·obtain⟨n,hn,rfl⟩:=GZ.mp hx;have hnk:n∈ks:=pm.mem_iff.mp hn;walk_at "rd";refine⟨_,cB (λn=>D.int (cfs l n)) hnk,?_⟩;walk_at "rd";refine dQ (λhz=>?_) λhz=>?_
   ·exact⟨_,cB (λn=>D.int (cfs l n)) hnk,by rw[Hh hz]⟩
   ·rw[He hz]
  ·have e:(ss'.map D.str).filterMap (λd=>match d with | .str n=>if cfs l n≠0 then some (D.tup [.str n,.int (cfs l n)]) else none | _=>none)=((ss'.filter λn=>decide (cfs l n≠0)).map λn=>(n,cfs l n)).map GQ:=by
    clear hl' pm st
    induction ss' with
    | nil=>rfl
    | cons n r ih =>
     rw[Hm,HP];simp only
     by_cases hz:cfs l n≠0
     ·rw[Hh hz,HC (by simpa using hz)];simp only[List.map_cons];rw[ih];rfl
     ·rw[He hz,Ht (by simpa using hz)];exact ih
   rw[e];exact q _ (e8.mk' (gP st) (pm.nodup_iff.mpr nd) λn hn=>pm.mem_iff.mpr (G5 λz=>hn (h0 n z)))
def smD(nm:List Str)(rows:List Rw)(w:List Int):D:=.tup [Gu (Gw nm rows w),.tup (w.map D.int)]
inductive jw(ds:List D)(R:D->Prop):Prop
 | mk (n:Str) (r:Rw) (hh:ds=[.str n,Gu r]/\(r.2.1.map (·.1)).Nodup/\R (.int (cf r.2.1 n)))
def jt:∀ds R,jw ds R->ds.length=2:=λ_ _ ⟨_,_,e,_⟩=>by rw[e];rfl
theorem dU:aw ["name","row","found","weight"] ["name","row"] (am s_weight_of):=by walk_at "sc"
theorem be(Z:Zz):Z.C 1 "weight_of" ["name","row"] (Gx Z.K jw):=by
 refine cw Z.x21 dU jt λfa cdv A outer s H E ds R hr h=>?_;have hU:=hr.units;refine⟨_,(ad (gF Hl rfl (GF 1) (bH (n:=2) rfl (ax (ap 2 dU.nd) (ax (ap 3 dU.nd) aS))) (af (aN (aE (cX hU) (ak 2) (ak 0) (av _)) (af (au (ak 3))) aB))) (af (au ar))),?_⟩;obtain⟨n,⟨k,ts,b⟩,rfl,nd,q⟩:=h;unfold Gu ie;walk_at "rd";simp only[oC];walk_at "rd";refine⟨λi δ=>∃x y,δ=[.dat (.str n),.dat (.tup [.str (kdS k),.tup (ts.map GQ),.int b]),x,y]/\n∉(ts.take i).map (·.1),⟨_,_,rfl,by simp⟩,?_,?_⟩
 ·rintro i d δ hd ⟨x,y,rfl,hn⟩;obtain⟨t,ht,rfl⟩:=c6 hd;walk_at "rd";refine dQ (λe=>?_) (λe=>?_)
  ·subst e;have:=mT nd (Hc ht);simp only at q this;rw[this] at q;exact q
  ·rw[aG ht,Hj,Hb,not_or];exact⟨hn,λz=>e (G9.mp z).symm⟩
 ·rintro δ ⟨x,y,rfl,hn⟩;rw[GW,Ho] at hn;have:=ju hn;simp only at q;rw[this] at q;exact q
theorem yA{α:Type}{f:α->D}{l:List α}{i:Nat}{d:D}(h:(enD (l.map f))[i]?=some d):∃r,l[i]?=some r/\d=.tup [.int (i:Nat),f r]:=by
 unfold enD at h;rw[List.getElem?_mapIdx,List.getElem?_map] at h
 cases e:l[i]? with
 | none=>rw[e] at h;cases h
 | some r=>rw[e] at h;exact⟨r,rfl,(Hg h).symm⟩
theorem yg{xs:List D}:(enD xs).length=xs.length:=by unfold enD;rw[List.length_mapIdx]
inductive ul(ds:List D)(R:D->Prop):Prop
 | mk (rows:List Rw) (nm:List Str) (hh:ds=[.lst (rows.map Gu)]/\Rws nm rows/\rows.length<=60/\R (.lst ((v5 rows.length).map (smD nm rows))))
def oz:∀ds R,ul ds R->ds.length=1:=λ_ _ ⟨_,_,e,_⟩=>by rw[e];rfl
theorem iF:aw ["rows","told","place","row"] ["rows"] (am s_alone):=by walk_at "sc"
theorem uV(Z:Zz):Z.C 1 "alone" ["rows"] (Gx Z.K ul):=by
 refine cw Z.x22 iF oz λfa cdv A outer s H E ds R hr h=>?_;have hU:=hr.units;refine⟨_,(ad (dy 1 iF.nd ae) (ad (fY Hl rfl (uU rfl Z.x58 (ac (ak 0) ae)) (bH (n:=2) rfl (ax (ap 2 iF.nd) (ax (ap 3 iF.nd) aS))) (af (bf 1 (aJ (ac (ak 3) (ac (cj fg rfl Z.x54 bM (ac (b6 ["other"] [(2,"place")] rfl rfl (by decide +kernel) rfl (by decide +kernel) (bE ⟨rfl,trivial⟩) (bI rfl) (aY ⟨⟨rfl,rfl,.inl rfl⟩,trivial⟩) (lE rfl Z.x59 (ac (aM f9 rfl Z.x55 dP (ac (ak 0) ae)) ae)) λ_ _ _ _ _=>⟨(ap 0 (show List.Nodup (["other","place"]:List Str) by decide +kernel)),dl,(uQ (aE (cX hU) (ak 0) (ak 1) (av _)) ar ar)⟩) ae)) ae)))))) (af (kY 1)))),?_⟩;obtain⟨rows,nm,rfl,H,hl,q⟩:=h;walk_at "rd";intro ta;refine dA λB N hB hN=>?_;walk_at "rd";simp only[kc];walk_at "rd";refine⟨λi δ=>∃x y,δ=[.dat (.lst (rows.map Gu)),.own ta (.lst (((v5 rows.length).take i).map (smD nm rows))),x,y],⟨_,_,rfl⟩,?_,?_⟩
 ·rintro i d δ hd ⟨x,y,rfl⟩;obtain⟨r,hr,rfl⟩:=yA hd;rw[hB];walk_at "rd";have hil:i<rows.length:=(List.getElem?_eq_some_iff.mp hr).1;rw[GW];refine⟨by omega,by omega,by simp;omega,λd=>match d with | .int o=>some (.int (if o=(i:Int) then 1 else 0)) | _=>none,λx hx=>?_,?_⟩
  ·obtain⟨o,ho,rfl⟩:=GZ.mp hx;walk_at "rd";refine dQ (λe=>?_) (λe=>?_)
   ·rw[Hh e]
   ·rw[He e]
  ·have e1:((List.range (rows.length:Int).toNat).map λ(k:Nat)=>D.int (k:Int)).filterMap (λd=>match d with | .int o=>some (D.int (if o=(i:Int) then 1 else 0)) | _=>none)=(unW rows.length i).map D.int:=by
    unfold unW;rw[HB,JJ];rw[aK _ (λ(k:Nat)=>D.int (k:Int)) (λk=>D.int (if k=i then 1 else 0)) _ λk _=>?_]
    ·rfl
    ·show some (D.int (if (k:Int)=(i:Int) then 1 else 0))=_
     by_cases e:k=i
     ·rw[Hh e,Hh (by omega)]
     ·rw[He e,He (by omega)]
   have hu:(v5 rows.length)[i]?=some (unW rows.length i):=by unfold v5;rw[List.getElem?_map,List.getElem?_range hil];rfl
   rw[e1,aG hu,Hj];refine⟨by rw[GW,HI];omega,?_⟩;show _++[D.tup [Gu r,_]]=_++[smD nm rows (unW rows.length i)];unfold smD;rw[rc H hr]
 ·rintro δ ⟨x,y,rfl⟩;rw[yg,GW,hN];walk_at "rd";have e:(v5 rows.length).take rows.length=v5 rows.length:=JG (by unfold v5;simp);rw[e];exact q
theorem wo{ws:List Int}{i:Nat}{d:D}(h:(ws.map D.int)[i]?=some d):∃a,ws[i]?=some a/\d=.int a:=by
 rw[List.getElem?_map] at h
 cases e:ws[i]? with
 | none=>rw[e] at h;cases h
 | some n=>rw[e] at h;exact⟨n,rfl,(Hg h).symm⟩
theorem BM{ws:List Int}{n:Nat}(hz:∃w∈ws,w≠0)(hb:∀w∈ws,ib w<=n):ib (gW ws)<=n:=by
 obtain⟨w,hw,hn⟩:=hz;exact eD (mS hw) hn (hb w hw)
inductive jo(ds:List D)(R:D->Prop):Prop
 | mk (ws:List Int) (hh:ds=[.lst (ws.map D.int)]/\ws.length<=60/\(∃w∈ws,w≠0)/\(∀w∈ws,ib w<=8000)/\R (.tup ((shW ws).map D.int)))
def jv:∀ds R,jo ds R->ds.length=1:=λ_ _ ⟨_,e,_⟩=>by rw[e];rfl
theorem cK:aw ["weights","divisor","weight"] ["weights"] (am s_shortened):=by walk_at "sc"
theorem kS(Z:Zz):Z.C 2 "shortened" ["weights"] (Gx Z.K jo):=by
 refine cw Z.x23 cK jv λfa cdv A outer s H E ds R hr h=>?_;have hU:=hr.units;refine⟨_,(ad (aA 1 cK.nd ar) (ad (cx Hl rfl (ak 0) (ap 2 cK.nd) (af (aA 1 cK.nd (aq (cS Z) (rm hr) rfl (ac (ak 1) (ac (ak 2) ae)))))) (af (au (cj fg rfl Z.x54 bM (ac (b6 ["weight"] [(1,"divisor")] rfl rfl (by decide +kernel) rfl (by decide +kernel) (bE ⟨rfl,trivial⟩) (bI rfl) (aY ⟨⟨rfl,rfl,.inl rfl⟩,trivial⟩) (fC (ak 0)) λ_ _ _ _ _=>⟨(ap 0 (show List.Nodup (["weight","divisor"]:List Str) by decide +kernel)),dl,(aD ee (ak 0) (ak 1))⟩) ae)))))),?_⟩;obtain⟨ws,rfl,hl,hz,hb,q⟩:=h;walk_at "rd";simp only[se];walk_at "rd";refine⟨λi δ=>∃x,δ=[.dat (.lst (ws.map D.int)),.dat (.int ((ws.take i).foldl gc 0)),x],⟨_,rfl⟩,?_,?_⟩
 ·rintro i d δ hd ⟨x,rfl⟩;obtain⟨a,ha,rfl⟩:=wo hd;walk_at "rd";refine⟨_,_,rfl,?_⟩;walk_at "rd";rw[aG ha,List.foldl_append];rfl
 ·rintro δ ⟨x,rfl⟩;rw[GW,Ho];walk_at "rd";have g:=rH hz;refine⟨by rw[GW];omega,λd=>match d with | .int a=>some (.int (a.fdiv (gW ws))) | _=>none,λx hx=>?_,?_⟩
  ·obtain⟨a,_,rfl⟩:=GZ.mp hx;walk_at "rd";exact⟨⟨by show gW ws≠0;omega,rS (BM hz hb) (G3 _)⟩,rfl⟩
  ·rw[aK _ D.int (λa=>D.int (a.fdiv (gW ws))) _ λk _=>rfl];unfold shW at q;rw[HB] at q;exact q
def qJ{w:List Int}:smD nm rows w=.tup [Gu (Gw nm rows w),.tup (w.map D.int)]:=rfl
def h7(H:Rws nm rows)(w:List Int):((Gw nm rows w).2.1.map (·.1)).Nodup:=(H.smT w).nd
theorem wK{l h:List Int}:nq (l.map D.int) (h.map D.int)=(l.zip h).map λp=>D.tup [.int p.1,.int p.2]:=by
 unfold nq;rw[JV,List.zip,IR]
inductive my(ds:List D)(R:D->Prop):Prop
 | mk (nm:List Str) (rows:List Rw) (n:Str) (l h:List Int) (hh:ds=[smD nm rows l,smD nm rows h,.str n]/\Rws nm rows/\rows.length<=60/\Wt rows.length l/\Wt rows.length h/\0<cfs (rows.zip l) n/\cfs (rows.zip h) n<0 /\
 ib (cfs (rows.zip l) n)<=8000/\ib (cfs (rows.zip h) n)<=8000/\(∀a∈l,ib a<=8000)/\(∀a∈h,ib a<=8000)/\(∀a∈crS rows n l h,ib a<=8000)/\R (.tup ((crW rows n l h).map D.int)))
def lC:∀ds R,my ds R->ds.length=3:=λ_ _ ⟨_,_,_,_,_,e,_⟩=>by rw[e];rfl
theorem gB:aw ["low","high","name","low_times","high_times"] ["low","high","name"] (am s_crossed):=by walk_at "sc"
theorem nB(Z:Zz):Z.C 3 "crossed" ["low","high","name"] (Gx Z.K my):=by
 refine cw Z.x24 gB lC λfa cdv A outer s H E ds R hr h=>?_;have hU:=hr.units;refine⟨_,(ad (aA 3 gB.nd (wW wZ (aq (be Z) (rm hr) rfl (ac (ak 2) (ac (GF 1) ae))))) (ad (aA 4 gB.nd (aq (be Z) (rm hr) rfl (ac (ak 2) (ac (GF 0) ae)))) (af (au (aq (kS Z) (rm hr) rfl (ac (b6 ["one","other"] [(3,"low_times"),(4,"high_times")] rfl rfl (by decide +kernel) rfl (by decide +kernel) (bE ⟨rfl,rfl,trivial⟩) (bI rfl) (aY ⟨⟨rfl,rfl,.inl rfl⟩,⟨rfl,rfl,.inl rfl⟩,trivial⟩) (kh false false rfl Z.x57 (ac (GF 0) (ac (GF 1) ae))) λ_ _ _ _ _=>⟨(bH (n:=2) rfl (ax (ap 0 (show List.Nodup (["one","other","low_times","high_times"]:List Str) by decide +kernel)) (ax (ap 1 (show List.Nodup (["one","other","low_times","high_times"]:List Str) by decide +kernel)) aS))),dl,(aD aR (aD bu (ak 0) (ak 2)) (aD bu (ak 1) (ak 3)))⟩) ae)))))),?_⟩;obtain⟨nm,rows,n,l,h,rfl,H,hm,wl,wh,cl,ch,b1,b2,b3,b4,b5,q⟩:=h;simp only[qJ];walk_at "rd";refine⟨n,Gw nm rows h,rfl,h7 H h,?_⟩;walk_at "rd";refine⟨n,Gw nm rows l,rfl,h7 H l,?_⟩;walk_at "rd";rw[dH H,dH H,wK];have ll:=wl.len;have lh:=wh.len;refine⟨by rw[GW,Ih];omega,λd=>match d with | .tup [.int a,.int b]=>some (.int (a * -(cfs (rows.zip h) n)+b*cfs (rows.zip l) n)) | _=>none,λx hx=>?_,?_⟩
 ·obtain⟨⟨a,b⟩,hp,rfl⟩:=GZ.mp hx;walk_at "rd";exact⟨mo2 (b3 a (Hv hp).1) (Jo b2),mo2 (b4 b (Hv hp).2) b1⟩
 ·obtain⟨_,nz⟩:=kw wl wh cl ch;refine⟨crS rows n l h,?_,by rw[oW ll lh];omega,nz,b5,q⟩;rw[aK _ (λp:Int×Int=>D.tup [.int p.1,.int p.2]) (λp=>D.int (p.1 * -(cfs (rows.zip h) n)+p.2*cfs (rows.zip l) n)) _ λk _=>rfl];unfold crS;rw[IR,show l.zip h=List.zipWith Prod.mk l h from rfl,IR]
def vB:D->List Int
 | .tup [_,.tup xs]=>xs.map λx=>match x with | .int a=>a | _=>0
 | _=>[]
theorem rC{w:List Int}:vB (smD nm rows w)=w:=by
 show (w.map D.int).map _=w
 rw[HB];exact List.map_id _
theorem d6(p:List Int->Bool):∀W:List (List Int),(W.map (smD nm rows)).filterMap (λd=>if p (vB d)=true then some d else none)=(W.filter p).map (smD nm rows)
 | []=>rfl
 | w::W=>by
  rw[Hm,HP,rC]
  by_cases h:p w=true
  ·rw[Hh h,HC h,d6 p W];rfl
  ·rw[He h,Ht h,d6 p W]
theorem pM{W:List (List Int)}{i:Nat}{d:D}(h:(W.map (smD nm rows))[i]?=some d):∃w,W[i]?=some w/\d=smD nm rows w:=by
 rw[List.getElem?_map] at h
 cases e:W[i]? with
 | none=>rw[e] at h;cases h
 | some n=>rw[e] at h;exact⟨n,rfl,(Hg h).symm⟩
theorem Bt(u:List Int):((u.map D.int).filterMap (λd=>match d with | .int a=>if 0<a then some (D.int a) else none | _=>none)).length=usd u:=by
 unfold usd
 induction u with
 | nil=>rfl
 | cons a u ih =>
  rw[Hm,HP];simp only
  by_cases h:0<a
  ·rw[Hh h,HC (by simpa using h),Ha,Ha,ih]
  ·rw[He h,Ht (by simpa using h),ih]
structure yT(nm:List Str)(rows:List Rw)(B k:Nat)(W:List (List Int)):Prop where
 H:Rws nm rows
 hB:RwB B rows
 m6:rows.length<=60
 n6:nm.length<=60
 wt:∀w∈W,Wt rows.length w
 bits:∀w∈W,∀a∈w,ib a<=wb B rows.length k
 fit:cb B rows.length k<=8000/\wb B rows.length (k+1)<=8000
def yT.w8{B k:Nat}{W:List (List Int)}(S:yT nm rows B k W){w:List Int}(hw:w∈W):∀a∈w,ib a<=8000:=λa ha=>by
 have:=S.bits w hw a ha
 have:=S.fit.1
 unfold cb at this;omega
def yT.c8{B k:Nat}{W:List (List Int)}(S:yT nm rows B k W){w:List Int}(hw:w∈W)(n:Str):ib (cfs (rows.zip w) n)<=8000:=G0 (S.H.cfb S.hB (S.bits w hw) n) S.fit.1
theorem yT.rw{B k:Nat}{W:List (List Int)}(S:yT nm rows B k W):∀r∈rows,RwOk nm 60000000 r:=λr hr=>by
 have h8:B<=8000:=by have:=S.fit.1;unfold cb at this;omega
 exact⟨S.H.sub r hr,λt ht=>G0 (S.hB.tm r hr t ht) (by omega),G0 (S.hB.bd r hr) (by omega)⟩
inductive mr(ds:List D)(R:D->Prop):Prop
 | mk (nm:List Str) (rows:List Rw) (n:Str) (W:List (List Int)) (most B k c:Nat) (hh:ds=[.lst (rows.map Gu),.lst (W.map (smD nm rows)),.str n,.int (most:Nat)]/\yT nm rows B k W/\W.length<=c/\4<=c/\c*c / 4<9000/\R (.lst ((woW rows n most W).map (smD nm rows))))
def lQ:∀ds R,mr ds R->ds.length=4:=λ_ _ ⟨_,_,_,_,_,_,_,_,e,_⟩=>by rw[e];rfl
theorem cc:aw ["rows","sums","name","most","told","lows","highs","low","high","weights"] ["rows","sums","name","most"] (am s_without):=by walk_at "sc"
theorem o8(Z:Zz):Z.C 4 "without" ["rows","sums","name","most"] (Gx Z.K mr):=by
 refine cw Z.x25 cc lQ λfa cdv A outer s H E ds R hr h=>?_;have hU:=hr.units;refine⟨_,(ad (wU 4 cc.nd ["held"] [(2,"name")] rfl rfl (by decide +kernel) rfl (by decide +kernel) (bE ⟨rfl,trivial⟩) (bI rfl) (aY ⟨⟨rfl,rfl,.inl rfl⟩,trivial⟩) (fC (ak 1)) λ_ _ _ _ _=>⟨(ap 0 (show List.Nodup (["held","name"]:List Str) by decide +kernel)),(gX (aE (cX hU) (aq (be Z) (rm hr) rfl (ac (ak 1) (ac (GF 0) ae))) ar (av _))),(ak 0)⟩) (ad (eC 5 cc.nd ["held"] [(2,"name")] rfl rfl (by decide +kernel) rfl (by decide +kernel) (bE ⟨rfl,trivial⟩) (bI rfl) (aY ⟨⟨rfl,rfl,.inl rfl⟩,trivial⟩) (fC (ak 1)) λ_ _ _ _ _=>⟨(ap 0 (show List.Nodup (["held","name"]:List Str) by decide +kernel)),(gX (aE uD (aq (be Z) (rm hr) rfl (ac (ak 1) (ac (GF 0) ae))) ar (av _))),(ak 0)⟩) (ad (eC 6 cc.nd ["held"] [(2,"name")] rfl rfl (by decide +kernel) rfl (by decide +kernel) (bE ⟨rfl,trivial⟩) (bI rfl) (aY ⟨⟨rfl,rfl,.inl rfl⟩,trivial⟩) (fC (ak 1)) λ_ _ _ _ _=>⟨(ap 0 (show List.Nodup (["held","name"]:List Str) by decide +kernel)),(gX (aE yj (aq (be Z) (rm hr) rfl (ac (ak 1) (ac (GF 0) ae))) ar (av _))),(ak 0)⟩) (ad (cx Hl rfl (ak 5) (ap 7 cc.nd) (af (cx Hl rfl (ak 6) (ap 8 cc.nd) (ad (aA 9 cc.nd (aq (nB Z) (rm hr) rfl (ac (ak 7) (ac (ak 8) (ac (ak 2) ae))))) (af (aN (aE o_le (aM f9 rfl Z.x55 dP (ac (b6 ["often"] [] rfl rfl (by decide +kernel) rfl (by decide +kernel) (bE trivial) (bI rfl) (aY trivial) (km (ak 9)) λ_ _ _ _ _=>⟨(ap 0 (show List.Nodup (["often"]:List Str) by decide +kernel)),(gX (aE uD (ak 0) ar (av _))),(ak 0)⟩) ae)) (ak 3) (av _)) (af (bf 4 (aJ (ac (aq (ui Z) (rm hr) rfl (ac (ak 0) (ac (ak 9) ae))) (ac (ak 9) ae))))) aB)))))) (af (kY 4)))))),?_⟩
 obtain⟨nm,rows,n,W,most,B,k,c,rfl,S,hc,h4,hc9,q⟩:=h;have c9:c<9000:=by
  have:c<=c*c / 4:=(JS (by decide)).mpr (Nat.mul_le_mul_left c h4)
  omega
 have sf0:=d6 (nm:=nm) (rows:=rows) (λw=>decide (cfs (rows.zip w) n=0)) W
 have sf1:=d6 (nm:=nm) (rows:=rows) (λw=>decide (0<cfs (rows.zip w) n)) W
 have sf2:=d6 (nm:=nm) (rows:=rows) (λw=>decide (cfs (rows.zip w) n<0)) W
 refine ag λK1 hK1=>?_;walk_at "rd";refine⟨by rw[GW];omega,λd=>if decide (cfs (rows.zip (vB d)) n=0)=true then some d else none,λx hx=>?_,?_⟩
 ·obtain⟨w,hw,rfl⟩:=GZ.mp hx;simp only[rC];simp only[qJ];walk_at "rd";refine⟨n,Gw nm rows w,rfl,h7 S.H w,?_⟩;rw[dH S.H];walk_at "rd";refine dQ (λe=>?_) λe=>?_
  ·rw[Hh e]
  ·rw[He e]
 ·rw[sf0];intro ta;rw[hK1];refine ag λK2 hK2=>?_;walk_at "rd";refine⟨by rw[GW];omega,λd=>if decide (0<cfs (rows.zip (vB d)) n)=true then some d else none,λx hx=>?_,?_⟩
  ·obtain⟨w,hw,rfl⟩:=GZ.mp hx;simp only[rC];simp only[qJ];walk_at "rd";refine⟨n,Gw nm rows w,rfl,h7 S.H w,?_⟩;rw[dH S.H];walk_at "rd";refine dQ (λe=>?_) λe=>?_
   ·rw[Hh e]
   ·rw[He e]
  ·rw[sf1,hK2];refine ag λK3 hK3=>?_;walk_at "rd";refine⟨by rw[GW];omega,λd=>if decide (cfs (rows.zip (vB d)) n<0)=true then some d else none,λx hx=>?_,?_⟩
   ·obtain⟨w,hw,rfl⟩:=GZ.mp hx;simp only[rC];simp only[qJ];walk_at "rd";refine⟨n,Gw nm rows w,rfl,h7 S.H w,?_⟩;rw[dH S.H];walk_at "rd";refine dQ (λe=>?_) λe=>?_
    ·rw[Hh e]
    ·rw[He e]
   ·rw[sf2,hK3];clear sf0 sf1 sf2;have c3:=cnt3 (rows:=rows) (n:=n) W;unfold woW at q;have hL:∀l∈W.filter (λw=>decide (0<cfs (rows.zip w) n)),l∈W/\0<cfs (rows.zip l) n:=λl hl=>⟨(Hi.mp hl).1,by simpa using (Hi.mp hl).2⟩;have hR:∀l∈W.filter (λw=>decide (cfs (rows.zip w) n<0)),l∈W/\cfs (rows.zip l) n<0:=λl hl=>⟨(Hi.mp hl).1,by simpa using (Hi.mp hl).2⟩;generalize W.filter (λw=>decide (cfs (rows.zip w) n=0))=Z at *;generalize W.filter (λw=>decide (0<cfs (rows.zip w) n))=Ls at *;generalize W.filter (λw=>decide (cfs (rows.zip w) n<0))=Rs at *;have zb:Z.length+Ls.length*Rs.length<9000:=Nat.lt_of_le_of_lt (zab (by omega) h4) hc9;refine ag λK4 hK4=>?_;refine cP λF N hF hN=>?_;walk_at "rd";simp only[fM];walk_at "rd";refine⟨λi δ=>∃x y z,δ=[.dat (.lst (rows.map Gu)),.dat (.lst (W.map (smD nm rows))),.dat (.str n),.dat (.int (most:Nat)),.own ta (.lst ((Z++(Ls.take i).flatMap λl=>(Rs.map (crW rows n l)).filter λu=>decide (usd u<=most)).map (smD nm rows))),.dat (.lst (Ls.map (smD nm rows))),.dat (.lst (Rs.map (smD nm rows))),x,y,z],⟨_,_,_,by rw[Jl,List.flatMap_nil,HJ]⟩,?_,?_⟩
    ·rintro i d δ hd ⟨x,y,z,rfl⟩;obtain⟨l,hl,rfl⟩:=pM hd;obtain⟨lW,cl⟩:=hL l (Hc hl);have hil:i<Ls.length:=(List.getElem?_eq_some_iff.mp hl).1;rw[hF];walk_at "rd";refine cP λF2 N2 hF2 hN2=>?_;walk_at "rd";simp only[fM];walk_at "rd";refine⟨λj δ=>∃y z,δ=[.dat (.lst (rows.map Gu)),.dat (.lst (W.map (smD nm rows))),.dat (.str n),.dat (.int (most:Nat)),.own ta (.lst ((Z++(Ls.take i).flatMap (λl=>(Rs.map (crW rows n l)).filter λu=>decide (usd u<=most))++((Rs.take j).map (crW rows n l)).filter λu=>decide (usd u<=most)).map (smD nm rows))),.dat (.lst (Ls.map (smD nm rows))),.dat (.lst (Rs.map (smD nm rows))),.dat (smD nm rows l),y,z],⟨_,_,by rw[Jl,Jv,List.filter_nil,HJ]⟩,?_,?_⟩
     ·rintro j d δ hd ⟨y,z,rfl⟩;obtain⟨h,hh,rfl⟩:=pM hd;obtain⟨hW,ch⟩:=hR h (Hc hh);have hjl:j<Rs.length:=(List.getElem?_eq_some_iff.mp hh).1;rw[hF2];show eT _ _ _ _;refine bX λK5 hK5=>?_;walk_at "rd";refine⟨nm,rows,n,l,h,rfl,S.H,S.m6,S.wt l lW,S.wt h hW,cl,ch,S.c8 lW n,S.c8 hW n,S.w8 lW,S.w8 hW,λa ha=>G0 (lu S.H S.hB (S.bits l lW) (S.bits h hW) a ha) S.fit.2,?_⟩;walk_at "rd";rw[hK5];have ww:=vF (S.wt l lW) (S.wt h hW) cl ch;have wbt:∀a∈crW rows n l h,ib a<=60000000:=λa ha=>by
       obtain⟨b,hb',rfl⟩:=GZ.mp ha;exact HW (G0 (lu S.H S.hB (S.bits l lW) (S.bits h hW) b hb') (G0 S.fit.2 (by decide)))
      have tk:(((Rs.take (j+1)).map (crW rows n l)).filter λu=>decide (usd u<=most))=(((Rs.take j).map (crW rows n l)).filter λu=>decide (usd u<=most))++if usd (crW rows n l h)<=most then [crW rows n l h] else []:=by
       rw[aG hh,Hj,List.filter_append]
       congr 1
       by_cases e:usd (crW rows n l h)<=most
       ·rw[Hh e];simp[e]
       ·rw[He e];simp[e]
      simp only[tk];generalize crW rows n l h=u at *;walk_at "rd";refine⟨by rw[GW,ww.len];have:=S.m6;omega,λd=>match d with | .int a=>if 0<a then some (.int a) else none | _=>none,λx hx=>?_,?_⟩
      ·obtain⟨a,_,rfl⟩:=GZ.mp hx;walk_at "rd";refine dQ (λe=>?_) λe=>?_
       ·rw[Hh e]
       ·rw[He e]
      ·rw[Bt];refine dQ (λe=>?_) λe=>?_
       ·have e:usd u<=most:=by omega
        rw[Hh e];refine⟨rows,u,nm,rfl,S.n6,S.rw,wbt,λts hts=>?_⟩;have:=hts.uniq (S.H.smT u);subst this;walk_at "rd";refine⟨?_,?_⟩
        ·rw[GW,G8,G8];have f1:=lH (rows:=rows) (n:=n) (most:=most) Rs (Ls.take i);have f2:=Je (λu=>decide (usd u<=most)) ((Rs.take j).map (crW rows n l));rw[GW,HI] at f2;rw[HI,show min i Ls.length=i by omega] at f1;have f3:=Nat.mul_le_mul_right Rs.length (show i+1<=Ls.length from hil);rw[Nat.succ_mul] at f3;omega
        ·rw[<- Ji,Hj (l₂:=[u])];rfl
       ·have e:¬ usd u<=most:=by omega
        rw[He e,HJ]
     ·rintro δ ⟨y,z,rfl⟩;rw[GW,Ho,hN2];walk_at "rd";rw[aG hl,IA,<- Ji];simp only[List.flatMap_cons,List.flatMap_nil,List.append_nil]
      try exact⟨_,_,_,rfl⟩
    ·rintro δ ⟨x,y,z,rfl⟩;rw[GW,Ho,hN,hK4];walk_at "rd";exact q
def sT(rows:List Rw):List Str->List (List (List Int))
 | []=>[Gv rows []]
 | n::ns=>Gv rows (n::ns)::sT rows ns
def oO(nm:List Str)(rows:List Rw)(W:List (List Int)):D:=.lst (W.map (smD nm rows))
theorem fA:∀ns:List Str,(sT rows ns).length=ns.length+1
 | []=>rfl
 | n::ns=>by show (sT rows ns).length+1=_;rw[fA ns];rfl
theorem pL:∀(ns:List Str) (j:Nat),j<=ns.length->(sT rows ns)[j]?=some (Gv rows (ns.drop j))
 | [],0,_=>rfl
 | n::ns,0,_=>rfl
 | n::ns,j+1,h=>pL ns j (by simpa using h)
theorem wE{B B' m m':Nat}(h1:B<=B')(h2:m<=m'):∀k,wb B m k<=wb B' m' k
 | 0=>G3 1
 | k+1=>by have:=wE h1 h2 k;show 2*wb B m k+B+m+1<=2*wb B' m' k+B'+m'+1;omega
theorem Af{B m a:Nat}:∀ {b:Nat},a<=b->wb B m a<=wb B m b
 | 0,h=>by rw[Nat.le_zero.mp h];exact G3 _
 | b+1,h=>by
  by_cases e:a=b+1
  ·rw[e];exact G3 _
  ·exact G0 (Af (b:=b) (by omega)) uM
structure Fit(nm:List Str)(rows:List Rw)(B N:Nat):Prop where
 H:Rws nm rows
 hB:RwB B rows
 m6:rows.length<=6
 n6:nm.length<=60
 n4:N<=4
 wN:wb B 6 (N+1)<=7990
def Fit.wk{B N k:Nat}(F:Fit nm rows B N)(h:k<=N+1):wb B rows.length k<=7990:=G0 (wE (G3 B) F.m6 k) (G0 (Af h) F.wN)
theorem Fit.ck{B N k:Nat}(F:Fit nm rows B N)(h:k<=N):cb B rows.length k<=7990:=by
 have:2*wb B rows.length k+B+rows.length+1<=7990:=F.wk (k:=k+1) (by omega)
 unfold cb;omega
theorem Gp{B m:Nat}(h2:m<=6)(k:Nat):cb B m k<=cb B 6 k:=by have:=wE (G3 B) h2 k;unfold cb;omega
theorem Fit.sums{B N:Nat}(F:Fit nm rows B N)(h:ns.length<=N):yT nm rows B ns.length (Gv rows ns):=by
 have w1:=F.ck h
 have w2:=F.wk (k:=ns.length+1) (by omega)
 have:=F.m6
 exact⟨F.H,F.hB,by omega,F.n6,λw hw=>(cz hw).1,λw hw=>cN F.H F.hB hw,by omega,by omega⟩
inductive iT(ds:List D)(R:D->Prop):Prop
 | mk (nm:List Str) (rows:List Rw) (B N:Nat) (ns:List Str) (hh:ds=[.lst (rows.map Gu),.lst (ns.map D.str)]/\Fit nm rows B N/\ns.length<=N/\R (.lst ((sT rows ns).map (oO nm rows))))
def jA:∀ds R,iT ds R->ds.length=2:=λ_ _ ⟨_,_,_,_,_,e,_⟩=>by rw[e];rfl
def cnt6:∀ {k:Nat},k<=3->cnt 6 k*cnt 6 k / 4<9000
 | 0,_=>by decide
 | 1,_=>by decide
 | 2,_=>by decide
 | 3,_=>by decide
 | k+4,h=>by omega
theorem AX{i:Nat}{d:D}(h:(ns.map D.str).reverse[i]?=some d):∃n,d=.str n/\i<ns.length/\ns.drop (ns.length-(i+1))=n::ns.drop (ns.length-i):=by
 have hi:i<ns.length:=by
  have:=(List.getElem?_eq_some_iff.mp h).1
  simpa using this
 rw[List.getElem?_reverse (by simpa using hi),GW,List.getElem?_map] at h;have e:ns.length-(i+1)<ns.length:=by omega
 have e1:ns.length-1-i=ns.length-(i+1):=by omega
 rw[e1,List.getElem?_eq_getElem e] at h;refine⟨ns[ns.length-(i+1)],(Hg h).symm,hi,?_⟩;rw[Ip e]
 congr 2
 omega
theorem cu:aw ["rows","names","sums","told","name"] ["rows","names"] (am s_taken_out):=by walk_at "sc"
theorem lT(Z:Zz):Z.C 5 "taken_out" ["rows","names"] (Gx Z.K iT):=by
 refine cw Z.x26 cu jA λfa cdv A outer s H E ds R hr h=>?_;have hU:=hr.units;refine⟨_,(ad (aA 2 cu.nd (aq (uV Z) (rm hr) rfl (ac (ak 0) ae))) (ad (dy 3 cu.nd (ac (ak 2) ae)) (ad (fY Hl rfl (EF rfl Z.x60 (ac (ak 1) ae)) (ap 4 cu.nd) (ad (aA 2 cu.nd (aq (o8 Z) (rm hr) rfl (ac (ak 0) (ac (ak 2) (ac (ak 4) (ac (aD aR (oI 3 rfl Z.x55 dP) ar) ae)))))) (af (wM 3 (ak 2))))) (af (kY 3))))),?_⟩;obtain⟨nm,rows,B,N0,ns,rfl,F,h4,q⟩:=h;have n4:=F.n4;walk_at "rd";refine⟨rows,nm,rfl,F.H,by have:=F.m6;omega,?_⟩;walk_at "rd";intro ta;refine dA λFb N hF hN=>?_;walk_at "rd";simp only[kc];walk_at "rd";refine⟨λi δ=>∃x,δ=[.dat (.lst (rows.map Gu)),.dat (.lst (ns.map D.str)),.dat (oO nm rows (Gv rows (ns.drop (ns.length-i)))),.own ta (.lst ((sT rows (ns.drop (ns.length-i))).map (oO nm rows))),x],⟨_,by rw[Nat.sub_zero,List.drop_length];rfl⟩,?_,?_⟩
 ·rintro i d δ hd ⟨x,rfl⟩;obtain⟨n,rfl,hi,hdr⟩:=AX hd;simp only[hdr];have hl:(ns.drop (ns.length-i)).length=i:=by rw[Jq];omega
  generalize ns.drop (ns.length-i)=l at *
  rw[hF];show eT _ _ _ _;refine bX λK1 hK1=>?_;walk_at "rd";obtain⟨c1,c2⟩:=vq (rows:=rows) F.m6 (by decide) l;rw[hl] at c1 c2;refine⟨nm,rows,n,Gv rows l,l.length+2,B,l.length,cnt 6 i,?_,F.sums (by omega),c1,c2,cnt6 (by omega),?_⟩
  ·rw[GW,fA];show [_,oO nm rows (Gv rows l),_,_]=_;unfold oO
   congr 4
  ·walk_at "rd";rw[hK1];walk_at "rd";refine⟨by rw[GW,fA];omega,rfl,rfl⟩
 ·rintro δ ⟨x,rfl⟩;rw[Ju,GW,Nat.sub_self,hN];walk_at "rd";exact q
inductive gv(ds:List D)(R:D->Prop):Prop
 | mk (n:Str) (r:Rw) (ks:List Str) (ps:List (Int×Int)) (c κ T:Nat) (hh:ds=[.str n,Gu r,.dct ks (ps.map GJ)]/\(r.2.1.map (·.1)).Nodup/\ks.length<=60/\(∀t∈r.2.1,t.1≠n->t.1∈ks)/\cf r.2.1 n≠0/\Pt ks ps T/\T<=1000000/\ib (Gs (pB ks ps) ks)<=κ/\c+κ<=7990 /\
 ib (cf r.2.1 n)<=c/\(∀t∈r.2.1,ib t.2<=c)/\ib r.2.2<=c/\R (GJ (bnd ks ps n r)))
def jQ:∀ds R,gv ds R->ds.length=3:=λ_ _ ⟨_,_,_,_,_,_,_,e,_⟩=>by rw[e];rfl
theorem iY(p:Str×Int->Bool)(g:D->Option D)(h1:∀t,p t=true->g (GQ t)=some (GQ t))(h2:∀t,p t=false->g (GQ t)=none):∀ts:List (Str×Int),(ts.map GQ).filterMap g=(ts.filter p).map GQ
 | []=>rfl
 | t::ts=>by
  rw[Hm,HP]
  cases e:p t with
  | true=>rw[h1 t e,HC e,iY p g h1 h2 ts];rfl
  | false=>rw[h2 t e,Ht (by rw[e];decide),iY p g h1 h2 ts]
theorem ff:aw ["name","row","point","others","known"] ["name","row","point"] (am s_bound_on):=by walk_at "sc"
theorem gU(Z:Zz):Z.C 3 "bound_on" ["name","row","point"] (Gx Z.K gv):=by
 refine cw Z.x27 ff jQ λfa cdv A outer s H E ds R hr h=>?_;have hU:=hr.units;refine⟨_,(ad (eC 3 ff.nd ["term"] [(0,"name")] rfl rfl (by decide +kernel) rfl (by decide +kernel) (bE ⟨rfl,trivial⟩) (bI rfl) (aY ⟨⟨rfl,rfl,.inl rfl⟩,trivial⟩) (km (GF 1)) λ_ _ _ _ _=>⟨(ap 0 (show List.Nodup (["term","name"]:List Str) by decide +kernel)),(gX (aE (fS hU) (GF 0) (ak 1) (av _))),(ak 0)⟩) (ad (aA 4 ff.nd (aq (jd Z) (rm hr) rfl (ac (b6 ["term"] [] rfl rfl (by decide +kernel) rfl (by decide +kernel) (bE trivial) (bI rfl) (aY trivial) (fC (ak 3)) λ_ _ _ _ _=>⟨(ap 0 (show List.Nodup (["term"]:List Str) by decide +kernel)),dl,(GF 0)⟩) (ac (ak 2) ae)))) (af (au (aq (fN Z) (rm hr) rfl (ac (aD jZ (aD bu (GF 1) (GF 4)) (aq (eQ Z) (rm hr) rfl (ac (ak 3) (ac (GF 4) ae)))) (ac (aD bu (aq (be Z) (rm hr) rfl (ac (ak 0) (ac (ak 1) ae))) (GF 4)) ae))))))),?_⟩;obtain⟨n,⟨k,ts,b⟩,ks,ps,c,κ,T,rfl,nd,hk,hp,hc,P,hT,hκ,hcκ,b1,b2,b3,q⟩:=h;simp only at nd hp hc b1 b2 b3 q;have lt:ts.length<=61:=by
  have h1:(ts.map (·.1)).length<=(n::ks).length:=dM nd λx hx=>by
   obtain⟨t,ht,rfl⟩:=GZ.mp hx
   by_cases e:t.1=n
   ·exact G7.mpr (.inl e)
   ·exact GY _ (hp t ht e)
  rw[GW,Ha] at h1;omega
 unfold Gu ie;refine ag λK1 hK1=>?_;walk_at "rd";refine⟨by rw[GW];omega,λd=>match d with | .tup [.str x,w]=>if x≠n then some (.tup [.str x,w]) else none | _=>none,λx hx=>?_,?_⟩
 ·obtain⟨t,_,rfl⟩:=GZ.mp hx;unfold GQ;walk_at "rd";refine dQ (λe=>?_) λe=>?_
  ·simp[e]
  ·simp[e]
 ·rw[iY (λt=>decide (t.1≠n)) _ (λt ht=>by unfold GQ;simp only;rw[Hh (by simpa using ht)]) (λt ht=>by unfold GQ;simp only;rw[He (by simpa using ht)])];unfold bnd at q;simp only at q;have ho:∀t∈ts.filter (λt=>decide (t.1≠n)),t.1∈ks/\ib t.2<=c:=λt ht=>by
   obtain⟨h1,h2⟩:=Hi.mp ht;exact⟨hp t h1 (by simpa using h2),b2 t h1⟩
  have ndo:((ts.filter (λt=>decide (t.1≠n))).map (·.1)).Nodup:=nd.sublist (List.filter_sublist.map _)
  have hlo:=Je (λt:Str×Int=>decide (t.1≠n)) ts
  generalize ts.filter (λt=>decide (t.1≠n))=o at *
  have hon:∀x∈o.map (·.1),x∈ks:=λx hx=>by
   obtain⟨t,ht,rfl⟩:=GZ.mp hx;exact(ho t ht).1
  have pos:∀x∈ks,0<pB ks ps x:=λx hx=>P.pos hx
  have bK:=mR ndo hon pos hκ
  have pK:=cG (q:=pB ks ps) (l:=o.map (·.1)) λx hx=>pos x (hon x hx)
  rw[hK1];walk_at "rd";refine⟨by rw[GW];omega,λd=>match d with | .tup (x::_)=>some x | _=>none,λx hx=>?_,?_⟩
  ·obtain⟨t,_,rfl⟩:=GZ.mp hx;unfold GQ;walk_at "rd"
  ·refine⟨o.map (·.1),ks,ps,T,κ,?_,ndo,?_,hon,P,hT,hκ,by omega,?_⟩
   ·rw[aK _ GQ (λt=>D.str t.1) _ (by intro _ _;rfl),HB];rfl
   ·have:=dM ndo hon
    omega
   ·walk_at "rd";refine⟨mo2 b3 bK (by omega),true,o,_,_,_,rfl,λt ht=>⟨cB (λx=>D.int (ov (pT ks ps) (pB ks ps) (Gs (pB ks ps) (o.map (·.1))) x)) (GZ.mpr ⟨t,ht,rfl⟩),G0 (ho t ht).2 (by omega),G0 (Hw (P.Tb (ho t ht).1) (HW bK)) (by omega)⟩,?_⟩;walk_at "rd";refine⟨n,(k,ts,b),rfl,nd,?_⟩;walk_at "rd";refine⟨mo2 b1 bK (by omega),_,_,rfl,HN hc (by omega),G0 (Hw b1 bK) (by omega),?_⟩;exact q
def oD:Option (Int×Int)->D
 | none=>.non
 | some p=>GJ p
def zW(e:En2):D:=.tup [oD e.1,.bl e.2]
inductive m8(ds:List D)(R:D->Prop):Prop
 | mk (a b:En2) (lo:Bool) (hh:ds=[zW a,zW b,.bl lo]/\(∀p,a.1=some p->ib p.1<=1000000/\ib p.2<=8000)/\(∀p,b.1=some p->ib p.1<=1000000/\ib p.2<=8000)/\R (zW (tgt lo a b)))
def lO:∀ds R,m8 ds R->ds.length=3:=λ_ _ ⟨_,_,_,e,_⟩=>by rw[e];rfl
theorem rJ:aw ["one","other","is_low"] ["one","other","is_low"] (am s_tighter):=by walk_at "sc"
theorem jK(Z:Zz):Z.C 2 "tighter" ["one","other","is_low"] (Gx Z.K m8):=by
 refine cw Z.x28 rJ lO λfa cdv A outer s H E ds R hr h=>?_;have hU:=hr.units;refine⟨_,(ad (aN (aE B5 (GF 0) kq (av _)) (af (au (ak 1))) aB) (ad (aN (aE B5 (GF 1) kq (av _)) (af (au (ak 0))) aB) (ad (aN (aE (Br hU) (GF 0) (GF 1) (av _)) (af (au (aJ (ac (GF 0) (ac (gf (GF 0) (cF (GF 1))) ae))))) aB) (af (au (uQ (aE (Br hU) (aq (pC Z) (rm hr) rfl (ac (GF 1) (ac (GF 0) ae))) (ak 2) (av _)) (ak 0) (ak 1))))))),?_⟩;obtain⟨⟨a,ab⟩,⟨b,bb⟩,lo,rfl,ha,hb,q⟩:=h;unfold zW at q ⊢;refine ag λK1 h1=>?_
 cases a with
 | none =>
  unfold oD;walk_at "rd";exact q
 | some p =>
  rw[show oD (some p)=.tup [.int p.1,.int p.2] from rfl];walk_at "rd";rw[h1];refine ag λK2 h2=>?_
  cases b with
  | none =>
   unfold oD;walk_at "rd";exact q
  | some r =>
   obtain⟨p1,p2⟩:=ha p rfl;obtain⟨r1,r2⟩:=hb r rfl;unfold tgt at q;simp only at q;rw[show oD (some r)=.tup [.int r.1,.int r.2] from rfl];walk_at "rd";rw[h2];refine ag λK3 h3=>?_;walk_at "rd";refine dQ (λe=>?_) λe=>?_
   ·have e:p=r:=Prod.ext (by simpa using IB Prod.fst e) (by simpa using IB Prod.snd e)
    rw[Hh e] at q
    cases ab with
    | true=>exact ifp rfl q
    | false=>exact GH G4 q
   ·rw[He (λz=>e (by rw[z]))] at q;rw[h3];walk_at "rd";refine⟨r,p,rfl,G0 r1 (by decide),G0 p1 (by decide),r2,p2,?_⟩;walk_at "rd";refine dQ (λe=>?_) λe=>?_
    ·rw[Hh e] at q;exact q
    ·rw[He e] at q;exact q
inductive jy(ds:List D)(R:D->Prop):Prop
 | mk (lo hi:Option (Int×Int)) (x y:Bool) (hh:ds=[.tup [oD lo,.bl x,oD hi,.bl y]]/\(∀p,lo=some p->p.2≠0/\ib p.1<=1000000/\ib p.2<=3990)/\(∀p,hi=some p->p.2≠0/\ib p.1<=1000000/\ib p.2<=3990)/\R (GJ (nmb lo hi)))
def i7:∀ds R,jy ds R->ds.length=1:=λ_ _ ⟨_,_,_,_,e,_⟩=>by rw[e];rfl
theorem cR:aw ["piece","low","high","whole"] ["piece"] (am s_number_in):=by walk_at "sc"
theorem lc(Z:Zz):Z.C 4 "number_in" ["piece"] (Gx Z.K jy):=by
 refine cw Z.x29 cR i7 λfa cdv A outer s H E ds R hr h=>?_;have hU:=hr.units;refine⟨_,(ad (aA 1 cR.nd (GF 0)) (ad (aA 2 cR.nd (GF 0)) (ad (aN (DW.dt (y7 (aE B5 (ak 1) kq (av _)) (uW (aE B5 (ak 2) kq (av _))))) (af (au (aJ (ac ar (ac ar ae))))) aB) (ad (aN (aE B5 (ak 1) kq (av _)) (af (au (aq (fN Z) (rm hr) rfl (ac (aD jZ (aD ee (GF 2) (GF 2)) ar) (ac ar ae))))) aB) (ad (aA 3 cR.nd (aq (fN Z) (rm hr) rfl (ac (aD aR (aD ee (GF 1) (GF 1)) ar) (ac ar ae)))) (ad (aN (DW.dt (fu (aE B5 (ak 2) kq (av _)) (dm (bJ (aq (pC Z) (rm hr) rfl (ac (ak 3) (ac (ak 2) ae))))))) (af (au (ak 3))) aB) (ad (aN (aE (Br hU) (ak 1) (ak 2) (av _)) (af (au (ak 1))) aB) (af (au (aq (uF Z) (rm hr) rfl (ac (aq (wT Z) (rm hr) rfl (ac (ak 1) (ac (ak 2) ae))) (ac (aJ (ac ar (ac ar ae))) ae)))))))))))),?_⟩;obtain⟨lo,hi,x,y,rfl,hl,hh,q⟩:=h;have m1:∀a:Int,ib (GG a 1)<=1:=λa=>by rw[(pD a).2];decide
 refine ag λK1 hK1=>?_;walk_at "rd";rw[hK1];refine ag λK2 hK2=>?_;walk_at "rd";rw[hK2];refine ag λK3 hK3=>?_
 cases lo with
 | none =>
  cases hi with
  | none =>
   unfold oD;walk_at "rd";exact q
  | some h =>
   obtain⟨h0,h1,h2⟩:=hh h rfl;unfold oD GJ;walk_at "rd";rw[hK3];refine ag λK4 hK4=>?_;walk_at "rd";exact⟨⟨h0,rS h2 (by decide)⟩,_,_,rfl,by decide,by decide,q⟩
 | some l =>
  obtain⟨l0,l1,l2⟩:=hl l rfl;have bt:ib (GN (l.1.fdiv l.2+1) 1)<=1000000+1:=by
   rw[(pD _).1];have:=II (HW (y:=l.2) l1) (show ib 1<=1 by decide);unfold ib;omega
  cases hi with
  | none =>
   unfold oD GJ;walk_at "rd";rw[hK3];refine ag λK4 hK4=>?_;walk_at "rd";rw[hK4];refine ag λK5 hK5=>?_;walk_at "rd";refine⟨⟨l0,rS l2 (by decide)⟩,_,_,rfl,by decide,by decide,?_⟩;walk_at "rd";rw[hK5];refine ag λK6 hK6=>?_;walk_at "rd";exact q
  | some h =>
   obtain⟨h0,h1,h2⟩:=hh h rfl;unfold nmb at q;simp only at q;unfold oD GJ;walk_at "rd";rw[hK3];refine ag λK4 hK4=>?_;walk_at "rd";rw[hK4];refine ag λK5 hK5=>?_;walk_at "rd";refine⟨⟨l0,rS l2 (by decide)⟩,_,_,rfl,by decide,by decide,?_⟩;walk_at "rd";rw[hK5];refine ag λK6 hK6=>?_;walk_at "rd";refine⟨(GN (l.1.fdiv l.2+1) 1,GG (l.1.fdiv l.2+1) 1),h,rfl,G0 bt (by decide),G0 h1 (by decide),G0 (m1 _) (by decide),G0 h2 (by decide),?_⟩;walk_at "rd";refine dQ (λe=>?_) λe=>?_
   ·rw[Hh e] at q;exact q
   ·rw[He e] at q;rw[hK6];refine ag λK7 hK7=>?_;walk_at "rd";refine dQ (λe=>?_) λe=>?_
    ·have e:l=h:=Prod.ext (by simpa using IB Prod.fst e) (by simpa using IB Prod.snd e)
     rw[Hh e] at q;exact q
    ·rw[He (λz=>e (by rw[z]))] at q;rw[hK7];walk_at "rd";refine⟨l,h,rfl,HN l0 h0,l1,h1,G0 l2 (by decide),G0 h2 (by decide),?_⟩;have sb:=Hw l2 h2;have st:=II (Hw l1 h2) (Hw h1 l2);have sl:=eL (l.1*h.2+h.1*l.2) (HN l0 h0);refine⟨(GN (l.1*h.2+h.1*l.2) (l.2*h.2),GG (l.1*h.2+h.1*l.2) (l.2*h.2)),(1,2),rfl,HN sl.ne (by decide),G0 (HW st) (by decide),by decide,G0 (HW sb) (by decide),by decide,?_⟩;exact q
theorem xg{l:List (Rw×Int)}:(decide (kdS (kOf (GI l))=("least":Str)):Bool)=!GI l:=by cases GI l<;>rfl
structure Pcs(nm:List Str)(rows:List Rw)(ks:List Str)(ps:List (Int×Int))(n:Str)(W:List (List Int))(c κ g T:Nat)(L:Int):Prop where
 H:Rws nm rows
 k6:ks.length<=60
 nms:∀w∈W,∀t∈(Gw nm rows w).2.1,t.1≠n->t.1∈ks
 P:Pt ks ps T
 hT:c+T+κ+80<=1000000
 hκ:ib (Gs (pB ks ps) ks)<=κ
 L0:L≠0
 hL:∀k∈ks,pB ks ps k ∣ L
 hg:ib L<=g
 gκ:g<=κ
 cg:c+g<=3990
 cκ:c+κ<=7990
 cb:∀w∈W,∀x,ib (cfs (rows.zip w) x)<=c
 bb:∀w∈W,ib (bds (rows.zip w))<=c
def Pcs.tb{W:List (List Int)}{c κ g T:Nat}(h:Pcs nm rows ks ps n W c κ g T L){w:List Int}(hw:w∈W):∀t∈(Gw nm rows w).2.1,ib t.2<=c:=λt ht=>by
 rw[(kX ht).2.2];exact h.cb w hw _
def Pcs.cnd{W:List (List Int)}{c κ g T:Nat}(h:Pcs nm rows ks ps n W c κ g T L){w:List Int}(hw:w∈W)(hc:cfs (rows.zip w) n≠0):nQ L c g κ T (cnd nm rows ks ps n w).1 :=
 wR h.P h.hκ h.L0 h.hL h.hg (h7 h.H w) h.k6 (h.nms w hw) (by rw[dH h.H];exact hc) (by rw[dH h.H];exact h.cb w hw n) (h.tb hw) (h.bb w hw)
inductive jJ(ds:List D)(R:D->Prop):Prop
 | mk (nm:List Str) (rows:List Rw) (ks:List Str) (ps:List (Int×Int)) (n:Str) (W:List (List Int)) (c κ g T:Nat) (L:Int) (hh:ds=[.str n,oO nm rows W,.dct ks (ps.map GJ)]/\Pcs nm rows ks ps n W c κ g T L /\
 R (.tup [oD (GA nm rows ks ps n W).1.1,.bl (GA nm rows ks ps n W).1.2,oD (GA nm rows ks ps n W).2.1,.bl (GA nm rows ks ps n W).2.2]))
def iP:∀ds R,jJ ds R->ds.length=3:=λ_ _ ⟨_,_,_,_,_,_,_,_,_,_,_,e,_⟩=>by rw[e];rfl
theorem xi{W:List (List Int)}{i:Nat}{w:List Int}(h:W[i]?=some w):GA nm rows ks ps n (W.take (i+1)) =
    (if 0<cfs (rows.zip w) n then tgt true (GA nm rows ks ps n (W.take i)).1 (some (cnd nm rows ks ps n w).1,(cnd nm rows ks ps n w).2) else (GA nm rows ks ps n (W.take i)).1,
     if cfs (rows.zip w) n<0 then tgt false (GA nm rows ks ps n (W.take i)).2 (some (cnd nm rows ks ps n w).1,(cnd nm rows ks ps n w).2) else (GA nm rows ks ps n (W.take i)).2):=by
  unfold GA;rw[aG h,List.foldl_append];rfl
theorem a7:aw ["name","sums","point","low","high","row","weights","weight"] ["name","sums","point"] (am s_piece_for):=by walk_at "sc"
theorem kQ(Z:Zz):Z.C 4 "piece_for" ["name","sums","point"] (Gx Z.K jJ):=by
 refine cw Z.x30 a7 iP λfa cdv A outer s H E ds R hr h=>?_;have hU:=hr.units;refine⟨_,(ad (aA 3 a7.nd (uq rfl Z.g_ENDLESS)) (ad (aA 4 a7.nd (uq rfl Z.g_ENDLESS)) (ad (cx Hl rfl (ak 1) (bH (n:=2) rfl (ax (ap 5 a7.nd) (ax (ap 6 a7.nd) aS))) (ad (aA 7 a7.nd (aq (be Z) (rm hr) rfl (ac (ak 0) (ac (ak 5) ae)))) (ad (aN (aE uD (ak 7) ar (av _)) (af (aA 3 a7.nd (aq (jK Z) (rm hr) rfl (ac (ak 3) (ac (aJ (ac (aq (gU Z) (rm hr) rfl (ac (ak 0) (ac (ak 5) (ac (ak 2) ae)))) (ac (bU (cX hU) (GF 5) ay (av _)) ae))) (ac dh ae)))))) aB) (af (aN (aE yj (ak 7) ar (av _)) (af (aA 4 a7.nd (aq (jK Z) (rm hr) rfl (ac (ak 4) (ac (aJ (ac (aq (gU Z) (rm hr) rfl (ac (ak 0) (ac (ak 5) (ac (ak 2) ae)))) (ac (bU (cX hU) (GF 5) ay (av _)) ae))) (ac dh ae)))))) aB))))) (af (au (aD aR (ak 3) (ak 4))))))),?_⟩;obtain⟨nm,rows,ks,ps,n,W,c,κ,g,T,L,rfl,S,q⟩:=h;unfold oO;refine ag λK1 hK1=>?_;walk_at "rd";rw[hK1];refine ag λK2 hK2=>?_;walk_at "rd";rw[hK2];refine ag λK3 hK3=>?_;refine cP λF N hF hN=>?_;walk_at "rd";simp only[fM];walk_at "rd";refine⟨λi δ=>∃x y z,δ=[.dat (.str n),.dat (.lst (W.map (smD nm rows))),.dat (.dct ks (ps.map GJ)),.dat (zW (GA nm rows ks ps n (W.take i)).1),.dat (zW (GA nm rows ks ps n (W.take i)).2),x,y,z],⟨_,_,_,rfl⟩,?_,?_⟩
 ·rintro i d δ hd ⟨x,y,z,rfl⟩;obtain⟨w,hw,rfl⟩:=pM hd;have hm:=Hc hw;have pre:=yC (nm:=nm) (rows:=rows) (ks:=ks) (ps:=ps) (n:=n) (Pr:=λp=>ib p.1<=1000000/\ib p.2<=8000) (W:=W.take i) λw hw hc=>by
   have k:=S.cnd (IK hw) hc
   have k1:=k.bb
   have k2:=k.tb
   have k3:=S.cg
   have k4:=S.hT
   exact⟨by omega,by omega⟩
  rw[hF];simp only[xi hw];generalize GA nm rows ks ps n (W.take i)=e at *;obtain⟨lo,hi⟩:=e;show jS _ _ (.tup [Gu (Gw nm rows w),.tup (w.map D.int)]) _ _;refine bX λK4 hK4=>?_;walk_at "rd";refine⟨n,Gw nm rows w,rfl,h7 S.H w,?_⟩;walk_at "rd";rw[dH S.H,hK4];have k6:=S.k6;have bnd:cfs (rows.zip w) n≠0->∀R:D->Prop,R (GJ (cnd nm rows ks ps n w).1)->gv [.str n,Gu (Gw nm rows w),.dct ks (ps.map GJ)] R:=λhc R r =>
   ⟨n,Gw nm rows w,ks,ps,c,κ,T,rfl,h7 S.H w,k6,S.nms w hm,by rw[dH S.H];exact hc,S.P,by have:=S.hT;omega,S.hκ,by have:=S.cκ;omega,by rw[dH S.H];exact S.cb w hm n,S.tb hm,S.bb w hm,r⟩
  have cb:cfs (rows.zip w) n≠0->∀p,some (cnd nm rows ks ps n w).1=some p->ib p.1<=1000000/\ib p.2<=8000:=λhc p hp=>by
   cases hp
   have k:=S.cnd hm hc
   have k1:=k.bb
   have k2:=k.tb
   have k3:=S.cg
   have k4:=S.hT
   exact⟨by omega,by omega⟩
  have word:∀R:D->Prop,R (.bl (cnd nm rows ks ps n w).2)->fIx [Gu (Gw nm rows w),.int 0] λd=>fEq [d,.str "least"] R:=λR r=>by
   unfold Gu ie Gw;walk_at "rd";rw[xg];exact r
  generalize cnd nm rows ks ps n w=cn at *
  obtain⟨cp,cs⟩:=cn
  rcases Int.lt_trichotomy (cfs (rows.zip w) n) 0 with hc | hc | hc
  ·refine ag λK5 hK5=>?_;walk_at "rd";refine GH (by omega) ?_;rw[hK5];walk_at "rd";refine ifp hc (bnd (by omega) _ ?_);walk_at "rd";refine word _ ?_;refine⟨hi,(some cp,cs),false,rfl,pre.2,cb (by omega),?_⟩;simp only[if_neg (show ¬ 0<cfs (rows.zip w) n by omega),if_pos hc]
   first | exact⟨_,_,_,rfl⟩ | trivial | rfl
  ·refine ag λK5 hK5=>?_;walk_at "rd";refine GH (by omega) ?_;rw[hK5];walk_at "rd";refine GH (by omega) ?_;simp only[if_neg (show ¬ 0<cfs (rows.zip w) n by omega),if_neg (show ¬ cfs (rows.zip w) n<0 by omega)]
   first | exact⟨_,_,_,rfl⟩ | trivial | rfl
  ·refine ag λK5 hK5=>?_;walk_at "rd";refine ifp hc (bnd (by omega) _ ?_);walk_at "rd";refine word _ ?_;refine⟨lo,(some cp,cs),true,rfl,pre.1,cb (by omega),?_⟩;rw[hK5];walk_at "rd";refine GH (by omega) ?_;simp only[if_pos hc,if_neg (show ¬ cfs (rows.zip w) n<0 by omega)]
   first | exact⟨_,_,_,rfl⟩ | trivial | rfl
 ·rintro δ ⟨x,y,z,rfl⟩;rw[GW,Ho,hN,hK3];unfold zW;walk_at "rd";exact q
def vY(c:Nat->Nat):Nat->Nat->Nat->Nat->Bool
 | 0,κ,_,T=>decide (κ<=7990)&&decide (T<=1000000)
 | k+1,κ,g,T=>(decide (c k+g<=3990)&&decide (c k+κ<=7990))&&(decide (g<=κ)&&decide (c k+T+κ+80<=1000000))&&vY c k (κ+(2*c k+g+2)) (2*c k+2+g) (2*(c k+T+κ+72)+2)
structure St(B:Nat)(nm:List Str)(rows:List Rw)(l ks:List Str)(ps:List (Int×Int))(κ g T:Nat)(L:Int):Prop where
 P:Pt ks ps T
 hκ:ib (Gs (pB ks ps) ks)<=κ
 L0:L≠0
 hL:∀k∈ks,pB ks ps k ∣ L
 hg:ib L<=g
 fq:vY (cb B 6) l.length κ g T=true
 so:∀w∈Gv rows l,soR (GV ks ps) (Gw nm rows w)
def Ay{v:Int×Int}{T T':Nat}(P:Pt ks ps T)(hv:Low v.1 v.2)(hT:T<=T')(h1:ib v.1<=T')(h2:ib v.2<=T'):Pt (ks++[n]) (ps++[v]) T' :=
  ⟨by simp[P.len],λp hp=>(Hb.mp hp).elim (P.low p) λz=>by rw[G9.mp z];exact hv,λp hp=>(Hb.mp hp).elim (λz=>G0 (P.b1 p z) hT) λz=>by rw[G9.mp z];exact h1,
   λp hp=>(Hb.mp hp).elim (λz=>G0 (P.b2 p z) hT) λz=>by rw[G9.mp z];exact h2⟩
theorem xa{v:Int×Int}(hl:ps.length=ks.length)(hn:n∉ks):Gs (pB (ks++[n]) (ps++[v])) (ks++[n])=Gs (pB ks ps) ks*v.2:=by
 rw[gq,oE];have e1:pB (ks++[n]) (ps++[v]) n=v.2:=by unfold pB;rw[fW hl hn,Hh rfl]
 rw[e1]
 congr 1
 refine mY λk hk=>?_;unfold pB;rw[fW hl hn,He (λ(z:k=n)=>hn (z ▸ hk))]
theorem St.step{B N:Nat}{κ g T:Nat}(F:Fit nm rows B N)(h:St B nm rows (n::l) ks ps κ g T L)(hnk:n∉ks)(hkl:ks.length<=60)(hcov:∀k∈nm,k∈ks\/k=n\/k∈l) :
  Pcs nm rows ks ps n (Gv rows l) (cb B 6 l.length) κ g T L/\(∀p,(GA nm rows ks ps n (Gv rows l)).1.1=some p->nQ L (cb B 6 l.length) g κ T p)/\(∀p,(GA nm rows ks ps n (Gv rows l)).2.1=some p->nQ L (cb B 6 l.length) g κ T p) /\
  ∃κ' g' T' L',St B nm rows l (ks++[n]) (ps++[nmb (GA nm rows ks ps n (Gv rows l)).1.1 (GA nm rows ks ps n (Gv rows l)).2.1]) κ' g' T' L':=by
 obtain⟨P,hκ,L0,hL,hg,fq,so⟩:=h;have hfq:((cb B 6 l.length+g<=3990/\cb B 6 l.length+κ<=7990)/\(g<=κ/\cb B 6 l.length+T+κ+80<=1000000))/\vY (cb B 6) l.length (κ+(2*cb B 6 l.length+g+2)) (2*cb B 6 l.length+2+g) (2*(cb B 6 l.length+T+κ+72)+2)=true:=by
  have:((decide (cb B 6 l.length+g<=3990)&&decide (cb B 6 l.length+κ<=7990))&&(decide (g<=κ)&&decide (cb B 6 l.length+T+κ+80<=1000000))&&vY (cb B 6) l.length (κ+(2*cb B 6 l.length+g+2)) (2*cb B 6 l.length+2+g) (2*(cb B 6 l.length+T+κ+72)+2))=true:=fq
  simpa only[Bool.and_eq_true,decide_eq_true_eq] using this
 obtain⟨⟨⟨f1,f1'⟩,f2,f2'⟩,f3⟩:=hfq;have hcb:=Gp (B:=B) F.m6 l.length;have S:Pcs nm rows ks ps n (Gv rows l) (cb B 6 l.length) κ g T L:=by
  refine⟨F.H,hkl,λw hw t ht hne=>?_,P,f2',hκ,L0,hL,hg,f2,f1,f1',λw hw x=>G0 (F.H.cfb F.hB (cN F.H F.hB hw) x) hcb,λw hw=>G0 (Rws.bdb F.hB (cN F.H F.hB hw)) hcb⟩;obtain⟨m1,m2,_⟩:=kX ht
  rcases hcov t.1 m1 with z | z | z
  ·exact z
  ·exact absurd z hne
  ·exact absurd ((cz hw).2 _ z) m2
 have pof:=yC (nm:=nm) (rows:=rows) (ks:=ks) (ps:=ps) (n:=n) (Pr:=nQ L (cb B 6 l.length) g κ T) (W:=Gv rows l) λw hw hc=>S.cnd hw hc
 have bk:=back F.H so (tS hnk) (λw hw t ht hne=>P.pos (S.nms w hw t ht hne))
 obtain⟨s1,s2,M,m0,mb,md⟩:=wI L0 hg f2 pof.1 pof.2;refine⟨S,pof.1,pof.2,_,_,_,M*L,Ay P bk.1 (by omega) s1 (by omega),?_,HN m0 L0,λk hk=>?_,Hw mb hg,f3,λw hw=>?_⟩
 ·rw[xa P.len hnk];exact Hw hκ s2
 ·unfold pB;rw[fW P.len hnk]
  by_cases e:k=n
  ·rw[Hh e];exact md
  ·rw[He e]
   rcases Hb.mp hk with z | z
   ·exact Int.dvd_trans (hL k z) (Int.dvd_mul_left ..)
   ·exact absurd (G9.mp z) e
 ·rw[pV P.len hnk];exact bk.2 w hw
inductive gR(ds:List D)(R:D->Prop):Prop
 | mk (nm:List Str) (rows:List Rw) (B N:Nat) (ns ks:List Str) (ps:List (Int×Int)) (κ g T:Nat) (L:Int) (hh:ds=[.lst ((sT rows ns).map (oO nm rows)),.lst (ns.map D.str),.dct ks (ps.map GJ)]/\Fit nm rows B N/\ns.length<=N/\ks.length<=20/\(ks++ns).Nodup/\(∀n∈nm,n∈ks\/n∈ns)/\St B nm rows ns ks ps κ g T L/\R (.fd (ks++ns) ((fbk nm rows ns ks ps).map GJ)))
def iC:∀ds R,gR ds R->ds.length=3:=λ_ _ ⟨_,_,_,_,_,_,_,_,_,_,_,e,_⟩=>by rw[e];rfl
theorem EM(o:Option (Int×Int)):D.im (oD o)=true:=by cases o<;>rfl
theorem Dk{L:List D}{i:Nat}{d:D}(h:(nq (ns.map D.str) L)[i]?=some d):∃n e,ns[i]?=some n/\L[i]?=some e/\d=.tup [.str n,e]:=by
 unfold nq at h;rw[List.getElem?_zipWith] at h;rw[List.getElem?_map] at h
 cases e1:ns[i]? with
 | none=>rw[e1] at h;cases h
 | some n =>
  rw[e1] at h
  cases e2:L[i]? with
  | none=>rw[e2] at h;cases h
  | some e=>rw[e2] at h;exact⟨n,e,rfl,rfl,(Hg h).symm⟩
theorem cut1{α:Type}(xs:List α)(h:0<xs.length):cut xs (some 1) none=xs.drop 1:=by
 unfold cut;have e1:HT.sIx xs.length 0 (some 1)=1:=by unfold HT.sIx;simp;omega
 have e2:HT.sIx xs.length xs.length none=xs.length:=rfl
 rw[e1,e2];exact JG (by rw[Jq];omega)
theorem cC:aw ["steps","names","point","told","name","sums"] ["steps","names","point"] (am s_found_back):=by walk_at "sc"
theorem jY(Z:Zz):Z.C 5 "found_back" ["steps","names","point"] (Gx Z.K gR):=by
 refine cw Z.x31 cC iC λfa cdv A outer s H E ds R hr h=>?_;have hU:=hr.units;refine⟨_,(ad (pJ 3 cC.nd rfl Z.x61 (ak 2)) (ad (fY Hl rfl (kh true true rfl Z.x57 (ac (ak 1) (ac (y9 (ak 0) (uf ar) uR) ae))) (bH (n:=2) rfl (ax (ap 4 cC.nd) (ax (ap 5 cC.nd) aS))) (af (gG 3 hU (aq (lc Z) (rm hr) rfl (ac (wS 3 (kQ Z) (rm hr) rfl (ak 4) (ak 5)) ae)) (ak 4)))) (i6 3 (af (au (ak 3)))))),?_⟩;obtain⟨nm,rows,B,N0,ns,ks,ps,κ,g,T,L,rfl,F,h4,k20,nd,cov,St0,q⟩:=h;have n4:=F.n4;refine ag λK1 hK1=>?_;walk_at "rd";intro da;rw[hK1];refine ag λK2 hK2=>?_;refine dA λFb N hF hN=>?_;walk_at "rd";simp only[kc];walk_at "rd";rw[cut1 _ (by rw[GW,fA];omega),<- List.map_drop];have zl:(nq (ns.map D.str) (((sT rows ns).drop 1).map (oO nm rows))).length=ns.length:=by
  unfold nq;rw[List.length_zipWith,GW,GW,Jq,fA];omega
 refine⟨λi δ=>∃(ks':List Str) (ps':List (Int×Int)) (x y:Sl),δ=[.dat (.lst ((sT rows ns).map (oO nm rows))),.dat (.lst (ns.map D.str)),.dat (.dct ks (ps.map GJ)),.own da (.dct ks' (ps'.map GJ)),x,y]/\ks'=ks++ns.take i/\fbk nm rows (ns.drop i) ks' ps'=fbk nm rows ns ks ps/\∃κ g T L,St B nm rows (ns.drop i) ks' ps' κ g T L,⟨ks,ps,_,_,rfl,by simp,rfl,κ,g,T,L,St0⟩,?_,?_⟩
 ·rintro i d δ hd ⟨ks',ps',x,y,rfl,rfl,hfb,κ',g',T',L',S'⟩;obtain⟨n,e,hn,he,rfl⟩:=Dk hd;have hil:i<ns.length:=(List.getElem?_eq_some_iff.mp hn).1;rw[List.getElem?_map,List.getElem?_drop,pL ns (1+i) (by omega)] at he;have he:=(Hg he).symm;subst he;have edr:ns.drop i=n::ns.drop (i+1):=by
   rw[Ip hil]
   congr 1
   exact(List.getElem?_eq_some_iff.mp hn).2
  rw[Nat.add_comm 1 i];rw[edr] at hfb S';have nd3:(ks++ns.take i++n::ns.drop (i+1)).Nodup:=by
   rw[<- edr,Ji,IH];exact nd
  have hnk:n∉ks++ns.take i:=λz=>(Jh.mp nd3).2.2 n z n (G1 ..) rfl
  have hcov:∀k∈nm,k∈ks++ns.take i\/k=n\/k∈ns.drop (i+1):=λk hk=>by
   rcases cov k hk with z | z
   ·exact .inl (Hf _ z)
   ·rw[<- IH i ns,edr] at z
    rcases Hb.mp z with z | z
    ·exact .inl (G6 _ z)
    ·rcases G7.mp z with z | z
     ·exact .inr (.inl z)
     ·exact .inr (.inr z)
  have hkl:(ks++ns.take i).length<=60:=by rw[G8,HI];omega
  have tk1:ns.take (i+1)=ns.take i++[n]:=aG hn
  simp only[tk1,<- List.append_assoc];generalize ks++ns.take i=k0 at *;generalize ns.drop (i+1)=l at *;obtain⟨S,pf1,pf2,nxt⟩:=S'.step F hnk hkl hcov;rw[hF];show jS _ _ (.tup [.str n,oO nm rows (Gv rows l)]) _ _;walk_at "rd";refine⟨nm,rows,k0,ps',n,Gv rows l,_,κ',g',T',L',rfl,S,?_⟩;refine⟨by simp only[D.im,D.ims,EM];rfl,?_⟩;have hfb':fbk nm rows l (k0++[n]) (ps'++[nmb (GA nm rows k0 ps' n (Gv rows l)).1.1 (GA nm rows k0 ps' n (Gv rows l)).2.1])=fbk nm rows ns ks ps:=hfb;clear hfb;have cg:=S.cg;have hT:=S.hT;generalize GA nm rows k0 ps' n (Gv rows l)=e at *;obtain⟨lo,hi⟩:=e;simp only at pf1 pf2 nxt hfb' ⊢;refine⟨lo.1,hi.1,lo.2,hi.2,rfl,λp hp=>?_,λp hp=>?_,?_⟩
  ·have k:=pf1 p hp
   have k1:=k.bb
   have k2:=k.tb
   exact⟨k.low.ne,by omega,by omega⟩
  ·have k:=pf2 p hp
   have k1:=k.bb
   have k2:=k.tb
   exact⟨k.low.ne,by omega,by omega⟩
  ·generalize nmb lo.1 hi.1=v at *
   have lk:k0.length<9000:=by omega
   refine⟨lk,?_⟩;rw[p9 hnk,p8 hnk];walk_at "rd";exact⟨ps'++[v],by rw[Hj];rfl,hfb',nxt⟩
 ·rintro δ ⟨ks',ps',x,y,rfl,rfl,hfb,_⟩;rw[zl] at hfb ⊢;rw[List.drop_length] at hfb;rw[Ho,hN,hK2];have hfb:ps'=fbk nm rows ns ks ps:=hfb;rw[hfb];walk_at "rd";exact q
def so0(l:List (Rw×Int)):Bool:=oZ (kOf (GI l)) 0 (bds l)
def GB(nm:List Str)(rows:List Rw)(ns:List Str):D:=match (Gv rows ns).find? (λw=>!so0 (rows.zip w)) with
 | some w=>.tup [.str "weights",.tup (w.map D.int)]
 | none=>.tup [.str "point",.fd ns ((fbk nm rows ns [] []).map GJ)]
def None(rows:List Rw):Prop:=∀x:Str->Rat,∃r∈rows,¬ soR x r
inductive re(ds:List D)(R:D->Prop):Prop
 | mk (nm:List Str) (rows:List Rw) (B N:Nat) (ns:List Str) (hh:ds=[.lst (rows.map Gu),.lst (ns.map D.str)]/\Fit nm rows B N/\ns.length<=N/\ns.Nodup/\(∀n∈nm,n∈ns)/\(vY (cb B 6) ns.length 1 1 0=true\/None rows)/\R (GB nm rows ns))
def l8:∀ds R,re ds R->ds.length=2:=λ_ _ ⟨_,_,_,_,_,e,_⟩=>by rw[e];rfl
theorem tY(hin:∀n∈nm,n∈ns){w:List Int}(hw:w∈Gv rows ns):(Gw nm rows w).2.1=[]:=by
 cases e:(Gw nm rows w).2.1 with
 | nil=>rfl
 | cons t r =>
  have ht:t∈(Gw nm rows w).2.1:=by rw[e];exact G1 ..
  obtain⟨h1,h2,_⟩:=kX ht;exact absurd ((cz hw).2 _ (hin _ h1)) h2
theorem Bu(hin:∀n∈nm,n∈ns){w:List Int}(hw:w∈Gv rows ns):Gu (Gw nm rows w)=(GL.row (kOf (GI (rows.zip w))) [] (bds (rows.zip w))).D:=by
 have e:=tY hin hw
 show ie _ (Gw nm rows w).2.1 _=_
 rw[e];rfl
theorem Eb(hin:∀n∈nm,n∈ns){w:List Int}(hw:w∈Gv rows ns)(x:Str->Rat):so0 (rows.zip w)=true↔soR x (Gw nm rows w):=by
 have e:=tY hin hw
 unfold soR so0;rw[e];show _↔(match kOf (GI (rows.zip w)) with | .least=>((bds (rows.zip w):Int):Rat)<=0 | .more=>((bds (rows.zip w):Int):Rat)<0)
 cases GI (rows.zip w)
 ·show decide (bds (rows.zip w)<=0)=true↔_
  rw[Jj];exact(Rat.intCast_le_intCast (a:=bds (rows.zip w)) (b:=0)).symm
 ·show decide (bds (rows.zip w)<0)=true↔_
  rw[Jj];exact(IC (a:=bds (rows.zip w)) (b:=0)).symm
theorem mC{α:Type}{p:α->Bool}{l:List α}{i:Nat}{x:α}(h:l[i]?=some x)(hn:∀y∈l.take i,p y=false)(hp:p x=true):l.find? p=some x:=by
 rw[<- IH i l,List.find?_append];have e1:(l.take i).find? p=none:=List.find?_eq_none.mpr λy hy=>by rw[hn y hy];decide
 have hi:i<l.length:=(List.getElem?_eq_some_iff.mp h).1
 rw[e1,Ip hi,(List.getElem?_eq_some_iff.mp h).2,List.find?_cons_of_pos hp];rfl
def Fl:∀ {k:Nat},k<=4->vY (cb 64 6) k 1 1 0=true
 | 0,_=>by decide
 | 1,_=>by decide
 | 2,_=>by decide
 | 3,_=>by decide
 | 4,_=>by decide
 | k+5,h=>by omega
def yz(H:Rws nm rows)(nd:ns.Nodup)(hin:∀n∈nm,n∈ns)(so:∀w∈Gv rows ns,soR (GV [] []) (Gw nm rows w)):∀r∈rows,soR (GV ns (fbk nm rows ns [] [])) r:=λr hr=>by
 obtain⟨_,_,_,d⟩:=yi H ns [] [] rfl (λ_ h=>nomatch h) (by simpa using nd) (λn hn=>.inr (hin n hn)) so;rw[List.nil_append] at d;obtain⟨j,hj⟩:=List.getElem?_of_mem hr;have:=d (unW rows.length j) (GZ.mpr ⟨j,Ig.mpr (List.getElem?_eq_some_iff.mp hj).1,rfl⟩);rw[rc H hj] at this;exact this
theorem St.start{B N:Nat}(F:Fit nm rows B N)(nd:ns.Nodup)(hin:∀n∈nm,n∈ns)(fq:vY (cb B 6) ns.length 1 1 0=true\/None rows)(so:∀w∈Gv rows ns,soR (GV [] []) (Gw nm rows w)):St B nm rows ns [] [] 1 1 0 1:=by
 refine⟨⟨rfl,(λ_ h=>nomatch h),(λ_ h=>nomatch h),(λ_ h=>nomatch h)⟩,by show ib 1<=1;decide,by decide,(λ_ h=>nomatch h),by decide,?_,so⟩
 rcases fq with h | h
 ·exact h
 ·obtain⟨r,hr,no⟩:=h (GV ns (fbk nm rows ns [] []));exact absurd (yz F.H nd hin so r hr) no
theorem fL:aw ["rows","names","steps","row","weights"] ["rows","names"] (am s_solved):=by walk_at "sc"
theorem sL(Z:Zz):Z.C 65 "solved" ["rows","names"] (Gx Z.K re):=by
 refine cw Z.x32 fL l8 λfa cdv A outer s H E ds R hr h=>?_;have hU:=hr.units;refine⟨_,(ad (aA 2 fL.nd (aq (lT Z) (rm hr) rfl (ac (ak 0) (ac (ak 1) ae)))) (ad (cx Hl rfl (GF 2) (bH (n:=2) rfl (ax (ap 3 fL.nd) (ax (ap 4 fL.nd) aS))) (af (aN (df (bJ (aq (ug Z) (rm hr) rfl (ac (ak 3) (ac qM ae))))) (af (au (aJ (ac ay (ac (ak 4) ae))))) aB))) (af (au (aJ (ac ay (ac (aq (jY Z) (rm hr) rfl (ac (ak 2) (ac (ak 1) (ac qM ae)))) ae))))))),?_⟩;obtain⟨nm,rows,B,N0,ns,rfl,F,h4,nd,hin,fq,q⟩:=h;refine ag λK1 hK1=>?_;walk_at "rd";refine⟨nm,rows,B,N0,ns,rfl,F,h4,?_⟩;walk_at "rd";rw[hK1];have e0:(sT rows ns).map (oO nm rows)=oO nm rows (Gv rows ns)::((sT rows ns).drop 1).map (oO nm rows):=by
  cases ns<;>rfl
 refine ag λK2 hK2=>?_;refine cP λFb N hF hN=>?_;walk_at "rd";simp only[fM];rw[e0];walk_at "rd";rw[<- e0];refine⟨λi δ=>∃x y,δ=[.dat (.lst (rows.map Gu)),.dat (.lst (ns.map D.str)),.dat (.lst ((sT rows ns).map (oO nm rows))),x,y]/\∀w∈(Gv rows ns).take i,so0 (rows.zip w)=true,⟨_,_,rfl,λw hw=>by simp at hw⟩,?_,?_⟩
 ·rintro i d δ hd ⟨x,y,rfl,ho⟩;obtain⟨w,hw,rfl⟩:=pM hd;have hm:=Hc hw;rw[hF];show jS _ _ (.tup [Gu (Gw nm rows w),.tup (w.map D.int)]) _ _;walk_at "rd";have bb:ib (bds (rows.zip w))<=10000:=by
   have h1:=Rws.bdb F.hB (cN F.H F.hB hm)
   have h2:=F.ck h4
   unfold cb at h2;omega
  refine⟨GL.row (kOf (GI (rows.zip w))) [] (bds (rows.zip w)),[],[],[],0,1,?_,by show 1<=60;decide,⟨⟨by simp,(λ_ h=>nomatch h),(λ_ h=>nomatch h)⟩,bb⟩,by decide,(λ_ h=>nomatch h),⟨rfl,(λ_ h=>nomatch h),(λ_ h=>nomatch h),(λ_ h=>nomatch h)⟩,by decide,by show ib 1<=1;decide,by decide,?_⟩
  ·rw[Bu hin hm];rfl
  ·have e1:(GL.row (kOf (GI (rows.zip w))) [] (bds (rows.zip w))).tv (pT [] []) (pB [] [])=so0 (rows.zip w):=by
    show oZ _ 0 (bds (rows.zip w)*1)=_
    rw[Int.mul_one];rfl
   rw[e1]
   cases e:so0 (rows.zip w) with
   | false =>
    have:=mC (p:=λw=>!so0 (rows.zip w)) hw (λy hy=>by rw[ho y hy];rfl) (by rw[e];rfl)
    unfold GB at q;rw[this] at q;exact q
   | true =>
    walk_at "rd";rw[aG hw];intro u hu
    rcases Hb.mp hu with hu | hu
    ·exact ho u hu
    ·rw[G9.mp hu];exact e
 ·rintro δ ⟨x,y,rfl,ho⟩;rw[GW,Ho] at ho;rw[hN,hK2];have en:(Gv rows ns).find? (λw=>!so0 (rows.zip w))=none:=List.find?_eq_none.mpr λw hw=>by rw[ho w hw];decide
  unfold GB at q;rw[en] at q;walk_at "rd";refine⟨nm,rows,B,N0,ns,[],[],1,1,0,1,rfl,F,h4,by decide,by simpa using nd,λn hn=>.inr (hin n hn),St.start F nd hin fq λw hw=>(Eb hin hw _).mp (ho w hw),?_⟩;walk_at "rd";exact q
def Dj(h1:Srt ss)(n1:ss.Nodup)(h2:nm.Pairwise leS)(n2:nm.Nodup)(h:∀n,n∈ss↔n∈nm):ss=nm:=ja (gP h1) h2 n1 n2 h
theorem sF(h1:l.Pairwise leS)(n1:l.Nodup)(h2:nm.Pairwise leS)(n2:nm.Nodup)(h:∀n∈l,n∈nm):l.Sublist nm:=by
 have e:l=nm.filter λn=>decide (n∈l):=ja h1 (h2.filter _) n1 (n2.filter _) λn=>by
  rw[Hi];exact⟨λz=>⟨h n z,by simpa using z⟩,λz=>by simpa using z.2⟩
 rw[e];exact List.filter_sublist
theorem yl{B N:Nat}(F:Fit nm rows B N):∀(ns ks:List Str) (ps:List (Int×Int)) (κ g T:Nat) (L:Int),St B nm rows ns ks ps κ g T L->(ks++ns).Nodup->(ks++ns).length<=60->(∀n∈nm,n∈ks\/n∈ns) ->
  ∃κ g T L,St B nm rows [] (ks++ns) (fbk nm rows ns ks ps) κ g T L
 | [],ks,ps,κ,g,T,L,S,nd,hl,cov=>by
  rw[HJ];exact⟨κ,g,T,L,S⟩
 | n::l,ks,ps,κ,g,T,L,S,nd,hl,cov=>by
  have hnk:n∉ks:=λz=>(Jh.mp nd).2.2 n z n (G1 ..) rfl
  obtain⟨_,_,_,κ',g',T',L',S'⟩:=S.step F hnk (by rw[G8] at hl;omega) λk hk=>by
   rcases cov k hk with z | z
   ·exact .inl z
   ·exact .inr (G7.mp z)
  have e:ks++n::l=ks++[n]++l:=by simp
  rw[e] at nd hl ⊢;exact yl F l (ks++[n]) _ κ' g' T' L' S' nd hl λk hk=>by
   rcases cov k hk with z | z
   ·exact .inl (Hf _ z)
   ·rcases G7.mp z with z | z
    ·exact .inl (G6 _ (G9.mpr z))
    ·exact .inr z
structure mf(rows:List Rw)(w:List Int):Prop where
 wt:Wt rows.length w
 no:∀n,cfs (rows.zip w) n=0
 bd:0<bds (rows.zip w)\/(bds (rows.zip w)=0/\GI (rows.zip w)=true)
structure Meets(nm:List Str)(rows:List Rw)(ps:List (Int×Int)):Prop where
 P:Pt nm ps 1000000
 κ:ib (Gs (pB nm ps) nm)<=7990
 so:∀r∈rows,soR (GV nm ps) r
theorem D2{B N:Nat}(F:Fit nm rows B N)(h4:ns.length<=N)(nd:ns.Nodup)(hin:∀n∈nm,n∈ns)(fq:vY (cb B 6) ns.length 1 1 0=true\/None rows) :
  (∃w,GB nm rows ns=.tup [.str "weights",.tup (w.map D.int)]/\mf rows w/\∀a∈w,ib a<=wb B 6 ns.length)\/∃ps,GB nm rows ns=.tup [.str "point",.fd ns (ps.map GJ)]/\Meets ns rows ps:=by
 unfold GB
 cases e:(Gv rows ns).find? (λw=>!so0 (rows.zip w)) with
 | some w =>
  have hw:=List.mem_of_find?_eq_some e
  have hp:(!so0 (rows.zip w))=true:=by have:=List.find?_some e;exact this
  obtain⟨wt,an⟩:=cz hw;refine .inl ⟨w,rfl,⟨wt,λn=>?_,?_⟩,λa ha=>?_⟩
  ·refine G5 λz=>z (an n (hin n (F.H.cfs z)))
  ·unfold so0 at hp
   cases h:GI (rows.zip w)
   ·rw[h] at hp;have:¬ bds (rows.zip w)<=0:=by
     have hp:(!decide (bds (rows.zip w)<=0))=true:=hp
     simpa using hp
    exact .inl (by omega)
   ·rw[h] at hp;have:¬ bds (rows.zip w)<0:=by
     have hp:(!decide (bds (rows.zip w)<0))=true:=hp
     simpa using hp
    by_cases z:bds (rows.zip w)=0
    ·exact .inr ⟨z,rfl⟩
    ·exact .inl (by omega)
  ·exact G0 (cN F.H F.hB hw a ha) (wE (G3 B) F.m6 _)
 | none =>
  have all:∀w∈Gv rows ns,so0 (rows.zip w)=true:=λw hw=>by
   have:=List.find?_eq_none.mp e w hw
   simpa using this
  have so:∀w∈Gv rows ns,soR (GV [] []) (Gw nm rows w):=λw hw=>(Eb hin hw _).mp (all w hw)
  have n4:=F.n4
  obtain⟨κ,g,T,L,S⟩:=yl F ns [] [] 1 1 0 1 (St.start F nd hin fq so) (by simpa using nd) (by simp;omega) (λn hn=>.inr (hin n hn));rw[List.nil_append] at S;have hf:κ<=7990/\T<=1000000:=by
   have:(decide (κ<=7990)&&decide (T<=1000000))=true:=S.fq
   simpa only[Bool.and_eq_true,decide_eq_true_eq] using this
  exact .inr ⟨_,rfl,S.P.mono hf.2,G0 S.hκ hf.1,yz F.H nd hin so⟩
def B3{a b c:Rat}(h:0<c):c*a<=c*b↔a<=b :=
 ⟨λz=>Rat.not_lt.mp λy=>absurd (Rat.mul_lt_mul_of_pos_left y h) (Rat.not_lt.mpr z),λz=>Rat.mul_le_mul_of_nonneg_left z (Rat.le_of_lt h)⟩
theorem Bn{k:Kd}{b:Int}(h:∀t∈ts,0<pB ks ps t.1):sM (pT ks ps) (pB ks ps) k ts b=true↔soR (GV ks ps) (k,ts,b):=by
 have hK:0<Gs (pB ks ps) (ts.map (·.1)):=cG λn hn=>by
  obtain⟨t,h1,rfl⟩:=GZ.mp hn;exact h t h1
 have e:=mv (ks:=ks) (ps:=ps) (K:=Gs (pB ks ps) (ts.map (·.1))) (ts:=ts) λt ht=>⟨h t ht,dO (GZ.mpr ⟨t,ht,rfl⟩)⟩
 unfold sM;generalize Gs (pB ks ps) (ts.map (·.1))=K at *;have k0:=h6 hK;generalize cI (ov (pT ks ps) (pB ks ps) K) ts=S at *;have key:∀x:Rat,(S:Rat)=(K:Rat)*x->(((b:Rat)<=x↔b*K<=S)/\((b:Rat)<x↔b*K<S)):=λx hx=>by
  have e1:((b*K:Int):Rat)=(b:Rat)*(K:Rat):=Hr ..
  constructor
  ·rw[<- Rat.intCast_le_intCast,e1,hx,Rat.mul_comm (b:Rat)];exact(B3 k0).symm
  ·rw[<- IC,e1,hx,Rat.mul_comm (b:Rat)];exact(Rat.mul_lt_mul_left k0).symm
 obtain⟨k1,k2⟩:=key _ e
 cases k with
 | least=>show decide (b*K<=S)=true↔_;rw[Jj];exact k1.symm
 | more=>show decide (b*K<S)=true↔_;rw[Jj];exact k2.symm
theorem mV{ns:List Int}{n:Nat}(hb:∀c∈ns,Builtin.Int.intBits c<=n)(k:Int):Builtin.Int.intBits (cQ ns k)<=n:=by
 unfold cQ;rw[List.getD_eq_getElem?_getD]
 cases e:ns[k.toNat]? with
 | none=>exact G0 (by decide:Builtin.Int.intBits 0<=0) (Ie _)
 | some c=>exact hb c (Hc e)
def GL.kr:GL->List (List Rw)
 | .row k ts b=>[[(k,ts,b)]]
 | .nt _=>[]
 | .bo s t=>s.kr.flatMap λc=>t.kr.map λd=>c++d
 | .ei s t=>s.kr++t.kr
def xO(r:Rw):GL:=.row r.1 r.2.1 r.2.2
def GL.cs_kr:∀ {s:GL},s.cs=s.kr.map λc=>c.map xO
 | .row _ _ _=>rfl
 | .nt _=>rfl
 | .bo s t=>by
  show (s.cs.flatMap λc=>t.cs.map λd=>c++d)=(s.kr.flatMap λc=>t.kr.map λd=>c++d).map _
  rw[GL.cs_kr (s:=s),GL.cs_kr (s:=t),List.flatMap_map,List.map_flatMap]
  congr 1
  funext c
  rw[HB,HB]
  congr 1
  funext d
  show _=List.map xO (c++d)
  rw[Hj];rfl
 | .ei s t=>by
  show s.cs++t.cs=(s.kr++t.kr).map _
  rw[GL.cs_kr (s:=s),GL.cs_kr (s:=t),Hj]
def krD(K:List (List Rw)):D:=.lst (K.map λc=>.lst (c.map Gu))
theorem yt{s:GL}:csD s.cs=krD s.kr:=by
 unfold csD krD dL;rw[GL.cs_kr,HB]
 congr 2
 funext c
 show DL.D.lst ((c.map xO).map GL.D)=_
 rw[HB];rfl
theorem GL.kr_num{s:GL}(h:s.pn=true):s.kr.length=s.num:=by rw[<- GL.cs_num h,GL.cs_kr,GW]
theorem GL.kr_long{s:GL}(h:s.pn=true)(hc:c∈s.kr):c.length<=s.long:=by
 have:=GL.cs_long h (c.map xO) (by rw[GL.cs_kr];exact GZ.mpr ⟨c,hc,rfl⟩)
 rwa [GW] at this
def GL.bt(B:Nat):GL->Prop
 | .row _ ts b=>(∀t∈ts,ib t.2<=B)/\ib b<=B
 | .nt s=>s.bt B
 | .bo s t=>s.bt B/\t.bt B
 | .ei s t=>s.bt B/\t.bt B
def GL.pl_bt{B:Nat}:∀ {s:GL} {t:Bool},s.bt B->(s.pl t).bt B
 | .row k ts b,true,h=>⟨λt ht=>by
   obtain⟨u,hu,rfl⟩:=GZ.mp ht
   exact Jo (h.1 u hu),Jo h.2⟩
 | .row k ts b,false,h=>h
 | .nt s,t,h=>GL.pl_bt (s:=s) h
 | .bo s u,true,h=>⟨GL.pl_bt h.1,GL.pl_bt h.2⟩
 | .bo s u,false,h=>⟨GL.pl_bt h.1,GL.pl_bt h.2⟩
 | .ei s u,true,h=>⟨GL.pl_bt h.1,GL.pl_bt h.2⟩
 | .ei s u,false,h=>⟨GL.pl_bt h.1,GL.pl_bt h.2⟩
def GL.kr_row{B:Nat}:∀ {s:GL},s.ok names->s.bt B->∀c∈s.kr,∀r∈c,jP names r.2.1/\(∀t∈r.2.1,ib t.2<=B)/\ib r.2.2<=B/\∀n∈r.2.1.map (·.1),n∈s.nms
 | .row k ts b,o,h,c,hc,r,hr=>by
  rw[G9.mp hc] at hr;rw[G9.mp hr];exact⟨o.1,h.1,h.2,λn hn=>hn⟩
 | .bo s t,o,h,c,hc,r,hr=>by
  obtain⟨x,hx,hy⟩:=IF.mp hc;obtain⟨y,hz,rfl⟩:=GZ.mp hy
  rcases Hb.mp hr with hr | hr
  ·obtain⟨a,b,d,e⟩:=GL.kr_row o.1 h.1 x hx r hr;exact⟨a,b,d,λn hn=>Hf _ (e n hn)⟩
  ·obtain⟨a,b,d,e⟩:=GL.kr_row o.2 h.2 y hz r hr;exact⟨a,b,d,λn hn=>G6 _ (e n hn)⟩
 | .ei s t,o,h,c,hc,r,hr=>by
  rcases Hb.mp hc with hc | hc
  ·obtain⟨a,b,d,e⟩:=GL.kr_row o.1 h.1 c hc r hr;exact⟨a,b,d,λn hn=>Hf _ (e n hn)⟩
  ·obtain⟨a,b,d,e⟩:=GL.kr_row o.2 h.2 c hc r hr;exact⟨a,b,d,λn hn=>G6 _ (e n hn)⟩
def GL.sx(x:Str->Rat):GL->Prop
 | .row k ts b=>soR x (k,ts,b)
 | .nt s=>¬ s.sx x
 | .bo s t=>s.sx x/\t.sx x
 | .ei s t=>s.sx x\/t.sx x
theorem qq{x:Str->Rat}:∀ {ts:List (Str×Int)},cZ x (lF ts)=-cZ x ts
 | []=>by show (0:Rat)=-0;grind
 | t::ts=>by
  show ((-t.2:Int):Rat)*x t.1+cZ x (lF ts)=-((t.2:Rat)*x t.1+cZ x ts)
  rw[qq,J4];grind
theorem Aa{x:Str->Rat}{k:Kd}{b:Int}:soR x (k.op,lF ts,-b)↔¬ soR x (k,ts,b):=by
 have e:=qq (x:=x) (ts:=ts)
 cases k with
 | least =>
  show (((-b:Int):Rat)<cZ x (lF ts))↔¬ ((b:Rat)<=cZ x ts)
  rw[e,J4];grind
 | more =>
  show (((-b:Int):Rat)<=cZ x (lF ts))↔¬ ((b:Rat)<cZ x ts)
  rw[e,J4];grind
def GL.pl_sx{x:Str->Rat}:∀ {s:GL} {t:Bool},(s.pl t).sx x↔(if t=true then ¬ s.sx x else s.sx x)
 | .row k ts b,true=>by rw[Hh rfl];exact Aa
 | .row k ts b,false=>Iff.rfl
 | .nt s,true=>by show (s.pl false).sx x↔_;rw[GL.pl_sx,Hh rfl];show (if false=true then _ else s.sx x)↔¬ ¬ s.sx x;simp
 | .nt s,false=>by show (s.pl true).sx x↔_;rw[GL.pl_sx];simp[GL.sx]
 | .bo s u,true=>by show ((s.pl true).sx x\/(u.pl true).sx x)↔_;rw[GL.pl_sx,GL.pl_sx];simp only[if_true,GL.sx];exact Classical.not_and_iff_not_or_not.symm
 | .bo s u,false=>by show ((s.pl false).sx x/\(u.pl false).sx x)↔_;rw[GL.pl_sx,GL.pl_sx];simp[GL.sx]
 | .ei s u,true=>by show ((s.pl true).sx x/\(u.pl true).sx x)↔_;rw[GL.pl_sx,GL.pl_sx];simp[GL.sx]
 | .ei s u,false=>by show ((s.pl false).sx x\/(u.pl false).sx x)↔_;rw[GL.pl_sx,GL.pl_sx];simp[GL.sx]
def GL.kr_sx{x:Str->Rat}:∀ {s:GL},s.pn=true->(s.sx x↔∃c∈s.kr,∀r∈c,soR x r)
 | .row k ts b,_=>by
  constructor
  ·exact λh=>⟨[(k,ts,b)],G9.mpr rfl,λr hr=>by rw[G9.mp hr];exact h⟩
  ·rintro⟨c,hc,h⟩;rw[G9.mp hc] at h;exact h _ (G9.mpr rfl)
 | .bo s t,h=>by
  obtain⟨h1,h2⟩:=Hn.mp h;show (s.sx x/\t.sx x)↔_;rw[GL.kr_sx h1,GL.kr_sx h2]
  constructor
  ·rintro⟨⟨c,hc,a⟩,d,hd,b⟩;refine⟨c++d,IF.mpr ⟨c,hc,GZ.mpr ⟨d,hd,rfl⟩⟩,λr hr=>?_⟩
   rcases Hb.mp hr with hr | hr
   ·exact a r hr
   ·exact b r hr
  ·rintro⟨e,he,a⟩;obtain⟨c,hc,hy⟩:=IF.mp he;obtain⟨d,hd,rfl⟩:=GZ.mp hy;exact⟨⟨c,hc,λr hr=>a r (Hf _ hr)⟩,d,hd,λr hr=>a r (G6 _ hr)⟩
 | .ei s t,h=>by
  obtain⟨h1,h2⟩:=Hn.mp h;show (s.sx x\/t.sx x)↔_;rw[GL.kr_sx h1,GL.kr_sx h2]
  constructor
  ·rintro(⟨c,hc,a⟩ | ⟨c,hc,a⟩)
   ·exact⟨c,Hf _ hc,a⟩
   ·exact⟨c,G6 _ hc,a⟩
  ·rintro⟨c,hc,a⟩
   rcases Hb.mp hc with hc | hc
   ·exact .inl ⟨c,hc,a⟩
   ·exact .inr ⟨c,hc,a⟩
def GL.tv_sx:∀ {s:GL},(∀n∈s.nms,0<pB ks ps n)->(s.tv (pT ks ps) (pB ks ps)=true↔s.sx (GV ks ps))
 | .row k ts b,h=>Bn λt ht=>h _ (GZ.mpr ⟨t,ht,rfl⟩)
 | .nt s,h=>by show (!s.tv _ _)=true↔¬ s.sx _;rw[<- GL.tv_sx (s:=s) h];simp
 | .bo s t,h=>by show (s.tv _ _&&t.tv _ _)=true↔_;rw[Hn,GL.tv_sx (s:=s) λn hn=>h n (Hf _ hn),GL.tv_sx (s:=t) λn hn=>h n (G6 _ hn)];rfl
 | .ei s t,h=>by show (s.tv _ _||t.tv _ _)=true↔_;rw[Bool.or_eq_true_iff,GL.tv_sx (s:=s) λn hn=>h n (Hf _ hn),GL.tv_sx (s:=t) λn hn=>h n (G6 _ hn)];rfl
theorem jp:∀ {w v:List Int},v.map D.int=w.map D.int->v=w
 | [],[],_=>rfl
 | [],_::_,h=>by cases h
 | _::_,[],h=>by cases h
 | a::w,b::v,h=>by
  simp only[List.map_cons,List.cons.injEq,D.int.injEq] at h;rw[h.1,jp h.2]
theorem yy{x:Str->Rat}:∀ {l:List (Rw×Int)},(∀p∈l,soR x p.1/\0<=p.2)->0<=evl x l/\(GI l=true->0<evl x l)
 | [],_=>⟨by show (0:Rat)<=0;grind,λh=>by cases h⟩
 | (⟨k,ts,b⟩,c)::r,h=>by
  obtain⟨i1,i2⟩:=yy (x:=x) (l:=r) λq hq=>h q (GY _ hq);obtain⟨h1,h2⟩:=h _ (G1 ..);have h2:(0:Rat)<=((c:Int):Rat):=Rat.intCast_nonneg.mpr h2;have e:evl x ((⟨k,ts,b⟩,c)::r)=((c:Int):Rat)*(cZ x ts-((b:Int):Rat))+evl x r:=rfl;have s:GI ((⟨k,ts,b⟩,c)::r)=((isM k&&decide (0<c))||GI r):=by rw[<- nP (p:=(⟨k,ts,b⟩,c)),<- oF];rfl
  have ge:((b:Int):Rat)<=cZ x ts:=by
   cases k with
   | least=>exact h1
   | more=>exact Rat.le_of_lt h1
  have m1:0<=((c:Int):Rat)*(cZ x ts-((b:Int):Rat)):=HH h2 (by grind)
  rw[e,s];refine⟨by grind,λhs=>?_⟩
  rcases Bool.or_eq_true_iff.mp hs with z | z
  ·obtain⟨z1,z2⟩:=Hn.mp z;have c0:=h6 (of_decide_eq_true z2)
   cases k with
   | least=>cases z1
   | more =>
    have h1:((b:Int):Rat)<cZ x ts:=h1
    have:=Im c0 (show 0<cZ x ts-((b:Int):Rat) by grind)
    grind
  ·have:=i2 z
   grind
theorem rX{w:List Int}{x:Str->Rat}(H:Rws nm rows)(S:mf rows w)(h:∀r∈rows,soR x r):False:=by
 have e:=rE (x:=x) H.nd (l:=rows.zip w) λp hp=>H.sub _ (Hv hp).1
 rw[dX λn _=>S.no n] at e;obtain⟨i1,i2⟩:=yy (x:=x) (l:=rows.zip w) λp hp=>⟨h _ (Hv hp).1,S.wt.nn _ (Hv hp).2⟩
 rcases S.bd with z | ⟨z,z2⟩
 ·have:=h6 z
  grind
 ·have:=i2 z2
  rw[e,z] at this;have:(0:Rat)<0-((0:Int):Rat):=this;rw[show ((0:Int):Rat)=0 from rfl] at this
  grind
def nC:D->Bool
 | .tup [.str w,_]=>decide (w="point")
 | _=>false
def Bm:D->D
 | .tup [_,d]=>d
 | d=>d
def prs(A B:List (List Rw)):List (List Rw):=A.flatMap λc=>B.map λd=>c++d
def bth(nm:List Str)(A B:List (List Rw)):D:=match (prs A B).find? (λrows=>nC (GB nm rows nm)) with
 | some rows=>GB nm rows nm
 | none=>.tup [.str "paper",.tup (A.map λc=>.tup (B.map λd=>Bm (GB nm (c++d) nm)))]
structure Two(a b:GL)(nm:List Str)(B N:Nat):Prop where
 da:a.dep<=50
 db:b.dep<=50
 oa:a.ok nm
 ob:b.ok nm
 ta:a.bt B
 tb:b.bt B
 na:(a.pl false).num<=4/\(a.pl false).long<=3
 nb:(b.pl false).num<=4/\(b.pl false).long<=3
 pw:nm.Pairwise leS
 nd:nm.Nodup
 mem:∀n,n∈nm↔n∈a.nms\/n∈b.nms
 len:nm.length<=N
 n4:N<=4
 wN:wb B 6 (N+1)<=7990
 fq:vY (cb B 6) nm.length 1 1 0=true\/∀x,¬ (a.sx x/\b.sx x)
theorem xV(pw:nm.Pairwise leS)(nd:nm.Nodup)(h:jP nm ts):e8 (cf ts) ts:=by
 have n1:=nd.sublist h.sub
 exact⟨pw.sublist h.sub,n1,λt ht=>⟨(mT n1 ht).symm,h.nz t ht⟩,λn hn=>G5 λz=>hn (ju z)⟩
def Two.row{a b:GL}{B N:Nat}(T:Two a b nm B N)(hc:c∈(a.pl false).kr)(hd:d∈(b.pl false).kr):∀r∈c++d,jP nm r.2.1/\(∀t∈r.2.1,ib t.2<=B)/\ib r.2.2<=B:=λr hr=>by
 rcases Hb.mp hr with hr | hr
 ·obtain⟨h1,h2,h3,_⟩:=GL.kr_row (GL.pl_ok T.oa) (GL.pl_bt T.ta) c hc r hr;exact⟨h1,h2,h3⟩
 ·obtain⟨h1,h2,h3,_⟩:=GL.kr_row (GL.pl_ok T.ob) (GL.pl_bt T.tb) d hd r hr;exact⟨h1,h2,h3⟩
theorem Two.lens{a b:GL}{B N:Nat}(T:Two a b nm B N)(hc:c∈(a.pl false).kr)(hd:d∈(b.pl false).kr):c.length<=3/\d.length<=3:=by
 have h1:=GL.kr_long GL.pl_pn hc
 have h2:=GL.kr_long GL.pl_pn hd
 have:=T.na.2
 have:=T.nb.2
 exact⟨by omega,by omega⟩
theorem Two.fit{a b:GL}{B N:Nat}(T:Two a b nm B N)(hc:c∈(a.pl false).kr)(hd:d∈(b.pl false).kr):Fit nm (c++d) B N/\(vY (cb B 6) nm.length 1 1 0=true\/None (c++d)):=by
 have hr:=T.row hc hd
 obtain⟨l1,l2⟩:=T.lens hc hd;have:=T.len;have:=T.n4;refine⟨⟨⟨T.pw,T.nd,λr h=>xV T.pw T.nd (hr r h).1,λr h t ht=>(hr r h).1.sub.subset (GZ.mpr ⟨t,ht,rfl⟩)⟩,⟨λr h=>(hr r h).2.1,λr h=>(hr r h).2.2⟩,by rw[G8];omega,by omega,T.n4,T.wN⟩,?_⟩
 rcases T.fq with h | h
 ·exact .inl h
 ·refine .inr λx=>G5 λz=>h x ?_;have all:∀r∈c++d,soR x r:=λr hr=>G5 λy=>z ⟨r,hr,y⟩;have e1:(a.pl false).sx x:=(GL.kr_sx GL.pl_pn).mpr ⟨c,hc,λr hr=>all r (Hf _ hr)⟩;have e2:(b.pl false).sx x:=(GL.kr_sx GL.pl_pn).mpr ⟨d,hd,λr hr=>all r (G6 _ hr)⟩;rw[GL.pl_sx] at e1 e2;exact⟨by simpa using e1,by simpa using e2⟩
def Two.or{a b:GL}{B N:Nat}(T:Two a b nm B N)(hc:c∈(a.pl false).kr)(hd:d∈(b.pl false).kr) :
  (∃w,GB nm (c++d) nm=.tup [.str "weights",.tup (w.map D.int)]/\mf (c++d) w/\∀z∈w,ib z<=wb B 6 nm.length)\/∃ps,GB nm (c++d) nm=.tup [.str "point",.fd nm (ps.map GJ)]/\Meets nm (c++d) ps :=
 D2 (T.fit hc hd).1 T.len T.nd (λ_ h=>h) (T.fit hc hd).2
theorem lI{r:List Rw}:r∈prs A B↔∃c∈A,∃d∈B,r=c++d:=by
 unfold prs;rw[IF]
 constructor
 ·rintro⟨c,hc,h⟩;obtain⟨d,hd,rfl⟩:=GZ.mp h;exact⟨c,hc,d,hd,rfl⟩
 ·rintro⟨c,hc,d,hd,rfl⟩;exact⟨c,hc,GZ.mpr ⟨d,hd,rfl⟩⟩
def wOf(nm:List Str)(rows:List Rw):List Int:=match (Gv rows nm).find? (λw=>!so0 (rows.zip w)) with
 | some w=>w
 | none=>[]
theorem Cm{a b:GL}{B N:Nat}(T:Two a b nm B N) :
  (∃ps,bth nm (a.pl false).kr (b.pl false).kr=.tup [.str "point",.fd nm (ps.map GJ)]/\Pt nm ps 1000000/\ib (Gs (pB nm ps) nm)<=7990/\a.sx (GV nm ps)/\b.sx (GV nm ps)) \/
  (bth nm (a.pl false).kr (b.pl false).kr=.tup [.str "paper",.tup ((a.pl false).kr.map λc=>.tup ((b.pl false).kr.map λd=>.tup ((wOf nm (c++d)).map D.int)))]/\(∀x,¬ (a.sx x/\b.sx x))/\∀c∈(a.pl false).kr,∀d∈(b.pl false).kr,mf (c++d) (wOf nm (c++d))/\∀z∈wOf nm (c++d),ib z<=wb B 6 nm.length):=by
 unfold bth
 cases e:(prs (a.pl false).kr (b.pl false).kr).find? (λrows=>nC (GB nm rows nm)) with
 | some rows =>
  have hm:=List.mem_of_find?_eq_some e
  have hp:nC (GB nm rows nm)=true:=by have:=List.find?_some e;exact this
  obtain⟨c,hc,d,hd,rfl⟩:=lI.mp hm
  rcases T.or hc hd with⟨w,ew,_⟩ | ⟨ps,ep,M⟩
  ·rw[ew] at hp;exact absurd hp (by show ¬ decide (("weights":Str)="point")=true;decide)
  ·refine .inl ⟨ps,ep,M.P,M.κ,?_,?_⟩
   ·have:(a.pl false).sx (GV nm ps):=(GL.kr_sx GL.pl_pn).mpr ⟨c,hc,λr hr=>M.so r (Hf _ hr)⟩
    rw[GL.pl_sx] at this;simpa using this
   ·have:(b.pl false).sx (GV nm ps):=(GL.kr_sx GL.pl_pn).mpr ⟨d,hd,λr hr=>M.so r (G6 _ hr)⟩
    rw[GL.pl_sx] at this;simpa using this
 | none =>
  have hn:=List.find?_eq_none.mp e
  have all:∀c∈(a.pl false).kr,∀d∈(b.pl false).kr,GB nm (c++d) nm=.tup [.str "weights",.tup ((wOf nm (c++d)).map D.int)]/\mf (c++d) (wOf nm (c++d))/\∀z∈wOf nm (c++d),ib z<=wb B 6 nm.length:=λc hc d hd=>by
   rcases T.or hc hd with⟨w,ew,sw,bw⟩ | ⟨ps,ep,M⟩
   ·have:wOf nm (c++d)=w:=by
     unfold GB at ew;unfold wOf
     cases e2:(Gv (c++d) nm).find? (λw=>!so0 ((c++d).zip w)) with
     | none=>rw[e2] at ew;cases ew
     | some v =>
      rw[e2] at ew;simp only[D.tup.injEq,List.cons.injEq,and_true,true_and] at ew;exact jp ew
    rw[this];exact⟨ew,sw,bw⟩
   ·refine absurd ?_ (hn (c++d) (lI.mpr ⟨c,hc,d,hd,rfl⟩));rw[ep];rfl
  refine .inr ⟨?_,λx hx=>?_,λc hc d hd=>(all c hc d hd).2⟩
  ·simp only
   congr 4
   refine Jt λc hc=>?_
   congr 1
   refine Jt λd hd=>?_;rw[(all c hc d hd).1];rfl
  ·have e1:(a.pl false).sx x:=by rw[GL.pl_sx];simpa using hx.1
   have e2:(b.pl false).sx x:=by rw[GL.pl_sx];simpa using hx.2
   obtain⟨c,hc,a1⟩:=(GL.kr_sx GL.pl_pn).mp e1;obtain⟨d,hd,a2⟩:=(GL.kr_sx GL.pl_pn).mp e2;exact rX (T.fit hc hd).1.H (all c hc d hd).2.1 λr hr=>(Hb.mp hr).elim (a1 r) (a2 r)
theorem xN{i j:Nat}(hc:A[i]?=some c)(hd:B[j]?=some d)(h1:∀c∈A.take i,∀d∈B,nC (GB nm (c++d) nm)=false)(h2:∀d∈B.take j,nC (GB nm (c++d) nm)=false)(hp:nC (GB nm (c++d) nm)=true):bth nm A B=GB nm (c++d) nm:=by
 have e:(prs A B).find? (λrows=>nC (GB nm rows nm))=some (c++d):=by
  have e1:prs A B=prs (A.take i) B++((B.map λd=>c++d)++prs (A.drop (i+1)) B):=by
   obtain⟨hi,e2⟩:=List.getElem?_eq_some_iff.mp hc
   conv=>lhs;rw[<- IH i A,Ip hi,e2]
   unfold prs;rw[IA,List.flatMap_cons]
  have n1:(prs (A.take i) B).find? (λrows=>nC (GB nm rows nm))=none:=List.find?_eq_none.mpr λr hr=>by
   obtain⟨c',hc',d',hd',rfl⟩:=lI.mp hr;rw[h1 c' hc' d' hd'];decide
  have n2:(B.map λd=>c++d).find? (λrows=>nC (GB nm rows nm))=some (c++d):=mC (i:=j) (by rw[List.getElem?_map,hd];rfl) (λy hy=>by
   rw[<- List.map_take] at hy;obtain⟨d',hd',rfl⟩:=GZ.mp hy
   exact h2 d' hd') hp
  rw[e1,List.find?_append,n1,List.find?_append,n2];rfl
 unfold bth;rw[e]
theorem xI(h1:∀c∈A,∀d∈B,nC (GB nm (c++d) nm)=false):bth nm A B=.tup [.str "paper",.tup (A.map λc=>.tup (B.map λd=>Bm (GB nm (c++d) nm)))]:=by
 have e:(prs A B).find? (λrows=>nC (GB nm rows nm))=none:=List.find?_eq_none.mpr λr hr=>by
  obtain⟨c',hc',d',hd',rfl⟩:=lI.mp hr;rw[h1 c' hc' d' hd'];decide
 unfold bth;rw[e]
theorem qt{K:List (List Rw)}{i:Nat}{d:D}(h:(K.map λc=>D.lst (c.map Gu))[i]?=some d):∃c,K[i]?=some c/\d=.lst (c.map Gu):=by
 rw[List.getElem?_map] at h
 cases e:K[i]? with
 | none=>rw[e] at h;cases h
 | some n=>rw[e] at h;exact⟨n,rfl,(Hg h).symm⟩
inductive mo(ds:List D)(R:D->Prop):Prop
 | mk (a b:GL) (nm:List Str) (B N:Nat) (hh:ds=[a.D,b.D]/\Two a b nm B N/\R (bth nm (a.pl false).kr (b.pl false).kr))
def lm:∀ds R,mo ds R->ds.length=2:=λ_ _ ⟨_,_,_,_,_,e,_⟩=>by rw[e];rfl
theorem bB:aw ["one","other","firsts","seconds","names","paper","first","line","second","answer"] ["one","other"] (am s_both_so):=by walk_at "sc"
theorem fm(Z:Zz):Z.C 66 "both_so" ["one","other"] (Gx Z.K mo):=by
 refine cw Z.x33 bB lm λfa cdv A outer s H E ds R hr h=>?_;have hU:=hr.units;refine⟨_,(ad (aA 2 bB.nd (aq (ml Z) (rm hr) rfl (ac (ak 0) ae))) (ad (aA 3 bB.nd (aq (ml Z) (rm hr) rfl (ac (ak 1) ae))) (ad (aA 4 bB.nd (aq (gS Z) (rm hr) rfl (ac (aJ (ac ay (ac (ak 0) (ac (ak 1) ae)))) ae))) (ad (dy 5 bB.nd ae) (ad (cx Hl rfl (ak 2) (ap 6 bB.nd) (ad (dy 7 bB.nd ae) (ad (cx Hl rfl (ak 3) (ap 8 bB.nd) (ad (aA 9 bB.nd (aq (sL Z) (rm hr) rfl (ac (aD aR (ak 6) (ak 8)) (ac (ak 4) ae)))) (ad (aN (aE (cX hU) (GF 9) ay (av _)) (af (au (ak 9))) aB) (af (bf 7 (GF 9)))))) (af (bf 5 (jz 7 rfl Z.x54 bM)))))) (af (au (aJ (ac ay (ac (jz 5 rfl Z.x54 bM) ae)))))))))),?_⟩;obtain⟨a,b,nm,B,N0,rfl,T,q⟩:=h;have n4:=T.n4;have nl:=T.len;refine ag λK1 hK1=>?_;walk_at "rd";refine⟨a,nm,rfl,by have:=T.da;omega,T.oa,by omega,T.na.1,T.na.2,?_⟩;walk_at "rd";rw[yt,hK1];refine ag λK2 hK2=>?_;walk_at "rd";refine⟨b,nm,rfl,by have:=T.db;omega,T.ob,by omega,T.nb.1,T.nb.2,?_⟩;walk_at "rd";rw[yt,hK2];refine ag λK3 hK3=>?_;walk_at "rd";refine⟨nm,.bo a b,rfl,by have:=T.da;have:=T.db;show max _ _+1<=60;omega,⟨T.oa,T.ob⟩,by omega,λss nds hms hs=>?_⟩;have es:=Dj hs nds T.pw T.nd λn=>by rw[hms n,T.mem n];exact Hb
 subst es;walk_at "rd";rw[hK3];refine ag λK4 hK4=>?_;walk_at "rd";intro pa;rw[hK4];have na:=T.na;have nb:=T.nb;have kA:(a.pl false).kr.length<=4:=by rw[GL.kr_num GL.pl_pn];omega
 have kB:(b.pl false).kr.length<=4:=by rw[GL.kr_num GL.pl_pn];omega
 have or:=λ{c d} hc hd=>T.or (c:=c) (d:=d) hc hd
 have fit:=λ{c d} hc hd=>T.fit (c:=c) (d:=d) hc hd
 have lens:=λ{c d} hc hd=>T.lens (c:=c) (d:=d) hc hd
 generalize (a.pl false).kr=A at *
 generalize (b.pl false).kr=Bk at *
 refine ag λK5 hK5=>?_;refine cP λF N hF hN=>?_;unfold krD;walk_at "rd";simp only[fM];walk_at "rd";refine⟨λi δ=>∃x y z u,δ=[.dat a.D,.dat b.D,.dat (.lst (A.map λc=>.lst (c.map Gu))),.dat (.lst (Bk.map λc=>.lst (c.map Gu))),.dat (.lst (ss.map D.str)),.own pa (.lst ((A.take i).map λc=>.tup (Bk.map λd=>Bm (GB ss (c++d) ss)))),x,y,z,u]/\∀c∈A.take i,∀d∈Bk,nC (GB ss (c++d) ss)=false,⟨_,_,_,_,rfl,λc hc=>by simp at hc⟩,?_,?_⟩
 ·rintro i d δ hd ⟨x,y,z,u,rfl,no⟩;obtain⟨c,hc,rfl⟩:=qt hd;have hcm:=Hc hc;have hil:=(List.getElem?_eq_some_iff.mp hc).1;rw[hF];show eT _ _ _ _;refine bX λK6 hK6=>?_;walk_at "rd";intro la;rw[hK6];refine ag λK7 hK7=>?_;refine cP λF2 N2 hF2 hN2=>?_;walk_at "rd";simp only[fM];walk_at "rd";refine⟨λj δ=>∃z u,δ=[.dat a.D,.dat b.D,.dat (.lst (A.map λc=>.lst (c.map Gu))),.dat (.lst (Bk.map λc=>.lst (c.map Gu))),.dat (.lst (ss.map D.str)),.own pa (.lst ((A.take i).map λc=>.tup (Bk.map λd=>Bm (GB ss (c++d) ss)))),.dat (.lst (c.map Gu)),.own la (.lst ((Bk.take j).map λd=>Bm (GB ss (c++d) ss))),z,u]/\∀d∈Bk.take j,nC (GB ss (c++d) ss)=false,⟨_,_,rfl,λc hc=>by simp at hc⟩,?_,?_⟩
  ·rintro j e δ he ⟨z,u,rfl,no2⟩;obtain⟨d,hd,rfl⟩:=qt he;have hdm:=Hc hd;have hjl:=(List.getElem?_eq_some_iff.mp hd).1;obtain⟨l1,l2⟩:=lens hcm hdm;obtain⟨ft,fq⟩:=fit hcm hdm;rw[hF2];show eT _ _ _ _;refine bX λK8 hK8=>?_;walk_at "rd";rw[<- Hj];refine⟨by simp only[List.length_map];omega,ss,c++d,B,N0,ss,rfl,ft,nl,T.nd,λ_ h=>h,fq,?_⟩;rw[hK8];have pf:=λhp=>xN (nm:=ss) hc hd no no2 hp
   rcases or hcm hdm with⟨w,ew,_,_⟩ | ⟨ps,ep,M⟩
   ·have n1:nC (GB ss (c++d) ss)=false:=by rw[ew];show decide (("weights":Str)="point")=false;decide
    have e1:(Bk.take (j+1)).map (λd=>Bm (GB ss (c++d) ss))=(Bk.take j).map (λd=>Bm (GB ss (c++d) ss))++[.tup (w.map D.int)]:=by
     rw[aG hd,Hj,List.map_singleton,ew];rfl
    simp only[e1];rw[ew];walk_at "rd";refine GH (by decide) ⟨by rw[GW,HI];omega,λd' hd'=>?_⟩;rw[aG hd] at hd'
    rcases Hb.mp hd' with z | z
    ·exact no2 d' z
    ·rw[G9.mp z];exact n1
   ·have p1:nC (GB ss (c++d) ss)=true:=by rw[ep];rfl
    rw[pf p1] at q;rw[ep] at q ⊢;walk_at "rd";exact q
  ·rintro δ ⟨z,u,rfl,no2⟩;rw[GW,Ho] at no2 ⊢;rw[hN2,hK7];walk_at "rd";refine⟨by rw[GW,HI];omega,by rw[aG hc,Hj];rfl,λc' hc' d' hd'=>?_⟩;rw[aG hc] at hc'
   rcases Hb.mp hc' with z | z
   ·exact no c' z d' hd'
   ·rw[G9.mp z];exact no2 d' hd'
 ·rintro δ ⟨x,y,z,u,rfl,no⟩;rw[GW,Ho] at no ⊢;rw[xI no] at q;rw[hN,hK5];walk_at "rd";exact q
def cnz(h:j≠0):CNz i j:=h
def xy(h0:j≠0)(h:j.natAbs.log2<9000):CFd i j:=⟨h0,h⟩
inductive gQ(ds:List D)(R:D->Prop):Prop
 | mk (i:Int) (hh:ds=[.int i]/\R (.bl true))
def iz:∀ds R,gQ ds R->ds.length=1:=λ_ _ ⟨_,e,_⟩=>by rw[e];rfl
theorem kZ:aw ["_law_found"] ["_law_found"] (am s__law_whole):=by walk_at "sc"
theorem cV(Z:Zz):Z.C 1 "_law_whole" ["_law_found"] (Gx Z.K gQ):=by
 refine cw Z.x34 kZ iz λfa cdv A outer s H E ds R hr h=>?_;have hU:=hr.units;refine⟨_,(af (au (gf (ia Dz rfl Z.x62 rfl Z.x64 CM (ak 0)) (cF (mq (ia A5 rfl Z.x62 rfl Z.x63 CG (ak 0))))))),?_⟩;obtain⟨i,rfl,q⟩:=h;walk_at "rd";exact q
inductive cL(ds:List D)(R:D->Prop):Prop
 | mk (p:Int×Int) (hh:ds=[GJ p]/\Low p.1 p.2/\R (.bl true))
def dJ:∀ds R,cL ds R->ds.length=1:=λ_ _ ⟨_,e,_⟩=>by rw[e];rfl
theorem ba:aw ["_law_found","_law_one","_law_other"] ["_law_found"] (am s__law_is_fraction):=by walk_at "sc"
theorem eG(Z:Zz):Z.C 2 "_law_is_fraction" ["_law_found"] (Gx Z.K cL):=by
 refine cw Z.x35 ba dJ λfa cdv A outer s H E ds R hr h=>?_;have hU:=hr.units;refine⟨_,(ad (aN (DW.dt (fu (df (bJ (ia gi rfl Z.x62 rfl Z.x54 bM (ak 0)))) (fu (aE (fS hU) (aM f9 rfl Z.x55 dP (ac (ak 0) ae)) ar (av _)) (fu (df (bJ (aq (cV Z) (rm hr) rfl (ac (GF 0) ae)))) (dm (df (bJ (aq (cV Z) (rm hr) rfl (ac (GF 0) ae))))))))) (af (au dh)) aB) (ad (aN (aE yj (GF 0) ar (av _)) (af (au dh)) aB) (ad (t7 (ak 0) (bH (n:=2) rfl (ax (ap 1 ba.nd) (ax (ap 2 ba.nd) aS)))) (ad (pP Hl (aE (fS hU) (ak 2) ar (av _)) (af (CY 1 2 rfl ba.nd (by decide) (ac (ak 2) (ac (aD gh (ak 1) (ak 2)) ae))))) (af (au (bU (cX hU) (aM DI rfl Z.x52 DU (ac (ak 1) ae)) ar (av _)))))))),?_⟩;obtain⟨⟨x,y⟩,rfl,lo,q⟩:=h;have y0:0<y:=lo.pos;unfold GJ;refine ag λK1 hK1=>?_;walk_at "rd";refine GH (λz=>z rfl) ⟨x,rfl,?_⟩;walk_at "rd";refine⟨y,rfl,?_⟩;walk_at "rd";rw[hK1];refine ag λK2 hK2=>?_;walk_at "rd";refine GH (by omega) ?_;rw[hK2];refine ag λK3 hK3=>?_;walk_at "rd";rw[hK3];refine⟨λδ=>∃a b,δ=[.dat (.tup [.int x,.int y]),.dat (.int a),.dat (.int b)]/\gc a b=gc x y,λδ=>match δ with | [_,_,.dat (.int b)]=>b.natAbs | _=>0,⟨x,y,rfl,rfl⟩,?_⟩;rintro δ ⟨a,b,rfl,e⟩;walk_at "rd";refine dQ (λc=>?_) (λc=>?_)
 ·exact⟨c,(uy a b).trans e,eM a b c⟩
 ·have c:=Jk.mp c
  subst c;rw[uH,lo.cop] at e;rw[HG e];exact q
inductive iQ(ds:List D)(R:D->Prop):Prop
 | mk (a b c d:Int) (hh:ds=[.tup [.int a,.int b],.tup [.int c,.int d]]/\IntMulOk a d/\IntMulOk c b/\R (.int (a*d-c*b)))
def ji:∀ds R,iQ ds R->ds.length=2:=λ_ _ ⟨_,_,_,_,e,_⟩=>by rw[e];rfl
theorem ng:aw ["_law_one","_law_other"] ["_law_one","_law_other"] (am s__law_over):=by walk_at "sc"
theorem kP(Z:Zz):Z.C 1 "_law_over" ["_law_one","_law_other"] (Gx Z.K iQ):=by
 refine cw Z.x36 ng ji λfa cdv A outer s H E ds R hr h=>?_;have hU:=hr.units;refine⟨_,(af (au (aD jZ (aD bu (GF 0) (GF 1)) (aD bu (GF 1) (GF 0))))),?_⟩;obtain⟨a,b,c,d,rfl,h1,h2,q⟩:=h;walk_at "rd";exact⟨h1,h2,q⟩
structure Pk(ks:List Str)(ps:List (Int×Int)):Prop where
 P:Pt ks ps 3000000
 κ:ib (Gs (pB ks ps) ks)<=20000
inductive gO(ds:List D)(R:D->Prop):Prop
  | mk (ts:List (Str×Int)) (ks:List Str) (ps:List (Int×Int)) (hh:ds=[.tup (ts.map GQ),.fd ks (ps.map GJ)]/\(ts.map (·.1)).Nodup/\ts.length<=60/\(∀t∈ts,t.1∈ks/\ib t.2<=10000)/\Pk ks ps /\
  (ib (Gs (pB ks ps) (ts.map (·.1)))<=20000->ib (cI (ov (pT ks ps) (pB ks ps) (Gs (pB ks ps) (ts.map (·.1)))) ts)<=3100000->0<Gs (pB ks ps) (ts.map (·.1)) ->
  R (.tup [.int (cI (ov (pT ks ps) (pB ks ps) (Gs (pB ks ps) (ts.map (·.1)))) ts),.int (Gs (pB ks ps) (ts.map (·.1)))])))
def il:∀ds R,gO ds R->ds.length=2:=λ_ _ ⟨_,_,_,e,_⟩=>by rw[e];rfl
theorem a4:aw ["_law_terms","_law_point","_law_top","_law_low","_law_name","_law_weight","_law_value"] ["_law_terms","_law_point"] (am s__law_total):=by walk_at "sc"
theorem jV(Z:Zz):Z.C 1 "_law_total" ["_law_terms","_law_point"] (Gx Z.K gO):=by
 refine cw Z.x37 a4 il λfa cdv A outer s H E ds R hr h=>?_;have hU:=hr.units;refine⟨_,(ad (aA 2 a4.nd ar) (ad (aA 3 a4.nd ar) (ad (gF Hl rfl (ak 0) (bH (n:=2) rfl (ax (ap 4 a4.nd) (ax (ap 5 a4.nd) aS))) (ad (aA 6 a4.nd (cT hU (ak 1) (ak 4) (λ_ _=>rfl))) (ad (aA 2 a4.nd (aD aR (aD bu (ak 2) (GF 6)) (aD bu (aD bu (ak 5) (GF 6)) (ak 3)))) (af (aA 3 a4.nd (aD bu (ak 3) (GF 6))))))) (af (au (aJ (ac (ak 2) (ac (ak 3) ae)))))))),?_⟩;obtain⟨ts,ks,ps,rfl,nd,hl,ht,⟨P,hκ⟩,q⟩:=h;walk_at "rd";simp only[oC];walk_at "rd";have tk:∀i,∀t∈ts.take i,t∈ts:=λi t h=>IK h
 have tb:∀i,ib (Gs (pB ks ps) ((ts.take i).map (·.1)))<=20000:=λi=>mR (nd.sublist ((List.take_sublist i ts).map _)) (λn hn=>by
  obtain⟨t,h1,rfl⟩:=GZ.mp hn
  exact(ht t (tk i t h1)).1) (λn hn=>P.pos hn) hκ
 have ts':∀i,ib (cI (ov (pT ks ps) (pB ks ps) (Gs (pB ks ps) ((ts.take i).map (·.1)))) (ts.take i))<=3100000:=λi =>
  G0 (gH (c:=10000) (m:=3020000) λt h1=>⟨(ht t (tk i t h1)).2,Hw (P.Tb (ht t (tk i t h1)).1) (HW (tb i))⟩) (by rw[HI];omega)
 refine⟨λi δ=>∃x y z,δ=[.dat (.tup (ts.map GQ)),.dat (.fd ks (ps.map GJ)),.dat (.int (cI (ov (pT ks ps) (pB ks ps) (Gs (pB ks ps) ((ts.take i).map (·.1)))) (ts.take i))),.dat (.int (Gs (pB ks ps) ((ts.take i).map (·.1)))),x,y,z],⟨_,_,_,rfl⟩,?_,?_⟩
 ·rintro i d δ hd ⟨x,y,z,rfl⟩;obtain⟨t,hn,rfl⟩:=c6 hd;have htm:=Hc hn;have hk:=(ht t htm).1;walk_at "rd";refine⟨_,P.D hk,?_⟩;walk_at "rd";refine⟨mo2 (ts' i) (P.Bb hk),mo2 (ht t htm).2 (P.Tb hk),mo2 (Hw (ht t htm).2 (P.Tb hk)) (tb i),mo2 (tb i) (P.Bb hk),?_⟩;rw[aG hn,Hj,gq,List.map_singleton,oE];refine⟨xl (λw hw=>⟨?_,dO (GZ.mpr ⟨w,hw,rfl⟩)⟩) ?_,rfl⟩
  ·have:=P.pos (ht w (tk i w hw)).1;omega
  ·have:=P.pos hk;omega
 ·rintro δ ⟨x,y,z,rfl⟩;have e1:ts.take (ts.map GQ).length=ts:=by rw[GW,Ho]
  have b1:=tb (ts.map GQ).length
  have b2:=ts' (ts.map GQ).length
  rw[e1] at b1 b2 ⊢;walk_at "rd"
  exact q b1 b2 (cG λn hn=>by
   obtain⟨t,h1,rfl⟩:=GZ.mp hn
   exact P.pos (ht t h1).1)
inductive fD(ds:List D)(R:D->Prop):Prop
 | mk (r:Rw) (ks:List Str) (ps:List (Int×Int)) (hh:ds=[Gu r,.fd ks (ps.map GJ)]/\(r.2.1.map (·.1)).Nodup/\r.2.1.length<=60/\ib r.2.2<=10000/\(∀t∈r.2.1,t.1∈ks/\ib t.2<=10000)/\Pk ks ps/\R (.bl (sM (pT ks ps) (pB ks ps) r.1 r.2.1 r.2.2)))
def gm:∀ds R,fD ds R->ds.length=2:=λ_ _ ⟨_,_,_,e,_⟩=>by rw[e];rfl
theorem eO:aw ["_law_row","_law_point","_law_found"] ["_law_row","_law_point"] (am s__law_row_so):=by walk_at "sc"
theorem iR(Z:Zz):Z.C 2 "_law_row_so" ["_law_row","_law_point"] (Gx Z.K fD):=by
 refine cw Z.x38 eO gm λfa cdv A outer s H E ds R hr h=>?_;have hU:=hr.units;refine⟨_,(ad (aA 2 eO.nd (aq (kP Z) (rm hr) rfl (ac (aq (jV Z) (rm hr) rfl (ac (GF 0) (ac (ak 1) ae))) (ac (aJ (ac (GF 0) (ac ar ae))) ae)))) (af (au (sn (bU uD (ak 2) ar (av _)) (cF (gf (bU (cX hU) (ak 2) ar (av _)) (cF (bU (cX hU) (GF 0) ay (av _))))))))),?_⟩;obtain⟨⟨k,ts,b⟩,ks,ps,rfl,nd,hl,bb,ht,Pk,q⟩:=h;unfold Gu ie;walk_at "rd";refine⟨ts,ks,ps,rfl,nd,hl,ht,Pk,λb1 b2 bp=>?_⟩;walk_at "rd";refine⟨_,_,_,_,rfl,IntMulOk.of_right (by decide),mo2 bb b1,?_⟩;walk_at "rd";have q:R (.bl (oZ k (cI (ov (pT ks ps) (pB ks ps) (Gs (pB ks ps) (ts.map (·.1)))) ts) (b*Gs (pB ks ps) (ts.map (·.1))))):=q;generalize cI (ov (pT ks ps) (pB ks ps) (Gs (pB ks ps) (ts.map (·.1)))) ts=T at *;generalize Gs (pB ks ps) (ts.map (·.1))=B at *;generalize b*B=C at *;rw[Int.mul_one];refine dQ (λh1=>?_) λh1=>dQ (λh2=>?_) λh2=>?_
 ·cases k with
  | least=>have q:R (.bl (decide (C<=T))):=q;rw[HG (by omega)] at q;exact q
  | more=>have q:R (.bl (decide (C<T))):=q;rw[HG (by omega)] at q;exact q
 ·cases k with
  | least=>have q:R (.bl (decide (C<=T))):=q;rw[HG (by omega)] at q;exact q
  | more=>have q:R (.bl (decide (C<T))):=q;rw[HA (by omega)] at q;exact q
 ·cases k with
  | least=>have q:R (.bl (decide (C<=T))):=q;rw[HA (by omega)] at q;exact q
  | more=>have q:R (.bl (decide (C<T))):=q;rw[HA (by omega)] at q;exact q
theorem lg64{x:Int}(h0:0<x)(h1:x<64):x.natAbs.log2<9000:=by
 refine HD ((Nat.log2_lt (by omega)).mpr (show x.natAbs<2 ^ 6 by omega)) (by decide)
def yq(c:Int):Int:=if c.fmod 5=0 then 0 else if c.fmod 5<4 then (c.fdiv 5).fmod 7-3 else (c.fdiv 5).fmod (2*1000000000+1)-1000000000
theorem fR(c:Int):ib (yq c)<=30:=by
 have bb:∀ {x:Int},-1000000000<=x->x<=1000000000->ib x<=30:=λh0 h1=>intBits_le_iff.mpr (by rw[show (2:Nat) ^ 30=1073741824 by decide +kernel];omega)
 have a0:=Hy (c.fdiv 5) (b:=7) (by decide)
 have a1:=HK (c.fdiv 5) (b:=7) (by decide)
 have a2:=Hy (c.fdiv 5) (b:=2*1000000000+1) (by decide)
 have a3:=HK (c.fdiv 5) (b:=2*1000000000+1) (by decide)
 unfold yq
 by_cases h1:c.fmod 5=0
 ·rw[Hh h1];decide
 ·rw[He h1]
  by_cases h2:c.fmod 5<4
  ·rw[Hh h2];exact bb (by omega) (by omega)
  ·rw[He h2];exact bb (by omega) (by omega)
inductive fH(ds:List D)(R:D->Prop):Prop
 | mk (c:_) (hh:ds=[.int c]/\ib c<=1048600/\R (.int (yq c)))
def gL:∀ds R,fH ds R->ds.length=1:=λ_ _ ⟨_,e,_⟩=>by rw[e];rfl
theorem cW:aw ["_law_cell_here","_law_kind"] ["_law_cell_here"] (am s__law_number):=by walk_at "sc"
theorem cH(Z:Zz):Z.C 1 "_law_number" ["_law_cell_here"] (Gx Z.K fH):=by
 refine cw Z.x39 cW gL λfa cdv A outer s H E ds R hr h=>?_;have hU:=hr.units;refine⟨_,(ad (aA 1 cW.nd (aD gh (ak 0) ar)) (ad (aA 0 cW.nd (aD ee (ak 0) ar)) (ad (aN (aE (cX hU) (ak 1) ar (av _)) (af (au ar)) aB) (ad (aN (aE yj (ak 1) ar (av _)) (af (au (aD jZ (aD gh (ak 0) ar) ar))) aB) (af (au (aD jZ (aD gh (ak 0) (aD aR (aD bu ar (aD DC ar ar)) ar)) (aD DC ar ar)))))))),?_⟩;obtain⟨c,rfl,hc,q⟩:=h;walk_at "rd";have e9:(10:Int) ^ Int.toNat 9=1000000000:=by decide +kernel
 rw[e9];unfold yq at q;refine⟨cnz (by decide),xy (by decide) (by decide +kernel),dQ (λh1=>?_) λh1=>dQ (λh2=>⟨cnz (by decide),?_⟩) λh2=>⟨⟨by decide,by decide,by decide⟩,IS (by decide),cnz (by decide),⟨by decide,by decide,by decide⟩,?_⟩⟩
 ·rw[Hh h1] at q;exact q
 ·rw[He h1,Hh h2] at q;exact q
 ·rw[He h1,He h2] at q;exact q
theorem atL{α β:Type}{f:α->β}{xs:List α}{k:Nat}(h:k<xs.length):GK (xs.map f) (k:Int)=some (f xs[k]):=by
 rw[zn (by omega) (by rw[GW];omega),List.getElem?_map,JJ,List.getElem?_eq_getElem h];rfl
theorem yK:∀ts:List (Str×Int),D.ims (ts.map GQ)=true
 | []=>rfl
 | t::ts=>by rw[Hm];simp only[D.ims,yK ts];rfl
theorem Fe(r:Rw):D.im (Gu r)=true:=by
 unfold Gu ie;simp only[D.im,D.ims,yK];rfl
def S4:List Str:=["a","b","c","d"]
theorem FI:S4.Nodup:=by decide +kernel
theorem EU:S4.Pairwise leS:=by unfold S4 leS;decide +kernel
structure Rg(r:Rw):Prop where
 tm:jP S4 r.2.1
 tb:∀t∈r.2.1,ib t.2<=34
 bb:ib r.2.2<=34
structure Sg(s:GL):Prop where
 dep:s.dep<=10
 ok:s.ok S4
 bt:s.bt 34
 few:(s.pl false).num<=4/\(s.pl false).long<=3
inductive je(ds:List D)(R:D->Prop):Prop
 | mk (cs:List Int) (nms:List Str) (hh:ds=[.lst (cs.map D.int),.lst (nms.map D.str)]/\∃h5:cs.length=5,(∀c∈cs,ib c<=1048600)/\nms.length=3/\nms.Sublist S4/\∀r:Rw,Rg r->R (Gu r))
def jD:∀ds R,je ds R->ds.length=2:=λ_ _ ⟨_,_,e,_⟩=>by rw[e];rfl
theorem cM:aw ["_law_cells","_law_names_here","_law_terms","_law_k","_law_weight"] ["_law_cells","_law_names_here"] (am s__law_line):=by walk_at "sc"
theorem lg(Z:Zz):Z.C 2 "_law_line" ["_law_cells","_law_names_here"] (Gx Z.K je):=by
 refine cw Z.x40 cM jD λfa cdv A outer s H E ds R hr h=>?_;have hU:=hr.units;refine⟨_,(ad (dy 2 cM.nd ae) (ad (lD Hl rfl rfl Z.x59 (ac ar ae) (ap 3 cM.nd) (ad (aA 4 cM.nd (aq (cH Z) (rm hr) rfl (ac (gM gz (ak 0) (aD aR ar (ak 3)) (λ_ _=>rfl)) ae))) (af (aN (aE (fS hU) (ak 4) ar (av _)) (af (bf 2 (aJ (ac (gM gz (ak 1) (ak 3) (λ_ _=>rfl)) (ac (ak 4) ae))))) aB)))) (af (au (aJ (ac (gM gz (bV (ac ay (ac ay ae))) (aD gh (GF 0) ar) (λ_ _=>rfl)) (ac (jz 2 rfl Z.x54 bM) (ac (aq (cH Z) (rm hr) rfl (ac (GF 0) ae)) ae)))))))),?_⟩;obtain⟨cs,nms,rfl,hl,hb,n3,hS,q⟩:=h;have ca:∀k:Nat,(h:k<5)->GK (cs.map D.int) (k:Int)=some (.int (cs[k]'(by omega))):=λk h=>atL (by omega);have cb:∀k:Nat,(h:k<5)->ib (cs[k]'(by omega))<=1048600:=λk h=>hb _ (Ia _);refine ag λK2 hK2=>?_;walk_at "rd";intro ta;rw[hK2];refine ag λK3 hK3=>?_;walk_at "rd";simp only[Bj];walk_at "rd";refine⟨by decide,by decide,λi δ=>∃ts x y,δ=[.dat (.lst (cs.map D.int)),.dat (.lst (nms.map D.str)),.own ta (.lst (ts.map GQ)),x,y]/\(ts.map (·.1)).Sublist (nms.take i)/\(∀t∈ts,t.2≠0/\ib t.2<=30),⟨[],_,_,rfl,by simp,λ_ h=>(nomatch h)⟩,?_,?_⟩
 ·rintro i δ hi ⟨ts,x,y,rfl,hsb,hts⟩;have hi:i<3:=hi;have hlt:ts.length<=i:=by
   have:=hsb.length_le
   rw[GW,HI] at this;omega
  have hni:nms[i]?=some (nms[i]'(by omega)):=List.getElem?_eq_getElem (by omega)
  walk_at "rd";refine GD.of (by rw[show (1:Int)+(i:Int)=((i+1:Nat):Int) by omega];exact ca (i+1) (by omega)) ⟨_,rfl,cb (i+1) (by omega),?_⟩;have br:=fR (cs[i+1]'(by omega));generalize yq (cs[i+1]'(by omega))=r at br ⊢;walk_at "rd";refine dQ (λhz=>?_) λhz=>?_
  ·refine GD.of (atL (by omega)) ?_;walk_at "rd";refine⟨by rw[GW];omega,ts++[(nms[i]'(by omega),r)],by rw[Hj];rfl,?_,λt ht=>?_⟩
   ·rw[aG hni,Hj];exact hsb.append (List.Sublist.refl _)
   ·rcases Hb.mp ht with ht | ht
    ·exact hts t ht
    ·rw[G9.mp ht];exact⟨hz,br⟩
  ·exact⟨ts,rfl,by rw[aG hni];exact hsb.trans (List.sublist_append_left ..),hts⟩
 ·rintro δ ⟨ts,x,y,rfl,hsb,hts⟩;have hsb:(ts.map (·.1)).Sublist (nms.take 3):=hsb;rw[JG (by omega)] at hsb;have hlt:ts.length<=3:=by
   have:=hsb.length_le
   rw[GW] at this;omega
  rw[hK3];walk_at "rd";refine GD.of (ca 0 (by decide)) ?_;walk_at "rd";have m0:=Hy (cs[0]'(by omega)) (b:=2) (by decide);have m1:=HK (cs[0]'(by omega)) (b:=2) (by decide);have h2:(cs[0]'(by omega)).fmod 2=0\/(cs[0]'(by omega)).fmod 2=1:=by omega
  have fin:∀k r,ib r<=30->R (Gu (k,ts,r)):=λk r br=>q (k,ts,r) ⟨⟨hsb.trans hS,λt h=>(hts t h).1,λt h=>G0 (hts t h).2 (by decide)⟩,λt h=>G0 (hts t h).2 (by decide),G0 br (by decide)⟩
  refine⟨cnz (by decide),?_⟩
  rcases h2 with h2 | h2<;>rw[h2]
  ·walk_at "rd";exact GD.of (ca 4 (by decide)) ⟨_,rfl,cb 4 (by decide),fin .least _ (fR _)⟩
  ·walk_at "rd";exact GD.of (ca 4 (by decide)) ⟨_,rfl,cb 4 (by decide),fin .more _ (fR _)⟩
inductive g6(ds:List D)(R:D->Prop):Prop
 | mk (cs fs:List Int) (sd:Int) (hh:ds=[.lst (cs.map D.int),.lst (fs.map D.int),.int sd]/\cs.length=5/\fs.length=3/\(∀f∈fs,ib f<=30)/\(sd=0\/sd=1)/\∀r:Rw,Rg r->R (Gu r))
def iA:∀ds R,g6 ds R->ds.length=3:=λ_ _ ⟨_,_,_,e,_⟩=>by rw[e];rfl
theorem bC:aw ["_law_cells","_law_fence_here","_law_side","_law_often","_law_free","_law_sign","_law_sums","_law_terms"] ["_law_cells","_law_fence_here","_law_side"] (am s__law_fence):=by walk_at "sc"
theorem jX(Z:Zz):Z.C 1 "_law_fence" ["_law_cells","_law_fence_here","_law_side"] (Gx Z.K g6):=by
 refine cw Z.x41 bC iA λfa cdv A outer s H E ds R hr h=>?_;have hU:=hr.units;refine⟨_,(ad (aA 3 bC.nd (aD aR ar (aD gh (GF 0) ar))) (ad (aA 4 bC.nd (aD jZ (aD gh (GF 0) ar) ar)) (ad (aA 5 bC.nd (aD jZ ar (aD bu ar (ak 2)))) (ad (xh 6 bC.nd (aD bu (aD bu (ak 5) (ak 3)) (GF 1)) (aD bu (aD bu (ak 5) (ak 3)) (GF 1))) (ad (gG 6 hU (ak 4) (gM gz (bV (ac ay (ac ay ae))) (ak 2) (λ_ _=>rfl))) (ci 6 (ad (eC 7 bC.nd ["_law_name"] [(6,"_law_sums")] rfl rfl (by decide +kernel) rfl (by decide +kernel) (bE ⟨rfl,trivial⟩) (bI rfl) (aY ⟨⟨rfl,rfl,.inl rfl⟩,trivial⟩) (fC (aM (fQ rfl) rfl Z.x53 eB (ac (ak 6) ae))) λ_ _ _ _ _=>⟨(ap 0 (show List.Nodup (["_law_name","_law_sums"]:List Str) by decide +kernel)),(gX (aE (fS hU) (cT hU (ak 1) (ak 0) (λ_ _=>rfl)) ar (av _))),(aJ (ac (ak 0) (ac (cT hU (ak 1) (ak 0) (λ_ _=>rfl)) ae)))⟩) (af (au (aJ (ac (gM gz (bV (ac ay (ac ay ae))) (aD gh (GF 0) ar) (λ_ _=>rfl)) (ac (cj fg rfl Z.x54 bM (ac (ak 7) ae)) (ac (aD aR (aD jZ (aD aR (aD bu (aD bu (ak 5) (ak 3)) (GF 1)) (aD gh (GF 0) ar)) ar) (ak 2)) ae))))))))))))),?_⟩;obtain⟨cs,fs,sd,rfl,h5,h3,hf,hs,q⟩:=h;have ca:∀k:Nat,(h:k<5)->GK (cs.map D.int) (k:Int)=some (.int (cs[k]'(by omega))):=λk h=>atL (by omega);have fa:∀k:Nat,(h:k<3)->GK (fs.map D.int) (k:Int)=some (.int (fs[k]'(by omega))):=λk h=>atL (by omega);have bd3:∀ {x y:Int} {m:Nat},ib x<=m->(y=1\/y=-1)->∀ {o:Int},1<=o->o<=3->x.natAbs<=1073741823->(y*o*x).natAbs<=3221225469:=λ{x y m} _ hy {o} o1 o3 hx=>by
  rw[Int.natAbs_mul];have h1:(y*o).natAbs<=3:=by rcases hy with rfl | rfl<;>omega
  exact G0 (Jp h1 hx) (by decide)
 have f30:∀k:Nat,(h:k<3)->(fs[k]'(by omega)).natAbs<=1073741823:=λk h=>by
  have:=intBits_le_iff.mp (hf (fs[k]'(by omega)) (Ia _))
  rw[show (2:Nat) ^ 30=1073741824 by decide +kernel] at this;omega
 refine ag λK1 hK1=>?_;walk_at "rd";refine GD.of (ca 1 (by decide)) ?_;walk_at "rd";have o0:=Hy (cs[1]'(by omega)) (b:=3) (by decide);have o1:=HK (cs[1]'(by omega)) (b:=3) (by decide);refine⟨cnz (by decide),?_⟩;rw[hK1];generalize hof:1+(cs[1]'(by omega)).fmod 3=of;have of1:1<=of:=by omega
 have of3:of<=3:=by omega
 clear hof o0 o1;refine ag λK2 hK2=>?_;walk_at "rd";refine GD.of (ca 2 (by decide)) ?_;walk_at "rd";have o0:=Hy (cs[2]'(by omega)) (b:=5) (by decide);have o1:=HK (cs[2]'(by omega)) (b:=5) (by decide);refine⟨cnz (by decide),?_⟩;rw[hK2];generalize hfr:(cs[2]'(by omega)).fmod 5-2=fr;have fr1:fr.natAbs<=2:=by omega
 clear hfr o0 o1;refine ag λK3 hK3=>?_;walk_at "rd";refine⟨IS (by decide),?_⟩;rw[hK3];generalize hsg:1-2*sd=sg;have sg1:sg=1\/sg=-1:=by omega
 clear hsg
 have mu:∀ {x:Int},IntMulOk (sg*of) x:=λ{x}=>IS (by
  rcases sg1 with rfl | rfl<;>exact intBits_le_64 (by omega) (by omega))
 have msg:IntMulOk sg of:=IS (by rcases sg1 with rfl | rfl<;>decide)
 refine ag λK4 hK4=>?_;walk_at "rd";have va:=bd3 (hf (fs[0]'(by omega)) (Ia _)) sg1 of1 of3 (f30 0 (by decide));have vb:=bd3 (hf (fs[1]'(by omega)) (Ia _)) sg1 of1 of3 (f30 1 (by decide));have vc:=bd3 (hf (fs[2]'(by omega)) (Ia _)) sg1 of1 of3 (f30 2 (by decide));refine⟨msg,GD.of (fa 0 (by decide)) ?_⟩;walk_at "rd";refine⟨mu,msg,GD.of (fa 1 (by decide)) ?_⟩;walk_at "rd";refine⟨mu,by decide,λsa=>?_⟩;rw[hK4];generalize sg*of*fs[0]'(by omega)=v0 at *;generalize sg*of*fs[1]'(by omega)=v1 at *;have b34:∀ {x:Int},x.natAbs<=3300000000->ib x<=34:=λ{x} h=>intBits_le_iff.mpr (by rw[show (2:Nat) ^ 34=17179869184 by decide +kernel];omega);refine ag λK5 hK5=>?_;have key:∀x:Str,x∈S4->x≠"b"->x≠"c"->K5 [.dat (.lst (cs.map D.int)),.dat (.lst (fs.map D.int)),.dat (.int sd),.dat (.int of),.dat (.int fr),.dat (.int sg),.own sa (.dct ["b","c",x] [.int v0,.int v1,.int fr]),.no]:=?_
 ·walk_at "rd"
  rcases hs with rfl | rfl
  ·walk_at "rd";exact key "a" (by decide +kernel) (by decide) (by decide)
  ·walk_at "rd";exact key "d" (by decide +kernel) (by decide) (by decide)
 intro x xS xb xc;have ev:([.int v0,.int v1,.int fr]:List D)=(["b","c",x]:List Str).map λn=>.int (if n="b" then v0 else if n="c" then v1 else fr):=by
  simp only[List.map_cons,List.map_nil,if_neg xb,if_neg xc,if_true];rfl
 have nd:(["b","c",x]:List Str).Nodup:=by
  simp only[List.nodup_cons,List.mem_cons,List.not_mem_nil,or_false,not_or,not_false_eq_true,List.nodup_nil,and_true];exact⟨⟨by decide,λz=>xb z.symm⟩,λz=>xc z.symm⟩
 have hs4:∀n∈(["b","c",x]:List Str),n∈S4:=λn hn=>by
  simp only[List.mem_cons,List.not_mem_nil,or_false] at hn
  rcases hn with rfl | rfl | rfl
  ·decide +kernel
  ·decide +kernel
  ·exact xS
 have fbt:∀n:Str,(if n="b" then v0 else if n="c" then v1 else fr).natAbs<=3221225469:=λn=>by
  by_cases h1:n="b"
  ·rw[Hh h1];exact va
  ·rw[He h1]
   by_cases h2:n="c"
   ·rw[Hh h2];exact vb
   ·rw[He h2];omega
 rw[ev,hK5];generalize (["b","c",x]:List Str)=ks at *;generalize hFF:(λn:Str=>if n="b" then v0 else if n="c" then v1 else fr)=FF;have eF:∀n,(if n=("b":Str) then v0 else if n="c" then v1 else fr)=FF n:=λn=>by rw[<- hFF]
 simp only[eF] at fbt ⊢;clear ev eF hFF;have k4:=dM nd hs4;have k4:ks.length<=4:=k4;walk_at "rh";refine ag λK6 hK6=>?_;walk_at "rd";refine⟨by omega,λss' pm st=>?_⟩;have hl':=pm.length_eq;refine⟨by rw[GW];omega,λd=>match d with | .str n=>if FF n≠0 then some (.tup [.str n,.int (FF n)]) else none | _=>none,λx hx=>?_,?_⟩
 ·obtain⟨n,hn,rfl⟩:=GZ.mp hx;have hnk:n∈ks:=pm.mem_iff.mp hn;walk_at "rd";refine⟨_,cB (λn=>D.int (FF n)) hnk,?_⟩;walk_at "rd";refine dQ (λhz=>?_) λhz=>?_
  ·exact⟨_,cB (λn=>D.int (FF n)) hnk,by rw[Hh hz]⟩
  ·rw[He hz]
 have e:(ss'.map D.str).filterMap (λd=>match d with | .str n=>if FF n≠0 then some (D.tup [.str n,.int (FF n)]) else none | _=>none)=((ss'.filter λn=>decide (FF n≠0)).map λn=>(n,FF n)).map GQ:=by
  clear hl' pm st
  induction ss' with
  | nil=>rfl
  | cons n r ih =>
   rw[Hm,HP];simp only
   by_cases hz:FF n≠0
   ·rw[Hh hz,HC (by simpa using hz)];simp only[List.map_cons];rw[ih];rfl
   ·rw[He hz,Ht (by simpa using hz)];exact ih
 rw[e,hK6];have tm:jP S4 ((ss'.filter λn=>decide (FF n≠0)).map λn=>(n,FF n))/\∀t∈(ss'.filter λn=>decide (FF n≠0)).map λn=>(n,FF n),ib t.2<=34:=by
  have en:((ss'.filter λn=>decide (FF n≠0)).map λn=>(n,FF n)).map (·.1)=ss'.filter λn=>decide (FF n≠0):=by
   rw[HB];exact List.map_id _
  have bb:∀t∈(ss'.filter λn=>decide (FF n≠0)).map λn=>(n,FF n),ib t.2<=34:=λt ht=>by
   obtain⟨n,_,rfl⟩:=GZ.mp ht;exact b34 (by have:=fbt n;show (FF n).natAbs<=_;omega)
  refine⟨⟨?_,λt ht=>?_,λt ht=>G0 (bb t ht) (by decide)⟩,bb⟩
  ·rw[en];exact sF ((gP st).filter _) ((pm.nodup_iff.mpr nd).filter _) EU FI λn hn=>hs4 n (pm.mem_iff.mp (Hi.mp hn).1)
  ·obtain⟨n,hn,rfl⟩:=GZ.mp ht;simpa using (Hi.mp hn).2
 generalize (ss'.filter λn=>decide (FF n≠0)).map (λn=>(n,FF n))=ts at *
 walk_at "rd";refine GD.of (ca 0 (by decide)) ?_;walk_at "rd";have o0:=Hy (cs[0]'(by omega)) (b:=2) (by decide);have o1:=HK (cs[0]'(by omega)) (b:=2) (by decide);have p0:=Hy (cs[4]'(by omega)) (b:=3) (by decide);have p1:=HK (cs[4]'(by omega)) (b:=3) (by decide);have fin:∀k,R (.tup [.str (kdS k),.tup (ts.map GQ),.int (sg*of*(fs[2]'(by omega))+(cs[4]'(by omega)).fmod 3-1+sd)]):=λk=>q (k,ts,_) ⟨tm.1,tm.2,b34 (by show (sg*of*(fs[2]'(by omega))+(cs[4]'(by omega)).fmod 3-1+sd).natAbs<=_;omega)⟩;refine⟨cnz (by decide),?_⟩;have h2:(cs[0]'(by omega)).fmod 2=0\/(cs[0]'(by omega)).fmod 2=1:=by omega
 rcases h2 with h2 | h2<;>rw[h2]
 ·walk_at "rd";exact⟨msg,GD.of (fa 2 (by decide)) ⟨mu,GD.of (ca 4 (by decide)) ⟨cnz (by decide),fin .least⟩⟩⟩
 ·walk_at "rd";exact⟨msg,GD.of (fa 2 (by decide)) ⟨mu,GD.of (ca 4 (by decide)) ⟨cnz (by decide),fin .more⟩⟩⟩
def lf(b:Bool)(r:Rw):GL:=if b=true then .nt (xO r) else xO r
theorem zg(b:Bool)(r:Rw)(t:Bool):((lf b r).pl t).num=1/\((lf b r).pl t).long=1:=by
 unfold lf xO
 cases b<;>cases t<;>exact⟨rfl,rfl⟩
theorem ql(b:Bool)(r:Rw):(lf b r).dep<=2:=by
 cases b
 ·exact(by decide:(1:Nat)<=2)
 ·exact(by decide:(2:Nat)<=2)
theorem xD{r:Rw}(h:Rg r):(lf b r).ok S4:=by
 unfold lf xO;have:jP S4 r.2.1/\ib r.2.2<=10000:=⟨h.tm,G0 h.bb (by decide)⟩
 cases b<;>exact this
theorem xE{r:Rw}(h:Rg r):(lf b r).bt 34:=by
 unfold lf xO
 cases b<;>exact⟨h.tb,h.bb⟩
inductive fZ(ds:List D)(R:D->Prop):Prop
 | mk (rows:List Rw) (c:Int) (hh:ds=[.lst (rows.map Gu),.int c]/\rows.length=4/\(∀r∈rows,Rg r)/\∀s:GL,Sg s->R s.D)
def gD:∀ds R,fZ ds R->ds.length=2:=λ_ _ ⟨_,_,e,_⟩=>by rw[e];rfl
theorem lf_D(x:Int)(r:Rw):(if x=0 then Gu r else .tup [.str "not",Gu r])=(lf (decide (x≠0)) r).D:=by
 unfold lf
 by_cases h:x=0
 ·rw[Hh h,HA (λz=>z h)];rfl
 ·rw[He h,HG h];rfl
def bF(b:Bool)(r:Rw)(t:Bool):((lf b r).pl t).num=1:=(zg b r t).1
def aZ(b:Bool)(r:Rw)(t:Bool):((lf b r).pl t).long=1:=(zg b r t).2
theorem Fw{x y:D}{m:Int}(h0:0<=m)(h1:m<2):GK [x,y] m=some (if m=0 then x else y):=by
 have:m=0\/m=1:=by omega
 rcases this with rfl | rfl
 ·rw[Hh rfl];exact at0
 ·rw[He (by decide)];exact at1
theorem aP:aw ["_law_rows","_law_cell_here","_law_r","_law_s","_law_t","_law_u","_law_some"] ["_law_rows","_law_cell_here"] (am s__law_shaped):=by walk_at "sc"
theorem jI(Z:Zz):Z.C 1 "_law_shaped" ["_law_rows","_law_cell_here"] (Gx Z.K fZ):=by
 refine cw Z.x42 aP gD λfa cdv A outer s H E ds R hr h=>?_;have hU:=hr.units;refine⟨_,(ad (t7 (b6 ["_law_k","_law_row"] [(1,"_law_cell_here")] rfl rfl (by decide +kernel) rfl (by decide +kernel) (bE ⟨rfl,trivial⟩) (bI rfl) (aY ⟨⟨rfl,rfl,.inl rfl⟩,trivial⟩) (uU rfl Z.x58 (ac (ak 0) ae)) λ_ _ _ _ _=>⟨(bH (n:=2) rfl (ax (ap 0 (show List.Nodup (["_law_k","_law_row","_law_cell_here"]:List Str) by decide +kernel)) (ax (ap 1 (show List.Nodup (["_law_k","_law_row","_law_cell_here"]:List Str) by decide +kernel)) aS))),dl,(gM gz (bV (ac (ak 1) (ac (aJ (ac ay (ac (ak 1) ae))) ae))) (aD gh (aD ee (aD ee (ak 2) ar) (aD FL ar (ak 0))) ar) (λ_ _=>rfl))⟩) (yY (n:=4) rfl (ax (ap 2 aP.nd) (ax (ap 3 aP.nd) (ax (ap 4 aP.nd) (ax (ap 5 aP.nd) aS)))))) (ad (aA 6 aP.nd (bV (ac (ak 2) (ac (aJ (ac ay (ac (ak 2) (ac (ak 3) ae)))) (ac (aJ (ac ay (ac (ak 2) (ac (ak 3) ae)))) (ac (aJ (ac ay (ac (ak 2) (ac (aJ (ac ay (ac (ak 3) (ac (ak 4) ae)))) ae)))) (ac (aJ (ac ay (ac (aJ (ac ay (ac (ak 2) (ac (ak 3) ae)))) (ac (ak 4) ae)))) ae))))))) (ad (aA 6 aP.nd (aD aR (ak 6) (bV (ac (aJ (ac ay (ac (aJ (ac ay (ac (ak 2) (ac (ak 3) ae)))) (ac (ak 4) ae)))) (ac (aJ (ac ay (ac (aJ (ac ay (ac (ak 2) (ac (ak 3) ae)))) (ac (aJ (ac ay (ac (ak 4) (ac (ak 5) ae)))) ae)))) ae))))) (ad (aA 6 aP.nd (aD aR (ak 6) (bV (ac (aJ (ac ay (ac (aJ (ac ay (ac (ak 2) (ac (ak 3) ae)))) (ac (aJ (ac ay (ac (ak 4) (ac (ak 5) ae)))) ae)))) (ac (aJ (ac ay (ac (aJ (ac ay (ac (ak 2) (ac (aJ (ac ay (ac (ak 3) ae))) ae)))) ae))) ae))))) (ad (aA 6 aP.nd (aD aR (ak 6) (bV (ac (aJ (ac ay (ac (aJ (ac ay (ac (ak 2) (ac (aJ (ac ay (ac (ak 3) (ac (ak 4) ae)))) ae)))) ae))) (ac (aJ (ac ay (ac (aJ (ac ay (ac (aJ (ac ay (ac (ak 2) (ac (ak 3) ae)))) (ac (aJ (ac ay (ac (ak 4) (ac (ak 5) ae)))) ae)))) ae))) ae))))) (af (au (gM gz (ak 6) (aD gh (ak 1) ar) (λ_ _=>rfl))))))))),?_⟩
 obtain⟨rows,c,rfl,h4,hr,q⟩:=h
 match rows,h4 with
 | [r0,r1,r2,r3],_=>?_
 refine ag λK1 hK1=>?_;walk_at "rd";refine⟨by rw[yg];exact(by decide:4<=9000),λd=>match d with | .tup [.int k,r]=>some (if ((c.fdiv 32).fdiv (1*2 ^ k.toNat)).fmod 2=0 then r else .tup [.str "not",r]) | _=>none,λx hx=>?_,?_⟩
 ·have hx:∃(k:Nat) (r:Rw),k<4/\x=.tup [.int (k:Nat),Gu r]:=by
   obtain⟨k,hk⟩:=List.getElem?_of_mem hx;obtain⟨r,h1,h2⟩:=yA (l:=[r0,r1,r2,r3]) (f:=Gu) hk;exact⟨k,r,(List.getElem?_eq_some_iff.mp h1).1,h2⟩
  obtain⟨k,r,k4,rfl⟩:=hx;have p0:(0:Int)<1*2 ^ (k:Int).toNat:=by rw[Int.one_mul];exact Int.pow_pos (by decide)
  have p1:(1*2 ^ (k:Int).toNat:Int)<64:=by
   have:k=0\/k=1\/k=2\/k=3:=by omega
   rcases this with rfl | rfl | rfl | rfl<;>decide
  have m0:=Hy ((c.fdiv 32).fdiv (1*2 ^ (k:Int).toNat)) (b:=2) (by decide)
  have m1:=HK ((c.fdiv 32).fdiv (1*2 ^ (k:Int).toNat)) (b:=2) (by decide)
  refine⟨xy (by decide) (by decide +kernel),⟨by omega,by omega,by decide⟩,xy (by omega) (lg64 p0 p1),cnz (by decide),GD.of (Fw m0 m1) ?_⟩;walk_at "rd"
 ·have el:(enD [Gu r0,Gu r1,Gu r2,Gu r3]).filterMap (λd=>match d with | .tup [.int k,r]=>some (if ((c.fdiv 32).fdiv (1*2 ^ k.toNat)).fmod 2=0 then r else .tup [.str "not",r]) | _=>none)=[if ((c.fdiv 32).fdiv (1*2 ^ (0:Nat))).fmod 2=0 then Gu r0 else .tup [.str "not",Gu r0],if ((c.fdiv 32).fdiv (1*2 ^ (1:Nat))).fmod 2=0 then Gu r1 else .tup [.str "not",Gu r1],if ((c.fdiv 32).fdiv (1*2 ^ (2:Nat))).fmod 2=0 then Gu r2 else .tup [.str "not",Gu r2],if ((c.fdiv 32).fdiv (1*2 ^ (3:Nat))).fmod 2=0 then Gu r3 else .tup [.str "not",Gu r3]]:=rfl
  rw[el,lf_D,lf_D,lf_D,lf_D];have g0:=hr r0 (by simp);have g1:=hr r1 (by simp);have g2:=hr r2 (by simp);have g3:=hr r3 (by simp);generalize decide (((c.fdiv 32).fdiv (1*2 ^ (0:Nat))).fmod 2≠0)=b0;generalize decide (((c.fdiv 32).fdiv (1*2 ^ (1:Nat))).fmod 2≠0)=b1;generalize decide (((c.fdiv 32).fdiv (1*2 ^ (2:Nat))).fmod 2≠0)=b2;generalize decide (((c.fdiv 32).fdiv (1*2 ^ (3:Nat))).fmod 2≠0)=b3;walk_at "rd";rw[hK1];have d0:=ql b0 r0;have d1:=ql b1 r1;have d2:=ql b2 r2;have d3:=ql b3 r3;have o0:=xD (b:=b0) g0;have o1:=xD (b:=b1) g1;have o2:=xD (b:=b2) g2;have o3:=xD (b:=b3) g3;have t0:=xE (b:=b0) g0;have t1:=xE (b:=b1) g1;have t2:=xE (b:=b2) g2;have t3:=xE (b:=b3) g3;refine ag λK2 hK2=>?_;walk_at "rd";refine⟨by show 5<=9000;decide,?_⟩;rw[hK2];refine ag λK3 hK3=>?_;walk_at "rd";rw[hK3];refine ag λK4 hK4=>?_;walk_at "rd";rw[hK4];refine ag λK5 hK5=>?_;walk_at "rd";rw[hK5];walk_at "rd";have m0:=Hy c (b:=11) (by decide);have m1:=HK c (b:=11) (by decide);refine⟨cnz (by decide),?_⟩;generalize c.fmod 11=m at *;have fw:∀s:GL,s.dep<=10->s.ok S4->s.bt 34->(s.pl false).num<=4->(s.pl false).long<=3->R s.D:=λs a b c d e=>q s ⟨a,b,c,d,e⟩;have hm:m=0\/m=1\/m=2\/m=3\/m=4\/m=5\/m=6\/m=7\/m=8\/m=9\/m=10:=by omega
  have few:∀s:GL,(s.pl false).num<=4->(s.pl false).long<=3->(s.pl false).num<=4/\(s.pl false).long<=3:=λs a b=>⟨a,b⟩
  clear few
  rcases hm with rfl | rfl | rfl | rfl | rfl | rfl | rfl | rfl | rfl | rfl | rfl
  ·refine fw (lf b0 r0) ?_ o0 t0 ?_ ?_
   ·first | omega | (simp only[GL.dep];omega)
   ·simp[GL.pl,GL.num,GL.long,bF,aZ]
   ·simp[GL.pl,GL.num,GL.long,bF,aZ]
  ·refine fw (.bo (lf b0 r0) (lf b1 r1)) ?_ ⟨o0,o1⟩ ⟨t0,t1⟩ ?_ ?_
   ·first | omega | (simp only[GL.dep];omega)
   ·simp[GL.pl,GL.num,GL.long,bF,aZ]
   ·simp[GL.pl,GL.num,GL.long,bF,aZ]
  ·refine fw (.ei (lf b0 r0) (lf b1 r1)) ?_ ⟨o0,o1⟩ ⟨t0,t1⟩ ?_ ?_
   ·first | omega | (simp only[GL.dep];omega)
   ·simp[GL.pl,GL.num,GL.long,bF,aZ]
   ·simp[GL.pl,GL.num,GL.long,bF,aZ]
  ·refine fw (.bo (lf b0 r0) (.ei (lf b1 r1) (lf b2 r2))) ?_ ⟨o0,⟨o1,o2⟩⟩ ⟨t0,⟨t1,t2⟩⟩ ?_ ?_
   ·first | omega | (simp only[GL.dep];omega)
   ·simp[GL.pl,GL.num,GL.long,bF,aZ]
   ·simp[GL.pl,GL.num,GL.long,bF,aZ]
  ·refine fw (.ei (.bo (lf b0 r0) (lf b1 r1)) (lf b2 r2)) ?_ ⟨⟨o0,o1⟩,o2⟩ ⟨⟨t0,t1⟩,t2⟩ ?_ ?_
   ·first | omega | (simp only[GL.dep];omega)
   ·simp[GL.pl,GL.num,GL.long,bF,aZ]
   ·simp[GL.pl,GL.num,GL.long,bF,aZ]
  ·refine fw (.bo (.bo (lf b0 r0) (lf b1 r1)) (lf b2 r2)) ?_ ⟨⟨o0,o1⟩,o2⟩ ⟨⟨t0,t1⟩,t2⟩ ?_ ?_
   ·first | omega | (simp only[GL.dep];omega)
   ·simp[GL.pl,GL.num,GL.long,bF,aZ]
   ·simp[GL.pl,GL.num,GL.long,bF,aZ]
  ·refine fw (.ei (.ei (lf b0 r0) (lf b1 r1)) (.ei (lf b2 r2) (lf b3 r3))) ?_ ⟨⟨o0,o1⟩,⟨o2,o3⟩⟩ ⟨⟨t0,t1⟩,⟨t2,t3⟩⟩ ?_ ?_
   ·first | omega | (simp only[GL.dep];omega)
   ·simp[GL.pl,GL.num,GL.long,bF,aZ]
   ·simp[GL.pl,GL.num,GL.long,bF,aZ]
  ·refine fw (.bo (.ei (lf b0 r0) (lf b1 r1)) (.ei (lf b2 r2) (lf b3 r3))) ?_ ⟨⟨o0,o1⟩,⟨o2,o3⟩⟩ ⟨⟨t0,t1⟩,⟨t2,t3⟩⟩ ?_ ?_
   ·first | omega | (simp only[GL.dep];omega)
   ·simp[GL.pl,GL.num,GL.long,bF,aZ]
   ·simp[GL.pl,GL.num,GL.long,bF,aZ]
  ·refine fw (.nt (.bo (lf b0 r0) (.nt (lf b1 r1)))) ?_ ⟨o0,o1⟩ ⟨t0,t1⟩ ?_ ?_
   ·first | omega | (simp only[GL.dep];omega)
   ·simp[GL.pl,GL.num,GL.long,bF,aZ]
   ·simp[GL.pl,GL.num,GL.long,bF,aZ]
  ·refine fw (.nt (.ei (lf b0 r0) (.ei (lf b1 r1) (lf b2 r2)))) ?_ ⟨o0,⟨o1,o2⟩⟩ ⟨t0,⟨t1,t2⟩⟩ ?_ ?_
   ·first | omega | (simp only[GL.dep];omega)
   ·simp[GL.pl,GL.num,GL.long,bF,aZ]
   ·simp[GL.pl,GL.num,GL.long,bF,aZ]
  ·refine fw (.nt (.bo (.ei (lf b0 r0) (lf b1 r1)) (.ei (lf b2 r2) (lf b3 r3)))) ?_ ⟨⟨o0,o1⟩,⟨o2,o3⟩⟩ ⟨⟨t0,t1⟩,⟨t2,t3⟩⟩ ?_ ?_
   ·first | omega | (simp only[GL.dep];omega)
   ·simp[GL.pl,GL.num,GL.long,bF,aZ]
   ·simp[GL.pl,GL.num,GL.long,bF,aZ]
inductive eP(ds:List D)(R:D->Prop):Prop
 | mk (ns:List Int) (hh:ds=[.fz (ns.map D.int)]/\ns.length<=63/\(∀n∈ns,ib n<=1048576)/\∀a b:GL,Sg a->Sg b->R (.lst [a.D,b.D]))
def fX:∀ds R,eP ds R->ds.length=1:=λ_ _ ⟨_,e,_⟩=>by rw[e];rfl
theorem qu{ns:List Int}{g:Int->Int}{m:Nat}:((List.range m).map λ(i:Nat)=>D.int (i:Int)).filterMap (λd=>match d with | .int k=>some (D.int (g k)) | _=>none)=((List.range m).map λ(i:Nat)=>g i).map D.int:=by
 rw[HB];exact aK _ _ _ _ λx _=>rfl
theorem ku:∀s:GL,DL.D.im s.D=true
 | .row k ts b=>Fe (k,ts,b)
 | .nt s=>by show D.im (.tup [.str "not",s.D])=true;simp only[D.im,D.ims,ku s];rfl
 | .bo s t=>by show D.im (.tup [.str "both",s.D,t.D])=true;simp only[D.im,D.ims,ku s,ku t];rfl
 | .ei s t=>by show D.im (.tup [.str "either",s.D,t.D])=true;simp only[D.im,D.ims,ku s,ku t];rfl
theorem aU:aw ["_law_script","_law_fence_here","_law_found","_law_side","_law_rows","_law_k","_law_cells"] ["_law_script"] (am s__law_sayings):=by walk_at "sc"
theorem iD(Z:Zz):Z.C 3 "_law_sayings" ["_law_script"] (Gx Z.K eP):=by
 refine cw Z.x43 aU fX λfa cdv A outer s H E ds R hr h=>?_;have hU:=hr.units;refine⟨_,(ad (eC 1 aU.nd ["_law_k"] [(0,"_law_script")] rfl rfl (by decide +kernel) rfl (by decide +kernel) (bE ⟨rfl,trivial⟩) (bI rfl) (aY ⟨⟨rfl,rfl,.inl rfl⟩,trivial⟩) (lE rfl Z.x59 (ac ar ae)) λ_ _ _ _ _=>⟨(ap 0 (show List.Nodup (["_law_k","_law_script"]:List Str) by decide +kernel)),dl,(aq (cH Z) (rm hr) rfl (ac (aq (bT Z) (rm hr) rfl (ac (ak 1) (ac (aD aR ar (ak 0)) ae))) ae))⟩) (ad (dy 2 aU.nd ae) (ad (lD Hl rfl rfl Z.x59 (ac ar ae) (ap 3 aU.nd) (ad (dy 4 aU.nd ae) (ad (lD Hl rfl rfl Z.x59 (ac ar ae) (ap 5 aU.nd) (ad (eC 6 aU.nd ["_law_j"] [(0,"_law_script"),(3,"_law_side"),(5,"_law_k")] rfl rfl (by decide +kernel) rfl (by decide +kernel) (bE ⟨rfl,rfl,rfl,trivial⟩) (bI rfl) (aY ⟨⟨rfl,rfl,.inl rfl⟩,⟨rfl,rfl,.inl rfl⟩,⟨rfl,rfl,.inl rfl⟩,trivial⟩) (lE rfl Z.x59 (ac ar ae)) λ_ _ _ _ _=>⟨(ap 0 (show List.Nodup (["_law_j","_law_script","_law_side","_law_k"]:List Str) by decide +kernel)),dl,(aq (bT Z) (rm hr) rfl (ac (ak 1) (ac (aD aR (aD aR (aD aR ar (aD bu ar (ak 2))) (aD bu ar (ak 3))) (ak 0)) ae)))⟩) (af (aN (aE (cX hU) (aD gh (aD ee (aq (bT Z) (rm hr) rfl (ac (ak 0) (ac ar ae))) ar) ar) ar (av _)) (af (bf 4 (aq (jX Z) (rm hr) rfl (ac (ak 6) (ac (ak 1) (ac (ak 3) ae)))))) (af (bf 4 (aq (lg Z) (rm hr) rfl (ac (ak 6) (ac (gM gz (bV (ac (bV (ac ay (ac ay (ac ay ae)))) (ac (bV (ac ay (ac ay (ac ay ae)))) ae))) (ak 3) (λ_ _=>rfl)) ae))))))))) (af (bf 2 (AN 4 (jI Z) (rm hr) rfl (aq (bT Z) (rm hr) rfl (ac (ak 0) (ac (ak 3) ae))))))))) (ci 2 (af (au (ak 2))))))),?_⟩
 obtain⟨ns,rfl,h63,hb,q⟩:=h;have cbt:∀k,ib (cQ ns k)<=1048576:=λk=>mV hb k;refine ag λK1 hK1=>?_;walk_at "rd";refine⟨by decide,by decide,by decide,λd=>match d with | .int k=>some (.int (yq (cQ ns (2+k)))) | _=>none,λx hx=>?_,?_⟩
 ·obtain⟨k,hk,rfl⟩:=GZ.mp hx;exact⟨ns,_,rfl,by omega,_,rfl,G0 (cbt _) (by decide),rfl,rfl⟩
 rw[show Int.toNat 3=3 from rfl,qu (ns:=ns) (g:=λk=>yq (cQ ns (2+k))),hK1];generalize hfs:(List.range 3).map (λ(i:Nat)=>yq (cQ ns (2+(i:Int))))=fs;have f3:fs.length=3:=by rw[<- hfs,GW,HU]
 have f30:∀f∈fs,ib f<=30:=λf hf=>by
  rw[<- hfs] at hf;obtain⟨i,_,rfl⟩:=GZ.mp hf;exact fR _
 clear hfs;refine ag λK2 hK2=>?_;walk_at "rd";intro oa;rw[hK2];refine ag λK3 hK3=>?_;refine kU λF N hF hN=>?_;walk_at "rd";simp only[qv];walk_at "rd";refine⟨by decide,by decide,λi δ=>∃(ss:List GL) (x y z u:Sl),δ=[.dat (.fz (ns.map D.int)),.dat (.lst (fs.map D.int)),.own oa (.lst (ss.map GL.D)),x,y,z,u]/\ss.length=i/\∀s∈ss,Sg s,⟨[],_,_,_,_,rfl,rfl,λ_ h=>(nomatch h)⟩,?_,?_⟩
 ·rintro i δ hi ⟨ss,x,y,z,u,rfl,hl,hss⟩;have hi:i<2:=hi;rw[hF];show eT _ _ _ _;refine bX λK4 hK4=>?_;walk_at "rd";intro ra;rw[hK4];refine ag λK5 hK5=>?_;refine kU λF2 N2 hF2 hN2=>?_;walk_at "rd";simp only[qv];walk_at "rd";refine⟨by decide,by decide,λj δ=>∃(rows:List Rw) (z u:Sl),δ=[.dat (.fz (ns.map D.int)),.dat (.lst (fs.map D.int)),.own oa (.lst (ss.map GL.D)),.dat (.int (i:Int)),.own ra (.lst (rows.map Gu)),z,u]/\rows.length=j/\∀r∈rows,Rg r,⟨[],_,_,rfl,rfl,λ_ h=>(nomatch h)⟩,?_,?_⟩
  ·rintro j δ hj ⟨rows,z,u,rfl,hlr,hrs⟩;have hj:j<4:=hj;rw[hF2];show eT _ _ _ _;refine bX λK6 hK6=>?_;walk_at "rd";refine⟨by decide,by decide,by decide,λd=>match d with | .int k=>some (.int (cQ ns (5+20*(i:Int)+5*(j:Int)+k))) | _=>none,λx hx=>?_,?_⟩
   ·obtain⟨k,hk,rfl⟩:=GZ.mp hx;exact⟨IS (by decide),IS (by decide),ns,_,rfl,by omega,rfl,rfl⟩
   rw[show Int.toNat 5=5 from rfl,qu (ns:=ns) (g:=λk=>cQ ns (5+20*(i:Int)+5*(j:Int)+k)),hK6];generalize hcs:(List.range 5).map (λ(k:Nat)=>cQ ns (5+20*(i:Int)+5*(j:Int)+(k:Int)))=cs;have c5:cs.length=5:=by rw[<- hcs,GW,HU]
   have cb:∀c∈cs,ib c<=1048600:=λf hf=>by
    rw[<- hcs] at hf;obtain⟨k,_,rfl⟩:=GZ.mp hf;exact G0 (cbt _) (by decide)
   clear hcs;have app:∀r:Rw,Rg r->∃rows':List Rw,rows.map Gu++[Gu r]=rows'.map Gu/\rows'.length=j+1/\∀r∈rows',Rg r:=λr hr=>⟨rows++[r],by rw[Hj];rfl,by rw[G8,IG,hlr],λr' hr'=>(Hb.mp hr').elim (hrs r') λz=>by rw[G9.mp z];exact hr⟩;walk_at "rd";refine⟨ns,0,rfl,by decide,?_⟩;walk_at "rd";have hii:i=0\/i=1:=by omega
   refine⟨xy (by decide) (by decide +kernel),cnz (by decide),dQ (λ_=>?_) λ_=>?_⟩
   ·refine⟨cs,fs,_,rfl,c5,f3,f30,by omega,λr hr=>?_⟩;walk_at "rd";exact⟨by rw[GW];omega,app r hr⟩
   ·rcases hii with rfl | rfl
    ·refine⟨cs,["a","b","c"],rfl,c5,cb,rfl,by decide +kernel,λr hr=>?_⟩;walk_at "rd";exact⟨by rw[GW];omega,app r hr⟩
    ·refine⟨cs,["b","c","d"],rfl,c5,cb,rfl,by decide +kernel,λr hr=>?_⟩;walk_at "rd";exact⟨by rw[GW];omega,app r hr⟩
  ·rintro δ ⟨rows,z,u,rfl,hlr,hrs⟩;have hlr:rows.length=4:=hlr;rw[hN2,hK5];walk_at "rd";refine⟨ns,_,rfl,by omega,rows,_,rfl,hlr,hrs,λs hs=>?_⟩;walk_at "rd";exact⟨ku s,by rw[GW];omega,ss++[s],by rw[Hj];rfl,by rw[G8,IG,hl],λs' hs'=>(Hb.mp hs').elim (hss s') λz=>by rw[G9.mp z];exact hs⟩
 ·rintro δ ⟨ss,x,y,z,u,rfl,hl,hss⟩;have hl:ss.length=2:=hl;rw[hN,hK3];walk_at "rd"
  match ss,hl with
  | [a,b],_=>exact q a b (hss a (by simp)) (hss b (by simp))
inductive cY(n:Nat)(ds:List D)(R:D->Prop):Prop
 | mk (s:GL) (ks:List Str) (ps:List (Int×Int)) (names:List Str) (hh:ds=[s.D,.fd ks (ps.map GJ)]/\s.dep<=n/\s.ok names/\names.Nodup/\names.length<=60/\(∀x∈s.nms,x∈ks)/\Pk ks ps/\R (.bl (s.tv (pT ks ps) (pB ks ps))))
def lr(n:Nat):∀ds R,cY n ds R->ds.length=2:=λ_ _ ⟨_,_,_,_,e,_⟩=>by rw[e];rfl
def j6:∀ds R,¬ cY 0 ds R:=λ_ _ ⟨s,_,_,_,_,h,_⟩=>by have:=s.dep_pos;omega
theorem sy:aw ["_law_saying","_law_point"] ["_law_saying","_law_point"] (am s__law_so):=by walk_at "sc"
theorem mG(Z:Zz){n:Nat}(dY:Z.C (3+n) "_law_so" ["_law_saying","_law_point"] (Gx Z.K (cY n))):Z.C (3+n+1) "_law_so" ["_law_saying","_law_point"] (Gx Z.K (cY (n+1))):=by
 refine cw (k:=3+n) Z.x44 sy (lr (n+1)) λfa cdv A outer s H E ds R hr h=>?_;have hU:=hr.units;refine⟨_,(ad (aN (aE (cX hU) (GF 0) ay (av _)) (af (au (mq (aq dY (hr.mono (by omega)) rfl (ac (GF 0) (ac (ak 1) ae)))))) aB) (ad (aN (aE (cX hU) (GF 0) ay (av _)) (af (au (gf (aq dY (hr.mono (by omega)) rfl (ac (GF 0) (ac (ak 1) ae))) (cF (aq dY (hr.mono (by omega)) rfl (ac (GF 0) (ac (ak 1) ae))))))) aB) (ad (aN (aE (cX hU) (GF 0) ay (av _)) (af (au (sn (aq dY (hr.mono (by omega)) rfl (ac (GF 0) (ac (ak 1) ae))) (cF (aq dY (hr.mono (by omega)) rfl (ac (GF 0) (ac (ak 1) ae))))))) aB) (af (au (aq (iR Z) (hr.mono (by omega)) rfl (ac (ak 0) (ac (ak 1) ae)))))))),?_⟩;obtain⟨s,ks,ps,names,rfl,hd,ok,nnd,nl,hin,P,q⟩:=h;refine ag λK1 hK1=>?_
 cases s with
 | row k ts b =>
  unfold GL.D ie;have k1:kdS k≠"not":=by cases k<;>decide
  have k2:kdS k≠"both":=by cases k<;>decide
  have k3:kdS k≠"either":=by cases k<;>decide
  walk_at "rd";refine GH k1 ?_;rw[hK1];refine ag λK2 hK2=>?_;walk_at "rd";refine GH k2 ?_;rw[hK2];refine ag λK3 hK3=>?_;walk_at "rd";refine GH k3 ?_;rw[hK3];walk_at "rd";refine⟨(k,ts,b),ks,ps,rfl,nnd.sublist ok.1.sub,?_,ok.2,λt ht=>⟨hin _ (GZ.mpr ⟨t,ht,rfl⟩),ok.1.bits t ht⟩,P,q⟩;have:=ok.1.sub.length_le;rw[GW] at this;show ts.length<=60;omega
 | nt s =>
  unfold GL.D;walk_at "rd";have hd:s.dep+1<=n+1:=hd;exact⟨s,ks,ps,names,rfl,by omega,ok,nnd,nl,hin,P,q⟩
 | bo s t =>
  unfold GL.D;have hd:max s.dep t.dep+1<=n+1:=hd;have q:R (.bl (s.tv (pT ks ps) (pB ks ps)&&t.tv (pT ks ps) (pB ks ps))):=q;walk_at "rd";refine GH (by decide) ?_;rw[hK1];refine ag λK2 hK2=>?_;walk_at "rd";refine⟨s,ks,ps,names,rfl,by omega,ok.1,nnd,nl,λx hx=>hin x (Hf _ hx),P,?_⟩
  cases e:s.tv (pT ks ps) (pB ks ps) with
  | true =>
   rw[e] at q;exact⟨t,ks,ps,names,rfl,by omega,ok.2,nnd,nl,λx hx=>hin x (G6 _ hx),P,q⟩
  | false =>
   rw[e] at q;exact q
 | ei s t =>
  unfold GL.D;have hd:max s.dep t.dep+1<=n+1:=hd;have q:R (.bl (s.tv (pT ks ps) (pB ks ps)||t.tv (pT ks ps) (pB ks ps))):=q;walk_at "rd";refine GH (by decide) ?_;rw[hK1];refine ag λK2 hK2=>?_;walk_at "rd";refine GH (by decide) ?_;rw[hK2];refine ag λK3 hK3=>?_;walk_at "rd";refine⟨s,ks,ps,names,rfl,by omega,ok.1,nnd,nl,λx hx=>hin x (Hf _ hx),P,?_⟩
  cases e:s.tv (pT ks ps) (pB ks ps) with
  | true =>
   rw[e] at q;exact q
  | false =>
   rw[e] at q;exact⟨t,ks,ps,names,rfl,by omega,ok.2,nnd,nl,λx hx=>hin x (G6 _ hx),P,q⟩
def jL(Z:Zz):Z.C 63 "_law_so" ["_law_saying","_law_point"] (Gx Z.K (cY 60)):=Nat.rec (motive:=λn=>Z.C (3+n) "_law_so" ["_law_saying","_law_point"] (Gx Z.K (cY n))) (dz Z.x44 _ j6) (λ_=>mG Z) 60
def nc{c:TDT}(h:∀A B:En->Prop,A=t R->B=u R->c δ λb δ1=>if b=true then A δ1 else B δ1):dIf c t u R δ:=h _ _ rfl rfl
theorem pE{s:GL}{t:Bool}(h4:(s.pl t).num<=4):(s.pl t).kr.length<=4:=by rw[GL.kr_num GL.pl_pn];exact h4
inductive bQ(n:Nat)(ds:List D)(R:D->Prop):Prop
 | mk (s:GL) (t:Bool) (names:List Str) (hh:ds=[s.D,.bl t]/\s.dep<=n/\s.ok names/\names.length<=60/\(s.pl (!t)).num<=4/\(s.pl (!t)).long<=3/\R (krD (s.pl (!t)).kr))
def iq(n:Nat):∀ds R,bQ n ds R->ds.length=2:=λ_ _ ⟨_,_,_,e,_⟩=>by rw[e];rfl
def gn:∀ds R,¬ bQ 0 ds R:=λ_ _ ⟨s,_,_,_,h,_⟩=>by have:=s.dep_pos;omega
theorem a8:aw ["_law_saying","_law_so_here","_law_ones","_law_others","_law_found","_law_one","_law_terms"] ["_law_saying","_law_so_here"] (am s__law_cases):=by walk_at "sc"
theorem jM(Z:Zz){n:Nat}(d7:Z.C (1+n) "_law_cases" ["_law_saying","_law_so_here"] (Gx Z.K (bQ n))):Z.C (1+n+1) "_law_cases" ["_law_saying","_law_so_here"] (Gx Z.K (bQ (n+1))):=by
 refine cw (k:=1+n) Z.x45 a8 (iq (n+1)) λfa cdv A outer s H E ds R hr h=>?_;have hU:=hr.units;refine⟨_,(ad (aN (aE (cX hU) (GF 0) ay (av _)) (af (au (aq d7 (hr.mono (by omega)) rfl (ac (GF 0) (ac (mq (ak 1)) ae))))) aB) (ad (aN (DW.dt (fu (aE (cX hU) (GF 0) ay (av _)) (dm (aE (cX hU) (GF 0) ay (av _))))) (ad (aA 2 a8.nd (aq d7 (hr.mono (by omega)) rfl (ac (GF 0) (ac (ak 1) ae)))) (ad (aA 3 a8.nd (aq d7 (hr.mono (by omega)) rfl (ac (GF 0) (ac (ak 1) ae)))) (ad (aN (aE (cX hU) (bU (cX hU) (GF 0) ay (av _)) (ak 1) (av _)) (af (au (aD aR (ak 2) (ak 3)))) aB) (ad (aA 4 a8.nd (bV ae)) (ad (cx Hl rfl (ak 2) (ap 5 a8.nd) (af (aA 4 a8.nd (aD aR (ak 4) (b6 ["_law_other"] [(5,"_law_one")] rfl rfl (by decide +kernel) rfl (by decide +kernel) (bE ⟨rfl,trivial⟩) (bI rfl) (aY ⟨⟨rfl,rfl,.inl rfl⟩,trivial⟩) (fC (ak 3)) λ_ _ _ _ _=>⟨(ap 0 (show List.Nodup (["_law_other","_law_one"]:List Str) by decide +kernel)),dl,(aD aR (ak 1) (ak 0))⟩))))) (af (au (ak 4)))))))) aB) (ad (aN (bJ (ak 1)) (af (au (bV (ac (bV (ac (ak 0) ae)) ae)))) aB) (ad (aA 6 a8.nd (cj fg rfl Z.x54 bM (ac (b6 ["_law_name","_law_weight"] [] rfl rfl (by decide +kernel) rfl (by decide +kernel) (bE trivial) (bI rfl) (aY trivial) (km (GF 0)) λ_ _ _ _ _=>⟨(bH (n:=2) rfl (ax (ap 0 (show List.Nodup (["_law_name","_law_weight"]:List Str) by decide +kernel)) (ax (ap 1 (show List.Nodup (["_law_name","_law_weight"]:List Str) by decide +kernel)) aS))),dl,(aJ (ac (ak 0) (ac (aD jZ ar (ak 1)) ae)))⟩) ae))) (af (au (bV (ac (bV (ac (aJ (ac (gM gz (bV (ac ay (ac ay ae))) (cj F3 rfl Z.x64 CM (ac (bU (cX hU) (GF 0) ay (av _)) ae)) (λ_ _=>rfl)) (ac (ak 6) (ac (aD jZ ar (GF 0)) ae)))) ae)) ae)))))))),?_⟩
 obtain⟨s,t,names,rfl,hd,ok,nl,h4,h3,q⟩:=h
 cases s with
 | row k ts b =>
  unfold GL.D ie;have k1:kdS k≠"not":=by cases k<;>decide
  have k2:kdS k≠"both":=by cases k<;>decide
  have k3:kdS k≠"either":=by cases k<;>decide
  refine ag λK1 hK1=>?_;walk_at "rd";refine GH k1 ?_;rw[hK1];refine ag λK2 hK2=>?_;refine nc λI1 I2 hI1 hI2=>?_;walk_at "rd";refine GH k2 (GH k3 ?_);rw[hI2];walk_at "rd";rw[hK2];refine ag λK3 hK3=>?_;walk_at "rd";have hlt:ts.length<=60:=by
   have:=ok.1.sub.length_le
   rw[GW] at this;omega
  cases t with
  | true=>exact ifp rfl q
  | false =>
   refine GH (by decide) ?_;rw[hK3];refine ag λK4 hK4=>?_;walk_at "rd";refine⟨by rw[GW];omega,λd=>match d with | .tup [n,.int w]=>some (.tup [n,.int (0-w)]) | _=>none,λx hx=>?_,?_⟩
   ·obtain⟨t,_,rfl⟩:=GZ.mp hx;exact⟨rfl,rfl⟩
   have e1:(ts.map GQ).filterMap (λd=>match d with | .tup [n,.int w]=>some (D.tup [n,.int (0-w)]) | _=>none)=(lF ts).map GQ:=by
    unfold lF;rw[HB];exact aK _ _ _ _ λt _=>by show some (D.tup [.str t.1,.int (0-t.2)])=some (D.tup [.str t.1,.int (-t.2)]);rw[Int.zero_sub]
   rw[e1,hK4];walk_at "rd";have q:R (.lst [.lst [.tup [.str (kdS k.op),.tup ((lF ts).map GQ),.int (-b)]]]):=q;rw[<- Int.zero_sub] at q
   cases k with
   | least=>exact q
   | more=>exact q
 | nt s =>
  unfold GL.D;have hd:s.dep+1<=n+1:=hd;refine ag λK1 hK1=>?_;walk_at "rd";refine⟨s,!t,names,rfl,by omega,ok,nl,h4,h3,q⟩
 | bo s u =>
  unfold GL.D;have hd:max s.dep u.dep+1<=n+1:=hd;have hp:=(s.pl (!t)).num_pos;have hp':=(u.pl (!t)).num_pos;have hq:=(s.pl (!t)).long_pos;have hq':=(u.pl (!t)).long_pos;have fw:(s.pl (!t)).num<=4/\(s.pl (!t)).long<=3/\(u.pl (!t)).num<=4/\(u.pl (!t)).long<=3:=by
   cases t<;>simp only[GL.pl,Bool.not_true,Bool.not_false,if_true,if_false,reduceCtorEq,GL.num,GL.long] at h4 h3 hp hp' hq hq' ⊢
   ·refine⟨?_,?_,?_,?_⟩<;>first | omega | exact G0 (Iw _ hp') h4 | exact G0 (ID _ hp) h4
   ·refine⟨?_,?_,?_,?_⟩<;>first | omega | exact G0 (Iw _ hp') h4 | exact G0 (ID _ hp) h4
  obtain⟨fa,fb,fc,fd⟩:=fw;have la:=pE fa;have lb:=pE fc;have ga:∀c∈(s.pl (!t)).kr,c.length<=3:=λc hc=>G0 (GL.kr_long GL.pl_pn hc) fb;have gb:∀c∈(u.pl (!t)).kr,c.length<=3:=λc hc=>G0 (GL.kr_long GL.pl_pn hc) fd;refine ag λK1 hK1=>?_;walk_at "rd";refine GH (by decide) ?_;rw[hK1];refine ag λK2 hK2=>?_;refine nc λI1 I2 hI1 hI2=>?_;walk_at "rd";rw[hI1];refine ag λK3 hK3=>?_;walk_at "rd";refine⟨s,t,names,rfl,by omega,ok.1,nl,fa,fb,?_⟩;walk_at "rd";rw[hK3];refine ag λK4 hK4=>?_;walk_at "rd";refine⟨u,t,names,rfl,by omega,ok.2,nl,fc,fd,?_⟩;walk_at "rd";rw[hK4];have q1:t=false->R (krD ((s.pl (!t)).kr++(u.pl (!t)).kr)):=λe=>by subst e;exact q
  have q2:t=true->R (krD ((s.pl (!t)).kr.flatMap λc=>(u.pl (!t)).kr.map λd=>c++d)):=λe=>by subst e;exact q
  generalize (s.pl (!t)).kr=A at *
  generalize (u.pl (!t)).kr=B at *
  refine ag λK5 hK5=>?_;refine nc λI3 I4 hI3 hI4=>?_;walk_at "rd"
  cases t with
  | false =>
   refine ifp (by decide) ?_;rw[hI3];unfold krD;walk_at "rd";refine⟨by rw[GW,GW];omega,?_⟩;have:=q1 rfl;unfold krD at this;rw[Hj] at this;exact this
  | true =>
   refine GH (by decide) ?_;rw[hI4];walk_at "rd";rw[hK5];refine ag λK6 hK6=>?_;walk_at "rd";rw[hK6];refine ag λK7 hK7=>?_;refine cP λF N hF hN=>?_;walk_at "rd";simp only[fM];unfold krD;walk_at "rd";refine⟨λi δ=>∃x,δ=[_,.dat (.bl _),.dat (.lst (A.map λc=>.lst (c.map Gu))),.dat (.lst (B.map λc=>.lst (c.map Gu))),.dat (.lst (((A.take i).flatMap λc=>B.map λd=>c++d).map λc=>.lst (c.map Gu))),x,.no],⟨_,rfl⟩,?_,?_⟩
   ·rintro i d δ hd ⟨x,rfl⟩;obtain⟨c,hc,rfl⟩:=qt hd;have hcm:=Hc hc;have l3:=ga c hcm;have hil:=(List.getElem?_eq_some_iff.mp hc).1;rw[hF];walk_at "rd";refine⟨by rw[GW];omega,λd=>match d with | .lst e=>some (.lst (c.map Gu++e)) | _=>none,λx hx=>?_,?_⟩
    ·obtain⟨e,he,rfl⟩:=GZ.mp hx;have:=gb e he;walk_at "rd";rw[GW,GW];omega
    ·have e1:(B.map λc=>D.lst (c.map Gu)).filterMap (λd=>match d with | .lst e=>some (.lst (c.map Gu++e)) | _=>none)=(B.map λd=>c++d).map λc=>D.lst (c.map Gu):=by
      rw[HB];exact aK _ _ _ _ λx _=>by show some (D.lst (c.map Gu++x.map Gu))=some (D.lst ((c++x).map Gu));rw[Hj]
     rw[e1,<- Hj,aG hc,IA,IT];refine⟨?_,rfl⟩;have:=uZ (λc d=>c++d) B (A.take i);rw[GW,GW,GW,this,HI];have:min i A.length*B.length<=4*4:=Jp (by omega) lb;omega
   ·rintro δ ⟨x,rfl⟩;rw[GW,Ho,hN,hK7];walk_at "rd";exact q2 rfl
 | ei s u =>
  unfold GL.D;have hd:max s.dep u.dep+1<=n+1:=hd;have hp:=(s.pl (!t)).num_pos;have hp':=(u.pl (!t)).num_pos;have hq:=(s.pl (!t)).long_pos;have hq':=(u.pl (!t)).long_pos;have fw:(s.pl (!t)).num<=4/\(s.pl (!t)).long<=3/\(u.pl (!t)).num<=4/\(u.pl (!t)).long<=3:=by
   cases t<;>simp only[GL.pl,Bool.not_true,Bool.not_false,if_true,if_false,reduceCtorEq,GL.num,GL.long] at h4 h3 hp hp' hq hq' ⊢
   ·refine⟨?_,?_,?_,?_⟩<;>first | omega | exact G0 (Iw _ hp') h4 | exact G0 (ID _ hp) h4
   ·refine⟨?_,?_,?_,?_⟩<;>first | omega | exact G0 (Iw _ hp') h4 | exact G0 (ID _ hp) h4
  obtain⟨fa,fb,fc,fd⟩:=fw;have la:=pE fa;have lb:=pE fc;have ga:∀c∈(s.pl (!t)).kr,c.length<=3:=λc hc=>G0 (GL.kr_long GL.pl_pn hc) fb;have gb:∀c∈(u.pl (!t)).kr,c.length<=3:=λc hc=>G0 (GL.kr_long GL.pl_pn hc) fd;refine ag λK1 hK1=>?_;walk_at "rd";refine GH (by decide) ?_;rw[hK1];refine ag λK2 hK2=>?_;refine nc λI1 I2 hI1 hI2=>?_;walk_at "rd";refine GH (by decide) ?_;rw[hI1];refine ag λK3 hK3=>?_;walk_at "rd";refine⟨s,t,names,rfl,by omega,ok.1,nl,fa,fb,?_⟩;walk_at "rd";rw[hK3];refine ag λK4 hK4=>?_;walk_at "rd";refine⟨u,t,names,rfl,by omega,ok.2,nl,fc,fd,?_⟩;walk_at "rd";rw[hK4];have q1:t=true->R (krD ((s.pl (!t)).kr++(u.pl (!t)).kr)):=λe=>by subst e;exact q
  have q2:t=false->R (krD ((s.pl (!t)).kr.flatMap λc=>(u.pl (!t)).kr.map λd=>c++d)):=λe=>by subst e;exact q
  generalize (s.pl (!t)).kr=A at *
  generalize (u.pl (!t)).kr=B at *
  refine ag λK5 hK5=>?_;refine nc λI3 I4 hI3 hI4=>?_;walk_at "rd"
  cases t with
  | true =>
   refine ifp (by decide) ?_;rw[hI3];unfold krD;walk_at "rd";refine⟨by rw[GW,GW];omega,?_⟩;have:=q1 rfl;unfold krD at this;rw[Hj] at this;exact this
  | false =>
   refine GH (by decide) ?_;rw[hI4];walk_at "rd";rw[hK5];refine ag λK6 hK6=>?_;walk_at "rd";rw[hK6];refine ag λK7 hK7=>?_;refine cP λF N hF hN=>?_;walk_at "rd";simp only[fM];unfold krD;walk_at "rd";refine⟨λi δ=>∃x,δ=[_,.dat (.bl _),.dat (.lst (A.map λc=>.lst (c.map Gu))),.dat (.lst (B.map λc=>.lst (c.map Gu))),.dat (.lst (((A.take i).flatMap λc=>B.map λd=>c++d).map λc=>.lst (c.map Gu))),x,.no],⟨_,rfl⟩,?_,?_⟩
   ·rintro i d δ hd ⟨x,rfl⟩;obtain⟨c,hc,rfl⟩:=qt hd;have hcm:=Hc hc;have l3:=ga c hcm;have hil:=(List.getElem?_eq_some_iff.mp hc).1;rw[hF];walk_at "rd";refine⟨by rw[GW];omega,λd=>match d with | .lst e=>some (.lst (c.map Gu++e)) | _=>none,λx hx=>?_,?_⟩
    ·obtain⟨e,he,rfl⟩:=GZ.mp hx;have:=gb e he;walk_at "rd";rw[GW,GW];omega
    ·have e1:(B.map λc=>D.lst (c.map Gu)).filterMap (λd=>match d with | .lst e=>some (.lst (c.map Gu++e)) | _=>none)=(B.map λd=>c++d).map λc=>D.lst (c.map Gu):=by
      rw[HB];exact aK _ _ _ _ λx _=>by show some (D.lst (c.map Gu++x.map Gu))=some (D.lst ((c++x).map Gu));rw[Hj]
     rw[e1,<- Hj,aG hc,IA,IT];refine⟨?_,rfl⟩;have:=uZ (λc d=>c++d) B (A.take i);rw[GW,GW,GW,this,HI];have:min i A.length*B.length<=4*4:=Jp (by omega) lb;omega
   ·rintro δ ⟨x,rfl⟩;rw[GW,Ho,hN,hK7];walk_at "rd";exact q2 rfl
def eK(Z:Zz):Z.C 61 "_law_cases" ["_law_saying","_law_so_here"] (Gx Z.K (bQ 60)):=Nat.rec (motive:=λn=>Z.C (1+n) "_law_cases" ["_law_saying","_law_so_here"] (Gx Z.K (bQ n))) (dz Z.x45 _ gn) (λ_=>jM Z) 60
def Sh(rows:List Rw)(w:List Int):Prop:=w.length=rows.length/\(∀a∈w,0<=a)/\(∀n,cfs (rows.zip w) n=0)/\(0<bds (rows.zip w)\/(bds (rows.zip w)=0/\GI (rows.zip w)=true))
def mf.sh{w:List Int}(h:mf rows w):Sh rows w:=⟨h.wt.len,h.wt.nn,h.no,h.bd⟩
noncomputable def shB (rows:List Rw) (w:List Int):Bool:=@decide (Sh rows w) (Classical.propDecidable _)
def nY{w:List Int}:shB rows w=true↔Sh rows w:=@decide_eq_true_iff _ (Classical.propDecidable _)
inductive cE(ds:List D)(R:D->Prop):Prop
 | mk (rows:List Rw) (S:List Str) (w:List Int) (hh:ds=[.lst (rows.map Gu),.tup (w.map D.int)]/\S.length<=60/\(∀r∈rows,RwOk S 60000 r)/\(∀a∈w,ib a<=60000)/\R (.bl (shB rows w)))
def dw:∀ds R,cE ds R->ds.length=2:=λ_ _ ⟨_,_,_,e,_⟩=>by rw[e];rfl
theorem aF:aw ["_law_rows","_law_weights","_law_sums","_law_bound","_law_strict","_law_row","_law_many","_law_name","_law_weight"] ["_law_rows","_law_weights"] (am s__law_weights_good):=by walk_at "sc"
theorem dN(Z:Zz):Z.C 2 "_law_weights_good" ["_law_rows","_law_weights"] (Gx Z.K cE):=by
 refine cw Z.x46 aF dw λfa cdv A outer s H E ds R hr h=>?_;have hU:=hr.units;refine⟨_,(ad (aN (DW.dt (fu (df (bJ (ia gi rfl Z.x62 rfl Z.x54 bM (ak 1)))) (dm (aE (fS hU) (aM f9 rfl Z.x55 dP (ac (ak 1) ae)) (aM f9 rfl Z.x55 dP (ac (ak 0) ae)) (av _))))) (af (au dh)) aB) (ad (lN 2 aF.nd) (ad (aA 3 aF.nd ar) (ad (aA 4 aF.nd dh) (ad (fY Hl rfl (kh true false rfl Z.x57 (ac (ak 0) (ac (ak 1) ae))) (bH (n:=2) rfl (ax (ap 5 aF.nd) (ax (ap 6 aF.nd) aS))) (ad (aN (DW.dt (fu (df (bJ (aq (cV Z) (rm hr) rfl (ac (ak 6) ae)))) (dm (aE yj (ak 6) ar (av _))))) (af (au dh)) aB) (ad (gF Hl rfl (GF 5) (bH (n:=2) rfl (ax (ap 7 aF.nd) (ax (ap 8 aF.nd) aS))) (af (gG 2 hU (aD aR (sZ 2 hU (ak 7) ar) (aD bu (ak 6) (ak 8))) (ak 7)))) (ad (aA 3 aF.nd (aD aR (ak 3) (aD bu (ak 6) (GF 5)))) (af (aA 4 aF.nd (sn (ak 4) (cF (gf (bU (cX hU) (GF 5) ay (av _)) (cF (bU uD (ak 6) ar (av _)))))))))))) (i6 2 (ad (aN (aE uD (aM f9 rfl Z.x55 dP (ac (b6 ["_law_name"] [(2,"_law_sums")] rfl rfl (by decide +kernel) rfl (by decide +kernel) (bE ⟨rfl,trivial⟩) (bI rfl) (aY ⟨⟨rfl,rfl,.inl rfl⟩,trivial⟩) (yM (ak 2)) λ_ _ _ _ _=>⟨(ap 0 (show List.Nodup (["_law_name","_law_sums"]:List Str) by decide +kernel)),(gX (aE (fS hU) (cT hU (ak 1) (ak 0) (λ_ _=>rfl)) ar (av _))),(ak 0)⟩) ae)) ar (av _)) (af (au dh)) aB) (af (au (sn (bU uD (ak 3) ar (av _)) (cF (gf (bU (cX hU) (ak 3) ar (av _)) (cF (ak 4)))))))))))))),?_⟩;obtain⟨rows,S,w,rfl,hS,hr,hw,q⟩:=h;refine ag λK1 hK1=>?_;walk_at "rd";rw[GW,GW];refine dQ (λhl=>?_) λhl=>?_
 ·have e:shB rows w=false:=JM.mpr λz=>hl (by rw[(nY.mp z).1])
  rw[e] at q;exact q
 have hl:w.length=rows.length:=by have:=Jk.mp hl;omega
 rw[hK1];refine ag λK2 hK2=>?_;walk_at "rd";intro da;rw[hK2];refine ag λK3 hK3=>?_;walk_at "rd";rw[hK3];refine ag λK4 hK4=>?_;walk_at "rd";rw[hK4];refine ag λK5 hK5=>?_;refine dA λB N hB hN=>?_;walk_at "rd";simp only[kc];walk_at "rd";rw[qe];have hl1:∀p∈rows.zip w,RwOk S 60000 p.1/\ib p.2<=60000:=λp hp=>⟨hr _ (Hv hp).1,hw _ (Hv hp).2⟩;have hlw:∀p∈rows.zip w,p.2∈w:=λp hp=>(Hv hp).2;have hww:∀a∈w,∃p∈rows.zip w,p.2=a:=λa ha=>by
  obtain⟨i,hi⟩:=List.getElem?_of_mem ha;have hiw:=(List.getElem?_eq_some_iff.mp hi).1;refine⟨(rows[i]'(by omega),a),Hc (i:=i) ?_,rfl⟩;rw[List.getElem?_zip_eq_some];exact⟨List.getElem?_eq_getElem (by omega),hi⟩
 have dec:∀b:Bool,(b=true↔Sh rows w)->R (.bl b):=λb hb=>by
  rw[IZ.mpr (hb.trans nY.symm)];exact q
 have shl:Sh rows w↔(∀p∈rows.zip w,0<=p.2)/\(∀n,cfs (rows.zip w) n=0)/\(0<bds (rows.zip w)\/(bds (rows.zip w)=0/\GI (rows.zip w)=true)):=by
  constructor
  ·rintro⟨_,h1,h2,h3⟩;exact⟨λp hp=>h1 _ (hlw p hp),h2,h3⟩
  ·rintro⟨h1,h2,h3⟩;exact⟨hl,λa ha=>by obtain⟨p,hp,rfl⟩:=hww a ha;exact h1 p hp,h2,h3⟩
 rw[shl] at dec;clear q shl hww hlw;generalize rows.zip w=l at *
 refine⟨λi δ=>∃ks u v w' z,δ=[.dat (.lst (rows.map Gu)),.dat (.tup (w.map D.int)),.own da (.dct ks (ks.map λn=>.int (cfs (l.take i) n))),.dat (.int (bds (l.take i))),.dat (.bl (GI (l.take i))),u,v,w',z]/\ks.Nodup/\(∀n∈ks,n∈S)/\(∀n,n∉ks->cfs (l.take i) n=0)/\∀p∈l.take i,0<=p.2,
  ⟨[],_,_,_,_,rfl,Jn,(λn h=>nomatch h),(λn h=>rfl),λp hp=>by simp at hp⟩,?_,?_⟩
 ·rintro i d δ hd ⟨ks,u,v,w',z,rfl,nd,hs,h0,hp0⟩;rw[List.getElem?_map] at hd
  cases hn:l[i]? with
  | none=>rw[hn] at hd;cases hd
  | some p =>
   rw[hn] at hd
   cases hd
   obtain⟨⟨k,ts,b⟩,c⟩:=p;have hpm:=Hc hn;obtain⟨ok,bc⟩:=hl1 _ hpm;have htk:=aG hn;rw[hB];show jS _ _ (.tup [.tup [.str (kdS k),.tup (ts.map GQ),.int b],.int c]) _ _;refine bX λK6 hK6=>?_;walk_at "rd";refine⟨c,rfl,?_⟩;walk_at "rd";refine dQ (λhc=>?_) λhc=>?_
   ·exact dec false ⟨(λz=>nomatch z),λz=>absurd (z.1 _ hpm) (by show ¬ 0<=c;omega)⟩
   rw[hK6];refine ag λK7 hK7=>?_;walk_at "rd";simp only[oC];walk_at "rd"
   refine⟨λj δ=>∃ks w' z,δ=[.dat (.lst (rows.map Gu)),.dat (.tup (w.map D.int)),.own da (.dct ks (ks.map λn=>.int (cfs (l.take i) n+c*cf (ts.take j) n))),.dat (.int (bds (l.take i))),.dat (.bl (GI (l.take i))),.dat (.tup [.str (kdS k),.tup (ts.map GQ),.int b]),.dat (.int c),w',z]/\ks.Nodup/\(∀n∈ks,n∈S)/\∀n,n∉ks->cfs (l.take i) n+c*cf (ts.take j) n=0,
    ⟨ks,w',z,by simp only[List.take_zero,cf,Int.mul_zero,Int.add_zero],nd,hs,λn hn=>by rw[h0 n hn,Jl];show 0+c*0=0;omega⟩,?_,?_⟩
   ·rintro j d δ hd ⟨ks,w',z,rfl,nd,hs,h0⟩;obtain⟨t,ht,rfl⟩:=c6 hd;have htm:=Hc ht;have hj:=aG ht;walk_at "rd";rw[qc (h0 t.1)];walk_at "rd";refine⟨mo2 bc (ok.bw t htm),by have:=dM nd hs;omega,?_,oQ nd,λn hn=>?_,λn hn=>?_⟩
    ·have e:∀n,cfs (l.take i) n+c*cf (ts.take (j+1)) n=(cfs (l.take i) n+c*cf (ts.take j) n)+c*(if t.1=n then t.2 else 0):=λn=>by
      rw[hj,m7,Int.mul_add];show _+(_+c*((if t.1=n then t.2 else 0)+0))=_;rw[Ix,JY]
     have:=vO (ks:=ks) (x:=t.1) (f:=λn=>D.int (cfs (l.take i) n+c*cf (ts.take j) n)) (g:=λn=>D.int (cfs (l.take i) n+c*cf (ts.take (j+1)) n)) (λn hn=>by rw[e,He (λz=>hn z.symm),J6,Ix])
     rw[<- this,e,Hh rfl]
    ·rcases iM.mp hn with h | h
     ·exact hs n h
     ·rw[h];exact ok.sub t htm
    ·rw[iM,not_or] at hn;rw[hj,m7,Int.mul_add,<- JY,h0 n hn.1];show 0+c*((if t.1=n then t.2 else 0)+0)=0;rw[He (λz=>hn.2 z.symm)];omega
   ·rintro δ ⟨ks,w',z,rfl,nd,hs,h0⟩;have e1:ts.take (ts.map GQ).length=ts:=by rw[GW,Ho]
    rw[e1] at h0 ⊢;rw[hK7];walk_at "rd";have e2:∀n,cfs (l.take (i+1)) n=cfs (l.take i) n+c*cf ts n:=λn=>by
     rw[htk,ou];show _+(c*cf ts n+0)=_;rw[Ix]
    have e3:bds (l.take (i+1))=bds (l.take i)+c*b:=by
     rw[htk,nS];show _=_+c*b;show _+(c*b+0)=_;rw[Ix]
    have e4:GI (l.take (i+1))=(GI (l.take i)||(isM k&&decide (0<c))):=by rw[htk,oF,nP]
    have e5:∀p∈l.take (i+1),0<=p.2:=λp hp=>by
     rw[htk] at hp
     rcases Hb.mp hp with h | h
     ·exact hp0 p h
     ·rw[G9.mp h];show 0<=c;omega
    simp only[e2,e3,e4];refine⟨mo2 bc ok.bb,dQ (λh1=>⟨trivial,trivial,?_,nd,hs,h0,e5⟩) λh1=>dQ (λh2=>⟨trivial,trivial,?_,nd,hs,h0,e5⟩) λh2=>⟨trivial,trivial,?_,nd,hs,h0,e5⟩⟩
    ·rw[h1];rfl
    ·have:isM k=true:=by cases k with | least=>exact absurd h2 (by decide) | more=>rfl
     rw[JM.mpr h1,this];rfl
    ·have:isM k=false:=by cases k with | least=>rfl | more=>exact absurd rfl h2
     rw[JM.mpr h1,this];rfl
 ·rintro δ ⟨ks,u,v,w',z,rfl,nd,hs,h0,hp0⟩;rw[GW,Ho] at h0 hp0 ⊢;rw[hN,hK5];walk_at "rd";have hk:=dM nd hs;refine⟨by rw[GW];omega,λd=>match d with | .str n=>if cfs l n≠0 then some (.str n) else none | _=>none,λx hx=>?_,?_⟩
  ·obtain⟨n,hn,rfl⟩:=GZ.mp hx;walk_at "rd";refine⟨_,cB (λn=>D.int (cfs l n)) hn,?_⟩;walk_at "rd";refine dQ (λhz=>?_) λhz=>?_
   ·rw[Hh hz]
   ·rw[He hz]
  ·have e:∀ks:List Str,(0<((ks.map D.str).filterMap (λd=>match d with | .str n=>if cfs l n≠0 then some (D.str n) else none | _=>none)).length)↔∃n∈ks,cfs l n≠0:=λks=>by
    rw[List.length_pos_iff_exists_mem]
    constructor
    ·rintro⟨d,hd⟩;obtain⟨x,hx,e⟩:=List.mem_filterMap.mp hd;obtain⟨n,hn,rfl⟩:=GZ.mp hx;refine⟨n,hn,λz=>?_⟩;simp only[z,ne_eq,not_true_eq_false,if_false,reduceCtorEq] at e
    ·rintro⟨n,hn,z⟩;exact⟨.str n,List.mem_filterMap.mpr ⟨.str n,GZ.mpr ⟨n,hn,rfl⟩,by simp only;rw[Hh z]⟩⟩
   refine dQ (λhz=>?_) λhz=>?_
   ·obtain⟨n,_,z⟩:=(e ks).mp (by omega);exact dec false ⟨(λz=>nomatch z),λy=>absurd (y.2.1 n) z⟩
   have all:∀n,cfs l n=0:=λn=>by
    by_cases hn:n∈ks
    ·exact G5 λz=>hz (by have:=(e ks).mpr ⟨n,hn,z⟩;omega)
    ·exact h0 n hn
   refine dQ (λh1=>dec true ⟨λ_=>⟨hp0,all,.inl h1⟩,λ_=>rfl⟩) λh1=>dQ (λh2=>dec _ ⟨λz=>⟨hp0,all,.inr ⟨h2,z⟩⟩,λz=>?_⟩) λh2=>dec false ⟨(λz=>nomatch z),λz=>?_⟩
   ·rcases z.2.2 with y | y
    ·exact absurd y h1
    ·exact y.2
   ·rcases z.2.2 with y | y
    ·exact absurd y h1
    ·exact absurd y.1 h2
abbrev Ppr:=List (List (List Int))
def ppD(P:Ppr):D:=.tup (P.map λl=>.tup (l.map λw=>.tup (w.map D.int)))
noncomputable def lnB (c:List Rw) (B:List (List Rw)) (l:List (List Int)):Bool:=decide (l.length=B.length)&&(B.zip l).all λp=>shB (c++p.1) p.2
noncomputable def ppB (A B:List (List Rw)) (P:Ppr):Bool:=decide (P.length=A.length)&&(A.zip P).all λp=>lnB p.1 B p.2
inductive du(ds:List D)(R:D->Prop):Prop
 | mk (a b:GL) (S:List Str) (P:Ppr) (hh:ds=[a.D,b.D,ppD P]/\a.dep<=50/\b.dep<=50/\a.ok S/\b.ok S/\S.length<=60/\(a.pl false).num<=4/\(a.pl false).long<=3/\(b.pl false).num<=4/\(b.pl false).long<=3/\(∀l∈P,∀w∈l,∀z∈w,ib z<=60000)/\R (.bl (ppB (a.pl false).kr (b.pl false).kr P)))
def d8:∀ds R,du ds R->ds.length=3:=λ_ _ ⟨_,_,_,_,e,_⟩=>by rw[e];rfl
theorem oh{S:List Str}:∀ {s:GL},s.ok S->s.bt 10000
 | .row _ _ _,o=>⟨o.1.bits,o.2⟩
 | .nt s,o=>oh (s:=s) o
 | .bo s t,o=>⟨oh o.1,oh o.2⟩
 | .ei s t,o=>⟨oh o.1,oh o.2⟩
theorem Ea{P:Ppr}:nq (A.map λc=>.lst (c.map Gu)) (P.map λl=>.tup (l.map λw=>.tup (w.map D.int)))=(A.zip P).map λp=>D.tup [.lst (p.1.map Gu),.tup (p.2.map λw=>.tup (w.map D.int))]:=by
 unfold nq;rw[JV,List.zip,IR]
theorem Co{l:List (List Int)}:nq (B.map λc=>.lst (c.map Gu)) (l.map λw=>.tup (w.map D.int))=(B.zip l).map λp=>D.tup [.lst (p.1.map Gu),.tup (p.2.map D.int)]:=by
 unfold nq;rw[JV,List.zip,IR]
theorem qU{α:Type}{p:α->Bool}{l:List α}{i:Nat}{x:α}(h:l[i]?=some x)(hf:p x=false):l.all p=false:=by
 refine JM.mpr λz=>?_;have:=IQ.mp z x (Hc h);rw[hf] at this;cases this
theorem aL:aw ["_law_one","_law_other","_law_paper","_law_ones","_law_others","_law_first","_law_line_here","_law_second","_law_weights"] ["_law_one","_law_other","_law_paper"] (am s__law_paper_good):=by walk_at "sc"
theorem e7(Z:Zz):Z.C 62 "_law_paper_good" ["_law_one","_law_other","_law_paper"] (Gx Z.K du):=by
 refine cw Z.x47 aL d8 λfa cdv A outer s H E ds R hr h=>?_;have hU:=hr.units;refine⟨_,(ad (aA 3 aL.nd (aq (eK Z) (rm hr) rfl (ac (ak 0) (ac dh ae)))) (ad (aA 4 aL.nd (aq (eK Z) (rm hr) rfl (ac (ak 1) (ac dh ae)))) (ad (aN (DW.dt (fu (df (bJ (ia gi rfl Z.x62 rfl Z.x54 bM (ak 2)))) (dm (aE (fS hU) (aM f9 rfl Z.x55 dP (ac (ak 2) ae)) (aM f9 rfl Z.x55 dP (ac (ak 3) ae)) (av _))))) (af (au dh)) aB) (ad (fY Hl rfl (kh true false rfl Z.x57 (ac (ak 3) (ac (ak 2) ae))) (bH (n:=2) rfl (ax (ap 5 aL.nd) (ax (ap 6 aL.nd) aS))) (ad (aN (DW.dt (fu (df (bJ (ia gi rfl Z.x62 rfl Z.x54 bM (ak 6)))) (dm (aE (fS hU) (aM f9 rfl Z.x55 dP (ac (ak 6) ae)) (aM f9 rfl Z.x55 dP (ac (ak 4) ae)) (av _))))) (af (au dh)) aB) (af (fY Hl rfl (kh true false rfl Z.x57 (ac (ak 4) (ac (ak 6) ae))) (bH (n:=2) rfl (ax (ap 7 aL.nd) (ax (ap 8 aL.nd) aS))) (af (aN (df (bJ (aq (dN Z) (rm hr) rfl (ac (aD aR (ak 5) (ak 7)) (ac (ak 8) ae))))) (af (au dh)) aB)))))) (af (au dh)))))),?_⟩;obtain⟨a,b,S,P,rfl,da,db,oa,ob,hS,na,la,nb,lb,hw,q⟩:=h;refine ag λK1 hK1=>?_;walk_at "rd";refine⟨a,true,S,rfl,by omega,oa,hS,na,la,?_⟩;walk_at "rd";rw[hK1];refine ag λK2 hK2=>?_;walk_at "rd";refine⟨b,true,S,rfl,by omega,ob,hS,nb,lb,?_⟩;walk_at "rd";rw[hK2];show dSeq _ _ _ [.dat a.D,.dat b.D,.dat (ppD P),.dat (krD (a.pl false).kr),.dat (krD (b.pl false).kr),.no,.no,.no,.no];have ra:=λc hc r hr=>GL.kr_row (B:=10000) (GL.pl_ok (t:=false) oa) (GL.pl_bt (oh oa)) c hc r hr;have rb:=λc hc r hr=>GL.kr_row (B:=10000) (GL.pl_ok (t:=false) ob) (GL.pl_bt (oh ob)) c hc r hr
 have ga:∀c∈(a.pl false).kr,c.length<=3:=λc hc=>G0 (GL.kr_long GL.pl_pn hc) la
 have gb:∀c∈(b.pl false).kr,c.length<=3:=λc hc=>G0 (GL.kr_long GL.pl_pn hc) lb
 generalize (a.pl false).kr=A at *
 generalize (b.pl false).kr=B at *
 unfold ppD krD;refine ag λK3 hK3=>?_;walk_at "rd";rw[GW,GW];refine dQ (λhl=>?_) λhl=>?_
 ·have e:ppB A B P=false:=by unfold ppB;rw[HA (by omega)];rfl
  rw[e] at q;exact q
 have hl:P.length=A.length:=by have:=Jk.mp hl;omega
 rw[hK3];refine ag λK4 hK4=>?_;refine dA λF N hF hN=>?_;walk_at "rd";simp only[kc];walk_at "rd";rw[Ea];have hq:R (.bl ((A.zip P).all λp=>lnB p.1 B p.2)):=by
  unfold ppB at q;rw[HG hl,Bool.true_and] at q;exact q
 have hz1:∀p∈A.zip P,p.1∈A/\p.2∈P:=λp hp=>⟨(Hv hp).1,(Hv hp).2⟩
 clear q;generalize hL:A.zip P=L at *;refine⟨λi δ=>∃x y z u,δ=[.dat a.D,.dat b.D,.dat (.tup (P.map λl=>.tup (l.map λw=>.tup (w.map D.int)))),.dat (.lst (A.map λc=>.lst (c.map Gu))),.dat (.lst (B.map λc=>.lst (c.map Gu))),x,y,z,u]/\∀p∈L.take i,lnB p.1 B p.2=true,⟨_,_,_,_,rfl,λp hp=>by simp at hp⟩,?_,?_⟩
 ·rintro i d δ hd ⟨x,y,z,u,rfl,ho⟩;rw[List.getElem?_map] at hd
  cases hn:L[i]? with
  | none=>rw[hn] at hd;cases hd
  | some p =>
   rw[hn] at hd
   cases hd
   obtain⟨c,l⟩:=p;have hpm:=Hc hn;obtain⟨m1,m2⟩:=hz1 _ hpm;have fail:lnB c B l=false->R (.bl false):=λe=>by
    rw[qU (p:=λp=>lnB p.1 B p.2) hn e] at hq;exact hq
   rw[hF];show jS _ _ (.tup [.lst (c.map Gu),.tup (l.map λw=>.tup (w.map D.int))]) _ _;refine bX λK5 hK5=>?_;walk_at "rd";rw[GW,GW];refine dQ (λh1=>fail ?_) λh1=>?_
   ·unfold lnB;rw[HA (by omega)];rfl
   have h1:l.length=B.length:=by have:=Jk.mp h1;omega
   rw[hK5];refine dA λF2 N2 hF2 hN2=>?_;walk_at "rd";simp only[kc];walk_at "rd";rw[Co];have el:lnB c B l=(B.zip l).all λp=>shB (c++p.1) p.2:=by unfold lnB;rw[HG h1,Bool.true_and]
   have hz2:∀p∈B.zip l,p.1∈B/\p.2∈l:=λp hp=>⟨(Hv hp).1,(Hv hp).2⟩
   generalize hL2:B.zip l=L2 at *
   refine⟨λj δ=>∃z u,δ=[.dat a.D,.dat b.D,.dat (.tup (P.map λl=>.tup (l.map λw=>.tup (w.map D.int)))),.dat (.lst (A.map λc=>.lst (c.map Gu))),.dat (.lst (B.map λc=>.lst (c.map Gu))),.dat (.lst (c.map Gu)),.dat (.tup (l.map λw=>.tup (w.map D.int))),z,u]/\∀p∈L2.take j,shB (c++p.1) p.2=true,⟨_,_,rfl,λp hp=>by simp at hp⟩,?_,?_⟩
   ·rintro j d δ hd ⟨z,u,rfl,ho2⟩;rw[List.getElem?_map] at hd
    cases hn2:L2[j]? with
    | none=>rw[hn2] at hd;cases hd
    | some p =>
     rw[hn2] at hd
     cases hd
     obtain⟨d,w⟩:=p;have hpm2:=Hc hn2;obtain⟨m3,m4⟩:=hz2 _ hpm2;have l1:=ga c m1;have l2:=gb d m3;rw[hF2];show jS _ _ (.tup [.lst (d.map Gu),.tup (w.map D.int)]) _ _;walk_at "rd";rw[<- Hj];refine⟨by rw[GW,GW];omega,c++d,S,w,rfl,hS,λr hr=>?_,hw l m2 w m4,?_⟩
     ·rcases Hb.mp hr with hr | hr
      ·obtain⟨t1,t2,t3,_⟩:=ra c m1 r hr;exact⟨λt ht=>t1.sub.subset (GZ.mpr ⟨t,ht,rfl⟩),λt ht=>G0 (t2 t ht) (by decide),G0 t3 (by decide)⟩
      ·obtain⟨t1,t2,t3,_⟩:=rb d m3 r hr;exact⟨λt ht=>t1.sub.subset (GZ.mpr ⟨t,ht,rfl⟩),λt ht=>G0 (t2 t ht) (by decide),G0 t3 (by decide)⟩
     ·cases es:shB (c++d) w with
      | false =>
       refine fail ?_;rw[el];exact qU (p:=λp=>shB (c++p.1) p.2) hn2 es
      | true =>
       walk_at "rd";intro p hp;rw[aG hn2] at hp
       rcases Hb.mp hp with z | z
       ·exact ho2 p z
       ·rw[G9.mp z];exact es
   ·rintro δ ⟨z,u,rfl,ho2⟩;rw[GW,Ho] at ho2;rw[hN2];refine⟨_,_,_,_,rfl,λp hp=>?_⟩;rw[aG hn] at hp
    rcases Hb.mp hp with z | z
    ·exact ho p z
    ·rw[G9.mp z,el];exact IQ.mpr ho2
 ·rintro δ ⟨x,y,z,u,rfl,ho⟩;rw[GW,Ho] at ho;rw[hN,hK4];walk_at "rd";rw[IQ.mpr ho] at hq;exact hq
theorem e6{α β:Type}{g:α->β}:∀ {l:List α} {p:α×β},p∈l.zip (l.map g)->p.1∈l/\p.2=g p.1
 | x::l,p,h=>by
  rw[Hm,List.zip_cons_cons] at h
  rcases G7.mp h with rfl | h
  ·exact⟨G1 ..,rfl⟩
  ·obtain⟨h1,h2⟩:=e6 h;exact⟨GY _ h1,h2⟩
def ppW(nm:List Str)(A B:List (List Rw)):Ppr:=A.map λc=>B.map λd=>wOf nm (c++d)
theorem Dn:ppD (ppW nm A B)=.tup (A.map λc=>.tup (B.map λd=>.tup ((wOf nm (c++d)).map D.int))):=by
 unfold ppD ppW;rw[HB]
 congr 2
 funext c
 show D.tup ((B.map λd=>wOf nm (c++d)).map _)=_
 rw[HB];rfl
theorem Df(h:∀c∈A,∀d∈B,mf (c++d) (wOf nm (c++d))):ppB A B (ppW nm A B)=true:=by
 unfold ppB ppW;rw[Hn];refine⟨by rw[GW];exact HG rfl,IQ.mpr λp hp=>?_⟩;obtain⟨h1,h2⟩:=e6 hp;unfold lnB;rw[h2,Hn];refine⟨by rw[GW];exact HG rfl,IQ.mpr λp' hp'=>?_⟩;obtain⟨h3,h4⟩:=e6 hp';rw[h4];exact nY.mpr (h _ h1 _ h3).sh
def wv{n:Nat}(h:∀c∈A,∀d∈B,∀z∈wOf nm (c++d),ib z<=n):∀l∈ppW nm A B,∀w∈l,∀z∈w,ib z<=n:=λl hl w hw z hz=>by
 obtain⟨c,hc,rfl⟩:=GZ.mp hl;obtain⟨d,hd,rfl⟩:=GZ.mp hw;exact h c hc d hd z hz
def mw:Nat->Int->List Str->List Str
 | 0,_,_=>[]
 | k+1,c,L=>L.getD (c.fmod L.length).toNat ""::mw k (c.fdiv L.length) (L.eraseIdx (c.fmod L.length).toNat)
theorem CK{c:Int}{L:List Str}(h:0<L.length):(c.fmod L.length).toNat<L.length:=by
 have a0:=Hy c (b:=L.length) (by omega)
 have a1:=HK c (b:=L.length) (by omega)
 omega
theorem Bf{L:List Str}{j:Nat}(h:j<L.length):(L[j]::L.eraseIdx j).Perm L:=by
 rw[List.eraseIdx_eq_take_drop_succ];have e:L=L.take j++L[j]::L.drop (j+1):=by rw[<- Ip h,IH]
 exact List.perm_middle.symm.trans (List.Perm.of_eq e.symm)
theorem yf{α β:Type}(f:α->β):∀(l:List α) (j:Nat),(l.map f).eraseIdx j=(l.eraseIdx j).map f
 | [],_=>rfl
 | a::l,0=>rfl
 | a::l,j+1=>by show f a::(l.map f).eraseIdx j=f a::(l.eraseIdx j).map f;rw[yf f l j]
theorem qm:∀(k:Nat) (c:Int) (L:List Str),L.Nodup->k<=L.length->(mw k c L).Nodup/\(mw k c L).length=k/\∀x∈mw k c L,x∈L
 | 0,_,_,_,_=>⟨Jn,rfl,λ_ h=>nomatch h⟩
 | k+1,c,L,nd,h=>by
  have hj:=CK (c:=c) (L:=L) (by omega)
  have e:L.getD (c.fmod L.length).toNat ""=L[(c.fmod L.length).toNat]:=by rw[List.getD_eq_getElem?_getD,List.getElem?_eq_getElem hj];rfl
  have pm:=Bf hj
  have nd2:=pm.nodup_iff.mpr nd
  obtain⟨n1,n2⟩:=HM.mp nd2;obtain⟨h1,h2,h3⟩:=qm k (c.fdiv L.length) (L.eraseIdx (c.fmod L.length).toNat) n2 (by rw[List.length_eraseIdx,Hh hj];omega);unfold mw;rw[e];refine⟨HM.mpr ⟨λz=>n1 (h3 _ z),h1⟩,by rw[Ha,h2],λx hx=>?_⟩
  rcases G7.mp hx with rfl | hx
  ·exact Ia hj
  ·exact List.mem_of_mem_eraseIdx (h3 x hx)
def AY:List Str:=(PySem.Str.cps "abcdefghijklmnopqrstuvwxyz").toList.map λc=>⟨#[c]⟩
theorem AQ:AY.Nodup:=by decide +kernel
theorem pH:AY.length=26:=by decide +kernel
theorem rV:zt "abcdefghijklmnopqrstuvwxyz"=AY.map D.str:=by unfold zt AY;rw[HB];rfl
def pk4(c:Int):List Str:=mw 4 c AY
def yG(c:Int):(pk4 c).Nodup/\(pk4 c).length=4:=let ⟨a,b,_⟩:=qm 4 c AY AQ (by rw[pH];decide);⟨a,b⟩
inductive eN(ds:List D)(R:D->Prop):Prop
 | mk (c:_) (hh:ds=[.int c]/\ib c<=1048600/\∀ss:List Str,ss.Perm (pk4 c)->Srt ss->R (.lst (ss.map D.str)))
def gl:∀ds R,eN ds R->ds.length=1:=λ_ _ ⟨_,e,_⟩=>by rw[e];rfl
theorem bv:aw ["_law_cell_here","_law_letters_here","_law_found","_law_k"] ["_law_cell_here"] (am s__law_letters):=by walk_at "sc"
theorem ig(Z:Zz):Z.C 1 "_law_letters" ["_law_cell_here"] (Gx Z.K eN):=by
 refine cw Z.x48 bv gl λfa cdv A outer s H E ds R hr h=>?_;have hU:=hr.units;refine⟨_,(ad (xR 1 bv.nd rfl rfl Z.x65 ay) (ad (dy 2 bv.nd ae) (ad (lD Hl rfl rfl Z.x59 (ac ar ae) (ap 3 bv.nd) (ad (bf 2 (vm 1 (aD gh (ak 0) (oI 1 rfl Z.x55 dP)))) (af (aA 0 bv.nd (aD ee (ak 0) (aD aR (oI 1 rfl Z.x55 dP) ar)))))) (ci 2 (af (au (aM (fQ rfl) rfl Z.x53 eB (ac (ak 2) ae)))))))),?_⟩;obtain⟨c,rfl,hc,q⟩:=h;refine ag λK1 hK1=>?_;walk_at "rd";refine⟨by decide +kernel,λla=>?_⟩;rw[hK1,rV];refine ag λK2 hK2=>?_;walk_at "rd";intro fa;rw[hK2];refine ag λK3 hK3=>?_;refine kU λF N hF hN=>?_;walk_at "rd";simp only[qv];walk_at "rd";refine⟨by decide,by decide,λi δ=>∃(c':Int) (L fd:List Str) (x:Sl),δ=[.dat (.int c'),.own la (.lst (L.map D.str)),.own fa (.lst (fd.map D.str)),x]/\L.length=26-i/\fd.length=i/\fd++mw (4-i) c' L=pk4 c,⟨c,AY,[],_,rfl,pH,rfl,rfl⟩,?_,?_⟩
 ·rintro i δ hi ⟨c',L,fd,x,rfl,hL,hf,hp⟩;have hi:i<4:=hi;have hj:=CK (c:=c') (L:=L) (by omega);have a0:=Hy c' (b:=L.length) (by omega);rw[hF];show eT _ _ _ _;refine bX λK4 hK4=>?_;walk_at "rd";rw[GW];refine⟨cnz (by omega),(c'.fmod L.length).toNat,by omega,by omega,.str (L[(c'.fmod L.length).toNat]),by rw[List.getElem?_map,List.getElem?_eq_getElem hj];rfl,?_⟩;rw[yf];refine⟨by rw[GW];omega,?_⟩;rw[hK4];walk_at "rd";rw[GW];have le:(L.eraseIdx (c'.fmod L.length).toNat).length=L.length-1:=by rw[List.length_eraseIdx,Hh hj]
  refine⟨⟨by omega,?_⟩,L.eraseIdx (c'.fmod L.length).toNat,rfl,fd++[L[(c'.fmod L.length).toNat]],by rw[Hj];rfl,by omega,by rw[G8,IG];omega,?_⟩
  ·exact lg64 (by omega) (by omega)
  ·have e4:4-i=(4-(i+1))+1:=by omega
   rw[e4] at hp;unfold mw at hp;have e:L.getD (c'.fmod L.length).toNat ""=L[(c'.fmod L.length).toNat]:=by rw[List.getD_eq_getElem?_getD,List.getElem?_eq_getElem hj];rfl
   rw[e] at hp;rw[Ji,List.singleton_append];have e2:((L.eraseIdx (c'.fmod L.length).toNat).length:Int)+1=(L.length:Int):=by omega
   rw[e2];exact hp
 ·rintro δ ⟨c',L,fd,x,rfl,hL,hf,hp⟩;have hp:fd++[]=pk4 c:=hp;rw[HJ] at hp;rw[hN,hK3,hp];walk_at "rd";have:=(yG c).2;exact⟨_,rfl,by omega,λss' pm st=>q ss' pm st⟩
def rnT(g:Str->Str)(ts:List (Str×Int)):List (Str×Int):=ts.map λt=>(g t.1,t.2)
def GL.rn(g:Str->Str):GL->GL
 | .row k ts b=>.row k (rnT g ts) b
 | .nt s=>.nt (s.rn g)
 | .bo s t=>.bo (s.rn g) (t.rn g)
 | .ei s t=>.ei (s.rn g) (t.rn g)
theorem ua(g:Str->Str)(ts:List (Str×Int)):(rnT g ts).map (·.1)=(ts.map (·.1)).map g:=by unfold rnT;rw[HB,HB];rfl
theorem zP(g:Str->Str)(ts:List (Str×Int)):lF (rnT g ts)=rnT g (lF ts):=by unfold lF rnT;rw[HB,HB];rfl
def GL.rn_dep{g:Str->Str}:∀ {s:GL},(s.rn g).dep=s.dep
 | .row _ _ _=>rfl
 | .nt s=>by show (s.rn g).dep+1=s.dep+1;rw[GL.rn_dep (s:=s)]
 | .bo s t=>by show max (s.rn g).dep (t.rn g).dep+1=max s.dep t.dep+1;rw[GL.rn_dep (s:=s),GL.rn_dep (s:=t)]
 | .ei s t=>by show max (s.rn g).dep (t.rn g).dep+1=max s.dep t.dep+1;rw[GL.rn_dep (s:=s),GL.rn_dep (s:=t)]
def GL.rn_pl{g:Str->Str}:∀ {s:GL} {u:Bool},(s.rn g).pl u=(s.pl u).rn g
 | .row k ts b,true=>by show GL.row k.op (lF (rnT g ts)) (-b)=.row k.op (rnT g (lF ts)) (-b);rw[zP]
 | .row k ts b,false=>rfl
 | .nt s,u=>GL.rn_pl (s:=s)
 | .bo s t,true=>by show GL.ei ((s.rn g).pl true) ((t.rn g).pl true)=.ei ((s.pl true).rn g) ((t.pl true).rn g);rw[GL.rn_pl,GL.rn_pl]
 | .bo s t,false=>by show GL.bo ((s.rn g).pl false) ((t.rn g).pl false)=.bo ((s.pl false).rn g) ((t.pl false).rn g);rw[GL.rn_pl,GL.rn_pl]
 | .ei s t,true=>by show GL.bo ((s.rn g).pl true) ((t.rn g).pl true)=.bo ((s.pl true).rn g) ((t.pl true).rn g);rw[GL.rn_pl,GL.rn_pl]
 | .ei s t,false=>by show GL.ei ((s.rn g).pl false) ((t.rn g).pl false)=.ei ((s.pl false).rn g) ((t.pl false).rn g);rw[GL.rn_pl,GL.rn_pl]
def GL.rn_few{g:Str->Str}:∀ {s:GL},(s.rn g).num=s.num/\(s.rn g).long=s.long
 | .row _ _ _=>⟨rfl,rfl⟩
 | .nt _=>⟨rfl,rfl⟩
 | .bo s t=>by
  show (s.rn g).num*(t.rn g).num=s.num*t.num/\(s.rn g).long+(t.rn g).long=s.long+t.long
  rw[(GL.rn_few (s:=s)).1,(GL.rn_few (s:=s)).2,(GL.rn_few (s:=t)).1,(GL.rn_few (s:=t)).2];exact⟨rfl,rfl⟩
 | .ei s t=>by
  show (s.rn g).num+(t.rn g).num=s.num+t.num/\max (s.rn g).long (t.rn g).long=max s.long t.long
  rw[(GL.rn_few (s:=s)).1,(GL.rn_few (s:=s)).2,(GL.rn_few (s:=t)).1,(GL.rn_few (s:=t)).2];exact⟨rfl,rfl⟩
def GL.rn_bt{g:Str->Str}{B:Nat}:∀ {s:GL},s.bt B->(s.rn g).bt B
 | .row k ts b,h=>⟨λt ht=>by obtain⟨u,hu,rfl⟩:=GZ.mp ht;exact h.1 u hu,h.2⟩
 | .nt s,h=>GL.rn_bt (s:=s) h
 | .bo s t,h=>⟨GL.rn_bt h.1,GL.rn_bt h.2⟩
 | .ei s t,h=>⟨GL.rn_bt h.1,GL.rn_bt h.2⟩
def GL.rn_ok{g:Str->Str}{S:List Str}:∀ {s:GL},s.ok S->(s.rn g).ok (S.map g)
 | .row k ts b,h=>⟨⟨by rw[ua];exact h.1.sub.map g,λt ht=>by obtain⟨u,hu,rfl⟩:=GZ.mp ht;exact h.1.nz u hu,λt ht=>by obtain⟨u,hu,rfl⟩:=GZ.mp ht;exact h.1.bits u hu⟩,h.2⟩
 | .nt s,h=>GL.rn_ok (s:=s) h
 | .bo s t,h=>⟨GL.rn_ok h.1,GL.rn_ok h.2⟩
 | .ei s t,h=>⟨GL.rn_ok h.1,GL.rn_ok h.2⟩
def ltr(ss:List Str)(n:Str):Str:=ss.getD (if n="a" then 0 else if n="b" then 1 else if n="c" then 2 else 3) ""
theorem CU(h:ss.length=4):S4.map (ltr ss)=ss:=by
 match ss,h with
 | [a,b,c,d],_=>rfl
theorem C5(h:ss.length=4)(hn:n∈S4):∃(i:Nat) (r:List Nat),Builtin.Str.occurrences "abcd" n 0 (PySem.Str.length "abcd") 1=i::r/\GK (ss.map D.str) (i:Int)=some (.str (ltr ss n)):=by
 match ss,h with
 | [a,b,c,d],_ =>
  simp only[S4,List.mem_cons,List.not_mem_nil,or_false] at hn
  rcases hn with rfl | rfl | rfl | rfl
  ·exact⟨0,[],by decide +kernel,rfl⟩
  ·exact⟨1,[],by decide +kernel,rfl⟩
  ·exact⟨2,[],by decide +kernel,rfl⟩
  ·exact⟨3,[],by decide +kernel,rfl⟩
inductive bD(n:Nat)(ds:List D)(R:D->Prop):Prop
 | mk (s:GL) (ss:List Str) (hh:ds=[s.D,.lst (ss.map D.str)]/\s.dep<=n/\s.ok S4/\ss.length=4/\R (s.rn (ltr ss)).D)
def gK(n:Nat):∀ds R,bD n ds R->ds.length=2:=λ_ _ ⟨_,_,e,_⟩=>by rw[e];rfl
def fO:∀ds R,¬ bD 0 ds R:=λ_ _ ⟨s,_,_,h,_⟩=>by have:=s.dep_pos;omega
theorem jT:aw ["_law_saying","_law_letters_here"] ["_law_saying","_law_letters_here"] (am s__law_called):=by walk_at "sc"
theorem iy(Z:Zz){n:Nat}(dD:Z.C (1+n) "_law_called" ["_law_saying","_law_letters_here"] (Gx Z.K (bD n))):Z.C (1+n+1) "_law_called" ["_law_saying","_law_letters_here"] (Gx Z.K (bD (n+1))):=by
 refine cw (k:=1+n) Z.x49 jT (gK (n+1)) λfa cdv A outer s H E ds R hr h=>?_;have hU:=hr.units;refine⟨_,(ad (aN (aE (cX hU) (GF 0) ay (av _)) (af (au (aJ (ac ay (ac (aq dD (hr.mono (by omega)) rfl (ac (GF 0) (ac (ak 1) ae))) ae))))) aB) (ad (aN (DW.dt (fu (aE (cX hU) (GF 0) ay (av _)) (dm (aE (cX hU) (GF 0) ay (av _))))) (af (au (aJ (ac (GF 0) (ac (aq dD (hr.mono (by omega)) rfl (ac (GF 0) (ac (ak 1) ae))) (ac (aq dD (hr.mono (by omega)) rfl (ac (GF 0) (ac (ak 1) ae))) ae)))))) aB) (af (au (aJ (ac (GF 0) (ac (cj fg rfl Z.x54 bM (ac (b6 ["_law_name","_law_weight"] [(1,"_law_letters_here")] rfl rfl (by decide +kernel) rfl (by decide +kernel) (bE ⟨rfl,trivial⟩) (bI rfl) (aY ⟨⟨rfl,rfl,.inl rfl⟩,trivial⟩) (km (GF 0)) λ_ _ _ _ _=>⟨(bH (n:=2) rfl (ax (ap 0 (show List.Nodup (["_law_name","_law_weight","_law_letters_here"]:List Str) by decide +kernel)) (ax (ap 1 (show List.Nodup (["_law_name","_law_weight","_law_letters_here"]:List Str) by decide +kernel)) aS))),dl,(aJ (ac (gM gz (ak 2) (D3 (ak 0)) (λ_ _=>rfl)) (ac (ak 1) ae)))⟩) ae)) (ac (GF 0) ae)))))))),?_⟩;obtain⟨s,ss,rfl,hd,ok,h4,q⟩:=h;refine ag λK1 h1=>?_
 cases s with
 | row k ts b =>
  unfold GL.D ie;walk_at "rd";refine GH (by cases k<;>decide) ?_
  rw[h1];refine ag λK2 h2=>?_;walk_at "rd";refine GH (by cases k<;>decide) (GH (by cases k<;>decide) ?_)
  rw[h2];walk_at "rd";have tl:=ok.1.sub.length_le;rw[GW] at tl;have tl:ts.length<=4:=tl;refine⟨by rw[GW];omega,λd=>match d with | .tup [.str n,.int w]=>some (.tup [.str (ltr ss n),.int w]) | _=>none,λx hx=>?_,?_⟩
  ·obtain⟨t,ht,rfl⟩:=GZ.mp hx;obtain⟨i,r,e1,e2⟩:=C5 h4 (n:=t.1) (ok.1.sub.subset (GZ.mpr ⟨t,ht,rfl⟩));unfold GQ;walk_at "rd";simp only[dIdx];walk_at "rd";exact⟨i,r,e1,GD.of e2 ⟨rfl,rfl⟩⟩
  ·rw[aK _ GQ (λt=>GQ (ltr ss t.1,t.2)) _ (by intro _ _;rfl)];have q:R (ie k (rnT (ltr ss) ts) b):=q;unfold ie rnT at q;rw[HB] at q;exact q
 | nt s =>
  have hd:s.dep+1<=n+1:=hd
  unfold GL.D;walk_at "rd";exact⟨s,ss,rfl,by omega,ok,h4,q⟩
 | bo s u =>
  have hd:max s.dep u.dep+1<=n+1:=hd
  unfold GL.D;walk_at "rd";refine GH (by decide) ?_;rw[h1];refine ag λK2 h2=>?_;walk_at "rd";exact⟨s,ss,rfl,by omega,ok.1,h4,u,ss,rfl,by omega,ok.2,h4,q⟩
 | ei s u =>
  have hd:max s.dep u.dep+1<=n+1:=hd
  unfold GL.D;walk_at "rd";refine GH (by decide) ?_;rw[h1];refine ag λK2 h2=>?_;walk_at "rd";exact GH (by decide) ⟨s,ss,rfl,by omega,ok.1,h4,u,ss,rfl,by omega,ok.2,h4,q⟩
def eh(Z:Zz):Z.C 61 "_law_called" ["_law_saying","_law_letters_here"] (Gx Z.K (bD 60)):=Nat.rec (motive:=λn=>Z.C (1+n) "_law_called" ["_law_saying","_law_letters_here"] (Gx Z.K (bD n))) (dz Z.x49 _ fO) (λ_=>iy Z) 60
inductive bS(n:Nat)(ds:List D)(R:D->Prop):Prop
 | mk (s:GL) (S:List Str) (hh:ds=[s.D]/\s.dep<=n/\s.ok S/\S.Pairwise leS/\S.Nodup/\S.length<=4/\∀ss:List Str,ss.Nodup->(∀y,y∈ss↔y∈s.nms)->ss.Pairwise leS->R (.lst (ss.map D.str)))
def ix(n:Nat):∀ds R,bS n ds R->ds.length=1:=λ_ _ ⟨_,_,e,_⟩=>by rw[e];rfl
def gC:∀ds R,¬ bS 0 ds R:=λ_ _ ⟨s,_,_,h,_⟩=>by have:=s.dep_pos;omega
theorem kL:aw ["_law_saying"] ["_law_saying"] (am s__law_names):=by walk_at "sc"
theorem iS(Z:Zz){n:Nat}(ef:Z.C (1+n) "_law_names" ["_law_saying"] (Gx Z.K (bS n))):Z.C (1+n+1) "_law_names" ["_law_saying"] (Gx Z.K (bS (n+1))):=by
 refine cw (k:=1+n) Z.x50 kL (ix (n+1)) λfa cdv A outer s H E ds R hr h=>?_;have hU:=hr.units;refine⟨_,(ad (aN (aE (cX hU) (GF 0) ay (av _)) (af (au (aq ef (hr.mono (by omega)) rfl (ac (GF 0) ae)))) aB) (ad (aN (DW.dt (fu (aE (cX hU) (GF 0) ay (av _)) (dm (aE (cX hU) (GF 0) ay (av _))))) (af (au (Cb rfl rfl Z.x53 rfl Z.x66 (aD aR (aq ef (hr.mono (by omega)) rfl (ac (GF 0) ae)) (aq ef (hr.mono (by omega)) rfl (ac (GF 0) ae)))))) aB) (af (au (b6 ["_law_name","_law_weight"] [] rfl rfl (by decide +kernel) rfl (by decide +kernel) (bE trivial) (bI rfl) (aY trivial) (km (GF 0)) λ_ _ _ _ _=>⟨(bH (n:=2) rfl (ax (ap 0 (show List.Nodup (["_law_name","_law_weight"]:List Str) by decide +kernel)) (ax (ap 1 (show List.Nodup (["_law_name","_law_weight"]:List Str) by decide +kernel)) aS))),dl,(ak 0)⟩))))),?_⟩;obtain⟨s,S,rfl,hd,ok,pw,nd,hl,q⟩:=h;refine ag λK1 h1=>?_
 cases s with
 | row k ts b =>
  unfold GL.D ie;walk_at "rd";refine GH (by cases k<;>decide) ?_
  rw[h1];refine ag λK2 h2=>?_;walk_at "rd";refine GH (by cases k<;>decide) (GH (by cases k<;>decide) ?_)
  rw[h2];walk_at "rd";have tl:=ok.1.sub.length_le;rw[GW] at tl;refine⟨by rw[GW];omega,λd=>match d with | .tup (x::_)=>some x | _=>none,λx hx=>?_,?_⟩
  ·obtain⟨t,ht,rfl⟩:=GZ.mp hx;rfl
  ·rw[aK _ GQ (λt=>D.str t.1) _ (by intro _ _;rfl)];have:=q (ts.map (·.1)) (nd.sublist ok.1.sub) (λy=>Iff.rfl) (pw.sublist ok.1.sub);rw[HB] at this;exact this
 | nt s =>
  have hd:s.dep+1<=n+1:=hd
  unfold GL.D;walk_at "rd";exact⟨s,S,rfl,by omega,ok,pw,nd,hl,q⟩
 | bo s u =>
  have hd:max s.dep u.dep+1<=n+1:=hd
  unfold GL.D;walk_at "rd";refine GH (by decide) ?_;rw[h1];refine ag λK2 h2=>?_;walk_at "rd";refine⟨s,S,rfl,by omega,ok.1,pw,nd,hl,λs1 n1 m1 p1=>⟨u,S,rfl,by omega,ok.2,pw,nd,hl,λs2 n2 m2 p2=>?_⟩⟩;have k1:s1.length<=4:=G0 (dM n1 λx hx=>GL.nms_sub ok.1 x ((m1 x).mp hx)) hl;have k2:s2.length<=4:=G0 (dM n2 λx hx=>GL.nms_sub ok.2 x ((m2 x).mp hx)) hl;walk_at "rd";exact⟨by rw[GW,GW];omega,s1++s2,by rw[Hj],by rw[G8];omega,λs3 n3 m3 st=>q s3 n3 (λy=>by rw[m3 y,Hb,m1,m2];exact Hb.symm) (gP st)⟩
 | ei s u =>
  have hd:max s.dep u.dep+1<=n+1:=hd
  unfold GL.D;walk_at "rd";refine GH (by decide) ?_;rw[h1];refine ag λK2 h2=>?_;walk_at "rd";refine GH (by decide) ?_;refine⟨s,S,rfl,by omega,ok.1,pw,nd,hl,λs1 n1 m1 p1=>⟨u,S,rfl,by omega,ok.2,pw,nd,hl,λs2 n2 m2 p2=>?_⟩⟩;have k1:s1.length<=4:=G0 (dM n1 λx hx=>GL.nms_sub ok.1 x ((m1 x).mp hx)) hl;have k2:s2.length<=4:=G0 (dM n2 λx hx=>GL.nms_sub ok.2 x ((m2 x).mp hx)) hl;walk_at "rd";exact⟨by rw[GW,GW];omega,s1++s2,by rw[Hj],by rw[G8];omega,λs3 n3 m3 st=>q s3 n3 (λy=>by rw[m3 y,Hb,m1,m2];exact Hb.symm) (gP st)⟩
def eU(Z:Zz):Z.C 61 "_law_names" ["_law_saying"] (Gx Z.K (bS 60)):=Nat.rec (motive:=λn=>Z.C (1+n) "_law_names" ["_law_saying"] (Gx Z.K (bS n))) (dz Z.x50 _ gC) (λ_=>iS Z) 60
def GL.bt_mono{B C:Nat}(h:B<=C):∀ {s:GL},s.bt B->s.bt C
 | .row _ _ _,o=>⟨λt ht=>G0 (o.1 t ht) h,G0 o.2 h⟩
 | .nt s,o=>GL.bt_mono (s:=s) h o
 | .bo s t,o=>⟨GL.bt_mono h o.1,GL.bt_mono h o.2⟩
 | .ei s t,o=>⟨GL.bt_mono h o.1,GL.bt_mono h o.2⟩
structure Sz(S:List Str)(s:GL):Prop where
 dep:s.dep<=20
 ok:s.ok S
 bt:s.bt 64
 few:(s.pl false).num<=4/\(s.pl false).long<=3
theorem jq{S:List Str}{p:Str->Bool}:∀ {s:GL},s.ok S->(∀n∈s.nms,p n=true)->s.ok (S.filter p)
 | .row k ts b,h,hn=>⟨⟨by
   have e:(ts.map (·.1)).filter p=ts.map (·.1):=List.filter_eq_self.mpr hn
   rw[<- e];exact h.1.sub.filter p,h.1.nz,h.1.bits⟩,h.2⟩
 | .nt s,h,hn=>jq (s:=s) h hn
 | .bo s t,h,hn=>⟨jq h.1 λn z=>hn n (Hf _ z),jq h.2 λn z=>hn n (G6 _ z)⟩
 | .ei s t,h,hn=>⟨jq h.1 λn z=>hn n (Hf _ z),jq h.2 λn z=>hn n (G6 _ z)⟩
theorem Sz.two{S:List Str}{a b:GL}(ha:Sz S a)(hb:Sz S b)(pw:S.Pairwise leS)(nd:S.Nodup)(h4:S.length=4):∃nm,Two a b nm 64 4:=by
 have mem:∀n,n∈S.filter (λn=>decide (n∈a.nms\/n∈b.nms))↔n∈a.nms\/n∈b.nms:=λn=>by
  rw[Hi,decide_eq_true_iff];exact⟨λh=>h.2,λh=>⟨h.elim (GL.nms_sub ha.ok n) (GL.nms_sub hb.ok n),h⟩⟩
 have l4:(S.filter (λn=>decide (n∈a.nms\/n∈b.nms))).length<=4:=by rw[<- h4];exact Je ..
 exact⟨_,by have:=ha.dep;omega,by have:=hb.dep;omega,jq ha.ok λn h=>HG (.inl h),jq hb.ok λn h=>HG (.inr h),ha.bt,hb.bt,ha.few,hb.few,pw.filter _,nd.filter _,mem,l4,by decide,by decide,.inl (Fl l4)⟩
theorem GL.nd(s:GL):DL.D.nd s.D=true:=by rw[s.D_args];exact s.nds
def kH:∀w:List Str,D.nds (w.map D.str)=true
 | []=>rfl
 | a::w=>by rw[Hm];simp only[D.nds,kH w];rfl
theorem qj:∀w:List Str,D.dps (w.map D.str)<=60
 | []=>by decide
 | a::w=>by rw[Hm];have:=qj w;simp only[D.dps,D.dp];omega
def Bq{i:Nat}{d:D}(h:(ks.map D.str)[i]?=some d):∃n,ks[i]?=some n/\d=.str n:=jl h
inductive c7(ds:List D)(R:D->Prop):Prop
 | mk (a b:GL) (nm:List Str) (ps:List (Int×Int)) (T0:Nat) (hh:ds=[a.D,b.D,.fd nm (ps.map GJ)]/\Two a b nm 64 4/\Pk nm ps/\Pt nm ps T0/\a.tv (pT nm ps) (pB nm ps)=true/\b.tv (pT nm ps) (pB nm ps)=true/\R (.bl true))
def d5:∀ds R,c7 ds R->ds.length=3:=λ_ _ ⟨_,_,_,_,_,e,_⟩=>by rw[e];rfl
theorem cO:aw ["_law_one","_law_other","_law_point","_law_name"] ["_law_one","_law_other","_law_point"] (am s__law_point_good):=by walk_at "sc"
theorem fe(Z:Zz):Z.C 64 "_law_point_good" ["_law_one","_law_other","_law_point"] (Gx Z.K c7):=by
 refine cw Z.x51 cO d5 λfa cdv A outer s H E ds R hr h=>?_;have hU:=hr.units;refine⟨_,(ad (aN (DW.dt (fu (df (bJ (ia AG rfl Z.x62 rfl Z.x61 yu (ak 2)))) (dm (aE (fS hU) (aM (fQ rfl) rfl Z.x53 eB (ac (ak 2) ae)) (Cb rfl rfl Z.x53 rfl Z.x66 (aD aR (aq (eU Z) (rm hr) rfl (ac (ak 0) ae)) (aq (eU Z) (rm hr) rfl (ac (ak 1) ae)))) (av _))))) (af (au dh)) aB) (ad (fY Hl rfl (yM (ak 2)) (ap 3 cO.nd) (af (aN (df (bJ (aq (eG Z) (rm hr) rfl (ac (cT hU (ak 2) (ak 3) (λ_ _=>rfl)) ae)))) (af (au dh)) aB))) (af (au (gf (aq (jL Z) (rm hr) rfl (ac (ak 0) (ac (ak 2) ae))) (cF (aq (jL Z) (rm hr) rfl (ac (ak 1) (ac (ak 2) ae))))))))),?_⟩;obtain⟨a,b,nm,ps,T0,rfl,T,pk,P,sa,sb,q⟩:=h;have nl:=T.len;have n4:=T.n4;have ina:∀x∈a.nms,x∈nm:=λx hx=>(T.mem x).mpr (.inl hx);have inb:∀x∈b.nms,x∈nm:=λx hx=>(T.mem x).mpr (.inr hx);refine ag λK1 hK1=>?_;walk_at "rd";refine⟨by omega,λs0 pm st=>⟨a,nm,rfl,by have:=T.da;omega,T.oa,T.pw,T.nd,by omega,λs1 n1 m1 p1=>⟨b,nm,rfl,by have:=T.db;omega,T.ob,T.pw,T.nd,by omega,λs2 n2 m2 p2=>?_⟩⟩⟩;have k1:s1.length<=nm.length:=dM n1 λx hx=>ina x ((m1 x).mp hx);have k2:s2.length<=nm.length:=dM n2 λx hx=>inb x ((m2 x).mp hx);walk_at "rd";refine⟨by rw[GW,GW];omega,s1++s2,by rw[Hj],by rw[G8];omega,λs3 n3 m3 st3=>?_⟩;have es:s0=s3:=wz st st3 (pm.nodup_iff.mpr T.nd) n3 λn=>by rw[pm.mem_iff,m3 n,T.mem n,Hb,m1,m2]
 refine⟨by rw[es],kH _,qj _,?_⟩;rw[hK1];refine ag λK2 hK2=>?_;refine dA λFb N hF hN=>?_;walk_at "rd";simp only[kc];walk_at "rd";refine⟨λi δ=>∃y,δ=[.dat a.D,.dat b.D,.dat (.fd nm (ps.map GJ)),y],⟨_,rfl⟩,?_,?_⟩
 ·rintro i d δ hd ⟨y,rfl⟩;obtain⟨n,hn,rfl⟩:=Bq hd;have hnn:=Hc hn;rw[hF];walk_at "rd";refine⟨_,P.D hnn,(pT nm ps n,pB nm ps n),rfl,P.Low hnn,?_⟩;walk_at "rd";exact⟨_,rfl⟩
 ·rintro δ ⟨y,rfl⟩;rw[hN,hK2];walk_at "rd";refine⟨a,nm,ps,nm,rfl,by have:=T.da;omega,T.oa,T.nd,by omega,ina,pk,?_⟩;rw[sa];refine⟨b,nm,ps,nm,rfl,by have:=T.db;omega,T.ob,T.nd,by omega,inb,pk,?_⟩;rw[sb];exact q
theorem rD:∀ps:List (Int×Int),D.dps (ps.map GJ)<=1
 | []=>Ie _
 | p::r=>by
  rw[Hm];unfold D.dps;exact Nat.max_le.mpr ⟨by show 1<=1;decide,rD r⟩
def lK:∀w:List Int,D.nds (w.map D.int)=true
 | []=>rfl
 | a::w=>by rw[Hm];simp only[D.nds,lK w];rfl
theorem pW:∀w:List Int,D.dps (w.map D.int)<=1
 | []=>by decide
 | a::w=>by rw[Hm];have:=pW w;simp only[D.dps,D.dp];omega
theorem tM:∀l:List D,(∀x∈l,x.nd=true)->D.nds l=true
 | [],_=>rfl
 | x::l,h=>by show (x.nd&&D.nds l)=true;rw[h x (G1 ..),tM l λy hy=>h y (GY _ hy)];rfl
theorem tQ{n:Nat}:∀l:List D,(∀x∈l,x.dp<=n)->D.dps l<=n
 | [],_=>Ie _
 | x::l,h=>Nat.max_le.mpr ⟨h x (G1 ..),tQ l λy hy=>h y (GY _ hy)⟩
def FU(P:Ppr):(ppD P).nd=true:=tM _ λx hx=>by
 obtain⟨l,_,rfl⟩:=GZ.mp hx;exact tM _ λy hy=>by
  obtain⟨w,_,rfl⟩:=GZ.mp hy;exact lK w
def FV(P:Ppr):(ppD P).dp<=4:=JT (tQ (n:=3) _ λx hx=>by
 obtain⟨l,_,rfl⟩:=GZ.mp hx
 exact JT (tQ (n:=2) _ λy hy=>by
  obtain⟨w,_,rfl⟩:=GZ.mp hy
  exact JT (pW w)))
theorem hE:aw ["_law_script","_law_one","_law_other","_law_letters_here","_law_found","_law_kept"] ["_law_script"] (am s_law):=by walk_at "sc"
theorem zC(Z:Zz){fa:Addr}{fd:FuncData}(F:Fun Z.K "law" "law" s_law fa fd):kd Z.P Z.w Z.K Z.mg Z.base CX0 67 fa fd ["_law_script"] (spT Z.K fLaw):=by
 refine Gh F hE (λds R ⟨ns,e,_⟩=>by rw[e];rfl) λcdv A outer s H E ds R hr hX h=>?_;have hU:=hr.units;refine⟨_,(ad (t7 (aq (iD Z) (rm hr) rfl (ac (ak 0) ae)) (yY (n:=2) rfl (ax (ap 1 hE.nd) (ax (ap 2 hE.nd) aS)))) (ad (aA 3 hE.nd (aq (ig Z) (rm hr) rfl (ac (aq (bT Z) (rm hr) rfl (ac (ak 0) (ac ar ae))) ae))) (ad (aA 1 hE.nd (aq (eh Z) (rm hr) rfl (ac (ak 1) (ac (ak 3) ae)))) (ad (aA 2 hE.nd (aq (eh Z) (rm hr) rfl (ac (ak 2) (ac (ak 3) ae)))) (ad (aA 4 hE.nd (aq (fm Z) (rm hr) rfl (ac (ak 1) (ac (ak 2) ae)))) (ad (aN (DW.dt (fu (df (bJ (ia gi rfl Z.x62 rfl Z.x54 bM (ak 4)))) (dm (aE (fS hU) (aM f9 rfl Z.x55 dP (ac (ak 4) ae)) ar (av _))))) (af (au dh)) aB) (ad (aN (aE (cX hU) (GF 4) ay (av _)) (af (au (gf (aq (e7 Z) (rm hr) rfl (ac (ak 1) (ac (ak 2) (ac (GF 4) ae)))) (cF (bU (cX hU) (aq (fm Z) (rm hr) rfl (ac (ak 1) (ac (ak 2) ae))) (ak 4) (av _)))))) aB) (ad (aN (DW.dt (fu (aE (fS hU) (GF 4) ay (av _)) (dm (df (bJ (aq (fe Z) (rm hr) rfl (ac (ak 1) (ac (ak 2) (ac (GF 4) ae))))))))) (af (au dh)) aB) (ad (pJ 5 hE.nd rfl Z.x61 (GF 4)) (ad (zI hX (GF 4)) (ci 5 (af (au (bU (Gb hU) (aq (fm Z) (rm hr) rfl (ac (ak 1) (ac (ak 2) ae))) (aJ (ac ay (ac (ak 5) ae))) (av _))))))))))))))),?_⟩;obtain⟨ns,rfl,h63,hb,q⟩:=h;refine ag λK1 hK1=>?_;walk_at "rd";refine⟨ns,rfl,h63,hb,λa b ga gb=>?_⟩;walk_at "rd";rw[hK1];refine ag λK2 hK2=>?_;walk_at "rd";refine⟨ns,46,rfl,by decide,?_⟩;refine⟨_,rfl,G0 (mV hb 46) (by decide),λss pm st=>?_⟩;obtain⟨nd4,l4⟩:=yG (cQ ns 46);have nds:=pm.nodup_iff.mpr nd4
 have ls:ss.length=4:=pm.length_eq.trans l4
 have pws:=gP st
 walk_at "rd";rw[hK2];have sz:∀ {s:GL},Sg s->Sz ss (s.rn (ltr ss)):=λ{s} g=>⟨by rw[GL.rn_dep];have:=g.dep;omega,by have:=GL.rn_ok (g:=ltr ss) g.ok;rwa [CU ls] at this,GL.bt_mono (by decide) (GL.rn_bt g.bt),by rw[GL.rn_pl,GL.rn_few.1,GL.rn_few.2];exact g.few⟩;refine ag λK3 hK3=>?_;walk_at "rd";refine⟨a,ss,rfl,by have:=ga.dep;omega,ga.ok,ls,?_⟩;walk_at "rd";rw[hK3];refine ag λK4 hK4=>?_;walk_at "rd";refine⟨b,ss,rfl,by have:=gb.dep;omega,gb.ok,ls,?_⟩;walk_at "rd";rw[hK4];have za:=sz ga;have zb:=sz gb;generalize a.rn (ltr ss)=a' at za ⊢;generalize b.rn (ltr ss)=b' at zb ⊢;obtain⟨nm,T⟩:=za.two zb pws nds ls;refine ag λK5 hK5=>?_;walk_at "rd";refine⟨a',b',nm,64,4,rfl,T,?_⟩;walk_at "rd";rw[hK5];refine ag λK6 hK6=>?_;have nl:=T.len;have n4:=T.n4
 rcases Cm T with⟨ps,ep,P,κ,sa,sb⟩ | ⟨ew,no,sh⟩
 ·have ina:∀x∈a'.nms,x∈nm:=λx hx=>(T.mem x).mpr (.inl hx)
  have inb:∀x∈b'.nms,x∈nm:=λx hx=>(T.mem x).mpr (.inr hx)
  rw[ep];walk_at "rd";refine GH (λz=>z rfl) ?_;walk_at "rd";rw[hK6];refine ag λK7 hK7=>?_;walk_at "rd";refine GH (by decide) ?_;walk_at "rd";rw[hK7];refine ag λK8 hK8=>?_;walk_at "rd";refine⟨a',b',nm,ps,1000000,rfl,T,⟨P.mono (by decide),G0 κ (by decide)⟩,P,(GL.tv_sx λn hn=>P.pos (ina n hn)).mpr sa,(GL.tv_sx λn hn=>P.pos (inb n hn)).mpr sb,?_⟩;walk_at "rd";rw[hK8];refine ag λK9 hK9=>?_;walk_at "rd";intro ka;walk_at "rd";rw[hK9];refine ag λK10 hK10=>?_;walk_at "rd";have ew:wipe [.dat (.fz (ns.map D.int)),.dat a'.D,.dat b'.D,.dat (.lst (ss.map D.str)),.dat (.tup [.str "point",.fd nm (ps.map GJ)]),.own ka (.dct nm (ps.map GJ))]=[.dat (.fz (ns.map D.int)),.dat a'.D,.dat b'.D,.dat (.lst (ss.map D.str)),.no,.own ka (.dct nm (ps.map GJ))]:=by
   simp only[wipe,vJ,List.map_cons,List.map_nil,D.nd,D.nds,D.ndo,GL.nd,kH,nK,lK,Bool.and_true,Bool.and_false,if_true,if_false,reduceCtorEq]
  rw[ew,hK10];walk_at "rd";refine⟨a',b',nm,64,4,rfl,T,?_⟩;rw[ep];walk_at "rd";exact⟨nm,ps.map GJ,rfl,rfl,T.nd,nK ps,by have:=rD ps;omega,q⟩
 ·rw[ew,<- Dn];walk_at "rd";refine GH (λz=>z rfl) ?_;walk_at "rd";rw[hK6];refine ag λK7 hK7=>?_;walk_at "rd";refine⟨a',b',nm,_,rfl,T.da,T.db,T.oa,T.ob,by omega,T.na.1,T.na.2,T.nb.1,T.nb.2,wv (n:=60000) (λc hc d hd z hz=>G0 ((sh c hc d hd).2 z hz) ?_),?_⟩
  ·exact G0 (Af nl) (by decide)
  ·rw[Df λc hc d hd=>(sh c hc d hd).1];refine⟨a',b',nm,64,4,rfl,T,?_⟩;rw[ew,<- Dn];walk_at "rd";have e1:=FU (ppW nm (a'.pl false).kr (b'.pl false).kr);have e2:=FV (ppW nm (a'.pl false).kr (b'.pl false).kr);generalize ppD (ppW nm (a'.pl false).kr (b'.pl false).kr)=d at e1 e2;exact⟨by show (true&&(d.nd&&true))=true;rw[e1];rfl,by show max 0 (max d.dp 0)<=60;omega,q⟩
end Lw
namespace Lw
open PySem L2 DL
theorem all_mk{l:PySem.W.OpenLaw}{w:World}{K:PySem.W.Frag}{h:Heap}{mg:Str->Option Value}{fa:Addr}(X:K.In h)(G:h.Ns mainGlobals mg)(hfa:mg "law"=some (.ref fa))(f:Hd.Facts K):∃fd:FuncData,(∀(s:Shared) (v:Value),BindsTo s fd ⟨[v],[]⟩ [("_law_script",v)])/\∀base:Heap,K.In base->base.Ns mainGlobals mg->kd l.prog w K mg base CX0 67 fa fd ["_law_script"] (BL K):=by
 obtain⟨⟨_,_,_,_,_,_,_,_,_,_,a,l1,c,k⟩⟩:=f.q52;obtain⟨_,gi_OPPOSITES,gl_OPPOSITES⟩:=f.g_OPPOSITES;obtain⟨_,gi_MOST_ROWS⟩:=f.g_MOST_ROWS;obtain⟨_,gi_MOST_CASES⟩:=f.g_MOST_CASES;obtain⟨_,_,_,_,gi_ENDLESS,gl_ENDLESS⟩:=f.g_ENDLESS;have e:=hfa.symm.trans (JA X G a)
 cases e
 have F:=yp (st:=s_law) l1 c k
 refine⟨_,?_,λbase _ _=>by exact AF (zC ⟨l.prog,w,K,mg,base,f.q0.fd2 X G λ_ _ _ _ _ _ _ _=>rfl,f.q1.fd2 X G λ_ _ _ _ _ _ _ _=>rfl,f.q2.fd2 X G λ_ _ _ _ _ _ _ _=>rfl,f.q3.fd2 X G λ_ _ _ _ _ _ _ _=>rfl,f.q4.fd2 X G λ_ _ _ _ _ _ _ _=>rfl,f.q5.fd1 X G λ_ _ _ _ _ _ _=>rfl,f.q6.fd2 X G λ_ _ _ _ _ _ _ _=>rfl,f.q7.fd1 X G λ_ _ _ _ _ _ _=>rfl,f.q8.fd2 X G λ_ _ _ _ _ _ _ _=>rfl,f.q9.fd2 X G λ_ _ _ _ _ _ _ _=>rfl,f.q10.fd3 X G λ_ _ _ _ _ _ _ _ _=>rfl,f.q11.fd3 X G λ_ _ _ _ _ _ _ _ _=>rfl,f.q12.fd2 X G λ_ _ _ _ _ _ _ _=>rfl,f.q13.fd1 X G λ_ _ _ _ _ _ _=>rfl,f.q14.fd2 X G λ_ _ _ _ _ _ _ _=>rfl,f.q15.fd1 X G λ_ _ _ _ _ _ _=>rfl,f.q16.fd2 X G λ_ _ _ _ _ _ _ _=>rfl,f.q17.fd2 X G λ_ _ _ _ _ _ _ _=>rfl,f.q18.fd2 X G λ_ _ _ _ _ _ _ _=>rfl,f.q19.fd1 X G λ_ _ _ _ _ _ _=>rfl,f.q20.fd2 X G λ_ _ _ _ _ _ _ _=>rfl,f.q21.fd2 X G λ_ _ _ _ _ _ _ _=>rfl,f.q22.fd1 X G λ_ _ _ _ _ _ _=>rfl,f.q23.fd1 X G λ_ _ _ _ _ _ _=>rfl,f.q24.fd3 X G λ_ _ _ _ _ _ _ _ _=>rfl,f.q25.fd4 X G λ_ _ _ _ _ _ _ _ _ _=>rfl,f.q26.fd2 X G λ_ _ _ _ _ _ _ _=>rfl,f.q27.fd3 X G λ_ _ _ _ _ _ _ _ _=>rfl,f.q28.fd3 X G λ_ _ _ _ _ _ _ _ _=>rfl,f.q29.fd1 X G λ_ _ _ _ _ _ _=>rfl,f.q30.fd3 X G λ_ _ _ _ _ _ _ _ _=>rfl,f.q31.fd3 X G λ_ _ _ _ _ _ _ _ _=>rfl,f.q32.fd2 X G λ_ _ _ _ _ _ _ _=>rfl,f.q33.fd2 X G λ_ _ _ _ _ _ _ _=>rfl,f.q34.fd1 X G λ_ _ _ _ _ _ _=>rfl,f.q35.fd1 X G λ_ _ _ _ _ _ _=>rfl,f.q36.fd2 X G λ_ _ _ _ _ _ _ _=>rfl,f.q37.fd2 X G λ_ _ _ _ _ _ _ _=>rfl,f.q38.fd2 X G λ_ _ _ _ _ _ _ _=>rfl,f.q39.fd1 X G λ_ _ _ _ _ _ _=>rfl,f.q40.fd2 X G λ_ _ _ _ _ _ _ _=>rfl,f.q41.fd3 X G λ_ _ _ _ _ _ _ _ _=>rfl,f.q42.fd2 X G λ_ _ _ _ _ _ _ _=>rfl,f.q43.fd1 X G λ_ _ _ _ _ _ _=>rfl,f.q44.fd2 X G λ_ _ _ _ _ _ _ _=>rfl,f.q45.fd2 X G λ_ _ _ _ _ _ _ _=>rfl,f.q46.fd2 X G λ_ _ _ _ _ _ _ _=>rfl,f.q47.fd3 X G λ_ _ _ _ _ _ _ _ _=>rfl,f.q48.fd1 X G λ_ _ _ _ _ _ _=>rfl,f.q49.fd2 X G λ_ _ _ _ _ _ _ _=>rfl,f.q50.fd1 X G λ_ _ _ _ _ _ _=>rfl,f.q51.fd3 X G λ_ _ _ _ _ _ _ _ _=>rfl,HF X G f.z0,HF X G f.z1,HF X G f.z2,HF X G f.z3,HF X G f.z4,HF X G f.z5,HF X G f.z6,HF X G f.z7,HF X G f.z8,HF X G f.z9,HF X G f.z10,HF X G f.z11,HF X G f.z12,HF X G f.z13,HF X G f.z14,⟨⟨_,JA X G gi_OPPOSITES,gl_OPPOSITES⟩⟩,⟨⟨_,JA X G gi_MOST_ROWS⟩⟩,⟨⟨_,JA X G gi_MOST_CASES⟩⟩,⟨⟨_,_,_,JA X G gi_ENDLESS,gl_ENDLESS,rfl,rfl⟩⟩⟩ F)⟩
 exact λs v=>.of_eq rfl
end Lw
open PySem PySem.W PyProof.Rows
theorem PySem.Challenge.cw_rowbetween_k31_both_so_holds : PySem.Challenge.rw_rowbetween_k31_both_so.Holds := by
 refine Hd.half λYP d K hY hdf hdn f=>?_;refine DL.walkB (l:=PySem.Challenge.rw_rowbetween_k31_both_so) (k:=67) (x:="_law_script") rfl hdf ⟨rfl,by decide,by decide⟩ hY λw mg fa h KX G hmg=>?_;rw[hdn] at hmg;exact Lw.all_mk KX G hmg (f w)
#print axioms PySem.Challenge.cw_rowbetween_k31_both_so_holds
