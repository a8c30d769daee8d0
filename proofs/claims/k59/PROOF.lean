import PyProof.Rows.All
import Wide.All
import OpenK.AllK
import Wide.FinOn
import Lean
import PyProof.EqAt
import PyProof.EqKinds
import PyProof.TupleCall
import KE.LcSums
import KE.KSortTup
import PySem.Challenge.RW_rowbetween_k59_whole_stretch_led_over
set_option Elab.async false
set_option linter.all false
set_option maxRecDepth 100000
set_option maxHeartbeats 4000000
set_option Elab.async false
set_option linter.all false
set_option maxRecDepth 100000
abbrev Za:=List (Int×Int)
abbrev Zb:=List PySem.Str
abbrev Zc:=List PySem.Value
abbrev Zd:=Option PySem.Value
abbrev Ze:=List Int
local macro_rules | `(tactic| walk_at "or") => `(tactic| (intro d0 R h; rcases d0 with _ | ⟨a, _ | ⟨b, _ | ⟨c, l⟩⟩⟩; exact False.elim h; (cases a <;> first | exact False.elim h | (repeat first | exact ⟨_, rfl, h⟩ | exact ⟨_, _, rfl, h⟩ | exact ⟨_, _, _, rfl, h⟩ | exact .inl ⟨_, rfl, h⟩ | exact .inl ⟨_, _, rfl, h⟩ | exact .inl ⟨_, _, _, rfl, h⟩ | apply Or.inr)); (cases a <;> first | exact False.elim h | (cases b <;> first | exact False.elim h | (repeat first | exact ⟨_, rfl, h⟩ | exact ⟨_, _, rfl, h⟩ | exact ⟨_, _, _, rfl, h⟩ | exact .inl ⟨_, rfl, h⟩ | exact .inl ⟨_, _, rfl, h⟩ | exact .inl ⟨_, _, _, rfl, h⟩ | apply Or.inr))); (cases a <;> first | exact False.elim h | (cases b <;> exact False.elim h))))
local macro_rules | `(tactic| walk_at "v3") => `(tactic| first | exact Or.inl rfl | exact Or.inr (Or.inl rfl) | exact Or.inr (Or.inr rfl))
local macro_rules | `(tactic| walk_at "v2") => `(tactic| first | exact Or.inl rfl | exact Or.inr rfl)
local macro_rules | `(tactic| walk_at "v1") => `(tactic| first | exact .inl rfl | exact .inr rfl | assumption)
def Fy:=@List.length_map
def Fz:=@List.mem_cons_of_mem
def FA:=@PySem.wpAny_bind
def FB:=@Nat.le_trans
def FC:=@List.mem_map
def FD:=@List.mem_cons_self
def FE:=@Classical.byContradiction
def FF:=@List.length_append
def FG:=@Bool.false_ne_true
def FH:=@Nat.le_refl
def FI:=@List.mem_filter
def FJ:=@List.mem_cons
def FK:=@List.size_toArray
def FL:=@List.length_cons
def FM:=@List.mem_of_getElem?
def FN:=@if_neg
def FP:=@if_pos
def FQ:=@PySem.wpAny_pure
def FR:=@List.mem_append_right
def FT:=@PySem.Heap.lt_size
def FU:=@Option.some.inj
def FV:=@List.mem_append
def FW:=@Rat.intCast_mul
def FX:=@List.length_replicate
def FY:=@PySem.PassesOwn.never
def FZ:=@List.take_length
def F0:=@List.filter_cons_of_neg
def F1:=@List.mem_singleton
def F3:=@List.map_append
def F4:=@List.mem_append_left
def F5:=@decide_eq_false
def F6:=@decide_eq_true
def F7:=@List.map_cons
def F8:=@PySem.intBits_mul_le
def F9:=@Nat.lt_of_lt_of_le
def Ga:=@Rat.mul_nonneg
def Gb:=@Nat.ne_of_lt
def Gc:=@List.filter_cons_of_pos
def Gd:=@PySem.W.mg_none_of
def Ge:=@List.length_take
def Gg:=@List.length_singleton
def Gh:=@Int.fmod_nonneg_of_pos
def Gi:=@PySem.W.kia_one
def Gj:=@List.append_nil
def Gk:=@List.of_mem_zip
def Gm:=@List.length_filter_le
def Gn:=@List.filterMap_cons
def Gp:=@Bool.and_eq_true_iff
def Gq:=@Nat.lt_irrefl
def Gr:=@PyProof.Rows.slot_tuple_getitem
def Gs:=@List.length_set
def Gu:=@Int.mul_ne_zero
def Gv:=@Rat.intCast_sub
def Gw:=@Int.mul_left_comm
def Gx:=@Rat.mul_pos
def Gy:=@Int.fmod_lt_of_pos
def Gz:=@List.nodup_cons
def GA:=@PySem.intBits_fdiv_le
def GB:=@PySem.wpAny_holding
def GC:=@List.map_map
def GD:=@Rat.mul_eq_zero
def GE:=@PyProof.Rows.callWith_type1
def GF:=@PySem.wpAny_field
def GG:=@Int.mul_comm
def GH:=@Rat.intCast_lt_intCast
def GI:=@PySem.wpAny_mono
def GJ:=@PySem.wpAny_newObj_type
def GK:=@Nat.lt_succ_of_lt
def GL:=@List.mem_range
def GM:=@Rat.intCast_add
def GN:=@Nat.zero_le
def GO:=@PySem.wpAny_call_entry
def GP:=@List.mem_of_mem_take
def GQ:=@congrArg
def GR:=@PySem.Heap.size_push
def GS:=@PySem.intBits_neg_le
def GT:=@PySem.wpAny_truthy_bool
def GU:=@Bool.eq_iff_iff
def GV:=@List.length_zip
def GW:=@PySem.F.slot_tuple_iterator_next
def GX:=@List.getElem_mem
def GY:=@PySem.wpAny_setField_rec
def GZ:=@PySem.wpAny_seqItems
def G0:=@PySem.intBits_add_le
def G1:=@PySem.wpAny_passesOwn
def G2:=@List.length_range
def G3:=@Nat.lt_trichotomy
def G4:=@List.length_filterMap_le
def G5:=@Nat.le_of_lt
def G6:=@PySem.mem_of_lookup
def G7:=@Int.fdiv_mul_cancel
def G8:=@List.length_drop
def G9:=@List.eq_nil_of_length_eq_zero
def Ha:=@PySem.SeqAt.EqAt.int_int
def Hb:=@PySem.tupleKind_room_in1
def Hc:=@List.map_nil
def He:=@Nat.succ.inj
def Hf:=@Int.zero_add
def Hg:=@Int.dvd_gcd_mul_iff_dvd_mul
def Hh:=@PySem.wpAny_pyIter_list
def Hi:=@Int.toNat_natCast
def Hj:=@of_decide_eq_true
def Hk:=@List.foldl_append
def Hl:=@Ne.symm
def Hm:=@Nat.pow_le_pow_right
def Hn:=@List.take_zero
def Ho:=@PySem.Calls.call_function_entry
def Hr:=@List.drop_eq_getElem_cons
def Hs:=@Nat.le_add_right
def Ht:=@Array.length_toList
def Hu:=@List.length_reverse
def Hv:=@Nat.ne_of_gt
def Hw:=@Int.fmod_def
def Hx:=@Int.add_zero
def Hy:=@Int.mul_fdiv_cancel_left
def Hz:=@Int.le_of_lt
def HA:=@Nat.lt_asymm
def HB:=@List.mem_filterMap
def HC:=@PySem.SeqAt.EqAt.same
def HD:=@PySem.SeqAt.EqAt.str_str
def HE:=@List.any_cons
def HF:=@List.length_eq_zero_iff
def HG:=@Nat.lt_of_le_of_lt
def HH:=@PySem.SeqAt.EqAt.of_refs
def HI:=@Int.mul_assoc
def HJ:=@PySem.W.mg_of
def HK:=@Rat.intCast_inj
def HL:=@List.foldl_cons
def HM:=@Nat.exists_eq_add_of_le
def HN:=@Option.map_eq_some_iff
def HP:=@List.zipWith_cons_cons
def HQ:=@List.take_of_length_le
def HR:=@PySem.W.kitx_dict
def HS:=@List.append_assoc
def HU:=@Nat.mul_add
def HV:=@PySem.F.slot_dict_get
def HW:=@Bool.beq_eq_decide_eq
def HX:=@Nat.succ_pos
def HY:=@Nat.le_div_iff_mul_le
def HZ:=@List.map_zipWith
def Ia:=@PySem.wpAny_updateSeq_pair
def Ib:=@PySem.wpAny_standAt
def Ic:=@beq_eq_false_iff_ne
def Ie:=@PySem.wpAny_execs_nil
def Ig:=@PySem.F.slot_zip_next
def Ih:=@Nat.min_eq_left
def Ii:=@Nat.mul_comm
def Ij:=@Decidable.not_not
set_option compiler.extract_closed false
set_option genSizeOf false
set_option bootstrap.genMatcherCode false
namespace L2
open PySem
def c0(s:Stmt):Arguments:=match s with
 | .FunctionDef _ a _ _ _ _ _ _ _ _=>a
 | _=>{ posonlyargs:=[],args:=[],vararg:=none,kwonlyargs:=[],kw_defaults:=[],kwarg:=none,defaults:=[] }
def bG(s:Stmt):List Stmt:=match s with
 | .FunctionDef _ _ b _ _ _ _ _ _ _=>b
 | _=>[]
def am(s:Stmt):Scope:=match s with
 | .FunctionDef _ _ _ _ _ _ sc _ _ _=>sc
 | _=>{ kind:=.function,names:=[],isGenerator:=false,isCoroutine:=false }
end L2
namespace DL
open PySem PySem.Spec PyProof.Rows L2
def txt(D:List (Str×Str)):List (Str×KTD.Dat):=D.map λp=>(p.1,KTD.Dat.flat (.str p.2))
structure FdK(K:PySem.W.Frag)(x:Str)(st:Stmt):Prop where
 ex:∃(f:Addr) (oc:Value) (od an:Option Addr) (sl:Array (Zd)) (kV dc pm cd ct:Value),PySem.W.nsIn K mainGlobals x=some (some (.ref f))/\K.lookup f=some ⟨oc,od,.func (PySem.W.fnOf x x (c0 st) (bG st) (am st) .none kV dc pm an cd ct),sl⟩/\PySem.W.codeIn K cd x=true/\PySem.W.keepIn K (.ref f)=true
end DL
namespace Lw
open PySem L2 DL
def top(i:Nat):Stmt:=PySem.Challenge.pw_rowbetween_k59_whole_stretch_led_over.main.body.getD i (.Pass ⟨0,0,0,0⟩)
abbrev s_common_divisor:Stmt:=top 6
abbrev s_made:Stmt:=top 7
abbrev s_less:Stmt:=top 8
abbrev s_is_row:Stmt:=top 19
abbrev s_mark_names:Stmt:=top 20
abbrev s_names_of:Stmt:=top 21
abbrev s_tops_of:Stmt:=top 22
abbrev s_top_of_sum:Stmt:=top 23
abbrev s_row_is_so:Stmt:=top 24
abbrev s_part_is_so:Stmt:=top 25
abbrev s_is_so:Stmt:=top 26
abbrev s_contrary:Stmt:=top 27
abbrev s_plain_part:Stmt:=top 28
abbrev s_plain:Stmt:=top 29
abbrev s__law_cell:Stmt:=top 46
abbrev s_put_together:Stmt:=top 30
abbrev s_cases_within:Stmt:=top 31
abbrev s_cases:Stmt:=top 32
abbrev s_added:Stmt:=top 34
abbrev s_weight_of:Stmt:=top 35
abbrev s_alone:Stmt:=top 36
abbrev s_shortened:Stmt:=top 37
abbrev s_crossed:Stmt:=top 38
abbrev s_without:Stmt:=top 39
abbrev s_taken_out:Stmt:=top 40
abbrev s_bound_on:Stmt:=top 41
abbrev s_tighter:Stmt:=top 11
abbrev s_piece_for:Stmt:=top 42
abbrev s_wider:Stmt:=top 12
abbrev s_lies_below:Stmt:=top 13
abbrev s_put_in:Stmt:=top 14
abbrev s_stretch:Stmt:=top 44
abbrev s__law_common:Stmt:=top 47
abbrev s__law_is_fraction:Stmt:=top 48
abbrev s__law_purse:Stmt:=top 58
abbrev s__law_take:Stmt:=top 59
abbrev s__law_less:Stmt:=top 49
abbrev s__law_lowest:Stmt:=top 50
abbrev s__law_sorted:Stmt:=top 51
abbrev s__law_spots:Stmt:=top 52
abbrev s__law_is_end:Stmt:=top 53
abbrev s__law_follows:Stmt:=top 54
abbrev s__law_are_pieces:Stmt:=top 55
abbrev s__law_lies_in:Stmt:=top 56
abbrev s__law_ends:Stmt:=top 57
abbrev s__law_row:Stmt:=top 60
abbrev s__law_terms:Stmt:=top 61
abbrev s__law_tie:Stmt:=top 63
abbrev s__law_tied:Stmt:=top 62
abbrev s__law_true:Stmt:=top 64
abbrev s__law_good:Stmt:=top 65
abbrev s_law:Stmt:=top 66
end Lw
namespace Hd
open PySem PySem.W PyProof.Rows
set_option maxRecDepth 100000
set_option maxHeartbeats 0
def kept(i:Nat):Stmt:=PySem.Challenge.pw_rowbetween_k59_whole_stretch_led_over.main.body.getD i (.Pass ⟨0,0,0,0⟩)
def vw:Program:={ PySem.Challenge.pw_rowbetween_k59_whole_stretch_led_over with main:={ PySem.Challenge.pw_rowbetween_k59_whole_stretch_led_over.main with body:=[kept 1,kept 2,kept 3,kept 4,kept 6,kept 7,kept 8,kept 10,kept 11,kept 12,kept 13,kept 14,kept 16,kept 17,kept 18,kept 19,kept 20,kept 21,kept 22,kept 23,kept 24,kept 25,kept 26,kept 27,kept 28,kept 29,kept 30,kept 31,kept 32,kept 34,kept 35,kept 36,kept 37,kept 38,kept 39,kept 40,kept 41,kept 42,kept 44,kept 46,kept 47,kept 48,kept 49,kept 50,kept 51,kept 52,kept 53,kept 54,kept 55,kept 56,kept 57,kept 58,kept 59,kept 60,kept 61,kept 62,kept 63,kept 64,kept 65,kept 66] } }
def xt(s:Shared):Bool:=xlAt vw [] s&&recOk (RowW.records (OpenRow.toRowW PySem.Challenge.rw_rowbetween_k59_whole_stretch_led_over.row)) s
noncomputable def st0 (w:World) (os:OsState):Shared:=⟨boot_heap w.params,#[],boot_drawn,boot_toks,os⟩
noncomputable def rn (w:World) (os:OsState):=(topRun treeTable PySem.Challenge.pw_rowbetween_k59_whole_stretch_led_over w 11 (some (Value.ref 6)) 5458 (st0 w os) (topStub PySem.Challenge.pw_rowbetween_k59_whole_stretch_led_over))
theorem said:PySem.W.OpenLaw.wellSaid PySem.Challenge.rw_rowbetween_k59_whole_stretch_led_over=true:=by
 rw[PySem.W.Fast.te9446332074065402090]
 kernel_rfl
local macro_rules | `(tactic| walk_at "hf") => `(tactic| (unfold Hd.rn Hd.st0; (try rw [PySem.W.Fast.te14082659384304107361]); (try rw [PySem.W.Fast.te14364793385576792824]); (try rw [PySem.W.Fast.te5160383126252970620]); (try rw [PySem.W.Fast.te10880121769531294198]); (try rw [PySem.W.Fast.te14722251495701143533]); (try rw [PySem.W.Fast.te10994771534591457954]); (try rw [PySem.W.Fast.te479339242167458305]); (try rw [PySem.W.Fast.te16090120013241838585]); (try rw [PySem.W.Fast.te2386780881361962483]); (try rw [PySem.W.Fast.te11698064438423848299]); (try rw [PySem.W.Fast.te7317090234206586261]); (try rw [PySem.W.Fast.te7369524293546568484]); (try rw [PySem.W.Fast.te821141287760084731]); (try rw [PySem.W.Fast.te3399658132070893891]); (try rw [PySem.W.Fast.te7409074990110511671]); (try rw [PySem.W.Fast.te13664370479719496447]); (try rw [PySem.W.Fast.te5991557255702980513]); (try rw [PySem.W.Fast.te3247288618530077131]); (try rw [PySem.W.Fast.te5923862056798008813]); kernel_rfl))
theorem eo{σ α β:Type}{o:Option σ}{f:σ->α}{g:σ->β}{x:α}{y:β}(a:o.map f=some x)(b:o.map g=some y):o.map (λs=>(f s,g s))=some (x,y):=by
 cases o with
 | none=>cases a
 | some s=>cases a;cases b;rfl
theorem oA{σ α β:Type}{o:Option σ}{f:σ->α}{g:σ->β}{x:α}{y:β}(a:o.map (λs=>(f s,g s))=some (x,y)):o.map f=some x:=by
 cases o with
 | none=>cases a
 | some s=>cases a;rfl
theorem gJ{σ α β:Type}{o:Option σ}{f:σ->α}{g:σ->β}{x:α}{y:β}(a:o.map (λs=>(f s,g s))=some (x,y)):o.map g=some y:=by
 cases o with
 | none=>cases a
 | some s=>cases a;rfl
theorem left{α:Type}{Yf:Shared->α}{Ya:World->α}(go:∀(w:World) (os:OsState),(rn w os).map (λs=>(staticsOk (importedModules PySem.Challenge.pw_rowbetween_k59_whole_stretch_led_over.main.body) (boot_heap w.params) s.heap&&namesBound PySem.Challenge.pw_rowbetween_k59_whole_stretch_led_over s.heap&&gensDone s&&laidKept (boot_heap w.params) s.heap,openSeen vw ["OPPOSITES"] (importedModules PySem.Challenge.pw_rowbetween_k59_whole_stretch_led_over.main.body) xt true s,Yf s))=some (true,openGood vw ["OPPOSITES"],Ya w)):LeftO PySem.Challenge.pw_rowbetween_k59_whole_stretch_led_over vw ["OPPOSITES"] xt Yf Ya 5458 true:=λw=>by
 obtain⟨⟨h,gs,d,k,os⟩,e1,e2⟩:=HN.mp (boot_open (p:=PySem.Challenge.pw_rowbetween_k59_whole_stretch_led_over) (N:=5458) (by kernel_rfl) (by decide) (λs=>rfl) w);obtain⟨rfl,rfl,rfl,rfl⟩:h=boot_heap w.params/\gs=#[]/\d=boot_drawn/\k=boot_toks:=by simpa using e2
 have size:((boot_heap w.params).isNs mainGlobals,(boot_heap w.params).objs.size,(boot_heap w.params).nsMap mainGlobals "__annotations__")=(true,11,some (Value.ref 6)):=by kernel_rfl
 simp only[Prod.mk.injEq] at size;obtain⟨z1,z2,z3⟩:=size;obtain⟨s,r1,r2⟩:=HN.mp (go w os);simp only[Prod.mk.injEq] at r2;obtain⟨l1,l2,l3⟩:=r2;unfold openEnds;rw[e1];show (topFrom treeTable PySem.Challenge.pw_rowbetween_k59_whole_stretch_led_over w 5458 (st0 w os)).map _=_;have t:topFrom treeTable PySem.Challenge.pw_rowbetween_k59_whole_stretch_led_over w 5458 (st0 w os)=some s:=by
  unfold topFrom;rw[show (st0 w os).heap=boot_heap w.params from rfl,z1,z2,z3];unfold rn at r1;rw[r1];show (match _&&_&&_&&_ with | true=>_ | false=>_)=_;rw[l1]
 rw[t];exact GQ some (Prod.ext (by exact l2) (by exact l3))
theorem twoRows{α:Type}{Yf:Shared->α}{Ya:World->α}(row:String)(a:∀(w:World) (os:OsState),(rn (w.withFollow row false) os).map (λs=>(staticsOk (importedModules PySem.Challenge.pw_rowbetween_k59_whole_stretch_led_over.main.body) (boot_heap (w.withFollow row false).params) s.heap&&namesBound PySem.Challenge.pw_rowbetween_k59_whole_stretch_led_over s.heap&&gensDone s&&laidKept (boot_heap (w.withFollow row false).params) s.heap,openSeen vw ["OPPOSITES"] (importedModules PySem.Challenge.pw_rowbetween_k59_whole_stretch_led_over.main.body) xt true s,Yf s))=some (true,openGood vw ["OPPOSITES"],Ya (w.withFollow row false)))(b:∀(w:World) (os:OsState),(rn (w.withFollow row true) os).map (λs=>(staticsOk (importedModules PySem.Challenge.pw_rowbetween_k59_whole_stretch_led_over.main.body) (boot_heap (w.withFollow row true).params) s.heap&&namesBound PySem.Challenge.pw_rowbetween_k59_whole_stretch_led_over s.heap&&gensDone s&&laidKept (boot_heap (w.withFollow row true).params) s.heap,openSeen vw ["OPPOSITES"] (importedModules PySem.Challenge.pw_rowbetween_k59_whole_stretch_led_over.main.body) xt true s,Yf s))=some (true,openGood vw ["OPPOSITES"],Ya (w.withFollow row true))):∀(w:World) (os:OsState),(rn w os).map (λs=>(staticsOk (importedModules PySem.Challenge.pw_rowbetween_k59_whole_stretch_led_over.main.body) (boot_heap w.params) s.heap&&namesBound PySem.Challenge.pw_rowbetween_k59_whole_stretch_led_over s.heap&&gensDone s&&laidKept (boot_heap w.params) s.heap,openSeen vw ["OPPOSITES"] (importedModules PySem.Challenge.pw_rowbetween_k59_whole_stretch_led_over.main.body) xt true s,Yf s))=some (true,openGood vw ["OPPOSITES"],Ya w) :=
 byRow2 row (P:=λw=>∀os:OsState,(rn w os).map (λs=>(staticsOk (importedModules PySem.Challenge.pw_rowbetween_k59_whole_stretch_led_over.main.body) (boot_heap w.params) s.heap&&namesBound PySem.Challenge.pw_rowbetween_k59_whole_stretch_led_over s.heap&&gensDone s&&laidKept (boot_heap w.params) s.heap,openSeen vw ["OPPOSITES"] (importedModules PySem.Challenge.pw_rowbetween_k59_whole_stretch_led_over.main.body) xt true s,Yf s))=some (true,openGood vw ["OPPOSITES"],Ya w)) a b
theorem oX(w:World)(os:OsState):(rn (w.withFollow "special-get-raises" false) os).map (λs=>(staticsOk (importedModules PySem.Challenge.pw_rowbetween_k59_whole_stretch_led_over.main.body) (boot_heap (w.withFollow "special-get-raises" false).params) s.heap&&namesBound PySem.Challenge.pw_rowbetween_k59_whole_stretch_led_over s.heap&&gensDone s&&laidKept (boot_heap (w.withFollow "special-get-raises" false).params) s.heap,seen ((recsOf vw).map (·.name)) (ownsOf vw) [] { s with gens:=#[] },s.heap.bltView,s.heap.keysOk (looseW vw ["OPPOSITES"]) ((recsOf vw).map (·.name)) ((litsOf vw).map (·.1)) ((clssOf vw (looseW vw ["OPPOSITES"])).map (·.name))&&s.heap.accountedOkI (importedModules PySem.Challenge.pw_rowbetween_k59_whole_stretch_led_over.main.body)&&s.heap.isNs mainGlobals&&s.heap.isNs builtinsNs&&tablesOk vw s.heap&&xt s&&(if true then s.gens.size==0 else !leftWithCleanup s.gens)))=some ((true),(expectedOf vw),(bltViewBooted),(true)):=by
 (refine eo ?_ (eo ?_ (eo ?_ ?_)));(focus (walk_at "hf"));(focus (walk_at "hf"));(focus (walk_at "hf"));(focus (walk_at "hf"))
theorem zv(w:World)(os:OsState):(rn (w.withFollow "special-get-raises" false) os).map (λs=>staticsOk (importedModules PySem.Challenge.pw_rowbetween_k59_whole_stretch_led_over.main.body) (boot_heap (w.withFollow "special-get-raises" false).params) s.heap&&namesBound PySem.Challenge.pw_rowbetween_k59_whole_stretch_led_over s.heap&&gensDone s&&laidKept (boot_heap (w.withFollow "special-get-raises" false).params) s.heap)=some (true):=(oA (oX w os))
theorem yk(w:World)(os:OsState):(rn (w.withFollow "special-get-raises" false) os).map (λs=>seen ((recsOf vw).map (·.name)) (ownsOf vw) [] { s with gens:=#[] })=some (expectedOf vw):=(oA (gJ (oX w os)))
theorem zF(w:World)(os:OsState):(rn (w.withFollow "special-get-raises" false) os).map (λs=>s.heap.bltView)=some (bltViewBooted):=(oA (gJ (gJ (oX w os))))
theorem y8(w:World)(os:OsState):(rn (w.withFollow "special-get-raises" false) os).map (λs=>s.heap.keysOk (looseW vw ["OPPOSITES"]) ((recsOf vw).map (·.name)) ((litsOf vw).map (·.1)) ((clssOf vw (looseW vw ["OPPOSITES"])).map (·.name))&&s.heap.accountedOkI (importedModules PySem.Challenge.pw_rowbetween_k59_whole_stretch_led_over.main.body)&&s.heap.isNs mainGlobals&&s.heap.isNs builtinsNs&&tablesOk vw s.heap&&xt s&&(if true then s.gens.size==0 else !leftWithCleanup s.gens))=some (true):=(gJ (gJ (gJ (oX w os))))
theorem sS(w:World)(os:OsState):(rn (w.withFollow "special-get-raises" false) os).map (λs=>(tabsOk vw s,pinSeenD vw (drecsOf vw) s,plainSeenE vw (looseW vw ["OPPOSITES"]) s))=some ((true),(pinGoodD (drecsOf vw)),(plainGoodE vw (looseW vw ["OPPOSITES"]))):=by
 (refine eo ?_ (eo ?_ ?_));(focus (walk_at "hf"));(focus (walk_at "hf"));(focus (walk_at "hf"))
theorem yG(w:World)(os:OsState):(rn (w.withFollow "special-get-raises" false) os).map (λs=>tabsOk vw s)=some (true):=(oA (sS w os))
theorem Aw(w:World)(os:OsState):(rn (w.withFollow "special-get-raises" false) os).map (λs=>pinSeenD vw (drecsOf vw) s)=some (pinGoodD (drecsOf vw)):=(oA (gJ (sS w os)))
theorem Ac(w:World)(os:OsState):(rn (w.withFollow "special-get-raises" false) os).map (λs=>plainSeenE vw (looseW vw ["OPPOSITES"]) s)=some (plainGoodE vw (looseW vw ["OPPOSITES"])):=(gJ (gJ (sS w os)))
theorem rF(w:World)(os:OsState):(rn (w.withFollow "special-get-raises" false) os).map (λs=>(plainSeenD vw ["OPPOSITES"] s,wideSeen vw s,clsSeenW vw ["OPPOSITES"] s))=some ((plainGoodD vw ["OPPOSITES"]),(wideGood vw),(clsGoodW vw ["OPPOSITES"])):=by
 (refine eo ?_ (eo ?_ ?_));(focus (walk_at "hf"));(focus (walk_at "hf"));(focus (walk_at "hf"))
theorem xK(w:World)(os:OsState):(rn (w.withFollow "special-get-raises" false) os).map (λs=>plainSeenD vw ["OPPOSITES"] s)=some (plainGoodD vw ["OPPOSITES"]):=(oA (rF w os))
theorem zS(w:World)(os:OsState):(rn (w.withFollow "special-get-raises" false) os).map (λs=>wideSeen vw s)=some (wideGood vw):=(oA (gJ (rF w os)))
theorem xW(w:World)(os:OsState):(rn (w.withFollow "special-get-raises" false) os).map (λs=>clsSeenW vw ["OPPOSITES"] s)=some (clsGoodW vw ["OPPOSITES"]):=(gJ (gJ (rF w os)))
theorem xP(w:World)(os:OsState):(rn (w.withFollow "special-get-raises" false) os).map (λs=>openSeen vw ["OPPOSITES"] (importedModules PySem.Challenge.pw_rowbetween_k59_whole_stretch_led_over.main.body) xt true s)=some (openGood vw ["OPPOSITES"]):=(eo (yk w os) (eo (zF w os) (eo (y8 w os) (eo (yG w os) (eo (Aw w os) (eo (Ac w os) (eo (xK w os) (eo (zS w os) (xW w os)))))))))
theorem all_a{α:Type}{Yf:Shared->α}{Ya:World->α}(h:∀(w:World) (os:OsState),(rn (w.withFollow "special-get-raises" false) os).map (λs=>Yf s)=some (Ya (w.withFollow "special-get-raises" false)))(w:World)(os:OsState) :
  (rn (w.withFollow "special-get-raises" false) os).map (λs=>(staticsOk (importedModules PySem.Challenge.pw_rowbetween_k59_whole_stretch_led_over.main.body) (boot_heap (w.withFollow "special-get-raises" false).params) s.heap&&namesBound PySem.Challenge.pw_rowbetween_k59_whole_stretch_led_over s.heap&&gensDone s&&laidKept (boot_heap (w.withFollow "special-get-raises" false).params) s.heap,openSeen vw ["OPPOSITES"] (importedModules PySem.Challenge.pw_rowbetween_k59_whole_stretch_led_over.main.body) xt true s,Yf s))=some (true,openGood vw ["OPPOSITES"],Ya (w.withFollow "special-get-raises" false)):=eo (zv w os) (eo (xP w os) (h w os))
theorem pL(w:World)(os:OsState):(rn (w.withFollow "special-get-raises" true) os).map (λs=>(staticsOk (importedModules PySem.Challenge.pw_rowbetween_k59_whole_stretch_led_over.main.body) (boot_heap (w.withFollow "special-get-raises" true).params) s.heap&&namesBound PySem.Challenge.pw_rowbetween_k59_whole_stretch_led_over s.heap&&gensDone s&&laidKept (boot_heap (w.withFollow "special-get-raises" true).params) s.heap,seen ((recsOf vw).map (·.name)) (ownsOf vw) [] { s with gens:=#[] },s.heap.bltView,s.heap.keysOk (looseW vw ["OPPOSITES"]) ((recsOf vw).map (·.name)) ((litsOf vw).map (·.1)) ((clssOf vw (looseW vw ["OPPOSITES"])).map (·.name))&&s.heap.accountedOkI (importedModules PySem.Challenge.pw_rowbetween_k59_whole_stretch_led_over.main.body)&&s.heap.isNs mainGlobals&&s.heap.isNs builtinsNs&&tablesOk vw s.heap&&xt s&&(if true then s.gens.size==0 else !leftWithCleanup s.gens)))=some ((true),(expectedOf vw),(bltViewBooted),(true)):=by
 (refine eo ?_ (eo ?_ (eo ?_ ?_)));(focus (walk_at "hf"));(focus (walk_at "hf"));(focus (walk_at "hf"));(focus (walk_at "hf"))
theorem zm(w:World)(os:OsState):(rn (w.withFollow "special-get-raises" true) os).map (λs=>staticsOk (importedModules PySem.Challenge.pw_rowbetween_k59_whole_stretch_led_over.main.body) (boot_heap (w.withFollow "special-get-raises" true).params) s.heap&&namesBound PySem.Challenge.pw_rowbetween_k59_whole_stretch_led_over s.heap&&gensDone s&&laidKept (boot_heap (w.withFollow "special-get-raises" true).params) s.heap)=some (true):=(oA (pL w os))
theorem Ap(w:World)(os:OsState):(rn (w.withFollow "special-get-raises" true) os).map (λs=>seen ((recsOf vw).map (·.name)) (ownsOf vw) [] { s with gens:=#[] })=some (expectedOf vw):=(oA (gJ (pL w os)))
theorem yY(w:World)(os:OsState):(rn (w.withFollow "special-get-raises" true) os).map (λs=>s.heap.bltView)=some (bltViewBooted):=(oA (gJ (gJ (pL w os))))
theorem yZ(w:World)(os:OsState):(rn (w.withFollow "special-get-raises" true) os).map (λs=>s.heap.keysOk (looseW vw ["OPPOSITES"]) ((recsOf vw).map (·.name)) ((litsOf vw).map (·.1)) ((clssOf vw (looseW vw ["OPPOSITES"])).map (·.name))&&s.heap.accountedOkI (importedModules PySem.Challenge.pw_rowbetween_k59_whole_stretch_led_over.main.body)&&s.heap.isNs mainGlobals&&s.heap.isNs builtinsNs&&tablesOk vw s.heap&&xt s&&(if true then s.gens.size==0 else !leftWithCleanup s.gens))=some (true):=(gJ (gJ (gJ (pL w os))))
theorem tW(w:World)(os:OsState):(rn (w.withFollow "special-get-raises" true) os).map (λs=>(tabsOk vw s,pinSeenD vw (drecsOf vw) s,plainSeenE vw (looseW vw ["OPPOSITES"]) s))=some ((true),(pinGoodD (drecsOf vw)),(plainGoodE vw (looseW vw ["OPPOSITES"]))):=by
 (refine eo ?_ (eo ?_ ?_));(focus (walk_at "hf"));(focus (walk_at "hf"));(focus (walk_at "hf"))
theorem Ag(w:World)(os:OsState):(rn (w.withFollow "special-get-raises" true) os).map (λs=>tabsOk vw s)=some (true):=(oA (tW w os))
theorem zg(w:World)(os:OsState):(rn (w.withFollow "special-get-raises" true) os).map (λs=>pinSeenD vw (drecsOf vw) s)=some (pinGoodD (drecsOf vw)):=(oA (gJ (tW w os)))
theorem An(w:World)(os:OsState):(rn (w.withFollow "special-get-raises" true) os).map (λs=>plainSeenE vw (looseW vw ["OPPOSITES"]) s)=some (plainGoodE vw (looseW vw ["OPPOSITES"])):=(gJ (gJ (tW w os)))
theorem rH(w:World)(os:OsState):(rn (w.withFollow "special-get-raises" true) os).map (λs=>(plainSeenD vw ["OPPOSITES"] s,wideSeen vw s,clsSeenW vw ["OPPOSITES"] s))=some ((plainGoodD vw ["OPPOSITES"]),(wideGood vw),(clsGoodW vw ["OPPOSITES"])):=by
 (refine eo ?_ (eo ?_ ?_));(focus (walk_at "hf"));(focus (walk_at "hf"));(focus (walk_at "hf"))
theorem zn(w:World)(os:OsState):(rn (w.withFollow "special-get-raises" true) os).map (λs=>plainSeenD vw ["OPPOSITES"] s)=some (plainGoodD vw ["OPPOSITES"]):=(oA (rH w os))
theorem AF(w:World)(os:OsState):(rn (w.withFollow "special-get-raises" true) os).map (λs=>wideSeen vw s)=some (wideGood vw):=(oA (gJ (rH w os)))
theorem yX(w:World)(os:OsState):(rn (w.withFollow "special-get-raises" true) os).map (λs=>clsSeenW vw ["OPPOSITES"] s)=some (clsGoodW vw ["OPPOSITES"]):=(gJ (gJ (rH w os)))
theorem yQ(w:World)(os:OsState):(rn (w.withFollow "special-get-raises" true) os).map (λs=>openSeen vw ["OPPOSITES"] (importedModules PySem.Challenge.pw_rowbetween_k59_whole_stretch_led_over.main.body) xt true s)=some (openGood vw ["OPPOSITES"]):=(eo (Ap w os) (eo (yY w os) (eo (yZ w os) (eo (Ag w os) (eo (zg w os) (eo (An w os) (eo (zn w os) (eo (AF w os) (yX w os)))))))))
theorem all_b{α:Type}{Yf:Shared->α}{Ya:World->α}(h:∀(w:World) (os:OsState),(rn (w.withFollow "special-get-raises" true) os).map (λs=>Yf s)=some (Ya (w.withFollow "special-get-raises" true)))(w:World)(os:OsState) :
  (rn (w.withFollow "special-get-raises" true) os).map (λs=>(staticsOk (importedModules PySem.Challenge.pw_rowbetween_k59_whole_stretch_led_over.main.body) (boot_heap (w.withFollow "special-get-raises" true).params) s.heap&&namesBound PySem.Challenge.pw_rowbetween_k59_whole_stretch_led_over s.heap&&gensDone s&&laidKept (boot_heap (w.withFollow "special-get-raises" true).params) s.heap,openSeen vw ["OPPOSITES"] (importedModules PySem.Challenge.pw_rowbetween_k59_whole_stretch_led_over.main.body) xt true s,Yf s))=some (true,openGood vw ["OPPOSITES"],Ya (w.withFollow "special-get-raises" true)):=eo (zm w os) (eo (yQ w os) (h w os))
end Hd
structure Hd.Facts(K:PySem.W.Frag):Prop where
 q0:DL.FdK K "common_divisor" Lw.s_common_divisor
 q1:DL.FdK K "made" Lw.s_made
 q2:DL.FdK K "less" Lw.s_less
 q3:DL.FdK K "is_row" Lw.s_is_row
 q4:DL.FdK K "mark_names" Lw.s_mark_names
 q5:DL.FdK K "names_of" Lw.s_names_of
 q6:DL.FdK K "tops_of" Lw.s_tops_of
 q7:DL.FdK K "top_of_sum" Lw.s_top_of_sum
 q8:DL.FdK K "row_is_so" Lw.s_row_is_so
 q9:DL.FdK K "part_is_so" Lw.s_part_is_so
 q10:DL.FdK K "is_so" Lw.s_is_so
 q11:DL.FdK K "contrary" Lw.s_contrary
 q12:DL.FdK K "plain_part" Lw.s_plain_part
 q13:DL.FdK K "plain" Lw.s_plain
 q14:DL.FdK K "_law_cell" Lw.s__law_cell
 q15:DL.FdK K "put_together" Lw.s_put_together
 q16:DL.FdK K "cases_within" Lw.s_cases_within
 q17:DL.FdK K "cases" Lw.s_cases
 q18:DL.FdK K "added" Lw.s_added
 q19:DL.FdK K "weight_of" Lw.s_weight_of
 q20:DL.FdK K "alone" Lw.s_alone
 q21:DL.FdK K "shortened" Lw.s_shortened
 q22:DL.FdK K "crossed" Lw.s_crossed
 q23:DL.FdK K "without" Lw.s_without
 q24:DL.FdK K "taken_out" Lw.s_taken_out
 q25:DL.FdK K "bound_on" Lw.s_bound_on
 q26:DL.FdK K "tighter" Lw.s_tighter
 q27:DL.FdK K "piece_for" Lw.s_piece_for
 q28:DL.FdK K "wider" Lw.s_wider
 q29:DL.FdK K "lies_below" Lw.s_lies_below
 q30:DL.FdK K "put_in" Lw.s_put_in
 q31:DL.FdK K "stretch" Lw.s_stretch
 q32:DL.FdK K "_law_common" Lw.s__law_common
 q33:DL.FdK K "_law_is_fraction" Lw.s__law_is_fraction
 q34:DL.FdK K "_law_purse" Lw.s__law_purse
 q35:DL.FdK K "_law_take" Lw.s__law_take
 q36:DL.FdK K "_law_less" Lw.s__law_less
 q37:DL.FdK K "_law_lowest" Lw.s__law_lowest
 q38:DL.FdK K "_law_sorted" Lw.s__law_sorted
 q39:DL.FdK K "_law_spots" Lw.s__law_spots
 q40:DL.FdK K "_law_is_end" Lw.s__law_is_end
 q41:DL.FdK K "_law_follows" Lw.s__law_follows
 q42:DL.FdK K "_law_are_pieces" Lw.s__law_are_pieces
 q43:DL.FdK K "_law_lies_in" Lw.s__law_lies_in
 q44:DL.FdK K "_law_ends" Lw.s__law_ends
 q45:DL.FdK K "_law_row" Lw.s__law_row
 q46:DL.FdK K "_law_terms" Lw.s__law_terms
 q47:DL.FdK K "_law_tie" Lw.s__law_tie
 q48:DL.FdK K "_law_tied" Lw.s__law_tied
 q49:DL.FdK K "_law_true" Lw.s__law_true
 q50:DL.FdK K "_law_good" Lw.s__law_good
 q51:DL.FdK K "law" Lw.s_law
 z0:PySem.W.nsIn K PySem.mainGlobals "abs"=some none
 z1:PySem.W.nsIn K PySem.mainGlobals "sorted"=some none
 z2:PySem.W.nsIn K PySem.mainGlobals "tuple"=some none
 z3:PySem.W.nsIn K PySem.mainGlobals "len"=some none
 z4:PySem.W.nsIn K PySem.mainGlobals "max"=some none
 z5:PySem.W.nsIn K PySem.mainGlobals "zip"=some none
 z6:PySem.W.nsIn K PySem.mainGlobals "enumerate"=some none
 z7:PySem.W.nsIn K PySem.mainGlobals "range"=some none
 z8:PySem.W.nsIn K PySem.mainGlobals "reversed"=some none
 z9:PySem.W.nsIn K PySem.mainGlobals "all"=some none
 z10:PySem.W.nsIn K PySem.mainGlobals "isinstance"=some none
 z11:PySem.W.nsIn K PySem.mainGlobals "bool"=some none
 z12:PySem.W.nsIn K PySem.mainGlobals "int"=some none
 z13:PySem.W.nsIn K PySem.mainGlobals "list"=some none
 g_OPPOSITES:∃ga:PySem.Addr,PySem.W.nsIn K PySem.mainGlobals "OPPOSITES"=some (some (.ref ga))/\PyProof.Rows.KTD.tabLook (PyProof.Rows.KTD.datLooks λb=>K.lookup b) (λb=>K.lookup b) ga (DL.txt [("least","more"),("more","least"),("both","either"),("either","both")])=true
 g_MOST_ROWS:∃ga:PySem.Tok,PySem.W.nsIn K PySem.mainGlobals "MOST_ROWS"=some (some (.int 3 ga))
 g_MOST_CASES:∃ga:PySem.Tok,PySem.W.nsIn K PySem.mainGlobals "MOST_CASES"=some (some (.int 4 ga))
 g_ENDLESS:∃(ga:PySem.Addr) (od:Option PySem.Addr) (n:Nat) (sl:Array (Option PySem.Value)),PySem.W.nsIn K PySem.mainGlobals "ENDLESS"=some (some (.ref ga))/\K.lookup ga=some ⟨.type "tuple",od,.seq #[.none,.bool false] n,sl⟩
section
open PySem PySem.W PyProof.Rows
local macro_rules | `(tactic| o_head $H) => `(tactic| (
 refine PySem.W.holds_open (r:=PySem.Challenge.rw_rowbetween_k59_whole_stretch_led_over.row) (q:=Hd.vw) (loose:=["OPPOSITES"]) (Xt:=Hd.xt)
  (XP:=PySem.W.XL Hd.vw []) (Yf:=PySem.W.Hook.obs $H) (Ya:=PySem.W.Hook.val $H) (YP:=PySem.W.Hook.says $H) (N:=5458)
  ?_ (PySem.W.Hook.of $H) (PySem.W.Hook.keeps $H) (λs e=>PySem.W.xl_of s (Gp.mp e).1)
  PySem.W.XL.keeps (by rfl) (by rfl) (by rfl) (λs e=>PySem.W.recFacts_of (Gp.mp e).2)
  (by rfl) (by first | assumption | decide +kernel) (by decide +kernel) ⟨rfl,rfl,rfl,rfl,rfl,by decide +kernel⟩ ?_ ?_
 (focus (refine Hd.left ?_;refine Hd.twoRows "special-get-raises" (Hd.all_a ?_) (Hd.all_b ?_);(focus (intro w os;unfold Hd.rn Hd.st0;(try rw[PySem.W.Fast.te14082659384304107361]);(try rw[PySem.W.Fast.te14364793385576792824]);(try rw[PySem.W.Fast.te5160383126252970620]);(try rw[PySem.W.Fast.te10880121769531294198]);(try rw[PySem.W.Fast.te14722251495701143533]);(try rw[PySem.W.Fast.te10994771534591457954]);(try rw[PySem.W.Fast.te479339242167458305]);(try rw[PySem.W.Fast.te16090120013241838585]);(try rw[PySem.W.Fast.te2386780881361962483]);(try rw[PySem.W.Fast.te11698064438423848299]);(try rw[PySem.W.Fast.te7317090234206586261]);(try rw[PySem.W.Fast.te7369524293546568484]);(try rw[PySem.W.Fast.te821141287760084731]);(try rw[PySem.W.Fast.te3399658132070893891]);(try rw[PySem.W.Fast.te7409074990110511671]);(try rw[PySem.W.Fast.te13664370479719496447]);(try rw[PySem.W.Fast.te5991557255702980513]);(try rw[PySem.W.Fast.te3247288618530077131]);(try rw[PySem.W.Fast.te5923862056798008813]);kernel_rfl));(focus (intro w os;unfold Hd.rn Hd.st0;(try rw[PySem.W.Fast.te14082659384304107361]);(try rw[PySem.W.Fast.te14364793385576792824]);(try rw[PySem.W.Fast.te5160383126252970620]);(try rw[PySem.W.Fast.te10880121769531294198]);(try rw[PySem.W.Fast.te14722251495701143533]);(try rw[PySem.W.Fast.te10994771534591457954]);(try rw[PySem.W.Fast.te479339242167458305]);(try rw[PySem.W.Fast.te16090120013241838585]);(try rw[PySem.W.Fast.te2386780881361962483]);(try rw[PySem.W.Fast.te11698064438423848299]);(try rw[PySem.W.Fast.te7317090234206586261]);(try rw[PySem.W.Fast.te7369524293546568484]);(try rw[PySem.W.Fast.te821141287760084731]);(try rw[PySem.W.Fast.te3399658132070893891]);(try rw[PySem.W.Fast.te7409074990110511671]);(try rw[PySem.W.Fast.te13664370479719496447]);(try rw[PySem.W.Fast.te5991557255702980513]);(try rw[PySem.W.Fast.te3247288618530077131]);(try rw[PySem.W.Fast.te5923862056798008813]);kernel_rfl))))
 (focus w_witness2)))
set_option maxRecDepth 100000 in
set_option maxHeartbeats 0 in
theorem Hd.half(F:∀(YP:World->Heap->Prop) (d:DefRec) (K:Params->PySem.W.Frag),(∀(w:World) (h:Heap),YP w h->(K w.params).In h)->d.params.defaults=[]->d.name="law"->(∀w:World,Hd.Facts (K w.params))->PySem.W.WalkO Hd.vw ["OPPOSITES"] (PySem.W.XL Hd.vw []) YP PySem.Challenge.rw_rowbetween_k59_whole_stretch_led_over.row.toRowW d [] (λf vs=>PySem.call f vs)):PySem.Challenge.rw_rowbetween_k59_whole_stretch_led_over.Holds:=by
 w_on;refine PySem.W.holds_law Hd.said λsaid=>?_;k_head
 k_fill
 refine F _ _ _ (λw h Y=>PySem.W.kIn_of Y) rfl rfl λw=>?_
 constructor
 iterate 52 (focus (exact⟨⟨_,_,_,_,_,_,_,_,_,_,by k_is,by k_is,by k_is,by k_is⟩⟩))
 ·k_is
 ·k_is
 ·k_is
 ·k_is
 ·k_is
 ·k_is
 ·k_is
 ·k_is
 ·k_is
 ·k_is
 ·k_is
 ·k_is
 ·k_is
 ·k_is
 ·exact⟨_,by k_is,by kernel_rfl⟩
 ·exact⟨_,by k_is⟩
 ·exact⟨_,by k_is⟩
 ·exact⟨_,_,_,_,by k_is,by k_is⟩
end
namespace L2
open PySem PySem.Spec PyProof.Rows
abbrev Fq:=Sum Int Str
def ni:Fq->Value->Bool
 | .inl k,v=>Value.isInt k v
 | .inr x,v=>Value.isStrOf x v
def keyH(w:World):Fq->Int
 | .inl k=>hashInt k
 | .inr x=>hashStr w x
theorem aS:∀ {k:Fq} {v:Value},ni k v=true->(∃i t,k=Sum.inl i/\v=Value.int i t)\/(∃x t,k=Sum.inr x/\v=Value.str x t)
 | .inl i,v,h=>by
  obtain⟨t,e⟩:=Value.isInt_shape (k:=i) (v:=v) h;exact .inl ⟨i,t,rfl,e⟩
 | .inr x,v,h=>by
  obtain⟨t,e⟩:=Value.isStrOf_shape (x:=x) (v:=v) h;exact .inr ⟨x,t,rfl,e⟩
theorem sV(i:Int)(t:Tok):ni (.inl i) (.int i t)=true:=by simp[ni,Value.isInt]
theorem tU(x:Str)(t:Tok):ni (.inr x) (.str x t)=true:=by simp[ni,Value.isStrOf]
theorem A7(a b:Int):decide ((Sum.inl a:Fq)=Sum.inl b)=(a==b):=by
 by_cases e:a=b
 ·subst e;simp
 ·have h:¬ (Sum.inl a:Fq)=Sum.inl b:=λq=>e (Sum.inl.inj q)
  rw[F5 h];exact(Ic.mpr e).symm
theorem Dd(a b:Str):decide ((Sum.inr a:Fq)=Sum.inr b)=decide (a=b):=by
 by_cases e:a=b
 ·subst e;simp
 ·have h:¬ (Sum.inr a:Fq)=Sum.inr b:=λq=>e (Sum.inr.inj q)
  rw[F5 h,F5 e]
theorem Cl(a:Int)(b:Str):decide ((Sum.inl a:Fq)=Sum.inr b)=false:=F5 (λq=>nomatch q)
theorem CS(a:Str)(b:Int):decide ((Sum.inr a:Fq)=Sum.inl b)=false:=F5 (λq=>nomatch q)
def bg(prog:Program)(w:World):PySem.KeyKind prog w Fq where
 is:=ni
 hash:=keyH w
 inj:=λv a b ha hb=>by
  rcases aS ha with⟨i,t,rfl,rfl⟩ | ⟨x,t,rfl,rfl⟩
  ·rcases aS hb with⟨j,u,rfl,e⟩ | ⟨y,u,rfl,e⟩
   ·injection e with e1 _;rw[e1]
   ·exact nomatch e
  ·rcases aS hb with⟨j,u,rfl,e⟩ | ⟨y,u,rfl,e⟩
   ·exact nomatch e
   ·injection e with e1 _;rw[e1]
 byValue:=λk v h=>by
  rcases aS h with⟨i,t,rfl,rfl⟩ | ⟨x,t,rfl,rfl⟩<;>rfl
 pyHash:=λhv h=>by
  rcases aS hv with⟨i,t,rfl,rfl⟩ | ⟨x,t,rfl,rfl⟩
  ·exact wpAny_pyHash_int h
  ·exact wpAny_pyHash_str h
 eqBool:=λhu hv h=>by
  rcases aS hu with⟨i,t,rfl,rfl⟩ | ⟨x,t,rfl,rfl⟩
  ·rcases aS hv with⟨j,u,rfl,rfl⟩ | ⟨y,u,rfl,rfl⟩
   ·rw[A7] at h;exact wpAny_eqBool_int h
   ·rw[Cl] at h;exact SeqAt.EqAt.int_str i t y u _ _ _ _ h
  ·rcases aS hv with⟨j,u,rfl,rfl⟩ | ⟨y,u,rfl,rfl⟩
   ·rw[CS] at h;exact SeqAt.EqAt.str_int x t j u _ _ _ _ h
   ·rw[Dd] at h;exact wpAny_eqBool_str h
 «strs»:=λk x t v h=>by
  rcases aS h with⟨i,u,rfl,e⟩ | ⟨y,u,rfl,e⟩
  ·exact nomatch e
  ·injection e with e1 _
   subst e1
   cases v<;>rfl
theorem mB(prog:Program)(w:World)(i:Int)(t:Tok):(bg prog w).is (.inl i) (.int i t)=true:=sV i t
theorem mC(prog:Program)(w:World)(x:Str)(t:Tok):(bg prog w).is (.inr x) (.str x t)=true:=tU x t
end L2
namespace L2
open PySem PySem.Spec PyProof.Rows
variable {a b:Addr} {h:Heap}
inductive V where
 | non | bl (b:Bool) | int (i:Int) | str (x:Str) | byt (b:Array UInt8) | flt (b:UInt64) | ref (a:Addr) | ty (n:String)
 deriving DecidableEq
abbrev Zf:=List V
def bB:V->Value->Prop
 | .non,u=>u=Value.none
 | .bl b,u=>u=Value.bool b
 | .int i,u=>∃t,u=Value.int i t
 | .str x,u=>∃t,u=Value.str x t
 | .byt b,u=>∃t,u=Value.bytes b t
 | .flt b,u=>∃t,u=Value.float b t
 | .ref a,u=>u=Value.ref a
 | .ty n,u=>u=Value.type n
abbrev bv:List V->List Value->Prop:=Paired bB
theorem bv.length{xs:Zf}{us:Zc}(r:bv xs us):xs.length=us.length:=Paired.length r
theorem bv.get:∀ {xs:Zf} {us:Zc} {i:Nat} {x:V},bv xs us->xs[i]?=some x->∃u,us[i]?=some u/\bB x u
 | _,_,_,_,.nil,e=>by simp at e
 | _,_,0,_,.cons r _,e=>by simp at e;subst e;exact⟨_,rfl,r⟩
 | _,_,i+1,x,.cons _ t,e=>by
  obtain⟨u,h1,h2⟩:=bv.get (i:=i) (x:=x) t (by simpa using e);exact⟨u,by simpa using h1,h2⟩
theorem bv.set{x:V}{u:Value}(r:bB x u):∀ {xs:Zf} {us:Zc} (i:Nat),bv xs us->bv (xs.set i x) (us.set i u)
 | _,_,_,.nil=>.nil
 | _,_,0,.cons _ t=>.cons r t
 | _,_,i+1,.cons q t=>.cons q (bv.set r i t)
theorem bv.append:∀ {xs ys:Zf} {us ws:Zc},bv xs us->bv ys ws->bv (xs++ys) (us++ws)
 | _,_,_,_,.nil,s=>s
 | _,_,_,_,.cons r t,s=>.cons r (bv.append t s)
theorem bv.take:∀ {xs:Zf} {us:Zc} (n:Nat),bv xs us->bv (xs.take n) (us.take n)
 | _,_,0,_=>.nil
 | _,_,_+1,.nil=>.nil
 | _,_,n+1,.cons r t=>.cons r (bv.take n t)
theorem bv.drop:∀ {xs:Zf} {us:Zc} (n:Nat),bv xs us->bv (xs.drop n) (us.drop n)
 | _,_,0,r=>r
 | _,_,_+1,.nil=>.nil
 | _,_,n+1,.cons _ t=>bv.drop n t
def qi:Option V->Zd->Prop
 | some v,some u=>bB v u
 | none,none=>True
 | _,_=>False
def KV{κ:Type}:List (κ×V)->List (κ×Value)->Prop:=Paired λ(p:κ×V) (q:κ×Value)=>p.1=q.1/\bB p.2 q.2
def kV:Fq->V
 | .inl i=>.int i
 | .inr x=>.str x
inductive HO where
 | lst (xs:Zf)
 | tup (xs:Zf)
 | dK (kvs:List (Fq×V)) | dT (kvs:List (List Fq×V))
 | set (S:Int->Bool) (n:Nat)
 | ins (C dx:Addr) (fs:List (Str×V))
 | own (x:Addr)
 | xd (fs:List (Str×V))
 | met (f x:Addr)
 | rng (lo hi:Int)
 | frz (o:Obj) (u:HO)
 | tbl (ps:Array Value)
 | ext (φ:Heap->Prop)
abbrev Hp:=Addr->Option HO
def EW(H:Hp)(a:Addr)(o:HO):Hp:=λb=>if b=a then some o else H b
theorem aD{H:Hp}{o:HO}:EW H a o a=some o:=by unfold EW;rw[FP rfl]
theorem aJ{H:Hp}{o:HO}(h:b≠a):EW H a o b=H b:=by unfold EW;rw[FN h]
theorem DY{H:Hp}{o u:HO}(h:H a=some o)(h':H b=some u)(d:o≠u):a≠b:=by
 intro e;subst e;rw[h] at h';exact d (FU h')
theorem cJ{H:Hp}{o:HO}(h:H a=some o)(h':H b=none):a≠b:=by
 intro e;subst e;rw[h] at h';cases h'
section
variable (P:Program) (w:World)
def bV(H:Hp)(h:Heap)(a:Addr):HO->Prop
 | .lst xs=>xs.length<=sizeLine/\∃(its:Zc) (n:Nat),bv xs its/\h.get? a=some { cls:=.type "list",data:=.seq its.toArray n }
 | .tup xs=>xs.length<=sizeLine/\∃its:Zc,bv xs its/\IsTup h a its.toArray
 | .dK kvs=>kvs.length<=sizeLine/\(a==sysModules)=false/\∃vs,KV kvs vs/\h.DictOf (bg P w) a vs
 | .dT kvs=>kvs.length<=sizeLine/\(a==sysModules)=false/\∃xs:List (List Fq×Addr×Value),
   Paired (λ(p:List Fq×V) (q:List Fq×Addr×Value)=>p.1=q.1/\H q.2.1=some (.tup (p.1.map kV))/\bB p.2 q.2.2) kvs xs /\
   ∃o es ep,h.get? a=some o/\o.ExactDict/\o.data=.dict es ep/\es.toList=xs.map (entryOfKey (tupleKind (bg P w)))/\(xs.map (·.1)).Nodup
 | .set S n=>h.SetOf (intKind P w) a S n
 | .ins C dx fs=>H dx=some (.own a)/\fs.length<=1000/\dx≠a/\h.get? a=some (PySem.W.instObj C dx) /\
   ∃mA,h.Ns1 dx mA/\(∀f,qi (fs.lookup f) (mA f))/\PySem.Within mA (fs.map (·.1))
 | .own _=>∃o,h.get? a=some o
 | .xd fs=>∃mA,h.Ns1 a mA/\∀f,qi (fs.lookup f) (mA f)
 | .rng lo hi=>∃t u v,h.get? a=some { cls:=.type "range",data:=.fields #[.int lo t,.int hi u,.int 1 v] }
 | .frz o u=>h.get? a=some o/\bV H h a u
 | .tbl ps=>h.get? a=some { cls:=.none,data:=.fields ps }
 | .met f x=>h.get? a=some (PySem.W.methodObj (.ref f) (.ref x))
 | .ext φ=>φ h/\(∃o,h.get? a=some o)/\∀h1 h2:Heap,φ h1->(∀o,h1.get? a=some o->h2.get? a=some o)->φ h2
def Fl(H:Hp)(h:Heap):Prop:=∀a o,H a=some o->bV P w H h a o
end
section
variable {P:Program} {w:World} {H H':Hp} {h h':Heap} {a:Addr} {o:HO}
theorem bV.lt(x:bV P w H h a o):a<h.objs.size:=by
 cases o with
 | lst xs=>obtain⟨_,_,_,_,e⟩:=x;exact FT e
 | tup xs=>obtain⟨_,_,_,p⟩:=x;exact p.lt
 | dK kvs=>obtain⟨_,_,_,_,o,_,_,e,_⟩:=x;exact FT e
 | dT kvs=>obtain⟨_,_,_,_,o,_,_,e,_⟩:=x;exact FT e
 | set S n=>obtain⟨o,_,_,_,e,_⟩:=x;exact FT e
 | ins C dx fs=>obtain⟨_,_,_,e,_⟩:=x;exact FT e
 | own y=>obtain⟨_,e⟩:=x;exact FT e
 | xd fs=>obtain⟨_,⟨_,_,_,e,_⟩,_⟩:=x;exact FT e
 | rng lo hi=>obtain⟨_,_,_,e⟩:=x;exact FT e
 | frz ob u=>obtain⟨e,_⟩:=x;exact FT e
 | tbl ps=>exact FT (show h.get? a=some _ from x)
 | met f y=>exact FT (show h.get? a=some _ from x)
 | ext φ=>obtain⟨_,⟨_,e⟩,_⟩:=x;exact FT e
theorem Paired.mapP{α β:Type}{F G:α->β->Prop}:∀ {l₁:List α} {l₂:List β},Paired F l₁ l₂->(∀a b,F a b->G a b)->Paired G l₁ l₂
 | _,_,.nil,_=>.nil
 | _,_,.cons r t,f=>.cons (f _ _ r) (Paired.mapP t f)
theorem bV.stay(x:bV P w H h a o)(k:∀b u,(b=a\/H b=some (.own a))->h.get? b=some u->h'.get? b=some u)
  (ho:∀b,H b=some (.own a)->H' b=some (.own a)) (ht:∀b xs,H b=some (.tup xs)->H' b=some (.tup xs)):bV P w H' h' a o:=by
 induction o with
 | lst xs=>obtain⟨z,aa,n,r,e⟩:=x;exact⟨z,aa,n,r,k _ _ (.inl rfl) e⟩
 | tup xs=>obtain⟨z,aa,r,ob,e,c⟩:=x;exact⟨z,aa,r,ob,k _ _ (.inl rfl) e,c⟩
 | dK kvs=>obtain⟨z,y,vs,r,ob,es,ep,e,c⟩:=x;exact⟨z,y,vs,r,ob,es,ep,k _ _ (.inl rfl) e,c⟩
 | dT kvs =>
  obtain⟨z,y,xs,r,ob,es,ep,e,c⟩:=x;exact⟨z,y,xs,Paired.mapP r λp q z=>⟨z.1,ht _ _ z.2.1,z.2.2⟩,ob,es,ep,k _ _ (.inl rfl) e,c⟩
 | set S n=>obtain⟨ob,es,ep,t,e,c⟩:=x;exact⟨ob,es,ep,t,k _ _ (.inl rfl) e,c⟩
 | ins C dx fs =>
  obtain⟨d,z,ne,e,mA,⟨od,es,ep,e2,c⟩,r⟩:=x;exact⟨ho _ d,z,ne,k _ _ (.inl rfl) e,mA,⟨od,es,ep,k _ _ (.inr d) e2,c⟩,r⟩
 | own y=>obtain⟨ob,e⟩:=x;exact⟨ob,k _ _ (.inl rfl) e⟩
 | xd fs=>obtain⟨mA,⟨od,es,ep,e,c⟩,r⟩:=x;exact⟨mA,⟨od,es,ep,k _ _ (.inl rfl) e,c⟩,r⟩
 | rng lo hi=>obtain⟨t,u,v,e⟩:=x;exact⟨t,u,v,k _ _ (.inl rfl) e⟩
 | frz ob u ih=>obtain⟨e,q⟩:=x;exact⟨k _ _ (.inl rfl) e,ih q⟩
 | tbl ps =>
  have e:h.get? a=some { cls:=.none,data:=.fields ps }:=x
  show h'.get? a=some { cls:=.none,data:=.fields ps }
  exact k a _ (.inl rfl) e
 | met f y =>
  have e:h.get? a=some (PySem.W.methodObj (.ref f) (.ref y)):=x
  show h'.get? a=some (PySem.W.methodObj (.ref f) (.ref y))
  exact k a _ (.inl rfl) e
 | ext φ=>obtain⟨p,⟨o,e⟩,st⟩:=x;exact⟨st _ _ p λo q=>k _ _ (.inl rfl) q,⟨o,k _ _ (.inl rfl) e⟩,st⟩
theorem Fl.lt(x:Fl P w H h)(e:H a=some o):a<h.objs.size:=(x a o e).lt
theorem Fl.fresh(x:Fl P w H h)(e:h.objs.size<=a):H a=none:=by
 cases q:H a with
 | none=>rfl
 | some u=>exact absurd (F9 (x.lt q) e) (Gq _)
theorem Fl.kept(x:Fl P w H h)(k:∀b u,h.get? b=some u->h'.get? b=some u):Fl P w H h':=λa o e =>
 (x a o e).stay (λb u _ q=>k b u q) (λ_ q=>q) λ_ _ q=>q
theorem Fl.laid(x:Fl P w H h)(k:∀b u,h.get? b=some u->h'.get? b=some u)(hp:h.objs.size<=a)(new:bV P w (EW H a o) h' a o):Fl P w (EW H a o) h':=λb u e=>by
 have hn:=x.fresh hp
 by_cases hb:b=a
 ·subst hb;rw[aD] at e;cases e;exact new
 ·rw[aJ hb] at e;exact(x b u e).stay (λc v _ q=>k c v q) (λc q=>by rw[aJ (cJ q hn)];exact q) λc xs q=>by rw[aJ (cJ q hn)];exact q
end
def Rd(H:Hp)(a:Addr)(u:HO):Prop:=H a=some u\/∃o,H a=some (.frz o u)
theorem Rd.of{H:Hp}{u:HO}(h:H a=some u):Rd H a u:=.inl h
theorem Rd.ok{P:Program}{w:World}{H:Hp}{u:HO}(r:Rd H a u)(x:Fl P w H h):bV P w H h a u:=by
 rcases r with r | ⟨o,r⟩
 ·exact x a u r
 ·obtain⟨_,q⟩:=x a _ r;exact q
def Mut:Option HO->Prop
 | some (.lst _)=>True
 | some (.dK _)=>True
 | some (.dT _)=>True
 | some (.set _ _)=>True
 | some (.ins _ _ _)=>True
 | some (.ext _)=>True
 | _=>False
section
variable {P:Program} {w:World} {H:Hp} {h h':Heap} {x e:Addr} {o':HO}
theorem Fl.write(ok:Fl P w H h)(mu:Mut (H x))(he:e=x\/H e=some (.own x))(k:∀b u,b≠e->h.get? b=some u->h'.get? b=some u)(heo:∃u,h'.get? e=some u)
  (new:bV P w (EW H x o') h' x o'):Fl P w (EW H x o') h':=λb u q=>by
 have aa:∀c y,H c=some (.own y)->c≠x:=λc y r z=>by subst z;rw[r] at mu;exact mu
 have ab:∀c xs,H c=some (.tup xs)->c≠x:=λc xs r z=>by subst z;rw[r] at mu;exact mu
 by_cases hb:b=x
 ·subst hb;rw[aD] at q;cases q;exact new
 ·rw[aJ hb] at q
  by_cases hbe:b=e
  ·have q':H b=some (.own x):=by
    rcases he with z | z
    ·exact absurd (hbe.trans z) hb
    ·rw[hbe];exact z
   rw[q] at q';cases q';obtain⟨v,hv⟩:=heo;exact⟨v,by rw[hbe];exact hv⟩
  ·refine(ok b u q).stay (λc v hc r=>k c v ?_ r) (λc r=>by rw[aJ (aa c b r)];exact r) λc xs r=>by rw[aJ (ab c xs r)];exact r
   rcases hc with rfl | hc
   ·exact hbe
   ·rintro rfl
    rcases he with z | z
    ·exact aa c b hc z
    ·rw[hc] at z;cases z;exact hb rfl
end
structure Un(fs ex:List Addr)(H H':Hp)(h h':Heap):Prop where
 keep:∀b o,h.get? b=some o->H b=none->b∉fs->b∉ex->h'.get? b=some o
 slot:∀b o,h.get? b=some o->H b=none->b∈fs->b∉ex->∃sl,h'.get? b=some { o with slots:=sl }
 free:∀b o,h.get? b=some o->H b=none->b∉ex->H' b=none
 there:∀b o,h.get? b=some o->b∉ex->∃o',h'.get? b=some o'
 tups:∀b xs,H b=some (.tup xs)->H' b=some (.tup xs)
 frzs:∀b o u,H b=some (.frz o u)->H' b=some (.frz o u)
 tbls:∀b ps,H b=some (.tbl ps)->∃more,H' b=some (.tbl (ps++more))
section
variable {fs fs' ex ex':List Addr} {H H1 H2:Hp} {h h1 h2 h':Heap} {a x e:Addr} {o:HO}
theorem Un.any(u:Un fs ex H H1 h h1){ob:Obj}(q:h.get? b=some ob)(n:H b=none)(hx:b∉ex):∃sl,h1.get? b=some { ob with slots:=sl }:=by
 by_cases hb:b∈fs
 ·exact u.slot b ob q n hb hx
 ·exact⟨ob.slots,u.keep b ob q n hb hx⟩
theorem Un.trans(a:Un fs ex H H1 h h1)(b:Un fs ex H1 H2 h1 h2):Un fs ex H H2 h h2 where
 keep:=λc ob q n hc hx=>b.keep c ob (a.keep c ob q n hc hx) (a.free c ob q n hx) hc hx
 slot:=λc ob q n hc hx=>by
  obtain⟨sl,e1⟩:=a.slot c ob q n hc hx;obtain⟨aa,e2⟩:=b.slot c _ e1 (a.free c ob q n hx) hc hx;exact⟨aa,e2⟩
 free:=λc ob q n hx=>by
  obtain⟨o',e1⟩:=a.there c ob q hx;exact b.free c o' e1 (a.free c ob q n hx) hx
 there:=λc ob q hx=>by
  obtain⟨o',e1⟩:=a.there c ob q hx;exact b.there c o' e1 hx
 tups:=λc xs q=>b.tups c xs (a.tups c xs q)
 frzs:=λc ob xs q=>b.frzs c ob xs (a.frzs c ob xs q)
 tbls:=λc ps q=>by
  obtain⟨m1,e1⟩:=a.tbls c ps q;obtain⟨m2,e2⟩:=b.tbls c _ e1;exact⟨m1++m2,by rw[e2,Array.append_assoc]⟩
theorem Un.kept(k:∀b u,h.get? b=some u->h'.get? b=some u):Un fs ex H H h h' :=
 ⟨λb ob q _ _ _=>k b ob q,λb ob q _ _ _=>⟨ob.slots,k b ob q⟩,λ_ _ _ n _=>n,λb ob q _=>⟨ob,k b ob q⟩,λ_ _ q=>q,λ_ _ _ q=>q,λ_ ps q=>⟨#[],by rw[q];simp⟩⟩
theorem Un.refl:Un fs ex H H h h:=Un.kept λ_ _ q=>q
theorem Un.laid(k:∀b u,h.get? b=some u->h'.get? b=some u)(hp:h.objs.size<=a)(hn:H a=none):Un fs ex H (EW H a o) h h' where
 keep:=λb u q _ _ _=>k b u q
 slot:=λb u q _ _ _=>⟨u.slots,k b u q⟩
 free:=λb u q n _=>by rw[aJ (Gb (F9 (FT q) hp))];exact n
 there:=λb u q _=>⟨u,k b u q⟩
 tups:=λb xs q=>by rw[aJ (cJ q hn)];exact q
 frzs:=λb u xs q=>by rw[aJ (cJ q hn)];exact q
 tbls:=λb ps q=>⟨#[],by rw[aJ (cJ q hn),q];simp⟩
theorem Un.write(mu:Mut (H x))(he:e=x\/H e=some (.own x))(k:∀b u,b≠e->h.get? b=some u->h'.get? b=some u)(heo:∃u,h'.get? e=some u):Un fs ex H (EW H x o) h h':=by
 have hx:∀b,H b=none->b≠x:=λb n z=>by subst z;rw[n] at mu;exact mu
 have hb:∀b,H b=none->b≠e:=λb n z=>by
  subst z
  rcases he with r | r
  ·exact hx b n r
  ·rw[n] at r;cases r
 have hm:∀b u,H b=some u->¬ Mut (some u)->b≠x:=λb u q nm z=>by subst z;rw[q] at mu;exact nm mu
 refine⟨λb u q n _ _=>k b u (hb b n) q,λb u q n _ _=>⟨u.slots,k b u (hb b n) q⟩,λb u q n _=>by rw[aJ (hx b n)];exact n,λb u q _=>?_,
  λb xs q=>by rw[aJ (hm b _ q λz=>z)];exact q,λb u xs q=>by rw[aJ (hm b _ q λz=>z)];exact q,λb ps q=>⟨#[],by rw[aJ (hm b _ q λz=>z),q];simp⟩⟩
 by_cases hbe:b=e
 ·subst hbe;exact heo
 ·exact⟨u,k b u hbe q⟩
theorem Un.mono(u:Un fs ex H H1 h h1)(hs:∀b∈fs,b∈fs')(hx:∀b∈ex,b∈ex'):Un fs' ex' H H1 h h1 :=
 ⟨λb ob q n hb he=>u.keep b ob q n (λz=>hb (hs b z)) λz=>he (hx b z),λ_ _ q n _ he=>u.any q n λz=>he (hx _ z),λb ob q n he=>u.free b ob q n λz=>he (hx b z),λb ob q he=>u.there b ob q λz=>he (hx b z),u.tups,u.frzs,u.tbls⟩
end
def trk(h:Heap)(H:Hp):List Addr:=(List.range h.objs.size).filter λa=>(H a).isSome
def vj(h:Heap)(H:Hp):Heap:=PySem.W.hideAll h (trk h H)
theorem rQ(h:Heap)(H:Hp):(vj h H).objs.size=h.objs.size:=PySem.W.hideAll_size _ _
theorem vR{H:Hp}{o:Obj}(e:h.get? b=some o)(n:H b=none):(vj h H).get? b=some o :=
 PySem.W.hideAll_get _ e λhm=>by
  have q:(H b).isSome=true:=(FI.mp hm).2
  rw[n] at q;simp at q
theorem yi{H:Hp}{o:Obj}(e:(vj h H).get? b=some o):h.get? b=some o/\H b=none:=by
 have e':h.get? b=some o:=PySem.W.of_hideAll (trk h H) e
 refine⟨e',?_⟩
 cases q:H b with
 | none=>rfl
 | some x =>
  have hm:b∈trk h H:=FI.mpr ⟨GL.mpr (FT e'),by simp[q]⟩
  have z:(vj h H).get? b=none:=PySem.W.hideAll_none (trk h H) hm
  rw[z] at e;cases e
def zN(g h:Heap)(L:Addr):List (Addr×Obj):=(List.range h.objs.size).filterMap λa=>if a=L\/(g.get? a).isSome=true then none else (h.get? a).map λo=>(a,o)
def dH(g h:Heap)(L d:Addr):List (Addr×Obj):=(zN g h L).filter λp=>decide (p.1≠d)
end L2
namespace L2
open PySem PySem.Spec PyProof.Rows
variable {t' i:Nat} {x:Str} {M:Model} {A:Around} {E:Value→Shared→Prop}
structure Mod(K:PySem.W.Frag)(mg:Str->Zd)(base:Heap):Prop where
 kin:K.In base
 glob:base.Ns mainGlobals mg
 blt:∃mb,base.Ns builtinsNs mb/\∀x:Str,x≠"__name__"->mb x=bootBuiltins x
 nolimit:base.NoLimit
structure Cx where
 prog:Program
 w:World
 K:PySem.W.Frag
 mg:Str->Zd
 base:Heap
 A:Around
 N:Zb
 s₀:Shared
 H₀:Hp
 env:Env
 outer:List Env
 stack:List Env
 ex:List Addr
 fn:Str->Bool
 calm:Bool
 pn:List (Addr×Obj)
 xe:Value->Shared->Prop
def frs(l:List Env):List Addr:=l.filterMap (·.frame)
abbrev Cx.fs(X:Cx):List Addr:=frs X.outer
def Vis(sc:Scope)(x:Str):Prop:=sc.names.lookup x=some .local\/sc.names.lookup x=some .cell\/sc.names.lookup x=some .free
def Loc(sc:Scope)(x:Str):Prop:=sc.names.lookup x=some .local\/sc.names.lookup x=some .cell
def Look(env:Env)(h:Heap)(m:Str->Zd)(x:Str)(u:Value):Prop :=
 (env.kindOf x=some .local/\m x=some u)\/((env.kindOf x=some .cell\/env.kindOf x=some .free)/\∃c,env.cells.lookup x=some c/\h.IsCell c (some u))
structure Cx.Ok(X:Cx):Prop where
 mod:Mod X.K X.mg X.base
 kind:X.env.scope.kind=.function
 glob:X.env.globals=mainGlobals
 blt:X.env.builtins=builtinsNs
 above:X.s₀.heap.objs.size<=X.env.locals
 inj:∀x y c,X.env.cells.lookup x=some c->X.env.cells.lookup y=some c->x=y
 has:∀x,(X.env.kindOf x=some .cell\/X.env.kindOf x=some .free)->∃c,X.env.cells.lookup x=some c
 cab:∀x c,X.fn x=true->X.env.cells.lookup x=some c->X.s₀.heap.objs.size<=c
 hd:X.calm=true->X.A.handled=none
 frames:X.A.frames=some X.stack
 stk:X.stack=X.outer\/(X.stack=X.env::X.outer/\X.env.frame=some X.env.locals)
 exf:∀b∈X.ex,b≠X.env.locals/\∀x c,X.env.cells.lookup x=some c->c≠b
 bs:∀b o,X.base.get? b=some o->X.s₀.heap.get? b=some o/\X.H₀ b=none
 bsz:X.base.objs.size<=X.s₀.heap.objs.size
 noex:∀b o,X.base.get? b=some o->b∉X.ex
 exfs:∀b∈X.ex,b∉X.fs
 funs:X.s₀.heap.FunFrames X.base X.outer
 frf:∀b∈X.fs,X.H₀ b=none
structure Inv(X:Cx)(pins:List (Addr×Obj))(σ:List (Option V))(H:Hp)(s:Shared):Prop where
 ok:X.Ok
 os:s.os=X.s₀.os
 bare:AllBare s.gens
 base:Un X.fs X.ex X.H₀ H X.s₀.heap s.heap
 loc:∃m,s.heap.Ns X.env.locals m/\∀(i:Nat) (x:Str) (v:V),X.N[i]?=some x->σ[i]?=some (some v)->Vis X.env.scope x->∃u,bB v u/\Look X.env s.heap m x u
 cell:∀x c,X.env.cells.lookup x=some c->∃v,s.heap.IsCell c v
 free:H X.env.locals=none
 freeC:∀x c,X.env.cells.lookup x=some c->H c=none
 pin:∀p∈X.pn++pins,s.heap.get? p.1=some p.2/\H p.1=none/\p.1≠X.env.locals/\p.1∉X.fs/\∀v,p.2.data≠.cell v
 hok:Fl X.prog X.w H s.heap
 len:σ.length=X.N.length
section
variable {X:Cx} {pins:List (Addr×Obj)} {σ:List (Option V)} {H H':Hp} {s:Shared} {h':Heap}
theorem Cx.Ok.nofr(ok:X.Ok){b:Addr}{o:Obj}(e:X.base.get? b=some o):b∉X.fs:=λhb=>by
 have:=(ok.funs.mem hb).1
 rw[e] at this;cases this
theorem Inv.bs(I:Inv X pins σ H s):∀b o,X.base.get? b=some o->s.heap.get? b=some o/\H b=none:=λb o e =>
 ⟨I.base.keep b o (I.ok.bs b o e).1 (I.ok.bs b o e).2 (I.ok.nofr e) (I.ok.noex b o e),I.base.free b o (I.ok.bs b o e).1 (I.ok.bs b o e).2 (I.ok.noex b o e)⟩
theorem Inv.bk(I:Inv X pins σ H s):∀b o,X.base.get? b=some o->s.heap.get? b=some o:=λb o e=>(I.bs b o e).1
theorem Inv.mod(I:Inv X pins σ H s):Mod X.K X.mg X.base:=I.ok.mod
theorem Inv.kIn(I:Inv X pins σ H s):X.K.In s.heap:=I.ok.mod.kin.keeps I.bk
theorem Inv.lt(I:Inv X pins σ H s):X.env.locals<s.heap.objs.size:=let ⟨_,hn,_⟩:=I.loc;hn.lt
theorem Inv.sz(I:Inv X pins σ H s):X.s₀.heap.objs.size<=s.heap.objs.size:=FB I.ok.above (G5 I.lt)
theorem Inv.nofs(I:Inv X pins σ H s){a:Addr}(h:s.heap.objs.size<=a):a∉X.fs:=λhb=>by
 obtain⟨_,o,ho,_⟩:=I.ok.funs.mem hb;exact absurd (F9 (FT ho) (FB I.sz h)) (Gq _)
theorem Inv.cne(I:Inv X pins σ H s):∀x c,X.env.cells.lookup x=some c->c≠X.env.locals:=λx c e z=>by
 obtain⟨v,o,ho,hd⟩:=I.cell x c e;obtain⟨m,⟨o',es,ep,ab,aa,_⟩,_⟩:=I.loc;rw[z,ab] at ho;cases ho;rw[aa] at hd;cases hd
theorem Inv.funs(I:Inv X pins σ H s):s.heap.FunFrames X.base X.outer:=by
 have all:∀(l:List Env),(∀b∈frs l,b∈X.fs)->X.s₀.heap.FunFrames X.base l->s.heap.FunFrames X.base l:=by
  intro l
  induction l with
  | nil=>intro _ _;trivial
  | cons env r ih =>
   intro hs hl;obtain⟨hk,⟨L,o,hf,hn,ho,hd⟩,hr⟩:=hl;have hL:L∈X.fs:=hs L (by unfold frs;rw[Gn,hf];exact FD);obtain⟨sl,e⟩:=I.base.slot L o ho (I.ok.frf L hL) hL λz=>I.ok.exfs L z hL;exact⟨hk,⟨L,_,hf,hn,e,hd⟩,ih (λb hb=>hs b (by unfold frs;rw[Gn,hf];exact Fz _ hb)) hr⟩
 exact all X.outer (λ_ hb=>hb) I.ok.funs
theorem Inv.stack(I:Inv X pins σ H s):s.heap.FunFrames X.base X.stack:=by
 rcases I.ok.stk with e | ⟨e,hf⟩
 ·rw[e];exact I.funs
 ·rw[e];obtain⟨m,hn,_⟩:=I.loc;refine .cons (by rw[I.ok.kind];decide) hf hn ?_ I.funs;exact Heap.get?_none_of_le (FB I.ok.bsz I.ok.above)
theorem Inv.stkSub(I:Inv X pins σ H s):∀b∈frs X.stack,b∈X.env.locals::X.fs:=λb hb=>by
 rcases I.ok.stk with e | ⟨e,hf⟩
 ·rw[e] at hb;exact Fz _ hb
 ·rw[e] at hb;unfold frs at hb;rw[Gn,hf] at hb;exact hb
theorem Inv.stkFree(I:Inv X pins σ H s):∀b∈frs X.stack,H b=none:=λb hb=>by
 rcases FJ.mp (I.stkSub b hb) with e | hb
 ·rw[e];exact I.free
 ·obtain⟨_,o,ho,_⟩:=I.ok.funs.mem hb;exact I.base.free b o ho (I.ok.frf b hb) λz=>I.ok.exfs b z hb
theorem Inv.step{g':Array GenState}{d':Drawn}{ch:List Addr}(I:Inv X pins σ H s)
  (hch:∀b∈ch,(b∈X.ex\/X.s₀.heap.objs.size<=b)/\b≠X.env.locals/\(∀x c,X.env.cells.lookup x=some c->c≠b)/\∀p∈X.pn++pins,p.1≠b)
  (keep:∀b o,b≠X.env.locals->b∉X.fs->b∉ch->s.heap.get? b=some o->H b=none->h'.get? b=some o)
  (slot:∀b o,b≠X.env.locals->b∈X.fs->b∉ch->s.heap.get? b=some o->H b=none->∃sl,h'.get? b=some { o with slots:=sl }) (free:∀b o,b∉ch->s.heap.get? b=some o->H b=none->H' b=none)
  (there:∀b o,b∉ch->s.heap.get? b=some o->∃o',h'.get? b=some o')
  (tups:∀b xs,H b=some (.tup xs)->H' b=some (.tup xs)) (frzs:∀b o u,H b=some (.frz o u)->H' b=some (.frz o u)) (tbls:∀b ps,H b=some (.tbl ps)->∃more,H' b=some (.tbl (ps++more)))
  (ns:∀m,s.heap.Ns X.env.locals m->h'.Ns X.env.locals m) (hok:Fl X.prog X.w H' h') (hg:AllBare g') :
  Inv X pins σ H' { s with heap:=h',gens:=g',drawn:=d',toks:=t' }:=by
 have ai:∀b o,X.s₀.heap.get? b=some o->b≠X.env.locals:=λb o e=>Gb (F9 (FT e) I.ok.above)
 have ah:∀b o,X.s₀.heap.get? b=some o->b∉X.ex->b∉ch:=λb o e hx hb=>by
  rcases(hch b hb).1 with z | z
  ·exact hx z
  ·exact absurd (F9 (FT e) z) (Gq _)
 have ab:∀x c,X.env.cells.lookup x=some c->∀v,s.heap.IsCell c v->h'.IsCell c v:=λx c e v ⟨o,ho,hd⟩=>by
  have aa:c∉ch:=λz=>(hch c z).2.2.1 x c e rfl
  by_cases hc:c∈X.fs
  ·obtain⟨sl,q⟩:=slot c o (I.cne x c e) hc aa ho (I.freeC x c e);exact⟨_,q,hd⟩
  ·exact⟨o,keep c o (I.cne x c e) hc aa ho (I.freeC x c e),hd⟩
 refine⟨I.ok,I.os,hg,⟨λb o e n hb hx=>?_,λb o e n hb hx=>?_,λb o e n hx=>?_,λb o e hx=>?_,λb xs e=>tups b xs (I.base.tups b xs e),λb o xs e=>frzs b o xs (I.base.frzs b o xs e),λb ps e=>?_⟩,?_,λx c e=>?_,?_,λx c e=>?_,λp hp=>?_,hok,I.len⟩
 ·exact keep b o (ai b o e) hb (ah b o e hx) (I.base.keep b o e n hb hx) (I.base.free b o e n hx)
 ·obtain⟨sl,e1⟩:=I.base.slot b o e n hb hx;obtain⟨aj,e2⟩:=slot b _ (ai b o e) hb (ah b o e hx) e1 (I.base.free b o e n hx);exact⟨aj,e2⟩
 ·obtain⟨o',e1⟩:=I.base.there b o e hx;exact free b o' (ah b o e hx) e1 (I.base.free b o e n hx)
 ·obtain⟨o',e1⟩:=I.base.there b o e hx;exact there b o' (ah b o e hx) e1
 ·obtain⟨m1,e1⟩:=I.base.tbls b ps e;obtain⟨m2,e2⟩:=tbls b _ e1;exact⟨m1++m2,by rw[e2,Array.append_assoc]⟩
 ·obtain⟨m,hn,hl⟩:=I.loc;refine⟨m,ns m hn,λi x v e1 e2 e3=>?_⟩;obtain⟨u,r,l⟩:=hl i x v e1 e2 e3;refine⟨u,r,?_⟩
  rcases l with l | ⟨k,c,e,z⟩
  ·exact .inl l
  ·exact .inr ⟨k,c,e,ab x c e _ z⟩
 ·obtain⟨v,z⟩:=I.cell x c e;exact⟨v,ab x c e v z⟩
 ·obtain⟨m,⟨o,_,_,ho,_⟩,_⟩:=I.loc;exact free _ o (λz=>(hch _ z).2.1 rfl) ho I.free
 ·obtain⟨v,o,ho,hd⟩:=I.cell x c e;exact free c o (λz=>(hch c z).2.2.1 x c e rfl) ho (I.freeC x c e)
 ·obtain⟨e,n,ne,nf,d⟩:=I.pin p hp;have aa:p.1∉ch:=λz=>(hch p.1 z).2.2.2 p hp rfl;exact⟨keep p.1 p.2 ne nf aa e n,free p.1 p.2 aa e n,ne,nf,d⟩
theorem Inv.un(I:Inv X pins σ H s)(u:Un X.fs [] H H' s.heap h')(hok:Fl X.prog X.w H' h'):Inv X pins σ H' { s with heap:=h',toks:=t' }:=by
 obtain⟨m,⟨o,es,ep,ho,r⟩,_⟩:=id I.loc;obtain⟨sl,hL⟩:=u.any ho I.free (by simp)
 exact I.step (g':=s.gens) (d':=s.drawn) (ch:=[]) (λ_ z=>nomatch z) (λb o _ hb _ e n=>u.keep b o e n hb (by simp)) (λb o _ hb _ e n=>u.slot b o e n hb (by simp)) (λb o _ e n=>u.free b o e n (by simp)) (λb o _ e=>u.there b o e (by simp)) u.tups u.frzs u.tbls (λm' hm=>by
  obtain⟨o',ah,ab,aa,r'⟩:=hm;rw[ho] at aa;cases aa
  exact⟨_,ah,ab,hL,r'⟩) hok I.bare
theorem Inv.call{g':Array GenState}{d':Drawn}{ch:List Addr}(I:Inv X pins σ H s)(u:Un (frs X.stack) ch H H' s.heap h')(hok:Fl X.prog X.w H' h')(hg:AllBare g')
  (hch:∀b∈ch,(b∈X.ex\/X.s₀.heap.objs.size<=b)/\b≠X.env.locals/\(∀x c,X.env.cells.lookup x=some c->c≠b)/\∀p∈X.pn++pins,p.1≠b) :
  Inv X pins σ H' { s with heap:=h',gens:=g',drawn:=d',toks:=t' }:=by
 obtain⟨m,⟨o,es,ep,ho,r⟩,_⟩:=id I.loc;obtain⟨sl,hL⟩:=u.any ho I.free λz=>(hch _ z).2.1 rfl
 exact I.step (ch:=ch) hch (λb o hL hb hc e n=>u.keep b o e n (λz=>(FJ.mp (I.stkSub b z)).elim hL hb) hc) (λb o _ _ hc e n=>u.any e n hc) (λb o hc e n=>u.free b o e n hc) (λb o hc e=>u.there b o e hc) u.tups u.frzs u.tbls (λm' hm=>by
  obtain⟨o',ah,ab,aa,r'⟩:=hm;rw[ho] at aa;cases aa
  exact⟨_,ah,ab,hL,r'⟩) hok hg
theorem Inv.turned{it:Addr}(I:Inv X pins σ H s)(k:∀b o,b≠it->s.heap.get? b=some o->h'.get? b=some o)(hn:H it=none)(hL:it≠X.env.locals)
  (h1:it∈X.ex\/X.s₀.heap.objs.size<=it) (h2:∀x c,X.env.cells.lookup x=some c->c≠it) (h3:∀p∈X.pn++pins,p.1≠it):Inv X pins σ H { s with heap:=h',toks:=t' }:=by
 have aa:∀b u,H b=some u->b≠it:=λb u e z=>by rw[z,hn] at e;cases e
 refine I.step (g':=s.gens) (d':=s.drawn) (ch:=[it]) (λb hb=>?_) (λb o _ _ hc e _=>k b o (λz=>hc (by simp[z])) e) (λb o _ _ hc e _=>⟨o.slots,k b o (λz=>hc (by simp[z])) e⟩) (λ_ _ _ _ n=>n)
  (λb o hc e=>⟨o,k b o (λz=>hc (by simp[z])) e⟩) (λ_ _ e=>e) (λ_ _ _ e=>e) (λb ps e=>⟨#[],by rw[e];simp⟩) (λm hm=>?_) (λb u e=>?_) I.bare
 ·have e:b=it:=by simpa using hb
  subst e;exact⟨h1,hL,h2,h3⟩
 ·obtain⟨o,es,ep,ho,r⟩:=hm;exact⟨o,es,ep,k _ o (Hl hL) ho,r⟩
 ·refine(I.hok b u e).stay (λc v hc q=>k c v ?_ q) (λ_ q=>q) λ_ _ q=>q
  rcases hc with z | z
  ·rw[z];exact aa b u e
  ·exact aa c _ z
theorem Inv.tok(I:Inv X pins σ H s)(t:Nat):Inv X pins σ H { s with toks:=t }:=I.un (h':=s.heap) (t':=t) Un.refl I.hok
theorem Inv.kept(I:Inv X pins σ H s)(k:∀b u,s.heap.get? b=some u->h'.get? b=some u):Inv X pins σ H { s with heap:=h',toks:=t' }:=I.un (Un.kept k) (I.hok.kept k)
theorem Inv.laid{a:Addr}{o:HO}(I:Inv X pins σ H s)(k:∀b u,s.heap.get? b=some u->h'.get? b=some u)(hp:s.heap.objs.size<=a)(new:bV X.prog X.w (EW H a o) h' a o) :
  Inv X pins σ (EW H a o) { s with heap:=h',toks:=t' }:=I.un (Un.laid k hp (I.hok.fresh hp)) (I.hok.laid k hp new)
theorem Inv.write{x e:Addr}{o:HO}(I:Inv X pins σ H s)(mu:Mut (H x))(he:e=x\/H e=some (.own x))(k:∀b u,b≠e->s.heap.get? b=some u->h'.get? b=some u)(heo:∃u,h'.get? e=some u)
  (new:bV X.prog X.w (EW H x o) h' x o):Inv X pins σ (EW H x o) { s with heap:=h',toks:=t' }:=I.un (Un.write mu he k heo) (I.hok.write mu he k heo new)
theorem Inv.pins_of{pins':List (Addr×Obj)}(I:Inv X pins σ H s)(h:∀p∈pins',s.heap.get? p.1=some p.2/\H p.1=none/\p.1≠X.env.locals/\p.1∉X.fs/\∀v,p.2.data≠.cell v):Inv X pins' σ H s :=
 ⟨I.ok,I.os,I.bare,I.base,I.loc,I.cell,I.free,I.freeC,λp hp=>(FV.mp hp).elim (λz=>I.pin p (F4 _ z)) (h p),I.hok,I.len⟩
theorem oZ{N:Zb}(hN:N.Nodup){j:Nat}(a:N[i]?=some x)(b:N[j]?=some x):i=j:=by
 obtain⟨h1,e1⟩:=List.getElem?_eq_some_iff.mp a;obtain⟨h2,e2⟩:=List.getElem?_eq_some_iff.mp b;exact(List.getElem_inj hN).mp (e1.trans e2.symm)
theorem mi{v:V}{u:Value}{Q:Unit->Shared->Prop}(I:Inv X pins σ H s)(hN:X.N.Nodup)(hi:X.N[i]?=some x)(hx:Loc X.env.scope x)(r:bB v u)
  (h:∀s',Inv X pins (σ.set i (some v)) H s'->(∃a,Heap.SameBut a s.heap s'.heap/\(a=X.env.locals\/X.env.cells.lookup x=some a))->Q () s') (hf:X.fn x=true\/X.env.scope.names.lookup x=some .local :=by walk_at "v1"):wpAny M A (storeName X.env x u) Q E s:=by
 obtain⟨m,hn,hl⟩:=id I.loc;have al:(X.env.scope.kind == .class||(X.env.scope.kind == .module&&X.env.locals != X.env.globals))=false:=by rw[I.ok.kind];rfl
 have aj:i<σ.length:=by rw[I.len];exact(List.getElem?_eq_some_iff.mp hi).1
 have cne:=I.cne
 have aa:∀ {a:Addr} {h':Heap},(∃o,s.heap.get? a=some o/\H a=none)->Heap.SameBut a s.heap h'->Fl X.prog X.w H h':=λ{a h'} ha hs b ob e=>by
  obtain⟨_,_,ab⟩:=ha;refine(I.hok b ob e).stay (λc w' hc q=>(hs.2 c ?_).trans q) (λ_ q=>q) λ_ _ q=>q;rintro rfl
  rcases hc with rfl | hc
  ·rw[ab] at e;cases e
  ·rw[ab] at hc;cases hc
 rcases hx with hk | hk
 ·refine wpAny_storeName_local hk hn (λh' hn' hs=>?_) al;obtain⟨oL,_,_,ao,_⟩:=id hn;refine h _ ⟨I.ok,I.os,I.bare,⟨λb o e n hb hx=>?_,λb o e n hb hx=>?_,I.base.free,λb o e hx=>?_,I.base.tups,I.base.frzs,I.base.tbls⟩,⟨_,hn',λj y v' e1 e2 e3=>?_⟩,λy c e=>?_,I.free,I.freeC,λp hp=>?_,aa ⟨oL,ao,I.free⟩ hs,by simpa using I.len⟩ ⟨_,hs,.inl rfl⟩
  ·exact(hs.2 b (Gb (F9 (FT e) I.ok.above))).trans (I.base.keep b o e n hb hx)
  ·obtain⟨sl,e1⟩:=I.base.slot b o e n hb hx;exact⟨sl,(hs.2 b (Gb (F9 (FT e) I.ok.above))).trans e1⟩
  ·obtain⟨o',e1⟩:=I.base.there b o e hx;exact⟨o',(hs.2 b (Gb (F9 (FT e) I.ok.above))).trans e1⟩
  ·by_cases hj:j=i
   ·subst hj;rw[hi] at e1;cases e1;rw[List.getElem?_set_self aj] at e2
    cases e2
    exact⟨u,r,.inl ⟨hk,by simp⟩⟩
   ·rw[List.getElem?_set_ne (Hl hj)] at e2;obtain⟨u',r',q⟩:=hl j y v' e1 e2 e3;refine⟨u',r',?_⟩
    rcases q with⟨k,e⟩ | ⟨k,c,e,z⟩
    ·refine .inl ⟨k,?_⟩;have:y≠x:=λe=>hj (oZ hN e1 (e ▸ hi));simp[this,e]
    ·exact .inr ⟨k,c,e,z.sameBut hs (cne y c e)⟩
  ·obtain⟨w',z⟩:=I.cell y c e;exact⟨w',z.sameBut hs (cne y c e)⟩
  ·obtain⟨e,n,ne,nf,d⟩:=I.pin p hp;exact⟨(hs.2 p.1 ne).trans e,n,ne,nf,d⟩
 ·have ah:X.fn x=true:=by
   rcases hf with z | z
   ·exact z
   ·rw[z] at hk;cases hk
  obtain⟨c,hc⟩:=I.ok.has x (.inl hk);obtain⟨w',z⟩:=I.cell x c hc;refine wpAny_storeName_cell I.ok.kind hk hc z (λh' hc' hs=>?_);obtain⟨oc,ai,an⟩:=id z;refine h { s with heap:=h' } ⟨I.ok,I.os,I.bare,⟨λb o e n hb hx=>?_,λb o e n hb hx=>?_,I.base.free,λb o e hx=>?_,I.base.tups,I.base.frzs,I.base.tbls⟩,⟨m,hn.sameBut hs (Hl (cne x c hc)),λj y v' e1 e2 e3=>?_⟩,λy c' e=>?_,I.free,I.freeC,λp hp=>?_,aa ⟨oc,ai,I.freeC x c hc⟩ hs,by simpa using I.len⟩ ⟨c,hs,.inr hc⟩
  ·exact(hs.2 b (Gb (F9 (FT e) (I.ok.cab x c ah hc)))).trans (I.base.keep b o e n hb hx)
  ·obtain⟨sl,e1⟩:=I.base.slot b o e n hb hx;exact⟨sl,(hs.2 b (Gb (F9 (FT e) (I.ok.cab x c ah hc)))).trans e1⟩
  ·obtain⟨o',e1⟩:=I.base.there b o e hx;exact⟨o',(hs.2 b (Gb (F9 (FT e) (I.ok.cab x c ah hc)))).trans e1⟩
  ·by_cases hj:j=i
   ·subst hj;rw[hi] at e1;cases e1;rw[List.getElem?_set_self aj] at e2
    cases e2
    exact⟨u,r,.inr ⟨.inl hk,c,hc,hc'⟩⟩
   ·rw[List.getElem?_set_ne (Hl hj)] at e2;obtain⟨u',r',q⟩:=hl j y v' e1 e2 e3;refine⟨u',r',?_⟩
    rcases q with q | ⟨k,c',e,z'⟩
    ·exact .inl q
    ·refine .inr ⟨k,c',e,z'.sameBut hs ?_⟩;rintro rfl;exact hj (oZ hN e1 (I.ok.inj _ _ _ e hc ▸ hi))
  ·by_cases hcc:c'=c
   ·subst hcc;exact⟨_,hc'⟩
   ·obtain⟨w2,z2⟩:=I.cell y c' e;exact⟨w2,z2.sameBut hs hcc⟩
  ·obtain⟨e,n,ne,nf,d⟩:=I.pin p hp;refine⟨(hs.2 p.1 ?_).trans e,n,ne,nf,d⟩;intro q;rw[q,ai] at e;have q':oc=p.2:=FU e;exact d w' (by rw[<- q'];exact an)
theorem gI{v:V}{u:Value}{Q:Unit->Shared->Prop}(I:Inv X pins σ H s)(hN:X.N.Nodup)(hi:X.N[i]?=some x)(hx:Loc X.env.scope x)(r:bB v u)
  (h:∀s',Inv X pins (σ.set i (some v)) H s'->Q () s') (hf:X.fn x=true\/X.env.scope.names.lookup x=some .local :=by walk_at "v1"):wpAny M A (storeName X.env x u) Q E s :=
 mi I hN hi hx r (λs' I' _=>h s' I') hf
theorem Inv.call'{s':Shared}{ch:List Addr}(I:Inv X pins σ H s)(ho:s'.os=s.os)(u:Un (frs X.stack) ch H H' s.heap s'.heap)(hok:Fl X.prog X.w H' s'.heap)(hg:AllBare s'.gens)
  (hch:∀b∈ch,(b∈X.ex\/X.s₀.heap.objs.size<=b)/\b≠X.env.locals/\(∀x c,X.env.cells.lookup x=some c->c≠b)/\∀p∈X.pn++pins,p.1≠b):Inv X pins σ H' s':=by
 obtain⟨h',g',d',t',o'⟩:=s';have e:o'=s.os:=ho;subst e;exact I.call (g':=g') (t':=t') (d':=d') u hok hg hch
end
abbrev XK:=Value->Option Addr->Hp->Prop
abbrev St:=List (Option V)
abbrev VK:=V->Hp->Prop
abbrev TE:=St->Hp->VK->Prop
abbrev TT:=St->Hp->(Bool->Hp->Prop)->Prop
abbrev TA:=St->Hp->(List V->Hp->Prop)->Prop
structure yp where
 nx:St->Hp->Prop
 rt:VK
 bk:St->Hp->Prop:=λ_ _=>False
 ct:St->Hp->Prop:=λ_ _=>False
abbrev TS:=yp->St->Hp->Prop
def EP(X:Cx)(pins:List (Addr×Obj))(σ:St)(Q:VK)(u:Value)(s':Shared):Prop:=∃v H',Inv X pins σ H' s'/\bB v u/\Q v H'
def TP(X:Cx)(pins:List (Addr×Obj))(σ:St)(Q:Bool->Hp->Prop)(b:Bool)(s':Shared):Prop:=∃H',Inv X pins σ H' s'/\Q b H'
def AP(X:Cx)(pins:List (Addr×Obj))(σ:St)(Q:Zf->Hp->Prop)(us:Zc)(s':Shared):Prop:=∃vs H',Inv X pins σ H' s'/\bv vs us/\Q vs H'
def SP(X:Cx)(pins:List (Addr×Obj))(D:yp)(f:Flow)(s':Shared):Prop :=
 match f with
 | .next=>∃σ' H',Inv X pins σ' H' s'/\D.nx σ' H'
 | .brk=>∃σ' H',Inv X pins σ' H' s'/\D.bk σ' H'
 | .cont=>∃σ' H',Inv X pins σ' H' s'/\D.ct σ' H'
 | .ret u=>∃v σ' H',Inv X pins σ' H' s'/\bB v u/\D.rt v H'
def PE(X:Cx)(e:Expr)(t:TE):Prop :=
 ∀(pins:List (Addr×Obj)) (s:Shared) (σ:St) (H:Hp) (Q:VK),Inv X pins σ H s->t σ H Q->wpAny (model X.prog X.w) X.A (eval e X.env) (EP X pins σ Q) X.xe s
def PT(X:Cx)(e:Expr)(t:TT):Prop :=
 ∀(pins:List (Addr×Obj)) (s:Shared) (σ:St) (H:Hp) (Q:Bool->Hp->Prop),Inv X pins σ H s->t σ H Q->wpAny (model X.prog X.w) X.A (isTrue e X.env (eval e X.env)) (TP X pins σ Q) X.xe s
def PW(X:Cx)(e:Expr)(t:TT):Prop :=
 ∀(whole:Sem Value) (pins:List (Addr×Obj)) (s:Shared) (σ:St) (H:Hp) (Q:Bool->Hp->Prop),Inv X pins σ H s->t σ H Q->wpAny (model X.prog X.w) X.A (isTrue e X.env whole) (TP X pins σ Q) X.xe s
theorem PW.pt{X:Cx}{e:Expr}{t:TT}(h:PW X e t):PT X e t:=h _
def PA(X:Cx)(es:List Expr)(t:TA):Prop :=
 ∀(pos:Pos) (pins:List (Addr×Obj)) (s:Shared) (σ:St) (H:Hp) (Q:Zf->Hp->Prop),Inv X pins σ H s->t σ H Q->wpAny (model X.prog X.w) X.A (spliced (backTo pos (starEach es X.env))) (AP X pins σ Q) X.xe s
def PS(X:Cx)(st:Stmt)(t:TS):Prop :=
 ∀(pins:List (Addr×Obj)) (s:Shared) (σ:St) (H:Hp) (D:yp),Inv X pins σ H s->t D σ H->wpAny (model X.prog X.w) X.A (exec st X.env) (SP X pins D) X.xe s
def PSs(X:Cx)(st:List Stmt)(t:TS):Prop :=
 ∀(pins:List (Addr×Obj)) (s:Shared) (σ:St) (H:Hp) (D:yp),Inv X pins σ H s->t D σ H->wpAny (model X.prog X.w) X.A (execs st X.env) (SP X pins D) X.xe s
theorem E7{α:Type}{t:Sem α}{Q Q':α->Shared->Prop}{s:Shared}(h:wpAny M A t Q E s)(hQ:∀a s,Q a s->Q' a s):wpAny M A t Q' E s:=GI h hQ λ_ _ x=>x
end L2
namespace L2
open PySem PySem.Spec PyProof.Rows
variable {pins:List (Addr×Obj)} {s:Shared} {σ:St} {H:Hp} {x:Str} {pos:Pos} {u:Value} {t:TE}
section
variable {X:Cx}
theorem bin{a b:Expr}{ta tb:TE}(ha:PE X a ta)(hb:PE X b tb){R:V->V->Hp->Prop}(I:Inv X pins σ H s)(h:ta σ H λx H1=>tb σ H1 λy H2=>R x y H2)
  {α:Type} {Q:α->Shared->Prop} {f:Value->Value->Sem α}
  (hf:∀v u s2 x y H2,Inv X pins σ H2 s2->bB x v->bB y u->R x y H2->wpAny (model X.prog X.w) X.A (f v u) Q X.xe s2) :
  wpAny (model X.prog X.w) X.A (eval a X.env) (λv s₁=>wpAny (model X.prog X.w) X.A (eval b X.env) (λu s₂=>wpAny (model X.prog X.w) X.A (f v u) Q X.xe s₂) X.xe s₁) X.xe s:=by
 refine E7 (ha pins s σ H _ I h) λv s1 ⟨x,H1,I1,r1,q1⟩=>?_;refine E7 (hb pins s1 σ H1 _ I1 q1) λu s2 ⟨y,H2,I2,r2,q2⟩=>?_;exact hf v u s2 x y H2 I2 r1 r2 q2
def tVar(i:Nat):TE:=λσ H Q=>∃v,σ[i]?=some (some v)/\Q v H
def tC(v:V):TE:=λ_ H Q=>Q v H
theorem dE{i:Nat}(hN:X.N[i]?=some x)(hv:Vis X.env.scope x)(hd:(x==("__debug__":Str))=false:=by decide)(hcd:(x==("__classdict__":Str))=false:=by decide):PE X (.Name x pos) (tVar i):=by
 intro ah s σ H Q I h;obtain⟨v,e,h⟩:=h;obtain⟨m,hn,hl⟩:=I.loc;obtain⟨u,r,l⟩:=hl i x v hN e hv;have ab:EP X ah σ Q u s:=⟨v,H,I,r,h⟩
 rcases l with⟨hk,hm⟩ | ⟨hk,c,hc,aa⟩
 ·exact wpAny_Name (wpAny_loadName_local I.ok.kind hk hn hm ab) hd
 ·rcases hk with hk | hk
  ·exact wpAny_Name (wpAny_loadName_cell I.ok.kind hk hc aa ab) hd
  ·exact wpAny_Name (wpAny_loadName_free I.ok.kind hk hc aa ab hcd) hd
theorem wL{i j pos}:PE X (.Constant (.int i) j pos) (tC (.int i)):=λ_ _ _ H _ I h=>wpAny_Constant_int ⟨.int i,H,I.tok _,⟨_,rfl⟩,h⟩
theorem El{b j pos}:PE X (.Constant (.bool b) j pos) (tC (.bl b)):=λ_ _ _ H _ I h=>Constant_bool ⟨.bl b,H,I,rfl,h⟩
theorem Bh{j pos}:PE X (.Constant .none j pos) (tC .non):=λ_ _ _ H _ I h=>Constant_none ⟨.non,H,I,rfl,h⟩
theorem Bw{x j pos}:PE X (.Constant (.str x) j pos) (tC (.str x)):=λ_ _ _ H _ I h=>Calls.Constant_str ⟨.str x,H,I.tok _,⟨_,rfl⟩,h⟩
def Gl(X:Cx)(x:Str):Prop:=X.env.kindOf x=some .globalImplicit
theorem rG{E:Value->Shared->Prop}{Q:Value->Shared->Prop}(I:Inv X pins σ H s)(hg:Gl X x)(hm:X.mg x=some u)(h:Q u s)
  (hd:(x==("__debug__":Str))=false:=by decide):wpAny (model X.prog X.w) X.A (eval (.Name x pos) X.env) Q E s :=
 Calls.Name_function_global I.ok.kind hg (Calls.loadGlobal_global (by rw[I.ok.glob];exact I.mod.glob.keeps I.bk) hm h) hd
theorem iw{E:Value->Shared->Prop}{Q:Value->Shared->Prop}(I:Inv X pins σ H s)(hg:Gl X x)(hm:X.mg x=none)(hv:bootBuiltins x=some u)(h:Q u s)
  (hn:x≠"__name__":=by decide) (hd:(x==("__debug__":Str))=false:=by decide):wpAny (model X.prog X.w) X.A (eval (.Name x pos) X.env) Q E s:=by
 obtain⟨mb,h1,h2⟩:=I.mod.blt;exact Calls.Name_function_global I.ok.kind hg (Calls.loadGlobal_builtin (by rw[I.ok.glob];exact I.mod.glob.keeps I.bk) hm (by rw[I.ok.blt];exact h1.keeps I.bk) ((h2 x hn).trans hv) h) hd
theorem nL{v:V}(hg:Gl X x)(hm:X.mg x=some u)(r:bB v u)(hd:(x==("__debug__":Str))=false:=by decide):PE X (.Name x pos) (tC v) :=
 λ_ _ _ H _ I h=>rG I hg hm ⟨v,H,I,r,h⟩ hd
theorem xL{v:V}(hg:Gl X x)(hm:X.mg x=none)(hv:bootBuiltins x=some u)(r:bB v u)(hn:x≠"__name__":=by decide)(hd:(x==("__debug__":Str))=false:=by decide):PE X (.Name x pos) (tC v) :=
 λ_ _ _ H _ I h=>iw I hg hm hv ⟨v,H,I,r,h⟩ hn hd
variable {a b:Expr} {ta tb:TE} {pos:Pos}
def PC(X:Cx)(op:CmpOp)(a b:Expr)(t:TE):Prop :=
 ∀(pins:List (Addr×Obj)) (s:Shared) (σ:St) (H:Hp) (Q:VK),Inv X pins σ H s->t σ H Q ->
  wpAny (model X.prog X.w) X.A (eval a X.env) (λv s₁=>wpAny (model X.prog X.w) X.A (eval b X.env) (λu s₂=>wpAny (model X.prog X.w) X.A (compareOp op v u) (EP X pins σ Q) X.xe s₂) X.xe s₁) X.xe s
def tB(t:TE):TT:=λσ H Q=>t σ H λx H1=>∃c,x=.bl c/\Q c H1
theorem pt_cmp{op:CmpOp}(h:PC X op a b t)(h1:behindInMarks op b=false:=by first | exact nobehind _ (by decide) (by decide) | rfl):PT X (.Compare a [op] [b] pos) (tB t):=by
 intro aa s σ H Q I hw;refine wpAny_isTrue_Compare1 (E7 (h aa s σ H _ I hw) λv s1 h1=>E7 h1 λu s2 h2=>E7 h2 λc s3 ⟨x,H1,I1,r1,q1⟩=>?_) h1;obtain⟨d,rfl,q⟩:=q1
 cases r1
 exact GT ⟨H1,I1,q⟩
theorem Dl{e:Expr}(h:PE X e t)(he:∀whole,isTrue e X.env whole=(do let v<-whole;standAt e.pos;holding [v] (truthy v)):=by intro _;rfl):PT X e (tB t):=by
 intro aa s σ H Q I hw;refine isTrue_plain (E7 (h aa s σ H _ I hw) λv s1 ⟨x,H1,I1,r1,q1⟩=>?_) (he _);obtain⟨d,rfl,q⟩:=q1
 cases r1
 exact GT ⟨H1,I1,q⟩
variable {tA tB':TT} {dH:List Expr}
def tAnd(t u:TT):TT:=λσ H Q=>t σ H λc H1=>if c=true then u σ H1 Q else Q false H1
def tOr(t u:TT):TT:=λσ H Q=>t σ H λc H1=>if c=true then Q true H1 else u σ H1 Q
def tNot(t:TT):TT:=λσ H Q=>t σ H λc H1=>Q (!c) H1
theorem zu(ha:PT X a tA):PW X (.BoolOp .And [a] pos) tA:=by
 intro wh aa s σ H Q I h;refine isTrue_and (E7 (ha aa s σ H Q I h) λc s1 e=>?_)
 cases c with
 | true=>exact isTrue_and_nil e
 | false=>exact e
theorem B2(ha:PT X a tA):PW X (.BoolOp .Or [a] pos) tA:=by
 intro wh aa s σ H Q I h;refine isTrue_or (E7 (ha aa s σ H Q I h) λc s1 e=>?_)
 cases c with
 | false=>exact isTrue_or_nil e
 | true=>exact e
theorem BA(ha:PT X a tA)(hb:PW X (.BoolOp .And (b::dH) pos) tB'):PW X (.BoolOp .And (a::b::dH) pos) (tAnd tA tB'):=by
 intro wh aa s σ H Q I h;refine isTrue_and (E7 (ha aa s σ H _ I h) λc s1 ⟨H1,I1,q1⟩=>?_)
 cases c with
 | true=>exact hb wh aa s1 σ H1 Q I1 q1
 | false=>exact⟨H1,I1,q1⟩
theorem uB(ha:PT X a tA)(hb:PW X (.BoolOp .Or (b::dH) pos) tB'):PW X (.BoolOp .Or (a::b::dH) pos) (tOr tA tB'):=by
 intro wh aa s σ H Q I h;refine isTrue_or (E7 (ha aa s σ H _ I h) λc s1 ⟨H1,I1,q1⟩=>?_)
 cases c with
 | true=>exact⟨H1,I1,q1⟩
 | false=>exact hb wh aa s1 σ H1 Q I1 q1
theorem Bp(ha:PT X a tA):PT X (.UnaryOp .Not a pos) (tNot tA):=by
 intro aa s σ H Q I h;exact isTrue_not (ha aa s σ H (λc H1=>Q (!c) H1) I h)
def DC(ta tb:TE):TE:=λσ H Q=>ta σ H λx H1=>∃c,x=.bl c/\if c=true then tb σ H1 Q else Q (.bl false) H1
def tOrV(ta tb:TE):TE:=λσ H Q=>ta σ H λx H1=>∃c,x=.bl c/\if c=true then Q (.bl true) H1 else tb σ H1 Q
def Dx(ta:TE):TE:=λσ H Q=>ta σ H λx H1=>∃c,x=.bl c/\Q (.bl (!c)) H1
theorem Ck{op}(h:PE X a t):PE X (.BoolOp op [a] pos) t:=λpins s σ H Q I hw=>BoolOp_one (h pins s σ H Q I hw)
theorem Bd(ha:PE X a ta)(hb:PE X (.BoolOp .And (b::dH) pos) tb):PE X (.BoolOp .And (a::b::dH) pos) (DC ta tb):=by
 intro aa s σ H Q I h;refine BoolOp_and (E7 (ha aa s σ H _ I h) λv s1 ⟨x,H1,I1,r1,q1⟩=>?_);obtain⟨c,rfl,q1⟩:=q1
 cases r1
 refine GT ?_
 cases c with
 | true=>exact hb aa s1 σ H1 Q I1 q1
 | false=>exact⟨.bl false,H1,I1,rfl,q1⟩
theorem Ej(ha:PE X a ta)(hb:PE X (.BoolOp .Or (b::dH) pos) tb):PE X (.BoolOp .Or (a::b::dH) pos) (tOrV ta tb):=by
 intro aa s σ H Q I h;refine BoolOp_or (E7 (ha aa s σ H _ I h) λv s1 ⟨x,H1,I1,r1,q1⟩=>?_);obtain⟨c,rfl,q1⟩:=q1
 cases r1
 refine GT ?_
 cases c with
 | false=>exact hb aa s1 σ H1 Q I1 q1
 | true=>exact⟨.bl true,H1,I1,rfl,q1⟩
theorem C7(ha:PE X a ta):PE X (.UnaryOp .Not a pos) (Dx ta):=by
 intro aa s σ H Q I h;refine UnaryOp_ (E7 (ha aa s σ H _ I h) λv s1 ⟨x,H1,I1,r1,q1⟩=>?_);obtain⟨c,rfl,q1⟩:=q1
 cases r1
 exact not_of (GT ⟨.bl (!c),H1,I1,rfl,q1⟩)
def tIf(t:TT)(ta tb:TE):TE:=λσ H Q=>t σ H λc H1=>if c=true then ta σ H1 Q else tb σ H1 Q
theorem wB{c:Expr}(hc:PT X c tA)(ha:PE X a ta)(hb:PE X b tb):PE X (.IfExp c a b pos) (tIf tA ta tb):=by
 intro aa s σ H Q I h;refine wpAny_IfExp (E7 (hc aa s σ H _ I h) λd s1 ⟨H1,I1,q1⟩=>?_)
 cases d with
 | true=>exact ha aa s1 σ H1 Q I1 q1
 | false=>exact hb aa s1 σ H1 Q I1 q1
end
end L2
namespace L2
open PySem PySem.Spec PyProof.Rows
variable {K:PySem.W.Frag} {s:Shared} {i:Nat} {x:Str} {e tg:Expr} {P:Program} {w:World}
def EX(K:PySem.W.Frag)(H:Hp)(a:Addr)(xs:Zf):Prop :=
 Rd H a (.lst xs) \/
  ∃(o:Obj) (its:Array Value) (n:Nat),K.lookup a=some o/\o.cls=.type "list"/\o.dict=none/\o.data=.seq its n/\its.size<=sizeLine/\bv xs its.toList
def Fh(K:PySem.W.Frag)(H:Hp)(a:Addr)(xs:Zf):Prop :=
 Rd H a (.tup xs) \/
  ∃(o:Obj) (its:Array Value) (n:Nat),K.lookup a=some o/\o.cls=.type "tuple"/\o.data=.seq its n/\its.size<=sizeLine/\bv xs its.toList
def absV:Value->Option V
 | .none=>some .non
 | .bool b=>some (.bl b)
 | .int i _=>some (.int i)
 | .str x _=>some (.str x)
 | .bytes b _=>some (.byt b)
 | .float b _=>some (.flt b)
 | .ref a=>some (.ref a)
 | .type n=>some (.ty n)
 | _=>none
theorem bB.abs{x:V}{u:Value}(r:bB x u):absV u=some x:=by
 cases x with
 | non=>cases r;rfl
 | bl _=>cases r;rfl
 | int _=>obtain⟨t,rfl⟩:=r;rfl
 | str _=>obtain⟨t,rfl⟩:=r;rfl
 | byt _=>obtain⟨t,rfl⟩:=r;rfl
 | flt _=>obtain⟨t,rfl⟩:=r;rfl
 | ref _=>cases r;rfl
 | ty _=>cases r;rfl
theorem bB.inj{x y:V}{u:Value}(r:bB x u)(q:bB y u):x=y:=FU (r.abs.symm.trans q.abs)
theorem bv.inj:∀ {xs ys:Zf} {us:Zc},bv xs us->bv ys us->xs=ys
 | _,_,_,.nil,.nil=>rfl
 | _,_,_,.cons r t,.cons r' t'=>by rw[r.inj r',bv.inj t t']
section
variable {X:Cx} {pins:List (Addr×Obj)} {σ:St} {H:Hp} {s:Shared} {a:Addr} {xs ys:Zf}
theorem EX.of(h:H a=some (.lst xs)):EX K H a xs:=.inl (.inl h)
theorem Fh.of(h:H a=some (.tup xs)):Fh K H a xs:=.inl (.inl h)
theorem Inv.list(I:Inv X pins σ H s)(h:EX X.K H a xs):∃its:Zc,bv xs its/\PlainL s.heap a its.toArray/\xs.length<=sizeLine:=by
 rcases h with h | ⟨o,its,n,hk,hc,hd,hs,hz,r⟩
 ·obtain⟨z,its,n,r,e⟩:=h.ok I.hok;exact⟨its,r,⟨_,n,e,rfl,rfl,rfl⟩,z⟩
 ·refine⟨its.toList,r,⟨o,n,I.kIn a o hk,hc,hd,by simpa using hs⟩,?_⟩;have e:=r.length;simp only[Array.length_toList] at e;omega
theorem Inv.tuple(I:Inv X pins σ H s)(h:Fh X.K H a xs):∃its:Zc,bv xs its/\IsTup s.heap a its.toArray/\xs.length<=sizeLine:=by
 rcases h with h | ⟨o,its,n,hk,hc,hs,hz,r⟩
 ·obtain⟨z,its,r,p⟩:=h.ok I.hok;exact⟨its,r,p,z⟩
 ·refine⟨its.toList,r,⟨o,I.kIn a o hk,hc,n,by simpa using hs⟩,?_⟩;have e:=r.length;simp only[Array.length_toList] at e;omega
theorem Inv.list_inj(I:Inv X pins σ H s)(h:EX X.K H a xs)(h':EX X.K H a ys):xs=ys:=by
 obtain⟨ab,r,⟨o,n,e,_,_,d⟩,_⟩:=I.list h;obtain⟨aa,r',⟨o',n',e',_,_,d'⟩,_⟩:=I.list h';rw[e] at e';cases e';rw[d] at d'
 injection d' with d1 _
 have:ab=aa:=by simpa using GQ Array.toList d1
 subst this;exact r.inj r'
theorem Inv.tuple_inj(I:Inv X pins σ H s)(h:Fh X.K H a xs)(h':Fh X.K H a ys):xs=ys:=by
 obtain⟨ab,r,⟨o,e,_,n,d⟩,_⟩:=I.tuple h;obtain⟨aa,r',⟨o',e',_,n',d'⟩,_⟩:=I.tuple h';rw[e] at e';cases e';rw[d] at d'
 injection d' with d1 _
 have:ab=aa:=by simpa using GQ Array.toList d1
 subst this;exact r.inj r'
end
abbrev Cx.wish(X:Cx)(E:Value->Shared->Prop):Cx:={ X with xe:=E }
abbrev Cx.nox(X:Cx):Cx:=X.wish λ_ _=>False
theorem Cx.Ok.wish{X:Cx}(ok:X.Ok)(E:Value->Shared->Prop):(X.wish E).Ok :=
 ⟨ok.mod,ok.kind,ok.glob,ok.blt,ok.above,ok.inj,ok.has,ok.cab,ok.hd,ok.frames,ok.stk,ok.exf,ok.bs,ok.bsz,ok.noex,ok.exfs,ok.funs,ok.frf⟩
theorem Cx.Ok.unwish{X:Cx}{E:Value->Shared->Prop}(ok:(X.wish E).Ok):X.Ok :=
 ⟨ok.mod,ok.kind,ok.glob,ok.blt,ok.above,ok.inj,ok.has,ok.cab,ok.hd,ok.frames,ok.stk,ok.exf,ok.bs,ok.bsz,ok.noex,ok.exfs,ok.funs,ok.frf⟩
section
variable {X:Cx} {pins:List (Addr×Obj)} {σ:St} {H:Hp} {s:Shared} {E:Value→Shared→Prop}
theorem Inv.wish(I:Inv X pins σ H s)(E:Value->Shared->Prop):Inv (X.wish E) pins σ H s:=⟨I.ok.wish E,I.os,I.bare,I.base,I.loc,I.cell,I.free,I.freeC,I.pin,I.hok,I.len⟩
theorem Inv.unwish(I:Inv (X.wish E) pins σ H s):Inv X pins σ H s:=⟨I.ok.unwish,I.os,I.bare,I.base,I.loc,I.cell,I.free,I.freeC,I.pin,I.hok,I.len⟩
theorem SP.unwish{D:yp}{f:Flow}{s':Shared}(h:SP (X.wish E) pins D f s'):SP X pins D f s':=by
 cases f with
 | next=>obtain⟨σ',H',I,q⟩:=h;exact⟨σ',H',I.unwish,q⟩
 | brk=>obtain⟨σ',H',I,q⟩:=h;exact⟨σ',H',I.unwish,q⟩
 | cont=>obtain⟨σ',H',I,q⟩:=h;exact⟨σ',H',I.unwish,q⟩
 | ret u=>obtain⟨v,σ',H',I,r,q⟩:=h;exact⟨v,σ',H',I.unwish,r,q⟩
theorem PSs.nox{st:List Stmt}{t:TS}(h:PSs X.nox st t):PSs X st t:=λpins s σ H D I hw =>
 GI (h pins s σ H D (I.wish _) hw) (λ_ _ q=>q.unwish) λ_ _ z=>False.elim z
end
section
variable {X:Cx} {st:Stmt} {dH:List Stmt} {t u:TS} {e:Expr} {te:TE} {pos:Pos}
def EF:TS:=λD σ H=>D.nx σ H
def tSeq(t u:TS):TS:=λD σ H=>t { D with nx:=u D } σ H
theorem yt:PSs X [] EF:=λ_ _ σ H _ I h=>Ie ⟨σ,H,I,h⟩
theorem ve(h1:PS X st t)(h2:PSs X dH u):PSs X (st::dH) (tSeq t u):=by
 intro aa s σ H D I h;refine wpAny_execs_cons (E7 (h1 aa s σ H { D with nx:=u D } I h) λf s1 q=>?_)
 cases f with
 | next =>
  obtain⟨σ',H',I',q⟩:=q;exact h2 aa s1 σ' H' D I' q
 | ret v=>exact q
 | brk=>exact q
 | cont=>exact q
theorem Ak(h1:PS X st t):PSs X [st] t:=by
 intro aa s σ H D I h;refine wpAny_execs_cons (E7 (h1 aa s σ H D I h) λf s1 q=>?_)
 cases f with
 | next=>exact Ie q
 | ret v=>exact q
 | brk=>exact q
 | cont=>exact q
theorem Inv.quiet{pins:List (Addr×Obj)}{σ:St}{H:Hp}(I:Inv X pins σ H s):interactive X.env=false:=by simp[interactive,I.ok.kind]
def DV(te:TE):TS:=λD σ H=>te σ H λ_ H1=>D.nx σ H1
theorem m8(he:PE X e te)(hs:swapsWith e none pos.line X.env=pure false:=by rfl):PS X (.Expr e pos) (DV te):=by
 intro aa s σ H D I h;exact wpAny_Expr_any (E7 (he aa s σ H _ I h) λv s1 ⟨x,H1,I1,r1,q1⟩=>⟨σ,H1,I1,q1⟩) I.quiet hs
def tRet(te:TE):TS:=λD σ H=>te σ H D.rt
theorem sy(he:PE X e te):PS X (.Return (some e) pos) (tRet te):=by
 intro aa s σ H D I h;exact wpAny_Return_some (E7 (he aa s σ H _ I h) λv s1 ⟨x,H1,I1,r1,q1⟩=>⟨x,σ,H1,I1,r1,q1⟩)
def Ee:TS:=λD _ H=>D.rt .non H
theorem AG:PS X (.Return none pos) Ee:=λ_ _ σ H _ I h=>wpAny_Return_none ⟨.non,σ,H,I,rfl,h⟩
def tIfS(c:TT)(t u:TS):TS:=λD σ H=>c σ H λb H1=>if b=true then t D σ H1 else u D σ H1
theorem D7{c:Expr}{a b:List Stmt}{tc:TT}(hc:PT X c tc)(ha:PSs X a t)(hb:PSs X b u):PS X (.If c a b pos) (tIfS tc t u):=by
 intro aa s σ H D I h;refine wpAny_If (E7 (hc aa s σ H _ I h) λd s1 ⟨H1,I1,q1⟩=>?_)
 cases d with
 | true=>exact ha aa s1 σ H1 D I1 q1
 | false=>exact hb aa s1 σ H1 D I1 q1
def xn:TS:=λ_ _ _=>False
theorem vn:PS X st xn:=λ_ _ _ _ _ _ h=>h.elim
theorem ui{sts:List Stmt}:PSs X sts xn:=λ_ _ _ _ _ _ h=>h.elim
end
abbrev TG:=V->St->Hp->(St->Hp->Prop)->Prop
abbrev TGs:=List V->St->Hp->(St->Hp->Prop)->Prop
def PG(X:Cx)(target:Expr)(t:TG):Prop :=
 ∀(pins:List (Addr×Obj)) (s:Shared) (σ:St) (H:Hp) (v:V) (u:Value) (Q:St->Hp->Prop),Inv X pins σ H s->bB v u->t v σ H Q ->
  wpAny (model X.prog X.w) X.A (assign target X.env u) (λ_ s'=>∃σ' H',Inv X pins σ' H' s'/\Q σ' H') X.xe s
def PGs(X:Cx)(ts:List Expr)(t:TGs):Prop :=
 ∀(pins:List (Addr×Obj)) (s:Shared) (σ:St) (H:Hp) (vs:Zf) (us:Zc) (Q:St->Hp->Prop),Inv X pins σ H s->bv vs us->t vs σ H Q ->
  wpAny (model X.prog X.w) X.A (assignInOrder ((assignEach ts X.env).map (·.2)) us) (λ_ s'=>∃σ' H',Inv X pins σ' H' s'/\Q σ' H') X.xe s
abbrev TSet:=V->V->V->Hp->(Hp->Prop)->Prop
def PSet(X:Cx)(t:TSet):Prop :=
 ∀(pins:List (Addr×Obj)) (s:Shared) (σ:St) (H:Hp) (o i v:V) (ov iv u:Value) (Q:Hp->Prop),Inv X pins σ H s->bB o ov->bB i iv->bB v u->t o i v H Q ->
  wpAny (model X.prog X.w) X.A (setItem ov iv u) (λ_ s'=>∃H',Inv X pins σ H' s'/\Q H') X.xe s
section
variable {X:Cx} {pos:Pos}
def qo(i:Nat):TG:=λv σ H Q=>Q (σ.set i (some v)) H
theorem Ay(hN:X.N.Nodup)(hi:X.N[i]?=some x)(hx:Loc X.env.scope x)(hf:X.fn x=true\/X.env.scope.names.lookup x=some .local :=by walk_at "v1"):PG X (.Name x pos) (qo i):=by
 intro aa s σ H v u Q I r h;exact wpAny_assign_Name (gI I hN hi hx r (λs' I'=>⟨_,H,I',h⟩) hf)
def gNil:TGs:=λvs σ H Q=>vs=[]/\Q σ H
def EJ(t:TG)(u:TGs):TGs:=λvs σ H Q=>∃v r,vs=v::r/\t v σ H λσ' H'=>u r σ' H' Q
theorem y9:PGs X [] gNil:=by
 intro aa s σ H vs us Q I r h;obtain⟨e,h⟩:=h;subst e
 cases r
 exact assignInOrder_nil ⟨σ,H,I,h⟩
theorem vk{es:List Expr}{t:TG}{u:TGs}(h1:PG X e t)(h2:PGs X es u)
  (hs:(assignEach (e::es) X.env).map (·.2)=assign e X.env::(assignEach es X.env).map (·.2):=by rfl):PGs X (e::es) (EJ t u):=by
 intro aa s σ H vs us Q I r h;obtain⟨v,vr,e1,h⟩:=h;subst e1
 cases r with
 | cons r rr =>
  rw[hs];refine assignInOrder_cons (E7 (h1 aa s σ H _ _ _ I r h) λ_ s1 ⟨σ1,H1,I1,q1⟩=>?_);exact h2 aa s1 σ1 H1 _ _ Q I1 rr q1
def gTup(K:PySem.W.Frag)(n:Nat)(t:TGs):TG:=λv σ H Q=>∃a xs,v=.ref a/\Fh K H a xs/\xs.length=n/\t xs σ H Q
theorem A9{es:List Expr}{k:Nat}{t:TGs}{n:Nat}(hc:X.calm=true)(h:PGs X es t)
  (hn:(assignEach es X.env).length=n:=by rfl) (hst:(assignEach es X.env).findIdx? (·.1)=none:=by rfl):PG X (.Tuple es k pos) (gTup X.K n t):=by
 intro aa s σ H v u Q I r hw;obtain⟨a,xs,e1,hq,hl,hw⟩:=hw;subst e1
 cases r
 obtain⟨ab,rv,ht,hz⟩:=I.tuple hq;refine assign_Tuple_tuple (I.ok.hd hc) ht (by simp[hn,<- hl,rv.length]) hst λh' hx=>?_;have I1:Inv X aa σ H { s with heap:=h' }:=I.kept (t':=s.toks) λb o e=>hx b o (Gb (FT e)) e;exact h aa _ σ H xs _ Q I1 (by simpa using rv) hw
def gSub(to ti:TE)(t:TSet):TG:=λv σ H Q=>to σ H λo H1=>ti σ H1 λi H2=>t o i v H2 λH3=>Q σ H3
theorem Ce{o i:Expr}{to ti:TE}{t:TSet}(ho:PE X o to)(hi:PE X i ti)(hs:PSet X t)
    (ha:∀v,assign (.Subscript o i pos) X.env v=(do
      let ov<-holding [v] (eval o X.env)
      let iv<-holding [v,ov] (eval i X.env)
      standAt pos
      holding [v,ov,iv] (setItem ov iv v)
      release [v,ov,iv] []):=by intro _;rfl):PG X (.Subscript o i pos) (gSub to ti t):=by
  intro aa s σ H v u Q I r h;rw[ha];refine FA (GB (E7 (ho aa s σ H _ I h) λov s1 ⟨x,H1,I1,r1,q1⟩=>?_));refine FA (GB (E7 (hi aa s1 σ H1 _ I1 q1) λiv s2 ⟨y,H2,I2,r2,q2⟩=>?_));refine FA (Ib (FA (GB (E7 (hs aa s2 σ H2 x y v ov iv u _ I2 r1 r2 r q2) λ_ s3 ⟨H3,I3,q3⟩=>?_))));exact wpAny_release ⟨σ,H3,I3,q3⟩
def tAsg(te:TE)(g:TG):TS:=λD σ H=>te σ H λx H1=>g x σ H1 D.nx
theorem xI{te:TE}{g:TG}(he:PE X e te)(hg:PG X tg g)(hs:swapsWithSole [tg] e pos.line X.env=pure false:=by rfl)(hw:swappedStores [tg] e X.env=pure none:=by rfl)
  (h1:(assignEach [tg] X.env).map (·.2)=[assign tg X.env]:=by rfl):PS X (.Assign [tg] e pos) (tAsg te g):=by
 intro aa s σ H D I h;refine wpAny_Assign_stores (E7 (he aa s σ H _ I h) λv s1 ⟨x,H1,I1,r1,q1⟩=>?_) hs hw;rw[h1];exact E7 (hg aa s1 σ H1 x v _ I1 r1 q1) λ_ s2 q=>q
theorem lL{te:TE}{pos':Pos}(hN:X.N.Nodup)(hi:X.N[i]?=some x)(hx:Loc X.env.scope x)(he:PE X e te)(hs:swapsWith e (some (.Name x pos')) pos.line X.env=pure false:=by rfl)(hf:X.fn x=true\/X.env.scope.names.lookup x=some .local :=by walk_at "v1") :
  PS X (.Assign [.Name x pos'] e pos) (tAsg te (qo i)):=by
 intro aa s σ H D I h;refine wpAny_Assign_Name (E7 (he aa s σ H _ I h) λv s1 ⟨y,H1,I1,r1,q1⟩=>?_) hs;exact gI I1 hN hi hx r1 (λs2 I2=>⟨_,H1,I2,q1⟩) hf
def tPar(i j:Nat)(ta:TA):TS:=λD σ H=>ta σ H λvs H1=>∃v w,vs=[v,w]/\D.nx ((σ.set i (some v)).set j (some w)) H1
theorem Bo{j:Nat}{y:Str}{a b:Expr}{ta:TA}{px py pt:Pos}{kt k2 pt2}(hc:X.calm=true)(hN:X.N.Nodup)(hi:X.N[i]?=some x)(hj:X.N[j]?=some y)(hij:i≠j)
  (hx:X.env.scope.names.lookup x=some .local) (hy:X.env.scope.names.lookup y=some .local) (ha:PA X [a,b] ta)
  (hw:swappedStores [.Tuple [.Name x px,.Name y py] kt pt] (.Tuple [a,b] k2 pt2) X.env=pure (some [x,y]))
  (hs:swapsWithSole [.Tuple [.Name x px,.Name y py] kt pt] (.Tuple [a,b] k2 pt2) pos.line X.env=pure false:=by rfl) :
  PS X (.Assign [.Tuple [.Name x px,.Name y py] kt pt] (.Tuple [a,b] k2 pt2) pos) (tPar i j ta):=by
 intro aa s σ H D I h;rw[exec_Assign_arm];refine FA (Ib ?_);rw[hs];refine FA (FQ ?_);rw[FN (by decide)];refine FA (Tuple_ (E7 (ha _ aa s σ H _ I h) λus s1 ⟨vs,H1,I1,r1,q1⟩=>?_));obtain⟨v,w,e1,q1⟩:=q1;subst e1;obtain⟨u1,u2,rfl,rv,rw'⟩:∃u1 u2,us=[u1,u2]/\bB v u1/\bB w u2:=by
  cases r1 with
  | cons p q =>
   cases q with
   | cons p' q' =>
    cases q'
    exact⟨_,_,rfl,p,p'⟩
 refine GJ ?_ (by show 2<=sizeLine;decide);have I2:Inv X aa σ H1 { s1 with heap:=s1.heap.push { cls:=.type "tuple",data:=.seq [u1,u2].toArray } }:=I1.kept (t':=s1.toks) λb o e=>Heap.get?_push_of_some _ e;rw[hw];refine FA (FQ ?_);show wpAny (model X.prog X.w) X.A (do rule "assign.swapped-stores";let items<-unpackItems (.ref s1.heap.objs.size) 2 none;assignInOrder [λv=>bindName X.env y v,λv=>bindName X.env x v] items.reverse;pure Flow.next) _ _ _;refine FA (wpAny_rule (FA (unpackItems_tuple (items:=#[u1,u2]) (I.ok.hd hc) (IsTup.new s1.heap _) λh' hx'=>?_)));have I3:=I2.kept (h':=h') (t':=s1.toks) λb o e=>hx' b o (Gb (FT e)) e;show wpAny _ _ (assignInOrder [λv=>bindName X.env y v,λv=>bindName X.env x v] [u2,u1] >>= λ_=>pure Flow.next) _ _ _;refine FA (assignInOrder_cons (wpAny_bindName (gI I3 hN hj (.inl hy) rw' (λs2 I4=>?_) (.inr hy))));refine assignInOrder_cons (wpAny_bindName (gI I4 hN hi (.inl hx) rv (λs3 I5=>assignInOrder_nil (FQ ?_)) (.inr hx)));rw[List.set_comm _ _ (Hl hij)] at I5;exact⟨_,H1,I5,q1⟩
end
section
variable {X:Cx} {pos:Pos}
def Cv(c:TT)(tb:TS):TS:=λD σ H=>∃W:Nat->St->Hp->Prop,(∃m,W m σ H)/\∀m σ H,W m σ H ->
 c σ H λb H1=>if b=true then ∃N:St->Hp->Prop,(∀σ' H',N σ' H'->∃m',m'<m/\W m' σ' H')/\tb { D with nx:=N,ct:=N,bk:=D.nx } σ H1 else D.nx σ H1
theorem wH{c:Expr}{body:List Stmt}{tc:TT}{tb:TS}(hp:PassesOwn (model X.prog X.w) X.A X.env X.xe)(hc:PT X c tc)(hb:PSs X body tb):PS X (.While c body [] pos) (Cv tc tb):=by
 intro aa s σ H D I h;obtain⟨W,⟨m0,w0⟩,ab⟩:=h;refine wpAny_While (codeAny_whileLoop (λn s'=>∃σ' H',Inv X aa σ' H' s'/\W n σ' H') ?_ m0 ⟨σ,H,I,w0⟩);rintro n s1 ⟨σ1,H1,I1,w1⟩;refine G1 hp (E7 (hc aa s1 σ1 H1 _ I1 (ab n σ1 H1 w1)) λb s2 ⟨H2,I2,q2⟩=>?_)
 cases b with
 | true =>
  obtain⟨N,hN,q2⟩:=q2;rw[FP rfl];refine G1 hp (E7 (hb aa s2 σ1 H2 _ I2 q2) λf s3 q3=>?_)
  cases f with
  | next =>
   obtain⟨σ3,H3,I3,n3⟩:=q3;obtain⟨m',hm,w3⟩:=hN σ3 H3 n3;exact⟨m',hm,σ3,H3,I3,w3⟩
  | cont =>
   obtain⟨σ3,H3,I3,n3⟩:=q3;obtain⟨m',hm,w3⟩:=hN σ3 H3 n3;exact⟨m',hm,σ3,H3,I3,w3⟩
  | brk=>exact q3
  | ret v=>exact q3
 | false =>
  rw[FN FG];exact Ie ⟨σ1,H2,I2,q2⟩
end
structure It where
 go:Nat->Hp->Prop
 yld:Nat->Hp->V->Hp->Prop
 stop:Nat->Hp->Prop
def wq(X:Cx)(pins:List (Addr×Obj))(H:Hp)(b:Addr):Prop :=
 H b=none/\b≠X.env.locals/\b∉X.fs/\(b∈X.ex\/X.s₀.heap.objs.size<=b)/\(∀x c,X.env.cells.lookup x=some c->c≠b)/\∀p∈X.pn++pins,p.1≠b
theorem Inv.fpOk{X:Cx}{pins:List (Addr×Obj)}{σ:St}{H H':Hp}{b:Addr}(I:Inv X pins σ H s)(hb:s.heap.objs.size<=b)(hn:H' b=none):wq X pins H' b:=by
 refine⟨hn,Hv (F9 I.lt hb),I.nofs hb,.inr (FB I.sz hb),λx c e z=>?_,λp hp z=>?_⟩
 ·obtain⟨v,q⟩:=I.cell x c e;exact absurd (F9 q.lt (by rw[z];exact hb)) (Gq _)
 ·exact absurd (F9 (FT (I.pin p hp).1) (by rw[z];exact hb)) (Gq _)
structure y6(P:Program)(w:World)(K:PySem.W.Frag)(tg:Expr)(J:It)(fp:List Addr)(it:Addr)(tn:Nat->Heap->Prop):Prop where
 mem:it∈fp
 obj:∀i h,tn i h->∀b∈fp,∃o,h.get? b=some o/\∀v,o.data≠.cell v
 keep:∀i h h',tn i h->(∀b∈fp,∀o,h.get? b=some o->h'.get? b=some o)->tn i h'
 item:∀(X:Cx),X.prog=P->X.w=w->X.K=K->X.calm=true->∀(i:Nat) (pins:List (Addr×Obj)) (s:Shared) (σ:St) (H:Hp) (E:Value->Shared->Prop),Inv X pins σ H s->(∀b∈fp,wq X pins H b)->tn i s.heap->J.go i H ->
  wpAny (model P w) X.A (pyNext (.ref it)) (λr s1=>∃u,r=some u /\
   wpAny (model P w) X.A (letOwnedTupleGo tg (.ref it) u) (λ_ s2=>∃x H',Inv X pins σ H' s2/\bB x u/\J.yld i H x H'/\tn (i+1) s2.heap/\∀b∈fp,H' b=none) E s1) E s
 done:∀(X:Cx),X.prog=P->X.w=w->X.K=K->X.calm=true->∀(i:Nat) (pins:List (Addr×Obj)) (s:Shared) (σ:St) (H:Hp) (E:Value->Shared->Prop),Inv X pins σ H s->(∀b∈fp,wq X pins H b)->tn i s.heap->J.stop i H ->
  wpAny (model P w) X.A (pyNext (.ref it)) (λr s1=>r=none/\Inv X pins σ H s1) E s
 self:∀(A:Around) (i:Nat) (s:Shared) (Q:Value->Shared->Prop) (E:Value->Shared->Prop),tn i s.heap->Q (.ref it) s->wpAny (model P w) A (pyIter (.ref it)) Q E s
abbrev TI:=St->Hp->(It->Hp->Prop)->Prop
def PIE(X:Cx)(pins:List (Addr×Obj))(σ:St)(tg:Expr)(R:It->Hp->Prop)(itv:Value)(s2:Shared):Prop :=
 ∃(it:Addr) (fp:List Addr) (tn:Nat->Heap->Prop) (J:It) (H':Hp),itv=.ref it/\Inv X pins σ H' s2/\y6 X.prog X.w X.K tg J fp it tn/\tn 0 s2.heap/\(∀b∈fp,wq X pins H' b)/\R J H'
def PI(X:Cx)(tg iter:Expr)(wi:TI):Prop :=
 ∀(pins:List (Addr×Obj)) (s:Shared) (σ:St) (H:Hp) (R:It->Hp->Prop),Inv X pins σ H s->wi σ H R ->
  wpAny (model X.prog X.w) X.A (eval iter X.env) (λv s1=>wpAny (model X.prog X.w) X.A (pyIter v) (PIE X pins σ tg R) X.xe s1) X.xe s
theorem uY{M:Model}{A:Around}{E:Value->Shared->Prop}{it:Addr}{u:Value}{o:Obj}{n:String}{vs:Array Value}{Q:Unit->Shared->Prop}(ho:s.heap.get? it=some o)(hc:o.cls=.type n)(hd:o.data=.fields vs)
    (hn:["enumerate","zip","dict_itemiterator","dict_reverseitemiterator","odict_iterator","itertools.zip_longest","itertools.pairwise"].contains n=false) (hQ:Q () s):wpAny M A (letOwnedTupleGo tg (.ref it) u) Q E s:=by
  unfold letOwnedTupleGo
  cases tg<;>first
    | exact FQ hQ
    | (cases u<;>first
        | exact FQ hQ
        | (refine FA (wpAny_load ho ?_)
           rw[hc,hd];show wpAny M A (if (["enumerate","zip","dict_itemiterator","dict_reverseitemiterator","odict_iterator","itertools.zip_longest","itertools.pairwise"].contains n&&vs[0]?==some (rawInt _))=true then _ else _) Q E s;rw[FN (by intro h;rw[hn,Bool.false_and] at h;cases h)]
           exact FQ hQ))
def Itl(K:PySem.W.Frag)(a:Addr):It :=
 ⟨λi H=>∃xs x,EX K H a xs/\xs[i]?=some x,λi H x H'=>H'=H/\∀xs,EX K H a xs->xs[i]?=some x,λi H=>∃xs,EX K H a xs/\xs.length<=i⟩
def Itt(K:PySem.W.Frag)(a:Addr):It :=
 ⟨λi H=>∃xs x,Fh K H a xs/\xs[i]?=some x,λi H x H'=>H'=H/\∀xs,Fh K H a xs->xs[i]?=some x,λi H=>∃xs,Fh K H a xs/\xs.length<=i⟩
def Itr(lo:Int)(n:Nat):It:=⟨λi _=>i<n,λi H x H'=>H'=H/\x=.int (lo+i),λi _=>n<=i⟩
theorem lV(a it:Addr):y6 P w K tg (Itl K a) [it] it (λi h=>h.IsListIter it a i) where
 mem:=by simp
 obj:=λi h st b hb=>by
  have e:b=it:=by simpa using hb
  subst e;obtain⟨o,e,c,d⟩:=st;exact⟨o,e,λv z=>by rw[d] at z;cases z⟩
 keep:=λi h h' st k=>st.at λo e=>k it (by simp) o e
 item:=by
  intro X hP hw hK hc i aa s σ H E I hf st hg;subst hP hw hK;obtain⟨xs,x,hq,hx⟩:=hg;obtain⟨ab,rv,p,hz⟩:=I.list hq;obtain⟨u,hu,ru⟩:=rv.get hx;obtain⟨f0,f1,f2,f3,f4,f5⟩:=hf it (by simp);refine wpAny_pyNext_list_item st p.isList (x:=u) (by simpa using hu) λh' st' sb=>?_;have I1:Inv X aa σ H { s with heap:=h' }:=I.turned (t':=s.toks) (λb o hb e=>(sb.2 b hb).trans e) f0 f1 f3 f4 f5;obtain⟨o,e,c,d⟩:=id st';exact⟨u,rfl,uY (s:={ s with heap:=h' }) e c d (by decide) ⟨x,H,I1,ru,⟨rfl,λys hy=>by rw[I.list_inj hy hq];exact hx⟩,st',λb hb=>(hf b hb).1⟩⟩
 done:=by
  intro X hP hw hK hc i aa s σ H E I hf st hg;subst hP hw hK;obtain⟨xs,hq,hx⟩:=hg;obtain⟨ab,rv,p,hz⟩:=I.list hq;obtain⟨f0,f1,f2,f3,f4,f5⟩:=hf it (by simp);have hl:=rv.length;exact wpAny_pyNext_list_end (I.ok.hd hc) st p.isList (by simp;omega) λh' eb=>⟨rfl,I.turned (t':=s.toks) (λb o hb e=>eb b o hb e) f0 f1 f3 f4 f5⟩
 self:=λ_ _ _ _ _ st h=>wpAny_pyIter_listiter st h
theorem jL(a it:Addr):y6 P w K tg (Itt K a) [it] it (λi h=>h.IsTupleIter it a i) where
 mem:=by simp
 obj:=λi h st b hb=>by
  have e:b=it:=by simpa using hb
  subst e;obtain⟨o,e,c,d⟩:=st;exact⟨o,e,λv z=>by rw[d] at z;cases z⟩
 keep:=λi h h' st k=>st.at λo e=>k it (by simp) o e
 item:=by
  intro X hP hw hK hc i aa s σ H E I hf st hg;subst hP hw hK;obtain⟨xs,x,hq,hx⟩:=hg;obtain⟨ab,rv,p,hz⟩:=I.tuple hq;obtain⟨u,hu,ru⟩:=rv.get hx;obtain⟨f0,f1,f2,f3,f4,f5⟩:=hf it (by simp);refine wpAny_pyNext_tuple_item st (show s.heap.IsTuple a ab.toArray from p) (x:=u) (by simpa using hu) λh' st' sb=>?_;have I1:Inv X aa σ H { s with heap:=h' }:=I.turned (t':=s.toks) (λb o hb e=>(sb.2 b hb).trans e) f0 f1 f3 f4 f5;obtain⟨o,e,c,d⟩:=id st';exact⟨u,rfl,uY (s:={ s with heap:=h' }) e c d (by decide) ⟨x,H,I1,ru,⟨rfl,λys hy=>by rw[I.tuple_inj hy hq];exact hx⟩,st',λb hb=>(hf b hb).1⟩⟩
 done:=by
  intro X hP hw hK hc i aa s σ H E I hf st hg;subst hP hw hK;obtain⟨xs,hq,hx⟩:=hg;obtain⟨ab,rv,p,hz⟩:=I.tuple hq;obtain⟨f0,f1,f2,f3,f4,f5⟩:=hf it (by simp);have hl:=rv.length;exact wpAny_pyNext_tuple_end (I.ok.hd hc) st (show s.heap.IsTuple a ab.toArray from p) (by simp;omega) λh' eb=>⟨rfl,I.turned (t':=s.toks) (λb o hb e=>eb b o hb e) f0 f1 f3 f4 f5⟩
 self:=λ_ _ _ _ _ st h=>wpAny_pyIter_tupleiter st h
theorem qx(it:Addr)(lo:Int)(n:Nat):y6 P w K tg (Itr lo n) [it] it (λi h=>IsRangeIter h it (lo+(i:Nat)*1) ((n:Int)-(i:Nat)) 1) where
 mem:=by simp
 obj:=λi h st b hb=>by
  have e:b=it:=by simpa using hb
  subst e
  exact⟨_,st,λv z=>by
   have z':Data.fields _=Data.cell v:=z
   cases z'⟩
 keep:=λi h h' st k=>k it (by simp) _ st
 item:=by
  intro X hP hw hK hc i aa s σ H E I hf st hg;subst hP hw hK;obtain⟨f0,f1,f2,f3,f4,f5⟩:=hf it (by simp);have W:=Walks.range (prog:=X.prog) (w:=X.w) (I.ok.hd hc) it lo 1 n;refine W.item i s _ _ hg st λv h' tk hv st' kk=>?_;obtain⟨t,rfl⟩:=hv;have I1:Inv X aa σ H { s with heap:=h',toks:=tk }:=I.turned (λb o hb e=>kk b o (by simpa using hb) e) f0 f1 f3 f4 f5;refine⟨_,rfl,uY (s:={ s with heap:=h',toks:=tk }) (n:="range_iterator") st' rfl rfl (by decide) ⟨.int (lo+i),H,I1,⟨t,?_⟩,⟨rfl,rfl⟩,st',λb hb=>(hf b hb).1⟩⟩;rw[Int.mul_one]
 done:=by
  intro X hP hw hK hc i aa s σ H E I hf st hg;subst hP hw hK;obtain⟨f0,f1,f2,f3,f4,f5⟩:=hf it (by simp);exact wpAny_pyNext_range_end (I.ok.hd hc) st (by have:n<=i:=hg;omega) λh' eb=>⟨rfl,I.turned (t':=s.toks) (λb o hb e=>eb b o hb e) f0 f1 f3 f4 f5⟩
 self:=λ_ _ _ _ _ st h=>wpAny_pyIter_rangeiter st h
end L2
namespace L2
open PySem PySem.Spec PyProof.Rows
variable {pins:List (Addr×Obj)} {σ:St} {H:Hp} {s:Shared} {fp:List Addr}
section
variable {X:Cx} {tg:Expr}
def Ec(K:PySem.W.Frag)(tl:TE):TI:=λσ H R=>tl σ H λx H1=>∃a,x=.ref a/\(∃xs,EX K H1 a xs)/\R (Itl K a) H1
def iTup(K:PySem.W.Frag)(tl:TE):TI:=λσ H R=>tl σ H λx H1=>∃a,x=.ref a/\(∃xs,Fh K H1 a xs)/\R (Itt K a) H1
theorem sQ{l:Expr}{tl:TE}(hl:PE X l tl):PI X tg l (Ec X.K tl):=by
 intro aa s σ H R I h;refine E7 (hl aa s σ H _ I h) λv s1 ⟨x,H1,I1,r1,q1⟩=>?_;obtain⟨a,e,⟨xs,hq⟩,q⟩:=q1;subst e
 cases r1
 obtain⟨ab,rv,p,hz⟩:=I1.list hq;refine Hh p.isList ?_;refine⟨s1.heap.objs.size,[s1.heap.objs.size],_,_,H1,rfl,I1.kept (t':=s1.toks) λb o e=>Heap.get?_push_of_some _ e,lV a _,⟨_,Heap.get?_push_size _ rfl,rfl,rfl⟩,λb hb=>?_,q⟩;have e:b=s1.heap.objs.size:=by simpa using hb
 subst e;exact I1.fpOk (FH _) (I1.hok.fresh (FH _))
theorem wW{l:Expr}{tl:TE}(hl:PE X l tl):PI X tg l (iTup X.K tl):=by
 intro aa s σ H R I h;refine E7 (hl aa s σ H _ I h) λv s1 ⟨x,H1,I1,r1,q1⟩=>?_;obtain⟨a,e,⟨xs,hq⟩,q⟩:=q1;subst e
 cases r1
 obtain⟨ab,rv,p,hz⟩:=I1.tuple hq;refine wpAny_pyIter_tuple (show s1.heap.IsTuple a ab.toArray from p) ?_;refine⟨s1.heap.objs.size,[s1.heap.objs.size],_,_,H1,rfl,I1.kept (t':=s1.toks) λb o e=>Heap.get?_push_of_some _ e,jL a _,⟨_,Heap.get?_push_size _ rfl,rfl,rfl⟩,λb hb=>?_,q⟩;have e:b=s1.heap.objs.size:=by simpa using hb
 subst e;exact I1.fpOk (FH _) (I1.hok.fresh (FH _))
theorem vC{R:It->Hp->Prop}{E:Value->Shared->Prop}{lo hi:Int}{t u v:Tok}{tk:Nat}(I:Inv X pins σ H s)(h1:-(2 ^ 62)<=lo)(h2:lo<2 ^ 62)(h3:-(2 ^ 62)<=hi)(h4:hi<2 ^ 62)
  (q:R (Itr lo (hi-lo).toNat) H):wpAny (model X.prog X.w) X.A (pyIter (.ref s.heap.objs.size)) (PIE X pins σ tg R) E { s with heap:=s.heap.push { cls:=.type "range",data:=.fields #[.int lo t,.int hi u,.int 1 v] },toks:=tk }:=by
 refine wpAny_pyIter_range (IsRange.new ..) (small_one h1 h2 h3 h4) ?_;have I1:Inv X pins σ H { s with heap:=s.heap.push { cls:=.type "range",data:=.fields #[.int lo t,.int hi u,.int 1 v] },toks:=tk }:=I.kept λb o e=>Heap.get?_push_of_some _ e
 refine⟨(s.heap.push { cls:=.type "range",data:=.fields #[.int lo t,.int hi u,.int 1 v] }).objs.size,[(s.heap.push { cls:=.type "range",data:=.fields #[.int lo t,.int hi u,.int 1 v] }).objs.size],_,_,H,rfl,
  I1.kept (t':=tk) λb o e=>Heap.get?_push_of_some _ e,qx _ lo (hi-lo).toNat,?_,λb hb=>?_,q⟩
 ·have e1:lo+((0:Nat):Int)*1=lo:=by simp
  have e2:(((hi-lo).toNat:Nat):Int)-((0:Nat):Int)=Builtin.Range.rangeSize lo hi 1:=by rw[rangeSize_one];split<;>omega
  show IsRangeIter _ _ (lo+((0:Nat):Int)*1) ((((hi-lo).toNat:Nat):Int)-((0:Nat):Int)) 1
  rw[e1,e2];exact Heap.get?_push_size _ rfl
 ·have e:b=(s.heap.push { cls:=.type "range",data:=.fields #[.int lo t,.int hi u,.int 1 v] }).objs.size:=by simpa using hb
  subst e;exact I1.fpOk (FH _) (I1.hok.fresh (FH _))
def ES(ta:TA):TI:=λσ H R=>ta σ H λvs H1=>∃j:Int,vs=[.int j]/\-(2 ^ 62)<=j/\j<2 ^ 62/\R (Itr 0 j.toNat) H1
theorem lX{a:Expr}{ta:TA}{p pos:Pos}(hg:Gl X "range")(hm:X.mg "range"=none)(ha:PA X [a] ta)(hs:starEach [a] X.env=[(false,eval a X.env)]:=by rfl):PI X tg (.Call (.Name "range" p) [a] [] pos) (ES ta):=by
 intro aa s σ H R I h;refine Call_ (iw I hg hm boot_range (GE (E7 (ha pos aa s σ H _ I h) λus s1 ⟨vs,H1,I1,r1,q1⟩=>?_) hs rfl));obtain⟨j,e,q1,q2,q⟩:=q1;subst e
 cases r1 with
 | cons r rr =>
  cases rr
  obtain⟨t,rfl⟩:=r;exact call_range_1 (vC I1 (by omega) (by omega) q1 q2 (by simpa using q))
def tFor(wi:TI)(g:TG)(tb:TS):TS:=λD σ H=>wi σ H λJ H1=>∃W:Nat->Nat->St->Hp->Prop,(∃m,W 0 m σ H1)/\∀i m σ H,W i m σ H ->
 (J.stop i H/\D.nx σ H)\/(J.go i H/\∃N:St->Hp->Prop,(∀σ' H',N σ' H'->∃m',m'<m/\W (i+1) m' σ' H')/\∀x H',J.yld i H x H'->g x σ H' λσ2 H2=>tb { D with nx:=N,ct:=N,bk:=D.nx } σ2 H2)
def lO(fp:List Addr)(h:Heap):List (Addr×Obj):=fp.filterMap λb=>(h.get? b).map λo=>(b,o)
theorem em{h:Heap}{b:Addr}{o:Obj}(hb:b∈fp)(e:h.get? b=some o):(b,o)∈lO fp h:=HB.mpr ⟨b,hb,by rw[e];rfl⟩
theorem uA{h:Heap}{p:Addr×Obj}(hp:p∈lO fp h):p.1∈fp/\h.get? p.1=some p.2:=by
 obtain⟨b,hb,e⟩:=HB.mp hp
 cases q:h.get? b with
 | none=>rw[q] at e;cases e
 | some o =>
  rw[q] at e;have e':(b,o)=p:=FU e;subst e';exact⟨hb,q⟩
theorem Inv.pinned(I:Inv X pins σ H s)(hf:∀b∈fp,wq X pins H b)(ho:∀b∈fp,∃o,s.heap.get? b=some o/\∀v,o.data≠.cell v):Inv X (pins++lO fp s.heap) σ H s :=
 I.pins_of λp hp=>(FV.mp hp).elim (λz=>I.pin p (FR _ z)) λz=>by
  obtain⟨hb,e⟩:=uA z;obtain⟨f0,f1,f2,_⟩:=hf p.1 hb;obtain⟨o,e',d⟩:=ho p.1 hb;rw[e] at e';cases e';exact⟨e,f0,f1,f2,d⟩
theorem Inv.unpinned{pl:List (Addr×Obj)}(I:Inv X (pins++pl) σ H s):Inv X pins σ H s:=I.pins_of λp hp=>I.pin p (FR _ (F4 _ hp))
theorem oh{iter:Expr}{body:List Stmt}{wi:TI}{g:TG}{tb:TS}{pos:Pos}(hp:PassesOwn (model X.prog X.w) X.A X.env X.xe)(hc:X.calm=true)(hi:PI X tg iter wi)(hg:PG X tg g)(hb:PSs X body tb)
  (hs:∀x,foldedSetIterable iter X.env x=pure x:=by intro _;rfl):PS X (.For tg iter body [] pos) (tFor wi g tb):=by
 intro aa s σ H D I h;refine wpAny_For (E7 (hi aa s σ H _ I h) λv s1 h1=>E7 h1 λitv s2 h2=>?_) hs;obtain⟨it,fp,tn,J,H2,e,I2,T,al,f2,W,⟨m0,w0⟩,aj⟩:=h2;subst e;have ab:∀ {H':Hp},(∀b∈fp,H' b=none)->∀b∈fp,wq X aa H' b:=λhn b hb=>⟨hn b hb,(f2 b hb).2⟩;refine codeAny_forLoop_any (λn s'=>∃i σ' H',Inv X aa σ' H' s'/\tn i s'.heap/\(∀b∈fp,H' b=none)/\W i n σ' H') ?_ m0 ⟨0,σ,H2,I2,al,λb hb=>(f2 b hb).1,w0⟩;rintro n s3 ⟨i,σ3,H3,I3,st3,fr3,w3⟩
 rcases aj i n σ3 H3 w3 with⟨ai,qn⟩ | ⟨go,N,hN,step⟩
 ·refine G1 hp (E7 (T.done X rfl rfl rfl hc i aa s3 σ3 H3 X.xe I3 (ab fr3) st3 ai) λr s4 ⟨hr,I4⟩=>?_);subst hr;exact Ie ⟨σ3,H3,I4,qn⟩
 ·refine G1 hp (E7 (T.item X rfl rfl rfl hc i aa s3 σ3 H3 X.xe I3 (ab fr3) st3 go) λr s4 ⟨u,hr,h4⟩=>?_);subst hr;refine G1 hp (E7 h4 λ_ s5 ⟨x,H5,I5,r5,y5,st5,fr5⟩=>?_);have an:=I5.pinned (ab fr5) (T.obj _ _ st5);refine G1 hp (E7 (hg _ s5 σ3 H5 x u _ an r5 (step x H5 y5)) λ_ s6 ⟨σ6,H6,I6,q6⟩=>?_);refine G1 hp (E7 (hb _ s6 σ6 H6 _ I6 q6) λf s7 q7=>?_);have ah:∀ {σ7:St} {H7:Hp},Inv X (aa++lO fp s5.heap) σ7 H7 s7->N σ7 H7->∃m,m<n/\∃i σ' H',Inv X aa σ' H' s7/\tn i s7.heap/\(∀b∈fp,H' b=none)/\W i m σ' H':=λ{σ7 H7} I7 n7=>by
   obtain⟨m',hm,w7⟩:=hN σ7 H7 n7;refine⟨m',hm,i+1,σ7,H7,I7.unpinned,T.keep _ _ _ st5 λb hb o e=>(I7.pin (b,o) (FR _ (FR _ (em hb e)))).1,λb hb=>?_,w7⟩;obtain⟨o,e,d⟩:=T.obj _ _ st5 b hb;exact(I7.pin (b,o) (FR _ (FR _ (em hb e)))).2.1
  cases f with
  | next=>obtain⟨σ7,H7,I7,n7⟩:=q7;exact ah I7 n7
  | cont=>obtain⟨σ7,H7,I7,n7⟩:=q7;exact ah I7 n7
  | brk=>obtain⟨σ7,H7,I7,q7⟩:=q7;exact⟨σ7,H7,I7.unpinned,q7⟩
  | ret v=>obtain⟨x7,σ7,H7,I7,r7,q7⟩:=q7;exact⟨x7,σ7,H7,I7.unpinned,r7,q7⟩
end
theorem tS{lo:Int}{n:Nat}{g:TG}{tb:TS}{D:yp}(Pv:Nat->St->Hp->Prop)(h0:Pv 0 σ H)
  (hs:∀i σ H,i<n->Pv i σ H->g (.int (lo+i)) σ H λσ2 H2=>tb { D with nx:=Pv (i+1),ct:=Pv (i+1),bk:=D.nx } σ2 H2) (hd:∀σ H,Pv n σ H->D.nx σ H) :
  ∃W:Nat->Nat->St->Hp->Prop,(∃m,W 0 m σ H)/\∀i m σ H,W i m σ H ->
   ((Itr lo n).stop i H/\D.nx σ H)\/((Itr lo n).go i H/\∃N:St->Hp->Prop,(∀σ' H',N σ' H'->∃m',m'<m/\W (i+1) m' σ' H')/\∀x H',(Itr lo n).yld i H x H'->g x σ H' λσ2 H2=>tb { D with nx:=N,ct:=N,bk:=D.nx } σ2 H2):=by
 refine⟨λi m σ H=>m=n-i/\i<=n/\Pv i σ H,⟨n,by simp,GN _,h0⟩,?_⟩;rintro i m σ H ⟨rfl,hi,p⟩
 by_cases hlt:i<n
 ·refine .inr ⟨hlt,Pv (i+1),λσ' H' p'=>⟨n-(i+1),by omega,rfl,hlt,p'⟩,λx H' y=>?_⟩;obtain⟨e,y⟩:=y;subst e y;exact hs i σ _ hlt p
 ·have e:i=n:=by omega
  subst e;exact .inl ⟨FH _,hd σ H p⟩
end L2
namespace L2
open PySem PySem.Spec PyProof.Rows
variable {f:Value→Value→Sem Value} {op:CmpOp}
abbrev R2:=V->V->Hp->VK->Prop
def E9(X:Cx)(f:Value->Value->Sem Value)(r:R2):Prop :=
 ∀(pins:List (Addr×Obj)) (s:Shared) (σ:St) (H:Hp) (x y:V) (v u:Value) (Q:VK),Inv X pins σ H s->bB x v->bB y u->r x y H Q ->
  wpAny (model X.prog X.w) X.A (f v u) (EP X pins σ Q) X.xe s
def UnR(X:Cx)(f:Value->Sem Value)(r:V->Hp->VK->Prop):Prop :=
 ∀(pins:List (Addr×Obj)) (s:Shared) (σ:St) (H:Hp) (x:V) (v:Value) (Q:VK),Inv X pins σ H s->bB x v->r x H Q ->
  wpAny (model X.prog X.w) X.A (f v) (EP X pins σ Q) X.xe s
def cm(X:Cx)(f:Value)(r:Zf->Hp->VK->Prop):Prop :=
 ∀(pins:List (Addr×Obj)) (s:Shared) (σ:St) (H:Hp) (xs:Zf) (us:Zc) (Q:VK),Inv X pins σ H s->bv xs us->r xs H Q ->
  wpAny (model X.prog X.w) X.A (call f us) (EP X pins σ Q) X.xe s
def tOp(r:R2)(ta tb:TE):TE:=λσ H Q=>ta σ H λx H1=>tb σ H1 λy H2=>r x y H2 Q
def tUn(r:V->Hp->VK->Prop)(ta:TE):TE:=λσ H Q=>ta σ H λx H1=>r x H1 Q
def rI(C:Int->Int->Prop)(g:Int->Int->V):R2:=λx y H Q=>∃i j,x=.int i/\y=.int j/\C i j/\Q (g i j) H
def rI0(g:Int->Int->V):R2:=λx y H Q=>∃i j,x=.int i/\y=.int j/\Q (g i j) H
def rU(g:Int->V):V->Hp->VK->Prop:=λx H Q=>∃i,x=.int i/\Q (g i) H
section
variable {X:Cx} {a b c:Expr} {ta tb tc:TE} {pos:Pos}
theorem binT(ha:PE X a ta)(hb:PE X b tb){pins:List (Addr×Obj)}{s:Shared}{σ:St}{H:Hp}{R:V->V->Hp->Prop}(I:Inv X pins σ H s)
  (h:ta σ H λx H1=>tb σ H1 λy H2=>R x y H2) {Q:Value->Shared->Prop} {f:Value->Value->Sem Value}
  (hf:∀v u s2 x y H2,Inv X pins σ H2 s2->bB x v->bB y u->R x y H2->wpAny (model X.prog X.w) X.A (f v u) Q X.xe s2) :
  wpAny (model X.prog X.w) X.A (eval a X.env) (λv s₁=>wpAny (model X.prog X.w) X.A (eval b X.env) (λu s₂=>wpAny (model X.prog X.w) X.A (f v u) Q X.xe s₂) X.xe s₁) X.xe s:=by
 refine E7 (ha pins s σ H _ I h) λv s1 ⟨x,H1,I1,r1,q1⟩=>?_;refine E7 (hb pins s1 σ H1 _ I1 q1) λu s2 ⟨y,H2,I2,r2,q2⟩=>?_;exact hf v u s2 x y H2 I2 r1 r2 q2
theorem Eg{op:Operator}{r:R2}(ho:E9 X (binaryOp op) r)(ha:PE X a ta)(hb:PE X b tb):PE X (.BinOp a op b pos) (tOp r ta tb):=by
 intro aa s σ H Q I h;exact wpAny_BinOp (binT ha hb I h λv u s2 x y H2 I2 rx ry q=>ho aa s2 σ H2 x y v u Q I2 rx ry q)
theorem EG{op:UnaryOp}{r:V->Hp->VK->Prop}(ho:UnR X (unaryOp op) r)(ha:PE X a ta):PE X (.UnaryOp op a pos) (tUn r ta):=by
 intro aa s σ H Q I h;exact UnaryOp_ (E7 (ha aa s σ H _ I h) λv s1 ⟨x,H1,I1,r1,q1⟩=>ho aa s1 σ H1 x v Q I1 r1 q1)
theorem opI{C:Int->Int->Prop}{g:Int->Int->Int}
  (rule:∀(i j:Int) (t u:Tok) (s:Shared) (Q:Value->Shared->Prop) (E:Value->Shared->Prop),C i j->Q (.int (g i j) s.toks) { s with toks:=s.toks+1 }->wpAny (model X.prog X.w) X.A (f (.int i t) (.int j u)) Q E s) :
  E9 X f (rI C λi j=>.int (g i j)):=by
 intro aa s σ H x y v u Q I rx ry h;obtain⟨i,j,rfl,rfl,hc,q⟩:=h;obtain⟨t,rfl⟩:=rx;obtain⟨t',rfl⟩:=ry;exact rule i j t t' s _ _ hc ⟨.int (g i j),H,I.tok _,⟨_,rfl⟩,q⟩
theorem uZ{g:Int->Int->Int}
  (rule:∀(i j:Int) (t u:Tok) (s:Shared) (Q:Value->Shared->Prop) (E:Value->Shared->Prop),Q (.int (g i j) s.toks) { s with toks:=s.toks+1 }->wpAny (model X.prog X.w) X.A (f (.int i t) (.int j u)) Q E s) :
  E9 X f (rI0 λi j=>.int (g i j)):=by
 intro aa s σ H x y v u Q I rx ry h;obtain⟨i,j,rfl,rfl,q⟩:=h;obtain⟨t,rfl⟩:=rx;obtain⟨t',rfl⟩:=ry;exact rule i j t t' s _ _ ⟨.int (g i j),H,I.tok _,⟨_,rfl⟩,q⟩
theorem opB0{g:Int->Int->Bool}
  (rule:∀(i j:Int) (t u:Tok) (s:Shared) (Q:Value->Shared->Prop) (E:Value->Shared->Prop),Q (.bool (g i j)) s->wpAny (model X.prog X.w) X.A (f (.int i t) (.int j u)) Q E s) :
  E9 X f (rI0 λi j=>.bl (g i j)):=by
 intro aa s σ H x y v u Q I rx ry h;obtain⟨i,j,rfl,rfl,q⟩:=h;obtain⟨t,rfl⟩:=rx;obtain⟨t',rfl⟩:=ry;exact rule i j t t' s _ _ ⟨.bl (g i j),H,I,rfl,q⟩
def CPow(i j:Int):Prop:=0<=j/\j<=1000000/\i.natAbs<2 ^ 64
def CMul(i j:Int):Prop:=(-(2 ^ 64)<i/\i<2 ^ 64)\/(-(2 ^ 64)<j/\j<2 ^ 64)
theorem CMul.ok{i j:Int}(h:CMul i j):IntMulOk i j:=by
 rcases h with⟨h1,h2⟩ | ⟨h1,h2⟩
 ·exact .of_left (intBits_le_64 h1 h2)
 ·exact .of_right (intBits_le_64 h1 h2)
theorem Cn:E9 X (binaryOp .Add) (rI0 λi j=>.int (i+j)):=uZ λ_ _ _ _ _ _ _ q=>add_int q
theorem Br:E9 X (binaryOp .Sub) (rI0 λi j=>.int (i-j)):=uZ λ_ _ _ _ _ _ _ q=>sub_int q
theorem xZ:E9 X (binaryOp .Mod) (rI (λ_ j=>j≠0) λi j=>.int (i.fmod j)):=opI λ_ _ _ _ _ _ _ hc q=>mod_int' hc q
theorem BT:E9 X (binaryOp .Pow) (rI CPow λi j=>.int (i ^ j.toNat)):=opI λ_ _ _ _ _ _ _ hc q=>pow_int_small hc.1 hc.2.1 hc.2.2 q
theorem unI{f:Value->Sem Value}{g:Int->Int}
  (rule:∀(i:Int) (t:Tok) (s:Shared) (Q:Value->Shared->Prop) (E:Value->Shared->Prop),Q (.int (g i) s.toks) { s with toks:=s.toks+1 }->wpAny (model X.prog X.w) X.A (f (.int i t)) Q E s) :
  UnR X f (rU λi=>.int (g i)):=by
 intro aa s σ H x v Q I rx h;obtain⟨i,rfl,q⟩:=h;obtain⟨t,rfl⟩:=rx;exact rule i t s _ _ ⟨.int (g i),H,I.tok _,⟨_,rfl⟩,q⟩
theorem Cs:UnR X (unaryOp .USub) (rU λi=>.int (-i)):=unI λ_ _ _ _ _ q=>neg_int q
end
def scal:V->V->Bool
 | .non,.non=>true | .non,.int _=>true | .int _,.non=>true | .non,.bl _=>true | .bl _,.non=>true | .non,.str _=>true | .str _,.non=>true
 | .int _,.int _=>true | .bl _,.bl _=>true | .str _,.str _=>true | .byt _,.byt _=>true
 | .int _,.str _=>true | .str _,.int _=>true | .bl _,.str _=>true | .str _,.bl _=>true
 | _,_=>false
def rEq:R2:=λx y H Q=>scal x y=true/\Q (.bl (decide (x=y))) H
def rNe:R2:=λx y H Q=>scal x y=true/\Q (.bl (!decide (x=y))) H
theorem nk{i j:Int}:decide (V.int i=V.int j)=(i==j):=by
 rw[GU];simp
theorem uq{i j:Bool}:decide (V.bl i=V.bl j)=(i==j):=by
 rw[GU];simp
theorem m7{i j:Str}:decide (V.str i=V.str j)=(i==j):=by
 rw[GU];simp
theorem r9{i j:Array UInt8}:decide (V.byt i=V.byt j)=(i.toList==j.toList):=by
 rw[GU]
 cases i
 cases j
 simp
section
variable {X:Cx} {a b c:Expr} {ta tb tc:TE} {pos:Pos}
theorem aO{pins:List (Addr×Obj)}{σ:St}{H:Hp}{s:Shared}{Q:VK}{k k':Bool}(I:Inv X pins σ H s)(q:Q (.bl k) H)(e:k=k'):EP X pins σ Q (.bool k') s:=by
 subst e;exact⟨.bl k,H,I,rfl,q⟩
theorem yM:E9 X (compareOp .Eq) rEq:=by
 intro aa s σ H x y v u Q I rx ry h;obtain⟨hs,q⟩:=h
 cases x with
 | non =>
  cases rx
  cases y with
  | non=>cases ry;exact PySem.EqNone.eq_none_none (aO I q (by simp))
  | bl j=>cases ry;exact PySem.EqNone.eq_none_bool (aO I q (by simp))
  | int j=>obtain⟨t',rfl⟩:=ry;exact PySem.EqNone.eq_none_int (aO I q (by simp))
  | str j=>obtain⟨t',rfl⟩:=ry;exact PySem.EqNone.eq_none_str (aO I q (by simp))
  | _=>exact absurd (show false=true from hs) FG
 | bl i =>
  cases rx
  cases y with
  | non=>cases ry;exact PySem.EqNone.eq_bool_none (aO I q (by simp))
  | bl j=>cases ry;exact eq_bool (aO I q uq)
  | str j=>obtain⟨t',rfl⟩:=ry;exact PySem.EqMixed.eq_bool_str (aO I q (by simp))
  | _=>exact absurd (show false=true from hs) FG
 | int i =>
  obtain⟨t,rfl⟩:=rx
  cases y with
  | non=>cases ry;exact PySem.EqNone.eq_int_none (aO I q (by simp))
  | int j=>obtain⟨t',rfl⟩:=ry;exact eq_int (aO I q nk)
  | str j=>obtain⟨t',rfl⟩:=ry;exact PySem.EqMixed.eq_int_str (aO I q (by simp))
  | _=>exact absurd (show false=true from hs) FG
 | str i =>
  obtain⟨t,rfl⟩:=rx
  cases y with
  | non=>cases ry;exact PySem.EqNone.eq_str_none (aO I q (by simp))
  | bl j=>cases ry;exact PySem.EqMixed.eq_str_bool (aO I q (by simp))
  | int j=>obtain⟨t',rfl⟩:=ry;exact PySem.EqMixed.eq_str_int (aO I q (by simp))
  | str j=>obtain⟨t',rfl⟩:=ry;exact eq_str (aO I q m7)
  | _=>exact absurd (show false=true from hs) FG
 | byt i =>
  obtain⟨t,rfl⟩:=rx
  cases y with
  | byt j=>obtain⟨t',rfl⟩:=ry;exact PySem.W.eq_bytes (aO I q r9)
  | _=>exact absurd (show false=true from hs) FG
 | _=>cases y<;>exact absurd (show false=true from hs) FG
theorem zO:E9 X (compareOp .NotEq) rNe:=by
 intro aa s σ H x y v u Q I rx ry h;obtain⟨hs,q⟩:=h
 cases x with
 | non =>
  cases rx
  cases y with
  | non=>cases ry;exact PySem.EqNone.ne_none_none (aO I q (by simp))
  | bl j=>cases ry;exact PySem.EqNone.ne_none_bool (aO I q (by simp))
  | int j=>obtain⟨t',rfl⟩:=ry;exact PySem.EqNone.ne_none_int (aO I q (by simp))
  | str j=>obtain⟨t',rfl⟩:=ry;exact PySem.EqNone.ne_none_str (aO I q (by simp))
  | _=>exact absurd (show false=true from hs) FG
 | bl i =>
  cases rx
  cases y with
  | non=>cases ry;exact PySem.EqNone.ne_bool_none (aO I q (by simp))
  | bl j=>cases ry;exact ne_bool (aO I q (GQ not uq))
  | str j=>obtain⟨t',rfl⟩:=ry;exact PySem.EqMixed.ne_bool_str (aO I q (by simp))
  | _=>exact absurd (show false=true from hs) FG
 | int i =>
  obtain⟨t,rfl⟩:=rx
  cases y with
  | non=>cases ry;exact PySem.EqNone.ne_int_none (aO I q (by simp))
  | int j=>obtain⟨t',rfl⟩:=ry;exact ne_int (aO I q (GQ not nk))
  | str j=>obtain⟨t',rfl⟩:=ry;exact PySem.EqMixed.ne_int_str (aO I q (by simp))
  | _=>exact absurd (show false=true from hs) FG
 | str i =>
  obtain⟨t,rfl⟩:=rx
  cases y with
  | non=>cases ry;exact PySem.EqNone.ne_str_none (aO I q (by simp))
  | bl j=>cases ry;exact PySem.EqMixed.ne_str_bool (aO I q (by simp))
  | int j=>obtain⟨t',rfl⟩:=ry;exact PySem.EqMixed.ne_str_int (aO I q (by simp))
  | str j=>obtain⟨t',rfl⟩:=ry;exact ne_str (aO I q (GQ not m7))
  | _=>exact absurd (show false=true from hs) FG
 | byt i =>
  obtain⟨t,rfl⟩:=rx
  cases y with
  | byt j=>obtain⟨t',rfl⟩:=ry;exact PySem.W.ne_bytes (aO I q (GQ not r9))
  | _=>exact absurd (show false=true from hs) FG
 | _=>cases y<;>exact absurd (show false=true from hs) FG
theorem DM:E9 X (compareOp .Lt) (rI0 λi j=>.bl (decide (i<j))):=opB0 λ_ _ _ _ _ _ _ q=>lt_int q
theorem D1:E9 X (compareOp .LtE) (rI0 λi j=>.bl (decide (i<=j))):=opB0 λ_ _ _ _ _ _ _ q=>le_int q
theorem Ex:E9 X (compareOp .Gt) (rI0 λi j=>.bl (decide (j<i))):=opB0 λ_ _ _ _ _ _ _ q=>gt_int q
theorem Ds:E9 X (compareOp .GtE) (rI0 λi j=>.bl (decide (j<=i))):=opB0 λ_ _ _ _ _ _ _ q=>ge_int q
theorem C0:E9 X (compareOp .Is) (λx y H Q=>y=.non/\Q (.bl (decide (x=.non))) H):=by
 intro aa s σ H x y v u Q I rx ry h;obtain⟨rfl,q⟩:=h
 cases ry
 refine is_none_gen (aO I q ?_)
 cases x<;>first
  | (cases rx;rfl)
  | (obtain⟨t,rfl⟩:=rx;rfl)
theorem xQ:E9 X (compareOp .IsNot) (λx y H Q=>y=.non/\Q (.bl (!decide (x=.non))) H):=by
 intro aa s σ H x y v u Q I rx ry h;obtain⟨rfl,q⟩:=h
 cases ry
 refine isnot_none_gen (aO I q ?_)
 cases x<;>first
  | (cases rx;rfl)
  | (obtain⟨t,rfl⟩:=rx;rfl)
theorem E9.or{r r':R2}(h:E9 X f r)(h':E9 X f r'):E9 X f (λx y H Q=>r x y H Q\/r' x y H Q):=by
 intro aa s σ H x y v u Q I rx ry q
 rcases q with q | q
 ·exact h aa s σ H x y v u Q I rx ry q
 ·exact h' aa s σ H x y v u Q I rx ry q
theorem aw(b:Expr)(h:op≠.In:=by decide)(h2:op≠.NotIn:=by decide):behindInMarks op b=false:=by
 have e1:(op==CmpOp.In)=false:=by cases op<;>first | rfl | exact absurd rfl h
 have e2:(op==CmpOp.NotIn)=false:=by cases op<;>first | rfl | exact absurd rfl h2
 cases b<;>simp[behindInMarks,e1,e2]
theorem zL{r:R2}(ho:E9 X (compareOp op) r)(ha:PE X a ta)(hb:PE X b tb)(hm:behindInMarks op b=false):PE X (.Compare a [op] [b] pos) (tOp r ta tb):=by
 intro aa s σ H Q I h;exact wpAny_Compare1 (binT ha hb I h λv u s2 x y H2 I2 rx ry q=>ho aa s2 σ H2 x y v u Q I2 rx ry q) hm
def DR(t:TE):TT:=λσ H Q=>t σ H λx H'=>∃k,x=.bl k/\Q k H'
theorem xM{r:R2}(ho:E9 X (compareOp op) r)(ha:PE X a ta)(hb:PE X b tb)(hm:behindInMarks op b=false):PT X (.Compare a [op] [b] pos) (DR (tOp r ta tb)):=by
 intro aa s σ H Q I h
 refine wpAny_isTrue_Compare1 (E7 (ha aa s σ H _ I h) λv s1 ⟨x,H1,I1,r1,q1⟩=>E7 (hb aa s1 σ H1 _ I1 q1) λu s2 ⟨y,H2,I2,r2,q2⟩ =>
  E7 (ho aa s2 σ H2 x y v u _ I2 r1 r2 q2) λc s3 ⟨z,H3,I3,r3,k,e,q3⟩=>?_) hm
 subst e
 cases r3
 exact GT ⟨H3,I3,q3⟩
theorem lr:(sizeLine:Nat)<2 ^ 63:=by rw[sizeLine_eq];decide
theorem e5{x:V}{us:Zc}(r:bv [x] us):∃u,us=[u]/\bB x u:=by
 cases r with
 | cons r1 r2=>cases r2;exact⟨_,rfl,r1⟩
theorem AQ{x y:V}{us:Zc}(r:bv [x,y] us):∃u w',us=[u,w']/\bB x u/\bB y w':=by
 cases r with
 | cons r1 r2 =>
  cases r2 with
  | cons r3 r4=>cases r4;exact⟨_,_,rfl,r1,r3⟩
theorem wD:cm X (.builtin "abs") (λxs H Q=>∃i,xs=[.int i]/\Q (.int (if i<0 then -i else i)) H):=by
 intro aa s σ H xs us Q I r h;obtain⟨i,rfl,q⟩:=h;obtain⟨u,rfl,t,rfl⟩:=e5 r;exact call_abs_int λu tk=>⟨.int (if i<0 then -i else i),H,I.tok _,⟨_,rfl⟩,q⟩
theorem sG(hc:X.calm=true):cm X (.builtin "max") (λxs H Q=>∃i j,xs=[.int i,.int j]/\Q (.int (if j>i then j else i)) H):=by
 intro aa s σ H xs us Q I r h;obtain⟨i,j,rfl,q⟩:=h;obtain⟨u,w',rfl,⟨t,rfl⟩,⟨t',rfl⟩⟩:=AQ r;refine max_two_ints (I.ok.hd hc) λh' tk k=>⟨_,H,I.kept k,?_,q⟩
 by_cases hj:j>i
 ·rw[FP hj,FP hj];exact⟨_,rfl⟩
 ·rw[FN hj,FN hj];exact⟨_,rfl⟩
theorem rC:cm X (.type "int") (λxs H Q=>(∃i,xs=[.int i]/\Q (.int i) H)\/∃k,xs=[.bl k]/\Q (.int (if k then 1 else 0)) H):=by
 intro aa s σ H xs us Q I r h
 rcases h with⟨i,rfl,q⟩ | ⟨k,rfl,q⟩
 ·obtain⟨u,rfl,t,rfl⟩:=e5 r;exact call_int_int ⟨.int i,H,I,⟨_,rfl⟩,q⟩
 ·obtain⟨u,rfl,r1⟩:=e5 r
  cases r1
  exact call_int_bool ⟨.int (if k then 1 else 0),H,I.tok _,⟨_,rfl⟩,q⟩
end
end L2
namespace L2
open PySem PySem.Spec PyProof.Rows
structure ObjM(h:Heap)(x dx C:Addr)(mA:Str->Zd):Prop where
 obj:h.get? x=some (PySem.W.instObj C dx)
 ns:h.Ns1 dx mA
 ne:dx≠x
theorem sr{h:Heap}{dx:Addr}{mA:Str->Zd}(n:h.Ns1 dx mA):∃od,h.get? dx=some od/\∀name,PySem.W.lookIn name od=some (mA name):=by
 obtain⟨o,es,ep,ho,hd,hk,_,hm⟩:=n;refine⟨o,ho,λname=>?_⟩;have e:=hm name;unfold nsFind findBy at e;rw[<- Array.find?_toList] at e;unfold PySem.W.lookIn;rw[hd]
 dsimp only
 split
 ·rename_i y q
  rw[q] at e;exact GQ some e
 ·rename_i q
  rw[q] at e;have a:es.toList.any (·.refKey)=false:=by
   rw[List.any_eq_false];intro y hy;obtain⟨z,t,aa⟩:=hk y (Array.mem_toList_iff.mp hy);simp[DictEntry.refKey,aa]
  have a':¬ es.toList.any (·.refKey)=true:=by rw[a];exact FG
  rw[FN a'];exact GQ some e
theorem ObjM.look{h:Heap}{x dx C:Addr}{mA:Str->Zd}(I:ObjM h x dx C mA):∃od,PySem.W.InstAt h x (PySem.W.instObj C dx) C (some od)/\∀name,PySem.W.lookIn name od=some (mA name) :=
 let ⟨od,ho,hl⟩:=sr I.ns
 ⟨od,⟨I.obj,rfl,rfl,ho⟩,hl⟩
section
variable {prog:Program} {w:World} {A:Around} {E:Value→Shared→Prop} {s:Shared} {K:PySem.W.Frag} {x dx C f:Addr} {mA:Str→Zd} {name:Str} {v:Value}
end
theorem qi.some_of{v:V}{o:Zd}(r:qi (some v) o):∃u,o=some u/\bB v u:=by
 cases o with
 | none=>exact(show False from r).elim
 | some u=>exact⟨u,rfl,r⟩
section
variable {P:Program} {w:World} {H H':Hp} {h h':Heap} {a C dx:Addr} {fs fs':List (Str×V)}
theorem yU(hok:Fl P w H h)(e:H a=some (.ins C dx fs)):∃mA,ObjM h a dx C mA/\(∀f,qi (fs.lookup f) (mA f))/\PySem.Within mA (fs.map (·.1))/\fs.length<=1000/\H dx=some (.own a):=by
 obtain⟨d,z,ne,ob,mA,n,r,q⟩:=(show bV P w H h a (.ins C dx fs) from hok a _ e);exact⟨mA,⟨ob,n,ne⟩,r,q,z,d⟩
end
structure Cls(K:PySem.W.Frag)(C:Addr):Prop where
 pg:PySem.W.plainGet K C Str.empty=true
 hd:PySem.W.hasDictIn K C=true
 po:PySem.W.plainOver K C=true
 sa:PySem.W.findIn K (.ref C) "__setattr__"=some (some (.builtin "object.__setattr__"))
theorem Cls.get{K:PySem.W.Frag}{C:Addr}(c:Cls K C)(f:Str):PySem.W.plainGet K C f=true:=c.pg
section
variable {X:Cx} {pins:List (Addr×Obj)} {σ:St} {H:Hp} {s:Shared} {a C dx:Addr} {fs:List (Str×V)} {f:Str} {v:V} {A:Around} {E:Value→Shared→Prop}
end
section
variable {X:Cx} {o e value:Expr} {f:Str} {pos pos' tpos:Pos} {ta tv:TE}
end
section
variable {X:Cx} {pins:List (Addr×Obj)} {σ:St} {H:Hp} {s:Shared} {A:Around} {E:Value→Shared→Prop} {Q:Value→Shared→Prop} {c:Value} {b:Bool}
inductive qU(K:PySem.W.Frag)(H:Hp):V->Value->Prop where
 | non:qU K H .non (.type "NoneType")
 | bl (x:Bool):qU K H (.bl x) (.type "bool")
 | int (i:Int):qU K H (.int i) (.type "int")
 | str (x:Str):qU K H (.str x) (.type "str")
 | flt (x:UInt64):qU K H (.flt x) (.type "float")
 | lst {a:Addr} {xs:Zf} (e:H a=some (.lst xs)):qU K H (.ref a) (.type "list")
 | frz {a:Addr} {o:Obj} {xs:Zf} (e:H a=some (.frz o (.lst xs))):qU K H (.ref a) (.type "list")
 | tup {a:Addr} {xs:Zf} (e:H a=some (.tup xs)):qU K H (.ref a) (.type "tuple")
 | dK {a:Addr} {kvs:List (Fq×V)} (e:H a=some (.dK kvs)):qU K H (.ref a) (.type "dict")
 | dT {a:Addr} {kvs:List (List Fq×V)} (e:H a=some (.dT kvs)):qU K H (.ref a) (.type "dict")
 | ins {a C dx:Addr} {fs:List (Str×V)} (e:H a=some (.ins C dx fs)) (cl:Cls K C) (ha:PySem.W.findIn K (.ref C) "__class__"=some (some (.builtin "object.__class__")))
   (hn:PySem.W.specialIn K (.builtin "object.__class__") "__get__"=some (some (.builtin "getset_descriptor.__get__"))) (htk:PySem.W.takesIn K (.builtin "object.__class__")=some true)
   (hm:PySem.W.mroIn K C (.type "object")=some true):qU K H (.ref a) (.ref C)
theorem dg{x:V}{u t:Value}(I:Inv X pins σ H s)(rx:bB x u)(ty:qU X.K H x t)(e:PySem.W.kitOne X.K t c=some b)(h:∀tk,Q (.bool b) { s with toks:=tk }) :
  wpAny (model X.prog X.w) A (call (.builtin "isinstance") [u,c]) Q E s:=by
 cases ty with
 | non=>cases (show u=Value.none from rx);exact Gi PySem.W.kitx_none I.kIn True.intro e (λz=>nomatch z) h
 | bl y=>cases (show u=Value.bool y from rx);exact Gi PySem.W.kitx_bool I.kIn True.intro e (λz=>nomatch z) h
 | int i=>obtain⟨t,q⟩:=(show ∃t,u=Value.int i t from rx);cases q;exact Gi PySem.W.kitx_int I.kIn True.intro e (λz=>nomatch z) h
 | str y=>obtain⟨t,q⟩:=(show ∃t,u=Value.str y t from rx);cases q;exact Gi PySem.W.kitx_str I.kIn True.intro e (λz=>nomatch z) h
 | flt y=>obtain⟨t,q⟩:=(show ∃t,u=Value.float y t from rx);cases q;exact Gi PySem.W.kitx_float I.kIn True.intro e (λz=>nomatch z) h
 | @lst a xs ea =>
  cases (show u=Value.ref a from rx)
  obtain⟨_,_,n,_,h1⟩:=(show bV X.prog X.w H s.heap a (.lst xs) from I.hok a _ ea);exact Gi PySem.W.kitx_list I.kIn ⟨_,h1,rfl⟩ e (λz=>nomatch z) h
 | @frz a ob xs ea =>
  cases (show u=Value.ref a from rx)
  obtain⟨_,_,_,n,_,h1⟩:=(show bV X.prog X.w H s.heap a (.frz ob (.lst xs)) from I.hok a _ ea);exact Gi PySem.W.kitx_list I.kIn ⟨_,h1,rfl⟩ e (λz=>nomatch z) h
 | @tup a xs ea =>
  cases (show u=Value.ref a from rx)
  obtain⟨_,_,_,p⟩:=(show bV X.prog X.w H s.heap a (.tup xs) from I.hok a _ ea);obtain⟨o,h1,h2,_⟩:=p;exact Gi PySem.W.kitx_tuple I.kIn ⟨o,h1,h2⟩ e (λz=>nomatch z) h
 | @dK a kvs ea =>
  cases (show u=Value.ref a from rx)
  obtain⟨_,_,vs,_,p⟩:=(show bV X.prog X.w H s.heap a (.dK kvs) from I.hok a _ ea);obtain⟨o,es,ep,h1,h2,_⟩:=p;exact Gi HR I.kIn ⟨o,h1,h2.1⟩ e (λz=>nomatch z) h
 | @dT a kvs ea =>
  cases (show u=Value.ref a from rx)
  obtain⟨_,_,xs,_,o,es,ep,h1,h2,_⟩:=(show bV X.prog X.w H s.heap a (.dT kvs) from I.hok a _ ea);exact Gi HR I.kIn ⟨o,h1,h2.1⟩ e (λz=>nomatch z) h
 | @ins a C dx fs ea cl ha hn htk hm =>
  cases (show u=Value.ref a from rx)
  obtain⟨mA,O,_⟩:=yU I.hok ea;obtain⟨od,J,_⟩:=O.look;exact Gi (PySem.W.kitx_own (cl.get _) cl.hd ha hn htk hm) I.kIn J e (λz=>nomatch z) h
end
end L2
namespace L2
open PySem PySem.Spec PyProof.Rows
variable {k:Nat} {A:Around} {P:Program} {w:World} {K:PySem.W.Frag} {mg:Str→Zd} {base:Heap} {f:Addr} {fd:FuncData} {ps:Zb} {x:Str}
structure fO(k:Nat)(A:Around):Prop where
 hd:A.handled=none
 dp:A.depth+3*k+5<recursionLimit
 un:A.units+16*k+200<cLine
theorem fO.mono{j:Nat}(r:fO k A)(h:j<=k):fO j A:=⟨r.hd,by have:=r.dp;omega,by have:=r.un;omega⟩
theorem fO.deeper(r:fO (k+1) A)(env:Env):fO k (A.deeper env) :=
 ⟨r.hd,by have:=r.dp;show A.depth+1+3*k+5<_;omega,by have:=r.un;show A.units+3+16*k+200<_;omega⟩
theorem fO.depth(r:fO k A):A.depth<recursionLimit:=by have:=r.dp;omega
theorem fO.units(r:fO k A):A.units+64<cLine:=by have:=r.un;omega
def tNil:TA:=λ_ H Q=>Q [] H
def Ey(ta:TE)(tr:TA):TA:=λσ H Q=>ta σ H λx H1=>tr σ H1 λxs H2=>Q (x::xs) H2
section
variable {X:Cx} {e:Expr} {es:List Expr} {te:TE} {t:TA} {pos:Pos}
theorem hV:PA X [] tNil:=λ_ _ _ _ H Q I h=>Calls.spliced_nil ⟨[],H,I,.nil,h⟩
theorem cN(ha:PE X e te)(hr:PA X es t)(hs:starEach (e::es) X.env=(false,eval e X.env)::starEach es X.env:=by rfl):PA X (e::es) (Ey te t):=by
 intro pos aa s σ H Q I h;rw[hs];show wpAny _ _ (spliced ((false,eval e X.env)::backTo pos (starEach es X.env))) _ _ s;refine Calls.spliced_cons (E7 (ha aa s σ H _ I h) λu s1 ⟨x,H1,I1,r1,q1⟩=>?_);exact E7 (hr pos aa s1 σ H1 _ I1 q1) λus s2 ⟨xs,H2,I2,r2,q2⟩=>⟨x::xs,H2,I2,.cons r1 r2,q2⟩
def tTup(t:TA):TE:=λσ H Q=>t σ H λxs H1=>xs.length<=sizeLine/\∀p,H1 p=none->Q (.ref p) (EW H1 p (.tup xs))
def tLst(t:TA):TE:=λσ H Q=>t σ H λxs H1=>xs.length<=sizeLine/\∀p,H1 p=none->Q (.ref p) (EW H1 p (.lst xs))
theorem Dk{x1}(h:PA X es t):PE X (.Tuple es x1 pos) (tTup t):=by
 intro aa s σ H Q I hq;refine wpAny_Tuple_spliced (E7 (h pos aa s σ H _ I hq) λus s1 ⟨xs,H1,I1,r,z,q⟩=>⟨by rw[<- r.length];exact z,?_⟩);have hf:H1 s1.heap.objs.size=none:=I1.hok.fresh (FH _);refine⟨.ref s1.heap.objs.size,EW H1 s1.heap.objs.size (.tup xs),I1.laid (t':=s1.toks) (λb u e=>Heap.get?_push_of_some _ e) (FH _) ?_,rfl,q _ hf⟩;exact⟨z,us,r,⟨_,Heap.get?_push_size _ rfl,rfl,_,rfl⟩⟩
theorem sL(h:PA X es t):PE X (.List es pos) (tLst t):=by
 intro aa s σ H Q I hq;refine wpAny_List_spliced (E7 (h pos aa s σ H _ I hq) λus s1 ⟨xs,H1,I1,r,z,q⟩=>⟨by rw[<- r.length];exact z,?_⟩);have hf:H1 s1.heap.objs.size=none:=I1.hok.fresh (FH _);refine⟨.ref s1.heap.objs.size,EW H1 s1.heap.objs.size (.lst xs),I1.laid (t':=s1.toks) (λb u e=>Heap.get?_push_of_some _ e) (FH _) ?_,rfl,q _ hf⟩;exact⟨z,us,0,r,Heap.get?_push_size _ rfl⟩
end
abbrev Sp:=List V->Hp->VK->XK->Prop
abbrev CXT:=List Env->Hp->Shared->XK->Value->Shared->Prop
structure Env0(P:Program)(w:World)(K:PySem.W.Frag)(mg:Str->Zd)(base:Heap)(A:Around)(outer:List Env)(s:Shared)(H:Hp):Prop where
 frames:A.frames=some outer
 mod:Mod K mg base
 bs:∀b o,base.get? b=some o->s.heap.get? b=some o/\H b=none
 bsz:base.objs.size<=s.heap.objs.size
 funs:s.heap.FunFrames base outer
 frf:∀b∈frs outer,H b=none
 hok:Fl P w H s.heap
 bare:AllBare s.gens
def CE(outer:List Env)(P:Program)(w:World)(H:Hp)(s:Shared)(Q:VK)(u:Value)(s':Shared):Prop :=
 ∃v H',s'.os=s.os/\AllBare s'.gens/\Un (frs outer) [] H H' s.heap s'.heap/\Fl P w H' s'.heap/\bB v u/\Q v H'
def CR(CX:CXT)(outer:List Env)(P:Program)(w:World)(H:Hp)(s:Shared)(Q:VK)(E:XK)(r:Result)(s':Shared):Prop :=
 match r with
 | .ok (.ret u)=>CE outer P w H s Q u s'
 | .ok _=>False
 | .error e=>CX outer H s E e s'
structure kT(P:Program)(w:World)(K:PySem.W.Frag)(mg:Str->Zd)(base:Heap)(CX:CXT)(k:Nat)(f:Addr)(fd:FuncData)(ps:Zb)(sp:Sp):Prop where
 len:∀vs H Q E,sp vs H Q E->vs.length=ps.length
 run:∀(A:Around) (outer:List Env) (s:Shared) (H:Hp) (args:Args) (us:Zc) (vs:Zf) (Q:VK) (E:XK),fO k A->Env0 P w K mg base A outer s H->BindsTo s fd args (ps.zip us)->bv vs us->sp vs H Q E ->
  codeAny (model P w) A (.call (.ref f) args) (CR CX outer P w H s Q E) s
theorem kT.mono{CX:CXT}{j:Nat}{sp:Sp}(F:kT P w K mg base CX j f fd ps sp)(h:j<=k) :
  kT P w K mg base CX k f fd ps sp:=⟨F.len,λA outer s H args us vs Q E hr=>F.run A outer s H args us vs Q E (hr.mono h)⟩
theorem kT.imp{CX:CXT}{sp sp':Sp}(F:kT P w K mg base CX k f fd ps sp)
  (h:∀vs H Q E,sp' vs H Q E->sp vs H Q E):kT P w K mg base CX k f fd ps sp' :=
 ⟨λvs H Q E q=>F.len vs H Q E (h _ _ _ _ q),λA outer s H args us vs Q E hr he hb hv hs=>F.run A outer s H args us vs Q E hr he hb hv (h _ _ _ _ hs)⟩
section
variable {X:Cx} {pins:List (Addr×Obj)} {σ:St} {H:Hp} {s s':Shared}
theorem Inv.env0(I:Inv X pins σ H s):Env0 X.prog X.w X.K X.mg X.base X.A X.stack s H :=
 ⟨I.ok.frames,I.ok.mod,I.bs,FB I.ok.bsz I.sz,I.stack,I.stkFree,I.hok,I.bare⟩
theorem Inv.after{Q:VK}{u:Value}(I:Inv X pins σ H s)(h:CE X.stack X.prog X.w H s Q u s'):EP X pins σ Q u s':=by
 obtain⟨v,H',os,aa,un,ab,r,q⟩:=h;obtain⟨hh,g,d,t,ah⟩:=s';obtain rfl:ah=s.os:=os;exact⟨v,H',I.call (h':=hh) (g':=g) (d':=d) (t':=t) (ch:=[]) un ab aa (λb z=>absurd z (by simp)),r,q⟩
end
def EM(sp:Sp)(dvs:Zf)(E:XK)(t:TA):TE:=λσ H Q=>t σ H λvs H1=>sp (vs++dvs) H1 Q E
def md(K:PySem.W.Frag)(fd:FuncData)(ps:Zb)(ds:Zc):Prop :=
 ∀(s:Shared) (us:Zc),K.In s.heap->(us++ds).length=ps.length->BindsTo s fd ⟨us,[]⟩ (ps.zip (us++ds))
theorem md.all(h:∀us:Zc,us.length=ps.length->bindArgs fd ⟨us,[]⟩=pure (ps.zip us)):md K fd ps []:=λs us _ hl=>by
 rw[Gj] at hl ⊢;exact .of_eq (h us hl)
def rW(CX:CXT)(X:Cx)(E:XK):Prop:=∀(pins:List (Addr×Obj)) (σ:St) (H:Hp) (s:Shared) (e:Value) (s':Shared),Inv X pins σ H s->CX X.stack H s E e s'->X.xe e s'
section
variable {X:Cx} {CX:CXT} {k:Nat} {f C:Addr} {fd:FuncData} {ps:Zb} {sp:Sp} {dvs:Zf} {ds:Zc} {E:XK} {x m:Str} {p pos apos:Pos} {e o:Expr} {es:List Expr} {ta:TE} {t:TA}
theorem Cz{pins:List (Addr×Obj)}{σ:St}{H:Hp}{s:Shared}{Q:VK}{us:Zc}{vs:Zf}(F:kT X.prog X.w X.K X.mg X.base CX k f fd ps sp)(hr:fO k X.A)(hb:md X.K fd ps ds)(hd:bv dvs ds)(hx:rW CX X E)
  (I:Inv X pins σ H s) (r:bv vs us) (h:sp (vs++dvs) H Q E):wpAny (model X.prog X.w) X.A (call (.ref f) us) (EP X pins σ Q) X.xe s:=by
 have r2:bv (vs++dvs) (us++ds):=r.append hd
 have hl:(us++ds).length=ps.length:=by rw[<- r2.length];exact F.len _ _ _ _ h
 refine wpAny_call (codeAny_mono (F.run X.A X.stack s H ⟨us,[]⟩ (us++ds) (vs++dvs) Q E hr I.env0 (hb s us I.kIn hl) r2 h) λr s' hq=>?_)
 cases r with
 | error e=>exact hx pins σ H s e s' I hq
 | ok fl =>
  cases fl with
  | ret u=>exact I.after hq
  | next=>exact False.elim hq
  | brk=>exact False.elim hq
  | cont=>exact False.elim hq
theorem kc(F:kT X.prog X.w X.K X.mg X.base CX k f fd ps sp)(hr:fO k X.A)(hg:Gl X x)(hm:X.mg x=some (.ref f))(hk:PySem.W.keepIn X.K (.ref f)=true)(hb:md X.K fd ps ds)(hd:bv dvs ds)(hx:rW CX X E)
  (ha:PA X (e::es) t) (hdb:(x==("__debug__":Str))=false:=by decide) (he:starEach (e::es) X.env=(false,eval e X.env)::starEach es X.env:=by rfl) (hpl:(backTo pos (starEach es X.env)).any (·.1)=false:=by rfl) :
  PE X (.Call (.Name x p) (e::es) [] pos) (EM sp dvs E t):=by
 intro aa s σ H Q I h;refine wpAny_Call_Name_kw (rG I hg hm ?_ hdb);refine PySem.W.callWith_K (h₀:=X.base) I.ok.mod.kin hk (E7 (ha pos aa s σ H _ I h) λus s1 ⟨vs,H1,I1,r,q⟩=>⟨I1.kIn,?_⟩) he hpl;exact Cz F hr hb hd hx I1 r q
end
section
variable {X:Cx} {CX:CXT} {k:Nat} {f C:Addr} {fd:FuncData} {ps ks:Zb} {sp:Sp} {E:XK} {x m:Str} {p pos apos kpos:Pos} {e o:Expr} {es:List Expr} {kws:List Keyword} {te ta:TE} {t tk:TA} {nm:Option Str}
variable {g:Zc→Zc→Zc} {gV:Zf→Zf→Zf}
end
structure au(N P:Zb)(sc:Scope):Prop where
 kind:sc.kind=.function
 co:sc.isCoroutine=false
 gen:sc.isGenerator=false
 nd:N.Nodup
 pre:N.take P.length=P
 par:∀x∈P,sc.names.lookup x=some .local\/sc.names.lookup x=some .cell
 nofree:∀y∈sc.names,y.2≠.free
theorem lK{kindOf:Str->Option NameKind}:∀ {binds:List (Str×Value)} {m:Str->Zd},(∀v,(x,v)∉binds)->bindL kindOf binds m x=m x
 | [],_,_=>rfl
 | (n,v)::r,m,h=>by
  unfold bindL;rw[lK λw hw=>h w (Fz _ hw)]
  split
  ·have:x≠n:=by rintro rfl;exact h v FD
   simp[this]
  ·rfl
theorem lU{kindOf:Str->Option NameKind}:∀ {binds:List (Str×Value)} {m:Str->Zd},(∀v,(x,v)∉binds)->bindC kindOf binds m x=m x
 | [],_,_=>rfl
 | (n,v)::r,m,h=>by
  unfold bindC;rw[lU λw hw=>h w (Fz _ hw)]
  split
  ·rfl
  ·have:x≠n:=by rintro rfl;exact h v FD
   simp[this]
theorem lZ{kindOf:Str->Option NameKind}{v:Value}:∀ {P:Zb} {vs:Zc} {i:Nat} {m:Str->Zd},P.Nodup->P[i]?=some x->vs[i]?=some v->kindOf x=some .local ->
  bindL kindOf (P.zip vs) m x=some v
 | [],_,_,_,_,h,_,_=>by simp at h
 | _::_,[],_,_,_,_,h,_=>by simp at h
 | p::P,w::vs,0,m,nd,h1,h2,hk=>by
  simp at h1 h2;subst h1;subst h2;show bindL kindOf ((p,w)::P.zip vs) m p=_;unfold bindL;rw[lK λv hv=>(Gz.mp nd).1 (Gk hv).1,FP hk];simp
 | p::P,w::vs,i+1,m,nd,h1,h2,hk=>by
  show bindL kindOf ((p,w)::P.zip vs) m x=_
  unfold bindL;exact lZ (i:=i) (Gz.mp nd).2 (by simpa using h1) (by simpa using h2) hk
theorem lx{kindOf:Str->Option NameKind}{v:Value}:∀ {P:Zb} {vs:Zc} {i:Nat} {m:Str->Zd},P.Nodup->P[i]?=some x->vs[i]?=some v->kindOf x≠some .local ->
  bindC kindOf (P.zip vs) m x=some v
 | [],_,_,_,_,h,_,_=>by simp at h
 | _::_,[],_,_,_,_,h,_=>by simp at h
 | p::P,w::vs,0,m,nd,h1,h2,hk=>by
  simp at h1 h2;subst h1;subst h2;show bindC kindOf ((p,w)::P.zip vs) m p=_;unfold bindC;rw[lU λv hv=>(Gz.mp nd).1 (Gk hv).1,FN hk];simp
 | p::P,w::vs,i+1,m,nd,h1,h2,hk=>by
  show bindC kindOf ((p,w)::P.zip vs) m x=_
  unfold bindC;exact lx (i:=i) (Gz.mp nd).2 (by simpa using h1) (by simpa using h2) hk
def start(N:Zb)(vs:Zf):St:=vs.map some++List.replicate (N.length-vs.length) none
def rY(CX:CXT)(P:Program)(w:World)(K:PySem.W.Frag)(mg:Str->Zd)(base:Heap)(N:Zb)(qual:Str)(scope:Scope)(f:Addr)(cd:Value)(A:Around)(outer:List Env)(s:Shared)(H:Hp)(E:XK):Cx where
 prog:=P
 w:=w
 K:=K
 mg:=mg
 base:=base
 A:=A.deeper (envOfC qual scope s.heap.objs.size f cd)
 N:=N
 s₀:=s
 H₀:=H
 env:=envOfC qual scope s.heap.objs.size f cd
 outer:=outer
 stack:=envOfC qual scope s.heap.objs.size f cd::outer
 ex:=[]
 calm:=true
 fn:=λ_=>true
 pn:=[]
 xe:=λe s'=>wpAny (model P w) (A.deeper (envOfC qual scope s.heap.objs.size f cd)) (leaving (envOfC qual scope s.heap.objs.size f cd) e) (λ_ s''=>CX outer H s E e s'') (λe' s''=>CX outer H s E e' s'') s'
theorem kf{sc:Scope}{n:Nat}(h:sc.names.lookup x=some .cell):∃c,(cellsFrom n sc.names []).lookup x=some c:=by
 have q:=PySem.W.cellsFrom_some sc.names n [] (.inl h)
 exact Option.isSome_iff_exists.mp q
theorem t6{CX:CXT}{N:Zb}{qual:Str}{scope:Scope}{cd:Value}{outer:List Env}{s s1:Shared}{H:Hp}{E:XK}{us:Zc}{vs:Zf}
  (S:au N ps scope) (hd:A.handled=none) (e0:Env0 P w K mg base A outer s H) (hl:vs.length=ps.length) (r:bv vs us)
  (x:InCallC s s.heap.objs.size (bindL (envOfC qual scope s.heap.objs.size f cd).kindOf (ps.zip us) λ_=>none) (cellsFrom (s.heap.objs.size+1) scope.names []) (bindC (envOfC qual scope s.heap.objs.size f cd).kindOf (ps.zip us) λ_=>none) s1) :
  Inv (rY CX P w K mg base N qual scope f cd A outer s H E) [] (start N vs) H s1:=by
 have ah:ps.length<=N.length:=by have:=GQ List.length S.pre;rw[Ge] at this;omega
 obtain⟨h1,tk,rfl,hk⟩:=x.done;have aa:∀b:Addr,b∉(rY CX P w K mg base N qual scope f cd A outer s H E).ex:=λb z=>absurd (show b∈([]:List Addr) from z) (by simp)
 refine⟨⟨e0.mod,S.kind,rfl,rfl,FH _,λy z c h1 h2=>?_,λy hy=>?_,λy c _ h=>?_,λ_=>hd,Around.frames_deeper e0.frames,.inr ⟨rfl,rfl⟩,λb z=>absurd z (aa b),e0.bs,e0.bsz,λb _ _=>aa b,λb z=>absurd z (aa b),e0.funs,e0.frf⟩,
  rfl,e0.bare,Un.kept hk,⟨_,x.toInCall.ns,λi y v h1 h2 h3=>?_⟩,λy c h=>⟨_,x.cell y c h⟩,e0.hok.fresh (FH _),λy c h=>?_,λp hp=>absurd (show p∈([]:List (Addr×Obj)) from hp) (by simp),e0.hok.kept hk,?_⟩
 ·exact name_of_addr x.apart (G6 h1) (G6 h2)
 ·have hy:scope.names.lookup y=some .cell\/scope.names.lookup y=some .free:=hy
  rcases hy with hy | hy
  ·exact kf hy
  ·exact absurd rfl (S.nofree _ (G6 hy))
 ·exact G5 (x.above y c (G6 h))
 ·have hi:i<vs.length:=by
   unfold start at h2
   by_cases hi:i<vs.length
   ·exact hi
   ·rw[List.getElem?_append_right (by simpa using hi)] at h2;rw[List.getElem?_replicate] at h2
    split at h2<;>cases h2
  have ha:vs[i]?=some v:=by
   unfold start at h2;rw[List.getElem?_append_left (by simpa using hi),List.getElem?_map] at h2
   cases e:vs[i]? with
   | none=>rw[e] at h2;cases h2
   | some a=>rw[e] at h2;cases h2;rfl
  obtain⟨u,hu,rv⟩:=r.get ha;have hp:ps[i]?=some y:=by
   rw[<- S.pre,List.getElem?_take_of_lt (by omega)];exact h1
  have ab:ps.Nodup:=by rw[<- S.pre];exact S.nd.sublist (List.take_sublist _ _)
  refine⟨u,rv,?_⟩
  rcases S.par y (FM hp) with k | k
  ·exact .inl ⟨k,lZ ab hp hu k⟩
  ·obtain⟨c,e⟩:=kf (n:=s.heap.objs.size+1) k;refine .inr ⟨.inl k,c,e,?_⟩;have q:=x.cell y c e;rw[lx ab hp hu (by show scope.names.lookup y≠_;rw[k];decide)] at q;exact q
 ·exact e0.hok.fresh (G5 (x.above y c (G6 h)))
 ·unfold start;show _=N.length;rw[FF,Fy,FX];omega
theorem Dw{CX:CXT}{name qual:Str}{params:Arguments}{body:List Stmt}{scope:Scope}{dV kV doc pm cdv ct oc:Value}{an od:Option Addr}
    {osl:Array (Zd)} {N ps:Zb} {sp:Sp} (lk:K.lookup f=some ⟨oc,od,.func (PySem.W.fnOf name qual params body scope dV kV doc pm an cdv ct),osl⟩) (hcd:PySem.W.codeIn K cdv qual=true) (S:au N ps scope)
    (len:∀vs H Q E,sp vs H Q E->vs.length=ps.length)
    (hbody:∀(A:Around) (outer:List Env) (s:Shared) (H:Hp) (vs:Zf) (Q:VK) (E:XK),fO k (A.deeper (envOfC qual scope s.heap.objs.size f cdv))->sp vs H Q E ->
      ∃t,PSs (rY CX P w K mg base N qual scope f cdv A outer s H E) body t/\t { nx:=λ_ H'=>Q .non H',rt:=Q } (start N vs) H) :
    kT P w K mg base CX (k+1) f (PySem.W.fnOf name qual params body scope dV kV doc pm an cdv ct) ps sp:=by
  refine⟨len,λA outer s H args us vs Q E hr e0 hb r hsp=>?_⟩;have hl:=len _ _ _ _ hsp;have KX:K.In s.heap:=e0.mod.kin.keeps λb o e=>(e0.bs b o e).1;have ah:s.heap.NoLimit:=e0.mod.nolimit.keeps λb o e=>(e0.bs b o e).1;have aa:∀y∈ps.zip us,scope.names.lookup y.1=some .local\/(scope.names.lookup y.1=some .cell/\((cellsFrom (s.heap.objs.size+1) scope.names []).lookup y.1).isSome=true):=λ⟨n,v⟩ hy=>by
    rcases S.par n (Gk hy).1 with q | q
    · exact .inl q
    · exact .inr ⟨q,PySem.W.cellsFrom_some _ _ _ (.inl q)⟩
  refine codeAny_call_function hr.depth (KX _ _ lk) rfl S.co S.gen rfl (PySem.W.codeRec_of KX hcd) (hb _ _ _ _ ?_);refine wpAny_newFunctionEnv_cells S.kind aa λenv he s1 x=>?_;subst he;refine⟨ah.keeps x.toInCall.keep,codeAny_func ?_⟩;obtain⟨t,ht,hq⟩:=hbody A outer s H vs Q E (hr.deeper _) hsp;have I:Inv (rY CX P w K mg base N qual scope f cdv A outer s H E) [] (start N vs) H s1:=t6 S hr.hd e0 hl r x;refine GI (ht [] s1 (start N vs) H _ I hq) (λfl s' hs=>?_) λe s' hs=>hs;have ab:∀ {σ':St} {H':Hp} {v:V} {u:Value},Inv (rY CX P w K mg base N qual scope f cdv A outer s H E) [] σ' H' s'->bB v u->Q v H'->CE outer P w H s Q u s' :=
    λ{σ' H' v u} J rv q=>⟨v,H',J.os,J.bare,J.base,J.hok,rv,q⟩
  cases fl with
  | ret u =>
    obtain⟨v,σ',H',J,rv,q⟩:=hs;exact ab J rv q
  | next =>
    obtain⟨σ',H',J,q⟩:=hs;exact ab (v:=V.non) (u:=Value.none) J rfl q
  | brk =>
    obtain⟨_,_,_,q⟩:=hs;exact False.elim q
  | cont =>
    obtain⟨_,_,_,q⟩:=hs;exact False.elim q
end L2
namespace L2
open PySem PySem.Spec PyProof.Rows
section
variable {X:Cx} {x:Str} {p pos:Pos} {e:Expr} {es:List Expr} {t:TA} {id T:String} {r:Zf→Hp→VK→Prop}
def tCB(r:Zf->Hp->VK->Prop)(t:TA):TE:=λσ H Q=>t σ H λvs H1=>r vs H1 Q
theorem kE(hc:cm X (.builtin id) r)(hg:Gl X x)(hm:X.mg x=none)(hv:bootBuiltins x=some (.builtin id))(ha:PA X (e::es) t)(hn:x≠"__name__":=by decide)(hdb:(x==("__debug__":Str))=false:=by decide)
  (he:starEach (e::es) X.env=(false,eval e X.env)::starEach es X.env:=by rfl) (hpl:(backTo pos (starEach es X.env)).any (·.1)=false:=by rfl):PE X (.Call (.Name x p) (e::es) [] pos) (tCB r t):=by
 intro aa s σ H Q I h;refine wpAny_Call_Name_kw (iw I hg hm hv ?_ hn hdb);exact PyProof.Rows.callWith_builtin1 (E7 (ha pos aa s σ H _ I h) λus s1 ⟨vs,H1,I1,r1,q1⟩=>hc aa s1 σ H1 vs us Q I1 r1 q1) he hpl
theorem l7(hc:cm X (.type T) r)(hg:Gl X x)(hm:X.mg x=none)(hv:bootBuiltins x=some (.type T))(ha:PA X (e::es) t)(hn:x≠"__name__":=by decide)(hdb:(x==("__debug__":Str))=false:=by decide)
  (he:starEach (e::es) X.env=(false,eval e X.env)::starEach es X.env:=by rfl) (hpl:(backTo pos (starEach es X.env)).any (·.1)=false:=by rfl):PE X (.Call (.Name x p) (e::es) [] pos) (tCB r t):=by
 intro aa s σ H Q I h;refine wpAny_Call_Name_kw (iw I hg hm hv ?_ hn hdb);exact GE (E7 (ha pos aa s σ H _ I h) λus s1 ⟨vs,H1,I1,r1,q1⟩=>hc aa s1 σ H1 vs us Q I1 r1 q1) he hpl
end
end L2
namespace HT
open PySem PyProof.Rows
section
open PySem.SeqAt
open PySem.AutoSeq1 (wpAny_loadPart')
open PySem.MeetsSeq PySem.MeetsSeq2 PySem.MeetsSeq3
end
section
variable {prog:Program} {w:World} {A:Around} {E:Value→Shared→Prop} {s:Shared}
theorem cat_tup{t b:Addr}{vs ws:Zc}{Q:Value->Shared->Prop}(ht:IsTup s.heap t vs.toArray)(hb:IsTup s.heap b ws.toArray)(hv:vs≠[])
  (h1:ws=[]->Q (.ref t) s) (h2:ws≠[]->Q (.ref s.heap.objs.size) { s with heap:=s.heap.push { cls:=.type "tuple",data:=.seq (vs++ws).toArray } })
  (hsz:vs.length+ws.length<=sizeLine):wpAny (model prog w) A (binaryOp .Add (.ref t) (.ref b)) Q E s:=by
 obtain⟨⟨cls,dd,data,sl⟩,ho,hc,n,hd⟩:=id ht;obtain⟨⟨an,aj,al,ab⟩,aa,ai,n2,ah⟩:=id hb;simp only at hc hd ai ah;subst hc hd ai ah;have e:vs.toArray++ws.toArray=(vs++ws).toArray:=by simp
 by_cases hw:ws=[]
 ·exact concat_meets ⟨_,ho,rfl⟩ ⟨_,aa,rfl⟩ noFill_tuple_add seq_tuple_add PySem.F.slot_tuple_add PySem.F.entry_tuple_add (PySem.F.args_tuple_add_2 _ _)
   (tuple_addW1 t b vs.toArray ws.toArray n n2 dd aj sl ab (by simpa using hv) (by simp[hw])) ⟨ho,aa,h1 hw⟩
 ·refine concat_meets ⟨_,ho,rfl⟩ ⟨_,aa,rfl⟩ noFill_tuple_add seq_tuple_add PySem.F.slot_tuple_add PySem.F.entry_tuple_add (PySem.F.args_tuple_add_2 _ _)
   (tuple_addW2 t b vs.toArray ws.toArray n n2 dd aj sl ab (by simpa using hv) (by simpa using hw) (by rw[FK,FK];exact hsz)) ⟨ho,aa,?_⟩
  rw[e];exact h2 hw
def sIx(n d:Nat):Option Int->Nat
 | none=>d
 | some v=>if v<0 then (v+(n:Int)).toNat else min v.toNat n
theorem sIx_none(n d:Nat):sIx n d none=d:=rfl
theorem sIx_nat(n d k:Nat):sIx n d (some (k:Int))=min k n:=by
 show (if (k:Int)<0 then ((k:Int)+(n:Int)).toNat else min (k:Int).toNat n)=min k n
 rw[FN (by omega),Hi]
theorem xH(n d:Nat)(hd:d<=n)(o:Option Int):sIx n d o<=n:=by
 cases o with
 | none=>exact hd
 | some v =>
  show (if v<0 then (v+(n:Int)).toNat else min v.toNat n)<=n
  by_cases hv:v<0
  ·rw[FP hv];omega
  ·rw[FN hv];exact Nat.min_le_right _ _
theorem rJ(v:Int)(n d:Nat):(if v<0 then max (v+(n:Int)) 0 else min v (n:Int))=((sIx n d (some v):Nat):Int):=by
 show (if v<0 then max (v+(n:Int)) 0 else min v (n:Int))=(((if v<0 then (v+(n:Int)).toNat else min v.toNat n):Nat):Int)
 by_cases hv:v<0
 ·simp only[if_pos hv];omega
 ·simp only[if_neg hv];omega
theorem qE(lo hi:Option Int)(n:Nat):Builtin.Slice.sliceAdjust lo hi 1 (n:Int)=(((sIx n 0 lo:Nat):Int),((sIx n n hi:Nat):Int)):=by
 have h1:¬ ((1:Int)<0):=by omega
 unfold Builtin.Slice.sliceAdjust;simp only[h1,if_false];refine Prod.ext ?_ ?_
 ·cases lo with
  | none=>rfl
  | some v=>exact rJ v n 0
 ·cases hi with
  | none=>rfl
  | some v=>exact rJ v n n
theorem qp(i j:Nat):Builtin.Slice.slicePlaces (i:Int) (j:Int) 1=j-i:=by
 unfold Builtin.Slice.slicePlaces;have h1:(1:Int)>0:=by omega
 simp only[h1,if_true,Int.ediv_one]
 split<;>omega
theorem jA{v:Value}{o:Option Int}{Q:Option Int->Shared->Prop}(p:IsPart v o)(h:Q o s):wpAny (model prog w) A (Builtin.Slice.slicePartIndex v) Q E s:=by
 cases p with
 | none=>exact slicePart_none h
 | int i t=>exact slicePart_int h
theorem dB{sl:Addr}{vl vu:Value}{lo hi:Option Int}{n:Nat}{Q:Int×Int×Nat->Shared->Prop}(hs:s.heap.IsSliceOf sl vl vu .none)(pl:IsPart vl lo)(pu:IsPart vu hi)
  (h:Q (((sIx n 0 lo:Nat):Int),1,sIx n n hi-sIx n 0 lo) s):wpAny (model prog w) A (Builtin.Slice.sliceApplied (.ref sl) (pure (n:Int))) Q E s:=by
 obtain⟨os,ab,ah,aa⟩:=id hs;unfold Builtin.Slice.sliceApplied Builtin.Slice.sliceFields;refine FA (FA (GF ab aa (x:=vl) rfl (FA (GF ab aa (x:=vu) rfl (FA (GF ab aa (x:=.none) rfl (FQ ?_)))))));refine FA (slicePart_none ?_);show wpAny _ _ (if ((1:Int)==0)=true then _ else _) _ _ s;rw[FN (by decide)];refine FA (jA pl (FA (jA pu (FA (FQ ?_)))));show wpAny _ _ (match Builtin.Slice.sliceAdjust lo hi 1 (n:Int) with | (lo,hi)=>pure (lo,(1:Int),Builtin.Slice.slicePlaces lo hi 1)) _ _ s;rw[qE lo hi n];show wpAny _ _ (pure (((sIx n 0 lo:Nat):Int),(1:Int),Builtin.Slice.slicePlaces ((sIx n 0 lo:Nat):Int) ((sIx n n hi:Nat):Int) 1)) _ _ s;rw[qp];exact FQ h
theorem vt(xs:Array Value)(i k:Nat):((List.range k).filterMap λ(m:Nat)=>xs[((i:Int)+(m:Int)*1).toNat]?).toArray=((xs.toList.drop i).take k).toArray:=by
 have e:(λ(m:Nat)=>xs[((i:Int)+(m:Int)*1).toNat]?)=λm=>xs[i+m]?:=by
  funext m
  have:((i:Int)+(m:Int)*1).toNat=i+m:=by omega
  rw[this]
 rw[e];have:=pick_run xs i k;rw[List.filterMap_map] at this;have e2:((λx=>xs[x]?) ∘ λx=>i+x)=λm=>xs[i+m]?:=rfl;rw[e2] at this;rw[this]
theorem getItem_tuple_cut{t sl:Addr}{items:Array Value}{vl vu:Value}{lo hi:Option Int}{Q:Value->Shared->Prop}(ht:IsTup s.heap t items)(hs:s.heap.IsSliceOf sl vl vu .none)(pl:IsPart vl lo)(pu:IsPart vu hi)
  (hw:¬ (sIx items.size 0 lo=0/\sIx items.size items.size hi=items.size))
  (h:Q (.ref s.heap.objs.size) { s with heap:=s.heap.push { cls:=.type "tuple",data:=.seq ((items.toList.drop (sIx items.size 0 lo)).take (sIx items.size items.size hi-sIx items.size 0 lo)).toArray } })
  (hsz:items.size<=sizeLine):wpAny (model prog w) A (getItem (.ref t) (.ref sl)) Q E s:=by
 have aa:sizeOk (.seq ((items.toList.drop (sIx items.size 0 lo)).take (sIx items.size items.size hi-sIx items.size 0 lo)).toArray):=by
  show ((items.toList.drop (sIx items.size 0 lo)).take (sIx items.size items.size hi-sIx items.size 0 lo)).toArray.size<=sizeLine
  rw[FK,Ge,G8,Ht];omega
 have hj:sIx items.size items.size hi<=items.size:=xH _ _ (FH _) hi
 obtain⟨os,ai,ab,al⟩:=id hs;have aj:s.TypeIs (.ref sl) "slice":=⟨os,ai,ab⟩;unfold getItem
 try with_reducible refine GB ?_
 first | refine FA (FQ ?_) | skip
 refine FA (wpAny_sequenceKey ht.typeIs (by decide) ?_)
 refine FA (wpAny_callSpecial?_slot (name:=Str.ofString "__getitem__") ht.typeIs Gr
  (GO Gr ht.typeIs entry_tuple_getitem ?_ (args_tuple_getitem _ _)))
 show wpAny _ _ (Builtin.Tuple.tupleItemsOf (.ref t) >>= _) _ _ s
 refine FA (tupleItemsOf_ ht ?_);refine FA (wpAny_typeOf aj ?_);rw[FP (by decide)];refine FA (dB hs pl pu ?_);have ah:¬ ((((sIx items.size 0 lo:Nat):Int)==0&&(1:Int)==1&&(sIx items.size items.size hi-sIx items.size 0 lo)==items.size)=true):=by
  intro q;rw[Bool.and_eq_true,Bool.and_eq_true] at q;have q1:((sIx items.size 0 lo:Nat):Int)=0:=eq_of_beq q.1.1;have q2:sIx items.size items.size hi-sIx items.size 0 lo=items.size:=eq_of_beq q.2;exact hw ⟨by omega,by omega⟩
 show wpAny _ _ (if (((sIx items.size 0 lo:Nat):Int)==0&&(1:Int)==1&&(sIx items.size items.size hi-sIx items.size 0 lo)==items.size)=true then _ else _) _ _ s
 rw[FN ah,vt]
 first
  | exact FA (m:=Builtin.Tuple.tupleExact _) (GJ (FQ ⟨_,rfl,FQ h⟩) aa)
  | exact FA (m:=Builtin.Tuple.tupleExact _) (GJ (FA (FQ (FQ ⟨_,rfl,FQ h⟩))) aa)
  | exact FA (FA (m:=Builtin.Tuple.tupleExact _) (GJ (FQ (FQ ⟨_,rfl,FQ h⟩)) aa))
  | exact FA (FA (m:=Builtin.Tuple.tupleExact _) (GJ (FQ ⟨_,rfl,FQ h⟩) aa))
end
end HT
namespace L2
open PySem PySem.Spec PyProof.Rows
abbrev TO:=St->Hp->(Option Int->Hp->Prop)->Prop
def PO(X:Cx)(e:Option Expr)(t:TO):Prop :=
 ∀(pins:List (Addr×Obj)) (s:Shared) (σ:St) (H:Hp) (Q:Option Int->Hp->Prop),Inv X pins σ H s->t σ H Q ->
  wpAny (model X.prog X.w) X.A (evalPart e X.env) (λu s'=>∃o H',Inv X pins σ H' s'/\IsPart u o/\Q o H') X.xe s
def yN:TO:=λ_ H Q=>Q none H
def D4(t:TE):TO:=λσ H Q=>t σ H λx H1=>∃i,x=.int i/\Q (some i) H1
section
variable {X:Cx} {e:Expr} {te:TE} {lo hi:Option Expr} {tl th:TO} {pos p2:Pos}
theorem yO:PO X none yN:=by
 intro aa s σ H Q I h;rw[evalPart_none];exact FQ ⟨none,H,I,.none,h⟩
theorem yc(h:PE X e te):PO X (some e) (D4 te):=by
 intro aa s σ H Q I hw;rw[evalPart_some];refine E7 (h aa s σ H _ I hw) λu s1 ⟨x,H1,I1,r1,q1⟩=>?_;obtain⟨i,rfl,q⟩:=q1;obtain⟨t,rfl⟩:=r1;exact⟨some i,H1,I1,.int i t,q⟩
def SlR(X:Cx)(r:V->Option Int->Option Int->Hp->VK->Prop):Prop :=
 ∀(pins:List (Addr×Obj)) (s:Shared) (σ:St) (H:Hp) (x:V) (v vl vu:Value) (lo hi:Option Int) (sl:Addr) (Q:VK),Inv X pins σ H s->bB x v->s.heap.IsSliceOf sl vl vu .none->IsPart vl lo->IsPart vu hi->r x lo hi H Q ->
  ∃T id,typeLookup (.type T) "__getitem__"=pure (some (.builtin id))/\s.TypeIs v T/\wpAny (model X.prog X.w) X.A (getItem v (.ref sl)) (EP X pins σ Q) X.xe s
theorem SlR.or{r r':V->Option Int->Option Int->Hp->VK->Prop}(h:SlR X r)(h':SlR X r'):SlR X (λx lo hi H Q=>r x lo hi H Q\/r' x lo hi H Q):=by
 intro aa s σ H x v vl vu lo hi sl Q I rx hs pl pu q
 rcases q with q | q
 ·exact h aa s σ H x v vl vu lo hi sl Q I rx hs pl pu q
 ·exact h' aa s σ H x v vl vu lo hi sl Q I rx hs pl pu q
def tSl(r:V->Option Int->Option Int->Hp->VK->Prop)(te:TE)(tl th:TO):TE:=λσ H Q=>te σ H λx H1=>tl σ H1 λl H2=>th σ H2 λu H3=>r x l u H3 Q
theorem oK{r:V->Option Int->Option Int->Hp->VK->Prop}(hr:SlR X r)(he:PE X e te)(hl:PO X lo tl)(hu:PO X hi th):PE X (.Subscript e (.Slice lo hi none p2) pos) (tSl r te tl th):=by
 intro aa s σ H Q I h;refine Subscript_ (E7 (he aa s σ H _ I h) λv s1 ⟨x,H1,I1,r1,q1⟩=>?_);refine wpAny_Slice (E7 (hl aa s1 σ H1 _ I1 q1) λvl s2 ⟨l,H2,I2,pl,q2⟩=>E7 (hu aa s2 σ H2 _ I2 q2) λvu s3 ⟨u,H3,I3,pu,q3⟩=>?_);rw[evalPart_none];refine FQ ?_;have I4:Inv X aa σ H3 { s3 with heap:=s3.heap.push { cls:=.type "slice",data:=.fields #[vl,vu,.none] } }:=I3.kept (t':=s3.toks) λb ob q=>Heap.get?_push_of_some _ q;obtain⟨T,id,hT,ht,hg⟩:=hr aa { s3 with heap:=s3.heap.push { cls:=.type "slice",data:=.fields #[vl,vu,.none] } } σ H3 x v vl vu l u s3.heap.objs.size Q I4 r1 (Heap.IsSliceOf.new ..) pl pu q3;show wpAny (model X.prog X.w) X.A (subscriptTail e (.Slice lo hi none p2) v (.ref s3.heap.objs.size)) (EP X aa σ Q) X.xe { s3 with heap:=s3.heap.push { cls:=.type "slice",data:=.fields #[vl,vu,.none] } };exact tail_any (ops:=[.ref s3.heap.objs.size,v]) ht hT hg (by with_unfolding_all rfl)
def rc(xs:Zf)(lo hi:Option Int):Zf:=(xs.drop (HT.sIx xs.length 0 lo)).take (HT.sIx xs.length xs.length hi-HT.sIx xs.length 0 lo)
theorem iy(xs:Zf)(lo hi:Option Int):(rc xs lo hi).length<=xs.length:=by
 unfold rc;rw[Ge,G8];omega
def rSlT(K:PySem.W.Frag):V->Option Int->Option Int->Hp->VK->Prop:=λx lo hi H Q=>∃a xs,x=.ref a/\Fh K H a xs /\
 ¬ (HT.sIx xs.length 0 lo=0/\HT.sIx xs.length xs.length hi=xs.length)/\∀p,H p=none->Q (.ref p) (EW H p (.tup (rc xs lo hi)))
theorem xx:SlR X (rSlT X.K):=by
 intro ah s σ H x v vl vu lo hi sl Q I rx hs pl pu h;obtain⟨a,xs,rfl,hx,hw,q⟩:=h
 cases rx
 obtain⟨ab,r,ht,hz⟩:=I.tuple hx;have aa:ab.toArray.size=xs.length:=by rw[FK];exact r.length.symm
 refine⟨"tuple",_,Gr.lookup,ht.typeIs,?_⟩;refine HT.getItem_tuple_cut ht hs pl pu (by rw[aa];exact hw) ?_ (by rw[aa];exact hz);rw[aa];refine⟨.ref s.heap.objs.size,_,I.laid (t':=s.toks) (o:=.tup (rc xs lo hi)) (λb ob q=>Heap.get?_push_of_some _ q) (FH _) ?_,rfl,q _ (I.hok.fresh (FH _))⟩;exact⟨FB (iy xs lo hi) hz,_,(r.drop (HT.sIx xs.length 0 lo)).take (HT.sIx xs.length xs.length hi-HT.sIx xs.length 0 lo),IsTup.new _ _⟩
def DI(K:PySem.W.Frag):R2:=λx y H Q=>∃a b xs ys,x=.ref a/\y=.ref b/\Fh K H a xs/\Fh K H b ys/\xs≠[]/\xs.length+ys.length<=sizeLine /\
 (ys=[]->Q (.ref a) H)/\(ys≠[]->∀p,H p=none->Q (.ref p) (EW H p (.tup (xs++ys))))
theorem bv.nil_iff{xs:Zf}{us:Zc}(r:bv xs us):us=[]↔xs=[]:=by
 cases r with
 | nil=>simp
 | cons _ _=>simp
theorem zX:E9 X (binaryOp .Add) (DI X.K):=by
 intro ab s σ H x y v u Q I rx ry h;obtain⟨a,b,xs,ys,rfl,rfl,ha,hb,hx,hz,q1,q2⟩:=h
 cases rx
 cases ry
 obtain⟨ah,r1,p1,_⟩:=I.tuple ha;obtain⟨aa,r2,p2,_⟩:=I.tuple hb;refine HT.cat_tup p1 p2 (λz=>hx (r1.nil_iff.mp z)) (λz=>⟨.ref a,H,I,rfl,q1 (r2.nil_iff.mp z)⟩) (λz=>?_) (by rw[<- r1.length,<- r2.length];exact hz);refine⟨.ref s.heap.objs.size,_,I.laid (t':=s.toks) (o:=.tup (xs++ys)) (λb ob q=>Heap.get?_push_of_some _ q) (FH _) ?_,rfl,q2 (λw=>z (r2.nil_iff.mpr w)) _ (I.hok.fresh (FH _))⟩;exact⟨by rw[FF];exact hz,_,r1.append r2,IsTup.new _ _⟩
end
end L2
namespace L2
open PySem PySem.Spec PyProof.Rows
variable {s:Shared}
def ixN(n:Nat)(i:Int):Option Nat:=if 0<=i then (if i<n then some i.toNat else none) else if -(n:Int)<=i then some (i+n).toNat else none
def E4{α:Type}(xs:List α)(i:Int):Option α:=(ixN xs.length i).bind λj=>xs[j]?
theorem tT{n:Nat}{i:Int}{j:Nat}(h:ixN n i=some j):seqIndex? i n=some j/\j<n/\-(n:Int)<=i/\i<n:=by
 unfold ixN at h
 by_cases h0:0<=i
 ·rw[FP h0] at h
  by_cases h1:i<n
  ·rw[FP h1] at h;have e:i.toNat=j:=FU h;exact⟨by rw[seqIndex_of h0 h1,e],by omega,by omega,h1⟩
  ·rw[FN h1] at h;cases h
 ·rw[FN h0] at h
  by_cases h1:-(n:Int)<=i
  ·rw[FP h1] at h;have e:(i+n).toNat=j:=FU h;exact⟨by rw[seqIndex_neg (by omega) h1,e],by omega,h1,by omega⟩
  ·rw[FN h1] at h;cases h
theorem m9{α:Type}{xs:List α}{i:Int}{v:α}(h:E4 xs i=some v):∃j,seqIndex? i xs.length=some j/\xs[j]?=some v/\j<xs.length/\-(xs.length:Int)<=i/\i<xs.length:=by
 unfold E4 at h
 cases e:ixN xs.length i with
 | none=>rw[e] at h;cases h
 | some j =>
  rw[e] at h;obtain⟨h1,h2,h3,h4⟩:=tT e;exact⟨j,h1,h,h2,h3,h4⟩
theorem vX{α:Type}(xs:List α)(v:α):E4 (xs++[v]) (-1)=some v:=by
 have hl:(xs++[v]).length=xs.length+1:=by simp
 have e:ixN (xs++[v]).length (-1)=some xs.length:=by
  unfold ixN;rw[hl,FN (by decide),FP (by omega)]
  congr 1
  omega
 unfold E4;rw[e];show (xs++[v])[xs.length]?=some v;simp
def mX(b:Expr):Prop:=∀o i,subscripted b false o i=operate [o,i] (getItem o i)
def IxR(X:Cx)(r:R2):Prop :=
 ∀(value slice:Expr) (pins:List (Addr×Obj)) (s:Shared) (σ:St) (H:Hp) (x y:V) (v u:Value) (Q:VK),Inv X pins σ H s->bB x v->bB y u->r x y H Q ->
  subscripted slice false v u=operate [v,u] (getItem v u)->wpAny (model X.prog X.w) X.A (subscriptTail value slice v u) (EP X pins σ Q) X.xe s
def MtR(X:Cx)(id:String)(r:V->Zf->Hp->VK->Prop):Prop :=
 ∀(pins:List (Addr×Obj)) (s:Shared) (σ:St) (H:Hp) (x:V) (xs:Zf) (v:Value) (us:Zc) (Q:VK),Inv X pins σ H s->bB x v->bv xs us->r x xs H Q ->
  wpAny (model X.prog X.w) X.A (call (.builtin id) (v::us)) (EP X pins σ Q) X.xe s
section
variable {X:Cx} {a b:Expr} {ta tb:TE} {pos:Pos}
theorem IxR.or{r r':R2}(h:IxR X r)(h':IxR X r'):IxR X (λx y H Q=>r x y H Q\/r' x y H Q):=by
 intro aa ab ah s σ H x y v u Q I rx ry q hs
 rcases q with q | q
 ·exact h aa ab ah s σ H x y v u Q I rx ry q hs
 ·exact h' aa ab ah s σ H x y v u Q I rx ry q hs
theorem AR{r:R2}(hr:IxR X r)(ha:PE X a ta)(hb:PE X b tb)(hs:mX b):PE X (.Subscript a b pos) (tOp r ta tb):=by
 intro aa s σ H Q I h;exact Subscript_ (binT ha hb I h λv u s2 x y H2 I2 rx ry q=>hr a b aa s2 σ H2 x y v u Q I2 rx ry q (hs _ _))
def rIxL(K:PySem.W.Frag):R2:=λx y H Q=>∃p xs i v,x=.ref p/\y=.int i/\EX K H p xs/\E4 xs i=some v/\Q v H
def rIxT(K:PySem.W.Frag):R2:=λx y H Q=>∃p xs i v,x=.ref p/\y=.int i/\Fh K H p xs/\E4 xs i=some v/\Q v H
def rIxS:R2:=λx y H Q=>∃z i c,x=.str z/\y=.int i/\z.length<=sizeLine/\E4 z.cps.toList i=some c/\Q (.str ⟨#[c]⟩) H
theorem tX:IxR X (rIxL X.K):=by
 intro aj al aa s σ H x y v u Q I rx ry h hs;obtain⟨p,xs,i,z,rfl,rfl,hq,he,q⟩:=h
 cases rx
 obtain⟨t,rfl⟩:=ry;obtain⟨ah,r,pl,hz⟩:=I.list hq;obtain⟨j,h1,h2,h3,h4,h5⟩:=m9 he;obtain⟨w,ew,ai⟩:=r.get h2;have hl:=r.length;have hn:=lr;have ab:EP X aa σ Q w s:=⟨z,H,I,ai,q⟩
 by_cases h0:0<=i
 ·have hj:i.toNat=j:=by
   rw[seqIndex_of h0 h5] at h1;exact FU h1
  exact item_listR pl.isList h0 (by omega) (by rw[hj];simpa using ew) ab hs
 ·have hj:(i+(ah.toArray.size:Int)).toNat=j:=by
   rw[seqIndex_neg (by omega) h4] at h1;rw[FK,<- hl];exact FU h1
  exact subscriptTail_builtinR (x:=w) pl.isList.typeIs slot_list_getitem.lookup
   (wpAny_getItem_list_neg (Q:=λr s'=>r=w/\EP X aa σ Q r s') pl.isList (by omega) (by rw[FK]<;>omega) (by omega) (by rw[hj];simpa using ew) ⟨rfl,ab⟩) hs
theorem B5:IxR X (rIxT X.K):=by
 intro ai aj aa s σ H x y v u Q I rx ry h hs;obtain⟨p,xs,i,z,rfl,rfl,hq,he,q⟩:=h
 cases rx
 obtain⟨t,rfl⟩:=ry;obtain⟨al,r,pl,hz⟩:=I.tuple hq;obtain⟨j,h1,h2,h3,h4,h5⟩:=m9 he;obtain⟨w,ew,ah⟩:=r.get h2;have hl:=r.length;have hn:=lr;have ab:EP X aa σ Q w s:=⟨z,H,I,ah,q⟩;exact subscriptTail_builtinR (x:=w) pl.typeIs slot_tuple_getitem.lookup
  (getItem_tuple (j:=j) (Q:=λr s'=>r=w/\EP X aa σ Q r s') pl (by omega) (by omega) (by rw[FK,<- hl];exact h1) (by simpa using ew) ⟨rfl,ab⟩) hs
theorem Bq:IxR X rIxS:=by
 intro aa ab ah s σ H x y v u Q I rx ry h hs;obtain⟨z,i,c,rfl,rfl,hz,he,q⟩:=h;obtain⟨t,rfl⟩:=rx;obtain⟨t',rfl⟩:=ry;obtain⟨j,h1,h2,h3,h4,h5⟩:=m9 he;have hl:z.cps.toList.length=z.length:=by simp[Str.length]
 rw[hl] at h1 h4 h5;have hn:=lr
 exact tail_any (typeIs_str s z t) slot_str_getitem.lookup (getItem_str (c:=c) (by
  have e1:decide (i < -(2 ^ 63:Int))=false:=F5 (by omega)
  have e2:decide (i ≥ 2 ^ 63)=false:=F5 (by omega)
  rw[e1,e2,Bool.or_false]) (by rw[h1];simpa using h2) ⟨.str ⟨#[c]⟩,H,I.tok _,⟨_,rfl⟩,q⟩) hs
def rIx(K:PySem.W.Frag):R2:=λx y H Q=>rIxL K x y H Q\/rIxT K x y H Q\/rIxS x y H Q
theorem Bn:IxR X (rIx X.K):=tX.or (B5.or Bq)
theorem p9(its:Zc)(n j:Nat)(u:Value):Obj.mapSeq (·.setIfInBounds j u) { cls:=.type "list",data:=.seq its.toArray n }={ cls:=.type "list",data:=.seq (its.set j u).toArray n }:=by
 simp[Obj.mapSeq]
theorem Inv.lst{pins:List (Addr×Obj)}{σ:St}{H:Hp}{s:Shared}{p:Addr}{xs:Zf}(I:Inv X pins σ H s)(h:H p=some (.lst xs)) :
  ∃(its:Zc) (n:Nat),bv xs its/\s.heap.get? p=some { cls:=.type "list",data:=.seq its.toArray n }/\xs.length<=sizeLine:=by
 obtain⟨z,its,n,r,e⟩:=I.hok p _ h;exact⟨its,n,r,e,z⟩
theorem Inv.lstUpd{pins:List (Addr×Obj)}{σ:St}{H:Hp}{p:Addr}{xs ys:Zf}{its its':Zc}{n n':Nat}{f:Obj->Obj}(I:Inv X pins σ H s)(h:H p=some (.lst xs))
  (ho:s.heap.get? p=some { cls:=.type "list",data:=.seq its.toArray n }) (hf:f { cls:=.type "list",data:=.seq its.toArray n }={ cls:=.type "list",data:=.seq its'.toArray n' }) (r:bv ys its') (hz:ys.length<=sizeLine) (t:Nat) :
  Inv X pins σ (EW H p (.lst ys)) { s with heap:=s.heap.update p f,toks:=t }:=by
 have e:(s.heap.update p f).get? p=some { cls:=.type "list",data:=.seq its'.toArray n' }:=by
  rw[Heap.get?_update_self f ho (by rw[hf]<;>rfl),hf]
 refine I.write (x:=p) (e:=p) (by rw[h];trivial) (.inl rfl) (λb u hb q=>(Heap.get?_update_other _ _ (Hl hb)).trans q) ⟨_,e⟩ ?_;exact⟨hz,its',n',r,e⟩
def D3:V->V->V->Hp->(Hp->Prop)->Prop:=λo i v H Q=>∃p xs k j,o=.ref p/\i=.int k/\H p=some (.lst xs)/\ixN xs.length k=some j/\Q (EW H p (.lst (xs.set j v)))
theorem we:PSet X D3:=by
 intro ab s σ H o i v ov iv u Q I ro ri rv h;obtain⟨p,xs,k,j,rfl,rfl,hp,hj,q⟩:=h
 cases ro
 obtain⟨t,rfl⟩:=ri;obtain⟨aa,n,r,ho,hz⟩:=I.lst hp;obtain⟨h1,h2,h3,h4⟩:=tT hj;have hl:=r.length;have hn:=lr;have I':Inv X ab σ (EW H p (.lst (xs.set j v))) { s with heap:=s.heap.update p (Obj.mapSeq (·.setIfInBounds j u)) } :=
  I.lstUpd hp ho (p9 aa n j u) (r.set rv j) (by rw[Gs];exact hz) s.toks
 by_cases h0:0<=k
 ·have hk:k.toNat=j:=by
   rw[seqIndex_of h0 h4] at h1;exact FU h1
  exact PySem.W.ki_setAt ho h0 (by omega) (by rw[FK,<- hl];exact h4) (by rw[hk];exact⟨_,I',q⟩)
 ·have hk:(k+(aa.toArray.size:Int)).toNat=j:=by
   rw[seqIndex_neg (by omega) h3] at h1;rw[FK,<- hl];exact FU h1
  exact PySem.W.ki_setBack ho (by omega) (by rw[FK,<- hl];exact h3) (by omega) (by rw[hk];exact⟨_,I',q⟩)
theorem lP(lo hi:Option Int)(n:Nat):(sliceBounds lo hi none n).1=((HT.sIx n 0 lo:Nat):Int)/\(sliceBounds lo hi none n).2.1=((HT.sIx n n hi:Nat):Int)/\(sliceBounds lo hi none n).2.2=1:=by
 refine⟨?_,?_,rfl⟩
 ·cases lo with
  | none=>simp[sliceBounds,HT.sIx]
  | some i =>
   simp only[sliceBounds,HT.sIx,Option.getD_none,show (1:Int)>0 by decide,if_true]
   by_cases h:i<0
   ·simp only[h,if_true]<;>omega
   ·simp only[h,if_false]<;>omega
 ·cases hi with
  | none=>simp[sliceBounds,HT.sIx]
  | some i =>
   simp only[sliceBounds,HT.sIx,Option.getD_none,show (1:Int)>0 by decide,if_true]
   by_cases h:i<0
   ·simp only[h,if_true]<;>omega
   ·simp only[h,if_false]<;>omega
theorem j3(its:Zc)(lo hi:Option Int):slicePick its.toArray lo hi none=((its.drop (HT.sIx its.length 0 lo)).take (HT.sIx its.length its.length hi-HT.sIx its.length 0 lo)).toArray:=by
 obtain⟨h1,h2,h3⟩:=lP lo hi its.toArray.size;unfold slicePick;rw[h1,h2,h3];simp only[sliceRange_one,pick_run,List.size_toArray]<;>rfl
def rSlL(K:PySem.W.Frag):V->Option Int->Option Int->Hp->VK->Prop:=λx lo hi H Q=>∃a xs,x=.ref a/\EX K H a xs/\∀p,H p=none->Q (.ref p) (EW H p (.lst (rc xs lo hi)))
theorem zl:SlR X (rSlL X.K):=by
 intro ab s σ H x v vl vu lo hi sl Q I rx hs pl pu h;obtain⟨a,xs,rfl,hx,q⟩:=h
 cases rx
 obtain⟨ah,r,ht,hz⟩:=I.list hx;have aa:=r.length;refine⟨"list",_,slot_list_getitem.lookup,ht.isList.typeIs,?_⟩;refine wpAny_getItem_list_slice ht.isList hs pl pu .none (by simp) ?_ (by rw[FK]<;>omega)
 rw[j3,<- aa];refine⟨.ref s.heap.objs.size,_,I.laid (t':=s.toks) (o:=.lst (rc xs lo hi)) (λb ob q=>Heap.get?_push_of_some _ q) (FH _) ?_,rfl,q _ (I.hok.fresh (FH _))⟩;exact⟨FB (iy xs lo hi) hz,_,0,(r.drop (HT.sIx xs.length 0 lo)).take (HT.sIx xs.length xs.length hi-HT.sIx xs.length 0 lo),Heap.get?_push_size _ rfl⟩
def Db:V->Bool
 | .non=>true
 | .bl _=>true
 | .int _=>true
 | .str _=>true
 | _=>false
def eqV:V->V->Bool
 | .non,.non=>true
 | .bl a,.bl b=>a==b
 | .bl a,.int b=>(if a then 1 else 0)==b
 | .int a,.bl b=>a==(if b then 1 else 0)
 | .int a,.int b=>a==b
 | .str a,.str b=>a==b
 | _,_=>false
theorem oG{A:Around}{y x:V}{u v:Value}(ry:bB y u)(rx:bB x v)(fy:Db y=true)(fx:Db x=true):SeqAt.EqAt A s u v (eqV y x):=by
 cases y with
 | non =>
  cases ry
  cases x with
  | non=>cases rx;exact HC _
  | bl b=>cases rx;exact SeqAt.EqAt.none_bool b
  | int b=>obtain⟨t,rfl⟩:=rx;exact SeqAt.EqAt.none_int b t
  | str b=>obtain⟨t,rfl⟩:=rx;exact SeqAt.EqAt.none_str b t
  | _=>exact absurd (show false=true from fx) FG
 | bl a =>
  cases ry
  cases x with
  | non=>cases rx;exact SeqAt.EqAt.bool_none a
  | bl b=>cases rx;exact SeqAt.EqAt.bool_bool a b
  | int b=>obtain⟨t,rfl⟩:=rx;exact SeqAt.EqAt.bool_int a b t
  | str b=>obtain⟨t,rfl⟩:=rx;exact SeqAt.EqAt.bool_str a b t
  | _=>exact absurd (show false=true from fx) FG
 | int a =>
  obtain⟨t',rfl⟩:=ry
  cases x with
  | non=>cases rx;exact SeqAt.EqAt.int_none a t'
  | bl b=>cases rx;exact SeqAt.EqAt.int_bool a t' b
  | int b=>obtain⟨t,rfl⟩:=rx;exact Ha a t' b t
  | str b=>obtain⟨t,rfl⟩:=rx;exact SeqAt.EqAt.int_str a t' b t
  | _=>exact absurd (show false=true from fx) FG
 | str a =>
  obtain⟨t',rfl⟩:=ry
  cases x with
  | non=>cases rx;exact SeqAt.EqAt.str_none a t'
  | bl b=>cases rx;exact SeqAt.EqAt.str_bool a t' b
  | int b=>obtain⟨t,rfl⟩:=rx;exact SeqAt.EqAt.str_int a t' b t
  | str b=>obtain⟨t,rfl⟩:=rx;exact HD a t' b t
  | _=>exact absurd (show false=true from fx) FG
 | _=>exact absurd (show false=true from fy) FG
theorem gg:cm X (.builtin "len") (λxs H Q=>∃p ys,xs=[.ref p]/\(EX X.K H p ys\/Fh X.K H p ys)/\Q (.int ys.length) H):=by
 intro ah s σ H xs us Q I r h;obtain⟨p,ys,rfl,hq,q⟩:=h;obtain⟨u,rfl,rx⟩:=e5 r
 cases rx
 have hn:=lr
 rcases hq with hq | hq
 ·obtain⟨ab,r',pl,hz⟩:=I.list hq;have aa:=r'.length;exact Calls.call_len_list pl.isList (by simp only[List.size_toArray]<;>omega) ⟨.int ys.length,H,I.tok _,⟨s.toks+1,by rw[FK,aa]⟩,q⟩
 ·obtain⟨ab,r',pl,hz⟩:=I.tuple hq;have aa:=r'.length;exact len_tuple pl (by simp only[List.size_toArray]<;>omega) ⟨.int ys.length,H,I.tok _,⟨s.toks+1,by rw[FK,aa]⟩,q⟩
theorem jW:cm X (.type "tuple") (λxs H Q=>∃p ys,xs=[.ref p]/\((EX X.K H p ys/\∀l,H l=none->Q (.ref l) (EW H l (.tup ys)))\/(Fh X.K H p ys/\Q (.ref p) H))):=by
 intro aa s σ H xs us Q I r h;obtain⟨p,ys,rfl,h⟩:=h;obtain⟨u,rfl,rx⟩:=e5 r
 cases rx
 rcases h with⟨hq,q⟩ | ⟨hq,q⟩
 ·obtain⟨ab,r',pl,hz⟩:=I.list hq;have ah:=r'.length;refine call_tuple_list pl.isList (λh' kp=>?_) (by simp only[List.size_toArray]<;>omega)
  have I1:Inv X aa σ H { s with heap:=h' }:=I.kept (t':=s.toks) kp
  have I2:Inv X aa σ (EW H h'.objs.size (.tup ys)) { s with heap:=h'.push { cls:=.type "tuple",data:=.seq ab.toArray } } :=
   I1.laid (t':=s.toks) (λb o e=>Heap.get?_push_of_some _ e) (FH _) (show bV X.prog X.w _ _ _ (.tup ys) from⟨hz,ab,r',IsTup.new _ _⟩)
  exact⟨.ref h'.objs.size,_,I2,rfl,q _ (I1.hok.fresh (FH _))⟩
 ·obtain⟨ab,r',pl,hz⟩:=I.tuple hq;exact call_tuple_same pl ⟨.ref p,H,I,rfl,q⟩
def tyV(K:PySem.W.Frag)(T:String)(x:V)(H:Hp):Prop:=match x with
 | .str _=>T="str"
 | .int _=>T="int"
 | .ref p=>(T="list"/\∃xs,EX K H p xs)\/(T="tuple"/\∃o,K.lookup p=some o/\o.cls=.type "tuple"/\o.dict=none) \/
   (T="dict"/\((∃kvs,H p=some (.dK kvs))\/∃kvs,H p=some (.dT kvs)))\/(T="set"/\∃S n,H p=some (.set S n))
 | _=>False
theorem CV{pins:List (Addr×Obj)}{σ:St}{H:Hp}{T:String}{x:V}{v:Value}(I:Inv X pins σ H s)(r:bB x v)(ty:tyV X.K T x H) :
  s.TypeIs v T/\∀a,v=.ref a->∃ob,s.heap.get? a=some ob/\ob.dict=none:=by
 cases x with
 | str z =>
  obtain⟨t,rfl⟩:=r
  cases (show T="str" from ty)
  exact⟨typeIs_str s z t,λ_ e=>nomatch e⟩
 | int i =>
  obtain⟨t,rfl⟩:=r
  cases (show T="int" from ty)
  exact⟨typeIs_int s i t,λ_ e=>nomatch e⟩
 | ref p =>
  cases r
  rcases ty with⟨rfl,xs,hq⟩ | ⟨rfl,o,hk,hc,hd⟩ | ⟨rfl,hk⟩ | ⟨rfl,S,n,hk⟩
  ·obtain⟨aa,_,pl,_⟩:=I.list hq;refine⟨pl.isList.typeIs,λa e=>?_⟩
   cases e
   obtain⟨o,n,e,c,hd,_⟩:=pl;exact⟨o,e,hd⟩
  ·refine⟨⟨o,I.kIn p o hk,hc⟩,λa e=>?_⟩
   cases e
   exact⟨o,I.kIn _ o hk,hd⟩
  ·have z:∃o,s.heap.get? p=some o/\o.ExactDict:=by
    rcases hk with⟨kvs,hk⟩ | ⟨kvs,hk⟩
    ·obtain⟨_,_,_,_,o,_,_,e,ex,_⟩:=I.hok p _ hk;exact⟨o,e,ex⟩
    ·obtain⟨_,_,_,_,o,_,_,e,ex,_⟩:=I.hok p _ hk;exact⟨o,e,ex⟩
   obtain⟨o,e,ex⟩:=z;refine⟨⟨o,e,ex.1⟩,λa e2=>?_⟩
   cases e2
   exact⟨o,e,ex.2.1⟩
  ·obtain⟨o,_,_,_,e,ex,_⟩:=I.hok p _ hk;refine⟨⟨o,e,ex.1⟩,λa e2=>?_⟩
   cases e2
   exact⟨o,e,ex.2.1⟩
 | _=>exact False.elim ty
def tBM(K:PySem.W.Frag)(T:String)(r:V->Zf->Hp->VK->Prop)(to:TE)(t:TA):TE:=λσ H Q=>to σ H λx H1=>tyV K T x H1/\t σ H1 λxs H2=>r x xs H2 Q
variable {o e:Expr} {es:List Expr} {to:TE} {t:TA} {name:Str} {apos cpos:Pos} {T id:String} {r:V→Zf→Hp→VK→Prop}
theorem BS(pa:PlainAttrs T)(slot:Slot T name id)(hty:typeOf (.builtin id)=pure (.type "method_descriptor"))(hm:MtR X id r)(ho:PE X o to)(ha:PA X (e::es) t)
    (hbase:attributeBase o name X.env (eval o X.env)=eval o X.env:=by rfl)
    (hfew:((backTo cpos (starEach (e::es) X.env)).all (λx=>!x.1)&&(backToKw cpos (keywordEach [] X.env)).all (λx=>x.1.isSome)
      && decide ((e::es).length+([]:List Keyword).length+(if ([]:List Keyword).isEmpty then 0 else 1)<30))=true:=by rfl)
    (hline:(apos.endLine==cpos.line)=true:=by rfl) (hs:starEach (e::es) X.env=(false,eval e X.env)::starEach es X.env:=by rfl) (hplain:(backTo cpos (starEach es X.env)).any (·.1)=false:=by rfl) :
    PE X (.Call (.Attribute o name apos) (e::es) [] cpos) (tBM X.K T r to t):=by
  intro aa s σ H Q I h;refine wpAny_Call_method_late hbase hfew hline rfl (E7 (ho aa s σ H _ I h) λv s1 ⟨x,H1,I1,r1,ty,q1⟩=>?_);obtain⟨h1,h2⟩:=CV I1 r1 ty;refine⟨T,id,pa,slot,hty,h1,h2,?_⟩;have hA:=ha cpos aa s1 σ H1 _ I1 q1;rw[hs] at hA ⊢;refine Calls.callWith_builtin (by show (false||(backTo cpos (starEach es X.env)).any (·.1))=false;rw[hplain]<;>rfl) (Calls.evalArgs_plain ?_)
  exact E7 hA λus s2 ⟨vs,H2,I2,r2,q2⟩=>hm aa s2 σ H2 x vs v us Q I2 r1 r2 q2
end
end L2
namespace L2
open PySem PySem.Spec PyProof.Rows
def MtM(X:Cx)(id:String)(r:V->Zf->Hp->VK->Prop):Prop :=
 ∀(pins:List (Addr×Obj)) (s:Shared) (σ:St) (H:Hp) (x:V) (xs:Zf) (v:Value) (us:Zc) (Q:VK),Inv X pins σ H s->bB x v->bv xs us->r x xs H Q ->
  wpAny (model X.prog X.w) X.A (call (.builtin id) (v::us)) (EP X pins σ Q) X.xe s
theorem bv.one:∀ {x:V} {us:Zc},bv [x] us->∃u,us=[u]/\bB x u
 | _,_,.cons r .nil=>⟨_,rfl,r⟩
theorem bv.dropLast{xs:Zf}{us:Zc}(h:bv xs us):bv xs.dropLast us.dropLast:=by
 induction h with
 | nil=>exact .nil
 | cons r t ih =>
  cases t with
  | nil=>exact .nil
  | cons q t'=>exact .cons r ih
theorem bv.reverse{xs:Zf}{us:Zc}(h:bv xs us):bv xs.reverse us.reverse:=by
 induction h with
 | nil=>exact .nil
 | cons r t ih=>rw[List.reverse_cons,List.reverse_cons];exact bv.append ih (.cons r .nil)
section
variable {X:Cx} {pins:List (Addr×Obj)} {σ:St} {H:Hp} {s:Shared} {l b:Addr} {xs ys zs:Zf}
theorem Inv.lset{its its':Zc}{n:Nat}{f:Array Value->Array Value}{t':Nat}(I:Inv X pins σ H s)(hH:H l=some (.lst xs))
  (e:s.heap.get? l=some { cls:=.type "list",data:=.seq its.toArray n }) (hf:f its.toArray=its'.toArray) (hv:bv ys its') (hz:ys.length<=sizeLine) :
  Inv X pins σ (EW H l (.lst ys)) { s with heap:=s.heap.update l (Obj.mapSeq f),toks:=t' }:=by
 have q:=PySem.IsL.update e f
 rw[hf] at q;refine I.write (x:=l) (e:=l) (by rw[hH];exact trivial) (.inl rfl) (λb' u hb hu=>(Heap.get?_update_other s.heap (Obj.mapSeq f) (Hl hb)).trans hu) ⟨_,q⟩ ?_;exact⟨hz,its',_,hv,q⟩
theorem Inv.lnew{its:Zc}{t':Nat}(I:Inv X pins σ H s)(hv:bv ys its)(hz:ys.length<=sizeLine) :
  Inv X pins σ (EW H s.heap.objs.size (.lst ys)) { s with heap:=s.heap.push { cls:=.type "list",data:=.seq its.toArray },toks:=t' } :=
 I.laid (λ_ _ q=>Heap.get?_push_of_some _ q) (FH _) ⟨hz,its,0,hv,Heap.get?_push_size _ rfl⟩
theorem Inv.fresh(I:Inv X pins σ H s):H s.heap.objs.size=none:=I.hok.fresh (FH _)
theorem Inv.lstM(I:Inv X pins σ H s)(hH:H l=some (.lst xs)):xs.length<=sizeLine/\∃(its:Zc) (n:Nat),bv xs its/\xs.length=its.length/\s.heap.get? l=some { cls:=.type "list",data:=.seq its.toArray n }:=by
 obtain⟨z,its,n,r,e⟩:=I.hok l _ hH;exact⟨z,its,n,r,r.length,e⟩
theorem vq{n:Nat}(h:n<=sizeLine):Builtin.List.listTooLong n=false:=by
 unfold Builtin.List.listTooLong;exact F5 (by omega)
end
section
variable {X:Cx}
def yI:V->Zf->Hp->VK->Prop:=λx vs H Q=>∃l xs y,x=.ref l/\vs=[y]/\H l=some (.lst xs)/\xs.length<sizeLine/\Q .non (EW H l (.lst (xs++[y])))
theorem lN:MtM X "list.append" yI:=by
 intro ab s σ H x vs v us Q I rx rv h;obtain⟨l,xs,y,rfl,rfl,hH,hz,q⟩:=h
 cases rx
 obtain⟨u,rfl,ru⟩:=rv.one;obtain⟨z,aa,n,r,hl,e⟩:=I.lstM hH;refine call_meets F.slot_list_append ⟨_,e,rfl⟩ F.entry_list_append (F.args_list_append_2 _ _) (PySem.list_append l aa.toArray n u (by rw[FK];omega)) ⟨e,?_⟩;refine⟨.non,_,I.lset (its':=aa++[u]) hH e (by simp) (r.append (.cons ru .nil)) ?_,rfl,q⟩;rw[FF,Gg];omega
def zH:V->Zf->Hp->VK->Prop:=λx vs H Q=>∃l b xs zs,x=.ref l/\vs=[.ref b]/\H l=some (.lst xs)/\H b=some (.lst zs)/\xs.length+zs.length<=sizeLine/\Q .non (EW H l (.lst (xs++zs)))
theorem mt_extend:MtM X "list.extend" zH:=by
 intro ai s σ H x vs v us Q I rx rv h;obtain⟨l,b,xs,zs,rfl,rfl,hH,hB,hz,q⟩:=h
 cases rx
 obtain⟨u,rfl,ru⟩:=rv.one
 cases ru
 obtain⟨z,ab,n,r,hl,e⟩:=I.lstM hH;obtain⟨z2,aa,n2,r2,aj,e2⟩:=I.lstM hB;have hsz:ab.toArray.size+aa.toArray.size<=sizeLine:=by rw[FK,FK];omega
 have ah:¬ (!ab.toArray.isEmpty&&Builtin.List.listTooLong (ab.toArray.size+aa.toArray.size))=true:=by
  rw[vq hsz,Bool.and_false];exact FG
 refine call_meets F.slot_list_extend ⟨_,e,rfl⟩ F.entry_list_extend (F.args_list_extend_2 _ _)
  (AutoSeq1.list_extend_list_list_0 l ab.toArray n b aa.toArray n2 ah (by rw[FK];omega) (by omega)) ⟨e,e2,?_⟩
 refine⟨.non,_,I.lset (its':=ab++aa) hH e (by simp) (r.append r2) ?_,rfl,q⟩;rw[FF];omega
def rCat:R2:=λx y H Q=>∃l b xs zs,x=.ref l/\y=.ref b/\H l=some (.lst xs)/\H b=some (.lst zs)/\xs.length+zs.length<=sizeLine/\∀p,H p=none->Q (.ref p) (EW H p (.lst (xs++zs)))
theorem CO:E9 X (binaryOp .Add) rCat:=by
 intro ah s σ H x y v u Q I rx ry h;obtain⟨l,b,xs,zs,rfl,rfl,hH,hB,hz,q⟩:=h
 cases rx
 cases ry
 obtain⟨z,ab,n,r,hl,e⟩:=I.lstM hH;obtain⟨z2,aa,n2,r2,ai,e2⟩:=I.lstM hB;refine PySem.P.add_list e e2 ?_ (by rw[FK,FK];omega);have ea:ab.toArray++aa.toArray=(ab++aa).toArray:=by simp
 rw[ea];exact⟨.ref _,_,I.lnew (t':=s.toks) (r.append r2) (by rw[FF];omega),rfl,q _ I.fresh⟩
end
section
variable {prog:Program} {w:World} {A:Around} {E:Value→Shared→Prop} {s:Shared}
set_option maxRecDepth 100000 in
end
section
variable {X:Cx}
end
end L2
namespace L2
open PySem PySem.Spec PyProof.Rows
variable {P:Program} {w:World} {u:Value} {H H':Hp} {xs:List (List Fq×Addr×Value)} {y:V} {kvs:List (Fq×V)} {Q:Value→Shared→Prop} {s:Shared}
section
variable {κ:Type} [DecidableEq κ]
def pF(kvs:List (κ×V))(k:κ):Option V:=(kvs.find? λkv=>decide (kv.1=k)).map (·.2)
def qA(kvs:List (κ×V))(k:κ)(v:V):List (κ×V) :=
 if (kvs.any λkv=>decide (kv.1=k))=true then kvs.map (λkv=>if kv.1=k then (kv.1,v) else kv) else kvs++[(k,v)]
def CZ(kvs:List (κ×V))(k:κ):List (κ×V):=kvs.filter λkv=>decide (kv.1≠k)
theorem gG{p:κ×V}{r:List (κ×V)}{k:κ}(e:p.1=k):pF (p::r) k=some p.2:=by simp[pF,List.find?_cons,e]
theorem gF{p:κ×V}{r:List (κ×V)}{k:κ}(e:¬ p.1=k):pF (p::r) k=pF r k:=by simp[pF,List.find?_cons,e]
theorem pI(k:κ):∀kvs:List (κ×V),(kvs.any λkv=>decide (kv.1=k))=(pF kvs k).isSome
 | []=>rfl
 | p::r=>by
  rw[HE]
  by_cases e:p.1=k
  ·simp only[gG e,decide_eq_true e,Bool.true_or,Option.isSome_some]
  ·rw[gF e,F5 e,Bool.false_or];exact pI k r
theorem ja(kvs:List (κ×V))(k:κ)(v:V):(qA kvs k v).length<=kvs.length+1:=by
 unfold qA
 split
 ·rw[Fy];omega
 ·rw[FF,FL,List.length_nil];omega
theorem qi.isSome_eq{o:Option V}{u:Zd}(r:qi o u):o.isSome=u.isSome:=by
 cases o with
 | none=>cases u with
  | none=>rfl
  | some _=>exact(show False from r).elim
 | some _=>cases u with
  | none=>exact(show False from r).elim
  | some _=>rfl
theorem qi.getD{o:Option V}{u:Zd}{d:V}{d':Value}(r:qi o u)(rd:bB d d'):bB (o.getD d) (u.getD d'):=by
 cases o with
 | none=>cases u with
  | none=>exact rd
  | some _=>exact(show False from r).elim
 | some _=>cases u with
  | none=>exact(show False from r).elim
  | some _=>exact r
theorem KV.val{kvs:List (κ×V)}{vs:List (κ×Value)}(r:KV kvs vs)(k:κ):qi (pF kvs k) (valueAt vs k):=by
 unfold KV at r
 induction r with
 | nil=>exact True.intro
 | @cons p q ps qs h t ih =>
  obtain⟨h1,h2⟩:=h
  by_cases e:p.1=k
  ·have e':q.1=k:=h1.symm.trans e
   have b:valueAt (q::qs) k=some q.2:=by simp[valueAt,List.find?_cons,e']
   rw[gG e,b];exact h2
  ·have e':¬ q.1=k:=λz=>e (h1.trans z)
   have b:valueAt (q::qs) k=valueAt qs k:=by simp[valueAt,List.find?_cons,e']
   rw[gF e,b];exact ih
theorem KV.any{kvs:List (κ×V)}{vs:List (κ×Value)}(r:KV kvs vs)(k:κ):(kvs.any λkv=>decide (kv.1=k))=vs.any λkv=>decide (kv.1=k):=by
 unfold KV at r
 induction r with
 | nil=>rfl
 | cons h t ih=>rw[HE,HE,ih,h.1]
theorem KV.repl{kvs:List (κ×V)}{vs:List (κ×Value)}(r:KV kvs vs)(k:κ){y:V}{u:Value}(ry:bB y u) :
  KV (kvs.map λkv=>if kv.1=k then (kv.1,y) else kv) (vs.map λkv=>if kv.1=k then (kv.1,u) else kv):=by
 unfold KV at r ⊢
 induction r with
 | nil=>exact .nil
 | @cons p q ps qs h t ih =>
  rw[F7,F7];refine .cons ?_ ih;obtain⟨h1,h2⟩:=h
  by_cases e:p.1=k
  ·rw[FP e,FP (h1.symm.trans e)];exact⟨h1,ry⟩
  ·rw[FN e,FN (λz=>e (h1.trans z))];exact⟨h1,h2⟩
theorem KV.put{kvs:List (κ×V)}{vs:List (κ×Value)}(r:KV kvs vs)(k:κ){y:V}{u:Value}(ry:bB y u):KV (qA kvs k y) (stored vs k u):=by
 unfold qA stored;rw[r.any k]
 by_cases e:(vs.any λkv=>decide (kv.1=k))=true
 ·rw[FP e,FP e];exact r.repl k ry
 ·rw[FN e,FN e];exact Paired.snoc r ⟨rfl,ry⟩
theorem KV.drop{kvs:List (κ×V)}{vs:List (κ×Value)}(r:KV kvs vs)(k:κ):KV (CZ kvs k) (without vs k):=by
 unfold KV at r ⊢;unfold CZ without
 induction r with
 | nil=>exact .nil
 | @cons p q ps qs h t ih =>
  obtain⟨h1,h2⟩:=h;rw[List.filter_cons,List.filter_cons]
  by_cases e:p.1=k
  ·have a:¬ decide (p.1≠k)=true:=by simp[e]
   have b:¬ decide (q.1≠k)=true:=by simp[h1.symm.trans e]
   rw[FN a,FN b];exact ih
  ·have e':¬ q.1=k:=λz=>e (h1.trans z)
   have a:decide (p.1≠k)=true:=by simp[e]
   have b:decide (q.1≠k)=true:=by simp[e']
   rw[FP a,FP b];exact .cons ⟨h1,h2⟩ ih
theorem KV.length{kvs:List (κ×V)}{vs:List (κ×Value)}(r:KV kvs vs):kvs.length=vs.length:=Paired.length r
end
theorem qv{k:Fq}(r:bB (kV k) u):(bg P w).is k u=true:=by
 cases k with
 | inl i=>obtain⟨t,e⟩:=(show ∃t,u=Value.int i t from r);subst e;exact mB P w i t
 | inr x=>obtain⟨t,e⟩:=(show ∃t,u=Value.str x t from r);subst e;exact mC P w x t
theorem lJ:∀ {ks:List Fq} {us:Zc},bv (ks.map kV) us->ItemsAre (bg P w) ks us
 | [],_,r=>by rw[Hc] at r;cases r;exact .nil
 | k::ks,_,r=>by
  rw[F7] at r
  cases r with
  | cons h t=>exact .cons (qv h) (lJ t)
abbrev KT(H:Hp):List (List Fq×V)->List (List Fq×Addr×Value)->Prop:=Paired λp q=>p.1=q.1/\H q.2.1=some (.tup (p.1.map kV))/\bB p.2 q.2.2
theorem KT.val{kvs:List (List Fq×V)}(r:KT H kvs xs)(k:List Fq):qi (pF kvs k) ((atKey xs k).map (·.2)):=by
 induction r with
 | nil=>exact True.intro
 | @cons p q ps qs h t ih =>
  obtain⟨h1,_,h2⟩:=h
  by_cases e:p.1=k
  ·have e':q.1=k:=h1.symm.trans e
   have b:atKey (q::qs) k=some q.2:=by simp[atKey,List.find?_cons,e']
   rw[gG e,b];exact h2
  ·have e':¬ q.1=k:=λz=>e (h1.trans z)
   have b:atKey (q::qs) k=atKey qs k:=by simp[atKey,List.find?_cons,e']
   rw[gF e,b];exact ih
theorem KT.repl{kvs:List (List Fq×V)}(r:KT H kvs xs)(k:List Fq)(ry:bB y u) :
  KT H (kvs.map λkv=>if kv.1=k then (kv.1,y) else kv) (xs.map (putAt k u)):=by
 induction r with
 | nil=>exact .nil
 | @cons p q ps qs h t ih =>
  rw[F7,F7];refine .cons ?_ ih;obtain⟨h1,h2,h3⟩:=h;unfold putAt
  by_cases e:p.1=k
  ·rw[FP e,FP (h1.symm.trans e)];exact⟨h1,h2,ry⟩
  ·rw[FN e,FN (λz=>e (h1.trans z))];exact⟨h1,h2,h3⟩
theorem KT.put{kvs:List (List Fq×V)}(r:KT H kvs xs)(k:List Fq){b:Addr}(hb:H b=some (.tup (k.map kV)))(ry:bB y u) :
  KT H (qA kvs k y) (storedH xs k b u):=by
 have e:(kvs.any λkv=>decide (kv.1=k))=(atKey xs k).isSome:=by
  rw[pI,(r.val k).isSome_eq,Option.isSome_map]
 unfold qA storedH;rw[e]
 by_cases q:(atKey xs k).isSome=true
 ·rw[FP q,FP q];exact r.repl k ry
 ·rw[FN q,FN q];exact Paired.snoc r ⟨rfl,hb,ry⟩
theorem KT.keeps{kvs:List (List Fq×V)}(r:KT H kvs xs)(ht:∀b ys,H b=some (.tup ys)->H' b=some (.tup ys)):KT H' kvs xs :=
 Paired.mapP r λ_ _ z=>⟨z.1,ht _ _ z.2.1,z.2.2⟩
section
variable {P:Program} {w:World} {H:Hp} {h:Heap} {a:Addr}
theorem Dh{u:HO}(ok:Fl P w H h)(e:Rd H a u):bV P w H h a u:=e.ok ok
theorem i7(ok:Fl P w H h)(e:Rd H a (.dK kvs)):kvs.length<=sizeLine/\(a==sysModules)=false/\∃vs,KV kvs vs/\h.DictOf (bg P w) a vs :=
 show bV P w H h a (.dK kvs) from Dh ok e
theorem C6(ok:Fl P w H h)(e:H a=some (.dK kvs)):kvs.length<=sizeLine/\(a==sysModules)=false/\∃vs,KV kvs vs/\h.DictOf (bg P w) a vs:=i7 ok (.inl e)
theorem jz{ks:List Fq}(ok:Fl P w H h)(e:H a=some (.tup (ks.map kV))):(tupleKind (bg P w)).is h ks a:=by
 obtain⟨_,aa,r,o,h1,h2,n,h3⟩:=(show bV P w H h a (.tup (ks.map kV)) from ok a _ e);exact⟨o,aa.toArray,n,h1,h2,h3,by simpa using lJ r⟩
theorem mJ{kvs:List (List Fq×V)}(ok:Fl P w H h)(e:Rd H a (.dT kvs)):kvs.length<=sizeLine/\(a==sysModules)=false /\
  ∃xs,KT H kvs xs/\h.DictOfH (tupleKind (bg P w)) a xs:=by
 obtain⟨z,y,xs,r,o,es,ep,h1,h2,h3,h4,h5⟩:=(show bV P w H h a (.dT kvs) from Dh ok e);refine⟨z,y,xs,r,o,es,ep,h1,h2,h3,h4,λx hx=>?_,h5⟩;have all:∀ {l:List (List Fq×V)} {m:List (List Fq×Addr×Value)},KT H l m->∀x∈m,(tupleKind (bg P w)).is h x.1 x.2.1:=by
  intro l m q
  induction q with
  | nil=>intro x hx;exact nomatch hx
  | @cons p q ps qs hq t ih =>
   intro x hx
   rcases FJ.mp hx with e | hx
   ·subst e;exact jz ok (by rw[<- hq.1];exact hq.2.1)
   ·exact ih x hx
 exact all r x hx
theorem EE{kvs:List (List Fq×V)}(ok:Fl P w H h)(e:H a=some (.dT kvs)):kvs.length<=sizeLine/\(a==sysModules)=false /\
  ∃xs,KT H kvs xs/\h.DictOfH (tupleKind (bg P w)) a xs:=mJ ok (.inl e)
end
def pP(H:Hp)(a:Addr)(y:V)(r:Option V):Prop :=
 (∃kvs k,Rd H a (.dK kvs)/\y=kV k/\r=pF kvs k)\/∃kvs k b,Rd H a (.dT kvs)/\y=.ref b/\H b=some (.tup (k.map kV))/\r=pF kvs k
def DPut(H:Hp)(a:Addr)(y v:V)(H':Hp):Prop :=
 (∃kvs k,H a=some (.dK kvs)/\y=kV k/\kvs.length<sizeLine/\H'=EW H a (.dK (qA kvs k v))) \/
 ∃kvs k b,H a=some (.dT kvs)/\y=.ref b/\H b=some (.tup (k.map kV))/\kvs.length<sizeLine/\H'=EW H a (.dT (qA kvs k v))
theorem pP.k{H:Hp}{a:Addr}{kvs:List (Fq×V)}{k:Fq}(e:H a=some (.dK kvs)):pP H a (kV k) (pF kvs k):=.inl ⟨kvs,k,.inl e,rfl,rfl⟩
theorem DPut.k{H:Hp}{a:Addr}{kvs:List (Fq×V)}{k:Fq}{v:V}(e:H a=some (.dK kvs))(hl:kvs.length<sizeLine):DPut H a (kV k) v (EW H a (.dK (qA kvs k v))):=.inl ⟨kvs,k,e,rfl,hl,rfl⟩
section
variable {X:Cx} {pins:List (Addr×Obj)} {σ:St} {H:Hp} {s:Shared} {a:Addr} {y v:V} {u r:Value} {o:Option V} {A:Around} {E:Value→Shared→Prop}
theorem Inv.big(I:Inv X pins σ H s):sysModules<s.heap.objs.size:=by
 have h:mainGlobals<s.heap.objs.size:=(I.mod.glob.keeps I.bk).lt
 exact Nat.lt_trans (by decide) h
theorem uf(hu:A.units+1<cLine)(I:Inv X pins σ H s)(g:pP H a y (some v))(ry:bB y u)(h:∀w' s',Inv X pins σ H s'->bB v w'->Q w' s') :
  wpAny (model X.prog X.w) A (getItem (.ref a) u) Q E s:=by
 rcases g with⟨kvs,k,e,ey,l⟩ | ⟨kvs,k,b,e,ey,eb,l⟩
 ·subst ey;obtain⟨z,hd,vs,aa,dd⟩:=i7 I.hok e;obtain⟨w',hw,ab⟩:=qi.some_of (v:=v) (o:=valueAt vs k) (by rw[l];exact aa.val k);exact wpAny_getItem_of (qv ry) dd.mapOf hw (h w' _ (I.tok _) ab)
 ·subst ey
  cases (show u=Value.ref b from ry)
  obtain⟨z,hd,xs,aa,dd⟩:=mJ I.hok e;obtain⟨w',hw,ab⟩:=qi.some_of (v:=v) (o:=(atKey xs k).map (·.2)) (by rw[l];exact aa.val k);obtain⟨p,hp,ah⟩:=HN.mp hw;refine wpAny_getItem_heap (Hb hu) (jz I.hok eb) dd hp ?_;rw[ah];exact h w' _ (I.tok _) ab
theorem d_in(hu:A.units+1<cLine)(I:Inv X pins σ H s)(g:pP H a y o)(ry:bB y u)(h:∀s',Inv X pins σ H s'->Q (.bool o.isSome) s') :
  wpAny (model X.prog X.w) A (compareOp .In u (.ref a)) Q E s:=by
 rcases g with⟨kvs,k,e,ey,l⟩ | ⟨kvs,k,b,e,ey,eb,l⟩
 ·subst ey;obtain⟨z,hd,vs,aa,dd⟩:=i7 I.hok e;refine wpAny_in_of (qv ry) hd dd.mapOf ?_;rw[<- (aa.val k).isSome_eq,<- l];exact h _ (I.tok _)
 ·subst ey
  cases (show u=Value.ref b from ry)
  obtain⟨z,hd,xs,aa,dd⟩:=mJ I.hok e;refine wpAny_in_heap (Hb hu) (jz I.hok eb) hd dd ?_;have q:=(aa.val k).isSome_eq;rw[Option.isSome_map] at q;rw[<- q,<- l];exact h _ (I.tok _)
theorem zc(hu:A.units+1<cLine)(I:Inv X pins σ H s)(g:pP H a y o)(ry:bB y u)(h:∀s',Inv X pins σ H s'->Q (.bool (!o.isSome)) s') :
  wpAny (model X.prog X.w) A (compareOp .NotIn u (.ref a)) Q E s:=by
 rcases g with⟨kvs,k,e,ey,l⟩ | ⟨kvs,k,b,e,ey,eb,l⟩
 ·subst ey;obtain⟨z,hd,vs,aa,dd⟩:=i7 I.hok e;refine wpAny_notIn_of (qv ry) hd dd.mapOf ?_;rw[<- (aa.val k).isSome_eq,<- l];exact h _ (I.tok _)
 ·subst ey
  cases (show u=Value.ref b from ry)
  obtain⟨z,hd,xs,aa,dd⟩:=mJ I.hok e;refine wpAny_notIn_heap (Hb hu) (jz I.hok eb) hd dd ?_;have q:=(aa.val k).isSome_eq;rw[Option.isSome_map] at q;rw[<- q,<- l];exact h _ (I.tok _)
theorem um{h':Heap}{t':Nat}{ob:HO}(I:Inv X pins σ H s)(mu:Mut (H a))(hs:Heap.SameBut a s.heap h')(he:∃q,h'.get? a=some q)(new:bV X.prog X.w (EW H a ob) h' a ob) :
  Inv X pins σ (EW H a ob) { s with heap:=h',toks:=t' } :=
 I.write (x:=a) (e:=a) mu (.inl rfl) (λb q hb z=>(hs.2 b hb).trans z) he new
theorem xa{h':Heap}{vs:List (Fq×Value)}(z:kvs.length<=sizeLine)(hd:(a==sysModules)=false)(rel:KV kvs vs)(dd:h'.DictOf (bg P w) a vs) :
  bV P w H' h' a (.dK kvs):=⟨z,hd,vs,rel,dd⟩
theorem sM{Q:Unit->Shared->Prop}(hu:A.units+1<cLine)(I:Inv X pins σ H s)(g:DPut H a y v H')(ry:bB y u)(rv:bB v r)(h:∀s',Inv X pins σ H' s'->Q () s') :
  wpAny (model X.prog X.w) A (setItem (.ref a) u r) Q E s:=by
 rcases g with⟨kvs,k,e,ey,l,eH⟩ | ⟨kvs,k,b,e,ey,eb,l,eH⟩
 ·subst ey eH;obtain⟨z,hd,vs,aa,dd⟩:=C6 I.hok e;have hz:vs.length<=sizeLine:=by rw[<- aa.length];exact z
  have hl:(qA kvs k v).length<=sizeLine:=by have:=ja kvs k v;omega
  refine wpAny_setItem_pairs (hsz:=hz) (qv ry) dd λh' dd' hs=>h _ ?_;have he:∃q,h'.get? a=some q:=let ⟨q,_,_,hq,_⟩:=dd';⟨q,hq⟩;exact um I (by rw[e];exact True.intro) hs he (xa hl hd (aa.put k rv) dd')
 ·subst ey eH
  cases (show u=Value.ref b from ry)
  obtain⟨z,hd,xs,aa,dd⟩:=EE I.hok e;have hz:xs.length<=sizeLine:=by rw[<- Paired.length aa];exact z
  have hl:(qA kvs k v).length<=sizeLine:=by have:=ja kvs k v;omega
  refine wpAny_setItem_heap (hsz:=hz) (Hb hu) (jz I.hok eb) dd λh' dd' hs=>h _ ?_;obtain⟨q,es,ep,hq,h2,h3,h4,_,h5⟩:=dd';refine um I (by rw[e];exact True.intro) hs ⟨q,hq⟩ ⟨hl,hd,_,(aa.put k eb rv).keeps λc ys ec=>?_,q,es,ep,hq,h2,h3,h4,h5⟩;rw[aJ (DY ec e (λz=>nomatch z))];exact ec
end
section
variable {X:Cx} {pins:List (Addr×Obj)} {σ:St} {H:Hp} {s:Shared} {a:Addr} {kvs:List (Fq×V)} {k:Fq} {u:Value} {A:Around} {E:Value→Shared→Prop}
end
def NoSl(i:Expr):Prop:=∀ov iv,subscripted i false ov iv=operate [ov,iv] (getItem ov iv)
theorem zd{prog:Program}{A:Around}{E:Value->Shared->Prop}{env:Env}{value slice:Expr}{pos:Pos}{T id:String}
  (hl:typeLookup (.type T) "__getitem__"=pure (some (.builtin id))) (hs:NoSl slice)
  (h:wpAny (model prog w) A (eval value env) (λo s₁=>wpAny (model prog w) A (eval slice env) (λi s₂=>s₂.TypeIs o T/\wpAny (model prog w) A (getItem o i) Q E s₂) E s₁) E s) :
  wpAny (model prog w) A (eval (.Subscript value slice pos) env) Q E s:=by
 refine Subscript_ (GI h (λo s₁ h₁=>GI h₁ (λi s₂ h₂=>?_) λ_ _ x=>x) λ_ _ x=>x);obtain⟨hT,h₂⟩:=h₂;unfold subscriptTail;refine FA ?_;rw[getitemInPython_of_ne hT.not_modules];refine FA (wpAny_specialOf hT hl ?_);have aa:wpAny (model prog w) A (subscripted slice false o i) (λr s₃=>wpAny (model prog w) A (letTemporaryGo value o r >>= λ_=>pure r) Q E s₃) E s₂:=by
  rw[hs o i];exact wpAny_operating (GI h₂ (λr s₃ h₃=>FA (wpAny_letTemporaryGo (FQ h₃))) λ_ _ x=>x)
 first
  | exact FQ (FA aa)
  | exact FA (FQ (FA aa))
  | exact FA aa
theorem nu{X:Cx}{pins:List (Addr×Obj)}{σ:St}{a:Addr}{o:Option V}(I:Inv X pins σ H s)(g:pP H a y o):s.TypeIs (.ref a) "dict":=by
 rcases g with⟨kvs,k,e,_,_⟩ | ⟨kvs,k,b,e,_,_,_⟩
 ·obtain⟨_,_,vs,_,dd⟩:=i7 I.hok e;exact dd.typeIs
 ·obtain⟨_,_,xs,_,dd⟩:=mJ I.hok e;exact dd.typeIs
def Eb(td ty:TE):TE:=λσ H Q=>td σ H λx H1=>ty σ H1 λy H2=>∃a v,x=.ref a/\pP H2 a y (some v)/\Q v H2
def EA(td ty tv:TE):TS:=λD σ H=>tv σ H λv H1=>td σ H1 λx H2=>ty σ H2 λy H3=>∃a H4,x=.ref a/\DPut H3 a y v H4/\D.nx σ H4
section
variable {X:Cx} {o i e value:Expr} {pos pos' tpos:Pos} {td ty tv:TE}
theorem AB(hu:X.A.units+1<cLine)(ho:PE X o td)(hi:PE X i ty)(hs:NoSl i):PE X (.Subscript o i pos) (Eb td ty):=by
 intro aa s σ H Q I h;refine zd PySem.F.slot_dict_getitem.lookup hs (E7 (ho aa s σ H _ I h) λu s1 ⟨x,H1,I1,rx,q1⟩=>E7 (hi aa s1 σ H1 _ I1 q1) λiv s2 ⟨y,H2,I2,ry,a,v,ex,g,q2⟩=>?_);subst ex;obtain rfl:u=Value.ref a:=rx;exact⟨nu I2 g,uf hu I2 g ry λw' s3 I3 rw'=>⟨v,H2,I3,rw',q2⟩⟩
theorem yE(hu:X.A.units+1<cLine)(ho:PE X o td)(hi:PE X i ty)(hv:PE X value tv)(hs:swapsWith value (some (.Subscript o i pos')) pos.line X.env=pure false) :
  PS X (.Assign [.Subscript o i pos'] value pos) (EA td ty tv):=by
 intro aa s σ H D I h;refine wpAny_Assign_Subscript (E7 (hv aa s σ H _ I h) λr s1 ⟨v,H1,I1,rv,q1⟩=>E7 (ho aa s1 σ H1 _ I1 q1) λu s2 ⟨x,H2,I2,rx,q2⟩=>E7 (hi aa s2 σ H2 _ I2 q2) λiv s3 ⟨y,H3,I3,ry,a,H4,ex,g,q3⟩=>?_) hs;subst ex;obtain rfl:u=Value.ref a:=rx;exact sM hu I3 g ry rv λs4 I4=>⟨σ,H4,I4,q3⟩
end
theorem wF(h:Heap)(hb:sysModules<h.objs.size):bV P w H (h.push { cls:=.type "dict",data:=.dict #[] }) h.objs.size (.dK []) :=
 ⟨GN _,Ic.mpr (Hl (Gb hb)),[],.nil,Heap.DictOf.new h⟩
def A6:TE:=λ_ H Q=>∀p,H p=none->Q (.ref p) (EW H p (.dK []))
section
variable {X:Cx} {pos:Pos}
theorem pk:PE X (.Dict [] [] pos) A6:=λpins s σ H Q I h =>
 wpAny_Dict_empty ⟨.ref s.heap.objs.size,_,I.laid (a:=s.heap.objs.size) (o:=.dK []) (t':=s.toks) (λ_ _ q=>Heap.get?_push_of_some _ q) (FH _) (wF s.heap I.big),rfl,h _ (I.hok.fresh (FH _))⟩
end
structure M2(X:Cx)(o:Expr)(m:Str)(apos:Pos)(e f:Expr)(cpos:Pos):Prop where
 base:attributeBase o m X.env (eval o X.env)=eval o X.env
 few:((backTo cpos (starEach [e,f] X.env)).all (λx=>!x.1)&&(backToKw cpos (keywordEach [] X.env)).all (λx=>x.1.isSome)
  && decide (([e,f]:List Expr).length+([]:List Keyword).length+(if ([]:List Keyword).isEmpty then 0 else 1)<30))=true
 line:(apos.endLine==cpos.line)=true
 trees:backTo cpos (starEach [e,f] X.env)=[(false,eval e X.env),(false,eval f X.env)]
def IsD(H:Hp)(a:Addr):Prop:=(∃kvs,Rd H a (.dK kvs))\/∃kvs,Rd H a (.dT kvs)
theorem CT{X:Cx}{pins:List (Addr×Obj)}{σ:St}{a:Addr}(I:Inv X pins σ H s)(d:IsD H a) :
  s.TypeIs (.ref a) "dict"/\(∀b,Value.ref a=.ref b->∃ob,s.heap.get? b=some ob/\ob.dict=none)/\(a==sysModules)=false:=by
 rcases d with⟨kvs,e⟩ | ⟨kvs,e⟩
 ·obtain⟨_,hd,vs,_,dd⟩:=i7 I.hok e;refine⟨dd.typeIs,λb q=>?_,hd⟩
  cases q
  obtain⟨ob,_,_,h1,h2,_⟩:=dd;exact⟨ob,h1,h2.2.1⟩
 ·obtain⟨_,hd,xs,_,dd⟩:=mJ I.hok e;refine⟨dd.typeIs,λb q=>?_,hd⟩
  cases q
  obtain⟨ob,_,_,h1,h2,_⟩:=dd;exact⟨ob,h1,h2.2.1⟩
section
variable {X:Cx} {pins:List (Addr×Obj)} {σ:St} {H:Hp} {s:Shared} {a:Addr} {y d:V} {u r:Value} {o:Option V} {A:Around} {E:Value→Shared→Prop}
theorem CH(hu:A.units+1<cLine)(I:Inv X pins σ H s)(g:pP H a y o)(ry:bB y u)(rd:bB d r)(h:∀w' s',Inv X pins σ H s'->bB (o.getD d) w'->Q w' s') :
  wpAny (model X.prog X.w) A (call (.builtin "dict.get") [.ref a,u,r]) Q E s:=by
 rcases g with⟨kvs,k,e,ey,l⟩ | ⟨kvs,k,b,e,ey,eb,l⟩
 ·subst ey;obtain⟨z,hd,vs,aa,dd⟩:=i7 I.hok e;refine call_meetsIn HV dd.typeIs PySem.F.entry_dict_get (PySem.F.args_dict_get_3 _ _ _) (meets_dict_get_default (bg X.prog X.w) a (qv ry) hd r) ⟨_,dd.mapOf,h _ _ (I.tok _) ?_⟩;rw[l];exact(aa.val k).getD rd
 ·subst ey
  cases (show u=Value.ref b from ry)
  obtain⟨z,hd,xs,aa,dd⟩:=mJ I.hok e;refine call_meetsIn HV dd.typeIs PySem.F.entry_dict_get (PySem.F.args_dict_get_3 _ _ _) (meetsH_dict_get_default (tupleKind (bg X.prog X.w)) a b hd r) ⟨Hb hu,k,xs,jz I.hok eb,dd,h _ _ (I.tok _) ?_⟩;rw[l];exact(aa.val k).getD rd
end
def CP(td ty tx:TE):TE:=λσ H Q=>td σ H λx H1=>∃a,x=.ref a/\IsD H1 a/\ty σ H1 λy H2=>tx σ H2 λz H3=>∃o,pP H3 a y o/\Q (o.getD z) H3
section
variable {X:Cx} {o e f:Expr} {apos cpos:Pos} {td ty tx:TE}
theorem vm(hu:X.A.units+1<cLine)(ho:PE X o td)(he:PE X e ty)(hf:PE X f tx)(m:M2 X o "get" apos e f cpos):PE X (.Call (.Attribute o "get" apos) [e,f] [] cpos) (CP td ty tx):=by
 intro aa s σ H Q I h;refine wpAny_Call_method m.base m.few m.line PySem.F.plainAttrs_dict HV PySem.F.type_dict_get (E7 (ho aa s σ H _ I h) λu s1 ⟨x,H1,I1,rx,a,ex,d,q1⟩=>?_);subst ex;obtain rfl:u=Value.ref a:=rx;obtain⟨t1,t2,_⟩:=CT I1 d;refine⟨t1,t2,?_⟩;rw[m.trees]
 refine Calls.callWith_builtin rfl (Calls.evalArgs_plain (Calls.spliced_cons (E7 (he aa s1 σ H1 _ I1 q1) λiv s2 ⟨y,H2,I2,ry,q2⟩ =>
  Calls.spliced_cons (E7 (hf aa s2 σ H2 _ I2 q2) λfv s3 ⟨z,H3,I3,rz,ov,g,q3⟩=>Calls.spliced_nil ?_))))
 exact CH hu I3 g ry rz λw' s4 I4 rw'=>⟨_,H3,I4,rw',q3⟩
end
section
variable {X:Cx} {pins:List (Addr×Obj)} {σ:St} {H:Hp} {s:Shared} {a:Addr} {kvs:List (Fq×V)} {A:Around} {E:Value→Shared→Prop}
end
section
variable {X:Cx} {pins:List (Addr×Obj)} {σ:St} {H:Hp} {s:Shared} {a:Addr} {y:V} {u:Value} {A:Around} {E:Value→Shared→Prop}
end
end L2
namespace Att
open PySem PySem.W PySem.Calls PyProof.Rows
theorem ik{P:Params}{h:Heap}:∀(ns:Ze) (vs:Zc),WellAll P h vs (ns.map WData.int)->IntsAre vs ns:=by
 intro ns
 induction ns with
 | nil =>
  intro vs w;rw[Hc] at w
  cases w
  exact .nil
 | cons n ns ih =>
  intro vs w;rw[F7] at w
  cases w with
  | cons a b =>
   cases a
   exact .cons _ _ (ih _ b)
theorem script_of{l:OpenLaw}{n:Nat}(hn:l.most=some n){P:Params}{h:Heap}{args:List WData}{vals:Zc}
  (hpre:l.row.toRowW.claim.pre args=true) (hwl:WellAll P h vals args) :
  ∃a vs ns,vals=[Value.ref a]/\args=[WData.list (ns.map WData.int)]/\h.get? a=some { cls:=.type "list",data:=.seq vs.toArray }/\IntsAre vs ns/\ns.length<=n:=by
 have ab:WShape.hasAll [] args [.list .int]=true:=(pre_splitW hpre).1
 have hc:l.pre.holds [] { args:=args }=true:=(pre_splitW hpre).2
 obtain⟨d,r,rfl,h1,h2⟩:=hasAllW_cons ab;obtain rfl:=hasAllW_nil h2;obtain⟨xs,rfl,h3⟩:=hasW_list h1;obtain⟨ns,rfl⟩:=items_int h3;have aa:ns.length<=n:=by
  unfold OpenLaw.pre at hc;have h4:(WTm.not (.lt (.lit (.int (n:Int))) (.len (.arg 0)))).holds [] { args:=[.list (ns.map .int)] }=true:=by
   have h4:=(holds_andW hc).1
   rw[hn] at h4;exact h4
  have h5:=condW_of h4 (w_not (w_lt w_lit (w_len_list (w_arg rfl))))
  rw[Fy] at h5;refine Nat.le_of_not_lt λq=>?_;have q':(n:Int)<((ns.length:Nat):Int):=by omega
  first
   | (rw[F6 q'] at h5;exact absurd h5 (by decide))
   | (simp at h5;omega)
 cases hwl with
 | cons w1 w2 =>
  cases w2
  cases w1 with
  | list ho hall=>exact⟨_,_,ns,rfl,rfl,ho,ik ns _ hall,aa⟩
theorem post_true(l:OpenLaw)(args:List WData):l.row.toRowW.claim.post args (.bool true) args=true :=
 postW_of (r:=l.row.toRowW) (X:=(true==true))
  (show WShape.has [] (.bool true) .bool=true by first | rfl | decide | simp[WShape.has,WShape.arms,WShape.armsAll])
  (show (WTm.eq .res (.lit (.bool true))).value [] { args:=args,res:=some (.bool true),after:=args }=some (.bool (true==true)) from w_eq_bool (w_res rfl) w_lit) rfl
section
variable {prog:Program} {w:World} {A:Around} {E:Value→Shared→Prop} {s:Shared} {K:Frag}
end
end Att
namespace L2
open PySem PySem.Spec PyProof.Rows
theorem mo:∀ {vs:Zc} {ns:Ze},IntsAre vs ns->bv (ns.map V.int) vs
 | _,_,.nil=>.nil
 | _,_,.cons n t h=>.cons ⟨t,rfl⟩ (mo h)
def Only(H:Hp):Prop:=∀b,H b=none\/∃o xs,H b=some (.frz o (.lst xs))
theorem u5{P:Program}{w:World}{K:PySem.W.Frag}{mg mb:Str->Zd}{CX:CXT}{k:Nat}{fa a:Addr}{fd:FuncData}{x:Str}{sp:Sp}{s₁:Shared}{vs:Zc}{ns:Ze}
  (KX:K.In s₁.heap) (hns:s₁.heap.Ns mainGlobals mg) (hb:s₁.heap.Ns builtinsNs mb) (hbb:∀x:Str,x≠"__name__"->mb x=bootBuiltins x) (hlim:s₁.heap.NoLimit) (hg:s₁.gens=#[])
  (ha:s₁.heap.get? a=some { cls:=.type "list",data:=.seq vs.toArray }) (hi:IntsAre vs ns) (hl:ns.length<=sizeLine) (hr:fO k callerA)
  (F:∀base:Heap,K.In base->base.Ns mainGlobals mg->kT P w K mg base CX k fa fd [x] sp) (hbind:∀(s:Shared) (u:Value),BindsTo s fd ⟨[u],[]⟩ [(x,u)])
  (hsp:∀H:Hp,Only H->EX K H a (ns.map V.int)->sp [.ref a] H (λv _=>v=.bl true) λ_ _ _=>False)
  (hCX:∀H e s',CX [] H s₁ (λ_ _ _=>False) e s'->False) :
  codeAny (model P w) callerA (.call (.ref fa) ⟨[.ref a],[]⟩) (λr s'=>r=.ok (.ret (.bool true))/\OldK s₁.heap s'.heap/\s'.os=s₁.os/\AllBare s'.gens) s₁:=by
 have rv:=mo hi
 have an:=hi.length
 have ah:∀H:Hp,Only H->EX K H a (ns.map V.int)->Fl P w H s₁.heap->(∀b,H b≠none->b=a)->(H a≠none->K.lookup a=none) ->
   codeAny (model P w) callerA (.call (.ref fa) ⟨[.ref a],[]⟩) (λr s'=>r=.ok (.ret (.bool true))/\OldK s₁.heap s'.heap/\s'.os=s₁.os/\AllBare s'.gens) s₁:=by
  intro H hO hS aj hA hK;have aa:∀ {b:Addr} {o:Obj},s₁.heap.get? b=some o->H b=none->(vj s₁.heap H).get? b=some o:=λe n=>vR e n;have as:∀ {b:Addr} {o:Obj} {es:Array DictEntry} {ep:Nat},s₁.heap.get? b=some o->o.data=.dict es ep->H b=none:=λ{b o es ep} e d=>by
   cases q:H b with
   | none=>rfl
   | some u =>
    have e':b=a:=hA b (by rw[q];simp)
    subst e';rw[ha] at e;cases e;have d':Data.seq vs.toArray _=Data.dict es ep:=d
    cases d'
  have ab:∀ {b:Addr} {m:Str->Zd},s₁.heap.Ns b m->(vj s₁.heap H).Ns b m:=λ{b m} ⟨o,es,ep,e,d,r⟩=>⟨o,es,ep,aa e (as e d),d,r⟩
  have ai:K.In (vj s₁.heap H):=λb o e=>aa (KX b o e) (by
   cases q:H b with
   | none=>rfl
   | some u =>
    have e':b=a:=hA b (by rw[q];simp)
    subst e'
    rw[hK (by rw[q];simp)] at e;cases e)
  have hM:Mod K mg (vj s₁.heap H):=⟨ai,ab hns,⟨mb,ab hb,hbb⟩,let ⟨mc,h1,h2⟩:=hlim;⟨mc,ab h1,h2⟩⟩
  have e0:Env0 P w K mg (vj s₁.heap H) callerA [] s₁ H:=⟨rfl,hM,λb o e=>yi e,Nat.le_of_eq (rQ _ _),trivial,λb hb=>absurd (show b∈([]:List Addr) from hb) (by simp),aj,.of_eq hg⟩
  refine codeAny_mono ((F _ ai (ab hns)).run callerA [] s₁ H ⟨[.ref a],[]⟩ [.ref a] [.ref a] _ _ hr e0 (hbind s₁ (.ref a)) (.cons rfl .nil) (hsp H hO hS)) λr s' h=>?_
  cases r with
  | error e=>exact(hCX H e s' h).elim
  | ok fl =>
   cases fl with
   | next=>exact False.elim h
   | brk=>exact False.elim h
   | cont=>exact False.elim h
   | ret u =>
    obtain⟨v,H',os,ao,un,al,r',q⟩:=h;have q':v=.bl true:=q;subst q';obtain rfl:u=Value.bool true:=r';refine⟨rfl,OldK.of_keep λb o e=>?_,os,ao⟩
    cases q:H b with
    | none=>exact un.keep b o e q (by intro z;exact absurd (show b∈([]:List Addr) from z) (by simp)) (by simp)
    | some u =>
     rcases hO b with z | ⟨ob,xs,z⟩
     ·rw[q] at z;cases z
     ·have z2:=un.frzs b ob _ z
      obtain⟨e1,_⟩:=aj b _ z;obtain⟨e2,_⟩:=al b _ z2;rw[e] at e1;cases e1;exact e2
 cases hk:K.lookup a with
 | some o =>
  have e:=KX a o hk
  rw[ha] at e
  cases e
  refine ah (λ_=>none) (λ_=>.inl rfl) (.inr ⟨_,vs.toArray,_,hk,rfl,rfl,rfl,by rw[FK,an];exact hl,by simpa using rv⟩) (λb u z=>by have z':(none:Option HO)=some u:=z;cases z') (λb z=>absurd rfl z) λz=>absurd rfl z
 | none =>
  refine ah (λb=>if b=a then some (.frz { cls:=.type "list",data:=.seq vs.toArray } (.lst (ns.map V.int))) else none) (λb=>?_) (.inl (.inr ⟨{ cls:=.type "list",data:=.seq vs.toArray },FP rfl⟩)) (λb u z=>?_) (λb z=>?_) λ_=>hk
  ·by_cases hb:b=a
   ·exact .inr ⟨_,_,FP hb⟩
   ·exact .inl (FN hb)
  ·by_cases hb:b=a
   ·have z':=(FP hb).symm.trans z
    cases z'
    subst hb;exact⟨ha,by rw[Fy];exact hl,vs,_,rv,ha⟩
   ·have z':=(FN hb).symm.trans z
    cases z'
  ·by_cases hb:b=a
   ·exact hb
   ·exact absurd (FN hb) z
end L2
namespace L2
open PySem PySem.Spec PyProof.Rows
variable {x qual:Str} {st:Stmt} {f:Addr}
abbrev CX0:CXT:=λ_ _ _ _ _ _=>False
abbrev E0:XK:=λ_ _ _=>False
theorem vJ{X:Cx}:rW CX0 X E0:=λ_ _ _ _ _ _ _ h=>h.elim
structure Fun(K:PySem.W.Frag)(x qual:Str)(st:Stmt)(f:Addr)(fd:FuncData):Prop where
 ex:∃(oc:Value) (od:Option Addr) (kV doc pm:Value) (an:Option Addr) (cdv ct:Value) (osl:Array (Zd)),
  fd=PySem.W.fnOf x qual (c0 st) (bG st) (am st) .none kV doc pm an cdv ct/\K.lookup f=some ⟨oc,od,.func fd,osl⟩/\PySem.W.codeIn K cdv qual=true
 kp:PySem.W.keepIn K (.ref f)=true
section
variable {P:Program} {w:World} {K:PySem.W.Frag} {mg:Str→Zd} {base:Heap}
theorem Fun.ok{fd:FuncData}{N ps:Zb}{k:Nat}{sp:Sp}(F:Fun K x qual st f fd)(S:au N ps (am st))(len:∀vs H Q E,sp vs H Q E->vs.length=ps.length)
    (hbody:∀(cdv:Value) (A:Around) (outer:List Env) (s:Shared) (H:Hp) (vs:Zf) (Q:VK) (E:XK),fO k (A.deeper (envOfC qual (am st) s.heap.objs.size f cdv))->sp vs H Q E ->
      ∃t,PSs (rY CX0 P w K mg base N qual (am st) f cdv A outer s H E).nox (bG st) t/\t { nx:=λ_ H'=>Q .non H',rt:=Q } (start N vs) H):kT P w K mg base CX0 (k+1) f fd ps sp:=by
  obtain⟨oc,od,kV,ab,pm,an,cdv,ct,ah,rfl,lk,aa⟩:=F.ex;refine Dw lk aa S len λA outer s H vs Q E hr hsp=>?_;obtain⟨t,h,q⟩:=hbody cdv A outer s H vs Q E hr hsp;exact⟨t,h.nox,q⟩
theorem Fun.binds{fd:FuncData}{ps:Zb}(F:Fun K x qual st f fd)
  (h:∀(kV doc pm:Value) (an:Option Addr) (cdv ct:Value) (us:Zc),us.length=ps.length->bindArgs (PySem.W.fnOf x qual (c0 st) (bG st) (am st) .none kV doc pm an cdv ct) ⟨us,[]⟩=pure (ps.zip us)):md K fd ps []:=by
 obtain⟨oc,od,kV,doc,pm,an,cdv,ct,aa,rfl,lk,ab⟩:=F.ex;exact .all (h kV doc pm an cdv ct)
theorem wP{oc:Value}{od an:Option Addr}{osl:Array (Zd)}{kV doc pm cdv ct:Value}(l:K.lookup f=some ⟨oc,od,.func (PySem.W.fnOf x qual (c0 st) (bG st) (am st) .none kV doc pm an cdv ct),osl⟩)
  (c:PySem.W.codeIn K cdv qual=true) (k:PySem.W.keepIn K (.ref f)=true):Fun K x qual st f (PySem.W.fnOf x qual (c0 st) (bG st) (am st) .none kV doc pm an cdv ct):=⟨⟨oc,od,kV,doc,pm,an,cdv,ct,osl,rfl,l,c⟩,k⟩
end
section
variable {X:Cx}
theorem pv(i:Nat){pos:Pos}(hN:X.N[i]?=some x:=by rfl)(hv:Vis X.env.scope x:=by walk_at "v3")(hd:(x==("__debug__":Str))=false:=by decide)
  (hcd:(x==("__classdict__":Str))=false:=by decide):PE X (.Name x pos) (tVar i):=dE hN hv hd hcd
end
theorem dO{c A B:Prop}[Decidable c](h1:c->A)(h2:¬ c->B):if c then A else B:=by
 by_cases h:c
 ·rw[FP h];exact h1 h
 ·rw[FN h];exact h2 h
def bM(H H':Hp):Prop:=∀b o,H b=some o->H' b=some o
theorem bM.refl(H:Hp):bM H H:=λ_ _ h=>h
theorem bM.trans{H H1 H2:Hp}(a:bM H H1)(b:bM H1 H2):bM H H2:=λc o h=>b c o (a c o h)
theorem bM.seq{K:PySem.W.Frag}{H H':Hp}{a:Addr}{xs:Zf}(e:bM H H')(h:EX K H a xs):EX K H' a xs:=by
 rcases h with(h | ⟨o,h⟩) | h
 ·exact .inl (.inl (e _ _ h))
 ·exact .inl (.inr ⟨o,e _ _ h⟩)
 ·exact .inr h
section
variable {κ:Type} [DecidableEq κ]
end
end L2
namespace DL
open PySem L2
variable {M:Addr→Prop} {a:Addr} {vs:Zf} {v:V}
inductive D where
 | non | bl (b:Bool) | int (i:Int) | str (x:Str)
 | tup (xs:List D) | lst (xs:List D) | fz (xs:List D) | dct (ks:Zb) (vs:List D) | fd (ks:Zb) (vs:List D) | fo (o:Obj) (ks:Zb) (vs:List D) | exn (c f:Str) (x:D)
abbrev Zg:=D->Prop
abbrev Zh:=List D
mutual
def D.im:D->Bool
 | .tup xs=>D.ims xs
 | .lst _=>false
 | .fz xs=>D.ims xs
 | .dct _ _=>false
 | .fd _ xs=>D.ims xs
 | .fo _ _ xs=>D.ims xs
 | .exn _ _ _=>false
 | .non=>true
 | .bl _=>true
 | .int _=>true
 | .str _=>true
def D.ims:Zh->Bool
 | []=>true
 | x::r=>D.im x&&D.ims r
end
abbrev xob(C:Addr)(dx:Option Addr)(a t:Value):Obj:={ cls:=.ref C,dict:=dx,data:=.fields #[a,t,.none,.none,.bool false,.none] }
def XAt(e C dx:Addr):HO:=.ext λh=>∃a t,h.get? e=some (xob C (some dx) a t)
def XNew(e C dx:Addr):HO:=.ext λh=>∃a,h.get? e=some (xob C (some dx) a .none)
structure yo(K:PySem.W.Frag)(M:Addr->Prop)(H:Hp)(c f:Str)(v y:V):Prop where
 ex:∃e C dx,v=.ref e/\¬ M e/\¬ M dx/\(H e=some (XAt e C dx)\/H e=some (XNew e C dx))/\H dx=some (.xd [(f,y)])/\PySem.W.nsIn K mainGlobals c=some (some (.ref C))
def cj(ks:Zb)(vs:Zf):List (Fq×V):=(ks.map Sum.inr).zip vs
def H0:Hp:=λ_=>none
def AM(K:PySem.W.Frag)(H:Hp)(a:Addr)(vs:Zf):Prop:=(∃o,H a=some (.frz o (.lst vs)))\/EX K H0 a vs
mutual
def Fo(K:PySem.W.Frag)(M:Addr->Prop)(H:Hp):D->V->Prop
 | .non,v=>v=.non
 | .bl b,v=>v=.bl b
 | .int i,v=>v=.int i
 | .str x,v=>v=.str x
 | .tup ds,v=>∃a vs,v=.ref a/\Fh K H a vs/\Reps K M H ds vs
 | .lst ds,v=>∃a vs,v=.ref a/\¬ M a/\H a=some (.lst vs)/\Reps K M H ds vs
 | .fz ds,v=>∃a vs,v=.ref a/\AM K H a vs/\Reps K M H ds vs
 | .dct ks ds,v=>∃a vs,v=.ref a/\¬ M a/\H a=some (.dK (cj ks vs))/\ks.length=ds.length/\Reps K M H ds vs
 | .fd ks ds,v=>∃a vs o,v=.ref a/\H a=some (.frz o (.dK (cj ks vs)))/\ks.length=ds.length/\Reps K M H ds vs
 | .fo o ks ds,v=>∃a vs,v=.ref a/\H a=some (.frz o (.dK (cj ks vs)))/\ks.length=ds.length/\Reps K M H ds vs
 | .exn c f d,v=>∃y,yo K M H c f v y/\Fo K M H d y
def Reps(K:PySem.W.Frag)(M:Addr->Prop)(H:Hp):Zh->Zf->Prop
 | [],vs=>vs=[]
 | d::ds,vs=>∃v r,vs=v::r/\Fo K M H d v/\Reps K M H ds r
end
structure Kp(M:Addr->Prop)(H H':Hp):Prop where
 un:∀b o,H b=some o->¬ M b->H' b=some o
 tu:∀b xs,H b=some (.tup xs)->H' b=some (.tup xs)
 fr:∀b o u,H b=some (.frz o u)->H' b=some (.frz o u)
theorem Kp.of_same{H H':Hp}(h:bM H H'):Kp M H H':=⟨λb o e _=>h b o e,λb xs e=>h b _ e,λb o u e=>h b _ e⟩
theorem Kp.refl{H:Hp}:Kp M H H:=Kp.of_same (bM.refl H)
section
variable {K:PySem.W.Frag} {M M':Addr→Prop} {H H':Hp}
theorem Fh.kp(k:Kp M H H')(h:Fh K H a vs):Fh K H' a vs:=by
 rcases h with(h | ⟨o,h⟩) | h
 ·exact .inl (.inl (k.tu _ _ h))
 ·exact .inl (.inr ⟨o,k.fr _ _ _ h⟩)
 ·exact .inr h
theorem AM.kp(k:Kp M H H')(h:AM K H a vs):AM K H' a vs:=by
 rcases h with⟨o,h⟩ | h
 ·exact .inl ⟨o,k.fr _ _ _ h⟩
 ·exact .inr h
theorem AM.seq(h:AM K H a vs):EX K H a vs:=by
 rcases h with⟨o,h⟩ | (h | ⟨o,h⟩) | h
 ·exact .inl (.inr ⟨o,h⟩)
 ·cases h
 ·cases h
 ·exact .inr h
theorem yo.kp{c f:Str}{y:V}(k:Kp M H H')(h:yo K M H c f v y):yo K M H' c f v y:=by
 obtain⟨e,C,dx,rfl,n1,n2,h1,h2,h3⟩:=h.ex;exact⟨⟨e,C,dx,rfl,n1,n2,h1.imp (λz=>k.un _ _ z n1) (λz=>k.un _ _ z n1),k.un _ _ h2 n2,h3⟩⟩
theorem yo.more{c f:Str}{y:V}(hM:∀b,M' b->M b\/H b=none)(h:yo K M H c f v y):yo K M' H c f v y:=by
 obtain⟨e,C,dx,rfl,n1,n2,h1,h2,h3⟩:=h.ex;refine⟨⟨e,C,dx,rfl,λz=>(hM _ z).elim n1 λq=>?_,λz=>(hM _ z).elim n2 (λq=>by rw[h2] at q;cases q),h1,h2,h3⟩⟩
 rcases h1 with h1 | h1<;>(rw[h1] at q;cases q)
mutual
theorem Fo.kp(k:Kp M H H'):∀(d:D) (v:V),Fo K M H d v->Fo K M H' d v
 | .non,v,h=>by unfold Fo at h ⊢;exact h
 | .bl b,v,h=>by unfold Fo at h ⊢;exact h
 | .int i,v,h=>by unfold Fo at h ⊢;exact h
 | .str x,v,h=>by unfold Fo at h ⊢;exact h
 | .tup ds,v,h=>by
  unfold Fo at h ⊢;obtain⟨a,vs,e,q,r⟩:=h;exact⟨a,vs,e,Fh.kp k q,Reps.kp k ds vs r⟩
 | .lst ds,v,h=>by
  unfold Fo at h ⊢;obtain⟨a,vs,e,n,q,r⟩:=h;exact⟨a,vs,e,n,k.un _ _ q n,Reps.kp k ds vs r⟩
 | .fz ds,v,h=>by
  unfold Fo at h ⊢;obtain⟨a,vs,e,q,r⟩:=h;exact⟨a,vs,e,q.kp k,Reps.kp k ds vs r⟩
 | .dct ks ds,v,h=>by
  unfold Fo at h ⊢;obtain⟨a,vs,e,n,q,l,r⟩:=h;exact⟨a,vs,e,n,k.un _ _ q n,l,Reps.kp k ds vs r⟩
 | .fd ks ds,v,h=>by
  unfold Fo at h ⊢;obtain⟨a,vs,o,e,q,l,r⟩:=h;exact⟨a,vs,o,e,k.fr _ _ _ q,l,Reps.kp k ds vs r⟩
 | .fo o ks ds,v,h=>by
  unfold Fo at h ⊢;obtain⟨a,vs,e,q,l,r⟩:=h;exact⟨a,vs,e,k.fr _ _ _ q,l,Reps.kp k ds vs r⟩
 | .exn c f d,v,h=>by
  unfold Fo at h ⊢;obtain⟨y,q,r⟩:=h;exact⟨y,q.kp k,Fo.kp k d y r⟩
theorem Reps.kp(k:Kp M H H'):∀(ds:Zh) (vs:Zf),Reps K M H ds vs->Reps K M H' ds vs
 | [],vs,h=>by unfold Reps at h ⊢;exact h
 | d::ds,vs,h=>by
  unfold Reps at h ⊢;obtain⟨v,r,e,q,s⟩:=h;exact⟨v,r,e,Fo.kp k d v q,Reps.kp k ds r s⟩
end
mutual
theorem Fo.more(hM:∀b,M' b->M b\/H b=none):∀(d:D) (v:V),Fo K M H d v->Fo K M' H d v
 | .non,v,h=>by unfold Fo at h ⊢;exact h
 | .bl b,v,h=>by unfold Fo at h ⊢;exact h
 | .int i,v,h=>by unfold Fo at h ⊢;exact h
 | .str x,v,h=>by unfold Fo at h ⊢;exact h
 | .tup ds,v,h=>by
  unfold Fo at h ⊢;obtain⟨a,vs,e,q,r⟩:=h;exact⟨a,vs,e,q,Reps.more hM ds vs r⟩
 | .lst ds,v,h=>by
  unfold Fo at h ⊢;obtain⟨a,vs,e,n,q,r⟩:=h;exact⟨a,vs,e,λz=>(hM _ z).elim n (λe=>by rw[q] at e;cases e),q,Reps.more hM ds vs r⟩
 | .fz ds,v,h=>by
  unfold Fo at h ⊢;obtain⟨a,vs,e,q,r⟩:=h;exact⟨a,vs,e,q,Reps.more hM ds vs r⟩
 | .dct ks ds,v,h=>by
  unfold Fo at h ⊢;obtain⟨a,vs,e,n,q,l,r⟩:=h;exact⟨a,vs,e,λz=>(hM _ z).elim n (λe=>by rw[q] at e;cases e),q,l,Reps.more hM ds vs r⟩
 | .fd ks ds,v,h=>by
  unfold Fo at h ⊢;obtain⟨a,vs,o,e,q,l,r⟩:=h;exact⟨a,vs,o,e,q,l,Reps.more hM ds vs r⟩
 | .fo o ks ds,v,h=>by
  unfold Fo at h ⊢;obtain⟨a,vs,e,q,l,r⟩:=h;exact⟨a,vs,e,q,l,Reps.more hM ds vs r⟩
 | .exn c f d,v,h=>by
  unfold Fo at h ⊢;obtain⟨y,q,r⟩:=h;exact⟨y,q.more hM,Fo.more hM d y r⟩
theorem Reps.more(hM:∀b,M' b->M b\/H b=none):∀(ds:Zh) (vs:Zf),Reps K M H ds vs->Reps K M' H ds vs
 | [],vs,h=>by unfold Reps at h ⊢;exact h
 | d::ds,vs,h=>by
  unfold Reps at h ⊢;obtain⟨v,r,e,q,s⟩:=h;exact⟨v,r,e,Fo.more hM d v q,Reps.more hM ds r s⟩
end
theorem Reps.length:∀(ds:Zh) (vs:Zf),Reps K M H ds vs->ds.length=vs.length
 | [],vs,h=>by unfold Reps at h;subst h;rfl
 | d::ds,vs,h=>by
  unfold Reps at h;obtain⟨v,r,rfl,q,s⟩:=h;rw[FL,FL,Reps.length ds r s]
theorem Reps.get:∀(ds:Zh) (vs:Zf),Reps K M H ds vs->∀(i:Nat) (d:D),ds[i]?=some d->∃v,vs[i]?=some v/\Fo K M H d v
 | [],vs,h,i,d,e=>by simp at e
 | d::ds,vs,h,i,d',e=>by
  unfold Reps at h;obtain⟨v,r,rfl,q,s⟩:=h
  cases i with
  | zero=>simp at e;subst e;exact⟨v,rfl,q⟩
  | succ i=>exact Reps.get ds r s i d' (by simpa using e)
theorem Reps.of:∀(ds:Zh) (vs:Zf),ds.length=vs.length->(∀(i:Nat) d v,ds[i]?=some d->vs[i]?=some v->Fo K M H d v)->Reps K M H ds vs
 | [],vs,l,_=>by unfold Reps;exact HF.mp l.symm
 | d::ds,[],l,_=>by cases l
 | d::ds,v::vs,l,h=>by
  unfold Reps;exact⟨v,vs,rfl,h 0 d v rfl rfl,Reps.of ds vs (He l) λi d' v' e e'=>h (i+1) d' v' (by simpa using e) (by simpa using e')⟩
theorem Reps.append:∀(ds es:Zh) (vs ws:Zf),Reps K M H ds vs->Reps K M H es ws->Reps K M H (ds++es) (vs++ws)
 | [],es,vs,ws,h,k=>by unfold Reps at h;subst h;exact k
 | d::ds,es,vs,ws,h,k=>by
  unfold Reps at h;obtain⟨v,r,rfl,q,s⟩:=h;show Reps K M H (d::(ds++es)) (v::(r++ws));unfold Reps;exact⟨v,r++ws,rfl,q,Reps.append ds es r ws s k⟩
theorem Reps.one{d:D}(h:Fo K M H d v):Reps K M H [d] [v]:=by
 unfold Reps;exact⟨v,[],rfl,h,by unfold Reps;rfl⟩
theorem Reps.nil:Reps K M H [] []:=by unfold Reps;rfl
theorem Reps.cons{d:D}{v:V}{ds:Zh}{vs:Zf}(h:Fo K M H d v)(r:Reps K M H ds vs):Reps K M H (d::ds) (v::vs):=by
 unfold Reps;exact⟨v,vs,rfl,h,r⟩
theorem Reps.take:∀(n:Nat) (ds:Zh) (vs:Zf),Reps K M H ds vs->Reps K M H (ds.take n) (vs.take n)
 | 0,ds,vs,h=>by simpa using Reps.nil
 | n+1,[],vs,h=>by unfold Reps at h;subst h;simpa using Reps.nil
 | n+1,d::ds,vs,h=>by
  unfold Reps at h;obtain⟨v,r,rfl,q,s⟩:=h;exact Reps.cons q (Reps.take n ds r s)
theorem Reps.drop:∀(n:Nat) (ds:Zh) (vs:Zf),Reps K M H ds vs->Reps K M H (ds.drop n) (vs.drop n)
 | 0,ds,vs,h=>h
 | n+1,[],vs,h=>by unfold Reps at h;subst h;simpa using Reps.nil
 | n+1,d::ds,vs,h=>by
  unfold Reps at h;obtain⟨v,r,rfl,q,s⟩:=h;exact Reps.drop n ds r s
theorem Reps.set{d:D}(h:Fo K M H d v):∀(i:Nat) (ds:Zh) (vs:Zf),Reps K M H ds vs->Reps K M H (ds.set i d) (vs.set i v)
 | _,[],vs,r=>by unfold Reps at r;subst r;exact Reps.nil
 | 0,x::ds,vs,r=>by
  unfold Reps at r;obtain⟨w,r,rfl,q,s⟩:=r;exact Reps.cons h s
 | i+1,x::ds,vs,r=>by
  unfold Reps at r;obtain⟨w,r,rfl,q,s⟩:=r;exact Reps.cons q (Reps.set h i ds r s)
theorem Reps.ints(ns:Ze):Reps K M H (ns.map D.int) (ns.map V.int):=by
 induction ns with
 | nil=>exact Reps.nil
 | cons n r ih=>exact Reps.cons (by unfold Fo;rfl) ih
end
inductive Sl where
 | no | dat (d:D) | own (a:Addr) (d:D)
structure Gf where
 M0:Addr->Prop
 H0:Hp
 Pm:Addr->Prop
def bL(K:PySem.W.Frag)(M:Addr->Prop)(H:Hp)(a:Addr):D->Prop
 | .lst ds=>∃vs,H a=some (.lst vs)/\Reps K M H ds vs
 | .dct ks ds=>∃vs,H a=some (.dK (cj ks vs))/\ks.length=ds.length/\Reps K M H ds vs
 | _=>False
structure Sx(K:PySem.W.Frag)(G:Gf)(A:Addr->Prop)(δ:List Sl)(P:List (D×V))(σ:St)(H:Hp):Prop where
 old:∀b o,G.H0 b=some o->¬ G.Pm b->H b=some o
 stay:∀b,G.H0 b≠none->H b≠none
 m0:∀b,G.M0 b->G.H0 b≠none
 pm:∀b,G.Pm b->G.H0 b≠none/\¬ G.M0 b
 new:∀b,A b->G.H0 b=none\/G.Pm b
 thr:∀b,A b->H b≠none
 len:δ.length=σ.length
 dat:∀(i:Nat) d,δ[i]?=some (.dat d)->∃v,σ[i]?=some (some v)/\Fo K (λb=>G.M0 b\/A b) H d v
 own:∀(i:Nat) a d,δ[i]?=some (.own a d)->σ[i]?=some (some (.ref a))/\A a/\bL K (λb=>G.M0 b\/A b) H a d
 inj:∀(i j:Nat) a d e,δ[i]?=some (.own a d)->δ[j]?=some (.own a e)->i=j
 pnd:∀p∈P,Fo K (λb=>G.M0 b\/A b) H p.1 p.2
def S(K:PySem.W.Frag)(G:Gf)(δ:List Sl)(P:List (D×V))(σ:St)(H:Hp):Prop:=∃A,Sx K G A δ P σ H
inductive aL(K:PySem.W.Frag)(f:Zh->(D->Prop)->Prop)(vs:Zf)(H:Hp)(Q:VK):Prop
 | mk (M:Addr->Prop) (ds:Zh) (R:D->Prop) (m:∀b,M b->H b≠none) (rs:Reps K M H ds vs) (h:f ds R) (k:∀d,R d->∀v H',bM H H'->Fo K M H' d v->Q v H')
section
variable {K:PySem.W.Frag} {G:Gf} {A:Addr→Prop} {δ:List Sl} {P P':List (D×V)} {σ:St} {H H':Hp}
theorem bL.kp{d:D}(k:Kp M H H')(e:H' a=H a)(h:bL K M H a d):bL K M H' a d:=by
 cases d with
 | lst ds =>
  obtain⟨vs,q,r⟩:=h;exact⟨vs,e.trans q,Reps.kp k _ _ r⟩
 | dct ks ds =>
  obtain⟨vs,q,l,r⟩:=h;exact⟨vs,e.trans q,l,Reps.kp k _ _ r⟩
 | _=>exact h.elim
theorem bL.more{M':Addr->Prop}{d:D}(hM:∀b,M' b->M b\/H b=none)(h:bL K M H a d):bL K M' H a d:=by
 cases d with
 | lst ds =>
  obtain⟨vs,q,r⟩:=h;exact⟨vs,q,Reps.more hM _ _ r⟩
 | dct ks ds =>
  obtain⟨vs,q,l,r⟩:=h;exact⟨vs,q,l,Reps.more hM _ _ r⟩
 | _=>exact h.elim
theorem Sx.sub(s:Sx K G A δ P σ H)(h:∀p∈P',p∈P):Sx K G A δ P' σ H :=
 ⟨s.old,s.stay,s.m0,s.pm,s.new,s.thr,s.len,s.dat,s.own,s.inj,λp hp=>s.pnd p (h p hp)⟩
theorem S.sub(s:S K G δ P σ H)(h:∀p∈P',p∈P):S K G δ P' σ H:=let ⟨A,x⟩:=s;⟨A,x.sub h⟩
theorem Sx.same(s:Sx K G A δ P σ H)(h:bM H H'):Sx K G A δ P σ H' where
 old:=λb o e n=>h b o (s.old b o e n)
 stay:=λb e=>by
  cases q:H b with
  | none=>exact absurd q (s.stay b e)
  | some o=>rw[h b o q];exact λz=>nomatch z
 m0:=s.m0
 pm:=s.pm
 new:=s.new
 thr:=λb e=>by
  cases q:H b with
  | none=>exact absurd q (s.thr b e)
  | some o=>rw[h b o q];exact λz=>nomatch z
 len:=s.len
 dat:=λi d e=>let ⟨v,q,r⟩:=s.dat i d e;⟨v,q,Fo.kp (Kp.of_same h) _ _ r⟩
 own:=λi a d e=>by
  obtain⟨q,a1,o⟩:=s.own i a d e;refine⟨q,a1,bL.kp (Kp.of_same h) ?_ o⟩
  cases z:H a with
  | none=>exact absurd z (s.thr a a1)
  | some o=>exact h a o z
 inj:=s.inj
 pnd:=λp hp=>Fo.kp (Kp.of_same h) _ _ (s.pnd p hp)
theorem Sx.push(s:Sx K G A δ P σ H){d:D}(h:Fo K (λb=>G.M0 b\/A b) H d v):Sx K G A δ ((d,v)::P) σ H :=
 ⟨s.old,s.stay,s.m0,s.pm,s.new,s.thr,s.len,s.dat,s.own,s.inj,λp hp=>by
  rcases FJ.mp hp with rfl | hp
  ·exact h
  ·exact s.pnd p hp⟩
theorem Sx.mem(s:Sx K G A δ P σ H):∀b,(G.M0 b\/A b)->H b≠none:=λb h=>h.elim (λz=>s.stay b (s.m0 b z)) λz=>s.thr b z
theorem Sx.reps(s:Sx K G A δ P σ H):∀(ds:Zh) (vs:Zf),ds.length=vs.length->(∀p∈ds.zip vs,p∈P)->Reps K (λb=>G.M0 b\/A b) H ds vs
 | [],[],_,_=>Reps.nil
 | d::ds,v::vs,l,h=>Reps.cons (s.pnd (d,v) (h _ (FD ..))) (Sx.reps s ds vs (He l) λp hp=>h p (Fz _ hp))
theorem S.pure{f:Zh->(D->Prop)->Prop}{ds:Zh}{R:D->Prop}{Q:VK}(s:S K G δ P σ H)(hl:ds.length=vs.length)(hp:∀p∈ds.zip vs,p∈P)(hs:∀p∈P',p∈P)(hf:f ds R)
  (h:∀d,R d->∀v H',S K G δ ((d,v)::P') σ H'->Q v H'):aL K f vs H Q:=by
 obtain⟨A,x⟩:=s;refine⟨λb=>G.M0 b\/A b,ds,R,x.mem,x.reps ds vs hl hp,hf,λd r v H' sm rp=>h d r v H' ⟨A,?_⟩⟩;exact((x.same sm).sub hs).push rp
theorem Sx.set{i:Nat}{d:D}(s:Sx K G A δ P σ H)(hp:(d,v)∈P)(hs:∀p∈P',p∈P):Sx K G A (δ.set i (.dat d)) P' (σ.set i (some v)) H where
 old:=s.old
 stay:=s.stay
 m0:=s.m0
 pm:=s.pm
 new:=s.new
 thr:=s.thr
 len:=by rw[Gs,Gs,s.len]
 dat:=λj d' e=>by
  by_cases hij:i=j
  ·subst hij
   by_cases hl:i<δ.length
   ·rw[List.getElem?_set_self hl] at e
    cases e
    exact⟨v,by rw[List.getElem?_set_self (by rw[<- s.len];exact hl)],s.pnd _ hp⟩
   ·rw[List.getElem?_eq_none (by rw[Gs];omega)] at e
    cases e
  ·rw[List.getElem?_set_ne hij] at e;obtain⟨v',q,r⟩:=s.dat j d' e;exact⟨v',by rw[List.getElem?_set_ne hij];exact q,r⟩
 own:=λj a d' e=>by
  by_cases hij:i=j
  ·subst hij
   by_cases hl:i<δ.length
   ·rw[List.getElem?_set_self hl] at e
    cases e
   ·rw[List.getElem?_eq_none (by rw[Gs];omega)] at e
    cases e
  ·rw[List.getElem?_set_ne hij] at e;obtain⟨q,r⟩:=s.own j a d' e;exact⟨by rw[List.getElem?_set_ne hij];exact q,r⟩
 inj:=λj k a d' e' h1 h2=>by
  have hj:δ[j]?=some (.own a d'):=by
   by_cases hij:i=j
   ·subst hij
    by_cases hl:i<δ.length
    ·rw[List.getElem?_set_self hl] at h1;cases h1
    ·rw[List.getElem?_eq_none (by rw[Gs];omega)] at h1;cases h1
   ·rw[List.getElem?_set_ne hij] at h1;exact h1
  have hk:δ[k]?=some (.own a e'):=by
   by_cases hij:i=k
   ·subst hij
    by_cases hl:i<δ.length
    ·rw[List.getElem?_set_self hl] at h2;cases h2
    ·rw[List.getElem?_eq_none (by rw[Gs];omega)] at h2;cases h2
   ·rw[List.getElem?_set_ne hij] at h2;exact h2
  exact s.inj j k a d' e' hj hk
 pnd:=λp h=>s.pnd p (hs p h)
theorem S.set{i:Nat}{d:D}(s:S K G δ P σ H)(hp:(d,v)∈P)(hs:∀p∈P',p∈P):S K G (δ.set i (.dat d)) P' (σ.set i (some v)) H:=let ⟨A,x⟩:=s;⟨A,x.set hp hs⟩
end
end DL
namespace DL
open PySem L2
variable {i:Nat} {a:Addr} {d:D}
section
variable {K:PySem.W.Frag} {G:Gf} {A:Addr→Prop} {δ:List Sl} {P P':List (D×V)} {σ:St} {H H':Hp}
theorem bh{α:Type}{l:List α}{j:Nat}{x y:α}(h:(l.set i x)[j]?=some y):(i=j/\x=y/\i<l.length)\/(i≠j/\l[j]?=some y):=by
 by_cases e:i=j
 ·subst e
  by_cases hl:i<l.length
  ·rw[List.getElem?_set_self hl] at h;exact .inl ⟨rfl,FU h,hl⟩
  ·rw[List.getElem?_eq_none (by rw[Gs];omega)] at h
   cases h
 ·rw[List.getElem?_set_ne e] at h;exact .inr ⟨e,h⟩
theorem Sx.claim(s:Sx K G A δ P σ H)(hn:H a=none)(hs:bM H H')(ho:bL K (λb=>(G.M0 b\/A b)\/b=a) H' a d)(hP:∀p∈P',p∈P) :
  Sx K G (λb=>A b\/b=a) (δ.set i (.own a d)) P' (σ.set i (some (.ref a))) H':=by
 have x:=s.same hs
 have hM:∀b,(G.M0 b\/(A b\/b=a))->(G.M0 b\/A b)\/H b=none:=λb h=>by
  rcases h with h | h | h
  ·exact .inl (.inl h)
  ·exact .inl (.inr h)
  ·subst h;exact .inr hn
 have ah:∀b,(G.M0 b\/(A b\/b=a))->((G.M0 b\/A b)\/b=a)\/H' b=none:=λb h=>by
  rcases h with h | h | h
  ·exact .inl (.inl (.inl h))
  ·exact .inl (.inl (.inr h))
  ·exact .inl (.inr h)
 have up:∀d v,Fo K (λb=>G.M0 b\/A b) H d v->Fo K (λb=>G.M0 b\/(A b\/b=a)) H' d v:=λd v r=>Fo.kp (Kp.of_same hs) _ _ (Fo.more hM _ _ r)
 have na:∀b,A b->b≠a:=λb h e=>s.thr b h (by rw[e];exact hn)
 have h0:G.H0 a=none:=by
  cases q:G.H0 a with
  | none=>rfl
  | some o=>exact absurd hn (s.stay a (by rw[q];exact λz=>nomatch z))
 have ai:H' a≠none:=by
  cases d with
  | lst ds=>obtain⟨vs,q,_⟩:=ho;rw[q];exact λz=>nomatch z
  | dct ks ds=>obtain⟨vs,q,_⟩:=ho;rw[q];exact λz=>nomatch z
  | _=>exact ho.elim
 refine⟨x.old,x.stay,x.m0,x.pm,λb h=>h.elim (s.new b) λe=>.inl (by rw[e];exact h0),λb h=>h.elim (x.thr b) λe=>by rw[e];exact ai,by rw[Gs,Gs,s.len],λj d' e=>?_,λj b d' e=>?_,
  λj k b d' e' h1 h2=>?_,λp hp=>up _ _ (s.pnd p (hP p hp))⟩
 ·rcases bh e with⟨_,z,_⟩ | ⟨aa,e⟩
  ·cases z
  ·obtain⟨v,q,r⟩:=s.dat j d' e;exact⟨v,by rw[List.getElem?_set_ne aa];exact q,up _ _ r⟩
 ·rcases bh e with⟨aa,z,hl⟩ | ⟨aa,e⟩
  ·cases z
   subst aa;exact⟨by rw[List.getElem?_set_self (by rw[<- s.len];exact hl)],.inr rfl,bL.more ah ho⟩
  ·obtain⟨q,r,o⟩:=s.own j b d' e;refine⟨by rw[List.getElem?_set_ne aa];exact q,.inl r,bL.kp (Kp.of_same hs) ?_ (bL.more hM o)⟩
   cases z:H b with
   | none=>exact absurd z (s.thr b r)
   | some o'=>exact hs b o' z
 ·rcases bh h1 with⟨aa,z,hl⟩ | ⟨aa,e⟩
  ·cases z
   rcases bh h2 with⟨ab,_,_⟩ | ⟨ab,e2⟩
   ·rw[<- aa,<- ab]
   ·exact absurd rfl (na _ (s.own k _ _ e2).2.1)
  ·rcases bh h2 with⟨ab,z,_⟩ | ⟨ab,e2⟩
   ·cases z
    exact absurd rfl (na _ (s.own j _ _ e).2.1)
   ·exact s.inj j k b d' e' e e2
theorem Sx.change{d':D}(s:Sx K G A δ P σ H)(hi:δ[i]?=some (.own a d))(hk:∀b o,b≠a->H b=some o->H' b=some o)(ho:bL K (λb=>G.M0 b\/A b) H' a d') :
  Sx K G A (δ.set i (.own a d')) P σ H':=by
 obtain⟨si,ai,oi⟩:=s.own i a d hi;have ab:(∀xs,H a≠some (.tup xs))/\∀o u,H a≠some (.frz o u):=by
  cases d with
  | lst ds=>obtain⟨vs,q,_⟩:=oi;rw[q];exact⟨λ_ z=>(nomatch z),λ_ _ z=>(nomatch z)⟩
  | dct ks ds=>obtain⟨vs,q,_⟩:=oi;rw[q];exact⟨λ_ z=>(nomatch z),λ_ _ z=>(nomatch z)⟩
  | _=>exact oi.elim
 have aj:H' a≠none:=by
  cases d' with
  | lst ds=>obtain⟨vs,q,_⟩:=ho;rw[q];exact λz=>nomatch z
  | dct ks ds=>obtain⟨vs,q,_⟩:=ho;rw[q];exact λz=>nomatch z
  | _=>exact ho.elim
 have kp:Kp (λb=>G.M0 b\/A b) H H':=⟨λb o e n=>hk b o (λz=>n (.inr (by rw[z];exact ai))) e,λb xs e=>hk b _ (λz=>ab.1 xs (by rw[<- z];exact e)) e,
  λb o u e=>hk b _ (λz=>ab.2 o u (by rw[<- z];exact e)) e⟩
 have stay:∀b,H b≠none->H' b≠none:=λb e=>by
  by_cases z:b=a
  ·rw[z];exact aj
  ·cases q:H b with
   | none=>exact absurd q e
   | some o=>rw[hk b o z q];exact λz=>nomatch z
 have na:∀b o,G.H0 b=some o->¬ G.Pm b->b≠a:=λb o e n z=>(s.new a ai).elim (λq=>by rw[z] at e;rw[e] at q;cases q) λq=>n (by rw[z];exact q)
 refine⟨λb o e n=>hk b o (na b o e n) (s.old b o e n),λb e=>stay b (s.stay b e),s.m0,s.pm,s.new,λb e=>stay b (s.thr b e),by rw[Gs,s.len],λj x e=>?_,λj b x e=>?_,λj k b x y h1 h2=>?_,
  λp hp=>Fo.kp kp _ _ (s.pnd p hp)⟩
 ·rcases bh e with⟨_,z,_⟩ | ⟨aa,e⟩
  ·cases z
  ·obtain⟨v,q,r⟩:=s.dat j x e;exact⟨v,q,Fo.kp kp _ _ r⟩
 ·rcases bh e with⟨aa,z,hl⟩ | ⟨aa,e9⟩
  ·cases z
   subst aa;exact⟨si,ai,ho⟩
  ·clear e;obtain⟨q,r,o⟩:=s.own j b x e9;have hb:b≠a:=λz=>by rw[z] at e9;exact aa (s.inj _ _ _ _ _ hi e9)
   refine⟨q,r,bL.kp kp ?_ o⟩
   cases z:H b with
   | none=>exact absurd z (s.thr b r)
   | some o'=>exact hk b o' hb z
 ·have hj:∃x',δ[j]?=some (.own b x'):=by
   rcases bh h1 with⟨aa,z,hl⟩ | ⟨aa,e⟩
   ·cases z;subst aa;exact⟨_,hi⟩
   ·exact⟨_,e⟩
  have ah:∃x',δ[k]?=some (.own b x'):=by
   rcases bh h2 with⟨aa,z,hl⟩ | ⟨aa,e⟩
   ·cases z;subst aa;exact⟨_,hi⟩
   ·exact⟨_,e⟩
  obtain⟨x1,e1⟩:=hj;obtain⟨x2,e2⟩:=ah;exact s.inj j k b x1 x2 e1 e2
theorem bL.rep{M M':Addr->Prop}(h:bL K M H a d)(n:¬ M' a)(hM:∀b,M' b->M b):Fo K M' H d (.ref a):=by
 cases d with
 | lst ds =>
  obtain⟨vs,q,r⟩:=h;unfold Fo;exact⟨a,vs,rfl,n,q,Reps.more (λb z=>.inl (hM b z)) _ _ r⟩
 | dct ks ds =>
  obtain⟨vs,q,l,r⟩:=h;unfold Fo;exact⟨a,vs,rfl,n,q,l,Reps.more (λb z=>.inl (hM b z)) _ _ r⟩
 | _=>exact h.elim
theorem Sx.freeze(s:Sx K G A δ P σ H)(hi:δ[i]?=some (.own a d))(hp:¬ G.M0 a):Sx K G (λb=>A b/\b≠a) (δ.set i (.dat d)) P σ H:=by
 obtain⟨si,ai,oi⟩:=s.own i a d hi;have hM:∀b,(G.M0 b\/(A b/\b≠a))->(G.M0 b\/A b):=λb h=>h.elim .inl λz=>.inr z.1;have dn:∀d v,Fo K (λb=>G.M0 b\/A b) H d v->Fo K (λb=>G.M0 b\/(A b/\b≠a)) H d v:=λd v r=>Fo.more (λb z=>.inl (hM b z)) _ _ r;refine⟨s.old,s.stay,s.m0,s.pm,λb h=>s.new b h.1,λb h=>s.thr b h.1,by rw[Gs,s.len],λj x e=>?_,λj b x e=>?_,λj k b x y h1 h2=>?_,λp hp=>dn _ _ (s.pnd p hp)⟩
 ·rcases bh e with⟨aa,z,_⟩ | ⟨aa,e⟩
  ·cases z;subst aa
   exact⟨.ref a,si,oi.rep (λz=>z.elim hp λq=>q.2 rfl) hM⟩
  ·obtain⟨v,q,r⟩:=s.dat j x e;exact⟨v,q,dn _ _ r⟩
 ·rcases bh e with⟨_,z,_⟩ | ⟨aa,e9⟩
  ·cases z
  ·clear e;obtain⟨q,r,o⟩:=s.own j b x e9;have hb:b≠a:=λz=>by rw[z] at e9;exact aa (s.inj _ _ _ _ _ hi e9)
   exact⟨q,⟨r,hb⟩,bL.more (λb z=>.inl (hM b z)) o⟩
 ·rcases bh h1 with⟨_,z,_⟩ | ⟨_,e1⟩
  ·cases z
  ·rcases bh h2 with⟨_,z,_⟩ | ⟨_,e2⟩
   ·cases z
   ·exact s.inj j k b x y e1 e2
end
end DL
namespace DL
open PySem PySem.Spec PyProof.Rows L2
variable {x:Str} {k:Zh→Prop} {o:Option Sl} {G:Gf} {A:Addr→Prop} {P:List (D×V)} {σ:L2.St} {H:Hp} {i n:Nat} {es:List Expr} {d:D} {v:V} {p:Pos}
inductive W where
 | d (x:D) | o (i:Nat)
abbrev En:=List Sl
abbrev Fc:=En->(W->En->Prop)->Prop
abbrev TDA:=En->(List D->En->Prop)->Prop
abbrev TDT:=En->(Bool->En->Prop)->Prop
structure aZ where
 nx:En->Prop
 rt:D->En->Prop
 bk:En->Prop:=λ_=>False
 ct:En->Prop:=λ_=>False
 ro:D->Prop:=λ_=>False
 tp:Prop:=False
 ex:Str->Str->D->Prop:=λ_ _ _=>False
abbrev TDS:=aZ->En->Prop
abbrev TDG:=D->En->(En->Prop)->Prop
abbrev xh:=List D->En->(En->Prop)->Prop
def wd(R:D->En->Prop):W->En->Prop
 | .d x,δ=>R x δ
 | .o _,_=>False
def qB:D->(Bool->Prop)->Prop
 | .bl b,k=>k b
 | _,_=>False
def qI:D->(Int->Prop)->Prop
 | .int b,k=>k b
 | _,_=>False
def qX:D->(Str->Prop)->Prop
 | .str b,k=>k b
 | _,_=>False
def qT:D->(Zh->Prop)->Prop
 | .tup b,k=>k b
 | _,_=>False
def qL:D->(Zh->Prop)->Prop
 | .lst b,k=>k b
 | _,_=>False
def qW:Option Sl->(Addr->D->Prop)->Prop
 | some (.own a d),k=>k a d
 | _,_=>False
def qD:Option Sl->(D->Prop)->Prop
 | some (.dat d),k=>k d
 | _,_=>False
def qWL(o:Option Sl)(k:Addr->Zh->Prop):Prop:=qW o λa d=>qL d λxs=>k a xs
def qG:D->(Zb->Zh->Prop)->Prop
 | .dct ks ds,k=>k ks ds
 | _,_=>False
def qWD(o:Option Sl)(k:Addr->Zb->Zh->Prop):Prop:=qW o λa d=>qG d λks ds=>k a ks ds
def qF:D->(Zb->Zh->Prop)->Prop
 | .fd ks ds,k=>k ks ds
 | _,_=>False
def qV{α:Type}:Option α->(α->Prop)->Prop
 | some a,k=>k a
 | none,_=>False
def qN:Zh->Prop->Prop
 | [],k=>k
 | _::_,_=>False
def qC:Zh->(D->Zh->Prop)->Prop
 | x::r,k=>k x r
 | [],_=>False
def q9:Zh->Prop->Prop
 | [],k=>k
 | [_],k=>k
 | [_,_],k=>k
 | [_,_,_],k=>k
 | [_,_,_,_],k=>k
 | xs,k=>xs.length<=9000/\k
def qWe(o:Option Sl)(k:D->Prop):Prop:=qW o λ_ d=>k d
def rL(o:Option Sl)(k:Zh->Prop):Prop:=qW o λ_ d=>qL d λxs=>k xs
def zf(o:Option Sl)(k:Zb->Zh->Prop):Prop:=qW o λ_ d=>qG d λks ds=>k ks ds
def jB(δ:En)(i:Nat)(x:Sl)(k:En->Prop):Prop:=k (δ.set i x)
def uG:Zh->Nat->Prop->Prop
 | [],0,k=>k
 | _::r,n+1,k=>uG r n k
 | _,_,_=>False
theorem uG.ex{k:Prop}:∀ {xs:Zh} {n:Nat},uG xs n k->xs.length=n/\k
 | [],0,h=>⟨rfl,h⟩
 | _::r,n+1,h=>let ⟨a,b⟩:=uG.ex (xs:=r) (n:=n) h;⟨by rw[FL,a],b⟩
 | [],_+1,h=>False.elim h
 | _::_,0,h=>False.elim h
def kD(R:W->En->Prop)(δ:En)(d:D):Prop:=R (.d d) δ
theorem qB.ex{x:D}{k:Bool->Prop}(h:qB x k):∃b,x=.bl b/\k b:=by cases x<;>first | exact False.elim h | exact⟨_,rfl,h⟩
theorem qI.ex{x:D}{k:Int->Prop}(h:qI x k):∃b,x=.int b/\k b:=by cases x<;>first | exact False.elim h | exact⟨_,rfl,h⟩
theorem qX.ex{x:D}{k:Str->Prop}(h:qX x k):∃b,x=.str b/\k b:=by cases x<;>first | exact False.elim h | exact⟨_,rfl,h⟩
theorem qT.ex{x:D}(h:qT x k):∃b,x=.tup b/\k b:=by cases x<;>first | exact False.elim h | exact⟨_,rfl,h⟩
theorem qL.ex{x:D}(h:qL x k):∃b,x=.lst b/\k b:=by cases x<;>first | exact False.elim h | exact⟨_,rfl,h⟩
theorem qG.ex{x:D}{k:Zb->Zh->Prop}(h:qG x k):∃ks ds,x=.dct ks ds/\k ks ds:=by cases x<;>first | exact False.elim h | exact⟨_,_,rfl,h⟩
theorem qW.ex{k:Addr->D->Prop}(h:qW o k):∃a d,o=some (.own a d)/\k a d:=by
 cases o with
 | none=>exact False.elim h
 | some x=>cases x<;>first | exact False.elim h | exact⟨_,_,rfl,h⟩
theorem qD.ex{k:D->Prop}(h:qD o k):∃d,o=some (.dat d)/\k d:=by
 cases o with
 | none=>exact False.elim h
 | some x=>cases x<;>first | exact False.elim h | exact⟨_,rfl,h⟩
theorem qWL.ex{k:Addr->Zh->Prop}(h:qWL o k):∃a d,o=some (.own a (.lst d))/\k a d:=by
 replace h:=qW.ex h;obtain⟨a,d,rfl,h⟩:=h;replace h:=qL.ex h;obtain⟨xs,rfl,h⟩:=h;exact⟨_,_,rfl,h⟩
theorem qWD.ex{k:Addr->Zb->Zh->Prop}(h:qWD o k):∃a ks ds,o=some (.own a (.dct ks ds))/\k a ks ds:=by
 replace h:=qW.ex h;obtain⟨a,d,rfl,h⟩:=h;replace h:=qG.ex h;obtain⟨ks,ds,rfl,h⟩:=h;exact⟨_,_,_,rfl,h⟩
theorem qWe.ex{K:PySem.W.Frag}{δ:En}{a:Addr}{k:D->Prop}(x:Sx K G A δ P σ H)(e:σ[i]?=some (some (.ref a)))(h:qWe δ[i]? k):∃d,δ[i]?=some (.own a d)/\k d:=by
 obtain⟨b,d,hi,h⟩:=qW.ex h;have q:=(x.own i b d hi).1;rw[e] at q
 cases q
 exact⟨_,hi,h⟩
theorem rL.ex{K:PySem.W.Frag}{δ:En}{a:Addr}(x:Sx K G A δ P σ H)(e:σ[i]?=some (some (.ref a)))(h:rL δ[i]? k):∃d,δ[i]?=some (.own a (.lst d))/\k d:=by
 obtain⟨d,hi,h⟩:=qWe.ex (k:=λd=>qL d k) x e h;obtain⟨xs,rfl,h⟩:=qL.ex h;exact⟨_,hi,h⟩
theorem zf.ex{K:PySem.W.Frag}{δ:En}{a:Addr}{k:Zb->Zh->Prop}(x:Sx K G A δ P σ H)(e:σ[i]?=some (some (.ref a)))(h:zf δ[i]? k):∃ks ds,δ[i]?=some (.own a (.dct ks ds))/\k ks ds:=by
 obtain⟨d,hi,h⟩:=qWe.ex (k:=λd=>qG d k) x e h;obtain⟨ks,ds,rfl,h⟩:=qG.ex h;exact⟨_,_,hi,h⟩
theorem qV.ex{α:Type}{o:Option α}{k:α->Prop}(h:qV o k):∃a,o=some a/\k a:=by
 cases o with
 | none=>exact False.elim h
 | some x=>exact⟨_,rfl,h⟩
theorem qV.of{α:Type}{o:Option α}{k:α->Prop}{a:α}(e:o=some a)(h:k a):qV o k:=by rw[e];exact h
theorem qN.ex{x:Zh}{k:Prop}(h:qN x k):x=[]/\k:=by
 cases x with
 | nil=>exact⟨rfl,h⟩
 | cons _ _=>exact False.elim h
theorem qC.ex{x:Zh}{k:D->Zh->Prop}(h:qC x k):∃a r,x=a::r/\k a r:=by
 cases x with
 | nil=>exact False.elim h
 | cons _ _=>exact⟨_,_,rfl,h⟩
theorem q9.ex{x:Zh}{k:Prop}(h:q9 x k):x.length<=9000/\k:=by
 rcases x with _ | ⟨a,_ | ⟨b,_ | ⟨c,_ | ⟨d,_ | ⟨e,l⟩⟩⟩⟩⟩
 ·exact⟨GN _,h⟩
 ·exact⟨(by simp only[List.length_cons,List.length_nil];omega),h⟩
 ·exact⟨(by simp only[List.length_cons,List.length_nil];omega),h⟩
 ·exact⟨(by simp only[List.length_cons,List.length_nil];omega),h⟩
 ·exact⟨(by simp only[List.length_cons,List.length_nil];omega),h⟩
 ·exact h
inductive Up(K:PySem.W.Frag)(t:Fc)(σ:L2.St)(H:Hp)(Q:VK):Prop
 | mk (G:Gf) (δ:En) (P:List (D×V)) (R:W->En->Prop) (s:S K G δ P σ H) (h:t δ R) (k:(∀x δ',R (.d x) δ'->∀v H',S K G δ' ((x,v)::P) σ H'->Q v H')/\(∀i δ',R (.o i) δ'->∀a d H',S K G δ' P σ H'->δ'[i]?=some (.own a d)->Q (.ref a) H'))
def up(K:PySem.W.Frag)(t:Fc):TE:=Up K t
inductive UpA(K:PySem.W.Frag)(t:TDA)(σ:L2.St)(H:Hp)(Q:Zf->Hp->Prop):Prop
 | mk (G:Gf) (δ:En) (P:List (D×V)) (R:Zh->En->Prop) (s:S K G δ P σ H) (h:t δ R) (k:∀ds δ',R ds δ'->∀vs H',ds.length=vs.length->S K G δ' (ds.zip vs++P) σ H'->Q vs H')
def upA(K:PySem.W.Frag)(t:TDA):TA:=UpA K t
inductive UpT(K:PySem.W.Frag)(t:TDT)(σ:L2.St)(H:Hp)(Q:Bool->Hp->Prop):Prop
 | mk (G:Gf) (δ:En) (P:List (D×V)) (R:Bool->En->Prop) (s:S K G δ P σ H) (h:t δ R) (k:∀b δ',R b δ'->∀H',S K G δ' P σ H'->Q b H')
def upT(K:PySem.W.Frag)(t:TDT):TT:=UpT K t
inductive UpG(K:PySem.W.Frag)(t:TDG)(v:V)(σ:L2.St)(H:Hp)(Q:L2.St->Hp->Prop):Prop
 | mk (G:Gf) (δ:En) (P:List (D×V)) (d:D) (R:En->Prop) (s:S K G δ ((d,v)::P) σ H) (h:t d δ R) (k:∀δ',R δ'->∀σ' H',S K G δ' P σ' H'->Q σ' H')
def upG(K:PySem.W.Frag)(t:TDG):TG:=UpG K t
inductive UpGs(K:PySem.W.Frag)(t:xh)(vs:Zf)(σ:L2.St)(H:Hp)(Q:L2.St->Hp->Prop):Prop
 | mk (G:Gf) (δ:En) (P:List (D×V)) (ds:Zh) (R:En->Prop) (hl:ds.length=vs.length) (s:S K G δ (ds.zip vs++P) σ H) (h:t ds δ R) (k:∀δ',R δ'->∀σ' H',S K G δ' P σ' H'->Q σ' H')
def upGs(K:PySem.W.Frag)(t:xh):TGs:=UpGs K t
def xc(K:PySem.W.Frag)(G:Gf)(H':Hp)(a:Addr)(d:D):Prop:=(∀b o,G.H0 b=some o->¬ G.Pm b->H' b=some o)/\(G.H0 a=none\/G.Pm a)/\¬ G.M0 a/\bL K (λb=>G.M0 b\/b=a) H' a d
inductive UpS(K:PySem.W.Frag)(W:XK)(t:TDS)(E:yp)(σ:L2.St)(H:Hp):Prop
 | mk (G:Gf) (δ:En) (P:List (D×V)) (R:aZ) (s:S K G δ P σ H) (h:t R δ) (k:(∀δ',R.nx δ'->∀σ' H',S K G δ' P σ' H'->E.nx σ' H')/\((∀d δ',R.rt d δ'->∀v σ' H',S K G δ' ((d,v)::P) σ' H'->E.rt v H')/\(∀d,R.ro d->∀a H',xc K G H' a d->E.rt (.ref a) H')/\∀c f d,R.ex c f d->∀e C dx δ' σ' H',S K G δ' ((.exn c f d,.ref e)::P) σ' H'->H' e=some (XAt e C dx)->W (.ref e) (some dx) H') /\
 (∀δ',R.bk δ'->∀σ' H',S K G δ' P σ' H'->E.bk σ' H')/\(∀δ',R.ct δ'->∀σ' H',S K G δ' P σ' H'->E.ct σ' H')/\(R.tp->P=[]/\∀b o,G.H0 b=some o->∃ob xs,o=.frz ob (.lst xs)))
theorem exs{K:PySem.W.Frag}{W:XK}{R:Str->Str->D->Prop}{q:D×V}(k:∀c f d,R c f d->∀e C dx δ' σ' H',S K G δ' ((.exn c f d,.ref e)::P) σ' H'->H' e=some (XAt e C dx)->W (.ref e) (some dx) H') :
  ∀c f d,R c f d->∀e C dx δ' σ' H',S K G δ' ((.exn c f d,.ref e)::q::P) σ' H'->H' e=some (XAt e C dx)->W (.ref e) (some dx) H':=λc f d r e C dx δ' σ' H' s=>k c f d r e C dx δ' σ' H' (s.sub λp hp=>by
 rcases FJ.mp hp with rfl | hp
 ·simp
 ·simp[hp])
def TbOk(h:Heap)(e:Addr)(t:Value):Prop:=t=.none\/∃T oT ts,t=.ref T/\T≠e/\h.get? T=some oT/\oT.data=.fields ts/\ts[3]?=some .none
structure AH(X:Cx)(pins:List (Addr×Obj))(H':Hp)(e C dx:Addr)(s':Shared):Prop where
 ex:∃(σ:L2.St) (a t:Value),L2.Inv X pins σ H' s'/\s'.heap.get? e=some (xob C (some dx) a t)/\TbOk s'.heap e t /\
  (∀T,t=.ref T->H' T=none/\X.s₀.heap.objs.size<=T/\T≠X.env.locals/\(∀x c,X.env.cells.lookup x=some c->c≠T)/\∀p∈X.pn++pins,p.1≠T)/\H' e=some (XAt e C dx)
def XEs(X:Cx):XK:=λev dxo H'=>∀e C dx pins s',ev=.ref e->dxo=some dx->AH X pins H' e C dx s'->X.xe (.ref e) s'
def upS(X:Cx)(t:TDS):TS:=UpS X.K (XEs X) t
def DE(X:Cx)(e:Expr)(t:Fc):Prop:=PE X e (up X.K t)
def DA(X:Cx)(es:List Expr)(t:TDA):Prop:=PA X es (upA X.K t)
def DT(X:Cx)(e:Expr)(t:TDT):Prop:=PT X e (upT X.K t)
def DW(X:Cx)(e:Expr)(t:TDT):Prop:=PW X e (upT X.K t)
def DG(X:Cx)(e:Expr)(t:TDG):Prop:=PG X e (upG X.K t)
def DGs(X:Cx)(e:List Expr)(t:xh):Prop:=PGs X e (upGs X.K t)
def DS(X:Cx)(st:Stmt)(t:TDS):Prop:=PS X st (upS X t)
def DSs(X:Cx)(st:List Stmt)(t:TDS):Prop:=PSs X st (upS X t)
section
variable {X:Cx} {e:Expr} {pos:Pos}
theorem PE.imp{t t':TE}(h:PE X e t)(i:∀σ H Q,t' σ H Q->t σ H Q):PE X e t':=λpins s σ H Q I q=>h pins s σ H Q I (i σ H Q q)
theorem PT.imp{t t':TT}(h:PT X e t)(i:∀σ H Q,t' σ H Q->t σ H Q):PT X e t':=λpins s σ H Q I q=>h pins s σ H Q I (i σ H Q q)
theorem PW.imp{t t':TT}(h:PW X e t)(i:∀σ H Q,t' σ H Q->t σ H Q):PW X e t':=λwh pins s σ H Q I q=>h wh pins s σ H Q I (i σ H Q q)
theorem PA.imp{t t':TA}(h:PA X es t)(i:∀σ H Q,t' σ H Q->t σ H Q):PA X es t':=λp pins s σ H Q I q=>h p pins s σ H Q I (i σ H Q q)
theorem PS.imp{st:Stmt}{t t':TS}(h:PS X st t)(i:∀E σ H,t' E σ H->t E σ H):PS X st t':=λpins s σ H D I q=>h pins s σ H D I (i D σ H q)
theorem PSs.imp{st:List Stmt}{t t':TS}(h:PSs X st t)(i:∀E σ H,t' E σ H->t E σ H):PSs X st t':=λpins s σ H D I q=>h pins s σ H D I (i D σ H q)
theorem PG.imp{t t':TG}(h:PG X e t)(i:∀v σ H Q,t' v σ H Q->t v σ H Q):PG X e t':=λpins s σ H v u Q I r q=>h pins s σ H v u Q I r (i v σ H Q q)
theorem PGs.imp{t t':TGs}(h:PGs X es t)(i:∀v σ H Q,t' v σ H Q->t v σ H Q):PGs X es t':=λpins s σ H v u Q I r q=>h pins s σ H v u Q I r (i v σ H Q q)
theorem E9.imp{f:Value->Value->Sem Value}{r r':R2}(h:E9 X f r)(i:∀x y H Q,r' x y H Q->r x y H Q):E9 X f r':=λpins s σ H x y v u Q I rx ry q=>h pins s σ H x y v u Q I rx ry (i x y H Q q)
theorem UnR.imp{f:Value->Sem Value}{r r':V->Hp->VK->Prop}(h:UnR X f r)(i:∀x H Q,r' x H Q->r x H Q):UnR X f r':=λpins s σ H x v Q I rx q=>h pins s σ H x v Q I rx (i x H Q q)
theorem cm.imp{f:Value}{r r':Zf->Hp->VK->Prop}(h:cm X f r)(i:∀xs H Q,r' xs H Q->r xs H Q):cm X f r':=λpins s σ H x v Q I rx q=>h pins s σ H x v Q I rx (i x H Q q)
theorem IxR.imp{r r':R2}(h:IxR X r)(i:∀x y H Q,r' x y H Q->r x y H Q):IxR X r':=λvalue slice pins s σ H x y v u Q I rx ry q hs=>h value slice pins s σ H x y v u Q I rx ry (i x y H Q q) hs
end
section
variable {K:PySem.W.Frag} {G:Gf} {δ:En} {P:List (D×V)} {σ:L2.St} {H:Hp}
theorem up.mk{t:Fc}{R:D->En->Prop}{Q:VK}(s:S K G δ P σ H)(h:t δ (wd R))(k:∀x δ',R x δ'->∀v H',S K G δ' ((x,v)::P) σ H'->Q v H'):up K t σ H Q:=⟨G,δ,P,wd R,s,h,k,λ_ _ z=>z.elim⟩
theorem S.dat(s:S K G δ P σ H)(e:δ[i]?=some (.dat d)):∃v,σ[i]?=some (some v)/\S K G δ ((d,v)::P) σ H:=by
 obtain⟨A,x⟩:=s;obtain⟨v,q,r⟩:=x.dat i d e;exact⟨v,q,A,x.push r⟩
theorem S.own{a:Addr}(s:S K G δ P σ H)(e:δ[i]?=some (.own a d)):σ[i]?=some (some (.ref a)):=let ⟨_,x⟩:=s;(x.own i a d e).1
def sc:D->Option V
 | .non=>some .non
 | .bl b=>some (.bl b)
 | .int i=>some (.int i)
 | .str x=>some (.str x)
 | _=>none
theorem Fo.sc{M:Addr->Prop}(h:sc d=some v):Fo K M H d v:=by
 cases d<;>simp only[DL.sc,Option.some.injEq,reduceCtorEq] at h<;>subst h<;>unfold Fo<;>rfl
theorem S.sc(s:S K G δ P σ H)(h:sc d=some v):S K G δ ((d,v)::P) σ H:=let ⟨A,x⟩:=s;⟨A,x.push (Fo.sc h)⟩
end
def dV(i:Nat)(δ:En)(R:W->En->Prop):Prop:=qD δ[i]? λd=>R (.d d) δ
def dC(d:D)(δ:En)(R:W->En->Prop):Prop:=R (.d d) δ
def kOb(f:Zh->(D->Prop)->Prop)(x:D)(R:W->En->Prop):W->En->Prop:=wd λy δ2=>f [x,y] (kD R δ2)
def kOa(f:Zh->(D->Prop)->Prop)(tb:Fc)(R:W->En->Prop):W->En->Prop:=wd λx δ1=>tb δ1 (kOb f x R)
def dOp(f:Zh->(D->Prop)->Prop)(ta tb:Fc)(δ:En)(R:W->En->Prop):Prop:=ta δ (kOa f tb R)
def kUn(f:Zh->(D->Prop)->Prop)(R:W->En->Prop):W->En->Prop:=wd λx δ1=>f [x] (kD R δ1)
def dUn(f:Zh->(D->Prop)->Prop)(ta:Fc)(δ:En)(R:W->En->Prop):Prop:=ta δ (kUn f R)
def B3(δ:En)(R:Zh->En->Prop):Prop:=R [] δ
def kAd(x:D)(R:Zh->En->Prop)(ds:Zh)(δ:En):Prop:=R (x::ds) δ
def kAc(t:TDA)(R:Zh->En->Prop):W->En->Prop:=wd λx δ1=>t δ1 (kAd x R)
def xg(te:Fc)(t:TDA)(δ:En)(R:Zh->En->Prop):Prop:=te δ (kAc t R)
def kCa(f:Zh->(D->Prop)->Prop)(R:W->En->Prop)(ds:Zh)(δ:En):Prop:=f ds (kD R δ)
def qe(f:Zh->(D->Prop)->Prop)(t:TDA)(δ:En)(R:W->En->Prop):Prop:=t δ (kCa f R)
def kTu(R:W->En->Prop)(ds:Zh)(δ:En):Prop:=q9 ds (R (.d (.tup ds)) δ)
def dTup(t:TDA)(δ:En)(R:W->En->Prop):Prop:=t δ (kTu R)
def kLs(R:W->En->Prop)(ds:Zh)(δ:En):Prop:=q9 ds (R (.d (.lst ds)) δ)
def dLst(t:TDA)(δ:En)(R:W->En->Prop):Prop:=t δ (kLs R)
def kTs(R:Bool->En->Prop):W->En->Prop:=wd λx δ1=>qB x λb=>R b δ1
def dTst(t:Fc)(δ:En)(R:Bool->En->Prop):Prop:=t δ (kTs R)
def kAn(u:TDT)(R:Bool->En->Prop)(b:Bool)(δ:En):Prop:=if b=true then u δ R else R false δ
def dAnd(t u:TDT)(δ:En)(R:Bool->En->Prop):Prop:=t δ (kAn u R)
def kOr(u:TDT)(R:Bool->En->Prop)(b:Bool)(δ:En):Prop:=if b=true then R true δ else u δ R
def dOr(t u:TDT)(δ:En)(R:Bool->En->Prop):Prop:=t δ (kOr u R)
def kNo(R:Bool->En->Prop)(b:Bool)(δ:En):Prop:=R (!b) δ
def dNot(t:TDT)(δ:En)(R:Bool->En->Prop):Prop:=t δ (kNo R)
def kAV(u:Fc)(R:W->En->Prop):W->En->Prop:=wd λx δ1=>qB x λb=>if b=true then u δ1 R else R (.d (.bl false)) δ1
def Cb(t u:Fc)(δ:En)(R:W->En->Prop):Prop:=t δ (kAV u R)
def kOV(u:Fc)(R:W->En->Prop):W->En->Prop:=wd λx δ1=>qB x λb=>if b=true then R (.d (.bl true)) δ1 else u δ1 R
def dOrV(t u:Fc)(δ:En)(R:W->En->Prop):Prop:=t δ (kOV u R)
def kNV(R:W->En->Prop):W->En->Prop:=wd λx δ1=>qB x λb=>R (.d (.bl (!b))) δ1
def Bi(t:Fc)(δ:En)(R:W->En->Prop):Prop:=t δ (kNV R)
def kIE(t u:Fc)(R:W->En->Prop)(b:Bool)(δ:En):Prop:=if b=true then t δ R else u δ R
def dIfE(c:TDT)(t u:Fc)(δ:En)(R:W->En->Prop):Prop:=c δ (kIE t u R)
section
variable {X:Cx} {pos:Pos} {a b c:Expr} {ta tb:Fc} {t:TDA} {f:Zh→(D→Prop)→Prop} {es:List Expr}
theorem ag(i:Nat)(hN:X.N[i]?=some x:=by rfl)(hv:Vis X.env.scope x:=by walk_at "v3")(hd:(x==("__debug__":Str))=false:=by decide)
  (hcd:(x==("__classdict__":Str))=false:=by decide):DE X (.Name x pos) (dV i):=PE.imp (dE hN hv hd hcd) λσ H Q ⟨G,δ,P,R,s,h,k,_⟩=>by
 replace h:=qD.ex h;obtain⟨d,e,h⟩:=h;obtain⟨v,q,s'⟩:=s.dat e;exact⟨v,q,k d δ h v H s'⟩
theorem de_c(h:PE X a (tC v))(hs:sc d=some v):DE X a (dC d):=PE.imp h λσ H Q ⟨G,δ,P,R,s,r,k,_⟩=>k d δ r v H (s.sc hs)
theorem ak{i j pos}:DE X (.Constant (.int i) j pos) (dC (.int i)):=de_c wL rfl
theorem cv{i j pos}:DE X (.Constant (.bool i) j pos) (dC (.bl i)):=de_c El rfl
theorem cL{j pos}:DE X (.Constant .none j pos) (dC .non):=de_c Bh rfl
theorem bq{x j pos}:DE X (.Constant (.str x) j pos) (dC (.str x)):=de_c Bw rfl
theorem ay{op:Operator}(ho:E9 X (binaryOp op) λx y=>aL X.K f [x,y])(ha:DE X a ta)(hb:DE X b tb):DE X (.BinOp a op b pos) (dOp f ta tb) :=
 PE.imp (Eg ho ha hb) λσ H Q ⟨G,δ,P,R,s,h,k,_⟩=>up.mk s h λx δ1 h1 v H1 s1=>up.mk s1 h1 λy δ2 h2 u H2 s2 =>
  S.pure (P':=P) (ds:=[x,y]) (vs:=[v,u]) s2 rfl (by simp) (λp hp=>by simp[hp]) h2 λd r v' H' s'=>k d δ2 r v' H' s'
theorem cM{op:CmpOp}(ho:E9 X (compareOp op) λx y=>aL X.K f [x,y])(ha:DE X a ta)(hb:DE X b tb)(hm:behindInMarks op b=false):DE X (.Compare a [op] [b] pos) (dOp f ta tb) :=
 PE.imp (zL ho ha hb hm) λσ H Q ⟨G,δ,P,R,s,h,k,_⟩=>up.mk s h λx δ1 h1 v H1 s1=>up.mk s1 h1 λy δ2 h2 u H2 s2 =>
  S.pure (P':=P) (ds:=[x,y]) (vs:=[v,u]) s2 rfl (by simp) (λp hp=>by simp[hp]) h2 λd r v' H' s'=>k d δ2 r v' H' s'
theorem aB{op:CmpOp}(ho:E9 X (compareOp op) λx y=>aL X.K f [x,y])(ha:DE X a ta)(hb:DE X b tb)(hm:behindInMarks op b=false):DT X (.Compare a [op] [b] pos) (dTst (dOp f ta tb)) :=
 PT.imp (xM ho ha hb hm) λσ H Q ⟨G,δ,P,R,s,h,k⟩=>up.mk s h λx δ1 h1 v H1 s1=>up.mk s1 h1 λy δ2 h2 u H2 s2 =>
  S.pure (P':=P) (ds:=[x,y]) (vs:=[v,u]) s2 rfl (by simp) (λp hp=>by simp[hp]) h2 λd r v' H' s'=>by
   replace r:=qB.ex r;obtain⟨b,e,r⟩:=r;subst e;have q:=s';obtain⟨A,q⟩:=q;have q2:=q.pnd (.bl b,v') (by simp);simp only[Fo] at q2;exact⟨b,q2,k b δ2 r H' (s'.sub λp hp=>by simp[hp])⟩
theorem jl{op:UnaryOp}(ho:UnR X (unaryOp op) λx=>aL X.K f [x])(ha:DE X a ta):DE X (.UnaryOp op a pos) (dUn f ta) :=
 PE.imp (EG ho ha) λσ H Q ⟨G,δ,P,R,s,h,k,_⟩=>up.mk s h λx δ1 h1 v H1 s1 =>
  S.pure (P':=P) (ds:=[x]) (vs:=[v]) s1 rfl (by simp) (λp hp=>by simp[hp]) h1 λd r v' H' s'=>k d δ1 r v' H' s'
theorem aU(h:DE X a ta)(he:∀whole,isTrue a X.env whole=(do let v<-whole;standAt a.pos;holding [v] (truthy v)):=by intro _;rfl):DT X a (dTst ta) :=
 PT.imp (Dl h he) λσ H Q ⟨G,δ,P,R,s,h,k⟩=>up.mk s h λx δ1 h1 v H1 s1=>by
  replace h1:=qB.ex h1;obtain⟨b,e,r⟩:=h1;subst e;obtain⟨A,q⟩:=id s1;have q2:=q.pnd (.bl b,v) (by simp);simp only[Fo] at q2;exact⟨b,q2,k b δ1 r H1 (s1.sub λp hp=>by simp[hp])⟩
variable {tA tB':TDT} {dH:List Expr}
theorem DW.dt(h:DW X a tA):DT X a tA:=PW.pt h
theorem dQ(ha:DT X a tA):DW X (.BoolOp .And [a] pos) tA:=zu ha
theorem dR(ha:DT X a tA):DW X (.BoolOp .Or [a] pos) tA:=B2 ha
theorem fF(ha:DT X a tA)(hb:DW X (.BoolOp .And (b::dH) pos) tB'):DW X (.BoolOp .And (a::b::dH) pos) (dAnd tA tB') :=
 PW.imp (BA ha hb) λσ H Q ⟨G,δ,P,R,s,h,k⟩=>⟨G,δ,P,_,s,h,λb δ1 h1 H1 s1=>by
  cases b with
  | true=>exact⟨G,δ1,P,R,s1,h1,k⟩
  | false=>exact k false δ1 h1 H1 s1⟩
theorem fS(ha:DT X a tA)(hb:DW X (.BoolOp .Or (b::dH) pos) tB'):DW X (.BoolOp .Or (a::b::dH) pos) (dOr tA tB') :=
 PW.imp (uB ha hb) λσ H Q ⟨G,δ,P,R,s,h,k⟩=>⟨G,δ,P,_,s,h,λb δ1 h1 H1 s1=>by
  cases b with
  | true=>exact k true δ1 h1 H1 s1
  | false=>exact⟨G,δ1,P,R,s1,h1,k⟩⟩
theorem de(ha:DT X a tA):DT X (.UnaryOp .Not a pos) (dNot tA) :=
 PT.imp (Bp ha) λσ H Q ⟨G,δ,P,R,s,h,k⟩=>⟨G,δ,P,_,s,h,λb δ1 h1 H1 s1=>k _ δ1 h1 H1 s1⟩
theorem uk{K:PySem.W.Frag}{δ:En}{b:Bool}(s:S K G δ ((.bl b,v)::P) σ H):v=.bl b:=by
 obtain⟨A,q⟩:=s;have q2:=q.pnd (.bl b,v) (by simp);simpa only[Fo] using q2
theorem dD{op}(h:DE X a ta):DE X (.BoolOp op [a] pos) ta:=Ck h
theorem iP(ha:DE X a ta)(hb:DE X (.BoolOp .And (b::dH) pos) tb):DE X (.BoolOp .And (a::b::dH) pos) (Cb ta tb) :=
 PE.imp (Bd ha hb) λσ H Q ⟨G,δ,P,R,s,h,k,k2⟩=>up.mk s h λx δ1 h1 v H1 s1=>by
  replace h1:=qB.ex h1;obtain⟨b,e,r⟩:=h1;subst e;refine⟨b,uk s1,?_⟩
  cases b with
  | true=>exact⟨G,δ1,P,R,s1.sub λp hp=>by simp[hp],r,k,k2⟩
  | false=>exact k (.bl false) δ1 r _ H1 (by rw[<- uk s1];exact s1)
theorem mU(ha:DE X a ta)(hb:DE X (.BoolOp .Or (b::dH) pos) tb):DE X (.BoolOp .Or (a::b::dH) pos) (dOrV ta tb) :=
 PE.imp (Ej ha hb) λσ H Q ⟨G,δ,P,R,s,h,k,k2⟩=>up.mk s h λx δ1 h1 v H1 s1=>by
  replace h1:=qB.ex h1;obtain⟨b,e,r⟩:=h1;subst e;refine⟨b,uk s1,?_⟩
  cases b with
  | false=>exact⟨G,δ1,P,R,s1.sub λp hp=>by simp[hp],r,k,k2⟩
  | true=>exact k (.bl true) δ1 r _ H1 (by rw[<- uk s1];exact s1)
theorem iE(ha:DE X a ta):DE X (.UnaryOp .Not a pos) (Bi ta) :=
 PE.imp (C7 ha) λσ H Q ⟨G,δ,P,R,s,h,k,k2⟩=>up.mk s h λx δ1 h1 v H1 s1=>by
  replace h1:=qB.ex h1;obtain⟨b,e,r⟩:=h1;subst e;exact⟨b,uk s1,k _ δ1 r _ H1 ((s1.sub λp hp=>by simp[hp]).sc rfl)⟩
theorem p8(hc:DT X c tA)(ha:DE X a ta)(hb:DE X b tb):DE X (.IfExp c a b pos) (dIfE tA ta tb) :=
 PE.imp (wB hc ha hb) λσ H Q ⟨G,δ,P,R,s,h,k,k2⟩=>⟨G,δ,P,_,s,h,λb δ1 h1 H1 s1=>by
  cases b with
  | true=>exact⟨G,δ1,P,R,s1,h1,k,k2⟩
  | false=>exact⟨G,δ1,P,R,s1,h1,k,k2⟩⟩
theorem ae:DA X [] B3:=PA.imp hV λσ H Q ⟨G,δ,P,R,s,h,k⟩=>k [] δ h [] H rfl s
theorem ac(ha:DE X a ta)(hr:DA X es t)(hs:starEach (a::es) X.env=(false,eval a X.env)::starEach es X.env:=by rfl):DA X (a::es) (xg ta t) :=
 PA.imp (cN ha hr hs) λσ H Q ⟨G,δ,P,R,s,h,k⟩=>up.mk s h λx δ1 h1 v H1 s1=>⟨G,δ1,(x,v)::P,_,s1,h1,λds δ2 h2 vs H2 hl s2 =>
  k (x::ds) δ2 h2 (v::vs) H2 (by simp[hl]) (s2.sub λp hp=>by
   simp only[List.zip_cons_cons,List.cons_append,List.mem_cons,List.mem_append] at hp ⊢
   rcases hp with h | h | h
   ·exact .inr (.inl h)
   ·exact .inl h
   ·exact .inr (.inr h))⟩
theorem aE{p:Addr}(h:H p=none)(o:HO):bM H (EW H p o):=λb u q=>by rw[aJ (cJ q h)];exact q
theorem fQ(h:n<=9000):n<sizeLine:=HG h (by decide)
theorem small(h:n<=9000):n<=sizeLine:=G5 (fQ h)
theorem aP{x1}(h:DA X es t):DE X (.Tuple es x1 pos) (dTup t) :=
 PE.imp (Dk h) λσ H Q ⟨G,δ,P,R,s,h,k,_⟩=>⟨G,δ,P,_,s,h,λds δ1 h9 vs H1 hl s1=>⟨by rw[<- hl];exact small (q9.ex h9).1,λp hp=>by
  have h1:=(q9.ex h9).2
  obtain⟨A,x⟩:=s1;have r:=x.reps ds vs hl (λq hq=>F4 _ hq);have x2:=x.same (aE hp (.tup vs));refine k (.tup ds) δ1 h1 (.ref p) _ ⟨A,(x2.sub λq hq=>FR _ hq).push ?_⟩;unfold Fo
  exact⟨p,vs,rfl,Fh.of aD,Reps.kp (Kp.of_same (aE hp _)) _ _ r⟩⟩⟩
theorem bJ(h:DA X es t):DE X (.List es pos) (dLst t) :=
 PE.imp (sL h) λσ H Q ⟨G,δ,P,R,s,h,k,_⟩=>⟨G,δ,P,_,s,h,λds δ1 h9 vs H1 hl s1=>⟨by rw[<- hl];exact small (q9.ex h9).1,λp hp=>by
  have h1:=(q9.ex h9).2
  obtain⟨A,x⟩:=s1;have r:=x.reps ds vs hl (λq hq=>F4 _ hq);have x2:=x.same (aE hp (.lst vs));refine k (.lst ds) δ1 h1 (.ref p) _ ⟨A,(x2.sub λq hq=>FR _ hq).push ?_⟩;unfold Fo
  exact⟨p,vs,rfl,λz=>x.mem p z hp,aD,Reps.kp (Kp.of_same (aE hp _)) _ _ r⟩⟩⟩
theorem cA(hr:IxR X λx y=>aL X.K f [x,y])(ha:DE X a ta)(hb:DE X b tb)(hs:mX b):DE X (.Subscript a b pos) (dOp f ta tb) :=
 PE.imp (AR hr ha hb hs) λσ H Q ⟨G,δ,P,R,s,h,k,_⟩=>up.mk s h λx δ1 h1 v H1 s1=>up.mk s1 h1 λy δ2 h2 u H2 s2 =>
  S.pure (P':=P) (ds:=[x,y]) (vs:=[v,u]) s2 rfl (by simp) (λp hp=>by simp[hp]) h2 λd r v' H' s'=>k d δ2 r v' H' s'
def Fx(K:PySem.W.Frag)(f:Zh->(D->Prop)->Prop):Sp:=λvs H Q _=>aL K f vs H Q
theorem jS{K:PySem.W.Frag}{Q:VK}{f:Zh->(D->Prop)->Prop}(h:up K (qe f t) σ H Q):upA K t σ H λvs H1=>aL K f vs H1 Q:=by
 obtain⟨G,δ,P,R,s,h,k,_⟩:=h;exact⟨G,δ,P,_,s,h,λds δ1 h1 vs H1 hl s1=>S.pure (P':=P) s1 hl (λp hp=>F4 _ hp) (λp hp=>FR _ hp) h1 λd r v' H' s'=>k d δ1 r v' H' s'⟩
theorem yr{k:Nat}{g:Addr}{fd:FuncData}{ps:Zb}(F:kT X.prog X.w X.K X.mg X.base CX0 k g fd ps (Fx X.K f))(hr:fO k X.A)(hg:Gl X x)(hm:X.mg x=some (.ref g))(hk:PySem.W.keepIn X.K (.ref g)=true)
  (hb:md X.K fd ps []) (ha:DA X (a::es) t) (hdb:(x==("__debug__":Str))=false:=by decide) (he:starEach (a::es) X.env=(false,eval a X.env)::starEach es X.env:=by rfl) (hpl:(backTo pos (starEach es X.env)).any (·.1)=false:=by rfl) :
  DE X (.Call (.Name x p) (a::es) [] pos) (qe f t) :=
 PE.imp (kc F hr hg hm hk hb .nil vJ ha hdb he hpl) λσ H Q h=>by
  show upA X.K t σ H λvs H1=>aL X.K f (vs++[]) H1 Q
  have q:=jS h
  simpa only[List.append_nil] using q
theorem aK{id:String}(hc:cm X (.builtin id) (aL X.K f))(hg:Gl X x)(hm:X.mg x=none)(hv:bootBuiltins x=some (.builtin id))(ha:DA X (a::es) t)(hn:x≠"__name__":=by decide)(hdb:(x==("__debug__":Str))=false:=by decide)
  (he:starEach (a::es) X.env=(false,eval a X.env)::starEach es X.env:=by rfl) (hpl:(backTo pos (starEach es X.env)).any (·.1)=false:=by rfl):DE X (.Call (.Name x p) (a::es) [] pos) (qe f t) :=
 PE.imp (kE hc hg hm hv ha hn hdb he hpl) λσ H Q h=>jS h
theorem c7{T:String}(hc:cm X (.type T) (aL X.K f))(hg:Gl X x)(hm:X.mg x=none)(hv:bootBuiltins x=some (.type T))(ha:DA X (a::es) t)(hn:x≠"__name__":=by decide)(hdb:(x==("__debug__":Str))=false:=by decide)
  (he:starEach (a::es) X.env=(false,eval a X.env)::starEach es X.env:=by rfl) (hpl:(backTo pos (starEach es X.env)).any (·.1)=false:=by rfl):DE X (.Call (.Name x p) (a::es) [] pos) (qe f t) :=
 PE.imp (l7 hc hg hm hv ha hn hdb he hpl) λσ H Q h=>jS h
end
def Bm(R:aZ)(δ:En):Prop:=R.nx δ
def dSeq(t u:TDS)(R:aZ)(δ:En):Prop:=t { R with nx:=u R } δ
def BJ(t:Fc)(R:aZ)(δ:En):Prop:=t δ λ_ δ1=>R.nx δ1
def kRe(R:aZ):W->En->Prop:=wd λx δ1=>R.rt x δ1
def dRet(t:Fc)(R:aZ)(δ:En):Prop:=t δ (kRe R)
def kIf(t u:En->Prop)(b:Bool)(δ:En):Prop:=if b=true then t δ else u δ
def dIf(c:TDT)(t u:TDS)(R:aZ)(δ:En):Prop:=c δ (kIf (t R) (u R))
def uE(_:aZ)(_:En):Prop:=False
def kSe(i:Nat)(R:aZ):W->En->Prop:=wd λx δ1=>jB δ1 i (.dat x) R.nx
def dSet(i:Nat)(t:Fc)(R:aZ)(δ:En):Prop:=t δ (kSe i R)
def kAs(g:TDG)(R:aZ):W->En->Prop:=wd λx δ1=>g x δ1 R.nx
def dAsg(t:Fc)(g:TDG)(R:aZ)(δ:En):Prop:=t δ (kAs g R)
def dPar(i j:Nat)(t:TDA)(R:aZ)(δ:En):Prop:=t δ λds δ1=>qC ds λx r=>qC r λy r=>qN r (jB δ1 i (.dat x) λδ2=>jB δ2 j (.dat y) R.nx)
def dF(i:Nat)(x:D)(δ:En)(R:En->Prop):Prop:=jB δ i (.dat x) R
def ya(ds:Zh)(δ:En)(R:En->Prop):Prop:=qN ds (R δ)
def ul(t:TDG)(u:xh)(ds:Zh)(δ:En)(R:En->Prop):Prop:=qC ds λx r=>t x δ λδ1=>u r δ1 R
def qJ(n:Nat)(t:xh)(d:D)(δ:En)(R:En->Prop):Prop:=qT d λxs=>uG xs n (t xs δ R)
def B9(c:TDT)(tb:TDS)(R:aZ)(δ:En):Prop:=∃(I:En->Prop) (μ:En->Nat),I δ/\∀δ,I δ->c δ (kIf (tb { R with nx:=λδ'=>I δ'/\μ δ'<μ δ,ct:=λδ'=>I δ'/\μ δ'<μ δ,bk:=R.nx,tp:=False }) R.nx)
def qm(t:Fc)(g:TDG)(tb:TDS)(R:aZ)(δ:En):Prop:=t δ (wd λd δ1=>qL d λxs=>∃I:Nat->En->Prop,I 0 δ1 /\
 (∀i x δ',xs[i]?=some x->I i δ'->g x δ' (tb { R with nx:=I (i+1),ct:=I (i+1),bk:=R.nx,tp:=False }))/\∀δ',I xs.length δ'->R.nx δ')
def uL(t:Fc)(g:TDG)(tb:TDS)(R:aZ)(δ:En):Prop:=t δ (wd λd δ1=>qT d λxs=>∃I:Nat->En->Prop,I 0 δ1 /\
 (∀i x δ',xs[i]?=some x->I i δ'->g x δ' (tb { R with nx:=I (i+1),ct:=I (i+1),bk:=R.nx,tp:=False }))/\∀δ',I xs.length δ'->R.nx δ')
def zy(t:TDA)(g:TDG)(tb:TDS)(R:aZ)(δ:En):Prop:=t δ λds δ1=>qC ds λx r=>qN r <| qI x λj=>-(2 ^ 62)<=j/\j<2 ^ 62/\∃I:Nat->En->Prop,I 0 δ1 /\
 (∀i δ',i<j.toNat->I i δ'->g (.int i) δ' (tb { R with nx:=I (i+1),ct:=I (i+1),bk:=R.nx,tp:=False }))/\∀δ',I j.toNat δ'->R.nx δ'
section
variable {X:Cx} {pos:Pos} {a b c e tg:Expr} {ta:Fc} {tA:TDT} {t u:TDS} {st:Stmt} {dH body:List Stmt} {g:TDG} {gs:xh} {tda:TDA}
theorem aA:DSs X [] Bm:=PSs.imp yt λE σ H ⟨G,δ,P,R,s,h,k,_⟩=>k δ h σ H s
theorem ad(h1:DS X st t)(h2:DSs X dH u):DSs X (st::dH) (dSeq t u) :=
 PSs.imp (ve h1 h2) λE σ H ⟨G,δ,P,R,s,h,k1,k2,k3,k4⟩=>⟨G,δ,P,{ R with nx:=u R },s,h,λδ' h' σ' H' s'=>⟨G,δ',P,R,s',h',k1,k2,k3,k4⟩,k2,k3,k4⟩
theorem af(h1:DS X st t):DSs X [st] t:=Ak h1
theorem tM(he:DE X e ta)(hs:swapsWith e none pos.line X.env=pure false:=by rfl):DS X (.Expr e pos) (BJ ta) :=
 PS.imp (m8 he hs) λE σ H ⟨G,δ,P,R,s,h,k,_⟩=>⟨G,δ,P,_,s,h,λx δ1 h1 v H1 s1=>k δ1 h1 σ H1 (s1.sub λp hp=>by simp[hp]),λi δ1 h1 a d H1 s1 _=>k δ1 h1 σ H1 s1⟩
theorem av(he:DE X e ta):DS X (.Return (some e) pos) (dRet ta) :=
 PS.imp (sy he) λE σ H ⟨G,δ,P,R,s,h,_,k,_⟩=>up.mk s h λx δ1 h1 v H1 s1=>k.1 x δ1 h1 v σ H1 s1
theorem aM{aa bb:List Stmt}(hc:DT X c tA)(ha:DSs X aa t)(hb:DSs X bb u):DS X (.If c aa bb pos) (dIf tA t u) :=
 PS.imp (D7 hc ha hb) λE σ H ⟨G,δ,P,R,s,h,k1,k2,k3,k4⟩=>⟨G,δ,P,_,s,h,λb δ1 h1 H1 s1=>by
  cases b with
  | true=>exact⟨G,δ1,P,R,s1,h1,k1,k2,k3,k4⟩
  | false=>exact⟨G,δ1,P,R,s1,h1,k1,k2,k3,k4⟩⟩
theorem ds_never:DS X st uE:=PS.imp vn λE σ H ⟨G,δ,P,R,s,h,_⟩=>h
theorem jc:DSs X dH uE:=PSs.imp ui λE σ H ⟨G,δ,P,R,s,h,_⟩=>h
theorem ax(i:Nat){pos':Pos}(hN:X.N.Nodup)(he:DE X e ta)(hi:X.N[i]?=some x:=by rfl)(hx:Loc X.env.scope x:=by walk_at "v2")(hs:swapsWith e (some (.Name x pos')) pos.line X.env=pure false:=by rfl)
  (hf:X.fn x=true\/X.env.scope.names.lookup x=some .local :=by walk_at "v1"):DS X (.Assign [.Name x pos'] e pos) (dSet i ta) :=
 PS.imp (lL hN hi hx he hs hf) λE σ H ⟨G,δ,P,R,s,h,k,_⟩=>up.mk s h λx δ1 h1 v H1 s1=>k _ h1 _ H1 (s1.set (by simp) λp hp=>by simp[hp])
theorem lS(he:DE X e ta)(hg:DG X tg g)(hs:swapsWithSole [tg] e pos.line X.env=pure false:=by rfl)(hw:swappedStores [tg] e X.env=pure none:=by rfl)
  (h1:(assignEach [tg] X.env).map (·.2)=[assign tg X.env]:=by rfl):DS X (.Assign [tg] e pos) (dAsg ta g) :=
 PS.imp (xI he hg hs hw h1) λE σ H ⟨G,δ,P,R,s,h,k,_⟩=>up.mk s h λx δ1 h1 v H1 s1=>⟨G,δ1,P,x,R.nx,s1,h1,k⟩
theorem aq(i:Nat)(hN:X.N.Nodup)(hi:X.N[i]?=some x:=by rfl)(hx:Loc X.env.scope x:=by walk_at "v2")(hf:X.fn x=true\/X.env.scope.names.lookup x=some .local :=by walk_at "v1") :
  DG X (.Name x pos) (dF i):=PG.imp (Ay hN hi hx hf) λv σ H Q ⟨G,δ,P,d,R,s,h,k⟩=>k _ h _ H (s.set (by simp) λp hp=>by simp[hp])
theorem bE:DGs X [] ya:=PGs.imp y9 λvs σ H Q ⟨G,δ,P,ds,R,hl,s,h,k⟩=>by
 replace h:=qN.ex h;obtain⟨e,h⟩:=h;subst e;have:vs=[]:=HF.mp hl.symm;subst this;exact⟨rfl,k δ h σ H s⟩
theorem aC(h1:DG X e g)(h2:DGs X es gs)(hs:(assignEach (e::es) X.env).map (·.2)=assign e X.env::(assignEach es X.env).map (·.2):=by rfl):DGs X (e::es) (ul g gs) :=
 PGs.imp (vk h1 h2 hs) λvs σ H Q ⟨G,δ,P,ds,R,hl,s,h,k⟩=>by
  replace h:=qC.ex h;obtain⟨x,r,e,h⟩:=h;subst e
  cases vs with
  | nil=>cases hl
  | cons v vs =>
   refine⟨v,vs,rfl,G,δ,r.zip vs++P,x,_,s.sub λp hp=>by simpa using hp,h,λδ1 h1 σ1 H1 s1=>⟨G,δ1,P,r,R,He hl,s1,h1,k⟩⟩
theorem dz{kk:Nat}(hc:X.calm=true)(h:DGs X es gs)(hn:(assignEach es X.env).length=n:=by rfl)(hst:(assignEach es X.env).findIdx? (·.1)=none:=by rfl):DG X (.Tuple es kk pos) (qJ n gs) :=
 PG.imp (A9 hc h hn hst) λv σ H Q ⟨G,δ,P,d,R,s,h,k⟩=>by
  replace h:=qT.ex h;obtain⟨xs,e,h⟩:=h;replace h:=uG.ex h;obtain⟨hl,h⟩:=h;subst e;obtain⟨A,x⟩:=s;have q:=x.pnd (.tup xs,v) (by simp);simp only[Fo] at q;obtain⟨a,vs,e,sq,r⟩:=q;subst e;refine⟨a,vs,rfl,sq,by rw[<- Reps.length _ _ r];exact hl,G,δ,P,xs,R,Reps.length _ _ r,⟨A,?_⟩,h,k⟩
  exact⟨x.old,x.stay,x.m0,x.pm,x.new,x.thr,x.len,x.dat,x.own,x.inj,λp hp=>by
   rcases FV.mp hp with hp | hp
   ·obtain⟨i,hi,e⟩:=List.mem_iff_getElem.mp hp;have h1:i<xs.length:=by rw[GV] at hi;omega
    have h2:i<vs.length:=by rw[GV] at hi;omega
    obtain⟨v',e',r'⟩:=Reps.get _ _ r i xs[i] (by simp[h1]);have:p=(xs[i],vs[i]):=by rw[<- e,List.getElem_zip]
    rw[this];rw[List.getElem?_eq_getElem h2] at e'
    cases e'
    exact r'
   ·exact x.pnd p (by simp[hp])⟩
theorem Cr(i j:Nat){y:Str}{px py pt pt2:Pos}{kt k2}(hc:X.calm=true)(hN:X.N.Nodup)(hij:i≠j)(ha:DA X [a,b] tda)(hi:X.N[i]?=some x:=by rfl)(hj:X.N[j]?=some y:=by rfl)
  (hx:X.env.scope.names.lookup x=some .local :=by rfl) (hy:X.env.scope.names.lookup y=some .local :=by rfl) (hw:swappedStores [.Tuple [.Name x px,.Name y py] kt pt] (.Tuple [a,b] k2 pt2) X.env=pure (some [x,y]):=by rfl)
  (hs:swapsWithSole [.Tuple [.Name x px,.Name y py] kt pt] (.Tuple [a,b] k2 pt2) pos.line X.env=pure false:=by rfl) :
  DS X (.Assign [.Tuple [.Name x px,.Name y py] kt pt] (.Tuple [a,b] k2 pt2) pos) (dPar i j tda) :=
 PS.imp (Bo hc hN hi hj hij hx hy ha hw hs) λE σ H ⟨G,δ,P,R,s,h,k,_⟩=>⟨G,δ,P,_,s,h,λds δ1 h1 vs H1 hl s1=>by
  replace h1:=qC.ex h1;obtain⟨x,r,e,h1⟩:=h1;replace h1:=qC.ex h1;obtain⟨y,r',e',h1⟩:=h1;replace h1:=qN.ex h1;obtain⟨e2,h1⟩:=h1;subst e2 e' e
  match vs,hl with
  | [v,w],_=>exact⟨v,w,rfl,k _ h1 _ H1 ((s1.set (P':=(x,v)::(y,w)::P) (i:=i) (d:=x) (v:=v) (by simp) λp hp=>by simpa using hp).set (by simp) λp hp=>by simp[hp])⟩⟩
theorem jX(hp:PassesOwn (model X.prog X.w) X.A X.env X.xe)(hc:DT X c tA)(hb:DSs X body t):DS X (.While c body [] pos) (B9 tA t) :=
 PS.imp (wH hp hc hb) λE σ H ⟨G,δ,P,R,s,⟨I,μ,i0,turn⟩,k1,k2,k3,k4⟩=>by
  refine⟨λm σ H=>∃δ,m=μ δ/\I δ/\S X.K G δ P σ H,⟨_,δ,rfl,i0,s⟩,?_⟩;rintro m σ H ⟨δ,rfl,i,s⟩;refine⟨G,δ,P,_,s,turn δ i,λb δ1 h1 H1 s1=>?_⟩
  cases b with
  | false=>exact k1 δ1 h1 σ H1 s1
  | true =>
   refine⟨λσ' H'=>∃δ',(I δ'/\μ δ'<μ δ)/\S X.K G δ' P σ' H',λσ' H' ⟨δ',⟨i',l⟩,s'⟩=>⟨_,l,δ',rfl,i',s'⟩,?_⟩;exact⟨G,δ1,P,_,s1,h1,λδ' h' σ' H' s'=>⟨δ',h',s'⟩,k2,k1,λδ' h' σ' H' s'=>⟨δ',h',s'⟩,λz=>z.elim⟩
theorem bA(hp:PassesOwn (model X.prog X.w) X.A X.env X.xe)(hc:X.calm=true)(hi:DE X e ta)(hg:DG X tg g)(hb:DSs X body t)(hs:∀x,foldedSetIterable e X.env x=pure x:=by intro _;rfl):DS X (.For tg e body [] pos) (qm ta g t) :=
 PS.imp (oh hp hc (sQ hi) hg hb hs) λE σ H ⟨G,δ,P,R,s,h,k1,k2,k3,k4⟩=>up.mk s h λd δ1 h1 v H1 s1=>by
  replace h1:=qL.ex h1;obtain⟨xs,e,I,i0,aa,ab⟩:=h1;subst e;have al:∀δ σ H,S X.K G δ ((.lst xs,v)::P) σ H->∃a vs,v=.ref a/\EX X.K H a vs/\vs.length=xs.length:=λδ σ H ⟨A,x⟩=>by
   have q:=x.pnd (.lst xs,v) (by simp)
   simp only[Fo] at q;obtain⟨a,vs,e,_,l,r⟩:=q;exact⟨a,vs,e,EX.of l,(Reps.length _ _ r).symm⟩
  have ah:∃a vs,v=.ref a/\EX X.K H1 a vs/\vs.length=xs.length:=al _ _ _ s1
  obtain⟨a,aj,rfl,ai,an⟩:=ah;refine⟨a,rfl,⟨aj,ai⟩,λi m σ H=>m=xs.length-i/\i<=xs.length/\∃δ,I i δ/\S X.K G δ ((.lst xs,.ref a)::P) σ H,⟨xs.length,by simp,GN _,δ1,i0,s1⟩,?_⟩;rintro i m σ H ⟨rfl,hi,δ',ii,s'⟩;obtain⟨A,x⟩:=id s';have q:=x.pnd (.lst xs,.ref a) (by simp);simp only[Fo] at q;obtain⟨a',vs,e,_,l,r⟩:=q
  cases e
  have l:EX X.K H a vs:=EX.of l
  have hl:xs.length=vs.length:=Reps.length _ _ r
  by_cases hlt:i<xs.length
  ·obtain⟨v',e',r'⟩:=Reps.get _ _ r i xs[i] (by simp[hlt]);refine .inr ⟨⟨vs,v',l,e'⟩,λσ' H'=>∃δ',I (i+1) δ'/\S X.K G δ' ((.lst xs,.ref a)::P) σ' H',λσ' H' ⟨δ',p',s'⟩=>⟨xs.length-(i+1),by omega,rfl,hlt,δ',p',s'⟩,λy H' hy=>?_⟩;obtain⟨e,hy⟩:=hy;subst e;have:some y=some v':=(hy vs l).symm.trans e'
   cases this
   refine⟨G,δ',(.lst xs,.ref a)::P,xs[i],_,⟨A,x.push r'⟩,aa i xs[i] δ' (by simp[hlt]) ii,λδ2 h2 σ2 H2 s2=>?_⟩
   refine⟨G,δ2,(.lst xs,.ref a)::P,_,s2,h2,λδ3 h3 σ3 H3 s3=>⟨δ3,h3,s3⟩,⟨λd δ3 h3 v3 σ3 H3 s3=>k2.1 d δ3 h3 v3 σ3 H3 (s3.sub λp hp=>by
    rcases FJ.mp hp with rfl | hp
    ·simp
    ·simp[hp]),k2.2.1,exs k2.2.2⟩,λδ3 h3 σ3 H3 s3=>k1 δ3 h3 σ3 H3 (s3.sub λp hp=>by simp[hp]),λδ3 h3 σ3 H3 s3=>⟨δ3,h3,s3⟩,λz=>z.elim⟩
  ·have e:i=xs.length:=by omega
   subst e;exact .inl ⟨⟨vs,l,by omega⟩,k1 δ' (ab δ' ii) σ H (s'.sub λp hp=>by simp[hp])⟩
theorem jP(hp:PassesOwn (model X.prog X.w) X.A X.env X.xe)(hc:X.calm=true)(hi:DE X e ta)(hg:DG X tg g)(hb:DSs X body t)(hs:∀x,foldedSetIterable e X.env x=pure x:=by intro _;rfl):DS X (.For tg e body [] pos) (uL ta g t) :=
 PS.imp (oh hp hc (wW hi) hg hb hs) λE σ H ⟨G,δ,P,R,s,h,k1,k2,k3,k4⟩=>up.mk s h λd δ1 h1 v H1 s1=>by
  replace h1:=qT.ex h1;obtain⟨xs,e,I,i0,aa,ab⟩:=h1;subst e;have al:∀δ σ H,S X.K G δ ((.tup xs,v)::P) σ H->∃a vs,v=.ref a/\Fh X.K H a vs/\vs.length=xs.length:=λδ σ H ⟨A,x⟩=>by
   have q:=x.pnd (.tup xs,v) (by simp)
   simp only[Fo] at q;obtain⟨a,vs,e,l,r⟩:=q;exact⟨a,vs,e,l,(Reps.length _ _ r).symm⟩
  have ah:∃a vs,v=.ref a/\Fh X.K H1 a vs/\vs.length=xs.length:=al _ _ _ s1
  obtain⟨a,aj,rfl,ai,an⟩:=ah;refine⟨a,rfl,⟨aj,ai⟩,λi m σ H=>m=xs.length-i/\i<=xs.length/\∃δ,I i δ/\S X.K G δ ((.tup xs,.ref a)::P) σ H,⟨xs.length,by simp,GN _,δ1,i0,s1⟩,?_⟩;rintro i m σ H ⟨rfl,hi,δ',ii,s'⟩;obtain⟨A,x⟩:=id s';have q:=x.pnd (.tup xs,.ref a) (by simp);simp only[Fo] at q;obtain⟨a',vs,e,l,r⟩:=q
  cases e
  have hl:xs.length=vs.length:=Reps.length _ _ r
  by_cases hlt:i<xs.length
  ·obtain⟨v',e',r'⟩:=Reps.get _ _ r i xs[i] (by simp[hlt]);refine .inr ⟨⟨vs,v',l,e'⟩,λσ' H'=>∃δ',I (i+1) δ'/\S X.K G δ' ((.tup xs,.ref a)::P) σ' H',λσ' H' ⟨δ',p',s'⟩=>⟨xs.length-(i+1),by omega,rfl,hlt,δ',p',s'⟩,λy H' hy=>?_⟩;obtain⟨e,hy⟩:=hy;subst e;have:some y=some v':=(hy vs l).symm.trans e'
   cases this
   refine⟨G,δ',(.tup xs,.ref a)::P,xs[i],_,⟨A,x.push r'⟩,aa i xs[i] δ' (by simp[hlt]) ii,λδ2 h2 σ2 H2 s2=>?_⟩
   refine⟨G,δ2,(.tup xs,.ref a)::P,_,s2,h2,λδ3 h3 σ3 H3 s3=>⟨δ3,h3,s3⟩,⟨λd δ3 h3 v3 σ3 H3 s3=>k2.1 d δ3 h3 v3 σ3 H3 (s3.sub λp hp=>by
    rcases FJ.mp hp with rfl | hp
    ·simp
    ·simp[hp]),k2.2.1,exs k2.2.2⟩,λδ3 h3 σ3 H3 s3=>k1 δ3 h3 σ3 H3 (s3.sub λp hp=>by simp[hp]),λδ3 h3 σ3 H3 s3=>⟨δ3,h3,s3⟩,λz=>z.elim⟩
  ·have e:i=xs.length:=by omega
   subst e;exact .inl ⟨⟨vs,l,by omega⟩,k1 δ' (ab δ' ii) σ H (s'.sub λp hp=>by simp[hp])⟩
theorem sJ{pos':Pos}(hp:PassesOwn (model X.prog X.w) X.A X.env X.xe)(hc:X.calm=true)(hgl:Gl X "range")(hm:X.mg "range"=none)(ha:DA X [a] tda)(hg:DG X tg g)(hb:DSs X body t)
  (hse:starEach [a] X.env=[(false,eval a X.env)]:=by rfl) (hs:∀x,foldedSetIterable (.Call (.Name "range" p) [a] [] pos') X.env x=pure x:=by intro _;rfl) :
  DS X (.For tg (.Call (.Name "range" p) [a] [] pos') body [] pos) (zy tda g t) :=
 PS.imp (oh hp hc (lX hgl hm ha hse) hg hb hs) λE σ H ⟨G,δ,P,R,s,h,k1,k2,k3,k4⟩=>⟨G,δ,P,_,s,h,λds δ1 h1 vs H1 hl s1=>by
  replace h1:=qC.ex h1;obtain⟨x,r,e,h1⟩:=h1;replace h1:=qN.ex h1;obtain⟨e',h1⟩:=h1;replace h1:=qI.ex h1;obtain⟨j,e2,h1,h2,I,i0,aa,ab⟩:=h1;subst e2 e' e
  match vs,hl with
  | [v],_ =>
   have q:v=.int j:=by
    obtain⟨A,x⟩:=s1;have q:=x.pnd (.int j,v) (by simp);simpa only[Fo] using q
   subst q;have s2:S X.K G δ1 P σ H1:=s1.sub λp hp=>by simp[hp]
   refine⟨j,rfl,h1,h2,tS (lo:=0) (n:=j.toNat) (λi σ H=>∃δ,I i δ/\S X.K G δ P σ H) ⟨δ1,i0,s2⟩ (λi σ H hi ⟨δ',ii,s'⟩=>?_) λσ H ⟨δ',ii,s'⟩=>k1 δ' (ab δ' ii) σ H s'⟩;refine⟨G,δ',P,.int (0+i),_,s'.sc rfl,(by have q:=aa i δ' hi ii;rw[Hf];exact q),λδ2 h2 σ2 H2 s2=>?_⟩
   exact⟨G,δ2,P,_,s2,h2,λδ3 h3 σ3 H3 s3=>⟨δ3,h3,s3⟩,k2,k1,λδ3 h3 σ3 H3 s3=>⟨δ3,h3,s3⟩,λz=>z.elim⟩⟩
end
end DL
namespace DL
open PySem PySem.Spec PyProof.Rows L2
variable {a:D} {vs:Zf} {i:Int} {v:V} {g:Int→Int→D} {R:D→Prop} {C:Int→Int→Prop} {ds:Zh}
section
variable {K:PySem.W.Frag} {M:Addr→Prop} {H:Hp}
theorem B6{x:V}(h:Reps K M H [a] [x]):Fo K M H a x:=by
 unfold Reps at h;obtain⟨v,r,e,q,_⟩:=h
 cases e
 exact q
theorem bF{b:D}{x y:V}(h:Reps K M H [a,b] [x,y]):Fo K M H a x/\Fo K M H b y:=by
 unfold Reps at h;obtain⟨v,r,e,q,h⟩:=h
 cases e
 exact⟨q,B6 h⟩
theorem aV(h:Reps K M H [a] vs):∃x,vs=[x]/\Fo K M H a x:=by
 unfold Reps at h;obtain⟨v,r,e,q,h⟩:=h;unfold Reps at h;subst h;exact⟨v,e,q⟩
theorem en{b:D}(h:Reps K M H [a,b] vs):∃x y,vs=[x,y]/\Fo K M H a x/\Fo K M H b y:=by
 unfold Reps at h;obtain⟨v,r,e,q,h⟩:=h;obtain⟨y,e2,q2⟩:=aV h;subst e2;exact⟨v,y,e,q,q2⟩
theorem aI(h:Fo K M H (.int i) v):v=.int i:=by unfold Fo at h;exact h
theorem eE{i:Bool}(h:Fo K M H (.bl i) v):v=.bl i:=by unfold Fo at h;exact h
theorem bH{i:Str}(h:Fo K M H (.str i) v):v=.str i:=by unfold Fo at h;exact h
end
def fI0(g:Int->Int->D):Zh->(D->Prop)->Prop
 | [.int i,.int j],R=>R (g i j)
 | _,_=>False
def fI(C:Int->Int->Prop)(g:Int->Int->D):Zh->(D->Prop)->Prop
 | [.int i,.int j],R=>C i j/\R (g i j)
 | _,_=>False
def fU(g:Int->D):Zh->(D->Prop)->Prop
 | [.int i],R=>R (g i)
 | _,_=>False
theorem Bg{a b:Int}:fI0 g [.int a,.int b] R=R (g a b):=rfl
theorem D9{a b:Int}:fI C g [.int a,.int b] R=(C a b/\R (g a b)):=rfl
theorem D2{g:Int->D}{a:Int}:fU g [.int a] R=R (g a):=rfl
theorem Bx(h:fI0 g ds R):∃i j,ds=[.int i,.int j]/\R (g i j):=by
 unfold fI0 at h
 split at h
 ·exact⟨_,_,rfl,h⟩
 ·exact h.elim
theorem Eh(h:fI C g ds R):∃i j,ds=[.int i,.int j]/\C i j/\R (g i j):=by
 unfold fI at h
 split at h
 ·exact⟨_,_,rfl,h⟩
 ·exact h.elim
theorem BU{g:Int->D}(h:fU g ds R):∃i,ds=[.int i]/\R (g i):=by
 unfold fU at h
 split at h
 ·exact⟨_,rfl,h⟩
 ·exact h.elim
def CFd(_ j:Int):Prop:=j≠0/\j.natAbs.log2<9000
def CNz(_ j:Int):Prop:=j≠0
section
variable {X:Cx}
theorem uZ{f:Value->Value->Sem Value}{g':Int->Int->V}(h:E9 X f (rI0 g'))(hs:∀i j,sc (g i j)=some (g' i j)):E9 X f λx y=>aL X.K (fI0 g) [x,y] :=
 E9.imp h λx y H Q ⟨M,ds,R,m,rs,hf,k⟩=>by
  obtain⟨i,j,e,r⟩:=Bx hf;subst e;obtain⟨h1,h2⟩:=bF rs;exact⟨i,j,aI h1,aI h2,k _ r _ H (bM.refl H) (Fo.sc (hs i j))⟩
theorem opI{f:Value->Value->Sem Value}{C':Int->Int->Prop}{g':Int->Int->V}(h:E9 X f (rI C' g'))(hs:∀i j,sc (g i j)=some (g' i j))(hc:∀i j,C i j->C' i j):E9 X f λx y=>aL X.K (fI C g) [x,y] :=
 E9.imp h λx y H Q ⟨M,ds,R,m,rs,hf,k⟩=>by
  obtain⟨i,j,e,c,r⟩:=Eh hf;subst e;obtain⟨h1,h2⟩:=bF rs;exact⟨i,j,aI h1,aI h2,hc i j c,k _ r _ H (bM.refl H) (Fo.sc (hs i j))⟩
theorem EN:E9 X (binaryOp .Add) λx y=>aL X.K (fI0 λi j=>.int (i+j)) [x,y]:=uZ Cn λ_ _=>rfl
theorem gq:E9 X (binaryOp .Sub) λx y=>aL X.K (fI0 λi j=>.int (i-j)) [x,y]:=uZ Br λ_ _=>rfl
theorem zq:E9 X (binaryOp .Mult) (rI IntMulOk λi j=>.int (i*j)):=L2.opI λ_ _ _ _ _ _ _ hc q=>mul_int q hc
theorem bu:E9 X (binaryOp .Mult) λx y=>aL X.K (fI IntMulOk λi j=>.int (i*j)) [x,y]:=opI zq (λ_ _=>rfl) λ_ _ h=>h
theorem wm:E9 X (binaryOp .FloorDiv) (rI CFd λi j=>.int (i.fdiv j)):=L2.opI λ_ _ _ _ _ _ _ hc q=>floordiv_int hc.1 q (.inl (PyProof.noPylong_of_log2 hc.2))
theorem eF:E9 X (binaryOp .FloorDiv) λx y=>aL X.K (fI CFd λi j=>.int (i.fdiv j)) [x,y]:=opI wm (λ_ _=>rfl) λ_ _ h=>h
theorem jd:E9 X (binaryOp .Mod) λx y=>aL X.K (fI CNz λi j=>.int (i.fmod j)) [x,y]:=opI xZ (λ_ _=>rfl) λ_ _ h=>h
theorem qr:E9 X (binaryOp .Pow) λx y=>aL X.K (fI CPow λi j=>.int (i ^ j.toNat)) [x,y]:=opI BT (λ_ _=>rfl) λ_ _ h=>h
theorem uX:E9 X (compareOp .Lt) λx y=>aL X.K (fI0 λi j=>.bl (decide (i<j))) [x,y]:=uZ DM λ_ _=>rfl
theorem o_le:E9 X (compareOp .LtE) λx y=>aL X.K (fI0 λi j=>.bl (decide (i<=j))) [x,y]:=uZ D1 λ_ _=>rfl
theorem uU:E9 X (compareOp .Gt) λx y=>aL X.K (fI0 λi j=>.bl (decide (j<i))) [x,y]:=uZ Ex λ_ _=>rfl
theorem o_ge:E9 X (compareOp .GtE) λx y=>aL X.K (fI0 λi j=>.bl (decide (j<=i))) [x,y]:=uZ Ds λ_ _=>rfl
theorem jv:UnR X (unaryOp .USub) λx=>aL X.K (fU λi=>.int (-i)) [x] :=
 UnR.imp Cs λx H Q ⟨M,ds,R,m,rs,hf,k⟩=>by
  obtain⟨i,e,r⟩:=BU hf;subst e;exact⟨i,aI (B6 rs),k _ r _ H (bM.refl H) (Fo.sc rfl)⟩
theorem Av:cm X (.builtin "abs") (aL X.K (fU λi=>.int (if i<0 then -i else i))) :=
 cm.imp wD λxs H Q ⟨M,ds,R,m,rs,hf,k⟩=>by
  obtain⟨i,e,r⟩:=BU hf;subst e;obtain⟨x,e,q⟩:=aV rs;subst e;exact⟨i,by rw[aI q],k _ r _ H (bM.refl H) (Fo.sc rfl)⟩
def AJ:Zh->(D->Prop)->Prop
 | [.lst xs],R=>R (.int xs.length)
 | [.fz xs],R=>R (.int xs.length)
 | [.tup xs],R=>R (.int xs.length)
 | _,_=>False
theorem zU:∀ {d0:Zh} {R:D->Prop},AJ d0 R->((∃(xs:Zh),d0=[.lst xs]/\R (.int xs.length))\/(∃(xs:Zh),d0=[.fz xs]/\R (.int xs.length))\/(∃(xs:Zh),d0=[.tup xs]/\R (.int xs.length))):=by walk_at "or"
theorem f9:cm X (.builtin "len") (aL X.K AJ) :=
 cm.imp gg λxs H Q ⟨M,ds,R,m,rs,h,k⟩=>by
  have aa:∀n:Nat,R (.int n)->Q (.int n) H:=λn r=>k _ r _ H (bM.refl H) (Fo.sc rfl)
  replace h:=zU h
  rcases h with⟨_,rfl,h⟩ | ⟨_,rfl,h⟩ | ⟨_,rfl,h⟩
  ·obtain⟨x,e,q⟩:=aV rs;unfold Fo at q;obtain⟨a,vs,e2,_,l,r⟩:=q;subst e e2;exact⟨a,vs,rfl,.inl (EX.of l),aa _ (by rw[<- Reps.length _ _ r];exact h)⟩
  ·obtain⟨x,e,q⟩:=aV rs;unfold Fo at q;obtain⟨a,vs,e2,l,r⟩:=q;subst e e2;exact⟨a,vs,rfl,.inl l.seq,aa _ (by rw[<- Reps.length _ _ r];exact h)⟩
  ·obtain⟨x,e,q⟩:=aV rs;unfold Fo at q;obtain⟨a,vs,e2,l,r⟩:=q;subst e e2;exact⟨a,vs,rfl,.inr l,aa _ (by rw[<- Reps.length _ _ r];exact h)⟩
def fInt:Zh->(D->Prop)->Prop
 | [.int i],R=>R (.int i)
 | [.bl b],R=>R (.int (if b then 1 else 0))
 | _,_=>False
theorem yu:∀ {d0:Zh} {R:D->Prop},fInt d0 R->((∃(i:Int),d0=[.int i]/\R (.int i))\/(∃(b:Bool),d0=[.bl b]/\R (.int (if b then 1 else 0)))):=by walk_at "or"
theorem Dq:cm X (.type "int") (aL X.K fInt) :=
 cm.imp rC λxs H Q ⟨M,ds,R,m,rs,h,k⟩=>by
  replace h:=yu h
  rcases h with⟨_,rfl,h⟩ | ⟨_,rfl,h⟩
  ·obtain⟨x,e,q⟩:=aV rs;subst e;exact .inl ⟨_,by rw[aI q],k _ h _ H (bM.refl H) (Fo.sc rfl)⟩
  ·obtain⟨x,e,q⟩:=aV rs;subst e;exact .inr ⟨_,by rw[eE q],k _ h _ H (bM.refl H) (Fo.sc rfl)⟩
def E2(xs:Zh):Int->(D->Prop)->Prop
 | .ofNat n,k=>qV xs[n]? k
 | .negSucc n,k=>qV (E4 xs (.negSucc n)) k
theorem rK{α:Type}{xs:List α}{n:Nat}:E4 xs (.ofNat n)=xs[n]?:=by
 have h0:(0:Int)<=Int.ofNat n:=Int.natCast_nonneg n
 unfold E4 ixN;rw[FP h0]
 by_cases h:n<xs.length
 ·rw[FP (show Int.ofNat n<(xs.length:Int) from Int.ofNat_lt.mpr h)];rfl
 ·rw[FN (show ¬ Int.ofNat n<(xs.length:Int) from λz=>h (Int.ofNat_lt.mp z)),List.getElem?_eq_none (Nat.le_of_not_lt h)];rfl
theorem E2.ex{xs:Zh}{k:D->Prop}(h:E2 xs i k):∃v,E4 xs i=some v/\k v:=by
 cases i with
 | ofNat n=>rw[rK];exact qV.ex h
 | negSucc n=>exact qV.ex h
theorem E2.of{xs:Zh}{k:D->Prop}{v:D}(e:E4 xs i=some v)(h:k v):E2 xs i k:=by
 cases i with
 | ofNat n=>rw[rK] at e;exact qV.of e h
 | negSucc n=>exact qV.of e h
def fIx:Zh->(D->Prop)->Prop
 | [.tup xs,.int i],R=>E2 xs i R
 | [.lst xs,.int i],R=>E2 xs i R
 | [.fz xs,.int i],R=>E2 xs i R
 | [.str z,.int i],R=>z.length<=9000/\∃c,E4 z.cps.toList i=some c/\R (.str ⟨#[c]⟩)
 | _,_=>False
theorem Cg{d0:Zh}(h:fIx d0 R):(∃(xs:Zh) (i:Int),d0=[.tup xs,.int i]/\∃v,E4 xs i=some v/\R v)\/(∃(xs:Zh) (i:Int),d0=[.lst xs,.int i]/\∃v,E4 xs i=some v/\R v)\/(∃(xs:Zh) (i:Int),d0=[.fz xs,.int i]/\∃v,E4 xs i=some v/\R v)\/(∃(z:Str) (i:Int),d0=[.str z,.int i]/\z.length<=9000/\∃c,E4 z.cps.toList i=some c/\R (.str ⟨#[c]⟩)):=by
 rcases d0 with _ | ⟨a,_ | ⟨b,_ | ⟨c,l⟩⟩⟩
 ·exact False.elim h
 ·cases a<;>exact False.elim h
 ·cases a<;>first | exact False.elim h | (cases b<;>first | exact False.elim h | exact .inl ⟨_,_,rfl,E2.ex h⟩ | exact .inr (.inl ⟨_,_,rfl,E2.ex h⟩) | exact .inr (.inr (.inl ⟨_,_,rfl,E2.ex h⟩)) | exact .inr (.inr (.inr ⟨_,_,rfl,h⟩)))
 ·cases a<;>first | exact False.elim h | (cases b<;>exact False.elim h)
theorem tq{α β:Type}{xs:List α}{ys:List β}(h:xs.length=ys.length){v:α}(e:E4 xs i=some v):∃j:Nat,xs[j]?=some v/\∀w,ys[j]?=some w->E4 ys i=some w:=by
 unfold E4 at e ⊢;rw[h] at e
 cases q:ixN ys.length i with
 | none=>rw[q] at e;cases e
 | some j=>rw[q] at e;exact⟨j,e,λw z=>z⟩
theorem cz:IxR X λx y=>aL X.K fIx [x,y] :=
 IxR.imp Bn λx y H Q ⟨M,ds,R,m,rs,h,k⟩=>by
  have aa:∀(xs:Zh) (vs:Zf) (i:Int) (d:D),Reps X.K M H xs vs->E4 xs i=some d->R d->∃v,E4 vs i=some v/\Q v H:=λxs vs i d r e q=>by
   obtain⟨j,h1,h2⟩:=tq (Reps.length _ _ r) e;obtain⟨v,e',r'⟩:=Reps.get _ _ r j d h1;exact⟨v,h2 v e',k d q v H (bM.refl H) r'⟩
  replace h:=Cg h
  rcases h with⟨_,_,rfl,h⟩ | ⟨_,_,rfl,h⟩ | ⟨_,_,rfl,h⟩ | ⟨_,_,rfl,h⟩
  ·obtain⟨d,e,q⟩:=h;obtain⟨h1,h2⟩:=bF rs;unfold Fo at h1;obtain⟨a,vs,e2,l,r⟩:=h1;obtain⟨v,e3,q3⟩:=aa _ _ _ _ r e q;exact .inr (.inl ⟨a,vs,_,v,e2,aI h2,l,e3,q3⟩)
  ·obtain⟨d,e,q⟩:=h;obtain⟨h1,h2⟩:=bF rs;unfold Fo at h1;obtain⟨a,vs,e2,_,l,r⟩:=h1;obtain⟨v,e3,q3⟩:=aa _ _ _ _ r e q;exact .inl ⟨a,vs,_,v,e2,aI h2,EX.of l,e3,q3⟩
  ·obtain⟨d,e,q⟩:=h;obtain⟨h1,h2⟩:=bF rs;unfold Fo at h1;obtain⟨a,vs,e2,l,r⟩:=h1;obtain⟨v,e3,q3⟩:=aa _ _ _ _ r e q;exact .inl ⟨a,vs,_,v,e2,aI h2,l.seq,e3,q3⟩
  ·obtain⟨hz,c,e,q⟩:=h;obtain⟨h1,h2⟩:=bF rs;exact .inr (.inr ⟨_,_,c,bH h1,aI h2,small hz,e,k _ q _ H (bM.refl H) (Fo.sc rfl)⟩)
def fCat:Zh->(D->Prop)->Prop
 | [.lst xs,.lst ys],R=>xs.length+ys.length<=9000/\R (.lst (xs++ys))
 | _,_=>False
theorem zY:∀ {d0:Zh} {R:D->Prop},fCat d0 R->∃(xs:Zh) (ys:Zh),d0=[.lst xs,.lst ys]/\xs.length+ys.length<=9000/\R (.lst (xs++ys)):=by walk_at "or"
theorem D6:E9 X (binaryOp .Add) λx y=>aL X.K fCat [x,y] :=
 E9.imp CO λx y H Q ⟨M,ds,R,m,rs,h,k⟩=>by
  replace h:=zY h;obtain⟨_,_,rfl,h⟩:=h
  ·obtain⟨hz,q⟩:=h;obtain⟨h1,h2⟩:=bF rs;unfold Fo at h1 h2;obtain⟨a,vs,e,_,l,r⟩:=h1;obtain⟨b,ws,e',_,l',r'⟩:=h2;refine⟨a,b,vs,ws,e,e',l,l',small (by rw[<- Reps.length _ _ r,<- Reps.length _ _ r'];exact hz),λp hp=>k _ q _ _ (aE hp _) ?_⟩;unfold Fo;exact⟨p,vs++ws,rfl,λz=>m p z hp,aD,Reps.kp (Kp.of_same (aE hp _)) _ _ (Reps.append _ _ _ _ r r')⟩
def cut{α:Type}(xs:List α)(lo hi:Option Int):List α:=(xs.drop (HT.sIx xs.length 0 lo)).take (HT.sIx xs.length xs.length hi-HT.sIx xs.length 0 lo)
abbrev TDO:=En->(Option Int->En->Prop)->Prop
inductive UpO(K:PySem.W.Frag)(t:TDO)(σ:L2.St)(H:Hp)(Q:Option Int->Hp->Prop):Prop
 | mk (G:Gf) (δ:En) (P:List (D×V)) (R:Option Int->En->Prop) (s:S K G δ P σ H) (h:t δ R) (k:∀o δ',R o δ'->∀H',S K G δ' P σ H'->Q o H')
def upO(K:PySem.W.Frag)(t:TDO):TO:=UpO K t
def DO(X:Cx)(e:Option Expr)(t:TDO):Prop:=PO X e (upO X.K t)
def se(δ:En)(R:Option Int->En->Prop):Prop:=R none δ
def Dj(t:Fc)(δ:En)(R:Option Int->En->Prop):Prop:=t δ (wd λx δ1=>qI x λi=>R (some i) δ1)
theorem PO.imp{e:Option Expr}{t t':TO}(h:PO X e t)(i:∀σ H Q,t' σ H Q->t σ H Q):PO X e t':=λpins s σ H Q I q=>h pins s σ H Q I (i σ H Q q)
theorem dP:DO X none se:=PO.imp yO λσ H Q ⟨G,δ,P,R,s,h,k⟩=>k none δ h H s
theorem cV{e:Expr}{te:Fc}(h:DE X e te):DO X (some e) (Dj te):=PO.imp (yc h) λσ H Q ⟨G,δ,P,R,s,h,k⟩=>up.mk s h λx δ1 h1 v H1 s1=>by
 replace h1:=qI.ex h1;obtain⟨i,e,r⟩:=h1;subst e;obtain⟨A,q⟩:=id s1;exact⟨i,aI (q.pnd (.int i,v) (by simp)),k _ δ1 r H1 (s1.sub λp hp=>by simp[hp])⟩
def fSl:D->Option Int->Option Int->(D->Prop)->Prop
 | .lst xs,lo,hi,R=>R (.lst (cut xs lo hi))
 | .fz xs,lo,hi,R=>R (.lst (cut xs lo hi))
 | .tup xs,lo,hi,R=>¬ (HT.sIx xs.length 0 lo=0/\HT.sIx xs.length xs.length hi=xs.length)/\R (.tup (cut xs lo hi))
 | _,_,_,_=>False
def dSl(te:Fc)(tl th:TDO)(δ:En)(R:W->En->Prop):Prop:=te δ (wd λx δ1=>tl δ1 λl δ2=>th δ2 λu δ3=>fSl x l u λd=>R (.d d) δ3)
theorem Reps.cut{K:PySem.W.Frag}{M:Addr->Prop}{H:Hp}(lo hi:Option Int)(r:Reps K M H ds vs):Reps K M H (DL.cut ds lo hi) (rc vs lo hi):=by
 unfold DL.cut rc;rw[Reps.length _ _ r];exact Reps.take _ _ _ (Reps.drop _ _ _ r)
theorem me{e:Expr}{te:Fc}{lo hi:Option Expr}{tl th:TDO}{p2 pos:Pos}(he:DE X e te)(hl:DO X lo tl)(hu:DO X hi th):DE X (.Subscript e (.Slice lo hi none p2) pos) (dSl te tl th) :=
 PE.imp (oK (zl.or xx) he hl hu) λσ H Q ⟨G,δ,P,R,s,h,k,_⟩=>up.mk s h λx δ1 h1 v H1 s1=>⟨G,δ1,(x,v)::P,_,s1,h1,λl δ2 h2 H2 s2=>⟨G,δ2,(x,v)::P,_,s2,h2,λu δ3 h3 H3 s3=>by
  obtain⟨A,q⟩:=id s3;have r:=q.pnd (x,v) (by simp)
  cases x with
  | lst xs =>
   have h3:R (.d (.lst (cut xs l u))) δ3:=h3
   simp only[Fo] at r;obtain⟨a,vs,e,_,sq,r⟩:=r;refine .inl ⟨a,vs,e,EX.of sq,λp hp=>?_⟩;have x2:=(q.same (aE hp (.lst (rc vs l u))));refine k _ δ3 h3 (.ref p) _ ⟨A,(x2.sub (P':=P) λp hp=>Fz _ hp).push ?_⟩;unfold Fo;exact⟨p,_,rfl,λz=>q.mem p z hp,aD,Reps.kp (Kp.of_same (aE hp _)) _ _ (Reps.cut l u r)⟩
  | fz xs =>
   have h3:R (.d (.lst (cut xs l u))) δ3:=h3
   simp only[Fo] at r;obtain⟨a,vs,e,sq,r⟩:=r;refine .inl ⟨a,vs,e,sq.seq,λp hp=>?_⟩;have x2:=(q.same (aE hp (.lst (rc vs l u))));refine k _ δ3 h3 (.ref p) _ ⟨A,(x2.sub (P':=P) λp hp=>Fz _ hp).push ?_⟩;unfold Fo;exact⟨p,_,rfl,λz=>q.mem p z hp,aD,Reps.kp (Kp.of_same (aE hp _)) _ _ (Reps.cut l u r)⟩
  | tup xs =>
   have h3:¬ (HT.sIx xs.length 0 l=0/\HT.sIx xs.length xs.length u=xs.length)/\R (.d (.tup (cut xs l u))) δ3:=h3
   simp only[Fo] at r;obtain⟨a,vs,e,sq,r⟩:=r;obtain⟨nf,h3⟩:=h3;refine .inr ⟨a,vs,e,sq,by rw[<- Reps.length _ _ r];exact nf,λp hp=>?_⟩;have x2:=(q.same (aE hp (.tup (rc vs l u))));refine k _ δ3 h3 (.ref p) _ ⟨A,(x2.sub (P':=P) λp hp=>Fz _ hp).push ?_⟩;unfold Fo;exact⟨p,_,rfl,Fh.of aD,Reps.kp (Kp.of_same (aE hp _)) _ _ (Reps.cut l u r)⟩
  | _=>exact(show False from h3).elim⟩⟩
end
end DL
namespace DL
open PySem PySem.Spec PyProof.Rows L2
variable {f:Zh→(D→Prop)→Prop} {k:Nat} {x:Str} {ps:Zb}
def eJ(N:Zb)(ds:Zh):En:=ds.map Sl.dat++List.replicate (N.length-ds.length) Sl.no
theorem uv{K:PySem.W.Frag}{vs:Zf}{H:Hp}{Q:VK}{n:Nat}(h:aL K f vs H Q)(len:∀ds R,f ds R->ds.length=n):vs.length=n:=by
 obtain⟨M,ds,R,m,rs,hf,k⟩:=h;rw[<- Reps.length _ _ rs];exact len ds R hf
theorem rl{K:PySem.W.Frag}{M:Addr->Prop}{ds:Zh}{vs:Zf}{H:Hp}(N:Zb)(m:∀b,M b->H b≠none)(rs:Reps K M H ds vs):S K ⟨M,H,λ_=>False⟩ (eJ N ds) [] (L2.start N vs) H:=by
 have hl:=Reps.length _ _ rs
 refine⟨λ_=>False,λb o e _=>e,λb e=>e,m,λb h=>h.elim,λb h=>h.elim,λb h=>h.elim,?_,λi d e=>?_,λi a d e=>?_,λi j a d e h1 h2=>?_,λp hp=>(nomatch hp)⟩
 ·unfold eJ L2.start;rw[FF,FF,Fy,Fy,FX,FX,hl]
 ·unfold eJ at e;unfold L2.start
  by_cases hi:i<ds.length
  ·rw[List.getElem?_append_left (by rw[Fy];exact hi),List.getElem?_map] at e
   cases hd:ds[i]? with
   | none=>rw[hd] at e;cases e
   | some d' =>
    rw[hd] at e
    cases e
    obtain⟨v,ev,rv⟩:=Reps.get _ _ rs i d hd;refine⟨v,?_,Fo.more (λb z=>.inl (z.elim id λq=>q.elim)) _ _ rv⟩;rw[List.getElem?_append_left (by rw[Fy];omega),List.getElem?_map,ev];rfl
  ·rw[List.getElem?_append_right (by rw[Fy];omega),List.getElem?_replicate] at e
   split at e<;>cases e
 all_goals
  unfold eJ at *;exfalso
 ·by_cases hi:i<ds.length
  ·rw[List.getElem?_append_left (by rw[Fy];exact hi),List.getElem?_map] at e
   cases hd:ds[i]? with
   | none=>rw[hd] at e;cases e
   | some d'=>rw[hd] at e;cases e
  ·rw[List.getElem?_append_right (by rw[Fy];omega),List.getElem?_replicate] at e
   split at e<;>cases e
 ·by_cases hi:i<ds.length
  ·rw[List.getElem?_append_left (by rw[Fy];exact hi),List.getElem?_map] at h1
   cases hd:ds[i]? with
   | none=>rw[hd] at h1;cases h1
   | some d'=>rw[hd] at h1;cases h1
  ·rw[List.getElem?_append_right (by rw[Fy];omega),List.getElem?_replicate] at h1
   split at h1<;>cases h1
structure Fd(K:PySem.W.Frag)(mg:Str->Zd)(x:Str)(st:Stmt)(ps:Zb):Prop where
 ex:∃(a:Addr) (fd:FuncData),Fun K x x st a fd/\md K fd ps []/\mg x=some (.ref a)
structure Cal(P:Program)(w:World)(K:PySem.W.Frag)(mg:Str->Zd)(base:Heap)(k:Nat)(x:Str)(ps:Zb)(sp:Sp):Prop where
 ex:∃(a:Addr) (fd:FuncData),kT P w K mg base CX0 k a fd ps sp/\md K fd ps []/\PySem.W.keepIn K (.ref a)=true/\mg x=some (.ref a)
section
variable {P:Program} {w:World} {K:PySem.W.Frag} {mg:Str→Zd} {base:Heap}
theorem Cal.mono{j:Nat}{sp:Sp}(C:Cal P w K mg base j x ps sp)(h:j<=k):Cal P w K mg base k x ps sp:=by
 obtain⟨a,fd,F,b,kp,m⟩:=C.ex;exact⟨a,fd,F.mono h,b,kp,m⟩
theorem AT{st:Stmt}{N:Zb}{a:Addr}{fd:FuncData}(Fu:Fun K x x st a fd)(Sc:au N ps (am st))(len:∀ds R,f ds R->ds.length=ps.length)
    (hbody:∀(cdv:Value) (A:Around) (outer:List Env) (s:Shared) (H:Hp) (E:XK) (ds:Zh) (R:D->Prop),fO k (A.deeper (envOfC x (am st) s.heap.objs.size a cdv))->f ds R ->
      ∃t,DSs (rY CX0 P w K mg base N x (am st) a cdv A outer s H E).nox (bG st) t/\t { nx:=λ_=>R .non,rt:=λd _=>R d,ro:=R } (eJ N ds)) :
    kT P w K mg base CX0 (k+1) a fd ps (Fx K f):=by
  refine Fu.ok Sc (λvs H Q E h=>uv h len) (λcdv A outer s H vs Q E hr h=>?_);obtain⟨M,ds,R,hm,rs,hf,hk⟩:=h;obtain⟨t,ht,hq⟩:=hbody cdv A outer s H E ds R hr hf;refine⟨_,ht,⟨M,H,λ_=>False⟩,eJ N ds,[],_,rl N hm rs,hq,λδ' r σ' H' ⟨A',x⟩=>?_,⟨λd δ' r v σ' H' ⟨A',x⟩=>?_,λd r a H' ⟨o1,o2,o3,o4⟩=>hk d r (.ref a) H' (λb o e=>o1 b o e id) (o4.rep o3 λb z=>.inl z),λ_ _ _ z=>z.elim⟩,λ_ h=>h.elim,λ_ h=>h.elim,λz=>z.elim⟩
  · exact hk .non r .non H' (λb o e=>x.old b o e id) (by unfold Fo;rfl)
  · exact hk d r v H' (λb o e=>x.old b o e id) (Fo.more (λb z=>.inl (.inl z)) _ _ (x.pnd (d,v) (by simp)))
theorem cH{st:Stmt}{N:Zb}(F:Fd K mg x st ps)(Sc:au N ps (am st))(len:∀ds R,f ds R->ds.length=ps.length)
    (hbody:∀(a:Addr) (cdv:Value) (A:Around) (outer:List Env) (s:Shared) (H:Hp) (E:XK) (ds:Zh) (R:D->Prop),fO k (A.deeper (envOfC x (am st) s.heap.objs.size a cdv))->f ds R ->
      ∃t,DSs (rY CX0 P w K mg base N x (am st) a cdv A outer s H E).nox (bG st) t/\t { nx:=λ_=>R .non,rt:=λd _=>R d,ro:=R } (eJ N ds)) :
    Cal P w K mg base (k+1) x ps (Fx K f):=by
  obtain⟨a,fd,Fu,b,m⟩:=F.ex;exact⟨a,fd,AT Fu Sc len (hbody a),b,Fu.kp,m⟩
theorem ar{X:Cx}{a:Expr}{es:List Expr}{t:TDA}{p pos:Pos}(C:Cal X.prog X.w X.K X.mg X.base k x ps (Fx X.K f))(hr:fO k X.A)(hg:Gl X x)(ha:DA X (a::es) t)
  (hdb:(x==("__debug__":Str))=false:=by decide) (he:starEach (a::es) X.env=(false,eval a X.env)::starEach es X.env:=by rfl) (hpl:(backTo pos (starEach es X.env)).any (·.1)=false:=by rfl) :
  DE X (.Call (.Name x p) (a::es) [] pos) (qe f t):=by
 obtain⟨g,fd,F,b,kp,m⟩:=C.ex;exact yr F hr hg m kp b ha hdb he hpl
def y7(K:PySem.W.Frag):Sp:=λvs H Q _=>∃(a:Addr) (ns:Ze),vs=[.ref a]/\EX K H a (ns.map V.int)/\Only H/\ns.length<=63/\(∀n∈ns,Builtin.Int.intBits n<=1048576)/\∀H',Q (.bl true) H'
def fLaw:Zh->(D->Prop)->Prop:=λds R=>∃ns:Ze,ds=[.fz (ns.map D.int)]/\ns.length<=63/\(∀n∈ns,Builtin.Int.intBits n<=1048576)/\R (.bl true)
theorem CQ{a:Addr}{fd:FuncData}(F:kT P w K mg base CX0 k a fd ps (Fx K fLaw)):kT P w K mg base CX0 k a fd ps (y7 K) :=
 F.imp λvs H Q E ⟨l,ns,e,sq,on,h63,hb,q⟩=>by
  subst e;refine⟨λ_=>False,[.fz (ns.map D.int)],λd=>d=.bl true,λ_ h=>h.elim,Reps.one ?_,⟨ns,rfl,h63,hb,rfl⟩,λd e v H' _ r=>?_⟩
  ·unfold Fo;refine⟨l,ns.map V.int,rfl,?_,Reps.ints ns⟩
   rcases sq with(h | ⟨o,h⟩) | h
   ·rcases on l with z | ⟨o,xs,z⟩
    ·rw[z] at h;cases h
    ·rw[z] at h;cases h
   ·exact .inl ⟨o,h⟩
   ·exact .inr (.inr h)
  ·subst e;rw[eE r];exact q H'
end
end DL
namespace DLH
open PySem PySem.W PySem.Calls PyProof.Rows
theorem gS{ns:Ze}(h:WData.layableAll [.list (ns.map .int)]=true):∀n∈ns,Builtin.Int.intBits n<=1048576:=λn hn=>by
 have h1:=layableW_arg h _ (F1.mpr rfl)
 have h2:=layableW_item h1 (.int n) (FC.mpr ⟨n,hn,rfl⟩)
 have h3:=(layableW_iff.mp h2).2.2
 simpa only[WData.weight,Builtin.Int.intBits] using h3
theorem attach_callB{l:OpenLaw}{n:Nat}{q:Program}{loose:Zb}{XP:(Str->Zd)->Heap->Prop}{YP:World->Heap->Prop}{d:DefRec}
    (hn:l.most=some n) (hdf:d.params.defaults=[])
    (call:∀(w:World) (s₀ s₁:Shared) (mg mb:Str->Zd) (fa:Addr) (o:Obj) (pm cd doc:Value) (a:Addr) (vs:Zc) (ns:Ze),
      Ground q loose [] XP w s₀ mg mb s₁.heap->YP w s₁.heap ->
      s₁.heap.get? fa=some o->o.data=.func (docDef d.name d.params d.body d.scope pm cd doc)->s₁.heap.CodeRec cd d.name->mg d.name=some (.ref fa) ->
      s₁.heap.get? a=some { cls:=.type "list",data:=.seq vs.toArray }->IntsAre vs ns->ns.length<=n->(∀i∈ns,Builtin.Int.intBits i<=1048576)->s₁.gens=#[] ->
      codeAny (model l.prog w) callerA (.call (.ref fa) ⟨[.ref a],[]⟩) (λr s'=>r=.ok (.ret (.bool true))/\OldK s₁.heap s'.heap/\s'.os=s₁.os/\AllBare s'.gens) s₁) :
    WalkO q loose XP YP l.row.toRowW d [] (λf vs=>PySem.call f vs):=by
  intro w s₀ s₁ mg mb G Y fa o pm cd doc dV kV ho hd ao hD an hg args az as ah ab a1 al a0;obtain rfl:dV=.none:=Dflts.none hD hdf;obtain rfl:kV=.none:=Dflts.noKw hD;obtain⟨a,vs,ns,rfl,rfl,aj,aa,ai⟩:=Att.script_of hn ah al;refine enter_call (codeAny_mono (call w s₀ s₁ mg mb fa o pm cd doc a vs ns G Y ho (fd_plain hd) ao an aj aa ai (gS ab) hg) λr s' hq=>?_);obtain⟨rfl,h2,h3,h4⟩:=hq;exact⟨.inl ⟨.bool true,.bool true,[],rfl,λ_=>rfl,.bool true,Att.post_true l _,λ_=>⟨List.Pairwise.nil,λ_ hm=>(nomatch hm)⟩⟩,h2,h3,h4⟩
end DLH
namespace DL
open PySem PySem.Spec PyProof.Rows L2
theorem walkB{l:PySem.W.OpenLaw}{k:Nat}{q:Program}{loose:Zb}{XP:(Str->Zd)->Heap->Prop}{YP:World->Heap->Prop}{d:DefRec}{K:Params->PySem.W.Frag}{x:Str}
    (hn:l.most=some 63) (hdf:d.params.defaults=[]) (hr:fO k PySem.callerA) (hY:∀(w:World) (h:Heap),YP w h->(K w.params).In h)
    (F:∀(w:World) (mg:Str->Zd) (fa:Addr) (h:Heap),(K w.params).In h->h.Ns mainGlobals mg->mg d.name=some (.ref fa) ->
      ∃fd:FuncData,(∀(s:Shared) (u:Value),BindsTo s fd ⟨[u],[]⟩ [(x,u)])/\∀base:Heap,(K w.params).In base->base.Ns mainGlobals mg->kT l.prog w (K w.params) mg base CX0 k fa fd [x] (y7 (K w.params))) :
    PySem.W.WalkO q loose XP YP l.row.toRowW d [] (λf vs=>PySem.call f vs):=by
  refine DLH.attach_callB hn hdf λw s₀ s₁ mg mb fa o pm cd doc a vs ns G Y ho hd hcd hmg hobj hints hlen hbits hg=>?_;have KX:=hY w _ Y;obtain⟨fd,hb,hF⟩:=F w mg fa _ KX G.T.g hmg;exact u5 KX G.T.g G.T.b G.T.builtins G.T.nolimit hg hobj hints (FB hlen (by decide)) hr hF hb (λH hO hS=>⟨a,ns,rfl,hS,hO,hlen,hbits,λ_=>rfl⟩) λH e s' z=>z
end DL
namespace DL
open PySem PySem.Spec PyProof.Rows L2
variable {X:Cx} {elt iter:Expr} {ifs:List Expr} {scope:Scope} {pos:Pos} {wi:TI} {g:TG} {tc:TT} {te:TE}
def uh(ifs:List Expr)(env:Env):Sem Bool:=forIn ifs true λc r=>if r=true then do let ok<-isTrue c env (eval c env);pure (ForInStep.yield ok) else pure (ForInStep.yield r)
def PF(X:Cx)(ifs:List Expr)(t:TT):Prop :=
 ∀(pins:List (Addr×Obj)) (s:Shared) (σ:L2.St) (H:Hp) (Q:Bool->Hp->Prop),Inv X pins σ H s->t σ H Q->wpAny (model X.prog X.w) X.A (uh ifs X.env) (TP X pins σ Q) X.xe s
theorem Bz:PF X [] (λ_ H Q=>Q true H):=λ_ _ _ H _ I h=>wpAny_tests_nil ⟨H,I,h⟩
theorem Bj{c:Expr}{t:TT}(h:PT X c t):PF X [c] t:=λpins s σ H Q I q=>wpAny_tests_one (h pins s σ H Q I q)
theorem eB{prog:Program}{w:World}{A:Around}{R:Result->Shared->Prop}{s:Shared}{target:Expr}{it acc:Value}{env:Env}(I:Nat->Shared->Prop)
    (turn:∀n s,I n s->wpAny (model prog w) A (pyNext it) (λr s₁=>match r with
      | none=>R (.ok .next) s₁
      | some v=>wpAny (model prog w) A (letOwnedTupleGo target it v) (λ_ s₁'=>wpAny (model prog w) A (assign target env v) (λ_ s₂ =>
          wpAny (model prog w) A (uh ifs env) (λok s₃ =>
            if ok=true then wpAny (model prog w) A (eval elt env) (λx s₄ =>
              wpAny (model prog w) A (call (.builtin "list.append") [acc,x]) (λ_ s₅=>∃m,m<n/\I m s₅) (λ_ _=>False) s₄) (λ_ _=>False) s₃
            else ∃m,m<n/\I m s₃) (λ_ _=>False) s₂) (λ_ _=>False) s₁') (λ_ _=>False) s₁) (λ_ _=>False) s)
    (n:Nat) (h:I n s) :
    codeAny (model prog w) A (.compLoop (.ListComp elt [⟨target,iter,ifs,0⟩] scope pos) 0 it acc env) R s:=by
  refine codeAny_loop rfl I (λn s hI=>?_) n h;show wpAny _ A ((compTurn (.ListComp elt [⟨target,iter,ifs,0⟩] scope pos) 0 it acc env).onRaise (λx=>do noteFrame x env;theTreesLotGoes x)) _ _ s;refine wpAny_noted ?_;rw[compTurn_list];refine FA (Ib (FA (GI (turn n s hI) (λr s₁ h₁=>?_) λ_ _ h'=>h'.elim)))
  cases r with
  | none=>exact FQ h₁
  | some v =>
    refine FA (GI h₁ (λ_ s₁' h₁'=>?_) λ_ _ h'=>h'.elim);refine FA (GI h₁' (λ_ s₂ h₂=>FA (GI h₂ (λok s₃ h₃=>?_) λ_ _ h'=>h'.elim)) λ_ _ h'=>h'.elim)
    cases ok with
    | false=>exact FQ ⟨rfl,h₃⟩
    | true =>
      exact FA (FA (GI h₃ (λx s₄ h₄=>FA (GI h₄ (λ_ s₅ h₅=>FQ (FQ ⟨rfl,h₅⟩)) λ_ _ h'=>h'.elim)) λ_ _ h'=>h'.elim))
theorem kP:∀ {names:List (Str×NameKind)} {n:Nat} {acc:List (Str×Addr)},cellsFrom n names acc=cellsFrom n names []++acc
 | [],_,_=>rfl
 | (x,k)::r,n,acc=>by
  unfold cellsFrom
  by_cases h:(k==NameKind.cell)=true
  ·rw[FP h,FP h,kP (names:=r) (acc:=(x,n)::acc),kP (names:=r) (acc:=[(x,n)]),HS];rfl
  ·rw[FN h,FN h];exact kP
theorem nO{x:Str}{c:Addr}:∀ {names:List (Str×NameKind)} {n:Nat} {acc:List (Str×Addr)},(x,c)∈cellsFrom n names acc->(x,c)∈acc\/(x,NameKind.cell)∈names
 | [],_,_,h=>.inl h
 | (y,k)::r,n,acc,h=>by
  unfold cellsFrom at h
  by_cases hk:(k==NameKind.cell)=true
  ·rw[FP hk] at h
   rcases nO h with z | z
   ·rcases FJ.mp z with e | e
    ·cases e;rw[eq_of_beq hk];exact .inr (FD ..)
    ·exact .inl e
   ·exact .inr (Fz _ z)
  ·rw[FN hk] at h;exact(nO h).imp id (Fz _)
theorem vD{M:Model}{A:Around}{E:Value->Shared->Prop}{s:Shared}{globals:Addr}{cl:List (Str×Addr)}{qual:Str}{func:Option Addr}{code:Value}{outer:Env}{bs:Addr}{Q:Env->Shared->Prop}
    (q:∀h',h'.Ns s.heap.objs.size (λ_=>none)->(∀b o,s.heap.get? b=some o->h'.get? b=some o)->(∀x c,(x,c)∈cellsFrom (s.heap.objs.size+1) scope.names []->h'.IsCell c none/\s.heap.objs.size+1<=c)->((cellsFrom (s.heap.objs.size+1) scope.names []).Pairwise λx y=>x.2≠y.2) ->
      Q (newEnv scope s.heap.objs.size globals (cellsFrom (s.heap.objs.size+1) scope.names []++cl) qual func code (some outer) bs) { s with heap:=h' }):wpAny M A (newFunctionEnv scope globals cl [] qual func code (some outer) bs) Q E s:=by
  unfold newFunctionEnv;refine FA (wpAny_alloc (FA (wpAny_layCells _ (λname kind cells=>by cases hkc:kind==NameKind.cell<;>simp[hkc]) _ _ _ _ ?_)))
  have ok:=cellsFrom_ok scope.names (s.heap.push { cls:=.type "dict",data:=.dict #[] }) (s.heap.objs.size+1) [] ⟨λ_ _ hm=>(nomatch hm),List.Pairwise.nil⟩ (by rw[GR];exact FH _)
  rw[GR] at ok;rw[show ({ s with heap:=s.heap.push { cls:=.type (if (some outer).isSome=true then "dict" else "frame"),data:=.dict #[] } }:Shared).heap.objs.size=s.heap.objs.size+1 from GR ..,kP];exact FA (FQ (FQ (q _ ((Heap.Ns.new s.heap (.type "dict")).keeps (pushCells_keeps _ _)) (λb o e=>pushCells_keeps _ _ b o (Heap.get?_push_of_some _ e)) (λx c h=>ok.empty x c h) ok.apart)))
def cO(X:Cx)(N':Zb)(scope:Scope)(cl:List (Str×Addr))(s2:Shared)(H2:Hp)(C:Addr)(fp:List Addr)(pn:List (Addr×Obj)):Cx where
 prog:=X.prog
 w:=X.w
 K:=X.K
 mg:=X.mg
 base:=X.base
 A:=X.A
 N:=N'
 s₀:=s2
 H₀:=H2
 env:=compEnvC scope (cellsFrom (C+1) scope.names []++cl) C X.env
 outer:=X.stack
 stack:=X.stack
 ex:=fp
 fn:=λx=>scope.names.lookup x==some .cell
 calm:=X.calm
 pn:=pn
 xe:=λ_ _=>False
def sf(nt:Nat)(caps:List (Nat×Str))(σ:L2.St):L2.St:=List.replicate nt none++caps.map λp=>(σ[p.1]?).join
def Ad(wi:TI)(nt:Nat)(caps:List (Nat×Str))(g:TG)(tc:TT)(te:TE):TE:=λσ H Q=>wi σ H λJ H1=>∀p,H1 p=none ->
 ∃W:Nat->Nat->Zf->L2.St->Hp->Prop,(∃m,W 0 m [] (sf nt caps σ) (EW H1 p (.lst [])))/\∀i m xs σ' H',W i m xs σ' H'->(J.stop i H'/\Q (.ref p) H')\/(J.go i H'/\∀x H2,J.yld i H' x H2 ->
  g x σ' H2 λσ2 H3=>tc σ2 H3 λb H4=>if b=true then te σ2 H4 λy H5=>H5 p=some (.lst xs)/\xs.length<sizeLine/\∃m',m'<m/\W (i+1) m' (xs++[y]) σ2 (EW H5 p (.lst (xs++[y]))) else ∃m',m'<m/\W (i+1) m' xs σ2 H4)
theorem og{tgt:Expr}{cl:List (Str×Addr)}(tn:Zb)(caps:List (Nat×Str))
    (hcalm:X.calm=true) (hclos:closureFor scope X.env=pure cl) (hcell:∀p∈caps,(p.2,NameKind.cell)∉scope.names) (hkind:scope.kind=.function) (hnames:∀y∈scope.names,y.2=.local->scope.names.lookup y.1=some .local)
    (hcl:∀x c,cl.lookup x=some c->X.env.cells.lookup x=some c) (hhas:∀(n:Nat) x,((relabel scope X.env).names.lookup x=some .cell\/(relabel scope X.env).names.lookup x=some .free)->∃c,(cellsFrom n scope.names []++cl).lookup x=some c)
    (hcap:∀p∈caps,X.N[p.1]?=some p.2/\X.env.scope.names.lookup p.2=some .cell/\((relabel scope X.env).names.lookup p.2=some .cell\/(relabel scope X.env).names.lookup p.2=some .free))
    (hi:PI X.nox tgt iter wi)
    (hb:∀s2 H2 C fp pn,PG (cO X (tn++caps.map (·.2)) scope cl s2 H2 C fp pn) tgt g/\PF (cO X (tn++caps.map (·.2)) scope cl s2 H2 C fp pn) ifs tc/\PE (cO X (tn++caps.map (·.2)) scope cl s2 H2 C fp pn) elt te)
    (hs:∀x,foldedSetIterable iter X.env x=pure x:=by intro _;rfl)
    {posF:Pos} {use:Option (Value->Sem Unit)} {Qf:Value->Shared->Prop} (pins:List (Addr×Obj)) (s:Shared) (σ:L2.St) (H:Hp) (Q:VK) (I:Inv X.nox pins σ H s) (h:Ad wi tn.length caps g tc te σ H Q)
    (fin:∀p C m4 H3 s4,Inv X.nox pins σ H3 s4->s4.heap.Ns C m4->wq X.nox pins H3 C->Q (.ref p) H3->compPost (model X.prog X.w) X.A (λ_ _=>False) use Qf (.ref p) C (.ok .next) s4) :
    wpAny (model X.prog X.w) X.A (comprehension (.ListComp elt [⟨tgt,iter,ifs,0⟩] scope pos) scope X.env posF (newList []) false (eval iter X.env) use) Qf (λ_ _=>False) s:=by
  refine wpAny_comprehension_free (use:=use) rfl hs hclos hkind hnames (GI (hi pins s σ H _ I h) (λx s₁ h₁=>GI h₁ (λitv s₂ h₂=>?_) λ_ _ e=>e) λ_ _ e=>e);obtain⟨it,fp,a7,J,H1,rfl,I1,T,st,ah,q⟩:=h₂;refine GJ (vD λh₁ hns₁ hkp hcs hap=>?_)
  dsimp only at hns₁ hkp hcs hap ⊢
  generalize hH2:s₂.heap.push { cls:=.type "list",dict:=none,data:=.seq ([]:Zc).toArray }=Hq at hns₁ hkp hcs hap ⊢
  have hC:Hq.objs.size=s₂.heap.objs.size+1:=by rw[<- hH2,GR]
  generalize hCe:Hq.objs.size=C at hns₁ hcs hap hC ⊢
  generalize hpe:s₂.heap.objs.size=p at hC ⊢
  obtain⟨m1,hns₁⟩:∃m,h₁.Ns C m:=⟨_,hns₁⟩;have b7:p≠C:=Gb (by rw[hC];exact Nat.lt_succ_self _);have ao:∀b,b<s₂.heap.objs.size->b≠C/\b≠p:=λb hb=>⟨Gb (by rw[hC,<- hpe];exact GK hb),Gb (by rw[<- hpe];exact hb)⟩;have a0:s₂.heap.objs.size<=p:=Nat.le_of_eq hpe;have ab:s₂.heap.objs.size<=C:=by rw[hC,<- hpe];exact Nat.le_succ _
  have an:∀b o,s₂.heap.get? b=some o->h₁.get? b=some o:=λb o e=>hkp b o (hH2 ▸ Heap.get?_push_of_some _ e)
  have bp:h₁.get? p=some { cls:=.type "list",data:=.seq ([]:Zc).toArray 0 }:=by
    refine hkp p _ ?_;rw[<- hpe];exact hH2 ▸ Heap.get?_push_size _ rfl
  generalize hown:cellsFrom (C+1) scope.names []=own at hcs hap ⊢
  have look:∀x c,(own++cl).lookup x=some c->(x,c)∈own\/cl.lookup x=some c:=λx c e=>by
    rw[List.lookup_append] at e
    cases z:own.lookup x with
    | some d=>rw[z] at e;cases e;exact .inl (mem_of_lookup z)
    | none=>rw[z] at e;exact .inr e
  have bo:∀pr∈caps,own.lookup pr.2=none:=λpr hp=>by
    cases z:own.lookup pr.2 with
    | none=>rfl
    | some d =>
      rcases nO (hown ▸ mem_of_lookup z) with e | e
      · cases e
      · exact absurd e (hcell pr hp)
  have as:∀x c,(x,c)∈own->C<c:=λx c e=>(hcs x c e).2
  have a5:H1 p=none:=I1.hok.fresh a0
  have az:H1 C=none:=I1.hok.fresh ab
  obtain⟨W,⟨m0,w0⟩,bz⟩:=q p a5;have bd:∃X',X'=cO X (tn++caps.map (·.2)) scope cl s₂ H1 C fp (X.pn++pins):=⟨_,rfl⟩;obtain⟨X',aa⟩:=bd;have ba:∀b∈frs X.stack,b=X.env.locals\/b∈X.fs:=λb hb=>FJ.mp (I1.stkSub b hb);have al:∀b∈fp,b<s₂.heap.objs.size:=λb hb=>let ⟨_,e,_⟩:=T.obj _ _ st b hb;FT e;have bc:∀b∈fp,b∉frs X.stack:=λb hb z=>(ba b z).elim (λe=>(ah b hb).2.1 e) λe=>(ah b hb).2.2.1 e;have aj:∀x c,cl.lookup x=some c->c<s₂.heap.objs.size/\H1 c=none:=λx c e=>by
    obtain⟨v,hv⟩:=I1.cell x c (hcl x c e);exact⟨hv.lt,I1.freeC x c (hcl x c e)⟩
  have ai:∀x c,(x,c)∈own->∀b,b<s₂.heap.objs.size->c≠b:=λx c e b hb z=>absurd (F9 hb ab) (Nat.not_lt.mpr (G5 (by rw[<- z];exact as x c e)))
  have ok:X'.Ok:=by
    subst aa;have o:=I1.ok
    exact { mod:=o.mod
            kind:=by show (relabel scope X.env).kind=.function;exact hkind
            glob:=o.glob
            blt:=o.blt
            above:=ab
            inj:=λx y c h1 h2=>by
              replace h1:=look x c (hown ▸ h1);replace h2:=look y c (hown ▸ h2)
              rcases h1 with h1 | h1<;>rcases h2 with h2 | h2
              · exact name_of_addr hap h1 h2
              · exact absurd rfl (ai x c h1 c (aj y c h2).1)
              · exact absurd rfl (ai y c h2 c (aj x c h1).1)
              · exact o.inj x y c (hcl x c h1) (hcl y c h2)
            has:=λx hx=>hhas _ x hx
            cab:=λx c h1 h2=>by
              obtain⟨d,hd⟩:=kf (sc:=scope) (n:=C+1) (eq_of_beq h1);have h2:(cellsFrom (C+1) scope.names []++cl).lookup x=some c:=h2;rw[List.lookup_append,hd] at h2
              cases h2
              exact FB ab (G5 (as x _ (hown ▸ mem_of_lookup hd)))
            hd:=o.hd
            frames:=o.frames
            stk:=.inl rfl
            exf:=λb hb=>⟨(ao b (al b hb)).1,λx c e=>(look x c (hown ▸ e)).elim (λz=>ai x c z b (al b hb)) λz=>(ah b hb).2.2.2.2.1 x c (hcl x c z)⟩
            bs:=λb ob e=>I1.bs b ob e
            bsz:=FB o.bsz I1.sz
            noex:=λb ob e hb=>by
              obtain⟨_,_,_,hh,_⟩:=ah b hb
              rcases hh with hh | hh
              · exact o.noex b ob e hh
              · exact absurd (FT (I1.ok.bs b ob e).1) (Nat.not_lt.mpr hh)
            exfs:=bc
            funs:=I1.stack
            frf:=I1.stkFree }
  have be:∀(m:Str->Zd) (i:Nat) (x:Str) (v:V),X'.N[i]?=some x->(sf tn.length caps σ)[i]?=some (some v)->Vis X'.env.scope x->∃u,bB v u/\Look X'.env h₁ m x u:=by
    subst aa;intro m i x v hN hσ hv;have hN:(tn++caps.map (·.2))[i]?=some x:=hN;unfold sf at hσ
    by_cases hi:i<tn.length
    · rw[List.getElem?_append_left (by rw[FX];exact hi),List.getElem?_replicate,FP hi] at hσ
      cases hσ
    · rw[List.getElem?_append_right (by rw[FX];omega),FX] at hσ;rw[List.getElem?_append_right (by omega)] at hN;rw[List.getElem?_map] at hσ hN
      cases hc:caps[i-tn.length]? with
      | none=>rw[hc] at hN;cases hN
      | some pr =>
        rw[hc] at hN hσ;have hN:pr.2=x:=FU hN;have hσ:(σ[pr.1]?).join=some v:=FU hσ;obtain⟨c1,c2,c3⟩:=hcap pr (FM hc);subst hN;have b3:σ[pr.1]?=some (some v):=by
          cases z:σ[pr.1]? with
          | none=>rw[z] at hσ;cases hσ
          | some o=>rw[z] at hσ;exact GQ some hσ
        obtain⟨m1,cg,cd⟩:=I1.loc;obtain⟨u,ru,lk⟩:=cd pr.1 pr.2 v c1 b3 (.inr (.inl c2));refine⟨u,ru,.inr ⟨c3,?_⟩⟩
        rcases lk with⟨k,_⟩ | ⟨_,c,ec,ic⟩
        · have k:X.env.scope.names.lookup pr.2=some .local :=k
          rw[c2] at k
          cases k
        · obtain⟨c',bm⟩:=hhas (C+1) pr.2 c3;have bi:=bm;rw[hown,List.lookup_append,bo pr (FM hc)] at bi;have e1:=hcl _ _ bi;have ec:X.env.cells.lookup pr.2=some c:=ec;rw[ec] at e1
          cases e1
          exact⟨c,bm,ic.keeps an⟩
  have b4:Un (frs X.stack) fp H1 (EW H1 p (.lst [])) s₂.heap h₁:=Un.laid an a0 a5
  have I4:∀tk,Inv X' [] (sf tn.length caps σ) (EW H1 p (.lst [])) { s₂ with heap:=h₁,toks:=tk }:=λtk=>by
    have hN:X'.N=tn++caps.map (·.2):=by rw[aa];rfl
    refine⟨ok,?_,I1.bare,?_,⟨m1,?_,λi x v e1 e2 e3=>?_⟩,λx c e=>?_,?_,λx c e=>?_,λpr hp=>?_,?_,?_⟩
    · rw[aa];rfl
    · rw[aa];exact b4
    · rw[aa];exact hns₁
    · exact be _ i x v e1 e2 e3
    · rw[aa] at e
      rcases look x c (hown ▸ e) with e | e
      · exact⟨_,(hcs x c e).1⟩
      · obtain⟨v,hv⟩:=I1.cell x c (hcl x c e);exact⟨v,hv.keeps an⟩
    · rw[aa];show EW H1 p (.lst []) C=none;rw[aJ (Hl b7)];exact az
    · rw[aa] at e;show EW H1 p (.lst []) c=none
      rcases look x c (hown ▸ e) with e | e
      · have:=as x c e
        rw[aJ (λz=>Gq p (Nat.lt_trans (hC ▸ Nat.lt_succ_self p) (z ▸ this)))];exact I1.hok.fresh (FB ab (G5 this))
      · have hc:=aj x c e
        rw[aJ (ao c hc.1).2];exact hc.2
    · rw[aa] at hp;have hp:pr∈(X.pn++pins)++[]:=hp;rw[Gj] at hp;obtain⟨e,n,nl,nf,d⟩:=I1.pin pr hp;have bl:=FT e;refine⟨an _ _ e,?_,?_,λz=>?_,d⟩
      · rw[aJ (ao _ bl).2];exact n
      · rw[aa];exact(ao _ bl).1
      · rw[aa] at z;exact(ba _ z).elim nl nf
    · have e1:X'.prog=X.prog:=by rw[aa];rfl
      have e2:X'.w=X.w:=by rw[aa];rfl
      rw[e1,e2];exact I1.hok.laid an a0 ⟨GN _,[],0,.nil,bp⟩
    · rw[hN];unfold sf;rw[FF,FF,FX,Fy,Fy]
  have bb:∀H',(∀b∈fp,H' b=none)->∀b∈fp,wq X' [] H' b:=λH' hn b hb=>by
    rw[aa];refine⟨hn b hb,(ao b (al b hb)).1,bc b hb,.inl hb,λx c e=>(look x c (hown ▸ e)).elim (λz=>ai x c z b (al b hb)) λz=>(ah b hb).2.2.2.2.1 x c (hcl x c z),λpr hp=>?_⟩;have hp:pr∈(X.pn++pins)++[]:=hp;rw[Gj] at hp;exact(ah b hb).2.2.2.2.2 pr hp
  obtain⟨hg,hf,he⟩:=hb s₂ H1 C fp (X.pn++pins);rw[<- aa] at hg hf he;have p1:X'.prog=X.prog:=by rw[aa];rfl
  have p2:X'.w=X.w:=by rw[aa];rfl
  have p3:X'.K=X.K:=by rw[aa];rfl
  have p4:X'.calm=true:=by rw[aa];exact hcalm
  have p5:X'.env=compEnvC scope (own++cl) C X.env:=by rw[aa,<- hown];rfl
  have p6:X'.A=X.A:=by rw[aa];rfl
  have p7:X'.xe=λ_ _=>False:=by rw[aa];rfl
  have bn:a7 0 h₁:=T.keep _ _ _ st λb hb o e=>an b o e
  have bw:∀tk,codeAny (model X.prog X.w) X.A (.compLoop (.ListComp elt [⟨tgt,iter,ifs,0⟩] scope pos) 0 (.ref it) (.ref p) (compEnvC scope (own++cl) C X.env))
      (compPost (model X.prog X.w) X.A (λ_ _=>False) use Qf (.ref p) C) { s₂ with heap:=h₁,toks:=tk }:=λtk=>by
    refine eB (λn s'=>∃i xs σ' H',Inv X' [] σ' H' s'/\a7 i s'.heap/\(∀b∈fp,H' b=none)/\W i n xs σ' H') ?_ m0 ⟨0,[],_,_,I4 tk,bn,λb hb=>?_,w0⟩
    · rintro n s3 ⟨i,xs,σ3,H3,I3,st3,fr3,w3⟩
      rcases bz i n xs σ3 H3 w3 with⟨b0,qn⟩ | ⟨go,step⟩
      · have q1:=T.done X' p1 p2 p3 p4 i [] s3 _ H3 (λ_ _=>False) I3 (bb H3 fr3) st3 b0
        rw[p6] at q1;refine E7 q1 λr s4 ⟨hr,I4'⟩=>?_;subst hr;obtain⟨m4,bj,_⟩:=I4'.loc;rw[p5] at bj;have a4:=I4'.base;rw[aa] at a4;have a4:Un (frs X.stack) fp H1 H3 s₂.heap s4.heap:=a4;have b2:H3 C=none:=by
          have z:=I4'.free
          rw[p5] at z;exact z
        have b1:Fl X.prog X.w H3 s4.heap:=by
          have hk:=I4'.hok
          rw[p1,p2] at hk;exact hk
        have b5:s4.os=s₂.os:=by
          have z:=I4'.os
          rw[aa] at z;exact z
        have I9:=I1.call' (s':=s4) (ch:=fp) b5 a4 b1 I4'.bare (λb hb=>by
          obtain⟨_,f1,f2,f3,f4,f5⟩:=ah b hb
          exact⟨f3,f1,f4,f5⟩)
        exact fin p C m4 H3 s4 I9 bj ⟨b2,(I1.fpOk ab az).2⟩ qn
      · have q1:=T.item X' p1 p2 p3 p4 i [] s3 _ H3 (λ_ _=>False) I3 (bb H3 fr3) st3 go
        rw[p6] at q1;refine E7 q1 λr s4 ⟨u,hr,h4⟩=>?_;subst hr;refine E7 h4 λ_ s5 ⟨x,H5,I5,r5,y5,st5,fr5⟩=>?_;have b6:=I5.pinned (bb H5 fr5) (T.obj _ _ st5);have q5:=hg _ s5 _ H5 x u _ b6 r5 (step x H5 y5);rw[p1,p2,p5,p6,p7] at q5;refine E7 q5 λ_ s6 ⟨σ6,H6,I6,q6⟩=>?_;have q6:=hf _ s6 σ6 H6 _ I6 q6;rw[p1,p2,p5,p6,p7] at q6;refine E7 q6 λb s7 ⟨H7,I7,q7⟩=>?_;have a6:∀ {s8:Shared} {H8:Hp},Inv X' ([]++lO fp s5.heap) σ6 H8 s8->Inv X' [] σ6 H8 s8/\a7 (i+1) s8.heap/\(∀b∈fp,H8 b=none):=λ{s8 H8} I8=>by
          refine⟨I8.unpinned,T.keep _ _ _ st5 λb hb o e=>(I8.pin (b,o) (FR _ (FR _ (em hb e)))).1,λb hb=>?_⟩;obtain⟨o,e,d⟩:=T.obj _ _ st5 b hb;exact(I8.pin (b,o) (FR _ (FR _ (em hb e)))).2.1
        cases b with
        | false =>
          obtain⟨m',hm,w7⟩:=q7;obtain⟨a1,a2,a3⟩:=a6 I7;exact⟨m',hm,i+1,xs,σ6,H7,a1,a2,a3,w7⟩
        | true =>
          rw[FP rfl];have q8:=he _ s7 σ6 H7 _ I7 q7;rw[p1,p2,p5,p6,p7] at q8;refine E7 q8 λy s8 ⟨yv,H8,I8,ry,hac,hsz,m',hm,w8⟩=>?_;have q9:=lN (X:=X') _ s8 σ6 H8 (.ref p) [yv] (.ref p) [y] (λ_ H9=>H9=EW H8 p (.lst (xs++[yv]))) I8 rfl (.cons ry .nil) ⟨p,xs,yv,rfl,rfl,hac,hsz,rfl⟩;rw[p1,p2,p6,p7] at q9;refine E7 q9 λ_ s9 ⟨_,H9,I9,_,e9⟩=>?_;subst e9;obtain⟨a1,a2,a3⟩:=a6 I9;exact⟨m',hm,i+1,xs++[yv],σ6,_,a1,a2,a3,w8⟩
    · rw[aJ (ao b (al b hb)).2];exact(ah b hb).1
  have L0:=bw s₂.toks
  exact codeAny_compStart_list L0 (T.self _ _ _ _ _ bn L0)
theorem yT{tgt:Expr}{cl:List (Str×Addr)}(tn:Zb)(caps:List (Nat×Str))
  (hcalm:X.calm=true) (hclos:closureFor scope X.env=pure cl) (hcell:∀p∈caps,(p.2,NameKind.cell)∉scope.names) (hkind:scope.kind=.function) (hnames:∀y∈scope.names,y.2=.local->scope.names.lookup y.1=some .local)
  (hcl:∀x c,cl.lookup x=some c->X.env.cells.lookup x=some c) (hhas:∀(n:Nat) x,((relabel scope X.env).names.lookup x=some .cell\/(relabel scope X.env).names.lookup x=some .free)->∃c,(cellsFrom n scope.names []++cl).lookup x=some c)
  (hcap:∀p∈caps,X.N[p.1]?=some p.2/\X.env.scope.names.lookup p.2=some .cell/\((relabel scope X.env).names.lookup p.2=some .cell\/(relabel scope X.env).names.lookup p.2=some .free))
  (hi:PI X.nox tgt iter wi)
  (hb:∀s2 H2 C fp pn,PG (cO X (tn++caps.map (·.2)) scope cl s2 H2 C fp pn) tgt g/\PF (cO X (tn++caps.map (·.2)) scope cl s2 H2 C fp pn) ifs tc/\PE (cO X (tn++caps.map (·.2)) scope cl s2 H2 C fp pn) elt te)
  (hs:∀x,foldedSetIterable iter X.env x=pure x:=by intro _;rfl) :
  PE X.nox (.ListComp elt [⟨tgt,iter,ifs,0⟩] scope pos) (Ad wi tn.length caps g tc te):=by
 intro aa s σ H Q I h;rw[eval_ListComp];refine og tn caps hcalm hclos hcell hkind hnames hcl hhas hcap hi hb hs (use:=none) aa s σ H Q I h λp C m4 H3 s4 I9 hm4 hf q=>?_;obtain⟨f0,f1,f2,f3,f4,f5⟩:=hf;exact⟨m4,hm4,λh' hs'=>⟨.ref p,H3,I9.turned (t':=s4.toks) (λb o hb e=>hs'.extBut b o hb e) f0 f1 f3 f4 f5,rfl,q⟩⟩
theorem kK{tgt:Expr}{cl:List (Str×Addr)}(tn:Zb)(caps:List (Nat×Str))
  (hcalm:X.calm=true) (hclos:closureFor scope X.env=pure cl) (hcell:∀p∈caps,(p.2,NameKind.cell)∉scope.names) (hkind:scope.kind=.function) (hnames:∀y∈scope.names,y.2=.local->scope.names.lookup y.1=some .local)
  (hcl:∀x c,cl.lookup x=some c->X.env.cells.lookup x=some c) (hhas:∀(n:Nat) x,((relabel scope X.env).names.lookup x=some .cell\/(relabel scope X.env).names.lookup x=some .free)->∃c,(cellsFrom n scope.names []++cl).lookup x=some c)
  (hcap:∀p∈caps,X.N[p.1]?=some p.2/\X.env.scope.names.lookup p.2=some .cell/\((relabel scope X.env).names.lookup p.2=some .cell\/(relabel scope X.env).names.lookup p.2=some .free))
  (hi:PI X.nox tgt iter wi)
  (hb:∀s2 H2 C fp pn,PG (cO X (tn++caps.map (·.2)) scope cl s2 H2 C fp pn) tgt g/\PF (cO X (tn++caps.map (·.2)) scope cl s2 H2 C fp pn) ifs tc/\PE (cO X (tn++caps.map (·.2)) scope cl s2 H2 C fp pn) elt te)
  (hs:∀x,foldedSetIterable iter X.env x=pure x:=by intro _;rfl) {i:Nat} {y:Str} {pos' pos2:Pos} (hN:X.N.Nodup) (hi':X.N[i]?=some y) (hx:Loc X.env.scope y) (hsw:swapsWith (.ListComp elt [⟨tgt,iter,ifs,0⟩] scope pos) (some (.Name y pos')) pos2.line X.env=pure true) (hf:X.fn y=true\/X.env.scope.names.lookup y=some .local) :
  PS X.nox (.Assign [.Name y pos'] (.ListComp elt [⟨tgt,iter,ifs,0⟩] scope pos) pos2) (tAsg (Ad wi tn.length caps g tc te) (qo i)):=by
 intro aa s σ H D I h;show wpAny (model X.prog X.w) X.A (exec (.Assign [.Name y pos'] (.ListComp elt [⟨tgt,iter,ifs,0⟩] scope pos) pos2) X.env) _ _ s;rw[exec_Assign_Name_used _ _ _ _ hsw];refine FA (Ib (FA ?_));show wpAny _ _ (do let _<-comprehension (.ListComp elt [⟨tgt,iter,ifs,0⟩] scope pos) scope X.env _ (newList []) false (eval iter X.env) (some (assign (.Name y pos') X.env))) _ _ s;refine FA (GI (og tn caps hcalm hclos hcell hkind hnames hcl hhas hcap hi hb hs (use:=some (assign (.Name y pos') X.env)) (Qf:=λ_ s'=>SP X.nox aa D .next s') aa s σ H _ I h λp C m4 H3 s4 I9 hm4 hfp q=>?_) (λ_ s' hq=>FQ (FQ hq)) λ_ _ e=>e);obtain⟨f0,f1,f2,f3,f4,f5⟩:=hfp;show wpAny _ _ (assign (.Name y pos') X.env (.ref p)) _ _ s4;refine wpAny_assign_Name (mi (X:=X.nox) I9 hN hi' hx (v:=.ref p) rfl (λs5 I5 ⟨a,sb,ha⟩=>?_) hf);have ab:C≠a:=by
  rcases ha with rfl | ha
  ·exact f1
  ·exact λz=>f4 y a ha z.symm
 refine⟨m4,hm4.sameBut sb ab,λh' hs'=>⟨_,H3,I5.turned (t':=s5.toks) (λb o hb e=>hs'.extBut b o hb e) f0 f1 f3 f4 f5,q⟩⟩
end DL
namespace DL
open PySem PySem.Spec PyProof.Rows L2
variable {i j:Bool} {T:String}
theorem fL:bootBuiltins "len"=some (.builtin "len"):=by decide +kernel
theorem yj:bootBuiltins "abs"=some (.builtin "abs"):=by decide +kernel
theorem ml:bootBuiltins "isinstance"=some (.builtin "isinstance"):=by decide +kernel
theorem D5:bootBuiltins "max"=some (.builtin "max"):=by decide +kernel
theorem jQ:bootBuiltins "sorted"=some (.builtin "sorted"):=by decide +kernel
theorem Bt:bootBuiltins "int"=some (.type "int"):=by decide +kernel
theorem w4:bootBuiltins "bool"=some (.type "bool"):=by decide +kernel
theorem eZ:bootBuiltins "tuple"=some (.type "tuple"):=by decide +kernel
theorem De:bootBuiltins "list"=some (.type "list"):=by decide +kernel
theorem A8:bootBuiltins "dict"=some (.type "dict"):=by decide +kernel
section
variable {X:Cx}
theorem aL.imp{K:PySem.W.Frag}{f g:Zh->(D->Prop)->Prop}{vs:Zf}{H:Hp}{Q:VK}(h:∀ds R,f ds R->g ds R)(p:aL K f vs H Q):aL K g vs H Q :=
 let ⟨M,ds,R,m,rs,hf,k⟩:=p;⟨M,ds,R,m,rs,h ds R hf,k⟩
def C2:Zh->(D->Prop)->Prop
 | [.tup xs,.tup ys],R=>xs≠[]/\ys≠[]/\xs.length+ys.length<=9000/\R (.tup (xs++ys))
 | _,_=>False
theorem v6:∀ {d0:Zh} {R:D->Prop},C2 d0 R->∃(xs:Zh) (ys:Zh),d0=[.tup xs,.tup ys]/\xs≠[]/\ys≠[]/\xs.length+ys.length<=9000/\R (.tup (xs++ys)):=by walk_at "or"
theorem BK:E9 X (binaryOp .Add) λx y=>aL X.K C2 [x,y] :=
 E9.imp zX λx y H Q ⟨M,ds,R,m,rs,h,k⟩=>by
  replace h:=v6 h;obtain⟨_,_,rfl,h⟩:=h
  ·obtain⟨n1,n2,hz,q⟩:=h;obtain⟨h1,h2⟩:=bF rs;unfold Fo at h1 h2;obtain⟨a,vs,e,l,r⟩:=h1;obtain⟨b,ws,e',l',r'⟩:=h2;have l1:=Reps.length _ _ r;have l2:=Reps.length _ _ r';refine⟨a,b,vs,ws,e,e',l,l',λz=>n1 (G9 (by rw[l1,z];rfl)),small (by rw[<- l1,<- l2];exact hz),λz=>absurd (G9 (by rw[l2,z];rfl)) n2,λ_ p hp=>k _ q _ _ (aE hp _) ?_⟩;unfold Fo;exact⟨p,vs++ws,rfl,Fh.of aD,Reps.kp (Kp.of_same (aE hp _)) _ _ (Reps.append _ _ _ _ r r')⟩
def sB:Zh->(D->Prop)->Prop
 | [.int i,.int j],R=>R (.int (i+j))
 | [.lst xs,.lst ys],R=>xs.length+ys.length<=9000/\R (.lst (xs++ys))
 | [.tup xs,.tup ys],R=>xs≠[]/\ys≠[]/\xs.length+ys.length<=9000/\R (.tup (xs++ys))
 | _,_=>False
theorem vK:∀ {d0:Zh} {R:D->Prop},sB d0 R->((∃(i:Int) (j:Int),d0=[.int i,.int j]/\R (.int (i+j)))\/(∃(xs:Zh) (ys:Zh),d0=[.lst xs,.lst ys]/\xs.length+ys.length<=9000/\R (.lst (xs++ys)))\/(∃(xs:Zh) (ys:Zh),d0=[.tup xs,.tup ys]/\xs≠[]/\ys≠[]/\xs.length+ys.length<=9000/\R (.tup (xs++ys)))):=by walk_at "or"
theorem aN:E9 X (binaryOp .Add) λx y=>aL X.K sB [x,y] :=
 E9.imp (E9.or (E9.or EN D6) BK) λx y H Q ⟨M,ds,R,m,rs,h,k⟩=>by
  replace h:=vK h
  rcases h with⟨_,_,rfl,h⟩ | ⟨_,_,rfl,h⟩ | ⟨_,_,rfl,h⟩
  ·exact .inl (.inl ⟨M,_,R,m,rs,h,k⟩)
  ·exact .inl (.inr ⟨M,_,R,m,rs,h,k⟩)
  ·exact .inr ⟨M,_,R,m,rs,h,k⟩
mutual
def D.dp:D->Nat
 | .tup xs=>D.dps xs+1
 | .lst xs=>D.dps xs+1
 | .fz xs=>D.dps xs+1
 | .dct _ _=>0
 | .fd _ _=>0
 | .fo _ _ _=>0
 | .exn _ _ _=>0
 | .non=>0
 | .bl _=>0
 | .int _=>0
 | .str _=>0
def D.dps:Zh->Nat
 | []=>0
 | x::r=>max (D.dp x) (D.dps r)
end
mutual
def D.nd:D->Bool
 | .tup xs=>D.nds xs
 | .lst xs=>D.nds xs
 | .fz xs=>D.nds xs
 | .dct _ _=>false
 | .fd _ _=>false
 | .fo _ _ _=>false
 | .exn _ _ _=>false
 | .non=>true
 | .bl _=>true
 | .int _=>true
 | .str _=>true
def D.nds:Zh->Bool
 | []=>true
 | x::r=>D.nd x&&D.nds r
end
theorem cu(A:Around):A.in1.units=A.units+1:=rfl
theorem er(n:Nat):((List.range n).all λ_=>true)=true:=by simp
section
variable {pins:List (Addr×Obj)} {σ:L2.St} {H:Hp} {s:Shared} {M:Addr→Prop}
mutual
theorem Cd(I:Inv X pins σ H s):∀(d:D) (A:Around) (v v':V) (u u':Value),d.nd=true->A.units+d.dp<cLine->Fo X.K M H d v->Fo X.K M H d v'->bB v u->bB v' u'->SeqAt.EqAt A s u u' true
 | .non,A,v,v',u,u',_,_,r,r',q,q'=>by
  unfold Fo at r r';subst r r';have:=oG (A:=A) (s:=s) q q' rfl rfl;exact this
 | .bl b,A,v,v',u,u',_,_,r,r',q,q'=>by
  unfold Fo at r r';subst r r';have:=oG (A:=A) (s:=s) q q' rfl rfl;simpa [eqV] using this
 | .int b,A,v,v',u,u',_,_,r,r',q,q'=>by
  unfold Fo at r r';subst r r';have:=oG (A:=A) (s:=s) q q' rfl rfl;simpa [eqV] using this
 | .str b,A,v,v',u,u',_,_,r,r',q,q'=>by
  unfold Fo at r r';subst r r';have:=oG (A:=A) (s:=s) q q' rfl rfl;simpa [eqV] using this
 | .tup ds,A,v,v',u,u',hn,hd,r,r',q,q'=>by
  unfold Fo at r r';obtain⟨a,vs,rfl,sq,rs⟩:=r;obtain⟨b,ws,rfl,ai,ah⟩:=r'
  cases q
  cases q'
  unfold D.dp at hd
  by_cases e:a=b
  ·subst e;exact HC _
  ·obtain⟨ab,r1,t1,_⟩:=I.tuple sq;obtain⟨aa,r2,t2,_⟩:=I.tuple ai;have hs:ab.length=aa.length:=by rw[<- r1.length,<- r2.length,<- Reps.length _ _ rs,<- Reps.length _ _ ah]
   have k:=SeqAt.RcAt.tuples (A:=A) (e:=λ_=>true) t1 t2 (by omega) (eqAt_Ds I ds A.in1 vs ws ab aa hn (by rw[cu];omega) rs ah r1 r2)
   have z:((List.range (min ab.toArray.size aa.toArray.size)).all (λ_=>true)&&ab.toArray.size==aa.toArray.size)=true:=by simp[hs]
   rw[z] at k;exact HH e k
 | .lst ds,A,v,v',u,u',hn,hd,r,r',q,q'=>by
  unfold Fo at r r';obtain⟨a,vs,rfl,_,sq,rs⟩:=r;obtain⟨b,ws,rfl,_,ai,ah⟩:=r'
  cases q
  cases q'
  unfold D.dp at hd
  by_cases e:a=b
  ·subst e;exact HC _
  ·obtain⟨ab,r1,t1,_⟩:=I.list (EX.of sq);obtain⟨aa,r2,t2,_⟩:=I.list (EX.of ai);have hs:ab.length=aa.length:=by rw[<- r1.length,<- r2.length,<- Reps.length _ _ rs,<- Reps.length _ _ ah]
   have k:=SeqAt.RcAt.lists (A:=A) (e:=λ_=>true) t1.isList t2.isList (by simp[hs]) (by omega) (eqAt_Ds I ds A.in1 vs ws ab aa hn (by rw[cu];omega) rs ah r1 r2)
   rw[er] at k;exact HH e k
 | .fz ds,A,v,v',u,u',hn,hd,r,r',q,q'=>by
  unfold Fo at r r';obtain⟨a,vs,rfl,sq,rs⟩:=r;obtain⟨b,ws,rfl,ai,ah⟩:=r'
  cases q
  cases q'
  unfold D.dp at hd
  by_cases e:a=b
  ·subst e;exact HC _
  ·obtain⟨ab,r1,t1,_⟩:=I.list sq.seq;obtain⟨aa,r2,t2,_⟩:=I.list ai.seq;have hs:ab.length=aa.length:=by rw[<- r1.length,<- r2.length,<- Reps.length _ _ rs,<- Reps.length _ _ ah]
   have k:=SeqAt.RcAt.lists (A:=A) (e:=λ_=>true) t1.isList t2.isList (by simp[hs]) (by omega) (eqAt_Ds I ds A.in1 vs ws ab aa hn (by rw[cu];omega) rs ah r1 r2)
   rw[er] at k;exact HH e k
 | .dct ks ds,A,v,v',u,u',hn,_,_,_,_,_=>by unfold D.nd at hn;cases hn
 | .fd ks ds,A,v,v',u,u',hn,_,_,_,_,_=>by unfold D.nd at hn;cases hn
 | .fo o ks ds,A,v,v',u,u',hn,_,_,_,_,_=>by unfold D.nd at hn;cases hn
 | .exn _ _ _,A,v,v',u,u',hn,_,_,_,_,_=>by unfold D.nd at hn;cases hn
theorem eqAt_Ds(I:Inv X pins σ H s):∀(ds:Zh) (A:Around) (vs ws:Zf) (us us':Zc),D.nds ds=true->A.units+D.dps ds<cLine->Reps X.K M H ds vs->Reps X.K M H ds ws->bv vs us->bv ws us' ->
  ∀j (h1:j<us.toArray.size) (h2:j<us'.toArray.size),SeqAt.EqAt A s us.toArray[j] us'.toArray[j] true
 | [],A,vs,ws,us,us',_,_,r,r',q,q',j,h1,h2=>by
  unfold Reps at r;subst r
  cases q
  exact absurd h1 (by simp)
 | d::ds,A,vs,ws,us,us',hn,hd,r,r',q,q',j,h1,h2=>by
  unfold Reps at r r';obtain⟨v,vr,rfl,rv,rs⟩:=r;obtain⟨w',wr,rfl,aa,ab⟩:=r';unfold D.nds at hn;obtain⟨n1,n2⟩:=Gp.mp hn;unfold D.dps at hd
  cases q with
  | @cons _ u0 _ ur qa qb =>
   cases q' with
   | @cons _ u1 _ ur' qa' qb' =>
    cases j with
    | zero=>exact Cd I d A v w' _ _ n1 (by omega) rv aa qa qa'
    | succ j =>
     have z:=eqAt_Ds I ds A vr wr ur ur' n2 (by omega) rs ab qb qb' j (by simpa using h1) (by simpa using h2)
     simpa using z
end
end
theorem xF{i j:Int}:decide (V.int i=V.int j)=decide (i=j):=by rw[nk];exact HW _ _
theorem Be:decide (V.bl i=V.bl j)=decide (i=j):=by rw[uq];exact HW _ _
theorem xG{i j:Str}:decide (V.str i=V.str j)=decide (i=j):=by rw[m7];exact HW _ _
def fEq:Zh->(D->Prop)->Prop
 | [.int i,.int j],R=>R (.bl (decide (i=j)))
 | [.str x,.str y],R=>R (.bl (decide (x=y)))
 | [.bl a,.bl b],R=>R (.bl (decide (a=b)))
 | [.tup xs,.tup ys],R=>(xs=ys/\D.nds xs=true/\D.dps xs<=60)/\R (.bl true)
 | [.lst xs,.lst ys],R=>((xs=ys/\D.nds xs=true/\D.dps xs<=60)/\R (.bl true))\/(xs.length≠ys.length/\R (.bl false))
 | _,_=>False
theorem Ct:∀ {d0:Zh} {R:D->Prop},fEq d0 R->((∃(i:Int) (j:Int),d0=[.int i,.int j]/\R (.bl (decide (i=j))))\/(∃(x:Str) (y:Str),d0=[.str x,.str y]/\R (.bl (decide (x=y))))\/(∃(a:Bool) (b:Bool),d0=[.bl a,.bl b]/\R (.bl (decide (a=b))))\/(∃(xs:Zh) (ys:Zh),d0=[.tup xs,.tup ys]/\(xs=ys/\D.nds xs=true/\D.dps xs<=60)/\R (.bl true))\/(∃(xs:Zh) (ys:Zh),d0=[.lst xs,.lst ys]/\(((xs=ys/\D.nds xs=true/\D.dps xs<=60)/\R (.bl true))\/(xs.length≠ys.length/\R (.bl false))))):=by walk_at "or"
theorem zB{i j:Int}{R:D->Prop}:fEq [.int i,.int j] R=(R (.bl (decide (i=j)))):=rfl
theorem xO{i j:Str}{R:D->Prop}:fEq [.str i,.str j] R=(R (.bl (decide (i=j)))):=rfl
theorem Ci{R:D->Prop}:fEq [.bl i,.bl j] R=(R (.bl (decide (i=j)))):=rfl
theorem yx{i j:Zh}{R:D->Prop}:fEq [.tup i,.tup j] R=((i=j/\D.nds i=true/\D.dps i<=60)/\R (.bl true)):=rfl
theorem hX(hu:X.A.units+64<cLine):E9 X (compareOp .Eq) λx y=>aL X.K fEq [x,y]:=by
 intro aj s σ H x y v u Q I rx ry h;obtain⟨M,ds,R,m,rs,h,k⟩:=h;replace h:=Ct h
 rcases h with⟨_,_,rfl,h⟩ | ⟨_,_,rfl,h⟩ | ⟨_,_,rfl,h⟩ | ⟨_,_,rfl,h⟩ | ⟨_,_,rfl,h⟩
 ·obtain⟨h1,h2⟩:=bF rs
  cases aI h1
  cases aI h2
  refine yM aj s σ H _ _ v u Q I rx ry ⟨rfl,?_⟩;rw[xF];exact k _ h _ H (bM.refl H) (Fo.sc rfl)
 ·obtain⟨h1,h2⟩:=bF rs
  cases bH h1
  cases bH h2
  refine yM aj s σ H _ _ v u Q I rx ry ⟨rfl,?_⟩;rw[xG];exact k _ h _ H (bM.refl H) (Fo.sc rfl)
 ·obtain⟨h1,h2⟩:=bF rs
  cases eE h1
  cases eE h2
  refine yM aj s σ H _ _ v u Q I rx ry ⟨rfl,?_⟩;rw[Be];exact k _ h _ H (bM.refl H) (Fo.sc rfl)
 ·obtain⟨⟨e,hn,hd⟩,h⟩:=h;subst e;obtain⟨h1,h2⟩:=bF rs;unfold Fo at h1 h2;obtain⟨a,vs,rfl,sq,ah⟩:=h1;obtain⟨b,ws,rfl,al,ai⟩:=h2
  cases rx
  cases ry
  obtain⟨ab,r1,t1,_⟩:=I.tuple sq;obtain⟨aa,r2,t2,_⟩:=I.tuple al;have hs:ab.length=aa.length:=by rw[<- r1.length,<- r2.length,<- Reps.length _ _ ah,<- Reps.length _ _ ai]
  refine SeqAt.eq_tupleAt (e:=λ_=>true) t1 t2 (by omega) (eqAt_Ds I _ X.A.in1 vs ws ab aa hn (by rw[cu];omega) ah ai r1 r2) ?_;have z:((List.range (min ab.toArray.size aa.toArray.size)).all (λ_=>true)&&ab.toArray.size==aa.toArray.size)=true:=by simp[hs]
  rw[z];exact⟨.bl true,H,I,rfl,k _ h _ H (bM.refl H) (Fo.sc rfl)⟩
 ·obtain⟨h1,h2⟩:=bF rs;unfold Fo at h1 h2;obtain⟨a,vs,rfl,_,sq,ah⟩:=h1;obtain⟨b,ws,rfl,_,al,ai⟩:=h2
  cases rx
  cases ry
  obtain⟨ab,r1,t1,_⟩:=I.list (EX.of sq);obtain⟨aa,r2,t2,_⟩:=I.list (EX.of al)
  rcases h with⟨⟨e,hn,hd⟩,h⟩ | ⟨ne,h⟩
  ·subst e;have hs:ab.length=aa.length:=by rw[<- r1.length,<- r2.length,<- Reps.length _ _ ah,<- Reps.length _ _ ai]
   refine SeqAt.eq_listAt (e:=λ_=>true) t1.isList t2.isList (by simp[hs]) (by omega) (eqAt_Ds I _ X.A.in1 vs ws ab aa hn (by rw[cu];omega) ah ai r1 r2) ?_;rw[er];exact⟨.bl true,H,I,rfl,k _ h _ H (bM.refl H) (Fo.sc rfl)⟩
  ·refine SeqAt.eq_list_lengthsAt t1.isList t2.isList ?_ (by omega) ⟨.bl false,H,I,rfl,k _ h _ H (bM.refl H) (Fo.sc rfl)⟩;have l1:=r1.length;have l2:=r2.length;have l3:=Reps.length _ _ ah;have l4:=Reps.length _ _ ai;simp only[List.size_toArray,bne_iff_ne,ne_eq];omega
def fNe:Zh->(D->Prop)->Prop
 | [.int i,.int j],R=>R (.bl (!decide (i=j)))
 | [.str x,.str y],R=>R (.bl (!decide (x=y)))
 | [.bl a,.bl b],R=>R (.bl (!decide (a=b)))
 | _,_=>False
theorem A5:∀ {d0:Zh} {R:D->Prop},fNe d0 R->((∃(i:Int) (j:Int),d0=[.int i,.int j]/\R (.bl (!decide (i=j))))\/(∃(x:Str) (y:Str),d0=[.str x,.str y]/\R (.bl (!decide (x=y))))\/(∃(a:Bool) (b:Bool),d0=[.bl a,.bl b]/\R (.bl (!decide (a=b))))):=by walk_at "or"
theorem o_ne(_:X.A.units+64<cLine):E9 X (compareOp .NotEq) λx y=>aL X.K fNe [x,y]:=by
 intro aa s σ H x y v u Q I rx ry h;obtain⟨M,ds,R,m,rs,h,k⟩:=h;replace h:=A5 h
 rcases h with⟨_,_,rfl,h⟩ | ⟨_,_,rfl,h⟩ | ⟨_,_,rfl,h⟩
 ·obtain⟨h1,h2⟩:=bF rs
  cases aI h1
  cases aI h2
  refine zO aa s σ H _ _ v u Q I rx ry ⟨rfl,?_⟩;rw[xF];exact k _ h _ H (bM.refl H) (Fo.sc rfl)
 ·obtain⟨h1,h2⟩:=bF rs
  cases bH h1
  cases bH h2
  refine zO aa s σ H _ _ v u Q I rx ry ⟨rfl,?_⟩;rw[xG];exact k _ h _ H (bM.refl H) (Fo.sc rfl)
 ·obtain⟨h1,h2⟩:=bF rs
  cases eE h1
  cases eE h2
  refine zO aa s σ H _ _ v u Q I rx ry ⟨rfl,?_⟩;rw[Be];exact k _ h _ H (bM.refl H) (Fo.sc rfl)
def fIs:Zh->(D->Prop)->Prop
 | [.bl a,.bl b],R=>R (.bl (decide (a=b)))
 | [.non,.non],R=>R (.bl true)
 | [.tup _,.non],R=>R (.bl false)
 | [.exn _ _ _,.non],R=>R (.bl false)
 | _,_=>False
theorem BP{d0:Zh}{R:D->Prop}(h:fIs d0 R):(∃(a:Bool) (b:Bool),d0=[.bl a,.bl b]/\R (.bl (decide (a=b))))\/(d0=[.non,.non]/\R (.bl true))\/(∃(z1:Zh),d0=[.tup z1,.non]/\R (.bl false))\/(∃(c f:Str) (z1:D),d0=[.exn c f z1,.non]/\R (.bl false)):=by
 rcases d0 with _ | ⟨a,_ | ⟨b,_ | ⟨c,l⟩⟩⟩
 ·exact False.elim h
 ·cases a<;>exact False.elim h
 ·cases a<;>first | exact False.elim h | (cases b<;>first | exact False.elim h | exact .inl ⟨_,_,rfl,h⟩ | exact .inr (.inl ⟨rfl,h⟩) | exact .inr (.inr (.inl ⟨_,rfl,h⟩)) | exact .inr (.inr (.inr ⟨_,_,_,rfl,h⟩)))
 ·cases a<;>first | exact False.elim h | (cases b<;>exact False.elim h)
theorem BO{R:D->Prop}:fIs [.bl i,.bl j] R=(R (.bl (decide (i=j)))):=rfl
theorem AO:E9 X (compareOp .Is) (λx y H Q=>∃a b,x=.bl a/\y=.bl b/\Q (.bl (decide (a=b))) H):=by
 intro aa s σ H x y v u Q I rx ry h;obtain⟨a,b,rfl,rfl,q⟩:=h
 cases rx
 cases ry
 refine wpAny_is_plain rfl ⟨.bl _,H,I,rfl,?_⟩;have e:(Value.bool a==Value.bool b)=decide (a=b):=by cases a<;>cases b<;>rfl
 rw[e];exact q
theorem At:E9 X (compareOp .IsNot) (λx y H Q=>∃a b,x=.bl a/\y=.bl b/\Q (.bl (!decide (a=b))) H):=by
 intro aa s σ H x y v u Q I rx ry h;obtain⟨a,b,rfl,rfl,q⟩:=h
 cases rx
 cases ry
 refine wpAny_isNot_plain rfl ⟨.bl _,H,I,rfl,?_⟩;have e:(Value.bool a==Value.bool b)=decide (a=b):=by cases a<;>cases b<;>rfl
 rw[e];exact q
theorem tz:E9 X (compareOp .Is) λx y=>aL X.K fIs [x,y] :=
  E9.imp (E9.or AO C0) λx y H Q ⟨M,ds,R,m,rs,h,k⟩=>by
    have aa:∀b,R (.bl b)->Q (.bl b) H:=λb r=>k _ r _ H (bM.refl H) (Fo.sc rfl)
    replace h:=BP h
    rcases h with⟨_,_,rfl,h⟩ | ⟨rfl,h⟩ | ⟨_,rfl,h⟩ | ⟨_,_,_,rfl,h⟩
    · obtain⟨h1,h2⟩:=bF rs;exact .inl ⟨_,_,eE h1,eE h2,aa _ h⟩
    all_goals first
      | exact h.elim
      | (obtain⟨h1,h2⟩:=bF rs
         unfold Fo at h1 h2
         first
           | (subst h1;exact .inr ⟨h2,aa _ h⟩)
           | (obtain⟨a,vs,e,_⟩:=h1;subst e;exact .inr ⟨h2,aa _ h⟩)
           | (obtain⟨y,⟨e,C,dx,e1,_⟩,_⟩:=h1;subst e1;exact .inr ⟨h2,aa _ h⟩))
def fIsN:Zh->(D->Prop)->Prop
 | [.bl a,.bl b],R=>R (.bl (!decide (a=b)))
 | [.non,.non],R=>R (.bl false)
 | [.tup _,.non],R=>R (.bl true)
 | _,_=>False
theorem AA{d0:Zh}{R:D->Prop}(h:fIsN d0 R):(∃(a:Bool) (b:Bool),d0=[.bl a,.bl b]/\R (.bl (!decide (a=b))))\/(d0=[.non,.non]/\R (.bl false))\/(∃(z1:Zh),d0=[.tup z1,.non]/\R (.bl true)):=by
 rcases d0 with _ | ⟨a,_ | ⟨b,_ | ⟨c,l⟩⟩⟩
 ·exact False.elim h
 ·cases a<;>exact False.elim h
 ·cases a<;>first | exact False.elim h | (cases b<;>first | exact False.elim h | exact .inl ⟨_,_,rfl,h⟩ | exact .inr (.inl ⟨rfl,h⟩) | exact .inr (.inr ⟨_,rfl,h⟩))
 ·cases a<;>first | exact False.elim h | (cases b<;>exact False.elim h)
theorem AC{R:D->Prop}:fIsN [.bl i,.bl j] R=(R (.bl (!decide (i=j)))):=rfl
theorem kC:E9 X (compareOp .IsNot) λx y=>aL X.K fIsN [x,y] :=
 E9.imp (E9.or At xQ) λx y H Q ⟨M,ds,R,m,rs,h,k⟩=>by
  have aa:∀b,R (.bl b)->Q (.bl b) H:=λb r=>k _ r _ H (bM.refl H) (Fo.sc rfl)
  replace h:=AA h
  rcases h with⟨_,_,rfl,h⟩ | ⟨rfl,h⟩ | ⟨_,rfl,h⟩
  ·obtain⟨h1,h2⟩:=bF rs;exact .inl ⟨_,_,eE h1,eE h2,aa _ h⟩
  ·obtain⟨h1,h2⟩:=bF rs;unfold Fo at h1 h2;subst h1;exact .inr ⟨h2,aa _ h⟩
  ·obtain⟨h1,h2⟩:=bF rs;unfold Fo at h1 h2;obtain⟨a,vs,e,_⟩:=h1;subst e;exact .inr ⟨h2,aa _ h⟩
def tyN:D->String
 | .non=>"NoneType"
 | .bl _=>"bool"
 | .int _=>"int"
 | .str _=>"str"
 | .tup _=>"tuple"
 | .lst _=>"list"
 | .fz _=>"list"
 | .dct _ _=>"dict"
 | .fd _ _=>"dict"
 | .fo _ _ _=>"dict"
 | .exn _ _ _=>"NoneType"
def D.noX:D->Prop
 | .exn _ _ _=>False
 | _=>True
def isT(T n:String):Bool:=n==T||(n=="bool"&&T=="int")
def mE(T:String):Prop:=∀(K:PySem.W.Frag) (n:String),n∈["NoneType","bool","int","str","tuple","list","dict"]->PySem.W.kitOne K (.type n) (.type T)=some (isT T n)
theorem xT(d:D):tyN d∈["NoneType","bool","int","str","tuple","list","dict"]:=by cases d<;>simp[tyN]
theorem DX{pins:List (Addr×Obj)}{σ:L2.St}{H:Hp}{s:Shared}{A:Around}{E:Value->Shared->Prop}{M:Addr->Prop}{d:D}{v:V}{u:Value}{Q:Value->Shared->Prop}(I:L2.Inv X pins σ H s)(r:Fo X.K M H d v)(nx:d.noX)(ru:bB v u)(ht:mE T)
  (h:∀tk,Q (.bool (isT T (tyN d))) { s with toks:=tk }):wpAny (model X.prog X.w) A (call (.builtin "isinstance") [u,.type T]) Q E s:=by
 have e:=ht X.K (tyN d) (xT d)
 cases d with
 | non=>unfold Fo at r;subst r;exact dg I ru (.non) e h
 | bl b=>unfold Fo at r;subst r;exact dg I ru (.bl b) e h
 | int b=>unfold Fo at r;subst r;exact dg I ru (.int b) e h
 | str b=>unfold Fo at r;subst r;exact dg I ru (.str b) e h
 | tup xs =>
  unfold Fo at r;obtain⟨a,vs,rfl,sq,_⟩:=r
  cases ru
  obtain⟨aa,_,⟨o,h1,h2,_⟩,_⟩:=I.tuple sq;exact Gi PySem.W.kitx_tuple I.kIn ⟨o,h1,h2⟩ e (λz=>nomatch z) h
 | lst xs=>unfold Fo at r;obtain⟨a,vs,rfl,_,sq,_⟩:=r;exact dg I ru (.lst sq) e h
 | fz xs =>
  unfold Fo at r;obtain⟨a,vs,rfl,sq,_⟩:=r
  cases ru
  obtain⟨aa,_,⟨o,n,h1,h2,_⟩,_⟩:=I.list sq.seq;exact Gi PySem.W.kitx_list I.kIn ⟨o,h1,h2⟩ e (λz=>nomatch z) h
 | dct ks xs=>unfold Fo at r;obtain⟨a,vs,rfl,_,sq,_⟩:=r;exact dg I ru (.dK sq) e h
 | fd ks xs =>
  unfold Fo at r;obtain⟨a,vs,o,rfl,sq,_⟩:=r
  cases ru
  obtain⟨_,_,va,_,da⟩:=i7 I.hok (.inr ⟨o,sq⟩);obtain⟨o2,h1,h2⟩:=da.typeIs;exact Gi HR I.kIn ⟨o2,h1,h2⟩ e (λz=>nomatch z) h
 | fo o ks xs =>
  unfold Fo at r;obtain⟨a,vs,rfl,sq,_⟩:=r
  cases ru
  obtain⟨_,_,va,_,da⟩:=i7 I.hok (.inr ⟨o,sq⟩);obtain⟨o2,h1,h2⟩:=da.typeIs;exact Gi HR I.kIn ⟨o2,h1,h2⟩ e (λz=>nomatch z) h
 | exn c f x=>exact nx.elim
def Fm(T:String):D->(Bool->Prop)->Prop
 | .exn _ _ _,_=>False
 | x,k=>k (isT T (tyN x))
theorem Fm.ex{x:D}{k:Bool->Prop}(h:Fm T x k):x.noX/\k (isT T (tyN x)):=by cases x<;>first | exact False.elim h | exact⟨trivial,h⟩
def kIs(T:String)(R:W->En->Prop):W->En->Prop:=wd λx δ1=>Fm T x λb=>R (.d (.bl b)) δ1
def dIsi(T:String)(t:Fc)(δ:En)(R:W->En->Prop):Prop:=t δ (kIs T R)
def rIsi(K:PySem.W.Frag)(T:String):Zf->Hp->VK->Prop:=λxs H Q=>∃x M d,xs=[x,.ty T]/\Fo K M H d x/\d.noX/\Q (.bl (isT T (tyN d))) H
theorem wy(ht:mE T):cm X (.builtin "isinstance") (rIsi X.K T):=by
 intro ab s σ H xs us Q I r h;obtain⟨x,M,d,rfl,rx,nx,q⟩:=h;obtain⟨u,w',rfl,ru,aa⟩:=AQ r
 cases aa
 exact DX I rx nx ru ht λtk=>⟨.bl _,H,I.tok _,rfl,q⟩
theorem jG{T:Str}{n:String}{a:Expr}{ta:Fc}{p p2 pos:Pos}(ht:mE n)(hg:Gl X "isinstance")(hm:X.mg "isinstance"=none)(hgT:Gl X T)(hmT:X.mg T=none)(hvT:bootBuiltins T=some (.type n))(ha:DE X a ta)
  (hnT:T≠"__name__":=by decide) (hdT:(T==("__debug__":Str))=false:=by decide)
  (he:starEach [a,.Name T p2] X.env=(false,eval a X.env)::starEach [.Name T p2] X.env:=by rfl) (he2:starEach [.Name T p2] X.env=(false,eval (.Name T p2) X.env)::starEach [] X.env:=by rfl) (hpl:(backTo pos (starEach [.Name T p2] X.env)).any (·.1)=false:=by rfl) :
  DE X (.Call (.Name "isinstance" p) [a,.Name T p2] [] pos) (dIsi n ta) :=
 PE.imp (kE (wy ht) hg hm ml (cN ha (cN (xL (v:=.ty n) hgT hmT hvT rfl hnT hdT) hV he2) he) (by decide) (by decide) he hpl) λσ H Q ⟨G,δ,P,R,s,h,k,_⟩=>up.mk s h λd δ1 h1 v H1 s1=>by
  obtain⟨A,q⟩:=id s1;replace h1:=Fm.ex h1;exact⟨v,_,d,rfl,q.pnd (d,v) (by simp),h1.1,k _ δ1 h1.2 _ H1 ((s1.sub (P':=P) λp hp=>Fz _ hp).sc rfl)⟩
theorem Dm:mE "int":=λK n hn=>by
 simp only[List.mem_cons,List.not_mem_nil,or_false] at hn
 rcases hn with rfl | rfl | rfl | rfl | rfl | rfl | rfl<;>with_unfolding_all rfl
theorem sR:mE "bool":=λK n hn=>by
 simp only[List.mem_cons,List.not_mem_nil,or_false] at hn
 rcases hn with rfl | rfl | rfl | rfl | rfl | rfl | rfl<;>with_unfolding_all rfl
theorem oO:mE "tuple":=λK n hn=>by
 simp only[List.mem_cons,List.not_mem_nil,or_false] at hn
 rcases hn with rfl | rfl | rfl | rfl | rfl | rfl | rfl<;>with_unfolding_all rfl
theorem ye:mE "list":=λK n hn=>by
 simp only[List.mem_cons,List.not_mem_nil,or_false] at hn
 rcases hn with rfl | rfl | rfl | rfl | rfl | rfl | rfl<;>with_unfolding_all rfl
end
end DL
namespace DL
open PySem PySem.Spec PyProof.Rows L2
variable {caps:List (Nat×Str)} {i nt:Nat} {d:D} {xs:Zh} {f:D→Option D} {g:TDG} {tc:TDT}
section
variable {K:PySem.W.Frag} {G:Gf} {A A':Addr→Prop} {δ:List Sl} {P P':List (D×V)} {σ:L2.St} {H H':Hp}
theorem Sx.addA{p:Addr}(s:Sx K G A δ P σ H)(hn:H p=none)(hs:bM H H')(hp:H' p≠none):Sx K G (λb=>A b\/b=p) δ P σ H':=by
 have x:=s.same hs
 have hM:∀b,(G.M0 b\/(A b\/b=p))->(G.M0 b\/A b)\/H b=none:=λb h=>by
  rcases h with h | h | h
  ·exact .inl (.inl h)
  ·exact .inl (.inr h)
  ·subst h;exact .inr hn
 have up:∀d v,Fo K (λb=>G.M0 b\/A b) H d v->Fo K (λb=>G.M0 b\/(A b\/b=p)) H' d v:=λd v r=>Fo.kp (Kp.of_same hs) _ _ (Fo.more hM _ _ r)
 have h0:G.H0 p=none:=by
  cases q:G.H0 p with
  | none=>rfl
  | some o=>exact absurd hn (s.stay p (by rw[q];exact λz=>nomatch z))
 refine⟨x.old,x.stay,x.m0,x.pm,λb h=>h.elim (s.new b) λe=>.inl (by rw[e];exact h0),λb h=>h.elim (x.thr b) λe=>by rw[e];exact hp,s.len,λj d' e=>?_,λj b d' e=>?_,s.inj,λq hq=>up _ _ (s.pnd q hq)⟩
 ·obtain⟨v,q,r⟩:=s.dat j d' e;exact⟨v,q,up _ _ r⟩
 ·obtain⟨q,r,o⟩:=s.own j b d' e;refine⟨q,.inl r,bL.kp (Kp.of_same hs) ?_ (bL.more hM o)⟩
  cases z:H b with
  | none=>exact absurd z (s.thr b r)
  | some o'=>exact hs b o' z
theorem Sx.subA(s:Sx K G A δ P σ H)(hA:∀b,A' b->A b)(ho:∀(i:Nat) a d,δ[i]?=some (.own a d)->A' a):Sx K G A' δ P σ H:=by
 have hM:∀b,(G.M0 b\/A' b)->(G.M0 b\/A b)\/H b=none:=λb h=>.inl (h.elim .inl λz=>.inr (hA b z))
 exact⟨s.old,s.stay,s.m0,s.pm,λb h=>s.new b (hA b h),λb h=>s.thr b (hA b h),s.len,λi d e=>let ⟨v,q,r⟩:=s.dat i d e;⟨v,q,Fo.more hM _ _ r⟩,λi a d e=>let ⟨q,_,o⟩:=s.own i a d e;⟨q,ho i a d e,bL.more hM o⟩,s.inj,
  λp hp=>Fo.more hM _ _ (s.pnd p hp)⟩
theorem Sx.poke{p:Addr}{vs ws:Zf}(s:Sx K G A δ P σ H)(hp:A p)(hv:H p=some (.lst vs))(hno:∀(i:Nat) d,δ[i]?≠some (.own p d)):Sx K G A δ P σ (EW H p (.lst ws)):=by
 have hk:∀b o,b≠p->H b=some o->EW H p (.lst ws) b=some o:=λb o n e=>by rw[aJ n];exact e
 have kp:Kp (λb=>G.M0 b\/A b) H (EW H p (.lst ws)):=⟨λb o e n=>hk b o (λz=>n (.inr (by rw[z];exact hp))) e,λb xs e=>hk b _ (λz=>by rw[z,hv] at e;cases e) e,λb o u e=>hk b _ (λz=>by rw[z,hv] at e;cases e) e⟩
 have stay:∀b,H b≠none->EW H p (.lst ws) b≠none:=λb e=>by
  by_cases z:b=p
  ·rw[z,aD];exact λz=>nomatch z
  ·rw[aJ z];exact e
 have na:∀b o,G.H0 b=some o->¬ G.Pm b->b≠p:=λb o e n z=>(s.new p hp).elim (λq=>by rw[z] at e;rw[e] at q;cases q) λq=>n (by rw[z];exact q)
 refine⟨λb o e n=>hk b o (na b o e n) (s.old b o e n),λb e=>stay b (s.stay b e),s.m0,s.pm,s.new,λb e=>stay b (s.thr b e),s.len,λi d e=>let ⟨v,q,r⟩:=s.dat i d e;⟨v,q,Fo.kp kp _ _ r⟩,λi a d e=>?_,s.inj,λq hq=>Fo.kp kp _ _ (s.pnd q hq)⟩;obtain⟨q,r,o⟩:=s.own i a d e;have ne:a≠p:=λz=>by subst z;exact hno i d e
 exact⟨q,r,bL.kp kp (by rw[aJ ne]) o⟩
end
def tG:Option Sl->Sl
 | some (.dat d)=>.dat d
 | _=>.no
def e8(caps:List (Nat×Str))(δ:En):En:=caps.map λp=>tG δ[p.1]?
def oS:Option D->Sl
 | none=>.no
 | some d=>.dat d
def sT:Nat->(List Sl->Prop)->Prop
 | 0,p=>p []
 | n+1,p=>∀t:Option D,sT n λts=>p (oS t::ts)
def okT:Nat->En->En->Prop
 | 0,δ,c=>δ=c
 | n+1,.dat _::r,c=>okT n r c
 | _+1,_,_=>False
abbrev TDC:=En->(List D->En->Prop)->Prop
def zK(src:TDC)(nt:Nat)(caps:List (Nat×Str))(g:TDG)(tc:TDT)(te:Fc)(δ:En)(R:W->En->Prop):Prop:=src δ λxs δ1=>xs.length<=9000/\∃f:D->Option D,
 (∀x∈xs,sT nt λts=>g x (ts++e8 caps δ1) λδ2=>tc δ2 λb δ3=>if b=true then te δ3 (wd λy δ4=>okT nt δ4 (e8 caps δ1)/\f x=some y) else okT nt δ3 (e8 caps δ1)/\f x=none)/\R (.d (.lst (xs.filterMap f))) δ1
theorem kq:∀ {n:Nat} {p:List Sl->Prop},sT n p->∀ts:List (Option D),ts.length=n->p (ts.map oS)
 | 0,p,h,ts,e=>by rw[HF.mp e];exact h
 | n+1,p,h,[],e=>by cases e
 | n+1,p,h,t::ts,e=>kq (h t) ts (He e)
theorem kw:∀ {n:Nat} {δ c:En},okT n δ c->∃ts:List (Option D),ts.length=n/\δ=ts.map oS++c
 | 0,δ,c,h=>⟨[],rfl,h⟩
 | n+1,[],c,h=>h.elim
 | n+1,.dat d::r,c,h=>by
  obtain⟨ts,e,q⟩:=kw (n:=n) (δ:=r) h;exact⟨some d::ts,by rw[FL,e],by rw[q];rfl⟩
 | n+1,.no::r,c,h=>h.elim
 | n+1,.own _ _::r,c,h=>h.elim
section
variable {K:PySem.W.Frag} {G:Gf} {δ:List Sl} {P:List (D×V)} {σ:L2.St}
theorem v7(e:(e8 caps δ)[i]?=some (.dat d)):∃p,caps[i]?=some p/\δ[p.1]?=some (.dat d):=by
 unfold e8 at e;rw[List.getElem?_map] at e
 cases hc:caps[i]? with
 | none=>rw[hc] at e;cases e
 | some p =>
  rw[hc] at e;refine⟨p,rfl,?_⟩;have e:=FU e
  cases q:δ[p.1]? with
  | none=>simp[q,tG] at e
  | some z =>
   cases z with
   | dat d'=>simp only[q,tG] at e;cases e;rfl
   | no=>simp[q,tG] at e
   | own _ _=>simp[q,tG] at e
theorem kz{a:Addr}(e:(e8 caps δ)[i]?=some (.own a d)):False:=by
 unfold e8 at e;rw[List.getElem?_map] at e
 cases hc:caps[i]? with
 | none=>rw[hc] at e;cases e
 | some p =>
  rw[hc] at e;have e:=FU e
  cases q:δ[p.1]? with
  | none=>simp[q,tG] at e
  | some z=>cases z<;>simp[q,tG] at e
theorem CB{A:Addr->Prop}{H:Hp}(s:Sx K G A δ P σ H):Sx K ⟨λb=>G.M0 b\/A b,H,λ_=>False⟩ (λ_=>False) ((List.replicate nt none).map oS++e8 caps δ) [] (sf nt caps σ) H:=by
 have hM:∀b,((G.M0 b\/A b)\/False)->(G.M0 b\/A b)\/H b=none:=λb h=>h.elim .inl λz=>z.elim
 have hr:(List.replicate nt none).map oS=List.replicate nt Sl.no:=by rw[List.map_replicate];rfl
 rw[hr];refine⟨λb o e _=>e,λb e=>e,s.mem,λb h=>h.elim,λb h=>h.elim,λb h=>h.elim,?_,λi d e=>?_,λi a d e=>?_,λi j a d e h1 _=>?_,λp hp=>(nomatch hp)⟩
 ·unfold e8 sf;rw[FF,FF,FX,FX,Fy,Fy]
 ·by_cases hi:i<nt
  ·rw[List.getElem?_append_left (by rw[FX];exact hi),List.getElem?_replicate,FP hi] at e
   cases e
  ·rw[List.getElem?_append_right (by rw[FX];omega),FX] at e;obtain⟨p,hp,hd⟩:=v7 e;obtain⟨v,q,r⟩:=s.dat _ _ hd;refine⟨v,?_,Fo.more hM _ _ r⟩;unfold sf;rw[List.getElem?_append_right (by rw[FX];omega),FX,List.getElem?_map,hp];show some ((σ[p.1]?).join)=_;rw[q];rfl
 all_goals
  exfalso
 ·by_cases hi:i<nt
  ·rw[List.getElem?_append_left (by rw[FX];exact hi),List.getElem?_replicate,FP hi] at e
   cases e
  ·rw[List.getElem?_append_right (by rw[FX];omega)] at e;exact kz e
 ·by_cases hi:i<nt
  ·rw[List.getElem?_append_left (by rw[FX];exact hi),List.getElem?_replicate,FP hi] at h1
   cases h1
  ·rw[List.getElem?_append_right (by rw[FX];omega)] at h1;exact kz h1
theorem w9{ts:List (Option D)}{a:Addr}(e:(ts.map oS++e8 caps δ)[i]?=some (.own a d)):False:=by
 by_cases hi:i<ts.length
 ·rw[List.getElem?_append_left (by rw[Fy];exact hi),List.getElem?_map] at e
  cases hc:ts[i]? with
  | none=>rw[hc] at e;cases e
  | some o =>
   rw[hc] at e
   cases o<;>cases e
 ·rw[List.getElem?_append_right (by rw[Fy];omega)] at e;exact kz e
theorem re_S{M:Addr->Prop}{A2:Addr->Prop}{ts:List (Option D)}{H H5 H6:Hp}{P2:List (D×V)}{σ2:L2.St}(s:Sx K ⟨M,H,λ_=>False⟩ A2 (ts.map oS++e8 caps δ) P2 σ2 H5)(k:Kp M H5 H6)(hm:∀b,M b->H6 b≠none) :
  Sx K ⟨M,H6,λ_=>False⟩ (λ_=>False) (ts.map oS++e8 caps δ) [] σ2 H6:=by
 have hM:∀b,(M b\/False)->(M b\/A2 b)\/H5 b=none:=λb h=>.inl (h.elim .inl λz=>z.elim)
 have k':Kp (λb=>M b\/False) H5 H6:=⟨λb o e n=>k.un b o e λz=>n (.inl z),k.tu,k.fr⟩
 exact⟨λb o e _=>e,λb e=>e,hm,λb h=>h.elim,λb h=>h.elim,λb h=>h.elim,s.len,λi d e=>let ⟨v,q,r⟩:=s.dat i d e;⟨v,q,Fo.kp k' _ _ (Fo.more hM _ _ r)⟩,λi a d e=>(w9 e).elim,
  λi j a d e h1 _=>(w9 h1).elim,λp hp=>(nomatch hp)⟩
theorem jo{x:D}(h:xs[i]?=some x):(xs.take (i+1)).filterMap f=(xs.take i).filterMap f++(match f x with | some y=>[y] | none=>[]):=by
 rw[List.take_add_one,h,List.filterMap_append]
 cases e:f x<;>simp[e]
theorem jN{J:It}{te:Fc}{H1:Hp}{Q:VK}(s:S K G δ P σ H1)(hz:xs.length<=9000)
  (hgo:∀A i H,Sx K G A δ P σ H->i<xs.length->J.go i H) (hst:∀A H,Sx K G A δ P σ H->J.stop xs.length H)
  (hyl:∀A i x H H2,Sx K G A δ P σ H->i<xs.length->J.yld i H x H2->bM H H2/\∃d,xs[i]?=some d/\Fo K (λb=>G.M0 b\/A b) H2 d x)
  (hf:∀x∈xs,sT nt λts=>g x (ts++e8 caps δ) λδ2=>tc δ2 λb δ3=>if b=true then te δ3 (wd λy δ4=>okT nt δ4 (e8 caps δ)/\f x=some y) else okT nt δ3 (e8 caps δ)/\f x=none)
  (p:Addr) (hp:H1 p=none) (k:∀(A:Addr->Prop) acc H',¬ (G.M0 p\/A p)->(∀(i:Nat) a d,δ[i]?=some (.own a d)->A a)->Sx K G (λb=>A b\/b=p) δ P σ H'->H' p=some (.lst acc)->Reps K (λb=>G.M0 b\/(A b\/b=p)) H' (xs.filterMap f) acc->Q (.ref p) H') :
  ∃W:Nat->Nat->Zf->L2.St->Hp->Prop,(∃m,W 0 m [] (sf nt caps σ) (EW H1 p (.lst [])))/\∀i m acc σ' H',W i m acc σ' H'->(J.stop i H'/\Q (.ref p) H')\/(J.go i H'/\∀x H2,J.yld i H' x H2 ->
   upG K g x σ' H2 λσ2 H3=>upT K tc σ2 H3 λb H4=>if b=true then up K te σ2 H4 λy H5=>H5 p=some (.lst acc)/\acc.length<sizeLine/\∃m',m'<m/\W (i+1) m' (acc++[y]) σ2 (EW H5 p (.lst (acc++[y]))) else ∃m',m'<m/\W (i+1) m' acc σ2 H4):=by
 obtain⟨A0,x0⟩:=s;have ai:¬ (G.M0 p\/A0 p):=λz=>x0.mem p z hp;have ao:∀(i:Nat) d,δ[i]?≠some (.own p d):=λi d e=>ai (.inr (x0.own i p d e).2.1);have x1:=x0.addA hp (aE hp (.lst [])) (by rw[aD];exact λz=>nomatch z)
 refine⟨λi m acc σ' H'=>i<=xs.length/\m=xs.length-i/\acc.length<=i/\H' p=some (.lst acc)/\Sx K G (λb=>A0 b\/b=p) δ P σ H'/\Reps K (λb=>G.M0 b\/(A0 b\/b=p)) H' ((xs.take i).filterMap f) acc /\
  ∃ts:List (Option D),ts.length=nt/\Sx K ⟨λb=>G.M0 b\/(A0 b\/b=p),H',λ_=>False⟩ (λ_=>False) (ts.map oS++e8 caps δ) [] σ' H',⟨xs.length,GN _,rfl,FH _,aD,x1,by rw[Hn];exact Reps.nil,List.replicate nt none,FX,CB x1⟩,?_⟩
 rintro i m acc σ' H' ⟨hi,rfl,hal,hac,x,rs,ts,hts,sx⟩
 by_cases hlt:i<xs.length
 ·refine .inr ⟨hgo _ i H' x hlt,λv H2 hy=>?_⟩;obtain⟨aa,d,hd,rd⟩:=hyl _ i v H' H2 x hlt hy;replace sx:=re_S sx (Kp.of_same aa) (x.same aa).mem;replace x:=x.same aa;replace hac:=aa _ _ hac;replace rs:=Reps.kp (Kp.of_same aa) _ _ rs;clear aa hy;have aj:d∈xs:=FM hd;refine⟨_,ts.map oS++e8 caps δ,[],d,_,⟨_,sx.push (Fo.more (λb z=>.inl (z.elim id λq=>q.elim)) _ _ rd)⟩,kq (hf d aj) ts hts,λδ2 h2 σ2 H3 s2=>?_⟩;refine⟨_,_,[],_,s2,h2,λb δ3 h3 H4 s3=>?_⟩;have ah:=jo (f:=f) hd;have a2:∀b,(G.M0 b\/(A0 b\/b=p))->H2 b≠none:=x.mem
  cases b with
  | false =>
   obtain⟨az,hn⟩:=h3;rw[hn,Gj] at ah;obtain⟨a0,al,e3⟩:=kw az;subst e3;obtain⟨A3,y3⟩:=s3;have sm:bM H2 H4:=λb o e=>y3.old b o e id;have x4:=x.same sm;exact⟨xs.length-(i+1),by omega,hlt,rfl,by omega,sm _ _ hac,x4,by rw[ah];exact Reps.kp (Kp.of_same sm) _ _ rs,a0,al,re_S y3 Kp.refl x4.mem⟩
  | true =>
   refine up.mk (P:=[]) s3 h3 λy δ4 h4 yv H5 s4=>?_;obtain⟨as,hy⟩:=h4;rw[hy] at ah;obtain⟨a1,an,e4⟩:=kw as;subst e4;obtain⟨A4,y4⟩:=s4;have sm:bM H2 H5:=λb o e=>y4.old b o e id;have x5:=x.same sm;have ab:=sm _ _ hac;have ry:Fo K (λb=>G.M0 b\/(A0 b\/b=p)) H5 y yv:=Fo.more (λb z=>.inl (.inl z)) _ _ (y4.pnd (y,yv) (by simp));have x6:=x5.poke (p:=p) (ws:=acc++[yv]) (.inr rfl) ab ao;have kp:Kp (λb=>G.M0 b\/(A0 b\/b=p)) H5 (EW H5 p (.lst (acc++[yv]))):=by
    have hk:∀b o,b≠p->H5 b=some o->EW H5 p (.lst (acc++[yv])) b=some o:=λb o n e=>by rw[aJ n];exact e
    exact⟨λb o e n=>hk b o (λz=>n (.inr (.inr z))) e,λb xs e=>hk b _ (λz=>by rw[z,ab] at e;cases e) e,λb o u e=>hk b _ (λz=>by rw[z,ab] at e;cases e) e⟩
   refine⟨ab,HG (FB hal hi) (fQ hz),xs.length-(i+1),by omega,hlt,rfl,by rw[FF,Gg];omega,aD,x6,?_,a1,an,re_S y4 kp x6.mem⟩;rw[ah];exact Reps.kp kp _ _ (Reps.append _ _ _ _ (Reps.kp (Kp.of_same sm) _ _ rs) (Reps.one ry))
 ·have e:i=xs.length:=by omega
  subst e;rw[FZ] at rs;exact .inl ⟨hst _ H' x,k A0 acc H' ai (λi a d e=>(x0.own i a d e).2.1) x hac rs⟩
theorem ly{J:It}{te:Fc}{H1:Hp}{Q:VK}(s:S K G δ P σ H1)(hz:xs.length<=9000)
  (hgo:∀A i H,Sx K G A δ P σ H->i<xs.length->J.go i H) (hst:∀A H,Sx K G A δ P σ H->J.stop xs.length H)
  (hyl:∀A i x H H2,Sx K G A δ P σ H->i<xs.length->J.yld i H x H2->bM H H2/\∃d,xs[i]?=some d/\Fo K (λb=>G.M0 b\/A b) H2 d x)
  (hf:∀x∈xs,sT nt λts=>g x (ts++e8 caps δ) λδ2=>tc δ2 λb δ3=>if b=true then te δ3 (wd λy δ4=>okT nt δ4 (e8 caps δ)/\f x=some y) else okT nt δ3 (e8 caps δ)/\f x=none)
  (k:∀v H',S K G δ ((.lst (xs.filterMap f),v)::P) σ H'->Q v H') (p:Addr) (hp:H1 p=none) :
  ∃W:Nat->Nat->Zf->L2.St->Hp->Prop,(∃m,W 0 m [] (sf nt caps σ) (EW H1 p (.lst [])))/\∀i m acc σ' H',W i m acc σ' H'->(J.stop i H'/\Q (.ref p) H')\/(J.go i H'/\∀x H2,J.yld i H' x H2 ->
   upG K g x σ' H2 λσ2 H3=>upT K tc σ2 H3 λb H4=>if b=true then up K te σ2 H4 λy H5=>H5 p=some (.lst acc)/\acc.length<sizeLine/\∃m',m'<m/\W (i+1) m' (acc++[y]) σ2 (EW H5 p (.lst (acc++[y]))) else ∃m',m'<m/\W (i+1) m' acc σ2 H4) :=
 jN s hz hgo hst hyl hf p hp λA acc H' hA ho x hac rs=>k (.ref p) H' ⟨A,(x.subA (λb z=>.inl z) ho).push (by
  unfold Fo
  exact⟨p,acc,rfl,hA,hac,Reps.more (λb z=>.inl (z.elim .inl λq=>.inr (.inl q))) _ _ rs⟩)⟩
end
def BG(t:Fc)(δ:En)(R:Zh->En->Prop):Prop:=t δ (wd λd δ1=>qL d λxs=>R xs δ1)
def BD(t:Fc)(δ:En)(R:Zh->En->Prop):Prop:=t δ (wd λd δ1=>qT d λxs=>R xs δ1)
def C1(t:TDA)(δ:En)(R:Zh->En->Prop):Prop:=t δ λds δ1=>qC ds λx r=>qN r <| qI x λj=>-(2 ^ 62)<=j/\j<2 ^ 62/\R ((List.range j.toNat).map λ(i:Nat)=>D.int (i:Int)) δ1
def CI(X:Cx)(tg it:Expr)(src:TDC):Prop:=∃wi,PI X tg it wi/\∀(G:Gf) (δ:En) (P:List (D×V)) (σ:L2.St) (H:Hp) (R:Zh->En->Prop) (Q:It->Hp->Prop),S X.K G δ P σ H->src δ R ->
  (∀xs δ1,R xs δ1->∀(J:It) (P1:List (D×V)) (H1:Hp),(∀q∈P,q∈P1)->S X.K G δ1 P1 σ H1->(∀A δ σ i H,Sx X.K G A δ P1 σ H->i<xs.length->J.go i H)->(∀A δ σ H,Sx X.K G A δ P1 σ H->J.stop xs.length H) ->
    (∀A δ σ i x H H2,Sx X.K G A δ P1 σ H->i<xs.length->J.yld i H x H2->bM H H2/\∃d,xs[i]?=some d/\Fo X.K (λb=>G.M0 b\/A b) H2 d x)->Q J H1)->wi σ H Q
section
variable {X:Cx} {tg e:Expr} {te:Fc} {ta:TDA}
theorem dw(h:DE X e te):CI X tg e (BG te):=⟨_,sQ h,λG δ P σ H R Q s hs k=>up.mk s hs λd δ1 h1 v H1 s1=>by
 replace h1:=qL.ex h1;obtain⟨xs,e,r⟩:=h1;subst e;have aa:∀A δ σ H,Sx X.K G A δ ((.lst xs,v)::P) σ H->∃a vs,v=.ref a/\H a=some (.lst vs)/\Reps X.K (λb=>G.M0 b\/A b) H xs vs:=λA δ σ H x=>by
  have q:=x.pnd (.lst xs,v) (by simp)
  unfold Fo at q;obtain⟨a,vs,e,_,l,r⟩:=q;exact⟨a,vs,e,l,r⟩
 obtain⟨A1,x1⟩:=id s1;obtain⟨a,ah,rfl,l0,_⟩:=aa _ _ _ _ x1;refine⟨a,rfl,⟨ah,EX.of l0⟩,k xs δ1 r _ _ H1 (λq hq=>by simp[hq]) s1 (λA δ σ i H x hi=>?_) (λA δ σ H x=>?_) λA δ σ i y H H2 x hi hy=>?_⟩
 ·obtain⟨b,vs,e,l,r⟩:=aa _ _ _ _ x
  cases e
  obtain⟨w',hw,_⟩:=Reps.get _ _ r i xs[i] (by simp[hi]);exact⟨vs,w',EX.of l,hw⟩
 ·obtain⟨b,vs,e,l,r⟩:=aa _ _ _ _ x
  cases e
  exact⟨vs,EX.of l,by rw[Reps.length _ _ r];exact FH _⟩
 ·obtain⟨b,vs,e,l,r⟩:=aa _ _ _ _ x
  cases e
  obtain⟨e,hy⟩:=hy;obtain⟨w',hw,ab⟩:=Reps.get _ _ r i xs[i] (by simp[hi]);have z:=hy vs (EX.of l);rw[hw] at z
  cases z
  subst e
  exact⟨bM.refl _,xs[i],by simp[hi],ab⟩⟩
theorem oV(h:DE X e te):CI X tg e (BD te):=⟨_,wW h,λG δ P σ H R Q s hs k=>up.mk s hs λd δ1 h1 v H1 s1=>by
 replace h1:=qT.ex h1;obtain⟨xs,e,r⟩:=h1;subst e;have aa:∀A δ σ H,Sx X.K G A δ ((.tup xs,v)::P) σ H->∃a vs,v=.ref a/\Fh X.K H a vs/\Reps X.K (λb=>G.M0 b\/A b) H xs vs:=λA δ σ H x=>by
  have q:=x.pnd (.tup xs,v) (by simp)
  unfold Fo at q;exact q
 obtain⟨A1,x1⟩:=id s1;obtain⟨a,ah,rfl,l0,_⟩:=aa _ _ _ _ x1;refine⟨a,rfl,⟨ah,l0⟩,k xs δ1 r _ _ H1 (λq hq=>by simp[hq]) s1 (λA δ σ i H x hi=>?_) (λA δ σ H x=>?_) λA δ σ i y H H2 x hi hy=>?_⟩
 ·obtain⟨b,vs,e,l,r⟩:=aa _ _ _ _ x
  cases e
  obtain⟨w',hw,_⟩:=Reps.get _ _ r i xs[i] (by simp[hi]);exact⟨vs,w',l,hw⟩
 ·obtain⟨b,vs,e,l,r⟩:=aa _ _ _ _ x
  cases e
  exact⟨vs,l,by rw[Reps.length _ _ r];exact FH _⟩
 ·obtain⟨b,vs,e,l,r⟩:=aa _ _ _ _ x
  cases e
  obtain⟨e,hy⟩:=hy;obtain⟨w',hw,ab⟩:=Reps.get _ _ r i xs[i] (by simp[hi]);have z:=hy vs l;rw[hw] at z
  cases z
  subst e
  exact⟨bM.refl _,xs[i],by simp[hi],ab⟩⟩
theorem j8{a:Expr}{p pos:Pos}(hg:Gl X "range")(hm:X.mg "range"=none)(ha:DA X [a] ta)(hs:starEach [a] X.env=[(false,eval a X.env)]:=by rfl):CI X tg (.Call (.Name "range" p) [a] [] pos) (C1 ta) :=
 ⟨_,lX hg hm ha hs,λG δ P σ H R Q s hs k=>⟨G,δ,P,_,s,hs,λds δ1 h1 vs H1 hl s1=>by
  replace h1:=qC.ex h1;obtain⟨x,r,e,h1⟩:=h1;replace h1:=qN.ex h1;obtain⟨e',h1⟩:=h1;replace h1:=qI.ex h1;obtain⟨j,e2,h1,h2,r⟩:=h1;subst e2 e' e
  match vs,hl with
  | [v],_ =>
   have q:v=.int j:=by
    obtain⟨A,x⟩:=s1;exact aI (x.pnd (.int j,v) (by simp))
   subst q;refine⟨j,rfl,h1,h2,k _ δ1 r _ P H1 (λq hq=>hq) (s1.sub λp hp=>by simp[hp]) (λA δ σ i H x hi=>?_) (λA δ σ H x=>?_) λA δ σ i y H H2 x hi hy=>?_⟩
   ·rw[Fy,G2] at hi;exact hi
   ·rw[Fy,G2];exact FH _
   ·rw[Fy,G2] at hi;obtain⟨e,hy⟩:=hy;subst e;refine⟨bM.refl _,.int i,by rw[List.getElem?_map,List.getElem?_range hi];rfl,?_⟩;unfold Fo
    rw[hy,Hf]⟩⟩
def DF(X:Cx)(ifs:List Expr)(t:TDT):Prop:=PF X ifs (upT X.K t)
theorem fA:DF X [] (λδ R=>R true δ):=λpins s σ H Q I ⟨G,δ,P,R,s',h,k⟩=>Bz pins s σ H Q I (k true δ h H s')
theorem dL{c:Expr}{t:TDT}(h:DT X c t):DF X [c] t:=Bj h
theorem bO{elt tgt iter:Expr}{ifs:List Expr}{scope:Scope}{pos:Pos}{src:TDC}{cl:List (Str×Addr)}(tn:Zb)(caps:List (Nat×Str))
  (hcalm:X.calm=true) (hclos:closureFor scope X.env=pure cl) (hcell:∀p∈caps,(p.2,NameKind.cell)∉scope.names) (hkind:scope.kind=.function) (hnames:∀y∈scope.names,y.2=.local->scope.names.lookup y.1=some .local)
  (hcl:∀x c,cl.lookup x=some c->X.env.cells.lookup x=some c) (hhas:∀(n:Nat) x,((relabel scope X.env).names.lookup x=some .cell\/(relabel scope X.env).names.lookup x=some .free)->∃c,(cellsFrom n scope.names []++cl).lookup x=some c)
  (hcap:∀p∈caps,X.N[p.1]?=some p.2/\X.env.scope.names.lookup p.2=some .cell/\((relabel scope X.env).names.lookup p.2=some .cell\/(relabel scope X.env).names.lookup p.2=some .free))
  (hi:CI X.nox tgt iter src)
  (hb:∀s2 H2 C fp pn,DG (cO X (tn++caps.map (·.2)) scope cl s2 H2 C fp pn) tgt g/\DF (cO X (tn++caps.map (·.2)) scope cl s2 H2 C fp pn) ifs tc/\DE (cO X (tn++caps.map (·.2)) scope cl s2 H2 C fp pn) elt te)
  (hs:∀x,foldedSetIterable iter X.env x=pure x:=by intro _;rfl):DE X.nox (.ListComp elt [⟨tgt,iter,ifs,0⟩] scope pos) (zK src tn.length caps g tc te):=by
 obtain⟨wi,hi,hw⟩:=hi;refine PE.imp (yT (g:=upG X.K g) (tc:=upT X.K tc) (te:=up X.K te) tn caps hcalm hclos hcell hkind hnames hcl hhas hcap hi hb hs) λσ H Q ⟨G,δ,P,R,s,h,k,_⟩=>?_;refine hw G δ P σ H _ _ s h λxs δ1 ⟨hz,f,hf,r⟩ J P1 H1 hP s1 hgo hst hyl p hp=>?_
 exact ly s1 hz (λA i H x hi=>hgo A _ _ i H x hi) (λA H x=>hst A _ _ H x) (λA i x H H2 s hi hy=>hyl A _ _ i x H H2 s hi hy) hf (λv H' s'=>k _ δ1 r v H' (s'.sub λq hq=>by
  rcases FJ.mp hq with rfl | hq
  ·simp
  ·exact Fz _ (hP q hq))) p hp
end
def CD(cells:List (Str×Addr)):List (Str×Addr)->Prop
 | []=>True
 | y::r=>cells.lookup y.1=some y.2/\CD cells r
theorem bI{cells:List (Str×Addr)}:∀ {cl:List (Str×Addr)},CD cells cl->∀x c,cl.lookup x=some c->cells.lookup x=some c
 | [],_,x,c,h=>by cases h
 | y::r,⟨h1,h2⟩,x,c,h=>by
  rw[List.lookup_cons] at h
  cases e:x==y.1 with
  | true =>
   rw[e] at h;have e:=eq_of_beq e
   cases h
   rw[e];exact h1
  | false =>
   rw[e] at h;exact bI h2 x c h
theorem bU{names:List (Str×NameKind)}{cl:List (Str×Addr)}(h:(names.all λy=>!(y.2 == .cell||y.2 == .free)||(cl.lookup y.1).isSome)=true):∀x,(names.lookup x=some .cell\/names.lookup x=some .free)->∃c,cl.lookup x=some c:=λx hx=>by
 have aa:∀(ns:List (Str×NameKind)) k,ns.lookup x=some k->(x,k)∈ns:=λns=>by
  induction ns with
  | nil=>intro k h;cases h
  | cons y r ih =>
   intro k h;rw[List.lookup_cons] at h
   cases e:x==y.1 with
   | true =>
    rw[e] at h;have e:=eq_of_beq e
    cases h
    rw[e];exact FD ..
   | false =>
    rw[e] at h;exact Fz _ (ih k h)
 have go:∀k,(k=.cell\/k=.free)->names.lookup x=some k->∃c,cl.lookup x=some c:=λk hk e=>by
  have m:=aa _ _ e
  have q:=List.all_eq_true.mp h _ m
  have hb:((k==NameKind.cell||k == .free))=true:=by rcases hk with rfl | rfl<;>rfl
  simp only[hb,Bool.not_true,Bool.false_or] at q;exact Option.isSome_iff_exists.mp q
 rcases hx with e | e
 ·exact go _ (.inl rfl) e
 ·exact go _ (.inr rfl) e
def wQ(p:Nat×Str->Prop):List (Nat×Str)->Prop
 | []=>True
 | y::r=>p y/\wQ p r
theorem aT{p:Nat×Str->Prop}:∀ {l:List (Nat×Str)},wQ p l->∀y∈l,p y
 | [],_,y,h=>by cases h
 | z::r,⟨h1,h2⟩,y,h=>by
  rcases FJ.mp h with rfl | h
  ·exact h1
  ·exact aT h2 y h
end DL
namespace DL
open PySem PySem.Spec PyProof.Rows L2
variable {k:Nat} {x y:Str} {ps N:Zb} {st:Stmt} {p pos' pos:Pos}
def spN(K:PySem.W.Frag)(f:Zh->(D->Prop)->Prop):Sp:=λvs H Q _=>∃(M:Addr->Prop) (ds:Zh) (R:D->Prop),(∀b,M b->H b≠none)/\Reps K M H ds vs/\f ds R /\
 ∀d,R d->∀a H',bM H H'->H a=none->bL K (λb=>M b\/b=a) H' a d->Q (.ref a) H'
abbrev FO:=D->List D->(D->D->Prop)->Prop
def spO(K:PySem.W.Frag)(f:FO):Sp:=λvs H Q _=>∃(M:Addr->Prop) (a:Addr) (d0:D) (vs':Zf) (ds:Zh) (R:D->D->Prop),vs=.ref a::vs'/\(∀b,M b->H b≠none)/\¬ M a/\bL K (λb=>M b\/b=a) H a d0/\Reps K (λb=>M b\/b=a) H ds vs'/\f d0 ds R /\
 ∀r d1,R r d1->∀v H',(∀b o,b≠a->H b=some o->H' b=some o)->bL K (λb=>M b\/b=a) H' a d1->Fo K (λb=>M b\/b=a) H' r v->Q v H'
def v8(K:PySem.W.Frag)(f:FO):Sp:=λvs H Q E=>∃v0 v1,vs=[v0,v1]/\spO K f [v1,v0] H Q E
section
variable {P:Program} {w:World} {K:PySem.W.Frag} {mg:Str→Zd} {base:Heap}
theorem Cal.imp{sp sp':Sp}(C:Cal P w K mg base k x ps sp)(h:∀vs H Q E,sp' vs H Q E->sp vs H Q E):Cal P w K mg base k x ps sp':=by
 obtain⟨a,fd,F,b,kp,m⟩:=C.ex;exact⟨a,fd,F.imp h,b,kp,m⟩
theorem kl{f:Zh->(D->Prop)->Prop}(F:Fd K mg x st ps)(k:Nat)(h:∀ds R,¬ f ds R):Cal P w K mg base k x ps (Fx K f):=by
 obtain⟨a,fd,Fu,b,m⟩:=F.ex;have no:∀vs H Q E,¬ Fx K f vs H Q E:=λvs H Q E ⟨_,ds,R,_,_,hf,_⟩=>h ds R hf;exact⟨a,fd,⟨λvs H Q E h=>absurd h (no vs H Q E),λA outer s H args us vs Q E _ _ _ _ h=>absurd h (no vs H Q E)⟩,b,Fu.kp,m⟩
theorem tI{f:FO}(F:Fd K mg x st ps)(k:Nat)(h:∀d ds R,¬ f d ds R):Cal P w K mg base k x ps (v8 K f):=by
 obtain⟨a,fd,Fu,b,m⟩:=F.ex;have no:∀vs H Q E,¬ v8 K f vs H Q E:=λvs H Q E ⟨_,_,_,_,_,d0,_,ds,R,_,_,_,_,_,hf,_⟩=>h d0 ds R hf;exact⟨a,fd,⟨λvs H Q E h=>absurd h (no vs H Q E),λA outer s H args us vs Q E _ _ _ _ h=>absurd h (no vs H Q E)⟩,b,Fu.kp,m⟩
theorem fn_N{f:Zh->(D->Prop)->Prop}(F:Fd K mg x st ps)(Sc:au N ps (am st))(len:∀ds R,f ds R->ds.length=ps.length)
    (hbody:∀(a:Addr) (cdv:Value) (A:Around) (outer:List Env) (s:Shared) (H:Hp) (E:XK) (ds:Zh) (R:D->Prop),fO k (A.deeper (envOfC x (am st) s.heap.objs.size a cdv))->f ds R ->
      ∃t,DSs (rY CX0 P w K mg base N x (am st) a cdv A outer s H E).nox (bG st) t/\t { nx:=λ_=>False,rt:=λ_ _=>False,ro:=R } (eJ N ds)) :
    Cal P w K mg base (k+1) x ps (spN K f):=by
  obtain⟨a,fd,Fu,b,m⟩:=F.ex;refine⟨a,fd,Fu.ok Sc (λvs H Q E h=>?_) (λcdv A outer s H vs Q E hr h=>?_),b,Fu.kp,m⟩
  · obtain⟨M,ds,R,hm,rs,hf,hk⟩:=h;rw[<- Reps.length _ _ rs];exact len ds R hf
  · obtain⟨M,ds,R,hm,rs,hf,hk⟩:=h;obtain⟨t,ht,hq⟩:=hbody a cdv A outer s H E ds R hr hf;refine⟨_,ht,⟨M,H,λ_=>False⟩,eJ N ds,[],_,rl N hm rs,hq,λ_ h=>h.elim,⟨λ_ _ h=>h.elim,λd r a' H' ⟨o1,o2,o3,o4⟩=>hk d r a' H' (λb o e=>o1 b o e id) (o2.elim id λz=>z.elim) o4,λ_ _ _ z=>z.elim⟩,λ_ h=>h.elim,λ_ h=>h.elim,λz=>z.elim⟩
theorem om{M:Addr->Prop}{a:Addr}{d0:D}{ds1 ds2:Zh}{vs1 vs2:Zf}{H:Hp}(N:Zb)(m:∀b,M b->H b≠none)(na:¬ M a)(ow:bL K (λb=>M b\/b=a) H a d0)(r1:Reps K (λb=>M b\/b=a) H ds1 vs1)(r2:Reps K (λb=>M b\/b=a) H ds2 vs2) :
  S K ⟨M,H,λb=>b=a⟩ (ds1.map Sl.dat++Sl.own a d0::(ds2.map Sl.dat++List.replicate (N.length-(ds1.length+1+ds2.length)) Sl.no)) [] (L2.start N (vs1++.ref a::vs2)) H:=by
 have ah:=Reps.length _ _ r1
 have ai:=Reps.length _ _ r2
 have ab:H a≠none:=by
  cases d0 with
  | lst ds=>obtain⟨vs,q,_⟩:=ow;rw[q];exact λz=>nomatch z
  | dct ks ds=>obtain⟨vs,q,_⟩:=ow;rw[q];exact λz=>nomatch z
  | _=>exact ow.elim
 have aa:∀(i:Nat) z,(ds1.map Sl.dat++Sl.own a d0::(ds2.map Sl.dat++List.replicate (N.length-(ds1.length+1+ds2.length)) Sl.no))[i]?=some z ->
   (∃d,ds1[i]?=some d/\z=.dat d)\/(i=ds1.length/\z=.own a d0)\/(∃d,ds1.length+1<=i/\ds2[i-(ds1.length+1)]?=some d/\z=.dat d)\/z=.no:=λi z e=>by
  by_cases h1:i<ds1.length
  ·rw[List.getElem?_append_left (by rw[Fy];exact h1),List.getElem?_map] at e
   cases hd:ds1[i]? with
   | none=>rw[hd] at e;cases e
   | some d=>rw[hd] at e;exact .inl ⟨d,rfl,(FU e).symm⟩
  ·rw[List.getElem?_append_right (by rw[Fy];omega),Fy] at e
   by_cases h2:i=ds1.length
   ·subst h2;rw[Nat.sub_self,List.getElem?_cons_zero] at e;exact .inr (.inl ⟨rfl,(FU e).symm⟩)
   ·have e3:i-ds1.length=(i-(ds1.length+1))+1:=by omega
    rw[e3,List.getElem?_cons_succ] at e
    by_cases h3:i-(ds1.length+1)<ds2.length
    ·rw[List.getElem?_append_left (by rw[Fy];exact h3),List.getElem?_map] at e
     cases hd:ds2[i-(ds1.length+1)]? with
     | none=>rw[hd] at e;cases e
     | some d=>rw[hd] at e;exact .inr (.inr (.inl ⟨d,by omega,rfl,(FU e).symm⟩))
    ·rw[List.getElem?_append_right (by rw[Fy];omega),List.getElem?_replicate] at e
     split at e
     ·exact .inr (.inr (.inr (FU e).symm))
     ·cases e
 have st:∀i,i<(vs1++V.ref a::vs2).length->(L2.start N (vs1++.ref a::vs2))[i]?=(vs1++V.ref a::vs2)[i]?.map some:=λi hi=>by
  unfold L2.start;rw[List.getElem?_append_left (by rw[Fy];exact hi),List.getElem?_map]
 have hM:∀b,(M b\/b=a)->(M b\/b=a)\/H b=none:=λb h=>.inl h
 refine⟨λb=>b=a,λb o e _=>e,λb e=>e,m,λb h=>⟨by rw[h];exact ab,by rw[h];exact na⟩,λb h=>.inr h,λb h=>by rw[h];exact ab,?_,λi d e=>?_,λi a' d e=>?_,λi j a' d e h1 h2=>?_,λp hp=>(nomatch hp)⟩
 ·unfold L2.start;simp only[List.length_append,List.length_map,List.length_cons,List.length_replicate];omega
 ·rcases aa i _ e with⟨d',hd,z⟩ | ⟨_,z⟩ | ⟨d',hi,hd,z⟩ | z
  ·cases z
   obtain⟨v,ev,rv⟩:=Reps.get _ _ r1 i d hd;have hi:i<vs1.length:=(List.getElem?_eq_some_iff.mp ev).1;exact⟨v,by rw[st i (by rw[FF];omega),List.getElem?_append_left hi,ev];rfl,rv⟩
  ·cases z
  ·cases z
   obtain⟨v,ev,rv⟩:=Reps.get _ _ r2 _ d hd;have aj:i-(ds1.length+1)<vs2.length:=(List.getElem?_eq_some_iff.mp ev).1;refine⟨v,?_,rv⟩;rw[st i (by rw[FF,FL];omega),List.getElem?_append_right (by omega),<- ah];have e3:i-ds1.length=(i-(ds1.length+1))+1:=by omega
   rw[e3,List.getElem?_cons_succ,ev];rfl
  ·cases z
 ·rcases aa i _ e with⟨d',hd,z⟩ | ⟨hi,z⟩ | ⟨d',hi,hd,z⟩ | z
  ·cases z
  ·cases z
   subst hi;refine⟨?_,rfl,ow⟩;rw[st _ (by rw[FF,FL];omega),List.getElem?_append_right (by omega),ah,Nat.sub_self];rfl
  ·cases z
  ·cases z
 ·have u:∀i a' d,(ds1.map Sl.dat++Sl.own a d0::(ds2.map Sl.dat++List.replicate (N.length-(ds1.length+1+ds2.length)) Sl.no))[i]?=some (.own a' d)->i=ds1.length:=λi a' d e=>by
   rcases aa i _ e with⟨d',hd,z⟩ | ⟨hi,z⟩ | ⟨d',hi,hd,z⟩ | z
   ·cases z
   ·exact hi
   ·cases z
   ·cases z
  rw[u i _ _ h1,u j _ _ h2]
theorem iI{M A':Addr->Prop}{a:Addr}{d:D}{H':Hp}(ha:A' a)(o:bL K (λb=>M b\/A' b) H' a d):bL K (λb=>M b\/b=a) H' a d:=bL.more (λb z=>.inl (z.elim .inl λe=>.inr (by rw[e];exact ha))) o
theorem fn_O{f:FO}(F:Fd K mg x st ps)(Sc:au N ps (am st))(len:∀d ds R,f d ds R->ds.length+1=ps.length)
    (hbody:∀(fa:Addr) (cdv:Value) (A:Around) (outer:List Env) (s:Shared) (H:Hp) (E:XK) (a:Addr) (d0:D) (ds:Zh) (R:D->D->Prop),fO k (A.deeper (envOfC x (am st) s.heap.objs.size fa cdv))->f d0 ds R ->
      ∃t,DSs (rY CX0 P w K mg base N x (am st) fa cdv A outer s H E).nox (bG st) t /\
        t { nx:=λδ=>∃d1,δ[0]?=some (.own a d1)/\R .non d1,rt:=λd δ=>∃d1,δ[0]?=some (.own a d1)/\R d d1 } (Sl.own a d0::(ds.map Sl.dat++List.replicate (N.length-(1+ds.length)) Sl.no))) :
    Cal P w K mg base (k+1) x ps (spO K f):=by
  obtain⟨fa,fd,Fu,b,mm⟩:=F.ex;refine⟨fa,fd,Fu.ok Sc (λvs H Q E h=>?_) (λcdv A outer s H vs Q E hr h=>?_),b,Fu.kp,mm⟩
  · obtain⟨M,a,d0,ab,ds,R,rfl,m,na,ow,rs,hf,hk⟩:=h;rw[FL,<- Reps.length _ _ rs];exact len _ _ _ hf
  · obtain⟨M,a,d0,ab,ds,R,rfl,m,na,ow,rs,hf,hk⟩:=h;obtain⟨t,ht,hq⟩:=hbody fa cdv A outer s H E a d0 ds R hr hf;have ss:=om (ds1:=[]) (vs1:=[]) N m na ow Reps.nil rs;rw[show ([]:Zh).length+1+ds.length=1+ds.length by simp] at ss;refine⟨_,ht,_,_,[],_,ss,hq,λδ' ⟨d1,e,r⟩ σ' H' ⟨A',x⟩=>?_,⟨λd δ' ⟨d1,e,r⟩ v σ' H' ⟨A',x⟩=>?_,λ_ h=>h.elim,λ_ _ _ z=>z.elim⟩,λ_ h=>h.elim,λ_ h=>h.elim,λz=>z.elim⟩
    · obtain⟨_,aa,oo⟩:=x.own 0 a d1 e;exact hk _ _ r .non H' (λb o n e=>x.old b o e n) (iI aa oo) (by unfold Fo;rfl)
    · obtain⟨_,aa,oo⟩:=x.own 0 a d1 e;exact hk _ _ r v H' (λb o n e=>x.old b o e n) (iI aa oo) (Fo.more (λb z=>.inl (z.elim .inl λe=>.inr (by rw[e];exact aa))) _ _ (x.pnd (d,v) (by simp)))
theorem Ev{f:FO}(F:Fd K mg x st ps)(Sc:au N ps (am st))(hp:ps.length=2)(len:∀d ds R,f d ds R->ds.length=1)
    (hbody:∀(fa:Addr) (cdv:Value) (A:Around) (outer:List Env) (s:Shared) (H:Hp) (E:XK) (a:Addr) (d0 d:D) (R:D->D->Prop),fO k (A.deeper (envOfC x (am st) s.heap.objs.size fa cdv))->f d0 [d] R ->
      ∃t,DSs (rY CX0 P w K mg base N x (am st) fa cdv A outer s H E).nox (bG st) t /\
        t { nx:=λδ=>∃d1,δ[1]?=some (.own a d1)/\R .non d1,rt:=λd δ=>∃d1,δ[1]?=some (.own a d1)/\R d d1 } (Sl.dat d::Sl.own a d0::List.replicate (N.length-2) Sl.no)) :
    Cal P w K mg base (k+1) x ps (v8 K f):=by
  obtain⟨fa,fd,Fu,b,mm⟩:=F.ex;refine⟨fa,fd,Fu.ok Sc (λvs H Q E h=>?_) (λcdv A outer s H vs Q E hr h=>?_),b,Fu.kp,mm⟩
  · obtain⟨v0,v1,rfl,_⟩:=h;exact hp.symm
  · obtain⟨v0,v1,rfl,M,a,d0,ab,ds,R,e,m,na,ow,rs,hf,hk⟩:=h
    cases e
    have hl:=len _ _ _ hf
    match ds,hl with
    | [d],_ =>
      obtain⟨t,ht,hq⟩:=hbody fa cdv A outer s H E a d0 d R hr hf;have ss:=om (ds2:=[]) (vs2:=[]) N m na ow rs Reps.nil;refine⟨_,ht,_,_,[],_,ss,hq,λδ' ⟨d1,e,r⟩ σ' H' ⟨A',x⟩=>?_,⟨λd δ' ⟨d1,e,r⟩ v σ' H' ⟨A',x⟩=>?_,λ_ h=>h.elim,λ_ _ _ z=>z.elim⟩,λ_ h=>h.elim,λ_ h=>h.elim,λz=>z.elim⟩
      · obtain⟨_,aa,oo⟩:=x.own 1 a d1 e;exact hk _ _ r .non H' (λb o n e=>x.old b o e n) (iI aa oo) (by unfold Fo;rfl)
      · obtain⟨_,aa,oo⟩:=x.own 1 a d1 e;exact hk _ _ r v H' (λb o n e=>x.old b o e n) (iI aa oo) (Fo.more (λb z=>.inl (z.elim .inl λe=>.inr (by rw[e];exact aa))) _ _ (x.pnd (d,v) (by simp)))
end
def kN(i:Nat)(R:aZ)(δ:En)(d:D):Prop:=∀a,jB δ i (.own a d) R.nx
def kO(i:Nat)(a:Addr)(R:W->En->Prop)(δ:En)(r d:D):Prop:=jB δ i (.own a d) (R (.d r))
def BW(i:Nat)(f:Zh->(D->Prop)->Prop)(t:TDA)(R:aZ)(δ:En):Prop:=t δ λds δ1=>f ds (kN i R δ1)
def CN(i:Nat)(t:TDA)(R:aZ)(δ:En):Prop:=t δ λds δ1=>q9 ds (∀a,jB δ1 i (.own a (.lst ds)) R.nx)
def BI(i:Nat)(R:aZ)(δ:En):Prop:=∀a,jB δ i (.own a (.dct [] [])) R.nx
def CC(i:Nat)(R:aZ)(δ:En):Prop:=qW δ[i]? λ_ d=>R.ro d
def Do(t:TDA)(R:aZ)(δ:En):Prop:=t δ λds _=>q9 ds (R.ro (.lst ds))
def xb(i:Nat)(f:FO)(t:TDA)(δ:En)(R:W->En->Prop):Prop:=qW δ[i]? λa _=>t δ λds δ1=>qWe δ1[i]? λd0=>f d0 ds (kO i a R δ1)
def By(i:Nat)(δ:En)(R:W->En->Prop):Prop:=qWL δ[i]? λ_ ds=>R (.d (.int ds.length)) δ
def mP(i:Nat)(t:TDS)(R:aZ)(δ:En):Prop:=qW δ[i]? λ_ d=>jB δ i (.dat d) (t R)
def t9(i:Nat)(f:FO)(ta:Fc)(δ:En)(R:W->En->Prop):Prop:=ta δ (wd λz δ1=>qW δ1[i]? λa d0=>f d0 [z] (kO i a R δ1))
def dIxO(i:Nat)(tb:Fc)(δ:En)(R:W->En->Prop):Prop:=qW δ[i]? λ_ _=>tb δ (wd λz δ1=>rL δ1[i]? λds=>qI z λk=>E2 ds k λv=>R (.d v) δ1)
def Di(i:Nat)(ta tb:Fc)(R:aZ)(δ:En):Prop:=ta δ (wd λx δ1=>qW δ1[i]? λa _=>tb δ1 (wd λz δ2=>rL δ2[i]? λds=>qI z λk=>∃j,ixN ds.length k=some j/\jB δ2 i (.own a (.lst (ds.set j x))) R.nx))
def C5(i:Nat)(ta:Fc)(R:aZ)(δ:En):Prop:=qWL δ[i]? λa _=>ta δ (wd λx δ1=>rL δ1[i]? λds=>ds.length<9000/\jB δ1 i (.own a (.lst (ds++[x]))) R.nx)
section
variable {X:Cx} {pos:Pos} {a b e:Expr} {es:List Expr} {ta tb:Fc} {t:TDA} {f:Zh→(D→Prop)→Prop}
theorem S.ret{K:PySem.W.Frag}{G:Gf}{δ:En}{P:List (D×V)}{σ:L2.St}{H:Hp}{i:Nat}{a:Addr}{d:D}(s:S K G δ P σ H)(e:δ[i]?=some (.own a d)):xc K G H a d:=by
 obtain⟨A,x⟩:=s;obtain⟨_,aa,oo⟩:=x.own i a d e;exact⟨x.old,x.new a aa,λz=>(x.new a aa).elim (λq=>x.m0 a z q) λq=>(x.pm a q).2 z,iI aa oo⟩
theorem jZ(i:Nat)(hN:X.N[i]?=some x:=by rfl)(hv:Vis X.env.scope x:=by walk_at "v3")(hd:(x==("__debug__":Str))=false:=by decide)
  (hcd:(x==("__classdict__":Str))=false:=by decide):DS X (.Return (some (.Name x p)) pos) (CC i) :=
 PS.imp (sy (dE hN hv hd hcd)) λE σ H ⟨G,δ,P,R,s,h,_,k,_⟩=>let ⟨a,d,e,r⟩:=qW.ex h;⟨.ref a,s.own e,k.2.1 d r a H (s.ret e)⟩
theorem sZ(h:DA X es t):DS X (.Return (some (.List es p)) pos) (Do t) :=
 PS.imp (sy (sL h)) λE σ H ⟨G,δ,P,R,s,h,_,k,_⟩=>⟨G,δ,P,_,s,h,λds δ1 h9 vs H1 hl ⟨A,x⟩=>⟨by rw[<- hl];exact small (q9.ex h9).1,λp hp=>k.2.1 _ (q9.ex h9).2 p _ (by
  have rs:=x.reps ds vs hl (λq hq=>F4 _ hq)
  have sm:=aE hp (.lst vs)
  have nm:¬ (G.M0 p\/A p):=λz=>x.mem p z hp
  refine⟨λb o e n=>sm b o (x.old b o e n),.inl ?_,λz=>nm (.inl z),vs,aD,Reps.kp (Kp.of_same sm) _ _ (Reps.more (λb z=>?_) _ _ rs)⟩
  ·cases q:G.H0 p with
   | none=>rfl
   | some o=>exact absurd hp (x.stay p (by rw[q];exact λz=>nomatch z))
  ·rcases z with z | z
   ·exact .inl (.inl z)
   ·exact .inr (by rw[z];exact hp))⟩⟩
theorem eP(i:Nat)(hN:X.N.Nodup)(h:DA X es t)(hi:X.N[i]?=some x:=by rfl)(hx:Loc X.env.scope x:=by walk_at "v2")(hs:swapsWith (.List es p) (some (.Name x pos')) pos.line X.env=pure false:=by rfl)
  (hf:X.fn x=true\/X.env.scope.names.lookup x=some .local :=by walk_at "v1"):DS X (.Assign [.Name x pos'] (.List es p) pos) (CN i t) :=
 PS.imp (lL hN hi hx (sL h) hs hf) λE σ H ⟨G,δ,P,R,s,h,k,_⟩=>⟨G,δ,P,_,s,h,λds δ1 h9 vs H1 hl ⟨A,x⟩=>⟨by rw[<- hl];exact small (q9.ex h9).1,λp hp=>by
  have r:=(q9.ex h9).2
  have rs:=x.reps ds vs hl (λq hq=>F4 _ hq)
  have sm:=aE hp (.lst vs)
  refine k _ (r p) _ _ ⟨_,x.claim (P':=P) hp sm ⟨vs,aD,Reps.kp (Kp.of_same sm) _ _ (Reps.more (λb z=>?_) _ _ rs)⟩ λq hq=>FR _ hq⟩
  rcases z with z | z
  ·exact .inl z
  ·exact .inr (by rw[z];exact hp)⟩⟩
theorem nv(i:Nat)(hN:X.N.Nodup)(hi:X.N[i]?=some x:=by rfl)(hx:Loc X.env.scope x:=by walk_at "v2")(hs:swapsWith (.Dict [] [] p) (some (.Name x pos')) pos.line X.env=pure false:=by rfl)
  (hf:X.fn x=true\/X.env.scope.names.lookup x=some .local :=by walk_at "v1"):DS X (.Assign [.Name x pos'] (.Dict [] [] p) pos) (BI i) :=
 PS.imp (lL hN hi hx pk hs hf) λE σ H ⟨G,δ,P,R,⟨A,x⟩,h,k,_⟩=>λp hp=>by
  have sm:=aE hp (.dK [])
  exact k _ (h p) _ _ ⟨_,x.claim (P':=P) hp sm ⟨[],by rw[aD];rfl,rfl,Reps.nil⟩ λq hq=>hq⟩
theorem mK(i:Nat){pos2:Pos}(hN:X.N.Nodup)(C:Cal X.prog X.w X.K X.mg X.base k x ps (spN X.K f))(hr:fO k X.A)(hg:Gl X x)(ha:DA X (a::es) t)(hi:X.N[i]?=some y:=by rfl)(hx:Loc X.env.scope y:=by walk_at "v2")
  (hdb:(x==("__debug__":Str))=false:=by decide) (he:starEach (a::es) X.env=(false,eval a X.env)::starEach es X.env:=by rfl) (hpl:(backTo pos2 (starEach es X.env)).any (·.1)=false:=by rfl)
  (hs:swapsWith (.Call (.Name x p) (a::es) [] pos2) (some (.Name y pos')) pos.line X.env=pure false:=by rfl) (hf:X.fn y=true\/X.env.scope.names.lookup y=some .local :=by walk_at "v1") :
  DS X (.Assign [.Name y pos'] (.Call (.Name x p) (a::es) [] pos2) pos) (BW i f t):=by
 obtain⟨g,fd,F,b,kp,m⟩:=C.ex;refine PS.imp (lL hN hi hx (kc F hr hg m kp b .nil vJ ha hdb he hpl) hs hf) λE σ H ⟨G,δ,P,R,s,h,k,_⟩=>⟨G,δ,P,_,s,h,λds δ1 h1 vs H1 hl ⟨A,x⟩=>?_⟩;show spN X.K f (vs++[]) H1 _ _;rw[Gj];exact⟨_,ds,_,x.mem,x.reps ds vs hl (λq hq=>F4 _ hq),h1,λd r a H' sm fr ow=>k _ (r a) _ _ ⟨_,x.claim (P':=P) fr sm ow λq hq=>FR _ hq⟩⟩
theorem uo{K:PySem.W.Frag}{G:Gf}{A:Addr->Prop}{δ:En}{P P':List (D×V)}{σ:L2.St}{H:Hp}{i:Nat}{a:Addr}{d0:D}{ds:Zh}{vs:Zf}{f:FO}{R:D->D->Prop}{Q:VK}{E:XK}(x:Sx K G A δ P σ H)(hi:δ[i]?=some (.own a d0))(hl:ds.length=vs.length)(hp:∀p∈ds.zip vs,p∈P)
  (hP:∀p∈P',p∈P) (hf:f d0 ds R) (k:∀r d1,R r d1->∀v H',S K G (δ.set i (.own a d1)) ((r,v)::P') σ H'->Q v H'):spO K f (.ref a::vs) H Q E:=by
 obtain⟨_,aa,oo⟩:=x.own i a d0 hi;have e1:∀b,(((G.M0 b\/A b)/\b≠a)\/b=a)->(G.M0 b\/A b):=λb h=>h.elim (λz=>z.1) λz=>.inr (by rw[z];exact aa);have e2:∀b,(G.M0 b\/A b)->(((G.M0 b\/A b)/\b≠a)\/b=a):=λb h=>by
  by_cases z:b=a
  ·exact .inr z
  ·exact .inl ⟨h,z⟩
 refine⟨λb=>(G.M0 b\/A b)/\b≠a,a,d0,vs,ds,R,rfl,λb z=>x.mem b z.1,λz=>z.2 rfl,bL.more (λb z=>.inl (e1 b z)) oo,Reps.more (λb z=>.inl (e1 b z)) _ _ (x.reps ds vs hl hp),hf,λr d1 hr v H' hk ow rp=>k r d1 hr v H' ⟨A,?_⟩⟩;exact((x.change hi hk (bL.more (λb z=>.inl (e2 b z)) ow)).sub hP).push (Fo.more (λb z=>.inl (e2 b z)) _ _ rp)
theorem br(i:Nat){f:FO}{p2:Pos}(C:Cal X.prog X.w X.K X.mg X.base k x ps (spO X.K f))(hr:fO k X.A)(hg:Gl X x)(ha:DA X es t)(hN:X.N[i]?=some y:=by rfl)
  (hv:Vis X.env.scope y:=by walk_at "v3") (hd:(y==("__debug__":Str))=false:=by decide) (hcd:(y==("__classdict__":Str))=false:=by decide) (hdb:(x==("__debug__":Str))=false:=by decide)
  (he:starEach (.Name y p2::es) X.env=(false,eval (.Name y p2) X.env)::starEach es X.env:=by rfl) (hpl:(backTo pos (starEach es X.env)).any (·.1)=false:=by rfl) :
  DE X (.Call (.Name x p) (.Name y p2::es) [] pos) (xb i f t):=by
 obtain⟨g,fd,F,b,kp,m⟩:=C.ex;refine PE.imp (kc F hr hg m kp b .nil vJ (cN (dE hN hv hd hcd) ha he) hdb he hpl) λσ H Q ⟨G,δ,P,R,s,h,k,_⟩=>?_;replace h:=qW.ex h;obtain⟨a,d,e,h⟩:=h;refine⟨.ref a,s.own e,G,δ,P,_,s,h,λds δ1 h1 vs H1 hl ⟨A,x⟩=>?_⟩;replace h1:=qWe.ex x (s.own e) h1;obtain⟨d0,hi,hf⟩:=h1;show spO X.K f ((V.ref a::vs)++[]) H1 Q _;rw[Gj];exact uo x hi hl (λq hq=>F4 _ hq) (P':=P) (λq hq=>FR _ hq) hf λr d1 hr v H' s'=>k r _ hr v H' s'
theorem lF(i:Nat){f:FO}{x y:Str}{k:Nat}{ps:Zb}{p p2 pos:Pos}(C:Cal X.prog X.w X.K X.mg X.base k x ps (v8 X.K f))(hr:fO k X.A)(hg:Gl X x)(ha:DE X a ta)(hN:X.N[i]?=some y:=by rfl)
  (hv:Vis X.env.scope y:=by walk_at "v3") (hd:(y==("__debug__":Str))=false:=by decide) (hcd:(y==("__classdict__":Str))=false:=by decide) (hdb:(x==("__debug__":Str))=false:=by decide)
  (he:starEach [a,.Name y p2] X.env=(false,eval a X.env)::starEach [.Name y p2] X.env:=by rfl) (he2:starEach [.Name y p2] X.env=(false,eval (.Name y p2) X.env)::starEach [] X.env:=by rfl) (hpl:(backTo pos (starEach [.Name y p2] X.env)).any (·.1)=false:=by rfl) :
  DE X (.Call (.Name x p) [a,.Name y p2] [] pos) (t9 i f ta):=by
 obtain⟨g,fd,F,b,kp,m⟩:=C.ex;refine PE.imp (kc F hr hg m kp b .nil vJ (cN ha (cN (dE hN hv hd hcd) hV he2) he) hdb he hpl) λσ H Q ⟨G,δ,P,R,s,h,k,_⟩=>up.mk s h λz δ1 h1 v H1 s1=>?_;replace h1:=qW.ex h1;obtain⟨a,d0,hi,hf⟩:=h1;refine⟨.ref a,s1.own hi,?_⟩;show v8 X.K f [v,.ref a] H1 Q _;obtain⟨A,x⟩:=s1;exact⟨v,.ref a,rfl,uo (ds:=[z]) x hi rfl (by simp) (P':=P) (λq hq=>Fz _ hq) hf λr d1 hr v H' s'=>k r _ hr v H' s'⟩
theorem eT{K:PySem.W.Frag}{G:Gf}{A:Addr->Prop}{δ:En}{P:List (D×V)}{σ:L2.St}{H:Hp}{i:Nat}{a:Addr}{ds:Zh}(x:Sx K G A δ P σ H)(hi:δ[i]?=some (.own a (.lst ds))):σ[i]?=some (some (.ref a))/\A a/\∃vs,H a=some (.lst vs)/\Reps K (λb=>G.M0 b\/A b) H ds vs:=by
 obtain⟨h1,h2,vs,h3,h4⟩:=x.own i a _ hi;exact⟨h1,h2,vs,h3,h4⟩
theorem uC(i:Nat)(hb:DE X b tb)(hs:mX b)(hN:X.N[i]?=some y:=by rfl)(hv:Vis X.env.scope y:=by walk_at "v3")
  (hd:(y==("__debug__":Str))=false:=by decide) (hcd:(y==("__classdict__":Str))=false:=by decide):DE X (.Subscript (.Name y p) b pos) (dIxO i tb) :=
 PE.imp (AR tX (dE hN hv hd hcd) hb hs) λσ H Q ⟨G,δ,P,R,s,h,k,_⟩=>let ⟨a,ds0,e,h⟩:=qW.ex h;⟨.ref a,s.own e,up.mk s h λz δ1 h1 v H1 s1=>by
  obtain⟨A,x⟩:=id s1;replace h1:=rL.ex x (s.own e) h1;obtain⟨ds,hi,h1⟩:=h1;replace h1:=qI.ex h1;obtain⟨j,ez,h1⟩:=h1;replace h1:=E2.ex h1;obtain⟨w,ew,r⟩:=h1;subst ez;obtain⟨_,aa,vs,ab,rs⟩:=eT x hi;obtain⟨n,h1,h2⟩:=tq (Reps.length _ _ rs) ew;obtain⟨u,hu,ru⟩:=Reps.get _ _ rs n w h1
  exact⟨a,vs,j,u,rfl,aI (x.pnd (.int j,v) (by simp)),EX.of ab,h2 u hu,k w δ1 r u H1 ⟨A,(x.sub (P':=P) λq hq=>Fz _ hq).push ru⟩⟩⟩
theorem yl(i:Nat){p2:Pos}(hg:Gl X "len")(hm:X.mg "len"=none)(hv':bootBuiltins "len"=some (.builtin "len"))(hN:X.N[i]?=some y:=by rfl)(hv:Vis X.env.scope y:=by walk_at "v3")
  (hd:(y==("__debug__":Str))=false:=by decide) (hcd:(y==("__classdict__":Str))=false:=by decide) (he:starEach [.Name y p2] X.env=(false,eval (.Name y p2) X.env)::starEach [] X.env:=by rfl) (hpl:(backTo pos (starEach [] X.env)).any (·.1)=false:=by rfl) :
  DE X (.Call (.Name "len" p) [.Name y p2] [] pos) (By i) :=
 PE.imp (kE gg hg hm hv' (cN (dE hN hv hd hcd) hV he) (by decide) (by decide) he hpl) λσ H Q ⟨G,δ,P,R,s,h,k,_⟩=>by
  replace h:=qWL.ex h;obtain⟨a,ds,e,h⟩:=h;obtain⟨A,x⟩:=id s;obtain⟨h1,aa,vs,ab,rs⟩:=eT x e;exact⟨.ref a,h1,a,vs,rfl,.inl (EX.of ab),k _ δ h _ H (s.sc (by rw[Reps.length _ _ rs];rfl))⟩
theorem zA(i:Nat)(he:DE X e ta)(hb:DE X b tb)(hN:X.N[i]?=some y:=by rfl)(hv:Vis X.env.scope y:=by walk_at "v3")
    (hd:(y==("__debug__":Str))=false:=by decide) (hcd:(y==("__classdict__":Str))=false:=by decide) (hs:swapsWithSole [.Subscript (.Name y p) b pos'] e pos.line X.env=pure false:=by rfl) (hw:swappedStores [.Subscript (.Name y p) b pos'] e X.env=pure none:=by rfl)
    (h1:(assignEach [.Subscript (.Name y p) b pos'] X.env).map (·.2)=[assign (.Subscript (.Name y p) b pos') X.env]:=by rfl)
    (ha:∀v,assign (.Subscript (.Name y p) b pos') X.env v=(do
      let ov<-holding [v] (eval (.Name y p) X.env)
      let iv<-holding [v,ov] (eval b X.env)
      standAt pos'
      holding [v,ov,iv] (setItem ov iv v)
      release [v,ov,iv] []):=by intro _;rfl) :
    DS X (.Assign [.Subscript (.Name y p) b pos'] e pos) (Di i ta tb) :=
  PS.imp (xI he (Ce (dE hN hv hd hcd) hb we ha) hs hw h1) λE σ H ⟨G,δ,P,R,s,h,k,_⟩=>up.mk s h λx δ1 h1 v H1 s1=>let ⟨a,ds0,hi0,h1⟩:=qW.ex h1;⟨.ref a,s1.own hi0,up.mk s1 h1 λz δ2 h2 u H2 ⟨A,q⟩=>by
    replace h2:=rL.ex q (s1.own hi0) h2;obtain⟨ds,hi,h2⟩:=h2;replace h2:=qI.ex h2;obtain⟨n,ez,h2⟩:=h2;obtain⟨j,hj,r⟩:=h2;subst ez;obtain⟨_,aa,vs,ab,rs⟩:=eT q hi;refine⟨a,vs,n,j,rfl,aI (q.pnd (.int n,u) (by simp)),ab,by rw[<- Reps.length _ _ rs];exact hj,k _ r _ _ ⟨A,(q.change (d':=.lst (ds.set j x)) hi (λb o n e=>by rw[aJ n];exact e) ⟨vs.set j v,aD,?_⟩).sub (P':=P) λq hq=>Fz _ (Fz _ hq)⟩⟩;have kp:Kp (λb=>G.M0 b\/A b) H2 (EW H2 a (.lst (vs.set j v))):=by
      have hk:∀b o,b≠a->H2 b=some o->EW H2 a (.lst (vs.set j v)) b=some o:=λb o n e=>by rw[aJ n];exact e
      exact⟨λb o e n=>hk b o (λz=>n (.inr (by rw[z];exact aa))) e,λb xs e=>hk b _ (λz=>by rw[z,ab] at e;cases e) e,λb o u e=>hk b _ (λz=>by rw[z,ab] at e;cases e) e⟩
    exact Reps.kp kp _ _ (Reps.set (q.pnd (x,v) (by simp)) j _ _ rs)⟩
theorem bT(i:Nat){apos cpos:Pos}(he:DE X e ta)(hN:X.N[i]?=some y:=by rfl)(hv:Vis X.env.scope y:=by walk_at "v3")
  (hd:(y==("__debug__":Str))=false:=by decide) (hcd:(y==("__classdict__":Str))=false:=by decide)
  (hbase:attributeBase (.Name y p) "append" X.env (eval (.Name y p) X.env)=eval (.Name y p) X.env:=by rfl)
  (hfew:((backTo cpos (starEach [e] X.env)).all (λx=>!x.1)&&(backToKw cpos (keywordEach [] X.env)).all (λx=>x.1.isSome)&&decide ([e].length+([]:List Keyword).length+(if ([]:List Keyword).isEmpty then 0 else 1)<30))=true:=by rfl)
  (hline:(apos.endLine==cpos.line)=true:=by rfl) (hs:starEach [e] X.env=(false,eval e X.env)::starEach [] X.env:=by rfl) (hplain:(backTo cpos (starEach [] X.env)).any (·.1)=false:=by rfl)
  (hsw:swapsWith (.Call (.Attribute (.Name y p) "append" apos) [e] [] cpos) none pos.line X.env=pure false:=by rfl) :
  DS X (.Expr (.Call (.Attribute (.Name y p) "append" apos) [e] [] cpos) pos) (C5 i ta) :=
 PS.imp (m8 (BS PySem.F.plainAttrs_list PySem.F.slot_list_append PySem.F.type_list_append lN (dE hN hv hd hcd) (cN he hV hs) hbase hfew hline hs hplain) hsw) λE σ H ⟨G,δ,P,R,s,h,k,_⟩=>by
  replace h:=qWL.ex h;obtain⟨a,al,ai,h⟩:=h;obtain⟨A0,x0⟩:=id s;obtain⟨h0,_,aj,ah,_⟩:=eT x0 ai;refine⟨.ref a,h0,.inl ⟨rfl,aj,EX.of ah⟩,up.mk s h λx δ1 h1 v H1 ⟨A,q⟩=>?_⟩;replace h1:=rL.ex q h0 h1;obtain⟨ds,hi,hz,r⟩:=h1;obtain⟨_,aa,vs,ab,rs⟩:=eT q hi;refine⟨a,vs,v,rfl,rfl,ab,by rw[<- Reps.length _ _ rs];exact fQ (G5 hz),k _ r _ _ ⟨A,(q.change (d':=.lst (ds++[x])) hi (λb o n e=>by rw[aJ n];exact e) ⟨vs++[v],aD,?_⟩).sub (P':=P) λq hq=>Fz _ hq⟩⟩;have kp:Kp (λb=>G.M0 b\/A b) H1 (EW H1 a (.lst (vs++[v]))):=by
   have hk:∀b o,b≠a->H1 b=some o->EW H1 a (.lst (vs++[v])) b=some o:=λb o n e=>by rw[aJ n];exact e
   exact⟨λb o e n=>hk b o (λz=>n (.inr (by rw[z];exact aa))) e,λb xs e=>hk b _ (λz=>by rw[z,ab] at e;cases e) e,λb o u e=>hk b _ (λz=>by rw[z,ab] at e;cases e) e⟩
  exact Reps.kp kp _ _ (Reps.append _ _ _ _ rs (Reps.one (q.pnd (x,v) (by simp))))
theorem cc(i:Nat){st:List Stmt}{u:TDS}(h:DSs X st u):DSs X st (mP i u) :=
 PSs.imp h λE σ H ⟨G,δ,P,R,⟨A,x⟩,h,k⟩=>let ⟨a,d,e,h⟩:=qW.ex h;⟨G,_,P,R,⟨_,x.freeze e λz=>(x.new a (x.own i a d e).2.1).elim (λq=>x.m0 a z q) λq=>(x.pm a q).2 z⟩,h,k⟩
end
end DL
namespace DL
open PySem PySem.Spec PyProof.Rows L2
variable {ks:Zb} {x:Str} {vs:Zf} {v:V} {ds:Zh} {R:D→Prop} {g:Bool→Bool}
def dAt{α:Type}:Zb->List α->Str->Option α
 | k::ks,d::ds,x=>if k=x then some d else dAt ks ds x
 | _,_,_=>none
def my{α:Type}:Zb->List α->Str->α->List α
 | k::ks,d::ds,x,y=>(if k=x then y else d)::my ks ds x y
 | _,ds,_,_=>ds
def jf(ks:Zb)(x:Str):Zb:=if x∈ks then ks else ks++[x]
def kY{α:Type}(ks:Zb)(ds:List α)(x:Str)(y:α):List α:=if x∈ks then my ks ds x y else ds++[y]
theorem oQ{α:Type}:∀(ks:Zb) (ds:List α) (x:Str) (y:α),(my ks ds x y).length=ds.length
 | [],ds,_,_=>by cases ds<;>rfl
 | k::ks,[],_,_=>rfl
 | k::ks,d::ds,x,y=>by unfold my;rw[FL,FL,oQ ks ds x y]
theorem Ae{α:Type}{ds:List α}{y:α}(h:ks.length=ds.length):(jf ks x).length=(kY ks ds x y).length:=by
 unfold jf kY
 by_cases e:x∈ks
 ·rw[FP e,FP e,oQ];exact h
 ·rw[FN e,FN e,FF,FF,h];rfl
theorem vI(x:Str)(h:ks.length=vs.length):((cj ks vs).any λkv=>decide (kv.1=Sum.inr x))=decide (x∈ks):=by
 induction ks generalizing vs with
 | nil=>rfl
 | cons k ks ih =>
  cases vs with
  | nil=>cases h
  | cons v vs =>
   show ((Sum.inr k,v)::cj ks vs).any _=_
   rw[HE,ih (He h)]
   by_cases e:k=x
   ·subst e;simp
   ·have e2:¬ x=k:=λz=>e z.symm
    simp[e,e2]
theorem wv(x:Str)(y:V):(cj ks vs).map (λkv=>if kv.1=Sum.inr x then (kv.1,y) else kv)=cj ks (my ks vs x y):=by
 induction ks generalizing vs with
 | nil=>rfl
 | cons k ks ih =>
  cases vs with
  | nil=>rfl
  | cons v vs =>
   show ((Sum.inr k,v)::cj ks vs).map _=(Sum.inr k,if k=x then y else v)::cj ks (my ks vs x y)
   rw[F7,ih]
   by_cases e:k=x
   ·subst e;simp
   ·have:¬ (Sum.inr k:Fq)=Sum.inr x:=λz=>e (Sum.inr.inj z)
    simp[e]
theorem xX(x:Str)(y:V)(h:ks.length=vs.length):qA (cj ks vs) (Sum.inr x) y=cj (jf ks x) (kY ks vs x y):=by
 unfold qA;rw[vI x h];unfold jf kY
 by_cases e:x∈ks
 ·rw[F6 e,FP rfl,FP e,FP e,wv]
 ·rw[F5 e,FN FG,FN e,FN e];unfold cj;rw[F3,List.zip_append (by rw[Fy];exact h)];rfl
theorem fg(x:Str):pF (cj ks vs) (Sum.inr x)=dAt ks vs x:=by
 induction ks generalizing vs with
 | nil=>rfl
 | cons k ks ih =>
  cases vs with
  | nil=>rfl
  | cons v vs =>
   show pF ((Sum.inr k,v)::cj ks vs) _=if k=x then some v else dAt ks vs x
   by_cases e:k=x
   ·subst e;rw[gG rfl,FP rfl]
   ·rw[gF (λz=>e (Sum.inr.inj z)),FN e,ih]
section
variable {K:PySem.W.Frag} {M:Addr→Prop} {H:Hp}
theorem Reps.rep{d:D}(r:Fo K M H d v)(x:Str):∀(ks:Zb) (ds:Zh) (vs:Zf),Reps K M H ds vs->Reps K M H (my ks ds x d) (my ks vs x v)
 | [],ds,vs,h=>by
  have e1:my [] ds x d=ds:=by cases ds<;>rfl
  have e2:my [] vs x v=vs:=by cases vs<;>rfl
  rw[e1,e2];exact h
 | k::ks,[],vs,h=>by unfold Reps at h;subst h;exact Reps.nil
 | k::ks,e::ds,vs,h=>by
  unfold Reps at h;obtain⟨w,rs,rfl,q,s⟩:=h;show Reps K M H ((if k=x then d else e)::my ks ds x d) ((if k=x then v else w)::my ks rs x v);refine Reps.cons ?_ (Reps.rep r x ks ds rs s)
  by_cases z:k=x
  ·rw[FP z,FP z];exact r
  ·rw[FN z,FN z];exact q
theorem Reps.put{d:D}(x:Str)(h:Reps K M H ds vs)(r:Fo K M H d v):Reps K M H (kY ks ds x d) (kY ks vs x v):=by
 unfold kY
 by_cases e:x∈ks
 ·rw[FP e,FP e];exact Reps.rep r x ks ds vs h
 ·rw[FN e,FN e];exact Reps.append _ _ _ _ h (Reps.one r)
theorem Reps.dAt(x:Str):∀(ks:Zb) (ds:Zh) (vs:Zf),Reps K M H ds vs->(∀d,DL.dAt ks ds x=some d->∃v,DL.dAt ks vs x=some v/\Fo K M H d v)/\(DL.dAt ks ds x=none->DL.dAt ks vs x=none)
 | [],ds,vs,h=>⟨λd e=>(nomatch e),λ_=>rfl⟩
 | k::ks,[],vs,h=>by unfold Reps at h;subst h;exact⟨λd e=>(nomatch e),λ_=>rfl⟩
 | k::ks,e::ds,vs,h=>by
  unfold Reps at h;obtain⟨w,rs,rfl,q,s⟩:=h;obtain⟨h1,h2⟩:=Reps.dAt x ks ds rs s;show (∀d,(if k=x then some e else DL.dAt ks ds x)=some d->∃v,(if k=x then some w else DL.dAt ks rs x)=some v/\_)/\((if k=x then some e else DL.dAt ks ds x)=none->(if k=x then some w else DL.dAt ks rs x)=none)
  by_cases z:k=x
  ·simp only[if_pos z];exact⟨λd e=>by cases e;exact⟨w,rfl,q⟩,λe=>(nomatch e)⟩
  ·simp only[if_neg z];exact⟨h1,h2⟩
theorem kn{α:Type}{ds:List α}(h:ks.length=ds.length):(dAt ks ds x).isSome=decide (x∈ks):=by
 induction ks generalizing ds with
 | nil=>rfl
 | cons k ks ih =>
  cases ds with
  | nil=>cases h
  | cons v vs =>
   show (if k=x then some v else dAt ks vs x).isSome=_
   by_cases e:k=x
   ·subst e;simp
   ·have e2:¬ x=k:=λz=>e z.symm
    rw[FN e,ih (He h)];simp[e2]
end
def vg:Zh->(D->Prop)->Prop
 | [.dct ks ds,.str x],R=>∃d,dAt ks ds x=some d/\R d
 | [.fd ks ds,.str x],R=>∃d,dAt ks ds x=some d/\R d
 | _,_=>False
theorem wJ:∀ {d0:Zh} {R:D->Prop},vg d0 R->((∃(ks:Zb) (ds:Zh) (x:Str),d0=[.dct ks ds,.str x]/\∃d,dAt ks ds x=some d/\R d)\/(∃(ks:Zb) (ds:Zh) (x:Str),d0=[.fd ks ds,.str x]/\∃d,dAt ks ds x=some d/\R d)):=by walk_at "or"
theorem vy:vg [.fd ks ds,.str x] R=(∃d,dAt ks ds x=some d/\R d):=rfl
theorem wg:vg [.dct ks ds,.str x] R=(∃d,dAt ks ds x=some d/\R d):=rfl
def fIn(g:Bool->Bool):Zh->(D->Prop)->Prop
 | [.str x,.dct ks _],R=>R (.bl (g (decide (x∈ks))))
 | [.str x,.lst ds],R=>∃ss:Zb,ds=ss.map D.str/\R (.bl (g (decide (x∈ss))))
 | _,_=>False
theorem wO{d0:Zh}(h:fIn g d0 R):(∃(x:Str) (ks:Zb) (z1:Zh),d0=[.str x,.dct ks z1]/\R (.bl (g (decide (x∈ks)))))\/(∃(x:Str) (ds:Zh),d0=[.str x,.lst ds]/\∃ss:Zb,ds=ss.map D.str/\R (.bl (g (decide (x∈ss))))):=by
 rcases d0 with _ | ⟨a,_ | ⟨b,_ | ⟨c,l⟩⟩⟩
 ·exact False.elim h
 ·cases a<;>exact False.elim h
 ·cases a<;>first | exact False.elim h | (cases b<;>first | exact False.elim h | exact .inl ⟨_,_,_,rfl,h⟩ | exact .inr ⟨_,_,rfl,h⟩)
 ·cases a<;>first | exact False.elim h | (cases b<;>exact False.elim h)
theorem AI:fIn g [.str x,.dct ks ds] R=(R (.bl (g (decide (x∈ks))))):=rfl
theorem zZ:fIn g [.str x,.lst ds] R=(∃ss:Zb,ds=ss.map D.str/\R (.bl (g (decide (x∈ss))))):=rfl
theorem ff{K:PySem.W.Frag}{M:Addr->Prop}{H:Hp}:∀ {ss:Zb} {vs:Zf},Reps K M H (ss.map D.str) vs->vs=ss.map V.str
 | [],vs,h=>by unfold Reps at h;exact h
 | s::ss,vs,h=>by
  rw[F7] at h;unfold Reps at h;obtain⟨v,r,rfl,q,t⟩:=h;rw[bH q,ff t];rfl
theorem cP{K:PySem.W.Frag}{M:Addr->Prop}{H:Hp}:∀(ss:Zb),Reps K M H (ss.map D.str) (ss.map V.str)
 | []=>Reps.nil
 | s::ss=>Reps.cons (by unfold Fo;rfl) (cP ss)
theorem eg:∀ {ss:Zb} {us:Zc},bv (ss.map V.str) us->StrsAre us ss
 | [],_,r=>by rw[Hc] at r;cases r;exact .nil
 | s::ss,_,r=>by
  rw[F7] at r
  cases r with
  | @cons _ u _ us h t =>
   obtain⟨t',e⟩:=(show ∃t,u=Value.str s t from h);subst e;exact .cons _ _ (eg t)
theorem cT:∀ {ss:Zb} {us:Zc},StrsAre us ss->bv (ss.map V.str) us
 | _,_,.nil=>.nil
 | _,_,.cons _ _ h=>.cons ⟨_,rfl⟩ (cT h)
theorem jR(x:Str):∀ {us:Zc} {ss:Zb},StrsAre us ss->us.any (λy=>match y with | .str z _=>z==x | _=>false)=decide (x∈ss)
 | _,_,.nil=>rfl
 | _,_,.cons y t (vs:=us) (ys:=ss) h=>by
  rw[HE,jR x h]
  by_cases e:y=x
  ·subst e;simp
  ·have e2:¬ x=y:=λz=>e z.symm
   simp[e,e2]
theorem pf{us:Zc}{ss:Zb}(h:StrsAre us ss):∀y∈us,∃z t,y=Value.str z t:=by
 induction h with
 | nil=>intro y hy;cases hy
 | cons z t h ih =>
  intro y hy
  rcases FJ.mp hy with rfl | hy
  ·exact⟨z,t,rfl⟩
  ·exact ih y hy
section
variable {X:Cx}
theorem o_in(hu:X.A.units+64<cLine):E9 X (compareOp .In) λx y=>aL X.K (fIn id) [x,y]:=by
 intro aa s σ H x y v u Q I rx ry h;obtain⟨M,ds,R,m,rs,h,k⟩:=h;have ab:∀b s',Inv X aa σ H s'->R (.bl b)->EP X aa σ Q (.bool b) s':=λb s' I' r=>⟨.bl b,H,I',rfl,k _ r _ H (bM.refl H) (Fo.sc rfl)⟩;replace h:=wO h
 rcases h with⟨_,_,_,rfl,h⟩ | ⟨x0,_,rfl,h⟩
 ·obtain⟨h1,h2⟩:=bF rs
  cases bH h1
  unfold Fo at h2;obtain⟨a,vs,rfl,_,e,l,r⟩:=h2
  cases ry
  refine d_in (by omega) I (pP.k (k:=Sum.inr _) e) rx λs' I'=>?_;rw[fg,kn (by rw[l,Reps.length _ _ r])];exact ab _ _ I' h
 ·obtain⟨ss,rfl,h⟩:=h;obtain⟨h1,h2⟩:=bF rs
  cases bH h1
  unfold Fo at h2;obtain⟨a,vs,rfl,_,e,r⟩:=h2
  cases ry
  cases ff r
  obtain⟨t,rfl⟩:=rx;obtain⟨ah,rv,pl,_⟩:=I.list (EX.of e);have hs:=eg rv;refine SeqAt.in_listAt (λy=>match y with | .str z _=>z==x0 | _=>false) pl.isList (λy hy=>?_) ?_
  ·obtain⟨z,t',rfl⟩:=pf hs y (by simpa using hy);exact HD z t' x0 t
  ·rw[List.any_toArray,jR x0 hs];exact ab _ _ I h
theorem yB(hu:X.A.units+64<cLine):E9 X (compareOp .NotIn) λx y=>aL X.K (fIn Bool.not) [x,y]:=by
 intro aa s σ H x y v u Q I rx ry h;obtain⟨M,ds,R,m,rs,h,k⟩:=h;have ab:∀b s',Inv X aa σ H s'->R (.bl b)->EP X aa σ Q (.bool b) s':=λb s' I' r=>⟨.bl b,H,I',rfl,k _ r _ H (bM.refl H) (Fo.sc rfl)⟩;replace h:=wO h
 rcases h with⟨_,_,_,rfl,h⟩ | ⟨x0,_,rfl,h⟩
 ·obtain⟨h1,h2⟩:=bF rs
  cases bH h1
  unfold Fo at h2;obtain⟨a,vs,rfl,_,e,l,r⟩:=h2
  cases ry
  refine zc (by omega) I (pP.k (k:=Sum.inr _) e) rx λs' I'=>?_;rw[fg,kn (by rw[l,Reps.length _ _ r])];exact ab _ _ I' h
 ·obtain⟨ss,rfl,h⟩:=h;obtain⟨h1,h2⟩:=bF rs
  cases bH h1
  unfold Fo at h2;obtain⟨a,vs,rfl,_,e,r⟩:=h2
  cases ry
  cases ff r
  obtain⟨t,rfl⟩:=rx;obtain⟨ah,rv,pl,_⟩:=I.list (EX.of e);have hs:=eg rv;refine SeqAt.notIn_listAt (λy=>match y with | .str z _=>z==x0 | _=>false) pl.isList (λy hy=>?_) ?_
  ·obtain⟨z,t',rfl⟩:=pf hs y (by simpa using hy);exact HD z t' x0 t
  ·rw[List.any_toArray,jR x0 hs];exact ab _ _ I h
def yg:Zh->(D->Prop)->Prop
 | [.int i,.int j],R=>R (.bl (!decide (i=j)))
 | [.str x,.str y],R=>R (.bl (!decide (x=y)))
 | [.bl a,.bl b],R=>R (.bl (!decide (a=b)))
 | [.tup xs,.tup ys],R=>(xs=ys/\D.nds xs=true/\D.dps xs<=60)/\R (.bl false)
 | [.lst xs,.lst ys],R=>(xs=ys/\D.nds xs=true/\D.dps xs<=60)/\R (.bl false)
 | _,_=>False
theorem yC:∀ {d0:Zh} {R:D->Prop},yg d0 R->((∃(i:Int) (j:Int),d0=[.int i,.int j]/\R (.bl (!decide (i=j))))\/(∃(x:Str) (y:Str),d0=[.str x,.str y]/\R (.bl (!decide (x=y))))\/(∃(a:Bool) (b:Bool),d0=[.bl a,.bl b]/\R (.bl (!decide (a=b))))\/(∃(xs:Zh) (ys:Zh),d0=[.tup xs,.tup ys]/\(xs=ys/\D.nds xs=true/\D.dps xs<=60)/\R (.bl false))\/(∃(xs:Zh) (ys:Zh),d0=[.lst xs,.lst ys]/\(xs=ys/\D.nds xs=true/\D.dps xs<=60)/\R (.bl false))):=by walk_at "or"
theorem vO{i j:Int}:yg [.int i,.int j] R=(R (.bl (!decide (i=j)))):=rfl
theorem wj{i j:Str}:yg [.str i,.str j] R=(R (.bl (!decide (i=j)))):=rfl
theorem Af{i j:Bool}:yg [.bl i,.bl j] R=(R (.bl (!decide (i=j)))):=rfl
theorem vA{xs ys:Zh}:yg [.tup xs,.tup ys] R=((xs=ys/\D.nds xs=true/\D.dps xs<=60)/\R (.bl false)):=rfl
theorem wp{xs ys:Zh}:yg [.lst xs,.lst ys] R=((xs=ys/\D.nds xs=true/\D.dps xs<=60)/\R (.bl false)):=rfl
theorem nE{α β:Type}{F:α->β->Prop}:∀ {l₁:List α} {l₂:List β} {j:Nat} {b:β},Paired F l₁ l₂->l₂[j]?=some b->∃a,l₁[j]?=some a/\F a b
 | _,_,_,_,.nil,e=>by simp at e
 | _,_,0,_,.cons h t,e=>by simp at e;subst e;exact⟨_,rfl,h⟩
 | _,_,j+1,_,.cons h t,e=>by
  obtain⟨a,q,f⟩:=nE (j:=j) t (by simpa using e);exact⟨a,by simpa using q,f⟩
theorem tV{j:Nat}{k:Fq}(e:(cj ks vs)[j]?=some (k,v)):∃x,k=Sum.inr x/\ks[j]?=some x/\vs[j]?=some v:=by
 unfold cj at e;rw[List.getElem?_zip_eq_some] at e;obtain⟨e1,e2⟩:=e;rw[List.getElem?_map] at e1
 cases h:ks[j]? with
 | none=>rw[h] at e1;cases e1
 | some x=>rw[h] at e1;exact⟨x,(FU e1).symm,rfl,e2⟩
theorem kG(hu:X.A.units+64<cLine):E9 X (compareOp .NotEq) λx y=>aL X.K yg [x,y]:=by
 intro ah s σ H x y v u Q I rx ry h;obtain⟨M,ds,R,m,rs,h,k⟩:=h;have an:∀b,R (.bl b)->EP X ah σ Q (.bool b) s:=λb r=>⟨.bl b,H,I,rfl,k _ r _ H (bM.refl H) (Fo.sc rfl)⟩;replace h:=yC h
 rcases h with⟨_,_,rfl,h⟩ | ⟨_,_,rfl,h⟩ | ⟨_,_,rfl,h⟩ | ⟨_,_,rfl,h⟩ | ⟨_,_,rfl,h⟩
 ·exact o_ne hu ah s σ H x y v u Q I rx ry ⟨M,_,R,m,rs,h,k⟩
 ·exact o_ne hu ah s σ H x y v u Q I rx ry ⟨M,_,R,m,rs,h,k⟩
 ·exact o_ne hu ah s σ H x y v u Q I rx ry ⟨M,_,R,m,rs,h,k⟩
 ·obtain⟨⟨e,hn,hd⟩,h⟩:=h;subst e;obtain⟨h1,h2⟩:=bF rs;unfold Fo at h1 h2;obtain⟨a,vs,rfl,sq,ai⟩:=h1;obtain⟨b,ws,rfl,al,aj⟩:=h2
  cases rx
  cases ry
  obtain⟨ab,r1,t1,_⟩:=I.tuple sq;obtain⟨aa,r2,t2,_⟩:=I.tuple al;have hs:ab.length=aa.length:=by rw[<- r1.length,<- r2.length,<- Reps.length _ _ ai,<- Reps.length _ _ aj]
  refine SeqAt.RcNeAt.tuples (e:=λ_=>true) t1 t2 (by omega) (eqAt_Ds I _ X.A.in1 vs ws ab aa hn (by rw[cu];omega) ai aj r1 r2) _ _ _ _ ?_;have z:((List.range (min ab.toArray.size aa.toArray.size)).all (λ_=>true)&&ab.toArray.size==aa.toArray.size)=true:=by simp[hs]
  rw[z];exact an _ h
 ·obtain⟨⟨e,hn,hd⟩,h⟩:=h;subst e;obtain⟨h1,h2⟩:=bF rs;unfold Fo at h1 h2;obtain⟨a,vs,rfl,_,sq,ai⟩:=h1;obtain⟨b,ws,rfl,_,al,aj⟩:=h2
  cases rx
  cases ry
  obtain⟨ab,r1,t1,_⟩:=I.list (EX.of sq);obtain⟨aa,r2,t2,_⟩:=I.list (EX.of al);have hs:ab.length=aa.length:=by rw[<- r1.length,<- r2.length,<- Reps.length _ _ ai,<- Reps.length _ _ aj]
  refine SeqAt.RcNeAt.lists (e:=λ_=>true) t1.isList t2.isList (by simp[hs]) (by omega) (eqAt_Ds I _ X.A.in1 vs ws ab aa hn (by rw[cu];omega) ai aj r1 r2) _ _ _ _ ?_;rw[er];exact an _ h
end
end DL
namespace DL
open PySem PySem.Spec PyProof.Rows L2
variable {ds:Zh} {R:D→Prop}
section
variable {prog:Program} {w:World} {A:Around} {E:Value→Shared→Prop} {s:Shared}
theorem jD{a:Addr}{vs:Zc}{ss:Zb}{n:Nat}{Q:Value->Shared->Prop}(ho:s.heap.get? a=some (seqObj "list" vs.toArray n))(hS:StrsAre vs ss)(h64:vs.length<64)
  (h:∀(out:Array Value) (ss':Zb),StrsAre out.toList ss'->ss'.Perm ss->sortedS ss'=true->Q .none { s with heap:=sortedHeap s.heap a vs out }) :
  wpAny (model prog w) A (call (.builtin "list.sort") [.ref a]) Q E s:=by
 refine GO slot_list_sort ⟨_,ho,rfl⟩ entry_list_sort (list_sort_treeK strKind_oneLt ho hS.keysOf (λv₁ v₂ dH e=>keyKind_strs (by rw[<- e];exact hS)) h64 λst' hp hs=>?_) (args_list_sort _);obtain⟨ss',h1,h2,h3⟩:=sorted_out_str hS hp hs;exact⟨_,rfl,h _ ss' h1 h2 h3⟩
end
abbrev Srt(ss:List Str):Prop:=sortedS ss=true
def io:Zh->(D->Prop)->Prop
 | [.lst ds],R=>∃ss:Zb,ds=ss.map D.str/\ss.length<64/\∀ss',ss'.Perm ss->Srt ss'->R (.lst (ss'.map D.str))
 | [.dct ks _],R=>ks.length<64/\∀ss',ss'.Perm ks->Srt ss'->R (.lst (ss'.map D.str))
 | [.fd ks _],R=>ks.length<64/\∀ss',ss'.Perm ks->Srt ss'->R (.lst (ss'.map D.str))
 | _,_=>False
theorem qO:∀ {d0:Zh} {R:D->Prop},io d0 R->((∃(ds:Zh),d0=[.lst ds]/\∃ss:Zb,ds=ss.map D.str/\ss.length<64/\∀ss',ss'.Perm ss->Srt ss'->R (.lst (ss'.map D.str)))\/(∃(ks:Zb) (z1:Zh),d0=[.dct ks z1]/\ks.length<64/\∀ss',ss'.Perm ks->Srt ss'->R (.lst (ss'.map D.str)))\/(∃(ks:Zb) (z1:Zh),d0=[.fd ks z1]/\ks.length<64/\∀ss',ss'.Perm ks->Srt ss'->R (.lst (ss'.map D.str)))):=by walk_at "or"
theorem nP:io [.lst ds] R=(∃ss:Zb,ds=ss.map D.str/\ss.length<64/\∀ss',ss'.Perm ss->Srt ss'->R (.lst (ss'.map D.str))):=rfl
theorem pW{ks:Zb}:io [.fd ks ds] R=(ks.length<64/\∀ss',ss'.Perm ks->Srt ss'->R (.lst (ss'.map D.str))):=rfl
theorem mI{ks:Zb}:io [.dct ks ds] R=(ks.length<64/\∀ss',ss'.Perm ks->Srt ss'->R (.lst (ss'.map D.str))):=rfl
theorem iS{P:Program}{w:World}:∀ {ks:Zb} {us:Zc},ks.length=us.length->(∀(j:Nat) v k,us[j]?=some v->ks[j]?=some k->(bg P w).is (Sum.inr k) v=true)->StrsAre us ks
 | [],[],_,_=>.nil
 | [],_::_,l,_=>by cases l
 | _::_,[],l,_=>by cases l
 | k::ks,u::us,l,h=>by
  have h0:=h 0 u k rfl rfl
  obtain⟨t,rfl⟩:∃t,u=Value.str k t:=by
   have:ni (Sum.inr k) u=true:=h0
   rcases aS this with⟨i,t,e,_⟩ | ⟨x,t,e,e2⟩
   ·cases e
   ·cases e;exact⟨t,e2⟩
  exact .cons _ _ (iS (He l) λj v k' e1 e2=>h (j+1) v k' (by simpa using e1) (by simpa using e2))
section
variable {X:Cx}
theorem oW(hc:X.calm=true):cm X (.builtin "sorted") (aL X.K io):=by
 intro aa s σ H xs us Q I rv h;obtain⟨M,ds,R,m,rs,h,k⟩:=h;replace h:=qO h
 rcases h with⟨_,rfl,h⟩ | ⟨_,_,rfl,h⟩ | ⟨_,_,rfl,h⟩
 ·obtain⟨ss,rfl,as,h⟩:=h;obtain⟨x,rfl,q⟩:=aV rs;unfold Fo at q;obtain⟨a,vs,rfl,_,e,r⟩:=q;obtain⟨u,rfl,ru⟩:=e5 rv
  cases ru
  cases ff r
  obtain⟨ai,ao,pl,_⟩:=I.list (EX.of e);have hs:=eg ao;have hl:ai.length=ss.length:=by rw[<- ao.length,Fy]
  refine sorted_strs pl.isList hs (by omega) λout ss' h1 h2 h3=>?_;obtain⟨ep,he⟩:=sortedAll_at s.heap ai out;have hz:(ss'.map V.str).length<=sizeLine:=by rw[Fy,h2.length_eq];exact small (by omega)
  have I2:L2.Inv X aa σ (EW H (s.heap.objs.size+1) (.lst (ss'.map V.str))) { s with heap:=sortedAll s.heap ai out } :=
   I.laid (t':=s.toks) (λb o=>sortedAll_old) (Nat.le_succ _) (show bV X.prog X.w _ _ _ (.lst (ss'.map V.str)) from⟨hz,out.toList,ep,cT h1,he⟩)
  have fr:H (s.heap.objs.size+1)=none:=I.hok.fresh (Nat.le_succ _)
  refine⟨.ref _,_,I2,rfl,k _ (h ss' h2 h3) _ _ (aE fr _) ?_⟩;unfold Fo;exact⟨_,_,rfl,λz=>m _ z fr,aD,cP ss'⟩
 ·obtain⟨as,h⟩:=h
  rename_i ks ds
  obtain⟨x,rfl,q⟩:=aV rs;unfold Fo at q;obtain⟨a,vs,rfl,_,e,l,r⟩:=q;obtain⟨u,rfl,ru⟩:=e5 rv
  cases ru
  obtain⟨hz,lo,va,ra,da⟩:=C6 I.hok e;obtain⟨ep,an⟩:=da.dictAt;have lv:=Reps.length _ _ r;have ab:va.length=ks.length:=by
   rw[<- ra.length];unfold cj;rw[GV,Fy];omega
  refine Ho kind_sorted plain_sorted entry_sorted (args_sorted1 _) ?_;unfold Builtin.«sorted»;refine FA (m:=checkCount "sorted" 1 1 _) (FQ ?_);refine FA (PySem.W.kdu_collect (A:=X.A.in1) (PySem.W.kdl_dict (knd:=bg X.prog X.w) (kvs:=va) (ep:=ep) lo) (I.ok.hd hc) an (by rw[ab];exact small (by omega)) λh' tk acc hk hacc=>?_);have hl:acc.toList.length=ks.length:=by rw[Ht,<- ab];exact hacc.1
  have hS:StrsAre acc.toList ks:=iS hl.symm λj v k' e1 e2=>by
   obtain⟨k2,x2,h1,h2⟩:=hacc.2 j v (by rw[<- Array.getElem?_toList];exact e1);obtain⟨⟨k3,v3⟩,q1,z1,_⟩:=nE ra h1;obtain⟨x,rfl,kx,_⟩:=tV q1;simp only at z1;rw[kx] at e2
   cases e2
   rw[z1];exact h2
  refine FA (wpAny_newList ?_ (by rw[hl];exact small (by omega)));have ah:(h'.push { cls:=.type "list",data:=.seq acc.toList.toArray }).get? h'.objs.size=some (seqObj "list" acc.toList.toArray 0):=Heap.get?_push_size _ rfl;refine FA (GB (jD ah hS (by omega) λout ss' h1 h2 h3=>?_));refine FQ ⟨_,rfl,?_⟩;obtain⟨aj,he⟩:=sortedHeap_at (out:=out) ah;have I1:L2.Inv X aa σ H { s with heap:=h',toks:=tk }:=I.kept (t':=tk) hk;have kp:∀b o,h'.get? b=some o->(sortedHeap (h'.push { cls:=.type "list",data:=.seq acc.toList.toArray }) h'.objs.size acc.toList out).get? b=some o:=λb o e=>by
   have hb:=FT e
   rw[sortedHeap_old (Gb hb) (by rw[GR];exact GK hb)];exact Heap.get?_push_of_some _ e
  have al:(ss'.map V.str).length<=sizeLine:=by rw[Fy,h2.length_eq];exact small (by omega)
  have I2:L2.Inv X aa σ (EW H h'.objs.size (.lst (ss'.map V.str))) { s with heap:=sortedHeap (h'.push { cls:=.type "list",data:=.seq acc.toList.toArray }) h'.objs.size acc.toList out,toks:=tk } :=
   I1.laid (t':=tk) kp (FH _) (show bV X.prog X.w _ _ _ (.lst (ss'.map V.str)) from⟨al,out.toList,aj,cT h1,he⟩)
  have fr:H h'.objs.size=none:=I1.hok.fresh (FH _)
  refine⟨.ref _,_,I2,rfl,k _ (h ss' h2 h3) _ _ (aE fr _) ?_⟩;unfold Fo;exact⟨_,_,rfl,λz=>m _ z fr,aD,cP ss'⟩
 ·obtain⟨as,h⟩:=h
  rename_i ks ds
  obtain⟨x,rfl,q⟩:=aV rs;unfold Fo at q;obtain⟨a,vs,o9,rfl,e,l,r⟩:=q;obtain⟨u,rfl,ru⟩:=e5 rv
  cases ru
  obtain⟨hz,lo,va,ra,da⟩:=i7 I.hok (.inr ⟨o9,e⟩);obtain⟨ep,an⟩:=da.dictAt;have lv:=Reps.length _ _ r;have ab:va.length=ks.length:=by
   rw[<- ra.length];unfold cj;rw[GV,Fy];omega
  refine Ho kind_sorted plain_sorted entry_sorted (args_sorted1 _) ?_;unfold Builtin.«sorted»;refine FA (m:=checkCount "sorted" 1 1 _) (FQ ?_);refine FA (PySem.W.kdu_collect (A:=X.A.in1) (PySem.W.kdl_dict (knd:=bg X.prog X.w) (kvs:=va) (ep:=ep) lo) (I.ok.hd hc) an (by rw[ab];exact small (by omega)) λh' tk acc hk hacc=>?_);have hl:acc.toList.length=ks.length:=by rw[Ht,<- ab];exact hacc.1
  have hS:StrsAre acc.toList ks:=iS hl.symm λj v k' e1 e2=>by
   obtain⟨k2,x2,h1,h2⟩:=hacc.2 j v (by rw[<- Array.getElem?_toList];exact e1);obtain⟨⟨k3,v3⟩,q1,z1,_⟩:=nE ra h1;obtain⟨x,rfl,kx,_⟩:=tV q1;simp only at z1;rw[kx] at e2
   cases e2
   rw[z1];exact h2
  refine FA (wpAny_newList ?_ (by rw[hl];exact small (by omega)));have ah:(h'.push { cls:=.type "list",data:=.seq acc.toList.toArray }).get? h'.objs.size=some (seqObj "list" acc.toList.toArray 0):=Heap.get?_push_size _ rfl;refine FA (GB (jD ah hS (by omega) λout ss' h1 h2 h3=>?_));refine FQ ⟨_,rfl,?_⟩;obtain⟨aj,he⟩:=sortedHeap_at (out:=out) ah;have I1:L2.Inv X aa σ H { s with heap:=h',toks:=tk }:=I.kept (t':=tk) hk;have kp:∀b o,h'.get? b=some o->(sortedHeap (h'.push { cls:=.type "list",data:=.seq acc.toList.toArray }) h'.objs.size acc.toList out).get? b=some o:=λb o e=>by
   have hb:=FT e
   rw[sortedHeap_old (Gb hb) (by rw[GR];exact GK hb)];exact Heap.get?_push_of_some _ e
  have al:(ss'.map V.str).length<=sizeLine:=by rw[Fy,h2.length_eq];exact small (by omega)
  have I2:L2.Inv X aa σ (EW H h'.objs.size (.lst (ss'.map V.str))) { s with heap:=sortedHeap (h'.push { cls:=.type "list",data:=.seq acc.toList.toArray }) h'.objs.size acc.toList out,toks:=tk } :=
   I1.laid (t':=tk) kp (FH _) (show bV X.prog X.w _ _ _ (.lst (ss'.map V.str)) from⟨al,out.toList,aj,cT h1,he⟩)
  have fr:H h'.objs.size=none:=I1.hok.fresh (FH _)
  refine⟨.ref _,_,I2,rfl,k _ (h ss' h2 h3) _ _ (aE fr _) ?_⟩;unfold Fo;exact⟨_,_,rfl,λz=>m _ z fr,aD,cP ss'⟩
def ph:Zh->(D->Prop)->Prop
 | [.lst xs],R=>R (.tup xs)
 | [.fz xs],R=>R (.tup xs)
 | [.tup xs],R=>R (.tup xs)
 | _,_=>False
theorem sK:∀ {d0:Zh} {R:D->Prop},ph d0 R->((∃(xs:Zh),d0=[.lst xs]/\R (.tup xs))\/(∃(xs:Zh),d0=[.fz xs]/\R (.tup xs))\/(∃(xs:Zh),d0=[.tup xs]/\R (.tup xs))):=by walk_at "or"
theorem pZ{xs:Zh}:ph [.lst xs] R=(R (.tup xs)):=rfl
theorem qM{xs:Zh}:ph [.tup xs] R=(R (.tup xs)):=rfl
theorem iY:cm X (.type "tuple") (aL X.K ph) :=
 cm.imp jW λxs H Q ⟨M,ds,R,m,rs,h,k⟩=>by
  replace h:=sK h
  rcases h with⟨_,rfl,h⟩ | ⟨_,rfl,h⟩ | ⟨_,rfl,h⟩
  ·obtain⟨x,rfl,q⟩:=aV rs;unfold Fo at q;obtain⟨a,vs,rfl,_,e,r⟩:=q;refine⟨a,vs,rfl,.inl ⟨EX.of e,λl hl=>k _ h _ _ (aE hl _) ?_⟩⟩;unfold Fo;exact⟨l,vs,rfl,Fh.of aD,Reps.kp (Kp.of_same (aE hl _)) _ _ r⟩
  ·obtain⟨x,rfl,q⟩:=aV rs;unfold Fo at q;obtain⟨a,vs,rfl,e,r⟩:=q;refine⟨a,vs,rfl,.inl ⟨e.seq,λl hl=>k _ h _ _ (aE hl _) ?_⟩⟩;unfold Fo;exact⟨l,vs,rfl,Fh.of aD,Reps.kp (Kp.of_same (aE hl _)) _ _ r⟩
  ·obtain⟨x,rfl,q⟩:=aV rs;have q0:=q;unfold Fo at q;obtain⟨a,vs,rfl,e,r⟩:=q;exact⟨a,vs,rfl,.inr ⟨e,k _ h _ _ (bM.refl H) q0⟩⟩
theorem pJ{pos:Pos}:DE X (.Dict [] [] pos) (dC (.dct [] [])) :=
 PE.imp pk λσ H Q ⟨G,δ,P,R,⟨A,x⟩,r,k,_⟩=>λp hp=>by
  refine k _ δ r (.ref p) _ ⟨A,(x.same (aE hp (.dK []))).push ?_⟩;unfold Fo;exact⟨p,[],rfl,λz=>x.mem p z hp,aD,rfl,Reps.nil⟩
variable {a b e:Expr} {ta tb:Fc} {pos:Pos}
theorem ix(hu:X.A.units+64<cLine)(ha:DE X a ta)(hb:DE X b tb)(hs:NoSl b):DE X (.Subscript a b pos) (dOp vg ta tb) :=
 PE.imp (AB (by omega) ha hb hs) λσ H Q ⟨G,δ,P,R,s,h,k,_⟩=>up.mk s h λx δ1 h1 v H1 s1=>up.mk s1 h1 λy δ2 h2 u H2 s2=>by
  replace h2:=wJ h2
  rcases h2 with⟨ks,ds,z,eq,h2⟩ | ⟨ks,ds,z,eq,h2⟩
  ·skip
   cases eq
   obtain⟨d,ed,r⟩:=h2;obtain⟨A,q⟩:=id s2;have p1:=q.pnd (.dct ks ds,v) (by simp);have p2:u=.str z:=bH (q.pnd (.str z,u) (by simp));unfold Fo at p1;obtain⟨a,vs,rfl,_,he,l,rs⟩:=p1;obtain⟨w',hw,aa⟩:=(Reps.dAt z ks ds vs rs).1 d ed;refine⟨a,w',rfl,?_,k d δ2 r w' H2 ⟨A,(q.sub (P':=P) λp hp=>by simp[hp]).push aa⟩⟩;have g:=pP.k (k:=Sum.inr z) he;rw[fg,hw] at g;rw[p2];exact g
  ·skip
   cases eq
   obtain⟨d,ed,r⟩:=h2;obtain⟨A,q⟩:=id s2;have p1:=q.pnd (.fd ks ds,v) (by simp);have p2:u=.str z:=bH (q.pnd (.str z,u) (by simp));unfold Fo at p1;obtain⟨a,vs,o,rfl,he,l,rs⟩:=p1;obtain⟨w',hw,aa⟩:=(Reps.dAt z ks ds vs rs).1 d ed;refine⟨a,w',rfl,?_,k d δ2 r w' H2 ⟨A,(q.sub (P':=P) λp hp=>by simp[hp]).push aa⟩⟩;have g:pP H2 a (kV (Sum.inr z)) (pF (cj ks vs) (Sum.inr z)):=.inl ⟨_,_,.inr ⟨o,he⟩,rfl,rfl⟩;rw[fg,hw] at g;rw[p2];exact g
def B7(i:Nat)(tv tk:Fc)(R:aZ)(δ:En):Prop:=tv δ (wd λx δ1=>qW δ1[i]? λa _=>tk δ1 (wd λz δ2=>zf δ2[i]? λks ds=>qX z λy=>ks.length<9000/\jB δ2 i (.own a (.dct (jf ks y) (kY ks ds y x))) R.nx))
theorem mH(i:Nat){y:Str}{p pos':Pos}(hu:X.A.units+64<cLine)(he:DE X e ta)(hb:DE X b tb)(hN:X.N[i]?=some y:=by rfl)(hv:Vis X.env.scope y:=by walk_at "v3")
  (hd:(y==("__debug__":Str))=false:=by decide) (hcd:(y==("__classdict__":Str))=false:=by decide) (hs:swapsWith e (some (.Subscript (.Name y p) b pos')) pos.line X.env=pure false:=by rfl) :
  DS X (.Assign [.Subscript (.Name y p) b pos'] e pos) (B7 i ta tb) :=
 PS.imp (yE (by omega) (dE hN hv hd hcd) hb he hs) λE σ H ⟨G,δ,P,R,s,h,k,_⟩=>up.mk s h λx δ1 h1 v H1 s1=>let ⟨a,ds0,hi0,h1⟩:=qW.ex h1;⟨.ref a,s1.own hi0,up.mk s1 h1 λz δ2 h2 u H2 ⟨A,q⟩=>by
  replace h2:=zf.ex q (s1.own hi0) h2;obtain⟨ks,ds,hi,h2⟩:=h2;replace h2:=qX.ex h2;obtain⟨y,ez,hz,r⟩:=h2;subst ez;obtain⟨_,aa,vs,ab,l,rs⟩:=q.own i a _ hi;have lv:=Reps.length _ _ rs;have p2:u=.str y:=bH (q.pnd (.str y,u) (by simp));have ah:(cj ks vs).length<sizeLine:=by
   unfold cj;rw[GV,Fy];exact fQ (by omega)
  have g:=DPut.k (k:=Sum.inr y) (v:=v) ab ah
  rw[xX y v (by omega)] at g;refine⟨a,_,rfl,by rw[p2];exact g,k _ r _ _ ⟨A,(q.change (d':=.dct (jf ks y) (kY ks ds y x)) hi (λb o n e=>by rw[aJ n];exact e) ⟨kY ks vs y v,aD,Ae l,?_⟩).sub (P':=P) λq hq=>Fz _ (Fz _ hq)⟩⟩;have kp:Kp (λb=>G.M0 b\/A b) H2 (EW H2 a (.dK (cj (jf ks y) (kY ks vs y v)))):=by
   have hk:∀b o,b≠a->H2 b=some o->EW H2 a (.dK (cj (jf ks y) (kY ks vs y v))) b=some o:=λb o n e=>by rw[aJ n];exact e
   exact⟨λb o e n=>hk b o (λz=>n (.inr (by rw[z];exact aa))) e,λb xs e=>hk b _ (λz=>by rw[z,ab] at e;cases e) e,λb o u e=>hk b _ (λz=>by rw[z,ab] at e;cases e) e⟩
  exact Reps.kp kp _ _ (Reps.put y rs (q.pnd (x,v) (by simp)))⟩
def C9(R:aZ)(δ:En):Prop:=R.rt .non δ
theorem yh{pos:Pos}:DS X (.Return none pos) C9:=PS.imp AG λE σ H ⟨G,δ,P,R,s,h,_,k,_⟩=>k.1 .non δ h .non σ H (s.sc rfl)
end
end DL
namespace DL
open PySem PySem.Spec PyProof.Rows L2
section
variable {prog:Program} {w:World} {A:Around} {E:Value→Shared→Prop}
theorem jJ{it l:Addr}{us:Zc}(ne:l≠it):∀(dH:Zc) (i:Nat) (s:Shared) (Q:Zc->Shared->Prop),us.drop i=dH->s.heap.IsListIter it l i->s.heap.IsList l us.toArray ->
  (∀h',h'.IsListIter it l (i+dH.length)->Heap.SameBut it s.heap h'->Q dH { s with heap:=h' })->wpAny (model prog w) A (draw (.ref it) dH.length) Q E s
 | [],i,s,Q,_,si,_,k=>FQ (k s.heap si (Heap.SameBut.refl ..))
 | u::dH,i,s,Q,e,si,sl,k=>by
  have hu:us[i]?=some u:=by
   have:=GQ (λz=>z[0]?) e
   simpa using this
  have hr:us.drop (i+1)=dH:=by
   have:=GQ List.tail e
   rw[List.tail_drop] at this;simpa using this
  refine FA (wpAny_pyNext_list_item si sl (x:=u) (by simpa using hu) λh1 s1 b1=>FA (GB ?_));have aa:h1.IsList l us.toArray:=by
   obtain⟨o,ho,r⟩:=sl;exact⟨o,(b1.2 l ne).trans ho,r⟩
  refine jJ ne dH (i+1) { s with heap:=h1 } _ hr s1 aa λh2 s2 b2=>FQ ?_;refine k h2 ?_ (b1.trans b2);rw[FL,Nat.add_comm dH.length 1,<- Nat.add_assoc];exact s2
theorem j9{l:Addr}{us:Zc}{s:Shared}{Q:Zc->Shared->Prop}(hh:A.handled=none)(sl:s.heap.IsList l us.toArray)
  (k:∀h',(∀b o,s.heap.get? b=some o->h'.get? b=some o)->Q us { s with heap:=h' }):wpAny (model prog w) A (unpackItems (.ref l) us.length none) Q E s:=by
 have aa:l<s.heap.objs.size:=let ⟨_,ho,_⟩:=sl;FT ho
 have ty:s.TypeIs (.ref l) "list":=let ⟨o,ho,hc,_⟩:=sl;⟨o,ho,hc⟩
 unfold unpackItems notIterableAtAll;refine FA (FA (wpAny_specialOf ty F.slot_list_iter.lookup (FQ ?_)));rw[FN FG];refine FA (GB (Hh sl (FA (GB ?_))));have ah:∀o:Obj,(s.heap.push o).IsList l us.toArray:=λo=>let ⟨q,ho,r⟩:=sl;⟨q,Heap.get?_push_of_some _ ho,r⟩;refine jJ (us:=us) (Gb aa) us 0 _ _ (List.drop_zero ..) ⟨_,Heap.get?_push_size _ rfl,rfl,rfl⟩ (ah _) λh1 s1 b1=>?_;rw[FN (Gq _)];have ab:h1.IsList l us.toArray:=by
  obtain⟨o,ho,r⟩:=sl;exact⟨o,(b1.2 l (Gb aa)).trans (Heap.get?_push_of_some _ ho),r⟩
 refine FA (GB (wpAny_pyNext_list_end hh s1 ab (by simp) λh2 b2=>?_));rw[FN (show ¬ ((none:Zd).isSome=true) from FG)];refine FQ (k h2 λb o e=>?_);have nb:b≠s.heap.objs.size:=Gb (FT e);exact b2 b o nb ((b1.2 b nb).trans (Heap.get?_push_of_some _ e))
end
section
variable {X:Cx} {pos:Pos}
def gLst(K:PySem.W.Frag)(n:Nat)(t:TGs):TG:=λv σ H Q=>∃a xs,v=.ref a/\EX K H a xs/\xs.length=n/\t xs σ H Q
theorem BB{es:List Expr}{k:Nat}{t:TGs}{n:Nat}(hc:X.calm=true)(h:PGs X es t)(hn:(assignEach es X.env).length=n:=by rfl)(hst:(assignEach es X.env).findIdx? (·.1)=none:=by rfl):PG X (.Tuple es k pos) (gLst X.K n t):=by
 intro pins s σ H v u Q I r ⟨a,xs,e,hq,hl,hw⟩;subst e
 cases r
 obtain⟨us,rv,pl,_⟩:=I.list hq;rw[arm_assign_Tuple];refine FA (Ib ?_);unfold unpack;rw[hst,hn,<- hl,rv.length];exact FA (GB (j9 (I.ok.hd hc) pl.isList λh' kp=>h pins _ σ H xs _ Q (I.kept (t':=s.toks) kp) rv hw))
def Ab(n:Nat)(t:xh)(d:D)(δ:En)(R:En->Prop):Prop:=qL d λxs=>uG xs n (t xs δ R)
theorem n5{es:List Expr}{kk n:Nat}{gs:xh}(hc:X.calm=true)(h:DGs X es gs)(hn:(assignEach es X.env).length=n:=by rfl)(hst:(assignEach es X.env).findIdx? (·.1)=none:=by rfl):DG X (.Tuple es kk pos) (Ab n gs) :=
 PG.imp (BB hc h hn hst) λv σ H Q ⟨G,δ,P,d,R,⟨A,x⟩,h,k⟩=>by
  replace h:=qL.ex h;obtain⟨xs,e,h⟩:=h;replace h:=uG.ex h;obtain⟨hl,h⟩:=h;subst e;have q:=x.pnd (.lst xs,v) (by simp);unfold Fo at q;obtain⟨a,vs,e,_,sq,r⟩:=q;subst e;have lv:=Reps.length _ _ r;refine⟨a,vs,rfl,EX.of sq,by rw[<- lv];exact hl,G,δ,P,xs,R,lv,⟨A,?_⟩,h,k⟩;have aa:∀(ds:Zh) (ws:Zf),Reps X.K (λb=>G.M0 b\/A b) H ds ws->∀p∈ds.zip ws,Fo X.K (λb=>G.M0 b\/A b) H p.1 p.2:=by
   intro ds
   induction ds with
   | nil=>intro ws _ p hp;cases hp
   | cons d ds ih =>
    intro ws hr p hp;unfold Reps at hr;obtain⟨w',dH,rfl,q1,q2⟩:=hr
    rcases FJ.mp hp with rfl | hp
    ·exact q1
    ·exact ih dH q2 p hp
  have y:=x.sub (P':=P) λp hp=>Fz _ hp
  exact⟨y.old,y.stay,y.m0,y.pm,y.new,y.thr,y.len,y.dat,y.own,y.inj,λp hp=>(FV.mp hp).elim (aa xs vs r p) (y.pnd p)⟩
end
end DL
namespace DL
open PySem PySem.Spec PyProof.Rows L2
variable {x:Str}
structure GInt(mg:Str->Zd)(x:Str)(i:Int):Prop where
 ex:∃t,mg x=some (.int i t)
structure GTab(K:PySem.W.Frag)(mg:Str->Zd)(x:Str)(D:List (Str×Str)):Prop where
 ex:∃a,mg x=some (.ref a)/\KTD.tabLook (KTD.datLooks λb=>K.lookup b) (λb=>K.lookup b) a (txt D)=true
theorem xm(k:Str):∀D:List (Str×Str),KTD.datumAt k (txt D)=(KTD.datumAt k D).map λv=>KTD.Dat.flat (.str v)
 | []=>rfl
 | (x,d)::D=>by
  show (if decide (k=x)=true then some (KTD.Dat.flat (.str d)) else KTD.datumAt k (txt D))=(if decide (k=x)=true then some d else KTD.datumAt k D).map _
  rw[xm k D]
  by_cases h:decide (k=x)=true
  ·rw[FP h,FP h];rfl
  ·rw[FN h,FN h]
theorem oq{h:Heap}{k:Str}{P:Value->Prop}:∀(D:List (Str×Str)),(∀v,KTD.datumAt k D=some v->∀t,P (.str v t))->KTD.EachL h k P (txt D)
 | [],_=>trivial
 | (x,d)::D,hq=>by
  show KTD.EachL h k P ((x,KTD.Dat.flat (.str d))::txt D)
  by_cases e:k=x
  ·exact KTD.eachL_hit e (KTD.opened_str λt=>hq d (by show (if decide (k=x)=true then some d else _)=_;rw[FP (F6 e)]) t)
  ·exact KTD.eachL_miss e (oq D λv hv=>hq v (by show (if decide (k=x)=true then some d else _)=_;rw[FN (by simp[e])];exact hv))
section
variable {X:Cx} {b:Expr} {tb:Fc} {pos p:Pos}
theorem ug{i:Int}(hg:Gl X x)(h:GInt X.mg x i)(hd:(x==("__debug__":Str))=false:=by decide):DE X (.Name x pos) (dC (.int i)):=by
 obtain⟨t,e⟩:=h.ex;exact de_c (nL (v:=.int i) hg e ⟨t,rfl⟩ hd) rfl
def AV(D:List (Str×Str))(ty:TE):TE:=λσ H Q=>ty σ H λy H1=>∃k v,y=.str k/\KTD.datumAt k D=some v/\Q (.str v) H1
theorem yd{D:List (Str×Str)}{ty:TE}(hg:Gl X x)(T:GTab X.K X.mg x D)(hb:PE X b ty)(hs:NoSl b)(hd:(x==("__debug__":Str))=false:=by decide):PE X (.Subscript (.Name x p) b pos) (AV D ty):=by
 obtain⟨a,hm,hl⟩:=T.ex;intro aa s σ H Q I h;refine Subscript_ (E7 (nL (v:=.ref a) hg hm rfl hd aa s σ H (λy0 H0=>y0=.ref a/\AV D ty σ H0 Q) I ⟨rfl,h⟩) λu s1 ⟨y0,H0,I0,r0,e0,q0⟩=>?_);subst e0
 cases r0
 refine E7 (hb aa s1 σ H0 _ I0 q0) λiv s2 ⟨y,H1,I1,ry,k,v,ey,ev,q⟩=>?_;subst ey;obtain⟨t,rfl⟩:=ry;have T2:KTD.TextTab s2.heap a (txt D):=PySem.W.kt_text_in I1.kIn hl;refine KTD.item_text (h₀:=s2.heap) (D:=txt D) ⟨T2,λ_ _ e=>e⟩ ?_ (oq D λv' hv t'=>?_) (hs _ _)
 ·rw[<- KTD.isSome_datumAt,xm,ev];rfl
 ·rw[ev] at hv
  cases hv
  exact⟨.str v,H1,I1.tok _,⟨t',rfl⟩,q⟩
def BV(D:List (Str×Str))(t:Fc)(δ:En)(R:W->En->Prop):Prop:=t δ (wd λz δ1=>qX z λk=>∃v,KTD.datumAt k D=some v/\R (.d (.str v)) δ1)
theorem tN{D:List (Str×Str)}(hg:Gl X x)(T:GTab X.K X.mg x D)(hb:DE X b tb)(hs:NoSl b)(hd:(x==("__debug__":Str))=false:=by decide):DE X (.Subscript (.Name x p) b pos) (BV D tb) :=
 PE.imp (yd hg T hb hs hd) λσ H Q ⟨G,δ,P,R,s,h,k,_⟩=>up.mk s h λz δ1 h1 u H1 s1=>by
  replace h1:=qX.ex h1;obtain⟨y,ez,h1⟩:=h1;obtain⟨v,ev,r⟩:=h1;subst ez;obtain⟨A,q⟩:=id s1;exact⟨y,v,bH (q.pnd (.str y,u) (by simp)),ev,k _ δ1 r _ H1 ((s1.sub (P':=P) λp hp=>by simp[hp]).sc rfl)⟩
end
end DL
namespace DL
open PySem PySem.Spec PyProof.Rows L2
def fMax:Zh->(D->Prop)->Prop
 | [.int i,.int j],R=>R (.int (max i j))
 | [.lst ds],R=>∃ns:Ze,ds=ns.map D.int/\0<ns.length/\∀M∈ns,(∀a∈ns,a<=M)->R (.int M)
 | _,_=>False
theorem yn:∀ {d0:Zh} {R:D->Prop},fMax d0 R->((∃(i:Int) (j:Int),d0=[.int i,.int j]/\R (.int (max i j)))\/(∃(ds:Zh),d0=[.lst ds]/\∃ns:Ze,ds=ns.map D.int/\0<ns.length/\∀M∈ns,(∀a∈ns,a<=M)->R (.int M))):=by walk_at "or"
theorem wz{i j:Int}{R:D->Prop}:fMax [.int i,.int j] R=(R (.int (max i j))):=rfl
theorem wA{ds:Zh}{R:D->Prop}:fMax [.lst ds] R=(∃ns:Ze,ds=ns.map D.int/\0<ns.length/\∀M∈ns,(∀a∈ns,a<=M)->R (.int M)):=rfl
theorem ls{K:PySem.W.Frag}{M:Addr->Prop}{H:Hp}:∀ {ns:Ze} {vs:Zf},Reps K M H (ns.map D.int) vs->vs=ns.map V.int
 | [],vs,h=>by unfold Reps at h;exact h
 | s::ss,vs,h=>by
  rw[F7] at h;unfold Reps at h;obtain⟨v,r,rfl,q,t⟩:=h;rw[aI q,ls t];rfl
theorem jy:∀ {ns:Ze} {us:Zc},bv (ns.map V.int) us->IntsAre us ns
 | [],_,r=>by rw[Hc] at r;cases r;exact .nil
 | n::ns,_,r=>by
  rw[F7] at r
  cases r with
  | @cons _ u _ us h t =>
   obtain⟨t',e⟩:=(show ∃t,u=Value.int n t from h);subst e;exact .cons _ _ (jy t)
theorem EK{X:Cx}(hc:X.calm=true):cm X (.builtin "max") (aL X.K fMax):=by
 intro ab s σ H xs us Q I rv h;obtain⟨M,ds,R,m,rs,h,k⟩:=h;replace h:=yn h
 rcases h with⟨i,j,rfl,h⟩ | ⟨_,rfl,h⟩
 ·skip
  refine sG hc ab s σ H xs us Q I rv ?_;obtain⟨x,y,rfl,h1,h2⟩:=en rs;refine⟨i,j,by rw[aI h1,aI h2],k _ h _ H (bM.refl H) ?_⟩;unfold Fo
  congr 1
  by_cases z:j>i
  ·rw[FP z];omega
  ·rw[FN z];omega
 ·obtain⟨ns,rfl,aj,h⟩:=h;obtain⟨x,rfl,q⟩:=aV rs;unfold Fo at q;obtain⟨a,vs,rfl,_,e,r⟩:=q;obtain⟨u,rfl,ru⟩:=e5 rv
  cases ru
  cases ls r
  obtain⟨al,ah,pl,_⟩:=I.list (EX.of e);have hi:=jy ah;obtain⟨ys,ey⟩:=hi.allInts.items;have hn:ys.toList.map (·.1)=ns:=by
   have e1:=nums_intItems ys
   rw[<- ey] at e1;exact e1.symm.trans hi.numsOf
  have hz:ys.size=ns.length:=by rw[<- hn,Fy,Ht]
  have hl:=pl.isList
  rw[ey] at hl;refine max_intList (I.ok.hd hc) hl (by omega) λv h' tk hv hk=>?_;obtain⟨t,rfl⟩:=intItems_at hv;obtain⟨h1,h2⟩:=argBest_gt (numAt ys) (ys.size-1);refine⟨.int _,H,I.kept (t':=tk) hk,⟨t,rfl⟩,k _ (h _ ?_ λb hb=>?_) _ H (bM.refl H) (Fo.sc rfl)⟩
  ·rw[numAt_eq,hn];have aa:argBest (λi j=>decide (numAt ys i>numAt ys j)) (ys.size-1)<ns.length:=by omega
   rw[List.getD_eq_getElem?_getD,List.getElem?_eq_getElem aa];exact GX aa
  ·obtain⟨j,hj,ej⟩:=List.getElem_of_mem hb;have:=h2 j (by omega);rw[numAt_eq ys j,hn] at this;have ai:ns.getD j 0=b:=by rw[List.getD_eq_getElem?_getD,List.getElem?_eq_getElem hj];exact ej
   rw[ai] at this;exact this
end DL
namespace Mf
variable {b p q:Int}
def gc(a b:Int):Int:=(Int.gcd a b:Nat)
theorem t7(a b:Int):gc b (a.fmod b)=gc a b:=by
 unfold gc;rw[Hw,Int.gcd_sub_mul_left_right,Int.gcd_comm]
theorem eM(a b:Int)(hb:b≠0):(a.fmod b).natAbs<b.natAbs:=by
 rcases Int.lt_or_gt_of_ne hb with h | h
 ·have e:a.fmod b=-((-a).fmod (-b)):=by
   have h1:(-a).fdiv (-b)=a.fdiv b:=Int.neg_fdiv_neg a b
   rw[Hw,Hw,h1,Int.neg_mul];omega
  have h1:=Gh (-a) (b:=-b) (by omega)
  have h2:=Gy (-a) (b:=-b) (by omega)
  rw[e];omega
 ·have h1:=Gh a h
  have h2:=Gy a h
  omega
theorem rP(a:Int):gc a 0=if a<0 then -a else a:=by
 unfold gc;rw[Int.gcd_zero_right]
 split<;>omega
theorem sI(a b:Int):0<=gc a b:=by unfold gc;omega
theorem w5(a:Int)(h:b≠0):0<gc a b:=by
 unfold gc;have:=Int.gcd_pos_of_ne_zero_right a h;omega
theorem eS(a b:Int):gc a b ∣ a:=Int.gcd_dvd_left a b
theorem d7(a b:Int):gc a b ∣ b:=Int.gcd_dvd_right a b
structure Fn(p q:Int):Prop where
 pos:0<q
 cop:gc p q=1
theorem Fn.cop'(h:Fn p q):Int.gcd p q=1:=by have:=h.cop;unfold gc at this;omega
theorem Fn.ne(h:Fn p q):q≠0:=by have:=h.pos;omega
theorem Fn.uniq{p' q':Int}(h:Fn p q)(h':Fn p' q')(e:p*q'=p'*q):p=p'/\q=q':=by
 have d1:q ∣ q':=by
  have:q ∣ p*q':=⟨p',by rw[e,GG]⟩
  have g:Int.gcd q p=1:=by rw[Int.gcd_comm];exact h.cop'
  have k:=(Hg (k:=q) (n:=p) (m:=q')).mpr this
  rw[g] at k;simpa using k
 have d2:q' ∣ q:=by
  have:q' ∣ p'*q:=⟨p,by rw[<- e,GG]⟩
  have g:Int.gcd q' p'=1:=by rw[Int.gcd_comm];exact h'.cop'
  have k:=(Hg (k:=q') (n:=p') (m:=q)).mpr this
  rw[g] at k;simpa using k
 have eq:q=q':=by
  have a1:=Int.le_of_dvd h'.pos d1
  have a2:=Int.le_of_dvd h.pos d2
  omega
 subst eq;exact⟨Int.eq_of_mul_eq_mul_right h.ne e,rfl⟩
def dv(t b:Int):Int:=if b<0 then -(gc t b) else gc t b
def Fv(t b:Int):Int:=t.fdiv (dv t b)
def Fp(t b:Int):Int:=b.fdiv (dv t b)
theorem zM(t:Int)(h:b≠0):dv t b≠0:=by
 have:=w5 t h
 unfold dv
 split<;>omega
theorem nF(t b:Int):dv t b ∣ t:=by
 unfold dv
 split
 ·exact(Int.neg_dvd).mpr (eS t b)
 ·exact eS t b
theorem ms(t b:Int):dv t b ∣ b:=by
 unfold dv
 split
 ·exact(Int.neg_dvd).mpr (d7 t b)
 ·exact d7 t b
theorem sC(t b:Int):Fv t b*dv t b=t:=G7 (nF t b)
theorem r8(t b:Int):Fp t b*dv t b=b:=G7 (ms t b)
theorem mj(t b:Int):(dv t b).natAbs=Int.gcd t b:=by
 unfold dv gc
 split<;>omega
theorem fe(t:Int)(h:b≠0):Fn (Fv t b) (Fp t b):=by
 have e1:=sC t b
 have e2:=r8 t b
 have hd:=zM t h
 constructor
 ·unfold dv at e2 hd;have gp:=w5 t h
  by_cases hb:b<0
  ·rw[FP hb] at e2;have:Fp t b*gc t b=-b:=by rw[Int.mul_neg] at e2;omega
   exact Int.pos_of_mul_pos_left (by omega) gp |> λz=>z
  ·rw[FN hb] at e2;exact Int.pos_of_mul_pos_left (by omega) gp |> λz=>z
 ·have g:Int.gcd (Fv t b*dv t b) (Fp t b*dv t b)=Int.gcd (Fv t b) (Fp t b)*(dv t b).natAbs:=Int.gcd_mul_right _ _ _
  rw[e1,e2,mj] at g;have gp:=Int.gcd_pos_of_ne_zero_right t h;unfold gc;have:Int.gcd (Fv t b) (Fp t b)=1:=by
   have g2:1*Int.gcd t b=Int.gcd (Fv t b) (Fp t b)*Int.gcd t b:=by rw[Nat.one_mul];exact g
   exact(Nat.eq_of_mul_eq_mul_right gp g2).symm
  omega
theorem wf(t b:Int):Fv t b*b=t*Fp t b:=by
 have e1:=sC t b
 have e2:=r8 t b
 calc Fv t b*b=Fv t b*(Fp t b*dv t b):=by rw[e2]
  _=(Fv t b*dv t b)*Fp t b:=by rw[HI,GG (Fp t b)]
  _=t*Fp t b:=by rw[e1]
end Mf
namespace Mf
open PySem L2 DL
variable {q:Str→Int} {B C:Int}
def bot(q:Str->Int):Zb->Int
 | []=>1
 | n::r=>q n*bot q r
theorem qd(q:Str->Int)(l r:Zb):bot q (l++r)=bot q l*bot q r:=by
 induction l with
 | nil=>show bot q r=1*bot q r;rw[Int.one_mul]
 | cons x l ih=>show q x*bot q (l++r)=q x*bot q l*bot q r;rw[ih,HI]
theorem Ao(q:Str->Int)(n:Str):bot q [n]=q n:=by show q n*1=q n;rw[Int.mul_one]
theorem dr:∀ {l:Zb},(∀n∈l,0<q n)->0<bot q l
 | [],_=>(by decide:(0:Int)<1)
 | n::r,h=>Int.mul_pos (h n (FD ..)) (dr λm hm=>h m (Fz _ hm))
theorem gd:∀ {l:Zb} {n:Str},n∈l->q n ∣ bot q l
 | x::r,n,h=>by
  rcases FJ.mp h with rfl | h
  ·exact Int.dvd_mul_right _ _
  ·exact Int.dvd_trans (gd h) (Int.dvd_mul_left _ _)
theorem vx{l r:Zb}(h:l.Perm r):bot q l=bot q r:=by
 induction h with
 | nil=>rfl
 | cons x _ ih=>show q x*_=q x*_;rw[ih]
 | swap x y l=>show q y*(q x*bot q l)=q x*(q y*bot q l);rw[<- HI,<- HI,GG (q y)]
 | trans _ _ h1 h2=>rw[h1,h2]
def ek(f:Str->Int):List (Str×Int)->Int
 | []=>0
 | t::r=>t.2*f t.1+ek f r
theorem nc(f:Str->Int)(l r:List (Str×Int)):ek f (l++r)=ek f l+ek f r:=by
 induction l with
 | nil=>show ek f r=0+ek f r;rw[Hf]
 | cons x l ih=>show x.2*f x.1+ek f (l++r)=x.2*f x.1+ek f l+ek f r;rw[ih,Int.add_assoc]
theorem wc(f:Str->Int)(t:Str×Int):ek f [t]=t.2*f t.1:=by show t.2*f t.1+0=_;rw[Hx]
theorem jH{f g:Str->Int}:∀ {l:List (Str×Int)},(∀t∈l,f t.1=g t.1)->ek f l=ek g l
 | [],_=>rfl
 | t::r,h=>by show t.2*f t.1+_=t.2*g t.1+_;rw[h t (FD ..),jH λu hu=>h u (Fz _ hu)]
theorem ku(f:Str->Int)(k:Int):∀l:List (Str×Int),k*ek f l=ek (λn=>k*f n) l
 | []=>Int.mul_zero k
 | t::r=>by
  show k*(t.2*f t.1+ek f r)=t.2*(k*f t.1)+_
  rw[Int.mul_add,ku f k r,Gw]
def AL(ts:List (Str×Int)):List (Str×Int):=ts.map λt=>(t.1,-t.2)
def ov(p q:Str->Int)(B:Int)(n:Str):Int:=p n*B.fdiv (q n)
theorem vV{p:Str->Int}{n:Str}(h0:q n≠0)(h:q n ∣ B)(h':q n ∣ C):C*ov p q B n=B*ov p q C n:=by
 obtain⟨x,rfl⟩:=h;obtain⟨y,rfl⟩:=h';unfold ov;rw[Hy _ h0,Hy _ h0];rw[Gw,Gw (q n*x),HI,HI,GG y x]
theorem rN{p:Str->Int}{ts:List (Str×Int)}(h:∀t∈ts,q t.1≠0/\q t.1 ∣ B/\q t.1 ∣ C):C*ek (ov p q B) ts=B*ek (ov p q C) ts:=by
 rw[ku,ku];exact jH λt ht=>vV (h t ht).1 (h t ht).2.1 (h t ht).2.2
theorem wI{a b s t:Int}(hB:0<B)(hC:0<C)(e:C*s=B*t):(b*B<=s↔b*C<=t):=by
 constructor
 ·intro h;have h1:=Int.mul_le_mul_of_nonneg_left h (Hz hC);rw[e] at h1;have h2:B*(b*C)<=B*t:=by rw[Gw B,GG B C,Gw b];exact h1
  exact Int.le_of_mul_le_mul_left h2 hB
 ·intro h;have h1:=Int.mul_le_mul_of_nonneg_left h (Hz hB);rw[<- e] at h1;have h2:C*(b*B)<=C*s:=by rw[Gw C,GG C B,Gw b];exact h1
  exact Int.le_of_mul_le_mul_left h2 hC
theorem vG{b s t:Int}(hB:0<B)(hC:0<C)(e:C*s=B*t):(b*B<s↔b*C<t):=by
 constructor
 ·intro h;have h1:=Int.mul_lt_mul_of_pos_left h hC;rw[e] at h1;have h2:B*(b*C)<B*t:=by rw[Gw B,GG B C,Gw b];exact h1
  exact Int.lt_of_mul_lt_mul_left h2 (Hz hB)
 ·intro h;have h1:=Int.mul_lt_mul_of_pos_left h hB;rw[<- e] at h1;have h2:C*(b*B)<C*s:=by rw[Gw C,GG C B,Gw b];exact h1
  exact Int.lt_of_mul_lt_mul_left h2 (Hz hC)
end Mf
namespace DL
open PySem PySem.Spec PyProof.Rows L2
theorem mT{x y:Nat}{r t:List Nat}:ltCps (x::r) (y::t)=if x<y then true else if y<x then false else ltCps r t:=by
 show (decide (x<y)||(x==y&&ltCps r t))=_
 rcases G3 x y with h | h | h
 ·rw[FP h,F6 h];rfl
 ·subst h;rw[FN (Gq x),FN (Gq x)];simp
 ·rw[FN (HA h),FP h,F5 (HA h)];have:(x==y)=false:=by simp;omega
  rw[this];rfl
theorem ltCps_eq:∀ {a b:List Nat},ltCps a b=false->ltCps b a=false->a=b
 | [],[],_,_=>rfl
 | [],y::s,h,_=>by simp[ltCps] at h
 | x::r,[],_,h=>by simp[ltCps] at h
 | x::r,y::s,h1,h2=>by
  rw[mT] at h1 h2
  rcases G3 x y with h | h | h
  ·rw[FP h] at h1;cases h1
  ·subst h;rw[FN (Gq x),FN (Gq x)] at h1 h2;rw[ltCps_eq h1 h2]
  ·rw[FP h] at h2;cases h2
theorem e6:∀ {a b c:List Nat},ltCps b a=false->ltCps c b=false->ltCps c a=false
 | [],b,c,_,_=>by cases c<;>rfl
 | x::r,[],c,h,_=>by simp[ltCps] at h
 | x::r,y::s,[],_,h=>by simp[ltCps] at h
 | x::r,y::s,z::t,h1,h2=>by
  rw[mT] at h1 h2 ⊢
  rcases G3 y x with h | h | h
  ·rw[FP h] at h1;cases h1
  ·subst h;rw[FN (Gq y),FN (Gq y)] at h1
   rcases G3 z y with g | g | g
   ·rw[FP g] at h2;cases h2
   ·subst g;rw[FN (Gq z),FN (Gq z)] at h2 ⊢;exact e6 h1 h2
   ·rw[FN (HA g),FP g]
  ·rcases G3 z y with g | g | g
   ·rw[FP g] at h2;cases h2
   ·subst g;rw[FN (HA h),FP h]
   ·have:x<z:=Nat.lt_trans h g
    rw[FN (HA this),FP this]
def E3(a b:Str):Prop:=ltCps b.cps.toList a.cps.toList=false
theorem Dg{a b:Str}(h1:E3 a b)(h2:E3 b a):a=b:=by
 have:=ltCps_eq h2 h1
 cases a;cases b
 simp only[Str.mk.injEq] at *;exact Array.toList_inj.mp this
theorem l5(a b:Str):E3 a b\/E3 b a:=by
 unfold E3
 cases h:ltCps b.cps.toList a.cps.toList with
 | false=>exact .inl rfl
 | true =>
  cases g:ltCps a.cps.toList b.cps.toList with
  | false=>exact .inr rfl
  | true =>
   exfalso;have:∀x y:List Nat,ltCps x y=true->ltCps y x=true->False:=by
    intro x
    induction x with
    | nil=>intro y _ h;cases y<;>simp[ltCps] at h
    | cons u r ih =>
     intro y h1 h2
     cases y with
     | nil=>simp[ltCps] at h1
     | cons v s =>
      rw[mT] at h1 h2
      rcases G3 u v with z | z | z
      ·rw[FN (HA z),FP z] at h2;cases h2
      ·subst z;rw[FN (Gq u),FN (Gq u)] at h1 h2;exact ih s h1 h2
      ·rw[FN (HA z),FP z] at h1;cases h1
   exact this _ _ h g
theorem xf:∀ {ss:Zb},Srt ss->ss.Pairwise E3
 | [],_=>.nil
 | x::r,h=>by
  have h:risingS x r=true:=h
  have aa:∀(r:Zb) (x:Str),risingS x r=true->(∀y∈r,E3 x y)/\r.Pairwise E3:=by
   intro r
   induction r with
   | nil=>intro x _;exact⟨λy hy=>(nomatch hy),.nil⟩
   | cons y r ih =>
    intro x h;unfold risingS at h;obtain⟨h1,h2⟩:=Gp.mp h;have h1:E3 x y:=by unfold E3;cases q:ltCps y.cps.toList x.cps.toList with
     | false=>rfl
     | true=>rw[q] at h1;cases h1
    obtain⟨i1,i2⟩:=ih y h2;refine⟨λz hz=>?_,.cons i1 i2⟩
    rcases FJ.mp hz with rfl | hz
    ·exact h1
    ·exact e6 h1 (i1 z hz)
  obtain⟨k1,k2⟩:=aa r x h;exact .cons k1 k2
theorem jV:∀ {as bs:Zb},as.Pairwise E3->bs.Pairwise E3->as.Nodup->bs.Nodup->(∀x,x∈as↔x∈bs)->as=bs
 | [],[],_,_,_,_,_=>rfl
 | [],b::bs,_,_,_,_,h=>by have:=(h b).mpr (FD ..);cases this
 | a::as,[],_,_,_,_,h=>by have:=(h a).mp (FD ..);cases this
 | a::as,b::bs,pa,pb,na,nb,h=>by
  cases pa with
  | cons pa1 pa2 =>
   cases pb with
   | cons pb1 pb2 =>
    have e:a=b:=by
     rcases FJ.mp ((h a).mp (FD ..)) with e | ha
     ·exact e
     ·rcases FJ.mp ((h b).mpr (FD ..)) with e | hb
      ·exact e.symm
      ·exact Dg (pa1 b hb) (pb1 a ha)
    subst e;obtain⟨n1,n2⟩:=Gz.mp na;obtain⟨n3,n4⟩:=Gz.mp nb;rw[jV pa2 pb2 n2 n4 λx=>⟨λhx=>?_,λhx=>?_⟩]
    ·rcases FJ.mp ((h x).mp (Fz _ hx)) with e | hx'
     ·exact absurd (e ▸ hx) n1
     ·exact hx'
    ·rcases FJ.mp ((h x).mpr (Fz _ hx)) with e | hx'
     ·exact absurd (e ▸ hx) n3
     ·exact hx'
end DL
namespace DL
open PySem PySem.Spec PyProof.Rows L2
variable {k l:Bool} {h h':Heap} {it a z p o j b:Addr} {i m:Nat} {xs ys:Array Value} {x:Value} {Q:Value→Shared→Prop} {elts:List Expr} {pos:Pos} {X:Cx} {pins:List (Addr×Obj)} {σ:L2.St} {H:Hp} {s:Shared}
def ItA(k:Bool)(h:Heap)(it a:Addr)(i:Nat):Prop:=match k with | true=>h.IsListIter it a i | false=>h.IsTupleIter it a i
def SqA(k:Bool)(h:Heap)(a:Addr)(xs:Array Value):Prop:=match k with | true=>h.IsList a xs | false=>h.IsTuple a xs
theorem ItA.keep(x:ItA k h it a i)(f:∀o,h.get? it=some o->h'.get? it=some o):ItA k h' it a i:=by
 cases k
 ·exact Heap.IsTupleIter.at x f
 ·exact Heap.IsListIter.at x f
theorem SqA.keep(x:SqA k h a xs)(f:∀o,h.get? a=some o->h'.get? a=some o):SqA k h' a xs:=by
 cases k
 ·exact Heap.IsTuple.at x f
 ·exact Heap.IsList.at x f
theorem ItA.obj(x:ItA k h it a i):∃o,h.get? it=some o/\o.cls=.type (if k then "list_iterator" else "tuple_iterator")/\o.data=.fields #[.ref a,.int i 0]:=by
 cases k
 ·exact x
 ·exact x
theorem SqA.there(x:SqA k h a xs):∃o,h.get? a=some o/\∃n,o.data=.seq xs n:=by
 cases k
 ·obtain⟨o,e,_,d⟩:=x;exact⟨o,e,d⟩
 ·obtain⟨o,e,_,d⟩:=x;exact⟨o,e,d⟩
section
variable {prog:Program} {w:World} {A:Around} {E:Value→Shared→Prop} {s:Shared}
theorem Et{t:Addr}(a1:s.heap.IsTupleIter it t i)(a2:s.heap.IsTuple t xs)(a3:xs[i]?=some x)
  (q:∀h',h'.IsTupleIter it t (i+1)->Heap.SameBut it s.heap h'->Q x { s with heap:=h' }):wpAny (model prog w) A (Builtin.SmallTypes.nextOf (.ref it)) Q E s:=by
 obtain⟨u,e1,e2,e3⟩:=id a1;obtain⟨ut,f1,_,nn,f2⟩:=a2;unfold Builtin.SmallTypes.nextOf;refine FA (wpAny_callSpecial?_slot (name:=Str.ofString "__next__") a1.typeIs GW (GO GW a1.typeIs F.entry_tuple_iterator_next ?_ (F.args_tuple_iterator_next_1 _)));refine FA (m:=field (.ref it) 0) (GF e1 e3 (x:=.ref t) rfl ?_);rw[FN (c:=(Value.ref t==Value.none)=true) FG];refine FA (m:=field (.ref it) 1) (GF e1 e3 (x:=.int i 0) rfl ?_);refine FA (m:=seqItems? (.ref t)) (GZ f1 f2 ?_);simp only[Int.toNat_natCast,a3];refine FA (wpAny_setField e1 e3 (by simp) (FQ ⟨x,rfl,FQ (q _ ?_ (Heap.SameBut.update ..))⟩));refine⟨_,Heap.get?_update_self _ e1 (Obj.isFreed_of_fields (Obj.data_mapFields e3 _)),(Obj.cls_mapFields ..).trans e2,?_⟩;rw[Obj.data_mapFields e3];simp[rawInt]
theorem tP{t:Addr}(a0:A.handled=none)(a1:s.heap.IsTupleIter it t i)(a2:s.heap.IsTuple t xs)(a3:xs[i]?=none)
  (q:∀h' e,Heap.ExtBut it s.heap h'->(∃o,h'.get? e=some o/\o.cls=.type "StopIteration")->E (.ref e) { s with heap:=h' }):wpAny (model prog w) A (Builtin.SmallTypes.nextOf (.ref it)) Q E s:=by
 obtain⟨u,e1,e2,e3⟩:=id a1;obtain⟨ut,f1,_,nn,f2⟩:=a2;unfold Builtin.SmallTypes.nextOf;refine FA (wpAny_callSpecial?_slot (name:=Str.ofString "__next__") a1.typeIs GW (GO GW a1.typeIs F.entry_tuple_iterator_next ?_ (F.args_tuple_iterator_next_1 _)));refine FA (m:=field (.ref it) 0) (GF e1 e3 (x:=.ref t) rfl ?_);rw[FN (c:=(Value.ref t==Value.none)=true) FG];refine FA (m:=field (.ref it) 1) (GF e1 e3 (x:=.int i 0) rfl ?_);refine FA (m:=seqItems? (.ref t)) (GZ f1 f2 ?_);simp only[Int.toNat_natCast,a3];refine FA (wpAny_rule (FA (wpAny_setField e1 e3 (by simp) ?_)));refine FA (m:=newExc (.type "StopIteration") []) ?_;simp only[newExc,newTuple];refine FA (GJ ?_ (by size_fits));refine FA (m:=firstArgMember _ _) (wpAny_of_eq (a:=Value.none) (by first | rfl | (simp only[firstArgMember];rfl)) ?_);refine GJ ?_ (by size_fits);simp only[raiseNew];refine FA (wpAny_handled ?_)
 first | rw[show A.in1.handled=none from a0] | rw[a0]
 exact FA (FQ (wpAny_throw (q _ _ (((Heap.SameBut.update ..).extBut.push _).push _) ⟨_,Heap.get?_push_size _ rfl,rfl⟩)))
theorem vM(a1:ItA k s.heap it a i)(a2:SqA k s.heap a xs)(a3:xs[i]?=some x)
  (q:∀h',ItA k h' it a (i+1)->Heap.SameBut it s.heap h'->Q x { s with heap:=h' }):wpAny (model prog w) A (Builtin.SmallTypes.nextOf (.ref it)) Q E s:=by
 cases k
 ·exact Et a1 a2 a3 q
 ·exact wpAny_nextOf_list_item a1 a2 a3 q
theorem ig(a0:A.handled=none)(a1:ItA k s.heap it a i)(a2:SqA k s.heap a xs)(a3:xs[i]?=none)
  (q:∀h' e,Heap.ExtBut it s.heap h'->(∃o,h'.get? e=some o/\o.cls=.type "StopIteration")->E (.ref e) { s with heap:=h' }):wpAny (model prog w) A (Builtin.SmallTypes.nextOf (.ref it)) Q E s:=by
 cases k
 ·exact tP a0 a1 a2 a3 q
 ·exact wpAny_nextOf_list_end a0 a1 a2 a3 q
theorem o6(a1:SqA k s.heap a xs)
  (q:Q (.ref s.heap.objs.size) { s with heap:=s.heap.push { cls:=.type (if k then "list_iterator" else "tuple_iterator"),data:=.fields #[.ref a,.int 0 0] } }):wpAny (model prog w) A (pyIter (.ref a)) Q E s:=by
 cases k
 ·exact wpAny_pyIter_tuple a1 q
 ·exact Hh a1 q
structure ZAp(z p o i j a b:Addr):Prop where
 zp:p≠z
 zo:o≠z
 zi:i≠z
 zj:j≠z
 po:p≠o
 pi:p≠i
 pj:p≠j
 oi:o≠i
 oj:o≠j
 ij:i≠j
 az:a≠z
 ao:a≠o
 ai:a≠i
 aj:a≠j
 bz:b≠z
 bo:b≠o
 bi:b≠i
 bj:b≠j
structure ZAt(k l:Bool)(h:Heap)(z p o i j a b:Addr)(m:Nat)(xs ys:Array Value):Prop where
 hz:IsZip h z p o .none
 hp:IsPair h p (.ref i) (.ref j)
 ho:∃u v,IsPair h o u v
 hi:ItA k h i a m
 hj:ItA l h j b m
 ha:SqA k h a xs
 hb:SqA l h b ys
theorem DJ{i:Addr}{y:Value}{x1}{Q:Unit->Shared->Prop}(D:ZAp z p o i j a b)(Z:ZAt k l s.heap z p o i j a b m xs ys)(hx:xs[m]?=some x)(hy:ys[m]?=some y)
  (q:∀h',ZAt k l h' z p o i j a b (m+1) xs ys->IsPair h' s.heap.objs.size x y->h'.objs.size=s.heap.objs.size+1->(∀c u,c≠z->c≠o->c≠i->c≠j->s.heap.get? c=some u->h'.get? c=some u)->Q () { s with heap:=h' }) :
  wpAny (model prog w) A (pyNext (.ref z)) (λr s1=>∃u,r=some u/\u=.ref s.heap.objs.size/\wpAny (model prog w) A (letOwnedTupleGo (.Tuple elts x1 pos) (.ref z) u) Q E s1) E s:=by
 obtain⟨hz,hp,⟨u,v,ho⟩,hi,hj,ha,hb⟩:=Z;have hT:s.TypeIs (.ref z) "zip":=⟨_,hz,rfl⟩;unfold pyNext;refine FA (wpAny_attempt (wpAny_callSpecial?_slot (name:=Str.ofString "__next__") hT Ig (GO Ig hT F.entry_zip_next ?_ (F.args_zip_next_1 _))));refine FA (m:=field (.ref z) 2) (GF hz rfl (x:=.bool false) rfl ?_);refine FA (m:=field (.ref z) 3) (GF hz rfl (x:=.ref p) rfl ?_);refine FA (GZ hp rfl ?_);refine FA (m:=Builtin.SmallTypes.ownedTupleIsFree (.ref z)) ?_;unfold Builtin.SmallTypes.ownedTupleIsFree;refine FA (GF hz rfl (x:=.none) rfl (FQ ?_));simp only[if_true];refine FA (wpAny_rule (FA (GF hz rfl (x:=.ref o) rfl (FA (GY hz (by simp) λg1 z1 s1=>?_)))));replace z1:IsZip g1 z p o .ellipsis:=z1;refine FA ?_;simp only[List.zipIdx_cons,List.zipIdx_nil,List.forIn_cons,List.forIn_nil];refine FA (FA (wpAny_onRaise ?_));have k1:∀c u,c≠z->s.heap.get? c=some u->g1.get? c=some u:=λc u n e=>s1.extBut _ _ n e;refine FA (m:=Builtin.SmallTypes.nextOf (.ref i)) (vM (hi.keep λu e=>k1 _ u D.zi e) (ha.keep λu e=>k1 _ u D.az e) hx λg2 i2 s2=>FQ ?_);have k2:∀c u,c≠i->g1.get? c=some u->g2.get? c=some u:=λc u n e=>s2.extBut _ _ n e;have o2:IsPair g2 o u v:=k2 _ _ D.oi (k1 _ _ D.zo ho);refine FA (GZ o2 rfl (FA (Ia o2 λg3 o3 s3=>FA (wpAny_letGo (FQ ?_)))));replace o3:IsPair g3 o x v:=o3;have k3:∀c u,c≠o->g2.get? c=some u->g3.get? c=some u:=λc u n e=>s3.extBut _ _ n e;refine FA (FA (wpAny_onRaise ?_));refine FA (m:=Builtin.SmallTypes.nextOf (.ref j)) (vM (hj.keep λu e=>k3 _ u D.oj.symm (k2 _ u D.ij.symm (k1 _ u D.zj e))) (hb.keep λu e=>k3 _ u D.bo (k2 _ u D.bi (k1 _ u D.bz e))) hy λg4 j4 s4=>FQ ?_)
 have k4:∀c u,c≠j->g3.get? c=some u->g4.get? c=some u:=λc u n e=>s4.extBut _ _ n e
 have o4:IsPair g4 o x v:=k4 _ _ D.oj o3
 refine FA (GZ o4 rfl (FA (Ia o4 λg5 o5 s5=>FA (wpAny_letGo (FQ (FQ ?_))))));replace o5:IsPair g5 o x y:=o5;have k5:∀c u,c≠o->g4.get? c=some u->g5.get? c=some u:=λc u n e=>s5.extBut _ _ n e;refine FA (GZ o5 rfl (FA (wpAny_newTuple ?_)));have hsz:g5.objs.size=s.heap.objs.size:=by rw[s5.1,s4.1,s3.1,s2.1,s1.1]
 have z5:IsZip g5 z p o .ellipsis:=k5 _ _ D.zo.symm (k4 _ _ D.zj.symm (k3 _ _ D.zo.symm (k2 _ _ D.zi.symm z1)))
 have kk:∀c u,c≠z->c≠o->c≠i->c≠j->s.heap.get? c=some u->g5.get? c=some u:=λc u n1 n2 n3 n4 e=>k5 _ _ n2 (k4 _ _ n4 (k3 _ _ n2 (k2 _ _ n3 (k1 _ _ n1 e))))
 have i5:ItA k g5 i a (m+1):=i2.keep λu e=>k5 _ u D.oi.symm (k4 _ u D.ij (k3 _ u D.oi.symm e))
 have j5:ItA l g5 j b (m+1):=j4.keep λu e=>k5 _ u D.oj.symm e
 have lz:=FT z5
 refine FA (m:=Builtin.SmallTypes.ownedTupleHandOut (.ref z) (.ref g5.objs.size)) ?_;unfold Builtin.SmallTypes.ownedTupleHandOut;have z6:IsZip (g5.push { cls:=.type "tuple",data:=.seq #[x,y] }) z p o .ellipsis:=Heap.get?_push_of_some _ z5;refine FA (GY z6 (by simp) λg7 z7 s7=>?_);replace z7:IsZip g7 z p o (rawInt g5.objs.size):=z7;refine GY z7 (by simp) λg8 z8 s8=>?_;replace z8:IsZip g8 z p o (rawInt g5.objs.size):=z8;have k8:∀c u,c≠z->g5.get? c=some u->g8.get? c=some u:=λc u n e=>s8.extBut _ _ n (s7.extBut _ _ n (Heap.get?_push_of_some _ e));have t8:IsPair g8 g5.objs.size x y:=s8.extBut _ _ (Hv lz) (s7.extBut _ _ (Hv lz) (Heap.get?_push_size _ rfl));have n8:g8.objs.size=g5.objs.size+1:=by rw[s8.1,s7.1,GR]
 rw[hsz] at z8 t8 n8;refine FQ ⟨_,rfl,FQ ⟨_,rfl,GQ Value.ref hsz,?_⟩⟩;show wpAny (model prog w) A (letOwnedTupleGo (.Tuple elts x1 pos) (.ref z) (.ref g5.objs.size)) Q E _;rw[hsz];refine wpAny_letOwnedTupleGo_zip z8 λg9 z9 s9=>?_;have k9:∀c u,c≠z->g8.get? c=some u->g9.get? c=some u:=λc u n e=>s9.extBut _ _ n e;have up:∀c u,c≠z->g5.get? c=some u->g9.get? c=some u:=λc u n e=>k9 _ _ n (k8 _ _ n e);refine q g9 ⟨z9,up _ _ D.zp (kk _ _ D.zp D.po D.pi D.pj hp),⟨x,y,up _ _ D.zo o5⟩,i5.keep λu e=>up _ u D.zi e,j5.keep λu e=>up _ u D.zj e,ha.keep λu e=>up _ u D.az (kk _ _ D.az D.ao D.ai D.aj e),hb.keep λu e=>up _ u D.bz (kk _ _ D.bz D.bo D.bi D.bj e)⟩ ?_ ?_ λc u n1 n2 n3 n4 e=>up c u n1 (kk c u n1 n2 n3 n4 e)
 ·exact k9 _ _ (by rw[<- hsz];exact Hv lz) t8
 ·rw[s9.1,n8]
theorem EC{i:Addr}{Q:Zd->Shared->Prop}(a0:A.handled=none)(D:ZAp z p o i j a b)(Z:ZAt k l s.heap z p o i j a b m xs ys)(hend:xs[m]?=none\/ys[m]?=none)
  (q:∀h',(∀c u,c≠z->c≠o->c≠i->c≠j->s.heap.get? c=some u->h'.get? c=some u)->Q none { s with heap:=h' }):wpAny (model prog w) A (pyNext (.ref z)) Q E s:=by
 obtain⟨hz,hp,⟨u,v,ho⟩,hi,hj,ha,hb⟩:=Z;have hT:s.TypeIs (.ref z) "zip":=⟨_,hz,rfl⟩;unfold pyNext;have ai:∀(g:Heap) (e:Addr),(∀c u,c≠z->c≠o->c≠i->c≠j->s.heap.get? c=some u->g.get? c=some u)->(∃o,g.get? e=some o/\o.cls=.type "StopIteration") ->
   wpAny (model prog w) A (do if<-isInstance (.ref e) (.type "StopIteration") then pure (none:Zd) else throw (.ref e)) Q E { s with heap:=g }:=λg e kk ⟨oe,h1,h2⟩ =>
  FA (wpAny_isInstance (T:="StopIteration") (b:=true) ⟨oe,h1,h2⟩ isSubtype_stop (FQ (q _ kk)))
 refine FA (wpAny_attempt (wpAny_callSpecial?_slot (name:=Str.ofString "__next__") hT Ig (GO Ig hT F.entry_zip_next ?_ (F.args_zip_next_1 _))));refine FA (m:=field (.ref z) 2) (GF hz rfl (x:=.bool false) rfl ?_);refine FA (m:=field (.ref z) 3) (GF hz rfl (x:=.ref p) rfl ?_);refine FA (GZ hp rfl ?_);refine FA (m:=Builtin.SmallTypes.ownedTupleIsFree (.ref z)) ?_;unfold Builtin.SmallTypes.ownedTupleIsFree;refine FA (GF hz rfl (x:=.none) rfl (FQ ?_));simp only[if_true];refine FA (wpAny_rule (FA (GF hz rfl (x:=.ref o) rfl (FA (GY hz (by simp) λg1 z1 s1=>?_)))));replace z1:IsZip g1 z p o .ellipsis:=z1;refine FA ?_;simp only[List.zipIdx_cons,List.zipIdx_nil,List.forIn_cons,List.forIn_nil];refine FA (FA (wpAny_onRaise ?_));have k1:∀c u,c≠z->s.heap.get? c=some u->g1.get? c=some u:=λc u n e=>s1.extBut _ _ n e;have i1:=hi.keep λu e=>k1 _ u D.zi e;have a1:=ha.keep λu e=>k1 _ u D.az e
 cases hx:xs[m]? with
 | none =>
  refine FA (m:=Builtin.SmallTypes.nextOf (.ref i)) (ig a0 i1 a1 hx λg2 e s2 he=>?_);obtain⟨oe,aa,ab⟩:=he;have z2:IsZip g2 z p o .ellipsis:=s2 _ _ D.zi.symm z1;have ah:e≠z:=λx=>by subst x;rw[z2] at aa;cases aa;simp at ab
  exact GY z2 (by simp) λg3 _ s3=>ai g3 e (λc u n1 _ n3 _ x=>s3.extBut _ _ n1 (s2 _ _ n3 (k1 _ _ n1 x))) ⟨oe,s3.extBut _ _ ah aa,ab⟩
 | some x =>
  have hy:ys[m]?=none:=by rcases hend with h | h;rw[hx] at h;cases h;exact h
  refine FA (m:=Builtin.SmallTypes.nextOf (.ref i)) (vM i1 a1 hx λg2 i2 s2=>FQ ?_);have k2:∀c u,c≠i->g1.get? c=some u->g2.get? c=some u:=λc u n e=>s2.extBut _ _ n e;have o2:IsPair g2 o u v:=k2 _ _ D.oi (k1 _ _ D.zo ho);refine FA (GZ o2 rfl (FA (Ia o2 λg3 o3 s3=>FA (wpAny_letGo (FQ ?_)))));have k3:∀c u,c≠o->g2.get? c=some u->g3.get? c=some u:=λc u n e=>s3.extBut _ _ n e;refine FA (FA (wpAny_onRaise ?_));refine FA (m:=Builtin.SmallTypes.nextOf (.ref j)) (ig a0 (hj.keep λu e=>k3 _ u D.oj.symm (k2 _ u D.ij.symm (k1 _ u D.zj e))) (hb.keep λu e=>k3 _ u D.bo (k2 _ u D.bi (k1 _ u D.bz e))) hy λg4 e s4 he=>?_);obtain⟨oe,aa,ab⟩:=he;have z4:IsZip g4 z p o .ellipsis:=s4 _ _ D.zj.symm (k3 _ _ D.zo.symm (k2 _ _ D.zi.symm z1));have ah:e≠z:=λx=>by subst x;rw[z4] at aa;cases aa;simp at ab
  exact GY z4 (by simp) λg5 _ s5=>ai g5 e (λc u n1 n2 n3 n4 x=>s5.extBut _ _ n1 (s4 _ _ n4 (k3 _ _ n2 (k2 _ _ n3 (k1 _ _ n1 x))))) ⟨oe,s5.extBut _ _ ah aa,ab⟩
abbrev zh(k l:Bool)(h:Heap)(a b:Addr):Heap:=((((h.push { cls:=.type (if k then "list_iterator" else "tuple_iterator"),data:=.fields #[.ref a,.int 0 0] }).push { cls:=.type (if l then "list_iterator" else "tuple_iterator"),data:=.fields #[.ref b,.int 0 0] }).push
 { cls:=.type "tuple",data:=.seq #[.ref h.objs.size,.ref (h.objs.size+1)] }).push { cls:=.type "tuple",data:=.seq #[.none,.none] }).push { cls:=.type "zip",data:=.fields #[.none,.bool false,.bool false,.ref (h.objs.size+2),.ref (h.objs.size+3)] }
theorem B1(k l:Bool)(a b:Addr)(xs ys:Array Value):Meets (Builtin.«zip.__new__» ⟨[.type "zip",.ref a,.ref b],[]⟩) (λ_ R s=>SqA k s.heap a xs/\SqA l s.heap b ys/\R (.ok (.ret (.ref (s.heap.objs.size+4)))) { s with heap:=zh k l s.heap a b }) :=
 .of_wp λprog w A R s h=>by
  obtain⟨hp,g,d,tk,os⟩:=s;obtain⟨a1,a2,h⟩:=h;have aa:=sub_zip;have b1:SqA k (Shared.heap ⟨hp,g,d,tk,os⟩) a xs:=a1;have b2:SqA l (Shared.heap ⟨hp.push { cls:=.type (if k then "list_iterator" else "tuple_iterator"),data:=.fields #[.ref a,.int 0 0] },g,d,tk,os⟩) b ys:=SqA.keep a2 λo e=>Heap.get?_push_of_some _ e
  wp_walk using o6 b1,o6 b2
  refine⟨_,rfl,?_⟩;simp only[Heap.size_push];exact h
theorem DN(a1:SqA k s.heap a xs)(a2:SqA l s.heap b ys)
  (h:ZAt k l (zh k l s.heap a b) (s.heap.objs.size+4) (s.heap.objs.size+2) (s.heap.objs.size+3) s.heap.objs.size (s.heap.objs.size+1) a b 0 xs ys->(∀c o,s.heap.get? c=some o->(zh k l s.heap a b).get? c=some o)->Q (.ref (s.heap.objs.size+4)) { s with heap:=zh k l s.heap a b }) :
  wpAny (model prog w) A (call (.type "zip") [.ref a,.ref b]) Q E s:=by
 refine callType_new F.called_zip (by decide) (F.typeCall_zip_2 _ _) (F.newCall_zip_2 _ _) (λobj=>F.args_object_init_3 obj _ _) F.entry_zip_new (B1 k l a b xs ys) ⟨a1,a2,?_⟩;have up:∀c o,s.heap.get? c=some o->(zh k l s.heap a b).get? c=some o:=λc o e=>Heap.get?_push_of_some _ (Heap.get?_push_of_some _ (Heap.get?_push_of_some _ (Heap.get?_push_of_some _ (Heap.get?_push_of_some _ e))));have sz:∀(h:Heap) (o:Obj) (n:Nat),h.objs.size=n->o.isFreed=false->(h.push o).get? n=some o:=λh o n e f=>by rw[<- e];exact Heap.get?_push_size _ f
 have e4:(zh k l s.heap a b).get? (s.heap.objs.size+4)=some _:=sz _ _ _ (by simp only[Heap.size_push]) rfl
 have e3:(zh k l s.heap a b).get? (s.heap.objs.size+3)=some _:=Heap.get?_push_of_some _ (sz _ _ _ (by simp only[Heap.size_push]) rfl)
 have e2:(zh k l s.heap a b).get? (s.heap.objs.size+2)=some _:=Heap.get?_push_of_some _ (Heap.get?_push_of_some _ (sz _ _ _ (by simp only[Heap.size_push]) rfl))
 have e1:(zh k l s.heap a b).get? (s.heap.objs.size+1)=some _:=Heap.get?_push_of_some _ (Heap.get?_push_of_some _ (Heap.get?_push_of_some _ (sz _ _ _ (by simp only[Heap.size_push]) rfl)))
 have e0:(zh k l s.heap a b).get? s.heap.objs.size=some _:=Heap.get?_push_of_some _ (Heap.get?_push_of_some _ (Heap.get?_push_of_some _ (Heap.get?_push_of_some _ (Heap.get?_push_size _ rfl))))
 have i0:ItA k (zh k l s.heap a b) s.heap.objs.size a 0:=by
  cases k
  ·exact⟨_,e0,rfl,rfl⟩
  ·exact⟨_,e0,rfl,rfl⟩
 have i1:ItA l (zh k l s.heap a b) (s.heap.objs.size+1) b 0:=by
  cases l
  ·exact⟨_,e1,rfl,rfl⟩
  ·exact⟨_,e1,rfl,rfl⟩
 exact⟨⟨_,e4,rfl⟩,h ⟨e4,e2,⟨_,_,e3⟩,i0,i1,a1.keep λo e=>up _ o e,a2.keep λo e=>up _ o e⟩ up⟩
theorem ZAp.new{n a b:Nat}(h1:a<n)(h2:b<n):ZAp (n+4) (n+2) (n+3) n (n+1) a b:=by
 constructor<;>(intro e;have e:(_:Nat)=_:=e;omega)
end
theorem jU{t':Nat}{fp:List Addr}(I:Inv X pins σ H s)(k:∀b o,b∉fp->s.heap.get? b=some o->h'.get? b=some o)(hf:∀b∈fp,wq X pins H b) :
  Inv X pins σ H { s with heap:=h',toks:=t' }:=by
 have aa:∀b u,H b=some u->b∉fp:=λb u e z=>by rw[(hf b z).1] at e;cases e
 refine I.step (g':=s.gens) (d':=s.drawn) (ch:=fp) (λb hb=>?_) (λb o _ _ hc e _=>k b o hc e) (λb o _ _ hc e _=>⟨o.slots,k b o hc e⟩) (λ_ _ _ _ n=>n)
  (λb o hc e=>⟨o,k b o hc e⟩) (λ_ _ e=>e) (λ_ _ _ e=>e) (λb ps e=>⟨#[],by rw[e];simp⟩) (λm hm=>?_) (λb u e=>?_) I.bare
 ·obtain⟨f0,f1,f2,f3,f4,f5⟩:=hf b hb;exact⟨f3,f1,f4,f5⟩
 ·obtain⟨o,es,ep,ho,r⟩:=hm;exact⟨o,es,ep,k _ o (λz=>(hf _ z).2.1 rfl) ho,r⟩
 ·refine(I.hok b u e).stay (λc v hc q=>k c v ?_ q) (λ_ q=>q) λ_ _ q=>q
  rcases hc with z | z
  ·rw[z];exact aa b u e
  ·exact aa c _ z
def EZ(k:Bool)(K:PySem.W.Frag)(H:Hp)(a:Addr)(xs:Zf):Prop:=match k with | true=>EX K H a xs | false=>Fh K H a xs
theorem EZ.at{xs:Zf}(I:Inv X pins σ H s)(h:EZ k X.K H a xs):∃its:Zc,bv xs its/\SqA k s.heap a its.toArray:=by
 cases k
 ·obtain⟨its,r,p,_⟩:=I.tuple h;exact⟨its,r,p⟩
 ·obtain⟨its,r,p,_⟩:=I.list h;exact⟨its,r,p.isList⟩
theorem EZ.inj{xs ys:Zf}(I:Inv X pins σ H s)(h:EZ k X.K H a xs)(h':EZ k X.K H a ys):xs=ys:=by
 cases k
 ·exact I.tuple_inj h h'
 ·exact I.list_inj h h'
def Itz(K:PySem.W.Frag)(k l:Bool)(a b:Addr):It :=
  ⟨λi H=>∃xs ys x y,EZ k K H a xs/\EZ l K H b ys/\xs[i]?=some x/\ys[i]?=some y,
   λi H v H'=>∃T x y,H T=none/\H'=EW H T (.tup [x,y])/\v=.ref T/\(∀xs,EZ k K H a xs->xs[i]?=some x)/\∀ys,EZ l K H b ys->ys[i]?=some y,
   λi H=>∃xs ys,EZ k K H a xs/\EZ l K H b ys/\(xs.length<=i\/ys.length<=i)⟩
structure ZI(k l:Bool)(h:Heap)(z p o i j a b:Addr)(m:Nat):Prop where
 hz:IsZip h z p o .none
 hp:IsPair h p (.ref i) (.ref j)
 ho:∃u v,IsPair h o u v
 hi:ItA k h i a m
 hj:ItA l h j b m
theorem ZAt.zi{i:Addr}(Z:ZAt k l h z p o i j a b m xs ys):ZI k l h z p o i j a b m:=⟨Z.hz,Z.hp,Z.ho,Z.hi,Z.hj⟩
theorem wa{P:Program}{w:World}{K:PySem.W.Frag}{x1}{i:Addr}(D:ZAp z p o i j a b) :
  y6 P w K (.Tuple elts x1 pos) (Itz K k l a b) [z,p,o,i,j] z (λm h=>ZI k l h z p o i j a b m) where
 mem:=by simp
 obj:=λm h Z c hc=>by
  simp only[List.mem_cons,List.not_mem_nil,or_false] at hc
  rcases hc with rfl | rfl | rfl | rfl | rfl
  ·exact⟨_,Z.hz,λv=>nofun⟩
  ·exact⟨_,Z.hp,λv=>nofun⟩
  ·obtain⟨u,v,e⟩:=Z.ho;exact⟨_,e,λv=>nofun⟩
  ·obtain⟨q,e,_,d⟩:=Z.hi.obj;exact⟨q,e,λv=>by rw[d];nofun⟩
  ·obtain⟨q,e,_,d⟩:=Z.hj.obj;exact⟨q,e,λv=>by rw[d];nofun⟩
 keep:=λm h h' Z kk=>⟨kk _ (by simp) _ Z.hz,kk _ (by simp) _ Z.hp,(by obtain⟨u,v,e⟩:=Z.ho;exact⟨u,v,kk _ (by simp) _ e⟩),Z.hi.keep λq e=>kk _ (by simp) q e,Z.hj.keep λq e=>kk _ (by simp) q e⟩
 item:=by
  intro X hP hw hK hc m aa s σ H E I hf Z hg;subst hP hw hK;obtain⟨xs,ys,x,y,h1,h2,hx,hy⟩:=hg;obtain⟨is,r1,p1⟩:=EZ.at I h1;obtain⟨js,r2,p2⟩:=EZ.at I h2;obtain⟨u,hu,ru⟩:=r1.get hx;obtain⟨v,hv,rv⟩:=r2.get hy;refine E7 (DJ (E:=E) (Q:=λ_ s2=>∃x H',Inv X aa σ H' s2/\bB x (.ref s.heap.objs.size)/\(Itz X.K k l a b).yld m H x H'/\ZI k l s2.heap z p o i j a b (m+1)/\∀b∈[z,p,o,i,j],H' b=none) (elts:=elts) (x1:=x1) (pos:=pos) D ⟨Z.hz,Z.hp,Z.ho,Z.hi,Z.hj,p1,p2⟩ (x:=u) (y:=v) (by simpa using hu) (by simpa using hv) λh' Z' t' n' kk=>?_) λr s1 ⟨u',e1,e2,q⟩=>⟨u',e1,by subst e2;exact q⟩;have ab:H s.heap.objs.size=none:=I.hok.fresh (FH _);have I1:Inv X aa σ (EW H s.heap.objs.size (.tup [x,y])) { s with heap:=s.heap.push { cls:=.type "tuple",data:=.seq #[u,v] } }:=I.laid (t':=s.toks) (λb u e=>Heap.get?_push_of_some _ e) (FH _) ⟨by show 2<=sizeLine;decide,[u,v],.cons ru (.cons rv .nil),⟨_,Heap.get?_push_size _ rfl,rfl,_,rfl⟩⟩;have lt:∀c∈[z,p,o,i,j],c≠s.heap.objs.size:=λc hc=>by
   have:∃q,s.heap.get? c=some q:=by
    simp only[List.mem_cons,List.not_mem_nil,or_false] at hc
    rcases hc with rfl | rfl | rfl | rfl | rfl
    ·exact⟨_,Z.hz⟩
    ·exact⟨_,Z.hp⟩
    ·obtain⟨u,v,e⟩:=Z.ho;exact⟨_,e⟩
    ·obtain⟨q,e,_⟩:=Z.hi.obj;exact⟨q,e⟩
    ·obtain⟨q,e,_⟩:=Z.hj.obj;exact⟨q,e⟩
   obtain⟨q,e⟩:=this;exact Gb (FT e)
  have fr:∀c∈[z,p,o,i,j],EW H s.heap.objs.size (.tup [x,y]) c=none:=λc hc=>by rw[aJ (lt c hc)];exact(hf c hc).1
  have I2:Inv X aa σ (EW H s.heap.objs.size (.tup [x,y])) { s with heap:=h' }:=jU (s:={ s with heap:=s.heap.push { cls:=.type "tuple",data:=.seq #[u,v] } }) (t':=s.toks) (fp:=[z,p,o,i,j]) I1 (λc q hc e=>?_) λc hc=>⟨fr c hc,(hf c hc).2⟩
  ·exact⟨.ref s.heap.objs.size,_,I2,rfl,⟨_,x,y,ab,rfl,rfl,λzs hz=>by rw[EZ.inj I hz h1];exact hx,λzs hz=>by rw[EZ.inj I hz h2];exact hy⟩,Z'.zi,fr⟩
  ·rcases Heap.get?_push_cases e with⟨rfl,rfl⟩ | e
   ·exact t'
   ·exact kk c q (λz=>hc (by simp[z])) (λz=>hc (by simp[z])) (λz=>hc (by simp[z])) (λz=>hc (by simp[z])) e
 done:=by
  intro X hP hw hK hc m aa s σ H E I hf Z hg;subst hP hw hK;obtain⟨xs,ys,h1,h2,hl⟩:=hg;obtain⟨is,r1,p1⟩:=EZ.at I h1;obtain⟨js,r2,p2⟩:=EZ.at I h2;have l1:=r1.length;have l2:=r2.length;refine EC (I.ok.hd hc) D ⟨Z.hz,Z.hp,Z.ho,Z.hi,Z.hj,p1,p2⟩ (hl.imp (λh=>by simp;omega) λh=>by simp;omega) λh' kk=>⟨rfl,jU (t':=s.toks) (fp:=[z,p,o,i,j]) I (λc q hc e=>?_) hf⟩;exact kk c q (λz=>hc (by simp[z])) (λz=>hc (by simp[z])) (λz=>hc (by simp[z])) (λz=>hc (by simp[z])) e
 self:=λ_ _ _ _ _ Z h=>wpAny_pyIter_zip Z.hz h
section
variable {X:Cx}
def iZip(K:PySem.W.Frag)(k l:Bool)(ta:TA):TI:=λσ H R=>ta σ H λvs H1=>∃a b,vs=[.ref a,.ref b]/\(∃xs,EZ k K H1 a xs)/\(∃ys,EZ l K H1 b ys)/\R (Itz K k l a b) H1
theorem Co{a b:Expr}{ta:TA}{p:Pos}{x1}{pos':Pos}(hg:Gl X "zip")(hm:X.mg "zip"=none)(ha:PA X [a,b] ta)(hs:starEach [a,b] X.env=[(false,eval a X.env),(false,eval b X.env)]:=by rfl)(hs2:starEach [b] X.env=[(false,eval b X.env)]:=by rfl) :
  PI X (.Tuple elts x1 pos') (.Call (.Name "zip" p) [a,b] [] pos) (iZip X.K k l ta):=by
 intro aa s σ H R I h;refine Call_ (iw I hg hm boot_zip (GE (E7 (ha pos aa s σ H _ I h) λus s1 ⟨vs,H1,I1,r1,q1⟩=>?_) (by rw[hs,hs2]) (by rw[hs2];rfl)));obtain⟨c,d,e,⟨xs,hx⟩,⟨ys,hy⟩,q⟩:=q1;subst e
 cases r1 with
 | cons r rr =>
  cases rr with
  | cons r' rr =>
   cases rr
   cases r
   cases r'
   obtain⟨is,_,p1⟩:=EZ.at I1 hx;obtain⟨js,_,p2⟩:=EZ.at I1 hy;refine DN p1 p2 λZ up=>wpAny_pyIter_zip Z.hz ?_;have lt:∀ {k:Bool} {c:Addr} {zs:Array Value},SqA k s1.heap c zs->c<s1.heap.objs.size:=λh=>let ⟨_,e,_⟩:=h.there;FT e;refine⟨_,_,_,_,H1,rfl,I1.kept (t':=s1.toks) up,wa (ZAp.new (lt p1) (lt p2)),Z.zi,λb hb=>?_,q⟩;have hb:s1.heap.objs.size<=b:=by
    simp only[List.mem_cons,List.not_mem_nil,or_false] at hb
    rcases hb with rfl | rfl | rfl | rfl | rfl
    ·exact Hs ..
    ·exact Hs ..
    ·exact Hs ..
    ·exact FH _
    ·exact Hs ..
   exact I1.fpOk hb (I1.hok.fresh hb)
end
def sq(k:Bool)(xs:Zh):D:=match k with | true=>.lst xs | false=>.tup xs
def xB(xs ys:Zh):Zh:=List.zipWith (λx y=>D.tup [x,y]) xs ys
def qS:Bool->D->(Zh->Prop)->Prop
 | true,d,k=>qL d k
 | false,d,k=>qT d k
theorem qS.ex{b:Bool}{d:D}{k:Zh->Prop}(h:qS b d k):∃xs,d=sq b xs/\k xs:=by
 cases b
 ·exact qT.ex h
 ·exact qL.ex h
def CM(k l:Bool)(t:TDA)(δ:En)(R:Zh->En->Prop):Prop:=t δ λds δ1=>qC ds λx r=>qC r λy r=>qN r <| qS k x λxs=>qS l y λys=>R (xB xs ys) δ1
section
variable {X:Cx} {ta:TDA}
theorem oR{K:PySem.W.Frag}{M:Addr->Prop}{xs:Zh}{v:V}(h:Fo K M H (sq k xs) v):∃a vs,v=.ref a/\EZ k K H a vs/\Reps K M H xs vs:=by
 cases k
 ·unfold sq Fo at h;exact h
 ·unfold sq Fo at h;obtain⟨a,vs,e,_,l,r⟩:=h;exact⟨a,vs,e,EX.of l,r⟩
theorem xv(k l:Bool){a b:Expr}{p:Pos}{x1}{pos':Pos}(hg:Gl X "zip")(hm:X.mg "zip"=none)(ha:DA X [a,b] ta)(hs:starEach [a,b] X.env=[(false,eval a X.env),(false,eval b X.env)]:=by rfl)(hs2:starEach [b] X.env=[(false,eval b X.env)]:=by rfl) :
  CI X (.Tuple elts x1 pos') (.Call (.Name "zip" p) [a,b] [] pos) (CM k l ta) :=
 ⟨_,Co (k:=k) (l:=l) hg hm ha hs hs2,λG δ P σ H R Q s hs kk=>⟨G,δ,P,_,s,hs,λds δ1 h1 vs H1 hl s1=>by
  replace h1:=qC.ex h1;obtain⟨x,r,e,h1⟩:=h1;replace h1:=qC.ex h1;obtain⟨y,r',e',h1⟩:=h1;replace h1:=qN.ex h1;obtain⟨e2,h1⟩:=h1;replace h1:=qS.ex h1;obtain⟨xs,e3,h1⟩:=h1;replace h1:=qS.ex h1;obtain⟨ys,e4,r⟩:=h1;subst e4 e3 e2 e' e
  match vs,hl with
  | [v,w],_ =>
   have s2:S X.K G δ1 ((sq k xs,v)::(sq l ys,w)::P) σ H1:=s1
   have at1:∀A δ σ H,Sx X.K G A δ ((sq k xs,v)::(sq l ys,w)::P) σ H->∃a vs,v=.ref a/\EZ k X.K H a vs/\Reps X.K (λb=>G.M0 b\/A b) H xs vs:=λA δ σ H x=>oR (x.pnd (sq k xs,v) (by simp))
   have at2:∀A δ σ H,Sx X.K G A δ ((sq k xs,v)::(sq l ys,w)::P) σ H->∃a vs,w=.ref a/\EZ l X.K H a vs/\Reps X.K (λb=>G.M0 b\/A b) H ys vs:=λA δ σ H x=>oR (x.pnd (sq l ys,w) (by simp))
   obtain⟨A1,x1⟩:=id s2;obtain⟨a,ai,rfl,l0,_⟩:=at1 _ _ _ _ x1;obtain⟨b,aj,rfl,m0,_⟩:=at2 _ _ _ _ x1;have al:(xB xs ys).length=min xs.length ys.length:=by unfold xB;rw[List.length_zipWith]
   refine⟨a,b,rfl,⟨ai,l0⟩,⟨aj,m0⟩,kk _ δ1 r _ _ H1 (λq hq=>by simp[hq]) s2 (λA δ σ i H x hi=>?_) (λA δ σ H x=>?_) λA δ σ i y H H2 x hi hy=>?_⟩
   ·obtain⟨_,vs,e,l,r⟩:=at1 _ _ _ _ x
    cases e
    obtain⟨_,ws,e,l2,r2⟩:=at2 _ _ _ _ x
    cases e
    obtain⟨v',hv,_⟩:=Reps.get _ _ r i (xs[i]'(by omega)) (by simp);obtain⟨w',hw,_⟩:=Reps.get _ _ r2 i (ys[i]'(by omega)) (by simp);exact⟨vs,ws,v',w',l,l2,hv,hw⟩
   ·obtain⟨_,vs,e,l,r⟩:=at1 _ _ _ _ x
    cases e
    obtain⟨_,ws,e,l2,r2⟩:=at2 _ _ _ _ x
    cases e
    have:=Reps.length _ _ r
    have:=Reps.length _ _ r2
    exact⟨vs,ws,l,l2,by omega⟩
   ·obtain⟨_,vs,e,l,r⟩:=at1 _ _ _ _ x
    cases e
    obtain⟨_,ws,e,l2,r2⟩:=at2 _ _ _ _ x
    cases e
    obtain⟨T,x',y',hT,rfl,rfl,hx,hy⟩:=hy;have ab:i<xs.length:=by omega
    have ah:i<ys.length:=by omega
    obtain⟨v',hv,rv⟩:=Reps.get _ _ r i xs[i] (by simp[ab]);obtain⟨w',hw,aa⟩:=Reps.get _ _ r2 i ys[i] (by simp[ah]);have e1:=hx vs l;have e2:=hy ws l2;rw[hv] at e1;rw[hw] at e2;have e1:=FU e1;have e2:=FU e2;rw[e1] at rv;rw[e2] at aa;have sm:bM H (EW H T (.tup [x',y'])):=aE hT _;refine⟨sm,.tup [xs[i],ys[i]],?_,?_⟩
    ·unfold xB;rw[List.getElem?_zipWith,List.getElem?_eq_getElem ab,List.getElem?_eq_getElem ah]
    ·unfold Fo
     exact⟨T,[x',y'],rfl,.inl (.inl aD),Reps.cons (Fo.kp (Kp.of_same sm) _ _ rv) (Reps.one (Fo.kp (Kp.of_same sm) _ _ aa))⟩⟩⟩
end
def dFor(src:TDC)(g:TDG)(tb:TDS)(R:aZ)(δ:En):Prop:=src δ λxs δ1=>∃I:Nat->En->Prop,I 0 δ1 /\
 (∀i x δ',xs[i]?=some x->I i δ'->g x δ' (tb { R with nx:=I (i+1),ct:=I (i+1),bk:=R.nx,tp:=False }))/\∀δ',I xs.length δ'->R.nx δ'
theorem exsP{K:PySem.W.Frag}{G:Gf}{P P1:List (D×V)}{W:XK}{R:Str->Str->D->Prop}(hP:∀p∈P,p∈P1)(k:∀c f d,R c f d->∀e C dx δ' σ' H',S K G δ' ((.exn c f d,.ref e)::P) σ' H'->H' e=some (XAt e C dx)->W (.ref e) (some dx) H') :
  ∀c f d,R c f d->∀e C dx δ' σ' H',S K G δ' ((.exn c f d,.ref e)::P1) σ' H'->H' e=some (XAt e C dx)->W (.ref e) (some dx) H':=λc f d r e C dx δ' σ' H' s=>k c f d r e C dx δ' σ' H' (s.sub λp hp=>by
 rcases FJ.mp hp with rfl | hp
 ·simp
 ·simp[hP p hp])
theorem oY{tg e:Expr}{src:TDC}{g:TDG}{t:TDS}{body:List Stmt}(hp:PassesOwn (model X.prog X.w) X.A X.env X.xe)(hc:X.calm=true)(hi:CI X tg e src)(hg:DG X tg g)(hb:DSs X body t)(hs:∀x,foldedSetIterable e X.env x=pure x:=by intro _;rfl) :
  DS X (.For tg e body [] pos) (dFor src g t):=by
 obtain⟨wi,hi,hw⟩:=hi;refine PS.imp (oh hp hc hi hg hb hs) λE σ H ⟨G,δ,P,R,s,h,k1,k2,k3,k4⟩=>?_;refine hw G δ P σ H _ _ s h λxs δ1 ⟨I,i0,turn,fin⟩ J P1 H1 hP s1 hgo hst hyl=>?_;refine⟨λi m σ H=>m=xs.length-i/\i<=xs.length/\∃δ,I i δ/\S X.K G δ P1 σ H,⟨xs.length,by simp,GN _,δ1,i0,s1⟩,?_⟩;rintro i m σ H ⟨rfl,hi,δ',ii,s'⟩;obtain⟨A,x⟩:=id s'
 by_cases hlt:i<xs.length
 ·refine .inr ⟨hgo A _ _ i H x hlt,λσ' H'=>∃δ',I (i+1) δ'/\S X.K G δ' P1 σ' H',λσ' H' ⟨δ',p',s'⟩=>⟨xs.length-(i+1),by omega,rfl,hlt,δ',p',s'⟩,λy H' hy=>?_⟩;obtain⟨sm,d,hd,rd⟩:=hyl A _ _ i y H H' x hlt hy;refine⟨G,δ',P1,d,_,⟨A,(x.same sm).push rd⟩,turn i d δ' hd ii,λδ2 h2 σ2 H2 s2=>?_⟩;refine⟨G,δ2,P1,_,s2,h2,λδ3 h3 σ3 H3 s3=>⟨δ3,h3,s3⟩,⟨λd δ3 h3 v3 σ3 H3 s3=>k2.1 d δ3 h3 v3 σ3 H3 (s3.sub λp hp=>?_),k2.2.1,exsP hP k2.2.2⟩,λδ3 h3 σ3 H3 s3=>k1 δ3 h3 σ3 H3 (s3.sub λp hp=>hP p hp),λδ3 h3 σ3 H3 s3=>⟨δ3,h3,s3⟩,λz=>z.elim⟩
  rcases FJ.mp hp with rfl | hp
  ·simp
  ·simp[hP p hp]
 ·have e:i=xs.length:=by omega
  subst e;exact .inl ⟨hst A _ _ H x,k1 δ' (fin δ' ii) σ H (s'.sub λp hp=>hP p hp)⟩
end DL
namespace DL
open PySem PySem.Spec PyProof.Rows L2
section
variable {X:Cx}
def B0(i:Nat)(tk tx:Fc)(δ:En)(R:W->En->Prop):Prop:=qWD δ[i]? λ_ _ _=>tk δ (wd λz δ1=>tx δ1 (wd λx δ2=>zf δ2[i]? λks ds=>qX z λy=>R (.d ((dAt ks ds y).getD x)) δ2))
variable {e f:Expr} {ta tb:Fc} {pos:Pos}
theorem yA(i:Nat){y:Str}{p apos cpos:Pos}(hu:X.A.units+64<cLine)(he:DE X e ta)(hf:DE X f tb)(hN:X.N[i]?=some y:=by rfl)(hv:Vis X.env.scope y:=by walk_at "v3")
  (hd:(y==("__debug__":Str))=false:=by decide) (hcd:(y==("__classdict__":Str))=false:=by decide) (m:M2 X (.Name y p) "get" apos e f cpos:=by exact⟨rfl,rfl,rfl,rfl⟩) :
  DE X (.Call (.Attribute (.Name y p) "get" apos) [e,f] [] cpos) (B0 i ta tb) :=
 PE.imp (vm (by omega) (dE hN hv hd hcd) he hf m) λσ H Q ⟨G,δ,P,R,s,h1,k,_⟩=>let ⟨a,ks0,ds0,hi0,h1⟩:=qWD.ex h1;⟨.ref a,s.own hi0,a,rfl,by
  obtain⟨A,q⟩:=id s;obtain⟨_,aa,vs,ab,l,rs⟩:=q.own i a _ hi0;exact .inl ⟨_,.inl ab⟩,up.mk s h1 λz δ1 h2 v H1 s1=>up.mk s1 h2 λx δ2 h3 w H2 ⟨A,q⟩=>by
   replace h3:=zf.ex q (s.own hi0) h3;obtain⟨ks,ds,hi,h3⟩:=h3;replace h3:=qX.ex h3;obtain⟨y,ez,r⟩:=h3;subst ez;obtain⟨_,aa,vs,ab,l,rs⟩:=q.own i a _ hi;have p2:v=.str y:=bH (q.pnd (.str y,v) (by simp));have g:=pP.k (k:=Sum.inr y) ab;rw[fg] at g;refine⟨_,by rw[p2];exact g,?_⟩
   cases ed:dAt ks ds y with
   | some d =>
    obtain⟨w',hw,ah⟩:=(Reps.dAt y ks ds vs rs).1 d ed;rw[ed] at r;rw[hw];exact k d δ2 r w' H2 ⟨A,(q.sub (P':=P) λp hp=>by simp[hp]).push ah⟩
   | none =>
    have hw:=(Reps.dAt y ks ds vs rs).2 ed
    rw[ed] at r;rw[hw]
    exact k x δ2 r w H2 ⟨A,q.sub λp hp=>by
     rcases FJ.mp hp with rfl | hp
     ·simp
     ·simp[hp]⟩⟩
end
end DL
namespace DL
open PySem PyProof.Rows
open PySem PySem.Spec PyProof.Rows L2
end DL
namespace Mf
open PySem L2 DL
variable {ts:List (Str×Int)} {i X:Nat} {ks:Zb} {x n:Str} {F:Str→Int} {ps:Za}
def tmD(t:Str×Int):D:=.tup [.str t.1,.int t.2]
structure nN(names:Zb)(ts:List (Str×Int)):Prop where
 sub:(ts.map (·.1)).Sublist names
 nz:∀t∈ts,t.2≠0
 bits:∀t∈ts,Builtin.Int.intBits t.2<=10000
theorem fw{d:D}(h:(ts.map tmD)[i]?=some d):∃t,ts[i]?=some t/\d=.tup [.str t.1,.int t.2]:=by
 rw[List.getElem?_map] at h
 cases e:ts[i]? with
 | none=>rw[e] at h;cases h
 | some n=>rw[e] at h;exact⟨n,rfl,(FU h).symm⟩
theorem aG{α:Type}{l:List α}{x:α}(h:l[i]?=some x):l.take (i+1)=l.take i++[x]:=by rw[List.take_add_one,h];rfl
inductive Kd where
 | least | more
def kdS:Kd->Str
 | .least=>"least"
 | .more=>"more"
def ky(k:Kd)(ts:List (Str×Int))(b:Int):D:=.tup [.str (kdS k),.tup (ts.map tmD),.int b]
def Fk(p:Int×Int):D:=.tup [.int p.1,.int p.2]
def re(ks:Zb)(ps:Za)(n:Str):Int×Int:=(dAt ks ps n).getD (0,1)
def pT(ks:Zb)(ps:Za)(n:Str):Int:=(re ks ps n).1
def pB(ks:Zb)(ps:Za)(n:Str):Int:=(re ks ps n).2
theorem rg{α β:Type}(f:α->β):∀(ks:Zb) (ps:List α) (n:Str),dAt ks (ps.map f) n=(dAt ks ps n).map f
 | [],ps,n=>by cases ps<;>rfl
 | k::ks,[],n=>rfl
 | k::ks,p::ps,n=>by
  show (if k=n then some (f p) else dAt ks (ps.map f) n)=(if k=n then some p else dAt ks ps n).map f
  by_cases e:k=n
  ·rw[FP e,FP e];rfl
  ·rw[FN e,FN e];exact rg f ks ps n
theorem tJ{α:Type}:∀ {ks:Zb} {ps:List α} {n:Str} {p:α},dAt ks ps n=some p->p∈ps
 | [],ps,n,p,h=>by cases ps<;>cases h
 | k::ks,[],n,p,h=>by cases h
 | k::ks,x::ps,n,p,h=>by
  have h:(if k=n then some x else dAt ks ps n)=some p:=h
  by_cases e:k=n
  ·rw[FP e] at h;cases h;exact FD ..
  ·rw[FN e] at h;exact Fz _ (tJ h)
theorem lI{names:Zb}{d:D}(h:(names.map D.str)[i]?=some d):∃n,names[i]?=some n/\d=.str n:=by
 rw[List.getElem?_map] at h
 cases e:names[i]? with
 | none=>rw[e] at h;cases h
 | some n=>rw[e] at h;exact⟨n,rfl,(FU h).symm⟩
theorem vf(h:x∉ks):jf ks x=ks++[x]:=by unfold jf;rw[FN h]
theorem vh{ds:Zh}{y:D}(h:x∉ks):kY ks ds x y=ds++[y]:=by unfold kY;rw[FN h]
theorem vW{l:Zb}(nd:l.Nodup)(h:l[i]?=some x):x∉l.take i:=by
 intro hm;obtain⟨j,hj,e⟩:=List.getElem_of_mem hm;rw[Ge] at hj;rw[List.getElem_take] at e;obtain⟨hi,e2⟩:=List.getElem?_eq_some_iff.mp h;have:=(List.getElem_inj (h₀:=by omega) (h₁:=hi) nd).mp (e.trans e2.symm);omega
theorem sY{l:Zb}(h:l[i]?=some x):x∈l:=FM h
theorem d9{α:Type}(f:Str->α):∀ {names:Zb} {n:Str},n∈names->dAt names (names.map f) n=some (f n)
 | x::r,n,h=>by
  show (if x=n then some (f x) else dAt r (r.map f) n)=_
  by_cases e:x=n
  ·rw[FP e,e]
  ·rw[FN e];exact d9 f ((FJ.mp h).resolve_left λz=>e z.symm)
abbrev Rw:=Kd×List (Str×Int)×Int
def rwD(r:Rw):D:=ky r.1 r.2.1 r.2.2
def cf:List (Str×Int)->Str->Int
 | [],_=>0
 | t::r,n=>(if t.1=n then t.2 else 0)+cf r n
def cfs:List (Rw×Int)->Str->Int
 | [],_=>0
 | p::r,n=>p.2*cf p.1.2.1 n+cfs r n
def bds:List (Rw×Int)->Int
 | []=>0
 | p::r=>p.2*p.1.2.2+bds r
def isM:Kd->Bool
 | .least=>false
 | .more=>true
def Fe(l:List (Rw×Int)):Bool:=l.any λp=>isM p.1.1&&decide (0<p.2)
def kOf:Bool->Kd
 | true=>.more
 | false=>.least
theorem sP:∀ {a b:List (Str×Int)},cf (a++b) n=cf a n+cf b n
 | [],b=>(Hf _).symm
 | t::a,b=>by show _+cf (a++b) n=_+cf a n+_;rw[sP];omega
theorem tK:∀ {a b:List (Rw×Int)},cfs (a++b) n=cfs a n+cfs b n
 | [],b=>(Hf _).symm
 | t::a,b=>by show _+cfs (a++b) n=_+cfs a n+_;rw[tK];omega
theorem sE:∀ {a b:List (Rw×Int)},bds (a++b)=bds a+bds b
 | [],b=>(Hf _).symm
 | t::a,b=>by show _+bds (a++b)=_+bds a+_;rw[sE];omega
theorem zz{a b:List (Rw×Int)}:Fe (a++b)=(Fe a||Fe b):=List.any_append
theorem Ah{p:Rw×Int}:Fe [p]=(isM p.1.1&&decide (0<p.2)):=by unfold Fe;simp
theorem gN:∀ {ts:List (Str×Int)},n∉ts.map (·.1)->cf ts n=0
 | [],_=>rfl
 | t::r,h=>by
  rw[F7,FJ,not_or] at h;show (if t.1=n then t.2 else 0)+cf r n=0;rw[FN (λz=>h.1 z.symm),gN h.2];rfl
structure eQ(F:Str->Int)(ts:List (Str×Int)):Prop where
 pw:(ts.map (·.1)).Pairwise E3
 nd:(ts.map (·.1)).Nodup
 val:∀t∈ts,t.2=F t.1/\t.2≠0
 all:∀n,F n≠0->n∈ts.map (·.1)
theorem eQ.ext{us:List (Str×Int)}(h1:∀t∈ts,t.2=F t.1)(h2:∀t∈us,t.2=F t.1)(h:ts.map (·.1)=us.map (·.1)):ts=us:=by
 have e:∀ {l:List (Str×Int)},(∀t∈l,t.2=F t.1)->l=(l.map (·.1)).map λn=>(n,F n):=λ{l} hl=>by
  rw[GC]
  conv=>lhs;rw[<- List.map_id l]
  refine List.map_congr_left λt ht=>?_;show t=(t.1,F t.1);rw[<- hl t ht]
 rw[e h1,e h2,h]
theorem eQ.uniq{us:List (Str×Int)}(a:eQ F ts)(b:eQ F us):ts=us:=by
 refine eQ.ext (λt h=>(a.val t h).1) (λt h=>(b.val t h).1) (jV a.pw b.pw a.nd b.nd λn=>⟨λh=>b.all n ?_,λh=>a.all n ?_⟩)
 ·obtain⟨t,ht,rfl⟩:=FC.mp h;rw[<- (a.val t ht).1];exact(a.val t ht).2
 ·obtain⟨t,ht,rfl⟩:=FC.mp h;rw[<- (b.val t ht).1];exact(b.val t ht).2
theorem eQ.mk'{ns:Zb}(pw:ns.Pairwise E3)(nd:ns.Nodup)(all:∀n,F n≠0->n∈ns):eQ F ((ns.filter λn=>decide (F n≠0)).map λn=>(n,F n)):=by
 have e:((ns.filter λn=>decide (F n≠0)).map λn=>(n,F n)).map (·.1)=ns.filter λn=>decide (F n≠0):=by rw[GC];exact List.map_id _
 refine⟨by rw[e];exact pw.filter _,by rw[e];exact nd.filter _,λt ht=>?_,λn hn=>?_⟩
 ·obtain⟨n,h1,rfl⟩:=FC.mp ht;exact⟨rfl,by simpa using (FI.mp h1).2⟩
 ·rw[e,FI];exact⟨all n hn,by simpa using hn⟩
theorem pH{f g:Str->D}(h:∀n,n≠x->g n=f n):∀ks:Zb,my ks (ks.map f) x (g x)=ks.map g
 | []=>rfl
 | k::ks=>by
  show (if k=x then g x else f k)::my ks (ks.map f) x (g x)=g k::ks.map g
  rw[pH h ks]
  by_cases e:k=x
  ·rw[FP e,e]
  ·rw[FN e,h k e]
theorem zC{f g:Str->D}(h:∀n,n≠x->g n=f n):kY ks (ks.map f) x (g x)=(jf ks x).map g:=by
 unfold kY jf
 by_cases e:x∈ks
 ·rw[FP e,FP e,pH h]
 ·rw[FN e,FN e,F3]
  congr 1
  exact List.map_congr_left λn hn=>(h n λz=>e (z ▸ hn)).symm
theorem sW(h:ks.Nodup):(jf ks x).Nodup:=by
 unfold jf
 by_cases e:x∈ks
 ·rw[FP e];exact h
 ·rw[FN e,List.nodup_append];exact⟨h,by simp,λa ha b hb z=>by rw[F1.mp hb] at z;exact e (z ▸ ha)⟩
theorem pD:n∈jf ks x↔n∈ks\/n=x:=by
 unfold jf
 by_cases e:x∈ks
 ·rw[FP e];exact⟨.inl,λh=>h.elim id λz=>z ▸ e⟩
 ·rw[FN e,FV,F1]
theorem kB:∀ {ks nm:Zb},ks.Nodup->(∀n∈ks,n∈nm)->ks.length<=nm.length
 | [],_,_,_=>GN _
 | k::ks,nm,h,hs=>by
  obtain⟨h1,h2⟩:=Gz.mp h;have hk:=hs k (FD ..);have:=kB (ks:=ks) (nm:=nm.erase k) h2 λn hn=>(List.mem_erase_of_ne (λz=>h1 (by rw[<- z];exact hn))).mpr (hs n (Fz _ hn));rw[List.length_erase_of_mem hk] at this;have:0<nm.length:=List.length_pos_of_mem hk;rw[FL];omega
theorem nC{α:Type}:∀ {ks:Zb} {ds:List α},x∉ks->dAt ks ds x=none
 | [],ds,_=>by cases ds<;>rfl
 | k::ks,[],_=>rfl
 | k::ks,d::ds,h=>by
  rw[FJ,not_or] at h;show (if k=x then some d else dAt ks ds x)=none;rw[FN (λz=>h.1 z.symm)];exact nC h.2
theorem vi(h:x∉ks->F x=0):(dAt ks (ks.map λn=>D.int (F n)) x).getD (.int 0)=.int (F x):=by
 by_cases e:x∈ks
 ·rw[d9 (λn=>D.int (F n)) e];rfl
 ·rw[nC e,h e];rfl
theorem u7{rows:List Rw}{ws:Ze}:xB (rows.map rwD) (ws.map D.int)=(rows.zip ws).map λp=>D.tup [rwD p.1,.int p.2]:=by
 unfold xB;rw[List.zipWith_map,List.zip,HZ]
theorem tE{nm:Zb}:∀ {l:List (Rw×Int)},(∀p∈l,∀t∈p.1.2.1,t.1∈nm)->cfs l n≠0->n∈nm
 | [],_,h=>absurd rfl h
 | p::r,hp,h=>by
  refine FE λz=>?_;have h1:cfs r n=0:=FE λy=>z (tE (λp h=>hp p (Fz _ h)) y);have h2:cf p.1.2.1 n=0:=gN λhm=>by
   obtain⟨t,ht,e⟩:=FC.mp hm;exact z (e ▸ hp p (FD ..) t ht)
  refine h ?_;show p.2*cf p.1.2.1 n+cfs r n=0;rw[h1,h2,Int.mul_zero,Hf]
structure RwOk(nm:Zb)(B:Nat)(r:Rw):Prop where
 sub:∀t∈r.2.1,t.1∈nm
 bw:∀t∈r.2.1,Builtin.Int.intBits t.2<=B
 bb:Builtin.Int.intBits r.2.2<=B
structure Pt(ks:Zb)(ps:Za)(X:Nat):Prop where
 len:ps.length=ks.length
 low:∀p∈ps,Fn p.1 p.2
 b1:∀p∈ps,Builtin.Int.intBits p.1<=X
 b2:∀p∈ps,Builtin.Int.intBits p.2<=X
theorem Pt.at(hp:Pt ks ps X)(h:n∈ks):dAt ks ps n=some (re ks ps n)/\re ks ps n∈ps:=by
 have e:=kn (ks:=ks) (ds:=ps) (x:=n) hp.len.symm
 rw[F6 h] at e
 cases q:dAt ks ps n with
 | none=>rw[q] at e;cases e
 | some p =>
  have:re ks ps n=p:=by unfold re;rw[q];rfl
  rw[this];exact⟨rfl,tJ q⟩
theorem Pt.D(hp:Pt ks ps X)(h:n∈ks):dAt ks (ps.map Fk) n=some (.tup [.int (pT ks ps n),.int (pB ks ps n)]):=by
 rw[rg,(hp.at h).1];rfl
theorem Pt.pos(hp:Pt ks ps X)(h:n∈ks):0<pB ks ps n:=(hp.low _ (hp.at h).2).pos
theorem Pt.Tb(hp:Pt ks ps X)(h:n∈ks):Builtin.Int.intBits (pT ks ps n)<=X:=hp.b1 _ (hp.at h).2
theorem Pt.mono{Y:Nat}(hp:Pt ks ps X)(h:X<=Y):Pt ks ps Y:=⟨hp.len,hp.low,λp hq=>FB (hp.b1 p hq) h,λp hq=>FB (hp.b2 p hq) h⟩
end Mf
namespace DL
open PySem PySem.Spec PyProof.Rows L2
section
variable {X:Cx} {pos:Pos} {a b e:Expr} {es:List Expr} {ta tb:Fc} {t:TDA}
theorem qy:cm X (.type "dict") (λxs H Q=>∃a kvs,xs=[.ref a]/\Rd H a (.dK kvs)/\∀l,H l=none->Q (.ref l) (EW H l (.dK kvs))):=by
 intro ab s σ H xs us Q I rv h;obtain⟨a,kvs,rfl,e,k⟩:=h;obtain⟨u,rfl,ru⟩:=e5 rv
 cases ru
 obtain⟨hz,lo,va,ra,da⟩:=i7 I.hok e;have fr:H s.heap.objs.size=none:=I.hok.fresh (FH _);refine kt_call_dict lo da (by rw[<- ra.length];exact hz) λh' dd sb=>?_;have kp:∀b o,s.heap.get? b=some o->h'.get? b=some o:=λb o e=>sb.extBut b o (Gb (FT e)) (Heap.get?_push_of_some _ e);have aa:(s.heap.objs.size==sysModules)=false:=Ic.mpr (Hv I.big);exact⟨.ref _,_,I.laid (t':=s.toks) kp (FH _) (xa hz aa ra dd),rfl,k _ fr⟩
def qZ:D->(Zb->Zh->Prop)->Prop
 | .dct ks ds,k=>k ks ds
 | .fd ks ds,k=>k ks ds
 | _,_=>False
theorem qZ.ex{d:D}{k:Zb->Zh->Prop}(h:qZ d k):∃ks ds,(d=.dct ks ds\/d=.fd ks ds)/\k ks ds:=by
 cases d<;>first | exact False.elim h | exact⟨_,_,.inl rfl,h⟩ | exact⟨_,_,.inr rfl,h⟩
def xi(i:Nat)(te:Fc)(R:aZ)(δ:En):Prop:=te δ (wd λd δ1=>qZ d λks ds=>∀a,jB δ1 i (.own a (.dct ks ds)) R.nx)
theorem ds_dictN(i:Nat){y:Str}{p pos' pos2:Pos}(hN:X.N.Nodup)(hg:Gl X "dict")(hm:X.mg "dict"=none)(he:DE X e ta)(hi:X.N[i]?=some y:=by rfl)(hx:Loc X.env.scope y:=by walk_at "v2")
  (h2:starEach [e] X.env=(false,eval e X.env)::starEach [] X.env:=by rfl) (hpl:(backTo pos2 (starEach [] X.env)).any (·.1)=false:=by rfl)
  (hs:swapsWith (.Call (.Name "dict" p) [e] [] pos2) (some (.Name y pos')) pos.line X.env=pure false:=by rfl) (hf:X.fn y=true\/X.env.scope.names.lookup y=some .local :=by walk_at "v1") :
  DS X (.Assign [.Name y pos'] (.Call (.Name "dict" p) [e] [] pos2) pos) (xi i ta) :=
 PS.imp (lL hN hi hx (l7 qy hg hm A8 (cN he hV h2) (by decide) (by decide) h2 hpl) hs hf) λE σ H ⟨G,δ,P,R,s,h,k,_⟩=>up.mk s h λd δ1 h1 v H1 ⟨A,q⟩=>by
  replace h1:=qZ.ex h1;obtain⟨ks,ds,ed,r⟩:=h1;have r0:∃a0 vs,v=.ref a0/\Rd H1 a0 (.dK (cj ks vs))/\ks.length=ds.length/\Reps X.K (λb=>G.M0 b\/A b) H1 ds vs:=by
   rcases ed with ed | ed
   ·subst ed;have r0:=q.pnd (.dct ks ds,v) (by simp);unfold Fo at r0;obtain⟨a0,vs,e,n0,e0,l0,rs⟩:=r0;exact⟨a0,vs,e,.inl e0,l0,rs⟩
   ·subst ed;have r0:=q.pnd (.fd ks ds,v) (by simp);unfold Fo at r0;obtain⟨a0,vs,o,e,e0,l0,rs⟩:=r0;exact⟨a0,vs,e,.inr ⟨o,e0⟩,l0,rs⟩
  obtain⟨a0,vs,rfl,e0,l0,rs⟩:=r0;refine⟨a0,_,rfl,e0,λl hl=>?_⟩;have sm:=aE hl (.dK (cj ks vs));refine k _ (r l) _ _ ⟨_,q.claim (P':=P) hl sm ⟨vs,aD,l0,Reps.kp (Kp.of_same sm) _ _ (Reps.more (λb z=>?_) _ _ rs)⟩ λq hq=>Fz _ hq⟩
  rcases z with z | z
  ·exact .inl z
  ·exact .inr (by rw[z];exact hl)
def DH:V->Zf->Hp->VK->Prop:=λx vs H Q=>∃l xs y,x=.ref l/\vs=[.int 0,y]/\H l=some (.lst xs)/\xs.length<sizeLine/\Q .non (EW H l (.lst (y::xs)))
theorem Ai:MtM X "list.insert" DH:=by
 intro ab s σ H x vs v us Q I rx rv h;obtain⟨l,xs,y,rfl,rfl,hH,hz,q⟩:=h
 cases rx
 cases rv with
 | cons r0 rv =>
  obtain⟨t,rfl⟩:=r0;obtain⟨u,rfl,ru⟩:=e5 rv;obtain⟨z,aa,n,r,hl,e⟩:=I.lstM hH;refine call_meets PySem.F.slot_list_insert ⟨_,e,rfl⟩ PySem.F.entry_list_insert (PySem.F.args_list_insert_3 _ _ _) (PySem.AutoSeq1.list_insert_list_int_val_1 l aa.toArray n 0 t u (by decide) (by rw[FK];omega)) ⟨e,?_⟩;refine⟨.non,_,I.lset (its':=u::aa) hH e ?_ (.cons ru r) ?_,rfl,q⟩
  ·apply Array.toList_inj.mp;simp
  ·rw[FL];omega
def CG(i:Nat)(te:Fc)(R:aZ)(δ:En):Prop:=qWL δ[i]? λa _=>te δ (wd λx δ1=>rL δ1[i]? λds=>ds.length<9000/\jB δ1 i (.own a (.lst (x::ds))) R.nx)
theorem wK(i:Nat){y:Str}{j0}{p p0 apos cpos:Pos}(he:DE X e ta)(hN:X.N[i]?=some y:=by rfl)(hv:Vis X.env.scope y:=by walk_at "v3")
  (hd:(y==("__debug__":Str))=false:=by decide) (hcd:(y==("__classdict__":Str))=false:=by decide)
  (hbase:attributeBase (.Name y p) "insert" X.env (eval (.Name y p) X.env)=eval (.Name y p) X.env:=by rfl)
  (hfew:((backTo cpos (starEach [.Constant (.int 0) j0 p0,e] X.env)).all (λx=>!x.1)&&(backToKw cpos (keywordEach [] X.env)).all (λx=>x.1.isSome)&&decide ([Expr.Constant (.int 0) j0 p0,e].length+([]:List Keyword).length+(if ([]:List Keyword).isEmpty then 0 else 1)<30))=true:=by rfl)
  (hline:(apos.endLine==cpos.line)=true:=by rfl) (hs:starEach [.Constant (.int 0) j0 p0,e] X.env=(false,eval (.Constant (.int 0) j0 p0) X.env)::starEach [e] X.env:=by rfl) (hs2:starEach [e] X.env=(false,eval e X.env)::starEach [] X.env:=by rfl) (hplain:(backTo cpos (starEach [e] X.env)).any (·.1)=false:=by rfl)
  (hsw:swapsWith (.Call (.Attribute (.Name y p) "insert" apos) [.Constant (.int 0) j0 p0,e] [] cpos) none pos.line X.env=pure false:=by rfl) :
  DS X (.Expr (.Call (.Attribute (.Name y p) "insert" apos) [.Constant (.int 0) j0 p0,e] [] cpos) pos) (CG i ta) :=
 PS.imp (m8 (BS PySem.F.plainAttrs_list PySem.F.slot_list_insert PySem.F.type_list_insert Ai (dE hN hv hd hcd) (cN wL (cN he hV hs2) hs) hbase hfew hline hs hplain) hsw) λE σ H ⟨G,δ,P,R,s,h,k,_⟩=>by
  replace h:=qWL.ex h;obtain⟨a,al,ai,h⟩:=h;obtain⟨A0,x0⟩:=id s;obtain⟨h0,_,aj,ah,_⟩:=eT x0 ai;refine⟨.ref a,h0,.inl ⟨rfl,aj,EX.of ah⟩,up.mk s h λx δ1 h1 v H1 ⟨A,q⟩=>?_⟩;replace h1:=rL.ex q h0 h1;obtain⟨ds,hi,hz,r⟩:=h1;obtain⟨_,aa,vs,ab,rs⟩:=eT q hi;refine⟨a,vs,v,rfl,rfl,ab,by rw[<- Reps.length _ _ rs];exact fQ (G5 hz),k _ r _ _ ⟨A,(q.change (d':=.lst (x::ds)) hi (λb o n e=>by rw[aJ n];exact e) ⟨v::vs,aD,?_⟩).sub (P':=P) λq hq=>Fz _ hq⟩⟩;have kp:Kp (λb=>G.M0 b\/A b) H1 (EW H1 a (.lst (v::vs))):=by
   have hk:∀b o,b≠a->H1 b=some o->EW H1 a (.lst (v::vs)) b=some o:=λb o n e=>by rw[aJ n];exact e
   exact⟨λb o e n=>hk b o (λz=>n (.inr (by rw[z];exact aa))) e,λb xs e=>hk b _ (λz=>by rw[z,ab] at e;cases e) e,λb o u e=>hk b _ (λz=>by rw[z,ab] at e;cases e) e⟩
  exact Reps.kp kp _ _ (Reps.cons (q.pnd (x,v) (by simp)) rs)
structure GEnd(K:PySem.W.Frag)(mg:Str->Zd)(x:Str):Prop where
 ex:∃a o n,mg x=some (.ref a)/\K.lookup a=some o/\o.cls=.type "tuple"/\o.data=.seq #[.none,.bool false] n
theorem m3{x:Str}(hg:Gl X x)(h:GEnd X.K X.mg x)(hd:(x==("__debug__":Str))=false:=by decide):DE X (.Name x pos) (dC (.tup [.non,.bl false])):=by
 obtain⟨a,o,n,e,h1,h2,h3⟩:=h.ex;refine PE.imp (nL (v:=.ref a) hg e rfl hd) λσ H Q ⟨G,δ,P,R,⟨A,s⟩,h,k,_⟩=>k _ δ h _ H ⟨A,s.push ?_⟩;unfold Fo;exact⟨a,[.non,.bl false],rfl,.inr ⟨o,_,n,h1,h2,h3,by show 2<=sizeLine;decide,.cons rfl (.cons rfl .nil)⟩,Reps.cons (by unfold Fo;rfl) (Reps.one (by unfold Fo;rfl))⟩
end
end DL
namespace DL
open PySem PySem.Spec PyProof.Rows L2
variable {k:Bool} {it a:Addr} {elts:List Expr} {pos p:Pos}
def Ite(K:PySem.W.Frag)(k:Bool)(a:Addr):It :=
  ⟨λi H=>∃xs x,EZ k K H a xs/\xs[i]?=some x,
   λi H v H'=>∃T x,H T=none/\H'=EW H T (.tup [.int (i:Nat),x])/\v=.ref T/\∀xs,EZ k K H a xs->xs[i]?=some x,
   λi H=>∃xs,EZ k K H a xs/\xs.length=i⟩
def EI(k:Bool)(h:Heap)(e it a:Addr)(m:Nat):Prop:=(∃old,IsEnum h e it ((m:Nat):Int) old)/\ItA k h it a m
section
variable {prog:Program} {w:World} {A:Around} {E:Value→Shared→Prop} {s:Shared}
theorem rX{xs:Array Value}(hh:A.handled=none)(hne:a≠it):Draws prog w A it [it,a] xs.size (λi v=>xs[i]?=some v) (λi h=>ItA k h it a i/\SqA k h a xs) where
 live:=λi h z=>let ⟨o,e,_⟩:=z.1.obj;⟨o,e⟩
 frame:=λi h h' z kk=>⟨z.1.keep λo e=>kk it (by simp) o e,z.2.keep λo e=>kk a (by simp) o e⟩
 item:=λi s Q E hi z hQ=>vM z.1 z.2 (Array.getElem?_eq_getElem hi) λh' z' sb=>hQ _ h' s.toks (Array.getElem?_eq_getElem hi) ⟨z',z.2.keep λo e=>sb.extBut _ _ hne e⟩ sb
 done:=λs Q E z hE=>ig hh z.1 z.2 (Array.getElem?_eq_none (FH _)) hE
def eh(k:Bool)(h:Heap)(a:Addr):Heap:=(h.push { cls:=.type (if k then "list_iterator" else "tuple_iterator"),data:=.fields #[.ref a,.int 0 0] }).push { cls:=.type "enumerate",data:=.fields #[.none,.bool false,.ref h.objs.size,rawInt 0,.none,.none] }
theorem CF(k:Bool)(a:Addr)(xs:Array Value):Meets (Builtin.«enumerate.__new__» ⟨[.type "enumerate",.ref a],[]⟩) (λ_ R s=>SqA k s.heap a xs/\R (.ok (.ret (.ref (s.heap.objs.size+1)))) { s with heap:=eh k s.heap a }) :=
 .of_wp λprog w A R s h=>by
  obtain⟨hp,g,d,tk,os⟩:=s;obtain⟨a1,h⟩:=h;have aa:=sub_enumerate;have b1:SqA k (Shared.heap ⟨hp,g,d,tk,os⟩) a xs:=a1;obtain⟨o,ho,_⟩:=b1.there;have e:(Shared.heap ⟨hp,g,d,tk,os⟩).objs.size+1=(hp.push { cls:=.type (if k then "list_iterator" else "tuple_iterator"),data:=.fields #[.ref a,.int 0 0] }).objs.size:=(GR ..).symm;rw[e] at h
  wp_walk using wpAny_loadPart' ho
  refine wpAny_stack_any λst=>FQ (by
   split
   ·rename_i c _ _ _ _ _
    cases (c==Value.type "enumerate")<;>(wp_walk using wpAny_loadPart' ho,o6 b1)<;>exact⟨_,rfl,h⟩
   ·wp_walk using wpAny_loadPart' ho,o6 b1
    exact⟨_,rfl,h⟩)
theorem Ez{xs:Array Value}{Q:Value->Shared->Prop}(a1:SqA k s.heap a xs)
  (h:IsEnum (eh k s.heap a) (s.heap.objs.size+1) s.heap.objs.size 0 .none->ItA k (eh k s.heap a) s.heap.objs.size a 0->(∀c o,s.heap.get? c=some o->(eh k s.heap a).get? c=some o)->Q (.ref (s.heap.objs.size+1)) { s with heap:=eh k s.heap a }):wpAny (model prog w) A (call (.type "enumerate") [.ref a]) Q E s:=by
 refine callType_new F.called_enumerate (by decide) (F.typeCall_enumerate_1 _) (F.newCall_enumerate_1 _) (λobj=>F.args_object_init_2 obj _) F.entry_enumerate_new (CF k a xs) ⟨a1,?_⟩;have sz:∀(h:Heap) (o:Obj) (n:Nat),h.objs.size=n->o.isFreed=false->(h.push o).get? n=some o:=λh o n e f=>by rw[<- e];exact Heap.get?_push_size _ f
 have e1:IsEnum (eh k s.heap a) (s.heap.objs.size+1) s.heap.objs.size 0 .none:=sz _ _ _ (GR ..) rfl
 have e0:(eh k s.heap a).get? s.heap.objs.size=some _:=Heap.get?_push_of_some _ (Heap.get?_push_size _ rfl)
 exact⟨⟨_,e1,rfl⟩,h e1 (by cases k<;>exact⟨_,e0,rfl,rfl⟩) λc o e=>Heap.get?_push_of_some _ (Heap.get?_push_of_some _ e)⟩
end
theorem sj{P:Program}{w:World}{K:PySem.W.Frag}{x1}{e:Addr}(hne:e≠it)(hea:e≠a)(hia:a≠it):y6 P w K (.Tuple elts x1 pos) (Ite K k a) [e,it] e (λm h=>EI k h e it a m) where
 mem:=by simp
 obj:=λm h Z c hc=>by
  obtain⟨⟨ab,z⟩,zi⟩:=Z;simp only[List.mem_cons,List.not_mem_nil,or_false] at hc
  rcases hc with rfl | rfl
  ·exact⟨_,z,λv=>nofun⟩
  ·obtain⟨q,x,_,d⟩:=zi.obj;exact⟨q,x,λv=>by rw[d];nofun⟩
 keep:=λm h h' Z kk=>by
  obtain⟨⟨ab,z⟩,zi⟩:=Z;exact⟨⟨ab,kk _ (by simp) _ z⟩,zi.keep λo x=>kk _ (by simp) o x⟩
 item:=by
  intro X hP hw hK hc m aa s σ H E I hf Z hg;subst hP hw hK;obtain⟨xs,x,h1,hx⟩:=hg;obtain⟨⟨ab,z⟩,zi⟩:=Z;obtain⟨is,r1,p1⟩:=EZ.at I h1;obtain⟨u,hu,ru⟩:=r1.get hx;have hm:m<is.toArray.size:=by rw[FK];exact(List.getElem?_eq_some_iff.mp hu).1
  refine wpAny_pyNext_enum_itemD (rX (I.ok.hd hc) hia) z ⟨zi,p1⟩ hm hne (by simp[hne,hea]) λy h' tk hy e1 i1 t1 n1 kk=>⟨_,rfl,?_⟩;have ey:y=u:=by rw[List.getElem?_toArray,hu] at hy;exact(FU hy).symm
  subst ey;refine wpAny_letOwnedTupleGo_enum (s:={ s with heap:=h',toks:=tk+1 }) e1 λh2 e2 s2=>?_;have s2:Heap.SameBut e h' h2:=s2;have ah:H s.heap.objs.size=none:=I.hok.fresh (FH _);have I1:Inv X aa σ (EW H s.heap.objs.size (.tup [.int (m:Nat),x])) { s with heap:=s.heap.push { cls:=.type "tuple",data:=.seq #[.int (m:Nat) tk,y] },toks:=tk+1 }:=I.laid (t':=tk+1) (λb u e=>Heap.get?_push_of_some _ e) (FH _) ⟨by show 2<=sizeLine;decide,[.int (m:Nat) tk,y],.cons ⟨_,rfl⟩ (.cons ru .nil),⟨_,Heap.get?_push_size _ rfl,rfl,_,rfl⟩⟩;have ne:∀ {c o},s.heap.get? c=some o->c≠s.heap.objs.size:=λe=>Gb (FT e);have le:e≠s.heap.objs.size:=ne z;have li:it≠s.heap.objs.size:=by obtain⟨q,y,_⟩:=zi.obj;exact ne y
  have fr:∀c∈[e,it],EW H s.heap.objs.size (.tup [.int (m:Nat),x]) c=none:=λc hc'=>by
   rw[aJ (by simp only[List.mem_cons,List.not_mem_nil,or_false] at hc';rcases hc' with rfl | rfl;exact le;exact li)];exact(hf c hc').1
  have I2:Inv X aa σ (EW H s.heap.objs.size (.tup [.int (m:Nat),x])) { s with heap:=h2,toks:=tk+1 }:=jU (s:={ s with heap:=s.heap.push { cls:=.type "tuple",data:=.seq #[.int (m:Nat) tk,y] },toks:=tk+1 }) (t':=tk+1) (fp:=[e,it]) I1 (λc q hc ec=>?_) λc hc=>⟨fr c hc,(hf c hc).2⟩
  ·exact⟨.ref s.heap.objs.size,_,I2,rfl,⟨_,x,ah,rfl,rfl,λzs hz=>by rw[EZ.inj I hz h1];exact hx⟩,⟨⟨_,e2⟩,i1.1.keep λo y=>s2.extBut _ _ (Hl hne) y⟩,fr⟩
  ·have n1:c≠e:=λz=>hc (by rw[z];simp)
   have n2:c≠it:=λz=>hc (by rw[z];simp)
   rcases Heap.get?_push_cases ec with⟨rfl,rfl⟩ | ec
   ·exact s2.extBut _ _ n1 t1
   ·exact s2.extBut _ _ n1 (kk c q n1 n2 ec)
 done:=by
  intro X hP hw hK hc m aa s σ H E I hf Z hg;subst hP hw hK;obtain⟨xs,h1,hl⟩:=hg;obtain⟨⟨ab,z⟩,zi⟩:=Z;obtain⟨is,r1,p1⟩:=EZ.at I h1;have l1:=r1.length;have hm:is.toArray.size=m:=by rw[FK];omega
  subst hm;exact wpAny_pyNext_enum_endD (rX (I.ok.hd hc) hia) z ⟨zi,p1⟩ λh' kk=>⟨rfl,jU (t':=s.toks) (fp:=[e,it]) I (λc q hc e=>kk c q (λz=>hc (by rw[z];simp)) e) hf⟩
 self:=λ_ _ _ _ _ Z h=>wpAny_pyIter_enum Z.1.choose_spec h
section
variable {X:Cx}
def Dv(K:PySem.W.Frag)(k:Bool)(ta:TA):TI:=λσ H R=>ta σ H λvs H1=>∃a,vs=[.ref a]/\(∃xs,EZ k K H1 a xs)/\R (Ite K k a) H1
theorem za{a:Expr}{ta:TA}{x1}{pos':Pos}(hg:Gl X "enumerate")(hm:X.mg "enumerate"=none)(ha:PA X [a] ta)(hs:starEach [a] X.env=[(false,eval a X.env)]:=by rfl) :
  PI X (.Tuple elts x1 pos') (.Call (.Name "enumerate" p) [a] [] pos) (Dv X.K k ta):=by
 intro aa s σ H R I h;refine Call_ (iw I hg hm boot_enumerate (GE (E7 (ha pos aa s σ H _ I h) λus s1 ⟨vs,H1,I1,r1,q1⟩=>?_) (by rw[hs];rfl) rfl));obtain⟨c,e,⟨xs,hx⟩,q⟩:=q1;subst e;obtain⟨u,rfl,ru⟩:=e5 r1
 cases ru
 obtain⟨is,_,p1⟩:=EZ.at I1 hx;obtain⟨o,ho,_⟩:=p1.there;have lt:=FT ho;refine Ez p1 λe1 i1 up=>wpAny_pyIter_enum (s:={ s1 with heap:=eh k s1.heap c }) e1 ?_;refine⟨_,[s1.heap.objs.size+1,s1.heap.objs.size],_,_,H1,rfl,I1.kept (t':=s1.toks) up,sj (Nat.succ_ne_self _) (Hv (GK lt)) (Gb lt),⟨⟨_,e1⟩,i1⟩,λb hb=>?_,q⟩;have hb:s1.heap.objs.size<=b:=by
  simp only[List.mem_cons,List.not_mem_nil,or_false] at hb
  rcases hb with rfl | rfl
  ·exact Hs ..
  ·exact FH _
 exact I1.fpOk hb (I1.hok.fresh hb)
def enD(xs:Zh):Zh:=xs.mapIdx λi x=>.tup [.int (i:Nat),x]
def xD(k:Bool)(t:TDA)(δ:En)(R:Zh->En->Prop):Prop:=t δ λds δ1=>qC ds λx r=>qN r <| qS k x λxs=>R (enD xs) δ1
theorem zW(k:Bool){a:Expr}{ta:TDA}{x1}{pos':Pos}(hg:Gl X "enumerate")(hm:X.mg "enumerate"=none)(ha:DA X [a] ta)(hs:starEach [a] X.env=[(false,eval a X.env)]:=by rfl) :
  CI X (.Tuple elts x1 pos') (.Call (.Name "enumerate" p) [a] [] pos) (xD k ta) :=
 ⟨_,za (k:=k) hg hm ha hs,λG δ P σ H R Q s hs kk=>⟨G,δ,P,_,s,hs,λds δ1 h1 vs H1 hl s1=>by
  replace h1:=qC.ex h1;obtain⟨x,r,e,h1⟩:=h1;replace h1:=qN.ex h1;obtain⟨e',h1⟩:=h1;replace h1:=qS.ex h1;obtain⟨xs,e2,r⟩:=h1;subst e2 e' e
  match vs,hl with
  | [v],_ =>
   have s2:S X.K G δ1 ((sq k xs,v)::P) σ H1:=s1
   have at1:∀A δ σ H,Sx X.K G A δ ((sq k xs,v)::P) σ H->∃a vs,v=.ref a/\EZ k X.K H a vs/\Reps X.K (λb=>G.M0 b\/A b) H xs vs:=λA δ σ H x=>oR (x.pnd (sq k xs,v) (by simp))
   obtain⟨A1,x1⟩:=id s2;obtain⟨a,ab,rfl,l0,_⟩:=at1 _ _ _ _ x1;have ah:(enD xs).length=xs.length:=by unfold enD;rw[List.length_mapIdx]
   refine⟨a,rfl,⟨ab,l0⟩,kk _ δ1 r _ _ H1 (λq hq=>by simp[hq]) s2 (λA δ σ i H x hi=>?_) (λA δ σ H x=>?_) λA δ σ i y H H2 x hi hy=>?_⟩
   ·obtain⟨_,vs,e,l,r⟩:=at1 _ _ _ _ x
    cases e
    obtain⟨v',hv,_⟩:=Reps.get _ _ r i (xs[i]'(by omega)) (by simp);exact⟨vs,v',l,hv⟩
   ·obtain⟨_,vs,e,l,r⟩:=at1 _ _ _ _ x
    cases e
    have:=Reps.length _ _ r
    exact⟨vs,l,by omega⟩
   ·obtain⟨_,vs,e,l,r⟩:=at1 _ _ _ _ x
    cases e
    obtain⟨T,x',hT,rfl,rfl,hx⟩:=hy;have aa:i<xs.length:=by omega
    obtain⟨v',hv,rv⟩:=Reps.get _ _ r i xs[i] (by simp[aa]);have e1:=hx vs l;rw[hv] at e1;have e1:=FU e1;rw[e1] at rv;have sm:bM H (EW H T (.tup [.int (i:Nat),x'])):=aE hT _;refine⟨sm,.tup [.int (i:Nat),xs[i]],?_,?_⟩
    ·unfold enD;rw[List.getElem?_mapIdx,List.getElem?_eq_getElem aa];rfl
    ·unfold Fo
     exact⟨T,[.int (i:Nat),x'],rfl,.inl (.inl aD),Reps.cons (by unfold Fo;rfl) (Reps.one (Fo.kp (Kp.of_same sm) _ _ rv))⟩⟩⟩
end
def Itv(K:PySem.W.Frag)(a:Addr)(n:Nat):It :=
  ⟨λi H=>i<n/\∃xs x,EX K H a xs/\xs.length=n/\xs[n-1-i]?=some x,
   λi H v H'=>H'=H/\∀xs,EX K H a xs->xs[n-1-i]?=some v,
   λi _=>i=n⟩
theorem vT{P:Program}{w:World}{K:PySem.W.Frag}{tg:Expr}{n:Nat}:y6 P w K tg (Itv K a n) [it] it (λi h=>h.IsRevIter it a ((n:Int)-1-(i:Nat))) where
 mem:=by simp
 obj:=λi h st b hb=>by
  have e:b=it:=by simpa using hb
  subst e;obtain⟨o,ho,_,d⟩:=st;exact⟨o,ho,λv=>by rw[d];nofun⟩
 keep:=λi h h' st k=>st.at λo e=>k it (by simp) o e
 item:=by
  intro X hP hw hK hc i aa s σ H E I hf st hg;subst hP hw hK;obtain⟨f0,f1,f2,f3,f4,f5⟩:=hf it (by simp);obtain⟨hi,xs,x,h1,hn,hx⟩:=hg;obtain⟨is,r1,p1,_⟩:=I.list h1;obtain⟨u,hu,ru⟩:=r1.get hx;have e:(n:Int)-1-(i:Nat)=((n-1-i:Nat):Int):=by omega
  rw[e] at st;refine wpAny_pyNext_rev_item st p1.isList (by simpa using hu) λh' st' sb=>⟨_,rfl,?_⟩;have e2:((n-1-i:Nat):Int)-1=(n:Int)-1-((i+1:Nat):Int):=by omega
  rw[e2] at st';obtain⟨o,ho,ab,ah⟩:=id st';have I1:Inv X aa σ H { s with heap:=h' }:=I.turned (t':=s.toks) (λb o hb e=>sb.extBut b o hb e) f0 f1 f3 f4 f5;exact uY (s:={ s with heap:=h' }) (n:="list_reverseiterator") ho ab ah (by decide) ⟨x,H,I1,ru,⟨rfl,λzs hz=>by rw[I.list_inj hz h1];exact hx⟩,st',λb hb=>(hf b hb).1⟩
 done:=by
  intro X hP hw hK hc i aa s σ H E I hf st hg;subst hP hw hK;obtain⟨f0,f1,f2,f3,f4,f5⟩:=hf it (by simp);have hg:i=n:=hg;subst hg;have e:(i:Int)-1-(i:Nat)=-1:=by omega
  rw[e] at st;exact wpAny_pyNext_rev_end (I.ok.hd hc) st λh' eb=>⟨rfl,I.turned (t':=s.toks) (λb o hb e=>eb b o hb e) f0 f1 f3 f4 f5⟩
 self:=λ_ _ _ _ _ st h=>wpAny_pyIter_revIter st h
section
variable {X:Cx} {tg:Expr}
def iRev(K:PySem.W.Frag)(ta:TA):TI:=λσ H R=>ta σ H λvs H1=>∃a xs,vs=[.ref a]/\EX K H1 a xs/\R (Itv K a xs.length) H1
theorem BE{a:Expr}{ta:TA}(hg:Gl X "reversed")(hm:X.mg "reversed"=none)(ha:PA X [a] ta)(hs:starEach [a] X.env=[(false,eval a X.env)]:=by rfl) :
  PI X tg (.Call (.Name "reversed" p) [a] [] pos) (iRev X.K ta):=by
 intro aa s σ H R I h;refine Call_ (iw I hg hm boot_reversed (GE (E7 (ha pos aa s σ H _ I h) λus s1 ⟨vs,H1,I1,r1,q1⟩=>?_) (by rw[hs];rfl) rfl));obtain⟨c,xs,e,hx,q⟩:=q1;subst e;obtain⟨u,rfl,ru⟩:=e5 r1
 cases ru
 obtain⟨is,rv,p1,_⟩:=I1.list hx;have hl:is.toArray.size=xs.length:=by rw[FK,rv.length]
 refine call_reversed_list p1.isList ?_;have st:(s1.heap.push (revObj c ((is.toArray.size:Int)-1))).IsRevIter s1.heap.objs.size c ((xs.length:Int)-1-((0:Nat):Int)):=⟨_,Heap.get?_push_size _ rfl,rfl,by show Data.fields #[.ref c,rawInt ((is.toArray.size:Int)-1)]=_;rw[hl,show ((0:Nat):Int)=0 from rfl,Int.sub_zero]⟩;refine wpAny_pyIter_revIter (s:={ s1 with heap:=s1.heap.push (revObj c ((is.toArray.size:Int)-1)) }) st ?_;refine⟨_,[s1.heap.objs.size],_,_,H1,rfl,I1.kept (t':=s1.toks) λb o e=>Heap.get?_push_of_some _ e,vT,st,λb hb=>?_,q⟩;have e:b=s1.heap.objs.size:=by simpa using hb
 subst e;exact I1.fpOk (FH _) (I1.hok.fresh (FH _))
def Bu(t:TDA)(δ:En)(R:Zh->En->Prop):Prop:=t δ λds δ1=>qC ds λx r=>qN r <| qL x λxs=>R xs.reverse δ1
theorem B8{a:Expr}{ta:TDA}(hg:Gl X "reversed")(hm:X.mg "reversed"=none)(ha:DA X [a] ta)(hs:starEach [a] X.env=[(false,eval a X.env)]:=by rfl) :
  CI X tg (.Call (.Name "reversed" p) [a] [] pos) (Bu ta) :=
 ⟨_,BE hg hm ha hs,λG δ P σ H R Q s hs kk=>⟨G,δ,P,_,s,hs,λds δ1 h1 vs H1 hl s1=>by
  replace h1:=qC.ex h1;obtain⟨x,r,e,h1⟩:=h1;replace h1:=qN.ex h1;obtain⟨e',h1⟩:=h1;replace h1:=qL.ex h1;obtain⟨xs,e2,r⟩:=h1;subst e2 e' e
  match vs,hl with
  | [v],_ =>
   have s2:S X.K G δ1 ((.lst xs,v)::P) σ H1:=s1
   have at1:∀A δ σ H,Sx X.K G A δ ((.lst xs,v)::P) σ H->∃a vs,v=.ref a/\EX X.K H a vs/\Reps X.K (λb=>G.M0 b\/A b) H xs vs:=λA δ σ H x=>by
    have q:=x.pnd (.lst xs,v) (by simp)
    unfold Fo at q;obtain⟨a,vs,e,_,l,r⟩:=q;exact⟨a,vs,e,EX.of l,r⟩
   obtain⟨A1,x1⟩:=id s2;obtain⟨a,aa,rfl,l0,r0⟩:=at1 _ _ _ _ x1;have ab:=Reps.length _ _ r0;refine⟨a,aa,rfl,l0,kk _ δ1 r _ _ H1 (λq hq=>by simp[hq]) s2 (λA δ σ i H x hi=>?_) (λA δ σ H x=>by show xs.reverse.length=aa.length;rw[Hu,ab]) λA δ σ i y H H2 x hi hy=>?_⟩
   ·rw[Hu] at hi;obtain⟨_,vs,e,l,r⟩:=at1 _ _ _ _ x
    cases e
    have ah:=Reps.length _ _ r
    obtain⟨v',hv,_⟩:=Reps.get _ _ r (aa.length-1-i) (xs[aa.length-1-i]'(by omega)) (by simp);exact⟨by omega,vs,v',l,by omega,hv⟩
   ·rw[Hu] at hi;obtain⟨_,vs,e,l,r⟩:=at1 _ _ _ _ x
    cases e
    have ah:=Reps.length _ _ r
    obtain⟨e,hy⟩:=hy;subst e;obtain⟨v',hv,rv⟩:=Reps.get _ _ r (aa.length-1-i) (xs[aa.length-1-i]'(by omega)) (by simp);have z:=hy vs l;rw[hv] at z
    cases z
    refine⟨bM.refl _,_,?_,rv⟩;have e9:xs.length-1-i=aa.length-1-i:=by omega
    rw[List.getElem?_reverse (by omega),e9]
    exact List.getElem?_eq_getElem _⟩⟩
end
end DL
namespace DL
open PySem PySem.Spec PyProof.Rows L2
section
variable {P:Program} {w:World} {h h':Heap} {a:Addr} {es:Array (Int×Value)} {ep:Nat} {t:SetTable}
end
section
variable {prog:Program} {w:World} {A:Around} {E:Value→Shared→Prop} {s:Shared}
end
section
variable {prog:Program} {w:World} {A:Around} {R:Result→Shared→Prop} {I:Addr} {fp wr:List Addr} {G:Array GenState→Array GenState→Prop} {n:Nat} {P:Nat→Value→Prop} {St:Nat→Shared→Prop}
end
section
variable {prog:Program} {w:World} {A:Around} {E:Value→Shared→Prop} {s:Shared}
set_option maxRecDepth 100000 in
set_option maxHeartbeats 3200000 in
end
end DL
namespace DL
open PySem PySem.Spec PyProof.Rows L2
namespace FS
end FS
section
variable {prog:Program} {w:World} {A:Around} {E:Value→Shared→Prop} {s:Shared}
end
section
variable {prog:Program} {w:World} {A:Around} {E:Value→Shared→Prop} {s:Shared} {I S:Addr} {es:Array (Int×Value)} {ep:Nat} {t:SetTable} {F:Heap→Nat→Value→Prop} {vs:Zc}
set_option maxHeartbeats 1000000 in
set_option maxHeartbeats 1000000 in
end
end DL
namespace DL
open PySem PySem.Spec PyProof.Rows L2
section
variable {prog:Program} {w:World} {A:Around} {E:Value→Shared→Prop} {s:Shared} {I S:Addr} {es:Array (Int×Value)} {ep:Nat} {t:SetTable} {F:Heap→Nat→Value→Prop} {vs:Zc}
set_option maxHeartbeats 2000000 in
end
section
variable {X:Cx} {e:Expr} {p p2 pos pos2:Pos} {te:TE}
end
end DL
namespace DL
open PySem PySem.Spec PyProof.Rows L2
section
variable {K:PySem.W.Frag} {G:Gf} {A:Addr→Prop} {δ:List Sl} {P:List (D×V)} {σ:L2.St} {H:Hp}
end
def o8(i:Nat)(t:TDS)(R:aZ)(δ:En):Prop:=qWD δ[i]? λ_ ks ds=>jB δ i (.dat (.fd ks ds)) (t R)
section
variable {X:Cx} {tg e:Expr} {te:Fc}
end
end DL
namespace DL
open PySem PySem.Spec PyProof.Rows L2
variable {R:D→Prop}
section
variable {X:Cx} {pos:Pos} {e:Expr}
end
section
variable {X:Cx} {pos:Pos} {e:Expr} {ta:Fc}
end
section
variable {P:Program} {w:World} {K:PySem.W.Frag} {mg:Str→Zd} {base:Heap}
end
def AN:Zh->(D->Prop)->Prop
 | [.int i,.int j],R=>R (.bl (decide (i=j)))
 | [.str x,.str y],R=>R (.bl (decide (x=y)))
 | [.bl x,.bl y],R=>R (.bl (decide (x=y)))
 | [.tup xs,.tup ys],R=>∃a b c d,xs=[.int a,.int b]/\ys=[.int c,.int d]/\R (.bl (decide ((a,b)=(c,d))))
 | _,_=>False
theorem yK:∀ {d0:Zh} {R:D->Prop},AN d0 R->((∃(i:Int) (j:Int),d0=[.int i,.int j]/\R (.bl (decide (i=j))))\/(∃(x:Str) (y:Str),d0=[.str x,.str y]/\R (.bl (decide (x=y))))\/(∃(x:Bool) (y:Bool),d0=[.bl x,.bl y]/\R (.bl (decide (x=y))))\/(∃(xs:Zh) (ys:Zh),d0=[.tup xs,.tup ys]/\∃a b c d,xs=[.int a,.int b]/\ys=[.int c,.int d]/\R (.bl (decide ((a,b)=(c,d)))))):=by walk_at "or"
theorem yS{a b c d:Int}:AN [.tup [.int a,.int b],.tup [.int c,.int d]] R↔R (.bl (decide ((a,b)=(c,d)))):=by
 constructor
 ·intro h;obtain⟨_,_,_,_,e,e',h⟩:=h
  cases e
  cases e'
  exact h
 ·exact λh=>⟨_,_,_,_,rfl,rfl,h⟩
theorem vE{i j:Int}:AN [.int i,.int j] R=(R (.bl (decide (i=j)))):=rfl
theorem zx{i j:Bool}:AN [.bl i,.bl j] R=(R (.bl (decide (i=j)))):=rfl
theorem vB{i j:Str}:AN [.str i,.str j] R=(R (.bl (decide (i=j)))):=rfl
section
variable {X:Cx}
theorem h7(hu:X.A.units+64<cLine):E9 X (compareOp .Eq) λx y=>aL X.K AN [x,y]:=by
 intro aa s σ H x y v u Q I rx ry h;obtain⟨M,ds,R,m,rs,h,k⟩:=h;replace h:=yK h
 rcases h with⟨_,_,rfl,h⟩ | ⟨_,_,rfl,h⟩ | ⟨_,_,rfl,h⟩ | ⟨_,_,rfl,h⟩
 ·exact hX hu aa s σ H x y v u Q I rx ry ⟨M,_,R,m,rs,h,k⟩
 ·exact hX hu aa s σ H x y v u Q I rx ry ⟨M,_,R,m,rs,h,k⟩
 ·exact hX hu aa s σ H x y v u Q I rx ry ⟨M,_,R,m,rs,h,k⟩
 ·obtain⟨i1,i2,j1,j2,rfl,rfl,h⟩:=h;obtain⟨h1,h2⟩:=bF rs;unfold Fo at h1 h2;obtain⟨a,vs,rfl,sq,ab⟩:=h1;obtain⟨b,ws,rfl,ah,ai⟩:=h2
  cases rx
  cases ry
  obtain⟨v1,v2,rfl,p1,p2⟩:=en ab;obtain⟨w1,w2,rfl,p3,p4⟩:=en ai
  cases aI p1
  cases aI p2
  cases aI p3
  cases aI p4
  obtain⟨al,r1,t1,_⟩:=I.tuple sq;obtain⟨aj,r2,t2,_⟩:=I.tuple ah
  cases r1 with
  | cons q1 r1 =>
   cases r1 with
   | cons q2 r1 =>
    cases r1
    obtain⟨s1,rfl⟩:=q1;obtain⟨s2,rfl⟩:=q2
    cases r2 with
    | cons q3 r2 =>
     cases r2 with
     | cons q4 r2 =>
      cases r2
      obtain⟨s3,rfl⟩:=q3;obtain⟨s4,rfl⟩:=q4;refine SeqAt.eq_tupleAt (e:=λn=>if n=0 then i1==j1 else i2==j2) t1 t2 (by omega) (λn h1 h2=>?_) ?_
      ·match n,h1 with
       | 0,_=>exact Ha i1 s1 j1 s3
       | 1,_=>exact Ha i2 s2 j2 s4
      ·refine⟨.bl _,H,I,rfl,?_⟩;have e1:((List.range (min [Value.int i1 s1,Value.int i2 s2].toArray.size [Value.int j1 s3,Value.int j2 s4].toArray.size)).all (λn=>if n=0 then i1==j1 else i2==j2)&&[Value.int i1 s1,Value.int i2 s2].toArray.size==[Value.int j1 s3,Value.int j2 s4].toArray.size)=decide ((i1,i2)=(j1,j2)):=by
        show ((i1==j1)&&((i2==j2)&&true)&&true)=_
        rw[GU];simp
       rw[e1];exact k _ h _ H (bM.refl H) (Fo.sc rfl)
end
end DL
namespace DL
open PySem PySem.Spec PyProof.Rows L2
section
variable {X:Cx}
end
end DL
namespace DL
open PySem PySem.Spec PyProof.Rows L2
def kI(R:W->En->Prop)(δ:En)(r:D):Prop:=r.im=true/\R (.d r) δ
theorem Sx.slot{K:PySem.W.Frag}{G:Gf}{A:Addr->Prop}{δ:List Sl}{P P':List (D×V)}{σ:L2.St}{H:Hp}{i:Nat}{p:Addr}{d:D}(s:Sx K G A δ P σ H)(aa:A p)(oo:bL K (λb=>G.M0 b\/A b) H p d)(hno:∀(j:Nat) e,δ[j]?≠some (.own p e))(hP:∀q∈P',q∈P) :
  Sx K G A (δ.set i (.own p d)) P' (σ.set i (some (.ref p))) H:=by
 refine⟨s.old,s.stay,s.m0,s.pm,s.new,s.thr,by rw[Gs,Gs,s.len],λj d' e=>?_,λj b d' e=>?_,λj k b d' e' h1 h2=>?_,λq hq=>s.pnd q (hP q hq)⟩
 ·rcases bh e with⟨_,z,_⟩ | ⟨ab,e⟩
  ·cases z
  ·obtain⟨v,q,r⟩:=s.dat j d' e;exact⟨v,by rw[List.getElem?_set_ne ab];exact q,r⟩
 ·rcases bh e with⟨ab,z,hl⟩ | ⟨ab,e⟩
  ·cases z
   subst ab;exact⟨by rw[List.getElem?_set_self (by rw[<- s.len];exact hl)],aa,oo⟩
  ·obtain⟨q,r,o⟩:=s.own j b d' e;exact⟨by rw[List.getElem?_set_ne ab];exact q,r,o⟩
 ·rcases bh h1 with⟨ab,z,hl⟩ | ⟨ab,e⟩
  ·cases z
   rcases bh h2 with⟨ah,_,_⟩ | ⟨ah,e2⟩
   ·rw[<- ab,<- ah]
   ·exact absurd e2 (hno k _)
  ·rcases bh h2 with⟨ah,z,_⟩ | ⟨ah,e2⟩
   ·cases z
    exact absurd e (hno j _)
   ·exact s.inj j k b d' e' e e2
def xw(i:Nat)(src:TDC)(nt:Nat)(caps:List (Nat×Str))(g:TDG)(tc:TDT)(te:Fc)(R:aZ)(δ:En):Prop:=src δ λxs δ1=>xs.length<=9000/\∃f:D->Option D,
 (∀x∈xs,sT nt λts=>g x (ts++e8 caps δ1) λδ2=>tc δ2 λb δ3=>if b=true then te δ3 (wd λy δ4=>okT nt δ4 (e8 caps δ1)/\f x=some y) else okT nt δ3 (e8 caps δ1)/\f x=none)/\∀a,jB δ1 i (.own a (.lst (xs.filterMap f))) R.nx
theorem vY{X:Cx}{elt tgt iter:Expr}{ifs:List Expr}{scope:Scope}{pos pos2 pos':Pos}{src:TDC}{cl:List (Str×Addr)}{te:Fc}(i:Nat){y:Str}(hN:X.N.Nodup)(tn:Zb)(caps:List (Nat×Str)){g:TDG}{tc:TDT}
  (hcalm:X.calm=true) (hclos:closureFor scope X.env=pure cl) (hcell:∀p∈caps,(p.2,NameKind.cell)∉scope.names) (hkind:scope.kind=.function) (hnames:∀y∈scope.names,y.2=.local->scope.names.lookup y.1=some .local)
  (hcl:∀x c,cl.lookup x=some c->X.env.cells.lookup x=some c) (hhas:∀(n:Nat) x,((relabel scope X.env).names.lookup x=some .cell\/(relabel scope X.env).names.lookup x=some .free)->∃c,(cellsFrom n scope.names []++cl).lookup x=some c)
  (hcap:∀p∈caps,X.N[p.1]?=some p.2/\X.env.scope.names.lookup p.2=some .cell/\((relabel scope X.env).names.lookup p.2=some .cell\/(relabel scope X.env).names.lookup p.2=some .free))
  (hi:CI X.nox tgt iter src)
  (hb:∀s2 H2 C fp pn,DG (cO X (tn++caps.map (·.2)) scope cl s2 H2 C fp pn) tgt g/\DF (cO X (tn++caps.map (·.2)) scope cl s2 H2 C fp pn) ifs tc/\DE (cO X (tn++caps.map (·.2)) scope cl s2 H2 C fp pn) elt te)
  (hs:∀x,foldedSetIterable iter X.env x=pure x:=by intro _;rfl) (hi':X.N[i]?=some y:=by rfl) (hx:Loc X.env.scope y:=by walk_at "v2")
  (hsw:swapsWith (.ListComp elt [⟨tgt,iter,ifs,0⟩] scope pos) (some (.Name y pos')) pos2.line X.env=pure true:=by rfl) (hf:X.fn y=true\/X.env.scope.names.lookup y=some .local :=by walk_at "v1") :
  DS X.nox (.Assign [.Name y pos'] (.ListComp elt [⟨tgt,iter,ifs,0⟩] scope pos) pos2) (xw i src tn.length caps g tc te):=by
 obtain⟨wi,hi,hw⟩:=hi;refine PS.imp (kK (g:=upG X.K g) (tc:=upT X.K tc) (te:=up X.K te) tn caps hcalm hclos hcell hkind hnames hcl hhas hcap hi hb hs hN hi' hx hsw hf) λE σ H ⟨G,δ,P,R,s,h,k,_⟩=>?_;refine hw G δ P σ H _ _ s h λxs δ1 ⟨hz,f,hf,r⟩ J P1 H1 hP s1 hgo hst hyl p hp=>?_;refine jN (Q:=λx H1=>qo i x σ H1 E.nx) s1 hz (λA i H x hi=>hgo A _ _ i H x hi) (λA H x=>hst A _ _ H x) (λA i x H H2 s hi hy=>hyl A _ _ i x H H2 s hi hy) hf p hp λA acc H' hA ho x hac rs=>?_;exact k _ (r p) _ H' ⟨_,x.slot (P':=P) (.inr rfl) ⟨acc,hac,rs⟩ (λj e z=>hA (.inr (ho j p e z))) hP⟩
theorem km{X:Cx}{elt tgt iter:Expr}{ifs:List Expr}{scope:Scope}{pos pos2 pos':Pos}{src:TDC}{cl:List (Str×Addr)}{te:Fc}(i:Nat){y:Str}(hN:X.N.Nodup)(tn:Zb)(caps:List (Nat×Str)){g:TDG}{tc:TDT}
  (hcalm:X.calm=true) (hclos:closureFor scope X.env=pure cl) (hcell:∀p∈caps,(p.2,NameKind.cell)∉scope.names) (hkind:scope.kind=.function) (hnames:∀y∈scope.names,y.2=.local->scope.names.lookup y.1=some .local)
  (hcl:∀x c,cl.lookup x=some c->X.env.cells.lookup x=some c) (hhas:∀(n:Nat) x,((relabel scope X.env).names.lookup x=some .cell\/(relabel scope X.env).names.lookup x=some .free)->∃c,(cellsFrom n scope.names []++cl).lookup x=some c)
  (hcap:∀p∈caps,X.N[p.1]?=some p.2/\X.env.scope.names.lookup p.2=some .cell/\((relabel scope X.env).names.lookup p.2=some .cell\/(relabel scope X.env).names.lookup p.2=some .free))
  (hi:CI X.nox tgt iter src)
  (hb:∀s2 H2 C fp pn,DG (cO X (tn++caps.map (·.2)) scope cl s2 H2 C fp pn) tgt g/\DF (cO X (tn++caps.map (·.2)) scope cl s2 H2 C fp pn) ifs tc/\DE (cO X (tn++caps.map (·.2)) scope cl s2 H2 C fp pn) elt te)
  (hs:∀x,foldedSetIterable iter X.env x=pure x:=by intro _;rfl) (hi':X.N[i]?=some y:=by rfl) (hx:Loc X.env.scope y:=by walk_at "v2")
  (hsw:swapsWith (.ListComp elt [⟨tgt,iter,ifs,0⟩] scope pos) (some (.Name y pos')) pos2.line X.env=pure true:=by rfl) (hf:X.fn y=true\/X.env.scope.names.lookup y=some .local :=by walk_at "v1") :
  DS X.nox (.Assign [.Name y pos'] (.ListComp elt [⟨tgt,iter,ifs,0⟩] scope pos) pos2) (dSet i (zK src tn.length caps g tc te)):=by
 obtain⟨wi,hi,hw⟩:=hi;refine PS.imp (kK (g:=upG X.K g) (tc:=upT X.K tc) (te:=up X.K te) tn caps hcalm hclos hcell hkind hnames hcl hhas hcap hi hb hs hN hi' hx hsw hf) λE σ H ⟨G,δ,P,R,s,h,k,_⟩=>?_;refine hw G δ P σ H _ _ s h λxs δ1 ⟨hz,f,hf,r⟩ J P1 H1 hP s1 hgo hst hyl p hp=>?_
 exact ly (Q:=λx H1=>qo i x σ H1 E.nx) s1 hz (λA i H x hi=>hgo A _ _ i H x hi) (λA H x=>hst A _ _ H x) (λA i x H H2 s hi hy=>hyl A _ _ i x H H2 s hi hy) hf (λv H' s'=>k _ r _ H' ((s'.sub (P':=(.lst (xs.filterMap f),v)::P) λq hq=>by
  rcases FJ.mp hq with rfl | hq
  ·simp
  ·exact Fz _ (hP q hq)).set (by simp) λp hp=>by simp[hp])) p hp
section
variable {X:Cx} {tg e:Expr} {te:Fc}
def iSeq(K:PySem.W.Frag)(tl:TE):TI:=λσ H R=>tl σ H λx H1=>(∃a,x=.ref a/\(∃xs,EX K H1 a xs)/\R (Itl K a) H1)\/∃a,x=.ref a/\(∃xs,Fh K H1 a xs)/\R (Itt K a) H1
theorem AX{l:Expr}{tl:TE}(hl:PE X l tl):PI X tg l (iSeq X.K tl):=by
 intro aa s σ H R I h;refine E7 (hl aa s σ H _ I h) λv s1 ⟨x,H1,I1,r1,q1⟩=>?_
 rcases q1 with⟨a,e,⟨xs,hq⟩,q⟩ | ⟨a,e,⟨xs,hq⟩,q⟩
 ·subst e
  cases r1
  obtain⟨ab,rv,p,hz⟩:=I1.list hq;refine Hh p.isList ?_;refine⟨s1.heap.objs.size,[s1.heap.objs.size],_,_,H1,rfl,I1.kept (t':=s1.toks) λb o e=>Heap.get?_push_of_some _ e,lV a _,⟨_,Heap.get?_push_size _ rfl,rfl,rfl⟩,λb hb=>?_,q⟩;have e:b=s1.heap.objs.size:=by simpa using hb
  subst e;exact I1.fpOk (FH _) (I1.hok.fresh (FH _))
 ·subst e
  cases r1
  obtain⟨ab,rv,p,hz⟩:=I1.tuple hq;refine wpAny_pyIter_tuple p ?_;refine⟨s1.heap.objs.size,[s1.heap.objs.size],_,_,H1,rfl,I1.kept (t':=s1.toks) λb o e=>Heap.get?_push_of_some _ e,jL a _,⟨_,Heap.get?_push_size _ rfl,rfl,rfl⟩,λb hb=>?_,q⟩;have e:b=s1.heap.objs.size:=by simpa using hb
  subst e;exact I1.fpOk (FH _) (I1.hok.fresh (FH _))
def qY:D->(Zh->Prop)->Prop
 | .lst xs,k=>k xs
 | .tup xs,k=>k xs
 | _,_=>False
theorem qY.ex{d:D}{k:Zh->Prop}(h:qY d k):∃b xs,d=sq b xs/\k xs:=by
 cases d<;>first | exact False.elim h | exact⟨true,_,rfl,h⟩ | exact⟨false,_,rfl,h⟩
def dcSq(t:Fc)(δ:En)(R:Zh->En->Prop):Prop:=t δ (wd λd δ1=>qY d λxs=>R xs δ1)
theorem Dz(h:DE X e te):CI X tg e (dcSq te):=⟨_,AX h,λG δ P σ H R Q s hs k=>up.mk s hs λd δ1 h1 v H1 s1=>by
 replace h1:=qY.ex h1;obtain⟨kk,xs,e,r⟩:=h1;subst e;have aa:∀A δ σ H,Sx X.K G A δ ((sq kk xs,v)::P) σ H->∃a vs,v=.ref a/\EZ kk X.K H a vs/\Reps X.K (λb=>G.M0 b\/A b) H xs vs:=λA δ σ H x=>oR (x.pnd (sq kk xs,v) (by simp));obtain⟨A1,x1⟩:=id s1;obtain⟨a,ah,rfl,l0,_⟩:=aa _ _ _ _ x1
 cases kk
 ·refine .inr ⟨a,rfl,⟨ah,l0⟩,k xs δ1 r _ _ H1 (λq hq=>by simp[hq]) s1 (λA δ σ i H x hi=>?_) (λA δ σ H x=>?_) λA δ σ i y H H2 x hi hy=>?_⟩
  ·obtain⟨b,vs,e,l,r⟩:=aa _ _ _ _ x
   cases e
   obtain⟨w',hw,_⟩:=Reps.get _ _ r i xs[i] (by simp[hi]);exact⟨vs,w',l,hw⟩
  ·obtain⟨b,vs,e,l,r⟩:=aa _ _ _ _ x
   cases e
   exact⟨vs,l,by rw[Reps.length _ _ r];exact FH _⟩
  ·obtain⟨b,vs,e,l,r⟩:=aa _ _ _ _ x
   cases e
   obtain⟨e,hy⟩:=hy;obtain⟨w',hw,ab⟩:=Reps.get _ _ r i xs[i] (by simp[hi]);have z:=hy vs l;rw[hw] at z
   cases z
   subst e;exact⟨bM.refl _,xs[i],by simp[hi],ab⟩
 ·refine .inl ⟨a,rfl,⟨ah,l0⟩,k xs δ1 r _ _ H1 (λq hq=>by simp[hq]) s1 (λA δ σ i H x hi=>?_) (λA δ σ H x=>?_) λA δ σ i y H H2 x hi hy=>?_⟩
  ·obtain⟨b,vs,e,l,r⟩:=aa _ _ _ _ x
   cases e
   obtain⟨w',hw,_⟩:=Reps.get _ _ r i xs[i] (by simp[hi]);exact⟨vs,w',l,hw⟩
  ·obtain⟨b,vs,e,l,r⟩:=aa _ _ _ _ x
   cases e
   exact⟨vs,l,by rw[Reps.length _ _ r];exact FH _⟩
  ·obtain⟨b,vs,e,l,r⟩:=aa _ _ _ _ x
   cases e
   obtain⟨e,hy⟩:=hy;obtain⟨w',hw,ab⟩:=Reps.get _ _ r i xs[i] (by simp[hi]);have z:=hy vs l;rw[hw] at z
   cases z
   subst e
   exact⟨bM.refl _,xs[i],by simp[hi],ab⟩⟩
end
end DL
namespace DL
open PySem PySem.Spec PyProof.Rows L2
end DL
namespace DL
open PySem PySem.Spec PyProof.Rows L2
section
variable {X:Cx} {pos:Pos} {a b e:Expr} {ta tb:Fc}
end
section
variable {K:PySem.W.Frag} {G:Gf} {A A':Addr→Prop} {δ δ':List Sl} {P P':List (D×V)} {σ σ':L2.St} {H H':Hp} {p:Addr}
end
section
variable {X:Cx} {pos:Pos} {a b e:Expr} {ta tb:Fc}
end
end DL
namespace DL
open PySem PySem.Spec PyProof.Rows L2
variable {K:PySem.W.Frag} {x x1 x2:Str} {st:Stmt} {h:Heap} {mg:Str→Zd}
theorem FdK.fd{ps:Zb}(q:FdK K x st)(X:K.In h)(G:h.Ns mainGlobals mg)
  (b:∀(kV doc pm:Value) (an:Option Addr) (cdv ct:Value) (us:Zc),us.length=ps.length->bindArgs (PySem.W.fnOf x x (c0 st) (bG st) (am st) .none kV doc pm an cdv ct) ⟨us,[]⟩=pure (ps.zip us)):Fd K mg x st ps:=by
 obtain⟨f,oc,od,an,sl,kV,dc,pm,cd,ct,a,l,c,k⟩:=q.ex;have F:=wP (st:=st) l c k;exact⟨_,_,F,F.binds (ps:=ps) b,HJ X G a⟩
theorem gK{α:Type}{l:List α}{n:Nat}(h:l.length=n+1):∃a r,l=a::r/\r.length=n:=by
 cases l with
 | nil=>cases h
 | cons a r=>exact⟨a,r,rfl,He h⟩
theorem len1{α:Type}{l:List α}(h:l.length=1):∃a,l=[a]:=by
 obtain⟨a,r,rfl,h1⟩:=gK h;rw[G9 h1];exact⟨a,rfl⟩
theorem len2{α:Type}{l:List α}(h:l.length=2):∃a b,l=[a,b]:=by
 obtain⟨a,r,rfl,h1⟩:=gK h;obtain⟨b,rfl⟩:=len1 h1;exact⟨a,b,rfl⟩
theorem len3{α:Type}{l:List α}(h:l.length=3):∃a b c,l=[a,b,c]:=by
 obtain⟨a,r,rfl,h1⟩:=gK h;obtain⟨b,c,rfl⟩:=len2 h1;exact⟨a,b,c,rfl⟩
theorem len4{α:Type}{l:List α}(h:l.length=4):∃a b c d,l=[a,b,c,d]:=by
 obtain⟨a,r,rfl,h1⟩:=gK h;obtain⟨b,c,d,rfl⟩:=len3 h1;exact⟨a,b,c,d,rfl⟩
theorem FdK.fd1(q:FdK K x st)(X:K.In h)(G:h.Ns mainGlobals mg)
  (b:∀(kV doc pm:Value) (an:Option Addr) (cdv ct u1:Value),bindArgs (PySem.W.fnOf x x (c0 st) (bG st) (am st) .none kV doc pm an cdv ct) ⟨[u1],[]⟩=pure [(x1,u1)]):Fd K mg x st [x1] :=
 q.fd X G λkV doc pm an cdv ct us hl=>by
  obtain⟨u1,rfl⟩:=len1 hl;exact b kV doc pm an cdv ct u1
theorem FdK.fd2(q:FdK K x st)(X:K.In h)(G:h.Ns mainGlobals mg)
  (b:∀(kV doc pm:Value) (an:Option Addr) (cdv ct u1 u2:Value),bindArgs (PySem.W.fnOf x x (c0 st) (bG st) (am st) .none kV doc pm an cdv ct) ⟨[u1,u2],[]⟩=pure [(x1,u1),(x2,u2)]):Fd K mg x st [x1,x2] :=
 q.fd X G λkV doc pm an cdv ct us hl=>by
  obtain⟨u1,u2,rfl⟩:=len2 hl;exact b kV doc pm an cdv ct u1 u2
theorem FdK.fd3{x3:Str}(q:FdK K x st)(X:K.In h)(G:h.Ns mainGlobals mg)
  (b:∀(kV doc pm:Value) (an:Option Addr) (cdv ct u1 u2 u3:Value),bindArgs (PySem.W.fnOf x x (c0 st) (bG st) (am st) .none kV doc pm an cdv ct) ⟨[u1,u2,u3],[]⟩=pure [(x1,u1),(x2,u2),(x3,u3)]):Fd K mg x st [x1,x2,x3] :=
 q.fd X G λkV doc pm an cdv ct us hl=>by
  obtain⟨u1,u2,u3,rfl⟩:=len3 hl;exact b kV doc pm an cdv ct u1 u2 u3
theorem FdK.fd4{x3 x4:Str}(q:FdK K x st)(X:K.In h)(G:h.Ns mainGlobals mg)
  (b:∀(kV doc pm:Value) (an:Option Addr) (cdv ct u1 u2 u3 u4:Value),bindArgs (PySem.W.fnOf x x (c0 st) (bG st) (am st) .none kV doc pm an cdv ct) ⟨[u1,u2,u3,u4],[]⟩=pure [(x1,u1),(x2,u2),(x3,u3),(x4,u4)]):Fd K mg x st [x1,x2,x3,x4] :=
 q.fd X G λkV doc pm an cdv ct us hl=>by
  obtain⟨u1,u2,u3,u4,rfl⟩:=len4 hl;exact b kV doc pm an cdv ct u1 u2 u3 u4
theorem rm{j k:Nat}{A:Around}(h:fO k A)(e:j<=k:=by decide):fO j A:=h.mono e
end DL
namespace DL
open PySem PySem.Spec PyProof.Rows L2
end DL
namespace DL
open PySem PySem.Spec PyProof.Rows L2
section
variable {X:Cx}
def fAny:Zh->(D->Prop)->Prop
 | [.lst ds],R=>∃bs:List Bool,ds=bs.map D.bl/\R (.bl (bs.any id))
 | _,_=>False
theorem vF{ds:Zh}{R:D->Prop}:fAny [.lst ds] R=(∃bs:List Bool,ds=bs.map D.bl/\R (.bl (bs.any id))):=rfl
def fAll:Zh->(D->Prop)->Prop
 | [.lst ds],R=>∃bs:List Bool,ds=bs.map D.bl/\R (.bl (bs.all id))
 | _,_=>False
theorem zt:∀ {d0:Zh} {R:D->Prop},fAll d0 R->∃(ds:Zh),d0=[.lst ds]/\∃bs:List Bool,ds=bs.map D.bl/\R (.bl (bs.all id)):=by walk_at "or"
theorem vS{ds:Zh}{R:D->Prop}:fAll [.lst ds] R=(∃bs:List Bool,ds=bs.map D.bl/\R (.bl (bs.all id))):=rfl
theorem pE{K:PySem.W.Frag}{M:Addr->Prop}{H:Hp}:∀ {ns:List Bool} {vs:Zf},Reps K M H (ns.map D.bl) vs->vs=ns.map V.bl
 | [],_,h=>h
 | n::ns,_,h=>by
  obtain⟨v,r,rfl,q,t⟩:=h;have q:v=.bl n:=q;rw[q,pE t];rfl
theorem wX:∀ {ns:List Bool} {us:Zc},bv (ns.map V.bl) us->us.length=ns.length/\∀(i:Nat) (v:Value),us[i]?=some v->∃b,ns[i]?=some b/\v=.bool b
 | [],_,r=>by rw[Hc] at r;cases r;exact⟨rfl,λi v e=>by simp at e⟩
 | n::ns,_,r=>by
  rw[F7] at r
  cases r with
  | @cons _ u _ us h t =>
   have e:u=Value.bool n:=h
   subst e;obtain⟨h1,h2⟩:=wX t;refine⟨by rw[FL,FL,h1],λi v e=>?_⟩
   cases i with
   | zero=>cases e;exact⟨n,rfl,rfl⟩
   | succ i=>exact h2 i v e
theorem Ef(hc:X.calm=true):cm X (.builtin "all") (aL X.K fAll):=by
 intro ah s σ H xs us Q I rv h;obtain⟨M,ds,R,m,rs,h,k⟩:=h;replace h:=zt h;obtain⟨_,rfl,h⟩:=h;obtain⟨bs,rfl,h⟩:=h;obtain⟨x,rfl,q⟩:=aV rs;unfold Fo at q;obtain⟨a,vs,rfl,_,e,r⟩:=q;obtain⟨u,rfl,ru⟩:=e5 rv
 cases ru
 cases pE r
 obtain⟨ab,aa,pl,_⟩:=I.list (EX.of e);obtain⟨hl,hg⟩:=wX aa;have il:=pl.isList;have lt:a<s.heap.objs.size:=by obtain⟨_,e,_⟩:=il;exact FT e
 refine call_all_walk (Hh il ⟨_,[_,a],_,_,_,_,λi=>(bs[i]?).getD true,rfl,Walks.list (A:=Around.in1 _) (I.ok.hd hc) _ a (Gb lt) ab.toArray,⟨⟨_,Heap.get?_push_size _ rfl,rfl,rfl⟩,il.push _⟩,λi v s' Q' E' hP hQ=>?_,λh' tk hk=>?_⟩)
 ·obtain⟨b,e,rfl⟩:=hg i v (by simpa using hP);have hQ:Q' ((bs[i]?).getD true) s':=hQ;rw[e] at hQ;exact GT hQ
 ·refine⟨.bl (bs.all id),H,I.kept (t':=tk) (LSm.kept_iter hk),?_,k _ h _ H (bM.refl H) (Fo.sc rfl)⟩;show Value.bool _=Value.bool _;rw[FK,hl,LSm.range_all]
end
theorem Ea:bootBuiltins "all"=some (.builtin "all"):=by decide +kernel
end DL
namespace DL
open PySem PySem.Spec PyProof.Rows L2
variable {R:D→Prop} {xs:Zh}
def fEqz:Zh->(D->Prop)->Prop
 | [.tup xs,.tup []],R=>R (.bl (decide (xs.length=0)))
 | _,_=>False
theorem xV{d0:Zh}(h:fEqz d0 R):∃xs,d0=[.tup xs,.tup []]/\R (.bl (decide (xs.length=0))):=by
 rcases d0 with _ | ⟨a,_ | ⟨b,_ | ⟨c,l⟩⟩⟩
 ·exact False.elim h
 ·cases a<;>exact False.elim h
 ·cases a<;>first | exact False.elim h | (cases b<;>first | exact False.elim h | (rename_i xs ys;cases ys<;>first | exact False.elim h | exact⟨_,rfl,h⟩))
 ·cases a<;>first | exact False.elim h | (cases b<;>first | exact False.elim h | (rename_i xs ys;cases ys<;>exact False.elim h))
theorem BM:fEqz [.tup xs,.tup []] R=R (.bl (decide (xs.length=0))):=rfl
section
variable {X:Cx}
theorem o_eqz(hu:X.A.units+64<cLine):E9 X (compareOp .Eq) λx y=>aL X.K fEqz [x,y]:=by
 intro al s σ H x y v u Q I rx ry h;obtain⟨M,ds,R,m,rs,h,k⟩:=h;obtain⟨xs,rfl,h⟩:=xV h;obtain⟨h1,h2⟩:=bF rs;unfold Fo at h1 h2;obtain⟨a,vs,rfl,sq,ah⟩:=h1;obtain⟨b,ws,rfl,ai,aj⟩:=h2
 cases rx
 cases ry
 obtain⟨ab,r1,t1,_⟩:=I.tuple sq;obtain⟨aa,r2,t2,_⟩:=I.tuple ai;have l1:ab.length=xs.length:=by rw[<- r1.length,<- Reps.length _ _ ah]
 have l2:aa.length=0:=by rw[<- r2.length,<- Reps.length _ _ aj];rfl
 refine SeqAt.eq_tupleAt (e:=λ_=>true) t1 t2 (by omega) (λn _ h2=>?_) ?_
 ·rw[FK,l2] at h2;omega
 have z:((List.range (min ab.toArray.size aa.toArray.size)).all (λ_=>true)&&ab.toArray.size==aa.toArray.size)=decide (xs.length=0):=by
  rw[FK,FK,l1,l2,Nat.min_zero];rfl
 rw[z];exact⟨.bl _,H,I,rfl,k _ h _ H (bM.refl H) (Fo.sc rfl)⟩
def fNez:Zh->(D->Prop)->Prop
 | [.lst xs,.lst []],R=>R (.bl (!decide (xs.length=0)))
 | _,_=>False
theorem xY{d0:Zh}(h:fNez d0 R):∃xs,d0=[.lst xs,.lst []]/\R (.bl (!decide (xs.length=0))):=by
 rcases d0 with _ | ⟨a,_ | ⟨b,_ | ⟨c,l⟩⟩⟩
 ·exact False.elim h
 ·cases a<;>exact False.elim h
 ·cases a<;>first | exact False.elim h | (cases b<;>first | exact False.elim h | (rename_i xs ys;cases ys<;>first | exact False.elim h | exact⟨_,rfl,h⟩))
 ·cases a<;>first | exact False.elim h | (cases b<;>first | exact False.elim h | (rename_i xs ys;cases ys<;>exact False.elim h))
theorem CJ:fNez [.lst xs,.lst []] R=R (.bl (!decide (xs.length=0))):=rfl
theorem DZ(hu:X.A.units+64<cLine):E9 X (compareOp .NotEq) λx y=>aL X.K fNez [x,y]:=by
 intro ah s σ H x y v u Q I rx ry h;obtain⟨M,ds,R,m,rs,h,k⟩:=h;replace h:=xY h;obtain⟨xs,rfl,h⟩:=h;have aa:∀b,R (.bl b)->EP X ah σ Q (.bool b) s:=λb r=>⟨.bl b,H,I,rfl,k _ r _ H (bM.refl H) (Fo.sc rfl)⟩;obtain⟨h1,h2⟩:=bF rs;unfold Fo at h1 h2;obtain⟨a,vs,rfl,_,sq,ai⟩:=h1;obtain⟨b,ws,rfl,_,al,an⟩:=h2
 cases rx
 cases ry
 obtain⟨aj,r1,t1,_⟩:=I.list (EX.of sq);obtain⟨ab,r2,t2,_⟩:=I.list (EX.of al);have l1:aj.length=xs.length:=by rw[<- r1.length,<- Reps.length _ _ ai]
 have l2:ab.length=0:=by rw[<- r2.length,<- Reps.length _ _ an];rfl
 by_cases e:xs.length=0
 ·rw[F6 e] at h;refine SeqAt.RcNeAt.lists (e:=λ_=>true) t1.isList t2.isList (by rw[FK,FK];omega) (by omega) (λn h1 _=>?_) _ _ _ _ ?_
  ·rw[FK] at h1;omega
  ·rw[er];exact aa _ h
 ·rw[F5 e] at h;refine SeqAt.RcNeAt.lists_lengths t1.isList t2.isList ?_ (by omega) _ _ _ _ (aa _ h);rw[FK,FK,bne_iff_ne];omega
end
theorem v4:fIsN [.non,.non] R=R (.bl false):=rfl
theorem vN:fIsN [.tup xs,.non] R=R (.bl true):=rfl
end DL
namespace DL
open PySem PySem.Spec PyProof.Rows L2
variable {a b:Int} {R:D→Prop} {d0:Zh}
def fNef:Zh->(D->Prop)->Prop
 | [.tup xs,.tup ys],R=>∃a b c d,xs=[.int a,.int b]/\ys=[.int c,.int d]/\R (.bl (!decide ((a,b)=(c,d))))
 | _,_=>False
theorem yW{c d:Int}:fNef [.tup [.int a,.int b],.tup [.int c,.int d]] R↔R (.bl (!decide ((a,b)=(c,d)))):=by
 constructor
 ·intro h;obtain⟨_,_,_,_,e,e',h⟩:=h
  cases e
  cases e'
  exact h
 ·exact λh=>⟨_,_,_,_,rfl,rfl,h⟩
theorem yy(h:fNef d0 R):∃a b c d,d0=[.tup [.int a,.int b],.tup [.int c,.int d]]/\R (.bl (!decide ((a,b)=(c,d)))):=by
 rcases d0 with _ | ⟨x,_ | ⟨y,_ | ⟨c,l⟩⟩⟩
 ·exact False.elim h
 ·cases x<;>exact False.elim h
 ·cases x<;>first | exact False.elim h | (cases y<;>first | exact False.elim h | (obtain⟨a,b,c,d,rfl,rfl,h⟩:=h;exact⟨a,b,c,d,rfl,h⟩))
 ·cases x<;>first | exact False.elim h | (cases y<;>exact False.elim h)
def fNif:Zh->(D->Prop)->Prop
 | [.tup xs,.lst ds],R=>∃(a b:Int) (ps:Za),xs=[.int a,.int b]/\ds=ps.map (λq=>.tup [.int q.1,.int q.2])/\R (.bl (!decide ((a,b)∈ps)))
 | _,_=>False
theorem yw(h:fNif d0 R):∃(a b:Int) (ps:Za),d0=[.tup [.int a,.int b],.lst (ps.map (λq=>.tup [.int q.1,.int q.2]))]/\R (.bl (!decide ((a,b)∈ps))):=by
 rcases d0 with _ | ⟨x,_ | ⟨y,_ | ⟨c,l⟩⟩⟩
 ·exact False.elim h
 ·cases x<;>exact False.elim h
 ·cases x<;>first | exact False.elim h | (cases y<;>first | exact False.elim h | (obtain⟨a,b,ps,rfl,rfl,h⟩:=h;exact⟨a,b,ps,rfl,h⟩))
 ·cases x<;>first | exact False.elim h | (cases y<;>exact False.elim h)
def fEql:Zh->(D->Prop)->Prop
 | [.lst xs,.lst []],R=>R (.bl (decide (xs.length=0)))
 | _,_=>False
theorem yP(h:fEql d0 R):∃xs,d0=[.lst xs,.lst []]/\R (.bl (decide (xs.length=0))):=by
 rcases d0 with _ | ⟨a,_ | ⟨b,_ | ⟨c,l⟩⟩⟩
 ·exact False.elim h
 ·cases a<;>exact False.elim h
 ·cases a<;>first | exact False.elim h | (cases b<;>first | exact False.elim h | (rename_i xs ys;cases ys<;>first | exact False.elim h | exact⟨_,rfl,h⟩))
 ·cases a<;>first | exact False.elim h | (cases b<;>first | exact False.elim h | (rename_i xs ys;cases ys<;>exact False.elim h))
theorem Ch{xs:Zh}:fEql [.lst xs,.lst []] R=R (.bl (decide (xs.length=0))):=rfl
theorem frV{K:PySem.W.Frag}{M:Addr->Prop}{H:Hp}{v:V}(r:Fo K M H (.tup [.int a,.int b]) v):∃l,v=.ref l/\Fh K H l [.int a,.int b]:=by
 unfold Fo at r;obtain⟨l,vs,rfl,sq,rs⟩:=r;obtain⟨v1,v2,rfl,p1,p2⟩:=en rs
 cases aI p1
 cases aI p2
 exact⟨l,rfl,sq⟩
section
variable {X:Cx} {pins:List (Addr×Obj)} {σ:L2.St} {H:Hp} {s:Shared}
theorem frEq(I:Inv X pins σ H s){l m:Addr}{c d:Int}(h1:Fh X.K H l [.int a,.int b])(h2:Fh X.K H m [.int c,.int d]){A:Around}(hu:A.units<cLine):SeqAt.EqAt A s (.ref l) (.ref m) (decide ((a,b)=(c,d)))/\SeqAt.RcNeAt A s (.ref l) (.ref m) (!decide ((a,b)=(c,d))):=by
 obtain⟨ab,r1,t1,_⟩:=I.tuple h1;obtain⟨aa,r2,t2,_⟩:=I.tuple h2
 cases r1 with
 | cons q1 r1 =>
  cases r1 with
  | cons q2 r1 =>
   cases r1
   obtain⟨s1,rfl⟩:=q1;obtain⟨s2,rfl⟩:=q2
   cases r2 with
   | cons q3 r2 =>
    cases r2 with
    | cons q4 r2 =>
     cases r2
     obtain⟨s3,rfl⟩:=q3;obtain⟨s4,rfl⟩:=q4;have he:∀j (k1:j<[Value.int a s1,Value.int b s2].toArray.size) (k2:j<[Value.int c s3,Value.int d s4].toArray.size),SeqAt.EqAt A.in1 s [Value.int a s1,Value.int b s2].toArray[j] [Value.int c s3,Value.int d s4].toArray[j] (if j=0 then a==c else b==d):=λj k1 k2=>by
      match j,k1 with
      | 0,_=>exact Ha a s1 c s3
      | 1,_=>exact Ha b s2 d s4
     have e1:((List.range (min [Value.int a s1,Value.int b s2].toArray.size [Value.int c s3,Value.int d s4].toArray.size)).all (λn=>if n=0 then a==c else b==d)&&[Value.int a s1,Value.int b s2].toArray.size==[Value.int c s3,Value.int d s4].toArray.size)=decide ((a,b)=(c,d)):=by
      show ((a==c)&&((b==d)&&true)&&true)=_
      rw[GU];simp
     have k2:=SeqAt.RcNeAt.tuples (A:=A) (e:=λn=>if n=0 then a==c else b==d) t1 t2 hu he
     rw[e1] at k2;refine⟨?_,k2⟩
     by_cases e:l=m
     ·subst e;have:=I.tuple_inj h1 h2;simp only[List.cons.injEq,V.int.injEq,and_true] at this;rw[this.1,this.2,F6 rfl];exact HC _
     ·have k:=SeqAt.RcAt.tuples (A:=A) (e:=λn=>if n=0 then a==c else b==d) t1 t2 hu he
      rw[e1] at k;exact HH e k
theorem EL(hu:X.A.units+64<cLine):E9 X (compareOp .NotEq) λx y=>aL X.K fNef [x,y]:=by
 intro aa s σ H x y v u Q I rx ry h;obtain⟨M,ds,R,m,rs,h,k⟩:=h;obtain⟨a,b,c,d,rfl,z⟩:=yy h;obtain⟨h1,h2⟩:=bF rs;obtain⟨l,rfl,k1⟩:=frV h1;obtain⟨n,rfl,k2⟩:=frV h2
 cases rx
 cases ry
 exact(frEq I k1 k2 (A:=X.A) (by omega)).2 _ _ _ _ ⟨.bl _,H,I,rfl,k _ z _ H (bM.refl H) (Fo.sc rfl)⟩
open Classical in
theorem uI{M:Addr->Prop}(I:Inv X pins σ H s){n:Addr}(hn:Fh X.K H n [.int a,.int b]){A:Around}(hu:A.units<cLine):∀ {ps:Za} {vs:Zf} {us:Zc},Reps X.K M H (ps.map (λq=>.tup [.int q.1,.int q.2])) vs->bv vs us ->
  (∀y∈us,SeqAt.EqAt A s y (.ref n) (decide (∃l,y=.ref l/\Fh X.K H l [.int a,.int b])))/\us.any (λy=>decide (∃l,y=.ref l/\Fh X.K H l [.int a,.int b]))=decide ((a,b)∈ps)
 | [],vs,us,rs,r=>by
  unfold Reps at rs;subst rs
  cases r
  exact⟨λ_ h=>(nomatch h),by simp⟩
 | p::ps,vs,us,rs,r=>by
  rw[F7] at rs;unfold Reps at rs;obtain⟨v,vs',rfl,r1,rs⟩:=rs;obtain⟨l,rfl,sl⟩:=frV r1
  cases r with
  | cons q1 r =>
   cases q1
   obtain⟨i1,i2⟩:=uI I hn hu rs r;have e:decide (∃l',Value.ref l=.ref l'/\Fh X.K H l' [.int a,.int b])=decide ((p.1,p.2)=(a,b)):=by
    refine decide_eq_decide.mpr ⟨λ⟨l',e,h⟩=>?_,λe=>⟨l,rfl,?_⟩⟩
    ·cases e
     have:=I.tuple_inj sl h
     simp only[List.cons.injEq,V.int.injEq,and_true] at this;rw[this.1,this.2]
    ·cases e;exact sl
   refine⟨λy hy=>?_,?_⟩
   ·rcases FJ.mp hy with rfl | hy
    ·rw[e];exact(frEq I sl hn hu).1
    ·exact i1 y hy
   ·rw[HE,i2,e,GU];simp only[Bool.or_eq_true,decide_eq_true_eq,List.mem_cons];exact⟨λz=>z.elim (λy=>.inl y.symm) .inr,λz=>z.elim (λy=>.inl y.symm) .inr⟩
theorem Ei(hu:X.A.units+64<cLine):E9 X (compareOp .NotIn) λx y=>aL X.K fNif [x,y]:=by
 intro aa s σ H x y v u Q I rx ry h;obtain⟨M,ds,R,m,rs,h,k⟩:=h;obtain⟨a,b,ps,rfl,z⟩:=yw h;obtain⟨h0,h2⟩:=bF rs;obtain⟨n,rfl,h1⟩:=frV h0;unfold Fo at h2;obtain⟨c,vs,rfl,_,e,r⟩:=h2
 cases rx
 cases ry
 obtain⟨ab,rv,pl,_⟩:=I.list (EX.of e);obtain⟨k1,k2⟩:=uI I h1 (A:=X.A.in1) (by rw[cu];omega) r rv;refine SeqAt.notIn_listAt _ pl.isList (λy hy=>k1 y (by simpa using hy)) ?_;rw[List.any_toArray,k2];exact⟨.bl _,H,I,rfl,k _ z _ H (bM.refl H) (Fo.sc rfl)⟩
theorem Es(hu:X.A.units+64<cLine):E9 X (compareOp .Eq) λx y=>aL X.K fEql [x,y]:=by
 intro ah s σ H x y v u Q I rx ry h;obtain⟨M,ds,R,m,rs,h,k⟩:=h;obtain⟨xs,rfl,z⟩:=yP h;have aa:∀b,R (.bl b)->EP X ah σ Q (.bool b) s:=λb r=>⟨.bl b,H,I,rfl,k _ r _ H (bM.refl H) (Fo.sc rfl)⟩;obtain⟨h1,h2⟩:=bF rs;unfold Fo at h1 h2;obtain⟨a,vs,rfl,_,sq,ai⟩:=h1;obtain⟨b,ws,rfl,_,al,an⟩:=h2
 cases rx
 cases ry
 obtain⟨aj,r1,t1,_⟩:=I.list (EX.of sq);obtain⟨ab,r2,t2,_⟩:=I.list (EX.of al);have l1:aj.length=xs.length:=by rw[<- r1.length,<- Reps.length _ _ ai]
 have l2:ab.length=0:=by rw[<- r2.length,<- Reps.length _ _ an];rfl
 by_cases e:xs.length=0
 ·rw[F6 e] at z;refine SeqAt.eq_listAt (e:=λ_=>true) t1.isList t2.isList (by rw[FK,FK];omega) (by omega) (λn h1 _=>?_) ?_
  ·rw[FK] at h1;omega
  ·rw[er];exact aa _ z
 ·rw[F5 e] at z;refine SeqAt.eq_list_lengthsAt t1.isList t2.isList ?_ (by omega) (aa _ z);rw[FK,FK,bne_iff_ne];omega
end
end DL
namespace DL
open PySem PySem.Spec PyProof.Rows L2
section
variable {K:PySem.W.Frag} {G:Gf} {A:Addr→Prop} {δ:En} {P:List (D×V)} {σ:L2.St} {H:Hp} {a:Addr} {us:Zf} {u:HO}
end
section
variable {X:Cx} {pos:Pos} {e:Expr} {ta:Fc}
end
end DL
namespace DL
open PySem PySem.Spec PySem.W PyProof.Rows L2
section
variable {prog:Program} {w:World} {A:Around} {E:Value→Shared→Prop} {s:Shared}
def sd(p q:Str)(u v:Value):Zc:=if ltCps q.cps.toList p.cps.toList=true then [v,u] else [u,v]
theorem rR{a x y:Addr}{n:Nat}{p q:Str}{i j:Int}{t1 t2 t3 t4:Tok}{Q:Value->Shared->Prop}(ho:s.heap.get? a=some (seqObj "list" [Value.ref x,.ref y].toArray n))
  (hx:IsTup s.heap x [Value.str p t1,.int i t2].toArray) (hy:IsTup s.heap y [Value.str q t3,.int j t4].toArray) (ne:p≠q)
  (h:Q .none { s with heap:=sortedHeap s.heap a [.ref x,.ref y] (sd p q (.ref x) (.ref y)).toArray }) :
  wpAny (model prog w) A (call (.builtin "list.sort") [.ref a]) Q E s:=by
 refine GO slot_list_sort ⟨_,ho,rfl⟩ entry_list_sort ?_ (args_list_sort _);rw[list_sort_plain];have ha:a<s.heap.objs.size:=FT ho;obtain⟨ox,ex,cx,nx,dx⟩:=hx;obtain⟨oy,ey,cy,ny,dy⟩:=hy;have an:x≠a:=λz=>by rw[z,ho] at ex;cases ex;have z:(Value.type "list":Value)=.type "tuple":=cx;simp at z
 have al:y≠a:=λz=>by rw[z,ho] at ey;cases ey;have z:(Value.type "list":Value)=.type "tuple":=cy;simp at z
 refine FA (listItems_at ho rfl ?_);refine FA (listUpdate_at ho rfl ?_);obtain⟨e1,ho1⟩:∃e1,(s.heap.update a (Obj.mapSeq λ_=>#[])).get? a=some (seqObj "list" #[] e1):=⟨_,get?_update_seq ho (λ_=>#[])⟩;refine FA (seqEpoch_at ho1 rfl ?_);refine FA (wpAny_newTuple ?_);refine FA (wpAny_newList ?_);refine GB ?_;have aa:∀b o,(s.heap.update a (Obj.mapSeq λ_=>(#[]:Array Value))).get? b=some o->(((s.heap.update a (Obj.mapSeq λ_=>#[])).push (seqObj "tuple" [Value.ref x,.ref y].toArray 0)).push (seqObj "list" #[] 0)).get? b=some o:=λb o e=>Heap.get?_push_of_some _ (Heap.get?_push_of_some _ e);have aj:=aa x ox (by rw[Heap.get?_update_ne _ _ _ _ an];exact ex);have ah:=aa y oy (by rw[Heap.get?_update_ne _ _ _ _ al];exact ey);have ai:=aa a _ ho1;show wpAny (model prog w) _ _ _ E { s with heap:=((s.heap.update a (Obj.mapSeq λ_=>#[])).push (seqObj "tuple" [Value.ref x,.ref y].toArray 0)).push (seqObj "list" #[] 0) };generalize hh:((s.heap.update a (Obj.mapSeq λ_=>#[])).push (seqObj "tuple" [Value.ref x,.ref y].toArray 0)).push (seqObj "list" #[] 0)=h6 at *
 dsimp only
 have n2:¬ ([Value.ref x,.ref y]:Zc).toArray.size<2:=by show ¬ 2<2;decide
 rw[FN n2,FN n2];refine FA (kat_kind (s:={ s with heap:=h6 }) (fs:=[.str p t1,.str q t3]) (T:=.type "str") (KatTups.cons aj cx dx rfl (KatTups.cons ah cy dy rfl KatTups.nil)) (by show 0<2;decide) (λv hv=>?_) (by decide) ?_)
 ·simp only[List.mem_cons,List.not_mem_nil,or_false] at hv
  rcases hv with rfl | rfl<;>exact Looks.now
 refine FA (GI (kat_run (ks:=[.ref x,.ref y]) (vs:=[.ref x,.ref y]) (Q:=λab s'=>s'={ s with heap:=h6 }/\failedOf ab=none/\(arrOf ab).map (·.2)=(sd p q (.ref x) (.ref y)).toArray)
  (G:=λr s'=>s'={ s with heap:=h6 }/\r=if ltCps q.cps.toList p.cps.toList=true then #[1,0] else #[0,1]) rfl (by show 2<=2;decide) (by show 2<64;decide) (λr ab s' a1 a2 a3 a4=>⟨a4.1,a3,?_⟩) ?_) ?_ λ_ _ e=>e)
 ·rw[kat_snds rfl a2,a4.2];unfold sd
  split<;>rfl
 ·show wpAny (model prog w) _ (keyLt' (tuples' true) (.ref y) (.ref x)) _ (λ_ _=>False) { s with heap:=h6 }
  refine kat_lt (s:={ s with heap:=h6 }) ah dy aj dx (kat_cons (HD q t3 p t1 prog w _ _ ?_));rw[show (q==p)=false by simpa using λz:q=p=>ne z.symm];refine kat_no (strKind_oneLt prog w _ _ _ (.str q t3) (.str p t1) q.cps.toList p.cps.toList rfl rfl ?_);have e:strKind.blt q.cps.toList p.cps.toList=ltCps q.cps.toList p.cps.toList:=(PyProof.Rows.ltCps_eq _ _).symm;rw[e]
  cases ltCps q.cps.toList p.cps.toList with
  | true =>
   refine⟨rfl,?_⟩;rw[FP rfl]
   dsimp only[List.length_cons,List.length_nil]
   decide
  | false=>exact⟨rfl,rfl⟩
 ·rintro⟨⟨⟩,ab⟩ s' ⟨rfl,hf,hs⟩
  dsimp only
  rw[hs];refine FA (seqEpoch_at (s:={ s with heap:=h6 }) ai rfl ?_);refine FA (listUpdate_at (s:={ s with heap:=h6 }) ai rfl ?_ (hsz2:=by unfold sd;rw[sizeLine_eq];split<;>(show 2<=16777216+1;decide)))
  rw[hf];simp only[bne_self_eq_false,Bool.false_eq_true,if_false];refine FQ ⟨_,rfl,?_⟩;have:sortedHeap s.heap a [.ref x,.ref y] (sd p q (.ref x) (.ref y)).toArray=h6.update a (Obj.mapSeq λ_=>(sd p q (.ref x) (.ref y)).toArray):=by rw[<- hh];rfl
  rw[this] at h;exact h
end
def tm2(t:Str×Int):D:=.tup [.str t.1,.int t.2]
def ef(t u:Str×Int):List (Str×Int):=if ltCps u.1.cps.toList t.1.cps.toList=true then [u,t] else [t,u]
def wZ:Zh->(D->Prop)->Prop
 | [.lst ds],R=>∃t u:Str×Int,ds=[tm2 t,tm2 u]/\t.1≠u.1/\R (.lst ((ef t u).map tm2))
 | _,_=>False
theorem ux{d0:Zh}{R:D->Prop}(h:wZ d0 R):∃t u:Str×Int,d0=[.lst [tm2 t,tm2 u]]/\t.1≠u.1/\R (.lst ((ef t u).map tm2)):=by
 rcases d0 with _ | ⟨a,_ | ⟨b,l⟩⟩
 ·exact False.elim h
 ·cases a<;>first | exact False.elim h | (obtain⟨t,u,rfl,h⟩:=h;exact⟨t,u,rfl,h⟩)
 ·cases a<;>exact False.elim h
theorem tmV{K:PySem.W.Frag}{M:Addr->Prop}{H:Hp}{t:Str×Int}{v:V}(r:Fo K M H (tm2 t) v):∃l,v=.ref l/\Fh K H l [.str t.1,.int t.2]:=by
 unfold tm2 Fo at r;obtain⟨l,vs,rfl,sq,rs⟩:=r;obtain⟨v1,v2,rfl,p1,p2⟩:=en rs
 cases bH p1
 cases aI p2
 exact⟨l,rfl,sq⟩
section
variable {X:Cx}
theorem xN:cm X (.builtin "sorted") (aL X.K wZ):=by
 intro aj s σ H xs us Q I rv h;obtain⟨M,ds,R,m,rs,h,k⟩:=h;obtain⟨t,u,rfl,ne,z⟩:=ux h;obtain⟨x,rfl,q⟩:=aV rs;unfold Fo at q;obtain⟨a,vs,rfl,_,e,r⟩:=q;obtain⟨v1,v2,rfl,p1,p2⟩:=en r;obtain⟨u0,rfl,ru⟩:=e5 rv
 cases ru
 obtain⟨ab,aa,pl,_⟩:=I.list (EX.of e);obtain⟨l1,rfl,q1⟩:=tmV p1;obtain⟨l2,rfl,q2⟩:=tmV p2
 cases aa with
 | cons c1 aa=>cases aa with
  | cons c2 aa =>
   cases aa
   cases c1
   cases c2
   obtain⟨i1,w1,t1,_⟩:=I.tuple q1;obtain⟨i2,w2,t2,_⟩:=I.tuple q2
   cases w1 with
   | cons d1 w1=>cases w1 with
    | cons d2 w1 =>
     cases w1
     cases w2 with
     | cons d3 w2=>cases w2 with
      | cons d4 w2 =>
       cases w2
       obtain⟨s1,rfl⟩:=d1;obtain⟨s2,rfl⟩:=d2;obtain⟨s3,rfl⟩:=d3;obtain⟨s4,rfl⟩:=d4;refine Ho kind_sorted plain_sorted entry_sorted (args_sorted1 _) ?_;unfold Builtin.«sorted»;refine FA (m:=checkCount "sorted" 1 1 _) (FQ ?_);refine FA (collect_list pl.isList ?_);refine FA (wpAny_newList ?_);have hsz:((s.heap.push (seqObj "list" #[] 0)).update s.heap.objs.size (Obj.mapSeq (·++[Value.ref l1,.ref l2].toArray))).objs.size=s.heap.objs.size+1:=by rw[Heap.size_update,size_push']
       have keep:∀b o,s.heap.get? b=some o->(((s.heap.push (seqObj "list" #[] 0)).update s.heap.objs.size (Obj.mapSeq (·++[Value.ref l1,.ref l2].toArray))).push (seqObj "list" [Value.ref l1,.ref l2].toArray 0)).get? b=some o:=λb o q=>by
        have ah:b<s.heap.objs.size:=FT q
        have n1:=Gb ah
        have n2:=Gb (GK ah)
        rw[Heap.get?_push_ne _ _ _ (by rw[hsz];exact n2),Heap.get?_update_ne _ _ _ _ n1,Heap.get?_push_ne _ _ _ n1];exact q
       have ai:(((s.heap.push (seqObj "list" #[] 0)).update s.heap.objs.size (Obj.mapSeq (·++[Value.ref l1,.ref l2].toArray))).push (seqObj "list" [Value.ref l1,.ref l2].toArray 0)).get? (s.heap.objs.size+1)=some (seqObj "list" [Value.ref l1,.ref l2].toArray 0):=by
        rw[<- hsz];exact Heap.get?_push_size _ rfl
       show wpAny _ _ _ _ _ { s with heap:=((s.heap.push (seqObj "list" #[] 0)).update s.heap.objs.size (Obj.mapSeq (·++[Value.ref l1,.ref l2].toArray))).push (seqObj "list" [Value.ref l1,.ref l2].toArray 0) }
       have tu:∀ {l ab},IsTup s.heap l ab->IsTup (((s.heap.push (seqObj "list" #[] 0)).update s.heap.objs.size (Obj.mapSeq (·++[Value.ref l1,.ref l2].toArray))).push (seqObj "list" [Value.ref l1,.ref l2].toArray 0)) l ab:=λ⟨o,e,c,n,d⟩=>⟨o,keep _ _ e,c,n,d⟩
       have al:(((s.heap.push (seqObj "list" #[] 0)).update s.heap.objs.size (Obj.mapSeq (·++[Value.ref l1,.ref l2].toArray))).push (seqObj "list" [Value.ref l1,.ref l2].toArray 0)).objs.size=s.heap.objs.size+2:=by rw[size_push',hsz]
       rw[hsz];generalize (((s.heap.push (seqObj "list" #[] 0)).update s.heap.objs.size (Obj.mapSeq (·++[Value.ref l1,.ref l2].toArray))).push (seqObj "list" [Value.ref l1,.ref l2].toArray 0))=h1 at *;refine FA (GB (rR (s:={ s with heap:=h1 }) ai (tu t1) (tu t2) ne ?_));refine FQ ⟨_,rfl,?_⟩;obtain⟨an,he⟩:=sortedHeap_at (out:=(sd t.1 u.1 (.ref l1) (.ref l2)).toArray) ai;have kp:∀b o,s.heap.get? b=some o->(sortedHeap h1 (s.heap.objs.size+1) [.ref l1,.ref l2] (sd t.1 u.1 (.ref l1) (.ref l2)).toArray).get? b=some o:=λb o e=>by
        have hb:=FT e
        rw[sortedHeap_old (Gb (GK hb)) (by rw[al];exact GK (GK hb))];exact keep _ _ e
       have vo:∃ws:Zf,bv ws (sd t.1 u.1 (.ref l1) (.ref l2))/\ws.length=2/\∀ {M':Addr->Prop} {H':Hp},Fo X.K M' H' (tm2 t) (.ref l1)->Fo X.K M' H' (tm2 u) (.ref l2)->Reps X.K M' H' ((ef t u).map tm2) ws:=by
        unfold sd ef
        by_cases c:ltCps u.1.cps.toList t.1.cps.toList=true
        ·rw[FP c,FP c];exact⟨[.ref l2,.ref l1],.cons rfl (.cons rfl .nil),rfl,λa b=>Reps.cons b (Reps.cons a Reps.nil)⟩
        ·rw[FN c,FN c];exact⟨[.ref l1,.ref l2],.cons rfl (.cons rfl .nil),rfl,λa b=>Reps.cons a (Reps.cons b Reps.nil)⟩
       obtain⟨ws,vw,wl,rp⟩:=vo;have ao:ws.length<=sizeLine:=by rw[wl,sizeLine_eq];decide
       have I2:L2.Inv X aj σ (EW H (s.heap.objs.size+1) (.lst ws)) { s with heap:=sortedHeap h1 (s.heap.objs.size+1) [.ref l1,.ref l2] (sd t.1 u.1 (.ref l1) (.ref l2)).toArray } :=
        I.laid (t':=s.toks) kp (Nat.le_succ _) (show bV X.prog X.w _ _ _ (.lst ws) from⟨ao,_,an,vw,he⟩)
       have fr:H (s.heap.objs.size+1)=none:=I.hok.fresh (Nat.le_succ _)
       have sm:=aE fr (.lst ws)
       refine⟨.ref _,_,I2,rfl,k _ z _ _ sm ?_⟩;unfold Fo;exact⟨_,_,rfl,λy=>m _ y fr,aD,rp (Fo.kp (Kp.of_same sm) _ _ p1) (Fo.kp (Kp.of_same sm) _ _ p2)⟩
end
end DL
namespace DL
open PySem PySem.Spec PyProof.Rows L2
variable {Pr:D→D→Prop}
structure uV(Pr:D->D->Prop)(xs ys:Zh):Prop where
 len:ys.length=xs.length
 all:∀(i:Nat) x y,xs[i]?=some x->ys[i]?=some y->Pr x y
theorem uV.nil:uV Pr [] []:=⟨rfl,λ_ _ _ h=>by simp at h⟩
theorem uV.snoc{xs ys:Zh}{x y:D}(h:uV Pr xs ys)(hy:Pr x y):uV Pr (xs++[x]) (ys++[y]):=by
 refine⟨by rw[FF,FF,h.len];rfl,λi a b ha hb=>?_⟩
 by_cases z:i<xs.length
 ·rw[List.getElem?_append_left z] at ha;rw[List.getElem?_append_left (by rw[h.len];exact z)] at hb;exact h.all i a b ha hb
 ·rw[List.getElem?_append_right (by omega)] at ha;rw[List.getElem?_append_right (by rw[h.len];omega),h.len] at hb
  cases e:i-xs.length with
  | zero=>rw[e] at ha hb;cases ha;cases hb;exact hy
  | succ n=>rw[e] at ha;simp at ha
theorem pX{l:Zh}{i:Nat}{x:D}(h:l[i]?=some x):l.take (i+1)=l.take i++[x]:=by rw[List.take_add_one,h];rfl
def xu(src:TDC)(nt:Nat)(caps:List (Nat×Str))(g:TDG)(tc:TDT)(te:Fc)(δ:En)(R:W->En->Prop):Prop:=src δ λxs δ1=>xs.length<=9000/\∃Pr:D->D->Prop,
 (∀x∈xs,sT nt λts=>g x (ts++e8 caps δ1) λδ2=>tc δ2 λb δ3=>b=true/\te δ3 (wd λy δ4=>okT nt δ4 (e8 caps δ1)/\Pr x y))/\∀ys,uV Pr xs ys->R (.d (.lst ys)) δ1
section
variable {K:PySem.W.Frag} {G:Gf} {δ:List Sl} {P:List (D×V)} {σ:L2.St}
theorem pU{J:It}{xs:Zh}{nt:Nat}{caps:List (Nat×Str)}{g:TDG}{tc:TDT}{te:Fc}{H1:Hp}{Q:VK}(s:S K G δ P σ H1)(hz:xs.length<=9000)
  (hgo:∀A i H,Sx K G A δ P σ H->i<xs.length->J.go i H) (hst:∀A H,Sx K G A δ P σ H->J.stop xs.length H)
  (hyl:∀A i x H H2,Sx K G A δ P σ H->i<xs.length->J.yld i H x H2->bM H H2/\∃d,xs[i]?=some d/\Fo K (λb=>G.M0 b\/A b) H2 d x)
  (hf:∀x∈xs,sT nt λts=>g x (ts++e8 caps δ) λδ2=>tc δ2 λb δ3=>b=true/\te δ3 (wd λy δ4=>okT nt δ4 (e8 caps δ)/\Pr x y))
  (p:Addr) (hp:H1 p=none) (k:∀(A:Addr->Prop) acc ys H',uV Pr xs ys->¬ (G.M0 p\/A p)->(∀(i:Nat) a d,δ[i]?=some (.own a d)->A a)->Sx K G (λb=>A b\/b=p) δ P σ H'->H' p=some (.lst acc)->Reps K (λb=>G.M0 b\/(A b\/b=p)) H' ys acc->Q (.ref p) H') :
  ∃W:Nat->Nat->Zf->L2.St->Hp->Prop,(∃m,W 0 m [] (sf nt caps σ) (EW H1 p (.lst [])))/\∀i m acc σ' H',W i m acc σ' H'->(J.stop i H'/\Q (.ref p) H')\/(J.go i H'/\∀x H2,J.yld i H' x H2 ->
   upG K g x σ' H2 λσ2 H3=>upT K tc σ2 H3 λb H4=>if b=true then up K te σ2 H4 λy H5=>H5 p=some (.lst acc)/\acc.length<sizeLine/\∃m',m'<m/\W (i+1) m' (acc++[y]) σ2 (EW H5 p (.lst (acc++[y]))) else ∃m',m'<m/\W (i+1) m' acc σ2 H4):=by
 obtain⟨A0,x0⟩:=s;have ah:¬ (G.M0 p\/A0 p):=λz=>x0.mem p z hp;have an:∀(i:Nat) d,δ[i]?≠some (.own p d):=λi d e=>ah (.inr (x0.own i p d e).2.1);have x1:=x0.addA hp (aE hp (.lst [])) (by rw[aD];exact λz=>nomatch z)
 refine⟨λi m acc σ' H'=>i<=xs.length/\m=xs.length-i/\acc.length<=i/\H' p=some (.lst acc)/\Sx K G (λb=>A0 b\/b=p) δ P σ H'/\(∃ys,uV Pr (xs.take i) ys/\Reps K (λb=>G.M0 b\/(A0 b\/b=p)) H' ys acc) /\
  ∃ts:List (Option D),ts.length=nt/\Sx K ⟨λb=>G.M0 b\/(A0 b\/b=p),H',λ_=>False⟩ (λ_=>False) (ts.map oS++e8 caps δ) [] σ' H',⟨xs.length,GN _,rfl,FH _,aD,x1,⟨[],by rw[Hn];exact uV.nil,Reps.nil⟩,List.replicate nt none,FX,CB x1⟩,?_⟩
 rintro i m acc σ' H' ⟨hi,rfl,hal,hac,x,⟨ys,al,rs⟩,ts,hts,sx⟩
 by_cases hlt:i<xs.length
 ·refine .inr ⟨hgo _ i H' x hlt,λv H2 hy=>?_⟩;obtain⟨aa,d,hd,rd⟩:=hyl _ i v H' H2 x hlt hy;replace sx:=re_S sx (Kp.of_same aa) (x.same aa).mem;replace x:=x.same aa;replace hac:=aa _ _ hac;replace rs:=Reps.kp (Kp.of_same aa) _ _ rs;clear aa hy;have ai:d∈xs:=FM hd;refine⟨_,ts.map oS++e8 caps δ,[],d,_,⟨_,sx.push (Fo.more (λb z=>.inl (z.elim id λq=>q.elim)) _ _ rd)⟩,kq (hf d ai) ts hts,λδ2 h2 σ2 H3 s2=>?_⟩;refine⟨_,_,[],_,s2,h2,λb δ3 h3 H4 s3=>?_⟩;have az:∀b,(G.M0 b\/(A0 b\/b=p))->H2 b≠none:=x.mem;obtain⟨hb,h3⟩:=h3;subst hb;rw[FP rfl]
  ·refine up.mk (P:=[]) s3 h3 λy δ4 h4 yv H5 s4=>?_;obtain⟨ao,hy⟩:=h4;obtain⟨as,aj,e4⟩:=kw ao;subst e4;obtain⟨A4,y4⟩:=s4;have sm:bM H2 H5:=λb o e=>y4.old b o e id;have x5:=x.same sm;have ab:=sm _ _ hac;have ry:Fo K (λb=>G.M0 b\/(A0 b\/b=p)) H5 y yv:=Fo.more (λb z=>.inl (.inl z)) _ _ (y4.pnd (y,yv) (by simp));have x6:=x5.poke (p:=p) (ws:=acc++[yv]) (.inr rfl) ab an;have kp:Kp (λb=>G.M0 b\/(A0 b\/b=p)) H5 (EW H5 p (.lst (acc++[yv]))):=by
    have hk:∀b o,b≠p->H5 b=some o->EW H5 p (.lst (acc++[yv])) b=some o:=λb o n e=>by rw[aJ n];exact e
    exact⟨λb o e n=>hk b o (λz=>n (.inr (.inr z))) e,λb xs e=>hk b _ (λz=>by rw[z,ab] at e;cases e) e,λb o u e=>hk b _ (λz=>by rw[z,ab] at e;cases e) e⟩
   refine⟨ab,HG (FB hal hi) (fQ hz),xs.length-(i+1),by omega,hlt,rfl,by rw[FF,Gg];omega,aD,x6,⟨ys++[y],by rw[pX hd];exact al.snoc hy,?_⟩,as,aj,re_S y4 kp x6.mem⟩;exact Reps.kp kp _ _ (Reps.append _ _ _ _ (Reps.kp (Kp.of_same sm) _ _ rs) (Reps.one ry))
 ·have e:i=xs.length:=by omega
  subst e;rw[FZ] at al;exact .inl ⟨hst _ H' x,k A0 acc ys H' al ah (λi a d e=>(x0.own i a d e).2.1) x hac rs⟩
end
section
variable {X:Cx} {tg e:Expr} {te:Fc} {ta:TDA}
end
theorem tH{X:Cx}{elt tgt iter:Expr}{ifs:List Expr}{scope:Scope}{pos pos2 pos':Pos}{src:TDC}{cl:List (Str×Addr)}{te:Fc}(i:Nat){y:Str}(hN:X.N.Nodup)(tn:Zb)(caps:List (Nat×Str)){g:TDG}{tc:TDT}
  (hcalm:X.calm=true) (hclos:closureFor scope X.env=pure cl) (hcell:∀p∈caps,(p.2,NameKind.cell)∉scope.names) (hkind:scope.kind=.function) (hnames:∀y∈scope.names,y.2=.local->scope.names.lookup y.1=some .local)
  (hcl:∀x c,cl.lookup x=some c->X.env.cells.lookup x=some c) (hhas:∀(n:Nat) x,((relabel scope X.env).names.lookup x=some .cell\/(relabel scope X.env).names.lookup x=some .free)->∃c,(cellsFrom n scope.names []++cl).lookup x=some c)
  (hcap:∀p∈caps,X.N[p.1]?=some p.2/\X.env.scope.names.lookup p.2=some .cell/\((relabel scope X.env).names.lookup p.2=some .cell\/(relabel scope X.env).names.lookup p.2=some .free))
  (hi:CI X.nox tgt iter src)
  (hb:∀s2 H2 C fp pn,DG (cO X (tn++caps.map (·.2)) scope cl s2 H2 C fp pn) tgt g/\DF (cO X (tn++caps.map (·.2)) scope cl s2 H2 C fp pn) ifs tc/\DE (cO X (tn++caps.map (·.2)) scope cl s2 H2 C fp pn) elt te)
  (hs:∀x,foldedSetIterable iter X.env x=pure x:=by intro _;rfl) (hi':X.N[i]?=some y:=by rfl) (hx:Loc X.env.scope y:=by walk_at "v2")
  (hsw:swapsWith (.ListComp elt [⟨tgt,iter,ifs,0⟩] scope pos) (some (.Name y pos')) pos2.line X.env=pure true:=by rfl) (hf:X.fn y=true\/X.env.scope.names.lookup y=some .local :=by walk_at "v1") :
  DS X.nox (.Assign [.Name y pos'] (.ListComp elt [⟨tgt,iter,ifs,0⟩] scope pos) pos2) (dSet i (xu src tn.length caps g tc te)):=by
 obtain⟨wi,hi,hw⟩:=hi;refine PS.imp (kK (g:=upG X.K g) (tc:=upT X.K tc) (te:=up X.K te) tn caps hcalm hclos hcell hkind hnames hcl hhas hcap hi hb hs hN hi' hx hsw hf) λE σ H ⟨G,δ,P,R,s,h,k,_⟩=>?_;refine hw G δ P σ H _ _ s h λxs δ1 ⟨hz,Pr,hf,r⟩ J P1 H1 hP s1 hgo hst hyl p hp=>?_;refine pU (Q:=λx H1=>qo i x σ H1 E.nx) s1 hz (λA i H x hi=>hgo A _ _ i H x hi) (λA H x=>hst A _ _ H x) (λA i x H H2 s hi hy=>hyl A _ _ i x H H2 s hi hy) hf p hp λA acc ys H' al hA ho x hac rs=>?_
 have s':S X.K G δ1 ((.lst ys,.ref p)::P1) σ H':=⟨A,(x.subA (λb z=>.inl z) ho).push (by
  unfold Fo
  exact⟨p,acc,rfl,hA,hac,Reps.more (λb z=>.inl (z.elim .inl λq=>.inr (.inl q))) _ _ rs⟩)⟩
 exact k _ (r ys al) _ H' ((s'.sub (P':=(.lst ys,.ref p)::P) λq hq=>by
  rcases FJ.mp hq with rfl | hq
  ·simp
  ·exact Fz _ (hP q hq)).set (by simp) λp hp=>by simp[hp])
end DL
namespace HT
open PySem PyProof.Rows
open PySem.SeqAt
open PySem.AutoSeq1 (wpAny_loadPart')
open PySem.MeetsSeq PySem.MeetsSeq2 PySem.MeetsSeq3
section
variable {prog:Program} {w:World} {A:Around} {E:Value→Shared→Prop} {s:Shared}
theorem getItem_tuple_all{t sl:Addr}{items:Array Value}{vl vu:Value}{lo hi:Option Int}{Q:Value->Shared->Prop}(ht:IsTup s.heap t items)(hs:s.heap.IsSliceOf sl vl vu .none)(pl:IsPart vl lo)(pu:IsPart vu hi)
  (hw:sIx items.size 0 lo=0/\sIx items.size items.size hi=items.size) (h:Q (.ref t) s):wpAny (model prog w) A (getItem (.ref t) (.ref sl)) Q E s:=by
 have hj:sIx items.size items.size hi<=items.size:=xH _ _ (FH _) hi
 obtain⟨os,ah,ab,aj⟩:=id hs;have ai:s.TypeIs (.ref sl) "slice":=⟨os,ah,ab⟩;unfold getItem
 try with_reducible refine GB ?_
 first | refine FA (FQ ?_) | skip
 refine FA (wpAny_sequenceKey ht.typeIs (by decide) ?_)
 refine FA (wpAny_callSpecial?_slot (name:=Str.ofString "__getitem__") ht.typeIs Gr
  (GO Gr ht.typeIs entry_tuple_getitem ?_ (args_tuple_getitem _ _)))
 show wpAny _ _ (Builtin.Tuple.tupleItemsOf (.ref t) >>= _) _ _ s
 refine FA (tupleItemsOf_ ht ?_);refine FA (wpAny_typeOf ai ?_);rw[FP (by decide)];refine FA (dB hs pl pu ?_);have aa:(((sIx items.size 0 lo:Nat):Int)==0&&(1:Int)==1&&(sIx items.size items.size hi-sIx items.size 0 lo)==items.size)=true:=by
  rw[hw.1,hw.2];simp
 show wpAny _ _ (if (((sIx items.size 0 lo:Nat):Int)==0&&(1:Int)==1&&(sIx items.size items.size hi-sIx items.size 0 lo)==items.size)=true then _ else _) _ _ s
 rw[FP aa];refine FA (FA (wpAny_typeOf ht.typeIs (FQ ?_)));rw[FP (by decide)];refine FA (wpAny_rule ?_);exact FQ ⟨_,rfl,FQ h⟩
end
end HT
namespace DL
open PySem PySem.Spec PyProof.Rows L2
section
variable {X:Cx} {pos:Pos}
theorem Az:SlR X (λx lo hi H Q=>∃a xs,x=.ref a/\Fh X.K H a xs/\(HT.sIx xs.length 0 lo=0/\HT.sIx xs.length xs.length hi=xs.length)/\Q x H):=by
 intro ah s σ H x v vl vu lo hi sl Q I rx hs pl pu h;obtain⟨a,xs,rfl,hx,hw,q⟩:=h
 cases rx
 obtain⟨ab,r,ht,hz⟩:=I.tuple hx;have aa:ab.toArray.size=xs.length:=by rw[FK];exact r.length.symm
 refine⟨"tuple",_,Gr.lookup,ht.typeIs,HT.getItem_tuple_all ht hs pl pu (by rw[aa];exact hw) ⟨.ref a,H,I,rfl,q⟩⟩
def fSlT:D->Option Int->Option Int->(D->Prop)->Prop
 | .tup xs,lo,hi,R=>R (.tup (cut xs lo hi))
 | _,_,_,_=>False
theorem Cp{xs:Zh}{l u:Option Int}{R:D->Prop}:fSlT (.tup xs) l u R=R (.tup (cut xs l u)):=rfl
def dSlT(te:Fc)(tl th:TDO)(δ:En)(R:W->En->Prop):Prop:=te δ (wd λx δ1=>tl δ1 λl δ2=>th δ2 λu δ3=>fSlT x l u λd=>R (.d d) δ3)
theorem Aj{α:Type}{xs:List α}{l u:Option Int}(h:HT.sIx xs.length 0 l=0/\HT.sIx xs.length xs.length u=xs.length):cut xs l u=xs:=by
 unfold cut;rw[h.1,h.2,List.drop_zero,Nat.sub_zero,FZ]
theorem pN{e:Expr}{te:Fc}{lo hi:Option Expr}{tl th:TDO}{p2 pos:Pos}(he:DE X e te)(hl:DO X lo tl)(hu:DO X hi th):DE X (.Subscript e (.Slice lo hi none p2) pos) (dSlT te tl th) :=
 PE.imp (oK (Az.or xx) he hl hu) λσ H Q ⟨G,δ,P,R,s,h,k,_⟩=>up.mk s h λx δ1 h1 v H1 s1=>⟨G,δ1,(x,v)::P,_,s1,h1,λl δ2 h2 H2 s2=>⟨G,δ2,(x,v)::P,_,s2,h2,λu δ3 h3 H3 s3=>by
  obtain⟨A,q⟩:=id s3;have r:=q.pnd (x,v) (by simp)
  cases x with
  | tup xs =>
   have h3:R (.d (.tup (cut xs l u))) δ3:=h3
   have rr:=r
   simp only[Fo] at r;obtain⟨a,vs,e,sq,r⟩:=r
   by_cases w:HT.sIx xs.length 0 l=0/\HT.sIx xs.length xs.length u=xs.length
   ·rw[Aj w] at h3;rw[Reps.length _ _ r] at w;exact .inl ⟨a,vs,e,sq,w,k _ δ3 h3 v _ s3⟩
   ·refine .inr ⟨a,vs,e,sq,by rw[<- Reps.length _ _ r];exact w,λp hp=>?_⟩;have x2:=(q.same (aE hp (.tup (rc vs l u))));refine k _ δ3 h3 (.ref p) _ ⟨A,(x2.sub (P':=P) λp hp=>Fz _ hp).push ?_⟩;unfold Fo;exact⟨p,_,rfl,Fh.of aD,Reps.kp (Kp.of_same (aE hp _)) _ _ (Reps.cut l u r)⟩
  | _=>exact(show False from h3).elim⟩⟩
end
end DL
namespace DL
open PySem PySem.Spec PyProof.Rows L2
section
variable {X:Cx} {pos:Pos}
end
end DL
namespace DL
open PySem PySem.Spec PyProof.Rows L2
def qu:En->Bool
 | []=>true
 | .own _ _::_=>false
 | .dat _::r=>qu r
 | .no::r=>qu r
theorem qu.at:∀ {δ:En} (i:Nat) (a:Addr) (d:D),qu δ=true->δ[i]?≠some (.own a d)
 | [],i,a,d,_,e=>by simp at e
 | .own _ _::_,i,a,d,h,_=>by cases h
 | .dat _::r,i,a,d,h,e=>by
  cases i with
  | zero=>simp at e
  | succ i=>exact qu.at (δ:=r) i a d h (by simpa using e)
 | .no::r,i,a,d,h,e=>by
  cases i with
  | zero=>simp at e
  | succ i=>exact qu.at (δ:=r) i a d h (by simpa using e)
section
variable {K:PySem.W.Frag} {G:Gf} {A:Addr→Prop} {δ:En} {P:List (D×V)} {σ:L2.St} {H H2:Hp}
end
section
variable {X:Cx}
end
end DL
namespace DL
open PySem PySem.Spec PyProof.Rows L2
section
variable {X:Cx} {a:Expr} {ta:Fc} {apos cpos p1:Pos}
end
end DL
namespace Mf
abbrev V:=Nat->Rat
def Ff:Nat->V->V->Rat
 | 0,_,_=>0
 | m+1,c,w=>Ff m c w+c m*w m
theorem dm(c u v:V)(a b:Rat):∀m,Ff m c (λi=>a*u i+b*v i)=a*Ff m c u+b*Ff m c v
 | 0=>by show (0:Rat)=a*0+b*0;grind
 | m+1=>by show Ff m c _+_=a*(Ff m c u+_)+b*(Ff m c v+_);rw[dm c u v a b m];grind
theorem pC(e c w:V)(a b:Rat):∀m,Ff m (λi=>a*e i+b*c i) w=a*Ff m e w+b*Ff m c w
 | 0=>by show (0:Rat)=a*0+b*0;grind
 | m+1=>by show Ff m _ w+_=a*(Ff m e w+_)+b*(Ff m c w+_);rw[pC e c w a b m];grind
theorem iL{c w w':V}:∀ {m},(∀i,i<m->w i=w' i)->Ff m c w=Ff m c w'
 | 0,_=>rfl
 | m+1,h=>by show Ff m c w+_=Ff m c w'+_;rw[iL λi hi=>h i (by omega),h m (by omega)]
def sz(m:Nat)(w:V):Nat:=((List.range m).filter λi=>decide (w i≠0)).length
theorem eU(m:Nat)(w:V):sz (m+1) w=sz m w+if w m=0 then 0 else 1:=by
 unfold sz;rw[List.range_succ,List.filter_append,FF]
 by_cases h:w m=0<;>simp[h]
theorem vP{w w':V}:∀(m:Nat),(∀i,i<m->w' i≠0->w i≠0)->sz m w'<=sz m w
 | 0,_=>FH _
 | m+1,h=>by
  rw[eU,eU];have:=vP m λi hi=>h i (by omega);have:=h m (by omega)
  grind
theorem Aq{w w':V}{q:Nat}:∀(m:Nat),(∀i,i<m->w' i≠0->w i≠0)->q<m->w q≠0->w' q=0->sz m w'<sz m w
 | 0,_,hq,_,_=>by omega
 | m+1,h,hq,h1,h2=>by
  rw[eU,eU];have h3:=vP m λi hi=>h i (by omega);have h4:=h m (by omega)
  by_cases e:q=m
  ·subst e;grind
  ·have:=Aq m (λi hi=>h i (by omega)) (by omega) h1 h2
   grind
variable {m:Nat} {st:Nat→Bool}
def sat(m:Nat)(st:Nat->Bool)(e w:V):Prop:=0<Ff m e w\/(Ff m e w=0/\∀i,i<m->0<w i->st i=false)
theorem fu{e u v:V}{a b:Rat}(hu:sat m st e u)(hv:sat m st e v)(ha:0<=a)(hb:0<=b):sat m st e (λi=>a*u i+b*v i):=by
 unfold sat;rw[dm];have ai:0<=Ff m e u:=by rcases hu with h | h<;>grind
 have aa:0<=Ff m e v:=by rcases hv with h | h<;>grind
 have h1:=Ga ha ai
 have h2:=Ga hb aa
 by_cases z:0<a*Ff m e u+b*Ff m e v
 ·exact .inl z
 ·refine .inr ⟨by grind,λi hi hw=>?_⟩;have e1:a*Ff m e u=0:=by grind
  have e2:b*Ff m e v=0:=by grind
  have pos:0<a*u i\/0<b*v i:=by grind
  rcases pos with p | p
  ·have ah:0<a:=by
    refine FE λz=>?_;have:a=0:=by grind
    rw[this] at p;grind
   have aj:0<u i:=by
    refine FE λz=>?_;have:=Ga ha (b:=- u i) (by grind)
    grind
   rcases hu with h | h
   ·have:=Gx ah h;grind
   ·exact h.2 i hi aj
  ·have ab:0<b:=by
    refine FE λz=>?_;have:b=0:=by grind
    rw[this] at p;grind
   have al:0<v i:=by
    refine FE λz=>?_;have:=Ga hb (b:=- v i) (by grind)
    grind
   rcases hv with h | h
   ·have:=Gx ab h;grind
   ·exact h.2 i hi al
theorem db{e w w':V}(h:∀i,i<m->w i=w' i)(s:sat m st e w):sat m st e w':=by
 unfold sat at s ⊢;rw[<- iL h];exact s.imp id λ⟨h1,h2⟩=>⟨h1,λi hi hp=>h2 i hi (by rw[h i hi];exact hp)⟩
theorem mM:∀(cs:List V) (J:List Nat),J.Nodup->cs.length<J.length->∃d:V,(∀i,d i≠0->i∈J)/\(∃i,d i≠0)/\∀c∈cs,Ff m c d=0
 | [],J,nd,h=>by
  cases J with
  | nil=>simp at h
  | cons j J=>exact⟨λi=>if i=j then 1 else 0,λi hi=>by by_cases e:i=j<;>simp_all,⟨j,by simp⟩,λc hc=>nomatch hc⟩
 | c::cs,J,nd,h=>by
  cases J with
  | nil=>simp at h
  | cons j J =>
   have h:cs.length+1<J.length+1:=h
   obtain⟨nj,ab⟩:=Gz.mp nd;obtain⟨d1,a1,⟨i,hi⟩,b1⟩:=mM cs J ab (by omega);have ah:=a1 i hi;obtain⟨d2,a2,⟨k,hk⟩,b2⟩:=mM cs ((j::J).erase i) (nd.erase i) (by rw[List.length_erase_of_mem (Fz _ ah)];simpa using by omega);have aa:d2 i=0:=FE λz=>((nd.mem_erase_iff).mp (a2 i z)).1 rfl
   by_cases e:Ff m c d2=0
   ·refine⟨d2,λi hi=>List.mem_of_mem_erase (a2 i hi),⟨k,hk⟩,λc' hc'=>?_⟩
    rcases FJ.mp hc' with rfl | hc'
    ·exact e
    ·exact b2 c' hc'
   ·refine⟨λi=>Ff m c d2*d1 i+(- Ff m c d1)*d2 i,λx hx=>?_,⟨i,?_⟩,λc' hc'=>?_⟩
    ·by_cases z1:d1 x=0
     ·by_cases z2:d2 x=0
      ·refine absurd ?_ hx;show _*d1 x+_*d2 x=0;rw[z1,z2];grind
      ·exact List.mem_of_mem_erase (a2 x z2)
     ·exact Fz _ (a1 x z1)
    ·show _*d1 i+_*d2 i≠0
     rw[aa];intro z;have:Ff m c d2*d1 i=0:=by grind
     rcases GD.mp this with q | q
     ·exact e q
     ·exact hi q
    ·rw[dm]
     rcases FJ.mp hc' with rfl | hc'
     ·grind
     ·rw[b1 c' hc',b2 c' hc'];grind
theorem zw{w d:V}(hw:∀i,0<=w i)(hd:∀i,d i≠0->0<w i):∀(J:List Nat),(∃i∈J,0<d i)->∃t,0<t/\(∀i∈J,0<=w i-t*d i)/\∃q∈J,0<d q/\w q-t*d q=0
 | [],⟨i,hi,_⟩=>nomatch hi
 | j::J,h=>by
  have one:∀i,0<d i->0<w i / d i/\w i-(w i / d i)*d i=0:=λi hi=>by
   have aa:=hd i (by grind)
   exact⟨by rw[Rat.lt_div_iff hi];grind,by grind⟩
  by_cases hJ:∃i∈J,0<d i
  ·obtain⟨t,t0,h1,q,hq,dq,eq⟩:=zw hw hd J hJ
   by_cases hj:0<=w j-t*d j
   ·refine⟨t,t0,λi hi=>?_,q,Fz _ hq,dq,eq⟩
    rcases FJ.mp hi with rfl | hi
    ·exact hj
    ·exact h1 i hi
   ·have dj:0<d j:=by
     refine FE λz=>hj ?_;have:=Ga (a:=t) (b:=- d j) (by grind) (by grind);have:=hw j
     grind
    obtain⟨o1,o2⟩:=one j dj;have lt:w j / d j<t:=by
     refine FE λz=>hj ?_;have:=Ga (a:=w j / d j-t) (b:=d j) (by grind) (by grind)
     grind
    refine⟨w j / d j,o1,λi hi=>?_,j,FD ..,dj,o2⟩
    rcases FJ.mp hi with rfl | hi
    ·grind
    ·by_cases di:0<d i
     ·have:=h1 i hi
      have:=Ga (a:=t-w j / d j) (b:=d i) (by grind) (by grind)
      grind
     ·have:=Ga (a:=w j / d j) (b:=- d i) (by grind) (by grind)
      have:=hw i
      grind
  ·have dj:0<d j:=by
    obtain⟨i,hi,p⟩:=h
    rcases FJ.mp hi with rfl | hi
    ·exact p
    ·exact absurd ⟨i,hi,p⟩ hJ
   obtain⟨o1,o2⟩:=one j dj;refine⟨w j / d j,o1,λi hi=>?_,j,FD ..,dj,o2⟩
   rcases FJ.mp hi with rfl | hi
   ·grind
   ·have di:¬ 0<d i:=λp=>hJ ⟨i,hi,p⟩
    have:=Ga (a:=w j / d j) (b:=- d i) (by grind) (by grind)
    have:=hw i
    grind
structure Nn(m:Nat)(w:V):Prop where
 pos:∀i,0<=w i
 top:∀i,m<=i->w i=0
structure Sub(m:Nat)(cs:List V)(w u:V):Prop where
 nn:Nn m u
 an:∀c∈cs,Ff m c u=0
 su:∀i,u i≠0->w i≠0
 lt:sz m u<sz m w
theorem Cq{cs:List V}{w d:V}{p:Nat}(hw:Nn m w)(ha:∀c∈cs,Ff m c w=0)(hd:∀i,d i≠0->w i≠0)(da:∀c∈cs,Ff m c d=0)(hp:w p≠0)(dp:d p=0)(h:∃i,0<d i) :
  ∃u v a b,0<=a/\0<=b/\(∀i,w i=a*u i+b*v i)/\Sub m cs w u/\Sub m cs w v:=by
 have lt:∀ {i},w i≠0->i<m:=λ{i} h=>FE λz=>h (hw.top i (by omega))
 have pos:∀ {i},w i≠0->0<w i:=λ{i} h=>by have:=hw.pos i;grind
 have mk:∀ {x:V} {a b:Rat},0<=a->(∀i,x i=a*w i+b*d i)->(∀i,i<m->0<=x i)->(∃q,w q≠0/\x q=0)->Sub m cs w x:=λ{x a b} ha0 hx h0 ⟨q,hq,xq⟩=>by
  have su:∀i,x i≠0->w i≠0:=λi hi z=>hi (by
   have:d i=0:=FE λy=>hd i y z
   rw[hx i,z,this];grind)
  refine⟨⟨λi=>?_,λi hi=>FE λz=>su i z (hw.top i hi)⟩,λc hc=>?_,su,Aq m (λi _=>su i) (lt hq) hq xq⟩
  ·by_cases hi:i<m
   ·exact h0 i hi
   ·have:x i=0:=FE λz=>su i z (hw.top i (by omega))
    rw[this];exact Rat.le_refl
  ·have:x=λi=>a*w i+b*d i:=funext hx
   rw[this,dm,ha c hc,da c hc];grind
 have hr:∀ {i},d i≠0->i∈List.range m:=λ{i} h=>GL.mpr (lt (hd i h))
 obtain⟨i,hi⟩:=h;obtain⟨t,t0,h1,q,hq,dq,eq⟩:=zw hw.pos (λi h=>pos (hd i h)) (List.range m) ⟨i,hr (by grind),hi⟩;have s1:Sub m cs w (λi=>w i-t*d i):=mk (a:=1) (b:=-t) (by grind) (λi=>by grind) (λi hi=>h1 i (GL.mpr hi)) ⟨q,hd q (by grind),eq⟩
 by_cases hn:∃i,0 < - d i
 ·obtain⟨k,hk⟩:=hn;obtain⟨t',ai,aa,q',ah,aj,ab⟩:=zw (d:=λi=>- d i) hw.pos (λi h=>pos (hd i (by grind))) (List.range m) ⟨k,hr (by grind),hk⟩;have s2:Sub m cs w (λi=>w i-t' * - d i):=mk (a:=1) (b:=t') (by grind) (λi=>by grind) (λi hi=>aa i (GL.mpr hi)) ⟨q',hd q' (by grind),ab⟩;have tt:t+t'≠0:=by grind
  have e1:0<t' / (t+t'):=by rw[Rat.lt_div_iff (by grind)];grind
  have e2:0<t / (t+t'):=by rw[Rat.lt_div_iff (by grind)];grind
  refine⟨_,_,t' / (t+t'),t / (t+t'),by grind,by grind,λi=>?_,s1,s2⟩;have e3:t' / (t+t')+t / (t+t')=1:=by grind
  have e4:t' / (t+t')*t=t / (t+t')*t':=by grind
  grind
 ·have s2:Sub m cs w d:=mk (a:=0) (b:=1) (by grind) (λi=>by grind) (λi hi=>FE λz=>hn ⟨i,by grind⟩) ⟨p,hp,dp⟩
  exact⟨_,_,1,t,by grind,by grind,λi=>by grind,s1,s2⟩
theorem split{cs:List V}{w:V}(hw:Nn m w)(ha:∀c∈cs,Ff m c w=0)(hz:cs.length+1<sz m w) :
  ∃u v a b,0<=a/\0<=b/\(∀i,w i=a*u i+b*v i)/\Sub m cs w u/\Sub m cs w v:=by
 have mem:∀ {i},i∈(List.range m).filter (λi=>decide (w i≠0))↔i<m/\w i≠0:=by simp
 have nd:((List.range m).filter (λi=>decide (w i≠0))).Nodup:=List.nodup_range.filter _
 unfold sz at hz;generalize hJ:(List.range m).filter (λi=>decide (w i≠0))=J at mem nd hz
 cases J with
 | nil=>simp at hz
 | cons p J =>
  obtain⟨np,aa⟩:=Gz.mp nd;obtain⟨d,h1,⟨i,hi⟩,h3⟩:=mM (m:=m) cs J aa (by simpa using hz);have hd:∀i,d i≠0->w i≠0:=λi h=>(mem.mp (Fz _ (h1 i h))).2;have dp:d p=0:=FE λz=>np (h1 p z);have hp:=(mem.mp (FD ..:p∈p::J)).2
  by_cases s:0<d i
  ·exact Cq hw ha hd h3 hp dp ⟨i,s⟩
  ·have e:(λi=>- d i)=λi=>(-1)*d i+0*d i:=by funext i;grind
   exact Cq (d:=λi=>- d i) hw ha (λi h=>hd i (by grind)) (λc hc=>by rw[e,dm,h3 c hc];grind) hp (by rw[dp];grind) ⟨i,by grind⟩
def sD(v:Rat)(x:Rat×Rat×Bool):Prop:=0<x.1+v*x.2.1\/(x.1+v*x.2.1=0/\x.2.2=false)
theorem maxL:∀(l:List (Rat×Bool)),l≠[]->∃x∈l,∀y∈l,y.1<x.1\/(y.1=x.1/\(y.2=true->x.2=true))
 | [],h=>absurd rfl h
 | z::l,_=>by
  by_cases hl:l=[]
  ·subst hl;exact⟨z,FD ..,λy hy=>by rcases FJ.mp hy with rfl | h;exact .inr ⟨rfl,id⟩;cases h⟩
  ·obtain⟨x,hx,h⟩:=maxL l hl
   by_cases c:z.1<x.1\/(z.1=x.1/\(z.2=true->x.2=true))
   ·refine⟨x,Fz _ hx,λy hy=>?_⟩
    rcases FJ.mp hy with rfl | hy
    ·exact c
    ·exact h y hy
   ·refine⟨z,FD ..,λy hy=>?_⟩
    rcases FJ.mp hy with rfl | hy
    ·exact .inr ⟨rfl,id⟩
    ·have:=h y hy
     cases hz2:z.2<;>cases hx2:x.2<;>grind
theorem C3(L:List (Rat×Rat×Bool))(hz:∀x∈L,x.2.1=0->sD 0 x)
  (hp:∀l∈L,∀h∈L,0<l.2.1->h.2.1<0->0<l.1*(- h.2.1)+h.1*l.2.1\/(l.1*(- h.2.1)+h.1*l.2.1=0/\l.2.2=false/\h.2.2=false)):∃v,∀x∈L,sD v x:=by
 have ah:(∀x∈L,¬ 0<x.2.1)\/∃l∈L,0<l.2.1/\∀x∈L,0<x.2.1->-x.1 / x.2.1 < -l.1 / l.2.1\/(-x.1 / x.2.1=-l.1 / l.2.1/\(x.2.2=true->l.2.2=true)):=by
  by_cases h:(L.filter λx=>decide (0<x.2.1)).map (λx=>(-x.1 / x.2.1,x.2.2))=[]
  ·refine .inl λx hx hp=>?_;rw[List.map_eq_nil_iff,List.filter_eq_nil_iff] at h;exact h x hx (by simpa using hp)
  ·obtain⟨y,hy,h⟩:=maxL _ h;obtain⟨l,hl,rfl⟩:=FC.mp hy;obtain⟨hl,aa⟩:=FI.mp hl;exact .inr ⟨l,hl,by simpa using aa,λx hx hp=>h _ (FC.mpr ⟨x,FI.mpr ⟨hx,by simpa using hp⟩,rfl⟩)⟩
 have ab:(∀x∈L,¬ x.2.1<0)\/∃l∈L,l.2.1<0/\∀x∈L,x.2.1<0->x.1 / x.2.1<l.1 / l.2.1\/(x.1 / x.2.1=l.1 / l.2.1/\(x.2.2=true->l.2.2=true)):=by
  by_cases h:(L.filter λx=>decide (x.2.1<0)).map (λx=>(x.1 / x.2.1,x.2.2))=[]
  ·refine .inl λx hx hp=>?_;rw[List.map_eq_nil_iff,List.filter_eq_nil_iff] at h;exact h x hx (by simpa using hp)
  ·obtain⟨y,hy,h⟩:=maxL _ h;obtain⟨l,hl,rfl⟩:=FC.mp hy;obtain⟨hl,aa⟩:=FI.mp hl;exact .inr ⟨l,hl,by simpa using aa,λx hx hp=>h _ (FC.mpr ⟨x,FI.mpr ⟨hx,by simpa using hp⟩,rfl⟩)⟩
 have lo:∀(x:Rat×Rat×Bool) (v:Rat),0<x.2.1->(-x.1 / x.2.1<v\/(-x.1 / x.2.1=v/\x.2.2=false))->sD v x:=λx v hc h=>by
  have e:x.1=-((-x.1 / x.2.1)*x.2.1):=by grind
  rcases h with h | h
  ·have:=Gx (a:=v-(-x.1 / x.2.1)) (b:=x.2.1) (by grind) hc
   exact .inl (by grind)
  ·exact .inr ⟨by grind,h.2⟩
 have hi:∀(x:Rat×Rat×Bool) (v:Rat),x.2.1<0->(x.1 / x.2.1 < -v\/(x.1 / x.2.1=-v/\x.2.2=false))->sD v x:=λx v hc h=>by
  have e:x.1=(x.1 / x.2.1)*x.2.1:=by grind
  rcases h with h | h
  ·have:=Gx (a:=-v-(x.1 / x.2.1)) (b:=-x.2.1) (by grind) (by grind)
   exact .inl (by grind)
  ·exact .inr ⟨by grind,h.2⟩
 have ze:∀(x:Rat×Rat×Bool) (v:Rat),x∈L->x.2.1=0->sD v x:=λx v hx h=>by
  have:=hz x hx h
  unfold sD at this ⊢;rw[h] at this ⊢
  grind
 have done:∀v,(∀x∈L,0<x.2.1->sD v x)->(∀x∈L,x.2.1<0->sD v x)->∃v,∀x∈L,sD v x:=λv h1 h2=>⟨v,λx hx=>by
  rcases(by grind:x.2.1<0\/x.2.1=0\/0<x.2.1) with c | c | c
  ·exact h2 x hx c
  ·exact ze x v hx c
  ·exact h1 x hx c⟩
 rcases ah with nl | ⟨l,hl,cl,tl⟩
 ·rcases ab with nh | ⟨k,hk,ck,tk⟩
  ·exact done 0 (λx hx h=>absurd h (nl x hx)) λx hx h=>absurd h (nh x hx)
  ·exact done (-(k.1 / k.2.1)-1) (λx hx h=>absurd h (nl x hx)) λx hx h=>hi x _ h (.inl (by have:=tk x hx h;grind))
 ·rcases ab with nh | ⟨k,hk,ck,tk⟩
  ·exact done (-l.1 / l.2.1+1) (λx hx h=>lo x _ h (.inl (by have:=tl x hx h;grind))) λx hx h=>absurd h (nh x hx)
  ·have pr:=hp l hl k hk cl ck
   have e1:l.1=-((-l.1 / l.2.1)*l.2.1):=by grind
   have e2:k.1=(k.1 / k.2.1)*k.2.1:=by grind
   generalize hA:-l.1 / l.2.1=A at *
   generalize hB:k.1 / k.2.1=B at *
   have ai:A < -B\/(A=-B/\l.2.2=false/\k.2.2=false):=by
    have e3:l.1*(-k.2.1)+k.1*l.2.1=(-B-A)*(l.2.1*(-k.2.1)):=by grind
    have pp:=Gx (a:=l.2.1) (b:=-k.2.1) cl (by grind)
    rw[e3] at pr
    rcases pr with p | p
    ·refine .inl (FE λz=>?_);have:=Ga (a:=A+B) (b:=l.2.1 * -k.2.1) (by grind) (by grind)
     grind
    ·rcases GD.mp p.1 with q | q
     ·exact .inr ⟨by grind,p.2⟩
     ·grind
   refine done ((A-B) / 2) (λx hx h=>lo x _ h ?_) λx hx h=>hi x _ h ?_
   ·have:=tl x hx h
    cases hx2:x.2.2<;>cases aa:l.2.2<;>grind
   ·have:=tk x hx h
    cases hx2:x.2.2<;>cases hk2:k.2.2<;>grind
def Comp(m:Nat)(st:Nat->Bool)(cs:List V)(S:List V):Prop:=∀(I:Nat->Prop) (e:V),(∀s∈S,(∀i,s i≠0->I i)->sat m st e s)->∀w,Nn m w->(∀c∈cs,Ff m c w=0)->(∀i,w i≠0->I i)->sat m st e w
def AK(j:Nat):V:=λi=>if i=j then 1 else 0
theorem pe{e w:V}(h:∀i,i<m->w i=0):sat m st e w:=by
 have:Ff m e w=0:=by
  rw[iL (w':=λi=>0*w i+0*w i) λi hi=>by rw[h i hi];grind,dm];grind
 exact .inr ⟨this,λi hi hp=>by rw[h i hi] at hp;grind⟩
theorem ud(S:List V)(h:∀j,j<m->AK j∈S):Comp m st [] S:=by
 intro I e hs w hw _ hI;have go:∀k,k<=m->sat m st e (λi=>if i<k then w i else 0):=λk=>by
  induction k with
  | zero=>intro _;exact pe λi _=>by simp
  | succ k ih =>
   intro hk;have h1:=ih (by omega)
   by_cases z:w k=0
   ·refine db (λi hi=>?_) h1
    by_cases e1:i<k
    ·simp[e1,Nat.lt_succ_of_lt e1]
    ·by_cases e2:i=k
     ·subst e2;simp[z]
     ·simp[e1,show ¬ i<k+1 by omega]
   ·have h2:=hs (AK k) (h k (by omega)) λi hi=>by
     have:i=k:=FE λy=>hi (by simp[AK,y])
     subst this;exact hI i z
    refine db (λi hi=>?_) (fu h1 h2 (a:=1) (b:=w k) (by grind) (hw.pos k));unfold AK
    by_cases e1:i<k
    ·simp[e1,Nat.lt_succ_of_lt e1,show i≠k by omega];grind
    ·by_cases e2:i=k
     ·subst e2;simp;grind
     ·simp[e1,e2,show ¬ i<k+1 by omega];grind
 exact db (λi hi=>by simp[hi]) (go m (FH m))
structure Kept(m:Nat)(c:V)(most:Nat)(S S':List V):Prop where
 nn:∀s∈S,Nn m s
 zero:∀s∈S,Ff m c s=0->s∈S'
 cross:∀l∈S,∀h∈S,0<Ff m c l->Ff m c h<0->sz m (λi=>(- Ff m c h)*l i+Ff m c l*h i)<=most->∃u∈S',∃g,0<g/\∀i,g*u i=(- Ff m c h)*l i+Ff m c l*h i
theorem rV(e c w:V)(v:Rat):sat m st (λi=>1*e i+v*c i) w↔(0<Ff m e w+v*Ff m c w\/(Ff m e w+v*Ff m c w=0/\∀i,i<m->0<w i->st i=false)):=by
 unfold sat;rw[pC];have:1*Ff m e w+v*Ff m c w=Ff m e w+v*Ff m c w:=by grind
 rw[this]
open Classical in
theorem tL{cs S S':List V}{c:V}(k:Comp m st cs S)(h:Kept m c (cs.length+2) S S'):Comp m st (c::cs) S':=by
 intro I e hs w hw ha hI;have main:∀n w,sz m w<=n->Nn m w->(∀c'∈c::cs,Ff m c' w=0)->(∀i,w i≠0->I i)->sat m st e w:=λn=>by
  induction n with
  | zero =>
   intro w hz hw _ _;refine pe λi hi=>byContradiction λz=>?_;have:=Aq (w:=w) (w':=λ_=>0) m (λi _ h=>absurd rfl h) hi z rfl;omega
  | succ n ih =>
   intro w hz hw ha hI
   by_cases big:(c::cs).length+1<sz m w
   ·obtain⟨u,v,a,b,a0,b0,as,su,sv⟩:=split hw ha big;have h1:=ih u (by have:=su.lt;omega) su.nn su.an λi hi=>hI i (su.su i hi);have h2:=ih v (by have:=sv.lt;omega) sv.nn sv.an λi hi=>hI i (sv.su i hi);exact db (λi _=>(as i).symm) (fu h1 h2 a0 b0)
   ·have big:sz m w<=cs.length+2:=by simp at big;omega
    have pr:∀l∈S,∀k∈S,(∀i,l i≠0->w i≠0)->(∀i,k i≠0->w i≠0)->0<Ff m c l->Ff m c k<0->sat m st e (λi=>(- Ff m c k)*l i+Ff m c l*k i):=λl hl k hk sl sk cl ck=>by
     have su:∀i,(- Ff m c k)*l i+Ff m c l*k i≠0->w i≠0:=λi hi=>by
      by_cases z:l i=0
      ·by_cases y:k i=0
       ·refine absurd ?_ hi;rw[z,y];grind
       ·exact sk i y
      ·exact sl i z
     obtain⟨u,hu,g,g0,eu⟩:=h.cross l hl k hk cl ck (FB (vP m λi _=>su i) big);have aj:=hs u hu λi hi=>hI i (su i (by rw[<- eu i];intro z;rcases GD.mp z with q | q;grind;exact hi q));exact db (λi _=>by rw[<- eu i];grind) (fu aj aj (a:=g) (b:=0) (by grind) (by grind))
    have od:=C3 ((S.filter λs=>decide (∀i,s i≠0->w i≠0)).map λs=>(Ff m e s,Ff m c s,!decide (∀i,i<m->0<s i->st i=false)))
    have az:=od λx hx h0=>by
     obtain⟨s,aa,rfl⟩:=FC.mp hx;obtain⟨aa,ai⟩:=FI.mp aa;have:=hs s (h.zero s aa h0) λi hi=>hI i ((by simpa using ai:∀i,¬ s i=0->¬ w i=0) i hi);unfold sat at this;unfold sD;have e0:Ff m e s+0*Ff m c s=Ff m e s:=by grind
     simp only[e0];simpa using this
    have al:=az λl hl k hk cl ck=>by
     obtain⟨l,ah,rfl⟩:=FC.mp hl;obtain⟨k',ab,rfl⟩:=FC.mp hk;obtain⟨ah,ao⟩:=FI.mp ah;obtain⟨ab,a1⟩:=FI.mp ab;have:=pr l ah k' ab (by simpa using ao) (by simpa using a1) cl ck;unfold sat at this;rw[dm] at this;have e0:(- Ff m c k')*Ff m e l+Ff m c l*Ff m e k'=Ff m e l*(- Ff m c k')+Ff m e k'*Ff m c l:=by grind
     rw[e0] at this;refine this.imp id λ⟨h1,h2⟩=>⟨h1,?_,?_⟩
     ·simp only[Bool.not_eq_false',decide_eq_true_eq];intro i hi hp;refine h2 i hi ?_;have p1:=Gx (a:=- Ff m c k') (b:=l i) (by grind) hp;have p2:=Ga (a:=Ff m c l) (b:=k' i) (by grind) ((h.nn k' ab).pos i)
      grind
     ·simp only[Bool.not_eq_false',decide_eq_true_eq];intro i hi hp;refine h2 i hi ?_;have p1:=Gx (a:=Ff m c l) (b:=k' i) cl hp;have p2:=Ga (a:=- Ff m c k') (b:=l i) (by grind) ((h.nn l ah).pos i)
      grind
    obtain⟨v,hv⟩:=al;have all:∀s∈S,(∀i,s i≠0->w i≠0)->sat m st (λi=>1*e i+v*c i) s:=λs aa ai=>by
     have:=hv _ (FC.mpr ⟨s,FI.mpr ⟨aa,by simpa using ai⟩,rfl⟩)
     rw[rV];unfold sD at this;simpa using this
    have:=k (λi=>w i≠0) _ all w hw (λc' hc'=>ha c' (Fz _ hc')) λi hi=>hi
    rw[rV,ha c (FD ..)] at this;unfold sat;have e0:Ff m e w+v*0=Ff m e w:=by grind
    rw[e0] at this;exact this
 exact main _ w (FH _) hw ha hI
end Mf
namespace Mf
open PySem L2 DL
variable {x:Str→Rat} {n:Str} {F:Str→Int} {nm:Zb} {rows:List Rw} {w:Ze}
def c5(x:Str->Rat):List (Str×Int)->Rat
 | []=>0
 | t::r=>(t.2:Rat)*x t.1+c5 x r
def Fi(x:Str->Rat)(r:Rw):Prop:=match r.1 with
 | .least=>(r.2.2:Rat)<=c5 x r.2.1
 | .more=>(r.2.2:Rat)<c5 x r.2.1
def kZ(x:Str->Rat)(n:Str)(v:Rat):Str->Rat:=λk=>if k=n then v else x k
theorem oN{v:Rat}(h:x n=0):∀ts,c5 (kZ x n v) ts=c5 x ts+v*(cf ts n:Int)
 | []=>by show (0:Rat)=0+v*((0:Int):Rat);rw[show ((0:Int):Rat)=0 from rfl];grind
 | t::r=>by
  show (t.2:Rat)*kZ x n v t.1+c5 (kZ x n v) r=(t.2:Rat)*x t.1+c5 x r+v*(((if t.1=n then t.2 else 0)+cf r n:Int):Rat)
  rw[oN h r,GM];unfold kZ
  by_cases e:t.1=n
  ·rw[FP e,FP e,e,h];grind
  ·rw[FN e,FN e,show ((0:Int):Rat)=0 from rfl];grind
theorem jK{y:Str->Rat}:∀ {ts:List (Str×Int)},(∀t∈ts,x t.1=y t.1)->c5 x ts=c5 y ts
 | [],_=>rfl
 | t::r,h=>by show _*x t.1+_=_*y t.1+_;rw[h t (FD ..),jK λu hu=>h u (Fz _ hu)]
def nJ(x:Str->Rat)(F:Str->Int):Zb->Rat
 | []=>0
 | n::r=>(F n:Rat)*x n+nJ x F r
theorem kb{G:Str->Int}:∀nm:Zb,nJ x (λn=>F n+G n) nm=nJ x F nm+nJ x G nm
 | []=>by show (0:Rat)=0+0;grind
 | n::r=>by show ((F n+G n:Int):Rat)*x n+_=(F n:Rat)*x n+_+((G n:Rat)*x n+_);rw[kb r,GM];grind
theorem oz{a:Int}:∀nm:Zb,nJ x (λn=>a*F n) nm=a*nJ x F nm
 | []=>by show (0:Rat)=a*0;grind
 | n::r=>by show ((a*F n:Int):Rat)*x n+_=a*((F n:Rat)*x n+_);rw[oz r,FW];grind
theorem fK:∀ {nm:Zb},(∀n∈nm,F n=0)->nJ x F nm=0
 | [],_=>rfl
 | n::r,h=>by show (F n:Rat)*x n+_=0;rw[fK λk hk=>h k (Fz _ hk),h n (FD ..),show ((0:Int):Rat)=0 from rfl];grind
theorem oB{k:Str}{a:Int}:∀ {nm:Zb},nm.Nodup->k∈nm->nJ x (λn=>if k=n then a else 0) nm=a*x k
 | n::r,nd,h=>by
  obtain⟨h1,h2⟩:=Gz.mp nd;show ((if k=n then a else 0:Int):Rat)*x n+nJ x _ r=_
  by_cases e:k=n
  ·subst e;rw[FP rfl,fK (F:=λn=>if k=n then a else 0) λm hm=>FN λ(z:k=m)=>h1 (z ▸ hm)];grind
  ·rw[FN e,oB h2 ((FJ.mp h).resolve_left e),show ((0:Int):Rat)=0 from rfl];grind
theorem oE(nd:nm.Nodup):∀ {ts:List (Str×Int)},(∀t∈ts,t.1∈nm)->c5 x ts=nJ x (cf ts) nm
 | [],_=>(fK λ_ _=>rfl).symm
 | t::r,h=>by
  show _+c5 x r=nJ x (λn=>(if t.1=n then t.2 else 0)+cf r n) nm
  rw[kb,oB nd (h t (FD ..)),oE nd λu hu=>h u (Fz _ hu)]
theorem lE:∀ {ts:List (Str×Int)} {t:Str×Int},(ts.map (·.1)).Nodup->t∈ts->cf ts t.1=t.2
 | u::r,t,nd,h=>by
  obtain⟨h1,h2⟩:=Gz.mp nd;show (if u.1=t.1 then u.2 else 0)+cf r t.1=t.2
  rcases FJ.mp h with rfl | h
  ·rw[FP rfl,gN h1,Hx]
  ·rw[FN λe=>h1 (FC.mpr ⟨t,h,e.symm⟩),lE h2 h,Hf]
theorem eQ.cf{us:List (Str×Int)}(h:eQ F us)(n:Str):cf us n=F n:=by
 by_cases e:n∈us.map (·.1)
 ·obtain⟨t,ht,rfl⟩:=FC.mp e;rw[lE h.nd ht,(h.val t ht).1]
 ·rw[gN e];exact(FE λz=>e (h.all n λy=>z y.symm))
def evl(x:Str->Rat):List (Rw×Int)->Rat
 | []=>0
 | p::r=>(p.2:Rat)*(c5 x p.1.2.1-(p.1.2.2:Int))+evl x r
theorem rk(nd:nm.Nodup):∀ {l:List (Rw×Int)},(∀p∈l,∀t∈p.1.2.1,t.1∈nm)->evl x l=nJ x (cfs l) nm-(bds l:Int)
 | [],_=>by
  show (0:Rat)=_-((0:Int):Rat)
  rw[fK (F:=cfs []) λ_ _=>rfl,show ((0:Int):Rat)=0 from rfl];grind
 | p::r,h=>by
  show (p.2:Rat)*_+evl x r=nJ x (λn=>p.2*cf p.1.2.1 n+cfs r n) nm-((p.2*p.1.2.2+bds r:Int):Rat)
  rw[kb,oz,rk nd λq hq=>h q (Fz _ hq),oE nd (h p (FD ..)),GM,FW]
  grind
def smT(nm:Zb)(F:Str->Int):List (Str×Int):=(nm.filter λn=>decide (F n≠0)).map λn=>(n,F n)
def ET(nm:Zb)(rows:List Rw)(w:Ze):Rw:=(kOf (Fe (rows.zip w)),smT nm (cfs (rows.zip w)),bds (rows.zip w))
structure Ft(nm:Zb)(rows:List Rw):Prop where
 pw:nm.Pairwise E3
 nd:nm.Nodup
 sum:∀r∈rows,eQ (cf r.2.1) r.2.1
 sub:∀r∈rows,∀t∈r.2.1,t.1∈nm
theorem Ft.cfs(h:Ft nm rows)(e:cfs (rows.zip w) n≠0):n∈nm :=
 tE (λp hp=>h.sub p.1 (Gk hp).1) e
theorem Ft.smT(h:Ft nm rows)(w:Ze):eQ (Mf.cfs (rows.zip w)) (Mf.smT nm (Mf.cfs (rows.zip w))):=eQ.mk' h.pw h.nd λ_ e=>h.cfs e
theorem jI(h:Ft nm rows):Fi x (ET nm rows w)↔(0<evl x (rows.zip w)\/(evl x (rows.zip w)=0/\Fe (rows.zip w)=false)):=by
 have e:=rk (x:=x) h.nd (l:=rows.zip w) λp hp=>h.sub p.1 (Gk hp).1
 have e2:c5 x (Mf.smT nm (Mf.cfs (rows.zip w)))=nJ x (Mf.cfs (rows.zip w)) nm:=by
  rw[oE h.nd λt ht=>?_]
  ·congr 1;exact funext λn=>(h.smT w).cf n
  ·obtain⟨n,hn,rfl⟩:=FC.mp ht;exact(FI.mp hn).1
 rw[e];unfold Fi ET
 cases Fe (rows.zip w)
 ·show ((bds _:Int):Rat)<=c5 x _↔_
  rw[e2];grind
 ·show ((bds _:Int):Rat)<c5 x _↔_
  rw[e2];grind
def E1(w:Ze):V:=λi=>((w.getD i 0:Int):Rat)
def eV(x:Str->Rat)(rows:List Rw):V:=λi=>match rows[i]? with | some r=>c5 x r.2.1-(r.2.2:Int) | none=>0
def colV(rows:List Rw)(n:Str):V:=λi=>match rows[i]? with | some r=>((cf r.2.1 n:Int):Rat) | none=>0
def stV(rows:List Rw):Nat->Bool:=λi=>match rows[i]? with | some r=>isM r.1 | none=>false
theorem gZ(c w:V):∀m,Ff (m+1) c w=c 0*w 0+Ff m (λi=>c (i+1)) (λi=>w (i+1))
 | 0=>by show (0:Rat)+c 0*w 0=c 0*w 0+0;grind
 | m+1=>by show Ff (m+1) c w+c (m+1)*w (m+1)=_+(Ff m _ _+c (m+1)*w (m+1));rw[gZ c w m];grind
theorem ke:∀ {rows:List Rw} {w:Ze},w.length=rows.length->evl x (rows.zip w)=Ff rows.length (eV x rows) (E1 w)
 | [],[],_=>rfl
 | r::rows,a::w,h=>by
  rw[FL,gZ];show (a:Rat)*(c5 x r.2.1-_)+evl x (rows.zip w)=(c5 x r.2.1-_)*(a:Rat)+Ff rows.length (eV x rows) (E1 w);rw[ke (by simpa using h)];grind
theorem kM:∀ {rows:List Rw} {w:Ze},w.length=rows.length->((cfs (rows.zip w) n:Int):Rat)=Ff rows.length (colV rows n) (E1 w)
 | [],[],_=>rfl
 | r::rows,a::w,h=>by
  rw[FL,gZ];show ((a*cf r.2.1 n+cfs (rows.zip w) n:Int):Rat)=((cf r.2.1 n:Int):Rat)*(a:Rat)+Ff rows.length (colV rows n) (E1 w);rw[GM,FW,kM (by simpa using h)];grind
theorem uH{i:Nat}:0<E1 w i↔0<w.getD i 0:=Rat.intCast_pos
theorem ou:∀ {rows:List Rw} {w:Ze},w.length=rows.length->(Fe (rows.zip w)=false↔∀i,i<rows.length->0<E1 w i->stV rows i=false)
 | [],[],_=>⟨λ_ i hi=>absurd hi (Nat.not_lt_zero i),λ_=>rfl⟩
 | r::rows,a::w,h=>by
  have ih:=ou (rows:=rows) (w:=w) (by simpa using h)
  have e:Fe ((r::rows).zip (a::w))=((isM r.1&&decide (0<a))||Fe (rows.zip w)):=rfl
  rw[e,Bool.or_eq_false_iff,ih]
  constructor
  ·rintro⟨h1,h2⟩ i hi hp
   cases i with
   | zero =>
    have:0<a:=uH.mp hp
    rw[F6 this,Bool.and_true] at h1;exact h1
   | succ i=>exact h2 i (by simpa using hi) hp
  ·intro hh;refine⟨?_,λi hi hp=>hh (i+1) (by simpa using hi) hp⟩
   by_cases ha:0<a
   ·have:isM r.1=false:=hh 0 (HX _) (uH.mpr ha)
    rw[this,Bool.false_and]
   ·rw[F5 ha,Bool.and_false]
theorem oC(h:Ft nm rows)(hl:w.length=rows.length):Fi x (ET nm rows w)↔sat rows.length (stV rows) (eV x rows) (E1 w):=by
 rw[jI h,ke hl,ou hl];rfl
theorem oF(w:V):∀m,sz (m+1) w=(if w 0=0 then 0 else 1)+sz m λi=>w (i+1)
 | 0=>by rw[eU];show sz 0 w+_=_+sz 0 _;unfold sz;simp
 | m+1=>by rw[eU,oF w m,eU m];omega
def usd(w:Ze):Nat:=(w.filter λa=>decide (0<a)).length
theorem xp:∀ {w:Ze},(∀a∈w,0<=a)->sz w.length (E1 w)=usd w
 | [],_=>rfl
 | a::w,h=>by
  rw[FL,oF];show (if ((a:Int):Rat)=0 then 0 else 1)+sz w.length (E1 w)=usd (a::w);rw[xp λb hb=>h b (Fz _ hb)];have h0:=h a (FD ..);unfold usd
  by_cases e:0<a
  ·rw[Gc (by simpa using e),FN (λz=>by have:a=0:=HK.mp z;omega),FL];omega
  ·have:a=0:=by omega
   rw[F0 (by simpa using e),FP (by rw[this];rfl)];omega
theorem sF{m:Nat}(hl:w.length=m)(h:∀a∈w,0<=a):Nn m (E1 w):=by
 refine⟨λi=>?_,λi hi=>?_⟩
 ·show (0:Rat)<=((w.getD i 0:Int):Rat)
  refine Rat.intCast_nonneg.mpr ?_;rw[List.getD_eq_getElem?_getD]
  cases e:w[i]? with
  | none=>exact Int.le_refl 0
  | some a=>exact h a (FM e)
 ·show ((w.getD i 0:Int):Rat)=0
  rw[List.getD_eq_getElem?_getD,List.getElem?_eq_none (by omega)];rfl
end Mf
namespace Mf
open PySem L2 DL
variable {ws:Ze} {n:Str} {a b:Int} {rows:List Rw} {m:Nat}
def gW(ws:Ze):Int:=ws.foldl gc 0
theorem DQ(a b:Int):0<=gc a b/\gc a b ∣ a/\gc a b ∣ b/\(a≠0\/b≠0->gc a b≠0):=by
 refine⟨sI a b,eS a b,d7 a b,λh z=>?_⟩;unfold gc at z;have:=Int.gcd_eq_zero_iff.mp (by omega:Int.gcd a b=0)
 rcases h with h | h
 ·exact h this.1
 ·exact h this.2
theorem mL:∀(ws:Ze) (a:Int),ws.foldl gc a ∣ a/\(∀w∈ws,ws.foldl gc a ∣ w)/\((a≠0\/∃w∈ws,w≠0)->ws.foldl gc a≠0)/\(0<=a->0<=ws.foldl gc a)
 | [],a=>⟨Int.dvd_refl a,λ_ h=>(nomatch h),λh=>h.elim id λ⟨_,h,_⟩=>(nomatch h),id⟩
 | w::ws,a=>by
  obtain⟨h1,h2,h3,h4⟩:=mL ws (gc a w);obtain⟨g0,g1,g2,g3⟩:=DQ a w;refine⟨Int.dvd_trans h1 g1,λv hv=>?_,λh=>h3 ?_,λ_=>h4 g0⟩
  ·rcases FJ.mp hv with rfl | hv
   ·exact Int.dvd_trans h1 g2
   ·exact h2 v hv
  ·rcases h with h | ⟨v,hv,hn⟩
   ·exact .inl (g3 (.inl h))
   ·rcases FJ.mp hv with rfl | hv
    ·exact .inl (g3 (.inr hn))
    ·exact .inr ⟨v,hv,hn⟩
theorem mx(h:∃w∈ws,w≠0):0<gW ws:=by
 obtain⟨_,_,h3,h4⟩:=mL ws 0;have:=h3 (.inr h);have:=h4 (Int.le_refl 0);unfold gW;omega
theorem lR{w:Int}(h:w∈ws):gW ws ∣ w:=(mL ws 0).2.1 w h
def crS(rows:List Rw)(n:Str)(l h:Ze):Ze:=List.zipWith (λa b=>a * -(cfs (rows.zip h) n)+b*cfs (rows.zip l) n) l h
def shW(ws:Ze):Ze:=ws.map λa=>a.fdiv (gW ws)
def crW(rows:List Rw)(n:Str)(l h:Ze):Ze:=shW (crS rows n l h)
def woW(rows:List Rw)(n:Str)(most:Nat)(W:List (List Int)):List (List Int) :=
 (W.filter λw=>decide (cfs (rows.zip w) n=0))++(W.filter λw=>decide (0<cfs (rows.zip w) n)).flatMap λl =>
  ((W.filter λw=>decide (cfs (rows.zip w) n<0)).map (crW rows n l)).filter λu=>decide (usd u<=most)
def unW(m j:Nat):Ze:=(List.range m).map λi=>if i=j then 1 else 0
def uW(m:Nat):List (List Int):=(List.range m).map (unW m)
def E5(rows:List Rw):Zb->List (List Int)
 | []=>uW rows.length
 | n::ns=>woW rows n (ns.length+2) (E5 rows ns)
structure Wt(m:Nat)(w:Ze):Prop where
 len:w.length=m
 nn:∀a∈w,0<=a
 nz:∃a∈w,a≠0
theorem mN{f:Int->Int->Int}(hf:f 0 0=0):∀ {l h:Ze},l.length=h.length->∀i,E1 (List.zipWith f l h) i=((f (l.getD i 0) (h.getD i 0):Int):Rat)
 | [],[],_,i=>by show (0:Rat)=((f 0 0:Int):Rat);rw[hf];rfl
 | a::l,b::h,e,0=>rfl
 | a::l,b::h,e,i+1=>mN hf (by simpa using e) i
theorem nr:∀ {rows:List Rw} {l h:Ze},l.length=rows.length->h.length=rows.length->cfs (rows.zip (List.zipWith (λx y=>x*a+y*b) l h)) n=a*cfs (rows.zip l) n+b*cfs (rows.zip h) n
 | [],[],[],_,_=>by show (0:Int)=a*0+b*0;omega
 | r::rows,x::l,y::h,h1,h2=>by
  show (x*a+y*b)*cf r.2.1 n+cfs (rows.zip (List.zipWith _ l h)) n=a*(x*cf r.2.1 n+cfs (rows.zip l) n)+b*(y*cf r.2.1 n+cfs (rows.zip h) n)
  rw[nr (rows:=rows) (l:=l) (h:=h) (by simpa using h1) (by simpa using h2)];grind
theorem uK(hz:∃w∈ws,w≠0):List.zipWith (λx y=>x*gW ws+y*0) (shW ws) (shW ws)=ws:=by
 unfold shW;have:∀(l:Ze),(∀a∈l,gW ws ∣ a)->List.zipWith (λx y=>x*gW ws+y*0) (l.map λa=>a.fdiv (gW ws)) (l.map λa=>a.fdiv (gW ws))=l:=λl=>by
  induction l with
  | nil=>intro _;rfl
  | cons a l ih =>
   intro h;show (a.fdiv (gW ws)*gW ws+_*0)::_=a::l;rw[ih λb hb=>h b (Fz _ hb),G7 (h a (FD ..)),Int.mul_zero,Hx]
 exact this ws λa ha=>lR ha
theorem nq:(shW ws).length=ws.length:=Fy ..
theorem CK(hl:ws.length=rows.length)(hz:∃w∈ws,w≠0):gW ws*cfs (rows.zip (shW ws)) n=cfs (rows.zip ws) n:=by
 have e:=nr (rows:=rows) (n:=n) (a:=gW ws) (b:=0) (l:=shW ws) (h:=shW ws) (by rw[nq,hl]) (by rw[nq,hl])
 rw[uK hz] at e;rw[e];omega
theorem Ba(hz:∃w∈ws,w≠0)(i:Nat):((gW ws:Int):Rat)*E1 (shW ws) i=E1 ws i:=by
 have e:=mN (f:=λx y=>x*gW ws+y*0) (by omega) (l:=shW ws) (h:=shW ws) rfl i
 rw[uK hz] at e;rw[e];show _*((_:Int):Rat)=_;simp only[Int.mul_zero,Int.add_zero];rw[FW];grind
theorem Ed(hz:∃w∈ws,w≠0)(h:∀a∈ws,0<=a):∀a∈shW ws,0<=a:=λa ha=>by
 obtain⟨b,hb,rfl⟩:=FC.mp ha;obtain⟨c,hc⟩:=lR hb;have g:=mx hz;have aa:=h b hb;have e:b.fdiv (gW ws)*gW ws=b:=G7 (lR hb);refine FE λz=>?_;have:=Int.mul_lt_mul_of_pos_right (show b.fdiv (gW ws)<0 by omega) g;omega
theorem DD(hz:∃w∈ws,w≠0):∃a∈shW ws,a≠0:=by
 obtain⟨w,hw,hn⟩:=hz;refine⟨_,FC.mpr ⟨w,hw,rfl⟩,λz=>hn ?_⟩;have e:w.fdiv (gW ws)*gW ws=w:=G7 (lR hw);rw[z] at e;omega
theorem nS{l h:Ze}(hl:l.length=m)(hh:h.length=m):(crS rows n l h).length=m:=by unfold crS;rw[List.length_zipWith];omega
theorem Dn(ha:0<a)(hb:0<b):∀ {l h:Ze},(∀x∈l,0<=x)->(∀x∈h,0<=x)->∀x∈List.zipWith (λx y=>x*a+y*b) l h,0<=x
 | [],_,_,_,x,hx=>by simp at hx
 | _::_,[],_,_,x,hx=>by simp at hx
 | u::l,v::h,h1,h2,x,hx=>by
  rw[HP] at hx
  rcases FJ.mp hx with rfl | hx
  ·have:=Int.mul_nonneg (h1 u (FD ..)) (Hz ha)
   have:=Int.mul_nonneg (h2 v (FD ..)) (Hz hb)
   omega
  ·exact Dn ha hb (λx hx=>h1 x (Fz _ hx)) (λx hx=>h2 x (Fz _ hx)) x hx
theorem Bl(ha:0<a)(hb:0<b):∀ {l h:Ze},l.length=h.length->(∀x∈l,0<=x)->(∀x∈h,0<=x)->(∃x∈l,x≠0)->∃x∈List.zipWith (λx y=>x*a+y*b) l h,x≠0
 | [],_,_,_,_,⟨x,hx,_⟩=>by simp at hx
 | _::_,[],e,_,_,_=>by simp at e
 | u::l,v::h,e,h1,h2,⟨x,hx,hn⟩=>by
  rw[HP]
  rcases FJ.mp hx with rfl | hx
  ·refine⟨_,FD ..,λz=>?_⟩;have:=Int.mul_pos (a:=x) (b:=a) (by have:=h1 x (FD ..);omega) ha;have:=Int.mul_nonneg (h2 v (FD ..)) (Hz hb);omega
  ·obtain⟨y,hy,aa⟩:=Bl ha hb (by simpa using e) (λx hx=>h1 x (Fz _ hx)) (λx hx=>h2 x (Fz _ hx)) ⟨x,hx,hn⟩;exact⟨y,Fz _ hy,aa⟩
section
variable {rows:List Rw} {n:Str} {l h:Ze}
theorem gQ(wl:Wt rows.length l)(wh:Wt rows.length h)(cl:0<cfs (rows.zip l) n)(ch:cfs (rows.zip h) n<0):(∀a∈crS rows n l h,0<=a)/\∃a∈crS rows n l h,a≠0 :=
 ⟨Dn (by omega) cl wl.nn wh.nn,Bl (by omega) cl (by rw[wl.len,wh.len]) wl.nn wh.nn wl.nz⟩
theorem pM(wl:Wt rows.length l)(wh:Wt rows.length h)(cl:0<cfs (rows.zip l) n)(ch:cfs (rows.zip h) n<0):Wt rows.length (crW rows n l h):=by
 obtain⟨h1,h2⟩:=gQ wl wh cl ch;exact⟨by unfold crW;rw[nq];exact nS wl.len wh.len,Ed h2 h1,DD h2⟩
theorem yD{k:Str}(wl:Wt rows.length l)(wh:Wt rows.length h)(cl:0<cfs (rows.zip l) n)(ch:cfs (rows.zip h) n<0):gW (crS rows n l h)*cfs (rows.zip (crW rows n l h)) k=-(cfs (rows.zip h) n)*cfs (rows.zip l) k+cfs (rows.zip l) n*cfs (rows.zip h) k:=by
 obtain⟨h1,h2⟩:=gQ wl wh cl ch;unfold crW;rw[CK (nS wl.len wh.len) h2];exact nr (rows:=rows) wl.len wh.len
theorem mG(wl:Wt rows.length l)(wh:Wt rows.length h)(cl:0<cfs (rows.zip l) n)(ch:cfs (rows.zip h) n<0)(i:Nat):((gW (crS rows n l h):Int):Rat)*E1 (crW rows n l h) i=-((cfs (rows.zip h) n:Int):Rat)*E1 l i+((cfs (rows.zip l) n:Int):Rat)*E1 h i:=by
 obtain⟨h1,h2⟩:=gQ wl wh cl ch;unfold crW;rw[Ba h2];unfold crS;rw[mN (by omega) (by rw[wl.len,wh.len])];rw[GM,FW,FW,Rat.intCast_neg];unfold E1
 grind
end
theorem e7{most:Nat}{W:List (List Int)}{w:List Int}:w∈woW rows n most W↔(w∈W/\cfs (rows.zip w) n=0)\/∃l∈W,0<cfs (rows.zip l) n/\∃h∈W,cfs (rows.zip h) n<0/\w=crW rows n l h/\usd w<=most:=by
 unfold woW;rw[FV,FI,List.mem_flatMap];refine or_congr (by simp) ?_
 constructor
 ·rintro⟨l,hl,hm⟩;obtain⟨aj,al⟩:=FI.mp hl;obtain⟨ai,aa⟩:=FI.mp hm;obtain⟨h,hh,rfl⟩:=FC.mp ai;obtain⟨ah,ab⟩:=FI.mp hh;exact⟨l,aj,by simpa using al,h,ah,by simpa using ab,rfl,by simpa using aa⟩
 ·rintro⟨l,hl,cl,h,hh,ch,rfl,hu⟩;exact⟨l,FI.mpr ⟨hl,by simpa using cl⟩,FI.mpr ⟨FC.mpr ⟨h,FI.mpr ⟨hh,by simpa using ch⟩,rfl⟩,by simpa using hu⟩⟩
theorem Cm{j:Nat}(h:j<m):Wt m (unW m j):=by
 refine⟨by unfold unW;simp,λa ha=>?_,1,?_,by decide⟩
 ·obtain⟨i,_,rfl⟩:=FC.mp ha
  split<;>decide
 ·exact FC.mpr ⟨j,GL.mpr h,by simp⟩
theorem xJ{j:Nat}(h:j<m):E1 (unW m j)=AK j:=by
 funext i
 unfold E1 unW AK;rw[List.getD_eq_getElem?_getD,List.getElem?_map]
 by_cases hi:i<m
 ·rw[List.getElem?_range hi];show (((if i=j then 1 else 0:Int)):Rat)=_
  by_cases e:i=j<;>simp[e]
 ·rw[List.getElem?_eq_none (by simpa using Nat.le_of_not_lt hi)];have:i≠j:=by omega
  simp[this]
theorem ca:∀ {ns:Zb} {w:Ze},w∈E5 rows ns->Wt rows.length w/\∀n∈ns,cfs (rows.zip w) n=0
 | [],w,h=>by
  obtain⟨j,hj,rfl⟩:=FC.mp h;exact⟨Cm (GL.mp hj),λ_ h=>(nomatch h)⟩
 | n::ns,w,h=>by
  rcases e7.mp h with⟨h1,h2⟩ | ⟨l,hl,cl,k,hk,ck,rfl,_⟩
  ·obtain⟨a,b⟩:=ca h1;exact⟨a,λx hx=>(FJ.mp hx).elim (λe=>e ▸ h2) (b x)⟩
  ·obtain⟨a,b⟩:=ca hl;obtain⟨a',b'⟩:=ca hk;refine⟨pM a a' cl ck,λx hx=>?_⟩;have e:=yD (k:=x) a a' cl ck;have g:=mx (gQ a a' cl ck).2;have:-(cfs (rows.zip k) n)*cfs (rows.zip l) x+cfs (rows.zip l) n*cfs (rows.zip k) x=0:=by
    rcases FJ.mp hx with rfl | hx
    ·grind
    ·rw[b x hx,b' x hx];omega
   rw[this] at e
   rcases Int.mul_eq_zero.mp e with z | z
   ·omega
   ·exact z
theorem vU{ns:Zb}:Kept rows.length (colV rows n) (ns.length+2) ((E5 rows ns).map E1) ((E5 rows (n::ns)).map E1):=by
 have dt:∀ {w},w∈E5 rows ns->Ff rows.length (colV rows n) (E1 w)=((cfs (rows.zip w) n:Int):Rat):=λh=>(kM (ca h).1.len).symm
 constructor
 ·intro s hs;obtain⟨w,hw,rfl⟩:=FC.mp hs;exact sF (ca hw).1.len (ca hw).1.nn
 ·intro s hs h0;obtain⟨w,hw,rfl⟩:=FC.mp hs;rw[dt hw] at h0;exact FC.mpr ⟨w,e7.mpr (.inl ⟨hw,HK.mp h0⟩),rfl⟩
 ·intro l hl h hh cl ch hz;obtain⟨l,aa,rfl⟩:=FC.mp hl;obtain⟨h,ab,rfl⟩:=FC.mp hh;clear hl hh;have hl:=aa;have hh:=ab;rw[dt hl] at cl hz ⊢;rw[dt hh] at ch hz ⊢;have cl:0<cfs (rows.zip l) n:=Rat.intCast_pos.mp cl;have ch:cfs (rows.zip h) n<0:=Rat.intCast_neg_iff.mp ch;have wl:=(ca hl).1;have wh:=(ca hh).1;have ww:=pM wl wh cl ch;have g:=mx (gQ wl wh cl ch).2;have gr:(0:Rat)<((gW (crS rows n l h):Int):Rat):=Rat.intCast_pos.mpr g;refine⟨_,FC.mpr ⟨crW rows n l h,e7.mpr (.inr ⟨l,hl,cl,h,hh,ch,rfl,?_⟩),rfl⟩,_,gr,λi=>mG wl wh cl ch i⟩;rw[<- xp ww.nn,ww.len];refine FB (vP _ λi _ hi=>?_) hz;rw[<- mG wl wh cl ch i];intro z
  rcases GD.mp z with q | q
  ·grind
  ·exact hi q
theorem oH:∀ns:Zb,Comp rows.length (stV rows) (ns.map (colV rows)) ((E5 rows ns).map E1)
 | []=>ud _ λj hj=>FC.mpr ⟨unW rows.length j,FC.mpr ⟨j,GL.mpr hj,rfl⟩,xJ hj⟩
 | n::ns=>tL (oH ns) (by rw[Fy];exact vU)
end Mf
namespace Mf
open PySem L2 DL
variable {p:Int×Int} {ks:Zb} {ps:Za} {n:Str}
def Fa(p:Int×Int):Rat:=(p.1:Rat) / (p.2:Rat)
theorem eA{a:Int}(h:a≠0):((a:Int):Rat)≠0:=λz=>h (HK.mp z)
theorem dA{a:Int}(h:0<a):(0:Rat)<((a:Int):Rat):=Rat.intCast_pos.mpr h
theorem gY(t:Int){b:Int}(h:b≠0):Fa (Fv t b,Fp t b)=(t:Rat) / (b:Rat):=by
 have c:=wf t b
 have hB:=(fe t h).ne
 have c2:((Fv t b:Int):Rat)*(b:Rat)=(t:Rat)*((Fp t b:Int):Rat):=by rw[<- FW,<- FW,c]
 have h1:=eA h
 have h2:=eA hB
 show ((Fv t b:Int):Rat) / ((Fp t b:Int):Rat)=_
 grind
theorem dk{q:Int×Int}(hp:0<p.2)(hq:0<q.2):Fa p<Fa q↔p.1*q.2<q.1*p.2:=by
 have h1:=dA hp
 have h2:=dA hq
 have h3:=Gx h1 h2
 have e1:Fa p*((p.2:Rat)*(q.2:Rat))=((p.1*q.2:Int):Rat):=by rw[FW];unfold Fa;grind
 have e2:Fa q*((p.2:Rat)*(q.2:Rat))=((q.1*p.2:Int):Rat):=by rw[FW];unfold Fa;grind
 rw[<- GH,<- e1,<- e2]
 constructor
 ·intro h;have:=Gx (a:=Fa q-Fa p) (by grind) h3
  grind
 ·intro h;refine FE λz=>?_;have:=Ga (a:=Fa p-Fa q) (b:=(p.2:Rat)*(q.2:Rat)) (by grind) (by grind)
  grind
theorem cY{q:Int×Int}(hp:Fn p.1 p.2)(hq:Fn q.1 q.2)(e:Fa p=Fa q):p=q:=by
 have h1:¬ p.1*q.2<q.1*p.2:=λz=>by have:=(dk hp.pos hq.pos).mpr z;grind
 have h2:¬ q.1*p.2<p.1*q.2:=λz=>by have:=(dk hq.pos hp.pos).mpr z;grind
 have:=hp.uniq hq (by omega)
 exact Prod.ext this.1 this.2
theorem mR(a:Int):Fa (Fv a 1,Fp a 1)=(a:Rat):=by
 rw[gY a (by decide)];show (a:Rat) / ((1:Int):Rat)=a;rw[show ((1:Int):Rat)=1 from rfl];grind
theorem AS(h:0<p.2):((p.1.fdiv p.2:Int):Rat)<=Fa p/\Fa p<((p.1.fdiv p.2+1:Int):Rat):=by
 have m0:=Gh p.1 h
 have m1:=Gy p.1 h
 have e:p.2*p.1.fdiv p.2+p.1.fmod p.2=p.1:=by rw[Hw];omega
 have hr:=dA h
 generalize hf:p.1.fdiv p.2=f at *
 have e1:((f:Int):Rat)=Fa (f,1):=by unfold Fa;show _=((f:Int):Rat) / ((1:Int):Rat);rw[show ((1:Int):Rat)=1 from rfl];grind
 have e2:((f+1:Int):Rat)=Fa (f+1,1):=by unfold Fa;show _=((f+1:Int):Rat) / ((1:Int):Rat);rw[show ((1:Int):Rat)=1 from rfl];grind
 rw[e1,e2]
 constructor
 ·refine FE λz=>?_;have:=(dk (p:=p) (q:=(f,1)) h Int.one_pos).mp (by grind);simp only at this;have:p.2*f=f*p.2:=GG ..;omega
 ·refine(dk (p:=p) (q:=(f+1,1)) h Int.one_pos).mpr ?_;simp only;rw[Int.add_mul];have:p.2*f=f*p.2:=GG ..;omega
def Fw(ks:Zb)(ps:Za):Str->Rat:=λn=>Fa (re ks ps n)
theorem ov_R{K:Int}(h0:0<pB ks ps n)(hd:pB ks ps n ∣ K):((ov (pT ks ps) (pB ks ps) K n:Int):Rat)=(K:Rat)*Fw ks ps n:=by
 obtain⟨y,rfl⟩:=hd;have hn:pB ks ps n≠0:=by omega
 unfold ov Fw Fa;rw[Hy _ hn,FW,FW];have:=eA hn;show ((pT ks ps n:Int):Rat)*_=((pB ks ps n:Int):Rat)*_*(((pT ks ps n:Int):Rat) / ((pB ks ps n:Int):Rat))
 grind
theorem pA{K:Int}:∀ {ts:List (Str×Int)},(∀t∈ts,0<pB ks ps t.1/\pB ks ps t.1 ∣ K)->((ek (ov (pT ks ps) (pB ks ps) K) ts:Int):Rat)=(K:Rat)*c5 (Fw ks ps) ts
 | [],_=>by show ((0:Int):Rat)=_*0;rw[show ((0:Int):Rat)=0 from rfl];grind
 | t::r,h=>by
  show ((t.2*ov _ _ K t.1+ek _ r:Int):Rat)=_*((t.2:Rat)*_+c5 _ r)
  obtain⟨h1,h2⟩:=h t (FD ..);rw[GM,FW,ov_R h1 h2,pA λu hu=>h u (Fz _ hu)];grind
def bnd(ks:Zb)(ps:Za)(n:Str)(r:Rw):Int×Int :=
 let o:=r.2.1.filter λt=>decide (t.1≠n)
 let K:=bot (pB ks ps) (o.map (·.1))
 (Fv (r.2.2*K-ek (ov (pT ks ps) (pB ks ps) K) o) (cf r.2.1 n*K),Fp (r.2.2*K-ek (ov (pT ks ps) (pB ks ps) K) o) (cf r.2.1 n*K))
theorem eY{x:Str->Rat}(h:x n=0):∀ts:List (Str×Int),c5 x (ts.filter λt=>decide (t.1≠n))=c5 x ts
 | []=>rfl
 | t::r=>by
  by_cases e:t.1=n
  ·rw[F0 (by simp[e]),eY h r];show _=(t.2:Rat)*x t.1+_;rw[e,h];grind
  ·rw[Gc (by simp[e])];show _+_=_+c5 x r;rw[eY h r]
theorem xr{r:Rw}(hp:∀t∈r.2.1,t.1≠n->0<pB ks ps t.1)(h0:Fw ks ps n=0)(hc:cf r.2.1 n≠0) :
  Fn (bnd ks ps n r).1 (bnd ks ps n r).2/\Fa (bnd ks ps n r)=-(c5 (Fw ks ps) r.2.1-(r.2.2:Int)) / ((cf r.2.1 n:Int):Rat):=by
 unfold bnd;have ho:∀t∈r.2.1.filter (λt=>decide (t.1≠n)),0<pB ks ps t.1:=λt ht=>by
  obtain⟨h1,h2⟩:=FI.mp ht;exact hp t h1 (by simpa using h2)
 have hs:=eY h0 r.2.1
 generalize ho':r.2.1.filter (λt=>decide (t.1≠n))=o at *
 have hK:0<bot (pB ks ps) (o.map (·.1)):=dr λk hk=>by
  obtain⟨t,ht,rfl⟩:=FC.mp hk;exact ho t ht
 have e:=pA (ks:=ks) (ps:=ps) (K:=bot (pB ks ps) (o.map (·.1))) (ts:=o) λt ht=>⟨ho t ht,gd (FC.mpr ⟨t,ht,rfl⟩)⟩
 simp only;generalize bot (pB ks ps) (o.map (·.1))=K at *;have aa:cf r.2.1 n*K≠0:=Gu hc (by omega);refine⟨fe _ aa,?_⟩;rw[gY _ aa,FW,Gv,FW,e,hs];have h1:=eA hc;have h2:=eA (show K≠0 by omega)
 grind
abbrev Fs:=Option (Int×Int)×Bool
def tgt(lo:Bool)(a b:Fs):Fs:=match a.1,b.1 with
 | none,_=>b
 | some _,none=>a
 | some p,some q=>if p=q then (some p,a.2&&b.2) else if decide (q.1*p.2<p.1*q.2)=lo then a else b
structure Tgt(lo:Bool)(cs:List ((Int×Int)×Bool))(e:Fs):Prop where
 nn:e.1=none->cs=[]
 so:∀p,e.1=some p->Fn p.1 p.2/\(∃c∈cs,c.1=p/\c.2=e.2)/\∀c∈cs,(c.1=p/\(e.2=true->c.2=true))\/(c.1≠p/\(if lo then Fa c.1<Fa p else Fa p<Fa c.1))
theorem Tgt.nil{lo:Bool}:Tgt lo [] (none,false):=⟨λ_=>rfl,λ_ h=>(nomatch h)⟩
theorem Tgt.step{lo:Bool}{cs:List ((Int×Int)×Bool)}{e:Fs}{c:(Int×Int)×Bool}(h:Tgt lo cs e)(hc:Fn c.1.1 c.1.2):Tgt lo (cs++[c]) (tgt lo e (some c.1,c.2)):=by
 obtain⟨e1,e2⟩:=e;obtain⟨q,b⟩:=c
 cases e1 with
 | none =>
  have:cs=[]:=h.nn rfl
  subst this;refine⟨λz=>(nomatch z),λp hp=>?_⟩
  cases hp
  exact⟨hc,⟨(q,b),by simp,rfl,rfl⟩,λc hc=>by
   have:c=(q,b):=by simpa using hc
   subst this;exact .inl ⟨rfl,id⟩⟩
 | some p =>
  obtain⟨lp,⟨w,hw,w1,w2⟩,all⟩:=h.so p rfl;show Tgt lo _ (if p=q then (some p,e2&&b) else if decide (q.1*p.2<p.1*q.2)=lo then (some p,e2) else (some q,b));have lt:=dk (p:=q) (q:=p) hc.pos lp.pos;have gt:=dk (p:=p) (q:=q) lp.pos hc.pos
  by_cases e:p=q
  ·rw[FP e];subst e;refine⟨λz=>(nomatch z),λp' hp=>?_⟩
   cases hp
   refine⟨lp,?_,λc hc'=>?_⟩
   ·cases b
    ·exact⟨(p,false),by simp,rfl,by simp⟩
    ·exact⟨w,F4 _ hw,w1,by simpa using w2⟩
   ·rcases FV.mp hc' with hc' | hc'
    ·rcases all c hc' with⟨a1,a2⟩ | a
     ·exact .inl ⟨a1,λz=>a2 (by simpa using (by simpa using z:e2=true/\b=true).1)⟩
     ·exact .inr a
    ·have:c=(p,b):=by simpa using hc'
     subst this;exact .inl ⟨rfl,λz=>(by simpa using z:e2=true/\b=true).2⟩
  ·rw[FN e];have ne:Fa p≠Fa q:=λz=>e (cY lp hc z)
   by_cases k:decide (q.1*p.2<p.1*q.2)=lo
   ·rw[FP k];refine⟨λz=>(nomatch z),λp' hp=>?_⟩
    cases hp
    refine⟨lp,⟨w,F4 _ hw,w1,w2⟩,λc hc'=>?_⟩
    rcases FV.mp hc' with hc' | hc'
    ·exact all c hc'
    ·have:c=(q,b):=by simpa using hc'
     subst this;refine .inr ⟨λz=>e z.symm,?_⟩
     cases lo
     ·have:=(decide_eq_false_iff_not.mp k)
      simp only[Bool.false_eq_true,if_false];have:¬ Fa q<Fa p:=λz=>this (lt.mp z)
      grind
     ·simp only[if_true];exact lt.mpr (decide_eq_true_eq.mp k)
   ·rw[FN k];refine⟨λz=>(nomatch z),λp' hp=>?_⟩
    cases hp
    have pq:if lo then Fa p<Fa q else Fa q<Fa p:=by
     cases lo
     ·simp only[Bool.false_eq_true,if_false];simp only[Bool.not_eq_false,decide_eq_true_eq] at k;exact lt.mpr k
     ·simp only[if_true];simp only[decide_eq_true_eq] at k;have:¬ Fa q<Fa p:=λz=>k (lt.mp z)
      grind
    refine⟨hc,⟨(q,b),by simp,rfl,rfl⟩,λc hc'=>?_⟩
    rcases FV.mp hc' with hc' | hc'
    ·have x:=all c hc'
     refine .inr ?_
     cases lo
     ·simp only[Bool.false_eq_true,if_false] at x pq ⊢;have:Fa q<Fa c.1:=by rcases x with x | x;rw[x.1];exact pq;grind
      exact⟨λz=>by rw[z] at this;grind,this⟩
     ·simp only[if_true] at x pq ⊢;have:Fa c.1<Fa q:=by rcases x with x | x;rw[x.1];exact pq;grind
      exact⟨λz=>by rw[z] at this;grind,this⟩
    ·have:c=(q,b):=by simpa using hc'
     subst this;exact .inl ⟨rfl,id⟩
def nmb(lo hi:Option (Int×Int)):Int×Int:=match lo,hi with
 | none,none=>(0,1)
 | none,some h=>(Fv (h.1.fdiv h.2-1) 1,Fp (h.1.fdiv h.2-1) 1)
 | some l,none=>(Fv (l.1.fdiv l.2+1) 1,Fp (l.1.fdiv l.2+1) 1)
 | some l,some h =>
  if Fv (l.1.fdiv l.2+1) 1*h.2<h.1*Fp (l.1.fdiv l.2+1) 1 then (Fv (l.1.fdiv l.2+1) 1,Fp (l.1.fdiv l.2+1) 1)
  else if l=h then l
  else
   let s:Int×Int:=(Fv (l.1*h.2+h.1*l.2) (l.2*h.2),Fp (l.1*h.2+h.1*l.2) (l.2*h.2))
   (Fv (s.1*1) (s.2*2),Fp (s.1*1) (s.2*2))
theorem CA{lo hi:Fs}(h1:∀p,lo.1=some p->Fn p.1 p.2)(h2:∀p,hi.1=some p->Fn p.1 p.2)(hh:∀p q,lo.1=some p->hi.1=some q->Fa p<Fa q\/(Fa p=Fa q/\lo.2=true/\hi.2=true)) :
  Fn (nmb lo.1 hi.1).1 (nmb lo.1 hi.1).2/\(∀p,lo.1=some p->Fa p<Fa (nmb lo.1 hi.1)\/(Fa p=Fa (nmb lo.1 hi.1)/\lo.2=true))/\∀q,hi.1=some q->Fa (nmb lo.1 hi.1)<Fa q\/(Fa (nmb lo.1 hi.1)=Fa q/\hi.2=true):=by
 obtain⟨l,lb⟩:=lo;obtain⟨h,hb⟩:=hi;have L1:∀a,Fn (Fv a 1) (Fp a 1):=λa=>fe a (by decide)
 cases l with
 | none =>
  cases h with
  | none=>exact⟨(⟨by decide,by unfold gc;decide⟩:Fn 0 1),λp z=>(nomatch z),λp z=>(nomatch z)⟩
  | some h =>
   refine⟨L1 _,λp z=>(nomatch z),λp z=>?_⟩
   cases z
   have:=AS (h2 _ rfl).pos
   refine .inl ?_;show Fa (Fv _ 1,Fp _ 1)<_;rw[mR,Gv,show ((1:Int):Rat)=1 from rfl];grind
 | some l =>
  have hl:=h1 _ rfl
  have fl:=AS hl.pos
  cases h with
  | none =>
   refine⟨L1 _,λp z=>?_,λp z=>(nomatch z)⟩
   cases z
   refine .inl ?_;show _<Fa (Fv _ 1,Fp _ 1);rw[mR];exact fl.2
  | some h =>
   have hH:=h2 _ rfl
   have c:=hh _ _ rfl rfl
   show Fn (nmb (some l) (some h)).1 (nmb (some l) (some h)).2/\(∀p,some l=some p->Fa p<Fa (nmb (some l) (some h))\/_/\lb=true)/\(∀q,some h=some q->Fa (nmb (some l) (some h))<Fa q\/_/\hb=true)
   unfold nmb;simp only
   by_cases k:Fv (l.1.fdiv l.2+1) 1*h.2<h.1*Fp (l.1.fdiv l.2+1) 1
   ·rw[FP k];refine⟨L1 _,λp z=>?_,λp z=>?_⟩
    ·cases z;rw[mR];exact .inl fl.2
    ·cases z;exact .inl ((dk (L1 _).pos hH.pos).mpr k)
   ·rw[FN k]
    by_cases e:l=h
    ·rw[FP e];subst e;have:lb=true/\hb=true:=by rcases c with c | c;grind;exact c.2
     exact⟨hl,λp z=>by cases z;exact .inr ⟨rfl,this.1⟩,λp z=>by cases z;exact .inr ⟨rfl,this.2⟩⟩
    ·rw[FN e];have lt:Fa l<Fa h:=by
      rcases c with c | c
      ·exact c
      ·exact absurd (cY hl hH c.1) e
     have nz:l.2*h.2≠0:=Gu hl.ne hH.ne
     have sl:=fe (l.1*h.2+h.1*l.2) nz
     have aa:Fp (l.1*h.2+h.1*l.2) (l.2*h.2)*2≠0:=Gu sl.ne (by decide)
     have e1:Fa (Fv (l.1*h.2+h.1*l.2) (l.2*h.2),Fp (l.1*h.2+h.1*l.2) (l.2*h.2))=Fa l+Fa h:=by
      rw[gY _ nz,GM,FW,FW,FW];have a1:=eA hl.ne;have a2:=eA hH.ne;unfold Fa
      grind
     have e2:Fa (Fv (Fv (l.1*h.2+h.1*l.2) (l.2*h.2)*1) (Fp (l.1*h.2+h.1*l.2) (l.2*h.2)*2),Fp (Fv (l.1*h.2+h.1*l.2) (l.2*h.2)*1) (Fp (l.1*h.2+h.1*l.2) (l.2*h.2)*2))=(Fa l+Fa h) / 2:=by
      rw[gY _ aa,<- e1,FW,FW,show ((1:Int):Rat)=1 from rfl,show ((2:Int):Rat)=2 from rfl];have a1:=eA sl.ne;unfold Fa
      grind
     refine⟨fe _ aa,λp z=>?_,λp z=>?_⟩
     ·cases z;rw[e2];exact .inl (by grind)
     ·cases z;rw[e2];exact .inl (by grind)
end Mf
namespace Mf
open PySem L2 DL
variable {nm ks:Zb} {rows:List Rw} {ps:Za} {n:Str}
def cnd(nm:Zb)(rows:List Rw)(ks:Zb)(ps:Za)(n:Str)(w:Ze):(Int×Int)×Bool:=(bnd ks ps n (ET nm rows w),!Fe (rows.zip w))
def pcs(nm:Zb)(rows:List Rw)(ks:Zb)(ps:Za)(n:Str)(W:List (List Int)):Fs×Fs :=
  W.foldl (λe w =>
    (if 0<cfs (rows.zip w) n then tgt true e.1 (some (cnd nm rows ks ps n w).1,(cnd nm rows ks ps n w).2) else e.1,
     if cfs (rows.zip w) n<0 then tgt false e.2 (some (cnd nm rows ks ps n w).1,(cnd nm rows ks ps n w).2) else e.2)) ((none,false),(none,false))
theorem rE:∀(W:List (List Int)),(∀w∈W,cfs (rows.zip w) n≠0->Fn (cnd nm rows ks ps n w).1.1 (cnd nm rows ks ps n w).1.2) ->
    Tgt true ((W.filter λw=>decide (0<cfs (rows.zip w) n)).map (cnd nm rows ks ps n)) (pcs nm rows ks ps n W).1/\Tgt false ((W.filter λw=>decide (cfs (rows.zip w) n<0)).map (cnd nm rows ks ps n)) (pcs nm rows ks ps n W).2:=by
  intro W;unfold pcs;have:∀(W:List (List Int)) (c1 c2:List ((Int×Int)×Bool)) (e:Fs×Fs),(∀w∈W,cfs (rows.zip w) n≠0->Fn (cnd nm rows ks ps n w).1.1 (cnd nm rows ks ps n w).1.2)->Tgt true c1 e.1->Tgt false c2 e.2 ->
      Tgt true (c1++(W.filter λw=>decide (0<cfs (rows.zip w) n)).map (cnd nm rows ks ps n)) (W.foldl (λe w =>
    (if 0<cfs (rows.zip w) n then tgt true e.1 (some (cnd nm rows ks ps n w).1,(cnd nm rows ks ps n w).2) else e.1,
     if cfs (rows.zip w) n<0 then tgt false e.2 (some (cnd nm rows ks ps n w).1,(cnd nm rows ks ps n w).2) else e.2)) e).1 /\
      Tgt false (c2++(W.filter λw=>decide (cfs (rows.zip w) n<0)).map (cnd nm rows ks ps n)) (W.foldl (λe w =>
    (if 0<cfs (rows.zip w) n then tgt true e.1 (some (cnd nm rows ks ps n w).1,(cnd nm rows ks ps n w).2) else e.1,
     if cfs (rows.zip w) n<0 then tgt false e.2 (some (cnd nm rows ks ps n w).1,(cnd nm rows ks ps n w).2) else e.2)) e).2:=λW=>by
    induction W with
    | nil=>intro c1 c2 e _ h1 h2;simpa using ⟨h1,h2⟩
    | cons w W ih =>
      intro c1 c2 e hl h1 h2;have aa:=λw h=>hl w (Fz _ h);rw[HL]
      by_cases p:0<cfs (rows.zip w) n
      · have q:¬ cfs (rows.zip w) n<0:=by omega
        rw[FP p,FN q,Gc (by simpa using p),F0 (by simpa using q),F7,List.append_cons];exact ih (c1++[cnd nm rows ks ps n w]) c2 (tgt true e.1 (some (cnd nm rows ks ps n w).1,(cnd nm rows ks ps n w).2),e.2) aa (h1.step (hl w (FD ..) (by omega))) h2
      · by_cases q:cfs (rows.zip w) n<0
        · rw[FN p,FP q,F0 (by simpa using p),Gc (by simpa using q),F7,List.append_cons];exact ih c1 (c2++[cnd nm rows ks ps n w]) (e.1,tgt false e.2 (some (cnd nm rows ks ps n w).1,(cnd nm rows ks ps n w).2)) aa h1 (h2.step (hl w (FD ..) (by omega)))
        · rw[FN p,FN q,F0 (by simpa using p),F0 (by simpa using q)];exact ih c1 c2 e aa h1 h2
  intro h;simpa using this W [] [] ((none,false),(none,false)) h .nil .nil
theorem gM{x:Str->Rat}{v:Rat}(h:x n=0):∀l:List (Rw×Int),evl (kZ x n v) l=evl x l+v*((cfs l n:Int):Rat)
 | []=>by show (0:Rat)=0+v*((0:Int):Rat);rw[show ((0:Int):Rat)=0 from rfl];grind
 | p::r=>by
  show _*(c5 (kZ x n v) p.1.2.1-_)+evl (kZ x n v) r=_*(c5 x p.1.2.1-_)+evl x r+v*((p.2*cf p.1.2.1 n+cfs r n:Int):Rat)
  rw[oN h,gM h r,GM,FW];grind
theorem xC(h:Ft nm rows)(x:Str->Rat)(w:Ze):c5 x (ET nm rows w).2.1-((ET nm rows w).2.2:Int)=evl x (rows.zip w):=by
 rw[rk (x:=x) h.nd (l:=rows.zip w) λp hp=>h.sub p.1 (Gk hp).1];have e2:c5 x (Mf.smT nm (Mf.cfs (rows.zip w)))=nJ x (Mf.cfs (rows.zip w)) nm:=by
  rw[oE h.nd λt ht=>?_]
  ·congr 1;exact funext λn=>(h.smT w).cf n
  ·obtain⟨n,hn,rfl⟩:=FC.mp ht;exact(FI.mp hn).1
 show c5 x (Mf.smT nm (Mf.cfs (rows.zip w)))-_=_
 rw[e2];rfl
theorem cR(h:Ft nm rows)(w:Ze)(n:Str):cf (ET nm rows w).2.1 n=cfs (rows.zip w) n:=(h.smT w).cf n
theorem ir{w:Ze}{t:Str×Int}(ht:t∈(ET nm rows w).2.1):t.1∈nm/\cfs (rows.zip w) t.1≠0/\t.2=cfs (rows.zip w) t.1:=by
 obtain⟨n,hn,rfl⟩:=FC.mp ht;obtain⟨h1,h2⟩:=FI.mp hn;exact⟨h1,by simpa using h2,rfl⟩
theorem AD(H:Ft nm rows){ns:Zb}{x:Str->Rat}(hso:∀w∈E5 rows (n::ns),Fi x (ET nm rows w)){l h:Ze}(hl:l∈E5 rows ns)(hh:h∈E5 rows ns)
    (cl:0<cfs (rows.zip l) n) (ch:cfs (rows.zip h) n<0) :
    -(evl x (rows.zip l)) / ((cfs (rows.zip l) n:Int):Rat) < -(evl x (rows.zip h)) / ((cfs (rows.zip h) n:Int):Rat) \/
      (-(evl x (rows.zip l)) / ((cfs (rows.zip l) n:Int):Rat)=-(evl x (rows.zip h)) / ((cfs (rows.zip h) n:Int):Rat)/\Fe (rows.zip l)=false/\Fe (rows.zip h)=false):=by
  obtain⟨wl,al⟩:=ca hl;obtain⟨wh,ah⟩:=ca hh;have nl:=sF wl.len wl.nn;have nh:=sF wh.len wh.nn;have c1:(0:Rat)<((cfs (rows.zip l) n:Int):Rat):=dA cl;have c2:((cfs (rows.zip h) n:Int):Rat)<0:=by have:=GH.mpr ch;simpa using this
  have aa:=oH (rows:=rows) (n::ns) (λ_=>True) (eV x rows) (λs hs _=>by
    obtain⟨w,hw,rfl⟩:=FC.mp hs
    exact(oC H (ca hw).1.len).mp (hso w hw)) (λi=>-((cfs (rows.zip h) n:Int):Rat)*E1 l i+((cfs (rows.zip l) n:Int):Rat)*E1 h i)
    ⟨λi=>by
      have a1:=Ga (a:=-((cfs (rows.zip h) n:Int):Rat)) (b:=E1 l i) (by grind) (nl.pos i)
      have a2:=Ga (a:=((cfs (rows.zip l) n:Int):Rat)) (b:=E1 h i) (by grind) (nh.pos i)
      grind,λi hi=>by rw[nl.top i hi,nh.top i hi];grind⟩
    (λc hc=>by
      obtain⟨k,hk,rfl⟩:=FC.mp hc;rw[dm,<- kM wl.len,<- kM wh.len]
      rcases FJ.mp hk with rfl | hk
      · grind
      · rw[al k hk,ah k hk,show ((0:Int):Rat)=0 from rfl];grind) (λ_ _=>trivial)
  unfold sat at aa;rw[dm,<- ke wl.len,<- ke wh.len] at aa;generalize evl x (rows.zip l)=L at *;generalize evl x (rows.zip h)=R at *;generalize hcl:((cfs (rows.zip l) n:Int):Rat)=a at *;generalize hch:((cfs (rows.zip h) n:Int):Rat)=b at *;have e1:-b*L+a*R=((-R / b)-(-L / a))*(a*(-b)):=by grind
  have pp:=Gx (a:=a) (b:=-b) c1 (by grind)
  rw[e1] at aa
  rcases aa with k | ⟨k,st⟩
  · refine .inl (FE λz=>?_);have:=Ga (a:=(-L / a)-(-R / b)) (b:=a * -b) (by grind) (by grind)
    grind
  · refine .inr ⟨by rcases GD.mp k with q | q<;>grind,(ou wl.len).mpr λi hi hp=>st i hi ?_,(ou wh.len).mpr λi hi hp=>st i hi ?_⟩
    · have a1:=Gx (a:=-b) (b:=E1 l i) (by grind) hp
      have a2:=Ga (a:=a) (b:=E1 h i) (by grind) (nh.pos i)
      grind
    · have a1:=Ga (a:=-b) (b:=E1 l i) (by grind) (nl.pos i)
      have a2:=Gx (a:=a) (b:=E1 h i) c1 hp
      grind
theorem back(H:Ft nm rows){ns:Zb}(hso:∀w∈E5 rows (n::ns),Fi (Fw ks ps) (ET nm rows w))(h0:Fw ks ps n=0)
  (hp:∀w∈E5 rows ns,∀t∈(ET nm rows w).2.1,t.1≠n->0<pB ks ps t.1) :
  Fn (nmb (pcs nm rows ks ps n (E5 rows ns)).1.1 (pcs nm rows ks ps n (E5 rows ns)).2.1).1 (nmb (pcs nm rows ks ps n (E5 rows ns)).1.1 (pcs nm rows ks ps n (E5 rows ns)).2.1).2 /\
   ∀w∈E5 rows ns,Fi (kZ (Fw ks ps) n (Fa (nmb (pcs nm rows ks ps n (E5 rows ns)).1.1 (pcs nm rows ks ps n (E5 rows ns)).2.1))) (ET nm rows w):=by
 have bo:∀w∈E5 rows ns,cfs (rows.zip w) n≠0->Fn (cnd nm rows ks ps n w).1.1 (cnd nm rows ks ps n w).1.2/\Fa (cnd nm rows ks ps n w).1=-(evl (Fw ks ps) (rows.zip w)) / ((cfs (rows.zip w) n:Int):Rat):=λw hw hc=>by
  have:=xr (hp w hw) h0 (by rw[cR H];exact hc)
  rw[xC H,cR H] at this;exact this
 obtain⟨T1,T2⟩:=rE (nm:=nm) (rows:=rows) (ks:=ks) (ps:=ps) (n:=n) (E5 rows ns) λw hw hc=>(bo w hw hc).1;generalize pcs nm rows ks ps n (E5 rows ns)=e at *;obtain⟨lo,hi⟩:=e;simp only at *;have at1:∀p,lo.1=some p->∃l∈E5 rows ns,0<cfs (rows.zip l) n/\p=(cnd nm rows ks ps n l).1/\lo.2=!Fe (rows.zip l):=λp hp=>by
  obtain⟨_,⟨c,hc,e1,e2⟩,_⟩:=T1.so p hp;obtain⟨l,hl,rfl⟩:=FC.mp hc;obtain⟨ab,ah⟩:=FI.mp hl;exact⟨l,ab,by simpa using ah,e1.symm,e2.symm⟩
 have at2:∀p,hi.1=some p->∃l∈E5 rows ns,cfs (rows.zip l) n<0/\p=(cnd nm rows ks ps n l).1/\hi.2=!Fe (rows.zip l):=λp hp=>by
  obtain⟨_,⟨c,hc,e1,e2⟩,_⟩:=T2.so p hp;obtain⟨l,hl,rfl⟩:=FC.mp hc;obtain⟨ab,ah⟩:=FI.mp hl;exact⟨l,ab,by simpa using ah,e1.symm,e2.symm⟩
 obtain⟨ai,v1,v2⟩:=CA (lo:=lo) (hi:=hi) (λp h=>(T1.so p h).1) (λp h=>(T2.so p h).1) λp q hp hq=>by
  obtain⟨l,hl,cl,rfl,sl⟩:=at1 p hp;obtain⟨h,hh,ch,rfl,sh⟩:=at2 q hq;rw[(bo l hl (by omega)).2,(bo h hh (by omega)).2]
  rcases AD H hso hl hh cl ch with k | ⟨k1,k2,k3⟩
  ·exact .inl k
  ·exact .inr ⟨k1,by rw[sl,k2];rfl,by rw[sh,k3];rfl⟩
 refine⟨ai,λw hw=>?_⟩;rw[jI H,gM h0];generalize Fa (nmb lo.1 hi.1)=v at *
 rcases Int.lt_trichotomy (cfs (rows.zip w) n) 0 with c | c | c
 ·obtain⟨_,b2⟩:=bo w hw (by omega);have cr:((cfs (rows.zip w) n:Int):Rat)<0:=by have:=GH.mpr c;simpa using this
  have hm:cnd nm rows ks ps n w∈((E5 rows ns).filter λw=>decide (cfs (rows.zip w) n<0)).map (cnd nm rows ks ps n):=FC.mpr ⟨w,FI.mpr ⟨hw,by simpa using c⟩,rfl⟩
  cases hlo:hi.1 with
  | none=>rw[T2.nn hlo] at hm;cases hm
  | some p =>
   have vv:=v2 p hlo
   have aa:v<Fa (cnd nm rows ks ps n w).1\/(v=Fa (cnd nm rows ks ps n w).1/\Fe (rows.zip w)=false):=by
    rcases(T2.so p hlo).2.2 _ hm with⟨z1,z2⟩ | ⟨_,z⟩
    ·rw[z1];refine vv.imp id λ⟨y1,y2⟩=>⟨y1,?_⟩;have:(!Fe (rows.zip w))=true:=z2 y2;simpa using this
    ·simp only[Bool.false_eq_true,if_false] at z;exact .inl (by grind)
   rw[b2] at aa;generalize evl (Fw ks ps) (rows.zip w)=L at *;generalize ((cfs (rows.zip w) n:Int):Rat)=a at *;have e1:L+v*a=((-L / a)-v)*(-a):=by grind
   rw[e1]
   rcases aa with k | k
   ·exact .inl (Gx (by grind) (by grind))
   ·exact .inr ⟨by rw[<- k.1];grind,k.2⟩
 ·have:=hso w (e7.mpr (.inl ⟨hw,c⟩))
  rw[jI H] at this;rw[c,show ((0:Int):Rat)=0 from rfl];have e:evl (Fw ks ps) (rows.zip w)+v*0=evl (Fw ks ps) (rows.zip w):=by grind
  rw[e];exact this
 ·obtain⟨_,b2⟩:=bo w hw (by omega);have cr:(0:Rat)<((cfs (rows.zip w) n:Int):Rat):=dA c;have hm:cnd nm rows ks ps n w∈((E5 rows ns).filter λw=>decide (0<cfs (rows.zip w) n)).map (cnd nm rows ks ps n):=FC.mpr ⟨w,FI.mpr ⟨hw,by simpa using c⟩,rfl⟩
  cases hlo:lo.1 with
  | none=>rw[T1.nn hlo] at hm;cases hm
  | some p =>
   have vv:=v1 p hlo
   have aa:Fa (cnd nm rows ks ps n w).1<v\/(Fa (cnd nm rows ks ps n w).1=v/\Fe (rows.zip w)=false):=by
    rcases(T1.so p hlo).2.2 _ hm with⟨z1,z2⟩ | ⟨_,z⟩
    ·rw[z1];refine vv.imp id λ⟨y1,y2⟩=>⟨y1,?_⟩;have:(!Fe (rows.zip w))=true:=z2 y2;simpa using this
    ·simp only[if_true] at z;exact .inl (by grind)
   rw[b2] at aa;generalize evl (Fw ks ps) (rows.zip w)=L at *;generalize ((cfs (rows.zip w) n:Int):Rat)=a at *;have e1:L+v*a=(v-(-L / a))*a:=by grind
   rw[e1]
   rcases aa with k | k
   ·exact .inl (Gx (by grind) (by grind))
   ·exact .inr ⟨by rw[<- k.1];grind,k.2⟩
def fbk(nm:Zb)(rows:List Rw):Zb->Zb->Za->Za
 | [],_,ps=>ps
 | n::ns,ks,ps=>fbk nm rows ns (ks++[n]) (ps++[nmb (pcs nm rows ks ps n (E5 rows ns)).1.1 (pcs nm rows ks ps n (E5 rows ns)).2.1])
theorem pz{α:Type}{k:Str}{v:α}:∀ {ks:Zb} {ps:List α},ps.length=ks.length->n∉ks->dAt (ks++[n]) (ps++[v]) k=if k=n then some v else dAt ks ps k
 | [],[],_,_=>by
  show (if n=k then some v else dAt [] [] k)=if k=n then some v else none
  by_cases e:n=k
  ·rw[FP e,FP e.symm]
  ·rw[FN e,FN λz=>e z.symm];rfl
 | x::ks,p::ps,h,hn=>by
  rw[FJ,not_or] at hn;show (if x=k then some p else dAt (ks++[n]) (ps++[v]) k)=_;rw[pz (by simpa using h) hn.2]
  by_cases e:x=k
  ·rw[FP e,FN λz=>hn.1 (z.symm.trans e.symm)];show _=if x=k then some p else dAt ks ps k;rw[FP e]
  ·rw[FN e];show _=if k=n then some v else if x=k then some p else dAt ks ps k;rw[FN e]
theorem rq{k:Str}{v:Int×Int}(h:ps.length=ks.length)(hn:n∉ks):re (ks++[n]) (ps++[v]) k=if k=n then v else re ks ps k:=by
 unfold re;rw[pz h hn]
 by_cases e:k=n
 ·rw[FP e,FP e];rfl
 ·rw[FN e,FN e]
theorem wo{v:Int×Int}(h:ps.length=ks.length)(hn:n∉ks):Fw (ks++[n]) (ps++[v])=kZ (Fw ks ps) n (Fa v):=by
 funext k
 unfold Fw kZ;rw[rq h hn]
 by_cases e:k=n
 ·rw[FP e,FP e]
 ·rw[FN e,FN e]
theorem wu(h:n∉ks):re ks ps n=(0,1):=by
 unfold re;rw[nC h];rfl
theorem rT(h:n∉ks):Fw ks ps n=0:=by
 unfold Fw Fa;rw[wu h,show ((((0,1):Int×Int).1:Int):Rat)=0 from rfl];grind
theorem wU(H:Ft nm rows):∀(ns ks:Zb) (ps:Za),ps.length=ks.length->(∀p∈ps,Fn p.1 p.2)->(ks++ns).Nodup->(∀n∈nm,n∈ks\/n∈ns)->(∀w∈E5 rows ns,Fi (Fw ks ps) (ET nm rows w)) ->
  (fbk nm rows ns ks ps).length=(ks++ns).length/\(∀p∈fbk nm rows ns ks ps,Fn p.1 p.2)/\ps <+: fbk nm rows ns ks ps/\∀w∈E5 rows [],Fi (Fw (ks++ns) (fbk nm rows ns ks ps)) (ET nm rows w)
 | [],ks,ps,hl,lo,nd,hm,hs=>by
  rw[Gj];exact⟨hl,lo,List.prefix_refl _,hs⟩
 | n::ns,ks,ps,hl,lo,nd,hm,hs=>by
  have nd':(ks++[n]++ns).Nodup:=by simpa using nd
  have hn:n∉ks:=λz=>by
   have:=(List.nodup_append.mp nd).2.2 n z n (FD ..)
   exact this rfl
  have hp:∀w∈E5 rows ns,∀t∈(ET nm rows w).2.1,t.1≠n->0<pB ks ps t.1:=λw hw t ht hne=>by
   obtain⟨h1,h2,_⟩:=ir ht;have:t.1∈ks:=by
    rcases hm t.1 h1 with z | z
    ·exact z
    ·rcases FJ.mp z with z | z
     ·exact absurd z hne
     ·exact absurd ((ca hw).2 _ z) h2
   have P:Pt ks ps (ps.foldl (λa p=>a+Builtin.Int.intBits p.1+Builtin.Int.intBits p.2) 0):=⟨hl,lo,λp hp=>?_,λp hp=>?_⟩
   ·exact P.pos this
   ·exact(bits_fold ps 0 p hp).1
   ·exact(bits_fold ps 0 p hp).2
  obtain⟨b1,b2⟩:=back H hs (rT hn) hp
  obtain⟨c1,c2,c3,c4⟩:=wU H ns (ks++[n]) (ps++[_]) (by simp[hl]) (λp hp=>(FV.mp hp).elim (lo p) λz=>by rw[F1.mp z];exact b1) nd' (λk hk=>by
   rcases hm k hk with z | z
   ·exact .inl (F4 _ z)
   ·rcases FJ.mp z with z | z
    ·exact .inl (FR _ (F1.mpr z))
    ·exact .inr z) (λw hw=>by rw[wo hl hn];exact b2 w hw)
  have e:ks++n::ns=ks++[n]++ns:=by simp
  rw[e];exact⟨c1,c2,(List.prefix_append ..).trans c3,c4⟩
where
 bits_fold:∀(l:Za) (a:Nat),∀p∈l,Builtin.Int.intBits p.1<=l.foldl (λa p=>a+Builtin.Int.intBits p.1+Builtin.Int.intBits p.2) a/\Builtin.Int.intBits p.2<=l.foldl (λa p=>a+Builtin.Int.intBits p.1+Builtin.Int.intBits p.2) a
  | q::l,a,p,h=>by
   rw[HL];have mono:∀(l:Za) (a:Nat),a<=l.foldl (λa p=>a+Builtin.Int.intBits p.1+Builtin.Int.intBits p.2) a:=λl=>by
    induction l with
    | nil=>intro a;exact FH a
    | cons q l ih=>intro a;rw[HL];exact FB (by omega) (ih _)
   rcases FJ.mp h with rfl | h
   ·have:=mono l (a+Builtin.Int.intBits p.1+Builtin.Int.intBits p.2)
    omega
   ·exact bits_fold l _ p h
theorem ko(H:Ft nm rows){j:Nat}{r:Rw}(hj:rows[j]?=some r):ET nm rows (unW rows.length j)=r:=by
 have hr:=FM hj
 have ab:j<rows.length:=(List.getElem?_eq_some_iff.mp hj).1
 have z:∀ {i:Nat} {rs:List Rw} (k:Nat),k+rs.length<=i->∀n,cfs (rs.zip ((List.range' k rs.length).map λx=>if x=i then (1:Int) else 0)) n=0/\bds (rs.zip ((List.range' k rs.length).map λx=>if x=i then (1:Int) else 0))=0/\Fe (rs.zip ((List.range' k rs.length).map λx=>if x=i then (1:Int) else 0))=false:=λ{i rs}=>by
  induction rs with
  | nil=>intro k _ n;exact⟨rfl,rfl,rfl⟩
  | cons a rs ih =>
   intro k hk n;rw[FL] at hk;obtain⟨i1,i2,i3⟩:=ih (k+1) (by omega) n;rw[FL,List.range'_succ,F7,FN (by omega)];refine⟨?_,?_,?_⟩
   ·show 0*cf a.2.1 n+cfs (rs.zip _) n=0
    rw[i1];omega
   ·show 0*a.2.2+bds (rs.zip _)=0
    rw[i2];omega
   ·show ((isM a.1&&decide ((0:Int)<0))||Fe (rs.zip _))=false
    rw[i3];simp
 have z2:∀ {i:Nat} {rs:List Rw} (k:Nat),i<k->∀n,cfs (rs.zip ((List.range' k rs.length).map λx=>if x=i then (1:Int) else 0)) n=0/\bds (rs.zip ((List.range' k rs.length).map λx=>if x=i then (1:Int) else 0))=0/\Fe (rs.zip ((List.range' k rs.length).map λx=>if x=i then (1:Int) else 0))=false:=λ{i rs}=>by
  induction rs with
  | nil=>intro k _ n;exact⟨rfl,rfl,rfl⟩
  | cons a rs ih =>
   intro k hk n;obtain⟨i1,i2,i3⟩:=ih (k+1) (by omega) n;rw[FL,List.range'_succ,F7,FN (by omega)];refine⟨?_,?_,?_⟩
   ·show 0*cf a.2.1 n+cfs (rs.zip _) n=0
    rw[i1];omega
   ·show 0*a.2.2+bds (rs.zip _)=0
    rw[i2];omega
   ·show ((isM a.1&&decide ((0:Int)<0))||Fe (rs.zip _))=false
    rw[i3];simp
 have aa:∀ {rs:List Rw} (k i:Nat),rs[i]?=some r->∀n,cfs (rs.zip ((List.range' k rs.length).map λx=>if x=k+i then (1:Int) else 0)) n=cf r.2.1 n/\bds (rs.zip ((List.range' k rs.length).map λx=>if x=k+i then (1:Int) else 0))=r.2.2/\Fe (rs.zip ((List.range' k rs.length).map λx=>if x=k+i then (1:Int) else 0))=isM r.1:=λ{rs}=>by
  induction rs with
  | nil=>intro k i h;cases h
  | cons a rs ih =>
   intro k i h n;rw[FL,List.range'_succ,F7]
   cases i with
   | zero =>
    cases h
    obtain⟨i1,i2,i3⟩:=z2 (i:=k) (rs:=rs) (k+1) (by omega) n;rw[FP (by omega)];refine⟨?_,?_,?_⟩
    ·show 1*cf r.2.1 n+cfs (rs.zip _) n=_
     rw[Nat.add_zero,i1];omega
    ·show 1*r.2.2+bds (rs.zip _)=_
     rw[Nat.add_zero,i2];omega
    ·show ((isM r.1&&decide ((0:Int)<1))||Fe (rs.zip _))=_
     rw[Nat.add_zero,i3];simp
   | succ i =>
    obtain⟨i1,i2,i3⟩:=ih (k+1) i h n;rw[FN (by omega),show k+(i+1)=k+1+i by omega];refine⟨?_,?_,?_⟩
    ·show 0*cf a.2.1 n+cfs (rs.zip _) n=_
     rw[i1];omega
    ·show 0*a.2.2+bds (rs.zip _)=_
     rw[i2];omega
    ·show ((isM a.1&&decide ((0:Int)<0))||Fe (rs.zip _))=_
     rw[i3];simp
 have k0:=aa (rs:=rows) 0 j hj
 have e:unW rows.length j=(List.range' 0 rows.length).map λx=>if x=0+j then (1:Int) else 0:=by unfold unW;rw[List.range_eq_range',Nat.zero_add]
 rw[<- e] at k0;have f1:(λn=>cfs (rows.zip (unW rows.length j)) n)=cf r.2.1:=funext λn=>(k0 n).1;have s1:=H.smT (unW rows.length j);unfold ET;have t1:Mf.smT nm (Mf.cfs (rows.zip (unW rows.length j)))=r.2.1:=by
  have f2:Mf.cfs (rows.zip (unW rows.length j))=cf r.2.1:=f1
  rw[f2] at s1 ⊢;exact s1.uniq (H.sum r hr)
 rw[t1,(k0 "").2.1,(k0 "").2.2];obtain⟨k,ts,b⟩:=r
 cases k<;>rfl
end Mf
namespace Mf
open PySem L2 DL
variable {n:Str} {c:Nat} {rows:List Rw}
abbrev ib(x:Int):Nat:=Builtin.Int.intBits x
def wb(B m:Nat):Nat->Nat
 | 0=>1
 | k+1=>2*wb B m k+B+m+1
def cb(B m k:Nat):Nat:=wb B m k+B+m
structure RwB(B:Nat)(rows:List Rw):Prop where
 tm:∀r∈rows,∀t∈r.2.1,ib t.2<=B
 bd:∀r∈rows,ib r.2.2<=B
theorem ib0:ib 0=0:=by decide
theorem zE{ts:List (Str×Int)}{B:Nat}(nd:(ts.map (·.1)).Nodup)(h:∀t∈ts,ib t.2<=B):ib (cf ts n)<=B:=by
 by_cases e:n∈ts.map (·.1)
 ·obtain⟨t,ht,rfl⟩:=FC.mp e;rw[lE nd ht];exact h t ht
 ·rw[gN e,ib0];exact GN _
theorem pO{B W:Nat}{n:Str}:∀ {l:List (Rw×Int)},(∀p∈l,ib (cf p.1.2.1 n)<=B/\ib p.2<=W)->ib (cfs l n)<=W+B+l.length
 | [],_=>by show ib 0<=_;rw[ib0];omega
 | p::r,h=>by
  have h1:=h p (FD ..)
  have:=G0 (F8 h1.2 h1.1) (pO (B:=B) (W:=W) (n:=n) λq hq=>h q (Fz _ hq))
  show ib (p.2*cf p.1.2.1 n+cfs r n)<=_
  rw[FL];unfold ib;omega
theorem n9{B W:Nat}:∀ {l:List (Rw×Int)},(∀p∈l,ib p.1.2.2<=B/\ib p.2<=W)->ib (bds l)<=W+B+l.length
 | [],_=>by show ib 0<=_;rw[ib0];omega
 | p::r,h=>by
  have h1:=h p (FD ..)
  have:=G0 (F8 h1.2 h1.1) (n9 (B:=B) (W:=W) λq hq=>h q (Fz _ hq))
  show ib (p.2*p.1.2.2+bds r)<=_
  rw[FL];unfold ib;omega
section
variable {nm:Zb} {rows:List Rw} {B:Nat}
theorem Ft.cfb(H:Ft nm rows)(hb:RwB B rows){w:Ze}{W:Nat}(hw:∀a∈w,ib a<=W)(n:Str):ib (Mf.cfs (rows.zip w) n)<=W+B+rows.length:=by
 refine FB (pO (B:=B) (W:=W) λp hp=>⟨zE (H.sum _ (Gk hp).1).nd (hb.tm _ (Gk hp).1),hw _ (Gk hp).2⟩) ?_;rw[GV];omega
theorem Ft.bdb(hb:RwB B rows){w:Ze}{W:Nat}(hw:∀a∈w,ib a<=W):ib (Mf.bds (rows.zip w))<=W+B+rows.length:=by
 refine FB (n9 (B:=B) (W:=W) λp hp=>⟨hb.bd _ (Gk hp).1,hw _ (Gk hp).2⟩) ?_;rw[GV];omega
theorem uw{a b:Int}{W C:Nat}(ha:ib a<=C)(hb:ib b<=C):∀ {l h:Ze},(∀x∈l,ib x<=W)->(∀x∈h,ib x<=W)->∀x∈List.zipWith (λx y=>x*a+y*b) l h,ib x<=W+C+1
 | [],_,_,_,x,hx=>by simp at hx
 | _::_,[],_,_,x,hx=>by simp at hx
 | u::l,v::h,h1,h2,x,hx=>by
  rw[HP] at hx
  rcases FJ.mp hx with rfl | hx
  ·have:=G0 (F8 (h1 u (FD ..)) ha) (F8 (h2 v (FD ..)) hb)
   unfold ib;omega
  ·exact uw ha hb (λx hx=>h1 x (Fz _ hx)) (λx hx=>h2 x (Fz _ hx)) x hx
theorem uO{B m k:Nat}:wb B m k<=wb B m (k+1):=by
 show wb B m k<=2*wb B m k+B+m+1
 omega
theorem kS(H:Ft nm rows)(hb:RwB B rows){l h:Ze}{k:Nat}(hl:∀a∈l,ib a<=wb B rows.length k)(hh:∀a∈h,ib a<=wb B rows.length k):∀a∈crS rows n l h,ib a<=wb B rows.length (k+1):=λa ha=>by
 have:=uw (C:=cb B rows.length k) (GS (H.cfb hb hh n)) (H.cfb hb hl n) hl hh a ha
 show ib a<=2*wb B rows.length k+B+rows.length+1
 unfold cb at this;omega
theorem dl(H:Ft nm rows)(hb:RwB B rows):∀ {ns:Zb} {w:Ze},w∈E5 rows ns->∀a∈w,ib a<=wb B rows.length ns.length
 | [],w,h,a,ha=>by
  obtain⟨j,hj,rfl⟩:=FC.mp h;obtain⟨i,_,rfl⟩:=FC.mp ha;show ib _<=1
  split<;>decide
 | n::ns,w,h,a,ha=>by
  rw[FL]
  rcases e7.mp h with⟨h1,h2⟩ | ⟨l,hl,cl,k,hk,ck,rfl,_⟩
  ·exact FB (dl H hb h1 a ha) uO
  ·obtain⟨b,aa,rfl⟩:=FC.mp ha;exact GA (kS H hb (dl H hb hl) (dl H hb hk) b aa)
end
theorem zab{z a b:Nat}(h1:z+a+b<=c)(h4:4<=c):z+a*b<=c*c / 4:=by
 refine(HY (by decide)).mpr ?_;have e1:4*(a*b)<=(a+b)*(a+b):=by
  have:(a+b)*(a+b)=a*a+2*(a*b)+b*b:=by rw[Nat.add_mul,HU,HU,Ii b a];omega
  rcases Nat.le_total a b with q | q
  ·obtain⟨d,rfl⟩:=HM q;have e:(a+d)*(a+d)=a*a+2*(a*d)+d*d:=by rw[Nat.add_mul,HU,HU,Ii d a];omega
   have e':a*(a+d)=a*a+a*d:=HU ..
   omega
  ·obtain⟨d,rfl⟩:=HM q;have e:(b+d)*(b+d)=b*b+2*(b*d)+d*d:=by rw[Nat.add_mul,HU,HU,Ii d b];omega
   have e':(b+d)*b=b*b+b*d:=by rw[Nat.add_mul,Ii d b]
   omega
 have e2:(a+b)*(a+b)+4*z<=c*c:=by
  obtain⟨t,ht⟩:=HM (show a+b+z<=c by omega);have hs:c*c=(a+b)*(a+b)+(z+t)*(a+b+c):=by
   have:c=(a+b)+(z+t):=by omega
   generalize hx:a+b=x at *
   generalize hy:z+t=y at *
   subst this
   grind
  rw[hs];have:(z+t)*(a+b+c) ≥ z*4:=Nat.mul_le_mul (by omega) (by omega);omega
 omega
theorem cnt3{rows:List Rw}{n:Str}:∀W:List (List Int),(W.filter λw=>decide (cfs (rows.zip w) n=0)).length+(W.filter λw=>decide (0<cfs (rows.zip w) n)).length+(W.filter λw=>decide (cfs (rows.zip w) n<0)).length=W.length
 | []=>rfl
 | w::W=>by
  have ih:=cnt3 (rows:=rows) (n:=n) W
  rcases Int.lt_trichotomy (cfs (rows.zip w) n) 0 with q | q | q
  ·rw[F0 (by simp;omega),F0 (by simp;omega),Gc (by simpa using q),FL,FL];omega
  ·rw[Gc (by simpa using q),F0 (by simp;omega),F0 (by simp;omega),FL,FL];omega
  ·rw[F0 (by simp;omega),Gc (by simpa using q),F0 (by simp;omega),FL,FL];omega
theorem kg{rows:List Rw}{n:Str}{most:Nat}(R:List (List Int)):∀L:List (List Int),(L.flatMap λl=>(R.map (crW rows n l)).filter λu=>decide (usd u<=most)).length<=L.length*R.length
 | []=>by simp
 | l::L=>by
  have ih:=kg (rows:=rows) (n:=n) (most:=most) R L
  rw[List.flatMap_cons,FF,FL,Nat.succ_mul];have:=Gm (λu=>decide (usd u<=most)) (R.map (crW rows n l));rw[Fy] at this;omega
theorem v5{most:Nat}{W:List (List Int)}(h:W.length<=c)(h4:4<=c):(woW rows n most W).length<=c*c / 4:=by
 unfold woW;rw[FF];have h1:=cnt3 (rows:=rows) (n:=n) W;have h2:=kg (rows:=rows) (n:=n) (most:=most) (W.filter λw=>decide (cfs (rows.zip w) n<0)) (W.filter λw=>decide (0<cfs (rows.zip w) n));exact FB (Nat.add_le_add_left h2 _) (zab (by omega) h4)
def cnt:Nat->Nat->Nat
 | c,0=>c
 | c,k+1=>cnt c k*cnt c k / 4
theorem nI(h:rows.length<=c)(h4:4<=c):∀ns:Zb,(E5 rows ns).length<=cnt c ns.length/\4<=cnt c ns.length
 | []=>⟨by show (uW rows.length).length<=c;unfold uW;rw[Fy,G2];exact h,h4⟩
 | n::ns=>by
  obtain⟨h1,h2⟩:=nI h h4 ns;refine⟨v5 h1 h2,?_⟩;show 4<=cnt c ns.length*cnt c ns.length / 4;refine(HY (by decide)).mpr ?_;exact Nat.mul_le_mul h2 h2
theorem zk{p q N z:Int}(h:Fn p q)(e:((N:Int):Rat)*Fa (p,q)=(z:Int)):q ∣ N:=by
 have hq:=eA h.ne
 have e2:((N*p:Int):Rat)=((z*q:Int):Rat):=by
  rw[FW,FW,<- e];show _=((N:Int):Rat)*(((p:Int):Rat) / ((q:Int):Rat))*_
  grind
 have e3:N*p=z*q:=HK.mp e2
 have d:q ∣ p*N:=⟨z,by rw[GG p,e3,GG]⟩
 have g:Int.gcd q p=1:=by rw[Int.gcd_comm];exact h.cop'
 have k:=(Hg (k:=q) (n:=p) (m:=N)).mpr d
 rw[g] at k;simpa using k
theorem fP{a b:Int}{n:Nat}(h:a ∣ b)(h0:b≠0)(hb:ib b<=n):ib a<=n:=intBits_le_of_natAbs (Nat.le_of_dvd (by omega) (Int.natAbs_dvd_natAbs.mpr h)) hb
theorem nX{q:Str->Int}:∀ {l ks:Zb},l.Nodup->(∀n∈l,n∈ks)->bot q l ∣ bot q ks
 | [],ks,_,_=>⟨bot q ks,(Int.one_mul _).symm⟩
 | n::l,ks,nd,h=>by
  obtain⟨h1,h2⟩:=Gz.mp nd;have hn:=h n (FD ..);have e:bot q ks=q n*bot q (ks.erase n):=vx (List.perm_cons_erase hn);have:=nX (q:=q) (l:=l) (ks:=ks.erase n) h2 λk hk=>(List.mem_erase_of_ne (λ(z:k=n)=>h1 (z ▸ hk))).mpr (h k (Fz _ hk));rw[e];exact Int.mul_dvd_mul (Int.dvd_refl _) this
theorem jx{f:Str->Int}{c m:Nat}:∀ {ts:List (Str×Int)},(∀t∈ts,ib t.2<=c/\ib (f t.1)<=m)->ib (ek f ts)<=c+m+ts.length
 | [],_=>by show ib 0<=_;rw[ib0];omega
 | t::r,h=>by
  have h1:=h t (FD ..)
  have h2:=G0 (F8 h1.1 h1.2) (jx (c:=c) (m:=m) λu hu=>h u (Fz _ hu))
  show ib (t.2*f t.1+ek f r)<=_
  rw[FL];unfold ib;omega
structure BF(L:Int)(c g κ T:Nat)(p:Int×Int):Prop where
 low:Fn p.1 p.2
 bb:ib p.2<=c+g
 tb:ib p.1<=c+T+κ+70
 wh:∃N z:Int,N≠0/\ib N<=c/\((N*L:Int):Rat)*Fa p=(z:Int)
theorem vz{ks:Zb}{ps:Za}{r:Rw}{κ g T:Nat}{L:Int}(P:Pt ks ps T)(hκ:ib (bot (pB ks ps) ks)<=κ)(L0:L≠0)(hL:∀k∈ks,pB ks ps k ∣ L)(hg:ib L<=g)(nd:(r.2.1.map (·.1)).Nodup)(hk:ks.length<=60)
  (hp:∀t∈r.2.1,t.1≠n->t.1∈ks) (hc:cf r.2.1 n≠0) (hcb:ib (cf r.2.1 n)<=c) (htb:∀t∈r.2.1,ib t.2<=c) (hbb:ib r.2.2<=c):BF L c g κ T (bnd ks ps n r):=by
 unfold bnd;have ho:∀t∈r.2.1.filter (λt=>decide (t.1≠n)),t.1∈ks/\ib t.2<=c:=λt ht=>by
  obtain⟨h1,h2⟩:=FI.mp ht;exact⟨hp t h1 (by simpa using h2),htb t h1⟩
 have ah:((r.2.1.filter (λt=>decide (t.1≠n))).map (·.1)).Nodup:=nd.sublist (List.filter_sublist.map _)
 generalize ho':r.2.1.filter (λt=>decide (t.1≠n))=o at *
 have aa:∀k∈o.map (·.1),k∈ks:=λk hk=>by
  obtain⟨t,ht,rfl⟩:=FC.mp hk;exact(ho t ht).1
 have al:o.length<=60:=by
  have:=kB ah aa
  rw[Fy] at this;omega
 have hK:0<bot (pB ks ps) (o.map (·.1)):=dr λk hk=>P.pos (aa k hk)
 have an:0<bot (pB ks ps) ks:=dr λk hk=>P.pos hk
 have hd:=nX (q:=pB ks ps) ah aa
 have ab:ib (bot (pB ks ps) (o.map (·.1)))<=κ:=fP hd (by omega) hκ
 have aj:ib (ek (ov (pT ks ps) (pB ks ps) (bot (pB ks ps) (o.map (·.1)))) o)<=c+(T+κ)+o.length:=jx λt ht=>⟨(ho t ht).2,F8 (P.Tb (ho t ht).1) (GA ab)⟩
 have r1:=pA (ks:=ks) (ps:=ps) (K:=bot (pB ks ps) (o.map (·.1))) (ts:=o) λt ht=>⟨P.pos (ho t ht).1,gd (FC.mpr ⟨t,ht,rfl⟩)⟩
 have r2:=pA (ks:=ks) (ps:=ps) (K:=L) (ts:=o) λt ht=>⟨P.pos (ho t ht).1,hL _ (ho t ht).1⟩
 simp only;generalize bot (pB ks ps) (o.map (·.1))=K at *;have ai:cf r.2.1 n*K≠0:=Gu hc (by omega);have lw:=fe (r.2.2*K-ek (ov (pT ks ps) (pB ks ps) K) o) ai;have wh:((cf r.2.1 n*L:Int):Rat)*Fa (Fv (r.2.2*K-ek (ov (pT ks ps) (pB ks ps) K) o) (cf r.2.1 n*K),Fp (r.2.2*K-ek (ov (pT ks ps) (pB ks ps) K) o) (cf r.2.1 n*K))=((r.2.2*L-ek (ov (pT ks ps) (pB ks ps) L) o:Int):Rat):=by
  rw[gY _ ai];have h1:=eA hc;have h2:=eA (show K≠0 by omega);simp only[Rat.intCast_mul,Rat.intCast_sub,r1,r2];generalize c5 (Fw ks ps) o=x at *;generalize ((cf r.2.1 n:Int):Rat)=a at *;generalize ((K:Int):Rat)=b at *;generalize ((L:Int):Rat)=d at *;generalize ((r.2.2:Int):Rat)=e at *
  grind
 refine⟨lw,fP (zk lw wh) (Gu hc L0) (F8 hcb hg),?_,?_⟩
 ·have:=intBits_sub_le (F8 hbb ab) aj
  exact FB (GA this) (by omega)
 ·exact⟨cf r.2.1 n,_,hc,hcb,wh⟩
theorem xo{lo:Bool}{Pr:Int×Int->Prop}{a b:Fs}(ha:∀p,a.1=some p->Pr p)(hb:∀p,b.1=some p->Pr p):∀p,(tgt lo a b).1=some p->Pr p:=by
 obtain⟨a1,a2⟩:=a;obtain⟨b1,b2⟩:=b;intro p h
 cases a1 with
 | none=>exact hb p h
 | some x =>
  cases b1 with
  | none=>exact ha p h
  | some y =>
   have h:(if x=y then ((some x,a2&&b2):Fs) else if decide (y.1*x.2<x.1*y.2)=lo then (some x,a2) else (some y,b2)).1=some p:=h
   split at h
   ·exact ha p h
   ·split at h
    ·exact ha p h
    ·exact hb p h
theorem CU{nm:Zb}{ks:Zb}{ps:Za}{Pr:Int×Int->Prop}:∀ {W:List (List Int)},(∀w∈W,cfs (rows.zip w) n≠0->Pr (cnd nm rows ks ps n w).1)->(∀p,(pcs nm rows ks ps n W).1.1=some p->Pr p)/\∀p,(pcs nm rows ks ps n W).2.1=some p->Pr p:=by
  intro W;unfold pcs
  have:∀(W:List (List Int)) (e:Fs×Fs),(∀w∈W,cfs (rows.zip w) n≠0->Pr (cnd nm rows ks ps n w).1)->(∀p,e.1.1=some p->Pr p)->(∀p,e.2.1=some p->Pr p)->(∀p,(W.foldl (λe w =>
    (if 0<cfs (rows.zip w) n then tgt true e.1 (some (cnd nm rows ks ps n w).1,(cnd nm rows ks ps n w).2) else e.1,
     if cfs (rows.zip w) n<0 then tgt false e.2 (some (cnd nm rows ks ps n w).1,(cnd nm rows ks ps n w).2) else e.2)) e).1.1=some p->Pr p)/\∀p,(W.foldl (λe w =>
    (if 0<cfs (rows.zip w) n then tgt true e.1 (some (cnd nm rows ks ps n w).1,(cnd nm rows ks ps n w).2) else e.1,
     if cfs (rows.zip w) n<0 then tgt false e.2 (some (cnd nm rows ks ps n w).1,(cnd nm rows ks ps n w).2) else e.2)) e).2.1=some p->Pr p:=λW=>by
    induction W with
    | nil=>intro e _ h1 h2;exact⟨h1,h2⟩
    | cons w W ih =>
      intro e h h1 h2;rw[HL];refine ih _ (λw hw=>h w (Fz _ hw)) ?_ ?_
      · show ∀p,(if 0<cfs (rows.zip w) n then tgt true e.1 (some (cnd nm rows ks ps n w).1,(cnd nm rows ks ps n w).2) else e.1).1=some p->Pr p
        by_cases q:0<cfs (rows.zip w) n
        · rw[FP q];exact xo h1 λp hp=>by cases hp;exact h w (FD ..) (by omega)
        · rw[FN q];exact h1
      · show ∀p,(if cfs (rows.zip w) n<0 then tgt false e.2 (some (cnd nm rows ks ps n w).1,(cnd nm rows ks ps n w).2) else e.2).1=some p->Pr p
        by_cases q:cfs (rows.zip w) n<0
        · rw[FP q];exact xo h2 λp hp=>by cases hp;exact h w (FD ..) (by omega)
        · rw[FN q];exact h2
  exact λh=>this W _ h (λp hp=>nomatch hp) λp hp=>nomatch hp
end Mf
namespace Mf
open PySem L2 DL
variable {x:Rat} {a b:Fs} {nm ks:Zb} {rows:List Rw} {ps:Za} {n:Str}
inductive Cu where
 | bot | at (x:Rat) (b:Bool) | top
def Cu.lt:Cu->Cu->Prop
 | .bot,.bot=>False
 | .bot,_=>True
 | .at x b,.at y c=>x<y\/(x=y/\b=false/\c=true)
 | .at _ _,.top=>True
 | _,_=>False
theorem Cu.irr(a:Cu):¬ Cu.lt a a:=by cases a<;>simp[Cu.lt]
theorem Cu.trans{a b c:Cu}(h:Cu.lt a b)(h':Cu.lt b c):Cu.lt a c:=by
 cases a<;>cases b<;>cases c<;>simp[Cu.lt] at *<;>grind
theorem Cu.tot(a b:Cu):Cu.lt a b\/a=b\/Cu.lt b a:=by
 cases a<;>cases b<;>simp[Cu.lt]
 grind
instance:LT Cu:=⟨Cu.lt⟩
instance:LE Cu:=⟨λa b=>¬ Cu.lt b a⟩
instance:Std.IsLinearOrder Cu where
 le_refl a:=Cu.irr a
 le_trans a b c h h':=λz=>by
  rcases Cu.tot a b with k | k | k
  ·exact h' (Cu.trans z k)
  ·subst k;exact h' z
  ·exact h k
 le_antisymm a b h h':=by
  rcases Cu.tot a b with k | k | k
  ·exact absurd k h'
  ·exact k
  ·exact absurd k h
 le_total a b:=by
  rcases Cu.tot a b with k | k | k
  ·exact .inl λz=>Cu.irr _ (Cu.trans k z)
  ·subst k;exact .inl (Cu.irr _)
  ·exact .inr λz=>Cu.irr _ (Cu.trans k z)
instance:Std.LawfulOrderLT Cu where
 lt_iff _ _:=⟨λh=>⟨λz=>Cu.irr _ (Cu.trans h z),λz=>z h⟩,λ⟨_,h⟩=>Classical.not_not.mp h⟩
theorem dJ{y:Rat}{b c:Bool}:Cu.at x b<Cu.at y c↔x<y\/(x=y/\b=false/\c=true):=Iff.rfl
theorem cC{c:Cu}:¬ c<Cu.bot:=by cases c<;>exact λz=>z
theorem d5{c:Cu}:¬ Cu.top<c:=by cases c<;>exact λz=>z
abbrev Pc:=Fs×Fs
def cl(e:Fs):Cu:=match e.1 with | none=>.bot | some p=>.at (Fa p) (!e.2)
def ch(e:Fs):Cu:=match e.1 with | none=>.top | some p=>.at (Fa p) e.2
def wid(lo:Bool)(a b:Fs):Fs:=match a.1,b.1 with
 | none,_=>(none,false)
 | some _,none=>(none,false)
 | some p,some q=>if p=q then (some p,a.2||b.2) else if decide (p.1*q.2<q.1*p.2)=lo then a else b
def EY(a b:Pc):Bool:=match a.2.1,b.1.1 with
 | none,_=>false
 | some _,none=>false
 | some p,some q=>if p=q then !a.2.2 && !b.1.2 else decide (p.1*q.2<q.1*p.2)
structure k7(S:Int×Int->Prop)(e:Fs):Prop where
 low:∀p,e.1=some p->Fn p.1 p.2/\S p
 no:e.1=none->e.2=false
structure gL(S:Int×Int->Prop)(p:Pc):Prop where
 l:k7 S p.1
 h:k7 S p.2
 ne:cl p.1<ch p.2
def inP(p:Pc)(x:Rat):Prop:=¬ Cu.at x false<cl p.1/\Cu.at x false<ch p.2
theorem En.none{S:Int×Int->Prop}:k7 S (none,false):=⟨λ_ h=>(nomatch h),λ_=>rfl⟩
theorem xA{S:Int×Int->Prop}{lo:Bool}(ha:k7 S a)(hb:k7 S b):k7 S (wid lo a b):=by
 obtain⟨a,x⟩:=a;obtain⟨b,y⟩:=b
 cases a with
 | none=>exact En.none
 | some p=>cases b with
  | none=>exact En.none
  | some q =>
   unfold wid;simp only
   by_cases e:p=q
   ·rw[FP e];exact⟨λr h=>ha.low r h,λh=>(nomatch h)⟩
   ·rw[FN e]
    split
    ·exact ha
    ·exact hb
theorem Cy{S:Int×Int->Prop}(ha:k7 S a)(hb:k7 S b)(c:Cu):c<cl (wid true a b)↔c<cl a/\c<cl b:=by
 obtain⟨a,x⟩:=a;obtain⟨b,y⟩:=b
 cases a with
 | none=>exact⟨λz=>absurd z cC,λz=>absurd z.1 cC⟩
 | some p=>cases b with
  | none=>exact⟨λz=>absurd z cC,λz=>absurd z.2 cC⟩
  | some q =>
   have lp:=(ha.low p rfl).1
   have lq:=(hb.low q rfl).1
   have f:=dk lp.pos lq.pos
   have g:=cY lp lq
   unfold wid cl;simp only
   by_cases e:p=q
   ·subst e;rw[FP rfl]
    cases c with
    | bot=>exact⟨λ_=>⟨trivial,trivial⟩,λ_=>trivial⟩
    | top=>exact⟨λz=>absurd z d5,λz=>absurd z.1 d5⟩
    | «at» u v=>simp only[dJ];cases x<;>cases y<;>simp<;>grind
   ·rw[FN e];have ne:Fa p≠Fa q:=λz=>e (g z)
    by_cases l:p.1*q.2<q.1*p.2
    ·rw[FP (F6 l)];have:=f.mpr l
     cases c with
     | bot=>exact⟨λ_=>⟨trivial,trivial⟩,λ_=>trivial⟩
     | top=>exact⟨λz=>absurd z d5,λz=>absurd z.1 d5⟩
     | «at» u v=>simp only[dJ];grind
    ·rw[FN (by simpa using l)];have:=mt f.mp l
     cases c with
     | bot=>exact⟨λ_=>⟨trivial,trivial⟩,λ_=>trivial⟩
     | top=>exact⟨λz=>absurd z d5,λz=>absurd z.1 d5⟩
     | «at» u v=>simp only[dJ];grind
theorem Bk{S:Int×Int->Prop}(ha:k7 S a)(hb:k7 S b)(c:Cu):ch (wid false a b)<c↔ch a<c/\ch b<c:=by
 obtain⟨a,x⟩:=a;obtain⟨b,y⟩:=b
 cases a with
 | none=>exact⟨λz=>absurd z d5,λz=>absurd z.1 d5⟩
 | some p=>cases b with
  | none=>exact⟨λz=>absurd z d5,λz=>absurd z.2 d5⟩
  | some q =>
   have lp:=(ha.low p rfl).1
   have lq:=(hb.low q rfl).1
   have f:=dk lp.pos lq.pos
   have g:=cY lp lq
   unfold wid ch;simp only
   by_cases e:p=q
   ·subst e;rw[FP rfl]
    cases c with
    | top=>exact⟨λ_=>⟨trivial,trivial⟩,λ_=>trivial⟩
    | bot=>exact⟨λz=>absurd z cC,λz=>absurd z.1 cC⟩
    | «at» u v=>simp only[dJ];cases x<;>cases y<;>simp<;>grind
   ·rw[FN e];have ne:Fa p≠Fa q:=λz=>e (g z)
    by_cases l:p.1*q.2<q.1*p.2
    ·rw[FN (by simpa using l)];have:=f.mpr l
     cases c with
     | top=>exact⟨λ_=>⟨trivial,trivial⟩,λ_=>trivial⟩
     | bot=>exact⟨λz=>absurd z cC,λz=>absurd z.1 cC⟩
     | «at» u v=>simp only[dJ];grind
    ·rw[FP (by simpa using l)];have:=mt f.mp l
     cases c with
     | top=>exact⟨λ_=>⟨trivial,trivial⟩,λ_=>trivial⟩
     | bot=>exact⟨λz=>absurd z cC,λz=>absurd z.1 cC⟩
     | «at» u v=>simp only[dJ];grind
theorem gO{S:Int×Int->Prop}{a b:Pc}(ha:k7 S a.2)(hb:k7 S b.1):EY a b=true↔ch a.2<cl b.1:=by
 obtain⟨a0,a,x⟩:=a;obtain⟨⟨b,y⟩,b0⟩:=b
 cases a with
 | none=>exact⟨λz=>(nomatch z),λz=>absurd z d5⟩
 | some p=>cases b with
  | none=>exact⟨λz=>(nomatch z),λz=>absurd z cC⟩
  | some q =>
   have lp:=(ha.low p rfl).1
   have lq:=(hb.low q rfl).1
   have f:=dk lp.pos lq.pos
   have g:=cY lp lq
   unfold EY ch cl;simp only[dJ]
   by_cases e:p=q
   ·subst e;rw[FP rfl]
    cases x<;>cases y<;>simp<;>grind
   ·rw[FN e];have ne:Fa p≠Fa q:=λz=>e (g z);simp[ne,f]
def grw(P g h:Pc):Pc:=if EY h P=true then g else if EY P h=true then g else (wid true g.1 h.1,wid false g.2 h.2)
def tf(L:List Pc)(P:Pc):List Pc:=L.filter (λh=>EY h P)++[L.foldl (grw P) P]++L.filter (λh=>!EY h P&&EY P h)
def bfr(a b:Pc):Prop:=ch a.2<cl b.1
theorem uB{α:Type}{R:α->α->Prop}{a b:α}:∀ {l:List α},l.Pairwise R->a∈l->b∈l->R a b\/a=b\/R b a
 | x::l,h,ha,hb=>by
  rw[List.pairwise_cons] at h
  rcases FJ.mp ha with e | ha1
  ·rcases FJ.mp hb with f | hb1
   ·exact .inr (.inl (e.trans f.symm))
   ·rw[e];exact .inl (h.1 b hb1)
  ·rcases FJ.mp hb with f | hb1
   ·rw[f];exact .inr (.inr (h.1 a ha1))
   ·exact uB h.2 ha1 hb1
def tch(P h:Pc):Prop:=¬ ch h.2<cl P.1/\¬ ch P.2<cl h.1
theorem grow{S:Int×Int->Prop}{P:Pc}(hP:gL S P):∀(L:List Pc) (g:Pc),(∀p∈L,gL S p)->gL S g->¬ cl P.1<cl g.1->¬ ch g.2<ch P.2 ->
  gL S (L.foldl (grw P) g)/\(∀c,c<cl (L.foldl (grw P) g).1↔c<cl g.1/\∀h∈L,tch P h->c<cl h.1)/\(∀c,ch (L.foldl (grw P) g).2<c↔ch g.2<c/\∀h∈L,tch P h->ch h.2<c) /\
   ∀x,inP (L.foldl (grw P) g) x↔inP g x\/∃h∈L,tch P h/\inP h x
 | [],g,_,hg,_,_=>⟨hg,by simp,by simp,by simp⟩
 | h::L,g,hL,hg,h1,h2=>by
  have hh:=hL h (by simp)
  have aa:=λp hp=>hL p (Fz _ hp)
  rw[HL];have e1:=gO hh.h hP.l;have e2:=gO hP.h hh.l
  by_cases k1:EY h P=true
  ·have nt:¬ tch P h:=λz=>z.1 (e1.mp k1)
   rw[show grw P g h=g from FP k1];obtain⟨r1,r2,r3,r4⟩:=grow hP L g aa hg h1 h2;refine⟨r1,λc=>?_,λc=>?_,λx=>?_⟩
   ·rw[r2];simp[nt]
   ·rw[r3];simp[nt]
   ·rw[r4];simp[nt]
  ·by_cases k2:EY P h=true
   ·have nt:¬ tch P h:=λz=>z.2 (e2.mp k2)
    rw[show grw P g h=g by unfold grw;rw[FN k1,FP k2]];obtain⟨r1,r2,r3,r4⟩:=grow hP L g aa hg h1 h2;refine⟨r1,λc=>?_,λc=>?_,λx=>?_⟩
    ·rw[r2];simp[nt]
    ·rw[r3];simp[nt]
    ·rw[r4];simp[nt]
   ·have t:tch P h:=⟨λz=>k1 (e1.mpr z),λz=>k2 (e2.mpr z)⟩
    rw[show grw P g h=(wid true g.1 h.1,wid false g.2 h.2) by unfold grw;rw[FN k1,FN k2]];have w1:=Cy hg.l hh.l;have w2:=Bk hg.h hh.h;have ng:=hg.ne;have nh:=hh.ne;obtain⟨t1,t2⟩:=t;have wn:cl (wid true g.1 h.1)<ch (wid false g.2 h.2):=by
     have a:=w1 (cl g.1)
     have b:=w2 (ch g.2)
     grind
    obtain⟨r1,r2,r3,r4⟩:=grow hP L (wid true g.1 h.1,wid false g.2 h.2) aa ⟨xA hg.l hh.l,xA hg.h hh.h,wn⟩
     (λz=>by have:=(w1 _).mp z;grind) (λz=>by have:=(w2 _).mp z;grind)
    refine⟨r1,λc=>?_,λc=>?_,λx=>?_⟩
    ·rw[r2,w1];simp[tch,t1,t2,and_assoc]
    ·rw[r3,w2];simp[tch,t1,t2,and_assoc]
    ·rw[r4];have e:inP (wid true g.1 h.1,wid false g.2 h.2) x↔inP g x\/inP h x:=by
      unfold inP;simp only;have a:=w1 (Cu.at x false);have b:=w2 (Cu.at x false);have b':=w2 (ch g.2);have b2:=w2 (ch h.2)
      grind
     rw[e];simp[tch,t1,t2,or_assoc]
theorem BZ{S:Int×Int->Prop}{L:List Pc}{P:Pc}(hL:∀p∈L,gL S p)(pw:L.Pairwise bfr)(hP:gL S P) :
  (∀p∈tf L P,gL S p)/\(tf L P).Pairwise bfr/\∀x,(∃p∈tf L P,inP p x)↔(∃p∈L,inP p x)\/inP P x:=by
 obtain⟨r1,r2,r3,r4⟩:=grow hP L P hL hP (by grind) (by grind);unfold tf;generalize L.foldl (grw P) P=G at *;have i1:∀ {h},h∈L->(EY h P=true↔ch h.2<cl P.1):=λhh=>gO (hL _ hh).h hP.l;have i2:∀ {h},h∈L->(EY P h=true↔ch P.2<cl h.1):=λhh=>gO hP.h (hL _ hh).l;have np:=hP.ne
 have aa:∀a∈L,ch a.2<cl P.1->bfr a G:=λa ha la=>(r2 _).mpr ⟨la,λh hh t=>by
  have na:=(hL a ha).ne
  have nh:=(hL h hh).ne
  have:=t.1
  rcases uB pw ha hh with k | k | k
  ·exact k
  ·rw[k] at la;exact absurd la t.1
  ·unfold bfr at k;grind⟩
 have ab:∀a∈L,ch P.2<cl a.1->bfr G a:=λa ha la=>(r3 _).mpr ⟨la,λh hh t=>by
  have na:=(hL a ha).ne
  have nh:=(hL h hh).ne
  have:=t.2
  rcases uB pw ha hh with k | k | k
  ·unfold bfr at k;grind
  ·rw[k] at la;exact absurd la t.2
  ·exact k⟩
 refine⟨λp hp=>?_,?_,λx=>?_⟩
 ·simp only[List.mem_append,List.mem_filter,List.mem_singleton] at hp
  rcases hp with(hp | rfl) | hp
  ·exact hL p hp.1
  ·exact r1
  ·exact hL p hp.1
 ·rw[List.pairwise_append,List.pairwise_append];refine⟨⟨pw.filter _,List.pairwise_singleton ..,λa ha b hb=>?_⟩,pw.filter _,λa ha b hb=>?_⟩
  ·obtain⟨ha,la⟩:=FI.mp ha;rw[F1.mp hb];exact aa a ha ((i1 ha).mp la)
  ·obtain⟨hb,lb⟩:=FI.mp hb;simp only[Bool.and_eq_true] at lb;have ah:=(i2 hb).mp lb.2
   rcases FV.mp ha with ha | ha
   ·obtain⟨ha,la⟩:=FI.mp ha;have:=(i1 ha).mp la;unfold bfr;grind
   ·rw[F1.mp ha];exact ab b hb ah
 ·constructor
  ·rintro⟨p,hp,ip⟩;simp only[List.mem_append,List.mem_filter,List.mem_singleton] at hp
   rcases hp with(hp | rfl) | hp
   ·exact .inl ⟨p,hp.1,ip⟩
   ·rcases(r4 x).mp ip with h | ⟨h,hh,_,ih⟩
    ·exact .inr h
    ·exact .inl ⟨h,hh,ih⟩
   ·exact .inl ⟨p,hp.1,ip⟩
  ·rintro(⟨p,hp,ip⟩ | ip)
   ·by_cases k1:EY p P=true
    ·exact⟨p,by simp[hp,k1],ip⟩
    ·by_cases k2:EY P p=true
     ·exact⟨p,by simp[hp,k1,k2],ip⟩
     ·exact⟨G,by simp,(r4 x).mpr (.inr ⟨p,hp,⟨λz=>k1 ((i1 hp).mpr z),λz=>k2 ((i2 hp).mpr z)⟩,ip⟩)⟩
   ·exact⟨G,by simp,(r4 x).mpr (.inl ip)⟩
theorem Tgt.lo_iff{cs:List ((Int×Int)×Bool)}{e:Fs}(T:Tgt true cs e):¬ Cu.at x false<cl e↔∀c∈cs,¬ Cu.at x false<cl (some c.1,c.2):=by
 obtain⟨e,b⟩:=e
 cases e with
 | none=>rw[T.nn rfl];exact⟨λ_ _ h=>(nomatch h),λ_=>cC⟩
 | some p =>
  obtain⟨_,⟨c,hc,e1,e2⟩,all⟩:=T.so p rfl
  constructor
  ·intro h d hd;unfold cl at h ⊢;simp only[dJ] at h ⊢
   rcases all d hd with⟨z1,z2⟩ | ⟨_,z⟩
   ·rw[z1];simp only at z2;grind
   ·simp only[if_true] at z;grind
  ·intro h;have:=h c hc;rw[e1,e2] at this;exact this
theorem Tgt.hi_iff{cs:List ((Int×Int)×Bool)}{e:Fs}(T:Tgt false cs e):Cu.at x false<ch e↔∀c∈cs,Cu.at x false<ch (some c.1,c.2):=by
 obtain⟨e,b⟩:=e
 cases e with
 | none=>rw[T.nn rfl];exact⟨λ_ _ h=>(nomatch h),λ_=>trivial⟩
 | some p =>
  obtain⟨_,⟨c,hc,e1,e2⟩,all⟩:=T.so p rfl
  constructor
  ·intro h d hd;unfold ch at h ⊢;simp only[dJ] at h ⊢
   rcases all d hd with⟨z1,z2⟩ | ⟨_,z⟩
   ·rw[z1];simp only at z2;grind
   ·simp only[Bool.false_eq_true,if_false] at z;grind
  ·intro h;have:=h c hc;rw[e1,e2] at this;exact this
theorem sg{α β:Type}{P:α->Prop}{f:α->β->α}(hf:∀e w,P e->P (f e w)):∀(W:List β) (e:α),P e->P (W.foldl f e)
 | [],_,h=>h
 | w::W,e,h=>sg hf W _ (hf e w h)
theorem CW{W:List (List Int)}:((pcs nm rows ks ps n W).1.1=none->(pcs nm rows ks ps n W).1.2=false)/\((pcs nm rows ks ps n W).2.1=none->(pcs nm rows ks ps n W).2.2=false):=by
 have t:∀(lo:Bool) (e:Fs) (p:Int×Int) (b:Bool),(tgt lo e (some p,b)).1≠none:=λlo e p b=>by
  obtain⟨e,d⟩:=e;unfold tgt
  cases e with
  | none=>exact λz=>(nomatch z)
  | some q =>
   simp only
   split
   ·exact λz=>(nomatch z)
   ·split<;>exact λz=>(nomatch z)
 refine sg (P:=λe:Fs×Fs=>(e.1.1=none->e.1.2=false)/\(e.2.1=none->e.2.2=false)) (λe w h=>?_) W _ ⟨λ_=>rfl,λ_=>rfl⟩;refine⟨?_,?_⟩
 ·simp only
  split
  ·exact λz=>absurd z (t _ _ _ _)
  ·exact h.1
 ·simp only
  split
  ·exact λz=>absurd z (t _ _ _ _)
  ·exact h.2
theorem vp(H:Ft nm rows){w:Ze}(h0:Fw ks ps n=0)(hp:∀t∈(ET nm rows w).2.1,t.1≠n->0<pB ks ps t.1)(hc:cfs (rows.zip w) n≠0) :
  Fn (cnd nm rows ks ps n w).1.1 (cnd nm rows ks ps n w).1.2/\(0<cfs (rows.zip w) n->(Fi (kZ (Fw ks ps) n x) (ET nm rows w)↔¬ Cu.at x false<cl (some (cnd nm rows ks ps n w).1,(cnd nm rows ks ps n w).2))) /\
   (cfs (rows.zip w) n<0->(Fi (kZ (Fw ks ps) n x) (ET nm rows w)↔Cu.at x false<ch (some (cnd nm rows ks ps n w).1,(cnd nm rows ks ps n w).2))):=by
 have:=xr hp h0 (by rw[cR H];exact hc)
 rw[xC H,cR H] at this;have e:Fa (cnd nm rows ks ps n w).1=-(evl (Fw ks ps) (rows.zip w)) / ((cfs (rows.zip w) n:Int):Rat):=this.2;have e2:(cnd nm rows ks ps n w).2=!Fe (rows.zip w):=rfl;have nz:=eA hc;refine⟨this.1,λc=>?_,λc=>?_⟩
 ·have cr:(0:Rat)<((cfs (rows.zip w) n:Int):Rat):=dA c
  rw[jI H,gM h0];unfold cl;simp only[dJ];rw[e,e2];generalize evl (Fw ks ps) (rows.zip w)=L at *;generalize ((cfs (rows.zip w) n:Int):Rat)=a at *;have e1:L+x*a=(x-(-L / a))*a:=by grind
  rw[e1];generalize -L / a=d
  have k1:0<(x-d)*a↔d<x:=⟨λz=>FE λy=>by
   have:=Ga (a:=d-x) (b:=a) (by grind) (by grind)
   grind,λz=>Gx (by grind) cr⟩
  have k2:(x-d)*a=0↔d=x:=⟨λz=>by rcases GD.mp z with z | z<;>grind,λz=>by rw[z];grind⟩
  rw[k1,k2]
  cases Fe (rows.zip w)<;>simp<;>grind
 ·have cr:((cfs (rows.zip w) n:Int):Rat)<0:=by have:=GH.mpr c;simpa using this
  rw[jI H,gM h0];unfold ch;simp only[dJ];rw[e,e2];generalize evl (Fw ks ps) (rows.zip w)=L at *;generalize ((cfs (rows.zip w) n:Int):Rat)=a at *;have e1:L+x*a=((-L / a)-x)*(-a):=by grind
  rw[e1];generalize -L / a=d
  have k1:0<(d-x)*(-a)↔x<d:=⟨λz=>FE λy=>by
   have:=Ga (a:=x-d) (b:=-a) (by grind) (by grind)
   grind,λz=>Gx (by grind) (by grind)⟩
  have k2:(d-x)*(-a)=0↔x=d:=⟨λz=>by rcases GD.mp z with z | z<;>grind,λz=>by rw[z];grind⟩
  rw[k1,k2]
  cases Fe (rows.zip w)<;>simp
theorem C8(H:Ft nm rows){W:List (List Int)}(h0:Fw ks ps n=0)(hp:∀w∈W,∀t∈(ET nm rows w).2.1,t.1≠n->0<pB ks ps t.1){S:Int×Int->Prop}(hS:∀w∈W,cfs (rows.zip w) n≠0->S (cnd nm rows ks ps n w).1) :
  k7 S (pcs nm rows ks ps n W).1/\k7 S (pcs nm rows ks ps n W).2/\∀x,inP (pcs nm rows ks ps n W) x↔∀w∈W,cfs (rows.zip w) n≠0->Fi (kZ (Fw ks ps) n x) (ET nm rows w):=by
 obtain⟨T1,T2⟩:=rE (nm:=nm) (rows:=rows) (ks:=ks) (ps:=ps) (n:=n) W λw hw hc=>(vp (x:=0) H h0 (hp w hw) hc).1;have no:=CW (nm:=nm) (rows:=rows) (ks:=ks) (ps:=ps) (n:=n) (W:=W);refine⟨⟨λp h=>⟨(T1.so p h).1,?_⟩,no.1⟩,⟨λp h=>⟨(T2.so p h).1,?_⟩,no.2⟩,λx=>?_⟩
 ·obtain⟨c,hc,e1,_⟩:=(T1.so p h).2.1;obtain⟨w,hw,rfl⟩:=FC.mp hc;obtain⟨h1,h2⟩:=FI.mp hw;have h2:0<cfs (rows.zip w) n:=Hj h2;rw[<- e1];exact hS w h1 (by omega)
 ·obtain⟨c,hc,e1,_⟩:=(T2.so p h).2.1;obtain⟨w,hw,rfl⟩:=FC.mp hc;obtain⟨h1,h2⟩:=FI.mp hw;have h2:cfs (rows.zip w) n<0:=Hj h2;rw[<- e1];exact hS w h1 (by omega)
 ·unfold inP;rw[T1.lo_iff,T2.hi_iff]
  constructor
  ·rintro⟨a,b⟩ w hw hc;obtain⟨_,k1,k2⟩:=vp (x:=x) H h0 (hp w hw) hc
   rcases Int.lt_or_gt_of_ne hc with c | c
   ·exact(k2 c).mpr (b _ (FC.mpr ⟨w,FI.mpr ⟨hw,F6 c⟩,rfl⟩))
   ·exact(k1 c).mpr (a _ (FC.mpr ⟨w,FI.mpr ⟨hw,F6 c⟩,rfl⟩))
  ·intro all;refine⟨λc hc=>?_,λc hc=>?_⟩
   ·obtain⟨w,hw,rfl⟩:=FC.mp hc;obtain⟨h1,h2⟩:=FI.mp hw;have h2:0<cfs (rows.zip w) n:=Hj h2;exact((vp (x:=x) H h0 (hp w h1) (by omega)).2.1 h2).mp (all w h1 (by omega))
   ·obtain⟨w,hw,rfl⟩:=FC.mp hc;obtain⟨h1,h2⟩:=FI.mp hw;have h2:cfs (rows.zip w) n<0:=Hj h2;exact((vp (x:=x) H h0 (hp w h1) (by omega)).2.2 h2).mp (all w h1 (by omega))
theorem BC(H:Ft nm rows){ns:Zb}(hso:∀w∈E5 rows (n::ns),Fi (Fw ks ps) (ET nm rows w))(h0:Fw ks ps n=0)(hp:∀w∈E5 rows ns,∀t∈(ET nm rows w).2.1,t.1≠n->0<pB ks ps t.1){S:Int×Int->Prop}(hS:∀w∈E5 rows ns,cfs (rows.zip w) n≠0->S (cnd nm rows ks ps n w).1) :
  gL S (pcs nm rows ks ps n (E5 rows ns))/\∀x,inP (pcs nm rows ks ps n (E5 rows ns)) x↔∀w∈E5 rows ns,Fi (kZ (Fw ks ps) n x) (ET nm rows w):=by
 obtain⟨e1,e2,i⟩:=C8 H h0 hp hS;have i2:∀x,inP (pcs nm rows ks ps n (E5 rows ns)) x↔∀w∈E5 rows ns,Fi (kZ (Fw ks ps) n x) (ET nm rows w):=λx=>by
  rw[i x];refine⟨λh w hw=>?_,λh w hw _=>h w hw⟩
  by_cases c:cfs (rows.zip w) n=0
  ·have:=hso w (e7.mpr (.inl ⟨hw,c⟩))
   rw[jI H] at this ⊢;rw[gM h0,c];have e:evl (Fw ks ps) (rows.zip w)+x*((0:Int):Rat)=evl (Fw ks ps) (rows.zip w):=by rw[show ((0:Int):Rat)=0 from rfl];grind
   rw[e];exact this
  ·exact h w hw c
 refine⟨⟨e1,e2,?_⟩,i2⟩;obtain⟨a,b⟩:=(i2 _).mpr (back H hso h0 hp).2
 grind
def wV{α:Type}(ok:α->Bool)(pc:α->Pc)(K:List α):List Pc:=K.foldl (λtold c=>if ok c=true then tf told (pc c) else told) []
theorem lg{α:Type}{ok:α->Bool}{pc:α->Pc}{K:List α}{c:α}:wV ok pc (K++[c])=if ok c=true then tf (wV ok pc K) (pc c) else wV ok pc K:=by
 unfold wV;rw[Hk];rfl
theorem v9{L:List Pc}{P:Pc}:(tf L P).length<=2*L.length+1:=by
 unfold tf;have h1:=Gm (λh=>EY h P) L;have h2:=Gm (λh=>!EY h P&&EY P h) L;rw[FF,FF,Gg];omega
structure AY{α:Type}(S:Int×Int->Prop)(In:α->Rat->Prop)(K:List α)(L:List Pc):Prop where
 ok:∀p∈L,gL S p
 pw:L.Pairwise bfr
 «in»:∀x,(∃p∈L,inP p x)↔∃c∈K,In c x
 len:L.length+1<=2 ^ K.length
theorem xk{α:Type}{S:Int×Int->Prop}{ok:α->Bool}{pc:α->Pc}{In:α->Rat->Prop}{A:List α}(h:∀c∈A,(ok c=true->gL S (pc c)/\∀x,inP (pc c) x↔In c x)/\(ok c=false->∀x,¬ In c x)) :
  ∀i,i<=A.length->AY S In (A.take i) (wV ok pc (A.take i)):=λi=>by
 induction i with
 | zero=>exact λ_=>⟨λ_ h=>(nomatch h),.nil,λx=>⟨λ⟨_,h,_⟩=>(nomatch h),λ⟨_,h,_⟩=>absurd h (by simp)⟩,by simp[wV]⟩
 | succ i ih =>
  intro hi;obtain⟨i1,i2,i3,i4⟩:=ih (by omega);have hc:A[i]?=some A[i]:=List.getElem?_eq_getElem (by omega);obtain⟨h1,h2⟩:=h A[i] (GX _);rw[aG hc,lg];generalize A[i]=c at *;have aa:2 ^ (A.take i++[c]).length=2*2 ^ (A.take i).length:=by rw[FF,Gg,Nat.pow_succ,Ii]
  cases e:ok c with
  | true =>
   obtain⟨p1,p2⟩:=h1 e;obtain⟨r1,r2,r3⟩:=BZ i1 i2 p1;rw[FP rfl];refine⟨r1,r2,λx=>?_,?_⟩
   ·rw[r3,i3,p2];simp[or_and_right,exists_or]
   ·have:=v9 (L:=wV ok pc (A.take i)) (P:=pc c)
    omega
  | false =>
   rw[FN (by decide)];refine⟨i1,i2,λx=>?_,by omega⟩;rw[i3];simp[or_and_right,exists_or,h2 e]
theorem sN(H:Ft nm rows){ns:Zb}{y:Str->Rat}(hy:∀w∈E5 rows ns,Fi y (ET nm rows w)){w:Ze}(hw:w∈E5 rows (n::ns)):Fi y (ET nm rows w):=by
 rcases e7.mp hw with⟨h1,_⟩ | ⟨l,hl,cl,h,hh,ch,rfl,_⟩
 ·exact hy w h1
 ·have wl:=(ca hl).1
  have wh:=(ca hh).1
  have s1:=(oC H wl.len).mp (hy l hl)
  have s2:=(oC H wh.len).mp (hy h hh)
  have g0:=dA (mx (gQ wl wh cl ch).2)
  have c1:(0:Rat)<((cfs (rows.zip l) n:Int):Rat):=dA cl
  have c2:((cfs (rows.zip h) n:Int):Rat)<0:=by have:=GH.mpr ch;simpa using this
  refine(oC H (pM wl wh cl ch).len).mpr ?_;have s:=fu s1 s2 (a:=-((cfs (rows.zip h) n:Int):Rat)) (b:=((cfs (rows.zip l) n:Int):Rat)) (by grind) (by grind)
  have s':=fu s s (a:=1 / ((gW (crS rows n l h):Int):Rat)) (b:=0) (by
   have:=Rat.inv_pos (a:=((gW (crS rows n l h):Int):Rat)) |>.mpr g0
   grind) (by grind)
  refine db (λi _=>?_) s';have:=mG wl wh cl ch i
  grind
end Mf
namespace Lw
open PySem L2 DL
variable {R:aZ} {δ:En} {g:TDG} {i j t q r p:Int} {b names ks nm ns:Zb} {z x y n:Str} {l u:Option Int} {k:Bool→Prop} {ts:List (Str×Int)} {rows c:List Rw} {ps:Za} {Y:Str→Rat} {v:Rat}
variable {P:Program} {w:World} {K:PySem.W.Frag} {mg:Str→Zd} {base:Heap}
structure Zz where
 P:Program
 w:World
 K:PySem.W.Frag
 mg:Str->Zd
 base:Heap
 x0:Fd K mg "common_divisor" s_common_divisor ["one","other"]
 x1:Fd K mg "made" s_made ["top","bottom"]
 x2:Fd K mg "less" s_less ["one","other"]
 x3:Fd K mg "is_row" s_is_row ["saying"]
 x4:Fd K mg "mark_names" s_mark_names ["saying","found"]
 x5:Fd K mg "names_of" s_names_of ["saying"]
 x6:Fd K mg "tops_of" s_tops_of ["names","point"]
 x7:Fd K mg "top_of_sum" s_top_of_sum ["terms","tops"]
 x8:Fd K mg "row_is_so" s_row_is_so ["row","tops","bottom"]
 x9:Fd K mg "part_is_so" s_part_is_so ["saying","tops","bottom"]
 x10:Fd K mg "is_so" s_is_so ["saying","point"]
 x11:Fd K mg "contrary" s_contrary ["row"]
 x12:Fd K mg "plain_part" s_plain_part ["saying","turned"]
 x13:Fd K mg "plain" s_plain ["saying"]
 x14:Fd K mg "_law_cell" s__law_cell ["_law_script","_law_k"]
 x15:Fd K mg "put_together" s_put_together ["one","other"]
 x16:Fd K mg "cases_within" s_cases_within ["part","whole"]
 x17:Fd K mg "cases" s_cases ["saying"]
 x18:Fd K mg "added" s_added ["rows","weights"]
 x19:Fd K mg "weight_of" s_weight_of ["name","row"]
 x20:Fd K mg "alone" s_alone ["rows"]
 x21:Fd K mg "shortened" s_shortened ["weights"]
 x22:Fd K mg "crossed" s_crossed ["low","high","name"]
 x23:Fd K mg "without" s_without ["rows","sums","name","most"]
 x24:Fd K mg "taken_out" s_taken_out ["rows","names"]
 x25:Fd K mg "bound_on" s_bound_on ["name","row","point"]
 x26:Fd K mg "tighter" s_tighter ["one","other","is_low"]
 x27:Fd K mg "piece_for" s_piece_for ["name","sums","point"]
 x28:Fd K mg "wider" s_wider ["one","other","is_low"]
 x29:Fd K mg "lies_below" s_lies_below ["one","other"]
 x30:Fd K mg "put_in" s_put_in ["pieces","piece"]
 x31:Fd K mg "stretch" s_stretch ["saying","name"]
 x32:Fd K mg "_law_common" s__law_common ["_law_one","_law_other"]
 x33:Fd K mg "_law_is_fraction" s__law_is_fraction ["_law_found"]
 x34:Fd K mg "_law_purse" s__law_purse ["_law_cell_here"]
 x35:Fd K mg "_law_take" s__law_take ["_law_purse_here","_law_many"]
 x36:Fd K mg "_law_less" s__law_less ["_law_one","_law_other"]
 x37:Fd K mg "_law_lowest" s__law_lowest ["_law_top","_law_bottom"]
 x38:Fd K mg "_law_sorted" s__law_sorted ["_law_some"]
 x39:Fd K mg "_law_spots" s__law_spots ["_law_ends_here"]
 x40:Fd K mg "_law_is_end" s__law_is_end ["_law_end","_law_within"]
 x41:Fd K mg "_law_follows" s__law_follows ["_law_last","_law_low","_law_within"]
 x42:Fd K mg "_law_are_pieces" s__law_are_pieces ["_law_found"]
 x43:Fd K mg "_law_lies_in" s__law_lies_in ["_law_found","_law_spot"]
 x44:Fd K mg "_law_ends" s__law_ends ["_law_found"]
 x45:Fd K mg "_law_row" s__law_row ["_law_cell_here","_law_name"]
 x46:Fd K mg "_law_terms" s__law_terms ["_law_one","_law_other"]
 x47:Fd K mg "_law_tie" s__law_tie ["_law_one","_law_other"]
 x48:Fd K mg "_law_tied" s__law_tied ["_law_row_here","_law_names","_law_tie_here","_law_loose"]
 x49:Fd K mg "_law_true" s__law_true ["_law_rows","_law_spot"]
 x50:Fd K mg "_law_good" s__law_good ["_law_found","_law_rows","_law_tie_here"]
 x51:mg "abs"=none
 x52:mg "sorted"=none
 x53:mg "tuple"=none
 x54:mg "len"=none
 x55:mg "max"=none
 x56:mg "zip"=none
 x57:mg "enumerate"=none
 x58:mg "range"=none
 x59:mg "reversed"=none
 x60:mg "all"=none
 x61:mg "isinstance"=none
 x62:mg "bool"=none
 x63:mg "int"=none
 x64:mg "list"=none
 g_OPPOSITES:GTab K mg "OPPOSITES" [("least","more"),("more","least"),("both","either"),("either","both")]
 g_MOST_ROWS:GInt mg "MOST_ROWS" 3
 g_MOST_CASES:GInt mg "MOST_CASES" 4
 g_ENDLESS:GEnd K mg "ENDLESS"
abbrev Zz.C(Z:Zz)(k:Nat)(x:Str)(ps:List Str)(sp:Sp):Prop:=Cal Z.P Z.w Z.K Z.mg Z.base k x ps sp
local macro_rules | `(tactic| walk_at "sc") => `(tactic| exact ⟨rfl, rfl, rfl, by decide +kernel, rfl, by decide +kernel, by decide +kernel⟩)
open Mf
theorem ap{t u:TDS}(h:∀K:En->Prop,K=u R->t { R with nx:=K } δ):dSeq t u R δ:=h _ rfl
def uM(src:TDC)(F:D->aZ->En->Prop):TDS:=λR δ=>src δ λxs δ1=>∃I:Nat->En->Prop,I 0 δ1 /\
 (∀i x δ',xs[i]?=some x->I i δ'->F x { R with nx:=I (i+1),ct:=I (i+1),bk:=R.nx,tp:=False } δ')/\∀δ',I xs.length δ'->R.nx δ'
theorem kj{src:TDC}{tb:TDS}(h:∀(F:D->aZ->En->Prop) (N:En->Prop),F=(λx R δ=>g x δ λδ2=>tb R δ2)->N=R.nx->uM src F { R with nx:=N } δ):dFor src g tb R δ:=h _ _ rfl rfl
def iK(t:Fc)(F:D->aZ->En->Prop):TDS:=λR δ=>t δ (wd λd δ1=>qL d λxs=>∃I:Nat->En->Prop,I 0 δ1 /\
 (∀i x δ',xs[i]?=some x->I i δ'->F x { R with nx:=I (i+1),ct:=I (i+1),bk:=R.nx,tp:=False } δ')/\∀δ',I xs.length δ'->R.nx δ')
theorem bN{t:Fc}{tb:TDS}(h:∀(F:D->aZ->En->Prop) (N:En->Prop),F=(λx R δ=>g x δ λδ2=>tb R δ2)->N=R.nx->iK t F { R with nx:=N } δ):qm t g tb R δ:=h _ _ rfl rfl
theorem cG{x:D}{t u:TDS}(h:∀K:En->Prop,K=u R->g x δ λδ2=>t { R with nx:=K } δ2):g x δ λδ2=>dSeq t u R δ2:=h _ rfl
theorem aX{α β γ:Type}(f:β->Option γ)(g:α->β)(h:α->γ):∀(l:List α),(∀x∈l,f (g x)=some (h x))->(l.map g).filterMap f=l.map h
 | [],_=>rfl
 | x::l,e=>by rw[F7,F7,Gn,e x (FD ..),aX f g h l λy hy=>e y (Fz _ hy)]
theorem EV{c A B:Prop}[Decidable c](hc:¬ c)(h:B):if c then A else B:=by rw[FN hc];exact h
theorem ifp{c A B:Prop}[Decidable c](hc:c)(h:A):if c then A else B:=by rw[FP hc];exact h
theorem at0{α:Type}{x:α}{xs:List α}:E4 (x::xs) 0=some x:=by
 unfold E4 ixN;simp only[List.length_cons];rw[FP (by omega),FP (by omega)];rfl
theorem at1{α:Type}{x y:α}{xs:List α}:E4 (x::y::xs) 1=some y:=by
 unfold E4 ixN;simp only[List.length_cons];rw[FP (by omega),FP (by omega)];rfl
theorem at2{α:Type}{x y z:α}{xs:List α}:E4 (x::y::z::xs) 2=some z:=by
 unfold E4 ixN;simp only[List.length_cons];rw[FP (by omega),FP (by omega)];rfl
theorem atm1{α:Type}{x:α}{xs:List α}:E4 (xs++[x]) (-1)=some x:=vX xs x
theorem ua{R:D->Prop}:sB [.int i,.int j] R=(R (.int (i+j))):=rfl
theorem tY{xs ys:Zh}{R:D->Prop}:sB [.lst xs,.lst ys] R=(xs.length+ys.length<=9000/\R (.lst (xs++ys))):=rfl
theorem u6{xs:Zh}{R:D->Prop}:AJ [.lst xs] R=(R (.int xs.length)):=rfl
theorem Aa{xs:Zh}{R:D->Prop}:AJ [.fz xs] R=(R (.int xs.length)):=rfl
theorem vL{xs:Zh}{R:D->Prop}:AJ [.tup xs] R=(R (.int xs.length)):=rfl
theorem vZ{R:D->Prop}:fInt [.int i] R=(R (.int i)):=rfl
theorem yH{b:Bool}{R:D->Prop}:fInt [.bl b] R=(R (.int (if b then 1 else 0))):=rfl
theorem zJ{xs:Zh}{R:D->Prop}:fIx [.tup xs,.int i] R=E2 xs i R:=rfl
theorem As{xs:Zh}{R:D->Prop}:fIx [.lst xs,.int i] R=E2 xs i R:=rfl
theorem Ca{xs:Zh}{R:D->Prop}:fIx [.fz xs,.int i] R=E2 xs i R:=rfl
theorem zQ{R:D->Prop}:fIx [.str z,.int i] R=(z.length<=9000/\∃c,E4 z.cps.toList i=some c/\R (.str ⟨#[c]⟩)):=rfl
theorem zP{xs:Zh}{R:D->Prop}:fSl (.lst xs) l u R=(R (.lst (cut xs l u))):=rfl
theorem BN{xs:Zh}{R:D->Prop}:fSl (.fz xs) l u R=(R (.lst (cut xs l u))):=rfl
theorem Nat.cast_ofNat_Int{n:Nat}:((OfNat.ofNat n:Nat):Int)=OfNat.ofNat n:=rfl
theorem tO{xs ys:Zh}{R:D->Prop}:sB [.tup xs,.tup ys] R=(xs≠[]/\ys≠[]/\xs.length+ys.length<=9000/\R (.tup (xs++ys))):=rfl
theorem Al{xs:Zh}{R:D->Prop}:fSl (.tup xs) l u R=(¬ (HT.sIx xs.length 0 l=0/\HT.sIx xs.length xs.length u=xs.length)/\R (.tup (cut xs l u))):=rfl
theorem Ax{R:D->Prop}:fIs [.non,.non] R=(R (.bl true)):=rfl
theorem xR{c f:Str}{d:D}{R:D->Prop}:fIs [.exn c f d,.non] R=(R (.bl false)):=rfl
theorem zG{xs:Zh}{R:D->Prop}:fIs [.tup xs,.non] R=(R (.bl false)):=rfl
theorem wd_e{R:D->En->Prop}{x:D}:wd R (.d x) δ=R x δ:=rfl
theorem qB_e{b:Bool}:qB (.bl b) k=k b:=rfl
theorem qI_e{b:Int}{k:Int->Prop}:qI (.int b) k=k b:=rfl
theorem qX_e{b:Str}{k:Str->Prop}:qX (.str b) k=k b:=rfl
theorem qT_e{b:Zh}{k:Zh->Prop}:qT (.tup b) k=k b:=rfl
theorem qL_e{b:Zh}{k:Zh->Prop}:qL (.lst b) k=k b:=rfl
theorem qY_l{b:Zh}{k:Zh->Prop}:qY (.lst b) k=k b:=rfl
theorem qY_t{b:Zh}{k:Zh->Prop}:qY (.tup b) k=k b:=rfl
theorem D0{b:Bool}{l:Zh}{k:Zh->Prop}:qY (sq b l) k=k l:=by cases b<;>rfl
theorem qG_e{c:Zh}{k:Zb->Zh->Prop}:qG (.dct b c) k=k b c:=rfl
theorem qF_e{c:Zh}{k:Zb->Zh->Prop}:qF (.fd b c) k=k b c:=rfl
theorem qZ_d{c:Zh}{k:Zb->Zh->Prop}:qZ (.dct b c) k=k b c:=rfl
theorem qZ_f{c:Zh}{k:Zb->Zh->Prop}:qZ (.fd b c) k=k b c:=rfl
theorem qV_e{α:Type}{a:α}{k:α->Prop}:qV (some a) k=k a:=rfl
theorem qN_e{k:Prop}:qN [] k=k:=rfl
theorem qC_e{x:D}{r:Zh}{k:D->Zh->Prop}:qC (x::r) k=k x r:=rfl
theorem wS{k:Prop}:uG [] 0 k=k:=rfl
theorem w6{x:D}{r:Zh}{n:Nat}{k:Prop}:uG (x::r) (n+1) k=uG r n k:=rfl
theorem q9_0{k:Prop}:q9 [] k=k:=rfl
theorem q9_1{a:D}{k:Prop}:q9 [a] k=k:=rfl
theorem q9_2{a b:D}{k:Prop}:q9 [a,b] k=k:=rfl
theorem q9_3{a b c:D}{k:Prop}:q9 [a,b,c] k=k:=rfl
theorem q9_4{a b c d:D}{k:Prop}:q9 [a,b,c,d] k=k:=rfl
theorem qW_s{x:Sl}{i:Nat}{k:Addr->D->Prop}:qW (x::δ)[i+1]? k=qW δ[i]? k:=rfl
theorem qW_z{a:Addr}{d:D}{k:Addr->D->Prop}:qW (.own a d::δ)[0]? k=k a d:=rfl
theorem qD_s{x:Sl}{i:Nat}{k:D->Prop}:qD (x::δ)[i+1]? k=qD δ[i]? k:=rfl
theorem qD_z{d:D}{k:D->Prop}:qD (.dat d::δ)[0]? k=k d:=rfl
theorem wT{x y:Sl}{i:Nat}{k:En->Prop}:jB (x::δ) (i+1) y k=jB δ i y λδ'=>k (x::δ'):=rfl
theorem wM{x y:Sl}{k:En->Prop}:jB (x::δ) 0 y k=k (y::δ):=rfl
theorem Dt{x:D}{l:Zh}{k:D->Prop}:E2 (x::l) 0 k=k x:=rfl
theorem EB{x y:D}{l:Zh}{k:D->Prop}:E2 (x::y::l) 1 k=k y:=rfl
theorem Dp{x y z:D}{l:Zh}{k:D->Prop}:E2 (x::y::z::l) 2 k=k z:=rfl
theorem Ek{x y z u:D}{l:Zh}{k:D->Prop}:E2 (x::y::z::u::l) 3 k=k u:=rfl
theorem D8{x y z u v:D}{l:Zh}{k:D->Prop}:E2 (x::y::z::u::v::l) 4 k=k v:=rfl
theorem qS_t{d:D}{k:Zh->Prop}:qS true d k=qL d k:=rfl
theorem qS_f{d:D}{k:Zh->Prop}:qS false d k=qT d k:=rfl
theorem DU{A B:Prop}:(if true=true then A else B)=A:=rfl
theorem EH{A B:Prop}:(if false=true then A else B)=B:=rfl
theorem DP{A B:Prop}:(if (!true)=true then A else B)=B:=rfl
theorem Dr{A B:Prop}:(if (!false)=true then A else B)=A:=rfl
theorem Cj{p:List Sl->Prop}:sT 0 p=p []:=rfl
theorem BY{n:Nat}{p:List Sl->Prop}:sT (n+1) p=(∀t:Option D,sT n λts=>p (oS t::ts)):=rfl
theorem EO{c:En}:okT 0 δ c=(δ=c):=rfl
theorem ED{n:Nat}{d:D}{c:En}:okT (n+1) (.dat d::δ) c=okT n δ c:=rfl
theorem Da{d:D}:tG (some (.dat d))=.dat d:=rfl
theorem qD_e{d:D}{k:D->Prop}:qD (some (.dat d)) k=k d:=rfl
theorem qW_e{a:Addr}{d:D}{k:Addr->D->Prop}:qW (some (.own a d)) k=k a d:=rfl
theorem Bv{x:Sl}{i:Nat}:tG (x::δ)[i+1]?=tG δ[i]?:=rfl
theorem B4{d:D}:tG (.dat d::δ)[0]?=.dat d:=rfl
theorem qq:Fm "int" .non k=k false:=rfl
theorem uj{b:Bool}:Fm "int" (.bl b) k=k true:=rfl
theorem ql{b:Int}:Fm "int" (.int b) k=k true:=rfl
theorem qf{b:Str}:Fm "int" (.str b) k=k false:=rfl
theorem pR{b:Zh}:Fm "int" (.tup b) k=k false:=rfl
theorem pS{b:Zh}:Fm "int" (.lst b) k=k false:=rfl
theorem rS{b:Zh}:Fm "int" (.fz b) k=k false:=rfl
theorem qP{c:Zh}:Fm "int" (.dct b c) k=k false:=rfl
theorem uJ{c:Zh}:Fm "int" (.fd b c) k=k false:=rfl
theorem mZ:Fm "bool" .non k=k false:=rfl
theorem qg{b:Bool}:Fm "bool" (.bl b) k=k true:=rfl
theorem nY{b:Int}:Fm "bool" (.int b) k=k false:=rfl
theorem mQ{b:Str}:Fm "bool" (.str b) k=k false:=rfl
theorem nw{b:Zh}:Fm "bool" (.tup b) k=k false:=rfl
theorem nR{b:Zh}:Fm "bool" (.lst b) k=k false:=rfl
theorem qQ{b:Zh}:Fm "bool" (.fz b) k=k false:=rfl
theorem nB{c:Zh}:Fm "bool" (.dct b c) k=k false:=rfl
theorem qK{c:Zh}:Fm "bool" (.fd b c) k=k false:=rfl
theorem l6:Fm "tuple" .non k=k false:=rfl
theorem mV{b:Bool}:Fm "tuple" (.bl b) k=k false:=rfl
theorem lm{b:Int}:Fm "tuple" (.int b) k=k false:=rfl
theorem mq{b:Str}:Fm "tuple" (.str b) k=k false:=rfl
theorem lD{b:Zh}:Fm "tuple" (.tup b) k=k true:=rfl
theorem mv{b:Zh}:Fm "tuple" (.lst b) k=k false:=rfl
theorem mY{b:Zh}:Fm "tuple" (.fz b) k=k false:=rfl
theorem mr{c:Zh}:Fm "tuple" (.dct b c) k=k false:=rfl
theorem mz{c:Zh}:Fm "tuple" (.fd b c) k=k false:=rfl
theorem nW:Fm "list" .non k=k false:=rfl
theorem qc{b:Bool}:Fm "list" (.bl b) k=k false:=rfl
theorem mO{b:Int}:Fm "list" (.int b) k=k false:=rfl
theorem nH{b:Str}:Fm "list" (.str b) k=k false:=rfl
theorem mD{b:Zh}:Fm "list" (.tup b) k=k false:=rfl
theorem nA{b:Zh}:Fm "list" (.lst b) k=k true:=rfl
theorem qw{b:Zh}:Fm "list" (.fz b) k=k true:=rfl
theorem nT{c:Zh}:Fm "list" (.dct b c) k=k false:=rfl
theorem qk{c:Zh}:Fm "list" (.fd b c) k=k false:=rfl
theorem DB{f:Zh->(D->Prop)->Prop}{x y:D}{R:W->En->Prop}:kOb f x R (.d y) δ=f [x,y] (kD R δ):=rfl
theorem Ew{f:Zh->(D->Prop)->Prop}{tb:Fc}{x:D}{R:W->En->Prop}:kOa f tb R (.d x) δ=tb δ (kOb f x R):=rfl
theorem Dy{f:Zh->(D->Prop)->Prop}{x:D}{R:W->En->Prop}:kUn f R (.d x) δ=f [x] (kD R δ):=rfl
theorem Em{t:TDA}{x:D}{R:Zh->En->Prop}:kAc t R (.d x) δ=t δ (kAd x R):=rfl
theorem Eo{R:Bool->En->Prop}{b:Bool}:kTs R (.d (.bl b)) δ=R b δ:=rfl
theorem DK{u:Fc}{b:Bool}{R:W->En->Prop}:kAV u R (.d (.bl b)) δ=(if b=true then u δ R else R (.d (.bl false)) δ):=rfl
theorem Du{u:Fc}{b:Bool}{R:W->En->Prop}:kOV u R (.d (.bl b)) δ=(if b=true then R (.d (.bl true)) δ else u δ R):=rfl
theorem EQ{b:Bool}{R:W->En->Prop}:kNV R (.d (.bl b)) δ=R (.d (.bl (!b))) δ:=rfl
theorem Eu{x:D}:kRe R (.d x) δ=R.rt x δ:=rfl
theorem BH{i:Nat}{x:D}:kSe i R (.d x) δ=jB δ i (.dat x) R.nx:=rfl
theorem Bs{x:D}:kAs g R (.d x) δ=g x δ R.nx:=rfl
theorem Er{T:String}{x:D}{R:W->En->Prop}:kIs T R (.d x) δ=(Fm T x λb=>R (.d (.bl b)) δ):=rfl
theorem EU(i:Nat){X:Cx}{j}{k:Int}{p p2 pos:Pos}(hN:X.N[i]?=some x:=by rfl)(hv:Vis X.env.scope x:=by walk_at "v3")(hd:(x==("__debug__":Str))=false:=by decide)(hcd:(x==("__classdict__":Str))=false:=by decide):DE X (.Subscript (.Name x p) (.Constant (.int k) j p2) pos) (dOp fIx (dV i) (dC (.int k))):=cA cz (ag i hN hv hd hcd) ak (λ_ _=>rfl)
local macro_rules | `(tactic| walk_at "rh") => `(tactic| try simp only [↓kD, ↓kN, ↓kO, ↓kI, ↓wd_e, ↓BH, ↓Bs, ↓wT, ↓wM, ↓w6, ↓wS, ↓qC_e, ↓qN_e, ↓qT_e, ↓qL_e, ↓qJ, ↓Ab, ↓ul, ↓ya, ↓dF, ↓o8, ↓mP, ↓qWD, ↓qW_s, ↓qW_z, ↓qG_e])
local macro_rules | `(tactic| walk_at "") => `(tactic| ((try simp only [eJ, List.map_cons, List.map_nil, List.cons_append, List.nil_append, List.append_nil, List.length_cons, List.length_nil, Nat.reduceAdd, Nat.reduceSub, List.replicate]); try simp only [↓DB, ↓Ew, ↓Dy, ↓Em, ↓Eo, ↓DK, ↓Du, ↓EQ, ↓Eu, ↓BH, ↓Bs, ↓Er, ↓kAd, ↓kCa, ↓kTu, ↓kLs, ↓kAn, ↓kOr, ↓kNo, ↓kIE, ↓xD, ↓Bu, ↓dcSq, ↓xi, ↓CG, ↓o8, ↓xw, ↓vy, ↓pW, ↓vE, ↓vB, ↓zx, ↓tO, ↓Al, ↓dSlT, ↓Cp, ↓BM, ↓Ch, ↓CJ, ↓Ax, ↓zG, ↓xR, ↓B0, ↓CM, ↓vF, ↓vS, ↓BW, ↓CN, ↓BI, ↓CC, ↓Do, ↓xb, ↓t9, ↓dIxO, ↓Di, ↓C5, ↓By, ↓mP, ↓dSeq, ↓dIf, ↓kIf, ↓dRet, ↓dSet, ↓dV, ↓dC, ↓dOp, ↓dUn, ↓dTst, ↓dAnd, ↓dOr, ↓dNot, ↓Cb, ↓dOrV, ↓Bi, ↓dIfE, ↓xg, ↓B3, ↓qe, ↓kD, ↓kN, ↓kO, ↓kI, ↓dTup, ↓dLst, ↓dPar, ↓Bm, ↓uE, ↓BJ, ↓dAsg, ↓dF, ↓ya, ↓ul, ↓qJ, ↓Ab, ↓BV, ↓wz, ↓wA, ↓dSl, ↓se, ↓Dj, ↓dIsi, ↓Bg, ↓D9, ↓D2, ↓zB, ↓xO, ↓Ci, ↓yx, ↓vO, ↓BO, ↓AC, ↓v4, ↓vN, ↓ua, ↓tY, ↓u6, ↓Aa, ↓vL, ↓vZ, ↓yH, ↓zJ, ↓As, ↓Ca, ↓zQ, ↓zP, ↓BN, ↓wj, ↓Af, ↓vA, ↓wp, ↓B7, ↓wg, ↓AI, ↓zZ, ↓nP, ↓mI, ↓C9, ↓pZ, ↓qM, ↓zK, ↓xu, ↓BG, ↓BD, ↓C1, ↓qWL, ↓qWD, ↓qWe, ↓rL, ↓zf, ↓e8, ↓oS, ↓wd_e, ↓qB_e, ↓qI_e, ↓qX_e, ↓qT_e, ↓qL_e, ↓qY_l, ↓qY_t, ↓qG_e, ↓qF_e, ↓qZ_d, ↓qZ_f, ↓qV_e, ↓qN_e, ↓qC_e, ↓wS, ↓w6, ↓q9_0, ↓q9_1, ↓q9_2, ↓q9_3, ↓q9_4, ↓qW_s, ↓qW_z, ↓qD_s, ↓qD_z, ↓wT, ↓wM, ↓Dt, ↓EB, ↓Dp, ↓Ek, ↓D8, ↓qS_t, ↓qS_f, ↓DU, ↓EH, ↓DP, ↓Dr, ↓Cj, ↓BY, ↓EO, ↓ED, ↓Da, ↓qD_e, ↓qW_e, ↓Bv, ↓B4, ↓qq, ↓uj, ↓ql, ↓qf, ↓pR, ↓pS, ↓rS, ↓qP, ↓uJ, ↓mZ, ↓qg, ↓nY, ↓mQ, ↓nw, ↓nR, ↓qQ, ↓nB, ↓qK, ↓l6, ↓mV, ↓lm, ↓mq, ↓lD, ↓mv, ↓mY, ↓mr, ↓mz, ↓nW, ↓qc, ↓mO, ↓nH, ↓mD, ↓nA, ↓qw, ↓nT, ↓qk, ↓List.map_cons, ↓List.map_nil, ↓List.cons_append, ↓List.nil_append, ↓List.replicate, D0, D.exn.injEq, yS, yW, ne_eq, List.cons_ne_nil, Sl.own.injEq, exists_const, exists_eq, D.lst.injEq, D.dct.injEq, D.str.injEq, List.length_cons, List.length_nil, List.append_nil, List.getElem?_cons_zero, List.getElem?_cons_succ, List.set_cons_zero, List.set_cons_succ, Option.some.injEq, Sl.dat.injEq, D.int.injEq, D.bl.injEq, D.tup.injEq, List.cons.injEq, and_assoc, and_true, true_and, exists_eq_left', exists_eq_left, exists_eq_right', exists_and_left, Nat.zero_add, Nat.reduceAdd, Nat.reduceSub, Nat.add_zero, Nat.reduceLeDiff, Nat.sub_self, at0, at1, at2, atm1, if_true, if_false, ite_true, ite_false, Int.reduceEq, Int.reduceLT, Nat.cast_ofNat_Int, not_true_eq_false, not_false_eq_true, Bool.false_eq_true, reduceCtorEq, Bool.not_false, Bool.not_true, List.forall_mem_cons, List.mem_cons, List.not_mem_nil, forall_const, false_implies, implies_true, Nat.reduceLT, if_pos, List.filterMap_cons, List.filterMap_nil, decide_eq_true_eq, Bool.not_eq_true', decide_eq_false_iff_not]))
theorem E6{x y:Int}{m n:Nat}(h1:Builtin.Int.intBits x<=m)(h2:Builtin.Int.intBits y<=n)(h:m+n<=134217728:=by decide):IntMulOk x y:=IntMulOk.of_le h1 h2 h
theorem sm64{x:Int}(h0:0<=x)(h1:x<18446744073709551616):Builtin.Int.intBits x<=64:=intBits_le_64 (by omega) (by omega)
theorem tw{b:Int}{n:Nat}(h:Builtin.Int.intBits b<=n)(hn:n<=8000):b.natAbs.log2<9000:=by
 have h1:=intBits_le_iff.mp h
 rcases Nat.eq_zero_or_pos b.natAbs with h0 | hp
 ·rw[h0];decide
 ·have h2:b.natAbs.log2<n:=(Nat.log2_lt (Hv hp)).mpr h1
  omega
inductive cw(ds:Zh)(R:D->Prop):Prop
 | mk (a b:_) (hh:ds=[.int a,.int b]/\R (.int (gc a b)))
theorem cB:∀ds R,cw ds R->ds.length=2:=λ_ _ ⟨_,_,e,_⟩=>by rw[e];rfl
theorem bC:au ["one","other","rest"] ["one","other"] (am s_common_divisor):=by walk_at "sc"
theorem cS(Z:Zz):Z.C 1 "common_divisor" ["one","other"] (Fx Z.K cw):=by
 refine cH Z.x0 bC cB λfa cdv A outer s H E ds R hr h=>?_;have hU:=hr.units;refine⟨_,(ad (jX FY (aB (kG hU) (ag 1) ak (aw _)) (ad (ax 2 bC.nd (ay jd (ag 0) (ag 1))) (ad (ax 0 bC.nd (ag 1)) (af (ax 1 bC.nd (ag 2)))))) (af (av (aK Av rfl Z.x51 yj (ac (ag 0) ae))))),?_⟩;obtain⟨x,y,rfl,q⟩:=h;refine⟨λδ=>∃a b t,δ=[.dat (.int a),.dat (.int b),t]/\gc a b=gc x y,λδ=>match δ with | [_,.dat (.int b),_]=>b.natAbs | _=>0,⟨x,y,.no,rfl,rfl⟩,?_⟩;rintro δ ⟨a,b,t,rfl,e⟩;walk_at "";refine dO (λc=>⟨c,(t7 a b).trans e,eM a b c⟩) (λc=>?_);have c:=Ij.mp c;subst c;rw[<- rP,e];exact q
theorem uF{b:Int}{n:Nat}(hb:b≠0)(h:Builtin.Int.intBits b<=n):Builtin.Int.intBits (dv t b)<=n:=by
 refine intBits_le_of_natAbs ?_ h;rw[mj];exact Int.gcd_le_natAbs_right t hb
inductive xl(ds:Zh)(R:D->Prop):Prop
 | mk (t b:_) (hh:ds=[.int t,.int b]/\b≠0/\Builtin.Int.intBits b<=8000/\R (.tup [.int (Fv t b),.int (Fp t b)]))
theorem qh:∀ds R,xl ds R->ds.length=2:=λ_ _ ⟨_,_,e,_⟩=>by rw[e];rfl
theorem nK:au ["top","bottom","divisor"] ["top","bottom"] (am s_made):=by walk_at "sc"
theorem wC(Z:Zz):Z.C 2 "made" ["top","bottom"] (Fx Z.K xl):=by
 refine cH Z.x1 nK qh λfa cdv A outer s H E ds R hr h=>?_;have hU:=hr.units;refine⟨_,(ad (aM (aB (hX hU) (ag 1) ak (aw _)) jc aA) (ad (ax 2 nK.nd (ar (cS Z) (rm hr) rfl (ac (ag 0) (ac (ag 1) ae)))) (ad (aM (aB uX (ag 1) ak (aw _)) (af (ax 2 nK.nd (jl jv (ag 2)))) aA) (af (av (aP (ac (ay eF (ag 0) (ag 2)) (ac (ay eF (ag 1) (ag 2)) ae)))))))),?_⟩;obtain⟨x,y,rfl,hy,hb,q⟩:=h;walk_at "";rw[FN hy];refine⟨x,y,rfl,?_⟩;walk_at "";have hd:=zM x hy;have hl:=tw (uF (t:=x) hy hb) (FH _);unfold Fv Fp at q;unfold dv at hd hl q;refine dO (λc=>?_) (λc=>?_)
 ·simp only[if_pos c] at hd hl q;exact⟨⟨hd,hl⟩,⟨hd,hl⟩,q⟩
 ·simp only[if_neg c] at hd hl q;exact⟨⟨hd,hl⟩,⟨hd,hl⟩,q⟩
inductive tZ(ds:Zh)(R:D->Prop):Prop
 | mk (p q:Int×Int) (hh:ds=[Fk p,Fk q]/\ib p.1<=2000000/\ib q.1<=2000000/\ib p.2<=8000/\ib q.2<=8000/\R (.bl (decide (p.1*q.2<q.1*p.2))))
theorem jw:∀ds R,tZ ds R->ds.length=2:=λ_ _ ⟨_,_,e,_⟩=>by rw[e];rfl
theorem zV:au ["one","other"] ["one","other"] (am s_less):=by walk_at "sc"
theorem j6(Z:Zz):Z.C 1 "less" ["one","other"] (Fx Z.K tZ):=by
 refine cH Z.x2 zV jw λfa cdv A outer s H E ds R hr h=>?_;have hU:=hr.units;refine⟨_,(af (av (cM uX (ay bu (EU 0) (EU 1)) (ay bu (EU 1) (EU 0)) (aw _)))),?_⟩;obtain⟨p,q,rfl,b1,b2,b3,b4,k⟩:=h;unfold Fk;walk_at "";exact⟨E6 b1 b4,E6 b2 b3,k⟩
inductive E8 where
 | row (k:Kd) (ts:List (Str×Int)) (b:Int)
 | nt (s:E8)
 | bo (s t:E8)
 | ei (s t:E8)
def E8.D:E8->D
 | .row k ts b=>ky k ts b
 | .nt s=>.tup [.str "not",s.D]
 | .bo s t=>.tup [.str "both",s.D,t.D]
 | .ei s t=>.tup [.str "either",s.D,t.D]
def E8.dep:E8->Nat
 | .row _ _ _=>1
 | .nt s=>s.dep+1
 | .bo s t=>max s.dep t.dep+1
 | .ei s t=>max s.dep t.dep+1
def E8.nms:E8->Zb
 | .row _ ts _=>ts.map (·.1)
 | .nt s=>s.nms
 | .bo s t=>s.nms++t.nms
 | .ei s t=>s.nms++t.nms
def E8.ok(names:Zb):E8->Prop
 | .row _ ts b=>nN names ts/\Builtin.Int.intBits b<=10000
 | .nt s=>s.ok names
 | .bo s t=>s.ok names/\t.ok names
 | .ei s t=>s.ok names/\t.ok names
theorem E8.dep_pos:∀s:E8,0<s.dep
 | .row _ _ _=>Nat.one_pos
 | .nt s=>HX _
 | .bo s t=>HX _
 | .ei s t=>HX _
theorem E8.nms_sub:∀ {s:E8},s.ok names->∀n∈s.nms,n∈names
 | .row _ ts _,h,n,hn=>h.1.sub.subset hn
 | .nt s,h,n,hn=>E8.nms_sub (s:=s) h n hn
 | .bo s t,h,n,hn=>(FV.mp hn).elim (E8.nms_sub h.1 n) (E8.nms_sub h.2 n)
 | .ei s t,h,n,hn=>(FV.mp hn).elim (E8.nms_sub h.1 n) (E8.nms_sub h.2 n)
def E8.isRow:E8->Bool
 | .row _ _ _=>true
 | _=>false
inductive pQ(ds:Zh)(R:D->Prop):Prop
 | mk (s:E8) (hh:ds=[s.D]/\R (.bl s.isRow))
theorem lj:∀ds R,pQ ds R->ds.length=1:=λ_ _ ⟨_,e,_⟩=>by rw[e];rfl
theorem uT:au ["saying"] ["saying"] (am s_is_row):=by walk_at "sc"
theorem ee(Z:Zz):Z.C 1 "is_row" ["saying"] (Fx Z.K pQ):=by
 refine cH Z.x3 uT lj λfa cdv A outer s H E ds R hr h=>?_;have hU:=hr.units;refine⟨_,(af (av (mU (cM (hX hU) (EU 0) bq (aw _)) (dD (cM (hX hU) (EU 0) bq (aw _)))))),?_⟩;obtain⟨s,rfl,q⟩:=h;walk_at ""
 cases s with
 | row k ts b =>
  cases k
  ·unfold E8.D ky kdS;walk_at "";exact q
  ·unfold E8.D ky kdS;walk_at "";exact EV (by decide) q
 | nt s=>unfold E8.D;walk_at "";exact EV (by decide) q
 | bo s t=>unfold E8.D;walk_at "";exact EV (by decide) q
 | ei s t=>unfold E8.D;walk_at "";exact EV (by decide) q
def cD(ks:Zb)(l:Zb):Zb:=l.foldl jf ks
def jj(n:Nat):Zh:=List.replicate n (.bl true)
theorem vH:y∈jf ks x↔y∈ks\/y=x:=by
 unfold jf
 by_cases e:x∈ks
 ·rw[FP e];exact⟨.inl,λh=>h.elim id λz=>z ▸ e⟩
 ·rw[FN e,FV,F1]
theorem fq:∀ {l ks:Zb},ks.Nodup->(cD ks l).Nodup
 | [],_,h=>h
 | _::l,_,h=>fq (l:=l) (sW h)
theorem dh:∀ {l ks:Zb} {y:Str},y∈cD ks l↔y∈ks\/y∈l
 | [],ks,y=>by show y∈ks↔_;simp
 | x::l,ks,y=>by
  show y∈cD (jf ks x) l↔_
  rw[dh,vH,FJ,or_assoc]
theorem fG{l r:Zb}:cD ks (l++r)=cD (cD ks l) r:=Hk ..
theorem lM:∀(ks:Zb) (n:Nat) (x:Str),my ks (jj n) x (D.bl true)=jj n
 | [],n,x=>by cases n<;>rfl
 | k::ks,0,x=>rfl
 | k::ks,n+1,x=>by
  show (if k=x then D.bl true else D.bl true)::my ks (jj n) x (D.bl true)=D.bl true::jj n
  rw[lM ks n x];split<;>rfl
theorem ue:kY ks (jj ks.length) x (D.bl true)=jj (jf ks x).length:=by
 unfold kY jf
 by_cases e:x∈ks
 ·rw[FP e,FP e,lM]
 ·rw[FN e,FN e,FF];show List.replicate _ _++List.replicate 1 _=List.replicate _ _;rw[List.replicate_append_replicate];rfl
def E8.subs:E8->List E8
 | .row _ _ _=>[]
 | .nt s=>[s]
 | .bo s t=>[s,t]
 | .ei s t=>[s,t]
theorem E8.subs_dep{s u:E8}(h:u∈s.subs):u.dep<s.dep:=by
 cases s with
 | row k ts b=>cases h
 | nt s=>rw[F1.mp h];exact Nat.lt_succ_self _
 | bo s t =>
  have h:u∈[s,t]:=h
  simp only[List.mem_cons,List.not_mem_nil,or_false] at h;show u.dep<max s.dep t.dep+1
  rcases h with rfl | rfl<;>omega
 | ei s t =>
  have h:u∈[s,t]:=h
  simp only[List.mem_cons,List.not_mem_nil,or_false] at h;show u.dep<max s.dep t.dep+1
  rcases h with rfl | rfl<;>omega
theorem E8.subs_ok{s u:E8}(h:u∈s.subs)(o:s.ok names):u.ok names:=by
 cases s with
 | row k ts b=>cases h
 | nt s=>rw[F1.mp h];exact o
 | bo s t =>
  have h:u∈[s,t]:=h
  simp only[List.mem_cons,List.not_mem_nil,or_false] at h
  rcases h with rfl | rfl
  ·exact o.1
  ·exact o.2
 | ei s t =>
  have h:u∈[s,t]:=h
  simp only[List.mem_cons,List.not_mem_nil,or_false] at h
  rcases h with rfl | rfl
  ·exact o.1
  ·exact o.2
def E8.word:E8->Str
 | .row k _ _=>kdS k
 | .nt _=>"not"
 | .bo _ _=>"both"
 | .ei _ _=>"either"
theorem E8.D_subs{s:E8}(h:s.isRow=false):s.D=.tup (.str s.word::s.subs.map E8.D):=by
 cases s with
 | row=>cases h
 | nt=>rfl
 | bo=>rfl
 | ei=>rfl
theorem E8.nms_subs{s:E8}(h:s.isRow=false):s.nms=s.subs.flatMap E8.nms:=by
 cases s with
 | row=>cases h
 | nt s=>show s.nms=s.nms++[];rw[Gj]
 | bo s t=>show s.nms++t.nms=s.nms++(t.nms++[]);rw[Gj]
 | ei s t=>show s.nms++t.nms=s.nms++(t.nms++[]);rw[Gj]
theorem pG{α:Type}{x:α}{xs:List α}:cut (x::xs) (some 1) none=xs:=by
 unfold cut;have e1:HT.sIx (x::xs).length 0 (some 1)=1:=by
  have:=HT.sIx_nat (x::xs).length 0 1
  rw[FL] at this ⊢;rw[show (some (1:Int))=some ((1:Nat):Int) from rfl,this];omega
 rw[e1,HT.sIx_none,FL,List.drop_one,List.tail_cons,Nat.add_sub_cancel,FZ]
inductive bQ(n:Nat)(d:D)(ds:Zh)(R:D->D->Prop):Prop
 | mk (names s ks:_) (hh:ds=[E8.D s]/\s.dep<=n/\s.ok names/\names.length<=100/\ks.Nodup/\(∀k∈ks,k∈names)/\d=.dct ks (jj ks.length)/\R .non (.dct (cD ks s.nms) (jj (cD ks s.nms).length)))
theorem gA(n:Nat):∀d ds R,bQ n d ds R->ds.length=1:=λ_ _ _ ⟨_,_,_,e,_⟩=>by rw[e];rfl
theorem fV:∀d ds R,¬ bQ 0 d ds R:=λ_ _ _ ⟨_,s,_,_,h,_⟩=>by have:=s.dep_pos;omega
theorem cF:au ["saying","found","name","weight","part"] ["saying","found"] (am s_mark_names):=by walk_at "sc"
theorem iT(Z:Zz){n:Nat}(lC:Z.C (2+n) "mark_names" ["saying","found"] (v8 Z.K (bQ n))):Z.C (2+n+1) "mark_names" ["saying","found"] (v8 Z.K (bQ (n+1))):=by
 refine Ev (k:=2+n) Z.x4 cF rfl (gA (n+1)) λfa cdv A outer s H E oa d0 d R hr h=>?_;have hU:=hr.units;refine⟨_,(ad (aM (aU (ar (ee Z) (hr.mono (by omega)) rfl (ac (ag 0) ae))) (ad (jP FY rfl (EU 0) (dz (n:=2) rfl (aC (aq 2 cF.nd) (aC (aq 3 cF.nd) bE))) (af (mH 1 hU cv (ag 2)))) (af yh)) aA) (af (jP FY rfl (me (ag 0) (cV ak) dP) (aq 4 cF.nd) (af (tM (lF 1 lC (hr.mono (by omega)) rfl (ag 4))))))),?_⟩;obtain⟨names,s,ks,e,hd,ok,hl,nd,sub,rfl,q⟩:=h
 cases e
 walk_at "";refine⟨s,rfl,?_⟩;walk_at ""
 cases hrow:s.isRow with
 | true =>
  cases s with
  | row k ts b =>
   refine ifp rfl ?_;walk_at "";simp only[uL];unfold E8.D ky;walk_at "";have ab:∀t∈ts,t.1∈names:=λt h=>ok.1.sub.subset (FC.mpr ⟨t,h,rfl⟩);have aa:∀i,∀x∈cD ks ((ts.take i).map (·.1)),x∈names:=λi x hx=>(dh.mp hx).elim (sub x) λh=>by
    obtain⟨t,h1,rfl⟩:=FC.mp h;exact ab t (GP h1)
   refine⟨λi δ=>∃x y z,δ=[.dat (.tup [.str (kdS k),.tup (ts.map tmD),.int b]),.own oa (.dct (cD ks ((ts.take i).map (·.1))) (jj (cD ks ((ts.take i).map (·.1))).length)),x,y,z],⟨_,_,_,rfl⟩,?_,?_⟩
   ·rintro i d δ hd ⟨x,y,z,rfl⟩;obtain⟨t,hn,rfl⟩:=fw hd;walk_at "";have l1:=kB (fq (l:=(ts.take i).map (·.1)) nd) (aa i);refine⟨by omega,?_⟩;rw[ue,aG hn,F3,fG];exact⟨rfl,rfl⟩
   ·rintro δ ⟨x,y,z,rfl⟩;rw[Fy,FZ];exact⟨_,rfl,q⟩
  | nt s=>cases hrow
  | bo s t=>cases hrow
  | ei s t=>cases hrow
 | false =>
  refine EV FG ?_;walk_at "";simp only[uL];rw[E8.D_subs hrow];walk_at "";refine⟨λ⟨h,_⟩=>?_,?_⟩
  ·rw[show (some (1:Int))=some ((1:Nat):Int) from rfl,HT.sIx_nat] at h;omega
  rw[pG];have aa:∀i,∀x∈cD ks ((s.subs.take i).flatMap E8.nms),x∈names:=λi x hx=>(dh.mp hx).elim (sub x) λh=>by
   obtain⟨u,h1,h2⟩:=List.mem_flatMap.mp h;exact E8.nms_sub (E8.subs_ok (GP h1) ok) x h2
  refine⟨λi δ=>∃x y z,δ=[.dat (.tup (.str s.word::s.subs.map E8.D)),.own oa (.dct (cD ks ((s.subs.take i).flatMap E8.nms)) (jj (cD ks ((s.subs.take i).flatMap E8.nms)).length)),x,y,z],⟨_,_,_,rfl⟩,?_,?_⟩
  ·rintro i d δ hd2 ⟨x,y,z,rfl⟩;rw[List.getElem?_map] at hd2
   cases hu:s.subs[i]? with
   | none=>rw[hu] at hd2;cases hd2
   | some u =>
    rw[hu] at hd2
    cases hd2
    have hm:=FM hu
    have dp:=E8.subs_dep hm
    walk_at "";refine⟨names,u,_,rfl,by omega,E8.subs_ok hm ok,hl,fq nd,aa i,rfl,?_⟩;walk_at "";rw[aG hu,List.flatMap_append,List.flatMap_singleton,fG];exact⟨rfl,rfl⟩
  ·rintro δ ⟨x,y,z,rfl⟩;rw[Fy,FZ,<- E8.nms_subs hrow];exact⟨_,rfl,q⟩
theorem jn(Z:Zz):Z.C 62 "mark_names" ["saying","found"] (v8 Z.K (bQ 60)):=Nat.rec (motive:=λn=>Z.C (2+n) "mark_names" ["saying","found"] (v8 Z.K (bQ n))) (tI Z.x4 _ fV) (λ_=>iT Z) 60
inductive jC(ds:Zh)(R:D->Prop):Prop
 | mk (names s:_) (hh:ds=[E8.D s]/\s.dep<=60/\s.ok names/\names.length<=60/\∀ss:Zb,ss.Nodup->(∀x,x∈ss↔x∈s.nms)->Srt ss->R (.lst (ss.map D.str)))
theorem jk:∀ds R,jC ds R->ds.length=1:=λ_ _ ⟨_,_,e,_⟩=>by rw[e];rfl
theorem ia:au ["saying","found"] ["saying"] (am s_names_of):=by walk_at "sc"
theorem gi(Z:Zz):Z.C 63 "names_of" ["saying"] (Fx Z.K jC):=by
 refine cH Z.x5 ia jk λfa cdv A outer s H E ds R hr h=>?_;have hU:=hr.units;refine⟨_,(ad (nv 1 ia.nd) (ad (tM (lF 1 (jn Z) (rm hr) rfl (ag 0))) (cc 1 (af (av (aK (oW rfl) rfl Z.x52 jQ (ac (ag 1) ae))))))),?_⟩;obtain⟨names,s,rfl,hd,ok,hl,q⟩:=h;walk_at "";intro a;refine⟨names,s,[],rfl,hd,ok,by omega,List.nodup_nil,λk h=>(nomatch h),rfl,?_⟩;walk_at "";have nd:(cD [] s.nms).Nodup:=fq List.nodup_nil;have sub:∀x∈cD [] s.nms,x∈names:=λx hx=>(dh.mp hx).elim (λh=>(nomatch h)) (E8.nms_sub ok x);refine⟨by have:=kB nd sub;omega,λss hp hs=>q ss (hp.nodup_iff.mpr nd) (λx=>?_) hs⟩;rw[hp.mem_iff,dh];simp
inductive lf(ds:Zh)(R:D->Prop):Prop
 | mk (names ks ps T κ:_) (hh:ds=[.lst (names.map D.str),.dct ks (ps.map Fk)]/\names.Nodup/\names.length<=60/\(∀n∈names,n∈ks)/\Pt ks ps T/\T<=1000000/\ib (bot (pB ks ps) ks)<=κ/\κ<=7990 /\
 R (.tup [.dct names (names.map λn=>.int (ov (pT ks ps) (pB ks ps) (bot (pB ks ps) names) n)),.int (bot (pB ks ps) names)]))
theorem j7:∀ds R,lf ds R->ds.length=2:=λ_ _ ⟨_,_,_,_,_,e,_⟩=>by rw[e];rfl
theorem pd{q:Str->Int}{l:Zb}{κ:Nat}(nd:l.Nodup)(h:∀n∈l,n∈ks)(hp:∀n∈ks,0<q n)(hb:ib (bot q ks)<=κ):ib (bot q l)<=κ:=fP (nX nd h) (by have:=dr hp;omega) hb
theorem ci:au ["names","point","bottom","name","tops","value"] ["names","point"] (am s_tops_of):=by walk_at "sc"
theorem iA(Z:Zz):Z.C 1 "tops_of" ["names","point"] (Fx Z.K lf):=by
 refine cH Z.x6 ci j7 λfa cdv A outer s H E ds R hr h=>?_;have hU:=hr.units;refine⟨_,(ad (ax 2 ci.nd ak) (ad (bA FY rfl (ag 0) (aq 3 ci.nd) (ad (aM (aB (yB hU) (ag 3) (ag 1) rfl) jc aA) (af (ax 2 ci.nd (ay bu (ag 2) (cA cz (ix hU (ag 1) (ag 3) (λ_ _=>rfl)) ak (λ_ _=>rfl))))))) (ad (nv 4 ci.nd) (ad (bA FY rfl (ag 0) (aq 3 ci.nd) (ad (ax 5 ci.nd (ix hU (ag 1) (ag 3) (λ_ _=>rfl))) (af (mH 4 hU (ay bu (EU 5) (ay eF (ag 2) (EU 5))) (ag 3))))) (cc 4 (af (av (aP (ac (ag 4) (ac (ag 2) ae)))))))))),?_⟩;obtain⟨names,ks,ps,T,κ,rfl,nd,hl,aa,hp,hT,hb,hκ,q⟩:=h;have pos:∀n∈ks,0<pB ks ps n:=λn hn=>hp.pos hn;have bb:ib (bot (pB ks ps) names)<=κ:=pd nd aa pos hb;have bt:∀i,ib (bot (pB ks ps) (names.take i))<=κ:=λi=>pd (nd.sublist (List.take_sublist ..)) (λn hn=>aa n (GP hn)) pos hb;have b1:∀n∈ks,ib (pB ks ps n)<=κ:=λn hn=>fP (gd hn) (by have:=dr pos;omega) hb;walk_at "";simp only[qm];walk_at "";refine⟨λi δ=>∃x y z,δ=[.dat (.lst (names.map D.str)),.dat (.dct ks (ps.map Fk)),.dat (.int (bot (pB ks ps) (names.take i))),x,y,z],⟨_,_,_,rfl⟩,?_,?_⟩
 ·rintro i d δ hd ⟨x,y,z,rfl⟩;obtain⟨n,hn,rfl⟩:=lI hd;have hk:=aa n (sY hn);walk_at "";refine EV (λz=>z hk) ?_;refine⟨_,hp.D hk,?_⟩;walk_at "";refine⟨E6 (bt i) (b1 n hk) (by omega),?_⟩;rw[aG hn,qd,Ao]
 ·rintro δ ⟨x,y,z,rfl⟩;intro a;rw[Fy,FZ];walk_at "";simp only[qm];walk_at "";refine⟨λi δ=>∃x z,δ=[.dat (.lst (names.map D.str)),.dat (.dct ks (ps.map Fk)),.dat (.int (bot (pB ks ps) names)),x,.own a (.dct (names.take i) ((names.take i).map λn=>.int (ov (pT ks ps) (pB ks ps) (bot (pB ks ps) names) n))),z],⟨_,_,rfl⟩,?_,?_⟩
  ·rintro i d δ hd ⟨x,z,rfl⟩;obtain⟨n,hn,rfl⟩:=lI hd;have hk:=aa n (sY hn);have ab:=vW nd hn;walk_at "";refine⟨_,hp.D hk,?_⟩;walk_at "";have qn:pB ks ps n≠0:=by have:=hp.pos hk;omega
   refine⟨⟨qn,tw (b1 n hk) (by omega)⟩,E6 (hp.Tb hk) (GA bb) (by omega),?_⟩;refine⟨by rw[Ge];omega,?_⟩;rw[vf ab,vh ab,aG hn,F3];exact⟨rfl,rfl⟩
  ·rintro δ ⟨x,z,rfl⟩;rw[Fy,FZ];walk_at "";exact q
inductive gj(ds:Zh)(R:D->Prop):Prop
 | mk (k:Bool) (ts:List (Str×Int)) (ks:Zb) (vs:Zh) (f:Str->Int) (hh:ds=[sq k (ts.map tmD),.dct ks vs]/\(∀t∈ts,dAt ks vs t.1=some (.int (f t.1))/\ib t.2<=60000/\ib (f t.1)<=2000000)/\R (.int (ek f ts)))
theorem gv:∀ds R,gj ds R->ds.length=2:=λ_ _ ⟨_,_,_,_,_,e,_⟩=>by rw[e];rfl
theorem bX:au ["terms","tops","top","name","weight"] ["terms","tops"] (am s_top_of_sum):=by walk_at "sc"
theorem eI(Z:Zz):Z.C 1 "top_of_sum" ["terms","tops"] (Fx Z.K gj):=by
 refine cH Z.x7 bX gv λfa cdv A outer s H E ds R hr h=>?_;have hU:=hr.units;refine⟨_,(ad (ax 2 bX.nd ak) (ad (oY FY rfl (Dz (ag 0)) (dz (n:=2) rfl (aC (aq 3 bX.nd) (aC (aq 4 bX.nd) bE))) (af (ax 2 bX.nd (ay aN (ag 2) (ay bu (ag 4) (ix hU (ag 1) (ag 3) (λ_ _=>rfl))))))) (af (av (ag 2))))),?_⟩;obtain⟨k,ts,ks,vs,f,rfl,ht,q⟩:=h;walk_at "";refine kj λF N hF hN=>?_;walk_at "";simp only[uM];walk_at "";refine⟨λi δ=>∃x y,δ=[.dat (sq k (ts.map tmD)),.dat (.dct ks vs),.dat (.int (ek f (ts.take i))),x,y],⟨_,_,rfl⟩,?_,?_⟩
 ·rintro i d δ hd ⟨x,y,rfl⟩;obtain⟨t,hn,rfl⟩:=fw hd;obtain⟨h1,h2,h3⟩:=ht t (FM hn);rw[hF];walk_at "";refine⟨_,h1,?_⟩;walk_at "";refine⟨E6 h2 h3,?_⟩;rw[aG hn,nc,wc]
 ·rintro δ ⟨x,y,rfl⟩;rw[Fy,FZ,hN];walk_at "";exact q
def qz(k:Kd)(s b:Int):Bool:=match k with
 | .least=>decide (b<=s)
 | .more=>decide (b<s)
def E8.so(f:Str->Int)(B:Int):E8->Bool
 | .row k ts b=>qz k (ek f ts) (b*B)
 | .nt s=>!s.so f B
 | .bo s t=>s.so f B&&t.so f B
 | .ei s t=>s.so f B||t.so f B
def Am(p q:Str->Int)(k:Kd)(ts:List (Str×Int))(b:Int):Bool:=qz k (ek (ov p q (bot q (ts.map (·.1)))) ts) (b*bot q (ts.map (·.1)))
def E8.tv(p q:Str->Int):E8->Bool
 | .row k ts b=>Am p q k ts b
 | .nt s=>!s.tv p q
 | .bo s t=>s.tv p q&&t.tv p q
 | .ei s t=>s.tv p q||t.tv p q
theorem Cc{p q:Str->Int}{B:Int}{k:Kd}{b:Int}(hB:0<B)(h:∀t∈ts,0<q t.1/\q t.1 ∣ B):qz k (ek (ov p q B) ts) (b*B)=Am p q k ts b:=by
 have hC:0<bot q (ts.map (·.1)):=dr λn hn=>by
  obtain⟨t,h1,rfl⟩:=FC.mp hn;exact(h t h1).1
 have e:=rN (p:=p) (q:=q) (B:=B) (C:=bot q (ts.map (·.1))) (ts:=ts) λt h1=>⟨by have:=(h t h1).1;omega,(h t h1).2,gd (FC.mpr ⟨t,h1,rfl⟩)⟩
 unfold Am
 cases k with
 | least=>exact decide_eq_decide.mpr (wI (a:=0) hB hC e)
 | more=>exact decide_eq_decide.mpr (vG hB hC e)
theorem E8.so_tv{p q:Str->Int}{B:Int}(hB:0<B):∀ {s:E8},(∀n∈s.nms,0<q n/\q n ∣ B)->s.so (ov p q B) B=s.tv p q
 | .row k ts b,h=>Cc hB λt h1=>h t.1 (FC.mpr ⟨t,h1,rfl⟩)
 | .nt s,h=>by show (!s.so _ _)=!s.tv p q;rw[E8.so_tv (s:=s) hB h]
 | .bo s t,h=>by
  show (s.so _ _&&t.so _ _)=(s.tv p q&&t.tv p q)
  rw[E8.so_tv (s:=s) hB λn hn=>h n (F4 _ hn),E8.so_tv (s:=t) hB λn hn=>h n (FR _ hn)]
 | .ei s t,h=>by
  show (s.so _ _||t.so _ _)=(s.tv p q||t.tv p q)
  rw[E8.so_tv (s:=s) hB λn hn=>h n (F4 _ hn),E8.so_tv (s:=t) hB λn hn=>h n (FR _ hn)]
inductive gR(ds:Zh)(R:D->Prop):Prop
 | mk (k:Kd) (ts:List (Str×Int)) (b:Int) (ks:Zb) (vs:Zh) (f:Str->Int) (B:Int) (hh:ds=[ky k ts b,.dct ks vs,.int B]/\(∀t∈ts,dAt ks vs t.1=some (.int (f t.1))/\ib t.2<=60000/\ib (f t.1)<=2000000)/\ib b<=60000/\ib B<=8000/\R (.bl (qz k (ek f ts) (b*B))))
theorem iN:∀ds R,gR ds R->ds.length=3:=λ_ _ ⟨_,_,_,_,_,_,_,e,_⟩=>by rw[e];rfl
theorem dZ:au ["row","tops","bottom","top","bound"] ["row","tops","bottom"] (am s_row_is_so):=by walk_at "sc"
theorem kQ(Z:Zz):Z.C 2 "row_is_so" ["row","tops","bottom"] (Fx Z.K gR):=by
 refine cH Z.x8 dZ iN λfa cdv A outer s H E ds R hr h=>?_;have hU:=hr.units;refine⟨_,(ad (ax 3 dZ.nd (ar (eI Z) (rm hr) rfl (ac (EU 0) (ac (ag 1) ae)))) (ad (ax 4 dZ.nd (ay bu (EU 0) (ag 2))) (ad (aM (aB (hX hU) (EU 0) bq (aw _)) (af (av (cM o_ge (ag 3) (ag 4) (aw _)))) aA) (af (av (cM uU (ag 3) (ag 4) (aw _))))))),?_⟩;obtain⟨k,ts,b,ks,vs,f,B,rfl,ht,hb,hB,q⟩:=h;unfold ky;walk_at "";refine⟨false,ts,ks,vs,f,rfl,ht,?_⟩;walk_at "";refine⟨E6 hb hB,?_⟩
 cases k with
 | least=>exact ifp rfl q
 | more=>exact EV (by decide) q
inductive bR(n:Nat)(ds:Zh)(R:D->Prop):Prop
 | mk (s:E8) (ks:Zb) (vs:Zh) (f:Str->Int) (B:Int) (names:Zb) (hh:ds=[s.D,.dct ks vs,.int B]/\s.dep<=n/\s.ok names/\(∀x∈s.nms,dAt ks vs x=some (.int (f x))/\Builtin.Int.intBits (f x)<=2000000)/\Builtin.Int.intBits B<=8000/\R (.bl (s.so f B)))
theorem gy(n:Nat):∀ds R,bR n ds R->ds.length=3:=λ_ _ ⟨_,_,_,_,_,_,e,_⟩=>by rw[e];rfl
theorem fX:∀ds R,¬ bR 0 ds R:=λ_ _ ⟨s,_,_,_,_,_,_,h,_⟩=>by have:=s.dep_pos;omega
theorem fj:au ["saying","tops","bottom","first"] ["saying","tops","bottom"] (am s_part_is_so):=by walk_at "sc"
theorem hZ(Z:Zz){n:Nat}(dN:Z.C (3+n) "part_is_so" ["saying","tops","bottom"] (Fx Z.K (bR n))):Z.C (3+n+1) "part_is_so" ["saying","tops","bottom"] (Fx Z.K (bR (n+1))):=by
 refine cH (k:=3+n) Z.x9 fj (gy (n+1)) λfa cdv A outer s H E ds R hr h=>?_;have hU:=hr.units;refine⟨_,(ad (aM (aU (ar (ee Z) (hr.mono (by omega)) rfl (ac (ag 0) ae))) (af (av (ar (kQ Z) (hr.mono (by omega)) rfl (ac (ag 0) (ac (ag 1) (ac (ag 2) ae)))))) aA) (ad (ax 3 fj.nd (ar dN (hr.mono (by omega)) rfl (ac (EU 0) (ac (ag 1) (ac (ag 2) ae))))) (ad (aM (aB (hX hU) (EU 0) bq (aw _)) (af (av (iE (ag 3)))) aA) (ad (aM (aB (hX hU) (EU 0) bq (aw _)) (af (av (iP (ag 3) (dD (ar dN (hr.mono (by omega)) rfl (ac (EU 0) (ac (ag 1) (ac (ag 2) ae)))))))) aA) (af (av (mU (ag 3) (dD (ar dN (hr.mono (by omega)) rfl (ac (EU 0) (ac (ag 1) (ac (ag 2) ae)))))))))))),?_⟩;obtain⟨s,ks,vs,f,B,names,rfl,hd,ok,hf,hB,q⟩:=h;refine ap λK1 h1=>?_;walk_at "";refine⟨s,rfl,?_⟩;walk_at ""
 cases s with
 | row k ts b =>
  refine ifp rfl ⟨k,ts,b,ks,vs,f,B,rfl,λt h1=>?_,FB ok.2 (by decide),hB,q⟩;obtain⟨h2,h3⟩:=hf t.1 (FC.mpr ⟨t,h1,rfl⟩);exact⟨h2,FB (ok.1.bits t h1) (by decide),h3⟩
 | nt s =>
  refine EV FG ?_;unfold E8.D;rw[h1];refine ap λK2 h2=>?_;walk_at "";have hd:s.dep+1<=n+1:=hd;refine⟨s,ks,vs,f,B,names,rfl,by omega,ok,hf,hB,?_⟩;walk_at "";rw[h2];refine ap λK3 h3=>?_;walk_at "";exact q
 | bo s t =>
  refine EV FG ?_;unfold E8.D;rw[h1];refine ap λK2 h2=>?_;walk_at "";have hd:max s.dep t.dep+1<=n+1:=hd;refine⟨s,ks,vs,f,B,names,rfl,by omega,ok.1,λx h=>hf x (F4 _ h),hB,?_⟩;walk_at "";rw[h2];refine ap λK3 h3=>?_;walk_at "";refine EV (by decide) ?_;rw[h3];refine ap λK4 h4=>?_;walk_at "";have q:R (.bl (s.so f B&&t.so f B)):=q
  cases e:s.so f B with
  | true =>
   rw[e,Bool.true_and] at q;exact ifp rfl ⟨t,ks,vs,f,B,names,rfl,by omega,ok.2,λx h=>hf x (FR _ h),hB,q⟩
  | false =>
   rw[e,Bool.false_and] at q;exact EV FG q
 | ei s t =>
  refine EV FG ?_;unfold E8.D;rw[h1];refine ap λK2 h2=>?_;walk_at "";have hd:max s.dep t.dep+1<=n+1:=hd;refine⟨s,ks,vs,f,B,names,rfl,by omega,ok.1,λx h=>hf x (F4 _ h),hB,?_⟩;walk_at "";rw[h2];refine ap λK3 h3=>?_;walk_at "";refine EV (by decide) ?_;rw[h3];refine ap λK4 h4=>?_;walk_at "";refine EV (by decide) ?_;rw[h4];walk_at "";have q:R (.bl (s.so f B||t.so f B)):=q
  cases e:s.so f B with
  | true =>
   rw[e,Bool.true_or] at q;exact ifp rfl q
  | false =>
   rw[e,Bool.false_or] at q;exact EV FG ⟨t,ks,vs,f,B,names,rfl,by omega,ok.2,λx h=>hf x (FR _ h),hB,q⟩
theorem jr(Z:Zz):Z.C 63 "part_is_so" ["saying","tops","bottom"] (Fx Z.K (bR 60)):=Nat.rec (motive:=λn=>Z.C (3+n) "part_is_so" ["saying","tops","bottom"] (Fx Z.K (bR n))) (kl Z.x9 _ fX) (λ_=>hZ Z) 60
inductive uS(ds:Zh)(R:D->Prop):Prop
 | mk (s:E8) (ks:Zb) (ps:Za) (names:Zb) (T κ:Nat) (hh:ds=[s.D,.dct ks (ps.map Fk)]/\s.dep<=60/\s.ok names/\names.length<=60/\(∀x∈s.nms,x∈ks)/\Pt ks ps T/\T<=1000000/\ib (bot (pB ks ps) ks)<=κ/\κ<=7990/\R (.bl (s.tv (pT ks ps) (pB ks ps))))
theorem nD:∀ds R,uS ds R->ds.length=2:=λ_ _ ⟨_,_,_,_,_,_,e,_⟩=>by rw[e];rfl
theorem oP:au ["saying","point","known"] ["saying","point"] (am s_is_so):=by walk_at "sc"
theorem uQ(Z:Zz):Z.C 64 "is_so" ["saying","point"] (Fx Z.K uS):=by
 refine cH Z.x10 oP nD λfa cdv A outer s H E ds R hr h=>?_;have hU:=hr.units;refine⟨_,(ad (ax 2 oP.nd (ar (iA Z) (rm hr) rfl (ac (ar (gi Z) (rm hr) rfl (ac (ag 0) ae)) (ac (ag 1) ae)))) (af (av (ar (jr Z) (rm hr) rfl (ac (ag 0) (ac (EU 2) (ac (EU 2) ae))))))),?_⟩;obtain⟨s,ks,ps,names,T,κ,rfl,hd,ok,hl,ab,hp,hT,hb,hκ,q⟩:=h;walk_at "";refine⟨names,s,rfl,hd,ok,hl,λss nd hm hs=>?_⟩;have aa:∀n∈ss,n∈ks:=λn hn=>ab n ((hm n).mp hn);have ah:ss.length<=60:=FB (kB nd λk hk=>E8.nms_sub ok k ((hm k).mp hk)) hl;refine⟨ss,ks,ps,T,κ,rfl,nd,by omega,aa,hp,hT,hb,hκ,?_⟩;walk_at "";have bp:=dr (q:=pB ks ps) (l:=ss) λn hn=>hp.pos (aa n hn);have bb:=pd (q:=pB ks ps) nd aa (λn hn=>hp.pos hn) hb;refine⟨s,ss,_,_,_,names,rfl,hd,ok,λx hx=>⟨d9 (λn=>D.int (ov (pT ks ps) (pB ks ps) (bot (pB ks ps) ss) n)) ((hm x).mpr hx),FB (F8 (hp.Tb (ab x hx)) (GA bb)) (by omega)⟩,FB bb (by omega),?_⟩;rw[E8.so_tv bp λn hn=>⟨hp.pos (ab n hn),gd ((hm n).mpr hn)⟩];exact q
def _root_.Mf.Kd.op:Kd->Kd
 | .least=>.more
 | .more=>.least
def opps:List (Str×Str):=[("least","more"),("more","least"),("both","either"),("either","both")]
theorem BR(k:Kd):PyProof.Rows.KTD.datumAt (kdS k) opps=some (kdS k.op):=by cases k<;>decide
def conD(k:Kd)(ts:List (Str×Int))(b:Int):D:=ky k.op (AL ts) (-b)
inductive jE(ds:Zh)(R:D->Prop):Prop
 | mk (k:Kd) (ts:List (Str×Int)) (b:Int) (hh:ds=[ky k ts b]/\ts.length<=100/\R (conD k ts b))
theorem jp:∀ds R,jE ds R->ds.length=1:=λ_ _ ⟨_,_,_,e,_⟩=>by rw[e];rfl
theorem gT:au ["row","terms"] ["row"] (am s_contrary):=by walk_at "sc"
theorem mw(Z:Zz):Z.C 1 "contrary" ["row"] (Fx Z.K jE):=by
 refine cH Z.x11 gT jp λfa cdv A outer s H E ds R hr h=>?_;have hU:=hr.units;refine⟨_,(ad (ax 1 gT.nd (c7 iY rfl Z.x53 eZ (ac (bO ["name","weight"] [] rfl rfl (by decide +kernel) rfl (by decide +kernel) (bI trivial) (λ_=>bU rfl) (aT trivial) (oV (EU 0)) λ_ _ _ _ _=>⟨(dz (n:=2) rfl (aC (aq 0 (show List.Nodup (["name","weight"]:Zb) by decide +kernel)) (aC (aq 1 (show List.Nodup (["name","weight"]:Zb) by decide +kernel)) bE))),fA,(aP (ac (ag 0) (ac (jl jv (ag 1)) ae)))⟩) ae))) (af (av (aP (ac (tN rfl Z.g_OPPOSITES (EU 0) (λ_ _=>rfl)) (ac (ag 1) (ac (jl jv (EU 0)) ae))))))),?_⟩;obtain⟨k,ts,b,rfl,hl,q⟩:=h;unfold ky;walk_at "";refine⟨by rw[Fy];omega,λd=>match d with | .tup [.str n,.int w]=>some (.tup [.str n,.int (-w)]) | _=>none,λx hx=>?_,?_⟩
 ·obtain⟨t,_,rfl⟩:=FC.mp hx;unfold tmD;walk_at ""
 ·rw[aX _ tmD (λt=>D.tup [.str t.1,.int (-t.2)]) _ (by intro _ _;rfl)];refine⟨_,BR k,?_⟩;unfold conD ky AL at q;rw[GC] at q;exact q
def E8.pl:E8->Bool->E8
 | .row k ts b,t=>if t=true then .row k.op (AL ts) (-b) else .row k ts b
 | .nt s,t=>s.pl (!t)
 | .bo s u,t=>if t=true then .ei (s.pl t) (u.pl t) else .bo (s.pl t) (u.pl t)
 | .ei s u,t=>if t=true then .bo (s.pl t) (u.pl t) else .ei (s.pl t) (u.pl t)
inductive bS(n:Nat)(ds:Zh)(R:D->Prop):Prop
 | mk (s:E8) (t:Bool) (names:Zb) (hh:ds=[s.D,.bl t]/\s.dep<=n/\s.ok names/\names.length<=100/\R (s.pl t).D)
theorem gw(n:Nat):∀ds R,bS n ds R->ds.length=2:=λ_ _ ⟨_,_,_,e,_⟩=>by rw[e];rfl
theorem fT:∀ds R,¬ bS 0 ds R:=λ_ _ ⟨s,_,_,_,h,_⟩=>by have:=s.dep_pos;omega
theorem sX(h:nN names ts):ts.length<=names.length:=by have:=h.sub.length_le;rw[Fy] at this;exact this
theorem ft:au ["saying","turned","word"] ["saying","turned"] (am s_plain_part):=by walk_at "sc"
theorem iX(Z:Zz){n:Nat}(dU:Z.C (2+n) "plain_part" ["saying","turned"] (Fx Z.K (bS n))):Z.C (2+n+1) "plain_part" ["saying","turned"] (Fx Z.K (bS (n+1))):=by
 refine cH (k:=2+n) Z.x12 ft (gw (n+1)) λfa cdv A outer s H E ds R hr h=>?_;have hU:=hr.units;refine⟨_,(ad (aM (aB (hX hU) (EU 0) bq (aw _)) (af (av (ar dU (hr.mono (by omega)) rfl (ac (EU 0) (ac (iE (ag 1)) ae))))) aA) (ad (aM (aU (ar (ee Z) (hr.mono (by omega)) rfl (ac (ag 0) ae))) (af (av (p8 (aU (ag 1)) (ar (mw Z) (hr.mono (by omega)) rfl (ac (ag 0) ae)) (ag 0)))) aA) (ad (ax 2 ft.nd (p8 (aU (ag 1)) (tN rfl Z.g_OPPOSITES (EU 0) (λ_ _=>rfl)) (EU 0))) (af (av (aP (ac (ag 2) (ac (ar dU (hr.mono (by omega)) rfl (ac (EU 0) (ac (ag 1) ae))) (ac (ar dU (hr.mono (by omega)) rfl (ac (EU 0) (ac (ag 1) ae))) ae))))))))),?_⟩;obtain⟨s,t,names,rfl,hd,ok,hl,q⟩:=h;refine ap λK1 h1=>?_
 cases s with
 | row k ts b =>
  have ab:=sX ok.1
  have aa:¬ kdS k=Str.ofString "not":=by cases k<;>decide
  unfold E8.D ky;walk_at "";refine EV aa ?_;rw[h1];refine ap λK2 h2=>?_;walk_at "";refine⟨.row k ts b,rfl,?_⟩;walk_at "";refine ifp rfl ?_
  cases t with
  | true=>exact ifp rfl ⟨k,ts,b,rfl,by omega,q⟩
  | false=>exact EV FG q
 | nt s =>
  unfold E8.D;walk_at "";have hd:s.dep+1<=n+1:=hd;exact⟨s,!t,names,rfl,by omega,ok,hl,q⟩
 | bo s u =>
  unfold E8.D;walk_at "";have hd:max s.dep u.dep+1<=n+1:=hd;refine EV (by decide) ?_;rw[h1];refine ap λK2 h2=>?_;walk_at "";refine⟨.bo s u,rfl,?_⟩;walk_at "";refine EV FG ?_;walk_at "";rw[h2];refine ap λK3 h3=>?_;walk_at ""
  cases t with
  | true =>
   refine ifp rfl ⟨"either",by decide,?_⟩;rw[h3];walk_at "";refine⟨s,true,names,rfl,by omega,ok.1,hl,?_⟩;refine⟨u,true,names,rfl,by omega,ok.2,hl,?_⟩;exact q
  | false =>
   refine EV FG ?_;rw[h3];walk_at "";refine⟨s,false,names,rfl,by omega,ok.1,hl,?_⟩;refine⟨u,false,names,rfl,by omega,ok.2,hl,?_⟩;exact q
 | ei s u =>
  unfold E8.D;walk_at "";have hd:max s.dep u.dep+1<=n+1:=hd;refine EV (by decide) ?_;rw[h1];refine ap λK2 h2=>?_;walk_at "";refine⟨.ei s u,rfl,?_⟩;walk_at "";refine EV FG ?_;walk_at "";rw[h2];refine ap λK3 h3=>?_;walk_at ""
  cases t with
  | true =>
   refine ifp rfl ⟨"both",by decide,?_⟩;rw[h3];walk_at "";refine⟨s,true,names,rfl,by omega,ok.1,hl,?_⟩;refine⟨u,true,names,rfl,by omega,ok.2,hl,?_⟩;exact q
  | false =>
   refine EV FG ?_;rw[h3];walk_at "";refine⟨s,false,names,rfl,by omega,ok.1,hl,?_⟩;refine⟨u,false,names,rfl,by omega,ok.2,hl,?_⟩;exact q
theorem ji(Z:Zz):Z.C 62 "plain_part" ["saying","turned"] (Fx Z.K (bS 60)):=Nat.rec (motive:=λn=>Z.C (2+n) "plain_part" ["saying","turned"] (Fx Z.K (bS n))) (kl Z.x12 _ fT) (λ_=>iX Z) 60
inductive uN(ds:Zh)(R:D->Prop):Prop
 | mk (s:E8) (names:Zb) (hh:ds=[s.D]/\s.dep<=60/\s.ok names/\names.length<=100/\R (s.pl false).D)
theorem nU:∀ds R,uN ds R->ds.length=1:=λ_ _ ⟨_,_,e,_⟩=>by rw[e];rfl
theorem vc:au ["saying"] ["saying"] (am s_plain):=by walk_at "sc"
theorem tD(Z:Zz):Z.C 63 "plain" ["saying"] (Fx Z.K uN):=by
 refine cH Z.x13 vc nU λfa cdv A outer s H E ds R hr h=>?_;have hU:=hr.units;refine⟨_,(af (av (ar (ji Z) (rm hr) rfl (ac (ag 0) (ac cv ae))))),?_⟩;obtain⟨s,names,rfl,hd,ok,hl,q⟩:=h;walk_at "";exact⟨s,false,names,rfl,hd,ok,hl,q⟩
theorem qj(ts:List (Str×Int)):(AL ts).map (·.1)=ts.map (·.1):=by unfold AL;rw[GC];rfl
theorem qt(h:nN names ts):nN names (AL ts):=by
 refine⟨by rw[qj];exact h.sub,λt ht=>?_,λt ht=>?_⟩
 ·obtain⟨u,hu,rfl⟩:=FC.mp ht;have:=h.nz u hu;show -u.2≠0;omega
 ·obtain⟨u,hu,rfl⟩:=FC.mp ht;exact GS (h.bits u hu)
theorem E8.pl_ok:∀ {s:E8} {t:Bool},s.ok names->(s.pl t).ok names
 | .row k ts b,true,h=>⟨qt h.1,GS h.2⟩
 | .row k ts b,false,h=>h
 | .nt s,t,h=>E8.pl_ok (s:=s) h
 | .bo s u,true,h=>⟨E8.pl_ok h.1,E8.pl_ok h.2⟩
 | .bo s u,false,h=>⟨E8.pl_ok h.1,E8.pl_ok h.2⟩
 | .ei s u,true,h=>⟨E8.pl_ok h.1,E8.pl_ok h.2⟩
 | .ei s u,false,h=>⟨E8.pl_ok h.1,E8.pl_ok h.2⟩
theorem E8.pl_dep:∀ {s:E8} {t:Bool},(s.pl t).dep<=s.dep
 | .row k ts b,true=>FH _
 | .row k ts b,false=>FH _
 | .nt s,t=>Nat.le_succ_of_le (E8.pl_dep (s:=s))
 | .bo s u,true=>by have:=E8.pl_dep (s:=s) (t:=true);have:=E8.pl_dep (s:=u) (t:=true);show max _ _+1<=max _ _+1;omega
 | .bo s u,false=>by have:=E8.pl_dep (s:=s) (t:=false);have:=E8.pl_dep (s:=u) (t:=false);show max _ _+1<=max _ _+1;omega
 | .ei s u,true=>by have:=E8.pl_dep (s:=s) (t:=true);have:=E8.pl_dep (s:=u) (t:=true);show max _ _+1<=max _ _+1;omega
 | .ei s u,false=>by have:=E8.pl_dep (s:=s) (t:=false);have:=E8.pl_dep (s:=u) (t:=false);show max _ _+1<=max _ _+1;omega
def iu(ns:Ze)(k:Int):Int:=ns.getD k.toNat 0
inductive iO(ds:Zh)(R:D->Prop):Prop
 | mk (ns:Ze) (k:Int) (hh:ds=[.fz (ns.map D.int),.int k]/\0<=k/\R (.int (iu ns k)))
theorem je:∀ds R,iO ds R->ds.length=2:=λ_ _ ⟨_,_,e,_⟩=>by rw[e];rfl
theorem xj{α:Type}{xs:List α}{k:Int}(h0:0<=k)(h:k<xs.length):E4 xs k=xs[k.toNat]?:=by
 unfold E4 ixN;rw[FP h0,FP h];rfl
theorem lQ:au ["_law_script","_law_k"] ["_law_script","_law_k"] (am s__law_cell):=by walk_at "sc"
theorem cE(Z:Zz):Z.C 1 "_law_cell" ["_law_script","_law_k"] (Fx Z.K iO):=by
 refine cH Z.x14 lQ je λfa cdv A outer s H E ds R hr h=>?_;have hU:=hr.units;refine⟨_,(ad (aM (aB uX (ag 1) (aK f9 rfl Z.x54 fL (ac (ag 0) ae)) (aw _)) (af (av (cA cz (ag 0) (ag 1) (λ_ _=>rfl)))) aA) (af (av ak))),?_⟩;obtain⟨ns,k,rfl,h0,q⟩:=h;walk_at "";refine dO (λc=>?_) (λc=>?_)
 ·rw[Fy] at c;refine E2.of (v:=.int (iu ns k)) ?_ q;rw[xj h0 (by rw[Fy];exact c),List.getElem?_map];have:k.toNat<ns.length:=by omega
  unfold iu;rw[List.getD_eq_getElem?_getD,List.getElem?_eq_getElem this];rfl
 ·rw[Fy] at c;have:ns.length<=k.toNat:=by omega
  unfold iu at q;rw[List.getD_eq_getElem?_getD,List.getElem?_eq_none this] at q;exact q
theorem AW{α:Type}{xs:List α}{k:Nat}:cut xs none (some (k:Int))=xs.take k:=by
 unfold cut;rw[HT.sIx_none,HT.sIx_nat,List.drop_zero,Nat.sub_zero]
 by_cases h:k<=xs.length
 ·rw[Ih h]
 ·rw[Nat.min_eq_right (by omega),FZ,HQ (by omega)]
theorem mS{α β:Type}{f:α->β}{xs:List α}{k:Nat}(h:k<xs.length):E4 (xs.map f) (k:Int)=some (f xs[k]):=by
 rw[xj (by omega) (by rw[Fy];omega),List.getElem?_map,Hi,List.getElem?_eq_getElem h];rfl
def E8.cs:E8->List (List E8)
 | .row k ts b=>[[.row k ts b]]
 | .nt _=>[]
 | .bo s t=>s.cs.flatMap λc=>t.cs.map λd=>c++d
 | .ei s t=>s.cs++t.cs
def E8.pn:E8->Bool
 | .row _ _ _=>true
 | .nt _=>false
 | .bo s t=>s.pn&&t.pn
 | .ei s t=>s.pn&&t.pn
def E8.num:E8->Nat
 | .bo s t=>s.num*t.num
 | .ei s t=>s.num+t.num
 | _=>1
def E8.long:E8->Nat
 | .bo s t=>s.long+t.long
 | .ei s t=>max s.long t.long
 | _=>1
theorem E8.num_pos:∀s:E8,0<s.num
 | .row _ _ _=>Nat.one_pos
 | .nt _=>Nat.one_pos
 | .bo s t=>Nat.mul_pos s.num_pos t.num_pos
 | .ei s t=>Nat.add_pos_left s.num_pos _
theorem yq{α β γ:Type}(f:α->β->γ)(m:List β):∀l:List α,(l.flatMap λc=>m.map λd=>f c d).length=l.length*m.length
 | []=>(Nat.zero_mul _).symm
 | c::l=>by rw[List.flatMap_cons,FF,Fy,yq f m l,FL,Nat.succ_mul,Nat.add_comm]
theorem E8.cs_num:∀ {s:E8},s.pn=true->s.cs.length=s.num
 | .row _ _ _,_=>rfl
 | .bo s t,h=>by
  obtain⟨h1,h2⟩:=Gp.mp h;show (s.cs.flatMap λc=>t.cs.map λd=>c++d).length=s.num*t.num;rw[yq,E8.cs_num h1,E8.cs_num h2]
 | .ei s t,h=>by
  obtain⟨h1,h2⟩:=Gp.mp h;show (s.cs++t.cs).length=s.num+t.num;rw[FF,E8.cs_num h1,E8.cs_num h2]
theorem E8.cs_long:∀ {s:E8},s.pn=true->∀c∈s.cs,c.length<=s.long
 | .row _ _ _,_,c,h=>by rw[F1.mp h];exact FH 1
 | .bo s t,h,c,hc=>by
  obtain⟨h1,h2⟩:=Gp.mp h;obtain⟨x,hx,hy⟩:=List.mem_flatMap.mp hc;obtain⟨y,hz,rfl⟩:=FC.mp hy;have:=E8.cs_long h1 x hx;have:=E8.cs_long h2 y hz;rw[FF];show _<=s.long+t.long;omega
 | .ei s t,h,c,hc=>by
  obtain⟨h1,h2⟩:=Gp.mp h;show _<=max s.long t.long
  rcases FV.mp hc with hc | hc
  ·have:=E8.cs_long h1 c hc;omega
  ·have:=E8.cs_long h2 c hc;omega
theorem E8.pl_pn:∀ {s:E8} {t:Bool},(s.pl t).pn=true
 | .row k ts b,true=>rfl
 | .row k ts b,false=>rfl
 | .nt s,t=>E8.pl_pn (s:=s)
 | .bo s u,true=>by show ((s.pl true).pn&&(u.pl true).pn)=true;rw[E8.pl_pn,E8.pl_pn];rfl
 | .bo s u,false=>by show ((s.pl false).pn&&(u.pl false).pn)=true;rw[E8.pl_pn,E8.pl_pn];rfl
 | .ei s u,true=>by show ((s.pl true).pn&&(u.pl true).pn)=true;rw[E8.pl_pn,E8.pl_pn];rfl
 | .ei s u,false=>by show ((s.pl false).pn&&(u.pl false).pn)=true;rw[E8.pl_pn,E8.pl_pn];rfl
def dI(c:List E8):D:=.lst (c.map E8.D)
def csD(cs:List (List E8)):D:=.lst (cs.map dI)
inductive eG(ds:Zh)(R:D->Prop):Prop
 | mk (A B:List (List E8)) (hh:ds=[csD A,csD B]/\A.length<=20/\B.length<=20/\(∀c∈A,c.length<=20)/\(∀c∈B,c.length<=20)/\R (csD (A.flatMap λc=>B.map λd=>c++d)))
theorem fJ:∀ds R,eG ds R->ds.length=2:=λ_ _ ⟨_,_,e,_⟩=>by rw[e];rfl
theorem wR{cs:List (List E8)}{i:Nat}{d:D}(h:(cs.map dI)[i]?=some d):∃c,cs[i]?=some c/\d=.lst (c.map E8.D):=by
 rw[List.getElem?_map] at h
 cases e:cs[i]? with
 | none=>rw[e] at h;cases h
 | some n=>rw[e] at h;exact⟨n,rfl,(FU h).symm⟩
theorem b8:au ["one","other","told","first","second"] ["one","other"] (am s_put_together):=by walk_at "sc"
theorem gD(Z:Zz):Z.C 1 "put_together" ["one","other"] (Fx Z.K eG):=by
 refine cH Z.x15 b8 fJ λfa cdv A outer s H E ds R hr h=>?_;have hU:=hr.units;refine⟨_,(ad (eP 2 b8.nd ae) (ad (bA FY rfl (ag 0) (aq 3 b8.nd) (af (bA FY rfl (ag 1) (aq 4 b8.nd) (af (bT 2 (ay aN (ag 3) (ag 4))))))) (af (jZ 2)))),?_⟩;obtain⟨A,B,rfl,hA,hB,lA,lB,q⟩:=h;unfold csD at q ⊢;walk_at "";intro a;walk_at "";simp only[qm];walk_at "";have fl:∀i,((A.take i).flatMap λc=>B.map λd=>c++d).length<=400:=λi=>by
  rw[yq,Ge];exact Nat.mul_le_mul (show min i A.length<=20 by omega) hB
 refine⟨λi δ=>∃x y,δ=[.dat (.lst (A.map dI)),.dat (.lst (B.map dI)),.own a (.lst (((A.take i).flatMap λc=>B.map λd=>c++d).map dI)),x,y],⟨_,_,rfl⟩,?_,?_⟩
 ·rintro i d δ hd ⟨x,y,rfl⟩;obtain⟨c,hc,rfl⟩:=wR hd;have ah:=lA c (FM hc);have ab:=fl i;walk_at "";refine⟨λj δ=>∃x,δ=[.dat (.lst (A.map dI)),.dat (.lst (B.map dI)),.own a (.lst (((A.take i).flatMap (λc=>B.map λd=>c++d)++(B.take j).map λd=>c++d).map dI)),.dat (.lst (c.map E8.D)),x],⟨_,by rw[Hn,Hc,Gj]⟩,?_,?_⟩
  ·rintro j d δ hd ⟨x,rfl⟩;obtain⟨e,he,rfl⟩:=wR hd;have aa:=lB e (FM he);walk_at "";refine⟨by simp only[List.length_map];omega,by simp only[List.length_map,List.length_append,List.length_take];omega,?_⟩;rw[aG he,F3,F3,F3];simp only[dI,List.map_append,List.map_cons,List.map_nil,List.append_assoc]
  ·rintro δ ⟨x,rfl⟩;rw[Fy,FZ];rw[aG hc,List.flatMap_append,List.flatMap_singleton];exact⟨_,_,rfl⟩
 ·rintro δ ⟨x,y,rfl⟩;rw[Fy,FZ];walk_at "";exact q
inductive bf(n:Nat)(ds:Zh)(R:D->Prop):Prop
 | mk (s:E8) (w:D) (hh:ds=[s.D,w]/\s.dep<=n/\s.pn=true/\s.num<=4/\s.long<=3/\R (csD s.cs))
theorem fk(n:Nat):∀ds R,bf n ds R->ds.length=2:=λ_ _ ⟨_,_,e,_⟩=>by rw[e];rfl
theorem eW:∀ds R,¬ bf 0 ds R:=λ_ _ ⟨s,_,_,h,_⟩=>by have:=s.dep_pos;omega
theorem tF{cs:List (List E8)}{P:Prop}(h4:cs.length<=4)(h3:∀c∈cs,c.length<=3)(h0:0<cs.length)(q:P):¬ (4:Int)<(cs.map dI).length/\(cs.map dI).length<=9000/\∃f:D->Option D,(∀x∈cs.map dI,AJ [x] (kD (wd λy δ4=>okT 1 δ4 []/\f x=some y) [.dat x]))/\∃ns:Ze,(cs.map dI).filterMap f=ns.map D.int/\0<ns.length/\∀M∈ns,(∀a∈ns,a<=M)->if 3<M then False else P:=by
 refine⟨by rw[Fy];omega,by rw[Fy];omega,λd=>match d with | .lst l=>some (.int l.length) | _=>none,λx hx=>?_,cs.map λc=>(c.length:Int),?_,by rw[Fy];exact h0,λM hM _=>?_⟩
 ·obtain⟨c,_,rfl⟩:=FC.mp hx;exact⟨rfl,rfl⟩
 ·rw[aX _ dI (λc=>D.int (c.length:Int)) _ (by intro c _;show some (D.int ((c.map E8.D).length:Int))=_;rw[Fy]),GC];rfl
 ·obtain⟨c,hc,rfl⟩:=FC.mp hM;have:=h3 c hc;exact EV (by omega) q
theorem E8.cs_pos{s:E8}(h:s.pn=true):0<s.cs.length:=by rw[E8.cs_num h];exact s.num_pos
theorem bW:au ["part","whole","one","other","told"] ["part","whole"] (am s_cases_within):=by walk_at "sc"
theorem f8(Z:Zz){n:Nat}(eK:Z.C (2+n) "cases_within" ["part","whole"] (Fx Z.K (bf n))):Z.C (2+n+1) "cases_within" ["part","whole"] (Fx Z.K (bf (n+1))):=by
 refine cH (k:=2+n) Z.x16 bW (fk (n+1)) λfa cdv A outer s H E ds R hr h=>?_;have hU:=hr.units;refine⟨_,(ad (aM (aU (ar (ee Z) (hr.mono (by omega)) rfl (ac (ag 0) ae))) (af (av (bJ (ac (bJ (ac (ag 0) ae)) ae)))) aA) (ad (ax 2 bW.nd (ar eK (hr.mono (by omega)) rfl (ac (EU 0) (ac (ag 1) ae)))) (ad (ax 3 bW.nd (ar eK (hr.mono (by omega)) rfl (ac (EU 0) (ac (ag 1) ae)))) (ad (ax 4 bW.nd (p8 (aB (hX hU) (EU 0) bq (aw _)) (ar (gD Z) (hr.mono (by omega)) rfl (ac (ag 2) (ac (ag 3) ae))) (ay aN (ag 2) (ag 3)))) (ad (aM (DW.dt (fS (aB uU (aK f9 rfl Z.x54 fL (ac (ag 4) ae)) (ug rfl Z.g_MOST_CASES) (aw _)) (dR (aB uU (aK (EK rfl) rfl Z.x55 D5 (ac (bO ["case"] [] rfl rfl (by decide +kernel) rfl (by decide +kernel) (bI trivial) (λ_=>bU rfl) (aT trivial) (dw (ag 4)) λ_ _ _ _ _=>⟨(aq 0 (show List.Nodup (["case"]:Zb) by decide +kernel)),fA,(aK f9 rfl Z.x54 fL (ac (ag 0) ae))⟩) ae)) (ug rfl Z.g_MOST_ROWS) (aw _))))) jc aA) (af (av (ag 4)))))))),?_⟩;obtain⟨s,w,rfl,hd,hp,hn,hl,q⟩:=h;walk_at "";refine⟨s,rfl,?_⟩;walk_at ""
 cases s with
 | nt s=>cases hp
 | row k ts b=>exact ifp rfl q
 | bo s t =>
  refine EV FG ?_;unfold E8.D;walk_at "";obtain⟨p1,p2⟩:=Gp.mp hp;have hd:max s.dep t.dep+1<=n+1:=hd;have aa:s.num*t.num<=4:=hn;have ah:s.long+t.long<=3:=hl;have ai:s.num<=4:=FB (Nat.le_mul_of_pos_right _ t.num_pos) aa;have ab:t.num<=4:=FB (Nat.le_mul_of_pos_left _ s.num_pos) aa;refine⟨s,w,rfl,by omega,p1,ai,by omega,?_⟩;refine⟨t,w,rfl,by omega,p2,ab,by omega,?_⟩;refine⟨s.cs,t.cs,rfl,by rw[E8.cs_num p1];omega,by rw[E8.cs_num p2];omega,λc hc=>by have:=E8.cs_long p1 c hc;omega,λc hc=>by have:=E8.cs_long p2 c hc;omega,?_⟩;have h4:(E8.bo s t).cs.length<=4:=by rw[E8.cs_num hp];exact hn
  have h3:∀c∈(E8.bo s t).cs,c.length<=3:=λc hc=>FB (E8.cs_long hp c hc) hl
  obtain⟨e1,e2⟩:=tF h4 h3 (E8.cs_pos hp) q;show kD _ _ (csD (E8.bo s t).cs);unfold csD;walk_at "";exact EV e1 e2
 | ei s t =>
  refine EV FG ?_;unfold E8.D;walk_at "";obtain⟨p1,p2⟩:=Gp.mp hp;have hd:max s.dep t.dep+1<=n+1:=hd;have aa:s.num+t.num<=4:=hn;have ah:max s.long t.long<=3:=hl;refine⟨s,w,rfl,by omega,p1,by omega,by omega,?_⟩;refine⟨t,w,rfl,by omega,p2,by omega,by omega,?_⟩;have h4:(E8.ei s t).cs.length<=4:=by rw[E8.cs_num hp];exact hn
  have h3:∀c∈(E8.ei s t).cs,c.length<=3:=λc hc=>FB (E8.cs_long hp c hc) hl
  obtain⟨e1,e2⟩:=tF h4 h3 (E8.cs_pos hp) q;unfold csD;walk_at "";refine EV (by decide) ?_;have e0:s.cs.map dI++t.cs.map dI=(E8.ei s t).cs.map dI:=(F3 ..).symm;rw[e0];have h5:s.cs.length+t.cs.length<=4:=by rw[<- FF];exact h4
  refine⟨by rw[Fy,Fy];omega,?_⟩;exact EV e1 e2
theorem gx(Z:Zz):Z.C 62 "cases_within" ["part","whole"] (Fx Z.K (bf 60)):=Nat.rec (motive:=λn=>Z.C (2+n) "cases_within" ["part","whole"] (Fx Z.K (bf n))) (kl Z.x16 _ eW) (λ_=>f8 Z) 60
inductive rO(ds:Zh)(R:D->Prop):Prop
 | mk (s:E8) (names:Zb) (hh:ds=[s.D]/\s.dep<=60/\s.ok names/\names.length<=100/\(s.pl false).num<=4/\(s.pl false).long<=3/\R (csD (s.pl false).cs))
theorem mW:∀ds R,rO ds R->ds.length=1:=λ_ _ ⟨_,_,e,_⟩=>by rw[e];rfl
theorem vd:au ["saying"] ["saying"] (am s_cases):=by walk_at "sc"
theorem rM(Z:Zz):Z.C 64 "cases" ["saying"] (Fx Z.K rO):=by
 refine cH Z.x17 vd mW λfa cdv A outer s H E ds R hr h=>?_;have hU:=hr.units;refine⟨_,(af (av (ar (gx Z) (rm hr) rfl (ac (ar (tD Z) (rm hr) rfl (ac (ag 0) ae)) (ac (ag 0) ae))))),?_⟩;obtain⟨s,names,rfl,hd,ok,hl,hn,hg,q⟩:=h;walk_at "";refine⟨s,names,rfl,hd,ok,hl,?_⟩;exact⟨s.pl false,s.D,rfl,FB E8.pl_dep hd,E8.pl_pn,hn,hg,q⟩
inductive sA(ds:Zh)(R:D->Prop):Prop
 | mk (rows:List Rw) (ws:Ze) (nm:Zb) (hh:ds=[.lst (rows.map rwD),.tup (ws.map D.int)]/\nm.length<=60/\(∀r∈rows,RwOk nm 60000000 r)/\(∀w∈ws,Builtin.Int.intBits w<=60000000) /\
 ∀ts,eQ (cfs (rows.zip ws)) ts->R (ky (kOf (Fe (rows.zip ws))) ts (bds (rows.zip ws))))
theorem nQ:∀ds R,sA ds R->ds.length=2:=λ_ _ ⟨_,_,_,e,_⟩=>by rw[e];rfl
theorem bZ:au ["rows","weights","word","sums","bound","row","often","name","weight","terms"] ["rows","weights"] (am s_added):=by walk_at "sc"
theorem tQ(Z:Zz):Z.C 1 "added" ["rows","weights"] (Fx Z.K sA):=by
 refine cH Z.x18 bZ nQ λfa cdv A outer s H E ds R hr h=>?_;have hU:=hr.units;refine⟨_,(ad (ax 2 bZ.nd bq) (ad (nv 3 bZ.nd) (ad (ax 4 bZ.nd ak) (ad (oY FY rfl (xv true false rfl Z.x56 (ac (ag 0) (ac (ag 1) ae))) (dz (n:=2) rfl (aC (aq 5 bZ.nd) (aC (aq 6 bZ.nd) bE))) (ad (aM (DW.dt (fF (aB (hX hU) (EU 5) bq (aw _)) (dQ (aB uU (ag 6) ak (aw _))))) (af (ax 2 bZ.nd bq)) aA) (ad (jP FY rfl (EU 5) (dz (n:=2) rfl (aC (aq 7 bZ.nd) (aC (aq 8 bZ.nd) bE))) (af (mH 3 hU (ay aN (yA 3 hU (ag 7) ak) (ay bu (ag 6) (ag 8))) (ag 7)))) (af (ax 4 bZ.nd (ay aN (ag 4) (ay bu (ag 6) (EU 5)))))))) (cc 3 (ad (ax 9 bZ.nd (c7 iY rfl Z.x53 eZ (ac (bO ["name"] [(3,"sums")] rfl rfl (by decide +kernel) rfl (by decide +kernel) (bI ⟨rfl,trivial⟩) (λ_=>bU rfl) (aT ⟨⟨rfl,rfl,.inl rfl⟩,trivial⟩) (dw (aK (oW rfl) rfl Z.x52 jQ (ac (ag 3) ae))) λ_ _ _ _ _=>⟨(aq 0 (show List.Nodup (["name","sums"]:Zb) by decide +kernel)),(dL (aB (kG hU) (ix hU (ag 1) (ag 0) (λ_ _=>rfl)) ak (aw _))),(aP (ac (ag 0) (ac (ix hU (ag 1) (ag 0) (λ_ _=>rfl)) ae)))⟩) ae))) (af (av (aP (ac (ag 2) (ac (ag 9) (ac (ag 4) ae)))))))))))),?_⟩;obtain⟨rows,ws,nm,rfl,an,hr,hw,q⟩:=h;refine ap λK1 h1=>?_;walk_at "";rw[h1];refine ap λK3 h3=>?_;walk_at "";intro da;rw[h3];refine ap λK4 h4=>?_;walk_at "";rw[h4];refine ap λK5 h5=>?_;refine kj λB N hB hN=>?_;walk_at "";simp only[uM];walk_at "";rw[u7];generalize hl:rows.zip ws=l at q ⊢;have ai:∀p∈l,RwOk nm 60000000 p.1/\Builtin.Int.intBits p.2<=60000000:=λp hp=>by
  rw[<- hl] at hp;exact⟨hr _ (Gk hp).1,hw _ (Gk hp).2⟩
 clear hl hr hw
 refine⟨λi δ=>∃ks u v w z y,δ=[.dat (.lst (rows.map rwD)),.dat (.tup (ws.map D.int)),.dat (.str (kdS (kOf (Fe (l.take i))))),.own da (.dct ks (ks.map λn=>.int (cfs (l.take i) n))),.dat (.int (bds (l.take i))),u,v,w,z,y]/\ks.Nodup/\(∀n∈ks,n∈nm)/\∀n,n∉ks->cfs (l.take i) n=0,
  ⟨[],_,_,_,_,_,rfl,List.nodup_nil,λn h=>(nomatch h),λn h=>rfl⟩,?_,?_⟩
 ·rintro i d δ hd ⟨ks,u,v,w,z,y,rfl,nd,hs,h0⟩;rw[List.getElem?_map] at hd
  cases hn:l[i]? with
  | none=>rw[hn] at hd;cases hd
  | some p =>
   rw[hn] at hd
   cases hd
   obtain⟨⟨k,ts,b⟩,c⟩:=p;obtain⟨ok,bc⟩:=ai _ (FM hn);have aa:=aG hn;rw[hB];show qJ _ _ (.tup [.tup [.str (kdS k),.tup (ts.map tmD),.int b],.int c]) _ _;refine cG λK hK=>?_;walk_at "";have go:∀wd,wd=kdS (kOf (Fe (l.take (i+1))))->K [.dat (.lst (rows.map rwD)),.dat (.tup (ws.map D.int)),.dat (.str wd),.own da (.dct ks (ks.map λn=>.int (cfs (l.take i) n))),.dat (.int (bds (l.take i))),.dat (.tup [.str (kdS k),.tup (ts.map tmD),.int b]),.dat (.int c),w,z,y]:=?_
   ·have e:Fe (l.take (i+1))=(Fe (l.take i)||(isM k&&decide (0<c))):=by rw[aa,zz,Ah]
    cases k with
    | least =>
     refine EV (by decide) (go _ ?_);rw[e];simp only[isM,Bool.false_and,Bool.or_false]
    | more =>
     refine ifp rfl (dO (λhc=>go _ ?_) λhc=>go _ ?_)
     ·rw[e,F6 hc];simp only[isM,Bool.and_true,Bool.or_true];rfl
     ·rw[e,F5 hc];simp only[isM,Bool.and_false,Bool.or_false]
   intro wd al;rw[hK];refine ap λK2 hK2=>?_;walk_at "";simp only[uL];walk_at ""
   refine⟨λj δ=>∃ks w z y,δ=[.dat (.lst (rows.map rwD)),.dat (.tup (ws.map D.int)),.dat (.str wd),.own da (.dct ks (ks.map λn=>.int (cfs (l.take i) n+c*cf (ts.take j) n))),.dat (.int (bds (l.take i))),.dat (.tup [.str (kdS k),.tup (ts.map tmD),.int b]),.dat (.int c),w,z,y]/\ks.Nodup/\(∀n∈ks,n∈nm)/\∀n,n∉ks->cfs (l.take i) n+c*cf (ts.take j) n=0,
    ⟨ks,w,z,y,by simp only[List.take_zero,cf,Int.mul_zero,Int.add_zero],nd,hs,λn hn=>by rw[h0 n hn,Hn];show 0+c*0=0;omega⟩,?_,?_⟩
   ·rintro j d δ hd ⟨ks,w,z,y,rfl,nd,hs,h0⟩;obtain⟨t,ht,rfl⟩:=fw hd;have ah:=FM ht;have hj:=aG ht;walk_at "";rw[vi (h0 t.1)];walk_at "";refine⟨E6 bc (ok.bw t ah),by have:=kB nd hs;omega,?_,sW nd,λn hn=>?_,λn hn=>?_⟩
    ·have e:∀n,cfs (l.take i) n+c*cf (ts.take (j+1)) n=(cfs (l.take i) n+c*cf (ts.take j) n)+c*(if t.1=n then t.2 else 0):=λn=>by
      rw[hj,sP,Int.mul_add];show _+(_+c*((if t.1=n then t.2 else 0)+0))=_;rw[Hx,Int.add_assoc]
     have:=zC (ks:=ks) (x:=t.1) (f:=λn=>D.int (cfs (l.take i) n+c*cf (ts.take j) n)) (g:=λn=>D.int (cfs (l.take i) n+c*cf (ts.take (j+1)) n)) (λn hn=>by rw[e,FN (λz=>hn z.symm),Int.mul_zero,Hx])
     rw[<- this,e,FP rfl]
    ·rcases pD.mp hn with h | h
     ·exact hs n h
     ·rw[h];exact ok.sub t ah
    ·rw[pD,not_or] at hn;rw[hj,sP,Int.mul_add,<- Int.add_assoc,h0 n hn.1];show 0+c*((if t.1=n then t.2 else 0)+0)=0;rw[FN (λz=>hn.2 z.symm)];omega
   ·rintro δ ⟨ks,w,z,y,rfl,nd,hs,h0⟩;have e1:ts.take (ts.map tmD).length=ts:=by rw[Fy,FZ]
    rw[e1] at h0 ⊢;rw[hK2];walk_at "";have e2:∀n,cfs (l.take (i+1)) n=cfs (l.take i) n+c*cf ts n:=λn=>by
     rw[aa,tK];show _+(c*cf ts n+0)=_;rw[Hx]
    simp only[e2];rw[aa,sE];exact⟨E6 bc ok.bb,by rw[<- aa];exact al,trivial,(by show _=_+(c*b+0);rw[Hx]),nd,hs,λn hn=>h0 n hn⟩
 ·rintro δ ⟨ks,u,v,w,z,y,rfl,nd,hs,h0⟩;rw[Fy,FZ] at h0 ⊢;rw[hN];show K5 _;rw[h5];walk_at "";have hk:=kB nd hs;refine⟨by omega,λss' pm st=>?_⟩;have aj:=pm.length_eq;refine⟨by rw[Fy];omega,λd=>match d with | .str n=>if cfs l n≠0 then some (.tup [.str n,.int (cfs l n)]) else none | _=>none,λx hx=>?_,?_⟩
  ·obtain⟨n,hn,rfl⟩:=FC.mp hx;have ab:n∈ks:=pm.mem_iff.mp hn;walk_at "";refine⟨_,d9 (λn=>D.int (cfs l n)) ab,?_⟩;walk_at "";refine dO (λhz=>?_) λhz=>?_
   ·exact⟨_,d9 (λn=>D.int (cfs l n)) ab,by rw[FP hz]⟩
   ·rw[FN hz]
  ·have e:(ss'.map D.str).filterMap (λd=>match d with | .str n=>if cfs l n≠0 then some (D.tup [.str n,.int (cfs l n)]) else none | _=>none)=((ss'.filter λn=>decide (cfs l n≠0)).map λn=>(n,cfs l n)).map tmD:=by
    clear aj pm st
    induction ss' with
    | nil=>rfl
    | cons n r ih =>
     rw[F7,Gn];simp only
     by_cases hz:cfs l n≠0
     ·rw[FP hz,Gc (by simpa using hz)];simp only[List.map_cons];rw[ih];rfl
     ·rw[FN hz,F0 (by simpa using hz)];exact ih
   rw[e];exact q _ (eQ.mk' (xf st) (pm.nodup_iff.mpr nd) λn hn=>pm.mem_iff.mpr (FE λz=>hn (h0 n z)))
def smD(nm:Zb)(rows:List Rw)(w:Ze):D:=.tup [rwD (ET nm rows w),.tup (w.map D.int)]
inductive iZ(ds:Zh)(R:D->Prop):Prop
 | mk (n:Str) (r:Rw) (hh:ds=[.str n,rwD r]/\(r.2.1.map (·.1)).Nodup/\R (.int (cf r.2.1 n)))
theorem iC:∀ds R,iZ ds R->ds.length=2:=λ_ _ ⟨_,_,e,_⟩=>by rw[e];rfl
theorem dW:au ["name","row","found","weight"] ["name","row"] (am s_weight_of):=by walk_at "sc"
theorem a8(Z:Zz):Z.C 1 "weight_of" ["name","row"] (Fx Z.K iZ):=by
 refine cH Z.x19 dW iC λfa cdv A outer s H E ds R hr h=>?_;have hU:=hr.units;refine⟨_,(ad (jP FY rfl (EU 1) (dz (n:=2) rfl (aC (aq 2 dW.nd) (aC (aq 3 dW.nd) bE))) (af (aM (aB (hX hU) (ag 2) (ag 0) (aw _)) (af (av (ag 3))) aA))) (af (av ak))),?_⟩;obtain⟨n,⟨k,ts,b⟩,rfl,nd,q⟩:=h;unfold rwD ky;walk_at "";simp only[uL];walk_at "";refine⟨λi δ=>∃x y,δ=[.dat (.str n),.dat (.tup [.str (kdS k),.tup (ts.map tmD),.int b]),x,y]/\n∉(ts.take i).map (·.1),⟨_,_,rfl,by simp⟩,?_,?_⟩
 ·rintro i d δ hd ⟨x,y,rfl,hn⟩;obtain⟨t,ht,rfl⟩:=fw hd;walk_at "";refine dO (λe=>?_) (λe=>?_)
  ·subst e;have:=lE nd (FM ht);simp only at q this;rw[this] at q;exact q
  ·rw[aG ht,F3,FV,not_or];exact⟨hn,λz=>e (F1.mp z).symm⟩
 ·rintro δ ⟨x,y,rfl,hn⟩;rw[Fy,FZ] at hn;have:=gN hn;simp only at q;rw[this] at q;exact q
theorem BL{α:Type}{f:α->D}{l:List α}{i:Nat}{d:D}(h:(enD (l.map f))[i]?=some d):∃r,l[i]?=some r/\d=.tup [.int (i:Nat),f r]:=by
 unfold enD at h;rw[List.getElem?_mapIdx,List.getElem?_map] at h
 cases e:l[i]? with
 | none=>rw[e] at h;cases h
 | some r=>rw[e] at h;exact⟨r,rfl,(FU h).symm⟩
theorem Df{xs:Zh}:(enD xs).length=xs.length:=by unfold enD;rw[List.length_mapIdx]
inductive tj(ds:Zh)(R:D->Prop):Prop
 | mk (rows:List Rw) (nm:Zb) (hh:ds=[.lst (rows.map rwD)]/\Ft nm rows/\rows.length<=60/\R (.lst ((uW rows.length).map (smD nm rows))))
theorem m5:∀ds R,tj ds R->ds.length=1:=λ_ _ ⟨_,_,e,_⟩=>by rw[e];rfl
theorem gH:au ["rows","told","place","row"] ["rows"] (am s_alone):=by walk_at "sc"
theorem t5(Z:Zz):Z.C 1 "alone" ["rows"] (Fx Z.K tj):=by
 refine cH Z.x20 gH m5 λfa cdv A outer s H E ds R hr h=>?_;have hU:=hr.units;refine⟨_,(ad (eP 1 gH.nd ae) (ad (oY FY rfl (zW true rfl Z.x57 (ac (ag 0) ae)) (dz (n:=2) rfl (aC (aq 2 gH.nd) (aC (aq 3 gH.nd) bE))) (af (bT 1 (aP (ac (ag 3) (ac (c7 iY rfl Z.x53 eZ (ac (bO ["other"] [(2,"place")] rfl rfl (by decide +kernel) rfl (by decide +kernel) (bI ⟨rfl,trivial⟩) (λ_=>bU rfl) (aT ⟨⟨rfl,rfl,.inl rfl⟩,trivial⟩) (j8 rfl Z.x58 (ac (aK f9 rfl Z.x54 fL (ac (ag 0) ae)) ae)) λ_ _ _ _ _=>⟨(aq 0 (show List.Nodup (["other","place"]:Zb) by decide +kernel)),fA,(p8 (aB (hX hU) (ag 0) (ag 1) (aw _)) ak ak)⟩) ae)) ae)))))) (af (jZ 1)))),?_⟩;obtain⟨rows,nm,rfl,H,hl,q⟩:=h;walk_at "";intro ta;refine kj λB N hB hN=>?_;walk_at "";simp only[uM];walk_at "";refine⟨λi δ=>∃x y,δ=[.dat (.lst (rows.map rwD)),.own ta (.lst (((uW rows.length).take i).map (smD nm rows))),x,y],⟨_,_,rfl⟩,?_,?_⟩
 ·rintro i d δ hd ⟨x,y,rfl⟩;obtain⟨r,hr,rfl⟩:=BL hd;rw[hB];walk_at "";have aa:i<rows.length:=(List.getElem?_eq_some_iff.mp hr).1;rw[Fy];refine⟨by omega,by omega,by simp;omega,λd=>match d with | .int o=>some (.int (if o=(i:Int) then 1 else 0)) | _=>none,λx hx=>?_,?_⟩
  ·obtain⟨o,ho,rfl⟩:=FC.mp hx;walk_at "";refine dO (λe=>?_) (λe=>?_)
   ·rw[FP e]
   ·rw[FN e]
  ·have e1:((List.range (rows.length:Int).toNat).map λ(k:Nat)=>D.int (k:Int)).filterMap (λd=>match d with | .int o=>some (D.int (if o=(i:Int) then 1 else 0)) | _=>none)=(unW rows.length i).map D.int:=by
    unfold unW;rw[GC,Hi];rw[aX _ (λ(k:Nat)=>D.int (k:Int)) (λk=>D.int (if k=i then 1 else 0)) _ λk _=>?_]
    ·rfl
    ·show some (D.int (if (k:Int)=(i:Int) then 1 else 0))=_
     by_cases e:k=i
     ·rw[FP e,FP (by omega)]
     ·rw[FN e,FN (by omega)]
   have hu:(uW rows.length)[i]?=some (unW rows.length i):=by unfold uW;rw[List.getElem?_map,List.getElem?_range aa];rfl
   rw[e1,aG hu,F3];refine⟨by rw[Fy,Ge];omega,?_⟩;show _++[D.tup [rwD r,_]]=_++[smD nm rows (unW rows.length i)];unfold smD;rw[ko H hr]
 ·rintro δ ⟨x,y,rfl⟩;rw[Df,Fy,hN];walk_at "";have e:(uW rows.length).take rows.length=uW rows.length:=HQ (by unfold uW;simp);rw[e];exact q
theorem wG{ws:Ze}{i:Nat}{d:D}(h:(ws.map D.int)[i]?=some d):∃a,ws[i]?=some a/\d=.int a:=by
 rw[List.getElem?_map] at h
 cases e:ws[i]? with
 | none=>rw[e] at h;cases h
 | some n=>rw[e] at h;exact⟨n,rfl,(FU h).symm⟩
theorem yF{ws:Ze}{n:Nat}(hz:∃w∈ws,w≠0)(hb:∀w∈ws,ib w<=n):ib (gW ws)<=n:=by
 obtain⟨w,hw,hn⟩:=hz;exact fP (lR hw) hn (hb w hw)
inductive iU(ds:Zh)(R:D->Prop):Prop
 | mk (ws:Ze) (hh:ds=[.lst (ws.map D.int)]/\ws.length<=60/\(∃w∈ws,w≠0)/\(∀w∈ws,ib w<=8000)/\R (.tup ((shW ws).map D.int)))
theorem i6:∀ds R,iU ds R->ds.length=1:=λ_ _ ⟨_,e,_⟩=>by rw[e];rfl
theorem cU:au ["weights","divisor","weight"] ["weights"] (am s_shortened):=by walk_at "sc"
theorem kJ(Z:Zz):Z.C 2 "shortened" ["weights"] (Fx Z.K iU):=by
 refine cH Z.x21 cU i6 λfa cdv A outer s H E ds R hr h=>?_;have hU:=hr.units;refine⟨_,(ad (ax 1 cU.nd ak) (ad (bA FY rfl (ag 0) (aq 2 cU.nd) (af (ax 1 cU.nd (ar (cS Z) (rm hr) rfl (ac (ag 1) (ac (ag 2) ae)))))) (af (av (c7 iY rfl Z.x53 eZ (ac (bO ["weight"] [(1,"divisor")] rfl rfl (by decide +kernel) rfl (by decide +kernel) (bI ⟨rfl,trivial⟩) (λ_=>bU rfl) (aT ⟨⟨rfl,rfl,.inl rfl⟩,trivial⟩) (dw (ag 0)) λ_ _ _ _ _=>⟨(aq 0 (show List.Nodup (["weight","divisor"]:Zb) by decide +kernel)),fA,(ay eF (ag 0) (ag 1))⟩) ae)))))),?_⟩;obtain⟨ws,rfl,hl,hz,hb,q⟩:=h;walk_at "";simp only[qm];walk_at "";refine⟨λi δ=>∃x,δ=[.dat (.lst (ws.map D.int)),.dat (.int ((ws.take i).foldl gc 0)),x],⟨_,rfl⟩,?_,?_⟩
 ·rintro i d δ hd ⟨x,rfl⟩;obtain⟨a,ha,rfl⟩:=wG hd;walk_at "";refine⟨_,_,rfl,?_⟩;walk_at "";rw[aG ha,Hk];rfl
 ·rintro δ ⟨x,rfl⟩;rw[Fy,FZ];walk_at "";have g:=mx hz;refine⟨by rw[Fy];omega,λd=>match d with | .int a=>some (.int (a.fdiv (gW ws))) | _=>none,λx hx=>?_,?_⟩
  ·obtain⟨a,_,rfl⟩:=FC.mp hx;walk_at "";exact⟨⟨by show gW ws≠0;omega,tw (yF hz hb) (FH _)⟩,rfl⟩
  ·rw[aX _ D.int (λa=>D.int (a.fdiv (gW ws))) _ λk _=>rfl];unfold shW at q;rw[GC] at q;exact q
theorem oU{w:Ze}:smD nm rows w=.tup [rwD (ET nm rows w),.tup (w.map D.int)]:=rfl
theorem gf(H:Ft nm rows)(w:Ze):((ET nm rows w).2.1.map (·.1)).Nodup:=(H.smT w).nd
theorem u9{l h:Ze}:xB (l.map D.int) (h.map D.int)=(l.zip h).map λp=>D.tup [.int p.1,.int p.2]:=by
 unfold xB;rw[List.zipWith_map,List.zip,HZ]
inductive mn(ds:Zh)(R:D->Prop):Prop
 | mk (nm:Zb) (rows:List Rw) (n:Str) (l h:Ze) (hh:ds=[smD nm rows l,smD nm rows h,.str n]/\Ft nm rows/\rows.length<=60/\Wt rows.length l/\Wt rows.length h/\0<cfs (rows.zip l) n/\cfs (rows.zip h) n<0 /\
 ib (cfs (rows.zip l) n)<=8000/\ib (cfs (rows.zip h) n)<=8000/\(∀a∈l,ib a<=8000)/\(∀a∈h,ib a<=8000)/\(∀a∈crS rows n l h,ib a<=8000)/\R (.tup ((crW rows n l h).map D.int)))
theorem ki:∀ds R,mn ds R->ds.length=3:=λ_ _ ⟨_,_,_,_,_,e,_⟩=>by rw[e];rfl
theorem fR:au ["low","high","name","low_times","high_times"] ["low","high","name"] (am s_crossed):=by walk_at "sc"
theorem mF(Z:Zz):Z.C 3 "crossed" ["low","high","name"] (Fx Z.K mn):=by
 refine cH Z.x22 fR ki λfa cdv A outer s H E ds R hr h=>?_;have hU:=hr.units;refine⟨_,(ad (ax 3 fR.nd (jl jv (ar (a8 Z) (rm hr) rfl (ac (ag 2) (ac (EU 1) ae))))) (ad (ax 4 fR.nd (ar (a8 Z) (rm hr) rfl (ac (ag 2) (ac (EU 0) ae)))) (af (av (ar (kJ Z) (rm hr) rfl (ac (bO ["one","other"] [(3,"low_times"),(4,"high_times")] rfl rfl (by decide +kernel) rfl (by decide +kernel) (bI ⟨rfl,rfl,trivial⟩) (λ_=>bU rfl) (aT ⟨⟨rfl,rfl,.inl rfl⟩,⟨rfl,rfl,.inl rfl⟩,trivial⟩) (xv false false rfl Z.x56 (ac (EU 0) (ac (EU 1) ae))) λ_ _ _ _ _=>⟨(dz (n:=2) rfl (aC (aq 0 (show List.Nodup (["one","other","low_times","high_times"]:Zb) by decide +kernel)) (aC (aq 1 (show List.Nodup (["one","other","low_times","high_times"]:Zb) by decide +kernel)) bE))),fA,(ay aN (ay bu (ag 0) (ag 2)) (ay bu (ag 1) (ag 3)))⟩) ae)))))),?_⟩;obtain⟨nm,rows,n,l,h,rfl,H,hm,wl,wh,cl,ch,b1,b2,b3,b4,b5,q⟩:=h;simp only[oU];walk_at "";refine⟨n,ET nm rows h,rfl,gf H h,?_⟩;walk_at "";refine⟨n,ET nm rows l,rfl,gf H l,?_⟩;walk_at "";rw[cR H,cR H,u9];have ll:=wl.len;have lh:=wh.len;refine⟨by rw[Fy,GV];omega,λd=>match d with | .tup [.int a,.int b]=>some (.int (a * -(cfs (rows.zip h) n)+b*cfs (rows.zip l) n)) | _=>none,λx hx=>?_,?_⟩
 ·obtain⟨⟨a,b⟩,hp,rfl⟩:=FC.mp hx;walk_at "";exact⟨E6 (b3 a (Gk hp).1) (GS b2),E6 (b4 b (Gk hp).2) b1⟩
 ·obtain⟨_,nz⟩:=gQ wl wh cl ch;refine⟨crS rows n l h,?_,by rw[nS ll lh];omega,nz,b5,q⟩;rw[aX _ (λp:Int×Int=>D.tup [.int p.1,.int p.2]) (λp=>D.int (p.1 * -(cfs (rows.zip h) n)+p.2*cfs (rows.zip l) n)) _ λk _=>rfl];unfold crS;rw[HZ,show l.zip h=List.zipWith Prod.mk l h from rfl,HZ]
def rj:D->Ze
 | .tup [_,.tup xs]=>xs.map λx=>match x with | .int a=>a | _=>0
 | _=>[]
theorem oI{w:Ze}:rj (smD nm rows w)=w:=by
 show (w.map D.int).map _=w
 rw[GC];exact List.map_id _
theorem dS(p:List Int->Bool):∀W:List (List Int),(W.map (smD nm rows)).filterMap (λd=>if p (rj d)=true then some d else none)=(W.filter p).map (smD nm rows)
 | []=>rfl
 | w::W=>by
  rw[F7,Gn,oI]
  by_cases h:p w=true
  ·rw[FP h,Gc h,dS p W];rfl
  ·rw[FN h,F0 h,dS p W]
theorem rD{W:List (List Int)}{i:Nat}{d:D}(h:(W.map (smD nm rows))[i]?=some d):∃w,W[i]?=some w/\d=smD nm rows w:=by
 rw[List.getElem?_map] at h
 cases e:W[i]? with
 | none=>rw[e] at h;cases h
 | some n=>rw[e] at h;exact⟨n,rfl,(FU h).symm⟩
theorem zR(u:Ze):((u.map D.int).filterMap (λd=>match d with | .int a=>if 0<a then some (D.int a) else none | _=>none)).length=usd u:=by
 unfold usd
 induction u with
 | nil=>rfl
 | cons a u ih =>
  rw[F7,Gn];simp only
  by_cases h:0<a
  ·rw[FP h,Gc (by simpa using h),FL,FL,ih]
  ·rw[FN h,F0 (by simpa using h),ih]
structure xE(nm:Zb)(rows:List Rw)(B k:Nat)(W:List (List Int)):Prop where
 H:Ft nm rows
 hB:RwB B rows
 m6:rows.length<=60
 n6:nm.length<=60
 wt:∀w∈W,Wt rows.length w
 bits:∀w∈W,∀a∈w,ib a<=wb B rows.length k
 fit:cb B rows.length k<=8000/\wb B rows.length (k+1)<=8000
theorem xE.w8{B k:Nat}{W:List (List Int)}(S:xE nm rows B k W){w:List Int}(hw:w∈W):∀a∈w,ib a<=8000:=λa ha=>by
 have:=S.bits w hw a ha
 have:=S.fit.1
 unfold cb at this;omega
theorem xE.c8{B k:Nat}{W:List (List Int)}(S:xE nm rows B k W){w:List Int}(hw:w∈W)(n:Str):ib (cfs (rows.zip w) n)<=8000:=FB (S.H.cfb S.hB (S.bits w hw) n) S.fit.1
theorem xE.rw{B k:Nat}{W:List (List Int)}(S:xE nm rows B k W):∀r∈rows,RwOk nm 60000000 r:=λr hr=>by
 have h8:B<=8000:=by have:=S.fit.1;unfold cb at this;omega
 exact⟨S.H.sub r hr,λt ht=>FB (S.hB.tm r hr t ht) (by omega),FB (S.hB.bd r hr) (by omega)⟩
inductive ld(ds:Zh)(R:D->Prop):Prop
 | mk (nm:Zb) (rows:List Rw) (n:Str) (W:List (List Int)) (most B k c:Nat) (hh:ds=[.lst (rows.map rwD),.lst (W.map (smD nm rows)),.str n,.int (most:Nat)]/\xE nm rows B k W/\W.length<=c/\4<=c/\c*c / 4<9000/\R (.lst ((woW rows n most W).map (smD nm rows))))
theorem kH:∀ds R,ld ds R->ds.length=4:=λ_ _ ⟨_,_,_,_,_,_,_,_,e,_⟩=>by rw[e];rfl
theorem ce:au ["rows","sums","name","most","told","lows","highs","low","high","weights"] ["rows","sums","name","most"] (am s_without):=by walk_at "sc"
theorem nV(Z:Zz):Z.C 4 "without" ["rows","sums","name","most"] (Fx Z.K ld):=by
 refine cH Z.x23 ce kH λfa cdv A outer s H E ds R hr h=>?_;have hU:=hr.units;refine⟨_,(ad (vY 4 ce.nd ["held"] [(2,"name")] rfl rfl (by decide +kernel) rfl (by decide +kernel) (bI ⟨rfl,trivial⟩) (λ_=>bU rfl) (aT ⟨⟨rfl,rfl,.inl rfl⟩,trivial⟩) (dw (ag 1)) λ_ _ _ _ _=>⟨(aq 0 (show List.Nodup (["held","name"]:Zb) by decide +kernel)),(dL (aB (hX hU) (ar (a8 Z) (rm hr) rfl (ac (ag 1) (ac (EU 0) ae))) ak (aw _))),(ag 0)⟩) (ad (km 5 ce.nd ["held"] [(2,"name")] rfl rfl (by decide +kernel) rfl (by decide +kernel) (bI ⟨rfl,trivial⟩) (λ_=>bU rfl) (aT ⟨⟨rfl,rfl,.inl rfl⟩,trivial⟩) (dw (ag 1)) λ_ _ _ _ _=>⟨(aq 0 (show List.Nodup (["held","name"]:Zb) by decide +kernel)),(dL (aB uU (ar (a8 Z) (rm hr) rfl (ac (ag 1) (ac (EU 0) ae))) ak (aw _))),(ag 0)⟩) (ad (km 6 ce.nd ["held"] [(2,"name")] rfl rfl (by decide +kernel) rfl (by decide +kernel) (bI ⟨rfl,trivial⟩) (λ_=>bU rfl) (aT ⟨⟨rfl,rfl,.inl rfl⟩,trivial⟩) (dw (ag 1)) λ_ _ _ _ _=>⟨(aq 0 (show List.Nodup (["held","name"]:Zb) by decide +kernel)),(dL (aB uX (ar (a8 Z) (rm hr) rfl (ac (ag 1) (ac (EU 0) ae))) ak (aw _))),(ag 0)⟩) (ad (bA FY rfl (ag 5) (aq 7 ce.nd) (af (bA FY rfl (ag 6) (aq 8 ce.nd) (ad (ax 9 ce.nd (ar (mF Z) (rm hr) rfl (ac (ag 7) (ac (ag 8) (ac (ag 2) ae))))) (af (aM (aB o_le (aK f9 rfl Z.x54 fL (ac (bO ["often"] [] rfl rfl (by decide +kernel) rfl (by decide +kernel) (bI trivial) (λ_=>bU rfl) (aT trivial) (oV (ag 9)) λ_ _ _ _ _=>⟨(aq 0 (show List.Nodup (["often"]:Zb) by decide +kernel)),(dL (aB uU (ag 0) ak (aw _))),(ag 0)⟩) ae)) (ag 3) (aw _)) (af (bT 4 (aP (ac (ar (tQ Z) (rm hr) rfl (ac (ag 0) (ac (ag 9) ae))) (ac (ag 9) ae))))) aA)))))) (af (jZ 4)))))),?_⟩
 obtain⟨nm,rows,n,W,most,B,k,c,rfl,S,hc,h4,an,q⟩:=h;have c9:c<9000:=by
  have:c<=c*c / 4:=(HY (by decide)).mpr (Nat.mul_le_mul_left c h4)
  omega
 have ah:=dS (nm:=nm) (rows:=rows) (λw=>decide (cfs (rows.zip w) n=0)) W
 have ab:=dS (nm:=nm) (rows:=rows) (λw=>decide (0<cfs (rows.zip w) n)) W
 have aa:=dS (nm:=nm) (rows:=rows) (λw=>decide (cfs (rows.zip w) n<0)) W
 refine ap λK1 hK1=>?_;walk_at "";refine⟨by rw[Fy];omega,λd=>if decide (cfs (rows.zip (rj d)) n=0)=true then some d else none,λx hx=>?_,?_⟩
 ·obtain⟨w,hw,rfl⟩:=FC.mp hx;simp only[oI];simp only[oU];walk_at "";refine⟨n,ET nm rows w,rfl,gf S.H w,?_⟩;rw[cR S.H];walk_at "";refine dO (λe=>?_) λe=>?_
  ·rw[FP e]
  ·rw[FN e]
 ·rw[ah];intro ta;rw[hK1];refine ap λK2 hK2=>?_;walk_at "";refine⟨by rw[Fy];omega,λd=>if decide (0<cfs (rows.zip (rj d)) n)=true then some d else none,λx hx=>?_,?_⟩
  ·obtain⟨w,hw,rfl⟩:=FC.mp hx;simp only[oI];simp only[oU];walk_at "";refine⟨n,ET nm rows w,rfl,gf S.H w,?_⟩;rw[cR S.H];walk_at "";refine dO (λe=>?_) λe=>?_
   ·rw[FP e]
   ·rw[FN e]
  ·rw[ab,hK2];refine ap λK3 hK3=>?_;walk_at "";refine⟨by rw[Fy];omega,λd=>if decide (cfs (rows.zip (rj d)) n<0)=true then some d else none,λx hx=>?_,?_⟩
   ·obtain⟨w,hw,rfl⟩:=FC.mp hx;simp only[oI];simp only[oU];walk_at "";refine⟨n,ET nm rows w,rfl,gf S.H w,?_⟩;rw[cR S.H];walk_at "";refine dO (λe=>?_) λe=>?_
    ·rw[FP e]
    ·rw[FN e]
   ·rw[aa,hK3];clear ah ab aa;have c3:=cnt3 (rows:=rows) (n:=n) W;unfold woW at q;have hL:∀l∈W.filter (λw=>decide (0<cfs (rows.zip w) n)),l∈W/\0<cfs (rows.zip l) n:=λl hl=>⟨(FI.mp hl).1,by simpa using (FI.mp hl).2⟩;have hR:∀l∈W.filter (λw=>decide (cfs (rows.zip w) n<0)),l∈W/\cfs (rows.zip l) n<0:=λl hl=>⟨(FI.mp hl).1,by simpa using (FI.mp hl).2⟩;generalize W.filter (λw=>decide (cfs (rows.zip w) n=0))=Z at *;generalize W.filter (λw=>decide (0<cfs (rows.zip w) n))=Ls at *;generalize W.filter (λw=>decide (cfs (rows.zip w) n<0))=Rs at *;have zb:Z.length+Ls.length*Rs.length<9000:=HG (zab (by omega) h4) an;refine ap λK4 hK4=>?_;refine bN λF N hF hN=>?_;walk_at "";simp only[iK];walk_at "";refine⟨λi δ=>∃x y z,δ=[.dat (.lst (rows.map rwD)),.dat (.lst (W.map (smD nm rows))),.dat (.str n),.dat (.int (most:Nat)),.own ta (.lst ((Z++(Ls.take i).flatMap λl=>(Rs.map (crW rows n l)).filter λu=>decide (usd u<=most)).map (smD nm rows))),.dat (.lst (Ls.map (smD nm rows))),.dat (.lst (Rs.map (smD nm rows))),x,y,z],⟨_,_,_,by rw[Hn,List.flatMap_nil,Gj]⟩,?_,?_⟩
    ·rintro i d δ hd ⟨x,y,z,rfl⟩;obtain⟨l,hl,rfl⟩:=rD hd;obtain⟨lW,cl⟩:=hL l (FM hl);have ai:i<Ls.length:=(List.getElem?_eq_some_iff.mp hl).1;rw[hF];walk_at "";refine bN λF2 N2 hF2 hN2=>?_;walk_at "";simp only[iK];walk_at "";refine⟨λj δ=>∃y z,δ=[.dat (.lst (rows.map rwD)),.dat (.lst (W.map (smD nm rows))),.dat (.str n),.dat (.int (most:Nat)),.own ta (.lst ((Z++(Ls.take i).flatMap (λl=>(Rs.map (crW rows n l)).filter λu=>decide (usd u<=most))++((Rs.take j).map (crW rows n l)).filter λu=>decide (usd u<=most)).map (smD nm rows))),.dat (.lst (Ls.map (smD nm rows))),.dat (.lst (Rs.map (smD nm rows))),.dat (smD nm rows l),y,z],⟨_,_,by rw[Hn,Hc,List.filter_nil,Gj]⟩,?_,?_⟩
     ·rintro j d δ hd ⟨y,z,rfl⟩;obtain⟨h,hh,rfl⟩:=rD hd;obtain⟨hW,ch⟩:=hR h (FM hh);have ao:j<Rs.length:=(List.getElem?_eq_some_iff.mp hh).1;rw[hF2];show dF _ _ _ _;refine cG λK5 hK5=>?_;walk_at "";refine⟨nm,rows,n,l,h,rfl,S.H,S.m6,S.wt l lW,S.wt h hW,cl,ch,S.c8 lW n,S.c8 hW n,S.w8 lW,S.w8 hW,λa ha=>FB (kS S.H S.hB (S.bits l lW) (S.bits h hW) a ha) S.fit.2,?_⟩;walk_at "";rw[hK5];have ww:=pM (S.wt l lW) (S.wt h hW) cl ch;have al:∀a∈crW rows n l h,ib a<=60000000:=λa ha=>by
       obtain⟨b,aj,rfl⟩:=FC.mp ha;exact GA (FB (kS S.H S.hB (S.bits l lW) (S.bits h hW) b aj) (FB S.fit.2 (by decide)))
      have tk:(((Rs.take (j+1)).map (crW rows n l)).filter λu=>decide (usd u<=most))=(((Rs.take j).map (crW rows n l)).filter λu=>decide (usd u<=most))++if usd (crW rows n l h)<=most then [crW rows n l h] else []:=by
       rw[aG hh,F3,List.filter_append]
       congr 1
       by_cases e:usd (crW rows n l h)<=most
       ·rw[FP e];simp[e]
       ·rw[FN e];simp[e]
      simp only[tk];generalize crW rows n l h=u at *;walk_at "";refine⟨by rw[Fy,ww.len];have:=S.m6;omega,λd=>match d with | .int a=>if 0<a then some (.int a) else none | _=>none,λx hx=>?_,?_⟩
      ·obtain⟨a,_,rfl⟩:=FC.mp hx;walk_at "";refine dO (λe=>?_) λe=>?_
       ·rw[FP e]
       ·rw[FN e]
      ·rw[zR];refine dO (λe=>?_) λe=>?_
       ·have e:usd u<=most:=by omega
        rw[FP e];refine⟨rows,u,nm,rfl,S.n6,S.rw,al,λts hts=>?_⟩;have:=hts.uniq (S.H.smT u);subst this;walk_at "";refine⟨?_,?_⟩
        ·rw[Fy,FF,FF];have f1:=kg (rows:=rows) (n:=n) (most:=most) Rs (Ls.take i);have f2:=Gm (λu=>decide (usd u<=most)) ((Rs.take j).map (crW rows n l));rw[Fy,Ge] at f2;rw[Ge,show min i Ls.length=i by omega] at f1;have f3:=Nat.mul_le_mul_right Rs.length (show i+1<=Ls.length from ai);rw[Nat.succ_mul] at f3;omega
        ·rw[<- HS,F3 (l₂:=[u])];rfl
       ·have e:¬ usd u<=most:=by omega
        rw[FN e,Gj]
     ·rintro δ ⟨y,z,rfl⟩;rw[Fy,FZ,hN2];walk_at "";rw[aG hl,List.flatMap_append,<- HS];simp only[List.flatMap_cons,List.flatMap_nil,List.append_nil]
      try exact⟨_,_,_,rfl⟩
    ·rintro δ ⟨x,y,z,rfl⟩;rw[Fy,FZ,hN,hK4];walk_at "";exact q
def yf(rows:List Rw):Zb->List (List (List Int))
 | []=>[E5 rows []]
 | n::ns=>E5 rows (n::ns)::yf rows ns
def qR(nm:Zb)(rows:List Rw)(W:List (List Int)):D:=.lst (W.map (smD nm rows))
theorem jT:∀ns:Zb,(yf rows ns).length=ns.length+1
 | []=>rfl
 | n::ns=>by show (yf rows ns).length+1=_;rw[jT ns];rfl
theorem ym{B B' m m':Nat}(h1:B<=B')(h2:m<=m'):∀k,wb B m k<=wb B' m' k
 | 0=>FH 1
 | k+1=>by have:=ym h1 h2 k;show 2*wb B m k+B+m+1<=2*wb B' m' k+B'+m'+1;omega
theorem yJ{B m a:Nat}:∀ {b:Nat},a<=b->wb B m a<=wb B m b
 | 0,h=>by rw[Nat.le_zero.mp h];exact FH _
 | b+1,h=>by
  by_cases e:a=b+1
  ·rw[e];exact FH _
  ·exact FB (yJ (b:=b) (by omega)) uO
structure Fit(nm:Zb)(rows:List Rw)(B N:Nat):Prop where
 H:Ft nm rows
 hB:RwB B rows
 m6:rows.length<=6
 n6:nm.length<=60
 n4:N<=4
 wN:wb B 6 (N+1)<=7990
theorem Fit.wk{B N k:Nat}(F:Fit nm rows B N)(h:k<=N+1):wb B rows.length k<=7990:=FB (ym (FH B) F.m6 k) (FB (yJ h) F.wN)
theorem Fit.ck{B N k:Nat}(F:Fit nm rows B N)(h:k<=N):cb B rows.length k<=7990:=by
 have:2*wb B rows.length k+B+rows.length+1<=7990:=F.wk (k:=k+1) (by omega)
 unfold cb;omega
theorem Fit.sums{B N:Nat}(F:Fit nm rows B N)(h:ns.length<=N):xE nm rows B ns.length (E5 rows ns):=by
 have w1:=F.ck h
 have w2:=F.wk (k:=ns.length+1) (by omega)
 have:=F.m6
 exact⟨F.H,F.hB,by omega,F.n6,λw hw=>(ca hw).1,λw hw=>dl F.H F.hB hw,by omega,by omega⟩
inductive iQ(ds:Zh)(R:D->Prop):Prop
 | mk (nm:Zb) (rows:List Rw) (B N:Nat) (ns:Zb) (hh:ds=[.lst (rows.map rwD),.lst (ns.map D.str)]/\Fit nm rows B N/\ns.length<=N/\R (.lst ((yf rows ns).map (qR nm rows))))
theorem iV:∀ds R,iQ ds R->ds.length=2:=λ_ _ ⟨_,_,_,_,_,e,_⟩=>by rw[e];rfl
theorem cnt6:∀ {k:Nat},k<=3->cnt 6 k*cnt 6 k / 4<9000
 | 0,_=>by decide
 | 1,_=>by decide
 | 2,_=>by decide
 | 3,_=>by decide
 | k+4,h=>by omega
theorem yL{i:Nat}{d:D}(h:(ns.map D.str).reverse[i]?=some d):∃n,d=.str n/\i<ns.length/\ns.drop (ns.length-(i+1))=n::ns.drop (ns.length-i):=by
 have hi:i<ns.length:=by
  have:=(List.getElem?_eq_some_iff.mp h).1
  simpa using this
 rw[List.getElem?_reverse (by simpa using hi),Fy,List.getElem?_map] at h;have e:ns.length-(i+1)<ns.length:=by omega
 have e1:ns.length-1-i=ns.length-(i+1):=by omega
 rw[e1,List.getElem?_eq_getElem e] at h;refine⟨ns[ns.length-(i+1)],(FU h).symm,hi,?_⟩;rw[Hr e]
 congr 2
 omega
theorem cq:au ["rows","names","sums","told","name"] ["rows","names"] (am s_taken_out):=by walk_at "sc"
theorem ka(Z:Zz):Z.C 5 "taken_out" ["rows","names"] (Fx Z.K iQ):=by
 refine cH Z.x24 cq iV λfa cdv A outer s H E ds R hr h=>?_;have hU:=hr.units;refine⟨_,(ad (ax 2 cq.nd (ar (t5 Z) (rm hr) rfl (ac (ag 0) ae))) (ad (eP 3 cq.nd (ac (ag 2) ae)) (ad (oY FY rfl (B8 rfl Z.x59 (ac (ag 1) ae)) (aq 4 cq.nd) (ad (ax 2 cq.nd (ar (nV Z) (rm hr) rfl (ac (ag 0) (ac (ag 2) (ac (ag 4) (ac (ay aN (yl 3 rfl Z.x54 fL) ak) ae)))))) (af (wK 3 (ag 2))))) (af (jZ 3))))),?_⟩;obtain⟨nm,rows,B,N0,ns,rfl,F,h4,q⟩:=h;have n4:=F.n4;walk_at "";refine⟨rows,nm,rfl,F.H,by have:=F.m6;omega,?_⟩;walk_at "";intro ta;refine kj λFb N hF hN=>?_;walk_at "";simp only[uM];walk_at "";refine⟨λi δ=>∃x,δ=[.dat (.lst (rows.map rwD)),.dat (.lst (ns.map D.str)),.dat (qR nm rows (E5 rows (ns.drop (ns.length-i)))),.own ta (.lst ((yf rows (ns.drop (ns.length-i))).map (qR nm rows))),x],⟨_,by rw[Nat.sub_zero,List.drop_length];rfl⟩,?_,?_⟩
 ·rintro i d δ hd ⟨x,rfl⟩;obtain⟨n,rfl,hi,aa⟩:=yL hd;simp only[aa];have hl:(ns.drop (ns.length-i)).length=i:=by rw[G8];omega
  generalize ns.drop (ns.length-i)=l at *
  rw[hF];show dF _ _ _ _;refine cG λK1 hK1=>?_;walk_at "";obtain⟨c1,c2⟩:=nI (rows:=rows) F.m6 (by decide) l;rw[hl] at c1 c2;refine⟨nm,rows,n,E5 rows l,l.length+2,B,l.length,cnt 6 i,?_,F.sums (by omega),c1,c2,cnt6 (by omega),?_⟩
  ·rw[Fy,jT];show [_,qR nm rows (E5 rows l),_,_]=_;unfold qR
   congr 4
  ·walk_at "";rw[hK1];walk_at "";refine⟨by rw[Fy,jT];omega,rfl,rfl⟩
 ·rintro δ ⟨x,rfl⟩;rw[Hu,Fy,Nat.sub_self,hN];walk_at "";exact q
inductive fY(ds:Zh)(R:D->Prop):Prop
 | mk (n:Str) (r:Rw) (ks:Zb) (ps:Za) (c κ T:Nat) (hh:ds=[.str n,rwD r,.dct ks (ps.map Fk)]/\(r.2.1.map (·.1)).Nodup/\ks.length<=60/\(∀t∈r.2.1,t.1≠n->t.1∈ks)/\cf r.2.1 n≠0/\Pt ks ps T/\T<=1000000/\ib (bot (pB ks ps) ks)<=κ/\c+κ<=7990 /\
 ib (cf r.2.1 n)<=c/\(∀t∈r.2.1,ib t.2<=c)/\ib r.2.2<=c/\R (Fk (bnd ks ps n r)))
theorem jq:∀ds R,fY ds R->ds.length=3:=λ_ _ ⟨_,_,_,_,_,_,_,e,_⟩=>by rw[e];rfl
theorem gU(p:Str×Int->Bool)(g:D->Option D)(h1:∀t,p t=true->g (tmD t)=some (tmD t))(h2:∀t,p t=false->g (tmD t)=none):∀ts:List (Str×Int),(ts.map tmD).filterMap g=(ts.filter p).map tmD
 | []=>rfl
 | t::ts=>by
  rw[F7,Gn]
  cases e:p t with
  | true=>rw[h1 t e,Gc e,gU p g h1 h2 ts];rfl
  | false=>rw[h2 t e,F0 (by rw[e];decide),gU p g h1 h2 ts]
theorem eR:au ["name","row","point","others","known"] ["name","row","point"] (am s_bound_on):=by walk_at "sc"
theorem gm(Z:Zz):Z.C 3 "bound_on" ["name","row","point"] (Fx Z.K fY):=by
 refine cH Z.x25 eR jq λfa cdv A outer s H E ds R hr h=>?_;have hU:=hr.units;refine⟨_,(ad (km 3 eR.nd ["term"] [(0,"name")] rfl rfl (by decide +kernel) rfl (by decide +kernel) (bI ⟨rfl,trivial⟩) (λ_=>bU rfl) (aT ⟨⟨rfl,rfl,.inl rfl⟩,trivial⟩) (oV (EU 1)) λ_ _ _ _ _=>⟨(aq 0 (show List.Nodup (["term","name"]:Zb) by decide +kernel)),(dL (aB (kG hU) (EU 0) (ag 1) (aw _))),(ag 0)⟩) (ad (ax 4 eR.nd (ar (iA Z) (rm hr) rfl (ac (bO ["term"] [] rfl rfl (by decide +kernel) rfl (by decide +kernel) (bI trivial) (λ_=>bU rfl) (aT trivial) (dw (ag 3)) λ_ _ _ _ _=>⟨(aq 0 (show List.Nodup (["term"]:Zb) by decide +kernel)),fA,(EU 0)⟩) (ac (ag 2) ae)))) (af (av (ar (wC Z) (rm hr) rfl (ac (ay gq (ay bu (EU 1) (EU 4)) (ar (eI Z) (rm hr) rfl (ac (ag 3) (ac (EU 4) ae)))) (ac (ay bu (ar (a8 Z) (rm hr) rfl (ac (ag 0) (ac (ag 1) ae))) (EU 4)) ae))))))),?_⟩;obtain⟨n,⟨k,ts,b⟩,ks,ps,c,κ,T,rfl,nd,hk,hp,hc,P,hT,hκ,ai,b1,b2,b3,q⟩:=h;simp only at nd hp hc b1 b2 b3 q;have lt:ts.length<=61:=by
  have h1:(ts.map (·.1)).length<=(n::ks).length:=kB nd λx hx=>by
   obtain⟨t,ht,rfl⟩:=FC.mp hx
   by_cases e:t.1=n
   ·exact FJ.mpr (.inl e)
   ·exact Fz _ (hp t ht e)
  rw[Fy,FL] at h1;omega
 unfold rwD ky;refine ap λK1 hK1=>?_;walk_at "";refine⟨by rw[Fy];omega,λd=>match d with | .tup [.str x,w]=>if x≠n then some (.tup [.str x,w]) else none | _=>none,λx hx=>?_,?_⟩
 ·obtain⟨t,_,rfl⟩:=FC.mp hx;unfold tmD;walk_at "";refine dO (λe=>?_) λe=>?_
  ·simp[e]
  ·simp[e]
 ·rw[gU (λt=>decide (t.1≠n)) _ (λt ht=>by unfold tmD;simp only;rw[FP (by simpa using ht)]) (λt ht=>by unfold tmD;simp only;rw[FN (by simpa using ht)])];unfold bnd at q;simp only at q;have ho:∀t∈ts.filter (λt=>decide (t.1≠n)),t.1∈ks/\ib t.2<=c:=λt ht=>by
   obtain⟨h1,h2⟩:=FI.mp ht;exact⟨hp t h1 (by simpa using h2),b2 t h1⟩
  have ab:((ts.filter (λt=>decide (t.1≠n))).map (·.1)).Nodup:=nd.sublist (List.filter_sublist.map _)
  have ah:=Gm (λt:Str×Int=>decide (t.1≠n)) ts
  generalize ts.filter (λt=>decide (t.1≠n))=o at *
  have aa:∀x∈o.map (·.1),x∈ks:=λx hx=>by
   obtain⟨t,ht,rfl⟩:=FC.mp hx;exact(ho t ht).1
  have pos:∀x∈ks,0<pB ks ps x:=λx hx=>P.pos hx
  have bK:=pd ab aa pos hκ
  have pK:=dr (q:=pB ks ps) (l:=o.map (·.1)) λx hx=>pos x (aa x hx)
  rw[hK1];walk_at "";refine⟨by rw[Fy];omega,λd=>match d with | .tup (x::_)=>some x | _=>none,λx hx=>?_,?_⟩
  ·obtain⟨t,_,rfl⟩:=FC.mp hx;unfold tmD;walk_at ""
  ·refine⟨o.map (·.1),ks,ps,T,κ,?_,ab,?_,aa,P,hT,hκ,by omega,?_⟩
   ·rw[aX _ tmD (λt=>D.str t.1) _ (by intro _ _;rfl),GC];rfl
   ·have:=kB ab aa
    omega
   ·walk_at "";refine⟨E6 b3 bK (by omega),true,o,_,_,_,rfl,λt ht=>⟨d9 (λx=>D.int (ov (pT ks ps) (pB ks ps) (bot (pB ks ps) (o.map (·.1))) x)) (FC.mpr ⟨t,ht,rfl⟩),FB (ho t ht).2 (by omega),FB (F8 (P.Tb (ho t ht).1) (GA bK)) (by omega)⟩,?_⟩;walk_at "";refine⟨n,(k,ts,b),rfl,nd,?_⟩;walk_at "";refine⟨E6 b1 bK (by omega),_,_,rfl,Gu hc (by omega),FB (F8 b1 bK) (by omega),?_⟩;exact q
def oD:Option (Int×Int)->D
 | none=>.non
 | some p=>Fk p
def ot(e:Fs):D:=.tup [oD e.1,.bl e.2]
inductive lu(ds:Zh)(R:D->Prop):Prop
 | mk (a b:Fs) (lo:Bool) (hh:ds=[ot a,ot b,.bl lo]/\(∀p,a.1=some p->ib p.1<=1000000/\ib p.2<=8000)/\(∀p,b.1=some p->ib p.1<=1000000/\ib p.2<=8000)/\R (ot (tgt lo a b)))
theorem kR:∀ds R,lu ds R->ds.length=3:=λ_ _ ⟨_,_,_,e,_⟩=>by rw[e];rfl
theorem pY:au ["one","other","is_low"] ["one","other","is_low"] (am s_tighter):=by walk_at "sc"
theorem iB(Z:Zz):Z.C 2 "tighter" ["one","other","is_low"] (Fx Z.K lu):=by
 refine cH Z.x26 pY kR λfa cdv A outer s H E ds R hr h=>?_;have hU:=hr.units;refine⟨_,(ad (aM (aB tz (EU 0) cL (aw _)) (af (av (ag 1))) aA) (ad (aM (aB tz (EU 1) cL (aw _)) (af (av (ag 0))) aA) (ad (aM (aB (h7 hU) (EU 0) (EU 1) (aw _)) (af (av (aP (ac (EU 0) (ac (iP (EU 0) (dD (EU 1))) ae))))) aA) (af (av (p8 (aB (h7 hU) (ar (j6 Z) (rm hr) rfl (ac (EU 1) (ac (EU 0) ae))) (ag 2) (aw _)) (ag 0) (ag 1))))))),?_⟩;obtain⟨⟨a,ab⟩,⟨b,bb⟩,lo,rfl,ha,hb,q⟩:=h;unfold ot at q ⊢;refine ap λK1 h1=>?_
 cases a with
 | none =>
  unfold oD;walk_at "";exact q
 | some p =>
  rw[show oD (some p)=.tup [.int p.1,.int p.2] from rfl];walk_at "";rw[h1];refine ap λK2 h2=>?_
  cases b with
  | none =>
   unfold oD;walk_at "";exact q
  | some r =>
   obtain⟨p1,p2⟩:=ha p rfl;obtain⟨r1,r2⟩:=hb r rfl;unfold tgt at q;simp only at q;rw[show oD (some r)=.tup [.int r.1,.int r.2] from rfl];walk_at "";rw[h2];refine ap λK3 h3=>?_;walk_at "";refine dO (λe=>?_) λe=>?_
   ·have e:p=r:=Prod.ext (by simpa using GQ Prod.fst e) (by simpa using GQ Prod.snd e)
    rw[FP e] at q
    cases ab with
    | true=>exact ifp rfl q
    | false=>exact EV FG q
   ·rw[FN (λz=>e (by rw[z]))] at q;rw[h3];walk_at "";refine⟨r,p,rfl,FB r1 (by decide),FB p1 (by decide),r2,p2,?_⟩;walk_at "";refine dO (λe=>?_) λe=>?_
    ·rw[FP e] at q;exact q
    ·rw[FN e] at q;exact q
theorem vb{l:List (Rw×Int)}:(decide (kdS (kOf (Fe l))=("least":Str)):Bool)=!Fe l:=by cases Fe l<;>rfl
structure Pcs(nm:Zb)(rows:List Rw)(ks:Zb)(ps:Za)(n:Str)(W:List (List Int))(c κ g T:Nat)(L:Int):Prop where
 H:Ft nm rows
 k6:ks.length<=60
 nms:∀w∈W,∀t∈(ET nm rows w).2.1,t.1≠n->t.1∈ks
 P:Pt ks ps T
 hT:c+T+κ+80<=1000000
 hκ:ib (bot (pB ks ps) ks)<=κ
 L0:L≠0
 hL:∀k∈ks,pB ks ps k ∣ L
 hg:ib L<=g
 gκ:g<=κ
 cg:c+g<=3990
 cκ:c+κ<=7990
 cb:∀w∈W,∀x,ib (cfs (rows.zip w) x)<=c
 bb:∀w∈W,ib (bds (rows.zip w))<=c
theorem Pcs.tb{W:List (List Int)}{c κ g T:Nat}{L:Int}(h:Pcs nm rows ks ps n W c κ g T L){w:List Int}(hw:w∈W):∀t∈(ET nm rows w).2.1,ib t.2<=c:=λt ht=>by
 rw[(ir ht).2.2];exact h.cb w hw _
theorem Pcs.cnd{W:List (List Int)}{c κ g T:Nat}{L:Int}(h:Pcs nm rows ks ps n W c κ g T L){w:List Int}(hw:w∈W)(hc:cfs (rows.zip w) n≠0):BF L c g κ T (cnd nm rows ks ps n w).1 :=
 vz h.P h.hκ h.L0 h.hL h.hg (gf h.H w) h.k6 (h.nms w hw) (by rw[cR h.H];exact hc) (by rw[cR h.H];exact h.cb w hw n) (h.tb hw) (h.bb w hw)
inductive iW(ds:Zh)(R:D->Prop):Prop
 | mk (nm:Zb) (rows:List Rw) (ks:Zb) (ps:Za) (n:Str) (W:List (List Int)) (c κ g T:Nat) (L:Int) (hh:ds=[.str n,qR nm rows W,.dct ks (ps.map Fk)]/\Pcs nm rows ks ps n W c κ g T L /\
 R (.tup [oD (pcs nm rows ks ps n W).1.1,.bl (pcs nm rows ks ps n W).1.2,oD (pcs nm rows ks ps n W).2.1,.bl (pcs nm rows ks ps n W).2.2]))
theorem iF:∀ds R,iW ds R->ds.length=3:=λ_ _ ⟨_,_,_,_,_,_,_,_,_,_,_,e,_⟩=>by rw[e];rfl
theorem wx{W:List (List Int)}{i:Nat}{w:List Int}(h:W[i]?=some w):pcs nm rows ks ps n (W.take (i+1)) =
    (if 0<cfs (rows.zip w) n then tgt true (pcs nm rows ks ps n (W.take i)).1 (some (cnd nm rows ks ps n w).1,(cnd nm rows ks ps n w).2) else (pcs nm rows ks ps n (W.take i)).1,
     if cfs (rows.zip w) n<0 then tgt false (pcs nm rows ks ps n (W.take i)).2 (some (cnd nm rows ks ps n w).1,(cnd nm rows ks ps n w).2) else (pcs nm rows ks ps n (W.take i)).2):=by
  unfold pcs;rw[aG h,Hk];rfl
theorem aY:au ["name","sums","point","low","high","row","weights","weight"] ["name","sums","point"] (am s_piece_for):=by walk_at "sc"
theorem jY(Z:Zz):Z.C 4 "piece_for" ["name","sums","point"] (Fx Z.K iW):=by
 refine cH Z.x27 aY iF λfa cdv A outer s H E ds R hr h=>?_;have hU:=hr.units;refine⟨_,(ad (ax 3 aY.nd (m3 rfl Z.g_ENDLESS)) (ad (ax 4 aY.nd (m3 rfl Z.g_ENDLESS)) (ad (bA FY rfl (ag 1) (dz (n:=2) rfl (aC (aq 5 aY.nd) (aC (aq 6 aY.nd) bE))) (ad (ax 7 aY.nd (ar (a8 Z) (rm hr) rfl (ac (ag 0) (ac (ag 5) ae)))) (ad (aM (aB uU (ag 7) ak (aw _)) (af (ax 3 aY.nd (ar (iB Z) (rm hr) rfl (ac (ag 3) (ac (aP (ac (ar (gm Z) (rm hr) rfl (ac (ag 0) (ac (ag 5) (ac (ag 2) ae)))) (ac (cM (hX hU) (EU 5) bq (aw _)) ae))) (ac cv ae)))))) aA) (af (aM (aB uX (ag 7) ak (aw _)) (af (ax 4 aY.nd (ar (iB Z) (rm hr) rfl (ac (ag 4) (ac (aP (ac (ar (gm Z) (rm hr) rfl (ac (ag 0) (ac (ag 5) (ac (ag 2) ae)))) (ac (cM (hX hU) (EU 5) bq (aw _)) ae))) (ac cv ae)))))) aA))))) (af (av (ay aN (ag 3) (ag 4))))))),?_⟩;obtain⟨nm,rows,ks,ps,n,W,c,κ,g,T,L,rfl,S,q⟩:=h;unfold qR;refine ap λK1 hK1=>?_;walk_at "";rw[hK1];refine ap λK2 hK2=>?_;walk_at "";rw[hK2];refine ap λK3 hK3=>?_;refine bN λF N hF hN=>?_;walk_at "";simp only[iK];walk_at "";refine⟨λi δ=>∃x y z,δ=[.dat (.str n),.dat (.lst (W.map (smD nm rows))),.dat (.dct ks (ps.map Fk)),.dat (ot (pcs nm rows ks ps n (W.take i)).1),.dat (ot (pcs nm rows ks ps n (W.take i)).2),x,y,z],⟨_,_,_,rfl⟩,?_,?_⟩
 ·rintro i d δ hd ⟨x,y,z,rfl⟩;obtain⟨w,hw,rfl⟩:=rD hd;have hm:=FM hw;have aa:=CU (nm:=nm) (rows:=rows) (ks:=ks) (ps:=ps) (n:=n) (Pr:=λp=>ib p.1<=1000000/\ib p.2<=8000) (W:=W.take i) λw hw hc=>by
   have k:=S.cnd (GP hw) hc
   have k1:=k.bb
   have k2:=k.tb
   have k3:=S.cg
   have k4:=S.hT
   exact⟨by omega,by omega⟩
  rw[hF];simp only[wx hw];generalize pcs nm rows ks ps n (W.take i)=e at *;obtain⟨lo,hi⟩:=e;show qJ _ _ (.tup [rwD (ET nm rows w),.tup (w.map D.int)]) _ _;refine cG λK4 hK4=>?_;walk_at "";refine⟨n,ET nm rows w,rfl,gf S.H w,?_⟩;walk_at "";rw[cR S.H,hK4];have k6:=S.k6;have bnd:cfs (rows.zip w) n≠0->∀R:D->Prop,R (Fk (cnd nm rows ks ps n w).1)->fY [.str n,rwD (ET nm rows w),.dct ks (ps.map Fk)] R:=λhc R r =>
   ⟨n,ET nm rows w,ks,ps,c,κ,T,rfl,gf S.H w,k6,S.nms w hm,by rw[cR S.H];exact hc,S.P,by have:=S.hT;omega,S.hκ,by have:=S.cκ;omega,by rw[cR S.H];exact S.cb w hm n,S.tb hm,S.bb w hm,r⟩
  have cb:cfs (rows.zip w) n≠0->∀p,some (cnd nm rows ks ps n w).1=some p->ib p.1<=1000000/\ib p.2<=8000:=λhc p hp=>by
   cases hp
   have k:=S.cnd hm hc
   have k1:=k.bb
   have k2:=k.tb
   have k3:=S.cg
   have k4:=S.hT
   exact⟨by omega,by omega⟩
  have word:∀R:D->Prop,R (.bl (cnd nm rows ks ps n w).2)->fIx [rwD (ET nm rows w),.int 0] λd=>fEq [d,.str "least"] R:=λR r=>by
   unfold rwD ky ET;walk_at "";rw[vb];exact r
  generalize cnd nm rows ks ps n w=cn at *
  obtain⟨cp,cs⟩:=cn
  rcases Int.lt_trichotomy (cfs (rows.zip w) n) 0 with hc | hc | hc
  ·refine ap λK5 hK5=>?_;walk_at "";refine EV (by omega) ?_;rw[hK5];walk_at "";refine ifp hc (bnd (by omega) _ ?_);walk_at "";refine word _ ?_;refine⟨hi,(some cp,cs),false,rfl,aa.2,cb (by omega),?_⟩;simp only[if_neg (show ¬ 0<cfs (rows.zip w) n by omega),if_pos hc]
   first | exact⟨_,_,_,rfl⟩ | trivial | rfl
  ·refine ap λK5 hK5=>?_;walk_at "";refine EV (by omega) ?_;rw[hK5];walk_at "";refine EV (by omega) ?_;simp only[if_neg (show ¬ 0<cfs (rows.zip w) n by omega),if_neg (show ¬ cfs (rows.zip w) n<0 by omega)]
   first | exact⟨_,_,_,rfl⟩ | trivial | rfl
  ·refine ap λK5 hK5=>?_;walk_at "";refine ifp hc (bnd (by omega) _ ?_);walk_at "";refine word _ ?_;refine⟨lo,(some cp,cs),true,rfl,aa.1,cb (by omega),?_⟩;rw[hK5];walk_at "";refine EV (by omega) ?_;simp only[if_pos hc,if_neg (show ¬ cfs (rows.zip w) n<0 by omega)]
   first | exact⟨_,_,_,rfl⟩ | trivial | rfl
 ·rintro δ ⟨x,y,z,rfl⟩;rw[Fy,FZ,hN,hK3];unfold ot;walk_at "";exact q
def so0(l:List (Rw×Int)):Bool:=qz (kOf (Fe l)) 0 (bds l)
theorem uD(hin:∀n∈nm,n∈ns){w:Ze}(hw:w∈E5 rows ns):(ET nm rows w).2.1=[]:=by
 cases e:(ET nm rows w).2.1 with
 | nil=>rfl
 | cons t r =>
  have ht:t∈(ET nm rows w).2.1:=by rw[e];exact FD ..
  obtain⟨h1,h2,_⟩:=ir ht;exact absurd ((ca hw).2 _ (hin _ h1)) h2
theorem Ar(hin:∀n∈nm,n∈ns){w:Ze}(hw:w∈E5 rows ns):rwD (ET nm rows w)=(E8.row (kOf (Fe (rows.zip w))) [] (bds (rows.zip w))).D:=by
 have e:=uD hin hw
 show ky _ (ET nm rows w).2.1 _=_
 rw[e];rfl
theorem CY(hin:∀n∈nm,n∈ns){w:Ze}(hw:w∈E5 rows ns)(x:Str->Rat):so0 (rows.zip w)=true↔Fi x (ET nm rows w):=by
 have e:=uD hin hw
 unfold Fi so0;rw[e];show _↔(match kOf (Fe (rows.zip w)) with | .least=>((bds (rows.zip w):Int):Rat)<=0 | .more=>((bds (rows.zip w):Int):Rat)<0)
 cases Fe (rows.zip w)
 ·show decide (bds (rows.zip w)<=0)=true↔_
  rw[decide_eq_true_eq];exact(Rat.intCast_le_intCast (a:=bds (rows.zip w)) (b:=0)).symm
 ·show decide (bds (rows.zip w)<0)=true↔_
  rw[decide_eq_true_eq];exact(GH (a:=bds (rows.zip w)) (b:=0)).symm
theorem CL{ss:Zb}(h1:Srt ss)(n1:ss.Nodup)(h2:nm.Pairwise E3)(n2:nm.Nodup)(h:∀n,n∈ss↔n∈nm):ss=nm:=jV (xf h1) h2 n1 n2 h
theorem jO{l:Zb}(h1:l.Pairwise E3)(n1:l.Nodup)(h2:nm.Pairwise E3)(n2:nm.Nodup)(h:∀n∈l,n∈nm):l.Sublist nm:=by
 have e:l=nm.filter λn=>decide (n∈l):=jV h1 (h2.filter _) n1 (n2.filter _) λn=>by
  rw[FI];exact⟨λz=>⟨h n z,by simpa using z⟩,λz=>by simpa using z.2⟩
 rw[e];exact List.filter_sublist
theorem sU{ns:Ze}{n:Nat}(hb:∀c∈ns,Builtin.Int.intBits c<=n)(k:Int):Builtin.Int.intBits (iu ns k)<=n:=by
 unfold iu;rw[List.getD_eq_getElem?_getD]
 cases e:ns[k.toNat]? with
 | none=>exact FB (by decide:Builtin.Int.intBits 0<=0) (GN _)
 | some c=>exact hb c (FM e)
theorem zI{α β:Type}(f:α->β)(l:List α)(lo hi:Option Int):cut (l.map f) lo hi=(cut l lo hi).map f:=by
 unfold cut;rw[Fy,List.map_take,List.map_drop]
def E8.kr:E8->List (List Rw)
 | .row k ts b=>[[(k,ts,b)]]
 | .nt _=>[]
 | .bo s t=>s.kr.flatMap λc=>t.kr.map λd=>c++d
 | .ei s t=>s.kr++t.kr
def sayR(r:Rw):E8:=.row r.1 r.2.1 r.2.2
theorem E8.cs_kr:∀ {s:E8},s.cs=s.kr.map λc=>c.map sayR
 | .row _ _ _=>rfl
 | .nt _=>rfl
 | .bo s t=>by
  show (s.cs.flatMap λc=>t.cs.map λd=>c++d)=(s.kr.flatMap λc=>t.kr.map λd=>c++d).map _
  rw[E8.cs_kr (s:=s),E8.cs_kr (s:=t),List.flatMap_map,List.map_flatMap]
  congr 1
  funext c
  rw[GC,GC]
  congr 1
  funext d
  show _=List.map sayR (c++d)
  rw[F3];rfl
 | .ei s t=>by
  show s.cs++t.cs=(s.kr++t.kr).map _
  rw[E8.cs_kr (s:=s),E8.cs_kr (s:=t),F3]
def krD(K:List (List Rw)):D:=.lst (K.map λc=>.lst (c.map rwD))
theorem Cw{s:E8}:csD s.cs=krD s.kr:=by
 unfold csD krD dI;rw[E8.cs_kr,GC]
 congr 2
 funext c
 show DL.D.lst ((c.map sayR).map E8.D)=_
 rw[GC];rfl
theorem E8.kr_num{s:E8}(h:s.pn=true):s.kr.length=s.num:=by rw[<- E8.cs_num h,E8.cs_kr,Fy]
theorem E8.kr_long{s:E8}(h:s.pn=true)(hc:c∈s.kr):c.length<=s.long:=by
 have:=E8.cs_long h (c.map sayR) (by rw[E8.cs_kr];exact FC.mpr ⟨c,hc,rfl⟩)
 rwa [Fy] at this
def E8.bt(B:Nat):E8->Prop
 | .row _ ts b=>(∀t∈ts,ib t.2<=B)/\ib b<=B
 | .nt s=>s.bt B
 | .bo s t=>s.bt B/\t.bt B
 | .ei s t=>s.bt B/\t.bt B
theorem E8.pl_bt{B:Nat}:∀ {s:E8} {t:Bool},s.bt B->(s.pl t).bt B
 | .row k ts b,true,h=>⟨λt ht=>by
   obtain⟨u,hu,rfl⟩:=FC.mp ht
   exact GS (h.1 u hu),GS h.2⟩
 | .row k ts b,false,h=>h
 | .nt s,t,h=>E8.pl_bt (s:=s) h
 | .bo s u,true,h=>⟨E8.pl_bt h.1,E8.pl_bt h.2⟩
 | .bo s u,false,h=>⟨E8.pl_bt h.1,E8.pl_bt h.2⟩
 | .ei s u,true,h=>⟨E8.pl_bt h.1,E8.pl_bt h.2⟩
 | .ei s u,false,h=>⟨E8.pl_bt h.1,E8.pl_bt h.2⟩
theorem E8.kr_row{B:Nat}:∀ {s:E8},s.ok names->s.bt B->∀c∈s.kr,∀r∈c,nN names r.2.1/\(∀t∈r.2.1,ib t.2<=B)/\ib r.2.2<=B/\∀n∈r.2.1.map (·.1),n∈s.nms
 | .row k ts b,o,h,c,hc,r,hr=>by
  rw[F1.mp hc] at hr;rw[F1.mp hr];exact⟨o.1,h.1,h.2,λn hn=>hn⟩
 | .bo s t,o,h,c,hc,r,hr=>by
  obtain⟨x,hx,hy⟩:=List.mem_flatMap.mp hc;obtain⟨y,hz,rfl⟩:=FC.mp hy
  rcases FV.mp hr with hr | hr
  ·obtain⟨a,b,d,e⟩:=E8.kr_row o.1 h.1 x hx r hr;exact⟨a,b,d,λn hn=>F4 _ (e n hn)⟩
  ·obtain⟨a,b,d,e⟩:=E8.kr_row o.2 h.2 y hz r hr;exact⟨a,b,d,λn hn=>FR _ (e n hn)⟩
 | .ei s t,o,h,c,hc,r,hr=>by
  rcases FV.mp hc with hc | hc
  ·obtain⟨a,b,d,e⟩:=E8.kr_row o.1 h.1 c hc r hr;exact⟨a,b,d,λn hn=>F4 _ (e n hn)⟩
  ·obtain⟨a,b,d,e⟩:=E8.kr_row o.2 h.2 c hc r hr;exact⟨a,b,d,λn hn=>FR _ (e n hn)⟩
theorem wE(pw:nm.Pairwise E3)(nd:nm.Nodup)(h:nN nm ts):eQ (cf ts) ts:=by
 have n1:=nd.sublist h.sub
 exact⟨pw.sublist h.sub,n1,λt ht=>⟨(lE n1 ht).symm,h.nz t ht⟩,λn hn=>FE λz=>hn (gN z)⟩
theorem Bc{K:List (List Rw)}{i:Nat}{d:D}(h:(K.map λc=>D.lst (c.map rwD))[i]?=some d):∃c,K[i]?=some c/\d=.lst (c.map rwD):=by
 rw[List.getElem?_map] at h
 cases e:K[i]? with
 | none=>rw[e] at h;cases h
 | some n=>rw[e] at h;exact⟨n,rfl,(FU h).symm⟩
theorem uz(q:Str->Prop)[DecidablePred q]:∀l:Zb,(l.map D.str).filterMap (λd=>match d with | .str n=>if q n then some (.str n) else none | _=>none)=(l.filter λn=>decide (q n)).map D.str
 | []=>rfl
 | n::l=>by simp only[List.map_cons,List.filterMap_cons,List.filter_cons,uz q l];by_cases h:q n<;>simp[h]
theorem cnt4:∀k,cnt 4 k=4
 | 0=>rfl
 | k+1=>by show cnt 4 k*cnt 4 k / 4=4;rw[cnt4 k]
theorem Cf(h:c.length<=3)(ns:Zb):(E5 c ns).length<=4:=by have:=(nI (c:=4) (Nat.le_succ_of_le h) (by decide) ns).1;rwa [cnt4] at this
def unI:D->Int
 | .int z=>z
 | _=>0
theorem sO(w:Ze):(w.map D.int).map unI=w:=by rw[GC];exact List.map_id _
def Fj(p:Pc):D:=.tup [oD p.1.1,.bl p.1.2,oD p.2.1,.bl p.2.2]
def Sm(p:Int×Int):Prop:=ib p.1<=1000000/\ib p.2<=8000
inductive tR(ds:Zh)(R:D->Prop):Prop
 | mk (a b:Fs) (lo:Bool) (hh:ds=[ot a,ot b,.bl lo]/\(∀p,a.1=some p->Sm p)/\(∀p,b.1=some p->Sm p)/\R (ot (wid lo a b)))
theorem nM:∀ds R,tR ds R->ds.length=3:=λ_ _ ⟨_,_,_,e,_⟩=>by rw[e];rfl
theorem vQ:au ["one","other","is_low"] ["one","other","is_low"] (am s_wider):=by walk_at "sc"
theorem lG(Z:Zz):Z.C 2 "wider" ["one","other","is_low"] (Fx Z.K tR):=by
 refine cH Z.x28 vQ nM λfa cdv A outer s H E ds R hr h=>?_;have hU:=hr.units;refine⟨_,(ad (aM (DW.dt (fS (aB tz (EU 0) cL (aw _)) (dR (aB tz (EU 1) cL (aw _))))) (af (av (m3 rfl Z.g_ENDLESS))) aA) (ad (aM (aB (h7 hU) (EU 0) (EU 1) (aw _)) (af (av (aP (ac (EU 0) (ac (mU (EU 0) (dD (EU 1))) ae))))) aA) (af (av (p8 (aB (h7 hU) (ar (j6 Z) (rm hr) rfl (ac (EU 0) (ac (EU 1) ae))) (ag 2) (aw _)) (ag 0) (ag 1)))))),?_⟩;obtain⟨⟨a,ab⟩,⟨b,bb⟩,lo,rfl,ha,hb,q⟩:=h;unfold ot at q ⊢;refine ap λK1 h1=>?_
 cases a with
 | none =>
  unfold oD;walk_at "";exact q
 | some p =>
  rw[show oD (some p)=.tup [.int p.1,.int p.2] from rfl];walk_at ""
  cases b with
  | none =>
   unfold oD;walk_at "";exact q
  | some r =>
   obtain⟨p1,p2⟩:=ha p rfl;obtain⟨r1,r2⟩:=hb r rfl;unfold wid at q;simp only at q;rw[show oD (some r)=.tup [.int r.1,.int r.2] from rfl];walk_at "";rw[h1];refine ap λK3 h3=>?_;walk_at "";refine dO (λe=>?_) λe=>?_
   ·have e:p=r:=Prod.ext (by simpa using GQ Prod.fst e) (by simpa using GQ Prod.snd e)
    rw[FP e] at q
    cases ab with
    | true=>exact ifp rfl q
    | false=>exact EV FG q
   ·rw[FN (λz=>e (by rw[z]))] at q;rw[h3];walk_at "";refine⟨p,r,rfl,FB p1 (by decide),FB r1 (by decide),p2,r2,?_⟩;walk_at "";refine dO (λe=>?_) λe=>?_
    ·rw[FP e] at q;exact q
    ·rw[FN e] at q;exact q
inductive gk(ds:Zh)(R:D->Prop):Prop
 | mk (a b:Pc) (hh:ds=[Fj a,Fj b]/\(∀p,a.2.1=some p->Sm p)/\(∀p,b.1.1=some p->Sm p)/\R (.bl (EY a b)))
theorem gC:∀ds R,gk ds R->ds.length=2:=λ_ _ ⟨_,_,e,_⟩=>by rw[e];rfl
theorem kU:au ["one","other"] ["one","other"] (am s_lies_below):=by walk_at "sc"
theorem eC(Z:Zz):Z.C 2 "lies_below" ["one","other"] (Fx Z.K gk):=by
 refine cH Z.x29 kU gC λfa cdv A outer s H E ds R hr h=>?_;have hU:=hr.units;refine⟨_,(ad (aM (DW.dt (fS (aB tz (EU 0) cL (aw _)) (dR (aB tz (EU 1) cL (aw _))))) (af (av cv)) aA) (ad (aM (aB (h7 hU) (EU 0) (EU 1) (aw _)) (af (av (iP (iE (EU 0)) (dD (iE (EU 1)))))) aA) (af (av (ar (j6 Z) (rm hr) rfl (ac (EU 0) (ac (EU 1) ae))))))),?_⟩;obtain⟨⟨a0,a,ab⟩,⟨⟨b,bb⟩,b0⟩,rfl,ha,hb,q⟩:=h;unfold Fj;refine ap λK1 h1=>?_
 cases a with
 | none =>
  rw[show oD none=.non from rfl];walk_at "";exact q
 | some p =>
  rw[show oD (some p)=.tup [.int p.1,.int p.2] from rfl];walk_at ""
  cases b with
  | none =>
   rw[show oD none=.non from rfl];walk_at "";exact q
  | some r =>
   obtain⟨p1,p2⟩:=ha p rfl;obtain⟨r1,r2⟩:=hb r rfl;unfold EY at q;simp only at q;rw[show oD (some r)=.tup [.int r.1,.int r.2] from rfl];walk_at "";rw[h1];refine ap λK3 h3=>?_;walk_at "";refine dO (λe=>?_) λe=>?_
   ·have e:p=r:=Prod.ext (by simpa using GQ Prod.fst e) (by simpa using GQ Prod.snd e)
    rw[FP e] at q
    cases ab with
    | true=>exact EV (by decide) q
    | false=>exact ifp rfl q
   ·rw[FN (λz=>e (by rw[z]))] at q;rw[h3];walk_at "";exact⟨p,r,rfl,FB p1 (by decide),FB r1 (by decide),p2,r2,q⟩
inductive o0(ds:Zh)(R:D->Prop):Prop
 | mk (L:List Pc) (P:Pc) (S:Int×Int->Prop) (hh:ds=[.lst (L.map Fj),Fj P]/\(∀p,S p->Sm p)/\(∀p∈L,gL S p)/\gL S P/\L.length<=60/\R (.lst ((tf L P).map Fj)))
theorem lY:∀ds R,o0 ds R->ds.length=2:=λ_ _ ⟨_,_,_,e,_⟩=>by rw[e];rfl
theorem nG{L:List Pc}{i:Nat}{d:D}(h:(L.map Fj)[i]?=some d):∃p,L[i]?=some p/\d=Fj p:=by
 rw[List.getElem?_map] at h
 cases e:L[i]? with
 | none=>rw[e] at h;cases h
 | some p=>rw[e] at h;cases h;exact⟨p,rfl,rfl⟩
theorem mf{S:Int×Int->Prop}{e:Fs}(hS:∀p,S p->Sm p)(h:k7 S e):∀p,e.1=some p->Sm p:=λp hp=>hS p (h.low p hp).2
theorem AU{p:Pc}{R:D->Prop}(h:R (ot p.1)):fSlT (Fj p) none (some 2) R:=h
theorem C4{p:Pc}{R:D->Prop}(h:R (ot p.2)):fSlT (Fj p) (some 2) none R:=h
theorem c6:au ["pieces","piece","below","above","grown","held"] ["pieces","piece"] (am s_put_in):=by walk_at "sc"
theorem pV(Z:Zz):Z.C 3 "put_in" ["pieces","piece"] (Fx Z.K o0):=by
 refine cH Z.x30 c6 lY λfa cdv A outer s H E ds R hr h=>?_;have hU:=hr.units;refine⟨_,(ad (eP 2 c6.nd ae) (ad (eP 3 c6.nd ae) (ad (ax 4 c6.nd (ag 1)) (ad (bA FY rfl (ag 0) (aq 5 c6.nd) (af (aM (aU (ar (eC Z) (rm hr) rfl (ac (ag 5) (ac (ag 1) ae)))) (af (bT 2 (ag 5))) (af (aM (aU (ar (eC Z) (rm hr) rfl (ac (ag 1) (ac (ag 5) ae)))) (af (bT 3 (ag 5))) (af (ax 4 c6.nd (ay aN (ar (lG Z) (rm hr) rfl (ac (pN (ag 4) dP (cV ak)) (ac (pN (ag 5) dP (cV ak)) (ac cv ae)))) (ar (lG Z) (rm hr) rfl (ac (pN (ag 4) (cV ak) dP) (ac (pN (ag 5) (cV ak) dP) (ac cv ae)))))))))))) (cc 2 (cc 3 (af (av (ay aN (ay aN (ag 2) (bJ (ac (ag 4) ae))) (ag 3)))))))))),?_⟩;obtain⟨L,P,S,rfl,hS,hL,hP,ab,q⟩:=h;refine ap λK1 hK1=>?_;walk_at "";intro ba;rw[hK1];refine ap λK2 hK2=>?_;walk_at "";intro aa;rw[hK2];refine ap λK3 hK3=>?_;walk_at "";rw[hK3];refine ap λK4 hK4=>?_;refine bN λF N hF hN=>?_;walk_at "";refine⟨λi δ=>∃x,δ=[.dat (.lst (L.map Fj)),.dat (Fj P),.own ba (.lst (((L.take i).filter λh=>EY h P).map Fj)),.own aa (.lst (((L.take i).filter λh=>!EY h P&&EY P h).map Fj)),.dat (Fj ((L.take i).foldl (grw P) P)),x],⟨_,rfl⟩,?_,?_⟩
 ·rintro i d δ hd ⟨x,rfl⟩;obtain⟨h,hh,rfl⟩:=nG hd;have hm:=FM hh;have ai:=(List.getElem?_eq_some_iff.mp hh).1;have ok:=hL h hm;have ah:=(grow hP (L.take i) P (λp hp=>hL p (GP hp)) hP (by grind) (by grind)).1;have l1:((L.take i).filter λh=>EY h P).length<=i:=FB (Gm ..) (by rw[Ge];omega);have l2:((L.take i).filter λh=>!EY h P&&EY P h).length<=i:=FB (Gm ..) (by rw[Ge];omega);rw[hF];simp only[aG hh,List.filter_append,List.foldl_append,List.map_append];generalize (L.take i).foldl (grw P) P=g at *;walk_at "";refine⟨h,P,rfl,mf hS ok.h,mf hS hP.l,?_⟩;walk_at ""
  cases k1:EY h P with
  | true =>
   walk_at "";refine⟨by rw[Fy];omega,?_,?_,?_⟩<;>simp[grw,k1]
  | false =>
   walk_at "";refine⟨P,h,rfl,mf hS hP.h,mf hS ok.l,?_⟩;walk_at ""
   cases k2:EY P h with
   | true =>
    walk_at "";refine⟨by rw[Fy];omega,?_,?_,?_⟩<;>simp[grw,k1,k2]
   | false =>
    walk_at "";refine AU (AU ⟨g.1,h.1,true,rfl,mf hS ah.l,mf hS ok.l,?_⟩);walk_at "";refine C4 (C4 ⟨g.2,h.2,false,rfl,mf hS ah.h,mf hS ok.h,?_⟩);walk_at "";unfold ot;walk_at "";refine⟨?_,?_,?_⟩<;>simp[grw,k1,k2,Fj]
 ·rintro δ ⟨x,rfl⟩;rw[Fy,FZ,hN,hK4];walk_at "";have l1:(L.filter λh=>EY h P).length<=60:=FB (Gm ..) ab;have l2:(L.filter λh=>!EY h P&&EY P h).length<=60:=FB (Gm ..) ab;unfold tf at q;rw[F3,F3] at q;exact⟨by rw[Fy];omega,by rw[FF,Fy,Fy,Gg];omega,q⟩
def Fg(nm:Zb)(n:Str):Zb:=nm.filter λk=>decide (k≠n)
structure One(a:E8)(nm:Zb)(n:Str)(B N C:Nat):Prop where
 da:a.dep<=60
 oa:a.ok nm
 ta:a.bt B
 na:(a.pl false).num<=4/\(a.pl false).long<=3
 pw:nm.Pairwise E3
 nd:nm.Nodup
 mem:∀n,n∈nm↔n∈a.nms
 l60:nm.length<=60
 len:(Fg nm n).length+1<=N
 n4:N<=4
 wN:wb B 6 (N+1)<=C
 hC:C<=3900
theorem One.lens{a:E8}{B N C:Nat}(T:One a nm n B N C)(hc:c∈(a.pl false).kr):c.length<=3:=by
 have h1:=E8.kr_long E8.pl_pn hc
 have:=T.na.2
 omega
theorem One.fit{a:E8}{B N C:Nat}(T:One a nm n B N C)(hc:c∈(a.pl false).kr):Fit nm c B N:=by
 have hr:=E8.kr_row (E8.pl_ok T.oa) (E8.pl_bt T.ta) c hc
 have:=T.lens hc
 have:=T.l60
 have:=T.hC
 have:=T.wN
 exact⟨⟨T.pw,T.nd,λr h=>wE T.pw T.nd (hr r h).1,λr h t ht=>(hr r h).1.sub.subset (FC.mpr ⟨t,ht,rfl⟩)⟩,⟨λr h=>(hr r h).2.1,λr h=>(hr r h).2.2.1⟩,by omega,by omega,T.n4,by omega⟩
def ok1(ns:Zb)(c:List Rw):Bool:=(E5 c ns).all λw=>so0 (c.zip w)
def pc1(nm:Zb)(n:Str)(ns:Zb)(c:List Rw):Pc:=pcs nm c [] [] n (E5 c ns)
def rf(nm:Zb)(n:Str)(A:List (List Rw)):List Pc:=wV (ok1 (n::Fg nm n)) (pc1 nm n (Fg nm n)) A
def In1(nm:Zb)(n:Str)(c:List Rw)(x:Rat):Prop:=∀w∈E5 c (Fg nm n),Fi (kZ (Fw [] []) n x) (ET nm c w)
theorem rA:∀k∈nm,k∈n::Fg nm n:=λk hk=>by
 by_cases e:k=n
 ·rw[e];exact FD ..
 ·exact Fz _ (FI.mpr ⟨hk,F6 e⟩)
theorem One.pcs{a:E8}{B N C:Nat}(T:One a nm n B N C)(hc:c∈(a.pl false).kr):Pcs nm c [] [] n (E5 c (Fg nm n)) C 1 1 0 1:=by
 have F:=T.fit hc
 have ol:(Fg nm n).length<=N:=by have:=T.len;omega
 have w1:=ym (FH B) F.m6 (Fg nm n).length
 have w2:wb B 6 ((Fg nm n).length+1)<=C:=FB (yJ (by omega)) T.wN
 have w3:2*wb B 6 (Fg nm n).length+B+6+1<=C:=w2
 have m6:=F.m6
 have aa:∀w∈E5 c (Fg nm n),∀x,ib (cfs (c.zip w) x)<=C:=λw hw x=>FB (F.H.cfb F.hB (dl F.H F.hB hw) x) (by omega)
 have ab:∀w∈E5 c (Fg nm n),ib (bds (c.zip w))<=C:=λw hw=>FB (Ft.bdb F.hB (dl F.H F.hB hw)) (by omega)
 exact⟨F.H,by decide,λw hw t ht hn=>by
  obtain⟨h1,h2,_⟩:=ir ht
  exact absurd ((ca hw).2 _ (FI.mpr ⟨h1,F6 hn⟩)) h2,⟨rfl,λ_ h=>(nomatch h),λ_ h=>(nomatch h),λ_ h=>(nomatch h)⟩,by have:=T.hC;omega,by show ib 1<=1;decide,by decide,λ_ h=>(nomatch h),by decide,by decide,by have:=T.hC;omega,by have:=T.hC;omega,aa,ab⟩
theorem One.case{a:E8}{B N C:Nat}(T:One a nm n B N C){S:Int×Int->Prop}(hS:∀c∈(a.pl false).kr,∀w∈E5 c (Fg nm n),cfs (c.zip w) n≠0->S (cnd nm c [] [] n w).1) :
  ∀c∈(a.pl false).kr,(ok1 (n::Fg nm n) c=true->gL S (pc1 nm n (Fg nm n) c)/\∀x,inP (pc1 nm n (Fg nm n) c) x↔In1 nm n c x)/\(ok1 (n::Fg nm n) c=false->∀x,¬ In1 nm n c x):=λc hc=>by
 have F:=T.fit hc
 refine⟨λh=>?_,λh x hx=>?_⟩
 ·have aa:∀w∈E5 c (n::Fg nm n),Fi (Fw [] []) (ET nm c w):=λw hw=>(CY rA hw _).mp (List.all_eq_true.mp h w hw)
  exact BC F.H aa (rT (by simp)) (λw _ t _ _=>by show (0:Int)<1;decide) (hS c hc)
 ·refine absurd (List.all_eq_true.mpr λw hw=>(CY rA hw _).mpr (sN F.H hx hw)) (by show ¬ ok1 (n::Fg nm n) c=true;rw[h];decide)
theorem One.bits{a:E8}{B N C:Nat}(T:One a nm n B N C):∀c∈(a.pl false).kr,∀w∈E5 c (Fg nm n),cfs (c.zip w) n≠0->ib (cnd nm c [] [] n w).1.1<=C+71/\ib (cnd nm c [] [] n w).1.2<=C+1:=λc hc w hw h=>by
 have k:=(T.pcs hc).cnd hw h
 have k1:=k.tb
 have k2:=k.bb
 exact⟨by omega,by omega⟩
theorem One.small{a:E8}{B N C:Nat}(T:One a nm n B N C):∀c∈(a.pl false).kr,∀w∈E5 c (Fg nm n),cfs (c.zip w) n≠0->Sm (cnd nm c [] [] n w).1:=λc hc w hw h=>by
 have:=T.hC
 obtain⟨k1,k2⟩:=T.bits c hc w hw h;exact⟨by omega,by omega⟩
theorem One.str{a:E8}{B N C:Nat}(T:One a nm n B N C){S:Int×Int->Prop}(hS:∀c∈(a.pl false).kr,∀w∈E5 c (Fg nm n),cfs (c.zip w) n≠0->S (cnd nm c [] [] n w).1)(i:Nat)(hi:i<=(a.pl false).kr.length):AY S (In1 nm n) ((a.pl false).kr.take i) (rf nm n ((a.pl false).kr.take i)):=xk (T.case hS) i hi
inductive l8(ds:Zh)(R:D->Prop):Prop
 | mk (a:E8) (n:Str) (nm:Zb) (B N C:Nat) (hh:ds=[a.D,.str n]/\One a nm n B N C/\R (.lst ((rf nm n (a.pl false).kr).map Fj)))
theorem kL:∀ds R,l8 ds R->ds.length=2:=λ_ _ ⟨_,_,_,_,_,_,e,_⟩=>by rw[e];rfl
theorem cI:au ["saying","name","names","told","case","steps"] ["saying","name"] (am s_stretch):=by walk_at "sc"
theorem iJ(Z:Zz):Z.C 65 "stretch" ["saying","name"] (Fx Z.K l8):=by
 refine cH Z.x31 cI kL λfa cdv A outer s H E ds R hr h=>?_;have hU:=hr.units;refine⟨_,(ad (ax 2 cI.nd (ay aN (bJ (ac (ag 1) ae)) (bO ["other"] [(1,"name")] rfl rfl (by decide +kernel) rfl (by decide +kernel) (bI ⟨rfl,trivial⟩) (λ_=>bU rfl) (aT ⟨⟨rfl,rfl,.inl rfl⟩,trivial⟩) (dw (ar (gi Z) (rm hr) rfl (ac (ag 0) ae))) λ_ _ _ _ _=>⟨(aq 0 (show List.Nodup (["other","name"]:Zb) by decide +kernel)),(dL (aB (kG hU) (ag 0) (ag 1) (aw _))),(ag 0)⟩))) (ad (ax 3 cI.nd (bJ ae)) (ad (bA FY rfl (ar (rM Z) (rm hr) rfl (ac (ag 0) ae)) (aq 4 cI.nd) (ad (ax 5 cI.nd (ar (ka Z) (rm hr) rfl (ac (ag 4) (ac (ag 2) ae)))) (af (aM (aU (aK (Ef rfl) rfl Z.x60 Ea (ac (bO ["row","weights"] [] rfl rfl (by decide +kernel) rfl (by decide +kernel) (bI trivial) (λ_=>bU rfl) (aT trivial) (dw (EU 5)) λ_ _ _ _ _=>⟨(dz (n:=2) rfl (aC (aq 0 (show List.Nodup (["row","weights"]:Zb) by decide +kernel)) (aC (aq 1 (show List.Nodup (["row","weights"]:Zb) by decide +kernel)) bE))),fA,(ar (uQ Z) (rm hr) rfl (ac (ag 0) (ac pJ ae)))⟩) ae))) (af (ax 3 cI.nd (ar (pV Z) (rm hr) rfl (ac (ag 3) (ac (ar (jY Z) (rm hr) rfl (ac (ag 1) (ac (EU 5) (ac pJ ae)))) ae))))) aA)))) (af (av (ag 3)))))),?_⟩;obtain⟨a,n,nm,B,N0,C,rfl,T,q⟩:=h;have l60:=T.l60;have nl:=T.len;have n4:=T.n4;refine ap λK1 hK1=>?_;walk_at "";refine⟨nm,a,rfl,T.da,T.oa,by omega,λss nds hms hs=>?_⟩;have es:=CL hs nds T.pw T.nd λk=>by rw[hms k,T.mem k]
 subst es;walk_at "";refine⟨by rw[Fy];omega,λd=>match d with | .str k=>if k≠n then some (.str k) else none | _=>none,λx hx=>?_,?_⟩
 ·obtain⟨k,hk,rfl⟩:=FC.mp hx;walk_at "";exact dO (λz=>FP z) λz=>FN z
 rw[uz];have ol:(Fg ss n).length<=ss.length:=Gm ..;refine⟨by rw[Fy];exact FB (Nat.add_le_add_left (show (Fg ss n).length<=8999 by omega) 1) (by decide),?_⟩;show K1 [.dat a.D,.dat (.str n),.dat (.lst ((n::Fg ss n).map D.str)),.no,.no,.no];rw[hK1];refine ap λK2 hK2=>?_;walk_at "";rw[hK2];refine ap λK3 hK3=>?_;refine bN λF N hF hN=>?_;have kA:(a.pl false).kr.length<=4:=by rw[E8.kr_num E8.pl_pn];exact T.na.1
 walk_at "";refine⟨a,ss,rfl,T.da,T.oa,by omega,T.na.1,T.na.2,?_⟩;rw[Cw];have str:=T.str T.small;have pcs:=λ{c} hc=>T.pcs (c:=c) hc;have fit:=λ{c} hc=>T.fit (c:=c) hc;have l3:∀c∈(a.pl false).kr,c.length<=3:=λc hc=>T.lens hc;have case:=T.case T.small;generalize (a.pl false).kr=A at *;unfold krD;walk_at "";refine⟨λi δ=>∃x y,δ=[.dat a.D,.dat (.str n),.dat (.lst ((n::Fg ss n).map D.str)),.dat (.lst ((rf ss n (A.take i)).map Fj)),x,y],⟨_,_,rfl⟩,?_,?_⟩
 ·rintro i d δ hd ⟨x,y,rfl⟩;obtain⟨c,hc,rfl⟩:=Bc hd;have aa:=FM hc;have ah:=(List.getElem?_eq_some_iff.mp hc).1;rw[hF];show dF _ _ _ _;refine cG λK4 hK4=>?_;walk_at "";refine⟨ss,c,B,N0,n::Fg ss n,rfl,fit aa,by rw[FL];omega,?_⟩;walk_at "";rw[hK4];have e0:(yf c (n::Fg ss n)).map (qR ss c)=qR ss c (E5 c (n::Fg ss n))::qR ss c (E5 c (Fg ss n))::((yf c (Fg ss n)).drop 1).map (qR ss c):=by cases Fg ss n<;>rfl
  rw[e0];have sl:=Cf (l3 c aa) (n::Fg ss n);have bb:∀w∈E5 c (n::Fg ss n),ib (bds (c.zip w))<=10000:=λw hw=>by
   have h1:=Ft.bdb (fit aa).hB (dl (fit aa).H (fit aa).hB hw)
   have h2:=(fit aa).ck (k:=(n::Fg ss n).length) (by rw[FL];omega)
   unfold cb at h2;omega
  unfold qR;walk_at "";refine⟨by rw[Fy];omega,λd=>match d with | .tup [_,.tup ws]=>some (.bl (so0 (c.zip (ws.map unI)))) | _=>none,λx hx=>?_,(E5 c (n::Fg ss n)).map (λw=>so0 (c.zip w)),?_,?_⟩
  ·obtain⟨w,hw,rfl⟩:=FC.mp hx;refine⟨E8.row (kOf (Fe (c.zip w))) [] (bds (c.zip w)),[],[],[],0,1,?_,by show 1<=60;decide,⟨⟨by simp,(λ_ h=>nomatch h),(λ_ h=>nomatch h)⟩,bb w hw⟩,by decide,(λ_ h=>nomatch h),⟨rfl,(λ_ h=>nomatch h),(λ_ h=>nomatch h),(λ_ h=>nomatch h)⟩,by decide,by show ib 1<=1;decide,by decide,rfl,?_⟩
   ·rw[Ar rA hw];rfl
   ·have e1:(E8.row (kOf (Fe (c.zip w))) [] (bds (c.zip w))).tv (pT [] []) (pB [] [])=so0 (c.zip w):=by
     show qz _ 0 (bds (c.zip w)*1)=_
     rw[Int.mul_one];rfl
    show some (D.bl (so0 (c.zip ((w.map D.int).map unI))))=_
    rw[sO,e1]
  ·rw[aX _ (smD ss c) (λw=>D.bl (so0 (c.zip w))) _ (by intro w _;show some (D.bl (so0 (c.zip ((w.map D.int).map unI))))=_;rw[sO]),GC];rfl
  rw[List.all_map];have ab:=case c aa;have sn:rf ss n (A.take (i+1))=if ok1 (n::Fg ss n) c=true then tf (rf ss n (A.take i)) (pc1 ss n (Fg ss n) c) else rf ss n (A.take i):=by unfold rf;rw[aG hc,lg]
  rw[sn];have st:=str i (by omega);have len:=st.len;have ai:2 ^ (A.take i).length<=2 ^ 4:=Hm (by decide) (by rw[Ge];omega);refine dO (λh1=>?_) λh1=>?_
  ·have e:ok1 (n::Fg ss n) c=true:=h1
   simp only[if_pos e];refine⟨ss,c,[],[],n,E5 c (Fg ss n),C,1,1,0,1,rfl,pcs aa,?_⟩;walk_at "";refine⟨rf ss n (A.take i),pc1 ss n (Fg ss n) c,Sm,rfl,λ_ h=>h,st.ok,(ab.1 e).1,by omega,?_⟩;walk_at "";exact⟨_,rfl⟩
  ·have e:¬ ok1 (n::Fg ss n) c=true:=h1
   simp only[if_neg e]
 ·rintro δ ⟨x,y,rfl⟩;rw[Fy,FZ,hN,hK3];walk_at "";exact q
theorem cnz(h:j≠0):CNz i j:=h
theorem Au(h0:j≠0)(h:j.natAbs.log2<9000):CFd i j:=⟨h0,h⟩
theorem oM{b:Int}{n:Nat}(h:Builtin.Int.intBits t<=n):Builtin.Int.intBits (Fv t b)<=n:=GA h
theorem o7{b:Int}{n:Nat}(h:Builtin.Int.intBits b<=n):Builtin.Int.intBits (Fp t b)<=n:=GA h
abbrev fH:=cw
theorem gb:∀ds R,fH ds R->ds.length=2:=cB
theorem eD:au ["_law_one","_law_other"] ["_law_one","_law_other"] (am s__law_common):=by walk_at "sc"
theorem dY(Z:Zz):Z.C 1 "_law_common" ["_law_one","_law_other"] (Fx Z.K fH):=by
 refine cH Z.x32 eD gb λfa cdv A outer s H E ds R hr h=>?_;have hU:=hr.units;refine⟨_,(ad (jX FY (aB (kG hU) (ag 1) ak (aw _)) (af (Cr 0 1 rfl eD.nd (by decide) (ac (ag 1) (ac (ay jd (ag 0) (ag 1)) ae))))) (af (av (aK Av rfl Z.x51 yj (ac (ag 0) ae))))),?_⟩;obtain⟨x,y,rfl,q⟩:=h;refine⟨λδ=>∃a b,δ=[.dat (.int a),.dat (.int b)]/\gc a b=gc x y,λδ=>match δ with | [_,.dat (.int b)]=>b.natAbs | _=>0,⟨x,y,rfl,rfl⟩,?_⟩;rintro δ ⟨a,b,rfl,e⟩;walk_at "";refine dO (λc=>?_) (λc=>?_)
 ·exact⟨c,(t7 a b).trans e,eM a b c⟩
 ·have c:=Ij.mp c
  subst c;rw[<- rP,e];exact q
inductive cQ(ds:Zh)(R:D->Prop):Prop
 | mk (p:Int×Int) (hh:ds=[Fk p]/\Fn p.1 p.2/\R (.bl true))
theorem dG:∀ds R,cQ ds R->ds.length=1:=λ_ _ ⟨_,e,_⟩=>by rw[e];rfl
theorem eO:au ["_law_found"] ["_law_found"] (am s__law_is_fraction):=by walk_at "sc"
theorem et(Z:Zz):Z.C 2 "_law_is_fraction" ["_law_found"] (Fx Z.K cQ):=by
 refine cH Z.x33 eO dG λfa cdv A outer s H E ds R hr h=>?_;have hU:=hr.units;refine⟨_,(ad (aM (DW.dt (fS (de (aU (jG oO rfl Z.x61 rfl Z.x53 eZ (ag 0)))) (dR (aB (kG hU) (aK f9 rfl Z.x54 fL (ac (ag 0) ae)) ak (aw _))))) (af (av cv)) aA) (ad (aM (aB uX (aK f9 rfl Z.x54 fL (ac (bO ["_law_one"] [] rfl rfl (by decide +kernel) rfl (by decide +kernel) (bI trivial) (λ_=>bU rfl) (aT trivial) (oV (ag 0)) λ_ _ _ _ _=>⟨(aq 0 (show List.Nodup (["_law_one"]:Zb) by decide +kernel)),(dL (DW.dt (fF (aU (jG Dm rfl Z.x61 rfl Z.x63 Bt (ag 0))) (dQ (de (aU (jG sR rfl Z.x61 rfl Z.x62 w4 (ag 0)))))))),(ag 0)⟩) ae)) ak (aw _)) (af (av cv)) aA) (af (av (iP (cM uU (EU 0) ak (aw _)) (dD (cM (hX hU) (ar (dY Z) (rm hr) rfl (ac (EU 0) (ac (EU 0) ae))) ak (aw _)))))))),?_⟩;obtain⟨⟨x,y⟩,rfl,l,q⟩:=h;unfold Fk;walk_at "";refine EV (by decide) ⟨some,?_,?_⟩
 ·rintro z (rfl | rfl | h)
  ·rfl
  ·rfl
  ·exact h.elim
 ·refine EV (by show ¬ decide (((2:Nat):Int)<2)=true;decide) ?_;refine ifp l.pos ⟨x,y,rfl,?_⟩;have e:gc x y=1:=l.cop;rw[e];walk_at "";exact q
structure rZ(a b:Int):Prop where
 a0:0<=a
 b0:0<=b
 ab:Builtin.Int.intBits a<=1048576
 bb:Builtin.Int.intBits b<=1048576
inductive gl(ds:Zh)(R:D->Prop):Prop
 | mk (c:_) (hh:ds=[.int c]/\Builtin.Int.intBits c<=1048576/\∀a b,rZ a b->R (.lst [.int a,.int b]))
theorem gu:∀ds R,gl ds R->ds.length=1:=λ_ _ ⟨_,e,_⟩=>by rw[e];rfl
theorem bD:au ["_law_cell_here","_law_number","_law_found","_law_k"] ["_law_cell_here"] (am s__law_purse):=by walk_at "sc"
theorem cW(Z:Zz):Z.C 1 "_law_purse" ["_law_cell_here"] (spN Z.K gl):=by
 refine fn_N Z.x34 bD gu λfa cdv A outer s H E ds R hr h=>?_;have hU:=hr.units;refine⟨_,(ad (ax 1 bD.nd (ay jd (ag 0) ak)) (ad (ax 2 bD.nd ak) (ad (sJ FY rfl rfl Z.x58 (ac ak ae) (aq 3 bD.nd) (ad (ax 1 bD.nd (ay jd (ay aN (ay aN (ay aN (ay bu (ag 1) (ag 1)) (ay bu (ay bu ak (ag 3)) (ag 3))) (ag 3)) ak) ak)) (af (ax 2 bD.nd (ay aN (ay bu (ag 2) ak) (ay jd (ay bu (ag 1) (ag 1)) ak)))))) (ad (aM (aB (hX hU) (ay jd (ag 0) ak) ak (aw _)) (af (sZ (ac (ay eF (aK Av rfl Z.x51 yj (ac (ag 0) ae)) ak) (ac (ag 2) ae)))) aA) (af (sZ (ac ak (ac (ag 2) ae)))))))),?_⟩;obtain⟨c,rfl,hc,q⟩:=h;walk_at "";refine⟨cnz (by decide),?_⟩;walk_at "";simp only[zy];walk_at "";have n0:=Gh c (b:=2147483647) (by decide);have n1:=Gy c (b:=2147483647) (by decide);refine⟨by decide,by decide,λi δ=>∃n f k,δ=[.dat (.int c),.dat (.int n),.dat (.int f),k]/\i<=16/\0<=n/\n<2147483648/\0<=f/\Builtin.Int.intBits f<=40*(i+1),⟨_,_,_,rfl,by decide,n0,by omega,by decide,by decide⟩,?_,?_⟩
 ·rintro i δ hi ⟨n,f,k,rfl,_,hn0,hn1,hf0,aa⟩;have ah:i<16:=hi;walk_at "";have bi:Builtin.Int.intBits (i:Int)<=64:=sm64 (by omega) (by omega);have bn:Builtin.Int.intBits n<=64:=sm64 hn0 (by omega);have z0:=Gh (n*n+48271*(i:Int)*i+i+3) (b:=2147483629) (by decide);have z1:=Gy (n*n+48271*(i:Int)*i+i+3) (b:=2147483629) (by decide);generalize (n*n+48271*(i:Int)*i+i+3).fmod 2147483629=z at z0 z1 ⊢;have bz:Builtin.Int.intBits z<=64:=sm64 z0 (by omega);have y0:=Gh (z*z) (b:=2147483587) (by decide);have y1:=Gy (z*z) (b:=2147483587) (by decide);have ab:Builtin.Int.intBits ((z*z).fmod 2147483587)<=31:=intBits_le_iff.mpr (by rw[show (2:Nat) ^ 31=2147483648 from rfl];omega);have fm:=Int.mul_nonneg hf0 (show (0:Int)<=2147483587 by decide);refine⟨E6 bn bn,IntMulOk.of_left (by decide),IntMulOk.of_right bi,cnz (by decide),IntMulOk.of_right (by decide),E6 bz bz,cnz (by decide),by omega,z0,by omega,by omega,?_⟩;have h1:=G0 (F8 aa (show Builtin.Int.intBits 2147483587<=31 by decide)) ab;omega
 ·rintro δ ⟨n,f,k,rfl,_,hn0,hn1,hf0,aa⟩;walk_at "";have aa:Builtin.Int.intBits f<=1048576:=FB aa (by decide);refine⟨cnz (by decide),dO (λ_=>⟨⟨by decide,by decide +kernel⟩,?_⟩) (λ_=>?_)⟩
  ·have ha:0<=(if c<0 then -c else c):=by split<;>omega
   have hb:Builtin.Int.intBits (if c<0 then -c else c)<=1048576:=by
    split
    ·exact GS hc
    ·exact hc
   exact q _ _ ⟨by rw[Int.fdiv_eq_ediv_of_nonneg _ (by decide)];exact Int.ediv_nonneg ha (by decide),hf0,GA hb,aa⟩
  ·exact q _ _ ⟨Int.le_refl 0,hf0,by decide,aa⟩
inductive i9(d:D)(ds:Zh)(R:D->D->Prop):Prop
 | mk (a b m:_) (hh:d=.lst [.int a,.int b]/\ds=[.int m]/\rZ a b/\0<m/\Builtin.Int.intBits m<=8000/\∀a' b' r,rZ a' b'->0<=r->r<m->R (.int r) (.lst [.int a',.int b']))
theorem iq:∀d ds R,i9 d ds R->ds.length+1=2:=λ_ _ _ ⟨_,_,_,_,e,_⟩=>by rw[e];rfl
theorem uc{a m:Int}(ha:0<=a)(hm:0<m):0<=a.fdiv m:=by rw[Int.fdiv_eq_ediv_of_nonneg _ (by omega)];exact Int.ediv_nonneg ha (by omega)
theorem dM:au ["_law_purse_here","_law_many","_law_at","_law_found"] ["_law_purse_here","_law_many"] (am s__law_take):=by walk_at "sc"
theorem aF(Z:Zz):Z.C 1 "_law_take" ["_law_purse_here","_law_many"] (spO Z.K i9):=by
 refine fn_O Z.x35 dM iq λfa cdv A outer s H E oa d0 ds R hr h=>?_;have hU:=hr.units;refine⟨_,(ad (ax 2 dM.nd (c7 Dq rfl Z.x63 Bt (ac (cM (hX hU) (uC 0 ak (λ_ _=>rfl)) ak (aw _)) ae))) (ad (ax 3 dM.nd (ay jd (uC 0 (ag 2) (λ_ _=>rfl)) (ag 1))) (ad (zA 0 (ay eF (uC 0 (ag 2) (λ_ _=>rfl)) (ag 1)) (ag 2)) (af (av (ag 3)))))),?_⟩;obtain⟨a,b,m,rfl,rfl,pu,hm,bm,q⟩:=h;walk_at "";have cf:∀x:Int,CFd x m:=λx=>⟨by omega,tw bm (FH _)⟩;have m0:∀x:Int,CNz x m:=λx=>cnz (by omega)
 by_cases ha:a=0
 ·simp only[if_pos ha];walk_at "";refine⟨m0 b,cf b,1,rfl,?_⟩;exact q _ _ _ ⟨pu.a0,uc pu.b0 hm,pu.ab,GA pu.bb⟩ (Gh _ hm) (Gy _ hm)
 ·simp only[if_neg ha];walk_at "";refine⟨m0 a,cf a,0,rfl,?_⟩;exact q _ _ _ ⟨uc pu.a0 hm,pu.b0,GA pu.ab,pu.bb⟩ (Gh _ hm) (Gy _ hm)
theorem zD{α:Type}{l:List α}(h:0<l.length):∃i x,l=i++[x]:=by
 have:l≠[]:=by intro e;rw[e] at h;cases h
 exact⟨l.dropLast,l.getLast this,(List.dropLast_concat_getLast this).symm⟩
def gP:Zh->(D->Prop)->Prop:=tZ
theorem iG:∀ds R,gP ds R->ds.length=2:=jw
theorem ma:au ["_law_one","_law_other"] ["_law_one","_law_other"] (am s__law_less):=by walk_at "sc"
theorem b9(Z:Zz):Z.C 1 "_law_less" ["_law_one","_law_other"] (Fx Z.K gP):=by
 refine cH Z.x36 ma iG λfa cdv A outer s H E ds R hr h=>?_;have hU:=hr.units;refine⟨_,(af (av (cM uX (ay bu (EU 0) (EU 1)) (ay bu (EU 1) (EU 0)) (aw _)))),?_⟩;obtain⟨p,r,rfl,p1,r1,p2,r2,q⟩:=h;unfold Fk;walk_at "";exact⟨E6 p1 r2,E6 r1 p2,q⟩
inductive fC(ds:Zh)(R:D->Prop):Prop
 | mk (x y:Int) (hh:ds=[.int x,.int y]/\y≠0/\ib y<=8000/\R (Fk (Fv x y,Fp x y)))
theorem fW:∀ds R,fC ds R->ds.length=2:=λ_ _ ⟨_,_,e,_⟩=>by rw[e];rfl
theorem cX:au ["_law_top","_law_bottom","_law_share"] ["_law_top","_law_bottom"] (am s__law_lowest):=by walk_at "sc"
theorem bx(Z:Zz):Z.C 2 "_law_lowest" ["_law_top","_law_bottom"] (Fx Z.K fC):=by
 refine cH Z.x37 cX fW λfa cdv A outer s H E ds R hr h=>?_;have hU:=hr.units;refine⟨_,(ad (ax 2 cX.nd (ar (dY Z) (rm hr) rfl (ac (ag 0) (ac (ag 1) ae)))) (ad (aM (aB uX (ag 1) ak (aw _)) (af (ax 2 cX.nd (ay gq ak (ag 2)))) aA) (af (av (aP (ac (ay eF (ag 0) (ag 2)) (ac (ay eF (ag 1) (ag 2)) ae))))))),?_⟩;obtain⟨x,y,rfl,y0,yb,q⟩:=h;have cf:∀i,CFd i (dv x y):=λi=>Au (zM x y0) (tw (uF y0 yb) (FH _));refine ap λK1 hK1=>?_;walk_at "";refine⟨x,y,rfl,?_⟩;walk_at "";rw[hK1];walk_at "";unfold Fv Fp dv at q;unfold dv at cf;refine dO (λc=>?_) λc=>?_
 ·simp only[if_pos c] at cf q;rw[Int.zero_sub];exact⟨cf x,cf y,q⟩
 ·simp only[if_neg c] at cf q;exact⟨cf x,cf y,q⟩
structure Fr(N:Nat)(p:Int×Int):Prop where
 low:Fn p.1 p.2
 b1:ib p.1<=N
 b2:ib p.2<=N
theorem uy{l:Za}{i:Nat}{d:D}(h:(l.map Fk)[i]?=some d):∃p,l[i]?=some p/\d=Fk p:=by
 rw[List.getElem?_map] at h
 cases e:l[i]? with
 | none=>rw[e] at h;cases h
 | some p=>rw[e] at h;cases h;exact⟨p,rfl,rfl⟩
theorem u8{α:Type}{xs:List α}{k:Nat}:cut xs (some (k:Int)) none=xs.drop k:=by
 unfold cut;rw[HT.sIx_none,HT.sIx_nat]
 by_cases h:k<=xs.length
 ·rw[Ih h];exact HQ (by rw[G8];omega)
 ·rw[Nat.min_eq_right (by omega),List.drop_length,List.drop_of_length_le (by omega),List.take_nil]
inductive fc(ds:Zh)(R:D->Prop):Prop
 | mk (l:Za) (hh:ds=[.lst (l.map Fk)]/\(∀p∈l,Fr 3900 p)/\l.length<=60/\∀l':Za,(∀p,p∈l'↔p∈l)->l'.length<=l.length->R (.lst (l'.map Fk)))
theorem fZ:∀ds R,fc ds R->ds.length=1:=λ_ _ ⟨_,e,_⟩=>by rw[e];rfl
theorem a9:au ["_law_some","_law_found","_law_one","_law_at"] ["_law_some"] (am s__law_sorted):=by walk_at "sc"
theorem ie(Z:Zz):Z.C 2 "_law_sorted" ["_law_some"] (Fx Z.K fc):=by
 refine cH Z.x38 a9 fZ λfa cdv A outer s H E ds R hr h=>?_;have hU:=hr.units;refine⟨_,(ad (ax 1 a9.nd (bJ ae)) (ad (bA FY rfl (ag 0) (aq 2 a9.nd) (ad (ax 3 a9.nd ak) (ad (jX FY (DW.dt (fF (aB uX (ag 3) (aK f9 rfl Z.x54 fL (ac (ag 1) ae)) (aw _)) (dQ (aU (ar (b9 Z) (rm hr) rfl (ac (cA cz (ag 1) (ag 3) (λ_ _=>rfl)) (ac (ag 2) ae))))))) (af (ax 3 a9.nd (ay aN (ag 3) ak)))) (af (aM (DW.dt (fS (aB (h7 hU) (ag 3) (aK f9 rfl Z.x54 fL (ac (ag 1) ae)) (aw _)) (dR (aB (EL hU) (cA cz (ag 1) (ag 3) (λ_ _=>rfl)) (ag 2) (aw _))))) (af (ax 1 a9.nd (ay aN (ay aN (me (ag 1) dP (cV (ag 3))) (bJ (ac (ag 2) ae))) (me (ag 1) (cV (ag 3)) dP)))) aA))))) (af (av (ag 1))))),?_⟩;obtain⟨l,rfl,hl,ai,q⟩:=h;refine ap λK1 hK1=>?_;walk_at "";rw[hK1];refine ap λK2 hK2=>?_;refine bN λF N hF hN=>?_;walk_at "";refine⟨λi δ=>∃l' x y,δ=[.dat (.lst (l.map Fk)),.dat (.lst (l'.map Fk)),x,y]/\(∀p,p∈l'↔p∈l.take i)/\l'.length<=i,⟨[],_,_,rfl,by simp,FH _⟩,?_,?_⟩
 ·rintro i d δ hd ⟨l',x,y,rfl,hm,hn⟩;obtain⟨p,hp,rfl⟩:=uy hd;have ab:=FM hp;have ah:=(List.getElem?_eq_some_iff.mp hp).1;rw[hF];show dF _ _ _ _;refine cG λK3 hK3=>?_;walk_at "";rw[hK3];refine ap λK4 hK4=>?_;have fp:=hl p ab;have fl:∀a∈l',Fr 3900 a:=λa ha=>hl a (GP ((hm a).mp ha));refine⟨λδ=>∃j:Nat,j<=l'.length/\δ=[.dat (.lst (l.map Fk)),.dat (.lst (l'.map Fk)),.dat (Fk p),.dat (.int j)],λδ=>match δ with | [_,_,_,.dat (.int j)]=>l'.length-j.toNat | _=>0,⟨0,GN _,rfl⟩,?_⟩;have go:∀j:Nat,j<=l'.length->K4 [.dat (.lst (l.map Fk)),.dat (.lst (l'.map Fk)),.dat (Fk p),.dat (.int j)]:=λj hj=>by
   rw[hK4];walk_at "";rw[Fy];have aa:(cut (l'.map Fk) none (some (j:Int))).length<=8999/\(cut (l'.map Fk) none (some (j:Int))++[Fk p]).length+(cut (l'.map Fk) (some (j:Int)) none).length<=9000/\∃l2:Za,cut (l'.map Fk) none (some (j:Int))++[Fk p]++cut (l'.map Fk) (some (j:Int)) none=l2.map Fk/\(∀r,r∈l2↔r∈l.take (i+1))/\l2.length<=i+1:=by
    rw[AW,u8,<- List.map_take,<- List.map_drop];refine⟨by rw[Fy,Ge];omega,by rw[FF,Fy,Fy,Ge,G8,Gg];omega,l'.take j++[p]++l'.drop j,by rw[F3,F3];rfl,λr=>?_,?_⟩
    ·have:=hm r
     rw[<- List.take_append_drop j l',FV] at this;rw[aG hp,FV,FV,FV,<- this];exact⟨λz=>z.elim (λz=>z.elim (λz=>.inl (.inl z)) .inr) λz=>.inl (.inr z),λz=>z.elim (λz=>z.elim (λz=>.inl (.inl z)) .inr) λz=>.inl (.inr z)⟩
    ·rw[FF,FF,Ge,G8,Gg];omega
   refine dO (λ_=>aa) λh1=>?_;have h1:j<l'.length:=by omega
   refine E2.of (mS h1) ?_;unfold Fk;walk_at "";refine dO (λ_=>aa) λe=>?_;have e:l'[j]=p:=Ij.mp e;refine⟨l',rfl,λr=>?_,by omega⟩;rw[aG hp,FV,<- hm r,F1];exact⟨.inl,λz=>z.elim id λz=>by rw[z,<- e];exact GX h1⟩
  rintro δ ⟨j,hj,rfl⟩;walk_at "";rw[Fy];refine dO (λh1=>?_) λh1=>go j hj;have h1:j<l'.length:=by omega
  refine E2.of (mS h1) ?_;have fa:=fl _ (GX h1);walk_at "";refine⟨l'[j],p,rfl,FB fa.b1 (by decide),FB fp.b1 (by decide),FB fa.b2 (by decide),FB fp.b2 (by decide),?_⟩
  by_cases lt:l'[j].1*p.2<p.1*l'[j].2
  ·rw[F6 lt];walk_at "";exact⟨⟨j+1,h1,by omega⟩,by omega⟩
  ·rw[F5 lt];walk_at "";exact go j hj
 ·rintro δ ⟨l',x,y,rfl,hm,hn⟩;rw[Fy,FZ] at hm;rw[Fy] at hn;rw[hN,hK2];walk_at "";exact q l' hm hn
theorem Fr.mk'{N:Nat}{x y:Int}(y0:y≠0)(hx:ib x<=N)(hy:ib y<=N):Fr N (Fv x y,Fp x y):=⟨fe x y0,oM hx,o7 hy⟩
theorem Fr01:Fr 7900 (0,1):=⟨⟨by decide,by decide⟩,by decide,by decide⟩
inductive ge(ds:Zh)(R:D->Prop):Prop
 | mk (l:Za) (hh:ds=[.lst (l.map Fk)]/\(∀p∈l,Fr 3900 p)/\l.length<=60/\∀l':Za,(∀p∈l',Fr 7900 p)->R (.lst (l'.map Fk)))
theorem gB:∀ds R,ge ds R->ds.length=1:=λ_ _ ⟨_,e,_⟩=>by rw[e];rfl
theorem bY:au ["_law_ends_here","_law_spots_here","_law_k","_law_one","_law_other"] ["_law_ends_here"] (am s__law_spots):=by walk_at "sc"
theorem jm(Z:Zz):Z.C 3 "_law_spots" ["_law_ends_here"] (Fx Z.K ge):=by
 refine cH Z.x39 bY gB λfa cdv A outer s H E ds R hr h=>?_;have hU:=hr.units;refine⟨_,(ad (aM (aB (Es hU) (ag 0) (bJ ae) (aw _)) (af (av (bJ (ac (aP (ac ak (ac ak ae))) ae)))) aA) (ad (eP 1 bY.nd (ac (ar (bx Z) (rm hr) rfl (ac (ay gq (cA cz (EU 0) ak (λ_ _=>rfl)) (cA cz (EU 0) ak (λ_ _=>rfl))) (ac (cA cz (EU 0) ak (λ_ _=>rfl)) ae))) ae)) (ad (sJ FY rfl rfl Z.x58 (ac (aK f9 rfl Z.x54 fL (ac (ag 0) ae)) ae) (aq 2 bY.nd) (ad (bT 1 (cA cz (ag 0) (ag 2) (λ_ _=>rfl))) (af (aM (aB uX (ay aN (ag 2) ak) (aK f9 rfl Z.x54 fL (ac (ag 0) ae)) (aw _)) (ad (lS (me (ag 0) (cV (ag 2)) (cV (ay aN (ag 2) ak))) (n5 (n:=2) rfl (aC (aq 3 bY.nd) (aC (aq 4 bY.nd) bE)))) (af (bT 1 (ar (bx Z) (rm hr) rfl (ac (ay aN (ay bu (EU 3) (EU 4)) (ay bu (EU 4) (EU 3))) (ac (ay bu (ay bu ak (EU 3)) (EU 4)) ae)))))) aA)))) (cc 1 (af (av (ay aN (ag 1) (bJ (ac (ar (bx Z) (rm hr) rfl (ac (ay aN (cA cz (cA cz (ag 0) (jl jv ak) (λ_ _=>rfl)) ak (λ_ _=>rfl)) (cA cz (cA cz (ag 0) (jl jv ak) (λ_ _=>rfl)) ak (λ_ _=>rfl))) (ac (cA cz (cA cz (ag 0) (jl jv ak) (λ_ _=>rfl)) ak (λ_ _=>rfl)) ae))) ae))))))))),?_⟩;obtain⟨l,rfl,hl,aa,q⟩:=h;refine ap λK1 hK1=>?_;walk_at ""
 cases l with
 | nil=>exact ifp rfl (q [(0,1)] (by simp[Fr01]))
 | cons a l =>
 have fa:=hl a (FD ..)
 have a0:=fa.low.pos
 refine EV (by simp) ?_;rw[hK1];refine ap λK2 hK2=>?_;unfold Fk;walk_at "";refine⟨_,_,rfl,by omega,FB fa.b2 (by decide),?_⟩;walk_at "";intro sa;show K2 [.dat (.lst ((a::l).map Fk)),.own sa (.lst ([(Fv (a.1-a.2) a.2,Fp (a.1-a.2) a.2)].map Fk)),.no,.no,.no];have f0:Fr 7900 (Fv (a.1-a.2) a.2,Fp (a.1-a.2) a.2):=Fr.mk' (by omega) (FB (intBits_sub_le fa.b1 fa.b2) (by decide)) (FB fa.b2 (by decide));generalize (Fv (a.1-a.2) a.2,Fp (a.1-a.2) a.2)=p0 at *;have e0:0<(a::l).length:=HX _;clear fa a0;generalize a::l=e at *;rw[hK2];refine ap λK3 hK3=>?_;walk_at "";simp only[zy];walk_at "";refine⟨by omega,by rw[Fy];omega,λi δ=>∃l' x y z,δ=[.dat (.lst (e.map Fk)),.own sa (.lst (l'.map Fk)),x,y,z]/\(∀p∈l',Fr 7900 p)/\l'.length<=2*i+1,⟨[p0],_,_,_,rfl,λp hp=>by rw[F1.mp hp];exact f0,FH _⟩,?_,?_⟩
 ·rintro i δ hi ⟨l',x,y,z,rfl,hl',ln⟩;rw[Fy,Hi] at hi;have h1:=hl e[i] (GX hi);have snoc:∀ {l':Za} {p:Int×Int},(∀p∈l',Fr 7900 p)->Fr 7900 p->∀r∈l'++[p],Fr 7900 r:=λh1 h2 r hr=>(FV.mp hr).elim (h1 r) λz=>by rw[F1.mp z];exact h2
  have up:Fr 7900 e[i]:=⟨h1.low,FB h1.b1 (by decide),FB h1.b2 (by decide)⟩
  walk_at "";refine E2.of (mS hi) ?_;walk_at "";rw[Fy,Fy];refine⟨by omega,dO (λh2=>?_) λh2=>⟨l'++[e[i]],by rw[F3];rfl,snoc hl' up,by rw[FF,Gg];omega⟩⟩;have h2:i+1<e.length:=by omega
  have k2:=hl e[i+1] (GX h2)
  have ec:cut (e.map Fk) (some (i:Int)) (some ((i:Int)+2))=[Fk e[i],Fk e[i+1]]:=by
   rw[show (i:Int)+2=((i+2:Nat):Int) by omega,zI];unfold cut;rw[HT.sIx_nat,HT.sIx_nat,Ih (by omega),Ih (by omega),Hr hi,Hr h2,show i+2-i=2 by omega];rfl
  rw[ec];rw[show Fk e[i]=.tup [.int e[i].1,.int e[i].2] from rfl,show Fk e[i+1]=.tup [.int e[i+1].1,.int e[i+1].2] from rfl];walk_at "";have b2:ib (2*e[i].2)<=3902:=FB (F8 (show ib 2<=2 by decide) h1.b2) (by decide);have b3:ib (2*e[i].2*e[i+1].2)<=7900:=FB (F8 b2 k2.b2) (by decide);have b4:ib (e[i].1*e[i+1].2+e[i+1].1*e[i].2)<=7900:=FB (G0 (F8 h1.b1 k2.b2) (F8 k2.b1 h1.b2)) (by decide);have nz:2*e[i].2*e[i+1].2≠0:=by
   have p1:=h1.low.pos
   have p2:=k2.low.pos
   exact Gu (by omega) (by omega)
  refine⟨E6 h1.b1 k2.b2,E6 k2.b1 h1.b2,E6 (m:=2) (by decide) h1.b2,E6 b2 k2.b2,_,_,rfl,nz,FB b3 (by decide),?_⟩;walk_at "";refine⟨by rw[FF,Fy];show _+1<_;omega,l'++[e[i]]++[(Fv (e[i].1*e[i+1].2+e[i+1].1*e[i].2) (2*e[i].2*e[i+1].2),Fp (e[i].1*e[i+1].2+e[i+1].1*e[i].2) (2*e[i].2*e[i+1].2))],by rw[F3,F3];rfl,snoc (snoc hl' up) (Fr.mk' nz b4 b3),by rw[FF,FF];show l'.length+1+1<=_;omega⟩
 ·rintro δ ⟨l',x,y,z,rfl,hl',ln⟩;rw[Fy,Hi] at ln;obtain⟨e1,b,rfl⟩:=zD e0;have fb:=hl b (by simp);have b0:=fb.low.pos;rw[hK3,F3,List.map_singleton,show Fk b=.tup [.int b.1,.int b.2] from rfl];walk_at "";refine E2.of atm1 ?_;walk_at "";refine E2.of atm1 ?_;walk_at "";refine E2.of atm1 ?_;walk_at "";refine⟨_,_,rfl,by omega,FB fb.b2 (by decide),?_⟩;walk_at "";rw[Fy];refine⟨by rw[FF,Gg] at *;omega,?_⟩;have:=q (l'++[(Fv (b.1+b.2) b.2,Fp (b.1+b.2) b.2)]) λp hp=>(FV.mp hp).elim (hl' p) λz=>by rw[F1.mp z];exact Fr.mk' (by omega) (FB (G0 fb.b1 fb.b2) (by decide)) (FB fb.b2 (by decide))
  rw[F3] at this;exact this
inductive fB(ds:Zh)(R:D->Prop):Prop
 | mk (S:Int×Int->Prop) (e:Fs) (hh:ds=[oD e.1,.bl e.2]/\k7 S e/\R (.bl true))
theorem f6:∀ds R,fB ds R->ds.length=2:=λ_ _ ⟨_,_,e,_⟩=>by rw[e];rfl
theorem jh:au ["_law_end","_law_within"] ["_law_end","_law_within"] (am s__law_is_end):=by walk_at "sc"
theorem d8(Z:Zz):Z.C 3 "_law_is_end" ["_law_end","_law_within"] (Fx Z.K fB):=by
 refine cH Z.x40 jh f6 λfa cdv A outer s H E ds R hr h=>?_;have hU:=hr.units;refine⟨_,(ad (aM (de (aU (jG sR rfl Z.x61 rfl Z.x62 w4 (ag 1)))) (af (av cv)) aA) (ad (aM (aB tz (ag 0) cL (aw _)) (af (av (iE (ag 1)))) aA) (af (av (ar (et Z) (rm hr) rfl (ac (ag 0) ae)))))),?_⟩;obtain⟨S,⟨e,b⟩,rfl,ok,q⟩:=h
 cases e with
 | none =>
  have hb:b=false:=ok.no rfl
  subst hb;rw[show oD none=.non from rfl];walk_at "";exact q
 | some p =>
  rw[show oD (some p)=.tup [.int p.1,.int p.2] from rfl];walk_at "";exact⟨p,rfl,(ok.low p rfl).1,q⟩
inductive eL(ds:Zh)(R:D->Prop):Prop
 | mk (S:Int×Int->Prop) (a b:Pc) (hh:ds=[.lst [oD a.2.1,.bl a.2.2],oD b.1.1,.bl b.1.2]/\(∀p,S p->Sm p)/\k7 S a.2/\k7 S b.1/\R (.bl (EY a b)))
theorem fM:∀ds R,eL ds R->ds.length=3:=λ_ _ ⟨_,_,_,e,_⟩=>by rw[e];rfl
theorem iM:au ["_law_last","_law_low","_law_within"] ["_law_last","_law_low","_law_within"] (am s__law_follows):=by walk_at "sc"
theorem gn(Z:Zz):Z.C 2 "_law_follows" ["_law_last","_law_low","_law_within"] (Fx Z.K eL):=by
 refine cH Z.x41 iM fM λfa cdv A outer s H E ds R hr h=>?_;have hU:=hr.units;refine⟨_,(ad (aM (DW.dt (fS (aB tz (EU 0) cL (aw _)) (dR (aB tz (ag 1) cL (aw _))))) (af (av cv)) aA) (af (av (mU (ar (b9 Z) (rm hr) rfl (ac (EU 0) (ac (ag 1) ae))) (dD (iP (cM (h7 hU) (EU 0) (ag 1) (aw _)) (iP (iE (EU 0)) (dD (iE (ag 2)))))))))),?_⟩;obtain⟨S,⟨a0,a,x⟩,⟨⟨b,y⟩,b0⟩,rfl,hS,ha,hb,q⟩:=h;refine ap λK1 hK1=>?_
 cases a with
 | none =>
  rw[show oD none=.non from rfl];walk_at "";exact q
 | some p =>
  rw[show oD (some p)=.tup [.int p.1,.int p.2] from rfl];walk_at ""
  cases b with
  | none =>
   rw[show oD none=.non from rfl];walk_at "";exact q
  | some r =>
   have h1:=hS p (ha.low p rfl).2
   have h2:=hS r (hb.low r rfl).2
   rw[show oD (some r)=.tup [.int r.1,.int r.2] from rfl];walk_at "";rw[hK1];walk_at "";unfold EY at q;simp only at q;refine⟨p,r,rfl,FB h1.1 (by decide),FB h2.1 (by decide),h1.2,h2.2,?_⟩
   by_cases e:p=r
   ·subst e;rw[FP rfl] at q;rw[F5 (Int.lt_irrefl _)];walk_at ""
    cases x with
    | true=>exact EV (by decide) q
    | false=>exact ifp rfl q
   ·rw[FN e] at q
    by_cases l:p.1*r.2<r.1*p.2
    ·rw[F6 l] at q ⊢;walk_at "";exact q
    ·rw[F5 l] at q ⊢;walk_at "";exact EV (λz=>e z) q
inductive df(ds:Zh)(R:D->Prop):Prop
 | mk (S:Int×Int->Prop) (L:List Pc) (hh:ds=[.lst (L.map Fj)]/\(∀p,S p->Sm p)/\(∀p∈L,gL S p)/\L.Pairwise bfr/\R (.bl true))
theorem d6:∀ds R,df ds R->ds.length=1:=λ_ _ ⟨_,_,e,_⟩=>by rw[e];rfl
theorem aH:au ["_law_found","_law_last","_law_piece","_law_low","_law_within","_law_high","_law_inside"] ["_law_found"] (am s__law_are_pieces):=by walk_at "sc"
theorem eX(Z:Zz):Z.C 4 "_law_are_pieces" ["_law_found"] (Fx Z.K df):=by
 refine cH Z.x42 aH d6 λfa cdv A outer s H E ds R hr h=>?_;have hU:=hr.units;refine⟨_,(ad (aM (de (aU (jG ye rfl Z.x61 rfl Z.x64 De (ag 0)))) (af (av cv)) aA) (ad (ax 1 aH.nd (bJ ae)) (ad (bA FY rfl (ag 0) (aq 2 aH.nd) (ad (aM (DW.dt (fS (de (aU (jG oO rfl Z.x61 rfl Z.x53 eZ (ag 2)))) (dR (aB (kG hU) (aK f9 rfl Z.x54 fL (ac (ag 2) ae)) ak (aw _))))) (af (av cv)) aA) (ad (lS (ag 2) (dz (n:=4) rfl (aC (aq 3 aH.nd) (aC (aq 4 aH.nd) (aC (aq 5 aH.nd) (aC (aq 6 aH.nd) bE)))))) (ad (aM (DW.dt (fS (de (aU (ar (d8 Z) (rm hr) rfl (ac (ag 3) (ac (ag 4) ae))))) (dR (de (aU (ar (d8 Z) (rm hr) rfl (ac (ag 5) (ac (ag 6) ae)))))))) (af (av cv)) aA) (ad (aM (DW.dt (fF (aB kC (ag 3) cL (aw _)) (fF (aB kC (ag 5) cL (aw _)) (dQ (de (aU (ar (b9 Z) (rm hr) rfl (ac (ag 3) (ac (ag 5) ae))))))))) (af (aM (DW.dt (fS (aB (kG hU) (ag 3) (ag 5) (aw _)) (fS (de (aU (ag 4))) (dR (de (aU (ag 6))))))) (af (av cv)) aA)) aA) (ad (aM (DW.dt (fF (aB (DZ hU) (ag 1) (bJ ae) (aw _)) (dQ (de (aU (ar (gn Z) (rm hr) rfl (ac (ag 1) (ac (ag 3) (ac (ag 4) ae))))))))) (af (av cv)) aA) (af (ax 1 aH.nd (bJ (ac (ag 5) (ac (ag 6) ae))))))))))) (af (av cv))))),?_⟩;obtain⟨S,L,rfl,hS,hL,pw,q⟩:=h;refine ap λK1 hK1=>?_;walk_at "";rw[hK1];refine ap λK2 hK2=>?_;walk_at "";rw[hK2];refine ap λK3 hK3=>?_;refine bN λF N hF hN=>?_;walk_at "";refine⟨λi δ=>∃xs y1 y2 y3 y4 y5,δ=[.dat (.lst (L.map Fj)),.dat (.lst xs),y1,y2,y3,y4,y5]/\(xs=[]/\i=0\/∃a,L[i-1]?=some a/\0<i/\xs=[oD a.2.1,.bl a.2.2]),⟨_,_,_,_,_,_,rfl,.inl ⟨rfl,rfl⟩⟩,?_,?_⟩
 ·rintro i d δ hd ⟨xs,y1,y2,y3,y4,y5,rfl,la⟩;obtain⟨p,hp,rfl⟩:=nG hd;have ok:=hL p (FM hp);have aa:∀a,L[i-1]?=some a->0<i->gL S a/\EY a p=true:=λa ha i0=>by
   have oa:=hL a (FM ha)
   obtain⟨k1,e1⟩:=List.getElem?_eq_some_iff.mp ha;obtain⟨k2,e2⟩:=List.getElem?_eq_some_iff.mp hp;refine⟨oa,(gO oa.h ok.l).mpr ?_⟩;rw[<- e1,<- e2];exact List.pairwise_iff_getElem.mp pw (i-1) i k1 k2 (by omega)
  rw[hF];show dF _ _ _ _;refine cG λK4 hK4=>?_;rw[show Fj p=.tup [oD p.1.1,.bl p.1.2,oD p.2.1,.bl p.2.2] from rfl];walk_at "";rw[hK4];refine EV (by decide) ?_;refine ap λK5 hK5=>?_;walk_at "";rw[hK5];refine ap λK6 hK6=>?_;walk_at "";refine⟨S,p.1,rfl,ok.l,?_⟩;walk_at "";refine⟨S,p.2,rfl,ok.h,?_⟩;walk_at "";rw[hK6];refine ap λK7 hK7=>?_;have go:K7 [.dat (.lst (L.map Fj)),.dat (.lst xs),.dat (Fj p),.dat (oD p.1.1),.dat (.bl p.1.2),.dat (oD p.2.1),.dat (.bl p.2.2)]:=by
   rw[hK7];refine ap λK8 hK8=>?_;have go:K8 [.dat (.lst (L.map Fj)),.dat (.lst xs),.dat (Fj p),.dat (oD p.1.1),.dat (.bl p.1.2),.dat (oD p.2.1),.dat (.bl p.2.2)]:=by
    rw[hK8];walk_at "";exact .inr ⟨p,hp,HX _,rfl,rfl⟩
   walk_at ""
   rcases la with⟨rfl,_⟩ | ⟨a,ha,i0,rfl⟩
   ·exact EV (by simp) go
   ·obtain⟨oa,lb⟩:=aa a ha i0;refine ifp (by simp) ⟨S,a,p,rfl,hS,oa.h,ok.l,?_⟩;rw[lb];walk_at "";exact go
  clear aa la;obtain⟨⟨lo,lb⟩,hi,hb⟩:=p
  cases lo with
  | none =>
   rw[show oD none=.non from rfl] at go ⊢;walk_at "";exact go
  | some l=>cases hi with
   | none =>
    rw[show oD none=.non from rfl,show oD (some l)=.tup [.int l.1,.int l.2] from rfl] at go ⊢;walk_at "";exact go
   | some h =>
    have b1:=hS l (ok.l.low l rfl).2
    have b2:=hS h (ok.h.low h rfl).2
    have ll:=(ok.l.low l rfl).1
    have lh:=(ok.h.low h rfl).1
    have ne:Cu.at (Fa l) (!lb)<Cu.at (Fa h) hb:=ok.ne
    rw[dJ,dk ll.pos lh.pos] at ne;rw[show oD (some h)=.tup [.int h.1,.int h.2] from rfl,show oD (some l)=.tup [.int l.1,.int l.2] from rfl] at go ⊢;walk_at "";refine⟨l,h,rfl,FB b1.1 (by decide),FB b2.1 (by decide),b1.2,b2.2,?_⟩
    by_cases lt:l.1*h.2<h.1*l.2
    ·rw[F6 lt];walk_at "";exact go
    ·obtain⟨e,e1,e2⟩:=ne.resolve_left lt;have e:=cY ll lh e;subst e;rw[F5 lt];have e1:lb=true:=by simpa using e1
     subst e1 e2;walk_at "";exact⟨rfl,by show max 0 (max 0 0)<=60;decide,go⟩
 ·rintro δ ⟨xs,y1,y2,y3,y4,y5,rfl,la⟩;rw[hN,hK3];walk_at "";exact q
inductive eN(ds:Zh)(R:D->Prop):Prop
 | mk (S:Int×Int->Prop) (L:List Pc) (s:Int×Int) (hh:ds=[.lst (L.map Fj),Fk s]/\(∀p,S p->Sm p)/\(∀p∈L,gL S p)/\Fr 7900 s/\∀b:Bool,(b=true↔∃p∈L,inP p (Fa s))->R (.bl b))
theorem fN:∀ds R,eN ds R->ds.length=2:=λ_ _ ⟨_,_,_,e,_⟩=>by rw[e];rfl
theorem aW:au ["_law_found","_law_spot","_law_low","_law_within","_law_high","_law_inside","_law_above"] ["_law_found","_law_spot"] (am s__law_lies_in):=by walk_at "sc"
theorem gE(Z:Zz):Z.C 2 "_law_lies_in" ["_law_found","_law_spot"] (Fx Z.K eN):=by
 refine cH Z.x43 aW fN λfa cdv A outer s H E ds R hr h=>?_;have hU:=hr.units;refine⟨_,(ad (bA FY rfl (ag 0) (dz (n:=4) rfl (aC (aq 2 aW.nd) (aC (aq 3 aW.nd) (aC (aq 4 aW.nd) (aC (aq 5 aW.nd) bE))))) (ad (ax 6 aW.nd (mU (cM tz (ag 2) cL (aw _)) (mU (ar (b9 Z) (rm hr) rfl (ac (ag 2) (ac (ag 1) ae))) (dD (iP (cM (h7 hU) (ag 2) (ag 1) (aw _)) (dD (ag 3))))))) (af (aM (DW.dt (fF (aU (ag 6)) (dQ (DW.dt (fS (aB tz (ag 4) cL (aw _)) (fS (aU (ar (b9 Z) (rm hr) rfl (ac (ag 1) (ac (ag 4) ae)))) (dR (DW.dt (fF (aB (h7 hU) (ag 4) (ag 1) (aw _)) (dQ (aU (ag 5)))))))))))) (af (av cv)) aA)))) (af (av cv))),?_⟩;obtain⟨S,L,s,rfl,hS,hL,hs,q⟩:=h;refine bN λF N hF hN=>?_;walk_at "";simp only[iK];walk_at "";refine⟨λi δ=>∃y1 y2 y3 y4 y5,δ=[.dat (.lst (L.map Fj)),.dat (Fk s),y1,y2,y3,y4,y5]/\∀p∈L.take i,¬ inP p (Fa s),⟨_,_,_,_,_,rfl,by simp⟩,?_,?_⟩
 ·rintro i d δ hd ⟨y1,y2,y3,y4,y5,rfl,no⟩;obtain⟨p,hp,rfl⟩:=nG hd;have hm:=FM hp;have ok:=hL p hm;have aa:inP p (Fa s)->R (.bl true):=λh=>q true ⟨λ_=>⟨p,hm,h⟩,λ_=>rfl⟩;have ab:¬ inP p (Fa s)->∀p∈L.take (i+1),¬ inP p (Fa s):=λh p hp'=>by
   rw[aG hp] at hp'
   rcases FV.mp hp' with z | z
   ·exact no p z
   ·rw[F1.mp z];exact h
  rw[hF];show qJ _ _ (.tup [oD p.1.1,.bl p.1.2,oD p.2.1,.bl p.2.2]) _ _;refine cG λK1 hK1=>?_;have s1:ib s.1<=2000000:=FB hs.b1 (by decide);have s2:ib s.2<=8000:=FB hs.b2 (by decide);obtain⟨⟨lo,lb⟩,hi,hb⟩:=p;have go:∀u:Bool,(u=true↔¬ Cu.at (Fa s) false<cl (lo,lb))->K1 [.dat (.lst (L.map Fj)),.dat (Fk s),.dat (oD lo),.dat (.bl lb),.dat (oD hi),.dat (.bl hb),.dat (.bl u)]:=λu hu=>by
   rw[hK1]
   cases u with
   | false =>
    walk_at "";exact ab λz=>(nomatch hu.mpr z.1)
   | true =>
    have hu:=hu.mp rfl
    cases hi with
    | none =>
     rw[show oD none=.non from rfl];walk_at "";exact aa ⟨hu,trivial⟩
    | some h =>
     have b2:=hS h (ok.h.low h rfl).2
     have lh:=(ok.h.low h rfl).1
     have f:=dk hs.low.pos lh.pos
     have fi:Cu.at (Fa s) false<ch (some h,hb)↔s.1*h.2<h.1*s.2\/Fa s=Fa h/\hb=true:=by
      show Cu.at (Fa s) false<Cu.at (Fa h) hb↔_
      rw[dJ,f];simp
     rw[show oD (some h)=.tup [.int h.1,.int h.2] from rfl];walk_at "";refine⟨s,h,rfl,s1,FB b2.1 (by decide),s2,b2.2,?_⟩
     by_cases lt:s.1*h.2<h.1*s.2
     ·rw[F6 lt];walk_at "";exact aa ⟨hu,fi.mpr (.inl lt)⟩
     ·rw[F5 lt];unfold Fk;walk_at "";refine dO (λe=>dO (λe2=>aa ⟨hu,fi.mpr (.inr ⟨?_,e2⟩)⟩) λe2=>ab λz=>?_) λe=>ab λz=>?_
      ·rw[show h=s from e]
      ·exact(fi.mp z.2).elim lt λy=>e2 y.2
      ·exact(fi.mp z.2).elim lt λy=>e (show h=s from cY lh hs.low y.1.symm)
  cases lo with
  | none =>
   rw[show oD none=.non from rfl] at go ⊢;walk_at "";exact go true ⟨λ_=>cC,λ_=>rfl⟩
  | some l =>
   have b1:=hS l (ok.l.low l rfl).2
   have ll:=(ok.l.low l rfl).1
   have f:=dk ll.pos hs.low.pos
   rw[show oD (some l)=.tup [.int l.1,.int l.2] from rfl] at go ⊢;walk_at "";refine⟨l,s,rfl,FB b1.1 (by decide),s1,b1.2,s2,?_⟩;have fi:¬ Cu.at (Fa s) false<cl (some l,lb)↔l.1*s.2<s.1*l.2\/Fa l=Fa s/\lb=true:=by
    show ¬ Cu.at (Fa s) false<Cu.at (Fa l) (!lb)↔_
    rw[dJ,<- f]
    cases lb<;>simp<;>grind
   by_cases lt:l.1*s.2<s.1*l.2
   ·rw[F6 lt];walk_at "";exact go true ⟨λ_=>fi.mpr (.inl lt),λ_=>rfl⟩
   ·rw[F5 lt];unfold Fk at go ⊢;walk_at "";refine dO (λe=>go lb ⟨λe2=>fi.mpr (.inr ⟨by rw[show l=s from e],e2⟩),λz=>(fi.mp z).elim (λy=>absurd y lt) (·.2)⟩) λe=>go false ⟨λe2=>(nomatch e2),λz=>(fi.mp z).elim (λy=>absurd y lt) λy=>absurd (show l=s from cY ll hs.low y.1) e⟩
 ·rintro δ ⟨y1,y2,y3,y4,y5,rfl,no⟩;rw[Fy,FZ] at no;rw[hN];walk_at "";exact q false ⟨λh=>(nomatch h),λ⟨p,hp,h⟩=>absurd h (no p hp)⟩
inductive iD(ds:Zh)(R:D->Prop):Prop
 | mk (L:List Pc) (hh:ds=[.lst (L.map Fj)]/\L.length<=60/\R (.lst ((L.filterMap (·.1.1)++L.filterMap (·.2.1)).map Fk)))
theorem jb:∀ds R,iD ds R->ds.length=1:=λ_ _ ⟨_,e,_⟩=>by rw[e];rfl
theorem l9:au ["_law_found"] ["_law_found"] (am s__law_ends):=by walk_at "sc"
theorem kW(Z:Zz):Z.C 1 "_law_ends" ["_law_found"] (Fx Z.K iD):=by
 refine cH Z.x44 l9 jb λfa cdv A outer s H E ds R hr h=>?_;have hU:=hr.units;refine⟨_,(af (av (ay aN (bO ["_law_piece"] [] rfl rfl (by decide +kernel) rfl (by decide +kernel) (bI trivial) (λ_=>bU rfl) (aT trivial) (dw (ag 0)) λ_ _ _ _ _=>⟨(aq 0 (show List.Nodup (["_law_piece"]:Zb) by decide +kernel)),(dL (aB kC (EU 0) cL (aw _))),(EU 0)⟩) (bO ["_law_piece"] [] rfl rfl (by decide +kernel) rfl (by decide +kernel) (bI trivial) (λ_=>bU rfl) (aT trivial) (dw (ag 0)) λ_ _ _ _ _=>⟨(aq 0 (show List.Nodup (["_law_piece"]:Zb) by decide +kernel)),(dL (aB kC (EU 0) cL (aw _))),(EU 0)⟩)))),?_⟩;obtain⟨L,rfl,aa,q⟩:=h;walk_at "";have el:∀(g:Pc->Option (Int×Int)) (f:D->Option D),(∀p,f (Fj p)=(g p).map Fk)->(L.map Fj).filterMap f=(L.filterMap g).map Fk:=λg f h=>by
  clear q aa
  induction L with
  | nil=>rfl
  | cons p L ih =>
   rw[F7,Gn,Gn,h p,ih]
   cases g p<;>rfl
 refine⟨by rw[Fy];omega,λd=>match d with | .tup [.non,_,_,_]=>none | .tup [a,_,_,_]=>some a | _=>none,λx hx=>?_,by rw[Fy];omega,λd=>match d with | .tup [_,_,.non,_]=>none | .tup [_,_,a,_]=>some a | _=>none,λx hx=>?_,?_,?_⟩
 ·obtain⟨⟨⟨lo,lb⟩,hi⟩,hp,rfl⟩:=FC.mp hx;unfold Fj
  cases lo with
  | none =>
   rw[show oD none=.non from rfl];walk_at ""
  | some p =>
   rw[show oD (some p)=.tup [.int p.1,.int p.2] from rfl];walk_at ""
 ·obtain⟨⟨lo,⟨hi,hb⟩⟩,hp,rfl⟩:=FC.mp hx;unfold Fj
  cases hi with
  | none =>
   rw[show oD none=.non from rfl];walk_at ""
  | some p =>
   rw[show oD (some p)=.tup [.int p.1,.int p.2] from rfl];walk_at ""
 ·rw[el (·.1.1) _ (λp=>by obtain⟨⟨lo,lb⟩,hi⟩:=p;cases lo<;>rfl),el (·.2.1) _ (λp=>by obtain⟨lo,⟨hi,hb⟩⟩:=p;cases hi<;>rfl),Fy,Fy]
  have h1:=G4 (λp:Pc=>p.1.1) L
  have h2:=G4 (λp:Pc=>p.2.1) L
  omega
 ·rw[el (·.1.1) _ (λp=>by obtain⟨⟨lo,lb⟩,hi⟩:=p;cases lo<;>rfl),el (·.2.1) _ (λp=>by obtain⟨lo,⟨hi,hb⟩⟩:=p;cases hi<;>rfl),<- F3]
  exact q
structure R1(w b:Int):Prop where
 w0:w≠0
 wb:ib w<=70
 bb:ib b<=135
inductive jM(ds:Zh)(R:D->Prop):Prop
 | mk (c:Int) (n:Str) (hh:ds=[.int c,.str n]/\ib c<=1048576/\∀(k:Kd) (w b:Int),R1 w b->R (ky k [(n,w)] b))
theorem jg:∀ds R,jM ds R->ds.length=2:=λ_ _ ⟨_,_,e,_⟩=>by rw[e];rfl
theorem jt{x:Int}{n:Nat}(h:x.natAbs<2 ^ n):ib x<=n:=intBits_le_iff.mpr h
theorem AZ{x y z:D}(h0:0<=r)(h1:r<3):∃v,E4 [x,y,z] r=some v/\(v=x\/v=y\/v=z):=by
 have:r=0\/r=1\/r=2:=by omega
 rcases this with rfl | rfl | rfl
 ·exact⟨x,at0,.inl rfl⟩
 ·exact⟨y,at1,.inr (.inl rfl)⟩
 ·exact⟨z,rfl,.inr (.inr rfl)⟩
theorem yV{x y:D}(h0:0<=r)(h1:r<2):∃v,E4 [x,y] r=some v/\(v=x\/v=y):=by
 have:r=0\/r=1:=by omega
 rcases this with rfl | rfl
 ·exact⟨x,at0,.inl rfl⟩
 ·exact⟨y,at1,.inr rfl⟩
theorem cK:au ["_law_cell_here","_law_name","_law_purse_here","_law_weight","_law_bound"] ["_law_cell_here","_law_name"] (am s__law_row):=by walk_at "sc"
theorem mh(Z:Zz):Z.C 2 "_law_row" ["_law_cell_here","_law_name"] (Fx Z.K jM):=by
 refine cH Z.x45 cK jg λfa cdv A outer s H E ds R hr h=>?_;have hU:=hr.units;refine⟨_,(ad (mK 2 cK.nd (cW Z) (rm hr) rfl (ac (ag 0) ae)) (ad (ax 3 cK.nd (ay aN ak (br 2 (aF Z) (rm hr) rfl (ac (cA cz (bJ (ac ak (ac ak (ac (ay qr ak ak) ae)))) (br 2 (aF Z) (rm hr) rfl (ac ak ae)) (λ_ _=>rfl)) ae)))) (ad (ax 4 cK.nd (ay gq (br 2 (aF Z) (rm hr) rfl (ac ak ae)) ak)) (ad (aM (aB (hX hU) (br 2 (aF Z) (rm hr) rfl (ac ak ae)) ak (aw _)) (af (ax 4 cK.nd (ay gq (br 2 (aF Z) (rm hr) rfl (ac (ay aN (ay bu ak (ay qr ak ak)) ak) ae)) (ay qr ak ak)))) aA) (af (av (aP (ac (cA cz (bJ (ac bq (ac bq ae))) (br 2 (aF Z) (rm hr) rfl (ac ak ae)) (λ_ _=>rfl)) (ac (aP (ac (aP (ac (ag 1) (ac (ay bu (ag 3) (cA cz (bJ (ac ak (ac (jl jv ak) ae))) (br 2 (aF Z) (rm hr) rfl (ac ak ae)) (λ_ _=>rfl))) ae))) ae)) (ac (ag 4) ae)))))))))),?_⟩;obtain⟨c,n,rfl,hc,q⟩:=h;refine ap λK1 hK1=>?_;walk_at "";refine⟨c,rfl,hc,λa b pu=>?_⟩;walk_at "";intro pa;rw[hK1];refine ap λK2 hK2=>?_;walk_at "";have ab:(10:Int) ^ Int.toNat 20=100000000000000000000:=by decide
 rw[ab];refine⟨⟨by decide,by decide,by decide⟩,a,b,3,rfl,rfl,pu,by decide,by decide,λa1 b1 r pu1 r0 r1=>?_⟩;walk_at "";obtain⟨v,ev,hv⟩:=AZ (x:=D.int 5) (y:=.int 5) (z:=.int 100000000000000000000) r0 r1;obtain⟨m,rfl,m0,m1⟩:∃m:Int,v=.int m/\0<m/\m<=100000000000000000000:=by
  rcases hv with rfl | rfl | rfl<;>exact⟨_,rfl,by decide,by decide⟩
 refine E2.of ev ?_;walk_at "";refine⟨a1,b1,m,rfl,rfl,pu1,m0,FB (jt (n:=67) (by rw[show (2:Nat) ^ 67=147573952589676412928 by decide];omega)) (by decide),λa2 b2 g pu2 g0 g1=>?_⟩;walk_at "";rw[hK2];refine ap λK3 hK3=>?_;walk_at "";refine⟨a2,b2,25,rfl,rfl,pu2,by decide,by decide,λa3 b3 f pu3 f0 f1=>?_⟩;walk_at "";rw[hK3];refine ap λK4 hK4=>?_;have wb:ib (1+g)<=67:=jt (by rw[show (2:Nat) ^ 67=147573952589676412928 by decide];omega);have go:∀(bd a5 b5:Int),ib bd<=135->rZ a5 b5->K4 [.dat (.int c),.dat (.str n),.own pa (.lst [.int a5,.int b5]),.dat (.int (1+g)),.dat (.int bd)]:=λbd a5 b5 hbd p5=>by
  rw[hK4];walk_at "";refine⟨a5,b5,2,rfl,rfl,p5,by decide,by decide,λa6 b6 r6 p6 s0 s1=>?_⟩;walk_at "";obtain⟨v,ev,hv⟩:=yV (x:=D.str (Str.ofString "least")) (y:=.str (Str.ofString "more")) s0 s1;obtain⟨k,rfl⟩:∃k:Kd,v=.str (kdS k):=by
   rcases hv with rfl | rfl
   ·exact⟨.least,rfl⟩
   ·exact⟨.more,rfl⟩
  refine E2.of ev ?_;walk_at "";refine⟨a6,b6,2,rfl,rfl,p6,by decide,by decide,λa7 b7 r7 p7 u0 u1=>?_⟩;walk_at "";obtain⟨v,ev,hv⟩:=yV (x:=D.int 1) (y:=.int (-1)) u0 u1;obtain⟨g2,rfl,z⟩:∃g2:Int,v=.int g2/\(g2=1\/g2=-1):=by
   rcases hv with rfl | rfl
   ·exact⟨1,rfl,.inl rfl⟩
   ·exact⟨-1,rfl,.inr rfl⟩
  have b2:ib g2<=1:=by rcases z with rfl | rfl<;>decide
  refine E2.of ev ?_;walk_at "";exact⟨E6 wb b2,q k _ bd ⟨by rcases z with rfl | rfl<;>omega,FB (F8 wb b2) (by decide),hbd⟩⟩
 walk_at "";refine⟨a3,b3,3,rfl,rfl,pu3,by decide,by decide,λa4 b4 r4 pu4 s0 s1=>?_⟩;walk_at "";refine dO (λ_=>?_) λ_=>?_
 ·have aa:(10:Int) ^ Int.toNat 39=1000000000000000000000000000000000000000:=by decide
  rw[aa];refine⟨⟨by decide,by decide,by decide⟩,IntMulOk.of_left (by decide),a4,b4,_,rfl,rfl,pu4,by decide,FB (jt (n:=135) (by decide)) (by decide),λa5 b5 r5 pu5 u0 u1=>?_⟩;walk_at "";rw[aa];refine⟨⟨by decide,by decide,by decide⟩,go _ _ _ (jt ?_) pu5⟩;rw[show (2:Nat) ^ 135=43556142965880123323311949751266331066368 by decide];omega
 ·exact go _ _ _ (jt (F9 (show (f-12).natAbs<2 ^ 8 by omega) (Hm (by decide) (by decide)))) pu4
inductive gh(ds:Zh)(R:D->Prop):Prop
 | mk (t u:Str×Int) (hh:ds=[tmD t,tmD u]/\t.1≠u.1/\R (.tup ((ef t u).map tmD)))
theorem gz:∀ds R,gh ds R->ds.length=2:=λ_ _ ⟨_,_,e,_⟩=>by rw[e];rfl
theorem kF:au ["_law_one","_law_other"] ["_law_one","_law_other"] (am s__law_terms):=by walk_at "sc"
theorem cZ(Z:Zz):Z.C 1 "_law_terms" ["_law_one","_law_other"] (Fx Z.K gh):=by
 refine cH Z.x46 kF gz λfa cdv A outer s H E ds R hr h=>?_;have hU:=hr.units;refine⟨_,(af (av (c7 iY rfl Z.x53 eZ (ac (aK xN rfl Z.x52 jQ (ac (bJ (ac (ag 0) (ac (ag 1) ae))) ae)) ae)))),?_⟩;obtain⟨t,u,rfl,ne,q⟩:=h;walk_at "";refine⟨t,u,rfl,ne,?_⟩;walk_at "";exact q
structure Tie(p q r:Int):Prop where
 p0:0<p
 pb:ib p<=4
 q0:q≠0
 qb:ib q<=34
 rb:ib r<=100
inductive jF(ds:Zh)(R:D->Prop):Prop
 | mk (c d:Int) (hh:ds=[.int c,.int d]/\ib c<=1048576/\ib d<=1048576/\∀p q r,Tie p q r->R (.lst [.int p,.int q,.int r]))
theorem ju:∀ds R,jF ds R->ds.length=2:=λ_ _ ⟨_,_,e,_⟩=>by rw[e];rfl
theorem bP:au ["_law_one","_law_other","_law_purse_here","_law_p","_law_q","_law_r"] ["_law_one","_law_other"] (am s__law_tie):=by walk_at "sc"
theorem lH(Z:Zz):Z.C 2 "_law_tie" ["_law_one","_law_other"] (Fx Z.K jF):=by
 refine cH Z.x47 bP ju λfa cdv A outer s H E ds R hr h=>?_;have hU:=hr.units;refine⟨_,(ad (mK 2 bP.nd (cW Z) (rm hr) rfl (ac (ag 0) ae)) (ad (ax 3 bP.nd (ay aN ak (br 2 (aF Z) (rm hr) rfl (ac ak ae)))) (ad (ax 4 bP.nd (ay aN ak (br 2 (aF Z) (rm hr) rfl (ac (cA cz (bJ (ac ak (ac ak (ac (ay qr ak ak) ae)))) (br 2 (aF Z) (rm hr) rfl (ac ak ae)) (λ_ _=>rfl)) ae)))) (ad (mK 2 bP.nd (cW Z) (rm hr) rfl (ac (ag 1) ae)) (ad (ax 5 bP.nd (ay gq (br 2 (aF Z) (rm hr) rfl (ac ak ae)) ak)) (ad (aM (aB (hX hU) (br 2 (aF Z) (rm hr) rfl (ac ak ae)) ak (aw _)) (af (ax 5 bP.nd (ay gq (br 2 (aF Z) (rm hr) rfl (ac (ay aN (ay bu ak (ay qr ak ak)) ak) ae)) (ay qr ak ak)))) aA) (af (av (bJ (ac (ag 3) (ac (ay bu (ag 4) (cA cz (bJ (ac ak (ac (jl jv ak) ae))) (br 2 (aF Z) (rm hr) rfl (ac ak ae)) (λ_ _=>rfl))) (ac (ag 5) ae)))))))))))),?_⟩;obtain⟨c,d,rfl,hc,hd,k⟩:=h;refine ap λK1 hK1=>?_;walk_at "";refine⟨c,rfl,hc,λa b pu=>?_⟩;walk_at "";intro pa;rw[hK1];refine ap λK2 hK2=>?_;walk_at "";refine⟨a,b,9,rfl,rfl,pu,by decide,by decide,λa1 b1 p pu1 p0 p1=>?_⟩;walk_at "";rw[hK2];refine ap λK3 hK3=>?_;walk_at "";have ab:(10:Int) ^ Int.toNat 10=10000000000:=by decide
 rw[ab];refine⟨⟨by decide,by decide,by decide⟩,a1,b1,3,rfl,rfl,pu1,by decide,by decide,λa2 b2 r pu2 r0 r1=>?_⟩;walk_at "";obtain⟨v,ev,hv⟩:=AZ (x:=D.int 9) (y:=.int 9) (z:=.int 10000000000) r0 r1;obtain⟨m,rfl,m0,m1⟩:∃m:Int,v=.int m/\0<m/\m<=10000000000:=by
  rcases hv with rfl | rfl | rfl<;>exact⟨_,rfl,by decide,by decide⟩
 refine E2.of ev ?_;walk_at "";refine⟨a2,b2,m,rfl,rfl,pu2,m0,FB (sm64 (by omega) (by omega)) (by decide),λa3 b3 q pu3 q0 q1=>?_⟩;walk_at "";rw[hK3];refine ap λK4 hK4=>?_;walk_at "";refine⟨d,rfl,hd,λa b pu=>?_⟩;walk_at "";intro pb;rw[hK4];refine ap λK5 hK5=>?_;walk_at "";refine⟨a,b,41,rfl,rfl,pu,by decide,by decide,λa4 b4 f pu4 f0 f1=>?_⟩;walk_at "";rw[hK5];refine ap λK6 hK6=>?_;have qb:ib (1+q)<=34:=jt (by rw[show (2:Nat) ^ 34=17179869184 by decide];omega);have go:∀(bd a5 b5:Int),ib bd<=100->rZ a5 b5->K6 [.dat (.int c),.dat (.int d),.own pb (.lst [.int a5,.int b5]),.dat (.int (1+p)),.dat (.int (1+q)),.dat (.int bd)]:=λbd a5 b5 hbd p5=>by
  rw[hK6];walk_at "";refine⟨a5,b5,2,rfl,rfl,p5,by decide,by decide,λa7 b7 r7 p7 u0 u1=>?_⟩;walk_at "";obtain⟨v,ev,hv⟩:=yV (x:=D.int 1) (y:=.int (-1)) u0 u1;obtain⟨g2,rfl,z⟩:∃g2:Int,v=.int g2/\(g2=1\/g2=-1):=by
   rcases hv with rfl | rfl
   ·exact⟨1,rfl,.inl rfl⟩
   ·exact⟨-1,rfl,.inr rfl⟩
  have q2:ib ((1+q)*g2)<=34:=by
   rcases z with rfl | rfl
   ·rw[Int.mul_one];exact qb
   ·rw[Int.mul_neg_one];exact GS qb
  refine E2.of ev ?_;walk_at "";exact⟨E6 (n:=1) qb (by rcases z with rfl | rfl<;>decide),k _ _ bd ⟨by omega,jt (by rw[show (2:Nat) ^ 4=16 by decide];omega),by rcases z with rfl | rfl<;>omega,q2,hbd⟩⟩
 walk_at "";refine⟨a4,b4,3,rfl,rfl,pu4,by decide,by decide,λa5 b5 r5 pu5 s0 s1=>?_⟩;walk_at "";refine dO (λ_=>?_) λ_=>?_
 ·have aa:(10:Int) ^ Int.toNat 29=100000000000000000000000000000:=by decide
  rw[aa];refine⟨⟨by decide,by decide,by decide⟩,IntMulOk.of_left (by decide),a5,b5,_,rfl,rfl,pu5,by decide,FB (jt (n:=100) (by decide)) (by decide),λa6 b6 r6 pu6 u0 u1=>?_⟩;walk_at "";rw[aa];refine⟨⟨by decide,by decide,by decide⟩,go _ _ _ (jt ?_) pu6⟩;rw[show (2:Nat) ^ 100=1267650600228229401496703205376 by decide];omega
 ·exact go _ _ _ (jt (F9 (show (f-20).natAbs<2 ^ 8 by omega) (Hm (by decide) (by decide)))) pu5
def at_l(x y:Str)(p q r:Int):E8:=.row .least (ef (y,p) (x,0-q)) r
def at_m(x y:Str)(p q r:Int):E8:=.row .least (ef (y,0-p) (x,q)) (0-r)
def at_z(y z:Str)(r:Int):E8:=.row .more (ef (z,1) (y,-1)) r
def tied(s:E8)(x y z:Str)(p q r:Int)(loose:Bool):E8:=if loose=true then .bo (.bo s (at_l x y p q r)) (at_z y z r) else .bo (at_l x y p q r) (.bo (at_m x y p q r) s)
inductive iR(ds:Zh)(R:D->Prop):Prop
 | mk (s:E8) (x y z:Str) (p q r:Int) (l:Bool) (hh:ds=[s.D,.lst [.str x,.str y,.str z],.lst [.int p,.int q,.int r],.bl l]/\x≠y/\y≠z/\R (tied s x y z p q r l).D)
theorem iH:∀ds R,iR ds R->ds.length=4:=λ_ _ ⟨_,_,_,_,_,_,_,_,e,_⟩=>by rw[e];rfl
theorem aR:au ["_law_row_here","_law_names","_law_tie_here","_law_loose","_law_p","_law_q","_law_r","_law_x","_law_y","_law_z","_law_at_least","_law_at_most"] ["_law_row_here","_law_names","_law_tie_here","_law_loose"] (am s__law_tied):=by walk_at "sc"
theorem fh(Z:Zz):Z.C 2 "_law_tied" ["_law_row_here","_law_names","_law_tie_here","_law_loose"] (Fx Z.K iR):=by
 refine cH Z.x48 aR iH λfa cdv A outer s H E ds R hr h=>?_;have hU:=hr.units;refine⟨_,(ad (lS (ag 2) (n5 (n:=3) rfl (aC (aq 4 aR.nd) (aC (aq 5 aR.nd) (aC (aq 6 aR.nd) bE))))) (ad (lS (ag 1) (n5 (n:=3) rfl (aC (aq 7 aR.nd) (aC (aq 8 aR.nd) (aC (aq 9 aR.nd) bE))))) (ad (ax 10 aR.nd (aP (ac bq (ac (ar (cZ Z) (rm hr) rfl (ac (aP (ac (ag 8) (ac (ag 4) ae))) (ac (aP (ac (ag 7) (ac (ay gq ak (ag 5)) ae))) ae))) (ac (ag 6) ae))))) (ad (aM (aU (ag 3)) (af (av (aP (ac bq (ac (aP (ac bq (ac (ag 0) (ac (ag 10) ae)))) (ac (aP (ac bq (ac (ar (cZ Z) (rm hr) rfl (ac (aP (ac (ag 9) (ac ak ae))) (ac (aP (ac (ag 8) (ac (jl jv ak) ae))) ae))) (ac (ag 6) ae)))) ae)))))) aA) (ad (ax 11 aR.nd (aP (ac bq (ac (ar (cZ Z) (rm hr) rfl (ac (aP (ac (ag 8) (ac (ay gq ak (ag 4)) ae))) (ac (aP (ac (ag 7) (ac (ag 5) ae))) ae))) (ac (ay gq ak (ag 6)) ae))))) (af (av (aP (ac bq (ac (ag 10) (ac (aP (ac bq (ac (ag 11) (ac (ag 0) ae)))) ae))))))))))),?_⟩;obtain⟨s,x,y,z,p,q,r,l,rfl,xy,yz,k⟩:=h;refine ap λK1 hK1=>?_;walk_at "";rw[hK1];refine ap λK2 hK2=>?_;walk_at "";rw[hK2];refine ap λK3 hK3=>?_;walk_at "";refine⟨(y,p),(x,0-q),rfl,Hl xy,?_⟩;walk_at "";rw[hK3];unfold tied at k
 cases l with
 | true =>
  walk_at "";refine⟨(z,1),(y,-1),rfl,Hl yz,?_⟩;walk_at "";exact k
 | false =>
  refine ap λK4 hK4=>?_;walk_at "";rw[hK4];walk_at "";refine⟨(y,0-p),(x,q),rfl,Hl xy,?_⟩;walk_at "";exact k
abbrev Rw1:=Kd×Int×Int
def r1D(n:Str)(r:Rw1):D:=ky r.1 [(n,r.2.1)] r.2.2
def so1(s:Int×Int)(r:Rw1):Bool:=decide (0<r.2.1*s.1-r.2.2*s.2)||(decide (r.2.1*s.1-r.2.2*s.2=0) && !isM r.1)
inductive gX(ds:Zh)(R:D->Prop):Prop
 | mk (n:Str) (rs:List Rw1) (s:Int×Int) (hh:ds=[.lst (rs.map (r1D n)),Fk s]/\(∀r∈rs,R1 r.2.1 r.2.2)/\ib s.1<=1000000/\ib s.2<=1000000/\R (.bl (rs.any (so1 s))))
theorem iz:∀ds R,gX ds R->ds.length=2:=λ_ _ ⟨_,_,_,e,_⟩=>by rw[e];rfl
theorem sH{L:List Rw1}{i:Nat}{d:D}(h:(L.map (r1D n))[i]?=some d):∃p,L[i]?=some p/\d=r1D n p:=by
 rw[List.getElem?_map] at h
 cases e:L[i]? with
 | none=>rw[e] at h;cases h
 | some p=>rw[e] at h;cases h;exact⟨p,rfl,rfl⟩
theorem dX:au ["_law_rows","_law_spot","_law_row_here","_law_gap"] ["_law_rows","_law_spot"] (am s__law_true):=by walk_at "sc"
theorem kX(Z:Zz):Z.C 1 "_law_true" ["_law_rows","_law_spot"] (Fx Z.K gX):=by
 refine cH Z.x49 dX iz λfa cdv A outer s H E ds R hr h=>?_;have hU:=hr.units;refine⟨_,(ad (bA FY rfl (ag 0) (aq 2 dX.nd) (ad (ax 3 dX.nd (ay gq (ay bu (cA cz (cA cz (EU 2) ak (λ_ _=>rfl)) ak (λ_ _=>rfl)) (EU 1)) (ay bu (EU 2) (EU 1)))) (af (aM (DW.dt (fS (aB uU (ag 3) ak (aw _)) (dR (DW.dt (fF (aB (h7 hU) (ag 3) ak (aw _)) (dQ (aB (h7 hU) (EU 2) bq (aw _)))))))) (af (av cv)) aA)))) (af (av cv))),?_⟩;obtain⟨n,rs,s,rfl,hr,s1,s2,q⟩:=h;refine bN λF N hF hN=>?_;walk_at "";simp only[iK];walk_at "";refine⟨λi δ=>∃x y,δ=[.dat (.lst (rs.map (r1D n))),.dat (Fk s),x,y]/\(rs.take i).any (so1 s)=false,⟨_,_,rfl,rfl⟩,?_,?_⟩
 ·rintro i d δ hd ⟨x,y,rfl,no⟩;obtain⟨r,hp,rfl⟩:=sH hd;obtain⟨w0,wb,bb⟩:=hr r (FM hp);rw[hF];show dF _ (.tup [.str (kdS r.1),.tup [.tup [.str n,.int r.2.1]],.int r.2.2]) _ _;unfold Fk;walk_at "";have aa:so1 s r=true->R (.bl true):=λh=>by
   rw[List.any_eq_true.mpr ⟨r,FM hp,h⟩] at q;exact q
  have ab:so1 s r=false->(rs.take (i+1)).any (so1 s)=false:=λh=>by
   rw[aG hp,List.any_append,no];simp[h]
  unfold so1 at aa ab;refine⟨E6 wb s1,E6 bb s2,?_⟩;generalize r.2.1*s.1-r.2.2*s.2=g at *;refine dO (λh=>aa (by rw[F6 h];rfl)) λh=>dO (λh2=>dO (λh3=>aa ?_) λh3=>ab ?_) λh2=>ab (by rw[F5 h,F5 h2];rfl)
  ·rw[F6 h2]
   cases e:r.1 with
   | least=>simp[isM]
   | more=>rw[e] at h3;exact absurd h3 (by decide)
  ·rw[F5 h]
   cases e:r.1 with
   | least=>rw[e] at h3;exact absurd rfl h3
   | more=>simp[isM]
 ·rintro δ ⟨x,y,rfl,no⟩;rw[Fy,FZ] at no;rw[hN];walk_at "";rw[no] at q;exact q
def lT(p q r:Int)(x:Rw1):Int×Int:=(Fv (q*x.2.2+r*x.2.1) (p*x.2.1),Fp (q*x.2.2+r*x.2.1) (p*x.2.1))
def qH(p q r:Int)(s:Int×Int):Int×Int:=(Fv (p*s.1-r*s.2) (q*s.2),Fp (p*s.1-r*s.2) (q*s.2))
inductive hG(ds:Zh)(R:D->Prop):Prop
 | mk (S:Int×Int->Prop) (L:List Pc) (n:Str) (rs:List Rw1) (p q r:Int) (hh:ds=[.lst (L.map Fj),.lst (rs.map (r1D n)),.lst [.int p,.int q,.int r]]/\(∀p,S p->Sm p)/\(∀p∈L,gL S p)/\L.Pairwise bfr/\L.length<=30/\rs.length<=4/\(∀x∈rs,R1 x.2.1 x.2.2)/\Tie p q r/\(∀e,S e->∃x∈rs,e=lT p q r x)/\(∀s,Fr 7900 s->((∃a∈L,inP a (Fa s))↔rs.any (so1 (qH p q r s))=true))/\R (.bl true))
theorem i8:∀ds R,hG ds R->ds.length=3:=λ_ _ ⟨_,_,_,_,_,_,_,e,_⟩=>by rw[e];rfl
theorem aQ:au ["_law_found","_law_rows","_law_tie_here","_law_p","_law_q","_law_r","_law_ends_here","_law_row_here","_law_weight","_law_spot","_law_back"] ["_law_found","_law_rows","_law_tie_here"] (am s__law_good):=by walk_at "sc"
theorem fD(Z:Zz):Z.C 5 "_law_good" ["_law_found","_law_rows","_law_tie_here"] (Fx Z.K hG):=by
 refine cH Z.x50 aQ i8 λfa cdv A outer s H E ds R hr h=>?_;have hU:=hr.units;refine⟨_,(ad (lS (ag 2) (n5 (n:=3) rfl (aC (aq 3 aQ.nd) (aC (aq 4 aQ.nd) (aC (aq 5 aQ.nd) bE))))) (ad (aM (de (aU (ar (eX Z) (rm hr) rfl (ac (ag 0) ae)))) (af (av cv)) aA) (ad (eP 6 aQ.nd ae) (ad (bA FY rfl (ag 1) (aq 7 aQ.nd) (ad (ax 8 aQ.nd (cA cz (cA cz (EU 7) ak (λ_ _=>rfl)) ak (λ_ _=>rfl))) (af (bT 6 (ar (bx Z) (rm hr) rfl (ac (ay aN (ay bu (ag 4) (EU 7)) (ay bu (ag 5) (ag 8))) (ac (ay bu (ag 3) (ag 8)) ae))))))) (cc 6 (ad (ax 6 aQ.nd (ar (ie Z) (rm hr) rfl (ac (ag 6) ae))) (ad (aM (aB uU (aK f9 rfl Z.x54 fL (ac (bO ["_law_end"] [(6,"_law_ends_here")] rfl rfl (by decide +kernel) rfl (by decide +kernel) (bI ⟨rfl,trivial⟩) (λ_=>bU rfl) (aT ⟨⟨rfl,rfl,.inl rfl⟩,trivial⟩) (dw (ar (kW Z) (rm hr) rfl (ac (ag 0) ae))) λ_ _ _ _ _=>⟨(aq 0 (show List.Nodup (["_law_end","_law_ends_here"]:Zb) by decide +kernel)),(dL (aB (Ei hU) (ag 0) (ag 1) rfl)),(ag 0)⟩) ae)) ak (aw _)) (af (av cv)) aA) (ad (bA FY rfl (ar (jm Z) (rm hr) rfl (ac (ag 6) ae)) (aq 9 aQ.nd) (ad (ax 10 aQ.nd (ar (bx Z) (rm hr) rfl (ac (ay gq (ay bu (ag 3) (EU 9)) (ay bu (ag 5) (EU 9))) (ac (ay bu (ag 4) (EU 9)) ae)))) (af (aM (aB (kG hU) (ar (gE Z) (rm hr) rfl (ac (ag 0) (ac (ag 9) ae))) (ar (kX Z) (rm hr) rfl (ac (ag 1) (ac (ag 10) ae))) (aw _)) (af (av cv)) aA)))) (af (av cv)))))))))),?_⟩;obtain⟨S,L,n,rs,p,q,r,rfl,hS,hL,pw,aj,l4,hr,ti,hc,hs,k⟩:=h;refine ap λK1 hK1=>?_;walk_at "";rw[hK1];refine ap λK2 hK2=>?_;walk_at "";refine⟨S,L,rfl,hS,hL,pw,?_⟩;walk_at "";rw[hK2]
 refine ap λK3 hK3=>?_;walk_at "";intro ea;rw[hK3];refine ap λK4 hK4=>?_;refine bN λF N hF hN=>?_;have fr:∀x∈rs,Fr 3900 (lT p q r x):=λx hx=>by
  obtain⟨w0,wb,bb⟩:=hr x hx;have p0:=ti.p0;exact Fr.mk' (Gu (by omega) w0) (FB (G0 (F8 ti.qb bb) (F8 ti.rb wb)) (by decide)) (FB (F8 ti.pb wb) (by decide))
 walk_at "";refine⟨λi δ=>∃x y u v,δ=[.dat (.lst (L.map Fj)),.dat (.lst (rs.map (r1D n))),.dat (.lst [.int p,.int q,.int r]),.dat (.int p),.dat (.int q),.dat (.int r),.own ea (.lst (((rs.take i).map (lT p q r)).map Fk)),x,y,u,v],⟨_,_,_,_,rfl⟩,?_,?_⟩
 ·rintro i d δ hd ⟨x,y,u,v,rfl⟩;obtain⟨t,hp,rfl⟩:=sH hd;have hm:=FM hp;obtain⟨w0,wb,bb⟩:=hr t hm;have ai:=(List.getElem?_eq_some_iff.mp hp).1;have p0:=ti.p0;rw[hF];show dF _ (.tup [.str (kdS t.1),.tup [.tup [.str n,.int t.2.1]],.int t.2.2]) _ _;walk_at "";refine⟨E6 ti.qb bb,E6 ti.rb wb,E6 ti.pb wb,_,_,rfl,Gu (by omega) w0,FB (F8 ti.pb wb) (by decide),?_⟩;walk_at "";refine⟨by rw[Fy,Fy,Ge];omega,?_⟩;rw[aG hp,F3,F3];rfl
 ·rintro δ ⟨x,y,u,v,rfl⟩;rw[Fy,FZ,hN,hK4];walk_at "";refine⟨rs.map (lT p q r),rfl,λe he=>?_,by rw[Fy];omega,λe he hl=>?_⟩
  ·obtain⟨x,hx,rfl⟩:=FC.mp he;exact fr x hx
  rw[Fy] at hl;walk_at "";refine⟨L,rfl,by omega,?_⟩;walk_at "";have ah:∀a∈L.filterMap (·.1.1)++L.filterMap (·.2.1),a∈e:=λa ha=>by
   have ab:∀ {c},S c->c∈rs.map (lT p q r):=λh=>by
    obtain⟨x,hx,rfl⟩:=hc _ h;exact FC.mpr ⟨x,hx,rfl⟩
   rw[he a]
   rcases FV.mp ha with h | h
   ·obtain⟨b,hb,eb⟩:=HB.mp h;exact ab ((hL b hb).l.low a eb).2
   ·obtain⟨b,hb,eb⟩:=HB.mp h;exact ab ((hL b hb).h.low a eb).2
  have lens:(L.filterMap (λp:Pc=>p.1.1)++L.filterMap (λp:Pc=>p.2.1)).length<=60:=by
   rw[FF];have h1:=G4 (λp:Pc=>p.1.1) L;have h2:=G4 (λp:Pc=>p.2.1) L;omega
  refine⟨by rw[Fy];omega,λ_=>none,λx hx=>?_,?_⟩
  ·obtain⟨a,ha,rfl⟩:=FC.mp hx;refine⟨a.1,a.2,e,rfl,rfl,?_⟩;rw[F6 (ah a ha)];walk_at ""
  have aa:∀l:Zh,l.filterMap (λ_=>(none:Option D))=[]:=λl=>by induction l with
   | nil=>rfl
   | cons x l ih=>rw[Gn];exact ih
  rw[aa];refine EV (by decide) ?_;refine bN λF2 N2 hF2 hN2=>?_;walk_at "";refine⟨e,rfl,λa ha=>?_,by omega,λsp hsp=>?_⟩
  ·obtain⟨x,hx,rfl⟩:=FC.mp ((he a).mp ha);exact fr x hx
  walk_at "";refine⟨λi δ=>∃x y u v,δ=[.dat (.lst (L.map Fj)),.dat (.lst (rs.map (r1D n))),.dat (.lst [.int p,.int q,.int r]),.dat (.int p),.dat (.int q),.dat (.int r),.dat (.lst (e.map Fk)),x,y,u,v],⟨_,_,_,_,rfl⟩,?_,?_⟩
  ·rintro i d δ hd ⟨x,y,u,v,rfl⟩;obtain⟨a,hp,rfl⟩:=uy hd;have fa:=hsp a (FM hp);have a0:=fa.low.pos;rw[hF2];show dF _ (.tup [.int a.1,.int a.2]) _ _;refine cG λK6 hK6=>?_;walk_at "";have b1:ib (p*a.1-r*a.2)<=9000:=FB (intBits_sub_le (F8 ti.pb fa.b1) (F8 ti.rb fa.b2)) (by decide);have b2:ib (q*a.2)<=8000:=FB (F8 ti.qb fa.b2) (by decide);refine⟨E6 ti.pb fa.b1,E6 ti.rb fa.b2,E6 ti.qb fa.b2,_,_,rfl,Gu ti.q0 (by omega),b2,?_⟩;walk_at "";rw[hK6];walk_at "";refine⟨S,L,a,rfl,hS,hL,fa,λb hb=>?_⟩;walk_at "";refine⟨n,rs,qH p q r a,rfl,hr,FB (oM b1) (by decide),FB (o7 b2) (by decide),?_⟩;have eb:b=rs.any (so1 (qH p q r a)):=by rw[GU,hb,hs a fa]
   rw[eb];walk_at "";exact⟨_,rfl⟩
  ·rintro δ ⟨x,y,u,v,rfl⟩;rw[hN2];walk_at "";exact k
theorem rB(H:Ft nm c):(∀w∈E5 c [],Fi Y (ET nm c w))↔∀r∈c,Fi Y r:=by
 constructor
 ·intro h r hr;obtain⟨j,hj⟩:=List.getElem?_of_mem hr;have:=h (unW c.length j) (FC.mpr ⟨j,GL.mpr (List.getElem?_eq_some_iff.mp hj).1,rfl⟩)
  rwa [ko H hj] at this
 ·intro h w hw;obtain⟨j,hj,rfl⟩:=FC.mp hw;have hj:=GL.mp hj;rw[ko H (List.getElem?_eq_getElem hj)];exact h _ (GX hj)
theorem BX(H:Ft nm c)(h:∀r∈c,Fi Y r):∀ns:Zb,∀w∈E5 c ns,Fi Y (ET nm c w)
 | []=>(rB H).mpr h
 | _::ns=>λ_ hw=>sN H (BX H h ns) hw
theorem Bb(v:Rat):Fn v.num (v.den:Int)/\Fa (v.num,(v.den:Int))=v:=by
 refine⟨⟨by have:=v.den_pos;omega,?_⟩,?_⟩
 ·have:=v.reduced
  unfold gc Int.gcd;rw[Int.natAbs_natCast];have e:Nat.gcd v.num.natAbs v.den=1:=this;rw[e];rfl
 ·show (v.num:Rat) / ((v.den:Int):Rat)=v
  rw[<- Rat.divInt_eq_div,Rat.num_divInt_den]
theorem One.ext{a:E8}{B N C:Nat}(T:One a nm n B N C)(hc:c∈(a.pl false).kr):In1 nm n c v↔∃Y:Str->Rat,Y n=v/\∀r∈c,Fi Y r:=by
 have H:=(T.fit hc).H
 have aa:∀ {Y Z:Str->Rat},Y n=Z n->∀w∈E5 c (Fg nm n),Fi Y (ET nm c w)->Fi Z (ET nm c w):=λ{Y Z} e w hw h=>by
  unfold Fi at h ⊢;rw[<- jK (x:=Y) (y:=Z) λt ht=>?_]
  ·exact h
  ·obtain⟨h1,h2,_⟩:=ir ht;have:t.1=n:=FE λz=>h2 ((ca hw).2 _ (FI.mpr ⟨h1,F6 z⟩));rw[this,e]
 constructor
 ·intro h;obtain⟨lo,fv⟩:=Bb v;have nd:([n]++Fg nm n).Nodup:=by
   refine List.nodup_append.mpr ⟨by simp,T.nd.filter _,λx hx y hy z=>?_⟩;have:=Hj (FI.mp hy).2;exact this (by rw[<- z];exact F1.mp hx)
  have pv:Fw [n] [(v.num,(v.den:Int))] n=v:=by
   show Fa (((if n=n then some (v.num,(v.den:Int)) else none):Option (Int×Int)).getD (0,1))=v
   rw[FP rfl];exact fv
  obtain⟨_,_,ab,d⟩:=wU H (Fg nm n) [n] [(v.num,(v.den:Int))] rfl (λp hp=>by rw[F1.mp hp];exact lo) nd (λk hk=>by
   by_cases e:k=n
   ·exact .inl (by rw[e];simp)
   ·exact .inr (FI.mpr ⟨hk,F6 e⟩)) λw hw=>aa (by rw[pv];unfold kZ;rw[FP rfl]) w hw (h w hw)
  obtain⟨q,hq⟩:=ab;refine⟨_,?_,(rB H).mp d⟩;rw[<- hq];show Fa (((if n=n then some (v.num,(v.den:Int)) else _):Option (Int×Int)).getD (0,1))=v;rw[FP rfl];exact fv
 ·rintro⟨Y,e,h⟩ w hw;exact aa (by rw[e];unfold kZ;rw[FP rfl]) w hw (BX H h _ w hw)
theorem xU{S:Int×Int->Prop}{P:Pc}(ok:gL S P){i:Bool}(h:∀x,inP P x↔v<x\/(x=v/\i=true)):(∃p,P.1.1=some p/\Fa p=v)/\P.2.1=none:=by
 obtain⟨⟨lo,lb⟩,hi,hb⟩:=P;have e2:hi=none:=by
  cases hi with
  | none=>rfl
  | some q =>
   exfalso;have k:=((h (if v<Fa q then Fa q+1 else v+1)).mpr (.inl (by split<;>grind))).2
   have k:Cu.at _ false<Cu.at (Fa q) hb:=k
   rw[dJ] at k
   split at k<;>grind
 subst e2;refine⟨?_,rfl⟩
 cases lo with
 | none =>
  exfalso;have k:=(h (v-1)).mp ⟨cC,trivial⟩
  grind
 | some p =>
  refine⟨p,rfl,FE λne=>?_⟩;have k:=h ((Fa p+v) / 2);unfold inP cl at k;simp only[dJ] at k;have t:Cu.at ((Fa p+v) / 2) false<ch ((some p,lb),(none,hb)).2:=trivial
  rcases(show Fa p<v\/v<Fa p by grind) with z | z
  ·have:=k.mp ⟨λy=>by grind,t⟩
   grind
  ·have:=(k.mpr (.inl (by grind))).1
   exact this (.inl (by grind))
theorem zr{S:Int×Int->Prop}{P:Pc}(ok:gL S P){i:Bool}(h:∀x,inP P x↔x<v\/(x=v/\i=true)):P.1.1=none/\∃p,P.2.1=some p/\Fa p=v:=by
 obtain⟨⟨lo,lb⟩,hi,hb⟩:=P;have e2:lo=none:=by
  cases lo with
  | none=>rfl
  | some q =>
   exfalso;have k:=((h (if Fa q<v then Fa q-1 else v-1)).mpr (.inl (by split<;>grind))).1
   have k:¬ Cu.at _ false<Cu.at (Fa q) (!lb):=k
   rw[dJ] at k
   split at k<;>grind
 subst e2;refine⟨rfl,?_⟩
 cases hi with
 | none =>
  exfalso;have k:=(h (v+1)).mp ⟨cC,trivial⟩
  grind
 | some p =>
  refine⟨p,rfl,FE λne=>?_⟩;have k:=h ((Fa p+v) / 2);unfold inP ch at k;simp only[dJ] at k;have t:¬ Cu.at ((Fa p+v) / 2) false<cl ((none,lb),(some p,hb)).1:=cC
  rcases(show Fa p<v\/v<Fa p by grind) with z | z
  ·have:=(k.mpr (.inl (by grind))).2
   grind
  ·have:=k.mp ⟨t,.inl (by grind)⟩
   grind
def SoW(r:Rw1)(X:Rat):Prop:=(r.2.2:Rat)<r.2.1*X\/((r.2.2:Rat)=r.2.1*X/\isM r.1=false)
def kh(p q r:Int)(v:Rat):Rat:=(p*v-r) / q
theorem uP{s:Int×Int}(s0:0<s.2)(r:Rw1):so1 s r=true↔SoW r (Fa s):=by
 have p1:=dA s0
 have aa:((r.2.1*s.1-r.2.2*s.2:Int):Rat)=((s.2:Int):Rat)*(r.2.1*Fa s-r.2.2):=by
  rw[Gv,FW,FW];unfold Fa
  grind
 unfold so1 SoW;generalize r.2.1*s.1-r.2.2*s.2=g at *;have k1:0<g↔(r.2.2:Rat)<r.2.1*Fa s:=by
  rw[<- Rat.intCast_pos,aa];generalize (r.2.1:Rat)*Fa s=d
  exact⟨λz=>FE λy=>by
   have:=Ga (a:=((s.2:Int):Rat)) (b:=(r.2.2:Rat)-d) (by grind) (by grind)
   grind,λz=>Gx p1 (by grind)⟩
 have k2:g=0↔(r.2.2:Rat)=r.2.1*Fa s:=by
  rw[<- HK,aa,show ((0:Int):Rat)=0 from rfl];generalize (r.2.1:Rat)*Fa s=d;exact⟨λz=>by rcases GD.mp z with y | y<;>grind,λz=>by rw[z];grind⟩
 simp only[Bool.or_eq_true,Bool.and_eq_true,decide_eq_true_eq,Bool.not_eq_true',k1,k2]
theorem Bf(ti:Tie p q r){a:Int×Int}(a0:0<a.2):0<(qH p q r a).2/\Fa (qH p q r a)=kh p q r (Fa a):=by
 have h:q*a.2≠0:=Gu ti.q0 (by omega)
 refine⟨(fe _ h).pos,?_⟩;show Fa (Fv _ _,Fp _ _)=_;rw[gY _ h,Gv,FW,FW,FW];unfold kh Fa;have h1:=eA ti.q0;have h2:=dA a0
 grind
theorem sw(ti:Tie p q r){x:Rw1}(w0:x.2.1≠0) :
  (∀v,SoW x (kh p q r v)↔Fa (lT p q r x)<v\/(v=Fa (lT p q r x)/\(!isM x.1)=true))\/(∀v,SoW x (kh p q r v)↔v<Fa (lT p q r x)\/(v=Fa (lT p q r x)/\(!isM x.1)=true)):=by
 have p0:=dA ti.p0
 have q0:=eA ti.q0
 have w1:=eA w0
 have h:p*x.2.1≠0:=Gu (by have:=ti.p0;omega) w0
 have ev:Fa (lT p q r x)=(q*x.2.2+r*x.2.1) / (p*x.2.1):=by
  show Fa (Fv _ _,Fp _ _)=_
  rw[gY _ h,GM,FW,FW,FW]
 rw[ev];unfold SoW kh;generalize (x.2.1:Rat)=w at *;generalize (x.2.2:Rat)=b at *;generalize ((p:Int):Rat)=p at *;generalize ((q:Int):Rat)=q at *;generalize ((r:Int):Rat)=r at *;generalize hv0:(q*b+r*w) / (p*w)=v0;have ab:∀v:Rat,w*((p*v-r) / q)-b=(w / q)*p*(v-v0):=λv=>by rw[<- hv0];grind
 have pos:∀v:Rat,(b<w*((p*v-r) / q)↔0<(w / q)*p*(v-v0)):=λv=>by rw[<- ab];grind
 have aa:∀v:Rat,(b=w*((p*v-r) / q)↔v=v0):=λv=>by
  have k:=ab v
  constructor
  ·intro z;have:(w / q)*p*(v-v0)=0:=by rw[<- k];grind
   rcases GD.mp this with y | y
   ·rcases GD.mp y with y | y<;>grind
   ·grind
  ·intro z;rw[z] at k
   grind
 have sl:(w / q)*p≠0:=by
  intro z
  rcases GD.mp z with y | y<;>grind
 generalize (w / q)*p=m at *
 rcases(show 0<m\/m<0 by grind) with m0 | m0
 ·refine .inl λv=>?_;rw[pos,aa]
  have:0<m*(v-v0)↔v0<v:=⟨λz=>FE λy=>by
   have:=Ga (a:=m) (b:=v0-v) (by grind) (by grind)
   grind,λz=>Gx m0 (by grind)⟩
  rw[this];simp
 ·refine .inr λv=>?_;rw[pos,aa]
  have:0<m*(v-v0)↔v<v0:=⟨λz=>FE λy=>by
   have:=Ga (a:=-m) (b:=v-v0) (by grind) (by grind)
   grind,λz=>by
   have:=Gx (a:=-m) (b:=v0-v) (by grind) (by grind)
   grind⟩
  rw[this];simp
theorem AE(ti:Tie p q r){x:Rw1}(w0:x.2.1≠0){P:Pc}(ok:gL Sm P)(h:∀v,inP P v↔SoW x (kh p q r v)):gL (λe=>Sm e/\e=lT p q r x) P:=by
 have lc:Fn (lT p q r x).1 (lT p q r x).2:=fe _ (Gu (by have:=ti.p0;omega) w0)
 rcases sw ti w0 with k | k
 ·obtain⟨⟨e,e1,e2⟩,e3⟩:=xU ok (v:=Fa (lT p q r x)) (i:=!isM x.1) λv=>(h v).trans (k v);refine⟨⟨λd hd=>?_,ok.l.no⟩,⟨(λd hd=>by rw[e3] at hd;cases hd),ok.h.no⟩,ok.ne⟩;obtain⟨l1,l2⟩:=ok.l.low d hd;rw[e1] at hd;cases hd;exact⟨l1,l2,cY l1 lc e2⟩
 ·obtain⟨e3,e,e1,e2⟩:=zr ok (v:=Fa (lT p q r x)) (i:=!isM x.1) λv=>(h v).trans (k v);refine⟨⟨(λd hd=>by rw[e3] at hd;cases hd),ok.l.no⟩,⟨λd hd=>?_,ok.h.no⟩,ok.ne⟩;obtain⟨l1,l2⟩:=ok.h.low d hd;rw[e1] at hd;cases hd;exact⟨l1,l2,cY l1 lc e2⟩
theorem xS{S S':Int×Int->Prop}(h:∀e,S e->S' e){P:Pc}(ok:gL S P):gL S' P:=⟨⟨λd hd=>⟨(ok.l.low d hd).1,h d (ok.l.low d hd).2⟩,ok.l.no⟩,⟨λd hd=>⟨(ok.h.low d hd).1,h d (ok.h.low d hd).2⟩,ok.h.no⟩,ok.ne⟩
theorem One.good{s:E8}{B N C:Nat}(T:One s nm n B N C){rs:List Rw1}{cs:Rw1->List Rw}(hk:(s.pl false).kr=rs.map cs)(ti:Tie p q r)(hw:∀x∈rs,x.2.1≠0)
  (hex:∀x∈rs,∀v,(∃Y:Str->Rat,Y n=v/\∀y∈cs x,Fi Y y)↔SoW x (kh p q r v)) :
  ∃S:Int×Int->Prop,(∀e,S e->Sm e)/\(∀P∈rf nm n (s.pl false).kr,gL S P)/\(rf nm n (s.pl false).kr).Pairwise bfr/\(rf nm n (s.pl false).kr).length+1<=2 ^ rs.length/\(∀e,S e->∃x∈rs,e=lT p q r x) /\
   ∀a:Int×Int,0<a.2->((∃P∈rf nm n (s.pl false).kr,inP P (Fa a))↔rs.any (so1 (qH p q r a))=true):=by
 have aa:∀x∈rs,∀v,In1 nm n (cs x) v↔SoW x (kh p q r v):=λx hx v=>by
  rw[T.ext (by rw[hk];exact FC.mpr ⟨x,hx,rfl⟩),hex x hx v]
 have ab:=T.case T.small
 have st:=xk (S:=λe=>Sm e/\∃x∈rs,e=lT p q r x) (ok:=ok1 (n::Fg nm n)) (pc:=pc1 nm n (Fg nm n)) (In:=In1 nm n) (A:=(s.pl false).kr) (λc hc=>by
  obtain⟨c1,c2⟩:=ab c hc;refine⟨λh=>?_,c2⟩;obtain⟨k1,k2⟩:=c1 h;refine⟨?_,k2⟩;rw[hk] at hc;obtain⟨x,hx,rfl⟩:=FC.mp hc
  exact xS (λe he=>⟨he.1,x,hx,he.2⟩) (AE ti (hw x hx) k1 λv=>(k2 v).trans (aa x hx v))) _ (FH _)
 rw[FZ] at st;have len:=st.len;rw[hk,Fy] at len;rw[<- hk] at len;refine⟨_,λe he=>he.1,st.ok,st.pw,len,λe he=>he.2,λa a0=>?_⟩;obtain⟨b0,be⟩:=Bf ti a0;refine(st.in (Fa a)).trans ?_;rw[List.any_eq_true]
 constructor
 ·rintro⟨c,hc,h⟩;rw[hk] at hc;obtain⟨x,hx,rfl⟩:=FC.mp hc;exact⟨x,hx,(uP b0 x).mpr (by rw[be];exact(aa x hx _).mp h)⟩
 ·rintro⟨x,hx,h⟩;refine⟨cs x,by rw[hk];exact FC.mpr ⟨x,hx,rfl⟩,(aa x hx _).mpr ?_⟩;rw[<- be];exact(uP b0 x).mp h
def rwT(n:Str)(x:Rw1):Rw:=(x.1,[(n,x.2.1)],x.2.2)
def csT(x y z:Str)(p q r:Int)(l:Bool)(w:Rw1):List Rw :=
 if l=true then [rwT x w,(.least,ef (y,p) (x,0-q),r),(.more,ef (z,1) (y,-1),r)] else [(.least,ef (y,p) (x,0-q),r),(.least,ef (y,0-p) (x,q),0-r),rwT x w]
theorem du{t u:Str×Int}:c5 Y (ef t u)=t.2*Y t.1+u.2*Y u.1:=by
 unfold ef
 split
 ·show (u.2:Rat)*Y u.1+((t.2:Rat)*Y t.1+0)=_
  grind
 ·show (t.2:Rat)*Y t.1+((u.2:Rat)*Y u.1+0)=_
  grind
theorem oJ{w:Rw1}:Fi Y (rwT n w)↔SoW w (Y n):=by
 obtain⟨k,a,b⟩:=w;unfold SoW;have e:c5 Y (rwT n (k,a,b)).2.1=(a:Rat)*Y n:=by show (a:Rat)*Y n+0=_;grind
 cases k with
 | least =>
  show (b:Rat)<=c5 Y (rwT n (.least,a,b)).2.1↔_
  rw[e];simp only[isM,and_true]
  grind
 | more =>
  show (b:Rat)<c5 Y (rwT n (.more,a,b)).2.1↔_
  rw[e];simp[isM]
theorem ER(xy:x≠y)(yz:y≠z)(xz:x≠z)(ti:Tie p q r){l:Bool}{w:Rw1}(v:Rat):(∃Y:Str->Rat,Y x=v/\∀a∈csT x y z p q r l w,Fi Y a)↔SoW w (kh 1 1 0 v):=by
 have p0:=dA ti.p0
 have e1:kh 1 1 0 v=v:=by unfold kh;rw[show ((1:Int):Rat)=1 from rfl,show ((0:Int):Rat)=0 from rfl];grind
 rw[e1]
 constructor
 ·rintro⟨Y,rfl,h⟩;refine oJ.mp (h (rwT x w) ?_);unfold csT
  cases l<;>simp
 ·intro h;obtain⟨u,hu⟩:∃u:Rat,(p:Rat)*u=q*v+r:=⟨(q*v+r) / p,by grind⟩;have e1:∀k:Str,k=x->(if k=y then u else if k=z then u+r+1 else v)=v:=λk e=>by rw[e,FN xy,FN xz]
  have e2:∀k:Str,k=y->(if k=y then u else if k=z then u+r+1 else v)=u:=λk e=>by rw[FP e]
  have e3:∀k:Str,k=z->(if k=y then u else if k=z then u+r+1 else v)=u+r+1:=λk e=>by rw[e,FN (Hl yz),FP rfl]
  obtain⟨Y,Yx,Yy,Yz⟩:∃Y:Str->Rat,Y x=v/\Y y=u/\Y z=u+r+1:=⟨λk=>if k=y then u else if k=z then u+r+1 else v,e1 x rfl,e2 y rfl,e3 z rfl⟩;refine⟨Y,Yx,λa ha=>?_⟩;have A1:Fi Y (.least,ef (y,p) (x,0-q),r):=by
   show (r:Rat)<=c5 _ (ef (y,p) (x,0-q))
   rw[du];simp only[Yx,Yy];rw[Gv,show ((0:Int):Rat)=0 from rfl,hu]
   grind
  have A2:Fi Y (.least,ef (y,0-p) (x,q),0-r):=by
   show ((0-r:Int):Rat)<=c5 _ (ef (y,0-p) (x,q))
   rw[du];simp only[Yx,Yy];rw[Gv,Gv,show ((0:Int):Rat)=0 from rfl];have:(0-(p:Rat))*u=-(q*v+r):=by rw[<- hu];grind
   rw[this]
   grind
  have A3:Fi Y (.more,ef (z,1) (y,-1),r):=by
   show (r:Rat)<c5 _ (ef (z,1) (y,-1))
   rw[du];simp only[Yy,Yz];rw[show ((1:Int):Rat)=1 from rfl,show ((-1:Int):Rat)=-1 from rfl]
   grind
  have A4:Fi Y (rwT x w):=oJ.mpr (by rw[Yx];exact h)
  unfold csT at ha
  cases l with
  | true =>
   simp only[if_true,List.mem_cons,List.not_mem_nil,or_false] at ha
   rcases ha with rfl | rfl | rfl
   ·exact A4
   ·exact A1
   ·exact A3
  | false =>
   simp only[Bool.false_eq_true,if_false,List.mem_cons,List.not_mem_nil,or_false] at ha
   rcases ha with rfl | rfl | rfl
   ·exact A1
   ·exact A2
   ·exact A4
theorem Ep(xy:x≠y)(ti:Tie p q r){w:Rw1}(v:Rat):(∃Y:Str->Rat,Y y=v/\∀a∈csT x y z p q r false w,Fi Y a)↔SoW w (kh p q r v):=by
 have q0:=eA ti.q0
 constructor
 ·rintro⟨Y,rfl,h⟩;have h1:=h (.least,ef (y,p) (x,0-q),r) (by unfold csT;simp);have h2:=h (.least,ef (y,0-p) (x,q),0-r) (by unfold csT;simp);have h3:=oJ.mp (h (rwT x w) (by unfold csT;simp));have h1:(r:Rat)<=c5 Y (ef (y,p) (x,0-q)):=h1;have h2:((0-r:Int):Rat)<=c5 Y (ef (y,0-p) (x,q)):=h2;rw[du,Gv,show ((0:Int):Rat)=0 from rfl] at h1;rw[du,Gv,Gv,show ((0:Int):Rat)=0 from rfl] at h2;have e0:(q:Rat)*Y x=p*Y y-r:=by grind
  have e:Y x=kh p q r (Y y):=by unfold kh;rw[<- e0];grind
  rw[<- e];exact h3
 ·intro h;have hu:(q:Rat)*kh p q r v=p*v-r:=by unfold kh;grind
  obtain⟨Y,Yy,Yx⟩:∃Y:Str->Rat,Y y=v/\Y x=kh p q r v:=⟨λk=>if k=y then v else kh p q r v,FP rfl,FN xy⟩;refine⟨Y,Yy,λa ha=>?_⟩;unfold csT at ha;simp only[Bool.false_eq_true,if_false,List.mem_cons,List.not_mem_nil,or_false] at ha
  rcases ha with rfl | rfl | rfl
  ·show (r:Rat)<=c5 _ (ef (y,p) (x,0-q))
   rw[du];simp only[Yx,Yy];rw[Gv,show ((0:Int):Rat)=0 from rfl];have:(0-(q:Rat))*kh p q r v=-(p*v-r):=by rw[<- hu];grind
   rw[this]
   grind
  ·show ((0-r:Int):Rat)<=c5 _ (ef (y,0-p) (x,q))
   rw[du];simp only[Yx,Yy];rw[Gv,Gv,show ((0:Int):Rat)=0 from rfl,hu]
   grind
  ·exact oJ.mpr (by rw[Yx];exact h)
def rowS(n:Str)(x:Rw1):E8:=.row x.1 [(n,x.2.1)] x.2.2
def tdS(x y z:Str)(p q r:Int)(l:Bool)(w:Rw1):E8:=tied (rowS x w) x y z p q r l
structure Sv(nm:Zb)(s:E8)(K:List (List Rw)):Prop where
 ok:s.ok nm
 bt:s.bt 135
 dep:s.dep<=3+K.length
 num:(s.pl false).num=K.length
 long:(s.pl false).long<=3
 kr:(s.pl false).kr=K
 nms:∀k,k∈nm↔k∈s.nms
theorem Sv.ei{s t:E8}{K:List (List Rw)}(a:Sv nm s K)(b:Sv nm t [c])(d:t.dep<=3):Sv nm (.ei s t) (K++[c]):=by
 refine⟨⟨a.ok,b.ok⟩,⟨a.bt,b.bt⟩,?_,?_,?_,?_,λk=>?_⟩
 ·have:=a.dep
  show max s.dep t.dep+1<=3+(K++[c]).length
  rw[FF,Gg];omega
 ·show (s.pl false).num+(t.pl false).num=_
  rw[a.num,b.num,FF]
 ·show max (s.pl false).long (t.pl false).long<=3
  have:=a.long
  have:=b.long
  omega
 ·show (s.pl false).kr++(t.pl false).kr=_
  rw[a.kr,b.kr]
 ·show _↔k∈s.nms++t.nms
  rw[FV,<- a.nms,<- b.nms,or_self]
theorem f7(pw:nm.Pairwise E3)(nd:nm.Nodup){t u:Str×Int}(ne:t.1≠u.1)(ht:t.1∈nm)(hu:u.1∈nm)(t0:t.2≠0)(u0:u.2≠0)(tb:ib t.2<=135)(ub:ib u.2<=135):nN nm (ef t u)/\(∀a∈ef t u,ib a.2<=135)/\∀k,k∈(ef t u).map (·.1)↔k=t.1\/k=u.1:=by
 have up:∀ {x:Int},ib x<=135->ib x<=10000:=λh=>FB h (by decide)
 unfold ef
 by_cases c:Spec.ltCps u.1.cps.toList t.1.cps.toList=true
 ·rw[FP c];have le:E3 u.1 t.1:=(l5 t.1 u.1).resolve_left λz=>by unfold E3 at z;rw[c] at z;cases z
  refine⟨⟨jO (by simp[le]) (by simp[Ne.symm ne]) pw nd (by simp[ht,hu]),by simp[t0,u0],by simp[up tb,up ub]⟩,by simp[tb,ub],λk=>by simp[or_comm]⟩
 ·rw[FN c];have le:E3 t.1 u.1:=by unfold E3;simpa using c
  exact⟨⟨jO (by simp[le]) (by simp[ne]) pw nd (by simp[ht,hu]),by simp[t0,u0],by simp[up tb,up ub]⟩,by simp[tb,ub],λk=>by simp⟩
theorem wY(pw:nm.Pairwise E3)(nd:nm.Nodup)(xy:x≠y)(yz:y≠z){l:Bool}(hm:∀k,k∈nm↔k=x\/k=y\/(l=true/\k=z))(ti:Tie p q r){w:Rw1}(hw:R1 w.2.1 w.2.2):Sv nm (tdS x y z p q r l w) [csT x y z p q r l w]/\(tdS x y z p q r l w).dep<=3:=by
 have p0:=ti.p0
 have q0:=ti.q0
 have pb:ib p<=135:=FB ti.pb (by decide)
 have qb:ib q<=135:=FB ti.qb (by decide)
 have rb:ib r<=135:=FB ti.rb (by decide)
 have ng:∀ {a:Int},ib a<=135->ib (0-a)<=135:=λh=>by rw[Int.zero_sub];exact GS h
 have hx:x∈nm:=(hm x).mpr (.inl rfl)
 have hy:y∈nm:=(hm y).mpr (.inr (.inl rfl))
 have up:∀ {x:Int},ib x<=135->ib x<=10000:=λh=>FB h (by decide)
 have R:(rowS x w).ok nm/\(rowS x w).bt 135:=by
  have wb:ib w.2.1<=135:=FB hw.wb (by decide)
  exact⟨⟨⟨by simpa using hx,by simpa using hw.w0,by simpa using up wb⟩,up hw.bb⟩,by simpa using wb,hw.bb⟩
 obtain⟨a1,a2,a3⟩:=f7 pw nd (t:=(y,p)) (u:=(x,0-q)) (Hl xy) hy hx (by show p≠0;omega) (by show 0-q≠0;omega) pb (ng qb);obtain⟨b1,b2,b3⟩:=f7 pw nd (t:=(y,0-p)) (u:=(x,q)) (Hl xy) hy hx (by show 0-p≠0;omega) q0 (ng pb) qb
 cases l with
 | true =>
  have hz:z∈nm:=(hm z).mpr (.inr (.inr ⟨rfl,rfl⟩))
  obtain⟨c1,c2,c3⟩:=f7 pw nd (t:=(z,1)) (u:=(y,-1)) (Hl yz) hz hy (by show (1:Int)≠0;decide) (by show (-1:Int)≠0;decide) (by show ib 1<=135;decide) (by show ib (-1)<=135;decide);refine⟨⟨⟨⟨R.1,a1,up rb⟩,c1,up rb⟩,⟨⟨R.2,a2,rb⟩,c2,rb⟩,by show 3<=4;decide,rfl,by show 3<=3;decide,rfl,λk=>?_⟩,by show 3<=3;decide⟩;show _↔k∈([x]++(ef (y,p) (x,0-q)).map (·.1))++(ef (z,1) (y,-1)).map (·.1);rw[FV,FV,a3,c3,hm];simp
  grind
 | false =>
  refine⟨⟨⟨⟨a1,up rb⟩,⟨b1,up (ng rb)⟩,R.1⟩,⟨⟨a2,rb⟩,⟨b2,ng rb⟩,R.2⟩,by show 3<=4;decide,rfl,by show 3<=3;decide,rfl,λk=>?_⟩,by show 3<=3;decide⟩;show _↔k∈(ef (y,p) (x,0-q)).map (·.1)++((ef (y,0-p) (x,q)).map (·.1)++[x]);rw[FV,FV,a3,b3,hm];simp
  grind
def sayF(x y z:Str)(p q r:Int)(l:Bool)(w:Rw1)(ws:List Rw1):E8:=ws.foldl (λs w=>.ei s (tdS x y z p q r l w)) (tdS x y z p q r l w)
theorem zT{l:Bool}{w0:Rw1}(h0:Sv nm (tdS x y z p q r l w0) [csT x y z p q r l w0]):∀(ws:List Rw1),(∀w∈ws,Sv nm (tdS x y z p q r l w) [csT x y z p q r l w]/\(tdS x y z p q r l w).dep<=3)->Sv nm (sayF x y z p q r l w0 ws) ((w0::ws).map (csT x y z p q r l)):=by
 have:∀(ws:List Rw1) (s:E8) (K:List (List Rw)),Sv nm s K->(∀w∈ws,Sv nm (tdS x y z p q r l w) [csT x y z p q r l w]/\(tdS x y z p q r l w).dep<=3)->Sv nm (ws.foldl (λs w=>.ei s (tdS x y z p q r l w)) s) (K++ws.map (csT x y z p q r l)):=λws=>by
  induction ws with
  | nil=>intro s K h _;rw[Hc,Gj];exact h
  | cons w ws ih =>
   intro s K h hw;obtain⟨k1,k2⟩:=hw w (by simp);have:=ih _ _ (h.ei k1 k2) λv hv=>hw v (Fz _ hv);rw[HS] at this;exact this
 exact λws hw=>this ws _ [csT x y z p q r l w0] h0 hw
theorem uR(nb:b.Nodup):∃nm:Zb,nm.Pairwise E3/\nm.Nodup/\(∀k,k∈nm↔k∈b)/\nm.length=b.length:=by
 have pm:=List.mergeSort_perm b (λa c=>!Spec.ltCps c.cps.toList a.cps.toList)
 refine⟨_,?_,pm.nodup_iff.mpr nb,λk=>pm.mem_iff,pm.length_eq⟩
 have:=List.pairwise_mergeSort (le:=λa c:Str=>!Spec.ltCps c.cps.toList a.cps.toList) (λa b c h1 h2=>by
  simp only[Bool.not_eq_true'] at *;exact e6 h1 h2) (λa c=>by
  rcases l5 a c with z | z<;>unfold E3 at z<;>simp[z]) b
 exact this.imp λh=>by unfold E3;simpa using h
theorem Sv.one{s:E8}{K:List (List Rw)}(v:Sv nm s K)(pw:nm.Pairwise E3)(nd:nm.Nodup)(k4:K.length<=4)(hn:n∈nm)(l3:nm.length<=3):One s nm n 135 3 3900:=by
 have dep:=v.dep
 have lt:(Fg nm n).length<nm.length:=List.length_filter_lt_length_iff_exists.mpr ⟨n,hn,by simp⟩
 exact⟨by omega,v.ok,v.bt,⟨by rw[v.num];exact k4,v.long⟩,pw,nd,v.nms,by omega,by omega,by decide,by decide,by decide⟩
theorem Dc:∀i:Fin 26,E4 (PySem.Str.cps "abcdefghijklmnopqrstuvwxyz").toList (i.val:Int)=some (97+i.val):=by decide +kernel
theorem BQ(h0:0<=i)(h1:i<26):E4 (PySem.Str.cps "abcdefghijklmnopqrstuvwxyz").toList i=some (97+i.toNat):=by
 have:=Dc ⟨i.toNat,by omega⟩
 simp only at this;rw[show ((i.toNat:Nat):Int)=i by omega] at this;exact this
def ltr(i:Int):Str:=⟨#[97+i.toNat]⟩
theorem nZ(h0:0<=i)(h1:0<=j)(e:ltr i=ltr j):i=j:=by
 unfold ltr at e;simp only[Str.mk.injEq,Array.mk.injEq,List.cons.injEq,and_true] at e;omega
theorem uu{α:Type}{Q:α->Prop}{F:α->D}{xs ys:Zh}(h:uV (λ_ d=>∃r,Q r/\d=F r) xs ys):∃rs:List α,ys=rs.map F/\(∀r∈rs,Q r)/\rs.length=xs.length:=by
 have e:∀y∈ys,∃r,Q r/\y=F r:=λy hy=>by
  obtain⟨i,hi⟩:=List.getElem?_of_mem hy;have hl:=(List.getElem?_eq_some_iff.mp hi).1;rw[h.len] at hl;exact h.all i xs[i] y (List.getElem?_eq_getElem hl) hi
 have:∃rs:List α,ys=rs.map F/\∀r∈rs,Q r:=by
  clear h
  induction ys with
  | nil=>exact⟨[],rfl,λ_ h=>nomatch h⟩
  | cons y ys ih =>
   obtain⟨r,hr,rfl⟩:=e y (by simp);obtain⟨rs,rfl,ha⟩:=ih λy hy=>e y (Fz _ hy);exact⟨r::rs,rfl,λa h=>(FJ.mp h).elim (λz=>z ▸ hr) (ha a)⟩
 obtain⟨rs,rfl,hq⟩:=this;exact⟨rs,rfl,hq,by rw[<- h.len,Fy]⟩
theorem fE:au ["_law_script","_law_first","_law_names","_law_rows","_law_tie_here","_law_loose","_law_saying","_law_row_here"] ["_law_script"] (am s_law):=by walk_at "sc"
theorem yR(Z:Zz){fa:Addr}{fd:FuncData}(F:Fun Z.K "law" "law" s_law fa fd):kT Z.P Z.w Z.K Z.mg Z.base CX0 66 fa fd ["_law_script"] (Fx Z.K fLaw):=by
 refine AT F fE (λds R ⟨ns,e,_⟩=>by rw[e];rfl) λcdv A outer s H E ds R hr h=>?_;have hU:=hr.units;refine⟨_,(ad (ax 1 fE.nd (ar (cE Z) (rm hr) rfl (ac (ag 0) (ac ak ae)))) (ad (ax 2 fE.nd (bO ["_law_k"] [(1,"_law_first")] rfl rfl (by decide +kernel) rfl (by decide +kernel) (bI ⟨rfl,trivial⟩) (λ_=>bU rfl) (aT ⟨⟨rfl,rfl,.inl rfl⟩,trivial⟩) (j8 rfl Z.x58 (ac ak ae)) λ_ _ _ _ _=>⟨(aq 0 (show List.Nodup (["_law_k","_law_first"]:Zb) by decide +kernel)),fA,(cA cz bq (ay jd (ay aN (ay jd (ag 1) ak) (ay bu ak (ag 0))) ak) (λ_ _=>rfl))⟩)) (ad (tH 3 fE.nd ["_law_k"] [(0,"_law_script"),(2,"_law_names")] rfl rfl (by decide +kernel) rfl (by decide +kernel) (bI ⟨rfl,rfl,trivial⟩) (λ_=>bU rfl) (aT ⟨⟨rfl,rfl,.inl rfl⟩,⟨rfl,rfl,.inl rfl⟩,trivial⟩) (j8 rfl Z.x58 (ac (ay aN ak (ay jd (ay eF (ag 1) ak) ak)) ae)) λ_ _ _ _ _=>⟨(aq 0 (show List.Nodup (["_law_k","_law_script","_law_names"]:Zb) by decide +kernel)),fA,(ar (mh Z) (rm hr) rfl (ac (ar (cE Z) (rm hr) rfl (ac (ag 1) (ac (ay aN ak (ag 0)) ae))) (ac (EU 2) ae)))⟩) (ad (ax 4 fE.nd (ar (lH Z) (rm hr) rfl (ac (ar (cE Z) (rm hr) rfl (ac (ag 0) (ac ak ae))) (ac (ar (cE Z) (rm hr) rfl (ac (ag 0) (ac ak ae))) ae)))) (ad (ax 5 fE.nd (cM (hX hU) (ay jd (ay eF (ag 1) ak) ak) ak (aw _))) (ad (ax 6 fE.nd (ar (fh Z) (rm hr) rfl (ac (EU 3) (ac (ag 2) (ac (ag 4) (ac (ag 5) ae)))))) (ad (bA FY rfl (me (ag 3) (cV ak) dP) (aq 7 fE.nd) (af (ax 6 fE.nd (aP (ac bq (ac (ag 6) (ac (ar (fh Z) (rm hr) rfl (ac (ag 7) (ac (ag 2) (ac (ag 4) (ac (ag 5) ae))))) ae))))))) (ad (aM (de (aU (ar (fD Z) (rm hr) rfl (ac (ar (iJ Z) (rm hr) rfl (ac (ag 6) (ac (EU 2) ae))) (ac (ag 3) (ac (bJ (ac ak (ac ak (ac ak ae)))) ae)))))) (af (av cv)) aA) (af (av (mU (ag 5) (dD (ar (fD Z) (rm hr) rfl (ac (ar (iJ Z) (rm hr) rfl (ac (ag 6) (ac (EU 2) ae))) (ac (ag 3) (ac (ag 4) ae)))))))))))))))),?_⟩
 obtain⟨ns,rfl,aj,hb,q'⟩:=h;refine ap λK1 hK1=>?_;walk_at "";refine⟨ns,0,rfl,by decide,?_⟩;walk_at "";rw[hK1];have cb:=λk=>sU hb k;generalize hf:iu ns 0=f at *;refine ap λK2 hK2=>?_;walk_at ""
 let g:Int->Int:=λk=>(f.fmod 26+9*k).fmod 26
 have g0:∀k,0<=g k:=λk=>Gh _ (by decide)
 have g1:∀k,g k<26:=λk=>Gy _ (by decide)
 refine⟨by decide,by decide,by decide,λd=>match d with | .int k=>some (.str (ltr (g k))) | _=>none,λd hd=>?_,?_⟩
 ·obtain⟨k,hk,rfl⟩:=FC.mp hd;have hk:k<3:=GL.mp hk;walk_at "";exact⟨cnz (by decide),E6 (m:=4) (by decide) (sm64 (x:=(k:Int)) (by omega) (by omega)),cnz (by decide),by decide,_,BQ (g0 k) (g1 k),rfl⟩
 have ah:ltr (g 0)≠ltr (g 1)/\ltr (g 1)≠ltr (g 2)/\ltr (g 0)≠ltr (g 2):=by
  have d0:=Hw (f.fmod 26+9*0) 26
  have d1:=Hw (f.fmod 26+9*1) 26
  have d2:=Hw (f.fmod 26+9*2) 26
  have e0:g 0=(f.fmod 26+9*0).fmod 26:=rfl
  have e1:g 1=(f.fmod 26+9*1).fmod 26:=rfl
  have e2:g 2=(f.fmod 26+9*2).fmod 26:=rfl
  refine⟨λz=>?_,λz=>?_,λz=>?_⟩
  ·have:=nZ (g0 _) (g0 _) z;omega
  ·have:=nZ (g0 _) (g0 _) z;omega
  ·have:=nZ (g0 _) (g0 _) z;omega
 show K2 [.dat (.fz (ns.map D.int)),.dat (.int f),.dat (.lst [.str (ltr (g 0)),.str (ltr (g 1)),.str (ltr (g 2))]),.no,.no,.no,.no,.no]
 generalize ltr (g 0)=x at *
 generalize ltr (g 1)=y at *
 generalize ltr (g 2)=z at *
 obtain⟨xy,yz,xz⟩:=ah;clear g0 g1;clear g;rw[hK2];refine ap λK3 hK3=>?_;walk_at "";have m0:=Gh (f.fdiv 26) (b:=3) (by decide);have m1:=Gy (f.fdiv 26) (b:=3) (by decide);refine⟨Au (by decide) (by decide),cnz (by decide),by omega,by omega,by rw[Fy,G2];omega,λ_ d=>∃r:Rw1,R1 r.2.1 r.2.2/\d=r1D x r,λd hd=>?_,λys al=>?_⟩
 ·obtain⟨k,hk,rfl⟩:=FC.mp hd;walk_at "";refine⟨ns,_,rfl,by omega,?_⟩;walk_at "";refine⟨_,x,rfl,cb _,λkd w b h=>?_⟩;walk_at "";exact⟨(kd,w,b),h,rfl⟩
 obtain⟨rs,rfl,hr,ab⟩:=uu al;rw[Fy,G2] at ab;have l4:rs.length<=4:=by omega
 have aa:=hr
 obtain⟨w0,ws,ew⟩:∃w0 ws,rs=w0::ws:=by
  cases rs with
  | nil=>simp at ab;omega
  | cons a b=>exact⟨a,b,rfl⟩
 rw[hK3];refine ap λK4 hK4=>?_;walk_at "";refine⟨ns,_,rfl,by decide,?_⟩;walk_at "";refine⟨ns,_,rfl,by decide,?_⟩;walk_at "";refine⟨_,_,rfl,cb _,cb _,λp q r ti=>?_⟩;walk_at "";rw[hK4];refine ap λK5 hK5=>?_;walk_at "";refine⟨Au (by decide) (by decide),cnz (by decide),?_⟩;generalize decide ((f.fdiv 78).fmod 3=1)=l;rw[hK5];refine ap λK6 hK6=>?_;rw[ew,F7];walk_at "";refine⟨rowS x w0,x,y,z,p,q,r,l,rfl,xy,yz,?_⟩;walk_at "";rw[hK6];refine ap λK7 hK7=>?_;refine bN λF N hF hN=>?_;walk_at "";simp only[iK];walk_at "";rw[pG];refine⟨λi δ=>∃v,δ=[.dat (.fz (ns.map D.int)),.dat (.int f),.dat (.lst [.str x,.str y,.str z]),.dat (.lst (rs.map (r1D x))),.dat (.lst [.int p,.int q,.int r]),.dat (.bl l),.dat (sayF x y z p q r l w0 (ws.take i)).D,v],⟨_,by rw[ew];rfl⟩,?_,?_⟩
 ·rintro i d δ hd ⟨v,rfl⟩;obtain⟨t,hp,rfl⟩:=sH hd;rw[hF];show dF _ _ _ _;walk_at "";refine⟨rowS x t,x,y,z,p,q,r,l,rfl,xy,yz,?_⟩;walk_at "";unfold sayF;rw[aG hp,Hk];rfl
 ·rintro δ ⟨v,rfl⟩;rw[Fy,FZ,hN,hK7];obtain⟨nm,pw,nd,mem,nl⟩:=uR (b:=if l=true then [x,y,z] else [x,y]) (by cases l<;>simp[xy,yz,xz])
  have hm:∀k,k∈nm↔k=x\/k=y\/(l=true/\k=z):=λk=>by rw[mem k];cases l<;>simp
  have l3:nm.length<=3:=by rw[nl];cases l<;>simp
  rw[ew] at aa;have sv:=zT (wY pw nd xy yz hm ti (aa w0 (by simp))).1 ws λw hw=>wY pw nd xy yz hm ti (aa w (Fz _ hw));rw[<- ew] at sv;generalize sayF x y z p q r l w0 ws=s at *;have k4:(rs.map (csT x y z p q r l)).length<=4:=by rw[Fy];exact l4
  have w1:∀a∈rs,a.2.1≠0:=λa ha=>(hr a ha).w0
  have t1:Tie 1 1 0:=⟨by decide,by decide,by decide,by decide,by decide⟩
  have Tx:=sv.one pw nd k4 (n:=x) ((hm x).mpr (.inl rfl)) l3
  have Ty:=sv.one pw nd k4 (n:=y) ((hm y).mpr (.inr (.inl rfl))) l3
  have ai:2 ^ rs.length<=2 ^ 4:=Hm (by decide) l4
  dsimp only
  refine ap λK8 hK8=>?_;walk_at "";refine⟨s,x,nm,135,3,3900,rfl,Tx,?_⟩;walk_at "";obtain⟨S,g1,g2,g3,g4,g5,g6⟩:=Tx.good sv.kr t1 w1 λa ha v=>ER xy yz xz ti v;refine⟨S,_,x,rs,1,1,0,rfl,g1,g2,g3,by omega,l4,hr,t1,g5,λa fa=>g6 a fa.low.pos,?_⟩;walk_at "";rw[hK8]
  cases l with
  | true =>
   walk_at "";exact q'
  | false =>
   walk_at "";refine⟨s,y,nm,135,3,3900,rfl,Ty,?_⟩;walk_at "";obtain⟨S',h1,h2,h3,h4,h5,h6⟩:=Ty.good sv.kr ti w1 λa ha v=>Ep xy ti v;exact⟨S',_,x,rs,p,q,r,rfl,h1,h2,h3,by omega,l4,hr,ti,h5,λa fa=>h6 a fa.low.pos,q'⟩
end Lw
namespace Lw
open PySem L2 DL
theorem all_mk{l:PySem.W.OpenLaw}{w:World}{K:PySem.W.Frag}{h:Heap}{mg:Str->Zd}{fa:Addr}(X:K.In h)(G:h.Ns mainGlobals mg)(hfa:mg "law"=some (.ref fa))(f:Hd.Facts K):∃fd:FuncData,(∀(s:Shared) (v:Value),BindsTo s fd ⟨[v],[]⟩ [("_law_script",v)])/\∀base:Heap,K.In base->base.Ns mainGlobals mg->kT l.prog w K mg base CX0 66 fa fd ["_law_script"] (y7 K):=by
 obtain⟨⟨_,_,_,_,_,_,_,_,_,_,a,l1,c,k⟩⟩:=f.q51;obtain⟨_,ab,ah⟩:=f.g_OPPOSITES;obtain⟨_,ai⟩:=f.g_MOST_ROWS;obtain⟨_,aa⟩:=f.g_MOST_CASES;obtain⟨_,_,_,_,aj,al⟩:=f.g_ENDLESS;have e:=hfa.symm.trans (HJ X G a)
 cases e
 have F:=wP (st:=s_law) l1 c k
 refine⟨_,?_,λbase _ _=>by exact CQ (yR ⟨l.prog,w,K,mg,base,f.q0.fd2 X G λ_ _ _ _ _ _ _ _=>rfl,f.q1.fd2 X G λ_ _ _ _ _ _ _ _=>rfl,f.q2.fd2 X G λ_ _ _ _ _ _ _ _=>rfl,f.q3.fd1 X G λ_ _ _ _ _ _ _=>rfl,f.q4.fd2 X G λ_ _ _ _ _ _ _ _=>rfl,f.q5.fd1 X G λ_ _ _ _ _ _ _=>rfl,f.q6.fd2 X G λ_ _ _ _ _ _ _ _=>rfl,f.q7.fd2 X G λ_ _ _ _ _ _ _ _=>rfl,f.q8.fd3 X G λ_ _ _ _ _ _ _ _ _=>rfl,f.q9.fd3 X G λ_ _ _ _ _ _ _ _ _=>rfl,f.q10.fd2 X G λ_ _ _ _ _ _ _ _=>rfl,f.q11.fd1 X G λ_ _ _ _ _ _ _=>rfl,f.q12.fd2 X G λ_ _ _ _ _ _ _ _=>rfl,f.q13.fd1 X G λ_ _ _ _ _ _ _=>rfl,f.q14.fd2 X G λ_ _ _ _ _ _ _ _=>rfl,f.q15.fd2 X G λ_ _ _ _ _ _ _ _=>rfl,f.q16.fd2 X G λ_ _ _ _ _ _ _ _=>rfl,f.q17.fd1 X G λ_ _ _ _ _ _ _=>rfl,f.q18.fd2 X G λ_ _ _ _ _ _ _ _=>rfl,f.q19.fd2 X G λ_ _ _ _ _ _ _ _=>rfl,f.q20.fd1 X G λ_ _ _ _ _ _ _=>rfl,f.q21.fd1 X G λ_ _ _ _ _ _ _=>rfl,f.q22.fd3 X G λ_ _ _ _ _ _ _ _ _=>rfl,f.q23.fd4 X G λ_ _ _ _ _ _ _ _ _ _=>rfl,f.q24.fd2 X G λ_ _ _ _ _ _ _ _=>rfl,f.q25.fd3 X G λ_ _ _ _ _ _ _ _ _=>rfl,f.q26.fd3 X G λ_ _ _ _ _ _ _ _ _=>rfl,f.q27.fd3 X G λ_ _ _ _ _ _ _ _ _=>rfl,f.q28.fd3 X G λ_ _ _ _ _ _ _ _ _=>rfl,f.q29.fd2 X G λ_ _ _ _ _ _ _ _=>rfl,f.q30.fd2 X G λ_ _ _ _ _ _ _ _=>rfl,f.q31.fd2 X G λ_ _ _ _ _ _ _ _=>rfl,f.q32.fd2 X G λ_ _ _ _ _ _ _ _=>rfl,f.q33.fd1 X G λ_ _ _ _ _ _ _=>rfl,f.q34.fd1 X G λ_ _ _ _ _ _ _=>rfl,f.q35.fd2 X G λ_ _ _ _ _ _ _ _=>rfl,f.q36.fd2 X G λ_ _ _ _ _ _ _ _=>rfl,f.q37.fd2 X G λ_ _ _ _ _ _ _ _=>rfl,f.q38.fd1 X G λ_ _ _ _ _ _ _=>rfl,f.q39.fd1 X G λ_ _ _ _ _ _ _=>rfl,f.q40.fd2 X G λ_ _ _ _ _ _ _ _=>rfl,f.q41.fd3 X G λ_ _ _ _ _ _ _ _ _=>rfl,f.q42.fd1 X G λ_ _ _ _ _ _ _=>rfl,f.q43.fd2 X G λ_ _ _ _ _ _ _ _=>rfl,f.q44.fd1 X G λ_ _ _ _ _ _ _=>rfl,f.q45.fd2 X G λ_ _ _ _ _ _ _ _=>rfl,f.q46.fd2 X G λ_ _ _ _ _ _ _ _=>rfl,f.q47.fd2 X G λ_ _ _ _ _ _ _ _=>rfl,f.q48.fd4 X G λ_ _ _ _ _ _ _ _ _ _=>rfl,f.q49.fd2 X G λ_ _ _ _ _ _ _ _=>rfl,f.q50.fd3 X G λ_ _ _ _ _ _ _ _ _=>rfl,Gd X G f.z0,Gd X G f.z1,Gd X G f.z2,Gd X G f.z3,Gd X G f.z4,Gd X G f.z5,Gd X G f.z6,Gd X G f.z7,Gd X G f.z8,Gd X G f.z9,Gd X G f.z10,Gd X G f.z11,Gd X G f.z12,Gd X G f.z13,⟨⟨_,HJ X G ab,ah⟩⟩,⟨⟨_,HJ X G ai⟩⟩,⟨⟨_,HJ X G aa⟩⟩,⟨⟨_,_,_,HJ X G aj,al,rfl,rfl⟩⟩⟩ F)⟩
 exact λs v=>.of_eq rfl
end Lw
open PySem PySem.W PyProof.Rows
theorem PySem.Challenge.cw_rowbetween_k59_whole_stretch_led_over_holds : PySem.Challenge.rw_rowbetween_k59_whole_stretch_led_over.Holds := by
 refine Hd.half λYP d K hY hdf hdn f=>?_;refine DL.walkB (l:=PySem.Challenge.rw_rowbetween_k59_whole_stretch_led_over) (k:=66) (x:="_law_script") rfl hdf ⟨rfl,by decide,by decide⟩ hY λw mg fa h KX G hmg=>?_;rw[hdn] at hmg;exact Lw.all_mk KX G hmg (f w)
#print axioms PySem.Challenge.cw_rowbetween_k59_whole_stretch_led_over_holds
