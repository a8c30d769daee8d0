import PyProof.Rows.All
import Wide.All
import OpenK.AllK
import Wide.FinOn
import Lean
import PyProof.EqAt
import PyProof.EqKinds
import PyProof.TupleCall
import KE.LcSums
import PySem.Challenge.RW_rowbetween_k32_lets_by
set_option Elab.async false
set_option linter.all false
set_option maxRecDepth 100000
set_option maxHeartbeats 4000000
set_option Elab.async false
set_option linter.all false
set_option maxRecDepth 100000
local macro_rules | `(tactic| walk_at "or") => `(tactic| (intro d0 R h; rcases d0 with _ | ⟨a, _ | ⟨b, _ | ⟨c, l⟩⟩⟩; exact False.elim h; (cases a <;> first | exact False.elim h | (repeat first | exact ⟨_, rfl, h⟩ | exact ⟨_, _, rfl, h⟩ | exact ⟨_, _, _, rfl, h⟩ | exact .inl ⟨_, rfl, h⟩ | exact .inl ⟨_, _, rfl, h⟩ | exact .inl ⟨_, _, _, rfl, h⟩ | apply Or.inr)); (cases a <;> first | exact False.elim h | (cases b <;> first | exact False.elim h | (repeat first | exact ⟨_, rfl, h⟩ | exact ⟨_, _, rfl, h⟩ | exact ⟨_, _, _, rfl, h⟩ | exact .inl ⟨_, rfl, h⟩ | exact .inl ⟨_, _, rfl, h⟩ | exact .inl ⟨_, _, _, rfl, h⟩ | apply Or.inr))); (cases a <;> first | exact False.elim h | (cases b <;> exact False.elim h))))
local macro_rules | `(tactic| walk_at "v3") => `(tactic| first | exact Or.inl rfl | exact Or.inr (Or.inl rfl) | exact Or.inr (Or.inr rfl))
local macro_rules | `(tactic| walk_at "v2") => `(tactic| first | exact Or.inl rfl | exact Or.inr rfl)
local macro_rules | `(tactic| walk_at "v1") => `(tactic| first | exact .inl rfl | exact .inr rfl | assumption)
def E7:=@List.length_map
def E8:=@List.mem_map
def E9:=@List.mem_cons_of_mem
def Fa:=@Nat.le_trans
def Fc:=@PySem.wpAny_bind
def Fe:=@List.mem_cons_self
def Ff:=@Classical.byContradiction
def Fg:=@Bool.false_ne_true
def Fh:=@Nat.le_refl
def Fi:=@List.length_append
def Fj:=@List.mem_cons
def Fk:=@List.mem_append
def Fl:=@List.length_cons
def Fm:=@List.mem_of_getElem?
def Fn:=@List.mem_singleton
def Fo:=@List.mem_append_right
def Fp:=@if_neg
def Fq:=@List.mem_filter
def Fs:=@if_pos
def Ft:=@PySem.wpAny_pure
def Fv:=@List.map_append
def Fw:=@List.take_length
def Fx:=@List.mem_append_left
def Fy:=@PySem.PassesOwn.never
def Fz:=@Option.some.inj
def FA:=@List.of_mem_zip
def FB:=@List.size_toArray
def FC:=@PySem.Heap.lt_size
def FD:=@List.length_replicate
def FE:=@Bool.and_eq_true_iff
def FG:=@List.filter_cons_of_neg
def FH:=@Rat.intCast_mul
def FI:=@List.length_take
def FJ:=@List.map_cons
def FK:=@PySem.intBits_mul_le
def FL:=@List.map_map
def FM:=@Int.fmod_nonneg_of_pos
def FN:=@Nat.lt_of_lt_of_le
def FP:=@List.filter_cons_of_pos
def FQ:=@List.getElem_mem
def FR:=@decide_eq_false
def FT:=@PySem.W.mg_none_of
def FU:=@Rat.mul_nonneg
def FV:=@Nat.ne_of_lt
def FW:=@Int.fmod_lt_of_pos
def FX:=@decide_eq_true
def FY:=@PySem.W.kia_one
def FZ:=@List.append_nil
def F0:=@List.length_set
def F1:=@Int.mul_ne_zero
def F3:=@PyProof.Rows.slot_tuple_getitem
def F4:=@PySem.intBits_fdiv_le
def F5:=@Int.mul_left_comm
def F6:=@List.mem_of_mem_take
def F7:=@Nat.lt_irrefl
def F8:=@List.filterMap_cons
def F9:=@List.nodup_cons
def Gc:=@Int.mul_comm
def Gd:=@Int.mul_assoc
def Ge:=@List.length_drop
def Gg:=@List.length_pos_iff
def Gh:=@PyProof.Rows.callWith_type1
def Gi:=@PySem.wpAny_field
def Gj:=@List.length_zip
def Gk:=@Rat.mul_pos
def Gm:=@List.mem_flatMap
def Gn:=@Rat.intCast_add
def Gp:=@PySem.wpAny_mono
def Gq:=@List.eq_nil_of_length_eq_zero
def Gr:=@List.all_eq_true
def Gs:=@congrArg
def Gu:=@Nat.le_mul_of_pos_right
def Gv:=@PySem.Heap.size_push
def Gw:=@Int.add_zero
def Gx:=@PySem.intBits_add_le
def Gy:=@PySem.wpAny_truthy_bool
def Gz:=@PySem.wpAny_newObj_type
def GA:=@List.length_range
def GB:=@Decidable.not_not
def GC:=@Bool.eq_false_iff
def GD:=@List.flatMap_append
def GE:=@List.take_of_length_le
def GF:=@Nat.le_mul_of_pos_left
def GG:=@PySem.F.slot_tuple_iterator_next
def GH:=@PySem.wpAny_call_entry
def GI:=@PySem.wpAny_holding
def GJ:=@PySem.wpAny_setField_rec
def GK:=@List.take_append_drop
def GL:=@List.mem_range
def GM:=@Nat.zero_le
def GN:=@PySem.wpAny_seqItems
def GO:=@List.drop_eq_getElem_cons
def GP:=@PySem.wpAny_passesOwn
def GQ:=@Bool.eq_iff_iff
def GR:=@Int.toNat_natCast
def GS:=@Nat.le_of_lt
def GT:=@PySem.mem_of_lookup
def GU:=@Int.fdiv_mul_cancel
def GV:=@List.map_congr_left
def GW:=@List.map_zipWith
def GX:=@PySem.IntMulOk.of_left
def GY:=@List.flatMap_singleton
def GZ:=@PySem.tupleKind_room_in1
def G0:=@List.length_singleton
def G1:=@List.map_nil
def G2:=@Nat.succ.inj
def G3:=@Int.zero_add
def G4:=@Int.dvd_gcd_mul_iff_dvd_mul
def G5:=@List.length_filter_le
def G6:=@PySem.wpAny_pyIter_list
def G7:=@Nat.lt_trichotomy
def G8:=@List.take_zero
def G9:=@PySem.intBits_neg_le
def Ha:=@Nat.mul_le_mul
def Hb:=@List.mem_or_eq_of_mem_set
def Hc:=@Nat.le_add_right
def He:=@Array.length_toList
def Hf:=@List.length_reverse
def Hg:=@Nat.ne_of_gt
def Hh:=@Int.mul_fdiv_cancel_left
def Hi:=@Int.le_of_lt
def Hj:=@List.length_eq_zero_iff
def Hk:=@PySem.W.mg_of
def Hl:=@Rat.mul_eq_zero
def Hm:=@Nat.exists_eq_add_of_le
def Hn:=@Option.map_eq_some_iff
def Ho:=@List.zipWith_cons_cons
def Hr:=@PySem.W.kitx_dict
def Hs:=@List.append_assoc
def Ht:=@Nat.lt_succ_of_lt
def Hu:=@Int.mul_add
def Hv:=@List.nodup_append
def Hw:=@Nat.mul_add
def Hx:=@PySem.F.slot_dict_get
def Hy:=@Bool.beq_eq_decide_eq
def Hz:=@Nat.le_div_iff_mul_le
def HA:=@List.zipWith_map
def HB:=@PySem.wpAny_updateSeq_pair
def HC:=@List.mem_of_mem_drop
def HD:=@List.any_cons
def HE:=@Int.add_assoc
def HF:=@Bool.true_and
def HG:=@List.map_take
def HH:=@beq_eq_false_iff_ne
def HI:=@PySem.wpAny_execs_nil
def HJ:=@PySem.SeqAt.EqAt.same
def HK:=@List.length_nil
def HL:=@List.zip_append
def HM:=@PySem.F.slot_zip_next
def HN:=@Rat.intCast_inj
def HP:=@Rat.intCast_neg
def HQ:=@List.foldl_cons
def HR:=@Int.mul_zero
def HS:=@Nat.lt_asymm
namespace L2
open PySem
def df(s:Stmt):Arguments:=match s with
 | .FunctionDef _ a _ _ _ _ _ _ _ _=>a
 | _=>{ posonlyargs:=[],args:=[],vararg:=none,kwonlyargs:=[],kw_defaults:=[],kwarg:=none,defaults:=[] }
def bN(s:Stmt):List Stmt:=match s with
 | .FunctionDef _ _ b _ _ _ _ _ _ _=>b
 | _=>[]
def ap(s:Stmt):Scope:=match s with
 | .FunctionDef _ _ _ _ _ _ sc _ _ _=>sc
 | _=>{ kind:=.function,names:=[],isGenerator:=false,isCoroutine:=false }
end L2
namespace DL
open PySem PySem.Spec PyProof.Rows L2
def txt(D:List (Str×Str)):List (Str×KTD.Dat):=D.map λp=>(p.1,KTD.Dat.flat (.str p.2))
structure FdK(K:PySem.W.Frag)(x:Str)(st:Stmt):Prop where
 ex:∃(f:Addr) (oc:Value) (od an:Option Addr) (sl:Array (Option Value)) (kV dc pm cd ct:Value),PySem.W.nsIn K mainGlobals x=some (some (.ref f))/\K.lookup f=some ⟨oc,od,.func (PySem.W.fnOf x x (df st) (bN st) (ap st) .none kV dc pm an cd ct),sl⟩/\PySem.W.codeIn K cd x=true/\PySem.W.keepIn K (.ref f)=true
end DL
namespace Lw
open PySem L2 DL
def top(i:Nat):Stmt:=PySem.Challenge.pw_rowbetween_k32_lets_by.main.body.getD i (.Pass ⟨0,0,0,0⟩)
abbrev s_common_divisor:Stmt:=top 6
abbrev s_made:Stmt:=top 7
abbrev s_plus:Stmt:=top 8
abbrev s_times:Stmt:=top 9
abbrev s_less:Stmt:=top 10
abbrev s_is_row:Stmt:=top 15
abbrev s_mark_names:Stmt:=top 16
abbrev s_names_of:Stmt:=top 17
abbrev s_tops_of:Stmt:=top 18
abbrev s_top_of_sum:Stmt:=top 19
abbrev s_row_is_so:Stmt:=top 20
abbrev s_part_is_so:Stmt:=top 21
abbrev s_is_so:Stmt:=top 22
abbrev s_contrary:Stmt:=top 23
abbrev s_plain_part:Stmt:=top 24
abbrev s_plain:Stmt:=top 25
abbrev s__law_cell:Stmt:=top 50
abbrev s_put_together:Stmt:=top 26
abbrev s_cases_within:Stmt:=top 27
abbrev s_cases:Stmt:=top 28
abbrev s_added:Stmt:=top 34
abbrev s_weight_of:Stmt:=top 35
abbrev s_alone:Stmt:=top 36
abbrev s_shortened:Stmt:=top 37
abbrev s_crossed:Stmt:=top 38
abbrev s_without:Stmt:=top 39
abbrev s_taken_out:Stmt:=top 40
abbrev s_bound_on:Stmt:=top 41
abbrev s_tighter:Stmt:=top 31
abbrev s_number_in:Stmt:=top 32
abbrev s_piece_for:Stmt:=top 42
abbrev s_found_back:Stmt:=top 43
abbrev s_solved:Stmt:=top 44
abbrev s_both_so:Stmt:=top 46
abbrev s__law_whole:Stmt:=top 52
abbrev s__law_number:Stmt:=top 51
abbrev s__law_line:Stmt:=top 57
abbrev s__law_fence:Stmt:=top 58
abbrev s__law_shaped:Stmt:=top 59
abbrev s__law_sayings:Stmt:=top 60
abbrev s__law_cases:Stmt:=top 63
abbrev s__law_weights_good:Stmt:=top 64
abbrev s__law_paper_good:Stmt:=top 65
abbrev s_shows_none:Stmt:=top 47
abbrev s_lets_by:Stmt:=top 48
abbrev s__law_given:Stmt:=top 66
abbrev s__law_weights_bent:Stmt:=top 67
abbrev s__law_bent:Stmt:=top 68
abbrev s__law_turned:Stmt:=top 69
abbrev s__law_good:Stmt:=top 70
abbrev s_law:Stmt:=top 71
end Lw
namespace Hd
open PySem PySem.W PyProof.Rows
set_option maxRecDepth 100000
set_option maxHeartbeats 0
def kept(i:Nat):Stmt:=PySem.Challenge.pw_rowbetween_k32_lets_by.main.body.getD i (.Pass ⟨0,0,0,0⟩)
def vw:Program:={ PySem.Challenge.pw_rowbetween_k32_lets_by with main:={ PySem.Challenge.pw_rowbetween_k32_lets_by.main with body:=[kept 1,kept 2,kept 3,kept 4,kept 6,kept 7,kept 8,kept 9,kept 10,kept 12,kept 13,kept 14,kept 15,kept 16,kept 17,kept 18,kept 19,kept 20,kept 21,kept 22,kept 23,kept 24,kept 25,kept 26,kept 27,kept 28,kept 30,kept 31,kept 32,kept 34,kept 35,kept 36,kept 37,kept 38,kept 39,kept 40,kept 41,kept 42,kept 43,kept 44,kept 46,kept 47,kept 48,kept 50,kept 51,kept 52,kept 53,kept 54,kept 55,kept 56,kept 57,kept 58,kept 59,kept 60,kept 61,kept 62,kept 63,kept 64,kept 65,kept 66,kept 67,kept 68,kept 69,kept 70,kept 71] } }
def xt(s:Shared):Bool:=xlAt vw [] s&&recOk (RowW.records (OpenRow.toRowW PySem.Challenge.rw_rowbetween_k32_lets_by.row)) s
noncomputable def st0 (w:World) (os:OsState):Shared:=⟨boot_heap w.params,#[],boot_drawn,boot_toks,os⟩
noncomputable def rn (w:World) (os:OsState):=(topRun treeTable PySem.Challenge.pw_rowbetween_k32_lets_by w 11 (some (Value.ref 6)) 5744 (st0 w os) (topStub PySem.Challenge.pw_rowbetween_k32_lets_by))
theorem said:PySem.W.OpenLaw.wellSaid PySem.Challenge.rw_rowbetween_k32_lets_by=true:=by
 rw[PySem.W.Fast.te9446332074065402090]
 kernel_rfl
local macro_rules | `(tactic| walk_at "hf") => `(tactic| (unfold Hd.rn Hd.st0; (try rw [PySem.W.Fast.te14082659384304107361]); (try rw [PySem.W.Fast.te14364793385576792824]); (try rw [PySem.W.Fast.te5160383126252970620]); (try rw [PySem.W.Fast.te10880121769531294198]); (try rw [PySem.W.Fast.te14722251495701143533]); (try rw [PySem.W.Fast.te10994771534591457954]); (try rw [PySem.W.Fast.te479339242167458305]); (try rw [PySem.W.Fast.te16090120013241838585]); (try rw [PySem.W.Fast.te2386780881361962483]); (try rw [PySem.W.Fast.te11698064438423848299]); (try rw [PySem.W.Fast.te7317090234206586261]); (try rw [PySem.W.Fast.te7369524293546568484]); (try rw [PySem.W.Fast.te821141287760084731]); (try rw [PySem.W.Fast.te3399658132070893891]); (try rw [PySem.W.Fast.te7409074990110511671]); (try rw [PySem.W.Fast.te13664370479719496447]); (try rw [PySem.W.Fast.te5991557255702980513]); (try rw [PySem.W.Fast.te3247288618530077131]); (try rw [PySem.W.Fast.te5923862056798008813]); kernel_rfl))
theorem eC{σ α β:Type}{o:Option σ}{f:σ->α}{g:σ->β}{x:α}{y:β}(a:o.map f=some x)(b:o.map g=some y):o.map (λs=>(f s,g s))=some (x,y):=by
 cases o with
 | none=>cases a
 | some s=>cases a;cases b;rfl
theorem pI{σ α β:Type}{o:Option σ}{f:σ->α}{g:σ->β}{x:α}{y:β}(a:o.map (λs=>(f s,g s))=some (x,y)):o.map f=some x:=by
 cases o with
 | none=>cases a
 | some s=>cases a;rfl
theorem hV{σ α β:Type}{o:Option σ}{f:σ->α}{g:σ->β}{x:α}{y:β}(a:o.map (λs=>(f s,g s))=some (x,y)):o.map g=some y:=by
 cases o with
 | none=>cases a
 | some s=>cases a;rfl
theorem left{α:Type}{Yf:Shared->α}{Ya:World->α}(go:∀(w:World) (os:OsState),(rn w os).map (λs=>(staticsOk (importedModules PySem.Challenge.pw_rowbetween_k32_lets_by.main.body) (boot_heap w.params) s.heap&&namesBound PySem.Challenge.pw_rowbetween_k32_lets_by s.heap&&gensDone s&&laidKept (boot_heap w.params) s.heap,openSeen vw ["OPPOSITES"] (importedModules PySem.Challenge.pw_rowbetween_k32_lets_by.main.body) xt true s,Yf s))=some (true,openGood vw ["OPPOSITES"],Ya w)):LeftO PySem.Challenge.pw_rowbetween_k32_lets_by vw ["OPPOSITES"] xt Yf Ya 5744 true:=λw=>by
 obtain⟨⟨h,gs,d,k,os⟩,e1,e2⟩:=Hn.mp (boot_open (p:=PySem.Challenge.pw_rowbetween_k32_lets_by) (N:=5744) (by kernel_rfl) (by decide) (λs=>rfl) w);obtain⟨rfl,rfl,rfl,rfl⟩:h=boot_heap w.params/\gs=#[]/\d=boot_drawn/\k=boot_toks:=by simpa using e2
 have size:((boot_heap w.params).isNs mainGlobals,(boot_heap w.params).objs.size,(boot_heap w.params).nsMap mainGlobals "__annotations__")=(true,11,some (Value.ref 6)):=by kernel_rfl
 simp only[Prod.mk.injEq] at size;obtain⟨z1,z2,z3⟩:=size;obtain⟨s,r1,r2⟩:=Hn.mp (go w os);simp only[Prod.mk.injEq] at r2;obtain⟨l1,l2,l3⟩:=r2;unfold openEnds;rw[e1];show (topFrom treeTable PySem.Challenge.pw_rowbetween_k32_lets_by w 5744 (st0 w os)).map _=_;have t:topFrom treeTable PySem.Challenge.pw_rowbetween_k32_lets_by w 5744 (st0 w os)=some s:=by
  unfold topFrom;rw[show (st0 w os).heap=boot_heap w.params from rfl,z1,z2,z3];unfold rn at r1;rw[r1];show (match _&&_&&_&&_ with | true=>_ | false=>_)=_;rw[l1]
 rw[t];exact Gs some (Prod.ext (by exact l2) (by exact l3))
def twoRows{α:Type}{Yf:Shared->α}{Ya:World->α}(row:String)(a:∀(w:World) (os:OsState),(rn (w.withFollow row false) os).map (λs=>(staticsOk (importedModules PySem.Challenge.pw_rowbetween_k32_lets_by.main.body) (boot_heap (w.withFollow row false).params) s.heap&&namesBound PySem.Challenge.pw_rowbetween_k32_lets_by s.heap&&gensDone s&&laidKept (boot_heap (w.withFollow row false).params) s.heap,openSeen vw ["OPPOSITES"] (importedModules PySem.Challenge.pw_rowbetween_k32_lets_by.main.body) xt true s,Yf s))=some (true,openGood vw ["OPPOSITES"],Ya (w.withFollow row false)))(b:∀(w:World) (os:OsState),(rn (w.withFollow row true) os).map (λs=>(staticsOk (importedModules PySem.Challenge.pw_rowbetween_k32_lets_by.main.body) (boot_heap (w.withFollow row true).params) s.heap&&namesBound PySem.Challenge.pw_rowbetween_k32_lets_by s.heap&&gensDone s&&laidKept (boot_heap (w.withFollow row true).params) s.heap,openSeen vw ["OPPOSITES"] (importedModules PySem.Challenge.pw_rowbetween_k32_lets_by.main.body) xt true s,Yf s))=some (true,openGood vw ["OPPOSITES"],Ya (w.withFollow row true))):∀(w:World) (os:OsState),(rn w os).map (λs=>(staticsOk (importedModules PySem.Challenge.pw_rowbetween_k32_lets_by.main.body) (boot_heap w.params) s.heap&&namesBound PySem.Challenge.pw_rowbetween_k32_lets_by s.heap&&gensDone s&&laidKept (boot_heap w.params) s.heap,openSeen vw ["OPPOSITES"] (importedModules PySem.Challenge.pw_rowbetween_k32_lets_by.main.body) xt true s,Yf s))=some (true,openGood vw ["OPPOSITES"],Ya w) :=
 byRow2 row (P:=λw=>∀os:OsState,(rn w os).map (λs=>(staticsOk (importedModules PySem.Challenge.pw_rowbetween_k32_lets_by.main.body) (boot_heap w.params) s.heap&&namesBound PySem.Challenge.pw_rowbetween_k32_lets_by s.heap&&gensDone s&&laidKept (boot_heap w.params) s.heap,openSeen vw ["OPPOSITES"] (importedModules PySem.Challenge.pw_rowbetween_k32_lets_by.main.body) xt true s,Yf s))=some (true,openGood vw ["OPPOSITES"],Ya w)) a b
theorem pF(w:World)(os:OsState):(rn (w.withFollow "special-get-raises" false) os).map (λs=>(staticsOk (importedModules PySem.Challenge.pw_rowbetween_k32_lets_by.main.body) (boot_heap (w.withFollow "special-get-raises" false).params) s.heap&&namesBound PySem.Challenge.pw_rowbetween_k32_lets_by s.heap&&gensDone s&&laidKept (boot_heap (w.withFollow "special-get-raises" false).params) s.heap,seen ((recsOf vw).map (·.name)) (ownsOf vw) [] { s with gens:=#[] },s.heap.bltView,s.heap.keysOk (looseW vw ["OPPOSITES"]) ((recsOf vw).map (·.name)) ((litsOf vw).map (·.1)) ((clssOf vw (looseW vw ["OPPOSITES"])).map (·.name))&&s.heap.accountedOkI (importedModules PySem.Challenge.pw_rowbetween_k32_lets_by.main.body)&&s.heap.isNs mainGlobals&&s.heap.isNs builtinsNs&&tablesOk vw s.heap&&xt s&&(if true then s.gens.size==0 else !leftWithCleanup s.gens)))=some ((true),(expectedOf vw),(bltViewBooted),(true)):=by
 (refine eC ?_ (eC ?_ (eC ?_ ?_)));(focus (walk_at "hf"));(focus (walk_at "hf"));(focus (walk_at "hf"));(focus (walk_at "hf"))
def Ah(w:World)(os:OsState):(rn (w.withFollow "special-get-raises" false) os).map (λs=>staticsOk (importedModules PySem.Challenge.pw_rowbetween_k32_lets_by.main.body) (boot_heap (w.withFollow "special-get-raises" false).params) s.heap&&namesBound PySem.Challenge.pw_rowbetween_k32_lets_by s.heap&&gensDone s&&laidKept (boot_heap (w.withFollow "special-get-raises" false).params) s.heap)=some (true):=(pI (pF w os))
def zX(w:World)(os:OsState):(rn (w.withFollow "special-get-raises" false) os).map (λs=>seen ((recsOf vw).map (·.name)) (ownsOf vw) [] { s with gens:=#[] })=some (expectedOf vw):=(pI (hV (pF w os)))
def zA(w:World)(os:OsState):(rn (w.withFollow "special-get-raises" false) os).map (λs=>s.heap.bltView)=some (bltViewBooted):=(pI (hV (hV (pF w os))))
def Aj(w:World)(os:OsState):(rn (w.withFollow "special-get-raises" false) os).map (λs=>s.heap.keysOk (looseW vw ["OPPOSITES"]) ((recsOf vw).map (·.name)) ((litsOf vw).map (·.1)) ((clssOf vw (looseW vw ["OPPOSITES"])).map (·.name))&&s.heap.accountedOkI (importedModules PySem.Challenge.pw_rowbetween_k32_lets_by.main.body)&&s.heap.isNs mainGlobals&&s.heap.isNs builtinsNs&&tablesOk vw s.heap&&xt s&&(if true then s.gens.size==0 else !leftWithCleanup s.gens))=some (true):=(hV (hV (hV (pF w os))))
theorem tV(w:World)(os:OsState):(rn (w.withFollow "special-get-raises" false) os).map (λs=>(tabsOk vw s,pinSeenD vw (drecsOf vw) s,plainSeenE vw (looseW vw ["OPPOSITES"]) s))=some ((true),(pinGoodD (drecsOf vw)),(plainGoodE vw (looseW vw ["OPPOSITES"]))):=by
 (refine eC ?_ (eC ?_ ?_));(focus (walk_at "hf"));(focus (walk_at "hf"));(focus (walk_at "hf"))
def zB(w:World)(os:OsState):(rn (w.withFollow "special-get-raises" false) os).map (λs=>tabsOk vw s)=some (true):=(pI (tV w os))
def yg(w:World)(os:OsState):(rn (w.withFollow "special-get-raises" false) os).map (λs=>pinSeenD vw (drecsOf vw) s)=some (pinGoodD (drecsOf vw)):=(pI (hV (tV w os)))
def xQ(w:World)(os:OsState):(rn (w.withFollow "special-get-raises" false) os).map (λs=>plainSeenE vw (looseW vw ["OPPOSITES"]) s)=some (plainGoodE vw (looseW vw ["OPPOSITES"])):=(hV (hV (tV w os)))
theorem rT(w:World)(os:OsState):(rn (w.withFollow "special-get-raises" false) os).map (λs=>(plainSeenD vw ["OPPOSITES"] s,wideSeen vw s,clsSeenW vw ["OPPOSITES"] s))=some ((plainGoodD vw ["OPPOSITES"]),(wideGood vw),(clsGoodW vw ["OPPOSITES"])):=by
 (refine eC ?_ (eC ?_ ?_));(focus (walk_at "hf"));(focus (walk_at "hf"));(focus (walk_at "hf"))
def zE(w:World)(os:OsState):(rn (w.withFollow "special-get-raises" false) os).map (λs=>plainSeenD vw ["OPPOSITES"] s)=some (plainGoodD vw ["OPPOSITES"]):=(pI (rT w os))
def xI(w:World)(os:OsState):(rn (w.withFollow "special-get-raises" false) os).map (λs=>wideSeen vw s)=some (wideGood vw):=(pI (hV (rT w os)))
def xR(w:World)(os:OsState):(rn (w.withFollow "special-get-raises" false) os).map (λs=>clsSeenW vw ["OPPOSITES"] s)=some (clsGoodW vw ["OPPOSITES"]):=(hV (hV (rT w os)))
def zG(w:World)(os:OsState):(rn (w.withFollow "special-get-raises" false) os).map (λs=>openSeen vw ["OPPOSITES"] (importedModules PySem.Challenge.pw_rowbetween_k32_lets_by.main.body) xt true s)=some (openGood vw ["OPPOSITES"]):=(eC (zX w os) (eC (zA w os) (eC (Aj w os) (eC (zB w os) (eC (yg w os) (eC (xQ w os) (eC (zE w os) (eC (xI w os) (xR w os)))))))))
def all_a{α:Type}{Yf:Shared->α}{Ya:World->α}(h:∀(w:World) (os:OsState),(rn (w.withFollow "special-get-raises" false) os).map (λs=>Yf s)=some (Ya (w.withFollow "special-get-raises" false)))(w:World)(os:OsState) :
  (rn (w.withFollow "special-get-raises" false) os).map (λs=>(staticsOk (importedModules PySem.Challenge.pw_rowbetween_k32_lets_by.main.body) (boot_heap (w.withFollow "special-get-raises" false).params) s.heap&&namesBound PySem.Challenge.pw_rowbetween_k32_lets_by s.heap&&gensDone s&&laidKept (boot_heap (w.withFollow "special-get-raises" false).params) s.heap,openSeen vw ["OPPOSITES"] (importedModules PySem.Challenge.pw_rowbetween_k32_lets_by.main.body) xt true s,Yf s))=some (true,openGood vw ["OPPOSITES"],Ya (w.withFollow "special-get-raises" false)):=eC (Ah w os) (eC (zG w os) (h w os))
theorem qk(w:World)(os:OsState):(rn (w.withFollow "special-get-raises" true) os).map (λs=>(staticsOk (importedModules PySem.Challenge.pw_rowbetween_k32_lets_by.main.body) (boot_heap (w.withFollow "special-get-raises" true).params) s.heap&&namesBound PySem.Challenge.pw_rowbetween_k32_lets_by s.heap&&gensDone s&&laidKept (boot_heap (w.withFollow "special-get-raises" true).params) s.heap,seen ((recsOf vw).map (·.name)) (ownsOf vw) [] { s with gens:=#[] },s.heap.bltView,s.heap.keysOk (looseW vw ["OPPOSITES"]) ((recsOf vw).map (·.name)) ((litsOf vw).map (·.1)) ((clssOf vw (looseW vw ["OPPOSITES"])).map (·.name))&&s.heap.accountedOkI (importedModules PySem.Challenge.pw_rowbetween_k32_lets_by.main.body)&&s.heap.isNs mainGlobals&&s.heap.isNs builtinsNs&&tablesOk vw s.heap&&xt s&&(if true then s.gens.size==0 else !leftWithCleanup s.gens)))=some ((true),(expectedOf vw),(bltViewBooted),(true)):=by
 (refine eC ?_ (eC ?_ (eC ?_ ?_)));(focus (walk_at "hf"));(focus (walk_at "hf"));(focus (walk_at "hf"));(focus (walk_at "hf"))
def yx(w:World)(os:OsState):(rn (w.withFollow "special-get-raises" true) os).map (λs=>staticsOk (importedModules PySem.Challenge.pw_rowbetween_k32_lets_by.main.body) (boot_heap (w.withFollow "special-get-raises" true).params) s.heap&&namesBound PySem.Challenge.pw_rowbetween_k32_lets_by s.heap&&gensDone s&&laidKept (boot_heap (w.withFollow "special-get-raises" true).params) s.heap)=some (true):=(pI (qk w os))
def zZ(w:World)(os:OsState):(rn (w.withFollow "special-get-raises" true) os).map (λs=>seen ((recsOf vw).map (·.name)) (ownsOf vw) [] { s with gens:=#[] })=some (expectedOf vw):=(pI (hV (qk w os)))
def yi(w:World)(os:OsState):(rn (w.withFollow "special-get-raises" true) os).map (λs=>s.heap.bltView)=some (bltViewBooted):=(pI (hV (hV (qk w os))))
def Ag(w:World)(os:OsState):(rn (w.withFollow "special-get-raises" true) os).map (λs=>s.heap.keysOk (looseW vw ["OPPOSITES"]) ((recsOf vw).map (·.name)) ((litsOf vw).map (·.1)) ((clssOf vw (looseW vw ["OPPOSITES"])).map (·.name))&&s.heap.accountedOkI (importedModules PySem.Challenge.pw_rowbetween_k32_lets_by.main.body)&&s.heap.isNs mainGlobals&&s.heap.isNs builtinsNs&&tablesOk vw s.heap&&xt s&&(if true then s.gens.size==0 else !leftWithCleanup s.gens))=some (true):=(hV (hV (hV (qk w os))))
theorem tD(w:World)(os:OsState):(rn (w.withFollow "special-get-raises" true) os).map (λs=>(tabsOk vw s,pinSeenD vw (drecsOf vw) s,plainSeenE vw (looseW vw ["OPPOSITES"]) s))=some ((true),(pinGoodD (drecsOf vw)),(plainGoodE vw (looseW vw ["OPPOSITES"]))):=by
 (refine eC ?_ (eC ?_ ?_));(focus (walk_at "hf"));(focus (walk_at "hf"));(focus (walk_at "hf"))
def zg(w:World)(os:OsState):(rn (w.withFollow "special-get-raises" true) os).map (λs=>tabsOk vw s)=some (true):=(pI (tD w os))
def yh(w:World)(os:OsState):(rn (w.withFollow "special-get-raises" true) os).map (λs=>pinSeenD vw (drecsOf vw) s)=some (pinGoodD (drecsOf vw)):=(pI (hV (tD w os)))
def yZ(w:World)(os:OsState):(rn (w.withFollow "special-get-raises" true) os).map (λs=>plainSeenE vw (looseW vw ["OPPOSITES"]) s)=some (plainGoodE vw (looseW vw ["OPPOSITES"])):=(hV (hV (tD w os)))
theorem rX(w:World)(os:OsState):(rn (w.withFollow "special-get-raises" true) os).map (λs=>(plainSeenD vw ["OPPOSITES"] s,wideSeen vw s,clsSeenW vw ["OPPOSITES"] s))=some ((plainGoodD vw ["OPPOSITES"]),(wideGood vw),(clsGoodW vw ["OPPOSITES"])):=by
 (refine eC ?_ (eC ?_ ?_));(focus (walk_at "hf"));(focus (walk_at "hf"));(focus (walk_at "hf"))
def Ae(w:World)(os:OsState):(rn (w.withFollow "special-get-raises" true) os).map (λs=>plainSeenD vw ["OPPOSITES"] s)=some (plainGoodD vw ["OPPOSITES"]):=(pI (rX w os))
def xO(w:World)(os:OsState):(rn (w.withFollow "special-get-raises" true) os).map (λs=>wideSeen vw s)=some (wideGood vw):=(pI (hV (rX w os)))
def zy(w:World)(os:OsState):(rn (w.withFollow "special-get-raises" true) os).map (λs=>clsSeenW vw ["OPPOSITES"] s)=some (clsGoodW vw ["OPPOSITES"]):=(hV (hV (rX w os)))
def ym(w:World)(os:OsState):(rn (w.withFollow "special-get-raises" true) os).map (λs=>openSeen vw ["OPPOSITES"] (importedModules PySem.Challenge.pw_rowbetween_k32_lets_by.main.body) xt true s)=some (openGood vw ["OPPOSITES"]):=(eC (zZ w os) (eC (yi w os) (eC (Ag w os) (eC (zg w os) (eC (yh w os) (eC (yZ w os) (eC (Ae w os) (eC (xO w os) (zy w os)))))))))
def all_b{α:Type}{Yf:Shared->α}{Ya:World->α}(h:∀(w:World) (os:OsState),(rn (w.withFollow "special-get-raises" true) os).map (λs=>Yf s)=some (Ya (w.withFollow "special-get-raises" true)))(w:World)(os:OsState) :
  (rn (w.withFollow "special-get-raises" true) os).map (λs=>(staticsOk (importedModules PySem.Challenge.pw_rowbetween_k32_lets_by.main.body) (boot_heap (w.withFollow "special-get-raises" true).params) s.heap&&namesBound PySem.Challenge.pw_rowbetween_k32_lets_by s.heap&&gensDone s&&laidKept (boot_heap (w.withFollow "special-get-raises" true).params) s.heap,openSeen vw ["OPPOSITES"] (importedModules PySem.Challenge.pw_rowbetween_k32_lets_by.main.body) xt true s,Yf s))=some (true,openGood vw ["OPPOSITES"],Ya (w.withFollow "special-get-raises" true)):=eC (yx w os) (eC (ym w os) (h w os))
end Hd
structure Hd.Facts(K:PySem.W.Frag):Prop where
 q0:DL.FdK K "common_divisor" Lw.s_common_divisor
 q1:DL.FdK K "made" Lw.s_made
 q2:DL.FdK K "plus" Lw.s_plus
 q3:DL.FdK K "times" Lw.s_times
 q4:DL.FdK K "less" Lw.s_less
 q5:DL.FdK K "is_row" Lw.s_is_row
 q6:DL.FdK K "mark_names" Lw.s_mark_names
 q7:DL.FdK K "names_of" Lw.s_names_of
 q8:DL.FdK K "tops_of" Lw.s_tops_of
 q9:DL.FdK K "top_of_sum" Lw.s_top_of_sum
 q10:DL.FdK K "row_is_so" Lw.s_row_is_so
 q11:DL.FdK K "part_is_so" Lw.s_part_is_so
 q12:DL.FdK K "is_so" Lw.s_is_so
 q13:DL.FdK K "contrary" Lw.s_contrary
 q14:DL.FdK K "plain_part" Lw.s_plain_part
 q15:DL.FdK K "plain" Lw.s_plain
 q16:DL.FdK K "_law_cell" Lw.s__law_cell
 q17:DL.FdK K "put_together" Lw.s_put_together
 q18:DL.FdK K "cases_within" Lw.s_cases_within
 q19:DL.FdK K "cases" Lw.s_cases
 q20:DL.FdK K "added" Lw.s_added
 q21:DL.FdK K "weight_of" Lw.s_weight_of
 q22:DL.FdK K "alone" Lw.s_alone
 q23:DL.FdK K "shortened" Lw.s_shortened
 q24:DL.FdK K "crossed" Lw.s_crossed
 q25:DL.FdK K "without" Lw.s_without
 q26:DL.FdK K "taken_out" Lw.s_taken_out
 q27:DL.FdK K "bound_on" Lw.s_bound_on
 q28:DL.FdK K "tighter" Lw.s_tighter
 q29:DL.FdK K "number_in" Lw.s_number_in
 q30:DL.FdK K "piece_for" Lw.s_piece_for
 q31:DL.FdK K "found_back" Lw.s_found_back
 q32:DL.FdK K "solved" Lw.s_solved
 q33:DL.FdK K "both_so" Lw.s_both_so
 q34:DL.FdK K "_law_whole" Lw.s__law_whole
 q35:DL.FdK K "_law_number" Lw.s__law_number
 q36:DL.FdK K "_law_line" Lw.s__law_line
 q37:DL.FdK K "_law_fence" Lw.s__law_fence
 q38:DL.FdK K "_law_shaped" Lw.s__law_shaped
 q39:DL.FdK K "_law_sayings" Lw.s__law_sayings
 q40:DL.FdK K "_law_cases" Lw.s__law_cases
 q41:DL.FdK K "_law_weights_good" Lw.s__law_weights_good
 q42:DL.FdK K "_law_paper_good" Lw.s__law_paper_good
 q43:DL.FdK K "shows_none" Lw.s_shows_none
 q44:DL.FdK K "lets_by" Lw.s_lets_by
 q45:DL.FdK K "_law_given" Lw.s__law_given
 q46:DL.FdK K "_law_weights_bent" Lw.s__law_weights_bent
 q47:DL.FdK K "_law_bent" Lw.s__law_bent
 q48:DL.FdK K "_law_turned" Lw.s__law_turned
 q49:DL.FdK K "_law_good" Lw.s__law_good
 q50:DL.FdK K "law" Lw.s_law
 z0:PySem.W.nsIn K PySem.mainGlobals "abs"=some none
 z1:PySem.W.nsIn K PySem.mainGlobals "sorted"=some none
 z2:PySem.W.nsIn K PySem.mainGlobals "tuple"=some none
 z3:PySem.W.nsIn K PySem.mainGlobals "len"=some none
 z4:PySem.W.nsIn K PySem.mainGlobals "max"=some none
 z5:PySem.W.nsIn K PySem.mainGlobals "zip"=some none
 z6:PySem.W.nsIn K PySem.mainGlobals "enumerate"=some none
 z7:PySem.W.nsIn K PySem.mainGlobals "range"=some none
 z8:PySem.W.nsIn K PySem.mainGlobals "reversed"=some none
 z9:PySem.W.nsIn K PySem.mainGlobals "dict"=some none
 z10:PySem.W.nsIn K PySem.mainGlobals "isinstance"=some none
 z11:PySem.W.nsIn K PySem.mainGlobals "bool"=some none
 z12:PySem.W.nsIn K PySem.mainGlobals "int"=some none
 z13:PySem.W.nsIn K PySem.mainGlobals "any"=some none
 g_OPPOSITES:∃ga:PySem.Addr,PySem.W.nsIn K PySem.mainGlobals "OPPOSITES"=some (some (.ref ga))/\PyProof.Rows.KTD.tabLook (PyProof.Rows.KTD.datLooks λb=>K.lookup b) (λb=>K.lookup b) ga (DL.txt [("least","more"),("more","least"),("both","either"),("either","both")])=true
 g_MOST_ROWS:∃ga:PySem.Tok,PySem.W.nsIn K PySem.mainGlobals "MOST_ROWS"=some (some (.int 3 ga))
 g_MOST_CASES:∃ga:PySem.Tok,PySem.W.nsIn K PySem.mainGlobals "MOST_CASES"=some (some (.int 4 ga))
 g_ENDLESS:∃(ga:PySem.Addr) (od:Option PySem.Addr) (n:Nat) (sl:Array (Option PySem.Value)),PySem.W.nsIn K PySem.mainGlobals "ENDLESS"=some (some (.ref ga))/\K.lookup ga=some ⟨.type "tuple",od,.seq #[.none,.bool false] n,sl⟩
section
open PySem PySem.W PyProof.Rows
local macro_rules | `(tactic| o_head $H) => `(tactic| (
 refine PySem.W.holds_open (r:=PySem.Challenge.rw_rowbetween_k32_lets_by.row) (q:=Hd.vw) (loose:=["OPPOSITES"]) (Xt:=Hd.xt)
  (XP:=PySem.W.XL Hd.vw []) (Yf:=PySem.W.Hook.obs $H) (Ya:=PySem.W.Hook.val $H) (YP:=PySem.W.Hook.says $H) (N:=5744)
  ?_ (PySem.W.Hook.of $H) (PySem.W.Hook.keeps $H) (λs e=>PySem.W.xl_of s (FE.mp e).1)
  PySem.W.XL.keeps (by rfl) (by rfl) (by rfl) (λs e=>PySem.W.recFacts_of (FE.mp e).2)
  (by rfl) (by first | assumption | decide +kernel) (by decide +kernel) ⟨rfl,rfl,rfl,rfl,rfl,by decide +kernel⟩ ?_ ?_
 (focus (refine Hd.left ?_;refine Hd.twoRows "special-get-raises" (Hd.all_a ?_) (Hd.all_b ?_);(focus (intro w os;unfold Hd.rn Hd.st0;(try rw[PySem.W.Fast.te14082659384304107361]);(try rw[PySem.W.Fast.te14364793385576792824]);(try rw[PySem.W.Fast.te5160383126252970620]);(try rw[PySem.W.Fast.te10880121769531294198]);(try rw[PySem.W.Fast.te14722251495701143533]);(try rw[PySem.W.Fast.te10994771534591457954]);(try rw[PySem.W.Fast.te479339242167458305]);(try rw[PySem.W.Fast.te16090120013241838585]);(try rw[PySem.W.Fast.te2386780881361962483]);(try rw[PySem.W.Fast.te11698064438423848299]);(try rw[PySem.W.Fast.te7317090234206586261]);(try rw[PySem.W.Fast.te7369524293546568484]);(try rw[PySem.W.Fast.te821141287760084731]);(try rw[PySem.W.Fast.te3399658132070893891]);(try rw[PySem.W.Fast.te7409074990110511671]);(try rw[PySem.W.Fast.te13664370479719496447]);(try rw[PySem.W.Fast.te5991557255702980513]);(try rw[PySem.W.Fast.te3247288618530077131]);(try rw[PySem.W.Fast.te5923862056798008813]);kernel_rfl));(focus (intro w os;unfold Hd.rn Hd.st0;(try rw[PySem.W.Fast.te14082659384304107361]);(try rw[PySem.W.Fast.te14364793385576792824]);(try rw[PySem.W.Fast.te5160383126252970620]);(try rw[PySem.W.Fast.te10880121769531294198]);(try rw[PySem.W.Fast.te14722251495701143533]);(try rw[PySem.W.Fast.te10994771534591457954]);(try rw[PySem.W.Fast.te479339242167458305]);(try rw[PySem.W.Fast.te16090120013241838585]);(try rw[PySem.W.Fast.te2386780881361962483]);(try rw[PySem.W.Fast.te11698064438423848299]);(try rw[PySem.W.Fast.te7317090234206586261]);(try rw[PySem.W.Fast.te7369524293546568484]);(try rw[PySem.W.Fast.te821141287760084731]);(try rw[PySem.W.Fast.te3399658132070893891]);(try rw[PySem.W.Fast.te7409074990110511671]);(try rw[PySem.W.Fast.te13664370479719496447]);(try rw[PySem.W.Fast.te5991557255702980513]);(try rw[PySem.W.Fast.te3247288618530077131]);(try rw[PySem.W.Fast.te5923862056798008813]);kernel_rfl))))
 (focus w_witness2)))
set_option maxRecDepth 100000 in
set_option maxHeartbeats 0 in
theorem Hd.half(F:∀(YP:World->Heap->Prop) (d:DefRec) (K:Params->PySem.W.Frag),(∀(w:World) (h:Heap),YP w h->(K w.params).In h)->d.params.defaults=[]->d.name="law"->(∀w:World,Hd.Facts (K w.params))->PySem.W.WalkO Hd.vw ["OPPOSITES"] (PySem.W.XL Hd.vw []) YP PySem.Challenge.rw_rowbetween_k32_lets_by.row.toRowW d [] (λf vs=>PySem.call f vs)):PySem.Challenge.rw_rowbetween_k32_lets_by.Holds:=by
 w_on;refine PySem.W.holds_law Hd.said λsaid=>?_;k_head
 k_fill
 refine F _ _ _ (λw h Y=>PySem.W.kIn_of Y) rfl rfl λw=>?_
 constructor
 iterate 51 (focus (exact⟨⟨_,_,_,_,_,_,_,_,_,_,by k_is,by k_is,by k_is,by k_is⟩⟩))
 ·k_is
 ·k_is
 ·k_is
 ·k_is
 ·k_is
 ·k_is
 ·k_is
 ·k_is
 ·k_is
 ·k_is
 ·k_is
 ·k_is
 ·k_is
 ·k_is
 ·exact⟨_,by k_is,by kernel_rfl⟩
 ·exact⟨_,by k_is⟩
 ·exact⟨_,by k_is⟩
 ·exact⟨_,_,_,_,by k_is,by k_is⟩
end
namespace L2
open PySem PySem.Spec PyProof.Rows
abbrev E3:=Sum Int Str
def oC:E3->Value->Bool
 | .inl k,v=>Value.isInt k v
 | .inr x,v=>Value.isStrOf x v
def keyH(w:World):E3->Int
 | .inl k=>hashInt k
 | .inr x=>hashStr w x
def a6:∀ {k:E3} {v:Value},oC k v=true->(∃i t,k=Sum.inl i/\v=Value.int i t)\/(∃x t,k=Sum.inr x/\v=Value.str x t)
 | .inl i,v,h=>by
  obtain⟨t,e⟩:=Value.isInt_shape (k:=i) (v:=v) h;exact .inl ⟨i,t,rfl,e⟩
 | .inr x,v,h=>by
  obtain⟨t,e⟩:=Value.isStrOf_shape (x:=x) (v:=v) h;exact .inr ⟨x,t,rfl,e⟩
theorem sy(i:Int)(t:Tok):oC (.inl i) (.int i t)=true:=by simp[oC,Value.isInt]
theorem sR(x:Str)(t:Tok):oC (.inr x) (.str x t)=true:=by simp[oC,Value.isStrOf]
theorem Bv(a b:Int):decide ((Sum.inl a:E3)=Sum.inl b)=(a==b):=by
 by_cases e:a=b
 ·subst e;simp
 ·have h:¬ (Sum.inl a:E3)=Sum.inl b:=λq=>e (Sum.inl.inj q)
  rw[FR h];exact(HH.mpr e).symm
theorem AL(a b:Str):decide ((Sum.inr a:E3)=Sum.inr b)=decide (a=b):=by
 by_cases e:a=b
 ·subst e;simp
 ·have h:¬ (Sum.inr a:E3)=Sum.inr b:=λq=>e (Sum.inr.inj q)
  rw[FR h,FR e]
def CL(a:Int)(b:Str):decide ((Sum.inl a:E3)=Sum.inr b)=false:=FR (λq=>nomatch q)
def CV(a:Str)(b:Int):decide ((Sum.inr a:E3)=Sum.inl b)=false:=FR (λq=>nomatch q)
def a5(prog:Program)(w:World):PySem.KeyKind prog w E3 where
 is:=oC
 hash:=keyH w
 inj:=λv a b ha hb=>by
  rcases a6 ha with⟨i,t,rfl,rfl⟩ | ⟨x,t,rfl,rfl⟩
  ·rcases a6 hb with⟨j,u,rfl,e⟩ | ⟨y,u,rfl,e⟩
   ·injection e with e1 _;rw[e1]
   ·exact nomatch e
  ·rcases a6 hb with⟨j,u,rfl,e⟩ | ⟨y,u,rfl,e⟩
   ·exact nomatch e
   ·injection e with e1 _;rw[e1]
 byValue:=λk v h=>by
  rcases a6 h with⟨i,t,rfl,rfl⟩ | ⟨x,t,rfl,rfl⟩<;>rfl
 pyHash:=λhv h=>by
  rcases a6 hv with⟨i,t,rfl,rfl⟩ | ⟨x,t,rfl,rfl⟩
  ·exact wpAny_pyHash_int h
  ·exact wpAny_pyHash_str h
 eqBool:=λhu hv h=>by
  rcases a6 hu with⟨i,t,rfl,rfl⟩ | ⟨x,t,rfl,rfl⟩
  ·rcases a6 hv with⟨j,u,rfl,rfl⟩ | ⟨y,u,rfl,rfl⟩
   ·rw[Bv] at h;exact wpAny_eqBool_int h
   ·rw[CL] at h;exact SeqAt.EqAt.int_str i t y u _ _ _ _ h
  ·rcases a6 hv with⟨j,u,rfl,rfl⟩ | ⟨y,u,rfl,rfl⟩
   ·rw[CV] at h;exact SeqAt.EqAt.str_int x t j u _ _ _ _ h
   ·rw[AL] at h;exact wpAny_eqBool_str h
 «strs»:=λk x t v h=>by
  rcases a6 h with⟨i,u,rfl,e⟩ | ⟨y,u,rfl,e⟩
  ·exact nomatch e
  ·injection e with e1 _
   subst e1
   cases v<;>rfl
def ol(prog:Program)(w:World)(i:Int)(t:Tok):(a5 prog w).is (.inl i) (.int i t)=true:=sy i t
def nQ(prog:Program)(w:World)(x:Str)(t:Tok):(a5 prog w).is (.inr x) (.str x t)=true:=sR x t
end L2
namespace L2
open PySem PySem.Spec PyProof.Rows
variable {a b:Addr} {h:Heap}
inductive V where
 | non | bl (b:Bool) | int (i:Int) | str (x:Str) | byt (b:Array UInt8) | flt (b:UInt64) | ref (a:Addr) | ty (n:String)
 deriving DecidableEq
def bB:V->Value->Prop
 | .non,u=>u=Value.none
 | .bl b,u=>u=Value.bool b
 | .int i,u=>∃t,u=Value.int i t
 | .str x,u=>∃t,u=Value.str x t
 | .byt b,u=>∃t,u=Value.bytes b t
 | .flt b,u=>∃t,u=Value.float b t
 | .ref a,u=>u=Value.ref a
 | .ty n,u=>u=Value.type n
abbrev bH:List V->List Value->Prop:=Paired bB
def bH.length{xs:List V}{us:List Value}(r:bH xs us):xs.length=us.length:=Paired.length r
def bH.get:∀ {xs:List V} {us:List Value} {i:Nat} {x:V},bH xs us->xs[i]?=some x->∃u,us[i]?=some u/\bB x u
 | _,_,_,_,.nil,e=>by simp at e
 | _,_,0,_,.cons r _,e=>by simp at e;subst e;exact⟨_,rfl,r⟩
 | _,_,i+1,x,.cons _ t,e=>by
  obtain⟨u,h1,h2⟩:=bH.get (i:=i) (x:=x) t (by simpa using e);exact⟨u,by simpa using h1,h2⟩
def bH.set{x:V}{u:Value}(r:bB x u):∀ {xs:List V} {us:List Value} (i:Nat),bH xs us->bH (xs.set i x) (us.set i u)
 | _,_,_,.nil=>.nil
 | _,_,0,.cons _ t=>.cons r t
 | _,_,i+1,.cons q t=>.cons q (bH.set r i t)
def bH.append:∀ {xs ys:List V} {us ws:List Value},bH xs us->bH ys ws->bH (xs++ys) (us++ws)
 | _,_,_,_,.nil,s=>s
 | _,_,_,_,.cons r t,s=>.cons r (bH.append t s)
def bH.take:∀ {xs:List V} {us:List Value} (n:Nat),bH xs us->bH (xs.take n) (us.take n)
 | _,_,0,_=>.nil
 | _,_,_+1,.nil=>.nil
 | _,_,n+1,.cons r t=>.cons r (bH.take n t)
def bH.drop:∀ {xs:List V} {us:List Value} (n:Nat),bH xs us->bH (xs.drop n) (us.drop n)
 | _,_,0,r=>r
 | _,_,_+1,.nil=>.nil
 | _,_,n+1,.cons _ t=>bH.drop n t
def qy:Option V->Option Value->Prop
 | some v,some u=>bB v u
 | none,none=>True
 | _,_=>False
def KV{κ:Type}:List (κ×V)->List (κ×Value)->Prop:=Paired λ(p:κ×V) (q:κ×Value)=>p.1=q.1/\bB p.2 q.2
def kV:E3->V
 | .inl i=>.int i
 | .inr x=>.str x
inductive HO where
 | lst (xs:List V)
 | tup (xs:List V)
 | dK (kvs:List (E3×V)) | dT (kvs:List (List E3×V))
 | set (S:Int->Bool) (n:Nat)
 | ins (C dx:Addr) (fs:List (Str×V))
 | own (x:Addr)
 | xd (fs:List (Str×V))
 | met (f x:Addr)
 | rng (lo hi:Int)
 | frz (o:Obj) (u:HO)
 | tbl (ps:Array Value)
 | ext (φ:Heap->Prop)
abbrev Hp:=Addr->Option HO
def EE(H:Hp)(a:Addr)(o:HO):Hp:=λb=>if b=a then some o else H b
theorem aI{H:Hp}{o:HO}:EE H a o a=some o:=by unfold EE;rw[Fs rfl]
theorem aO{H:Hp}{o:HO}(h:b≠a):EE H a o b=H b:=by unfold EE;rw[Fp h]
theorem Eb{H:Hp}{o u:HO}(h:H a=some o)(h':H b=some u)(d:o≠u):a≠b:=by
 intro e;subst e;rw[h] at h';exact d (Fz h')
theorem cJ{H:Hp}{o:HO}(h:H a=some o)(h':H b=none):a≠b:=by
 intro e;subst e;rw[h] at h';cases h'
section
variable (P:Program) (w:World)
def bV(H:Hp)(h:Heap)(a:Addr):HO->Prop
 | .lst xs=>xs.length<=sizeLine/\∃(its:List Value) (n:Nat),bH xs its/\h.get? a=some { cls:=.type "list",data:=.seq its.toArray n }
 | .tup xs=>xs.length<=sizeLine/\∃its:List Value,bH xs its/\IsTup h a its.toArray
 | .dK kvs=>kvs.length<=sizeLine/\(a==sysModules)=false/\∃vs,KV kvs vs/\h.DictOf (a5 P w) a vs
 | .dT kvs=>kvs.length<=sizeLine/\(a==sysModules)=false/\∃xs:List (List E3×Addr×Value),
   Paired (λ(p:List E3×V) (q:List E3×Addr×Value)=>p.1=q.1/\H q.2.1=some (.tup (p.1.map kV))/\bB p.2 q.2.2) kvs xs /\
   ∃o es ep,h.get? a=some o/\o.ExactDict/\o.data=.dict es ep/\es.toList=xs.map (entryOfKey (tupleKind (a5 P w)))/\(xs.map (·.1)).Nodup
 | .set S n=>h.SetOf (intKind P w) a S n
 | .ins C dx fs=>H dx=some (.own a)/\fs.length<=1000/\dx≠a/\h.get? a=some (PySem.W.instObj C dx) /\
   ∃mA,h.Ns1 dx mA/\(∀f,qy (fs.lookup f) (mA f))/\PySem.Within mA (fs.map (·.1))
 | .own _=>∃o,h.get? a=some o
 | .xd fs=>∃mA,h.Ns1 a mA/\∀f,qy (fs.lookup f) (mA f)
 | .rng lo hi=>∃t u v,h.get? a=some { cls:=.type "range",data:=.fields #[.int lo t,.int hi u,.int 1 v] }
 | .frz o u=>h.get? a=some o/\bV H h a u
 | .tbl ps=>h.get? a=some { cls:=.none,data:=.fields ps }
 | .met f x=>h.get? a=some (PySem.W.methodObj (.ref f) (.ref x))
 | .ext φ=>φ h/\(∃o,h.get? a=some o)/\∀h1 h2:Heap,φ h1->(∀o,h1.get? a=some o->h2.get? a=some o)->φ h2
def EX(H:Hp)(h:Heap):Prop:=∀a o,H a=some o->bV P w H h a o
end
section
variable {P:Program} {w:World} {H H':Hp} {h h':Heap} {a:Addr} {o:HO}
theorem bV.lt(x:bV P w H h a o):a<h.objs.size:=by
 cases o with
 | lst xs=>obtain⟨_,_,_,_,e⟩:=x;exact FC e
 | tup xs=>obtain⟨_,_,_,p⟩:=x;exact p.lt
 | dK kvs=>obtain⟨_,_,_,_,o,_,_,e,_⟩:=x;exact FC e
 | dT kvs=>obtain⟨_,_,_,_,o,_,_,e,_⟩:=x;exact FC e
 | set S n=>obtain⟨o,_,_,_,e,_⟩:=x;exact FC e
 | ins C dx fs=>obtain⟨_,_,_,e,_⟩:=x;exact FC e
 | own y=>obtain⟨_,e⟩:=x;exact FC e
 | xd fs=>obtain⟨_,⟨_,_,_,e,_⟩,_⟩:=x;exact FC e
 | rng lo hi=>obtain⟨_,_,_,e⟩:=x;exact FC e
 | frz ob u=>obtain⟨e,_⟩:=x;exact FC e
 | tbl ps=>exact FC (show h.get? a=some _ from x)
 | met f y=>exact FC (show h.get? a=some _ from x)
 | ext φ=>obtain⟨_,⟨_,e⟩,_⟩:=x;exact FC e
def Paired.mapP{α β:Type}{F G:α->β->Prop}:∀ {l₁:List α} {l₂:List β},Paired F l₁ l₂->(∀a b,F a b->G a b)->Paired G l₁ l₂
 | _,_,.nil,_=>.nil
 | _,_,.cons r t,f=>.cons (f _ _ r) (Paired.mapP t f)
theorem bV.stay(x:bV P w H h a o)(k:∀b u,(b=a\/H b=some (.own a))->h.get? b=some u->h'.get? b=some u)
  (ho:∀b,H b=some (.own a)->H' b=some (.own a)) (ht:∀b xs,H b=some (.tup xs)->H' b=some (.tup xs)):bV P w H' h' a o:=by
 induction o with
 | lst xs=>obtain⟨z,its,n,r,e⟩:=x;exact⟨z,its,n,r,k _ _ (.inl rfl) e⟩
 | tup xs=>obtain⟨z,its,r,ob,e,c⟩:=x;exact⟨z,its,r,ob,k _ _ (.inl rfl) e,c⟩
 | dK kvs=>obtain⟨z,y,vs,r,ob,es,ep,e,c⟩:=x;exact⟨z,y,vs,r,ob,es,ep,k _ _ (.inl rfl) e,c⟩
 | dT kvs =>
  obtain⟨z,y,xs,r,ob,es,ep,e,c⟩:=x;exact⟨z,y,xs,Paired.mapP r λp q z=>⟨z.1,ht _ _ z.2.1,z.2.2⟩,ob,es,ep,k _ _ (.inl rfl) e,c⟩
 | set S n=>obtain⟨ob,es,ep,t,e,c⟩:=x;exact⟨ob,es,ep,t,k _ _ (.inl rfl) e,c⟩
 | ins C dx fs =>
  obtain⟨d,z,ne,e,mA,⟨od,es,ep,e2,c⟩,r⟩:=x;exact⟨ho _ d,z,ne,k _ _ (.inl rfl) e,mA,⟨od,es,ep,k _ _ (.inr d) e2,c⟩,r⟩
 | own y=>obtain⟨ob,e⟩:=x;exact⟨ob,k _ _ (.inl rfl) e⟩
 | xd fs=>obtain⟨mA,⟨od,es,ep,e,c⟩,r⟩:=x;exact⟨mA,⟨od,es,ep,k _ _ (.inl rfl) e,c⟩,r⟩
 | rng lo hi=>obtain⟨t,u,v,e⟩:=x;exact⟨t,u,v,k _ _ (.inl rfl) e⟩
 | frz ob u ih=>obtain⟨e,q⟩:=x;exact⟨k _ _ (.inl rfl) e,ih q⟩
 | tbl ps =>
  have e:h.get? a=some { cls:=.none,data:=.fields ps }:=x
  show h'.get? a=some { cls:=.none,data:=.fields ps }
  exact k a _ (.inl rfl) e
 | met f y =>
  have e:h.get? a=some (PySem.W.methodObj (.ref f) (.ref y)):=x
  show h'.get? a=some (PySem.W.methodObj (.ref f) (.ref y))
  exact k a _ (.inl rfl) e
 | ext φ=>obtain⟨p,⟨o,e⟩,st⟩:=x;exact⟨st _ _ p λo q=>k _ _ (.inl rfl) q,⟨o,k _ _ (.inl rfl) e⟩,st⟩
def EX.lt(x:EX P w H h)(e:H a=some o):a<h.objs.size:=(x a o e).lt
theorem EX.fresh(x:EX P w H h)(e:h.objs.size<=a):H a=none:=by
 cases q:H a with
 | none=>rfl
 | some u=>exact absurd (FN (x.lt q) e) (F7 _)
def EX.kept(x:EX P w H h)(k:∀b u,h.get? b=some u->h'.get? b=some u):EX P w H h':=λa o e =>
 (x a o e).stay (λb u _ q=>k b u q) (λ_ q=>q) λ_ _ q=>q
def EX.laid(x:EX P w H h)(k:∀b u,h.get? b=some u->h'.get? b=some u)(hp:h.objs.size<=a)(new:bV P w (EE H a o) h' a o):EX P w (EE H a o) h':=λb u e=>by
 have hn:=x.fresh hp
 by_cases hb:b=a
 ·subst hb;rw[aI] at e;cases e;exact new
 ·rw[aO hb] at e;exact(x b u e).stay (λc v _ q=>k c v q) (λc q=>by rw[aO (cJ q hn)];exact q) λc xs q=>by rw[aO (cJ q hn)];exact q
end
def Rd(H:Hp)(a:Addr)(u:HO):Prop:=H a=some u\/∃o,H a=some (.frz o u)
def Rd.of{H:Hp}{u:HO}(h:H a=some u):Rd H a u:=.inl h
theorem Rd.ok{P:Program}{w:World}{H:Hp}{u:HO}(r:Rd H a u)(x:EX P w H h):bV P w H h a u:=by
 rcases r with r | ⟨o,r⟩
 ·exact x a u r
 ·obtain⟨_,q⟩:=x a _ r;exact q
def Mut:Option HO->Prop
 | some (.lst _)=>True
 | some (.dK _)=>True
 | some (.dT _)=>True
 | some (.set _ _)=>True
 | some (.ins _ _ _)=>True
 | some (.ext _)=>True
 | _=>False
section
variable {P:Program} {w:World} {H:Hp} {h h':Heap} {x e:Addr} {o':HO}
theorem EX.write(ok:EX P w H h)(mu:Mut (H x))(he:e=x\/H e=some (.own x))(k:∀b u,b≠e->h.get? b=some u->h'.get? b=some u)(heo:∃u,h'.get? e=some u)
  (new:bV P w (EE H x o') h' x o'):EX P w (EE H x o') h':=λb u q=>by
 have nown:∀c y,H c=some (.own y)->c≠x:=λc y r z=>by subst z;rw[r] at mu;exact mu
 have ntup:∀c xs,H c=some (.tup xs)->c≠x:=λc xs r z=>by subst z;rw[r] at mu;exact mu
 by_cases hb:b=x
 ·subst hb;rw[aI] at q;cases q;exact new
 ·rw[aO hb] at q
  by_cases hbe:b=e
  ·have q':H b=some (.own x):=by
    rcases he with z | z
    ·exact absurd (hbe.trans z) hb
    ·rw[hbe];exact z
   rw[q] at q';cases q';obtain⟨v,hv⟩:=heo;exact⟨v,by rw[hbe];exact hv⟩
  ·refine(ok b u q).stay (λc v hc r=>k c v ?_ r) (λc r=>by rw[aO (nown c b r)];exact r) λc xs r=>by rw[aO (ntup c xs r)];exact r
   rcases hc with rfl | hc
   ·exact hbe
   ·rintro rfl
    rcases he with z | z
    ·exact nown c b hc z
    ·rw[hc] at z;cases z;exact hb rfl
end
structure Un(fs ex:List Addr)(H H':Hp)(h h':Heap):Prop where
 keep:∀b o,h.get? b=some o->H b=none->b∉fs->b∉ex->h'.get? b=some o
 slot:∀b o,h.get? b=some o->H b=none->b∈fs->b∉ex->∃sl,h'.get? b=some { o with slots:=sl }
 free:∀b o,h.get? b=some o->H b=none->b∉ex->H' b=none
 there:∀b o,h.get? b=some o->b∉ex->∃o',h'.get? b=some o'
 tups:∀b xs,H b=some (.tup xs)->H' b=some (.tup xs)
 frzs:∀b o u,H b=some (.frz o u)->H' b=some (.frz o u)
 tbls:∀b ps,H b=some (.tbl ps)->∃more,H' b=some (.tbl (ps++more))
section
variable {fs fs' ex ex':List Addr} {H H1 H2:Hp} {h h1 h2 h':Heap} {a x e:Addr} {o:HO}
theorem Un.any(u:Un fs ex H H1 h h1){ob:Obj}(q:h.get? b=some ob)(n:H b=none)(hx:b∉ex):∃sl,h1.get? b=some { ob with slots:=sl }:=by
 by_cases hb:b∈fs
 ·exact u.slot b ob q n hb hx
 ·exact⟨ob.slots,u.keep b ob q n hb hx⟩
def Un.trans(a:Un fs ex H H1 h h1)(b:Un fs ex H1 H2 h1 h2):Un fs ex H H2 h h2 where
 keep:=λc ob q n hc hx=>b.keep c ob (a.keep c ob q n hc hx) (a.free c ob q n hx) hc hx
 slot:=λc ob q n hc hx=>by
  obtain⟨sl,e1⟩:=a.slot c ob q n hc hx;obtain⟨sl',e2⟩:=b.slot c _ e1 (a.free c ob q n hx) hc hx;exact⟨sl',e2⟩
 free:=λc ob q n hx=>by
  obtain⟨o',e1⟩:=a.there c ob q hx;exact b.free c o' e1 (a.free c ob q n hx) hx
 there:=λc ob q hx=>by
  obtain⟨o',e1⟩:=a.there c ob q hx;exact b.there c o' e1 hx
 tups:=λc xs q=>b.tups c xs (a.tups c xs q)
 frzs:=λc ob xs q=>b.frzs c ob xs (a.frzs c ob xs q)
 tbls:=λc ps q=>by
  obtain⟨m1,e1⟩:=a.tbls c ps q;obtain⟨m2,e2⟩:=b.tbls c _ e1;exact⟨m1++m2,by rw[e2,Array.append_assoc]⟩
def Un.kept(k:∀b u,h.get? b=some u->h'.get? b=some u):Un fs ex H H h h' :=
 ⟨λb ob q _ _ _=>k b ob q,λb ob q _ _ _=>⟨ob.slots,k b ob q⟩,λ_ _ _ n _=>n,λb ob q _=>⟨ob,k b ob q⟩,λ_ _ q=>q,λ_ _ _ q=>q,λ_ ps q=>⟨#[],by rw[q];simp⟩⟩
def Un.refl:Un fs ex H H h h:=Un.kept λ_ _ q=>q
def Un.laid(k:∀b u,h.get? b=some u->h'.get? b=some u)(hp:h.objs.size<=a)(hn:H a=none):Un fs ex H (EE H a o) h h' where
 keep:=λb u q _ _ _=>k b u q
 slot:=λb u q _ _ _=>⟨u.slots,k b u q⟩
 free:=λb u q n _=>by rw[aO (FV (FN (FC q) hp))];exact n
 there:=λb u q _=>⟨u,k b u q⟩
 tups:=λb xs q=>by rw[aO (cJ q hn)];exact q
 frzs:=λb u xs q=>by rw[aO (cJ q hn)];exact q
 tbls:=λb ps q=>⟨#[],by rw[aO (cJ q hn),q];simp⟩
theorem Un.write(mu:Mut (H x))(he:e=x\/H e=some (.own x))(k:∀b u,b≠e->h.get? b=some u->h'.get? b=some u)(heo:∃u,h'.get? e=some u):Un fs ex H (EE H x o) h h':=by
 have hx:∀b,H b=none->b≠x:=λb n z=>by subst z;rw[n] at mu;exact mu
 have hb:∀b,H b=none->b≠e:=λb n z=>by
  subst z
  rcases he with r | r
  ·exact hx b n r
  ·rw[n] at r;cases r
 have hm:∀b u,H b=some u->¬ Mut (some u)->b≠x:=λb u q nm z=>by subst z;rw[q] at mu;exact nm mu
 refine⟨λb u q n _ _=>k b u (hb b n) q,λb u q n _ _=>⟨u.slots,k b u (hb b n) q⟩,λb u q n _=>by rw[aO (hx b n)];exact n,λb u q _=>?_,
  λb xs q=>by rw[aO (hm b _ q λz=>z)];exact q,λb u xs q=>by rw[aO (hm b _ q λz=>z)];exact q,λb ps q=>⟨#[],by rw[aO (hm b _ q λz=>z),q];simp⟩⟩
 by_cases hbe:b=e
 ·subst hbe;exact heo
 ·exact⟨u,k b u hbe q⟩
def Un.mono(u:Un fs ex H H1 h h1)(hs:∀b∈fs,b∈fs')(hx:∀b∈ex,b∈ex'):Un fs' ex' H H1 h h1 :=
 ⟨λb ob q n hb he=>u.keep b ob q n (λz=>hb (hs b z)) λz=>he (hx b z),λ_ _ q n _ he=>u.any q n λz=>he (hx _ z),λb ob q n he=>u.free b ob q n λz=>he (hx b z),λb ob q he=>u.there b ob q λz=>he (hx b z),u.tups,u.frzs,u.tbls⟩
end
def trk(h:Heap)(H:Hp):List Addr:=(List.range h.objs.size).filter λa=>(H a).isSome
def u7(h:Heap)(H:Hp):Heap:=PySem.W.hideAll h (trk h H)
def rN(h:Heap)(H:Hp):(u7 h H).objs.size=h.objs.size:=PySem.W.hideAll_size _ _
def uK{H:Hp}{o:Obj}(e:h.get? b=some o)(n:H b=none):(u7 h H).get? b=some o :=
 PySem.W.hideAll_get _ e λhm=>by
  have q:(H b).isSome=true:=(Fq.mp hm).2
  rw[n] at q;simp at q
theorem Ai{H:Hp}{o:Obj}(e:(u7 h H).get? b=some o):h.get? b=some o/\H b=none:=by
 have e':h.get? b=some o:=PySem.W.of_hideAll (trk h H) e
 refine⟨e',?_⟩
 cases q:H b with
 | none=>rfl
 | some x =>
  have hm:b∈trk h H:=Fq.mpr ⟨GL.mpr (FC e'),by simp[q]⟩
  have z:(u7 h H).get? b=none:=PySem.W.hideAll_none (trk h H) hm
  rw[z] at e;cases e
def yd(g h:Heap)(L:Addr):List (Addr×Obj):=(List.range h.objs.size).filterMap λa=>if a=L\/(g.get? a).isSome=true then none else (h.get? a).map λo=>(a,o)
def dL(g h:Heap)(L d:Addr):List (Addr×Obj):=(yd g h L).filter λp=>decide (p.1≠d)
end L2
namespace L2
open PySem PySem.Spec PyProof.Rows
variable {t' i:Nat} {ch:List Addr} {x:Str} {M:Model} {A:Around} {E:Value→Shared→Prop}
structure Mod(K:PySem.W.Frag)(mg:Str->Option Value)(base:Heap):Prop where
 kin:K.In base
 glob:base.Ns mainGlobals mg
 blt:∃mb,base.Ns builtinsNs mb/\∀x:Str,x≠"__name__"->mb x=bootBuiltins x
 nolimit:base.NoLimit
structure Cx where
 prog:Program
 w:World
 K:PySem.W.Frag
 mg:Str->Option Value
 base:Heap
 A:Around
 N:List Str
 s₀:Shared
 H₀:Hp
 env:Env
 outer:List Env
 stack:List Env
 ex:List Addr
 fn:Str->Bool
 calm:Bool
 pn:List (Addr×Obj)
 xe:Value->Shared->Prop
def frs(l:List Env):List Addr:=l.filterMap (·.frame)
abbrev Cx.fs(X:Cx):List Addr:=frs X.outer
def Vis(sc:Scope)(x:Str):Prop:=sc.names.lookup x=some .local\/sc.names.lookup x=some .cell\/sc.names.lookup x=some .free
def Loc(sc:Scope)(x:Str):Prop:=sc.names.lookup x=some .local\/sc.names.lookup x=some .cell
def Look(env:Env)(h:Heap)(m:Str->Option Value)(x:Str)(u:Value):Prop :=
 (env.kindOf x=some .local/\m x=some u)\/((env.kindOf x=some .cell\/env.kindOf x=some .free)/\∃c,env.cells.lookup x=some c/\h.IsCell c (some u))
structure Cx.Ok(X:Cx):Prop where
 mod:Mod X.K X.mg X.base
 kind:X.env.scope.kind=.function
 glob:X.env.globals=mainGlobals
 blt:X.env.builtins=builtinsNs
 above:X.s₀.heap.objs.size<=X.env.locals
 inj:∀x y c,X.env.cells.lookup x=some c->X.env.cells.lookup y=some c->x=y
 has:∀x,(X.env.kindOf x=some .cell\/X.env.kindOf x=some .free)->∃c,X.env.cells.lookup x=some c
 cab:∀x c,X.fn x=true->X.env.cells.lookup x=some c->X.s₀.heap.objs.size<=c
 hd:X.calm=true->X.A.handled=none
 frames:X.A.frames=some X.stack
 stk:X.stack=X.outer\/(X.stack=X.env::X.outer/\X.env.frame=some X.env.locals)
 exf:∀b∈X.ex,b≠X.env.locals/\∀x c,X.env.cells.lookup x=some c->c≠b
 bs:∀b o,X.base.get? b=some o->X.s₀.heap.get? b=some o/\X.H₀ b=none
 bsz:X.base.objs.size<=X.s₀.heap.objs.size
 noex:∀b o,X.base.get? b=some o->b∉X.ex
 exfs:∀b∈X.ex,b∉X.fs
 funs:X.s₀.heap.FunFrames X.base X.outer
 frf:∀b∈X.fs,X.H₀ b=none
structure Inv(X:Cx)(pins:List (Addr×Obj))(σ:List (Option V))(H:Hp)(s:Shared):Prop where
 ok:X.Ok
 os:s.os=X.s₀.os
 bare:AllBare s.gens
 base:Un X.fs X.ex X.H₀ H X.s₀.heap s.heap
 loc:∃m,s.heap.Ns X.env.locals m/\∀(i:Nat) (x:Str) (v:V),X.N[i]?=some x->σ[i]?=some (some v)->Vis X.env.scope x->∃u,bB v u/\Look X.env s.heap m x u
 cell:∀x c,X.env.cells.lookup x=some c->∃v,s.heap.IsCell c v
 free:H X.env.locals=none
 freeC:∀x c,X.env.cells.lookup x=some c->H c=none
 pin:∀p∈X.pn++pins,s.heap.get? p.1=some p.2/\H p.1=none/\p.1≠X.env.locals/\p.1∉X.fs/\∀v,p.2.data≠.cell v
 hok:EX X.prog X.w H s.heap
 len:σ.length=X.N.length
section
variable {X:Cx} {pins:List (Addr×Obj)} {σ:List (Option V)} {H H':Hp} {s:Shared} {h':Heap}
def Cx.Ok.nofr(ok:X.Ok){b:Addr}{o:Obj}(e:X.base.get? b=some o):b∉X.fs:=λhb=>by
 have:=(ok.funs.mem hb).1
 rw[e] at this;cases this
def Inv.bs(I:Inv X pins σ H s):∀b o,X.base.get? b=some o->s.heap.get? b=some o/\H b=none:=λb o e =>
 ⟨I.base.keep b o (I.ok.bs b o e).1 (I.ok.bs b o e).2 (I.ok.nofr e) (I.ok.noex b o e),I.base.free b o (I.ok.bs b o e).1 (I.ok.bs b o e).2 (I.ok.noex b o e)⟩
def Inv.bk(I:Inv X pins σ H s):∀b o,X.base.get? b=some o->s.heap.get? b=some o:=λb o e=>(I.bs b o e).1
def Inv.mod(I:Inv X pins σ H s):Mod X.K X.mg X.base:=I.ok.mod
def Inv.kIn(I:Inv X pins σ H s):X.K.In s.heap:=I.ok.mod.kin.keeps I.bk
def Inv.lt(I:Inv X pins σ H s):X.env.locals<s.heap.objs.size:=let ⟨_,hn,_⟩:=I.loc;hn.lt
def Inv.sz(I:Inv X pins σ H s):X.s₀.heap.objs.size<=s.heap.objs.size:=Fa I.ok.above (GS I.lt)
def Inv.nofs(I:Inv X pins σ H s){a:Addr}(h:s.heap.objs.size<=a):a∉X.fs:=λhb=>by
 obtain⟨_,o,ho,_⟩:=I.ok.funs.mem hb;exact absurd (FN (FC ho) (Fa I.sz h)) (F7 _)
def Inv.cne(I:Inv X pins σ H s):∀x c,X.env.cells.lookup x=some c->c≠X.env.locals:=λx c e z=>by
 obtain⟨v,o,ho,hd⟩:=I.cell x c e;obtain⟨m,⟨o',es,ep,ho',hd',_⟩,_⟩:=I.loc;rw[z,ho'] at ho;cases ho;rw[hd'] at hd;cases hd
theorem Inv.funs(I:Inv X pins σ H s):s.heap.FunFrames X.base X.outer:=by
 have all:∀(l:List Env),(∀b∈frs l,b∈X.fs)->X.s₀.heap.FunFrames X.base l->s.heap.FunFrames X.base l:=by
  intro l
  induction l with
  | nil=>intro _ _;trivial
  | cons env r ih =>
   intro hs hl;obtain⟨hk,⟨L,o,hf,hn,ho,hd⟩,hr⟩:=hl;have hL:L∈X.fs:=hs L (by unfold frs;rw[F8,hf];exact Fe);obtain⟨sl,e⟩:=I.base.slot L o ho (I.ok.frf L hL) hL λz=>I.ok.exfs L z hL;exact⟨hk,⟨L,_,hf,hn,e,hd⟩,ih (λb hb=>hs b (by unfold frs;rw[F8,hf];exact E9 _ hb)) hr⟩
 exact all X.outer (λ_ hb=>hb) I.ok.funs
theorem Inv.stack(I:Inv X pins σ H s):s.heap.FunFrames X.base X.stack:=by
 rcases I.ok.stk with e | ⟨e,hf⟩
 ·rw[e];exact I.funs
 ·rw[e];obtain⟨m,hn,_⟩:=I.loc;refine .cons (by rw[I.ok.kind];decide) hf hn ?_ I.funs;exact Heap.get?_none_of_le (Fa I.ok.bsz I.ok.above)
def Inv.stkSub(I:Inv X pins σ H s):∀b∈frs X.stack,b∈X.env.locals::X.fs:=λb hb=>by
 rcases I.ok.stk with e | ⟨e,hf⟩
 ·rw[e] at hb;exact E9 _ hb
 ·rw[e] at hb;unfold frs at hb;rw[F8,hf] at hb;exact hb
def Inv.stkFree(I:Inv X pins σ H s):∀b∈frs X.stack,H b=none:=λb hb=>by
 rcases Fj.mp (I.stkSub b hb) with e | hb
 ·rw[e];exact I.free
 ·obtain⟨_,o,ho,_⟩:=I.ok.funs.mem hb;exact I.base.free b o ho (I.ok.frf b hb) λz=>I.ok.exfs b z hb
theorem Inv.step{g':Array GenState}{d':Drawn}(I:Inv X pins σ H s)
  (hch:∀b∈ch,(b∈X.ex\/X.s₀.heap.objs.size<=b)/\b≠X.env.locals/\(∀x c,X.env.cells.lookup x=some c->c≠b)/\∀p∈X.pn++pins,p.1≠b)
  (keep:∀b o,b≠X.env.locals->b∉X.fs->b∉ch->s.heap.get? b=some o->H b=none->h'.get? b=some o)
  (slot:∀b o,b≠X.env.locals->b∈X.fs->b∉ch->s.heap.get? b=some o->H b=none->∃sl,h'.get? b=some { o with slots:=sl }) (free:∀b o,b∉ch->s.heap.get? b=some o->H b=none->H' b=none)
  (there:∀b o,b∉ch->s.heap.get? b=some o->∃o',h'.get? b=some o')
  (tups:∀b xs,H b=some (.tup xs)->H' b=some (.tup xs)) (frzs:∀b o u,H b=some (.frz o u)->H' b=some (.frz o u)) (tbls:∀b ps,H b=some (.tbl ps)->∃more,H' b=some (.tbl (ps++more)))
  (ns:∀m,s.heap.Ns X.env.locals m->h'.Ns X.env.locals m) (hok:EX X.prog X.w H' h') (hg:AllBare g') :
  Inv X pins σ H' { s with heap:=h',gens:=g',drawn:=d',toks:=t' }:=by
 have neL:∀b o,X.s₀.heap.get? b=some o->b≠X.env.locals:=λb o e=>FV (FN (FC e) I.ok.above)
 have neC:∀b o,X.s₀.heap.get? b=some o->b∉X.ex->b∉ch:=λb o e hx hb=>by
  rcases(hch b hb).1 with z | z
  ·exact hx z
  ·exact absurd (FN (FC e) z) (F7 _)
 have cellK:∀x c,X.env.cells.lookup x=some c->∀v,s.heap.IsCell c v->h'.IsCell c v:=λx c e v ⟨o,ho,hd⟩=>by
  have nch:c∉ch:=λz=>(hch c z).2.2.1 x c e rfl
  by_cases hc:c∈X.fs
  ·obtain⟨sl,q⟩:=slot c o (I.cne x c e) hc nch ho (I.freeC x c e);exact⟨_,q,hd⟩
  ·exact⟨o,keep c o (I.cne x c e) hc nch ho (I.freeC x c e),hd⟩
 refine⟨I.ok,I.os,hg,⟨λb o e n hb hx=>?_,λb o e n hb hx=>?_,λb o e n hx=>?_,λb o e hx=>?_,λb xs e=>tups b xs (I.base.tups b xs e),λb o xs e=>frzs b o xs (I.base.frzs b o xs e),λb ps e=>?_⟩,?_,λx c e=>?_,?_,λx c e=>?_,λp hp=>?_,hok,I.len⟩
 ·exact keep b o (neL b o e) hb (neC b o e hx) (I.base.keep b o e n hb hx) (I.base.free b o e n hx)
 ·obtain⟨sl,e1⟩:=I.base.slot b o e n hb hx;obtain⟨sl',e2⟩:=slot b _ (neL b o e) hb (neC b o e hx) e1 (I.base.free b o e n hx);exact⟨sl',e2⟩
 ·obtain⟨o',e1⟩:=I.base.there b o e hx;exact free b o' (neC b o e hx) e1 (I.base.free b o e n hx)
 ·obtain⟨o',e1⟩:=I.base.there b o e hx;exact there b o' (neC b o e hx) e1
 ·obtain⟨m1,e1⟩:=I.base.tbls b ps e;obtain⟨m2,e2⟩:=tbls b _ e1;exact⟨m1++m2,by rw[e2,Array.append_assoc]⟩
 ·obtain⟨m,hn,hl⟩:=I.loc;refine⟨m,ns m hn,λi x v e1 e2 e3=>?_⟩;obtain⟨u,r,l⟩:=hl i x v e1 e2 e3;refine⟨u,r,?_⟩
  rcases l with l | ⟨k,c,e,z⟩
  ·exact .inl l
  ·exact .inr ⟨k,c,e,cellK x c e _ z⟩
 ·obtain⟨v,z⟩:=I.cell x c e;exact⟨v,cellK x c e v z⟩
 ·obtain⟨m,⟨o,_,_,ho,_⟩,_⟩:=I.loc;exact free _ o (λz=>(hch _ z).2.1 rfl) ho I.free
 ·obtain⟨v,o,ho,hd⟩:=I.cell x c e;exact free c o (λz=>(hch c z).2.2.1 x c e rfl) ho (I.freeC x c e)
 ·obtain⟨e,n,ne,nf,d⟩:=I.pin p hp;have nch:p.1∉ch:=λz=>(hch p.1 z).2.2.2 p hp rfl;exact⟨keep p.1 p.2 ne nf nch e n,free p.1 p.2 nch e n,ne,nf,d⟩
theorem Inv.un(I:Inv X pins σ H s)(u:Un X.fs [] H H' s.heap h')(hok:EX X.prog X.w H' h'):Inv X pins σ H' { s with heap:=h',toks:=t' }:=by
 obtain⟨m,⟨o,es,ep,ho,r⟩,_⟩:=id I.loc;obtain⟨sl,hL⟩:=u.any ho I.free (by simp)
 exact I.step (g':=s.gens) (d':=s.drawn) (ch:=[]) (λ_ z=>nomatch z) (λb o _ hb _ e n=>u.keep b o e n hb (by simp)) (λb o _ hb _ e n=>u.slot b o e n hb (by simp)) (λb o _ e n=>u.free b o e n (by simp)) (λb o _ e=>u.there b o e (by simp)) u.tups u.frzs u.tbls (λm' hm=>by
  obtain⟨o',es',ep',ho',r'⟩:=hm;rw[ho] at ho';cases ho'
  exact⟨_,es',ep',hL,r'⟩) hok I.bare
theorem Inv.call{g':Array GenState}{d':Drawn}(I:Inv X pins σ H s)(u:Un (frs X.stack) ch H H' s.heap h')(hok:EX X.prog X.w H' h')(hg:AllBare g')
  (hch:∀b∈ch,(b∈X.ex\/X.s₀.heap.objs.size<=b)/\b≠X.env.locals/\(∀x c,X.env.cells.lookup x=some c->c≠b)/\∀p∈X.pn++pins,p.1≠b) :
  Inv X pins σ H' { s with heap:=h',gens:=g',drawn:=d',toks:=t' }:=by
 obtain⟨m,⟨o,es,ep,ho,r⟩,_⟩:=id I.loc;obtain⟨sl,hL⟩:=u.any ho I.free λz=>(hch _ z).2.1 rfl
 exact I.step (ch:=ch) hch (λb o hL hb hc e n=>u.keep b o e n (λz=>(Fj.mp (I.stkSub b z)).elim hL hb) hc) (λb o _ _ hc e n=>u.any e n hc) (λb o hc e n=>u.free b o e n hc) (λb o hc e=>u.there b o e hc) u.tups u.frzs u.tbls (λm' hm=>by
  obtain⟨o',es',ep',ho',r'⟩:=hm;rw[ho] at ho';cases ho'
  exact⟨_,es',ep',hL,r'⟩) hok hg
theorem Inv.turned{it:Addr}(I:Inv X pins σ H s)(k:∀b o,b≠it->s.heap.get? b=some o->h'.get? b=some o)(hn:H it=none)(hL:it≠X.env.locals)
  (h1:it∈X.ex\/X.s₀.heap.objs.size<=it) (h2:∀x c,X.env.cells.lookup x=some c->c≠it) (h3:∀p∈X.pn++pins,p.1≠it):Inv X pins σ H { s with heap:=h',toks:=t' }:=by
 have nit:∀b u,H b=some u->b≠it:=λb u e z=>by rw[z,hn] at e;cases e
 refine I.step (g':=s.gens) (d':=s.drawn) (ch:=[it]) (λb hb=>?_) (λb o _ _ hc e _=>k b o (λz=>hc (by simp[z])) e) (λb o _ _ hc e _=>⟨o.slots,k b o (λz=>hc (by simp[z])) e⟩) (λ_ _ _ _ n=>n)
  (λb o hc e=>⟨o,k b o (λz=>hc (by simp[z])) e⟩) (λ_ _ e=>e) (λ_ _ _ e=>e) (λb ps e=>⟨#[],by rw[e];simp⟩) (λm hm=>?_) (λb u e=>?_) I.bare
 ·have e:b=it:=by simpa using hb
  subst e;exact⟨h1,hL,h2,h3⟩
 ·obtain⟨o,es,ep,ho,r⟩:=hm;exact⟨o,es,ep,k _ o (Ne.symm hL) ho,r⟩
 ·refine(I.hok b u e).stay (λc v hc q=>k c v ?_ q) (λ_ q=>q) λ_ _ q=>q
  rcases hc with z | z
  ·rw[z];exact nit b u e
  ·exact nit c _ z
def Inv.tok(I:Inv X pins σ H s)(t:Nat):Inv X pins σ H { s with toks:=t }:=I.un (h':=s.heap) (t':=t) Un.refl I.hok
def Inv.kept(I:Inv X pins σ H s)(k:∀b u,s.heap.get? b=some u->h'.get? b=some u):Inv X pins σ H { s with heap:=h',toks:=t' }:=I.un (Un.kept k) (I.hok.kept k)
def Inv.laid{a:Addr}{o:HO}(I:Inv X pins σ H s)(k:∀b u,s.heap.get? b=some u->h'.get? b=some u)(hp:s.heap.objs.size<=a)(new:bV X.prog X.w (EE H a o) h' a o) :
  Inv X pins σ (EE H a o) { s with heap:=h',toks:=t' }:=I.un (Un.laid k hp (I.hok.fresh hp)) (I.hok.laid k hp new)
def Inv.write{x e:Addr}{o:HO}(I:Inv X pins σ H s)(mu:Mut (H x))(he:e=x\/H e=some (.own x))(k:∀b u,b≠e->s.heap.get? b=some u->h'.get? b=some u)(heo:∃u,h'.get? e=some u)
  (new:bV X.prog X.w (EE H x o) h' x o):Inv X pins σ (EE H x o) { s with heap:=h',toks:=t' }:=I.un (Un.write mu he k heo) (I.hok.write mu he k heo new)
def Inv.pins_of{pins':List (Addr×Obj)}(I:Inv X pins σ H s)(h:∀p∈pins',s.heap.get? p.1=some p.2/\H p.1=none/\p.1≠X.env.locals/\p.1∉X.fs/\∀v,p.2.data≠.cell v):Inv X pins' σ H s :=
 ⟨I.ok,I.os,I.bare,I.base,I.loc,I.cell,I.free,I.freeC,λp hp=>(Fk.mp hp).elim (λz=>I.pin p (Fx _ z)) (h p),I.hok,I.len⟩
theorem oH{N:List Str}(hN:N.Nodup){j:Nat}(a:N[i]?=some x)(b:N[j]?=some x):i=j:=by
 obtain⟨h1,e1⟩:=List.getElem?_eq_some_iff.mp a;obtain⟨h2,e2⟩:=List.getElem?_eq_some_iff.mp b;exact(List.getElem_inj hN).mp (e1.trans e2.symm)
theorem lS{v:V}{u:Value}{Q:Unit->Shared->Prop}(I:Inv X pins σ H s)(hN:X.N.Nodup)(hi:X.N[i]?=some x)(hx:Loc X.env.scope x)(r:bB v u)
  (h:∀s',Inv X pins (σ.set i (some v)) H s'->(∃a,Heap.SameBut a s.heap s'.heap/\(a=X.env.locals\/X.env.cells.lookup x=some a))->Q () s') (hf:X.fn x=true\/X.env.scope.names.lookup x=some .local :=by walk_at "v1"):wpAny M A (storeName X.env x u) Q E s:=by
 obtain⟨m,hn,hl⟩:=id I.loc;have hcls:(X.env.scope.kind == .class||(X.env.scope.kind == .module&&X.env.locals != X.env.globals))=false:=by rw[I.ok.kind];rfl
 have hiσ:i<σ.length:=by rw[I.len];exact(List.getElem?_eq_some_iff.mp hi).1
 have cne:=I.cne
 have tracked:∀ {a:Addr} {h':Heap},(∃o,s.heap.get? a=some o/\H a=none)->Heap.SameBut a s.heap h'->EX X.prog X.w H h':=λ{a h'} ha hs b ob e=>by
  obtain⟨_,_,hfree⟩:=ha;refine(I.hok b ob e).stay (λc w' hc q=>(hs.2 c ?_).trans q) (λ_ q=>q) λ_ _ q=>q;rintro rfl
  rcases hc with rfl | hc
  ·rw[hfree] at e;cases e
  ·rw[hfree] at hc;cases hc
 rcases hx with hk | hk
 ·refine wpAny_storeName_local hk hn (λh' hn' hs=>?_) hcls;obtain⟨oL,_,_,hoL,_⟩:=id hn;refine h _ ⟨I.ok,I.os,I.bare,⟨λb o e n hb hx=>?_,λb o e n hb hx=>?_,I.base.free,λb o e hx=>?_,I.base.tups,I.base.frzs,I.base.tbls⟩,⟨_,hn',λj y v' e1 e2 e3=>?_⟩,λy c e=>?_,I.free,I.freeC,λp hp=>?_,tracked ⟨oL,hoL,I.free⟩ hs,by simpa using I.len⟩ ⟨_,hs,.inl rfl⟩
  ·exact(hs.2 b (FV (FN (FC e) I.ok.above))).trans (I.base.keep b o e n hb hx)
  ·obtain⟨sl,e1⟩:=I.base.slot b o e n hb hx;exact⟨sl,(hs.2 b (FV (FN (FC e) I.ok.above))).trans e1⟩
  ·obtain⟨o',e1⟩:=I.base.there b o e hx;exact⟨o',(hs.2 b (FV (FN (FC e) I.ok.above))).trans e1⟩
  ·by_cases hj:j=i
   ·subst hj;rw[hi] at e1;cases e1;rw[List.getElem?_set_self hiσ] at e2
    cases e2
    exact⟨u,r,.inl ⟨hk,by simp⟩⟩
   ·rw[List.getElem?_set_ne (Ne.symm hj)] at e2;obtain⟨u',r',q⟩:=hl j y v' e1 e2 e3;refine⟨u',r',?_⟩
    rcases q with⟨k,e⟩ | ⟨k,c,e,z⟩
    ·refine .inl ⟨k,?_⟩;have:y≠x:=λe=>hj (oH hN e1 (e ▸ hi));simp[this,e]
    ·exact .inr ⟨k,c,e,z.sameBut hs (cne y c e)⟩
  ·obtain⟨w',z⟩:=I.cell y c e;exact⟨w',z.sameBut hs (cne y c e)⟩
  ·obtain⟨e,n,ne,nf,d⟩:=I.pin p hp;exact⟨(hs.2 p.1 ne).trans e,n,ne,nf,d⟩
 ·have hfn:X.fn x=true:=by
   rcases hf with z | z
   ·exact z
   ·rw[z] at hk;cases hk
  obtain⟨c,hc⟩:=I.ok.has x (.inl hk);obtain⟨w',z⟩:=I.cell x c hc;refine wpAny_storeName_cell I.ok.kind hk hc z (λh' hc' hs=>?_);obtain⟨oc,hoc,hocd⟩:=id z;refine h { s with heap:=h' } ⟨I.ok,I.os,I.bare,⟨λb o e n hb hx=>?_,λb o e n hb hx=>?_,I.base.free,λb o e hx=>?_,I.base.tups,I.base.frzs,I.base.tbls⟩,⟨m,hn.sameBut hs (Ne.symm (cne x c hc)),λj y v' e1 e2 e3=>?_⟩,λy c' e=>?_,I.free,I.freeC,λp hp=>?_,tracked ⟨oc,hoc,I.freeC x c hc⟩ hs,by simpa using I.len⟩ ⟨c,hs,.inr hc⟩
  ·exact(hs.2 b (FV (FN (FC e) (I.ok.cab x c hfn hc)))).trans (I.base.keep b o e n hb hx)
  ·obtain⟨sl,e1⟩:=I.base.slot b o e n hb hx;exact⟨sl,(hs.2 b (FV (FN (FC e) (I.ok.cab x c hfn hc)))).trans e1⟩
  ·obtain⟨o',e1⟩:=I.base.there b o e hx;exact⟨o',(hs.2 b (FV (FN (FC e) (I.ok.cab x c hfn hc)))).trans e1⟩
  ·by_cases hj:j=i
   ·subst hj;rw[hi] at e1;cases e1;rw[List.getElem?_set_self hiσ] at e2
    cases e2
    exact⟨u,r,.inr ⟨.inl hk,c,hc,hc'⟩⟩
   ·rw[List.getElem?_set_ne (Ne.symm hj)] at e2;obtain⟨u',r',q⟩:=hl j y v' e1 e2 e3;refine⟨u',r',?_⟩
    rcases q with q | ⟨k,c',e,z'⟩
    ·exact .inl q
    ·refine .inr ⟨k,c',e,z'.sameBut hs ?_⟩;rintro rfl;exact hj (oH hN e1 (I.ok.inj _ _ _ e hc ▸ hi))
  ·by_cases hcc:c'=c
   ·subst hcc;exact⟨_,hc'⟩
   ·obtain⟨w2,z2⟩:=I.cell y c' e;exact⟨w2,z2.sameBut hs hcc⟩
  ·obtain⟨e,n,ne,nf,d⟩:=I.pin p hp;refine⟨(hs.2 p.1 ?_).trans e,n,ne,nf,d⟩;intro q;rw[q,hoc] at e;have q':oc=p.2:=Fz e;exact d w' (by rw[<- q'];exact hocd)
theorem oF{v:V}{u:Value}{Q:Unit->Shared->Prop}(I:Inv X pins σ H s)(hN:X.N.Nodup)(hi:X.N[i]?=some x)(hx:Loc X.env.scope x)(r:bB v u)
  (h:∀s',Inv X pins (σ.set i (some v)) H s'->Q () s') (hf:X.fn x=true\/X.env.scope.names.lookup x=some .local :=by walk_at "v1"):wpAny M A (storeName X.env x u) Q E s :=
 lS I hN hi hx r (λs' I' _=>h s' I') hf
theorem Inv.call'{s':Shared}(I:Inv X pins σ H s)(ho:s'.os=s.os)(u:Un (frs X.stack) ch H H' s.heap s'.heap)(hok:EX X.prog X.w H' s'.heap)(hg:AllBare s'.gens)
  (hch:∀b∈ch,(b∈X.ex\/X.s₀.heap.objs.size<=b)/\b≠X.env.locals/\(∀x c,X.env.cells.lookup x=some c->c≠b)/\∀p∈X.pn++pins,p.1≠b):Inv X pins σ H' s':=by
 obtain⟨h',g',d',t',o'⟩:=s';have e:o'=s.os:=ho;subst e;exact I.call (g':=g') (t':=t') (d':=d') u hok hg hch
end
abbrev XK:=Value->Option Addr->Hp->Prop
abbrev St:=List (Option V)
abbrev VK:=V->Hp->Prop
abbrev TE:=St->Hp->VK->Prop
abbrev TT:=St->Hp->(Bool->Hp->Prop)->Prop
abbrev TA:=St->Hp->(List V->Hp->Prop)->Prop
structure xY where
 nx:St->Hp->Prop
 rt:VK
 bk:St->Hp->Prop:=λ_ _=>False
 ct:St->Hp->Prop:=λ_ _=>False
abbrev TS:=xY->St->Hp->Prop
def EP(X:Cx)(pins:List (Addr×Obj))(σ:St)(Q:VK)(u:Value)(s':Shared):Prop:=∃v H',Inv X pins σ H' s'/\bB v u/\Q v H'
def TP(X:Cx)(pins:List (Addr×Obj))(σ:St)(Q:Bool->Hp->Prop)(b:Bool)(s':Shared):Prop:=∃H',Inv X pins σ H' s'/\Q b H'
def AP(X:Cx)(pins:List (Addr×Obj))(σ:St)(Q:List V->Hp->Prop)(us:List Value)(s':Shared):Prop:=∃vs H',Inv X pins σ H' s'/\bH vs us/\Q vs H'
def SP(X:Cx)(pins:List (Addr×Obj))(D:xY)(f:Flow)(s':Shared):Prop :=
 match f with
 | .next=>∃σ' H',Inv X pins σ' H' s'/\D.nx σ' H'
 | .brk=>∃σ' H',Inv X pins σ' H' s'/\D.bk σ' H'
 | .cont=>∃σ' H',Inv X pins σ' H' s'/\D.ct σ' H'
 | .ret u=>∃v σ' H',Inv X pins σ' H' s'/\bB v u/\D.rt v H'
def PE(X:Cx)(e:Expr)(t:TE):Prop :=
 ∀(pins:List (Addr×Obj)) (s:Shared) (σ:St) (H:Hp) (Q:VK),Inv X pins σ H s->t σ H Q->wpAny (model X.prog X.w) X.A (eval e X.env) (EP X pins σ Q) X.xe s
def PT(X:Cx)(e:Expr)(t:TT):Prop :=
 ∀(pins:List (Addr×Obj)) (s:Shared) (σ:St) (H:Hp) (Q:Bool->Hp->Prop),Inv X pins σ H s->t σ H Q->wpAny (model X.prog X.w) X.A (isTrue e X.env (eval e X.env)) (TP X pins σ Q) X.xe s
def PW(X:Cx)(e:Expr)(t:TT):Prop :=
 ∀(whole:Sem Value) (pins:List (Addr×Obj)) (s:Shared) (σ:St) (H:Hp) (Q:Bool->Hp->Prop),Inv X pins σ H s->t σ H Q->wpAny (model X.prog X.w) X.A (isTrue e X.env whole) (TP X pins σ Q) X.xe s
def PW.pt{X:Cx}{e:Expr}{t:TT}(h:PW X e t):PT X e t:=h _
def PA(X:Cx)(es:List Expr)(t:TA):Prop :=
 ∀(pos:Pos) (pins:List (Addr×Obj)) (s:Shared) (σ:St) (H:Hp) (Q:List V->Hp->Prop),Inv X pins σ H s->t σ H Q->wpAny (model X.prog X.w) X.A (spliced (backTo pos (starEach es X.env))) (AP X pins σ Q) X.xe s
def PS(X:Cx)(st:Stmt)(t:TS):Prop :=
 ∀(pins:List (Addr×Obj)) (s:Shared) (σ:St) (H:Hp) (D:xY),Inv X pins σ H s->t D σ H->wpAny (model X.prog X.w) X.A (exec st X.env) (SP X pins D) X.xe s
def PSs(X:Cx)(st:List Stmt)(t:TS):Prop :=
 ∀(pins:List (Addr×Obj)) (s:Shared) (σ:St) (H:Hp) (D:xY),Inv X pins σ H s->t D σ H->wpAny (model X.prog X.w) X.A (execs st X.env) (SP X pins D) X.xe s
def ER{α:Type}{t:Sem α}{Q Q':α->Shared->Prop}{s:Shared}(h:wpAny M A t Q E s)(hQ:∀a s,Q a s->Q' a s):wpAny M A t Q' E s:=Gp h hQ λ_ _ x=>x
end L2
namespace L2
open PySem PySem.Spec PyProof.Rows
variable {pins:List (Addr×Obj)} {s:Shared} {σ:St} {H:Hp} {x:Str} {pos:Pos} {u:Value} {t:TE}
section
variable {X:Cx}
theorem bin{a b:Expr}{ta tb:TE}(ha:PE X a ta)(hb:PE X b tb){R:V->V->Hp->Prop}(I:Inv X pins σ H s)(h:ta σ H λx H1=>tb σ H1 λy H2=>R x y H2)
  {α:Type} {Q:α->Shared->Prop} {f:Value->Value->Sem α}
  (hf:∀v u s2 x y H2,Inv X pins σ H2 s2->bB x v->bB y u->R x y H2->wpAny (model X.prog X.w) X.A (f v u) Q X.xe s2) :
  wpAny (model X.prog X.w) X.A (eval a X.env) (λv s₁=>wpAny (model X.prog X.w) X.A (eval b X.env) (λu s₂=>wpAny (model X.prog X.w) X.A (f v u) Q X.xe s₂) X.xe s₁) X.xe s:=by
 refine ER (ha pins s σ H _ I h) λv s1 ⟨x,H1,I1,r1,q1⟩=>?_;refine ER (hb pins s1 σ H1 _ I1 q1) λu s2 ⟨y,H2,I2,r2,q2⟩=>?_;exact hf v u s2 x y H2 I2 r1 r2 q2
def tVar(i:Nat):TE:=λσ H Q=>∃v,σ[i]?=some (some v)/\Q v H
def tC(v:V):TE:=λ_ H Q=>Q v H
theorem d9{i:Nat}(hN:X.N[i]?=some x)(hv:Vis X.env.scope x)(hd:(x==("__debug__":Str))=false:=by decide)(hcd:(x==("__classdict__":Str))=false:=by decide):PE X (.Name x pos) (tVar i):=by
 intro pins s σ H Q I h;obtain⟨v,e,h⟩:=h;obtain⟨m,hn,hl⟩:=I.loc;obtain⟨u,r,l⟩:=hl i x v hN e hv;have fin:EP X pins σ Q u s:=⟨v,H,I,r,h⟩
 rcases l with⟨hk,hm⟩ | ⟨hk,c,hc,hcell⟩
 ·exact wpAny_Name (wpAny_loadName_local I.ok.kind hk hn hm fin) hd
 ·rcases hk with hk | hk
  ·exact wpAny_Name (wpAny_loadName_cell I.ok.kind hk hc hcell fin) hd
  ·exact wpAny_Name (wpAny_loadName_free I.ok.kind hk hc hcell fin hcd) hd
def wK{i j pos}:PE X (.Constant (.int i) j pos) (tC (.int i)):=λ_ _ _ H _ I h=>wpAny_Constant_int ⟨.int i,H,I.tok _,⟨_,rfl⟩,h⟩
def Ef{b j pos}:PE X (.Constant (.bool b) j pos) (tC (.bl b)):=λ_ _ _ H _ I h=>Constant_bool ⟨.bl b,H,I,rfl,h⟩
def AI{j pos}:PE X (.Constant .none j pos) (tC .non):=λ_ _ _ H _ I h=>Constant_none ⟨.non,H,I,rfl,h⟩
def uB{x j pos}:PE X (.Constant (.str x) j pos) (tC (.str x)):=λ_ _ _ H _ I h=>Calls.Constant_str ⟨.str x,H,I.tok _,⟨_,rfl⟩,h⟩
def Gl(X:Cx)(x:Str):Prop:=X.env.kindOf x=some .globalImplicit
theorem tX{E:Value->Shared->Prop}{Q:Value->Shared->Prop}(I:Inv X pins σ H s)(hg:Gl X x)(hm:X.mg x=some u)(h:Q u s)
  (hd:(x==("__debug__":Str))=false:=by decide):wpAny (model X.prog X.w) X.A (eval (.Name x pos) X.env) Q E s :=
 Calls.Name_function_global I.ok.kind hg (Calls.loadGlobal_global (by rw[I.ok.glob];exact I.mod.glob.keeps I.bk) hm h) hd
theorem iM{E:Value->Shared->Prop}{Q:Value->Shared->Prop}(I:Inv X pins σ H s)(hg:Gl X x)(hm:X.mg x=none)(hv:bootBuiltins x=some u)(h:Q u s)
  (hn:x≠"__name__":=by decide) (hd:(x==("__debug__":Str))=false:=by decide):wpAny (model X.prog X.w) X.A (eval (.Name x pos) X.env) Q E s:=by
 obtain⟨mb,h1,h2⟩:=I.mod.blt;exact Calls.Name_function_global I.ok.kind hg (Calls.loadGlobal_builtin (by rw[I.ok.glob];exact I.mod.glob.keeps I.bk) hm (by rw[I.ok.blt];exact h1.keeps I.bk) ((h2 x hn).trans hv) h) hd
theorem oB{v:V}(hg:Gl X x)(hm:X.mg x=some u)(r:bB v u)(hd:(x==("__debug__":Str))=false:=by decide):PE X (.Name x pos) (tC v) :=
 λ_ _ _ H _ I h=>tX I hg hm ⟨v,H,I,r,h⟩ hd
theorem xZ{v:V}(hg:Gl X x)(hm:X.mg x=none)(hv:bootBuiltins x=some u)(r:bB v u)(hn:x≠"__name__":=by decide)(hd:(x==("__debug__":Str))=false:=by decide):PE X (.Name x pos) (tC v) :=
 λ_ _ _ H _ I h=>iM I hg hm hv ⟨v,H,I,r,h⟩ hn hd
variable {a b:Expr} {ta tb:TE} {pos:Pos}
def PC(X:Cx)(op:CmpOp)(a b:Expr)(t:TE):Prop :=
 ∀(pins:List (Addr×Obj)) (s:Shared) (σ:St) (H:Hp) (Q:VK),Inv X pins σ H s->t σ H Q ->
  wpAny (model X.prog X.w) X.A (eval a X.env) (λv s₁=>wpAny (model X.prog X.w) X.A (eval b X.env) (λu s₂=>wpAny (model X.prog X.w) X.A (compareOp op v u) (EP X pins σ Q) X.xe s₂) X.xe s₁) X.xe s
def tB(t:TE):TT:=λσ H Q=>t σ H λx H1=>∃c,x=.bl c/\Q c H1
theorem pt_cmp{op:CmpOp}(h:PC X op a b t)(h1:behindInMarks op b=false:=by first | exact nobehind _ (by decide) (by decide) | rfl):PT X (.Compare a [op] [b] pos) (tB t):=by
 intro pins s σ H Q I hw;refine wpAny_isTrue_Compare1 (ER (h pins s σ H _ I hw) λv s1 h1=>ER h1 λu s2 h2=>ER h2 λc s3 ⟨x,H1,I1,r1,q1⟩=>?_) h1;obtain⟨d,rfl,q⟩:=q1
 cases r1
 exact Gy ⟨H1,I1,q⟩
theorem BK{e:Expr}(h:PE X e t)(he:∀whole,isTrue e X.env whole=(do let v<-whole;standAt e.pos;holding [v] (truthy v)):=by intro _;rfl):PT X e (tB t):=by
 intro pins s σ H Q I hw;refine isTrue_plain (ER (h pins s σ H _ I hw) λv s1 ⟨x,H1,I1,r1,q1⟩=>?_) (he _);obtain⟨d,rfl,q⟩:=q1
 cases r1
 exact Gy ⟨H1,I1,q⟩
variable {tA tB':TT} {dL:List Expr}
def tAnd(t u:TT):TT:=λσ H Q=>t σ H λc H1=>if c=true then u σ H1 Q else Q false H1
def tOr(t u:TT):TT:=λσ H Q=>t σ H λc H1=>if c=true then Q true H1 else u σ H1 Q
def tNot(t:TT):TT:=λσ H Q=>t σ H λc H1=>Q (!c) H1
theorem Aa(ha:PT X a tA):PW X (.BoolOp .And [a] pos) tA:=by
 intro wh pins s σ H Q I h;refine isTrue_and (ER (ha pins s σ H Q I h) λc s1 e=>?_)
 cases c with
 | true=>exact isTrue_and_nil e
 | false=>exact e
theorem Cy(ha:PT X a tA):PW X (.BoolOp .Or [a] pos) tA:=by
 intro wh pins s σ H Q I h;refine isTrue_or (ER (ha pins s σ H Q I h) λc s1 e=>?_)
 cases c with
 | false=>exact isTrue_or_nil e
 | true=>exact e
theorem BC(ha:PT X a tA)(hb:PW X (.BoolOp .And (b::dL) pos) tB'):PW X (.BoolOp .And (a::b::dL) pos) (tAnd tA tB'):=by
 intro wh pins s σ H Q I h;refine isTrue_and (ER (ha pins s σ H _ I h) λc s1 ⟨H1,I1,q1⟩=>?_)
 cases c with
 | true=>exact hb wh pins s1 σ H1 Q I1 q1
 | false=>exact⟨H1,I1,q1⟩
theorem Dx(ha:PT X a tA)(hb:PW X (.BoolOp .Or (b::dL) pos) tB'):PW X (.BoolOp .Or (a::b::dL) pos) (tOr tA tB'):=by
 intro wh pins s σ H Q I h;refine isTrue_or (ER (ha pins s σ H _ I h) λc s1 ⟨H1,I1,q1⟩=>?_)
 cases c with
 | true=>exact⟨H1,I1,q1⟩
 | false=>exact hb wh pins s1 σ H1 Q I1 q1
theorem AQ(ha:PT X a tA):PT X (.UnaryOp .Not a pos) (tNot tA):=by
 intro pins s σ H Q I h;exact isTrue_not (ha pins s σ H (λc H1=>Q (!c) H1) I h)
def Er(ta tb:TE):TE:=λσ H Q=>ta σ H λx H1=>∃c,x=.bl c/\if c=true then tb σ H1 Q else Q (.bl false) H1
def tOrV(ta tb:TE):TE:=λσ H Q=>ta σ H λx H1=>∃c,x=.bl c/\if c=true then Q (.bl true) H1 else tb σ H1 Q
def Do(ta:TE):TE:=λσ H Q=>ta σ H λx H1=>∃c,x=.bl c/\Q (.bl (!c)) H1
def Br{op}(h:PE X a t):PE X (.BoolOp op [a] pos) t:=λpins s σ H Q I hw=>BoolOp_one (h pins s σ H Q I hw)
theorem CW(ha:PE X a ta)(hb:PE X (.BoolOp .And (b::dL) pos) tb):PE X (.BoolOp .And (a::b::dL) pos) (Er ta tb):=by
 intro pins s σ H Q I h;refine BoolOp_and (ER (ha pins s σ H _ I h) λv s1 ⟨x,H1,I1,r1,q1⟩=>?_);obtain⟨c,rfl,q1⟩:=q1
 cases r1
 refine Gy ?_
 cases c with
 | true=>exact hb pins s1 σ H1 Q I1 q1
 | false=>exact⟨.bl false,H1,I1,rfl,q1⟩
theorem Dk(ha:PE X a ta)(hb:PE X (.BoolOp .Or (b::dL) pos) tb):PE X (.BoolOp .Or (a::b::dL) pos) (tOrV ta tb):=by
 intro pins s σ H Q I h;refine BoolOp_or (ER (ha pins s σ H _ I h) λv s1 ⟨x,H1,I1,r1,q1⟩=>?_);obtain⟨c,rfl,q1⟩:=q1
 cases r1
 refine Gy ?_
 cases c with
 | false=>exact hb pins s1 σ H1 Q I1 q1
 | true=>exact⟨.bl true,H1,I1,rfl,q1⟩
theorem BX(ha:PE X a ta):PE X (.UnaryOp .Not a pos) (Do ta):=by
 intro pins s σ H Q I h;refine UnaryOp_ (ER (ha pins s σ H _ I h) λv s1 ⟨x,H1,I1,r1,q1⟩=>?_);obtain⟨c,rfl,q1⟩:=q1
 cases r1
 exact not_of (Gy ⟨.bl (!c),H1,I1,rfl,q1⟩)
def tIf(t:TT)(ta tb:TE):TE:=λσ H Q=>t σ H λc H1=>if c=true then ta σ H1 Q else tb σ H1 Q
theorem we{c:Expr}(hc:PT X c tA)(ha:PE X a ta)(hb:PE X b tb):PE X (.IfExp c a b pos) (tIf tA ta tb):=by
 intro pins s σ H Q I h;refine wpAny_IfExp (ER (hc pins s σ H _ I h) λd s1 ⟨H1,I1,q1⟩=>?_)
 cases d with
 | true=>exact ha pins s1 σ H1 Q I1 q1
 | false=>exact hb pins s1 σ H1 Q I1 q1
end
end L2
namespace L2
open PySem PySem.Spec PyProof.Rows
variable {K:PySem.W.Frag} {s:Shared} {e tg:Expr} {P:Program} {w:World}
def EY(K:PySem.W.Frag)(H:Hp)(a:Addr)(xs:List V):Prop :=
 Rd H a (.lst xs) \/
  ∃(o:Obj) (its:Array Value) (n:Nat),K.lookup a=some o/\o.cls=.type "list"/\o.dict=none/\o.data=.seq its n/\its.size<=sizeLine/\bH xs its.toList
def E5(K:PySem.W.Frag)(H:Hp)(a:Addr)(xs:List V):Prop :=
 Rd H a (.tup xs) \/
  ∃(o:Obj) (its:Array Value) (n:Nat),K.lookup a=some o/\o.cls=.type "tuple"/\o.data=.seq its n/\its.size<=sizeLine/\bH xs its.toList
def absV:Value->Option V
 | .none=>some .non
 | .bool b=>some (.bl b)
 | .int i _=>some (.int i)
 | .str x _=>some (.str x)
 | .bytes b _=>some (.byt b)
 | .float b _=>some (.flt b)
 | .ref a=>some (.ref a)
 | .type n=>some (.ty n)
 | _=>none
theorem bB.abs{x:V}{u:Value}(r:bB x u):absV u=some x:=by
 cases x with
 | non=>cases r;rfl
 | bl _=>cases r;rfl
 | int _=>obtain⟨t,rfl⟩:=r;rfl
 | str _=>obtain⟨t,rfl⟩:=r;rfl
 | byt _=>obtain⟨t,rfl⟩:=r;rfl
 | flt _=>obtain⟨t,rfl⟩:=r;rfl
 | ref _=>cases r;rfl
 | ty _=>cases r;rfl
def bB.inj{x y:V}{u:Value}(r:bB x u)(q:bB y u):x=y:=Fz (r.abs.symm.trans q.abs)
def bH.inj:∀ {xs ys:List V} {us:List Value},bH xs us->bH ys us->xs=ys
 | _,_,_,.nil,.nil=>rfl
 | _,_,_,.cons r t,.cons r' t'=>by rw[r.inj r',bH.inj t t']
section
variable {X:Cx} {pins:List (Addr×Obj)} {σ:St} {H:Hp} {s:Shared} {a:Addr} {xs ys:List V}
def EY.of(h:H a=some (.lst xs)):EY K H a xs:=.inl (.inl h)
def E5.of(h:H a=some (.tup xs)):E5 K H a xs:=.inl (.inl h)
theorem Inv.list(I:Inv X pins σ H s)(h:EY X.K H a xs):∃its:List Value,bH xs its/\PlainL s.heap a its.toArray/\xs.length<=sizeLine:=by
 rcases h with h | ⟨o,its,n,hk,hc,hd,hs,hz,r⟩
 ·obtain⟨z,its,n,r,e⟩:=h.ok I.hok;exact⟨its,r,⟨_,n,e,rfl,rfl,rfl⟩,z⟩
 ·refine⟨its.toList,r,⟨o,n,I.kIn a o hk,hc,hd,by simpa using hs⟩,?_⟩;have e:=r.length;simp only[Array.length_toList] at e;omega
theorem Inv.tuple(I:Inv X pins σ H s)(h:E5 X.K H a xs):∃its:List Value,bH xs its/\IsTup s.heap a its.toArray/\xs.length<=sizeLine:=by
 rcases h with h | ⟨o,its,n,hk,hc,hs,hz,r⟩
 ·obtain⟨z,its,r,p⟩:=h.ok I.hok;exact⟨its,r,p,z⟩
 ·refine⟨its.toList,r,⟨o,I.kIn a o hk,hc,n,by simpa using hs⟩,?_⟩;have e:=r.length;simp only[Array.length_toList] at e;omega
theorem Inv.list_inj(I:Inv X pins σ H s)(h:EY X.K H a xs)(h':EY X.K H a ys):xs=ys:=by
 obtain⟨its,r,⟨o,n,e,_,_,d⟩,_⟩:=I.list h;obtain⟨its',r',⟨o',n',e',_,_,d'⟩,_⟩:=I.list h';rw[e] at e';cases e';rw[d] at d'
 injection d' with d1 _
 have:its=its':=by simpa using Gs Array.toList d1
 subst this;exact r.inj r'
theorem Inv.tuple_inj(I:Inv X pins σ H s)(h:E5 X.K H a xs)(h':E5 X.K H a ys):xs=ys:=by
 obtain⟨its,r,⟨o,e,_,n,d⟩,_⟩:=I.tuple h;obtain⟨its',r',⟨o',e',_,n',d'⟩,_⟩:=I.tuple h';rw[e] at e';cases e';rw[d] at d'
 injection d' with d1 _
 have:its=its':=by simpa using Gs Array.toList d1
 subst this;exact r.inj r'
end
abbrev Cx.wish(X:Cx)(E:Value->Shared->Prop):Cx:={ X with xe:=E }
abbrev Cx.nox(X:Cx):Cx:=X.wish λ_ _=>False
def Cx.Ok.wish{X:Cx}(ok:X.Ok)(E:Value->Shared->Prop):(X.wish E).Ok :=
 ⟨ok.mod,ok.kind,ok.glob,ok.blt,ok.above,ok.inj,ok.has,ok.cab,ok.hd,ok.frames,ok.stk,ok.exf,ok.bs,ok.bsz,ok.noex,ok.exfs,ok.funs,ok.frf⟩
def Cx.Ok.unwish{X:Cx}{E:Value->Shared->Prop}(ok:(X.wish E).Ok):X.Ok :=
 ⟨ok.mod,ok.kind,ok.glob,ok.blt,ok.above,ok.inj,ok.has,ok.cab,ok.hd,ok.frames,ok.stk,ok.exf,ok.bs,ok.bsz,ok.noex,ok.exfs,ok.funs,ok.frf⟩
section
variable {X:Cx} {pins:List (Addr×Obj)} {σ:St} {H:Hp} {s:Shared} {E:Value→Shared→Prop}
def Inv.wish(I:Inv X pins σ H s)(E:Value->Shared->Prop):Inv (X.wish E) pins σ H s:=⟨I.ok.wish E,I.os,I.bare,I.base,I.loc,I.cell,I.free,I.freeC,I.pin,I.hok,I.len⟩
def Inv.unwish(I:Inv (X.wish E) pins σ H s):Inv X pins σ H s:=⟨I.ok.unwish,I.os,I.bare,I.base,I.loc,I.cell,I.free,I.freeC,I.pin,I.hok,I.len⟩
theorem SP.unwish{D:xY}{f:Flow}{s':Shared}(h:SP (X.wish E) pins D f s'):SP X pins D f s':=by
 cases f with
 | next=>obtain⟨σ',H',I,q⟩:=h;exact⟨σ',H',I.unwish,q⟩
 | brk=>obtain⟨σ',H',I,q⟩:=h;exact⟨σ',H',I.unwish,q⟩
 | cont=>obtain⟨σ',H',I,q⟩:=h;exact⟨σ',H',I.unwish,q⟩
 | ret u=>obtain⟨v,σ',H',I,r,q⟩:=h;exact⟨v,σ',H',I.unwish,r,q⟩
def PSs.nox{st:List Stmt}{t:TS}(h:PSs X.nox st t):PSs X st t:=λpins s σ H D I hw =>
 Gp (h pins s σ H D (I.wish _) hw) (λ_ _ q=>q.unwish) λ_ _ z=>False.elim z
end
section
variable {X:Cx} {st:Stmt} {dL:List Stmt} {t u:TS} {e:Expr} {te:TE} {pos:Pos}
def D0:TS:=λD σ H=>D.nx σ H
def tSeq(t u:TS):TS:=λD σ H=>t { D with nx:=u D } σ H
def yX:PSs X [] D0:=λ_ _ σ H _ I h=>HI ⟨σ,H,I,h⟩
theorem v7(h1:PS X st t)(h2:PSs X dL u):PSs X (st::dL) (tSeq t u):=by
 intro pins s σ H D I h;refine wpAny_execs_cons (ER (h1 pins s σ H { D with nx:=u D } I h) λf s1 q=>?_)
 cases f with
 | next =>
  obtain⟨σ',H',I',q⟩:=q;exact h2 pins s1 σ' H' D I' q
 | ret v=>exact q
 | brk=>exact q
 | cont=>exact q
theorem yk(h1:PS X st t):PSs X [st] t:=by
 intro pins s σ H D I h;refine wpAny_execs_cons (ER (h1 pins s σ H D I h) λf s1 q=>?_)
 cases f with
 | next=>exact HI q
 | ret v=>exact q
 | brk=>exact q
 | cont=>exact q
theorem Inv.quiet{pins:List (Addr×Obj)}{σ:St}{H:Hp}(I:Inv X pins σ H s):interactive X.env=false:=by simp[interactive,I.ok.kind]
def D8(te:TE):TS:=λD σ H=>te σ H λ_ H1=>D.nx σ H1
theorem ni(he:PE X e te)(hs:swapsWith e none pos.line X.env=pure false:=by rfl):PS X (.Expr e pos) (D8 te):=by
 intro pins s σ H D I h;exact wpAny_Expr_any (ER (he pins s σ H _ I h) λv s1 ⟨x,H1,I1,r1,q1⟩=>⟨σ,H1,I1,q1⟩) I.quiet hs
def tRet(te:TE):TS:=λD σ H=>te σ H D.rt
theorem sU(he:PE X e te):PS X (.Return (some e) pos) (tRet te):=by
 intro pins s σ H D I h;exact wpAny_Return_some (ER (he pins s σ H _ I h) λv s1 ⟨x,H1,I1,r1,q1⟩=>⟨x,σ,H1,I1,r1,q1⟩)
def DB:TS:=λD _ H=>D.rt .non H
def zr:PS X (.Return none pos) DB:=λ_ _ σ H _ I h=>wpAny_Return_none ⟨.non,σ,H,I,rfl,h⟩
def tIfS(c:TT)(t u:TS):TS:=λD σ H=>c σ H λb H1=>if b=true then t D σ H1 else u D σ H1
theorem DY{c:Expr}{a b:List Stmt}{tc:TT}(hc:PT X c tc)(ha:PSs X a t)(hb:PSs X b u):PS X (.If c a b pos) (tIfS tc t u):=by
 intro pins s σ H D I h;refine wpAny_If (ER (hc pins s σ H _ I h) λd s1 ⟨H1,I1,q1⟩=>?_)
 cases d with
 | true=>exact ha pins s1 σ H1 D I1 q1
 | false=>exact hb pins s1 σ H1 D I1 q1
def xm:TS:=λ_ _ _=>False
def vL:PS X st xm:=λ_ _ _ _ _ _ h=>h.elim
def uh{sts:List Stmt}:PSs X sts xm:=λ_ _ _ _ _ _ h=>h.elim
end
abbrev TG:=V->St->Hp->(St->Hp->Prop)->Prop
abbrev TGs:=List V->St->Hp->(St->Hp->Prop)->Prop
def PG(X:Cx)(target:Expr)(t:TG):Prop :=
 ∀(pins:List (Addr×Obj)) (s:Shared) (σ:St) (H:Hp) (v:V) (u:Value) (Q:St->Hp->Prop),Inv X pins σ H s->bB v u->t v σ H Q ->
  wpAny (model X.prog X.w) X.A (assign target X.env u) (λ_ s'=>∃σ' H',Inv X pins σ' H' s'/\Q σ' H') X.xe s
def PGs(X:Cx)(ts:List Expr)(t:TGs):Prop :=
 ∀(pins:List (Addr×Obj)) (s:Shared) (σ:St) (H:Hp) (vs:List V) (us:List Value) (Q:St->Hp->Prop),Inv X pins σ H s->bH vs us->t vs σ H Q ->
  wpAny (model X.prog X.w) X.A (assignInOrder ((assignEach ts X.env).map (·.2)) us) (λ_ s'=>∃σ' H',Inv X pins σ' H' s'/\Q σ' H') X.xe s
section
variable {X:Cx} {pos:Pos}
def sY(i:Nat):TG:=λv σ H Q=>Q (σ.set i (some v)) H
theorem yn{i:Nat}{x:Str}(hN:X.N.Nodup)(hi:X.N[i]?=some x)(hx:Loc X.env.scope x)(hf:X.fn x=true\/X.env.scope.names.lookup x=some .local :=by walk_at "v1"):PG X (.Name x pos) (sY i):=by
 intro pins s σ H v u Q I r h;exact wpAny_assign_Name (oF I hN hi hx r (λs' I'=>⟨_,H,I',h⟩) hf)
def gNil:TGs:=λvs σ H Q=>vs=[]/\Q σ H
def Dr(t:TG)(u:TGs):TGs:=λvs σ H Q=>∃v r,vs=v::r/\t v σ H λσ' H'=>u r σ' H' Q
theorem Am:PGs X [] gNil:=by
 intro pins s σ H vs us Q I r h;obtain⟨e,h⟩:=h;subst e
 cases r
 exact assignInOrder_nil ⟨σ,H,I,h⟩
theorem wa{es:List Expr}{t:TG}{u:TGs}(h1:PG X e t)(h2:PGs X es u)
  (hs:(assignEach (e::es) X.env).map (·.2)=assign e X.env::(assignEach es X.env).map (·.2):=by rfl):PGs X (e::es) (Dr t u):=by
 intro pins s σ H vs us Q I r h;obtain⟨v,vr,e1,h⟩:=h;subst e1
 cases r with
 | cons r rr =>
  rw[hs];refine assignInOrder_cons (ER (h1 pins s σ H _ _ _ I r h) λ_ s1 ⟨σ1,H1,I1,q1⟩=>?_);exact h2 pins s1 σ1 H1 _ _ Q I1 rr q1
def gTup(K:PySem.W.Frag)(n:Nat)(t:TGs):TG:=λv σ H Q=>∃a xs,v=.ref a/\E5 K H a xs/\xs.length=n/\t xs σ H Q
theorem Cm{es:List Expr}{k:Nat}{t:TGs}{n:Nat}(hc:X.calm=true)(h:PGs X es t)
  (hn:(assignEach es X.env).length=n:=by rfl) (hst:(assignEach es X.env).findIdx? (·.1)=none:=by rfl):PG X (.Tuple es k pos) (gTup X.K n t):=by
 intro pins s σ H v u Q I r hw;obtain⟨a,xs,e1,hq,hl,hw⟩:=hw;subst e1
 cases r
 obtain⟨its,rv,ht,hz⟩:=I.tuple hq;refine assign_Tuple_tuple (I.ok.hd hc) ht (by simp[hn,<- hl,rv.length]) hst λh' hx=>?_;have I1:Inv X pins σ H { s with heap:=h' }:=I.kept (t':=s.toks) λb o e=>hx b o (FV (FC e)) e;exact h pins _ σ H xs _ Q I1 (by simpa using rv) hw
def tAsg(te:TE)(g:TG):TS:=λD σ H=>te σ H λx H1=>g x σ H1 D.nx
theorem BL{te:TE}{g:TG}(he:PE X e te)(hg:PG X tg g)(hs:swapsWithSole [tg] e pos.line X.env=pure false:=by rfl)(hw:swappedStores [tg] e X.env=pure none:=by rfl)
  (h1:(assignEach [tg] X.env).map (·.2)=[assign tg X.env]:=by rfl):PS X (.Assign [tg] e pos) (tAsg te g):=by
 intro pins s σ H D I h;refine wpAny_Assign_stores (ER (he pins s σ H _ I h) λv s1 ⟨x,H1,I1,r1,q1⟩=>?_) hs hw;rw[h1];exact ER (hg pins s1 σ H1 x v _ I1 r1 q1) λ_ s2 q=>q
theorem mC{i:Nat}{x:Str}{te:TE}{pos':Pos}(hN:X.N.Nodup)(hi:X.N[i]?=some x)(hx:Loc X.env.scope x)(he:PE X e te)(hs:swapsWith e (some (.Name x pos')) pos.line X.env=pure false:=by rfl)(hf:X.fn x=true\/X.env.scope.names.lookup x=some .local :=by walk_at "v1") :
  PS X (.Assign [.Name x pos'] e pos) (tAsg te (sY i)):=by
 intro pins s σ H D I h;refine wpAny_Assign_Name (ER (he pins s σ H _ I h) λv s1 ⟨y,H1,I1,r1,q1⟩=>?_) hs;exact oF I1 hN hi hx r1 (λs2 I2=>⟨_,H1,I2,q1⟩) hf
end
section
variable {X:Cx} {pos:Pos}
def B9(c:TT)(tb:TS):TS:=λD σ H=>∃W:Nat->St->Hp->Prop,(∃m,W m σ H)/\∀m σ H,W m σ H ->
 c σ H λb H1=>if b=true then ∃N:St->Hp->Prop,(∀σ' H',N σ' H'->∃m',m'<m/\W m' σ' H')/\tb { D with nx:=N,ct:=N,bk:=D.nx } σ H1 else D.nx σ H1
theorem vN{c:Expr}{body:List Stmt}{tc:TT}{tb:TS}(hp:PassesOwn (model X.prog X.w) X.A X.env X.xe)(hc:PT X c tc)(hb:PSs X body tb):PS X (.While c body [] pos) (B9 tc tb):=by
 intro pins s σ H D I h;obtain⟨W,⟨m0,w0⟩,turn⟩:=h;refine wpAny_While (codeAny_whileLoop (λn s'=>∃σ' H',Inv X pins σ' H' s'/\W n σ' H') ?_ m0 ⟨σ,H,I,w0⟩);rintro n s1 ⟨σ1,H1,I1,w1⟩;refine GP hp (ER (hc pins s1 σ1 H1 _ I1 (turn n σ1 H1 w1)) λb s2 ⟨H2,I2,q2⟩=>?_)
 cases b with
 | true =>
  obtain⟨N,hN,q2⟩:=q2;rw[Fs rfl];refine GP hp (ER (hb pins s2 σ1 H2 _ I2 q2) λf s3 q3=>?_)
  cases f with
  | next =>
   obtain⟨σ3,H3,I3,n3⟩:=q3;obtain⟨m',hm,w3⟩:=hN σ3 H3 n3;exact⟨m',hm,σ3,H3,I3,w3⟩
  | cont =>
   obtain⟨σ3,H3,I3,n3⟩:=q3;obtain⟨m',hm,w3⟩:=hN σ3 H3 n3;exact⟨m',hm,σ3,H3,I3,w3⟩
  | brk=>exact q3
  | ret v=>exact q3
 | false =>
  rw[Fp Fg];exact HI ⟨σ1,H2,I2,q2⟩
end
structure It where
 go:Nat->Hp->Prop
 yld:Nat->Hp->V->Hp->Prop
 stop:Nat->Hp->Prop
def vg(X:Cx)(pins:List (Addr×Obj))(H:Hp)(b:Addr):Prop :=
 H b=none/\b≠X.env.locals/\b∉X.fs/\(b∈X.ex\/X.s₀.heap.objs.size<=b)/\(∀x c,X.env.cells.lookup x=some c->c≠b)/\∀p∈X.pn++pins,p.1≠b
theorem Inv.fpOk{X:Cx}{pins:List (Addr×Obj)}{σ:St}{H H':Hp}{b:Addr}(I:Inv X pins σ H s)(hb:s.heap.objs.size<=b)(hn:H' b=none):vg X pins H' b:=by
 refine⟨hn,Hg (FN I.lt hb),I.nofs hb,.inr (Fa I.sz hb),λx c e z=>?_,λp hp z=>?_⟩
 ·obtain⟨v,q⟩:=I.cell x c e;exact absurd (FN q.lt (by rw[z];exact hb)) (F7 _)
 ·exact absurd (FN (FC (I.pin p hp).1) (by rw[z];exact hb)) (F7 _)
structure wU(P:Program)(w:World)(K:PySem.W.Frag)(tg:Expr)(J:It)(fp:List Addr)(it:Addr)(tn:Nat->Heap->Prop):Prop where
 mem:it∈fp
 obj:∀i h,tn i h->∀b∈fp,∃o,h.get? b=some o/\∀v,o.data≠.cell v
 keep:∀i h h',tn i h->(∀b∈fp,∀o,h.get? b=some o->h'.get? b=some o)->tn i h'
 item:∀(X:Cx),X.prog=P->X.w=w->X.K=K->X.calm=true->∀(i:Nat) (pins:List (Addr×Obj)) (s:Shared) (σ:St) (H:Hp) (E:Value->Shared->Prop),Inv X pins σ H s->(∀b∈fp,vg X pins H b)->tn i s.heap->J.go i H ->
  wpAny (model P w) X.A (pyNext (.ref it)) (λr s1=>∃u,r=some u /\
   wpAny (model P w) X.A (letOwnedTupleGo tg (.ref it) u) (λ_ s2=>∃x H',Inv X pins σ H' s2/\bB x u/\J.yld i H x H'/\tn (i+1) s2.heap/\∀b∈fp,H' b=none) E s1) E s
 done:∀(X:Cx),X.prog=P->X.w=w->X.K=K->X.calm=true->∀(i:Nat) (pins:List (Addr×Obj)) (s:Shared) (σ:St) (H:Hp) (E:Value->Shared->Prop),Inv X pins σ H s->(∀b∈fp,vg X pins H b)->tn i s.heap->J.stop i H ->
  wpAny (model P w) X.A (pyNext (.ref it)) (λr s1=>r=none/\Inv X pins σ H s1) E s
 self:∀(A:Around) (i:Nat) (s:Shared) (Q:Value->Shared->Prop) (E:Value->Shared->Prop),tn i s.heap->Q (.ref it) s->wpAny (model P w) A (pyIter (.ref it)) Q E s
abbrev TI:=St->Hp->(It->Hp->Prop)->Prop
def PIE(X:Cx)(pins:List (Addr×Obj))(σ:St)(tg:Expr)(R:It->Hp->Prop)(itv:Value)(s2:Shared):Prop :=
 ∃(it:Addr) (fp:List Addr) (tn:Nat->Heap->Prop) (J:It) (H':Hp),itv=.ref it/\Inv X pins σ H' s2/\wU X.prog X.w X.K tg J fp it tn/\tn 0 s2.heap/\(∀b∈fp,vg X pins H' b)/\R J H'
def PI(X:Cx)(tg iter:Expr)(wi:TI):Prop :=
 ∀(pins:List (Addr×Obj)) (s:Shared) (σ:St) (H:Hp) (R:It->Hp->Prop),Inv X pins σ H s->wi σ H R ->
  wpAny (model X.prog X.w) X.A (eval iter X.env) (λv s1=>wpAny (model X.prog X.w) X.A (pyIter v) (PIE X pins σ tg R) X.xe s1) X.xe s
theorem tj{M:Model}{A:Around}{E:Value->Shared->Prop}{it:Addr}{u:Value}{o:Obj}{n:String}{vs:Array Value}{Q:Unit->Shared->Prop}(ho:s.heap.get? it=some o)(hc:o.cls=.type n)(hd:o.data=.fields vs)
    (hn:["enumerate","zip","dict_itemiterator","dict_reverseitemiterator","odict_iterator","itertools.zip_longest","itertools.pairwise"].contains n=false) (hQ:Q () s):wpAny M A (letOwnedTupleGo tg (.ref it) u) Q E s:=by
  unfold letOwnedTupleGo
  cases tg<;>first
    | exact Ft hQ
    | (cases u<;>first
        | exact Ft hQ
        | (refine Fc (wpAny_load ho ?_)
           rw[hc,hd];show wpAny M A (if (["enumerate","zip","dict_itemiterator","dict_reverseitemiterator","odict_iterator","itertools.zip_longest","itertools.pairwise"].contains n&&vs[0]?==some (rawInt _))=true then _ else _) Q E s;rw[Fp (by intro h;rw[hn,Bool.false_and] at h;cases h)]
           exact Ft hQ))
def Itl(K:PySem.W.Frag)(a:Addr):It :=
 ⟨λi H=>∃xs x,EY K H a xs/\xs[i]?=some x,λi H x H'=>H'=H/\∀xs,EY K H a xs->xs[i]?=some x,λi H=>∃xs,EY K H a xs/\xs.length<=i⟩
def Itt(K:PySem.W.Frag)(a:Addr):It :=
 ⟨λi H=>∃xs x,E5 K H a xs/\xs[i]?=some x,λi H x H'=>H'=H/\∀xs,E5 K H a xs->xs[i]?=some x,λi H=>∃xs,E5 K H a xs/\xs.length<=i⟩
def Itr(lo:Int)(n:Nat):It:=⟨λi _=>i<n,λi H x H'=>H'=H/\x=.int (lo+i),λi _=>n<=i⟩
theorem lM(a it:Addr):wU P w K tg (Itl K a) [it] it (λi h=>h.IsListIter it a i) where
 mem:=by simp
 obj:=λi h st b hb=>by
  have e:b=it:=by simpa using hb
  subst e;obtain⟨o,e,c,d⟩:=st;exact⟨o,e,λv z=>by rw[d] at z;cases z⟩
 keep:=λi h h' st k=>st.at λo e=>k it (by simp) o e
 item:=by
  intro X hP hw hK hc i pins s σ H E I hf st hg;subst hP hw hK;obtain⟨xs,x,hq,hx⟩:=hg;obtain⟨its,rv,p,hz⟩:=I.list hq;obtain⟨u,hu,ru⟩:=rv.get hx;obtain⟨f0,f1,f2,f3,f4,f5⟩:=hf it (by simp);refine wpAny_pyNext_list_item st p.isList (x:=u) (by simpa using hu) λh' st' sb=>?_;have I1:Inv X pins σ H { s with heap:=h' }:=I.turned (t':=s.toks) (λb o hb e=>(sb.2 b hb).trans e) f0 f1 f3 f4 f5;obtain⟨o,e,c,d⟩:=id st';exact⟨u,rfl,tj (s:={ s with heap:=h' }) e c d (by decide) ⟨x,H,I1,ru,⟨rfl,λys hy=>by rw[I.list_inj hy hq];exact hx⟩,st',λb hb=>(hf b hb).1⟩⟩
 done:=by
  intro X hP hw hK hc i pins s σ H E I hf st hg;subst hP hw hK;obtain⟨xs,hq,hx⟩:=hg;obtain⟨its,rv,p,hz⟩:=I.list hq;obtain⟨f0,f1,f2,f3,f4,f5⟩:=hf it (by simp);have hl:=rv.length;exact wpAny_pyNext_list_end (I.ok.hd hc) st p.isList (by simp;omega) λh' eb=>⟨rfl,I.turned (t':=s.toks) (λb o hb e=>eb b o hb e) f0 f1 f3 f4 f5⟩
 self:=λ_ _ _ _ _ st h=>wpAny_pyIter_listiter st h
theorem j8(a it:Addr):wU P w K tg (Itt K a) [it] it (λi h=>h.IsTupleIter it a i) where
 mem:=by simp
 obj:=λi h st b hb=>by
  have e:b=it:=by simpa using hb
  subst e;obtain⟨o,e,c,d⟩:=st;exact⟨o,e,λv z=>by rw[d] at z;cases z⟩
 keep:=λi h h' st k=>st.at λo e=>k it (by simp) o e
 item:=by
  intro X hP hw hK hc i pins s σ H E I hf st hg;subst hP hw hK;obtain⟨xs,x,hq,hx⟩:=hg;obtain⟨its,rv,p,hz⟩:=I.tuple hq;obtain⟨u,hu,ru⟩:=rv.get hx;obtain⟨f0,f1,f2,f3,f4,f5⟩:=hf it (by simp);refine wpAny_pyNext_tuple_item st (show s.heap.IsTuple a its.toArray from p) (x:=u) (by simpa using hu) λh' st' sb=>?_;have I1:Inv X pins σ H { s with heap:=h' }:=I.turned (t':=s.toks) (λb o hb e=>(sb.2 b hb).trans e) f0 f1 f3 f4 f5;obtain⟨o,e,c,d⟩:=id st';exact⟨u,rfl,tj (s:={ s with heap:=h' }) e c d (by decide) ⟨x,H,I1,ru,⟨rfl,λys hy=>by rw[I.tuple_inj hy hq];exact hx⟩,st',λb hb=>(hf b hb).1⟩⟩
 done:=by
  intro X hP hw hK hc i pins s σ H E I hf st hg;subst hP hw hK;obtain⟨xs,hq,hx⟩:=hg;obtain⟨its,rv,p,hz⟩:=I.tuple hq;obtain⟨f0,f1,f2,f3,f4,f5⟩:=hf it (by simp);have hl:=rv.length;exact wpAny_pyNext_tuple_end (I.ok.hd hc) st (show s.heap.IsTuple a its.toArray from p) (by simp;omega) λh' eb=>⟨rfl,I.turned (t':=s.toks) (λb o hb e=>eb b o hb e) f0 f1 f3 f4 f5⟩
 self:=λ_ _ _ _ _ st h=>wpAny_pyIter_tupleiter st h
theorem qo(it:Addr)(lo:Int)(n:Nat):wU P w K tg (Itr lo n) [it] it (λi h=>IsRangeIter h it (lo+(i:Nat)*1) ((n:Int)-(i:Nat)) 1) where
 mem:=by simp
 obj:=λi h st b hb=>by
  have e:b=it:=by simpa using hb
  subst e
  exact⟨_,st,λv z=>by
   have z':Data.fields _=Data.cell v:=z
   cases z'⟩
 keep:=λi h h' st k=>k it (by simp) _ st
 item:=by
  intro X hP hw hK hc i pins s σ H E I hf st hg;subst hP hw hK;obtain⟨f0,f1,f2,f3,f4,f5⟩:=hf it (by simp);have W:=Walks.range (prog:=X.prog) (w:=X.w) (I.ok.hd hc) it lo 1 n;refine W.item i s _ _ hg st λv h' tk hv st' kk=>?_;obtain⟨t,rfl⟩:=hv;have I1:Inv X pins σ H { s with heap:=h',toks:=tk }:=I.turned (λb o hb e=>kk b o (by simpa using hb) e) f0 f1 f3 f4 f5;refine⟨_,rfl,tj (s:={ s with heap:=h',toks:=tk }) (n:="range_iterator") st' rfl rfl (by decide) ⟨.int (lo+i),H,I1,⟨t,?_⟩,⟨rfl,rfl⟩,st',λb hb=>(hf b hb).1⟩⟩;rw[Int.mul_one]
 done:=by
  intro X hP hw hK hc i pins s σ H E I hf st hg;subst hP hw hK;obtain⟨f0,f1,f2,f3,f4,f5⟩:=hf it (by simp);exact wpAny_pyNext_range_end (I.ok.hd hc) st (by have:n<=i:=hg;omega) λh' eb=>⟨rfl,I.turned (t':=s.toks) (λb o hb e=>eb b o hb e) f0 f1 f3 f4 f5⟩
 self:=λ_ _ _ _ _ st h=>wpAny_pyIter_rangeiter st h
end L2
namespace L2
open PySem PySem.Spec PyProof.Rows
variable {pins:List (Addr×Obj)} {σ:St} {H:Hp} {s:Shared} {fp:List Addr}
section
variable {X:Cx} {tg:Expr}
def Dz(K:PySem.W.Frag)(tl:TE):TI:=λσ H R=>tl σ H λx H1=>∃a,x=.ref a/\(∃xs,EY K H1 a xs)/\R (Itl K a) H1
def iTup(K:PySem.W.Frag)(tl:TE):TI:=λσ H R=>tl σ H λx H1=>∃a,x=.ref a/\(∃xs,E5 K H1 a xs)/\R (Itt K a) H1
theorem rK{l:Expr}{tl:TE}(hl:PE X l tl):PI X tg l (Dz X.K tl):=by
 intro pins s σ H R I h;refine ER (hl pins s σ H _ I h) λv s1 ⟨x,H1,I1,r1,q1⟩=>?_;obtain⟨a,e,⟨xs,hq⟩,q⟩:=q1;subst e
 cases r1
 obtain⟨its,rv,p,hz⟩:=I1.list hq;refine G6 p.isList ?_;refine⟨s1.heap.objs.size,[s1.heap.objs.size],_,_,H1,rfl,I1.kept (t':=s1.toks) λb o e=>Heap.get?_push_of_some _ e,lM a _,⟨_,Heap.get?_push_size _ rfl,rfl,rfl⟩,λb hb=>?_,q⟩;have e:b=s1.heap.objs.size:=by simpa using hb
 subst e;exact I1.fpOk (Fh _) (I1.hok.fresh (Fh _))
theorem wS{l:Expr}{tl:TE}(hl:PE X l tl):PI X tg l (iTup X.K tl):=by
 intro pins s σ H R I h;refine ER (hl pins s σ H _ I h) λv s1 ⟨x,H1,I1,r1,q1⟩=>?_;obtain⟨a,e,⟨xs,hq⟩,q⟩:=q1;subst e
 cases r1
 obtain⟨its,rv,p,hz⟩:=I1.tuple hq;refine wpAny_pyIter_tuple (show s1.heap.IsTuple a its.toArray from p) ?_;refine⟨s1.heap.objs.size,[s1.heap.objs.size],_,_,H1,rfl,I1.kept (t':=s1.toks) λb o e=>Heap.get?_push_of_some _ e,j8 a _,⟨_,Heap.get?_push_size _ rfl,rfl,rfl⟩,λb hb=>?_,q⟩;have e:b=s1.heap.objs.size:=by simpa using hb
 subst e;exact I1.fpOk (Fh _) (I1.hok.fresh (Fh _))
theorem vX{R:It->Hp->Prop}{E:Value->Shared->Prop}{lo hi:Int}{t u v:Tok}{tk:Nat}(I:Inv X pins σ H s)(h1:-(2 ^ 62)<=lo)(h2:lo<2 ^ 62)(h3:-(2 ^ 62)<=hi)(h4:hi<2 ^ 62)
  (q:R (Itr lo (hi-lo).toNat) H):wpAny (model X.prog X.w) X.A (pyIter (.ref s.heap.objs.size)) (PIE X pins σ tg R) E { s with heap:=s.heap.push { cls:=.type "range",data:=.fields #[.int lo t,.int hi u,.int 1 v] },toks:=tk }:=by
 refine wpAny_pyIter_range (IsRange.new ..) (small_one h1 h2 h3 h4) ?_;have I1:Inv X pins σ H { s with heap:=s.heap.push { cls:=.type "range",data:=.fields #[.int lo t,.int hi u,.int 1 v] },toks:=tk }:=I.kept λb o e=>Heap.get?_push_of_some _ e
 refine⟨(s.heap.push { cls:=.type "range",data:=.fields #[.int lo t,.int hi u,.int 1 v] }).objs.size,[(s.heap.push { cls:=.type "range",data:=.fields #[.int lo t,.int hi u,.int 1 v] }).objs.size],_,_,H,rfl,
  I1.kept (t':=tk) λb o e=>Heap.get?_push_of_some _ e,qo _ lo (hi-lo).toNat,?_,λb hb=>?_,q⟩
 ·have e1:lo+((0:Nat):Int)*1=lo:=by simp
  have e2:(((hi-lo).toNat:Nat):Int)-((0:Nat):Int)=Builtin.Range.rangeSize lo hi 1:=by rw[rangeSize_one];split<;>omega
  show IsRangeIter _ _ (lo+((0:Nat):Int)*1) ((((hi-lo).toNat:Nat):Int)-((0:Nat):Int)) 1
  rw[e1,e2];exact Heap.get?_push_size _ rfl
 ·have e:b=(s.heap.push { cls:=.type "range",data:=.fields #[.int lo t,.int hi u,.int 1 v] }).objs.size:=by simpa using hb
  subst e;exact I1.fpOk (Fh _) (I1.hok.fresh (Fh _))
def DZ(ta:TA):TI:=λσ H R=>ta σ H λvs H1=>∃j:Int,vs=[.int j]/\-(2 ^ 62)<=j/\j<2 ^ 62/\R (Itr 0 j.toNat) H1
theorem lO{a:Expr}{ta:TA}{p pos:Pos}(hg:Gl X "range")(hm:X.mg "range"=none)(ha:PA X [a] ta)(hs:starEach [a] X.env=[(false,eval a X.env)]:=by rfl):PI X tg (.Call (.Name "range" p) [a] [] pos) (DZ ta):=by
 intro pins s σ H R I h;refine Call_ (iM I hg hm boot_range (Gh (ER (ha pos pins s σ H _ I h) λus s1 ⟨vs,H1,I1,r1,q1⟩=>?_) hs rfl));obtain⟨j,e,q1,q2,q⟩:=q1;subst e
 cases r1 with
 | cons r rr =>
  cases rr
  obtain⟨t,rfl⟩:=r;exact call_range_1 (vX I1 (by omega) (by omega) q1 q2 (by simpa using q))
def tFor(wi:TI)(g:TG)(tb:TS):TS:=λD σ H=>wi σ H λJ H1=>∃W:Nat->Nat->St->Hp->Prop,(∃m,W 0 m σ H1)/\∀i m σ H,W i m σ H ->
 (J.stop i H/\D.nx σ H)\/(J.go i H/\∃N:St->Hp->Prop,(∀σ' H',N σ' H'->∃m',m'<m/\W (i+1) m' σ' H')/\∀x H',J.yld i H x H'->g x σ H' λσ2 H2=>tb { D with nx:=N,ct:=N,bk:=D.nx } σ2 H2)
def mD(fp:List Addr)(h:Heap):List (Addr×Obj):=fp.filterMap λb=>(h.get? b).map λo=>(b,o)
def eo{h:Heap}{b:Addr}{o:Obj}(hb:b∈fp)(e:h.get? b=some o):(b,o)∈mD fp h:=List.mem_filterMap.mpr ⟨b,hb,by rw[e];rfl⟩
theorem sA{h:Heap}{p:Addr×Obj}(hp:p∈mD fp h):p.1∈fp/\h.get? p.1=some p.2:=by
 obtain⟨b,hb,e⟩:=List.mem_filterMap.mp hp
 cases q:h.get? b with
 | none=>rw[q] at e;cases e
 | some o =>
  rw[q] at e;have e':(b,o)=p:=Fz e;subst e';exact⟨hb,q⟩
def Inv.pinned(I:Inv X pins σ H s)(hf:∀b∈fp,vg X pins H b)(ho:∀b∈fp,∃o,s.heap.get? b=some o/\∀v,o.data≠.cell v):Inv X (pins++mD fp s.heap) σ H s :=
 I.pins_of λp hp=>(Fk.mp hp).elim (λz=>I.pin p (Fo _ z)) λz=>by
  obtain⟨hb,e⟩:=sA z;obtain⟨f0,f1,f2,_⟩:=hf p.1 hb;obtain⟨o,e',d⟩:=ho p.1 hb;rw[e] at e';cases e';exact⟨e,f0,f1,f2,d⟩
def Inv.unpinned{pl:List (Addr×Obj)}(I:Inv X (pins++pl) σ H s):Inv X pins σ H s:=I.pins_of λp hp=>I.pin p (Fo _ (Fx _ hp))
theorem pP{iter:Expr}{body:List Stmt}{wi:TI}{g:TG}{tb:TS}{pos:Pos}(hp:PassesOwn (model X.prog X.w) X.A X.env X.xe)(hc:X.calm=true)(hi:PI X tg iter wi)(hg:PG X tg g)(hb:PSs X body tb)
  (hs:∀x,foldedSetIterable iter X.env x=pure x:=by intro _;rfl):PS X (.For tg iter body [] pos) (tFor wi g tb):=by
 intro pins s σ H D I h;refine wpAny_For (ER (hi pins s σ H _ I h) λv s1 h1=>ER h1 λitv s2 h2=>?_) hs;obtain⟨it,fp,tn,J,H2,e,I2,T,st2,f2,W,⟨m0,w0⟩,turn⟩:=h2;subst e;have stat:∀ {H':Hp},(∀b∈fp,H' b=none)->∀b∈fp,vg X pins H' b:=λhn b hb=>⟨hn b hb,(f2 b hb).2⟩;refine codeAny_forLoop_any (λn s'=>∃i σ' H',Inv X pins σ' H' s'/\tn i s'.heap/\(∀b∈fp,H' b=none)/\W i n σ' H') ?_ m0 ⟨0,σ,H2,I2,st2,λb hb=>(f2 b hb).1,w0⟩;rintro n s3 ⟨i,σ3,H3,I3,st3,fr3,w3⟩
 rcases turn i n σ3 H3 w3 with⟨stop,qn⟩ | ⟨go,N,hN,step⟩
 ·refine GP hp (ER (T.done X rfl rfl rfl hc i pins s3 σ3 H3 X.xe I3 (stat fr3) st3 stop) λr s4 ⟨hr,I4⟩=>?_);subst hr;exact HI ⟨σ3,H3,I4,qn⟩
 ·refine GP hp (ER (T.item X rfl rfl rfl hc i pins s3 σ3 H3 X.xe I3 (stat fr3) st3 go) λr s4 ⟨u,hr,h4⟩=>?_);subst hr;refine GP hp (ER h4 λ_ s5 ⟨x,H5,I5,r5,y5,st5,fr5⟩=>?_);have I5':=I5.pinned (stat fr5) (T.obj _ _ st5);refine GP hp (ER (hg _ s5 σ3 H5 x u _ I5' r5 (step x H5 y5)) λ_ s6 ⟨σ6,H6,I6,q6⟩=>?_);refine GP hp (ER (hb _ s6 σ6 H6 _ I6 q6) λf s7 q7=>?_);have again:∀ {σ7:St} {H7:Hp},Inv X (pins++mD fp s5.heap) σ7 H7 s7->N σ7 H7->∃m,m<n/\∃i σ' H',Inv X pins σ' H' s7/\tn i s7.heap/\(∀b∈fp,H' b=none)/\W i m σ' H':=λ{σ7 H7} I7 n7=>by
   obtain⟨m',hm,w7⟩:=hN σ7 H7 n7;refine⟨m',hm,i+1,σ7,H7,I7.unpinned,T.keep _ _ _ st5 λb hb o e=>(I7.pin (b,o) (Fo _ (Fo _ (eo hb e)))).1,λb hb=>?_,w7⟩;obtain⟨o,e,d⟩:=T.obj _ _ st5 b hb;exact(I7.pin (b,o) (Fo _ (Fo _ (eo hb e)))).2.1
  cases f with
  | next=>obtain⟨σ7,H7,I7,n7⟩:=q7;exact again I7 n7
  | cont=>obtain⟨σ7,H7,I7,n7⟩:=q7;exact again I7 n7
  | brk=>obtain⟨σ7,H7,I7,q7⟩:=q7;exact⟨σ7,H7,I7.unpinned,q7⟩
  | ret v=>obtain⟨x7,σ7,H7,I7,r7,q7⟩:=q7;exact⟨x7,σ7,H7,I7.unpinned,r7,q7⟩
end
theorem rM{lo:Int}{n:Nat}{g:TG}{tb:TS}{D:xY}(Pv:Nat->St->Hp->Prop)(h0:Pv 0 σ H)
  (hs:∀i σ H,i<n->Pv i σ H->g (.int (lo+i)) σ H λσ2 H2=>tb { D with nx:=Pv (i+1),ct:=Pv (i+1),bk:=D.nx } σ2 H2) (hd:∀σ H,Pv n σ H->D.nx σ H) :
  ∃W:Nat->Nat->St->Hp->Prop,(∃m,W 0 m σ H)/\∀i m σ H,W i m σ H ->
   ((Itr lo n).stop i H/\D.nx σ H)\/((Itr lo n).go i H/\∃N:St->Hp->Prop,(∀σ' H',N σ' H'->∃m',m'<m/\W (i+1) m' σ' H')/\∀x H',(Itr lo n).yld i H x H'->g x σ H' λσ2 H2=>tb { D with nx:=N,ct:=N,bk:=D.nx } σ2 H2):=by
 refine⟨λi m σ H=>m=n-i/\i<=n/\Pv i σ H,⟨n,by simp,GM _,h0⟩,?_⟩;rintro i m σ H ⟨rfl,hi,p⟩
 by_cases hlt:i<n
 ·refine .inr ⟨hlt,Pv (i+1),λσ' H' p'=>⟨n-(i+1),by omega,rfl,hlt,p'⟩,λx H' y=>?_⟩;obtain⟨e,y⟩:=y;subst e y;exact hs i σ _ hlt p
 ·have e:i=n:=by omega
  subst e;exact .inl ⟨Fh _,hd σ H p⟩
end L2
namespace L2
open PySem PySem.Spec PyProof.Rows
variable {f:Value→Value→Sem Value} {op:CmpOp}
abbrev R2:=V->V->Hp->VK->Prop
def EV(X:Cx)(f:Value->Value->Sem Value)(r:R2):Prop :=
 ∀(pins:List (Addr×Obj)) (s:Shared) (σ:St) (H:Hp) (x y:V) (v u:Value) (Q:VK),Inv X pins σ H s->bB x v->bB y u->r x y H Q ->
  wpAny (model X.prog X.w) X.A (f v u) (EP X pins σ Q) X.xe s
def UnR(X:Cx)(f:Value->Sem Value)(r:V->Hp->VK->Prop):Prop :=
 ∀(pins:List (Addr×Obj)) (s:Shared) (σ:St) (H:Hp) (x:V) (v:Value) (Q:VK),Inv X pins σ H s->bB x v->r x H Q ->
  wpAny (model X.prog X.w) X.A (f v) (EP X pins σ Q) X.xe s
def bY(X:Cx)(f:Value)(r:List V->Hp->VK->Prop):Prop :=
 ∀(pins:List (Addr×Obj)) (s:Shared) (σ:St) (H:Hp) (xs:List V) (us:List Value) (Q:VK),Inv X pins σ H s->bH xs us->r xs H Q ->
  wpAny (model X.prog X.w) X.A (call f us) (EP X pins σ Q) X.xe s
def tOp(r:R2)(ta tb:TE):TE:=λσ H Q=>ta σ H λx H1=>tb σ H1 λy H2=>r x y H2 Q
def tUn(r:V->Hp->VK->Prop)(ta:TE):TE:=λσ H Q=>ta σ H λx H1=>r x H1 Q
def rI(C:Int->Int->Prop)(g:Int->Int->V):R2:=λx y H Q=>∃i j,x=.int i/\y=.int j/\C i j/\Q (g i j) H
def rI0(g:Int->Int->V):R2:=λx y H Q=>∃i j,x=.int i/\y=.int j/\Q (g i j) H
def rU(g:Int->V):V->Hp->VK->Prop:=λx H Q=>∃i,x=.int i/\Q (g i) H
section
variable {X:Cx} {a b c:Expr} {ta tb tc:TE} {pos:Pos}
theorem binT(ha:PE X a ta)(hb:PE X b tb){pins:List (Addr×Obj)}{s:Shared}{σ:St}{H:Hp}{R:V->V->Hp->Prop}(I:Inv X pins σ H s)
  (h:ta σ H λx H1=>tb σ H1 λy H2=>R x y H2) {Q:Value->Shared->Prop} {f:Value->Value->Sem Value}
  (hf:∀v u s2 x y H2,Inv X pins σ H2 s2->bB x v->bB y u->R x y H2->wpAny (model X.prog X.w) X.A (f v u) Q X.xe s2) :
  wpAny (model X.prog X.w) X.A (eval a X.env) (λv s₁=>wpAny (model X.prog X.w) X.A (eval b X.env) (λu s₂=>wpAny (model X.prog X.w) X.A (f v u) Q X.xe s₂) X.xe s₁) X.xe s:=by
 refine ER (ha pins s σ H _ I h) λv s1 ⟨x,H1,I1,r1,q1⟩=>?_;refine ER (hb pins s1 σ H1 _ I1 q1) λu s2 ⟨y,H2,I2,r2,q2⟩=>?_;exact hf v u s2 x y H2 I2 r1 r2 q2
theorem Dv{op:Operator}{r:R2}(ho:EV X (binaryOp op) r)(ha:PE X a ta)(hb:PE X b tb):PE X (.BinOp a op b pos) (tOp r ta tb):=by
 intro pins s σ H Q I h;exact wpAny_BinOp (binT ha hb I h λv u s2 x y H2 I2 rx ry q=>ho pins s2 σ H2 x y v u Q I2 rx ry q)
theorem Dq{op:UnaryOp}{r:V->Hp->VK->Prop}(ho:UnR X (unaryOp op) r)(ha:PE X a ta):PE X (.UnaryOp op a pos) (tUn r ta):=by
 intro pins s σ H Q I h;exact UnaryOp_ (ER (ha pins s σ H _ I h) λv s1 ⟨x,H1,I1,r1,q1⟩=>ho pins s1 σ H1 x v Q I1 r1 q1)
theorem opI{C:Int->Int->Prop}{g:Int->Int->Int}
  (rule:∀(i j:Int) (t u:Tok) (s:Shared) (Q:Value->Shared->Prop) (E:Value->Shared->Prop),C i j->Q (.int (g i j) s.toks) { s with toks:=s.toks+1 }->wpAny (model X.prog X.w) X.A (f (.int i t) (.int j u)) Q E s) :
  EV X f (rI C λi j=>.int (g i j)):=by
 intro pins s σ H x y v u Q I rx ry h;obtain⟨i,j,rfl,rfl,hc,q⟩:=h;obtain⟨t,rfl⟩:=rx;obtain⟨t',rfl⟩:=ry;exact rule i j t t' s _ _ hc ⟨.int (g i j),H,I.tok _,⟨_,rfl⟩,q⟩
theorem vn{g:Int->Int->Int}
  (rule:∀(i j:Int) (t u:Tok) (s:Shared) (Q:Value->Shared->Prop) (E:Value->Shared->Prop),Q (.int (g i j) s.toks) { s with toks:=s.toks+1 }->wpAny (model X.prog X.w) X.A (f (.int i t) (.int j u)) Q E s) :
  EV X f (rI0 λi j=>.int (g i j)):=by
 intro pins s σ H x y v u Q I rx ry h;obtain⟨i,j,rfl,rfl,q⟩:=h;obtain⟨t,rfl⟩:=rx;obtain⟨t',rfl⟩:=ry;exact rule i j t t' s _ _ ⟨.int (g i j),H,I.tok _,⟨_,rfl⟩,q⟩
theorem opB0{g:Int->Int->Bool}
  (rule:∀(i j:Int) (t u:Tok) (s:Shared) (Q:Value->Shared->Prop) (E:Value->Shared->Prop),Q (.bool (g i j)) s->wpAny (model X.prog X.w) X.A (f (.int i t) (.int j u)) Q E s) :
  EV X f (rI0 λi j=>.bl (g i j)):=by
 intro pins s σ H x y v u Q I rx ry h;obtain⟨i,j,rfl,rfl,q⟩:=h;obtain⟨t,rfl⟩:=rx;obtain⟨t',rfl⟩:=ry;exact rule i j t t' s _ _ ⟨.bl (g i j),H,I,rfl,q⟩
def CPow(i j:Int):Prop:=0<=j/\j<=1000000/\i.natAbs<2 ^ 64
def CMul(i j:Int):Prop:=(-(2 ^ 64)<i/\i<2 ^ 64)\/(-(2 ^ 64)<j/\j<2 ^ 64)
theorem CMul.ok{i j:Int}(h:CMul i j):IntMulOk i j:=by
 rcases h with⟨h1,h2⟩ | ⟨h1,h2⟩
 ·exact .of_left (intBits_le_64 h1 h2)
 ·exact .of_right (intBits_le_64 h1 h2)
def AT:EV X (binaryOp .Add) (rI0 λi j=>.int (i+j)):=vn λ_ _ _ _ _ _ _ q=>add_int q
def BI:EV X (binaryOp .Sub) (rI0 λi j=>.int (i-j)):=vn λ_ _ _ _ _ _ _ q=>sub_int q
def Ap:EV X (binaryOp .Mod) (rI (λ_ j=>j≠0) λi j=>.int (i.fmod j)):=opI λ_ _ _ _ _ _ _ hc q=>mod_int' hc q
def Bc:EV X (binaryOp .Pow) (rI CPow λi j=>.int (i ^ j.toNat)):=opI λ_ _ _ _ _ _ _ hc q=>pow_int_small hc.1 hc.2.1 hc.2.2 q
def Cu:EV X (binaryOp .LShift) (rI CPow λi j=>.int (i*2 ^ j.toNat)):=opI λ_ _ _ _ _ _ _ hc q=>lshift_int_small hc.1 hc.2.1 hc.2.2 q
theorem unI{f:Value->Sem Value}{g:Int->Int}
  (rule:∀(i:Int) (t:Tok) (s:Shared) (Q:Value->Shared->Prop) (E:Value->Shared->Prop),Q (.int (g i) s.toks) { s with toks:=s.toks+1 }->wpAny (model X.prog X.w) X.A (f (.int i t)) Q E s) :
  UnR X f (rU λi=>.int (g i)):=by
 intro pins s σ H x v Q I rx h;obtain⟨i,rfl,q⟩:=h;obtain⟨t,rfl⟩:=rx;exact rule i t s _ _ ⟨.int (g i),H,I.tok _,⟨_,rfl⟩,q⟩
def Cw:UnR X (unaryOp .USub) (rU λi=>.int (-i)):=unI λ_ _ _ _ _ q=>neg_int q
end
def scal:V->V->Bool
 | .non,.non=>true | .non,.int _=>true | .int _,.non=>true | .non,.bl _=>true | .bl _,.non=>true | .non,.str _=>true | .str _,.non=>true
 | .int _,.int _=>true | .bl _,.bl _=>true | .str _,.str _=>true | .byt _,.byt _=>true
 | .int _,.str _=>true | .str _,.int _=>true | .bl _,.str _=>true | .str _,.bl _=>true
 | _,_=>false
def rEq:R2:=λx y H Q=>scal x y=true/\Q (.bl (decide (x=y))) H
def rNe:R2:=λx y H Q=>scal x y=true/\Q (.bl (!decide (x=y))) H
theorem nB{i j:Int}:decide (V.int i=V.int j)=(i==j):=by
 rw[GQ];simp
theorem uA{i j:Bool}:decide (V.bl i=V.bl j)=(i==j):=by
 rw[GQ];simp
theorem nr{i j:Str}:decide (V.str i=V.str j)=(i==j):=by
 rw[GQ];simp
theorem ue{i j:Array UInt8}:decide (V.byt i=V.byt j)=(i.toList==j.toList):=by
 rw[GQ]
 cases i
 cases j
 simp
section
variable {X:Cx} {a b c:Expr} {ta tb tc:TE} {pos:Pos}
theorem aU{pins:List (Addr×Obj)}{σ:St}{H:Hp}{s:Shared}{Q:VK}{k k':Bool}(I:Inv X pins σ H s)(q:Q (.bl k) H)(e:k=k'):EP X pins σ Q (.bool k') s:=by
 subst e;exact⟨.bl k,H,I,rfl,q⟩
theorem ya:EV X (compareOp .Eq) rEq:=by
 intro pins s σ H x y v u Q I rx ry h;obtain⟨hs,q⟩:=h
 cases x with
 | non =>
  cases rx
  cases y with
  | non=>cases ry;exact PySem.EqNone.eq_none_none (aU I q (by simp))
  | bl j=>cases ry;exact PySem.EqNone.eq_none_bool (aU I q (by simp))
  | int j=>obtain⟨t',rfl⟩:=ry;exact PySem.EqNone.eq_none_int (aU I q (by simp))
  | str j=>obtain⟨t',rfl⟩:=ry;exact PySem.EqNone.eq_none_str (aU I q (by simp))
  | _=>exact absurd (show false=true from hs) Fg
 | bl i =>
  cases rx
  cases y with
  | non=>cases ry;exact PySem.EqNone.eq_bool_none (aU I q (by simp))
  | bl j=>cases ry;exact eq_bool (aU I q uA)
  | str j=>obtain⟨t',rfl⟩:=ry;exact PySem.EqMixed.eq_bool_str (aU I q (by simp))
  | _=>exact absurd (show false=true from hs) Fg
 | int i =>
  obtain⟨t,rfl⟩:=rx
  cases y with
  | non=>cases ry;exact PySem.EqNone.eq_int_none (aU I q (by simp))
  | int j=>obtain⟨t',rfl⟩:=ry;exact eq_int (aU I q nB)
  | str j=>obtain⟨t',rfl⟩:=ry;exact PySem.EqMixed.eq_int_str (aU I q (by simp))
  | _=>exact absurd (show false=true from hs) Fg
 | str i =>
  obtain⟨t,rfl⟩:=rx
  cases y with
  | non=>cases ry;exact PySem.EqNone.eq_str_none (aU I q (by simp))
  | bl j=>cases ry;exact PySem.EqMixed.eq_str_bool (aU I q (by simp))
  | int j=>obtain⟨t',rfl⟩:=ry;exact PySem.EqMixed.eq_str_int (aU I q (by simp))
  | str j=>obtain⟨t',rfl⟩:=ry;exact eq_str (aU I q nr)
  | _=>exact absurd (show false=true from hs) Fg
 | byt i =>
  obtain⟨t,rfl⟩:=rx
  cases y with
  | byt j=>obtain⟨t',rfl⟩:=ry;exact PySem.W.eq_bytes (aU I q ue)
  | _=>exact absurd (show false=true from hs) Fg
 | _=>cases y<;>exact absurd (show false=true from hs) Fg
theorem zT:EV X (compareOp .NotEq) rNe:=by
 intro pins s σ H x y v u Q I rx ry h;obtain⟨hs,q⟩:=h
 cases x with
 | non =>
  cases rx
  cases y with
  | non=>cases ry;exact PySem.EqNone.ne_none_none (aU I q (by simp))
  | bl j=>cases ry;exact PySem.EqNone.ne_none_bool (aU I q (by simp))
  | int j=>obtain⟨t',rfl⟩:=ry;exact PySem.EqNone.ne_none_int (aU I q (by simp))
  | str j=>obtain⟨t',rfl⟩:=ry;exact PySem.EqNone.ne_none_str (aU I q (by simp))
  | _=>exact absurd (show false=true from hs) Fg
 | bl i =>
  cases rx
  cases y with
  | non=>cases ry;exact PySem.EqNone.ne_bool_none (aU I q (by simp))
  | bl j=>cases ry;exact ne_bool (aU I q (Gs not uA))
  | str j=>obtain⟨t',rfl⟩:=ry;exact PySem.EqMixed.ne_bool_str (aU I q (by simp))
  | _=>exact absurd (show false=true from hs) Fg
 | int i =>
  obtain⟨t,rfl⟩:=rx
  cases y with
  | non=>cases ry;exact PySem.EqNone.ne_int_none (aU I q (by simp))
  | int j=>obtain⟨t',rfl⟩:=ry;exact ne_int (aU I q (Gs not nB))
  | str j=>obtain⟨t',rfl⟩:=ry;exact PySem.EqMixed.ne_int_str (aU I q (by simp))
  | _=>exact absurd (show false=true from hs) Fg
 | str i =>
  obtain⟨t,rfl⟩:=rx
  cases y with
  | non=>cases ry;exact PySem.EqNone.ne_str_none (aU I q (by simp))
  | bl j=>cases ry;exact PySem.EqMixed.ne_str_bool (aU I q (by simp))
  | int j=>obtain⟨t',rfl⟩:=ry;exact PySem.EqMixed.ne_str_int (aU I q (by simp))
  | str j=>obtain⟨t',rfl⟩:=ry;exact ne_str (aU I q (Gs not nr))
  | _=>exact absurd (show false=true from hs) Fg
 | byt i =>
  obtain⟨t,rfl⟩:=rx
  cases y with
  | byt j=>obtain⟨t',rfl⟩:=ry;exact PySem.W.ne_bytes (aU I q (Gs not ue))
  | _=>exact absurd (show false=true from hs) Fg
 | _=>cases y<;>exact absurd (show false=true from hs) Fg
def C9:EV X (compareOp .Lt) (rI0 λi j=>.bl (decide (i<j))):=opB0 λ_ _ _ _ _ _ _ q=>lt_int q
def Ec:EV X (compareOp .LtE) (rI0 λi j=>.bl (decide (i<=j))):=opB0 λ_ _ _ _ _ _ _ q=>le_int q
def C7:EV X (compareOp .Gt) (rI0 λi j=>.bl (decide (j<i))):=opB0 λ_ _ _ _ _ _ _ q=>gt_int q
def Dm:EV X (compareOp .GtE) (rI0 λi j=>.bl (decide (j<=i))):=opB0 λ_ _ _ _ _ _ _ q=>ge_int q
theorem Ce:EV X (compareOp .Is) (λx y H Q=>y=.non/\Q (.bl (decide (x=.non))) H):=by
 intro pins s σ H x y v u Q I rx ry h;obtain⟨rfl,q⟩:=h
 cases ry
 refine is_none_gen (aU I q ?_)
 cases x<;>first
  | (cases rx;rfl)
  | (obtain⟨t,rfl⟩:=rx;rfl)
theorem y7:EV X (compareOp .IsNot) (λx y H Q=>y=.non/\Q (.bl (!decide (x=.non))) H):=by
 intro pins s σ H x y v u Q I rx ry h;obtain⟨rfl,q⟩:=h
 cases ry
 refine isnot_none_gen (aU I q ?_)
 cases x<;>first
  | (cases rx;rfl)
  | (obtain⟨t,rfl⟩:=rx;rfl)
theorem EV.or{r r':R2}(h:EV X f r)(h':EV X f r'):EV X f (λx y H Q=>r x y H Q\/r' x y H Q):=by
 intro pins s σ H x y v u Q I rx ry q
 rcases q with q | q
 ·exact h pins s σ H x y v u Q I rx ry q
 ·exact h' pins s σ H x y v u Q I rx ry q
theorem av(b:Expr)(h:op≠.In:=by decide)(h2:op≠.NotIn:=by decide):behindInMarks op b=false:=by
 have e1:(op==CmpOp.In)=false:=by cases op<;>first | rfl | exact absurd rfl h
 have e2:(op==CmpOp.NotIn)=false:=by cases op<;>first | rfl | exact absurd rfl h2
 cases b<;>simp[behindInMarks,e1,e2]
theorem xN{r:R2}(ho:EV X (compareOp op) r)(ha:PE X a ta)(hb:PE X b tb)(hm:behindInMarks op b=false):PE X (.Compare a [op] [b] pos) (tOp r ta tb):=by
 intro pins s σ H Q I h;exact wpAny_Compare1 (binT ha hb I h λv u s2 x y H2 I2 rx ry q=>ho pins s2 σ H2 x y v u Q I2 rx ry q) hm
def Db(t:TE):TT:=λσ H Q=>t σ H λx H'=>∃k,x=.bl k/\Q k H'
theorem Aw{r:R2}(ho:EV X (compareOp op) r)(ha:PE X a ta)(hb:PE X b tb)(hm:behindInMarks op b=false):PT X (.Compare a [op] [b] pos) (Db (tOp r ta tb)):=by
 intro pins s σ H Q I h
 refine wpAny_isTrue_Compare1 (ER (ha pins s σ H _ I h) λv s1 ⟨x,H1,I1,r1,q1⟩=>ER (hb pins s1 σ H1 _ I1 q1) λu s2 ⟨y,H2,I2,r2,q2⟩ =>
  ER (ho pins s2 σ H2 x y v u _ I2 r1 r2 q2) λc s3 ⟨z,H3,I3,r3,k,e,q3⟩=>?_) hm
 subst e
 cases r3
 exact Gy ⟨H3,I3,q3⟩
theorem pd:(sizeLine:Nat)<2 ^ 63:=by rw[sizeLine_eq];decide
theorem fR{x:V}{us:List Value}(r:bH [x] us):∃u,us=[u]/\bB x u:=by
 cases r with
 | cons r1 r2=>cases r2;exact⟨_,rfl,r1⟩
theorem Ch{x y:V}{us:List Value}(r:bH [x,y] us):∃u w',us=[u,w']/\bB x u/\bB y w':=by
 cases r with
 | cons r1 r2 =>
  cases r2 with
  | cons r3 r4=>cases r4;exact⟨_,_,rfl,r1,r3⟩
theorem vz:bY X (.builtin "abs") (λxs H Q=>∃i,xs=[.int i]/\Q (.int (if i<0 then -i else i)) H):=by
 intro pins s σ H xs us Q I r h;obtain⟨i,rfl,q⟩:=h;obtain⟨u,rfl,t,rfl⟩:=fR r;exact call_abs_int λu tk=>⟨.int (if i<0 then -i else i),H,I.tok _,⟨_,rfl⟩,q⟩
theorem tK(hc:X.calm=true):bY X (.builtin "max") (λxs H Q=>∃i j,xs=[.int i,.int j]/\Q (.int (if j>i then j else i)) H):=by
 intro pins s σ H xs us Q I r h;obtain⟨i,j,rfl,q⟩:=h;obtain⟨u,w',rfl,⟨t,rfl⟩,⟨t',rfl⟩⟩:=Ch r;refine max_two_ints (I.ok.hd hc) λh' tk k=>⟨_,H,I.kept k,?_,q⟩
 by_cases hj:j>i
 ·rw[Fs hj,Fs hj];exact⟨_,rfl⟩
 ·rw[Fp hj,Fp hj];exact⟨_,rfl⟩
theorem sj:bY X (.type "int") (λxs H Q=>(∃i,xs=[.int i]/\Q (.int i) H)\/∃k,xs=[.bl k]/\Q (.int (if k then 1 else 0)) H):=by
 intro pins s σ H xs us Q I r h
 rcases h with⟨i,rfl,q⟩ | ⟨k,rfl,q⟩
 ·obtain⟨u,rfl,t,rfl⟩:=fR r;exact call_int_int ⟨.int i,H,I,⟨_,rfl⟩,q⟩
 ·obtain⟨u,rfl,r1⟩:=fR r
  cases r1
  exact call_int_bool ⟨.int (if k then 1 else 0),H,I.tok _,⟨_,rfl⟩,q⟩
end
end L2
namespace L2
open PySem PySem.Spec PyProof.Rows
structure ObjM(h:Heap)(x dx C:Addr)(mA:Str->Option Value):Prop where
 obj:h.get? x=some (PySem.W.instObj C dx)
 ns:h.Ns1 dx mA
 ne:dx≠x
theorem ua{h:Heap}{dx:Addr}{mA:Str->Option Value}(n:h.Ns1 dx mA):∃od,h.get? dx=some od/\∀name,PySem.W.lookIn name od=some (mA name):=by
 obtain⟨o,es,ep,ho,hd,hk,_,hm⟩:=n;refine⟨o,ho,λname=>?_⟩;have e:=hm name;unfold nsFind findBy at e;rw[<- Array.find?_toList] at e;unfold PySem.W.lookIn;rw[hd]
 dsimp only
 split
 ·rename_i y q
  rw[q] at e;exact Gs some e
 ·rename_i q
  rw[q] at e;have a:es.toList.any (·.refKey)=false:=by
   rw[List.any_eq_false];intro y hy;obtain⟨z,t,hkey⟩:=hk y (Array.mem_toList_iff.mp hy);simp[DictEntry.refKey,hkey]
  have a':¬ es.toList.any (·.refKey)=true:=by rw[a];exact Fg
  rw[Fp a'];exact Gs some e
def ObjM.look{h:Heap}{x dx C:Addr}{mA:Str->Option Value}(I:ObjM h x dx C mA):∃od,PySem.W.InstAt h x (PySem.W.instObj C dx) C (some od)/\∀name,PySem.W.lookIn name od=some (mA name) :=
 let ⟨od,ho,hl⟩:=ua I.ns
 ⟨od,⟨I.obj,rfl,rfl,ho⟩,hl⟩
section
variable {prog:Program} {w:World} {A:Around} {E:Value→Shared→Prop} {s:Shared} {K:PySem.W.Frag} {x dx C f:Addr} {mA:Str→Option Value} {name:Str} {v:Value}
theorem nN{ns:List Str}{Q:Unit->Shared->Prop}(X:K.In s.heap)(I:ObjM s.heap x dx C mA)
  (hs:PySem.W.findIn K (.ref C) "__setattr__"=some (some (.builtin "object.__setattr__"))) (hp:PySem.W.plainOver K C=true) (ht:PySem.W.takerIn K C name=some none) (hh:PySem.W.hasDictIn K C=true)
  (hw:PySem.Within mA ns) (hsz:ns.length<=sizeLine)
  (h:∀h',ObjM h' x dx C (λy=>if y=name then some v else mA y)->Heap.SameBut dx s.heap h'->Q () { s with heap:=h',toks:=s.toks+2 }) :
  wpAny (model prog w) A (setAttr (.ref x) name v) Q E s:=by
 obtain⟨od,J,hl⟩:=I.look;refine PySem.W.set_plain X J hs (PySem.W.osa_open (s:={ s with toks:=s.toks+1 }) (r:=none) X J hp ht λb=>?_);obtain⟨cd,hc,hd'⟩:=PySem.W.any_some hh;have hx:s.heap.get? x=some ⟨.ref C,some dx,.plain,#[]⟩:=I.obj;refine Fc (Ft (Fc (Fc (wpAny_loadPart hx (Fc (PySem.W.Looks.here (s:={ s with toks:=s.toks+1 }) (PySem.W.looks_clsIn X hc) ?_))))));rw[hd'];refine Ft (a:=some dx) (Fc (Ft (Fc ?_)));refine wpAny_nsSet1 (s:={ s with toks:=s.toks+1 }) I.ns λh' hn2 hs2=>?_;obtain⟨oD,esD,epD,hoD,hdD,hcD⟩:=hn2.count (PySem.Within.cons name v hw);refine Fc (wpAny_lookBehind hoD (by rw[hdD];exact pastItsLine_dict (Fa hcD (by rw[Fl];omega))) ?_);exact Ft (h _ ⟨(hs2.2 _ (Ne.symm I.ne)).trans I.obj,hn2,I.ne⟩ hs2)
end
theorem qy.some_of{v:V}{o:Option Value}(r:qy (some v) o):∃u,o=some u/\bB v u:=by
 cases o with
 | none=>exact(show False from r).elim
 | some u=>exact⟨u,rfl,r⟩
section
variable {P:Program} {w:World} {H H':Hp} {h h':Heap} {a C dx:Addr} {fs fs':List (Str×V)}
theorem Ad(hok:EX P w H h)(e:H a=some (.ins C dx fs)):∃mA,ObjM h a dx C mA/\(∀f,qy (fs.lookup f) (mA f))/\PySem.Within mA (fs.map (·.1))/\fs.length<=1000/\H dx=some (.own a):=by
 obtain⟨d,z,ne,ob,mA,n,r,q⟩:=(show bV P w H h a (.ins C dx fs) from hok a _ e);exact⟨mA,⟨ob,n,ne⟩,r,q,z,d⟩
end
structure Cls(K:PySem.W.Frag)(C:Addr):Prop where
 pg:PySem.W.plainGet K C Str.empty=true
 hd:PySem.W.hasDictIn K C=true
 po:PySem.W.plainOver K C=true
 sa:PySem.W.findIn K (.ref C) "__setattr__"=some (some (.builtin "object.__setattr__"))
def Cls.get{K:PySem.W.Frag}{C:Addr}(c:Cls K C)(f:Str):PySem.W.plainGet K C f=true:=c.pg
section
variable {X:Cx} {pins:List (Addr×Obj)} {σ:St} {H:Hp} {s:Shared} {a C dx:Addr} {fs:List (Str×V)} {f:Str} {v:V} {A:Around} {E:Value→Shared→Prop}
end
section
variable {X:Cx} {o e value:Expr} {f:Str} {pos pos' tpos:Pos} {ta tv:TE}
end
section
variable {X:Cx} {pins:List (Addr×Obj)} {σ:St} {H:Hp} {s:Shared} {A:Around} {E:Value→Shared→Prop} {Q:Value→Shared→Prop} {c:Value} {b:Bool}
inductive rE(K:PySem.W.Frag)(H:Hp):V->Value->Prop where
 | non:rE K H .non (.type "NoneType")
 | bl (x:Bool):rE K H (.bl x) (.type "bool")
 | int (i:Int):rE K H (.int i) (.type "int")
 | str (x:Str):rE K H (.str x) (.type "str")
 | flt (x:UInt64):rE K H (.flt x) (.type "float")
 | lst {a:Addr} {xs:List V} (e:H a=some (.lst xs)):rE K H (.ref a) (.type "list")
 | frz {a:Addr} {o:Obj} {xs:List V} (e:H a=some (.frz o (.lst xs))):rE K H (.ref a) (.type "list")
 | tup {a:Addr} {xs:List V} (e:H a=some (.tup xs)):rE K H (.ref a) (.type "tuple")
 | dK {a:Addr} {kvs:List (E3×V)} (e:H a=some (.dK kvs)):rE K H (.ref a) (.type "dict")
 | dT {a:Addr} {kvs:List (List E3×V)} (e:H a=some (.dT kvs)):rE K H (.ref a) (.type "dict")
 | ins {a C dx:Addr} {fs:List (Str×V)} (e:H a=some (.ins C dx fs)) (cl:Cls K C) (ha:PySem.W.findIn K (.ref C) "__class__"=some (some (.builtin "object.__class__")))
   (hn:PySem.W.specialIn K (.builtin "object.__class__") "__get__"=some (some (.builtin "getset_descriptor.__get__"))) (htk:PySem.W.takesIn K (.builtin "object.__class__")=some true)
   (hm:PySem.W.mroIn K C (.type "object")=some true):rE K H (.ref a) (.ref C)
theorem dr{x:V}{u t:Value}(I:Inv X pins σ H s)(rx:bB x u)(ty:rE X.K H x t)(e:PySem.W.kitOne X.K t c=some b)(h:∀tk,Q (.bool b) { s with toks:=tk }) :
  wpAny (model X.prog X.w) A (call (.builtin "isinstance") [u,c]) Q E s:=by
 cases ty with
 | non=>cases (show u=Value.none from rx);exact FY PySem.W.kitx_none I.kIn True.intro e (λz=>nomatch z) h
 | bl y=>cases (show u=Value.bool y from rx);exact FY PySem.W.kitx_bool I.kIn True.intro e (λz=>nomatch z) h
 | int i=>obtain⟨t,q⟩:=(show ∃t,u=Value.int i t from rx);cases q;exact FY PySem.W.kitx_int I.kIn True.intro e (λz=>nomatch z) h
 | str y=>obtain⟨t,q⟩:=(show ∃t,u=Value.str y t from rx);cases q;exact FY PySem.W.kitx_str I.kIn True.intro e (λz=>nomatch z) h
 | flt y=>obtain⟨t,q⟩:=(show ∃t,u=Value.float y t from rx);cases q;exact FY PySem.W.kitx_float I.kIn True.intro e (λz=>nomatch z) h
 | @lst a xs ea =>
  cases (show u=Value.ref a from rx)
  obtain⟨_,_,n,_,h1⟩:=(show bV X.prog X.w H s.heap a (.lst xs) from I.hok a _ ea);exact FY PySem.W.kitx_list I.kIn ⟨_,h1,rfl⟩ e (λz=>nomatch z) h
 | @frz a ob xs ea =>
  cases (show u=Value.ref a from rx)
  obtain⟨_,_,_,n,_,h1⟩:=(show bV X.prog X.w H s.heap a (.frz ob (.lst xs)) from I.hok a _ ea);exact FY PySem.W.kitx_list I.kIn ⟨_,h1,rfl⟩ e (λz=>nomatch z) h
 | @tup a xs ea =>
  cases (show u=Value.ref a from rx)
  obtain⟨_,_,_,p⟩:=(show bV X.prog X.w H s.heap a (.tup xs) from I.hok a _ ea);obtain⟨o,h1,h2,_⟩:=p;exact FY PySem.W.kitx_tuple I.kIn ⟨o,h1,h2⟩ e (λz=>nomatch z) h
 | @dK a kvs ea =>
  cases (show u=Value.ref a from rx)
  obtain⟨_,_,vs,_,p⟩:=(show bV X.prog X.w H s.heap a (.dK kvs) from I.hok a _ ea);obtain⟨o,es,ep,h1,h2,_⟩:=p;exact FY Hr I.kIn ⟨o,h1,h2.1⟩ e (λz=>nomatch z) h
 | @dT a kvs ea =>
  cases (show u=Value.ref a from rx)
  obtain⟨_,_,xs,_,o,es,ep,h1,h2,_⟩:=(show bV X.prog X.w H s.heap a (.dT kvs) from I.hok a _ ea);exact FY Hr I.kIn ⟨o,h1,h2.1⟩ e (λz=>nomatch z) h
 | @ins a C dx fs ea cl ha hn htk hm =>
  cases (show u=Value.ref a from rx)
  obtain⟨mA,O,_⟩:=Ad I.hok ea;obtain⟨od,J,_⟩:=O.look;exact FY (PySem.W.kitx_own (cl.get _) cl.hd ha hn htk hm) I.kIn J e (λz=>nomatch z) h
end
end L2
namespace L2
open PySem PySem.Spec PyProof.Rows
variable {k:Nat} {A:Around} {P:Program} {w:World} {K:PySem.W.Frag} {mg:Str→Option Value} {base:Heap} {f:Addr} {fd:FuncData} {ps:List Str} {x:Str}
structure fS(k:Nat)(A:Around):Prop where
 hd:A.handled=none
 dp:A.depth+3*k+5<recursionLimit
 un:A.units+16*k+200<cLine
def fS.mono{j:Nat}(r:fS k A)(h:j<=k):fS j A:=⟨r.hd,by have:=r.dp;omega,by have:=r.un;omega⟩
def fS.deeper(r:fS (k+1) A)(env:Env):fS k (A.deeper env) :=
 ⟨r.hd,by have:=r.dp;show A.depth+1+3*k+5<_;omega,by have:=r.un;show A.units+3+16*k+200<_;omega⟩
theorem fS.depth(r:fS k A):A.depth<recursionLimit:=by have:=r.dp;omega
theorem fS.units(r:fS k A):A.units+64<cLine:=by have:=r.un;omega
def tNil:TA:=λ_ H Q=>Q [] H
def Ed(ta:TE)(tr:TA):TA:=λσ H Q=>ta σ H λx H1=>tr σ H1 λxs H2=>Q (x::xs) H2
section
variable {X:Cx} {e:Expr} {es:List Expr} {te:TE} {t:TA} {pos:Pos}
def eQ:PA X [] tNil:=λ_ _ _ _ H Q I h=>Calls.spliced_nil ⟨[],H,I,.nil,h⟩
theorem bI(ha:PE X e te)(hr:PA X es t)(hs:starEach (e::es) X.env=(false,eval e X.env)::starEach es X.env:=by rfl):PA X (e::es) (Ed te t):=by
 intro pos pins s σ H Q I h;rw[hs];show wpAny _ _ (spliced ((false,eval e X.env)::backTo pos (starEach es X.env))) _ _ s;refine Calls.spliced_cons (ER (ha pins s σ H _ I h) λu s1 ⟨x,H1,I1,r1,q1⟩=>?_);exact ER (hr pos pins s1 σ H1 _ I1 q1) λus s2 ⟨xs,H2,I2,r2,q2⟩=>⟨x::xs,H2,I2,.cons r1 r2,q2⟩
def tTup(t:TA):TE:=λσ H Q=>t σ H λxs H1=>xs.length<=sizeLine/\∀p,H1 p=none->Q (.ref p) (EE H1 p (.tup xs))
def tLst(t:TA):TE:=λσ H Q=>t σ H λxs H1=>xs.length<=sizeLine/\∀p,H1 p=none->Q (.ref p) (EE H1 p (.lst xs))
theorem Bi{x1}(h:PA X es t):PE X (.Tuple es x1 pos) (tTup t):=by
 intro pins s σ H Q I hq;refine wpAny_Tuple_spliced (ER (h pos pins s σ H _ I hq) λus s1 ⟨xs,H1,I1,r,z,q⟩=>⟨by rw[<- r.length];exact z,?_⟩);have hf:H1 s1.heap.objs.size=none:=I1.hok.fresh (Fh _);refine⟨.ref s1.heap.objs.size,EE H1 s1.heap.objs.size (.tup xs),I1.laid (t':=s1.toks) (λb u e=>Heap.get?_push_of_some _ e) (Fh _) ?_,rfl,q _ hf⟩;exact⟨z,us,r,⟨_,Heap.get?_push_size _ rfl,rfl,_,rfl⟩⟩
theorem sQ(h:PA X es t):PE X (.List es pos) (tLst t):=by
 intro pins s σ H Q I hq;refine wpAny_List_spliced (ER (h pos pins s σ H _ I hq) λus s1 ⟨xs,H1,I1,r,z,q⟩=>⟨by rw[<- r.length];exact z,?_⟩);have hf:H1 s1.heap.objs.size=none:=I1.hok.fresh (Fh _);refine⟨.ref s1.heap.objs.size,EE H1 s1.heap.objs.size (.lst xs),I1.laid (t':=s1.toks) (λb u e=>Heap.get?_push_of_some _ e) (Fh _) ?_,rfl,q _ hf⟩;exact⟨z,us,0,r,Heap.get?_push_size _ rfl⟩
end
abbrev Sp:=List V->Hp->VK->XK->Prop
abbrev CXT:=List Env->Hp->Shared->XK->Value->Shared->Prop
structure Env0(P:Program)(w:World)(K:PySem.W.Frag)(mg:Str->Option Value)(base:Heap)(A:Around)(outer:List Env)(s:Shared)(H:Hp):Prop where
 frames:A.frames=some outer
 mod:Mod K mg base
 bs:∀b o,base.get? b=some o->s.heap.get? b=some o/\H b=none
 bsz:base.objs.size<=s.heap.objs.size
 funs:s.heap.FunFrames base outer
 frf:∀b∈frs outer,H b=none
 hok:EX P w H s.heap
 bare:AllBare s.gens
def CE(outer:List Env)(P:Program)(w:World)(H:Hp)(s:Shared)(Q:VK)(u:Value)(s':Shared):Prop :=
 ∃v H',s'.os=s.os/\AllBare s'.gens/\Un (frs outer) [] H H' s.heap s'.heap/\EX P w H' s'.heap/\bB v u/\Q v H'
def CR(CX:CXT)(outer:List Env)(P:Program)(w:World)(H:Hp)(s:Shared)(Q:VK)(E:XK)(r:Result)(s':Shared):Prop :=
 match r with
 | .ok (.ret u)=>CE outer P w H s Q u s'
 | .ok _=>False
 | .error e=>CX outer H s E e s'
structure kX(P:Program)(w:World)(K:PySem.W.Frag)(mg:Str->Option Value)(base:Heap)(CX:CXT)(k:Nat)(f:Addr)(fd:FuncData)(ps:List Str)(sp:Sp):Prop where
 len:∀vs H Q E,sp vs H Q E->vs.length=ps.length
 run:∀(A:Around) (outer:List Env) (s:Shared) (H:Hp) (args:Args) (us:List Value) (vs:List V) (Q:VK) (E:XK),fS k A->Env0 P w K mg base A outer s H->BindsTo s fd args (ps.zip us)->bH vs us->sp vs H Q E ->
  codeAny (model P w) A (.call (.ref f) args) (CR CX outer P w H s Q E) s
def kX.mono{CX:CXT}{j:Nat}{sp:Sp}(F:kX P w K mg base CX j f fd ps sp)(h:j<=k) :
  kX P w K mg base CX k f fd ps sp:=⟨F.len,λA outer s H args us vs Q E hr=>F.run A outer s H args us vs Q E (hr.mono h)⟩
def kX.imp{CX:CXT}{sp sp':Sp}(F:kX P w K mg base CX k f fd ps sp)
  (h:∀vs H Q E,sp' vs H Q E->sp vs H Q E):kX P w K mg base CX k f fd ps sp' :=
 ⟨λvs H Q E q=>F.len vs H Q E (h _ _ _ _ q),λA outer s H args us vs Q E hr he hb hv hs=>F.run A outer s H args us vs Q E hr he hb hv (h _ _ _ _ hs)⟩
section
variable {X:Cx} {pins:List (Addr×Obj)} {σ:St} {H:Hp} {s s':Shared}
def Inv.env0(I:Inv X pins σ H s):Env0 X.prog X.w X.K X.mg X.base X.A X.stack s H :=
 ⟨I.ok.frames,I.ok.mod,I.bs,Fa I.ok.bsz I.sz,I.stack,I.stkFree,I.hok,I.bare⟩
theorem Inv.after{Q:VK}{u:Value}(I:Inv X pins σ H s)(h:CE X.stack X.prog X.w H s Q u s'):EP X pins σ Q u s':=by
 obtain⟨v,H',os,bare,un,hok,r,q⟩:=h;obtain⟨hh,g,d,t,os'⟩:=s';obtain rfl:os'=s.os:=os;exact⟨v,H',I.call (h':=hh) (g':=g) (d':=d) (t':=t) (ch:=[]) un hok bare (λb z=>absurd z (by simp)),r,q⟩
end
def DM(sp:Sp)(dvs:List V)(E:XK)(t:TA):TE:=λσ H Q=>t σ H λvs H1=>sp (vs++dvs) H1 Q E
def mj(K:PySem.W.Frag)(fd:FuncData)(ps:List Str)(ds:List Value):Prop :=
 ∀(s:Shared) (us:List Value),K.In s.heap->(us++ds).length=ps.length->BindsTo s fd ⟨us,[]⟩ (ps.zip (us++ds))
def mj.all(h:∀us:List Value,us.length=ps.length->bindArgs fd ⟨us,[]⟩=pure (ps.zip us)):mj K fd ps []:=λs us _ hl=>by
 rw[FZ] at hl ⊢;exact .of_eq (h us hl)
def rL(CX:CXT)(X:Cx)(E:XK):Prop:=∀(pins:List (Addr×Obj)) (σ:St) (H:Hp) (s:Shared) (e:Value) (s':Shared),Inv X pins σ H s->CX X.stack H s E e s'->X.xe e s'
section
variable {X:Cx} {CX:CXT} {k:Nat} {f C:Addr} {fd:FuncData} {ps:List Str} {sp:Sp} {dvs:List V} {ds:List Value} {E:XK} {x m:Str} {p pos apos:Pos} {e o:Expr} {es:List Expr} {ta:TE} {t:TA}
theorem AW{pins:List (Addr×Obj)}{σ:St}{H:Hp}{s:Shared}{Q:VK}{us:List Value}{vs:List V}(F:kX X.prog X.w X.K X.mg X.base CX k f fd ps sp)(hr:fS k X.A)(hb:mj X.K fd ps ds)(hd:bH dvs ds)(hx:rL CX X E)
  (I:Inv X pins σ H s) (r:bH vs us) (h:sp (vs++dvs) H Q E):wpAny (model X.prog X.w) X.A (call (.ref f) us) (EP X pins σ Q) X.xe s:=by
 have r2:bH (vs++dvs) (us++ds):=r.append hd
 have hl:(us++ds).length=ps.length:=by rw[<- r2.length];exact F.len _ _ _ _ h
 refine wpAny_call (codeAny_mono (F.run X.A X.stack s H ⟨us,[]⟩ (us++ds) (vs++dvs) Q E hr I.env0 (hb s us I.kIn hl) r2 h) λr s' hq=>?_)
 cases r with
 | error e=>exact hx pins σ H s e s' I hq
 | ok fl =>
  cases fl with
  | ret u=>exact I.after hq
  | next=>exact False.elim hq
  | brk=>exact False.elim hq
  | cont=>exact False.elim hq
theorem lI(F:kX X.prog X.w X.K X.mg X.base CX k f fd ps sp)(hr:fS k X.A)(hg:Gl X x)(hm:X.mg x=some (.ref f))(hk:PySem.W.keepIn X.K (.ref f)=true)(hb:mj X.K fd ps ds)(hd:bH dvs ds)(hx:rL CX X E)
  (ha:PA X (e::es) t) (hdb:(x==("__debug__":Str))=false:=by decide) (he:starEach (e::es) X.env=(false,eval e X.env)::starEach es X.env:=by rfl) (hpl:(backTo pos (starEach es X.env)).any (·.1)=false:=by rfl) :
  PE X (.Call (.Name x p) (e::es) [] pos) (DM sp dvs E t):=by
 intro pins s σ H Q I h;refine wpAny_Call_Name_kw (tX I hg hm ?_ hdb);refine PySem.W.callWith_K (h₀:=X.base) I.ok.mod.kin hk (ER (ha pos pins s σ H _ I h) λus s1 ⟨vs,H1,I1,r,q⟩=>⟨I1.kIn,?_⟩) he hpl;exact AW F hr hb hd hx I1 r q
end
section
variable {X:Cx} {CX:CXT} {k:Nat} {f C:Addr} {fd:FuncData} {ps ks:List Str} {sp:Sp} {E:XK} {x m:Str} {p pos apos kpos:Pos} {e o:Expr} {es:List Expr} {kws:List Keyword} {te ta:TE} {t tk:TA} {nm:Option Str}
variable {g:List Value→List Value→List Value} {gV:List V→List V→List V}
end
structure aA(N P:List Str)(sc:Scope):Prop where
 kind:sc.kind=.function
 co:sc.isCoroutine=false
 gen:sc.isGenerator=false
 nd:N.Nodup
 pre:N.take P.length=P
 par:∀x∈P,sc.names.lookup x=some .local\/sc.names.lookup x=some .cell
 nofree:∀y∈sc.names,y.2≠.free
theorem lP{kindOf:Str->Option NameKind}:∀ {binds:List (Str×Value)} {m:Str->Option Value},(∀v,(x,v)∉binds)->bindL kindOf binds m x=m x
 | [],_,_=>rfl
 | (n,v)::r,m,h=>by
  unfold bindL;rw[lP λw hw=>h w (E9 _ hw)]
  split
  ·have:x≠n:=by rintro rfl;exact h v Fe
   simp[this]
  ·rfl
theorem lV{kindOf:Str->Option NameKind}:∀ {binds:List (Str×Value)} {m:Str->Option Value},(∀v,(x,v)∉binds)->bindC kindOf binds m x=m x
 | [],_,_=>rfl
 | (n,v)::r,m,h=>by
  unfold bindC;rw[lV λw hw=>h w (E9 _ hw)]
  split
  ·rfl
  ·have:x≠n:=by rintro rfl;exact h v Fe
   simp[this]
theorem mf{kindOf:Str->Option NameKind}{v:Value}:∀ {P:List Str} {vs:List Value} {i:Nat} {m:Str->Option Value},P.Nodup->P[i]?=some x->vs[i]?=some v->kindOf x=some .local ->
  bindL kindOf (P.zip vs) m x=some v
 | [],_,_,_,_,h,_,_=>by simp at h
 | _::_,[],_,_,_,_,h,_=>by simp at h
 | p::P,w::vs,0,m,nd,h1,h2,hk=>by
  simp at h1 h2;subst h1;subst h2;show bindL kindOf ((p,w)::P.zip vs) m p=_;unfold bindL;rw[lP λv hv=>(F9.mp nd).1 (FA hv).1,Fs hk];simp
 | p::P,w::vs,i+1,m,nd,h1,h2,hk=>by
  show bindL kindOf ((p,w)::P.zip vs) m x=_
  unfold bindL;exact mf (i:=i) (F9.mp nd).2 (by simpa using h1) (by simpa using h2) hk
theorem mo{kindOf:Str->Option NameKind}{v:Value}:∀ {P:List Str} {vs:List Value} {i:Nat} {m:Str->Option Value},P.Nodup->P[i]?=some x->vs[i]?=some v->kindOf x≠some .local ->
  bindC kindOf (P.zip vs) m x=some v
 | [],_,_,_,_,h,_,_=>by simp at h
 | _::_,[],_,_,_,_,h,_=>by simp at h
 | p::P,w::vs,0,m,nd,h1,h2,hk=>by
  simp at h1 h2;subst h1;subst h2;show bindC kindOf ((p,w)::P.zip vs) m p=_;unfold bindC;rw[lV λv hv=>(F9.mp nd).1 (FA hv).1,Fp hk];simp
 | p::P,w::vs,i+1,m,nd,h1,h2,hk=>by
  show bindC kindOf ((p,w)::P.zip vs) m x=_
  unfold bindC;exact mo (i:=i) (F9.mp nd).2 (by simpa using h1) (by simpa using h2) hk
def start(N:List Str)(vs:List V):St:=vs.map some++List.replicate (N.length-vs.length) none
def uG(CX:CXT)(P:Program)(w:World)(K:PySem.W.Frag)(mg:Str->Option Value)(base:Heap)(N:List Str)(qual:Str)(scope:Scope)(f:Addr)(cd:Value)(A:Around)(outer:List Env)(s:Shared)(H:Hp)(E:XK):Cx where
 prog:=P
 w:=w
 K:=K
 mg:=mg
 base:=base
 A:=A.deeper (envOfC qual scope s.heap.objs.size f cd)
 N:=N
 s₀:=s
 H₀:=H
 env:=envOfC qual scope s.heap.objs.size f cd
 outer:=outer
 stack:=envOfC qual scope s.heap.objs.size f cd::outer
 ex:=[]
 calm:=true
 fn:=λ_=>true
 pn:=[]
 xe:=λe s'=>wpAny (model P w) (A.deeper (envOfC qual scope s.heap.objs.size f cd)) (leaving (envOfC qual scope s.heap.objs.size f cd) e) (λ_ s''=>CX outer H s E e s'') (λe' s''=>CX outer H s E e' s'') s'
theorem kq{sc:Scope}{n:Nat}(h:sc.names.lookup x=some .cell):∃c,(cellsFrom n sc.names []).lookup x=some c:=by
 have q:=PySem.W.cellsFrom_some sc.names n [] (.inl h)
 exact Option.isSome_iff_exists.mp q
theorem tf{CX:CXT}{N:List Str}{qual:Str}{scope:Scope}{cd:Value}{outer:List Env}{s s1:Shared}{H:Hp}{E:XK}{us:List Value}{vs:List V}
  (S:aA N ps scope) (hd:A.handled=none) (e0:Env0 P w K mg base A outer s H) (hl:vs.length=ps.length) (r:bH vs us)
  (x:InCallC s s.heap.objs.size (bindL (envOfC qual scope s.heap.objs.size f cd).kindOf (ps.zip us) λ_=>none) (cellsFrom (s.heap.objs.size+1) scope.names []) (bindC (envOfC qual scope s.heap.objs.size f cd).kindOf (ps.zip us) λ_=>none) s1) :
  Inv (uG CX P w K mg base N qual scope f cd A outer s H E) [] (start N vs) H s1:=by
 have hpl:ps.length<=N.length:=by have:=Gs List.length S.pre;rw[FI] at this;omega
 obtain⟨h1,tk,rfl,hk⟩:=x.done;have noA:∀b:Addr,b∉(uG CX P w K mg base N qual scope f cd A outer s H E).ex:=λb z=>absurd (show b∈([]:List Addr) from z) (by simp)
 refine⟨⟨e0.mod,S.kind,rfl,rfl,Fh _,λy z c h1 h2=>?_,λy hy=>?_,λy c _ h=>?_,λ_=>hd,Around.frames_deeper e0.frames,.inr ⟨rfl,rfl⟩,λb z=>absurd z (noA b),e0.bs,e0.bsz,λb _ _=>noA b,λb z=>absurd z (noA b),e0.funs,e0.frf⟩,
  rfl,e0.bare,Un.kept hk,⟨_,x.toInCall.ns,λi y v h1 h2 h3=>?_⟩,λy c h=>⟨_,x.cell y c h⟩,e0.hok.fresh (Fh _),λy c h=>?_,λp hp=>absurd (show p∈([]:List (Addr×Obj)) from hp) (by simp),e0.hok.kept hk,?_⟩
 ·exact name_of_addr x.apart (GT h1) (GT h2)
 ·have hy:scope.names.lookup y=some .cell\/scope.names.lookup y=some .free:=hy
  rcases hy with hy | hy
  ·exact kq hy
  ·exact absurd rfl (S.nofree _ (GT hy))
 ·exact GS (x.above y c (GT h))
 ·have hi:i<vs.length:=by
   unfold start at h2
   by_cases hi:i<vs.length
   ·exact hi
   ·rw[List.getElem?_append_right (by simpa using hi)] at h2;rw[List.getElem?_replicate] at h2
    split at h2<;>cases h2
  have ha:vs[i]?=some v:=by
   unfold start at h2;rw[List.getElem?_append_left (by simpa using hi),List.getElem?_map] at h2
   cases e:vs[i]? with
   | none=>rw[e] at h2;cases h2
   | some a=>rw[e] at h2;cases h2;rfl
  obtain⟨u,hu,rv⟩:=r.get ha;have hp:ps[i]?=some y:=by
   rw[<- S.pre,List.getElem?_take_of_lt (by omega)];exact h1
  have ndP:ps.Nodup:=by rw[<- S.pre];exact S.nd.sublist (List.take_sublist _ _)
  refine⟨u,rv,?_⟩
  rcases S.par y (Fm hp) with k | k
  ·exact .inl ⟨k,mf ndP hp hu k⟩
  ·obtain⟨c,e⟩:=kq (n:=s.heap.objs.size+1) k;refine .inr ⟨.inl k,c,e,?_⟩;have q:=x.cell y c e;rw[mo ndP hp hu (by show scope.names.lookup y≠_;rw[k];decide)] at q;exact q
 ·exact e0.hok.fresh (GS (x.above y c (GT h)))
 ·unfold start;show _=N.length;rw[Fi,E7,FD];omega
theorem Dp{CX:CXT}{name qual:Str}{params:Arguments}{body:List Stmt}{scope:Scope}{dV kV doc pm cdv ct oc:Value}{an od:Option Addr}
    {osl:Array (Option Value)} {N ps:List Str} {sp:Sp} (lk:K.lookup f=some ⟨oc,od,.func (PySem.W.fnOf name qual params body scope dV kV doc pm an cdv ct),osl⟩) (hcd:PySem.W.codeIn K cdv qual=true) (S:aA N ps scope)
    (len:∀vs H Q E,sp vs H Q E->vs.length=ps.length)
    (hbody:∀(A:Around) (outer:List Env) (s:Shared) (H:Hp) (vs:List V) (Q:VK) (E:XK),fS k (A.deeper (envOfC qual scope s.heap.objs.size f cdv))->sp vs H Q E ->
      ∃t,PSs (uG CX P w K mg base N qual scope f cdv A outer s H E) body t/\t { nx:=λ_ H'=>Q .non H',rt:=Q } (start N vs) H) :
    kX P w K mg base CX (k+1) f (PySem.W.fnOf name qual params body scope dV kV doc pm an cdv ct) ps sp:=by
  refine⟨len,λA outer s H args us vs Q E hr e0 hb r hsp=>?_⟩;have hl:=len _ _ _ _ hsp;have KX:K.In s.heap:=e0.mod.kin.keeps λb o e=>(e0.bs b o e).1;have lim:s.heap.NoLimit:=e0.mod.nolimit.keeps λb o e=>(e0.bs b o e).1;have hkind:∀y∈ps.zip us,scope.names.lookup y.1=some .local\/(scope.names.lookup y.1=some .cell/\((cellsFrom (s.heap.objs.size+1) scope.names []).lookup y.1).isSome=true):=λ⟨n,v⟩ hy=>by
    rcases S.par n (FA hy).1 with q | q
    · exact .inl q
    · exact .inr ⟨q,PySem.W.cellsFrom_some _ _ _ (.inl q)⟩
  refine codeAny_call_function hr.depth (KX _ _ lk) rfl S.co S.gen rfl (PySem.W.codeRec_of KX hcd) (hb _ _ _ _ ?_);refine wpAny_newFunctionEnv_cells S.kind hkind λenv he s1 x=>?_;subst he;refine⟨lim.keeps x.toInCall.keep,codeAny_func ?_⟩;obtain⟨t,ht,hq⟩:=hbody A outer s H vs Q E (hr.deeper _) hsp;have I:Inv (uG CX P w K mg base N qual scope f cdv A outer s H E) [] (start N vs) H s1:=tf S hr.hd e0 hl r x;refine Gp (ht [] s1 (start N vs) H _ I hq) (λfl s' hs=>?_) λe s' hs=>hs;have fin:∀ {σ':St} {H':Hp} {v:V} {u:Value},Inv (uG CX P w K mg base N qual scope f cdv A outer s H E) [] σ' H' s'->bB v u->Q v H'->CE outer P w H s Q u s' :=
    λ{σ' H' v u} J rv q=>⟨v,H',J.os,J.bare,J.base,J.hok,rv,q⟩
  cases fl with
  | ret u =>
    obtain⟨v,σ',H',J,rv,q⟩:=hs;exact fin J rv q
  | next =>
    obtain⟨σ',H',J,q⟩:=hs;exact fin (v:=V.non) (u:=Value.none) J rfl q
  | brk =>
    obtain⟨_,_,_,q⟩:=hs;exact False.elim q
  | cont =>
    obtain⟨_,_,_,q⟩:=hs;exact False.elim q
end L2
namespace L2
open PySem PySem.Spec PyProof.Rows
section
variable {X:Cx} {x:Str} {p pos:Pos} {e:Expr} {es:List Expr} {t:TA} {id T:String} {r:List V→Hp→VK→Prop}
def tCB(r:List V->Hp->VK->Prop)(t:TA):TE:=λσ H Q=>t σ H λvs H1=>r vs H1 Q
theorem kJ(hc:bY X (.builtin id) r)(hg:Gl X x)(hm:X.mg x=none)(hv:bootBuiltins x=some (.builtin id))(ha:PA X (e::es) t)(hn:x≠"__name__":=by decide)(hdb:(x==("__debug__":Str))=false:=by decide)
  (he:starEach (e::es) X.env=(false,eval e X.env)::starEach es X.env:=by rfl) (hpl:(backTo pos (starEach es X.env)).any (·.1)=false:=by rfl):PE X (.Call (.Name x p) (e::es) [] pos) (tCB r t):=by
 intro pins s σ H Q I h;refine wpAny_Call_Name_kw (iM I hg hm hv ?_ hn hdb);exact PyProof.Rows.callWith_builtin1 (ER (ha pos pins s σ H _ I h) λus s1 ⟨vs,H1,I1,r1,q1⟩=>hc pins s1 σ H1 vs us Q I1 r1 q1) he hpl
theorem iP(hc:bY X (.type T) r)(hg:Gl X x)(hm:X.mg x=none)(hv:bootBuiltins x=some (.type T))(ha:PA X (e::es) t)(hn:x≠"__name__":=by decide)(hdb:(x==("__debug__":Str))=false:=by decide)
  (he:starEach (e::es) X.env=(false,eval e X.env)::starEach es X.env:=by rfl) (hpl:(backTo pos (starEach es X.env)).any (·.1)=false:=by rfl):PE X (.Call (.Name x p) (e::es) [] pos) (tCB r t):=by
 intro pins s σ H Q I h;refine wpAny_Call_Name_kw (iM I hg hm hv ?_ hn hdb);exact Gh (ER (ha pos pins s σ H _ I h) λus s1 ⟨vs,H1,I1,r1,q1⟩=>hc pins s1 σ H1 vs us Q I1 r1 q1) he hpl
end
end L2
namespace HT
open PySem PyProof.Rows
section
open PySem.SeqAt
open PySem.AutoSeq1 (wpAny_loadPart')
open PySem.MeetsSeq PySem.MeetsSeq2 PySem.MeetsSeq3
end
section
variable {prog:Program} {w:World} {A:Around} {E:Value→Shared→Prop} {s:Shared}
theorem cat_tup{t b:Addr}{vs ws:List Value}{Q:Value->Shared->Prop}(ht:IsTup s.heap t vs.toArray)(hb:IsTup s.heap b ws.toArray)(hv:vs≠[])
  (h1:ws=[]->Q (.ref t) s) (h2:ws≠[]->Q (.ref s.heap.objs.size) { s with heap:=s.heap.push { cls:=.type "tuple",data:=.seq (vs++ws).toArray } })
  (hsz:vs.length+ws.length<=sizeLine):wpAny (model prog w) A (binaryOp .Add (.ref t) (.ref b)) Q E s:=by
 obtain⟨⟨cls,dd,data,sl⟩,ho,hc,n,hd⟩:=id ht;obtain⟨⟨cls2,dd2,data2,sl2⟩,ho2,hc2,n2,hd2⟩:=id hb;simp only at hc hd hc2 hd2;subst hc hd hc2 hd2;have e:vs.toArray++ws.toArray=(vs++ws).toArray:=by simp
 by_cases hw:ws=[]
 ·exact concat_meets ⟨_,ho,rfl⟩ ⟨_,ho2,rfl⟩ noFill_tuple_add seq_tuple_add PySem.F.slot_tuple_add PySem.F.entry_tuple_add (PySem.F.args_tuple_add_2 _ _)
   (tuple_addW1 t b vs.toArray ws.toArray n n2 dd dd2 sl sl2 (by simpa using hv) (by simp[hw])) ⟨ho,ho2,h1 hw⟩
 ·refine concat_meets ⟨_,ho,rfl⟩ ⟨_,ho2,rfl⟩ noFill_tuple_add seq_tuple_add PySem.F.slot_tuple_add PySem.F.entry_tuple_add (PySem.F.args_tuple_add_2 _ _)
   (tuple_addW2 t b vs.toArray ws.toArray n n2 dd dd2 sl sl2 (by simpa using hv) (by simpa using hw) (by rw[FB,FB];exact hsz)) ⟨ho,ho2,?_⟩
  rw[e];exact h2 hw
def sIx(n d:Nat):Option Int->Nat
 | none=>d
 | some v=>if v<0 then (v+(n:Int)).toNat else min v.toNat n
def sIx_none(n d:Nat):sIx n d none=d:=rfl
theorem sIx_nat(n d k:Nat):sIx n d (some (k:Int))=min k n:=by
 show (if (k:Int)<0 then ((k:Int)+(n:Int)).toNat else min (k:Int).toNat n)=min k n
 rw[Fp (by omega),GR]
theorem wR(n d:Nat)(hd:d<=n)(o:Option Int):sIx n d o<=n:=by
 cases o with
 | none=>exact hd
 | some v =>
  show (if v<0 then (v+(n:Int)).toNat else min v.toNat n)<=n
  by_cases hv:v<0
  ·rw[Fs hv];omega
  ·rw[Fp hv];exact Nat.min_le_right _ _
theorem sS(v:Int)(n d:Nat):(if v<0 then max (v+(n:Int)) 0 else min v (n:Int))=((sIx n d (some v):Nat):Int):=by
 show (if v<0 then max (v+(n:Int)) 0 else min v (n:Int))=(((if v<0 then (v+(n:Int)).toNat else min v.toNat n):Nat):Int)
 by_cases hv:v<0
 ·simp only[if_pos hv];omega
 ·simp only[if_neg hv];omega
theorem qK(lo hi:Option Int)(n:Nat):Builtin.Slice.sliceAdjust lo hi 1 (n:Int)=(((sIx n 0 lo:Nat):Int),((sIx n n hi:Nat):Int)):=by
 have h1:¬ ((1:Int)<0):=by omega
 unfold Builtin.Slice.sliceAdjust;simp only[h1,if_false];refine Prod.ext ?_ ?_
 ·cases lo with
  | none=>rfl
  | some v=>exact sS v n 0
 ·cases hi with
  | none=>rfl
  | some v=>exact sS v n n
theorem qQ(i j:Nat):Builtin.Slice.slicePlaces (i:Int) (j:Int) 1=j-i:=by
 unfold Builtin.Slice.slicePlaces;have h1:(1:Int)>0:=by omega
 simp only[h1,if_true,Int.ediv_one]
 split<;>omega
theorem ke{v:Value}{o:Option Int}{Q:Option Int->Shared->Prop}(p:IsPart v o)(h:Q o s):wpAny (model prog w) A (Builtin.Slice.slicePartIndex v) Q E s:=by
 cases p with
 | none=>exact slicePart_none h
 | int i t=>exact slicePart_int h
theorem dG{sl:Addr}{vl vu:Value}{lo hi:Option Int}{n:Nat}{Q:Int×Int×Nat->Shared->Prop}(hs:s.heap.IsSliceOf sl vl vu .none)(pl:IsPart vl lo)(pu:IsPart vu hi)
  (h:Q (((sIx n 0 lo:Nat):Int),1,sIx n n hi-sIx n 0 lo) s):wpAny (model prog w) A (Builtin.Slice.sliceApplied (.ref sl) (pure (n:Int))) Q E s:=by
 obtain⟨os,hos,hcs,hds⟩:=id hs;unfold Builtin.Slice.sliceApplied Builtin.Slice.sliceFields;refine Fc (Fc (Gi hos hds (x:=vl) rfl (Fc (Gi hos hds (x:=vu) rfl (Fc (Gi hos hds (x:=.none) rfl (Ft ?_)))))));refine Fc (slicePart_none ?_);show wpAny _ _ (if ((1:Int)==0)=true then _ else _) _ _ s;rw[Fp (by decide)];refine Fc (ke pl (Fc (ke pu (Fc (Ft ?_)))));show wpAny _ _ (match Builtin.Slice.sliceAdjust lo hi 1 (n:Int) with | (lo,hi)=>pure (lo,(1:Int),Builtin.Slice.slicePlaces lo hi 1)) _ _ s;rw[qK lo hi n];show wpAny _ _ (pure (((sIx n 0 lo:Nat):Int),(1:Int),Builtin.Slice.slicePlaces ((sIx n 0 lo:Nat):Int) ((sIx n n hi:Nat):Int) 1)) _ _ s;rw[qQ];exact Ft h
theorem vT(xs:Array Value)(i k:Nat):((List.range k).filterMap λ(m:Nat)=>xs[((i:Int)+(m:Int)*1).toNat]?).toArray=((xs.toList.drop i).take k).toArray:=by
 have e:(λ(m:Nat)=>xs[((i:Int)+(m:Int)*1).toNat]?)=λm=>xs[i+m]?:=by
  funext m
  have:((i:Int)+(m:Int)*1).toNat=i+m:=by omega
  rw[this]
 rw[e];have:=pick_run xs i k;rw[List.filterMap_map] at this;have e2:((λx=>xs[x]?) ∘ λx=>i+x)=λm=>xs[i+m]?:=rfl;rw[e2] at this;rw[this]
theorem getItem_tuple_cut{t sl:Addr}{items:Array Value}{vl vu:Value}{lo hi:Option Int}{Q:Value->Shared->Prop}(ht:IsTup s.heap t items)(hs:s.heap.IsSliceOf sl vl vu .none)(pl:IsPart vl lo)(pu:IsPart vu hi)
  (hw:¬ (sIx items.size 0 lo=0/\sIx items.size items.size hi=items.size))
  (h:Q (.ref s.heap.objs.size) { s with heap:=s.heap.push { cls:=.type "tuple",data:=.seq ((items.toList.drop (sIx items.size 0 lo)).take (sIx items.size items.size hi-sIx items.size 0 lo)).toArray } })
  (hsz:items.size<=sizeLine):wpAny (model prog w) A (getItem (.ref t) (.ref sl)) Q E s:=by
 have htake:sizeOk (.seq ((items.toList.drop (sIx items.size 0 lo)).take (sIx items.size items.size hi-sIx items.size 0 lo)).toArray):=by
  show ((items.toList.drop (sIx items.size 0 lo)).take (sIx items.size items.size hi-sIx items.size 0 lo)).toArray.size<=sizeLine
  rw[FB,FI,Ge,He];omega
 have hj:sIx items.size items.size hi<=items.size:=wR _ _ (Fh _) hi
 obtain⟨os,hos,hcs,hds⟩:=id hs;have hTs:s.TypeIs (.ref sl) "slice":=⟨os,hos,hcs⟩;unfold getItem
 try with_reducible refine GI ?_
 first | refine Fc (Ft ?_) | skip
 refine Fc (wpAny_sequenceKey ht.typeIs (by decide) ?_)
 refine Fc (wpAny_callSpecial?_slot (name:=Str.ofString "__getitem__") ht.typeIs F3
  (GH F3 ht.typeIs entry_tuple_getitem ?_ (args_tuple_getitem _ _)))
 show wpAny _ _ (Builtin.Tuple.tupleItemsOf (.ref t) >>= _) _ _ s
 refine Fc (tupleItemsOf_ ht ?_);refine Fc (wpAny_typeOf hTs ?_);rw[Fs (by decide)];refine Fc (dG hs pl pu ?_);have hno:¬ ((((sIx items.size 0 lo:Nat):Int)==0&&(1:Int)==1&&(sIx items.size items.size hi-sIx items.size 0 lo)==items.size)=true):=by
  intro q;rw[Bool.and_eq_true,Bool.and_eq_true] at q;have q1:((sIx items.size 0 lo:Nat):Int)=0:=eq_of_beq q.1.1;have q2:sIx items.size items.size hi-sIx items.size 0 lo=items.size:=eq_of_beq q.2;exact hw ⟨by omega,by omega⟩
 show wpAny _ _ (if (((sIx items.size 0 lo:Nat):Int)==0&&(1:Int)==1&&(sIx items.size items.size hi-sIx items.size 0 lo)==items.size)=true then _ else _) _ _ s
 rw[Fp hno,vT]
 first
  | exact Fc (m:=Builtin.Tuple.tupleExact _) (Gz (Ft ⟨_,rfl,Ft h⟩) htake)
  | exact Fc (m:=Builtin.Tuple.tupleExact _) (Gz (Fc (Ft (Ft ⟨_,rfl,Ft h⟩))) htake)
  | exact Fc (Fc (m:=Builtin.Tuple.tupleExact _) (Gz (Ft (Ft ⟨_,rfl,Ft h⟩)) htake))
  | exact Fc (Fc (m:=Builtin.Tuple.tupleExact _) (Gz (Ft ⟨_,rfl,Ft h⟩) htake))
end
end HT
namespace L2
open PySem PySem.Spec PyProof.Rows
abbrev TO:=St->Hp->(Option Int->Hp->Prop)->Prop
def PO(X:Cx)(e:Option Expr)(t:TO):Prop :=
 ∀(pins:List (Addr×Obj)) (s:Shared) (σ:St) (H:Hp) (Q:Option Int->Hp->Prop),Inv X pins σ H s->t σ H Q ->
  wpAny (model X.prog X.w) X.A (evalPart e X.env) (λu s'=>∃o H',Inv X pins σ H' s'/\IsPart u o/\Q o H') X.xe s
def xK:TO:=λ_ H Q=>Q none H
def DP(t:TE):TO:=λσ H Q=>t σ H λx H1=>∃i,x=.int i/\Q (some i) H1
section
variable {X:Cx} {e:Expr} {te:TE} {lo hi:Option Expr} {tl th:TO} {pos p2:Pos}
theorem zk:PO X none xK:=by
 intro pins s σ H Q I h;rw[evalPart_none];exact Ft ⟨none,H,I,.none,h⟩
theorem y8(h:PE X e te):PO X (some e) (DP te):=by
 intro pins s σ H Q I hw;rw[evalPart_some];refine ER (h pins s σ H _ I hw) λu s1 ⟨x,H1,I1,r1,q1⟩=>?_;obtain⟨i,rfl,q⟩:=q1;obtain⟨t,rfl⟩:=r1;exact⟨some i,H1,I1,.int i t,q⟩
def SlR(X:Cx)(r:V->Option Int->Option Int->Hp->VK->Prop):Prop :=
 ∀(pins:List (Addr×Obj)) (s:Shared) (σ:St) (H:Hp) (x:V) (v vl vu:Value) (lo hi:Option Int) (sl:Addr) (Q:VK),Inv X pins σ H s->bB x v->s.heap.IsSliceOf sl vl vu .none->IsPart vl lo->IsPart vu hi->r x lo hi H Q ->
  ∃T id,typeLookup (.type T) "__getitem__"=pure (some (.builtin id))/\s.TypeIs v T/\wpAny (model X.prog X.w) X.A (getItem v (.ref sl)) (EP X pins σ Q) X.xe s
theorem SlR.or{r r':V->Option Int->Option Int->Hp->VK->Prop}(h:SlR X r)(h':SlR X r'):SlR X (λx lo hi H Q=>r x lo hi H Q\/r' x lo hi H Q):=by
 intro pins s σ H x v vl vu lo hi sl Q I rx hs pl pu q
 rcases q with q | q
 ·exact h pins s σ H x v vl vu lo hi sl Q I rx hs pl pu q
 ·exact h' pins s σ H x v vl vu lo hi sl Q I rx hs pl pu q
def tSl(r:V->Option Int->Option Int->Hp->VK->Prop)(te:TE)(tl th:TO):TE:=λσ H Q=>te σ H λx H1=>tl σ H1 λl H2=>th σ H2 λu H3=>r x l u H3 Q
theorem qf{r:V->Option Int->Option Int->Hp->VK->Prop}(hr:SlR X r)(he:PE X e te)(hl:PO X lo tl)(hu:PO X hi th):PE X (.Subscript e (.Slice lo hi none p2) pos) (tSl r te tl th):=by
 intro pins s σ H Q I h;refine Subscript_ (ER (he pins s σ H _ I h) λv s1 ⟨x,H1,I1,r1,q1⟩=>?_);refine wpAny_Slice (ER (hl pins s1 σ H1 _ I1 q1) λvl s2 ⟨l,H2,I2,pl,q2⟩=>ER (hu pins s2 σ H2 _ I2 q2) λvu s3 ⟨u,H3,I3,pu,q3⟩=>?_);rw[evalPart_none];refine Ft ?_;have I4:Inv X pins σ H3 { s3 with heap:=s3.heap.push { cls:=.type "slice",data:=.fields #[vl,vu,.none] } }:=I3.kept (t':=s3.toks) λb ob q=>Heap.get?_push_of_some _ q;obtain⟨T,id,hT,ht,hg⟩:=hr pins { s3 with heap:=s3.heap.push { cls:=.type "slice",data:=.fields #[vl,vu,.none] } } σ H3 x v vl vu l u s3.heap.objs.size Q I4 r1 (Heap.IsSliceOf.new ..) pl pu q3;show wpAny (model X.prog X.w) X.A (subscriptTail e (.Slice lo hi none p2) v (.ref s3.heap.objs.size)) (EP X pins σ Q) X.xe { s3 with heap:=s3.heap.push { cls:=.type "slice",data:=.fields #[vl,vu,.none] } };exact tail_any (ops:=[.ref s3.heap.objs.size,v]) ht hT hg (by with_unfolding_all rfl)
def rC(xs:List V)(lo hi:Option Int):List V:=(xs.drop (HT.sIx xs.length 0 lo)).take (HT.sIx xs.length xs.length hi-HT.sIx xs.length 0 lo)
theorem jc(xs:List V)(lo hi:Option Int):(rC xs lo hi).length<=xs.length:=by
 unfold rC;rw[FI,Ge];omega
def rSlT(K:PySem.W.Frag):V->Option Int->Option Int->Hp->VK->Prop:=λx lo hi H Q=>∃a xs,x=.ref a/\E5 K H a xs /\
 ¬ (HT.sIx xs.length 0 lo=0/\HT.sIx xs.length xs.length hi=xs.length)/\∀p,H p=none->Q (.ref p) (EE H p (.tup (rC xs lo hi)))
theorem xD:SlR X (rSlT X.K):=by
 intro pins s σ H x v vl vu lo hi sl Q I rx hs pl pu h;obtain⟨a,xs,rfl,hx,hw,q⟩:=h
 cases rx
 obtain⟨its,r,ht,hz⟩:=I.tuple hx;have hlen:its.toArray.size=xs.length:=by rw[FB];exact r.length.symm
 refine⟨"tuple",_,F3.lookup,ht.typeIs,?_⟩;refine HT.getItem_tuple_cut ht hs pl pu (by rw[hlen];exact hw) ?_ (by rw[hlen];exact hz);rw[hlen];refine⟨.ref s.heap.objs.size,_,I.laid (t':=s.toks) (o:=.tup (rC xs lo hi)) (λb ob q=>Heap.get?_push_of_some _ q) (Fh _) ?_,rfl,q _ (I.hok.fresh (Fh _))⟩;exact⟨Fa (jc xs lo hi) hz,_,(r.drop (HT.sIx xs.length 0 lo)).take (HT.sIx xs.length xs.length hi-HT.sIx xs.length 0 lo),IsTup.new _ _⟩
def DR(K:PySem.W.Frag):R2:=λx y H Q=>∃a b xs ys,x=.ref a/\y=.ref b/\E5 K H a xs/\E5 K H b ys/\xs≠[]/\xs.length+ys.length<=sizeLine /\
 (ys=[]->Q (.ref a) H)/\(ys≠[]->∀p,H p=none->Q (.ref p) (EE H p (.tup (xs++ys))))
theorem bH.nil_iff{xs:List V}{us:List Value}(r:bH xs us):us=[]↔xs=[]:=by
 cases r with
 | nil=>simp
 | cons _ _=>simp
theorem Ao:EV X (binaryOp .Add) (DR X.K):=by
 intro pins s σ H x y v u Q I rx ry h;obtain⟨a,b,xs,ys,rfl,rfl,ha,hb,hx,hz,q1,q2⟩:=h
 cases rx
 cases ry
 obtain⟨its,r1,p1,_⟩:=I.tuple ha;obtain⟨its2,r2,p2,_⟩:=I.tuple hb;refine HT.cat_tup p1 p2 (λz=>hx (r1.nil_iff.mp z)) (λz=>⟨.ref a,H,I,rfl,q1 (r2.nil_iff.mp z)⟩) (λz=>?_) (by rw[<- r1.length,<- r2.length];exact hz);refine⟨.ref s.heap.objs.size,_,I.laid (t':=s.toks) (o:=.tup (xs++ys)) (λb ob q=>Heap.get?_push_of_some _ q) (Fh _) ?_,rfl,q2 (λw=>z (r2.nil_iff.mpr w)) _ (I.hok.fresh (Fh _))⟩;exact⟨by rw[Fi];exact hz,_,r1.append r2,IsTup.new _ _⟩
end
end L2
namespace L2
open PySem PySem.Spec PyProof.Rows
def ixN(n:Nat)(i:Int):Option Nat:=if 0<=i then (if i<n then some i.toNat else none) else if -(n:Int)<=i then some (i+n).toNat else none
def EA{α:Type}(xs:List α)(i:Int):Option α:=(ixN xs.length i).bind λj=>xs[j]?
theorem yy{n:Nat}{i:Int}{j:Nat}(h:ixN n i=some j):seqIndex? i n=some j/\j<n/\-(n:Int)<=i/\i<n:=by
 unfold ixN at h
 by_cases h0:0<=i
 ·rw[Fs h0] at h
  by_cases h1:i<n
  ·rw[Fs h1] at h;have e:i.toNat=j:=Fz h;exact⟨by rw[seqIndex_of h0 h1,e],by omega,by omega,h1⟩
  ·rw[Fp h1] at h;cases h
 ·rw[Fp h0] at h
  by_cases h1:-(n:Int)<=i
  ·rw[Fs h1] at h;have e:(i+n).toNat=j:=Fz h;exact⟨by rw[seqIndex_neg (by omega) h1,e],by omega,h1,by omega⟩
  ·rw[Fp h1] at h;cases h
theorem mP{α:Type}{xs:List α}{i:Int}{v:α}(h:EA xs i=some v):∃j,seqIndex? i xs.length=some j/\xs[j]?=some v/\j<xs.length/\-(xs.length:Int)<=i/\i<xs.length:=by
 unfold EA at h
 cases e:ixN xs.length i with
 | none=>rw[e] at h;cases h
 | some j =>
  rw[e] at h;obtain⟨h1,h2,h3,h4⟩:=yy e;exact⟨j,h1,h,h2,h3,h4⟩
theorem vB{α:Type}(xs:List α)(v:α):EA (xs++[v]) (-1)=some v:=by
 have hl:(xs++[v]).length=xs.length+1:=by simp
 have e:ixN (xs++[v]).length (-1)=some xs.length:=by
  unfold ixN;rw[hl,Fp (by decide),Fs (by omega)]
  congr 1
  omega
 unfold EA;rw[e];show (xs++[v])[xs.length]?=some v;simp
def sM(b:Expr):Prop:=∀o i,subscripted b false o i=operate [o,i] (getItem o i)
def IxR(X:Cx)(r:R2):Prop :=
 ∀(value slice:Expr) (pins:List (Addr×Obj)) (s:Shared) (σ:St) (H:Hp) (x y:V) (v u:Value) (Q:VK),Inv X pins σ H s->bB x v->bB y u->r x y H Q ->
  subscripted slice false v u=operate [v,u] (getItem v u)->wpAny (model X.prog X.w) X.A (subscriptTail value slice v u) (EP X pins σ Q) X.xe s
def MtR(X:Cx)(id:String)(r:V->List V->Hp->VK->Prop):Prop :=
 ∀(pins:List (Addr×Obj)) (s:Shared) (σ:St) (H:Hp) (x:V) (xs:List V) (v:Value) (us:List Value) (Q:VK),Inv X pins σ H s->bB x v->bH xs us->r x xs H Q ->
  wpAny (model X.prog X.w) X.A (call (.builtin id) (v::us)) (EP X pins σ Q) X.xe s
section
variable {X:Cx} {a b:Expr} {ta tb:TE} {pos:Pos}
theorem IxR.or{r r':R2}(h:IxR X r)(h':IxR X r'):IxR X (λx y H Q=>r x y H Q\/r' x y H Q):=by
 intro value slice pins s σ H x y v u Q I rx ry q hs
 rcases q with q | q
 ·exact h value slice pins s σ H x y v u Q I rx ry q hs
 ·exact h' value slice pins s σ H x y v u Q I rx ry q hs
theorem MtR.or{id:String}{r r':V->List V->Hp->VK->Prop}(h:MtR X id r)(h':MtR X id r'):MtR X id (λx xs H Q=>r x xs H Q\/r' x xs H Q):=by
 intro pins s σ H x xs v us Q I rx rs q
 rcases q with q | q
 ·exact h pins s σ H x xs v us Q I rx rs q
 ·exact h' pins s σ H x xs v us Q I rx rs q
theorem Dh{r:R2}(hr:IxR X r)(ha:PE X a ta)(hb:PE X b tb)(hs:sM b):PE X (.Subscript a b pos) (tOp r ta tb):=by
 intro pins s σ H Q I h;exact Subscript_ (binT ha hb I h λv u s2 x y H2 I2 rx ry q=>hr a b pins s2 σ H2 x y v u Q I2 rx ry q (hs _ _))
def rIxL(K:PySem.W.Frag):R2:=λx y H Q=>∃p xs i v,x=.ref p/\y=.int i/\EY K H p xs/\EA xs i=some v/\Q v H
def rIxT(K:PySem.W.Frag):R2:=λx y H Q=>∃p xs i v,x=.ref p/\y=.int i/\E5 K H p xs/\EA xs i=some v/\Q v H
def rIxS:R2:=λx y H Q=>∃z i c,x=.str z/\y=.int i/\z.length<=sizeLine/\EA z.cps.toList i=some c/\Q (.str ⟨#[c]⟩) H
theorem Aq:IxR X (rIxL X.K):=by
 intro value slice pins s σ H x y v u Q I rx ry h hs;obtain⟨p,xs,i,z,rfl,rfl,hq,he,q⟩:=h
 cases rx
 obtain⟨t,rfl⟩:=ry;obtain⟨its,r,pl,hz⟩:=I.list hq;obtain⟨j,h1,h2,h3,h4,h5⟩:=mP he;obtain⟨w,ew,rw'⟩:=r.get h2;have hl:=r.length;have hn:=pd;have fin:EP X pins σ Q w s:=⟨z,H,I,rw',q⟩
 by_cases h0:0<=i
 ·have hj:i.toNat=j:=by
   rw[seqIndex_of h0 h5] at h1;exact Fz h1
  exact item_listR pl.isList h0 (by omega) (by rw[hj];simpa using ew) fin hs
 ·have hj:(i+(its.toArray.size:Int)).toNat=j:=by
   rw[seqIndex_neg (by omega) h4] at h1;rw[FB,<- hl];exact Fz h1
  exact subscriptTail_builtinR (x:=w) pl.isList.typeIs slot_list_getitem.lookup
   (wpAny_getItem_list_neg (Q:=λr s'=>r=w/\EP X pins σ Q r s') pl.isList (by omega) (by rw[FB]<;>omega) (by omega) (by rw[hj];simpa using ew) ⟨rfl,fin⟩) hs
theorem AY:IxR X (rIxT X.K):=by
 intro value slice pins s σ H x y v u Q I rx ry h hs;obtain⟨p,xs,i,z,rfl,rfl,hq,he,q⟩:=h
 cases rx
 obtain⟨t,rfl⟩:=ry;obtain⟨its,r,pl,hz⟩:=I.tuple hq;obtain⟨j,h1,h2,h3,h4,h5⟩:=mP he;obtain⟨w,ew,rw'⟩:=r.get h2;have hl:=r.length;have hn:=pd;have fin:EP X pins σ Q w s:=⟨z,H,I,rw',q⟩;exact subscriptTail_builtinR (x:=w) pl.typeIs slot_tuple_getitem.lookup
  (getItem_tuple (j:=j) (Q:=λr s'=>r=w/\EP X pins σ Q r s') pl (by omega) (by omega) (by rw[FB,<- hl];exact h1) (by simpa using ew) ⟨rfl,fin⟩) hs
theorem Cf:IxR X rIxS:=by
 intro value slice pins s σ H x y v u Q I rx ry h hs;obtain⟨z,i,c,rfl,rfl,hz,he,q⟩:=h;obtain⟨t,rfl⟩:=rx;obtain⟨t',rfl⟩:=ry;obtain⟨j,h1,h2,h3,h4,h5⟩:=mP he;have hl:z.cps.toList.length=z.length:=by simp[Str.length]
 rw[hl] at h1 h4 h5;have hn:=pd
 exact tail_any (typeIs_str s z t) slot_str_getitem.lookup (getItem_str (c:=c) (by
  have e1:decide (i < -(2 ^ 63:Int))=false:=FR (by omega)
  have e2:decide (i ≥ 2 ^ 63)=false:=FR (by omega)
  rw[e1,e2,Bool.or_false]) (by rw[h1];simpa using h2) ⟨.str ⟨#[c]⟩,H,I.tok _,⟨_,rfl⟩,q⟩) hs
def rIx(K:PySem.W.Frag):R2:=λx y H Q=>rIxL K x y H Q\/rIxT K x y H Q\/rIxS x y H Q
def Cz:IxR X (rIx X.K):=Aq.or (AY.or Cf)
theorem Inv.lst{pins:List (Addr×Obj)}{σ:St}{H:Hp}{s:Shared}{p:Addr}{xs:List V}(I:Inv X pins σ H s)(h:H p=some (.lst xs)) :
  ∃(its:List Value) (n:Nat),bH xs its/\s.heap.get? p=some { cls:=.type "list",data:=.seq its.toArray n }/\xs.length<=sizeLine:=by
 obtain⟨z,its,n,r,e⟩:=I.hok p _ h;exact⟨its,n,r,e,z⟩
theorem mi(lo hi:Option Int)(n:Nat):(sliceBounds lo hi none n).1=((HT.sIx n 0 lo:Nat):Int)/\(sliceBounds lo hi none n).2.1=((HT.sIx n n hi:Nat):Int)/\(sliceBounds lo hi none n).2.2=1:=by
 refine⟨?_,?_,rfl⟩
 ·cases lo with
  | none=>simp[sliceBounds,HT.sIx]
  | some i =>
   simp only[sliceBounds,HT.sIx,Option.getD_none,show (1:Int)>0 by decide,if_true]
   by_cases h:i<0
   ·simp only[h,if_true]<;>omega
   ·simp only[h,if_false]<;>omega
 ·cases hi with
  | none=>simp[sliceBounds,HT.sIx]
  | some i =>
   simp only[sliceBounds,HT.sIx,Option.getD_none,show (1:Int)>0 by decide,if_true]
   by_cases h:i<0
   ·simp only[h,if_true]<;>omega
   ·simp only[h,if_false]<;>omega
theorem kT(its:List Value)(lo hi:Option Int):slicePick its.toArray lo hi none=((its.drop (HT.sIx its.length 0 lo)).take (HT.sIx its.length its.length hi-HT.sIx its.length 0 lo)).toArray:=by
 obtain⟨h1,h2,h3⟩:=mi lo hi its.toArray.size;unfold slicePick;rw[h1,h2,h3];simp only[sliceRange_one,pick_run,List.size_toArray]<;>rfl
def rSlL(K:PySem.W.Frag):V->Option Int->Option Int->Hp->VK->Prop:=λx lo hi H Q=>∃a xs,x=.ref a/\EY K H a xs/\∀p,H p=none->Q (.ref p) (EE H p (.lst (rC xs lo hi)))
theorem zN:SlR X (rSlL X.K):=by
 intro pins s σ H x v vl vu lo hi sl Q I rx hs pl pu h;obtain⟨a,xs,rfl,hx,q⟩:=h
 cases rx
 obtain⟨its,r,ht,hz⟩:=I.list hx;have hlen:=r.length;refine⟨"list",_,slot_list_getitem.lookup,ht.isList.typeIs,?_⟩;refine wpAny_getItem_list_slice ht.isList hs pl pu .none (by simp) ?_ (by rw[FB]<;>omega)
 rw[kT,<- hlen];refine⟨.ref s.heap.objs.size,_,I.laid (t':=s.toks) (o:=.lst (rC xs lo hi)) (λb ob q=>Heap.get?_push_of_some _ q) (Fh _) ?_,rfl,q _ (I.hok.fresh (Fh _))⟩;exact⟨Fa (jc xs lo hi) hz,_,0,(r.drop (HT.sIx xs.length 0 lo)).take (HT.sIx xs.length xs.length hi-HT.sIx xs.length 0 lo),Heap.get?_push_size _ rfl⟩
def A8:V->Bool
 | .non=>true
 | .bl _=>true
 | .int _=>true
 | .str _=>true
 | _=>false
def eqV:V->V->Bool
 | .non,.non=>true
 | .bl a,.bl b=>a==b
 | .bl a,.int b=>(if a then 1 else 0)==b
 | .int a,.bl b=>a==(if b then 1 else 0)
 | .int a,.int b=>a==b
 | .str a,.str b=>a==b
 | _,_=>false
theorem pz{A:Around}{s:Shared}{y x:V}{u v:Value}(ry:bB y u)(rx:bB x v)(fy:A8 y=true)(fx:A8 x=true):SeqAt.EqAt A s u v (eqV y x):=by
 cases y with
 | non =>
  cases ry
  cases x with
  | non=>cases rx;exact HJ _
  | bl b=>cases rx;exact SeqAt.EqAt.none_bool b
  | int b=>obtain⟨t,rfl⟩:=rx;exact SeqAt.EqAt.none_int b t
  | str b=>obtain⟨t,rfl⟩:=rx;exact SeqAt.EqAt.none_str b t
  | _=>exact absurd (show false=true from fx) Fg
 | bl a =>
  cases ry
  cases x with
  | non=>cases rx;exact SeqAt.EqAt.bool_none a
  | bl b=>cases rx;exact SeqAt.EqAt.bool_bool a b
  | int b=>obtain⟨t,rfl⟩:=rx;exact SeqAt.EqAt.bool_int a b t
  | str b=>obtain⟨t,rfl⟩:=rx;exact SeqAt.EqAt.bool_str a b t
  | _=>exact absurd (show false=true from fx) Fg
 | int a =>
  obtain⟨t',rfl⟩:=ry
  cases x with
  | non=>cases rx;exact SeqAt.EqAt.int_none a t'
  | bl b=>cases rx;exact SeqAt.EqAt.int_bool a t' b
  | int b=>obtain⟨t,rfl⟩:=rx;exact SeqAt.EqAt.int_int a t' b t
  | str b=>obtain⟨t,rfl⟩:=rx;exact SeqAt.EqAt.int_str a t' b t
  | _=>exact absurd (show false=true from fx) Fg
 | str a =>
  obtain⟨t',rfl⟩:=ry
  cases x with
  | non=>cases rx;exact SeqAt.EqAt.str_none a t'
  | bl b=>cases rx;exact SeqAt.EqAt.str_bool a t' b
  | int b=>obtain⟨t,rfl⟩:=rx;exact SeqAt.EqAt.str_int a t' b t
  | str b=>obtain⟨t,rfl⟩:=rx;exact SeqAt.EqAt.str_str a t' b t
  | _=>exact absurd (show false=true from fx) Fg
 | _=>exact absurd (show false=true from fy) Fg
theorem gu:bY X (.builtin "len") (λxs H Q=>∃p ys,xs=[.ref p]/\(EY X.K H p ys\/E5 X.K H p ys)/\Q (.int ys.length) H):=by
 intro pins s σ H xs us Q I r h;obtain⟨p,ys,rfl,hq,q⟩:=h;obtain⟨u,rfl,rx⟩:=fR r
 cases rx
 have hn:=pd
 rcases hq with hq | hq
 ·obtain⟨its,r',pl,hz⟩:=I.list hq;have hlen:=r'.length;exact Calls.call_len_list pl.isList (by simp only[List.size_toArray]<;>omega) ⟨.int ys.length,H,I.tok _,⟨s.toks+1,by rw[FB,hlen]⟩,q⟩
 ·obtain⟨its,r',pl,hz⟩:=I.tuple hq;have hlen:=r'.length;exact len_tuple pl (by simp only[List.size_toArray]<;>omega) ⟨.int ys.length,H,I.tok _,⟨s.toks+1,by rw[FB,hlen]⟩,q⟩
theorem bY.or{f:Value}{r r':List V->Hp->VK->Prop}(h:bY X f r)(h':bY X f r'):bY X f (λxs H Q=>r xs H Q\/r' xs H Q):=by
 intro pins s σ H xs us Q I rs q
 rcases q with q | q
 ·exact h pins s σ H xs us Q I rs q
 ·exact h' pins s σ H xs us Q I rs q
theorem fj:bY X (.type "tuple") (λxs H Q=>∃p ys,xs=[.ref p]/\((EY X.K H p ys/\∀l,H l=none->Q (.ref l) (EE H l (.tup ys)))\/(E5 X.K H p ys/\Q (.ref p) H))):=by
 intro pins s σ H xs us Q I r h;obtain⟨p,ys,rfl,h⟩:=h;obtain⟨u,rfl,rx⟩:=fR r
 cases rx
 rcases h with⟨hq,q⟩ | ⟨hq,q⟩
 ·obtain⟨its,r',pl,hz⟩:=I.list hq;have hlen:=r'.length;refine call_tuple_list pl.isList (λh' kp=>?_) (by simp only[List.size_toArray]<;>omega)
  have I1:Inv X pins σ H { s with heap:=h' }:=I.kept (t':=s.toks) kp
  have I2:Inv X pins σ (EE H h'.objs.size (.tup ys)) { s with heap:=h'.push { cls:=.type "tuple",data:=.seq its.toArray } } :=
   I1.laid (t':=s.toks) (λb o e=>Heap.get?_push_of_some _ e) (Fh _) (show bV X.prog X.w _ _ _ (.tup ys) from⟨hz,its,r',IsTup.new _ _⟩)
  exact⟨.ref h'.objs.size,_,I2,rfl,q _ (I1.hok.fresh (Fh _))⟩
 ·obtain⟨its,r',pl,hz⟩:=I.tuple hq;exact call_tuple_same pl ⟨.ref p,H,I,rfl,q⟩
def tyV(K:PySem.W.Frag)(T:String)(x:V)(H:Hp):Prop:=match x with
 | .str _=>T="str"
 | .int _=>T="int"
 | .ref p=>(T="list"/\∃xs,EY K H p xs)\/(T="tuple"/\∃o,K.lookup p=some o/\o.cls=.type "tuple"/\o.dict=none) \/
   (T="dict"/\((∃kvs,H p=some (.dK kvs))\/∃kvs,H p=some (.dT kvs)))\/(T="set"/\∃S n,H p=some (.set S n))
 | _=>False
theorem CY{pins:List (Addr×Obj)}{σ:St}{H:Hp}{s:Shared}{T:String}{x:V}{v:Value}(I:Inv X pins σ H s)(r:bB x v)(ty:tyV X.K T x H) :
  s.TypeIs v T/\∀a,v=.ref a->∃ob,s.heap.get? a=some ob/\ob.dict=none:=by
 cases x with
 | str z =>
  obtain⟨t,rfl⟩:=r
  cases (show T="str" from ty)
  exact⟨typeIs_str s z t,λ_ e=>nomatch e⟩
 | int i =>
  obtain⟨t,rfl⟩:=r
  cases (show T="int" from ty)
  exact⟨typeIs_int s i t,λ_ e=>nomatch e⟩
 | ref p =>
  cases r
  rcases ty with⟨rfl,xs,hq⟩ | ⟨rfl,o,hk,hc,hd⟩ | ⟨rfl,hk⟩ | ⟨rfl,S,n,hk⟩
  ·obtain⟨its,_,pl,_⟩:=I.list hq;refine⟨pl.isList.typeIs,λa e=>?_⟩
   cases e
   obtain⟨o,n,e,c,hd,_⟩:=pl;exact⟨o,e,hd⟩
  ·refine⟨⟨o,I.kIn p o hk,hc⟩,λa e=>?_⟩
   cases e
   exact⟨o,I.kIn _ o hk,hd⟩
  ·have z:∃o,s.heap.get? p=some o/\o.ExactDict:=by
    rcases hk with⟨kvs,hk⟩ | ⟨kvs,hk⟩
    ·obtain⟨_,_,_,_,o,_,_,e,ex,_⟩:=I.hok p _ hk;exact⟨o,e,ex⟩
    ·obtain⟨_,_,_,_,o,_,_,e,ex,_⟩:=I.hok p _ hk;exact⟨o,e,ex⟩
   obtain⟨o,e,ex⟩:=z;refine⟨⟨o,e,ex.1⟩,λa e2=>?_⟩
   cases e2
   exact⟨o,e,ex.2.1⟩
  ·obtain⟨o,_,_,_,e,ex,_⟩:=I.hok p _ hk;refine⟨⟨o,e,ex.1⟩,λa e2=>?_⟩
   cases e2
   exact⟨o,e,ex.2.1⟩
 | _=>exact False.elim ty
def tBM(K:PySem.W.Frag)(T:String)(r:V->List V->Hp->VK->Prop)(to:TE)(t:TA):TE:=λσ H Q=>to σ H λx H1=>tyV K T x H1/\t σ H1 λxs H2=>r x xs H2 Q
variable {o e:Expr} {es:List Expr} {to:TE} {t:TA} {name:Str} {apos cpos:Pos} {T id:String} {r:V→List V→Hp→VK→Prop}
theorem BF(pa:PlainAttrs T)(slot:Slot T name id)(hty:typeOf (.builtin id)=pure (.type "method_descriptor"))(hm:MtR X id r)(ho:PE X o to)(ha:PA X (e::es) t)
    (hbase:attributeBase o name X.env (eval o X.env)=eval o X.env:=by rfl)
    (hfew:((backTo cpos (starEach (e::es) X.env)).all (λx=>!x.1)&&(backToKw cpos (keywordEach [] X.env)).all (λx=>x.1.isSome)
      && decide ((e::es).length+([]:List Keyword).length+(if ([]:List Keyword).isEmpty then 0 else 1)<30))=true:=by rfl)
    (hline:(apos.endLine==cpos.line)=true:=by rfl) (hs:starEach (e::es) X.env=(false,eval e X.env)::starEach es X.env:=by rfl) (hplain:(backTo cpos (starEach es X.env)).any (·.1)=false:=by rfl) :
    PE X (.Call (.Attribute o name apos) (e::es) [] cpos) (tBM X.K T r to t):=by
  intro pins s σ H Q I h;refine wpAny_Call_method_late hbase hfew hline rfl (ER (ho pins s σ H _ I h) λv s1 ⟨x,H1,I1,r1,ty,q1⟩=>?_);obtain⟨h1,h2⟩:=CY I1 r1 ty;refine⟨T,id,pa,slot,hty,h1,h2,?_⟩;have hA:=ha cpos pins s1 σ H1 _ I1 q1;rw[hs] at hA ⊢;refine Calls.callWith_builtin (by show (false||(backTo cpos (starEach es X.env)).any (·.1))=false;rw[hplain]<;>rfl) (Calls.evalArgs_plain ?_)
  exact ER hA λus s2 ⟨vs,H2,I2,r2,q2⟩=>hm pins s2 σ H2 x vs v us Q I2 r1 r2 q2
end
end L2
namespace L2
open PySem PySem.Spec PyProof.Rows
def MtM(X:Cx)(id:String)(r:V->List V->Hp->VK->Prop):Prop :=
 ∀(pins:List (Addr×Obj)) (s:Shared) (σ:St) (H:Hp) (x:V) (xs:List V) (v:Value) (us:List Value) (Q:VK),Inv X pins σ H s->bB x v->bH xs us->r x xs H Q ->
  wpAny (model X.prog X.w) X.A (call (.builtin id) (v::us)) (EP X pins σ Q) X.xe s
def bH.one:∀ {x:V} {us:List Value},bH [x] us->∃u,us=[u]/\bB x u
 | _,_,.cons r .nil=>⟨_,rfl,r⟩
def bH.two:∀ {x y:V} {us:List Value},bH [x,y] us->∃u v,us=[u,v]/\bB x u/\bB y v
 | _,_,_,.cons r (.cons q .nil)=>⟨_,_,rfl,r,q⟩
theorem bH.reverse{xs:List V}{us:List Value}(h:bH xs us):bH xs.reverse us.reverse:=by
 induction h with
 | nil=>exact .nil
 | cons r t ih=>rw[List.reverse_cons,List.reverse_cons];exact bH.append ih (.cons r .nil)
section
variable {X:Cx} {pins:List (Addr×Obj)} {σ:St} {H:Hp} {s:Shared} {l b:Addr} {xs ys zs:List V}
theorem Inv.lset{its its':List Value}{n:Nat}{f:Array Value->Array Value}{t':Nat}(I:Inv X pins σ H s)(hH:H l=some (.lst xs))
  (e:s.heap.get? l=some { cls:=.type "list",data:=.seq its.toArray n }) (hf:f its.toArray=its'.toArray) (hv:bH ys its') (hz:ys.length<=sizeLine) :
  Inv X pins σ (EE H l (.lst ys)) { s with heap:=s.heap.update l (Obj.mapSeq f),toks:=t' }:=by
 have q:=PySem.IsL.update e f
 rw[hf] at q;refine I.write (x:=l) (e:=l) (by rw[hH];exact trivial) (.inl rfl) (λb' u hb hu=>(Heap.get?_update_other s.heap (Obj.mapSeq f) (Ne.symm hb)).trans hu) ⟨_,q⟩ ?_;exact⟨hz,its',_,hv,q⟩
def Inv.lnew{its:List Value}{t':Nat}(I:Inv X pins σ H s)(hv:bH ys its)(hz:ys.length<=sizeLine) :
  Inv X pins σ (EE H s.heap.objs.size (.lst ys)) { s with heap:=s.heap.push { cls:=.type "list",data:=.seq its.toArray },toks:=t' } :=
 I.laid (λ_ _ q=>Heap.get?_push_of_some _ q) (Fh _) ⟨hz,its,0,hv,Heap.get?_push_size _ rfl⟩
def Inv.fresh(I:Inv X pins σ H s):H s.heap.objs.size=none:=I.hok.fresh (Fh _)
theorem Inv.lstM(I:Inv X pins σ H s)(hH:H l=some (.lst xs)):xs.length<=sizeLine/\∃(its:List Value) (n:Nat),bH xs its/\xs.length=its.length/\s.heap.get? l=some { cls:=.type "list",data:=.seq its.toArray n }:=by
 obtain⟨z,its,n,r,e⟩:=I.hok l _ hH;exact⟨z,its,n,r,r.length,e⟩
theorem v4{n:Nat}(h:n<=sizeLine):Builtin.List.listTooLong n=false:=by
 unfold Builtin.List.listTooLong;exact FR (by omega)
end
section
variable {X:Cx}
def y9:V->List V->Hp->VK->Prop:=λx vs H Q=>∃l xs y,x=.ref l/\vs=[y]/\H l=some (.lst xs)/\xs.length<sizeLine/\Q .non (EE H l (.lst (xs++[y])))
theorem mn:MtM X "list.append" y9:=by
 intro pins s σ H x vs v us Q I rx rv h;obtain⟨l,xs,y,rfl,rfl,hH,hz,q⟩:=h
 cases rx
 obtain⟨u,rfl,ru⟩:=rv.one;obtain⟨z,its,n,r,hl,e⟩:=I.lstM hH;refine call_meets F.slot_list_append ⟨_,e,rfl⟩ F.entry_list_append (F.args_list_append_2 _ _) (PySem.list_append l its.toArray n u (by rw[FB];omega)) ⟨e,?_⟩;refine⟨.non,_,I.lset (its':=its++[u]) hH e (by simp) (r.append (.cons ru .nil)) ?_,rfl,q⟩;rw[Fi,G0];omega
def Av:V->List V->Hp->VK->Prop:=λx vs H Q=>∃l b xs zs,x=.ref l/\vs=[.ref b]/\H l=some (.lst xs)/\H b=some (.lst zs)/\xs.length+zs.length<=sizeLine/\Q .non (EE H l (.lst (xs++zs)))
theorem mt_extend:MtM X "list.extend" Av:=by
 intro pins s σ H x vs v us Q I rx rv h;obtain⟨l,b,xs,zs,rfl,rfl,hH,hB,hz,q⟩:=h
 cases rx
 obtain⟨u,rfl,ru⟩:=rv.one
 cases ru
 obtain⟨z,its,n,r,hl,e⟩:=I.lstM hH;obtain⟨z2,its2,n2,r2,hl2,e2⟩:=I.lstM hB;have hsz:its.toArray.size+its2.toArray.size<=sizeLine:=by rw[FB,FB];omega
 have hlong:¬ (!its.toArray.isEmpty&&Builtin.List.listTooLong (its.toArray.size+its2.toArray.size))=true:=by
  rw[v4 hsz,Bool.and_false];exact Fg
 refine call_meets F.slot_list_extend ⟨_,e,rfl⟩ F.entry_list_extend (F.args_list_extend_2 _ _)
  (AutoSeq1.list_extend_list_list_0 l its.toArray n b its2.toArray n2 hlong (by rw[FB];omega) (by omega)) ⟨e,e2,?_⟩
 refine⟨.non,_,I.lset (its':=its++its2) hH e (by simp) (r.append r2) ?_,rfl,q⟩;rw[Fi];omega
def rCat:R2:=λx y H Q=>∃l b xs zs,x=.ref l/\y=.ref b/\H l=some (.lst xs)/\H b=some (.lst zs)/\xs.length+zs.length<=sizeLine/\∀p,H p=none->Q (.ref p) (EE H p (.lst (xs++zs)))
theorem Bh:EV X (binaryOp .Add) rCat:=by
 intro pins s σ H x y v u Q I rx ry h;obtain⟨l,b,xs,zs,rfl,rfl,hH,hB,hz,q⟩:=h
 cases rx
 cases ry
 obtain⟨z,its,n,r,hl,e⟩:=I.lstM hH;obtain⟨z2,its2,n2,r2,hl2,e2⟩:=I.lstM hB;refine PySem.P.add_list e e2 ?_ (by rw[FB,FB];omega);have ea:its.toArray++its2.toArray=(its++its2).toArray:=by simp
 rw[ea];exact⟨.ref _,_,I.lnew (t':=s.toks) (r.append r2) (by rw[Fi];omega),rfl,q _ I.fresh⟩
end
section
variable {prog:Program} {w:World} {A:Around} {E:Value→Shared→Prop} {s:Shared}
set_option maxRecDepth 100000 in
end
section
variable {X:Cx}
end
end L2
namespace L2
open PySem PySem.Spec PyProof.Rows
variable {P:Program} {w:World} {u:Value} {H H':Hp} {xs:List (List E3×Addr×Value)} {y:V} {kvs:List (E3×V)} {Q:Value→Shared→Prop} {s:Shared} {pos:Pos} {X:Cx}
section
variable {κ:Type} [DecidableEq κ]
def oQ(kvs:List (κ×V))(k:κ):Option V:=(kvs.find? λkv=>decide (kv.1=k)).map (·.2)
def j7(kvs:List (κ×V))(k:κ)(v:V):List (κ×V) :=
 if (kvs.any λkv=>decide (kv.1=k))=true then kvs.map (λkv=>if kv.1=k then (kv.1,v) else kv) else kvs++[(k,v)]
def CG(kvs:List (κ×V))(k:κ):List (κ×V):=kvs.filter λkv=>decide (kv.1≠k)
theorem gX{p:κ×V}{r:List (κ×V)}{k:κ}(e:p.1=k):oQ (p::r) k=some p.2:=by simp[oQ,List.find?_cons,e]
theorem gY{p:κ×V}{r:List (κ×V)}{k:κ}(e:¬ p.1=k):oQ (p::r) k=oQ r k:=by simp[oQ,List.find?_cons,e]
theorem pL(k:κ):∀kvs:List (κ×V),(kvs.any λkv=>decide (kv.1=k))=(oQ kvs k).isSome
 | []=>rfl
 | p::r=>by
  rw[HD]
  by_cases e:p.1=k
  ·simp only[gX e,decide_eq_true e,Bool.true_or,Option.isSome_some]
  ·rw[gY e,FR e,Bool.false_or];exact pL k r
theorem e6(kvs:List (κ×V))(k:κ)(v:V):(j7 kvs k v).length<=kvs.length+1:=by
 unfold j7
 split
 ·rw[E7];omega
 ·rw[Fi,Fl,HK];omega
theorem qy.isSome_eq{o:Option V}{u:Option Value}(r:qy o u):o.isSome=u.isSome:=by
 cases o with
 | none=>cases u with
  | none=>rfl
  | some _=>exact(show False from r).elim
 | some _=>cases u with
  | none=>exact(show False from r).elim
  | some _=>rfl
theorem qy.getD{o:Option V}{u:Option Value}{d:V}{d':Value}(r:qy o u)(rd:bB d d'):bB (o.getD d) (u.getD d'):=by
 cases o with
 | none=>cases u with
  | none=>exact rd
  | some _=>exact(show False from r).elim
 | some _=>cases u with
  | none=>exact(show False from r).elim
  | some _=>exact r
theorem KV.val{kvs:List (κ×V)}{vs:List (κ×Value)}(r:KV kvs vs)(k:κ):qy (oQ kvs k) (valueAt vs k):=by
 unfold KV at r
 induction r with
 | nil=>exact True.intro
 | @cons p q ps qs h t ih =>
  obtain⟨h1,h2⟩:=h
  by_cases e:p.1=k
  ·have e':q.1=k:=h1.symm.trans e
   have b:valueAt (q::qs) k=some q.2:=by simp[valueAt,List.find?_cons,e']
   rw[gX e,b];exact h2
  ·have e':¬ q.1=k:=λz=>e (h1.trans z)
   have b:valueAt (q::qs) k=valueAt qs k:=by simp[valueAt,List.find?_cons,e']
   rw[gY e,b];exact ih
theorem KV.any{kvs:List (κ×V)}{vs:List (κ×Value)}(r:KV kvs vs)(k:κ):(kvs.any λkv=>decide (kv.1=k))=vs.any λkv=>decide (kv.1=k):=by
 unfold KV at r
 induction r with
 | nil=>rfl
 | cons h t ih=>rw[HD,HD,ih,h.1]
theorem KV.repl{kvs:List (κ×V)}{vs:List (κ×Value)}(r:KV kvs vs)(k:κ){y:V}{u:Value}(ry:bB y u) :
  KV (kvs.map λkv=>if kv.1=k then (kv.1,y) else kv) (vs.map λkv=>if kv.1=k then (kv.1,u) else kv):=by
 unfold KV at r ⊢
 induction r with
 | nil=>exact .nil
 | @cons p q ps qs h t ih =>
  rw[FJ,FJ];refine .cons ?_ ih;obtain⟨h1,h2⟩:=h
  by_cases e:p.1=k
  ·rw[Fs e,Fs (h1.symm.trans e)];exact⟨h1,ry⟩
  ·rw[Fp e,Fp (λz=>e (h1.trans z))];exact⟨h1,h2⟩
theorem KV.put{kvs:List (κ×V)}{vs:List (κ×Value)}(r:KV kvs vs)(k:κ){y:V}{u:Value}(ry:bB y u):KV (j7 kvs k y) (stored vs k u):=by
 unfold j7 stored;rw[r.any k]
 by_cases e:(vs.any λkv=>decide (kv.1=k))=true
 ·rw[Fs e,Fs e];exact r.repl k ry
 ·rw[Fp e,Fp e];exact Paired.snoc r ⟨rfl,ry⟩
theorem KV.drop{kvs:List (κ×V)}{vs:List (κ×Value)}(r:KV kvs vs)(k:κ):KV (CG kvs k) (without vs k):=by
 unfold KV at r ⊢;unfold CG without
 induction r with
 | nil=>exact .nil
 | @cons p q ps qs h t ih =>
  obtain⟨h1,h2⟩:=h;rw[List.filter_cons,List.filter_cons]
  by_cases e:p.1=k
  ·have a:¬ decide (p.1≠k)=true:=by simp[e]
   have b:¬ decide (q.1≠k)=true:=by simp[h1.symm.trans e]
   rw[Fp a,Fp b];exact ih
  ·have e':¬ q.1=k:=λz=>e (h1.trans z)
   have a:decide (p.1≠k)=true:=by simp[e]
   have b:decide (q.1≠k)=true:=by simp[e']
   rw[Fs a,Fs b];exact .cons ⟨h1,h2⟩ ih
def KV.length{kvs:List (κ×V)}{vs:List (κ×Value)}(r:KV kvs vs):kvs.length=vs.length:=Paired.length r
end
theorem og{k:E3}(r:bB (kV k) u):(a5 P w).is k u=true:=by
 cases k with
 | inl i=>obtain⟨t,e⟩:=(show ∃t,u=Value.int i t from r);subst e;exact ol P w i t
 | inr x=>obtain⟨t,e⟩:=(show ∃t,u=Value.str x t from r);subst e;exact nQ P w x t
theorem mr:∀ {ks:List E3} {us:List Value},bH (ks.map kV) us->ItemsAre (a5 P w) ks us
 | [],_,r=>by rw[G1] at r;cases r;exact .nil
 | k::ks,_,r=>by
  rw[FJ] at r
  cases r with
  | cons h t=>exact .cons (og h) (mr t)
abbrev KT(H:Hp):List (List E3×V)->List (List E3×Addr×Value)->Prop:=Paired λp q=>p.1=q.1/\H q.2.1=some (.tup (p.1.map kV))/\bB p.2 q.2.2
theorem KT.val{kvs:List (List E3×V)}(r:KT H kvs xs)(k:List E3):qy (oQ kvs k) ((atKey xs k).map (·.2)):=by
 induction r with
 | nil=>exact True.intro
 | @cons p q ps qs h t ih =>
  obtain⟨h1,_,h2⟩:=h
  by_cases e:p.1=k
  ·have e':q.1=k:=h1.symm.trans e
   have b:atKey (q::qs) k=some q.2:=by simp[atKey,List.find?_cons,e']
   rw[gX e,b];exact h2
  ·have e':¬ q.1=k:=λz=>e (h1.trans z)
   have b:atKey (q::qs) k=atKey qs k:=by simp[atKey,List.find?_cons,e']
   rw[gY e,b];exact ih
theorem KT.repl{kvs:List (List E3×V)}(r:KT H kvs xs)(k:List E3)(ry:bB y u) :
  KT H (kvs.map λkv=>if kv.1=k then (kv.1,y) else kv) (xs.map (putAt k u)):=by
 induction r with
 | nil=>exact .nil
 | @cons p q ps qs h t ih =>
  rw[FJ,FJ];refine .cons ?_ ih;obtain⟨h1,h2,h3⟩:=h;unfold putAt
  by_cases e:p.1=k
  ·rw[Fs e,Fs (h1.symm.trans e)];exact⟨h1,h2,ry⟩
  ·rw[Fp e,Fp (λz=>e (h1.trans z))];exact⟨h1,h2,h3⟩
theorem KT.put{kvs:List (List E3×V)}(r:KT H kvs xs)(k:List E3){b:Addr}(hb:H b=some (.tup (k.map kV)))(ry:bB y u) :
  KT H (j7 kvs k y) (storedH xs k b u):=by
 have e:(kvs.any λkv=>decide (kv.1=k))=(atKey xs k).isSome:=by
  rw[pL,(r.val k).isSome_eq,Option.isSome_map]
 unfold j7 storedH;rw[e]
 by_cases q:(atKey xs k).isSome=true
 ·rw[Fs q,Fs q];exact r.repl k ry
 ·rw[Fp q,Fp q];exact Paired.snoc r ⟨rfl,hb,ry⟩
def KT.keeps{kvs:List (List E3×V)}(r:KT H kvs xs)(ht:∀b ys,H b=some (.tup ys)->H' b=some (.tup ys)):KT H' kvs xs :=
 Paired.mapP r λ_ _ z=>⟨z.1,ht _ _ z.2.1,z.2.2⟩
section
variable {P:Program} {w:World} {H:Hp} {h:Heap} {a:Addr}
def B6{u:HO}(ok:EX P w H h)(e:Rd H a u):bV P w H h a u:=e.ok ok
def i4(ok:EX P w H h)(e:Rd H a (.dK kvs)):kvs.length<=sizeLine/\(a==sysModules)=false/\∃vs,KV kvs vs/\h.DictOf (a5 P w) a vs :=
 show bV P w H h a (.dK kvs) from B6 ok e
def vZ(ok:EX P w H h)(e:H a=some (.dK kvs)):kvs.length<=sizeLine/\(a==sysModules)=false/\∃vs,KV kvs vs/\h.DictOf (a5 P w) a vs:=i4 ok (.inl e)
theorem j6{ks:List E3}(ok:EX P w H h)(e:H a=some (.tup (ks.map kV))):(tupleKind (a5 P w)).is h ks a:=by
 obtain⟨_,its,r,o,h1,h2,n,h3⟩:=(show bV P w H h a (.tup (ks.map kV)) from ok a _ e);exact⟨o,its.toArray,n,h1,h2,h3,by simpa using mr r⟩
theorem mT{kvs:List (List E3×V)}(ok:EX P w H h)(e:Rd H a (.dT kvs)):kvs.length<=sizeLine/\(a==sysModules)=false /\
  ∃xs,KT H kvs xs/\h.DictOfH (tupleKind (a5 P w)) a xs:=by
 obtain⟨z,y,xs,r,o,es,ep,h1,h2,h3,h4,h5⟩:=(show bV P w H h a (.dT kvs) from B6 ok e);refine⟨z,y,xs,r,o,es,ep,h1,h2,h3,h4,λx hx=>?_,h5⟩;have all:∀ {l:List (List E3×V)} {m:List (List E3×Addr×Value)},KT H l m->∀x∈m,(tupleKind (a5 P w)).is h x.1 x.2.1:=by
  intro l m q
  induction q with
  | nil=>intro x hx;exact nomatch hx
  | @cons p q ps qs hq t ih =>
   intro x hx
   rcases Fj.mp hx with e | hx
   ·subst e;exact j6 ok (by rw[<- hq.1];exact hq.2.1)
   ·exact ih x hx
 exact all r x hx
def Ds{kvs:List (List E3×V)}(ok:EX P w H h)(e:H a=some (.dT kvs)):kvs.length<=sizeLine/\(a==sysModules)=false /\
  ∃xs,KT H kvs xs/\h.DictOfH (tupleKind (a5 P w)) a xs:=mT ok (.inl e)
end
def pk(H:Hp)(a:Addr)(y:V)(r:Option V):Prop :=
 (∃kvs k,Rd H a (.dK kvs)/\y=kV k/\r=oQ kvs k)\/∃kvs k b,Rd H a (.dT kvs)/\y=.ref b/\H b=some (.tup (k.map kV))/\r=oQ kvs k
def DPut(H:Hp)(a:Addr)(y v:V)(H':Hp):Prop :=
 (∃kvs k,H a=some (.dK kvs)/\y=kV k/\kvs.length<sizeLine/\H'=EE H a (.dK (j7 kvs k v))) \/
 ∃kvs k b,H a=some (.dT kvs)/\y=.ref b/\H b=some (.tup (k.map kV))/\kvs.length<sizeLine/\H'=EE H a (.dT (j7 kvs k v))
def pk.k{H:Hp}{a:Addr}{kvs:List (E3×V)}{k:E3}(e:H a=some (.dK kvs)):pk H a (kV k) (oQ kvs k):=.inl ⟨kvs,k,.inl e,rfl,rfl⟩
def DPut.k{H:Hp}{a:Addr}{kvs:List (E3×V)}{k:E3}{v:V}(e:H a=some (.dK kvs))(hl:kvs.length<sizeLine):DPut H a (kV k) v (EE H a (.dK (j7 kvs k v))):=.inl ⟨kvs,k,e,rfl,hl,rfl⟩
section
variable {X:Cx} {pins:List (Addr×Obj)} {σ:St} {H:Hp} {s:Shared} {a:Addr} {y v:V} {u r:Value} {o:Option V} {A:Around} {E:Value→Shared→Prop}
theorem Inv.big(I:Inv X pins σ H s):sysModules<s.heap.objs.size:=by
 have h:mainGlobals<s.heap.objs.size:=(I.mod.glob.keeps I.bk).lt
 exact Nat.lt_trans (by decide) h
theorem r6(hu:A.units+1<cLine)(I:Inv X pins σ H s)(g:pk H a y (some v))(ry:bB y u)(h:∀w' s',Inv X pins σ H s'->bB v w'->Q w' s') :
  wpAny (model X.prog X.w) A (getItem (.ref a) u) Q E s:=by
 rcases g with⟨kvs,k,e,ey,l⟩ | ⟨kvs,k,b,e,ey,eb,l⟩
 ·subst ey;obtain⟨z,hd,vs,rel,dd⟩:=i4 I.hok e;obtain⟨w',hw,rw'⟩:=qy.some_of (v:=v) (o:=valueAt vs k) (by rw[l];exact rel.val k);exact wpAny_getItem_of (og ry) dd.mapOf hw (h w' _ (I.tok _) rw')
 ·subst ey
  cases (show u=Value.ref b from ry)
  obtain⟨z,hd,xs,rel,dd⟩:=mT I.hok e;obtain⟨w',hw,rw'⟩:=qy.some_of (v:=v) (o:=(atKey xs k).map (·.2)) (by rw[l];exact rel.val k);obtain⟨p,hp,hp2⟩:=Hn.mp hw;refine wpAny_getItem_heap (GZ hu) (j6 I.hok eb) dd hp ?_;rw[hp2];exact h w' _ (I.tok _) rw'
theorem d_in(hu:A.units+1<cLine)(I:Inv X pins σ H s)(g:pk H a y o)(ry:bB y u)(h:∀s',Inv X pins σ H s'->Q (.bool o.isSome) s') :
  wpAny (model X.prog X.w) A (compareOp .In u (.ref a)) Q E s:=by
 rcases g with⟨kvs,k,e,ey,l⟩ | ⟨kvs,k,b,e,ey,eb,l⟩
 ·subst ey;obtain⟨z,hd,vs,rel,dd⟩:=i4 I.hok e;refine wpAny_in_of (og ry) hd dd.mapOf ?_;rw[<- (rel.val k).isSome_eq,<- l];exact h _ (I.tok _)
 ·subst ey
  cases (show u=Value.ref b from ry)
  obtain⟨z,hd,xs,rel,dd⟩:=mT I.hok e;refine wpAny_in_heap (GZ hu) (j6 I.hok eb) hd dd ?_;have q:=(rel.val k).isSome_eq;rw[Option.isSome_map] at q;rw[<- q,<- l];exact h _ (I.tok _)
theorem At(hu:A.units+1<cLine)(I:Inv X pins σ H s)(g:pk H a y o)(ry:bB y u)(h:∀s',Inv X pins σ H s'->Q (.bool (!o.isSome)) s') :
  wpAny (model X.prog X.w) A (compareOp .NotIn u (.ref a)) Q E s:=by
 rcases g with⟨kvs,k,e,ey,l⟩ | ⟨kvs,k,b,e,ey,eb,l⟩
 ·subst ey;obtain⟨z,hd,vs,rel,dd⟩:=i4 I.hok e;refine wpAny_notIn_of (og ry) hd dd.mapOf ?_;rw[<- (rel.val k).isSome_eq,<- l];exact h _ (I.tok _)
 ·subst ey
  cases (show u=Value.ref b from ry)
  obtain⟨z,hd,xs,rel,dd⟩:=mT I.hok e;refine wpAny_notIn_heap (GZ hu) (j6 I.hok eb) hd dd ?_;have q:=(rel.val k).isSome_eq;rw[Option.isSome_map] at q;rw[<- q,<- l];exact h _ (I.tok _)
def n9{h':Heap}{t':Nat}{ob:HO}(I:Inv X pins σ H s)(mu:Mut (H a))(hs:Heap.SameBut a s.heap h')(he:∃q,h'.get? a=some q)(new:bV X.prog X.w (EE H a ob) h' a ob) :
  Inv X pins σ (EE H a ob) { s with heap:=h',toks:=t' } :=
 I.write (x:=a) (e:=a) mu (.inl rfl) (λb q hb z=>(hs.2 b hb).trans z) he new
def sB{h':Heap}{vs:List (E3×Value)}(z:kvs.length<=sizeLine)(hd:(a==sysModules)=false)(rel:KV kvs vs)(dd:h'.DictOf (a5 P w) a vs) :
  bV P w H' h' a (.dK kvs):=⟨z,hd,vs,rel,dd⟩
theorem tG{Q:Unit->Shared->Prop}(hu:A.units+1<cLine)(I:Inv X pins σ H s)(g:DPut H a y v H')(ry:bB y u)(rv:bB v r)(h:∀s',Inv X pins σ H' s'->Q () s') :
  wpAny (model X.prog X.w) A (setItem (.ref a) u r) Q E s:=by
 rcases g with⟨kvs,k,e,ey,l,eH⟩ | ⟨kvs,k,b,e,ey,eb,l,eH⟩
 ·subst ey eH;obtain⟨z,hd,vs,rel,dd⟩:=vZ I.hok e;have hz:vs.length<=sizeLine:=by rw[<- rel.length];exact z
  have hl:(j7 kvs k v).length<=sizeLine:=by have:=e6 kvs k v;omega
  refine wpAny_setItem_pairs (hsz:=hz) (og ry) dd λh' dd' hs=>h _ ?_;have he:∃q,h'.get? a=some q:=let ⟨q,_,_,hq,_⟩:=dd';⟨q,hq⟩;exact n9 I (by rw[e];exact True.intro) hs he (sB hl hd (rel.put k rv) dd')
 ·subst ey eH
  cases (show u=Value.ref b from ry)
  obtain⟨z,hd,xs,rel,dd⟩:=Ds I.hok e;have hz:xs.length<=sizeLine:=by rw[<- Paired.length rel];exact z
  have hl:(j7 kvs k v).length<=sizeLine:=by have:=e6 kvs k v;omega
  refine wpAny_setItem_heap (hsz:=hz) (GZ hu) (j6 I.hok eb) dd λh' dd' hs=>h _ ?_;obtain⟨q,es,ep,hq,h2,h3,h4,_,h5⟩:=dd';refine n9 I (by rw[e];exact True.intro) hs ⟨q,hq⟩ ⟨hl,hd,_,(rel.put k eb rv).keeps λc ys ec=>?_,q,es,ep,hq,h2,h3,h4,h5⟩;rw[aO (Eb ec e (λz=>nomatch z))];exact ec
end
section
variable {X:Cx} {pins:List (Addr×Obj)} {σ:St} {H:Hp} {s:Shared} {a:Addr} {kvs:List (E3×V)} {k:E3} {u:Value} {A:Around} {E:Value→Shared→Prop}
end
def NoSl(i:Expr):Prop:=∀ov iv,subscripted i false ov iv=operate [ov,iv] (getItem ov iv)
theorem yr{prog:Program}{A:Around}{E:Value->Shared->Prop}{env:Env}{value slice:Expr}{T id:String}
  (hl:typeLookup (.type T) "__getitem__"=pure (some (.builtin id))) (hs:NoSl slice)
  (h:wpAny (model prog w) A (eval value env) (λo s₁=>wpAny (model prog w) A (eval slice env) (λi s₂=>s₂.TypeIs o T/\wpAny (model prog w) A (getItem o i) Q E s₂) E s₁) E s) :
  wpAny (model prog w) A (eval (.Subscript value slice pos) env) Q E s:=by
 refine Subscript_ (Gp h (λo s₁ h₁=>Gp h₁ (λi s₂ h₂=>?_) λ_ _ x=>x) λ_ _ x=>x);obtain⟨hT,h₂⟩:=h₂;unfold subscriptTail;refine Fc ?_;rw[getitemInPython_of_ne hT.not_modules];refine Fc (wpAny_specialOf hT hl ?_);have fin:wpAny (model prog w) A (subscripted slice false o i) (λr s₃=>wpAny (model prog w) A (letTemporaryGo value o r >>= λ_=>pure r) Q E s₃) E s₂:=by
  rw[hs o i];exact wpAny_operating (Gp h₂ (λr s₃ h₃=>Fc (wpAny_letTemporaryGo (Ft h₃))) λ_ _ x=>x)
 first
  | exact Ft (Fc fin)
  | exact Fc (Ft (Fc fin))
  | exact Fc fin
theorem nk{pins:List (Addr×Obj)}{σ:St}{a:Addr}{o:Option V}(I:Inv X pins σ H s)(g:pk H a y o):s.TypeIs (.ref a) "dict":=by
 rcases g with⟨kvs,k,e,_,_⟩ | ⟨kvs,k,b,e,_,_,_⟩
 ·obtain⟨_,_,vs,_,dd⟩:=i4 I.hok e;exact dd.typeIs
 ·obtain⟨_,_,xs,_,dd⟩:=mT I.hok e;exact dd.typeIs
def Ek(td ty:TE):TE:=λσ H Q=>td σ H λx H1=>ty σ H1 λy H2=>∃a v,x=.ref a/\pk H2 a y (some v)/\Q v H2
def DQ(td ty tv:TE):TS:=λD σ H=>tv σ H λv H1=>td σ H1 λx H2=>ty σ H2 λy H3=>∃a H4,x=.ref a/\DPut H3 a y v H4/\D.nx σ H4
section
variable {X:Cx} {o i e value:Expr} {pos pos' tpos:Pos} {td ty tv:TE}
theorem zn(hu:X.A.units+1<cLine)(ho:PE X o td)(hi:PE X i ty)(hs:NoSl i):PE X (.Subscript o i pos) (Ek td ty):=by
 intro pins s σ H Q I h;refine yr PySem.F.slot_dict_getitem.lookup hs (ER (ho pins s σ H _ I h) λu s1 ⟨x,H1,I1,rx,q1⟩=>ER (hi pins s1 σ H1 _ I1 q1) λiv s2 ⟨y,H2,I2,ry,a,v,ex,g,q2⟩=>?_);subst ex;obtain rfl:u=Value.ref a:=rx;exact⟨nk I2 g,r6 hu I2 g ry λw' s3 I3 rw'=>⟨v,H2,I3,rw',q2⟩⟩
theorem xG(hu:X.A.units+1<cLine)(ho:PE X o td)(hi:PE X i ty)(hv:PE X value tv)(hs:swapsWith value (some (.Subscript o i pos')) pos.line X.env=pure false) :
  PS X (.Assign [.Subscript o i pos'] value pos) (DQ td ty tv):=by
 intro pins s σ H D I h;refine wpAny_Assign_Subscript (ER (hv pins s σ H _ I h) λr s1 ⟨v,H1,I1,rv,q1⟩=>ER (ho pins s1 σ H1 _ I1 q1) λu s2 ⟨x,H2,I2,rx,q2⟩=>ER (hi pins s2 σ H2 _ I2 q2) λiv s3 ⟨y,H3,I3,ry,a,H4,ex,g,q3⟩=>?_) hs;subst ex;obtain rfl:u=Value.ref a:=rx;exact tG hu I3 g ry rv λs4 I4=>⟨σ,H4,I4,q3⟩
end
def oP(h:Heap)(hb:sysModules<h.objs.size):bV P w H (h.push { cls:=.type "dict",data:=.dict #[] }) h.objs.size (.dK []) :=
 ⟨GM _,HH.mpr (Ne.symm (FV hb)),[],.nil,Heap.DictOf.new h⟩
def BG:TE:=λ_ H Q=>∀p,H p=none->Q (.ref p) (EE H p (.dK []))
section
variable {X:Cx} {pos:Pos}
def oR:PE X (.Dict [] [] pos) BG:=λpins s σ H Q I h =>
 wpAny_Dict_empty ⟨.ref s.heap.objs.size,_,I.laid (a:=s.heap.objs.size) (o:=.dK []) (t':=s.toks) (λ_ _ q=>Heap.get?_push_of_some _ q) (Fh _) (oP s.heap I.big),rfl,h _ (I.hok.fresh (Fh _))⟩
end
def tN:List (TE×TE)->St->Hp->(List (V×V)->Hp->Prop)->Prop
 | [],_,H,Q=>Q [] H
 | (tk,tv)::r,σ,H,Q=>tk σ H λx H1=>tv σ H1 λy H2=>tN r σ H2 λps H3=>Q ((x,y)::ps) H3
abbrev VV:List (V×V)->List (Value×Value)->Prop:=Paired λp q=>bB p.1 q.1/\bB p.2 q.2
def PPs(X:Cx)(pos:Pos)(keys:List (Option Expr))(values:List Expr)(trs:List (TE×TE)):Prop :=
 ∀(pins:List (Addr×Obj)) (s:Shared) (σ:St) (H:Hp) (Q:List (V×V)->Hp->Prop),Inv X pins σ H s->tN trs σ H Q ->
  wpAny (model X.prog X.w) X.A (evalPairs (pairTrees keys values X.env pos)) (λvs s'=>∃ps H',Inv X pins σ H' s'/\VV ps vs/\Q ps H') X.xe s
def yu:PPs X pos [] [] []:=λpins s σ H Q I h=>pairTrees_nil_walk ⟨[],H,I,.nil,h⟩
def oJ{k v:Expr}{ks:List (Option Expr)}{vs:List Expr}{tk tv:TE}{trs:List (TE×TE)}(hk:PE X k tk)(hv:PE X v tv)(hr:PPs X pos ks vs trs) :
  PPs X pos (some k::ks) (v::vs) ((tk,tv)::trs):=λpins s σ H Q I h =>
 pairTrees_cons_walk (ER (hk pins s σ H _ I h) λu s1 ⟨x,H1,I1,rx,q1⟩=>ER (hv pins s1 σ H1 _ I1 q1) λw2 s2 ⟨y,H2,I2,ry,q2⟩ =>
  ER (hr pins s2 σ H2 _ I2 q2) λws s3 ⟨ps,H3,I3,rel,q3⟩=>⟨(x,y)::ps,H3,I3,.cons ⟨rx,ry⟩ rel,q3⟩)
def ka(kvs more:List (E3×V)):List (E3×V):=more.foldl (λacc kv=>j7 acc kv.1 kv.2) kvs
theorem KV.merge:∀ {more:List (E3×V)} {rs:List (E3×Value)} {kvs:List (E3×V)} {vs:List (E3×Value)},KV more rs->KV kvs vs->KV (ka kvs more) (merged vs rs):=by
 intro more rs kvs vs r;unfold KV at r
 induction r generalizing kvs vs with
 | nil=>intro q;exact q
 | @cons p q ps qs h t ih =>
  intro r0;have e:KV (j7 kvs p.1 p.2) (stored vs q.1 q.2):=by
   have:=r0.put p.1 h.2
   rw[<- h.1];exact this
  exact ih e
theorem fg:∀(more kvs:List (E3×V)),(ka kvs more).length<=kvs.length+more.length
 | [],kvs=>by show kvs.length<=kvs.length+0;omega
 | p::r,kvs=>by
  have h1:=fg r (j7 kvs p.1 p.2)
  have h2:=e6 kvs p.1 p.2
  show (ka (j7 kvs p.1 p.2) r).length<=_
  rw[Fl];omega
theorem j9{P:Program}{w:World}:∀ {kvs:List (E3×V)} {ws:List (Value×Value)},VV (kvs.map λkv=>(kV kv.1,kv.2)) ws->∃rs,Carries (a5 P w) ws rs/\KV kvs rs
 | [],_,r=>by rw[G1] at r;cases r;exact⟨[],True.intro,.nil⟩
 | p::kvs,_,r=>by
  rw[FJ] at r
  cases r with
  | @cons a b as bs h t =>
   obtain⟨rs,c,q⟩:=j9 (P:=P) (w:=w) t;obtain⟨b1,b2⟩:=b;exact⟨(p.1,b2)::rs,⟨og h.1,rfl,c⟩,.cons ⟨rfl,h.2⟩ q⟩
def DH(trs:List (TE×TE)):TE:=λσ H Q=>∀p,H p=none->tN trs σ (EE H p (.dK [])) λps H2=>H2 p=some (.dK [])/\∃kvs:List (E3×V),ps=kvs.map (λkv=>(kV kv.1,kv.2))/\kvs.length<=15/\Q (.ref p) (EE H2 p (.dK (ka [] kvs)))
theorem Af{keys:List (Option Expr)}{values:List Expr}{trs:List (TE×TE)}(h:PPs X pos keys values trs)(hall:keys.all (·.isSome)=true)(hl:keys.length=values.length)(h0:keys≠[])
  (h15:keys.length<=15):PE X (.Dict keys values pos) (DH trs):=by
 intro pins s σ H Q I q;have hn:=I.hok.fresh (Fh s.heap.objs.size);have I1:=I.laid (a:=s.heap.objs.size) (o:=.dK []) (h':=s.heap.push { cls:=.type "dict",data:=.dict #[] }) (t':=s.toks) (λ_ _ q=>Heap.get?_push_of_some _ q) (Fh _) (oP s.heap I.big);refine wpAny_Dict_walk (knd:=a5 X.prog X.w) hall hl h0 h15 (ER (h pins _ σ _ _ I1 (q _ hn)) λws s2 ⟨ps,H2,I2,rel,e,kvs,ep,lk,q2⟩=>?_);subst ep;obtain⟨rs,c,rk⟩:=j9 (P:=X.prog) (w:=X.w) rel;obtain⟨z,hd,vs0,r0,dd⟩:=vZ I2.hok e
 cases r0
 refine⟨rs,c,dd,λh' dd' hs=>⟨.ref s.heap.objs.size,_,?_,rfl,q2⟩⟩;have hz:(ka [] kvs).length<=sizeLine:=by
  have h1:=fg kvs []
  rw[HK] at h1;rw[sizeLine_eq];omega
 have he:∃q,h'.get? s.heap.objs.size=some q:=let ⟨q,_,_,hq,_⟩:=dd';⟨q,hq⟩
 exact n9 I2 (by rw[e];exact True.intro) hs he (sB hz hd (rk.merge .nil) dd')
structure M2(X:Cx)(o:Expr)(m:Str)(apos:Pos)(e f:Expr)(cpos:Pos):Prop where
 base:attributeBase o m X.env (eval o X.env)=eval o X.env
 few:((backTo cpos (starEach [e,f] X.env)).all (λx=>!x.1)&&(backToKw cpos (keywordEach [] X.env)).all (λx=>x.1.isSome)
  && decide (([e,f]:List Expr).length+([]:List Keyword).length+(if ([]:List Keyword).isEmpty then 0 else 1)<30))=true
 line:(apos.endLine==cpos.line)=true
 trees:backTo cpos (starEach [e,f] X.env)=[(false,eval e X.env),(false,eval f X.env)]
def IsD(H:Hp)(a:Addr):Prop:=(∃kvs,Rd H a (.dK kvs))\/∃kvs,Rd H a (.dT kvs)
theorem CN{pins:List (Addr×Obj)}{σ:St}{a:Addr}(I:Inv X pins σ H s)(d:IsD H a) :
  s.TypeIs (.ref a) "dict"/\(∀b,Value.ref a=.ref b->∃ob,s.heap.get? b=some ob/\ob.dict=none)/\(a==sysModules)=false:=by
 rcases d with⟨kvs,e⟩ | ⟨kvs,e⟩
 ·obtain⟨_,hd,vs,_,dd⟩:=i4 I.hok e;refine⟨dd.typeIs,λb q=>?_,hd⟩
  cases q
  obtain⟨ob,_,_,h1,h2,_⟩:=dd;exact⟨ob,h1,h2.2.1⟩
 ·obtain⟨_,hd,xs,_,dd⟩:=mT I.hok e;refine⟨dd.typeIs,λb q=>?_,hd⟩
  cases q
  obtain⟨ob,_,_,h1,h2,_⟩:=dd;exact⟨ob,h1,h2.2.1⟩
section
variable {X:Cx} {pins:List (Addr×Obj)} {σ:St} {H:Hp} {s:Shared} {a:Addr} {y d:V} {u r:Value} {o:Option V} {A:Around} {E:Value→Shared→Prop}
theorem AK(hu:A.units+1<cLine)(I:Inv X pins σ H s)(g:pk H a y o)(ry:bB y u)(rd:bB d r)(h:∀w' s',Inv X pins σ H s'->bB (o.getD d) w'->Q w' s') :
  wpAny (model X.prog X.w) A (call (.builtin "dict.get") [.ref a,u,r]) Q E s:=by
 rcases g with⟨kvs,k,e,ey,l⟩ | ⟨kvs,k,b,e,ey,eb,l⟩
 ·subst ey;obtain⟨z,hd,vs,rel,dd⟩:=i4 I.hok e;refine call_meetsIn Hx dd.typeIs PySem.F.entry_dict_get (PySem.F.args_dict_get_3 _ _ _) (meets_dict_get_default (a5 X.prog X.w) a (og ry) hd r) ⟨_,dd.mapOf,h _ _ (I.tok _) ?_⟩;rw[l];exact(rel.val k).getD rd
 ·subst ey
  cases (show u=Value.ref b from ry)
  obtain⟨z,hd,xs,rel,dd⟩:=mT I.hok e;refine call_meetsIn Hx dd.typeIs PySem.F.entry_dict_get (PySem.F.args_dict_get_3 _ _ _) (meetsH_dict_get_default (tupleKind (a5 X.prog X.w)) a b hd r) ⟨GZ hu,k,xs,j6 I.hok eb,dd,h _ _ (I.tok _) ?_⟩;rw[l];exact(rel.val k).getD rd
end
def AF(td ty tx:TE):TE:=λσ H Q=>td σ H λx H1=>∃a,x=.ref a/\IsD H1 a/\ty σ H1 λy H2=>tx σ H2 λz H3=>∃o,pk H3 a y o/\Q (o.getD z) H3
section
variable {X:Cx} {o e f:Expr} {apos cpos:Pos} {td ty tx:TE}
theorem vm(hu:X.A.units+1<cLine)(ho:PE X o td)(he:PE X e ty)(hf:PE X f tx)(m:M2 X o "get" apos e f cpos):PE X (.Call (.Attribute o "get" apos) [e,f] [] cpos) (AF td ty tx):=by
 intro pins s σ H Q I h;refine wpAny_Call_method m.base m.few m.line PySem.F.plainAttrs_dict Hx PySem.F.type_dict_get (ER (ho pins s σ H _ I h) λu s1 ⟨x,H1,I1,rx,a,ex,d,q1⟩=>?_);subst ex;obtain rfl:u=Value.ref a:=rx;obtain⟨t1,t2,_⟩:=CN I1 d;refine⟨t1,t2,?_⟩;rw[m.trees]
 refine Calls.callWith_builtin rfl (Calls.evalArgs_plain (Calls.spliced_cons (ER (he pins s1 σ H1 _ I1 q1) λiv s2 ⟨y,H2,I2,ry,q2⟩ =>
  Calls.spliced_cons (ER (hf pins s2 σ H2 _ I2 q2) λfv s3 ⟨z,H3,I3,rz,ov,g,q3⟩=>Calls.spliced_nil ?_))))
 exact AK hu I3 g ry rz λw' s4 I4 rw'=>⟨_,H3,I4,rw',q3⟩
end
section
variable {X:Cx} {pins:List (Addr×Obj)} {σ:St} {H:Hp} {s:Shared} {a:Addr} {kvs:List (E3×V)} {A:Around} {E:Value→Shared→Prop}
end
section
variable {X:Cx} {pins:List (Addr×Obj)} {σ:St} {H:Hp} {s:Shared} {a:Addr} {y:V} {u:Value} {A:Around} {E:Value→Shared→Prop}
end
end L2
namespace Att
open PySem PySem.W PySem.Calls PyProof.Rows
theorem jv{P:Params}{h:Heap}:∀(ns:List Int) (vs:List Value),WellAll P h vs (ns.map WData.int)->IntsAre vs ns:=by
 intro ns
 induction ns with
 | nil =>
  intro vs w;rw[G1] at w
  cases w
  exact .nil
 | cons n ns ih =>
  intro vs w;rw[FJ] at w
  cases w with
  | cons a b =>
   cases a
   exact .cons _ _ (ih _ b)
theorem script_of{l:OpenLaw}{n:Nat}(hn:l.most=some n){P:Params}{h:Heap}{args:List WData}{vals:List Value}
  (hpre:l.row.toRowW.claim.pre args=true) (hwl:WellAll P h vals args) :
  ∃a vs ns,vals=[Value.ref a]/\args=[WData.list (ns.map WData.int)]/\h.get? a=some { cls:=.type "list",data:=.seq vs.toArray }/\IntsAre vs ns/\ns.length<=n:=by
 have hsh:WShape.hasAll [] args [.list .int]=true:=(pre_splitW hpre).1
 have hc:l.pre.holds [] { args:=args }=true:=(pre_splitW hpre).2
 obtain⟨d,r,rfl,h1,h2⟩:=hasAllW_cons hsh;obtain rfl:=hasAllW_nil h2;obtain⟨xs,rfl,h3⟩:=hasW_list h1;obtain⟨ns,rfl⟩:=items_int h3;have hlen:ns.length<=n:=by
  unfold OpenLaw.pre at hc;have h4:(WTm.not (.lt (.lit (.int (n:Int))) (.len (.arg 0)))).holds [] { args:=[.list (ns.map .int)] }=true:=by
   have h4:=(holds_andW hc).1
   rw[hn] at h4;exact h4
  have h5:=condW_of h4 (w_not (w_lt w_lit (w_len_list (w_arg rfl))))
  rw[E7] at h5;refine Nat.le_of_not_lt λq=>?_;have q':(n:Int)<((ns.length:Nat):Int):=by omega
  first
   | (rw[FX q'] at h5;exact absurd h5 (by decide))
   | (simp at h5;omega)
 cases hwl with
 | cons w1 w2 =>
  cases w2
  cases w1 with
  | list ho hall=>exact⟨_,_,ns,rfl,rfl,ho,jv ns _ hall,hlen⟩
def post_true(l:OpenLaw)(args:List WData):l.row.toRowW.claim.post args (.bool true) args=true :=
 postW_of (r:=l.row.toRowW) (X:=(true==true))
  (show WShape.has [] (.bool true) .bool=true by first | rfl | decide | simp[WShape.has,WShape.arms,WShape.armsAll])
  (show (WTm.eq .res (.lit (.bool true))).value [] { args:=args,res:=some (.bool true),after:=args }=some (.bool (true==true)) from w_eq_bool (w_res rfl) w_lit) rfl
section
variable {prog:Program} {w:World} {A:Around} {E:Value→Shared→Prop} {s:Shared} {K:Frag}
end
end Att
namespace L2
open PySem PySem.Spec PyProof.Rows
theorem mM:∀ {vs:List Value} {ns:List Int},IntsAre vs ns->bH (ns.map V.int) vs
 | _,_,.nil=>.nil
 | _,_,.cons n t h=>.cons ⟨t,rfl⟩ (mM h)
def Only(H:Hp):Prop:=∀b,H b=none\/∃o xs,H b=some (.frz o (.lst xs))
theorem vO{P:Program}{w:World}{K:PySem.W.Frag}{mg mb:Str->Option Value}{CX:CXT}{k:Nat}{fa a:Addr}{fd:FuncData}{x:Str}{sp:Sp}{s₁:Shared}{vs:List Value}{ns:List Int}
  (KX:K.In s₁.heap) (hns:s₁.heap.Ns mainGlobals mg) (hb:s₁.heap.Ns builtinsNs mb) (hbb:∀x:Str,x≠"__name__"->mb x=bootBuiltins x) (hlim:s₁.heap.NoLimit) (hg:s₁.gens=#[])
  (ha:s₁.heap.get? a=some { cls:=.type "list",data:=.seq vs.toArray }) (hi:IntsAre vs ns) (hl:ns.length<=sizeLine) (hr:fS k callerA)
  (F:∀base:Heap,K.In base->base.Ns mainGlobals mg->kX P w K mg base CX k fa fd [x] sp) (hbind:∀(s:Shared) (u:Value),BindsTo s fd ⟨[u],[]⟩ [(x,u)])
  (hsp:∀H:Hp,Only H->EY K H a (ns.map V.int)->sp [.ref a] H (λv _=>v=.bl true) λ_ _ _=>False)
  (hCX:∀H e s',CX [] H s₁ (λ_ _ _=>False) e s'->False) :
  codeAny (model P w) callerA (.call (.ref fa) ⟨[.ref a],[]⟩) (λr s'=>r=.ok (.ret (.bool true))/\OldK s₁.heap s'.heap/\s'.os=s₁.os/\AllBare s'.gens) s₁:=by
 have rv:=mM hi
 have lenV:=hi.length
 have core:∀H:Hp,Only H->EY K H a (ns.map V.int)->EX P w H s₁.heap->(∀b,H b≠none->b=a)->(H a≠none->K.lookup a=none) ->
   codeAny (model P w) callerA (.call (.ref fa) ⟨[.ref a],[]⟩) (λr s'=>r=.ok (.ret (.bool true))/\OldK s₁.heap s'.heap/\s'.os=s₁.os/\AllBare s'.gens) s₁:=by
  intro H hO hS hok hA hK;have base_of:∀ {b:Addr} {o:Obj},s₁.heap.get? b=some o->H b=none->(u7 s₁.heap H).get? b=some o:=λe n=>uK e n;have noA:∀ {b:Addr} {o:Obj} {es:Array DictEntry} {ep:Nat},s₁.heap.get? b=some o->o.data=.dict es ep->H b=none:=λ{b o es ep} e d=>by
   cases q:H b with
   | none=>rfl
   | some u =>
    have e':b=a:=hA b (by rw[q];simp)
    subst e';rw[ha] at e;cases e;have d':Data.seq vs.toArray _=Data.dict es ep:=d
    cases d'
  have nsK:∀ {b:Addr} {m:Str->Option Value},s₁.heap.Ns b m->(u7 s₁.heap H).Ns b m:=λ{b m} ⟨o,es,ep,e,d,r⟩=>⟨o,es,ep,base_of e (noA e d),d,r⟩
  have hKb:K.In (u7 s₁.heap H):=λb o e=>base_of (KX b o e) (by
   cases q:H b with
   | none=>rfl
   | some u =>
    have e':b=a:=hA b (by rw[q];simp)
    subst e'
    rw[hK (by rw[q];simp)] at e;cases e)
  have hM:Mod K mg (u7 s₁.heap H):=⟨hKb,nsK hns,⟨mb,nsK hb,hbb⟩,let ⟨mc,h1,h2⟩:=hlim;⟨mc,nsK h1,h2⟩⟩
  have e0:Env0 P w K mg (u7 s₁.heap H) callerA [] s₁ H:=⟨rfl,hM,λb o e=>Ai e,Nat.le_of_eq (rN _ _),trivial,λb hb=>absurd (show b∈([]:List Addr) from hb) (by simp),hok,.of_eq hg⟩
  refine codeAny_mono ((F _ hKb (nsK hns)).run callerA [] s₁ H ⟨[.ref a],[]⟩ [.ref a] [.ref a] _ _ hr e0 (hbind s₁ (.ref a)) (.cons rfl .nil) (hsp H hO hS)) λr s' h=>?_
  cases r with
  | error e=>exact(hCX H e s' h).elim
  | ok fl =>
   cases fl with
   | next=>exact False.elim h
   | brk=>exact False.elim h
   | cont=>exact False.elim h
   | ret u =>
    obtain⟨v,H',os,bare,un,hok',r',q⟩:=h;have q':v=.bl true:=q;subst q';obtain rfl:u=Value.bool true:=r';refine⟨rfl,OldK.of_keep λb o e=>?_,os,bare⟩
    cases q:H b with
    | none=>exact un.keep b o e q (by intro z;exact absurd (show b∈([]:List Addr) from z) (by simp)) (by simp)
    | some u =>
     rcases hO b with z | ⟨ob,xs,z⟩
     ·rw[q] at z;cases z
     ·have z2:=un.frzs b ob _ z
      obtain⟨e1,_⟩:=hok b _ z;obtain⟨e2,_⟩:=hok' b _ z2;rw[e] at e1;cases e1;exact e2
 cases hk:K.lookup a with
 | some o =>
  have e:=KX a o hk
  rw[ha] at e
  cases e
  refine core (λ_=>none) (λ_=>.inl rfl) (.inr ⟨_,vs.toArray,_,hk,rfl,rfl,rfl,by rw[FB,lenV];exact hl,by simpa using rv⟩) (λb u z=>by have z':(none:Option HO)=some u:=z;cases z') (λb z=>absurd rfl z) λz=>absurd rfl z
 | none =>
  refine core (λb=>if b=a then some (.frz { cls:=.type "list",data:=.seq vs.toArray } (.lst (ns.map V.int))) else none) (λb=>?_) (.inl (.inr ⟨{ cls:=.type "list",data:=.seq vs.toArray },Fs rfl⟩)) (λb u z=>?_) (λb z=>?_) λ_=>hk
  ·by_cases hb:b=a
   ·exact .inr ⟨_,_,Fs hb⟩
   ·exact .inl (Fp hb)
  ·by_cases hb:b=a
   ·have z':=(Fs hb).symm.trans z
    cases z'
    subst hb;exact⟨ha,by rw[E7];exact hl,vs,_,rv,ha⟩
   ·have z':=(Fp hb).symm.trans z
    cases z'
  ·by_cases hb:b=a
   ·exact hb
   ·exact absurd (Fp hb) z
end L2
namespace L2
open PySem PySem.Spec PyProof.Rows
variable {x qual:Str} {st:Stmt} {f:Addr}
abbrev CX0:CXT:=λ_ _ _ _ _ _=>False
abbrev E0:XK:=λ_ _ _=>False
def uW{X:Cx}:rL CX0 X E0:=λ_ _ _ _ _ _ _ h=>h.elim
structure Fun(K:PySem.W.Frag)(x qual:Str)(st:Stmt)(f:Addr)(fd:FuncData):Prop where
 ex:∃(oc:Value) (od:Option Addr) (kV doc pm:Value) (an:Option Addr) (cdv ct:Value) (osl:Array (Option Value)),
  fd=PySem.W.fnOf x qual (df st) (bN st) (ap st) .none kV doc pm an cdv ct/\K.lookup f=some ⟨oc,od,.func fd,osl⟩/\PySem.W.codeIn K cdv qual=true
 kp:PySem.W.keepIn K (.ref f)=true
section
variable {P:Program} {w:World} {K:PySem.W.Frag} {mg:Str→Option Value} {base:Heap}
theorem Fun.ok{fd:FuncData}{N ps:List Str}{k:Nat}{sp:Sp}(F:Fun K x qual st f fd)(S:aA N ps (ap st))(len:∀vs H Q E,sp vs H Q E->vs.length=ps.length)
    (hbody:∀(cdv:Value) (A:Around) (outer:List Env) (s:Shared) (H:Hp) (vs:List V) (Q:VK) (E:XK),fS k (A.deeper (envOfC qual (ap st) s.heap.objs.size f cdv))->sp vs H Q E ->
      ∃t,PSs (uG CX0 P w K mg base N qual (ap st) f cdv A outer s H E).nox (bN st) t/\t { nx:=λ_ H'=>Q .non H',rt:=Q } (start N vs) H):kX P w K mg base CX0 (k+1) f fd ps sp:=by
  obtain⟨oc,od,kV,doc,pm,an,cdv,ct,osl,rfl,lk,hcd⟩:=F.ex;refine Dp lk hcd S len λA outer s H vs Q E hr hsp=>?_;obtain⟨t,h,q⟩:=hbody cdv A outer s H vs Q E hr hsp;exact⟨t,h.nox,q⟩
theorem Fun.binds{fd:FuncData}{ps:List Str}(F:Fun K x qual st f fd)
  (h:∀(kV doc pm:Value) (an:Option Addr) (cdv ct:Value) (us:List Value),us.length=ps.length->bindArgs (PySem.W.fnOf x qual (df st) (bN st) (ap st) .none kV doc pm an cdv ct) ⟨us,[]⟩=pure (ps.zip us)):mj K fd ps []:=by
 obtain⟨oc,od,kV,doc,pm,an,cdv,ct,osl,rfl,lk,hcd⟩:=F.ex;exact .all (h kV doc pm an cdv ct)
def wE{oc:Value}{od an:Option Addr}{osl:Array (Option Value)}{kV doc pm cdv ct:Value}(l:K.lookup f=some ⟨oc,od,.func (PySem.W.fnOf x qual (df st) (bN st) (ap st) .none kV doc pm an cdv ct),osl⟩)
  (c:PySem.W.codeIn K cdv qual=true) (k:PySem.W.keepIn K (.ref f)=true):Fun K x qual st f (PySem.W.fnOf x qual (df st) (bN st) (ap st) .none kV doc pm an cdv ct):=⟨⟨oc,od,kV,doc,pm,an,cdv,ct,osl,rfl,l,c⟩,k⟩
end
section
variable {X:Cx}
end
theorem cR{c A B:Prop}[Decidable c](h1:c->A)(h2:¬ c->B):if c then A else B:=by
 by_cases h:c
 ·rw[Fs h];exact h1 h
 ·rw[Fp h];exact h2 h
def ci(H H':Hp):Prop:=∀b o,H b=some o->H' b=some o
def ci.refl(H:Hp):ci H H:=λ_ _ h=>h
def ci.trans{H H1 H2:Hp}(a:ci H H1)(b:ci H1 H2):ci H H2:=λc o h=>b c o (a c o h)
theorem ci.seq{K:PySem.W.Frag}{H H':Hp}{a:Addr}{xs:List V}(e:ci H H')(h:EY K H a xs):EY K H' a xs:=by
 rcases h with(h | ⟨o,h⟩) | h
 ·exact .inl (.inl (e _ _ h))
 ·exact .inl (.inr ⟨o,e _ _ h⟩)
 ·exact .inr h
section
variable {κ:Type} [DecidableEq κ]
end
end L2
namespace DL
open PySem L2
variable {M:Addr→Prop} {a:Addr} {vs:List V} {v:V}
inductive D where
 | non | bl (b:Bool) | int (i:Int) | str (x:Str)
 | tup (xs:List D) | lst (xs:List D) | fz (xs:List D) | dct (ks:List Str) (vs:List D) | fd (ks:List Str) (vs:List D) | fo (o:Obj) (ks:List Str) (vs:List D) | exn (c f:Str) (x:D)
mutual
def D.im:D->Bool
 | .tup xs=>D.ims xs
 | .lst _=>false
 | .fz xs=>D.ims xs
 | .dct _ _=>false
 | .fd _ xs=>D.ims xs
 | .fo _ _ xs=>D.ims xs
 | .exn _ _ _=>false
 | .non=>true
 | .bl _=>true
 | .int _=>true
 | .str _=>true
def D.ims:List D->Bool
 | []=>true
 | x::r=>D.im x&&D.ims r
end
abbrev xob(C:Addr)(dx:Option Addr)(a t:Value):Obj:={ cls:=.ref C,dict:=dx,data:=.fields #[a,t,.none,.none,.bool false,.none] }
def XAt(e C dx:Addr):HO:=.ext λh=>∃a t,h.get? e=some (xob C (some dx) a t)
def XNew(e C dx:Addr):HO:=.ext λh=>∃a,h.get? e=some (xob C (some dx) a .none)
structure yT(K:PySem.W.Frag)(M:Addr->Prop)(H:Hp)(c f:Str)(v y:V):Prop where
 ex:∃e C dx,v=.ref e/\¬ M e/\¬ M dx/\(H e=some (XAt e C dx)\/H e=some (XNew e C dx))/\H dx=some (.xd [(f,y)])/\PySem.W.nsIn K mainGlobals c=some (some (.ref C))
def aZ(ks:List Str)(vs:List V):List (E3×V):=(ks.map Sum.inr).zip vs
def H0:Hp:=λ_=>none
def Az(K:PySem.W.Frag)(H:Hp)(a:Addr)(vs:List V):Prop:=(∃o,H a=some (.frz o (.lst vs)))\/EY K H0 a vs
mutual
def EH(K:PySem.W.Frag)(M:Addr->Prop)(H:Hp):D->V->Prop
 | .non,v=>v=.non
 | .bl b,v=>v=.bl b
 | .int i,v=>v=.int i
 | .str x,v=>v=.str x
 | .tup ds,v=>∃a vs,v=.ref a/\E5 K H a vs/\Reps K M H ds vs
 | .lst ds,v=>∃a vs,v=.ref a/\¬ M a/\H a=some (.lst vs)/\Reps K M H ds vs
 | .fz ds,v=>∃a vs,v=.ref a/\Az K H a vs/\Reps K M H ds vs
 | .dct ks ds,v=>∃a vs,v=.ref a/\¬ M a/\H a=some (.dK (aZ ks vs))/\ks.length=ds.length/\Reps K M H ds vs
 | .fd ks ds,v=>∃a vs o,v=.ref a/\H a=some (.frz o (.dK (aZ ks vs)))/\ks.length=ds.length/\Reps K M H ds vs
 | .fo o ks ds,v=>∃a vs,v=.ref a/\H a=some (.frz o (.dK (aZ ks vs)))/\ks.length=ds.length/\Reps K M H ds vs
 | .exn c f d,v=>∃y,yT K M H c f v y/\EH K M H d y
def Reps(K:PySem.W.Frag)(M:Addr->Prop)(H:Hp):List D->List V->Prop
 | [],vs=>vs=[]
 | d::ds,vs=>∃v r,vs=v::r/\EH K M H d v/\Reps K M H ds r
end
structure Kp(M:Addr->Prop)(H H':Hp):Prop where
 un:∀b o,H b=some o->¬ M b->H' b=some o
 tu:∀b xs,H b=some (.tup xs)->H' b=some (.tup xs)
 fr:∀b o u,H b=some (.frz o u)->H' b=some (.frz o u)
def Kp.of_same{H H':Hp}(h:ci H H'):Kp M H H':=⟨λb o e _=>h b o e,λb xs e=>h b _ e,λb o u e=>h b _ e⟩
def Kp.refl{H:Hp}:Kp M H H:=Kp.of_same (ci.refl H)
section
variable {K:PySem.W.Frag} {M M':Addr→Prop} {H H':Hp}
theorem E5.kp(k:Kp M H H')(h:E5 K H a vs):E5 K H' a vs:=by
 rcases h with(h | ⟨o,h⟩) | h
 ·exact .inl (.inl (k.tu _ _ h))
 ·exact .inl (.inr ⟨o,k.fr _ _ _ h⟩)
 ·exact .inr h
theorem Az.kp(k:Kp M H H')(h:Az K H a vs):Az K H' a vs:=by
 rcases h with⟨o,h⟩ | h
 ·exact .inl ⟨o,k.fr _ _ _ h⟩
 ·exact .inr h
theorem Az.seq(h:Az K H a vs):EY K H a vs:=by
 rcases h with⟨o,h⟩ | (h | ⟨o,h⟩) | h
 ·exact .inl (.inr ⟨o,h⟩)
 ·cases h
 ·cases h
 ·exact .inr h
theorem yT.kp{c f:Str}{y:V}(k:Kp M H H')(h:yT K M H c f v y):yT K M H' c f v y:=by
 obtain⟨e,C,dx,rfl,n1,n2,h1,h2,h3⟩:=h.ex;exact⟨⟨e,C,dx,rfl,n1,n2,h1.imp (λz=>k.un _ _ z n1) (λz=>k.un _ _ z n1),k.un _ _ h2 n2,h3⟩⟩
theorem yT.more{c f:Str}{y:V}(hM:∀b,M' b->M b\/H b=none)(h:yT K M H c f v y):yT K M' H c f v y:=by
 obtain⟨e,C,dx,rfl,n1,n2,h1,h2,h3⟩:=h.ex;refine⟨⟨e,C,dx,rfl,λz=>(hM _ z).elim n1 λq=>?_,λz=>(hM _ z).elim n2 (λq=>by rw[h2] at q;cases q),h1,h2,h3⟩⟩
 rcases h1 with h1 | h1<;>(rw[h1] at q;cases q)
mutual
theorem EH.kp(k:Kp M H H'):∀(d:D) (v:V),EH K M H d v->EH K M H' d v
 | .non,v,h=>by unfold EH at h ⊢;exact h
 | .bl b,v,h=>by unfold EH at h ⊢;exact h
 | .int i,v,h=>by unfold EH at h ⊢;exact h
 | .str x,v,h=>by unfold EH at h ⊢;exact h
 | .tup ds,v,h=>by
  unfold EH at h ⊢;obtain⟨a,vs,e,q,r⟩:=h;exact⟨a,vs,e,E5.kp k q,Reps.kp k ds vs r⟩
 | .lst ds,v,h=>by
  unfold EH at h ⊢;obtain⟨a,vs,e,n,q,r⟩:=h;exact⟨a,vs,e,n,k.un _ _ q n,Reps.kp k ds vs r⟩
 | .fz ds,v,h=>by
  unfold EH at h ⊢;obtain⟨a,vs,e,q,r⟩:=h;exact⟨a,vs,e,q.kp k,Reps.kp k ds vs r⟩
 | .dct ks ds,v,h=>by
  unfold EH at h ⊢;obtain⟨a,vs,e,n,q,l,r⟩:=h;exact⟨a,vs,e,n,k.un _ _ q n,l,Reps.kp k ds vs r⟩
 | .fd ks ds,v,h=>by
  unfold EH at h ⊢;obtain⟨a,vs,o,e,q,l,r⟩:=h;exact⟨a,vs,o,e,k.fr _ _ _ q,l,Reps.kp k ds vs r⟩
 | .fo o ks ds,v,h=>by
  unfold EH at h ⊢;obtain⟨a,vs,e,q,l,r⟩:=h;exact⟨a,vs,e,k.fr _ _ _ q,l,Reps.kp k ds vs r⟩
 | .exn c f d,v,h=>by
  unfold EH at h ⊢;obtain⟨y,q,r⟩:=h;exact⟨y,q.kp k,EH.kp k d y r⟩
theorem Reps.kp(k:Kp M H H'):∀(ds:List D) (vs:List V),Reps K M H ds vs->Reps K M H' ds vs
 | [],vs,h=>by unfold Reps at h ⊢;exact h
 | d::ds,vs,h=>by
  unfold Reps at h ⊢;obtain⟨v,r,e,q,s⟩:=h;exact⟨v,r,e,EH.kp k d v q,Reps.kp k ds r s⟩
end
mutual
theorem EH.more(hM:∀b,M' b->M b\/H b=none):∀(d:D) (v:V),EH K M H d v->EH K M' H d v
 | .non,v,h=>by unfold EH at h ⊢;exact h
 | .bl b,v,h=>by unfold EH at h ⊢;exact h
 | .int i,v,h=>by unfold EH at h ⊢;exact h
 | .str x,v,h=>by unfold EH at h ⊢;exact h
 | .tup ds,v,h=>by
  unfold EH at h ⊢;obtain⟨a,vs,e,q,r⟩:=h;exact⟨a,vs,e,q,Reps.more hM ds vs r⟩
 | .lst ds,v,h=>by
  unfold EH at h ⊢;obtain⟨a,vs,e,n,q,r⟩:=h;exact⟨a,vs,e,λz=>(hM _ z).elim n (λe=>by rw[q] at e;cases e),q,Reps.more hM ds vs r⟩
 | .fz ds,v,h=>by
  unfold EH at h ⊢;obtain⟨a,vs,e,q,r⟩:=h;exact⟨a,vs,e,q,Reps.more hM ds vs r⟩
 | .dct ks ds,v,h=>by
  unfold EH at h ⊢;obtain⟨a,vs,e,n,q,l,r⟩:=h;exact⟨a,vs,e,λz=>(hM _ z).elim n (λe=>by rw[q] at e;cases e),q,l,Reps.more hM ds vs r⟩
 | .fd ks ds,v,h=>by
  unfold EH at h ⊢;obtain⟨a,vs,o,e,q,l,r⟩:=h;exact⟨a,vs,o,e,q,l,Reps.more hM ds vs r⟩
 | .fo o ks ds,v,h=>by
  unfold EH at h ⊢;obtain⟨a,vs,e,q,l,r⟩:=h;exact⟨a,vs,e,q,l,Reps.more hM ds vs r⟩
 | .exn c f d,v,h=>by
  unfold EH at h ⊢;obtain⟨y,q,r⟩:=h;exact⟨y,q.more hM,EH.more hM d y r⟩
theorem Reps.more(hM:∀b,M' b->M b\/H b=none):∀(ds:List D) (vs:List V),Reps K M H ds vs->Reps K M' H ds vs
 | [],vs,h=>by unfold Reps at h ⊢;exact h
 | d::ds,vs,h=>by
  unfold Reps at h ⊢;obtain⟨v,r,e,q,s⟩:=h;exact⟨v,r,e,EH.more hM d v q,Reps.more hM ds r s⟩
end
mutual
theorem EH.im:∀(d:D) (v:V),d.im=true->EH K M H d v->EH K M' H d v
 | .non,v,_,h=>by unfold EH at h ⊢;exact h
 | .bl b,v,_,h=>by unfold EH at h ⊢;exact h
 | .int i,v,_,h=>by unfold EH at h ⊢;exact h
 | .str x,v,_,h=>by unfold EH at h ⊢;exact h
 | .tup ds,v,i,h=>by
  unfold EH at h ⊢;obtain⟨a,vs,e,q,r⟩:=h;unfold D.im at i;exact⟨a,vs,e,q,Reps.im ds vs i r⟩
 | .lst ds,v,i,h=>by unfold D.im at i;cases i
 | .fz ds,v,i,h=>by
  unfold EH at h ⊢;obtain⟨a,vs,e,q,r⟩:=h;unfold D.im at i;exact⟨a,vs,e,q,Reps.im ds vs i r⟩
 | .dct ks ds,v,i,h=>by unfold D.im at i;cases i
 | .fd ks ds,v,i,h=>by
  unfold EH at h ⊢;obtain⟨a,vs,o,e,q,l,r⟩:=h;unfold D.im at i;exact⟨a,vs,o,e,q,l,Reps.im ds vs i r⟩
 | .fo o ks ds,v,i,h=>by
  unfold EH at h ⊢;obtain⟨a,vs,e,q,l,r⟩:=h;unfold D.im at i;exact⟨a,vs,e,q,l,Reps.im ds vs i r⟩
 | .exn c f d,v,i,h=>by unfold D.im at i;cases i
theorem Reps.im:∀(ds:List D) (vs:List V),D.ims ds=true->Reps K M H ds vs->Reps K M' H ds vs
 | [],vs,_,h=>by unfold Reps at h ⊢;exact h
 | d::ds,vs,i,h=>by
  unfold Reps at h ⊢;obtain⟨v,r,e,q,s⟩:=h;unfold D.ims at i;obtain⟨i1,i2⟩:=FE.mp i;exact⟨v,r,e,EH.im d v i1 q,Reps.im ds r i2 s⟩
end
def Reps.length:∀(ds:List D) (vs:List V),Reps K M H ds vs->ds.length=vs.length
 | [],vs,h=>by unfold Reps at h;subst h;rfl
 | d::ds,vs,h=>by
  unfold Reps at h;obtain⟨v,r,rfl,q,s⟩:=h;rw[Fl,Fl,Reps.length ds r s]
def Reps.get:∀(ds:List D) (vs:List V),Reps K M H ds vs->∀(i:Nat) (d:D),ds[i]?=some d->∃v,vs[i]?=some v/\EH K M H d v
 | [],vs,h,i,d,e=>by simp at e
 | d::ds,vs,h,i,d',e=>by
  unfold Reps at h;obtain⟨v,r,rfl,q,s⟩:=h
  cases i with
  | zero=>simp at e;subst e;exact⟨v,rfl,q⟩
  | succ i=>exact Reps.get ds r s i d' (by simpa using e)
def Reps.of:∀(ds:List D) (vs:List V),ds.length=vs.length->(∀(i:Nat) d v,ds[i]?=some d->vs[i]?=some v->EH K M H d v)->Reps K M H ds vs
 | [],vs,l,_=>by unfold Reps;exact Hj.mp l.symm
 | d::ds,[],l,_=>by cases l
 | d::ds,v::vs,l,h=>by
  unfold Reps;exact⟨v,vs,rfl,h 0 d v rfl rfl,Reps.of ds vs (G2 l) λi d' v' e e'=>h (i+1) d' v' (by simpa using e) (by simpa using e')⟩
def Reps.append:∀(ds es:List D) (vs ws:List V),Reps K M H ds vs->Reps K M H es ws->Reps K M H (ds++es) (vs++ws)
 | [],es,vs,ws,h,k=>by unfold Reps at h;subst h;exact k
 | d::ds,es,vs,ws,h,k=>by
  unfold Reps at h;obtain⟨v,r,rfl,q,s⟩:=h;show Reps K M H (d::(ds++es)) (v::(r++ws));unfold Reps;exact⟨v,r++ws,rfl,q,Reps.append ds es r ws s k⟩
theorem Reps.one{d:D}(h:EH K M H d v):Reps K M H [d] [v]:=by
 unfold Reps;exact⟨v,[],rfl,h,by unfold Reps;rfl⟩
theorem Reps.nil:Reps K M H [] []:=by unfold Reps;rfl
theorem Reps.cons{d:D}{v:V}{ds:List D}{vs:List V}(h:EH K M H d v)(r:Reps K M H ds vs):Reps K M H (d::ds) (v::vs):=by
 unfold Reps;exact⟨v,vs,rfl,h,r⟩
def Reps.take:∀(n:Nat) (ds:List D) (vs:List V),Reps K M H ds vs->Reps K M H (ds.take n) (vs.take n)
 | 0,ds,vs,h=>by simpa using Reps.nil
 | n+1,[],vs,h=>by unfold Reps at h;subst h;simpa using Reps.nil
 | n+1,d::ds,vs,h=>by
  unfold Reps at h;obtain⟨v,r,rfl,q,s⟩:=h;exact Reps.cons q (Reps.take n ds r s)
def Reps.drop:∀(n:Nat) (ds:List D) (vs:List V),Reps K M H ds vs->Reps K M H (ds.drop n) (vs.drop n)
 | 0,ds,vs,h=>h
 | n+1,[],vs,h=>by unfold Reps at h;subst h;simpa using Reps.nil
 | n+1,d::ds,vs,h=>by
  unfold Reps at h;obtain⟨v,r,rfl,q,s⟩:=h;exact Reps.drop n ds r s
def Reps.set{d:D}(h:EH K M H d v):∀(i:Nat) (ds:List D) (vs:List V),Reps K M H ds vs->Reps K M H (ds.set i d) (vs.set i v)
 | _,[],vs,r=>by unfold Reps at r;subst r;exact Reps.nil
 | 0,x::ds,vs,r=>by
  unfold Reps at r;obtain⟨w,r,rfl,q,s⟩:=r;exact Reps.cons h s
 | i+1,x::ds,vs,r=>by
  unfold Reps at r;obtain⟨w,r,rfl,q,s⟩:=r;exact Reps.cons q (Reps.set h i ds r s)
theorem Reps.ints(ns:List Int):Reps K M H (ns.map D.int) (ns.map V.int):=by
 induction ns with
 | nil=>exact Reps.nil
 | cons n r ih=>exact Reps.cons (by unfold EH;rfl) ih
end
inductive Sl where
 | no | dat (d:D) | own (a:Addr) (d:D)
structure Gf where
 M0:Addr->Prop
 H0:Hp
 Pm:Addr->Prop
def bv(K:PySem.W.Frag)(M:Addr->Prop)(H:Hp)(a:Addr):D->Prop
 | .lst ds=>∃vs,H a=some (.lst vs)/\Reps K M H ds vs
 | .dct ks ds=>∃vs,H a=some (.dK (aZ ks vs))/\ks.length=ds.length/\Reps K M H ds vs
 | _=>False
structure Sx(K:PySem.W.Frag)(G:Gf)(A:Addr->Prop)(δ:List Sl)(P:List (D×V))(σ:St)(H:Hp):Prop where
 old:∀b o,G.H0 b=some o->¬ G.Pm b->H b=some o
 stay:∀b,G.H0 b≠none->H b≠none
 m0:∀b,G.M0 b->G.H0 b≠none
 pm:∀b,G.Pm b->G.H0 b≠none/\¬ G.M0 b
 new:∀b,A b->G.H0 b=none\/G.Pm b
 thr:∀b,A b->H b≠none
 len:δ.length=σ.length
 dat:∀(i:Nat) d,δ[i]?=some (.dat d)->∃v,σ[i]?=some (some v)/\EH K (λb=>G.M0 b\/A b) H d v
 own:∀(i:Nat) a d,δ[i]?=some (.own a d)->σ[i]?=some (some (.ref a))/\A a/\bv K (λb=>G.M0 b\/A b) H a d
 inj:∀(i j:Nat) a d e,δ[i]?=some (.own a d)->δ[j]?=some (.own a e)->i=j
 pnd:∀p∈P,EH K (λb=>G.M0 b\/A b) H p.1 p.2
def S(K:PySem.W.Frag)(G:Gf)(δ:List Sl)(P:List (D×V))(σ:St)(H:Hp):Prop:=∃A,Sx K G A δ P σ H
inductive aS(K:PySem.W.Frag)(f:List D->(D->Prop)->Prop)(vs:List V)(H:Hp)(Q:VK):Prop
 | mk (M:Addr->Prop) (ds:List D) (R:D->Prop) (m:∀b,M b->H b≠none) (rs:Reps K M H ds vs) (h:f ds R) (k:∀d,R d->∀v H',ci H H'->EH K M H' d v->Q v H')
section
variable {K:PySem.W.Frag} {G:Gf} {A:Addr→Prop} {δ:List Sl} {P P':List (D×V)} {σ:St} {H H':Hp}
theorem bv.kp{d:D}(k:Kp M H H')(e:H' a=H a)(h:bv K M H a d):bv K M H' a d:=by
 cases d with
 | lst ds =>
  obtain⟨vs,q,r⟩:=h;exact⟨vs,e.trans q,Reps.kp k _ _ r⟩
 | dct ks ds =>
  obtain⟨vs,q,l,r⟩:=h;exact⟨vs,e.trans q,l,Reps.kp k _ _ r⟩
 | _=>exact h.elim
theorem bv.more{M':Addr->Prop}{d:D}(hM:∀b,M' b->M b\/H b=none)(h:bv K M H a d):bv K M' H a d:=by
 cases d with
 | lst ds =>
  obtain⟨vs,q,r⟩:=h;exact⟨vs,q,Reps.more hM _ _ r⟩
 | dct ks ds =>
  obtain⟨vs,q,l,r⟩:=h;exact⟨vs,q,l,Reps.more hM _ _ r⟩
 | _=>exact h.elim
def Sx.sub(s:Sx K G A δ P σ H)(h:∀p∈P',p∈P):Sx K G A δ P' σ H :=
 ⟨s.old,s.stay,s.m0,s.pm,s.new,s.thr,s.len,s.dat,s.own,s.inj,λp hp=>s.pnd p (h p hp)⟩
def S.sub(s:S K G δ P σ H)(h:∀p∈P',p∈P):S K G δ P' σ H:=let ⟨A,x⟩:=s;⟨A,x.sub h⟩
def Sx.same(s:Sx K G A δ P σ H)(h:ci H H'):Sx K G A δ P σ H' where
 old:=λb o e n=>h b o (s.old b o e n)
 stay:=λb e=>by
  cases q:H b with
  | none=>exact absurd q (s.stay b e)
  | some o=>rw[h b o q];exact λz=>nomatch z
 m0:=s.m0
 pm:=s.pm
 new:=s.new
 thr:=λb e=>by
  cases q:H b with
  | none=>exact absurd q (s.thr b e)
  | some o=>rw[h b o q];exact λz=>nomatch z
 len:=s.len
 dat:=λi d e=>let ⟨v,q,r⟩:=s.dat i d e;⟨v,q,EH.kp (Kp.of_same h) _ _ r⟩
 own:=λi a d e=>by
  obtain⟨q,a1,o⟩:=s.own i a d e;refine⟨q,a1,bv.kp (Kp.of_same h) ?_ o⟩
  cases z:H a with
  | none=>exact absurd z (s.thr a a1)
  | some o=>exact h a o z
 inj:=s.inj
 pnd:=λp hp=>EH.kp (Kp.of_same h) _ _ (s.pnd p hp)
def Sx.push(s:Sx K G A δ P σ H){d:D}(h:EH K (λb=>G.M0 b\/A b) H d v):Sx K G A δ ((d,v)::P) σ H :=
 ⟨s.old,s.stay,s.m0,s.pm,s.new,s.thr,s.len,s.dat,s.own,s.inj,λp hp=>by
  rcases Fj.mp hp with rfl | hp
  ·exact h
  ·exact s.pnd p hp⟩
def Sx.mem(s:Sx K G A δ P σ H):∀b,(G.M0 b\/A b)->H b≠none:=λb h=>h.elim (λz=>s.stay b (s.m0 b z)) λz=>s.thr b z
def Sx.reps(s:Sx K G A δ P σ H):∀(ds:List D) (vs:List V),ds.length=vs.length->(∀p∈ds.zip vs,p∈P)->Reps K (λb=>G.M0 b\/A b) H ds vs
 | [],[],_,_=>Reps.nil
 | d::ds,v::vs,l,h=>Reps.cons (s.pnd (d,v) (h _ (Fe ..))) (Sx.reps s ds vs (G2 l) λp hp=>h p (E9 _ hp))
theorem S.pure{f:List D->(D->Prop)->Prop}{ds:List D}{R:D->Prop}{Q:VK}(s:S K G δ P σ H)(hl:ds.length=vs.length)(hp:∀p∈ds.zip vs,p∈P)(hs:∀p∈P',p∈P)(hf:f ds R)
  (h:∀d,R d->∀v H',S K G δ ((d,v)::P') σ H'->Q v H'):aS K f vs H Q:=by
 obtain⟨A,x⟩:=s;refine⟨λb=>G.M0 b\/A b,ds,R,x.mem,x.reps ds vs hl hp,hf,λd r v H' sm rp=>h d r v H' ⟨A,?_⟩⟩;exact((x.same sm).sub hs).push rp
theorem Sx.set{i:Nat}{d:D}(s:Sx K G A δ P σ H)(hp:(d,v)∈P)(hs:∀p∈P',p∈P):Sx K G A (δ.set i (.dat d)) P' (σ.set i (some v)) H where
 old:=s.old
 stay:=s.stay
 m0:=s.m0
 pm:=s.pm
 new:=s.new
 thr:=s.thr
 len:=by rw[F0,F0,s.len]
 dat:=λj d' e=>by
  by_cases hij:i=j
  ·subst hij
   by_cases hl:i<δ.length
   ·rw[List.getElem?_set_self hl] at e
    cases e
    exact⟨v,by rw[List.getElem?_set_self (by rw[<- s.len];exact hl)],s.pnd _ hp⟩
   ·rw[List.getElem?_eq_none (by rw[F0];omega)] at e
    cases e
  ·rw[List.getElem?_set_ne hij] at e;obtain⟨v',q,r⟩:=s.dat j d' e;exact⟨v',by rw[List.getElem?_set_ne hij];exact q,r⟩
 own:=λj a d' e=>by
  by_cases hij:i=j
  ·subst hij
   by_cases hl:i<δ.length
   ·rw[List.getElem?_set_self hl] at e
    cases e
   ·rw[List.getElem?_eq_none (by rw[F0];omega)] at e
    cases e
  ·rw[List.getElem?_set_ne hij] at e;obtain⟨q,r⟩:=s.own j a d' e;exact⟨by rw[List.getElem?_set_ne hij];exact q,r⟩
 inj:=λj k a d' e' h1 h2=>by
  have hj:δ[j]?=some (.own a d'):=by
   by_cases hij:i=j
   ·subst hij
    by_cases hl:i<δ.length
    ·rw[List.getElem?_set_self hl] at h1;cases h1
    ·rw[List.getElem?_eq_none (by rw[F0];omega)] at h1;cases h1
   ·rw[List.getElem?_set_ne hij] at h1;exact h1
  have hk:δ[k]?=some (.own a e'):=by
   by_cases hij:i=k
   ·subst hij
    by_cases hl:i<δ.length
    ·rw[List.getElem?_set_self hl] at h2;cases h2
    ·rw[List.getElem?_eq_none (by rw[F0];omega)] at h2;cases h2
   ·rw[List.getElem?_set_ne hij] at h2;exact h2
  exact s.inj j k a d' e' hj hk
 pnd:=λp h=>s.pnd p (hs p h)
def S.set{i:Nat}{d:D}(s:S K G δ P σ H)(hp:(d,v)∈P)(hs:∀p∈P',p∈P):S K G (δ.set i (.dat d)) P' (σ.set i (some v)) H:=let ⟨A,x⟩:=s;⟨A,x.set hp hs⟩
end
end DL
namespace DL
open PySem L2
variable {i:Nat} {a:Addr} {d:D}
section
variable {K:PySem.W.Frag} {G:Gf} {A:Addr→Prop} {δ:List Sl} {P P':List (D×V)} {σ:St} {H H':Hp}
theorem a4{α:Type}{l:List α}{j:Nat}{x y:α}(h:(l.set i x)[j]?=some y):(i=j/\x=y/\i<l.length)\/(i≠j/\l[j]?=some y):=by
 by_cases e:i=j
 ·subst e
  by_cases hl:i<l.length
  ·rw[List.getElem?_set_self hl] at h;exact .inl ⟨rfl,Fz h,hl⟩
  ·rw[List.getElem?_eq_none (by rw[F0];omega)] at h
   cases h
 ·rw[List.getElem?_set_ne e] at h;exact .inr ⟨e,h⟩
theorem Sx.claim(s:Sx K G A δ P σ H)(hn:H a=none)(hs:ci H H')(ho:bv K (λb=>(G.M0 b\/A b)\/b=a) H' a d)(hP:∀p∈P',p∈P) :
  Sx K G (λb=>A b\/b=a) (δ.set i (.own a d)) P' (σ.set i (some (.ref a))) H':=by
 have x:=s.same hs
 have hM:∀b,(G.M0 b\/(A b\/b=a))->(G.M0 b\/A b)\/H b=none:=λb h=>by
  rcases h with h | h | h
  ·exact .inl (.inl h)
  ·exact .inl (.inr h)
  ·subst h;exact .inr hn
 have hM2:∀b,(G.M0 b\/(A b\/b=a))->((G.M0 b\/A b)\/b=a)\/H' b=none:=λb h=>by
  rcases h with h | h | h
  ·exact .inl (.inl (.inl h))
  ·exact .inl (.inl (.inr h))
  ·exact .inl (.inr h)
 have up:∀d v,EH K (λb=>G.M0 b\/A b) H d v->EH K (λb=>G.M0 b\/(A b\/b=a)) H' d v:=λd v r=>EH.kp (Kp.of_same hs) _ _ (EH.more hM _ _ r)
 have na:∀b,A b->b≠a:=λb h e=>s.thr b h (by rw[e];exact hn)
 have h0:G.H0 a=none:=by
  cases q:G.H0 a with
  | none=>rfl
  | some o=>exact absurd hn (s.stay a (by rw[q];exact λz=>nomatch z))
 have hne:H' a≠none:=by
  cases d with
  | lst ds=>obtain⟨vs,q,_⟩:=ho;rw[q];exact λz=>nomatch z
  | dct ks ds=>obtain⟨vs,q,_⟩:=ho;rw[q];exact λz=>nomatch z
  | _=>exact ho.elim
 refine⟨x.old,x.stay,x.m0,x.pm,λb h=>h.elim (s.new b) λe=>.inl (by rw[e];exact h0),λb h=>h.elim (x.thr b) λe=>by rw[e];exact hne,by rw[F0,F0,s.len],λj d' e=>?_,λj b d' e=>?_,
  λj k b d' e' h1 h2=>?_,λp hp=>up _ _ (s.pnd p (hP p hp))⟩
 ·rcases a4 e with⟨_,z,_⟩ | ⟨hij,e⟩
  ·cases z
  ·obtain⟨v,q,r⟩:=s.dat j d' e;exact⟨v,by rw[List.getElem?_set_ne hij];exact q,up _ _ r⟩
 ·rcases a4 e with⟨hij,z,hl⟩ | ⟨hij,e⟩
  ·cases z
   subst hij;exact⟨by rw[List.getElem?_set_self (by rw[<- s.len];exact hl)],.inr rfl,bv.more hM2 ho⟩
  ·obtain⟨q,r,o⟩:=s.own j b d' e;refine⟨by rw[List.getElem?_set_ne hij];exact q,.inl r,bv.kp (Kp.of_same hs) ?_ (bv.more hM o)⟩
   cases z:H b with
   | none=>exact absurd z (s.thr b r)
   | some o'=>exact hs b o' z
 ·rcases a4 h1 with⟨hij,z,hl⟩ | ⟨hij,e⟩
  ·cases z
   rcases a4 h2 with⟨hik,_,_⟩ | ⟨hik,e2⟩
   ·rw[<- hij,<- hik]
   ·exact absurd rfl (na _ (s.own k _ _ e2).2.1)
  ·rcases a4 h2 with⟨hik,z,_⟩ | ⟨hik,e2⟩
   ·cases z
    exact absurd rfl (na _ (s.own j _ _ e).2.1)
   ·exact s.inj j k b d' e' e e2
theorem Sx.change{d':D}(s:Sx K G A δ P σ H)(hi:δ[i]?=some (.own a d))(hk:∀b o,b≠a->H b=some o->H' b=some o)(ho:bv K (λb=>G.M0 b\/A b) H' a d') :
  Sx K G A (δ.set i (.own a d')) P σ H':=by
 obtain⟨si,ai,oi⟩:=s.own i a d hi;have hmu:(∀xs,H a≠some (.tup xs))/\∀o u,H a≠some (.frz o u):=by
  cases d with
  | lst ds=>obtain⟨vs,q,_⟩:=oi;rw[q];exact⟨λ_ z=>(nomatch z),λ_ _ z=>(nomatch z)⟩
  | dct ks ds=>obtain⟨vs,q,_⟩:=oi;rw[q];exact⟨λ_ z=>(nomatch z),λ_ _ z=>(nomatch z)⟩
  | _=>exact oi.elim
 have hne:H' a≠none:=by
  cases d' with
  | lst ds=>obtain⟨vs,q,_⟩:=ho;rw[q];exact λz=>nomatch z
  | dct ks ds=>obtain⟨vs,q,_⟩:=ho;rw[q];exact λz=>nomatch z
  | _=>exact ho.elim
 have kp:Kp (λb=>G.M0 b\/A b) H H':=⟨λb o e n=>hk b o (λz=>n (.inr (by rw[z];exact ai))) e,λb xs e=>hk b _ (λz=>hmu.1 xs (by rw[<- z];exact e)) e,
  λb o u e=>hk b _ (λz=>hmu.2 o u (by rw[<- z];exact e)) e⟩
 have stay:∀b,H b≠none->H' b≠none:=λb e=>by
  by_cases z:b=a
  ·rw[z];exact hne
  ·cases q:H b with
   | none=>exact absurd q e
   | some o=>rw[hk b o z q];exact λz=>nomatch z
 have na:∀b o,G.H0 b=some o->¬ G.Pm b->b≠a:=λb o e n z=>(s.new a ai).elim (λq=>by rw[z] at e;rw[e] at q;cases q) λq=>n (by rw[z];exact q)
 refine⟨λb o e n=>hk b o (na b o e n) (s.old b o e n),λb e=>stay b (s.stay b e),s.m0,s.pm,s.new,λb e=>stay b (s.thr b e),by rw[F0,s.len],λj x e=>?_,λj b x e=>?_,λj k b x y h1 h2=>?_,
  λp hp=>EH.kp kp _ _ (s.pnd p hp)⟩
 ·rcases a4 e with⟨_,z,_⟩ | ⟨hij,e⟩
  ·cases z
  ·obtain⟨v,q,r⟩:=s.dat j x e;exact⟨v,q,EH.kp kp _ _ r⟩
 ·rcases a4 e with⟨hij,z,hl⟩ | ⟨hij,e9⟩
  ·cases z
   subst hij;exact⟨si,ai,ho⟩
  ·clear e;obtain⟨q,r,o⟩:=s.own j b x e9;have hb:b≠a:=λz=>by rw[z] at e9;exact hij (s.inj _ _ _ _ _ hi e9)
   refine⟨q,r,bv.kp kp ?_ o⟩
   cases z:H b with
   | none=>exact absurd z (s.thr b r)
   | some o'=>exact hk b o' hb z
 ·have hj:∃x',δ[j]?=some (.own b x'):=by
   rcases a4 h1 with⟨hij,z,hl⟩ | ⟨hij,e⟩
   ·cases z;subst hij;exact⟨_,hi⟩
   ·exact⟨_,e⟩
  have hk':∃x',δ[k]?=some (.own b x'):=by
   rcases a4 h2 with⟨hij,z,hl⟩ | ⟨hij,e⟩
   ·cases z;subst hij;exact⟨_,hi⟩
   ·exact⟨_,e⟩
  obtain⟨x1,e1⟩:=hj;obtain⟨x2,e2⟩:=hk';exact s.inj j k b x1 x2 e1 e2
theorem bv.rep{M M':Addr->Prop}(h:bv K M H a d)(n:¬ M' a)(hM:∀b,M' b->M b):EH K M' H d (.ref a):=by
 cases d with
 | lst ds =>
  obtain⟨vs,q,r⟩:=h;unfold EH;exact⟨a,vs,rfl,n,q,Reps.more (λb z=>.inl (hM b z)) _ _ r⟩
 | dct ks ds =>
  obtain⟨vs,q,l,r⟩:=h;unfold EH;exact⟨a,vs,rfl,n,q,l,Reps.more (λb z=>.inl (hM b z)) _ _ r⟩
 | _=>exact h.elim
theorem Sx.freeze(s:Sx K G A δ P σ H)(hi:δ[i]?=some (.own a d))(hp:¬ G.M0 a):Sx K G (λb=>A b/\b≠a) (δ.set i (.dat d)) P σ H:=by
 obtain⟨si,ai,oi⟩:=s.own i a d hi;have hM:∀b,(G.M0 b\/(A b/\b≠a))->(G.M0 b\/A b):=λb h=>h.elim .inl λz=>.inr z.1;have dn:∀d v,EH K (λb=>G.M0 b\/A b) H d v->EH K (λb=>G.M0 b\/(A b/\b≠a)) H d v:=λd v r=>EH.more (λb z=>.inl (hM b z)) _ _ r;refine⟨s.old,s.stay,s.m0,s.pm,λb h=>s.new b h.1,λb h=>s.thr b h.1,by rw[F0,s.len],λj x e=>?_,λj b x e=>?_,λj k b x y h1 h2=>?_,λp hp=>dn _ _ (s.pnd p hp)⟩
 ·rcases a4 e with⟨hij,z,_⟩ | ⟨hij,e⟩
  ·cases z;subst hij
   exact⟨.ref a,si,oi.rep (λz=>z.elim hp λq=>q.2 rfl) hM⟩
  ·obtain⟨v,q,r⟩:=s.dat j x e;exact⟨v,q,dn _ _ r⟩
 ·rcases a4 e with⟨_,z,_⟩ | ⟨hij,e9⟩
  ·cases z
  ·clear e;obtain⟨q,r,o⟩:=s.own j b x e9;have hb:b≠a:=λz=>by rw[z] at e9;exact hij (s.inj _ _ _ _ _ hi e9)
   exact⟨q,⟨r,hb⟩,bv.more (λb z=>.inl (hM b z)) o⟩
 ·rcases a4 h1 with⟨_,z,_⟩ | ⟨_,e1⟩
  ·cases z
  ·rcases a4 h2 with⟨_,z,_⟩ | ⟨_,e2⟩
   ·cases z
   ·exact s.inj j k b x y e1 e2
end
end DL
namespace DL
open PySem PySem.Spec PyProof.Rows L2
variable {x d:D} {k:List D→Prop} {o:Option Sl} {G:Gf} {A:Addr→Prop} {P:List (D×V)} {σ:L2.St} {H:Hp} {i n:Nat} {es:List Expr} {v:V} {p:Pos}
inductive W where
 | d (x:D) | o (i:Nat)
abbrev En:=List Sl
abbrev E1:=En->(W->En->Prop)->Prop
abbrev TDA:=En->(List D->En->Prop)->Prop
abbrev TDT:=En->(Bool->En->Prop)->Prop
structure bh where
 nx:En->Prop
 rt:D->En->Prop
 bk:En->Prop:=λ_=>False
 ct:En->Prop:=λ_=>False
 ro:D->Prop:=λ_=>False
 tp:Prop:=False
 ex:Str->Str->D->Prop:=λ_ _ _=>False
abbrev TDS:=bh->En->Prop
abbrev TDG:=D->En->(En->Prop)->Prop
abbrev xz:=List D->En->(En->Prop)->Prop
def wd(R:D->En->Prop):W->En->Prop
 | .d x,δ=>R x δ
 | .o _,_=>False
def qB:D->(Bool->Prop)->Prop
 | .bl b,k=>k b
 | _,_=>False
def qI:D->(Int->Prop)->Prop
 | .int b,k=>k b
 | _,_=>False
def qX:D->(Str->Prop)->Prop
 | .str b,k=>k b
 | _,_=>False
def qT:D->(List D->Prop)->Prop
 | .tup b,k=>k b
 | _,_=>False
def qL:D->(List D->Prop)->Prop
 | .lst b,k=>k b
 | _,_=>False
def qW:Option Sl->(Addr->D->Prop)->Prop
 | some (.own a d),k=>k a d
 | _,_=>False
def qD:Option Sl->(D->Prop)->Prop
 | some (.dat d),k=>k d
 | _,_=>False
def qWL(o:Option Sl)(k:Addr->List D->Prop):Prop:=qW o λa d=>qL d λxs=>k a xs
def qG:D->(List Str->List D->Prop)->Prop
 | .dct ks ds,k=>k ks ds
 | _,_=>False
def qWD(o:Option Sl)(k:Addr->List Str->List D->Prop):Prop:=qW o λa d=>qG d λks ds=>k a ks ds
def qF:D->(List Str->List D->Prop)->Prop
 | .fd ks ds,k=>k ks ds
 | _,_=>False
def qV{α:Type}:Option α->(α->Prop)->Prop
 | some a,k=>k a
 | none,_=>False
def qN:List D->Prop->Prop
 | [],k=>k
 | _::_,_=>False
def qC:List D->(D->List D->Prop)->Prop
 | x::r,k=>k x r
 | [],_=>False
def q9:List D->Prop->Prop
 | [],k=>k
 | [_],k=>k
 | [_,_],k=>k
 | [_,_,_],k=>k
 | [_,_,_,_],k=>k
 | xs,k=>xs.length<=9000/\k
def qWe(o:Option Sl)(k:D->Prop):Prop:=qW o λ_ d=>k d
def zU(o:Option Sl)(k:List D->Prop):Prop:=qW o λ_ d=>qL d λxs=>k xs
def zM(o:Option Sl)(k:List Str->List D->Prop):Prop:=qW o λ_ d=>qG d λks ds=>k ks ds
def lJ(δ:En)(i:Nat)(x:Sl)(k:En->Prop):Prop:=k (δ.set i x)
def rO:List D->Nat->Prop->Prop
 | [],0,k=>k
 | _::r,n+1,k=>rO r n k
 | _,_,_=>False
def rO.ex{k:Prop}:∀ {xs:List D} {n:Nat},rO xs n k->xs.length=n/\k
 | [],0,h=>⟨rfl,h⟩
 | _::r,n+1,h=>let ⟨a,b⟩:=rO.ex (xs:=r) (n:=n) h;⟨by rw[Fl,a],b⟩
 | [],_+1,h=>False.elim h
 | _::_,0,h=>False.elim h
def kD(R:W->En->Prop)(δ:En)(d:D):Prop:=R (.d d) δ
theorem qB.ex{k:Bool->Prop}(h:qB x k):∃b,x=.bl b/\k b:=by cases x<;>first | exact False.elim h | exact⟨_,rfl,h⟩
theorem qI.ex{k:Int->Prop}(h:qI x k):∃b,x=.int b/\k b:=by cases x<;>first | exact False.elim h | exact⟨_,rfl,h⟩
theorem qX.ex{k:Str->Prop}(h:qX x k):∃b,x=.str b/\k b:=by cases x<;>first | exact False.elim h | exact⟨_,rfl,h⟩
theorem qT.ex(h:qT x k):∃b,x=.tup b/\k b:=by cases x<;>first | exact False.elim h | exact⟨_,rfl,h⟩
theorem qL.ex(h:qL x k):∃b,x=.lst b/\k b:=by cases x<;>first | exact False.elim h | exact⟨_,rfl,h⟩
theorem qF.ex{k:List Str->List D->Prop}(h:qF x k):∃ks ds,x=.fd ks ds/\k ks ds:=by cases x<;>first | exact False.elim h | exact⟨_,_,rfl,h⟩
theorem qG.ex{k:List Str->List D->Prop}(h:qG x k):∃ks ds,x=.dct ks ds/\k ks ds:=by cases x<;>first | exact False.elim h | exact⟨_,_,rfl,h⟩
theorem qW.ex{k:Addr->D->Prop}(h:qW o k):∃a d,o=some (.own a d)/\k a d:=by
 cases o with
 | none=>exact False.elim h
 | some x=>cases x<;>first | exact False.elim h | exact⟨_,_,rfl,h⟩
theorem qD.ex{k:D->Prop}(h:qD o k):∃d,o=some (.dat d)/\k d:=by
 cases o with
 | none=>exact False.elim h
 | some x=>cases x<;>first | exact False.elim h | exact⟨_,rfl,h⟩
theorem qWL.ex{k:Addr->List D->Prop}(h:qWL o k):∃a d,o=some (.own a (.lst d))/\k a d:=by
 replace h:=qW.ex h;obtain⟨a,d,rfl,h⟩:=h;replace h:=qL.ex h;obtain⟨xs,rfl,h⟩:=h;exact⟨_,_,rfl,h⟩
theorem qWD.ex{k:Addr->List Str->List D->Prop}(h:qWD o k):∃a ks ds,o=some (.own a (.dct ks ds))/\k a ks ds:=by
 replace h:=qW.ex h;obtain⟨a,d,rfl,h⟩:=h;replace h:=qG.ex h;obtain⟨ks,ds,rfl,h⟩:=h;exact⟨_,_,_,rfl,h⟩
theorem qWe.ex{K:PySem.W.Frag}{δ:En}{a:Addr}{k:D->Prop}(x:Sx K G A δ P σ H)(e:σ[i]?=some (some (.ref a)))(h:qWe δ[i]? k):∃d,δ[i]?=some (.own a d)/\k d:=by
 obtain⟨b,d,hi,h⟩:=qW.ex h;have q:=(x.own i b d hi).1;rw[e] at q
 cases q
 exact⟨_,hi,h⟩
theorem zU.ex{K:PySem.W.Frag}{δ:En}{a:Addr}(x:Sx K G A δ P σ H)(e:σ[i]?=some (some (.ref a)))(h:zU δ[i]? k):∃d,δ[i]?=some (.own a (.lst d))/\k d:=by
 obtain⟨d,hi,h⟩:=qWe.ex (k:=λd=>qL d k) x e h;obtain⟨xs,rfl,h⟩:=qL.ex h;exact⟨_,hi,h⟩
theorem zM.ex{K:PySem.W.Frag}{δ:En}{a:Addr}{k:List Str->List D->Prop}(x:Sx K G A δ P σ H)(e:σ[i]?=some (some (.ref a)))(h:zM δ[i]? k):∃ks ds,δ[i]?=some (.own a (.dct ks ds))/\k ks ds:=by
 obtain⟨d,hi,h⟩:=qWe.ex (k:=λd=>qG d k) x e h;obtain⟨ks,ds,rfl,h⟩:=qG.ex h;exact⟨_,_,hi,h⟩
theorem qV.ex{α:Type}{o:Option α}{k:α->Prop}(h:qV o k):∃a,o=some a/\k a:=by
 cases o with
 | none=>exact False.elim h
 | some x=>exact⟨_,rfl,h⟩
theorem qV.of{α:Type}{o:Option α}{k:α->Prop}{a:α}(e:o=some a)(h:k a):qV o k:=by rw[e];exact h
theorem qN.ex{x:List D}{k:Prop}(h:qN x k):x=[]/\k:=by
 cases x with
 | nil=>exact⟨rfl,h⟩
 | cons _ _=>exact False.elim h
theorem qC.ex{x:List D}{k:D->List D->Prop}(h:qC x k):∃a r,x=a::r/\k a r:=by
 cases x with
 | nil=>exact False.elim h
 | cons _ _=>exact⟨_,_,rfl,h⟩
theorem q9.ex{x:List D}{k:Prop}(h:q9 x k):x.length<=9000/\k:=by
 rcases x with _ | ⟨a,_ | ⟨b,_ | ⟨c,_ | ⟨d,_ | ⟨e,l⟩⟩⟩⟩⟩
 ·exact⟨GM _,h⟩
 ·exact⟨(by simp only[List.length_cons,List.length_nil];omega),h⟩
 ·exact⟨(by simp only[List.length_cons,List.length_nil];omega),h⟩
 ·exact⟨(by simp only[List.length_cons,List.length_nil];omega),h⟩
 ·exact⟨(by simp only[List.length_cons,List.length_nil];omega),h⟩
 ·exact h
inductive Up(K:PySem.W.Frag)(t:E1)(σ:L2.St)(H:Hp)(Q:VK):Prop
 | mk (G:Gf) (δ:En) (P:List (D×V)) (R:W->En->Prop) (s:S K G δ P σ H) (h:t δ R) (k:(∀x δ',R (.d x) δ'->∀v H',S K G δ' ((x,v)::P) σ H'->Q v H')/\(∀i δ',R (.o i) δ'->∀a d H',S K G δ' P σ H'->δ'[i]?=some (.own a d)->Q (.ref a) H'))
def up(K:PySem.W.Frag)(t:E1):TE:=Up K t
inductive UpA(K:PySem.W.Frag)(t:TDA)(σ:L2.St)(H:Hp)(Q:List V->Hp->Prop):Prop
 | mk (G:Gf) (δ:En) (P:List (D×V)) (R:List D->En->Prop) (s:S K G δ P σ H) (h:t δ R) (k:∀ds δ',R ds δ'->∀vs H',ds.length=vs.length->S K G δ' (ds.zip vs++P) σ H'->Q vs H')
def upA(K:PySem.W.Frag)(t:TDA):TA:=UpA K t
inductive UpT(K:PySem.W.Frag)(t:TDT)(σ:L2.St)(H:Hp)(Q:Bool->Hp->Prop):Prop
 | mk (G:Gf) (δ:En) (P:List (D×V)) (R:Bool->En->Prop) (s:S K G δ P σ H) (h:t δ R) (k:∀b δ',R b δ'->∀H',S K G δ' P σ H'->Q b H')
def upT(K:PySem.W.Frag)(t:TDT):TT:=UpT K t
inductive UpG(K:PySem.W.Frag)(t:TDG)(v:V)(σ:L2.St)(H:Hp)(Q:L2.St->Hp->Prop):Prop
 | mk (G:Gf) (δ:En) (P:List (D×V)) (d:D) (R:En->Prop) (s:S K G δ ((d,v)::P) σ H) (h:t d δ R) (k:∀δ',R δ'->∀σ' H',S K G δ' P σ' H'->Q σ' H')
def upG(K:PySem.W.Frag)(t:TDG):TG:=UpG K t
inductive UpGs(K:PySem.W.Frag)(t:xz)(vs:List V)(σ:L2.St)(H:Hp)(Q:L2.St->Hp->Prop):Prop
 | mk (G:Gf) (δ:En) (P:List (D×V)) (ds:List D) (R:En->Prop) (hl:ds.length=vs.length) (s:S K G δ (ds.zip vs++P) σ H) (h:t ds δ R) (k:∀δ',R δ'->∀σ' H',S K G δ' P σ' H'->Q σ' H')
def upGs(K:PySem.W.Frag)(t:xz):TGs:=UpGs K t
def xw(K:PySem.W.Frag)(G:Gf)(H':Hp)(a:Addr)(d:D):Prop:=(∀b o,G.H0 b=some o->¬ G.Pm b->H' b=some o)/\(G.H0 a=none\/G.Pm a)/\¬ G.M0 a/\bv K (λb=>G.M0 b\/b=a) H' a d
inductive UpS(K:PySem.W.Frag)(W:XK)(t:TDS)(E:xY)(σ:L2.St)(H:Hp):Prop
 | mk (G:Gf) (δ:En) (P:List (D×V)) (R:bh) (s:S K G δ P σ H) (h:t R δ) (k:(∀δ',R.nx δ'->∀σ' H',S K G δ' P σ' H'->E.nx σ' H')/\((∀d δ',R.rt d δ'->∀v σ' H',S K G δ' ((d,v)::P) σ' H'->E.rt v H')/\(∀d,R.ro d->∀a H',xw K G H' a d->E.rt (.ref a) H')/\∀c f d,R.ex c f d->∀e C dx δ' σ' H',S K G δ' ((.exn c f d,.ref e)::P) σ' H'->H' e=some (XAt e C dx)->W (.ref e) (some dx) H') /\
 (∀δ',R.bk δ'->∀σ' H',S K G δ' P σ' H'->E.bk σ' H')/\(∀δ',R.ct δ'->∀σ' H',S K G δ' P σ' H'->E.ct σ' H')/\(R.tp->P=[]/\∀b o,G.H0 b=some o->∃ob xs,o=.frz ob (.lst xs)))
def exs{K:PySem.W.Frag}{W:XK}{R:Str->Str->D->Prop}{q:D×V}(k:∀c f d,R c f d->∀e C dx δ' σ' H',S K G δ' ((.exn c f d,.ref e)::P) σ' H'->H' e=some (XAt e C dx)->W (.ref e) (some dx) H') :
  ∀c f d,R c f d->∀e C dx δ' σ' H',S K G δ' ((.exn c f d,.ref e)::q::P) σ' H'->H' e=some (XAt e C dx)->W (.ref e) (some dx) H':=λc f d r e C dx δ' σ' H' s=>k c f d r e C dx δ' σ' H' (s.sub λp hp=>by
 rcases Fj.mp hp with rfl | hp
 ·simp
 ·simp[hp])
def TbOk(h:Heap)(e:Addr)(t:Value):Prop:=t=.none\/∃T oT ts,t=.ref T/\T≠e/\h.get? T=some oT/\oT.data=.fields ts/\ts[3]?=some .none
structure yR(X:Cx)(pins:List (Addr×Obj))(H':Hp)(e C dx:Addr)(s':Shared):Prop where
 ex:∃(σ:L2.St) (a t:Value),L2.Inv X pins σ H' s'/\s'.heap.get? e=some (xob C (some dx) a t)/\TbOk s'.heap e t /\
  (∀T,t=.ref T->H' T=none/\X.s₀.heap.objs.size<=T/\T≠X.env.locals/\(∀x c,X.env.cells.lookup x=some c->c≠T)/\∀p∈X.pn++pins,p.1≠T)/\H' e=some (XAt e C dx)
def XEs(X:Cx):XK:=λev dxo H'=>∀e C dx pins s',ev=.ref e->dxo=some dx->yR X pins H' e C dx s'->X.xe (.ref e) s'
def upS(X:Cx)(t:TDS):TS:=UpS X.K (XEs X) t
def DE(X:Cx)(e:Expr)(t:E1):Prop:=PE X e (up X.K t)
def DA(X:Cx)(es:List Expr)(t:TDA):Prop:=PA X es (upA X.K t)
def DT(X:Cx)(e:Expr)(t:TDT):Prop:=PT X e (upT X.K t)
def DW(X:Cx)(e:Expr)(t:TDT):Prop:=PW X e (upT X.K t)
def DG(X:Cx)(e:Expr)(t:TDG):Prop:=PG X e (upG X.K t)
def DGs(X:Cx)(e:List Expr)(t:xz):Prop:=PGs X e (upGs X.K t)
def DS(X:Cx)(st:Stmt)(t:TDS):Prop:=PS X st (upS X t)
def DSs(X:Cx)(st:List Stmt)(t:TDS):Prop:=PSs X st (upS X t)
section
variable {X:Cx} {e:Expr} {pos:Pos}
def PE.imp{t t':TE}(h:PE X e t)(i:∀σ H Q,t' σ H Q->t σ H Q):PE X e t':=λpins s σ H Q I q=>h pins s σ H Q I (i σ H Q q)
def PT.imp{t t':TT}(h:PT X e t)(i:∀σ H Q,t' σ H Q->t σ H Q):PT X e t':=λpins s σ H Q I q=>h pins s σ H Q I (i σ H Q q)
def PW.imp{t t':TT}(h:PW X e t)(i:∀σ H Q,t' σ H Q->t σ H Q):PW X e t':=λwh pins s σ H Q I q=>h wh pins s σ H Q I (i σ H Q q)
def PA.imp{t t':TA}(h:PA X es t)(i:∀σ H Q,t' σ H Q->t σ H Q):PA X es t':=λp pins s σ H Q I q=>h p pins s σ H Q I (i σ H Q q)
def PS.imp{st:Stmt}{t t':TS}(h:PS X st t)(i:∀E σ H,t' E σ H->t E σ H):PS X st t':=λpins s σ H D I q=>h pins s σ H D I (i D σ H q)
def PSs.imp{st:List Stmt}{t t':TS}(h:PSs X st t)(i:∀E σ H,t' E σ H->t E σ H):PSs X st t':=λpins s σ H D I q=>h pins s σ H D I (i D σ H q)
def PG.imp{t t':TG}(h:PG X e t)(i:∀v σ H Q,t' v σ H Q->t v σ H Q):PG X e t':=λpins s σ H v u Q I r q=>h pins s σ H v u Q I r (i v σ H Q q)
def PGs.imp{t t':TGs}(h:PGs X es t)(i:∀v σ H Q,t' v σ H Q->t v σ H Q):PGs X es t':=λpins s σ H v u Q I r q=>h pins s σ H v u Q I r (i v σ H Q q)
def EV.imp{f:Value->Value->Sem Value}{r r':R2}(h:EV X f r)(i:∀x y H Q,r' x y H Q->r x y H Q):EV X f r':=λpins s σ H x y v u Q I rx ry q=>h pins s σ H x y v u Q I rx ry (i x y H Q q)
def UnR.imp{f:Value->Sem Value}{r r':V->Hp->VK->Prop}(h:UnR X f r)(i:∀x H Q,r' x H Q->r x H Q):UnR X f r':=λpins s σ H x v Q I rx q=>h pins s σ H x v Q I rx (i x H Q q)
def bY.imp{f:Value}{r r':List V->Hp->VK->Prop}(h:bY X f r)(i:∀xs H Q,r' xs H Q->r xs H Q):bY X f r':=λpins s σ H x v Q I rx q=>h pins s σ H x v Q I rx (i x H Q q)
def IxR.imp{r r':R2}(h:IxR X r)(i:∀x y H Q,r' x y H Q->r x y H Q):IxR X r':=λvalue slice pins s σ H x y v u Q I rx ry q hs=>h value slice pins s σ H x y v u Q I rx ry (i x y H Q q) hs
end
section
variable {K:PySem.W.Frag} {G:Gf} {δ:En} {P:List (D×V)} {σ:L2.St} {H:Hp}
def up.mk{t:E1}{R:D->En->Prop}{Q:VK}(s:S K G δ P σ H)(h:t δ (wd R))(k:∀x δ',R x δ'->∀v H',S K G δ' ((x,v)::P) σ H'->Q v H'):up K t σ H Q:=⟨G,δ,P,wd R,s,h,k,λ_ _ z=>z.elim⟩
theorem S.dat(s:S K G δ P σ H)(e:δ[i]?=some (.dat d)):∃v,σ[i]?=some (some v)/\S K G δ ((d,v)::P) σ H:=by
 obtain⟨A,x⟩:=s;obtain⟨v,q,r⟩:=x.dat i d e;exact⟨v,q,A,x.push r⟩
def S.own{a:Addr}(s:S K G δ P σ H)(e:δ[i]?=some (.own a d)):σ[i]?=some (some (.ref a)):=let ⟨_,x⟩:=s;(x.own i a d e).1
def sc:D->Option V
 | .non=>some .non
 | .bl b=>some (.bl b)
 | .int i=>some (.int i)
 | .str x=>some (.str x)
 | _=>none
theorem EH.sc{M:Addr->Prop}(h:sc d=some v):EH K M H d v:=by
 cases d<;>simp only[DL.sc,Option.some.injEq,reduceCtorEq] at h<;>subst h<;>unfold EH<;>rfl
def S.sc(s:S K G δ P σ H)(h:sc d=some v):S K G δ ((d,v)::P) σ H:=let ⟨A,x⟩:=s;⟨A,x.push (EH.sc h)⟩
end
def dV(i:Nat)(δ:En)(R:W->En->Prop):Prop:=qD δ[i]? λd=>R (.d d) δ
def dC(d:D)(δ:En)(R:W->En->Prop):Prop:=R (.d d) δ
def kOb(f:List D->(D->Prop)->Prop)(x:D)(R:W->En->Prop):W->En->Prop:=wd λy δ2=>f [x,y] (kD R δ2)
def kOa(f:List D->(D->Prop)->Prop)(tb:E1)(R:W->En->Prop):W->En->Prop:=wd λx δ1=>tb δ1 (kOb f x R)
def dOp(f:List D->(D->Prop)->Prop)(ta tb:E1)(δ:En)(R:W->En->Prop):Prop:=ta δ (kOa f tb R)
def kUn(f:List D->(D->Prop)->Prop)(R:W->En->Prop):W->En->Prop:=wd λx δ1=>f [x] (kD R δ1)
def dUn(f:List D->(D->Prop)->Prop)(ta:E1)(δ:En)(R:W->En->Prop):Prop:=ta δ (kUn f R)
def CQ(δ:En)(R:List D->En->Prop):Prop:=R [] δ
def kAd(x:D)(R:List D->En->Prop)(ds:List D)(δ:En):Prop:=R (x::ds) δ
def kAc(t:TDA)(R:List D->En->Prop):W->En->Prop:=wd λx δ1=>t δ1 (kAd x R)
def xf(te:E1)(t:TDA)(δ:En)(R:List D->En->Prop):Prop:=te δ (kAc t R)
def kCa(f:List D->(D->Prop)->Prop)(R:W->En->Prop)(ds:List D)(δ:En):Prop:=f ds (kD R δ)
def qr(f:List D->(D->Prop)->Prop)(t:TDA)(δ:En)(R:W->En->Prop):Prop:=t δ (kCa f R)
def kTu(R:W->En->Prop)(ds:List D)(δ:En):Prop:=q9 ds (R (.d (.tup ds)) δ)
def dTup(t:TDA)(δ:En)(R:W->En->Prop):Prop:=t δ (kTu R)
def kLs(R:W->En->Prop)(ds:List D)(δ:En):Prop:=q9 ds (R (.d (.lst ds)) δ)
def dLst(t:TDA)(δ:En)(R:W->En->Prop):Prop:=t δ (kLs R)
def kTs(R:Bool->En->Prop):W->En->Prop:=wd λx δ1=>qB x λb=>R b δ1
def dTst(t:E1)(δ:En)(R:Bool->En->Prop):Prop:=t δ (kTs R)
def kAn(u:TDT)(R:Bool->En->Prop)(b:Bool)(δ:En):Prop:=if b=true then u δ R else R false δ
def dAnd(t u:TDT)(δ:En)(R:Bool->En->Prop):Prop:=t δ (kAn u R)
def kOr(u:TDT)(R:Bool->En->Prop)(b:Bool)(δ:En):Prop:=if b=true then R true δ else u δ R
def dOr(t u:TDT)(δ:En)(R:Bool->En->Prop):Prop:=t δ (kOr u R)
def kNo(R:Bool->En->Prop)(b:Bool)(δ:En):Prop:=R (!b) δ
def dNot(t:TDT)(δ:En)(R:Bool->En->Prop):Prop:=t δ (kNo R)
def kAV(u:E1)(R:W->En->Prop):W->En->Prop:=wd λx δ1=>qB x λb=>if b=true then u δ1 R else R (.d (.bl false)) δ1
def B4(t u:E1)(δ:En)(R:W->En->Prop):Prop:=t δ (kAV u R)
def kOV(u:E1)(R:W->En->Prop):W->En->Prop:=wd λx δ1=>qB x λb=>if b=true then R (.d (.bl true)) δ1 else u δ1 R
def dOrV(t u:E1)(δ:En)(R:W->En->Prop):Prop:=t δ (kOV u R)
def kNV(R:W->En->Prop):W->En->Prop:=wd λx δ1=>qB x λb=>R (.d (.bl (!b))) δ1
def CT(t:E1)(δ:En)(R:W->En->Prop):Prop:=t δ (kNV R)
def kIE(t u:E1)(R:W->En->Prop)(b:Bool)(δ:En):Prop:=if b=true then t δ R else u δ R
def dIfE(c:TDT)(t u:E1)(δ:En)(R:W->En->Prop):Prop:=c δ (kIE t u R)
section
variable {X:Cx} {pos:Pos} {a b c:Expr} {ta tb:E1} {t:TDA} {f:List D→(D→Prop)→Prop} {es:List Expr}
theorem ak(i:Nat){x:Str}(hN:X.N[i]?=some x:=by rfl)(hv:Vis X.env.scope x:=by walk_at "v3")(hd:(x==("__debug__":Str))=false:=by decide)
  (hcd:(x==("__classdict__":Str))=false:=by decide):DE X (.Name x pos) (dV i):=PE.imp (d9 hN hv hd hcd) λσ H Q ⟨G,δ,P,R,s,h,k,_⟩=>by
 replace h:=qD.ex h;obtain⟨d,e,h⟩:=h;obtain⟨v,q,s'⟩:=s.dat e;exact⟨v,q,k d δ h v H s'⟩
def de_c(h:PE X a (tC v))(hs:sc d=some v):DE X a (dC d):=PE.imp h λσ H Q ⟨G,δ,P,R,s,r,k,_⟩=>k d δ r v H (s.sc hs)
def am{i j pos}:DE X (.Constant (.int i) j pos) (dC (.int i)):=de_c wK rfl
def cc{i j pos}:DE X (.Constant (.bool i) j pos) (dC (.bl i)):=de_c Ef rfl
def kc{j pos}:DE X (.Constant .none j pos) (dC .non):=de_c AI rfl
def aE{x j pos}:DE X (.Constant (.str x) j pos) (dC (.str x)):=de_c uB rfl
def ax{op:Operator}(ho:EV X (binaryOp op) λx y=>aS X.K f [x,y])(ha:DE X a ta)(hb:DE X b tb):DE X (.BinOp a op b pos) (dOp f ta tb) :=
 PE.imp (Dv ho ha hb) λσ H Q ⟨G,δ,P,R,s,h,k,_⟩=>up.mk s h λx δ1 h1 v H1 s1=>up.mk s1 h1 λy δ2 h2 u H2 s2 =>
  S.pure (P':=P) (ds:=[x,y]) (vs:=[v,u]) s2 rfl (by simp) (λp hp=>by simp[hp]) h2 λd r v' H' s'=>k d δ2 r v' H' s'
def cm{op:CmpOp}(ho:EV X (compareOp op) λx y=>aS X.K f [x,y])(ha:DE X a ta)(hb:DE X b tb)(hm:behindInMarks op b=false):DE X (.Compare a [op] [b] pos) (dOp f ta tb) :=
 PE.imp (xN ho ha hb hm) λσ H Q ⟨G,δ,P,R,s,h,k,_⟩=>up.mk s h λx δ1 h1 v H1 s1=>up.mk s1 h1 λy δ2 h2 u H2 s2 =>
  S.pure (P':=P) (ds:=[x,y]) (vs:=[v,u]) s2 rfl (by simp) (λp hp=>by simp[hp]) h2 λd r v' H' s'=>k d δ2 r v' H' s'
def aD{op:CmpOp}(ho:EV X (compareOp op) λx y=>aS X.K f [x,y])(ha:DE X a ta)(hb:DE X b tb)(hm:behindInMarks op b=false):DT X (.Compare a [op] [b] pos) (dTst (dOp f ta tb)) :=
 PT.imp (Aw ho ha hb hm) λσ H Q ⟨G,δ,P,R,s,h,k⟩=>up.mk s h λx δ1 h1 v H1 s1=>up.mk s1 h1 λy δ2 h2 u H2 s2 =>
  S.pure (P':=P) (ds:=[x,y]) (vs:=[v,u]) s2 rfl (by simp) (λp hp=>by simp[hp]) h2 λd r v' H' s'=>by
   replace r:=qB.ex r;obtain⟨b,e,r⟩:=r;subst e;have q:=s';obtain⟨A,q⟩:=q;have q2:=q.pnd (.bl b,v') (by simp);simp only[EH] at q2;exact⟨b,q2,k b δ2 r H' (s'.sub λp hp=>by simp[hp])⟩
def ng{op:UnaryOp}(ho:UnR X (unaryOp op) λx=>aS X.K f [x])(ha:DE X a ta):DE X (.UnaryOp op a pos) (dUn f ta) :=
 PE.imp (Dq ho ha) λσ H Q ⟨G,δ,P,R,s,h,k,_⟩=>up.mk s h λx δ1 h1 v H1 s1 =>
  S.pure (P':=P) (ds:=[x]) (vs:=[v]) s1 rfl (by simp) (λp hp=>by simp[hp]) h1 λd r v' H' s'=>k d δ1 r v' H' s'
theorem cj(h:DE X a ta)(he:∀whole,isTrue a X.env whole=(do let v<-whole;standAt a.pos;holding [v] (truthy v)):=by intro _;rfl):DT X a (dTst ta) :=
 PT.imp (BK h he) λσ H Q ⟨G,δ,P,R,s,h,k⟩=>up.mk s h λx δ1 h1 v H1 s1=>by
  replace h1:=qB.ex h1;obtain⟨b,e,r⟩:=h1;subst e;obtain⟨A,q⟩:=id s1;have q2:=q.pnd (.bl b,v) (by simp);simp only[EH] at q2;exact⟨b,q2,k b δ1 r H1 (s1.sub λp hp=>by simp[hp])⟩
variable {tA tB':TDT} {dL:List Expr}
def DW.dt(h:DW X a tA):DT X a tA:=PW.pt h
def sn(ha:DT X a tA):DW X (.BoolOp .And [a] pos) tA:=Aa ha
def fG(ha:DT X a tA):DW X (.BoolOp .Or [a] pos) tA:=Cy ha
def wC(ha:DT X a tA)(hb:DW X (.BoolOp .And (b::dL) pos) tB'):DW X (.BoolOp .And (a::b::dL) pos) (dAnd tA tB') :=
 PW.imp (BC ha hb) λσ H Q ⟨G,δ,P,R,s,h,k⟩=>⟨G,δ,P,_,s,h,λb δ1 h1 H1 s1=>by
  cases b with
  | true=>exact⟨G,δ1,P,R,s1,h1,k⟩
  | false=>exact k false δ1 h1 H1 s1⟩
def kn(ha:DT X a tA)(hb:DW X (.BoolOp .Or (b::dL) pos) tB'):DW X (.BoolOp .Or (a::b::dL) pos) (dOr tA tB') :=
 PW.imp (Dx ha hb) λσ H Q ⟨G,δ,P,R,s,h,k⟩=>⟨G,δ,P,_,s,h,λb δ1 h1 H1 s1=>by
  cases b with
  | true=>exact k true δ1 h1 H1 s1
  | false=>exact⟨G,δ1,P,R,s1,h1,k⟩⟩
def fu(ha:DT X a tA):DT X (.UnaryOp .Not a pos) (dNot tA) :=
 PT.imp (AQ ha) λσ H Q ⟨G,δ,P,R,s,h,k⟩=>⟨G,δ,P,_,s,h,λb δ1 h1 H1 s1=>k _ δ1 h1 H1 s1⟩
theorem rG{K:PySem.W.Frag}{δ:En}{b:Bool}(s:S K G δ ((.bl b,v)::P) σ H):v=.bl b:=by
 obtain⟨A,q⟩:=s;have q2:=q.pnd (.bl b,v) (by simp);simpa only[EH] using q2
def d8{op}(h:DE X a ta):DE X (.BoolOp op [a] pos) ta:=Br h
def jn(ha:DE X a ta)(hb:DE X (.BoolOp .And (b::dL) pos) tb):DE X (.BoolOp .And (a::b::dL) pos) (B4 ta tb) :=
 PE.imp (CW ha hb) λσ H Q ⟨G,δ,P,R,s,h,k,k2⟩=>up.mk s h λx δ1 h1 v H1 s1=>by
  replace h1:=qB.ex h1;obtain⟨b,e,r⟩:=h1;subst e;refine⟨b,rG s1,?_⟩
  cases b with
  | true=>exact⟨G,δ1,P,R,s1.sub λp hp=>by simp[hp],r,k,k2⟩
  | false=>exact k (.bl false) δ1 r _ H1 (by rw[<- rG s1];exact s1)
def vd(ha:DE X a ta)(hb:DE X (.BoolOp .Or (b::dL) pos) tb):DE X (.BoolOp .Or (a::b::dL) pos) (dOrV ta tb) :=
 PE.imp (Dk ha hb) λσ H Q ⟨G,δ,P,R,s,h,k,k2⟩=>up.mk s h λx δ1 h1 v H1 s1=>by
  replace h1:=qB.ex h1;obtain⟨b,e,r⟩:=h1;subst e;refine⟨b,rG s1,?_⟩
  cases b with
  | false=>exact⟨G,δ1,P,R,s1.sub λp hp=>by simp[hp],r,k,k2⟩
  | true=>exact k (.bl true) δ1 r _ H1 (by rw[<- rG s1];exact s1)
def lL(ha:DE X a ta):DE X (.UnaryOp .Not a pos) (CT ta) :=
 PE.imp (BX ha) λσ H Q ⟨G,δ,P,R,s,h,k,k2⟩=>up.mk s h λx δ1 h1 v H1 s1=>by
  replace h1:=qB.ex h1;obtain⟨b,e,r⟩:=h1;subst e;exact⟨b,rG s1,k _ δ1 r _ H1 ((s1.sub λp hp=>by simp[hp]).sc rfl)⟩
def tW(hc:DT X c tA)(ha:DE X a ta)(hb:DE X b tb):DE X (.IfExp c a b pos) (dIfE tA ta tb) :=
 PE.imp (we hc ha hb) λσ H Q ⟨G,δ,P,R,s,h,k,k2⟩=>⟨G,δ,P,_,s,h,λb δ1 h1 H1 s1=>by
  cases b with
  | true=>exact⟨G,δ1,P,R,s1,h1,k,k2⟩
  | false=>exact⟨G,δ1,P,R,s1,h1,k,k2⟩⟩
def ae:DA X [] CQ:=PA.imp eQ λσ H Q ⟨G,δ,P,R,s,h,k⟩=>k [] δ h [] H rfl s
theorem ac(ha:DE X a ta)(hr:DA X es t)(hs:starEach (a::es) X.env=(false,eval a X.env)::starEach es X.env:=by rfl):DA X (a::es) (xf ta t) :=
 PA.imp (bI ha hr hs) λσ H Q ⟨G,δ,P,R,s,h,k⟩=>up.mk s h λx δ1 h1 v H1 s1=>⟨G,δ1,(x,v)::P,_,s1,h1,λds δ2 h2 vs H2 hl s2 =>
  k (x::ds) δ2 h2 (v::vs) H2 (by simp[hl]) (s2.sub λp hp=>by
   simp only[List.zip_cons_cons,List.cons_append,List.mem_cons,List.mem_append] at hp ⊢
   rcases hp with h | h | h
   ·exact .inr (.inl h)
   ·exact .inl h
   ·exact .inr (.inr h))⟩
def aJ{p:Addr}(h:H p=none)(o:HO):ci H (EE H p o):=λb u q=>by rw[aO (cJ q h)];exact q
def jt(h:n<=9000):n<sizeLine:=Nat.lt_of_le_of_lt h (by decide)
def fB(h:n<=9000):n<=sizeLine:=GS (jt h)
def aK{x1}(h:DA X es t):DE X (.Tuple es x1 pos) (dTup t) :=
 PE.imp (Bi h) λσ H Q ⟨G,δ,P,R,s,h,k,_⟩=>⟨G,δ,P,_,s,h,λds δ1 h9 vs H1 hl s1=>⟨by rw[<- hl];exact fB (q9.ex h9).1,λp hp=>by
  have h1:=(q9.ex h9).2
  obtain⟨A,x⟩:=s1;have r:=x.reps ds vs hl (λq hq=>Fx _ hq);have x2:=x.same (aJ hp (.tup vs));refine k (.tup ds) δ1 h1 (.ref p) _ ⟨A,(x2.sub λq hq=>Fo _ hq).push ?_⟩;unfold EH
  exact⟨p,vs,rfl,E5.of aI,Reps.kp (Kp.of_same (aJ hp _)) _ _ r⟩⟩⟩
def bG(h:DA X es t):DE X (.List es pos) (dLst t) :=
 PE.imp (sQ h) λσ H Q ⟨G,δ,P,R,s,h,k,_⟩=>⟨G,δ,P,_,s,h,λds δ1 h9 vs H1 hl s1=>⟨by rw[<- hl];exact fB (q9.ex h9).1,λp hp=>by
  have h1:=(q9.ex h9).2
  obtain⟨A,x⟩:=s1;have r:=x.reps ds vs hl (λq hq=>Fx _ hq);have x2:=x.same (aJ hp (.lst vs));refine k (.lst ds) δ1 h1 (.ref p) _ ⟨A,(x2.sub λq hq=>Fo _ hq).push ?_⟩;unfold EH
  exact⟨p,vs,rfl,λz=>x.mem p z hp,aI,Reps.kp (Kp.of_same (aJ hp _)) _ _ r⟩⟩⟩
def bM(hr:IxR X λx y=>aS X.K f [x,y])(ha:DE X a ta)(hb:DE X b tb)(hs:sM b):DE X (.Subscript a b pos) (dOp f ta tb) :=
 PE.imp (Dh hr ha hb hs) λσ H Q ⟨G,δ,P,R,s,h,k,_⟩=>up.mk s h λx δ1 h1 v H1 s1=>up.mk s1 h1 λy δ2 h2 u H2 s2 =>
  S.pure (P':=P) (ds:=[x,y]) (vs:=[v,u]) s2 rfl (by simp) (λp hp=>by simp[hp]) h2 λd r v' H' s'=>k d δ2 r v' H' s'
def E2(K:PySem.W.Frag)(f:List D->(D->Prop)->Prop):Sp:=λvs H Q _=>aS K f vs H Q
theorem kG{K:PySem.W.Frag}{Q:VK}{f:List D->(D->Prop)->Prop}(h:up K (qr f t) σ H Q):upA K t σ H λvs H1=>aS K f vs H1 Q:=by
 obtain⟨G,δ,P,R,s,h,k,_⟩:=h;exact⟨G,δ,P,_,s,h,λds δ1 h1 vs H1 hl s1=>S.pure (P':=P) s1 hl (λp hp=>Fx _ hp) (λp hp=>Fo _ hp) h1 λd r v' H' s'=>k d δ1 r v' H' s'⟩
theorem An{x:Str}{k:Nat}{g:Addr}{fd:FuncData}{ps:List Str}(F:kX X.prog X.w X.K X.mg X.base CX0 k g fd ps (E2 X.K f))(hr:fS k X.A)(hg:Gl X x)(hm:X.mg x=some (.ref g))(hk:PySem.W.keepIn X.K (.ref g)=true)
  (hb:mj X.K fd ps []) (ha:DA X (a::es) t) (hdb:(x==("__debug__":Str))=false:=by decide) (he:starEach (a::es) X.env=(false,eval a X.env)::starEach es X.env:=by rfl) (hpl:(backTo pos (starEach es X.env)).any (·.1)=false:=by rfl) :
  DE X (.Call (.Name x p) (a::es) [] pos) (qr f t) :=
 PE.imp (lI F hr hg hm hk hb .nil uW ha hdb he hpl) λσ H Q h=>by
  show upA X.K t σ H λvs H1=>aS X.K f (vs++[]) H1 Q
  have q:=kG h
  simpa only[List.append_nil] using q
theorem aG{x:Str}{id:String}(hc:bY X (.builtin id) (aS X.K f))(hg:Gl X x)(hm:X.mg x=none)(hv:bootBuiltins x=some (.builtin id))(ha:DA X (a::es) t)(hn:x≠"__name__":=by decide)(hdb:(x==("__debug__":Str))=false:=by decide)
  (he:starEach (a::es) X.env=(false,eval a X.env)::starEach es X.env:=by rfl) (hpl:(backTo pos (starEach es X.env)).any (·.1)=false:=by rfl):DE X (.Call (.Name x p) (a::es) [] pos) (qr f t) :=
 PE.imp (kJ hc hg hm hv ha hn hdb he hpl) λσ H Q h=>kG h
theorem aX{x:Str}{T:String}(hc:bY X (.type T) (aS X.K f))(hg:Gl X x)(hm:X.mg x=none)(hv:bootBuiltins x=some (.type T))(ha:DA X (a::es) t)(hn:x≠"__name__":=by decide)(hdb:(x==("__debug__":Str))=false:=by decide)
  (he:starEach (a::es) X.env=(false,eval a X.env)::starEach es X.env:=by rfl) (hpl:(backTo pos (starEach es X.env)).any (·.1)=false:=by rfl):DE X (.Call (.Name x p) (a::es) [] pos) (qr f t) :=
 PE.imp (iP hc hg hm hv ha hn hdb he hpl) λσ H Q h=>kG h
end
def AG(R:bh)(δ:En):Prop:=R.nx δ
def AB(t u:TDS)(R:bh)(δ:En):Prop:=t { R with nx:=u R } δ
def BB(t:E1)(R:bh)(δ:En):Prop:=t δ λ_ δ1=>R.nx δ1
def kRe(R:bh):W->En->Prop:=wd λx δ1=>R.rt x δ1
def dRet(t:E1)(R:bh)(δ:En):Prop:=t δ (kRe R)
def kIf(t u:En->Prop)(b:Bool)(δ:En):Prop:=if b=true then t δ else u δ
def dIf(c:TDT)(t u:TDS)(R:bh)(δ:En):Prop:=c δ (kIf (t R) (u R))
def r8(_:bh)(_:En):Prop:=False
def kSe(i:Nat)(R:bh):W->En->Prop:=wd λx δ1=>lJ δ1 i (.dat x) R.nx
def dSet(i:Nat)(t:E1)(R:bh)(δ:En):Prop:=t δ (kSe i R)
def kAs(g:TDG)(R:bh):W->En->Prop:=wd λx δ1=>g x δ1 R.nx
def dAsg(t:E1)(g:TDG)(R:bh)(δ:En):Prop:=t δ (kAs g R)
def dJ(i:Nat)(x:D)(δ:En)(R:En->Prop):Prop:=lJ δ i (.dat x) R
def zS(ds:List D)(δ:En)(R:En->Prop):Prop:=qN ds (R δ)
def rZ(t:TDG)(u:xz)(ds:List D)(δ:En)(R:En->Prop):Prop:=qC ds λx r=>t x δ λδ1=>u r δ1 R
def gN(n:Nat)(t:xz)(d:D)(δ:En)(R:En->Prop):Prop:=qT d λxs=>rO xs n (t xs δ R)
def B5(c:TDT)(tb:TDS)(R:bh)(δ:En):Prop:=∃(I:En->Prop) (μ:En->Nat),I δ/\∀δ,I δ->c δ (kIf (tb { R with nx:=λδ'=>I δ'/\μ δ'<μ δ,ct:=λδ'=>I δ'/\μ δ'<μ δ,bk:=R.nx,tp:=False }) R.nx)
def rg(t:E1)(g:TDG)(tb:TDS)(R:bh)(δ:En):Prop:=t δ (wd λd δ1=>qL d λxs=>∃I:Nat->En->Prop,I 0 δ1 /\
 (∀i x δ',xs[i]?=some x->I i δ'->g x δ' (tb { R with nx:=I (i+1),ct:=I (i+1),bk:=R.nx,tp:=False }))/\∀δ',I xs.length δ'->R.nx δ')
def rc(t:E1)(g:TDG)(tb:TDS)(R:bh)(δ:En):Prop:=t δ (wd λd δ1=>qT d λxs=>∃I:Nat->En->Prop,I 0 δ1 /\
 (∀i x δ',xs[i]?=some x->I i δ'->g x δ' (tb { R with nx:=I (i+1),ct:=I (i+1),bk:=R.nx,tp:=False }))/\∀δ',I xs.length δ'->R.nx δ')
def zW(t:TDA)(g:TDG)(tb:TDS)(R:bh)(δ:En):Prop:=t δ λds δ1=>qC ds λx r=>qN r <| qI x λj=>-(2 ^ 62)<=j/\j<2 ^ 62/\∃I:Nat->En->Prop,I 0 δ1 /\
 (∀i δ',i<j.toNat->I i δ'->g (.int i) δ' (tb { R with nx:=I (i+1),ct:=I (i+1),bk:=R.nx,tp:=False }))/\∀δ',I j.toNat δ'->R.nx δ'
section
variable {X:Cx} {pos:Pos} {a b c e tg:Expr} {ta:E1} {tA:TDT} {t u:TDS} {st:Stmt} {dL body:List Stmt} {g:TDG} {gs:xz} {tda:TDA}
def aB:DSs X [] AG:=PSs.imp yX λE σ H ⟨G,δ,P,R,s,h,k,_⟩=>k δ h σ H s
def ad(h1:DS X st t)(h2:DSs X dL u):DSs X (st::dL) (AB t u) :=
 PSs.imp (v7 h1 h2) λE σ H ⟨G,δ,P,R,s,h,k1,k2,k3,k4⟩=>⟨G,δ,P,{ R with nx:=u R },s,h,λδ' h' σ' H' s'=>⟨G,δ',P,R,s',h',k1,k2,k3,k4⟩,k2,k3,k4⟩
def af(h1:DS X st t):DSs X [st] t:=yk h1
theorem t4(he:DE X e ta)(hs:swapsWith e none pos.line X.env=pure false:=by rfl):DS X (.Expr e pos) (BB ta) :=
 PS.imp (ni he hs) λE σ H ⟨G,δ,P,R,s,h,k,_⟩=>⟨G,δ,P,_,s,h,λx δ1 h1 v H1 s1=>k δ1 h1 σ H1 (s1.sub λp hp=>by simp[hp]),λi δ1 h1 a d H1 s1 _=>k δ1 h1 σ H1 s1⟩
def au(he:DE X e ta):DS X (.Return (some e) pos) (dRet ta) :=
 PS.imp (sU he) λE σ H ⟨G,δ,P,R,s,h,_,k,_⟩=>up.mk s h λx δ1 h1 v H1 s1=>k.1 x δ1 h1 v σ H1 s1
def aM{aa bb:List Stmt}(hc:DT X c tA)(ha:DSs X aa t)(hb:DSs X bb u):DS X (.If c aa bb pos) (dIf tA t u) :=
 PS.imp (DY hc ha hb) λE σ H ⟨G,δ,P,R,s,h,k1,k2,k3,k4⟩=>⟨G,δ,P,_,s,h,λb δ1 h1 H1 s1=>by
  cases b with
  | true=>exact⟨G,δ1,P,R,s1,h1,k1,k2,k3,k4⟩
  | false=>exact⟨G,δ1,P,R,s1,h1,k1,k2,k3,k4⟩⟩
def ds_never:DS X st r8:=PS.imp vL λE σ H ⟨G,δ,P,R,s,h,_⟩=>h
def jd:DSs X dL r8:=PSs.imp uh λE σ H ⟨G,δ,P,R,s,h,_⟩=>h
theorem aw(i:Nat){x:Str}{pos':Pos}(hN:X.N.Nodup)(he:DE X e ta)(hi:X.N[i]?=some x:=by rfl)(hx:Loc X.env.scope x:=by walk_at "v2")(hs:swapsWith e (some (.Name x pos')) pos.line X.env=pure false:=by rfl)
  (hf:X.fn x=true\/X.env.scope.names.lookup x=some .local :=by walk_at "v1"):DS X (.Assign [.Name x pos'] e pos) (dSet i ta) :=
 PS.imp (mC hN hi hx he hs hf) λE σ H ⟨G,δ,P,R,s,h,k,_⟩=>up.mk s h λx δ1 h1 v H1 s1=>k _ h1 _ H1 (s1.set (by simp) λp hp=>by simp[hp])
theorem rS(he:DE X e ta)(hg:DG X tg g)(hs:swapsWithSole [tg] e pos.line X.env=pure false:=by rfl)(hw:swappedStores [tg] e X.env=pure none:=by rfl)
  (h1:(assignEach [tg] X.env).map (·.2)=[assign tg X.env]:=by rfl):DS X (.Assign [tg] e pos) (dAsg ta g) :=
 PS.imp (BL he hg hs hw h1) λE σ H ⟨G,δ,P,R,s,h,k,_⟩=>up.mk s h λx δ1 h1 v H1 s1=>⟨G,δ1,P,x,R.nx,s1,h1,k⟩
theorem aq(i:Nat){x:Str}(hN:X.N.Nodup)(hi:X.N[i]?=some x:=by rfl)(hx:Loc X.env.scope x:=by walk_at "v2")(hf:X.fn x=true\/X.env.scope.names.lookup x=some .local :=by walk_at "v1") :
  DG X (.Name x pos) (dJ i):=PG.imp (yn hN hi hx hf) λv σ H Q ⟨G,δ,P,d,R,s,h,k⟩=>k _ h _ H (s.set (by simp) λp hp=>by simp[hp])
def aW:DGs X [] zS:=PGs.imp Am λvs σ H Q ⟨G,δ,P,ds,R,hl,s,h,k⟩=>by
 replace h:=qN.ex h;obtain⟨e,h⟩:=h;subst e;have:vs=[]:=Hj.mp hl.symm;subst this;exact⟨rfl,k δ h σ H s⟩
theorem ay(h1:DG X e g)(h2:DGs X es gs)(hs:(assignEach (e::es) X.env).map (·.2)=assign e X.env::(assignEach es X.env).map (·.2):=by rfl):DGs X (e::es) (rZ g gs) :=
 PGs.imp (wa h1 h2 hs) λvs σ H Q ⟨G,δ,P,ds,R,hl,s,h,k⟩=>by
  replace h:=qC.ex h;obtain⟨x,r,e,h⟩:=h;subst e
  cases vs with
  | nil=>cases hl
  | cons v vs =>
   refine⟨v,vs,rfl,G,δ,r.zip vs++P,x,_,s.sub λp hp=>by simpa using hp,h,λδ1 h1 σ1 H1 s1=>⟨G,δ1,P,r,R,G2 hl,s1,h1,k⟩⟩
theorem bL{kk:Nat}(hc:X.calm=true)(h:DGs X es gs)(hn:(assignEach es X.env).length=n:=by rfl)(hst:(assignEach es X.env).findIdx? (·.1)=none:=by rfl):DG X (.Tuple es kk pos) (gN n gs) :=
 PG.imp (Cm hc h hn hst) λv σ H Q ⟨G,δ,P,d,R,s,h,k⟩=>by
  replace h:=qT.ex h;obtain⟨xs,e,h⟩:=h;replace h:=rO.ex h;obtain⟨hl,h⟩:=h;subst e;obtain⟨A,x⟩:=s;have q:=x.pnd (.tup xs,v) (by simp);simp only[EH] at q;obtain⟨a,vs,e,sq,r⟩:=q;subst e;refine⟨a,vs,rfl,sq,by rw[<- Reps.length _ _ r];exact hl,G,δ,P,xs,R,Reps.length _ _ r,⟨A,?_⟩,h,k⟩
  exact⟨x.old,x.stay,x.m0,x.pm,x.new,x.thr,x.len,x.dat,x.own,x.inj,λp hp=>by
   rcases Fk.mp hp with hp | hp
   ·obtain⟨i,hi,e⟩:=List.mem_iff_getElem.mp hp;have h1:i<xs.length:=by rw[Gj] at hi;omega
    have h2:i<vs.length:=by rw[Gj] at hi;omega
    obtain⟨v',e',r'⟩:=Reps.get _ _ r i xs[i] (by simp[h1]);have:p=(xs[i],vs[i]):=by rw[<- e,List.getElem_zip]
    rw[this];rw[List.getElem?_eq_getElem h2] at e'
    cases e'
    exact r'
   ·exact x.pnd p (by simp[hp])⟩
def vF(hp:PassesOwn (model X.prog X.w) X.A X.env X.xe)(hc:DT X c tA)(hb:DSs X body t):DS X (.While c body [] pos) (B5 tA t) :=
 PS.imp (vN hp hc hb) λE σ H ⟨G,δ,P,R,s,⟨I,μ,i0,turn⟩,k1,k2,k3,k4⟩=>by
  refine⟨λm σ H=>∃δ,m=μ δ/\I δ/\S X.K G δ P σ H,⟨_,δ,rfl,i0,s⟩,?_⟩;rintro m σ H ⟨δ,rfl,i,s⟩;refine⟨G,δ,P,_,s,turn δ i,λb δ1 h1 H1 s1=>?_⟩
  cases b with
  | false=>exact k1 δ1 h1 σ H1 s1
  | true =>
   refine⟨λσ' H'=>∃δ',(I δ'/\μ δ'<μ δ)/\S X.K G δ' P σ' H',λσ' H' ⟨δ',⟨i',l⟩,s'⟩=>⟨_,l,δ',rfl,i',s'⟩,?_⟩;exact⟨G,δ1,P,_,s1,h1,λδ' h' σ' H' s'=>⟨δ',h',s'⟩,k2,k1,λδ' h' σ' H' s'=>⟨δ',h',s'⟩,λz=>z.elim⟩
theorem cu(hp:PassesOwn (model X.prog X.w) X.A X.env X.xe)(hc:X.calm=true)(hi:DE X e ta)(hg:DG X tg g)(hb:DSs X body t)(hs:∀x,foldedSetIterable e X.env x=pure x:=by intro _;rfl):DS X (.For tg e body [] pos) (rg ta g t) :=
 PS.imp (pP hp hc (rK hi) hg hb hs) λE σ H ⟨G,δ,P,R,s,h,k1,k2,k3,k4⟩=>up.mk s h λd δ1 h1 v H1 s1=>by
  replace h1:=qL.ex h1;obtain⟨xs,e,I,i0,turn,fin⟩:=h1;subst e;have hat:∀δ σ H,S X.K G δ ((.lst xs,v)::P) σ H->∃a vs,v=.ref a/\EY X.K H a vs/\vs.length=xs.length:=λδ σ H ⟨A,x⟩=>by
   have q:=x.pnd (.lst xs,v) (by simp)
   simp only[EH] at q;obtain⟨a,vs,e,_,l,r⟩:=q;exact⟨a,vs,e,EY.of l,(Reps.length _ _ r).symm⟩
  have hev:∃a vs,v=.ref a/\EY X.K H1 a vs/\vs.length=xs.length:=hat _ _ _ s1
  obtain⟨a,vs0,rfl,hsq,hl0⟩:=hev;refine⟨a,rfl,⟨vs0,hsq⟩,λi m σ H=>m=xs.length-i/\i<=xs.length/\∃δ,I i δ/\S X.K G δ ((.lst xs,.ref a)::P) σ H,⟨xs.length,by simp,GM _,δ1,i0,s1⟩,?_⟩;rintro i m σ H ⟨rfl,hi,δ',ii,s'⟩;obtain⟨A,x⟩:=id s';have q:=x.pnd (.lst xs,.ref a) (by simp);simp only[EH] at q;obtain⟨a',vs,e,_,l,r⟩:=q
  cases e
  have l:EY X.K H a vs:=EY.of l
  have hl:xs.length=vs.length:=Reps.length _ _ r
  by_cases hlt:i<xs.length
  ·obtain⟨v',e',r'⟩:=Reps.get _ _ r i xs[i] (by simp[hlt]);refine .inr ⟨⟨vs,v',l,e'⟩,λσ' H'=>∃δ',I (i+1) δ'/\S X.K G δ' ((.lst xs,.ref a)::P) σ' H',λσ' H' ⟨δ',p',s'⟩=>⟨xs.length-(i+1),by omega,rfl,hlt,δ',p',s'⟩,λy H' hy=>?_⟩;obtain⟨e,hy⟩:=hy;subst e;have:some y=some v':=(hy vs l).symm.trans e'
   cases this
   refine⟨G,δ',(.lst xs,.ref a)::P,xs[i],_,⟨A,x.push r'⟩,turn i xs[i] δ' (by simp[hlt]) ii,λδ2 h2 σ2 H2 s2=>?_⟩
   refine⟨G,δ2,(.lst xs,.ref a)::P,_,s2,h2,λδ3 h3 σ3 H3 s3=>⟨δ3,h3,s3⟩,⟨λd δ3 h3 v3 σ3 H3 s3=>k2.1 d δ3 h3 v3 σ3 H3 (s3.sub λp hp=>by
    rcases Fj.mp hp with rfl | hp
    ·simp
    ·simp[hp]),k2.2.1,exs k2.2.2⟩,λδ3 h3 σ3 H3 s3=>k1 δ3 h3 σ3 H3 (s3.sub λp hp=>by simp[hp]),λδ3 h3 σ3 H3 s3=>⟨δ3,h3,s3⟩,λz=>z.elim⟩
  ·have e:i=xs.length:=by omega
   subst e;exact .inl ⟨⟨vs,l,by omega⟩,k1 δ' (fin δ' ii) σ H (s'.sub λp hp=>by simp[hp])⟩
theorem jp(hp:PassesOwn (model X.prog X.w) X.A X.env X.xe)(hc:X.calm=true)(hi:DE X e ta)(hg:DG X tg g)(hb:DSs X body t)(hs:∀x,foldedSetIterable e X.env x=pure x:=by intro _;rfl):DS X (.For tg e body [] pos) (rc ta g t) :=
 PS.imp (pP hp hc (wS hi) hg hb hs) λE σ H ⟨G,δ,P,R,s,h,k1,k2,k3,k4⟩=>up.mk s h λd δ1 h1 v H1 s1=>by
  replace h1:=qT.ex h1;obtain⟨xs,e,I,i0,turn,fin⟩:=h1;subst e;have hat:∀δ σ H,S X.K G δ ((.tup xs,v)::P) σ H->∃a vs,v=.ref a/\E5 X.K H a vs/\vs.length=xs.length:=λδ σ H ⟨A,x⟩=>by
   have q:=x.pnd (.tup xs,v) (by simp)
   simp only[EH] at q;obtain⟨a,vs,e,l,r⟩:=q;exact⟨a,vs,e,l,(Reps.length _ _ r).symm⟩
  have hev:∃a vs,v=.ref a/\E5 X.K H1 a vs/\vs.length=xs.length:=hat _ _ _ s1
  obtain⟨a,vs0,rfl,hsq,hl0⟩:=hev;refine⟨a,rfl,⟨vs0,hsq⟩,λi m σ H=>m=xs.length-i/\i<=xs.length/\∃δ,I i δ/\S X.K G δ ((.tup xs,.ref a)::P) σ H,⟨xs.length,by simp,GM _,δ1,i0,s1⟩,?_⟩;rintro i m σ H ⟨rfl,hi,δ',ii,s'⟩;obtain⟨A,x⟩:=id s';have q:=x.pnd (.tup xs,.ref a) (by simp);simp only[EH] at q;obtain⟨a',vs,e,l,r⟩:=q
  cases e
  have hl:xs.length=vs.length:=Reps.length _ _ r
  by_cases hlt:i<xs.length
  ·obtain⟨v',e',r'⟩:=Reps.get _ _ r i xs[i] (by simp[hlt]);refine .inr ⟨⟨vs,v',l,e'⟩,λσ' H'=>∃δ',I (i+1) δ'/\S X.K G δ' ((.tup xs,.ref a)::P) σ' H',λσ' H' ⟨δ',p',s'⟩=>⟨xs.length-(i+1),by omega,rfl,hlt,δ',p',s'⟩,λy H' hy=>?_⟩;obtain⟨e,hy⟩:=hy;subst e;have:some y=some v':=(hy vs l).symm.trans e'
   cases this
   refine⟨G,δ',(.tup xs,.ref a)::P,xs[i],_,⟨A,x.push r'⟩,turn i xs[i] δ' (by simp[hlt]) ii,λδ2 h2 σ2 H2 s2=>?_⟩
   refine⟨G,δ2,(.tup xs,.ref a)::P,_,s2,h2,λδ3 h3 σ3 H3 s3=>⟨δ3,h3,s3⟩,⟨λd δ3 h3 v3 σ3 H3 s3=>k2.1 d δ3 h3 v3 σ3 H3 (s3.sub λp hp=>by
    rcases Fj.mp hp with rfl | hp
    ·simp
    ·simp[hp]),k2.2.1,exs k2.2.2⟩,λδ3 h3 σ3 H3 s3=>k1 δ3 h3 σ3 H3 (s3.sub λp hp=>by simp[hp]),λδ3 h3 σ3 H3 s3=>⟨δ3,h3,s3⟩,λz=>z.elim⟩
  ·have e:i=xs.length:=by omega
   subst e;exact .inl ⟨⟨vs,l,by omega⟩,k1 δ' (fin δ' ii) σ H (s'.sub λp hp=>by simp[hp])⟩
theorem ir{pos':Pos}(hp:PassesOwn (model X.prog X.w) X.A X.env X.xe)(hc:X.calm=true)(hgl:Gl X "range")(hm:X.mg "range"=none)(ha:DA X [a] tda)(hg:DG X tg g)(hb:DSs X body t)
  (hse:starEach [a] X.env=[(false,eval a X.env)]:=by rfl) (hs:∀x,foldedSetIterable (.Call (.Name "range" p) [a] [] pos') X.env x=pure x:=by intro _;rfl) :
  DS X (.For tg (.Call (.Name "range" p) [a] [] pos') body [] pos) (zW tda g t) :=
 PS.imp (pP hp hc (lO hgl hm ha hse) hg hb hs) λE σ H ⟨G,δ,P,R,s,h,k1,k2,k3,k4⟩=>⟨G,δ,P,_,s,h,λds δ1 h1 vs H1 hl s1=>by
  replace h1:=qC.ex h1;obtain⟨x,r,e,h1⟩:=h1;replace h1:=qN.ex h1;obtain⟨e',h1⟩:=h1;replace h1:=qI.ex h1;obtain⟨j,e2,h1,h2,I,i0,turn,fin⟩:=h1;subst e2 e' e
  match vs,hl with
  | [v],_ =>
   have q:v=.int j:=by
    obtain⟨A,x⟩:=s1;have q:=x.pnd (.int j,v) (by simp);simpa only[EH] using q
   subst q;have s2:S X.K G δ1 P σ H1:=s1.sub λp hp=>by simp[hp]
   refine⟨j,rfl,h1,h2,rM (lo:=0) (n:=j.toNat) (λi σ H=>∃δ,I i δ/\S X.K G δ P σ H) ⟨δ1,i0,s2⟩ (λi σ H hi ⟨δ',ii,s'⟩=>?_) λσ H ⟨δ',ii,s'⟩=>k1 δ' (fin δ' ii) σ H s'⟩;refine⟨G,δ',P,.int (0+i),_,s'.sc rfl,(by have q:=turn i δ' hi ii;rw[G3];exact q),λδ2 h2 σ2 H2 s2=>?_⟩
   exact⟨G,δ2,P,_,s2,h2,λδ3 h3 σ3 H3 s3=>⟨δ3,h3,s3⟩,k2,k1,λδ3 h3 σ3 H3 s3=>⟨δ3,h3,s3⟩,λz=>z.elim⟩⟩
end
end DL
namespace DL
open PySem PySem.Spec PyProof.Rows L2
variable {a:D} {vs:List V} {i:Int} {v:V} {g:Int→Int→D} {R:D→Prop} {C:Int→Int→Prop} {ds:List D}
section
variable {K:PySem.W.Frag} {M:Addr→Prop} {H:Hp}
theorem Cj{x:V}(h:Reps K M H [a] [x]):EH K M H a x:=by
 unfold Reps at h;obtain⟨v,r,e,q,_⟩:=h
 cases e
 exact q
theorem bZ{b:D}{x y:V}(h:Reps K M H [a,b] [x,y]):EH K M H a x/\EH K M H b y:=by
 unfold Reps at h;obtain⟨v,r,e,q,h⟩:=h
 cases e
 exact⟨q,Cj h⟩
theorem bm(h:Reps K M H [a] vs):∃x,vs=[x]/\EH K M H a x:=by
 unfold Reps at h;obtain⟨v,r,e,q,h⟩:=h;unfold Reps at h;subst h;exact⟨v,e,q⟩
theorem kz{b:D}(h:Reps K M H [a,b] vs):∃x y,vs=[x,y]/\EH K M H a x/\EH K M H b y:=by
 unfold Reps at h;obtain⟨v,r,e,q,h⟩:=h;obtain⟨y,e2,q2⟩:=bm h;subst e2;exact⟨v,y,e,q,q2⟩
theorem aT(h:EH K M H (.int i) v):v=.int i:=by unfold EH at h;exact h
theorem eP{i:Bool}(h:EH K M H (.bl i) v):v=.bl i:=by unfold EH at h;exact h
theorem bO{i:Str}(h:EH K M H (.str i) v):v=.str i:=by unfold EH at h;exact h
end
def fI0(g:Int->Int->D):List D->(D->Prop)->Prop
 | [.int i,.int j],R=>R (g i j)
 | _,_=>False
def fI(C:Int->Int->Prop)(g:Int->Int->D):List D->(D->Prop)->Prop
 | [.int i,.int j],R=>C i j/\R (g i j)
 | _,_=>False
def fU(g:Int->D):List D->(D->Prop)->Prop
 | [.int i],R=>R (g i)
 | _,_=>False
def Cc{a b:Int}:fI0 g [.int a,.int b] R=R (g a b):=rfl
def Ew{a b:Int}:fI C g [.int a,.int b] R=(C a b/\R (g a b)):=rfl
def C4{g:Int->D}{a:Int}:fU g [.int a] R=R (g a):=rfl
theorem BZ(h:fI0 g ds R):∃i j,ds=[.int i,.int j]/\R (g i j):=by
 unfold fI0 at h
 split at h
 ·exact⟨_,_,rfl,h⟩
 ·exact h.elim
theorem C2(h:fI C g ds R):∃i j,ds=[.int i,.int j]/\C i j/\R (g i j):=by
 unfold fI at h
 split at h
 ·exact⟨_,_,rfl,h⟩
 ·exact h.elim
theorem Co{g:Int->D}(h:fU g ds R):∃i,ds=[.int i]/\R (g i):=by
 unfold fU at h
 split at h
 ·exact⟨_,rfl,h⟩
 ·exact h.elim
def CFd(_ j:Int):Prop:=j≠0/\j.natAbs.log2<9000
def CNz(_ j:Int):Prop:=j≠0
section
variable {X:Cx}
def vn{f:Value->Value->Sem Value}{g':Int->Int->V}(h:EV X f (rI0 g'))(hs:∀i j,sc (g i j)=some (g' i j)):EV X f λx y=>aS X.K (fI0 g) [x,y] :=
 EV.imp h λx y H Q ⟨M,ds,R,m,rs,hf,k⟩=>by
  obtain⟨i,j,e,r⟩:=BZ hf;subst e;obtain⟨h1,h2⟩:=bZ rs;exact⟨i,j,aT h1,aT h2,k _ r _ H (ci.refl H) (EH.sc (hs i j))⟩
def opI{f:Value->Value->Sem Value}{C':Int->Int->Prop}{g':Int->Int->V}(h:EV X f (rI C' g'))(hs:∀i j,sc (g i j)=some (g' i j))(hc:∀i j,C i j->C' i j):EV X f λx y=>aS X.K (fI C g) [x,y] :=
 EV.imp h λx y H Q ⟨M,ds,R,m,rs,hf,k⟩=>by
  obtain⟨i,j,e,c,r⟩:=C2 hf;subst e;obtain⟨h1,h2⟩:=bZ rs;exact⟨i,j,aT h1,aT h2,hc i j c,k _ r _ H (ci.refl H) (EH.sc (hs i j))⟩
def Ee:EV X (binaryOp .Add) λx y=>aS X.K (fI0 λi j=>.int (i+j)) [x,y]:=vn AT λ_ _=>rfl
def ja:EV X (binaryOp .Sub) λx y=>aS X.K (fI0 λi j=>.int (i-j)) [x,y]:=vn BI λ_ _=>rfl
def xL:EV X (binaryOp .Mult) (rI IntMulOk λi j=>.int (i*j)):=L2.opI λ_ _ _ _ _ _ _ hc q=>mul_int q hc
def bT:EV X (binaryOp .Mult) λx y=>aS X.K (fI IntMulOk λi j=>.int (i*j)) [x,y]:=opI xL (λ_ _=>rfl) λ_ _ h=>h
def vG:EV X (binaryOp .FloorDiv) (rI CFd λi j=>.int (i.fdiv j)):=L2.opI λ_ _ _ _ _ _ _ hc q=>floordiv_int hc.1 q (.inl (PyProof.noPylong_of_log2 hc.2))
def cz:EV X (binaryOp .FloorDiv) λx y=>aS X.K (fI CFd λi j=>.int (i.fdiv j)) [x,y]:=opI vG (λ_ _=>rfl) λ_ _ h=>h
def cS:EV X (binaryOp .Mod) λx y=>aS X.K (fI CNz λi j=>.int (i.fmod j)) [x,y]:=opI Ap (λ_ _=>rfl) λ_ _ h=>h
def BH:EV X (binaryOp .Pow) λx y=>aS X.K (fI CPow λi j=>.int (i ^ j.toNat)) [x,y]:=opI Bc (λ_ _=>rfl) λ_ _ h=>h
def uR:EV X (compareOp .Lt) λx y=>aS X.K (fI0 λi j=>.bl (decide (i<j))) [x,y]:=vn C9 λ_ _=>rfl
def o_le:EV X (compareOp .LtE) λx y=>aS X.K (fI0 λi j=>.bl (decide (i<=j))) [x,y]:=vn Ec λ_ _=>rfl
def uH:EV X (compareOp .Gt) λx y=>aS X.K (fI0 λi j=>.bl (decide (j<i))) [x,y]:=vn C7 λ_ _=>rfl
def o_ge:EV X (compareOp .GtE) λx y=>aS X.K (fI0 λi j=>.bl (decide (j<=i))) [x,y]:=vn Dm λ_ _=>rfl
def ny:UnR X (unaryOp .USub) λx=>aS X.K (fU λi=>.int (-i)) [x] :=
 UnR.imp Cw λx H Q ⟨M,ds,R,m,rs,hf,k⟩=>by
  obtain⟨i,e,r⟩:=Co hf;subst e;exact⟨i,aT (Cj rs),k _ r _ H (ci.refl H) (EH.sc rfl)⟩
def Dn:bY X (.builtin "abs") (aS X.K (fU λi=>.int (if i<0 then -i else i))) :=
 bY.imp vz λxs H Q ⟨M,ds,R,m,rs,hf,k⟩=>by
  obtain⟨i,e,r⟩:=Co hf;subst e;obtain⟨x,e,q⟩:=bm rs;subst e;exact⟨i,by rw[aT q],k _ r _ H (ci.refl H) (EH.sc rfl)⟩
def AD:List D->(D->Prop)->Prop
 | [.lst xs],R=>R (.int xs.length)
 | [.fz xs],R=>R (.int xs.length)
 | [.tup xs],R=>R (.int xs.length)
 | _,_=>False
theorem yj:∀ {d0:List D} {R:D->Prop},AD d0 R->((∃(xs:List D),d0=[.lst xs]/\R (.int xs.length))\/(∃(xs:List D),d0=[.fz xs]/\R (.int xs.length))\/(∃(xs:List D),d0=[.tup xs]/\R (.int xs.length))):=by walk_at "or"
def ce:bY X (.builtin "len") (aS X.K AD) :=
 bY.imp gu λxs H Q ⟨M,ds,R,m,rs,h,k⟩=>by
  have fin:∀n:Nat,R (.int n)->Q (.int n) H:=λn r=>k _ r _ H (ci.refl H) (EH.sc rfl)
  replace h:=yj h
  rcases h with⟨_,rfl,h⟩ | ⟨_,rfl,h⟩ | ⟨_,rfl,h⟩
  ·obtain⟨x,e,q⟩:=bm rs;unfold EH at q;obtain⟨a,vs,e2,_,l,r⟩:=q;subst e e2;exact⟨a,vs,rfl,.inl (EY.of l),fin _ (by rw[<- Reps.length _ _ r];exact h)⟩
  ·obtain⟨x,e,q⟩:=bm rs;unfold EH at q;obtain⟨a,vs,e2,l,r⟩:=q;subst e e2;exact⟨a,vs,rfl,.inl l.seq,fin _ (by rw[<- Reps.length _ _ r];exact h)⟩
  ·obtain⟨x,e,q⟩:=bm rs;unfold EH at q;obtain⟨a,vs,e2,l,r⟩:=q;subst e e2;exact⟨a,vs,rfl,.inr l,fin _ (by rw[<- Reps.length _ _ r];exact h)⟩
def fInt:List D->(D->Prop)->Prop
 | [.int i],R=>R (.int i)
 | [.bl b],R=>R (.int (if b then 1 else 0))
 | _,_=>False
theorem zO:∀ {d0:List D} {R:D->Prop},fInt d0 R->((∃(i:Int),d0=[.int i]/\R (.int i))\/(∃(b:Bool),d0=[.bl b]/\R (.int (if b then 1 else 0)))):=by walk_at "or"
def BE:bY X (.type "int") (aS X.K fInt) :=
 bY.imp sj λxs H Q ⟨M,ds,R,m,rs,h,k⟩=>by
  replace h:=zO h
  rcases h with⟨_,rfl,h⟩ | ⟨_,rfl,h⟩
  ·obtain⟨x,e,q⟩:=bm rs;subst e;exact .inl ⟨_,by rw[aT q],k _ h _ H (ci.refl H) (EH.sc rfl)⟩
  ·obtain⟨x,e,q⟩:=bm rs;subst e;exact .inr ⟨_,by rw[eP q],k _ h _ H (ci.refl H) (EH.sc rfl)⟩
def Ez(xs:List D):Int->(D->Prop)->Prop
 | .ofNat n,k=>qV xs[n]? k
 | .negSucc n,k=>qV (EA xs (.negSucc n)) k
theorem uf{α:Type}{xs:List α}{n:Nat}:EA xs (.ofNat n)=xs[n]?:=by
 have h0:(0:Int)<=Int.ofNat n:=Int.natCast_nonneg n
 unfold EA ixN;rw[Fs h0]
 by_cases h:n<xs.length
 ·rw[Fs (show Int.ofNat n<(xs.length:Int) from Int.ofNat_lt.mpr h)];rfl
 ·rw[Fp (show ¬ Int.ofNat n<(xs.length:Int) from λz=>h (Int.ofNat_lt.mp z)),List.getElem?_eq_none (Nat.le_of_not_lt h)];rfl
theorem Ez.ex{xs:List D}{k:D->Prop}(h:Ez xs i k):∃v,EA xs i=some v/\k v:=by
 cases i with
 | ofNat n=>rw[uf];exact qV.ex h
 | negSucc n=>exact qV.ex h
theorem Ez.of{xs:List D}{k:D->Prop}{v:D}(e:EA xs i=some v)(h:k v):Ez xs i k:=by
 cases i with
 | ofNat n=>rw[uf] at e;exact qV.of e h
 | negSucc n=>exact qV.of e h
def fIx:List D->(D->Prop)->Prop
 | [.tup xs,.int i],R=>Ez xs i R
 | [.lst xs,.int i],R=>Ez xs i R
 | [.fz xs,.int i],R=>Ez xs i R
 | [.str z,.int i],R=>z.length<=9000/\∃c,EA z.cps.toList i=some c/\R (.str ⟨#[c]⟩)
 | _,_=>False
theorem Be{d0:List D}(h:fIx d0 R):(∃(xs:List D) (i:Int),d0=[.tup xs,.int i]/\∃v,EA xs i=some v/\R v)\/(∃(xs:List D) (i:Int),d0=[.lst xs,.int i]/\∃v,EA xs i=some v/\R v)\/(∃(xs:List D) (i:Int),d0=[.fz xs,.int i]/\∃v,EA xs i=some v/\R v)\/(∃(z:Str) (i:Int),d0=[.str z,.int i]/\z.length<=9000/\∃c,EA z.cps.toList i=some c/\R (.str ⟨#[c]⟩)):=by
 rcases d0 with _ | ⟨a,_ | ⟨b,_ | ⟨c,l⟩⟩⟩
 ·exact False.elim h
 ·cases a<;>exact False.elim h
 ·cases a<;>first | exact False.elim h | (cases b<;>first | exact False.elim h | exact .inl ⟨_,_,rfl,Ez.ex h⟩ | exact .inr (.inl ⟨_,_,rfl,Ez.ex h⟩) | exact .inr (.inr (.inl ⟨_,_,rfl,Ez.ex h⟩)) | exact .inr (.inr (.inr ⟨_,_,rfl,h⟩)))
 ·cases a<;>first | exact False.elim h | (cases b<;>exact False.elim h)
theorem yD{α β:Type}{xs:List α}{ys:List β}(h:xs.length=ys.length){v:α}(e:EA xs i=some v):∃j:Nat,xs[j]?=some v/\∀w,ys[j]?=some w->EA ys i=some w:=by
 unfold EA at e ⊢;rw[h] at e
 cases q:ixN ys.length i with
 | none=>rw[q] at e;cases e
 | some j=>rw[q] at e;exact⟨j,e,λw z=>z⟩
def bJ:IxR X λx y=>aS X.K fIx [x,y] :=
 IxR.imp Cz λx y H Q ⟨M,ds,R,m,rs,h,k⟩=>by
  have fin:∀(xs:List D) (vs:List V) (i:Int) (d:D),Reps X.K M H xs vs->EA xs i=some d->R d->∃v,EA vs i=some v/\Q v H:=λxs vs i d r e q=>by
   obtain⟨j,h1,h2⟩:=yD (Reps.length _ _ r) e;obtain⟨v,e',r'⟩:=Reps.get _ _ r j d h1;exact⟨v,h2 v e',k d q v H (ci.refl H) r'⟩
  replace h:=Be h
  rcases h with⟨_,_,rfl,h⟩ | ⟨_,_,rfl,h⟩ | ⟨_,_,rfl,h⟩ | ⟨_,_,rfl,h⟩
  ·obtain⟨d,e,q⟩:=h;obtain⟨h1,h2⟩:=bZ rs;unfold EH at h1;obtain⟨a,vs,e2,l,r⟩:=h1;obtain⟨v,e3,q3⟩:=fin _ _ _ _ r e q;exact .inr (.inl ⟨a,vs,_,v,e2,aT h2,l,e3,q3⟩)
  ·obtain⟨d,e,q⟩:=h;obtain⟨h1,h2⟩:=bZ rs;unfold EH at h1;obtain⟨a,vs,e2,_,l,r⟩:=h1;obtain⟨v,e3,q3⟩:=fin _ _ _ _ r e q;exact .inl ⟨a,vs,_,v,e2,aT h2,EY.of l,e3,q3⟩
  ·obtain⟨d,e,q⟩:=h;obtain⟨h1,h2⟩:=bZ rs;unfold EH at h1;obtain⟨a,vs,e2,l,r⟩:=h1;obtain⟨v,e3,q3⟩:=fin _ _ _ _ r e q;exact .inl ⟨a,vs,_,v,e2,aT h2,l.seq,e3,q3⟩
  ·obtain⟨hz,c,e,q⟩:=h;obtain⟨h1,h2⟩:=bZ rs;exact .inr (.inr ⟨_,_,c,bO h1,aT h2,fB hz,e,k _ q _ H (ci.refl H) (EH.sc rfl)⟩)
def fCat:List D->(D->Prop)->Prop
 | [.lst xs,.lst ys],R=>xs.length+ys.length<=9000/\R (.lst (xs++ys))
 | _,_=>False
theorem ye:∀ {d0:List D} {R:D->Prop},fCat d0 R->∃(xs:List D) (ys:List D),d0=[.lst xs,.lst ys]/\xs.length+ys.length<=9000/\R (.lst (xs++ys)):=by walk_at "or"
def DV:EV X (binaryOp .Add) λx y=>aS X.K fCat [x,y] :=
 EV.imp Bh λx y H Q ⟨M,ds,R,m,rs,h,k⟩=>by
  replace h:=ye h;obtain⟨_,_,rfl,h⟩:=h
  ·obtain⟨hz,q⟩:=h;obtain⟨h1,h2⟩:=bZ rs;unfold EH at h1 h2;obtain⟨a,vs,e,_,l,r⟩:=h1;obtain⟨b,ws,e',_,l',r'⟩:=h2;refine⟨a,b,vs,ws,e,e',l,l',fB (by rw[<- Reps.length _ _ r,<- Reps.length _ _ r'];exact hz),λp hp=>k _ q _ _ (aJ hp _) ?_⟩;unfold EH;exact⟨p,vs++ws,rfl,λz=>m p z hp,aI,Reps.kp (Kp.of_same (aJ hp _)) _ _ (Reps.append _ _ _ _ r r')⟩
def cut{α:Type}(xs:List α)(lo hi:Option Int):List α:=(xs.drop (HT.sIx xs.length 0 lo)).take (HT.sIx xs.length xs.length hi-HT.sIx xs.length 0 lo)
abbrev TDO:=En->(Option Int->En->Prop)->Prop
inductive UpO(K:PySem.W.Frag)(t:TDO)(σ:L2.St)(H:Hp)(Q:Option Int->Hp->Prop):Prop
 | mk (G:Gf) (δ:En) (P:List (D×V)) (R:Option Int->En->Prop) (s:S K G δ P σ H) (h:t δ R) (k:∀o δ',R o δ'->∀H',S K G δ' P σ H'->Q o H')
def upO(K:PySem.W.Frag)(t:TDO):TO:=UpO K t
def DO(X:Cx)(e:Option Expr)(t:TDO):Prop:=PO X e (upO X.K t)
def uy(δ:En)(R:Option Int->En->Prop):Prop:=R none δ
def AX(t:E1)(δ:En)(R:Option Int->En->Prop):Prop:=t δ (wd λx δ1=>qI x λi=>R (some i) δ1)
def PO.imp{e:Option Expr}{t t':TO}(h:PO X e t)(i:∀σ H Q,t' σ H Q->t σ H Q):PO X e t':=λpins s σ H Q I q=>h pins s σ H Q I (i σ H Q q)
def dB:DO X none uy:=PO.imp zk λσ H Q ⟨G,δ,P,R,s,h,k⟩=>k none δ h H s
def cK{e:Expr}{te:E1}(h:DE X e te):DO X (some e) (AX te):=PO.imp (y8 h) λσ H Q ⟨G,δ,P,R,s,h,k⟩=>up.mk s h λx δ1 h1 v H1 s1=>by
 replace h1:=qI.ex h1;obtain⟨i,e,r⟩:=h1;subst e;obtain⟨A,q⟩:=id s1;exact⟨i,aT (q.pnd (.int i,v) (by simp)),k _ δ1 r H1 (s1.sub λp hp=>by simp[hp])⟩
def fSl:D->Option Int->Option Int->(D->Prop)->Prop
 | .lst xs,lo,hi,R=>R (.lst (cut xs lo hi))
 | .fz xs,lo,hi,R=>R (.lst (cut xs lo hi))
 | .tup xs,lo,hi,R=>¬ (HT.sIx xs.length 0 lo=0/\HT.sIx xs.length xs.length hi=xs.length)/\R (.tup (cut xs lo hi))
 | _,_,_,_=>False
def dSl(te:E1)(tl th:TDO)(δ:En)(R:W->En->Prop):Prop:=te δ (wd λx δ1=>tl δ1 λl δ2=>th δ2 λu δ3=>fSl x l u λd=>R (.d d) δ3)
theorem Reps.cut{K:PySem.W.Frag}{M:Addr->Prop}{H:Hp}(lo hi:Option Int)(r:Reps K M H ds vs):Reps K M H (DL.cut ds lo hi) (rC vs lo hi):=by
 unfold DL.cut rC;rw[Reps.length _ _ r];exact Reps.take _ _ _ (Reps.drop _ _ _ r)
def sr{e:Expr}{te:E1}{lo hi:Option Expr}{tl th:TDO}{p2 pos:Pos}(he:DE X e te)(hl:DO X lo tl)(hu:DO X hi th):DE X (.Subscript e (.Slice lo hi none p2) pos) (dSl te tl th) :=
 PE.imp (qf (zN.or xD) he hl hu) λσ H Q ⟨G,δ,P,R,s,h,k,_⟩=>up.mk s h λx δ1 h1 v H1 s1=>⟨G,δ1,(x,v)::P,_,s1,h1,λl δ2 h2 H2 s2=>⟨G,δ2,(x,v)::P,_,s2,h2,λu δ3 h3 H3 s3=>by
  obtain⟨A,q⟩:=id s3;have r:=q.pnd (x,v) (by simp)
  cases x with
  | lst xs =>
   have h3:R (.d (.lst (cut xs l u))) δ3:=h3
   simp only[EH] at r;obtain⟨a,vs,e,_,sq,r⟩:=r;refine .inl ⟨a,vs,e,EY.of sq,λp hp=>?_⟩;have x2:=(q.same (aJ hp (.lst (rC vs l u))));refine k _ δ3 h3 (.ref p) _ ⟨A,(x2.sub (P':=P) λp hp=>E9 _ hp).push ?_⟩;unfold EH;exact⟨p,_,rfl,λz=>q.mem p z hp,aI,Reps.kp (Kp.of_same (aJ hp _)) _ _ (Reps.cut l u r)⟩
  | fz xs =>
   have h3:R (.d (.lst (cut xs l u))) δ3:=h3
   simp only[EH] at r;obtain⟨a,vs,e,sq,r⟩:=r;refine .inl ⟨a,vs,e,sq.seq,λp hp=>?_⟩;have x2:=(q.same (aJ hp (.lst (rC vs l u))));refine k _ δ3 h3 (.ref p) _ ⟨A,(x2.sub (P':=P) λp hp=>E9 _ hp).push ?_⟩;unfold EH;exact⟨p,_,rfl,λz=>q.mem p z hp,aI,Reps.kp (Kp.of_same (aJ hp _)) _ _ (Reps.cut l u r)⟩
  | tup xs =>
   have h3:¬ (HT.sIx xs.length 0 l=0/\HT.sIx xs.length xs.length u=xs.length)/\R (.d (.tup (cut xs l u))) δ3:=h3
   simp only[EH] at r;obtain⟨a,vs,e,sq,r⟩:=r;obtain⟨nf,h3⟩:=h3;refine .inr ⟨a,vs,e,sq,by rw[<- Reps.length _ _ r];exact nf,λp hp=>?_⟩;have x2:=(q.same (aJ hp (.tup (rC vs l u))));refine k _ δ3 h3 (.ref p) _ ⟨A,(x2.sub (P':=P) λp hp=>E9 _ hp).push ?_⟩;unfold EH;exact⟨p,_,rfl,E5.of aI,Reps.kp (Kp.of_same (aJ hp _)) _ _ (Reps.cut l u r)⟩
  | _=>exact(show False from h3).elim⟩⟩
end
end DL
namespace DL
open PySem PySem.Spec PyProof.Rows L2
variable {f:List D→(D→Prop)→Prop} {k:Nat} {x:Str} {ps:List Str}
def gD(N:List Str)(ds:List D):En:=ds.map Sl.dat++List.replicate (N.length-ds.length) Sl.no
theorem rY{K:PySem.W.Frag}{vs:List V}{H:Hp}{Q:VK}{n:Nat}(h:aS K f vs H Q)(len:∀ds R,f ds R->ds.length=n):vs.length=n:=by
 obtain⟨M,ds,R,m,rs,hf,k⟩:=h;rw[<- Reps.length _ _ rs];exact len ds R hf
theorem yW{K:PySem.W.Frag}{M:Addr->Prop}{ds:List D}{vs:List V}{H:Hp}(N:List Str)(m:∀b,M b->H b≠none)(rs:Reps K M H ds vs):S K ⟨M,H,λ_=>False⟩ (gD N ds) [] (L2.start N vs) H:=by
 have hl:=Reps.length _ _ rs
 refine⟨λ_=>False,λb o e _=>e,λb e=>e,m,λb h=>h.elim,λb h=>h.elim,λb h=>h.elim,?_,λi d e=>?_,λi a d e=>?_,λi j a d e h1 h2=>?_,λp hp=>(nomatch hp)⟩
 ·unfold gD L2.start;rw[Fi,Fi,E7,E7,FD,FD,hl]
 ·unfold gD at e;unfold L2.start
  by_cases hi:i<ds.length
  ·rw[List.getElem?_append_left (by rw[E7];exact hi),List.getElem?_map] at e
   cases hd:ds[i]? with
   | none=>rw[hd] at e;cases e
   | some d' =>
    rw[hd] at e
    cases e
    obtain⟨v,ev,rv⟩:=Reps.get _ _ rs i d hd;refine⟨v,?_,EH.more (λb z=>.inl (z.elim id λq=>q.elim)) _ _ rv⟩;rw[List.getElem?_append_left (by rw[E7];omega),List.getElem?_map,ev];rfl
  ·rw[List.getElem?_append_right (by rw[E7];omega),List.getElem?_replicate] at e
   split at e<;>cases e
 all_goals
  unfold gD at *;exfalso
 ·by_cases hi:i<ds.length
  ·rw[List.getElem?_append_left (by rw[E7];exact hi),List.getElem?_map] at e
   cases hd:ds[i]? with
   | none=>rw[hd] at e;cases e
   | some d'=>rw[hd] at e;cases e
  ·rw[List.getElem?_append_right (by rw[E7];omega),List.getElem?_replicate] at e
   split at e<;>cases e
 ·by_cases hi:i<ds.length
  ·rw[List.getElem?_append_left (by rw[E7];exact hi),List.getElem?_map] at h1
   cases hd:ds[i]? with
   | none=>rw[hd] at h1;cases h1
   | some d'=>rw[hd] at h1;cases h1
  ·rw[List.getElem?_append_right (by rw[E7];omega),List.getElem?_replicate] at h1
   split at h1<;>cases h1
structure Fd(K:PySem.W.Frag)(mg:Str->Option Value)(x:Str)(st:Stmt)(ps:List Str):Prop where
 ex:∃(a:Addr) (fd:FuncData),Fun K x x st a fd/\mj K fd ps []/\mg x=some (.ref a)
structure Cal(P:Program)(w:World)(K:PySem.W.Frag)(mg:Str->Option Value)(base:Heap)(k:Nat)(x:Str)(ps:List Str)(sp:Sp):Prop where
 ex:∃(a:Addr) (fd:FuncData),kX P w K mg base CX0 k a fd ps sp/\mj K fd ps []/\PySem.W.keepIn K (.ref a)=true/\mg x=some (.ref a)
section
variable {P:Program} {w:World} {K:PySem.W.Frag} {mg:Str→Option Value} {base:Heap}
theorem Cal.mono{j:Nat}{sp:Sp}(C:Cal P w K mg base j x ps sp)(h:j<=k):Cal P w K mg base k x ps sp:=by
 obtain⟨a,fd,F,b,kp,m⟩:=C.ex;exact⟨a,fd,F.mono h,b,kp,m⟩
theorem Bj{st:Stmt}{N:List Str}{a:Addr}{fd:FuncData}(Fu:Fun K x x st a fd)(Sc:aA N ps (ap st))(len:∀ds R,f ds R->ds.length=ps.length)
    (hbody:∀(cdv:Value) (A:Around) (outer:List Env) (s:Shared) (H:Hp) (E:XK) (ds:List D) (R:D->Prop),fS k (A.deeper (envOfC x (ap st) s.heap.objs.size a cdv))->f ds R ->
      ∃t,DSs (uG CX0 P w K mg base N x (ap st) a cdv A outer s H E).nox (bN st) t/\t { nx:=λ_=>R .non,rt:=λd _=>R d,ro:=R } (gD N ds)) :
    kX P w K mg base CX0 (k+1) a fd ps (E2 K f):=by
  refine Fu.ok Sc (λvs H Q E h=>rY h len) (λcdv A outer s H vs Q E hr h=>?_);obtain⟨M,ds,R,hm,rs,hf,hk⟩:=h;obtain⟨t,ht,hq⟩:=hbody cdv A outer s H E ds R hr hf;refine⟨_,ht,⟨M,H,λ_=>False⟩,gD N ds,[],_,yW N hm rs,hq,λδ' r σ' H' ⟨A',x⟩=>?_,⟨λd δ' r v σ' H' ⟨A',x⟩=>?_,λd r a H' ⟨o1,o2,o3,o4⟩=>hk d r (.ref a) H' (λb o e=>o1 b o e id) (o4.rep o3 λb z=>.inl z),λ_ _ _ z=>z.elim⟩,λ_ h=>h.elim,λ_ h=>h.elim,λz=>z.elim⟩
  · exact hk .non r .non H' (λb o e=>x.old b o e id) (by unfold EH;rfl)
  · exact hk d r v H' (λb o e=>x.old b o e id) (EH.more (λb z=>.inl (.inl z)) _ _ (x.pnd (d,v) (by simp)))
theorem cF{st:Stmt}{N:List Str}(F:Fd K mg x st ps)(Sc:aA N ps (ap st))(len:∀ds R,f ds R->ds.length=ps.length)
    (hbody:∀(a:Addr) (cdv:Value) (A:Around) (outer:List Env) (s:Shared) (H:Hp) (E:XK) (ds:List D) (R:D->Prop),fS k (A.deeper (envOfC x (ap st) s.heap.objs.size a cdv))->f ds R ->
      ∃t,DSs (uG CX0 P w K mg base N x (ap st) a cdv A outer s H E).nox (bN st) t/\t { nx:=λ_=>R .non,rt:=λd _=>R d,ro:=R } (gD N ds)) :
    Cal P w K mg base (k+1) x ps (E2 K f):=by
  obtain⟨a,fd,Fu,b,m⟩:=F.ex;exact⟨a,fd,Bj Fu Sc len (hbody a),b,Fu.kp,m⟩
theorem ar{X:Cx}{a:Expr}{es:List Expr}{t:TDA}{p pos:Pos}(C:Cal X.prog X.w X.K X.mg X.base k x ps (E2 X.K f))(hr:fS k X.A)(hg:Gl X x)(ha:DA X (a::es) t)
  (hdb:(x==("__debug__":Str))=false:=by decide) (he:starEach (a::es) X.env=(false,eval a X.env)::starEach es X.env:=by rfl) (hpl:(backTo pos (starEach es X.env)).any (·.1)=false:=by rfl) :
  DE X (.Call (.Name x p) (a::es) [] pos) (qr f t):=by
 obtain⟨g,fd,F,b,kp,m⟩:=C.ex;exact An F hr hg m kp b ha hdb he hpl
def yC(K:PySem.W.Frag):Sp:=λvs H Q _=>∃(a:Addr) (ns:List Int),vs=[.ref a]/\EY K H a (ns.map V.int)/\Only H/\ns.length<=63/\(∀n∈ns,Builtin.Int.intBits n<=1048576)/\∀H',Q (.bl true) H'
def fLaw:List D->(D->Prop)->Prop:=λds R=>∃ns:List Int,ds=[.fz (ns.map D.int)]/\ns.length<=63/\(∀n∈ns,Builtin.Int.intBits n<=1048576)/\R (.bl true)
def Bb{a:Addr}{fd:FuncData}(F:kX P w K mg base CX0 k a fd ps (E2 K fLaw)):kX P w K mg base CX0 k a fd ps (yC K) :=
 F.imp λvs H Q E ⟨l,ns,e,sq,on,h63,hb,q⟩=>by
  subst e;refine⟨λ_=>False,[.fz (ns.map D.int)],λd=>d=.bl true,λ_ h=>h.elim,Reps.one ?_,⟨ns,rfl,h63,hb,rfl⟩,λd e v H' _ r=>?_⟩
  ·unfold EH;refine⟨l,ns.map V.int,rfl,?_,Reps.ints ns⟩
   rcases sq with(h | ⟨o,h⟩) | h
   ·rcases on l with z | ⟨o,xs,z⟩
    ·rw[z] at h;cases h
    ·rw[z] at h;cases h
   ·exact .inl ⟨o,h⟩
   ·exact .inr (.inr h)
  ·subst e;rw[eP r];exact q H'
end
end DL
namespace DLH
open PySem PySem.W PySem.Calls PyProof.Rows
def iF{ns:List Int}(h:WData.layableAll [.list (ns.map .int)]=true):∀n∈ns,Builtin.Int.intBits n<=1048576:=λn hn=>by
 have h1:=layableW_arg h _ (Fn.mpr rfl)
 have h2:=layableW_item h1 (.int n) (E8.mpr ⟨n,hn,rfl⟩)
 have h3:=(layableW_iff.mp h2).2.2
 simpa only[WData.weight,Builtin.Int.intBits] using h3
theorem attach_callB{l:OpenLaw}{n:Nat}{q:Program}{loose:List Str}{XP:(Str->Option Value)->Heap->Prop}{YP:World->Heap->Prop}{d:DefRec}
    (hn:l.most=some n) (hdf:d.params.defaults=[])
    (call:∀(w:World) (s₀ s₁:Shared) (mg mb:Str->Option Value) (fa:Addr) (o:Obj) (pm cd doc:Value) (a:Addr) (vs:List Value) (ns:List Int),
      Ground q loose [] XP w s₀ mg mb s₁.heap->YP w s₁.heap ->
      s₁.heap.get? fa=some o->o.data=.func (docDef d.name d.params d.body d.scope pm cd doc)->s₁.heap.CodeRec cd d.name->mg d.name=some (.ref fa) ->
      s₁.heap.get? a=some { cls:=.type "list",data:=.seq vs.toArray }->IntsAre vs ns->ns.length<=n->(∀i∈ns,Builtin.Int.intBits i<=1048576)->s₁.gens=#[] ->
      codeAny (model l.prog w) callerA (.call (.ref fa) ⟨[.ref a],[]⟩) (λr s'=>r=.ok (.ret (.bool true))/\OldK s₁.heap s'.heap/\s'.os=s₁.os/\AllBare s'.gens) s₁) :
    WalkO q loose XP YP l.row.toRowW d [] (λf vs=>PySem.call f vs):=by
  intro w s₀ s₁ mg mb G Y fa o pm cd doc dV kV ho hd hcd hD hmg hg args vals as hpre hlay hrd hwl hlo;obtain rfl:dV=.none:=Dflts.none hD hdf;obtain rfl:kV=.none:=Dflts.noKw hD;obtain⟨a,vs,ns,rfl,rfl,hobj,hints,hlen⟩:=Att.script_of hn hpre hwl;refine enter_call (codeAny_mono (call w s₀ s₁ mg mb fa o pm cd doc a vs ns G Y ho (fd_plain hd) hcd hmg hobj hints hlen (iF hlay) hg) λr s' hq=>?_);obtain⟨rfl,h2,h3,h4⟩:=hq;exact⟨.inl ⟨.bool true,.bool true,[],rfl,λ_=>rfl,.bool true,Att.post_true l _,λ_=>⟨List.Pairwise.nil,λ_ hm=>(nomatch hm)⟩⟩,h2,h3,h4⟩
end DLH
namespace DL
open PySem PySem.Spec PyProof.Rows L2
theorem walkB{l:PySem.W.OpenLaw}{k:Nat}{q:Program}{loose:List Str}{XP:(Str->Option Value)->Heap->Prop}{YP:World->Heap->Prop}{d:DefRec}{K:Params->PySem.W.Frag}{x:Str}
    (hn:l.most=some 63) (hdf:d.params.defaults=[]) (hr:fS k PySem.callerA) (hY:∀(w:World) (h:Heap),YP w h->(K w.params).In h)
    (F:∀(w:World) (mg:Str->Option Value) (fa:Addr) (h:Heap),(K w.params).In h->h.Ns mainGlobals mg->mg d.name=some (.ref fa) ->
      ∃fd:FuncData,(∀(s:Shared) (u:Value),BindsTo s fd ⟨[u],[]⟩ [(x,u)])/\∀base:Heap,(K w.params).In base->base.Ns mainGlobals mg->kX l.prog w (K w.params) mg base CX0 k fa fd [x] (yC (K w.params))) :
    PySem.W.WalkO q loose XP YP l.row.toRowW d [] (λf vs=>PySem.call f vs):=by
  refine DLH.attach_callB hn hdf λw s₀ s₁ mg mb fa o pm cd doc a vs ns G Y ho hd hcd hmg hobj hints hlen hbits hg=>?_;have KX:=hY w _ Y;obtain⟨fd,hb,hF⟩:=F w mg fa _ KX G.T.g hmg;exact vO KX G.T.g G.T.b G.T.builtins G.T.nolimit hg hobj hints (Fa hlen (by decide)) hr hF hb (λH hO hS=>⟨a,ns,rfl,hS,hO,hlen,hbits,λ_=>rfl⟩) λH e s' z=>z
end DL
namespace DL
open PySem PySem.Spec PyProof.Rows L2
variable {X:Cx} {elt iter:Expr} {ifs:List Expr} {scope:Scope} {pos:Pos} {cl:List (Str×Addr)} {wi:TI} {g:TG} {tc:TT} {te:TE}
def rH(ifs:List Expr)(env:Env):Sem Bool:=forIn ifs true λc r=>if r=true then do let ok<-isTrue c env (eval c env);pure (ForInStep.yield ok) else pure (ForInStep.yield r)
def PF(X:Cx)(ifs:List Expr)(t:TT):Prop :=
 ∀(pins:List (Addr×Obj)) (s:Shared) (σ:L2.St) (H:Hp) (Q:Bool->Hp->Prop),Inv X pins σ H s->t σ H Q->wpAny (model X.prog X.w) X.A (rH ifs X.env) (TP X pins σ Q) X.xe s
def Ck:PF X [] (λ_ H Q=>Q true H):=λ_ _ _ H _ I h=>wpAny_tests_nil ⟨H,I,h⟩
def B7{c:Expr}{t:TT}(h:PT X c t):PF X [c] t:=λpins s σ H Q I q=>wpAny_tests_one (h pins s σ H Q I q)
theorem eE{prog:Program}{w:World}{A:Around}{R:Result->Shared->Prop}{s:Shared}{target:Expr}{it acc:Value}{env:Env}(I:Nat->Shared->Prop)
    (turn:∀n s,I n s->wpAny (model prog w) A (pyNext it) (λr s₁=>match r with
      | none=>R (.ok .next) s₁
      | some v=>wpAny (model prog w) A (letOwnedTupleGo target it v) (λ_ s₁'=>wpAny (model prog w) A (assign target env v) (λ_ s₂ =>
          wpAny (model prog w) A (rH ifs env) (λok s₃ =>
            if ok=true then wpAny (model prog w) A (eval elt env) (λx s₄ =>
              wpAny (model prog w) A (call (.builtin "list.append") [acc,x]) (λ_ s₅=>∃m,m<n/\I m s₅) (λ_ _=>False) s₄) (λ_ _=>False) s₃
            else ∃m,m<n/\I m s₃) (λ_ _=>False) s₂) (λ_ _=>False) s₁') (λ_ _=>False) s₁) (λ_ _=>False) s)
    (n:Nat) (h:I n s) :
    codeAny (model prog w) A (.compLoop (.ListComp elt [⟨target,iter,ifs,0⟩] scope pos) 0 it acc env) R s:=by
  refine codeAny_loop rfl I (λn s hI=>?_) n h;show wpAny _ A ((compTurn (.ListComp elt [⟨target,iter,ifs,0⟩] scope pos) 0 it acc env).onRaise (λx=>do noteFrame x env;theTreesLotGoes x)) _ _ s;refine wpAny_noted ?_;rw[compTurn_list];refine Fc (wpAny_standAt (Fc (Gp (turn n s hI) (λr s₁ h₁=>?_) λ_ _ h'=>h'.elim)))
  cases r with
  | none=>exact Ft h₁
  | some v =>
    refine Fc (Gp h₁ (λ_ s₁' h₁'=>?_) λ_ _ h'=>h'.elim);refine Fc (Gp h₁' (λ_ s₂ h₂=>Fc (Gp h₂ (λok s₃ h₃=>?_) λ_ _ h'=>h'.elim)) λ_ _ h'=>h'.elim)
    cases ok with
    | false=>exact Ft ⟨rfl,h₃⟩
    | true =>
      exact Fc (Fc (Gp h₃ (λx s₄ h₄=>Fc (Gp h₄ (λ_ s₅ h₅=>Ft (Ft ⟨rfl,h₅⟩)) λ_ _ h'=>h'.elim)) λ_ _ h'=>h'.elim))
theorem ls:∀ {names:List (Str×NameKind)} {n:Nat} {acc:List (Str×Addr)},cellsFrom n names acc=cellsFrom n names []++acc
 | [],_,_=>rfl
 | (x,k)::r,n,acc=>by
  unfold cellsFrom
  by_cases h:(k==NameKind.cell)=true
  ·rw[Fs h,Fs h,ls (names:=r) (acc:=(x,n)::acc),ls (names:=r) (acc:=[(x,n)]),Hs];rfl
  ·rw[Fp h,Fp h];exact ls
theorem nV{x:Str}{c:Addr}:∀ {names:List (Str×NameKind)} {n:Nat} {acc:List (Str×Addr)},(x,c)∈cellsFrom n names acc->(x,c)∈acc\/(x,NameKind.cell)∈names
 | [],_,_,h=>.inl h
 | (y,k)::r,n,acc,h=>by
  unfold cellsFrom at h
  by_cases hk:(k==NameKind.cell)=true
  ·rw[Fs hk] at h
   rcases nV h with z | z
   ·rcases Fj.mp z with e | e
    ·cases e;rw[eq_of_beq hk];exact .inr (Fe ..)
    ·exact .inl e
   ·exact .inr (E9 _ z)
  ·rw[Fp hk] at h;exact(nV h).imp id (E9 _)
theorem uM{M:Model}{A:Around}{E:Value->Shared->Prop}{s:Shared}{globals:Addr}{qual:Str}{func:Option Addr}{code:Value}{outer:Env}{bs:Addr}{Q:Env->Shared->Prop}
    (q:∀h',h'.Ns s.heap.objs.size (λ_=>none)->(∀b o,s.heap.get? b=some o->h'.get? b=some o)->(∀x c,(x,c)∈cellsFrom (s.heap.objs.size+1) scope.names []->h'.IsCell c none/\s.heap.objs.size+1<=c)->((cellsFrom (s.heap.objs.size+1) scope.names []).Pairwise λx y=>x.2≠y.2) ->
      Q (newEnv scope s.heap.objs.size globals (cellsFrom (s.heap.objs.size+1) scope.names []++cl) qual func code (some outer) bs) { s with heap:=h' }):wpAny M A (newFunctionEnv scope globals cl [] qual func code (some outer) bs) Q E s:=by
  unfold newFunctionEnv;refine Fc (wpAny_alloc (Fc (wpAny_layCells _ (λname kind cells=>by cases hkc:kind==NameKind.cell<;>simp[hkc]) _ _ _ _ ?_)))
  have ok:=cellsFrom_ok scope.names (s.heap.push { cls:=.type "dict",data:=.dict #[] }) (s.heap.objs.size+1) [] ⟨λ_ _ hm=>(nomatch hm),List.Pairwise.nil⟩ (by rw[Gv];exact Fh _)
  rw[Gv] at ok;rw[show ({ s with heap:=s.heap.push { cls:=.type (if (some outer).isSome=true then "dict" else "frame"),data:=.dict #[] } }:Shared).heap.objs.size=s.heap.objs.size+1 from Gv ..,ls];exact Fc (Ft (Ft (q _ ((Heap.Ns.new s.heap (.type "dict")).keeps (pushCells_keeps _ _)) (λb o e=>pushCells_keeps _ _ b o (Heap.get?_push_of_some _ e)) (λx c h=>ok.empty x c h) ok.apart)))
def cT(X:Cx)(N':List Str)(scope:Scope)(cl:List (Str×Addr))(s2:Shared)(H2:Hp)(C:Addr)(fp:List Addr)(pn:List (Addr×Obj)):Cx where
 prog:=X.prog
 w:=X.w
 K:=X.K
 mg:=X.mg
 base:=X.base
 A:=X.A
 N:=N'
 s₀:=s2
 H₀:=H2
 env:=compEnvC scope (cellsFrom (C+1) scope.names []++cl) C X.env
 outer:=X.stack
 stack:=X.stack
 ex:=fp
 fn:=λx=>scope.names.lookup x==some .cell
 calm:=X.calm
 pn:=pn
 xe:=λ_ _=>False
def uJ(nt:Nat)(caps:List (Nat×Str))(σ:L2.St):L2.St:=List.replicate nt none++caps.map λp=>(σ[p.1]?).join
def Ar(wi:TI)(nt:Nat)(caps:List (Nat×Str))(g:TG)(tc:TT)(te:TE):TE:=λσ H Q=>wi σ H λJ H1=>∀p,H1 p=none ->
 ∃W:Nat->Nat->List V->L2.St->Hp->Prop,(∃m,W 0 m [] (uJ nt caps σ) (EE H1 p (.lst [])))/\∀i m xs σ' H',W i m xs σ' H'->(J.stop i H'/\Q (.ref p) H')\/(J.go i H'/\∀x H2,J.yld i H' x H2 ->
  g x σ' H2 λσ2 H3=>tc σ2 H3 λb H4=>if b=true then te σ2 H4 λy H5=>H5 p=some (.lst xs)/\xs.length<sizeLine/\∃m',m'<m/\W (i+1) m' (xs++[y]) σ2 (EE H5 p (.lst (xs++[y]))) else ∃m',m'<m/\W (i+1) m' xs σ2 H4)
theorem oX{tgt:Expr}(tn:List Str)(caps:List (Nat×Str))
    (hcalm:X.calm=true) (hclos:closureFor scope X.env=pure cl) (hcell:∀p∈caps,(p.2,NameKind.cell)∉scope.names) (hkind:scope.kind=.function) (hnames:∀y∈scope.names,y.2=.local->scope.names.lookup y.1=some .local)
    (hcl:∀x c,cl.lookup x=some c->X.env.cells.lookup x=some c) (hhas:∀(n:Nat) x,((relabel scope X.env).names.lookup x=some .cell\/(relabel scope X.env).names.lookup x=some .free)->∃c,(cellsFrom n scope.names []++cl).lookup x=some c)
    (hcap:∀p∈caps,X.N[p.1]?=some p.2/\X.env.scope.names.lookup p.2=some .cell/\((relabel scope X.env).names.lookup p.2=some .cell\/(relabel scope X.env).names.lookup p.2=some .free))
    (hi:PI X.nox tgt iter wi)
    (hb:∀s2 H2 C fp pn,PG (cT X (tn++caps.map (·.2)) scope cl s2 H2 C fp pn) tgt g/\PF (cT X (tn++caps.map (·.2)) scope cl s2 H2 C fp pn) ifs tc/\PE (cT X (tn++caps.map (·.2)) scope cl s2 H2 C fp pn) elt te)
    (hs:∀x,foldedSetIterable iter X.env x=pure x:=by intro _;rfl)
    {posF:Pos} {use:Option (Value->Sem Unit)} {Qf:Value->Shared->Prop} (pins:List (Addr×Obj)) (s:Shared) (σ:L2.St) (H:Hp) (Q:VK) (I:Inv X.nox pins σ H s) (h:Ar wi tn.length caps g tc te σ H Q)
    (fin:∀p C m4 H3 s4,Inv X.nox pins σ H3 s4->s4.heap.Ns C m4->vg X.nox pins H3 C->Q (.ref p) H3->compPost (model X.prog X.w) X.A (λ_ _=>False) use Qf (.ref p) C (.ok .next) s4) :
    wpAny (model X.prog X.w) X.A (comprehension (.ListComp elt [⟨tgt,iter,ifs,0⟩] scope pos) scope X.env posF (newList []) false (eval iter X.env) use) Qf (λ_ _=>False) s:=by
  refine wpAny_comprehension_free (use:=use) rfl hs hclos hkind hnames (Gp (hi pins s σ H _ I h) (λx s₁ h₁=>Gp h₁ (λitv s₂ h₂=>?_) λ_ _ e=>e) λ_ _ e=>e);obtain⟨it,fp,tnr,J,H1,rfl,I1,T,st,hfp,q⟩:=h₂;refine Gz (uM λh₁ hns₁ hkp hcs hap=>?_)
  dsimp only at hns₁ hkp hcs hap ⊢
  generalize hH2:s₂.heap.push { cls:=.type "list",dict:=none,data:=.seq ([]:List Value).toArray }=Hq at hns₁ hkp hcs hap ⊢
  have hC:Hq.objs.size=s₂.heap.objs.size+1:=by rw[<- hH2,Gv]
  generalize hCe:Hq.objs.size=C at hns₁ hcs hap hC ⊢
  generalize hpe:s₂.heap.objs.size=p at hC ⊢
  obtain⟨m1,hns₁⟩:∃m,h₁.Ns C m:=⟨_,hns₁⟩;have hpC:p≠C:=FV (by rw[hC];exact Nat.lt_succ_self _);have hbs:∀b,b<s₂.heap.objs.size->b≠C/\b≠p:=λb hb=>⟨FV (by rw[hC,<- hpe];exact Ht hb),FV (by rw[<- hpe];exact hb)⟩;have hple:s₂.heap.objs.size<=p:=Nat.le_of_eq hpe;have hCle:s₂.heap.objs.size<=C:=by rw[hC,<- hpe];exact Nat.le_succ _
  have old:∀b o,s₂.heap.get? b=some o->h₁.get? b=some o:=λb o e=>hkp b o (hH2 ▸ Heap.get?_push_of_some _ e)
  have hacc:h₁.get? p=some { cls:=.type "list",data:=.seq ([]:List Value).toArray 0 }:=by
    refine hkp p _ ?_;rw[<- hpe];exact hH2 ▸ Heap.get?_push_size _ rfl
  generalize hown:cellsFrom (C+1) scope.names []=own at hcs hap ⊢
  have look:∀x c,(own++cl).lookup x=some c->(x,c)∈own\/cl.lookup x=some c:=λx c e=>by
    rw[List.lookup_append] at e
    cases z:own.lookup x with
    | some d=>rw[z] at e;cases e;exact .inl (mem_of_lookup z)
    | none=>rw[z] at e;exact .inr e
  have capn:∀pr∈caps,own.lookup pr.2=none:=λpr hp=>by
    cases z:own.lookup pr.2 with
    | none=>rfl
    | some d =>
      rcases nV (hown ▸ mem_of_lookup z) with e | e
      · cases e
      · exact absurd e (hcell pr hp)
  have ownlt:∀x c,(x,c)∈own->C<c:=λx c e=>(hcs x c e).2
  have hfree:H1 p=none:=I1.hok.fresh hple
  have hfreeC:H1 C=none:=I1.hok.fresh hCle
  obtain⟨W,⟨m0,w0⟩,turn⟩:=q p hfree;have X'def:∃X',X'=cT X (tn++caps.map (·.2)) scope cl s₂ H1 C fp (X.pn++pins):=⟨_,rfl⟩;obtain⟨X',hX'⟩:=X'def;have hstk:∀b∈frs X.stack,b=X.env.locals\/b∈X.fs:=λb hb=>Fj.mp (I1.stkSub b hb);have hfpl:∀b∈fp,b<s₂.heap.objs.size:=λb hb=>let ⟨_,e,_⟩:=T.obj _ _ st b hb;FC e;have hfps:∀b∈fp,b∉frs X.stack:=λb hb z=>(hstk b z).elim (λe=>(hfp b hb).2.1 e) λe=>(hfp b hb).2.2.1 e;have hcells:∀x c,cl.lookup x=some c->c<s₂.heap.objs.size/\H1 c=none:=λx c e=>by
    obtain⟨v,hv⟩:=I1.cell x c (hcl x c e);exact⟨hv.lt,I1.freeC x c (hcl x c e)⟩
  have ownNe:∀x c,(x,c)∈own->∀b,b<s₂.heap.objs.size->c≠b:=λx c e b hb z=>absurd (FN hb hCle) (Nat.not_lt.mpr (GS (by rw[<- z];exact ownlt x c e)))
  have ok:X'.Ok:=by
    subst hX';have o:=I1.ok
    exact { mod:=o.mod
            kind:=by show (relabel scope X.env).kind=.function;exact hkind
            glob:=o.glob
            blt:=o.blt
            above:=hCle
            inj:=λx y c h1 h2=>by
              replace h1:=look x c (hown ▸ h1);replace h2:=look y c (hown ▸ h2)
              rcases h1 with h1 | h1<;>rcases h2 with h2 | h2
              · exact name_of_addr hap h1 h2
              · exact absurd rfl (ownNe x c h1 c (hcells y c h2).1)
              · exact absurd rfl (ownNe y c h2 c (hcells x c h1).1)
              · exact o.inj x y c (hcl x c h1) (hcl y c h2)
            has:=λx hx=>hhas _ x hx
            cab:=λx c h1 h2=>by
              obtain⟨d,hd⟩:=kq (sc:=scope) (n:=C+1) (eq_of_beq h1);have h2:(cellsFrom (C+1) scope.names []++cl).lookup x=some c:=h2;rw[List.lookup_append,hd] at h2
              cases h2
              exact Fa hCle (GS (ownlt x _ (hown ▸ mem_of_lookup hd)))
            hd:=o.hd
            frames:=o.frames
            stk:=.inl rfl
            exf:=λb hb=>⟨(hbs b (hfpl b hb)).1,λx c e=>(look x c (hown ▸ e)).elim (λz=>ownNe x c z b (hfpl b hb)) λz=>(hfp b hb).2.2.2.2.1 x c (hcl x c z)⟩
            bs:=λb ob e=>I1.bs b ob e
            bsz:=Fa o.bsz I1.sz
            noex:=λb ob e hb=>by
              obtain⟨_,_,_,hh,_⟩:=hfp b hb
              rcases hh with hh | hh
              · exact o.noex b ob e hh
              · exact absurd (FC (I1.ok.bs b ob e).1) (Nat.not_lt.mpr hh)
            exfs:=hfps
            funs:=I1.stack
            frf:=I1.stkFree }
  have capOk:∀(m:Str->Option Value) (i:Nat) (x:Str) (v:V),X'.N[i]?=some x->(uJ tn.length caps σ)[i]?=some (some v)->Vis X'.env.scope x->∃u,bB v u/\Look X'.env h₁ m x u:=by
    subst hX';intro m i x v hN hσ hv;have hN:(tn++caps.map (·.2))[i]?=some x:=hN;unfold uJ at hσ
    by_cases hi:i<tn.length
    · rw[List.getElem?_append_left (by rw[FD];exact hi),List.getElem?_replicate,Fs hi] at hσ
      cases hσ
    · rw[List.getElem?_append_right (by rw[FD];omega),FD] at hσ;rw[List.getElem?_append_right (by omega)] at hN;rw[List.getElem?_map] at hσ hN
      cases hc:caps[i-tn.length]? with
      | none=>rw[hc] at hN;cases hN
      | some pr =>
        rw[hc] at hN hσ;have hN:pr.2=x:=Fz hN;have hσ:(σ[pr.1]?).join=some v:=Fz hσ;obtain⟨c1,c2,c3⟩:=hcap pr (Fm hc);subst hN;have hσ':σ[pr.1]?=some (some v):=by
          cases z:σ[pr.1]? with
          | none=>rw[z] at hσ;cases hσ
          | some o=>rw[z] at hσ;exact Gs some hσ
        obtain⟨m1,hm1,hl1⟩:=I1.loc;obtain⟨u,ru,lk⟩:=hl1 pr.1 pr.2 v c1 hσ' (.inr (.inl c2));refine⟨u,ru,.inr ⟨c3,?_⟩⟩
        rcases lk with⟨k,_⟩ | ⟨_,c,ec,ic⟩
        · have k:X.env.scope.names.lookup pr.2=some .local :=k
          rw[c2] at k
          cases k
        · obtain⟨c',ec0⟩:=hhas (C+1) pr.2 c3;have ec':=ec0;rw[hown,List.lookup_append,capn pr (Fm hc)] at ec';have e1:=hcl _ _ ec';have ec:X.env.cells.lookup pr.2=some c:=ec;rw[ec] at e1
          cases e1
          exact⟨c,ec0,ic.keeps old⟩
  have un0:Un (frs X.stack) fp H1 (EE H1 p (.lst [])) s₂.heap h₁:=Un.laid old hple hfree
  have I4:∀tk,Inv X' [] (uJ tn.length caps σ) (EE H1 p (.lst [])) { s₂ with heap:=h₁,toks:=tk }:=λtk=>by
    have hN:X'.N=tn++caps.map (·.2):=by rw[hX'];rfl
    refine⟨ok,?_,I1.bare,?_,⟨m1,?_,λi x v e1 e2 e3=>?_⟩,λx c e=>?_,?_,λx c e=>?_,λpr hp=>?_,?_,?_⟩
    · rw[hX'];rfl
    · rw[hX'];exact un0
    · rw[hX'];exact hns₁
    · exact capOk _ i x v e1 e2 e3
    · rw[hX'] at e
      rcases look x c (hown ▸ e) with e | e
      · exact⟨_,(hcs x c e).1⟩
      · obtain⟨v,hv⟩:=I1.cell x c (hcl x c e);exact⟨v,hv.keeps old⟩
    · rw[hX'];show EE H1 p (.lst []) C=none;rw[aO (Ne.symm hpC)];exact hfreeC
    · rw[hX'] at e;show EE H1 p (.lst []) c=none
      rcases look x c (hown ▸ e) with e | e
      · have:=ownlt x c e
        rw[aO (λz=>F7 p (Nat.lt_trans (hC ▸ Nat.lt_succ_self p) (z ▸ this)))];exact I1.hok.fresh (Fa hCle (GS this))
      · have hc:=hcells x c e
        rw[aO (hbs c hc.1).2];exact hc.2
    · rw[hX'] at hp;have hp:pr∈(X.pn++pins)++[]:=hp;rw[FZ] at hp;obtain⟨e,n,nl,nf,d⟩:=I1.pin pr hp;have hlt:=FC e;refine⟨old _ _ e,?_,?_,λz=>?_,d⟩
      · rw[aO (hbs _ hlt).2];exact n
      · rw[hX'];exact(hbs _ hlt).1
      · rw[hX'] at z;exact(hstk _ z).elim nl nf
    · have e1:X'.prog=X.prog:=by rw[hX'];rfl
      have e2:X'.w=X.w:=by rw[hX'];rfl
      rw[e1,e2];exact I1.hok.laid old hple ⟨GM _,[],0,.nil,hacc⟩
    · rw[hN];unfold uJ;rw[Fi,Fi,FD,E7,E7]
  have fpk:∀H',(∀b∈fp,H' b=none)->∀b∈fp,vg X' [] H' b:=λH' hn b hb=>by
    rw[hX'];refine⟨hn b hb,(hbs b (hfpl b hb)).1,hfps b hb,.inl hb,λx c e=>(look x c (hown ▸ e)).elim (λz=>ownNe x c z b (hfpl b hb)) λz=>(hfp b hb).2.2.2.2.1 x c (hcl x c z),λpr hp=>?_⟩;have hp:pr∈(X.pn++pins)++[]:=hp;rw[FZ] at hp;exact(hfp b hb).2.2.2.2.2 pr hp
  obtain⟨hg,hf,he⟩:=hb s₂ H1 C fp (X.pn++pins);rw[<- hX'] at hg hf he;have p1:X'.prog=X.prog:=by rw[hX'];rfl
  have p2:X'.w=X.w:=by rw[hX'];rfl
  have p3:X'.K=X.K:=by rw[hX'];rfl
  have p4:X'.calm=true:=by rw[hX'];exact hcalm
  have p5:X'.env=compEnvC scope (own++cl) C X.env:=by rw[hX',<- hown];rfl
  have p6:X'.A=X.A:=by rw[hX'];rfl
  have p7:X'.xe=λ_ _=>False:=by rw[hX'];rfl
  have st1:tnr 0 h₁:=T.keep _ _ _ st λb hb o e=>old b o e
  have loop:∀tk,codeAny (model X.prog X.w) X.A (.compLoop (.ListComp elt [⟨tgt,iter,ifs,0⟩] scope pos) 0 (.ref it) (.ref p) (compEnvC scope (own++cl) C X.env))
      (compPost (model X.prog X.w) X.A (λ_ _=>False) use Qf (.ref p) C) { s₂ with heap:=h₁,toks:=tk }:=λtk=>by
    refine eE (λn s'=>∃i xs σ' H',Inv X' [] σ' H' s'/\tnr i s'.heap/\(∀b∈fp,H' b=none)/\W i n xs σ' H') ?_ m0 ⟨0,[],_,_,I4 tk,st1,λb hb=>?_,w0⟩
    · rintro n s3 ⟨i,xs,σ3,H3,I3,st3,fr3,w3⟩
      rcases turn i n xs σ3 H3 w3 with⟨stop,qn⟩ | ⟨go,step⟩
      · have q1:=T.done X' p1 p2 p3 p4 i [] s3 _ H3 (λ_ _=>False) I3 (fpk H3 fr3) st3 stop
        rw[p6] at q1;refine ER q1 λr s4 ⟨hr,I4'⟩=>?_;subst hr;obtain⟨m4,hm4,_⟩:=I4'.loc;rw[p5] at hm4;have hb4:=I4'.base;rw[hX'] at hb4;have hb4:Un (frs X.stack) fp H1 H3 s₂.heap s4.heap:=hb4;have hfc:H3 C=none:=by
          have z:=I4'.free
          rw[p5] at z;exact z
        have hok4:EX X.prog X.w H3 s4.heap:=by
          have hk:=I4'.hok
          rw[p1,p2] at hk;exact hk
        have hos:s4.os=s₂.os:=by
          have z:=I4'.os
          rw[hX'] at z;exact z
        have I9:=I1.call' (s':=s4) (ch:=fp) hos hb4 hok4 I4'.bare (λb hb=>by
          obtain⟨_,f1,f2,f3,f4,f5⟩:=hfp b hb
          exact⟨f3,f1,f4,f5⟩)
        exact fin p C m4 H3 s4 I9 hm4 ⟨hfc,(I1.fpOk hCle hfreeC).2⟩ qn
      · have q1:=T.item X' p1 p2 p3 p4 i [] s3 _ H3 (λ_ _=>False) I3 (fpk H3 fr3) st3 go
        rw[p6] at q1;refine ER q1 λr s4 ⟨u,hr,h4⟩=>?_;subst hr;refine ER h4 λ_ s5 ⟨x,H5,I5,r5,y5,st5,fr5⟩=>?_;have I5':=I5.pinned (fpk H5 fr5) (T.obj _ _ st5);have q5:=hg _ s5 _ H5 x u _ I5' r5 (step x H5 y5);rw[p1,p2,p5,p6,p7] at q5;refine ER q5 λ_ s6 ⟨σ6,H6,I6,q6⟩=>?_;have q6:=hf _ s6 σ6 H6 _ I6 q6;rw[p1,p2,p5,p6,p7] at q6;refine ER q6 λb s7 ⟨H7,I7,q7⟩=>?_;have again:∀ {s8:Shared} {H8:Hp},Inv X' ([]++mD fp s5.heap) σ6 H8 s8->Inv X' [] σ6 H8 s8/\tnr (i+1) s8.heap/\(∀b∈fp,H8 b=none):=λ{s8 H8} I8=>by
          refine⟨I8.unpinned,T.keep _ _ _ st5 λb hb o e=>(I8.pin (b,o) (Fo _ (Fo _ (eo hb e)))).1,λb hb=>?_⟩;obtain⟨o,e,d⟩:=T.obj _ _ st5 b hb;exact(I8.pin (b,o) (Fo _ (Fo _ (eo hb e)))).2.1
        cases b with
        | false =>
          obtain⟨m',hm,w7⟩:=q7;obtain⟨a1,a2,a3⟩:=again I7;exact⟨m',hm,i+1,xs,σ6,H7,a1,a2,a3,w7⟩
        | true =>
          rw[Fs rfl];have q8:=he _ s7 σ6 H7 _ I7 q7;rw[p1,p2,p5,p6,p7] at q8;refine ER q8 λy s8 ⟨yv,H8,I8,ry,hac,hsz,m',hm,w8⟩=>?_;have q9:=mn (X:=X') _ s8 σ6 H8 (.ref p) [yv] (.ref p) [y] (λ_ H9=>H9=EE H8 p (.lst (xs++[yv]))) I8 rfl (.cons ry .nil) ⟨p,xs,yv,rfl,rfl,hac,hsz,rfl⟩;rw[p1,p2,p6,p7] at q9;refine ER q9 λ_ s9 ⟨_,H9,I9,_,e9⟩=>?_;subst e9;obtain⟨a1,a2,a3⟩:=again I9;exact⟨m',hm,i+1,xs++[yv],σ6,_,a1,a2,a3,w8⟩
    · rw[aO (hbs b (hfpl b hb)).2];exact(hfp b hb).1
  have L0:=loop s₂.toks
  exact codeAny_compStart_list L0 (T.self _ _ _ _ _ st1 L0)
theorem Ak{tgt:Expr}(tn:List Str)(caps:List (Nat×Str))
  (hcalm:X.calm=true) (hclos:closureFor scope X.env=pure cl) (hcell:∀p∈caps,(p.2,NameKind.cell)∉scope.names) (hkind:scope.kind=.function) (hnames:∀y∈scope.names,y.2=.local->scope.names.lookup y.1=some .local)
  (hcl:∀x c,cl.lookup x=some c->X.env.cells.lookup x=some c) (hhas:∀(n:Nat) x,((relabel scope X.env).names.lookup x=some .cell\/(relabel scope X.env).names.lookup x=some .free)->∃c,(cellsFrom n scope.names []++cl).lookup x=some c)
  (hcap:∀p∈caps,X.N[p.1]?=some p.2/\X.env.scope.names.lookup p.2=some .cell/\((relabel scope X.env).names.lookup p.2=some .cell\/(relabel scope X.env).names.lookup p.2=some .free))
  (hi:PI X.nox tgt iter wi)
  (hb:∀s2 H2 C fp pn,PG (cT X (tn++caps.map (·.2)) scope cl s2 H2 C fp pn) tgt g/\PF (cT X (tn++caps.map (·.2)) scope cl s2 H2 C fp pn) ifs tc/\PE (cT X (tn++caps.map (·.2)) scope cl s2 H2 C fp pn) elt te)
  (hs:∀x,foldedSetIterable iter X.env x=pure x:=by intro _;rfl) :
  PE X.nox (.ListComp elt [⟨tgt,iter,ifs,0⟩] scope pos) (Ar wi tn.length caps g tc te):=by
 intro pins s σ H Q I h;rw[eval_ListComp];refine oX tn caps hcalm hclos hcell hkind hnames hcl hhas hcap hi hb hs (use:=none) pins s σ H Q I h λp C m4 H3 s4 I9 hm4 hf q=>?_;obtain⟨f0,f1,f2,f3,f4,f5⟩:=hf;exact⟨m4,hm4,λh' hs'=>⟨.ref p,H3,I9.turned (t':=s4.toks) (λb o hb e=>hs'.extBut b o hb e) f0 f1 f3 f4 f5,rfl,q⟩⟩
theorem o8{tgt:Expr}(tn:List Str)(caps:List (Nat×Str))
  (hcalm:X.calm=true) (hclos:closureFor scope X.env=pure cl) (hcell:∀p∈caps,(p.2,NameKind.cell)∉scope.names) (hkind:scope.kind=.function) (hnames:∀y∈scope.names,y.2=.local->scope.names.lookup y.1=some .local)
  (hcl:∀x c,cl.lookup x=some c->X.env.cells.lookup x=some c) (hhas:∀(n:Nat) x,((relabel scope X.env).names.lookup x=some .cell\/(relabel scope X.env).names.lookup x=some .free)->∃c,(cellsFrom n scope.names []++cl).lookup x=some c)
  (hcap:∀p∈caps,X.N[p.1]?=some p.2/\X.env.scope.names.lookup p.2=some .cell/\((relabel scope X.env).names.lookup p.2=some .cell\/(relabel scope X.env).names.lookup p.2=some .free))
  (hi:PI X.nox tgt iter wi)
  (hb:∀s2 H2 C fp pn,PG (cT X (tn++caps.map (·.2)) scope cl s2 H2 C fp pn) tgt g/\PF (cT X (tn++caps.map (·.2)) scope cl s2 H2 C fp pn) ifs tc/\PE (cT X (tn++caps.map (·.2)) scope cl s2 H2 C fp pn) elt te)
  (hs:∀x,foldedSetIterable iter X.env x=pure x:=by intro _;rfl) {i:Nat} {y:Str} {pos' pos2:Pos} (hN:X.N.Nodup) (hi':X.N[i]?=some y) (hx:Loc X.env.scope y) (hsw:swapsWith (.ListComp elt [⟨tgt,iter,ifs,0⟩] scope pos) (some (.Name y pos')) pos2.line X.env=pure true) (hf:X.fn y=true\/X.env.scope.names.lookup y=some .local) :
  PS X.nox (.Assign [.Name y pos'] (.ListComp elt [⟨tgt,iter,ifs,0⟩] scope pos) pos2) (tAsg (Ar wi tn.length caps g tc te) (sY i)):=by
 intro pins s σ H D I h;show wpAny (model X.prog X.w) X.A (exec (.Assign [.Name y pos'] (.ListComp elt [⟨tgt,iter,ifs,0⟩] scope pos) pos2) X.env) _ _ s;rw[exec_Assign_Name_used _ _ _ _ hsw];refine Fc (wpAny_standAt (Fc ?_));show wpAny _ _ (do let _<-comprehension (.ListComp elt [⟨tgt,iter,ifs,0⟩] scope pos) scope X.env _ (newList []) false (eval iter X.env) (some (assign (.Name y pos') X.env))) _ _ s;refine Fc (Gp (oX tn caps hcalm hclos hcell hkind hnames hcl hhas hcap hi hb hs (use:=some (assign (.Name y pos') X.env)) (Qf:=λ_ s'=>SP X.nox pins D .next s') pins s σ H _ I h λp C m4 H3 s4 I9 hm4 hfp q=>?_) (λ_ s' hq=>Ft (Ft hq)) λ_ _ e=>e);obtain⟨f0,f1,f2,f3,f4,f5⟩:=hfp;show wpAny _ _ (assign (.Name y pos') X.env (.ref p)) _ _ s4;refine wpAny_assign_Name (lS (X:=X.nox) I9 hN hi' hx (v:=.ref p) rfl (λs5 I5 ⟨a,sb,ha⟩=>?_) hf);have hac:C≠a:=by
  rcases ha with rfl | ha
  ·exact f1
  ·exact λz=>f4 y a ha z.symm
 refine⟨m4,hm4.sameBut sb hac,λh' hs'=>⟨_,H3,I5.turned (t':=s5.toks) (λb o hb e=>hs'.extBut b o hb e) f0 f1 f3 f4 f5,q⟩⟩
end DL
namespace DL
open PySem PySem.Spec PyProof.Rows L2
variable {i j:Bool} {T:String}
theorem bU:bootBuiltins "len"=some (.builtin "len"):=by decide +kernel
theorem C1:bootBuiltins "abs"=some (.builtin "abs"):=by decide +kernel
theorem mx:bootBuiltins "isinstance"=some (.builtin "isinstance"):=by decide +kernel
theorem Eh:bootBuiltins "max"=some (.builtin "max"):=by decide +kernel
theorem kW:bootBuiltins "sorted"=some (.builtin "sorted"):=by decide +kernel
theorem yo:bootBuiltins "int"=some (.type "int"):=by decide +kernel
theorem xA:bootBuiltins "bool"=some (.type "bool"):=by decide +kernel
theorem a7:bootBuiltins "tuple"=some (.type "tuple"):=by decide +kernel
theorem Ci:bootBuiltins "dict"=some (.type "dict"):=by decide +kernel
section
variable {X:Cx}
def aS.imp{K:PySem.W.Frag}{f g:List D->(D->Prop)->Prop}{vs:List V}{H:Hp}{Q:VK}(h:∀ds R,f ds R->g ds R)(p:aS K f vs H Q):aS K g vs H Q :=
 let ⟨M,ds,R,m,rs,hf,k⟩:=p;⟨M,ds,R,m,rs,h ds R hf,k⟩
def Cl:List D->(D->Prop)->Prop
 | [.tup xs,.tup ys],R=>xs≠[]/\ys≠[]/\xs.length+ys.length<=9000/\R (.tup (xs++ys))
 | _,_=>False
theorem wA:∀ {d0:List D} {R:D->Prop},Cl d0 R->∃(xs:List D) (ys:List D),d0=[.tup xs,.tup ys]/\xs≠[]/\ys≠[]/\xs.length+ys.length<=9000/\R (.tup (xs++ys)):=by walk_at "or"
def A5:EV X (binaryOp .Add) λx y=>aS X.K Cl [x,y] :=
 EV.imp Ao λx y H Q ⟨M,ds,R,m,rs,h,k⟩=>by
  replace h:=wA h;obtain⟨_,_,rfl,h⟩:=h
  ·obtain⟨n1,n2,hz,q⟩:=h;obtain⟨h1,h2⟩:=bZ rs;unfold EH at h1 h2;obtain⟨a,vs,e,l,r⟩:=h1;obtain⟨b,ws,e',l',r'⟩:=h2;have l1:=Reps.length _ _ r;have l2:=Reps.length _ _ r';refine⟨a,b,vs,ws,e,e',l,l',λz=>n1 (Gq (by rw[l1,z];rfl)),fB (by rw[<- l1,<- l2];exact hz),λz=>absurd (Gq (by rw[l2,z];rfl)) n2,λ_ p hp=>k _ q _ _ (aJ hp _) ?_⟩;unfold EH;exact⟨p,vs++ws,rfl,E5.of aI,Reps.kp (Kp.of_same (aJ hp _)) _ _ (Reps.append _ _ _ _ r r')⟩
def sK:List D->(D->Prop)->Prop
 | [.int i,.int j],R=>R (.int (i+j))
 | [.lst xs,.lst ys],R=>xs.length+ys.length<=9000/\R (.lst (xs++ys))
 | [.tup xs,.tup ys],R=>xs≠[]/\ys≠[]/\xs.length+ys.length<=9000/\R (.tup (xs++ys))
 | _,_=>False
theorem ve:∀ {d0:List D} {R:D->Prop},sK d0 R->((∃(i:Int) (j:Int),d0=[.int i,.int j]/\R (.int (i+j)))\/(∃(xs:List D) (ys:List D),d0=[.lst xs,.lst ys]/\xs.length+ys.length<=9000/\R (.lst (xs++ys)))\/(∃(xs:List D) (ys:List D),d0=[.tup xs,.tup ys]/\xs≠[]/\ys≠[]/\xs.length+ys.length<=9000/\R (.tup (xs++ys)))):=by walk_at "or"
def aL:EV X (binaryOp .Add) λx y=>aS X.K sK [x,y] :=
 EV.imp (EV.or (EV.or Ee DV) A5) λx y H Q ⟨M,ds,R,m,rs,h,k⟩=>by
  replace h:=ve h
  rcases h with⟨_,_,rfl,h⟩ | ⟨_,_,rfl,h⟩ | ⟨_,_,rfl,h⟩
  ·exact .inl (.inl ⟨M,_,R,m,rs,h,k⟩)
  ·exact .inl (.inr ⟨M,_,R,m,rs,h,k⟩)
  ·exact .inr ⟨M,_,R,m,rs,h,k⟩
mutual
def D.dp:D->Nat
 | .tup xs=>D.dps xs+1
 | .lst xs=>D.dps xs+1
 | .fz xs=>D.dps xs+1
 | .dct _ _=>0
 | .fd _ _=>0
 | .fo _ _ _=>0
 | .exn _ _ _=>0
 | .non=>0
 | .bl _=>0
 | .int _=>0
 | .str _=>0
def D.dps:List D->Nat
 | []=>0
 | x::r=>max (D.dp x) (D.dps r)
end
mutual
def D.nd:D->Bool
 | .tup xs=>D.nds xs
 | .lst xs=>D.nds xs
 | .fz xs=>D.nds xs
 | .dct _ _=>false
 | .fd _ _=>false
 | .fo _ _ _=>false
 | .exn _ _ _=>false
 | .non=>true
 | .bl _=>true
 | .int _=>true
 | .str _=>true
def D.nds:List D->Bool
 | []=>true
 | x::r=>D.nd x&&D.nds r
end
def cP(A:Around):A.in1.units=A.units+1:=rfl
theorem ia(n:Nat):((List.range n).all λ_=>true)=true:=by simp
section
variable {pins:List (Addr×Obj)} {σ:L2.St} {H:Hp} {s:Shared} {M:Addr→Prop}
mutual
theorem By(I:Inv X pins σ H s):∀(d:D) (A:Around) (v v':V) (u u':Value),d.nd=true->A.units+d.dp<cLine->EH X.K M H d v->EH X.K M H d v'->bB v u->bB v' u'->SeqAt.EqAt A s u u' true
 | .non,A,v,v',u,u',_,_,r,r',q,q'=>by
  unfold EH at r r';subst r r';have:=pz (A:=A) (s:=s) q q' rfl rfl;exact this
 | .bl b,A,v,v',u,u',_,_,r,r',q,q'=>by
  unfold EH at r r';subst r r';have:=pz (A:=A) (s:=s) q q' rfl rfl;simpa [eqV] using this
 | .int b,A,v,v',u,u',_,_,r,r',q,q'=>by
  unfold EH at r r';subst r r';have:=pz (A:=A) (s:=s) q q' rfl rfl;simpa [eqV] using this
 | .str b,A,v,v',u,u',_,_,r,r',q,q'=>by
  unfold EH at r r';subst r r';have:=pz (A:=A) (s:=s) q q' rfl rfl;simpa [eqV] using this
 | .tup ds,A,v,v',u,u',hn,hd,r,r',q,q'=>by
  unfold EH at r r';obtain⟨a,vs,rfl,sq,rs⟩:=r;obtain⟨b,ws,rfl,sq',rs'⟩:=r'
  cases q
  cases q'
  unfold D.dp at hd
  by_cases e:a=b
  ·subst e;exact HJ _
  ·obtain⟨its,r1,t1,_⟩:=I.tuple sq;obtain⟨its',r2,t2,_⟩:=I.tuple sq';have hs:its.length=its'.length:=by rw[<- r1.length,<- r2.length,<- Reps.length _ _ rs,<- Reps.length _ _ rs']
   have k:=SeqAt.RcAt.tuples (A:=A) (e:=λ_=>true) t1 t2 (by omega) (eqAt_Ds I ds A.in1 vs ws its its' hn (by rw[cP];omega) rs rs' r1 r2)
   have z:((List.range (min its.toArray.size its'.toArray.size)).all (λ_=>true)&&its.toArray.size==its'.toArray.size)=true:=by simp[hs]
   rw[z] at k;exact SeqAt.EqAt.of_refs e k
 | .lst ds,A,v,v',u,u',hn,hd,r,r',q,q'=>by
  unfold EH at r r';obtain⟨a,vs,rfl,_,sq,rs⟩:=r;obtain⟨b,ws,rfl,_,sq',rs'⟩:=r'
  cases q
  cases q'
  unfold D.dp at hd
  by_cases e:a=b
  ·subst e;exact HJ _
  ·obtain⟨its,r1,t1,_⟩:=I.list (EY.of sq);obtain⟨its',r2,t2,_⟩:=I.list (EY.of sq');have hs:its.length=its'.length:=by rw[<- r1.length,<- r2.length,<- Reps.length _ _ rs,<- Reps.length _ _ rs']
   have k:=SeqAt.RcAt.lists (A:=A) (e:=λ_=>true) t1.isList t2.isList (by simp[hs]) (by omega) (eqAt_Ds I ds A.in1 vs ws its its' hn (by rw[cP];omega) rs rs' r1 r2)
   rw[ia] at k;exact SeqAt.EqAt.of_refs e k
 | .fz ds,A,v,v',u,u',hn,hd,r,r',q,q'=>by
  unfold EH at r r';obtain⟨a,vs,rfl,sq,rs⟩:=r;obtain⟨b,ws,rfl,sq',rs'⟩:=r'
  cases q
  cases q'
  unfold D.dp at hd
  by_cases e:a=b
  ·subst e;exact HJ _
  ·obtain⟨its,r1,t1,_⟩:=I.list sq.seq;obtain⟨its',r2,t2,_⟩:=I.list sq'.seq;have hs:its.length=its'.length:=by rw[<- r1.length,<- r2.length,<- Reps.length _ _ rs,<- Reps.length _ _ rs']
   have k:=SeqAt.RcAt.lists (A:=A) (e:=λ_=>true) t1.isList t2.isList (by simp[hs]) (by omega) (eqAt_Ds I ds A.in1 vs ws its its' hn (by rw[cP];omega) rs rs' r1 r2)
   rw[ia] at k;exact SeqAt.EqAt.of_refs e k
 | .dct ks ds,A,v,v',u,u',hn,_,_,_,_,_=>by unfold D.nd at hn;cases hn
 | .fd ks ds,A,v,v',u,u',hn,_,_,_,_,_=>by unfold D.nd at hn;cases hn
 | .fo o ks ds,A,v,v',u,u',hn,_,_,_,_,_=>by unfold D.nd at hn;cases hn
 | .exn _ _ _,A,v,v',u,u',hn,_,_,_,_,_=>by unfold D.nd at hn;cases hn
theorem eqAt_Ds(I:Inv X pins σ H s):∀(ds:List D) (A:Around) (vs ws:List V) (us us':List Value),D.nds ds=true->A.units+D.dps ds<cLine->Reps X.K M H ds vs->Reps X.K M H ds ws->bH vs us->bH ws us' ->
  ∀j (h1:j<us.toArray.size) (h2:j<us'.toArray.size),SeqAt.EqAt A s us.toArray[j] us'.toArray[j] true
 | [],A,vs,ws,us,us',_,_,r,r',q,q',j,h1,h2=>by
  unfold Reps at r;subst r
  cases q
  exact absurd h1 (by simp)
 | d::ds,A,vs,ws,us,us',hn,hd,r,r',q,q',j,h1,h2=>by
  unfold Reps at r r';obtain⟨v,vr,rfl,rv,rs⟩:=r;obtain⟨w',wr,rfl,rw',rs'⟩:=r';unfold D.nds at hn;obtain⟨n1,n2⟩:=FE.mp hn;unfold D.dps at hd
  cases q with
  | @cons _ u0 _ ur qa qb =>
   cases q' with
   | @cons _ u1 _ ur' qa' qb' =>
    cases j with
    | zero=>exact By I d A v w' _ _ n1 (by omega) rv rw' qa qa'
    | succ j =>
     have z:=eqAt_Ds I ds A vr wr ur ur' n2 (by omega) rs rs' qb qb' j (by simpa using h1) (by simpa using h2)
     simpa using z
end
end
theorem wX{i j:Int}:decide (V.int i=V.int j)=decide (i=j):=by rw[nB];exact Hy _ _
theorem Bx:decide (V.bl i=V.bl j)=decide (i=j):=by rw[uA];exact Hy _ _
theorem wI{i j:Str}:decide (V.str i=V.str j)=decide (i=j):=by rw[nr];exact Hy _ _
def fEq:List D->(D->Prop)->Prop
 | [.int i,.int j],R=>R (.bl (decide (i=j)))
 | [.str x,.str y],R=>R (.bl (decide (x=y)))
 | [.bl a,.bl b],R=>R (.bl (decide (a=b)))
 | [.tup xs,.tup ys],R=>(xs=ys/\D.nds xs=true/\D.dps xs<=60)/\R (.bl true)
 | [.lst xs,.lst ys],R=>((xs=ys/\D.nds xs=true/\D.dps xs<=60)/\R (.bl true))\/(xs.length≠ys.length/\R (.bl false))
 | _,_=>False
theorem Cn:∀ {d0:List D} {R:D->Prop},fEq d0 R->((∃(i:Int) (j:Int),d0=[.int i,.int j]/\R (.bl (decide (i=j))))\/(∃(x:Str) (y:Str),d0=[.str x,.str y]/\R (.bl (decide (x=y))))\/(∃(a:Bool) (b:Bool),d0=[.bl a,.bl b]/\R (.bl (decide (a=b))))\/(∃(xs:List D) (ys:List D),d0=[.tup xs,.tup ys]/\(xs=ys/\D.nds xs=true/\D.dps xs<=60)/\R (.bl true))\/(∃(xs:List D) (ys:List D),d0=[.lst xs,.lst ys]/\(((xs=ys/\D.nds xs=true/\D.dps xs<=60)/\R (.bl true))\/(xs.length≠ys.length/\R (.bl false))))):=by walk_at "or"
def xH{i j:Int}{R:D->Prop}:fEq [.int i,.int j] R=(R (.bl (decide (i=j)))):=rfl
def Ab{i j:Str}{R:D->Prop}:fEq [.str i,.str j] R=(R (.bl (decide (i=j)))):=rfl
def BJ{R:D->Prop}:fEq [.bl i,.bl j] R=(R (.bl (decide (i=j)))):=rfl
def zx{i j:List D}{R:D->Prop}:fEq [.tup i,.tup j] R=((i=j/\D.nds i=true/\D.dps i<=60)/\R (.bl true)):=rfl
theorem dy(hu:X.A.units+64<cLine):EV X (compareOp .Eq) λx y=>aS X.K fEq [x,y]:=by
 intro pins s σ H x y v u Q I rx ry h;obtain⟨M,ds,R,m,rs,h,k⟩:=h;replace h:=Cn h
 rcases h with⟨_,_,rfl,h⟩ | ⟨_,_,rfl,h⟩ | ⟨_,_,rfl,h⟩ | ⟨_,_,rfl,h⟩ | ⟨_,_,rfl,h⟩
 ·obtain⟨h1,h2⟩:=bZ rs
  cases aT h1
  cases aT h2
  refine ya pins s σ H _ _ v u Q I rx ry ⟨rfl,?_⟩;rw[wX];exact k _ h _ H (ci.refl H) (EH.sc rfl)
 ·obtain⟨h1,h2⟩:=bZ rs
  cases bO h1
  cases bO h2
  refine ya pins s σ H _ _ v u Q I rx ry ⟨rfl,?_⟩;rw[wI];exact k _ h _ H (ci.refl H) (EH.sc rfl)
 ·obtain⟨h1,h2⟩:=bZ rs
  cases eP h1
  cases eP h2
  refine ya pins s σ H _ _ v u Q I rx ry ⟨rfl,?_⟩;rw[Bx];exact k _ h _ H (ci.refl H) (EH.sc rfl)
 ·obtain⟨⟨e,hn,hd⟩,h⟩:=h;subst e;obtain⟨h1,h2⟩:=bZ rs;unfold EH at h1 h2;obtain⟨a,vs,rfl,sq,rs1⟩:=h1;obtain⟨b,ws,rfl,sq',rs2⟩:=h2
  cases rx
  cases ry
  obtain⟨its,r1,t1,_⟩:=I.tuple sq;obtain⟨its',r2,t2,_⟩:=I.tuple sq';have hs:its.length=its'.length:=by rw[<- r1.length,<- r2.length,<- Reps.length _ _ rs1,<- Reps.length _ _ rs2]
  refine SeqAt.eq_tupleAt (e:=λ_=>true) t1 t2 (by omega) (eqAt_Ds I _ X.A.in1 vs ws its its' hn (by rw[cP];omega) rs1 rs2 r1 r2) ?_;have z:((List.range (min its.toArray.size its'.toArray.size)).all (λ_=>true)&&its.toArray.size==its'.toArray.size)=true:=by simp[hs]
  rw[z];exact⟨.bl true,H,I,rfl,k _ h _ H (ci.refl H) (EH.sc rfl)⟩
 ·obtain⟨h1,h2⟩:=bZ rs;unfold EH at h1 h2;obtain⟨a,vs,rfl,_,sq,rs1⟩:=h1;obtain⟨b,ws,rfl,_,sq',rs2⟩:=h2
  cases rx
  cases ry
  obtain⟨its,r1,t1,_⟩:=I.list (EY.of sq);obtain⟨its',r2,t2,_⟩:=I.list (EY.of sq')
  rcases h with⟨⟨e,hn,hd⟩,h⟩ | ⟨ne,h⟩
  ·subst e;have hs:its.length=its'.length:=by rw[<- r1.length,<- r2.length,<- Reps.length _ _ rs1,<- Reps.length _ _ rs2]
   refine SeqAt.eq_listAt (e:=λ_=>true) t1.isList t2.isList (by simp[hs]) (by omega) (eqAt_Ds I _ X.A.in1 vs ws its its' hn (by rw[cP];omega) rs1 rs2 r1 r2) ?_;rw[ia];exact⟨.bl true,H,I,rfl,k _ h _ H (ci.refl H) (EH.sc rfl)⟩
  ·refine SeqAt.eq_list_lengthsAt t1.isList t2.isList ?_ (by omega) ⟨.bl false,H,I,rfl,k _ h _ H (ci.refl H) (EH.sc rfl)⟩;have l1:=r1.length;have l2:=r2.length;have l3:=Reps.length _ _ rs1;have l4:=Reps.length _ _ rs2;simp only[List.size_toArray,bne_iff_ne,ne_eq];omega
def fNe:List D->(D->Prop)->Prop
 | [.int i,.int j],R=>R (.bl (!decide (i=j)))
 | [.str x,.str y],R=>R (.bl (!decide (x=y)))
 | [.bl a,.bl b],R=>R (.bl (!decide (a=b)))
 | _,_=>False
theorem Cd:∀ {d0:List D} {R:D->Prop},fNe d0 R->((∃(i:Int) (j:Int),d0=[.int i,.int j]/\R (.bl (!decide (i=j))))\/(∃(x:Str) (y:Str),d0=[.str x,.str y]/\R (.bl (!decide (x=y))))\/(∃(a:Bool) (b:Bool),d0=[.bl a,.bl b]/\R (.bl (!decide (a=b))))):=by walk_at "or"
theorem o_ne(_:X.A.units+64<cLine):EV X (compareOp .NotEq) λx y=>aS X.K fNe [x,y]:=by
 intro pins s σ H x y v u Q I rx ry h;obtain⟨M,ds,R,m,rs,h,k⟩:=h;replace h:=Cd h
 rcases h with⟨_,_,rfl,h⟩ | ⟨_,_,rfl,h⟩ | ⟨_,_,rfl,h⟩
 ·obtain⟨h1,h2⟩:=bZ rs
  cases aT h1
  cases aT h2
  refine zT pins s σ H _ _ v u Q I rx ry ⟨rfl,?_⟩;rw[wX];exact k _ h _ H (ci.refl H) (EH.sc rfl)
 ·obtain⟨h1,h2⟩:=bZ rs
  cases bO h1
  cases bO h2
  refine zT pins s σ H _ _ v u Q I rx ry ⟨rfl,?_⟩;rw[wI];exact k _ h _ H (ci.refl H) (EH.sc rfl)
 ·obtain⟨h1,h2⟩:=bZ rs
  cases eP h1
  cases eP h2
  refine zT pins s σ H _ _ v u Q I rx ry ⟨rfl,?_⟩;rw[Bx];exact k _ h _ H (ci.refl H) (EH.sc rfl)
def fIs:List D->(D->Prop)->Prop
 | [.bl a,.bl b],R=>R (.bl (decide (a=b)))
 | [.non,.non],R=>R (.bl true)
 | [.tup _,.non],R=>R (.bl false)
 | [.exn _ _ _,.non],R=>R (.bl false)
 | _,_=>False
theorem A6{d0:List D}{R:D->Prop}(h:fIs d0 R):(∃(a:Bool) (b:Bool),d0=[.bl a,.bl b]/\R (.bl (decide (a=b))))\/(d0=[.non,.non]/\R (.bl true))\/(∃(z1:List D),d0=[.tup z1,.non]/\R (.bl false))\/(∃(c f:Str) (z1:D),d0=[.exn c f z1,.non]/\R (.bl false)):=by
 rcases d0 with _ | ⟨a,_ | ⟨b,_ | ⟨c,l⟩⟩⟩
 ·exact False.elim h
 ·cases a<;>exact False.elim h
 ·cases a<;>first | exact False.elim h | (cases b<;>first | exact False.elim h | exact .inl ⟨_,_,rfl,h⟩ | exact .inr (.inl ⟨rfl,h⟩) | exact .inr (.inr (.inl ⟨_,rfl,h⟩)) | exact .inr (.inr (.inr ⟨_,_,_,rfl,h⟩)))
 ·cases a<;>first | exact False.elim h | (cases b<;>exact False.elim h)
def CO{R:D->Prop}:fIs [.bl i,.bl j] R=(R (.bl (decide (i=j)))):=rfl
theorem CD:EV X (compareOp .Is) (λx y H Q=>∃a b,x=.bl a/\y=.bl b/\Q (.bl (decide (a=b))) H):=by
 intro pins s σ H x y v u Q I rx ry h;obtain⟨a,b,rfl,rfl,q⟩:=h
 cases rx
 cases ry
 refine wpAny_is_plain rfl ⟨.bl _,H,I,rfl,?_⟩;have e:(Value.bool a==Value.bool b)=decide (a=b):=by cases a<;>cases b<;>rfl
 rw[e];exact q
theorem yp:EV X (compareOp .IsNot) (λx y H Q=>∃a b,x=.bl a/\y=.bl b/\Q (.bl (!decide (a=b))) H):=by
 intro pins s σ H x y v u Q I rx ry h;obtain⟨a,b,rfl,rfl,q⟩:=h
 cases rx
 cases ry
 refine wpAny_isNot_plain rfl ⟨.bl _,H,I,rfl,?_⟩;have e:(Value.bool a==Value.bool b)=decide (a=b):=by cases a<;>cases b<;>rfl
 rw[e];exact q
def yl:EV X (compareOp .Is) λx y=>aS X.K fIs [x,y] :=
  EV.imp (EV.or CD Ce) λx y H Q ⟨M,ds,R,m,rs,h,k⟩=>by
    have fin:∀b,R (.bl b)->Q (.bl b) H:=λb r=>k _ r _ H (ci.refl H) (EH.sc rfl)
    replace h:=A6 h
    rcases h with⟨_,_,rfl,h⟩ | ⟨rfl,h⟩ | ⟨_,rfl,h⟩ | ⟨_,_,_,rfl,h⟩
    · obtain⟨h1,h2⟩:=bZ rs;exact .inl ⟨_,_,eP h1,eP h2,fin _ h⟩
    all_goals first
      | exact h.elim
      | (obtain⟨h1,h2⟩:=bZ rs
         unfold EH at h1 h2
         first
           | (subst h1;exact .inr ⟨h2,fin _ h⟩)
           | (obtain⟨a,vs,e,_⟩:=h1;subst e;exact .inr ⟨h2,fin _ h⟩)
           | (obtain⟨y,⟨e,C,dx,e1,_⟩,_⟩:=h1;subst e1;exact .inr ⟨h2,fin _ h⟩))
def fIsN:List D->(D->Prop)->Prop
 | [.bl a,.bl b],R=>R (.bl (!decide (a=b)))
 | [.non,.non],R=>R (.bl false)
 | [.tup _,.non],R=>R (.bl true)
 | _,_=>False
theorem yJ{d0:List D}{R:D->Prop}(h:fIsN d0 R):(∃(a:Bool) (b:Bool),d0=[.bl a,.bl b]/\R (.bl (!decide (a=b))))\/(d0=[.non,.non]/\R (.bl false))\/(∃(z1:List D),d0=[.tup z1,.non]/\R (.bl true)):=by
 rcases d0 with _ | ⟨a,_ | ⟨b,_ | ⟨c,l⟩⟩⟩
 ·exact False.elim h
 ·cases a<;>exact False.elim h
 ·cases a<;>first | exact False.elim h | (cases b<;>first | exact False.elim h | exact .inl ⟨_,_,rfl,h⟩ | exact .inr (.inl ⟨rfl,h⟩) | exact .inr (.inr ⟨_,rfl,h⟩))
 ·cases a<;>first | exact False.elim h | (cases b<;>exact False.elim h)
def Au{R:D->Prop}:fIsN [.bl i,.bl j] R=(R (.bl (!decide (i=j)))):=rfl
def mR:EV X (compareOp .IsNot) λx y=>aS X.K fIsN [x,y] :=
 EV.imp (EV.or yp y7) λx y H Q ⟨M,ds,R,m,rs,h,k⟩=>by
  have fin:∀b,R (.bl b)->Q (.bl b) H:=λb r=>k _ r _ H (ci.refl H) (EH.sc rfl)
  replace h:=yJ h
  rcases h with⟨_,_,rfl,h⟩ | ⟨rfl,h⟩ | ⟨_,rfl,h⟩
  ·obtain⟨h1,h2⟩:=bZ rs;exact .inl ⟨_,_,eP h1,eP h2,fin _ h⟩
  ·obtain⟨h1,h2⟩:=bZ rs;unfold EH at h1 h2;subst h1;exact .inr ⟨h2,fin _ h⟩
  ·obtain⟨h1,h2⟩:=bZ rs;unfold EH at h1 h2;obtain⟨a,vs,e,_⟩:=h1;subst e;exact .inr ⟨h2,fin _ h⟩
def tyN:D->String
 | .non=>"NoneType"
 | .bl _=>"bool"
 | .int _=>"int"
 | .str _=>"str"
 | .tup _=>"tuple"
 | .lst _=>"list"
 | .fz _=>"list"
 | .dct _ _=>"dict"
 | .fd _ _=>"dict"
 | .fo _ _ _=>"dict"
 | .exn _ _ _=>"NoneType"
def D.noX:D->Prop
 | .exn _ _ _=>False
 | _=>True
def isT(T n:String):Bool:=n==T||(n=="bool"&&T=="int")
def qU(T:String):Prop:=∀(K:PySem.W.Frag) (n:String),n∈["NoneType","bool","int","str","tuple","list","dict"]->PySem.W.kitOne K (.type n) (.type T)=some (isT T n)
theorem xP(d:D):tyN d∈["NoneType","bool","int","str","tuple","list","dict"]:=by cases d<;>simp[tyN]
theorem D3{pins:List (Addr×Obj)}{σ:L2.St}{H:Hp}{s:Shared}{A:Around}{E:Value->Shared->Prop}{M:Addr->Prop}{d:D}{v:V}{u:Value}{Q:Value->Shared->Prop}(I:L2.Inv X pins σ H s)(r:EH X.K M H d v)(nx:d.noX)(ru:bB v u)(ht:qU T)
  (h:∀tk,Q (.bool (isT T (tyN d))) { s with toks:=tk }):wpAny (model X.prog X.w) A (call (.builtin "isinstance") [u,.type T]) Q E s:=by
 have e:=ht X.K (tyN d) (xP d)
 cases d with
 | non=>unfold EH at r;subst r;exact dr I ru (.non) e h
 | bl b=>unfold EH at r;subst r;exact dr I ru (.bl b) e h
 | int b=>unfold EH at r;subst r;exact dr I ru (.int b) e h
 | str b=>unfold EH at r;subst r;exact dr I ru (.str b) e h
 | tup xs =>
  unfold EH at r;obtain⟨a,vs,rfl,sq,_⟩:=r
  cases ru
  obtain⟨its,_,⟨o,h1,h2,_⟩,_⟩:=I.tuple sq;exact FY PySem.W.kitx_tuple I.kIn ⟨o,h1,h2⟩ e (λz=>nomatch z) h
 | lst xs=>unfold EH at r;obtain⟨a,vs,rfl,_,sq,_⟩:=r;exact dr I ru (.lst sq) e h
 | fz xs =>
  unfold EH at r;obtain⟨a,vs,rfl,sq,_⟩:=r
  cases ru
  obtain⟨its,_,⟨o,n,h1,h2,_⟩,_⟩:=I.list sq.seq;exact FY PySem.W.kitx_list I.kIn ⟨o,h1,h2⟩ e (λz=>nomatch z) h
 | dct ks xs=>unfold EH at r;obtain⟨a,vs,rfl,_,sq,_⟩:=r;exact dr I ru (.dK sq) e h
 | fd ks xs =>
  unfold EH at r;obtain⟨a,vs,o,rfl,sq,_⟩:=r
  cases ru
  obtain⟨_,_,va,_,da⟩:=i4 I.hok (.inr ⟨o,sq⟩);obtain⟨o2,h1,h2⟩:=da.typeIs;exact FY Hr I.kIn ⟨o2,h1,h2⟩ e (λz=>nomatch z) h
 | fo o ks xs =>
  unfold EH at r;obtain⟨a,vs,rfl,sq,_⟩:=r
  cases ru
  obtain⟨_,_,va,_,da⟩:=i4 I.hok (.inr ⟨o,sq⟩);obtain⟨o2,h1,h2⟩:=da.typeIs;exact FY Hr I.kIn ⟨o2,h1,h2⟩ e (λz=>nomatch z) h
 | exn c f x=>exact nx.elim
def E6(T:String):D->(Bool->Prop)->Prop
 | .exn _ _ _,_=>False
 | x,k=>k (isT T (tyN x))
theorem E6.ex{x:D}{k:Bool->Prop}(h:E6 T x k):x.noX/\k (isT T (tyN x)):=by cases x<;>first | exact False.elim h | exact⟨trivial,h⟩
def kIs(T:String)(R:W->En->Prop):W->En->Prop:=wd λx δ1=>E6 T x λb=>R (.d (.bl b)) δ1
def dIsi(T:String)(t:E1)(δ:En)(R:W->En->Prop):Prop:=t δ (kIs T R)
def rIsi(K:PySem.W.Frag)(T:String):List V->Hp->VK->Prop:=λxs H Q=>∃x M d,xs=[x,.ty T]/\EH K M H d x/\d.noX/\Q (.bl (isT T (tyN d))) H
theorem uS(ht:qU T):bY X (.builtin "isinstance") (rIsi X.K T):=by
 intro pins s σ H xs us Q I r h;obtain⟨x,M,d,rfl,rx,nx,q⟩:=h;obtain⟨u,w',rfl,ru,rw'⟩:=Ch r
 cases rw'
 exact D3 I rx nx ru ht λtk=>⟨.bl _,H,I.tok _,rfl,q⟩
theorem kb{T:Str}{n:String}{a:Expr}{ta:E1}{p p2 pos:Pos}(ht:qU n)(hg:Gl X "isinstance")(hm:X.mg "isinstance"=none)(hgT:Gl X T)(hmT:X.mg T=none)(hvT:bootBuiltins T=some (.type n))(ha:DE X a ta)
  (hnT:T≠"__name__":=by decide) (hdT:(T==("__debug__":Str))=false:=by decide)
  (he:starEach [a,.Name T p2] X.env=(false,eval a X.env)::starEach [.Name T p2] X.env:=by rfl) (he2:starEach [.Name T p2] X.env=(false,eval (.Name T p2) X.env)::starEach [] X.env:=by rfl) (hpl:(backTo pos (starEach [.Name T p2] X.env)).any (·.1)=false:=by rfl) :
  DE X (.Call (.Name "isinstance" p) [a,.Name T p2] [] pos) (dIsi n ta) :=
 PE.imp (kJ (uS ht) hg hm mx (bI ha (bI (xZ (v:=.ty n) hgT hmT hvT rfl hnT hdT) eQ he2) he) (by decide) (by decide) he hpl) λσ H Q ⟨G,δ,P,R,s,h,k,_⟩=>up.mk s h λd δ1 h1 v H1 s1=>by
  obtain⟨A,q⟩:=id s1;replace h1:=E6.ex h1;exact⟨v,_,d,rfl,q.pnd (d,v) (by simp),h1.1,k _ δ1 h1.2 _ H1 ((s1.sub (P':=P) λp hp=>E9 _ hp).sc rfl)⟩
def CJ:qU "int":=λK n hn=>by
 simp only[List.mem_cons,List.not_mem_nil,or_false] at hn
 rcases hn with rfl | rfl | rfl | rfl | rfl | rfl | rfl<;>with_unfolding_all rfl
def tO:qU "bool":=λK n hn=>by
 simp only[List.mem_cons,List.not_mem_nil,or_false] at hn
 rcases hn with rfl | rfl | rfl | rfl | rfl | rfl | rfl<;>with_unfolding_all rfl
def ky:qU "tuple":=λK n hn=>by
 simp only[List.mem_cons,List.not_mem_nil,or_false] at hn
 rcases hn with rfl | rfl | rfl | rfl | rfl | rfl | rfl<;>with_unfolding_all rfl
end
end DL
namespace DL
open PySem PySem.Spec PyProof.Rows L2
variable {caps:List (Nat×Str)} {i nt:Nat} {d:D} {xs:List D} {f:D→Option D} {g:TDG} {tc:TDT} {pos:Pos} {cl:List (Str×Addr)}
section
variable {K:PySem.W.Frag} {G:Gf} {A A':Addr→Prop} {δ:List Sl} {P P':List (D×V)} {σ:L2.St} {H H':Hp}
theorem Sx.addA{p:Addr}(s:Sx K G A δ P σ H)(hn:H p=none)(hs:ci H H')(hp:H' p≠none):Sx K G (λb=>A b\/b=p) δ P σ H':=by
 have x:=s.same hs
 have hM:∀b,(G.M0 b\/(A b\/b=p))->(G.M0 b\/A b)\/H b=none:=λb h=>by
  rcases h with h | h | h
  ·exact .inl (.inl h)
  ·exact .inl (.inr h)
  ·subst h;exact .inr hn
 have up:∀d v,EH K (λb=>G.M0 b\/A b) H d v->EH K (λb=>G.M0 b\/(A b\/b=p)) H' d v:=λd v r=>EH.kp (Kp.of_same hs) _ _ (EH.more hM _ _ r)
 have h0:G.H0 p=none:=by
  cases q:G.H0 p with
  | none=>rfl
  | some o=>exact absurd hn (s.stay p (by rw[q];exact λz=>nomatch z))
 refine⟨x.old,x.stay,x.m0,x.pm,λb h=>h.elim (s.new b) λe=>.inl (by rw[e];exact h0),λb h=>h.elim (x.thr b) λe=>by rw[e];exact hp,s.len,λj d' e=>?_,λj b d' e=>?_,s.inj,λq hq=>up _ _ (s.pnd q hq)⟩
 ·obtain⟨v,q,r⟩:=s.dat j d' e;exact⟨v,q,up _ _ r⟩
 ·obtain⟨q,r,o⟩:=s.own j b d' e;refine⟨q,.inl r,bv.kp (Kp.of_same hs) ?_ (bv.more hM o)⟩
  cases z:H b with
  | none=>exact absurd z (s.thr b r)
  | some o'=>exact hs b o' z
theorem Sx.subA(s:Sx K G A δ P σ H)(hA:∀b,A' b->A b)(ho:∀(i:Nat) a d,δ[i]?=some (.own a d)->A' a):Sx K G A' δ P σ H:=by
 have hM:∀b,(G.M0 b\/A' b)->(G.M0 b\/A b)\/H b=none:=λb h=>.inl (h.elim .inl λz=>.inr (hA b z))
 exact⟨s.old,s.stay,s.m0,s.pm,λb h=>s.new b (hA b h),λb h=>s.thr b (hA b h),s.len,λi d e=>let ⟨v,q,r⟩:=s.dat i d e;⟨v,q,EH.more hM _ _ r⟩,λi a d e=>let ⟨q,_,o⟩:=s.own i a d e;⟨q,ho i a d e,bv.more hM o⟩,s.inj,
  λp hp=>EH.more hM _ _ (s.pnd p hp)⟩
theorem Sx.poke{p:Addr}{vs ws:List V}(s:Sx K G A δ P σ H)(hp:A p)(hv:H p=some (.lst vs))(hno:∀(i:Nat) d,δ[i]?≠some (.own p d)):Sx K G A δ P σ (EE H p (.lst ws)):=by
 have hk:∀b o,b≠p->H b=some o->EE H p (.lst ws) b=some o:=λb o n e=>by rw[aO n];exact e
 have kp:Kp (λb=>G.M0 b\/A b) H (EE H p (.lst ws)):=⟨λb o e n=>hk b o (λz=>n (.inr (by rw[z];exact hp))) e,λb xs e=>hk b _ (λz=>by rw[z,hv] at e;cases e) e,λb o u e=>hk b _ (λz=>by rw[z,hv] at e;cases e) e⟩
 have stay:∀b,H b≠none->EE H p (.lst ws) b≠none:=λb e=>by
  by_cases z:b=p
  ·rw[z,aI];exact λz=>nomatch z
  ·rw[aO z];exact e
 have na:∀b o,G.H0 b=some o->¬ G.Pm b->b≠p:=λb o e n z=>(s.new p hp).elim (λq=>by rw[z] at e;rw[e] at q;cases q) λq=>n (by rw[z];exact q)
 refine⟨λb o e n=>hk b o (na b o e n) (s.old b o e n),λb e=>stay b (s.stay b e),s.m0,s.pm,s.new,λb e=>stay b (s.thr b e),s.len,λi d e=>let ⟨v,q,r⟩:=s.dat i d e;⟨v,q,EH.kp kp _ _ r⟩,λi a d e=>?_,s.inj,λq hq=>EH.kp kp _ _ (s.pnd q hq)⟩;obtain⟨q,r,o⟩:=s.own i a d e;have ne:a≠p:=λz=>by subst z;exact hno i d e
 exact⟨q,r,bv.kp kp (by rw[aO ne]) o⟩
end
def rJ:Option Sl->Sl
 | some (.dat d)=>.dat d
 | _=>.no
def ig(caps:List (Nat×Str))(δ:En):En:=caps.map λp=>rJ δ[p.1]?
def oS:Option D->Sl
 | none=>.no
 | some d=>.dat d
def wm:Nat->(List Sl->Prop)->Prop
 | 0,p=>p []
 | n+1,p=>∀t:Option D,wm n λts=>p (oS t::ts)
def okT:Nat->En->En->Prop
 | 0,δ,c=>δ=c
 | n+1,.dat _::r,c=>okT n r c
 | _+1,_,_=>False
abbrev TDC:=En->(List D->En->Prop)->Prop
def wv(src:TDC)(nt:Nat)(caps:List (Nat×Str))(g:TDG)(tc:TDT)(te:E1)(δ:En)(R:W->En->Prop):Prop:=src δ λxs δ1=>xs.length<=9000/\∃f:D->Option D,
 (∀x∈xs,wm nt λts=>g x (ts++ig caps δ1) λδ2=>tc δ2 λb δ3=>if b=true then te δ3 (wd λy δ4=>okT nt δ4 (ig caps δ1)/\f x=some y) else okT nt δ3 (ig caps δ1)/\f x=none)/\R (.d (.lst (xs.filterMap f))) δ1
theorem o6:∀ {n:Nat} {p:List Sl->Prop},wm n p->∀ts:List (Option D),ts.length=n->p (ts.map oS)
 | 0,p,h,ts,e=>by rw[Hj.mp e];exact h
 | n+1,p,h,[],e=>by cases e
 | n+1,p,h,t::ts,e=>o6 (h t) ts (G2 e)
theorem nM:∀ {n:Nat} {δ c:En},okT n δ c->∃ts:List (Option D),ts.length=n/\δ=ts.map oS++c
 | 0,δ,c,h=>⟨[],rfl,h⟩
 | n+1,[],c,h=>h.elim
 | n+1,.dat d::r,c,h=>by
  obtain⟨ts,e,q⟩:=nM (n:=n) (δ:=r) h;exact⟨some d::ts,by rw[Fl,e],by rw[q];rfl⟩
 | n+1,.no::r,c,h=>h.elim
 | n+1,.own _ _::r,c,h=>h.elim
section
variable {K:PySem.W.Frag} {G:Gf} {δ:List Sl} {P:List (D×V)} {σ:L2.St}
theorem wn(e:(ig caps δ)[i]?=some (.dat d)):∃p,caps[i]?=some p/\δ[p.1]?=some (.dat d):=by
 unfold ig at e;rw[List.getElem?_map] at e
 cases hc:caps[i]? with
 | none=>rw[hc] at e;cases e
 | some p =>
  rw[hc] at e;refine⟨p,rfl,?_⟩;have e:=Fz e
  cases q:δ[p.1]? with
  | none=>simp[q,rJ] at e
  | some z =>
   cases z with
   | dat d'=>simp only[q,rJ] at e;cases e;rfl
   | no=>simp[q,rJ] at e
   | own _ _=>simp[q,rJ] at e
theorem lc{a:Addr}(e:(ig caps δ)[i]?=some (.own a d)):False:=by
 unfold ig at e;rw[List.getElem?_map] at e
 cases hc:caps[i]? with
 | none=>rw[hc] at e;cases e
 | some p =>
  rw[hc] at e;have e:=Fz e
  cases q:δ[p.1]? with
  | none=>simp[q,rJ] at e
  | some z=>cases z<;>simp[q,rJ] at e
theorem Ep{A:Addr->Prop}{H:Hp}(s:Sx K G A δ P σ H):Sx K ⟨λb=>G.M0 b\/A b,H,λ_=>False⟩ (λ_=>False) ((List.replicate nt none).map oS++ig caps δ) [] (uJ nt caps σ) H:=by
 have hM:∀b,((G.M0 b\/A b)\/False)->(G.M0 b\/A b)\/H b=none:=λb h=>h.elim .inl λz=>z.elim
 have hr:(List.replicate nt none).map oS=List.replicate nt Sl.no:=by rw[List.map_replicate];rfl
 rw[hr];refine⟨λb o e _=>e,λb e=>e,s.mem,λb h=>h.elim,λb h=>h.elim,λb h=>h.elim,?_,λi d e=>?_,λi a d e=>?_,λi j a d e h1 _=>?_,λp hp=>(nomatch hp)⟩
 ·unfold ig uJ;rw[Fi,Fi,FD,FD,E7,E7]
 ·by_cases hi:i<nt
  ·rw[List.getElem?_append_left (by rw[FD];exact hi),List.getElem?_replicate,Fs hi] at e
   cases e
  ·rw[List.getElem?_append_right (by rw[FD];omega),FD] at e;obtain⟨p,hp,hd⟩:=wn e;obtain⟨v,q,r⟩:=s.dat _ _ hd;refine⟨v,?_,EH.more hM _ _ r⟩;unfold uJ;rw[List.getElem?_append_right (by rw[FD];omega),FD,List.getElem?_map,hp];show some ((σ[p.1]?).join)=_;rw[q];rfl
 all_goals
  exfalso
 ·by_cases hi:i<nt
  ·rw[List.getElem?_append_left (by rw[FD];exact hi),List.getElem?_replicate,Fs hi] at e
   cases e
  ·rw[List.getElem?_append_right (by rw[FD];omega)] at e;exact lc e
 ·by_cases hi:i<nt
  ·rw[List.getElem?_append_left (by rw[FD];exact hi),List.getElem?_replicate,Fs hi] at h1
   cases h1
  ·rw[List.getElem?_append_right (by rw[FD];omega)] at h1;exact lc h1
theorem w4{ts:List (Option D)}{a:Addr}(e:(ts.map oS++ig caps δ)[i]?=some (.own a d)):False:=by
 by_cases hi:i<ts.length
 ·rw[List.getElem?_append_left (by rw[E7];exact hi),List.getElem?_map] at e
  cases hc:ts[i]? with
  | none=>rw[hc] at e;cases e
  | some o =>
   rw[hc] at e
   cases o<;>cases e
 ·rw[List.getElem?_append_right (by rw[E7];omega)] at e;exact lc e
theorem re_S{M:Addr->Prop}{A2:Addr->Prop}{ts:List (Option D)}{H H5 H6:Hp}{P2:List (D×V)}{σ2:L2.St}(s:Sx K ⟨M,H,λ_=>False⟩ A2 (ts.map oS++ig caps δ) P2 σ2 H5)(k:Kp M H5 H6)(hm:∀b,M b->H6 b≠none) :
  Sx K ⟨M,H6,λ_=>False⟩ (λ_=>False) (ts.map oS++ig caps δ) [] σ2 H6:=by
 have hM:∀b,(M b\/False)->(M b\/A2 b)\/H5 b=none:=λb h=>.inl (h.elim .inl λz=>z.elim)
 have k':Kp (λb=>M b\/False) H5 H6:=⟨λb o e n=>k.un b o e λz=>n (.inl z),k.tu,k.fr⟩
 exact⟨λb o e _=>e,λb e=>e,hm,λb h=>h.elim,λb h=>h.elim,λb h=>h.elim,s.len,λi d e=>let ⟨v,q,r⟩:=s.dat i d e;⟨v,q,EH.kp k' _ _ (EH.more hM _ _ r)⟩,λi a d e=>(w4 e).elim,
  λi j a d e h1 _=>(w4 h1).elim,λp hp=>(nomatch hp)⟩
theorem jH{x:D}(h:xs[i]?=some x):(xs.take (i+1)).filterMap f=(xs.take i).filterMap f++(match f x with | some y=>[y] | none=>[]):=by
 rw[List.take_add_one,h,List.filterMap_append]
 cases e:f x<;>simp[e]
theorem jV{J:It}{te:E1}{H1:Hp}{Q:VK}(s:S K G δ P σ H1)(hz:xs.length<=9000)
  (hgo:∀A i H,Sx K G A δ P σ H->i<xs.length->J.go i H) (hst:∀A H,Sx K G A δ P σ H->J.stop xs.length H)
  (hyl:∀A i x H H2,Sx K G A δ P σ H->i<xs.length->J.yld i H x H2->ci H H2/\∃d,xs[i]?=some d/\EH K (λb=>G.M0 b\/A b) H2 d x)
  (hf:∀x∈xs,wm nt λts=>g x (ts++ig caps δ) λδ2=>tc δ2 λb δ3=>if b=true then te δ3 (wd λy δ4=>okT nt δ4 (ig caps δ)/\f x=some y) else okT nt δ3 (ig caps δ)/\f x=none)
  (p:Addr) (hp:H1 p=none) (k:∀(A:Addr->Prop) acc H',¬ (G.M0 p\/A p)->(∀(i:Nat) a d,δ[i]?=some (.own a d)->A a)->Sx K G (λb=>A b\/b=p) δ P σ H'->H' p=some (.lst acc)->Reps K (λb=>G.M0 b\/(A b\/b=p)) H' (xs.filterMap f) acc->Q (.ref p) H') :
  ∃W:Nat->Nat->List V->L2.St->Hp->Prop,(∃m,W 0 m [] (uJ nt caps σ) (EE H1 p (.lst [])))/\∀i m acc σ' H',W i m acc σ' H'->(J.stop i H'/\Q (.ref p) H')\/(J.go i H'/\∀x H2,J.yld i H' x H2 ->
   upG K g x σ' H2 λσ2 H3=>upT K tc σ2 H3 λb H4=>if b=true then up K te σ2 H4 λy H5=>H5 p=some (.lst acc)/\acc.length<sizeLine/\∃m',m'<m/\W (i+1) m' (acc++[y]) σ2 (EE H5 p (.lst (acc++[y]))) else ∃m',m'<m/\W (i+1) m' acc σ2 H4):=by
 obtain⟨A0,x0⟩:=s;have hA0:¬ (G.M0 p\/A0 p):=λz=>x0.mem p z hp;have hno:∀(i:Nat) d,δ[i]?≠some (.own p d):=λi d e=>hA0 (.inr (x0.own i p d e).2.1);have x1:=x0.addA hp (aJ hp (.lst [])) (by rw[aI];exact λz=>nomatch z)
 refine⟨λi m acc σ' H'=>i<=xs.length/\m=xs.length-i/\acc.length<=i/\H' p=some (.lst acc)/\Sx K G (λb=>A0 b\/b=p) δ P σ H'/\Reps K (λb=>G.M0 b\/(A0 b\/b=p)) H' ((xs.take i).filterMap f) acc /\
  ∃ts:List (Option D),ts.length=nt/\Sx K ⟨λb=>G.M0 b\/(A0 b\/b=p),H',λ_=>False⟩ (λ_=>False) (ts.map oS++ig caps δ) [] σ' H',⟨xs.length,GM _,rfl,Fh _,aI,x1,by rw[G8];exact Reps.nil,List.replicate nt none,FD,Ep x1⟩,?_⟩
 rintro i m acc σ' H' ⟨hi,rfl,hal,hac,x,rs,ts,hts,sx⟩
 by_cases hlt:i<xs.length
 ·refine .inr ⟨hgo _ i H' x hlt,λv H2 hy=>?_⟩;obtain⟨sm0,d,hd,rd⟩:=hyl _ i v H' H2 x hlt hy;replace sx:=re_S sx (Kp.of_same sm0) (x.same sm0).mem;replace x:=x.same sm0;replace hac:=sm0 _ _ hac;replace rs:=Reps.kp (Kp.of_same sm0) _ _ rs;clear sm0 hy;have hmem:d∈xs:=Fm hd;refine⟨_,ts.map oS++ig caps δ,[],d,_,⟨_,sx.push (EH.more (λb z=>.inl (z.elim id λq=>q.elim)) _ _ rd)⟩,o6 (hf d hmem) ts hts,λδ2 h2 σ2 H3 s2=>?_⟩;refine⟨_,_,[],_,s2,h2,λb δ3 h3 H4 s3=>?_⟩;have fmS:=jH (f:=f) hd;have hM1:∀b,(G.M0 b\/(A0 b\/b=p))->H2 b≠none:=x.mem
  cases b with
  | false =>
   obtain⟨ok3,hn⟩:=h3;rw[hn,FZ] at fmS;obtain⟨ts3,hts3,e3⟩:=nM ok3;subst e3;obtain⟨A3,y3⟩:=s3;have sm:ci H2 H4:=λb o e=>y3.old b o e id;have x4:=x.same sm;exact⟨xs.length-(i+1),by omega,hlt,rfl,by omega,sm _ _ hac,x4,by rw[fmS];exact Reps.kp (Kp.of_same sm) _ _ rs,ts3,hts3,re_S y3 Kp.refl x4.mem⟩
  | true =>
   refine up.mk (P:=[]) s3 h3 λy δ4 h4 yv H5 s4=>?_;obtain⟨ok4,hy⟩:=h4;rw[hy] at fmS;obtain⟨ts4,hts4,e4⟩:=nM ok4;subst e4;obtain⟨A4,y4⟩:=s4;have sm:ci H2 H5:=λb o e=>y4.old b o e id;have x5:=x.same sm;have hac5:=sm _ _ hac;have ry:EH K (λb=>G.M0 b\/(A0 b\/b=p)) H5 y yv:=EH.more (λb z=>.inl (.inl z)) _ _ (y4.pnd (y,yv) (by simp));have x6:=x5.poke (p:=p) (ws:=acc++[yv]) (.inr rfl) hac5 hno;have kp:Kp (λb=>G.M0 b\/(A0 b\/b=p)) H5 (EE H5 p (.lst (acc++[yv]))):=by
    have hk:∀b o,b≠p->H5 b=some o->EE H5 p (.lst (acc++[yv])) b=some o:=λb o n e=>by rw[aO n];exact e
    exact⟨λb o e n=>hk b o (λz=>n (.inr (.inr z))) e,λb xs e=>hk b _ (λz=>by rw[z,hac5] at e;cases e) e,λb o u e=>hk b _ (λz=>by rw[z,hac5] at e;cases e) e⟩
   refine⟨hac5,Nat.lt_of_le_of_lt (Fa hal hi) (jt hz),xs.length-(i+1),by omega,hlt,rfl,by rw[Fi,G0];omega,aI,x6,?_,ts4,hts4,re_S y4 kp x6.mem⟩;rw[fmS];exact Reps.kp kp _ _ (Reps.append _ _ _ _ (Reps.kp (Kp.of_same sm) _ _ rs) (Reps.one ry))
 ·have e:i=xs.length:=by omega
  subst e;rw[Fw] at rs;exact .inl ⟨hst _ H' x,k A0 acc H' hA0 (λi a d e=>(x0.own i a d e).2.1) x hac rs⟩
def mF{J:It}{te:E1}{H1:Hp}{Q:VK}(s:S K G δ P σ H1)(hz:xs.length<=9000)
  (hgo:∀A i H,Sx K G A δ P σ H->i<xs.length->J.go i H) (hst:∀A H,Sx K G A δ P σ H->J.stop xs.length H)
  (hyl:∀A i x H H2,Sx K G A δ P σ H->i<xs.length->J.yld i H x H2->ci H H2/\∃d,xs[i]?=some d/\EH K (λb=>G.M0 b\/A b) H2 d x)
  (hf:∀x∈xs,wm nt λts=>g x (ts++ig caps δ) λδ2=>tc δ2 λb δ3=>if b=true then te δ3 (wd λy δ4=>okT nt δ4 (ig caps δ)/\f x=some y) else okT nt δ3 (ig caps δ)/\f x=none)
  (k:∀v H',S K G δ ((.lst (xs.filterMap f),v)::P) σ H'->Q v H') (p:Addr) (hp:H1 p=none) :
  ∃W:Nat->Nat->List V->L2.St->Hp->Prop,(∃m,W 0 m [] (uJ nt caps σ) (EE H1 p (.lst [])))/\∀i m acc σ' H',W i m acc σ' H'->(J.stop i H'/\Q (.ref p) H')\/(J.go i H'/\∀x H2,J.yld i H' x H2 ->
   upG K g x σ' H2 λσ2 H3=>upT K tc σ2 H3 λb H4=>if b=true then up K te σ2 H4 λy H5=>H5 p=some (.lst acc)/\acc.length<sizeLine/\∃m',m'<m/\W (i+1) m' (acc++[y]) σ2 (EE H5 p (.lst (acc++[y]))) else ∃m',m'<m/\W (i+1) m' acc σ2 H4) :=
 jV s hz hgo hst hyl hf p hp λA acc H' hA ho x hac rs=>k (.ref p) H' ⟨A,(x.subA (λb z=>.inl z) ho).push (by
  unfold EH
  exact⟨p,acc,rfl,hA,hac,Reps.more (λb z=>.inl (z.elim .inl λq=>.inr (.inl q))) _ _ rs⟩)⟩
end
def A7(t:E1)(δ:En)(R:List D->En->Prop):Prop:=t δ (wd λd δ1=>qL d λxs=>R xs δ1)
def CC(t:E1)(δ:En)(R:List D->En->Prop):Prop:=t δ (wd λd δ1=>qT d λxs=>R xs δ1)
def CP(t:TDA)(δ:En)(R:List D->En->Prop):Prop:=t δ λds δ1=>qC ds λx r=>qN r <| qI x λj=>-(2 ^ 62)<=j/\j<2 ^ 62/\R ((List.range j.toNat).map λ(i:Nat)=>D.int (i:Int)) δ1
def CI(X:Cx)(tg it:Expr)(src:TDC):Prop:=∃wi,PI X tg it wi/\∀(G:Gf) (δ:En) (P:List (D×V)) (σ:L2.St) (H:Hp) (R:List D->En->Prop) (Q:It->Hp->Prop),S X.K G δ P σ H->src δ R ->
  (∀xs δ1,R xs δ1->∀(J:It) (P1:List (D×V)) (H1:Hp),(∀q∈P,q∈P1)->S X.K G δ1 P1 σ H1->(∀A δ σ i H,Sx X.K G A δ P1 σ H->i<xs.length->J.go i H)->(∀A δ σ H,Sx X.K G A δ P1 σ H->J.stop xs.length H) ->
    (∀A δ σ i x H H2,Sx X.K G A δ P1 σ H->i<xs.length->J.yld i H x H2->ci H H2/\∃d,xs[i]?=some d/\EH X.K (λb=>G.M0 b\/A b) H2 d x)->Q J H1)->wi σ H Q
section
variable {X:Cx} {tg e:Expr} {te:E1} {ta:TDA}
def dP(h:DE X e te):CI X tg e (A7 te):=⟨_,rK h,λG δ P σ H R Q s hs k=>up.mk s hs λd δ1 h1 v H1 s1=>by
 replace h1:=qL.ex h1;obtain⟨xs,e,r⟩:=h1;subst e;have hat:∀A δ σ H,Sx X.K G A δ ((.lst xs,v)::P) σ H->∃a vs,v=.ref a/\H a=some (.lst vs)/\Reps X.K (λb=>G.M0 b\/A b) H xs vs:=λA δ σ H x=>by
  have q:=x.pnd (.lst xs,v) (by simp)
  unfold EH at q;obtain⟨a,vs,e,_,l,r⟩:=q;exact⟨a,vs,e,l,r⟩
 obtain⟨A1,x1⟩:=id s1;obtain⟨a,vs0,rfl,l0,_⟩:=hat _ _ _ _ x1;refine⟨a,rfl,⟨vs0,EY.of l0⟩,k xs δ1 r _ _ H1 (λq hq=>by simp[hq]) s1 (λA δ σ i H x hi=>?_) (λA δ σ H x=>?_) λA δ σ i y H H2 x hi hy=>?_⟩
 ·obtain⟨b,vs,e,l,r⟩:=hat _ _ _ _ x
  cases e
  obtain⟨w',hw,_⟩:=Reps.get _ _ r i xs[i] (by simp[hi]);exact⟨vs,w',EY.of l,hw⟩
 ·obtain⟨b,vs,e,l,r⟩:=hat _ _ _ _ x
  cases e
  exact⟨vs,EY.of l,by rw[Reps.length _ _ r];exact Fh _⟩
 ·obtain⟨b,vs,e,l,r⟩:=hat _ _ _ _ x
  cases e
  obtain⟨e,hy⟩:=hy;obtain⟨w',hw,rw'⟩:=Reps.get _ _ r i xs[i] (by simp[hi]);have z:=hy vs (EY.of l);rw[hw] at z
  cases z
  subst e
  exact⟨ci.refl _,xs[i],by simp[hi],rw'⟩⟩
def gm(h:DE X e te):CI X tg e (CC te):=⟨_,wS h,λG δ P σ H R Q s hs k=>up.mk s hs λd δ1 h1 v H1 s1=>by
 replace h1:=qT.ex h1;obtain⟨xs,e,r⟩:=h1;subst e;have hat:∀A δ σ H,Sx X.K G A δ ((.tup xs,v)::P) σ H->∃a vs,v=.ref a/\E5 X.K H a vs/\Reps X.K (λb=>G.M0 b\/A b) H xs vs:=λA δ σ H x=>by
  have q:=x.pnd (.tup xs,v) (by simp)
  unfold EH at q;exact q
 obtain⟨A1,x1⟩:=id s1;obtain⟨a,vs0,rfl,l0,_⟩:=hat _ _ _ _ x1;refine⟨a,rfl,⟨vs0,l0⟩,k xs δ1 r _ _ H1 (λq hq=>by simp[hq]) s1 (λA δ σ i H x hi=>?_) (λA δ σ H x=>?_) λA δ σ i y H H2 x hi hy=>?_⟩
 ·obtain⟨b,vs,e,l,r⟩:=hat _ _ _ _ x
  cases e
  obtain⟨w',hw,_⟩:=Reps.get _ _ r i xs[i] (by simp[hi]);exact⟨vs,w',l,hw⟩
 ·obtain⟨b,vs,e,l,r⟩:=hat _ _ _ _ x
  cases e
  exact⟨vs,l,by rw[Reps.length _ _ r];exact Fh _⟩
 ·obtain⟨b,vs,e,l,r⟩:=hat _ _ _ _ x
  cases e
  obtain⟨e,hy⟩:=hy;obtain⟨w',hw,rw'⟩:=Reps.get _ _ r i xs[i] (by simp[hi]);have z:=hy vs l;rw[hw] at z
  cases z
  subst e
  exact⟨ci.refl _,xs[i],by simp[hi],rw'⟩⟩
theorem hG{a:Expr}{p:Pos}(hg:Gl X "range")(hm:X.mg "range"=none)(ha:DA X [a] ta)(hs:starEach [a] X.env=[(false,eval a X.env)]:=by rfl):CI X tg (.Call (.Name "range" p) [a] [] pos) (CP ta) :=
 ⟨_,lO hg hm ha hs,λG δ P σ H R Q s hs k=>⟨G,δ,P,_,s,hs,λds δ1 h1 vs H1 hl s1=>by
  replace h1:=qC.ex h1;obtain⟨x,r,e,h1⟩:=h1;replace h1:=qN.ex h1;obtain⟨e',h1⟩:=h1;replace h1:=qI.ex h1;obtain⟨j,e2,h1,h2,r⟩:=h1;subst e2 e' e
  match vs,hl with
  | [v],_ =>
   have q:v=.int j:=by
    obtain⟨A,x⟩:=s1;exact aT (x.pnd (.int j,v) (by simp))
   subst q;refine⟨j,rfl,h1,h2,k _ δ1 r _ P H1 (λq hq=>hq) (s1.sub λp hp=>by simp[hp]) (λA δ σ i H x hi=>?_) (λA δ σ H x=>?_) λA δ σ i y H H2 x hi hy=>?_⟩
   ·rw[E7,GA] at hi;exact hi
   ·rw[E7,GA];exact Fh _
   ·rw[E7,GA] at hi;obtain⟨e,hy⟩:=hy;subst e;refine⟨ci.refl _,.int i,by rw[List.getElem?_map,List.getElem?_range hi];rfl,?_⟩;unfold EH
    rw[hy,G3]⟩⟩
def DF(X:Cx)(ifs:List Expr)(t:TDT):Prop:=PF X ifs (upT X.K t)
def b8:DF X [] (λδ R=>R true δ):=λpins s σ H Q I ⟨G,δ,P,R,s',h,k⟩=>Ck pins s σ H Q I (k true δ h H s')
def gk{c:Expr}{t:TDT}(h:DT X c t):DF X [c] t:=B7 h
theorem bx{elt tgt iter:Expr}{ifs:List Expr}{scope:Scope}{src:TDC}(tn:List Str)(caps:List (Nat×Str))
  (hcalm:X.calm=true) (hclos:closureFor scope X.env=pure cl) (hcell:∀p∈caps,(p.2,NameKind.cell)∉scope.names) (hkind:scope.kind=.function) (hnames:∀y∈scope.names,y.2=.local->scope.names.lookup y.1=some .local)
  (hcl:∀x c,cl.lookup x=some c->X.env.cells.lookup x=some c) (hhas:∀(n:Nat) x,((relabel scope X.env).names.lookup x=some .cell\/(relabel scope X.env).names.lookup x=some .free)->∃c,(cellsFrom n scope.names []++cl).lookup x=some c)
  (hcap:∀p∈caps,X.N[p.1]?=some p.2/\X.env.scope.names.lookup p.2=some .cell/\((relabel scope X.env).names.lookup p.2=some .cell\/(relabel scope X.env).names.lookup p.2=some .free))
  (hi:CI X.nox tgt iter src)
  (hb:∀s2 H2 C fp pn,DG (cT X (tn++caps.map (·.2)) scope cl s2 H2 C fp pn) tgt g/\DF (cT X (tn++caps.map (·.2)) scope cl s2 H2 C fp pn) ifs tc/\DE (cT X (tn++caps.map (·.2)) scope cl s2 H2 C fp pn) elt te)
  (hs:∀x,foldedSetIterable iter X.env x=pure x:=by intro _;rfl):DE X.nox (.ListComp elt [⟨tgt,iter,ifs,0⟩] scope pos) (wv src tn.length caps g tc te):=by
 obtain⟨wi,hi,hw⟩:=hi;refine PE.imp (Ak (g:=upG X.K g) (tc:=upT X.K tc) (te:=up X.K te) tn caps hcalm hclos hcell hkind hnames hcl hhas hcap hi hb hs) λσ H Q ⟨G,δ,P,R,s,h,k,_⟩=>?_;refine hw G δ P σ H _ _ s h λxs δ1 ⟨hz,f,hf,r⟩ J P1 H1 hP s1 hgo hst hyl p hp=>?_
 exact mF s1 hz (λA i H x hi=>hgo A _ _ i H x hi) (λA H x=>hst A _ _ H x) (λA i x H H2 s hi hy=>hyl A _ _ i x H H2 s hi hy) hf (λv H' s'=>k _ δ1 r v H' (s'.sub λq hq=>by
  rcases Fj.mp hq with rfl | hq
  ·simp
  ·exact E9 _ (hP q hq))) p hp
theorem gZ(hX:X.nox=X){elt tgt iter:Expr}{ifs:List Expr}{scope:Scope}{src:TDC}(tn:List Str)(caps:List (Nat×Str))
  (hcalm:X.calm=true) (hclos:closureFor scope X.env=pure cl) (hcell:∀p∈caps,(p.2,NameKind.cell)∉scope.names) (hkind:scope.kind=.function) (hnames:∀y∈scope.names,y.2=.local->scope.names.lookup y.1=some .local)
  (hcl:∀x c,cl.lookup x=some c->X.env.cells.lookup x=some c) (hhas:∀(n:Nat) x,((relabel scope X.env).names.lookup x=some .cell\/(relabel scope X.env).names.lookup x=some .free)->∃c,(cellsFrom n scope.names []++cl).lookup x=some c)
  (hcap:∀p∈caps,X.N[p.1]?=some p.2/\X.env.scope.names.lookup p.2=some .cell/\((relabel scope X.env).names.lookup p.2=some .cell\/(relabel scope X.env).names.lookup p.2=some .free))
  (hi:CI X.nox tgt iter src)
  (hb:∀s2 H2 C fp pn,DG (cT X (tn++caps.map (·.2)) scope cl s2 H2 C fp pn) tgt g/\DF (cT X (tn++caps.map (·.2)) scope cl s2 H2 C fp pn) ifs tc/\DE (cT X (tn++caps.map (·.2)) scope cl s2 H2 C fp pn) elt te)
  (hs:∀x,foldedSetIterable iter X.env x=pure x:=by intro _;rfl):DE X (.ListComp elt [⟨tgt,iter,ifs,0⟩] scope pos) (wv src tn.length caps g tc te):=by
 have q:=bx (X:=X) tn caps hcalm hclos hcell hkind hnames hcl hhas hcap hi hb hs (pos:=pos)
 rw[hX] at q;exact q
end
def AV(cells:List (Str×Addr)):List (Str×Addr)->Prop
 | []=>True
 | y::r=>cells.lookup y.1=some y.2/\AV cells r
theorem a8{cells:List (Str×Addr)}:∀ {cl:List (Str×Addr)},AV cells cl->∀x c,cl.lookup x=some c->cells.lookup x=some c
 | [],_,x,c,h=>by cases h
 | y::r,⟨h1,h2⟩,x,c,h=>by
  rw[List.lookup_cons] at h
  cases e:x==y.1 with
  | true =>
   rw[e] at h;have e:=eq_of_beq e
   cases h
   rw[e];exact h1
  | false =>
   rw[e] at h;exact a8 h2 x c h
theorem be{names:List (Str×NameKind)}(h:(names.all λy=>!(y.2 == .cell||y.2 == .free)||(cl.lookup y.1).isSome)=true):∀x,(names.lookup x=some .cell\/names.lookup x=some .free)->∃c,cl.lookup x=some c:=λx hx=>by
 have key:∀(ns:List (Str×NameKind)) k,ns.lookup x=some k->(x,k)∈ns:=λns=>by
  induction ns with
  | nil=>intro k h;cases h
  | cons y r ih =>
   intro k h;rw[List.lookup_cons] at h
   cases e:x==y.1 with
   | true =>
    rw[e] at h;have e:=eq_of_beq e
    cases h
    rw[e];exact Fe ..
   | false =>
    rw[e] at h;exact E9 _ (ih k h)
 have go:∀k,(k=.cell\/k=.free)->names.lookup x=some k->∃c,cl.lookup x=some c:=λk hk e=>by
  have m:=key _ _ e
  have q:=Gr.mp h _ m
  have hb:((k==NameKind.cell||k == .free))=true:=by rcases hk with rfl | rfl<;>rfl
  simp only[hb,Bool.not_true,Bool.false_or] at q;exact Option.isSome_iff_exists.mp q
 rcases hx with e | e
 ·exact go _ (.inl rfl) e
 ·exact go _ (.inr rfl) e
def wZ(p:Nat×Str->Prop):List (Nat×Str)->Prop
 | []=>True
 | y::r=>p y/\wZ p r
theorem aP{p:Nat×Str->Prop}:∀ {l:List (Nat×Str)},wZ p l->∀y∈l,p y
 | [],_,y,h=>by cases h
 | z::r,⟨h1,h2⟩,y,h=>by
  rcases Fj.mp h with rfl | h
  ·exact h1
  ·exact aP h2 y h
end DL
namespace DL
open PySem PySem.Spec PyProof.Rows L2
variable {k:Nat} {x y:Str} {ps:List Str} {st:Stmt} {p:Pos}
abbrev FO:=D->List D->(D->D->Prop)->Prop
def spO(K:PySem.W.Frag)(f:FO):Sp:=λvs H Q _=>∃(M:Addr->Prop) (a:Addr) (d0:D) (vs':List V) (ds:List D) (R:D->D->Prop),vs=.ref a::vs'/\(∀b,M b->H b≠none)/\¬ M a/\bv K (λb=>M b\/b=a) H a d0/\Reps K (λb=>M b\/b=a) H ds vs'/\f d0 ds R /\
 ∀r d1,R r d1->∀v H',(∀b o,b≠a->H b=some o->H' b=some o)->bv K (λb=>M b\/b=a) H' a d1->EH K (λb=>M b\/b=a) H' r v->Q v H'
def wx(K:PySem.W.Frag)(f:FO):Sp:=λvs H Q E=>∃v0 v1,vs=[v0,v1]/\spO K f [v1,v0] H Q E
section
variable {P:Program} {w:World} {K:PySem.W.Frag} {mg:Str→Option Value} {base:Heap}
theorem Cal.imp{sp sp':Sp}(C:Cal P w K mg base k x ps sp)(h:∀vs H Q E,sp' vs H Q E->sp vs H Q E):Cal P w K mg base k x ps sp':=by
 obtain⟨a,fd,F,b,kp,m⟩:=C.ex;exact⟨a,fd,F.imp h,b,kp,m⟩
theorem ip{f:List D->(D->Prop)->Prop}(F:Fd K mg x st ps)(k:Nat)(h:∀ds R,¬ f ds R):Cal P w K mg base k x ps (E2 K f):=by
 obtain⟨a,fd,Fu,b,m⟩:=F.ex;have no:∀vs H Q E,¬ E2 K f vs H Q E:=λvs H Q E ⟨_,ds,R,_,_,hf,_⟩=>h ds R hf;exact⟨a,fd,⟨λvs H Q E h=>absurd h (no vs H Q E),λA outer s H args us vs Q E _ _ _ _ h=>absurd h (no vs H Q E)⟩,b,Fu.kp,m⟩
theorem t5{f:FO}(F:Fd K mg x st ps)(k:Nat)(h:∀d ds R,¬ f d ds R):Cal P w K mg base k x ps (wx K f):=by
 obtain⟨a,fd,Fu,b,m⟩:=F.ex;have no:∀vs H Q E,¬ wx K f vs H Q E:=λvs H Q E ⟨_,_,_,_,_,d0,_,ds,R,_,_,_,_,_,hf,_⟩=>h d0 ds R hf;exact⟨a,fd,⟨λvs H Q E h=>absurd h (no vs H Q E),λA outer s H args us vs Q E _ _ _ _ h=>absurd h (no vs H Q E)⟩,b,Fu.kp,m⟩
theorem qg{M:Addr->Prop}{a:Addr}{d0:D}{ds1 ds2:List D}{vs1 vs2:List V}{H:Hp}(N:List Str)(m:∀b,M b->H b≠none)(na:¬ M a)(ow:bv K (λb=>M b\/b=a) H a d0)(r1:Reps K (λb=>M b\/b=a) H ds1 vs1)(r2:Reps K (λb=>M b\/b=a) H ds2 vs2) :
  S K ⟨M,H,λb=>b=a⟩ (ds1.map Sl.dat++Sl.own a d0::(ds2.map Sl.dat++List.replicate (N.length-(ds1.length+1+ds2.length)) Sl.no)) [] (L2.start N (vs1++.ref a::vs2)) H:=by
 have hl1:=Reps.length _ _ r1
 have hl2:=Reps.length _ _ r2
 have hHa:H a≠none:=by
  cases d0 with
  | lst ds=>obtain⟨vs,q,_⟩:=ow;rw[q];exact λz=>nomatch z
  | dct ks ds=>obtain⟨vs,q,_⟩:=ow;rw[q];exact λz=>nomatch z
  | _=>exact ow.elim
 have place:∀(i:Nat) z,(ds1.map Sl.dat++Sl.own a d0::(ds2.map Sl.dat++List.replicate (N.length-(ds1.length+1+ds2.length)) Sl.no))[i]?=some z ->
   (∃d,ds1[i]?=some d/\z=.dat d)\/(i=ds1.length/\z=.own a d0)\/(∃d,ds1.length+1<=i/\ds2[i-(ds1.length+1)]?=some d/\z=.dat d)\/z=.no:=λi z e=>by
  by_cases h1:i<ds1.length
  ·rw[List.getElem?_append_left (by rw[E7];exact h1),List.getElem?_map] at e
   cases hd:ds1[i]? with
   | none=>rw[hd] at e;cases e
   | some d=>rw[hd] at e;exact .inl ⟨d,rfl,(Fz e).symm⟩
  ·rw[List.getElem?_append_right (by rw[E7];omega),E7] at e
   by_cases h2:i=ds1.length
   ·subst h2;rw[Nat.sub_self,List.getElem?_cons_zero] at e;exact .inr (.inl ⟨rfl,(Fz e).symm⟩)
   ·have e3:i-ds1.length=(i-(ds1.length+1))+1:=by omega
    rw[e3,List.getElem?_cons_succ] at e
    by_cases h3:i-(ds1.length+1)<ds2.length
    ·rw[List.getElem?_append_left (by rw[E7];exact h3),List.getElem?_map] at e
     cases hd:ds2[i-(ds1.length+1)]? with
     | none=>rw[hd] at e;cases e
     | some d=>rw[hd] at e;exact .inr (.inr (.inl ⟨d,by omega,rfl,(Fz e).symm⟩))
    ·rw[List.getElem?_append_right (by rw[E7];omega),List.getElem?_replicate] at e
     split at e
     ·exact .inr (.inr (.inr (Fz e).symm))
     ·cases e
 have st:∀i,i<(vs1++V.ref a::vs2).length->(L2.start N (vs1++.ref a::vs2))[i]?=(vs1++V.ref a::vs2)[i]?.map some:=λi hi=>by
  unfold L2.start;rw[List.getElem?_append_left (by rw[E7];exact hi),List.getElem?_map]
 have hM:∀b,(M b\/b=a)->(M b\/b=a)\/H b=none:=λb h=>.inl h
 refine⟨λb=>b=a,λb o e _=>e,λb e=>e,m,λb h=>⟨by rw[h];exact hHa,by rw[h];exact na⟩,λb h=>.inr h,λb h=>by rw[h];exact hHa,?_,λi d e=>?_,λi a' d e=>?_,λi j a' d e h1 h2=>?_,λp hp=>(nomatch hp)⟩
 ·unfold L2.start;simp only[List.length_append,List.length_map,List.length_cons,List.length_replicate];omega
 ·rcases place i _ e with⟨d',hd,z⟩ | ⟨_,z⟩ | ⟨d',hi,hd,z⟩ | z
  ·cases z
   obtain⟨v,ev,rv⟩:=Reps.get _ _ r1 i d hd;have hi:i<vs1.length:=(List.getElem?_eq_some_iff.mp ev).1;exact⟨v,by rw[st i (by rw[Fi];omega),List.getElem?_append_left hi,ev];rfl,rv⟩
  ·cases z
  ·cases z
   obtain⟨v,ev,rv⟩:=Reps.get _ _ r2 _ d hd;have hi2:i-(ds1.length+1)<vs2.length:=(List.getElem?_eq_some_iff.mp ev).1;refine⟨v,?_,rv⟩;rw[st i (by rw[Fi,Fl];omega),List.getElem?_append_right (by omega),<- hl1];have e3:i-ds1.length=(i-(ds1.length+1))+1:=by omega
   rw[e3,List.getElem?_cons_succ,ev];rfl
  ·cases z
 ·rcases place i _ e with⟨d',hd,z⟩ | ⟨hi,z⟩ | ⟨d',hi,hd,z⟩ | z
  ·cases z
  ·cases z
   subst hi;refine⟨?_,rfl,ow⟩;rw[st _ (by rw[Fi,Fl];omega),List.getElem?_append_right (by omega),hl1,Nat.sub_self];rfl
  ·cases z
  ·cases z
 ·have u:∀i a' d,(ds1.map Sl.dat++Sl.own a d0::(ds2.map Sl.dat++List.replicate (N.length-(ds1.length+1+ds2.length)) Sl.no))[i]?=some (.own a' d)->i=ds1.length:=λi a' d e=>by
   rcases place i _ e with⟨d',hd,z⟩ | ⟨hi,z⟩ | ⟨d',hi,hd,z⟩ | z
   ·cases z
   ·exact hi
   ·cases z
   ·cases z
  rw[u i _ _ h1,u j _ _ h2]
def iX{M A':Addr->Prop}{a:Addr}{d:D}{H':Hp}(ha:A' a)(o:bv K (λb=>M b\/A' b) H' a d):bv K (λb=>M b\/b=a) H' a d:=bv.more (λb z=>.inl (z.elim .inl λe=>.inr (by rw[e];exact ha))) o
theorem fn_O{N:List Str}{f:FO}(F:Fd K mg x st ps)(Sc:aA N ps (ap st))(len:∀d ds R,f d ds R->ds.length+1=ps.length)
    (hbody:∀(fa:Addr) (cdv:Value) (A:Around) (outer:List Env) (s:Shared) (H:Hp) (E:XK) (a:Addr) (d0:D) (ds:List D) (R:D->D->Prop),fS k (A.deeper (envOfC x (ap st) s.heap.objs.size fa cdv))->f d0 ds R ->
      ∃t,DSs (uG CX0 P w K mg base N x (ap st) fa cdv A outer s H E).nox (bN st) t /\
        t { nx:=λδ=>∃d1,δ[0]?=some (.own a d1)/\R .non d1,rt:=λd δ=>∃d1,δ[0]?=some (.own a d1)/\R d d1 } (Sl.own a d0::(ds.map Sl.dat++List.replicate (N.length-(1+ds.length)) Sl.no))) :
    Cal P w K mg base (k+1) x ps (spO K f):=by
  obtain⟨fa,fd,Fu,b,mm⟩:=F.ex;refine⟨fa,fd,Fu.ok Sc (λvs H Q E h=>?_) (λcdv A outer s H vs Q E hr h=>?_),b,Fu.kp,mm⟩
  · obtain⟨M,a,d0,vs',ds,R,rfl,m,na,ow,rs,hf,hk⟩:=h;rw[Fl,<- Reps.length _ _ rs];exact len _ _ _ hf
  · obtain⟨M,a,d0,vs',ds,R,rfl,m,na,ow,rs,hf,hk⟩:=h;obtain⟨t,ht,hq⟩:=hbody fa cdv A outer s H E a d0 ds R hr hf;have ss:=qg (ds1:=[]) (vs1:=[]) N m na ow Reps.nil rs;rw[show ([]:List D).length+1+ds.length=1+ds.length by simp] at ss;refine⟨_,ht,_,_,[],_,ss,hq,λδ' ⟨d1,e,r⟩ σ' H' ⟨A',x⟩=>?_,⟨λd δ' ⟨d1,e,r⟩ v σ' H' ⟨A',x⟩=>?_,λ_ h=>h.elim,λ_ _ _ z=>z.elim⟩,λ_ h=>h.elim,λ_ h=>h.elim,λz=>z.elim⟩
    · obtain⟨_,aa,oo⟩:=x.own 0 a d1 e;exact hk _ _ r .non H' (λb o n e=>x.old b o e n) (iX aa oo) (by unfold EH;rfl)
    · obtain⟨_,aa,oo⟩:=x.own 0 a d1 e;exact hk _ _ r v H' (λb o n e=>x.old b o e n) (iX aa oo) (EH.more (λb z=>.inl (z.elim .inl λe=>.inr (by rw[e];exact aa))) _ _ (x.pnd (d,v) (by simp)))
theorem D7{N:List Str}{f:FO}(F:Fd K mg x st ps)(Sc:aA N ps (ap st))(hp:ps.length=2)(len:∀d ds R,f d ds R->ds.length=1)
    (hbody:∀(fa:Addr) (cdv:Value) (A:Around) (outer:List Env) (s:Shared) (H:Hp) (E:XK) (a:Addr) (d0 d:D) (R:D->D->Prop),fS k (A.deeper (envOfC x (ap st) s.heap.objs.size fa cdv))->f d0 [d] R ->
      ∃t,DSs (uG CX0 P w K mg base N x (ap st) fa cdv A outer s H E).nox (bN st) t /\
        t { nx:=λδ=>∃d1,δ[1]?=some (.own a d1)/\R .non d1,rt:=λd δ=>∃d1,δ[1]?=some (.own a d1)/\R d d1 } (Sl.dat d::Sl.own a d0::List.replicate (N.length-2) Sl.no)) :
    Cal P w K mg base (k+1) x ps (wx K f):=by
  obtain⟨fa,fd,Fu,b,mm⟩:=F.ex;refine⟨fa,fd,Fu.ok Sc (λvs H Q E h=>?_) (λcdv A outer s H vs Q E hr h=>?_),b,Fu.kp,mm⟩
  · obtain⟨v0,v1,rfl,_⟩:=h;exact hp.symm
  · obtain⟨v0,v1,rfl,M,a,d0,vs',ds,R,e,m,na,ow,rs,hf,hk⟩:=h
    cases e
    have hl:=len _ _ _ hf
    match ds,hl with
    | [d],_ =>
      obtain⟨t,ht,hq⟩:=hbody fa cdv A outer s H E a d0 d R hr hf;have ss:=qg (ds2:=[]) (vs2:=[]) N m na ow rs Reps.nil;refine⟨_,ht,_,_,[],_,ss,hq,λδ' ⟨d1,e,r⟩ σ' H' ⟨A',x⟩=>?_,⟨λd δ' ⟨d1,e,r⟩ v σ' H' ⟨A',x⟩=>?_,λ_ h=>h.elim,λ_ _ _ z=>z.elim⟩,λ_ h=>h.elim,λ_ h=>h.elim,λz=>z.elim⟩
      · obtain⟨_,aa,oo⟩:=x.own 1 a d1 e;exact hk _ _ r .non H' (λb o n e=>x.old b o e n) (iX aa oo) (by unfold EH;rfl)
      · obtain⟨_,aa,oo⟩:=x.own 1 a d1 e;exact hk _ _ r v H' (λb o n e=>x.old b o e n) (iX aa oo) (EH.more (λb z=>.inl (z.elim .inl λe=>.inr (by rw[e];exact aa))) _ _ (x.pnd (d,v) (by simp)))
end
def kN(i:Nat)(R:bh)(δ:En)(d:D):Prop:=∀a,lJ δ i (.own a d) R.nx
def kO(i:Nat)(a:Addr)(R:W->En->Prop)(δ:En)(r d:D):Prop:=lJ δ i (.own a d) (R (.d r))
def BP(i:Nat)(t:TDA)(R:bh)(δ:En):Prop:=t δ λds δ1=>q9 ds (∀a,lJ δ1 i (.own a (.lst ds)) R.nx)
def CH(i:Nat)(R:bh)(δ:En):Prop:=∀a,lJ δ i (.own a (.dct [] [])) R.nx
def AR(i:Nat)(R:bh)(δ:En):Prop:=qW δ[i]? λ_ d=>R.ro d
def Bu(t:TDA)(R:bh)(δ:En):Prop:=t δ λds _=>q9 ds (R.ro (.lst ds))
def Bp(i:Nat)(δ:En)(R:W->En->Prop):Prop:=qWL δ[i]? λ_ ds=>R (.d (.int ds.length)) δ
def um(i:Nat)(δ:En)(R:W->En->Prop):Prop:=qWL δ[i]? λ_ ds=>R (.d (.tup ds)) δ
def nK(i:Nat)(t:TDS)(R:bh)(δ:En):Prop:=qW δ[i]? λ_ d=>lJ δ i (.dat d) (t R)
def tI(i:Nat)(f:FO)(ta:E1)(δ:En)(R:W->En->Prop):Prop:=ta δ (wd λz δ1=>qW δ1[i]? λa d0=>f d0 [z] (kO i a R δ1))
def Bn(i:Nat)(ta:E1)(R:bh)(δ:En):Prop:=qWL δ[i]? λa _=>ta δ (wd λx δ1=>zU δ1[i]? λds=>ds.length<9000/\lJ δ1 i (.own a (.lst (ds++[x]))) R.nx)
section
variable {X:Cx} {pos:Pos} {a b e:Expr} {es:List Expr} {ta tb:E1} {t:TDA} {f:List D→(D→Prop)→Prop}
theorem S.ret{K:PySem.W.Frag}{G:Gf}{δ:En}{P:List (D×V)}{σ:L2.St}{H:Hp}{i:Nat}{a:Addr}{d:D}(s:S K G δ P σ H)(e:δ[i]?=some (.own a d)):xw K G H a d:=by
 obtain⟨A,x⟩:=s;obtain⟨_,aa,oo⟩:=x.own i a d e;exact⟨x.old,x.new a aa,λz=>(x.new a aa).elim (λq=>x.m0 a z q) λq=>(x.pm a q).2 z,iX aa oo⟩
theorem kY(i:Nat)(hN:X.N[i]?=some x:=by rfl)(hv:Vis X.env.scope x:=by walk_at "v3")(hd:(x==("__debug__":Str))=false:=by decide)
  (hcd:(x==("__classdict__":Str))=false:=by decide):DS X (.Return (some (.Name x p)) pos) (AR i) :=
 PS.imp (sU (d9 hN hv hd hcd)) λE σ H ⟨G,δ,P,R,s,h,_,k,_⟩=>let ⟨a,d,e,r⟩:=qW.ex h;⟨.ref a,s.own e,k.2.1 d r a H (s.ret e)⟩
def ds_retL(h:DA X es t):DS X (.Return (some (.List es p)) pos) (Bu t) :=
 PS.imp (sU (sQ h)) λE σ H ⟨G,δ,P,R,s,h,_,k,_⟩=>⟨G,δ,P,_,s,h,λds δ1 h9 vs H1 hl ⟨A,x⟩=>⟨by rw[<- hl];exact fB (q9.ex h9).1,λp hp=>k.2.1 _ (q9.ex h9).2 p _ (by
  have rs:=x.reps ds vs hl (λq hq=>Fx _ hq)
  have sm:=aJ hp (.lst vs)
  have nm:¬ (G.M0 p\/A p):=λz=>x.mem p z hp
  refine⟨λb o e n=>sm b o (x.old b o e n),.inl ?_,λz=>nm (.inl z),vs,aI,Reps.kp (Kp.of_same sm) _ _ (Reps.more (λb z=>?_) _ _ rs)⟩
  ·cases q:G.H0 p with
   | none=>rfl
   | some o=>exact absurd hp (x.stay p (by rw[q];exact λz=>nomatch z))
  ·rcases z with z | z
   ·exact .inl (.inl z)
   ·exact .inr (by rw[z];exact hp))⟩⟩
theorem dg(i:Nat){pos':Pos}(hN:X.N.Nodup)(h:DA X es t)(hi:X.N[i]?=some x:=by rfl)(hx:Loc X.env.scope x:=by walk_at "v2")(hs:swapsWith (.List es p) (some (.Name x pos')) pos.line X.env=pure false:=by rfl)
  (hf:X.fn x=true\/X.env.scope.names.lookup x=some .local :=by walk_at "v1"):DS X (.Assign [.Name x pos'] (.List es p) pos) (BP i t) :=
 PS.imp (mC hN hi hx (sQ h) hs hf) λE σ H ⟨G,δ,P,R,s,h,k,_⟩=>⟨G,δ,P,_,s,h,λds δ1 h9 vs H1 hl ⟨A,x⟩=>⟨by rw[<- hl];exact fB (q9.ex h9).1,λp hp=>by
  have r:=(q9.ex h9).2
  have rs:=x.reps ds vs hl (λq hq=>Fx _ hq)
  have sm:=aJ hp (.lst vs)
  refine k _ (r p) _ _ ⟨_,x.claim (P':=P) hp sm ⟨vs,aI,Reps.kp (Kp.of_same sm) _ _ (Reps.more (λb z=>?_) _ _ rs)⟩ λq hq=>Fo _ hq⟩
  rcases z with z | z
  ·exact .inl z
  ·exact .inr (by rw[z];exact hp)⟩⟩
theorem lm(i:Nat){pos':Pos}(hN:X.N.Nodup)(hi:X.N[i]?=some x:=by rfl)(hx:Loc X.env.scope x:=by walk_at "v2")(hs:swapsWith (.Dict [] [] p) (some (.Name x pos')) pos.line X.env=pure false:=by rfl)
  (hf:X.fn x=true\/X.env.scope.names.lookup x=some .local :=by walk_at "v1"):DS X (.Assign [.Name x pos'] (.Dict [] [] p) pos) (CH i) :=
 PS.imp (mC hN hi hx oR hs hf) λE σ H ⟨G,δ,P,R,⟨A,x⟩,h,k,_⟩=>λp hp=>by
  have sm:=aJ hp (.dK [])
  exact k _ (h p) _ _ ⟨_,x.claim (P':=P) hp sm ⟨[],by rw[aI];rfl,rfl,Reps.nil⟩ λq hq=>hq⟩
theorem zF{K:PySem.W.Frag}{G:Gf}{A:Addr->Prop}{δ:En}{P P':List (D×V)}{σ:L2.St}{H:Hp}{i:Nat}{a:Addr}{d0:D}{ds:List D}{vs:List V}{f:FO}{R:D->D->Prop}{Q:VK}{E:XK}(x:Sx K G A δ P σ H)(hi:δ[i]?=some (.own a d0))(hl:ds.length=vs.length)(hp:∀p∈ds.zip vs,p∈P)
  (hP:∀p∈P',p∈P) (hf:f d0 ds R) (k:∀r d1,R r d1->∀v H',S K G (δ.set i (.own a d1)) ((r,v)::P') σ H'->Q v H'):spO K f (.ref a::vs) H Q E:=by
 obtain⟨_,aa,oo⟩:=x.own i a d0 hi;have e1:∀b,(((G.M0 b\/A b)/\b≠a)\/b=a)->(G.M0 b\/A b):=λb h=>h.elim (λz=>z.1) λz=>.inr (by rw[z];exact aa);have e2:∀b,(G.M0 b\/A b)->(((G.M0 b\/A b)/\b≠a)\/b=a):=λb h=>by
  by_cases z:b=a
  ·exact .inr z
  ·exact .inl ⟨h,z⟩
 refine⟨λb=>(G.M0 b\/A b)/\b≠a,a,d0,vs,ds,R,rfl,λb z=>x.mem b z.1,λz=>z.2 rfl,bv.more (λb z=>.inl (e1 b z)) oo,Reps.more (λb z=>.inl (e1 b z)) _ _ (x.reps ds vs hl hp),hf,λr d1 hr v H' hk ow rp=>k r d1 hr v H' ⟨A,?_⟩⟩;exact((x.change hi hk (bv.more (λb z=>.inl (e2 b z)) ow)).sub hP).push (EH.more (λb z=>.inl (e2 b z)) _ _ rp)
theorem lU(i:Nat){f:FO}{x y:Str}{k:Nat}{ps:List Str}{p p2 pos:Pos}(C:Cal X.prog X.w X.K X.mg X.base k x ps (wx X.K f))(hr:fS k X.A)(hg:Gl X x)(ha:DE X a ta)(hN:X.N[i]?=some y:=by rfl)
  (hv:Vis X.env.scope y:=by walk_at "v3") (hd:(y==("__debug__":Str))=false:=by decide) (hcd:(y==("__classdict__":Str))=false:=by decide) (hdb:(x==("__debug__":Str))=false:=by decide)
  (he:starEach [a,.Name y p2] X.env=(false,eval a X.env)::starEach [.Name y p2] X.env:=by rfl) (he2:starEach [.Name y p2] X.env=(false,eval (.Name y p2) X.env)::starEach [] X.env:=by rfl) (hpl:(backTo pos (starEach [.Name y p2] X.env)).any (·.1)=false:=by rfl) :
  DE X (.Call (.Name x p) [a,.Name y p2] [] pos) (tI i f ta):=by
 obtain⟨g,fd,F,b,kp,m⟩:=C.ex;refine PE.imp (lI F hr hg m kp b .nil uW (bI ha (bI (d9 hN hv hd hcd) eQ he2) he) hdb he hpl) λσ H Q ⟨G,δ,P,R,s,h,k,_⟩=>up.mk s h λz δ1 h1 v H1 s1=>?_;replace h1:=qW.ex h1;obtain⟨a,d0,hi,hf⟩:=h1;refine⟨.ref a,s1.own hi,?_⟩;show wx X.K f [v,.ref a] H1 Q _;obtain⟨A,x⟩:=s1;exact⟨v,.ref a,rfl,zF (ds:=[z]) x hi rfl (by simp) (P':=P) (λq hq=>E9 _ hq) hf λr d1 hr v H' s'=>k r _ hr v H' s'⟩
theorem fZ{K:PySem.W.Frag}{G:Gf}{A:Addr->Prop}{δ:En}{P:List (D×V)}{σ:L2.St}{H:Hp}{i:Nat}{a:Addr}{ds:List D}(x:Sx K G A δ P σ H)(hi:δ[i]?=some (.own a (.lst ds))):σ[i]?=some (some (.ref a))/\A a/\∃vs,H a=some (.lst vs)/\Reps K (λb=>G.M0 b\/A b) H ds vs:=by
 obtain⟨h1,h2,vs,h3,h4⟩:=x.own i a _ hi;exact⟨h1,h2,vs,h3,h4⟩
theorem Ax(i:Nat){p2 pos:Pos}(hg:Gl X "len")(hm:X.mg "len"=none)(hv':bootBuiltins "len"=some (.builtin "len"))(hN:X.N[i]?=some y:=by rfl)(hv:Vis X.env.scope y:=by walk_at "v3")
  (hd:(y==("__debug__":Str))=false:=by decide) (hcd:(y==("__classdict__":Str))=false:=by decide) (he:starEach [.Name y p2] X.env=(false,eval (.Name y p2) X.env)::starEach [] X.env:=by rfl) (hpl:(backTo pos (starEach [] X.env)).any (·.1)=false:=by rfl) :
  DE X (.Call (.Name "len" p) [.Name y p2] [] pos) (Bp i) :=
 PE.imp (kJ gu hg hm hv' (bI (d9 hN hv hd hcd) eQ he) (by decide) (by decide) he hpl) λσ H Q ⟨G,δ,P,R,s,h,k,_⟩=>by
  replace h:=qWL.ex h;obtain⟨a,ds,e,h⟩:=h;obtain⟨A,x⟩:=id s;obtain⟨h1,aa,vs,hvs,rs⟩:=fZ x e;exact⟨.ref a,h1,a,vs,rfl,.inl (EY.of hvs),k _ δ h _ H (s.sc (by rw[Reps.length _ _ rs];rfl))⟩
theorem d5(i:Nat){p2 pos:Pos}(hg:Gl X "tuple")(hm:X.mg "tuple"=none)(hv':bootBuiltins "tuple"=some (.type "tuple"))(hN:X.N[i]?=some y:=by rfl)(hv:Vis X.env.scope y:=by walk_at "v3")
  (hd:(y==("__debug__":Str))=false:=by decide) (hcd:(y==("__classdict__":Str))=false:=by decide) (he:starEach [.Name y p2] X.env=(false,eval (.Name y p2) X.env)::starEach [] X.env:=by rfl) (hpl:(backTo pos (starEach [] X.env)).any (·.1)=false:=by rfl) :
  DE X (.Call (.Name "tuple" p) [.Name y p2] [] pos) (um i) :=
 PE.imp (iP fj hg hm hv' (bI (d9 hN hv hd hcd) eQ he) (by decide) (by decide) he hpl) λσ H Q ⟨G,δ,P,R,s,h,k,_⟩=>by
  replace h:=qWL.ex h;obtain⟨a,ds,e,h⟩:=h;obtain⟨A,x⟩:=id s;obtain⟨h1,aa,vs,hvs,rs⟩:=fZ x e;refine⟨.ref a,h1,a,vs,rfl,.inl ⟨EY.of hvs,λl hl=>k _ δ h _ _ ⟨A,(x.same (aJ hl _)).push ?_⟩⟩⟩;unfold EH;exact⟨l,vs,rfl,E5.of aI,Reps.kp (Kp.of_same (aJ hl _)) _ _ rs⟩
theorem ba(i:Nat){apos cpos:Pos}(he:DE X e ta)(hN:X.N[i]?=some y:=by rfl)(hv:Vis X.env.scope y:=by walk_at "v3")
  (hd:(y==("__debug__":Str))=false:=by decide) (hcd:(y==("__classdict__":Str))=false:=by decide)
  (hbase:attributeBase (.Name y p) "append" X.env (eval (.Name y p) X.env)=eval (.Name y p) X.env:=by rfl)
  (hfew:((backTo cpos (starEach [e] X.env)).all (λx=>!x.1)&&(backToKw cpos (keywordEach [] X.env)).all (λx=>x.1.isSome)&&decide ([e].length+([]:List Keyword).length+(if ([]:List Keyword).isEmpty then 0 else 1)<30))=true:=by rfl)
  (hline:(apos.endLine==cpos.line)=true:=by rfl) (hs:starEach [e] X.env=(false,eval e X.env)::starEach [] X.env:=by rfl) (hplain:(backTo cpos (starEach [] X.env)).any (·.1)=false:=by rfl)
  (hsw:swapsWith (.Call (.Attribute (.Name y p) "append" apos) [e] [] cpos) none pos.line X.env=pure false:=by rfl) :
  DS X (.Expr (.Call (.Attribute (.Name y p) "append" apos) [e] [] cpos) pos) (Bn i ta) :=
 PS.imp (ni (BF PySem.F.plainAttrs_list PySem.F.slot_list_append PySem.F.type_list_append mn (d9 hN hv hd hcd) (bI he eQ hs) hbase hfew hline hs hplain) hsw) λE σ H ⟨G,δ,P,R,s,h,k,_⟩=>by
  replace h:=qWL.ex h;obtain⟨a,ds0,hi0,h⟩:=h;obtain⟨A0,x0⟩:=id s;obtain⟨h0,_,vs0,hvs0,_⟩:=fZ x0 hi0;refine⟨.ref a,h0,.inl ⟨rfl,vs0,EY.of hvs0⟩,up.mk s h λx δ1 h1 v H1 ⟨A,q⟩=>?_⟩;replace h1:=zU.ex q h0 h1;obtain⟨ds,hi,hz,r⟩:=h1;obtain⟨_,aa,vs,hvs,rs⟩:=fZ q hi;refine⟨a,vs,v,rfl,rfl,hvs,by rw[<- Reps.length _ _ rs];exact jt (GS hz),k _ r _ _ ⟨A,(q.change (d':=.lst (ds++[x])) hi (λb o n e=>by rw[aO n];exact e) ⟨vs++[v],aI,?_⟩).sub (P':=P) λq hq=>E9 _ hq⟩⟩;have kp:Kp (λb=>G.M0 b\/A b) H1 (EE H1 a (.lst (vs++[v]))):=by
   have hk:∀b o,b≠a->H1 b=some o->EE H1 a (.lst (vs++[v])) b=some o:=λb o n e=>by rw[aO n];exact e
   exact⟨λb o e n=>hk b o (λz=>n (.inr (by rw[z];exact aa))) e,λb xs e=>hk b _ (λz=>by rw[z,hvs] at e;cases e) e,λb o u e=>hk b _ (λz=>by rw[z,hvs] at e;cases e) e⟩
  exact Reps.kp kp _ _ (Reps.append _ _ _ _ rs (Reps.one (q.pnd (x,v) (by simp))))
def dw(i:Nat){st:List Stmt}{u:TDS}(h:DSs X st u):DSs X st (nK i u) :=
 PSs.imp h λE σ H ⟨G,δ,P,R,⟨A,x⟩,h,k⟩=>let ⟨a,d,e,h⟩:=qW.ex h;⟨G,_,P,R,⟨_,x.freeze e λz=>(x.new a (x.own i a d e).2.1).elim (λq=>x.m0 a z q) λq=>(x.pm a q).2 z⟩,h,k⟩
end
end DL
namespace DL
open PySem PySem.Spec PyProof.Rows L2
variable {ks:List Str} {x:Str} {vs:List V} {v:V} {ds:List D} {R:D→Prop} {g:Bool→Bool}
def dAt{α:Type}:List Str->List α->Str->Option α
 | k::ks,d::ds,x=>if k=x then some d else dAt ks ds x
 | _,_,_=>none
def mN{α:Type}:List Str->List α->Str->α->List α
 | k::ks,d::ds,x,y=>(if k=x then y else d)::mN ks ds x y
 | _,ds,_,_=>ds
def jD(ks:List Str)(x:Str):List Str:=if x∈ks then ks else ks++[x]
def lK{α:Type}(ks:List Str)(ds:List α)(x:Str)(y:α):List α:=if x∈ks then mN ks ds x y else ds++[y]
theorem py{α:Type}:∀(ks:List Str) (ds:List α) (x:Str) (y:α),(mN ks ds x y).length=ds.length
 | [],ds,_,_=>by cases ds<;>rfl
 | k::ks,[],_,_=>rfl
 | k::ks,d::ds,x,y=>by unfold mN;rw[Fl,Fl,py ks ds x y]
theorem yO{α:Type}{ds:List α}{y:α}(h:ks.length=ds.length):(jD ks x).length=(lK ks ds x y).length:=by
 unfold jD lK
 by_cases e:x∈ks
 ·rw[Fs e,Fs e,py];exact h
 ·rw[Fp e,Fp e,Fi,Fi,h];rfl
theorem wy(x:Str)(h:ks.length=vs.length):((aZ ks vs).any λkv=>decide (kv.1=Sum.inr x))=decide (x∈ks):=by
 induction ks generalizing vs with
 | nil=>rfl
 | cons k ks ih =>
  cases vs with
  | nil=>cases h
  | cons v vs =>
   show ((Sum.inr k,v)::aZ ks vs).any _=_
   rw[HD,ih (G2 h)]
   by_cases e:k=x
   ·subst e;simp
   ·have e2:¬ x=k:=λz=>e z.symm
    simp[e,e2]
theorem uY(x:Str)(y:V):(aZ ks vs).map (λkv=>if kv.1=Sum.inr x then (kv.1,y) else kv)=aZ ks (mN ks vs x y):=by
 induction ks generalizing vs with
 | nil=>rfl
 | cons k ks ih =>
  cases vs with
  | nil=>rfl
  | cons v vs =>
   show ((Sum.inr k,v)::aZ ks vs).map _=(Sum.inr k,if k=x then y else v)::aZ ks (mN ks vs x y)
   rw[FJ,ih]
   by_cases e:k=x
   ·subst e;simp
   ·have:¬ (Sum.inr k:E3)=Sum.inr x:=λz=>e (Sum.inr.inj z)
    simp[e]
theorem Al(x:Str)(y:V)(h:ks.length=vs.length):j7 (aZ ks vs) (Sum.inr x) y=aZ (jD ks x) (lK ks vs x y):=by
 unfold j7;rw[wy x h];unfold jD lK
 by_cases e:x∈ks
 ·rw[FX e,Fs rfl,Fs e,Fs e,uY]
 ·rw[FR e,Fp Fg,Fp e,Fp e];unfold aZ;rw[Fv,HL (by rw[E7];exact h)];rfl
theorem fh(x:Str):oQ (aZ ks vs) (Sum.inr x)=dAt ks vs x:=by
 induction ks generalizing vs with
 | nil=>rfl
 | cons k ks ih =>
  cases vs with
  | nil=>rfl
  | cons v vs =>
   show oQ ((Sum.inr k,v)::aZ ks vs) _=if k=x then some v else dAt ks vs x
   by_cases e:k=x
   ·subst e;rw[gX rfl,Fs rfl]
   ·rw[gY (λz=>e (Sum.inr.inj z)),Fp e,ih]
section
variable {K:PySem.W.Frag} {M:Addr→Prop} {H:Hp}
theorem Reps.rep{d:D}(r:EH K M H d v)(x:Str):∀(ks:List Str) (ds:List D) (vs:List V),Reps K M H ds vs->Reps K M H (mN ks ds x d) (mN ks vs x v)
 | [],ds,vs,h=>by
  have e1:mN [] ds x d=ds:=by cases ds<;>rfl
  have e2:mN [] vs x v=vs:=by cases vs<;>rfl
  rw[e1,e2];exact h
 | k::ks,[],vs,h=>by unfold Reps at h;subst h;exact Reps.nil
 | k::ks,e::ds,vs,h=>by
  unfold Reps at h;obtain⟨w,rs,rfl,q,s⟩:=h;show Reps K M H ((if k=x then d else e)::mN ks ds x d) ((if k=x then v else w)::mN ks rs x v);refine Reps.cons ?_ (Reps.rep r x ks ds rs s)
  by_cases z:k=x
  ·rw[Fs z,Fs z];exact r
  ·rw[Fp z,Fp z];exact q
theorem Reps.put{d:D}(x:Str)(h:Reps K M H ds vs)(r:EH K M H d v):Reps K M H (lK ks ds x d) (lK ks vs x v):=by
 unfold lK
 by_cases e:x∈ks
 ·rw[Fs e,Fs e];exact Reps.rep r x ks ds vs h
 ·rw[Fp e,Fp e];exact Reps.append _ _ _ _ h (Reps.one r)
def Reps.dAt(x:Str):∀(ks:List Str) (ds:List D) (vs:List V),Reps K M H ds vs->(∀d,DL.dAt ks ds x=some d->∃v,DL.dAt ks vs x=some v/\EH K M H d v)/\(DL.dAt ks ds x=none->DL.dAt ks vs x=none)
 | [],ds,vs,h=>⟨λd e=>(nomatch e),λ_=>rfl⟩
 | k::ks,[],vs,h=>by unfold Reps at h;subst h;exact⟨λd e=>(nomatch e),λ_=>rfl⟩
 | k::ks,e::ds,vs,h=>by
  unfold Reps at h;obtain⟨w,rs,rfl,q,s⟩:=h;obtain⟨h1,h2⟩:=Reps.dAt x ks ds rs s;show (∀d,(if k=x then some e else DL.dAt ks ds x)=some d->∃v,(if k=x then some w else DL.dAt ks rs x)=some v/\_)/\((if k=x then some e else DL.dAt ks ds x)=none->(if k=x then some w else DL.dAt ks rs x)=none)
  by_cases z:k=x
  ·simp only[if_pos z];exact⟨λd e=>by cases e;exact⟨w,rfl,q⟩,λe=>(nomatch e)⟩
  ·simp only[if_neg z];exact⟨h1,h2⟩
theorem k7{α:Type}{ds:List α}(h:ks.length=ds.length):(dAt ks ds x).isSome=decide (x∈ks):=by
 induction ks generalizing ds with
 | nil=>rfl
 | cons k ks ih =>
  cases ds with
  | nil=>cases h
  | cons v vs =>
   show (if k=x then some v else dAt ks vs x).isSome=_
   by_cases e:k=x
   ·subst e;simp
   ·have e2:¬ x=k:=λz=>e z.symm
    rw[Fp e,ih (G2 h)];simp[e2]
end
def vi:List D->(D->Prop)->Prop
 | [.dct ks ds,.str x],R=>∃d,dAt ks ds x=some d/\R d
 | [.fd ks ds,.str x],R=>∃d,dAt ks ds x=some d/\R d
 | _,_=>False
theorem vR:∀ {d0:List D} {R:D->Prop},vi d0 R->((∃(ks:List Str) (ds:List D) (x:Str),d0=[.dct ks ds,.str x]/\∃d,dAt ks ds x=some d/\R d)\/(∃(ks:List Str) (ds:List D) (x:Str),d0=[.fd ks ds,.str x]/\∃d,dAt ks ds x=some d/\R d)):=by walk_at "or"
def vt:vi [.fd ks ds,.str x] R=(∃d,dAt ks ds x=some d/\R d):=rfl
def vY:vi [.dct ks ds,.str x] R=(∃d,dAt ks ds x=some d/\R d):=rfl
def fIn(g:Bool->Bool):List D->(D->Prop)->Prop
 | [.str x,.dct ks _],R=>R (.bl (g (decide (x∈ks))))
 | [.str x,.lst ds],R=>∃ss:List Str,ds=ss.map D.str/\R (.bl (g (decide (x∈ss))))
 | _,_=>False
theorem wD{d0:List D}(h:fIn g d0 R):(∃(x:Str) (ks:List Str) (z1:List D),d0=[.str x,.dct ks z1]/\R (.bl (g (decide (x∈ks)))))\/(∃(x:Str) (ds:List D),d0=[.str x,.lst ds]/\∃ss:List Str,ds=ss.map D.str/\R (.bl (g (decide (x∈ss))))):=by
 rcases d0 with _ | ⟨a,_ | ⟨b,_ | ⟨c,l⟩⟩⟩
 ·exact False.elim h
 ·cases a<;>exact False.elim h
 ·cases a<;>first | exact False.elim h | (cases b<;>first | exact False.elim h | exact .inl ⟨_,_,_,rfl,h⟩ | exact .inr ⟨_,_,rfl,h⟩)
 ·cases a<;>first | exact False.elim h | (cases b<;>exact False.elim h)
def yq:fIn g [.str x,.dct ks ds] R=(R (.bl (g (decide (x∈ks))))):=rfl
def yY:fIn g [.str x,.lst ds] R=(∃ss:List Str,ds=ss.map D.str/\R (.bl (g (decide (x∈ss))))):=rfl
theorem fm{K:PySem.W.Frag}{M:Addr->Prop}{H:Hp}:∀ {ss:List Str} {vs:List V},Reps K M H (ss.map D.str) vs->vs=ss.map V.str
 | [],vs,h=>by unfold Reps at h;exact h
 | s::ss,vs,h=>by
  rw[FJ] at h;unfold Reps at h;obtain⟨v,r,rfl,q,t⟩:=h;rw[bO q,fm t];rfl
theorem cX{K:PySem.W.Frag}{M:Addr->Prop}{H:Hp}:∀(ss:List Str),Reps K M H (ss.map D.str) (ss.map V.str)
 | []=>Reps.nil
 | s::ss=>Reps.cons (by unfold EH;rfl) (cX ss)
theorem er:∀ {ss:List Str} {us:List Value},bH (ss.map V.str) us->StrsAre us ss
 | [],_,r=>by rw[G1] at r;cases r;exact .nil
 | s::ss,_,r=>by
  rw[FJ] at r
  cases r with
  | @cons _ u _ us h t =>
   obtain⟨t',e⟩:=(show ∃t,u=Value.str s t from h);subst e;exact .cons _ _ (er t)
theorem c7:∀ {ss:List Str} {us:List Value},StrsAre us ss->bH (ss.map V.str) us
 | _,_,.nil=>.nil
 | _,_,.cons _ _ h=>.cons ⟨_,rfl⟩ (c7 h)
theorem lq(x:Str):∀ {us:List Value} {ss:List Str},StrsAre us ss->us.any (λy=>match y with | .str z _=>z==x | _=>false)=decide (x∈ss)
 | _,_,.nil=>rfl
 | _,_,.cons y t (vs:=us) (ys:=ss) h=>by
  rw[HD,lq x h]
  by_cases e:y=x
  ·subst e;simp
  ·have e2:¬ x=y:=λz=>e z.symm
   simp[e,e2]
theorem qi{us:List Value}{ss:List Str}(h:StrsAre us ss):∀y∈us,∃z t,y=Value.str z t:=by
 induction h with
 | nil=>intro y hy;cases hy
 | cons z t h ih =>
  intro y hy
  rcases Fj.mp hy with rfl | hy
  ·exact⟨z,t,rfl⟩
  ·exact ih y hy
section
variable {X:Cx}
theorem o_in(hu:X.A.units+64<cLine):EV X (compareOp .In) λx y=>aS X.K (fIn id) [x,y]:=by
 intro pins s σ H x y v u Q I rx ry h;obtain⟨M,ds,R,m,rs,h,k⟩:=h;have fin:∀b s',Inv X pins σ H s'->R (.bl b)->EP X pins σ Q (.bool b) s':=λb s' I' r=>⟨.bl b,H,I',rfl,k _ r _ H (ci.refl H) (EH.sc rfl)⟩;replace h:=wD h
 rcases h with⟨_,_,_,rfl,h⟩ | ⟨x0,_,rfl,h⟩
 ·obtain⟨h1,h2⟩:=bZ rs
  cases bO h1
  unfold EH at h2;obtain⟨a,vs,rfl,_,e,l,r⟩:=h2
  cases ry
  refine d_in (by omega) I (pk.k (k:=Sum.inr _) e) rx λs' I'=>?_;rw[fh,k7 (by rw[l,Reps.length _ _ r])];exact fin _ _ I' h
 ·obtain⟨ss,rfl,h⟩:=h;obtain⟨h1,h2⟩:=bZ rs
  cases bO h1
  unfold EH at h2;obtain⟨a,vs,rfl,_,e,r⟩:=h2
  cases ry
  cases fm r
  obtain⟨t,rfl⟩:=rx;obtain⟨its,rv,pl,_⟩:=I.list (EY.of e);have hs:=er rv;refine SeqAt.in_listAt (λy=>match y with | .str z _=>z==x0 | _=>false) pl.isList (λy hy=>?_) ?_
  ·obtain⟨z,t',rfl⟩:=qi hs y (by simpa using hy);exact SeqAt.EqAt.str_str z t' x0 t
  ·rw[List.any_toArray,lq x0 hs];exact fin _ _ I h
theorem xU(hu:X.A.units+64<cLine):EV X (compareOp .NotIn) λx y=>aS X.K (fIn Bool.not) [x,y]:=by
 intro pins s σ H x y v u Q I rx ry h;obtain⟨M,ds,R,m,rs,h,k⟩:=h;have fin:∀b s',Inv X pins σ H s'->R (.bl b)->EP X pins σ Q (.bool b) s':=λb s' I' r=>⟨.bl b,H,I',rfl,k _ r _ H (ci.refl H) (EH.sc rfl)⟩;replace h:=wD h
 rcases h with⟨_,_,_,rfl,h⟩ | ⟨x0,_,rfl,h⟩
 ·obtain⟨h1,h2⟩:=bZ rs
  cases bO h1
  unfold EH at h2;obtain⟨a,vs,rfl,_,e,l,r⟩:=h2
  cases ry
  refine At (by omega) I (pk.k (k:=Sum.inr _) e) rx λs' I'=>?_;rw[fh,k7 (by rw[l,Reps.length _ _ r])];exact fin _ _ I' h
 ·obtain⟨ss,rfl,h⟩:=h;obtain⟨h1,h2⟩:=bZ rs
  cases bO h1
  unfold EH at h2;obtain⟨a,vs,rfl,_,e,r⟩:=h2
  cases ry
  cases fm r
  obtain⟨t,rfl⟩:=rx;obtain⟨its,rv,pl,_⟩:=I.list (EY.of e);have hs:=er rv;refine SeqAt.notIn_listAt (λy=>match y with | .str z _=>z==x0 | _=>false) pl.isList (λy hy=>?_) ?_
  ·obtain⟨z,t',rfl⟩:=qi hs y (by simpa using hy);exact SeqAt.EqAt.str_str z t' x0 t
  ·rw[List.any_toArray,lq x0 hs];exact fin _ _ I h
def zV:List D->(D->Prop)->Prop
 | [.int i,.int j],R=>R (.bl (!decide (i=j)))
 | [.str x,.str y],R=>R (.bl (!decide (x=y)))
 | [.bl a,.bl b],R=>R (.bl (!decide (a=b)))
 | [.tup xs,.tup ys],R=>(xs=ys/\D.nds xs=true/\D.dps xs<=60)/\R (.bl false)
 | [.lst xs,.lst ys],R=>(xs=ys/\D.nds xs=true/\D.dps xs<=60)/\R (.bl false)
 | _,_=>False
theorem Ac:∀ {d0:List D} {R:D->Prop},zV d0 R->((∃(i:Int) (j:Int),d0=[.int i,.int j]/\R (.bl (!decide (i=j))))\/(∃(x:Str) (y:Str),d0=[.str x,.str y]/\R (.bl (!decide (x=y))))\/(∃(a:Bool) (b:Bool),d0=[.bl a,.bl b]/\R (.bl (!decide (a=b))))\/(∃(xs:List D) (ys:List D),d0=[.tup xs,.tup ys]/\(xs=ys/\D.nds xs=true/\D.dps xs<=60)/\R (.bl false))\/(∃(xs:List D) (ys:List D),d0=[.lst xs,.lst ys]/\(xs=ys/\D.nds xs=true/\D.dps xs<=60)/\R (.bl false))):=by walk_at "or"
def vj{i j:Int}:zV [.int i,.int j] R=(R (.bl (!decide (i=j)))):=rfl
def vx{i j:Str}:zV [.str i,.str j] R=(R (.bl (!decide (i=j)))):=rfl
def zP{i j:Bool}:zV [.bl i,.bl j] R=(R (.bl (!decide (i=j)))):=rfl
def wo{xs ys:List D}:zV [.tup xs,.tup ys] R=((xs=ys/\D.nds xs=true/\D.dps xs<=60)/\R (.bl false)):=rfl
def wB{xs ys:List D}:zV [.lst xs,.lst ys] R=((xs=ys/\D.nds xs=true/\D.dps xs<=60)/\R (.bl false)):=rfl
theorem kK{α β:Type}{F:α->β->Prop}:∀ {l₁:List α} {l₂:List β} {j:Nat} {b:β},Paired F l₁ l₂->l₂[j]?=some b->∃a,l₁[j]?=some a/\F a b
 | _,_,_,_,.nil,e=>by simp at e
 | _,_,0,_,.cons h t,e=>by simp at e;subst e;exact⟨_,rfl,h⟩
 | _,_,j+1,_,.cons h t,e=>by
  obtain⟨a,q,f⟩:=kK (j:=j) t (by simpa using e);exact⟨a,by simpa using q,f⟩
theorem nw{j:Nat}{k:E3}(e:(aZ ks vs)[j]?=some (k,v)):∃x,k=Sum.inr x/\ks[j]?=some x/\vs[j]?=some v:=by
 unfold aZ at e;rw[List.getElem?_zip_eq_some] at e;obtain⟨e1,e2⟩:=e;rw[List.getElem?_map] at e1
 cases h:ks[j]? with
 | none=>rw[h] at e1;cases e1
 | some x=>rw[h] at e1;exact⟨x,(Fz e1).symm,rfl,e2⟩
theorem gS(hu:X.A.units+64<cLine):EV X (compareOp .NotEq) λx y=>aS X.K zV [x,y]:=by
 intro pins s σ H x y v u Q I rx ry h;obtain⟨M,ds,R,m,rs,h,k⟩:=h;have fin:∀b,R (.bl b)->EP X pins σ Q (.bool b) s:=λb r=>⟨.bl b,H,I,rfl,k _ r _ H (ci.refl H) (EH.sc rfl)⟩;replace h:=Ac h
 rcases h with⟨_,_,rfl,h⟩ | ⟨_,_,rfl,h⟩ | ⟨_,_,rfl,h⟩ | ⟨_,_,rfl,h⟩ | ⟨_,_,rfl,h⟩
 ·exact o_ne hu pins s σ H x y v u Q I rx ry ⟨M,_,R,m,rs,h,k⟩
 ·exact o_ne hu pins s σ H x y v u Q I rx ry ⟨M,_,R,m,rs,h,k⟩
 ·exact o_ne hu pins s σ H x y v u Q I rx ry ⟨M,_,R,m,rs,h,k⟩
 ·obtain⟨⟨e,hn,hd⟩,h⟩:=h;subst e;obtain⟨h1,h2⟩:=bZ rs;unfold EH at h1 h2;obtain⟨a,vs,rfl,sq,rs1⟩:=h1;obtain⟨b,ws,rfl,sq',rs2⟩:=h2
  cases rx
  cases ry
  obtain⟨its,r1,t1,_⟩:=I.tuple sq;obtain⟨its',r2,t2,_⟩:=I.tuple sq';have hs:its.length=its'.length:=by rw[<- r1.length,<- r2.length,<- Reps.length _ _ rs1,<- Reps.length _ _ rs2]
  refine SeqAt.RcNeAt.tuples (e:=λ_=>true) t1 t2 (by omega) (eqAt_Ds I _ X.A.in1 vs ws its its' hn (by rw[cP];omega) rs1 rs2 r1 r2) _ _ _ _ ?_;have z:((List.range (min its.toArray.size its'.toArray.size)).all (λ_=>true)&&its.toArray.size==its'.toArray.size)=true:=by simp[hs]
  rw[z];exact fin _ h
 ·obtain⟨⟨e,hn,hd⟩,h⟩:=h;subst e;obtain⟨h1,h2⟩:=bZ rs;unfold EH at h1 h2;obtain⟨a,vs,rfl,_,sq,rs1⟩:=h1;obtain⟨b,ws,rfl,_,sq',rs2⟩:=h2
  cases rx
  cases ry
  obtain⟨its,r1,t1,_⟩:=I.list (EY.of sq);obtain⟨its',r2,t2,_⟩:=I.list (EY.of sq');have hs:its.length=its'.length:=by rw[<- r1.length,<- r2.length,<- Reps.length _ _ rs1,<- Reps.length _ _ rs2]
  refine SeqAt.RcNeAt.lists (e:=λ_=>true) t1.isList t2.isList (by simp[hs]) (by omega) (eqAt_Ds I _ X.A.in1 vs ws its its' hn (by rw[cP];omega) rs1 rs2 r1 r2) _ _ _ _ ?_;rw[ia];exact fin _ h
end
end DL
namespace DL
open PySem PySem.Spec PyProof.Rows L2
variable {ds:List D} {R:D→Prop}
section
variable {prog:Program} {w:World} {A:Around} {E:Value→Shared→Prop} {s:Shared}
theorem jZ{a:Addr}{vs:List Value}{ss:List Str}{n:Nat}{Q:Value->Shared->Prop}(ho:s.heap.get? a=some (seqObj "list" vs.toArray n))(hS:StrsAre vs ss)(h64:vs.length<64)
  (h:∀(out:Array Value) (ss':List Str),StrsAre out.toList ss'->ss'.Perm ss->sortedS ss'=true->Q .none { s with heap:=sortedHeap s.heap a vs out }) :
  wpAny (model prog w) A (call (.builtin "list.sort") [.ref a]) Q E s:=by
 refine GH slot_list_sort ⟨_,ho,rfl⟩ entry_list_sort (list_sort_treeK strKind_oneLt ho hS.keysOf (λv₁ v₂ dL e=>keyKind_strs (by rw[<- e];exact hS)) h64 λst' hp hs=>?_) (args_list_sort _);obtain⟨ss',h1,h2,h3⟩:=sorted_out_str hS hp hs;exact⟨_,rfl,h _ ss' h1 h2 h3⟩
end
abbrev Srt(ss:List Str):Prop:=sortedS ss=true
def jy:List D->(D->Prop)->Prop
 | [.lst ds],R=>∃ss:List Str,ds=ss.map D.str/\ss.length<64/\∀ss',ss'.Perm ss->Srt ss'->R (.lst (ss'.map D.str))
 | [.dct ks _],R=>ks.length<64/\∀ss',ss'.Perm ks->Srt ss'->R (.lst (ss'.map D.str))
 | [.fd ks _],R=>ks.length<64/\∀ss',ss'.Perm ks->Srt ss'->R (.lst (ss'.map D.str))
 | _,_=>False
theorem qu:∀ {d0:List D} {R:D->Prop},jy d0 R->((∃(ds:List D),d0=[.lst ds]/\∃ss:List Str,ds=ss.map D.str/\ss.length<64/\∀ss',ss'.Perm ss->Srt ss'->R (.lst (ss'.map D.str)))\/(∃(ks:List Str) (z1:List D),d0=[.dct ks z1]/\ks.length<64/\∀ss',ss'.Perm ks->Srt ss'->R (.lst (ss'.map D.str)))\/(∃(ks:List Str) (z1:List D),d0=[.fd ks z1]/\ks.length<64/\∀ss',ss'.Perm ks->Srt ss'->R (.lst (ss'.map D.str)))):=by walk_at "or"
def mV:jy [.lst ds] R=(∃ss:List Str,ds=ss.map D.str/\ss.length<64/\∀ss',ss'.Perm ss->Srt ss'->R (.lst (ss'.map D.str))):=rfl
def qw{ks:List Str}:jy [.fd ks ds] R=(ks.length<64/\∀ss',ss'.Perm ks->Srt ss'->R (.lst (ss'.map D.str))):=rfl
def oA{ks:List Str}:jy [.dct ks ds] R=(ks.length<64/\∀ss',ss'.Perm ks->Srt ss'->R (.lst (ss'.map D.str))):=rfl
theorem iD{P:Program}{w:World}:∀ {ks:List Str} {us:List Value},ks.length=us.length->(∀(j:Nat) v k,us[j]?=some v->ks[j]?=some k->(a5 P w).is (Sum.inr k) v=true)->StrsAre us ks
 | [],[],_,_=>.nil
 | [],_::_,l,_=>by cases l
 | _::_,[],l,_=>by cases l
 | k::ks,u::us,l,h=>by
  have h0:=h 0 u k rfl rfl
  obtain⟨t,rfl⟩:∃t,u=Value.str k t:=by
   have:oC (Sum.inr k) u=true:=h0
   rcases a6 this with⟨i,t,e,_⟩ | ⟨x,t,e,e2⟩
   ·cases e
   ·cases e;exact⟨t,e2⟩
  exact .cons _ _ (iD (G2 l) λj v k' e1 e2=>h (j+1) v k' (by simpa using e1) (by simpa using e2))
section
variable {X:Cx}
theorem kC(hc:X.calm=true):bY X (.builtin "sorted") (aS X.K jy):=by
 intro pins s σ H xs us Q I rv h;obtain⟨M,ds,R,m,rs,h,k⟩:=h;replace h:=qu h
 rcases h with⟨_,rfl,h⟩ | ⟨_,_,rfl,h⟩ | ⟨_,_,rfl,h⟩
 ·obtain⟨ss,rfl,h64,h⟩:=h;obtain⟨x,rfl,q⟩:=bm rs;unfold EH at q;obtain⟨a,vs,rfl,_,e,r⟩:=q;obtain⟨u,rfl,ru⟩:=fR rv
  cases ru
  cases fm r
  obtain⟨its,rv2,pl,_⟩:=I.list (EY.of e);have hs:=er rv2;have hl:its.length=ss.length:=by rw[<- rv2.length,E7]
  refine sorted_strs pl.isList hs (by omega) λout ss' h1 h2 h3=>?_;obtain⟨ep,he⟩:=sortedAll_at s.heap its out;have hz:(ss'.map V.str).length<=sizeLine:=by rw[E7,h2.length_eq];exact fB (by omega)
  have I2:L2.Inv X pins σ (EE H (s.heap.objs.size+1) (.lst (ss'.map V.str))) { s with heap:=sortedAll s.heap its out } :=
   I.laid (t':=s.toks) (λb o=>sortedAll_old) (Nat.le_succ _) (show bV X.prog X.w _ _ _ (.lst (ss'.map V.str)) from⟨hz,out.toList,ep,c7 h1,he⟩)
  have fr:H (s.heap.objs.size+1)=none:=I.hok.fresh (Nat.le_succ _)
  refine⟨.ref _,_,I2,rfl,k _ (h ss' h2 h3) _ _ (aJ fr _) ?_⟩;unfold EH;exact⟨_,_,rfl,λz=>m _ z fr,aI,cX ss'⟩
 ·obtain⟨h64,h⟩:=h
  rename_i ks ds
  obtain⟨x,rfl,q⟩:=bm rs;unfold EH at q;obtain⟨a,vs,rfl,_,e,l,r⟩:=q;obtain⟨u,rfl,ru⟩:=fR rv
  cases ru
  obtain⟨hz,lo,va,ra,da⟩:=vZ I.hok e;obtain⟨ep,hat⟩:=da.dictAt;have lv:=Reps.length _ _ r;have hlen:va.length=ks.length:=by
   rw[<- ra.length];unfold aZ;rw[Gj,E7];omega
  refine Calls.call_function_entry kind_sorted plain_sorted entry_sorted (args_sorted1 _) ?_;unfold Builtin.«sorted»;refine Fc (m:=checkCount "sorted" 1 1 _) (Ft ?_);refine Fc (PySem.W.kdu_collect (A:=X.A.in1) (PySem.W.kdl_dict (knd:=a5 X.prog X.w) (kvs:=va) (ep:=ep) lo) (I.ok.hd hc) hat (by rw[hlen];exact fB (by omega)) λh' tk acc hk hacc=>?_);have hl:acc.toList.length=ks.length:=by rw[He,<- hlen];exact hacc.1
  have hS:StrsAre acc.toList ks:=iD hl.symm λj v k' e1 e2=>by
   obtain⟨k2,x2,h1,h2⟩:=hacc.2 j v (by rw[<- Array.getElem?_toList];exact e1);obtain⟨⟨k3,v3⟩,q1,z1,_⟩:=kK ra h1;obtain⟨x,rfl,kx,_⟩:=nw q1;simp only at z1;rw[kx] at e2
   cases e2
   rw[z1];exact h2
  refine Fc (wpAny_newList ?_ (by rw[hl];exact fB (by omega)));have hoL:(h'.push { cls:=.type "list",data:=.seq acc.toList.toArray }).get? h'.objs.size=some (seqObj "list" acc.toList.toArray 0):=Heap.get?_push_size _ rfl;refine Fc (GI (jZ hoL hS (by omega) λout ss' h1 h2 h3=>?_));refine Ft ⟨_,rfl,?_⟩;obtain⟨ep2,he⟩:=sortedHeap_at (out:=out) hoL;have I1:L2.Inv X pins σ H { s with heap:=h',toks:=tk }:=I.kept (t':=tk) hk;have kp:∀b o,h'.get? b=some o->(sortedHeap (h'.push { cls:=.type "list",data:=.seq acc.toList.toArray }) h'.objs.size acc.toList out).get? b=some o:=λb o e=>by
   have hb:=FC e
   rw[sortedHeap_old (FV hb) (by rw[Gv];exact Ht hb)];exact Heap.get?_push_of_some _ e
  have hz2:(ss'.map V.str).length<=sizeLine:=by rw[E7,h2.length_eq];exact fB (by omega)
  have I2:L2.Inv X pins σ (EE H h'.objs.size (.lst (ss'.map V.str))) { s with heap:=sortedHeap (h'.push { cls:=.type "list",data:=.seq acc.toList.toArray }) h'.objs.size acc.toList out,toks:=tk } :=
   I1.laid (t':=tk) kp (Fh _) (show bV X.prog X.w _ _ _ (.lst (ss'.map V.str)) from⟨hz2,out.toList,ep2,c7 h1,he⟩)
  have fr:H h'.objs.size=none:=I1.hok.fresh (Fh _)
  refine⟨.ref _,_,I2,rfl,k _ (h ss' h2 h3) _ _ (aJ fr _) ?_⟩;unfold EH;exact⟨_,_,rfl,λz=>m _ z fr,aI,cX ss'⟩
 ·obtain⟨h64,h⟩:=h
  rename_i ks ds
  obtain⟨x,rfl,q⟩:=bm rs;unfold EH at q;obtain⟨a,vs,o9,rfl,e,l,r⟩:=q;obtain⟨u,rfl,ru⟩:=fR rv
  cases ru
  obtain⟨hz,lo,va,ra,da⟩:=i4 I.hok (.inr ⟨o9,e⟩);obtain⟨ep,hat⟩:=da.dictAt;have lv:=Reps.length _ _ r;have hlen:va.length=ks.length:=by
   rw[<- ra.length];unfold aZ;rw[Gj,E7];omega
  refine Calls.call_function_entry kind_sorted plain_sorted entry_sorted (args_sorted1 _) ?_;unfold Builtin.«sorted»;refine Fc (m:=checkCount "sorted" 1 1 _) (Ft ?_);refine Fc (PySem.W.kdu_collect (A:=X.A.in1) (PySem.W.kdl_dict (knd:=a5 X.prog X.w) (kvs:=va) (ep:=ep) lo) (I.ok.hd hc) hat (by rw[hlen];exact fB (by omega)) λh' tk acc hk hacc=>?_);have hl:acc.toList.length=ks.length:=by rw[He,<- hlen];exact hacc.1
  have hS:StrsAre acc.toList ks:=iD hl.symm λj v k' e1 e2=>by
   obtain⟨k2,x2,h1,h2⟩:=hacc.2 j v (by rw[<- Array.getElem?_toList];exact e1);obtain⟨⟨k3,v3⟩,q1,z1,_⟩:=kK ra h1;obtain⟨x,rfl,kx,_⟩:=nw q1;simp only at z1;rw[kx] at e2
   cases e2
   rw[z1];exact h2
  refine Fc (wpAny_newList ?_ (by rw[hl];exact fB (by omega)));have hoL:(h'.push { cls:=.type "list",data:=.seq acc.toList.toArray }).get? h'.objs.size=some (seqObj "list" acc.toList.toArray 0):=Heap.get?_push_size _ rfl;refine Fc (GI (jZ hoL hS (by omega) λout ss' h1 h2 h3=>?_));refine Ft ⟨_,rfl,?_⟩;obtain⟨ep2,he⟩:=sortedHeap_at (out:=out) hoL;have I1:L2.Inv X pins σ H { s with heap:=h',toks:=tk }:=I.kept (t':=tk) hk;have kp:∀b o,h'.get? b=some o->(sortedHeap (h'.push { cls:=.type "list",data:=.seq acc.toList.toArray }) h'.objs.size acc.toList out).get? b=some o:=λb o e=>by
   have hb:=FC e
   rw[sortedHeap_old (FV hb) (by rw[Gv];exact Ht hb)];exact Heap.get?_push_of_some _ e
  have hz2:(ss'.map V.str).length<=sizeLine:=by rw[E7,h2.length_eq];exact fB (by omega)
  have I2:L2.Inv X pins σ (EE H h'.objs.size (.lst (ss'.map V.str))) { s with heap:=sortedHeap (h'.push { cls:=.type "list",data:=.seq acc.toList.toArray }) h'.objs.size acc.toList out,toks:=tk } :=
   I1.laid (t':=tk) kp (Fh _) (show bV X.prog X.w _ _ _ (.lst (ss'.map V.str)) from⟨hz2,out.toList,ep2,c7 h1,he⟩)
  have fr:H h'.objs.size=none:=I1.hok.fresh (Fh _)
  refine⟨.ref _,_,I2,rfl,k _ (h ss' h2 h3) _ _ (aJ fr _) ?_⟩;unfold EH;exact⟨_,_,rfl,λz=>m _ z fr,aI,cX ss'⟩
def qm:List D->(D->Prop)->Prop
 | [.lst xs],R=>R (.tup xs)
 | [.fz xs],R=>R (.tup xs)
 | [.tup xs],R=>R (.tup xs)
 | _,_=>False
theorem tL:∀ {d0:List D} {R:D->Prop},qm d0 R->((∃(xs:List D),d0=[.lst xs]/\R (.tup xs))\/(∃(xs:List D),d0=[.fz xs]/\R (.tup xs))\/(∃(xs:List D),d0=[.tup xs]/\R (.tup xs))):=by walk_at "or"
def qR{xs:List D}:qm [.lst xs] R=(R (.tup xs)):=rfl
def rl{xs:List D}:qm [.tup xs] R=(R (.tup xs)):=rfl
def cw:bY X (.type "tuple") (aS X.K qm) :=
 bY.imp fj λxs H Q ⟨M,ds,R,m,rs,h,k⟩=>by
  replace h:=tL h
  rcases h with⟨_,rfl,h⟩ | ⟨_,rfl,h⟩ | ⟨_,rfl,h⟩
  ·obtain⟨x,rfl,q⟩:=bm rs;unfold EH at q;obtain⟨a,vs,rfl,_,e,r⟩:=q;refine⟨a,vs,rfl,.inl ⟨EY.of e,λl hl=>k _ h _ _ (aJ hl _) ?_⟩⟩;unfold EH;exact⟨l,vs,rfl,E5.of aI,Reps.kp (Kp.of_same (aJ hl _)) _ _ r⟩
  ·obtain⟨x,rfl,q⟩:=bm rs;unfold EH at q;obtain⟨a,vs,rfl,e,r⟩:=q;refine⟨a,vs,rfl,.inl ⟨e.seq,λl hl=>k _ h _ _ (aJ hl _) ?_⟩⟩;unfold EH;exact⟨l,vs,rfl,E5.of aI,Reps.kp (Kp.of_same (aJ hl _)) _ _ r⟩
  ·obtain⟨x,rfl,q⟩:=bm rs;have q0:=q;unfold EH at q;obtain⟨a,vs,rfl,e,r⟩:=q;exact⟨a,vs,rfl,.inr ⟨e,k _ h _ _ (ci.refl H) q0⟩⟩
def lH{pos:Pos}:DE X (.Dict [] [] pos) (dC (.dct [] [])) :=
 PE.imp oR λσ H Q ⟨G,δ,P,R,⟨A,x⟩,r,k,_⟩=>λp hp=>by
  refine k _ δ r (.ref p) _ ⟨A,(x.same (aJ hp (.dK []))).push ?_⟩;unfold EH;exact⟨p,[],rfl,λz=>x.mem p z hp,aI,rfl,Reps.nil⟩
variable {a b e:Expr} {ta tb:E1} {pos:Pos}
def dQ(hu:X.A.units+64<cLine)(ha:DE X a ta)(hb:DE X b tb)(hs:NoSl b):DE X (.Subscript a b pos) (dOp vi ta tb) :=
 PE.imp (zn (by omega) ha hb hs) λσ H Q ⟨G,δ,P,R,s,h,k,_⟩=>up.mk s h λx δ1 h1 v H1 s1=>up.mk s1 h1 λy δ2 h2 u H2 s2=>by
  replace h2:=vR h2
  rcases h2 with⟨ks,ds,z,eq,h2⟩ | ⟨ks,ds,z,eq,h2⟩
  ·skip
   cases eq
   obtain⟨d,ed,r⟩:=h2;obtain⟨A,q⟩:=id s2;have p1:=q.pnd (.dct ks ds,v) (by simp);have p2:u=.str z:=bO (q.pnd (.str z,u) (by simp));unfold EH at p1;obtain⟨a,vs,rfl,_,he,l,rs⟩:=p1;obtain⟨w',hw,rw'⟩:=(Reps.dAt z ks ds vs rs).1 d ed;refine⟨a,w',rfl,?_,k d δ2 r w' H2 ⟨A,(q.sub (P':=P) λp hp=>by simp[hp]).push rw'⟩⟩;have g:=pk.k (k:=Sum.inr z) he;rw[fh,hw] at g;rw[p2];exact g
  ·skip
   cases eq
   obtain⟨d,ed,r⟩:=h2;obtain⟨A,q⟩:=id s2;have p1:=q.pnd (.fd ks ds,v) (by simp);have p2:u=.str z:=bO (q.pnd (.str z,u) (by simp));unfold EH at p1;obtain⟨a,vs,o,rfl,he,l,rs⟩:=p1;obtain⟨w',hw,rw'⟩:=(Reps.dAt z ks ds vs rs).1 d ed;refine⟨a,w',rfl,?_,k d δ2 r w' H2 ⟨A,(q.sub (P':=P) λp hp=>by simp[hp]).push rw'⟩⟩;have g:pk H2 a (kV (Sum.inr z)) (oQ (aZ ks vs) (Sum.inr z)):=.inl ⟨_,_,.inr ⟨o,he⟩,rfl,rfl⟩;rw[fh,hw] at g;rw[p2];exact g
def BU(i:Nat)(tv tk:E1)(R:bh)(δ:En):Prop:=tv δ (wd λx δ1=>qW δ1[i]? λa _=>tk δ1 (wd λz δ2=>zM δ2[i]? λks ds=>qX z λy=>ks.length<9000/\lJ δ2 i (.own a (.dct (jD ks y) (lK ks ds y x))) R.nx))
theorem f9(i:Nat){y:Str}{p pos':Pos}(hu:X.A.units+64<cLine)(he:DE X e ta)(hb:DE X b tb)(hN:X.N[i]?=some y:=by rfl)(hv:Vis X.env.scope y:=by walk_at "v3")
  (hd:(y==("__debug__":Str))=false:=by decide) (hcd:(y==("__classdict__":Str))=false:=by decide) (hs:swapsWith e (some (.Subscript (.Name y p) b pos')) pos.line X.env=pure false:=by rfl) :
  DS X (.Assign [.Subscript (.Name y p) b pos'] e pos) (BU i ta tb) :=
 PS.imp (xG (by omega) (d9 hN hv hd hcd) hb he hs) λE σ H ⟨G,δ,P,R,s,h,k,_⟩=>up.mk s h λx δ1 h1 v H1 s1=>let ⟨a,ds0,hi0,h1⟩:=qW.ex h1;⟨.ref a,s1.own hi0,up.mk s1 h1 λz δ2 h2 u H2 ⟨A,q⟩=>by
  replace h2:=zM.ex q (s1.own hi0) h2;obtain⟨ks,ds,hi,h2⟩:=h2;replace h2:=qX.ex h2;obtain⟨y,ez,hz,r⟩:=h2;subst ez;obtain⟨_,aa,vs,hvs,l,rs⟩:=q.own i a _ hi;have lv:=Reps.length _ _ rs;have p2:u=.str y:=bO (q.pnd (.str y,u) (by simp));have hlen:(aZ ks vs).length<sizeLine:=by
   unfold aZ;rw[Gj,E7];exact jt (by omega)
  have g:=DPut.k (k:=Sum.inr y) (v:=v) hvs hlen
  rw[Al y v (by omega)] at g;refine⟨a,_,rfl,by rw[p2];exact g,k _ r _ _ ⟨A,(q.change (d':=.dct (jD ks y) (lK ks ds y x)) hi (λb o n e=>by rw[aO n];exact e) ⟨lK ks vs y v,aI,yO l,?_⟩).sub (P':=P) λq hq=>E9 _ (E9 _ hq)⟩⟩;have kp:Kp (λb=>G.M0 b\/A b) H2 (EE H2 a (.dK (aZ (jD ks y) (lK ks vs y v)))):=by
   have hk:∀b o,b≠a->H2 b=some o->EE H2 a (.dK (aZ (jD ks y) (lK ks vs y v))) b=some o:=λb o n e=>by rw[aO n];exact e
   exact⟨λb o e n=>hk b o (λz=>n (.inr (by rw[z];exact aa))) e,λb xs e=>hk b _ (λz=>by rw[z,hvs] at e;cases e) e,λb o u e=>hk b _ (λz=>by rw[z,hvs] at e;cases e) e⟩
  exact Reps.kp kp _ _ (Reps.put y rs (q.pnd (x,v) (by simp)))⟩
def Cg(R:bh)(δ:En):Prop:=R.rt .non δ
def yw{pos:Pos}:DS X (.Return none pos) Cg:=PS.imp zr λE σ H ⟨G,δ,P,R,s,h,_,k,_⟩=>k.1 .non δ h .non σ H (s.sc rfl)
end
end DL
namespace DL
open PySem PySem.Spec PyProof.Rows L2
section
variable {prog:Program} {w:World} {A:Around} {E:Value→Shared→Prop}
theorem jX{it l:Addr}{us:List Value}(ne:l≠it):∀(dL:List Value) (i:Nat) (s:Shared) (Q:List Value->Shared->Prop),us.drop i=dL->s.heap.IsListIter it l i->s.heap.IsList l us.toArray ->
  (∀h',h'.IsListIter it l (i+dL.length)->Heap.SameBut it s.heap h'->Q dL { s with heap:=h' })->wpAny (model prog w) A (draw (.ref it) dL.length) Q E s
 | [],i,s,Q,_,si,_,k=>Ft (k s.heap si (Heap.SameBut.refl ..))
 | u::dL,i,s,Q,e,si,sl,k=>by
  have hu:us[i]?=some u:=by
   have:=Gs (λz=>z[0]?) e
   simpa using this
  have hr:us.drop (i+1)=dL:=by
   have:=Gs List.tail e
   rw[List.tail_drop] at this;simpa using this
  refine Fc (wpAny_pyNext_list_item si sl (x:=u) (by simpa using hu) λh1 s1 b1=>Fc (GI ?_));have sl1:h1.IsList l us.toArray:=by
   obtain⟨o,ho,r⟩:=sl;exact⟨o,(b1.2 l ne).trans ho,r⟩
  refine jX ne dL (i+1) { s with heap:=h1 } _ hr s1 sl1 λh2 s2 b2=>Ft ?_;refine k h2 ?_ (b1.trans b2);rw[Fl,Nat.add_comm dL.length 1,<- Nat.add_assoc];exact s2
theorem lr{l:Addr}{us:List Value}{s:Shared}{Q:List Value->Shared->Prop}(hh:A.handled=none)(sl:s.heap.IsList l us.toArray)
  (k:∀h',(∀b o,s.heap.get? b=some o->h'.get? b=some o)->Q us { s with heap:=h' }):wpAny (model prog w) A (unpackItems (.ref l) us.length none) Q E s:=by
 have hlt:l<s.heap.objs.size:=let ⟨_,ho,_⟩:=sl;FC ho
 have ty:s.TypeIs (.ref l) "list":=let ⟨o,ho,hc,_⟩:=sl;⟨o,ho,hc⟩
 unfold unpackItems notIterableAtAll;refine Fc (Fc (wpAny_specialOf ty F.slot_list_iter.lookup (Ft ?_)));rw[Fp Fg];refine Fc (GI (G6 sl (Fc (GI ?_))));have sl0:∀o:Obj,(s.heap.push o).IsList l us.toArray:=λo=>let ⟨q,ho,r⟩:=sl;⟨q,Heap.get?_push_of_some _ ho,r⟩;refine jX (us:=us) (FV hlt) us 0 _ _ (List.drop_zero ..) ⟨_,Heap.get?_push_size _ rfl,rfl,rfl⟩ (sl0 _) λh1 s1 b1=>?_;rw[Fp (F7 _)];have sl1:h1.IsList l us.toArray:=by
  obtain⟨o,ho,r⟩:=sl;exact⟨o,(b1.2 l (FV hlt)).trans (Heap.get?_push_of_some _ ho),r⟩
 refine Fc (GI (wpAny_pyNext_list_end hh s1 sl1 (by simp) λh2 b2=>?_));rw[Fp (show ¬ ((none:Option Value).isSome=true) from Fg)];refine Ft (k h2 λb o e=>?_);have nb:b≠s.heap.objs.size:=FV (FC e);exact b2 b o nb ((b1.2 b nb).trans (Heap.get?_push_of_some _ e))
end
section
variable {X:Cx} {pos:Pos}
def gLst(K:PySem.W.Frag)(n:Nat)(t:TGs):TG:=λv σ H Q=>∃a xs,v=.ref a/\EY K H a xs/\xs.length=n/\t xs σ H Q
theorem BD{es:List Expr}{k:Nat}{t:TGs}{n:Nat}(hc:X.calm=true)(h:PGs X es t)(hn:(assignEach es X.env).length=n:=by rfl)(hst:(assignEach es X.env).findIdx? (·.1)=none:=by rfl):PG X (.Tuple es k pos) (gLst X.K n t):=by
 intro pins s σ H v u Q I r ⟨a,xs,e,hq,hl,hw⟩;subst e
 cases r
 obtain⟨us,rv,pl,_⟩:=I.list hq;rw[arm_assign_Tuple];refine Fc (wpAny_standAt ?_);unfold unpack;rw[hst,hn,<- hl,rv.length];exact Fc (GI (lr (I.ok.hd hc) pl.isList λh' kp=>h pins _ σ H xs _ Q (I.kept (t':=s.toks) kp) rv hw))
def zc(n:Nat)(t:xz)(d:D)(δ:En)(R:En->Prop):Prop:=qL d λxs=>rO xs n (t xs δ R)
theorem xp{es:List Expr}{kk n:Nat}{gs:xz}(hc:X.calm=true)(h:DGs X es gs)(hn:(assignEach es X.env).length=n:=by rfl)(hst:(assignEach es X.env).findIdx? (·.1)=none:=by rfl):DG X (.Tuple es kk pos) (zc n gs) :=
 PG.imp (BD hc h hn hst) λv σ H Q ⟨G,δ,P,d,R,⟨A,x⟩,h,k⟩=>by
  replace h:=qL.ex h;obtain⟨xs,e,h⟩:=h;replace h:=rO.ex h;obtain⟨hl,h⟩:=h;subst e;have q:=x.pnd (.lst xs,v) (by simp);unfold EH at q;obtain⟨a,vs,e,_,sq,r⟩:=q;subst e;have lv:=Reps.length _ _ r;refine⟨a,vs,rfl,EY.of sq,by rw[<- lv];exact hl,G,δ,P,xs,R,lv,⟨A,?_⟩,h,k⟩;have each:∀(ds:List D) (ws:List V),Reps X.K (λb=>G.M0 b\/A b) H ds ws->∀p∈ds.zip ws,EH X.K (λb=>G.M0 b\/A b) H p.1 p.2:=by
   intro ds
   induction ds with
   | nil=>intro ws _ p hp;cases hp
   | cons d ds ih =>
    intro ws hr p hp;unfold Reps at hr;obtain⟨w',dL,rfl,q1,q2⟩:=hr
    rcases Fj.mp hp with rfl | hp
    ·exact q1
    ·exact ih dL q2 p hp
  have y:=x.sub (P':=P) λp hp=>E9 _ hp
  exact⟨y.old,y.stay,y.m0,y.pm,y.new,y.thr,y.len,y.dat,y.own,y.inj,λp hp=>(Fk.mp hp).elim (each xs vs r p) (y.pnd p)⟩
end
end DL
namespace DL
open PySem PySem.Spec PyProof.Rows L2
variable {x:Str}
structure GInt(mg:Str->Option Value)(x:Str)(i:Int):Prop where
 ex:∃t,mg x=some (.int i t)
structure GTab(K:PySem.W.Frag)(mg:Str->Option Value)(x:Str)(D:List (Str×Str)):Prop where
 ex:∃a,mg x=some (.ref a)/\KTD.tabLook (KTD.datLooks λb=>K.lookup b) (λb=>K.lookup b) a (txt D)=true
theorem xl(k:Str):∀D:List (Str×Str),KTD.datumAt k (txt D)=(KTD.datumAt k D).map λv=>KTD.Dat.flat (.str v)
 | []=>rfl
 | (x,d)::D=>by
  show (if decide (k=x)=true then some (KTD.Dat.flat (.str d)) else KTD.datumAt k (txt D))=(if decide (k=x)=true then some d else KTD.datumAt k D).map _
  rw[xl k D]
  by_cases h:decide (k=x)=true
  ·rw[Fs h,Fs h];rfl
  ·rw[Fp h,Fp h]
theorem pQ{h:Heap}{k:Str}{P:Value->Prop}:∀(D:List (Str×Str)),(∀v,KTD.datumAt k D=some v->∀t,P (.str v t))->KTD.EachL h k P (txt D)
 | [],_=>trivial
 | (x,d)::D,hq=>by
  show KTD.EachL h k P ((x,KTD.Dat.flat (.str d))::txt D)
  by_cases e:k=x
  ·exact KTD.eachL_hit e (KTD.opened_str λt=>hq d (by show (if decide (k=x)=true then some d else _)=_;rw[Fs (FX e)]) t)
  ·exact KTD.eachL_miss e (pQ D λv hv=>hq v (by show (if decide (k=x)=true then some d else _)=_;rw[Fp (by simp[e])];exact hv))
section
variable {X:Cx} {b:Expr} {tb:E1} {pos p:Pos}
theorem uz{i:Int}(hg:Gl X x)(h:GInt X.mg x i)(hd:(x==("__debug__":Str))=false:=by decide):DE X (.Name x pos) (dC (.int i)):=by
 obtain⟨t,e⟩:=h.ex;exact de_c (oB (v:=.int i) hg e ⟨t,rfl⟩ hd) rfl
def CS(D:List (Str×Str))(ty:TE):TE:=λσ H Q=>ty σ H λy H1=>∃k v,y=.str k/\KTD.datumAt k D=some v/\Q (.str v) H1
theorem yV{D:List (Str×Str)}{ty:TE}(hg:Gl X x)(T:GTab X.K X.mg x D)(hb:PE X b ty)(hs:NoSl b)(hd:(x==("__debug__":Str))=false:=by decide):PE X (.Subscript (.Name x p) b pos) (CS D ty):=by
 obtain⟨a,hm,hl⟩:=T.ex;intro pins s σ H Q I h;refine Subscript_ (ER (oB (v:=.ref a) hg hm rfl hd pins s σ H (λy0 H0=>y0=.ref a/\CS D ty σ H0 Q) I ⟨rfl,h⟩) λu s1 ⟨y0,H0,I0,r0,e0,q0⟩=>?_);subst e0
 cases r0
 refine ER (hb pins s1 σ H0 _ I0 q0) λiv s2 ⟨y,H1,I1,ry,k,v,ey,ev,q⟩=>?_;subst ey;obtain⟨t,rfl⟩:=ry;have T2:KTD.TextTab s2.heap a (txt D):=PySem.W.kt_text_in I1.kIn hl;refine KTD.item_text (h₀:=s2.heap) (D:=txt D) ⟨T2,λ_ _ e=>e⟩ ?_ (pQ D λv' hv t'=>?_) (hs _ _)
 ·rw[<- KTD.isSome_datumAt,xl,ev];rfl
 ·rw[ev] at hv
  cases hv
  exact⟨.str v,H1,I1.tok _,⟨t',rfl⟩,q⟩
def AU(D:List (Str×Str))(t:E1)(δ:En)(R:W->En->Prop):Prop:=t δ (wd λz δ1=>qX z λk=>∃v,KTD.datumAt k D=some v/\R (.d (.str v)) δ1)
theorem sG{D:List (Str×Str)}(hg:Gl X x)(T:GTab X.K X.mg x D)(hb:DE X b tb)(hs:NoSl b)(hd:(x==("__debug__":Str))=false:=by decide):DE X (.Subscript (.Name x p) b pos) (AU D tb) :=
 PE.imp (yV hg T hb hs hd) λσ H Q ⟨G,δ,P,R,s,h,k,_⟩=>up.mk s h λz δ1 h1 u H1 s1=>by
  replace h1:=qX.ex h1;obtain⟨y,ez,h1⟩:=h1;obtain⟨v,ev,r⟩:=h1;subst ez;obtain⟨A,q⟩:=id s1;exact⟨y,v,bO (q.pnd (.str y,u) (by simp)),ev,k _ δ1 r _ H1 ((s1.sub (P':=P) λp hp=>by simp[hp]).sc rfl)⟩
end
end DL
namespace DL
open PySem PySem.Spec PyProof.Rows L2
def fMax:List D->(D->Prop)->Prop
 | [.int i,.int j],R=>R (.int (max i j))
 | [.lst ds],R=>∃ns:List Int,ds=ns.map D.int/\0<ns.length/\∀M∈ns,(∀a∈ns,a<=M)->R (.int M)
 | _,_=>False
theorem zL:∀ {d0:List D} {R:D->Prop},fMax d0 R->((∃(i:Int) (j:Int),d0=[.int i,.int j]/\R (.int (max i j)))\/(∃(ds:List D),d0=[.lst ds]/\∃ns:List Int,ds=ns.map D.int/\0<ns.length/\∀M∈ns,(∀a∈ns,a<=M)->R (.int M))):=by walk_at "or"
def vH{i j:Int}{R:D->Prop}:fMax [.int i,.int j] R=(R (.int (max i j))):=rfl
def vP{ds:List D}{R:D->Prop}:fMax [.lst ds] R=(∃ns:List Int,ds=ns.map D.int/\0<ns.length/\∀M∈ns,(∀a∈ns,a<=M)->R (.int M)):=rfl
theorem mL{K:PySem.W.Frag}{M:Addr->Prop}{H:Hp}:∀ {ns:List Int} {vs:List V},Reps K M H (ns.map D.int) vs->vs=ns.map V.int
 | [],vs,h=>by unfold Reps at h;exact h
 | s::ss,vs,h=>by
  rw[FJ] at h;unfold Reps at h;obtain⟨v,r,rfl,q,t⟩:=h;rw[aT q,mL t];rfl
theorem jU:∀ {ns:List Int} {us:List Value},bH (ns.map V.int) us->IntsAre us ns
 | [],_,r=>by rw[G1] at r;cases r;exact .nil
 | n::ns,_,r=>by
  rw[FJ] at r
  cases r with
  | @cons _ u _ us h t =>
   obtain⟨t',e⟩:=(show ∃t,u=Value.int n t from h);subst e;exact .cons _ _ (jU t)
theorem De{X:Cx}(hc:X.calm=true):bY X (.builtin "max") (aS X.K fMax):=by
 intro pins s σ H xs us Q I rv h;obtain⟨M,ds,R,m,rs,h,k⟩:=h;replace h:=zL h
 rcases h with⟨i,j,rfl,h⟩ | ⟨_,rfl,h⟩
 ·skip
  refine tK hc pins s σ H xs us Q I rv ?_;obtain⟨x,y,rfl,h1,h2⟩:=kz rs;refine⟨i,j,by rw[aT h1,aT h2],k _ h _ H (ci.refl H) ?_⟩;unfold EH
  congr 1
  by_cases z:j>i
  ·rw[Fs z];omega
  ·rw[Fp z];omega
 ·obtain⟨ns,rfl,hpos,h⟩:=h;obtain⟨x,rfl,q⟩:=bm rs;unfold EH at q;obtain⟨a,vs,rfl,_,e,r⟩:=q;obtain⟨u,rfl,ru⟩:=fR rv
  cases ru
  cases mL r
  obtain⟨its,rv2,pl,_⟩:=I.list (EY.of e);have hi:=jU rv2;obtain⟨ys,ey⟩:=hi.allInts.items;have hn:ys.toList.map (·.1)=ns:=by
   have e1:=nums_intItems ys
   rw[<- ey] at e1;exact e1.symm.trans hi.numsOf
  have hz:ys.size=ns.length:=by rw[<- hn,E7,He]
  have hl:=pl.isList
  rw[ey] at hl;refine max_intList (I.ok.hd hc) hl (by omega) λv h' tk hv hk=>?_;obtain⟨t,rfl⟩:=intItems_at hv;obtain⟨h1,h2⟩:=argBest_gt (numAt ys) (ys.size-1);refine⟨.int _,H,I.kept (t':=tk) hk,⟨t,rfl⟩,k _ (h _ ?_ λb hb=>?_) _ H (ci.refl H) (EH.sc rfl)⟩
  ·rw[numAt_eq,hn];have hlt:argBest (λi j=>decide (numAt ys i>numAt ys j)) (ys.size-1)<ns.length:=by omega
   rw[List.getD_eq_getElem?_getD,List.getElem?_eq_getElem hlt];exact FQ hlt
  ·obtain⟨j,hj,ej⟩:=List.getElem_of_mem hb;have:=h2 j (by omega);rw[numAt_eq ys j,hn] at this;have ej2:ns.getD j 0=b:=by rw[List.getD_eq_getElem?_getD,List.getElem?_eq_getElem hj];exact ej
   rw[ej2] at this;exact this
end DL
namespace Mf
variable {b p q:Int}
def gc(a b:Int):Int:=(Int.gcd a b:Nat)
theorem zR(a b:Int):gc b (a.fmod b)=gc a b:=by
 unfold gc;rw[Int.fmod_def,Int.gcd_sub_mul_left_right,Int.gcd_comm]
theorem jF(a b:Int)(hb:b≠0):(a.fmod b).natAbs<b.natAbs:=by
 rcases Int.lt_or_gt_of_ne hb with h | h
 ·have e:a.fmod b=-((-a).fmod (-b)):=by
   have h1:(-a).fdiv (-b)=a.fdiv b:=Int.neg_fdiv_neg a b
   rw[Int.fmod_def,Int.fmod_def,h1,Int.neg_mul];omega
  have h1:=FM (-a) (b:=-b) (by omega)
  have h2:=FW (-a) (b:=-b) (by omega)
  rw[e];omega
 ·have h1:=FM a h
  have h2:=FW a h
  omega
theorem yF(a:Int):gc a 0=if a<0 then -a else a:=by
 unfold gc;rw[Int.gcd_zero_right]
 split<;>omega
theorem uw(a b:Int):0<=gc a b:=by unfold gc;omega
theorem xF(a:Int)(h:b≠0):0<gc a b:=by
 unfold gc;have:=Int.gcd_pos_of_ne_zero_right a h;omega
def eS(a b:Int):gc a b ∣ a:=Int.gcd_dvd_left a b
def dW(a b:Int):gc a b ∣ b:=Int.gcd_dvd_right a b
structure ET(p q:Int):Prop where
 pos:0<q
 cop:gc p q=1
theorem ET.cop'(h:ET p q):Int.gcd p q=1:=by have:=h.cop;unfold gc at this;omega
theorem ET.ne(h:ET p q):q≠0:=by have:=h.pos;omega
theorem ET.uniq{p' q':Int}(h:ET p q)(h':ET p' q')(e:p*q'=p'*q):p=p'/\q=q':=by
 have d1:q ∣ q':=by
  have:q ∣ p*q':=⟨p',by rw[e,Gc]⟩
  have g:Int.gcd q p=1:=by rw[Int.gcd_comm];exact h.cop'
  have k:=(G4 (k:=q) (n:=p) (m:=q')).mpr this
  rw[g] at k;simpa using k
 have d2:q' ∣ q:=by
  have:q' ∣ p'*q:=⟨p,by rw[<- e,Gc]⟩
  have g:Int.gcd q' p'=1:=by rw[Int.gcd_comm];exact h'.cop'
  have k:=(G4 (k:=q') (n:=p') (m:=q)).mpr this
  rw[g] at k;simpa using k
 have eq:q=q':=by
  have a1:=Int.le_of_dvd h'.pos d1
  have a2:=Int.le_of_dvd h.pos d2
  omega
 subst eq;exact⟨Int.eq_of_mul_eq_mul_right h.ne e,rfl⟩
def dv(t b:Int):Int:=if b<0 then -(gc t b) else gc t b
def EM(t b:Int):Int:=t.fdiv (dv t b)
def EF(t b:Int):Int:=b.fdiv (dv t b)
theorem CF(t:Int)(h:b≠0):dv t b≠0:=by
 have:=xF t h
 unfold dv
 split<;>omega
theorem m5(t b:Int):dv t b ∣ t:=by
 unfold dv
 split
 ·exact(Int.neg_dvd).mpr (eS t b)
 ·exact eS t b
theorem mG(t b:Int):dv t b ∣ b:=by
 unfold dv
 split
 ·exact(Int.neg_dvd).mpr (dW t b)
 ·exact dW t b
def sP(t b:Int):EM t b*dv t b=t:=GU (m5 t b)
def uo(t b:Int):EF t b*dv t b=b:=GU (mG t b)
theorem l9(t b:Int):(dv t b).natAbs=Int.gcd t b:=by
 unfold dv gc
 split<;>omega
theorem eO(t:Int)(h:b≠0):ET (EM t b) (EF t b):=by
 have e1:=sP t b
 have e2:=uo t b
 have hd:=CF t h
 constructor
 ·unfold dv at e2 hd;have gp:=xF t h
  by_cases hb:b<0
  ·rw[Fs hb] at e2;have:EF t b*gc t b=-b:=by rw[Int.mul_neg] at e2;omega
   exact Int.pos_of_mul_pos_left (by omega) gp |> λz=>z
  ·rw[Fp hb] at e2;exact Int.pos_of_mul_pos_left (by omega) gp |> λz=>z
 ·have g:Int.gcd (EM t b*dv t b) (EF t b*dv t b)=Int.gcd (EM t b) (EF t b)*(dv t b).natAbs:=Int.gcd_mul_right _ _ _
  rw[e1,e2,l9] at g;have gp:=Int.gcd_pos_of_ne_zero_right t h;unfold gc;have:Int.gcd (EM t b) (EF t b)=1:=by
   have g2:1*Int.gcd t b=Int.gcd (EM t b) (EF t b)*Int.gcd t b:=by rw[Nat.one_mul];exact g
   exact(Nat.eq_of_mul_eq_mul_right gp g2).symm
  omega
theorem pJ(t b:Int):EM t b*b=t*EF t b:=by
 have e1:=sP t b
 have e2:=uo t b
 calc EM t b*b=EM t b*(EF t b*dv t b):=by rw[e2]
  _=(EM t b*dv t b)*EF t b:=by rw[Gd,Gc (EF t b)]
  _=t*EF t b:=by rw[e1]
theorem xM{t:Int}(hb:b≠0)(h:ET p q)(e:p*b=t*q):EM t b=p/\EF t b=q:=by
 refine(eO t hb).uniq h ?_;have c:=pJ t b;refine Int.eq_of_mul_eq_mul_right hb ?_
 calc EM t b*q*b=EM t b*b*q:=by rw[Gd,Gc q,<- Gd]
  _=t*EF t b*q:=by rw[c]
  _=(t*q)*EF t b:=by rw[Gd,Gc (EF t b),<- Gd]
  _=p*b*EF t b:=by rw[e]
  _=p*EF t b*b:=by rw[Gd,Gc b,<- Gd]
def ET.self(h:ET p q):EM p q=p/\EF p q=q:=xM h.ne h rfl
end Mf
namespace Mf
open PySem L2 DL
variable {q:Str→Int} {B C:Int}
def ED(q:Str->Int):List Str->Int
 | []=>1
 | n::r=>q n*ED q r
theorem kg(q:Str->Int)(l r:List Str):ED q (l++r)=ED q l*ED q r:=by
 induction l with
 | nil=>show ED q r=1*ED q r;rw[Int.one_mul]
 | cons x l ih=>show q x*ED q (l++r)=q x*ED q l*ED q r;rw[ih,Gd]
theorem tJ(q:Str->Int)(n:Str):ED q [n]=q n:=by show q n*1=q n;rw[Int.mul_one]
theorem dF:∀ {l:List Str},(∀n∈l,0<q n)->0<ED q l
 | [],_=>(by decide:(0:Int)<1)
 | n::r,h=>Int.mul_pos (h n (Fe ..)) (dF λm hm=>h m (E9 _ hm))
theorem fW:∀ {l:List Str} {n:Str},n∈l->q n ∣ ED q l
 | x::r,n,h=>by
  rcases Fj.mp h with rfl | h
  ·exact Int.dvd_mul_right _ _
  ·exact Int.dvd_trans (fW h) (Int.dvd_mul_left _ _)
theorem uN{l r:List Str}(h:l.Perm r):ED q l=ED q r:=by
 induction h with
 | nil=>rfl
 | cons x _ ih=>show q x*_=q x*_;rw[ih]
 | swap x y l=>show q y*(q x*ED q l)=q x*(q y*ED q l);rw[<- Gd,<- Gd,Gc (q y)]
 | trans _ _ h1 h2=>rw[h1,h2]
def et(f:Str->Int):List (Str×Int)->Int
 | []=>0
 | t::r=>t.2*f t.1+et f r
theorem n5(f:Str->Int)(l r:List (Str×Int)):et f (l++r)=et f l+et f r:=by
 induction l with
 | nil=>show et f r=0+et f r;rw[G3]
 | cons x l ih=>show x.2*f x.1+et f (l++r)=x.2*f x.1+et f l+et f r;rw[ih,HE]
theorem vS(f:Str->Int)(t:Str×Int):et f [t]=t.2*f t.1:=by show t.2*f t.1+0=_;rw[Gw]
theorem jW{f g:Str->Int}:∀ {l:List (Str×Int)},(∀t∈l,f t.1=g t.1)->et f l=et g l
 | [],_=>rfl
 | t::r,h=>by show t.2*f t.1+_=t.2*g t.1+_;rw[h t (Fe ..),jW λu hu=>h u (E9 _ hu)]
theorem kE(f:Str->Int)(k:Int):∀l:List (Str×Int),k*et f l=et (λn=>k*f n) l
 | []=>HR k
 | t::r=>by
  show k*(t.2*f t.1+et f r)=t.2*(k*f t.1)+_
  rw[Hu,kE f k r,F5]
def pV(ts:List (Str×Int)):List (Str×Int):=ts.map λt=>(t.1,-t.2)
def ov(p q:Str->Int)(B:Int)(n:Str):Int:=p n*B.fdiv (q n)
theorem vq{p:Str->Int}{n:Str}(h0:q n≠0)(h:q n ∣ B)(h':q n ∣ C):C*ov p q B n=B*ov p q C n:=by
 obtain⟨x,rfl⟩:=h;obtain⟨y,rfl⟩:=h';unfold ov;rw[Hh _ h0,Hh _ h0];rw[F5,F5 (q n*x),Gd,Gd,Gc y x]
theorem tF{p:Str->Int}{ts:List (Str×Int)}(h:∀t∈ts,q t.1≠0/\q t.1 ∣ B/\q t.1 ∣ C):C*et (ov p q B) ts=B*et (ov p q C) ts:=by
 rw[kE,kE];exact jW λt ht=>vq (h t ht).1 (h t ht).2.1 (h t ht).2.2
theorem uZ{a b s t:Int}(hB:0<B)(hC:0<C)(e:C*s=B*t):(b*B<=s↔b*C<=t):=by
 constructor
 ·intro h;have h1:=Int.mul_le_mul_of_nonneg_left h (Hi hC);rw[e] at h1;have h2:B*(b*C)<=B*t:=by rw[F5 B,Gc B C,F5 b];exact h1
  exact Int.le_of_mul_le_mul_left h2 hB
 ·intro h;have h1:=Int.mul_le_mul_of_nonneg_left h (Hi hB);rw[<- e] at h1;have h2:C*(b*B)<=C*s:=by rw[F5 C,Gc C B,F5 b];exact h1
  exact Int.le_of_mul_le_mul_left h2 hC
theorem vo{b s t:Int}(hB:0<B)(hC:0<C)(e:C*s=B*t):(b*B<s↔b*C<t):=by
 constructor
 ·intro h;have h1:=Int.mul_lt_mul_of_pos_left h hC;rw[e] at h1;have h2:B*(b*C)<B*t:=by rw[F5 B,Gc B C,F5 b];exact h1
  exact Int.lt_of_mul_lt_mul_left h2 (Hi hB)
 ·intro h;have h1:=Int.mul_lt_mul_of_pos_left h hB;rw[<- e] at h1;have h2:C*(b*B)<C*s:=by rw[F5 C,Gc C B,F5 b];exact h1
  exact Int.lt_of_mul_lt_mul_left h2 (Hi hC)
end Mf
namespace DL
open PySem PySem.Spec PyProof.Rows L2
theorem sJ{x y:Nat}{r t:List Nat}:ltCps (x::r) (y::t)=if x<y then true else if y<x then false else ltCps r t:=by
 show (decide (x<y)||(x==y&&ltCps r t))=_
 rcases G7 x y with h | h | h
 ·rw[Fs h,FX h];rfl
 ·subst h;rw[Fp (F7 x),Fp (F7 x)];simp
 ·rw[Fp (HS h),Fs h,FR (HS h)];have:(x==y)=false:=by simp;omega
  rw[this];rfl
theorem pv:∀ {a b:List Nat},ltCps a b=false->ltCps b a=false->a=b
 | [],[],_,_=>rfl
 | [],y::s,h,_=>by simp[ltCps] at h
 | x::r,[],_,h=>by simp[ltCps] at h
 | x::r,y::s,h1,h2=>by
  rw[sJ] at h1 h2
  rcases G7 x y with h | h | h
  ·rw[Fs h] at h1;cases h1
  ·subst h;rw[Fp (F7 x),Fp (F7 x)] at h1 h2;rw[pv h1 h2]
  ·rw[Fs h] at h2;cases h2
theorem iw:∀ {a b c:List Nat},ltCps b a=false->ltCps c b=false->ltCps c a=false
 | [],b,c,_,_=>by cases c<;>rfl
 | x::r,[],c,h,_=>by simp[ltCps] at h
 | x::r,y::s,[],_,h=>by simp[ltCps] at h
 | x::r,y::s,z::t,h1,h2=>by
  rw[sJ] at h1 h2 ⊢
  rcases G7 y x with h | h | h
  ·rw[Fs h] at h1;cases h1
  ·subst h;rw[Fp (F7 y),Fp (F7 y)] at h1
   rcases G7 z y with g | g | g
   ·rw[Fs g] at h2;cases h2
   ·subst g;rw[Fp (F7 z),Fp (F7 z)] at h2 ⊢;exact iw h1 h2
   ·rw[Fp (HS g),Fs g]
  ·rcases G7 z y with g | g | g
   ·rw[Fs g] at h2;cases h2
   ·subst g;rw[Fp (HS h),Fs h]
   ·have:x<z:=Nat.lt_trans h g
    rw[Fp (HS this),Fs this]
def leS(a b:Str):Prop:=ltCps b.cps.toList a.cps.toList=false
theorem BN{a b:Str}(h1:leS a b)(h2:leS b a):a=b:=by
 have:=pv h2 h1
 cases a;cases b
 simp only[Str.mk.injEq] at *;exact Array.toList_inj.mp this
theorem tP:∀ {ss:List Str},Srt ss->ss.Pairwise leS
 | [],_=>.nil
 | x::r,h=>by
  have h:risingS x r=true:=h
  have key:∀(r:List Str) (x:Str),risingS x r=true->(∀y∈r,leS x y)/\r.Pairwise leS:=by
   intro r
   induction r with
   | nil=>intro x _;exact⟨λy hy=>(nomatch hy),.nil⟩
   | cons y r ih =>
    intro x h;unfold risingS at h;obtain⟨h1,h2⟩:=FE.mp h;have h1:leS x y:=by unfold leS;cases q:ltCps y.cps.toList x.cps.toList with
     | false=>rfl
     | true=>rw[q] at h1;cases h1
    obtain⟨i1,i2⟩:=ih y h2;refine⟨λz hz=>?_,.cons i1 i2⟩
    rcases Fj.mp hz with rfl | hz
    ·exact h1
    ·exact iw h1 (i1 z hz)
  obtain⟨k1,k2⟩:=key r x h;exact .cons k1 k2
theorem kP:∀ {as bs:List Str},as.Pairwise leS->bs.Pairwise leS->as.Nodup->bs.Nodup->(∀x,x∈as↔x∈bs)->as=bs
 | [],[],_,_,_,_,_=>rfl
 | [],b::bs,_,_,_,_,h=>by have:=(h b).mpr (Fe ..);cases this
 | a::as,[],_,_,_,_,h=>by have:=(h a).mp (Fe ..);cases this
 | a::as,b::bs,pa,pb,na,nb,h=>by
  cases pa with
  | cons pa1 pa2 =>
   cases pb with
   | cons pb1 pb2 =>
    have e:a=b:=by
     rcases Fj.mp ((h a).mp (Fe ..)) with e | ha
     ·exact e
     ·rcases Fj.mp ((h b).mpr (Fe ..)) with e | hb
      ·exact e.symm
      ·exact BN (pa1 b hb) (pb1 a ha)
    subst e;obtain⟨n1,n2⟩:=F9.mp na;obtain⟨n3,n4⟩:=F9.mp nb;rw[kP pa2 pb2 n2 n4 λx=>⟨λhx=>?_,λhx=>?_⟩]
    ·rcases Fj.mp ((h x).mp (E9 _ hx)) with e | hx'
     ·exact absurd (e ▸ hx) n1
     ·exact hx'
    ·rcases Fj.mp ((h x).mpr (E9 _ hx)) with e | hx'
     ·exact absurd (e ▸ hx) n3
     ·exact hx'
end DL
namespace DL
open PySem PySem.Spec PyProof.Rows L2
variable {k l:Bool} {h h':Heap} {it a z p o j b:Addr} {i m:Nat} {xs ys:Array Value} {x:Value} {Q:Value→Shared→Prop} {elts:List Expr} {pos:Pos} {X:Cx} {pins:List (Addr×Obj)} {σ:L2.St} {H:Hp} {s:Shared}
def ItA(k:Bool)(h:Heap)(it a:Addr)(i:Nat):Prop:=match k with | true=>h.IsListIter it a i | false=>h.IsTupleIter it a i
def SqA(k:Bool)(h:Heap)(a:Addr)(xs:Array Value):Prop:=match k with | true=>h.IsList a xs | false=>h.IsTuple a xs
theorem ItA.keep(x:ItA k h it a i)(f:∀o,h.get? it=some o->h'.get? it=some o):ItA k h' it a i:=by
 cases k
 ·exact Heap.IsTupleIter.at x f
 ·exact Heap.IsListIter.at x f
theorem SqA.keep(x:SqA k h a xs)(f:∀o,h.get? a=some o->h'.get? a=some o):SqA k h' a xs:=by
 cases k
 ·exact Heap.IsTuple.at x f
 ·exact Heap.IsList.at x f
theorem ItA.obj(x:ItA k h it a i):∃o,h.get? it=some o/\o.cls=.type (if k then "list_iterator" else "tuple_iterator")/\o.data=.fields #[.ref a,.int i 0]:=by
 cases k
 ·exact x
 ·exact x
theorem SqA.there(x:SqA k h a xs):∃o,h.get? a=some o/\∃n,o.data=.seq xs n:=by
 cases k
 ·obtain⟨o,e,_,d⟩:=x;exact⟨o,e,d⟩
 ·obtain⟨o,e,_,d⟩:=x;exact⟨o,e,d⟩
section
variable {prog:Program} {w:World} {A:Around} {E:Value→Shared→Prop} {s:Shared}
theorem DN{t:Addr}(a1:s.heap.IsTupleIter it t i)(a2:s.heap.IsTuple t xs)(a3:xs[i]?=some x)
  (q:∀h',h'.IsTupleIter it t (i+1)->Heap.SameBut it s.heap h'->Q x { s with heap:=h' }):wpAny (model prog w) A (Builtin.SmallTypes.nextOf (.ref it)) Q E s:=by
 obtain⟨u,e1,e2,e3⟩:=id a1;obtain⟨ut,f1,_,nn,f2⟩:=a2;unfold Builtin.SmallTypes.nextOf;refine Fc (wpAny_callSpecial?_slot (name:=Str.ofString "__next__") a1.typeIs GG (GH GG a1.typeIs F.entry_tuple_iterator_next ?_ (F.args_tuple_iterator_next_1 _)));refine Fc (m:=field (.ref it) 0) (Gi e1 e3 (x:=.ref t) rfl ?_);rw[Fp (c:=(Value.ref t==Value.none)=true) Fg];refine Fc (m:=field (.ref it) 1) (Gi e1 e3 (x:=.int i 0) rfl ?_);refine Fc (m:=seqItems? (.ref t)) (GN f1 f2 ?_);simp only[Int.toNat_natCast,a3];refine Fc (wpAny_setField e1 e3 (by simp) (Ft ⟨x,rfl,Ft (q _ ?_ (Heap.SameBut.update ..))⟩));refine⟨_,Heap.get?_update_self _ e1 (Obj.isFreed_of_fields (Obj.data_mapFields e3 _)),(Obj.cls_mapFields ..).trans e2,?_⟩;rw[Obj.data_mapFields e3];simp[rawInt]
theorem tT{t:Addr}(a0:A.handled=none)(a1:s.heap.IsTupleIter it t i)(a2:s.heap.IsTuple t xs)(a3:xs[i]?=none)
  (q:∀h' e,Heap.ExtBut it s.heap h'->(∃o,h'.get? e=some o/\o.cls=.type "StopIteration")->E (.ref e) { s with heap:=h' }):wpAny (model prog w) A (Builtin.SmallTypes.nextOf (.ref it)) Q E s:=by
 obtain⟨u,e1,e2,e3⟩:=id a1;obtain⟨ut,f1,_,nn,f2⟩:=a2;unfold Builtin.SmallTypes.nextOf;refine Fc (wpAny_callSpecial?_slot (name:=Str.ofString "__next__") a1.typeIs GG (GH GG a1.typeIs F.entry_tuple_iterator_next ?_ (F.args_tuple_iterator_next_1 _)));refine Fc (m:=field (.ref it) 0) (Gi e1 e3 (x:=.ref t) rfl ?_);rw[Fp (c:=(Value.ref t==Value.none)=true) Fg];refine Fc (m:=field (.ref it) 1) (Gi e1 e3 (x:=.int i 0) rfl ?_);refine Fc (m:=seqItems? (.ref t)) (GN f1 f2 ?_);simp only[Int.toNat_natCast,a3];refine Fc (wpAny_rule (Fc (wpAny_setField e1 e3 (by simp) ?_)));refine Fc (m:=newExc (.type "StopIteration") []) ?_;simp only[newExc,newTuple];refine Fc (Gz ?_ (by size_fits));refine Fc (m:=firstArgMember _ _) (wpAny_of_eq (a:=Value.none) (by first | rfl | (simp only[firstArgMember];rfl)) ?_);refine Gz ?_ (by size_fits);simp only[raiseNew];refine Fc (wpAny_handled ?_)
 first | rw[show A.in1.handled=none from a0] | rw[a0]
 exact Fc (Ft (wpAny_throw (q _ _ (((Heap.SameBut.update ..).extBut.push _).push _) ⟨_,Heap.get?_push_size _ rfl,rfl⟩)))
theorem vp(a1:ItA k s.heap it a i)(a2:SqA k s.heap a xs)(a3:xs[i]?=some x)
  (q:∀h',ItA k h' it a (i+1)->Heap.SameBut it s.heap h'->Q x { s with heap:=h' }):wpAny (model prog w) A (Builtin.SmallTypes.nextOf (.ref it)) Q E s:=by
 cases k
 ·exact DN a1 a2 a3 q
 ·exact wpAny_nextOf_list_item a1 a2 a3 q
theorem iS(a0:A.handled=none)(a1:ItA k s.heap it a i)(a2:SqA k s.heap a xs)(a3:xs[i]?=none)
  (q:∀h' e,Heap.ExtBut it s.heap h'->(∃o,h'.get? e=some o/\o.cls=.type "StopIteration")->E (.ref e) { s with heap:=h' }):wpAny (model prog w) A (Builtin.SmallTypes.nextOf (.ref it)) Q E s:=by
 cases k
 ·exact tT a0 a1 a2 a3 q
 ·exact wpAny_nextOf_list_end a0 a1 a2 a3 q
theorem qj(a1:SqA k s.heap a xs)
  (q:Q (.ref s.heap.objs.size) { s with heap:=s.heap.push { cls:=.type (if k then "list_iterator" else "tuple_iterator"),data:=.fields #[.ref a,.int 0 0] } }):wpAny (model prog w) A (pyIter (.ref a)) Q E s:=by
 cases k
 ·exact wpAny_pyIter_tuple a1 q
 ·exact G6 a1 q
structure ZAp(z p o i j a b:Addr):Prop where
 zp:p≠z
 zo:o≠z
 zi:i≠z
 zj:j≠z
 po:p≠o
 pi:p≠i
 pj:p≠j
 oi:o≠i
 oj:o≠j
 ij:i≠j
 az:a≠z
 ao:a≠o
 ai:a≠i
 aj:a≠j
 bz:b≠z
 bo:b≠o
 bi:b≠i
 bj:b≠j
structure ZAt(k l:Bool)(h:Heap)(z p o i j a b:Addr)(m:Nat)(xs ys:Array Value):Prop where
 hz:IsZip h z p o .none
 hp:IsPair h p (.ref i) (.ref j)
 ho:∃u v,IsPair h o u v
 hi:ItA k h i a m
 hj:ItA l h j b m
 ha:SqA k h a xs
 hb:SqA l h b ys
theorem Eu{i:Addr}{y:Value}{x1}{Q:Unit->Shared->Prop}(D:ZAp z p o i j a b)(Z:ZAt k l s.heap z p o i j a b m xs ys)(hx:xs[m]?=some x)(hy:ys[m]?=some y)
  (q:∀h',ZAt k l h' z p o i j a b (m+1) xs ys->IsPair h' s.heap.objs.size x y->h'.objs.size=s.heap.objs.size+1->(∀c u,c≠z->c≠o->c≠i->c≠j->s.heap.get? c=some u->h'.get? c=some u)->Q () { s with heap:=h' }) :
  wpAny (model prog w) A (pyNext (.ref z)) (λr s1=>∃u,r=some u/\u=.ref s.heap.objs.size/\wpAny (model prog w) A (letOwnedTupleGo (.Tuple elts x1 pos) (.ref z) u) Q E s1) E s:=by
 obtain⟨hz,hp,⟨u,v,ho⟩,hi,hj,ha,hb⟩:=Z;have hT:s.TypeIs (.ref z) "zip":=⟨_,hz,rfl⟩;unfold pyNext;refine Fc (wpAny_attempt (wpAny_callSpecial?_slot (name:=Str.ofString "__next__") hT HM (GH HM hT F.entry_zip_next ?_ (F.args_zip_next_1 _))));refine Fc (m:=field (.ref z) 2) (Gi hz rfl (x:=.bool false) rfl ?_);refine Fc (m:=field (.ref z) 3) (Gi hz rfl (x:=.ref p) rfl ?_);refine Fc (GN hp rfl ?_);refine Fc (m:=Builtin.SmallTypes.ownedTupleIsFree (.ref z)) ?_;unfold Builtin.SmallTypes.ownedTupleIsFree;refine Fc (Gi hz rfl (x:=.none) rfl (Ft ?_));simp only[if_true];refine Fc (wpAny_rule (Fc (Gi hz rfl (x:=.ref o) rfl (Fc (GJ hz (by simp) λg1 z1 s1=>?_)))));replace z1:IsZip g1 z p o .ellipsis:=z1;refine Fc ?_;simp only[List.zipIdx_cons,List.zipIdx_nil,List.forIn_cons,List.forIn_nil];refine Fc (Fc (wpAny_onRaise ?_));have k1:∀c u,c≠z->s.heap.get? c=some u->g1.get? c=some u:=λc u n e=>s1.extBut _ _ n e;refine Fc (m:=Builtin.SmallTypes.nextOf (.ref i)) (vp (hi.keep λu e=>k1 _ u D.zi e) (ha.keep λu e=>k1 _ u D.az e) hx λg2 i2 s2=>Ft ?_);have k2:∀c u,c≠i->g1.get? c=some u->g2.get? c=some u:=λc u n e=>s2.extBut _ _ n e;have o2:IsPair g2 o u v:=k2 _ _ D.oi (k1 _ _ D.zo ho);refine Fc (GN o2 rfl (Fc (HB o2 λg3 o3 s3=>Fc (wpAny_letGo (Ft ?_)))));replace o3:IsPair g3 o x v:=o3;have k3:∀c u,c≠o->g2.get? c=some u->g3.get? c=some u:=λc u n e=>s3.extBut _ _ n e;refine Fc (Fc (wpAny_onRaise ?_));refine Fc (m:=Builtin.SmallTypes.nextOf (.ref j)) (vp (hj.keep λu e=>k3 _ u D.oj.symm (k2 _ u D.ij.symm (k1 _ u D.zj e))) (hb.keep λu e=>k3 _ u D.bo (k2 _ u D.bi (k1 _ u D.bz e))) hy λg4 j4 s4=>Ft ?_)
 have k4:∀c u,c≠j->g3.get? c=some u->g4.get? c=some u:=λc u n e=>s4.extBut _ _ n e
 have o4:IsPair g4 o x v:=k4 _ _ D.oj o3
 refine Fc (GN o4 rfl (Fc (HB o4 λg5 o5 s5=>Fc (wpAny_letGo (Ft (Ft ?_))))));replace o5:IsPair g5 o x y:=o5;have k5:∀c u,c≠o->g4.get? c=some u->g5.get? c=some u:=λc u n e=>s5.extBut _ _ n e;refine Fc (GN o5 rfl (Fc (wpAny_newTuple ?_)));have hsz:g5.objs.size=s.heap.objs.size:=by rw[s5.1,s4.1,s3.1,s2.1,s1.1]
 have z5:IsZip g5 z p o .ellipsis:=k5 _ _ D.zo.symm (k4 _ _ D.zj.symm (k3 _ _ D.zo.symm (k2 _ _ D.zi.symm z1)))
 have kk:∀c u,c≠z->c≠o->c≠i->c≠j->s.heap.get? c=some u->g5.get? c=some u:=λc u n1 n2 n3 n4 e=>k5 _ _ n2 (k4 _ _ n4 (k3 _ _ n2 (k2 _ _ n3 (k1 _ _ n1 e))))
 have i5:ItA k g5 i a (m+1):=i2.keep λu e=>k5 _ u D.oi.symm (k4 _ u D.ij (k3 _ u D.oi.symm e))
 have j5:ItA l g5 j b (m+1):=j4.keep λu e=>k5 _ u D.oj.symm e
 have lz:=FC z5
 refine Fc (m:=Builtin.SmallTypes.ownedTupleHandOut (.ref z) (.ref g5.objs.size)) ?_;unfold Builtin.SmallTypes.ownedTupleHandOut;have z6:IsZip (g5.push { cls:=.type "tuple",data:=.seq #[x,y] }) z p o .ellipsis:=Heap.get?_push_of_some _ z5;refine Fc (GJ z6 (by simp) λg7 z7 s7=>?_);replace z7:IsZip g7 z p o (rawInt g5.objs.size):=z7;refine GJ z7 (by simp) λg8 z8 s8=>?_;replace z8:IsZip g8 z p o (rawInt g5.objs.size):=z8;have k8:∀c u,c≠z->g5.get? c=some u->g8.get? c=some u:=λc u n e=>s8.extBut _ _ n (s7.extBut _ _ n (Heap.get?_push_of_some _ e));have t8:IsPair g8 g5.objs.size x y:=s8.extBut _ _ (Hg lz) (s7.extBut _ _ (Hg lz) (Heap.get?_push_size _ rfl));have n8:g8.objs.size=g5.objs.size+1:=by rw[s8.1,s7.1,Gv]
 rw[hsz] at z8 t8 n8;refine Ft ⟨_,rfl,Ft ⟨_,rfl,Gs Value.ref hsz,?_⟩⟩;show wpAny (model prog w) A (letOwnedTupleGo (.Tuple elts x1 pos) (.ref z) (.ref g5.objs.size)) Q E _;rw[hsz];refine wpAny_letOwnedTupleGo_zip z8 λg9 z9 s9=>?_;have k9:∀c u,c≠z->g8.get? c=some u->g9.get? c=some u:=λc u n e=>s9.extBut _ _ n e;have up:∀c u,c≠z->g5.get? c=some u->g9.get? c=some u:=λc u n e=>k9 _ _ n (k8 _ _ n e);refine q g9 ⟨z9,up _ _ D.zp (kk _ _ D.zp D.po D.pi D.pj hp),⟨x,y,up _ _ D.zo o5⟩,i5.keep λu e=>up _ u D.zi e,j5.keep λu e=>up _ u D.zj e,ha.keep λu e=>up _ u D.az (kk _ _ D.az D.ao D.ai D.aj e),hb.keep λu e=>up _ u D.bz (kk _ _ D.bz D.bo D.bi D.bj e)⟩ ?_ ?_ λc u n1 n2 n3 n4 e=>up c u n1 (kk c u n1 n2 n3 n4 e)
 ·exact k9 _ _ (by rw[<- hsz];exact Hg lz) t8
 ·rw[s9.1,n8]
theorem Dl{i:Addr}{Q:Option Value->Shared->Prop}(a0:A.handled=none)(D:ZAp z p o i j a b)(Z:ZAt k l s.heap z p o i j a b m xs ys)(hend:xs[m]?=none\/ys[m]?=none)
  (q:∀h',(∀c u,c≠z->c≠o->c≠i->c≠j->s.heap.get? c=some u->h'.get? c=some u)->Q none { s with heap:=h' }):wpAny (model prog w) A (pyNext (.ref z)) Q E s:=by
 obtain⟨hz,hp,⟨u,v,ho⟩,hi,hj,ha,hb⟩:=Z;have hT:s.TypeIs (.ref z) "zip":=⟨_,hz,rfl⟩;unfold pyNext;have fin:∀(g:Heap) (e:Addr),(∀c u,c≠z->c≠o->c≠i->c≠j->s.heap.get? c=some u->g.get? c=some u)->(∃o,g.get? e=some o/\o.cls=.type "StopIteration") ->
   wpAny (model prog w) A (do if<-isInstance (.ref e) (.type "StopIteration") then pure (none:Option Value) else throw (.ref e)) Q E { s with heap:=g }:=λg e kk ⟨oe,h1,h2⟩ =>
  Fc (wpAny_isInstance (T:="StopIteration") (b:=true) ⟨oe,h1,h2⟩ isSubtype_stop (Ft (q _ kk)))
 refine Fc (wpAny_attempt (wpAny_callSpecial?_slot (name:=Str.ofString "__next__") hT HM (GH HM hT F.entry_zip_next ?_ (F.args_zip_next_1 _))));refine Fc (m:=field (.ref z) 2) (Gi hz rfl (x:=.bool false) rfl ?_);refine Fc (m:=field (.ref z) 3) (Gi hz rfl (x:=.ref p) rfl ?_);refine Fc (GN hp rfl ?_);refine Fc (m:=Builtin.SmallTypes.ownedTupleIsFree (.ref z)) ?_;unfold Builtin.SmallTypes.ownedTupleIsFree;refine Fc (Gi hz rfl (x:=.none) rfl (Ft ?_));simp only[if_true];refine Fc (wpAny_rule (Fc (Gi hz rfl (x:=.ref o) rfl (Fc (GJ hz (by simp) λg1 z1 s1=>?_)))));replace z1:IsZip g1 z p o .ellipsis:=z1;refine Fc ?_;simp only[List.zipIdx_cons,List.zipIdx_nil,List.forIn_cons,List.forIn_nil];refine Fc (Fc (wpAny_onRaise ?_));have k1:∀c u,c≠z->s.heap.get? c=some u->g1.get? c=some u:=λc u n e=>s1.extBut _ _ n e;have i1:=hi.keep λu e=>k1 _ u D.zi e;have a1:=ha.keep λu e=>k1 _ u D.az e
 cases hx:xs[m]? with
 | none =>
  refine Fc (m:=Builtin.SmallTypes.nextOf (.ref i)) (iS a0 i1 a1 hx λg2 e s2 he=>?_);obtain⟨oe,hoe,hce⟩:=he;have z2:IsZip g2 z p o .ellipsis:=s2 _ _ D.zi.symm z1;have hez:e≠z:=λx=>by subst x;rw[z2] at hoe;cases hoe;simp at hce
  exact GJ z2 (by simp) λg3 _ s3=>fin g3 e (λc u n1 _ n3 _ x=>s3.extBut _ _ n1 (s2 _ _ n3 (k1 _ _ n1 x))) ⟨oe,s3.extBut _ _ hez hoe,hce⟩
 | some x =>
  have hy:ys[m]?=none:=by rcases hend with h | h;rw[hx] at h;cases h;exact h
  refine Fc (m:=Builtin.SmallTypes.nextOf (.ref i)) (vp i1 a1 hx λg2 i2 s2=>Ft ?_);have k2:∀c u,c≠i->g1.get? c=some u->g2.get? c=some u:=λc u n e=>s2.extBut _ _ n e;have o2:IsPair g2 o u v:=k2 _ _ D.oi (k1 _ _ D.zo ho);refine Fc (GN o2 rfl (Fc (HB o2 λg3 o3 s3=>Fc (wpAny_letGo (Ft ?_)))));have k3:∀c u,c≠o->g2.get? c=some u->g3.get? c=some u:=λc u n e=>s3.extBut _ _ n e;refine Fc (Fc (wpAny_onRaise ?_));refine Fc (m:=Builtin.SmallTypes.nextOf (.ref j)) (iS a0 (hj.keep λu e=>k3 _ u D.oj.symm (k2 _ u D.ij.symm (k1 _ u D.zj e))) (hb.keep λu e=>k3 _ u D.bo (k2 _ u D.bi (k1 _ u D.bz e))) hy λg4 e s4 he=>?_);obtain⟨oe,hoe,hce⟩:=he;have z4:IsZip g4 z p o .ellipsis:=s4 _ _ D.zj.symm (k3 _ _ D.zo.symm (k2 _ _ D.zi.symm z1));have hez:e≠z:=λx=>by subst x;rw[z4] at hoe;cases hoe;simp at hce
  exact GJ z4 (by simp) λg5 _ s5=>fin g5 e (λc u n1 n2 n3 n4 x=>s5.extBut _ _ n1 (s4 _ _ n4 (k3 _ _ n2 (k2 _ _ n3 (k1 _ _ n1 x))))) ⟨oe,s5.extBut _ _ hez hoe,hce⟩
abbrev zh(k l:Bool)(h:Heap)(a b:Addr):Heap:=((((h.push { cls:=.type (if k then "list_iterator" else "tuple_iterator"),data:=.fields #[.ref a,.int 0 0] }).push { cls:=.type (if l then "list_iterator" else "tuple_iterator"),data:=.fields #[.ref b,.int 0 0] }).push
 { cls:=.type "tuple",data:=.seq #[.ref h.objs.size,.ref (h.objs.size+1)] }).push { cls:=.type "tuple",data:=.seq #[.none,.none] }).push { cls:=.type "zip",data:=.fields #[.none,.bool false,.bool false,.ref (h.objs.size+2),.ref (h.objs.size+3)] }
def AM(k l:Bool)(a b:Addr)(xs ys:Array Value):Meets (Builtin.«zip.__new__» ⟨[.type "zip",.ref a,.ref b],[]⟩) (λ_ R s=>SqA k s.heap a xs/\SqA l s.heap b ys/\R (.ok (.ret (.ref (s.heap.objs.size+4)))) { s with heap:=zh k l s.heap a b }) :=
 .of_wp λprog w A R s h=>by
  obtain⟨hp,g,d,tk,os⟩:=s;obtain⟨a1,a2,h⟩:=h;have hsub:=sub_zip;have b1:SqA k (Shared.heap ⟨hp,g,d,tk,os⟩) a xs:=a1;have b2:SqA l (Shared.heap ⟨hp.push { cls:=.type (if k then "list_iterator" else "tuple_iterator"),data:=.fields #[.ref a,.int 0 0] },g,d,tk,os⟩) b ys:=SqA.keep a2 λo e=>Heap.get?_push_of_some _ e
  wp_walk using qj b1,qj b2
  refine⟨_,rfl,?_⟩;simp only[Heap.size_push];exact h
theorem Ei(a1:SqA k s.heap a xs)(a2:SqA l s.heap b ys)
  (h:ZAt k l (zh k l s.heap a b) (s.heap.objs.size+4) (s.heap.objs.size+2) (s.heap.objs.size+3) s.heap.objs.size (s.heap.objs.size+1) a b 0 xs ys->(∀c o,s.heap.get? c=some o->(zh k l s.heap a b).get? c=some o)->Q (.ref (s.heap.objs.size+4)) { s with heap:=zh k l s.heap a b }) :
  wpAny (model prog w) A (call (.type "zip") [.ref a,.ref b]) Q E s:=by
 refine callType_new F.called_zip (by decide) (F.typeCall_zip_2 _ _) (F.newCall_zip_2 _ _) (λobj=>F.args_object_init_3 obj _ _) F.entry_zip_new (AM k l a b xs ys) ⟨a1,a2,?_⟩;have up:∀c o,s.heap.get? c=some o->(zh k l s.heap a b).get? c=some o:=λc o e=>Heap.get?_push_of_some _ (Heap.get?_push_of_some _ (Heap.get?_push_of_some _ (Heap.get?_push_of_some _ (Heap.get?_push_of_some _ e))));have sz:∀(h:Heap) (o:Obj) (n:Nat),h.objs.size=n->o.isFreed=false->(h.push o).get? n=some o:=λh o n e f=>by rw[<- e];exact Heap.get?_push_size _ f
 have e4:(zh k l s.heap a b).get? (s.heap.objs.size+4)=some _:=sz _ _ _ (by simp only[Heap.size_push]) rfl
 have e3:(zh k l s.heap a b).get? (s.heap.objs.size+3)=some _:=Heap.get?_push_of_some _ (sz _ _ _ (by simp only[Heap.size_push]) rfl)
 have e2:(zh k l s.heap a b).get? (s.heap.objs.size+2)=some _:=Heap.get?_push_of_some _ (Heap.get?_push_of_some _ (sz _ _ _ (by simp only[Heap.size_push]) rfl))
 have e1:(zh k l s.heap a b).get? (s.heap.objs.size+1)=some _:=Heap.get?_push_of_some _ (Heap.get?_push_of_some _ (Heap.get?_push_of_some _ (sz _ _ _ (by simp only[Heap.size_push]) rfl)))
 have e0:(zh k l s.heap a b).get? s.heap.objs.size=some _:=Heap.get?_push_of_some _ (Heap.get?_push_of_some _ (Heap.get?_push_of_some _ (Heap.get?_push_of_some _ (Heap.get?_push_size _ rfl))))
 have i0:ItA k (zh k l s.heap a b) s.heap.objs.size a 0:=by
  cases k
  ·exact⟨_,e0,rfl,rfl⟩
  ·exact⟨_,e0,rfl,rfl⟩
 have i1:ItA l (zh k l s.heap a b) (s.heap.objs.size+1) b 0:=by
  cases l
  ·exact⟨_,e1,rfl,rfl⟩
  ·exact⟨_,e1,rfl,rfl⟩
 exact⟨⟨_,e4,rfl⟩,h ⟨e4,e2,⟨_,_,e3⟩,i0,i1,a1.keep λo e=>up _ o e,a2.keep λo e=>up _ o e⟩ up⟩
theorem ZAp.new{n a b:Nat}(h1:a<n)(h2:b<n):ZAp (n+4) (n+2) (n+3) n (n+1) a b:=by
 constructor<;>(intro e;have e:(_:Nat)=_:=e;omega)
end
theorem kL{t':Nat}{fp:List Addr}(I:Inv X pins σ H s)(k:∀b o,b∉fp->s.heap.get? b=some o->h'.get? b=some o)(hf:∀b∈fp,vg X pins H b) :
  Inv X pins σ H { s with heap:=h',toks:=t' }:=by
 have nit:∀b u,H b=some u->b∉fp:=λb u e z=>by rw[(hf b z).1] at e;cases e
 refine I.step (g':=s.gens) (d':=s.drawn) (ch:=fp) (λb hb=>?_) (λb o _ _ hc e _=>k b o hc e) (λb o _ _ hc e _=>⟨o.slots,k b o hc e⟩) (λ_ _ _ _ n=>n)
  (λb o hc e=>⟨o,k b o hc e⟩) (λ_ _ e=>e) (λ_ _ _ e=>e) (λb ps e=>⟨#[],by rw[e];simp⟩) (λm hm=>?_) (λb u e=>?_) I.bare
 ·obtain⟨f0,f1,f2,f3,f4,f5⟩:=hf b hb;exact⟨f3,f1,f4,f5⟩
 ·obtain⟨o,es,ep,ho,r⟩:=hm;exact⟨o,es,ep,k _ o (λz=>(hf _ z).2.1 rfl) ho,r⟩
 ·refine(I.hok b u e).stay (λc v hc q=>k c v ?_ q) (λ_ q=>q) λ_ _ q=>q
  rcases hc with z | z
  ·rw[z];exact nit b u e
  ·exact nit c _ z
def EL(k:Bool)(K:PySem.W.Frag)(H:Hp)(a:Addr)(xs:List V):Prop:=match k with | true=>EY K H a xs | false=>E5 K H a xs
theorem EL.at{xs:List V}(I:Inv X pins σ H s)(h:EL k X.K H a xs):∃its:List Value,bH xs its/\SqA k s.heap a its.toArray:=by
 cases k
 ·obtain⟨its,r,p,_⟩:=I.tuple h;exact⟨its,r,p⟩
 ·obtain⟨its,r,p,_⟩:=I.list h;exact⟨its,r,p.isList⟩
theorem EL.inj{xs ys:List V}(I:Inv X pins σ H s)(h:EL k X.K H a xs)(h':EL k X.K H a ys):xs=ys:=by
 cases k
 ·exact I.tuple_inj h h'
 ·exact I.list_inj h h'
def Itz(K:PySem.W.Frag)(k l:Bool)(a b:Addr):It :=
  ⟨λi H=>∃xs ys x y,EL k K H a xs/\EL l K H b ys/\xs[i]?=some x/\ys[i]?=some y,
   λi H v H'=>∃T x y,H T=none/\H'=EE H T (.tup [x,y])/\v=.ref T/\(∀xs,EL k K H a xs->xs[i]?=some x)/\∀ys,EL l K H b ys->ys[i]?=some y,
   λi H=>∃xs ys,EL k K H a xs/\EL l K H b ys/\(xs.length<=i\/ys.length<=i)⟩
structure ZI(k l:Bool)(h:Heap)(z p o i j a b:Addr)(m:Nat):Prop where
 hz:IsZip h z p o .none
 hp:IsPair h p (.ref i) (.ref j)
 ho:∃u v,IsPair h o u v
 hi:ItA k h i a m
 hj:ItA l h j b m
def ZAt.zi{i:Addr}(Z:ZAt k l h z p o i j a b m xs ys):ZI k l h z p o i j a b m:=⟨Z.hz,Z.hp,Z.ho,Z.hi,Z.hj⟩
theorem vf{P:Program}{w:World}{K:PySem.W.Frag}{x1}{i:Addr}(D:ZAp z p o i j a b) :
  wU P w K (.Tuple elts x1 pos) (Itz K k l a b) [z,p,o,i,j] z (λm h=>ZI k l h z p o i j a b m) where
 mem:=by simp
 obj:=λm h Z c hc=>by
  simp only[List.mem_cons,List.not_mem_nil,or_false] at hc
  rcases hc with rfl | rfl | rfl | rfl | rfl
  ·exact⟨_,Z.hz,λv=>nofun⟩
  ·exact⟨_,Z.hp,λv=>nofun⟩
  ·obtain⟨u,v,e⟩:=Z.ho;exact⟨_,e,λv=>nofun⟩
  ·obtain⟨q,e,_,d⟩:=Z.hi.obj;exact⟨q,e,λv=>by rw[d];nofun⟩
  ·obtain⟨q,e,_,d⟩:=Z.hj.obj;exact⟨q,e,λv=>by rw[d];nofun⟩
 keep:=λm h h' Z kk=>⟨kk _ (by simp) _ Z.hz,kk _ (by simp) _ Z.hp,(by obtain⟨u,v,e⟩:=Z.ho;exact⟨u,v,kk _ (by simp) _ e⟩),Z.hi.keep λq e=>kk _ (by simp) q e,Z.hj.keep λq e=>kk _ (by simp) q e⟩
 item:=by
  intro X hP hw hK hc m pins s σ H E I hf Z hg;subst hP hw hK;obtain⟨xs,ys,x,y,h1,h2,hx,hy⟩:=hg;obtain⟨is,r1,p1⟩:=EL.at I h1;obtain⟨js,r2,p2⟩:=EL.at I h2;obtain⟨u,hu,ru⟩:=r1.get hx;obtain⟨v,hv,rv⟩:=r2.get hy;refine ER (Eu (E:=E) (Q:=λ_ s2=>∃x H',Inv X pins σ H' s2/\bB x (.ref s.heap.objs.size)/\(Itz X.K k l a b).yld m H x H'/\ZI k l s2.heap z p o i j a b (m+1)/\∀b∈[z,p,o,i,j],H' b=none) (elts:=elts) (x1:=x1) (pos:=pos) D ⟨Z.hz,Z.hp,Z.ho,Z.hi,Z.hj,p1,p2⟩ (x:=u) (y:=v) (by simpa using hu) (by simpa using hv) λh' Z' t' n' kk=>?_) λr s1 ⟨u',e1,e2,q⟩=>⟨u',e1,by subst e2;exact q⟩;have hfr:H s.heap.objs.size=none:=I.hok.fresh (Fh _);have I1:Inv X pins σ (EE H s.heap.objs.size (.tup [x,y])) { s with heap:=s.heap.push { cls:=.type "tuple",data:=.seq #[u,v] } }:=I.laid (t':=s.toks) (λb u e=>Heap.get?_push_of_some _ e) (Fh _) ⟨by show 2<=sizeLine;decide,[u,v],.cons ru (.cons rv .nil),⟨_,Heap.get?_push_size _ rfl,rfl,_,rfl⟩⟩;have lt:∀c∈[z,p,o,i,j],c≠s.heap.objs.size:=λc hc=>by
   have:∃q,s.heap.get? c=some q:=by
    simp only[List.mem_cons,List.not_mem_nil,or_false] at hc
    rcases hc with rfl | rfl | rfl | rfl | rfl
    ·exact⟨_,Z.hz⟩
    ·exact⟨_,Z.hp⟩
    ·obtain⟨u,v,e⟩:=Z.ho;exact⟨_,e⟩
    ·obtain⟨q,e,_⟩:=Z.hi.obj;exact⟨q,e⟩
    ·obtain⟨q,e,_⟩:=Z.hj.obj;exact⟨q,e⟩
   obtain⟨q,e⟩:=this;exact FV (FC e)
  have fr:∀c∈[z,p,o,i,j],EE H s.heap.objs.size (.tup [x,y]) c=none:=λc hc=>by rw[aO (lt c hc)];exact(hf c hc).1
  have I2:Inv X pins σ (EE H s.heap.objs.size (.tup [x,y])) { s with heap:=h' }:=kL (s:={ s with heap:=s.heap.push { cls:=.type "tuple",data:=.seq #[u,v] } }) (t':=s.toks) (fp:=[z,p,o,i,j]) I1 (λc q hc e=>?_) λc hc=>⟨fr c hc,(hf c hc).2⟩
  ·exact⟨.ref s.heap.objs.size,_,I2,rfl,⟨_,x,y,hfr,rfl,rfl,λzs hz=>by rw[EL.inj I hz h1];exact hx,λzs hz=>by rw[EL.inj I hz h2];exact hy⟩,Z'.zi,fr⟩
  ·rcases Heap.get?_push_cases e with⟨rfl,rfl⟩ | e
   ·exact t'
   ·exact kk c q (λz=>hc (by simp[z])) (λz=>hc (by simp[z])) (λz=>hc (by simp[z])) (λz=>hc (by simp[z])) e
 done:=by
  intro X hP hw hK hc m pins s σ H E I hf Z hg;subst hP hw hK;obtain⟨xs,ys,h1,h2,hl⟩:=hg;obtain⟨is,r1,p1⟩:=EL.at I h1;obtain⟨js,r2,p2⟩:=EL.at I h2;have l1:=r1.length;have l2:=r2.length;refine Dl (I.ok.hd hc) D ⟨Z.hz,Z.hp,Z.ho,Z.hi,Z.hj,p1,p2⟩ (hl.imp (λh=>by simp;omega) λh=>by simp;omega) λh' kk=>⟨rfl,kL (t':=s.toks) (fp:=[z,p,o,i,j]) I (λc q hc e=>?_) hf⟩;exact kk c q (λz=>hc (by simp[z])) (λz=>hc (by simp[z])) (λz=>hc (by simp[z])) (λz=>hc (by simp[z])) e
 self:=λ_ _ _ _ _ Z h=>wpAny_pyIter_zip Z.hz h
section
variable {X:Cx}
def iZip(K:PySem.W.Frag)(k l:Bool)(ta:TA):TI:=λσ H R=>ta σ H λvs H1=>∃a b,vs=[.ref a,.ref b]/\(∃xs,EL k K H1 a xs)/\(∃ys,EL l K H1 b ys)/\R (Itz K k l a b) H1
theorem A9{a b:Expr}{ta:TA}{p:Pos}{x1}{pos':Pos}(hg:Gl X "zip")(hm:X.mg "zip"=none)(ha:PA X [a,b] ta)(hs:starEach [a,b] X.env=[(false,eval a X.env),(false,eval b X.env)]:=by rfl)(hs2:starEach [b] X.env=[(false,eval b X.env)]:=by rfl) :
  PI X (.Tuple elts x1 pos') (.Call (.Name "zip" p) [a,b] [] pos) (iZip X.K k l ta):=by
 intro pins s σ H R I h;refine Call_ (iM I hg hm boot_zip (Gh (ER (ha pos pins s σ H _ I h) λus s1 ⟨vs,H1,I1,r1,q1⟩=>?_) (by rw[hs,hs2]) (by rw[hs2];rfl)));obtain⟨c,d,e,⟨xs,hx⟩,⟨ys,hy⟩,q⟩:=q1;subst e
 cases r1 with
 | cons r rr =>
  cases rr with
  | cons r' rr =>
   cases rr
   cases r
   cases r'
   obtain⟨is,_,p1⟩:=EL.at I1 hx;obtain⟨js,_,p2⟩:=EL.at I1 hy;refine Ei p1 p2 λZ up=>wpAny_pyIter_zip Z.hz ?_;have lt:∀ {k:Bool} {c:Addr} {zs:Array Value},SqA k s1.heap c zs->c<s1.heap.objs.size:=λh=>let ⟨_,e,_⟩:=h.there;FC e;refine⟨_,_,_,_,H1,rfl,I1.kept (t':=s1.toks) up,vf (ZAp.new (lt p1) (lt p2)),Z.zi,λb hb=>?_,q⟩;have hb:s1.heap.objs.size<=b:=by
    simp only[List.mem_cons,List.not_mem_nil,or_false] at hb
    rcases hb with rfl | rfl | rfl | rfl | rfl
    ·exact Hc ..
    ·exact Hc ..
    ·exact Hc ..
    ·exact Fh _
    ·exact Hc ..
   exact I1.fpOk hb (I1.hok.fresh hb)
end
def sq(k:Bool)(xs:List D):D:=match k with | true=>.lst xs | false=>.tup xs
def mO(xs ys:List D):List D:=List.zipWith (λx y=>D.tup [x,y]) xs ys
def qS:Bool->D->(List D->Prop)->Prop
 | true,d,k=>qL d k
 | false,d,k=>qT d k
theorem qS.ex{b:Bool}{d:D}{k:List D->Prop}(h:qS b d k):∃xs,d=sq b xs/\k xs:=by
 cases b
 ·exact qT.ex h
 ·exact qL.ex h
def BM(k l:Bool)(t:TDA)(δ:En)(R:List D->En->Prop):Prop:=t δ λds δ1=>qC ds λx r=>qC r λy r=>qN r <| qS k x λxs=>qS l y λys=>R (mO xs ys) δ1
section
variable {X:Cx} {ta:TDA}
theorem pY{K:PySem.W.Frag}{M:Addr->Prop}{xs:List D}{v:V}(h:EH K M H (sq k xs) v):∃a vs,v=.ref a/\EL k K H a vs/\Reps K M H xs vs:=by
 cases k
 ·unfold sq EH at h;exact h
 ·unfold sq EH at h;obtain⟨a,vs,e,_,l,r⟩:=h;exact⟨a,vs,e,EY.of l,r⟩
theorem gv(k l:Bool){a b:Expr}{p:Pos}{x1}{pos':Pos}(hg:Gl X "zip")(hm:X.mg "zip"=none)(ha:DA X [a,b] ta)(hs:starEach [a,b] X.env=[(false,eval a X.env),(false,eval b X.env)]:=by rfl)(hs2:starEach [b] X.env=[(false,eval b X.env)]:=by rfl) :
  CI X (.Tuple elts x1 pos') (.Call (.Name "zip" p) [a,b] [] pos) (BM k l ta) :=
 ⟨_,A9 (k:=k) (l:=l) hg hm ha hs hs2,λG δ P σ H R Q s hs kk=>⟨G,δ,P,_,s,hs,λds δ1 h1 vs H1 hl s1=>by
  replace h1:=qC.ex h1;obtain⟨x,r,e,h1⟩:=h1;replace h1:=qC.ex h1;obtain⟨y,r',e',h1⟩:=h1;replace h1:=qN.ex h1;obtain⟨e2,h1⟩:=h1;replace h1:=qS.ex h1;obtain⟨xs,e3,h1⟩:=h1;replace h1:=qS.ex h1;obtain⟨ys,e4,r⟩:=h1;subst e4 e3 e2 e' e
  match vs,hl with
  | [v,w],_ =>
   have s2:S X.K G δ1 ((sq k xs,v)::(sq l ys,w)::P) σ H1:=s1
   have at1:∀A δ σ H,Sx X.K G A δ ((sq k xs,v)::(sq l ys,w)::P) σ H->∃a vs,v=.ref a/\EL k X.K H a vs/\Reps X.K (λb=>G.M0 b\/A b) H xs vs:=λA δ σ H x=>pY (x.pnd (sq k xs,v) (by simp))
   have at2:∀A δ σ H,Sx X.K G A δ ((sq k xs,v)::(sq l ys,w)::P) σ H->∃a vs,w=.ref a/\EL l X.K H a vs/\Reps X.K (λb=>G.M0 b\/A b) H ys vs:=λA δ σ H x=>pY (x.pnd (sq l ys,w) (by simp))
   obtain⟨A1,x1⟩:=id s2;obtain⟨a,vs0,rfl,l0,_⟩:=at1 _ _ _ _ x1;obtain⟨b,ws0,rfl,m0,_⟩:=at2 _ _ _ _ x1;have hlen:(mO xs ys).length=min xs.length ys.length:=by unfold mO;rw[List.length_zipWith]
   refine⟨a,b,rfl,⟨vs0,l0⟩,⟨ws0,m0⟩,kk _ δ1 r _ _ H1 (λq hq=>by simp[hq]) s2 (λA δ σ i H x hi=>?_) (λA δ σ H x=>?_) λA δ σ i y H H2 x hi hy=>?_⟩
   ·obtain⟨_,vs,e,l,r⟩:=at1 _ _ _ _ x
    cases e
    obtain⟨_,ws,e,l2,r2⟩:=at2 _ _ _ _ x
    cases e
    obtain⟨v',hv,_⟩:=Reps.get _ _ r i (xs[i]'(by omega)) (by simp);obtain⟨w',hw,_⟩:=Reps.get _ _ r2 i (ys[i]'(by omega)) (by simp);exact⟨vs,ws,v',w',l,l2,hv,hw⟩
   ·obtain⟨_,vs,e,l,r⟩:=at1 _ _ _ _ x
    cases e
    obtain⟨_,ws,e,l2,r2⟩:=at2 _ _ _ _ x
    cases e
    have:=Reps.length _ _ r
    have:=Reps.length _ _ r2
    exact⟨vs,ws,l,l2,by omega⟩
   ·obtain⟨_,vs,e,l,r⟩:=at1 _ _ _ _ x
    cases e
    obtain⟨_,ws,e,l2,r2⟩:=at2 _ _ _ _ x
    cases e
    obtain⟨T,x',y',hT,rfl,rfl,hx,hy⟩:=hy;have hi1:i<xs.length:=by omega
    have hi2:i<ys.length:=by omega
    obtain⟨v',hv,rv⟩:=Reps.get _ _ r i xs[i] (by simp[hi1]);obtain⟨w',hw,rw'⟩:=Reps.get _ _ r2 i ys[i] (by simp[hi2]);have e1:=hx vs l;have e2:=hy ws l2;rw[hv] at e1;rw[hw] at e2;have e1:=Fz e1;have e2:=Fz e2;rw[e1] at rv;rw[e2] at rw';have sm:ci H (EE H T (.tup [x',y'])):=aJ hT _;refine⟨sm,.tup [xs[i],ys[i]],?_,?_⟩
    ·unfold mO;rw[List.getElem?_zipWith,List.getElem?_eq_getElem hi1,List.getElem?_eq_getElem hi2]
    ·unfold EH
     exact⟨T,[x',y'],rfl,.inl (.inl aI),Reps.cons (EH.kp (Kp.of_same sm) _ _ rv) (Reps.one (EH.kp (Kp.of_same sm) _ _ rw'))⟩⟩⟩
end
def dFor(src:TDC)(g:TDG)(tb:TDS)(R:bh)(δ:En):Prop:=src δ λxs δ1=>∃I:Nat->En->Prop,I 0 δ1 /\
 (∀i x δ',xs[i]?=some x->I i δ'->g x δ' (tb { R with nx:=I (i+1),ct:=I (i+1),bk:=R.nx,tp:=False }))/\∀δ',I xs.length δ'->R.nx δ'
def exsP{K:PySem.W.Frag}{G:Gf}{P P1:List (D×V)}{W:XK}{R:Str->Str->D->Prop}(hP:∀p∈P,p∈P1)(k:∀c f d,R c f d->∀e C dx δ' σ' H',S K G δ' ((.exn c f d,.ref e)::P) σ' H'->H' e=some (XAt e C dx)->W (.ref e) (some dx) H') :
  ∀c f d,R c f d->∀e C dx δ' σ' H',S K G δ' ((.exn c f d,.ref e)::P1) σ' H'->H' e=some (XAt e C dx)->W (.ref e) (some dx) H':=λc f d r e C dx δ' σ' H' s=>k c f d r e C dx δ' σ' H' (s.sub λp hp=>by
 rcases Fj.mp hp with rfl | hp
 ·simp
 ·simp[hP p hp])
theorem eR{tg e:Expr}{src:TDC}{g:TDG}{t:TDS}{body:List Stmt}(hp:PassesOwn (model X.prog X.w) X.A X.env X.xe)(hc:X.calm=true)(hi:CI X tg e src)(hg:DG X tg g)(hb:DSs X body t)(hs:∀x,foldedSetIterable e X.env x=pure x:=by intro _;rfl) :
  DS X (.For tg e body [] pos) (dFor src g t):=by
 obtain⟨wi,hi,hw⟩:=hi;refine PS.imp (pP hp hc hi hg hb hs) λE σ H ⟨G,δ,P,R,s,h,k1,k2,k3,k4⟩=>?_;refine hw G δ P σ H _ _ s h λxs δ1 ⟨I,i0,turn,fin⟩ J P1 H1 hP s1 hgo hst hyl=>?_;refine⟨λi m σ H=>m=xs.length-i/\i<=xs.length/\∃δ,I i δ/\S X.K G δ P1 σ H,⟨xs.length,by simp,GM _,δ1,i0,s1⟩,?_⟩;rintro i m σ H ⟨rfl,hi,δ',ii,s'⟩;obtain⟨A,x⟩:=id s'
 by_cases hlt:i<xs.length
 ·refine .inr ⟨hgo A _ _ i H x hlt,λσ' H'=>∃δ',I (i+1) δ'/\S X.K G δ' P1 σ' H',λσ' H' ⟨δ',p',s'⟩=>⟨xs.length-(i+1),by omega,rfl,hlt,δ',p',s'⟩,λy H' hy=>?_⟩;obtain⟨sm,d,hd,rd⟩:=hyl A _ _ i y H H' x hlt hy;refine⟨G,δ',P1,d,_,⟨A,(x.same sm).push rd⟩,turn i d δ' hd ii,λδ2 h2 σ2 H2 s2=>?_⟩;refine⟨G,δ2,P1,_,s2,h2,λδ3 h3 σ3 H3 s3=>⟨δ3,h3,s3⟩,⟨λd δ3 h3 v3 σ3 H3 s3=>k2.1 d δ3 h3 v3 σ3 H3 (s3.sub λp hp=>?_),k2.2.1,exsP hP k2.2.2⟩,λδ3 h3 σ3 H3 s3=>k1 δ3 h3 σ3 H3 (s3.sub λp hp=>hP p hp),λδ3 h3 σ3 H3 s3=>⟨δ3,h3,s3⟩,λz=>z.elim⟩
  rcases Fj.mp hp with rfl | hp
  ·simp
  ·simp[hP p hp]
 ·have e:i=xs.length:=by omega
  subst e;exact .inl ⟨hst A _ _ H x,k1 δ' (fin δ' ii) σ H (s'.sub λp hp=>hP p hp)⟩
end DL
namespace DL
open PySem PySem.Spec PyProof.Rows L2
section
variable {X:Cx}
def Ca(i:Nat)(tk tx:E1)(δ:En)(R:W->En->Prop):Prop:=qWD δ[i]? λ_ _ _=>tk δ (wd λz δ1=>tx δ1 (wd λx δ2=>zM δ2[i]? λks ds=>qX z λy=>R (.d ((dAt ks ds y).getD x)) δ2))
variable {e f:Expr} {ta tb:E1} {pos:Pos}
theorem ub(i:Nat){y:Str}{p apos cpos:Pos}(hu:X.A.units+64<cLine)(he:DE X e ta)(hf:DE X f tb)(hN:X.N[i]?=some y:=by rfl)(hv:Vis X.env.scope y:=by walk_at "v3")
  (hd:(y==("__debug__":Str))=false:=by decide) (hcd:(y==("__classdict__":Str))=false:=by decide) (m:M2 X (.Name y p) "get" apos e f cpos:=by exact⟨rfl,rfl,rfl,rfl⟩) :
  DE X (.Call (.Attribute (.Name y p) "get" apos) [e,f] [] cpos) (Ca i ta tb) :=
 PE.imp (vm (by omega) (d9 hN hv hd hcd) he hf m) λσ H Q ⟨G,δ,P,R,s,h1,k,_⟩=>let ⟨a,ks0,ds0,hi0,h1⟩:=qWD.ex h1;⟨.ref a,s.own hi0,a,rfl,by
  obtain⟨A,q⟩:=id s;obtain⟨_,aa,vs,hvs,l,rs⟩:=q.own i a _ hi0;exact .inl ⟨_,.inl hvs⟩,up.mk s h1 λz δ1 h2 v H1 s1=>up.mk s1 h2 λx δ2 h3 w H2 ⟨A,q⟩=>by
   replace h3:=zM.ex q (s.own hi0) h3;obtain⟨ks,ds,hi,h3⟩:=h3;replace h3:=qX.ex h3;obtain⟨y,ez,r⟩:=h3;subst ez;obtain⟨_,aa,vs,hvs,l,rs⟩:=q.own i a _ hi;have p2:v=.str y:=bO (q.pnd (.str y,v) (by simp));have g:=pk.k (k:=Sum.inr y) hvs;rw[fh] at g;refine⟨_,by rw[p2];exact g,?_⟩
   cases ed:dAt ks ds y with
   | some d =>
    obtain⟨w',hw,rw'⟩:=(Reps.dAt y ks ds vs rs).1 d ed;rw[ed] at r;rw[hw];exact k d δ2 r w' H2 ⟨A,(q.sub (P':=P) λp hp=>by simp[hp]).push rw'⟩
   | none =>
    have hw:=(Reps.dAt y ks ds vs rs).2 ed
    rw[ed] at r;rw[hw]
    exact k x δ2 r w H2 ⟨A,q.sub λp hp=>by
     rcases Fj.mp hp with rfl | hp
     ·simp
     ·simp[hp]⟩⟩
end
end DL
namespace DL
open PySem PyProof.Rows
open PySem PySem.Spec PyProof.Rows L2
end DL
namespace Mf
open PySem L2 DL
variable {ts:List (Str×Int)} {i X:Nat} {ks:List Str} {x n:Str} {F:Str→Int} {ps:List (Int×Int)}
def EK(t:Str×Int):D:=.tup [.str t.1,.int t.2]
structure jN(names:List Str)(ts:List (Str×Int)):Prop where
 sub:(ts.map (·.1)).Sublist names
 nz:∀t∈ts,t.2≠0
 bits:∀t∈ts,Builtin.Int.intBits t.2<=10000
theorem dO{d:D}(h:(ts.map EK)[i]?=some d):∃t,ts[i]?=some t/\d=.tup [.str t.1,.int t.2]:=by
 rw[List.getElem?_map] at h
 cases e:ts[i]? with
 | none=>rw[e] at h;cases h
 | some n=>rw[e] at h;exact⟨n,rfl,(Fz h).symm⟩
theorem aC{α:Type}{l:List α}{x:α}(h:l[i]?=some x):l.take (i+1)=l.take i++[x]:=by rw[List.take_add_one,h];rfl
inductive Kd where
 | least | more
def kdS:Kd->Str
 | .least=>"least"
 | .more=>"more"
def j3(k:Kd)(ts:List (Str×Int))(b:Int):D:=.tup [.str (kdS k),.tup (ts.map EK),.int b]
def EO(p:Int×Int):D:=.tup [.int p.1,.int p.2]
def rF(ks:List Str)(ps:List (Int×Int))(n:Str):Int×Int:=(dAt ks ps n).getD (0,1)
def pT(ks:List Str)(ps:List (Int×Int))(n:Str):Int:=(rF ks ps n).1
def pB(ks:List Str)(ps:List (Int×Int))(n:Str):Int:=(rF ks ps n).2
theorem uu{α β:Type}(f:α->β):∀(ks:List Str) (ps:List α) (n:Str),dAt ks (ps.map f) n=(dAt ks ps n).map f
 | [],ps,n=>by cases ps<;>rfl
 | k::ks,[],n=>rfl
 | k::ks,p::ps,n=>by
  show (if k=n then some (f p) else dAt ks (ps.map f) n)=(if k=n then some p else dAt ks ps n).map f
  by_cases e:k=n
  ·rw[Fs e,Fs e];rfl
  ·rw[Fp e,Fp e];exact uu f ks ps n
theorem sT{α:Type}:∀ {ks:List Str} {ps:List α} {n:Str} {p:α},dAt ks ps n=some p->p∈ps
 | [],ps,n,p,h=>by cases ps<;>cases h
 | k::ks,[],n,p,h=>by cases h
 | k::ks,x::ps,n,p,h=>by
  have h:(if k=n then some x else dAt ks ps n)=some p:=h
  by_cases e:k=n
  ·rw[Fs e] at h;cases h;exact Fe ..
  ·rw[Fp e] at h;exact E9 _ (sT h)
theorem mH{names:List Str}{d:D}(h:(names.map D.str)[i]?=some d):∃n,names[i]?=some n/\d=.str n:=by
 rw[List.getElem?_map] at h
 cases e:names[i]? with
 | none=>rw[e] at h;cases h
 | some n=>rw[e] at h;exact⟨n,rfl,(Fz h).symm⟩
theorem pD(h:x∉ks):jD ks x=ks++[x]:=by unfold jD;rw[Fp h]
theorem qh{ds:List D}{y:D}(h:x∉ks):lK ks ds x y=ds++[y]:=by unfold lK;rw[Fp h]
theorem vM{l:List Str}(nd:l.Nodup)(h:l[i]?=some x):x∉l.take i:=by
 intro hm;obtain⟨j,hj,e⟩:=List.getElem_of_mem hm;rw[FI] at hj;rw[List.getElem_take] at e;obtain⟨hi,e2⟩:=List.getElem?_eq_some_iff.mp h;have:=(List.getElem_inj (h₀:=by omega) (h₁:=hi) nd).mp (e.trans e2.symm);omega
def rQ{l:List Str}(h:l[i]?=some x):x∈l:=Fm h
theorem cG{α:Type}(f:Str->α):∀ {names:List Str} {n:Str},n∈names->dAt names (names.map f) n=some (f n)
 | x::r,n,h=>by
  show (if x=n then some (f x) else dAt r (r.map f) n)=_
  by_cases e:x=n
  ·rw[Fs e,e]
  ·rw[Fp e];exact cG f ((Fj.mp h).resolve_left λz=>e z.symm)
abbrev Rw:=Kd×List (Str×Int)×Int
def EJ(r:Rw):D:=j3 r.1 r.2.1 r.2.2
def cf:List (Str×Int)->Str->Int
 | [],_=>0
 | t::r,n=>(if t.1=n then t.2 else 0)+cf r n
def cfs:List (Rw×Int)->Str->Int
 | [],_=>0
 | p::r,n=>p.2*cf p.1.2.1 n+cfs r n
def bds:List (Rw×Int)->Int
 | []=>0
 | p::r=>p.2*p.1.2.2+bds r
def isM:Kd->Bool
 | .least=>false
 | .more=>true
def EU(l:List (Rw×Int)):Bool:=l.any λp=>isM p.1.1&&decide (0<p.2)
def kOf:Bool->Kd
 | true=>.more
 | false=>.least
theorem l6:∀ {a b:List (Str×Int)},cf (a++b) n=cf a n+cf b n
 | [],b=>(G3 _).symm
 | t::a,b=>by show _+cf (a++b) n=_+cf a n+_;rw[l6];omega
theorem iQ:∀ {a b:List (Rw×Int)},cfs (a++b) n=cfs a n+cfs b n
 | [],b=>(G3 _).symm
 | t::a,b=>by show _+cfs (a++b) n=_+cfs a n+_;rw[iQ];omega
theorem jb:∀ {a b:List (Rw×Int)},bds (a++b)=bds a+bds b
 | [],b=>(G3 _).symm
 | t::a,b=>by show _+bds (a++b)=_+bds a+_;rw[jb];omega
def i9{a b:List (Rw×Int)}:EU (a++b)=(EU a||EU b):=List.any_append
theorem mW{p:Rw×Int}:EU [p]=(isM p.1.1&&decide (0<p.2)):=by unfold EU;simp
theorem iW:∀ {ts:List (Str×Int)},n∉ts.map (·.1)->cf ts n=0
 | [],_=>rfl
 | t::r,h=>by
  rw[FJ,Fj,not_or] at h;show (if t.1=n then t.2 else 0)+cf r n=0;rw[Fp (λz=>h.1 z.symm),iW h.2];rfl
structure eX(F:Str->Int)(ts:List (Str×Int)):Prop where
 pw:(ts.map (·.1)).Pairwise leS
 nd:(ts.map (·.1)).Nodup
 val:∀t∈ts,t.2=F t.1/\t.2≠0
 all:∀n,F n≠0->n∈ts.map (·.1)
theorem eX.ext{us:List (Str×Int)}(h1:∀t∈ts,t.2=F t.1)(h2:∀t∈us,t.2=F t.1)(h:ts.map (·.1)=us.map (·.1)):ts=us:=by
 have e:∀ {l:List (Str×Int)},(∀t∈l,t.2=F t.1)->l=(l.map (·.1)).map λn=>(n,F n):=λ{l} hl=>by
  rw[FL]
  conv=>lhs;rw[<- List.map_id l]
  refine GV λt ht=>?_;show t=(t.1,F t.1);rw[<- hl t ht]
 rw[e h1,e h2,h]
theorem eX.uniq{us:List (Str×Int)}(a:eX F ts)(b:eX F us):ts=us:=by
 refine eX.ext (λt h=>(a.val t h).1) (λt h=>(b.val t h).1) (kP a.pw b.pw a.nd b.nd λn=>⟨λh=>b.all n ?_,λh=>a.all n ?_⟩)
 ·obtain⟨t,ht,rfl⟩:=E8.mp h;rw[<- (a.val t ht).1];exact(a.val t ht).2
 ·obtain⟨t,ht,rfl⟩:=E8.mp h;rw[<- (b.val t ht).1];exact(b.val t ht).2
theorem eX.mk'{ns:List Str}(pw:ns.Pairwise leS)(nd:ns.Nodup)(all:∀n,F n≠0->n∈ns):eX F ((ns.filter λn=>decide (F n≠0)).map λn=>(n,F n)):=by
 have e:((ns.filter λn=>decide (F n≠0)).map λn=>(n,F n)).map (·.1)=ns.filter λn=>decide (F n≠0):=by rw[FL];exact List.map_id _
 refine⟨by rw[e];exact pw.filter _,by rw[e];exact nd.filter _,λt ht=>?_,λn hn=>?_⟩
 ·obtain⟨n,h1,rfl⟩:=E8.mp ht;exact⟨rfl,by simpa using (Fq.mp h1).2⟩
 ·rw[e,Fq];exact⟨all n hn,by simpa using hn⟩
theorem pA{f g:Str->D}(h:∀n,n≠x->g n=f n):∀ks:List Str,mN ks (ks.map f) x (g x)=ks.map g
 | []=>rfl
 | k::ks=>by
  show (if k=x then g x else f k)::mN ks (ks.map f) x (g x)=g k::ks.map g
  rw[pA h ks]
  by_cases e:k=x
  ·rw[Fs e,e]
  ·rw[Fp e,h k e]
theorem tZ{f g:Str->D}(h:∀n,n≠x->g n=f n):lK ks (ks.map f) x (g x)=(jD ks x).map g:=by
 unfold lK jD
 by_cases e:x∈ks
 ·rw[Fs e,Fs e,pA h]
 ·rw[Fp e,Fp e,Fv]
  congr 1
  exact GV λn hn=>(h n λz=>e (z ▸ hn)).symm
theorem m7(h:ks.Nodup):(jD ks x).Nodup:=by
 unfold jD
 by_cases e:x∈ks
 ·rw[Fs e];exact h
 ·rw[Fp e,Hv];exact⟨h,by simp,λa ha b hb z=>by rw[Fn.mp hb] at z;exact e (z ▸ ha)⟩
theorem hZ:n∈jD ks x↔n∈ks\/n=x:=by
 unfold jD
 by_cases e:x∈ks
 ·rw[Fs e];exact⟨.inl,λh=>h.elim id λz=>z ▸ e⟩
 ·rw[Fp e,Fk,Fn]
theorem gL:∀ {ks nm:List Str},ks.Nodup->(∀n∈ks,n∈nm)->ks.length<=nm.length
 | [],_,_,_=>GM _
 | k::ks,nm,h,hs=>by
  obtain⟨h1,h2⟩:=F9.mp h;have hk:=hs k (Fe ..);have:=gL (ks:=ks) (nm:=nm.erase k) h2 λn hn=>(List.mem_erase_of_ne (λz=>h1 (by rw[<- z];exact hn))).mpr (hs n (E9 _ hn));rw[List.length_erase_of_mem hk] at this;have:0<nm.length:=List.length_pos_of_mem hk;rw[Fl];omega
theorem m8{α:Type}:∀ {ks:List Str} {ds:List α},x∉ks->dAt ks ds x=none
 | [],ds,_=>by cases ds<;>rfl
 | k::ks,[],_=>rfl
 | k::ks,d::ds,h=>by
  rw[Fj,not_or] at h;show (if k=x then some d else dAt ks ds x)=none;rw[Fp (λz=>h.1 z.symm)];exact m8 h.2
theorem oY(h:x∉ks->F x=0):(dAt ks (ks.map λn=>D.int (F n)) x).getD (.int 0)=.int (F x):=by
 by_cases e:x∈ks
 ·rw[cG (λn=>D.int (F n)) e];rfl
 ·rw[m8 e,h e];rfl
theorem pX{rows:List Rw}{ws:List Int}:mO (rows.map EJ) (ws.map D.int)=(rows.zip ws).map λp=>D.tup [EJ p.1,.int p.2]:=by
 unfold mO;rw[HA,List.zip,GW]
theorem sH{nm:List Str}:∀ {l:List (Rw×Int)},(∀p∈l,∀t∈p.1.2.1,t.1∈nm)->cfs l n≠0->n∈nm
 | [],_,h=>absurd rfl h
 | p::r,hp,h=>by
  refine Ff λz=>?_;have h1:cfs r n=0:=Ff λy=>z (sH (λp h=>hp p (E9 _ h)) y);have h2:cf p.1.2.1 n=0:=iW λhm=>by
   obtain⟨t,ht,e⟩:=E8.mp hm;exact z (e ▸ hp p (Fe ..) t ht)
  refine h ?_;show p.2*cf p.1.2.1 n+cfs r n=0;rw[h1,h2,HR,G3]
structure AA(nm:List Str)(B:Nat)(r:Rw):Prop where
 sub:∀t∈r.2.1,t.1∈nm
 bw:∀t∈r.2.1,Builtin.Int.intBits t.2<=B
 bb:Builtin.Int.intBits r.2.2<=B
structure Pt(ks:List Str)(ps:List (Int×Int))(X:Nat):Prop where
 len:ps.length=ks.length
 low:∀p∈ps,ET p.1 p.2
 b1:∀p∈ps,Builtin.Int.intBits p.1<=X
 b2:∀p∈ps,Builtin.Int.intBits p.2<=X
theorem Pt.at(hp:Pt ks ps X)(h:n∈ks):dAt ks ps n=some (rF ks ps n)/\rF ks ps n∈ps:=by
 have e:=k7 (ks:=ks) (ds:=ps) (x:=n) hp.len.symm
 rw[FX h] at e
 cases q:dAt ks ps n with
 | none=>rw[q] at e;cases e
 | some p =>
  have:rF ks ps n=p:=by unfold rF;rw[q];rfl
  rw[this];exact⟨rfl,sT q⟩
theorem Pt.D(hp:Pt ks ps X)(h:n∈ks):dAt ks (ps.map EO) n=some (.tup [.int (pT ks ps n),.int (pB ks ps n)]):=by
 rw[uu,(hp.at h).1];rfl
def Pt.pos(hp:Pt ks ps X)(h:n∈ks):0<pB ks ps n:=(hp.low _ (hp.at h).2).pos
def Pt.Tb(hp:Pt ks ps X)(h:n∈ks):Builtin.Int.intBits (pT ks ps n)<=X:=hp.b1 _ (hp.at h).2
def Pt.mono{Y:Nat}(hp:Pt ks ps X)(h:X<=Y):Pt ks ps Y:=⟨hp.len,hp.low,λp hq=>Fa (hp.b1 p hq) h,λp hq=>Fa (hp.b2 p hq) h⟩
end Mf
namespace DL
open PySem PySem.Spec PyProof.Rows L2
section
variable {X:Cx} {pos:Pos} {a b e:Expr} {es:List Expr} {ta tb:E1} {t:TDA}
theorem ri:bY X (.type "dict") (λxs H Q=>∃a kvs,xs=[.ref a]/\Rd H a (.dK kvs)/\∀l,H l=none->Q (.ref l) (EE H l (.dK kvs))):=by
 intro pins s σ H xs us Q I rv h;obtain⟨a,kvs,rfl,e,k⟩:=h;obtain⟨u,rfl,ru⟩:=fR rv
 cases ru
 obtain⟨hz,lo,va,ra,da⟩:=i4 I.hok e;have fr:H s.heap.objs.size=none:=I.hok.fresh (Fh _);refine kt_call_dict lo da (by rw[<- ra.length];exact hz) λh' dd sb=>?_;have kp:∀b o,s.heap.get? b=some o->h'.get? b=some o:=λb o e=>sb.extBut b o (FV (FC e)) (Heap.get?_push_of_some _ e);have lo2:(s.heap.objs.size==sysModules)=false:=HH.mpr (Hg I.big);exact⟨.ref _,_,I.laid (t':=s.toks) kp (Fh _) (sB hz lo2 ra dd),rfl,k _ fr⟩
def qZ:D->(List Str->List D->Prop)->Prop
 | .dct ks ds,k=>k ks ds
 | .fd ks ds,k=>k ks ds
 | _,_=>False
theorem qZ.ex{d:D}{k:List Str->List D->Prop}(h:qZ d k):∃ks ds,(d=.dct ks ds\/d=.fd ks ds)/\k ks ds:=by
 cases d<;>first | exact False.elim h | exact⟨_,_,.inl rfl,h⟩ | exact⟨_,_,.inr rfl,h⟩
def xx(i:Nat)(te:E1)(R:bh)(δ:En):Prop:=te δ (wd λd δ1=>qZ d λks ds=>∀a,lJ δ1 i (.own a (.dct ks ds)) R.nx)
theorem uV(i:Nat){y:Str}{p pos' pos2:Pos}(hN:X.N.Nodup)(hg:Gl X "dict")(hm:X.mg "dict"=none)(he:DE X e ta)(hi:X.N[i]?=some y:=by rfl)(hx:Loc X.env.scope y:=by walk_at "v2")
  (h2:starEach [e] X.env=(false,eval e X.env)::starEach [] X.env:=by rfl) (hpl:(backTo pos2 (starEach [] X.env)).any (·.1)=false:=by rfl)
  (hs:swapsWith (.Call (.Name "dict" p) [e] [] pos2) (some (.Name y pos')) pos.line X.env=pure false:=by rfl) (hf:X.fn y=true\/X.env.scope.names.lookup y=some .local :=by walk_at "v1") :
  DS X (.Assign [.Name y pos'] (.Call (.Name "dict" p) [e] [] pos2) pos) (xx i ta) :=
 PS.imp (mC hN hi hx (iP ri hg hm Ci (bI he eQ h2) (by decide) (by decide) h2 hpl) hs hf) λE σ H ⟨G,δ,P,R,s,h,k,_⟩=>up.mk s h λd δ1 h1 v H1 ⟨A,q⟩=>by
  replace h1:=qZ.ex h1;obtain⟨ks,ds,ed,r⟩:=h1;have r0:∃a0 vs,v=.ref a0/\Rd H1 a0 (.dK (aZ ks vs))/\ks.length=ds.length/\Reps X.K (λb=>G.M0 b\/A b) H1 ds vs:=by
   rcases ed with ed | ed
   ·subst ed;have r0:=q.pnd (.dct ks ds,v) (by simp);unfold EH at r0;obtain⟨a0,vs,e,n0,e0,l0,rs⟩:=r0;exact⟨a0,vs,e,.inl e0,l0,rs⟩
   ·subst ed;have r0:=q.pnd (.fd ks ds,v) (by simp);unfold EH at r0;obtain⟨a0,vs,o,e,e0,l0,rs⟩:=r0;exact⟨a0,vs,e,.inr ⟨o,e0⟩,l0,rs⟩
  obtain⟨a0,vs,rfl,e0,l0,rs⟩:=r0;refine⟨a0,_,rfl,e0,λl hl=>?_⟩;have sm:=aJ hl (.dK (aZ ks vs));refine k _ (r l) _ _ ⟨_,q.claim (P':=P) hl sm ⟨vs,aI,l0,Reps.kp (Kp.of_same sm) _ _ (Reps.more (λb z=>?_) _ _ rs)⟩ λq hq=>E9 _ hq⟩
  rcases z with z | z
  ·exact .inl z
  ·exact .inr (by rw[z];exact hl)
def Ea:V->List V->Hp->VK->Prop:=λx vs H Q=>∃l xs y,x=.ref l/\vs=[.int 0,y]/\H l=some (.lst xs)/\xs.length<sizeLine/\Q .non (EE H l (.lst (y::xs)))
theorem zm:MtM X "list.insert" Ea:=by
 intro pins s σ H x vs v us Q I rx rv h;obtain⟨l,xs,y,rfl,rfl,hH,hz,q⟩:=h
 cases rx
 cases rv with
 | cons r0 rv =>
  obtain⟨t,rfl⟩:=r0;obtain⟨u,rfl,ru⟩:=fR rv;obtain⟨z,its,n,r,hl,e⟩:=I.lstM hH;refine call_meets PySem.F.slot_list_insert ⟨_,e,rfl⟩ PySem.F.entry_list_insert (PySem.F.args_list_insert_3 _ _ _) (PySem.AutoSeq1.list_insert_list_int_val_1 l its.toArray n 0 t u (by decide) (by rw[FB];omega)) ⟨e,?_⟩;refine⟨.non,_,I.lset (its':=u::its) hH e ?_ (.cons ru r) ?_,rfl,q⟩
  ·apply Array.toList_inj.mp;simp
  ·rw[Fl];omega
def B8(i:Nat)(te:E1)(R:bh)(δ:En):Prop:=qWL δ[i]? λa _=>te δ (wd λx δ1=>zU δ1[i]? λds=>ds.length<9000/\lJ δ1 i (.own a (.lst (x::ds))) R.nx)
theorem u8(i:Nat){y:Str}{j0}{p p0 apos cpos:Pos}(he:DE X e ta)(hN:X.N[i]?=some y:=by rfl)(hv:Vis X.env.scope y:=by walk_at "v3")
  (hd:(y==("__debug__":Str))=false:=by decide) (hcd:(y==("__classdict__":Str))=false:=by decide)
  (hbase:attributeBase (.Name y p) "insert" X.env (eval (.Name y p) X.env)=eval (.Name y p) X.env:=by rfl)
  (hfew:((backTo cpos (starEach [.Constant (.int 0) j0 p0,e] X.env)).all (λx=>!x.1)&&(backToKw cpos (keywordEach [] X.env)).all (λx=>x.1.isSome)&&decide ([Expr.Constant (.int 0) j0 p0,e].length+([]:List Keyword).length+(if ([]:List Keyword).isEmpty then 0 else 1)<30))=true:=by rfl)
  (hline:(apos.endLine==cpos.line)=true:=by rfl) (hs:starEach [.Constant (.int 0) j0 p0,e] X.env=(false,eval (.Constant (.int 0) j0 p0) X.env)::starEach [e] X.env:=by rfl) (hs2:starEach [e] X.env=(false,eval e X.env)::starEach [] X.env:=by rfl) (hplain:(backTo cpos (starEach [e] X.env)).any (·.1)=false:=by rfl)
  (hsw:swapsWith (.Call (.Attribute (.Name y p) "insert" apos) [.Constant (.int 0) j0 p0,e] [] cpos) none pos.line X.env=pure false:=by rfl) :
  DS X (.Expr (.Call (.Attribute (.Name y p) "insert" apos) [.Constant (.int 0) j0 p0,e] [] cpos) pos) (B8 i ta) :=
 PS.imp (ni (BF PySem.F.plainAttrs_list PySem.F.slot_list_insert PySem.F.type_list_insert zm (d9 hN hv hd hcd) (bI wK (bI he eQ hs2) hs) hbase hfew hline hs hplain) hsw) λE σ H ⟨G,δ,P,R,s,h,k,_⟩=>by
  replace h:=qWL.ex h;obtain⟨a,ds0,hi0,h⟩:=h;obtain⟨A0,x0⟩:=id s;obtain⟨h0,_,vs0,hvs0,_⟩:=fZ x0 hi0;refine⟨.ref a,h0,.inl ⟨rfl,vs0,EY.of hvs0⟩,up.mk s h λx δ1 h1 v H1 ⟨A,q⟩=>?_⟩;replace h1:=zU.ex q h0 h1;obtain⟨ds,hi,hz,r⟩:=h1;obtain⟨_,aa,vs,hvs,rs⟩:=fZ q hi;refine⟨a,vs,v,rfl,rfl,hvs,by rw[<- Reps.length _ _ rs];exact jt (GS hz),k _ r _ _ ⟨A,(q.change (d':=.lst (x::ds)) hi (λb o n e=>by rw[aO n];exact e) ⟨v::vs,aI,?_⟩).sub (P':=P) λq hq=>E9 _ hq⟩⟩;have kp:Kp (λb=>G.M0 b\/A b) H1 (EE H1 a (.lst (v::vs))):=by
   have hk:∀b o,b≠a->H1 b=some o->EE H1 a (.lst (v::vs)) b=some o:=λb o n e=>by rw[aO n];exact e
   exact⟨λb o e n=>hk b o (λz=>n (.inr (by rw[z];exact aa))) e,λb xs e=>hk b _ (λz=>by rw[z,hvs] at e;cases e) e,λb o u e=>hk b _ (λz=>by rw[z,hvs] at e;cases e) e⟩
  exact Reps.kp kp _ _ (Reps.cons (q.pnd (x,v) (by simp)) rs)
structure GEnd(K:PySem.W.Frag)(mg:Str->Option Value)(x:Str):Prop where
 ex:∃a o n,mg x=some (.ref a)/\K.lookup a=some o/\o.cls=.type "tuple"/\o.data=.seq #[.none,.bool false] n
theorem tE{x:Str}(hg:Gl X x)(h:GEnd X.K X.mg x)(hd:(x==("__debug__":Str))=false:=by decide):DE X (.Name x pos) (dC (.tup [.non,.bl false])):=by
 obtain⟨a,o,n,e,h1,h2,h3⟩:=h.ex;refine PE.imp (oB (v:=.ref a) hg e rfl hd) λσ H Q ⟨G,δ,P,R,⟨A,s⟩,h,k,_⟩=>k _ δ h _ H ⟨A,s.push ?_⟩;unfold EH;exact⟨a,[.non,.bl false],rfl,.inr ⟨o,_,n,h1,h2,h3,by show 2<=sizeLine;decide,.cons rfl (.cons rfl .nil)⟩,Reps.cons (by unfold EH;rfl) (Reps.one (by unfold EH;rfl))⟩
end
end DL
namespace DL
open PySem PySem.Spec PyProof.Rows L2
variable {k:Bool} {it a:Addr} {elts:List Expr} {pos p:Pos}
def Ite(K:PySem.W.Frag)(k:Bool)(a:Addr):It :=
  ⟨λi H=>∃xs x,EL k K H a xs/\xs[i]?=some x,
   λi H v H'=>∃T x,H T=none/\H'=EE H T (.tup [.int (i:Nat),x])/\v=.ref T/\∀xs,EL k K H a xs->xs[i]?=some x,
   λi H=>∃xs,EL k K H a xs/\xs.length=i⟩
def EI(k:Bool)(h:Heap)(e it a:Addr)(m:Nat):Prop:=(∃old,IsEnum h e it ((m:Nat):Int) old)/\ItA k h it a m
section
variable {prog:Program} {w:World} {A:Around} {E:Value→Shared→Prop} {s:Shared}
def uv{xs:Array Value}(hh:A.handled=none)(hne:a≠it):Draws prog w A it [it,a] xs.size (λi v=>xs[i]?=some v) (λi h=>ItA k h it a i/\SqA k h a xs) where
 live:=λi h z=>let ⟨o,e,_⟩:=z.1.obj;⟨o,e⟩
 frame:=λi h h' z kk=>⟨z.1.keep λo e=>kk it (by simp) o e,z.2.keep λo e=>kk a (by simp) o e⟩
 item:=λi s Q E hi z hQ=>vp z.1 z.2 (Array.getElem?_eq_getElem hi) λh' z' sb=>hQ _ h' s.toks (Array.getElem?_eq_getElem hi) ⟨z',z.2.keep λo e=>sb.extBut _ _ hne e⟩ sb
 done:=λs Q E z hE=>iS hh z.1 z.2 (Array.getElem?_eq_none (Fh _)) hE
def eh(k:Bool)(h:Heap)(a:Addr):Heap:=(h.push { cls:=.type (if k then "list_iterator" else "tuple_iterator"),data:=.fields #[.ref a,.int 0 0] }).push { cls:=.type "enumerate",data:=.fields #[.none,.bool false,.ref h.objs.size,rawInt 0,.none,.none] }
def Bd(k:Bool)(a:Addr)(xs:Array Value):Meets (Builtin.«enumerate.__new__» ⟨[.type "enumerate",.ref a],[]⟩) (λ_ R s=>SqA k s.heap a xs/\R (.ok (.ret (.ref (s.heap.objs.size+1)))) { s with heap:=eh k s.heap a }) :=
 .of_wp λprog w A R s h=>by
  obtain⟨hp,g,d,tk,os⟩:=s;obtain⟨a1,h⟩:=h;have hsub:=sub_enumerate;have b1:SqA k (Shared.heap ⟨hp,g,d,tk,os⟩) a xs:=a1;obtain⟨o,ho,_⟩:=b1.there;have e:(Shared.heap ⟨hp,g,d,tk,os⟩).objs.size+1=(hp.push { cls:=.type (if k then "list_iterator" else "tuple_iterator"),data:=.fields #[.ref a,.int 0 0] }).objs.size:=(Gv ..).symm;rw[e] at h
  wp_walk using wpAny_loadPart' ho
  refine wpAny_stack_any λst=>Ft (by
   split
   ·rename_i c _ _ _ _ _
    cases (c==Value.type "enumerate")<;>(wp_walk using wpAny_loadPart' ho,qj b1)<;>exact⟨_,rfl,h⟩
   ·wp_walk using wpAny_loadPart' ho,qj b1
    exact⟨_,rfl,h⟩)
theorem Dg{xs:Array Value}{Q:Value->Shared->Prop}(a1:SqA k s.heap a xs)
  (h:IsEnum (eh k s.heap a) (s.heap.objs.size+1) s.heap.objs.size 0 .none->ItA k (eh k s.heap a) s.heap.objs.size a 0->(∀c o,s.heap.get? c=some o->(eh k s.heap a).get? c=some o)->Q (.ref (s.heap.objs.size+1)) { s with heap:=eh k s.heap a }):wpAny (model prog w) A (call (.type "enumerate") [.ref a]) Q E s:=by
 refine callType_new F.called_enumerate (by decide) (F.typeCall_enumerate_1 _) (F.newCall_enumerate_1 _) (λobj=>F.args_object_init_2 obj _) F.entry_enumerate_new (Bd k a xs) ⟨a1,?_⟩;have sz:∀(h:Heap) (o:Obj) (n:Nat),h.objs.size=n->o.isFreed=false->(h.push o).get? n=some o:=λh o n e f=>by rw[<- e];exact Heap.get?_push_size _ f
 have e1:IsEnum (eh k s.heap a) (s.heap.objs.size+1) s.heap.objs.size 0 .none:=sz _ _ _ (Gv ..) rfl
 have e0:(eh k s.heap a).get? s.heap.objs.size=some _:=Heap.get?_push_of_some _ (Heap.get?_push_size _ rfl)
 exact⟨⟨_,e1,rfl⟩,h e1 (by cases k<;>exact⟨_,e0,rfl,rfl⟩) λc o e=>Heap.get?_push_of_some _ (Heap.get?_push_of_some _ e)⟩
end
theorem rP{P:Program}{w:World}{K:PySem.W.Frag}{x1}{e:Addr}(hne:e≠it)(hea:e≠a)(hia:a≠it):wU P w K (.Tuple elts x1 pos) (Ite K k a) [e,it] e (λm h=>EI k h e it a m) where
 mem:=by simp
 obj:=λm h Z c hc=>by
  obtain⟨⟨old,z⟩,zi⟩:=Z;simp only[List.mem_cons,List.not_mem_nil,or_false] at hc
  rcases hc with rfl | rfl
  ·exact⟨_,z,λv=>nofun⟩
  ·obtain⟨q,x,_,d⟩:=zi.obj;exact⟨q,x,λv=>by rw[d];nofun⟩
 keep:=λm h h' Z kk=>by
  obtain⟨⟨old,z⟩,zi⟩:=Z;exact⟨⟨old,kk _ (by simp) _ z⟩,zi.keep λo x=>kk _ (by simp) o x⟩
 item:=by
  intro X hP hw hK hc m pins s σ H E I hf Z hg;subst hP hw hK;obtain⟨xs,x,h1,hx⟩:=hg;obtain⟨⟨old,z⟩,zi⟩:=Z;obtain⟨is,r1,p1⟩:=EL.at I h1;obtain⟨u,hu,ru⟩:=r1.get hx;have hm:m<is.toArray.size:=by rw[FB];exact(List.getElem?_eq_some_iff.mp hu).1
  refine wpAny_pyNext_enum_itemD (uv (I.ok.hd hc) hia) z ⟨zi,p1⟩ hm hne (by simp[hne,hea]) λy h' tk hy e1 i1 t1 n1 kk=>⟨_,rfl,?_⟩;have ey:y=u:=by rw[List.getElem?_toArray,hu] at hy;exact(Fz hy).symm
  subst ey;refine wpAny_letOwnedTupleGo_enum (s:={ s with heap:=h',toks:=tk+1 }) e1 λh2 e2 s2=>?_;have s2:Heap.SameBut e h' h2:=s2;have hfr:H s.heap.objs.size=none:=I.hok.fresh (Fh _);have I1:Inv X pins σ (EE H s.heap.objs.size (.tup [.int (m:Nat),x])) { s with heap:=s.heap.push { cls:=.type "tuple",data:=.seq #[.int (m:Nat) tk,y] },toks:=tk+1 }:=I.laid (t':=tk+1) (λb u e=>Heap.get?_push_of_some _ e) (Fh _) ⟨by show 2<=sizeLine;decide,[.int (m:Nat) tk,y],.cons ⟨_,rfl⟩ (.cons ru .nil),⟨_,Heap.get?_push_size _ rfl,rfl,_,rfl⟩⟩;have ne:∀ {c o},s.heap.get? c=some o->c≠s.heap.objs.size:=λe=>FV (FC e);have le:e≠s.heap.objs.size:=ne z;have li:it≠s.heap.objs.size:=by obtain⟨q,y,_⟩:=zi.obj;exact ne y
  have fr:∀c∈[e,it],EE H s.heap.objs.size (.tup [.int (m:Nat),x]) c=none:=λc hc'=>by
   rw[aO (by simp only[List.mem_cons,List.not_mem_nil,or_false] at hc';rcases hc' with rfl | rfl;exact le;exact li)];exact(hf c hc').1
  have I2:Inv X pins σ (EE H s.heap.objs.size (.tup [.int (m:Nat),x])) { s with heap:=h2,toks:=tk+1 }:=kL (s:={ s with heap:=s.heap.push { cls:=.type "tuple",data:=.seq #[.int (m:Nat) tk,y] },toks:=tk+1 }) (t':=tk+1) (fp:=[e,it]) I1 (λc q hc ec=>?_) λc hc=>⟨fr c hc,(hf c hc).2⟩
  ·exact⟨.ref s.heap.objs.size,_,I2,rfl,⟨_,x,hfr,rfl,rfl,λzs hz=>by rw[EL.inj I hz h1];exact hx⟩,⟨⟨_,e2⟩,i1.1.keep λo y=>s2.extBut _ _ (Ne.symm hne) y⟩,fr⟩
  ·have n1:c≠e:=λz=>hc (by rw[z];simp)
   have n2:c≠it:=λz=>hc (by rw[z];simp)
   rcases Heap.get?_push_cases ec with⟨rfl,rfl⟩ | ec
   ·exact s2.extBut _ _ n1 t1
   ·exact s2.extBut _ _ n1 (kk c q n1 n2 ec)
 done:=by
  intro X hP hw hK hc m pins s σ H E I hf Z hg;subst hP hw hK;obtain⟨xs,h1,hl⟩:=hg;obtain⟨⟨old,z⟩,zi⟩:=Z;obtain⟨is,r1,p1⟩:=EL.at I h1;have l1:=r1.length;have hm:is.toArray.size=m:=by rw[FB];omega
  subst hm;exact wpAny_pyNext_enum_endD (uv (I.ok.hd hc) hia) z ⟨zi,p1⟩ λh' kk=>⟨rfl,kL (t':=s.toks) (fp:=[e,it]) I (λc q hc e=>kk c q (λz=>hc (by rw[z];simp)) e) hf⟩
 self:=λ_ _ _ _ _ Z h=>wpAny_pyIter_enum Z.1.choose_spec h
section
variable {X:Cx}
def Dy(K:PySem.W.Frag)(k:Bool)(ta:TA):TI:=λσ H R=>ta σ H λvs H1=>∃a,vs=[.ref a]/\(∃xs,EL k K H1 a xs)/\R (Ite K k a) H1
theorem yK{a:Expr}{ta:TA}{x1}{pos':Pos}(hg:Gl X "enumerate")(hm:X.mg "enumerate"=none)(ha:PA X [a] ta)(hs:starEach [a] X.env=[(false,eval a X.env)]:=by rfl) :
  PI X (.Tuple elts x1 pos') (.Call (.Name "enumerate" p) [a] [] pos) (Dy X.K k ta):=by
 intro pins s σ H R I h;refine Call_ (iM I hg hm boot_enumerate (Gh (ER (ha pos pins s σ H _ I h) λus s1 ⟨vs,H1,I1,r1,q1⟩=>?_) (by rw[hs];rfl) rfl));obtain⟨c,e,⟨xs,hx⟩,q⟩:=q1;subst e;obtain⟨u,rfl,ru⟩:=fR r1
 cases ru
 obtain⟨is,_,p1⟩:=EL.at I1 hx;obtain⟨o,ho,_⟩:=p1.there;have lt:=FC ho;refine Dg p1 λe1 i1 up=>wpAny_pyIter_enum (s:={ s1 with heap:=eh k s1.heap c }) e1 ?_;refine⟨_,[s1.heap.objs.size+1,s1.heap.objs.size],_,_,H1,rfl,I1.kept (t':=s1.toks) up,rP (Nat.succ_ne_self _) (Hg (Ht lt)) (FV lt),⟨⟨_,e1⟩,i1⟩,λb hb=>?_,q⟩;have hb:s1.heap.objs.size<=b:=by
  simp only[List.mem_cons,List.not_mem_nil,or_false] at hb
  rcases hb with rfl | rfl
  ·exact Hc ..
  ·exact Fh _
 exact I1.fpOk hb (I1.hok.fresh hb)
def enD(xs:List D):List D:=xs.mapIdx λi x=>.tup [.int (i:Nat),x]
def w6(k:Bool)(t:TDA)(δ:En)(R:List D->En->Prop):Prop:=t δ λds δ1=>qC ds λx r=>qN r <| qS k x λxs=>R (enD xs) δ1
theorem om(k:Bool){a:Expr}{ta:TDA}{x1}{pos':Pos}(hg:Gl X "enumerate")(hm:X.mg "enumerate"=none)(ha:DA X [a] ta)(hs:starEach [a] X.env=[(false,eval a X.env)]:=by rfl) :
  CI X (.Tuple elts x1 pos') (.Call (.Name "enumerate" p) [a] [] pos) (w6 k ta) :=
 ⟨_,yK (k:=k) hg hm ha hs,λG δ P σ H R Q s hs kk=>⟨G,δ,P,_,s,hs,λds δ1 h1 vs H1 hl s1=>by
  replace h1:=qC.ex h1;obtain⟨x,r,e,h1⟩:=h1;replace h1:=qN.ex h1;obtain⟨e',h1⟩:=h1;replace h1:=qS.ex h1;obtain⟨xs,e2,r⟩:=h1;subst e2 e' e
  match vs,hl with
  | [v],_ =>
   have s2:S X.K G δ1 ((sq k xs,v)::P) σ H1:=s1
   have at1:∀A δ σ H,Sx X.K G A δ ((sq k xs,v)::P) σ H->∃a vs,v=.ref a/\EL k X.K H a vs/\Reps X.K (λb=>G.M0 b\/A b) H xs vs:=λA δ σ H x=>pY (x.pnd (sq k xs,v) (by simp))
   obtain⟨A1,x1⟩:=id s2;obtain⟨a,vs0,rfl,l0,_⟩:=at1 _ _ _ _ x1;have hlen:(enD xs).length=xs.length:=by unfold enD;rw[List.length_mapIdx]
   refine⟨a,rfl,⟨vs0,l0⟩,kk _ δ1 r _ _ H1 (λq hq=>by simp[hq]) s2 (λA δ σ i H x hi=>?_) (λA δ σ H x=>?_) λA δ σ i y H H2 x hi hy=>?_⟩
   ·obtain⟨_,vs,e,l,r⟩:=at1 _ _ _ _ x
    cases e
    obtain⟨v',hv,_⟩:=Reps.get _ _ r i (xs[i]'(by omega)) (by simp);exact⟨vs,v',l,hv⟩
   ·obtain⟨_,vs,e,l,r⟩:=at1 _ _ _ _ x
    cases e
    have:=Reps.length _ _ r
    exact⟨vs,l,by omega⟩
   ·obtain⟨_,vs,e,l,r⟩:=at1 _ _ _ _ x
    cases e
    obtain⟨T,x',hT,rfl,rfl,hx⟩:=hy;have hi1:i<xs.length:=by omega
    obtain⟨v',hv,rv⟩:=Reps.get _ _ r i xs[i] (by simp[hi1]);have e1:=hx vs l;rw[hv] at e1;have e1:=Fz e1;rw[e1] at rv;have sm:ci H (EE H T (.tup [.int (i:Nat),x'])):=aJ hT _;refine⟨sm,.tup [.int (i:Nat),xs[i]],?_,?_⟩
    ·unfold enD;rw[List.getElem?_mapIdx,List.getElem?_eq_getElem hi1];rfl
    ·unfold EH
     exact⟨T,[.int (i:Nat),x'],rfl,.inl (.inl aI),Reps.cons (by unfold EH;rfl) (Reps.one (EH.kp (Kp.of_same sm) _ _ rv))⟩⟩⟩
end
def Itv(K:PySem.W.Frag)(a:Addr)(n:Nat):It :=
  ⟨λi H=>i<n/\∃xs x,EY K H a xs/\xs.length=n/\xs[n-1-i]?=some x,
   λi H v H'=>H'=H/\∀xs,EY K H a xs->xs[n-1-i]?=some v,
   λi _=>i=n⟩
theorem vk{P:Program}{w:World}{K:PySem.W.Frag}{tg:Expr}{n:Nat}:wU P w K tg (Itv K a n) [it] it (λi h=>h.IsRevIter it a ((n:Int)-1-(i:Nat))) where
 mem:=by simp
 obj:=λi h st b hb=>by
  have e:b=it:=by simpa using hb
  subst e;obtain⟨o,ho,_,d⟩:=st;exact⟨o,ho,λv=>by rw[d];nofun⟩
 keep:=λi h h' st k=>st.at λo e=>k it (by simp) o e
 item:=by
  intro X hP hw hK hc i pins s σ H E I hf st hg;subst hP hw hK;obtain⟨f0,f1,f2,f3,f4,f5⟩:=hf it (by simp);obtain⟨hi,xs,x,h1,hn,hx⟩:=hg;obtain⟨is,r1,p1,_⟩:=I.list h1;obtain⟨u,hu,ru⟩:=r1.get hx;have e:(n:Int)-1-(i:Nat)=((n-1-i:Nat):Int):=by omega
  rw[e] at st;refine wpAny_pyNext_rev_item st p1.isList (by simpa using hu) λh' st' sb=>⟨_,rfl,?_⟩;have e2:((n-1-i:Nat):Int)-1=(n:Int)-1-((i+1:Nat):Int):=by omega
  rw[e2] at st';obtain⟨o,ho,hoc,hod⟩:=id st';have I1:Inv X pins σ H { s with heap:=h' }:=I.turned (t':=s.toks) (λb o hb e=>sb.extBut b o hb e) f0 f1 f3 f4 f5;exact tj (s:={ s with heap:=h' }) (n:="list_reverseiterator") ho hoc hod (by decide) ⟨x,H,I1,ru,⟨rfl,λzs hz=>by rw[I.list_inj hz h1];exact hx⟩,st',λb hb=>(hf b hb).1⟩
 done:=by
  intro X hP hw hK hc i pins s σ H E I hf st hg;subst hP hw hK;obtain⟨f0,f1,f2,f3,f4,f5⟩:=hf it (by simp);have hg:i=n:=hg;subst hg;have e:(i:Int)-1-(i:Nat)=-1:=by omega
  rw[e] at st;exact wpAny_pyNext_rev_end (I.ok.hd hc) st λh' eb=>⟨rfl,I.turned (t':=s.toks) (λb o hb e=>eb b o hb e) f0 f1 f3 f4 f5⟩
 self:=λ_ _ _ _ _ st h=>wpAny_pyIter_revIter st h
section
variable {X:Cx} {tg:Expr}
def iRev(K:PySem.W.Frag)(ta:TA):TI:=λσ H R=>ta σ H λvs H1=>∃a xs,vs=[.ref a]/\EY K H1 a xs/\R (Itv K a xs.length) H1
theorem BR{a:Expr}{ta:TA}(hg:Gl X "reversed")(hm:X.mg "reversed"=none)(ha:PA X [a] ta)(hs:starEach [a] X.env=[(false,eval a X.env)]:=by rfl) :
  PI X tg (.Call (.Name "reversed" p) [a] [] pos) (iRev X.K ta):=by
 intro pins s σ H R I h;refine Call_ (iM I hg hm boot_reversed (Gh (ER (ha pos pins s σ H _ I h) λus s1 ⟨vs,H1,I1,r1,q1⟩=>?_) (by rw[hs];rfl) rfl));obtain⟨c,xs,e,hx,q⟩:=q1;subst e;obtain⟨u,rfl,ru⟩:=fR r1
 cases ru
 obtain⟨is,rv,p1,_⟩:=I1.list hx;have hl:is.toArray.size=xs.length:=by rw[FB,rv.length]
 refine call_reversed_list p1.isList ?_;have st:(s1.heap.push (revObj c ((is.toArray.size:Int)-1))).IsRevIter s1.heap.objs.size c ((xs.length:Int)-1-((0:Nat):Int)):=⟨_,Heap.get?_push_size _ rfl,rfl,by show Data.fields #[.ref c,rawInt ((is.toArray.size:Int)-1)]=_;rw[hl,show ((0:Nat):Int)=0 from rfl,Int.sub_zero]⟩;refine wpAny_pyIter_revIter (s:={ s1 with heap:=s1.heap.push (revObj c ((is.toArray.size:Int)-1)) }) st ?_;refine⟨_,[s1.heap.objs.size],_,_,H1,rfl,I1.kept (t':=s1.toks) λb o e=>Heap.get?_push_of_some _ e,vk,st,λb hb=>?_,q⟩;have e:b=s1.heap.objs.size:=by simpa using hb
 subst e;exact I1.fpOk (Fh _) (I1.hok.fresh (Fh _))
def Bl(t:TDA)(δ:En)(R:List D->En->Prop):Prop:=t δ λds δ1=>qC ds λx r=>qN r <| qL x λxs=>R xs.reverse δ1
theorem Bs{a:Expr}{ta:TDA}(hg:Gl X "reversed")(hm:X.mg "reversed"=none)(ha:DA X [a] ta)(hs:starEach [a] X.env=[(false,eval a X.env)]:=by rfl) :
  CI X tg (.Call (.Name "reversed" p) [a] [] pos) (Bl ta) :=
 ⟨_,BR hg hm ha hs,λG δ P σ H R Q s hs kk=>⟨G,δ,P,_,s,hs,λds δ1 h1 vs H1 hl s1=>by
  replace h1:=qC.ex h1;obtain⟨x,r,e,h1⟩:=h1;replace h1:=qN.ex h1;obtain⟨e',h1⟩:=h1;replace h1:=qL.ex h1;obtain⟨xs,e2,r⟩:=h1;subst e2 e' e
  match vs,hl with
  | [v],_ =>
   have s2:S X.K G δ1 ((.lst xs,v)::P) σ H1:=s1
   have at1:∀A δ σ H,Sx X.K G A δ ((.lst xs,v)::P) σ H->∃a vs,v=.ref a/\EY X.K H a vs/\Reps X.K (λb=>G.M0 b\/A b) H xs vs:=λA δ σ H x=>by
    have q:=x.pnd (.lst xs,v) (by simp)
    unfold EH at q;obtain⟨a,vs,e,_,l,r⟩:=q;exact⟨a,vs,e,EY.of l,r⟩
   obtain⟨A1,x1⟩:=id s2;obtain⟨a,vs0,rfl,l0,r0⟩:=at1 _ _ _ _ x1;have hl0:=Reps.length _ _ r0;refine⟨a,vs0,rfl,l0,kk _ δ1 r _ _ H1 (λq hq=>by simp[hq]) s2 (λA δ σ i H x hi=>?_) (λA δ σ H x=>by show xs.reverse.length=vs0.length;rw[Hf,hl0]) λA δ σ i y H H2 x hi hy=>?_⟩
   ·rw[Hf] at hi;obtain⟨_,vs,e,l,r⟩:=at1 _ _ _ _ x
    cases e
    have hl1:=Reps.length _ _ r
    obtain⟨v',hv,_⟩:=Reps.get _ _ r (vs0.length-1-i) (xs[vs0.length-1-i]'(by omega)) (by simp);exact⟨by omega,vs,v',l,by omega,hv⟩
   ·rw[Hf] at hi;obtain⟨_,vs,e,l,r⟩:=at1 _ _ _ _ x
    cases e
    have hl1:=Reps.length _ _ r
    obtain⟨e,hy⟩:=hy;subst e;obtain⟨v',hv,rv⟩:=Reps.get _ _ r (vs0.length-1-i) (xs[vs0.length-1-i]'(by omega)) (by simp);have z:=hy vs l;rw[hv] at z
    cases z
    refine⟨ci.refl _,_,?_,rv⟩;have e9:xs.length-1-i=vs0.length-1-i:=by omega
    rw[List.getElem?_reverse (by omega),e9]
    exact List.getElem?_eq_getElem _⟩⟩
end
end DL
namespace DL
open PySem PySem.Spec PyProof.Rows L2
section
variable {P:Program} {w:World} {h h':Heap} {a:Addr} {es:Array (Int×Value)} {ep:Nat} {t:SetTable}
end
section
variable {prog:Program} {w:World} {A:Around} {E:Value→Shared→Prop} {s:Shared}
end
section
variable {prog:Program} {w:World} {A:Around} {R:Result→Shared→Prop} {I:Addr} {fp wr:List Addr} {G:Array GenState→Array GenState→Prop} {n:Nat} {P:Nat→Value→Prop} {St:Nat→Shared→Prop}
end
section
variable {prog:Program} {w:World} {A:Around} {E:Value→Shared→Prop} {s:Shared}
set_option maxRecDepth 100000 in
set_option maxHeartbeats 3200000 in
end
end DL
namespace DL
open PySem PySem.Spec PyProof.Rows L2
namespace FS
end FS
section
variable {prog:Program} {w:World} {A:Around} {E:Value→Shared→Prop} {s:Shared}
end
section
variable {prog:Program} {w:World} {A:Around} {E:Value→Shared→Prop} {s:Shared} {I S:Addr} {es:Array (Int×Value)} {ep:Nat} {t:SetTable} {F:Heap→Nat→Value→Prop} {vs:List Value}
set_option maxHeartbeats 1000000 in
set_option maxHeartbeats 1000000 in
end
end DL
namespace DL
open PySem PySem.Spec PyProof.Rows L2
section
variable {prog:Program} {w:World} {A:Around} {E:Value→Shared→Prop} {s:Shared} {I S:Addr} {es:Array (Int×Value)} {ep:Nat} {t:SetTable} {F:Heap→Nat→Value→Prop} {vs:List Value}
set_option maxHeartbeats 2000000 in
end
section
variable {X:Cx} {e:Expr} {p p2 pos pos2:Pos} {te:TE}
end
end DL
namespace DL
open PySem PySem.Spec PyProof.Rows L2
variable {a:Addr} {ks:List Str} {o:Obj}
section
variable {K:PySem.W.Frag} {G:Gf} {A:Addr→Prop} {δ:List Sl} {P:List (D×V)} {σ:L2.St} {H:Hp}
theorem Sx.freezeF{i:Nat}{ds:List D}(s:Sx K G A δ P σ H)(hi:δ[i]?=some (.own a (.dct ks ds)))(hp:¬ G.M0 a) :
  ∃kvs,H a=some (.dK kvs)/\Sx K G (λb=>A b/\b≠a) (δ.set i (.dat (.fd ks ds))) P σ (EE H a (.frz o (.dK kvs))):=by
 obtain⟨si,ai,vs,hH,l,rs⟩:=s.own i a _ hi;refine⟨_,hH,?_⟩;have hk:∀b u,b≠a->H b=some u->EE H a (.frz o (.dK (aZ ks vs))) b=some u:=λb u n e=>by rw[aO n];exact e
 have kp:Kp (λb=>G.M0 b\/A b) H (EE H a (.frz o (.dK (aZ ks vs)))) :=
  ⟨λb u e n=>hk b u (λz=>n (.inr (by rw[z];exact ai))) e,λb xs e=>hk b _ (λz=>by rw[z,hH] at e;cases e) e,λb u v e=>hk b _ (λz=>by rw[z,hH] at e;cases e) e⟩
 have hM:∀b,(G.M0 b\/(A b/\b≠a))->(G.M0 b\/A b):=λb h=>h.elim .inl λz=>.inr z.1
 have dn:∀d v,EH K (λb=>G.M0 b\/A b) H d v->EH K (λb=>G.M0 b\/(A b/\b≠a)) (EE H a (.frz o (.dK (aZ ks vs)))) d v:=λd v r=>EH.more (λb z=>.inl (hM b z)) _ _ (EH.kp kp _ _ r)
 have stay:∀b,H b≠none->EE H a (.frz o (.dK (aZ ks vs))) b≠none:=λb e=>by
  by_cases z:b=a
  ·rw[z,aI];exact λq=>nomatch q
  ·rw[aO z];exact e
 refine⟨λb u e n=>hk b u (λz=>?_) (s.old b u e n),λb e=>stay b (s.stay b e),s.m0,s.pm,λb h=>s.new b h.1,λb h=>stay b (s.thr b h.1),by rw[F0,s.len],λj x e=>?_,λj b x e=>?_,λj k b x y h1 h2=>?_,λp hp=>dn _ _ (s.pnd p hp)⟩
 ·subst z;exact(s.new b ai).elim (λq=>by rw[q] at e;cases e) λq=>n q
 ·rcases a4 e with⟨hij,z,_⟩ | ⟨hij,e⟩
  ·cases z;subst hij
   refine⟨.ref a,si,?_⟩;unfold EH;exact⟨a,vs,o,rfl,aI,l,Reps.more (λb z=>.inl (hM b z)) _ _ (Reps.kp kp _ _ rs)⟩
  ·obtain⟨v,q,r⟩:=s.dat j x e;exact⟨v,q,dn _ _ r⟩
 ·rcases a4 e with⟨_,z,_⟩ | ⟨hij,e9⟩
  ·cases z
  ·clear e;obtain⟨q,r,w⟩:=s.own j b x e9;have hb:b≠a:=λz=>by rw[z] at e9;exact hij (s.inj _ _ _ _ _ hi e9)
   exact⟨q,⟨r,hb⟩,bv.more (λb z=>.inl (hM b z)) (bv.kp kp (by rw[aO hb]) w)⟩
 ·rcases a4 h1 with⟨_,z,_⟩ | ⟨_,e1⟩
  ·cases z
  ·rcases a4 h2 with⟨_,z,_⟩ | ⟨_,e2⟩
   ·cases z
   ·exact s.inj j k b x y e1 e2
end
def kw(i:Nat)(t:TDS)(R:bh)(δ:En):Prop:=qWD δ[i]? λ_ ks ds=>lJ δ i (.dat (.fd ks ds)) (t R)
theorem iO{X:Cx}(i:Nat){st:List Stmt}{u:TDS}(h:DSs X st u):DSs X st (kw i u):=by
 rintro pins s σ H D I ⟨G,δ,P,R,⟨A,x⟩,hu,k⟩;replace hu:=qWD.ex hu;obtain⟨a,ks,ds,e,hu⟩:=hu;have hp:¬ G.M0 a:=λz=>(x.new a (x.own i a _ e).2.1).elim (λq=>x.m0 a z q) λq=>(x.pm a q).2 z;obtain⟨si,ai,vs,hH,l,rs⟩:=x.own i a _ e;obtain⟨hz,lo,va,ra,da⟩:=vZ I.hok hH;obtain⟨o,es,ep,ho,r9⟩:=id da;obtain⟨kvs,hH2,y⟩:=x.freezeF (o:=o) e hp;rw[hH] at hH2
 cases hH2
 have I2:L2.Inv X pins σ (EE H a (.frz o (.dK (aZ ks vs)))) s:=I.write (x:=a) (e:=a) (t':=s.toks) (h':=s.heap) (by rw[hH];trivial) (.inl rfl) (λb u _ q=>q) ⟨o,ho⟩ ⟨ho,hz,lo,va,ra,da⟩
 exact h pins s σ _ D I2 ⟨G,_,P,R,⟨_,y⟩,hu,k⟩
def Itd(a:Addr)(o:Obj)(ks:List Str):It :=
  ⟨λi H=>i<ks.length/\∃vs,vs.length=ks.length/\H a=some (.frz o (.dK (aZ ks vs))),
   λi H v H'=>H'=H/\∃x,ks[i]?=some x/\v=.str x,
   λi H=>i=ks.length/\∃vs,vs.length=ks.length/\H a=some (.frz o (.dK (aZ ks vs)))⟩
theorem sX{X:Cx}{pins:List (Addr×Obj)}{σ:L2.St}{H:Hp}{s:Shared}{vs:List V}{es:Array DictEntry}{ep:Nat}(I:L2.Inv X pins σ H s)(hd:o.data=.dict es ep)(hl:vs.length=ks.length)(e:H a=some (.frz o (.dK (aZ ks vs)))) :
  ∃va,KV (aZ ks vs) va/\va.length=ks.length/\(a==sysModules)=false/\s.heap.DictAt (a5 X.prog X.w) a va ep:=by
 obtain⟨ho,hz,lo,va,ra,da⟩:=I.hok a _ e;obtain⟨ep',dt⟩:=da.dictAt;obtain⟨o',es',ho',r1,r2,r3⟩:=id dt;rw[ho] at ho'
 cases ho'
 rw[hd] at r2
 cases r2
 refine⟨va,ra,?_,lo,dt⟩;rw[<- ra.length];unfold aZ;rw[Gj,E7];omega
theorem tM{P:Program}{w:World}{K:PySem.W.Frag}{tg:Expr}{it:Addr}{es:Array DictEntry}{ep:Nat}(hd:o.data=.dict es ep):wU P w K tg (Itd a o ks) [it] it (λi h=>h.IsKeyIter it a i ks.length ep) where
 mem:=by simp
 obj:=λi h st b hb=>by
  have e:b=it:=by simpa using hb
  subst e;obtain⟨o,ho,_,d⟩:=st;exact⟨o,ho,λv=>by rw[d];nofun⟩
 keep:=λi h h' st k=>st.at λo e=>k it (by simp) o e
 item:=by
  intro X hP hw hK hc i pins s σ H E I hf st hg;subst hP hw hK;obtain⟨f0,f1,f2,f3,f4,f5⟩:=hf it (by simp);obtain⟨hi,vs,hl,e⟩:=hg;obtain⟨va,ra,lv,lo,dt⟩:=sX I hd hl e;rw[<- lv] at st;obtain⟨⟨k,v⟩,hx⟩:∃p,va[i]?=some p:=⟨va[i]'(by omega),by simp[show i<va.length by omega]⟩;obtain⟨⟨k2,v2⟩,q1,z1,_⟩:=kK ra hx;obtain⟨x,rfl,kx,_⟩:=nw q1;simp only at z1;subst z1;refine wpAny_pyNext_dict_item st dt hx λkey h' hkey hit' sb=>⟨_,rfl,?_⟩;rw[lv] at hit';obtain⟨oi,ho,hoc,hod⟩:=id hit';have I1:Inv X pins σ H { s with heap:=h' }:=I.turned (t':=s.toks) (λb o hb e=>sb.extBut b o hb e) f0 f1 f3 f4 f5;have hkey:Value.isStrOf x key=true:=hkey;obtain⟨t,rfl⟩:=Value.isStrOf_shape hkey;exact tj (s:={ s with heap:=h' }) (n:="dict_keyiterator") ho hoc hod (by decide) ⟨.str x,H,I1,⟨t,rfl⟩,⟨rfl,x,kx,rfl⟩,hit',λb hb=>(hf b hb).1⟩
 done:=by
  intro X hP hw hK hc i pins s σ H E I hf st hg;subst hP hw hK;obtain⟨f0,f1,f2,f3,f4,f5⟩:=hf it (by simp);obtain⟨hi,vs,hl,e⟩:=hg;obtain⟨va,ra,lv,lo,dt⟩:=sX I hd hl e;rw[<- lv] at st;exact wpAny_pyNext_dict_end (I.ok.hd hc) st dt (by simp;omega) λh' eb=>⟨rfl,I.turned (t':=s.toks) (λb o hb e=>eb b o hb e) f0 f1 f3 f4 f5⟩
 self:=λ_ _ _ _ _ st h=>wpAny_pyIter_keyiter st h
section
variable {X:Cx} {tg e:Expr} {te:E1}
def Du(te:TE):TI:=λσ H R=>te σ H λx H1=>∃a o ks vs,x=.ref a/\vs.length=ks.length/\H1 a=some (.frz o (.dK (aZ ks vs)))/\R (Itd a o ks) H1
theorem yE{te:TE}(he:PE X e te):PI X tg e (Du te):=by
 intro pins s σ H R I h;refine ER (he pins s σ H _ I h) λv s1 ⟨x,H1,I1,r1,q1⟩=>?_;obtain⟨a,o,ks,vs,rfl,hl,e1,q⟩:=q1
 cases r1
 obtain⟨ho,hz,lo,va0,ra0,da⟩:=I1.hok a _ e1;obtain⟨o',es,ep,ho',r1,r2,r3⟩:=id da;rw[ho] at ho'
 cases ho'
 obtain⟨va,ra,lv,lo,dt⟩:=sX I1 r2 hl e1;refine wpAny_pyIter_dict lo dt ?_;refine⟨s1.heap.objs.size,[s1.heap.objs.size],_,_,H1,rfl,I1.kept (t':=s1.toks) λb o e=>Heap.get?_push_of_some _ e,tM r2,⟨_,Heap.get?_push_size _ rfl,rfl,by rw[lv];rfl⟩,λb hb=>?_,q⟩;have e:b=s1.heap.objs.size:=by simpa using hb
 subst e;exact I1.fpOk (Fh _) (I1.hok.fresh (Fh _))
def Cs(t:E1)(δ:En)(R:List D->En->Prop):Prop:=t δ (wd λd δ1=>qF d λks _=>R (ks.map D.str) δ1)
theorem Bw(h:DE X e te):CI X tg e (Cs te):=⟨_,yE h,λG δ P σ H R Q s hs k=>up.mk s hs λd δ1 h1 v H1 s1=>by
 replace h1:=qF.ex h1;obtain⟨ks,ds,e,r⟩:=h1;subst e;have hat:∀A δ σ H,Sx X.K G A δ ((.fd ks ds,v)::P) σ H->∃a vs o,v=.ref a/\vs.length=ks.length/\H a=some (.frz o (.dK (aZ ks vs))):=λA δ σ H x=>by
  have q:=x.pnd (.fd ks ds,v) (by simp)
  unfold EH at q;obtain⟨a,vs,o,e,q,l,r⟩:=q;exact⟨a,vs,o,e,by rw[l,Reps.length _ _ r],q⟩
 obtain⟨A1,x1⟩:=id s1;obtain⟨a,vs0,o,rfl,l0,e0⟩:=hat _ _ _ _ x1;have p0:EH X.K (λb=>G.M0 b\/A1 b) H1 (.fo o ks ds) (.ref a):=by
  have q:=x1.pnd (.fd ks ds,.ref a) (by simp)
  unfold EH at q ⊢;obtain⟨a',vs,o',e,q,l,r⟩:=q
  cases e
  rw[e0] at q;have hq:o=o'/\aZ ks vs0=aZ ks vs:=by
   have q:=Fz q
   injection q with q1 q2
   injection q2 with q2
   exact⟨q1,q2⟩
  exact⟨a,vs,rfl,by rw[e0,hq.2],l,r⟩
 have hat2:∀A δ σ H,Sx X.K G A δ ((.fo o ks ds,.ref a)::P) σ H->∃vs,vs.length=ks.length/\H a=some (.frz o (.dK (aZ ks vs))):=λA δ σ H x=>by
  have q:=x.pnd (.fo o ks ds,.ref a) (by simp)
  unfold EH at q;obtain⟨a',vs,e,q,l,r⟩:=q
  cases e
  exact⟨vs,by rw[l,Reps.length _ _ r],q⟩
 refine⟨a,o,ks,vs0,rfl,l0,e0,k _ δ1 r _ ((.fo o ks ds,.ref a)::P) H1 (λq hq=>by simp[hq]) ⟨A1,(x1.sub (P':=P) λq hq=>by simp[hq]).push p0⟩ (λA δ σ i H x hi=>?_) (λA δ σ H x=>?_) λA δ σ i y H H2 x hi hy=>?_⟩
 ·exact⟨by simpa using hi,hat2 _ _ _ _ x⟩
 ·exact⟨by simp,hat2 _ _ _ _ x⟩
 ·obtain⟨rfl,x',hx',rfl⟩:=hy
  exact⟨ci.refl _,.str x',by rw[List.getElem?_map,hx'];rfl,by unfold EH;rfl⟩⟩
end
end DL
namespace DL
open PySem PySem.Spec PyProof.Rows L2
variable {R:D→Prop}
section
variable {X:Cx} {pos:Pos} {e:Expr}
end
section
variable {X:Cx} {pos:Pos} {e:Expr} {ta:E1}
end
section
variable {P:Program} {w:World} {K:PySem.W.Frag} {mg:Str→Option Value} {base:Heap}
end
def AE:List D->(D->Prop)->Prop
 | [.int i,.int j],R=>R (.bl (decide (i=j)))
 | [.str x,.str y],R=>R (.bl (decide (x=y)))
 | [.bl x,.bl y],R=>R (.bl (decide (x=y)))
 | [.tup xs,.tup ys],R=>∃a b c d,xs=[.int a,.int b]/\ys=[.int c,.int d]/\R (.bl (decide ((a,b)=(c,d))))
 | _,_=>False
theorem yU:∀ {d0:List D} {R:D->Prop},AE d0 R->((∃(i:Int) (j:Int),d0=[.int i,.int j]/\R (.bl (decide (i=j))))\/(∃(x:Str) (y:Str),d0=[.str x,.str y]/\R (.bl (decide (x=y))))\/(∃(x:Bool) (y:Bool),d0=[.bl x,.bl y]/\R (.bl (decide (x=y))))\/(∃(xs:List D) (ys:List D),d0=[.tup xs,.tup ys]/\∃a b c d,xs=[.int a,.int b]/\ys=[.int c,.int d]/\R (.bl (decide ((a,b)=(c,d)))))):=by walk_at "or"
theorem zu{a b c d:Int}:AE [.tup [.int a,.int b],.tup [.int c,.int d]] R↔R (.bl (decide ((a,b)=(c,d)))):=by
 constructor
 ·intro h;obtain⟨_,_,_,_,e,e',h⟩:=h
  cases e
  cases e'
  exact h
 ·exact λh=>⟨_,_,_,_,rfl,rfl,h⟩
def uQ{i j:Int}:AE [.int i,.int j] R=(R (.bl (decide (i=j)))):=rfl
def xW{i j:Bool}:AE [.bl i,.bl j] R=(R (.bl (decide (i=j)))):=rfl
def vh{i j:Str}:AE [.str i,.str j] R=(R (.bl (decide (i=j)))):=rfl
section
variable {X:Cx}
theorem yM(hu:X.A.units+64<cLine):EV X (compareOp .Eq) λx y=>aS X.K AE [x,y]:=by
 intro pins s σ H x y v u Q I rx ry h;obtain⟨M,ds,R,m,rs,h,k⟩:=h;replace h:=yU h
 rcases h with⟨_,_,rfl,h⟩ | ⟨_,_,rfl,h⟩ | ⟨_,_,rfl,h⟩ | ⟨_,_,rfl,h⟩
 ·exact dy hu pins s σ H x y v u Q I rx ry ⟨M,_,R,m,rs,h,k⟩
 ·exact dy hu pins s σ H x y v u Q I rx ry ⟨M,_,R,m,rs,h,k⟩
 ·exact dy hu pins s σ H x y v u Q I rx ry ⟨M,_,R,m,rs,h,k⟩
 ·obtain⟨i1,i2,j1,j2,rfl,rfl,h⟩:=h;obtain⟨h1,h2⟩:=bZ rs;unfold EH at h1 h2;obtain⟨a,vs,rfl,sq,rs1⟩:=h1;obtain⟨b,ws,rfl,sq',rs2⟩:=h2
  cases rx
  cases ry
  obtain⟨v1,v2,rfl,p1,p2⟩:=kz rs1;obtain⟨w1,w2,rfl,p3,p4⟩:=kz rs2
  cases aT p1
  cases aT p2
  cases aT p3
  cases aT p4
  obtain⟨its,r1,t1,_⟩:=I.tuple sq;obtain⟨its',r2,t2,_⟩:=I.tuple sq'
  cases r1 with
  | cons q1 r1 =>
   cases r1 with
   | cons q2 r1 =>
    cases r1
    obtain⟨s1,rfl⟩:=q1;obtain⟨s2,rfl⟩:=q2
    cases r2 with
    | cons q3 r2 =>
     cases r2 with
     | cons q4 r2 =>
      cases r2
      obtain⟨s3,rfl⟩:=q3;obtain⟨s4,rfl⟩:=q4;refine SeqAt.eq_tupleAt (e:=λn=>if n=0 then i1==j1 else i2==j2) t1 t2 (by omega) (λn h1 h2=>?_) ?_
      ·match n,h1 with
       | 0,_=>exact SeqAt.EqAt.int_int i1 s1 j1 s3
       | 1,_=>exact SeqAt.EqAt.int_int i2 s2 j2 s4
      ·refine⟨.bl _,H,I,rfl,?_⟩;have e1:((List.range (min [Value.int i1 s1,Value.int i2 s2].toArray.size [Value.int j1 s3,Value.int j2 s4].toArray.size)).all (λn=>if n=0 then i1==j1 else i2==j2)&&[Value.int i1 s1,Value.int i2 s2].toArray.size==[Value.int j1 s3,Value.int j2 s4].toArray.size)=decide ((i1,i2)=(j1,j2)):=by
        show ((i1==j1)&&((i2==j2)&&true)&&true)=_
        rw[GQ];simp
       rw[e1];exact k _ h _ H (ci.refl H) (EH.sc rfl)
end
end DL
namespace DL
open PySem PySem.Spec PyProof.Rows L2
section
variable {X:Cx}
end
end DL
namespace DL
open PySem PySem.Spec PyProof.Rows L2
variable {X:Cx} {y:Str} {pos:Pos}
def kI(R:W->En->Prop)(δ:En)(r:D):Prop:=r.im=true/\R (.d r) δ
def xg(i:Nat)(f:List D->(D->Prop)->Prop)(ta tb:E1)(δ:En)(R:W->En->Prop):Prop:=ta δ (wd λx δ1=>tb δ1 (wd λy δ2=>qW δ2[i]? λ_ d=>f [x,y,d] (kI R δ2)))
theorem uP{a b:Expr}{ta tb:E1}{f:List D->(D->Prop)->Prop}{x:Str}{k:Nat}{ps:List Str}{p p2:Pos}(i:Nat)(C:Cal X.prog X.w X.K X.mg X.base k x ps (E2 X.K f))(hr:fS k X.A)(hg:Gl X x)(ha:DE X a ta)(hb:DE X b tb)(hN:X.N[i]?=some y:=by rfl)
  (hv:Vis X.env.scope y:=by walk_at "v3") (hd:(y==("__debug__":Str))=false:=by decide) (hcd:(y==("__classdict__":Str))=false:=by decide)
  (hdb:(x==("__debug__":Str))=false:=by decide) (he:starEach [a,b,.Name y p2] X.env=(false,eval a X.env)::starEach [b,.Name y p2] X.env:=by rfl) (he1:starEach [b,.Name y p2] X.env=(false,eval b X.env)::starEach [.Name y p2] X.env:=by rfl)
  (he2:starEach [.Name y p2] X.env=(false,eval (.Name y p2) X.env)::starEach [] X.env:=by rfl) (hpl:(backTo pos (starEach [b,.Name y p2] X.env)).any (·.1)=false:=by rfl) :
  DE X (.Call (.Name x p) [a,b,.Name y p2] [] pos) (xg i f ta tb):=by
 obtain⟨g,fd,F,b',kp,m⟩:=C.ex;refine PE.imp (lI F hr hg m kp b' .nil uW (bI ha (bI hb (bI (d9 hN hv hd hcd) eQ he2) he1) he) hdb he hpl) λσ H Q ⟨G,δ,P,R,s,h,k,_⟩=>up.mk s h λz δ1 h1 v H1 s1=>up.mk s1 h1 λz2 δ2 h2 v2 H2 s2=>?_;replace h2:=qW.ex h2;obtain⟨a0,d0,hi,hf⟩:=h2;refine⟨.ref a0,s2.own hi,?_⟩;show aS X.K f ([v,v2,.ref a0]++[]) H2 Q;rw[FZ];obtain⟨A,q⟩:=s2;obtain⟨_,aa,oo⟩:=q.own i a0 d0 hi;have hM:∀b,((G.M0 b\/A b)/\b≠a0)->(G.M0 b\/A b)\/H2 b=none:=λb h=>.inl h.1;refine⟨λb=>(G.M0 b\/A b)/\b≠a0,[z,z2,d0],λr=>r.im=true/\R (.d r) δ2,λb h=>q.mem b h.1,Reps.cons (EH.more hM _ _ (q.pnd (z,v) (by simp))) (Reps.cons (EH.more hM _ _ (q.pnd (z2,v2) (by simp))) (Reps.one (oo.rep (λz=>z.2 rfl) λb z=>z.1))),hf,λr ⟨im,hr⟩ u H' sm rp=>?_⟩;exact k r δ2 hr u H' ⟨A,((q.same sm).sub (P':=P) λp hp=>by simp[hp]).push (EH.im _ _ im rp)⟩
theorem Sx.slot{K:PySem.W.Frag}{G:Gf}{A:Addr->Prop}{δ:List Sl}{P P':List (D×V)}{σ:L2.St}{H:Hp}{i:Nat}{p:Addr}{d:D}(s:Sx K G A δ P σ H)(aa:A p)(oo:bv K (λb=>G.M0 b\/A b) H p d)(hno:∀(j:Nat) e,δ[j]?≠some (.own p e))(hP:∀q∈P',q∈P) :
  Sx K G A (δ.set i (.own p d)) P' (σ.set i (some (.ref p))) H:=by
 refine⟨s.old,s.stay,s.m0,s.pm,s.new,s.thr,by rw[F0,F0,s.len],λj d' e=>?_,λj b d' e=>?_,λj k b d' e' h1 h2=>?_,λq hq=>s.pnd q (hP q hq)⟩
 ·rcases a4 e with⟨_,z,_⟩ | ⟨hij,e⟩
  ·cases z
  ·obtain⟨v,q,r⟩:=s.dat j d' e;exact⟨v,by rw[List.getElem?_set_ne hij];exact q,r⟩
 ·rcases a4 e with⟨hij,z,hl⟩ | ⟨hij,e⟩
  ·cases z
   subst hij;exact⟨by rw[List.getElem?_set_self (by rw[<- s.len];exact hl)],aa,oo⟩
  ·obtain⟨q,r,o⟩:=s.own j b d' e;exact⟨by rw[List.getElem?_set_ne hij];exact q,r,o⟩
 ·rcases a4 h1 with⟨hij,z,hl⟩ | ⟨hij,e⟩
  ·cases z
   rcases a4 h2 with⟨hik,_,_⟩ | ⟨hik,e2⟩
   ·rw[<- hij,<- hik]
   ·exact absurd e2 (hno k _)
  ·rcases a4 h2 with⟨hik,z,_⟩ | ⟨hik,e2⟩
   ·cases z
    exact absurd e (hno j _)
   ·exact s.inj j k b d' e' e e2
def wY(i:Nat)(src:TDC)(nt:Nat)(caps:List (Nat×Str))(g:TDG)(tc:TDT)(te:E1)(R:bh)(δ:En):Prop:=src δ λxs δ1=>xs.length<=9000/\∃f:D->Option D,
 (∀x∈xs,wm nt λts=>g x (ts++ig caps δ1) λδ2=>tc δ2 λb δ3=>if b=true then te δ3 (wd λy δ4=>okT nt δ4 (ig caps δ1)/\f x=some y) else okT nt δ3 (ig caps δ1)/\f x=none)/\∀a,lJ δ1 i (.own a (.lst (xs.filterMap f))) R.nx
theorem vV{elt tgt iter:Expr}{ifs:List Expr}{scope:Scope}{pos2 pos':Pos}{src:TDC}{cl:List (Str×Addr)}{te:E1}(i:Nat)(hN:X.N.Nodup)(tn:List Str)(caps:List (Nat×Str)){g:TDG}{tc:TDT}
  (hcalm:X.calm=true) (hclos:closureFor scope X.env=pure cl) (hcell:∀p∈caps,(p.2,NameKind.cell)∉scope.names) (hkind:scope.kind=.function) (hnames:∀y∈scope.names,y.2=.local->scope.names.lookup y.1=some .local)
  (hcl:∀x c,cl.lookup x=some c->X.env.cells.lookup x=some c) (hhas:∀(n:Nat) x,((relabel scope X.env).names.lookup x=some .cell\/(relabel scope X.env).names.lookup x=some .free)->∃c,(cellsFrom n scope.names []++cl).lookup x=some c)
  (hcap:∀p∈caps,X.N[p.1]?=some p.2/\X.env.scope.names.lookup p.2=some .cell/\((relabel scope X.env).names.lookup p.2=some .cell\/(relabel scope X.env).names.lookup p.2=some .free))
  (hi:CI X.nox tgt iter src)
  (hb:∀s2 H2 C fp pn,DG (cT X (tn++caps.map (·.2)) scope cl s2 H2 C fp pn) tgt g/\DF (cT X (tn++caps.map (·.2)) scope cl s2 H2 C fp pn) ifs tc/\DE (cT X (tn++caps.map (·.2)) scope cl s2 H2 C fp pn) elt te)
  (hs:∀x,foldedSetIterable iter X.env x=pure x:=by intro _;rfl) (hi':X.N[i]?=some y:=by rfl) (hx:Loc X.env.scope y:=by walk_at "v2")
  (hsw:swapsWith (.ListComp elt [⟨tgt,iter,ifs,0⟩] scope pos) (some (.Name y pos')) pos2.line X.env=pure true:=by rfl) (hf:X.fn y=true\/X.env.scope.names.lookup y=some .local :=by walk_at "v1") :
  DS X.nox (.Assign [.Name y pos'] (.ListComp elt [⟨tgt,iter,ifs,0⟩] scope pos) pos2) (wY i src tn.length caps g tc te):=by
 obtain⟨wi,hi,hw⟩:=hi;refine PS.imp (o8 (g:=upG X.K g) (tc:=upT X.K tc) (te:=up X.K te) tn caps hcalm hclos hcell hkind hnames hcl hhas hcap hi hb hs hN hi' hx hsw hf) λE σ H ⟨G,δ,P,R,s,h,k,_⟩=>?_;refine hw G δ P σ H _ _ s h λxs δ1 ⟨hz,f,hf,r⟩ J P1 H1 hP s1 hgo hst hyl p hp=>?_;refine jV (Q:=λx H1=>sY i x σ H1 E.nx) s1 hz (λA i H x hi=>hgo A _ _ i H x hi) (λA H x=>hst A _ _ H x) (λA i x H H2 s hi hy=>hyl A _ _ i x H H2 s hi hy) hf p hp λA acc H' hA ho x hac rs=>?_;exact k _ (r p) _ H' ⟨_,x.slot (P':=P) (.inr rfl) ⟨acc,hac,rs⟩ (λj e z=>hA (.inr (ho j p e z))) hP⟩
theorem ef{elt tgt iter:Expr}{ifs:List Expr}{scope:Scope}{pos2 pos':Pos}{src:TDC}{cl:List (Str×Addr)}{te:E1}(i:Nat)(hN:X.N.Nodup)(tn:List Str)(caps:List (Nat×Str)){g:TDG}{tc:TDT}
  (hcalm:X.calm=true) (hclos:closureFor scope X.env=pure cl) (hcell:∀p∈caps,(p.2,NameKind.cell)∉scope.names) (hkind:scope.kind=.function) (hnames:∀y∈scope.names,y.2=.local->scope.names.lookup y.1=some .local)
  (hcl:∀x c,cl.lookup x=some c->X.env.cells.lookup x=some c) (hhas:∀(n:Nat) x,((relabel scope X.env).names.lookup x=some .cell\/(relabel scope X.env).names.lookup x=some .free)->∃c,(cellsFrom n scope.names []++cl).lookup x=some c)
  (hcap:∀p∈caps,X.N[p.1]?=some p.2/\X.env.scope.names.lookup p.2=some .cell/\((relabel scope X.env).names.lookup p.2=some .cell\/(relabel scope X.env).names.lookup p.2=some .free))
  (hi:CI X.nox tgt iter src)
  (hb:∀s2 H2 C fp pn,DG (cT X (tn++caps.map (·.2)) scope cl s2 H2 C fp pn) tgt g/\DF (cT X (tn++caps.map (·.2)) scope cl s2 H2 C fp pn) ifs tc/\DE (cT X (tn++caps.map (·.2)) scope cl s2 H2 C fp pn) elt te)
  (hs:∀x,foldedSetIterable iter X.env x=pure x:=by intro _;rfl) (hi':X.N[i]?=some y:=by rfl) (hx:Loc X.env.scope y:=by walk_at "v2")
  (hsw:swapsWith (.ListComp elt [⟨tgt,iter,ifs,0⟩] scope pos) (some (.Name y pos')) pos2.line X.env=pure true:=by rfl) (hf:X.fn y=true\/X.env.scope.names.lookup y=some .local :=by walk_at "v1") :
  DS X.nox (.Assign [.Name y pos'] (.ListComp elt [⟨tgt,iter,ifs,0⟩] scope pos) pos2) (dSet i (wv src tn.length caps g tc te)):=by
 obtain⟨wi,hi,hw⟩:=hi;refine PS.imp (o8 (g:=upG X.K g) (tc:=upT X.K tc) (te:=up X.K te) tn caps hcalm hclos hcell hkind hnames hcl hhas hcap hi hb hs hN hi' hx hsw hf) λE σ H ⟨G,δ,P,R,s,h,k,_⟩=>?_;refine hw G δ P σ H _ _ s h λxs δ1 ⟨hz,f,hf,r⟩ J P1 H1 hP s1 hgo hst hyl p hp=>?_
 exact mF (Q:=λx H1=>sY i x σ H1 E.nx) s1 hz (λA i H x hi=>hgo A _ _ i H x hi) (λA H x=>hst A _ _ H x) (λA i x H H2 s hi hy=>hyl A _ _ i x H H2 s hi hy) hf (λv H' s'=>k _ r _ H' ((s'.sub (P':=(.lst (xs.filterMap f),v)::P) λq hq=>by
  rcases Fj.mp hq with rfl | hq
  ·simp
  ·exact E9 _ (hP q hq)).set (by simp) λp hp=>by simp[hp])) p hp
section
variable {X:Cx} {tg e:Expr} {te:E1}
def iSeq(K:PySem.W.Frag)(tl:TE):TI:=λσ H R=>tl σ H λx H1=>(∃a,x=.ref a/\(∃xs,EY K H1 a xs)/\R (Itl K a) H1)\/∃a,x=.ref a/\(∃xs,E5 K H1 a xs)/\R (Itt K a) H1
theorem CU{l:Expr}{tl:TE}(hl:PE X l tl):PI X tg l (iSeq X.K tl):=by
 intro pins s σ H R I h;refine ER (hl pins s σ H _ I h) λv s1 ⟨x,H1,I1,r1,q1⟩=>?_
 rcases q1 with⟨a,e,⟨xs,hq⟩,q⟩ | ⟨a,e,⟨xs,hq⟩,q⟩
 ·subst e
  cases r1
  obtain⟨its,rv,p,hz⟩:=I1.list hq;refine G6 p.isList ?_;refine⟨s1.heap.objs.size,[s1.heap.objs.size],_,_,H1,rfl,I1.kept (t':=s1.toks) λb o e=>Heap.get?_push_of_some _ e,lM a _,⟨_,Heap.get?_push_size _ rfl,rfl,rfl⟩,λb hb=>?_,q⟩;have e:b=s1.heap.objs.size:=by simpa using hb
  subst e;exact I1.fpOk (Fh _) (I1.hok.fresh (Fh _))
 ·subst e
  cases r1
  obtain⟨its,rv,p,hz⟩:=I1.tuple hq;refine wpAny_pyIter_tuple p ?_;refine⟨s1.heap.objs.size,[s1.heap.objs.size],_,_,H1,rfl,I1.kept (t':=s1.toks) λb o e=>Heap.get?_push_of_some _ e,j8 a _,⟨_,Heap.get?_push_size _ rfl,rfl,rfl⟩,λb hb=>?_,q⟩;have e:b=s1.heap.objs.size:=by simpa using hb
  subst e;exact I1.fpOk (Fh _) (I1.hok.fresh (Fh _))
def qY:D->(List D->Prop)->Prop
 | .lst xs,k=>k xs
 | .tup xs,k=>k xs
 | _,_=>False
theorem qY.ex{d:D}{k:List D->Prop}(h:qY d k):∃b xs,d=sq b xs/\k xs:=by
 cases d<;>first | exact False.elim h | exact⟨true,_,rfl,h⟩ | exact⟨false,_,rfl,h⟩
def dcSq(t:E1)(δ:En)(R:List D->En->Prop):Prop:=t δ (wd λd δ1=>qY d λxs=>R xs δ1)
def Da(h:DE X e te):CI X tg e (dcSq te):=⟨_,CU h,λG δ P σ H R Q s hs k=>up.mk s hs λd δ1 h1 v H1 s1=>by
 replace h1:=qY.ex h1;obtain⟨kk,xs,e,r⟩:=h1;subst e;have hat:∀A δ σ H,Sx X.K G A δ ((sq kk xs,v)::P) σ H->∃a vs,v=.ref a/\EL kk X.K H a vs/\Reps X.K (λb=>G.M0 b\/A b) H xs vs:=λA δ σ H x=>pY (x.pnd (sq kk xs,v) (by simp));obtain⟨A1,x1⟩:=id s1;obtain⟨a,vs0,rfl,l0,_⟩:=hat _ _ _ _ x1
 cases kk
 ·refine .inr ⟨a,rfl,⟨vs0,l0⟩,k xs δ1 r _ _ H1 (λq hq=>by simp[hq]) s1 (λA δ σ i H x hi=>?_) (λA δ σ H x=>?_) λA δ σ i y H H2 x hi hy=>?_⟩
  ·obtain⟨b,vs,e,l,r⟩:=hat _ _ _ _ x
   cases e
   obtain⟨w',hw,_⟩:=Reps.get _ _ r i xs[i] (by simp[hi]);exact⟨vs,w',l,hw⟩
  ·obtain⟨b,vs,e,l,r⟩:=hat _ _ _ _ x
   cases e
   exact⟨vs,l,by rw[Reps.length _ _ r];exact Fh _⟩
  ·obtain⟨b,vs,e,l,r⟩:=hat _ _ _ _ x
   cases e
   obtain⟨e,hy⟩:=hy;obtain⟨w',hw,rw'⟩:=Reps.get _ _ r i xs[i] (by simp[hi]);have z:=hy vs l;rw[hw] at z
   cases z
   subst e;exact⟨ci.refl _,xs[i],by simp[hi],rw'⟩
 ·refine .inl ⟨a,rfl,⟨vs0,l0⟩,k xs δ1 r _ _ H1 (λq hq=>by simp[hq]) s1 (λA δ σ i H x hi=>?_) (λA δ σ H x=>?_) λA δ σ i y H H2 x hi hy=>?_⟩
  ·obtain⟨b,vs,e,l,r⟩:=hat _ _ _ _ x
   cases e
   obtain⟨w',hw,_⟩:=Reps.get _ _ r i xs[i] (by simp[hi]);exact⟨vs,w',l,hw⟩
  ·obtain⟨b,vs,e,l,r⟩:=hat _ _ _ _ x
   cases e
   exact⟨vs,l,by rw[Reps.length _ _ r];exact Fh _⟩
  ·obtain⟨b,vs,e,l,r⟩:=hat _ _ _ _ x
   cases e
   obtain⟨e,hy⟩:=hy;obtain⟨w',hw,rw'⟩:=Reps.get _ _ r i xs[i] (by simp[hi]);have z:=hy vs l;rw[hw] at z
   cases z
   subst e
   exact⟨ci.refl _,xs[i],by simp[hi],rw'⟩⟩
end
end DL
namespace DL
open PySem PySem.Spec PyProof.Rows L2
def AH(i:Nat)(f:List D->(D->Prop)->Prop)(ta:E1)(δ:En)(R:W->En->Prop):Prop:=qW δ[i]? λa _=>ta δ (wd λz δ1=>qWe δ1[i]? λd=>f [d,z] (kI R δ1))
theorem yt{X:Cx}{b:Expr}{tb:E1}{f:List D->(D->Prop)->Prop}{x y:Str}{k:Nat}{ps:List Str}{p p2 pos:Pos}(i:Nat)(C:Cal X.prog X.w X.K X.mg X.base k x ps (E2 X.K f))(hr:fS k X.A)(hg:Gl X x)(hb:DE X b tb)(hN:X.N[i]?=some y:=by rfl)
  (hv:Vis X.env.scope y:=by walk_at "v3") (hd:(y==("__debug__":Str))=false:=by decide) (hcd:(y==("__classdict__":Str))=false:=by decide)
  (hdb:(x==("__debug__":Str))=false:=by decide) (he:starEach [.Name y p2,b] X.env=(false,eval (.Name y p2) X.env)::starEach [b] X.env:=by rfl) (he1:starEach [b] X.env=(false,eval b X.env)::starEach [] X.env:=by rfl)
  (hpl:(backTo pos (starEach [b] X.env)).any (·.1)=false:=by rfl) :
  DE X (.Call (.Name x p) [.Name y p2,b] [] pos) (AH i f tb):=by
 obtain⟨g,fd,F,b',kp,m⟩:=C.ex;refine PE.imp (lI F hr hg m kp b' .nil uW (bI (d9 hN hv hd hcd) (bI hb eQ he1) he) hdb he hpl) λσ H Q ⟨G,δ,P,R,s,h,k,_⟩=>?_;replace h:=qW.ex h;obtain⟨a0,d00,hi0,h⟩:=h;refine⟨.ref a0,s.own hi0,up.mk s h λz δ1 h1 v H1 s1=>?_⟩;obtain⟨A,q⟩:=s1;replace h1:=qWe.ex q (s.own hi0) h1;obtain⟨d0,hi,hf⟩:=h1;show aS X.K f ([.ref a0,v]++[]) H1 Q;rw[FZ];obtain⟨_,aa,oo⟩:=q.own i a0 d0 hi;have hM:∀b,((G.M0 b\/A b)/\b≠a0)->(G.M0 b\/A b)\/H1 b=none:=λb h=>.inl h.1;refine⟨λb=>(G.M0 b\/A b)/\b≠a0,[d0,z],λr=>r.im=true/\R (.d r) δ1,λb h=>q.mem b h.1,Reps.cons (oo.rep (λz=>z.2 rfl) λb z=>z.1) (Reps.one (EH.more hM _ _ (q.pnd (z,v) (by simp)))),hf,λr ⟨im,hr⟩ u H' sm rp=>?_⟩;exact k r δ1 hr u H' ⟨A,((q.same sm).sub (P':=P) λp hp=>by simp[hp]).push (EH.im _ _ im rp)⟩
end DL
namespace DL
open PySem PySem.Spec PyProof.Rows L2
section
variable {X:Cx} {pos:Pos} {a b e:Expr} {ta tb:E1}
def D4:EV X (binaryOp .LShift) λx y=>aS X.K (fI CPow λi j=>.int (i*2 ^ j.toNat)) [x,y]:=opI Cu (λ_ _=>rfl) λ_ _ h=>h
end
section
variable {K:PySem.W.Frag} {G:Gf} {A A':Addr→Prop} {δ δ':List Sl} {P P':List (D×V)} {σ σ':L2.St} {H H':Hp} {p:Addr}
theorem Sx.inner(s:Sx K G (λb=>A b\/b=p) δ P σ H)(hp:¬ A p)(ho:∀(i:Nat) a d,δ[i]?=some (.own a d)->A a):Sx K ⟨λb=>G.M0 b\/b=p,H,A⟩ A δ P σ H:=by
 have hM:∀b,((G.M0 b\/b=p)\/A b)->(G.M0 b\/(A b\/b=p))\/H b=none:=λb h=>.inl (by
  rcases h with(h | h) | h
  ·exact .inl h
  ·exact .inr (.inr h)
  ·exact .inr (.inl h))
 refine⟨λb o h _=>h,λb h=>h,λb h=>?_,λb h=>⟨s.thr b (.inl h),?_⟩,λb h=>.inr h,λb h=>s.thr b (.inl h),s.len,λi d e=>let ⟨v,q,r⟩:=s.dat i d e;⟨v,q,EH.more hM _ _ r⟩,λi a d e=>let ⟨q,_,o⟩:=s.own i a d e;⟨q,ho i a d e,bv.more hM o⟩,s.inj,λq hq=>EH.more hM _ _ (s.pnd q hq)⟩
 ·rcases h with h | h
  ·exact s.stay b (s.m0 b h)
  ·exact s.thr b (.inr h)
 ·rintro(z | z)
  ·rcases s.new b (.inl h) with q | q
   ·exact s.m0 b z q
   ·exact(s.pm b q).2 z
  ·exact hp (by rw[<- z];exact h)
theorem Sx.outer(s:Sx K G (λb=>A b\/b=p) δ P σ H)(h0:G.H0 p=none)(t:Sx K ⟨λb=>G.M0 b\/b=p,H,A⟩ A' δ' P' σ' H'):Sx K G (λb=>A' b\/b=p) δ' P' σ' H':=by
 have hM:∀b,(G.M0 b\/(A' b\/b=p))->((G.M0 b\/b=p)\/A' b)\/H' b=none:=λb h=>.inl (by
  rcases h with h | h | h
  ·exact .inl (.inl h)
  ·exact .inr h
  ·exact .inl (.inr h))
 refine⟨λb o h hn=>t.old b o (s.old b o h hn) (λz=>?_),λb h=>t.stay b (s.stay b h),s.m0,s.pm,λb h=>?_,λb h=>?_,t.len,λi d e=>let ⟨v,q,r⟩:=t.dat i d e;⟨v,q,EH.more hM _ _ r⟩,λi a d e=>let ⟨q,r,o⟩:=t.own i a d e;⟨q,.inl r,bv.more hM o⟩,t.inj,λq hq=>EH.more hM _ _ (t.pnd q hq)⟩
 ·rcases s.new b (.inl z) with q | q
  ·rw[q] at h;cases h
  ·exact hn q
 ·rcases h with h | h
  ·rcases t.new b h with q | q
   ·refine .inl ?_
    cases e:G.H0 b with
    | none=>rfl
    | some o=>exact absurd q (s.stay b (by rw[e];exact λz=>nomatch z))
   ·exact s.new b (.inl q)
  ·exact .inl (by rw[h];exact h0)
 ·rcases h with h | h
  ·exact t.thr b h
  ·exact t.stay b (s.thr b (.inr h))
theorem Sx.pokeD{kvs kvs':List (E3×V)}(s:Sx K G A δ P σ H)(hp:A p)(hv:H p=some (.dK kvs))(hno:∀(i:Nat) d,δ[i]?≠some (.own p d)):Sx K G A δ P σ (EE H p (.dK kvs')):=by
 have hk:∀b o,b≠p->H b=some o->EE H p (.dK kvs') b=some o:=λb o n e=>by rw[aO n];exact e
 have kp:Kp (λb=>G.M0 b\/A b) H (EE H p (.dK kvs')):=⟨λb o e n=>hk b o (λz=>n (.inr (by rw[z];exact hp))) e,λb xs e=>hk b _ (λz=>by rw[z,hv] at e;cases e) e,λb o u e=>hk b _ (λz=>by rw[z,hv] at e;cases e) e⟩
 have stay:∀b,H b≠none->EE H p (.dK kvs') b≠none:=λb e=>by
  by_cases z:b=p
  ·rw[z,aI];exact λz=>nomatch z
  ·rw[aO z];exact e
 have na:∀b o,G.H0 b=some o->¬ G.Pm b->b≠p:=λb o e n z=>(s.new p hp).elim (λq=>by rw[z] at e;rw[e] at q;cases q) λq=>n (by rw[z];exact q)
 refine⟨λb o e n=>hk b o (na b o e n) (s.old b o e n),λb e=>stay b (s.stay b e),s.m0,s.pm,s.new,λb e=>stay b (s.thr b e),s.len,λi d e=>let ⟨v,q,r⟩:=s.dat i d e;⟨v,q,EH.kp kp _ _ r⟩,λi a d e=>?_,s.inj,λq hq=>EH.kp kp _ _ (s.pnd q hq)⟩;obtain⟨q,r,o⟩:=s.own i a d e;have ne:a≠p:=λz=>by subst z;exact hno i d e
 exact⟨q,r,bv.kp kp (by rw[aO ne]) o⟩
end
section
variable {X:Cx} {pos:Pos} {a b e:Expr} {ta tb:E1}
def xj(i:Nat)(k l:Str)(ta tb:E1)(R:bh)(δ:En):Prop:=ta δ (wd λx δ1=>tb δ1 (wd λy δ2=>k≠l/\∀a,lJ δ2 i (.own a (.dct [k,l] [x,y])) R.nx))
theorem wg(i:Nat){x k l:Str}{j1 j2}{p p1 p2 pos':Pos}(hN:X.N.Nodup)(ha:DE X a ta)(hb:DE X b tb)(hi:X.N[i]?=some x:=by rfl)(hx:Loc X.env.scope x:=by walk_at "v2")
  (hs:swapsWith (.Dict [some (.Constant (.str k) j1 p1),some (.Constant (.str l) j2 p2)] [a,b] p) (some (.Name x pos')) pos.line X.env=pure false:=by rfl)
  (hf:X.fn x=true\/X.env.scope.names.lookup x=some .local :=by walk_at "v1") :
  DS X (.Assign [.Name x pos'] (.Dict [some (.Constant (.str k) j1 p1),some (.Constant (.str l) j2 p2)] [a,b] p) pos) (xj i k l ta tb) :=
 PS.imp (mC hN hi hx (Af (oJ uB ha (oJ uB hb yu)) rfl rfl (λz=>nomatch z) (by show 2<=15;decide)) hs hf) λE σ H ⟨G,δ,P,R,⟨A,s⟩,h,kk,_⟩=>λp hp=>by
  have nA:¬ A p:=λz=>s.thr p z hp
  have h0:G.H0 p=none:=by
   cases q:G.H0 p with
   | none=>rfl
   | some o=>exact absurd hp (s.stay p (by rw[q];exact λz=>nomatch z))
  have hg:EE H p (.dK []) p=some (.dK []):=aI
  have s1:=s.addA hp (aJ hp (.dK [])) (by rw[hg];exact λz=>nomatch z)
  have sin:=s1.inner nA (λi a d e=>(s.own i a d e).2.1)
  refine⟨_,δ,P,_,⟨A,sin⟩,h,λxv δ1 r1 v H2 s2=>?_,λi δ' r=>r.elim⟩;refine⟨_,δ1,(xv,v)::P,_,s2,r1,λyv δ2 r2 u H3 s3=>?_,λi δ' r=>r.elim⟩;obtain⟨ne,r2⟩:=r2;obtain⟨A3,x3⟩:=s3;have e3:H3 p=some (.dK []):=x3.old p _ hg nA;have n3:¬ A3 p:=λz=>by
   rcases x3.new p z with q | q
   ·have q:EE H p (.dK []) p=none:=q
    rw[hg] at q;cases q
   ·exact nA q
  have hno:∀(j:Nat) d,δ2[j]?≠some (.own p d):=λj d e=>n3 (x3.own j p d e).2.1
  have x4:=s1.outer h0 x3
  have x5:=x4.pokeD (kvs':=aZ [k,l] [v,u]) (.inr rfl) e3 hno
  refine⟨e3,aZ [k,l] [v,u],rfl,by show 2<=15;decide,?_⟩;have em:ka [] (aZ [k,l] [v,u])=aZ [k,l] [v,u]:=by
   show j7 (j7 [] (Sum.inr k) v) (Sum.inr l) u=[(Sum.inr k,v),(Sum.inr l,u)]
   unfold j7;simp[ne]
  rw[em];refine kk _ (r2 p) _ _ ⟨_,x5.slot (P':=P) (.inr rfl) ⟨[v,u],aI,rfl,?_⟩ hno λq hq=>E9 _ (E9 _ hq)⟩
  exact x5.reps [xv,yv] [v,u] rfl (λq hq=>by
   rcases Fj.mp hq with rfl | hq
   ·exact E9 _ (Fe ..)
   ·rw[Fn.mp hq];exact Fe ..)
end
end DL
namespace DL
open PySem PySem.Spec PyProof.Rows L2
variable {K:PySem.W.Frag} {x x1 x2:Str} {st:Stmt} {h:Heap} {mg:Str→Option Value}
theorem FdK.fd{ps:List Str}(q:FdK K x st)(X:K.In h)(G:h.Ns mainGlobals mg)
  (b:∀(kV doc pm:Value) (an:Option Addr) (cdv ct:Value) (us:List Value),us.length=ps.length->bindArgs (PySem.W.fnOf x x (df st) (bN st) (ap st) .none kV doc pm an cdv ct) ⟨us,[]⟩=pure (ps.zip us)):Fd K mg x st ps:=by
 obtain⟨f,oc,od,an,sl,kV,dc,pm,cd,ct,a,l,c,k⟩:=q.ex;have F:=wE (st:=st) l c k;exact⟨_,_,F,F.binds (ps:=ps) b,Hk X G a⟩
theorem iq{α:Type}{l:List α}{n:Nat}(h:l.length=n+1):∃a r,l=a::r/\r.length=n:=by
 cases l with
 | nil=>cases h
 | cons a r=>exact⟨a,r,rfl,G2 h⟩
theorem len1{α:Type}{l:List α}(h:l.length=1):∃a,l=[a]:=by
 obtain⟨a,r,rfl,h1⟩:=iq h;rw[Gq h1];exact⟨a,rfl⟩
theorem len2{α:Type}{l:List α}(h:l.length=2):∃a b,l=[a,b]:=by
 obtain⟨a,r,rfl,h1⟩:=iq h;obtain⟨b,rfl⟩:=len1 h1;exact⟨a,b,rfl⟩
theorem len3{α:Type}{l:List α}(h:l.length=3):∃a b c,l=[a,b,c]:=by
 obtain⟨a,r,rfl,h1⟩:=iq h;obtain⟨b,c,rfl⟩:=len2 h1;exact⟨a,b,c,rfl⟩
theorem len4{α:Type}{l:List α}(h:l.length=4):∃a b c d,l=[a,b,c,d]:=by
 obtain⟨a,r,rfl,h1⟩:=iq h;obtain⟨b,c,d,rfl⟩:=len3 h1;exact⟨a,b,c,d,rfl⟩
def FdK.fd1(q:FdK K x st)(X:K.In h)(G:h.Ns mainGlobals mg)
  (b:∀(kV doc pm:Value) (an:Option Addr) (cdv ct u1:Value),bindArgs (PySem.W.fnOf x x (df st) (bN st) (ap st) .none kV doc pm an cdv ct) ⟨[u1],[]⟩=pure [(x1,u1)]):Fd K mg x st [x1] :=
 q.fd X G λkV doc pm an cdv ct us hl=>by
  obtain⟨u1,rfl⟩:=len1 hl;exact b kV doc pm an cdv ct u1
def FdK.fd2(q:FdK K x st)(X:K.In h)(G:h.Ns mainGlobals mg)
  (b:∀(kV doc pm:Value) (an:Option Addr) (cdv ct u1 u2:Value),bindArgs (PySem.W.fnOf x x (df st) (bN st) (ap st) .none kV doc pm an cdv ct) ⟨[u1,u2],[]⟩=pure [(x1,u1),(x2,u2)]):Fd K mg x st [x1,x2] :=
 q.fd X G λkV doc pm an cdv ct us hl=>by
  obtain⟨u1,u2,rfl⟩:=len2 hl;exact b kV doc pm an cdv ct u1 u2
def FdK.fd3{x3:Str}(q:FdK K x st)(X:K.In h)(G:h.Ns mainGlobals mg)
  (b:∀(kV doc pm:Value) (an:Option Addr) (cdv ct u1 u2 u3:Value),bindArgs (PySem.W.fnOf x x (df st) (bN st) (ap st) .none kV doc pm an cdv ct) ⟨[u1,u2,u3],[]⟩=pure [(x1,u1),(x2,u2),(x3,u3)]):Fd K mg x st [x1,x2,x3] :=
 q.fd X G λkV doc pm an cdv ct us hl=>by
  obtain⟨u1,u2,u3,rfl⟩:=len3 hl;exact b kV doc pm an cdv ct u1 u2 u3
def FdK.fd4{x3 x4:Str}(q:FdK K x st)(X:K.In h)(G:h.Ns mainGlobals mg)
  (b:∀(kV doc pm:Value) (an:Option Addr) (cdv ct u1 u2 u3 u4:Value),bindArgs (PySem.W.fnOf x x (df st) (bN st) (ap st) .none kV doc pm an cdv ct) ⟨[u1,u2,u3,u4],[]⟩=pure [(x1,u1),(x2,u2),(x3,u3),(x4,u4)]):Fd K mg x st [x1,x2,x3,x4] :=
 q.fd X G λkV doc pm an cdv ct us hl=>by
  obtain⟨u1,u2,u3,u4,rfl⟩:=len4 hl;exact b kV doc pm an cdv ct u1 u2 u3 u4
theorem rm{j k:Nat}{A:Around}(h:fS k A)(e:j<=k:=by decide):fS j A:=h.mono e
end DL
namespace DL
open PySem PySem.Spec PyProof.Rows L2
end DL
namespace DL
open PySem PySem.Spec PyProof.Rows L2
section
variable {X:Cx}
def fAny:List D->(D->Prop)->Prop
 | [.lst ds],R=>∃bs:List Bool,ds=bs.map D.bl/\R (.bl (bs.any id))
 | _,_=>False
theorem Ay:∀ {d0:List D} {R:D->Prop},fAny d0 R->∃(ds:List D),d0=[.lst ds]/\∃bs:List Bool,ds=bs.map D.bl/\R (.bl (bs.any id)):=by walk_at "or"
def v9{ds:List D}{R:D->Prop}:fAny [.lst ds] R=(∃bs:List Bool,ds=bs.map D.bl/\R (.bl (bs.any id))):=rfl
theorem ph{K:PySem.W.Frag}{M:Addr->Prop}{H:Hp}:∀ {ns:List Bool} {vs:List V},Reps K M H (ns.map D.bl) vs->vs=ns.map V.bl
 | [],_,h=>h
 | n::ns,_,h=>by
  obtain⟨v,r,rfl,q,t⟩:=h;have q:v=.bl n:=q;rw[q,ph t];rfl
theorem wL:∀ {ns:List Bool} {us:List Value},bH (ns.map V.bl) us->us.length=ns.length/\∀(i:Nat) (v:Value),us[i]?=some v->∃b,ns[i]?=some b/\v=.bool b
 | [],_,r=>by rw[G1] at r;cases r;exact⟨rfl,λi v e=>by simp at e⟩
 | n::ns,_,r=>by
  rw[FJ] at r
  cases r with
  | @cons _ u _ us h t =>
   have e:u=Value.bool n:=h
   subst e;obtain⟨h1,h2⟩:=wL t;refine⟨by rw[Fl,Fl,h1],λi v e=>?_⟩
   cases i with
   | zero=>cases e;exact⟨n,rfl,rfl⟩
   | succ i=>exact h2 i v e
theorem C5(hc:X.calm=true):bY X (.builtin "any") (aS X.K fAny):=by
 intro pins s σ H xs us Q I rv h;obtain⟨M,ds,R,m,rs,h,k⟩:=h;replace h:=Ay h;obtain⟨_,rfl,h⟩:=h;obtain⟨bs,rfl,h⟩:=h;obtain⟨x,rfl,q⟩:=bm rs;unfold EH at q;obtain⟨a,vs,rfl,_,e,r⟩:=q;obtain⟨u,rfl,ru⟩:=fR rv
 cases ru
 cases ph r
 obtain⟨its,rv2,pl,_⟩:=I.list (EY.of e);obtain⟨hl,hg⟩:=wL rv2;have il:=pl.isList;have lt:a<s.heap.objs.size:=by obtain⟨_,e,_⟩:=il;exact FC e
 refine call_any_walk (G6 il ⟨_,[_,a],_,_,_,_,λi=>(bs[i]?).getD false,rfl,Walks.list (A:=Around.in1 _) (I.ok.hd hc) _ a (FV lt) its.toArray,⟨⟨_,Heap.get?_push_size _ rfl,rfl,rfl⟩,il.push _⟩,λi v s' Q' E' hP hQ=>?_,λh' tk hk=>?_⟩)
 ·obtain⟨b,e,rfl⟩:=hg i v (by simpa using hP);have hQ:Q' ((bs[i]?).getD false) s':=hQ;rw[e] at hQ;exact Gy hQ
 ·refine⟨.bl (bs.any id),H,I.kept (t':=tk) (LSm.kept_iter hk),?_,k _ h _ H (ci.refl H) (EH.sc rfl)⟩;show Value.bool _=Value.bool _;rw[FB,hl,LSm.range_any]
end
theorem Di:bootBuiltins "any"=some (.builtin "any"):=by decide +kernel
end DL
namespace DL
open PySem PySem.Spec PyProof.Rows L2
def fEqz:List D->(D->Prop)->Prop
 | [.tup xs,.tup []],R=>R (.bl (decide (xs.length=0)))
 | _,_=>False
theorem zw{d0:List D}{R:D->Prop}(h:fEqz d0 R):∃xs,d0=[.tup xs,.tup []]/\R (.bl (decide (xs.length=0))):=by
 rcases d0 with _ | ⟨a,_ | ⟨b,_ | ⟨c,l⟩⟩⟩
 ·exact False.elim h
 ·cases a<;>exact False.elim h
 ·cases a<;>first | exact False.elim h | (cases b<;>first | exact False.elim h | (rename_i xs ys;cases ys<;>first | exact False.elim h | exact⟨_,rfl,h⟩))
 ·cases a<;>first | exact False.elim h | (cases b<;>first | exact False.elim h | (rename_i xs ys;cases ys<;>exact False.elim h))
def Bg{xs:List D}{R:D->Prop}:fEqz [.tup xs,.tup []] R=R (.bl (decide (xs.length=0))):=rfl
section
variable {X:Cx}
theorem C0(hu:X.A.units+64<cLine):EV X (compareOp .Eq) λx y=>aS X.K fEqz [x,y]:=by
 intro pins s σ H x y v u Q I rx ry h;obtain⟨M,ds,R,m,rs,h,k⟩:=h;obtain⟨xs,rfl,h⟩:=zw h;obtain⟨h1,h2⟩:=bZ rs;unfold EH at h1 h2;obtain⟨a,vs,rfl,sq,rs1⟩:=h1;obtain⟨b,ws,rfl,sq',rs2⟩:=h2
 cases rx
 cases ry
 obtain⟨its,r1,t1,_⟩:=I.tuple sq;obtain⟨its',r2,t2,_⟩:=I.tuple sq';have l1:its.length=xs.length:=by rw[<- r1.length,<- Reps.length _ _ rs1]
 have l2:its'.length=0:=by rw[<- r2.length,<- Reps.length _ _ rs2];rfl
 refine SeqAt.eq_tupleAt (e:=λ_=>true) t1 t2 (by omega) (λn _ h2=>?_) ?_
 ·rw[FB,l2] at h2;omega
 have z:((List.range (min its.toArray.size its'.toArray.size)).all (λ_=>true)&&its.toArray.size==its'.toArray.size)=decide (xs.length=0):=by
  rw[FB,FB,l1,l2,Nat.min_zero];rfl
 rw[z];exact⟨.bl _,H,I,rfl,k _ h _ H (ci.refl H) (EH.sc rfl)⟩
end
end DL
namespace HT
open PySem PyProof.Rows
open PySem.SeqAt
open PySem.AutoSeq1 (wpAny_loadPart')
open PySem.MeetsSeq PySem.MeetsSeq2 PySem.MeetsSeq3
section
variable {prog:Program} {w:World} {A:Around} {E:Value→Shared→Prop} {s:Shared}
theorem getItem_tuple_all{t sl:Addr}{items:Array Value}{vl vu:Value}{lo hi:Option Int}{Q:Value->Shared->Prop}(ht:IsTup s.heap t items)(hs:s.heap.IsSliceOf sl vl vu .none)(pl:IsPart vl lo)(pu:IsPart vu hi)
  (hw:sIx items.size 0 lo=0/\sIx items.size items.size hi=items.size) (h:Q (.ref t) s):wpAny (model prog w) A (getItem (.ref t) (.ref sl)) Q E s:=by
 have hj:sIx items.size items.size hi<=items.size:=wR _ _ (Fh _) hi
 obtain⟨os,hos,hcs,hds⟩:=id hs;have hTs:s.TypeIs (.ref sl) "slice":=⟨os,hos,hcs⟩;unfold getItem
 try with_reducible refine GI ?_
 first | refine Fc (Ft ?_) | skip
 refine Fc (wpAny_sequenceKey ht.typeIs (by decide) ?_)
 refine Fc (wpAny_callSpecial?_slot (name:=Str.ofString "__getitem__") ht.typeIs F3
  (GH F3 ht.typeIs entry_tuple_getitem ?_ (args_tuple_getitem _ _)))
 show wpAny _ _ (Builtin.Tuple.tupleItemsOf (.ref t) >>= _) _ _ s
 refine Fc (tupleItemsOf_ ht ?_);refine Fc (wpAny_typeOf hTs ?_);rw[Fs (by decide)];refine Fc (dG hs pl pu ?_);have hyes:(((sIx items.size 0 lo:Nat):Int)==0&&(1:Int)==1&&(sIx items.size items.size hi-sIx items.size 0 lo)==items.size)=true:=by
  rw[hw.1,hw.2];simp
 show wpAny _ _ (if (((sIx items.size 0 lo:Nat):Int)==0&&(1:Int)==1&&(sIx items.size items.size hi-sIx items.size 0 lo)==items.size)=true then _ else _) _ _ s
 rw[Fs hyes];refine Fc (Fc (wpAny_typeOf ht.typeIs (Ft ?_)));rw[Fs (by decide)];refine Fc (wpAny_rule ?_);exact Ft ⟨_,rfl,Ft h⟩
end
end HT
namespace DL
open PySem PySem.Spec PyProof.Rows L2
section
variable {X:Cx} {pos:Pos}
theorem yI:SlR X (λx lo hi H Q=>∃a xs,x=.ref a/\E5 X.K H a xs/\(HT.sIx xs.length 0 lo=0/\HT.sIx xs.length xs.length hi=xs.length)/\Q x H):=by
 intro pins s σ H x v vl vu lo hi sl Q I rx hs pl pu h;obtain⟨a,xs,rfl,hx,hw,q⟩:=h
 cases rx
 obtain⟨its,r,ht,hz⟩:=I.tuple hx;have hlen:its.toArray.size=xs.length:=by rw[FB];exact r.length.symm
 refine⟨"tuple",_,F3.lookup,ht.typeIs,HT.getItem_tuple_all ht hs pl pu (by rw[hlen];exact hw) ⟨.ref a,H,I,rfl,q⟩⟩
def fSlT:D->Option Int->Option Int->(D->Prop)->Prop
 | .tup xs,lo,hi,R=>R (.tup (cut xs lo hi))
 | _,_,_,_=>False
def Bq{xs:List D}{l u:Option Int}{R:D->Prop}:fSlT (.tup xs) l u R=R (.tup (cut xs l u)):=rfl
def dSlT(te:E1)(tl th:TDO)(δ:En)(R:W->En->Prop):Prop:=te δ (wd λx δ1=>tl δ1 λl δ2=>th δ2 λu δ3=>fSlT x l u λd=>R (.d d) δ3)
theorem yP{α:Type}{xs:List α}{l u:Option Int}(h:HT.sIx xs.length 0 l=0/\HT.sIx xs.length xs.length u=xs.length):cut xs l u=xs:=by
 unfold cut;rw[h.1,h.2,List.drop_zero,Nat.sub_zero,Fw]
def i6{e:Expr}{te:E1}{lo hi:Option Expr}{tl th:TDO}{p2 pos:Pos}(he:DE X e te)(hl:DO X lo tl)(hu:DO X hi th):DE X (.Subscript e (.Slice lo hi none p2) pos) (dSlT te tl th) :=
 PE.imp (qf (yI.or xD) he hl hu) λσ H Q ⟨G,δ,P,R,s,h,k,_⟩=>up.mk s h λx δ1 h1 v H1 s1=>⟨G,δ1,(x,v)::P,_,s1,h1,λl δ2 h2 H2 s2=>⟨G,δ2,(x,v)::P,_,s2,h2,λu δ3 h3 H3 s3=>by
  obtain⟨A,q⟩:=id s3;have r:=q.pnd (x,v) (by simp)
  cases x with
  | tup xs =>
   have h3:R (.d (.tup (cut xs l u))) δ3:=h3
   have rr:=r
   simp only[EH] at r;obtain⟨a,vs,e,sq,r⟩:=r
   by_cases w:HT.sIx xs.length 0 l=0/\HT.sIx xs.length xs.length u=xs.length
   ·rw[yP w] at h3;rw[Reps.length _ _ r] at w;exact .inl ⟨a,vs,e,sq,w,k _ δ3 h3 v _ s3⟩
   ·refine .inr ⟨a,vs,e,sq,by rw[<- Reps.length _ _ r];exact w,λp hp=>?_⟩;have x2:=(q.same (aJ hp (.tup (rC vs l u))));refine k _ δ3 h3 (.ref p) _ ⟨A,(x2.sub (P':=P) λp hp=>E9 _ hp).push ?_⟩;unfold EH;exact⟨p,_,rfl,E5.of aI,Reps.kp (Kp.of_same (aJ hp _)) _ _ (Reps.cut l u r)⟩
  | _=>exact(show False from h3).elim⟩⟩
end
end DL
namespace DL
open PySem PySem.Spec PyProof.Rows L2
section
variable {X:Cx} {pos:Pos}
end
end DL
namespace DL
open PySem PySem.Spec PyProof.Rows L2
section
variable {X:Cx} {a:Expr} {ta:E1} {apos cpos p1:Pos}
end
end DL
namespace Mf
abbrev V:=Nat->Rat
def ES:Nat->V->V->Rat
 | 0,_,_=>0
 | m+1,c,w=>ES m c w+c m*w m
theorem dE(c u v:V)(a b:Rat):∀m,ES m c (λi=>a*u i+b*v i)=a*ES m c u+b*ES m c v
 | 0=>by show (0:Rat)=a*0+b*0;grind
 | m+1=>by show ES m c _+_=a*(ES m c u+_)+b*(ES m c v+_);rw[dE c u v a b m];grind
theorem o7(e c w:V)(a b:Rat):∀m,ES m (λi=>a*e i+b*c i) w=a*ES m e w+b*ES m c w
 | 0=>by show (0:Rat)=a*0+b*0;grind
 | m+1=>by show ES m _ w+_=a*(ES m e w+_)+b*(ES m c w+_);rw[o7 e c w a b m];grind
theorem jB{c w w':V}:∀ {m},(∀i,i<m->w i=w' i)->ES m c w=ES m c w'
 | 0,_=>rfl
 | m+1,h=>by show ES m c w+_=ES m c w'+_;rw[jB λi hi=>h i (by omega),h m (by omega)]
def sz(m:Nat)(w:V):Nat:=((List.range m).filter λi=>decide (w i≠0)).length
theorem eU(m:Nat)(w:V):sz (m+1) w=sz m w+if w m=0 then 0 else 1:=by
 unfold sz;rw[List.range_succ,List.filter_append,Fi]
 by_cases h:w m=0<;>simp[h]
theorem vA{w w':V}:∀(m:Nat),(∀i,i<m->w' i≠0->w i≠0)->sz m w'<=sz m w
 | 0,_=>Fh _
 | m+1,h=>by
  rw[eU,eU];have:=vA m λi hi=>h i (by omega);have:=h m (by omega)
  grind
theorem zq{w w':V}{q:Nat}:∀(m:Nat),(∀i,i<m->w' i≠0->w i≠0)->q<m->w q≠0->w' q=0->sz m w'<sz m w
 | 0,_,hq,_,_=>by omega
 | m+1,h,hq,h1,h2=>by
  rw[eU,eU];have h3:=vA m λi hi=>h i (by omega);have h4:=h m (by omega)
  by_cases e:q=m
  ·subst e;grind
  ·have:=zq m (λi hi=>h i (by omega)) (by omega) h1 h2
   grind
variable {m:Nat} {st:Nat→Bool}
def sat(m:Nat)(st:Nat->Bool)(e w:V):Prop:=0<ES m e w\/(ES m e w=0/\∀i,i<m->0<w i->st i=false)
theorem ko{e u v:V}{a b:Rat}(hu:sat m st e u)(hv:sat m st e v)(ha:0<=a)(hb:0<=b):sat m st e (λi=>a*u i+b*v i):=by
 unfold sat;rw[dE];have hu0:0<=ES m e u:=by rcases hu with h | h<;>grind
 have hv0:0<=ES m e v:=by rcases hv with h | h<;>grind
 have h1:=FU ha hu0
 have h2:=FU hb hv0
 by_cases z:0<a*ES m e u+b*ES m e v
 ·exact .inl z
 ·refine .inr ⟨by grind,λi hi hw=>?_⟩;have e1:a*ES m e u=0:=by grind
  have e2:b*ES m e v=0:=by grind
  have pos:0<a*u i\/0<b*v i:=by grind
  rcases pos with p | p
  ·have ha':0<a:=by
    refine Ff λz=>?_;have:a=0:=by grind
    rw[this] at p;grind
   have hu':0<u i:=by
    refine Ff λz=>?_;have:=FU ha (b:=- u i) (by grind)
    grind
   rcases hu with h | h
   ·have:=Gk ha' h;grind
   ·exact h.2 i hi hu'
  ·have hb':0<b:=by
    refine Ff λz=>?_;have:b=0:=by grind
    rw[this] at p;grind
   have hv':0<v i:=by
    refine Ff λz=>?_;have:=FU hb (b:=- v i) (by grind)
    grind
   rcases hv with h | h
   ·have:=Gk hb' h;grind
   ·exact h.2 i hi hv'
theorem dS{e w w':V}(h:∀i,i<m->w i=w' i)(s:sat m st e w):sat m st e w':=by
 unfold sat at s ⊢;rw[<- jB h];exact s.imp id λ⟨h1,h2⟩=>⟨h1,λi hi hp=>h2 i hi (by rw[h i hi];exact hp)⟩
theorem nW:∀(cs:List V) (J:List Nat),J.Nodup->cs.length<J.length->∃d:V,(∀i,d i≠0->i∈J)/\(∃i,d i≠0)/\∀c∈cs,ES m c d=0
 | [],J,nd,h=>by
  cases J with
  | nil=>simp at h
  | cons j J=>exact⟨λi=>if i=j then 1 else 0,λi hi=>by by_cases e:i=j<;>simp_all,⟨j,by simp⟩,λc hc=>nomatch hc⟩
 | c::cs,J,nd,h=>by
  cases J with
  | nil=>simp at h
  | cons j J =>
   have h:cs.length+1<J.length+1:=h
   obtain⟨nj,ndJ⟩:=F9.mp nd;obtain⟨d1,a1,⟨i,hi⟩,b1⟩:=nW cs J ndJ (by omega);have him:=a1 i hi;obtain⟨d2,a2,⟨k,hk⟩,b2⟩:=nW cs ((j::J).erase i) (nd.erase i) (by rw[List.length_erase_of_mem (E9 _ him)];simpa using by omega);have hd2i:d2 i=0:=Ff λz=>((nd.mem_erase_iff).mp (a2 i z)).1 rfl
   by_cases e:ES m c d2=0
   ·refine⟨d2,λi hi=>List.mem_of_mem_erase (a2 i hi),⟨k,hk⟩,λc' hc'=>?_⟩
    rcases Fj.mp hc' with rfl | hc'
    ·exact e
    ·exact b2 c' hc'
   ·refine⟨λi=>ES m c d2*d1 i+(- ES m c d1)*d2 i,λx hx=>?_,⟨i,?_⟩,λc' hc'=>?_⟩
    ·by_cases z1:d1 x=0
     ·by_cases z2:d2 x=0
      ·refine absurd ?_ hx;show _*d1 x+_*d2 x=0;rw[z1,z2];grind
      ·exact List.mem_of_mem_erase (a2 x z2)
     ·exact E9 _ (a1 x z1)
    ·show _*d1 i+_*d2 i≠0
     rw[hd2i];intro z;have:ES m c d2*d1 i=0:=by grind
     rcases Hl.mp this with q | q
     ·exact e q
     ·exact hi q
    ·rw[dE]
     rcases Fj.mp hc' with rfl | hc'
     ·grind
     ·rw[b1 c' hc',b2 c' hc'];grind
theorem yA{w d:V}(hw:∀i,0<=w i)(hd:∀i,d i≠0->0<w i):∀(J:List Nat),(∃i∈J,0<d i)->∃t,0<t/\(∀i∈J,0<=w i-t*d i)/\∃q∈J,0<d q/\w q-t*d q=0
 | [],⟨i,hi,_⟩=>nomatch hi
 | j::J,h=>by
  have one:∀i,0<d i->0<w i / d i/\w i-(w i / d i)*d i=0:=λi hi=>by
   have hwi:=hd i (by grind)
   exact⟨by rw[Rat.lt_div_iff hi];grind,by grind⟩
  by_cases hJ:∃i∈J,0<d i
  ·obtain⟨t,t0,h1,q,hq,dq,eq⟩:=yA hw hd J hJ
   by_cases hj:0<=w j-t*d j
   ·refine⟨t,t0,λi hi=>?_,q,E9 _ hq,dq,eq⟩
    rcases Fj.mp hi with rfl | hi
    ·exact hj
    ·exact h1 i hi
   ·have dj:0<d j:=by
     refine Ff λz=>hj ?_;have:=FU (a:=t) (b:=- d j) (by grind) (by grind);have:=hw j
     grind
    obtain⟨o1,o2⟩:=one j dj;have lt:w j / d j<t:=by
     refine Ff λz=>hj ?_;have:=FU (a:=w j / d j-t) (b:=d j) (by grind) (by grind)
     grind
    refine⟨w j / d j,o1,λi hi=>?_,j,Fe ..,dj,o2⟩
    rcases Fj.mp hi with rfl | hi
    ·grind
    ·by_cases di:0<d i
     ·have:=h1 i hi
      have:=FU (a:=t-w j / d j) (b:=d i) (by grind) (by grind)
      grind
     ·have:=FU (a:=w j / d j) (b:=- d i) (by grind) (by grind)
      have:=hw i
      grind
  ·have dj:0<d j:=by
    obtain⟨i,hi,p⟩:=h
    rcases Fj.mp hi with rfl | hi
    ·exact p
    ·exact absurd ⟨i,hi,p⟩ hJ
   obtain⟨o1,o2⟩:=one j dj;refine⟨w j / d j,o1,λi hi=>?_,j,Fe ..,dj,o2⟩
   rcases Fj.mp hi with rfl | hi
   ·grind
   ·have di:¬ 0<d i:=λp=>hJ ⟨i,hi,p⟩
    have:=FU (a:=w j / d j) (b:=- d i) (by grind) (by grind)
    have:=hw i
    grind
structure Nn(m:Nat)(w:V):Prop where
 pos:∀i,0<=w i
 top:∀i,m<=i->w i=0
structure Sub(m:Nat)(cs:List V)(w u:V):Prop where
 nn:Nn m u
 an:∀c∈cs,ES m c u=0
 su:∀i,u i≠0->w i≠0
 lt:sz m u<sz m w
theorem AZ{cs:List V}{w d:V}{p:Nat}(hw:Nn m w)(ha:∀c∈cs,ES m c w=0)(hd:∀i,d i≠0->w i≠0)(da:∀c∈cs,ES m c d=0)(hp:w p≠0)(dp:d p=0)(h:∃i,0<d i) :
  ∃u v a b,0<=a/\0<=b/\(∀i,w i=a*u i+b*v i)/\Sub m cs w u/\Sub m cs w v:=by
 have lt:∀ {i},w i≠0->i<m:=λ{i} h=>Ff λz=>h (hw.top i (by omega))
 have pos:∀ {i},w i≠0->0<w i:=λ{i} h=>by have:=hw.pos i;grind
 have mk:∀ {x:V} {a b:Rat},0<=a->(∀i,x i=a*w i+b*d i)->(∀i,i<m->0<=x i)->(∃q,w q≠0/\x q=0)->Sub m cs w x:=λ{x a b} ha0 hx h0 ⟨q,hq,xq⟩=>by
  have su:∀i,x i≠0->w i≠0:=λi hi z=>hi (by
   have:d i=0:=Ff λy=>hd i y z
   rw[hx i,z,this];grind)
  refine⟨⟨λi=>?_,λi hi=>Ff λz=>su i z (hw.top i hi)⟩,λc hc=>?_,su,zq m (λi _=>su i) (lt hq) hq xq⟩
  ·by_cases hi:i<m
   ·exact h0 i hi
   ·have:x i=0:=Ff λz=>su i z (hw.top i (by omega))
    rw[this];exact Rat.le_refl
  ·have:x=λi=>a*w i+b*d i:=funext hx
   rw[this,dE,ha c hc,da c hc];grind
 have hr:∀ {i},d i≠0->i∈List.range m:=λ{i} h=>GL.mpr (lt (hd i h))
 obtain⟨i,hi⟩:=h;obtain⟨t,t0,h1,q,hq,dq,eq⟩:=yA hw.pos (λi h=>pos (hd i h)) (List.range m) ⟨i,hr (by grind),hi⟩;have s1:Sub m cs w (λi=>w i-t*d i):=mk (a:=1) (b:=-t) (by grind) (λi=>by grind) (λi hi=>h1 i (GL.mpr hi)) ⟨q,hd q (by grind),eq⟩
 by_cases hn:∃i,0 < - d i
 ·obtain⟨k,hk⟩:=hn;obtain⟨t',t0',h1',q',hq',dq',eq'⟩:=yA (d:=λi=>- d i) hw.pos (λi h=>pos (hd i (by grind))) (List.range m) ⟨k,hr (by grind),hk⟩;have s2:Sub m cs w (λi=>w i-t' * - d i):=mk (a:=1) (b:=t') (by grind) (λi=>by grind) (λi hi=>h1' i (GL.mpr hi)) ⟨q',hd q' (by grind),eq'⟩;have tt:t+t'≠0:=by grind
  have e1:0<t' / (t+t'):=by rw[Rat.lt_div_iff (by grind)];grind
  have e2:0<t / (t+t'):=by rw[Rat.lt_div_iff (by grind)];grind
  refine⟨_,_,t' / (t+t'),t / (t+t'),by grind,by grind,λi=>?_,s1,s2⟩;have e3:t' / (t+t')+t / (t+t')=1:=by grind
  have e4:t' / (t+t')*t=t / (t+t')*t':=by grind
  grind
 ·have s2:Sub m cs w d:=mk (a:=0) (b:=1) (by grind) (λi=>by grind) (λi hi=>Ff λz=>hn ⟨i,by grind⟩) ⟨p,hp,dp⟩
  exact⟨_,_,1,t,by grind,by grind,λi=>by grind,s1,s2⟩
theorem split{cs:List V}{w:V}(hw:Nn m w)(ha:∀c∈cs,ES m c w=0)(hz:cs.length+1<sz m w) :
  ∃u v a b,0<=a/\0<=b/\(∀i,w i=a*u i+b*v i)/\Sub m cs w u/\Sub m cs w v:=by
 have mem:∀ {i},i∈(List.range m).filter (λi=>decide (w i≠0))↔i<m/\w i≠0:=by simp
 have nd:((List.range m).filter (λi=>decide (w i≠0))).Nodup:=List.nodup_range.filter _
 unfold sz at hz;generalize hJ:(List.range m).filter (λi=>decide (w i≠0))=J at mem nd hz
 cases J with
 | nil=>simp at hz
 | cons p J =>
  obtain⟨np,ndJ⟩:=F9.mp nd;obtain⟨d,h1,⟨i,hi⟩,h3⟩:=nW (m:=m) cs J ndJ (by simpa using hz);have hd:∀i,d i≠0->w i≠0:=λi h=>(mem.mp (E9 _ (h1 i h))).2;have dp:d p=0:=Ff λz=>np (h1 p z);have hp:=(mem.mp (Fe ..:p∈p::J)).2
  by_cases s:0<d i
  ·exact AZ hw ha hd h3 hp dp ⟨i,s⟩
  ·have e:(λi=>- d i)=λi=>(-1)*d i+0*d i:=by funext i;grind
   exact AZ (d:=λi=>- d i) hw ha (λi h=>hd i (by grind)) (λc hc=>by rw[e,dE,h3 c hc];grind) hp (by rw[dp];grind) ⟨i,by grind⟩
def ux(v:Rat)(x:Rat×Rat×Bool):Prop:=0<x.1+v*x.2.1\/(x.1+v*x.2.1=0/\x.2.2=false)
theorem maxL:∀(l:List (Rat×Bool)),l≠[]->∃x∈l,∀y∈l,y.1<x.1\/(y.1=x.1/\(y.2=true->x.2=true))
 | [],h=>absurd rfl h
 | z::l,_=>by
  by_cases hl:l=[]
  ·subst hl;exact⟨z,Fe ..,λy hy=>by rcases Fj.mp hy with rfl | h;exact .inr ⟨rfl,id⟩;cases h⟩
  ·obtain⟨x,hx,h⟩:=maxL l hl
   by_cases c:z.1<x.1\/(z.1=x.1/\(z.2=true->x.2=true))
   ·refine⟨x,E9 _ hx,λy hy=>?_⟩
    rcases Fj.mp hy with rfl | hy
    ·exact c
    ·exact h y hy
   ·refine⟨z,Fe ..,λy hy=>?_⟩
    rcases Fj.mp hy with rfl | hy
    ·exact .inr ⟨rfl,id⟩
    ·have:=h y hy
     cases hz2:z.2<;>cases hx2:x.2<;>grind
theorem AO(L:List (Rat×Rat×Bool))(hz:∀x∈L,x.2.1=0->ux 0 x)
  (hp:∀l∈L,∀h∈L,0<l.2.1->h.2.1<0->0<l.1*(- h.2.1)+h.1*l.2.1\/(l.1*(- h.2.1)+h.1*l.2.1=0/\l.2.2=false/\h.2.2=false)):∃v,∀x∈L,ux v x:=by
 have low:(∀x∈L,¬ 0<x.2.1)\/∃l∈L,0<l.2.1/\∀x∈L,0<x.2.1->-x.1 / x.2.1 < -l.1 / l.2.1\/(-x.1 / x.2.1=-l.1 / l.2.1/\(x.2.2=true->l.2.2=true)):=by
  by_cases h:(L.filter λx=>decide (0<x.2.1)).map (λx=>(-x.1 / x.2.1,x.2.2))=[]
  ·refine .inl λx hx hp=>?_;rw[List.map_eq_nil_iff,List.filter_eq_nil_iff] at h;exact h x hx (by simpa using hp)
  ·obtain⟨y,hy,h⟩:=maxL _ h;obtain⟨l,hl,rfl⟩:=E8.mp hy;obtain⟨hl,hl2⟩:=Fq.mp hl;exact .inr ⟨l,hl,by simpa using hl2,λx hx hp=>h _ (E8.mpr ⟨x,Fq.mpr ⟨hx,by simpa using hp⟩,rfl⟩)⟩
 have high:(∀x∈L,¬ x.2.1<0)\/∃l∈L,l.2.1<0/\∀x∈L,x.2.1<0->x.1 / x.2.1<l.1 / l.2.1\/(x.1 / x.2.1=l.1 / l.2.1/\(x.2.2=true->l.2.2=true)):=by
  by_cases h:(L.filter λx=>decide (x.2.1<0)).map (λx=>(x.1 / x.2.1,x.2.2))=[]
  ·refine .inl λx hx hp=>?_;rw[List.map_eq_nil_iff,List.filter_eq_nil_iff] at h;exact h x hx (by simpa using hp)
  ·obtain⟨y,hy,h⟩:=maxL _ h;obtain⟨l,hl,rfl⟩:=E8.mp hy;obtain⟨hl,hl2⟩:=Fq.mp hl;exact .inr ⟨l,hl,by simpa using hl2,λx hx hp=>h _ (E8.mpr ⟨x,Fq.mpr ⟨hx,by simpa using hp⟩,rfl⟩)⟩
 have lo:∀(x:Rat×Rat×Bool) (v:Rat),0<x.2.1->(-x.1 / x.2.1<v\/(-x.1 / x.2.1=v/\x.2.2=false))->ux v x:=λx v hc h=>by
  have e:x.1=-((-x.1 / x.2.1)*x.2.1):=by grind
  rcases h with h | h
  ·have:=Gk (a:=v-(-x.1 / x.2.1)) (b:=x.2.1) (by grind) hc
   exact .inl (by grind)
  ·exact .inr ⟨by grind,h.2⟩
 have hi:∀(x:Rat×Rat×Bool) (v:Rat),x.2.1<0->(x.1 / x.2.1 < -v\/(x.1 / x.2.1=-v/\x.2.2=false))->ux v x:=λx v hc h=>by
  have e:x.1=(x.1 / x.2.1)*x.2.1:=by grind
  rcases h with h | h
  ·have:=Gk (a:=-v-(x.1 / x.2.1)) (b:=-x.2.1) (by grind) (by grind)
   exact .inl (by grind)
  ·exact .inr ⟨by grind,h.2⟩
 have ze:∀(x:Rat×Rat×Bool) (v:Rat),x∈L->x.2.1=0->ux v x:=λx v hx h=>by
  have:=hz x hx h
  unfold ux at this ⊢;rw[h] at this ⊢
  grind
 have done:∀v,(∀x∈L,0<x.2.1->ux v x)->(∀x∈L,x.2.1<0->ux v x)->∃v,∀x∈L,ux v x:=λv h1 h2=>⟨v,λx hx=>by
  rcases(by grind:x.2.1<0\/x.2.1=0\/0<x.2.1) with c | c | c
  ·exact h2 x hx c
  ·exact ze x v hx c
  ·exact h1 x hx c⟩
 rcases low with nl | ⟨l,hl,cl,tl⟩
 ·rcases high with nh | ⟨k,hk,ck,tk⟩
  ·exact done 0 (λx hx h=>absurd h (nl x hx)) λx hx h=>absurd h (nh x hx)
  ·exact done (-(k.1 / k.2.1)-1) (λx hx h=>absurd h (nl x hx)) λx hx h=>hi x _ h (.inl (by have:=tk x hx h;grind))
 ·rcases high with nh | ⟨k,hk,ck,tk⟩
  ·exact done (-l.1 / l.2.1+1) (λx hx h=>lo x _ h (.inl (by have:=tl x hx h;grind))) λx hx h=>absurd h (nh x hx)
  ·have pr:=hp l hl k hk cl ck
   have e1:l.1=-((-l.1 / l.2.1)*l.2.1):=by grind
   have e2:k.1=(k.1 / k.2.1)*k.2.1:=by grind
   generalize hA:-l.1 / l.2.1=A at *
   generalize hB:k.1 / k.2.1=B at *
   have pr2:A < -B\/(A=-B/\l.2.2=false/\k.2.2=false):=by
    have e3:l.1*(-k.2.1)+k.1*l.2.1=(-B-A)*(l.2.1*(-k.2.1)):=by grind
    have pp:=Gk (a:=l.2.1) (b:=-k.2.1) cl (by grind)
    rw[e3] at pr
    rcases pr with p | p
    ·refine .inl (Ff λz=>?_);have:=FU (a:=A+B) (b:=l.2.1 * -k.2.1) (by grind) (by grind)
     grind
    ·rcases Hl.mp p.1 with q | q
     ·exact .inr ⟨by grind,p.2⟩
     ·grind
   refine done ((A-B) / 2) (λx hx h=>lo x _ h ?_) λx hx h=>hi x _ h ?_
   ·have:=tl x hx h
    cases hx2:x.2.2<;>cases hl2:l.2.2<;>grind
   ·have:=tk x hx h
    cases hx2:x.2.2<;>cases hk2:k.2.2<;>grind
def Comp(m:Nat)(st:Nat->Bool)(cs:List V)(S:List V):Prop:=∀(I:Nat->Prop) (e:V),(∀s∈S,(∀i,s i≠0->I i)->sat m st e s)->∀w,Nn m w->(∀c∈cs,ES m c w=0)->(∀i,w i≠0->I i)->sat m st e w
def AC(j:Nat):V:=λi=>if i=j then 1 else 0
theorem pW{e w:V}(h:∀i,i<m->w i=0):sat m st e w:=by
 have:ES m e w=0:=by
  rw[jB (w':=λi=>0*w i+0*w i) λi hi=>by rw[h i hi];grind,dE];grind
 exact .inr ⟨this,λi hi hp=>by rw[h i hi] at hp;grind⟩
theorem sZ(S:List V)(h:∀j,j<m->AC j∈S):Comp m st [] S:=by
 intro I e hs w hw _ hI;have go:∀k,k<=m->sat m st e (λi=>if i<k then w i else 0):=λk=>by
  induction k with
  | zero=>intro _;exact pW λi _=>by simp
  | succ k ih =>
   intro hk;have h1:=ih (by omega)
   by_cases z:w k=0
   ·refine dS (λi hi=>?_) h1
    by_cases e1:i<k
    ·simp[e1,Nat.lt_succ_of_lt e1]
    ·by_cases e2:i=k
     ·subst e2;simp[z]
     ·simp[e1,show ¬ i<k+1 by omega]
   ·have h2:=hs (AC k) (h k (by omega)) λi hi=>by
     have:i=k:=Ff λy=>hi (by simp[AC,y])
     subst this;exact hI i z
    refine dS (λi hi=>?_) (ko h1 h2 (a:=1) (b:=w k) (by grind) (hw.pos k));unfold AC
    by_cases e1:i<k
    ·simp[e1,Nat.lt_succ_of_lt e1,show i≠k by omega];grind
    ·by_cases e2:i=k
     ·subst e2;simp;grind
     ·simp[e1,e2,show ¬ i<k+1 by omega];grind
 exact dS (λi hi=>by simp[hi]) (go m (Fh m))
structure Kept(m:Nat)(c:V)(most:Nat)(S S':List V):Prop where
 nn:∀s∈S,Nn m s
 zero:∀s∈S,ES m c s=0->s∈S'
 cross:∀l∈S,∀h∈S,0<ES m c l->ES m c h<0->sz m (λi=>(- ES m c h)*l i+ES m c l*h i)<=most->∃u∈S',∃g,0<g/\∀i,g*u i=(- ES m c h)*l i+ES m c l*h i
theorem sD(e c w:V)(v:Rat):sat m st (λi=>1*e i+v*c i) w↔(0<ES m e w+v*ES m c w\/(ES m e w+v*ES m c w=0/\∀i,i<m->0<w i->st i=false)):=by
 unfold sat;rw[o7];have:1*ES m e w+v*ES m c w=ES m e w+v*ES m c w:=by grind
 rw[this]
open Classical in
theorem sC{cs S S':List V}{c:V}(k:Comp m st cs S)(h:Kept m c (cs.length+2) S S'):Comp m st (c::cs) S':=by
 intro I e hs w hw ha hI;have main:∀n w,sz m w<=n->Nn m w->(∀c'∈c::cs,ES m c' w=0)->(∀i,w i≠0->I i)->sat m st e w:=λn=>by
  induction n with
  | zero =>
   intro w hz hw _ _;refine pW λi hi=>byContradiction λz=>?_;have:=zq (w:=w) (w':=λ_=>0) m (λi _ h=>absurd rfl h) hi z rfl;omega
  | succ n ih =>
   intro w hz hw ha hI
   by_cases big:(c::cs).length+1<sz m w
   ·obtain⟨u,v,a,b,a0,b0,hwe,su,sv⟩:=split hw ha big;have h1:=ih u (by have:=su.lt;omega) su.nn su.an λi hi=>hI i (su.su i hi);have h2:=ih v (by have:=sv.lt;omega) sv.nn sv.an λi hi=>hI i (sv.su i hi);exact dS (λi _=>(hwe i).symm) (ko h1 h2 a0 b0)
   ·have big:sz m w<=cs.length+2:=by simp at big;omega
    have pr:∀l∈S,∀k∈S,(∀i,l i≠0->w i≠0)->(∀i,k i≠0->w i≠0)->0<ES m c l->ES m c k<0->sat m st e (λi=>(- ES m c k)*l i+ES m c l*k i):=λl hl k hk sl sk cl ck=>by
     have su:∀i,(- ES m c k)*l i+ES m c l*k i≠0->w i≠0:=λi hi=>by
      by_cases z:l i=0
      ·by_cases y:k i=0
       ·refine absurd ?_ hi;rw[z,y];grind
       ·exact sk i y
      ·exact sl i z
     obtain⟨u,hu,g,g0,eu⟩:=h.cross l hl k hk cl ck (Fa (vA m λi _=>su i) big);have hu2:=hs u hu λi hi=>hI i (su i (by rw[<- eu i];intro z;rcases Hl.mp z with q | q;grind;exact hi q));exact dS (λi _=>by rw[<- eu i];grind) (ko hu2 hu2 (a:=g) (b:=0) (by grind) (by grind))
    have od:=AO ((S.filter λs=>decide (∀i,s i≠0->w i≠0)).map λs=>(ES m e s,ES m c s,!decide (∀i,i<m->0<s i->st i=false)))
    have od1:=od λx hx h0=>by
     obtain⟨s,hs',rfl⟩:=E8.mp hx;obtain⟨hs',hsu⟩:=Fq.mp hs';have:=hs s (h.zero s hs' h0) λi hi=>hI i ((by simpa using hsu:∀i,¬ s i=0->¬ w i=0) i hi);unfold sat at this;unfold ux;have e0:ES m e s+0*ES m c s=ES m e s:=by grind
     simp only[e0];simpa using this
    have od2:=od1 λl hl k hk cl ck=>by
     obtain⟨l,hl',rfl⟩:=E8.mp hl;obtain⟨k',hk',rfl⟩:=E8.mp hk;obtain⟨hl',hlu⟩:=Fq.mp hl';obtain⟨hk',hku⟩:=Fq.mp hk';have:=pr l hl' k' hk' (by simpa using hlu) (by simpa using hku) cl ck;unfold sat at this;rw[dE] at this;have e0:(- ES m c k')*ES m e l+ES m c l*ES m e k'=ES m e l*(- ES m c k')+ES m e k'*ES m c l:=by grind
     rw[e0] at this;refine this.imp id λ⟨h1,h2⟩=>⟨h1,?_,?_⟩
     ·simp only[Bool.not_eq_false',decide_eq_true_eq];intro i hi hp;refine h2 i hi ?_;have p1:=Gk (a:=- ES m c k') (b:=l i) (by grind) hp;have p2:=FU (a:=ES m c l) (b:=k' i) (by grind) ((h.nn k' hk').pos i)
      grind
     ·simp only[Bool.not_eq_false',decide_eq_true_eq];intro i hi hp;refine h2 i hi ?_;have p1:=Gk (a:=ES m c l) (b:=k' i) cl hp;have p2:=FU (a:=- ES m c k') (b:=l i) (by grind) ((h.nn l hl').pos i)
      grind
    obtain⟨v,hv⟩:=od2;have all:∀s∈S,(∀i,s i≠0->w i≠0)->sat m st (λi=>1*e i+v*c i) s:=λs hs' hsu=>by
     have:=hv _ (E8.mpr ⟨s,Fq.mpr ⟨hs',by simpa using hsu⟩,rfl⟩)
     rw[sD];unfold ux at this;simpa using this
    have:=k (λi=>w i≠0) _ all w hw (λc' hc'=>ha c' (E9 _ hc')) λi hi=>hi
    rw[sD,ha c (Fe ..)] at this;unfold sat;have e0:ES m e w+v*0=ES m e w:=by grind
    rw[e0] at this;exact this
 exact main _ w (Fh _) hw ha hI
end Mf
namespace Mf
open PySem L2 DL
variable {x:Str→Rat} {n:Str} {F:Str→Int} {nm:List Str} {rows:List Rw} {w:List Int}
def du(x:Str->Rat):List (Str×Int)->Rat
 | []=>0
 | t::r=>(t.2:Rat)*x t.1+du x r
def soR(x:Str->Rat)(r:Rw):Prop:=match r.1 with
 | .least=>(r.2.2:Rat)<=du x r.2.1
 | .more=>(r.2.2:Rat)<du x r.2.1
def uF(x:Str->Rat)(n:Str)(v:Rat):Str->Rat:=λk=>if k=n then v else x k
theorem p8{v:Rat}(h:x n=0):∀ts,du (uF x n v) ts=du x ts+v*(cf ts n:Int)
 | []=>by show (0:Rat)=0+v*((0:Int):Rat);rw[show ((0:Int):Rat)=0 from rfl];grind
 | t::r=>by
  show (t.2:Rat)*uF x n v t.1+du (uF x n v) r=(t.2:Rat)*x t.1+du x r+v*(((if t.1=n then t.2 else 0)+cf r n:Int):Rat)
  rw[p8 h r,Gn];unfold uF
  by_cases e:t.1=n
  ·rw[Fs e,Fs e,e,h];grind
  ·rw[Fp e,Fp e,show ((0:Int):Rat)=0 from rfl];grind
def mZ(x:Str->Rat)(F:Str->Int):List Str->Rat
 | []=>0
 | n::r=>(F n:Rat)*x n+mZ x F r
theorem km{G:Str->Int}:∀nm:List Str,mZ x (λn=>F n+G n) nm=mZ x F nm+mZ x G nm
 | []=>by show (0:Rat)=0+0;grind
 | n::r=>by show ((F n+G n:Int):Rat)*x n+_=(F n:Rat)*x n+_+((G n:Rat)*x n+_);rw[km r,Gn];grind
theorem pH{a:Int}:∀nm:List Str,mZ x (λn=>a*F n) nm=a*mZ x F nm
 | []=>by show (0:Rat)=a*0;grind
 | n::r=>by show ((a*F n:Int):Rat)*x n+_=a*((F n:Rat)*x n+_);rw[pH r,FH];grind
theorem d6:∀ {nm:List Str},(∀n∈nm,F n=0)->mZ x F nm=0
 | [],_=>rfl
 | n::r,h=>by show (F n:Rat)*x n+_=0;rw[d6 λk hk=>h k (E9 _ hk),h n (Fe ..),show ((0:Int):Rat)=0 from rfl];grind
theorem pZ{k:Str}{a:Int}:∀ {nm:List Str},nm.Nodup->k∈nm->mZ x (λn=>if k=n then a else 0) nm=a*x k
 | n::r,nd,h=>by
  obtain⟨h1,h2⟩:=F9.mp nd;show ((if k=n then a else 0:Int):Rat)*x n+mZ x _ r=_
  by_cases e:k=n
  ·subst e;rw[Fs rfl,d6 (F:=λn=>if k=n then a else 0) λm hm=>Fp λ(z:k=m)=>h1 (z ▸ hm)];grind
  ·rw[Fp e,pZ h2 ((Fj.mp h).resolve_left e),show ((0:Int):Rat)=0 from rfl];grind
theorem qd(nd:nm.Nodup):∀ {ts:List (Str×Int)},(∀t∈ts,t.1∈nm)->du x ts=mZ x (cf ts) nm
 | [],_=>(d6 λ_ _=>rfl).symm
 | t::r,h=>by
  show _+du x r=mZ x (λn=>(if t.1=n then t.2 else 0)+cf r n) nm
  rw[km,pZ nd (h t (Fe ..)),qd nd λu hu=>h u (E9 _ hu)]
theorem mz:∀ {ts:List (Str×Int)} {t:Str×Int},(ts.map (·.1)).Nodup->t∈ts->cf ts t.1=t.2
 | u::r,t,nd,h=>by
  obtain⟨h1,h2⟩:=F9.mp nd;show (if u.1=t.1 then u.2 else 0)+cf r t.1=t.2
  rcases Fj.mp h with rfl | h
  ·rw[Fs rfl,iW h1,Gw]
  ·rw[Fp λe=>h1 (E8.mpr ⟨t,h,e.symm⟩),mz h2 h,G3]
theorem eX.cf{us:List (Str×Int)}(h:eX F us)(n:Str):cf us n=F n:=by
 by_cases e:n∈us.map (·.1)
 ·obtain⟨t,ht,rfl⟩:=E8.mp e;rw[mz h.nd ht,(h.val t ht).1]
 ·rw[iW e];exact(Ff λz=>e (h.all n λy=>z y.symm))
def evl(x:Str->Rat):List (Rw×Int)->Rat
 | []=>0
 | p::r=>(p.2:Rat)*(du x p.1.2.1-(p.1.2.2:Int))+evl x r
theorem pE(nd:nm.Nodup):∀ {l:List (Rw×Int)},(∀p∈l,∀t∈p.1.2.1,t.1∈nm)->evl x l=mZ x (cfs l) nm-(bds l:Int)
 | [],_=>by
  show (0:Rat)=_-((0:Int):Rat)
  rw[d6 (F:=cfs []) λ_ _=>rfl,show ((0:Int):Rat)=0 from rfl];grind
 | p::r,h=>by
  show (p.2:Rat)*_+evl x r=mZ x (λn=>p.2*cf p.1.2.1 n+cfs r n) nm-((p.2*p.1.2.2+bds r:Int):Rat)
  rw[km,pH,pE nd λq hq=>h q (E9 _ hq),qd nd (h p (Fe ..)),Gn,FH]
  grind
def smT(nm:List Str)(F:Str->Int):List (Str×Int):=(nm.filter λn=>decide (F n≠0)).map λn=>(n,F n)
def Ey(nm:List Str)(rows:List Rw)(w:List Int):Rw:=(kOf (EU (rows.zip w)),smT nm (cfs (rows.zip w)),bds (rows.zip w))
structure Rws(nm:List Str)(rows:List Rw):Prop where
 pw:nm.Pairwise leS
 nd:nm.Nodup
 sum:∀r∈rows,eX (cf r.2.1) r.2.1
 sub:∀r∈rows,∀t∈r.2.1,t.1∈nm
def Rws.cfs(h:Rws nm rows)(e:cfs (rows.zip w) n≠0):n∈nm :=
 sH (λp hp=>h.sub p.1 (FA hp).1) e
def Rws.smT(h:Rws nm rows)(w:List Int):eX (Mf.cfs (rows.zip w)) (Mf.smT nm (Mf.cfs (rows.zip w))):=eX.mk' h.pw h.nd λ_ e=>h.cfs e
theorem t9(h:Rws nm rows):soR x (Ey nm rows w)↔(0<evl x (rows.zip w)\/(evl x (rows.zip w)=0/\EU (rows.zip w)=false)):=by
 have e:=pE (x:=x) h.nd (l:=rows.zip w) λp hp=>h.sub p.1 (FA hp).1
 have e2:du x (Mf.smT nm (Mf.cfs (rows.zip w)))=mZ x (Mf.cfs (rows.zip w)) nm:=by
  rw[qd h.nd λt ht=>?_]
  ·congr 1;exact funext λn=>(h.smT w).cf n
  ·obtain⟨n,hn,rfl⟩:=E8.mp ht;exact(Fq.mp hn).1
 rw[e];unfold soR Ey
 cases EU (rows.zip w)
 ·show ((bds _:Int):Rat)<=du x _↔_
  rw[e2];grind
 ·show ((bds _:Int):Rat)<du x _↔_
  rw[e2];grind
def EB(w:List Int):V:=λi=>((w.getD i 0:Int):Rat)
def eV(x:Str->Rat)(rows:List Rw):V:=λi=>match rows[i]? with | some r=>du x r.2.1-(r.2.2:Int) | none=>0
def colV(rows:List Rw)(n:Str):V:=λi=>match rows[i]? with | some r=>((cf r.2.1 n:Int):Rat) | none=>0
def stV(rows:List Rw):Nat->Bool:=λi=>match rows[i]? with | some r=>isM r.1 | none=>false
theorem je(c w:V):∀m,ES (m+1) c w=c 0*w 0+ES m (λi=>c (i+1)) (λi=>w (i+1))
 | 0=>by show (0:Rat)+c 0*w 0=c 0*w 0+0;grind
 | m+1=>by show ES (m+1) c w+c (m+1)*w (m+1)=_+(ES m _ _+c (m+1)*w (m+1));rw[je c w m];grind
theorem ly:∀ {rows:List Rw} {w:List Int},w.length=rows.length->evl x (rows.zip w)=ES rows.length (eV x rows) (EB w)
 | [],[],_=>rfl
 | r::rows,a::w,h=>by
  rw[Fl,je];show (a:Rat)*(du x r.2.1-_)+evl x (rows.zip w)=(du x r.2.1-_)*(a:Rat)+ES rows.length (eV x rows) (EB w);rw[ly (by simpa using h)];grind
theorem lD:∀ {rows:List Rw} {w:List Int},w.length=rows.length->((cfs (rows.zip w) n:Int):Rat)=ES rows.length (colV rows n) (EB w)
 | [],[],_=>rfl
 | r::rows,a::w,h=>by
  rw[Fl,je];show ((a*cf r.2.1 n+cfs (rows.zip w) n:Int):Rat)=((cf r.2.1 n:Int):Rat)*(a:Rat)+ES rows.length (colV rows n) (EB w);rw[Gn,FH,lD (by simpa using h)];grind
def sL{i:Nat}:0<EB w i↔0<w.getD i 0:=Rat.intCast_pos
theorem qe:∀ {rows:List Rw} {w:List Int},w.length=rows.length->(EU (rows.zip w)=false↔∀i,i<rows.length->0<EB w i->stV rows i=false)
 | [],[],_=>⟨λ_ i hi=>absurd hi (Nat.not_lt_zero i),λ_=>rfl⟩
 | r::rows,a::w,h=>by
  have ih:=qe (rows:=rows) (w:=w) (by simpa using h)
  have e:EU ((r::rows).zip (a::w))=((isM r.1&&decide (0<a))||EU (rows.zip w)):=rfl
  rw[e,Bool.or_eq_false_iff,ih]
  constructor
  ·rintro⟨h1,h2⟩ i hi hp
   cases i with
   | zero =>
    have:0<a:=sL.mp hp
    rw[FX this,Bool.and_true] at h1;exact h1
   | succ i=>exact h2 i (by simpa using hi) hp
  ·intro hh;refine⟨?_,λi hi hp=>hh (i+1) (by simpa using hi) hp⟩
   by_cases ha:0<a
   ·have:isM r.1=false:=hh 0 (Nat.succ_pos _) (sL.mpr ha)
    rw[this,Bool.false_and]
   ·rw[FR ha,Bool.and_false]
theorem Cr(h:Rws nm rows)(hl:w.length=rows.length):soR x (Ey nm rows w)↔sat rows.length (stV rows) (eV x rows) (EB w):=by
 rw[t9 h,ly hl,qe hl];rfl
theorem pO(w:V):∀m,sz (m+1) w=(if w 0=0 then 0 else 1)+sz m λi=>w (i+1)
 | 0=>by rw[eU];show sz 0 w+_=_+sz 0 _;unfold sz;simp
 | m+1=>by rw[eU,pO w m,eU m];omega
def usd(w:List Int):Nat:=(w.filter λa=>decide (0<a)).length
theorem xy:∀ {w:List Int},(∀a∈w,0<=a)->sz w.length (EB w)=usd w
 | [],_=>rfl
 | a::w,h=>by
  rw[Fl,pO];show (if ((a:Int):Rat)=0 then 0 else 1)+sz w.length (EB w)=usd (a::w);rw[xy λb hb=>h b (E9 _ hb)];have h0:=h a (Fe ..);unfold usd
  by_cases e:0<a
  ·rw[FP (by simpa using e),Fp (λz=>by have:a=0:=HN.mp z;omega),Fl];omega
  ·have:a=0:=by omega
   rw[FG (by simpa using e),Fs (by rw[this];rfl)];omega
theorem rV{m:Nat}(hl:w.length=m)(h:∀a∈w,0<=a):Nn m (EB w):=by
 refine⟨λi=>?_,λi hi=>?_⟩
 ·show (0:Rat)<=((w.getD i 0:Int):Rat)
  refine Rat.intCast_nonneg.mpr ?_;rw[List.getD_eq_getElem?_getD]
  cases e:w[i]? with
  | none=>exact Int.le_refl 0
  | some a=>exact h a (Fm e)
 ·show ((w.getD i 0:Int):Rat)=0
  rw[List.getD_eq_getElem?_getD,List.getElem?_eq_none (by omega)];rfl
end Mf
namespace Mf
open PySem L2 DL
variable {ws:List Int} {n:Str} {a b:Int} {rows:List Rw} {m:Nat}
def gW(ws:List Int):Int:=ws.foldl gc 0
theorem DU(a b:Int):0<=gc a b/\gc a b ∣ a/\gc a b ∣ b/\(a≠0\/b≠0->gc a b≠0):=by
 refine⟨uw a b,eS a b,dW a b,λh z=>?_⟩;unfold gc at z;have:=Int.gcd_eq_zero_iff.mp (by omega:Int.gcd a b=0)
 rcases h with h | h
 ·exact h this.1
 ·exact h this.2
theorem nT:∀(ws:List Int) (a:Int),ws.foldl gc a ∣ a/\(∀w∈ws,ws.foldl gc a ∣ w)/\((a≠0\/∃w∈ws,w≠0)->ws.foldl gc a≠0)/\(0<=a->0<=ws.foldl gc a)
 | [],a=>⟨Int.dvd_refl a,λ_ h=>(nomatch h),λh=>h.elim id λ⟨_,h,_⟩=>(nomatch h),id⟩
 | w::ws,a=>by
  obtain⟨h1,h2,h3,h4⟩:=nT ws (gc a w);obtain⟨g0,g1,g2,g3⟩:=DU a w;refine⟨Int.dvd_trans h1 g1,λv hv=>?_,λh=>h3 ?_,λ_=>h4 g0⟩
  ·rcases Fj.mp hv with rfl | hv
   ·exact Int.dvd_trans h1 g2
   ·exact h2 v hv
  ·rcases h with h | ⟨v,hv,hn⟩
   ·exact .inl (g3 (.inl h))
   ·rcases Fj.mp hv with rfl | hv
    ·exact .inl (g3 (.inr hn))
    ·exact .inr ⟨v,hv,hn⟩
theorem p9(h:∃w∈ws,w≠0):0<gW ws:=by
 obtain⟨_,_,h3,h4⟩:=nT ws 0;have:=h3 (.inr h);have:=h4 (Int.le_refl 0);unfold gW;omega
def l7{w:Int}(h:w∈ws):gW ws ∣ w:=(nT ws 0).2.1 w h
def crS(rows:List Rw)(n:Str)(l h:List Int):List Int:=List.zipWith (λa b=>a * -(cfs (rows.zip h) n)+b*cfs (rows.zip l) n) l h
def shW(ws:List Int):List Int:=ws.map λa=>a.fdiv (gW ws)
def crW(rows:List Rw)(n:Str)(l h:List Int):List Int:=shW (crS rows n l h)
def woW(rows:List Rw)(n:Str)(most:Nat)(W:List (List Int)):List (List Int) :=
 (W.filter λw=>decide (cfs (rows.zip w) n=0))++(W.filter λw=>decide (0<cfs (rows.zip w) n)).flatMap λl =>
  ((W.filter λw=>decide (cfs (rows.zip w) n<0)).map (crW rows n l)).filter λu=>decide (usd u<=most)
def unW(m j:Nat):List Int:=(List.range m).map λi=>if i=j then 1 else 0
def uI(m:Nat):List (List Int):=(List.range m).map (unW m)
def EG(rows:List Rw):List Str->List (List Int)
 | []=>uI rows.length
 | n::ns=>woW rows n (ns.length+2) (EG rows ns)
structure Wt(m:Nat)(w:List Int):Prop where
 len:w.length=m
 nn:∀a∈w,0<=a
 nz:∃a∈w,a≠0
theorem mY{f:Int->Int->Int}(hf:f 0 0=0):∀ {l h:List Int},l.length=h.length->∀i,EB (List.zipWith f l h) i=((f (l.getD i 0) (h.getD i 0):Int):Rat)
 | [],[],_,i=>by show (0:Rat)=((f 0 0:Int):Rat);rw[hf];rfl
 | a::l,b::h,e,0=>rfl
 | a::l,b::h,e,i+1=>mY hf (by simpa using e) i
theorem nO:∀ {rows:List Rw} {l h:List Int},l.length=rows.length->h.length=rows.length->cfs (rows.zip (List.zipWith (λx y=>x*a+y*b) l h)) n=a*cfs (rows.zip l) n+b*cfs (rows.zip h) n
 | [],[],[],_,_=>by show (0:Int)=a*0+b*0;omega
 | r::rows,x::l,y::h,h1,h2=>by
  show (x*a+y*b)*cf r.2.1 n+cfs (rows.zip (List.zipWith _ l h)) n=a*(x*cf r.2.1 n+cfs (rows.zip l) n)+b*(y*cf r.2.1 n+cfs (rows.zip h) n)
  rw[nO (rows:=rows) (l:=l) (h:=h) (by simpa using h1) (by simpa using h2)];grind
theorem rR(hz:∃w∈ws,w≠0):List.zipWith (λx y=>x*gW ws+y*0) (shW ws) (shW ws)=ws:=by
 unfold shW;have:∀(l:List Int),(∀a∈l,gW ws ∣ a)->List.zipWith (λx y=>x*gW ws+y*0) (l.map λa=>a.fdiv (gW ws)) (l.map λa=>a.fdiv (gW ws))=l:=λl=>by
  induction l with
  | nil=>intro _;rfl
  | cons a l ih =>
   intro h;show (a.fdiv (gW ws)*gW ws+_*0)::_=a::l;rw[ih λb hb=>h b (E9 _ hb),GU (h a (Fe ..)),HR,Gw]
 exact this ws λa ha=>l7 ha
def mS:(shW ws).length=ws.length:=E7 ..
theorem Cp(hl:ws.length=rows.length)(hz:∃w∈ws,w≠0):gW ws*cfs (rows.zip (shW ws)) n=cfs (rows.zip ws) n:=by
 have e:=nO (rows:=rows) (n:=n) (a:=gW ws) (b:=0) (l:=shW ws) (h:=shW ws) (by rw[mS,hl]) (by rw[mS,hl])
 rw[rR hz] at e;rw[e];omega
theorem BO(hz:∃w∈ws,w≠0)(i:Nat):((gW ws:Int):Rat)*EB (shW ws) i=EB ws i:=by
 have e:=mY (f:=λx y=>x*gW ws+y*0) (by omega) (l:=shW ws) (h:=shW ws) rfl i
 rw[rR hz] at e;rw[e];show _*((_:Int):Rat)=_;simp only[Int.mul_zero,Int.add_zero];rw[FH];grind
def Em(hz:∃w∈ws,w≠0)(h:∀a∈ws,0<=a):∀a∈shW ws,0<=a:=λa ha=>by
 obtain⟨b,hb,rfl⟩:=E8.mp ha;obtain⟨c,hc⟩:=l7 hb;have g:=p9 hz;have hb0:=h b hb;have e:b.fdiv (gW ws)*gW ws=b:=GU (l7 hb);refine Ff λz=>?_;have:=Int.mul_lt_mul_of_pos_right (show b.fdiv (gW ws)<0 by omega) g;omega
theorem DX(hz:∃w∈ws,w≠0):∃a∈shW ws,a≠0:=by
 obtain⟨w,hw,hn⟩:=hz;refine⟨_,E8.mpr ⟨w,hw,rfl⟩,λz=>hn ?_⟩;have e:w.fdiv (gW ws)*gW ws=w:=GU (l7 hw);rw[z] at e;omega
theorem mQ{l h:List Int}(hl:l.length=m)(hh:h.length=m):(crS rows n l h).length=m:=by unfold crS;rw[List.length_zipWith];omega
theorem AJ(ha:0<a)(hb:0<b):∀ {l h:List Int},(∀x∈l,0<=x)->(∀x∈h,0<=x)->∀x∈List.zipWith (λx y=>x*a+y*b) l h,0<=x
 | [],_,_,_,x,hx=>by simp at hx
 | _::_,[],_,_,x,hx=>by simp at hx
 | u::l,v::h,h1,h2,x,hx=>by
  rw[Ho] at hx
  rcases Fj.mp hx with rfl | hx
  ·have:=Int.mul_nonneg (h1 u (Fe ..)) (Hi ha)
   have:=Int.mul_nonneg (h2 v (Fe ..)) (Hi hb)
   omega
  ·exact AJ ha hb (λx hx=>h1 x (E9 _ hx)) (λx hx=>h2 x (E9 _ hx)) x hx
theorem BQ(ha:0<a)(hb:0<b):∀ {l h:List Int},l.length=h.length->(∀x∈l,0<=x)->(∀x∈h,0<=x)->(∃x∈l,x≠0)->∃x∈List.zipWith (λx y=>x*a+y*b) l h,x≠0
 | [],_,_,_,_,⟨x,hx,_⟩=>by simp at hx
 | _::_,[],e,_,_,_=>by simp at e
 | u::l,v::h,e,h1,h2,⟨x,hx,hn⟩=>by
  rw[Ho]
  rcases Fj.mp hx with rfl | hx
  ·refine⟨_,Fe ..,λz=>?_⟩;have:=Int.mul_pos (a:=x) (b:=a) (by have:=h1 x (Fe ..);omega) ha;have:=Int.mul_nonneg (h2 v (Fe ..)) (Hi hb);omega
  ·obtain⟨y,hy,hy0⟩:=BQ ha hb (by simpa using e) (λx hx=>h1 x (E9 _ hx)) (λx hx=>h2 x (E9 _ hx)) ⟨x,hx,hn⟩;exact⟨y,E9 _ hy,hy0⟩
section
variable {rows:List Rw} {n:Str} {l h:List Int}
def jS(wl:Wt rows.length l)(wh:Wt rows.length h)(cl:0<cfs (rows.zip l) n)(ch:cfs (rows.zip h) n<0):(∀a∈crS rows n l h,0<=a)/\∃a∈crS rows n l h,a≠0 :=
 ⟨AJ (by omega) cl wl.nn wh.nn,BQ (by omega) cl (by rw[wl.len,wh.len]) wl.nn wh.nn wl.nz⟩
theorem tq(wl:Wt rows.length l)(wh:Wt rows.length h)(cl:0<cfs (rows.zip l) n)(ch:cfs (rows.zip h) n<0):Wt rows.length (crW rows n l h):=by
 obtain⟨h1,h2⟩:=jS wl wh cl ch;exact⟨by unfold crW;rw[mS];exact mQ wl.len wh.len,Em h2 h1,DX h2⟩
theorem xV{k:Str}(wl:Wt rows.length l)(wh:Wt rows.length h)(cl:0<cfs (rows.zip l) n)(ch:cfs (rows.zip h) n<0):gW (crS rows n l h)*cfs (rows.zip (crW rows n l h)) k=-(cfs (rows.zip h) n)*cfs (rows.zip l) k+cfs (rows.zip l) n*cfs (rows.zip h) k:=by
 obtain⟨h1,h2⟩:=jS wl wh cl ch;unfold crW;rw[Cp (mQ wl.len wh.len) h2];exact nO (rows:=rows) wl.len wh.len
theorem uq(wl:Wt rows.length l)(wh:Wt rows.length h)(cl:0<cfs (rows.zip l) n)(ch:cfs (rows.zip h) n<0)(i:Nat):((gW (crS rows n l h):Int):Rat)*EB (crW rows n l h) i=-((cfs (rows.zip h) n:Int):Rat)*EB l i+((cfs (rows.zip l) n:Int):Rat)*EB h i:=by
 obtain⟨h1,h2⟩:=jS wl wh cl ch;unfold crW;rw[BO h2];unfold crS;rw[mY (by omega) (by rw[wl.len,wh.len])];rw[Gn,FH,FH,HP];unfold EB
 grind
end
theorem jq{most:Nat}{W:List (List Int)}{w:List Int}:w∈woW rows n most W↔(w∈W/\cfs (rows.zip w) n=0)\/∃l∈W,0<cfs (rows.zip l) n/\∃h∈W,cfs (rows.zip h) n<0/\w=crW rows n l h/\usd w<=most:=by
 unfold woW;rw[Fk,Fq,Gm];refine or_congr (by simp) ?_
 constructor
 ·rintro⟨l,hl,hm⟩;obtain⟨hl1,hl2⟩:=Fq.mp hl;obtain⟨hm1,hm2⟩:=Fq.mp hm;obtain⟨h,hh,rfl⟩:=E8.mp hm1;obtain⟨hh1,hh2⟩:=Fq.mp hh;exact⟨l,hl1,by simpa using hl2,h,hh1,by simpa using hh2,rfl,by simpa using hm2⟩
 ·rintro⟨l,hl,cl,h,hh,ch,rfl,hu⟩;exact⟨l,Fq.mpr ⟨hl,by simpa using cl⟩,Fq.mpr ⟨E8.mpr ⟨h,Fq.mpr ⟨hh,by simpa using ch⟩,rfl⟩,by simpa using hu⟩⟩
theorem BY{j:Nat}(h:j<m):Wt m (unW m j):=by
 refine⟨by unfold unW;simp,λa ha=>?_,1,?_,by decide⟩
 ·obtain⟨i,_,rfl⟩:=E8.mp ha
  split<;>decide
 ·exact E8.mpr ⟨j,GL.mpr h,by simp⟩
theorem xJ{j:Nat}(h:j<m):EB (unW m j)=AC j:=by
 funext i
 unfold EB unW AC;rw[List.getD_eq_getElem?_getD,List.getElem?_map]
 by_cases hi:i<m
 ·rw[List.getElem?_range hi];show (((if i=j then 1 else 0:Int)):Rat)=_
  by_cases e:i=j<;>simp[e]
 ·rw[List.getElem?_eq_none (by simpa using Nat.le_of_not_lt hi)];have:i≠j:=by omega
  simp[this]
theorem cB:∀ {ns:List Str} {w:List Int},w∈EG rows ns->Wt rows.length w/\∀n∈ns,cfs (rows.zip w) n=0
 | [],w,h=>by
  obtain⟨j,hj,rfl⟩:=E8.mp h;exact⟨BY (GL.mp hj),λ_ h=>(nomatch h)⟩
 | n::ns,w,h=>by
  rcases jq.mp h with⟨h1,h2⟩ | ⟨l,hl,cl,k,hk,ck,rfl,_⟩
  ·obtain⟨a,b⟩:=cB h1;exact⟨a,λx hx=>(Fj.mp hx).elim (λe=>e ▸ h2) (b x)⟩
  ·obtain⟨a,b⟩:=cB hl;obtain⟨a',b'⟩:=cB hk;refine⟨tq a a' cl ck,λx hx=>?_⟩;have e:=xV (k:=x) a a' cl ck;have g:=p9 (jS a a' cl ck).2;have:-(cfs (rows.zip k) n)*cfs (rows.zip l) x+cfs (rows.zip l) n*cfs (rows.zip k) x=0:=by
    rcases Fj.mp hx with rfl | hx
    ·grind
    ·rw[b x hx,b' x hx];omega
   rw[this] at e
   rcases Int.mul_eq_zero.mp e with z | z
   ·omega
   ·exact z
theorem vK{ns:List Str}:Kept rows.length (colV rows n) (ns.length+2) ((EG rows ns).map EB) ((EG rows (n::ns)).map EB):=by
 have dt:∀ {w},w∈EG rows ns->ES rows.length (colV rows n) (EB w)=((cfs (rows.zip w) n:Int):Rat):=λh=>(lD (cB h).1.len).symm
 constructor
 ·intro s hs;obtain⟨w,hw,rfl⟩:=E8.mp hs;exact rV (cB hw).1.len (cB hw).1.nn
 ·intro s hs h0;obtain⟨w,hw,rfl⟩:=E8.mp hs;rw[dt hw] at h0;exact E8.mpr ⟨w,jq.mpr (.inl ⟨hw,HN.mp h0⟩),rfl⟩
 ·intro l hl h hh cl ch hz;obtain⟨l,hl2,rfl⟩:=E8.mp hl;obtain⟨h,hh2,rfl⟩:=E8.mp hh;clear hl hh;have hl:=hl2;have hh:=hh2;rw[dt hl] at cl hz ⊢;rw[dt hh] at ch hz ⊢;have cl:0<cfs (rows.zip l) n:=Rat.intCast_pos.mp cl;have ch:cfs (rows.zip h) n<0:=Rat.intCast_neg_iff.mp ch;have wl:=(cB hl).1;have wh:=(cB hh).1;have ww:=tq wl wh cl ch;have g:=p9 (jS wl wh cl ch).2;have gr:(0:Rat)<((gW (crS rows n l h):Int):Rat):=Rat.intCast_pos.mpr g;refine⟨_,E8.mpr ⟨crW rows n l h,jq.mpr (.inr ⟨l,hl,cl,h,hh,ch,rfl,?_⟩),rfl⟩,_,gr,λi=>uq wl wh cl ch i⟩;rw[<- xy ww.nn,ww.len];refine Fa (vA _ λi _ hi=>?_) hz;rw[<- uq wl wh cl ch i];intro z
  rcases Hl.mp z with q | q
  ·grind
  ·exact hi q
theorem oU:∀ns:List Str,Comp rows.length (stV rows) (ns.map (colV rows)) ((EG rows ns).map EB)
 | []=>sZ _ λj hj=>E8.mpr ⟨unW rows.length j,E8.mpr ⟨j,GL.mpr hj,rfl⟩,xJ hj⟩
 | n::ns=>sC (oU ns) (by rw[E7];exact vK)
end Mf
namespace Mf
open PySem L2 DL
variable {p:Int×Int} {ks:List Str} {ps:List (Int×Int)} {n:Str}
def E4(p:Int×Int):Rat:=(p.1:Rat) / (p.2:Rat)
def fA{a:Int}(h:a≠0):((a:Int):Rat)≠0:=λz=>h (HN.mp z)
def jh{a:Int}(h:0<a):(0:Rat)<((a:Int):Rat):=Rat.intCast_pos.mpr h
theorem jg(t:Int){b:Int}(h:b≠0):E4 (EM t b,EF t b)=(t:Rat) / (b:Rat):=by
 have c:=pJ t b
 have hB:=(eO t h).ne
 have c2:((EM t b:Int):Rat)*(b:Rat)=(t:Rat)*((EF t b:Int):Rat):=by rw[<- FH,<- FH,c]
 have h1:=fA h
 have h2:=fA hB
 show ((EM t b:Int):Rat) / ((EF t b:Int):Rat)=_
 grind
theorem ix{q:Int×Int}(hp:0<p.2)(hq:0<q.2):E4 p<E4 q↔p.1*q.2<q.1*p.2:=by
 have h1:=jh hp
 have h2:=jh hq
 have h3:=Gk h1 h2
 have e1:E4 p*((p.2:Rat)*(q.2:Rat))=((p.1*q.2:Int):Rat):=by rw[FH];unfold E4;grind
 have e2:E4 q*((p.2:Rat)*(q.2:Rat))=((q.1*p.2:Int):Rat):=by rw[FH];unfold E4;grind
 rw[<- Rat.intCast_lt_intCast,<- e1,<- e2]
 constructor
 ·intro h;have:=Gk (a:=E4 q-E4 p) (by grind) h3
  grind
 ·intro h;refine Ff λz=>?_;have:=FU (a:=E4 p-E4 q) (b:=(p.2:Rat)*(q.2:Rat)) (by grind) (by grind)
  grind
theorem tS{q:Int×Int}(hp:ET p.1 p.2)(hq:ET q.1 q.2)(e:E4 p=E4 q):p=q:=by
 have h1:¬ p.1*q.2<q.1*p.2:=λz=>by have:=(ix hp.pos hq.pos).mpr z;grind
 have h2:¬ q.1*p.2<p.1*q.2:=λz=>by have:=(ix hq.pos hp.pos).mpr z;grind
 have:=hp.uniq hq (by omega)
 exact Prod.ext this.1 this.2
theorem ox(a:Int):E4 (EM a 1,EF a 1)=(a:Rat):=by
 rw[jg a (by decide)];show (a:Rat) / ((1:Int):Rat)=a;rw[show ((1:Int):Rat)=1 from rfl];grind
def qc(a:Int):EM a 1=a/\EF a 1=1:=ET.self ⟨by decide,by unfold gc;simp⟩
theorem Bm(h:0<p.2):((p.1.fdiv p.2:Int):Rat)<=E4 p/\E4 p<((p.1.fdiv p.2+1:Int):Rat):=by
 have m0:=FM p.1 h
 have m1:=FW p.1 h
 have e:p.2*p.1.fdiv p.2+p.1.fmod p.2=p.1:=by rw[Int.fmod_def];omega
 have hr:=jh h
 generalize hf:p.1.fdiv p.2=f at *
 have e1:((f:Int):Rat)=E4 (f,1):=by unfold E4;show _=((f:Int):Rat) / ((1:Int):Rat);rw[show ((1:Int):Rat)=1 from rfl];grind
 have e2:((f+1:Int):Rat)=E4 (f+1,1):=by unfold E4;show _=((f+1:Int):Rat) / ((1:Int):Rat);rw[show ((1:Int):Rat)=1 from rfl];grind
 rw[e1,e2]
 constructor
 ·refine Ff λz=>?_;have:=(ix (p:=p) (q:=(f,1)) h Int.one_pos).mp (by grind);simp only at this;have:p.2*f=f*p.2:=Gc ..;omega
 ·refine(ix (p:=p) (q:=(f+1,1)) h Int.one_pos).mpr ?_;simp only;rw[Int.add_mul];have:p.2*f=f*p.2:=Gc ..;omega
def EC(ks:List Str)(ps:List (Int×Int)):Str->Rat:=λn=>E4 (rF ks ps n)
theorem ov_R{K:Int}(h0:0<pB ks ps n)(hd:pB ks ps n ∣ K):((ov (pT ks ps) (pB ks ps) K n:Int):Rat)=(K:Rat)*EC ks ps n:=by
 obtain⟨y,rfl⟩:=hd;have hn:pB ks ps n≠0:=by omega
 unfold ov EC E4;rw[Hh _ hn,FH,FH];have:=fA hn;show ((pT ks ps n:Int):Rat)*_=((pB ks ps n:Int):Rat)*_*(((pT ks ps n:Int):Rat) / ((pB ks ps n:Int):Rat))
 grind
theorem pG{K:Int}:∀ {ts:List (Str×Int)},(∀t∈ts,0<pB ks ps t.1/\pB ks ps t.1 ∣ K)->((et (ov (pT ks ps) (pB ks ps) K) ts:Int):Rat)=(K:Rat)*du (EC ks ps) ts
 | [],_=>by show ((0:Int):Rat)=_*0;rw[show ((0:Int):Rat)=0 from rfl];grind
 | t::r,h=>by
  show ((t.2*ov _ _ K t.1+et _ r:Int):Rat)=_*((t.2:Rat)*_+du _ r)
  obtain⟨h1,h2⟩:=h t (Fe ..);rw[Gn,FH,ov_R h1 h2,pG λu hu=>h u (E9 _ hu)];grind
def bnd(ks:List Str)(ps:List (Int×Int))(n:Str)(r:Rw):Int×Int :=
 let o:=r.2.1.filter λt=>decide (t.1≠n)
 let K:=ED (pB ks ps) (o.map (·.1))
 (EM (r.2.2*K-et (ov (pT ks ps) (pB ks ps) K) o) (cf r.2.1 n*K),EF (r.2.2*K-et (ov (pT ks ps) (pB ks ps) K) o) (cf r.2.1 n*K))
theorem e7{x:Str->Rat}(h:x n=0):∀ts:List (Str×Int),du x (ts.filter λt=>decide (t.1≠n))=du x ts
 | []=>rfl
 | t::r=>by
  by_cases e:t.1=n
  ·rw[FG (by simp[e]),e7 h r];show _=(t.2:Rat)*x t.1+_;rw[e,h];grind
  ·rw[FP (by simp[e])];show _+_=_+du x r;rw[e7 h r]
theorem Ct{r:Rw}(hp:∀t∈r.2.1,t.1≠n->0<pB ks ps t.1)(h0:EC ks ps n=0)(hc:cf r.2.1 n≠0) :
  ET (bnd ks ps n r).1 (bnd ks ps n r).2/\E4 (bnd ks ps n r)=-(du (EC ks ps) r.2.1-(r.2.2:Int)) / ((cf r.2.1 n:Int):Rat):=by
 unfold bnd;have ho:∀t∈r.2.1.filter (λt=>decide (t.1≠n)),0<pB ks ps t.1:=λt ht=>by
  obtain⟨h1,h2⟩:=Fq.mp ht;exact hp t h1 (by simpa using h2)
 have hs:=e7 h0 r.2.1
 generalize ho':r.2.1.filter (λt=>decide (t.1≠n))=o at *
 have hK:0<ED (pB ks ps) (o.map (·.1)):=dF λk hk=>by
  obtain⟨t,ht,rfl⟩:=E8.mp hk;exact ho t ht
 have e:=pG (ks:=ks) (ps:=ps) (K:=ED (pB ks ps) (o.map (·.1))) (ts:=o) λt ht=>⟨ho t ht,fW (E8.mpr ⟨t,ht,rfl⟩)⟩
 simp only;generalize ED (pB ks ps) (o.map (·.1))=K at *;have hcK:cf r.2.1 n*K≠0:=F1 hc (by omega);refine⟨eO _ hcK,?_⟩;rw[jg _ hcK,FH,Rat.intCast_sub,FH,e,hs];have h1:=fA hc;have h2:=fA (show K≠0 by omega)
 grind
abbrev En2:=Option (Int×Int)×Bool
def tgt(lo:Bool)(a b:En2):En2:=match a.1,b.1 with
 | none,_=>b
 | some _,none=>a
 | some p,some q=>if p=q then (some p,a.2&&b.2) else if decide (q.1*p.2<p.1*q.2)=lo then a else b
structure Tgt(lo:Bool)(cs:List ((Int×Int)×Bool))(e:En2):Prop where
 nn:e.1=none->cs=[]
 so:∀p,e.1=some p->ET p.1 p.2/\(∃c∈cs,c.1=p/\c.2=e.2)/\∀c∈cs,(c.1=p/\(e.2=true->c.2=true))\/(c.1≠p/\(if lo then E4 c.1<E4 p else E4 p<E4 c.1))
def Tgt.nil{lo:Bool}:Tgt lo [] (none,false):=⟨λ_=>rfl,λ_ h=>(nomatch h)⟩
theorem Tgt.step{lo:Bool}{cs:List ((Int×Int)×Bool)}{e:En2}{c:(Int×Int)×Bool}(h:Tgt lo cs e)(hc:ET c.1.1 c.1.2):Tgt lo (cs++[c]) (tgt lo e (some c.1,c.2)):=by
 obtain⟨e1,e2⟩:=e;obtain⟨q,b⟩:=c
 cases e1 with
 | none =>
  have:cs=[]:=h.nn rfl
  subst this;refine⟨λz=>(nomatch z),λp hp=>?_⟩
  cases hp
  exact⟨hc,⟨(q,b),by simp,rfl,rfl⟩,λc hc=>by
   have:c=(q,b):=by simpa using hc
   subst this;exact .inl ⟨rfl,id⟩⟩
 | some p =>
  obtain⟨lp,⟨w,hw,w1,w2⟩,all⟩:=h.so p rfl;show Tgt lo _ (if p=q then (some p,e2&&b) else if decide (q.1*p.2<p.1*q.2)=lo then (some p,e2) else (some q,b));have lt:=ix (p:=q) (q:=p) hc.pos lp.pos;have gt:=ix (p:=p) (q:=q) lp.pos hc.pos
  by_cases e:p=q
  ·rw[Fs e];subst e;refine⟨λz=>(nomatch z),λp' hp=>?_⟩
   cases hp
   refine⟨lp,?_,λc hc'=>?_⟩
   ·cases b
    ·exact⟨(p,false),by simp,rfl,by simp⟩
    ·exact⟨w,Fx _ hw,w1,by simpa using w2⟩
   ·rcases Fk.mp hc' with hc' | hc'
    ·rcases all c hc' with⟨a1,a2⟩ | a
     ·exact .inl ⟨a1,λz=>a2 (by simpa using (by simpa using z:e2=true/\b=true).1)⟩
     ·exact .inr a
    ·have:c=(p,b):=by simpa using hc'
     subst this;exact .inl ⟨rfl,λz=>(by simpa using z:e2=true/\b=true).2⟩
  ·rw[Fp e];have ne:E4 p≠E4 q:=λz=>e (tS lp hc z)
   by_cases k:decide (q.1*p.2<p.1*q.2)=lo
   ·rw[Fs k];refine⟨λz=>(nomatch z),λp' hp=>?_⟩
    cases hp
    refine⟨lp,⟨w,Fx _ hw,w1,w2⟩,λc hc'=>?_⟩
    rcases Fk.mp hc' with hc' | hc'
    ·exact all c hc'
    ·have:c=(q,b):=by simpa using hc'
     subst this;refine .inr ⟨λz=>e z.symm,?_⟩
     cases lo
     ·have:=(decide_eq_false_iff_not.mp k)
      simp only[Bool.false_eq_true,if_false];have:¬ E4 q<E4 p:=λz=>this (lt.mp z)
      grind
     ·simp only[if_true];exact lt.mpr (decide_eq_true_eq.mp k)
   ·rw[Fp k];refine⟨λz=>(nomatch z),λp' hp=>?_⟩
    cases hp
    have pq:if lo then E4 p<E4 q else E4 q<E4 p:=by
     cases lo
     ·simp only[Bool.false_eq_true,if_false];simp only[Bool.not_eq_false,decide_eq_true_eq] at k;exact lt.mpr k
     ·simp only[if_true];simp only[decide_eq_true_eq] at k;have:¬ E4 q<E4 p:=λz=>k (lt.mp z)
      grind
    refine⟨hc,⟨(q,b),by simp,rfl,rfl⟩,λc hc'=>?_⟩
    rcases Fk.mp hc' with hc' | hc'
    ·have x:=all c hc'
     refine .inr ?_
     cases lo
     ·simp only[Bool.false_eq_true,if_false] at x pq ⊢;have:E4 q<E4 c.1:=by rcases x with x | x;rw[x.1];exact pq;grind
      exact⟨λz=>by rw[z] at this;grind,this⟩
     ·simp only[if_true] at x pq ⊢;have:E4 c.1<E4 q:=by rcases x with x | x;rw[x.1];exact pq;grind
      exact⟨λz=>by rw[z] at this;grind,this⟩
    ·have:c=(q,b):=by simpa using hc'
     subst this;exact .inl ⟨rfl,id⟩
def nmb(lo hi:Option (Int×Int)):Int×Int:=match lo,hi with
 | none,none=>(0,1)
 | none,some h=>(EM (h.1.fdiv h.2-1) 1,EF (h.1.fdiv h.2-1) 1)
 | some l,none=>(EM (l.1.fdiv l.2+1) 1,EF (l.1.fdiv l.2+1) 1)
 | some l,some h =>
  if EM (l.1.fdiv l.2+1) 1*h.2<h.1*EF (l.1.fdiv l.2+1) 1 then (EM (l.1.fdiv l.2+1) 1,EF (l.1.fdiv l.2+1) 1)
  else if l=h then l
  else
   let s:Int×Int:=(EM (l.1*h.2+h.1*l.2) (l.2*h.2),EF (l.1*h.2+h.1*l.2) (l.2*h.2))
   (EM (s.1*1) (s.2*2),EF (s.1*1) (s.2*2))
theorem Cv{lo hi:En2}(h1:∀p,lo.1=some p->ET p.1 p.2)(h2:∀p,hi.1=some p->ET p.1 p.2)(hh:∀p q,lo.1=some p->hi.1=some q->E4 p<E4 q\/(E4 p=E4 q/\lo.2=true/\hi.2=true)) :
  ET (nmb lo.1 hi.1).1 (nmb lo.1 hi.1).2/\(∀p,lo.1=some p->E4 p<E4 (nmb lo.1 hi.1)\/(E4 p=E4 (nmb lo.1 hi.1)/\lo.2=true))/\∀q,hi.1=some q->E4 (nmb lo.1 hi.1)<E4 q\/(E4 (nmb lo.1 hi.1)=E4 q/\hi.2=true):=by
 obtain⟨l,lb⟩:=lo;obtain⟨h,hb⟩:=hi;have L1:∀a,ET (EM a 1) (EF a 1):=λa=>eO a (by decide)
 cases l with
 | none =>
  cases h with
  | none=>exact⟨(⟨by decide,by unfold gc;decide⟩:ET 0 1),λp z=>(nomatch z),λp z=>(nomatch z)⟩
  | some h =>
   refine⟨L1 _,λp z=>(nomatch z),λp z=>?_⟩
   cases z
   have:=Bm (h2 _ rfl).pos
   refine .inl ?_;show E4 (EM _ 1,EF _ 1)<_;rw[ox,Rat.intCast_sub,show ((1:Int):Rat)=1 from rfl];grind
 | some l =>
  have hl:=h1 _ rfl
  have fl:=Bm hl.pos
  cases h with
  | none =>
   refine⟨L1 _,λp z=>?_,λp z=>(nomatch z)⟩
   cases z
   refine .inl ?_;show _<E4 (EM _ 1,EF _ 1);rw[ox];exact fl.2
  | some h =>
   have hH:=h2 _ rfl
   have c:=hh _ _ rfl rfl
   show ET (nmb (some l) (some h)).1 (nmb (some l) (some h)).2/\(∀p,some l=some p->E4 p<E4 (nmb (some l) (some h))\/_/\lb=true)/\(∀q,some h=some q->E4 (nmb (some l) (some h))<E4 q\/_/\hb=true)
   unfold nmb;simp only
   by_cases k:EM (l.1.fdiv l.2+1) 1*h.2<h.1*EF (l.1.fdiv l.2+1) 1
   ·rw[Fs k];refine⟨L1 _,λp z=>?_,λp z=>?_⟩
    ·cases z;rw[ox];exact .inl fl.2
    ·cases z;exact .inl ((ix (L1 _).pos hH.pos).mpr k)
   ·rw[Fp k]
    by_cases e:l=h
    ·rw[Fs e];subst e;have:lb=true/\hb=true:=by rcases c with c | c;grind;exact c.2
     exact⟨hl,λp z=>by cases z;exact .inr ⟨rfl,this.1⟩,λp z=>by cases z;exact .inr ⟨rfl,this.2⟩⟩
    ·rw[Fp e];have lt:E4 l<E4 h:=by
      rcases c with c | c
      ·exact c
      ·exact absurd (tS hl hH c.1) e
     have nz:l.2*h.2≠0:=F1 hl.ne hH.ne
     have sl:=eO (l.1*h.2+h.1*l.2) nz
     have nz2:EF (l.1*h.2+h.1*l.2) (l.2*h.2)*2≠0:=F1 sl.ne (by decide)
     have e1:E4 (EM (l.1*h.2+h.1*l.2) (l.2*h.2),EF (l.1*h.2+h.1*l.2) (l.2*h.2))=E4 l+E4 h:=by
      rw[jg _ nz,Gn,FH,FH,FH];have a1:=fA hl.ne;have a2:=fA hH.ne;unfold E4
      grind
     have e2:E4 (EM (EM (l.1*h.2+h.1*l.2) (l.2*h.2)*1) (EF (l.1*h.2+h.1*l.2) (l.2*h.2)*2),EF (EM (l.1*h.2+h.1*l.2) (l.2*h.2)*1) (EF (l.1*h.2+h.1*l.2) (l.2*h.2)*2))=(E4 l+E4 h) / 2:=by
      rw[jg _ nz2,<- e1,FH,FH,show ((1:Int):Rat)=1 from rfl,show ((2:Int):Rat)=2 from rfl];have a1:=fA sl.ne;unfold E4
      grind
     refine⟨eO _ nz2,λp z=>?_,λp z=>?_⟩
     ·cases z;rw[e2];exact .inl (by grind)
     ·cases z;rw[e2];exact .inl (by grind)
end Mf
namespace Mf
open PySem L2 DL
variable {nm ks:List Str} {rows:List Rw} {ps:List (Int×Int)} {n:Str}
def cnd(nm:List Str)(rows:List Rw)(ks:List Str)(ps:List (Int×Int))(n:Str)(w:List Int):(Int×Int)×Bool:=(bnd ks ps n (Ey nm rows w),!EU (rows.zip w))
def EN(nm:List Str)(rows:List Rw)(ks:List Str)(ps:List (Int×Int))(n:Str)(W:List (List Int)):En2×En2 :=
  W.foldl (λe w =>
    (if 0<cfs (rows.zip w) n then tgt true e.1 (some (cnd nm rows ks ps n w).1,(cnd nm rows ks ps n w).2) else e.1,
     if cfs (rows.zip w) n<0 then tgt false e.2 (some (cnd nm rows ks ps n w).1,(cnd nm rows ks ps n w).2) else e.2)) ((none,false),(none,false))
theorem zH:∀(W:List (List Int)),(∀w∈W,cfs (rows.zip w) n≠0->ET (cnd nm rows ks ps n w).1.1 (cnd nm rows ks ps n w).1.2) ->
    Tgt true ((W.filter λw=>decide (0<cfs (rows.zip w) n)).map (cnd nm rows ks ps n)) (EN nm rows ks ps n W).1/\Tgt false ((W.filter λw=>decide (cfs (rows.zip w) n<0)).map (cnd nm rows ks ps n)) (EN nm rows ks ps n W).2:=by
  intro W;unfold EN;have:∀(W:List (List Int)) (c1 c2:List ((Int×Int)×Bool)) (e:En2×En2),(∀w∈W,cfs (rows.zip w) n≠0->ET (cnd nm rows ks ps n w).1.1 (cnd nm rows ks ps n w).1.2)->Tgt true c1 e.1->Tgt false c2 e.2 ->
      Tgt true (c1++(W.filter λw=>decide (0<cfs (rows.zip w) n)).map (cnd nm rows ks ps n)) (W.foldl (λe w =>
    (if 0<cfs (rows.zip w) n then tgt true e.1 (some (cnd nm rows ks ps n w).1,(cnd nm rows ks ps n w).2) else e.1,
     if cfs (rows.zip w) n<0 then tgt false e.2 (some (cnd nm rows ks ps n w).1,(cnd nm rows ks ps n w).2) else e.2)) e).1 /\
      Tgt false (c2++(W.filter λw=>decide (cfs (rows.zip w) n<0)).map (cnd nm rows ks ps n)) (W.foldl (λe w =>
    (if 0<cfs (rows.zip w) n then tgt true e.1 (some (cnd nm rows ks ps n w).1,(cnd nm rows ks ps n w).2) else e.1,
     if cfs (rows.zip w) n<0 then tgt false e.2 (some (cnd nm rows ks ps n w).1,(cnd nm rows ks ps n w).2) else e.2)) e).2:=λW=>by
    induction W with
    | nil=>intro c1 c2 e _ h1 h2;simpa using ⟨h1,h2⟩
    | cons w W ih =>
      intro c1 c2 e hl h1 h2;have hl':=λw h=>hl w (E9 _ h);rw[HQ]
      by_cases p:0<cfs (rows.zip w) n
      · have q:¬ cfs (rows.zip w) n<0:=by omega
        rw[Fs p,Fp q,FP (by simpa using p),FG (by simpa using q),FJ,List.append_cons];exact ih (c1++[cnd nm rows ks ps n w]) c2 (tgt true e.1 (some (cnd nm rows ks ps n w).1,(cnd nm rows ks ps n w).2),e.2) hl' (h1.step (hl w (Fe ..) (by omega))) h2
      · by_cases q:cfs (rows.zip w) n<0
        · rw[Fp p,Fs q,FG (by simpa using p),FP (by simpa using q),FJ,List.append_cons];exact ih c1 (c2++[cnd nm rows ks ps n w]) (e.1,tgt false e.2 (some (cnd nm rows ks ps n w).1,(cnd nm rows ks ps n w).2)) hl' h1 (h2.step (hl w (Fe ..) (by omega)))
        · rw[Fp p,Fp q,FG (by simpa using p),FG (by simpa using q)];exact ih c1 c2 e hl' h1 h2
  intro h;simpa using this W [] [] ((none,false),(none,false)) h .nil .nil
theorem sf{x:Str->Rat}{v:Rat}(h:x n=0):∀l:List (Rw×Int),evl (uF x n v) l=evl x l+v*((cfs l n:Int):Rat)
 | []=>by show (0:Rat)=0+v*((0:Int):Rat);rw[show ((0:Int):Rat)=0 from rfl];grind
 | p::r=>by
  show _*(du (uF x n v) p.1.2.1-_)+evl (uF x n v) r=_*(du x p.1.2.1-_)+evl x r+v*((p.2*cf p.1.2.1 n+cfs r n:Int):Rat)
  rw[p8 h,sf h r,Gn,FH];grind
theorem Bt(h:Rws nm rows)(x:Str->Rat)(w:List Int):du x (Ey nm rows w).2.1-((Ey nm rows w).2.2:Int)=evl x (rows.zip w):=by
 rw[pE (x:=x) h.nd (l:=rows.zip w) λp hp=>h.sub p.1 (FA hp).1];have e2:du x (Mf.smT nm (Mf.cfs (rows.zip w)))=mZ x (Mf.cfs (rows.zip w)) nm:=by
  rw[qd h.nd λt ht=>?_]
  ·congr 1;exact funext λn=>(h.smT w).cf n
  ·obtain⟨n,hn,rfl⟩:=E8.mp ht;exact(Fq.mp hn).1
 show du x (Mf.smT nm (Mf.cfs (rows.zip w)))-_=_
 rw[e2];rfl
def dH(h:Rws nm rows)(w:List Int)(n:Str):cf (Ey nm rows w).2.1 n=cfs (rows.zip w) n:=(h.smT w).cf n
theorem ku{w:List Int}{t:Str×Int}(ht:t∈(Ey nm rows w).2.1):t.1∈nm/\cfs (rows.zip w) t.1≠0/\t.2=cfs (rows.zip w) t.1:=by
 obtain⟨n,hn,rfl⟩:=E8.mp ht;obtain⟨h1,h2⟩:=Fq.mp hn;exact⟨h1,by simpa using h2,rfl⟩
theorem yb(H:Rws nm rows){ns:List Str}{x:Str->Rat}(hso:∀w∈EG rows (n::ns),soR x (Ey nm rows w)){l h:List Int}(hl:l∈EG rows ns)(hh:h∈EG rows ns)
    (cl:0<cfs (rows.zip l) n) (ch:cfs (rows.zip h) n<0) :
    -(evl x (rows.zip l)) / ((cfs (rows.zip l) n:Int):Rat) < -(evl x (rows.zip h)) / ((cfs (rows.zip h) n:Int):Rat) \/
      (-(evl x (rows.zip l)) / ((cfs (rows.zip l) n:Int):Rat)=-(evl x (rows.zip h)) / ((cfs (rows.zip h) n:Int):Rat)/\EU (rows.zip l)=false/\EU (rows.zip h)=false):=by
  obtain⟨wl,al⟩:=cB hl;obtain⟨wh,ah⟩:=cB hh;have nl:=rV wl.len wl.nn;have nh:=rV wh.len wh.nn;have c1:(0:Rat)<((cfs (rows.zip l) n:Int):Rat):=jh cl;have c2:((cfs (rows.zip h) n:Int):Rat)<0:=by have:=Rat.intCast_lt_intCast.mpr ch;simpa using this
  have key:=oU (rows:=rows) (n::ns) (λ_=>True) (eV x rows) (λs hs _=>by
    obtain⟨w,hw,rfl⟩:=E8.mp hs
    exact(Cr H (cB hw).1.len).mp (hso w hw)) (λi=>-((cfs (rows.zip h) n:Int):Rat)*EB l i+((cfs (rows.zip l) n:Int):Rat)*EB h i)
    ⟨λi=>by
      have a1:=FU (a:=-((cfs (rows.zip h) n:Int):Rat)) (b:=EB l i) (by grind) (nl.pos i)
      have a2:=FU (a:=((cfs (rows.zip l) n:Int):Rat)) (b:=EB h i) (by grind) (nh.pos i)
      grind,λi hi=>by rw[nl.top i hi,nh.top i hi];grind⟩
    (λc hc=>by
      obtain⟨k,hk,rfl⟩:=E8.mp hc;rw[dE,<- lD wl.len,<- lD wh.len]
      rcases Fj.mp hk with rfl | hk
      · grind
      · rw[al k hk,ah k hk,show ((0:Int):Rat)=0 from rfl];grind) (λ_ _=>trivial)
  unfold sat at key;rw[dE,<- ly wl.len,<- ly wh.len] at key;generalize evl x (rows.zip l)=L at *;generalize evl x (rows.zip h)=R at *;generalize hcl:((cfs (rows.zip l) n:Int):Rat)=a at *;generalize hch:((cfs (rows.zip h) n:Int):Rat)=b at *;have e1:-b*L+a*R=((-R / b)-(-L / a))*(a*(-b)):=by grind
  have pp:=Gk (a:=a) (b:=-b) c1 (by grind)
  rw[e1] at key
  rcases key with k | ⟨k,st⟩
  · refine .inl (Ff λz=>?_);have:=FU (a:=(-L / a)-(-R / b)) (b:=a * -b) (by grind) (by grind)
    grind
  · refine .inr ⟨by rcases Hl.mp k with q | q<;>grind,(qe wl.len).mpr λi hi hp=>st i hi ?_,(qe wh.len).mpr λi hi hp=>st i hi ?_⟩
    · have a1:=Gk (a:=-b) (b:=EB l i) (by grind) hp
      have a2:=FU (a:=a) (b:=EB h i) (by grind) (nh.pos i)
      grind
    · have a1:=FU (a:=-b) (b:=EB l i) (by grind) (nl.pos i)
      have a2:=Gk (a:=a) (b:=EB h i) c1 hp
      grind
theorem back(H:Rws nm rows){ns:List Str}(hso:∀w∈EG rows (n::ns),soR (EC ks ps) (Ey nm rows w))(h0:EC ks ps n=0)
  (hp:∀w∈EG rows ns,∀t∈(Ey nm rows w).2.1,t.1≠n->0<pB ks ps t.1) :
  ET (nmb (EN nm rows ks ps n (EG rows ns)).1.1 (EN nm rows ks ps n (EG rows ns)).2.1).1 (nmb (EN nm rows ks ps n (EG rows ns)).1.1 (EN nm rows ks ps n (EG rows ns)).2.1).2 /\
   ∀w∈EG rows ns,soR (uF (EC ks ps) n (E4 (nmb (EN nm rows ks ps n (EG rows ns)).1.1 (EN nm rows ks ps n (EG rows ns)).2.1))) (Ey nm rows w):=by
 have bo:∀w∈EG rows ns,cfs (rows.zip w) n≠0->ET (cnd nm rows ks ps n w).1.1 (cnd nm rows ks ps n w).1.2/\E4 (cnd nm rows ks ps n w).1=-(evl (EC ks ps) (rows.zip w)) / ((cfs (rows.zip w) n:Int):Rat):=λw hw hc=>by
  have:=Ct (hp w hw) h0 (by rw[dH H];exact hc)
  rw[Bt H,dH H] at this;exact this
 obtain⟨T1,T2⟩:=zH (nm:=nm) (rows:=rows) (ks:=ks) (ps:=ps) (n:=n) (EG rows ns) λw hw hc=>(bo w hw hc).1;generalize EN nm rows ks ps n (EG rows ns)=e at *;obtain⟨lo,hi⟩:=e;simp only at *;have at1:∀p,lo.1=some p->∃l∈EG rows ns,0<cfs (rows.zip l) n/\p=(cnd nm rows ks ps n l).1/\lo.2=!EU (rows.zip l):=λp hp=>by
  obtain⟨_,⟨c,hc,e1,e2⟩,_⟩:=T1.so p hp;obtain⟨l,hl,rfl⟩:=E8.mp hc;obtain⟨hl1,hl2⟩:=Fq.mp hl;exact⟨l,hl1,by simpa using hl2,e1.symm,e2.symm⟩
 have at2:∀p,hi.1=some p->∃l∈EG rows ns,cfs (rows.zip l) n<0/\p=(cnd nm rows ks ps n l).1/\hi.2=!EU (rows.zip l):=λp hp=>by
  obtain⟨_,⟨c,hc,e1,e2⟩,_⟩:=T2.so p hp;obtain⟨l,hl,rfl⟩:=E8.mp hc;obtain⟨hl1,hl2⟩:=Fq.mp hl;exact⟨l,hl1,by simpa using hl2,e1.symm,e2.symm⟩
 obtain⟨low,v1,v2⟩:=Cv (lo:=lo) (hi:=hi) (λp h=>(T1.so p h).1) (λp h=>(T2.so p h).1) λp q hp hq=>by
  obtain⟨l,hl,cl,rfl,sl⟩:=at1 p hp;obtain⟨h,hh,ch,rfl,sh⟩:=at2 q hq;rw[(bo l hl (by omega)).2,(bo h hh (by omega)).2]
  rcases yb H hso hl hh cl ch with k | ⟨k1,k2,k3⟩
  ·exact .inl k
  ·exact .inr ⟨k1,by rw[sl,k2];rfl,by rw[sh,k3];rfl⟩
 refine⟨low,λw hw=>?_⟩;rw[t9 H,sf h0];generalize E4 (nmb lo.1 hi.1)=v at *
 rcases Int.lt_trichotomy (cfs (rows.zip w) n) 0 with c | c | c
 ·obtain⟨_,b2⟩:=bo w hw (by omega);have cr:((cfs (rows.zip w) n:Int):Rat)<0:=by have:=Rat.intCast_lt_intCast.mpr c;simpa using this
  have hm:cnd nm rows ks ps n w∈((EG rows ns).filter λw=>decide (cfs (rows.zip w) n<0)).map (cnd nm rows ks ps n):=E8.mpr ⟨w,Fq.mpr ⟨hw,by simpa using c⟩,rfl⟩
  cases hlo:hi.1 with
  | none=>rw[T2.nn hlo] at hm;cases hm
  | some p =>
   have vv:=v2 p hlo
   have key:v<E4 (cnd nm rows ks ps n w).1\/(v=E4 (cnd nm rows ks ps n w).1/\EU (rows.zip w)=false):=by
    rcases(T2.so p hlo).2.2 _ hm with⟨z1,z2⟩ | ⟨_,z⟩
    ·rw[z1];refine vv.imp id λ⟨y1,y2⟩=>⟨y1,?_⟩;have:(!EU (rows.zip w))=true:=z2 y2;simpa using this
    ·simp only[Bool.false_eq_true,if_false] at z;exact .inl (by grind)
   rw[b2] at key;generalize evl (EC ks ps) (rows.zip w)=L at *;generalize ((cfs (rows.zip w) n:Int):Rat)=a at *;have e1:L+v*a=((-L / a)-v)*(-a):=by grind
   rw[e1]
   rcases key with k | k
   ·exact .inl (Gk (by grind) (by grind))
   ·exact .inr ⟨by rw[<- k.1];grind,k.2⟩
 ·have:=hso w (jq.mpr (.inl ⟨hw,c⟩))
  rw[t9 H] at this;rw[c,show ((0:Int):Rat)=0 from rfl];have e:evl (EC ks ps) (rows.zip w)+v*0=evl (EC ks ps) (rows.zip w):=by grind
  rw[e];exact this
 ·obtain⟨_,b2⟩:=bo w hw (by omega);have cr:(0:Rat)<((cfs (rows.zip w) n:Int):Rat):=jh c;have hm:cnd nm rows ks ps n w∈((EG rows ns).filter λw=>decide (0<cfs (rows.zip w) n)).map (cnd nm rows ks ps n):=E8.mpr ⟨w,Fq.mpr ⟨hw,by simpa using c⟩,rfl⟩
  cases hlo:lo.1 with
  | none=>rw[T1.nn hlo] at hm;cases hm
  | some p =>
   have vv:=v1 p hlo
   have key:E4 (cnd nm rows ks ps n w).1<v\/(E4 (cnd nm rows ks ps n w).1=v/\EU (rows.zip w)=false):=by
    rcases(T1.so p hlo).2.2 _ hm with⟨z1,z2⟩ | ⟨_,z⟩
    ·rw[z1];refine vv.imp id λ⟨y1,y2⟩=>⟨y1,?_⟩;have:(!EU (rows.zip w))=true:=z2 y2;simpa using this
    ·simp only[if_true] at z;exact .inl (by grind)
   rw[b2] at key;generalize evl (EC ks ps) (rows.zip w)=L at *;generalize ((cfs (rows.zip w) n:Int):Rat)=a at *;have e1:L+v*a=(v-(-L / a))*a:=by grind
   rw[e1]
   rcases key with k | k
   ·exact .inl (Gk (by grind) (by grind))
   ·exact .inr ⟨by rw[<- k.1];grind,k.2⟩
def fbk(nm:List Str)(rows:List Rw):List Str->List Str->List (Int×Int)->List (Int×Int)
 | [],_,ps=>ps
 | n::ns,ks,ps=>fbk nm rows ns (ks++[n]) (ps++[nmb (EN nm rows ks ps n (EG rows ns)).1.1 (EN nm rows ks ps n (EG rows ns)).2.1])
theorem oN{α:Type}{k:Str}{v:α}:∀ {ks:List Str} {ps:List α},ps.length=ks.length->n∉ks->dAt (ks++[n]) (ps++[v]) k=if k=n then some v else dAt ks ps k
 | [],[],_,_=>by
  show (if n=k then some v else dAt [] [] k)=if k=n then some v else none
  by_cases e:n=k
  ·rw[Fs e,Fs e.symm]
  ·rw[Fp e,Fp λz=>e z.symm];rfl
 | x::ks,p::ps,h,hn=>by
  rw[Fj,not_or] at hn;show (if x=k then some p else dAt (ks++[n]) (ps++[v]) k)=_;rw[oN (by simpa using h) hn.2]
  by_cases e:x=k
  ·rw[Fs e,Fp λz=>hn.1 (z.symm.trans e.symm)];show _=if x=k then some p else dAt ks ps k;rw[Fs e]
  ·rw[Fp e];show _=if k=n then some v else if x=k then some p else dAt ks ps k;rw[Fp e]
theorem fJ{k:Str}{v:Int×Int}(h:ps.length=ks.length)(hn:n∉ks):rF (ks++[n]) (ps++[v]) k=if k=n then v else rF ks ps k:=by
 unfold rF;rw[oN h hn]
 by_cases e:k=n
 ·rw[Fs e,Fs e];rfl
 ·rw[Fp e,Fp e]
theorem ql{v:Int×Int}(h:ps.length=ks.length)(hn:n∉ks):EC (ks++[n]) (ps++[v])=uF (EC ks ps) n (E4 v):=by
 funext k
 unfold EC uF;rw[fJ h hn]
 by_cases e:k=n
 ·rw[Fs e,Fs e]
 ·rw[Fp e,Fp e]
theorem vQ(h:n∉ks):rF ks ps n=(0,1):=by
 unfold rF;rw[m8 h];rfl
theorem sN(h:n∉ks):EC ks ps n=0:=by
 unfold EC E4;rw[vQ h,show ((((0,1):Int×Int).1:Int):Rat)=0 from rfl];grind
theorem xk(H:Rws nm rows):∀(ns ks:List Str) (ps:List (Int×Int)),ps.length=ks.length->(∀p∈ps,ET p.1 p.2)->(ks++ns).Nodup->(∀n∈nm,n∈ks\/n∈ns)->(∀w∈EG rows ns,soR (EC ks ps) (Ey nm rows w)) ->
  (fbk nm rows ns ks ps).length=(ks++ns).length/\(∀p∈fbk nm rows ns ks ps,ET p.1 p.2)/\ps <+: fbk nm rows ns ks ps/\∀w∈EG rows [],soR (EC (ks++ns) (fbk nm rows ns ks ps)) (Ey nm rows w)
 | [],ks,ps,hl,lo,nd,hm,hs=>by
  rw[FZ];exact⟨hl,lo,List.prefix_refl _,hs⟩
 | n::ns,ks,ps,hl,lo,nd,hm,hs=>by
  have nd':(ks++[n]++ns).Nodup:=by simpa using nd
  have hn:n∉ks:=λz=>by
   have:=(Hv.mp nd).2.2 n z n (Fe ..)
   exact this rfl
  have hp:∀w∈EG rows ns,∀t∈(Ey nm rows w).2.1,t.1≠n->0<pB ks ps t.1:=λw hw t ht hne=>by
   obtain⟨h1,h2,_⟩:=ku ht;have:t.1∈ks:=by
    rcases hm t.1 h1 with z | z
    ·exact z
    ·rcases Fj.mp z with z | z
     ·exact absurd z hne
     ·exact absurd ((cB hw).2 _ z) h2
   have P:Pt ks ps (ps.foldl (λa p=>a+Builtin.Int.intBits p.1+Builtin.Int.intBits p.2) 0):=⟨hl,lo,λp hp=>?_,λp hp=>?_⟩
   ·exact P.pos this
   ·exact(bits_fold ps 0 p hp).1
   ·exact(bits_fold ps 0 p hp).2
  obtain⟨b1,b2⟩:=back H hs (sN hn) hp
  obtain⟨c1,c2,c3,c4⟩:=xk H ns (ks++[n]) (ps++[_]) (by simp[hl]) (λp hp=>(Fk.mp hp).elim (lo p) λz=>by rw[Fn.mp z];exact b1) nd' (λk hk=>by
   rcases hm k hk with z | z
   ·exact .inl (Fx _ z)
   ·rcases Fj.mp z with z | z
    ·exact .inl (Fo _ (Fn.mpr z))
    ·exact .inr z) (λw hw=>by rw[ql hl hn];exact b2 w hw)
  have e:ks++n::ns=ks++[n]++ns:=by simp
  rw[e];exact⟨c1,c2,(List.prefix_append ..).trans c3,c4⟩
where
 bits_fold:∀(l:List (Int×Int)) (a:Nat),∀p∈l,Builtin.Int.intBits p.1<=l.foldl (λa p=>a+Builtin.Int.intBits p.1+Builtin.Int.intBits p.2) a/\Builtin.Int.intBits p.2<=l.foldl (λa p=>a+Builtin.Int.intBits p.1+Builtin.Int.intBits p.2) a
  | q::l,a,p,h=>by
   rw[HQ];have mono:∀(l:List (Int×Int)) (a:Nat),a<=l.foldl (λa p=>a+Builtin.Int.intBits p.1+Builtin.Int.intBits p.2) a:=λl=>by
    induction l with
    | nil=>intro a;exact Fh a
    | cons q l ih=>intro a;rw[HQ];exact Fa (by omega) (ih _)
   rcases Fj.mp h with rfl | h
   ·have:=mono l (a+Builtin.Int.intBits p.1+Builtin.Int.intBits p.2)
    omega
   ·exact bits_fold l _ p h
theorem pR(H:Rws nm rows){j:Nat}{r:Rw}(hj:rows[j]?=some r):Ey nm rows (unW rows.length j)=r:=by
 have hr:=Fm hj
 have hlt:j<rows.length:=(List.getElem?_eq_some_iff.mp hj).1
 have z:∀ {i:Nat} {rs:List Rw} (k:Nat),k+rs.length<=i->∀n,cfs (rs.zip ((List.range' k rs.length).map λx=>if x=i then (1:Int) else 0)) n=0/\bds (rs.zip ((List.range' k rs.length).map λx=>if x=i then (1:Int) else 0))=0/\EU (rs.zip ((List.range' k rs.length).map λx=>if x=i then (1:Int) else 0))=false:=λ{i rs}=>by
  induction rs with
  | nil=>intro k _ n;exact⟨rfl,rfl,rfl⟩
  | cons a rs ih =>
   intro k hk n;rw[Fl] at hk;obtain⟨i1,i2,i3⟩:=ih (k+1) (by omega) n;rw[Fl,List.range'_succ,FJ,Fp (by omega)];refine⟨?_,?_,?_⟩
   ·show 0*cf a.2.1 n+cfs (rs.zip _) n=0
    rw[i1];omega
   ·show 0*a.2.2+bds (rs.zip _)=0
    rw[i2];omega
   ·show ((isM a.1&&decide ((0:Int)<0))||EU (rs.zip _))=false
    rw[i3];simp
 have z2:∀ {i:Nat} {rs:List Rw} (k:Nat),i<k->∀n,cfs (rs.zip ((List.range' k rs.length).map λx=>if x=i then (1:Int) else 0)) n=0/\bds (rs.zip ((List.range' k rs.length).map λx=>if x=i then (1:Int) else 0))=0/\EU (rs.zip ((List.range' k rs.length).map λx=>if x=i then (1:Int) else 0))=false:=λ{i rs}=>by
  induction rs with
  | nil=>intro k _ n;exact⟨rfl,rfl,rfl⟩
  | cons a rs ih =>
   intro k hk n;obtain⟨i1,i2,i3⟩:=ih (k+1) (by omega) n;rw[Fl,List.range'_succ,FJ,Fp (by omega)];refine⟨?_,?_,?_⟩
   ·show 0*cf a.2.1 n+cfs (rs.zip _) n=0
    rw[i1];omega
   ·show 0*a.2.2+bds (rs.zip _)=0
    rw[i2];omega
   ·show ((isM a.1&&decide ((0:Int)<0))||EU (rs.zip _))=false
    rw[i3];simp
 have key:∀ {rs:List Rw} (k i:Nat),rs[i]?=some r->∀n,cfs (rs.zip ((List.range' k rs.length).map λx=>if x=k+i then (1:Int) else 0)) n=cf r.2.1 n/\bds (rs.zip ((List.range' k rs.length).map λx=>if x=k+i then (1:Int) else 0))=r.2.2/\EU (rs.zip ((List.range' k rs.length).map λx=>if x=k+i then (1:Int) else 0))=isM r.1:=λ{rs}=>by
  induction rs with
  | nil=>intro k i h;cases h
  | cons a rs ih =>
   intro k i h n;rw[Fl,List.range'_succ,FJ]
   cases i with
   | zero =>
    cases h
    obtain⟨i1,i2,i3⟩:=z2 (i:=k) (rs:=rs) (k+1) (by omega) n;rw[Fs (by omega)];refine⟨?_,?_,?_⟩
    ·show 1*cf r.2.1 n+cfs (rs.zip _) n=_
     rw[Nat.add_zero,i1];omega
    ·show 1*r.2.2+bds (rs.zip _)=_
     rw[Nat.add_zero,i2];omega
    ·show ((isM r.1&&decide ((0:Int)<1))||EU (rs.zip _))=_
     rw[Nat.add_zero,i3];simp
   | succ i =>
    obtain⟨i1,i2,i3⟩:=ih (k+1) i h n;rw[Fp (by omega),show k+(i+1)=k+1+i by omega];refine⟨?_,?_,?_⟩
    ·show 0*cf a.2.1 n+cfs (rs.zip _) n=_
     rw[i1];omega
    ·show 0*a.2.2+bds (rs.zip _)=_
     rw[i2];omega
    ·show ((isM a.1&&decide ((0:Int)<0))||EU (rs.zip _))=_
     rw[i3];simp
 have k0:=key (rs:=rows) 0 j hj
 have e:unW rows.length j=(List.range' 0 rows.length).map λx=>if x=0+j then (1:Int) else 0:=by unfold unW;rw[List.range_eq_range',Nat.zero_add]
 rw[<- e] at k0;have f1:(λn=>cfs (rows.zip (unW rows.length j)) n)=cf r.2.1:=funext λn=>(k0 n).1;have s1:=H.smT (unW rows.length j);unfold Ey;have t1:Mf.smT nm (Mf.cfs (rows.zip (unW rows.length j)))=r.2.1:=by
  have f2:Mf.cfs (rows.zip (unW rows.length j))=cf r.2.1:=f1
  rw[f2] at s1 ⊢;exact s1.uniq (H.sum r hr)
 rw[t1,(k0 "").2.1,(k0 "").2.2];obtain⟨k,ts,b⟩:=r
 cases k<;>rfl
end Mf
namespace Mf
open PySem L2 DL
variable {n:Str} {c:Nat} {rows:List Rw}
abbrev ib(x:Int):Nat:=Builtin.Int.intBits x
def wb(B m:Nat):Nat->Nat
 | 0=>1
 | k+1=>2*wb B m k+B+m+1
def cb(B m k:Nat):Nat:=wb B m k+B+m
structure RwB(B:Nat)(rows:List Rw):Prop where
 tm:∀r∈rows,∀t∈r.2.1,ib t.2<=B
 bd:∀r∈rows,ib r.2.2<=B
theorem ib0:ib 0=0:=by decide
theorem zQ{ts:List (Str×Int)}{B:Nat}(nd:(ts.map (·.1)).Nodup)(h:∀t∈ts,ib t.2<=B):ib (cf ts n)<=B:=by
 by_cases e:n∈ts.map (·.1)
 ·obtain⟨t,ht,rfl⟩:=E8.mp e;rw[mz nd ht];exact h t ht
 ·rw[iW e,ib0];exact GM _
theorem oG{B W:Nat}{n:Str}:∀ {l:List (Rw×Int)},(∀p∈l,ib (cf p.1.2.1 n)<=B/\ib p.2<=W)->ib (cfs l n)<=W+B+l.length
 | [],_=>by show ib 0<=_;rw[ib0];omega
 | p::r,h=>by
  have h1:=h p (Fe ..)
  have:=Gx (FK h1.2 h1.1) (oG (B:=B) (W:=W) (n:=n) λq hq=>h q (E9 _ hq))
  show ib (p.2*cf p.1.2.1 n+cfs r n)<=_
  rw[Fl];unfold ib;omega
theorem kZ{B W:Nat}:∀ {l:List (Rw×Int)},(∀p∈l,ib p.1.2.2<=B/\ib p.2<=W)->ib (bds l)<=W+B+l.length
 | [],_=>by show ib 0<=_;rw[ib0];omega
 | p::r,h=>by
  have h1:=h p (Fe ..)
  have:=Gx (FK h1.2 h1.1) (kZ (B:=B) (W:=W) λq hq=>h q (E9 _ hq))
  show ib (p.2*p.1.2.2+bds r)<=_
  rw[Fl];unfold ib;omega
section
variable {nm:List Str} {rows:List Rw} {B:Nat}
theorem Rws.cfb(H:Rws nm rows)(hb:RwB B rows){w:List Int}{W:Nat}(hw:∀a∈w,ib a<=W)(n:Str):ib (Mf.cfs (rows.zip w) n)<=W+B+rows.length:=by
 refine Fa (oG (B:=B) (W:=W) λp hp=>⟨zQ (H.sum _ (FA hp).1).nd (hb.tm _ (FA hp).1),hw _ (FA hp).2⟩) ?_;rw[Gj];omega
theorem Rws.bdb(hb:RwB B rows){w:List Int}{W:Nat}(hw:∀a∈w,ib a<=W):ib (Mf.bds (rows.zip w))<=W+B+rows.length:=by
 refine Fa (kZ (B:=B) (W:=W) λp hp=>⟨hb.bd _ (FA hp).1,hw _ (FA hp).2⟩) ?_;rw[Gj];omega
theorem tQ{a b:Int}{W C:Nat}(ha:ib a<=C)(hb:ib b<=C):∀ {l h:List Int},(∀x∈l,ib x<=W)->(∀x∈h,ib x<=W)->∀x∈List.zipWith (λx y=>x*a+y*b) l h,ib x<=W+C+1
 | [],_,_,_,x,hx=>by simp at hx
 | _::_,[],_,_,x,hx=>by simp at hx
 | u::l,v::h,h1,h2,x,hx=>by
  rw[Ho] at hx
  rcases Fj.mp hx with rfl | hx
  ·have:=Gx (FK (h1 u (Fe ..)) ha) (FK (h2 v (Fe ..)) hb)
   unfold ib;omega
  ·exact tQ ha hb (λx hx=>h1 x (E9 _ hx)) (λx hx=>h2 x (E9 _ hx)) x hx
theorem tH{B m k:Nat}:wb B m k<=wb B m (k+1):=by
 show wb B m k<=2*wb B m k+B+m+1
 omega
def lg(H:Rws nm rows)(hb:RwB B rows){l h:List Int}{k:Nat}(hl:∀a∈l,ib a<=wb B rows.length k)(hh:∀a∈h,ib a<=wb B rows.length k):∀a∈crS rows n l h,ib a<=wb B rows.length (k+1):=λa ha=>by
 have:=tQ (C:=cb B rows.length k) (G9 (H.cfb hb hh n)) (H.cfb hb hl n) hl hh a ha
 show ib a<=2*wb B rows.length k+B+rows.length+1
 unfold cb at this;omega
theorem cV(H:Rws nm rows)(hb:RwB B rows):∀ {ns:List Str} {w:List Int},w∈EG rows ns->∀a∈w,ib a<=wb B rows.length ns.length
 | [],w,h,a,ha=>by
  obtain⟨j,hj,rfl⟩:=E8.mp h;obtain⟨i,_,rfl⟩:=E8.mp ha;show ib _<=1
  split<;>decide
 | n::ns,w,h,a,ha=>by
  rw[Fl]
  rcases jq.mp h with⟨h1,h2⟩ | ⟨l,hl,cl,k,hk,ck,rfl,_⟩
  ·exact Fa (cV H hb h1 a ha) tH
  ·obtain⟨b,hb',rfl⟩:=E8.mp ha;exact F4 (lg H hb (cV H hb hl) (cV H hb hk) b hb')
end
theorem zab{z a b:Nat}(h1:z+a+b<=c)(h4:4<=c):z+a*b<=c*c / 4:=by
 refine(Hz (by decide)).mpr ?_;have e1:4*(a*b)<=(a+b)*(a+b):=by
  have:(a+b)*(a+b)=a*a+2*(a*b)+b*b:=by rw[Nat.add_mul,Hw,Hw,Nat.mul_comm b a];omega
  rcases Nat.le_total a b with q | q
  ·obtain⟨d,rfl⟩:=Hm q;have e:(a+d)*(a+d)=a*a+2*(a*d)+d*d:=by rw[Nat.add_mul,Hw,Hw,Nat.mul_comm d a];omega
   have e':a*(a+d)=a*a+a*d:=Hw ..
   omega
  ·obtain⟨d,rfl⟩:=Hm q;have e:(b+d)*(b+d)=b*b+2*(b*d)+d*d:=by rw[Nat.add_mul,Hw,Hw,Nat.mul_comm d b];omega
   have e':(b+d)*b=b*b+b*d:=by rw[Nat.add_mul,Nat.mul_comm d b]
   omega
 have e2:(a+b)*(a+b)+4*z<=c*c:=by
  obtain⟨t,ht⟩:=Hm (show a+b+z<=c by omega);have hs:c*c=(a+b)*(a+b)+(z+t)*(a+b+c):=by
   have:c=(a+b)+(z+t):=by omega
   generalize hx:a+b=x at *
   generalize hy:z+t=y at *
   subst this
   grind
  rw[hs];have:(z+t)*(a+b+c) ≥ z*4:=Ha (by omega) (by omega);omega
 omega
theorem cnt3{rows:List Rw}{n:Str}:∀W:List (List Int),(W.filter λw=>decide (cfs (rows.zip w) n=0)).length+(W.filter λw=>decide (0<cfs (rows.zip w) n)).length+(W.filter λw=>decide (cfs (rows.zip w) n<0)).length=W.length
 | []=>rfl
 | w::W=>by
  have ih:=cnt3 (rows:=rows) (n:=n) W
  rcases Int.lt_trichotomy (cfs (rows.zip w) n) 0 with q | q | q
  ·rw[FG (by simp;omega),FG (by simp;omega),FP (by simpa using q),Fl,Fl];omega
  ·rw[FP (by simpa using q),FG (by simp;omega),FG (by simp;omega),Fl,Fl];omega
  ·rw[FG (by simp;omega),FP (by simpa using q),FG (by simp;omega),Fl,Fl];omega
theorem kU{rows:List Rw}{n:Str}{most:Nat}(R:List (List Int)):∀L:List (List Int),(L.flatMap λl=>(R.map (crW rows n l)).filter λu=>decide (usd u<=most)).length<=L.length*R.length
 | []=>by simp
 | l::L=>by
  have ih:=kU (rows:=rows) (n:=n) (most:=most) R L
  rw[List.flatMap_cons,Fi,Fl,Nat.succ_mul];have:=G5 (λu=>decide (usd u<=most)) (R.map (crW rows n l));rw[E7] at this;omega
theorem wu{most:Nat}{W:List (List Int)}(h:W.length<=c)(h4:4<=c):(woW rows n most W).length<=c*c / 4:=by
 unfold woW;rw[Fi];have h1:=cnt3 (rows:=rows) (n:=n) W;have h2:=kU (rows:=rows) (n:=n) (most:=most) (W.filter λw=>decide (cfs (rows.zip w) n<0)) (W.filter λw=>decide (0<cfs (rows.zip w) n));exact Fa (Nat.add_le_add_left h2 _) (zab (by omega) h4)
def cnt:Nat->Nat->Nat
 | c,0=>c
 | c,k+1=>cnt c k*cnt c k / 4
theorem uD(h:rows.length<=c)(h4:4<=c):∀ns:List Str,(EG rows ns).length<=cnt c ns.length/\4<=cnt c ns.length
 | []=>⟨by show (uI rows.length).length<=c;unfold uI;rw[E7,GA];exact h,h4⟩
 | n::ns=>by
  obtain⟨h1,h2⟩:=uD h h4 ns;refine⟨wu h1 h2,?_⟩;show 4<=cnt c ns.length*cnt c ns.length / 4;refine(Hz (by decide)).mpr ?_;exact Ha h2 h2
theorem nq{p q N z:Int}(h:ET p q)(e:((N:Int):Rat)*E4 (p,q)=(z:Int)):q ∣ N:=by
 have hq:=fA h.ne
 have e2:((N*p:Int):Rat)=((z*q:Int):Rat):=by
  rw[FH,FH,<- e];show _=((N:Int):Rat)*(((p:Int):Rat) / ((q:Int):Rat))*_
  grind
 have e3:N*p=z*q:=HN.mp e2
 have d:q ∣ p*N:=⟨z,by rw[Gc p,e3,Gc]⟩
 have g:Int.gcd q p=1:=by rw[Int.gcd_comm];exact h.cop'
 have k:=(G4 (k:=q) (n:=p) (m:=N)).mpr d
 rw[g] at k;simpa using k
def eD{a b:Int}{n:Nat}(h:a ∣ b)(h0:b≠0)(hb:ib b<=n):ib a<=n:=intBits_le_of_natAbs (Nat.le_of_dvd (by omega) (Int.natAbs_dvd_natAbs.mpr h)) hb
theorem nL{q:Str->Int}:∀ {l ks:List Str},l.Nodup->(∀n∈l,n∈ks)->ED q l ∣ ED q ks
 | [],ks,_,_=>⟨ED q ks,(Int.one_mul _).symm⟩
 | n::l,ks,nd,h=>by
  obtain⟨h1,h2⟩:=F9.mp nd;have hn:=h n (Fe ..);have e:ED q ks=q n*ED q (ks.erase n):=uN (List.perm_cons_erase hn);have:=nL (q:=q) (l:=l) (ks:=ks.erase n) h2 λk hk=>(List.mem_erase_of_ne (λ(z:k=n)=>h1 (z ▸ hk))).mpr (h k (E9 _ hk));rw[e];exact Int.mul_dvd_mul (Int.dvd_refl _) this
theorem mB{q q':Str->Int}:∀ {l:List Str},(∀n∈l,q n=q' n)->ED q l=ED q' l
 | [],_=>rfl
 | n::l,h=>by show q n*_=q' n*_;rw[h n (Fe ..),mB λk hk=>h k (E9 _ hk)]
theorem kd{f:Str->Int}{c m:Nat}:∀ {ts:List (Str×Int)},(∀t∈ts,ib t.2<=c/\ib (f t.1)<=m)->ib (et f ts)<=c+m+ts.length
 | [],_=>by show ib 0<=_;rw[ib0];omega
 | t::r,h=>by
  have h1:=h t (Fe ..)
  have h2:=Gx (FK h1.1 h1.2) (kd (c:=c) (m:=m) λu hu=>h u (E9 _ hu))
  show ib (t.2*f t.1+et f r)<=_
  rw[Fl];unfold ib;omega
structure oy(L:Int)(c g κ T:Nat)(p:Int×Int):Prop where
 low:ET p.1 p.2
 bb:ib p.2<=c+g
 tb:ib p.1<=c+T+κ+70
 wh:∃N z:Int,N≠0/\ib N<=c/\((N*L:Int):Rat)*E4 p=(z:Int)
theorem uX{ks:List Str}{ps:List (Int×Int)}{r:Rw}{κ g T:Nat}{L:Int}(P:Pt ks ps T)(hκ:ib (ED (pB ks ps) ks)<=κ)(L0:L≠0)(hL:∀k∈ks,pB ks ps k ∣ L)(hg:ib L<=g)(nd:(r.2.1.map (·.1)).Nodup)(hk:ks.length<=60)
  (hp:∀t∈r.2.1,t.1≠n->t.1∈ks) (hc:cf r.2.1 n≠0) (hcb:ib (cf r.2.1 n)<=c) (htb:∀t∈r.2.1,ib t.2<=c) (hbb:ib r.2.2<=c):oy L c g κ T (bnd ks ps n r):=by
 unfold bnd;have ho:∀t∈r.2.1.filter (λt=>decide (t.1≠n)),t.1∈ks/\ib t.2<=c:=λt ht=>by
  obtain⟨h1,h2⟩:=Fq.mp ht;exact⟨hp t h1 (by simpa using h2),htb t h1⟩
 have ndo:((r.2.1.filter (λt=>decide (t.1≠n))).map (·.1)).Nodup:=nd.sublist (List.filter_sublist.map _)
 generalize ho':r.2.1.filter (λt=>decide (t.1≠n))=o at *
 have hon:∀k∈o.map (·.1),k∈ks:=λk hk=>by
  obtain⟨t,ht,rfl⟩:=E8.mp hk;exact(ho t ht).1
 have hlen:o.length<=60:=by
  have:=gL ndo hon
  rw[E7] at this;omega
 have hK:0<ED (pB ks ps) (o.map (·.1)):=dF λk hk=>P.pos (hon k hk)
 have hKa:0<ED (pB ks ps) ks:=dF λk hk=>P.pos hk
 have hd:=nL (q:=pB ks ps) ndo hon
 have hKb:ib (ED (pB ks ps) (o.map (·.1)))<=κ:=eD hd (by omega) hκ
 have hsb:ib (et (ov (pT ks ps) (pB ks ps) (ED (pB ks ps) (o.map (·.1)))) o)<=c+(T+κ)+o.length:=kd λt ht=>⟨(ho t ht).2,FK (P.Tb (ho t ht).1) (F4 hKb)⟩
 have r1:=pG (ks:=ks) (ps:=ps) (K:=ED (pB ks ps) (o.map (·.1))) (ts:=o) λt ht=>⟨P.pos (ho t ht).1,fW (E8.mpr ⟨t,ht,rfl⟩)⟩
 have r2:=pG (ks:=ks) (ps:=ps) (K:=L) (ts:=o) λt ht=>⟨P.pos (ho t ht).1,hL _ (ho t ht).1⟩
 simp only;generalize ED (pB ks ps) (o.map (·.1))=K at *;have hcK:cf r.2.1 n*K≠0:=F1 hc (by omega);have lw:=eO (r.2.2*K-et (ov (pT ks ps) (pB ks ps) K) o) hcK;have wh:((cf r.2.1 n*L:Int):Rat)*E4 (EM (r.2.2*K-et (ov (pT ks ps) (pB ks ps) K) o) (cf r.2.1 n*K),EF (r.2.2*K-et (ov (pT ks ps) (pB ks ps) K) o) (cf r.2.1 n*K))=((r.2.2*L-et (ov (pT ks ps) (pB ks ps) L) o:Int):Rat):=by
  rw[jg _ hcK];have h1:=fA hc;have h2:=fA (show K≠0 by omega);simp only[Rat.intCast_mul,Rat.intCast_sub,r1,r2];generalize du (EC ks ps) o=x at *;generalize ((cf r.2.1 n:Int):Rat)=a at *;generalize ((K:Int):Rat)=b at *;generalize ((L:Int):Rat)=d at *;generalize ((r.2.2:Int):Rat)=e at *
  grind
 refine⟨lw,eD (nq lw wh) (F1 hc L0) (FK hcb hg),?_,?_⟩
 ·have:=intBits_sub_le (FK hbb hKb) hsb
  exact Fa (F4 this) (by omega)
 ·exact⟨cf r.2.1 n,_,hc,hcb,wh⟩
theorem xi{lo:Bool}{Pr:Int×Int->Prop}{a b:En2}(ha:∀p,a.1=some p->Pr p)(hb:∀p,b.1=some p->Pr p):∀p,(tgt lo a b).1=some p->Pr p:=by
 obtain⟨a1,a2⟩:=a;obtain⟨b1,b2⟩:=b;intro p h
 cases a1 with
 | none=>exact hb p h
 | some x =>
  cases b1 with
  | none=>exact ha p h
  | some y =>
   have h:(if x=y then ((some x,a2&&b2):En2) else if decide (y.1*x.2<x.1*y.2)=lo then (some x,a2) else (some y,b2)).1=some p:=h
   split at h
   ·exact ha p h
   ·split at h
    ·exact ha p h
    ·exact hb p h
theorem xE{nm:List Str}{ks:List Str}{ps:List (Int×Int)}{Pr:Int×Int->Prop}:∀ {W:List (List Int)},(∀w∈W,cfs (rows.zip w) n≠0->Pr (cnd nm rows ks ps n w).1)->(∀p,(EN nm rows ks ps n W).1.1=some p->Pr p)/\∀p,(EN nm rows ks ps n W).2.1=some p->Pr p:=by
  intro W;unfold EN
  have:∀(W:List (List Int)) (e:En2×En2),(∀w∈W,cfs (rows.zip w) n≠0->Pr (cnd nm rows ks ps n w).1)->(∀p,e.1.1=some p->Pr p)->(∀p,e.2.1=some p->Pr p)->(∀p,(W.foldl (λe w =>
    (if 0<cfs (rows.zip w) n then tgt true e.1 (some (cnd nm rows ks ps n w).1,(cnd nm rows ks ps n w).2) else e.1,
     if cfs (rows.zip w) n<0 then tgt false e.2 (some (cnd nm rows ks ps n w).1,(cnd nm rows ks ps n w).2) else e.2)) e).1.1=some p->Pr p)/\∀p,(W.foldl (λe w =>
    (if 0<cfs (rows.zip w) n then tgt true e.1 (some (cnd nm rows ks ps n w).1,(cnd nm rows ks ps n w).2) else e.1,
     if cfs (rows.zip w) n<0 then tgt false e.2 (some (cnd nm rows ks ps n w).1,(cnd nm rows ks ps n w).2) else e.2)) e).2.1=some p->Pr p:=λW=>by
    induction W with
    | nil=>intro e _ h1 h2;exact⟨h1,h2⟩
    | cons w W ih =>
      intro e h h1 h2;rw[HQ];refine ih _ (λw hw=>h w (E9 _ hw)) ?_ ?_
      · show ∀p,(if 0<cfs (rows.zip w) n then tgt true e.1 (some (cnd nm rows ks ps n w).1,(cnd nm rows ks ps n w).2) else e.1).1=some p->Pr p
        by_cases q:0<cfs (rows.zip w) n
        · rw[Fs q];exact xi h1 λp hp=>by cases hp;exact h w (Fe ..) (by omega)
        · rw[Fp q];exact h1
      · show ∀p,(if cfs (rows.zip w) n<0 then tgt false e.2 (some (cnd nm rows ks ps n w).1,(cnd nm rows ks ps n w).2) else e.2).1=some p->Pr p
        by_cases q:cfs (rows.zip w) n<0
        · rw[Fs q];exact xi h2 λp hp=>by cases hp;exact h w (Fe ..) (by omega)
        · rw[Fp q];exact h2
  exact λh=>this W _ h (λp hp=>nomatch hp) λp hp=>nomatch hp
theorem wf{L:Int}{g κ T:Nat}{lo hi:Option (Int×Int)}(h0:L≠0)(hg:ib L<=g)(hgκ:g<=κ)(h1:∀p,lo=some p->oy L c g κ T p)(h2:∀p,hi=some p->oy L c g κ T p) :
  ib (nmb lo hi).1<=2*(c+T+κ+72)+2/\ib (nmb lo hi).2<=2*c+g+2/\∃M:Int,M≠0/\ib M<=2*c+2/\(nmb lo hi).2 ∣ M*L:=by
 have key:ib (nmb lo hi).1<=2*(c+T+κ+72)+2/\∃M:Int,M≠0/\ib M<=2*c+2/\(nmb lo hi).2 ∣ M*L:=?_
 ·obtain⟨k1,M,m0,mb,md⟩:=key;refine⟨k1,eD md (F1 m0 h0) ?_,M,m0,mb,md⟩;have:=FK mb hg;unfold ib;omega
 have i1:ib 1=1:=by decide
 have o1:∀a,∃M:Int,M≠0/\ib M<=2*c+2/\EF a 1 ∣ M*L:=λa=>⟨1,by decide,by omega,by rw[(qc a).2];exact Int.one_dvd _⟩
 have o2:∀ {p:Int×Int} {z:Int},ib p.1<=c+T+κ+70->ib z<=1->ib (EM (p.1.fdiv p.2+z) 1)<=2*(c+T+κ+72)+2:=λ{p z} h hz=>by
  rw[(qc _).1];have:=Gx (F4 (y:=p.2) h) hz;unfold ib;omega
 unfold nmb
 cases lo with
 | none =>
  cases hi with
  | none=>exact⟨by show ib 0<=_;rw[ib0];omega,1,by decide,by omega,Int.one_dvd _⟩
  | some h=>exact⟨o2 (p:=h) (z:=-1) (h2 h rfl).tb (by decide),o1 _⟩
 | some l =>
  cases hi with
  | none=>exact⟨o2 (p:=l) (z:=1) (h1 l rfl).tb (by decide),o1 _⟩
  | some h =>
   have cl:=h1 l rfl
   have ch:=h2 h rfl
   simp only
   by_cases k:EM (l.1.fdiv l.2+1) 1*h.2<h.1*EF (l.1.fdiv l.2+1) 1
   ·rw[Fs k];exact⟨o2 (p:=l) (z:=1) cl.tb (by decide),o1 _⟩
   ·rw[Fp k];obtain⟨N1,z1,n1,b1,w1⟩:=cl.wh;obtain⟨N2,z2,n2,b2,w2⟩:=ch.wh
    by_cases e:l=h
    ·rw[Fs e];have b:=cl.tb;exact⟨by omega,N1,n1,by omega,nq (p:=l.1) cl.low w1⟩
    ·rw[Fp e];have nz:l.2*h.2≠0:=F1 cl.low.ne ch.low.ne;have sl:=eO (l.1*h.2+h.1*l.2) nz;have nz2:EF (l.1*h.2+h.1*l.2) (l.2*h.2)*2≠0:=F1 sl.ne (by decide);have e1:E4 (EM (l.1*h.2+h.1*l.2) (l.2*h.2),EF (l.1*h.2+h.1*l.2) (l.2*h.2))=E4 l+E4 h:=by
      rw[jg _ nz,Gn,FH,FH,FH];have a1:=fA cl.low.ne;have a2:=fA ch.low.ne;unfold E4
      grind
     have e2:E4 (EM (EM (l.1*h.2+h.1*l.2) (l.2*h.2)*1) (EF (l.1*h.2+h.1*l.2) (l.2*h.2)*2),EF (EM (l.1*h.2+h.1*l.2) (l.2*h.2)*1) (EF (l.1*h.2+h.1*l.2) (l.2*h.2)*2))=(E4 l+E4 h) / 2:=by
      rw[jg _ nz2,<- e1,FH,FH,show ((1:Int):Rat)=1 from rfl,show ((2:Int):Rat)=2 from rfl];have a1:=fA sl.ne;unfold E4
      grind
     have dv:EF (EM (l.1*h.2+h.1*l.2) (l.2*h.2)*1) (EF (l.1*h.2+h.1*l.2) (l.2*h.2)*2) ∣ 2*(N1*N2)*L:=by
      refine nq (z:=N2*z1+N1*z2) (eO _ nz2) ?_;rw[e2];simp only[Rat.intCast_mul,Rat.intCast_add] at w1 w2 ⊢;rw[show ((2:Int):Rat)=2 from rfl]
      grind
     refine⟨?_,2*(N1*N2),F1 (by decide) (F1 n1 n2),?_,dv⟩
     ·have s1:=Gx (FK cl.tb ch.bb) (FK ch.tb cl.bb)
      have s2:ib (EM (l.1*h.2+h.1*l.2) (l.2*h.2)*1)<=2*(c+T+κ+72)+2:=by
       rw[Int.mul_one];exact Fa (F4 s1) (by omega)
      exact F4 s2
     ·have:=FK (show ib 2<=2 by decide) (FK b1 b2)
      unfold ib;omega
end Mf
namespace Lw
open PySem L2 DL
variable {t u:TDS} {R:bh} {δ:En} {g:TDG} {i j L:Int} {b:Bool} {l names ks nm ns:List Str} {k:Bool→Prop} {x:Sl} {q:Str→Int} {ts:List (Str×Int)} {rows c d:List Rw} {ps:List (Int×Int)} {n:Str} {A B:List (List Rw)}
variable {P:Program} {w:World} {K:PySem.W.Frag} {mg:Str→Option Value} {base:Heap}
structure Zz where
 P:Program
 w:World
 K:PySem.W.Frag
 mg:Str->Option Value
 base:Heap
 x0:Fd K mg "common_divisor" s_common_divisor ["one","other"]
 x1:Fd K mg "made" s_made ["top","bottom"]
 x2:Fd K mg "plus" s_plus ["one","other"]
 x3:Fd K mg "times" s_times ["one","other"]
 x4:Fd K mg "less" s_less ["one","other"]
 x5:Fd K mg "is_row" s_is_row ["saying"]
 x6:Fd K mg "mark_names" s_mark_names ["saying","found"]
 x7:Fd K mg "names_of" s_names_of ["saying"]
 x8:Fd K mg "tops_of" s_tops_of ["names","point"]
 x9:Fd K mg "top_of_sum" s_top_of_sum ["terms","tops"]
 x10:Fd K mg "row_is_so" s_row_is_so ["row","tops","bottom"]
 x11:Fd K mg "part_is_so" s_part_is_so ["saying","tops","bottom"]
 x12:Fd K mg "is_so" s_is_so ["saying","point"]
 x13:Fd K mg "contrary" s_contrary ["row"]
 x14:Fd K mg "plain_part" s_plain_part ["saying","turned"]
 x15:Fd K mg "plain" s_plain ["saying"]
 x16:Fd K mg "_law_cell" s__law_cell ["_law_script","_law_k"]
 x17:Fd K mg "put_together" s_put_together ["one","other"]
 x18:Fd K mg "cases_within" s_cases_within ["part","whole"]
 x19:Fd K mg "cases" s_cases ["saying"]
 x20:Fd K mg "added" s_added ["rows","weights"]
 x21:Fd K mg "weight_of" s_weight_of ["name","row"]
 x22:Fd K mg "alone" s_alone ["rows"]
 x23:Fd K mg "shortened" s_shortened ["weights"]
 x24:Fd K mg "crossed" s_crossed ["low","high","name"]
 x25:Fd K mg "without" s_without ["rows","sums","name","most"]
 x26:Fd K mg "taken_out" s_taken_out ["rows","names"]
 x27:Fd K mg "bound_on" s_bound_on ["name","row","point"]
 x28:Fd K mg "tighter" s_tighter ["one","other","is_low"]
 x29:Fd K mg "number_in" s_number_in ["piece"]
 x30:Fd K mg "piece_for" s_piece_for ["name","sums","point"]
 x31:Fd K mg "found_back" s_found_back ["steps","names","point"]
 x32:Fd K mg "solved" s_solved ["rows","names"]
 x33:Fd K mg "both_so" s_both_so ["one","other"]
 x34:Fd K mg "_law_whole" s__law_whole ["_law_found"]
 x35:Fd K mg "_law_number" s__law_number ["_law_cell_here"]
 x36:Fd K mg "_law_line" s__law_line ["_law_cells","_law_names_here"]
 x37:Fd K mg "_law_fence" s__law_fence ["_law_cells","_law_fence_here","_law_side"]
 x38:Fd K mg "_law_shaped" s__law_shaped ["_law_rows","_law_cell_here"]
 x39:Fd K mg "_law_sayings" s__law_sayings ["_law_script"]
 x40:Fd K mg "_law_cases" s__law_cases ["_law_saying","_law_so_here"]
 x41:Fd K mg "_law_weights_good" s__law_weights_good ["_law_rows","_law_weights"]
 x42:Fd K mg "_law_paper_good" s__law_paper_good ["_law_one","_law_other","_law_paper"]
 x43:Fd K mg "shows_none" s_shows_none ["rows","weights"]
 x44:Fd K mg "lets_by" s_lets_by ["one","other","paper"]
 x45:Fd K mg "_law_given" s__law_given ["_law_rows","_law_at","_law_new"]
 x46:Fd K mg "_law_weights_bent" s__law_weights_bent ["_law_weights","_law_cell_here"]
 x47:Fd K mg "_law_bent" s__law_bent ["_law_paper","_law_cell_here"]
 x48:Fd K mg "_law_turned" s__law_turned ["_law_ones","_law_others","_law_paper"]
 x49:Fd K mg "_law_good" s__law_good ["_law_one","_law_other","_law_paper"]
 x50:mg "abs"=none
 x51:mg "sorted"=none
 x52:mg "tuple"=none
 x53:mg "len"=none
 x54:mg "max"=none
 x55:mg "zip"=none
 x56:mg "enumerate"=none
 x57:mg "range"=none
 x58:mg "reversed"=none
 x59:mg "dict"=none
 x60:mg "isinstance"=none
 x61:mg "bool"=none
 x62:mg "int"=none
 x63:mg "any"=none
 g_OPPOSITES:GTab K mg "OPPOSITES" [("least","more"),("more","least"),("both","either"),("either","both")]
 g_MOST_ROWS:GInt mg "MOST_ROWS" 3
 g_MOST_CASES:GInt mg "MOST_CASES" 4
 g_ENDLESS:GEnd K mg "ENDLESS"
abbrev Zz.C(Z:Zz)(k:Nat)(x:Str)(ps:List Str)(sp:Sp):Prop:=Cal Z.P Z.w Z.K Z.mg Z.base k x ps sp
local macro_rules | `(tactic| walk_at "sc") => `(tactic| exact ⟨rfl, rfl, rfl, by decide +kernel, rfl, by decide +kernel, by decide +kernel⟩)
open Mf
def ag(h:∀K:En->Prop,K=u R->t { R with nx:=K } δ):AB t u R δ:=h _ rfl
def jw(src:TDC)(F:D->bh->En->Prop):TDS:=λR δ=>src δ λxs δ1=>∃I:Nat->En->Prop,I 0 δ1 /\
 (∀i x δ',xs[i]?=some x->I i δ'->F x { R with nx:=I (i+1),ct:=I (i+1),bk:=R.nx,tp:=False } δ')/\∀δ',I xs.length δ'->R.nx δ'
def de{src:TDC}{tb:TDS}(h:∀(F:D->bh->En->Prop) (N:En->Prop),F=(λx R δ=>g x δ λδ2=>tb R δ2)->N=R.nx->jw src F { R with nx:=N } δ):dFor src g tb R δ:=h _ _ rfl rfl
def eL(t:E1)(F:D->bh->En->Prop):TDS:=λR δ=>t δ (wd λd δ1=>qL d λxs=>∃I:Nat->En->Prop,I 0 δ1 /\
 (∀i x δ',xs[i]?=some x->I i δ'->F x { R with nx:=I (i+1),ct:=I (i+1),bk:=R.nx,tp:=False } δ')/\∀δ',I xs.length δ'->R.nx δ')
def cD{t:E1}{tb:TDS}(h:∀(F:D->bh->En->Prop) (N:En->Prop),F=(λx R δ=>g x δ λδ2=>tb R δ2)->N=R.nx->eL t F { R with nx:=N } δ):rg t g tb R δ:=h _ _ rfl rfl
def mw(t:TDA)(F:D->bh->En->Prop):TDS:=λR δ=>t δ λds δ1=>qC ds λx r=>qN r <| qI x λj=>-(2 ^ 62)<=j/\j<2 ^ 62/\∃I:Nat->En->Prop,I 0 δ1 /\
 (∀i δ',i<j.toNat->I i δ'->F (.int i) { R with nx:=I (i+1),ct:=I (i+1),bk:=R.nx,tp:=False } δ')/\∀δ',I j.toNat δ'->R.nx δ'
def io{t:TDA}{tb:TDS}(h:∀(F:D->bh->En->Prop) (N:En->Prop),F=(λx R δ=>g x δ λδ2=>tb R δ2)->N=R.nx->mw t F { R with nx:=N } δ):zW t g tb R δ:=h _ _ rfl rfl
def bD{x:D}(h:∀K:En->Prop,K=u R->g x δ λδ2=>t { R with nx:=K } δ2):g x δ λδ2=>AB t u R δ2:=h _ rfl
theorem aH{α β γ:Type}(f:β->Option γ)(g:α->β)(h:α->γ):∀(l:List α),(∀x∈l,f (g x)=some (h x))->(l.map g).filterMap f=l.map h
 | [],_=>rfl
 | x::l,e=>by rw[FJ,FJ,F8,e x (Fe ..),aH f g h l λy hy=>e y (E9 _ hy)]
theorem Ex{c A B:Prop}[Decidable c](hc:¬ c)(h:B):if c then A else B:=by rw[Fp hc];exact h
theorem ifp{c A B:Prop}[Decidable c](hc:c)(h:A):if c then A else B:=by rw[Fs hc];exact h
theorem at0{α:Type}{x:α}{xs:List α}:EA (x::xs) 0=some x:=by
 unfold EA ixN;simp only[List.length_cons];rw[Fs (by omega),Fs (by omega)];rfl
theorem at1{α:Type}{x y:α}{xs:List α}:EA (x::y::xs) 1=some y:=by
 unfold EA ixN;simp only[List.length_cons];rw[Fs (by omega),Fs (by omega)];rfl
theorem at2{α:Type}{x y z:α}{xs:List α}:EA (x::y::z::xs) 2=some z:=by
 unfold EA ixN;simp only[List.length_cons];rw[Fs (by omega),Fs (by omega)];rfl
def atm1{α:Type}{x:α}{xs:List α}:EA (xs++[x]) (-1)=some x:=vB xs x
def tY{R:D->Prop}:sK [.int i,.int j] R=(R (.int (i+j))):=rfl
def sF{xs ys:List D}{R:D->Prop}:sK [.lst xs,.lst ys] R=(xs.length+ys.length<=9000/\R (.lst (xs++ys))):=rfl
def wp{xs:List D}{R:D->Prop}:AD [.lst xs] R=(R (.int xs.length)):=rfl
def yQ{xs:List D}{R:D->Prop}:AD [.fz xs] R=(R (.int xs.length)):=rfl
def uU{xs:List D}{R:D->Prop}:AD [.tup xs] R=(R (.int xs.length)):=rfl
def vC{R:D->Prop}:fInt [.int i] R=(R (.int i)):=rfl
def yH{R:D->Prop}:fInt [.bl b] R=(R (.int (if b then 1 else 0))):=rfl
def zd{xs:List D}{R:D->Prop}:fIx [.tup xs,.int i] R=Ez xs i R:=rfl
def yN{xs:List D}{R:D->Prop}:fIx [.lst xs,.int i] R=Ez xs i R:=rfl
def AS{xs:List D}{R:D->Prop}:fIx [.fz xs,.int i] R=Ez xs i R:=rfl
def As{z:Str}{R:D->Prop}:fIx [.str z,.int i] R=(z.length<=9000/\∃c,EA z.cps.toList i=some c/\R (.str ⟨#[c]⟩)):=rfl
def zf{xs:List D}{l u:Option Int}{R:D->Prop}:fSl (.lst xs) l u R=(R (.lst (cut xs l u))):=rfl
def BW{xs:List D}{l u:Option Int}{R:D->Prop}:fSl (.fz xs) l u R=(R (.lst (cut xs l u))):=rfl
def Nat.cast_ofNat_Int{n:Nat}:((OfNat.ofNat n:Nat):Int)=OfNat.ofNat n:=rfl
def uc{xs ys:List D}{R:D->Prop}:sK [.tup xs,.tup ys] R=(xs≠[]/\ys≠[]/\xs.length+ys.length<=9000/\R (.tup (xs++ys))):=rfl
def zI{xs:List D}{l u:Option Int}{R:D->Prop}:fSl (.tup xs) l u R=(¬ (HT.sIx xs.length 0 l=0/\HT.sIx xs.length xs.length u=xs.length)/\R (.tup (cut xs l u))):=rfl
def za{R:D->Prop}:fIs [.non,.non] R=(R (.bl true)):=rfl
def zz{c f:Str}{d:D}{R:D->Prop}:fIs [.exn c f d,.non] R=(R (.bl false)):=rfl
def xX{xs:List D}{R:D->Prop}:fIs [.tup xs,.non] R=(R (.bl false)):=rfl
def wd_e{R:D->En->Prop}{x:D}:wd R (.d x) δ=R x δ:=rfl
def qB_e:qB (.bl b) k=k b:=rfl
def qI_e{b:Int}{k:Int->Prop}:qI (.int b) k=k b:=rfl
def qX_e{b:Str}{k:Str->Prop}:qX (.str b) k=k b:=rfl
def qT_e{b:List D}{k:List D->Prop}:qT (.tup b) k=k b:=rfl
def qL_e{b:List D}{k:List D->Prop}:qL (.lst b) k=k b:=rfl
def qY_l{b:List D}{k:List D->Prop}:qY (.lst b) k=k b:=rfl
def qY_t{b:List D}{k:List D->Prop}:qY (.tup b) k=k b:=rfl
theorem D5{l:List D}{k:List D->Prop}:qY (sq b l) k=k l:=by cases b<;>rfl
def qG_e{b:List Str}{c:List D}{k:List Str->List D->Prop}:qG (.dct b c) k=k b c:=rfl
def qF_e{b:List Str}{c:List D}{k:List Str->List D->Prop}:qF (.fd b c) k=k b c:=rfl
def qZ_d{b:List Str}{c:List D}{k:List Str->List D->Prop}:qZ (.dct b c) k=k b c:=rfl
def qZ_f{b:List Str}{c:List D}{k:List Str->List D->Prop}:qZ (.fd b c) k=k b c:=rfl
def qV_e{α:Type}{a:α}{k:α->Prop}:qV (some a) k=k a:=rfl
def qN_e{k:Prop}:qN [] k=k:=rfl
def qC_e{x:D}{r:List D}{k:D->List D->Prop}:qC (x::r) k=k x r:=rfl
def xC{k:Prop}:rO [] 0 k=k:=rfl
def w5{x:D}{r:List D}{n:Nat}{k:Prop}:rO (x::r) (n+1) k=rO r n k:=rfl
def q9_0{k:Prop}:q9 [] k=k:=rfl
def q9_1{a:D}{k:Prop}:q9 [a] k=k:=rfl
def q9_2{a b:D}{k:Prop}:q9 [a,b] k=k:=rfl
def q9_3{a b c:D}{k:Prop}:q9 [a,b,c] k=k:=rfl
def q9_4{a b c d:D}{k:Prop}:q9 [a,b,c,d] k=k:=rfl
def qW_s{i:Nat}{k:Addr->D->Prop}:qW (x::δ)[i+1]? k=qW δ[i]? k:=rfl
def qW_z{a:Addr}{d:D}{k:Addr->D->Prop}:qW (.own a d::δ)[0]? k=k a d:=rfl
def qD_s{i:Nat}{k:D->Prop}:qD (x::δ)[i+1]? k=qD δ[i]? k:=rfl
def qD_z{d:D}{k:D->Prop}:qD (.dat d::δ)[0]? k=k d:=rfl
def wO{y:Sl}{i:Nat}{k:En->Prop}:lJ (x::δ) (i+1) y k=lJ δ i y λδ'=>k (x::δ'):=rfl
def wG{y:Sl}{k:En->Prop}:lJ (x::δ) 0 y k=k (y::δ):=rfl
def D2{x:D}{l:List D}{k:D->Prop}:Ez (x::l) 0 k=k x:=rfl
def D1{x y:D}{l:List D}{k:D->Prop}:Ez (x::y::l) 1 k=k y:=rfl
def Eg{x y z:D}{l:List D}{k:D->Prop}:Ez (x::y::z::l) 2 k=k z:=rfl
def D9{x y z u:D}{l:List D}{k:D->Prop}:Ez (x::y::z::u::l) 3 k=k u:=rfl
def qS_t{d:D}{k:List D->Prop}:qS true d k=qL d k:=rfl
def qS_f{d:D}{k:List D->Prop}:qS false d k=qT d k:=rfl
def Dt{A B:Prop}:(if true=true then A else B)=A:=rfl
def Ev{A B:Prop}:(if false=true then A else B)=B:=rfl
def D6{A B:Prop}:(if (!true)=true then A else B)=B:=rfl
def Df{A B:Prop}:(if (!false)=true then A else B)=A:=rfl
def B0{p:List Sl->Prop}:wm 0 p=p []:=rfl
def BT{n:Nat}{p:List Sl->Prop}:wm (n+1) p=(∀t:Option D,wm n λts=>p (oS t::ts)):=rfl
def Ej{c:En}:okT 0 δ c=(δ=c):=rfl
def Dw{n:Nat}{d:D}{c:En}:okT (n+1) (.dat d::δ) c=okT n δ c:=rfl
def BS{d:D}:rJ (some (.dat d))=.dat d:=rfl
def qD_e{d:D}{k:D->Prop}:qD (some (.dat d)) k=k d:=rfl
def qW_e{a:Addr}{d:D}{k:Addr->D->Prop}:qW (some (.own a d)) k=k a d:=rfl
def AN{i:Nat}:rJ (x::δ)[i+1]?=rJ δ[i]?:=rfl
def BV{d:D}:rJ (.dat d::δ)[0]?=.dat d:=rfl
def qq:E6 "int" .non k=k false:=rfl
def t6:E6 "int" (.bl b) k=k true:=rfl
def rq{b:Int}:E6 "int" (.int b) k=k true:=rfl
def qP{b:Str}:E6 "int" (.str b) k=k false:=rfl
def qx{b:List D}:E6 "int" (.tup b) k=k false:=rfl
def qt{b:List D}:E6 "int" (.lst b) k=k false:=rfl
def ul{b:List D}:E6 "int" (.fz b) k=k false:=rfl
def rA{b:List Str}{c:List D}:E6 "int" (.dct b c) k=k false:=rfl
def tU{b:List Str}{c:List D}:E6 "int" (.fd b c) k=k false:=rfl
def nP:E6 "bool" .non k=k false:=rfl
def re:E6 "bool" (.bl b) k=k true:=rfl
def nv{b:Int}:E6 "bool" (.int b) k=k false:=rfl
def oz{b:Str}:E6 "bool" (.str b) k=k false:=rfl
def nS{b:List D}:E6 "bool" (.tup b) k=k false:=rfl
def m9{b:List D}:E6 "bool" (.lst b) k=k false:=rfl
def qO{b:List D}:E6 "bool" (.fz b) k=k false:=rfl
def oq{b:List Str}{c:List D}:E6 "bool" (.dct b c) k=k false:=rfl
def qE{b:List Str}{c:List D}:E6 "bool" (.fd b c) k=k false:=rfl
def ml:E6 "tuple" .non k=k false:=rfl
def nC:E6 "tuple" (.bl b) k=k false:=rfl
def lN{b:Int}:E6 "tuple" (.int b) k=k false:=rfl
def me{b:Str}:E6 "tuple" (.str b) k=k false:=rfl
def l5{b:List D}:E6 "tuple" (.tup b) k=k true:=rfl
def mh{b:List D}:E6 "tuple" (.lst b) k=k false:=rfl
def nY{b:List D}:E6 "tuple" (.fz b) k=k false:=rfl
def ms{b:List Str}{c:List D}:E6 "tuple" (.dct b c) k=k false:=rfl
def nG{b:List Str}{c:List D}:E6 "tuple" (.fd b c) k=k false:=rfl
def DC{f:List D->(D->Prop)->Prop}{x y:D}{R:W->En->Prop}:kOb f x R (.d y) δ=f [x,y] (kD R δ):=rfl
def DD{f:List D->(D->Prop)->Prop}{tb:E1}{x:D}{R:W->En->Prop}:kOa f tb R (.d x) δ=tb δ (kOb f x R):=rfl
def Et{f:List D->(D->Prop)->Prop}{x:D}{R:W->En->Prop}:kUn f R (.d x) δ=f [x] (kD R δ):=rfl
def C3{t:TDA}{x:D}{R:List D->En->Prop}:kAc t R (.d x) δ=t δ (kAd x R):=rfl
def Es{R:Bool->En->Prop}:kTs R (.d (.bl b)) δ=R b δ:=rfl
def DJ{u:E1}{R:W->En->Prop}:kAV u R (.d (.bl b)) δ=(if b=true then u δ R else R (.d (.bl false)) δ):=rfl
def Dc{u:E1}{R:W->En->Prop}:kOV u R (.d (.bl b)) δ=(if b=true then R (.d (.bl true)) δ else u δ R):=rfl
def DI{R:W->En->Prop}:kNV R (.d (.bl b)) δ=R (.d (.bl (!b))) δ:=rfl
def Eo{x:D}:kRe R (.d x) δ=R.rt x δ:=rfl
def CM{i:Nat}{x:D}:kSe i R (.d x) δ=lJ δ i (.dat x) R.nx:=rfl
def BA{x:D}:kAs g R (.d x) δ=g x δ R.nx:=rfl
def CZ{T:String}{x:D}{R:W->En->Prop}:kIs T R (.d x) δ=(E6 T x λb=>R (.d (.bl b)) δ):=rfl
theorem EZ(i:Nat){X:Cx}{x:Str}{j}{k:Int}{p p2 pos:Pos}(hN:X.N[i]?=some x:=by rfl)(hv:Vis X.env.scope x:=by walk_at "v3")(hd:(x==("__debug__":Str))=false:=by decide)(hcd:(x==("__classdict__":Str))=false:=by decide):DE X (.Subscript (.Name x p) (.Constant (.int k) j p2) pos) (dOp fIx (dV i) (dC (.int k))):=bM bJ (ak i hN hv hd hcd) am (λ_ _=>rfl)
local macro_rules | `(tactic| walk_at "rh") => `(tactic| try simp only [↓kD, ↓kN, ↓kO, ↓kI, ↓wd_e, ↓CM, ↓BA, ↓wO, ↓wG, ↓w5, ↓xC, ↓qC_e, ↓qN_e, ↓qT_e, ↓qL_e, ↓gN, ↓zc, ↓rZ, ↓zS, ↓dJ, ↓kw, ↓nK, ↓qWD, ↓qW_s, ↓qW_z, ↓qG_e])
local macro_rules | `(tactic| walk_at "rd") => `(tactic| ((try simp only [gD, List.map_cons, List.map_nil, List.cons_append, List.nil_append, List.append_nil, List.length_cons, List.length_nil, Nat.reduceAdd, Nat.reduceSub, List.replicate]); try simp only [↓DC, ↓DD, ↓Et, ↓C3, ↓Es, ↓DJ, ↓Dc, ↓DI, ↓Eo, ↓CM, ↓BA, ↓CZ, ↓kAd, ↓kCa, ↓kTu, ↓kLs, ↓kAn, ↓kOr, ↓kNo, ↓kIE, ↓w6, ↓Bl, ↓Cs, ↓dcSq, ↓xx, ↓B8, ↓kw, ↓xg, ↓AH, ↓wY, ↓xj, ↓vt, ↓qw, ↓uQ, ↓vh, ↓xW, ↓uc, ↓zI, ↓dSlT, ↓Bq, ↓Bg, ↓za, ↓xX, ↓zz, ↓Ca, ↓BM, ↓v9, ↓BP, ↓CH, ↓AR, ↓Bu, ↓tI, ↓Bn, ↓Bp, ↓um, ↓nK, ↓AB, ↓dIf, ↓kIf, ↓dRet, ↓dSet, ↓dV, ↓dC, ↓dOp, ↓dUn, ↓dTst, ↓dAnd, ↓dOr, ↓dNot, ↓B4, ↓dOrV, ↓CT, ↓dIfE, ↓xf, ↓CQ, ↓qr, ↓kD, ↓kN, ↓kO, ↓kI, ↓dTup, ↓dLst, ↓AG, ↓r8, ↓BB, ↓dAsg, ↓dJ, ↓zS, ↓rZ, ↓gN, ↓zc, ↓AU, ↓vH, ↓vP, ↓dSl, ↓uy, ↓AX, ↓dIsi, ↓Cc, ↓Ew, ↓C4, ↓xH, ↓Ab, ↓BJ, ↓zx, ↓vj, ↓CO, ↓Au, ↓tY, ↓sF, ↓wp, ↓yQ, ↓uU, ↓vC, ↓yH, ↓zd, ↓yN, ↓AS, ↓As, ↓zf, ↓BW, ↓vx, ↓zP, ↓wo, ↓wB, ↓BU, ↓vY, ↓yq, ↓yY, ↓mV, ↓oA, ↓Cg, ↓qR, ↓rl, ↓wv, ↓A7, ↓CC, ↓CP, ↓qWL, ↓qWD, ↓qWe, ↓zU, ↓zM, ↓ig, ↓oS, ↓wd_e, ↓qB_e, ↓qI_e, ↓qX_e, ↓qT_e, ↓qL_e, ↓qY_l, ↓qY_t, ↓qG_e, ↓qF_e, ↓qZ_d, ↓qZ_f, ↓qV_e, ↓qN_e, ↓qC_e, ↓xC, ↓w5, ↓q9_0, ↓q9_1, ↓q9_2, ↓q9_3, ↓q9_4, ↓qW_s, ↓qW_z, ↓qD_s, ↓qD_z, ↓wO, ↓wG, ↓D2, ↓D1, ↓Eg, ↓D9, ↓qS_t, ↓qS_f, ↓Dt, ↓Ev, ↓D6, ↓Df, ↓B0, ↓BT, ↓Ej, ↓Dw, ↓BS, ↓qD_e, ↓qW_e, ↓AN, ↓BV, ↓qq, ↓t6, ↓rq, ↓qP, ↓qx, ↓qt, ↓ul, ↓rA, ↓tU, ↓nP, ↓re, ↓nv, ↓oz, ↓nS, ↓m9, ↓qO, ↓oq, ↓qE, ↓ml, ↓nC, ↓lN, ↓me, ↓l5, ↓mh, ↓nY, ↓ms, ↓nG, ↓List.map_cons, ↓List.map_nil, ↓List.cons_append, ↓List.nil_append, ↓List.replicate, D5, D.exn.injEq, zu, ne_eq, List.cons_ne_nil, Sl.own.injEq, exists_const, exists_eq, D.lst.injEq, D.dct.injEq, D.str.injEq, List.length_cons, List.length_nil, List.append_nil, List.getElem?_cons_zero, List.getElem?_cons_succ, List.set_cons_zero, List.set_cons_succ, Option.some.injEq, Sl.dat.injEq, D.int.injEq, D.bl.injEq, D.tup.injEq, List.cons.injEq, and_assoc, and_true, true_and, exists_eq_left', exists_eq_left, exists_eq_right', exists_and_left, Nat.zero_add, Nat.reduceAdd, Nat.reduceSub, Nat.add_zero, Nat.reduceLeDiff, Nat.sub_self, at0, at1, at2, atm1, if_true, if_false, ite_true, ite_false, Int.reduceEq, Int.reduceLT, Nat.cast_ofNat_Int, not_true_eq_false, not_false_eq_true, Bool.false_eq_true, reduceCtorEq, Bool.not_false, Bool.not_true, List.forall_mem_cons, List.mem_cons, List.not_mem_nil, forall_const, false_implies, implies_true, Nat.reduceLT, if_pos, List.filterMap_cons, List.filterMap_nil, decide_eq_true_eq, Bool.not_eq_true', decide_eq_false_iff_not]))
theorem mo2{x y:Int}{m n:Nat}(h1:Builtin.Int.intBits x<=m)(h2:Builtin.Int.intBits y<=n)(h:m+n<=134217728:=by decide):IntMulOk x y:=IntMulOk.of_le h1 h2 h
theorem qv{b:Int}{n:Nat}(h:Builtin.Int.intBits b<=n)(hn:n<=8000):b.natAbs.log2<9000:=by
 have h1:=intBits_le_iff.mp h
 rcases Nat.eq_zero_or_pos b.natAbs with h0 | hp
 ·rw[h0];decide
 ·have h2:b.natAbs.log2<n:=(Nat.log2_lt (Hg hp)).mpr h1
  omega
inductive dI(ds:List D)(R:D->Prop):Prop
 | mk (a b:_) (hh:ds=[.int a,.int b]/\R (.int (gc a b)))
def eG:∀ds R,dI ds R->ds.length=2:=λ_ _ ⟨_,_,e,_⟩=>by rw[e];rfl
theorem bE:aA ["one","other","rest"] ["one","other"] (ap s_common_divisor):=by walk_at "sc"
theorem cY(Z:Zz):Z.C 1 "common_divisor" ["one","other"] (E2 Z.K dI):=by
 refine cF Z.x0 bE eG λfa cdv A outer s H E ds R hr h=>?_;have hU:=hr.units;refine⟨_,(ad (vF Fy (aD (gS hU) (ak 1) am (av _)) (ad (aw 2 bE.nd (ax cS (ak 0) (ak 1))) (ad (aw 0 bE.nd (ak 1)) (af (aw 1 bE.nd (ak 2)))))) (af (au (aG Dn rfl Z.x50 C1 (ac (ak 0) ae))))),?_⟩;obtain⟨x,y,rfl,q⟩:=h;refine⟨λδ=>∃a b t,δ=[.dat (.int a),.dat (.int b),t]/\gc a b=gc x y,λδ=>match δ with | [_,.dat (.int b),_]=>b.natAbs | _=>0,⟨x,y,.no,rfl,rfl⟩,?_⟩;rintro δ ⟨a,b,t,rfl,e⟩;walk_at "rd";refine cR (λc=>⟨c,(zR a b).trans e,jF a b c⟩) (λc=>?_);have c:=GB.mp c;subst c;rw[<- yF,e];exact q
theorem yz{t b:Int}{n:Nat}(hb:b≠0)(h:Builtin.Int.intBits b<=n):Builtin.Int.intBits (dv t b)<=n:=by
 refine intBits_le_of_natAbs ?_ h;rw[l9];exact Int.gcd_le_natAbs_right t hb
inductive xB(ds:List D)(R:D->Prop):Prop
 | mk (t b:_) (hh:ds=[.int t,.int b]/\b≠0/\Builtin.Int.intBits b<=8000/\R (.tup [.int (EM t b),.int (EF t b)]))
def qM:∀ds R,xB ds R->ds.length=2:=λ_ _ ⟨_,_,e,_⟩=>by rw[e];rfl
theorem nH:aA ["top","bottom","divisor"] ["top","bottom"] (ap s_made):=by walk_at "sc"
theorem fD(Z:Zz):Z.C 2 "made" ["top","bottom"] (E2 Z.K xB):=by
 refine cF Z.x1 nH qM λfa cdv A outer s H E ds R hr h=>?_;have hU:=hr.units;refine⟨_,(ad (aM (aD (dy hU) (ak 1) am (av _)) jd aB) (ad (aw 2 nH.nd (ar (cY Z) (rm hr) rfl (ac (ak 0) (ac (ak 1) ae)))) (ad (aM (aD uR (ak 1) am (av _)) (af (aw 2 nH.nd (ng ny (ak 2)))) aB) (af (au (aK (ac (ax cz (ak 0) (ak 2)) (ac (ax cz (ak 1) (ak 2)) ae)))))))),?_⟩;obtain⟨x,y,rfl,hy,hb,q⟩:=h;walk_at "rd";rw[Fp hy];refine⟨x,y,rfl,?_⟩;walk_at "rd";have hd:=CF x hy;have hl:=qv (yz (t:=x) hy hb) (Fh _);unfold EM EF at q;unfold dv at hd hl q;refine cR (λc=>?_) (λc=>?_)
 ·simp only[if_pos c] at hd hl q;exact⟨⟨hd,hl⟩,⟨hd,hl⟩,q⟩
 ·simp only[if_neg c] at hd hl q;exact⟨⟨hd,hl⟩,⟨hd,hl⟩,q⟩
inductive wM(ds:List D)(R:D->Prop):Prop
 | mk (p q:Int×Int) (hh:ds=[EO p,EO q]/\p.2*q.2≠0/\ib p.1<=1000000/\ib q.1<=1000000/\ib p.2<=4000/\ib q.2<=4000/\R (EO (EM (p.1*q.2+q.1*p.2) (p.2*q.2),EF (p.1*q.2+q.1*p.2) (p.2*q.2))))
def qz:∀ds R,wM ds R->ds.length=2:=λ_ _ ⟨_,_,e,_⟩=>by rw[e];rfl
theorem zv:aA ["one","other"] ["one","other"] (ap s_plus):=by walk_at "sc"
theorem wq(Z:Zz):Z.C 3 "plus" ["one","other"] (E2 Z.K wM):=by
 refine cF Z.x2 zv qz λfa cdv A outer s H E ds R hr h=>?_;have hU:=hr.units;refine⟨_,(af (au (ar (fD Z) (rm hr) rfl (ac (ax aL (ax bT (EZ 0) (EZ 1)) (ax bT (EZ 1) (EZ 0))) (ac (ax bT (EZ 0) (EZ 1)) ae))))),?_⟩;obtain⟨p,q,rfl,nz,b1,b2,b3,b4,k⟩:=h;unfold EO at k ⊢;walk_at "rd";exact⟨mo2 b1 b4,mo2 b2 b3,mo2 b3 b4,_,_,rfl,nz,Fa (FK b3 b4) (by decide),k⟩
inductive sE(ds:List D)(R:D->Prop):Prop
 | mk (p q:Int×Int) (hh:ds=[EO p,EO q]/\p.2*q.2≠0/\ib p.1<=2000000/\ib q.1<=1000000/\ib p.2<=7990/\ib q.2<=10/\R (EO (EM (p.1*q.1) (p.2*q.2),EF (p.1*q.1) (p.2*q.2))))
def mX:∀ds R,sE ds R->ds.length=2:=λ_ _ ⟨_,_,e,_⟩=>by rw[e];rfl
theorem uL:aA ["one","other"] ["one","other"] (ap s_times):=by walk_at "sc"
theorem uj(Z:Zz):Z.C 3 "times" ["one","other"] (E2 Z.K sE):=by
 refine cF Z.x3 uL mX λfa cdv A outer s H E ds R hr h=>?_;have hU:=hr.units;refine⟨_,(af (au (ar (fD Z) (rm hr) rfl (ac (ax bT (EZ 0) (EZ 1)) (ac (ax bT (EZ 0) (EZ 1)) ae))))),?_⟩;obtain⟨p,q,rfl,nz,b1,b2,b3,b4,k⟩:=h;unfold EO at k ⊢;walk_at "rd";exact⟨mo2 b1 b2,mo2 b3 b4,_,_,rfl,nz,Fa (FK b3 b4) (by decide),k⟩
inductive xu(ds:List D)(R:D->Prop):Prop
 | mk (p q:Int×Int) (hh:ds=[EO p,EO q]/\ib p.1<=2000000/\ib q.1<=2000000/\ib p.2<=8000/\ib q.2<=8000/\R (.bl (decide (p.1*q.2<q.1*p.2))))
def qA:∀ds R,xu ds R->ds.length=2:=λ_ _ ⟨_,_,e,_⟩=>by rw[e];rfl
theorem yG:aA ["one","other"] ["one","other"] (ap s_less):=by walk_at "sc"
theorem oM(Z:Zz):Z.C 1 "less" ["one","other"] (E2 Z.K xu):=by
 refine cF Z.x4 yG qA λfa cdv A outer s H E ds R hr h=>?_;have hU:=hr.units;refine⟨_,(af (au (cm uR (ax bT (EZ 0) (EZ 1)) (ax bT (EZ 1) (EZ 0)) (av _)))),?_⟩;obtain⟨p,q,rfl,b1,b2,b3,b4,k⟩:=h;unfold EO;walk_at "rd";exact⟨mo2 b1 b4,mo2 b2 b3,k⟩
inductive EW where
 | row (k:Kd) (ts:List (Str×Int)) (b:Int)
 | nt (s:EW)
 | bo (s t:EW)
 | ei (s t:EW)
def EW.D:EW->D
 | .row k ts b=>j3 k ts b
 | .nt s=>.tup [.str "not",s.D]
 | .bo s t=>.tup [.str "both",s.D,t.D]
 | .ei s t=>.tup [.str "either",s.D,t.D]
def EW.dep:EW->Nat
 | .row _ _ _=>1
 | .nt s=>s.dep+1
 | .bo s t=>max s.dep t.dep+1
 | .ei s t=>max s.dep t.dep+1
def EW.nms:EW->List Str
 | .row _ ts _=>ts.map (·.1)
 | .nt s=>s.nms
 | .bo s t=>s.nms++t.nms
 | .ei s t=>s.nms++t.nms
def EW.ok(names:List Str):EW->Prop
 | .row _ ts b=>jN names ts/\Builtin.Int.intBits b<=10000
 | .nt s=>s.ok names
 | .bo s t=>s.ok names/\t.ok names
 | .ei s t=>s.ok names/\t.ok names
def EW.dep_pos:∀s:EW,0<s.dep
 | .row _ _ _=>Nat.one_pos
 | .nt s=>Nat.succ_pos _
 | .bo s t=>Nat.succ_pos _
 | .ei s t=>Nat.succ_pos _
def EW.nms_sub:∀ {s:EW},s.ok names->∀n∈s.nms,n∈names
 | .row _ ts _,h,n,hn=>h.1.sub.subset hn
 | .nt s,h,n,hn=>EW.nms_sub (s:=s) h n hn
 | .bo s t,h,n,hn=>(Fk.mp hn).elim (EW.nms_sub h.1 n) (EW.nms_sub h.2 n)
 | .ei s t,h,n,hn=>(Fk.mp hn).elim (EW.nms_sub h.1 n) (EW.nms_sub h.2 n)
def EW.isRow:EW->Bool
 | .row _ _ _=>true
 | _=>false
inductive pN(ds:List D)(R:D->Prop):Prop
 | mk (s:EW) (hh:ds=[s.D]/\R (.bl s.isRow))
def lT:∀ds R,pN ds R->ds.length=1:=λ_ _ ⟨_,e,_⟩=>by rw[e];rfl
theorem tR:aA ["saying"] ["saying"] (ap s_is_row):=by walk_at "sc"
theorem eg(Z:Zz):Z.C 1 "is_row" ["saying"] (E2 Z.K pN):=by
 refine cF Z.x5 tR lT λfa cdv A outer s H E ds R hr h=>?_;have hU:=hr.units;refine⟨_,(af (au (vd (cm (dy hU) (EZ 0) aE (av _)) (d8 (cm (dy hU) (EZ 0) aE (av _)))))),?_⟩;obtain⟨s,rfl,q⟩:=h;walk_at "rd"
 cases s with
 | row k ts b =>
  cases k
  ·unfold EW.D j3 kdS;walk_at "rd";exact q
  ·unfold EW.D j3 kdS;walk_at "rd";exact Ex (by decide) q
 | nt s=>unfold EW.D;walk_at "rd";exact Ex (by decide) q
 | bo s t=>unfold EW.D;walk_at "rd";exact Ex (by decide) q
 | ei s t=>unfold EW.D;walk_at "rd";exact Ex (by decide) q
def cC(ks:List Str)(l:List Str):List Str:=l.foldl jD ks
def jG(n:Nat):List D:=List.replicate n (.bl true)
theorem vJ{x y:Str}:y∈jD ks x↔y∈ks\/y=x:=by
 unfold jD
 by_cases e:x∈ks
 ·rw[Fs e];exact⟨.inl,λh=>h.elim id λz=>z ▸ e⟩
 ·rw[Fp e,Fk,Fn]
def fK:∀ {l ks:List Str},ks.Nodup->(cC ks l).Nodup
 | [],_,h=>h
 | _::l,_,h=>fK (l:=l) (m7 h)
theorem dm:∀ {l ks:List Str} {y:Str},y∈cC ks l↔y∈ks\/y∈l
 | [],ks,y=>by show y∈ks↔_;simp
 | x::l,ks,y=>by
  show y∈cC (jD ks x) l↔_
  rw[dm,vJ,Fj,or_assoc]
def fE{r:List Str}:cC ks (l++r)=cC (cC ks l) r:=List.foldl_append ..
theorem lY:∀(ks:List Str) (n:Nat) (x:Str),mN ks (jG n) x (D.bl true)=jG n
 | [],n,x=>by cases n<;>rfl
 | k::ks,0,x=>rfl
 | k::ks,n+1,x=>by
  show (if k=x then D.bl true else D.bl true)::mN ks (jG n) x (D.bl true)=D.bl true::jG n
  rw[lY ks n x];split<;>rfl
theorem s0{x:Str}:lK ks (jG ks.length) x (D.bl true)=jG (jD ks x).length:=by
 unfold lK jD
 by_cases e:x∈ks
 ·rw[Fs e,Fs e,lY]
 ·rw[Fp e,Fp e,Fi];show List.replicate _ _++List.replicate 1 _=List.replicate _ _;rw[List.replicate_append_replicate];rfl
def EW.subs:EW->List EW
 | .row _ _ _=>[]
 | .nt s=>[s]
 | .bo s t=>[s,t]
 | .ei s t=>[s,t]
theorem EW.subs_dep{s u:EW}(h:u∈s.subs):u.dep<s.dep:=by
 cases s with
 | row k ts b=>cases h
 | nt s=>rw[Fn.mp h];exact Nat.lt_succ_self _
 | bo s t =>
  have h:u∈[s,t]:=h
  simp only[List.mem_cons,List.not_mem_nil,or_false] at h;show u.dep<max s.dep t.dep+1
  rcases h with rfl | rfl<;>omega
 | ei s t =>
  have h:u∈[s,t]:=h
  simp only[List.mem_cons,List.not_mem_nil,or_false] at h;show u.dep<max s.dep t.dep+1
  rcases h with rfl | rfl<;>omega
theorem EW.subs_ok{s u:EW}(h:u∈s.subs)(o:s.ok names):u.ok names:=by
 cases s with
 | row k ts b=>cases h
 | nt s=>rw[Fn.mp h];exact o
 | bo s t =>
  have h:u∈[s,t]:=h
  simp only[List.mem_cons,List.not_mem_nil,or_false] at h
  rcases h with rfl | rfl
  ·exact o.1
  ·exact o.2
 | ei s t =>
  have h:u∈[s,t]:=h
  simp only[List.mem_cons,List.not_mem_nil,or_false] at h
  rcases h with rfl | rfl
  ·exact o.1
  ·exact o.2
def EW.word:EW->Str
 | .row k _ _=>kdS k
 | .nt _=>"not"
 | .bo _ _=>"both"
 | .ei _ _=>"either"
theorem EW.D_subs{s:EW}(h:s.isRow=false):s.D=.tup (.str s.word::s.subs.map EW.D):=by
 cases s with
 | row=>cases h
 | nt=>rfl
 | bo=>rfl
 | ei=>rfl
theorem EW.nms_subs{s:EW}(h:s.isRow=false):s.nms=s.subs.flatMap EW.nms:=by
 cases s with
 | row=>cases h
 | nt s=>show s.nms=s.nms++[];rw[FZ]
 | bo s t=>show s.nms++t.nms=s.nms++(t.nms++[]);rw[FZ]
 | ei s t=>show s.nms++t.nms=s.nms++(t.nms++[]);rw[FZ]
theorem v8{α:Type}{x:α}{xs:List α}:cut (x::xs) (some 1) none=xs:=by
 unfold cut;have e1:HT.sIx (x::xs).length 0 (some 1)=1:=by
  have:=HT.sIx_nat (x::xs).length 0 1
  rw[Fl] at this ⊢;rw[show (some (1:Int))=some ((1:Nat):Int) from rfl,this];omega
 rw[e1,HT.sIx_none,Fl,List.drop_one,List.tail_cons,Nat.add_sub_cancel,Fw]
inductive bS(n:Nat)(d:D)(ds:List D)(R:D->D->Prop):Prop
 | mk (names s ks:_) (hh:ds=[EW.D s]/\s.dep<=n/\s.ok names/\names.length<=100/\ks.Nodup/\(∀k∈ks,k∈names)/\d=.dct ks (jG ks.length)/\R .non (.dct (cC ks s.nms) (jG (cC ks s.nms).length)))
def gI(n:Nat):∀d ds R,bS n d ds R->ds.length=1:=λ_ _ _ ⟨_,_,_,e,_⟩=>by rw[e];rfl
def gg:∀d ds R,¬ bS 0 d ds R:=λ_ _ _ ⟨_,s,_,_,h,_⟩=>by have:=s.dep_pos;omega
theorem cI:aA ["saying","found","name","weight","part"] ["saying","found"] (ap s_mark_names):=by walk_at "sc"
theorem jm(Z:Zz){n:Nat}(mJ:Z.C (2+n) "mark_names" ["saying","found"] (wx Z.K (bS n))):Z.C (2+n+1) "mark_names" ["saying","found"] (wx Z.K (bS (n+1))):=by
 refine D7 (k:=2+n) Z.x6 cI rfl (gI (n+1)) λfa cdv A outer s H E oa d0 d R hr h=>?_;have hU:=hr.units;refine⟨_,(ad (aM (cj (ar (eg Z) (hr.mono (by omega)) rfl (ac (ak 0) ae))) (ad (jp Fy rfl (EZ 0) (bL (n:=2) rfl (ay (aq 2 cI.nd) (ay (aq 3 cI.nd) aW))) (af (f9 1 hU cc (ak 2)))) (af yw)) aB) (af (jp Fy rfl (sr (ak 0) (cK am) dB) (aq 4 cI.nd) (af (t4 (lU 1 mJ (hr.mono (by omega)) rfl (ak 4))))))),?_⟩;obtain⟨names,s,ks,e,hd,ok,hl,nd,sub,rfl,q⟩:=h
 cases e
 walk_at "rd";refine⟨s,rfl,?_⟩;walk_at "rd"
 cases hrow:s.isRow with
 | true =>
  cases s with
  | row k ts b =>
   refine ifp rfl ?_;walk_at "rd";simp only[rc];unfold EW.D j3;walk_at "rd";have tsub:∀t∈ts,t.1∈names:=λt h=>ok.1.sub.subset (E8.mpr ⟨t,h,rfl⟩);have sub2:∀i,∀x∈cC ks ((ts.take i).map (·.1)),x∈names:=λi x hx=>(dm.mp hx).elim (sub x) λh=>by
    obtain⟨t,h1,rfl⟩:=E8.mp h;exact tsub t (F6 h1)
   refine⟨λi δ=>∃x y z,δ=[.dat (.tup [.str (kdS k),.tup (ts.map EK),.int b]),.own oa (.dct (cC ks ((ts.take i).map (·.1))) (jG (cC ks ((ts.take i).map (·.1))).length)),x,y,z],⟨_,_,_,rfl⟩,?_,?_⟩
   ·rintro i d δ hd ⟨x,y,z,rfl⟩;obtain⟨t,hn,rfl⟩:=dO hd;walk_at "rd";have l1:=gL (fK (l:=(ts.take i).map (·.1)) nd) (sub2 i);refine⟨by omega,?_⟩;rw[s0,aC hn,Fv,fE];exact⟨rfl,rfl⟩
   ·rintro δ ⟨x,y,z,rfl⟩;rw[E7,Fw];exact⟨_,rfl,q⟩
  | nt s=>cases hrow
  | bo s t=>cases hrow
  | ei s t=>cases hrow
 | false =>
  refine Ex Fg ?_;walk_at "rd";simp only[rc];rw[EW.D_subs hrow];walk_at "rd";refine⟨λ⟨h,_⟩=>?_,?_⟩
  ·rw[show (some (1:Int))=some ((1:Nat):Int) from rfl,HT.sIx_nat] at h;omega
  rw[v8];have sub2:∀i,∀x∈cC ks ((s.subs.take i).flatMap EW.nms),x∈names:=λi x hx=>(dm.mp hx).elim (sub x) λh=>by
   obtain⟨u,h1,h2⟩:=Gm.mp h;exact EW.nms_sub (EW.subs_ok (F6 h1) ok) x h2
  refine⟨λi δ=>∃x y z,δ=[.dat (.tup (.str s.word::s.subs.map EW.D)),.own oa (.dct (cC ks ((s.subs.take i).flatMap EW.nms)) (jG (cC ks ((s.subs.take i).flatMap EW.nms)).length)),x,y,z],⟨_,_,_,rfl⟩,?_,?_⟩
  ·rintro i d δ hd2 ⟨x,y,z,rfl⟩;rw[List.getElem?_map] at hd2
   cases hu:s.subs[i]? with
   | none=>rw[hu] at hd2;cases hd2
   | some u =>
    rw[hu] at hd2
    cases hd2
    have hm:=Fm hu
    have dp:=EW.subs_dep hm
    walk_at "rd";refine⟨names,u,_,rfl,by omega,EW.subs_ok hm ok,hl,fK nd,sub2 i,rfl,?_⟩;walk_at "rd";rw[aC hu,GD,GY,fE];exact⟨rfl,rfl⟩
  ·rintro δ ⟨x,y,z,rfl⟩;rw[E7,Fw,<- EW.nms_subs hrow];exact⟨_,rfl,q⟩
def jK(Z:Zz):Z.C 62 "mark_names" ["saying","found"] (wx Z.K (bS 60)):=Nat.rec (motive:=λn=>Z.C (2+n) "mark_names" ["saying","found"] (wx Z.K (bS n))) (t5 Z.x6 _ gg) (λ_=>jm Z) 60
inductive jY(ds:List D)(R:D->Prop):Prop
 | mk (names s:_) (hh:ds=[EW.D s]/\s.dep<=60/\s.ok names/\names.length<=60/\∀ss:List Str,ss.Nodup->(∀x,x∈ss↔x∈s.nms)->Srt ss->R (.lst (ss.map D.str)))
def jP:∀ds R,jY ds R->ds.length=1:=λ_ _ ⟨_,_,e,_⟩=>by rw[e];rfl
theorem iK:aA ["saying","found"] ["saying"] (ap s_names_of):=by walk_at "sc"
theorem gy(Z:Zz):Z.C 63 "names_of" ["saying"] (E2 Z.K jY):=by
 refine cF Z.x7 iK jP λfa cdv A outer s H E ds R hr h=>?_;have hU:=hr.units;refine⟨_,(ad (lm 1 iK.nd) (ad (t4 (lU 1 (jK Z) (rm hr) rfl (ak 0))) (dw 1 (af (au (aG (kC rfl) rfl Z.x51 kW (ac (ak 1) ae))))))),?_⟩;obtain⟨names,s,rfl,hd,ok,hl,q⟩:=h;walk_at "rd";intro a;refine⟨names,s,[],rfl,hd,ok,by omega,List.nodup_nil,λk h=>(nomatch h),rfl,?_⟩;walk_at "rd";have nd:(cC [] s.nms).Nodup:=fK List.nodup_nil;have sub:∀x∈cC [] s.nms,x∈names:=λx hx=>(dm.mp hx).elim (λh=>(nomatch h)) (EW.nms_sub ok x);refine⟨by have:=gL nd sub;omega,λss hp hs=>q ss (hp.nodup_iff.mpr nd) (λx=>?_) hs⟩;rw[hp.mem_iff,dm];simp
inductive lR(ds:List D)(R:D->Prop):Prop
 | mk (names ks ps T κ:_) (hh:ds=[.lst (names.map D.str),.dct ks (ps.map EO)]/\names.Nodup/\names.length<=60/\(∀n∈names,n∈ks)/\Pt ks ps T/\T<=1000000/\ib (ED (pB ks ps) ks)<=κ/\κ<=7990 /\
 R (.tup [.dct names (names.map λn=>.int (ov (pT ks ps) (pB ks ps) (ED (pB ks ps) names) n)),.int (ED (pB ks ps) names)]))
def kM:∀ds R,lR ds R->ds.length=2:=λ_ _ ⟨_,_,_,_,_,e,_⟩=>by rw[e];rfl
def pc{κ:Nat}(nd:l.Nodup)(h:∀n∈l,n∈ks)(hp:∀n∈ks,0<q n)(hb:ib (ED q ks)<=κ):ib (ED q l)<=κ:=eD (nL nd h) (by have:=dF hp;omega) hb
theorem cx:aA ["names","point","bottom","name","tops","value"] ["names","point"] (ap s_tops_of):=by walk_at "sc"
theorem jr(Z:Zz):Z.C 1 "tops_of" ["names","point"] (E2 Z.K lR):=by
 refine cF Z.x8 cx kM λfa cdv A outer s H E ds R hr h=>?_;have hU:=hr.units;refine⟨_,(ad (aw 2 cx.nd am) (ad (cu Fy rfl (ak 0) (aq 3 cx.nd) (ad (aM (aD (xU hU) (ak 3) (ak 1) rfl) jd aB) (af (aw 2 cx.nd (ax bT (ak 2) (bM bJ (dQ hU (ak 1) (ak 3) (λ_ _=>rfl)) am (λ_ _=>rfl))))))) (ad (lm 4 cx.nd) (ad (cu Fy rfl (ak 0) (aq 3 cx.nd) (ad (aw 5 cx.nd (dQ hU (ak 1) (ak 3) (λ_ _=>rfl))) (af (f9 4 hU (ax bT (EZ 5) (ax cz (ak 2) (EZ 5))) (ak 3))))) (dw 4 (af (au (aK (ac (ak 4) (ac (ak 2) ae)))))))))),?_⟩;obtain⟨names,ks,ps,T,κ,rfl,nd,hl,hin,hp,hT,hb,hκ,q⟩:=h;have pos:∀n∈ks,0<pB ks ps n:=λn hn=>hp.pos hn;have bb:ib (ED (pB ks ps) names)<=κ:=pc nd hin pos hb;have bt:∀i,ib (ED (pB ks ps) (names.take i))<=κ:=λi=>pc (nd.sublist (List.take_sublist ..)) (λn hn=>hin n (F6 hn)) pos hb;have b1:∀n∈ks,ib (pB ks ps n)<=κ:=λn hn=>eD (fW hn) (by have:=dF pos;omega) hb;walk_at "rd";simp only[rg];walk_at "rd";refine⟨λi δ=>∃x y z,δ=[.dat (.lst (names.map D.str)),.dat (.dct ks (ps.map EO)),.dat (.int (ED (pB ks ps) (names.take i))),x,y,z],⟨_,_,_,rfl⟩,?_,?_⟩
 ·rintro i d δ hd ⟨x,y,z,rfl⟩;obtain⟨n,hn,rfl⟩:=mH hd;have hk:=hin n (rQ hn);walk_at "rd";refine Ex (λz=>z hk) ?_;refine⟨_,hp.D hk,?_⟩;walk_at "rd";refine⟨mo2 (bt i) (b1 n hk) (by omega),?_⟩;rw[aC hn,kg,tJ]
 ·rintro δ ⟨x,y,z,rfl⟩;intro a;rw[E7,Fw];walk_at "rd";simp only[rg];walk_at "rd";refine⟨λi δ=>∃x z,δ=[.dat (.lst (names.map D.str)),.dat (.dct ks (ps.map EO)),.dat (.int (ED (pB ks ps) names)),x,.own a (.dct (names.take i) ((names.take i).map λn=>.int (ov (pT ks ps) (pB ks ps) (ED (pB ks ps) names) n))),z],⟨_,_,rfl⟩,?_,?_⟩
  ·rintro i d δ hd ⟨x,z,rfl⟩;obtain⟨n,hn,rfl⟩:=mH hd;have hk:=hin n (rQ hn);have hnt:=vM nd hn;walk_at "rd";refine⟨_,hp.D hk,?_⟩;walk_at "rd";have qn:pB ks ps n≠0:=by have:=hp.pos hk;omega
   refine⟨⟨qn,qv (b1 n hk) (by omega)⟩,mo2 (hp.Tb hk) (F4 bb) (by omega),?_⟩;refine⟨by rw[FI];omega,?_⟩;rw[pD hnt,qh hnt,aC hn,Fv];exact⟨rfl,rfl⟩
  ·rintro δ ⟨x,z,rfl⟩;rw[E7,Fw];walk_at "rd";exact q
inductive gB(ds:List D)(R:D->Prop):Prop
 | mk (k:Bool) (ts:List (Str×Int)) (ks:List Str) (vs:List D) (f:Str->Int) (hh:ds=[sq k (ts.map EK),.dct ks vs]/\(∀t∈ts,dAt ks vs t.1=some (.int (f t.1))/\ib t.2<=60000/\ib (f t.1)<=2000000)/\R (.int (et f ts)))
def gK:∀ds R,gB ds R->ds.length=2:=λ_ _ ⟨_,_,_,_,_,e,_⟩=>by rw[e];rfl
theorem bW:aA ["terms","tops","top","name","weight"] ["terms","tops"] (ap s_top_of_sum):=by walk_at "sc"
theorem eK(Z:Zz):Z.C 1 "top_of_sum" ["terms","tops"] (E2 Z.K gB):=by
 refine cF Z.x9 bW gK λfa cdv A outer s H E ds R hr h=>?_;have hU:=hr.units;refine⟨_,(ad (aw 2 bW.nd am) (ad (eR Fy rfl (Da (ak 0)) (bL (n:=2) rfl (ay (aq 3 bW.nd) (ay (aq 4 bW.nd) aW))) (af (aw 2 bW.nd (ax aL (ak 2) (ax bT (ak 4) (dQ hU (ak 1) (ak 3) (λ_ _=>rfl))))))) (af (au (ak 2))))),?_⟩;obtain⟨k,ts,ks,vs,f,rfl,ht,q⟩:=h;walk_at "rd";refine de λF N hF hN=>?_;walk_at "rd";simp only[jw];walk_at "rd";refine⟨λi δ=>∃x y,δ=[.dat (sq k (ts.map EK)),.dat (.dct ks vs),.dat (.int (et f (ts.take i))),x,y],⟨_,_,rfl⟩,?_,?_⟩
 ·rintro i d δ hd ⟨x,y,rfl⟩;obtain⟨t,hn,rfl⟩:=dO hd;obtain⟨h1,h2,h3⟩:=ht t (Fm hn);rw[hF];walk_at "rd";refine⟨_,h1,?_⟩;walk_at "rd";refine⟨mo2 h2 h3,?_⟩;rw[aC hn,n5,vS]
 ·rintro δ ⟨x,y,rfl⟩;rw[E7,Fw,hN];walk_at "rd";exact q
def oh(k:Kd)(s b:Int):Bool:=match k with
 | .least=>decide (b<=s)
 | .more=>decide (b<s)
def EW.so(f:Str->Int)(B:Int):EW->Bool
 | .row k ts b=>oh k (et f ts) (b*B)
 | .nt s=>!s.so f B
 | .bo s t=>s.so f B&&t.so f B
 | .ei s t=>s.so f B||t.so f B
def yB(p q:Str->Int)(k:Kd)(ts:List (Str×Int))(b:Int):Bool:=oh k (et (ov p q (ED q (ts.map (·.1)))) ts) (b*ED q (ts.map (·.1)))
def EW.tv(p q:Str->Int):EW->Bool
 | .row k ts b=>yB p q k ts b
 | .nt s=>!s.tv p q
 | .bo s t=>s.tv p q&&t.tv p q
 | .ei s t=>s.tv p q||t.tv p q
theorem CA{p:Str->Int}{B:Int}{k:Kd}{b:Int}(hB:0<B)(h:∀t∈ts,0<q t.1/\q t.1 ∣ B):oh k (et (ov p q B) ts) (b*B)=yB p q k ts b:=by
 have hC:0<ED q (ts.map (·.1)):=dF λn hn=>by
  obtain⟨t,h1,rfl⟩:=E8.mp hn;exact(h t h1).1
 have e:=tF (p:=p) (q:=q) (B:=B) (C:=ED q (ts.map (·.1))) (ts:=ts) λt h1=>⟨by have:=(h t h1).1;omega,(h t h1).2,fW (E8.mpr ⟨t,h1,rfl⟩)⟩
 unfold yB
 cases k with
 | least=>exact decide_eq_decide.mpr (uZ (a:=0) hB hC e)
 | more=>exact decide_eq_decide.mpr (vo hB hC e)
def EW.so_tv{p:Str->Int}{B:Int}(hB:0<B):∀ {s:EW},(∀n∈s.nms,0<q n/\q n ∣ B)->s.so (ov p q B) B=s.tv p q
 | .row k ts b,h=>CA hB λt h1=>h t.1 (E8.mpr ⟨t,h1,rfl⟩)
 | .nt s,h=>by show (!s.so _ _)=!s.tv p q;rw[EW.so_tv (s:=s) hB h]
 | .bo s t,h=>by
  show (s.so _ _&&t.so _ _)=(s.tv p q&&t.tv p q)
  rw[EW.so_tv (s:=s) hB λn hn=>h n (Fx _ hn),EW.so_tv (s:=t) hB λn hn=>h n (Fo _ hn)]
 | .ei s t,h=>by
  show (s.so _ _||t.so _ _)=(s.tv p q||t.tv p q)
  rw[EW.so_tv (s:=s) hB λn hn=>h n (Fx _ hn),EW.so_tv (s:=t) hB λn hn=>h n (Fo _ hn)]
inductive jl(ds:List D)(R:D->Prop):Prop
 | mk (k:Kd) (ts:List (Str×Int)) (b:Int) (ks:List Str) (vs:List D) (f:Str->Int) (B:Int) (hh:ds=[j3 k ts b,.dct ks vs,.int B]/\(∀t∈ts,dAt ks vs t.1=some (.int (f t.1))/\ib t.2<=60000/\ib (f t.1)<=2000000)/\ib b<=60000/\ib B<=8000/\R (.bl (oh k (et f ts) (b*B))))
def ju:∀ds R,jl ds R->ds.length=3:=λ_ _ ⟨_,_,_,_,_,_,_,e,_⟩=>by rw[e];rfl
theorem dR:aA ["row","tops","bottom","top","bound"] ["row","tops","bottom"] (ap s_row_is_so):=by walk_at "sc"
theorem kR(Z:Zz):Z.C 2 "row_is_so" ["row","tops","bottom"] (E2 Z.K jl):=by
 refine cF Z.x10 dR ju λfa cdv A outer s H E ds R hr h=>?_;have hU:=hr.units;refine⟨_,(ad (aw 3 dR.nd (ar (eK Z) (rm hr) rfl (ac (EZ 0) (ac (ak 1) ae)))) (ad (aw 4 dR.nd (ax bT (EZ 0) (ak 2))) (ad (aM (aD (dy hU) (EZ 0) aE (av _)) (af (au (cm o_ge (ak 3) (ak 4) (av _)))) aB) (af (au (cm uH (ak 3) (ak 4) (av _))))))),?_⟩;obtain⟨k,ts,b,ks,vs,f,B,rfl,ht,hb,hB,q⟩:=h;unfold j3;walk_at "rd";refine⟨false,ts,ks,vs,f,rfl,ht,?_⟩;walk_at "rd";refine⟨mo2 hb hB,?_⟩
 cases k with
 | least=>exact ifp rfl q
 | more=>exact Ex (by decide) q
inductive bR(n:Nat)(ds:List D)(R:D->Prop):Prop
 | mk (s:EW) (ks:List Str) (vs:List D) (f:Str->Int) (B:Int) (names:List Str) (hh:ds=[s.D,.dct ks vs,.int B]/\s.dep<=n/\s.ok names/\(∀x∈s.nms,dAt ks vs x=some (.int (f x))/\Builtin.Int.intBits (f x)<=2000000)/\Builtin.Int.intBits B<=8000/\R (.bl (s.so f B)))
def gM(n:Nat):∀ds R,bR n ds R->ds.length=3:=λ_ _ ⟨_,_,_,_,_,_,e,_⟩=>by rw[e];rfl
def fX:∀ds R,¬ bR 0 ds R:=λ_ _ ⟨s,_,_,_,_,_,_,h,_⟩=>by have:=s.dep_pos;omega
theorem fM:aA ["saying","tops","bottom","first"] ["saying","tops","bottom"] (ap s_part_is_so):=by walk_at "sc"
theorem jC(Z:Zz){n:Nat}(dX:Z.C (3+n) "part_is_so" ["saying","tops","bottom"] (E2 Z.K (bR n))):Z.C (3+n+1) "part_is_so" ["saying","tops","bottom"] (E2 Z.K (bR (n+1))):=by
 refine cF (k:=3+n) Z.x11 fM (gM (n+1)) λfa cdv A outer s H E ds R hr h=>?_;have hU:=hr.units;refine⟨_,(ad (aM (cj (ar (eg Z) (hr.mono (by omega)) rfl (ac (ak 0) ae))) (af (au (ar (kR Z) (hr.mono (by omega)) rfl (ac (ak 0) (ac (ak 1) (ac (ak 2) ae)))))) aB) (ad (aw 3 fM.nd (ar dX (hr.mono (by omega)) rfl (ac (EZ 0) (ac (ak 1) (ac (ak 2) ae))))) (ad (aM (aD (dy hU) (EZ 0) aE (av _)) (af (au (lL (ak 3)))) aB) (ad (aM (aD (dy hU) (EZ 0) aE (av _)) (af (au (jn (ak 3) (d8 (ar dX (hr.mono (by omega)) rfl (ac (EZ 0) (ac (ak 1) (ac (ak 2) ae)))))))) aB) (af (au (vd (ak 3) (d8 (ar dX (hr.mono (by omega)) rfl (ac (EZ 0) (ac (ak 1) (ac (ak 2) ae)))))))))))),?_⟩;obtain⟨s,ks,vs,f,B,names,rfl,hd,ok,hf,hB,q⟩:=h;refine ag λK1 h1=>?_;walk_at "rd";refine⟨s,rfl,?_⟩;walk_at "rd"
 cases s with
 | row k ts b =>
  refine ifp rfl ⟨k,ts,b,ks,vs,f,B,rfl,λt h1=>?_,Fa ok.2 (by decide),hB,q⟩;obtain⟨h2,h3⟩:=hf t.1 (E8.mpr ⟨t,h1,rfl⟩);exact⟨h2,Fa (ok.1.bits t h1) (by decide),h3⟩
 | nt s =>
  refine Ex Fg ?_;unfold EW.D;rw[h1];refine ag λK2 h2=>?_;walk_at "rd";have hd:s.dep+1<=n+1:=hd;refine⟨s,ks,vs,f,B,names,rfl,by omega,ok,hf,hB,?_⟩;walk_at "rd";rw[h2];refine ag λK3 h3=>?_;walk_at "rd";exact q
 | bo s t =>
  refine Ex Fg ?_;unfold EW.D;rw[h1];refine ag λK2 h2=>?_;walk_at "rd";have hd:max s.dep t.dep+1<=n+1:=hd;refine⟨s,ks,vs,f,B,names,rfl,by omega,ok.1,λx h=>hf x (Fx _ h),hB,?_⟩;walk_at "rd";rw[h2];refine ag λK3 h3=>?_;walk_at "rd";refine Ex (by decide) ?_;rw[h3];refine ag λK4 h4=>?_;walk_at "rd";have q:R (.bl (s.so f B&&t.so f B)):=q
  cases e:s.so f B with
  | true =>
   rw[e,HF] at q;exact ifp rfl ⟨t,ks,vs,f,B,names,rfl,by omega,ok.2,λx h=>hf x (Fo _ h),hB,q⟩
  | false =>
   rw[e,Bool.false_and] at q;exact Ex Fg q
 | ei s t =>
  refine Ex Fg ?_;unfold EW.D;rw[h1];refine ag λK2 h2=>?_;walk_at "rd";have hd:max s.dep t.dep+1<=n+1:=hd;refine⟨s,ks,vs,f,B,names,rfl,by omega,ok.1,λx h=>hf x (Fx _ h),hB,?_⟩;walk_at "rd";rw[h2];refine ag λK3 h3=>?_;walk_at "rd";refine Ex (by decide) ?_;rw[h3];refine ag λK4 h4=>?_;walk_at "rd";refine Ex (by decide) ?_;rw[h4];walk_at "rd";have q:R (.bl (s.so f B||t.so f B)):=q
  cases e:s.so f B with
  | true =>
   rw[e,Bool.true_or] at q;exact ifp rfl q
  | false =>
   rw[e,Bool.false_or] at q;exact Ex Fg ⟨t,ks,vs,f,B,names,rfl,by omega,ok.2,λx h=>hf x (Fo _ h),hB,q⟩
def jE(Z:Zz):Z.C 63 "part_is_so" ["saying","tops","bottom"] (E2 Z.K (bR 60)):=Nat.rec (motive:=λn=>Z.C (3+n) "part_is_so" ["saying","tops","bottom"] (E2 Z.K (bR n))) (ip Z.x11 _ fX) (λ_=>jC Z) 60
inductive tw(ds:List D)(R:D->Prop):Prop
 | mk (s:EW) (ks:List Str) (ps:List (Int×Int)) (names:List Str) (T κ:Nat) (hh:ds=[s.D,.dct ks (ps.map EO)]/\s.dep<=60/\s.ok names/\names.length<=60/\(∀x∈s.nms,x∈ks)/\Pt ks ps T/\T<=1000000/\ib (ED (pB ks ps) ks)<=κ/\κ<=7990/\R (.bl (s.tv (pT ks ps) (pB ks ps))))
def nF:∀ds R,tw ds R->ds.length=2:=λ_ _ ⟨_,_,_,_,_,_,e,_⟩=>by rw[e];rfl
theorem pC:aA ["saying","point","known"] ["saying","point"] (ap s_is_so):=by walk_at "sc"
theorem lZ(Z:Zz):Z.C 64 "is_so" ["saying","point"] (E2 Z.K tw):=by
 refine cF Z.x12 pC nF λfa cdv A outer s H E ds R hr h=>?_;have hU:=hr.units;refine⟨_,(ad (aw 2 pC.nd (ar (jr Z) (rm hr) rfl (ac (ar (gy Z) (rm hr) rfl (ac (ak 0) ae)) (ac (ak 1) ae)))) (af (au (ar (jE Z) (rm hr) rfl (ac (ak 0) (ac (EZ 2) (ac (EZ 2) ae))))))),?_⟩;obtain⟨s,ks,ps,names,T,κ,rfl,hd,ok,hl,hin,hp,hT,hb,hκ,q⟩:=h;walk_at "rd";refine⟨names,s,rfl,hd,ok,hl,λss nd hm hs=>?_⟩;have hs2:∀n∈ss,n∈ks:=λn hn=>hin n ((hm n).mp hn);have l60:ss.length<=60:=Fa (gL nd λk hk=>EW.nms_sub ok k ((hm k).mp hk)) hl;refine⟨ss,ks,ps,T,κ,rfl,nd,by omega,hs2,hp,hT,hb,hκ,?_⟩;walk_at "rd";have bp:=dF (q:=pB ks ps) (l:=ss) λn hn=>hp.pos (hs2 n hn);have bb:=pc (q:=pB ks ps) nd hs2 (λn hn=>hp.pos hn) hb;refine⟨s,ss,_,_,_,names,rfl,hd,ok,λx hx=>⟨cG (λn=>D.int (ov (pT ks ps) (pB ks ps) (ED (pB ks ps) ss) n)) ((hm x).mpr hx),Fa (FK (hp.Tb (hin x hx)) (F4 bb)) (by omega)⟩,Fa bb (by omega),?_⟩;rw[EW.so_tv bp λn hn=>⟨hp.pos (hin n hn),fW ((hm n).mpr hn)⟩];exact q
def _root_.Mf.Kd.op:Kd->Kd
 | .least=>.more
 | .more=>.least
def opps:List (Str×Str):=[("least","more"),("more","least"),("both","either"),("either","both")]
theorem Bo(k:Kd):PyProof.Rows.KTD.datumAt (kdS k) opps=some (kdS k.op):=by cases k<;>decide
def conD(k:Kd)(ts:List (Str×Int))(b:Int):D:=j3 k.op (pV ts) (-b)
inductive kf(ds:List D)(R:D->Prop):Prop
 | mk (k:Kd) (ts:List (Str×Int)) (b:Int) (hh:ds=[j3 k ts b]/\ts.length<=100/\R (conD k ts b))
def jJ:∀ds R,kf ds R->ds.length=1:=λ_ _ ⟨_,_,_,e,_⟩=>by rw[e];rfl
theorem jj:aA ["row","terms"] ["row"] (ap s_contrary):=by walk_at "sc"
theorem my(Z:Zz):Z.C 1 "contrary" ["row"] (E2 Z.K kf):=by
 refine cF Z.x13 jj jJ λfa cdv A outer s H E ds R hr h=>?_;have hU:=hr.units;refine⟨_,(ad (aw 1 jj.nd (aX cw rfl Z.x52 a7 (ac (bx ["name","weight"] [] rfl rfl (by decide +kernel) rfl (by decide +kernel) (a8 trivial) (λ_=>be rfl) (aP trivial) (gm (EZ 0)) λ_ _ _ _ _=>⟨(bL (n:=2) rfl (ay (aq 0 (show List.Nodup (["name","weight"]:List Str) by decide +kernel)) (ay (aq 1 (show List.Nodup (["name","weight"]:List Str) by decide +kernel)) aW))),b8,(aK (ac (ak 0) (ac (ng ny (ak 1)) ae)))⟩) ae))) (af (au (aK (ac (sG rfl Z.g_OPPOSITES (EZ 0) (λ_ _=>rfl)) (ac (ak 1) (ac (ng ny (EZ 0)) ae))))))),?_⟩;obtain⟨k,ts,b,rfl,hl,q⟩:=h;unfold j3;walk_at "rd";refine⟨by rw[E7];omega,λd=>match d with | .tup [.str n,.int w]=>some (.tup [.str n,.int (-w)]) | _=>none,λx hx=>?_,?_⟩
 ·obtain⟨t,_,rfl⟩:=E8.mp hx;unfold EK;walk_at "rd"
 ·rw[aH _ EK (λt=>D.tup [.str t.1,.int (-t.2)]) _ (by intro _ _;rfl)];refine⟨_,Bo k,?_⟩;unfold conD j3 pV at q;rw[FL] at q;exact q
def EW.pl:EW->Bool->EW
 | .row k ts b,t=>if t=true then .row k.op (pV ts) (-b) else .row k ts b
 | .nt s,t=>s.pl (!t)
 | .bo s u,t=>if t=true then .ei (s.pl t) (u.pl t) else .bo (s.pl t) (u.pl t)
 | .ei s u,t=>if t=true then .bo (s.pl t) (u.pl t) else .ei (s.pl t) (u.pl t)
inductive bP(n:Nat)(ds:List D)(R:D->Prop):Prop
 | mk (s:EW) (t:Bool) (names:List Str) (hh:ds=[s.D,.bl t]/\s.dep<=n/\s.ok names/\names.length<=100/\R (s.pl t).D)
def gG(n:Nat):∀ds R,bP n ds R->ds.length=2:=λ_ _ ⟨_,_,_,e,_⟩=>by rw[e];rfl
def gf:∀ds R,¬ bP 0 ds R:=λ_ _ ⟨s,_,_,_,h,_⟩=>by have:=s.dep_pos;omega
theorem rW(h:jN names ts):ts.length<=names.length:=by have:=h.sub.length_le;rw[E7] at this;exact this
theorem fC:aA ["saying","turned","word"] ["saying","turned"] (ap s_plain_part):=by walk_at "sc"
theorem iu(Z:Zz){n:Nat}(dZ:Z.C (2+n) "plain_part" ["saying","turned"] (E2 Z.K (bP n))):Z.C (2+n+1) "plain_part" ["saying","turned"] (E2 Z.K (bP (n+1))):=by
 refine cF (k:=2+n) Z.x14 fC (gG (n+1)) λfa cdv A outer s H E ds R hr h=>?_;have hU:=hr.units;refine⟨_,(ad (aM (aD (dy hU) (EZ 0) aE (av _)) (af (au (ar dZ (hr.mono (by omega)) rfl (ac (EZ 0) (ac (lL (ak 1)) ae))))) aB) (ad (aM (cj (ar (eg Z) (hr.mono (by omega)) rfl (ac (ak 0) ae))) (af (au (tW (cj (ak 1)) (ar (my Z) (hr.mono (by omega)) rfl (ac (ak 0) ae)) (ak 0)))) aB) (ad (aw 2 fC.nd (tW (cj (ak 1)) (sG rfl Z.g_OPPOSITES (EZ 0) (λ_ _=>rfl)) (EZ 0))) (af (au (aK (ac (ak 2) (ac (ar dZ (hr.mono (by omega)) rfl (ac (EZ 0) (ac (ak 1) ae))) (ac (ar dZ (hr.mono (by omega)) rfl (ac (EZ 0) (ac (ak 1) ae))) ae))))))))),?_⟩;obtain⟨s,t,names,rfl,hd,ok,hl,q⟩:=h;refine ag λK1 h1=>?_
 cases s with
 | row k ts b =>
  have hts:=rW ok.1
  have hnot:¬ kdS k=Str.ofString "not":=by cases k<;>decide
  unfold EW.D j3;walk_at "rd";refine Ex hnot ?_;rw[h1];refine ag λK2 h2=>?_;walk_at "rd";refine⟨.row k ts b,rfl,?_⟩;walk_at "rd";refine ifp rfl ?_
  cases t with
  | true=>exact ifp rfl ⟨k,ts,b,rfl,by omega,q⟩
  | false=>exact Ex Fg q
 | nt s =>
  unfold EW.D;walk_at "rd";have hd:s.dep+1<=n+1:=hd;exact⟨s,!t,names,rfl,by omega,ok,hl,q⟩
 | bo s u =>
  unfold EW.D;walk_at "rd";have hd:max s.dep u.dep+1<=n+1:=hd;refine Ex (by decide) ?_;rw[h1];refine ag λK2 h2=>?_;walk_at "rd";refine⟨.bo s u,rfl,?_⟩;walk_at "rd";refine Ex Fg ?_;walk_at "rd";rw[h2];refine ag λK3 h3=>?_;walk_at "rd"
  cases t with
  | true =>
   refine ifp rfl ⟨"either",by decide,?_⟩;rw[h3];walk_at "rd";refine⟨s,true,names,rfl,by omega,ok.1,hl,?_⟩;refine⟨u,true,names,rfl,by omega,ok.2,hl,?_⟩;exact q
  | false =>
   refine Ex Fg ?_;rw[h3];walk_at "rd";refine⟨s,false,names,rfl,by omega,ok.1,hl,?_⟩;refine⟨u,false,names,rfl,by omega,ok.2,hl,?_⟩;exact q
 | ei s u =>
  unfold EW.D;walk_at "rd";have hd:max s.dep u.dep+1<=n+1:=hd;refine Ex (by decide) ?_;rw[h1];refine ag λK2 h2=>?_;walk_at "rd";refine⟨.ei s u,rfl,?_⟩;walk_at "rd";refine Ex Fg ?_;walk_at "rd";rw[h2];refine ag λK3 h3=>?_;walk_at "rd"
  cases t with
  | true =>
   refine ifp rfl ⟨"both",by decide,?_⟩;rw[h3];walk_at "rd";refine⟨s,true,names,rfl,by omega,ok.1,hl,?_⟩;refine⟨u,true,names,rfl,by omega,ok.2,hl,?_⟩;exact q
  | false =>
   refine Ex Fg ?_;rw[h3];walk_at "rd";refine⟨s,false,names,rfl,by omega,ok.1,hl,?_⟩;refine⟨u,false,names,rfl,by omega,ok.2,hl,?_⟩;exact q
def jR(Z:Zz):Z.C 62 "plain_part" ["saying","turned"] (E2 Z.K (bP 60)):=Nat.rec (motive:=λn=>Z.C (2+n) "plain_part" ["saying","turned"] (E2 Z.K (bP n))) (ip Z.x14 _ gf) (λ_=>iu Z) 60
inductive t7(ds:List D)(R:D->Prop):Prop
 | mk (s:EW) (names:List Str) (hh:ds=[s.D]/\s.dep<=60/\s.ok names/\names.length<=100/\R (s.pl false).D)
def nD:∀ds R,t7 ds R->ds.length=1:=λ_ _ ⟨_,_,e,_⟩=>by rw[e];rfl
theorem wc:aA ["saying"] ["saying"] (ap s_plain):=by walk_at "sc"
theorem ti(Z:Zz):Z.C 63 "plain" ["saying"] (E2 Z.K t7):=by
 refine cF Z.x15 wc nD λfa cdv A outer s H E ds R hr h=>?_;have hU:=hr.units;refine⟨_,(af (au (ar (jR Z) (rm hr) rfl (ac (ak 0) (ac cc ae))))),?_⟩;obtain⟨s,names,rfl,hd,ok,hl,q⟩:=h;walk_at "rd";exact⟨s,false,names,rfl,hd,ok,hl,q⟩
theorem rf(ts:List (Str×Int)):(pV ts).map (·.1)=ts.map (·.1):=by unfold pV;rw[FL];rfl
theorem rB(h:jN names ts):jN names (pV ts):=by
 refine⟨by rw[rf];exact h.sub,λt ht=>?_,λt ht=>?_⟩
 ·obtain⟨u,hu,rfl⟩:=E8.mp ht;have:=h.nz u hu;show -u.2≠0;omega
 ·obtain⟨u,hu,rfl⟩:=E8.mp ht;exact G9 (h.bits u hu)
def EW.pl_ok:∀ {s:EW} {t:Bool},s.ok names->(s.pl t).ok names
 | .row k ts b,true,h=>⟨rB h.1,G9 h.2⟩
 | .row k ts b,false,h=>h
 | .nt s,t,h=>EW.pl_ok (s:=s) h
 | .bo s u,true,h=>⟨EW.pl_ok h.1,EW.pl_ok h.2⟩
 | .bo s u,false,h=>⟨EW.pl_ok h.1,EW.pl_ok h.2⟩
 | .ei s u,true,h=>⟨EW.pl_ok h.1,EW.pl_ok h.2⟩
 | .ei s u,false,h=>⟨EW.pl_ok h.1,EW.pl_ok h.2⟩
def EW.pl_dep:∀ {s:EW} {t:Bool},(s.pl t).dep<=s.dep
 | .row k ts b,true=>Fh _
 | .row k ts b,false=>Fh _
 | .nt s,t=>Nat.le_succ_of_le (EW.pl_dep (s:=s))
 | .bo s u,true=>by have:=EW.pl_dep (s:=s) (t:=true);have:=EW.pl_dep (s:=u) (t:=true);show max _ _+1<=max _ _+1;omega
 | .bo s u,false=>by have:=EW.pl_dep (s:=s) (t:=false);have:=EW.pl_dep (s:=u) (t:=false);show max _ _+1<=max _ _+1;omega
 | .ei s u,true=>by have:=EW.pl_dep (s:=s) (t:=true);have:=EW.pl_dep (s:=u) (t:=true);show max _ _+1<=max _ _+1;omega
 | .ei s u,false=>by have:=EW.pl_dep (s:=s) (t:=false);have:=EW.pl_dep (s:=u) (t:=false);show max _ _+1<=max _ _+1;omega
def dk(ns:List Int)(k:Int):Int:=ns.getD k.toNat 0
inductive iR(ds:List D)(R:D->Prop):Prop
 | mk (ns:List Int) (k:Int) (hh:ds=[.fz (ns.map D.int),.int k]/\0<=k/\R (.int (dk ns k)))
def iZ:∀ds R,iR ds R->ds.length=2:=λ_ _ ⟨_,_,e,_⟩=>by rw[e];rfl
theorem sO{α:Type}{xs:List α}{k:Int}(h0:0<=k)(h:k<xs.length):EA xs k=xs[k.toNat]?:=by
 unfold EA ixN;rw[Fs h0,Fs h];rfl
theorem mI:aA ["_law_script","_law_k"] ["_law_script","_law_k"] (ap s__law_cell):=by walk_at "sc"
theorem cE(Z:Zz):Z.C 1 "_law_cell" ["_law_script","_law_k"] (E2 Z.K iR):=by
 refine cF Z.x16 mI iZ λfa cdv A outer s H E ds R hr h=>?_;have hU:=hr.units;refine⟨_,(ad (aM (aD uR (ak 1) (aG ce rfl Z.x53 bU (ac (ak 0) ae)) (av _)) (af (au (bM bJ (ak 0) (ak 1) (λ_ _=>rfl)))) aB) (af (au am))),?_⟩;obtain⟨ns,k,rfl,h0,q⟩:=h;walk_at "rd";refine cR (λc=>?_) (λc=>?_)
 ·rw[E7] at c;refine Ez.of (v:=.int (dk ns k)) ?_ q;rw[sO h0 (by rw[E7];exact c),List.getElem?_map];have:k.toNat<ns.length:=by omega
  unfold dk;rw[List.getD_eq_getElem?_getD,List.getElem?_eq_getElem this];rfl
 ·rw[E7] at c;have:ns.length<=k.toNat:=by omega
  unfold dk at q;rw[List.getD_eq_getElem?_getD,List.getElem?_eq_none this] at q;exact q
theorem wW{α:Type}{xs:List α}{k:Nat}:cut xs none (some (k:Int))=xs.take k:=by
 unfold cut;rw[HT.sIx_none,HT.sIx_nat,List.drop_zero,Nat.sub_zero]
 by_cases h:k<=xs.length
 ·rw[Nat.min_eq_left h]
 ·rw[Nat.min_eq_right (by omega),Fw,GE (by omega)]
theorem dD{α β:Type}{f:α->β}{xs:List α}{k:Nat}(h:k<xs.length):EA (xs.map f) (k:Int)=some (f xs[k]):=by
 rw[sO (by omega) (by rw[E7];omega),List.getElem?_map,GR,List.getElem?_eq_getElem h];rfl
def EW.cs:EW->List (List EW)
 | .row k ts b=>[[.row k ts b]]
 | .nt _=>[]
 | .bo s t=>s.cs.flatMap λc=>t.cs.map λd=>c++d
 | .ei s t=>s.cs++t.cs
def EW.pn:EW->Bool
 | .row _ _ _=>true
 | .nt _=>false
 | .bo s t=>s.pn&&t.pn
 | .ei s t=>s.pn&&t.pn
def EW.num:EW->Nat
 | .bo s t=>s.num*t.num
 | .ei s t=>s.num+t.num
 | _=>1
def EW.long:EW->Nat
 | .bo s t=>s.long+t.long
 | .ei s t=>max s.long t.long
 | _=>1
def EW.num_pos:∀s:EW,0<s.num
 | .row _ _ _=>Nat.one_pos
 | .nt _=>Nat.one_pos
 | .bo s t=>Nat.mul_pos s.num_pos t.num_pos
 | .ei s t=>Nat.add_pos_left s.num_pos _
def EW.long_pos:∀s:EW,0<s.long
 | .row _ _ _=>Nat.one_pos
 | .nt _=>Nat.one_pos
 | .bo s t=>Nat.add_pos_left s.long_pos _
 | .ei s t=>by have:=s.long_pos;show 0<max s.long t.long;omega
theorem sV{α β γ:Type}(f:α->β->γ)(m:List β):∀l:List α,(l.flatMap λc=>m.map λd=>f c d).length=l.length*m.length
 | []=>(Nat.zero_mul _).symm
 | c::l=>by rw[List.flatMap_cons,Fi,E7,sV f m l,Fl,Nat.succ_mul,Nat.add_comm]
def EW.cs_num:∀ {s:EW},s.pn=true->s.cs.length=s.num
 | .row _ _ _,_=>rfl
 | .bo s t,h=>by
  obtain⟨h1,h2⟩:=FE.mp h;show (s.cs.flatMap λc=>t.cs.map λd=>c++d).length=s.num*t.num;rw[sV,EW.cs_num h1,EW.cs_num h2]
 | .ei s t,h=>by
  obtain⟨h1,h2⟩:=FE.mp h;show (s.cs++t.cs).length=s.num+t.num;rw[Fi,EW.cs_num h1,EW.cs_num h2]
def EW.cs_long:∀ {s:EW},s.pn=true->∀c∈s.cs,c.length<=s.long
 | .row _ _ _,_,c,h=>by rw[Fn.mp h];exact Fh 1
 | .bo s t,h,c,hc=>by
  obtain⟨h1,h2⟩:=FE.mp h;obtain⟨x,hx,hy⟩:=Gm.mp hc;obtain⟨y,hz,rfl⟩:=E8.mp hy;have:=EW.cs_long h1 x hx;have:=EW.cs_long h2 y hz;rw[Fi];show _<=s.long+t.long;omega
 | .ei s t,h,c,hc=>by
  obtain⟨h1,h2⟩:=FE.mp h;show _<=max s.long t.long
  rcases Fk.mp hc with hc | hc
  ·have:=EW.cs_long h1 c hc;omega
  ·have:=EW.cs_long h2 c hc;omega
def EW.pl_pn:∀ {s:EW} {t:Bool},(s.pl t).pn=true
 | .row k ts b,true=>rfl
 | .row k ts b,false=>rfl
 | .nt s,t=>EW.pl_pn (s:=s)
 | .bo s u,true=>by show ((s.pl true).pn&&(u.pl true).pn)=true;rw[EW.pl_pn,EW.pl_pn];rfl
 | .bo s u,false=>by show ((s.pl false).pn&&(u.pl false).pn)=true;rw[EW.pl_pn,EW.pl_pn];rfl
 | .ei s u,true=>by show ((s.pl true).pn&&(u.pl true).pn)=true;rw[EW.pl_pn,EW.pl_pn];rfl
 | .ei s u,false=>by show ((s.pl false).pn&&(u.pl false).pn)=true;rw[EW.pl_pn,EW.pl_pn];rfl
def dM(c:List EW):D:=.lst (c.map EW.D)
def csD(cs:List (List EW)):D:=.lst (cs.map dM)
inductive eJ(ds:List D)(R:D->Prop):Prop
 | mk (A B:List (List EW)) (hh:ds=[csD A,csD B]/\A.length<=20/\B.length<=20/\(∀c∈A,c.length<=20)/\(∀c∈B,c.length<=20)/\R (csD (A.flatMap λc=>B.map λd=>c++d)))
def fQ:∀ds R,eJ ds R->ds.length=2:=λ_ _ ⟨_,_,e,_⟩=>by rw[e];rfl
theorem wP{cs:List (List EW)}{i:Nat}{d:D}(h:(cs.map dM)[i]?=some d):∃c,cs[i]?=some c/\d=.lst (c.map EW.D):=by
 rw[List.getElem?_map] at h
 cases e:cs[i]? with
 | none=>rw[e] at h;cases h
 | some n=>rw[e] at h;exact⟨n,rfl,(Fz h).symm⟩
theorem b7:aA ["one","other","told","first","second"] ["one","other"] (ap s_put_together):=by walk_at "sc"
theorem gR(Z:Zz):Z.C 1 "put_together" ["one","other"] (E2 Z.K eJ):=by
 refine cF Z.x17 b7 fQ λfa cdv A outer s H E ds R hr h=>?_;have hU:=hr.units;refine⟨_,(ad (dg 2 b7.nd ae) (ad (cu Fy rfl (ak 0) (aq 3 b7.nd) (af (cu Fy rfl (ak 1) (aq 4 b7.nd) (af (ba 2 (ax aL (ak 3) (ak 4))))))) (af (kY 2)))),?_⟩;obtain⟨A,B,rfl,hA,hB,lA,lB,q⟩:=h;unfold csD at q ⊢;walk_at "rd";intro a;walk_at "rd";simp only[rg];walk_at "rd";have fl:∀i,((A.take i).flatMap λc=>B.map λd=>c++d).length<=400:=λi=>by
  rw[sV,FI];exact Ha (show min i A.length<=20 by omega) hB
 refine⟨λi δ=>∃x y,δ=[.dat (.lst (A.map dM)),.dat (.lst (B.map dM)),.own a (.lst (((A.take i).flatMap λc=>B.map λd=>c++d).map dM)),x,y],⟨_,_,rfl⟩,?_,?_⟩
 ·rintro i d δ hd ⟨x,y,rfl⟩;obtain⟨c,hc,rfl⟩:=wP hd;have hcl:=lA c (Fm hc);have hfl:=fl i;walk_at "rd";refine⟨λj δ=>∃x,δ=[.dat (.lst (A.map dM)),.dat (.lst (B.map dM)),.own a (.lst (((A.take i).flatMap (λc=>B.map λd=>c++d)++(B.take j).map λd=>c++d).map dM)),.dat (.lst (c.map EW.D)),x],⟨_,by rw[G8,G1,FZ]⟩,?_,?_⟩
  ·rintro j d δ hd ⟨x,rfl⟩;obtain⟨e,he,rfl⟩:=wP hd;have hel:=lB e (Fm he);walk_at "rd";refine⟨by simp only[List.length_map];omega,by simp only[List.length_map,List.length_append,List.length_take];omega,?_⟩;rw[aC he,Fv,Fv,Fv];simp only[dM,List.map_append,List.map_cons,List.map_nil,List.append_assoc]
  ·rintro δ ⟨x,rfl⟩;rw[E7,Fw];rw[aC hc,GD,GY];exact⟨_,_,rfl⟩
 ·rintro δ ⟨x,y,rfl⟩;rw[E7,Fw];walk_at "rd";exact q
inductive bq(n:Nat)(ds:List D)(R:D->Prop):Prop
 | mk (s:EW) (w:D) (hh:ds=[s.D,w]/\s.dep<=n/\s.pn=true/\s.num<=4/\s.long<=3/\R (csD s.cs))
def fO(n:Nat):∀ds R,bq n ds R->ds.length=2:=λ_ _ ⟨_,_,e,_⟩=>by rw[e];rfl
def eY:∀ds R,¬ bq 0 ds R:=λ_ _ ⟨s,_,_,h,_⟩=>by have:=s.dep_pos;omega
theorem sI{cs:List (List EW)}{P:Prop}(h4:cs.length<=4)(h3:∀c∈cs,c.length<=3)(h0:0<cs.length)(q:P):¬ (4:Int)<(cs.map dM).length/\(cs.map dM).length<=9000/\∃f:D->Option D,(∀x∈cs.map dM,AD [x] (kD (wd λy δ4=>okT 1 δ4 []/\f x=some y) [.dat x]))/\∃ns:List Int,(cs.map dM).filterMap f=ns.map D.int/\0<ns.length/\∀M∈ns,(∀a∈ns,a<=M)->if 3<M then False else P:=by
 refine⟨by rw[E7];omega,by rw[E7];omega,λd=>match d with | .lst l=>some (.int l.length) | _=>none,λx hx=>?_,cs.map λc=>(c.length:Int),?_,by rw[E7];exact h0,λM hM _=>?_⟩
 ·obtain⟨c,_,rfl⟩:=E8.mp hx;exact⟨rfl,rfl⟩
 ·rw[aH _ dM (λc=>D.int (c.length:Int)) _ (by intro c _;show some (D.int ((c.map EW.D).length:Int))=_;rw[E7]),FL];rfl
 ·obtain⟨c,hc,rfl⟩:=E8.mp hM;have:=h3 c hc;exact Ex (by omega) q
theorem EW.cs_pos{s:EW}(h:s.pn=true):0<s.cs.length:=by rw[EW.cs_num h];exact s.num_pos
theorem bX:aA ["part","whole","one","other","told"] ["part","whole"] (ap s_cases_within):=by walk_at "sc"
theorem fY(Z:Zz){n:Nat}(eI:Z.C (2+n) "cases_within" ["part","whole"] (E2 Z.K (bq n))):Z.C (2+n+1) "cases_within" ["part","whole"] (E2 Z.K (bq (n+1))):=by
 refine cF (k:=2+n) Z.x18 bX (fO (n+1)) λfa cdv A outer s H E ds R hr h=>?_;have hU:=hr.units;refine⟨_,(ad (aM (cj (ar (eg Z) (hr.mono (by omega)) rfl (ac (ak 0) ae))) (af (au (bG (ac (bG (ac (ak 0) ae)) ae)))) aB) (ad (aw 2 bX.nd (ar eI (hr.mono (by omega)) rfl (ac (EZ 0) (ac (ak 1) ae)))) (ad (aw 3 bX.nd (ar eI (hr.mono (by omega)) rfl (ac (EZ 0) (ac (ak 1) ae)))) (ad (aw 4 bX.nd (tW (aD (dy hU) (EZ 0) aE (av _)) (ar (gR Z) (hr.mono (by omega)) rfl (ac (ak 2) (ac (ak 3) ae))) (ax aL (ak 2) (ak 3)))) (ad (aM (DW.dt (kn (aD uH (aG ce rfl Z.x53 bU (ac (ak 4) ae)) (uz rfl Z.g_MOST_CASES) (av _)) (fG (aD uH (aG (De rfl) rfl Z.x54 Eh (ac (bx ["case"] [] rfl rfl (by decide +kernel) rfl (by decide +kernel) (a8 trivial) (λ_=>be rfl) (aP trivial) (dP (ak 4)) λ_ _ _ _ _=>⟨(aq 0 (show List.Nodup (["case"]:List Str) by decide +kernel)),b8,(aG ce rfl Z.x53 bU (ac (ak 0) ae))⟩) ae)) (uz rfl Z.g_MOST_ROWS) (av _))))) jd aB) (af (au (ak 4)))))))),?_⟩;obtain⟨s,w,rfl,hd,hp,hn,hl,q⟩:=h;walk_at "rd";refine⟨s,rfl,?_⟩;walk_at "rd"
 cases s with
 | nt s=>cases hp
 | row k ts b=>exact ifp rfl q
 | bo s t =>
  refine Ex Fg ?_;unfold EW.D;walk_at "rd";obtain⟨p1,p2⟩:=FE.mp hp;have hd:max s.dep t.dep+1<=n+1:=hd;have hn2:s.num*t.num<=4:=hn;have hl2:s.long+t.long<=3:=hl;have ns1:s.num<=4:=Fa (Gu _ t.num_pos) hn2;have ns2:t.num<=4:=Fa (GF _ s.num_pos) hn2;refine⟨s,w,rfl,by omega,p1,ns1,by omega,?_⟩;refine⟨t,w,rfl,by omega,p2,ns2,by omega,?_⟩;refine⟨s.cs,t.cs,rfl,by rw[EW.cs_num p1];omega,by rw[EW.cs_num p2];omega,λc hc=>by have:=EW.cs_long p1 c hc;omega,λc hc=>by have:=EW.cs_long p2 c hc;omega,?_⟩;have h4:(EW.bo s t).cs.length<=4:=by rw[EW.cs_num hp];exact hn
  have h3:∀c∈(EW.bo s t).cs,c.length<=3:=λc hc=>Fa (EW.cs_long hp c hc) hl
  obtain⟨e1,e2⟩:=sI h4 h3 (EW.cs_pos hp) q;show kD _ _ (csD (EW.bo s t).cs);unfold csD;walk_at "rd";exact Ex e1 e2
 | ei s t =>
  refine Ex Fg ?_;unfold EW.D;walk_at "rd";obtain⟨p1,p2⟩:=FE.mp hp;have hd:max s.dep t.dep+1<=n+1:=hd;have hn2:s.num+t.num<=4:=hn;have hl2:max s.long t.long<=3:=hl;refine⟨s,w,rfl,by omega,p1,by omega,by omega,?_⟩;refine⟨t,w,rfl,by omega,p2,by omega,by omega,?_⟩;have h4:(EW.ei s t).cs.length<=4:=by rw[EW.cs_num hp];exact hn
  have h3:∀c∈(EW.ei s t).cs,c.length<=3:=λc hc=>Fa (EW.cs_long hp c hc) hl
  obtain⟨e1,e2⟩:=sI h4 h3 (EW.cs_pos hp) q;unfold csD;walk_at "rd";refine Ex (by decide) ?_;have e0:s.cs.map dM++t.cs.map dM=(EW.ei s t).cs.map dM:=(Fv ..).symm;rw[e0];have h5:s.cs.length+t.cs.length<=4:=by rw[<- Fi];exact h4
  refine⟨by rw[E7,E7];omega,?_⟩;exact Ex e1 e2
def gU(Z:Zz):Z.C 62 "cases_within" ["part","whole"] (E2 Z.K (bq 60)):=Nat.rec (motive:=λn=>Z.C (2+n) "cases_within" ["part","whole"] (E2 Z.K (bq n))) (ip Z.x18 _ eY) (λ_=>fY Z) 60
inductive uk(ds:List D)(R:D->Prop):Prop
 | mk (s:EW) (names:List Str) (hh:ds=[s.D]/\s.dep<=60/\s.ok names/\names.length<=100/\(s.pl false).num<=4/\(s.pl false).long<=3/\R (csD (s.pl false).cs))
def nR:∀ds R,uk ds R->ds.length=1:=λ_ _ ⟨_,_,e,_⟩=>by rw[e];rfl
theorem v6:aA ["saying"] ["saying"] (ap s_cases):=by walk_at "sc"
theorem e8(Z:Zz):Z.C 64 "cases" ["saying"] (E2 Z.K uk):=by
 refine cF Z.x19 v6 nR λfa cdv A outer s H E ds R hr h=>?_;have hU:=hr.units;refine⟨_,(af (au (ar (gU Z) (rm hr) rfl (ac (ar (ti Z) (rm hr) rfl (ac (ak 0) ae)) (ac (ak 0) ae))))),?_⟩;obtain⟨s,names,rfl,hd,ok,hl,hn,hg,q⟩:=h;walk_at "rd";refine⟨s,names,rfl,hd,ok,hl,?_⟩;exact⟨s.pl false,s.D,rfl,Fa EW.pl_dep hd,EW.pl_pn,hn,hg,q⟩
inductive se(ds:List D)(R:D->Prop):Prop
 | mk (rows:List Rw) (ws:List Int) (nm:List Str) (hh:ds=[.lst (rows.map EJ),.tup (ws.map D.int)]/\nm.length<=60/\(∀r∈rows,AA nm 60000000 r)/\(∀w∈ws,Builtin.Int.intBits w<=60000000) /\
 ∀ts,eX (cfs (rows.zip ws)) ts->R (j3 (kOf (EU (rows.zip ws))) ts (bds (rows.zip ws))))
def oE:∀ds R,se ds R->ds.length=2:=λ_ _ ⟨_,_,_,e,_⟩=>by rw[e];rfl
theorem b6:aA ["rows","weights","word","sums","bound","row","often","name","weight","terms"] ["rows","weights"] (ap s_added):=by walk_at "sc"
theorem ma(Z:Zz):Z.C 1 "added" ["rows","weights"] (E2 Z.K se):=by
 refine cF Z.x20 b6 oE λfa cdv A outer s H E ds R hr h=>?_;have hU:=hr.units;refine⟨_,(ad (aw 2 b6.nd aE) (ad (lm 3 b6.nd) (ad (aw 4 b6.nd am) (ad (eR Fy rfl (gv true false rfl Z.x55 (ac (ak 0) (ac (ak 1) ae))) (bL (n:=2) rfl (ay (aq 5 b6.nd) (ay (aq 6 b6.nd) aW))) (ad (aM (DW.dt (wC (aD (dy hU) (EZ 5) aE (av _)) (sn (aD uH (ak 6) am (av _))))) (af (aw 2 b6.nd aE)) aB) (ad (jp Fy rfl (EZ 5) (bL (n:=2) rfl (ay (aq 7 b6.nd) (ay (aq 8 b6.nd) aW))) (af (f9 3 hU (ax aL (ub 3 hU (ak 7) am) (ax bT (ak 6) (ak 8))) (ak 7)))) (af (aw 4 b6.nd (ax aL (ak 4) (ax bT (ak 6) (EZ 5)))))))) (dw 3 (ad (aw 9 b6.nd (aX cw rfl Z.x52 a7 (ac (bx ["name"] [(3,"sums")] rfl rfl (by decide +kernel) rfl (by decide +kernel) (a8 ⟨rfl,trivial⟩) (λ_=>be rfl) (aP ⟨⟨rfl,rfl,.inl rfl⟩,trivial⟩) (dP (aG (kC rfl) rfl Z.x51 kW (ac (ak 3) ae))) λ_ _ _ _ _=>⟨(aq 0 (show List.Nodup (["name","sums"]:List Str) by decide +kernel)),(gk (aD (gS hU) (dQ hU (ak 1) (ak 0) (λ_ _=>rfl)) am (av _))),(aK (ac (ak 0) (ac (dQ hU (ak 1) (ak 0) (λ_ _=>rfl)) ae)))⟩) ae))) (af (au (aK (ac (ak 2) (ac (ak 9) (ac (ak 4) ae)))))))))))),?_⟩;obtain⟨rows,ws,nm,rfl,hnm,hr,hw,q⟩:=h;refine ag λK1 h1=>?_;walk_at "rd";rw[h1];refine ag λK3 h3=>?_;walk_at "rd";intro da;rw[h3];refine ag λK4 h4=>?_;walk_at "rd";rw[h4];refine ag λK5 h5=>?_;refine de λB N hB hN=>?_;walk_at "rd";simp only[jw];walk_at "rd";rw[pX];generalize hl:rows.zip ws=l at q ⊢;have hl1:∀p∈l,AA nm 60000000 p.1/\Builtin.Int.intBits p.2<=60000000:=λp hp=>by
  rw[<- hl] at hp;exact⟨hr _ (FA hp).1,hw _ (FA hp).2⟩
 clear hl hr hw
 refine⟨λi δ=>∃ks u v w z y,δ=[.dat (.lst (rows.map EJ)),.dat (.tup (ws.map D.int)),.dat (.str (kdS (kOf (EU (l.take i))))),.own da (.dct ks (ks.map λn=>.int (cfs (l.take i) n))),.dat (.int (bds (l.take i))),u,v,w,z,y]/\ks.Nodup/\(∀n∈ks,n∈nm)/\∀n,n∉ks->cfs (l.take i) n=0,
  ⟨[],_,_,_,_,_,rfl,List.nodup_nil,λn h=>(nomatch h),λn h=>rfl⟩,?_,?_⟩
 ·rintro i d δ hd ⟨ks,u,v,w,z,y,rfl,nd,hs,h0⟩;rw[List.getElem?_map] at hd
  cases hn:l[i]? with
  | none=>rw[hn] at hd;cases hd
  | some p =>
   rw[hn] at hd
   cases hd
   obtain⟨⟨k,ts,b⟩,c⟩:=p;obtain⟨ok,bc⟩:=hl1 _ (Fm hn);have htk:=aC hn;rw[hB];show gN _ _ (.tup [.tup [.str (kdS k),.tup (ts.map EK),.int b],.int c]) _ _;refine bD λK hK=>?_;walk_at "rd";have go:∀wd,wd=kdS (kOf (EU (l.take (i+1))))->K [.dat (.lst (rows.map EJ)),.dat (.tup (ws.map D.int)),.dat (.str wd),.own da (.dct ks (ks.map λn=>.int (cfs (l.take i) n))),.dat (.int (bds (l.take i))),.dat (.tup [.str (kdS k),.tup (ts.map EK),.int b]),.dat (.int c),w,z,y]:=?_
   ·have e:EU (l.take (i+1))=(EU (l.take i)||(isM k&&decide (0<c))):=by rw[htk,i9,mW]
    cases k with
    | least =>
     refine Ex (by decide) (go _ ?_);rw[e];simp only[isM,Bool.false_and,Bool.or_false]
    | more =>
     refine ifp rfl (cR (λhc=>go _ ?_) λhc=>go _ ?_)
     ·rw[e,FX hc];simp only[isM,Bool.and_true,Bool.or_true];rfl
     ·rw[e,FR hc];simp only[isM,Bool.and_false,Bool.or_false]
   intro wd hwd;rw[hK];refine ag λK2 hK2=>?_;walk_at "rd";simp only[rc];walk_at "rd"
   refine⟨λj δ=>∃ks w z y,δ=[.dat (.lst (rows.map EJ)),.dat (.tup (ws.map D.int)),.dat (.str wd),.own da (.dct ks (ks.map λn=>.int (cfs (l.take i) n+c*cf (ts.take j) n))),.dat (.int (bds (l.take i))),.dat (.tup [.str (kdS k),.tup (ts.map EK),.int b]),.dat (.int c),w,z,y]/\ks.Nodup/\(∀n∈ks,n∈nm)/\∀n,n∉ks->cfs (l.take i) n+c*cf (ts.take j) n=0,
    ⟨ks,w,z,y,by simp only[List.take_zero,cf,Int.mul_zero,Int.add_zero],nd,hs,λn hn=>by rw[h0 n hn,G8];show 0+c*0=0;omega⟩,?_,?_⟩
   ·rintro j d δ hd ⟨ks,w,z,y,rfl,nd,hs,h0⟩;obtain⟨t,ht,rfl⟩:=dO hd;have htm:=Fm ht;have hj:=aC ht;walk_at "rd";rw[oY (h0 t.1)];walk_at "rd";refine⟨mo2 bc (ok.bw t htm),by have:=gL nd hs;omega,?_,m7 nd,λn hn=>?_,λn hn=>?_⟩
    ·have e:∀n,cfs (l.take i) n+c*cf (ts.take (j+1)) n=(cfs (l.take i) n+c*cf (ts.take j) n)+c*(if t.1=n then t.2 else 0):=λn=>by
      rw[hj,l6,Hu];show _+(_+c*((if t.1=n then t.2 else 0)+0))=_;rw[Gw,HE]
     have:=tZ (ks:=ks) (x:=t.1) (f:=λn=>D.int (cfs (l.take i) n+c*cf (ts.take j) n)) (g:=λn=>D.int (cfs (l.take i) n+c*cf (ts.take (j+1)) n)) (λn hn=>by rw[e,Fp (λz=>hn z.symm),HR,Gw])
     rw[<- this,e,Fs rfl]
    ·rcases hZ.mp hn with h | h
     ·exact hs n h
     ·rw[h];exact ok.sub t htm
    ·rw[hZ,not_or] at hn;rw[hj,l6,Hu,<- HE,h0 n hn.1];show 0+c*((if t.1=n then t.2 else 0)+0)=0;rw[Fp (λz=>hn.2 z.symm)];omega
   ·rintro δ ⟨ks,w,z,y,rfl,nd,hs,h0⟩;have e1:ts.take (ts.map EK).length=ts:=by rw[E7,Fw]
    rw[e1] at h0 ⊢;rw[hK2];walk_at "rd";have e2:∀n,cfs (l.take (i+1)) n=cfs (l.take i) n+c*cf ts n:=λn=>by
     rw[htk,iQ];show _+(c*cf ts n+0)=_;rw[Gw]
    simp only[e2];rw[htk,jb];exact⟨mo2 bc ok.bb,by rw[<- htk];exact hwd,trivial,(by show _=_+(c*b+0);rw[Gw]),nd,hs,λn hn=>h0 n hn⟩
 ·rintro δ ⟨ks,u,v,w,z,y,rfl,nd,hs,h0⟩;rw[E7,Fw] at h0 ⊢;rw[hN];show K5 _;rw[h5];walk_at "rd";have hk:=gL nd hs;refine⟨by omega,λss' pm st=>?_⟩;have hl':=pm.length_eq;refine⟨by rw[E7];omega,λd=>match d with | .str n=>if cfs l n≠0 then some (.tup [.str n,.int (cfs l n)]) else none | _=>none,λx hx=>?_,?_⟩
  ·obtain⟨n,hn,rfl⟩:=E8.mp hx;have hnk:n∈ks:=pm.mem_iff.mp hn;walk_at "rd";refine⟨_,cG (λn=>D.int (cfs l n)) hnk,?_⟩;walk_at "rd";refine cR (λhz=>?_) λhz=>?_
   ·exact⟨_,cG (λn=>D.int (cfs l n)) hnk,by rw[Fs hz]⟩
   ·rw[Fp hz]
  ·have e:(ss'.map D.str).filterMap (λd=>match d with | .str n=>if cfs l n≠0 then some (D.tup [.str n,.int (cfs l n)]) else none | _=>none)=((ss'.filter λn=>decide (cfs l n≠0)).map λn=>(n,cfs l n)).map EK:=by
    clear hl' pm st
    induction ss' with
    | nil=>rfl
    | cons n r ih =>
     rw[FJ,F8];simp only
     by_cases hz:cfs l n≠0
     ·rw[Fs hz,FP (by simpa using hz)];simp only[List.map_cons];rw[ih];rfl
     ·rw[Fp hz,FG (by simpa using hz)];exact ih
   rw[e];exact q _ (eX.mk' (tP st) (pm.nodup_iff.mpr nd) λn hn=>pm.mem_iff.mpr (Ff λz=>hn (h0 n z)))
def smD(nm:List Str)(rows:List Rw)(w:List Int):D:=.tup [EJ (Ey nm rows w),.tup (w.map D.int)]
inductive iE(ds:List D)(R:D->Prop):Prop
 | mk (n:Str) (r:Rw) (hh:ds=[.str n,EJ r]/\(r.2.1.map (·.1)).Nodup/\R (.int (cf r.2.1 n)))
def iA:∀ds R,iE ds R->ds.length=2:=λ_ _ ⟨_,_,e,_⟩=>by rw[e];rfl
theorem d4:aA ["name","row","found","weight"] ["name","row"] (ap s_weight_of):=by walk_at "sc"
theorem bg(Z:Zz):Z.C 1 "weight_of" ["name","row"] (E2 Z.K iE):=by
 refine cF Z.x21 d4 iA λfa cdv A outer s H E ds R hr h=>?_;have hU:=hr.units;refine⟨_,(ad (jp Fy rfl (EZ 1) (bL (n:=2) rfl (ay (aq 2 d4.nd) (ay (aq 3 d4.nd) aW))) (af (aM (aD (dy hU) (ak 2) (ak 0) (av _)) (af (au (ak 3))) aB))) (af (au am))),?_⟩;obtain⟨n,⟨k,ts,b⟩,rfl,nd,q⟩:=h;unfold EJ j3;walk_at "rd";simp only[rc];walk_at "rd";refine⟨λi δ=>∃x y,δ=[.dat (.str n),.dat (.tup [.str (kdS k),.tup (ts.map EK),.int b]),x,y]/\n∉(ts.take i).map (·.1),⟨_,_,rfl,by simp⟩,?_,?_⟩
 ·rintro i d δ hd ⟨x,y,rfl,hn⟩;obtain⟨t,ht,rfl⟩:=dO hd;walk_at "rd";refine cR (λe=>?_) (λe=>?_)
  ·subst e;have:=mz nd (Fm ht);simp only at q this;rw[this] at q;exact q
  ·rw[aC ht,Fv,Fk,not_or];exact⟨hn,λz=>e (Fn.mp z).symm⟩
 ·rintro δ ⟨x,y,rfl,hn⟩;rw[E7,Fw] at hn;have:=iW hn;simp only at q;rw[this] at q;exact q
theorem wF{α:Type}{f:α->D}{l:List α}{i:Nat}{d:D}(h:(enD (l.map f))[i]?=some d):∃r,l[i]?=some r/\d=.tup [.int (i:Nat),f r]:=by
 unfold enD at h;rw[List.getElem?_mapIdx,List.getElem?_map] at h
 cases e:l[i]? with
 | none=>rw[e] at h;cases h
 | some r=>rw[e] at h;exact⟨r,rfl,(Fz h).symm⟩
theorem xo{xs:List D}:(enD xs).length=xs.length:=by unfold enD;rw[List.length_mapIdx]
inductive ui(ds:List D)(R:D->Prop):Prop
 | mk (rows:List Rw) (nm:List Str) (hh:ds=[.lst (rows.map EJ)]/\Rws nm rows/\rows.length<=60/\R (.lst ((uI rows.length).map (smD nm rows))))
def nJ:∀ds R,ui ds R->ds.length=1:=λ_ _ ⟨_,_,e,_⟩=>by rw[e];rfl
theorem ie:aA ["rows","told","place","row"] ["rows"] (ap s_alone):=by walk_at "sc"
theorem tz(Z:Zz):Z.C 1 "alone" ["rows"] (E2 Z.K ui):=by
 refine cF Z.x22 ie nJ λfa cdv A outer s H E ds R hr h=>?_;have hU:=hr.units;refine⟨_,(ad (dg 1 ie.nd ae) (ad (eR Fy rfl (om true rfl Z.x56 (ac (ak 0) ae)) (bL (n:=2) rfl (ay (aq 2 ie.nd) (ay (aq 3 ie.nd) aW))) (af (ba 1 (aK (ac (ak 3) (ac (aX cw rfl Z.x52 a7 (ac (bx ["other"] [(2,"place")] rfl rfl (by decide +kernel) rfl (by decide +kernel) (a8 ⟨rfl,trivial⟩) (λ_=>be rfl) (aP ⟨⟨rfl,rfl,.inl rfl⟩,trivial⟩) (hG rfl Z.x57 (ac (aG ce rfl Z.x53 bU (ac (ak 0) ae)) ae)) λ_ _ _ _ _=>⟨(aq 0 (show List.Nodup (["other","place"]:List Str) by decide +kernel)),b8,(tW (aD (dy hU) (ak 0) (ak 1) (av _)) am am)⟩) ae)) ae)))))) (af (kY 1)))),?_⟩;obtain⟨rows,nm,rfl,H,hl,q⟩:=h;walk_at "rd";intro ta;refine de λB N hB hN=>?_;walk_at "rd";simp only[jw];walk_at "rd";refine⟨λi δ=>∃x y,δ=[.dat (.lst (rows.map EJ)),.own ta (.lst (((uI rows.length).take i).map (smD nm rows))),x,y],⟨_,_,rfl⟩,?_,?_⟩
 ·rintro i d δ hd ⟨x,y,rfl⟩;obtain⟨r,hr,rfl⟩:=wF hd;rw[hB];walk_at "rd";have hil:i<rows.length:=(List.getElem?_eq_some_iff.mp hr).1;rw[E7];refine⟨by omega,by omega,by simp;omega,λd=>match d with | .int o=>some (.int (if o=(i:Int) then 1 else 0)) | _=>none,λx hx=>?_,?_⟩
  ·obtain⟨o,ho,rfl⟩:=E8.mp hx;walk_at "rd";refine cR (λe=>?_) (λe=>?_)
   ·rw[Fs e]
   ·rw[Fp e]
  ·have e1:((List.range (rows.length:Int).toNat).map λ(k:Nat)=>D.int (k:Int)).filterMap (λd=>match d with | .int o=>some (D.int (if o=(i:Int) then 1 else 0)) | _=>none)=(unW rows.length i).map D.int:=by
    unfold unW;rw[FL,GR];rw[aH _ (λ(k:Nat)=>D.int (k:Int)) (λk=>D.int (if k=i then 1 else 0)) _ λk _=>?_]
    ·rfl
    ·show some (D.int (if (k:Int)=(i:Int) then 1 else 0))=_
     by_cases e:k=i
     ·rw[Fs e,Fs (by omega)]
     ·rw[Fp e,Fp (by omega)]
   have hu:(uI rows.length)[i]?=some (unW rows.length i):=by unfold uI;rw[List.getElem?_map,List.getElem?_range hil];rfl
   rw[e1,aC hu,Fv];refine⟨by rw[E7,FI];omega,?_⟩;show _++[D.tup [EJ r,_]]=_++[smD nm rows (unW rows.length i)];unfold smD;rw[pR H hr]
 ·rintro δ ⟨x,y,rfl⟩;rw[xo,E7,hN];walk_at "rd";have e:(uI rows.length).take rows.length=uI rows.length:=GE (by unfold uI;simp);rw[e];exact q
theorem vU{ws:List Int}{i:Nat}{d:D}(h:(ws.map D.int)[i]?=some d):∃a,ws[i]?=some a/\d=.int a:=by
 rw[List.getElem?_map] at h
 cases e:ws[i]? with
 | none=>rw[e] at h;cases h
 | some n=>rw[e] at h;exact⟨n,rfl,(Fz h).symm⟩
theorem yS{ws:List Int}{n:Nat}(hz:∃w∈ws,w≠0)(hb:∀w∈ws,ib w<=n):ib (gW ws)<=n:=by
 obtain⟨w,hw,hn⟩:=hz;exact eD (l7 hw) hn (hb w hw)
inductive iI(ds:List D)(R:D->Prop):Prop
 | mk (ws:List Int) (hh:ds=[.lst (ws.map D.int)]/\ws.length<=60/\(∃w∈ws,w≠0)/\(∀w∈ws,ib w<=8000)/\R (.tup ((shW ws).map D.int)))
def ji:∀ds R,iI ds R->ds.length=1:=λ_ _ ⟨_,e,_⟩=>by rw[e];rfl
theorem c6:aA ["weights","divisor","weight"] ["weights"] (ap s_shortened):=by walk_at "sc"
theorem kS(Z:Zz):Z.C 2 "shortened" ["weights"] (E2 Z.K iI):=by
 refine cF Z.x23 c6 ji λfa cdv A outer s H E ds R hr h=>?_;have hU:=hr.units;refine⟨_,(ad (aw 1 c6.nd am) (ad (cu Fy rfl (ak 0) (aq 2 c6.nd) (af (aw 1 c6.nd (ar (cY Z) (rm hr) rfl (ac (ak 1) (ac (ak 2) ae)))))) (af (au (aX cw rfl Z.x52 a7 (ac (bx ["weight"] [(1,"divisor")] rfl rfl (by decide +kernel) rfl (by decide +kernel) (a8 ⟨rfl,trivial⟩) (λ_=>be rfl) (aP ⟨⟨rfl,rfl,.inl rfl⟩,trivial⟩) (dP (ak 0)) λ_ _ _ _ _=>⟨(aq 0 (show List.Nodup (["weight","divisor"]:List Str) by decide +kernel)),b8,(ax cz (ak 0) (ak 1))⟩) ae)))))),?_⟩;obtain⟨ws,rfl,hl,hz,hb,q⟩:=h;walk_at "rd";simp only[rg];walk_at "rd";refine⟨λi δ=>∃x,δ=[.dat (.lst (ws.map D.int)),.dat (.int ((ws.take i).foldl gc 0)),x],⟨_,rfl⟩,?_,?_⟩
 ·rintro i d δ hd ⟨x,rfl⟩;obtain⟨a,ha,rfl⟩:=vU hd;walk_at "rd";refine⟨_,_,rfl,?_⟩;walk_at "rd";rw[aC ha,List.foldl_append];rfl
 ·rintro δ ⟨x,rfl⟩;rw[E7,Fw];walk_at "rd";have g:=p9 hz;refine⟨by rw[E7];omega,λd=>match d with | .int a=>some (.int (a.fdiv (gW ws))) | _=>none,λx hx=>?_,?_⟩
  ·obtain⟨a,_,rfl⟩:=E8.mp hx;walk_at "rd";exact⟨⟨by show gW ws≠0;omega,qv (yS hz hb) (Fh _)⟩,rfl⟩
  ·rw[aH _ D.int (λa=>D.int (a.fdiv (gW ws))) _ λk _=>rfl];unfold shW at q;rw[FL] at q;exact q
def oV{w:List Int}:smD nm rows w=.tup [EJ (Ey nm rows w),.tup (w.map D.int)]:=rfl
def gn(H:Rws nm rows)(w:List Int):((Ey nm rows w).2.1.map (·.1)).Nodup:=(H.smT w).nd
theorem wz{l h:List Int}:mO (l.map D.int) (h.map D.int)=(l.zip h).map λp=>D.tup [.int p.1,.int p.2]:=by
 unfold mO;rw[HA,List.zip,GW]
inductive l8(ds:List D)(R:D->Prop):Prop
 | mk (nm:List Str) (rows:List Rw) (n:Str) (l h:List Int) (hh:ds=[smD nm rows l,smD nm rows h,.str n]/\Rws nm rows/\rows.length<=60/\Wt rows.length l/\Wt rows.length h/\0<cfs (rows.zip l) n/\cfs (rows.zip h) n<0 /\
 ib (cfs (rows.zip l) n)<=8000/\ib (cfs (rows.zip h) n)<=8000/\(∀a∈l,ib a<=8000)/\(∀a∈h,ib a<=8000)/\(∀a∈crS rows n l h,ib a<=8000)/\R (.tup ((crW rows n l h).map D.int)))
def kt:∀ds R,l8 ds R->ds.length=3:=λ_ _ ⟨_,_,_,_,_,e,_⟩=>by rw[e];rfl
theorem fV:aA ["low","high","name","low_times","high_times"] ["low","high","name"] (ap s_crossed):=by walk_at "sc"
theorem nc(Z:Zz):Z.C 3 "crossed" ["low","high","name"] (E2 Z.K l8):=by
 refine cF Z.x24 fV kt λfa cdv A outer s H E ds R hr h=>?_;have hU:=hr.units;refine⟨_,(ad (aw 3 fV.nd (ng ny (ar (bg Z) (rm hr) rfl (ac (ak 2) (ac (EZ 1) ae))))) (ad (aw 4 fV.nd (ar (bg Z) (rm hr) rfl (ac (ak 2) (ac (EZ 0) ae)))) (af (au (ar (kS Z) (rm hr) rfl (ac (bx ["one","other"] [(3,"low_times"),(4,"high_times")] rfl rfl (by decide +kernel) rfl (by decide +kernel) (a8 ⟨rfl,rfl,trivial⟩) (λ_=>be rfl) (aP ⟨⟨rfl,rfl,.inl rfl⟩,⟨rfl,rfl,.inl rfl⟩,trivial⟩) (gv false false rfl Z.x55 (ac (EZ 0) (ac (EZ 1) ae))) λ_ _ _ _ _=>⟨(bL (n:=2) rfl (ay (aq 0 (show List.Nodup (["one","other","low_times","high_times"]:List Str) by decide +kernel)) (ay (aq 1 (show List.Nodup (["one","other","low_times","high_times"]:List Str) by decide +kernel)) aW))),b8,(ax aL (ax bT (ak 0) (ak 2)) (ax bT (ak 1) (ak 3)))⟩) ae)))))),?_⟩;obtain⟨nm,rows,n,l,h,rfl,H,hm,wl,wh,cl,ch,b1,b2,b3,b4,b5,q⟩:=h;simp only[oV];walk_at "rd";refine⟨n,Ey nm rows h,rfl,gn H h,?_⟩;walk_at "rd";refine⟨n,Ey nm rows l,rfl,gn H l,?_⟩;walk_at "rd";rw[dH H,dH H,wz];have ll:=wl.len;have lh:=wh.len;refine⟨by rw[E7,Gj];omega,λd=>match d with | .tup [.int a,.int b]=>some (.int (a * -(cfs (rows.zip h) n)+b*cfs (rows.zip l) n)) | _=>none,λx hx=>?_,?_⟩
 ·obtain⟨⟨a,b⟩,hp,rfl⟩:=E8.mp hx;walk_at "rd";exact⟨mo2 (b3 a (FA hp).1) (G9 b2),mo2 (b4 b (FA hp).2) b1⟩
 ·obtain⟨_,nz⟩:=jS wl wh cl ch;refine⟨crS rows n l h,?_,by rw[mQ ll lh];omega,nz,b5,q⟩;rw[aH _ (λp:Int×Int=>D.tup [.int p.1,.int p.2]) (λp=>D.int (p.1 * -(cfs (rows.zip h) n)+p.2*cfs (rows.zip l) n)) _ λk _=>rfl];unfold crS;rw[GW,show l.zip h=List.zipWith Prod.mk l h from rfl,GW]
def uC:D->List Int
 | .tup [_,.tup xs]=>xs.map λx=>match x with | .int a=>a | _=>0
 | _=>[]
theorem pU{w:List Int}:uC (smD nm rows w)=w:=by
 show (w.map D.int).map _=w
 rw[FL];exact List.map_id _
theorem d7(p:List Int->Bool):∀W:List (List Int),(W.map (smD nm rows)).filterMap (λd=>if p (uC d)=true then some d else none)=(W.filter p).map (smD nm rows)
 | []=>rfl
 | w::W=>by
  rw[FJ,F8,pU]
  by_cases h:p w=true
  ·rw[Fs h,FP h,d7 p W];rfl
  ·rw[Fp h,FG h,d7 p W]
theorem oZ{W:List (List Int)}{i:Nat}{d:D}(h:(W.map (smD nm rows))[i]?=some d):∃w,W[i]?=some w/\d=smD nm rows w:=by
 rw[List.getElem?_map] at h
 cases e:W[i]? with
 | none=>rw[e] at h;cases h
 | some n=>rw[e] at h;exact⟨n,rfl,(Fz h).symm⟩
theorem yL(u:List Int):((u.map D.int).filterMap (λd=>match d with | .int a=>if 0<a then some (D.int a) else none | _=>none)).length=usd u:=by
 unfold usd
 induction u with
 | nil=>rfl
 | cons a u ih =>
  rw[FJ,F8];simp only
  by_cases h:0<a
  ·rw[Fs h,FP (by simpa using h),Fl,Fl,ih]
  ·rw[Fp h,FG (by simpa using h),ih]
structure wH(nm:List Str)(rows:List Rw)(B k:Nat)(W:List (List Int)):Prop where
 H:Rws nm rows
 hB:RwB B rows
 m6:rows.length<=60
 n6:nm.length<=60
 wt:∀w∈W,Wt rows.length w
 bits:∀w∈W,∀a∈w,ib a<=wb B rows.length k
 fit:cb B rows.length k<=8000/\wb B rows.length (k+1)<=8000
def wH.w8{B k:Nat}{W:List (List Int)}(S:wH nm rows B k W){w:List Int}(hw:w∈W):∀a∈w,ib a<=8000:=λa ha=>by
 have:=S.bits w hw a ha
 have:=S.fit.1
 unfold cb at this;omega
def wH.c8{B k:Nat}{W:List (List Int)}(S:wH nm rows B k W){w:List Int}(hw:w∈W)(n:Str):ib (cfs (rows.zip w) n)<=8000:=Fa (S.H.cfb S.hB (S.bits w hw) n) S.fit.1
theorem wH.rw{B k:Nat}{W:List (List Int)}(S:wH nm rows B k W):∀r∈rows,AA nm 60000000 r:=λr hr=>by
 have h8:B<=8000:=by have:=S.fit.1;unfold cb at this;omega
 exact⟨S.H.sub r hr,λt ht=>Fa (S.hB.tm r hr t ht) (by omega),Fa (S.hB.bd r hr) (by omega)⟩
inductive lX(ds:List D)(R:D->Prop):Prop
 | mk (nm:List Str) (rows:List Rw) (n:Str) (W:List (List Int)) (most B k c:Nat) (hh:ds=[.lst (rows.map EJ),.lst (W.map (smD nm rows)),.str n,.int (most:Nat)]/\wH nm rows B k W/\W.length<=c/\4<=c/\c*c / 4<9000/\R (.lst ((woW rows n most W).map (smD nm rows))))
def lF:∀ds R,lX ds R->ds.length=4:=λ_ _ ⟨_,_,_,_,_,_,_,_,e,_⟩=>by rw[e];rfl
theorem cq:aA ["rows","sums","name","most","told","lows","highs","low","high","weights"] ["rows","sums","name","most"] (ap s_without):=by walk_at "sc"
theorem ot(Z:Zz):Z.C 4 "without" ["rows","sums","name","most"] (E2 Z.K lX):=by
 refine cF Z.x25 cq lF λfa cdv A outer s H E ds R hr h=>?_;have hU:=hr.units;refine⟨_,(ad (vV 4 cq.nd ["held"] [(2,"name")] rfl rfl (by decide +kernel) rfl (by decide +kernel) (a8 ⟨rfl,trivial⟩) (λ_=>be rfl) (aP ⟨⟨rfl,rfl,.inl rfl⟩,trivial⟩) (dP (ak 1)) λ_ _ _ _ _=>⟨(aq 0 (show List.Nodup (["held","name"]:List Str) by decide +kernel)),(gk (aD (dy hU) (ar (bg Z) (rm hr) rfl (ac (ak 1) (ac (EZ 0) ae))) am (av _))),(ak 0)⟩) (ad (ef 5 cq.nd ["held"] [(2,"name")] rfl rfl (by decide +kernel) rfl (by decide +kernel) (a8 ⟨rfl,trivial⟩) (λ_=>be rfl) (aP ⟨⟨rfl,rfl,.inl rfl⟩,trivial⟩) (dP (ak 1)) λ_ _ _ _ _=>⟨(aq 0 (show List.Nodup (["held","name"]:List Str) by decide +kernel)),(gk (aD uH (ar (bg Z) (rm hr) rfl (ac (ak 1) (ac (EZ 0) ae))) am (av _))),(ak 0)⟩) (ad (ef 6 cq.nd ["held"] [(2,"name")] rfl rfl (by decide +kernel) rfl (by decide +kernel) (a8 ⟨rfl,trivial⟩) (λ_=>be rfl) (aP ⟨⟨rfl,rfl,.inl rfl⟩,trivial⟩) (dP (ak 1)) λ_ _ _ _ _=>⟨(aq 0 (show List.Nodup (["held","name"]:List Str) by decide +kernel)),(gk (aD uR (ar (bg Z) (rm hr) rfl (ac (ak 1) (ac (EZ 0) ae))) am (av _))),(ak 0)⟩) (ad (cu Fy rfl (ak 5) (aq 7 cq.nd) (af (cu Fy rfl (ak 6) (aq 8 cq.nd) (ad (aw 9 cq.nd (ar (nc Z) (rm hr) rfl (ac (ak 7) (ac (ak 8) (ac (ak 2) ae))))) (af (aM (aD o_le (aG ce rfl Z.x53 bU (ac (bx ["often"] [] rfl rfl (by decide +kernel) rfl (by decide +kernel) (a8 trivial) (λ_=>be rfl) (aP trivial) (gm (ak 9)) λ_ _ _ _ _=>⟨(aq 0 (show List.Nodup (["often"]:List Str) by decide +kernel)),(gk (aD uH (ak 0) am (av _))),(ak 0)⟩) ae)) (ak 3) (av _)) (af (ba 4 (aK (ac (ar (ma Z) (rm hr) rfl (ac (ak 0) (ac (ak 9) ae))) (ac (ak 9) ae))))) aB)))))) (af (kY 4)))))),?_⟩
 obtain⟨nm,rows,n,W,most,B,k,c,rfl,S,hc,h4,hc9,q⟩:=h;have c9:c<9000:=by
  have:c<=c*c / 4:=(Hz (by decide)).mpr (Nat.mul_le_mul_left c h4)
  omega
 have sf0:=d7 (nm:=nm) (rows:=rows) (λw=>decide (cfs (rows.zip w) n=0)) W
 have sf1:=d7 (nm:=nm) (rows:=rows) (λw=>decide (0<cfs (rows.zip w) n)) W
 have sf2:=d7 (nm:=nm) (rows:=rows) (λw=>decide (cfs (rows.zip w) n<0)) W
 refine ag λK1 hK1=>?_;walk_at "rd";refine⟨by rw[E7];omega,λd=>if decide (cfs (rows.zip (uC d)) n=0)=true then some d else none,λx hx=>?_,?_⟩
 ·obtain⟨w,hw,rfl⟩:=E8.mp hx;simp only[pU];simp only[oV];walk_at "rd";refine⟨n,Ey nm rows w,rfl,gn S.H w,?_⟩;rw[dH S.H];walk_at "rd";refine cR (λe=>?_) λe=>?_
  ·rw[Fs e]
  ·rw[Fp e]
 ·rw[sf0];intro ta;rw[hK1];refine ag λK2 hK2=>?_;walk_at "rd";refine⟨by rw[E7];omega,λd=>if decide (0<cfs (rows.zip (uC d)) n)=true then some d else none,λx hx=>?_,?_⟩
  ·obtain⟨w,hw,rfl⟩:=E8.mp hx;simp only[pU];simp only[oV];walk_at "rd";refine⟨n,Ey nm rows w,rfl,gn S.H w,?_⟩;rw[dH S.H];walk_at "rd";refine cR (λe=>?_) λe=>?_
   ·rw[Fs e]
   ·rw[Fp e]
  ·rw[sf1,hK2];refine ag λK3 hK3=>?_;walk_at "rd";refine⟨by rw[E7];omega,λd=>if decide (cfs (rows.zip (uC d)) n<0)=true then some d else none,λx hx=>?_,?_⟩
   ·obtain⟨w,hw,rfl⟩:=E8.mp hx;simp only[pU];simp only[oV];walk_at "rd";refine⟨n,Ey nm rows w,rfl,gn S.H w,?_⟩;rw[dH S.H];walk_at "rd";refine cR (λe=>?_) λe=>?_
    ·rw[Fs e]
    ·rw[Fp e]
   ·rw[sf2,hK3];clear sf0 sf1 sf2;have c3:=cnt3 (rows:=rows) (n:=n) W;unfold woW at q;have hL:∀l∈W.filter (λw=>decide (0<cfs (rows.zip w) n)),l∈W/\0<cfs (rows.zip l) n:=λl hl=>⟨(Fq.mp hl).1,by simpa using (Fq.mp hl).2⟩;have hR:∀l∈W.filter (λw=>decide (cfs (rows.zip w) n<0)),l∈W/\cfs (rows.zip l) n<0:=λl hl=>⟨(Fq.mp hl).1,by simpa using (Fq.mp hl).2⟩;generalize W.filter (λw=>decide (cfs (rows.zip w) n=0))=Z at *;generalize W.filter (λw=>decide (0<cfs (rows.zip w) n))=Ls at *;generalize W.filter (λw=>decide (cfs (rows.zip w) n<0))=Rs at *;have zb:Z.length+Ls.length*Rs.length<9000:=Nat.lt_of_le_of_lt (zab (by omega) h4) hc9;refine ag λK4 hK4=>?_;refine cD λF N hF hN=>?_;walk_at "rd";simp only[eL];walk_at "rd";refine⟨λi δ=>∃x y z,δ=[.dat (.lst (rows.map EJ)),.dat (.lst (W.map (smD nm rows))),.dat (.str n),.dat (.int (most:Nat)),.own ta (.lst ((Z++(Ls.take i).flatMap λl=>(Rs.map (crW rows n l)).filter λu=>decide (usd u<=most)).map (smD nm rows))),.dat (.lst (Ls.map (smD nm rows))),.dat (.lst (Rs.map (smD nm rows))),x,y,z],⟨_,_,_,by rw[G8,List.flatMap_nil,FZ]⟩,?_,?_⟩
    ·rintro i d δ hd ⟨x,y,z,rfl⟩;obtain⟨l,hl,rfl⟩:=oZ hd;obtain⟨lW,cl⟩:=hL l (Fm hl);have hil:i<Ls.length:=(List.getElem?_eq_some_iff.mp hl).1;rw[hF];walk_at "rd";refine cD λF2 N2 hF2 hN2=>?_;walk_at "rd";simp only[eL];walk_at "rd";refine⟨λj δ=>∃y z,δ=[.dat (.lst (rows.map EJ)),.dat (.lst (W.map (smD nm rows))),.dat (.str n),.dat (.int (most:Nat)),.own ta (.lst ((Z++(Ls.take i).flatMap (λl=>(Rs.map (crW rows n l)).filter λu=>decide (usd u<=most))++((Rs.take j).map (crW rows n l)).filter λu=>decide (usd u<=most)).map (smD nm rows))),.dat (.lst (Ls.map (smD nm rows))),.dat (.lst (Rs.map (smD nm rows))),.dat (smD nm rows l),y,z],⟨_,_,by rw[G8,G1,List.filter_nil,FZ]⟩,?_,?_⟩
     ·rintro j d δ hd ⟨y,z,rfl⟩;obtain⟨h,hh,rfl⟩:=oZ hd;obtain⟨hW,ch⟩:=hR h (Fm hh);have hjl:j<Rs.length:=(List.getElem?_eq_some_iff.mp hh).1;rw[hF2];show dJ _ _ _ _;refine bD λK5 hK5=>?_;walk_at "rd";refine⟨nm,rows,n,l,h,rfl,S.H,S.m6,S.wt l lW,S.wt h hW,cl,ch,S.c8 lW n,S.c8 hW n,S.w8 lW,S.w8 hW,λa ha=>Fa (lg S.H S.hB (S.bits l lW) (S.bits h hW) a ha) S.fit.2,?_⟩;walk_at "rd";rw[hK5];have ww:=tq (S.wt l lW) (S.wt h hW) cl ch;have wbt:∀a∈crW rows n l h,ib a<=60000000:=λa ha=>by
       obtain⟨b,hb',rfl⟩:=E8.mp ha;exact F4 (Fa (lg S.H S.hB (S.bits l lW) (S.bits h hW) b hb') (Fa S.fit.2 (by decide)))
      have tk:(((Rs.take (j+1)).map (crW rows n l)).filter λu=>decide (usd u<=most))=(((Rs.take j).map (crW rows n l)).filter λu=>decide (usd u<=most))++if usd (crW rows n l h)<=most then [crW rows n l h] else []:=by
       rw[aC hh,Fv,List.filter_append]
       congr 1
       by_cases e:usd (crW rows n l h)<=most
       ·rw[Fs e];simp[e]
       ·rw[Fp e];simp[e]
      simp only[tk];generalize crW rows n l h=u at *;walk_at "rd";refine⟨by rw[E7,ww.len];have:=S.m6;omega,λd=>match d with | .int a=>if 0<a then some (.int a) else none | _=>none,λx hx=>?_,?_⟩
      ·obtain⟨a,_,rfl⟩:=E8.mp hx;walk_at "rd";refine cR (λe=>?_) λe=>?_
       ·rw[Fs e]
       ·rw[Fp e]
      ·rw[yL];refine cR (λe=>?_) λe=>?_
       ·have e:usd u<=most:=by omega
        rw[Fs e];refine⟨rows,u,nm,rfl,S.n6,S.rw,wbt,λts hts=>?_⟩;have:=hts.uniq (S.H.smT u);subst this;walk_at "rd";refine⟨?_,?_⟩
        ·rw[E7,Fi,Fi];have f1:=kU (rows:=rows) (n:=n) (most:=most) Rs (Ls.take i);have f2:=G5 (λu=>decide (usd u<=most)) ((Rs.take j).map (crW rows n l));rw[E7,FI] at f2;rw[FI,show min i Ls.length=i by omega] at f1;have f3:=Nat.mul_le_mul_right Rs.length (show i+1<=Ls.length from hil);rw[Nat.succ_mul] at f3;omega
        ·rw[<- Hs,Fv (l₂:=[u])];rfl
       ·have e:¬ usd u<=most:=by omega
        rw[Fp e,FZ]
     ·rintro δ ⟨y,z,rfl⟩;rw[E7,Fw,hN2];walk_at "rd";rw[aC hl,GD,<- Hs];simp only[List.flatMap_cons,List.flatMap_nil,List.append_nil]
      try exact⟨_,_,_,rfl⟩
    ·rintro δ ⟨x,y,z,rfl⟩;rw[E7,Fw,hN,hK4];walk_at "rd";exact q
def rD(rows:List Rw):List Str->List (List (List Int))
 | []=>[EG rows []]
 | n::ns=>EG rows (n::ns)::rD rows ns
def nI(nm:List Str)(rows:List Rw)(W:List (List Int)):D:=.lst (W.map (smD nm rows))
theorem fL:∀ns:List Str,(rD rows ns).length=ns.length+1
 | []=>rfl
 | n::ns=>by show (rD rows ns).length+1=_;rw[fL ns];rfl
theorem pM:∀(ns:List Str) (j:Nat),j<=ns.length->(rD rows ns)[j]?=some (EG rows (ns.drop j))
 | [],0,_=>rfl
 | n::ns,0,_=>rfl
 | n::ns,j+1,h=>pM ns j (by simpa using h)
theorem v5{B B' m m':Nat}(h1:B<=B')(h2:m<=m'):∀k,wb B m k<=wb B' m' k
 | 0=>Fh 1
 | k+1=>by have:=v5 h1 h2 k;show 2*wb B m k+B+m+1<=2*wb B' m' k+B'+m'+1;omega
theorem zt{B m a:Nat}:∀ {b:Nat},a<=b->wb B m a<=wb B m b
 | 0,h=>by rw[Nat.le_zero.mp h];exact Fh _
 | b+1,h=>by
  by_cases e:a=b+1
  ·rw[e];exact Fh _
  ·exact Fa (zt (b:=b) (by omega)) tH
structure Fit(nm:List Str)(rows:List Rw)(B N:Nat):Prop where
 H:Rws nm rows
 hB:RwB B rows
 m6:rows.length<=6
 n6:nm.length<=60
 n4:N<=4
 wN:wb B 6 (N+1)<=7990
def Fit.wk{B N k:Nat}(F:Fit nm rows B N)(h:k<=N+1):wb B rows.length k<=7990:=Fa (v5 (Fh B) F.m6 k) (Fa (zt h) F.wN)
theorem Fit.ck{B N k:Nat}(F:Fit nm rows B N)(h:k<=N):cb B rows.length k<=7990:=by
 have:2*wb B rows.length k+B+rows.length+1<=7990:=F.wk (k:=k+1) (by omega)
 unfold cb;omega
theorem DK{B m:Nat}(h2:m<=6)(k:Nat):cb B m k<=cb B 6 k:=by have:=v5 (Fh B) h2 k;unfold cb;omega
theorem Fit.sums{B N:Nat}(F:Fit nm rows B N)(h:ns.length<=N):wH nm rows B ns.length (EG rows ns):=by
 have w1:=F.ck h
 have w2:=F.wk (k:=ns.length+1) (by omega)
 have:=F.m6
 exact⟨F.H,F.hB,by omega,F.n6,λw hw=>(cB hw).1,λw hw=>cV F.H F.hB hw,by omega,by omega⟩
inductive iz(ds:List D)(R:D->Prop):Prop
 | mk (nm:List Str) (rows:List Rw) (B N:Nat) (ns:List Str) (hh:ds=[.lst (rows.map EJ),.lst (ns.map D.str)]/\Fit nm rows B N/\ns.length<=N/\R (.lst ((rD rows ns).map (nI nm rows))))
def iY:∀ds R,iz ds R->ds.length=2:=λ_ _ ⟨_,_,_,_,_,e,_⟩=>by rw[e];rfl
def cnt6:∀ {k:Nat},k<=3->cnt 6 k*cnt 6 k / 4<9000
 | 0,_=>by decide
 | 1,_=>by decide
 | 2,_=>by decide
 | 3,_=>by decide
 | k+4,h=>by omega
theorem zY{i:Nat}{d:D}(h:(ns.map D.str).reverse[i]?=some d):∃n,d=.str n/\i<ns.length/\ns.drop (ns.length-(i+1))=n::ns.drop (ns.length-i):=by
 have hi:i<ns.length:=by
  have:=(List.getElem?_eq_some_iff.mp h).1
  simpa using this
 rw[List.getElem?_reverse (by simpa using hi),E7,List.getElem?_map] at h;have e:ns.length-(i+1)<ns.length:=by omega
 have e1:ns.length-1-i=ns.length-(i+1):=by omega
 rw[e1,List.getElem?_eq_getElem e] at h;refine⟨ns[ns.length-(i+1)],(Fz h).symm,hi,?_⟩;rw[GO e]
 congr 2
 omega
theorem cA:aA ["rows","names","sums","told","name"] ["rows","names"] (ap s_taken_out):=by walk_at "sc"
theorem kl(Z:Zz):Z.C 5 "taken_out" ["rows","names"] (E2 Z.K iz):=by
 refine cF Z.x26 cA iY λfa cdv A outer s H E ds R hr h=>?_;have hU:=hr.units;refine⟨_,(ad (aw 2 cA.nd (ar (tz Z) (rm hr) rfl (ac (ak 0) ae))) (ad (dg 3 cA.nd (ac (ak 2) ae)) (ad (eR Fy rfl (Bs rfl Z.x58 (ac (ak 1) ae)) (aq 4 cA.nd) (ad (aw 2 cA.nd (ar (ot Z) (rm hr) rfl (ac (ak 0) (ac (ak 2) (ac (ak 4) (ac (ax aL (Ax 3 rfl Z.x53 bU) am) ae)))))) (af (u8 3 (ak 2))))) (af (kY 3))))),?_⟩;obtain⟨nm,rows,B,N0,ns,rfl,F,h4,q⟩:=h;have n4:=F.n4;walk_at "rd";refine⟨rows,nm,rfl,F.H,by have:=F.m6;omega,?_⟩;walk_at "rd";intro ta;refine de λFb N hF hN=>?_;walk_at "rd";simp only[jw];walk_at "rd";refine⟨λi δ=>∃x,δ=[.dat (.lst (rows.map EJ)),.dat (.lst (ns.map D.str)),.dat (nI nm rows (EG rows (ns.drop (ns.length-i)))),.own ta (.lst ((rD rows (ns.drop (ns.length-i))).map (nI nm rows))),x],⟨_,by rw[Nat.sub_zero,List.drop_length];rfl⟩,?_,?_⟩
 ·rintro i d δ hd ⟨x,rfl⟩;obtain⟨n,rfl,hi,hdr⟩:=zY hd;simp only[hdr];have hl:(ns.drop (ns.length-i)).length=i:=by rw[Ge];omega
  generalize ns.drop (ns.length-i)=l at *
  rw[hF];show dJ _ _ _ _;refine bD λK1 hK1=>?_;walk_at "rd";obtain⟨c1,c2⟩:=uD (rows:=rows) F.m6 (by decide) l;rw[hl] at c1 c2;refine⟨nm,rows,n,EG rows l,l.length+2,B,l.length,cnt 6 i,?_,F.sums (by omega),c1,c2,cnt6 (by omega),?_⟩
  ·rw[E7,fL];show [_,nI nm rows (EG rows l),_,_]=_;unfold nI
   congr 4
  ·walk_at "rd";rw[hK1];walk_at "rd";refine⟨by rw[E7,fL];omega,rfl,rfl⟩
 ·rintro δ ⟨x,rfl⟩;rw[Hf,E7,Nat.sub_self,hN];walk_at "rd";exact q
inductive f8(ds:List D)(R:D->Prop):Prop
 | mk (n:Str) (r:Rw) (ks:List Str) (ps:List (Int×Int)) (c κ T:Nat) (hh:ds=[.str n,EJ r,.dct ks (ps.map EO)]/\(r.2.1.map (·.1)).Nodup/\ks.length<=60/\(∀t∈r.2.1,t.1≠n->t.1∈ks)/\cf r.2.1 n≠0/\Pt ks ps T/\T<=1000000/\ib (ED (pB ks ps) ks)<=κ/\c+κ<=7990 /\
 ib (cf r.2.1 n)<=c/\(∀t∈r.2.1,ib t.2<=c)/\ib r.2.2<=c/\R (EO (bnd ks ps n r)))
def jM:∀ds R,f8 ds R->ds.length=3:=λ_ _ ⟨_,_,_,_,_,_,_,e,_⟩=>by rw[e];rfl
theorem iB(p:Str×Int->Bool)(g:D->Option D)(h1:∀t,p t=true->g (EK t)=some (EK t))(h2:∀t,p t=false->g (EK t)=none):∀ts:List (Str×Int),(ts.map EK).filterMap g=(ts.filter p).map EK
 | []=>rfl
 | t::ts=>by
  rw[FJ,F8]
  cases e:p t with
  | true=>rw[h1 t e,FP e,iB p g h1 h2 ts];rfl
  | false=>rw[h2 t e,FG (by rw[e];decide),iB p g h1 h2 ts]
theorem eT:aA ["name","row","point","others","known"] ["name","row","point"] (ap s_bound_on):=by walk_at "sc"
theorem gw(Z:Zz):Z.C 3 "bound_on" ["name","row","point"] (E2 Z.K f8):=by
 refine cF Z.x27 eT jM λfa cdv A outer s H E ds R hr h=>?_;have hU:=hr.units;refine⟨_,(ad (ef 3 eT.nd ["term"] [(0,"name")] rfl rfl (by decide +kernel) rfl (by decide +kernel) (a8 ⟨rfl,trivial⟩) (λ_=>be rfl) (aP ⟨⟨rfl,rfl,.inl rfl⟩,trivial⟩) (gm (EZ 1)) λ_ _ _ _ _=>⟨(aq 0 (show List.Nodup (["term","name"]:List Str) by decide +kernel)),(gk (aD (gS hU) (EZ 0) (ak 1) (av _))),(ak 0)⟩) (ad (aw 4 eT.nd (ar (jr Z) (rm hr) rfl (ac (bx ["term"] [] rfl rfl (by decide +kernel) rfl (by decide +kernel) (a8 trivial) (λ_=>be rfl) (aP trivial) (dP (ak 3)) λ_ _ _ _ _=>⟨(aq 0 (show List.Nodup (["term"]:List Str) by decide +kernel)),b8,(EZ 0)⟩) (ac (ak 2) ae)))) (af (au (ar (fD Z) (rm hr) rfl (ac (ax ja (ax bT (EZ 1) (EZ 4)) (ar (eK Z) (rm hr) rfl (ac (ak 3) (ac (EZ 4) ae)))) (ac (ax bT (ar (bg Z) (rm hr) rfl (ac (ak 0) (ac (ak 1) ae))) (EZ 4)) ae))))))),?_⟩;obtain⟨n,⟨k,ts,b⟩,ks,ps,c,κ,T,rfl,nd,hk,hp,hc,P,hT,hκ,hcκ,b1,b2,b3,q⟩:=h;simp only at nd hp hc b1 b2 b3 q;have lt:ts.length<=61:=by
  have h1:(ts.map (·.1)).length<=(n::ks).length:=gL nd λx hx=>by
   obtain⟨t,ht,rfl⟩:=E8.mp hx
   by_cases e:t.1=n
   ·exact Fj.mpr (.inl e)
   ·exact E9 _ (hp t ht e)
  rw[E7,Fl] at h1;omega
 unfold EJ j3;refine ag λK1 hK1=>?_;walk_at "rd";refine⟨by rw[E7];omega,λd=>match d with | .tup [.str x,w]=>if x≠n then some (.tup [.str x,w]) else none | _=>none,λx hx=>?_,?_⟩
 ·obtain⟨t,_,rfl⟩:=E8.mp hx;unfold EK;walk_at "rd";refine cR (λe=>?_) λe=>?_
  ·simp[e]
  ·simp[e]
 ·rw[iB (λt=>decide (t.1≠n)) _ (λt ht=>by unfold EK;simp only;rw[Fs (by simpa using ht)]) (λt ht=>by unfold EK;simp only;rw[Fp (by simpa using ht)])];unfold bnd at q;simp only at q;have ho:∀t∈ts.filter (λt=>decide (t.1≠n)),t.1∈ks/\ib t.2<=c:=λt ht=>by
   obtain⟨h1,h2⟩:=Fq.mp ht;exact⟨hp t h1 (by simpa using h2),b2 t h1⟩
  have ndo:((ts.filter (λt=>decide (t.1≠n))).map (·.1)).Nodup:=nd.sublist (List.filter_sublist.map _)
  have hlo:=G5 (λt:Str×Int=>decide (t.1≠n)) ts
  generalize ts.filter (λt=>decide (t.1≠n))=o at *
  have hon:∀x∈o.map (·.1),x∈ks:=λx hx=>by
   obtain⟨t,ht,rfl⟩:=E8.mp hx;exact(ho t ht).1
  have pos:∀x∈ks,0<pB ks ps x:=λx hx=>P.pos hx
  have bK:=pc ndo hon pos hκ
  have pK:=dF (q:=pB ks ps) (l:=o.map (·.1)) λx hx=>pos x (hon x hx)
  rw[hK1];walk_at "rd";refine⟨by rw[E7];omega,λd=>match d with | .tup (x::_)=>some x | _=>none,λx hx=>?_,?_⟩
  ·obtain⟨t,_,rfl⟩:=E8.mp hx;unfold EK;walk_at "rd"
  ·refine⟨o.map (·.1),ks,ps,T,κ,?_,ndo,?_,hon,P,hT,hκ,by omega,?_⟩
   ·rw[aH _ EK (λt=>D.str t.1) _ (by intro _ _;rfl),FL];rfl
   ·have:=gL ndo hon
    omega
   ·walk_at "rd";refine⟨mo2 b3 bK (by omega),true,o,_,_,_,rfl,λt ht=>⟨cG (λx=>D.int (ov (pT ks ps) (pB ks ps) (ED (pB ks ps) (o.map (·.1))) x)) (E8.mpr ⟨t,ht,rfl⟩),Fa (ho t ht).2 (by omega),Fa (FK (P.Tb (ho t ht).1) (F4 bK)) (by omega)⟩,?_⟩;walk_at "rd";refine⟨n,(k,ts,b),rfl,nd,?_⟩;walk_at "rd";refine⟨mo2 b1 bK (by omega),_,_,rfl,F1 hc (by omega),Fa (FK b1 bK) (by omega),?_⟩;exact q
def oD:Option (Int×Int)->D
 | none=>.non
 | some p=>EO p
def yc(e:En2):D:=.tup [oD e.1,.bl e.2]
inductive mE(ds:List D)(R:D->Prop):Prop
 | mk (a b:En2) (lo:Bool) (hh:ds=[yc a,yc b,.bl lo]/\(∀p,a.1=some p->ib p.1<=1000000/\ib p.2<=8000)/\(∀p,b.1=some p->ib p.1<=1000000/\ib p.2<=8000)/\R (yc (tgt lo a b)))
def lG:∀ds R,mE ds R->ds.length=3:=λ_ _ ⟨_,_,_,e,_⟩=>by rw[e];rfl
theorem qH:aA ["one","other","is_low"] ["one","other","is_low"] (ap s_tighter):=by walk_at "sc"
theorem iC(Z:Zz):Z.C 2 "tighter" ["one","other","is_low"] (E2 Z.K mE):=by
 refine cF Z.x28 qH lG λfa cdv A outer s H E ds R hr h=>?_;have hU:=hr.units;refine⟨_,(ad (aM (aD yl (EZ 0) kc (av _)) (af (au (ak 1))) aB) (ad (aM (aD yl (EZ 1) kc (av _)) (af (au (ak 0))) aB) (ad (aM (aD (yM hU) (EZ 0) (EZ 1) (av _)) (af (au (aK (ac (EZ 0) (ac (jn (EZ 0) (d8 (EZ 1))) ae))))) aB) (af (au (tW (aD (yM hU) (ar (oM Z) (rm hr) rfl (ac (EZ 1) (ac (EZ 0) ae))) (ak 2) (av _)) (ak 0) (ak 1))))))),?_⟩;obtain⟨⟨a,ab⟩,⟨b,bb⟩,lo,rfl,ha,hb,q⟩:=h;unfold yc at q ⊢;refine ag λK1 h1=>?_
 cases a with
 | none =>
  unfold oD;walk_at "rd";exact q
 | some p =>
  rw[show oD (some p)=.tup [.int p.1,.int p.2] from rfl];walk_at "rd";rw[h1];refine ag λK2 h2=>?_
  cases b with
  | none =>
   unfold oD;walk_at "rd";exact q
  | some r =>
   obtain⟨p1,p2⟩:=ha p rfl;obtain⟨r1,r2⟩:=hb r rfl;unfold tgt at q;simp only at q;rw[show oD (some r)=.tup [.int r.1,.int r.2] from rfl];walk_at "rd";rw[h2];refine ag λK3 h3=>?_;walk_at "rd";refine cR (λe=>?_) λe=>?_
   ·have e:p=r:=Prod.ext (by simpa using Gs Prod.fst e) (by simpa using Gs Prod.snd e)
    rw[Fs e] at q
    cases ab with
    | true=>exact ifp rfl q
    | false=>exact Ex Fg q
   ·rw[Fp (λz=>e (by rw[z]))] at q;rw[h3];walk_at "rd";refine⟨r,p,rfl,Fa r1 (by decide),Fa p1 (by decide),r2,p2,?_⟩;walk_at "rd";refine cR (λe=>?_) λe=>?_
    ·rw[Fs e] at q;exact q
    ·rw[Fp e] at q;exact q
inductive iL(ds:List D)(R:D->Prop):Prop
 | mk (lo hi:Option (Int×Int)) (x y:Bool) (hh:ds=[.tup [oD lo,.bl x,oD hi,.bl y]]/\(∀p,lo=some p->p.2≠0/\ib p.1<=1000000/\ib p.2<=3990)/\(∀p,hi=some p->p.2≠0/\ib p.1<=1000000/\ib p.2<=3990)/\R (EO (nmb lo hi)))
def i7:∀ds R,iL ds R->ds.length=1:=λ_ _ ⟨_,_,_,_,e,_⟩=>by rw[e];rfl
theorem cZ:aA ["piece","low","high","whole"] ["piece"] (ap s_number_in):=by walk_at "sc"
theorem kH(Z:Zz):Z.C 4 "number_in" ["piece"] (E2 Z.K iL):=by
 refine cF Z.x29 cZ i7 λfa cdv A outer s H E ds R hr h=>?_;have hU:=hr.units;refine⟨_,(ad (aw 1 cZ.nd (EZ 0)) (ad (aw 2 cZ.nd (EZ 0)) (ad (aM (DW.dt (wC (aD yl (ak 1) kc (av _)) (sn (aD yl (ak 2) kc (av _))))) (af (au (aK (ac am (ac am ae))))) aB) (ad (aM (aD yl (ak 1) kc (av _)) (af (au (ar (fD Z) (rm hr) rfl (ac (ax ja (ax cz (EZ 2) (EZ 2)) am) (ac am ae))))) aB) (ad (aw 3 cZ.nd (ar (fD Z) (rm hr) rfl (ac (ax aL (ax cz (EZ 1) (EZ 1)) am) (ac am ae)))) (ad (aM (DW.dt (kn (aD yl (ak 2) kc (av _)) (fG (cj (ar (oM Z) (rm hr) rfl (ac (ak 3) (ac (ak 2) ae))))))) (af (au (ak 3))) aB) (ad (aM (aD (yM hU) (ak 1) (ak 2) (av _)) (af (au (ak 1))) aB) (af (au (ar (uj Z) (rm hr) rfl (ac (ar (wq Z) (rm hr) rfl (ac (ak 1) (ac (ak 2) ae))) (ac (aK (ac am (ac am ae))) ae)))))))))))),?_⟩;obtain⟨lo,hi,x,y,rfl,hl,hh,q⟩:=h;have m1:∀a:Int,ib (EF a 1)<=1:=λa=>by rw[(qc a).2];decide
 refine ag λK1 hK1=>?_;walk_at "rd";rw[hK1];refine ag λK2 hK2=>?_;walk_at "rd";rw[hK2];refine ag λK3 hK3=>?_
 cases lo with
 | none =>
  cases hi with
  | none =>
   unfold oD;walk_at "rd";exact q
  | some h =>
   obtain⟨h0,h1,h2⟩:=hh h rfl;unfold oD EO;walk_at "rd";rw[hK3];refine ag λK4 hK4=>?_;walk_at "rd";exact⟨⟨h0,qv h2 (by decide)⟩,_,_,rfl,by decide,by decide,q⟩
 | some l =>
  obtain⟨l0,l1,l2⟩:=hl l rfl;have bt:ib (EM (l.1.fdiv l.2+1) 1)<=1000000+1:=by
   rw[(qc _).1];have:=Gx (F4 (y:=l.2) l1) (show ib 1<=1 by decide);unfold ib;omega
  cases hi with
  | none =>
   unfold oD EO;walk_at "rd";rw[hK3];refine ag λK4 hK4=>?_;walk_at "rd";rw[hK4];refine ag λK5 hK5=>?_;walk_at "rd";refine⟨⟨l0,qv l2 (by decide)⟩,_,_,rfl,by decide,by decide,?_⟩;walk_at "rd";rw[hK5];refine ag λK6 hK6=>?_;walk_at "rd";exact q
  | some h =>
   obtain⟨h0,h1,h2⟩:=hh h rfl;unfold nmb at q;simp only at q;unfold oD EO;walk_at "rd";rw[hK3];refine ag λK4 hK4=>?_;walk_at "rd";rw[hK4];refine ag λK5 hK5=>?_;walk_at "rd";refine⟨⟨l0,qv l2 (by decide)⟩,_,_,rfl,by decide,by decide,?_⟩;walk_at "rd";rw[hK5];refine ag λK6 hK6=>?_;walk_at "rd";refine⟨(EM (l.1.fdiv l.2+1) 1,EF (l.1.fdiv l.2+1) 1),h,rfl,Fa bt (by decide),Fa h1 (by decide),Fa (m1 _) (by decide),Fa h2 (by decide),?_⟩;walk_at "rd";refine cR (λe=>?_) λe=>?_
   ·rw[Fs e] at q;exact q
   ·rw[Fp e] at q;rw[hK6];refine ag λK7 hK7=>?_;walk_at "rd";refine cR (λe=>?_) λe=>?_
    ·have e:l=h:=Prod.ext (by simpa using Gs Prod.fst e) (by simpa using Gs Prod.snd e)
     rw[Fs e] at q;exact q
    ·rw[Fp (λz=>e (by rw[z]))] at q;rw[hK7];walk_at "rd";refine⟨l,h,rfl,F1 l0 h0,l1,h1,Fa l2 (by decide),Fa h2 (by decide),?_⟩;have sb:=FK l2 h2;have st:=Gx (FK l1 h2) (FK h1 l2);have sl:=eO (l.1*h.2+h.1*l.2) (F1 l0 h0);refine⟨(EM (l.1*h.2+h.1*l.2) (l.2*h.2),EF (l.1*h.2+h.1*l.2) (l.2*h.2)),(1,2),rfl,F1 sl.ne (by decide),Fa (F4 st) (by decide),by decide,Fa (F4 sb) (by decide),by decide,?_⟩;exact q
theorem u9{l:List (Rw×Int)}:(decide (kdS (kOf (EU l))=("least":Str)):Bool)=!EU l:=by cases EU l<;>rfl
structure Pcs(nm:List Str)(rows:List Rw)(ks:List Str)(ps:List (Int×Int))(n:Str)(W:List (List Int))(c κ g T:Nat)(L:Int):Prop where
 H:Rws nm rows
 k6:ks.length<=60
 nms:∀w∈W,∀t∈(Ey nm rows w).2.1,t.1≠n->t.1∈ks
 P:Pt ks ps T
 hT:c+T+κ+80<=1000000
 hκ:ib (ED (pB ks ps) ks)<=κ
 L0:L≠0
 hL:∀k∈ks,pB ks ps k ∣ L
 hg:ib L<=g
 gκ:g<=κ
 cg:c+g<=3990
 cκ:c+κ<=7990
 cb:∀w∈W,∀x,ib (cfs (rows.zip w) x)<=c
 bb:∀w∈W,ib (bds (rows.zip w))<=c
def Pcs.tb{W:List (List Int)}{c κ g T:Nat}(h:Pcs nm rows ks ps n W c κ g T L){w:List Int}(hw:w∈W):∀t∈(Ey nm rows w).2.1,ib t.2<=c:=λt ht=>by
 rw[(ku ht).2.2];exact h.cb w hw _
def Pcs.cnd{W:List (List Int)}{c κ g T:Nat}(h:Pcs nm rows ks ps n W c κ g T L){w:List Int}(hw:w∈W)(hc:cfs (rows.zip w) n≠0):oy L c g κ T (cnd nm rows ks ps n w).1 :=
 uX h.P h.hκ h.L0 h.hL h.hg (gn h.H w) h.k6 (h.nms w hw) (by rw[dH h.H];exact hc) (by rw[dH h.H];exact h.cb w hw n) (h.tb hw) (h.bb w hw)
inductive jf(ds:List D)(R:D->Prop):Prop
 | mk (nm:List Str) (rows:List Rw) (ks:List Str) (ps:List (Int×Int)) (n:Str) (W:List (List Int)) (c κ g T:Nat) (L:Int) (hh:ds=[.str n,nI nm rows W,.dct ks (ps.map EO)]/\Pcs nm rows ks ps n W c κ g T L /\
 R (.tup [oD (EN nm rows ks ps n W).1.1,.bl (EN nm rows ks ps n W).1.2,oD (EN nm rows ks ps n W).2.1,.bl (EN nm rows ks ps n W).2.2]))
def iN:∀ds R,jf ds R->ds.length=3:=λ_ _ ⟨_,_,_,_,_,_,_,_,_,_,_,e,_⟩=>by rw[e];rfl
theorem vW{W:List (List Int)}{i:Nat}{w:List Int}(h:W[i]?=some w):EN nm rows ks ps n (W.take (i+1)) =
    (if 0<cfs (rows.zip w) n then tgt true (EN nm rows ks ps n (W.take i)).1 (some (cnd nm rows ks ps n w).1,(cnd nm rows ks ps n w).2) else (EN nm rows ks ps n (W.take i)).1,
     if cfs (rows.zip w) n<0 then tgt false (EN nm rows ks ps n (W.take i)).2 (some (cnd nm rows ks ps n w).1,(cnd nm rows ks ps n w).2) else (EN nm rows ks ps n (W.take i)).2):=by
  unfold EN;rw[aC h,List.foldl_append];rfl
theorem bf:aA ["name","sums","point","low","high","row","weights","weight"] ["name","sums","point"] (ap s_piece_for):=by walk_at "sc"
theorem kh(Z:Zz):Z.C 4 "piece_for" ["name","sums","point"] (E2 Z.K jf):=by
 refine cF Z.x30 bf iN λfa cdv A outer s H E ds R hr h=>?_;have hU:=hr.units;refine⟨_,(ad (aw 3 bf.nd (tE rfl Z.g_ENDLESS)) (ad (aw 4 bf.nd (tE rfl Z.g_ENDLESS)) (ad (cu Fy rfl (ak 1) (bL (n:=2) rfl (ay (aq 5 bf.nd) (ay (aq 6 bf.nd) aW))) (ad (aw 7 bf.nd (ar (bg Z) (rm hr) rfl (ac (ak 0) (ac (ak 5) ae)))) (ad (aM (aD uH (ak 7) am (av _)) (af (aw 3 bf.nd (ar (iC Z) (rm hr) rfl (ac (ak 3) (ac (aK (ac (ar (gw Z) (rm hr) rfl (ac (ak 0) (ac (ak 5) (ac (ak 2) ae)))) (ac (cm (dy hU) (EZ 5) aE (av _)) ae))) (ac cc ae)))))) aB) (af (aM (aD uR (ak 7) am (av _)) (af (aw 4 bf.nd (ar (iC Z) (rm hr) rfl (ac (ak 4) (ac (aK (ac (ar (gw Z) (rm hr) rfl (ac (ak 0) (ac (ak 5) (ac (ak 2) ae)))) (ac (cm (dy hU) (EZ 5) aE (av _)) ae))) (ac cc ae)))))) aB))))) (af (au (ax aL (ak 3) (ak 4))))))),?_⟩;obtain⟨nm,rows,ks,ps,n,W,c,κ,g,T,L,rfl,S,q⟩:=h;unfold nI;refine ag λK1 hK1=>?_;walk_at "rd";rw[hK1];refine ag λK2 hK2=>?_;walk_at "rd";rw[hK2];refine ag λK3 hK3=>?_;refine cD λF N hF hN=>?_;walk_at "rd";simp only[eL];walk_at "rd";refine⟨λi δ=>∃x y z,δ=[.dat (.str n),.dat (.lst (W.map (smD nm rows))),.dat (.dct ks (ps.map EO)),.dat (yc (EN nm rows ks ps n (W.take i)).1),.dat (yc (EN nm rows ks ps n (W.take i)).2),x,y,z],⟨_,_,_,rfl⟩,?_,?_⟩
 ·rintro i d δ hd ⟨x,y,z,rfl⟩;obtain⟨w,hw,rfl⟩:=oZ hd;have hm:=Fm hw;have pre:=xE (nm:=nm) (rows:=rows) (ks:=ks) (ps:=ps) (n:=n) (Pr:=λp=>ib p.1<=1000000/\ib p.2<=8000) (W:=W.take i) λw hw hc=>by
   have k:=S.cnd (F6 hw) hc
   have k1:=k.bb
   have k2:=k.tb
   have k3:=S.cg
   have k4:=S.hT
   exact⟨by omega,by omega⟩
  rw[hF];simp only[vW hw];generalize EN nm rows ks ps n (W.take i)=e at *;obtain⟨lo,hi⟩:=e;show gN _ _ (.tup [EJ (Ey nm rows w),.tup (w.map D.int)]) _ _;refine bD λK4 hK4=>?_;walk_at "rd";refine⟨n,Ey nm rows w,rfl,gn S.H w,?_⟩;walk_at "rd";rw[dH S.H,hK4];have k6:=S.k6;have bnd:cfs (rows.zip w) n≠0->∀R:D->Prop,R (EO (cnd nm rows ks ps n w).1)->f8 [.str n,EJ (Ey nm rows w),.dct ks (ps.map EO)] R:=λhc R r =>
   ⟨n,Ey nm rows w,ks,ps,c,κ,T,rfl,gn S.H w,k6,S.nms w hm,by rw[dH S.H];exact hc,S.P,by have:=S.hT;omega,S.hκ,by have:=S.cκ;omega,by rw[dH S.H];exact S.cb w hm n,S.tb hm,S.bb w hm,r⟩
  have cb:cfs (rows.zip w) n≠0->∀p,some (cnd nm rows ks ps n w).1=some p->ib p.1<=1000000/\ib p.2<=8000:=λhc p hp=>by
   cases hp
   have k:=S.cnd hm hc
   have k1:=k.bb
   have k2:=k.tb
   have k3:=S.cg
   have k4:=S.hT
   exact⟨by omega,by omega⟩
  have word:∀R:D->Prop,R (.bl (cnd nm rows ks ps n w).2)->fIx [EJ (Ey nm rows w),.int 0] λd=>fEq [d,.str "least"] R:=λR r=>by
   unfold EJ j3 Ey;walk_at "rd";rw[u9];exact r
  generalize cnd nm rows ks ps n w=cn at *
  obtain⟨cp,cs⟩:=cn
  rcases Int.lt_trichotomy (cfs (rows.zip w) n) 0 with hc | hc | hc
  ·refine ag λK5 hK5=>?_;walk_at "rd";refine Ex (by omega) ?_;rw[hK5];walk_at "rd";refine ifp hc (bnd (by omega) _ ?_);walk_at "rd";refine word _ ?_;refine⟨hi,(some cp,cs),false,rfl,pre.2,cb (by omega),?_⟩;simp only[if_neg (show ¬ 0<cfs (rows.zip w) n by omega),if_pos hc]
   first | exact⟨_,_,_,rfl⟩ | trivial | rfl
  ·refine ag λK5 hK5=>?_;walk_at "rd";refine Ex (by omega) ?_;rw[hK5];walk_at "rd";refine Ex (by omega) ?_;simp only[if_neg (show ¬ 0<cfs (rows.zip w) n by omega),if_neg (show ¬ cfs (rows.zip w) n<0 by omega)]
   first | exact⟨_,_,_,rfl⟩ | trivial | rfl
  ·refine ag λK5 hK5=>?_;walk_at "rd";refine ifp hc (bnd (by omega) _ ?_);walk_at "rd";refine word _ ?_;refine⟨lo,(some cp,cs),true,rfl,pre.1,cb (by omega),?_⟩;rw[hK5];walk_at "rd";refine Ex (by omega) ?_;simp only[if_pos hc,if_neg (show ¬ cfs (rows.zip w) n<0 by omega)]
   first | exact⟨_,_,_,rfl⟩ | trivial | rfl
 ·rintro δ ⟨x,y,z,rfl⟩;rw[E7,Fw,hN,hK3];unfold yc;walk_at "rd";exact q
def uE(c:Nat->Nat):Nat->Nat->Nat->Nat->Bool
 | 0,κ,_,T=>decide (κ<=7990)&&decide (T<=1000000)
 | k+1,κ,g,T=>(decide (c k+g<=3990)&&decide (c k+κ<=7990))&&(decide (g<=κ)&&decide (c k+T+κ+80<=1000000))&&uE c k (κ+(2*c k+g+2)) (2*c k+2+g) (2*(c k+T+κ+72)+2)
structure St(B:Nat)(nm:List Str)(rows:List Rw)(l ks:List Str)(ps:List (Int×Int))(κ g T:Nat)(L:Int):Prop where
 P:Pt ks ps T
 hκ:ib (ED (pB ks ps) ks)<=κ
 L0:L≠0
 hL:∀k∈ks,pB ks ps k ∣ L
 hg:ib L<=g
 fq:uE (cb B 6) l.length κ g T=true
 so:∀w∈EG rows l,soR (EC ks ps) (Ey nm rows w)
def y6{v:Int×Int}{T T':Nat}(P:Pt ks ps T)(hv:ET v.1 v.2)(hT:T<=T')(h1:ib v.1<=T')(h2:ib v.2<=T'):Pt (ks++[n]) (ps++[v]) T' :=
  ⟨by simp[P.len],λp hp=>(Fk.mp hp).elim (P.low p) λz=>by rw[Fn.mp z];exact hv,λp hp=>(Fk.mp hp).elim (λz=>Fa (P.b1 p z) hT) λz=>by rw[Fn.mp z];exact h1,
   λp hp=>(Fk.mp hp).elim (λz=>Fa (P.b2 p z) hT) λz=>by rw[Fn.mp z];exact h2⟩
theorem vE{v:Int×Int}(hl:ps.length=ks.length)(hn:n∉ks):ED (pB (ks++[n]) (ps++[v])) (ks++[n])=ED (pB ks ps) ks*v.2:=by
 rw[kg,tJ];have e1:pB (ks++[n]) (ps++[v]) n=v.2:=by unfold pB;rw[fJ hl hn,Fs rfl]
 rw[e1]
 congr 1
 refine mB λk hk=>?_;unfold pB;rw[fJ hl hn,Fp (λ(z:k=n)=>hn (z ▸ hk))]
theorem St.step{B N:Nat}{κ g T:Nat}(F:Fit nm rows B N)(h:St B nm rows (n::l) ks ps κ g T L)(hnk:n∉ks)(hkl:ks.length<=60)(hcov:∀k∈nm,k∈ks\/k=n\/k∈l) :
  Pcs nm rows ks ps n (EG rows l) (cb B 6 l.length) κ g T L/\(∀p,(EN nm rows ks ps n (EG rows l)).1.1=some p->oy L (cb B 6 l.length) g κ T p)/\(∀p,(EN nm rows ks ps n (EG rows l)).2.1=some p->oy L (cb B 6 l.length) g κ T p) /\
  ∃L',St B nm rows l (ks++[n]) (ps++[nmb (EN nm rows ks ps n (EG rows l)).1.1 (EN nm rows ks ps n (EG rows l)).2.1]) (κ+(2*cb B 6 l.length+g+2)) (2*cb B 6 l.length+2+g) (2*(cb B 6 l.length+T+κ+72)+2) L':=by
 obtain⟨P,hκ,L0,hL,hg,fq,so⟩:=h;have hfq:((cb B 6 l.length+g<=3990/\cb B 6 l.length+κ<=7990)/\(g<=κ/\cb B 6 l.length+T+κ+80<=1000000))/\uE (cb B 6) l.length (κ+(2*cb B 6 l.length+g+2)) (2*cb B 6 l.length+2+g) (2*(cb B 6 l.length+T+κ+72)+2)=true:=by
  have:((decide (cb B 6 l.length+g<=3990)&&decide (cb B 6 l.length+κ<=7990))&&(decide (g<=κ)&&decide (cb B 6 l.length+T+κ+80<=1000000))&&uE (cb B 6) l.length (κ+(2*cb B 6 l.length+g+2)) (2*cb B 6 l.length+2+g) (2*(cb B 6 l.length+T+κ+72)+2))=true:=fq
  simpa only[Bool.and_eq_true,decide_eq_true_eq] using this
 obtain⟨⟨⟨f1,f1'⟩,f2,f2'⟩,f3⟩:=hfq;have hcb:=DK (B:=B) F.m6 l.length;have S:Pcs nm rows ks ps n (EG rows l) (cb B 6 l.length) κ g T L:=by
  refine⟨F.H,hkl,λw hw t ht hne=>?_,P,f2',hκ,L0,hL,hg,f2,f1,f1',λw hw x=>Fa (F.H.cfb F.hB (cV F.H F.hB hw) x) hcb,λw hw=>Fa (Rws.bdb F.hB (cV F.H F.hB hw)) hcb⟩;obtain⟨m1,m2,_⟩:=ku ht
  rcases hcov t.1 m1 with z | z | z
  ·exact z
  ·exact absurd z hne
  ·exact absurd ((cB hw).2 _ z) m2
 have pof:=xE (nm:=nm) (rows:=rows) (ks:=ks) (ps:=ps) (n:=n) (Pr:=oy L (cb B 6 l.length) g κ T) (W:=EG rows l) λw hw hc=>S.cnd hw hc
 have bk:=back F.H so (sN hnk) (λw hw t ht hne=>P.pos (S.nms w hw t ht hne))
 obtain⟨s1,s2,M,m0,mb,md⟩:=wf L0 hg f2 pof.1 pof.2;refine⟨S,pof.1,pof.2,M*L,y6 P bk.1 (by omega) s1 (by omega),?_,F1 m0 L0,λk hk=>?_,FK mb hg,f3,λw hw=>?_⟩
 ·rw[vE P.len hnk];exact FK hκ s2
 ·unfold pB;rw[fJ P.len hnk]
  by_cases e:k=n
  ·rw[Fs e];exact md
  ·rw[Fp e]
   rcases Fk.mp hk with z | z
   ·exact Int.dvd_trans (hL k z) (Int.dvd_mul_left ..)
   ·exact absurd (Fn.mp z) e
 ·rw[ql P.len hnk];exact bk.2 w hw
inductive gx(ds:List D)(R:D->Prop):Prop
 | mk (nm:List Str) (rows:List Rw) (B N:Nat) (ns ks:List Str) (ps:List (Int×Int)) (κ g T:Nat) (L:Int) (hh:ds=[.lst ((rD rows ns).map (nI nm rows)),.lst (ns.map D.str),.dct ks (ps.map EO)]/\Fit nm rows B N/\ns.length<=N/\ks.length<=20/\(ks++ns).Nodup/\(∀n∈nm,n∈ks\/n∈ns)/\St B nm rows ns ks ps κ g T L/\R (.fd (ks++ns) ((fbk nm rows ns ks ps).map EO)))
def gH:∀ds R,gx ds R->ds.length=3:=λ_ _ ⟨_,_,_,_,_,_,_,_,_,_,_,e,_⟩=>by rw[e];rfl
theorem El(o:Option (Int×Int)):D.im (oD o)=true:=by cases o<;>rfl
theorem Bz{L:List D}{i:Nat}{d:D}(h:(mO (ns.map D.str) L)[i]?=some d):∃n e,ns[i]?=some n/\L[i]?=some e/\d=.tup [.str n,e]:=by
 unfold mO at h;rw[List.getElem?_zipWith] at h;rw[List.getElem?_map] at h
 cases e1:ns[i]? with
 | none=>rw[e1] at h;cases h
 | some n =>
  rw[e1] at h
  cases e2:L[i]? with
  | none=>rw[e2] at h;cases h
  | some e=>rw[e2] at h;exact⟨n,e,rfl,rfl,(Fz h).symm⟩
theorem cut1{α:Type}(xs:List α)(h:0<xs.length):cut xs (some 1) none=xs.drop 1:=by
 unfold cut;have e1:HT.sIx xs.length 0 (some 1)=1:=by unfold HT.sIx;simp;omega
 have e2:HT.sIx xs.length xs.length none=xs.length:=rfl
 rw[e1,e2];exact GE (by rw[Ge];omega)
theorem cH:aA ["steps","names","point","told","name","sums"] ["steps","names","point"] (ap s_found_back):=by walk_at "sc"
theorem jO(Z:Zz):Z.C 5 "found_back" ["steps","names","point"] (E2 Z.K gx):=by
 refine cF Z.x31 cH gH λfa cdv A outer s H E ds R hr h=>?_;have hU:=hr.units;refine⟨_,(ad (uV 3 cH.nd rfl Z.x59 (ak 2)) (ad (eR Fy rfl (gv true true rfl Z.x55 (ac (ak 1) (ac (sr (ak 0) (cK am) dB) ae))) (bL (n:=2) rfl (ay (aq 4 cH.nd) (ay (aq 5 cH.nd) aW))) (af (f9 3 hU (ar (kH Z) (rm hr) rfl (ac (uP 3 (kh Z) (rm hr) rfl (ak 4) (ak 5)) ae)) (ak 4)))) (iO 3 (af (au (ak 3)))))),?_⟩;obtain⟨nm,rows,B,N0,ns,ks,ps,κ,g,T,L,rfl,F,h4,k20,nd,cov,St0,q⟩:=h;have n4:=F.n4;refine ag λK1 hK1=>?_;walk_at "rd";intro da;rw[hK1];refine ag λK2 hK2=>?_;refine de λFb N hF hN=>?_;walk_at "rd";simp only[jw];walk_at "rd";rw[cut1 _ (by rw[E7,fL];omega),<- List.map_drop];have zl:(mO (ns.map D.str) (((rD rows ns).drop 1).map (nI nm rows))).length=ns.length:=by
  unfold mO;rw[List.length_zipWith,E7,E7,Ge,fL];omega
 refine⟨λi δ=>∃(ks':List Str) (ps':List (Int×Int)) (x y:Sl),δ=[.dat (.lst ((rD rows ns).map (nI nm rows))),.dat (.lst (ns.map D.str)),.dat (.dct ks (ps.map EO)),.own da (.dct ks' (ps'.map EO)),x,y]/\ks'=ks++ns.take i/\fbk nm rows (ns.drop i) ks' ps'=fbk nm rows ns ks ps/\∃κ g T L,St B nm rows (ns.drop i) ks' ps' κ g T L,⟨ks,ps,_,_,rfl,by simp,rfl,κ,g,T,L,St0⟩,?_,?_⟩
 ·rintro i d δ hd ⟨ks',ps',x,y,rfl,rfl,hfb,κ',g',T',L',S'⟩;obtain⟨n,e,hn,he,rfl⟩:=Bz hd;have hil:i<ns.length:=(List.getElem?_eq_some_iff.mp hn).1;rw[List.getElem?_map,List.getElem?_drop,pM ns (1+i) (by omega)] at he;have he:=(Fz he).symm;subst he;have edr:ns.drop i=n::ns.drop (i+1):=by
   rw[GO hil]
   congr 1
   exact(List.getElem?_eq_some_iff.mp hn).2
  rw[Nat.add_comm 1 i];rw[edr] at hfb S';have nd3:(ks++ns.take i++n::ns.drop (i+1)).Nodup:=by
   rw[<- edr,Hs,GK];exact nd
  have hnk:n∉ks++ns.take i:=λz=>(Hv.mp nd3).2.2 n z n (Fe ..) rfl
  have hcov:∀k∈nm,k∈ks++ns.take i\/k=n\/k∈ns.drop (i+1):=λk hk=>by
   rcases cov k hk with z | z
   ·exact .inl (Fx _ z)
   ·rw[<- GK i ns,edr] at z
    rcases Fk.mp z with z | z
    ·exact .inl (Fo _ z)
    ·rcases Fj.mp z with z | z
     ·exact .inr (.inl z)
     ·exact .inr (.inr z)
  have hkl:(ks++ns.take i).length<=60:=by rw[Fi,FI];omega
  have tk1:ns.take (i+1)=ns.take i++[n]:=aC hn
  simp only[tk1,<- List.append_assoc];generalize ks++ns.take i=k0 at *;generalize ns.drop (i+1)=l at *;obtain⟨S,pf1,pf2,nxt⟩:=S'.step F hnk hkl hcov;rw[hF];show gN _ _ (.tup [.str n,nI nm rows (EG rows l)]) _ _;walk_at "rd";refine⟨nm,rows,k0,ps',n,EG rows l,_,κ',g',T',L',rfl,S,?_⟩;refine⟨by simp only[D.im,D.ims,El];rfl,?_⟩;have hfb':fbk nm rows l (k0++[n]) (ps'++[nmb (EN nm rows k0 ps' n (EG rows l)).1.1 (EN nm rows k0 ps' n (EG rows l)).2.1])=fbk nm rows ns ks ps:=hfb;clear hfb;have cg:=S.cg;have hT:=S.hT;generalize EN nm rows k0 ps' n (EG rows l)=e at *;obtain⟨lo,hi⟩:=e;simp only at pf1 pf2 nxt hfb' ⊢;refine⟨lo.1,hi.1,lo.2,hi.2,rfl,λp hp=>?_,λp hp=>?_,?_⟩
  ·have k:=pf1 p hp
   have k1:=k.bb
   have k2:=k.tb
   exact⟨k.low.ne,by omega,by omega⟩
  ·have k:=pf2 p hp
   have k1:=k.bb
   have k2:=k.tb
   exact⟨k.low.ne,by omega,by omega⟩
  ·generalize nmb lo.1 hi.1=v at *
   have lk:k0.length<9000:=by omega
   refine⟨lk,?_⟩;rw[pD hnk,qh hnk];walk_at "rd";exact⟨ps'++[v],by rw[Fv];rfl,hfb',_,_,_,nxt⟩
 ·rintro δ ⟨ks',ps',x,y,rfl,rfl,hfb,_⟩;rw[zl] at hfb ⊢;rw[List.drop_length] at hfb;rw[Fw,hN,hK2];have hfb:ps'=fbk nm rows ns ks ps:=hfb;rw[hfb];walk_at "rd";exact q
def so0(l:List (Rw×Int)):Bool:=oh (kOf (EU l)) 0 (bds l)
def EQ(nm:List Str)(rows:List Rw)(ns:List Str):D:=match (EG rows ns).find? (λw=>!so0 (rows.zip w)) with
 | some w=>.tup [.str "weights",.tup (w.map D.int)]
 | none=>.tup [.str "point",.fd ns ((fbk nm rows ns [] []).map EO)]
def None(rows:List Rw):Prop:=∀x:Str->Rat,∃r∈rows,¬ soR x r
inductive pe(ds:List D)(R:D->Prop):Prop
 | mk (nm:List Str) (rows:List Rw) (B N:Nat) (ns:List Str) (hh:ds=[.lst (rows.map EJ),.lst (ns.map D.str)]/\Fit nm rows B N/\ns.length<=N/\ns.Nodup/\(∀n∈nm,n∈ns)/\(uE (cb B 6) ns.length 1 1 0=true\/None rows)/\R (EQ nm rows ns))
def lQ:∀ds R,pe ds R->ds.length=2:=λ_ _ ⟨_,_,_,_,_,e,_⟩=>by rw[e];rfl
theorem sW(hin:∀n∈nm,n∈ns){w:List Int}(hw:w∈EG rows ns):(Ey nm rows w).2.1=[]:=by
 cases e:(Ey nm rows w).2.1 with
 | nil=>rfl
 | cons t r =>
  have ht:t∈(Ey nm rows w).2.1:=by rw[e];exact Fe ..
  obtain⟨h1,h2,_⟩:=ku ht;exact absurd ((cB hw).2 _ (hin _ h1)) h2
theorem xT(hin:∀n∈nm,n∈ns){w:List Int}(hw:w∈EG rows ns):EJ (Ey nm rows w)=(EW.row (kOf (EU (rows.zip w))) [] (bds (rows.zip w))).D:=by
 have e:=sW hin hw
 show j3 _ (Ey nm rows w).2.1 _=_
 rw[e];rfl
theorem Cb(hin:∀n∈nm,n∈ns){w:List Int}(hw:w∈EG rows ns)(x:Str->Rat):so0 (rows.zip w)=true↔soR x (Ey nm rows w):=by
 have e:=sW hin hw
 unfold soR so0;rw[e];show _↔(match kOf (EU (rows.zip w)) with | .least=>((bds (rows.zip w):Int):Rat)<=0 | .more=>((bds (rows.zip w):Int):Rat)<0)
 cases EU (rows.zip w)
 ·show decide (bds (rows.zip w)<=0)=true↔_
  rw[decide_eq_true_eq];exact(Rat.intCast_le_intCast (a:=bds (rows.zip w)) (b:=0)).symm
 ·show decide (bds (rows.zip w)<0)=true↔_
  rw[decide_eq_true_eq];exact(Rat.intCast_lt_intCast (a:=bds (rows.zip w)) (b:=0)).symm
theorem mK{α:Type}{p:α->Bool}{l:List α}{i:Nat}{x:α}(h:l[i]?=some x)(hn:∀y∈l.take i,p y=false)(hp:p x=true):l.find? p=some x:=by
 rw[<- GK i l,List.find?_append];have e1:(l.take i).find? p=none:=List.find?_eq_none.mpr λy hy=>by rw[hn y hy];decide
 have hi:i<l.length:=(List.getElem?_eq_some_iff.mp h).1
 rw[e1,GO hi,(List.getElem?_eq_some_iff.mp h).2,List.find?_cons_of_pos hp];rfl
def C8:∀ {k:Nat},k<=4->uE (cb 64 6) k 1 1 0=true
 | 0,_=>by decide
 | 1,_=>by decide
 | 2,_=>by decide
 | 3,_=>by decide
 | 4,_=>by decide
 | k+5,h=>by omega
def wT(H:Rws nm rows)(nd:ns.Nodup)(hin:∀n∈nm,n∈ns)(so:∀w∈EG rows ns,soR (EC [] []) (Ey nm rows w)):∀r∈rows,soR (EC ns (fbk nm rows ns [] [])) r:=λr hr=>by
 obtain⟨_,_,_,d⟩:=xk H ns [] [] rfl (λ_ h=>nomatch h) (by simpa using nd) (λn hn=>.inr (hin n hn)) so;rw[List.nil_append] at d;obtain⟨j,hj⟩:=List.getElem?_of_mem hr;have:=d (unW rows.length j) (E8.mpr ⟨j,GL.mpr (List.getElem?_eq_some_iff.mp hj).1,rfl⟩);rw[pR H hj] at this;exact this
theorem St.start{B N:Nat}(F:Fit nm rows B N)(nd:ns.Nodup)(hin:∀n∈nm,n∈ns)(fq:uE (cb B 6) ns.length 1 1 0=true\/None rows)(so:∀w∈EG rows ns,soR (EC [] []) (Ey nm rows w)):St B nm rows ns [] [] 1 1 0 1:=by
 refine⟨⟨rfl,(λ_ h=>nomatch h),(λ_ h=>nomatch h),(λ_ h=>nomatch h)⟩,by show ib 1<=1;decide,by decide,(λ_ h=>nomatch h),by decide,?_,so⟩
 rcases fq with h | h
 ·exact h
 ·obtain⟨r,hr,no⟩:=h (EC ns (fbk nm rows ns [] []));exact absurd (wT F.H nd hin so r hr) no
theorem fN:aA ["rows","names","steps","row","weights"] ["rows","names"] (ap s_solved):=by walk_at "sc"
theorem qp(Z:Zz):Z.C 65 "solved" ["rows","names"] (E2 Z.K pe):=by
 refine cF Z.x32 fN lQ λfa cdv A outer s H E ds R hr h=>?_;have hU:=hr.units;refine⟨_,(ad (aw 2 fN.nd (ar (kl Z) (rm hr) rfl (ac (ak 0) (ac (ak 1) ae)))) (ad (cu Fy rfl (EZ 2) (bL (n:=2) rfl (ay (aq 3 fN.nd) (ay (aq 4 fN.nd) aW))) (af (aM (fu (cj (ar (lZ Z) (rm hr) rfl (ac (ak 3) (ac lH ae))))) (af (au (aK (ac aE (ac (ak 4) ae))))) aB))) (af (au (aK (ac aE (ac (ar (jO Z) (rm hr) rfl (ac (ak 2) (ac (ak 1) (ac lH ae)))) ae))))))),?_⟩;obtain⟨nm,rows,B,N0,ns,rfl,F,h4,nd,hin,fq,q⟩:=h;refine ag λK1 hK1=>?_;walk_at "rd";refine⟨nm,rows,B,N0,ns,rfl,F,h4,?_⟩;walk_at "rd";rw[hK1];have e0:(rD rows ns).map (nI nm rows)=nI nm rows (EG rows ns)::((rD rows ns).drop 1).map (nI nm rows):=by
  cases ns<;>rfl
 refine ag λK2 hK2=>?_;refine cD λFb N hF hN=>?_;walk_at "rd";simp only[eL];rw[e0];walk_at "rd";rw[<- e0];refine⟨λi δ=>∃x y,δ=[.dat (.lst (rows.map EJ)),.dat (.lst (ns.map D.str)),.dat (.lst ((rD rows ns).map (nI nm rows))),x,y]/\∀w∈(EG rows ns).take i,so0 (rows.zip w)=true,⟨_,_,rfl,λw hw=>by simp at hw⟩,?_,?_⟩
 ·rintro i d δ hd ⟨x,y,rfl,ho⟩;obtain⟨w,hw,rfl⟩:=oZ hd;have hm:=Fm hw;rw[hF];show gN _ _ (.tup [EJ (Ey nm rows w),.tup (w.map D.int)]) _ _;walk_at "rd";have bb:ib (bds (rows.zip w))<=10000:=by
   have h1:=Rws.bdb F.hB (cV F.H F.hB hm)
   have h2:=F.ck h4
   unfold cb at h2;omega
  refine⟨EW.row (kOf (EU (rows.zip w))) [] (bds (rows.zip w)),[],[],[],0,1,?_,by show 1<=60;decide,⟨⟨by simp,(λ_ h=>nomatch h),(λ_ h=>nomatch h)⟩,bb⟩,by decide,(λ_ h=>nomatch h),⟨rfl,(λ_ h=>nomatch h),(λ_ h=>nomatch h),(λ_ h=>nomatch h)⟩,by decide,by show ib 1<=1;decide,by decide,?_⟩
  ·rw[xT hin hm];rfl
  ·have e1:(EW.row (kOf (EU (rows.zip w))) [] (bds (rows.zip w))).tv (pT [] []) (pB [] [])=so0 (rows.zip w):=by
    show oh _ 0 (bds (rows.zip w)*1)=_
    rw[Int.mul_one];rfl
   rw[e1]
   cases e:so0 (rows.zip w) with
   | false =>
    have:=mK (p:=λw=>!so0 (rows.zip w)) hw (λy hy=>by rw[ho y hy];rfl) (by rw[e];rfl)
    unfold EQ at q;rw[this] at q;exact q
   | true =>
    walk_at "rd";rw[aC hw];intro u hu
    rcases Fk.mp hu with hu | hu
    ·exact ho u hu
    ·rw[Fn.mp hu];exact e
 ·rintro δ ⟨x,y,rfl,ho⟩;rw[E7,Fw] at ho;rw[hN,hK2];have en:(EG rows ns).find? (λw=>!so0 (rows.zip w))=none:=List.find?_eq_none.mpr λw hw=>by rw[ho w hw];decide
  unfold EQ at q;rw[en] at q;walk_at "rd";refine⟨nm,rows,B,N0,ns,[],[],1,1,0,1,rfl,F,h4,by decide,by simpa using nd,λn hn=>.inr (hin n hn),St.start F nd hin fq λw hw=>(Cb hin hw _).mp (ho w hw),?_⟩;walk_at "rd";exact q
def CK{ss:List Str}(h1:Srt ss)(n1:ss.Nodup)(h2:nm.Pairwise leS)(n2:nm.Nodup)(h:∀n,n∈ss↔n∈nm):ss=nm:=kP (tP h1) h2 n1 n2 h
theorem rj(h1:l.Pairwise leS)(n1:l.Nodup)(h2:nm.Pairwise leS)(n2:nm.Nodup)(h:∀n∈l,n∈nm):l.Sublist nm:=by
 have e:l=nm.filter λn=>decide (n∈l):=kP h1 (h2.filter _) n1 (n2.filter _) λn=>by
  rw[Fq];exact⟨λz=>⟨h n z,by simpa using z⟩,λz=>by simpa using z.2⟩
 rw[e];exact List.filter_sublist
def gE(c:Nat->Nat):Nat->Nat->Nat
 | 0,g=>g
 | k+1,g=>gE c k (2*c k+2+g)
theorem wQ{B N:Nat}(F:Fit nm rows B N):∀(ns ks:List Str) (ps:List (Int×Int)) (κ g T:Nat) (L:Int),St B nm rows ns ks ps κ g T L->(ks++ns).Nodup->(ks++ns).length<=60->(∀n∈nm,n∈ks\/n∈ns) ->
  ∃κ' T' L',St B nm rows [] (ks++ns) (fbk nm rows ns ks ps) κ' (gE (cb B 6) ns.length g) T' L'
 | [],ks,ps,κ,g,T,L,S,nd,hl,cov=>by
  rw[FZ];exact⟨κ,T,L,S⟩
 | n::l,ks,ps,κ,g,T,L,S,nd,hl,cov=>by
  have hnk:n∉ks:=λz=>(Hv.mp nd).2.2 n z n (Fe ..) rfl
  obtain⟨_,_,_,L',S'⟩:=S.step F hnk (by rw[Fi] at hl;omega) λk hk=>by
   rcases cov k hk with z | z
   ·exact .inl z
   ·exact .inr (Fj.mp z)
  have e:ks++n::l=ks++[n]++l:=by simp
  rw[e] at nd hl ⊢;exact wQ F l (ks++[n]) _ _ _ _ L' S' nd hl λk hk=>by
   rcases cov k hk with z | z
   ·exact .inl (Fx _ z)
   ·rcases Fj.mp z with z | z
    ·exact .inl (Fo _ (Fn.mpr z))
    ·exact .inr z
structure ou(rows:List Rw)(w:List Int):Prop where
 wt:Wt rows.length w
 no:∀n,cfs (rows.zip w) n=0
 bd:0<bds (rows.zip w)\/(bds (rows.zip w)=0/\EU (rows.zip w)=true)
structure Meets(nm:List Str)(rows:List Rw)(ps:List (Int×Int)):Prop where
 P:Pt nm ps 1000000
 κ:ib (ED (pB nm ps) nm)<=7990
 so:∀r∈rows,soR (EC nm ps) r
theorem B1{B N:Nat}(F:Fit nm rows B N)(h4:ns.length<=N)(nd:ns.Nodup)(hin:∀n∈nm,n∈ns)(fq:uE (cb B 6) ns.length 1 1 0=true\/None rows) :
  (∃w,EQ nm rows ns=.tup [.str "weights",.tup (w.map D.int)]/\ou rows w/\∀a∈w,ib a<=wb B 6 ns.length)\/∃ps,EQ nm rows ns=.tup [.str "point",.fd ns (ps.map EO)]/\Meets ns rows ps:=by
 unfold EQ
 cases e:(EG rows ns).find? (λw=>!so0 (rows.zip w)) with
 | some w =>
  have hw:=List.mem_of_find?_eq_some e
  have hp:(!so0 (rows.zip w))=true:=by have:=List.find?_some e;exact this
  obtain⟨wt,an⟩:=cB hw;refine .inl ⟨w,rfl,⟨wt,λn=>?_,?_⟩,λa ha=>?_⟩
  ·refine Ff λz=>z (an n (hin n (F.H.cfs z)))
  ·unfold so0 at hp
   cases h:EU (rows.zip w)
   ·rw[h] at hp;have:¬ bds (rows.zip w)<=0:=by
     have hp:(!decide (bds (rows.zip w)<=0))=true:=hp
     simpa using hp
    exact .inl (by omega)
   ·rw[h] at hp;have:¬ bds (rows.zip w)<0:=by
     have hp:(!decide (bds (rows.zip w)<0))=true:=hp
     simpa using hp
    by_cases z:bds (rows.zip w)=0
    ·exact .inr ⟨z,rfl⟩
    ·exact .inl (by omega)
  ·exact Fa (cV F.H F.hB hw a ha) (v5 (Fh B) F.m6 _)
 | none =>
  have all:∀w∈EG rows ns,so0 (rows.zip w)=true:=λw hw=>by
   have:=List.find?_eq_none.mp e w hw
   simpa using this
  have so:∀w∈EG rows ns,soR (EC [] []) (Ey nm rows w):=λw hw=>(Cb hin hw _).mp (all w hw)
  have n4:=F.n4
  obtain⟨κ,T,L,S⟩:=wQ F ns [] [] 1 1 0 1 (St.start F nd hin fq so) (by simpa using nd) (by simp;omega) (λn hn=>.inr (hin n hn));rw[List.nil_append] at S;have hf:κ<=7990/\T<=1000000:=by
   have:(decide (κ<=7990)&&decide (T<=1000000))=true:=S.fq
   simpa only[Bool.and_eq_true,decide_eq_true_eq] using this
  exact .inr ⟨_,rfl,S.P.mono hf.2,Fa S.hκ hf.1,wT F.H nd hin so⟩
theorem ug{ns:List Int}{n:Nat}(hb:∀c∈ns,Builtin.Int.intBits c<=n)(k:Int):Builtin.Int.intBits (dk ns k)<=n:=by
 unfold dk;rw[List.getD_eq_getElem?_getD]
 cases e:ns[k.toNat]? with
 | none=>exact Fa (by decide:Builtin.Int.intBits 0<=0) (GM _)
 | some c=>exact hb c (Fm e)
theorem lx{α β:Type}(f:α->β)(l:List α)(lo hi:Option Int):cut (l.map f) lo hi=(cut l lo hi).map f:=by
 unfold cut;rw[E7,HG,List.map_drop]
def nE{α:Type}{l:List α}{lo hi:Option Int}{x:α}(h:x∈cut l lo hi):x∈l:=HC (F6 h)
theorem zJ{α:Type}{l:List α}(a b:Nat):(cut l (some (a:Int)) (some (b:Int))).length<=b-a:=by
 unfold cut;rw[FI,Ge,HT.sIx_nat,HT.sIx_nat];omega
def EW.kr:EW->List (List Rw)
 | .row k ts b=>[[(k,ts,b)]]
 | .nt _=>[]
 | .bo s t=>s.kr.flatMap λc=>t.kr.map λd=>c++d
 | .ei s t=>s.kr++t.kr
def uT(r:Rw):EW:=.row r.1 r.2.1 r.2.2
def EW.cs_kr:∀ {s:EW},s.cs=s.kr.map λc=>c.map uT
 | .row _ _ _=>rfl
 | .nt _=>rfl
 | .bo s t=>by
  show (s.cs.flatMap λc=>t.cs.map λd=>c++d)=(s.kr.flatMap λc=>t.kr.map λd=>c++d).map _
  rw[EW.cs_kr (s:=s),EW.cs_kr (s:=t),List.flatMap_map,List.map_flatMap]
  congr 1
  funext c
  rw[FL,FL]
  congr 1
  funext d
  show _=List.map uT (c++d)
  rw[Fv];rfl
 | .ei s t=>by
  show s.cs++t.cs=(s.kr++t.kr).map _
  rw[EW.cs_kr (s:=s),EW.cs_kr (s:=t),Fv]
def krD(K:List (List Rw)):D:=.lst (K.map λc=>.lst (c.map EJ))
theorem px{s:EW}:csD s.cs=krD s.kr:=by
 unfold csD krD dM;rw[EW.cs_kr,FL]
 congr 2
 funext c
 show DL.D.lst ((c.map uT).map EW.D)=_
 rw[FL];rfl
theorem EW.kr_num{s:EW}(h:s.pn=true):s.kr.length=s.num:=by rw[<- EW.cs_num h,EW.cs_kr,E7]
theorem EW.kr_long{s:EW}(h:s.pn=true)(hc:c∈s.kr):c.length<=s.long:=by
 have:=EW.cs_long h (c.map uT) (by rw[EW.cs_kr];exact E8.mpr ⟨c,hc,rfl⟩)
 rwa [E7] at this
def EW.bt(B:Nat):EW->Prop
 | .row _ ts b=>(∀t∈ts,ib t.2<=B)/\ib b<=B
 | .nt s=>s.bt B
 | .bo s t=>s.bt B/\t.bt B
 | .ei s t=>s.bt B/\t.bt B
def EW.pl_bt{B:Nat}:∀ {s:EW} {t:Bool},s.bt B->(s.pl t).bt B
 | .row k ts b,true,h=>⟨λt ht=>by
   obtain⟨u,hu,rfl⟩:=E8.mp ht
   exact G9 (h.1 u hu),G9 h.2⟩
 | .row k ts b,false,h=>h
 | .nt s,t,h=>EW.pl_bt (s:=s) h
 | .bo s u,true,h=>⟨EW.pl_bt h.1,EW.pl_bt h.2⟩
 | .bo s u,false,h=>⟨EW.pl_bt h.1,EW.pl_bt h.2⟩
 | .ei s u,true,h=>⟨EW.pl_bt h.1,EW.pl_bt h.2⟩
 | .ei s u,false,h=>⟨EW.pl_bt h.1,EW.pl_bt h.2⟩
def EW.kr_row{B:Nat}:∀ {s:EW},s.ok names->s.bt B->∀c∈s.kr,∀r∈c,jN names r.2.1/\(∀t∈r.2.1,ib t.2<=B)/\ib r.2.2<=B/\∀n∈r.2.1.map (·.1),n∈s.nms
 | .row k ts b,o,h,c,hc,r,hr=>by
  rw[Fn.mp hc] at hr;rw[Fn.mp hr];exact⟨o.1,h.1,h.2,λn hn=>hn⟩
 | .bo s t,o,h,c,hc,r,hr=>by
  obtain⟨x,hx,hy⟩:=Gm.mp hc;obtain⟨y,hz,rfl⟩:=E8.mp hy
  rcases Fk.mp hr with hr | hr
  ·obtain⟨a,b,d,e⟩:=EW.kr_row o.1 h.1 x hx r hr;exact⟨a,b,d,λn hn=>Fx _ (e n hn)⟩
  ·obtain⟨a,b,d,e⟩:=EW.kr_row o.2 h.2 y hz r hr;exact⟨a,b,d,λn hn=>Fo _ (e n hn)⟩
 | .ei s t,o,h,c,hc,r,hr=>by
  rcases Fk.mp hc with hc | hc
  ·obtain⟨a,b,d,e⟩:=EW.kr_row o.1 h.1 c hc r hr;exact⟨a,b,d,λn hn=>Fx _ (e n hn)⟩
  ·obtain⟨a,b,d,e⟩:=EW.kr_row o.2 h.2 c hc r hr;exact⟨a,b,d,λn hn=>Fo _ (e n hn)⟩
def EW.sx(x:Str->Rat):EW->Prop
 | .row k ts b=>soR x (k,ts,b)
 | .nt s=>¬ s.sx x
 | .bo s t=>s.sx x/\t.sx x
 | .ei s t=>s.sx x\/t.sx x
theorem oO{x:Str->Rat}:∀ {ts:List (Str×Int)},du x (pV ts)=-du x ts
 | []=>by show (0:Rat)=-0;grind
 | t::ts=>by
  show ((-t.2:Int):Rat)*x t.1+du x (pV ts)=-((t.2:Rat)*x t.1+du x ts)
  rw[oO,HP];grind
theorem zD{x:Str->Rat}{k:Kd}{b:Int}:soR x (k.op,pV ts,-b)↔¬ soR x (k,ts,b):=by
 have e:=oO (x:=x) (ts:=ts)
 cases k with
 | least =>
  show (((-b:Int):Rat)<du x (pV ts))↔¬ ((b:Rat)<=du x ts)
  rw[e,HP];grind
 | more =>
  show (((-b:Int):Rat)<=du x (pV ts))↔¬ ((b:Rat)<du x ts)
  rw[e,HP];grind
def EW.pl_sx{x:Str->Rat}:∀ {s:EW} {t:Bool},(s.pl t).sx x↔(if t=true then ¬ s.sx x else s.sx x)
 | .row k ts b,true=>by rw[Fs rfl];exact zD
 | .row k ts b,false=>Iff.rfl
 | .nt s,true=>by show (s.pl false).sx x↔_;rw[EW.pl_sx,Fs rfl];show (if false=true then _ else s.sx x)↔¬ ¬ s.sx x;simp
 | .nt s,false=>by show (s.pl true).sx x↔_;rw[EW.pl_sx];simp[EW.sx]
 | .bo s u,true=>by show ((s.pl true).sx x\/(u.pl true).sx x)↔_;rw[EW.pl_sx,EW.pl_sx];simp only[if_true,EW.sx];exact Classical.not_and_iff_not_or_not.symm
 | .bo s u,false=>by show ((s.pl false).sx x/\(u.pl false).sx x)↔_;rw[EW.pl_sx,EW.pl_sx];simp[EW.sx]
 | .ei s u,true=>by show ((s.pl true).sx x/\(u.pl true).sx x)↔_;rw[EW.pl_sx,EW.pl_sx];simp[EW.sx]
 | .ei s u,false=>by show ((s.pl false).sx x\/(u.pl false).sx x)↔_;rw[EW.pl_sx,EW.pl_sx];simp[EW.sx]
def EW.kr_sx{x:Str->Rat}:∀ {s:EW},s.pn=true->(s.sx x↔∃c∈s.kr,∀r∈c,soR x r)
 | .row k ts b,_=>by
  constructor
  ·exact λh=>⟨[(k,ts,b)],Fn.mpr rfl,λr hr=>by rw[Fn.mp hr];exact h⟩
  ·rintro⟨c,hc,h⟩;rw[Fn.mp hc] at h;exact h _ (Fn.mpr rfl)
 | .bo s t,h=>by
  obtain⟨h1,h2⟩:=FE.mp h;show (s.sx x/\t.sx x)↔_;rw[EW.kr_sx h1,EW.kr_sx h2]
  constructor
  ·rintro⟨⟨c,hc,a⟩,d,hd,b⟩;refine⟨c++d,Gm.mpr ⟨c,hc,E8.mpr ⟨d,hd,rfl⟩⟩,λr hr=>?_⟩
   rcases Fk.mp hr with hr | hr
   ·exact a r hr
   ·exact b r hr
  ·rintro⟨e,he,a⟩;obtain⟨c,hc,hy⟩:=Gm.mp he;obtain⟨d,hd,rfl⟩:=E8.mp hy;exact⟨⟨c,hc,λr hr=>a r (Fx _ hr)⟩,d,hd,λr hr=>a r (Fo _ hr)⟩
 | .ei s t,h=>by
  obtain⟨h1,h2⟩:=FE.mp h;show (s.sx x\/t.sx x)↔_;rw[EW.kr_sx h1,EW.kr_sx h2]
  constructor
  ·rintro(⟨c,hc,a⟩ | ⟨c,hc,a⟩)
   ·exact⟨c,Fx _ hc,a⟩
   ·exact⟨c,Fo _ hc,a⟩
  ·rintro⟨c,hc,a⟩
   rcases Fk.mp hc with hc | hc
   ·exact .inl ⟨c,hc,a⟩
   ·exact .inr ⟨c,hc,a⟩
theorem iJ:∀ {w v:List Int},v.map D.int=w.map D.int->v=w
 | [],[],_=>rfl
 | [],_::_,h=>by cases h
 | _::_,[],h=>by cases h
 | a::w,b::v,h=>by
  simp only[List.map_cons,List.cons.injEq,D.int.injEq] at h;rw[h.1,iJ h.2]
theorem xa{x:Str->Rat}:∀ {l:List (Rw×Int)},(∀p∈l,soR x p.1/\0<=p.2)->0<=evl x l/\(EU l=true->0<evl x l)
 | [],_=>⟨by show (0:Rat)<=0;grind,λh=>by cases h⟩
 | (⟨k,ts,b⟩,c)::r,h=>by
  obtain⟨i1,i2⟩:=xa (x:=x) (l:=r) λq hq=>h q (E9 _ hq);obtain⟨h1,h2⟩:=h _ (Fe ..);have h2:(0:Rat)<=((c:Int):Rat):=Rat.intCast_nonneg.mpr h2;have e:evl x ((⟨k,ts,b⟩,c)::r)=((c:Int):Rat)*(du x ts-((b:Int):Rat))+evl x r:=rfl;have s:EU ((⟨k,ts,b⟩,c)::r)=((isM k&&decide (0<c))||EU r):=by rw[<- mW (p:=(⟨k,ts,b⟩,c)),<- i9];rfl
  have ge:((b:Int):Rat)<=du x ts:=by
   cases k with
   | least=>exact h1
   | more=>exact Rat.le_of_lt h1
  have m1:0<=((c:Int):Rat)*(du x ts-((b:Int):Rat)):=FU h2 (by grind)
  rw[e,s];refine⟨by grind,λhs=>?_⟩
  rcases Bool.or_eq_true_iff.mp hs with z | z
  ·obtain⟨z1,z2⟩:=FE.mp z;have c0:=jh (of_decide_eq_true z2)
   cases k with
   | least=>cases z1
   | more =>
    have h1:((b:Int):Rat)<du x ts:=h1
    have:=Gk c0 (show 0<du x ts-((b:Int):Rat) by grind)
    grind
  ·have:=i2 z
   grind
theorem qJ{w:List Int}{x:Str->Rat}(H:Rws nm rows)(S:ou rows w)(h:∀r∈rows,soR x r):False:=by
 have e:=pE (x:=x) H.nd (l:=rows.zip w) λp hp=>H.sub _ (FA hp).1
 rw[d6 λn _=>S.no n] at e;obtain⟨i1,i2⟩:=xa (x:=x) (l:=rows.zip w) λp hp=>⟨h _ (FA hp).1,S.wt.nn _ (FA hp).2⟩
 rcases S.bd with z | ⟨z,z2⟩
 ·have:=jh z
  grind
 ·have:=i2 z2
  rw[e,z] at this;have:(0:Rat)<0-((0:Int):Rat):=this;rw[show ((0:Int):Rat)=0 from rfl] at this
  grind
def nZ:D->Bool
 | .tup [.str w,_]=>decide (w="point")
 | _=>false
def zK:D->D
 | .tup [_,d]=>d
 | d=>d
def prs(A B:List (List Rw)):List (List Rw):=A.flatMap λc=>B.map λd=>c++d
def bth(nm:List Str)(A B:List (List Rw)):D:=match (prs A B).find? (λrows=>nZ (EQ nm rows nm)) with
 | some rows=>EQ nm rows nm
 | none=>.tup [.str "paper",.tup (A.map λc=>.tup (B.map λd=>zK (EQ nm (c++d) nm)))]
structure Two(a b:EW)(nm:List Str)(B N:Nat):Prop where
 da:a.dep<=50
 db:b.dep<=50
 oa:a.ok nm
 ob:b.ok nm
 ta:a.bt B
 tb:b.bt B
 na:(a.pl false).num<=4/\(a.pl false).long<=3
 nb:(b.pl false).num<=4/\(b.pl false).long<=3
 pw:nm.Pairwise leS
 nd:nm.Nodup
 mem:∀n,n∈nm↔n∈a.nms\/n∈b.nms
 len:nm.length<=N
 n4:N<=4
 wN:wb B 6 (N+1)<=7990
 fq:uE (cb B 6) nm.length 1 1 0=true\/∀x,¬ (a.sx x/\b.sx x)
theorem u5(pw:nm.Pairwise leS)(nd:nm.Nodup)(h:jN nm ts):eX (cf ts) ts:=by
 have n1:=nd.sublist h.sub
 exact⟨pw.sublist h.sub,n1,λt ht=>⟨(mz n1 ht).symm,h.nz t ht⟩,λn hn=>Ff λz=>hn (iW z)⟩
def Two.row{a b:EW}{B N:Nat}(T:Two a b nm B N)(hc:c∈(a.pl false).kr)(hd:d∈(b.pl false).kr):∀r∈c++d,jN nm r.2.1/\(∀t∈r.2.1,ib t.2<=B)/\ib r.2.2<=B:=λr hr=>by
 rcases Fk.mp hr with hr | hr
 ·obtain⟨h1,h2,h3,_⟩:=EW.kr_row (EW.pl_ok T.oa) (EW.pl_bt T.ta) c hc r hr;exact⟨h1,h2,h3⟩
 ·obtain⟨h1,h2,h3,_⟩:=EW.kr_row (EW.pl_ok T.ob) (EW.pl_bt T.tb) d hd r hr;exact⟨h1,h2,h3⟩
theorem Two.lens{a b:EW}{B N:Nat}(T:Two a b nm B N)(hc:c∈(a.pl false).kr)(hd:d∈(b.pl false).kr):c.length<=3/\d.length<=3:=by
 have h1:=EW.kr_long EW.pl_pn hc
 have h2:=EW.kr_long EW.pl_pn hd
 have:=T.na.2
 have:=T.nb.2
 exact⟨by omega,by omega⟩
theorem Two.fit{a b:EW}{B N:Nat}(T:Two a b nm B N)(hc:c∈(a.pl false).kr)(hd:d∈(b.pl false).kr):Fit nm (c++d) B N/\(uE (cb B 6) nm.length 1 1 0=true\/None (c++d)):=by
 have hr:=T.row hc hd
 obtain⟨l1,l2⟩:=T.lens hc hd;have:=T.len;have:=T.n4;refine⟨⟨⟨T.pw,T.nd,λr h=>u5 T.pw T.nd (hr r h).1,λr h t ht=>(hr r h).1.sub.subset (E8.mpr ⟨t,ht,rfl⟩)⟩,⟨λr h=>(hr r h).2.1,λr h=>(hr r h).2.2⟩,by rw[Fi];omega,by omega,T.n4,T.wN⟩,?_⟩
 rcases T.fq with h | h
 ·exact .inl h
 ·refine .inr λx=>Ff λz=>h x ?_;have all:∀r∈c++d,soR x r:=λr hr=>Ff λy=>z ⟨r,hr,y⟩;have e1:(a.pl false).sx x:=(EW.kr_sx EW.pl_pn).mpr ⟨c,hc,λr hr=>all r (Fx _ hr)⟩;have e2:(b.pl false).sx x:=(EW.kr_sx EW.pl_pn).mpr ⟨d,hd,λr hr=>all r (Fo _ hr)⟩;rw[EW.pl_sx] at e1 e2;exact⟨by simpa using e1,by simpa using e2⟩
def Two.or{a b:EW}{B N:Nat}(T:Two a b nm B N)(hc:c∈(a.pl false).kr)(hd:d∈(b.pl false).kr) :
  (∃w,EQ nm (c++d) nm=.tup [.str "weights",.tup (w.map D.int)]/\ou (c++d) w/\∀z∈w,ib z<=wb B 6 nm.length)\/∃ps,EQ nm (c++d) nm=.tup [.str "point",.fd nm (ps.map EO)]/\Meets nm (c++d) ps :=
 B1 (T.fit hc hd).1 T.len T.nd (λ_ h=>h) (T.fit hc hd).2
theorem kF{r:List Rw}:r∈prs A B↔∃c∈A,∃d∈B,r=c++d:=by
 unfold prs;rw[Gm]
 constructor
 ·rintro⟨c,hc,h⟩;obtain⟨d,hd,rfl⟩:=E8.mp h;exact⟨c,hc,d,hd,rfl⟩
 ·rintro⟨c,hc,d,hd,rfl⟩;exact⟨c,hc,E8.mpr ⟨d,hd,rfl⟩⟩
def wOf(nm:List Str)(rows:List Rw):List Int:=match (EG rows nm).find? (λw=>!so0 (rows.zip w)) with
 | some w=>w
 | none=>[]
theorem Ba{a b:EW}{B N:Nat}(T:Two a b nm B N) :
  (∃ps,bth nm (a.pl false).kr (b.pl false).kr=.tup [.str "point",.fd nm (ps.map EO)]/\Pt nm ps 1000000/\ib (ED (pB nm ps) nm)<=7990/\a.sx (EC nm ps)/\b.sx (EC nm ps)) \/
  (bth nm (a.pl false).kr (b.pl false).kr=.tup [.str "paper",.tup ((a.pl false).kr.map λc=>.tup ((b.pl false).kr.map λd=>.tup ((wOf nm (c++d)).map D.int)))]/\(∀x,¬ (a.sx x/\b.sx x))/\∀c∈(a.pl false).kr,∀d∈(b.pl false).kr,ou (c++d) (wOf nm (c++d))/\∀z∈wOf nm (c++d),ib z<=wb B 6 nm.length):=by
 unfold bth
 cases e:(prs (a.pl false).kr (b.pl false).kr).find? (λrows=>nZ (EQ nm rows nm)) with
 | some rows =>
  have hm:=List.mem_of_find?_eq_some e
  have hp:nZ (EQ nm rows nm)=true:=by have:=List.find?_some e;exact this
  obtain⟨c,hc,d,hd,rfl⟩:=kF.mp hm
  rcases T.or hc hd with⟨w,ew,_⟩ | ⟨ps,ep,M⟩
  ·rw[ew] at hp;exact absurd hp (by show ¬ decide (("weights":Str)="point")=true;decide)
  ·refine .inl ⟨ps,ep,M.P,M.κ,?_,?_⟩
   ·have:(a.pl false).sx (EC nm ps):=(EW.kr_sx EW.pl_pn).mpr ⟨c,hc,λr hr=>M.so r (Fx _ hr)⟩
    rw[EW.pl_sx] at this;simpa using this
   ·have:(b.pl false).sx (EC nm ps):=(EW.kr_sx EW.pl_pn).mpr ⟨d,hd,λr hr=>M.so r (Fo _ hr)⟩
    rw[EW.pl_sx] at this;simpa using this
 | none =>
  have hn:=List.find?_eq_none.mp e
  have all:∀c∈(a.pl false).kr,∀d∈(b.pl false).kr,EQ nm (c++d) nm=.tup [.str "weights",.tup ((wOf nm (c++d)).map D.int)]/\ou (c++d) (wOf nm (c++d))/\∀z∈wOf nm (c++d),ib z<=wb B 6 nm.length:=λc hc d hd=>by
   rcases T.or hc hd with⟨w,ew,sw,bw⟩ | ⟨ps,ep,M⟩
   ·have:wOf nm (c++d)=w:=by
     unfold EQ at ew;unfold wOf
     cases e2:(EG (c++d) nm).find? (λw=>!so0 ((c++d).zip w)) with
     | none=>rw[e2] at ew;cases ew
     | some v =>
      rw[e2] at ew;simp only[D.tup.injEq,List.cons.injEq,and_true,true_and] at ew;exact iJ ew
    rw[this];exact⟨ew,sw,bw⟩
   ·refine absurd ?_ (hn (c++d) (kF.mpr ⟨c,hc,d,hd,rfl⟩));rw[ep];rfl
  refine .inr ⟨?_,λx hx=>?_,λc hc d hd=>(all c hc d hd).2⟩
  ·simp only
   congr 4
   refine GV λc hc=>?_
   congr 1
   refine GV λd hd=>?_;rw[(all c hc d hd).1];rfl
  ·have e1:(a.pl false).sx x:=by rw[EW.pl_sx];simpa using hx.1
   have e2:(b.pl false).sx x:=by rw[EW.pl_sx];simpa using hx.2
   obtain⟨c,hc,a1⟩:=(EW.kr_sx EW.pl_pn).mp e1;obtain⟨d,hd,a2⟩:=(EW.kr_sx EW.pl_pn).mp e2;exact qJ (T.fit hc hd).1.H (all c hc d hd).2.1 λr hr=>(Fk.mp hr).elim (a1 r) (a2 r)
theorem vy{i j:Nat}(hc:A[i]?=some c)(hd:B[j]?=some d)(h1:∀c∈A.take i,∀d∈B,nZ (EQ nm (c++d) nm)=false)(h2:∀d∈B.take j,nZ (EQ nm (c++d) nm)=false)(hp:nZ (EQ nm (c++d) nm)=true):bth nm A B=EQ nm (c++d) nm:=by
 have e:(prs A B).find? (λrows=>nZ (EQ nm rows nm))=some (c++d):=by
  have e1:prs A B=prs (A.take i) B++((B.map λd=>c++d)++prs (A.drop (i+1)) B):=by
   obtain⟨hi,e2⟩:=List.getElem?_eq_some_iff.mp hc
   conv=>lhs;rw[<- GK i A,GO hi,e2]
   unfold prs;rw[GD,List.flatMap_cons]
  have n1:(prs (A.take i) B).find? (λrows=>nZ (EQ nm rows nm))=none:=List.find?_eq_none.mpr λr hr=>by
   obtain⟨c',hc',d',hd',rfl⟩:=kF.mp hr;rw[h1 c' hc' d' hd'];decide
  have n2:(B.map λd=>c++d).find? (λrows=>nZ (EQ nm rows nm))=some (c++d):=mK (i:=j) (by rw[List.getElem?_map,hd];rfl) (λy hy=>by
   rw[<- HG] at hy;obtain⟨d',hd',rfl⟩:=E8.mp hy
   exact h2 d' hd') hp
  rw[e1,List.find?_append,n1,List.find?_append,n2];rfl
 unfold bth;rw[e]
theorem vD(h1:∀c∈A,∀d∈B,nZ (EQ nm (c++d) nm)=false):bth nm A B=.tup [.str "paper",.tup (A.map λc=>.tup (B.map λd=>zK (EQ nm (c++d) nm)))]:=by
 have e:(prs A B).find? (λrows=>nZ (EQ nm rows nm))=none:=List.find?_eq_none.mpr λr hr=>by
  obtain⟨c',hc',d',hd',rfl⟩:=kF.mp hr;rw[h1 c' hc' d' hd'];decide
 unfold bth;rw[e]
theorem oW{K:List (List Rw)}{i:Nat}{d:D}(h:(K.map λc=>D.lst (c.map EJ))[i]?=some d):∃c,K[i]?=some c/\d=.lst (c.map EJ):=by
 rw[List.getElem?_map] at h
 cases e:K[i]? with
 | none=>rw[e] at h;cases h
 | some n=>rw[e] at h;exact⟨n,rfl,(Fz h).symm⟩
inductive mv(ds:List D)(R:D->Prop):Prop
 | mk (a b:EW) (nm:List Str) (B N:Nat) (hh:ds=[a.D,b.D]/\Two a b nm B N/\R (bth nm (a.pl false).kr (b.pl false).kr))
def kQ:∀ds R,mv ds R->ds.length=2:=λ_ _ ⟨_,_,_,_,_,e,_⟩=>by rw[e];rfl
theorem bA:aA ["one","other","firsts","seconds","names","paper","first","line","second","answer"] ["one","other"] (ap s_both_so):=by walk_at "sc"
theorem nU(Z:Zz):Z.C 66 "both_so" ["one","other"] (E2 Z.K mv):=by
 refine cF Z.x33 bA kQ λfa cdv A outer s H E ds R hr h=>?_;have hU:=hr.units;refine⟨_,(ad (aw 2 bA.nd (ar (e8 Z) (rm hr) rfl (ac (ak 0) ae))) (ad (aw 3 bA.nd (ar (e8 Z) (rm hr) rfl (ac (ak 1) ae))) (ad (aw 4 bA.nd (ar (gy Z) (rm hr) rfl (ac (aK (ac aE (ac (ak 0) (ac (ak 1) ae)))) ae))) (ad (dg 5 bA.nd ae) (ad (cu Fy rfl (ak 2) (aq 6 bA.nd) (ad (dg 7 bA.nd ae) (ad (cu Fy rfl (ak 3) (aq 8 bA.nd) (ad (aw 9 bA.nd (ar (qp Z) (rm hr) rfl (ac (ax aL (ak 6) (ak 8)) (ac (ak 4) ae)))) (ad (aM (aD (dy hU) (EZ 9) aE (av _)) (af (au (ak 9))) aB) (af (ba 7 (EZ 9)))))) (af (ba 5 (d5 7 rfl Z.x52 a7)))))) (af (au (aK (ac aE (ac (d5 5 rfl Z.x52 a7) ae)))))))))),?_⟩;obtain⟨a,b,nm,B,N0,rfl,T,q⟩:=h;have n4:=T.n4;have nl:=T.len;refine ag λK1 hK1=>?_;walk_at "rd";refine⟨a,nm,rfl,by have:=T.da;omega,T.oa,by omega,T.na.1,T.na.2,?_⟩;walk_at "rd";rw[px,hK1];refine ag λK2 hK2=>?_;walk_at "rd";refine⟨b,nm,rfl,by have:=T.db;omega,T.ob,by omega,T.nb.1,T.nb.2,?_⟩;walk_at "rd";rw[px,hK2];refine ag λK3 hK3=>?_;walk_at "rd";refine⟨nm,.bo a b,rfl,by have:=T.da;have:=T.db;show max _ _+1<=60;omega,⟨T.oa,T.ob⟩,by omega,λss nds hms hs=>?_⟩;have es:=CK hs nds T.pw T.nd λn=>by rw[hms n,T.mem n];exact Fk
 subst es;walk_at "rd";rw[hK3];refine ag λK4 hK4=>?_;walk_at "rd";intro pa;rw[hK4];have na:=T.na;have nb:=T.nb;have kA:(a.pl false).kr.length<=4:=by rw[EW.kr_num EW.pl_pn];omega
 have kB:(b.pl false).kr.length<=4:=by rw[EW.kr_num EW.pl_pn];omega
 have or:=λ{c d} hc hd=>T.or (c:=c) (d:=d) hc hd
 have fit:=λ{c d} hc hd=>T.fit (c:=c) (d:=d) hc hd
 have lens:=λ{c d} hc hd=>T.lens (c:=c) (d:=d) hc hd
 generalize (a.pl false).kr=A at *
 generalize (b.pl false).kr=Bk at *
 refine ag λK5 hK5=>?_;refine cD λF N hF hN=>?_;unfold krD;walk_at "rd";simp only[eL];walk_at "rd";refine⟨λi δ=>∃x y z u,δ=[.dat a.D,.dat b.D,.dat (.lst (A.map λc=>.lst (c.map EJ))),.dat (.lst (Bk.map λc=>.lst (c.map EJ))),.dat (.lst (ss.map D.str)),.own pa (.lst ((A.take i).map λc=>.tup (Bk.map λd=>zK (EQ ss (c++d) ss)))),x,y,z,u]/\∀c∈A.take i,∀d∈Bk,nZ (EQ ss (c++d) ss)=false,⟨_,_,_,_,rfl,λc hc=>by simp at hc⟩,?_,?_⟩
 ·rintro i d δ hd ⟨x,y,z,u,rfl,no⟩;obtain⟨c,hc,rfl⟩:=oW hd;have hcm:=Fm hc;have hil:=(List.getElem?_eq_some_iff.mp hc).1;rw[hF];show dJ _ _ _ _;refine bD λK6 hK6=>?_;walk_at "rd";intro la;rw[hK6];refine ag λK7 hK7=>?_;refine cD λF2 N2 hF2 hN2=>?_;walk_at "rd";simp only[eL];walk_at "rd";refine⟨λj δ=>∃z u,δ=[.dat a.D,.dat b.D,.dat (.lst (A.map λc=>.lst (c.map EJ))),.dat (.lst (Bk.map λc=>.lst (c.map EJ))),.dat (.lst (ss.map D.str)),.own pa (.lst ((A.take i).map λc=>.tup (Bk.map λd=>zK (EQ ss (c++d) ss)))),.dat (.lst (c.map EJ)),.own la (.lst ((Bk.take j).map λd=>zK (EQ ss (c++d) ss))),z,u]/\∀d∈Bk.take j,nZ (EQ ss (c++d) ss)=false,⟨_,_,rfl,λc hc=>by simp at hc⟩,?_,?_⟩
  ·rintro j e δ he ⟨z,u,rfl,no2⟩;obtain⟨d,hd,rfl⟩:=oW he;have hdm:=Fm hd;have hjl:=(List.getElem?_eq_some_iff.mp hd).1;obtain⟨l1,l2⟩:=lens hcm hdm;obtain⟨ft,fq⟩:=fit hcm hdm;rw[hF2];show dJ _ _ _ _;refine bD λK8 hK8=>?_;walk_at "rd";rw[<- Fv];refine⟨by simp only[List.length_map];omega,ss,c++d,B,N0,ss,rfl,ft,nl,T.nd,λ_ h=>h,fq,?_⟩;rw[hK8];have pf:=λhp=>vy (nm:=ss) hc hd no no2 hp
   rcases or hcm hdm with⟨w,ew,_,_⟩ | ⟨ps,ep,M⟩
   ·have n1:nZ (EQ ss (c++d) ss)=false:=by rw[ew];show decide (("weights":Str)="point")=false;decide
    have e1:(Bk.take (j+1)).map (λd=>zK (EQ ss (c++d) ss))=(Bk.take j).map (λd=>zK (EQ ss (c++d) ss))++[.tup (w.map D.int)]:=by
     rw[aC hd,Fv,List.map_singleton,ew];rfl
    simp only[e1];rw[ew];walk_at "rd";refine Ex (by decide) ⟨by rw[E7,FI];omega,λd' hd'=>?_⟩;rw[aC hd] at hd'
    rcases Fk.mp hd' with z | z
    ·exact no2 d' z
    ·rw[Fn.mp z];exact n1
   ·have p1:nZ (EQ ss (c++d) ss)=true:=by rw[ep];rfl
    rw[pf p1] at q;rw[ep] at q ⊢;walk_at "rd";exact q
  ·rintro δ ⟨z,u,rfl,no2⟩;rw[E7,Fw] at no2 ⊢;rw[hN2,hK7];walk_at "rd";refine⟨by rw[E7,FI];omega,by rw[aC hc,Fv];rfl,λc' hc' d' hd'=>?_⟩;rw[aC hc] at hc'
   rcases Fk.mp hc' with z | z
   ·exact no c' z d' hd'
   ·rw[Fn.mp z];exact no2 d' hd'
 ·rintro δ ⟨x,y,z,u,rfl,no⟩;rw[E7,Fw] at no ⊢;rw[vD no] at q;rw[hN,hK5];walk_at "rd";exact q
def cnz(h:j≠0):CNz i j:=h
def jk(h0:j≠0)(h:j.natAbs.log2<9000):CFd i j:=⟨h0,h⟩
inductive gz(ds:List D)(R:D->Prop):Prop
 | mk (i:Int) (hh:ds=[.int i]/\R (.bl true))
def gP:∀ds R,gz ds R->ds.length=1:=λ_ _ ⟨_,e,_⟩=>by rw[e];rfl
theorem lj:aA ["_law_found"] ["_law_found"] (ap s__law_whole):=by walk_at "sc"
theorem jQ(Z:Zz):Z.C 1 "_law_whole" ["_law_found"] (E2 Z.K gz):=by
 refine cF Z.x34 lj gP λfa cdv A outer s H E ds R hr h=>?_;have hU:=hr.units;refine⟨_,(af (au (jn (kb CJ rfl Z.x60 rfl Z.x62 yo (ak 0)) (d8 (lL (kb tO rfl Z.x60 rfl Z.x61 xA (ak 0))))))),?_⟩;obtain⟨i,rfl,q⟩:=h;walk_at "rd";exact q
theorem lg64{x:Int}(h0:0<x)(h1:x<64):x.natAbs.log2<9000:=by
 refine FN ((Nat.log2_lt (by omega)).mpr (show x.natAbs<2 ^ 6 by omega)) (by decide)
def xh(c:Int):Int:=if c.fmod 5=0 then 0 else if c.fmod 5<4 then (c.fdiv 5).fmod 7-3 else (c.fdiv 5).fmod (2*1000000000+1)-1000000000
theorem fP(c:Int):ib (xh c)<=30:=by
 have bb:∀ {x:Int},-1000000000<=x->x<=1000000000->ib x<=30:=λh0 h1=>intBits_le_iff.mpr (by rw[show (2:Nat) ^ 30=1073741824 by decide +kernel];omega)
 have a0:=FM (c.fdiv 5) (b:=7) (by decide)
 have a1:=FW (c.fdiv 5) (b:=7) (by decide)
 have a2:=FM (c.fdiv 5) (b:=2*1000000000+1) (by decide)
 have a3:=FW (c.fdiv 5) (b:=2*1000000000+1) (by decide)
 unfold xh
 by_cases h1:c.fmod 5=0
 ·rw[Fs h1];decide
 ·rw[Fp h1]
  by_cases h2:c.fmod 5<4
  ·rw[Fs h2];exact bb (by omega) (by omega)
  ·rw[Fp h2];exact bb (by omega) (by omega)
inductive fe(ds:List D)(R:D->Prop):Prop
 | mk (c:_) (hh:ds=[.int c]/\ib c<=1048600/\R (.int (xh c)))
def gd:∀ds R,fe ds R->ds.length=1:=λ_ _ ⟨_,e,_⟩=>by rw[e];rfl
theorem dh:aA ["_law_cell_here","_law_kind"] ["_law_cell_here"] (ap s__law_number):=by walk_at "sc"
theorem cN(Z:Zz):Z.C 1 "_law_number" ["_law_cell_here"] (E2 Z.K fe):=by
 refine cF Z.x35 dh gd λfa cdv A outer s H E ds R hr h=>?_;have hU:=hr.units;refine⟨_,(ad (aw 1 dh.nd (ax cS (ak 0) am)) (ad (aw 0 dh.nd (ax cz (ak 0) am)) (ad (aM (aD (dy hU) (ak 1) am (av _)) (af (au am)) aB) (ad (aM (aD uR (ak 1) am (av _)) (af (au (ax ja (ax cS (ak 0) am) am))) aB) (af (au (ax ja (ax cS (ak 0) (ax aL (ax bT am (ax BH am am)) am)) (ax BH am am)))))))),?_⟩;obtain⟨c,rfl,hc,q⟩:=h;walk_at "rd";have e9:(10:Int) ^ Int.toNat 9=1000000000:=by decide +kernel
 rw[e9];unfold xh at q;refine⟨cnz (by decide),jk (by decide) (by decide +kernel),cR (λh1=>?_) λh1=>cR (λh2=>⟨cnz (by decide),?_⟩) λh2=>⟨⟨by decide,by decide,by decide⟩,GX (by decide),cnz (by decide),⟨by decide,by decide,by decide⟩,?_⟩⟩
 ·rw[Fs h1] at q;exact q
 ·rw[Fp h1,Fs h2] at q;exact q
 ·rw[Fp h1,Fp h2] at q;exact q
theorem atL{α β:Type}{f:α->β}{xs:List α}{k:Nat}(h:k<xs.length):EA (xs.map f) (k:Int)=some (f xs[k]):=by
 rw[sO (by omega) (by rw[E7];omega),List.getElem?_map,GR,List.getElem?_eq_getElem h];rfl
theorem xr:∀ts:List (Str×Int),D.ims (ts.map EK)=true
 | []=>rfl
 | t::ts=>by rw[FJ];simp only[D.ims,xr ts];rfl
theorem C6(r:Rw):D.im (EJ r)=true:=by
 unfold EJ j3;simp only[D.im,D.ims,xr];rfl
def S4:List Str:=["a","b","c","d"]
theorem Bf:S4.Nodup:=by decide +kernel
theorem Cq:S4.Pairwise leS:=by unfold S4 leS;decide +kernel
structure Rg(r:Rw):Prop where
 tm:jN S4 r.2.1
 tb:∀t∈r.2.1,ib t.2<=34
 bb:ib r.2.2<=34
structure Sg(s:EW):Prop where
 dep:s.dep<=10
 ok:s.ok S4
 bt:s.bt 34
 few:(s.pl false).num<=4/\(s.pl false).long<=3
inductive iV(ds:List D)(R:D->Prop):Prop
 | mk (cs:List Int) (nms:List Str) (hh:ds=[.lst (cs.map D.int),.lst (nms.map D.str)]/\∃h5:cs.length=5,(∀c∈cs,ib c<=1048600)/\nms.length=3/\nms.Sublist S4/\∀r:Rw,Rg r->R (EJ r))
def jx:∀ds R,iV ds R->ds.length=2:=λ_ _ ⟨_,_,e,_⟩=>by rw[e];rfl
theorem cW:aA ["_law_cells","_law_names_here","_law_terms","_law_k","_law_weight"] ["_law_cells","_law_names_here"] (ap s__law_line):=by walk_at "sc"
theorem ki(Z:Zz):Z.C 2 "_law_line" ["_law_cells","_law_names_here"] (E2 Z.K iV):=by
 refine cF Z.x36 cW jx λfa cdv A outer s H E ds R hr h=>?_;have hU:=hr.units;refine⟨_,(ad (dg 2 cW.nd ae) (ad (ir Fy rfl rfl Z.x57 (ac am ae) (aq 3 cW.nd) (ad (aw 4 cW.nd (ar (cN Z) (rm hr) rfl (ac (bM bJ (ak 0) (ax aL am (ak 3)) (λ_ _=>rfl)) ae))) (af (aM (aD (gS hU) (ak 4) am (av _)) (af (ba 2 (aK (ac (bM bJ (ak 1) (ak 3) (λ_ _=>rfl)) (ac (ak 4) ae))))) aB)))) (af (au (aK (ac (bM bJ (bG (ac aE (ac aE ae))) (ax cS (EZ 0) am) (λ_ _=>rfl)) (ac (d5 2 rfl Z.x52 a7) (ac (ar (cN Z) (rm hr) rfl (ac (EZ 0) ae)) ae)))))))),?_⟩;obtain⟨cs,nms,rfl,hl,hb,n3,hS,q⟩:=h;have ca:∀k:Nat,(h:k<5)->EA (cs.map D.int) (k:Int)=some (.int (cs[k]'(by omega))):=λk h=>atL (by omega);have cb:∀k:Nat,(h:k<5)->ib (cs[k]'(by omega))<=1048600:=λk h=>hb _ (FQ _);refine ag λK2 hK2=>?_;walk_at "rd";intro ta;rw[hK2];refine ag λK3 hK3=>?_;walk_at "rd";simp only[zW];walk_at "rd";refine⟨by decide,by decide,λi δ=>∃ts x y,δ=[.dat (.lst (cs.map D.int)),.dat (.lst (nms.map D.str)),.own ta (.lst (ts.map EK)),x,y]/\(ts.map (·.1)).Sublist (nms.take i)/\(∀t∈ts,t.2≠0/\ib t.2<=30),⟨[],_,_,rfl,by simp,λ_ h=>(nomatch h)⟩,?_,?_⟩
 ·rintro i δ hi ⟨ts,x,y,rfl,hsb,hts⟩;have hi:i<3:=hi;have hlt:ts.length<=i:=by
   have:=hsb.length_le
   rw[E7,FI] at this;omega
  have hni:nms[i]?=some (nms[i]'(by omega)):=List.getElem?_eq_getElem (by omega)
  walk_at "rd";refine Ez.of (by rw[show (1:Int)+(i:Int)=((i+1:Nat):Int) by omega];exact ca (i+1) (by omega)) ⟨_,rfl,cb (i+1) (by omega),?_⟩;have br:=fP (cs[i+1]'(by omega));generalize xh (cs[i+1]'(by omega))=r at br ⊢;walk_at "rd";refine cR (λhz=>?_) λhz=>?_
  ·refine Ez.of (atL (by omega)) ?_;walk_at "rd";refine⟨by rw[E7];omega,ts++[(nms[i]'(by omega),r)],by rw[Fv];rfl,?_,λt ht=>?_⟩
   ·rw[aC hni,Fv];exact hsb.append (List.Sublist.refl _)
   ·rcases Fk.mp ht with ht | ht
    ·exact hts t ht
    ·rw[Fn.mp ht];exact⟨hz,br⟩
  ·exact⟨ts,rfl,by rw[aC hni];exact hsb.trans (List.sublist_append_left ..),hts⟩
 ·rintro δ ⟨ts,x,y,rfl,hsb,hts⟩;have hsb:(ts.map (·.1)).Sublist (nms.take 3):=hsb;rw[GE (by omega)] at hsb;have hlt:ts.length<=3:=by
   have:=hsb.length_le
   rw[E7] at this;omega
  rw[hK3];walk_at "rd";refine Ez.of (ca 0 (by decide)) ?_;walk_at "rd";have m0:=FM (cs[0]'(by omega)) (b:=2) (by decide);have m1:=FW (cs[0]'(by omega)) (b:=2) (by decide);have h2:(cs[0]'(by omega)).fmod 2=0\/(cs[0]'(by omega)).fmod 2=1:=by omega
  have fin:∀k r,ib r<=30->R (EJ (k,ts,r)):=λk r br=>q (k,ts,r) ⟨⟨hsb.trans hS,λt h=>(hts t h).1,λt h=>Fa (hts t h).2 (by decide)⟩,λt h=>Fa (hts t h).2 (by decide),Fa br (by decide)⟩
  refine⟨cnz (by decide),?_⟩
  rcases h2 with h2 | h2<;>rw[h2]
  ·walk_at "rd";exact Ez.of (ca 4 (by decide)) ⟨_,rfl,cb 4 (by decide),fin .least _ (fP _)⟩
  ·walk_at "rd";exact Ez.of (ca 4 (by decide)) ⟨_,rfl,cb 4 (by decide),fin .more _ (fP _)⟩
inductive gA(ds:List D)(R:D->Prop):Prop
 | mk (cs fs:List Int) (sd:Int) (hh:ds=[.lst (cs.map D.int),.lst (fs.map D.int),.int sd]/\cs.length=5/\fs.length=3/\(∀f∈fs,ib f<=30)/\(sd=0\/sd=1)/\∀r:Rw,Rg r->R (EJ r))
def gJ:∀ds R,gA ds R->ds.length=3:=λ_ _ ⟨_,_,_,e,_⟩=>by rw[e];rfl
theorem bC:aA ["_law_cells","_law_fence_here","_law_side","_law_often","_law_free","_law_sign","_law_sums","_law_terms"] ["_law_cells","_law_fence_here","_law_side"] (ap s__law_fence):=by walk_at "sc"
theorem jL(Z:Zz):Z.C 1 "_law_fence" ["_law_cells","_law_fence_here","_law_side"] (E2 Z.K gA):=by
 refine cF Z.x37 bC gJ λfa cdv A outer s H E ds R hr h=>?_;have hU:=hr.units;refine⟨_,(ad (aw 3 bC.nd (ax aL am (ax cS (EZ 0) am))) (ad (aw 4 bC.nd (ax ja (ax cS (EZ 0) am) am)) (ad (aw 5 bC.nd (ax ja am (ax bT am (ak 2)))) (ad (wg 6 bC.nd (ax bT (ax bT (ak 5) (ak 3)) (EZ 1)) (ax bT (ax bT (ak 5) (ak 3)) (EZ 1))) (ad (f9 6 hU (ak 4) (bM bJ (bG (ac aE (ac aE ae))) (ak 2) (λ_ _=>rfl))) (dw 6 (ad (ef 7 bC.nd ["_law_name"] [(6,"_law_sums")] rfl rfl (by decide +kernel) rfl (by decide +kernel) (a8 ⟨rfl,trivial⟩) (λ_=>be rfl) (aP ⟨⟨rfl,rfl,.inl rfl⟩,trivial⟩) (dP (aG (kC rfl) rfl Z.x51 kW (ac (ak 6) ae))) λ_ _ _ _ _=>⟨(aq 0 (show List.Nodup (["_law_name","_law_sums"]:List Str) by decide +kernel)),(gk (aD (gS hU) (dQ hU (ak 1) (ak 0) (λ_ _=>rfl)) am (av _))),(aK (ac (ak 0) (ac (dQ hU (ak 1) (ak 0) (λ_ _=>rfl)) ae)))⟩) (af (au (aK (ac (bM bJ (bG (ac aE (ac aE ae))) (ax cS (EZ 0) am) (λ_ _=>rfl)) (ac (aX cw rfl Z.x52 a7 (ac (ak 7) ae)) (ac (ax aL (ax ja (ax aL (ax bT (ax bT (ak 5) (ak 3)) (EZ 1)) (ax cS (EZ 0) am)) am) (ak 2)) ae))))))))))))),?_⟩;obtain⟨cs,fs,sd,rfl,h5,h3,hf,hs,q⟩:=h;have ca:∀k:Nat,(h:k<5)->EA (cs.map D.int) (k:Int)=some (.int (cs[k]'(by omega))):=λk h=>atL (by omega);have fa:∀k:Nat,(h:k<3)->EA (fs.map D.int) (k:Int)=some (.int (fs[k]'(by omega))):=λk h=>atL (by omega);have bd3:∀ {x y:Int} {m:Nat},ib x<=m->(y=1\/y=-1)->∀ {o:Int},1<=o->o<=3->x.natAbs<=1073741823->(y*o*x).natAbs<=3221225469:=λ{x y m} _ hy {o} o1 o3 hx=>by
  rw[Int.natAbs_mul];have h1:(y*o).natAbs<=3:=by rcases hy with rfl | rfl<;>omega
  exact Fa (Ha h1 hx) (by decide)
 have f30:∀k:Nat,(h:k<3)->(fs[k]'(by omega)).natAbs<=1073741823:=λk h=>by
  have:=intBits_le_iff.mp (hf (fs[k]'(by omega)) (FQ _))
  rw[show (2:Nat) ^ 30=1073741824 by decide +kernel] at this;omega
 refine ag λK1 hK1=>?_;walk_at "rd";refine Ez.of (ca 1 (by decide)) ?_;walk_at "rd";have o0:=FM (cs[1]'(by omega)) (b:=3) (by decide);have o1:=FW (cs[1]'(by omega)) (b:=3) (by decide);refine⟨cnz (by decide),?_⟩;rw[hK1];generalize hof:1+(cs[1]'(by omega)).fmod 3=of;have of1:1<=of:=by omega
 have of3:of<=3:=by omega
 clear hof o0 o1;refine ag λK2 hK2=>?_;walk_at "rd";refine Ez.of (ca 2 (by decide)) ?_;walk_at "rd";have o0:=FM (cs[2]'(by omega)) (b:=5) (by decide);have o1:=FW (cs[2]'(by omega)) (b:=5) (by decide);refine⟨cnz (by decide),?_⟩;rw[hK2];generalize hfr:(cs[2]'(by omega)).fmod 5-2=fr;have fr1:fr.natAbs<=2:=by omega
 clear hfr o0 o1;refine ag λK3 hK3=>?_;walk_at "rd";refine⟨GX (by decide),?_⟩;rw[hK3];generalize hsg:1-2*sd=sg;have sg1:sg=1\/sg=-1:=by omega
 clear hsg
 have mu:∀ {x:Int},IntMulOk (sg*of) x:=λ{x}=>GX (by
  rcases sg1 with rfl | rfl<;>exact intBits_le_64 (by omega) (by omega))
 have msg:IntMulOk sg of:=GX (by rcases sg1 with rfl | rfl<;>decide)
 refine ag λK4 hK4=>?_;walk_at "rd";have va:=bd3 (hf (fs[0]'(by omega)) (FQ _)) sg1 of1 of3 (f30 0 (by decide));have vb:=bd3 (hf (fs[1]'(by omega)) (FQ _)) sg1 of1 of3 (f30 1 (by decide));have vc:=bd3 (hf (fs[2]'(by omega)) (FQ _)) sg1 of1 of3 (f30 2 (by decide));refine⟨msg,Ez.of (fa 0 (by decide)) ?_⟩;walk_at "rd";refine⟨mu,msg,Ez.of (fa 1 (by decide)) ?_⟩;walk_at "rd";refine⟨mu,by decide,λsa=>?_⟩;rw[hK4];generalize sg*of*fs[0]'(by omega)=v0 at *;generalize sg*of*fs[1]'(by omega)=v1 at *;have b34:∀ {x:Int},x.natAbs<=3300000000->ib x<=34:=λ{x} h=>intBits_le_iff.mpr (by rw[show (2:Nat) ^ 34=17179869184 by decide +kernel];omega);refine ag λK5 hK5=>?_;have key:∀x:Str,x∈S4->x≠"b"->x≠"c"->K5 [.dat (.lst (cs.map D.int)),.dat (.lst (fs.map D.int)),.dat (.int sd),.dat (.int of),.dat (.int fr),.dat (.int sg),.own sa (.dct ["b","c",x] [.int v0,.int v1,.int fr]),.no]:=?_
 ·walk_at "rd"
  rcases hs with rfl | rfl
  ·walk_at "rd";exact key "a" (by decide +kernel) (by decide) (by decide)
  ·walk_at "rd";exact key "d" (by decide +kernel) (by decide) (by decide)
 intro x xS xb xc;have ev:([.int v0,.int v1,.int fr]:List D)=(["b","c",x]:List Str).map λn=>.int (if n="b" then v0 else if n="c" then v1 else fr):=by
  simp only[List.map_cons,List.map_nil,if_neg xb,if_neg xc,if_true];rfl
 have nd:(["b","c",x]:List Str).Nodup:=by
  simp only[List.nodup_cons,List.mem_cons,List.not_mem_nil,or_false,not_or,not_false_eq_true,List.nodup_nil,and_true];exact⟨⟨by decide,λz=>xb z.symm⟩,λz=>xc z.symm⟩
 have hs4:∀n∈(["b","c",x]:List Str),n∈S4:=λn hn=>by
  simp only[List.mem_cons,List.not_mem_nil,or_false] at hn
  rcases hn with rfl | rfl | rfl
  ·decide +kernel
  ·decide +kernel
  ·exact xS
 have fbt:∀n:Str,(if n="b" then v0 else if n="c" then v1 else fr).natAbs<=3221225469:=λn=>by
  by_cases h1:n="b"
  ·rw[Fs h1];exact va
  ·rw[Fp h1]
   by_cases h2:n="c"
   ·rw[Fs h2];exact vb
   ·rw[Fp h2];omega
 rw[ev,hK5];generalize (["b","c",x]:List Str)=ks at *;generalize hFF:(λn:Str=>if n="b" then v0 else if n="c" then v1 else fr)=FF;have eF:∀n,(if n=("b":Str) then v0 else if n="c" then v1 else fr)=FF n:=λn=>by rw[<- hFF]
 simp only[eF] at fbt ⊢;clear ev eF hFF;have k4:=gL nd hs4;have k4:ks.length<=4:=k4;walk_at "rh";refine ag λK6 hK6=>?_;walk_at "rd";refine⟨by omega,λss' pm st=>?_⟩;have hl':=pm.length_eq;refine⟨by rw[E7];omega,λd=>match d with | .str n=>if FF n≠0 then some (.tup [.str n,.int (FF n)]) else none | _=>none,λx hx=>?_,?_⟩
 ·obtain⟨n,hn,rfl⟩:=E8.mp hx;have hnk:n∈ks:=pm.mem_iff.mp hn;walk_at "rd";refine⟨_,cG (λn=>D.int (FF n)) hnk,?_⟩;walk_at "rd";refine cR (λhz=>?_) λhz=>?_
  ·exact⟨_,cG (λn=>D.int (FF n)) hnk,by rw[Fs hz]⟩
  ·rw[Fp hz]
 have e:(ss'.map D.str).filterMap (λd=>match d with | .str n=>if FF n≠0 then some (D.tup [.str n,.int (FF n)]) else none | _=>none)=((ss'.filter λn=>decide (FF n≠0)).map λn=>(n,FF n)).map EK:=by
  clear hl' pm st
  induction ss' with
  | nil=>rfl
  | cons n r ih =>
   rw[FJ,F8];simp only
   by_cases hz:FF n≠0
   ·rw[Fs hz,FP (by simpa using hz)];simp only[List.map_cons];rw[ih];rfl
   ·rw[Fp hz,FG (by simpa using hz)];exact ih
 rw[e,hK6];have tm:jN S4 ((ss'.filter λn=>decide (FF n≠0)).map λn=>(n,FF n))/\∀t∈(ss'.filter λn=>decide (FF n≠0)).map λn=>(n,FF n),ib t.2<=34:=by
  have en:((ss'.filter λn=>decide (FF n≠0)).map λn=>(n,FF n)).map (·.1)=ss'.filter λn=>decide (FF n≠0):=by
   rw[FL];exact List.map_id _
  have bb:∀t∈(ss'.filter λn=>decide (FF n≠0)).map λn=>(n,FF n),ib t.2<=34:=λt ht=>by
   obtain⟨n,_,rfl⟩:=E8.mp ht;exact b34 (by have:=fbt n;show (FF n).natAbs<=_;omega)
  refine⟨⟨?_,λt ht=>?_,λt ht=>Fa (bb t ht) (by decide)⟩,bb⟩
  ·rw[en];exact rj ((tP st).filter _) ((pm.nodup_iff.mpr nd).filter _) Cq Bf λn hn=>hs4 n (pm.mem_iff.mp (Fq.mp hn).1)
  ·obtain⟨n,hn,rfl⟩:=E8.mp ht;simpa using (Fq.mp hn).2
 generalize (ss'.filter λn=>decide (FF n≠0)).map (λn=>(n,FF n))=ts at *
 walk_at "rd";refine Ez.of (ca 0 (by decide)) ?_;walk_at "rd";have o0:=FM (cs[0]'(by omega)) (b:=2) (by decide);have o1:=FW (cs[0]'(by omega)) (b:=2) (by decide);have p0:=FM (cs[4]'(by omega)) (b:=3) (by decide);have p1:=FW (cs[4]'(by omega)) (b:=3) (by decide);have fin:∀k,R (.tup [.str (kdS k),.tup (ts.map EK),.int (sg*of*(fs[2]'(by omega))+(cs[4]'(by omega)).fmod 3-1+sd)]):=λk=>q (k,ts,_) ⟨tm.1,tm.2,b34 (by show (sg*of*(fs[2]'(by omega))+(cs[4]'(by omega)).fmod 3-1+sd).natAbs<=_;omega)⟩;refine⟨cnz (by decide),?_⟩;have h2:(cs[0]'(by omega)).fmod 2=0\/(cs[0]'(by omega)).fmod 2=1:=by omega
 rcases h2 with h2 | h2<;>rw[h2]
 ·walk_at "rd";exact⟨msg,Ez.of (fa 2 (by decide)) ⟨mu,Ez.of (ca 4 (by decide)) ⟨cnz (by decide),fin .least⟩⟩⟩
 ·walk_at "rd";exact⟨msg,Ez.of (fa 2 (by decide)) ⟨mu,Ez.of (ca 4 (by decide)) ⟨cnz (by decide),fin .more⟩⟩⟩
def lf(b:Bool)(r:Rw):EW:=if b=true then .nt (uT r) else uT r
theorem wV(b:Bool)(r:Rw)(t:Bool):((lf b r).pl t).num=1/\((lf b r).pl t).long=1:=by
 unfold lf uT
 cases b<;>cases t<;>exact⟨rfl,rfl⟩
theorem oI(b:Bool)(r:Rw):(lf b r).dep<=2:=by
 cases b
 ·exact(by decide:(1:Nat)<=2)
 ·exact(by decide:(2:Nat)<=2)
theorem vI{r:Rw}(h:Rg r):(lf b r).ok S4:=by
 unfold lf uT;have:jN S4 r.2.1/\ib r.2.2<=10000:=⟨h.tm,Fa h.bb (by decide)⟩
 cases b<;>exact this
theorem uO{r:Rw}(h:Rg r):(lf b r).bt 34:=by
 unfold lf uT
 cases b<;>exact⟨h.tb,h.bb⟩
inductive fH(ds:List D)(R:D->Prop):Prop
 | mk (rows:List Rw) (c:Int) (hh:ds=[.lst (rows.map EJ),.int c]/\rows.length=4/\(∀r∈rows,Rg r)/\∀s:EW,Sg s->R s.D)
def f6:∀ds R,fH ds R->ds.length=2:=λ_ _ ⟨_,_,e,_⟩=>by rw[e];rfl
theorem lf_D(x:Int)(r:Rw):(if x=0 then EJ r else .tup [.str "not",EJ r])=(lf (decide (x≠0)) r).D:=by
 unfold lf
 by_cases h:x=0
 ·rw[Fs h,FR (λz=>z h)];rfl
 ·rw[Fp h,FX h];rfl
def bF(b:Bool)(r:Rw)(t:Bool):((lf b r).pl t).num=1:=(wV b r t).1
def aY(b:Bool)(r:Rw)(t:Bool):((lf b r).pl t).long=1:=(wV b r t).2
theorem Dd{x y:D}{m:Int}(h0:0<=m)(h1:m<2):EA [x,y] m=some (if m=0 then x else y):=by
 have:m=0\/m=1:=by omega
 rcases this with rfl | rfl
 ·rw[Fs rfl];exact at0
 ·rw[Fp (by decide)];exact at1
theorem aR:aA ["_law_rows","_law_cell_here","_law_r","_law_s","_law_t","_law_u","_law_some"] ["_law_rows","_law_cell_here"] (ap s__law_shaped):=by walk_at "sc"
theorem iT(Z:Zz):Z.C 1 "_law_shaped" ["_law_rows","_law_cell_here"] (E2 Z.K fH):=by
 refine cF Z.x38 aR f6 λfa cdv A outer s H E ds R hr h=>?_;have hU:=hr.units;refine⟨_,(ad (rS (bx ["_law_k","_law_row"] [(1,"_law_cell_here")] rfl rfl (by decide +kernel) rfl (by decide +kernel) (a8 ⟨rfl,trivial⟩) (λ_=>be rfl) (aP ⟨⟨rfl,rfl,.inl rfl⟩,trivial⟩) (om true rfl Z.x56 (ac (ak 0) ae)) λ_ _ _ _ _=>⟨(bL (n:=2) rfl (ay (aq 0 (show List.Nodup (["_law_k","_law_row","_law_cell_here"]:List Str) by decide +kernel)) (ay (aq 1 (show List.Nodup (["_law_k","_law_row","_law_cell_here"]:List Str) by decide +kernel)) aW))),b8,(bM bJ (bG (ac (ak 1) (ac (aK (ac aE (ac (ak 1) ae))) ae))) (ax cS (ax cz (ax cz (ak 2) am) (ax D4 am (ak 0))) am) (λ_ _=>rfl))⟩) (xp (n:=4) rfl (ay (aq 2 aR.nd) (ay (aq 3 aR.nd) (ay (aq 4 aR.nd) (ay (aq 5 aR.nd) aW)))))) (ad (aw 6 aR.nd (bG (ac (ak 2) (ac (aK (ac aE (ac (ak 2) (ac (ak 3) ae)))) (ac (aK (ac aE (ac (ak 2) (ac (ak 3) ae)))) (ac (aK (ac aE (ac (ak 2) (ac (aK (ac aE (ac (ak 3) (ac (ak 4) ae)))) ae)))) (ac (aK (ac aE (ac (aK (ac aE (ac (ak 2) (ac (ak 3) ae)))) (ac (ak 4) ae)))) ae))))))) (ad (aw 6 aR.nd (ax aL (ak 6) (bG (ac (aK (ac aE (ac (aK (ac aE (ac (ak 2) (ac (ak 3) ae)))) (ac (ak 4) ae)))) (ac (aK (ac aE (ac (aK (ac aE (ac (ak 2) (ac (ak 3) ae)))) (ac (aK (ac aE (ac (ak 4) (ac (ak 5) ae)))) ae)))) ae))))) (ad (aw 6 aR.nd (ax aL (ak 6) (bG (ac (aK (ac aE (ac (aK (ac aE (ac (ak 2) (ac (ak 3) ae)))) (ac (aK (ac aE (ac (ak 4) (ac (ak 5) ae)))) ae)))) (ac (aK (ac aE (ac (aK (ac aE (ac (ak 2) (ac (aK (ac aE (ac (ak 3) ae))) ae)))) ae))) ae))))) (ad (aw 6 aR.nd (ax aL (ak 6) (bG (ac (aK (ac aE (ac (aK (ac aE (ac (ak 2) (ac (aK (ac aE (ac (ak 3) (ac (ak 4) ae)))) ae)))) ae))) (ac (aK (ac aE (ac (aK (ac aE (ac (aK (ac aE (ac (ak 2) (ac (ak 3) ae)))) (ac (aK (ac aE (ac (ak 4) (ac (ak 5) ae)))) ae)))) ae))) ae))))) (af (au (bM bJ (ak 6) (ax cS (ak 1) am) (λ_ _=>rfl))))))))),?_⟩
 obtain⟨rows,c,rfl,h4,hr,q⟩:=h
 match rows,h4 with
 | [r0,r1,r2,r3],_=>?_
 refine ag λK1 hK1=>?_;walk_at "rd";refine⟨by rw[xo];exact(by decide:4<=9000),λd=>match d with | .tup [.int k,r]=>some (if ((c.fdiv 32).fdiv (1*2 ^ k.toNat)).fmod 2=0 then r else .tup [.str "not",r]) | _=>none,λx hx=>?_,?_⟩
 ·have hx:∃(k:Nat) (r:Rw),k<4/\x=.tup [.int (k:Nat),EJ r]:=by
   obtain⟨k,hk⟩:=List.getElem?_of_mem hx;obtain⟨r,h1,h2⟩:=wF (l:=[r0,r1,r2,r3]) (f:=EJ) hk;exact⟨k,r,(List.getElem?_eq_some_iff.mp h1).1,h2⟩
  obtain⟨k,r,k4,rfl⟩:=hx;have p0:(0:Int)<1*2 ^ (k:Int).toNat:=by rw[Int.one_mul];exact Int.pow_pos (by decide)
  have p1:(1*2 ^ (k:Int).toNat:Int)<64:=by
   have:k=0\/k=1\/k=2\/k=3:=by omega
   rcases this with rfl | rfl | rfl | rfl<;>decide
  have m0:=FM ((c.fdiv 32).fdiv (1*2 ^ (k:Int).toNat)) (b:=2) (by decide)
  have m1:=FW ((c.fdiv 32).fdiv (1*2 ^ (k:Int).toNat)) (b:=2) (by decide)
  refine⟨jk (by decide) (by decide +kernel),⟨by omega,by omega,by decide⟩,jk (by omega) (lg64 p0 p1),cnz (by decide),Ez.of (Dd m0 m1) ?_⟩;walk_at "rd"
 ·have el:(enD [EJ r0,EJ r1,EJ r2,EJ r3]).filterMap (λd=>match d with | .tup [.int k,r]=>some (if ((c.fdiv 32).fdiv (1*2 ^ k.toNat)).fmod 2=0 then r else .tup [.str "not",r]) | _=>none)=[if ((c.fdiv 32).fdiv (1*2 ^ (0:Nat))).fmod 2=0 then EJ r0 else .tup [.str "not",EJ r0],if ((c.fdiv 32).fdiv (1*2 ^ (1:Nat))).fmod 2=0 then EJ r1 else .tup [.str "not",EJ r1],if ((c.fdiv 32).fdiv (1*2 ^ (2:Nat))).fmod 2=0 then EJ r2 else .tup [.str "not",EJ r2],if ((c.fdiv 32).fdiv (1*2 ^ (3:Nat))).fmod 2=0 then EJ r3 else .tup [.str "not",EJ r3]]:=rfl
  rw[el,lf_D,lf_D,lf_D,lf_D];have g0:=hr r0 (by simp);have g1:=hr r1 (by simp);have g2:=hr r2 (by simp);have g3:=hr r3 (by simp);generalize decide (((c.fdiv 32).fdiv (1*2 ^ (0:Nat))).fmod 2≠0)=b0;generalize decide (((c.fdiv 32).fdiv (1*2 ^ (1:Nat))).fmod 2≠0)=b1;generalize decide (((c.fdiv 32).fdiv (1*2 ^ (2:Nat))).fmod 2≠0)=b2;generalize decide (((c.fdiv 32).fdiv (1*2 ^ (3:Nat))).fmod 2≠0)=b3;walk_at "rd";rw[hK1];have d0:=oI b0 r0;have d1:=oI b1 r1;have d2:=oI b2 r2;have d3:=oI b3 r3;have o0:=vI (b:=b0) g0;have o1:=vI (b:=b1) g1;have o2:=vI (b:=b2) g2;have o3:=vI (b:=b3) g3;have t0:=uO (b:=b0) g0;have t1:=uO (b:=b1) g1;have t2:=uO (b:=b2) g2;have t3:=uO (b:=b3) g3;refine ag λK2 hK2=>?_;walk_at "rd";refine⟨by show 5<=9000;decide,?_⟩;rw[hK2];refine ag λK3 hK3=>?_;walk_at "rd";rw[hK3];refine ag λK4 hK4=>?_;walk_at "rd";rw[hK4];refine ag λK5 hK5=>?_;walk_at "rd";rw[hK5];walk_at "rd";have m0:=FM c (b:=11) (by decide);have m1:=FW c (b:=11) (by decide);refine⟨cnz (by decide),?_⟩;generalize c.fmod 11=m at *;have fw:∀s:EW,s.dep<=10->s.ok S4->s.bt 34->(s.pl false).num<=4->(s.pl false).long<=3->R s.D:=λs a b c d e=>q s ⟨a,b,c,d,e⟩;have hm:m=0\/m=1\/m=2\/m=3\/m=4\/m=5\/m=6\/m=7\/m=8\/m=9\/m=10:=by omega
  have few:∀s:EW,(s.pl false).num<=4->(s.pl false).long<=3->(s.pl false).num<=4/\(s.pl false).long<=3:=λs a b=>⟨a,b⟩
  clear few
  rcases hm with rfl | rfl | rfl | rfl | rfl | rfl | rfl | rfl | rfl | rfl | rfl
  ·refine fw (lf b0 r0) ?_ o0 t0 ?_ ?_
   ·first | omega | (simp only[EW.dep];omega)
   ·simp[EW.pl,EW.num,EW.long,bF,aY]
   ·simp[EW.pl,EW.num,EW.long,bF,aY]
  ·refine fw (.bo (lf b0 r0) (lf b1 r1)) ?_ ⟨o0,o1⟩ ⟨t0,t1⟩ ?_ ?_
   ·first | omega | (simp only[EW.dep];omega)
   ·simp[EW.pl,EW.num,EW.long,bF,aY]
   ·simp[EW.pl,EW.num,EW.long,bF,aY]
  ·refine fw (.ei (lf b0 r0) (lf b1 r1)) ?_ ⟨o0,o1⟩ ⟨t0,t1⟩ ?_ ?_
   ·first | omega | (simp only[EW.dep];omega)
   ·simp[EW.pl,EW.num,EW.long,bF,aY]
   ·simp[EW.pl,EW.num,EW.long,bF,aY]
  ·refine fw (.bo (lf b0 r0) (.ei (lf b1 r1) (lf b2 r2))) ?_ ⟨o0,⟨o1,o2⟩⟩ ⟨t0,⟨t1,t2⟩⟩ ?_ ?_
   ·first | omega | (simp only[EW.dep];omega)
   ·simp[EW.pl,EW.num,EW.long,bF,aY]
   ·simp[EW.pl,EW.num,EW.long,bF,aY]
  ·refine fw (.ei (.bo (lf b0 r0) (lf b1 r1)) (lf b2 r2)) ?_ ⟨⟨o0,o1⟩,o2⟩ ⟨⟨t0,t1⟩,t2⟩ ?_ ?_
   ·first | omega | (simp only[EW.dep];omega)
   ·simp[EW.pl,EW.num,EW.long,bF,aY]
   ·simp[EW.pl,EW.num,EW.long,bF,aY]
  ·refine fw (.bo (.bo (lf b0 r0) (lf b1 r1)) (lf b2 r2)) ?_ ⟨⟨o0,o1⟩,o2⟩ ⟨⟨t0,t1⟩,t2⟩ ?_ ?_
   ·first | omega | (simp only[EW.dep];omega)
   ·simp[EW.pl,EW.num,EW.long,bF,aY]
   ·simp[EW.pl,EW.num,EW.long,bF,aY]
  ·refine fw (.ei (.ei (lf b0 r0) (lf b1 r1)) (.ei (lf b2 r2) (lf b3 r3))) ?_ ⟨⟨o0,o1⟩,⟨o2,o3⟩⟩ ⟨⟨t0,t1⟩,⟨t2,t3⟩⟩ ?_ ?_
   ·first | omega | (simp only[EW.dep];omega)
   ·simp[EW.pl,EW.num,EW.long,bF,aY]
   ·simp[EW.pl,EW.num,EW.long,bF,aY]
  ·refine fw (.bo (.ei (lf b0 r0) (lf b1 r1)) (.ei (lf b2 r2) (lf b3 r3))) ?_ ⟨⟨o0,o1⟩,⟨o2,o3⟩⟩ ⟨⟨t0,t1⟩,⟨t2,t3⟩⟩ ?_ ?_
   ·first | omega | (simp only[EW.dep];omega)
   ·simp[EW.pl,EW.num,EW.long,bF,aY]
   ·simp[EW.pl,EW.num,EW.long,bF,aY]
  ·refine fw (.nt (.bo (lf b0 r0) (.nt (lf b1 r1)))) ?_ ⟨o0,o1⟩ ⟨t0,t1⟩ ?_ ?_
   ·first | omega | (simp only[EW.dep];omega)
   ·simp[EW.pl,EW.num,EW.long,bF,aY]
   ·simp[EW.pl,EW.num,EW.long,bF,aY]
  ·refine fw (.nt (.ei (lf b0 r0) (.ei (lf b1 r1) (lf b2 r2)))) ?_ ⟨o0,⟨o1,o2⟩⟩ ⟨t0,⟨t1,t2⟩⟩ ?_ ?_
   ·first | omega | (simp only[EW.dep];omega)
   ·simp[EW.pl,EW.num,EW.long,bF,aY]
   ·simp[EW.pl,EW.num,EW.long,bF,aY]
  ·refine fw (.nt (.bo (.ei (lf b0 r0) (lf b1 r1)) (.ei (lf b2 r2) (lf b3 r3)))) ?_ ⟨⟨o0,o1⟩,⟨o2,o3⟩⟩ ⟨⟨t0,t1⟩,⟨t2,t3⟩⟩ ?_ ?_
   ·first | omega | (simp only[EW.dep];omega)
   ·simp[EW.pl,EW.num,EW.long,bF,aY]
   ·simp[EW.pl,EW.num,EW.long,bF,aY]
inductive eM(ds:List D)(R:D->Prop):Prop
 | mk (ns:List Int) (hh:ds=[.fz (ns.map D.int)]/\ns.length<=63/\(∀n∈ns,ib n<=1048576)/\∀a b:EW,Sg a->Sg b->R (.lst [a.D,b.D]))
def fk:∀ds R,eM ds R->ds.length=1:=λ_ _ ⟨_,e,_⟩=>by rw[e];rfl
theorem pS{ns:List Int}{g:Int->Int}{m:Nat}:((List.range m).map λ(i:Nat)=>D.int (i:Int)).filterMap (λd=>match d with | .int k=>some (D.int (g k)) | _=>none)=((List.range m).map λ(i:Nat)=>g i).map D.int:=by
 rw[FL];exact aH _ _ _ _ λx _=>rfl
theorem jT:∀s:EW,DL.D.im s.D=true
 | .row k ts b=>C6 (k,ts,b)
 | .nt s=>by show D.im (.tup [.str "not",s.D])=true;simp only[D.im,D.ims,jT s];rfl
 | .bo s t=>by show D.im (.tup [.str "both",s.D,t.D])=true;simp only[D.im,D.ims,jT s,jT t];rfl
 | .ei s t=>by show D.im (.tup [.str "either",s.D,t.D])=true;simp only[D.im,D.ims,jT s,jT t];rfl
theorem aV:aA ["_law_script","_law_fence_here","_law_found","_law_side","_law_rows","_law_k","_law_cells"] ["_law_script"] (ap s__law_sayings):=by walk_at "sc"
theorem gT(Z:Zz):Z.C 3 "_law_sayings" ["_law_script"] (E2 Z.K eM):=by
 refine cF Z.x39 aV fk λfa cdv A outer s H E ds R hr h=>?_;have hU:=hr.units;refine⟨_,(ad (ef 1 aV.nd ["_law_k"] [(0,"_law_script")] rfl rfl (by decide +kernel) rfl (by decide +kernel) (a8 ⟨rfl,trivial⟩) (λ_=>be rfl) (aP ⟨⟨rfl,rfl,.inl rfl⟩,trivial⟩) (hG rfl Z.x57 (ac am ae)) λ_ _ _ _ _=>⟨(aq 0 (show List.Nodup (["_law_k","_law_script"]:List Str) by decide +kernel)),b8,(ar (cN Z) (rm hr) rfl (ac (ar (cE Z) (rm hr) rfl (ac (ak 1) (ac (ax aL am (ak 0)) ae))) ae))⟩) (ad (dg 2 aV.nd ae) (ad (ir Fy rfl rfl Z.x57 (ac am ae) (aq 3 aV.nd) (ad (dg 4 aV.nd ae) (ad (ir Fy rfl rfl Z.x57 (ac am ae) (aq 5 aV.nd) (ad (ef 6 aV.nd ["_law_j"] [(0,"_law_script"),(3,"_law_side"),(5,"_law_k")] rfl rfl (by decide +kernel) rfl (by decide +kernel) (a8 ⟨rfl,rfl,rfl,trivial⟩) (λ_=>be rfl) (aP ⟨⟨rfl,rfl,.inl rfl⟩,⟨rfl,rfl,.inl rfl⟩,⟨rfl,rfl,.inl rfl⟩,trivial⟩) (hG rfl Z.x57 (ac am ae)) λ_ _ _ _ _=>⟨(aq 0 (show List.Nodup (["_law_j","_law_script","_law_side","_law_k"]:List Str) by decide +kernel)),b8,(ar (cE Z) (rm hr) rfl (ac (ak 1) (ac (ax aL (ax aL (ax aL am (ax bT am (ak 2))) (ax bT am (ak 3))) (ak 0)) ae)))⟩) (af (aM (aD (dy hU) (ax cS (ax cz (ar (cE Z) (rm hr) rfl (ac (ak 0) (ac am ae))) am) am) am (av _)) (af (ba 4 (ar (jL Z) (rm hr) rfl (ac (ak 6) (ac (ak 1) (ac (ak 3) ae)))))) (af (ba 4 (ar (ki Z) (rm hr) rfl (ac (ak 6) (ac (bM bJ (bG (ac (bG (ac aE (ac aE (ac aE ae)))) (ac (bG (ac aE (ac aE (ac aE ae)))) ae))) (ak 3) (λ_ _=>rfl)) ae))))))))) (af (ba 2 (yt 4 (iT Z) (rm hr) rfl (ar (cE Z) (rm hr) rfl (ac (ak 0) (ac (ak 3) ae))))))))) (dw 2 (af (au (ak 2))))))),?_⟩
 obtain⟨ns,rfl,h63,hb,q⟩:=h;have cbt:∀k,ib (dk ns k)<=1048576:=λk=>ug hb k;refine ag λK1 hK1=>?_;walk_at "rd";refine⟨by decide,by decide,by decide,λd=>match d with | .int k=>some (.int (xh (dk ns (2+k)))) | _=>none,λx hx=>?_,?_⟩
 ·obtain⟨k,hk,rfl⟩:=E8.mp hx;exact⟨ns,_,rfl,by omega,_,rfl,Fa (cbt _) (by decide),rfl,rfl⟩
 rw[show Int.toNat 3=3 from rfl,pS (ns:=ns) (g:=λk=>xh (dk ns (2+k))),hK1];generalize hfs:(List.range 3).map (λ(i:Nat)=>xh (dk ns (2+(i:Int))))=fs;have f3:fs.length=3:=by rw[<- hfs,E7,GA]
 have f30:∀f∈fs,ib f<=30:=λf hf=>by
  rw[<- hfs] at hf;obtain⟨i,_,rfl⟩:=E8.mp hf;exact fP _
 clear hfs;refine ag λK2 hK2=>?_;walk_at "rd";intro oa;rw[hK2];refine ag λK3 hK3=>?_;refine io λF N hF hN=>?_;walk_at "rd";simp only[mw];walk_at "rd";refine⟨by decide,by decide,λi δ=>∃(ss:List EW) (x y z u:Sl),δ=[.dat (.fz (ns.map D.int)),.dat (.lst (fs.map D.int)),.own oa (.lst (ss.map EW.D)),x,y,z,u]/\ss.length=i/\∀s∈ss,Sg s,⟨[],_,_,_,_,rfl,rfl,λ_ h=>(nomatch h)⟩,?_,?_⟩
 ·rintro i δ hi ⟨ss,x,y,z,u,rfl,hl,hss⟩;have hi:i<2:=hi;rw[hF];show dJ _ _ _ _;refine bD λK4 hK4=>?_;walk_at "rd";intro ra;rw[hK4];refine ag λK5 hK5=>?_;refine io λF2 N2 hF2 hN2=>?_;walk_at "rd";simp only[mw];walk_at "rd";refine⟨by decide,by decide,λj δ=>∃(rows:List Rw) (z u:Sl),δ=[.dat (.fz (ns.map D.int)),.dat (.lst (fs.map D.int)),.own oa (.lst (ss.map EW.D)),.dat (.int (i:Int)),.own ra (.lst (rows.map EJ)),z,u]/\rows.length=j/\∀r∈rows,Rg r,⟨[],_,_,rfl,rfl,λ_ h=>(nomatch h)⟩,?_,?_⟩
  ·rintro j δ hj ⟨rows,z,u,rfl,hlr,hrs⟩;have hj:j<4:=hj;rw[hF2];show dJ _ _ _ _;refine bD λK6 hK6=>?_;walk_at "rd";refine⟨by decide,by decide,by decide,λd=>match d with | .int k=>some (.int (dk ns (5+20*(i:Int)+5*(j:Int)+k))) | _=>none,λx hx=>?_,?_⟩
   ·obtain⟨k,hk,rfl⟩:=E8.mp hx;exact⟨GX (by decide),GX (by decide),ns,_,rfl,by omega,rfl,rfl⟩
   rw[show Int.toNat 5=5 from rfl,pS (ns:=ns) (g:=λk=>dk ns (5+20*(i:Int)+5*(j:Int)+k)),hK6];generalize hcs:(List.range 5).map (λ(k:Nat)=>dk ns (5+20*(i:Int)+5*(j:Int)+(k:Int)))=cs;have c5:cs.length=5:=by rw[<- hcs,E7,GA]
   have cb:∀c∈cs,ib c<=1048600:=λf hf=>by
    rw[<- hcs] at hf;obtain⟨k,_,rfl⟩:=E8.mp hf;exact Fa (cbt _) (by decide)
   clear hcs;have app:∀r:Rw,Rg r->∃rows':List Rw,rows.map EJ++[EJ r]=rows'.map EJ/\rows'.length=j+1/\∀r∈rows',Rg r:=λr hr=>⟨rows++[r],by rw[Fv];rfl,by rw[Fi,G0,hlr],λr' hr'=>(Fk.mp hr').elim (hrs r') λz=>by rw[Fn.mp z];exact hr⟩;walk_at "rd";refine⟨ns,0,rfl,by decide,?_⟩;walk_at "rd";have hii:i=0\/i=1:=by omega
   refine⟨jk (by decide) (by decide +kernel),cnz (by decide),cR (λ_=>?_) λ_=>?_⟩
   ·refine⟨cs,fs,_,rfl,c5,f3,f30,by omega,λr hr=>?_⟩;walk_at "rd";exact⟨by rw[E7];omega,app r hr⟩
   ·rcases hii with rfl | rfl
    ·refine⟨cs,["a","b","c"],rfl,c5,cb,rfl,by decide +kernel,λr hr=>?_⟩;walk_at "rd";exact⟨by rw[E7];omega,app r hr⟩
    ·refine⟨cs,["b","c","d"],rfl,c5,cb,rfl,by decide +kernel,λr hr=>?_⟩;walk_at "rd";exact⟨by rw[E7];omega,app r hr⟩
  ·rintro δ ⟨rows,z,u,rfl,hlr,hrs⟩;have hlr:rows.length=4:=hlr;rw[hN2,hK5];walk_at "rd";refine⟨ns,_,rfl,by omega,rows,_,rfl,hlr,hrs,λs hs=>?_⟩;walk_at "rd";exact⟨jT s,by rw[E7];omega,ss++[s],by rw[Fv];rfl,by rw[Fi,G0,hl],λs' hs'=>(Fk.mp hs').elim (hss s') λz=>by rw[Fn.mp z];exact hs⟩
 ·rintro δ ⟨ss,x,y,z,u,rfl,hl,hss⟩;have hl:ss.length=2:=hl;rw[hN,hK3];walk_at "rd"
  match ss,hl with
  | [a,b],_=>exact q a b (hss a (by simp)) (hss b (by simp))
def mq{c:TDT}(h:∀A B:En->Prop,A=t R->B=u R->c δ λb δ1=>if b=true then A δ1 else B δ1):dIf c t u R δ:=h _ _ rfl rfl
theorem oK{s:EW}{t:Bool}(h4:(s.pl t).num<=4):(s.pl t).kr.length<=4:=by rw[EW.kr_num EW.pl_pn];exact h4
inductive bQ(n:Nat)(ds:List D)(R:D->Prop):Prop
 | mk (s:EW) (t:Bool) (names:List Str) (hh:ds=[s.D,.bl t]/\s.dep<=n/\s.ok names/\names.length<=60/\(s.pl (!t)).num<=4/\(s.pl (!t)).long<=3/\R (krD (s.pl (!t)).kr))
def gQ(n:Nat):∀ds R,bQ n ds R->ds.length=2:=λ_ _ ⟨_,_,_,e,_⟩=>by rw[e];rfl
def fT:∀ds R,¬ bQ 0 ds R:=λ_ _ ⟨s,_,_,_,h,_⟩=>by have:=s.dep_pos;omega
theorem bn:aA ["_law_saying","_law_so_here","_law_ones","_law_others","_law_found","_law_one","_law_terms"] ["_law_saying","_law_so_here"] (ap s__law_cases):=by walk_at "sc"
theorem jo(Z:Zz){n:Nat}(dN:Z.C (1+n) "_law_cases" ["_law_saying","_law_so_here"] (E2 Z.K (bQ n))):Z.C (1+n+1) "_law_cases" ["_law_saying","_law_so_here"] (E2 Z.K (bQ (n+1))):=by
 refine cF (k:=1+n) Z.x40 bn (gQ (n+1)) λfa cdv A outer s H E ds R hr h=>?_;have hU:=hr.units;refine⟨_,(ad (aM (aD (dy hU) (EZ 0) aE (av _)) (af (au (ar dN (hr.mono (by omega)) rfl (ac (EZ 0) (ac (lL (ak 1)) ae))))) aB) (ad (aM (DW.dt (kn (aD (dy hU) (EZ 0) aE (av _)) (fG (aD (dy hU) (EZ 0) aE (av _))))) (ad (aw 2 bn.nd (ar dN (hr.mono (by omega)) rfl (ac (EZ 0) (ac (ak 1) ae)))) (ad (aw 3 bn.nd (ar dN (hr.mono (by omega)) rfl (ac (EZ 0) (ac (ak 1) ae)))) (ad (aM (aD (dy hU) (cm (dy hU) (EZ 0) aE (av _)) (ak 1) (av _)) (af (au (ax aL (ak 2) (ak 3)))) aB) (ad (aw 4 bn.nd (bG ae)) (ad (cu Fy rfl (ak 2) (aq 5 bn.nd) (af (aw 4 bn.nd (ax aL (ak 4) (bx ["_law_other"] [(5,"_law_one")] rfl rfl (by decide +kernel) rfl (by decide +kernel) (a8 ⟨rfl,trivial⟩) (λ_=>be rfl) (aP ⟨⟨rfl,rfl,.inl rfl⟩,trivial⟩) (dP (ak 3)) λ_ _ _ _ _=>⟨(aq 0 (show List.Nodup (["_law_other","_law_one"]:List Str) by decide +kernel)),b8,(ax aL (ak 1) (ak 0))⟩))))) (af (au (ak 4)))))))) aB) (ad (aM (cj (ak 1)) (af (au (bG (ac (bG (ac (ak 0) ae)) ae)))) aB) (ad (aw 6 bn.nd (aX cw rfl Z.x52 a7 (ac (bx ["_law_name","_law_weight"] [] rfl rfl (by decide +kernel) rfl (by decide +kernel) (a8 trivial) (λ_=>be rfl) (aP trivial) (gm (EZ 0)) λ_ _ _ _ _=>⟨(bL (n:=2) rfl (ay (aq 0 (show List.Nodup (["_law_name","_law_weight"]:List Str) by decide +kernel)) (ay (aq 1 (show List.Nodup (["_law_name","_law_weight"]:List Str) by decide +kernel)) aW))),b8,(aK (ac (ak 0) (ac (ax ja am (ak 1)) ae)))⟩) ae))) (af (au (bG (ac (bG (ac (aK (ac (bM bJ (bG (ac aE (ac aE ae))) (aX BE rfl Z.x62 yo (ac (cm (dy hU) (EZ 0) aE (av _)) ae)) (λ_ _=>rfl)) (ac (ak 6) (ac (ax ja am (EZ 0)) ae)))) ae)) ae)))))))),?_⟩
 obtain⟨s,t,names,rfl,hd,ok,nl,h4,h3,q⟩:=h
 cases s with
 | row k ts b =>
  unfold EW.D j3;have k1:kdS k≠"not":=by cases k<;>decide
  have k2:kdS k≠"both":=by cases k<;>decide
  have k3:kdS k≠"either":=by cases k<;>decide
  refine ag λK1 hK1=>?_;walk_at "rd";refine Ex k1 ?_;rw[hK1];refine ag λK2 hK2=>?_;refine mq λI1 I2 hI1 hI2=>?_;walk_at "rd";refine Ex k2 (Ex k3 ?_);rw[hI2];walk_at "rd";rw[hK2];refine ag λK3 hK3=>?_;walk_at "rd";have hlt:ts.length<=60:=by
   have:=ok.1.sub.length_le
   rw[E7] at this;omega
  cases t with
  | true=>exact ifp rfl q
  | false =>
   refine Ex (by decide) ?_;rw[hK3];refine ag λK4 hK4=>?_;walk_at "rd";refine⟨by rw[E7];omega,λd=>match d with | .tup [n,.int w]=>some (.tup [n,.int (0-w)]) | _=>none,λx hx=>?_,?_⟩
   ·obtain⟨t,_,rfl⟩:=E8.mp hx;exact⟨rfl,rfl⟩
   have e1:(ts.map EK).filterMap (λd=>match d with | .tup [n,.int w]=>some (D.tup [n,.int (0-w)]) | _=>none)=(pV ts).map EK:=by
    unfold pV;rw[FL];exact aH _ _ _ _ λt _=>by show some (D.tup [.str t.1,.int (0-t.2)])=some (D.tup [.str t.1,.int (-t.2)]);rw[Int.zero_sub]
   rw[e1,hK4];walk_at "rd";have q:R (.lst [.lst [.tup [.str (kdS k.op),.tup ((pV ts).map EK),.int (-b)]]]):=q;rw[<- Int.zero_sub] at q
   cases k with
   | least=>exact q
   | more=>exact q
 | nt s =>
  unfold EW.D;have hd:s.dep+1<=n+1:=hd;refine ag λK1 hK1=>?_;walk_at "rd";refine⟨s,!t,names,rfl,by omega,ok,nl,h4,h3,q⟩
 | bo s u =>
  unfold EW.D;have hd:max s.dep u.dep+1<=n+1:=hd;have hp:=(s.pl (!t)).num_pos;have hp':=(u.pl (!t)).num_pos;have hq:=(s.pl (!t)).long_pos;have hq':=(u.pl (!t)).long_pos;have fw:(s.pl (!t)).num<=4/\(s.pl (!t)).long<=3/\(u.pl (!t)).num<=4/\(u.pl (!t)).long<=3:=by
   cases t<;>simp only[EW.pl,Bool.not_true,Bool.not_false,if_true,if_false,reduceCtorEq,EW.num,EW.long] at h4 h3 hp hp' hq hq' ⊢
   ·refine⟨?_,?_,?_,?_⟩<;>first | omega | exact Fa (Gu _ hp') h4 | exact Fa (GF _ hp) h4
   ·refine⟨?_,?_,?_,?_⟩<;>first | omega | exact Fa (Gu _ hp') h4 | exact Fa (GF _ hp) h4
  obtain⟨fa,fb,fc,fd⟩:=fw;have la:=oK fa;have lb:=oK fc;have ga:∀c∈(s.pl (!t)).kr,c.length<=3:=λc hc=>Fa (EW.kr_long EW.pl_pn hc) fb;have gb:∀c∈(u.pl (!t)).kr,c.length<=3:=λc hc=>Fa (EW.kr_long EW.pl_pn hc) fd;refine ag λK1 hK1=>?_;walk_at "rd";refine Ex (by decide) ?_;rw[hK1];refine ag λK2 hK2=>?_;refine mq λI1 I2 hI1 hI2=>?_;walk_at "rd";rw[hI1];refine ag λK3 hK3=>?_;walk_at "rd";refine⟨s,t,names,rfl,by omega,ok.1,nl,fa,fb,?_⟩;walk_at "rd";rw[hK3];refine ag λK4 hK4=>?_;walk_at "rd";refine⟨u,t,names,rfl,by omega,ok.2,nl,fc,fd,?_⟩;walk_at "rd";rw[hK4];have q1:t=false->R (krD ((s.pl (!t)).kr++(u.pl (!t)).kr)):=λe=>by subst e;exact q
  have q2:t=true->R (krD ((s.pl (!t)).kr.flatMap λc=>(u.pl (!t)).kr.map λd=>c++d)):=λe=>by subst e;exact q
  generalize (s.pl (!t)).kr=A at *
  generalize (u.pl (!t)).kr=B at *
  refine ag λK5 hK5=>?_;refine mq λI3 I4 hI3 hI4=>?_;walk_at "rd"
  cases t with
  | false =>
   refine ifp (by decide) ?_;rw[hI3];unfold krD;walk_at "rd";refine⟨by rw[E7,E7];omega,?_⟩;have:=q1 rfl;unfold krD at this;rw[Fv] at this;exact this
  | true =>
   refine Ex (by decide) ?_;rw[hI4];walk_at "rd";rw[hK5];refine ag λK6 hK6=>?_;walk_at "rd";rw[hK6];refine ag λK7 hK7=>?_;refine cD λF N hF hN=>?_;walk_at "rd";simp only[eL];unfold krD;walk_at "rd";refine⟨λi δ=>∃x,δ=[_,.dat (.bl _),.dat (.lst (A.map λc=>.lst (c.map EJ))),.dat (.lst (B.map λc=>.lst (c.map EJ))),.dat (.lst (((A.take i).flatMap λc=>B.map λd=>c++d).map λc=>.lst (c.map EJ))),x,.no],⟨_,rfl⟩,?_,?_⟩
   ·rintro i d δ hd ⟨x,rfl⟩;obtain⟨c,hc,rfl⟩:=oW hd;have hcm:=Fm hc;have l3:=ga c hcm;have hil:=(List.getElem?_eq_some_iff.mp hc).1;rw[hF];walk_at "rd";refine⟨by rw[E7];omega,λd=>match d with | .lst e=>some (.lst (c.map EJ++e)) | _=>none,λx hx=>?_,?_⟩
    ·obtain⟨e,he,rfl⟩:=E8.mp hx;have:=gb e he;walk_at "rd";rw[E7,E7];omega
    ·have e1:(B.map λc=>D.lst (c.map EJ)).filterMap (λd=>match d with | .lst e=>some (.lst (c.map EJ++e)) | _=>none)=(B.map λd=>c++d).map λc=>D.lst (c.map EJ):=by
      rw[FL];exact aH _ _ _ _ λx _=>by show some (D.lst (c.map EJ++x.map EJ))=some (D.lst ((c++x).map EJ));rw[Fv]
     rw[e1,<- Fv,aC hc,GD,GY];refine⟨?_,rfl⟩;have:=sV (λc d=>c++d) B (A.take i);rw[E7,E7,E7,this,FI];have:min i A.length*B.length<=4*4:=Ha (by omega) lb;omega
   ·rintro δ ⟨x,rfl⟩;rw[E7,Fw,hN,hK7];walk_at "rd";exact q2 rfl
 | ei s u =>
  unfold EW.D;have hd:max s.dep u.dep+1<=n+1:=hd;have hp:=(s.pl (!t)).num_pos;have hp':=(u.pl (!t)).num_pos;have hq:=(s.pl (!t)).long_pos;have hq':=(u.pl (!t)).long_pos;have fw:(s.pl (!t)).num<=4/\(s.pl (!t)).long<=3/\(u.pl (!t)).num<=4/\(u.pl (!t)).long<=3:=by
   cases t<;>simp only[EW.pl,Bool.not_true,Bool.not_false,if_true,if_false,reduceCtorEq,EW.num,EW.long] at h4 h3 hp hp' hq hq' ⊢
   ·refine⟨?_,?_,?_,?_⟩<;>first | omega | exact Fa (Gu _ hp') h4 | exact Fa (GF _ hp) h4
   ·refine⟨?_,?_,?_,?_⟩<;>first | omega | exact Fa (Gu _ hp') h4 | exact Fa (GF _ hp) h4
  obtain⟨fa,fb,fc,fd⟩:=fw;have la:=oK fa;have lb:=oK fc;have ga:∀c∈(s.pl (!t)).kr,c.length<=3:=λc hc=>Fa (EW.kr_long EW.pl_pn hc) fb;have gb:∀c∈(u.pl (!t)).kr,c.length<=3:=λc hc=>Fa (EW.kr_long EW.pl_pn hc) fd;refine ag λK1 hK1=>?_;walk_at "rd";refine Ex (by decide) ?_;rw[hK1];refine ag λK2 hK2=>?_;refine mq λI1 I2 hI1 hI2=>?_;walk_at "rd";refine Ex (by decide) ?_;rw[hI1];refine ag λK3 hK3=>?_;walk_at "rd";refine⟨s,t,names,rfl,by omega,ok.1,nl,fa,fb,?_⟩;walk_at "rd";rw[hK3];refine ag λK4 hK4=>?_;walk_at "rd";refine⟨u,t,names,rfl,by omega,ok.2,nl,fc,fd,?_⟩;walk_at "rd";rw[hK4];have q1:t=true->R (krD ((s.pl (!t)).kr++(u.pl (!t)).kr)):=λe=>by subst e;exact q
  have q2:t=false->R (krD ((s.pl (!t)).kr.flatMap λc=>(u.pl (!t)).kr.map λd=>c++d)):=λe=>by subst e;exact q
  generalize (s.pl (!t)).kr=A at *
  generalize (u.pl (!t)).kr=B at *
  refine ag λK5 hK5=>?_;refine mq λI3 I4 hI3 hI4=>?_;walk_at "rd"
  cases t with
  | true =>
   refine ifp (by decide) ?_;rw[hI3];unfold krD;walk_at "rd";refine⟨by rw[E7,E7];omega,?_⟩;have:=q1 rfl;unfold krD at this;rw[Fv] at this;exact this
  | false =>
   refine Ex (by decide) ?_;rw[hI4];walk_at "rd";rw[hK5];refine ag λK6 hK6=>?_;walk_at "rd";rw[hK6];refine ag λK7 hK7=>?_;refine cD λF N hF hN=>?_;walk_at "rd";simp only[eL];unfold krD;walk_at "rd";refine⟨λi δ=>∃x,δ=[_,.dat (.bl _),.dat (.lst (A.map λc=>.lst (c.map EJ))),.dat (.lst (B.map λc=>.lst (c.map EJ))),.dat (.lst (((A.take i).flatMap λc=>B.map λd=>c++d).map λc=>.lst (c.map EJ))),x,.no],⟨_,rfl⟩,?_,?_⟩
   ·rintro i d δ hd ⟨x,rfl⟩;obtain⟨c,hc,rfl⟩:=oW hd;have hcm:=Fm hc;have l3:=ga c hcm;have hil:=(List.getElem?_eq_some_iff.mp hc).1;rw[hF];walk_at "rd";refine⟨by rw[E7];omega,λd=>match d with | .lst e=>some (.lst (c.map EJ++e)) | _=>none,λx hx=>?_,?_⟩
    ·obtain⟨e,he,rfl⟩:=E8.mp hx;have:=gb e he;walk_at "rd";rw[E7,E7];omega
    ·have e1:(B.map λc=>D.lst (c.map EJ)).filterMap (λd=>match d with | .lst e=>some (.lst (c.map EJ++e)) | _=>none)=(B.map λd=>c++d).map λc=>D.lst (c.map EJ):=by
      rw[FL];exact aH _ _ _ _ λx _=>by show some (D.lst (c.map EJ++x.map EJ))=some (D.lst ((c++x).map EJ));rw[Fv]
     rw[e1,<- Fv,aC hc,GD,GY];refine⟨?_,rfl⟩;have:=sV (λc d=>c++d) B (A.take i);rw[E7,E7,E7,this,FI];have:min i A.length*B.length<=4*4:=Ha (by omega) lb;omega
   ·rintro δ ⟨x,rfl⟩;rw[E7,Fw,hN,hK7];walk_at "rd";exact q2 rfl
def cy(Z:Zz):Z.C 61 "_law_cases" ["_law_saying","_law_so_here"] (E2 Z.K (bQ 60)):=Nat.rec (motive:=λn=>Z.C (1+n) "_law_cases" ["_law_saying","_law_so_here"] (E2 Z.K (bQ n))) (ip Z.x40 _ fT) (λ_=>jo Z) 60
def Sh(rows:List Rw)(w:List Int):Prop:=w.length=rows.length/\(∀a∈w,0<=a)/\(∀n,cfs (rows.zip w) n=0)/\(0<bds (rows.zip w)\/(bds (rows.zip w)=0/\EU (rows.zip w)=true))
def ou.sh{w:List Int}(h:ou rows w):Sh rows w:=⟨h.wt.len,h.wt.nn,h.no,h.bd⟩
noncomputable def shB (rows:List Rw) (w:List Int):Bool:=@decide (Sh rows w) (Classical.propDecidable _)
def eW{w:List Int}:shB rows w=true↔Sh rows w:=@decide_eq_true_iff _ (Classical.propDecidable _)
inductive cL(ds:List D)(R:D->Prop):Prop
 | mk (rows:List Rw) (S:List Str) (w:List Int) (hh:ds=[.lst (rows.map EJ),.tup (w.map D.int)]/\S.length<=60/\(∀r∈rows,AA S 60000 r)/\(∀a∈w,ib a<=60000)/\R (.bl (shB rows w)))
def dA:∀ds R,cL ds R->ds.length=2:=λ_ _ ⟨_,_,_,e,_⟩=>by rw[e];rfl
theorem aF:aA ["_law_rows","_law_weights","_law_sums","_law_bound","_law_strict","_law_row","_law_many","_law_name","_law_weight"] ["_law_rows","_law_weights"] (ap s__law_weights_good):=by walk_at "sc"
theorem ee(Z:Zz):Z.C 2 "_law_weights_good" ["_law_rows","_law_weights"] (E2 Z.K cL):=by
 refine cF Z.x41 aF dA λfa cdv A outer s H E ds R hr h=>?_;have hU:=hr.units;refine⟨_,(ad (aM (DW.dt (kn (fu (cj (kb ky rfl Z.x60 rfl Z.x52 a7 (ak 1)))) (fG (aD (gS hU) (aG ce rfl Z.x53 bU (ac (ak 1) ae)) (aG ce rfl Z.x53 bU (ac (ak 0) ae)) (av _))))) (af (au cc)) aB) (ad (lm 2 aF.nd) (ad (aw 3 aF.nd am) (ad (aw 4 aF.nd cc) (ad (eR Fy rfl (gv true false rfl Z.x55 (ac (ak 0) (ac (ak 1) ae))) (bL (n:=2) rfl (ay (aq 5 aF.nd) (ay (aq 6 aF.nd) aW))) (ad (aM (DW.dt (kn (fu (cj (ar (jQ Z) (rm hr) rfl (ac (ak 6) ae)))) (fG (aD uR (ak 6) am (av _))))) (af (au cc)) aB) (ad (jp Fy rfl (EZ 5) (bL (n:=2) rfl (ay (aq 7 aF.nd) (ay (aq 8 aF.nd) aW))) (af (f9 2 hU (ax aL (ub 2 hU (ak 7) am) (ax bT (ak 6) (ak 8))) (ak 7)))) (ad (aw 3 aF.nd (ax aL (ak 3) (ax bT (ak 6) (EZ 5)))) (af (aw 4 aF.nd (vd (ak 4) (d8 (jn (cm (dy hU) (EZ 5) aE (av _)) (d8 (cm uH (ak 6) am (av _)))))))))))) (iO 2 (ad (aM (aD uH (aG ce rfl Z.x53 bU (ac (bx ["_law_name"] [(2,"_law_sums")] rfl rfl (by decide +kernel) rfl (by decide +kernel) (a8 ⟨rfl,trivial⟩) (λ_=>be rfl) (aP ⟨⟨rfl,rfl,.inl rfl⟩,trivial⟩) (Bw (ak 2)) λ_ _ _ _ _=>⟨(aq 0 (show List.Nodup (["_law_name","_law_sums"]:List Str) by decide +kernel)),(gk (aD (gS hU) (dQ hU (ak 1) (ak 0) (λ_ _=>rfl)) am (av _))),(ak 0)⟩) ae)) am (av _)) (af (au cc)) aB) (af (au (vd (cm uH (ak 3) am (av _)) (d8 (jn (cm (dy hU) (ak 3) am (av _)) (d8 (ak 4)))))))))))))),?_⟩;obtain⟨rows,S,w,rfl,hS,hr,hw,q⟩:=h;refine ag λK1 hK1=>?_;walk_at "rd";rw[E7,E7];refine cR (λhl=>?_) λhl=>?_
 ·have e:shB rows w=false:=GC.mpr λz=>hl (by rw[(eW.mp z).1])
  rw[e] at q;exact q
 have hl:w.length=rows.length:=by have:=GB.mp hl;omega
 rw[hK1];refine ag λK2 hK2=>?_;walk_at "rd";intro da;rw[hK2];refine ag λK3 hK3=>?_;walk_at "rd";rw[hK3];refine ag λK4 hK4=>?_;walk_at "rd";rw[hK4];refine ag λK5 hK5=>?_;refine de λB N hB hN=>?_;walk_at "rd";simp only[jw];walk_at "rd";rw[pX];have hl1:∀p∈rows.zip w,AA S 60000 p.1/\ib p.2<=60000:=λp hp=>⟨hr _ (FA hp).1,hw _ (FA hp).2⟩;have hlw:∀p∈rows.zip w,p.2∈w:=λp hp=>(FA hp).2;have hww:∀a∈w,∃p∈rows.zip w,p.2=a:=λa ha=>by
  obtain⟨i,hi⟩:=List.getElem?_of_mem ha;have hiw:=(List.getElem?_eq_some_iff.mp hi).1;refine⟨(rows[i]'(by omega),a),Fm (i:=i) ?_,rfl⟩;rw[List.getElem?_zip_eq_some];exact⟨List.getElem?_eq_getElem (by omega),hi⟩
 have dec:∀b:Bool,(b=true↔Sh rows w)->R (.bl b):=λb hb=>by
  rw[GQ.mpr (hb.trans eW.symm)];exact q
 have shl:Sh rows w↔(∀p∈rows.zip w,0<=p.2)/\(∀n,cfs (rows.zip w) n=0)/\(0<bds (rows.zip w)\/(bds (rows.zip w)=0/\EU (rows.zip w)=true)):=by
  constructor
  ·rintro⟨_,h1,h2,h3⟩;exact⟨λp hp=>h1 _ (hlw p hp),h2,h3⟩
  ·rintro⟨h1,h2,h3⟩;exact⟨hl,λa ha=>by obtain⟨p,hp,rfl⟩:=hww a ha;exact h1 p hp,h2,h3⟩
 rw[shl] at dec;clear q shl hww hlw;generalize rows.zip w=l at *
 refine⟨λi δ=>∃ks u v w' z,δ=[.dat (.lst (rows.map EJ)),.dat (.tup (w.map D.int)),.own da (.dct ks (ks.map λn=>.int (cfs (l.take i) n))),.dat (.int (bds (l.take i))),.dat (.bl (EU (l.take i))),u,v,w',z]/\ks.Nodup/\(∀n∈ks,n∈S)/\(∀n,n∉ks->cfs (l.take i) n=0)/\∀p∈l.take i,0<=p.2,
  ⟨[],_,_,_,_,rfl,List.nodup_nil,(λn h=>nomatch h),(λn h=>rfl),λp hp=>by simp at hp⟩,?_,?_⟩
 ·rintro i d δ hd ⟨ks,u,v,w',z,rfl,nd,hs,h0,hp0⟩;rw[List.getElem?_map] at hd
  cases hn:l[i]? with
  | none=>rw[hn] at hd;cases hd
  | some p =>
   rw[hn] at hd
   cases hd
   obtain⟨⟨k,ts,b⟩,c⟩:=p;have hpm:=Fm hn;obtain⟨ok,bc⟩:=hl1 _ hpm;have htk:=aC hn;rw[hB];show gN _ _ (.tup [.tup [.str (kdS k),.tup (ts.map EK),.int b],.int c]) _ _;refine bD λK6 hK6=>?_;walk_at "rd";refine⟨c,rfl,?_⟩;walk_at "rd";refine cR (λhc=>?_) λhc=>?_
   ·exact dec false ⟨(λz=>nomatch z),λz=>absurd (z.1 _ hpm) (by show ¬ 0<=c;omega)⟩
   rw[hK6];refine ag λK7 hK7=>?_;walk_at "rd";simp only[rc];walk_at "rd"
   refine⟨λj δ=>∃ks w' z,δ=[.dat (.lst (rows.map EJ)),.dat (.tup (w.map D.int)),.own da (.dct ks (ks.map λn=>.int (cfs (l.take i) n+c*cf (ts.take j) n))),.dat (.int (bds (l.take i))),.dat (.bl (EU (l.take i))),.dat (.tup [.str (kdS k),.tup (ts.map EK),.int b]),.dat (.int c),w',z]/\ks.Nodup/\(∀n∈ks,n∈S)/\∀n,n∉ks->cfs (l.take i) n+c*cf (ts.take j) n=0,
    ⟨ks,w',z,by simp only[List.take_zero,cf,Int.mul_zero,Int.add_zero],nd,hs,λn hn=>by rw[h0 n hn,G8];show 0+c*0=0;omega⟩,?_,?_⟩
   ·rintro j d δ hd ⟨ks,w',z,rfl,nd,hs,h0⟩;obtain⟨t,ht,rfl⟩:=dO hd;have htm:=Fm ht;have hj:=aC ht;walk_at "rd";rw[oY (h0 t.1)];walk_at "rd";refine⟨mo2 bc (ok.bw t htm),by have:=gL nd hs;omega,?_,m7 nd,λn hn=>?_,λn hn=>?_⟩
    ·have e:∀n,cfs (l.take i) n+c*cf (ts.take (j+1)) n=(cfs (l.take i) n+c*cf (ts.take j) n)+c*(if t.1=n then t.2 else 0):=λn=>by
      rw[hj,l6,Hu];show _+(_+c*((if t.1=n then t.2 else 0)+0))=_;rw[Gw,HE]
     have:=tZ (ks:=ks) (x:=t.1) (f:=λn=>D.int (cfs (l.take i) n+c*cf (ts.take j) n)) (g:=λn=>D.int (cfs (l.take i) n+c*cf (ts.take (j+1)) n)) (λn hn=>by rw[e,Fp (λz=>hn z.symm),HR,Gw])
     rw[<- this,e,Fs rfl]
    ·rcases hZ.mp hn with h | h
     ·exact hs n h
     ·rw[h];exact ok.sub t htm
    ·rw[hZ,not_or] at hn;rw[hj,l6,Hu,<- HE,h0 n hn.1];show 0+c*((if t.1=n then t.2 else 0)+0)=0;rw[Fp (λz=>hn.2 z.symm)];omega
   ·rintro δ ⟨ks,w',z,rfl,nd,hs,h0⟩;have e1:ts.take (ts.map EK).length=ts:=by rw[E7,Fw]
    rw[e1] at h0 ⊢;rw[hK7];walk_at "rd";have e2:∀n,cfs (l.take (i+1)) n=cfs (l.take i) n+c*cf ts n:=λn=>by
     rw[htk,iQ];show _+(c*cf ts n+0)=_;rw[Gw]
    have e3:bds (l.take (i+1))=bds (l.take i)+c*b:=by
     rw[htk,jb];show _=_+c*b;show _+(c*b+0)=_;rw[Gw]
    have e4:EU (l.take (i+1))=(EU (l.take i)||(isM k&&decide (0<c))):=by rw[htk,i9,mW]
    have e5:∀p∈l.take (i+1),0<=p.2:=λp hp=>by
     rw[htk] at hp
     rcases Fk.mp hp with h | h
     ·exact hp0 p h
     ·rw[Fn.mp h];show 0<=c;omega
    simp only[e2,e3,e4];refine⟨mo2 bc ok.bb,cR (λh1=>⟨trivial,trivial,?_,nd,hs,h0,e5⟩) λh1=>cR (λh2=>⟨trivial,trivial,?_,nd,hs,h0,e5⟩) λh2=>⟨trivial,trivial,?_,nd,hs,h0,e5⟩⟩
    ·rw[h1];rfl
    ·have:isM k=true:=by cases k with | least=>exact absurd h2 (by decide) | more=>rfl
     rw[GC.mpr h1,this];rfl
    ·have:isM k=false:=by cases k with | least=>rfl | more=>exact absurd rfl h2
     rw[GC.mpr h1,this];rfl
 ·rintro δ ⟨ks,u,v,w',z,rfl,nd,hs,h0,hp0⟩;rw[E7,Fw] at h0 hp0 ⊢;rw[hN,hK5];walk_at "rd";have hk:=gL nd hs;refine⟨by rw[E7];omega,λd=>match d with | .str n=>if cfs l n≠0 then some (.str n) else none | _=>none,λx hx=>?_,?_⟩
  ·obtain⟨n,hn,rfl⟩:=E8.mp hx;walk_at "rd";refine⟨_,cG (λn=>D.int (cfs l n)) hn,?_⟩;walk_at "rd";refine cR (λhz=>?_) λhz=>?_
   ·rw[Fs hz]
   ·rw[Fp hz]
  ·have e:∀ks:List Str,(0<((ks.map D.str).filterMap (λd=>match d with | .str n=>if cfs l n≠0 then some (D.str n) else none | _=>none)).length)↔∃n∈ks,cfs l n≠0:=λks=>by
    rw[List.length_pos_iff_exists_mem]
    constructor
    ·rintro⟨d,hd⟩;obtain⟨x,hx,e⟩:=List.mem_filterMap.mp hd;obtain⟨n,hn,rfl⟩:=E8.mp hx;refine⟨n,hn,λz=>?_⟩;simp only[z,ne_eq,not_true_eq_false,if_false,reduceCtorEq] at e
    ·rintro⟨n,hn,z⟩;exact⟨.str n,List.mem_filterMap.mpr ⟨.str n,E8.mpr ⟨n,hn,rfl⟩,by simp only;rw[Fs z]⟩⟩
   refine cR (λhz=>?_) λhz=>?_
   ·obtain⟨n,_,z⟩:=(e ks).mp (by omega);exact dec false ⟨(λz=>nomatch z),λy=>absurd (y.2.1 n) z⟩
   have all:∀n,cfs l n=0:=λn=>by
    by_cases hn:n∈ks
    ·exact Ff λz=>hz (by have:=(e ks).mpr ⟨n,hn,z⟩;omega)
    ·exact h0 n hn
   refine cR (λh1=>dec true ⟨λ_=>⟨hp0,all,.inl h1⟩,λ_=>rfl⟩) λh1=>cR (λh2=>dec _ ⟨λz=>⟨hp0,all,.inr ⟨h2,z⟩⟩,λz=>?_⟩) λh2=>dec false ⟨(λz=>nomatch z),λz=>?_⟩
   ·rcases z.2.2 with y | y
    ·exact absurd y h1
    ·exact y.2
   ·rcases z.2.2 with y | y
    ·exact absurd y h1
    ·exact absurd y.1 h2
abbrev Ppr:=List (List (List Int))
def ppD(P:Ppr):D:=.tup (P.map λl=>.tup (l.map λw=>.tup (w.map D.int)))
noncomputable def lnB (c:List Rw) (B:List (List Rw)) (l:List (List Int)):Bool:=decide (l.length=B.length)&&(B.zip l).all λp=>shB (c++p.1) p.2
noncomputable def ppB (A B:List (List Rw)) (P:Ppr):Bool:=decide (P.length=A.length)&&(A.zip P).all λp=>lnB p.1 B p.2
inductive dl(ds:List D)(R:D->Prop):Prop
 | mk (a b:EW) (S:List Str) (P:Ppr) (hh:ds=[a.D,b.D,ppD P]/\a.dep<=50/\b.dep<=50/\a.ok S/\b.ok S/\S.length<=60/\(a.pl false).num<=4/\(a.pl false).long<=3/\(b.pl false).num<=4/\(b.pl false).long<=3/\(∀l∈P,∀w∈l,∀z∈w,ib z<=60000)/\R (.bl (ppB (a.pl false).kr (b.pl false).kr P)))
def dY:∀ds R,dl ds R->ds.length=3:=λ_ _ ⟨_,_,_,_,e,_⟩=>by rw[e];rfl
theorem mU{S:List Str}:∀ {s:EW},s.ok S->s.bt 10000
 | .row _ _ _,o=>⟨o.1.bits,o.2⟩
 | .nt s,o=>mU (s:=s) o
 | .bo s t,o=>⟨mU o.1,mU o.2⟩
 | .ei s t,o=>⟨mU o.1,mU o.2⟩
theorem wJ{P:Ppr}:mO (A.map λc=>.lst (c.map EJ)) (P.map λl=>.tup (l.map λw=>.tup (w.map D.int)))=(A.zip P).map λp=>D.tup [.lst (p.1.map EJ),.tup (p.2.map λw=>.tup (w.map D.int))]:=by
 unfold mO;rw[HA,List.zip,GW]
theorem xn{l:List (List Int)}:mO (B.map λc=>.lst (c.map EJ)) (l.map λw=>.tup (w.map D.int))=(B.zip l).map λp=>D.tup [.lst (p.1.map EJ),.tup (p.2.map D.int)]:=by
 unfold mO;rw[HA,List.zip,GW]
theorem ik{α:Type}{p:α->Bool}{l:List α}{i:Nat}{x:α}(h:l[i]?=some x)(hf:p x=false):l.all p=false:=by
 refine GC.mpr λz=>?_;have:=Gr.mp z x (Fm h);rw[hf] at this;cases this
theorem aN:aA ["_law_one","_law_other","_law_paper","_law_ones","_law_others","_law_first","_law_line_here","_law_second","_law_weights"] ["_law_one","_law_other","_law_paper"] (ap s__law_paper_good):=by walk_at "sc"
theorem cM(Z:Zz):Z.C 62 "_law_paper_good" ["_law_one","_law_other","_law_paper"] (E2 Z.K dl):=by
 refine cF Z.x42 aN dY λfa cdv A outer s H E ds R hr h=>?_;have hU:=hr.units;refine⟨_,(ad (aw 3 aN.nd (ar (cy Z) (rm hr) rfl (ac (ak 0) (ac cc ae)))) (ad (aw 4 aN.nd (ar (cy Z) (rm hr) rfl (ac (ak 1) (ac cc ae)))) (ad (aM (DW.dt (kn (fu (cj (kb ky rfl Z.x60 rfl Z.x52 a7 (ak 2)))) (fG (aD (gS hU) (aG ce rfl Z.x53 bU (ac (ak 2) ae)) (aG ce rfl Z.x53 bU (ac (ak 3) ae)) (av _))))) (af (au cc)) aB) (ad (eR Fy rfl (gv true false rfl Z.x55 (ac (ak 3) (ac (ak 2) ae))) (bL (n:=2) rfl (ay (aq 5 aN.nd) (ay (aq 6 aN.nd) aW))) (ad (aM (DW.dt (kn (fu (cj (kb ky rfl Z.x60 rfl Z.x52 a7 (ak 6)))) (fG (aD (gS hU) (aG ce rfl Z.x53 bU (ac (ak 6) ae)) (aG ce rfl Z.x53 bU (ac (ak 4) ae)) (av _))))) (af (au cc)) aB) (af (eR Fy rfl (gv true false rfl Z.x55 (ac (ak 4) (ac (ak 6) ae))) (bL (n:=2) rfl (ay (aq 7 aN.nd) (ay (aq 8 aN.nd) aW))) (af (aM (fu (cj (ar (ee Z) (rm hr) rfl (ac (ax aL (ak 5) (ak 7)) (ac (ak 8) ae))))) (af (au cc)) aB)))))) (af (au cc)))))),?_⟩;obtain⟨a,b,S,P,rfl,da,db,oa,ob,hS,na,la,nb,lb,hw,q⟩:=h;refine ag λK1 hK1=>?_;walk_at "rd";refine⟨a,true,S,rfl,by omega,oa,hS,na,la,?_⟩;walk_at "rd";rw[hK1];refine ag λK2 hK2=>?_;walk_at "rd";refine⟨b,true,S,rfl,by omega,ob,hS,nb,lb,?_⟩;walk_at "rd";rw[hK2];show AB _ _ _ [.dat a.D,.dat b.D,.dat (ppD P),.dat (krD (a.pl false).kr),.dat (krD (b.pl false).kr),.no,.no,.no,.no];have ra:=λc hc r hr=>EW.kr_row (B:=10000) (EW.pl_ok (t:=false) oa) (EW.pl_bt (mU oa)) c hc r hr;have rb:=λc hc r hr=>EW.kr_row (B:=10000) (EW.pl_ok (t:=false) ob) (EW.pl_bt (mU ob)) c hc r hr
 have ga:∀c∈(a.pl false).kr,c.length<=3:=λc hc=>Fa (EW.kr_long EW.pl_pn hc) la
 have gb:∀c∈(b.pl false).kr,c.length<=3:=λc hc=>Fa (EW.kr_long EW.pl_pn hc) lb
 generalize (a.pl false).kr=A at *
 generalize (b.pl false).kr=B at *
 unfold ppD krD;refine ag λK3 hK3=>?_;walk_at "rd";rw[E7,E7];refine cR (λhl=>?_) λhl=>?_
 ·have e:ppB A B P=false:=by unfold ppB;rw[FR (by omega)];rfl
  rw[e] at q;exact q
 have hl:P.length=A.length:=by have:=GB.mp hl;omega
 rw[hK3];refine ag λK4 hK4=>?_;refine de λF N hF hN=>?_;walk_at "rd";simp only[jw];walk_at "rd";rw[wJ];have hq:R (.bl ((A.zip P).all λp=>lnB p.1 B p.2)):=by
  unfold ppB at q;rw[FX hl,HF] at q;exact q
 have hz1:∀p∈A.zip P,p.1∈A/\p.2∈P:=λp hp=>⟨(FA hp).1,(FA hp).2⟩
 clear q;generalize hL:A.zip P=L at *;refine⟨λi δ=>∃x y z u,δ=[.dat a.D,.dat b.D,.dat (.tup (P.map λl=>.tup (l.map λw=>.tup (w.map D.int)))),.dat (.lst (A.map λc=>.lst (c.map EJ))),.dat (.lst (B.map λc=>.lst (c.map EJ))),x,y,z,u]/\∀p∈L.take i,lnB p.1 B p.2=true,⟨_,_,_,_,rfl,λp hp=>by simp at hp⟩,?_,?_⟩
 ·rintro i d δ hd ⟨x,y,z,u,rfl,ho⟩;rw[List.getElem?_map] at hd
  cases hn:L[i]? with
  | none=>rw[hn] at hd;cases hd
  | some p =>
   rw[hn] at hd
   cases hd
   obtain⟨c,l⟩:=p;have hpm:=Fm hn;obtain⟨m1,m2⟩:=hz1 _ hpm;have fail:lnB c B l=false->R (.bl false):=λe=>by
    rw[ik (p:=λp=>lnB p.1 B p.2) hn e] at hq;exact hq
   rw[hF];show gN _ _ (.tup [.lst (c.map EJ),.tup (l.map λw=>.tup (w.map D.int))]) _ _;refine bD λK5 hK5=>?_;walk_at "rd";rw[E7,E7];refine cR (λh1=>fail ?_) λh1=>?_
   ·unfold lnB;rw[FR (by omega)];rfl
   have h1:l.length=B.length:=by have:=GB.mp h1;omega
   rw[hK5];refine de λF2 N2 hF2 hN2=>?_;walk_at "rd";simp only[jw];walk_at "rd";rw[xn];have el:lnB c B l=(B.zip l).all λp=>shB (c++p.1) p.2:=by unfold lnB;rw[FX h1,HF]
   have hz2:∀p∈B.zip l,p.1∈B/\p.2∈l:=λp hp=>⟨(FA hp).1,(FA hp).2⟩
   generalize hL2:B.zip l=L2 at *
   refine⟨λj δ=>∃z u,δ=[.dat a.D,.dat b.D,.dat (.tup (P.map λl=>.tup (l.map λw=>.tup (w.map D.int)))),.dat (.lst (A.map λc=>.lst (c.map EJ))),.dat (.lst (B.map λc=>.lst (c.map EJ))),.dat (.lst (c.map EJ)),.dat (.tup (l.map λw=>.tup (w.map D.int))),z,u]/\∀p∈L2.take j,shB (c++p.1) p.2=true,⟨_,_,rfl,λp hp=>by simp at hp⟩,?_,?_⟩
   ·rintro j d δ hd ⟨z,u,rfl,ho2⟩;rw[List.getElem?_map] at hd
    cases hn2:L2[j]? with
    | none=>rw[hn2] at hd;cases hd
    | some p =>
     rw[hn2] at hd
     cases hd
     obtain⟨d,w⟩:=p;have hpm2:=Fm hn2;obtain⟨m3,m4⟩:=hz2 _ hpm2;have l1:=ga c m1;have l2:=gb d m3;rw[hF2];show gN _ _ (.tup [.lst (d.map EJ),.tup (w.map D.int)]) _ _;walk_at "rd";rw[<- Fv];refine⟨by rw[E7,E7];omega,c++d,S,w,rfl,hS,λr hr=>?_,hw l m2 w m4,?_⟩
     ·rcases Fk.mp hr with hr | hr
      ·obtain⟨t1,t2,t3,_⟩:=ra c m1 r hr;exact⟨λt ht=>t1.sub.subset (E8.mpr ⟨t,ht,rfl⟩),λt ht=>Fa (t2 t ht) (by decide),Fa t3 (by decide)⟩
      ·obtain⟨t1,t2,t3,_⟩:=rb d m3 r hr;exact⟨λt ht=>t1.sub.subset (E8.mpr ⟨t,ht,rfl⟩),λt ht=>Fa (t2 t ht) (by decide),Fa t3 (by decide)⟩
     ·cases es:shB (c++d) w with
      | false =>
       refine fail ?_;rw[el];exact ik (p:=λp=>shB (c++p.1) p.2) hn2 es
      | true =>
       walk_at "rd";intro p hp;rw[aC hn2] at hp
       rcases Fk.mp hp with z | z
       ·exact ho2 p z
       ·rw[Fn.mp z];exact es
   ·rintro δ ⟨z,u,rfl,ho2⟩;rw[E7,Fw] at ho2;rw[hN2];refine⟨_,_,_,_,rfl,λp hp=>?_⟩;rw[aC hn] at hp
    rcases Fk.mp hp with z | z
    ·exact ho p z
    ·rw[Fn.mp z,el];exact Gr.mpr ho2
 ·rintro δ ⟨x,y,z,u,rfl,ho⟩;rw[E7,Fw] at ho;rw[hN,hK4];walk_at "rd";rw[Gr.mpr ho] at hq;exact hq
theorem eZ{α β:Type}{g:α->β}:∀ {l:List α} {p:α×β},p∈l.zip (l.map g)->p.1∈l/\p.2=g p.1
 | x::l,p,h=>by
  rw[FJ,List.zip_cons_cons] at h
  rcases Fj.mp h with rfl | h
  ·exact⟨Fe ..,rfl⟩
  ·obtain⟨h1,h2⟩:=eZ h;exact⟨E9 _ h1,h2⟩
inductive gq(ds:List D)(R:D->Prop):Prop
 | mk (rows:List Rw) (S:List Str) (w:List Int) (hh:ds=[.lst (rows.map EJ),.tup (w.map D.int)]/\S.length<=60/\(∀r∈rows,AA S 900 r)/\(∀a∈w,ib a<=9000)/\rows.length<=6/\R (.bl (shB rows w)))
def gO:∀ds R,gq ds R->ds.length=2:=λ_ _ ⟨_,_,_,e,_⟩=>by rw[e];rfl
theorem fi:aA ["rows","weights","row"] ["rows","weights"] (ap s_shows_none):=by walk_at "sc"
theorem jI(Z:Zz):Z.C 65 "shows_none" ["rows","weights"] (E2 Z.K gq):=by
 refine cF Z.x43 fi gO λfa cdv A outer s H E ds R hr h=>?_;have hU:=hr.units;refine⟨_,(ad (aM (DW.dt (kn (aD (gS hU) (aG ce rfl Z.x53 bU (ac (ak 1) ae)) (aG ce rfl Z.x53 bU (ac (ak 0) ae)) (av _)) (fG (cj (aG (C5 rfl) rfl Z.x63 Di (ac (bx ["often"] [] rfl rfl (by decide +kernel) rfl (by decide +kernel) (a8 trivial) (λ_=>be rfl) (aP trivial) (gm (ak 1)) λ_ _ _ _ _=>⟨(aq 0 (show List.Nodup (["often"]:List Str) by decide +kernel)),b8,(cm uR (ak 0) am (av _))⟩) ae)))))) (af (au cc)) aB) (ad (aw 2 fi.nd (ar (ma Z) (rm hr) rfl (ac (ak 0) (ac (ak 1) ae)))) (af (au (jn (cm (C0 hU) (EZ 2) (aK ae) (av _)) (d8 (lL (ar (lZ Z) (rm hr) rfl (ac (ak 2) (ac lH ae)))))))))),?_⟩;obtain⟨rows,S,w,rfl,hS,hr,hw,h60,q⟩:=h;refine ag λK1 hK1=>?_;walk_at "rd";rw[E7,E7];refine cR (λhl=>?_) λhl=>?_
 ·have e:shB rows w=false:=GC.mpr λz=>hl (by rw[(eW.mp z).1])
  rw[e] at q;exact q
 have hl:w.length=rows.length:=by have:=GB.mp hl;omega
 refine⟨by omega,λd=>match d with | .int z=>some (.bl (decide (z<0))) | _=>none,λx hx=>?_,w.map (λz=>decide (z<0)),?_,?_⟩
 ·obtain⟨z,hz,rfl⟩:=E8.mp hx;exact⟨rfl,rfl⟩
 ·rw[aH _ D.int (λz=>D.bl (decide (z<0))) _ (by intro _ _;rfl),FL];rfl
 refine cR (λhn=>?_) λhn=>?_
 ·have e:shB rows w=false:=GC.mpr λz=>by
   obtain⟨b,hb,e⟩:=List.any_eq_true.mp hn;obtain⟨a,ha,rfl⟩:=E8.mp hb;have h1:=(eW.mp z).2.1 a ha;have h2:a<0:=of_decide_eq_true e;omega
  rw[e] at q;exact q
 have nn:∀a∈w,0<=a:=λa ha=>Ff λz=>hn (List.any_eq_true.mpr ⟨true,E8.mpr ⟨a,ha,FX (by omega)⟩,rfl⟩)
 rw[hK1];refine ag λK2 hK2=>?_;walk_at "rd";refine⟨rows,w,S,rfl,hS,λr z=>⟨(hr r z).sub,λt ht=>Fa ((hr r z).bw t ht) (by decide),Fa (hr r z).bb (by decide)⟩,λa ha=>Fa (hw a ha) (by decide),λts hts=>?_⟩;walk_at "rd";rw[hK2];unfold j3;walk_at "rd";rw[E7];refine cR (λh0=>?_) λh0=>?_
 ·cases Gq h0
  have bb:ib (bds (rows.zip w))<=10000:=by
   have:=kZ (B:=900) (W:=9000) (l:=rows.zip w) λp hp=>⟨(hr _ (FA hp).1).bb,hw _ (FA hp).2⟩
   rw[Gj] at this;omega
  refine⟨EW.row (kOf (EU (rows.zip w))) [] (bds (rows.zip w)),[],[],[],0,1,rfl,by show 1<=60;decide,⟨⟨by simp,(λ_ h=>nomatch h),(λ_ h=>nomatch h)⟩,bb⟩,by decide,(λ_ h=>nomatch h),⟨rfl,(λ_ h=>nomatch h),(λ_ h=>nomatch h),(λ_ h=>nomatch h)⟩,by decide,by show ib 1<=1;decide,by decide,?_⟩;have e1:(EW.row (kOf (EU (rows.zip w))) [] (bds (rows.zip w))).tv (pT [] []) (pB [] [])=so0 (rows.zip w):=by
   show oh _ 0 (bds (rows.zip w)*1)=_
   rw[Int.mul_one];rfl
  rw[e1];walk_at "rd";have e2:shB rows w=!so0 (rows.zip w):=by
   rw[GQ,eW];have z:(0<bds (rows.zip w)\/(bds (rows.zip w)=0/\EU (rows.zip w)=true))↔(!so0 (rows.zip w))=true:=by
    unfold so0
    cases EU (rows.zip w)
    ·show _↔(!decide (bds (rows.zip w)<=0))=true
     simp
    ·show _↔(!decide (bds (rows.zip w)<0))=true
     simp;omega
   rw[<- z];exact⟨λh=>h.2.2.2,λh=>⟨hl,nn,(λn=>Ff λy=>(nomatch hts.all n y)),h⟩⟩
  rw[<- e2];exact q
 ·have e:shB rows w=false:=GC.mpr λz=>h0 (by
   cases ts with
   | nil=>rfl
   | cons t r=>exact absurd ((eW.mp z).2.2.1 t.1) (by rw[<- (hts.val t (Fe ..)).1];exact(hts.val t (Fe ..)).2))
  rw[e] at q;exact q
inductive iU(ds:List D)(R:D->Prop):Prop
 | mk (a b:EW) (P:Ppr) (hh:ds=[a.D,b.D,ppD P]/\Sg a/\Sg b/\(∀l∈P,∀w∈l,∀z∈w,ib z<=9000)/\R (.bl (ppB (a.pl false).kr (b.pl false).kr P)))
def lE:∀ds R,iU ds R->ds.length=3:=λ_ _ ⟨_,_,_,e,_⟩=>by rw[e];rfl
theorem cv:aA ["one","other","paper","firsts","seconds","first","line","second","weights"] ["one","other","paper"] (ap s_lets_by):=by walk_at "sc"
theorem cQ(Z:Zz):Z.C 66 "lets_by" ["one","other","paper"] (E2 Z.K iU):=by
 refine cF Z.x44 cv lE λfa cdv A outer s H E ds R hr h=>?_;have hU:=hr.units;refine⟨_,(ad (aw 3 cv.nd (ar (e8 Z) (rm hr) rfl (ac (ak 0) ae))) (ad (aw 4 cv.nd (ar (e8 Z) (rm hr) rfl (ac (ak 1) ae))) (ad (aM (aD (gS hU) (aG ce rfl Z.x53 bU (ac (ak 2) ae)) (aG ce rfl Z.x53 bU (ac (ak 3) ae)) (av _)) (af (au cc)) aB) (ad (eR Fy rfl (gv true false rfl Z.x55 (ac (ak 3) (ac (ak 2) ae))) (bL (n:=2) rfl (ay (aq 5 cv.nd) (ay (aq 6 cv.nd) aW))) (ad (aM (aD (gS hU) (aG ce rfl Z.x53 bU (ac (ak 6) ae)) (aG ce rfl Z.x53 bU (ac (ak 4) ae)) (av _)) (af (au cc)) aB) (af (eR Fy rfl (gv true false rfl Z.x55 (ac (ak 4) (ac (ak 6) ae))) (bL (n:=2) rfl (ay (aq 7 cv.nd) (ay (aq 8 cv.nd) aW))) (af (aM (fu (cj (ar (jI Z) (rm hr) rfl (ac (ax aL (ak 5) (ak 7)) (ac (ak 8) ae))))) (af (au cc)) aB)))))) (af (au cc)))))),?_⟩;obtain⟨a,b,P,rfl,Ga,Gb,hw,q⟩:=h;refine ag λK1 hK1=>?_;walk_at "rd";refine⟨a,S4,rfl,by have:=Ga.dep;omega,Ga.ok,by decide,Ga.few.1,Ga.few.2,?_⟩;walk_at "rd";rw[px];rw[hK1];refine ag λK2 hK2=>?_;walk_at "rd";refine⟨b,S4,rfl,by have:=Gb.dep;omega,Gb.ok,by decide,Gb.few.1,Gb.few.2,?_⟩;walk_at "rd";rw[px];rw[hK2];show AB _ _ _ [.dat a.D,.dat b.D,.dat (ppD P),.dat (krD (a.pl false).kr),.dat (krD (b.pl false).kr),.no,.no,.no,.no];have ra:=λc hc r hr=>EW.kr_row (B:=34) (EW.pl_ok (t:=false) Ga.ok) (EW.pl_bt Ga.bt) c hc r hr;have rb:=λc hc r hr=>EW.kr_row (B:=34) (EW.pl_ok (t:=false) Gb.ok) (EW.pl_bt Gb.bt) c hc r hr;have ga:∀c∈(a.pl false).kr,c.length<=3:=λc hc=>Fa (EW.kr_long EW.pl_pn hc) Ga.few.2
 have gb:∀c∈(b.pl false).kr,c.length<=3:=λc hc=>Fa (EW.kr_long EW.pl_pn hc) Gb.few.2
 generalize (a.pl false).kr=A at *
 generalize (b.pl false).kr=B at *
 unfold ppD krD;refine ag λK3 hK3=>?_;walk_at "rd";rw[E7,E7];refine cR (λhl=>?_) λhl=>?_
 ·have e:ppB A B P=false:=by unfold ppB;rw[FR (by omega)];rfl
  rw[e] at q;exact q
 have hl:P.length=A.length:=by have:=GB.mp hl;omega
 rw[hK3];refine ag λK4 hK4=>?_;refine de λF N hF hN=>?_;walk_at "rd";simp only[jw];walk_at "rd";rw[wJ];have hq:R (.bl ((A.zip P).all λp=>lnB p.1 B p.2)):=by
  unfold ppB at q;rw[FX hl,HF] at q;exact q
 have hz1:∀p∈A.zip P,p.1∈A/\p.2∈P:=λp hp=>⟨(FA hp).1,(FA hp).2⟩
 clear q;generalize hL:A.zip P=L at *;refine⟨λi δ=>∃x y z u,δ=[.dat a.D,.dat b.D,.dat (.tup (P.map λl=>.tup (l.map λw=>.tup (w.map D.int)))),.dat (.lst (A.map λc=>.lst (c.map EJ))),.dat (.lst (B.map λc=>.lst (c.map EJ))),x,y,z,u]/\∀p∈L.take i,lnB p.1 B p.2=true,⟨_,_,_,_,rfl,λp hp=>by simp at hp⟩,?_,?_⟩
 ·rintro i d δ hd ⟨x,y,z,u,rfl,ho⟩;rw[List.getElem?_map] at hd
  cases hn:L[i]? with
  | none=>rw[hn] at hd;cases hd
  | some p =>
   rw[hn] at hd
   cases hd
   obtain⟨c,l⟩:=p;have hpm:=Fm hn;obtain⟨m1,m2⟩:=hz1 _ hpm;have fail:lnB c B l=false->R (.bl false):=λe=>by
    rw[ik (p:=λp=>lnB p.1 B p.2) hn e] at hq;exact hq
   rw[hF];show gN _ _ (.tup [.lst (c.map EJ),.tup (l.map λw=>.tup (w.map D.int))]) _ _;refine bD λK5 hK5=>?_;walk_at "rd";rw[E7,E7];refine cR (λh1=>fail ?_) λh1=>?_
   ·unfold lnB;rw[FR (by omega)];rfl
   have h1:l.length=B.length:=by have:=GB.mp h1;omega
   rw[hK5];refine de λF2 N2 hF2 hN2=>?_;walk_at "rd";simp only[jw];walk_at "rd";rw[xn];have el:lnB c B l=(B.zip l).all λp=>shB (c++p.1) p.2:=by unfold lnB;rw[FX h1,HF]
   have hz2:∀p∈B.zip l,p.1∈B/\p.2∈l:=λp hp=>⟨(FA hp).1,(FA hp).2⟩
   generalize hL2:B.zip l=L2 at *
   refine⟨λj δ=>∃z u,δ=[.dat a.D,.dat b.D,.dat (.tup (P.map λl=>.tup (l.map λw=>.tup (w.map D.int)))),.dat (.lst (A.map λc=>.lst (c.map EJ))),.dat (.lst (B.map λc=>.lst (c.map EJ))),.dat (.lst (c.map EJ)),.dat (.tup (l.map λw=>.tup (w.map D.int))),z,u]/\∀p∈L2.take j,shB (c++p.1) p.2=true,⟨_,_,rfl,λp hp=>by simp at hp⟩,?_,?_⟩
   ·rintro j d δ hd ⟨z,u,rfl,ho2⟩;rw[List.getElem?_map] at hd
    cases hn2:L2[j]? with
    | none=>rw[hn2] at hd;cases hd
    | some p =>
     rw[hn2] at hd
     cases hd
     obtain⟨d,w⟩:=p;have hpm2:=Fm hn2;obtain⟨m3,m4⟩:=hz2 _ hpm2;have l1:=ga c m1;have l2:=gb d m3;rw[hF2];show gN _ _ (.tup [.lst (d.map EJ),.tup (w.map D.int)]) _ _;walk_at "rd";rw[<- Fv];refine⟨by rw[E7,E7];omega,c++d,S4,w,rfl,by decide,λr hr=>?_,hw l m2 w m4,by rw[Fi];omega,?_⟩
     ·rcases Fk.mp hr with hr | hr
      ·obtain⟨t1,t2,t3,_⟩:=ra c m1 r hr;exact⟨λt ht=>t1.sub.subset (E8.mpr ⟨t,ht,rfl⟩),λt ht=>Fa (t2 t ht) (by decide),Fa t3 (by decide)⟩
      ·obtain⟨t1,t2,t3,_⟩:=rb d m3 r hr;exact⟨λt ht=>t1.sub.subset (E8.mpr ⟨t,ht,rfl⟩),λt ht=>Fa (t2 t ht) (by decide),Fa t3 (by decide)⟩
     ·cases es:shB (c++d) w with
      | false =>
       refine fail ?_;rw[el];exact ik (p:=λp=>shB (c++p.1) p.2) hn2 es
      | true =>
       walk_at "rd";intro p hp;rw[aC hn2] at hp
       rcases Fk.mp hp with z | z
       ·exact ho2 p z
       ·rw[Fn.mp z];exact es
   ·rintro δ ⟨z,u,rfl,ho2⟩;rw[E7,Fw] at ho2;rw[hN2];refine⟨_,_,_,_,rfl,λp hp=>?_⟩;rw[aC hn] at hp
    rcases Fk.mp hp with z | z
    ·exact ho p z
    ·rw[Fn.mp z,el];exact Gr.mpr ho2
 ·rintro δ ⟨x,y,z,u,rfl,ho⟩;rw[E7,Fw] at ho;rw[hN,hK4];walk_at "rd";rw[Gr.mpr ho] at hq;exact hq
inductive gh(ds:List D)(R:D->Prop):Prop
 | mk (xs:List D) (i:Nat) (d:D) (hh:ds=[.tup xs,.int (i:Nat),d]/\xs.length<=9000/\R (.tup (xs.set i d)))
def gF:∀ds R,gh ds R->ds.length=3:=λ_ _ ⟨_,_,_,e,_⟩=>by rw[e];rfl
theorem kj:aA ["_law_rows","_law_at","_law_new"] ["_law_rows","_law_at","_law_new"] (ap s__law_given):=by walk_at "sc"
theorem aQ(Z:Zz):Z.C 1 "_law_given" ["_law_rows","_law_at","_law_new"] (E2 Z.K gh):=by
 refine cF Z.x45 kj gF λfa cdv A outer s H E ds R hr h=>?_;have hU:=hr.units;refine⟨_,(af (au (aX cw rfl Z.x52 a7 (ac (bx ["_law_k","_law_row"] [(2,"_law_new"),(1,"_law_at")] rfl rfl (by decide +kernel) rfl (by decide +kernel) (a8 ⟨rfl,rfl,trivial⟩) (λ_=>be rfl) (aP ⟨⟨rfl,rfl,.inl rfl⟩,⟨rfl,rfl,.inl rfl⟩,trivial⟩) (om false rfl Z.x56 (ac (ak 0) ae)) λ_ _ _ _ _=>⟨(bL (n:=2) rfl (ay (aq 0 (show List.Nodup (["_law_k","_law_row","_law_new","_law_at"]:List Str) by decide +kernel)) (ay (aq 1 (show List.Nodup (["_law_k","_law_row","_law_new","_law_at"]:List Str) by decide +kernel)) aW))),b8,(bM bJ (bG (ac (ak 1) (ac (ak 2) ae))) (aX BE rfl Z.x62 yo (ac (cm (dy hU) (ak 0) (ak 3) (av _)) ae)) (λ_ _=>rfl))⟩) ae)))),?_⟩;obtain⟨xs,i,d,rfl,hl,q⟩:=h;walk_at "rd";refine⟨by unfold enD;rw[List.length_mapIdx];exact hl,λe=>match e with | .tup [.int k,x]=>some (if k=(i:Int) then d else x) | _=>none,λx hx=>?_,?_⟩
 ·unfold enD at hx;obtain⟨k,hk,rfl⟩:=List.mem_mapIdx.mp hx;walk_at "rd"
  by_cases e:(k:Int)=i
  ·simp only[if_pos e];exact⟨rfl,rfl⟩
  ·simp only[if_neg e];exact⟨rfl,rfl⟩
 ·have e:(enD xs).filterMap (λe=>match e with | .tup [.int k,x]=>some (if k=(i:Int) then d else x) | _=>none)=xs.set i d:=by
   unfold enD;rw[List.mapIdx_eq_zipIdx_map,aH _ _ (λp:D×Nat=>if ((p.2:Nat):Int)=(i:Int) then d else p.1) _ (by intro _ _;rfl)];refine List.ext_getElem? λk=>?_;rw[List.getElem?_map,List.getElem?_zipIdx,List.getElem?_set]
   by_cases e:i=k
   ·subst e;rw[Fs rfl]
    by_cases l:i<xs.length
    ·rw[Fs l,List.getElem?_eq_getElem l];simp
    ·rw[Fp l,List.getElem?_eq_none (by omega)];rfl
   ·rw[Fp e]
    cases xs[k]? with
    | none=>rfl
    | some x =>
     have:¬ ((0+k:Nat):Int)=(i:Int):=by omega
     show some (if ((0+k:Nat):Int)=(i:Int) then d else x)=_
     rw[Fp this]
  rw[e];exact q
theorem nu{w:List Int}{i:Nat}{z:Int}:(w.map D.int).set i (.int z)=(w.set i z).map D.int:=by rw[List.map_set]
theorem nX(c:Int){n:Nat}(h:0<n):∃i:Nat,i<n/\c.fmod (n:Int)=i:=by
 have a0:=FM c (b:=n) (by omega)
 have a1:=FW c (b:=n) (by omega)
 exact⟨(c.fmod n).toNat,by omega,by omega⟩
inductive cO(ds:List D)(R:D->Prop):Prop
 | mk (w:List Int) (c:Int) (hh:ds=[.tup (w.map D.int),.int c]/\w≠[]/\w.length<=60/\(∀z∈w,ib z<=8990)/\∀v:List Int,(∀z∈v,ib z<=9000)->R (.tup (v.map D.int)))
def dz:∀ds R,cO ds R->ds.length=2:=λ_ _ ⟨_,_,e,_⟩=>by rw[e];rfl
theorem a9:aA ["_law_weights","_law_cell_here","_law_kind","_law_at","_law_far"] ["_law_weights","_law_cell_here"] (ap s__law_weights_bent):=by walk_at "sc"
theorem dU(Z:Zz):Z.C 2 "_law_weights_bent" ["_law_weights","_law_cell_here"] (E2 Z.K cO):=by
 refine cF Z.x46 a9 dz λfa cdv A outer s H E ds R hr h=>?_;have hU:=hr.units;refine⟨_,(ad (aw 2 a9.nd (ax cS (ak 1) am)) (ad (aw 3 a9.nd (ax cS (ax cz (ak 1) am) (aG ce rfl Z.x53 bU (ac (ak 0) ae)))) (ad (aM (aD uR (ak 2) am (av _)) (af (au (ar (aQ Z) (rm hr) rfl (ac (ak 0) (ac (ak 3) (ac (bM bJ (bG (ac (ax aL (bM bJ (ak 0) (ak 3) (λ_ _=>rfl)) am) (ac (ax ja (bM bJ (ak 0) (ak 3) (λ_ _=>rfl)) am) (ac (ax ja am (bM bJ (ak 0) (ak 3) (λ_ _=>rfl))) (ac am ae))))) (ak 2) (λ_ _=>rfl)) ae)))))) aB) (ad (aM (aD (dy hU) (ak 2) am (av _)) (ad (aw 4 a9.nd (ax cS (ax aL (ax aL (ak 3) am) (ax cS (ax cz (ak 1) am) (aG ce rfl Z.x53 bU (ac (ak 0) ae)))) (aG ce rfl Z.x53 bU (ac (ak 0) ae)))) (af (au (ar (aQ Z) (rm hr) rfl (ac (ar (aQ Z) (rm hr) rfl (ac (ak 0) (ac (ak 3) (ac (bM bJ (ak 0) (ak 4) (λ_ _=>rfl)) ae)))) (ac (ak 4) (ac (bM bJ (ak 0) (ak 3) (λ_ _=>rfl)) ae))))))) aB) (ad (aM (aD (dy hU) (ak 2) am (av _)) (af (au (i6 (ak 0) dB (cK (ng ny am))))) aB) (ad (aM (aD (dy hU) (ak 2) am (av _)) (af (au (ax aL (ak 0) (aK (ac (ax cS (ax cz (ak 1) am) am) ae))))) aB) (af (au (ak 0))))))))),?_⟩;obtain⟨w,c,rfl,hne,hl,hw,q⟩:=h;have hp:0<w.length:=Gg.mpr hne;have set:∀ {v:List Int} {i:Nat} {z:Int},(∀z∈v,ib z<=9000)->ib z<=9000->∀y∈v.set i z,ib y<=9000:=λh1 h2 y hy=>by
  rcases Hb hy with h | rfl
  ·exact h1 y h
  ·exact h2
 have w9:∀z∈w,ib z<=9000:=λz hz=>Fa (hw z hz) (by decide)
 refine ag λK1 hK1=>?_;walk_at "rd";refine⟨cnz (by decide),?_⟩;rw[hK1];refine ag λK2 hK2=>?_;walk_at "rd";rw[E7];refine⟨jk (by decide) (by decide),cnz (by omega),?_⟩;obtain⟨i,hi,ei⟩:=nX (c.fdiv 8) hp;rw[ei,hK2];obtain⟨k,hk,ek⟩:=nX c (n:=8) (by decide);rw[show c.fmod 8=(k:Int) from ek];have wi:=w9 _ (FQ hi);have wj:=hw _ (FQ hi);have gi:EA (w.map D.int) (i:Int)=some (.int w[i]):=dD hi;refine ag λK3 hK3=>?_;walk_at "rd";refine cR (λh4=>?_) λh4=>?_
 ·refine Ez.of gi ?_;walk_at "rd";refine Ez.of gi ?_;walk_at "rd";refine Ez.of gi ?_;walk_at "rd";have h4:k<4:=by omega
  obtain⟨z,hz,ez⟩:∃z,ib z<=9000/\EA [D.int (w[i]+1),.int (w[i]-1),.int (0-w[i]),.int 0] (k:Int)=some (.int z):=by
   match k,h4 with
   | 0,_=>exact⟨_,Fa (Gx wj (show ib 1<=1 by decide)) (by decide),rfl⟩
   | 1,_=>exact⟨_,Fa (intBits_sub_le wj (show ib 1<=1 by decide)) (by decide),rfl⟩
   | 2,_=>exact⟨_,Fa (intBits_sub_le (show ib 0<=1 by decide) wj) (by decide),rfl⟩
   | 3,_=>exact⟨0,by decide,rfl⟩
  refine Ez.of ez ?_;walk_at "rd";refine⟨_,i,_,rfl,by rw[E7];omega,?_⟩;rw[nu];exact q _ (set w9 hz)
 rw[hK3];refine ag λK4 hK4=>?_;walk_at "rd";refine cR (λh5=>?_) λh5=>?_
 ·rw[E7];refine⟨jk (by decide) (by decide),cnz (by omega),cnz (by omega),?_⟩;obtain⟨j,hj,ej⟩:=nX ((i:Int)+1+(c.fdiv 64).fmod (w.length:Int)) hp;rw[ej];have gj:EA (w.map D.int) (j:Int)=some (.int w[j]):=dD hj;refine Ez.of gj ?_;walk_at "rd";refine⟨_,i,_,rfl,by rw[E7];omega,?_⟩;walk_at "rd";refine Ez.of gi ?_;walk_at "rd";rw[nu];refine⟨_,j,_,rfl,by rw[E7,F0];omega,?_⟩;rw[nu];exact q _ (set (set w9 (w9 _ (FQ hj))) wi)
 rw[hK4];refine ag λK5 hK5=>?_;walk_at "rd";refine cR (λh6=>?_) λh6=>?_
 ·rw[lx];exact q _ λz hz=>w9 z (nE hz)
 rw[hK5];refine ag λK6 hK6=>?_;walk_at "rd";refine cR (λh7=>?_) λh7=>?_
 ·obtain⟨j,hj,ej⟩:=nX (c.fdiv 64) (n:=2) (by decide);rw[show (c.fdiv 64).fmod 2=(j:Int) from ej];refine⟨jk (by decide) (by decide),cnz (by decide),by simpa using hne,by rw[E7];omega,?_⟩;have e:w.map D.int++[D.int (j:Int)]=(w++[(j:Int)]).map D.int:=by rw[Fv];rfl
  rw[e];refine q _ λz hz=>?_
  rcases Fk.mp hz with h | h
  ·exact w9 z h
  ·rw[Fn.mp h]
   match j,hj with
   | 0,_=>decide
   | 1,_=>decide
 rw[hK6];walk_at "rd";exact q _ w9
theorem nN{α:Type}(f:α->D){l:List α}{i:Nat}{x:α}:(l.map f).set i (f x)=(l.set i x).map f:=by rw[List.map_set]
def CB{α:Type}{xs:List α}:cut xs none (some 1)=xs.take 1:=wW (k:=1)
inductive iy(ds:List D)(R:D->Prop):Prop
 | mk (P:Ppr) (c:Int) (hh:ds=[ppD P,.int c]/\P≠[]/\P.length<=60/\(∀l∈P,l≠[]/\l.length<=60/\∀w∈l,w≠[]/\w.length<=60/\∀z∈w,ib z<=8990)/\∀Q:Ppr,(∀l∈Q,∀w∈l,∀z∈w,ib z<=9000)->R (ppD Q))
def iH:∀ds R,iy ds R->ds.length=2:=λ_ _ ⟨_,_,e,_⟩=>by rw[e];rfl
theorem cU:aA ["_law_paper","_law_cell_here","_law_at","_law_by","_law_kind"] ["_law_paper","_law_cell_here"] (ap s__law_bent):=by walk_at "sc"
theorem lu(Z:Zz):Z.C 3 "_law_bent" ["_law_paper","_law_cell_here"] (E2 Z.K iy):=by
 refine cF Z.x47 cU iH λfa cdv A outer s H E ds R hr h=>?_;have hU:=hr.units;refine⟨_,(ad (aw 2 cU.nd (ax cS (ax cz (ak 1) am) (aG ce rfl Z.x53 bU (ac (ak 0) ae)))) (ad (aw 3 cU.nd (ax cS (ax cz (ak 1) am) (aG ce rfl Z.x53 bU (ac (bM bJ (ak 0) (ak 2) (λ_ _=>rfl)) ae)))) (ad (aM (aD (dy hU) (ax cS (ak 1) am) am (av _)) (af (au (ar (aQ Z) (rm hr) rfl (ac (ak 0) (ac (ak 2) (ac (ar (aQ Z) (rm hr) rfl (ac (bM bJ (ak 0) (ak 2) (λ_ _=>rfl)) (ac (ak 3) (ac (ar (dU Z) (rm hr) rfl (ac (bM bJ (bM bJ (ak 0) (ak 2) (λ_ _=>rfl)) (ak 3) (λ_ _=>rfl)) (ac (ax cz (ak 1) am) ae))) ae)))) ae)))))) aB) (ad (aw 4 cU.nd (ax cS (ax cz (ak 1) am) am)) (ad (aM (aD (dy hU) (ak 4) am (av _)) (af (au (i6 (ak 0) dB (cK (ng ny am))))) aB) (ad (aM (aD (dy hU) (ak 4) am (av _)) (af (au (ax aL (ak 0) (i6 (ak 0) dB (cK am))))) aB) (ad (aM (aD (dy hU) (ak 4) am (av _)) (af (au (ar (aQ Z) (rm hr) rfl (ac (ak 0) (ac (ak 2) (ac (i6 (bM bJ (ak 0) (ak 2) (λ_ _=>rfl)) dB (cK (ng ny am))) ae)))))) aB) (ad (aM (aD (dy hU) (ak 4) am (av _)) (af (au (ar (aQ Z) (rm hr) rfl (ac (ak 0) (ac (ak 2) (ac (ax aL (bM bJ (ak 0) (ak 2) (λ_ _=>rfl)) (i6 (bM bJ (ak 0) (ak 2) (λ_ _=>rfl)) dB (cK am))) ae)))))) aB) (af (au (ar (aQ Z) (rm hr) rfl (ac (ak 0) (ac (ak 2) (ac (ar (aQ Z) (rm hr) rfl (ac (bM bJ (ak 0) (ak 2) (λ_ _=>rfl)) (ac (ak 3) (ac (bM bJ (EZ 0) am (λ_ _=>rfl)) ae)))) ae)))))))))))))),?_⟩;obtain⟨P,c,rfl,hne,hl,hP,q⟩:=h;unfold ppD at q ⊢;have hp:0<P.length:=Gg.mpr hne;have P9:∀l∈P,∀w∈l,∀z∈w,ib z<=9000:=λl h w hw z hz=>Fa (((hP l h).2.2 w hw).2.2 z hz) (by decide)
 refine ag λK1 hK1=>?_;walk_at "rd";rw[E7];refine⟨jk (by decide) (by decide),cnz (by omega),?_⟩;obtain⟨i,hi,ei⟩:=nX (c.fdiv 2) hp;rw[ei,hK1];have gi:EA (P.map λl=>D.tup (l.map λw=>D.tup (w.map D.int))) (i:Int)=some (.tup (P[i].map λw=>.tup (w.map D.int))):=dD hi;have hl2:=hP _ (FQ hi);have L9:=P9 _ (FQ hi);generalize P[i]=l at *;obtain⟨lne,ll,hw⟩:=hl2;have lp:0<l.length:=Gg.mpr lne;refine ag λK2 hK2=>?_;walk_at "rd";refine⟨jk (by decide) (by decide),Ez.of gi ?_⟩;walk_at "rd";rw[E7];refine⟨cnz (by omega),?_⟩;obtain⟨j,hj,ej⟩:=nX (c.fdiv 8) lp;rw[ej,hK2];have gj:EA (l.map λw=>D.tup (w.map D.int)) (j:Int)=some (.tup (l[j].map D.int)):=dD hj;obtain⟨wne,wl,wb⟩:=hw _ (FQ hj);generalize l[j]=w at *;have giv:∀ {m:List (List Int)},(∀w∈m,∀z∈w,ib z<=9000)->∀l∈P.set i m,∀w∈l,∀z∈w,ib z<=9000:=λh y hy=>by
  rcases Hb hy with e | rfl
  ·exact P9 y e
  ·exact h
 have gil:∀ {v:List Int},(∀z∈v,ib z<=9000)->∀w∈l.set j v,∀z∈w,ib z<=9000:=λh y hy=>by
  rcases Hb hy with e | rfl
  ·exact L9 y e
  ·exact h
 have g1:∀ {m:List (List Int)},(P.map λl=>D.tup (l.map λw=>D.tup (w.map D.int))).set i (.tup (m.map λw=>.tup (w.map D.int)))=(P.set i m).map λl=>D.tup (l.map λw=>D.tup (w.map D.int)):=nN λl:List (List Int)=>D.tup (l.map λw=>D.tup (w.map D.int))
 have g2:∀ {v:List Int},(l.map λw=>D.tup (w.map D.int)).set j (.tup (v.map D.int))=(l.set j v).map λw=>D.tup (w.map D.int):=nN λw:List Int=>D.tup (w.map D.int)
 refine ag λK3 hK3=>?_;walk_at "rd";refine⟨cnz (by decide),cR (λh2=>Ez.of gi ?_) λh2=>?_⟩
 ·walk_at "rd";refine Ez.of gi ?_;walk_at "rd";refine Ez.of gj ?_;walk_at "rd";refine⟨jk (by decide) (by decide),w,_,rfl,wne,wl,wb,λv hv=>?_⟩;walk_at "rd";refine⟨_,j,_,rfl,by rw[E7];omega,?_⟩;walk_at "rd";refine⟨_,i,_,rfl,by rw[E7];omega,?_⟩;rw[g2,g1];exact q _ (giv (gil hv))
 rw[hK3];refine ag λK4 hK4=>?_;walk_at "rd";refine⟨jk (by decide) (by decide),cnz (by decide),?_⟩;rw[hK4];refine ag λK5 hK5=>?_;walk_at "rd";refine cR (λh3=>?_) λh3=>?_
 ·rw[lx];exact q _ λl hl=>P9 l (nE hl)
 rw[hK5];refine ag λK6 hK6=>?_;walk_at "rd";refine cR (λh4=>?_) λh4=>?_
 ·rw[CB,<- HG];refine⟨by simpa using hne,by cases P with | nil=>exact absurd rfl hne | cons a r=>simp,by rw[E7,E7,FI];omega,?_⟩;rw[<- Fv];exact q _ λl hl=>(Fk.mp hl).elim (P9 l) λz=>P9 l (F6 z)
 rw[hK6];refine ag λK7 hK7=>?_;walk_at "rd";refine cR (λh5=>Ez.of gi ?_) λh5=>?_
 ·walk_at "rd";rw[lx];refine⟨_,i,_,rfl,by rw[E7];omega,?_⟩;rw[g1];exact q _ (giv λw hw=>L9 w (nE hw))
 rw[hK7];refine ag λK8 hK8=>?_;walk_at "rd";refine cR (λh6=>Ez.of gi ?_) λh6=>?_
 ·walk_at "rd";refine Ez.of gi ?_;walk_at "rd";rw[CB,<- HG];refine⟨by simpa using lne,by cases l with | nil=>exact absurd rfl lne | cons a r=>simp,by rw[E7,E7,FI];omega,?_⟩;rw[<- Fv];refine⟨_,i,_,rfl,by rw[E7];omega,?_⟩;rw[g1];exact q _ (giv λw hw=>(Fk.mp hw).elim (L9 w) λz=>L9 w (F6 z))
 rw[hK8];walk_at "rd";refine Ez.of gi ?_;walk_at "rd";have g0:EA (P.map λl=>D.tup (l.map λw=>D.tup (w.map D.int))) 0=some (.tup (P[0].map λw=>.tup (w.map D.int))):=dD (k:=0) hp;have h0:=hP _ (FQ hp);have l0:0<P[0].length:=Gg.mpr h0.1;have b0:=P9 _ (FQ hp) _ (FQ l0);have g00:EA (P[0].map λw=>D.tup (w.map D.int)) 0=some (.tup (P[0][0].map D.int)):=dD (k:=0) l0;refine Ez.of g0 ?_;walk_at "rd";refine Ez.of g00 ?_;walk_at "rd";refine⟨_,j,_,rfl,by rw[E7];omega,?_⟩;walk_at "rd";refine⟨_,i,_,rfl,by rw[E7];omega,?_⟩;rw[g2,g1];exact q _ (giv (gil b0))
theorem B3{α:Type}{xs:List α}{k:Nat}:cut xs (some (k:Int)) none=xs.drop k:=by
 unfold cut;rw[HT.sIx_nat,HT.sIx_none,GE (by rw[Ge];omega)]
 by_cases h:k<=xs.length
 ·rw[Nat.min_eq_left h]
 ·rw[List.drop_of_length_le (by omega),List.drop_of_length_le (by omega)]
theorem yf{g:List Rw->List Rw->List Int}:ppD (A.map λc=>B.map (g c))=.tup (A.map λc=>.tup (B.map λd=>.tup ((g c d).map D.int))):=by
 unfold ppD;rw[FL]
 congr 2
 funext c
 show D.tup ((B.map (g c)).map _)=_
 rw[FL];rfl
def tnW(g:List Rw->List Rw->List Int)(d c:List Rw):List Int:=(g c d).drop c.length++(g c d).take c.length
inductive fF(ds:List D)(R:D->Prop):Prop
 | mk (A B:List (List Rw)) (g:List Rw->List Rw->List Int) (hh:ds=[krD A,krD B,ppD (A.map λc=>B.map (g c))]/\A.length<=60/\B.length<=60/\(∀c∈A,∀d∈B,(g c d).length=c.length+d.length/\(g c d).length<=60/\c≠[]/\d≠[])/\R (ppD (B.map λd=>A.map (tnW g d))))
def f7:∀ds R,fF ds R->ds.length=3:=λ_ _ ⟨_,_,_,e,_⟩=>by rw[e];rfl
theorem bu:aA ["_law_ones","_law_others","_law_paper","_law_found","_law_k","_law_line_here","_law_j","_law_weights"] ["_law_ones","_law_others","_law_paper"] (ap s__law_turned):=by walk_at "sc"
theorem iG(Z:Zz):Z.C 1 "_law_turned" ["_law_ones","_law_others","_law_paper"] (E2 Z.K fF):=by
 refine cF Z.x48 bu f7 λfa cdv A outer s H E ds R hr h=>?_;have hU:=hr.units;refine⟨_,(ad (dg 3 bu.nd ae) (ad (ir Fy rfl rfl Z.x57 (ac (aG ce rfl Z.x53 bU (ac (ak 1) ae)) ae) (aq 4 bu.nd) (ad (dg 5 bu.nd ae) (ad (ir Fy rfl rfl Z.x57 (ac (aG ce rfl Z.x53 bU (ac (ak 0) ae)) ae) (aq 6 bu.nd) (ad (aw 7 bu.nd (bM bJ (bM bJ (ak 2) (ak 6) (λ_ _=>rfl)) (ak 4) (λ_ _=>rfl))) (af (ba 5 (ax aL (i6 (ak 7) (cK (aG ce rfl Z.x53 bU (ac (bM bJ (ak 0) (ak 6) (λ_ _=>rfl)) ae))) dB) (i6 (ak 7) dB (cK (aG ce rfl Z.x53 bU (ac (bM bJ (ak 0) (ak 6) (λ_ _=>rfl)) ae))))))))) (af (ba 3 (d5 5 rfl Z.x52 a7)))))) (af (au (d5 3 rfl Z.x52 a7))))),?_⟩;obtain⟨A,B,g,rfl,la,lb,hg,q⟩:=h;refine ag λK1 hK1=>?_;walk_at "rd";intro fa;rw[hK1];refine ag λK2 hK2=>?_;refine io λF N hF hN=>?_;unfold krD ppD;walk_at "rd";simp only[mw];walk_at "rd";rw[E7];refine⟨by omega,by omega,λk δ=>∃x y z u,δ=[.dat (.lst (A.map λc=>.lst (c.map EJ))),.dat (.lst (B.map λc=>.lst (c.map EJ))),.dat (.tup ((A.map λc=>B.map (g c)).map λl=>.tup (l.map λw=>.tup (w.map D.int)))),.own fa (.lst ((B.take k).map λd=>D.tup (A.map λc=>.tup ((tnW g d c).map D.int)))),x,y,z,u],⟨_,_,_,_,rfl⟩,?_,?_⟩
 ·rintro k δ hk ⟨x,y,z,u,rfl⟩;have hk:k<B.length:=by omega
  rw[hF];show dJ _ _ _ _;refine bD λK3 hK3=>?_;walk_at "rd";intro li;rw[hK3];refine ag λK4 hK4=>?_;refine io λF2 N2 hF2 hN2=>?_;walk_at "rd";simp only[mw];walk_at "rd";rw[E7];refine⟨by omega,by omega,λj δ=>∃z u,δ=[.dat (.lst (A.map λc=>.lst (c.map EJ))),.dat (.lst (B.map λc=>.lst (c.map EJ))),.dat (.tup ((A.map λc=>B.map (g c)).map λl=>.tup (l.map λw=>.tup (w.map D.int)))),.own fa (.lst ((B.take k).map λd=>D.tup (A.map λc=>.tup ((tnW g d c).map D.int)))),.dat (.int (k:Nat)),.own li (.lst ((A.take j).map λc=>.tup ((tnW g B[k] c).map D.int))),z,u],⟨_,_,rfl⟩,?_,?_⟩
  ·rintro j δ hj ⟨z,u,rfl⟩;have hj:j<A.length:=by omega
   rw[hF2];show dJ _ _ _ _;refine bD λK5 hK5=>?_;walk_at "rd";have e1:EA ((A.map λc=>B.map (g c)).map λl=>D.tup (l.map λw=>D.tup (w.map D.int))) (j:Int)=some (.tup ((B.map (g A[j])).map λw=>.tup (w.map D.int))):=by rw[FL];exact dD hj
   have e2:EA ((B.map (g A[j])).map λw=>D.tup (w.map D.int)) (k:Int)=some (.tup ((g A[j] B[k]).map D.int)):=by rw[FL];exact dD hk
   have e3:EA (A.map λc=>D.lst (c.map EJ)) (j:Int)=some (.lst (A[j].map EJ)):=dD hj
   obtain⟨gl,g6,cn,dn⟩:=hg A[j] (FQ hj) B[k] (FQ hk);refine Ez.of e1 ?_;walk_at "rd";refine Ez.of e2 ?_;walk_at "rd";rw[hK5];walk_at "rd";refine Ez.of e3 ?_;walk_at "rd";refine Ez.of e3 ?_;walk_at "rd";have c0:=Gg.mpr cn;have d0:=Gg.mpr dn;rw[E7,B3,wW,<- List.map_drop,<- HG];refine⟨λz=>?_,λz=>?_,by rw[E7,E7,Ge,FI];omega,by rw[E7,FI];omega,by rw[aC (List.getElem?_eq_getElem hj),Fv,<- Fv (f:=D.int)];rfl⟩
   ·have:=Gs List.length z
    rw[E7,Ge,HK] at this;omega
   ·have:=Gs List.length z
    rw[E7,FI,HK] at this;omega
  ·rintro δ ⟨z,u,rfl⟩;rw[hN2,hK4];walk_at "rd";rw[GR,Fw];exact⟨by rw[E7,FI];omega,by rw[aC (List.getElem?_eq_getElem hk),Fv];rfl⟩
 ·rintro δ ⟨x,y,z,u,rfl⟩;rw[hN,hK2];walk_at "rd";rw[GR,Fw,<- yf];exact q
inductive jz(ds:List D)(R:D->Prop):Prop
 | mk (a b:EW) (P:Ppr) (hh:ds=[a.D,b.D,ppD P]/\Sg a/\Sg b/\(∀l∈P,∀w∈l,∀z∈w,ib z<=9000)/\R (.bl true))
def jA:∀ds R,jz ds R->ds.length=3:=λ_ _ ⟨_,_,_,e,_⟩=>by rw[e];rfl
theorem gC:aA ["_law_one","_law_other","_law_paper","_law_found"] ["_law_one","_law_other","_law_paper"] (ap s__law_good):=by walk_at "sc"
theorem ff(Z:Zz):Z.C 67 "_law_good" ["_law_one","_law_other","_law_paper"] (E2 Z.K jz):=by
 refine cF Z.x49 gC jA λfa cdv A outer s H E ds R hr h=>?_;have hU:=hr.units;refine⟨_,(ad (aw 3 gC.nd (ar (cQ Z) (rm hr) rfl (ac (ak 0) (ac (ak 1) (ac (ak 2) ae))))) (af (au (jn (kb tO rfl Z.x60 rfl Z.x61 xA (ak 3)) (d8 (cm (dy hU) (ak 3) (ar (cM Z) (rm hr) rfl (ac (ak 0) (ac (ak 1) (ac (ak 2) ae)))) (av _))))))),?_⟩;obtain⟨a,b,P,rfl,ga,gb,hw,q⟩:=h;refine ag λK1 hK1=>?_;walk_at "rd";refine⟨a,b,P,rfl,ga,gb,hw,?_⟩;walk_at "rd";rw[hK1];walk_at "rd";refine⟨a,b,S4,P,rfl,by have:=ga.dep;omega,by have:=gb.dep;omega,ga.ok,gb.ok,by decide,ga.few.1,ga.few.2,gb.few.1,gb.few.2,λl h1 w h2 z h3=>Fa (hw l h1 w h2 z h3) (by decide),?_⟩;walk_at "rd";exact q
theorem Sh.turn{w:List Int}(h:Sh (c++d) w):Sh (d++c) (w.drop c.length++w.take c.length):=by
 obtain⟨h1,h2,h3,h4⟩:=h;rw[Fi] at h1;have lt:c.length=(w.take c.length).length:=by rw[FI];omega
 have ld:d.length=(w.drop c.length).length:=by rw[Ge];omega
 have z1:(c++d).zip w=c.zip (w.take c.length)++d.zip (w.drop c.length):=by rw[<- HL lt,GK]
 rw[z1] at h3 h4;refine⟨by rw[Fi,Fi,<- lt,<- ld],λa ha=>h2 a ((Fk.mp ha).elim HC F6),λn=>?_,?_⟩
 ·rw[HL ld,iQ,Int.add_comm,<- iQ];exact h3 n
 ·rw[HL ld,jb,i9,Int.add_comm,Bool.or_comm,<- jb,<- i9];exact h4
theorem B2:∀ {l:List (Rw×Int)},(∀n,cfs (l.map (Prod.map id (2 * ·))) n=2*cfs l n)/\bds (l.map (Prod.map id (2 * ·)))=2*bds l/\EU (l.map (Prod.map id (2 * ·)))=EU l
 | []=>⟨λ_=>rfl,rfl,rfl⟩
 | p::l=>by
  obtain⟨h1,h2,h3⟩:=B2 (l:=l);refine⟨λn=>?_,?_,?_⟩
  ·show 2*p.2*cf p.1.2.1 n+cfs (l.map _) n=2*(p.2*cf p.1.2.1 n+cfs l n)
   rw[h1 n,Hu,Gd]
  ·show 2*p.2*p.1.2.2+bds (l.map _)=2*(p.2*p.1.2.2+bds l)
   rw[h2,Hu,Gd]
  ·show ((isM p.1.1&&decide (0<2*p.2))||EU (l.map _))=((isM p.1.1&&decide (0<p.2))||EU l)
   have e:decide (0<2*p.2)=decide (0<p.2):=decide_eq_decide.mpr (by omega)
   rw[h3,e]
theorem Sh.two{r:List Rw}{w:List Int}(h:Sh r w):Sh r (w.map (2 * ·)):=by
 obtain⟨h1,h2,h3,h4⟩:=h;obtain⟨e1,e2,e3⟩:=B2 (l:=r.zip w);refine⟨by rw[E7];exact h1,λa ha=>?_,λn=>?_,?_⟩
 ·obtain⟨b,hb,rfl⟩:=E8.mp ha;have:=h2 b hb;show 0<=2*b;omega
 ·rw[List.zip_map_right,e1,h3];rfl
 ·rw[List.zip_map_right,e2,e3];exact h4.imp (λz=>by omega) λz=>⟨by omega,z.2⟩
theorem ud{g:List Rw->List Rw->List Int}(h:∀c∈A,∀d∈B,Sh (c++d) (g c d)):ppB A B (A.map λc=>B.map (g c))=true:=by
 unfold ppB;rw[FE];refine⟨by rw[E7];exact FX rfl,Gr.mpr λp hp=>?_⟩;obtain⟨h1,h2⟩:=eZ hp;unfold lnB;rw[h2,FE];refine⟨by rw[E7];exact FX rfl,Gr.mpr λp' hp'=>?_⟩;obtain⟨h3,h4⟩:=eZ hp';rw[h4];exact eW.mpr (h _ h1 _ h3)
def lC{g:List Rw->List Rw->List Int}{n:Nat}(h:∀c∈A,∀d∈B,∀z∈g c d,ib z<=n):∀l∈A.map (λc=>B.map (g c)),∀w∈l,∀z∈w,ib z<=n:=λl hl w hw z hz=>by
 obtain⟨c,hc,rfl⟩:=E8.mp hl;obtain⟨d,hd,rfl⟩:=E8.mp hw;exact h c hc d hd z hz
def EW.bt_mono{B C:Nat}(h:B<=C):∀ {s:EW},s.bt B->s.bt C
 | .row _ _ _,o=>⟨λt ht=>Fa (o.1 t ht) h,Fa o.2 h⟩
 | .nt s,o=>EW.bt_mono (s:=s) h o
 | .bo s t,o=>⟨EW.bt_mono h o.1,EW.bt_mono h o.2⟩
 | .ei s t,o=>⟨EW.bt_mono h o.1,EW.bt_mono h o.2⟩
theorem i8{p:Str->Bool}:∀ {s:EW},s.ok S4->(∀n∈s.nms,p n=true)->s.ok (S4.filter p)
 | .row k ts b,h,hn=>⟨⟨by
   have e:(ts.map (·.1)).filter p=ts.map (·.1):=List.filter_eq_self.mpr hn
   rw[<- e];exact h.1.sub.filter p,h.1.nz,h.1.bits⟩,h.2⟩
 | .nt s,h,hn=>i8 (s:=s) h hn
 | .bo s t,h,hn=>⟨i8 h.1 λn z=>hn n (Fx _ z),i8 h.2 λn z=>hn n (Fo _ z)⟩
 | .ei s t,h,hn=>⟨i8 h.1 λn z=>hn n (Fx _ z),i8 h.2 λn z=>hn n (Fo _ z)⟩
theorem Sg.two{a b:EW}(ha:Sg a)(hb:Sg b):∃nm,Two a b nm 64 4:=by
 have mem:∀n,n∈S4.filter (λn=>decide (n∈a.nms\/n∈b.nms))↔n∈a.nms\/n∈b.nms:=λn=>by
  rw[Fq,decide_eq_true_iff];exact⟨λh=>h.2,λh=>⟨h.elim (EW.nms_sub ha.ok n) (EW.nms_sub hb.ok n),h⟩⟩
 have l4:(S4.filter (λn=>decide (n∈a.nms\/n∈b.nms))).length<=4:=G5 ..
 exact⟨_,by have:=ha.dep;omega,by have:=hb.dep;omega,i8 ha.ok λn h=>FX (.inl h),i8 hb.ok λn h=>FX (.inr h),EW.bt_mono (by decide) ha.bt,EW.bt_mono (by decide) hb.bt,ha.few,hb.few,Cq.filter _,Bf.filter _,mem,l4,by decide,by decide,.inl (C8 l4)⟩
def EW.kr_ne:∀ {s:EW},s.pn=true->∀c∈s.kr,c≠[]
 | .row _ _ _,_,c,h=>by rw[Fn.mp h];exact λz=>nomatch z
 | .bo s t,h,c,hc=>by
  obtain⟨h1,h2⟩:=FE.mp h;obtain⟨x,hx,hy⟩:=Gm.mp hc;obtain⟨y,hz,rfl⟩:=E8.mp hy;exact List.append_ne_nil_of_left_ne_nil (EW.kr_ne h1 x hx) _
 | .ei s t,h,c,hc=>by
  obtain⟨h1,h2⟩:=FE.mp h;exact(Fk.mp hc).elim (EW.kr_ne h1 c) (EW.kr_ne h2 c)
def EW.kr_some:∀ {s:EW},s.pn=true->s.kr≠[]
 | .row _ _ _,_=>λz=>nomatch z
 | .bo s t,h=>by
  obtain⟨h1,h2⟩:=FE.mp h;obtain⟨x,hx⟩:=List.exists_mem_of_ne_nil _ (EW.kr_some h1);obtain⟨y,hy⟩:=List.exists_mem_of_ne_nil _ (EW.kr_some h2);exact List.ne_nil_of_mem (a:=x++y) (Gm.mpr ⟨x,hx,E8.mpr ⟨y,hy,rfl⟩⟩)
 | .ei s t,h=>List.append_ne_nil_of_left_ne_nil (EW.kr_some (FE.mp h).1) _
def tw3:D->Option D
 | .int k=>some (.int (2*k))
 | _=>none
def tw2:D->Option D
 | .tup zs=>some (.tup (zs.filterMap tw3))
 | _=>none
def tw1:D->Option D
 | .tup ys=>some (.tup (ys.filterMap tw2))
 | _=>none
theorem Dj{P:Ppr}:(P.map λl=>D.tup (l.map λw=>D.tup (w.map D.int))).filterMap tw1=(P.map λl=>l.map λw=>w.map (2 * ·)).map λl=>D.tup (l.map λw=>D.tup (w.map D.int)):=by
 have e3:∀w:List Int,(w.map D.int).filterMap tw3=(w.map (2 * ·)).map D.int:=λw=>by rw[aH _ D.int (λz=>D.int (2*z)) _ (by intro _ _;rfl),FL];rfl
 have e2:∀l:List (List Int),(l.map λw=>D.tup (w.map D.int)).filterMap tw2=(l.map λw=>w.map (2 * ·)).map λw=>D.tup (w.map D.int):=λl=>by rw[aH _ (λw:List Int=>D.tup (w.map D.int)) (λw=>D.tup ((w.map (2 * ·)).map D.int)) _ (by intro w _;show some (D.tup ((w.map D.int).filterMap tw3))=_;rw[e3]),FL];rfl
 rw[aH _ (λl:List (List Int)=>D.tup (l.map λw=>D.tup (w.map D.int))) (λl=>D.tup ((l.map λw=>w.map (2 * ·)).map λw=>D.tup (w.map D.int))) _ (by intro l _;show some (D.tup ((l.map λw=>D.tup (w.map D.int)).filterMap tw2))=_;rw[e2]),FL];rfl
def onW(n:Nat):List Int:=(List.range n).map λ(k:Nat)=>(k:Int).fmod 2
def u6{n:Nat}:∀z∈onW n,ib z<=9000:=λz hz=>by
 obtain⟨k,_,rfl⟩:=E8.mp hz;obtain⟨j,hj,ej⟩:=nX (k:Int) (n:=2) (by decide);rw[show (k:Int).fmod 2=(j:Int) from ej]
 match j,hj with
 | 0,_=>decide
 | 1,_=>decide
theorem eN:aA ["_law_script","_law_one","_law_other","_law_ones","_law_others","_law_sort","_law_paper","_law_twice","_law_cell_here"] ["_law_script"] (ap s_law):=by walk_at "sc"
theorem zC(Z:Zz){fa:Addr}{fd:FuncData}(F:Fun Z.K "law" "law" s_law fa fd):kX Z.P Z.w Z.K Z.mg Z.base CX0 68 fa fd ["_law_script"] (E2 Z.K fLaw):=by
 refine Bj F eN (λds R ⟨ns,e,_⟩=>by rw[e];rfl) λcdv A outer s H E ds R hr h=>?_;have hU:=hr.units;refine⟨_,(ad (rS (ar (gT Z) (rm hr) rfl (ac (ak 0) ae)) (xp (n:=2) rfl (ay (aq 1 eN.nd) (ay (aq 2 eN.nd) aW)))) (ad (aw 3 eN.nd (ar (cy Z) (rm hr) rfl (ac (ak 1) (ac cc ae)))) (ad (aw 4 eN.nd (ar (cy Z) (rm hr) rfl (ac (ak 2) (ac cc ae)))) (ad (rS (ar (nU Z) (rm hr) rfl (ac (ak 1) (ac (ak 2) ae))) (bL (n:=2) rfl (ay (aq 5 eN.nd) (ay (aq 6 eN.nd) aW)))) (ad (aM (aD (dy hU) (ak 5) aE (av _)) (ad (aw 6 eN.nd (aX cw rfl Z.x52 a7 (ac (bx ["_law_a"] [(4,"_law_others")] rfl rfl (by decide +kernel) rfl (by decide +kernel) (a8 ⟨rfl,trivial⟩) (λ_=>be rfl) (aP ⟨⟨rfl,rfl,.inl rfl⟩,trivial⟩) (dP (ak 3)) λ_ _ _ _ _=>⟨(aq 0 (show List.Nodup (["_law_a","_law_others"]:List Str) by decide +kernel)),b8,(aX cw rfl Z.x52 a7 (ac (gZ rfl ["_law_b"] [(0,"_law_a")] rfl rfl (by decide +kernel) rfl (by decide +kernel) (a8 ⟨rfl,trivial⟩) (λ_=>be rfl) (aP ⟨⟨rfl,rfl,.inl rfl⟩,trivial⟩) (dP (ak 1)) λ_ _ _ _ _=>⟨(aq 0 (show List.Nodup (["_law_b","_law_a"]:List Str) by decide +kernel)),b8,(aX cw rfl Z.x52 a7 (ac (gZ rfl ["_law_k"] [] rfl rfl (by decide +kernel) rfl (by decide +kernel) (a8 trivial) (λ_=>be rfl) (aP trivial) (hG rfl Z.x57 (ac (ax aL (aG ce rfl Z.x53 bU (ac (ak 1) ae)) (aG ce rfl Z.x53 bU (ac (ak 0) ae))) ae)) λ_ _ _ _ _=>⟨(aq 0 (show List.Nodup (["_law_k"]:List Str) by decide +kernel)),b8,(ax cS (ak 0) am)⟩) ae))⟩) ae))⟩) ae))) (af (au (ar (ff Z) (rm hr) rfl (ac (ak 1) (ac (ak 2) (ac (ak 6) ae))))))) aB) (ad (aM (DW.dt (kn (aD mR (ar (cQ Z) (rm hr) rfl (ac (ak 1) (ac (ak 2) (ac (ak 6) ae)))) cc (av _)) (fG (fu (cj (ar (cM Z) (rm hr) rfl (ac (ak 1) (ac (ak 2) (ac (ak 6) ae))))))))) (af (au cc)) aB) (ad (aM (aD mR (ar (cQ Z) (rm hr) rfl (ac (ak 2) (ac (ak 1) (ac (ar (iG Z) (rm hr) rfl (ac (ak 3) (ac (ak 4) (ac (ak 6) ae)))) ae)))) cc (av _)) (af (au cc)) aB) (ad (aw 7 eN.nd (aX cw rfl Z.x52 a7 (ac (bx ["_law_line_here"] [] rfl rfl (by decide +kernel) rfl (by decide +kernel) (a8 trivial) (λ_=>be rfl) (aP trivial) (gm (ak 6)) λ_ _ _ _ _=>⟨(aq 0 (show List.Nodup (["_law_line_here"]:List Str) by decide +kernel)),b8,(aX cw rfl Z.x52 a7 (ac (gZ rfl ["_law_weights"] [] rfl rfl (by decide +kernel) rfl (by decide +kernel) (a8 trivial) (λ_=>be rfl) (aP trivial) (gm (ak 0)) λ_ _ _ _ _=>⟨(aq 0 (show List.Nodup (["_law_weights"]:List Str) by decide +kernel)),b8,(aX cw rfl Z.x52 a7 (ac (gZ rfl ["_law_many"] [] rfl rfl (by decide +kernel) rfl (by decide +kernel) (a8 trivial) (λ_=>be rfl) (aP trivial) (gm (ak 0)) λ_ _ _ _ _=>⟨(aq 0 (show List.Nodup (["_law_many"]:List Str) by decide +kernel)),b8,(ax bT am (ak 0))⟩) ae))⟩) ae))⟩) ae))) (ad (aM (aD mR (ar (cQ Z) (rm hr) rfl (ac (ak 1) (ac (ak 2) (ac (ak 7) ae)))) cc (av _)) (af (au cc)) aB) (ad (cu Fy rfl (ax aL (bG (ac am (ac am (ac am (ac am (ac am (ac am (ac am (ac am ae))))))))) (sr (ak 0) (cK am) (cK am))) (aq 8 eN.nd) (af (aM (fu (cj (ar (ff Z) (rm hr) rfl (ac (ak 1) (ac (ak 2) (ac (ar (lu Z) (rm hr) rfl (ac (ak 6) (ac (ak 8) ae))) ae)))))) (af (au cc)) aB))) (af (au (cm yl (ar (cQ Z) (rm hr) rfl (ac (ak 1) (ac (ak 2) (ac (ak 6) ae)))) cc (av _)))))))))))))),?_⟩
 obtain⟨ns,rfl,h63,hb,q⟩:=h;refine ag λK1 hK1=>?_;walk_at "rd";refine⟨ns,rfl,h63,hb,λa b ga gb=>?_⟩;walk_at "rd";rw[hK1];refine ag λK2 hK2=>?_;walk_at "rd";refine⟨a,true,S4,rfl,by have:=ga.dep;omega,ga.ok,by decide,ga.few.1,ga.few.2,?_⟩;walk_at "rd";rw[hK2];refine ag λK3 hK3=>?_;walk_at "rd";refine⟨b,true,S4,rfl,by have:=gb.dep;omega,gb.ok,by decide,gb.few.1,gb.few.2,?_⟩;walk_at "rd";rw[hK3];obtain⟨nm,T⟩:=ga.two gb;refine ag λK4 hK4=>?_;walk_at "rd";refine⟨a,b,nm,64,4,rfl,T,?_⟩;have nl:=T.len;have kA:(a.pl false).kr.length<=4:=by rw[EW.kr_num EW.pl_pn];exact ga.few.1
 have kB:(b.pl false).kr.length<=4:=by rw[EW.kr_num EW.pl_pn];exact gb.few.1
 have lA:∀c∈(a.pl false).kr,c.length<=3:=λc hc=>Fa (EW.kr_long EW.pl_pn hc) ga.few.2
 have lB:∀c∈(b.pl false).kr,c.length<=3:=λc hc=>Fa (EW.kr_long EW.pl_pn hc) gb.few.2
 have eA:=λc hc=>EW.kr_ne (EW.pl_pn (s:=a) (t:=false)) c hc
 have eB:=λc hc=>EW.kr_ne (EW.pl_pn (s:=b) (t:=false)) c hc
 rcases Ba T with⟨ps,ep,_⟩ | ⟨ew,_,sh⟩
 ·obtain⟨w,hw⟩:∃w:Str,w="point":=⟨_,rfl⟩;rw[ep,<- hw];walk_at "rd";rw[hK4];refine ag λK5 hK5=>?_;walk_at "rd";refine ifp hw ?_;unfold krD;walk_at "rd";refine⟨by rw[E7];omega,λx=>match x with | .lst cs=>some (.tup ((b.pl false).kr.map λd=>.tup ((onW (cs.length+d.length)).map D.int))) | _=>none,λx hx=>?_,?_⟩
  ·obtain⟨c,hc,rfl⟩:=E8.mp hx;have:=lA c hc;refine⟨by rw[E7];omega,λy=>match y with | .lst ds=>some (.tup ((onW (c.length+ds.length)).map D.int)) | _=>none,λy hy=>?_,?_⟩
   ·obtain⟨d,hd,rfl⟩:=E8.mp hy;have:=lB d hd;walk_at "rd";rw[E7,E7];refine⟨by omega,by omega,by rw[E7,GA];omega,λz=>match z with | .int k=>some (.int (k.fmod 2)) | _=>none,λz hz=>?_,?_⟩
    ·obtain⟨k,hk,rfl⟩:=E8.mp hz;exact⟨cnz (by decide),rfl,rfl⟩
    ·rw[aH _ (λi:Nat=>D.int (i:Int)) (λi:Nat=>D.int ((i:Int).fmod 2)) _ (by intro _ _;rfl),show ((c.length:Int)+d.length).toNat=c.length+d.length by omega];unfold onW;rw[FL];rfl
   ·rw[aH _ (λc:List Rw=>D.lst (c.map EJ)) (λd=>D.tup ((onW (c.length+d.length)).map D.int)) _ (by intro d _;show some (D.tup ((onW (c.length+(d.map EJ).length)).map D.int))=_;rw[E7])];show some (D.tup ((b.pl false).kr.map λd=>D.tup ((onW ((c.map EJ).length+d.length)).map D.int)))=_;rw[E7]
  ·rw[aH _ (λc:List Rw=>D.lst (c.map EJ)) (λc=>D.tup ((b.pl false).kr.map λd=>.tup ((onW (c.length+d.length)).map D.int))) _ (by intro c _;show some (D.tup ((b.pl false).kr.map λd=>.tup ((onW ((c.map EJ).length+d.length)).map D.int)))=_;rw[E7]),<- yf (g:=λc d=>onW (c.length+d.length))];exact⟨a,b,_,rfl,ga,gb,lC λc _ d _=>u6,q⟩
 ·obtain⟨w,hw⟩:∃w:Str,w="paper":=⟨_,rfl⟩;rw[ew,<- hw,<- yf (g:=λc d=>wOf nm (c++d))];walk_at "rd";rw[hK4];refine ag λK5 hK5=>?_;walk_at "rd";refine Ex (by rw[hw];decide) ?_;rw[hK5];have shA:∀c∈(a.pl false).kr,∀d∈(b.pl false).kr,Sh (c++d) (wOf nm (c++d)):=λc hc d hd=>(sh c hc d hd).1.sh;have bt:∀c∈(a.pl false).kr,∀d∈(b.pl false).kr,∀z∈wOf nm (c++d),ib z<=8000:=λc hc d hd z hz=>Fa ((sh c hc d hd).2 z hz) (Fa (zt nl) (by decide));have ok0:=ud (g:=λc d=>wOf nm (c++d)) shA;have b0:=lC (g:=λc d=>wOf nm (c++d)) bt;have ln:∀c∈(a.pl false).kr,∀d∈(b.pl false).kr,(wOf nm (c++d)).length=c.length+d.length:=λc hc d hd=>by rw[(shA c hc d hd).1,Fi]
  generalize hP:(a.pl false).kr.map (λc=>(b.pl false).kr.map λd=>wOf nm (c++d))=P at *
  have b9:∀l∈P,∀w∈l,∀z∈w,ib z<=9000:=λl hl w hw z hz=>Fa (b0 l hl w hw z hz) (by decide)
  have lets:∀ {R:D->Prop},R (.bl true)->iU [a.D,b.D,ppD P] R:=λh=>⟨a,b,P,rfl,ga,gb,b9,by rw[ok0];exact h⟩
  refine ag λK6 hK6=>?_;walk_at "rd";refine lets ?_;walk_at "rd";refine⟨a,b,S4,P,rfl,by have:=ga.dep;omega,by have:=gb.dep;omega,ga.ok,gb.ok,by decide,ga.few.1,ga.few.2,gb.few.1,gb.few.2,λl h1 w h2 z h3=>Fa (b9 l h1 w h2 z h3) (by decide),?_⟩;rw[ok0];walk_at "rd";rw[hK6];refine ag λK7 hK7=>?_;walk_at "rd";refine⟨(a.pl false).kr,(b.pl false).kr,λc d=>wOf nm (c++d),by rw[hP],by omega,by omega,λc hc d hd=>⟨ln c hc d hd,by have:=ln c hc d hd;have:=lA c hc;have:=lB d hd;omega,eA c hc,eB d hd⟩,?_⟩;walk_at "rd";refine⟨b,a,_,rfl,gb,ga,lC λd hd c hc z hz=>Fa (bt c hc d hd z ((Fk.mp hz).elim HC F6)) (by decide),?_⟩;rw[ud (g:=tnW λc d=>wOf nm (c++d)) λd hd c hc=>(shA c hc d hd).turn];walk_at "rd";rw[hK7];refine ag λK8 hK8=>?_;unfold ppD;walk_at "rd";have hQ:∀l∈P,l≠[]/\l.length<=60/\∀w∈l,w≠[]/\w.length<=60/\∀z∈w,ib z<=8990:=λl hl=>by
   have hl':=hl
   rw[<- hP] at hl;obtain⟨c,hc,rfl⟩:=E8.mp hl;refine⟨by simpa using EW.kr_some (EW.pl_pn (s:=b) (t:=false)),by rw[E7];omega,λw hw=>?_⟩;have h8:=b0 _ hl' w hw;obtain⟨d,hd,rfl⟩:=E8.mp hw;have l1:=ln c hc d hd;have l2:=lA c hc;have l3:=lB d hd;have l4:=Gg.mpr (eA c hc);exact⟨Gg.mp (by omega),by omega,λz hz=>Fa (h8 z hz) (by decide)⟩
  have pl:P.length<=4:=by rw[<- hP,E7];exact kA
  refine⟨by rw[E7];omega,tw1,λx hx=>?_,?_⟩
  ·obtain⟨l,hl,rfl⟩:=E8.mp hx;obtain⟨_,h6,h7⟩:=hQ l hl;refine⟨by rw[E7];omega,tw2,λy hy=>?_,rfl⟩;obtain⟨w,hw,rfl⟩:=E8.mp hy;obtain⟨_,h8,h9⟩:=h7 w hw;refine⟨by rw[E7];omega,tw3,λz hz=>?_,rfl⟩;obtain⟨k,hk,rfl⟩:=E8.mp hz;exact⟨mo2 (m:=2) (n:=8990) (by decide) (h9 k hk),rfl,rfl⟩
  rw[Dj,hK8];have e2:(P.map λl=>l.map λw=>w.map (2 * ·))=(a.pl false).kr.map λc=>(b.pl false).kr.map λd=>(wOf nm (c++d)).map (2 * ·):=by
   rw[<- hP,FL];refine GV λc _=>?_;show ((b.pl false).kr.map _).map _=_;rw[FL];rfl
  refine ag λK9 hK9=>?_;walk_at "rd";refine⟨a,b,_,rfl,ga,gb,λl hl w hw z hz=>?_,?_⟩
  ·obtain⟨l',hl',rfl⟩:=E8.mp hl;obtain⟨w',hw',rfl⟩:=E8.mp hw;obtain⟨z',hz',rfl⟩:=E8.mp hz;exact Fa (FK (show ib 2<=2 by decide) (((hQ l' hl').2.2 w' hw').2.2 z' hz')) (by decide)
  rw[e2,ud (g:=λc d=>(wOf nm (c++d)).map (2 * ·)) λc hc d hd=>(shA c hc d hd).two];walk_at "rd";rw[hK9];refine ag λK10 hK10=>?_;refine cD λF N hF hN=>?_;walk_at "rd";simp only[eL];walk_at "rd";have cl:(cut (ns.map D.int) (some 45) (some 63)).length<=63-45:=zJ (l:=ns.map D.int) 45 63;refine⟨by decide,by omega,?_⟩;refine⟨λi δ=>∃x,δ=[.dat (.fz (ns.map D.int)),.dat a.D,.dat b.D,.dat (krD (a.pl false).kr),.dat (krD (b.pl false).kr),.dat (.str w),.dat (.tup (P.map λl=>.tup (l.map λw=>.tup (w.map D.int)))),.dat (.tup (((a.pl false).kr.map λc=>(b.pl false).kr.map λd=>(wOf nm (c++d)).map (2 * ·)).map λl=>.tup (l.map λw=>.tup (w.map D.int)))),x],⟨_,rfl⟩,?_,?_⟩
  ·rintro i x δ hx ⟨y,rfl⟩;rw[lx] at hx;have hx:x∈(0::1::32::33::64::97::128::161::cut ns (some 45) (some 63)).map D.int:=Fm hx;obtain⟨c,_,rfl⟩:=E8.mp hx;rw[hF];show dJ _ _ _ _;walk_at "rd";refine⟨P,c,rfl,by rw[<- hP];simpa using EW.kr_some (EW.pl_pn (s:=a) (t:=false)),by omega,hQ,λQ h9=>⟨a,b,Q,rfl,ga,gb,h9,?_⟩⟩;walk_at "rd";exact⟨_,rfl⟩
  ·rintro δ ⟨y,rfl⟩;rw[hN,hK10];walk_at "rd";exact lets q
end Lw
namespace Lw
open PySem L2 DL
theorem all_mk{l:PySem.W.OpenLaw}{w:World}{K:PySem.W.Frag}{h:Heap}{mg:Str->Option Value}{fa:Addr}(X:K.In h)(G:h.Ns mainGlobals mg)(hfa:mg "law"=some (.ref fa))(f:Hd.Facts K):∃fd:FuncData,(∀(s:Shared) (v:Value),BindsTo s fd ⟨[v],[]⟩ [("_law_script",v)])/\∀base:Heap,K.In base->base.Ns mainGlobals mg->kX l.prog w K mg base CX0 68 fa fd ["_law_script"] (yC K):=by
 obtain⟨⟨_,_,_,_,_,_,_,_,_,_,a,l1,c,k⟩⟩:=f.q50;obtain⟨_,gi_OPPOSITES,gl_OPPOSITES⟩:=f.g_OPPOSITES;obtain⟨_,gi_MOST_ROWS⟩:=f.g_MOST_ROWS;obtain⟨_,gi_MOST_CASES⟩:=f.g_MOST_CASES;obtain⟨_,_,_,_,gi_ENDLESS,gl_ENDLESS⟩:=f.g_ENDLESS;have e:=hfa.symm.trans (Hk X G a)
 cases e
 have F:=wE (st:=s_law) l1 c k
 refine⟨_,?_,λbase _ _=>by exact Bb (zC ⟨l.prog,w,K,mg,base,f.q0.fd2 X G λ_ _ _ _ _ _ _ _=>rfl,f.q1.fd2 X G λ_ _ _ _ _ _ _ _=>rfl,f.q2.fd2 X G λ_ _ _ _ _ _ _ _=>rfl,f.q3.fd2 X G λ_ _ _ _ _ _ _ _=>rfl,f.q4.fd2 X G λ_ _ _ _ _ _ _ _=>rfl,f.q5.fd1 X G λ_ _ _ _ _ _ _=>rfl,f.q6.fd2 X G λ_ _ _ _ _ _ _ _=>rfl,f.q7.fd1 X G λ_ _ _ _ _ _ _=>rfl,f.q8.fd2 X G λ_ _ _ _ _ _ _ _=>rfl,f.q9.fd2 X G λ_ _ _ _ _ _ _ _=>rfl,f.q10.fd3 X G λ_ _ _ _ _ _ _ _ _=>rfl,f.q11.fd3 X G λ_ _ _ _ _ _ _ _ _=>rfl,f.q12.fd2 X G λ_ _ _ _ _ _ _ _=>rfl,f.q13.fd1 X G λ_ _ _ _ _ _ _=>rfl,f.q14.fd2 X G λ_ _ _ _ _ _ _ _=>rfl,f.q15.fd1 X G λ_ _ _ _ _ _ _=>rfl,f.q16.fd2 X G λ_ _ _ _ _ _ _ _=>rfl,f.q17.fd2 X G λ_ _ _ _ _ _ _ _=>rfl,f.q18.fd2 X G λ_ _ _ _ _ _ _ _=>rfl,f.q19.fd1 X G λ_ _ _ _ _ _ _=>rfl,f.q20.fd2 X G λ_ _ _ _ _ _ _ _=>rfl,f.q21.fd2 X G λ_ _ _ _ _ _ _ _=>rfl,f.q22.fd1 X G λ_ _ _ _ _ _ _=>rfl,f.q23.fd1 X G λ_ _ _ _ _ _ _=>rfl,f.q24.fd3 X G λ_ _ _ _ _ _ _ _ _=>rfl,f.q25.fd4 X G λ_ _ _ _ _ _ _ _ _ _=>rfl,f.q26.fd2 X G λ_ _ _ _ _ _ _ _=>rfl,f.q27.fd3 X G λ_ _ _ _ _ _ _ _ _=>rfl,f.q28.fd3 X G λ_ _ _ _ _ _ _ _ _=>rfl,f.q29.fd1 X G λ_ _ _ _ _ _ _=>rfl,f.q30.fd3 X G λ_ _ _ _ _ _ _ _ _=>rfl,f.q31.fd3 X G λ_ _ _ _ _ _ _ _ _=>rfl,f.q32.fd2 X G λ_ _ _ _ _ _ _ _=>rfl,f.q33.fd2 X G λ_ _ _ _ _ _ _ _=>rfl,f.q34.fd1 X G λ_ _ _ _ _ _ _=>rfl,f.q35.fd1 X G λ_ _ _ _ _ _ _=>rfl,f.q36.fd2 X G λ_ _ _ _ _ _ _ _=>rfl,f.q37.fd3 X G λ_ _ _ _ _ _ _ _ _=>rfl,f.q38.fd2 X G λ_ _ _ _ _ _ _ _=>rfl,f.q39.fd1 X G λ_ _ _ _ _ _ _=>rfl,f.q40.fd2 X G λ_ _ _ _ _ _ _ _=>rfl,f.q41.fd2 X G λ_ _ _ _ _ _ _ _=>rfl,f.q42.fd3 X G λ_ _ _ _ _ _ _ _ _=>rfl,f.q43.fd2 X G λ_ _ _ _ _ _ _ _=>rfl,f.q44.fd3 X G λ_ _ _ _ _ _ _ _ _=>rfl,f.q45.fd3 X G λ_ _ _ _ _ _ _ _ _=>rfl,f.q46.fd2 X G λ_ _ _ _ _ _ _ _=>rfl,f.q47.fd2 X G λ_ _ _ _ _ _ _ _=>rfl,f.q48.fd3 X G λ_ _ _ _ _ _ _ _ _=>rfl,f.q49.fd3 X G λ_ _ _ _ _ _ _ _ _=>rfl,FT X G f.z0,FT X G f.z1,FT X G f.z2,FT X G f.z3,FT X G f.z4,FT X G f.z5,FT X G f.z6,FT X G f.z7,FT X G f.z8,FT X G f.z9,FT X G f.z10,FT X G f.z11,FT X G f.z12,FT X G f.z13,⟨⟨_,Hk X G gi_OPPOSITES,gl_OPPOSITES⟩⟩,⟨⟨_,Hk X G gi_MOST_ROWS⟩⟩,⟨⟨_,Hk X G gi_MOST_CASES⟩⟩,⟨⟨_,_,_,Hk X G gi_ENDLESS,gl_ENDLESS,rfl,rfl⟩⟩⟩ F)⟩
 exact λs v=>.of_eq rfl
end Lw
open PySem PySem.W PyProof.Rows
theorem PySem.Challenge.cw_rowbetween_k32_lets_by_holds : PySem.Challenge.rw_rowbetween_k32_lets_by.Holds := by
 refine Hd.half λYP d K hY hdf hdn f=>?_;refine DL.walkB (l:=PySem.Challenge.rw_rowbetween_k32_lets_by) (k:=68) (x:="_law_script") rfl hdf ⟨rfl,by decide,by decide⟩ hY λw mg fa h KX G hmg=>?_;rw[hdn] at hmg;exact Lw.all_mk KX G hmg (f w)
#print axioms PySem.Challenge.cw_rowbetween_k32_lets_by_holds
