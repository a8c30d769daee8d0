import PyProof.Rows.All
import Wide.All
import OpenK.AllK
import Wide.FinOn
import Lean
import PyProof.EqAt
import PyProof.EqKinds
import PyProof.TupleCall
import PySem.Challenge.RW_rowbetween_k33_between
set_option Elab.async false
set_option linter.all false
set_option maxRecDepth 100000
set_option maxHeartbeats 4000000
set_option Elab.async false
set_option linter.all false
set_option maxRecDepth 100000
local macro_rules | `(tactic| walk_at "or") => `(tactic| (intro d0 R h; rcases d0 with _ | ⟨a, _ | ⟨b, _ | ⟨c, l⟩⟩⟩; exact False.elim h; (cases a <;> first | exact False.elim h | (repeat first | exact ⟨_, rfl, h⟩ | exact ⟨_, _, rfl, h⟩ | exact ⟨_, _, _, rfl, h⟩ | exact .inl ⟨_, rfl, h⟩ | exact .inl ⟨_, _, rfl, h⟩ | exact .inl ⟨_, _, _, rfl, h⟩ | apply Or.inr)); (cases a <;> first | exact False.elim h | (cases b <;> first | exact False.elim h | (repeat first | exact ⟨_, rfl, h⟩ | exact ⟨_, _, rfl, h⟩ | exact ⟨_, _, _, rfl, h⟩ | exact .inl ⟨_, rfl, h⟩ | exact .inl ⟨_, _, rfl, h⟩ | exact .inl ⟨_, _, _, rfl, h⟩ | apply Or.inr))); (cases a <;> first | exact False.elim h | (cases b <;> exact False.elim h))))
local macro_rules | `(tactic| walk_at "v3") => `(tactic| first | exact Or.inl rfl | exact Or.inr (Or.inl rfl) | exact Or.inr (Or.inr rfl))
local macro_rules | `(tactic| walk_at "v2") => `(tactic| first | exact Or.inl rfl | exact Or.inr rfl)
local macro_rules | `(tactic| walk_at "v1") => `(tactic| first | exact .inl rfl | exact .inr rfl | assumption)
def FR:=@List.length_map
def FT:=@PySem.wpAny_bind
def FU:=@List.mem_cons_of_mem
def FV:=@List.mem_map
def FW:=@List.mem_cons_self
def FX:=@Nat.le_trans
def FY:=@PySem.wpAny_pure
def FZ:=@List.mem_append_left
def F0:=@Bool.false_ne_true
def F1:=@List.length_append
def F3:=@Nat.le_refl
def F4:=@Classical.byContradiction
def F5:=@List.mem_append_right
def F6:=@List.mem_singleton
def F7:=@List.mem_cons
def F8:=@List.length_cons
def F9:=@List.mem_append
def Ga:=@List.mem_filter
def Gb:=@if_neg
def Gc:=@Option.some.inj
def Gd:=@if_pos
def Ge:=@List.mem_of_getElem?
def Gg:=@PySem.Heap.lt_size
def Gh:=@PySem.PassesOwn.never
def Gi:=@PySem.intBits_mul_le
def Gj:=@List.map_append
def Gk:=@Rat.intCast_mul
def Gm:=@List.length_replicate
def Gn:=@List.filter_cons_of_neg
def Go:=@List.map_cons
def Gp:=@List.take_length
def Gq:=@Bool.and_eq_true_iff
def Gr:=@List.of_mem_zip
def Gs:=@List.size_toArray
def Gu:=@Int.fmod_nonneg_of_pos
def Gv:=@List.length_take
def Gw:=@Nat.ne_of_lt
def Gx:=@decide_eq_false
def Gy:=@List.filter_cons_of_pos
def Gz:=@decide_eq_true
def GA:=@Nat.lt_of_lt_of_le
def GB:=@Int.fmod_lt_of_pos
def GC:=@PySem.wpAny_setField_rec
def GD:=@PySem.W.mg_none_of
def GE:=@Array.length_toList
def GF:=@Rat.mul_nonneg
def GG:=@List.map_map
def GH:=@List.append_nil
def GI:=@PySem.W.kia_one
def GJ:=@Int.mul_ne_zero
def GK:=@List.filterMap_cons
def GL:=@Int.mul_comm
def GM:=@List.length_set
def GN:=@List.length_range
def GO:=@Int.mul_left_comm
def GP:=@PySem.intBits_fdiv_le
def GQ:=@Nat.lt_irrefl
def GR:=@PySem.wpAny_newObj_type
def GS:=@List.mem_of_mem_take
def GT:=@PyProof.Rows.callWith_type1
def GU:=@List.nodup_cons
def GV:=@Int.mul_assoc
def GW:=@List.mem_range
def GX:=@PySem.wpAny_holding
def GY:=@PySem.wpAny_call_entry
def GZ:=@List.getElem_mem
def G0:=@Int.mul_fdiv_cancel_left
def G1:=@PySem.wpAny_setState_of
def G2:=@PySem.Heap.size_push
def G3:=@PySem.wpAny_field
def G4:=@Rat.mul_pos
def G5:=@Nat.zero_le
def G6:=@PySem.wpAny_seqItems
def G7:=@List.length_zip
def G8:=@Rat.intCast_add
def G9:=@PySem.wpAny_mono
def Ha:=@List.mem_flatMap
def Hb:=@List.length_eq_zero_iff
def He:=@PySem.intBits_add_le
def Hf:=@congrArg
def Hg:=@List.take_of_length_le
def Hh:=@Rat.intCast_lt_intCast
def Hi:=@PySem.F.slot_tuple_iterator_next
def Hj:=@List.length_drop
def Hk:=@List.take_append_drop
def Hl:=@List.drop_eq_getElem_cons
def Hm:=@PySem.Around.under_plainId
def Hn:=@PySem.wpAny_truthy_bool
def Ho:=@PySem.wpAny_passesOwn
def Hr:=@Nat.lt_succ_of_lt
def Hs:=@PySem.wpAny_ite_split
def Ht:=@PySem.mem_of_lookup
def Hu:=@Int.fdiv_mul_cancel
def Hv:=@List.eq_nil_of_length_eq_zero
def Hw:=@PySem.IntMulOk.of_left
def Hx:=@PySem.Calls.spliced_cons
def Hy:=@PySem.wpAny_Call_Name_kw
def Hz:=@PySem.tupleKind_room_in1
def HA:=@Nat.le_of_lt
def HB:=@Nat.ne_of_gt
def HC:=@List.length_singleton
def HD:=@Nat.succ.inj
def HE:=@Int.zero_add
def HF:=@Int.dvd_gcd_mul_iff_dvd_mul
def HG:=@PySem.codeAny_builtin
def HH:=@List.length_filter_le
def HI:=@PySem.wpAny_pyIter_list
def HJ:=@Nat.lt_trichotomy
def HK:=@List.nodup_append
def HL:=@decide_eq_true_eq
def HM:=@PySem.Calls.call_function_entry
def HN:=@PySem.intBits_neg_le
def HP:=@Nat.le_add_right
def HQ:=@PySem.Heap.SameBut.update
def HR:=@List.map_congr_left
def HS:=@List.length_reverse
def HU:=@List.flatMap_append
def HV:=@List.map_nil
def HW:=@Int.add_zero
def HX:=@Int.le_of_lt
def HY:=@Nat.succ_pos
def HZ:=@Bool.eq_iff_iff
def Ia:=@Nat.lt_of_le_of_lt
def Ib:=@PySem.W.mg_of
def Ic:=@Rat.mul_eq_zero
def Ie:=@Nat.exists_eq_add_of_le
def Ig:=@Option.map_eq_some_iff
def Ih:=@List.zipWith_cons_cons
def Ii:=@PySem.W.kitx_dict
def Ij:=@PySem.Calls.spliced_nil
def Ik:=@Int.toNat_natCast
def Il:=@List.append_assoc
def Im:=@Nat.mul_add
def Io:=@List.foldl_append
def Ip:=@of_decide_eq_true
def Iq:=@List.take_zero
def Ir:=@List.Perm.refl
def Iu:=@PySem.codeAny_mono
def Iv:=@PySem.F.slot_dict_get
def Iw:=@Bool.beq_eq_decide_eq
def Ix:=@Nat.lt_asymm
def Iy:=@Nat.le_div_iff_mul_le
def Iz:=@Nat.lt_succ_self
def IA:=@List.map_zipWith
def IB:=@PySem.wpAny_updateSeq_pair
def IC:=@List.any_cons
def ID:=@beq_eq_false_iff_ne
def IE:=@PySem.wpAny_execs_nil
def IF:=@PySem.SeqAt.EqAt.same
def IG:=@Nat.le_succ
def IH:=@PySem.F.slot_zip_next
def II:=@List.map_id
def IJ:=@Rat.intCast_inj
def IK:=@Rat.intCast_neg
def IL:=@List.foldl_cons
def IM:=@PySem.wpAny_rule
def IN:=@Ne.symm
namespace L2
open PySem
def cP(s:Stmt):Arguments:=match s with
 | .FunctionDef _ a _ _ _ _ _ _ _ _=>a
 | _=>{ posonlyargs:=[],args:=[],vararg:=none,kwonlyargs:=[],kw_defaults:=[],kwarg:=none,defaults:=[] }
def bG(s:Stmt):List Stmt:=match s with
 | .FunctionDef _ _ b _ _ _ _ _ _ _=>b
 | _=>[]
def ap(s:Stmt):Scope:=match s with
 | .FunctionDef _ _ _ _ _ _ sc _ _ _=>sc
 | _=>{ kind:=.function,names:=[],isGenerator:=false,isCoroutine:=false }
end L2
namespace DL
open PySem PySem.Spec PyProof.Rows L2
def txt(D:List (Str×Str)):List (Str×KTD.Dat):=D.map λp=>(p.1,KTD.Dat.flat (.str p.2))
structure FdK(K:PySem.W.Frag)(x:Str)(st:Stmt):Prop where
 ex:∃(f:Addr) (oc:Value) (od an:Option Addr) (sl:Array (Option Value)) (kV dc pm cd ct:Value),PySem.W.nsIn K mainGlobals x=some (some (.ref f))/\K.lookup f=some ⟨oc,od,.func (PySem.W.fnOf x x (cP st) (bG st) (ap st) .none kV dc pm an cd ct),sl⟩/\PySem.W.codeIn K cd x=true/\PySem.W.keepIn K (.ref f)=true
end DL
namespace Lw
open PySem L2 DL
def top(i:Nat):Stmt:=PySem.Challenge.pw_rowbetween_k33_between.main.body.getD i (.Pass ⟨0,0,0,0⟩)
abbrev s_common_divisor:Stmt:=top 6
abbrev s_made:Stmt:=top 7
abbrev s_plus:Stmt:=top 8
abbrev s_times:Stmt:=top 9
abbrev s_less:Stmt:=top 10
abbrev s_is_row:Stmt:=top 15
abbrev s_mark_names:Stmt:=top 17
abbrev s_names_of:Stmt:=top 18
abbrev s_tops_of:Stmt:=top 19
abbrev s_top_of_sum:Stmt:=top 20
abbrev s_row_is_so:Stmt:=top 21
abbrev s_part_is_so:Stmt:=top 22
abbrev s_is_so:Stmt:=top 23
abbrev s_contrary:Stmt:=top 24
abbrev s_plain_part:Stmt:=top 25
abbrev s_plain:Stmt:=top 26
abbrev s__law_cell:Stmt:=top 50
abbrev s_put_together:Stmt:=top 27
abbrev s_cases_within:Stmt:=top 28
abbrev s_cases:Stmt:=top 29
abbrev s_added:Stmt:=top 35
abbrev s_weight_of:Stmt:=top 36
abbrev s_alone:Stmt:=top 37
abbrev s_shortened:Stmt:=top 38
abbrev s_crossed:Stmt:=top 39
abbrev s_without:Stmt:=top 40
abbrev s_taken_out:Stmt:=top 41
abbrev s_bound_on:Stmt:=top 42
abbrev s_tighter:Stmt:=top 32
abbrev s_number_in:Stmt:=top 33
abbrev s_piece_for:Stmt:=top 43
abbrev s_found_back:Stmt:=top 44
abbrev s_solved:Stmt:=top 45
abbrev s_both_so:Stmt:=top 47
abbrev s_joined:Stmt:=top 16
abbrev s_between:Stmt:=top 48
abbrev s__law_whole:Stmt:=top 52
abbrev s__law_over:Stmt:=top 54
abbrev s__law_total:Stmt:=top 55
abbrev s__law_row_so:Stmt:=top 56
abbrev s__law_number:Stmt:=top 51
abbrev s__law_line:Stmt:=top 57
abbrev s__law_fence:Stmt:=top 58
abbrev s__law_shaped:Stmt:=top 59
abbrev s__law_sayings:Stmt:=top 60
abbrev s__law_so:Stmt:=top 61
abbrev s__law_names:Stmt:=top 62
abbrev s__law_formed:Stmt:=top 63
abbrev s__law_mixed:Stmt:=top 64
abbrev s__law_drawn:Stmt:=top 65
abbrev s__law_points:Stmt:=top 66
abbrev s_law:Stmt:=top 67
end Lw
namespace Hd
open PySem PySem.W PyProof.Rows
set_option maxRecDepth 100000
set_option maxHeartbeats 0
def kept(i:Nat):Stmt:=PySem.Challenge.pw_rowbetween_k33_between.main.body.getD i (.Pass ⟨0,0,0,0⟩)
def vw:Program:={ PySem.Challenge.pw_rowbetween_k33_between with main:={ PySem.Challenge.pw_rowbetween_k33_between.main with body:=[kept 1,kept 2,kept 3,kept 4,kept 6,kept 7,kept 8,kept 9,kept 10,kept 12,kept 13,kept 14,kept 15,kept 16,kept 17,kept 18,kept 19,kept 20,kept 21,kept 22,kept 23,kept 24,kept 25,kept 26,kept 27,kept 28,kept 29,kept 31,kept 32,kept 33,kept 35,kept 36,kept 37,kept 38,kept 39,kept 40,kept 41,kept 42,kept 43,kept 44,kept 45,kept 47,kept 48,kept 50,kept 51,kept 52,kept 53,kept 54,kept 55,kept 56,kept 57,kept 58,kept 59,kept 60,kept 61,kept 62,kept 63,kept 64,kept 65,kept 66,kept 67] } }
def xt(s:Shared):Bool:=xlAt vw [] s&&recOk (RowW.records (OpenRow.toRowW PySem.Challenge.rw_rowbetween_k33_between.row)) s
noncomputable def st0 (w:World) (os:OsState):Shared:=⟨boot_heap w.params,#[],boot_drawn,boot_toks,os⟩
noncomputable def rn (w:World) (os:OsState):=(topRun treeTable PySem.Challenge.pw_rowbetween_k33_between w 11 (some (Value.ref 6)) 5498 (st0 w os) (topStub PySem.Challenge.pw_rowbetween_k33_between))
def said:PySem.W.OpenLaw.wellSaid PySem.Challenge.rw_rowbetween_k33_between=true:=by
 rw[PySem.W.Fast.te9446332074065402090]
 kernel_rfl
local macro_rules | `(tactic| walk_at "hf") => `(tactic| (unfold Hd.rn Hd.st0; (try rw [PySem.W.Fast.te14082659384304107361]); (try rw [PySem.W.Fast.te14364793385576792824]); (try rw [PySem.W.Fast.te5160383126252970620]); (try rw [PySem.W.Fast.te10880121769531294198]); (try rw [PySem.W.Fast.te14722251495701143533]); (try rw [PySem.W.Fast.te10994771534591457954]); (try rw [PySem.W.Fast.te479339242167458305]); (try rw [PySem.W.Fast.te16090120013241838585]); (try rw [PySem.W.Fast.te2386780881361962483]); (try rw [PySem.W.Fast.te11698064438423848299]); (try rw [PySem.W.Fast.te7317090234206586261]); (try rw [PySem.W.Fast.te7369524293546568484]); (try rw [PySem.W.Fast.te821141287760084731]); (try rw [PySem.W.Fast.te3399658132070893891]); (try rw [PySem.W.Fast.te7409074990110511671]); (try rw [PySem.W.Fast.te13664370479719496447]); (try rw [PySem.W.Fast.te5991557255702980513]); (try rw [PySem.W.Fast.te3247288618530077131]); (try rw [PySem.W.Fast.te5923862056798008813]); kernel_rfl))
def dQ{σ α β:Type}{o:Option σ}{f:σ->α}{g:σ->β}{x:α}{y:β}(a:o.map f=some x)(b:o.map g=some y):o.map (λs=>(f s,g s))=some (x,y):=by
 cases o with
 | none=>cases a
 | some s=>cases a;cases b;rfl
def ph{σ α β:Type}{o:Option σ}{f:σ->α}{g:σ->β}{x:α}{y:β}(a:o.map (λs=>(f s,g s))=some (x,y)):o.map f=some x:=by
 cases o with
 | none=>cases a
 | some s=>cases a;rfl
def hV{σ α β:Type}{o:Option σ}{f:σ->α}{g:σ->β}{x:α}{y:β}(a:o.map (λs=>(f s,g s))=some (x,y)):o.map g=some y:=by
 cases o with
 | none=>cases a
 | some s=>cases a;rfl
def left{α:Type}{Yf:Shared->α}{Ya:World->α}(go:∀(w:World) (os:OsState),(rn w os).map (λs=>(staticsOk (importedModules PySem.Challenge.pw_rowbetween_k33_between.main.body) (boot_heap w.params) s.heap&&namesBound PySem.Challenge.pw_rowbetween_k33_between s.heap&&gensDone s&&laidKept (boot_heap w.params) s.heap,openSeen vw ["OPPOSITES"] (importedModules PySem.Challenge.pw_rowbetween_k33_between.main.body) xt true s,Yf s))=some (true,openGood vw ["OPPOSITES"],Ya w)):LeftO PySem.Challenge.pw_rowbetween_k33_between vw ["OPPOSITES"] xt Yf Ya 5498 true:=λw=>by
 obtain⟨⟨h,gs,d,k,os⟩,e1,e2⟩:=Ig.mp (boot_open (p:=PySem.Challenge.pw_rowbetween_k33_between) (N:=5498) (by kernel_rfl) (by decide) (λs=>rfl) w);obtain⟨rfl,rfl,rfl,rfl⟩:h=boot_heap w.params/\gs=#[]/\d=boot_drawn/\k=boot_toks:=by simpa using e2
 have size:((boot_heap w.params).isNs mainGlobals,(boot_heap w.params).objs.size,(boot_heap w.params).nsMap mainGlobals "__annotations__")=(true,11,some (Value.ref 6)):=by kernel_rfl
 simp only[Prod.mk.injEq] at size;obtain⟨z1,z2,z3⟩:=size;obtain⟨s,r1,r2⟩:=Ig.mp (go w os);simp only[Prod.mk.injEq] at r2;obtain⟨l1,l2,l3⟩:=r2;unfold openEnds;rw[e1];show (topFrom treeTable PySem.Challenge.pw_rowbetween_k33_between w 5498 (st0 w os)).map _=_;have t:topFrom treeTable PySem.Challenge.pw_rowbetween_k33_between w 5498 (st0 w os)=some s:=by
  unfold topFrom;rw[show (st0 w os).heap=boot_heap w.params from rfl,z1,z2,z3];unfold rn at r1;rw[r1];show (match _&&_&&_&&_ with | true=>_ | false=>_)=_;rw[l1]
 rw[t];exact Hf some (Prod.ext (by exact l2) (by exact l3))
def twoRows{α:Type}{Yf:Shared->α}{Ya:World->α}(row:String)(a:∀(w:World) (os:OsState),(rn (w.withFollow row false) os).map (λs=>(staticsOk (importedModules PySem.Challenge.pw_rowbetween_k33_between.main.body) (boot_heap (w.withFollow row false).params) s.heap&&namesBound PySem.Challenge.pw_rowbetween_k33_between s.heap&&gensDone s&&laidKept (boot_heap (w.withFollow row false).params) s.heap,openSeen vw ["OPPOSITES"] (importedModules PySem.Challenge.pw_rowbetween_k33_between.main.body) xt true s,Yf s))=some (true,openGood vw ["OPPOSITES"],Ya (w.withFollow row false)))(b:∀(w:World) (os:OsState),(rn (w.withFollow row true) os).map (λs=>(staticsOk (importedModules PySem.Challenge.pw_rowbetween_k33_between.main.body) (boot_heap (w.withFollow row true).params) s.heap&&namesBound PySem.Challenge.pw_rowbetween_k33_between s.heap&&gensDone s&&laidKept (boot_heap (w.withFollow row true).params) s.heap,openSeen vw ["OPPOSITES"] (importedModules PySem.Challenge.pw_rowbetween_k33_between.main.body) xt true s,Yf s))=some (true,openGood vw ["OPPOSITES"],Ya (w.withFollow row true))):∀(w:World) (os:OsState),(rn w os).map (λs=>(staticsOk (importedModules PySem.Challenge.pw_rowbetween_k33_between.main.body) (boot_heap w.params) s.heap&&namesBound PySem.Challenge.pw_rowbetween_k33_between s.heap&&gensDone s&&laidKept (boot_heap w.params) s.heap,openSeen vw ["OPPOSITES"] (importedModules PySem.Challenge.pw_rowbetween_k33_between.main.body) xt true s,Yf s))=some (true,openGood vw ["OPPOSITES"],Ya w) :=
 byRow2 row (P:=λw=>∀os:OsState,(rn w os).map (λs=>(staticsOk (importedModules PySem.Challenge.pw_rowbetween_k33_between.main.body) (boot_heap w.params) s.heap&&namesBound PySem.Challenge.pw_rowbetween_k33_between s.heap&&gensDone s&&laidKept (boot_heap w.params) s.heap,openSeen vw ["OPPOSITES"] (importedModules PySem.Challenge.pw_rowbetween_k33_between.main.body) xt true s,Yf s))=some (true,openGood vw ["OPPOSITES"],Ya w)) a b
def pV(w:World)(os:OsState):(rn (w.withFollow "special-get-raises" false) os).map (λs=>(staticsOk (importedModules PySem.Challenge.pw_rowbetween_k33_between.main.body) (boot_heap (w.withFollow "special-get-raises" false).params) s.heap&&namesBound PySem.Challenge.pw_rowbetween_k33_between s.heap&&gensDone s&&laidKept (boot_heap (w.withFollow "special-get-raises" false).params) s.heap,seen ((recsOf vw).map (·.name)) (ownsOf vw) [] { s with gens:=#[] },s.heap.bltView,s.heap.keysOk (looseW vw ["OPPOSITES"]) ((recsOf vw).map (·.name)) ((litsOf vw).map (·.1)) ((clssOf vw (looseW vw ["OPPOSITES"])).map (·.name))&&s.heap.accountedOkI (importedModules PySem.Challenge.pw_rowbetween_k33_between.main.body)&&s.heap.isNs mainGlobals&&s.heap.isNs builtinsNs&&tablesOk vw s.heap&&xt s&&(if true then s.gens.size==0 else !leftWithCleanup s.gens)))=some ((true),(expectedOf vw),(bltViewBooted),(true)):=by
 (refine dQ ?_ (dQ ?_ (dQ ?_ ?_)));(focus (walk_at "hf"));(focus (walk_at "hf"));(focus (walk_at "hf"));(focus (walk_at "hf"))
def AS(w:World)(os:OsState):(rn (w.withFollow "special-get-raises" false) os).map (λs=>staticsOk (importedModules PySem.Challenge.pw_rowbetween_k33_between.main.body) (boot_heap (w.withFollow "special-get-raises" false).params) s.heap&&namesBound PySem.Challenge.pw_rowbetween_k33_between s.heap&&gensDone s&&laidKept (boot_heap (w.withFollow "special-get-raises" false).params) s.heap)=some (true):=(ph (pV w os))
def A5(w:World)(os:OsState):(rn (w.withFollow "special-get-raises" false) os).map (λs=>seen ((recsOf vw).map (·.name)) (ownsOf vw) [] { s with gens:=#[] })=some (expectedOf vw):=(ph (hV (pV w os)))
def zC(w:World)(os:OsState):(rn (w.withFollow "special-get-raises" false) os).map (λs=>s.heap.bltView)=some (bltViewBooted):=(ph (hV (hV (pV w os))))
def yP(w:World)(os:OsState):(rn (w.withFollow "special-get-raises" false) os).map (λs=>s.heap.keysOk (looseW vw ["OPPOSITES"]) ((recsOf vw).map (·.name)) ((litsOf vw).map (·.1)) ((clssOf vw (looseW vw ["OPPOSITES"])).map (·.name))&&s.heap.accountedOkI (importedModules PySem.Challenge.pw_rowbetween_k33_between.main.body)&&s.heap.isNs mainGlobals&&s.heap.isNs builtinsNs&&tablesOk vw s.heap&&xt s&&(if true then s.gens.size==0 else !leftWithCleanup s.gens))=some (true):=(hV (hV (hV (pV w os))))
def uR(w:World)(os:OsState):(rn (w.withFollow "special-get-raises" false) os).map (λs=>(tabsOk vw s,pinSeenD vw (drecsOf vw) s,plainSeenE vw (looseW vw ["OPPOSITES"]) s))=some ((true),(pinGoodD (drecsOf vw)),(plainGoodE vw (looseW vw ["OPPOSITES"]))):=by
 (refine dQ ?_ (dQ ?_ ?_));(focus (walk_at "hf"));(focus (walk_at "hf"));(focus (walk_at "hf"))
def yC(w:World)(os:OsState):(rn (w.withFollow "special-get-raises" false) os).map (λs=>tabsOk vw s)=some (true):=(ph (uR w os))
def Ad(w:World)(os:OsState):(rn (w.withFollow "special-get-raises" false) os).map (λs=>pinSeenD vw (drecsOf vw) s)=some (pinGoodD (drecsOf vw)):=(ph (hV (uR w os)))
def yD(w:World)(os:OsState):(rn (w.withFollow "special-get-raises" false) os).map (λs=>plainSeenE vw (looseW vw ["OPPOSITES"]) s)=some (plainGoodE vw (looseW vw ["OPPOSITES"])):=(hV (hV (uR w os)))
def u8(w:World)(os:OsState):(rn (w.withFollow "special-get-raises" false) os).map (λs=>(plainSeenD vw ["OPPOSITES"] s,wideSeen vw s,clsSeenW vw ["OPPOSITES"] s))=some ((plainGoodD vw ["OPPOSITES"]),(wideGood vw),(clsGoodW vw ["OPPOSITES"])):=by
 (refine dQ ?_ (dQ ?_ ?_));(focus (walk_at "hf"));(focus (walk_at "hf"));(focus (walk_at "hf"))
def zD(w:World)(os:OsState):(rn (w.withFollow "special-get-raises" false) os).map (λs=>plainSeenD vw ["OPPOSITES"] s)=some (plainGoodD vw ["OPPOSITES"]):=(ph (u8 w os))
def zQ(w:World)(os:OsState):(rn (w.withFollow "special-get-raises" false) os).map (λs=>wideSeen vw s)=some (wideGood vw):=(ph (hV (u8 w os)))
def yG(w:World)(os:OsState):(rn (w.withFollow "special-get-raises" false) os).map (λs=>clsSeenW vw ["OPPOSITES"] s)=some (clsGoodW vw ["OPPOSITES"]):=(hV (hV (u8 w os)))
def AV(w:World)(os:OsState):(rn (w.withFollow "special-get-raises" false) os).map (λs=>openSeen vw ["OPPOSITES"] (importedModules PySem.Challenge.pw_rowbetween_k33_between.main.body) xt true s)=some (openGood vw ["OPPOSITES"]):=(dQ (A5 w os) (dQ (zC w os) (dQ (yP w os) (dQ (yC w os) (dQ (Ad w os) (dQ (yD w os) (dQ (zD w os) (dQ (zQ w os) (yG w os)))))))))
def all_a{α:Type}{Yf:Shared->α}{Ya:World->α}(h:∀(w:World) (os:OsState),(rn (w.withFollow "special-get-raises" false) os).map (λs=>Yf s)=some (Ya (w.withFollow "special-get-raises" false)))(w:World)(os:OsState) :
  (rn (w.withFollow "special-get-raises" false) os).map (λs=>(staticsOk (importedModules PySem.Challenge.pw_rowbetween_k33_between.main.body) (boot_heap (w.withFollow "special-get-raises" false).params) s.heap&&namesBound PySem.Challenge.pw_rowbetween_k33_between s.heap&&gensDone s&&laidKept (boot_heap (w.withFollow "special-get-raises" false).params) s.heap,openSeen vw ["OPPOSITES"] (importedModules PySem.Challenge.pw_rowbetween_k33_between.main.body) xt true s,Yf s))=some (true,openGood vw ["OPPOSITES"],Ya (w.withFollow "special-get-raises" false)):=dQ (AS w os) (dQ (AV w os) (h w os))
def qm(w:World)(os:OsState):(rn (w.withFollow "special-get-raises" true) os).map (λs=>(staticsOk (importedModules PySem.Challenge.pw_rowbetween_k33_between.main.body) (boot_heap (w.withFollow "special-get-raises" true).params) s.heap&&namesBound PySem.Challenge.pw_rowbetween_k33_between s.heap&&gensDone s&&laidKept (boot_heap (w.withFollow "special-get-raises" true).params) s.heap,seen ((recsOf vw).map (·.name)) (ownsOf vw) [] { s with gens:=#[] },s.heap.bltView,s.heap.keysOk (looseW vw ["OPPOSITES"]) ((recsOf vw).map (·.name)) ((litsOf vw).map (·.1)) ((clssOf vw (looseW vw ["OPPOSITES"])).map (·.name))&&s.heap.accountedOkI (importedModules PySem.Challenge.pw_rowbetween_k33_between.main.body)&&s.heap.isNs mainGlobals&&s.heap.isNs builtinsNs&&tablesOk vw s.heap&&xt s&&(if true then s.gens.size==0 else !leftWithCleanup s.gens)))=some ((true),(expectedOf vw),(bltViewBooted),(true)):=by
 (refine dQ ?_ (dQ ?_ (dQ ?_ ?_)));(focus (walk_at "hf"));(focus (walk_at "hf"));(focus (walk_at "hf"));(focus (walk_at "hf"))
def yH(w:World)(os:OsState):(rn (w.withFollow "special-get-raises" true) os).map (λs=>staticsOk (importedModules PySem.Challenge.pw_rowbetween_k33_between.main.body) (boot_heap (w.withFollow "special-get-raises" true).params) s.heap&&namesBound PySem.Challenge.pw_rowbetween_k33_between s.heap&&gensDone s&&laidKept (boot_heap (w.withFollow "special-get-raises" true).params) s.heap)=some (true):=(ph (qm w os))
def yt(w:World)(os:OsState):(rn (w.withFollow "special-get-raises" true) os).map (λs=>seen ((recsOf vw).map (·.name)) (ownsOf vw) [] { s with gens:=#[] })=some (expectedOf vw):=(ph (hV (qm w os)))
def AI(w:World)(os:OsState):(rn (w.withFollow "special-get-raises" true) os).map (λs=>s.heap.bltView)=some (bltViewBooted):=(ph (hV (hV (qm w os))))
def AC(w:World)(os:OsState):(rn (w.withFollow "special-get-raises" true) os).map (λs=>s.heap.keysOk (looseW vw ["OPPOSITES"]) ((recsOf vw).map (·.name)) ((litsOf vw).map (·.1)) ((clssOf vw (looseW vw ["OPPOSITES"])).map (·.name))&&s.heap.accountedOkI (importedModules PySem.Challenge.pw_rowbetween_k33_between.main.body)&&s.heap.isNs mainGlobals&&s.heap.isNs builtinsNs&&tablesOk vw s.heap&&xt s&&(if true then s.gens.size==0 else !leftWithCleanup s.gens))=some (true):=(hV (hV (hV (qm w os))))
def uJ(w:World)(os:OsState):(rn (w.withFollow "special-get-raises" true) os).map (λs=>(tabsOk vw s,pinSeenD vw (drecsOf vw) s,plainSeenE vw (looseW vw ["OPPOSITES"]) s))=some ((true),(pinGoodD (drecsOf vw)),(plainGoodE vw (looseW vw ["OPPOSITES"]))):=by
 (refine dQ ?_ (dQ ?_ ?_));(focus (walk_at "hf"));(focus (walk_at "hf"));(focus (walk_at "hf"))
def yI(w:World)(os:OsState):(rn (w.withFollow "special-get-raises" true) os).map (λs=>tabsOk vw s)=some (true):=(ph (uJ w os))
def Be(w:World)(os:OsState):(rn (w.withFollow "special-get-raises" true) os).map (λs=>pinSeenD vw (drecsOf vw) s)=some (pinGoodD (drecsOf vw)):=(ph (hV (uJ w os)))
def An(w:World)(os:OsState):(rn (w.withFollow "special-get-raises" true) os).map (λs=>plainSeenE vw (looseW vw ["OPPOSITES"]) s)=some (plainGoodE vw (looseW vw ["OPPOSITES"])):=(hV (hV (uJ w os)))
def uU(w:World)(os:OsState):(rn (w.withFollow "special-get-raises" true) os).map (λs=>(plainSeenD vw ["OPPOSITES"] s,wideSeen vw s,clsSeenW vw ["OPPOSITES"] s))=some ((plainGoodD vw ["OPPOSITES"]),(wideGood vw),(clsGoodW vw ["OPPOSITES"])):=by
 (refine dQ ?_ (dQ ?_ ?_));(focus (walk_at "hf"));(focus (walk_at "hf"));(focus (walk_at "hf"))
def Ab(w:World)(os:OsState):(rn (w.withFollow "special-get-raises" true) os).map (λs=>plainSeenD vw ["OPPOSITES"] s)=some (plainGoodD vw ["OPPOSITES"]):=(ph (uU w os))
def zn(w:World)(os:OsState):(rn (w.withFollow "special-get-raises" true) os).map (λs=>wideSeen vw s)=some (wideGood vw):=(ph (hV (uU w os)))
def zY(w:World)(os:OsState):(rn (w.withFollow "special-get-raises" true) os).map (λs=>clsSeenW vw ["OPPOSITES"] s)=some (clsGoodW vw ["OPPOSITES"]):=(hV (hV (uU w os)))
def A6(w:World)(os:OsState):(rn (w.withFollow "special-get-raises" true) os).map (λs=>openSeen vw ["OPPOSITES"] (importedModules PySem.Challenge.pw_rowbetween_k33_between.main.body) xt true s)=some (openGood vw ["OPPOSITES"]):=(dQ (yt w os) (dQ (AI w os) (dQ (AC w os) (dQ (yI w os) (dQ (Be w os) (dQ (An w os) (dQ (Ab w os) (dQ (zn w os) (zY w os)))))))))
def all_b{α:Type}{Yf:Shared->α}{Ya:World->α}(h:∀(w:World) (os:OsState),(rn (w.withFollow "special-get-raises" true) os).map (λs=>Yf s)=some (Ya (w.withFollow "special-get-raises" true)))(w:World)(os:OsState) :
  (rn (w.withFollow "special-get-raises" true) os).map (λs=>(staticsOk (importedModules PySem.Challenge.pw_rowbetween_k33_between.main.body) (boot_heap (w.withFollow "special-get-raises" true).params) s.heap&&namesBound PySem.Challenge.pw_rowbetween_k33_between s.heap&&gensDone s&&laidKept (boot_heap (w.withFollow "special-get-raises" true).params) s.heap,openSeen vw ["OPPOSITES"] (importedModules PySem.Challenge.pw_rowbetween_k33_between.main.body) xt true s,Yf s))=some (true,openGood vw ["OPPOSITES"],Ya (w.withFollow "special-get-raises" true)):=dQ (yH w os) (dQ (A6 w os) (h w os))
end Hd
structure Hd.Facts(K:PySem.W.Frag):Prop where
 q0:DL.FdK K "common_divisor" Lw.s_common_divisor
 q1:DL.FdK K "made" Lw.s_made
 q2:DL.FdK K "plus" Lw.s_plus
 q3:DL.FdK K "times" Lw.s_times
 q4:DL.FdK K "less" Lw.s_less
 q5:DL.FdK K "is_row" Lw.s_is_row
 q6:DL.FdK K "mark_names" Lw.s_mark_names
 q7:DL.FdK K "names_of" Lw.s_names_of
 q8:DL.FdK K "tops_of" Lw.s_tops_of
 q9:DL.FdK K "top_of_sum" Lw.s_top_of_sum
 q10:DL.FdK K "row_is_so" Lw.s_row_is_so
 q11:DL.FdK K "part_is_so" Lw.s_part_is_so
 q12:DL.FdK K "is_so" Lw.s_is_so
 q13:DL.FdK K "contrary" Lw.s_contrary
 q14:DL.FdK K "plain_part" Lw.s_plain_part
 q15:DL.FdK K "plain" Lw.s_plain
 q16:DL.FdK K "_law_cell" Lw.s__law_cell
 q17:DL.FdK K "put_together" Lw.s_put_together
 q18:DL.FdK K "cases_within" Lw.s_cases_within
 q19:DL.FdK K "cases" Lw.s_cases
 q20:DL.FdK K "added" Lw.s_added
 q21:DL.FdK K "weight_of" Lw.s_weight_of
 q22:DL.FdK K "alone" Lw.s_alone
 q23:DL.FdK K "shortened" Lw.s_shortened
 q24:DL.FdK K "crossed" Lw.s_crossed
 q25:DL.FdK K "without" Lw.s_without
 q26:DL.FdK K "taken_out" Lw.s_taken_out
 q27:DL.FdK K "bound_on" Lw.s_bound_on
 q28:DL.FdK K "tighter" Lw.s_tighter
 q29:DL.FdK K "number_in" Lw.s_number_in
 q30:DL.FdK K "piece_for" Lw.s_piece_for
 q31:DL.FdK K "found_back" Lw.s_found_back
 q32:DL.FdK K "solved" Lw.s_solved
 q33:DL.FdK K "both_so" Lw.s_both_so
 q34:DL.FdK K "joined" Lw.s_joined
 q35:DL.FdK K "between" Lw.s_between
 q36:DL.FdK K "_law_whole" Lw.s__law_whole
 q37:DL.FdK K "_law_over" Lw.s__law_over
 q38:DL.FdK K "_law_total" Lw.s__law_total
 q39:DL.FdK K "_law_row_so" Lw.s__law_row_so
 q40:DL.FdK K "_law_number" Lw.s__law_number
 q41:DL.FdK K "_law_line" Lw.s__law_line
 q42:DL.FdK K "_law_fence" Lw.s__law_fence
 q43:DL.FdK K "_law_shaped" Lw.s__law_shaped
 q44:DL.FdK K "_law_sayings" Lw.s__law_sayings
 q45:DL.FdK K "_law_so" Lw.s__law_so
 q46:DL.FdK K "_law_names" Lw.s__law_names
 q47:DL.FdK K "_law_formed" Lw.s__law_formed
 q48:DL.FdK K "_law_mixed" Lw.s__law_mixed
 q49:DL.FdK K "_law_drawn" Lw.s__law_drawn
 q50:DL.FdK K "_law_points" Lw.s__law_points
 q51:DL.FdK K "law" Lw.s_law
 z0:PySem.W.nsIn K PySem.mainGlobals "abs"=some none
 z1:PySem.W.nsIn K PySem.mainGlobals "sorted"=some none
 z2:PySem.W.nsIn K PySem.mainGlobals "tuple"=some none
 z3:PySem.W.nsIn K PySem.mainGlobals "len"=some none
 z4:PySem.W.nsIn K PySem.mainGlobals "max"=some none
 z5:PySem.W.nsIn K PySem.mainGlobals "zip"=some none
 z6:PySem.W.nsIn K PySem.mainGlobals "enumerate"=some none
 z7:PySem.W.nsIn K PySem.mainGlobals "range"=some none
 z8:PySem.W.nsIn K PySem.mainGlobals "reversed"=some none
 z9:PySem.W.nsIn K PySem.mainGlobals "dict"=some none
 z10:PySem.W.nsIn K PySem.mainGlobals "isinstance"=some none
 z11:PySem.W.nsIn K PySem.mainGlobals "bool"=some none
 z12:PySem.W.nsIn K PySem.mainGlobals "int"=some none
 z13:PySem.W.nsIn K PySem.mainGlobals "set"=some none
 z14:PySem.W.nsIn K PySem.mainGlobals "sum"=some none
 g_OPPOSITES:∃ga:PySem.Addr,PySem.W.nsIn K PySem.mainGlobals "OPPOSITES"=some (some (.ref ga))/\PyProof.Rows.KTD.tabLook (PyProof.Rows.KTD.datLooks λb=>K.lookup b) (λb=>K.lookup b) ga (DL.txt [("least","more"),("more","least"),("both","either"),("either","both")])=true
 g_MOST_ROWS:∃ga:PySem.Tok,PySem.W.nsIn K PySem.mainGlobals "MOST_ROWS"=some (some (.int 3 ga))
 g_MOST_CASES:∃ga:PySem.Tok,PySem.W.nsIn K PySem.mainGlobals "MOST_CASES"=some (some (.int 4 ga))
 g_ENDLESS:∃(ga:PySem.Addr) (od:Option PySem.Addr) (n:Nat) (sl:Array (Option PySem.Value)),PySem.W.nsIn K PySem.mainGlobals "ENDLESS"=some (some (.ref ga))/\K.lookup ga=some ⟨.type "tuple",od,.seq #[.none,.bool false] n,sl⟩
section
open PySem PySem.W PyProof.Rows
local macro_rules | `(tactic| o_head $H) => `(tactic| (
 refine PySem.W.holds_open (r:=PySem.Challenge.rw_rowbetween_k33_between.row) (q:=Hd.vw) (loose:=["OPPOSITES"]) (Xt:=Hd.xt)
  (XP:=PySem.W.XL Hd.vw []) (Yf:=PySem.W.Hook.obs $H) (Ya:=PySem.W.Hook.val $H) (YP:=PySem.W.Hook.says $H) (N:=5498)
  ?_ (PySem.W.Hook.of $H) (PySem.W.Hook.keeps $H) (λs e=>PySem.W.xl_of s (Gq.mp e).1)
  PySem.W.XL.keeps (by rfl) (by rfl) (by rfl) (λs e=>PySem.W.recFacts_of (Gq.mp e).2)
  (by rfl) (by first | assumption | decide +kernel) (by decide +kernel) ⟨rfl,rfl,rfl,rfl,rfl,by decide +kernel⟩ ?_ ?_
 (focus (refine Hd.left ?_;refine Hd.twoRows "special-get-raises" (Hd.all_a ?_) (Hd.all_b ?_);(focus (intro w os;unfold Hd.rn Hd.st0;(try rw[PySem.W.Fast.te14082659384304107361]);(try rw[PySem.W.Fast.te14364793385576792824]);(try rw[PySem.W.Fast.te5160383126252970620]);(try rw[PySem.W.Fast.te10880121769531294198]);(try rw[PySem.W.Fast.te14722251495701143533]);(try rw[PySem.W.Fast.te10994771534591457954]);(try rw[PySem.W.Fast.te479339242167458305]);(try rw[PySem.W.Fast.te16090120013241838585]);(try rw[PySem.W.Fast.te2386780881361962483]);(try rw[PySem.W.Fast.te11698064438423848299]);(try rw[PySem.W.Fast.te7317090234206586261]);(try rw[PySem.W.Fast.te7369524293546568484]);(try rw[PySem.W.Fast.te821141287760084731]);(try rw[PySem.W.Fast.te3399658132070893891]);(try rw[PySem.W.Fast.te7409074990110511671]);(try rw[PySem.W.Fast.te13664370479719496447]);(try rw[PySem.W.Fast.te5991557255702980513]);(try rw[PySem.W.Fast.te3247288618530077131]);(try rw[PySem.W.Fast.te5923862056798008813]);kernel_rfl));(focus (intro w os;unfold Hd.rn Hd.st0;(try rw[PySem.W.Fast.te14082659384304107361]);(try rw[PySem.W.Fast.te14364793385576792824]);(try rw[PySem.W.Fast.te5160383126252970620]);(try rw[PySem.W.Fast.te10880121769531294198]);(try rw[PySem.W.Fast.te14722251495701143533]);(try rw[PySem.W.Fast.te10994771534591457954]);(try rw[PySem.W.Fast.te479339242167458305]);(try rw[PySem.W.Fast.te16090120013241838585]);(try rw[PySem.W.Fast.te2386780881361962483]);(try rw[PySem.W.Fast.te11698064438423848299]);(try rw[PySem.W.Fast.te7317090234206586261]);(try rw[PySem.W.Fast.te7369524293546568484]);(try rw[PySem.W.Fast.te821141287760084731]);(try rw[PySem.W.Fast.te3399658132070893891]);(try rw[PySem.W.Fast.te7409074990110511671]);(try rw[PySem.W.Fast.te13664370479719496447]);(try rw[PySem.W.Fast.te5991557255702980513]);(try rw[PySem.W.Fast.te3247288618530077131]);(try rw[PySem.W.Fast.te5923862056798008813]);kernel_rfl))))
 (focus w_witness2)))
set_option maxRecDepth 100000 in
set_option maxHeartbeats 0 in
def Hd.half(F:∀(YP:World->Heap->Prop) (d:DefRec) (K:Params->PySem.W.Frag),(∀(w:World) (h:Heap),YP w h->(K w.params).In h)->d.params.defaults=[]->d.name="law"->(∀w:World,Hd.Facts (K w.params))->PySem.W.WalkO Hd.vw ["OPPOSITES"] (PySem.W.XL Hd.vw []) YP PySem.Challenge.rw_rowbetween_k33_between.row.toRowW d [] (λf vs=>PySem.call f vs)):PySem.Challenge.rw_rowbetween_k33_between.Holds:=by
 w_on;refine PySem.W.holds_law Hd.said λsaid=>?_;k_head
 k_fill
 refine F _ _ _ (λw h Y=>PySem.W.kIn_of Y) rfl rfl λw=>?_
 constructor
 iterate 52 (focus (exact⟨⟨_,_,_,_,_,_,_,_,_,_,by k_is,by k_is,by k_is,by k_is⟩⟩))
 ·k_is
 ·k_is
 ·k_is
 ·k_is
 ·k_is
 ·k_is
 ·k_is
 ·k_is
 ·k_is
 ·k_is
 ·k_is
 ·k_is
 ·k_is
 ·k_is
 ·k_is
 ·exact⟨_,by k_is,by kernel_rfl⟩
 ·exact⟨_,by k_is⟩
 ·exact⟨_,by k_is⟩
 ·exact⟨_,_,_,_,by k_is,by k_is⟩
end
namespace L2
open PySem PySem.Spec PyProof.Rows
abbrev Fo:=Sum Int Str
def nR:Fo->Value->Bool
 | .inl k,v=>Value.isInt k v
 | .inr x,v=>Value.isStrOf x v
def keyH(w:World):Fo->Int
 | .inl k=>hashInt k
 | .inr x=>hashStr w x
def aY:∀ {k:Fo} {v:Value},nR k v=true->(∃i t,k=Sum.inl i/\v=Value.int i t)\/(∃x t,k=Sum.inr x/\v=Value.str x t)
 | .inl i,v,h=>by
  obtain⟨t,e⟩:=Value.isInt_shape (k:=i) (v:=v) h;exact .inl ⟨i,t,rfl,e⟩
 | .inr x,v,h=>by
  obtain⟨t,e⟩:=Value.isStrOf_shape (x:=x) (v:=v) h;exact .inr ⟨x,t,rfl,e⟩
def tJ(i:Int)(t:Tok):nR (.inl i) (.int i t)=true:=by simp[nR,Value.isInt]
def u9(x:Str)(t:Tok):nR (.inr x) (.str x t)=true:=by simp[nR,Value.isStrOf]
def B2(a b:Int):decide ((Sum.inl a:Fo)=Sum.inl b)=(a==b):=by
 by_cases e:a=b
 ·subst e;simp
 ·have h:¬ (Sum.inl a:Fo)=Sum.inl b:=λq=>e (Sum.inl.inj q)
  rw[Gx h];exact(ID.mpr e).symm
def De(a b:Str):decide ((Sum.inr a:Fo)=Sum.inr b)=decide (a=b):=by
 by_cases e:a=b
 ·subst e;simp
 ·have h:¬ (Sum.inr a:Fo)=Sum.inr b:=λq=>e (Sum.inr.inj q)
  rw[Gx h,Gx e]
def Bw(a:Int)(b:Str):decide ((Sum.inl a:Fo)=Sum.inr b)=false:=Gx (λq=>nomatch q)
def C8(a:Str)(b:Int):decide ((Sum.inr a:Fo)=Sum.inl b)=false:=Gx (λq=>nomatch q)
def aZ(prog:Program)(w:World):PySem.KeyKind prog w Fo where
 is:=nR
 hash:=keyH w
 inj:=λv a b ha hb=>by
  rcases aY ha with⟨i,t,rfl,rfl⟩ | ⟨x,t,rfl,rfl⟩
  ·rcases aY hb with⟨j,u,rfl,e⟩ | ⟨y,u,rfl,e⟩
   ·injection e with e1 _;rw[e1]
   ·exact nomatch e
  ·rcases aY hb with⟨j,u,rfl,e⟩ | ⟨y,u,rfl,e⟩
   ·exact nomatch e
   ·injection e with e1 _;rw[e1]
 byValue:=λk v h=>by
  rcases aY h with⟨i,t,rfl,rfl⟩ | ⟨x,t,rfl,rfl⟩<;>rfl
 pyHash:=λhv h=>by
  rcases aY hv with⟨i,t,rfl,rfl⟩ | ⟨x,t,rfl,rfl⟩
  ·exact wpAny_pyHash_int h
  ·exact wpAny_pyHash_str h
 eqBool:=λhu hv h=>by
  rcases aY hu with⟨i,t,rfl,rfl⟩ | ⟨x,t,rfl,rfl⟩
  ·rcases aY hv with⟨j,u,rfl,rfl⟩ | ⟨y,u,rfl,rfl⟩
   ·rw[B2] at h;exact wpAny_eqBool_int h
   ·rw[Bw] at h;exact SeqAt.EqAt.int_str i t y u _ _ _ _ h
  ·rcases aY hv with⟨j,u,rfl,rfl⟩ | ⟨y,u,rfl,rfl⟩
   ·rw[C8] at h;exact SeqAt.EqAt.str_int x t j u _ _ _ _ h
   ·rw[De] at h;exact wpAny_eqBool_str h
 «strs»:=λk x t v h=>by
  rcases aY h with⟨i,u,rfl,e⟩ | ⟨y,u,rfl,e⟩
  ·exact nomatch e
  ·injection e with e1 _
   subst e1
   cases v<;>rfl
def ny(prog:Program)(w:World)(i:Int)(t:Tok):(aZ prog w).is (.inl i) (.int i t)=true:=tJ i t
def oO(prog:Program)(w:World)(x:Str)(t:Tok):(aZ prog w).is (.inr x) (.str x t)=true:=u9 x t
end L2
namespace L2
open PySem PySem.Spec PyProof.Rows
variable {a b:Addr} {h:Heap}
inductive V where
 | non | bl (b:Bool) | int (i:Int) | str (x:Str) | byt (b:Array UInt8) | flt (b:UInt64) | ref (a:Addr) | ty (n:String)
 deriving DecidableEq
def bB:V->Value->Prop
 | .non,u=>u=Value.none
 | .bl b,u=>u=Value.bool b
 | .int i,u=>∃t,u=Value.int i t
 | .str x,u=>∃t,u=Value.str x t
 | .byt b,u=>∃t,u=Value.bytes b t
 | .flt b,u=>∃t,u=Value.float b t
 | .ref a,u=>u=Value.ref a
 | .ty n,u=>u=Value.type n
abbrev bF:List V->List Value->Prop:=Paired bB
def bF.length{xs:List V}{us:List Value}(r:bF xs us):xs.length=us.length:=Paired.length r
def bF.get:∀ {xs:List V} {us:List Value} {i:Nat} {x:V},bF xs us->xs[i]?=some x->∃u,us[i]?=some u/\bB x u
 | _,_,_,_,.nil,e=>by simp at e
 | _,_,0,_,.cons r _,e=>by simp at e;subst e;exact⟨_,rfl,r⟩
 | _,_,i+1,x,.cons _ t,e=>by
  obtain⟨u,h1,h2⟩:=bF.get (i:=i) (x:=x) t (by simpa using e);exact⟨u,by simpa using h1,h2⟩
def bF.append:∀ {xs ys:List V} {us ws:List Value},bF xs us->bF ys ws->bF (xs++ys) (us++ws)
 | _,_,_,_,.nil,s=>s
 | _,_,_,_,.cons r t,s=>.cons r (bF.append t s)
def bF.take:∀ {xs:List V} {us:List Value} (n:Nat),bF xs us->bF (xs.take n) (us.take n)
 | _,_,0,_=>.nil
 | _,_,_+1,.nil=>.nil
 | _,_,n+1,.cons r t=>.cons r (bF.take n t)
def bF.drop:∀ {xs:List V} {us:List Value} (n:Nat),bF xs us->bF (xs.drop n) (us.drop n)
 | _,_,0,r=>r
 | _,_,_+1,.nil=>.nil
 | _,_,n+1,.cons _ t=>bF.drop n t
def rL:Option V->Option Value->Prop
 | some v,some u=>bB v u
 | none,none=>True
 | _,_=>False
def KV{κ:Type}:List (κ×V)->List (κ×Value)->Prop:=Paired λ(p:κ×V) (q:κ×Value)=>p.1=q.1/\bB p.2 q.2
def kV:Fo->V
 | .inl i=>.int i
 | .inr x=>.str x
inductive HO where
 | lst (xs:List V)
 | tup (xs:List V)
 | dK (kvs:List (Fo×V)) | dT (kvs:List (List Fo×V))
 | set (S:Int->Bool) (n:Nat)
 | ins (C dx:Addr) (fs:List (Str×V))
 | own (x:Addr)
 | xd (fs:List (Str×V))
 | met (f x:Addr)
 | rng (lo hi:Int)
 | frz (o:Obj) (u:HO)
 | tbl (ps:Array Value)
 | ext (φ:Heap->Prop)
abbrev Hp:=Addr->Option HO
def FI(H:Hp)(a:Addr)(o:HO):Hp:=λb=>if b=a then some o else H b
def aF{H:Hp}{o:HO}:FI H a o a=some o:=by unfold FI;rw[Gd rfl]
def aI{H:Hp}{o:HO}(h:b≠a):FI H a o b=H b:=by unfold FI;rw[Gb h]
def Ey{H:Hp}{o u:HO}(h:H a=some o)(h':H b=some u)(d:o≠u):a≠b:=by
 intro e;subst e;rw[h] at h';exact d (Gc h')
def cy{H:Hp}{o:HO}(h:H a=some o)(h':H b=none):a≠b:=by
 intro e;subst e;rw[h] at h';cases h'
section
variable (P:Program) (w:World)
def bO(H:Hp)(h:Heap)(a:Addr):HO->Prop
 | .lst xs=>xs.length<=sizeLine/\∃(its:List Value) (n:Nat),bF xs its/\h.get? a=some { cls:=.type "list",data:=.seq its.toArray n }
 | .tup xs=>xs.length<=sizeLine/\∃its:List Value,bF xs its/\IsTup h a its.toArray
 | .dK kvs=>kvs.length<=sizeLine/\(a==sysModules)=false/\∃vs,KV kvs vs/\h.DictOf (aZ P w) a vs
 | .dT kvs=>kvs.length<=sizeLine/\(a==sysModules)=false/\∃xs:List (List Fo×Addr×Value),
   Paired (λ(p:List Fo×V) (q:List Fo×Addr×Value)=>p.1=q.1/\H q.2.1=some (.tup (p.1.map kV))/\bB p.2 q.2.2) kvs xs /\
   ∃o es ep,h.get? a=some o/\o.ExactDict/\o.data=.dict es ep/\es.toList=xs.map (entryOfKey (tupleKind (aZ P w)))/\(xs.map (·.1)).Nodup
 | .set S n=>h.SetOf (intKind P w) a S n
 | .ins C dx fs=>H dx=some (.own a)/\fs.length<=1000/\dx≠a/\h.get? a=some (PySem.W.instObj C dx) /\
   ∃mA,h.Ns1 dx mA/\(∀f,rL (fs.lookup f) (mA f))/\PySem.Within mA (fs.map (·.1))
 | .own _=>∃o,h.get? a=some o
 | .xd fs=>∃mA,h.Ns1 a mA/\∀f,rL (fs.lookup f) (mA f)
 | .rng lo hi=>∃t u v,h.get? a=some { cls:=.type "range",data:=.fields #[.int lo t,.int hi u,.int 1 v] }
 | .frz o u=>h.get? a=some o/\bO H h a u
 | .tbl ps=>h.get? a=some { cls:=.none,data:=.fields ps }
 | .met f x=>h.get? a=some (PySem.W.methodObj (.ref f) (.ref x))
 | .ext φ=>φ h/\(∃o,h.get? a=some o)/\∀h1 h2:Heap,φ h1->(∀o,h1.get? a=some o->h2.get? a=some o)->φ h2
def FN(H:Hp)(h:Heap):Prop:=∀a o,H a=some o->bO P w H h a o
end
section
variable {P:Program} {w:World} {H H':Hp} {h h':Heap} {a:Addr} {o:HO}
def bO.lt(x:bO P w H h a o):a<h.objs.size:=by
 cases o with
 | lst xs=>obtain⟨_,_,_,_,e⟩:=x;exact Gg e
 | tup xs=>obtain⟨_,_,_,p⟩:=x;exact p.lt
 | dK kvs=>obtain⟨_,_,_,_,o,_,_,e,_⟩:=x;exact Gg e
 | dT kvs=>obtain⟨_,_,_,_,o,_,_,e,_⟩:=x;exact Gg e
 | set S n=>obtain⟨o,_,_,_,e,_⟩:=x;exact Gg e
 | ins C dx fs=>obtain⟨_,_,_,e,_⟩:=x;exact Gg e
 | own y=>obtain⟨_,e⟩:=x;exact Gg e
 | xd fs=>obtain⟨_,⟨_,_,_,e,_⟩,_⟩:=x;exact Gg e
 | rng lo hi=>obtain⟨_,_,_,e⟩:=x;exact Gg e
 | frz ob u=>obtain⟨e,_⟩:=x;exact Gg e
 | tbl ps=>exact Gg (show h.get? a=some _ from x)
 | met f y=>exact Gg (show h.get? a=some _ from x)
 | ext φ=>obtain⟨_,⟨_,e⟩,_⟩:=x;exact Gg e
def Paired.mapP{α β:Type}{F G:α->β->Prop}:∀ {l₁:List α} {l₂:List β},Paired F l₁ l₂->(∀a b,F a b->G a b)->Paired G l₁ l₂
 | _,_,.nil,_=>.nil
 | _,_,.cons r t,f=>.cons (f _ _ r) (Paired.mapP t f)
def bO.stay(x:bO P w H h a o)(k:∀b u,(b=a\/H b=some (.own a))->h.get? b=some u->h'.get? b=some u)
  (ho:∀b,H b=some (.own a)->H' b=some (.own a)) (ht:∀b xs,H b=some (.tup xs)->H' b=some (.tup xs)):bO P w H' h' a o:=by
 induction o with
 | lst xs=>obtain⟨z,its,n,r,e⟩:=x;exact⟨z,its,n,r,k _ _ (.inl rfl) e⟩
 | tup xs=>obtain⟨z,its,r,ob,e,c⟩:=x;exact⟨z,its,r,ob,k _ _ (.inl rfl) e,c⟩
 | dK kvs=>obtain⟨z,y,vs,r,ob,es,ep,e,c⟩:=x;exact⟨z,y,vs,r,ob,es,ep,k _ _ (.inl rfl) e,c⟩
 | dT kvs =>
  obtain⟨z,y,xs,r,ob,es,ep,e,c⟩:=x;exact⟨z,y,xs,Paired.mapP r λp q z=>⟨z.1,ht _ _ z.2.1,z.2.2⟩,ob,es,ep,k _ _ (.inl rfl) e,c⟩
 | set S n=>obtain⟨ob,es,ep,t,e,c⟩:=x;exact⟨ob,es,ep,t,k _ _ (.inl rfl) e,c⟩
 | ins C dx fs =>
  obtain⟨d,z,ne,e,mA,⟨od,es,ep,e2,c⟩,r⟩:=x;exact⟨ho _ d,z,ne,k _ _ (.inl rfl) e,mA,⟨od,es,ep,k _ _ (.inr d) e2,c⟩,r⟩
 | own y=>obtain⟨ob,e⟩:=x;exact⟨ob,k _ _ (.inl rfl) e⟩
 | xd fs=>obtain⟨mA,⟨od,es,ep,e,c⟩,r⟩:=x;exact⟨mA,⟨od,es,ep,k _ _ (.inl rfl) e,c⟩,r⟩
 | rng lo hi=>obtain⟨t,u,v,e⟩:=x;exact⟨t,u,v,k _ _ (.inl rfl) e⟩
 | frz ob u ih=>obtain⟨e,q⟩:=x;exact⟨k _ _ (.inl rfl) e,ih q⟩
 | tbl ps =>
  have e:h.get? a=some { cls:=.none,data:=.fields ps }:=x
  show h'.get? a=some { cls:=.none,data:=.fields ps }
  exact k a _ (.inl rfl) e
 | met f y =>
  have e:h.get? a=some (PySem.W.methodObj (.ref f) (.ref y)):=x
  show h'.get? a=some (PySem.W.methodObj (.ref f) (.ref y))
  exact k a _ (.inl rfl) e
 | ext φ=>obtain⟨p,⟨o,e⟩,st⟩:=x;exact⟨st _ _ p λo q=>k _ _ (.inl rfl) q,⟨o,k _ _ (.inl rfl) e⟩,st⟩
def FN.lt(x:FN P w H h)(e:H a=some o):a<h.objs.size:=(x a o e).lt
def FN.fresh(x:FN P w H h)(e:h.objs.size<=a):H a=none:=by
 cases q:H a with
 | none=>rfl
 | some u=>exact absurd (GA (x.lt q) e) (GQ _)
def FN.kept(x:FN P w H h)(k:∀b u,h.get? b=some u->h'.get? b=some u):FN P w H h':=λa o e =>
 (x a o e).stay (λb u _ q=>k b u q) (λ_ q=>q) λ_ _ q=>q
def FN.laid(x:FN P w H h)(k:∀b u,h.get? b=some u->h'.get? b=some u)(hp:h.objs.size<=a)(new:bO P w (FI H a o) h' a o):FN P w (FI H a o) h':=λb u e=>by
 have hn:=x.fresh hp
 by_cases hb:b=a
 ·subst hb;rw[aF] at e;cases e;exact new
 ·rw[aI hb] at e;exact(x b u e).stay (λc v _ q=>k c v q) (λc q=>by rw[aI (cy q hn)];exact q) λc xs q=>by rw[aI (cy q hn)];exact q
end
def Rd(H:Hp)(a:Addr)(u:HO):Prop:=H a=some u\/∃o,H a=some (.frz o u)
def Rd.of{H:Hp}{u:HO}(h:H a=some u):Rd H a u:=.inl h
def Rd.ok{P:Program}{w:World}{H:Hp}{u:HO}(r:Rd H a u)(x:FN P w H h):bO P w H h a u:=by
 rcases r with r | ⟨o,r⟩
 ·exact x a u r
 ·obtain⟨_,q⟩:=x a _ r;exact q
def Mut:Option HO->Prop
 | some (.lst _)=>True
 | some (.dK _)=>True
 | some (.dT _)=>True
 | some (.set _ _)=>True
 | some (.ins _ _ _)=>True
 | some (.ext _)=>True
 | _=>False
section
variable {P:Program} {w:World} {H:Hp} {h h':Heap} {x e:Addr} {o':HO}
def FN.write(ok:FN P w H h)(mu:Mut (H x))(he:e=x\/H e=some (.own x))(k:∀b u,b≠e->h.get? b=some u->h'.get? b=some u)(heo:∃u,h'.get? e=some u)
  (new:bO P w (FI H x o') h' x o'):FN P w (FI H x o') h':=λb u q=>by
 have nown:∀c y,H c=some (.own y)->c≠x:=λc y r z=>by subst z;rw[r] at mu;exact mu
 have ntup:∀c xs,H c=some (.tup xs)->c≠x:=λc xs r z=>by subst z;rw[r] at mu;exact mu
 by_cases hb:b=x
 ·subst hb;rw[aF] at q;cases q;exact new
 ·rw[aI hb] at q
  by_cases hbe:b=e
  ·have q':H b=some (.own x):=by
    rcases he with z | z
    ·exact absurd (hbe.trans z) hb
    ·rw[hbe];exact z
   rw[q] at q';cases q';obtain⟨v,hv⟩:=heo;exact⟨v,by rw[hbe];exact hv⟩
  ·refine(ok b u q).stay (λc v hc r=>k c v ?_ r) (λc r=>by rw[aI (nown c b r)];exact r) λc xs r=>by rw[aI (ntup c xs r)];exact r
   rcases hc with rfl | hc
   ·exact hbe
   ·rintro rfl
    rcases he with z | z
    ·exact nown c b hc z
    ·rw[hc] at z;cases z;exact hb rfl
end
structure Un(fs ex:List Addr)(H H':Hp)(h h':Heap):Prop where
 keep:∀b o,h.get? b=some o->H b=none->b∉fs->b∉ex->h'.get? b=some o
 slot:∀b o,h.get? b=some o->H b=none->b∈fs->b∉ex->∃sl,h'.get? b=some { o with slots:=sl }
 free:∀b o,h.get? b=some o->H b=none->b∉ex->H' b=none
 there:∀b o,h.get? b=some o->b∉ex->∃o',h'.get? b=some o'
 tups:∀b xs,H b=some (.tup xs)->H' b=some (.tup xs)
 frzs:∀b o u,H b=some (.frz o u)->H' b=some (.frz o u)
 tbls:∀b ps,H b=some (.tbl ps)->∃more,H' b=some (.tbl (ps++more))
section
variable {fs fs' ex ex':List Addr} {H H1 H2:Hp} {h h1 h2 h':Heap} {a x e:Addr} {o:HO}
def Un.any(u:Un fs ex H H1 h h1){ob:Obj}(q:h.get? b=some ob)(n:H b=none)(hx:b∉ex):∃sl,h1.get? b=some { ob with slots:=sl }:=by
 by_cases hb:b∈fs
 ·exact u.slot b ob q n hb hx
 ·exact⟨ob.slots,u.keep b ob q n hb hx⟩
def Un.trans(a:Un fs ex H H1 h h1)(b:Un fs ex H1 H2 h1 h2):Un fs ex H H2 h h2 where
 keep:=λc ob q n hc hx=>b.keep c ob (a.keep c ob q n hc hx) (a.free c ob q n hx) hc hx
 slot:=λc ob q n hc hx=>by
  obtain⟨sl,e1⟩:=a.slot c ob q n hc hx;obtain⟨sl',e2⟩:=b.slot c _ e1 (a.free c ob q n hx) hc hx;exact⟨sl',e2⟩
 free:=λc ob q n hx=>by
  obtain⟨o',e1⟩:=a.there c ob q hx;exact b.free c o' e1 (a.free c ob q n hx) hx
 there:=λc ob q hx=>by
  obtain⟨o',e1⟩:=a.there c ob q hx;exact b.there c o' e1 hx
 tups:=λc xs q=>b.tups c xs (a.tups c xs q)
 frzs:=λc ob xs q=>b.frzs c ob xs (a.frzs c ob xs q)
 tbls:=λc ps q=>by
  obtain⟨m1,e1⟩:=a.tbls c ps q;obtain⟨m2,e2⟩:=b.tbls c _ e1;exact⟨m1++m2,by rw[e2,Array.append_assoc]⟩
def Un.kept(k:∀b u,h.get? b=some u->h'.get? b=some u):Un fs ex H H h h' :=
 ⟨λb ob q _ _ _=>k b ob q,λb ob q _ _ _=>⟨ob.slots,k b ob q⟩,λ_ _ _ n _=>n,λb ob q _=>⟨ob,k b ob q⟩,λ_ _ q=>q,λ_ _ _ q=>q,λ_ ps q=>⟨#[],by rw[q];simp⟩⟩
def Un.refl:Un fs ex H H h h:=Un.kept λ_ _ q=>q
def Un.laid(k:∀b u,h.get? b=some u->h'.get? b=some u)(hp:h.objs.size<=a)(hn:H a=none):Un fs ex H (FI H a o) h h' where
 keep:=λb u q _ _ _=>k b u q
 slot:=λb u q _ _ _=>⟨u.slots,k b u q⟩
 free:=λb u q n _=>by rw[aI (Gw (GA (Gg q) hp))];exact n
 there:=λb u q _=>⟨u,k b u q⟩
 tups:=λb xs q=>by rw[aI (cy q hn)];exact q
 frzs:=λb u xs q=>by rw[aI (cy q hn)];exact q
 tbls:=λb ps q=>⟨#[],by rw[aI (cy q hn),q];simp⟩
def Un.write(mu:Mut (H x))(he:e=x\/H e=some (.own x))(k:∀b u,b≠e->h.get? b=some u->h'.get? b=some u)(heo:∃u,h'.get? e=some u):Un fs ex H (FI H x o) h h':=by
 have hx:∀b,H b=none->b≠x:=λb n z=>by subst z;rw[n] at mu;exact mu
 have hb:∀b,H b=none->b≠e:=λb n z=>by
  subst z
  rcases he with r | r
  ·exact hx b n r
  ·rw[n] at r;cases r
 have hm:∀b u,H b=some u->¬ Mut (some u)->b≠x:=λb u q nm z=>by subst z;rw[q] at mu;exact nm mu
 refine⟨λb u q n _ _=>k b u (hb b n) q,λb u q n _ _=>⟨u.slots,k b u (hb b n) q⟩,λb u q n _=>by rw[aI (hx b n)];exact n,λb u q _=>?_,
  λb xs q=>by rw[aI (hm b _ q λz=>z)];exact q,λb u xs q=>by rw[aI (hm b _ q λz=>z)];exact q,λb ps q=>⟨#[],by rw[aI (hm b _ q λz=>z),q];simp⟩⟩
 by_cases hbe:b=e
 ·subst hbe;exact heo
 ·exact⟨u,k b u hbe q⟩
def Un.mono(u:Un fs ex H H1 h h1)(hs:∀b∈fs,b∈fs')(hx:∀b∈ex,b∈ex'):Un fs' ex' H H1 h h1 :=
 ⟨λb ob q n hb he=>u.keep b ob q n (λz=>hb (hs b z)) λz=>he (hx b z),λ_ _ q n _ he=>u.any q n λz=>he (hx _ z),λb ob q n he=>u.free b ob q n λz=>he (hx b z),λb ob q he=>u.there b ob q λz=>he (hx b z),u.tups,u.frzs,u.tbls⟩
end
def trk(h:Heap)(H:Hp):List Addr:=(List.range h.objs.size).filter λa=>(H a).isSome
def wz(h:Heap)(H:Hp):Heap:=PySem.W.hideAll h (trk h H)
def sM(h:Heap)(H:Hp):(wz h H).objs.size=h.objs.size:=PySem.W.hideAll_size _ _
def xa{H:Hp}{o:Obj}(e:h.get? b=some o)(n:H b=none):(wz h H).get? b=some o :=
 PySem.W.hideAll_get _ e λhm=>by
  have q:(H b).isSome=true:=(Ga.mp hm).2
  rw[n] at q;simp at q
def Aq{H:Hp}{o:Obj}(e:(wz h H).get? b=some o):h.get? b=some o/\H b=none:=by
 have e':h.get? b=some o:=PySem.W.of_hideAll (trk h H) e
 refine⟨e',?_⟩
 cases q:H b with
 | none=>rfl
 | some x =>
  have hm:b∈trk h H:=Ga.mpr ⟨GW.mpr (Gg e'),by simp[q]⟩
  have z:(wz h H).get? b=none:=PySem.W.hideAll_none (trk h H) hm
  rw[z] at e;cases e
def AW(g h:Heap)(L:Addr):List (Addr×Obj):=(List.range h.objs.size).filterMap λa=>if a=L\/(g.get? a).isSome=true then none else (h.get? a).map λo=>(a,o)
def du(g h:Heap)(L d:Addr):List (Addr×Obj):=(AW g h L).filter λp=>decide (p.1≠d)
end L2
namespace L2
open PySem PySem.Spec PyProof.Rows
variable {t' i:Nat} {ch:List Addr} {x:Str} {M:Model} {A:Around} {E:Value→Shared→Prop}
structure Mod(K:PySem.W.Frag)(mg:Str->Option Value)(base:Heap):Prop where
 kin:K.In base
 glob:base.Ns mainGlobals mg
 blt:∃mb,base.Ns builtinsNs mb/\∀x:Str,x≠"__name__"->mb x=bootBuiltins x
 nolimit:base.NoLimit
structure Cx where
 prog:Program
 w:World
 K:PySem.W.Frag
 mg:Str->Option Value
 base:Heap
 A:Around
 N:List Str
 s₀:Shared
 H₀:Hp
 env:Env
 outer:List Env
 stack:List Env
 ex:List Addr
 fn:Str->Bool
 calm:Bool
 pn:List (Addr×Obj)
 xe:Value->Shared->Prop
def frs(l:List Env):List Addr:=l.filterMap (·.frame)
abbrev Cx.fs(X:Cx):List Addr:=frs X.outer
def Vis(sc:Scope)(x:Str):Prop:=sc.names.lookup x=some .local\/sc.names.lookup x=some .cell\/sc.names.lookup x=some .free
def Loc(sc:Scope)(x:Str):Prop:=sc.names.lookup x=some .local\/sc.names.lookup x=some .cell
def Look(env:Env)(h:Heap)(m:Str->Option Value)(x:Str)(u:Value):Prop :=
 (env.kindOf x=some .local/\m x=some u)\/((env.kindOf x=some .cell\/env.kindOf x=some .free)/\∃c,env.cells.lookup x=some c/\h.IsCell c (some u))
structure Cx.Ok(X:Cx):Prop where
 mod:Mod X.K X.mg X.base
 kind:X.env.scope.kind=.function
 glob:X.env.globals=mainGlobals
 blt:X.env.builtins=builtinsNs
 above:X.s₀.heap.objs.size<=X.env.locals
 inj:∀x y c,X.env.cells.lookup x=some c->X.env.cells.lookup y=some c->x=y
 has:∀x,(X.env.kindOf x=some .cell\/X.env.kindOf x=some .free)->∃c,X.env.cells.lookup x=some c
 cab:∀x c,X.fn x=true->X.env.cells.lookup x=some c->X.s₀.heap.objs.size<=c
 hd:X.calm=true->X.A.handled=none
 frames:X.A.frames=some X.stack
 stk:X.stack=X.outer\/(X.stack=X.env::X.outer/\X.env.frame=some X.env.locals)
 exf:∀b∈X.ex,b≠X.env.locals/\∀x c,X.env.cells.lookup x=some c->c≠b
 bs:∀b o,X.base.get? b=some o->X.s₀.heap.get? b=some o/\X.H₀ b=none
 bsz:X.base.objs.size<=X.s₀.heap.objs.size
 noex:∀b o,X.base.get? b=some o->b∉X.ex
 exfs:∀b∈X.ex,b∉X.fs
 funs:X.s₀.heap.FunFrames X.base X.outer
 frf:∀b∈X.fs,X.H₀ b=none
structure Inv(X:Cx)(pins:List (Addr×Obj))(σ:List (Option V))(H:Hp)(s:Shared):Prop where
 ok:X.Ok
 os:s.os=X.s₀.os
 bare:AllBare s.gens
 base:Un X.fs X.ex X.H₀ H X.s₀.heap s.heap
 loc:∃m,s.heap.Ns X.env.locals m/\∀(i:Nat) (x:Str) (v:V),X.N[i]?=some x->σ[i]?=some (some v)->Vis X.env.scope x->∃u,bB v u/\Look X.env s.heap m x u
 cell:∀x c,X.env.cells.lookup x=some c->∃v,s.heap.IsCell c v
 free:H X.env.locals=none
 freeC:∀x c,X.env.cells.lookup x=some c->H c=none
 pin:∀p∈X.pn++pins,s.heap.get? p.1=some p.2/\H p.1=none/\p.1≠X.env.locals/\p.1∉X.fs/\∀v,p.2.data≠.cell v
 hok:FN X.prog X.w H s.heap
 len:σ.length=X.N.length
section
variable {X:Cx} {pins:List (Addr×Obj)} {σ:List (Option V)} {H H':Hp} {s:Shared} {h':Heap}
def Cx.Ok.nofr(ok:X.Ok){b:Addr}{o:Obj}(e:X.base.get? b=some o):b∉X.fs:=λhb=>by
 have:=(ok.funs.mem hb).1
 rw[e] at this;cases this
def Inv.bs(I:Inv X pins σ H s):∀b o,X.base.get? b=some o->s.heap.get? b=some o/\H b=none:=λb o e =>
 ⟨I.base.keep b o (I.ok.bs b o e).1 (I.ok.bs b o e).2 (I.ok.nofr e) (I.ok.noex b o e),I.base.free b o (I.ok.bs b o e).1 (I.ok.bs b o e).2 (I.ok.noex b o e)⟩
def Inv.bk(I:Inv X pins σ H s):∀b o,X.base.get? b=some o->s.heap.get? b=some o:=λb o e=>(I.bs b o e).1
def Inv.mod(I:Inv X pins σ H s):Mod X.K X.mg X.base:=I.ok.mod
def Inv.kIn(I:Inv X pins σ H s):X.K.In s.heap:=I.ok.mod.kin.keeps I.bk
def Inv.lt(I:Inv X pins σ H s):X.env.locals<s.heap.objs.size:=let ⟨_,hn,_⟩:=I.loc;hn.lt
def Inv.sz(I:Inv X pins σ H s):X.s₀.heap.objs.size<=s.heap.objs.size:=FX I.ok.above (HA I.lt)
def Inv.nofs(I:Inv X pins σ H s){a:Addr}(h:s.heap.objs.size<=a):a∉X.fs:=λhb=>by
 obtain⟨_,o,ho,_⟩:=I.ok.funs.mem hb;exact absurd (GA (Gg ho) (FX I.sz h)) (GQ _)
def Inv.cne(I:Inv X pins σ H s):∀x c,X.env.cells.lookup x=some c->c≠X.env.locals:=λx c e z=>by
 obtain⟨v,o,ho,hd⟩:=I.cell x c e;obtain⟨m,⟨o',es,ep,ho',hd',_⟩,_⟩:=I.loc;rw[z,ho'] at ho;cases ho;rw[hd'] at hd;cases hd
def Inv.funs(I:Inv X pins σ H s):s.heap.FunFrames X.base X.outer:=by
 have all:∀(l:List Env),(∀b∈frs l,b∈X.fs)->X.s₀.heap.FunFrames X.base l->s.heap.FunFrames X.base l:=by
  intro l
  induction l with
  | nil=>intro _ _;trivial
  | cons env r ih =>
   intro hs hl;obtain⟨hk,⟨L,o,hf,hn,ho,hd⟩,hr⟩:=hl;have hL:L∈X.fs:=hs L (by unfold frs;rw[GK,hf];exact FW);obtain⟨sl,e⟩:=I.base.slot L o ho (I.ok.frf L hL) hL λz=>I.ok.exfs L z hL;exact⟨hk,⟨L,_,hf,hn,e,hd⟩,ih (λb hb=>hs b (by unfold frs;rw[GK,hf];exact FU _ hb)) hr⟩
 exact all X.outer (λ_ hb=>hb) I.ok.funs
def Inv.stack(I:Inv X pins σ H s):s.heap.FunFrames X.base X.stack:=by
 rcases I.ok.stk with e | ⟨e,hf⟩
 ·rw[e];exact I.funs
 ·rw[e];obtain⟨m,hn,_⟩:=I.loc;refine .cons (by rw[I.ok.kind];decide) hf hn ?_ I.funs;exact Heap.get?_none_of_le (FX I.ok.bsz I.ok.above)
def Inv.stkSub(I:Inv X pins σ H s):∀b∈frs X.stack,b∈X.env.locals::X.fs:=λb hb=>by
 rcases I.ok.stk with e | ⟨e,hf⟩
 ·rw[e] at hb;exact FU _ hb
 ·rw[e] at hb;unfold frs at hb;rw[GK,hf] at hb;exact hb
def Inv.stkFree(I:Inv X pins σ H s):∀b∈frs X.stack,H b=none:=λb hb=>by
 rcases F7.mp (I.stkSub b hb) with e | hb
 ·rw[e];exact I.free
 ·obtain⟨_,o,ho,_⟩:=I.ok.funs.mem hb;exact I.base.free b o ho (I.ok.frf b hb) λz=>I.ok.exfs b z hb
def Inv.step{g':Array GenState}{d':Drawn}(I:Inv X pins σ H s)
  (hch:∀b∈ch,(b∈X.ex\/X.s₀.heap.objs.size<=b)/\b≠X.env.locals/\(∀x c,X.env.cells.lookup x=some c->c≠b)/\∀p∈X.pn++pins,p.1≠b)
  (keep:∀b o,b≠X.env.locals->b∉X.fs->b∉ch->s.heap.get? b=some o->H b=none->h'.get? b=some o)
  (slot:∀b o,b≠X.env.locals->b∈X.fs->b∉ch->s.heap.get? b=some o->H b=none->∃sl,h'.get? b=some { o with slots:=sl }) (free:∀b o,b∉ch->s.heap.get? b=some o->H b=none->H' b=none)
  (there:∀b o,b∉ch->s.heap.get? b=some o->∃o',h'.get? b=some o')
  (tups:∀b xs,H b=some (.tup xs)->H' b=some (.tup xs)) (frzs:∀b o u,H b=some (.frz o u)->H' b=some (.frz o u)) (tbls:∀b ps,H b=some (.tbl ps)->∃more,H' b=some (.tbl (ps++more)))
  (ns:∀m,s.heap.Ns X.env.locals m->h'.Ns X.env.locals m) (hok:FN X.prog X.w H' h') (hg:AllBare g') :
  Inv X pins σ H' { s with heap:=h',gens:=g',drawn:=d',toks:=t' }:=by
 have neL:∀b o,X.s₀.heap.get? b=some o->b≠X.env.locals:=λb o e=>Gw (GA (Gg e) I.ok.above)
 have neC:∀b o,X.s₀.heap.get? b=some o->b∉X.ex->b∉ch:=λb o e hx hb=>by
  rcases(hch b hb).1 with z | z
  ·exact hx z
  ·exact absurd (GA (Gg e) z) (GQ _)
 have cellK:∀x c,X.env.cells.lookup x=some c->∀v,s.heap.IsCell c v->h'.IsCell c v:=λx c e v ⟨o,ho,hd⟩=>by
  have nch:c∉ch:=λz=>(hch c z).2.2.1 x c e rfl
  by_cases hc:c∈X.fs
  ·obtain⟨sl,q⟩:=slot c o (I.cne x c e) hc nch ho (I.freeC x c e);exact⟨_,q,hd⟩
  ·exact⟨o,keep c o (I.cne x c e) hc nch ho (I.freeC x c e),hd⟩
 refine⟨I.ok,I.os,hg,⟨λb o e n hb hx=>?_,λb o e n hb hx=>?_,λb o e n hx=>?_,λb o e hx=>?_,λb xs e=>tups b xs (I.base.tups b xs e),λb o xs e=>frzs b o xs (I.base.frzs b o xs e),λb ps e=>?_⟩,?_,λx c e=>?_,?_,λx c e=>?_,λp hp=>?_,hok,I.len⟩
 ·exact keep b o (neL b o e) hb (neC b o e hx) (I.base.keep b o e n hb hx) (I.base.free b o e n hx)
 ·obtain⟨sl,e1⟩:=I.base.slot b o e n hb hx;obtain⟨sl',e2⟩:=slot b _ (neL b o e) hb (neC b o e hx) e1 (I.base.free b o e n hx);exact⟨sl',e2⟩
 ·obtain⟨o',e1⟩:=I.base.there b o e hx;exact free b o' (neC b o e hx) e1 (I.base.free b o e n hx)
 ·obtain⟨o',e1⟩:=I.base.there b o e hx;exact there b o' (neC b o e hx) e1
 ·obtain⟨m1,e1⟩:=I.base.tbls b ps e;obtain⟨m2,e2⟩:=tbls b _ e1;exact⟨m1++m2,by rw[e2,Array.append_assoc]⟩
 ·obtain⟨m,hn,hl⟩:=I.loc;refine⟨m,ns m hn,λi x v e1 e2 e3=>?_⟩;obtain⟨u,r,l⟩:=hl i x v e1 e2 e3;refine⟨u,r,?_⟩
  rcases l with l | ⟨k,c,e,z⟩
  ·exact .inl l
  ·exact .inr ⟨k,c,e,cellK x c e _ z⟩
 ·obtain⟨v,z⟩:=I.cell x c e;exact⟨v,cellK x c e v z⟩
 ·obtain⟨m,⟨o,_,_,ho,_⟩,_⟩:=I.loc;exact free _ o (λz=>(hch _ z).2.1 rfl) ho I.free
 ·obtain⟨v,o,ho,hd⟩:=I.cell x c e;exact free c o (λz=>(hch c z).2.2.1 x c e rfl) ho (I.freeC x c e)
 ·obtain⟨e,n,ne,nf,d⟩:=I.pin p hp;have nch:p.1∉ch:=λz=>(hch p.1 z).2.2.2 p hp rfl;exact⟨keep p.1 p.2 ne nf nch e n,free p.1 p.2 nch e n,ne,nf,d⟩
def Inv.un(I:Inv X pins σ H s)(u:Un X.fs [] H H' s.heap h')(hok:FN X.prog X.w H' h'):Inv X pins σ H' { s with heap:=h',toks:=t' }:=by
 obtain⟨m,⟨o,es,ep,ho,r⟩,_⟩:=id I.loc;obtain⟨sl,hL⟩:=u.any ho I.free (by simp)
 exact I.step (g':=s.gens) (d':=s.drawn) (ch:=[]) (λ_ z=>nomatch z) (λb o _ hb _ e n=>u.keep b o e n hb (by simp)) (λb o _ hb _ e n=>u.slot b o e n hb (by simp)) (λb o _ e n=>u.free b o e n (by simp)) (λb o _ e=>u.there b o e (by simp)) u.tups u.frzs u.tbls (λm' hm=>by
  obtain⟨o',es',ep',ho',r'⟩:=hm;rw[ho] at ho';cases ho'
  exact⟨_,es',ep',hL,r'⟩) hok I.bare
def Inv.call{g':Array GenState}{d':Drawn}(I:Inv X pins σ H s)(u:Un (frs X.stack) ch H H' s.heap h')(hok:FN X.prog X.w H' h')(hg:AllBare g')
  (hch:∀b∈ch,(b∈X.ex\/X.s₀.heap.objs.size<=b)/\b≠X.env.locals/\(∀x c,X.env.cells.lookup x=some c->c≠b)/\∀p∈X.pn++pins,p.1≠b) :
  Inv X pins σ H' { s with heap:=h',gens:=g',drawn:=d',toks:=t' }:=by
 obtain⟨m,⟨o,es,ep,ho,r⟩,_⟩:=id I.loc;obtain⟨sl,hL⟩:=u.any ho I.free λz=>(hch _ z).2.1 rfl
 exact I.step (ch:=ch) hch (λb o hL hb hc e n=>u.keep b o e n (λz=>(F7.mp (I.stkSub b z)).elim hL hb) hc) (λb o _ _ hc e n=>u.any e n hc) (λb o hc e n=>u.free b o e n hc) (λb o hc e=>u.there b o e hc) u.tups u.frzs u.tbls (λm' hm=>by
  obtain⟨o',es',ep',ho',r'⟩:=hm;rw[ho] at ho';cases ho'
  exact⟨_,es',ep',hL,r'⟩) hok hg
def Inv.turned{it:Addr}(I:Inv X pins σ H s)(k:∀b o,b≠it->s.heap.get? b=some o->h'.get? b=some o)(hn:H it=none)(hL:it≠X.env.locals)
  (h1:it∈X.ex\/X.s₀.heap.objs.size<=it) (h2:∀x c,X.env.cells.lookup x=some c->c≠it) (h3:∀p∈X.pn++pins,p.1≠it):Inv X pins σ H { s with heap:=h',toks:=t' }:=by
 have nit:∀b u,H b=some u->b≠it:=λb u e z=>by rw[z,hn] at e;cases e
 refine I.step (g':=s.gens) (d':=s.drawn) (ch:=[it]) (λb hb=>?_) (λb o _ _ hc e _=>k b o (λz=>hc (by simp[z])) e) (λb o _ _ hc e _=>⟨o.slots,k b o (λz=>hc (by simp[z])) e⟩) (λ_ _ _ _ n=>n)
  (λb o hc e=>⟨o,k b o (λz=>hc (by simp[z])) e⟩) (λ_ _ e=>e) (λ_ _ _ e=>e) (λb ps e=>⟨#[],by rw[e];simp⟩) (λm hm=>?_) (λb u e=>?_) I.bare
 ·have e:b=it:=by simpa using hb
  subst e;exact⟨h1,hL,h2,h3⟩
 ·obtain⟨o,es,ep,ho,r⟩:=hm;exact⟨o,es,ep,k _ o (IN hL) ho,r⟩
 ·refine(I.hok b u e).stay (λc v hc q=>k c v ?_ q) (λ_ q=>q) λ_ _ q=>q
  rcases hc with z | z
  ·rw[z];exact nit b u e
  ·exact nit c _ z
def Inv.tok(I:Inv X pins σ H s)(t:Nat):Inv X pins σ H { s with toks:=t }:=I.un (h':=s.heap) (t':=t) Un.refl I.hok
def Inv.kept(I:Inv X pins σ H s)(k:∀b u,s.heap.get? b=some u->h'.get? b=some u):Inv X pins σ H { s with heap:=h',toks:=t' }:=I.un (Un.kept k) (I.hok.kept k)
def Inv.laid{a:Addr}{o:HO}(I:Inv X pins σ H s)(k:∀b u,s.heap.get? b=some u->h'.get? b=some u)(hp:s.heap.objs.size<=a)(new:bO X.prog X.w (FI H a o) h' a o) :
  Inv X pins σ (FI H a o) { s with heap:=h',toks:=t' }:=I.un (Un.laid k hp (I.hok.fresh hp)) (I.hok.laid k hp new)
def Inv.write{x e:Addr}{o:HO}(I:Inv X pins σ H s)(mu:Mut (H x))(he:e=x\/H e=some (.own x))(k:∀b u,b≠e->s.heap.get? b=some u->h'.get? b=some u)(heo:∃u,h'.get? e=some u)
  (new:bO X.prog X.w (FI H x o) h' x o):Inv X pins σ (FI H x o) { s with heap:=h',toks:=t' }:=I.un (Un.write mu he k heo) (I.hok.write mu he k heo new)
def Inv.pins_of{pins':List (Addr×Obj)}(I:Inv X pins σ H s)(h:∀p∈pins',s.heap.get? p.1=some p.2/\H p.1=none/\p.1≠X.env.locals/\p.1∉X.fs/\∀v,p.2.data≠.cell v):Inv X pins' σ H s :=
 ⟨I.ok,I.os,I.bare,I.base,I.loc,I.cell,I.free,I.freeC,λp hp=>(F9.mp hp).elim (λz=>I.pin p (FZ _ z)) (h p),I.hok,I.len⟩
def qq{N:List Str}(hN:N.Nodup){j:Nat}(a:N[i]?=some x)(b:N[j]?=some x):i=j:=by
 obtain⟨h1,e1⟩:=List.getElem?_eq_some_iff.mp a;obtain⟨h2,e2⟩:=List.getElem?_eq_some_iff.mp b;exact(List.getElem_inj hN).mp (e1.trans e2.symm)
def mo{v:V}{u:Value}{Q:Unit->Shared->Prop}(I:Inv X pins σ H s)(hN:X.N.Nodup)(hi:X.N[i]?=some x)(hx:Loc X.env.scope x)(r:bB v u)
  (h:∀s',Inv X pins (σ.set i (some v)) H s'->(∃a,Heap.SameBut a s.heap s'.heap/\(a=X.env.locals\/X.env.cells.lookup x=some a))->Q () s') (hf:X.fn x=true\/X.env.scope.names.lookup x=some .local :=by walk_at "v1"):wpAny M A (storeName X.env x u) Q E s:=by
 obtain⟨m,hn,hl⟩:=id I.loc;have hcls:(X.env.scope.kind == .class||(X.env.scope.kind == .module&&X.env.locals != X.env.globals))=false:=by rw[I.ok.kind];rfl
 have hiσ:i<σ.length:=by rw[I.len];exact(List.getElem?_eq_some_iff.mp hi).1
 have cne:=I.cne
 have tracked:∀ {a:Addr} {h':Heap},(∃o,s.heap.get? a=some o/\H a=none)->Heap.SameBut a s.heap h'->FN X.prog X.w H h':=λ{a h'} ha hs b ob e=>by
  obtain⟨_,_,hfree⟩:=ha;refine(I.hok b ob e).stay (λc w' hc q=>(hs.2 c ?_).trans q) (λ_ q=>q) λ_ _ q=>q;rintro rfl
  rcases hc with rfl | hc
  ·rw[hfree] at e;cases e
  ·rw[hfree] at hc;cases hc
 rcases hx with hk | hk
 ·refine wpAny_storeName_local hk hn (λh' hn' hs=>?_) hcls;obtain⟨oL,_,_,hoL,_⟩:=id hn;refine h _ ⟨I.ok,I.os,I.bare,⟨λb o e n hb hx=>?_,λb o e n hb hx=>?_,I.base.free,λb o e hx=>?_,I.base.tups,I.base.frzs,I.base.tbls⟩,⟨_,hn',λj y v' e1 e2 e3=>?_⟩,λy c e=>?_,I.free,I.freeC,λp hp=>?_,tracked ⟨oL,hoL,I.free⟩ hs,by simpa using I.len⟩ ⟨_,hs,.inl rfl⟩
  ·exact(hs.2 b (Gw (GA (Gg e) I.ok.above))).trans (I.base.keep b o e n hb hx)
  ·obtain⟨sl,e1⟩:=I.base.slot b o e n hb hx;exact⟨sl,(hs.2 b (Gw (GA (Gg e) I.ok.above))).trans e1⟩
  ·obtain⟨o',e1⟩:=I.base.there b o e hx;exact⟨o',(hs.2 b (Gw (GA (Gg e) I.ok.above))).trans e1⟩
  ·by_cases hj:j=i
   ·subst hj;rw[hi] at e1;cases e1;rw[List.getElem?_set_self hiσ] at e2
    cases e2
    exact⟨u,r,.inl ⟨hk,by simp⟩⟩
   ·rw[List.getElem?_set_ne (IN hj)] at e2;obtain⟨u',r',q⟩:=hl j y v' e1 e2 e3;refine⟨u',r',?_⟩
    rcases q with⟨k,e⟩ | ⟨k,c,e,z⟩
    ·refine .inl ⟨k,?_⟩;have:y≠x:=λe=>hj (qq hN e1 (e ▸ hi));simp[this,e]
    ·exact .inr ⟨k,c,e,z.sameBut hs (cne y c e)⟩
  ·obtain⟨w',z⟩:=I.cell y c e;exact⟨w',z.sameBut hs (cne y c e)⟩
  ·obtain⟨e,n,ne,nf,d⟩:=I.pin p hp;exact⟨(hs.2 p.1 ne).trans e,n,ne,nf,d⟩
 ·have hfn:X.fn x=true:=by
   rcases hf with z | z
   ·exact z
   ·rw[z] at hk;cases hk
  obtain⟨c,hc⟩:=I.ok.has x (.inl hk);obtain⟨w',z⟩:=I.cell x c hc;refine wpAny_storeName_cell I.ok.kind hk hc z (λh' hc' hs=>?_);obtain⟨oc,hoc,hocd⟩:=id z;refine h { s with heap:=h' } ⟨I.ok,I.os,I.bare,⟨λb o e n hb hx=>?_,λb o e n hb hx=>?_,I.base.free,λb o e hx=>?_,I.base.tups,I.base.frzs,I.base.tbls⟩,⟨m,hn.sameBut hs (IN (cne x c hc)),λj y v' e1 e2 e3=>?_⟩,λy c' e=>?_,I.free,I.freeC,λp hp=>?_,tracked ⟨oc,hoc,I.freeC x c hc⟩ hs,by simpa using I.len⟩ ⟨c,hs,.inr hc⟩
  ·exact(hs.2 b (Gw (GA (Gg e) (I.ok.cab x c hfn hc)))).trans (I.base.keep b o e n hb hx)
  ·obtain⟨sl,e1⟩:=I.base.slot b o e n hb hx;exact⟨sl,(hs.2 b (Gw (GA (Gg e) (I.ok.cab x c hfn hc)))).trans e1⟩
  ·obtain⟨o',e1⟩:=I.base.there b o e hx;exact⟨o',(hs.2 b (Gw (GA (Gg e) (I.ok.cab x c hfn hc)))).trans e1⟩
  ·by_cases hj:j=i
   ·subst hj;rw[hi] at e1;cases e1;rw[List.getElem?_set_self hiσ] at e2
    cases e2
    exact⟨u,r,.inr ⟨.inl hk,c,hc,hc'⟩⟩
   ·rw[List.getElem?_set_ne (IN hj)] at e2;obtain⟨u',r',q⟩:=hl j y v' e1 e2 e3;refine⟨u',r',?_⟩
    rcases q with q | ⟨k,c',e,z'⟩
    ·exact .inl q
    ·refine .inr ⟨k,c',e,z'.sameBut hs ?_⟩;rintro rfl;exact hj (qq hN e1 (I.ok.inj _ _ _ e hc ▸ hi))
  ·by_cases hcc:c'=c
   ·subst hcc;exact⟨_,hc'⟩
   ·obtain⟨w2,z2⟩:=I.cell y c' e;exact⟨w2,z2.sameBut hs hcc⟩
  ·obtain⟨e,n,ne,nf,d⟩:=I.pin p hp;refine⟨(hs.2 p.1 ?_).trans e,n,ne,nf,d⟩;intro q;rw[q,hoc] at e;have q':oc=p.2:=Gc e;exact d w' (by rw[<- q'];exact hocd)
def p8{v:V}{u:Value}{Q:Unit->Shared->Prop}(I:Inv X pins σ H s)(hN:X.N.Nodup)(hi:X.N[i]?=some x)(hx:Loc X.env.scope x)(r:bB v u)
  (h:∀s',Inv X pins (σ.set i (some v)) H s'->Q () s') (hf:X.fn x=true\/X.env.scope.names.lookup x=some .local :=by walk_at "v1"):wpAny M A (storeName X.env x u) Q E s :=
 mo I hN hi hx r (λs' I' _=>h s' I') hf
def Inv.call'{s':Shared}(I:Inv X pins σ H s)(ho:s'.os=s.os)(u:Un (frs X.stack) ch H H' s.heap s'.heap)(hok:FN X.prog X.w H' s'.heap)(hg:AllBare s'.gens)
  (hch:∀b∈ch,(b∈X.ex\/X.s₀.heap.objs.size<=b)/\b≠X.env.locals/\(∀x c,X.env.cells.lookup x=some c->c≠b)/\∀p∈X.pn++pins,p.1≠b):Inv X pins σ H' s':=by
 obtain⟨h',g',d',t',o'⟩:=s';have e:o'=s.os:=ho;subst e;exact I.call (g':=g') (t':=t') (d':=d') u hok hg hch
end
abbrev XK:=Value->Option Addr->Hp->Prop
abbrev St:=List (Option V)
abbrev VK:=V->Hp->Prop
abbrev TE:=St->Hp->VK->Prop
abbrev TT:=St->Hp->(Bool->Hp->Prop)->Prop
abbrev TA:=St->Hp->(List V->Hp->Prop)->Prop
structure yz where
 nx:St->Hp->Prop
 rt:VK
 bk:St->Hp->Prop:=λ_ _=>False
 ct:St->Hp->Prop:=λ_ _=>False
abbrev TS:=yz->St->Hp->Prop
def EP(X:Cx)(pins:List (Addr×Obj))(σ:St)(Q:VK)(u:Value)(s':Shared):Prop:=∃v H',Inv X pins σ H' s'/\bB v u/\Q v H'
def TP(X:Cx)(pins:List (Addr×Obj))(σ:St)(Q:Bool->Hp->Prop)(b:Bool)(s':Shared):Prop:=∃H',Inv X pins σ H' s'/\Q b H'
def AP(X:Cx)(pins:List (Addr×Obj))(σ:St)(Q:List V->Hp->Prop)(us:List Value)(s':Shared):Prop:=∃vs H',Inv X pins σ H' s'/\bF vs us/\Q vs H'
def SP(X:Cx)(pins:List (Addr×Obj))(D:yz)(f:Flow)(s':Shared):Prop :=
 match f with
 | .next=>∃σ' H',Inv X pins σ' H' s'/\D.nx σ' H'
 | .brk=>∃σ' H',Inv X pins σ' H' s'/\D.bk σ' H'
 | .cont=>∃σ' H',Inv X pins σ' H' s'/\D.ct σ' H'
 | .ret u=>∃v σ' H',Inv X pins σ' H' s'/\bB v u/\D.rt v H'
def PE(X:Cx)(e:Expr)(t:TE):Prop :=
 ∀(pins:List (Addr×Obj)) (s:Shared) (σ:St) (H:Hp) (Q:VK),Inv X pins σ H s->t σ H Q->wpAny (model X.prog X.w) X.A (eval e X.env) (EP X pins σ Q) X.xe s
def PT(X:Cx)(e:Expr)(t:TT):Prop :=
 ∀(pins:List (Addr×Obj)) (s:Shared) (σ:St) (H:Hp) (Q:Bool->Hp->Prop),Inv X pins σ H s->t σ H Q->wpAny (model X.prog X.w) X.A (isTrue e X.env (eval e X.env)) (TP X pins σ Q) X.xe s
def PW(X:Cx)(e:Expr)(t:TT):Prop :=
 ∀(whole:Sem Value) (pins:List (Addr×Obj)) (s:Shared) (σ:St) (H:Hp) (Q:Bool->Hp->Prop),Inv X pins σ H s->t σ H Q->wpAny (model X.prog X.w) X.A (isTrue e X.env whole) (TP X pins σ Q) X.xe s
def PW.pt{X:Cx}{e:Expr}{t:TT}(h:PW X e t):PT X e t:=h _
def PA(X:Cx)(es:List Expr)(t:TA):Prop :=
 ∀(pos:Pos) (pins:List (Addr×Obj)) (s:Shared) (σ:St) (H:Hp) (Q:List V->Hp->Prop),Inv X pins σ H s->t σ H Q->wpAny (model X.prog X.w) X.A (spliced (backTo pos (starEach es X.env))) (AP X pins σ Q) X.xe s
def PS(X:Cx)(st:Stmt)(t:TS):Prop :=
 ∀(pins:List (Addr×Obj)) (s:Shared) (σ:St) (H:Hp) (D:yz),Inv X pins σ H s->t D σ H->wpAny (model X.prog X.w) X.A (exec st X.env) (SP X pins D) X.xe s
def PSs(X:Cx)(st:List Stmt)(t:TS):Prop :=
 ∀(pins:List (Addr×Obj)) (s:Shared) (σ:St) (H:Hp) (D:yz),Inv X pins σ H s->t D σ H->wpAny (model X.prog X.w) X.A (execs st X.env) (SP X pins D) X.xe s
def FG{α:Type}{t:Sem α}{Q Q':α->Shared->Prop}{s:Shared}(h:wpAny M A t Q E s)(hQ:∀a s,Q a s->Q' a s):wpAny M A t Q' E s:=G9 h hQ λ_ _ x=>x
end L2
namespace L2
open PySem PySem.Spec PyProof.Rows
variable {pins:List (Addr×Obj)} {s:Shared} {σ:St} {H:Hp} {x:Str} {pos:Pos} {u:Value} {t:TE}
section
variable {X:Cx}
def bin{a b:Expr}{ta tb:TE}(ha:PE X a ta)(hb:PE X b tb){R:V->V->Hp->Prop}(I:Inv X pins σ H s)(h:ta σ H λx H1=>tb σ H1 λy H2=>R x y H2)
  {α:Type} {Q:α->Shared->Prop} {f:Value->Value->Sem α}
  (hf:∀v u s2 x y H2,Inv X pins σ H2 s2->bB x v->bB y u->R x y H2->wpAny (model X.prog X.w) X.A (f v u) Q X.xe s2) :
  wpAny (model X.prog X.w) X.A (eval a X.env) (λv s₁=>wpAny (model X.prog X.w) X.A (eval b X.env) (λu s₂=>wpAny (model X.prog X.w) X.A (f v u) Q X.xe s₂) X.xe s₁) X.xe s:=by
 refine FG (ha pins s σ H _ I h) λv s1 ⟨x,H1,I1,r1,q1⟩=>?_;refine FG (hb pins s1 σ H1 _ I1 q1) λu s2 ⟨y,H2,I2,r2,q2⟩=>?_;exact hf v u s2 x y H2 I2 r1 r2 q2
def tVar(i:Nat):TE:=λσ H Q=>∃v,σ[i]?=some (some v)/\Q v H
def tC(v:V):TE:=λ_ H Q=>Q v H
def dJ{i:Nat}(hN:X.N[i]?=some x)(hv:Vis X.env.scope x)(hd:(x==("__debug__":Str))=false:=by decide)(hcd:(x==("__classdict__":Str))=false:=by decide):PE X (.Name x pos) (tVar i):=by
 intro pins s σ H Q I h;obtain⟨v,e,h⟩:=h;obtain⟨m,hn,hl⟩:=I.loc;obtain⟨u,r,l⟩:=hl i x v hN e hv;have fin:EP X pins σ Q u s:=⟨v,H,I,r,h⟩
 rcases l with⟨hk,hm⟩ | ⟨hk,c,hc,hcell⟩
 ·exact wpAny_Name (wpAny_loadName_local I.ok.kind hk hn hm fin) hd
 ·rcases hk with hk | hk
  ·exact wpAny_Name (wpAny_loadName_cell I.ok.kind hk hc hcell fin) hd
  ·exact wpAny_Name (wpAny_loadName_free I.ok.kind hk hc hcell fin hcd) hd
def xK{i j pos}:PE X (.Constant (.int i) j pos) (tC (.int i)):=λ_ _ _ H _ I h=>wpAny_Constant_int ⟨.int i,H,I.tok _,⟨_,rfl⟩,h⟩
def D6{b j pos}:PE X (.Constant (.bool b) j pos) (tC (.bl b)):=λ_ _ _ H _ I h=>Constant_bool ⟨.bl b,H,I,rfl,h⟩
def CB{j pos}:PE X (.Constant .none j pos) (tC .non):=λ_ _ _ H _ I h=>Constant_none ⟨.non,H,I,rfl,h⟩
def uQ{x j pos}:PE X (.Constant (.str x) j pos) (tC (.str x)):=λ_ _ _ H _ I h=>Calls.Constant_str ⟨.str x,H,I.tok _,⟨_,rfl⟩,h⟩
def Gl(X:Cx)(x:Str):Prop:=X.env.kindOf x=some .globalImplicit
def ub{E:Value->Shared->Prop}{Q:Value->Shared->Prop}(I:Inv X pins σ H s)(hg:Gl X x)(hm:X.mg x=some u)(h:Q u s)
  (hd:(x==("__debug__":Str))=false:=by decide):wpAny (model X.prog X.w) X.A (eval (.Name x pos) X.env) Q E s :=
 Calls.Name_function_global I.ok.kind hg (Calls.loadGlobal_global (by rw[I.ok.glob];exact I.mod.glob.keeps I.bk) hm h) hd
def fH{E:Value->Shared->Prop}{Q:Value->Shared->Prop}(I:Inv X pins σ H s)(hg:Gl X x)(hm:X.mg x=none)(hv:bootBuiltins x=some u)(h:Q u s)
  (hn:x≠"__name__":=by decide) (hd:(x==("__debug__":Str))=false:=by decide):wpAny (model X.prog X.w) X.A (eval (.Name x pos) X.env) Q E s:=by
 obtain⟨mb,h1,h2⟩:=I.mod.blt;exact Calls.Name_function_global I.ok.kind hg (Calls.loadGlobal_builtin (by rw[I.ok.glob];exact I.mod.glob.keeps I.bk) hm (by rw[I.ok.blt];exact h1.keeps I.bk) ((h2 x hn).trans hv) h) hd
def og{v:V}(hg:Gl X x)(hm:X.mg x=some u)(r:bB v u)(hd:(x==("__debug__":Str))=false:=by decide):PE X (.Name x pos) (tC v) :=
 λ_ _ _ H _ I h=>ub I hg hm ⟨v,H,I,r,h⟩ hd
def AB{v:V}(hg:Gl X x)(hm:X.mg x=none)(hv:bootBuiltins x=some u)(r:bB v u)(hn:x≠"__name__":=by decide)(hd:(x==("__debug__":Str))=false:=by decide):PE X (.Name x pos) (tC v) :=
 λ_ _ _ H _ I h=>fH I hg hm hv ⟨v,H,I,r,h⟩ hn hd
variable {a b:Expr} {ta tb:TE} {pos:Pos}
def PC(X:Cx)(op:CmpOp)(a b:Expr)(t:TE):Prop :=
 ∀(pins:List (Addr×Obj)) (s:Shared) (σ:St) (H:Hp) (Q:VK),Inv X pins σ H s->t σ H Q ->
  wpAny (model X.prog X.w) X.A (eval a X.env) (λv s₁=>wpAny (model X.prog X.w) X.A (eval b X.env) (λu s₂=>wpAny (model X.prog X.w) X.A (compareOp op v u) (EP X pins σ Q) X.xe s₂) X.xe s₁) X.xe s
def tB(t:TE):TT:=λσ H Q=>t σ H λx H1=>∃c,x=.bl c/\Q c H1
def pt_cmp{op:CmpOp}(h:PC X op a b t)(h1:behindInMarks op b=false:=by first | exact nobehind _ (by decide) (by decide) | rfl):PT X (.Compare a [op] [b] pos) (tB t):=by
 intro pins s σ H Q I hw;refine wpAny_isTrue_Compare1 (FG (h pins s σ H _ I hw) λv s1 h1=>FG h1 λu s2 h2=>FG h2 λc s3 ⟨x,H1,I1,r1,q1⟩=>?_) h1;obtain⟨d,rfl,q⟩:=q1
 cases r1
 exact Hn ⟨H1,I1,q⟩
def CP{e:Expr}(h:PE X e t)(he:∀whole,isTrue e X.env whole=(do let v<-whole;standAt e.pos;holding [v] (truthy v)):=by intro _;rfl):PT X e (tB t):=by
 intro pins s σ H Q I hw;refine isTrue_plain (FG (h pins s σ H _ I hw) λv s1 ⟨x,H1,I1,r1,q1⟩=>?_) (he _);obtain⟨d,rfl,q⟩:=q1
 cases r1
 exact Hn ⟨H1,I1,q⟩
variable {tA tB':TT} {du:List Expr}
def tAnd(t u:TT):TT:=λσ H Q=>t σ H λc H1=>if c=true then u σ H1 Q else Q false H1
def tOr(t u:TT):TT:=λσ H Q=>t σ H λc H1=>if c=true then Q true H1 else u σ H1 Q
def tNot(t:TT):TT:=λσ H Q=>t σ H λc H1=>Q (!c) H1
def zG(ha:PT X a tA):PW X (.BoolOp .And [a] pos) tA:=by
 intro wh pins s σ H Q I h;refine isTrue_and (FG (ha pins s σ H Q I h) λc s1 e=>?_)
 cases c with
 | true=>exact isTrue_and_nil e
 | false=>exact e
def CZ(ha:PT X a tA):PW X (.BoolOp .Or [a] pos) tA:=by
 intro wh pins s σ H Q I h;refine isTrue_or (FG (ha pins s σ H Q I h) λc s1 e=>?_)
 cases c with
 | false=>exact isTrue_or_nil e
 | true=>exact e
def C3(ha:PT X a tA)(hb:PW X (.BoolOp .And (b::du) pos) tB'):PW X (.BoolOp .And (a::b::du) pos) (tAnd tA tB'):=by
 intro wh pins s σ H Q I h;refine isTrue_and (FG (ha pins s σ H _ I h) λc s1 ⟨H1,I1,q1⟩=>?_)
 cases c with
 | true=>exact hb wh pins s1 σ H1 Q I1 q1
 | false=>exact⟨H1,I1,q1⟩
def DJ(ha:PT X a tA)(hb:PW X (.BoolOp .Or (b::du) pos) tB'):PW X (.BoolOp .Or (a::b::du) pos) (tOr tA tB'):=by
 intro wh pins s σ H Q I h;refine isTrue_or (FG (ha pins s σ H _ I h) λc s1 ⟨H1,I1,q1⟩=>?_)
 cases c with
 | true=>exact⟨H1,I1,q1⟩
 | false=>exact hb wh pins s1 σ H1 Q I1 q1
def Dh(ha:PT X a tA):PT X (.UnaryOp .Not a pos) (tNot tA):=by
 intro pins s σ H Q I h;exact isTrue_not (ha pins s σ H (λc H1=>Q (!c) H1) I h)
def Ec(ta tb:TE):TE:=λσ H Q=>ta σ H λx H1=>∃c,x=.bl c/\if c=true then tb σ H1 Q else Q (.bl false) H1
def tOrV(ta tb:TE):TE:=λσ H Q=>ta σ H λx H1=>∃c,x=.bl c/\if c=true then Q (.bl true) H1 else tb σ H1 Q
def EF(ta:TE):TE:=λσ H Q=>ta σ H λx H1=>∃c,x=.bl c/\Q (.bl (!c)) H1
def Ds{op}(h:PE X a t):PE X (.BoolOp op [a] pos) t:=λpins s σ H Q I hw=>BoolOp_one (h pins s σ H Q I hw)
def C6(ha:PE X a ta)(hb:PE X (.BoolOp .And (b::du) pos) tb):PE X (.BoolOp .And (a::b::du) pos) (Ec ta tb):=by
 intro pins s σ H Q I h;refine BoolOp_and (FG (ha pins s σ H _ I h) λv s1 ⟨x,H1,I1,r1,q1⟩=>?_);obtain⟨c,rfl,q1⟩:=q1
 cases r1
 refine Hn ?_
 cases c with
 | true=>exact hb pins s1 σ H1 Q I1 q1
 | false=>exact⟨.bl false,H1,I1,rfl,q1⟩
def Ex(ha:PE X a ta)(hb:PE X (.BoolOp .Or (b::du) pos) tb):PE X (.BoolOp .Or (a::b::du) pos) (tOrV ta tb):=by
 intro pins s σ H Q I h;refine BoolOp_or (FG (ha pins s σ H _ I h) λv s1 ⟨x,H1,I1,r1,q1⟩=>?_);obtain⟨c,rfl,q1⟩:=q1
 cases r1
 refine Hn ?_
 cases c with
 | false=>exact hb pins s1 σ H1 Q I1 q1
 | true=>exact⟨.bl true,H1,I1,rfl,q1⟩
def Co(ha:PE X a ta):PE X (.UnaryOp .Not a pos) (EF ta):=by
 intro pins s σ H Q I h;refine UnaryOp_ (FG (ha pins s σ H _ I h) λv s1 ⟨x,H1,I1,r1,q1⟩=>?_);obtain⟨c,rfl,q1⟩:=q1
 cases r1
 exact not_of (Hn ⟨.bl (!c),H1,I1,rfl,q1⟩)
def tIf(t:TT)(ta tb:TE):TE:=λσ H Q=>t σ H λc H1=>if c=true then ta σ H1 Q else tb σ H1 Q
def vt{c:Expr}(hc:PT X c tA)(ha:PE X a ta)(hb:PE X b tb):PE X (.IfExp c a b pos) (tIf tA ta tb):=by
 intro pins s σ H Q I h;refine wpAny_IfExp (FG (hc pins s σ H _ I h) λd s1 ⟨H1,I1,q1⟩=>?_)
 cases d with
 | true=>exact ha pins s1 σ H1 Q I1 q1
 | false=>exact hb pins s1 σ H1 Q I1 q1
end
end L2
namespace L2
open PySem PySem.Spec PyProof.Rows
variable {K:PySem.W.Frag} {s:Shared} {e tg:Expr} {P:Program} {w:World}
def FA(K:PySem.W.Frag)(H:Hp)(a:Addr)(xs:List V):Prop :=
 Rd H a (.lst xs) \/
  ∃(o:Obj) (its:Array Value) (n:Nat),K.lookup a=some o/\o.cls=.type "list"/\o.dict=none/\o.data=.seq its n/\its.size<=sizeLine/\bF xs its.toList
def Fv(K:PySem.W.Frag)(H:Hp)(a:Addr)(xs:List V):Prop :=
 Rd H a (.tup xs) \/
  ∃(o:Obj) (its:Array Value) (n:Nat),K.lookup a=some o/\o.cls=.type "tuple"/\o.data=.seq its n/\its.size<=sizeLine/\bF xs its.toList
def absV:Value->Option V
 | .none=>some .non
 | .bool b=>some (.bl b)
 | .int i _=>some (.int i)
 | .str x _=>some (.str x)
 | .bytes b _=>some (.byt b)
 | .float b _=>some (.flt b)
 | .ref a=>some (.ref a)
 | .type n=>some (.ty n)
 | _=>none
def bB.abs{x:V}{u:Value}(r:bB x u):absV u=some x:=by
 cases x with
 | non=>cases r;rfl
 | bl _=>cases r;rfl
 | int _=>obtain⟨t,rfl⟩:=r;rfl
 | str _=>obtain⟨t,rfl⟩:=r;rfl
 | byt _=>obtain⟨t,rfl⟩:=r;rfl
 | flt _=>obtain⟨t,rfl⟩:=r;rfl
 | ref _=>cases r;rfl
 | ty _=>cases r;rfl
def bB.inj{x y:V}{u:Value}(r:bB x u)(q:bB y u):x=y:=Gc (r.abs.symm.trans q.abs)
def bF.inj:∀ {xs ys:List V} {us:List Value},bF xs us->bF ys us->xs=ys
 | _,_,_,.nil,.nil=>rfl
 | _,_,_,.cons r t,.cons r' t'=>by rw[r.inj r',bF.inj t t']
section
variable {X:Cx} {pins:List (Addr×Obj)} {σ:St} {H:Hp} {s:Shared} {a:Addr} {xs ys:List V}
def FA.of(h:H a=some (.lst xs)):FA K H a xs:=.inl (.inl h)
def Fv.of(h:H a=some (.tup xs)):Fv K H a xs:=.inl (.inl h)
def Inv.list(I:Inv X pins σ H s)(h:FA X.K H a xs):∃its:List Value,bF xs its/\PlainL s.heap a its.toArray/\xs.length<=sizeLine:=by
 rcases h with h | ⟨o,its,n,hk,hc,hd,hs,hz,r⟩
 ·obtain⟨z,its,n,r,e⟩:=h.ok I.hok;exact⟨its,r,⟨_,n,e,rfl,rfl,rfl⟩,z⟩
 ·refine⟨its.toList,r,⟨o,n,I.kIn a o hk,hc,hd,by simpa using hs⟩,?_⟩;have e:=r.length;simp only[Array.length_toList] at e;omega
def Inv.tuple(I:Inv X pins σ H s)(h:Fv X.K H a xs):∃its:List Value,bF xs its/\IsTup s.heap a its.toArray/\xs.length<=sizeLine:=by
 rcases h with h | ⟨o,its,n,hk,hc,hs,hz,r⟩
 ·obtain⟨z,its,r,p⟩:=h.ok I.hok;exact⟨its,r,p,z⟩
 ·refine⟨its.toList,r,⟨o,I.kIn a o hk,hc,n,by simpa using hs⟩,?_⟩;have e:=r.length;simp only[Array.length_toList] at e;omega
def Inv.list_inj(I:Inv X pins σ H s)(h:FA X.K H a xs)(h':FA X.K H a ys):xs=ys:=by
 obtain⟨its,r,⟨o,n,e,_,_,d⟩,_⟩:=I.list h;obtain⟨its',r',⟨o',n',e',_,_,d'⟩,_⟩:=I.list h';rw[e] at e';cases e';rw[d] at d'
 injection d' with d1 _
 have:its=its':=by simpa using Hf Array.toList d1
 subst this;exact r.inj r'
def Inv.tuple_inj(I:Inv X pins σ H s)(h:Fv X.K H a xs)(h':Fv X.K H a ys):xs=ys:=by
 obtain⟨its,r,⟨o,e,_,n,d⟩,_⟩:=I.tuple h;obtain⟨its',r',⟨o',e',_,n',d'⟩,_⟩:=I.tuple h';rw[e] at e';cases e';rw[d] at d'
 injection d' with d1 _
 have:its=its':=by simpa using Hf Array.toList d1
 subst this;exact r.inj r'
end
abbrev Cx.wish(X:Cx)(E:Value->Shared->Prop):Cx:={ X with xe:=E }
abbrev Cx.nox(X:Cx):Cx:=X.wish λ_ _=>False
def Cx.Ok.wish{X:Cx}(ok:X.Ok)(E:Value->Shared->Prop):(X.wish E).Ok :=
 ⟨ok.mod,ok.kind,ok.glob,ok.blt,ok.above,ok.inj,ok.has,ok.cab,ok.hd,ok.frames,ok.stk,ok.exf,ok.bs,ok.bsz,ok.noex,ok.exfs,ok.funs,ok.frf⟩
def Cx.Ok.unwish{X:Cx}{E:Value->Shared->Prop}(ok:(X.wish E).Ok):X.Ok :=
 ⟨ok.mod,ok.kind,ok.glob,ok.blt,ok.above,ok.inj,ok.has,ok.cab,ok.hd,ok.frames,ok.stk,ok.exf,ok.bs,ok.bsz,ok.noex,ok.exfs,ok.funs,ok.frf⟩
section
variable {X:Cx} {pins:List (Addr×Obj)} {σ:St} {H:Hp} {s:Shared} {E:Value→Shared→Prop}
def Inv.wish(I:Inv X pins σ H s)(E:Value->Shared->Prop):Inv (X.wish E) pins σ H s:=⟨I.ok.wish E,I.os,I.bare,I.base,I.loc,I.cell,I.free,I.freeC,I.pin,I.hok,I.len⟩
def Inv.unwish(I:Inv (X.wish E) pins σ H s):Inv X pins σ H s:=⟨I.ok.unwish,I.os,I.bare,I.base,I.loc,I.cell,I.free,I.freeC,I.pin,I.hok,I.len⟩
def SP.unwish{D:yz}{f:Flow}{s':Shared}(h:SP (X.wish E) pins D f s'):SP X pins D f s':=by
 cases f with
 | next=>obtain⟨σ',H',I,q⟩:=h;exact⟨σ',H',I.unwish,q⟩
 | brk=>obtain⟨σ',H',I,q⟩:=h;exact⟨σ',H',I.unwish,q⟩
 | cont=>obtain⟨σ',H',I,q⟩:=h;exact⟨σ',H',I.unwish,q⟩
 | ret u=>obtain⟨v,σ',H',I,r,q⟩:=h;exact⟨v,σ',H',I.unwish,r,q⟩
def PSs.nox{st:List Stmt}{t:TS}(h:PSs X.nox st t):PSs X st t:=λpins s σ H D I hw =>
 G9 (h pins s σ H D (I.wish _) hw) (λ_ _ q=>q.unwish) λ_ _ z=>False.elim z
end
section
variable {X:Cx} {st:Stmt} {du:List Stmt} {t u:TS} {e:Expr} {te:TE} {pos:Pos}
def DP:TS:=λD σ H=>D.nx σ H
def tSeq(t u:TS):TS:=λD σ H=>t { D with nx:=u D } σ H
def yY:PSs X [] DP:=λ_ _ σ H _ I h=>IE ⟨σ,H,I,h⟩
def wc(h1:PS X st t)(h2:PSs X du u):PSs X (st::du) (tSeq t u):=by
 intro pins s σ H D I h;refine wpAny_execs_cons (FG (h1 pins s σ H { D with nx:=u D } I h) λf s1 q=>?_)
 cases f with
 | next =>
  obtain⟨σ',H',I',q⟩:=q;exact h2 pins s1 σ' H' D I' q
 | ret v=>exact q
 | brk=>exact q
 | cont=>exact q
def zy(h1:PS X st t):PSs X [st] t:=by
 intro pins s σ H D I h;refine wpAny_execs_cons (FG (h1 pins s σ H D I h) λf s1 q=>?_)
 cases f with
 | next=>exact IE q
 | ret v=>exact q
 | brk=>exact q
 | cont=>exact q
def Inv.quiet{pins:List (Addr×Obj)}{σ:St}{H:Hp}(I:Inv X pins σ H s):interactive X.env=false:=by simp[interactive,I.ok.kind]
def Er(te:TE):TS:=λD σ H=>te σ H λ_ H1=>D.nx σ H1
def nM(he:PE X e te)(hs:swapsWith e none pos.line X.env=pure false:=by rfl):PS X (.Expr e pos) (Er te):=by
 intro pins s σ H D I h;exact wpAny_Expr_any (FG (he pins s σ H _ I h) λv s1 ⟨x,H1,I1,r1,q1⟩=>⟨σ,H1,I1,q1⟩) I.quiet hs
def tRet(te:TE):TS:=λD σ H=>te σ H D.rt
def se(he:PE X e te):PS X (.Return (some e) pos) (tRet te):=by
 intro pins s σ H D I h;exact wpAny_Return_some (FG (he pins s σ H _ I h) λv s1 ⟨x,H1,I1,r1,q1⟩=>⟨x,σ,H1,I1,r1,q1⟩)
def EL:TS:=λD _ H=>D.rt .non H
def yR:PS X (.Return none pos) EL:=λ_ _ σ H _ I h=>wpAny_Return_none ⟨.non,σ,H,I,rfl,h⟩
def tIfS(c:TT)(t u:TS):TS:=λD σ H=>c σ H λb H1=>if b=true then t D σ H1 else u D σ H1
def D9{c:Expr}{a b:List Stmt}{tc:TT}(hc:PT X c tc)(ha:PSs X a t)(hb:PSs X b u):PS X (.If c a b pos) (tIfS tc t u):=by
 intro pins s σ H D I h;refine wpAny_If (FG (hc pins s σ H _ I h) λd s1 ⟨H1,I1,q1⟩=>?_)
 cases d with
 | true=>exact ha pins s1 σ H1 D I1 q1
 | false=>exact hb pins s1 σ H1 D I1 q1
def xE:TS:=λ_ _ _=>False
def wV:PS X st xE:=λ_ _ _ _ _ _ h=>h.elim
def uC{sts:List Stmt}:PSs X sts xE:=λ_ _ _ _ _ _ h=>h.elim
end
abbrev TG:=V->St->Hp->(St->Hp->Prop)->Prop
abbrev TGs:=List V->St->Hp->(St->Hp->Prop)->Prop
def PG(X:Cx)(target:Expr)(t:TG):Prop :=
 ∀(pins:List (Addr×Obj)) (s:Shared) (σ:St) (H:Hp) (v:V) (u:Value) (Q:St->Hp->Prop),Inv X pins σ H s->bB v u->t v σ H Q ->
  wpAny (model X.prog X.w) X.A (assign target X.env u) (λ_ s'=>∃σ' H',Inv X pins σ' H' s'/\Q σ' H') X.xe s
def PGs(X:Cx)(ts:List Expr)(t:TGs):Prop :=
 ∀(pins:List (Addr×Obj)) (s:Shared) (σ:St) (H:Hp) (vs:List V) (us:List Value) (Q:St->Hp->Prop),Inv X pins σ H s->bF vs us->t vs σ H Q ->
  wpAny (model X.prog X.w) X.A (assignInOrder ((assignEach ts X.env).map (·.2)) us) (λ_ s'=>∃σ' H',Inv X pins σ' H' s'/\Q σ' H') X.xe s
section
variable {X:Cx} {pos:Pos}
def sj(i:Nat):TG:=λv σ H Q=>Q (σ.set i (some v)) H
def Ba{i:Nat}{x:Str}(hN:X.N.Nodup)(hi:X.N[i]?=some x)(hx:Loc X.env.scope x)(hf:X.fn x=true\/X.env.scope.names.lookup x=some .local :=by walk_at "v1"):PG X (.Name x pos) (sj i):=by
 intro pins s σ H v u Q I r h;exact wpAny_assign_Name (p8 I hN hi hx r (λs' I'=>⟨_,H,I',h⟩) hf)
def gNil:TGs:=λvs σ H Q=>vs=[]/\Q σ H
def DR(t:TG)(u:TGs):TGs:=λvs σ H Q=>∃v r,vs=v::r/\t v σ H λσ' H'=>u r σ' H' Q
def Bf:PGs X [] gNil:=by
 intro pins s σ H vs us Q I r h;obtain⟨e,h⟩:=h;subst e
 cases r
 exact assignInOrder_nil ⟨σ,H,I,h⟩
def wH{es:List Expr}{t:TG}{u:TGs}(h1:PG X e t)(h2:PGs X es u)
  (hs:(assignEach (e::es) X.env).map (·.2)=assign e X.env::(assignEach es X.env).map (·.2):=by rfl):PGs X (e::es) (DR t u):=by
 intro pins s σ H vs us Q I r h;obtain⟨v,vr,e1,h⟩:=h;subst e1
 cases r with
 | cons r rr =>
  rw[hs];refine assignInOrder_cons (FG (h1 pins s σ H _ _ _ I r h) λ_ s1 ⟨σ1,H1,I1,q1⟩=>?_);exact h2 pins s1 σ1 H1 _ _ Q I1 rr q1
def gTup(K:PySem.W.Frag)(n:Nat)(t:TGs):TG:=λv σ H Q=>∃a xs,v=.ref a/\Fv K H a xs/\xs.length=n/\t xs σ H Q
def Bz{es:List Expr}{k:Nat}{t:TGs}{n:Nat}(hc:X.calm=true)(h:PGs X es t)
  (hn:(assignEach es X.env).length=n:=by rfl) (hst:(assignEach es X.env).findIdx? (·.1)=none:=by rfl):PG X (.Tuple es k pos) (gTup X.K n t):=by
 intro pins s σ H v u Q I r hw;obtain⟨a,xs,e1,hq,hl,hw⟩:=hw;subst e1
 cases r
 obtain⟨its,rv,ht,hz⟩:=I.tuple hq;refine assign_Tuple_tuple (I.ok.hd hc) ht (by simp[hn,<- hl,rv.length]) hst λh' hx=>?_;have I1:Inv X pins σ H { s with heap:=h' }:=I.kept (t':=s.toks) λb o e=>hx b o (Gw (Gg e)) e;exact h pins _ σ H xs _ Q I1 (by simpa using rv) hw
def tAsg(te:TE)(g:TG):TS:=λD σ H=>te σ H λx H1=>g x σ H1 D.nx
def Bu{te:TE}{g:TG}(he:PE X e te)(hg:PG X tg g)(hs:swapsWithSole [tg] e pos.line X.env=pure false:=by rfl)(hw:swappedStores [tg] e X.env=pure none:=by rfl)
  (h1:(assignEach [tg] X.env).map (·.2)=[assign tg X.env]:=by rfl):PS X (.Assign [tg] e pos) (tAsg te g):=by
 intro pins s σ H D I h;refine wpAny_Assign_stores (FG (he pins s σ H _ I h) λv s1 ⟨x,H1,I1,r1,q1⟩=>?_) hs hw;rw[h1];exact FG (hg pins s1 σ H1 x v _ I1 r1 q1) λ_ s2 q=>q
def mD{i:Nat}{x:Str}{te:TE}{pos':Pos}(hN:X.N.Nodup)(hi:X.N[i]?=some x)(hx:Loc X.env.scope x)(he:PE X e te)(hs:swapsWith e (some (.Name x pos')) pos.line X.env=pure false:=by rfl)(hf:X.fn x=true\/X.env.scope.names.lookup x=some .local :=by walk_at "v1") :
  PS X (.Assign [.Name x pos'] e pos) (tAsg te (sj i)):=by
 intro pins s σ H D I h;refine wpAny_Assign_Name (FG (he pins s σ H _ I h) λv s1 ⟨y,H1,I1,r1,q1⟩=>?_) hs;exact p8 I1 hN hi hx r1 (λs2 I2=>⟨_,H1,I2,q1⟩) hf
end
section
variable {X:Cx} {pos:Pos}
def BE(c:TT)(tb:TS):TS:=λD σ H=>∃W:Nat->St->Hp->Prop,(∃m,W m σ H)/\∀m σ H,W m σ H ->
 c σ H λb H1=>if b=true then ∃N:St->Hp->Prop,(∀σ' H',N σ' H'->∃m',m'<m/\W m' σ' H')/\tb { D with nx:=N,ct:=N,bk:=D.nx } σ H1 else D.nx σ H1
def wO{c:Expr}{body:List Stmt}{tc:TT}{tb:TS}(hp:PassesOwn (model X.prog X.w) X.A X.env X.xe)(hc:PT X c tc)(hb:PSs X body tb):PS X (.While c body [] pos) (BE tc tb):=by
 intro pins s σ H D I h;obtain⟨W,⟨m0,w0⟩,turn⟩:=h;refine wpAny_While (codeAny_whileLoop (λn s'=>∃σ' H',Inv X pins σ' H' s'/\W n σ' H') ?_ m0 ⟨σ,H,I,w0⟩);rintro n s1 ⟨σ1,H1,I1,w1⟩;refine Ho hp (FG (hc pins s1 σ1 H1 _ I1 (turn n σ1 H1 w1)) λb s2 ⟨H2,I2,q2⟩=>?_)
 cases b with
 | true =>
  obtain⟨N,hN,q2⟩:=q2;rw[Gd rfl];refine Ho hp (FG (hb pins s2 σ1 H2 _ I2 q2) λf s3 q3=>?_)
  cases f with
  | next =>
   obtain⟨σ3,H3,I3,n3⟩:=q3;obtain⟨m',hm,w3⟩:=hN σ3 H3 n3;exact⟨m',hm,σ3,H3,I3,w3⟩
  | cont =>
   obtain⟨σ3,H3,I3,n3⟩:=q3;obtain⟨m',hm,w3⟩:=hN σ3 H3 n3;exact⟨m',hm,σ3,H3,I3,w3⟩
  | brk=>exact q3
  | ret v=>exact q3
 | false =>
  rw[Gb F0];exact IE ⟨σ1,H2,I2,q2⟩
end
structure It where
 go:Nat->Hp->Prop
 yld:Nat->Hp->V->Hp->Prop
 stop:Nat->Hp->Prop
def vC(X:Cx)(pins:List (Addr×Obj))(H:Hp)(b:Addr):Prop :=
 H b=none/\b≠X.env.locals/\b∉X.fs/\(b∈X.ex\/X.s₀.heap.objs.size<=b)/\(∀x c,X.env.cells.lookup x=some c->c≠b)/\∀p∈X.pn++pins,p.1≠b
def Inv.fpOk{X:Cx}{pins:List (Addr×Obj)}{σ:St}{H H':Hp}{b:Addr}(I:Inv X pins σ H s)(hb:s.heap.objs.size<=b)(hn:H' b=none):vC X pins H' b:=by
 refine⟨hn,HB (GA I.lt hb),I.nofs hb,.inr (FX I.sz hb),λx c e z=>?_,λp hp z=>?_⟩
 ·obtain⟨v,q⟩:=I.cell x c e;exact absurd (GA q.lt (by rw[z];exact hb)) (GQ _)
 ·exact absurd (GA (Gg (I.pin p hp).1) (by rw[z];exact hb)) (GQ _)
structure Av(P:Program)(w:World)(K:PySem.W.Frag)(tg:Expr)(J:It)(fp:List Addr)(it:Addr)(tn:Nat->Heap->Prop):Prop where
 mem:it∈fp
 obj:∀i h,tn i h->∀b∈fp,∃o,h.get? b=some o/\∀v,o.data≠.cell v
 keep:∀i h h',tn i h->(∀b∈fp,∀o,h.get? b=some o->h'.get? b=some o)->tn i h'
 item:∀(X:Cx),X.prog=P->X.w=w->X.K=K->X.calm=true->∀(i:Nat) (pins:List (Addr×Obj)) (s:Shared) (σ:St) (H:Hp) (E:Value->Shared->Prop),Inv X pins σ H s->(∀b∈fp,vC X pins H b)->tn i s.heap->J.go i H ->
  wpAny (model P w) X.A (pyNext (.ref it)) (λr s1=>∃u,r=some u /\
   wpAny (model P w) X.A (letOwnedTupleGo tg (.ref it) u) (λ_ s2=>∃x H',Inv X pins σ H' s2/\bB x u/\J.yld i H x H'/\tn (i+1) s2.heap/\∀b∈fp,H' b=none) E s1) E s
 done:∀(X:Cx),X.prog=P->X.w=w->X.K=K->X.calm=true->∀(i:Nat) (pins:List (Addr×Obj)) (s:Shared) (σ:St) (H:Hp) (E:Value->Shared->Prop),Inv X pins σ H s->(∀b∈fp,vC X pins H b)->tn i s.heap->J.stop i H ->
  wpAny (model P w) X.A (pyNext (.ref it)) (λr s1=>r=none/\Inv X pins σ H s1) E s
 self:∀(A:Around) (i:Nat) (s:Shared) (Q:Value->Shared->Prop) (E:Value->Shared->Prop),tn i s.heap->Q (.ref it) s->wpAny (model P w) A (pyIter (.ref it)) Q E s
abbrev TI:=St->Hp->(It->Hp->Prop)->Prop
def PIE(X:Cx)(pins:List (Addr×Obj))(σ:St)(tg:Expr)(R:It->Hp->Prop)(itv:Value)(s2:Shared):Prop :=
 ∃(it:Addr) (fp:List Addr) (tn:Nat->Heap->Prop) (J:It) (H':Hp),itv=.ref it/\Inv X pins σ H' s2/\Av X.prog X.w X.K tg J fp it tn/\tn 0 s2.heap/\(∀b∈fp,vC X pins H' b)/\R J H'
def PI(X:Cx)(tg iter:Expr)(wi:TI):Prop :=
 ∀(pins:List (Addr×Obj)) (s:Shared) (σ:St) (H:Hp) (R:It->Hp->Prop),Inv X pins σ H s->wi σ H R ->
  wpAny (model X.prog X.w) X.A (eval iter X.env) (λv s1=>wpAny (model X.prog X.w) X.A (pyIter v) (PIE X pins σ tg R) X.xe s1) X.xe s
def vL{M:Model}{A:Around}{E:Value->Shared->Prop}{it:Addr}{u:Value}{o:Obj}{n:String}{vs:Array Value}{Q:Unit->Shared->Prop}(ho:s.heap.get? it=some o)(hc:o.cls=.type n)(hd:o.data=.fields vs)
    (hn:["enumerate","zip","dict_itemiterator","dict_reverseitemiterator","odict_iterator","itertools.zip_longest","itertools.pairwise"].contains n=false) (hQ:Q () s):wpAny M A (letOwnedTupleGo tg (.ref it) u) Q E s:=by
  unfold letOwnedTupleGo
  cases tg<;>first
    | exact FY hQ
    | (cases u<;>first
        | exact FY hQ
        | (refine FT (wpAny_load ho ?_)
           rw[hc,hd];show wpAny M A (if (["enumerate","zip","dict_itemiterator","dict_reverseitemiterator","odict_iterator","itertools.zip_longest","itertools.pairwise"].contains n&&vs[0]?==some (rawInt _))=true then _ else _) Q E s;rw[Gb (by intro h;rw[hn,Bool.false_and] at h;cases h)]
           exact FY hQ))
def Itl(K:PySem.W.Frag)(a:Addr):It :=
 ⟨λi H=>∃xs x,FA K H a xs/\xs[i]?=some x,λi H x H'=>H'=H/\∀xs,FA K H a xs->xs[i]?=some x,λi H=>∃xs,FA K H a xs/\xs.length<=i⟩
def Itt(K:PySem.W.Frag)(a:Addr):It :=
 ⟨λi H=>∃xs x,Fv K H a xs/\xs[i]?=some x,λi H x H'=>H'=H/\∀xs,Fv K H a xs->xs[i]?=some x,λi H=>∃xs,Fv K H a xs/\xs.length<=i⟩
def Itr(lo:Int)(n:Nat):It:=⟨λi _=>i<n,λi H x H'=>H'=H/\x=.int (lo+i),λi _=>n<=i⟩
def lS(a it:Addr):Av P w K tg (Itl K a) [it] it (λi h=>h.IsListIter it a i) where
 mem:=by simp
 obj:=λi h st b hb=>by
  have e:b=it:=by simpa using hb
  subst e;obtain⟨o,e,c,d⟩:=st;exact⟨o,e,λv z=>by rw[d] at z;cases z⟩
 keep:=λi h h' st k=>st.at λo e=>k it (by simp) o e
 item:=by
  intro X hP hw hK hc i pins s σ H E I hf st hg;subst hP hw hK;obtain⟨xs,x,hq,hx⟩:=hg;obtain⟨its,rv,p,hz⟩:=I.list hq;obtain⟨u,hu,ru⟩:=rv.get hx;obtain⟨f0,f1,f2,f3,f4,f5⟩:=hf it (by simp);refine wpAny_pyNext_list_item st p.isList (x:=u) (by simpa using hu) λh' st' sb=>?_;have I1:Inv X pins σ H { s with heap:=h' }:=I.turned (t':=s.toks) (λb o hb e=>(sb.2 b hb).trans e) f0 f1 f3 f4 f5;obtain⟨o,e,c,d⟩:=id st';exact⟨u,rfl,vL (s:={ s with heap:=h' }) e c d (by decide) ⟨x,H,I1,ru,⟨rfl,λys hy=>by rw[I.list_inj hy hq];exact hx⟩,st',λb hb=>(hf b hb).1⟩⟩
 done:=by
  intro X hP hw hK hc i pins s σ H E I hf st hg;subst hP hw hK;obtain⟨xs,hq,hx⟩:=hg;obtain⟨its,rv,p,hz⟩:=I.list hq;obtain⟨f0,f1,f2,f3,f4,f5⟩:=hf it (by simp);have hl:=rv.length;exact wpAny_pyNext_list_end (I.ok.hd hc) st p.isList (by simp;omega) λh' eb=>⟨rfl,I.turned (t':=s.toks) (λb o hb e=>eb b o hb e) f0 f1 f3 f4 f5⟩
 self:=λ_ _ _ _ _ st h=>wpAny_pyIter_listiter st h
def j3(a it:Addr):Av P w K tg (Itt K a) [it] it (λi h=>h.IsTupleIter it a i) where
 mem:=by simp
 obj:=λi h st b hb=>by
  have e:b=it:=by simpa using hb
  subst e;obtain⟨o,e,c,d⟩:=st;exact⟨o,e,λv z=>by rw[d] at z;cases z⟩
 keep:=λi h h' st k=>st.at λo e=>k it (by simp) o e
 item:=by
  intro X hP hw hK hc i pins s σ H E I hf st hg;subst hP hw hK;obtain⟨xs,x,hq,hx⟩:=hg;obtain⟨its,rv,p,hz⟩:=I.tuple hq;obtain⟨u,hu,ru⟩:=rv.get hx;obtain⟨f0,f1,f2,f3,f4,f5⟩:=hf it (by simp);refine wpAny_pyNext_tuple_item st (show s.heap.IsTuple a its.toArray from p) (x:=u) (by simpa using hu) λh' st' sb=>?_;have I1:Inv X pins σ H { s with heap:=h' }:=I.turned (t':=s.toks) (λb o hb e=>(sb.2 b hb).trans e) f0 f1 f3 f4 f5;obtain⟨o,e,c,d⟩:=id st';exact⟨u,rfl,vL (s:={ s with heap:=h' }) e c d (by decide) ⟨x,H,I1,ru,⟨rfl,λys hy=>by rw[I.tuple_inj hy hq];exact hx⟩,st',λb hb=>(hf b hb).1⟩⟩
 done:=by
  intro X hP hw hK hc i pins s σ H E I hf st hg;subst hP hw hK;obtain⟨xs,hq,hx⟩:=hg;obtain⟨its,rv,p,hz⟩:=I.tuple hq;obtain⟨f0,f1,f2,f3,f4,f5⟩:=hf it (by simp);have hl:=rv.length;exact wpAny_pyNext_tuple_end (I.ok.hd hc) st (show s.heap.IsTuple a its.toArray from p) (by simp;omega) λh' eb=>⟨rfl,I.turned (t':=s.toks) (λb o hb e=>eb b o hb e) f0 f1 f3 f4 f5⟩
 self:=λ_ _ _ _ _ st h=>wpAny_pyIter_tupleiter st h
def qP(it:Addr)(lo:Int)(n:Nat):Av P w K tg (Itr lo n) [it] it (λi h=>IsRangeIter h it (lo+(i:Nat)*1) ((n:Int)-(i:Nat)) 1) where
 mem:=by simp
 obj:=λi h st b hb=>by
  have e:b=it:=by simpa using hb
  subst e
  exact⟨_,st,λv z=>by
   have z':Data.fields _=Data.cell v:=z
   cases z'⟩
 keep:=λi h h' st k=>k it (by simp) _ st
 item:=by
  intro X hP hw hK hc i pins s σ H E I hf st hg;subst hP hw hK;obtain⟨f0,f1,f2,f3,f4,f5⟩:=hf it (by simp);have W:=Walks.range (prog:=X.prog) (w:=X.w) (I.ok.hd hc) it lo 1 n;refine W.item i s _ _ hg st λv h' tk hv st' kk=>?_;obtain⟨t,rfl⟩:=hv;have I1:Inv X pins σ H { s with heap:=h',toks:=tk }:=I.turned (λb o hb e=>kk b o (by simpa using hb) e) f0 f1 f3 f4 f5;refine⟨_,rfl,vL (s:={ s with heap:=h',toks:=tk }) (n:="range_iterator") st' rfl rfl (by decide) ⟨.int (lo+i),H,I1,⟨t,?_⟩,⟨rfl,rfl⟩,st',λb hb=>(hf b hb).1⟩⟩;rw[Int.mul_one]
 done:=by
  intro X hP hw hK hc i pins s σ H E I hf st hg;subst hP hw hK;obtain⟨f0,f1,f2,f3,f4,f5⟩:=hf it (by simp);exact wpAny_pyNext_range_end (I.ok.hd hc) st (by have:n<=i:=hg;omega) λh' eb=>⟨rfl,I.turned (t':=s.toks) (λb o hb e=>eb b o hb e) f0 f1 f3 f4 f5⟩
 self:=λ_ _ _ _ _ st h=>wpAny_pyIter_rangeiter st h
end L2
namespace L2
open PySem PySem.Spec PyProof.Rows
variable {pins:List (Addr×Obj)} {σ:St} {H:Hp} {s:Shared} {fp:List Addr}
section
variable {X:Cx} {tg:Expr}
def EQ(K:PySem.W.Frag)(tl:TE):TI:=λσ H R=>tl σ H λx H1=>∃a,x=.ref a/\(∃xs,FA K H1 a xs)/\R (Itl K a) H1
def iTup(K:PySem.W.Frag)(tl:TE):TI:=λσ H R=>tl σ H λx H1=>∃a,x=.ref a/\(∃xs,Fv K H1 a xs)/\R (Itt K a) H1
def uK{l:Expr}{tl:TE}(hl:PE X l tl):PI X tg l (EQ X.K tl):=by
 intro pins s σ H R I h;refine FG (hl pins s σ H _ I h) λv s1 ⟨x,H1,I1,r1,q1⟩=>?_;obtain⟨a,e,⟨xs,hq⟩,q⟩:=q1;subst e
 cases r1
 obtain⟨its,rv,p,hz⟩:=I1.list hq;refine HI p.isList ?_;refine⟨s1.heap.objs.size,[s1.heap.objs.size],_,_,H1,rfl,I1.kept (t':=s1.toks) λb o e=>Heap.get?_push_of_some _ e,lS a _,⟨_,Heap.get?_push_size _ rfl,rfl,rfl⟩,λb hb=>?_,q⟩;have e:b=s1.heap.objs.size:=by simpa using hb
 subst e;exact I1.fpOk (F3 _) (I1.hok.fresh (F3 _))
def yb{l:Expr}{tl:TE}(hl:PE X l tl):PI X tg l (iTup X.K tl):=by
 intro pins s σ H R I h;refine FG (hl pins s σ H _ I h) λv s1 ⟨x,H1,I1,r1,q1⟩=>?_;obtain⟨a,e,⟨xs,hq⟩,q⟩:=q1;subst e
 cases r1
 obtain⟨its,rv,p,hz⟩:=I1.tuple hq;refine wpAny_pyIter_tuple (show s1.heap.IsTuple a its.toArray from p) ?_;refine⟨s1.heap.objs.size,[s1.heap.objs.size],_,_,H1,rfl,I1.kept (t':=s1.toks) λb o e=>Heap.get?_push_of_some _ e,j3 a _,⟨_,Heap.get?_push_size _ rfl,rfl,rfl⟩,λb hb=>?_,q⟩;have e:b=s1.heap.objs.size:=by simpa using hb
 subst e;exact I1.fpOk (F3 _) (I1.hok.fresh (F3 _))
def vB{R:It->Hp->Prop}{E:Value->Shared->Prop}{lo hi:Int}{t u v:Tok}{tk:Nat}(I:Inv X pins σ H s)(h1:-(2 ^ 62)<=lo)(h2:lo<2 ^ 62)(h3:-(2 ^ 62)<=hi)(h4:hi<2 ^ 62)
  (q:R (Itr lo (hi-lo).toNat) H):wpAny (model X.prog X.w) X.A (pyIter (.ref s.heap.objs.size)) (PIE X pins σ tg R) E { s with heap:=s.heap.push { cls:=.type "range",data:=.fields #[.int lo t,.int hi u,.int 1 v] },toks:=tk }:=by
 refine wpAny_pyIter_range (IsRange.new ..) (small_one h1 h2 h3 h4) ?_;have I1:Inv X pins σ H { s with heap:=s.heap.push { cls:=.type "range",data:=.fields #[.int lo t,.int hi u,.int 1 v] },toks:=tk }:=I.kept λb o e=>Heap.get?_push_of_some _ e
 refine⟨(s.heap.push { cls:=.type "range",data:=.fields #[.int lo t,.int hi u,.int 1 v] }).objs.size,[(s.heap.push { cls:=.type "range",data:=.fields #[.int lo t,.int hi u,.int 1 v] }).objs.size],_,_,H,rfl,
  I1.kept (t':=tk) λb o e=>Heap.get?_push_of_some _ e,qP _ lo (hi-lo).toNat,?_,λb hb=>?_,q⟩
 ·have e1:lo+((0:Nat):Int)*1=lo:=by simp
  have e2:(((hi-lo).toNat:Nat):Int)-((0:Nat):Int)=Builtin.Range.rangeSize lo hi 1:=by rw[rangeSize_one];split<;>omega
  show IsRangeIter _ _ (lo+((0:Nat):Int)*1) ((((hi-lo).toNat:Nat):Int)-((0:Nat):Int)) 1
  rw[e1,e2];exact Heap.get?_push_size _ rfl
 ·have e:b=(s.heap.push { cls:=.type "range",data:=.fields #[.int lo t,.int hi u,.int 1 v] }).objs.size:=by simpa using hb
  subst e;exact I1.fpOk (F3 _) (I1.hok.fresh (F3 _))
def D1(ta:TA):TI:=λσ H R=>ta σ H λvs H1=>∃j:Int,vs=[.int j]/\-(2 ^ 62)<=j/\j<2 ^ 62/\R (Itr 0 j.toNat) H1
def mf{a:Expr}{ta:TA}{p pos:Pos}(hg:Gl X "range")(hm:X.mg "range"=none)(ha:PA X [a] ta)(hs:starEach [a] X.env=[(false,eval a X.env)]:=by rfl):PI X tg (.Call (.Name "range" p) [a] [] pos) (D1 ta):=by
 intro pins s σ H R I h;refine Call_ (fH I hg hm boot_range (GT (FG (ha pos pins s σ H _ I h) λus s1 ⟨vs,H1,I1,r1,q1⟩=>?_) hs rfl));obtain⟨j,e,q1,q2,q⟩:=q1;subst e
 cases r1 with
 | cons r rr =>
  cases rr
  obtain⟨t,rfl⟩:=r;exact call_range_1 (vB I1 (by omega) (by omega) q1 q2 (by simpa using q))
def tFor(wi:TI)(g:TG)(tb:TS):TS:=λD σ H=>wi σ H λJ H1=>∃W:Nat->Nat->St->Hp->Prop,(∃m,W 0 m σ H1)/\∀i m σ H,W i m σ H ->
 (J.stop i H/\D.nx σ H)\/(J.go i H/\∃N:St->Hp->Prop,(∀σ' H',N σ' H'->∃m',m'<m/\W (i+1) m' σ' H')/\∀x H',J.yld i H x H'->g x σ H' λσ2 H2=>tb { D with nx:=N,ct:=N,bk:=D.nx } σ2 H2)
def l5(fp:List Addr)(h:Heap):List (Addr×Obj):=fp.filterMap λb=>(h.get? b).map λo=>(b,o)
def dR{h:Heap}{b:Addr}{o:Obj}(hb:b∈fp)(e:h.get? b=some o):(b,o)∈l5 fp h:=List.mem_filterMap.mpr ⟨b,hb,by rw[e];rfl⟩
def tS{h:Heap}{p:Addr×Obj}(hp:p∈l5 fp h):p.1∈fp/\h.get? p.1=some p.2:=by
 obtain⟨b,hb,e⟩:=List.mem_filterMap.mp hp
 cases q:h.get? b with
 | none=>rw[q] at e;cases e
 | some o =>
  rw[q] at e;have e':(b,o)=p:=Gc e;subst e';exact⟨hb,q⟩
def Inv.pinned(I:Inv X pins σ H s)(hf:∀b∈fp,vC X pins H b)(ho:∀b∈fp,∃o,s.heap.get? b=some o/\∀v,o.data≠.cell v):Inv X (pins++l5 fp s.heap) σ H s :=
 I.pins_of λp hp=>(F9.mp hp).elim (λz=>I.pin p (F5 _ z)) λz=>by
  obtain⟨hb,e⟩:=tS z;obtain⟨f0,f1,f2,_⟩:=hf p.1 hb;obtain⟨o,e',d⟩:=ho p.1 hb;rw[e] at e';cases e';exact⟨e,f0,f1,f2,d⟩
def Inv.unpinned{pl:List (Addr×Obj)}(I:Inv X (pins++pl) σ H s):Inv X pins σ H s:=I.pins_of λp hp=>I.pin p (F5 _ (FZ _ hp))
def pv{iter:Expr}{body:List Stmt}{wi:TI}{g:TG}{tb:TS}{pos:Pos}(hp:PassesOwn (model X.prog X.w) X.A X.env X.xe)(hc:X.calm=true)(hi:PI X tg iter wi)(hg:PG X tg g)(hb:PSs X body tb)
  (hs:∀x,foldedSetIterable iter X.env x=pure x:=by intro _;rfl):PS X (.For tg iter body [] pos) (tFor wi g tb):=by
 intro pins s σ H D I h;refine wpAny_For (FG (hi pins s σ H _ I h) λv s1 h1=>FG h1 λitv s2 h2=>?_) hs;obtain⟨it,fp,tn,J,H2,e,I2,T,st2,f2,W,⟨m0,w0⟩,turn⟩:=h2;subst e;have stat:∀ {H':Hp},(∀b∈fp,H' b=none)->∀b∈fp,vC X pins H' b:=λhn b hb=>⟨hn b hb,(f2 b hb).2⟩;refine codeAny_forLoop_any (λn s'=>∃i σ' H',Inv X pins σ' H' s'/\tn i s'.heap/\(∀b∈fp,H' b=none)/\W i n σ' H') ?_ m0 ⟨0,σ,H2,I2,st2,λb hb=>(f2 b hb).1,w0⟩;rintro n s3 ⟨i,σ3,H3,I3,st3,fr3,w3⟩
 rcases turn i n σ3 H3 w3 with⟨stop,qn⟩ | ⟨go,N,hN,step⟩
 ·refine Ho hp (FG (T.done X rfl rfl rfl hc i pins s3 σ3 H3 X.xe I3 (stat fr3) st3 stop) λr s4 ⟨hr,I4⟩=>?_);subst hr;exact IE ⟨σ3,H3,I4,qn⟩
 ·refine Ho hp (FG (T.item X rfl rfl rfl hc i pins s3 σ3 H3 X.xe I3 (stat fr3) st3 go) λr s4 ⟨u,hr,h4⟩=>?_);subst hr;refine Ho hp (FG h4 λ_ s5 ⟨x,H5,I5,r5,y5,st5,fr5⟩=>?_);have I5':=I5.pinned (stat fr5) (T.obj _ _ st5);refine Ho hp (FG (hg _ s5 σ3 H5 x u _ I5' r5 (step x H5 y5)) λ_ s6 ⟨σ6,H6,I6,q6⟩=>?_);refine Ho hp (FG (hb _ s6 σ6 H6 _ I6 q6) λf s7 q7=>?_);have again:∀ {σ7:St} {H7:Hp},Inv X (pins++l5 fp s5.heap) σ7 H7 s7->N σ7 H7->∃m,m<n/\∃i σ' H',Inv X pins σ' H' s7/\tn i s7.heap/\(∀b∈fp,H' b=none)/\W i m σ' H':=λ{σ7 H7} I7 n7=>by
   obtain⟨m',hm,w7⟩:=hN σ7 H7 n7;refine⟨m',hm,i+1,σ7,H7,I7.unpinned,T.keep _ _ _ st5 λb hb o e=>(I7.pin (b,o) (F5 _ (F5 _ (dR hb e)))).1,λb hb=>?_,w7⟩;obtain⟨o,e,d⟩:=T.obj _ _ st5 b hb;exact(I7.pin (b,o) (F5 _ (F5 _ (dR hb e)))).2.1
  cases f with
  | next=>obtain⟨σ7,H7,I7,n7⟩:=q7;exact again I7 n7
  | cont=>obtain⟨σ7,H7,I7,n7⟩:=q7;exact again I7 n7
  | brk=>obtain⟨σ7,H7,I7,q7⟩:=q7;exact⟨σ7,H7,I7.unpinned,q7⟩
  | ret v=>obtain⟨x7,σ7,H7,I7,r7,q7⟩:=q7;exact⟨x7,σ7,H7,I7.unpinned,r7,q7⟩
end
def uE{lo:Int}{n:Nat}{g:TG}{tb:TS}{D:yz}(Pv:Nat->St->Hp->Prop)(h0:Pv 0 σ H)
  (hs:∀i σ H,i<n->Pv i σ H->g (.int (lo+i)) σ H λσ2 H2=>tb { D with nx:=Pv (i+1),ct:=Pv (i+1),bk:=D.nx } σ2 H2) (hd:∀σ H,Pv n σ H->D.nx σ H) :
  ∃W:Nat->Nat->St->Hp->Prop,(∃m,W 0 m σ H)/\∀i m σ H,W i m σ H ->
   ((Itr lo n).stop i H/\D.nx σ H)\/((Itr lo n).go i H/\∃N:St->Hp->Prop,(∀σ' H',N σ' H'->∃m',m'<m/\W (i+1) m' σ' H')/\∀x H',(Itr lo n).yld i H x H'->g x σ H' λσ2 H2=>tb { D with nx:=N,ct:=N,bk:=D.nx } σ2 H2):=by
 refine⟨λi m σ H=>m=n-i/\i<=n/\Pv i σ H,⟨n,by simp,G5 _,h0⟩,?_⟩;rintro i m σ H ⟨rfl,hi,p⟩
 by_cases hlt:i<n
 ·refine .inr ⟨hlt,Pv (i+1),λσ' H' p'=>⟨n-(i+1),by omega,rfl,hlt,p'⟩,λx H' y=>?_⟩;obtain⟨e,y⟩:=y;subst e y;exact hs i σ _ hlt p
 ·have e:i=n:=by omega
  subst e;exact .inl ⟨F3 _,hd σ H p⟩
end L2
namespace L2
open PySem PySem.Spec PyProof.Rows
variable {f:Value→Value→Sem Value} {op:CmpOp}
abbrev R2:=V->V->Hp->VK->Prop
def FH(X:Cx)(f:Value->Value->Sem Value)(r:R2):Prop :=
 ∀(pins:List (Addr×Obj)) (s:Shared) (σ:St) (H:Hp) (x y:V) (v u:Value) (Q:VK),Inv X pins σ H s->bB x v->bB y u->r x y H Q ->
  wpAny (model X.prog X.w) X.A (f v u) (EP X pins σ Q) X.xe s
def UnR(X:Cx)(f:Value->Sem Value)(r:V->Hp->VK->Prop):Prop :=
 ∀(pins:List (Addr×Obj)) (s:Shared) (σ:St) (H:Hp) (x:V) (v:Value) (Q:VK),Inv X pins σ H s->bB x v->r x H Q ->
  wpAny (model X.prog X.w) X.A (f v) (EP X pins σ Q) X.xe s
def bP(X:Cx)(f:Value)(r:List V->Hp->VK->Prop):Prop :=
 ∀(pins:List (Addr×Obj)) (s:Shared) (σ:St) (H:Hp) (xs:List V) (us:List Value) (Q:VK),Inv X pins σ H s->bF xs us->r xs H Q ->
  wpAny (model X.prog X.w) X.A (call f us) (EP X pins σ Q) X.xe s
def tOp(r:R2)(ta tb:TE):TE:=λσ H Q=>ta σ H λx H1=>tb σ H1 λy H2=>r x y H2 Q
def tUn(r:V->Hp->VK->Prop)(ta:TE):TE:=λσ H Q=>ta σ H λx H1=>r x H1 Q
def rI(C:Int->Int->Prop)(g:Int->Int->V):R2:=λx y H Q=>∃i j,x=.int i/\y=.int j/\C i j/\Q (g i j) H
def rI0(g:Int->Int->V):R2:=λx y H Q=>∃i j,x=.int i/\y=.int j/\Q (g i j) H
def rU(g:Int->V):V->Hp->VK->Prop:=λx H Q=>∃i,x=.int i/\Q (g i) H
section
variable {X:Cx} {a b c:Expr} {ta tb tc:TE} {pos:Pos}
def binT(ha:PE X a ta)(hb:PE X b tb){pins:List (Addr×Obj)}{s:Shared}{σ:St}{H:Hp}{R:V->V->Hp->Prop}(I:Inv X pins σ H s)
  (h:ta σ H λx H1=>tb σ H1 λy H2=>R x y H2) {Q:Value->Shared->Prop} {f:Value->Value->Sem Value}
  (hf:∀v u s2 x y H2,Inv X pins σ H2 s2->bB x v->bB y u->R x y H2->wpAny (model X.prog X.w) X.A (f v u) Q X.xe s2) :
  wpAny (model X.prog X.w) X.A (eval a X.env) (λv s₁=>wpAny (model X.prog X.w) X.A (eval b X.env) (λu s₂=>wpAny (model X.prog X.w) X.A (f v u) Q X.xe s₂) X.xe s₁) X.xe s:=by
 refine FG (ha pins s σ H _ I h) λv s1 ⟨x,H1,I1,r1,q1⟩=>?_;refine FG (hb pins s1 σ H1 _ I1 q1) λu s2 ⟨y,H2,I2,r2,q2⟩=>?_;exact hf v u s2 x y H2 I2 r1 r2 q2
def Ed{op:Operator}{r:R2}(ho:FH X (binaryOp op) r)(ha:PE X a ta)(hb:PE X b tb):PE X (.BinOp a op b pos) (tOp r ta tb):=by
 intro pins s σ H Q I h;exact wpAny_BinOp (binT ha hb I h λv u s2 x y H2 I2 rx ry q=>ho pins s2 σ H2 x y v u Q I2 rx ry q)
def ER{op:UnaryOp}{r:V->Hp->VK->Prop}(ho:UnR X (unaryOp op) r)(ha:PE X a ta):PE X (.UnaryOp op a pos) (tUn r ta):=by
 intro pins s σ H Q I h;exact UnaryOp_ (FG (ha pins s σ H _ I h) λv s1 ⟨x,H1,I1,r1,q1⟩=>ho pins s1 σ H1 x v Q I1 r1 q1)
def opI{C:Int->Int->Prop}{g:Int->Int->Int}
  (rule:∀(i j:Int) (t u:Tok) (s:Shared) (Q:Value->Shared->Prop) (E:Value->Shared->Prop),C i j->Q (.int (g i j) s.toks) { s with toks:=s.toks+1 }->wpAny (model X.prog X.w) X.A (f (.int i t) (.int j u)) Q E s) :
  FH X f (rI C λi j=>.int (g i j)):=by
 intro pins s σ H x y v u Q I rx ry h;obtain⟨i,j,rfl,rfl,hc,q⟩:=h;obtain⟨t,rfl⟩:=rx;obtain⟨t',rfl⟩:=ry;exact rule i j t t' s _ _ hc ⟨.int (g i j),H,I.tok _,⟨_,rfl⟩,q⟩
def wD{g:Int->Int->Int}
  (rule:∀(i j:Int) (t u:Tok) (s:Shared) (Q:Value->Shared->Prop) (E:Value->Shared->Prop),Q (.int (g i j) s.toks) { s with toks:=s.toks+1 }->wpAny (model X.prog X.w) X.A (f (.int i t) (.int j u)) Q E s) :
  FH X f (rI0 λi j=>.int (g i j)):=by
 intro pins s σ H x y v u Q I rx ry h;obtain⟨i,j,rfl,rfl,q⟩:=h;obtain⟨t,rfl⟩:=rx;obtain⟨t',rfl⟩:=ry;exact rule i j t t' s _ _ ⟨.int (g i j),H,I.tok _,⟨_,rfl⟩,q⟩
def opB0{g:Int->Int->Bool}
  (rule:∀(i j:Int) (t u:Tok) (s:Shared) (Q:Value->Shared->Prop) (E:Value->Shared->Prop),Q (.bool (g i j)) s->wpAny (model X.prog X.w) X.A (f (.int i t) (.int j u)) Q E s) :
  FH X f (rI0 λi j=>.bl (g i j)):=by
 intro pins s σ H x y v u Q I rx ry h;obtain⟨i,j,rfl,rfl,q⟩:=h;obtain⟨t,rfl⟩:=rx;obtain⟨t',rfl⟩:=ry;exact rule i j t t' s _ _ ⟨.bl (g i j),H,I,rfl,q⟩
def CPow(i j:Int):Prop:=0<=j/\j<=1000000/\i.natAbs<2 ^ 64
def CMul(i j:Int):Prop:=(-(2 ^ 64)<i/\i<2 ^ 64)\/(-(2 ^ 64)<j/\j<2 ^ 64)
def CMul.ok{i j:Int}(h:CMul i j):IntMulOk i j:=by
 rcases h with⟨h1,h2⟩ | ⟨h1,h2⟩
 ·exact .of_left (intBits_le_64 h1 h2)
 ·exact .of_right (intBits_le_64 h1 h2)
def Db:FH X (binaryOp .Add) (rI0 λi j=>.int (i+j)):=wD λ_ _ _ _ _ _ _ q=>add_int q
def Dt:FH X (binaryOp .Sub) (rI0 λi j=>.int (i-j)):=wD λ_ _ _ _ _ _ _ q=>sub_int q
def Ai:FH X (binaryOp .Mod) (rI (λ_ j=>j≠0) λi j=>.int (i.fmod j)):=opI λ_ _ _ _ _ _ _ hc q=>mod_int' hc q
def C2:FH X (binaryOp .Pow) (rI CPow λi j=>.int (i ^ j.toNat)):=opI λ_ _ _ _ _ _ _ hc q=>pow_int_small hc.1 hc.2.1 hc.2.2 q
def Cu:FH X (binaryOp .LShift) (rI CPow λi j=>.int (i*2 ^ j.toNat)):=opI λ_ _ _ _ _ _ _ hc q=>lshift_int_small hc.1 hc.2.1 hc.2.2 q
def unI{f:Value->Sem Value}{g:Int->Int}
  (rule:∀(i:Int) (t:Tok) (s:Shared) (Q:Value->Shared->Prop) (E:Value->Shared->Prop),Q (.int (g i) s.toks) { s with toks:=s.toks+1 }->wpAny (model X.prog X.w) X.A (f (.int i t)) Q E s) :
  UnR X f (rU λi=>.int (g i)):=by
 intro pins s σ H x v Q I rx h;obtain⟨i,rfl,q⟩:=h;obtain⟨t,rfl⟩:=rx;exact rule i t s _ _ ⟨.int (g i),H,I.tok _,⟨_,rfl⟩,q⟩
def BF:UnR X (unaryOp .USub) (rU λi=>.int (-i)):=unI λ_ _ _ _ _ q=>neg_int q
end
def scal:V->V->Bool
 | .non,.non=>true | .non,.int _=>true | .int _,.non=>true | .non,.bl _=>true | .bl _,.non=>true | .non,.str _=>true | .str _,.non=>true
 | .int _,.int _=>true | .bl _,.bl _=>true | .str _,.str _=>true | .byt _,.byt _=>true
 | .int _,.str _=>true | .str _,.int _=>true | .bl _,.str _=>true | .str _,.bl _=>true
 | _,_=>false
def rEq:R2:=λx y H Q=>scal x y=true/\Q (.bl (decide (x=y))) H
def rNe:R2:=λx y H Q=>scal x y=true/\Q (.bl (!decide (x=y))) H
def n9{i j:Int}:decide (V.int i=V.int j)=(i==j):=by
 rw[HZ];simp
def t7{i j:Bool}:decide (V.bl i=V.bl j)=(i==j):=by
 rw[HZ];simp
def nW{i j:Str}:decide (V.str i=V.str j)=(i==j):=by
 rw[HZ];simp
def sn{i j:Array UInt8}:decide (V.byt i=V.byt j)=(i.toList==j.toList):=by
 rw[HZ]
 cases i
 cases j
 simp
section
variable {X:Cx} {a b c:Expr} {ta tb tc:TE} {pos:Pos}
def aT{pins:List (Addr×Obj)}{σ:St}{H:Hp}{s:Shared}{Q:VK}{k k':Bool}(I:Inv X pins σ H s)(q:Q (.bl k) H)(e:k=k'):EP X pins σ Q (.bool k') s:=by
 subst e;exact⟨.bl k,H,I,rfl,q⟩
def zH:FH X (compareOp .Eq) rEq:=by
 intro pins s σ H x y v u Q I rx ry h;obtain⟨hs,q⟩:=h
 cases x with
 | non =>
  cases rx
  cases y with
  | non=>cases ry;exact PySem.EqNone.eq_none_none (aT I q (by simp))
  | bl j=>cases ry;exact PySem.EqNone.eq_none_bool (aT I q (by simp))
  | int j=>obtain⟨t',rfl⟩:=ry;exact PySem.EqNone.eq_none_int (aT I q (by simp))
  | str j=>obtain⟨t',rfl⟩:=ry;exact PySem.EqNone.eq_none_str (aT I q (by simp))
  | _=>exact absurd (show false=true from hs) F0
 | bl i =>
  cases rx
  cases y with
  | non=>cases ry;exact PySem.EqNone.eq_bool_none (aT I q (by simp))
  | bl j=>cases ry;exact eq_bool (aT I q t7)
  | str j=>obtain⟨t',rfl⟩:=ry;exact PySem.EqMixed.eq_bool_str (aT I q (by simp))
  | _=>exact absurd (show false=true from hs) F0
 | int i =>
  obtain⟨t,rfl⟩:=rx
  cases y with
  | non=>cases ry;exact PySem.EqNone.eq_int_none (aT I q (by simp))
  | int j=>obtain⟨t',rfl⟩:=ry;exact eq_int (aT I q n9)
  | str j=>obtain⟨t',rfl⟩:=ry;exact PySem.EqMixed.eq_int_str (aT I q (by simp))
  | _=>exact absurd (show false=true from hs) F0
 | str i =>
  obtain⟨t,rfl⟩:=rx
  cases y with
  | non=>cases ry;exact PySem.EqNone.eq_str_none (aT I q (by simp))
  | bl j=>cases ry;exact PySem.EqMixed.eq_str_bool (aT I q (by simp))
  | int j=>obtain⟨t',rfl⟩:=ry;exact PySem.EqMixed.eq_str_int (aT I q (by simp))
  | str j=>obtain⟨t',rfl⟩:=ry;exact eq_str (aT I q nW)
  | _=>exact absurd (show false=true from hs) F0
 | byt i =>
  obtain⟨t,rfl⟩:=rx
  cases y with
  | byt j=>obtain⟨t',rfl⟩:=ry;exact PySem.W.eq_bytes (aT I q sn)
  | _=>exact absurd (show false=true from hs) F0
 | _=>cases y<;>exact absurd (show false=true from hs) F0
def Ay:FH X (compareOp .NotEq) rNe:=by
 intro pins s σ H x y v u Q I rx ry h;obtain⟨hs,q⟩:=h
 cases x with
 | non =>
  cases rx
  cases y with
  | non=>cases ry;exact PySem.EqNone.ne_none_none (aT I q (by simp))
  | bl j=>cases ry;exact PySem.EqNone.ne_none_bool (aT I q (by simp))
  | int j=>obtain⟨t',rfl⟩:=ry;exact PySem.EqNone.ne_none_int (aT I q (by simp))
  | str j=>obtain⟨t',rfl⟩:=ry;exact PySem.EqNone.ne_none_str (aT I q (by simp))
  | _=>exact absurd (show false=true from hs) F0
 | bl i =>
  cases rx
  cases y with
  | non=>cases ry;exact PySem.EqNone.ne_bool_none (aT I q (by simp))
  | bl j=>cases ry;exact ne_bool (aT I q (Hf not t7))
  | str j=>obtain⟨t',rfl⟩:=ry;exact PySem.EqMixed.ne_bool_str (aT I q (by simp))
  | _=>exact absurd (show false=true from hs) F0
 | int i =>
  obtain⟨t,rfl⟩:=rx
  cases y with
  | non=>cases ry;exact PySem.EqNone.ne_int_none (aT I q (by simp))
  | int j=>obtain⟨t',rfl⟩:=ry;exact ne_int (aT I q (Hf not n9))
  | str j=>obtain⟨t',rfl⟩:=ry;exact PySem.EqMixed.ne_int_str (aT I q (by simp))
  | _=>exact absurd (show false=true from hs) F0
 | str i =>
  obtain⟨t,rfl⟩:=rx
  cases y with
  | non=>cases ry;exact PySem.EqNone.ne_str_none (aT I q (by simp))
  | bl j=>cases ry;exact PySem.EqMixed.ne_str_bool (aT I q (by simp))
  | int j=>obtain⟨t',rfl⟩:=ry;exact PySem.EqMixed.ne_str_int (aT I q (by simp))
  | str j=>obtain⟨t',rfl⟩:=ry;exact ne_str (aT I q (Hf not nW))
  | _=>exact absurd (show false=true from hs) F0
 | byt i =>
  obtain⟨t,rfl⟩:=rx
  cases y with
  | byt j=>obtain⟨t',rfl⟩:=ry;exact PySem.W.ne_bytes (aT I q (Hf not sn))
  | _=>exact absurd (show false=true from hs) F0
 | _=>cases y<;>exact absurd (show false=true from hs) F0
def E1:FH X (compareOp .Lt) (rI0 λi j=>.bl (decide (i<j))):=opB0 λ_ _ _ _ _ _ _ q=>lt_int q
def Eb:FH X (compareOp .LtE) (rI0 λi j=>.bl (decide (i<=j))):=opB0 λ_ _ _ _ _ _ _ q=>le_int q
def DH:FH X (compareOp .Gt) (rI0 λi j=>.bl (decide (j<i))):=opB0 λ_ _ _ _ _ _ _ q=>gt_int q
def DZ:FH X (compareOp .GtE) (rI0 λi j=>.bl (decide (j<=i))):=opB0 λ_ _ _ _ _ _ _ q=>ge_int q
def BO:FH X (compareOp .Is) (λx y H Q=>y=.non/\Q (.bl (decide (x=.non))) H):=by
 intro pins s σ H x y v u Q I rx ry h;obtain⟨rfl,q⟩:=h
 cases ry
 refine is_none_gen (aT I q ?_)
 cases x<;>first
  | (cases rx;rfl)
  | (obtain⟨t,rfl⟩:=rx;rfl)
def FH.or{r r':R2}(h:FH X f r)(h':FH X f r'):FH X f (λx y H Q=>r x y H Q\/r' x y H Q):=by
 intro pins s σ H x y v u Q I rx ry q
 rcases q with q | q
 ·exact h pins s σ H x y v u Q I rx ry q
 ·exact h' pins s σ H x y v u Q I rx ry q
def aA(b:Expr)(h:op≠.In:=by decide)(h2:op≠.NotIn:=by decide):behindInMarks op b=false:=by
 have e1:(op==CmpOp.In)=false:=by cases op<;>first | rfl | exact absurd rfl h
 have e2:(op==CmpOp.NotIn)=false:=by cases op<;>first | rfl | exact absurd rfl h2
 cases b<;>simp[behindInMarks,e1,e2]
def Ar{r:R2}(ho:FH X (compareOp op) r)(ha:PE X a ta)(hb:PE X b tb)(hm:behindInMarks op b=false):PE X (.Compare a [op] [b] pos) (tOp r ta tb):=by
 intro pins s σ H Q I h;exact wpAny_Compare1 (binT ha hb I h λv u s2 x y H2 I2 rx ry q=>ho pins s2 σ H2 x y v u Q I2 rx ry q) hm
def ET(t:TE):TT:=λσ H Q=>t σ H λx H'=>∃k,x=.bl k/\Q k H'
def y6{r:R2}(ho:FH X (compareOp op) r)(ha:PE X a ta)(hb:PE X b tb)(hm:behindInMarks op b=false):PT X (.Compare a [op] [b] pos) (ET (tOp r ta tb)):=by
 intro pins s σ H Q I h
 refine wpAny_isTrue_Compare1 (FG (ha pins s σ H _ I h) λv s1 ⟨x,H1,I1,r1,q1⟩=>FG (hb pins s1 σ H1 _ I1 q1) λu s2 ⟨y,H2,I2,r2,q2⟩ =>
  FG (ho pins s2 σ H2 x y v u _ I2 r1 r2 q2) λc s3 ⟨z,H3,I3,r3,k,e,q3⟩=>?_) hm
 subst e
 cases r3
 exact Hn ⟨H3,I3,q3⟩
def o7:(sizeLine:Nat)<2 ^ 63:=by rw[sizeLine_eq];decide
def fL{x:V}{us:List Value}(r:bF [x] us):∃u,us=[u]/\bB x u:=by
 cases r with
 | cons r1 r2=>cases r2;exact⟨_,rfl,r1⟩
def BS{x y:V}{us:List Value}(r:bF [x,y] us):∃u w',us=[u,w']/\bB x u/\bB y w':=by
 cases r with
 | cons r1 r2 =>
  cases r2 with
  | cons r3 r4=>cases r4;exact⟨_,_,rfl,r1,r3⟩
def vJ:bP X (.builtin "abs") (λxs H Q=>∃i,xs=[.int i]/\Q (.int (if i<0 then -i else i)) H):=by
 intro pins s σ H xs us Q I r h;obtain⟨i,rfl,q⟩:=h;obtain⟨u,rfl,t,rfl⟩:=fL r;exact call_abs_int λu tk=>⟨.int (if i<0 then -i else i),H,I.tok _,⟨_,rfl⟩,q⟩
def tP(hc:X.calm=true):bP X (.builtin "max") (λxs H Q=>∃i j,xs=[.int i,.int j]/\Q (.int (if j>i then j else i)) H):=by
 intro pins s σ H xs us Q I r h;obtain⟨i,j,rfl,q⟩:=h;obtain⟨u,w',rfl,⟨t,rfl⟩,⟨t',rfl⟩⟩:=BS r;refine max_two_ints (I.ok.hd hc) λh' tk k=>⟨_,H,I.kept k,?_,q⟩
 by_cases hj:j>i
 ·rw[Gd hj,Gd hj];exact⟨_,rfl⟩
 ·rw[Gb hj,Gb hj];exact⟨_,rfl⟩
def sC:bP X (.type "int") (λxs H Q=>(∃i,xs=[.int i]/\Q (.int i) H)\/∃k,xs=[.bl k]/\Q (.int (if k then 1 else 0)) H):=by
 intro pins s σ H xs us Q I r h
 rcases h with⟨i,rfl,q⟩ | ⟨k,rfl,q⟩
 ·obtain⟨u,rfl,t,rfl⟩:=fL r;exact call_int_int ⟨.int i,H,I,⟨_,rfl⟩,q⟩
 ·obtain⟨u,rfl,r1⟩:=fL r
  cases r1
  exact call_int_bool ⟨.int (if k then 1 else 0),H,I.tok _,⟨_,rfl⟩,q⟩
end
end L2
namespace L2
open PySem PySem.Spec PyProof.Rows
structure ObjM(h:Heap)(x dx C:Addr)(mA:Str->Option Value):Prop where
 obj:h.get? x=some (PySem.W.instObj C dx)
 ns:h.Ns1 dx mA
 ne:dx≠x
def sO{h:Heap}{dx:Addr}{mA:Str->Option Value}(n:h.Ns1 dx mA):∃od,h.get? dx=some od/\∀name,PySem.W.lookIn name od=some (mA name):=by
 obtain⟨o,es,ep,ho,hd,hk,_,hm⟩:=n;refine⟨o,ho,λname=>?_⟩;have e:=hm name;unfold nsFind findBy at e;rw[<- Array.find?_toList] at e;unfold PySem.W.lookIn;rw[hd]
 dsimp only
 split
 ·rename_i y q
  rw[q] at e;exact Hf some e
 ·rename_i q
  rw[q] at e;have a:es.toList.any (·.refKey)=false:=by
   rw[List.any_eq_false];intro y hy;obtain⟨z,t,hkey⟩:=hk y (Array.mem_toList_iff.mp hy);simp[DictEntry.refKey,hkey]
  have a':¬ es.toList.any (·.refKey)=true:=by rw[a];exact F0
  rw[Gb a'];exact Hf some e
def ObjM.look{h:Heap}{x dx C:Addr}{mA:Str->Option Value}(I:ObjM h x dx C mA):∃od,PySem.W.InstAt h x (PySem.W.instObj C dx) C (some od)/\∀name,PySem.W.lookIn name od=some (mA name) :=
 let ⟨od,ho,hl⟩:=sO I.ns
 ⟨od,⟨I.obj,rfl,rfl,ho⟩,hl⟩
section
variable {prog:Program} {w:World} {A:Around} {E:Value→Shared→Prop} {s:Shared} {K:PySem.W.Frag} {x dx C f:Addr} {mA:Str→Option Value} {name:Str} {v:Value}
end
def rL.some_of{v:V}{o:Option Value}(r:rL (some v) o):∃u,o=some u/\bB v u:=by
 cases o with
 | none=>exact(show False from r).elim
 | some u=>exact⟨u,rfl,r⟩
section
variable {P:Program} {w:World} {H H':Hp} {h h':Heap} {a C dx:Addr} {fs fs':List (Str×V)}
def yr(hok:FN P w H h)(e:H a=some (.ins C dx fs)):∃mA,ObjM h a dx C mA/\(∀f,rL (fs.lookup f) (mA f))/\PySem.Within mA (fs.map (·.1))/\fs.length<=1000/\H dx=some (.own a):=by
 obtain⟨d,z,ne,ob,mA,n,r,q⟩:=(show bO P w H h a (.ins C dx fs) from hok a _ e);exact⟨mA,⟨ob,n,ne⟩,r,q,z,d⟩
end
structure Cls(K:PySem.W.Frag)(C:Addr):Prop where
 pg:PySem.W.plainGet K C Str.empty=true
 hd:PySem.W.hasDictIn K C=true
 po:PySem.W.plainOver K C=true
 sa:PySem.W.findIn K (.ref C) "__setattr__"=some (some (.builtin "object.__setattr__"))
def Cls.get{K:PySem.W.Frag}{C:Addr}(c:Cls K C)(f:Str):PySem.W.plainGet K C f=true:=c.pg
section
variable {X:Cx} {pins:List (Addr×Obj)} {σ:St} {H:Hp} {s:Shared} {a C dx:Addr} {fs:List (Str×V)} {f:Str} {v:V} {A:Around} {E:Value→Shared→Prop}
end
section
variable {X:Cx} {o e value:Expr} {f:Str} {pos pos' tpos:Pos} {ta tv:TE}
end
section
variable {X:Cx} {pins:List (Addr×Obj)} {σ:St} {H:Hp} {s:Shared} {A:Around} {E:Value→Shared→Prop} {Q:Value→Shared→Prop} {c:Value} {b:Bool}
inductive rW(K:PySem.W.Frag)(H:Hp):V->Value->Prop where
 | non:rW K H .non (.type "NoneType")
 | bl (x:Bool):rW K H (.bl x) (.type "bool")
 | int (i:Int):rW K H (.int i) (.type "int")
 | str (x:Str):rW K H (.str x) (.type "str")
 | flt (x:UInt64):rW K H (.flt x) (.type "float")
 | lst {a:Addr} {xs:List V} (e:H a=some (.lst xs)):rW K H (.ref a) (.type "list")
 | frz {a:Addr} {o:Obj} {xs:List V} (e:H a=some (.frz o (.lst xs))):rW K H (.ref a) (.type "list")
 | tup {a:Addr} {xs:List V} (e:H a=some (.tup xs)):rW K H (.ref a) (.type "tuple")
 | dK {a:Addr} {kvs:List (Fo×V)} (e:H a=some (.dK kvs)):rW K H (.ref a) (.type "dict")
 | dT {a:Addr} {kvs:List (List Fo×V)} (e:H a=some (.dT kvs)):rW K H (.ref a) (.type "dict")
 | ins {a C dx:Addr} {fs:List (Str×V)} (e:H a=some (.ins C dx fs)) (cl:Cls K C) (ha:PySem.W.findIn K (.ref C) "__class__"=some (some (.builtin "object.__class__")))
   (hn:PySem.W.specialIn K (.builtin "object.__class__") "__get__"=some (some (.builtin "getset_descriptor.__get__"))) (htk:PySem.W.takesIn K (.builtin "object.__class__")=some true)
   (hm:PySem.W.mroIn K C (.type "object")=some true):rW K H (.ref a) (.ref C)
def c6{x:V}{u t:Value}(I:Inv X pins σ H s)(rx:bB x u)(ty:rW X.K H x t)(e:PySem.W.kitOne X.K t c=some b)(h:∀tk,Q (.bool b) { s with toks:=tk }) :
  wpAny (model X.prog X.w) A (call (.builtin "isinstance") [u,c]) Q E s:=by
 cases ty with
 | non=>cases (show u=Value.none from rx);exact GI PySem.W.kitx_none I.kIn True.intro e (λz=>nomatch z) h
 | bl y=>cases (show u=Value.bool y from rx);exact GI PySem.W.kitx_bool I.kIn True.intro e (λz=>nomatch z) h
 | int i=>obtain⟨t,q⟩:=(show ∃t,u=Value.int i t from rx);cases q;exact GI PySem.W.kitx_int I.kIn True.intro e (λz=>nomatch z) h
 | str y=>obtain⟨t,q⟩:=(show ∃t,u=Value.str y t from rx);cases q;exact GI PySem.W.kitx_str I.kIn True.intro e (λz=>nomatch z) h
 | flt y=>obtain⟨t,q⟩:=(show ∃t,u=Value.float y t from rx);cases q;exact GI PySem.W.kitx_float I.kIn True.intro e (λz=>nomatch z) h
 | @lst a xs ea =>
  cases (show u=Value.ref a from rx)
  obtain⟨_,_,n,_,h1⟩:=(show bO X.prog X.w H s.heap a (.lst xs) from I.hok a _ ea);exact GI PySem.W.kitx_list I.kIn ⟨_,h1,rfl⟩ e (λz=>nomatch z) h
 | @frz a ob xs ea =>
  cases (show u=Value.ref a from rx)
  obtain⟨_,_,_,n,_,h1⟩:=(show bO X.prog X.w H s.heap a (.frz ob (.lst xs)) from I.hok a _ ea);exact GI PySem.W.kitx_list I.kIn ⟨_,h1,rfl⟩ e (λz=>nomatch z) h
 | @tup a xs ea =>
  cases (show u=Value.ref a from rx)
  obtain⟨_,_,_,p⟩:=(show bO X.prog X.w H s.heap a (.tup xs) from I.hok a _ ea);obtain⟨o,h1,h2,_⟩:=p;exact GI PySem.W.kitx_tuple I.kIn ⟨o,h1,h2⟩ e (λz=>nomatch z) h
 | @dK a kvs ea =>
  cases (show u=Value.ref a from rx)
  obtain⟨_,_,vs,_,p⟩:=(show bO X.prog X.w H s.heap a (.dK kvs) from I.hok a _ ea);obtain⟨o,es,ep,h1,h2,_⟩:=p;exact GI Ii I.kIn ⟨o,h1,h2.1⟩ e (λz=>nomatch z) h
 | @dT a kvs ea =>
  cases (show u=Value.ref a from rx)
  obtain⟨_,_,xs,_,o,es,ep,h1,h2,_⟩:=(show bO X.prog X.w H s.heap a (.dT kvs) from I.hok a _ ea);exact GI Ii I.kIn ⟨o,h1,h2.1⟩ e (λz=>nomatch z) h
 | @ins a C dx fs ea cl ha hn htk hm =>
  cases (show u=Value.ref a from rx)
  obtain⟨mA,O,_⟩:=yr I.hok ea;obtain⟨od,J,_⟩:=O.look;exact GI (PySem.W.kitx_own (cl.get _) cl.hd ha hn htk hm) I.kIn J e (λz=>nomatch z) h
end
end L2
namespace L2
open PySem PySem.Spec PyProof.Rows
variable {k:Nat} {A:Around} {P:Program} {w:World} {K:PySem.W.Frag} {mg:Str→Option Value} {base:Heap} {f:Addr} {fd:FuncData} {ps:List Str} {x:Str}
structure fQ(k:Nat)(A:Around):Prop where
 hd:A.handled=none
 dp:A.depth+3*k+5<recursionLimit
 un:A.units+16*k+200<cLine
def fQ.mono{j:Nat}(r:fQ k A)(h:j<=k):fQ j A:=⟨r.hd,by have:=r.dp;omega,by have:=r.un;omega⟩
def fQ.deeper(r:fQ (k+1) A)(env:Env):fQ k (A.deeper env) :=
 ⟨r.hd,by have:=r.dp;show A.depth+1+3*k+5<_;omega,by have:=r.un;show A.units+3+16*k+200<_;omega⟩
def fQ.depth(r:fQ k A):A.depth<recursionLimit:=by have:=r.dp;omega
def fQ.units(r:fQ k A):A.units+64<cLine:=by have:=r.un;omega
def tNil:TA:=λ_ H Q=>Q [] H
def D2(ta:TE)(tr:TA):TA:=λσ H Q=>ta σ H λx H1=>tr σ H1 λxs H2=>Q (x::xs) H2
section
variable {X:Cx} {e:Expr} {es:List Expr} {te:TE} {t:TA} {pos:Pos}
def eB:PA X [] tNil:=λ_ _ _ _ H Q I h=>Ij ⟨[],H,I,.nil,h⟩
def bC(ha:PE X e te)(hr:PA X es t)(hs:starEach (e::es) X.env=(false,eval e X.env)::starEach es X.env:=by rfl):PA X (e::es) (D2 te t):=by
 intro pos pins s σ H Q I h;rw[hs];show wpAny _ _ (spliced ((false,eval e X.env)::backTo pos (starEach es X.env))) _ _ s;refine Hx (FG (ha pins s σ H _ I h) λu s1 ⟨x,H1,I1,r1,q1⟩=>?_);exact FG (hr pos pins s1 σ H1 _ I1 q1) λus s2 ⟨xs,H2,I2,r2,q2⟩=>⟨x::xs,H2,I2,.cons r1 r2,q2⟩
def tTup(t:TA):TE:=λσ H Q=>t σ H λxs H1=>xs.length<=sizeLine/\∀p,H1 p=none->Q (.ref p) (FI H1 p (.tup xs))
def tLst(t:TA):TE:=λσ H Q=>t σ H λxs H1=>xs.length<=sizeLine/\∀p,H1 p=none->Q (.ref p) (FI H1 p (.lst xs))
def Dg{x1}(h:PA X es t):PE X (.Tuple es x1 pos) (tTup t):=by
 intro pins s σ H Q I hq;refine wpAny_Tuple_spliced (FG (h pos pins s σ H _ I hq) λus s1 ⟨xs,H1,I1,r,z,q⟩=>⟨by rw[<- r.length];exact z,?_⟩);have hf:H1 s1.heap.objs.size=none:=I1.hok.fresh (F3 _);refine⟨.ref s1.heap.objs.size,FI H1 s1.heap.objs.size (.tup xs),I1.laid (t':=s1.toks) (λb u e=>Heap.get?_push_of_some _ e) (F3 _) ?_,rfl,q _ hf⟩;exact⟨z,us,r,⟨_,Heap.get?_push_size _ rfl,rfl,_,rfl⟩⟩
def ul(h:PA X es t):PE X (.List es pos) (tLst t):=by
 intro pins s σ H Q I hq;refine wpAny_List_spliced (FG (h pos pins s σ H _ I hq) λus s1 ⟨xs,H1,I1,r,z,q⟩=>⟨by rw[<- r.length];exact z,?_⟩);have hf:H1 s1.heap.objs.size=none:=I1.hok.fresh (F3 _);refine⟨.ref s1.heap.objs.size,FI H1 s1.heap.objs.size (.lst xs),I1.laid (t':=s1.toks) (λb u e=>Heap.get?_push_of_some _ e) (F3 _) ?_,rfl,q _ hf⟩;exact⟨z,us,0,r,Heap.get?_push_size _ rfl⟩
end
abbrev Sp:=List V->Hp->VK->XK->Prop
abbrev CXT:=List Env->Hp->Shared->XK->Value->Shared->Prop
structure Env0(P:Program)(w:World)(K:PySem.W.Frag)(mg:Str->Option Value)(base:Heap)(A:Around)(outer:List Env)(s:Shared)(H:Hp):Prop where
 frames:A.frames=some outer
 mod:Mod K mg base
 bs:∀b o,base.get? b=some o->s.heap.get? b=some o/\H b=none
 bsz:base.objs.size<=s.heap.objs.size
 funs:s.heap.FunFrames base outer
 frf:∀b∈frs outer,H b=none
 hok:FN P w H s.heap
 bare:AllBare s.gens
def CE(outer:List Env)(P:Program)(w:World)(H:Hp)(s:Shared)(Q:VK)(u:Value)(s':Shared):Prop :=
 ∃v H',s'.os=s.os/\AllBare s'.gens/\Un (frs outer) [] H H' s.heap s'.heap/\FN P w H' s'.heap/\bB v u/\Q v H'
def CR(CX:CXT)(outer:List Env)(P:Program)(w:World)(H:Hp)(s:Shared)(Q:VK)(E:XK)(r:Result)(s':Shared):Prop :=
 match r with
 | .ok (.ret u)=>CE outer P w H s Q u s'
 | .ok _=>False
 | .error e=>CX outer H s E e s'
structure kF(P:Program)(w:World)(K:PySem.W.Frag)(mg:Str->Option Value)(base:Heap)(CX:CXT)(k:Nat)(f:Addr)(fd:FuncData)(ps:List Str)(sp:Sp):Prop where
 len:∀vs H Q E,sp vs H Q E->vs.length=ps.length
 run:∀(A:Around) (outer:List Env) (s:Shared) (H:Hp) (args:Args) (us:List Value) (vs:List V) (Q:VK) (E:XK),fQ k A->Env0 P w K mg base A outer s H->BindsTo s fd args (ps.zip us)->bF vs us->sp vs H Q E ->
  codeAny (model P w) A (.call (.ref f) args) (CR CX outer P w H s Q E) s
def kF.mono{CX:CXT}{j:Nat}{sp:Sp}(F:kF P w K mg base CX j f fd ps sp)(h:j<=k) :
  kF P w K mg base CX k f fd ps sp:=⟨F.len,λA outer s H args us vs Q E hr=>F.run A outer s H args us vs Q E (hr.mono h)⟩
def kF.imp{CX:CXT}{sp sp':Sp}(F:kF P w K mg base CX k f fd ps sp)
  (h:∀vs H Q E,sp' vs H Q E->sp vs H Q E):kF P w K mg base CX k f fd ps sp' :=
 ⟨λvs H Q E q=>F.len vs H Q E (h _ _ _ _ q),λA outer s H args us vs Q E hr he hb hv hs=>F.run A outer s H args us vs Q E hr he hb hv (h _ _ _ _ hs)⟩
section
variable {X:Cx} {pins:List (Addr×Obj)} {σ:St} {H:Hp} {s s':Shared}
def Inv.env0(I:Inv X pins σ H s):Env0 X.prog X.w X.K X.mg X.base X.A X.stack s H :=
 ⟨I.ok.frames,I.ok.mod,I.bs,FX I.ok.bsz I.sz,I.stack,I.stkFree,I.hok,I.bare⟩
def Inv.after{Q:VK}{u:Value}(I:Inv X pins σ H s)(h:CE X.stack X.prog X.w H s Q u s'):EP X pins σ Q u s':=by
 obtain⟨v,H',os,bare,un,hok,r,q⟩:=h;obtain⟨hh,g,d,t,os'⟩:=s';obtain rfl:os'=s.os:=os;exact⟨v,H',I.call (h':=hh) (g':=g) (d':=d) (t':=t) (ch:=[]) un hok bare (λb z=>absurd z (by simp)),r,q⟩
end
def EO(sp:Sp)(dvs:List V)(E:XK)(t:TA):TE:=λσ H Q=>t σ H λvs H1=>sp (vs++dvs) H1 Q E
def mj(K:PySem.W.Frag)(fd:FuncData)(ps:List Str)(ds:List Value):Prop :=
 ∀(s:Shared) (us:List Value),K.In s.heap->(us++ds).length=ps.length->BindsTo s fd ⟨us,[]⟩ (ps.zip (us++ds))
def mj.all(h:∀us:List Value,us.length=ps.length->bindArgs fd ⟨us,[]⟩=pure (ps.zip us)):mj K fd ps []:=λs us _ hl=>by
 rw[GH] at hl ⊢;exact .of_eq (h us hl)
def uo(CX:CXT)(X:Cx)(E:XK):Prop:=∀(pins:List (Addr×Obj)) (σ:St) (H:Hp) (s:Shared) (e:Value) (s':Shared),Inv X pins σ H s->CX X.stack H s E e s'->X.xe e s'
section
variable {X:Cx} {CX:CXT} {k:Nat} {f C:Addr} {fd:FuncData} {ps:List Str} {sp:Sp} {dvs:List V} {ds:List Value} {E:XK} {x m:Str} {p pos apos:Pos} {e o:Expr} {es:List Expr} {ta:TE} {t:TA}
def Cr{pins:List (Addr×Obj)}{σ:St}{H:Hp}{s:Shared}{Q:VK}{us:List Value}{vs:List V}(F:kF X.prog X.w X.K X.mg X.base CX k f fd ps sp)(hr:fQ k X.A)(hb:mj X.K fd ps ds)(hd:bF dvs ds)(hx:uo CX X E)
  (I:Inv X pins σ H s) (r:bF vs us) (h:sp (vs++dvs) H Q E):wpAny (model X.prog X.w) X.A (call (.ref f) us) (EP X pins σ Q) X.xe s:=by
 have r2:bF (vs++dvs) (us++ds):=r.append hd
 have hl:(us++ds).length=ps.length:=by rw[<- r2.length];exact F.len _ _ _ _ h
 refine wpAny_call (Iu (F.run X.A X.stack s H ⟨us,[]⟩ (us++ds) (vs++dvs) Q E hr I.env0 (hb s us I.kIn hl) r2 h) λr s' hq=>?_)
 cases r with
 | error e=>exact hx pins σ H s e s' I hq
 | ok fl =>
  cases fl with
  | ret u=>exact I.after hq
  | next=>exact False.elim hq
  | brk=>exact False.elim hq
  | cont=>exact False.elim hq
def kU(F:kF X.prog X.w X.K X.mg X.base CX k f fd ps sp)(hr:fQ k X.A)(hg:Gl X x)(hm:X.mg x=some (.ref f))(hk:PySem.W.keepIn X.K (.ref f)=true)(hb:mj X.K fd ps ds)(hd:bF dvs ds)(hx:uo CX X E)
  (ha:PA X (e::es) t) (hdb:(x==("__debug__":Str))=false:=by decide) (he:starEach (e::es) X.env=(false,eval e X.env)::starEach es X.env:=by rfl) (hpl:(backTo pos (starEach es X.env)).any (·.1)=false:=by rfl) :
  PE X (.Call (.Name x p) (e::es) [] pos) (EO sp dvs E t):=by
 intro pins s σ H Q I h;refine Hy (ub I hg hm ?_ hdb);refine PySem.W.callWith_K (h₀:=X.base) I.ok.mod.kin hk (FG (ha pos pins s σ H _ I h) λus s1 ⟨vs,H1,I1,r,q⟩=>⟨I1.kIn,?_⟩) he hpl;exact Cr F hr hb hd hx I1 r q
end
section
variable {X:Cx} {CX:CXT} {k:Nat} {f C:Addr} {fd:FuncData} {ps ks:List Str} {sp:Sp} {E:XK} {x m:Str} {p pos apos kpos:Pos} {e o:Expr} {es:List Expr} {kws:List Keyword} {te ta:TE} {t tk:TA} {nm:Option Str}
variable {g:List Value→List Value→List Value} {gV:List V→List V→List V}
end
structure aw(N P:List Str)(sc:Scope):Prop where
 kind:sc.kind=.function
 co:sc.isCoroutine=false
 gen:sc.isGenerator=false
 nd:N.Nodup
 pre:N.take P.length=P
 par:∀x∈P,sc.names.lookup x=some .local\/sc.names.lookup x=some .cell
 nofree:∀y∈sc.names,y.2≠.free
def mP{kindOf:Str->Option NameKind}:∀ {binds:List (Str×Value)} {m:Str->Option Value},(∀v,(x,v)∉binds)->bindL kindOf binds m x=m x
 | [],_,_=>rfl
 | (n,v)::r,m,h=>by
  unfold bindL;rw[mP λw hw=>h w (FU _ hw)]
  split
  ·have:x≠n:=by rintro rfl;exact h v FW
   simp[this]
  ·rfl
def mF{kindOf:Str->Option NameKind}:∀ {binds:List (Str×Value)} {m:Str->Option Value},(∀v,(x,v)∉binds)->bindC kindOf binds m x=m x
 | [],_,_=>rfl
 | (n,v)::r,m,h=>by
  unfold bindC;rw[mF λw hw=>h w (FU _ hw)]
  split
  ·rfl
  ·have:x≠n:=by rintro rfl;exact h v FW
   simp[this]
def mE{kindOf:Str->Option NameKind}{v:Value}:∀ {P:List Str} {vs:List Value} {i:Nat} {m:Str->Option Value},P.Nodup->P[i]?=some x->vs[i]?=some v->kindOf x=some .local ->
  bindL kindOf (P.zip vs) m x=some v
 | [],_,_,_,_,h,_,_=>by simp at h
 | _::_,[],_,_,_,_,h,_=>by simp at h
 | p::P,w::vs,0,m,nd,h1,h2,hk=>by
  simp at h1 h2;subst h1;subst h2;show bindL kindOf ((p,w)::P.zip vs) m p=_;unfold bindL;rw[mP λv hv=>(GU.mp nd).1 (Gr hv).1,Gd hk];simp
 | p::P,w::vs,i+1,m,nd,h1,h2,hk=>by
  show bindL kindOf ((p,w)::P.zip vs) m x=_
  unfold bindL;exact mE (i:=i) (GU.mp nd).2 (by simpa using h1) (by simpa using h2) hk
def mJ{kindOf:Str->Option NameKind}{v:Value}:∀ {P:List Str} {vs:List Value} {i:Nat} {m:Str->Option Value},P.Nodup->P[i]?=some x->vs[i]?=some v->kindOf x≠some .local ->
  bindC kindOf (P.zip vs) m x=some v
 | [],_,_,_,_,h,_,_=>by simp at h
 | _::_,[],_,_,_,_,h,_=>by simp at h
 | p::P,w::vs,0,m,nd,h1,h2,hk=>by
  simp at h1 h2;subst h1;subst h2;show bindC kindOf ((p,w)::P.zip vs) m p=_;unfold bindC;rw[mF λv hv=>(GU.mp nd).1 (Gr hv).1,Gb hk];simp
 | p::P,w::vs,i+1,m,nd,h1,h2,hk=>by
  show bindC kindOf ((p,w)::P.zip vs) m x=_
  unfold bindC;exact mJ (i:=i) (GU.mp nd).2 (by simpa using h1) (by simpa using h2) hk
def start(N:List Str)(vs:List V):St:=vs.map some++List.replicate (N.length-vs.length) none
def vi(CX:CXT)(P:Program)(w:World)(K:PySem.W.Frag)(mg:Str->Option Value)(base:Heap)(N:List Str)(qual:Str)(scope:Scope)(f:Addr)(cd:Value)(A:Around)(outer:List Env)(s:Shared)(H:Hp)(E:XK):Cx where
 prog:=P
 w:=w
 K:=K
 mg:=mg
 base:=base
 A:=A.deeper (envOfC qual scope s.heap.objs.size f cd)
 N:=N
 s₀:=s
 H₀:=H
 env:=envOfC qual scope s.heap.objs.size f cd
 outer:=outer
 stack:=envOfC qual scope s.heap.objs.size f cd::outer
 ex:=[]
 calm:=true
 fn:=λ_=>true
 pn:=[]
 xe:=λe s'=>wpAny (model P w) (A.deeper (envOfC qual scope s.heap.objs.size f cd)) (leaving (envOfC qual scope s.heap.objs.size f cd) e) (λ_ s''=>CX outer H s E e s'') (λe' s''=>CX outer H s E e' s'') s'
def qt{sc:Scope}{n:Nat}(h:sc.names.lookup x=some .cell):∃c,(cellsFrom n sc.names []).lookup x=some c:=by
 have q:=PySem.W.cellsFrom_some sc.names n [] (.inl h)
 exact Option.isSome_iff_exists.mp q
def tZ{CX:CXT}{N:List Str}{qual:Str}{scope:Scope}{cd:Value}{outer:List Env}{s s1:Shared}{H:Hp}{E:XK}{us:List Value}{vs:List V}
  (S:aw N ps scope) (hd:A.handled=none) (e0:Env0 P w K mg base A outer s H) (hl:vs.length=ps.length) (r:bF vs us)
  (x:InCallC s s.heap.objs.size (bindL (envOfC qual scope s.heap.objs.size f cd).kindOf (ps.zip us) λ_=>none) (cellsFrom (s.heap.objs.size+1) scope.names []) (bindC (envOfC qual scope s.heap.objs.size f cd).kindOf (ps.zip us) λ_=>none) s1) :
  Inv (vi CX P w K mg base N qual scope f cd A outer s H E) [] (start N vs) H s1:=by
 have hpl:ps.length<=N.length:=by have:=Hf List.length S.pre;rw[Gv] at this;omega
 obtain⟨h1,tk,rfl,hk⟩:=x.done;have noA:∀b:Addr,b∉(vi CX P w K mg base N qual scope f cd A outer s H E).ex:=λb z=>absurd (show b∈([]:List Addr) from z) (by simp)
 refine⟨⟨e0.mod,S.kind,rfl,rfl,F3 _,λy z c h1 h2=>?_,λy hy=>?_,λy c _ h=>?_,λ_=>hd,Around.frames_deeper e0.frames,.inr ⟨rfl,rfl⟩,λb z=>absurd z (noA b),e0.bs,e0.bsz,λb _ _=>noA b,λb z=>absurd z (noA b),e0.funs,e0.frf⟩,
  rfl,e0.bare,Un.kept hk,⟨_,x.toInCall.ns,λi y v h1 h2 h3=>?_⟩,λy c h=>⟨_,x.cell y c h⟩,e0.hok.fresh (F3 _),λy c h=>?_,λp hp=>absurd (show p∈([]:List (Addr×Obj)) from hp) (by simp),e0.hok.kept hk,?_⟩
 ·exact name_of_addr x.apart (Ht h1) (Ht h2)
 ·have hy:scope.names.lookup y=some .cell\/scope.names.lookup y=some .free:=hy
  rcases hy with hy | hy
  ·exact qt hy
  ·exact absurd rfl (S.nofree _ (Ht hy))
 ·exact HA (x.above y c (Ht h))
 ·have hi:i<vs.length:=by
   unfold start at h2
   by_cases hi:i<vs.length
   ·exact hi
   ·rw[List.getElem?_append_right (by simpa using hi)] at h2;rw[List.getElem?_replicate] at h2
    split at h2<;>cases h2
  have ha:vs[i]?=some v:=by
   unfold start at h2;rw[List.getElem?_append_left (by simpa using hi),List.getElem?_map] at h2
   cases e:vs[i]? with
   | none=>rw[e] at h2;cases h2
   | some a=>rw[e] at h2;cases h2;rfl
  obtain⟨u,hu,rv⟩:=r.get ha;have hp:ps[i]?=some y:=by
   rw[<- S.pre,List.getElem?_take_of_lt (by omega)];exact h1
  have ndP:ps.Nodup:=by rw[<- S.pre];exact S.nd.sublist (List.take_sublist _ _)
  refine⟨u,rv,?_⟩
  rcases S.par y (Ge hp) with k | k
  ·exact .inl ⟨k,mE ndP hp hu k⟩
  ·obtain⟨c,e⟩:=qt (n:=s.heap.objs.size+1) k;refine .inr ⟨.inl k,c,e,?_⟩;have q:=x.cell y c e;rw[mJ ndP hp hu (by show scope.names.lookup y≠_;rw[k];decide)] at q;exact q
 ·exact e0.hok.fresh (HA (x.above y c (Ht h)))
 ·unfold start;show _=N.length;rw[F1,FR,Gm];omega
def D7{CX:CXT}{name qual:Str}{params:Arguments}{body:List Stmt}{scope:Scope}{dV kV doc pm cdv ct oc:Value}{an od:Option Addr}
    {osl:Array (Option Value)} {N ps:List Str} {sp:Sp} (lk:K.lookup f=some ⟨oc,od,.func (PySem.W.fnOf name qual params body scope dV kV doc pm an cdv ct),osl⟩) (hcd:PySem.W.codeIn K cdv qual=true) (S:aw N ps scope)
    (len:∀vs H Q E,sp vs H Q E->vs.length=ps.length)
    (hbody:∀(A:Around) (outer:List Env) (s:Shared) (H:Hp) (vs:List V) (Q:VK) (E:XK),fQ k (A.deeper (envOfC qual scope s.heap.objs.size f cdv))->sp vs H Q E ->
      ∃t,PSs (vi CX P w K mg base N qual scope f cdv A outer s H E) body t/\t { nx:=λ_ H'=>Q .non H',rt:=Q } (start N vs) H) :
    kF P w K mg base CX (k+1) f (PySem.W.fnOf name qual params body scope dV kV doc pm an cdv ct) ps sp:=by
  refine⟨len,λA outer s H args us vs Q E hr e0 hb r hsp=>?_⟩;have hl:=len _ _ _ _ hsp;have KX:K.In s.heap:=e0.mod.kin.keeps λb o e=>(e0.bs b o e).1;have lim:s.heap.NoLimit:=e0.mod.nolimit.keeps λb o e=>(e0.bs b o e).1;have hkind:∀y∈ps.zip us,scope.names.lookup y.1=some .local\/(scope.names.lookup y.1=some .cell/\((cellsFrom (s.heap.objs.size+1) scope.names []).lookup y.1).isSome=true):=λ⟨n,v⟩ hy=>by
    rcases S.par n (Gr hy).1 with q | q
    · exact .inl q
    · exact .inr ⟨q,PySem.W.cellsFrom_some _ _ _ (.inl q)⟩
  refine codeAny_call_function hr.depth (KX _ _ lk) rfl S.co S.gen rfl (PySem.W.codeRec_of KX hcd) (hb _ _ _ _ ?_);refine wpAny_newFunctionEnv_cells S.kind hkind λenv he s1 x=>?_;subst he;refine⟨lim.keeps x.toInCall.keep,codeAny_func ?_⟩;obtain⟨t,ht,hq⟩:=hbody A outer s H vs Q E (hr.deeper _) hsp;have I:Inv (vi CX P w K mg base N qual scope f cdv A outer s H E) [] (start N vs) H s1:=tZ S hr.hd e0 hl r x;refine G9 (ht [] s1 (start N vs) H _ I hq) (λfl s' hs=>?_) λe s' hs=>hs;have fin:∀ {σ':St} {H':Hp} {v:V} {u:Value},Inv (vi CX P w K mg base N qual scope f cdv A outer s H E) [] σ' H' s'->bB v u->Q v H'->CE outer P w H s Q u s' :=
    λ{σ' H' v u} J rv q=>⟨v,H',J.os,J.bare,J.base,J.hok,rv,q⟩
  cases fl with
  | ret u =>
    obtain⟨v,σ',H',J,rv,q⟩:=hs;exact fin J rv q
  | next =>
    obtain⟨σ',H',J,q⟩:=hs;exact fin (v:=V.non) (u:=Value.none) J rfl q
  | brk =>
    obtain⟨_,_,_,q⟩:=hs;exact False.elim q
  | cont =>
    obtain⟨_,_,_,q⟩:=hs;exact False.elim q
end L2
namespace L2
open PySem PySem.Spec PyProof.Rows
section
variable {X:Cx} {x:Str} {p pos:Pos} {e:Expr} {es:List Expr} {t:TA} {id T:String} {r:List V→Hp→VK→Prop}
def tCB(r:List V->Hp->VK->Prop)(t:TA):TE:=λσ H Q=>t σ H λvs H1=>r vs H1 Q
def kT(hc:bP X (.builtin id) r)(hg:Gl X x)(hm:X.mg x=none)(hv:bootBuiltins x=some (.builtin id))(ha:PA X (e::es) t)(hn:x≠"__name__":=by decide)(hdb:(x==("__debug__":Str))=false:=by decide)
  (he:starEach (e::es) X.env=(false,eval e X.env)::starEach es X.env:=by rfl) (hpl:(backTo pos (starEach es X.env)).any (·.1)=false:=by rfl):PE X (.Call (.Name x p) (e::es) [] pos) (tCB r t):=by
 intro pins s σ H Q I h;refine Hy (fH I hg hm hv ?_ hn hdb);exact PyProof.Rows.callWith_builtin1 (FG (ha pos pins s σ H _ I h) λus s1 ⟨vs,H1,I1,r1,q1⟩=>hc pins s1 σ H1 vs us Q I1 r1 q1) he hpl
def jg(hc:bP X (.type T) r)(hg:Gl X x)(hm:X.mg x=none)(hv:bootBuiltins x=some (.type T))(ha:PA X (e::es) t)(hn:x≠"__name__":=by decide)(hdb:(x==("__debug__":Str))=false:=by decide)
  (he:starEach (e::es) X.env=(false,eval e X.env)::starEach es X.env:=by rfl) (hpl:(backTo pos (starEach es X.env)).any (·.1)=false:=by rfl):PE X (.Call (.Name x p) (e::es) [] pos) (tCB r t):=by
 intro pins s σ H Q I h;refine Hy (fH I hg hm hv ?_ hn hdb);exact GT (FG (ha pos pins s σ H _ I h) λus s1 ⟨vs,H1,I1,r1,q1⟩=>hc pins s1 σ H1 vs us Q I1 r1 q1) he hpl
end
end L2
namespace HT
open PySem PyProof.Rows
section
open PySem.SeqAt
open PySem.AutoSeq1 (wpAny_loadPart')
open PySem.MeetsSeq PySem.MeetsSeq2 PySem.MeetsSeq3
end
section
variable {prog:Program} {w:World} {A:Around} {E:Value→Shared→Prop} {s:Shared}
def cat_tup{t b:Addr}{vs ws:List Value}{Q:Value->Shared->Prop}(ht:IsTup s.heap t vs.toArray)(hb:IsTup s.heap b ws.toArray)(hv:vs≠[])
  (h1:ws=[]->Q (.ref t) s) (h2:ws≠[]->Q (.ref s.heap.objs.size) { s with heap:=s.heap.push { cls:=.type "tuple",data:=.seq (vs++ws).toArray } })
  (hsz:vs.length+ws.length<=sizeLine):wpAny (model prog w) A (binaryOp .Add (.ref t) (.ref b)) Q E s:=by
 obtain⟨⟨cls,dd,data,sl⟩,ho,hc,n,hd⟩:=id ht;obtain⟨⟨cls2,dd2,data2,sl2⟩,ho2,hc2,n2,hd2⟩:=id hb;simp only at hc hd hc2 hd2;subst hc hd hc2 hd2;have e:vs.toArray++ws.toArray=(vs++ws).toArray:=by simp
 by_cases hw:ws=[]
 ·exact concat_meets ⟨_,ho,rfl⟩ ⟨_,ho2,rfl⟩ noFill_tuple_add seq_tuple_add PySem.F.slot_tuple_add PySem.F.entry_tuple_add (PySem.F.args_tuple_add_2 _ _)
   (tuple_addW1 t b vs.toArray ws.toArray n n2 dd dd2 sl sl2 (by simpa using hv) (by simp[hw])) ⟨ho,ho2,h1 hw⟩
 ·refine concat_meets ⟨_,ho,rfl⟩ ⟨_,ho2,rfl⟩ noFill_tuple_add seq_tuple_add PySem.F.slot_tuple_add PySem.F.entry_tuple_add (PySem.F.args_tuple_add_2 _ _)
   (tuple_addW2 t b vs.toArray ws.toArray n n2 dd dd2 sl sl2 (by simpa using hv) (by simpa using hw) (by rw[Gs,Gs];exact hsz)) ⟨ho,ho2,?_⟩
  rw[e];exact h2 hw
def sIx(n d:Nat):Option Int->Nat
 | none=>d
 | some v=>if v<0 then (v+(n:Int)).toNat else min v.toNat n
def sIx_none(n d:Nat):sIx n d none=d:=rfl
def sIx_nat(n d k:Nat):sIx n d (some (k:Int))=min k n:=by
 show (if (k:Int)<0 then ((k:Int)+(n:Int)).toNat else min (k:Int).toNat n)=min k n
 rw[Gb (by omega),Ik]
def Cz(n d:Nat)(hd:d<=n)(o:Option Int):sIx n d o<=n:=by
 cases o with
 | none=>exact hd
 | some v =>
  show (if v<0 then (v+(n:Int)).toNat else min v.toNat n)<=n
  by_cases hv:v<0
  ·rw[Gd hv];omega
  ·rw[Gb hv];exact Nat.min_le_right _ _
def uL(v:Int)(n d:Nat):(if v<0 then max (v+(n:Int)) 0 else min v (n:Int))=((sIx n d (some v):Nat):Int):=by
 show (if v<0 then max (v+(n:Int)) 0 else min v (n:Int))=(((if v<0 then (v+(n:Int)).toNat else min v.toNat n):Nat):Int)
 by_cases hv:v<0
 ·simp only[if_pos hv];omega
 ·simp only[if_neg hv];omega
def rN(lo hi:Option Int)(n:Nat):Builtin.Slice.sliceAdjust lo hi 1 (n:Int)=(((sIx n 0 lo:Nat):Int),((sIx n n hi:Nat):Int)):=by
 have h1:¬ ((1:Int)<0):=by omega
 unfold Builtin.Slice.sliceAdjust;simp only[h1,if_false];refine Prod.ext ?_ ?_
 ·cases lo with
  | none=>rfl
  | some v=>exact uL v n 0
 ·cases hi with
  | none=>rfl
  | some v=>exact uL v n n
def rj(i j:Nat):Builtin.Slice.slicePlaces (i:Int) (j:Int) 1=j-i:=by
 unfold Builtin.Slice.slicePlaces;have h1:(1:Int)>0:=by omega
 simp only[h1,if_true,Int.ediv_one]
 split<;>omega
def jZ{v:Value}{o:Option Int}{Q:Option Int->Shared->Prop}(p:IsPart v o)(h:Q o s):wpAny (model prog w) A (Builtin.Slice.slicePartIndex v) Q E s:=by
 cases p with
 | none=>exact slicePart_none h
 | int i t=>exact slicePart_int h
def gT{sl:Addr}{vl vu:Value}{lo hi:Option Int}{n:Nat}{Q:Int×Int×Nat->Shared->Prop}(hs:s.heap.IsSliceOf sl vl vu .none)(pl:IsPart vl lo)(pu:IsPart vu hi)
  (h:Q (((sIx n 0 lo:Nat):Int),1,sIx n n hi-sIx n 0 lo) s):wpAny (model prog w) A (Builtin.Slice.sliceApplied (.ref sl) (pure (n:Int))) Q E s:=by
 obtain⟨os,hos,hcs,hds⟩:=id hs;unfold Builtin.Slice.sliceApplied Builtin.Slice.sliceFields;refine FT (FT (G3 hos hds (x:=vl) rfl (FT (G3 hos hds (x:=vu) rfl (FT (G3 hos hds (x:=.none) rfl (FY ?_)))))));refine FT (slicePart_none ?_);show wpAny _ _ (if ((1:Int)==0)=true then _ else _) _ _ s;rw[Gb (by decide)];refine FT (jZ pl (FT (jZ pu (FT (FY ?_)))));show wpAny _ _ (match Builtin.Slice.sliceAdjust lo hi 1 (n:Int) with | (lo,hi)=>pure (lo,(1:Int),Builtin.Slice.slicePlaces lo hi 1)) _ _ s;rw[rN lo hi n];show wpAny _ _ (pure (((sIx n 0 lo:Nat):Int),(1:Int),Builtin.Slice.slicePlaces ((sIx n 0 lo:Nat):Int) ((sIx n n hi:Nat):Int) 1)) _ _ s;rw[rj];exact FY h
def vQ(xs:Array Value)(i k:Nat):((List.range k).filterMap λ(m:Nat)=>xs[((i:Int)+(m:Int)*1).toNat]?).toArray=((xs.toList.drop i).take k).toArray:=by
 have e:(λ(m:Nat)=>xs[((i:Int)+(m:Int)*1).toNat]?)=λm=>xs[i+m]?:=by
  funext m
  have:((i:Int)+(m:Int)*1).toNat=i+m:=by omega
  rw[this]
 rw[e];have:=pick_run xs i k;rw[List.filterMap_map] at this;have e2:((λx=>xs[x]?) ∘ λx=>i+x)=λm=>xs[i+m]?:=rfl;rw[e2] at this;rw[this]
def getItem_tuple_cut{t sl:Addr}{items:Array Value}{vl vu:Value}{lo hi:Option Int}{Q:Value->Shared->Prop}(ht:IsTup s.heap t items)(hs:s.heap.IsSliceOf sl vl vu .none)(pl:IsPart vl lo)(pu:IsPart vu hi)
  (hw:¬ (sIx items.size 0 lo=0/\sIx items.size items.size hi=items.size))
  (h:Q (.ref s.heap.objs.size) { s with heap:=s.heap.push { cls:=.type "tuple",data:=.seq ((items.toList.drop (sIx items.size 0 lo)).take (sIx items.size items.size hi-sIx items.size 0 lo)).toArray } })
  (hsz:items.size<=sizeLine):wpAny (model prog w) A (getItem (.ref t) (.ref sl)) Q E s:=by
 have htake:sizeOk (.seq ((items.toList.drop (sIx items.size 0 lo)).take (sIx items.size items.size hi-sIx items.size 0 lo)).toArray):=by
  show ((items.toList.drop (sIx items.size 0 lo)).take (sIx items.size items.size hi-sIx items.size 0 lo)).toArray.size<=sizeLine
  rw[Gs,Gv,Hj,GE];omega
 have hj:sIx items.size items.size hi<=items.size:=Cz _ _ (F3 _) hi
 obtain⟨os,hos,hcs,hds⟩:=id hs;have hTs:s.TypeIs (.ref sl) "slice":=⟨os,hos,hcs⟩;unfold getItem
 try with_reducible refine GX ?_
 first | refine FT (FY ?_) | skip
 refine FT (wpAny_sequenceKey ht.typeIs (by decide) ?_)
 refine FT (wpAny_callSpecial?_slot (name:=Str.ofString "__getitem__") ht.typeIs PyProof.Rows.slot_tuple_getitem
  (GY PyProof.Rows.slot_tuple_getitem ht.typeIs entry_tuple_getitem ?_ (args_tuple_getitem _ _)))
 show wpAny _ _ (Builtin.Tuple.tupleItemsOf (.ref t) >>= _) _ _ s
 refine FT (tupleItemsOf_ ht ?_);refine FT (wpAny_typeOf hTs ?_);rw[Gd (by decide)];refine FT (gT hs pl pu ?_);have hno:¬ ((((sIx items.size 0 lo:Nat):Int)==0&&(1:Int)==1&&(sIx items.size items.size hi-sIx items.size 0 lo)==items.size)=true):=by
  intro q;rw[Bool.and_eq_true,Bool.and_eq_true] at q;have q1:((sIx items.size 0 lo:Nat):Int)=0:=eq_of_beq q.1.1;have q2:sIx items.size items.size hi-sIx items.size 0 lo=items.size:=eq_of_beq q.2;exact hw ⟨by omega,by omega⟩
 show wpAny _ _ (if (((sIx items.size 0 lo:Nat):Int)==0&&(1:Int)==1&&(sIx items.size items.size hi-sIx items.size 0 lo)==items.size)=true then _ else _) _ _ s
 rw[Gb hno,vQ]
 first
  | exact FT (m:=Builtin.Tuple.tupleExact _) (GR (FY ⟨_,rfl,FY h⟩) htake)
  | exact FT (m:=Builtin.Tuple.tupleExact _) (GR (FT (FY (FY ⟨_,rfl,FY h⟩))) htake)
  | exact FT (FT (m:=Builtin.Tuple.tupleExact _) (GR (FY (FY ⟨_,rfl,FY h⟩)) htake))
  | exact FT (FT (m:=Builtin.Tuple.tupleExact _) (GR (FY ⟨_,rfl,FY h⟩) htake))
end
end HT
namespace L2
open PySem PySem.Spec PyProof.Rows
abbrev TO:=St->Hp->(Option Int->Hp->Prop)->Prop
def PO(X:Cx)(e:Option Expr)(t:TO):Prop :=
 ∀(pins:List (Addr×Obj)) (s:Shared) (σ:St) (H:Hp) (Q:Option Int->Hp->Prop),Inv X pins σ H s->t σ H Q ->
  wpAny (model X.prog X.w) X.A (evalPart e X.env) (λu s'=>∃o H',Inv X pins σ H' s'/\IsPart u o/\Q o H') X.xe s
def AN:TO:=λ_ H Q=>Q none H
def Eu(t:TE):TO:=λσ H Q=>t σ H λx H1=>∃i,x=.int i/\Q (some i) H1
section
variable {X:Cx} {e:Expr} {te:TE} {lo hi:Option Expr} {tl th:TO} {pos p2:Pos}
def yE:PO X none AN:=by
 intro pins s σ H Q I h;rw[evalPart_none];exact FY ⟨none,H,I,.none,h⟩
def AL(h:PE X e te):PO X (some e) (Eu te):=by
 intro pins s σ H Q I hw;rw[evalPart_some];refine FG (h pins s σ H _ I hw) λu s1 ⟨x,H1,I1,r1,q1⟩=>?_;obtain⟨i,rfl,q⟩:=q1;obtain⟨t,rfl⟩:=r1;exact⟨some i,H1,I1,.int i t,q⟩
def SlR(X:Cx)(r:V->Option Int->Option Int->Hp->VK->Prop):Prop :=
 ∀(pins:List (Addr×Obj)) (s:Shared) (σ:St) (H:Hp) (x:V) (v vl vu:Value) (lo hi:Option Int) (sl:Addr) (Q:VK),Inv X pins σ H s->bB x v->s.heap.IsSliceOf sl vl vu .none->IsPart vl lo->IsPart vu hi->r x lo hi H Q ->
  ∃T id,typeLookup (.type T) "__getitem__"=pure (some (.builtin id))/\s.TypeIs v T/\wpAny (model X.prog X.w) X.A (getItem v (.ref sl)) (EP X pins σ Q) X.xe s
def SlR.or{r r':V->Option Int->Option Int->Hp->VK->Prop}(h:SlR X r)(h':SlR X r'):SlR X (λx lo hi H Q=>r x lo hi H Q\/r' x lo hi H Q):=by
 intro pins s σ H x v vl vu lo hi sl Q I rx hs pl pu q
 rcases q with q | q
 ·exact h pins s σ H x v vl vu lo hi sl Q I rx hs pl pu q
 ·exact h' pins s σ H x v vl vu lo hi sl Q I rx hs pl pu q
def tSl(r:V->Option Int->Option Int->Hp->VK->Prop)(te:TE)(tl th:TO):TE:=λσ H Q=>te σ H λx H1=>tl σ H1 λl H2=>th σ H2 λu H3=>r x l u H3 Q
def w9{r:V->Option Int->Option Int->Hp->VK->Prop}(hr:SlR X r)(he:PE X e te)(hl:PO X lo tl)(hu:PO X hi th):PE X (.Subscript e (.Slice lo hi none p2) pos) (tSl r te tl th):=by
 intro pins s σ H Q I h;refine Subscript_ (FG (he pins s σ H _ I h) λv s1 ⟨x,H1,I1,r1,q1⟩=>?_);refine wpAny_Slice (FG (hl pins s1 σ H1 _ I1 q1) λvl s2 ⟨l,H2,I2,pl,q2⟩=>FG (hu pins s2 σ H2 _ I2 q2) λvu s3 ⟨u,H3,I3,pu,q3⟩=>?_);rw[evalPart_none];refine FY ?_;have I4:Inv X pins σ H3 { s3 with heap:=s3.heap.push { cls:=.type "slice",data:=.fields #[vl,vu,.none] } }:=I3.kept (t':=s3.toks) λb ob q=>Heap.get?_push_of_some _ q;obtain⟨T,id,hT,ht,hg⟩:=hr pins { s3 with heap:=s3.heap.push { cls:=.type "slice",data:=.fields #[vl,vu,.none] } } σ H3 x v vl vu l u s3.heap.objs.size Q I4 r1 (Heap.IsSliceOf.new ..) pl pu q3;show wpAny (model X.prog X.w) X.A (subscriptTail e (.Slice lo hi none p2) v (.ref s3.heap.objs.size)) (EP X pins σ Q) X.xe { s3 with heap:=s3.heap.push { cls:=.type "slice",data:=.fields #[vl,vu,.none] } };exact tail_any (ops:=[.ref s3.heap.objs.size,v]) ht hT hg (by with_unfolding_all rfl)
def sB(xs:List V)(lo hi:Option Int):List V:=(xs.drop (HT.sIx xs.length 0 lo)).take (HT.sIx xs.length xs.length hi-HT.sIx xs.length 0 lo)
def iO(xs:List V)(lo hi:Option Int):(sB xs lo hi).length<=xs.length:=by
 unfold sB;rw[Gv,Hj];omega
def rSlT(K:PySem.W.Frag):V->Option Int->Option Int->Hp->VK->Prop:=λx lo hi H Q=>∃a xs,x=.ref a/\Fv K H a xs /\
 ¬ (HT.sIx xs.length 0 lo=0/\HT.sIx xs.length xs.length hi=xs.length)/\∀p,H p=none->Q (.ref p) (FI H p (.tup (sB xs lo hi)))
def C1:SlR X (rSlT X.K):=by
 intro pins s σ H x v vl vu lo hi sl Q I rx hs pl pu h;obtain⟨a,xs,rfl,hx,hw,q⟩:=h
 cases rx
 obtain⟨its,r,ht,hz⟩:=I.tuple hx;have hlen:its.toArray.size=xs.length:=by rw[Gs];exact r.length.symm
 refine⟨"tuple",_,PyProof.Rows.slot_tuple_getitem.lookup,ht.typeIs,?_⟩;refine HT.getItem_tuple_cut ht hs pl pu (by rw[hlen];exact hw) ?_ (by rw[hlen];exact hz);rw[hlen];refine⟨.ref s.heap.objs.size,_,I.laid (t':=s.toks) (o:=.tup (sB xs lo hi)) (λb ob q=>Heap.get?_push_of_some _ q) (F3 _) ?_,rfl,q _ (I.hok.fresh (F3 _))⟩;exact⟨FX (iO xs lo hi) hz,_,(r.drop (HT.sIx xs.length 0 lo)).take (HT.sIx xs.length xs.length hi-HT.sIx xs.length 0 lo),IsTup.new _ _⟩
def Ek(K:PySem.W.Frag):R2:=λx y H Q=>∃a b xs ys,x=.ref a/\y=.ref b/\Fv K H a xs/\Fv K H b ys/\xs≠[]/\xs.length+ys.length<=sizeLine /\
 (ys=[]->Q (.ref a) H)/\(ys≠[]->∀p,H p=none->Q (.ref p) (FI H p (.tup (xs++ys))))
def bF.nil_iff{xs:List V}{us:List Value}(r:bF xs us):us=[]↔xs=[]:=by
 cases r with
 | nil=>simp
 | cons _ _=>simp
def AH:FH X (binaryOp .Add) (Ek X.K):=by
 intro pins s σ H x y v u Q I rx ry h;obtain⟨a,b,xs,ys,rfl,rfl,ha,hb,hx,hz,q1,q2⟩:=h
 cases rx
 cases ry
 obtain⟨its,r1,p1,_⟩:=I.tuple ha;obtain⟨its2,r2,p2,_⟩:=I.tuple hb;refine HT.cat_tup p1 p2 (λz=>hx (r1.nil_iff.mp z)) (λz=>⟨.ref a,H,I,rfl,q1 (r2.nil_iff.mp z)⟩) (λz=>?_) (by rw[<- r1.length,<- r2.length];exact hz);refine⟨.ref s.heap.objs.size,_,I.laid (t':=s.toks) (o:=.tup (xs++ys)) (λb ob q=>Heap.get?_push_of_some _ q) (F3 _) ?_,rfl,q2 (λw=>z (r2.nil_iff.mpr w)) _ (I.hok.fresh (F3 _))⟩;exact⟨by rw[F1];exact hz,_,r1.append r2,IsTup.new _ _⟩
end
end L2
namespace L2
open PySem PySem.Spec PyProof.Rows
def ixN(n:Nat)(i:Int):Option Nat:=if 0<=i then (if i<n then some i.toNat else none) else if -(n:Int)<=i then some (i+n).toNat else none
def Fp{α:Type}(xs:List α)(i:Int):Option α:=(ixN xs.length i).bind λj=>xs[j]?
def zu{n:Nat}{i:Int}{j:Nat}(h:ixN n i=some j):seqIndex? i n=some j/\j<n/\-(n:Int)<=i/\i<n:=by
 unfold ixN at h
 by_cases h0:0<=i
 ·rw[Gd h0] at h
  by_cases h1:i<n
  ·rw[Gd h1] at h;have e:i.toNat=j:=Gc h;exact⟨by rw[seqIndex_of h0 h1,e],by omega,by omega,h1⟩
  ·rw[Gb h1] at h;cases h
 ·rw[Gb h0] at h
  by_cases h1:-(n:Int)<=i
  ·rw[Gd h1] at h;have e:(i+n).toNat=j:=Gc h;exact⟨by rw[seqIndex_neg (by omega) h1,e],by omega,h1,by omega⟩
  ·rw[Gb h1] at h;cases h
def nG{α:Type}{xs:List α}{i:Int}{v:α}(h:Fp xs i=some v):∃j,seqIndex? i xs.length=some j/\xs[j]?=some v/\j<xs.length/\-(xs.length:Int)<=i/\i<xs.length:=by
 unfold Fp at h
 cases e:ixN xs.length i with
 | none=>rw[e] at h;cases h
 | some j =>
  rw[e] at h;obtain⟨h1,h2,h3,h4⟩:=zu e;exact⟨j,h1,h,h2,h3,h4⟩
def wC{α:Type}(xs:List α)(v:α):Fp (xs++[v]) (-1)=some v:=by
 have hl:(xs++[v]).length=xs.length+1:=by simp
 have e:ixN (xs++[v]).length (-1)=some xs.length:=by
  unfold ixN;rw[hl,Gb (by decide),Gd (by omega)]
  congr 1
  omega
 unfold Fp;rw[e];show (xs++[v])[xs.length]?=some v;simp
def uN(b:Expr):Prop:=∀o i,subscripted b false o i=operate [o,i] (getItem o i)
def IxR(X:Cx)(r:R2):Prop :=
 ∀(value slice:Expr) (pins:List (Addr×Obj)) (s:Shared) (σ:St) (H:Hp) (x y:V) (v u:Value) (Q:VK),Inv X pins σ H s->bB x v->bB y u->r x y H Q ->
  subscripted slice false v u=operate [v,u] (getItem v u)->wpAny (model X.prog X.w) X.A (subscriptTail value slice v u) (EP X pins σ Q) X.xe s
def MtR(X:Cx)(id:String)(r:V->List V->Hp->VK->Prop):Prop :=
 ∀(pins:List (Addr×Obj)) (s:Shared) (σ:St) (H:Hp) (x:V) (xs:List V) (v:Value) (us:List Value) (Q:VK),Inv X pins σ H s->bB x v->bF xs us->r x xs H Q ->
  wpAny (model X.prog X.w) X.A (call (.builtin id) (v::us)) (EP X pins σ Q) X.xe s
section
variable {X:Cx} {a b:Expr} {ta tb:TE} {pos:Pos}
def IxR.or{r r':R2}(h:IxR X r)(h':IxR X r'):IxR X (λx y H Q=>r x y H Q\/r' x y H Q):=by
 intro value slice pins s σ H x y v u Q I rx ry q hs
 rcases q with q | q
 ·exact h value slice pins s σ H x y v u Q I rx ry q hs
 ·exact h' value slice pins s σ H x y v u Q I rx ry q hs
def MtR.or{id:String}{r r':V->List V->Hp->VK->Prop}(h:MtR X id r)(h':MtR X id r'):MtR X id (λx xs H Q=>r x xs H Q\/r' x xs H Q):=by
 intro pins s σ H x xs v us Q I rx rs q
 rcases q with q | q
 ·exact h pins s σ H x xs v us Q I rx rs q
 ·exact h' pins s σ H x xs v us Q I rx rs q
def Ev{r:R2}(hr:IxR X r)(ha:PE X a ta)(hb:PE X b tb)(hs:uN b):PE X (.Subscript a b pos) (tOp r ta tb):=by
 intro pins s σ H Q I h;exact Subscript_ (binT ha hb I h λv u s2 x y H2 I2 rx ry q=>hr a b pins s2 σ H2 x y v u Q I2 rx ry q (hs _ _))
def rIxL(K:PySem.W.Frag):R2:=λx y H Q=>∃p xs i v,x=.ref p/\y=.int i/\FA K H p xs/\Fp xs i=some v/\Q v H
def rIxT(K:PySem.W.Frag):R2:=λx y H Q=>∃p xs i v,x=.ref p/\y=.int i/\Fv K H p xs/\Fp xs i=some v/\Q v H
def rIxS:R2:=λx y H Q=>∃z i c,x=.str z/\y=.int i/\z.length<=sizeLine/\Fp z.cps.toList i=some c/\Q (.str ⟨#[c]⟩) H
def zU:IxR X (rIxL X.K):=by
 intro value slice pins s σ H x y v u Q I rx ry h hs;obtain⟨p,xs,i,z,rfl,rfl,hq,he,q⟩:=h
 cases rx
 obtain⟨t,rfl⟩:=ry;obtain⟨its,r,pl,hz⟩:=I.list hq;obtain⟨j,h1,h2,h3,h4,h5⟩:=nG he;obtain⟨w,ew,rw'⟩:=r.get h2;have hl:=r.length;have hn:=o7;have fin:EP X pins σ Q w s:=⟨z,H,I,rw',q⟩
 by_cases h0:0<=i
 ·have hj:i.toNat=j:=by
   rw[seqIndex_of h0 h5] at h1;exact Gc h1
  exact item_listR pl.isList h0 (by omega) (by rw[hj];simpa using ew) fin hs
 ·have hj:(i+(its.toArray.size:Int)).toNat=j:=by
   rw[seqIndex_neg (by omega) h4] at h1;rw[Gs,<- hl];exact Gc h1
  exact subscriptTail_builtinR (x:=w) pl.isList.typeIs slot_list_getitem.lookup
   (wpAny_getItem_list_neg (Q:=λr s'=>r=w/\EP X pins σ Q r s') pl.isList (by omega) (by rw[Gs]<;>omega) (by omega) (by rw[hj];simpa using ew) ⟨rfl,fin⟩) hs
def Do:IxR X (rIxT X.K):=by
 intro value slice pins s σ H x y v u Q I rx ry h hs;obtain⟨p,xs,i,z,rfl,rfl,hq,he,q⟩:=h
 cases rx
 obtain⟨t,rfl⟩:=ry;obtain⟨its,r,pl,hz⟩:=I.tuple hq;obtain⟨j,h1,h2,h3,h4,h5⟩:=nG he;obtain⟨w,ew,rw'⟩:=r.get h2;have hl:=r.length;have hn:=o7;have fin:EP X pins σ Q w s:=⟨z,H,I,rw',q⟩;exact subscriptTail_builtinR (x:=w) pl.typeIs slot_tuple_getitem.lookup
  (getItem_tuple (j:=j) (Q:=λr s'=>r=w/\EP X pins σ Q r s') pl (by omega) (by omega) (by rw[Gs,<- hl];exact h1) (by simpa using ew) ⟨rfl,fin⟩) hs
def BZ:IxR X rIxS:=by
 intro value slice pins s σ H x y v u Q I rx ry h hs;obtain⟨z,i,c,rfl,rfl,hz,he,q⟩:=h;obtain⟨t,rfl⟩:=rx;obtain⟨t',rfl⟩:=ry;obtain⟨j,h1,h2,h3,h4,h5⟩:=nG he;have hl:z.cps.toList.length=z.length:=by simp[Str.length]
 rw[hl] at h1 h4 h5;have hn:=o7
 exact tail_any (typeIs_str s z t) slot_str_getitem.lookup (getItem_str (c:=c) (by
  have e1:decide (i < -(2 ^ 63:Int))=false:=Gx (by omega)
  have e2:decide (i ≥ 2 ^ 63)=false:=Gx (by omega)
  rw[e1,e2,Bool.or_false]) (by rw[h1];simpa using h2) ⟨.str ⟨#[c]⟩,H,I.tok _,⟨_,rfl⟩,q⟩) hs
def rIx(K:PySem.W.Frag):R2:=λx y H Q=>rIxL K x y H Q\/rIxT K x y H Q\/rIxS x y H Q
def Bm:IxR X (rIx X.K):=zU.or (Do.or BZ)
def Inv.lst{pins:List (Addr×Obj)}{σ:St}{H:Hp}{s:Shared}{p:Addr}{xs:List V}(I:Inv X pins σ H s)(h:H p=some (.lst xs)) :
  ∃(its:List Value) (n:Nat),bF xs its/\s.heap.get? p=some { cls:=.type "list",data:=.seq its.toArray n }/\xs.length<=sizeLine:=by
 obtain⟨z,its,n,r,e⟩:=I.hok p _ h;exact⟨its,n,r,e,z⟩
def lZ(lo hi:Option Int)(n:Nat):(sliceBounds lo hi none n).1=((HT.sIx n 0 lo:Nat):Int)/\(sliceBounds lo hi none n).2.1=((HT.sIx n n hi:Nat):Int)/\(sliceBounds lo hi none n).2.2=1:=by
 refine⟨?_,?_,rfl⟩
 ·cases lo with
  | none=>simp[sliceBounds,HT.sIx]
  | some i =>
   simp only[sliceBounds,HT.sIx,Option.getD_none,show (1:Int)>0 by decide,if_true]
   by_cases h:i<0
   ·simp only[h,if_true]<;>omega
   ·simp only[h,if_false]<;>omega
 ·cases hi with
  | none=>simp[sliceBounds,HT.sIx]
  | some i =>
   simp only[sliceBounds,HT.sIx,Option.getD_none,show (1:Int)>0 by decide,if_true]
   by_cases h:i<0
   ·simp only[h,if_true]<;>omega
   ·simp only[h,if_false]<;>omega
def lu(its:List Value)(lo hi:Option Int):slicePick its.toArray lo hi none=((its.drop (HT.sIx its.length 0 lo)).take (HT.sIx its.length its.length hi-HT.sIx its.length 0 lo)).toArray:=by
 obtain⟨h1,h2,h3⟩:=lZ lo hi its.toArray.size;unfold slicePick;rw[h1,h2,h3];simp only[sliceRange_one,pick_run,List.size_toArray]<;>rfl
def rSlL(K:PySem.W.Frag):V->Option Int->Option Int->Hp->VK->Prop:=λx lo hi H Q=>∃a xs,x=.ref a/\FA K H a xs/\∀p,H p=none->Q (.ref p) (FI H p (.lst (sB xs lo hi)))
def zq:SlR X (rSlL X.K):=by
 intro pins s σ H x v vl vu lo hi sl Q I rx hs pl pu h;obtain⟨a,xs,rfl,hx,q⟩:=h
 cases rx
 obtain⟨its,r,ht,hz⟩:=I.list hx;have hlen:=r.length;refine⟨"list",_,slot_list_getitem.lookup,ht.isList.typeIs,?_⟩;refine wpAny_getItem_list_slice ht.isList hs pl pu .none (by simp) ?_ (by rw[Gs]<;>omega)
 rw[lu,<- hlen];refine⟨.ref s.heap.objs.size,_,I.laid (t':=s.toks) (o:=.lst (sB xs lo hi)) (λb ob q=>Heap.get?_push_of_some _ q) (F3 _) ?_,rfl,q _ (I.hok.fresh (F3 _))⟩;exact⟨FX (iO xs lo hi) hz,_,0,(r.drop (HT.sIx xs.length 0 lo)).take (HT.sIx xs.length xs.length hi-HT.sIx xs.length 0 lo),Heap.get?_push_size _ rfl⟩
def BX:V->Bool
 | .non=>true
 | .bl _=>true
 | .int _=>true
 | .str _=>true
 | _=>false
def eqV:V->V->Bool
 | .non,.non=>true
 | .bl a,.bl b=>a==b
 | .bl a,.int b=>(if a then 1 else 0)==b
 | .int a,.bl b=>a==(if b then 1 else 0)
 | .int a,.int b=>a==b
 | .str a,.str b=>a==b
 | _,_=>false
def p9{A:Around}{s:Shared}{y x:V}{u v:Value}(ry:bB y u)(rx:bB x v)(fy:BX y=true)(fx:BX x=true):SeqAt.EqAt A s u v (eqV y x):=by
 cases y with
 | non =>
  cases ry
  cases x with
  | non=>cases rx;exact IF _
  | bl b=>cases rx;exact SeqAt.EqAt.none_bool b
  | int b=>obtain⟨t,rfl⟩:=rx;exact SeqAt.EqAt.none_int b t
  | str b=>obtain⟨t,rfl⟩:=rx;exact SeqAt.EqAt.none_str b t
  | _=>exact absurd (show false=true from fx) F0
 | bl a =>
  cases ry
  cases x with
  | non=>cases rx;exact SeqAt.EqAt.bool_none a
  | bl b=>cases rx;exact SeqAt.EqAt.bool_bool a b
  | int b=>obtain⟨t,rfl⟩:=rx;exact SeqAt.EqAt.bool_int a b t
  | str b=>obtain⟨t,rfl⟩:=rx;exact SeqAt.EqAt.bool_str a b t
  | _=>exact absurd (show false=true from fx) F0
 | int a =>
  obtain⟨t',rfl⟩:=ry
  cases x with
  | non=>cases rx;exact SeqAt.EqAt.int_none a t'
  | bl b=>cases rx;exact SeqAt.EqAt.int_bool a t' b
  | int b=>obtain⟨t,rfl⟩:=rx;exact SeqAt.EqAt.int_int a t' b t
  | str b=>obtain⟨t,rfl⟩:=rx;exact SeqAt.EqAt.int_str a t' b t
  | _=>exact absurd (show false=true from fx) F0
 | str a =>
  obtain⟨t',rfl⟩:=ry
  cases x with
  | non=>cases rx;exact SeqAt.EqAt.str_none a t'
  | bl b=>cases rx;exact SeqAt.EqAt.str_bool a t' b
  | int b=>obtain⟨t,rfl⟩:=rx;exact SeqAt.EqAt.str_int a t' b t
  | str b=>obtain⟨t,rfl⟩:=rx;exact SeqAt.EqAt.str_str a t' b t
  | _=>exact absurd (show false=true from fx) F0
 | _=>exact absurd (show false=true from fy) F0
def gI:bP X (.builtin "len") (λxs H Q=>∃p ys,xs=[.ref p]/\(FA X.K H p ys\/Fv X.K H p ys)/\Q (.int ys.length) H):=by
 intro pins s σ H xs us Q I r h;obtain⟨p,ys,rfl,hq,q⟩:=h;obtain⟨u,rfl,rx⟩:=fL r
 cases rx
 have hn:=o7
 rcases hq with hq | hq
 ·obtain⟨its,r',pl,hz⟩:=I.list hq;have hlen:=r'.length;exact Calls.call_len_list pl.isList (by simp only[List.size_toArray]<;>omega) ⟨.int ys.length,H,I.tok _,⟨s.toks+1,by rw[Gs,hlen]⟩,q⟩
 ·obtain⟨its,r',pl,hz⟩:=I.tuple hq;have hlen:=r'.length;exact len_tuple pl (by simp only[List.size_toArray]<;>omega) ⟨.int ys.length,H,I.tok _,⟨s.toks+1,by rw[Gs,hlen]⟩,q⟩
def bP.or{f:Value}{r r':List V->Hp->VK->Prop}(h:bP X f r)(h':bP X f r'):bP X f (λxs H Q=>r xs H Q\/r' xs H Q):=by
 intro pins s σ H xs us Q I rs q
 rcases q with q | q
 ·exact h pins s σ H xs us Q I rs q
 ·exact h' pins s σ H xs us Q I rs q
def fP:bP X (.type "tuple") (λxs H Q=>∃p ys,xs=[.ref p]/\((FA X.K H p ys/\∀l,H l=none->Q (.ref l) (FI H l (.tup ys)))\/(Fv X.K H p ys/\Q (.ref p) H))):=by
 intro pins s σ H xs us Q I r h;obtain⟨p,ys,rfl,h⟩:=h;obtain⟨u,rfl,rx⟩:=fL r
 cases rx
 rcases h with⟨hq,q⟩ | ⟨hq,q⟩
 ·obtain⟨its,r',pl,hz⟩:=I.list hq;have hlen:=r'.length;refine call_tuple_list pl.isList (λh' kp=>?_) (by simp only[List.size_toArray]<;>omega)
  have I1:Inv X pins σ H { s with heap:=h' }:=I.kept (t':=s.toks) kp
  have I2:Inv X pins σ (FI H h'.objs.size (.tup ys)) { s with heap:=h'.push { cls:=.type "tuple",data:=.seq its.toArray } } :=
   I1.laid (t':=s.toks) (λb o e=>Heap.get?_push_of_some _ e) (F3 _) (show bO X.prog X.w _ _ _ (.tup ys) from⟨hz,its,r',IsTup.new _ _⟩)
  exact⟨.ref h'.objs.size,_,I2,rfl,q _ (I1.hok.fresh (F3 _))⟩
 ·obtain⟨its,r',pl,hz⟩:=I.tuple hq;exact call_tuple_same pl ⟨.ref p,H,I,rfl,q⟩
def tyV(K:PySem.W.Frag)(T:String)(x:V)(H:Hp):Prop:=match x with
 | .str _=>T="str"
 | .int _=>T="int"
 | .ref p=>(T="list"/\∃xs,FA K H p xs)\/(T="tuple"/\∃o,K.lookup p=some o/\o.cls=.type "tuple"/\o.dict=none) \/
   (T="dict"/\((∃kvs,H p=some (.dK kvs))\/∃kvs,H p=some (.dT kvs)))\/(T="set"/\∃S n,H p=some (.set S n))
 | _=>False
def Ca{pins:List (Addr×Obj)}{σ:St}{H:Hp}{s:Shared}{T:String}{x:V}{v:Value}(I:Inv X pins σ H s)(r:bB x v)(ty:tyV X.K T x H) :
  s.TypeIs v T/\∀a,v=.ref a->∃ob,s.heap.get? a=some ob/\ob.dict=none:=by
 cases x with
 | str z =>
  obtain⟨t,rfl⟩:=r
  cases (show T="str" from ty)
  exact⟨typeIs_str s z t,λ_ e=>nomatch e⟩
 | int i =>
  obtain⟨t,rfl⟩:=r
  cases (show T="int" from ty)
  exact⟨typeIs_int s i t,λ_ e=>nomatch e⟩
 | ref p =>
  cases r
  rcases ty with⟨rfl,xs,hq⟩ | ⟨rfl,o,hk,hc,hd⟩ | ⟨rfl,hk⟩ | ⟨rfl,S,n,hk⟩
  ·obtain⟨its,_,pl,_⟩:=I.list hq;refine⟨pl.isList.typeIs,λa e=>?_⟩
   cases e
   obtain⟨o,n,e,c,hd,_⟩:=pl;exact⟨o,e,hd⟩
  ·refine⟨⟨o,I.kIn p o hk,hc⟩,λa e=>?_⟩
   cases e
   exact⟨o,I.kIn _ o hk,hd⟩
  ·have z:∃o,s.heap.get? p=some o/\o.ExactDict:=by
    rcases hk with⟨kvs,hk⟩ | ⟨kvs,hk⟩
    ·obtain⟨_,_,_,_,o,_,_,e,ex,_⟩:=I.hok p _ hk;exact⟨o,e,ex⟩
    ·obtain⟨_,_,_,_,o,_,_,e,ex,_⟩:=I.hok p _ hk;exact⟨o,e,ex⟩
   obtain⟨o,e,ex⟩:=z;refine⟨⟨o,e,ex.1⟩,λa e2=>?_⟩
   cases e2
   exact⟨o,e,ex.2.1⟩
  ·obtain⟨o,_,_,_,e,ex,_⟩:=I.hok p _ hk;refine⟨⟨o,e,ex.1⟩,λa e2=>?_⟩
   cases e2
   exact⟨o,e,ex.2.1⟩
 | _=>exact False.elim ty
def tBM(K:PySem.W.Frag)(T:String)(r:V->List V->Hp->VK->Prop)(to:TE)(t:TA):TE:=λσ H Q=>to σ H λx H1=>tyV K T x H1/\t σ H1 λxs H2=>r x xs H2 Q
variable {o e:Expr} {es:List Expr} {to:TE} {t:TA} {name:Str} {apos cpos:Pos} {T id:String} {r:V→List V→Hp→VK→Prop}
def Dr(pa:PlainAttrs T)(slot:Slot T name id)(hty:typeOf (.builtin id)=pure (.type "method_descriptor"))(hm:MtR X id r)(ho:PE X o to)(ha:PA X (e::es) t)
    (hbase:attributeBase o name X.env (eval o X.env)=eval o X.env:=by rfl)
    (hfew:((backTo cpos (starEach (e::es) X.env)).all (λx=>!x.1)&&(backToKw cpos (keywordEach [] X.env)).all (λx=>x.1.isSome)
      && decide ((e::es).length+([]:List Keyword).length+(if ([]:List Keyword).isEmpty then 0 else 1)<30))=true:=by rfl)
    (hline:(apos.endLine==cpos.line)=true:=by rfl) (hs:starEach (e::es) X.env=(false,eval e X.env)::starEach es X.env:=by rfl) (hplain:(backTo cpos (starEach es X.env)).any (·.1)=false:=by rfl) :
    PE X (.Call (.Attribute o name apos) (e::es) [] cpos) (tBM X.K T r to t):=by
  intro pins s σ H Q I h;refine wpAny_Call_method_late hbase hfew hline rfl (FG (ho pins s σ H _ I h) λv s1 ⟨x,H1,I1,r1,ty,q1⟩=>?_);obtain⟨h1,h2⟩:=Ca I1 r1 ty;refine⟨T,id,pa,slot,hty,h1,h2,?_⟩;have hA:=ha cpos pins s1 σ H1 _ I1 q1;rw[hs] at hA ⊢;refine Calls.callWith_builtin (by show (false||(backTo cpos (starEach es X.env)).any (·.1))=false;rw[hplain]<;>rfl) (Calls.evalArgs_plain ?_)
  exact FG hA λus s2 ⟨vs,H2,I2,r2,q2⟩=>hm pins s2 σ H2 x vs v us Q I2 r1 r2 q2
end
end L2
namespace L2
open PySem PySem.Spec PyProof.Rows
def MtM(X:Cx)(id:String)(r:V->List V->Hp->VK->Prop):Prop :=
 ∀(pins:List (Addr×Obj)) (s:Shared) (σ:St) (H:Hp) (x:V) (xs:List V) (v:Value) (us:List Value) (Q:VK),Inv X pins σ H s->bB x v->bF xs us->r x xs H Q ->
  wpAny (model X.prog X.w) X.A (call (.builtin id) (v::us)) (EP X pins σ Q) X.xe s
def bF.one:∀ {x:V} {us:List Value},bF [x] us->∃u,us=[u]/\bB x u
 | _,_,.cons r .nil=>⟨_,rfl,r⟩
def bF.two:∀ {x y:V} {us:List Value},bF [x,y] us->∃u v,us=[u,v]/\bB x u/\bB y v
 | _,_,_,.cons r (.cons q .nil)=>⟨_,_,rfl,r,q⟩
def bF.reverse{xs:List V}{us:List Value}(h:bF xs us):bF xs.reverse us.reverse:=by
 induction h with
 | nil=>exact .nil
 | cons r t ih=>rw[List.reverse_cons,List.reverse_cons];exact bF.append ih (.cons r .nil)
section
variable {X:Cx} {pins:List (Addr×Obj)} {σ:St} {H:Hp} {s:Shared} {l b:Addr} {xs ys zs:List V}
def Inv.lset{its its':List Value}{n:Nat}{f:Array Value->Array Value}{t':Nat}(I:Inv X pins σ H s)(hH:H l=some (.lst xs))
  (e:s.heap.get? l=some { cls:=.type "list",data:=.seq its.toArray n }) (hf:f its.toArray=its'.toArray) (hv:bF ys its') (hz:ys.length<=sizeLine) :
  Inv X pins σ (FI H l (.lst ys)) { s with heap:=s.heap.update l (Obj.mapSeq f),toks:=t' }:=by
 have q:=PySem.IsL.update e f
 rw[hf] at q;refine I.write (x:=l) (e:=l) (by rw[hH];exact trivial) (.inl rfl) (λb' u hb hu=>(Heap.get?_update_other s.heap (Obj.mapSeq f) (IN hb)).trans hu) ⟨_,q⟩ ?_;exact⟨hz,its',_,hv,q⟩
def Inv.lnew{its:List Value}{t':Nat}(I:Inv X pins σ H s)(hv:bF ys its)(hz:ys.length<=sizeLine) :
  Inv X pins σ (FI H s.heap.objs.size (.lst ys)) { s with heap:=s.heap.push { cls:=.type "list",data:=.seq its.toArray },toks:=t' } :=
 I.laid (λ_ _ q=>Heap.get?_push_of_some _ q) (F3 _) ⟨hz,its,0,hv,Heap.get?_push_size _ rfl⟩
def Inv.fresh(I:Inv X pins σ H s):H s.heap.objs.size=none:=I.hok.fresh (F3 _)
def Inv.lstM(I:Inv X pins σ H s)(hH:H l=some (.lst xs)):xs.length<=sizeLine/\∃(its:List Value) (n:Nat),bF xs its/\xs.length=its.length/\s.heap.get? l=some { cls:=.type "list",data:=.seq its.toArray n }:=by
 obtain⟨z,its,n,r,e⟩:=I.hok l _ hH;exact⟨z,its,n,r,r.length,e⟩
def vp{n:Nat}(h:n<=sizeLine):Builtin.List.listTooLong n=false:=by
 unfold Builtin.List.listTooLong;exact Gx (by omega)
end
section
variable {X:Cx}
def AU:V->List V->Hp->VK->Prop:=λx vs H Q=>∃l xs y,x=.ref l/\vs=[y]/\H l=some (.lst xs)/\xs.length<sizeLine/\Q .non (FI H l (.lst (xs++[y])))
def mI:MtM X "list.append" AU:=by
 intro pins s σ H x vs v us Q I rx rv h;obtain⟨l,xs,y,rfl,rfl,hH,hz,q⟩:=h
 cases rx
 obtain⟨u,rfl,ru⟩:=rv.one;obtain⟨z,its,n,r,hl,e⟩:=I.lstM hH;refine call_meets F.slot_list_append ⟨_,e,rfl⟩ F.entry_list_append (F.args_list_append_2 _ _) (PySem.list_append l its.toArray n u (by rw[Gs];omega)) ⟨e,?_⟩;refine⟨.non,_,I.lset (its':=its++[u]) hH e (by simp) (r.append (.cons ru .nil)) ?_,rfl,q⟩;rw[F1,HC];omega
def zV:V->List V->Hp->VK->Prop:=λx vs H Q=>∃l b xs zs,x=.ref l/\vs=[.ref b]/\H l=some (.lst xs)/\H b=some (.lst zs)/\xs.length+zs.length<=sizeLine/\Q .non (FI H l (.lst (xs++zs)))
def mt_extend:MtM X "list.extend" zV:=by
 intro pins s σ H x vs v us Q I rx rv h;obtain⟨l,b,xs,zs,rfl,rfl,hH,hB,hz,q⟩:=h
 cases rx
 obtain⟨u,rfl,ru⟩:=rv.one
 cases ru
 obtain⟨z,its,n,r,hl,e⟩:=I.lstM hH;obtain⟨z2,its2,n2,r2,hl2,e2⟩:=I.lstM hB;have hsz:its.toArray.size+its2.toArray.size<=sizeLine:=by rw[Gs,Gs];omega
 have hlong:¬ (!its.toArray.isEmpty&&Builtin.List.listTooLong (its.toArray.size+its2.toArray.size))=true:=by
  rw[vp hsz,Bool.and_false];exact F0
 refine call_meets F.slot_list_extend ⟨_,e,rfl⟩ F.entry_list_extend (F.args_list_extend_2 _ _)
  (AutoSeq1.list_extend_list_list_0 l its.toArray n b its2.toArray n2 hlong (by rw[Gs];omega) (by omega)) ⟨e,e2,?_⟩
 refine⟨.non,_,I.lset (its':=its++its2) hH e (by simp) (r.append r2) ?_,rfl,q⟩;rw[F1];omega
def rCat:R2:=λx y H Q=>∃l b xs zs,x=.ref l/\y=.ref b/\H l=some (.lst xs)/\H b=some (.lst zs)/\xs.length+zs.length<=sizeLine/\∀p,H p=none->Q (.ref p) (FI H p (.lst (xs++zs)))
def CF:FH X (binaryOp .Add) rCat:=by
 intro pins s σ H x y v u Q I rx ry h;obtain⟨l,b,xs,zs,rfl,rfl,hH,hB,hz,q⟩:=h
 cases rx
 cases ry
 obtain⟨z,its,n,r,hl,e⟩:=I.lstM hH;obtain⟨z2,its2,n2,r2,hl2,e2⟩:=I.lstM hB;refine PySem.P.add_list e e2 ?_ (by rw[Gs,Gs];omega);have ea:its.toArray++its2.toArray=(its++its2).toArray:=by simp
 rw[ea];exact⟨.ref _,_,I.lnew (t':=s.toks) (r.append r2) (by rw[F1];omega),rfl,q _ I.fresh⟩
end
section
variable {prog:Program} {w:World} {A:Around} {E:Value→Shared→Prop} {s:Shared}
set_option maxRecDepth 100000 in
end
section
variable {X:Cx}
end
end L2
namespace L2
open PySem PySem.Spec PyProof.Rows
variable {P:Program} {w:World} {u:Value} {H H':Hp} {xs:List (List Fo×Addr×Value)} {y:V} {kvs:List (Fo×V)} {Q:Value→Shared→Prop} {s:Shared} {pos:Pos} {X:Cx}
section
variable {κ:Type} [DecidableEq κ]
def nP(kvs:List (κ×V))(k:κ):Option V:=(kvs.find? λkv=>decide (kv.1=k)).map (·.2)
def j9(kvs:List (κ×V))(k:κ)(v:V):List (κ×V) :=
 if (kvs.any λkv=>decide (kv.1=k))=true then kvs.map (λkv=>if kv.1=k then (kv.1,v) else kv) else kvs++[(k,v)]
def BU(kvs:List (κ×V))(k:κ):List (κ×V):=kvs.filter λkv=>decide (kv.1≠k)
def io{p:κ×V}{r:List (κ×V)}{k:κ}(e:p.1=k):nP (p::r) k=some p.2:=by simp[nP,List.find?_cons,e]
def hX{p:κ×V}{r:List (κ×V)}{k:κ}(e:¬ p.1=k):nP (p::r) k=nP r k:=by simp[nP,List.find?_cons,e]
def pR(k:κ):∀kvs:List (κ×V),(kvs.any λkv=>decide (kv.1=k))=(nP kvs k).isSome
 | []=>rfl
 | p::r=>by
  rw[IC]
  by_cases e:p.1=k
  ·simp only[io e,decide_eq_true e,Bool.true_or,Option.isSome_some]
  ·rw[hX e,Gx e,Bool.false_or];exact pR k r
def eD(kvs:List (κ×V))(k:κ)(v:V):(j9 kvs k v).length<=kvs.length+1:=by
 unfold j9
 split
 ·rw[FR];omega
 ·rw[F1,F8,List.length_nil];omega
def rL.isSome_eq{o:Option V}{u:Option Value}(r:rL o u):o.isSome=u.isSome:=by
 cases o with
 | none=>cases u with
  | none=>rfl
  | some _=>exact(show False from r).elim
 | some _=>cases u with
  | none=>exact(show False from r).elim
  | some _=>rfl
def rL.getD{o:Option V}{u:Option Value}{d:V}{d':Value}(r:rL o u)(rd:bB d d'):bB (o.getD d) (u.getD d'):=by
 cases o with
 | none=>cases u with
  | none=>exact rd
  | some _=>exact(show False from r).elim
 | some _=>cases u with
  | none=>exact(show False from r).elim
  | some _=>exact r
def KV.val{kvs:List (κ×V)}{vs:List (κ×Value)}(r:KV kvs vs)(k:κ):rL (nP kvs k) (valueAt vs k):=by
 unfold KV at r
 induction r with
 | nil=>exact True.intro
 | @cons p q ps qs h t ih =>
  obtain⟨h1,h2⟩:=h
  by_cases e:p.1=k
  ·have e':q.1=k:=h1.symm.trans e
   have b:valueAt (q::qs) k=some q.2:=by simp[valueAt,List.find?_cons,e']
   rw[io e,b];exact h2
  ·have e':¬ q.1=k:=λz=>e (h1.trans z)
   have b:valueAt (q::qs) k=valueAt qs k:=by simp[valueAt,List.find?_cons,e']
   rw[hX e,b];exact ih
def KV.any{kvs:List (κ×V)}{vs:List (κ×Value)}(r:KV kvs vs)(k:κ):(kvs.any λkv=>decide (kv.1=k))=vs.any λkv=>decide (kv.1=k):=by
 unfold KV at r
 induction r with
 | nil=>rfl
 | cons h t ih=>rw[IC,IC,ih,h.1]
def KV.repl{kvs:List (κ×V)}{vs:List (κ×Value)}(r:KV kvs vs)(k:κ){y:V}{u:Value}(ry:bB y u) :
  KV (kvs.map λkv=>if kv.1=k then (kv.1,y) else kv) (vs.map λkv=>if kv.1=k then (kv.1,u) else kv):=by
 unfold KV at r ⊢
 induction r with
 | nil=>exact .nil
 | @cons p q ps qs h t ih =>
  rw[Go,Go];refine .cons ?_ ih;obtain⟨h1,h2⟩:=h
  by_cases e:p.1=k
  ·rw[Gd e,Gd (h1.symm.trans e)];exact⟨h1,ry⟩
  ·rw[Gb e,Gb (λz=>e (h1.trans z))];exact⟨h1,h2⟩
def KV.put{kvs:List (κ×V)}{vs:List (κ×Value)}(r:KV kvs vs)(k:κ){y:V}{u:Value}(ry:bB y u):KV (j9 kvs k y) (stored vs k u):=by
 unfold j9 stored;rw[r.any k]
 by_cases e:(vs.any λkv=>decide (kv.1=k))=true
 ·rw[Gd e,Gd e];exact r.repl k ry
 ·rw[Gb e,Gb e];exact Paired.snoc r ⟨rfl,ry⟩
def KV.drop{kvs:List (κ×V)}{vs:List (κ×Value)}(r:KV kvs vs)(k:κ):KV (BU kvs k) (without vs k):=by
 unfold KV at r ⊢;unfold BU without
 induction r with
 | nil=>exact .nil
 | @cons p q ps qs h t ih =>
  obtain⟨h1,h2⟩:=h;rw[List.filter_cons,List.filter_cons]
  by_cases e:p.1=k
  ·have a:¬ decide (p.1≠k)=true:=by simp[e]
   have b:¬ decide (q.1≠k)=true:=by simp[h1.symm.trans e]
   rw[Gb a,Gb b];exact ih
  ·have e':¬ q.1=k:=λz=>e (h1.trans z)
   have a:decide (p.1≠k)=true:=by simp[e]
   have b:decide (q.1≠k)=true:=by simp[e']
   rw[Gd a,Gd b];exact .cons ⟨h1,h2⟩ ih
def KV.length{kvs:List (κ×V)}{vs:List (κ×Value)}(r:KV kvs vs):kvs.length=vs.length:=Paired.length r
end
def mU{k:Fo}(r:bB (kV k) u):(aZ P w).is k u=true:=by
 cases k with
 | inl i=>obtain⟨t,e⟩:=(show ∃t,u=Value.int i t from r);subst e;exact ny P w i t
 | inr x=>obtain⟨t,e⟩:=(show ∃t,u=Value.str x t from r);subst e;exact oO P w x t
def lY:∀ {ks:List Fo} {us:List Value},bF (ks.map kV) us->ItemsAre (aZ P w) ks us
 | [],_,r=>by rw[HV] at r;cases r;exact .nil
 | k::ks,_,r=>by
  rw[Go] at r
  cases r with
  | cons h t=>exact .cons (mU h) (lY t)
abbrev KT(H:Hp):List (List Fo×V)->List (List Fo×Addr×Value)->Prop:=Paired λp q=>p.1=q.1/\H q.2.1=some (.tup (p.1.map kV))/\bB p.2 q.2.2
def KT.val{kvs:List (List Fo×V)}(r:KT H kvs xs)(k:List Fo):rL (nP kvs k) ((atKey xs k).map (·.2)):=by
 induction r with
 | nil=>exact True.intro
 | @cons p q ps qs h t ih =>
  obtain⟨h1,_,h2⟩:=h
  by_cases e:p.1=k
  ·have e':q.1=k:=h1.symm.trans e
   have b:atKey (q::qs) k=some q.2:=by simp[atKey,List.find?_cons,e']
   rw[io e,b];exact h2
  ·have e':¬ q.1=k:=λz=>e (h1.trans z)
   have b:atKey (q::qs) k=atKey qs k:=by simp[atKey,List.find?_cons,e']
   rw[hX e,b];exact ih
def KT.repl{kvs:List (List Fo×V)}(r:KT H kvs xs)(k:List Fo)(ry:bB y u) :
  KT H (kvs.map λkv=>if kv.1=k then (kv.1,y) else kv) (xs.map (putAt k u)):=by
 induction r with
 | nil=>exact .nil
 | @cons p q ps qs h t ih =>
  rw[Go,Go];refine .cons ?_ ih;obtain⟨h1,h2,h3⟩:=h;unfold putAt
  by_cases e:p.1=k
  ·rw[Gd e,Gd (h1.symm.trans e)];exact⟨h1,h2,ry⟩
  ·rw[Gb e,Gb (λz=>e (h1.trans z))];exact⟨h1,h2,h3⟩
def KT.put{kvs:List (List Fo×V)}(r:KT H kvs xs)(k:List Fo){b:Addr}(hb:H b=some (.tup (k.map kV)))(ry:bB y u) :
  KT H (j9 kvs k y) (storedH xs k b u):=by
 have e:(kvs.any λkv=>decide (kv.1=k))=(atKey xs k).isSome:=by
  rw[pR,(r.val k).isSome_eq,Option.isSome_map]
 unfold j9 storedH;rw[e]
 by_cases q:(atKey xs k).isSome=true
 ·rw[Gd q,Gd q];exact r.repl k ry
 ·rw[Gb q,Gb q];exact Paired.snoc r ⟨rfl,hb,ry⟩
def KT.keeps{kvs:List (List Fo×V)}(r:KT H kvs xs)(ht:∀b ys,H b=some (.tup ys)->H' b=some (.tup ys)):KT H' kvs xs :=
 Paired.mapP r λ_ _ z=>⟨z.1,ht _ _ z.2.1,z.2.2⟩
section
variable {P:Program} {w:World} {H:Hp} {h:Heap} {a:Addr}
def B6{u:HO}(ok:FN P w H h)(e:Rd H a u):bO P w H h a u:=e.ok ok
def iH(ok:FN P w H h)(e:Rd H a (.dK kvs)):kvs.length<=sizeLine/\(a==sysModules)=false/\∃vs,KV kvs vs/\h.DictOf (aZ P w) a vs :=
 show bO P w H h a (.dK kvs) from B6 ok e
def vI(ok:FN P w H h)(e:H a=some (.dK kvs)):kvs.length<=sizeLine/\(a==sysModules)=false/\∃vs,KV kvs vs/\h.DictOf (aZ P w) a vs:=iH ok (.inl e)
def jW{ks:List Fo}(ok:FN P w H h)(e:H a=some (.tup (ks.map kV))):(tupleKind (aZ P w)).is h ks a:=by
 obtain⟨_,its,r,o,h1,h2,n,h3⟩:=(show bO P w H h a (.tup (ks.map kV)) from ok a _ e);exact⟨o,its.toArray,n,h1,h2,h3,by simpa using lY r⟩
def nw{kvs:List (List Fo×V)}(ok:FN P w H h)(e:Rd H a (.dT kvs)):kvs.length<=sizeLine/\(a==sysModules)=false /\
  ∃xs,KT H kvs xs/\h.DictOfH (tupleKind (aZ P w)) a xs:=by
 obtain⟨z,y,xs,r,o,es,ep,h1,h2,h3,h4,h5⟩:=(show bO P w H h a (.dT kvs) from B6 ok e);refine⟨z,y,xs,r,o,es,ep,h1,h2,h3,h4,λx hx=>?_,h5⟩;have all:∀ {l:List (List Fo×V)} {m:List (List Fo×Addr×Value)},KT H l m->∀x∈m,(tupleKind (aZ P w)).is h x.1 x.2.1:=by
  intro l m q
  induction q with
  | nil=>intro x hx;exact nomatch hx
  | @cons p q ps qs hq t ih =>
   intro x hx
   rcases F7.mp hx with e | hx
   ·subst e;exact jW ok (by rw[<- hq.1];exact hq.2.1)
   ·exact ih x hx
 exact all r x hx
def Ea{kvs:List (List Fo×V)}(ok:FN P w H h)(e:H a=some (.dT kvs)):kvs.length<=sizeLine/\(a==sysModules)=false /\
  ∃xs,KT H kvs xs/\h.DictOfH (tupleKind (aZ P w)) a xs:=nw ok (.inl e)
end
def oR(H:Hp)(a:Addr)(y:V)(r:Option V):Prop :=
 (∃kvs k,Rd H a (.dK kvs)/\y=kV k/\r=nP kvs k)\/∃kvs k b,Rd H a (.dT kvs)/\y=.ref b/\H b=some (.tup (k.map kV))/\r=nP kvs k
def DPut(H:Hp)(a:Addr)(y v:V)(H':Hp):Prop :=
 (∃kvs k,H a=some (.dK kvs)/\y=kV k/\kvs.length<sizeLine/\H'=FI H a (.dK (j9 kvs k v))) \/
 ∃kvs k b,H a=some (.dT kvs)/\y=.ref b/\H b=some (.tup (k.map kV))/\kvs.length<sizeLine/\H'=FI H a (.dT (j9 kvs k v))
def oR.k{H:Hp}{a:Addr}{kvs:List (Fo×V)}{k:Fo}(e:H a=some (.dK kvs)):oR H a (kV k) (nP kvs k):=.inl ⟨kvs,k,.inl e,rfl,rfl⟩
def DPut.k{H:Hp}{a:Addr}{kvs:List (Fo×V)}{k:Fo}{v:V}(e:H a=some (.dK kvs))(hl:kvs.length<sizeLine):DPut H a (kV k) v (FI H a (.dK (j9 kvs k v))):=.inl ⟨kvs,k,e,rfl,hl,rfl⟩
section
variable {X:Cx} {pins:List (Addr×Obj)} {σ:St} {H:Hp} {s:Shared} {a:Addr} {y v:V} {u r:Value} {o:Option V} {A:Around} {E:Value→Shared→Prop}
def Inv.big(I:Inv X pins σ H s):sysModules<s.heap.objs.size:=by
 have h:mainGlobals<s.heap.objs.size:=(I.mod.glob.keeps I.bk).lt
 exact Nat.lt_trans (by decide) h
def r6(hu:A.units+1<cLine)(I:Inv X pins σ H s)(g:oR H a y (some v))(ry:bB y u)(h:∀w' s',Inv X pins σ H s'->bB v w'->Q w' s') :
  wpAny (model X.prog X.w) A (getItem (.ref a) u) Q E s:=by
 rcases g with⟨kvs,k,e,ey,l⟩ | ⟨kvs,k,b,e,ey,eb,l⟩
 ·subst ey;obtain⟨z,hd,vs,rel,dd⟩:=iH I.hok e;obtain⟨w',hw,rw'⟩:=rL.some_of (v:=v) (o:=valueAt vs k) (by rw[l];exact rel.val k);exact wpAny_getItem_of (mU ry) dd.mapOf hw (h w' _ (I.tok _) rw')
 ·subst ey
  cases (show u=Value.ref b from ry)
  obtain⟨z,hd,xs,rel,dd⟩:=nw I.hok e;obtain⟨w',hw,rw'⟩:=rL.some_of (v:=v) (o:=(atKey xs k).map (·.2)) (by rw[l];exact rel.val k);obtain⟨p,hp,hp2⟩:=Ig.mp hw;refine wpAny_getItem_heap (Hz hu) (jW I.hok eb) dd hp ?_;rw[hp2];exact h w' _ (I.tok _) rw'
def d_in(hu:A.units+1<cLine)(I:Inv X pins σ H s)(g:oR H a y o)(ry:bB y u)(h:∀s',Inv X pins σ H s'->Q (.bool o.isSome) s') :
  wpAny (model X.prog X.w) A (compareOp .In u (.ref a)) Q E s:=by
 rcases g with⟨kvs,k,e,ey,l⟩ | ⟨kvs,k,b,e,ey,eb,l⟩
 ·subst ey;obtain⟨z,hd,vs,rel,dd⟩:=iH I.hok e;refine wpAny_in_of (mU ry) hd dd.mapOf ?_;rw[<- (rel.val k).isSome_eq,<- l];exact h _ (I.tok _)
 ·subst ey
  cases (show u=Value.ref b from ry)
  obtain⟨z,hd,xs,rel,dd⟩:=nw I.hok e;refine wpAny_in_heap (Hz hu) (jW I.hok eb) hd dd ?_;have q:=(rel.val k).isSome_eq;rw[Option.isSome_map] at q;rw[<- q,<- l];exact h _ (I.tok _)
def A8(hu:A.units+1<cLine)(I:Inv X pins σ H s)(g:oR H a y o)(ry:bB y u)(h:∀s',Inv X pins σ H s'->Q (.bool (!o.isSome)) s') :
  wpAny (model X.prog X.w) A (compareOp .NotIn u (.ref a)) Q E s:=by
 rcases g with⟨kvs,k,e,ey,l⟩ | ⟨kvs,k,b,e,ey,eb,l⟩
 ·subst ey;obtain⟨z,hd,vs,rel,dd⟩:=iH I.hok e;refine wpAny_notIn_of (mU ry) hd dd.mapOf ?_;rw[<- (rel.val k).isSome_eq,<- l];exact h _ (I.tok _)
 ·subst ey
  cases (show u=Value.ref b from ry)
  obtain⟨z,hd,xs,rel,dd⟩:=nw I.hok e;refine wpAny_notIn_heap (Hz hu) (jW I.hok eb) hd dd ?_;have q:=(rel.val k).isSome_eq;rw[Option.isSome_map] at q;rw[<- q,<- l];exact h _ (I.tok _)
def oA{h':Heap}{t':Nat}{ob:HO}(I:Inv X pins σ H s)(mu:Mut (H a))(hs:Heap.SameBut a s.heap h')(he:∃q,h'.get? a=some q)(new:bO X.prog X.w (FI H a ob) h' a ob) :
  Inv X pins σ (FI H a ob) { s with heap:=h',toks:=t' } :=
 I.write (x:=a) (e:=a) mu (.inl rfl) (λb q hb z=>(hs.2 b hb).trans z) he new
def tF{h':Heap}{vs:List (Fo×Value)}(z:kvs.length<=sizeLine)(hd:(a==sysModules)=false)(rel:KV kvs vs)(dd:h'.DictOf (aZ P w) a vs) :
  bO P w H' h' a (.dK kvs):=⟨z,hd,vs,rel,dd⟩
def vd{Q:Unit->Shared->Prop}(hu:A.units+1<cLine)(I:Inv X pins σ H s)(g:DPut H a y v H')(ry:bB y u)(rv:bB v r)(h:∀s',Inv X pins σ H' s'->Q () s') :
  wpAny (model X.prog X.w) A (setItem (.ref a) u r) Q E s:=by
 rcases g with⟨kvs,k,e,ey,l,eH⟩ | ⟨kvs,k,b,e,ey,eb,l,eH⟩
 ·subst ey eH;obtain⟨z,hd,vs,rel,dd⟩:=vI I.hok e;have hz:vs.length<=sizeLine:=by rw[<- rel.length];exact z
  have hl:(j9 kvs k v).length<=sizeLine:=by have:=eD kvs k v;omega
  refine wpAny_setItem_pairs (hsz:=hz) (mU ry) dd λh' dd' hs=>h _ ?_;have he:∃q,h'.get? a=some q:=let ⟨q,_,_,hq,_⟩:=dd';⟨q,hq⟩;exact oA I (by rw[e];exact True.intro) hs he (tF hl hd (rel.put k rv) dd')
 ·subst ey eH
  cases (show u=Value.ref b from ry)
  obtain⟨z,hd,xs,rel,dd⟩:=Ea I.hok e;have hz:xs.length<=sizeLine:=by rw[<- Paired.length rel];exact z
  have hl:(j9 kvs k v).length<=sizeLine:=by have:=eD kvs k v;omega
  refine wpAny_setItem_heap (hsz:=hz) (Hz hu) (jW I.hok eb) dd λh' dd' hs=>h _ ?_;obtain⟨q,es,ep,hq,h2,h3,h4,_,h5⟩:=dd';refine oA I (by rw[e];exact True.intro) hs ⟨q,hq⟩ ⟨hl,hd,_,(rel.put k eb rv).keeps λc ys ec=>?_,q,es,ep,hq,h2,h3,h4,h5⟩;rw[aI (Ey ec e (λz=>nomatch z))];exact ec
end
section
variable {X:Cx} {pins:List (Addr×Obj)} {σ:St} {H:Hp} {s:Shared} {a:Addr} {kvs:List (Fo×V)} {k:Fo} {u:Value} {A:Around} {E:Value→Shared→Prop}
end
def NoSl(i:Expr):Prop:=∀ov iv,subscripted i false ov iv=operate [ov,iv] (getItem ov iv)
def AR{prog:Program}{A:Around}{E:Value->Shared->Prop}{env:Env}{value slice:Expr}{T id:String}
  (hl:typeLookup (.type T) "__getitem__"=pure (some (.builtin id))) (hs:NoSl slice)
  (h:wpAny (model prog w) A (eval value env) (λo s₁=>wpAny (model prog w) A (eval slice env) (λi s₂=>s₂.TypeIs o T/\wpAny (model prog w) A (getItem o i) Q E s₂) E s₁) E s) :
  wpAny (model prog w) A (eval (.Subscript value slice pos) env) Q E s:=by
 refine Subscript_ (G9 h (λo s₁ h₁=>G9 h₁ (λi s₂ h₂=>?_) λ_ _ x=>x) λ_ _ x=>x);obtain⟨hT,h₂⟩:=h₂;unfold subscriptTail;refine FT ?_;rw[getitemInPython_of_ne hT.not_modules];refine FT (wpAny_specialOf hT hl ?_);have fin:wpAny (model prog w) A (subscripted slice false o i) (λr s₃=>wpAny (model prog w) A (letTemporaryGo value o r >>= λ_=>pure r) Q E s₃) E s₂:=by
  rw[hs o i];exact wpAny_operating (G9 h₂ (λr s₃ h₃=>FT (wpAny_letTemporaryGo (FY h₃))) λ_ _ x=>x)
 first
  | exact FY (FT fin)
  | exact FT (FY (FT fin))
  | exact FT fin
def oP{pins:List (Addr×Obj)}{σ:St}{a:Addr}{o:Option V}(I:Inv X pins σ H s)(g:oR H a y o):s.TypeIs (.ref a) "dict":=by
 rcases g with⟨kvs,k,e,_,_⟩ | ⟨kvs,k,b,e,_,_,_⟩
 ·obtain⟨_,_,vs,_,dd⟩:=iH I.hok e;exact dd.typeIs
 ·obtain⟨_,_,xs,_,dd⟩:=nw I.hok e;exact dd.typeIs
def EE(td ty:TE):TE:=λσ H Q=>td σ H λx H1=>ty σ H1 λy H2=>∃a v,x=.ref a/\oR H2 a y (some v)/\Q v H2
def El(td ty tv:TE):TS:=λD σ H=>tv σ H λv H1=>td σ H1 λx H2=>ty σ H2 λy H3=>∃a H4,x=.ref a/\DPut H3 a y v H4/\D.nx σ H4
section
variable {X:Cx} {o i e value:Expr} {pos pos' tpos:Pos} {td ty tv:TE}
def yw(hu:X.A.units+1<cLine)(ho:PE X o td)(hi:PE X i ty)(hs:NoSl i):PE X (.Subscript o i pos) (EE td ty):=by
 intro pins s σ H Q I h;refine AR PySem.F.slot_dict_getitem.lookup hs (FG (ho pins s σ H _ I h) λu s1 ⟨x,H1,I1,rx,q1⟩=>FG (hi pins s1 σ H1 _ I1 q1) λiv s2 ⟨y,H2,I2,ry,a,v,ex,g,q2⟩=>?_);subst ex;obtain rfl:u=Value.ref a:=rx;exact⟨oP I2 g,r6 hu I2 g ry λw' s3 I3 rw'=>⟨v,H2,I3,rw',q2⟩⟩
def Ax(hu:X.A.units+1<cLine)(ho:PE X o td)(hi:PE X i ty)(hv:PE X value tv)(hs:swapsWith value (some (.Subscript o i pos')) pos.line X.env=pure false) :
  PS X (.Assign [.Subscript o i pos'] value pos) (El td ty tv):=by
 intro pins s σ H D I h;refine wpAny_Assign_Subscript (FG (hv pins s σ H _ I h) λr s1 ⟨v,H1,I1,rv,q1⟩=>FG (ho pins s1 σ H1 _ I1 q1) λu s2 ⟨x,H2,I2,rx,q2⟩=>FG (hi pins s2 σ H2 _ I2 q2) λiv s3 ⟨y,H3,I3,ry,a,H4,ex,g,q3⟩=>?_) hs;subst ex;obtain rfl:u=Value.ref a:=rx;exact vd hu I3 g ry rv λs4 I4=>⟨σ,H4,I4,q3⟩
end
def qk(h:Heap)(hb:sysModules<h.objs.size):bO P w H (h.push { cls:=.type "dict",data:=.dict #[] }) h.objs.size (.dK []) :=
 ⟨G5 _,ID.mpr (IN (Gw hb)),[],.nil,Heap.DictOf.new h⟩
def B7:TE:=λ_ H Q=>∀p,H p=none->Q (.ref p) (FI H p (.dK []))
section
variable {X:Cx} {pos:Pos}
def qA:PE X (.Dict [] [] pos) B7:=λpins s σ H Q I h =>
 wpAny_Dict_empty ⟨.ref s.heap.objs.size,_,I.laid (a:=s.heap.objs.size) (o:=.dK []) (t':=s.toks) (λ_ _ q=>Heap.get?_push_of_some _ q) (F3 _) (qk s.heap I.big),rfl,h _ (I.hok.fresh (F3 _))⟩
end
def uD:List (TE×TE)->St->Hp->(List (V×V)->Hp->Prop)->Prop
 | [],_,H,Q=>Q [] H
 | (tk,tv)::r,σ,H,Q=>tk σ H λx H1=>tv σ H1 λy H2=>uD r σ H2 λps H3=>Q ((x,y)::ps) H3
abbrev VV:List (V×V)->List (Value×Value)->Prop:=Paired λp q=>bB p.1 q.1/\bB p.2 q.2
def PPs(X:Cx)(pos:Pos)(keys:List (Option Expr))(values:List Expr)(trs:List (TE×TE)):Prop :=
 ∀(pins:List (Addr×Obj)) (s:Shared) (σ:St) (H:Hp) (Q:List (V×V)->Hp->Prop),Inv X pins σ H s->uD trs σ H Q ->
  wpAny (model X.prog X.w) X.A (evalPairs (pairTrees keys values X.env pos)) (λvs s'=>∃ps H',Inv X pins σ H' s'/\VV ps vs/\Q ps H') X.xe s
def Aw:PPs X pos [] [] []:=λpins s σ H Q I h=>pairTrees_nil_walk ⟨[],H,I,.nil,h⟩
def qx{k v:Expr}{ks:List (Option Expr)}{vs:List Expr}{tk tv:TE}{trs:List (TE×TE)}(hk:PE X k tk)(hv:PE X v tv)(hr:PPs X pos ks vs trs) :
  PPs X pos (some k::ks) (v::vs) ((tk,tv)::trs):=λpins s σ H Q I h =>
 pairTrees_cons_walk (FG (hk pins s σ H _ I h) λu s1 ⟨x,H1,I1,rx,q1⟩=>FG (hv pins s1 σ H1 _ I1 q1) λw2 s2 ⟨y,H2,I2,ry,q2⟩ =>
  FG (hr pins s2 σ H2 _ I2 q2) λws s3 ⟨ps,H3,I3,rel,q3⟩=>⟨(x,y)::ps,H3,I3,.cons ⟨rx,ry⟩ rel,q3⟩)
def ke(kvs more:List (Fo×V)):List (Fo×V):=more.foldl (λacc kv=>j9 acc kv.1 kv.2) kvs
def KV.merge:∀ {more:List (Fo×V)} {rs:List (Fo×Value)} {kvs:List (Fo×V)} {vs:List (Fo×Value)},KV more rs->KV kvs vs->KV (ke kvs more) (merged vs rs):=by
 intro more rs kvs vs r;unfold KV at r
 induction r generalizing kvs vs with
 | nil=>intro q;exact q
 | @cons p q ps qs h t ih =>
  intro r0;have e:KV (j9 kvs p.1 p.2) (stored vs q.1 q.2):=by
   have:=r0.put p.1 h.2
   rw[<- h.1];exact this
  exact ih e
def ff:∀(more kvs:List (Fo×V)),(ke kvs more).length<=kvs.length+more.length
 | [],kvs=>by show kvs.length<=kvs.length+0;omega
 | p::r,kvs=>by
  have h1:=ff r (j9 kvs p.1 p.2)
  have h2:=eD kvs p.1 p.2
  show (ke (j9 kvs p.1 p.2) r).length<=_
  rw[F8];omega
def jX{P:Program}{w:World}:∀ {kvs:List (Fo×V)} {ws:List (Value×Value)},VV (kvs.map λkv=>(kV kv.1,kv.2)) ws->∃rs,Carries (aZ P w) ws rs/\KV kvs rs
 | [],_,r=>by rw[HV] at r;cases r;exact⟨[],True.intro,.nil⟩
 | p::kvs,_,r=>by
  rw[Go] at r
  cases r with
  | @cons a b as bs h t =>
   obtain⟨rs,c,q⟩:=jX (P:=P) (w:=w) t;obtain⟨b1,b2⟩:=b;exact⟨(p.1,b2)::rs,⟨mU h.1,rfl,c⟩,.cons ⟨rfl,h.2⟩ q⟩
def EA(trs:List (TE×TE)):TE:=λσ H Q=>∀p,H p=none->uD trs σ (FI H p (.dK [])) λps H2=>H2 p=some (.dK [])/\∃kvs:List (Fo×V),ps=kvs.map (λkv=>(kV kv.1,kv.2))/\kvs.length<=15/\Q (.ref p) (FI H2 p (.dK (ke [] kvs)))
def yN{keys:List (Option Expr)}{values:List Expr}{trs:List (TE×TE)}(h:PPs X pos keys values trs)(hall:keys.all (·.isSome)=true)(hl:keys.length=values.length)(h0:keys≠[])
  (h15:keys.length<=15):PE X (.Dict keys values pos) (EA trs):=by
 intro pins s σ H Q I q;have hn:=I.hok.fresh (F3 s.heap.objs.size);have I1:=I.laid (a:=s.heap.objs.size) (o:=.dK []) (h':=s.heap.push { cls:=.type "dict",data:=.dict #[] }) (t':=s.toks) (λ_ _ q=>Heap.get?_push_of_some _ q) (F3 _) (qk s.heap I.big);refine wpAny_Dict_walk (knd:=aZ X.prog X.w) hall hl h0 h15 (FG (h pins _ σ _ _ I1 (q _ hn)) λws s2 ⟨ps,H2,I2,rel,e,kvs,ep,lk,q2⟩=>?_);subst ep;obtain⟨rs,c,rk⟩:=jX (P:=X.prog) (w:=X.w) rel;obtain⟨z,hd,vs0,r0,dd⟩:=vI I2.hok e
 cases r0
 refine⟨rs,c,dd,λh' dd' hs=>⟨.ref s.heap.objs.size,_,?_,rfl,q2⟩⟩;have hz:(ke [] kvs).length<=sizeLine:=by
  have h1:=ff kvs []
  rw[List.length_nil] at h1;rw[sizeLine_eq];omega
 have he:∃q,h'.get? s.heap.objs.size=some q:=let ⟨q,_,_,hq,_⟩:=dd';⟨q,hq⟩
 exact oA I2 (by rw[e];exact True.intro) hs he (tF hz hd (rk.merge .nil) dd')
structure M2(X:Cx)(o:Expr)(m:Str)(apos:Pos)(e f:Expr)(cpos:Pos):Prop where
 base:attributeBase o m X.env (eval o X.env)=eval o X.env
 few:((backTo cpos (starEach [e,f] X.env)).all (λx=>!x.1)&&(backToKw cpos (keywordEach [] X.env)).all (λx=>x.1.isSome)
  && decide (([e,f]:List Expr).length+([]:List Keyword).length+(if ([]:List Keyword).isEmpty then 0 else 1)<30))=true
 line:(apos.endLine==cpos.line)=true
 trees:backTo cpos (starEach [e,f] X.env)=[(false,eval e X.env),(false,eval f X.env)]
def IsD(H:Hp)(a:Addr):Prop:=(∃kvs,Rd H a (.dK kvs))\/∃kvs,Rd H a (.dT kvs)
def Cd{pins:List (Addr×Obj)}{σ:St}{a:Addr}(I:Inv X pins σ H s)(d:IsD H a) :
  s.TypeIs (.ref a) "dict"/\(∀b,Value.ref a=.ref b->∃ob,s.heap.get? b=some ob/\ob.dict=none)/\(a==sysModules)=false:=by
 rcases d with⟨kvs,e⟩ | ⟨kvs,e⟩
 ·obtain⟨_,hd,vs,_,dd⟩:=iH I.hok e;refine⟨dd.typeIs,λb q=>?_,hd⟩
  cases q
  obtain⟨ob,_,_,h1,h2,_⟩:=dd;exact⟨ob,h1,h2.2.1⟩
 ·obtain⟨_,hd,xs,_,dd⟩:=nw I.hok e;refine⟨dd.typeIs,λb q=>?_,hd⟩
  cases q
  obtain⟨ob,_,_,h1,h2,_⟩:=dd;exact⟨ob,h1,h2.2.1⟩
section
variable {X:Cx} {pins:List (Addr×Obj)} {σ:St} {H:Hp} {s:Shared} {a:Addr} {y d:V} {u r:Value} {o:Option V} {A:Around} {E:Value→Shared→Prop}
def CQ(hu:A.units+1<cLine)(I:Inv X pins σ H s)(g:oR H a y o)(ry:bB y u)(rd:bB d r)(h:∀w' s',Inv X pins σ H s'->bB (o.getD d) w'->Q w' s') :
  wpAny (model X.prog X.w) A (call (.builtin "dict.get") [.ref a,u,r]) Q E s:=by
 rcases g with⟨kvs,k,e,ey,l⟩ | ⟨kvs,k,b,e,ey,eb,l⟩
 ·subst ey;obtain⟨z,hd,vs,rel,dd⟩:=iH I.hok e;refine call_meetsIn Iv dd.typeIs PySem.F.entry_dict_get (PySem.F.args_dict_get_3 _ _ _) (meets_dict_get_default (aZ X.prog X.w) a (mU ry) hd r) ⟨_,dd.mapOf,h _ _ (I.tok _) ?_⟩;rw[l];exact(rel.val k).getD rd
 ·subst ey
  cases (show u=Value.ref b from ry)
  obtain⟨z,hd,xs,rel,dd⟩:=nw I.hok e;refine call_meetsIn Iv dd.typeIs PySem.F.entry_dict_get (PySem.F.args_dict_get_3 _ _ _) (meetsH_dict_get_default (tupleKind (aZ X.prog X.w)) a b hd r) ⟨Hz hu,k,xs,jW I.hok eb,dd,h _ _ (I.tok _) ?_⟩;rw[l];exact(rel.val k).getD rd
end
def Cn(td ty tx:TE):TE:=λσ H Q=>td σ H λx H1=>∃a,x=.ref a/\IsD H1 a/\ty σ H1 λy H2=>tx σ H2 λz H3=>∃o,oR H3 a y o/\Q (o.getD z) H3
section
variable {X:Cx} {o e f:Expr} {apos cpos:Pos} {td ty tx:TE}
def pk(hu:X.A.units+1<cLine)(ho:PE X o td)(he:PE X e ty)(hf:PE X f tx)(m:M2 X o "get" apos e f cpos):PE X (.Call (.Attribute o "get" apos) [e,f] [] cpos) (Cn td ty tx):=by
 intro pins s σ H Q I h;refine wpAny_Call_method m.base m.few m.line PySem.F.plainAttrs_dict Iv PySem.F.type_dict_get (FG (ho pins s σ H _ I h) λu s1 ⟨x,H1,I1,rx,a,ex,d,q1⟩=>?_);subst ex;obtain rfl:u=Value.ref a:=rx;obtain⟨t1,t2,_⟩:=Cd I1 d;refine⟨t1,t2,?_⟩;rw[m.trees]
 refine Calls.callWith_builtin rfl (Calls.evalArgs_plain (Hx (FG (he pins s1 σ H1 _ I1 q1) λiv s2 ⟨y,H2,I2,ry,q2⟩ =>
  Hx (FG (hf pins s2 σ H2 _ I2 q2) λfv s3 ⟨z,H3,I3,rz,ov,g,q3⟩=>Ij ?_))))
 exact CQ hu I3 g ry rz λw' s4 I4 rw'=>⟨_,H3,I4,rw',q3⟩
end
section
variable {X:Cx} {pins:List (Addr×Obj)} {σ:St} {H:Hp} {s:Shared} {a:Addr} {kvs:List (Fo×V)} {A:Around} {E:Value→Shared→Prop}
end
section
variable {X:Cx} {pins:List (Addr×Obj)} {σ:St} {H:Hp} {s:Shared} {a:Addr} {y:V} {u:Value} {A:Around} {E:Value→Shared→Prop}
end
end L2
namespace Att
open PySem PySem.W PySem.Calls PyProof.Rows
def jc{P:Params}{h:Heap}:∀(ns:List Int) (vs:List Value),WellAll P h vs (ns.map WData.int)->IntsAre vs ns:=by
 intro ns
 induction ns with
 | nil =>
  intro vs w;rw[HV] at w
  cases w
  exact .nil
 | cons n ns ih =>
  intro vs w;rw[Go] at w
  cases w with
  | cons a b =>
   cases a
   exact .cons _ _ (ih _ b)
def script_of{l:OpenLaw}{n:Nat}(hn:l.most=some n){P:Params}{h:Heap}{args:List WData}{vals:List Value}
  (hpre:l.row.toRowW.claim.pre args=true) (hwl:WellAll P h vals args) :
  ∃a vs ns,vals=[Value.ref a]/\args=[WData.list (ns.map WData.int)]/\h.get? a=some { cls:=.type "list",data:=.seq vs.toArray }/\IntsAre vs ns/\ns.length<=n:=by
 have hsh:WShape.hasAll [] args [.list .int]=true:=(pre_splitW hpre).1
 have hc:l.pre.holds [] { args:=args }=true:=(pre_splitW hpre).2
 obtain⟨d,r,rfl,h1,h2⟩:=hasAllW_cons hsh;obtain rfl:=hasAllW_nil h2;obtain⟨xs,rfl,h3⟩:=hasW_list h1;obtain⟨ns,rfl⟩:=items_int h3;have hlen:ns.length<=n:=by
  unfold OpenLaw.pre at hc;have h4:(WTm.not (.lt (.lit (.int (n:Int))) (.len (.arg 0)))).holds [] { args:=[.list (ns.map .int)] }=true:=by
   have h4:=(holds_andW hc).1
   rw[hn] at h4;exact h4
  have h5:=condW_of h4 (w_not (w_lt w_lit (w_len_list (w_arg rfl))))
  rw[FR] at h5;refine Nat.le_of_not_lt λq=>?_;have q':(n:Int)<((ns.length:Nat):Int):=by omega
  first
   | (rw[Gz q'] at h5;exact absurd h5 (by decide))
   | (simp at h5;omega)
 cases hwl with
 | cons w1 w2 =>
  cases w2
  cases w1 with
  | list ho hall=>exact⟨_,_,ns,rfl,rfl,ho,jc ns _ hall,hlen⟩
def post_true(l:OpenLaw)(args:List WData):l.row.toRowW.claim.post args (.bool true) args=true :=
 postW_of (r:=l.row.toRowW) (X:=(true==true))
  (show WShape.has [] (.bool true) .bool=true by first | rfl | decide | simp[WShape.has,WShape.arms,WShape.armsAll])
  (show (WTm.eq .res (.lit (.bool true))).value [] { args:=args,res:=some (.bool true),after:=args }=some (.bool (true==true)) from w_eq_bool (w_res rfl) w_lit) rfl
section
variable {prog:Program} {w:World} {A:Around} {E:Value→Shared→Prop} {s:Shared} {K:Frag}
end
end Att
namespace L2
open PySem PySem.Spec PyProof.Rows
def mG:∀ {vs:List Value} {ns:List Int},IntsAre vs ns->bF (ns.map V.int) vs
 | _,_,.nil=>.nil
 | _,_,.cons n t h=>.cons ⟨t,rfl⟩ (mG h)
def Only(H:Hp):Prop:=∀b,H b=none\/∃o xs,H b=some (.frz o (.lst xs))
def vH{P:Program}{w:World}{K:PySem.W.Frag}{mg mb:Str->Option Value}{CX:CXT}{k:Nat}{fa a:Addr}{fd:FuncData}{x:Str}{sp:Sp}{s₁:Shared}{vs:List Value}{ns:List Int}
  (KX:K.In s₁.heap) (hns:s₁.heap.Ns mainGlobals mg) (hb:s₁.heap.Ns builtinsNs mb) (hbb:∀x:Str,x≠"__name__"->mb x=bootBuiltins x) (hlim:s₁.heap.NoLimit) (hg:s₁.gens=#[])
  (ha:s₁.heap.get? a=some { cls:=.type "list",data:=.seq vs.toArray }) (hi:IntsAre vs ns) (hl:ns.length<=sizeLine) (hr:fQ k callerA)
  (F:∀base:Heap,K.In base->base.Ns mainGlobals mg->kF P w K mg base CX k fa fd [x] sp) (hbind:∀(s:Shared) (u:Value),BindsTo s fd ⟨[u],[]⟩ [(x,u)])
  (hsp:∀H:Hp,Only H->FA K H a (ns.map V.int)->sp [.ref a] H (λv _=>v=.bl true) λ_ _ _=>False)
  (hCX:∀H e s',CX [] H s₁ (λ_ _ _=>False) e s'->False) :
  codeAny (model P w) callerA (.call (.ref fa) ⟨[.ref a],[]⟩) (λr s'=>r=.ok (.ret (.bool true))/\OldK s₁.heap s'.heap/\s'.os=s₁.os/\AllBare s'.gens) s₁:=by
 have rv:=mG hi
 have lenV:=hi.length
 have core:∀H:Hp,Only H->FA K H a (ns.map V.int)->FN P w H s₁.heap->(∀b,H b≠none->b=a)->(H a≠none->K.lookup a=none) ->
   codeAny (model P w) callerA (.call (.ref fa) ⟨[.ref a],[]⟩) (λr s'=>r=.ok (.ret (.bool true))/\OldK s₁.heap s'.heap/\s'.os=s₁.os/\AllBare s'.gens) s₁:=by
  intro H hO hS hok hA hK;have base_of:∀ {b:Addr} {o:Obj},s₁.heap.get? b=some o->H b=none->(wz s₁.heap H).get? b=some o:=λe n=>xa e n;have noA:∀ {b:Addr} {o:Obj} {es:Array DictEntry} {ep:Nat},s₁.heap.get? b=some o->o.data=.dict es ep->H b=none:=λ{b o es ep} e d=>by
   cases q:H b with
   | none=>rfl
   | some u =>
    have e':b=a:=hA b (by rw[q];simp)
    subst e';rw[ha] at e;cases e;have d':Data.seq vs.toArray _=Data.dict es ep:=d
    cases d'
  have nsK:∀ {b:Addr} {m:Str->Option Value},s₁.heap.Ns b m->(wz s₁.heap H).Ns b m:=λ{b m} ⟨o,es,ep,e,d,r⟩=>⟨o,es,ep,base_of e (noA e d),d,r⟩
  have hKb:K.In (wz s₁.heap H):=λb o e=>base_of (KX b o e) (by
   cases q:H b with
   | none=>rfl
   | some u =>
    have e':b=a:=hA b (by rw[q];simp)
    subst e'
    rw[hK (by rw[q];simp)] at e;cases e)
  have hM:Mod K mg (wz s₁.heap H):=⟨hKb,nsK hns,⟨mb,nsK hb,hbb⟩,let ⟨mc,h1,h2⟩:=hlim;⟨mc,nsK h1,h2⟩⟩
  have e0:Env0 P w K mg (wz s₁.heap H) callerA [] s₁ H:=⟨rfl,hM,λb o e=>Aq e,Nat.le_of_eq (sM _ _),trivial,λb hb=>absurd (show b∈([]:List Addr) from hb) (by simp),hok,.of_eq hg⟩
  refine Iu ((F _ hKb (nsK hns)).run callerA [] s₁ H ⟨[.ref a],[]⟩ [.ref a] [.ref a] _ _ hr e0 (hbind s₁ (.ref a)) (.cons rfl .nil) (hsp H hO hS)) λr s' h=>?_
  cases r with
  | error e=>exact(hCX H e s' h).elim
  | ok fl =>
   cases fl with
   | next=>exact False.elim h
   | brk=>exact False.elim h
   | cont=>exact False.elim h
   | ret u =>
    obtain⟨v,H',os,bare,un,hok',r',q⟩:=h;have q':v=.bl true:=q;subst q';obtain rfl:u=Value.bool true:=r';refine⟨rfl,OldK.of_keep λb o e=>?_,os,bare⟩
    cases q:H b with
    | none=>exact un.keep b o e q (by intro z;exact absurd (show b∈([]:List Addr) from z) (by simp)) (by simp)
    | some u =>
     rcases hO b with z | ⟨ob,xs,z⟩
     ·rw[q] at z;cases z
     ·have z2:=un.frzs b ob _ z
      obtain⟨e1,_⟩:=hok b _ z;obtain⟨e2,_⟩:=hok' b _ z2;rw[e] at e1;cases e1;exact e2
 cases hk:K.lookup a with
 | some o =>
  have e:=KX a o hk
  rw[ha] at e
  cases e
  refine core (λ_=>none) (λ_=>.inl rfl) (.inr ⟨_,vs.toArray,_,hk,rfl,rfl,rfl,by rw[Gs,lenV];exact hl,by simpa using rv⟩) (λb u z=>by have z':(none:Option HO)=some u:=z;cases z') (λb z=>absurd rfl z) λz=>absurd rfl z
 | none =>
  refine core (λb=>if b=a then some (.frz { cls:=.type "list",data:=.seq vs.toArray } (.lst (ns.map V.int))) else none) (λb=>?_) (.inl (.inr ⟨{ cls:=.type "list",data:=.seq vs.toArray },Gd rfl⟩)) (λb u z=>?_) (λb z=>?_) λ_=>hk
  ·by_cases hb:b=a
   ·exact .inr ⟨_,_,Gd hb⟩
   ·exact .inl (Gb hb)
  ·by_cases hb:b=a
   ·have z':=(Gd hb).symm.trans z
    cases z'
    subst hb;exact⟨ha,by rw[FR];exact hl,vs,_,rv,ha⟩
   ·have z':=(Gb hb).symm.trans z
    cases z'
  ·by_cases hb:b=a
   ·exact hb
   ·exact absurd (Gb hb) z
end L2
namespace L2
open PySem PySem.Spec PyProof.Rows
variable {x qual:Str} {st:Stmt} {f:Addr}
abbrev CX0:CXT:=λ_ _ _ _ _ _=>False
abbrev E0:XK:=λ_ _ _=>False
def wa{X:Cx}:uo CX0 X E0:=λ_ _ _ _ _ _ _ h=>h.elim
structure Fun(K:PySem.W.Frag)(x qual:Str)(st:Stmt)(f:Addr)(fd:FuncData):Prop where
 ex:∃(oc:Value) (od:Option Addr) (kV doc pm:Value) (an:Option Addr) (cdv ct:Value) (osl:Array (Option Value)),
  fd=PySem.W.fnOf x qual (cP st) (bG st) (ap st) .none kV doc pm an cdv ct/\K.lookup f=some ⟨oc,od,.func fd,osl⟩/\PySem.W.codeIn K cdv qual=true
 kp:PySem.W.keepIn K (.ref f)=true
section
variable {P:Program} {w:World} {K:PySem.W.Frag} {mg:Str→Option Value} {base:Heap}
def Fun.ok{fd:FuncData}{N ps:List Str}{k:Nat}{sp:Sp}(F:Fun K x qual st f fd)(S:aw N ps (ap st))(len:∀vs H Q E,sp vs H Q E->vs.length=ps.length)
    (hbody:∀(cdv:Value) (A:Around) (outer:List Env) (s:Shared) (H:Hp) (vs:List V) (Q:VK) (E:XK),fQ k (A.deeper (envOfC qual (ap st) s.heap.objs.size f cdv))->sp vs H Q E ->
      ∃t,PSs (vi CX0 P w K mg base N qual (ap st) f cdv A outer s H E).nox (bG st) t/\t { nx:=λ_ H'=>Q .non H',rt:=Q } (start N vs) H):kF P w K mg base CX0 (k+1) f fd ps sp:=by
  obtain⟨oc,od,kV,doc,pm,an,cdv,ct,osl,rfl,lk,hcd⟩:=F.ex;refine D7 lk hcd S len λA outer s H vs Q E hr hsp=>?_;obtain⟨t,h,q⟩:=hbody cdv A outer s H vs Q E hr hsp;exact⟨t,h.nox,q⟩
def Fun.binds{fd:FuncData}{ps:List Str}(F:Fun K x qual st f fd)
  (h:∀(kV doc pm:Value) (an:Option Addr) (cdv ct:Value) (us:List Value),us.length=ps.length->bindArgs (PySem.W.fnOf x qual (cP st) (bG st) (ap st) .none kV doc pm an cdv ct) ⟨us,[]⟩=pure (ps.zip us)):mj K fd ps []:=by
 obtain⟨oc,od,kV,doc,pm,an,cdv,ct,osl,rfl,lk,hcd⟩:=F.ex;exact .all (h kV doc pm an cdv ct)
def xZ{oc:Value}{od an:Option Addr}{osl:Array (Option Value)}{kV doc pm cdv ct:Value}(l:K.lookup f=some ⟨oc,od,.func (PySem.W.fnOf x qual (cP st) (bG st) (ap st) .none kV doc pm an cdv ct),osl⟩)
  (c:PySem.W.codeIn K cdv qual=true) (k:PySem.W.keepIn K (.ref f)=true):Fun K x qual st f (PySem.W.fnOf x qual (cP st) (bG st) (ap st) .none kV doc pm an cdv ct):=⟨⟨oc,od,kV,doc,pm,an,cdv,ct,osl,rfl,l,c⟩,k⟩
end
section
variable {X:Cx}
end
def f6{c A B:Prop}[Decidable c](h1:c->A)(h2:¬ c->B):if c then A else B:=by
 by_cases h:c
 ·rw[Gd h];exact h1 h
 ·rw[Gb h];exact h2 h
def bY(H H':Hp):Prop:=∀b o,H b=some o->H' b=some o
def bY.refl(H:Hp):bY H H:=λ_ _ h=>h
def bY.trans{H H1 H2:Hp}(a:bY H H1)(b:bY H1 H2):bY H H2:=λc o h=>b c o (a c o h)
def bY.seq{K:PySem.W.Frag}{H H':Hp}{a:Addr}{xs:List V}(e:bY H H')(h:FA K H a xs):FA K H' a xs:=by
 rcases h with(h | ⟨o,h⟩) | h
 ·exact .inl (.inl (e _ _ h))
 ·exact .inl (.inr ⟨o,e _ _ h⟩)
 ·exact .inr h
section
variable {κ:Type} [DecidableEq κ]
end
end L2
namespace DL
open PySem L2
variable {M:Addr→Prop} {a:Addr} {vs:List V} {v:V}
inductive D where
 | non | bl (b:Bool) | int (i:Int) | str (x:Str)
 | tup (xs:List D) | lst (xs:List D) | fz (xs:List D) | dct (ks:List Str) (vs:List D) | fd (ks:List Str) (vs:List D) | fo (o:Obj) (ks:List Str) (vs:List D) | exn (c f:Str) (x:D)
mutual
def D.im:D->Bool
 | .tup xs=>D.ims xs
 | .lst _=>false
 | .fz xs=>D.ims xs
 | .dct _ _=>false
 | .fd _ xs=>D.ims xs
 | .fo _ _ xs=>D.ims xs
 | .exn _ _ _=>false
 | .non=>true
 | .bl _=>true
 | .int _=>true
 | .str _=>true
def D.ims:List D->Bool
 | []=>true
 | x::r=>D.im x&&D.ims r
end
abbrev xob(C:Addr)(dx:Option Addr)(a t:Value):Obj:={ cls:=.ref C,dict:=dx,data:=.fields #[a,t,.none,.none,.bool false,.none] }
def XAt(e C dx:Addr):HO:=.ext λh=>∃a t,h.get? e=some (xob C (some dx) a t)
def XNew(e C dx:Addr):HO:=.ext λh=>∃a,h.get? e=some (xob C (some dx) a .none)
structure Ao(K:PySem.W.Frag)(M:Addr->Prop)(H:Hp)(c f:Str)(v y:V):Prop where
 ex:∃e C dx,v=.ref e/\¬ M e/\¬ M dx/\(H e=some (XAt e C dx)\/H e=some (XNew e C dx))/\H dx=some (.xd [(f,y)])/\PySem.W.nsIn K mainGlobals c=some (some (.ref C))
def bg(ks:List Str)(vs:List V):List (Fo×V):=(ks.map Sum.inr).zip vs
def H0:Hp:=λ_=>none
def Bj(K:PySem.W.Frag)(H:Hp)(a:Addr)(vs:List V):Prop:=(∃o,H a=some (.frz o (.lst vs)))\/FA K H0 a vs
mutual
def Fr(K:PySem.W.Frag)(M:Addr->Prop)(H:Hp):D->V->Prop
 | .non,v=>v=.non
 | .bl b,v=>v=.bl b
 | .int i,v=>v=.int i
 | .str x,v=>v=.str x
 | .tup ds,v=>∃a vs,v=.ref a/\Fv K H a vs/\Reps K M H ds vs
 | .lst ds,v=>∃a vs,v=.ref a/\¬ M a/\H a=some (.lst vs)/\Reps K M H ds vs
 | .fz ds,v=>∃a vs,v=.ref a/\Bj K H a vs/\Reps K M H ds vs
 | .dct ks ds,v=>∃a vs,v=.ref a/\¬ M a/\H a=some (.dK (bg ks vs))/\ks.length=ds.length/\Reps K M H ds vs
 | .fd ks ds,v=>∃a vs o,v=.ref a/\H a=some (.frz o (.dK (bg ks vs)))/\ks.length=ds.length/\Reps K M H ds vs
 | .fo o ks ds,v=>∃a vs,v=.ref a/\H a=some (.frz o (.dK (bg ks vs)))/\ks.length=ds.length/\Reps K M H ds vs
 | .exn c f d,v=>∃y,Ao K M H c f v y/\Fr K M H d y
def Reps(K:PySem.W.Frag)(M:Addr->Prop)(H:Hp):List D->List V->Prop
 | [],vs=>vs=[]
 | d::ds,vs=>∃v r,vs=v::r/\Fr K M H d v/\Reps K M H ds r
end
structure Kp(M:Addr->Prop)(H H':Hp):Prop where
 un:∀b o,H b=some o->¬ M b->H' b=some o
 tu:∀b xs,H b=some (.tup xs)->H' b=some (.tup xs)
 fr:∀b o u,H b=some (.frz o u)->H' b=some (.frz o u)
def Kp.of_same{H H':Hp}(h:bY H H'):Kp M H H':=⟨λb o e _=>h b o e,λb xs e=>h b _ e,λb o u e=>h b _ e⟩
def Kp.refl{H:Hp}:Kp M H H:=Kp.of_same (bY.refl H)
section
variable {K:PySem.W.Frag} {M M':Addr→Prop} {H H':Hp}
def Fv.kp(k:Kp M H H')(h:Fv K H a vs):Fv K H' a vs:=by
 rcases h with(h | ⟨o,h⟩) | h
 ·exact .inl (.inl (k.tu _ _ h))
 ·exact .inl (.inr ⟨o,k.fr _ _ _ h⟩)
 ·exact .inr h
def Bj.kp(k:Kp M H H')(h:Bj K H a vs):Bj K H' a vs:=by
 rcases h with⟨o,h⟩ | h
 ·exact .inl ⟨o,k.fr _ _ _ h⟩
 ·exact .inr h
def Bj.seq(h:Bj K H a vs):FA K H a vs:=by
 rcases h with⟨o,h⟩ | (h | ⟨o,h⟩) | h
 ·exact .inl (.inr ⟨o,h⟩)
 ·cases h
 ·cases h
 ·exact .inr h
def Ao.kp{c f:Str}{y:V}(k:Kp M H H')(h:Ao K M H c f v y):Ao K M H' c f v y:=by
 obtain⟨e,C,dx,rfl,n1,n2,h1,h2,h3⟩:=h.ex;exact⟨⟨e,C,dx,rfl,n1,n2,h1.imp (λz=>k.un _ _ z n1) (λz=>k.un _ _ z n1),k.un _ _ h2 n2,h3⟩⟩
def Ao.more{c f:Str}{y:V}(hM:∀b,M' b->M b\/H b=none)(h:Ao K M H c f v y):Ao K M' H c f v y:=by
 obtain⟨e,C,dx,rfl,n1,n2,h1,h2,h3⟩:=h.ex;refine⟨⟨e,C,dx,rfl,λz=>(hM _ z).elim n1 λq=>?_,λz=>(hM _ z).elim n2 (λq=>by rw[h2] at q;cases q),h1,h2,h3⟩⟩
 rcases h1 with h1 | h1<;>(rw[h1] at q;cases q)
mutual
def Fr.kp(k:Kp M H H'):∀(d:D) (v:V),Fr K M H d v->Fr K M H' d v
 | .non,v,h=>by unfold Fr at h ⊢;exact h
 | .bl b,v,h=>by unfold Fr at h ⊢;exact h
 | .int i,v,h=>by unfold Fr at h ⊢;exact h
 | .str x,v,h=>by unfold Fr at h ⊢;exact h
 | .tup ds,v,h=>by
  unfold Fr at h ⊢;obtain⟨a,vs,e,q,r⟩:=h;exact⟨a,vs,e,Fv.kp k q,Reps.kp k ds vs r⟩
 | .lst ds,v,h=>by
  unfold Fr at h ⊢;obtain⟨a,vs,e,n,q,r⟩:=h;exact⟨a,vs,e,n,k.un _ _ q n,Reps.kp k ds vs r⟩
 | .fz ds,v,h=>by
  unfold Fr at h ⊢;obtain⟨a,vs,e,q,r⟩:=h;exact⟨a,vs,e,q.kp k,Reps.kp k ds vs r⟩
 | .dct ks ds,v,h=>by
  unfold Fr at h ⊢;obtain⟨a,vs,e,n,q,l,r⟩:=h;exact⟨a,vs,e,n,k.un _ _ q n,l,Reps.kp k ds vs r⟩
 | .fd ks ds,v,h=>by
  unfold Fr at h ⊢;obtain⟨a,vs,o,e,q,l,r⟩:=h;exact⟨a,vs,o,e,k.fr _ _ _ q,l,Reps.kp k ds vs r⟩
 | .fo o ks ds,v,h=>by
  unfold Fr at h ⊢;obtain⟨a,vs,e,q,l,r⟩:=h;exact⟨a,vs,e,k.fr _ _ _ q,l,Reps.kp k ds vs r⟩
 | .exn c f d,v,h=>by
  unfold Fr at h ⊢;obtain⟨y,q,r⟩:=h;exact⟨y,q.kp k,Fr.kp k d y r⟩
def Reps.kp(k:Kp M H H'):∀(ds:List D) (vs:List V),Reps K M H ds vs->Reps K M H' ds vs
 | [],vs,h=>by unfold Reps at h ⊢;exact h
 | d::ds,vs,h=>by
  unfold Reps at h ⊢;obtain⟨v,r,e,q,s⟩:=h;exact⟨v,r,e,Fr.kp k d v q,Reps.kp k ds r s⟩
end
mutual
def Fr.more(hM:∀b,M' b->M b\/H b=none):∀(d:D) (v:V),Fr K M H d v->Fr K M' H d v
 | .non,v,h=>by unfold Fr at h ⊢;exact h
 | .bl b,v,h=>by unfold Fr at h ⊢;exact h
 | .int i,v,h=>by unfold Fr at h ⊢;exact h
 | .str x,v,h=>by unfold Fr at h ⊢;exact h
 | .tup ds,v,h=>by
  unfold Fr at h ⊢;obtain⟨a,vs,e,q,r⟩:=h;exact⟨a,vs,e,q,Reps.more hM ds vs r⟩
 | .lst ds,v,h=>by
  unfold Fr at h ⊢;obtain⟨a,vs,e,n,q,r⟩:=h;exact⟨a,vs,e,λz=>(hM _ z).elim n (λe=>by rw[q] at e;cases e),q,Reps.more hM ds vs r⟩
 | .fz ds,v,h=>by
  unfold Fr at h ⊢;obtain⟨a,vs,e,q,r⟩:=h;exact⟨a,vs,e,q,Reps.more hM ds vs r⟩
 | .dct ks ds,v,h=>by
  unfold Fr at h ⊢;obtain⟨a,vs,e,n,q,l,r⟩:=h;exact⟨a,vs,e,λz=>(hM _ z).elim n (λe=>by rw[q] at e;cases e),q,l,Reps.more hM ds vs r⟩
 | .fd ks ds,v,h=>by
  unfold Fr at h ⊢;obtain⟨a,vs,o,e,q,l,r⟩:=h;exact⟨a,vs,o,e,q,l,Reps.more hM ds vs r⟩
 | .fo o ks ds,v,h=>by
  unfold Fr at h ⊢;obtain⟨a,vs,e,q,l,r⟩:=h;exact⟨a,vs,e,q,l,Reps.more hM ds vs r⟩
 | .exn c f d,v,h=>by
  unfold Fr at h ⊢;obtain⟨y,q,r⟩:=h;exact⟨y,q.more hM,Fr.more hM d y r⟩
def Reps.more(hM:∀b,M' b->M b\/H b=none):∀(ds:List D) (vs:List V),Reps K M H ds vs->Reps K M' H ds vs
 | [],vs,h=>by unfold Reps at h ⊢;exact h
 | d::ds,vs,h=>by
  unfold Reps at h ⊢;obtain⟨v,r,e,q,s⟩:=h;exact⟨v,r,e,Fr.more hM d v q,Reps.more hM ds r s⟩
end
mutual
def Fr.im:∀(d:D) (v:V),d.im=true->Fr K M H d v->Fr K M' H d v
 | .non,v,_,h=>by unfold Fr at h ⊢;exact h
 | .bl b,v,_,h=>by unfold Fr at h ⊢;exact h
 | .int i,v,_,h=>by unfold Fr at h ⊢;exact h
 | .str x,v,_,h=>by unfold Fr at h ⊢;exact h
 | .tup ds,v,i,h=>by
  unfold Fr at h ⊢;obtain⟨a,vs,e,q,r⟩:=h;unfold D.im at i;exact⟨a,vs,e,q,Reps.im ds vs i r⟩
 | .lst ds,v,i,h=>by unfold D.im at i;cases i
 | .fz ds,v,i,h=>by
  unfold Fr at h ⊢;obtain⟨a,vs,e,q,r⟩:=h;unfold D.im at i;exact⟨a,vs,e,q,Reps.im ds vs i r⟩
 | .dct ks ds,v,i,h=>by unfold D.im at i;cases i
 | .fd ks ds,v,i,h=>by
  unfold Fr at h ⊢;obtain⟨a,vs,o,e,q,l,r⟩:=h;unfold D.im at i;exact⟨a,vs,o,e,q,l,Reps.im ds vs i r⟩
 | .fo o ks ds,v,i,h=>by
  unfold Fr at h ⊢;obtain⟨a,vs,e,q,l,r⟩:=h;unfold D.im at i;exact⟨a,vs,e,q,l,Reps.im ds vs i r⟩
 | .exn c f d,v,i,h=>by unfold D.im at i;cases i
def Reps.im:∀(ds:List D) (vs:List V),D.ims ds=true->Reps K M H ds vs->Reps K M' H ds vs
 | [],vs,_,h=>by unfold Reps at h ⊢;exact h
 | d::ds,vs,i,h=>by
  unfold Reps at h ⊢;obtain⟨v,r,e,q,s⟩:=h;unfold D.ims at i;obtain⟨i1,i2⟩:=Gq.mp i;exact⟨v,r,e,Fr.im d v i1 q,Reps.im ds r i2 s⟩
end
def Reps.length:∀(ds:List D) (vs:List V),Reps K M H ds vs->ds.length=vs.length
 | [],vs,h=>by unfold Reps at h;subst h;rfl
 | d::ds,vs,h=>by
  unfold Reps at h;obtain⟨v,r,rfl,q,s⟩:=h;rw[F8,F8,Reps.length ds r s]
def Reps.get:∀(ds:List D) (vs:List V),Reps K M H ds vs->∀(i:Nat) (d:D),ds[i]?=some d->∃v,vs[i]?=some v/\Fr K M H d v
 | [],vs,h,i,d,e=>by simp at e
 | d::ds,vs,h,i,d',e=>by
  unfold Reps at h;obtain⟨v,r,rfl,q,s⟩:=h
  cases i with
  | zero=>simp at e;subst e;exact⟨v,rfl,q⟩
  | succ i=>exact Reps.get ds r s i d' (by simpa using e)
def Reps.of:∀(ds:List D) (vs:List V),ds.length=vs.length->(∀(i:Nat) d v,ds[i]?=some d->vs[i]?=some v->Fr K M H d v)->Reps K M H ds vs
 | [],vs,l,_=>by unfold Reps;exact Hb.mp l.symm
 | d::ds,[],l,_=>by cases l
 | d::ds,v::vs,l,h=>by
  unfold Reps;exact⟨v,vs,rfl,h 0 d v rfl rfl,Reps.of ds vs (HD l) λi d' v' e e'=>h (i+1) d' v' (by simpa using e) (by simpa using e')⟩
def Reps.append:∀(ds es:List D) (vs ws:List V),Reps K M H ds vs->Reps K M H es ws->Reps K M H (ds++es) (vs++ws)
 | [],es,vs,ws,h,k=>by unfold Reps at h;subst h;exact k
 | d::ds,es,vs,ws,h,k=>by
  unfold Reps at h;obtain⟨v,r,rfl,q,s⟩:=h;show Reps K M H (d::(ds++es)) (v::(r++ws));unfold Reps;exact⟨v,r++ws,rfl,q,Reps.append ds es r ws s k⟩
def Reps.one{d:D}(h:Fr K M H d v):Reps K M H [d] [v]:=by
 unfold Reps;exact⟨v,[],rfl,h,by unfold Reps;rfl⟩
def Reps.nil:Reps K M H [] []:=by unfold Reps;rfl
def Reps.cons{d:D}{v:V}{ds:List D}{vs:List V}(h:Fr K M H d v)(r:Reps K M H ds vs):Reps K M H (d::ds) (v::vs):=by
 unfold Reps;exact⟨v,vs,rfl,h,r⟩
def Reps.take:∀(n:Nat) (ds:List D) (vs:List V),Reps K M H ds vs->Reps K M H (ds.take n) (vs.take n)
 | 0,ds,vs,h=>by simpa using Reps.nil
 | n+1,[],vs,h=>by unfold Reps at h;subst h;simpa using Reps.nil
 | n+1,d::ds,vs,h=>by
  unfold Reps at h;obtain⟨v,r,rfl,q,s⟩:=h;exact Reps.cons q (Reps.take n ds r s)
def Reps.drop:∀(n:Nat) (ds:List D) (vs:List V),Reps K M H ds vs->Reps K M H (ds.drop n) (vs.drop n)
 | 0,ds,vs,h=>h
 | n+1,[],vs,h=>by unfold Reps at h;subst h;simpa using Reps.nil
 | n+1,d::ds,vs,h=>by
  unfold Reps at h;obtain⟨v,r,rfl,q,s⟩:=h;exact Reps.drop n ds r s
def Reps.ints(ns:List Int):Reps K M H (ns.map D.int) (ns.map V.int):=by
 induction ns with
 | nil=>exact Reps.nil
 | cons n r ih=>exact Reps.cons (by unfold Fr;rfl) ih
end
inductive Sl where
 | no | dat (d:D) | own (a:Addr) (d:D)
structure Gf where
 M0:Addr->Prop
 H0:Hp
 Pm:Addr->Prop
def bm(K:PySem.W.Frag)(M:Addr->Prop)(H:Hp)(a:Addr):D->Prop
 | .lst ds=>∃vs,H a=some (.lst vs)/\Reps K M H ds vs
 | .dct ks ds=>∃vs,H a=some (.dK (bg ks vs))/\ks.length=ds.length/\Reps K M H ds vs
 | _=>False
structure Sx(K:PySem.W.Frag)(G:Gf)(A:Addr->Prop)(δ:List Sl)(P:List (D×V))(σ:St)(H:Hp):Prop where
 old:∀b o,G.H0 b=some o->¬ G.Pm b->H b=some o
 stay:∀b,G.H0 b≠none->H b≠none
 m0:∀b,G.M0 b->G.H0 b≠none
 pm:∀b,G.Pm b->G.H0 b≠none/\¬ G.M0 b
 new:∀b,A b->G.H0 b=none\/G.Pm b
 thr:∀b,A b->H b≠none
 len:δ.length=σ.length
 dat:∀(i:Nat) d,δ[i]?=some (.dat d)->∃v,σ[i]?=some (some v)/\Fr K (λb=>G.M0 b\/A b) H d v
 own:∀(i:Nat) a d,δ[i]?=some (.own a d)->σ[i]?=some (some (.ref a))/\A a/\bm K (λb=>G.M0 b\/A b) H a d
 inj:∀(i j:Nat) a d e,δ[i]?=some (.own a d)->δ[j]?=some (.own a e)->i=j
 pnd:∀p∈P,Fr K (λb=>G.M0 b\/A b) H p.1 p.2
def S(K:PySem.W.Frag)(G:Gf)(δ:List Sl)(P:List (D×V))(σ:St)(H:Hp):Prop:=∃A,Sx K G A δ P σ H
inductive aU(K:PySem.W.Frag)(f:List D->(D->Prop)->Prop)(vs:List V)(H:Hp)(Q:VK):Prop
 | mk (M:Addr->Prop) (ds:List D) (R:D->Prop) (m:∀b,M b->H b≠none) (rs:Reps K M H ds vs) (h:f ds R) (k:∀d,R d->∀v H',bY H H'->Fr K M H' d v->Q v H')
section
variable {K:PySem.W.Frag} {G:Gf} {A:Addr→Prop} {δ:List Sl} {P P':List (D×V)} {σ:St} {H H':Hp}
def bm.kp{d:D}(k:Kp M H H')(e:H' a=H a)(h:bm K M H a d):bm K M H' a d:=by
 cases d with
 | lst ds =>
  obtain⟨vs,q,r⟩:=h;exact⟨vs,e.trans q,Reps.kp k _ _ r⟩
 | dct ks ds =>
  obtain⟨vs,q,l,r⟩:=h;exact⟨vs,e.trans q,l,Reps.kp k _ _ r⟩
 | _=>exact h.elim
def bm.more{M':Addr->Prop}{d:D}(hM:∀b,M' b->M b\/H b=none)(h:bm K M H a d):bm K M' H a d:=by
 cases d with
 | lst ds =>
  obtain⟨vs,q,r⟩:=h;exact⟨vs,q,Reps.more hM _ _ r⟩
 | dct ks ds =>
  obtain⟨vs,q,l,r⟩:=h;exact⟨vs,q,l,Reps.more hM _ _ r⟩
 | _=>exact h.elim
def Sx.sub(s:Sx K G A δ P σ H)(h:∀p∈P',p∈P):Sx K G A δ P' σ H :=
 ⟨s.old,s.stay,s.m0,s.pm,s.new,s.thr,s.len,s.dat,s.own,s.inj,λp hp=>s.pnd p (h p hp)⟩
def S.sub(s:S K G δ P σ H)(h:∀p∈P',p∈P):S K G δ P' σ H:=let ⟨A,x⟩:=s;⟨A,x.sub h⟩
def Sx.same(s:Sx K G A δ P σ H)(h:bY H H'):Sx K G A δ P σ H' where
 old:=λb o e n=>h b o (s.old b o e n)
 stay:=λb e=>by
  cases q:H b with
  | none=>exact absurd q (s.stay b e)
  | some o=>rw[h b o q];exact λz=>nomatch z
 m0:=s.m0
 pm:=s.pm
 new:=s.new
 thr:=λb e=>by
  cases q:H b with
  | none=>exact absurd q (s.thr b e)
  | some o=>rw[h b o q];exact λz=>nomatch z
 len:=s.len
 dat:=λi d e=>let ⟨v,q,r⟩:=s.dat i d e;⟨v,q,Fr.kp (Kp.of_same h) _ _ r⟩
 own:=λi a d e=>by
  obtain⟨q,a1,o⟩:=s.own i a d e;refine⟨q,a1,bm.kp (Kp.of_same h) ?_ o⟩
  cases z:H a with
  | none=>exact absurd z (s.thr a a1)
  | some o=>exact h a o z
 inj:=s.inj
 pnd:=λp hp=>Fr.kp (Kp.of_same h) _ _ (s.pnd p hp)
def Sx.push(s:Sx K G A δ P σ H){d:D}(h:Fr K (λb=>G.M0 b\/A b) H d v):Sx K G A δ ((d,v)::P) σ H :=
 ⟨s.old,s.stay,s.m0,s.pm,s.new,s.thr,s.len,s.dat,s.own,s.inj,λp hp=>by
  rcases F7.mp hp with rfl | hp
  ·exact h
  ·exact s.pnd p hp⟩
def Sx.mem(s:Sx K G A δ P σ H):∀b,(G.M0 b\/A b)->H b≠none:=λb h=>h.elim (λz=>s.stay b (s.m0 b z)) λz=>s.thr b z
def Sx.reps(s:Sx K G A δ P σ H):∀(ds:List D) (vs:List V),ds.length=vs.length->(∀p∈ds.zip vs,p∈P)->Reps K (λb=>G.M0 b\/A b) H ds vs
 | [],[],_,_=>Reps.nil
 | d::ds,v::vs,l,h=>Reps.cons (s.pnd (d,v) (h _ (FW ..))) (Sx.reps s ds vs (HD l) λp hp=>h p (FU _ hp))
def S.pure{f:List D->(D->Prop)->Prop}{ds:List D}{R:D->Prop}{Q:VK}(s:S K G δ P σ H)(hl:ds.length=vs.length)(hp:∀p∈ds.zip vs,p∈P)(hs:∀p∈P',p∈P)(hf:f ds R)
  (h:∀d,R d->∀v H',S K G δ ((d,v)::P') σ H'->Q v H'):aU K f vs H Q:=by
 obtain⟨A,x⟩:=s;refine⟨λb=>G.M0 b\/A b,ds,R,x.mem,x.reps ds vs hl hp,hf,λd r v H' sm rp=>h d r v H' ⟨A,?_⟩⟩;exact((x.same sm).sub hs).push rp
def Sx.set{i:Nat}{d:D}(s:Sx K G A δ P σ H)(hp:(d,v)∈P)(hs:∀p∈P',p∈P):Sx K G A (δ.set i (.dat d)) P' (σ.set i (some v)) H where
 old:=s.old
 stay:=s.stay
 m0:=s.m0
 pm:=s.pm
 new:=s.new
 thr:=s.thr
 len:=by rw[GM,GM,s.len]
 dat:=λj d' e=>by
  by_cases hij:i=j
  ·subst hij
   by_cases hl:i<δ.length
   ·rw[List.getElem?_set_self hl] at e
    cases e
    exact⟨v,by rw[List.getElem?_set_self (by rw[<- s.len];exact hl)],s.pnd _ hp⟩
   ·rw[List.getElem?_eq_none (by rw[GM];omega)] at e
    cases e
  ·rw[List.getElem?_set_ne hij] at e;obtain⟨v',q,r⟩:=s.dat j d' e;exact⟨v',by rw[List.getElem?_set_ne hij];exact q,r⟩
 own:=λj a d' e=>by
  by_cases hij:i=j
  ·subst hij
   by_cases hl:i<δ.length
   ·rw[List.getElem?_set_self hl] at e
    cases e
   ·rw[List.getElem?_eq_none (by rw[GM];omega)] at e
    cases e
  ·rw[List.getElem?_set_ne hij] at e;obtain⟨q,r⟩:=s.own j a d' e;exact⟨by rw[List.getElem?_set_ne hij];exact q,r⟩
 inj:=λj k a d' e' h1 h2=>by
  have hj:δ[j]?=some (.own a d'):=by
   by_cases hij:i=j
   ·subst hij
    by_cases hl:i<δ.length
    ·rw[List.getElem?_set_self hl] at h1;cases h1
    ·rw[List.getElem?_eq_none (by rw[GM];omega)] at h1;cases h1
   ·rw[List.getElem?_set_ne hij] at h1;exact h1
  have hk:δ[k]?=some (.own a e'):=by
   by_cases hij:i=k
   ·subst hij
    by_cases hl:i<δ.length
    ·rw[List.getElem?_set_self hl] at h2;cases h2
    ·rw[List.getElem?_eq_none (by rw[GM];omega)] at h2;cases h2
   ·rw[List.getElem?_set_ne hij] at h2;exact h2
  exact s.inj j k a d' e' hj hk
 pnd:=λp h=>s.pnd p (hs p h)
def S.set{i:Nat}{d:D}(s:S K G δ P σ H)(hp:(d,v)∈P)(hs:∀p∈P',p∈P):S K G (δ.set i (.dat d)) P' (σ.set i (some v)) H:=let ⟨A,x⟩:=s;⟨A,x.set hp hs⟩
end
end DL
namespace DL
open PySem L2
variable {i:Nat} {a:Addr} {d:D}
section
variable {K:PySem.W.Frag} {G:Gf} {A:Addr→Prop} {δ:List Sl} {P P':List (D×V)} {σ:St} {H H':Hp}
def aW{α:Type}{l:List α}{j:Nat}{x y:α}(h:(l.set i x)[j]?=some y):(i=j/\x=y/\i<l.length)\/(i≠j/\l[j]?=some y):=by
 by_cases e:i=j
 ·subst e
  by_cases hl:i<l.length
  ·rw[List.getElem?_set_self hl] at h;exact .inl ⟨rfl,Gc h,hl⟩
  ·rw[List.getElem?_eq_none (by rw[GM];omega)] at h
   cases h
 ·rw[List.getElem?_set_ne e] at h;exact .inr ⟨e,h⟩
def Sx.claim(s:Sx K G A δ P σ H)(hn:H a=none)(hs:bY H H')(ho:bm K (λb=>(G.M0 b\/A b)\/b=a) H' a d)(hP:∀p∈P',p∈P) :
  Sx K G (λb=>A b\/b=a) (δ.set i (.own a d)) P' (σ.set i (some (.ref a))) H':=by
 have x:=s.same hs
 have hM:∀b,(G.M0 b\/(A b\/b=a))->(G.M0 b\/A b)\/H b=none:=λb h=>by
  rcases h with h | h | h
  ·exact .inl (.inl h)
  ·exact .inl (.inr h)
  ·subst h;exact .inr hn
 have hM2:∀b,(G.M0 b\/(A b\/b=a))->((G.M0 b\/A b)\/b=a)\/H' b=none:=λb h=>by
  rcases h with h | h | h
  ·exact .inl (.inl (.inl h))
  ·exact .inl (.inl (.inr h))
  ·exact .inl (.inr h)
 have up:∀d v,Fr K (λb=>G.M0 b\/A b) H d v->Fr K (λb=>G.M0 b\/(A b\/b=a)) H' d v:=λd v r=>Fr.kp (Kp.of_same hs) _ _ (Fr.more hM _ _ r)
 have na:∀b,A b->b≠a:=λb h e=>s.thr b h (by rw[e];exact hn)
 have h0:G.H0 a=none:=by
  cases q:G.H0 a with
  | none=>rfl
  | some o=>exact absurd hn (s.stay a (by rw[q];exact λz=>nomatch z))
 have hne:H' a≠none:=by
  cases d with
  | lst ds=>obtain⟨vs,q,_⟩:=ho;rw[q];exact λz=>nomatch z
  | dct ks ds=>obtain⟨vs,q,_⟩:=ho;rw[q];exact λz=>nomatch z
  | _=>exact ho.elim
 refine⟨x.old,x.stay,x.m0,x.pm,λb h=>h.elim (s.new b) λe=>.inl (by rw[e];exact h0),λb h=>h.elim (x.thr b) λe=>by rw[e];exact hne,by rw[GM,GM,s.len],λj d' e=>?_,λj b d' e=>?_,
  λj k b d' e' h1 h2=>?_,λp hp=>up _ _ (s.pnd p (hP p hp))⟩
 ·rcases aW e with⟨_,z,_⟩ | ⟨hij,e⟩
  ·cases z
  ·obtain⟨v,q,r⟩:=s.dat j d' e;exact⟨v,by rw[List.getElem?_set_ne hij];exact q,up _ _ r⟩
 ·rcases aW e with⟨hij,z,hl⟩ | ⟨hij,e⟩
  ·cases z
   subst hij;exact⟨by rw[List.getElem?_set_self (by rw[<- s.len];exact hl)],.inr rfl,bm.more hM2 ho⟩
  ·obtain⟨q,r,o⟩:=s.own j b d' e;refine⟨by rw[List.getElem?_set_ne hij];exact q,.inl r,bm.kp (Kp.of_same hs) ?_ (bm.more hM o)⟩
   cases z:H b with
   | none=>exact absurd z (s.thr b r)
   | some o'=>exact hs b o' z
 ·rcases aW h1 with⟨hij,z,hl⟩ | ⟨hij,e⟩
  ·cases z
   rcases aW h2 with⟨hik,_,_⟩ | ⟨hik,e2⟩
   ·rw[<- hij,<- hik]
   ·exact absurd rfl (na _ (s.own k _ _ e2).2.1)
  ·rcases aW h2 with⟨hik,z,_⟩ | ⟨hik,e2⟩
   ·cases z
    exact absurd rfl (na _ (s.own j _ _ e).2.1)
   ·exact s.inj j k b d' e' e e2
def Sx.change{d':D}(s:Sx K G A δ P σ H)(hi:δ[i]?=some (.own a d))(hk:∀b o,b≠a->H b=some o->H' b=some o)(ho:bm K (λb=>G.M0 b\/A b) H' a d') :
  Sx K G A (δ.set i (.own a d')) P σ H':=by
 obtain⟨si,ai,oi⟩:=s.own i a d hi;have hmu:(∀xs,H a≠some (.tup xs))/\∀o u,H a≠some (.frz o u):=by
  cases d with
  | lst ds=>obtain⟨vs,q,_⟩:=oi;rw[q];exact⟨λ_ z=>(nomatch z),λ_ _ z=>(nomatch z)⟩
  | dct ks ds=>obtain⟨vs,q,_⟩:=oi;rw[q];exact⟨λ_ z=>(nomatch z),λ_ _ z=>(nomatch z)⟩
  | _=>exact oi.elim
 have hne:H' a≠none:=by
  cases d' with
  | lst ds=>obtain⟨vs,q,_⟩:=ho;rw[q];exact λz=>nomatch z
  | dct ks ds=>obtain⟨vs,q,_⟩:=ho;rw[q];exact λz=>nomatch z
  | _=>exact ho.elim
 have kp:Kp (λb=>G.M0 b\/A b) H H':=⟨λb o e n=>hk b o (λz=>n (.inr (by rw[z];exact ai))) e,λb xs e=>hk b _ (λz=>hmu.1 xs (by rw[<- z];exact e)) e,
  λb o u e=>hk b _ (λz=>hmu.2 o u (by rw[<- z];exact e)) e⟩
 have stay:∀b,H b≠none->H' b≠none:=λb e=>by
  by_cases z:b=a
  ·rw[z];exact hne
  ·cases q:H b with
   | none=>exact absurd q e
   | some o=>rw[hk b o z q];exact λz=>nomatch z
 have na:∀b o,G.H0 b=some o->¬ G.Pm b->b≠a:=λb o e n z=>(s.new a ai).elim (λq=>by rw[z] at e;rw[e] at q;cases q) λq=>n (by rw[z];exact q)
 refine⟨λb o e n=>hk b o (na b o e n) (s.old b o e n),λb e=>stay b (s.stay b e),s.m0,s.pm,s.new,λb e=>stay b (s.thr b e),by rw[GM,s.len],λj x e=>?_,λj b x e=>?_,λj k b x y h1 h2=>?_,
  λp hp=>Fr.kp kp _ _ (s.pnd p hp)⟩
 ·rcases aW e with⟨_,z,_⟩ | ⟨hij,e⟩
  ·cases z
  ·obtain⟨v,q,r⟩:=s.dat j x e;exact⟨v,q,Fr.kp kp _ _ r⟩
 ·rcases aW e with⟨hij,z,hl⟩ | ⟨hij,e9⟩
  ·cases z
   subst hij;exact⟨si,ai,ho⟩
  ·clear e;obtain⟨q,r,o⟩:=s.own j b x e9;have hb:b≠a:=λz=>by rw[z] at e9;exact hij (s.inj _ _ _ _ _ hi e9)
   refine⟨q,r,bm.kp kp ?_ o⟩
   cases z:H b with
   | none=>exact absurd z (s.thr b r)
   | some o'=>exact hk b o' hb z
 ·have hj:∃x',δ[j]?=some (.own b x'):=by
   rcases aW h1 with⟨hij,z,hl⟩ | ⟨hij,e⟩
   ·cases z;subst hij;exact⟨_,hi⟩
   ·exact⟨_,e⟩
  have hk':∃x',δ[k]?=some (.own b x'):=by
   rcases aW h2 with⟨hij,z,hl⟩ | ⟨hij,e⟩
   ·cases z;subst hij;exact⟨_,hi⟩
   ·exact⟨_,e⟩
  obtain⟨x1,e1⟩:=hj;obtain⟨x2,e2⟩:=hk';exact s.inj j k b x1 x2 e1 e2
def bm.rep{M M':Addr->Prop}(h:bm K M H a d)(n:¬ M' a)(hM:∀b,M' b->M b):Fr K M' H d (.ref a):=by
 cases d with
 | lst ds =>
  obtain⟨vs,q,r⟩:=h;unfold Fr;exact⟨a,vs,rfl,n,q,Reps.more (λb z=>.inl (hM b z)) _ _ r⟩
 | dct ks ds =>
  obtain⟨vs,q,l,r⟩:=h;unfold Fr;exact⟨a,vs,rfl,n,q,l,Reps.more (λb z=>.inl (hM b z)) _ _ r⟩
 | _=>exact h.elim
def Sx.freeze(s:Sx K G A δ P σ H)(hi:δ[i]?=some (.own a d))(hp:¬ G.M0 a):Sx K G (λb=>A b/\b≠a) (δ.set i (.dat d)) P σ H:=by
 obtain⟨si,ai,oi⟩:=s.own i a d hi;have hM:∀b,(G.M0 b\/(A b/\b≠a))->(G.M0 b\/A b):=λb h=>h.elim .inl λz=>.inr z.1;have dn:∀d v,Fr K (λb=>G.M0 b\/A b) H d v->Fr K (λb=>G.M0 b\/(A b/\b≠a)) H d v:=λd v r=>Fr.more (λb z=>.inl (hM b z)) _ _ r;refine⟨s.old,s.stay,s.m0,s.pm,λb h=>s.new b h.1,λb h=>s.thr b h.1,by rw[GM,s.len],λj x e=>?_,λj b x e=>?_,λj k b x y h1 h2=>?_,λp hp=>dn _ _ (s.pnd p hp)⟩
 ·rcases aW e with⟨hij,z,_⟩ | ⟨hij,e⟩
  ·cases z;subst hij
   exact⟨.ref a,si,oi.rep (λz=>z.elim hp λq=>q.2 rfl) hM⟩
  ·obtain⟨v,q,r⟩:=s.dat j x e;exact⟨v,q,dn _ _ r⟩
 ·rcases aW e with⟨_,z,_⟩ | ⟨hij,e9⟩
  ·cases z
  ·clear e;obtain⟨q,r,o⟩:=s.own j b x e9;have hb:b≠a:=λz=>by rw[z] at e9;exact hij (s.inj _ _ _ _ _ hi e9)
   exact⟨q,⟨r,hb⟩,bm.more (λb z=>.inl (hM b z)) o⟩
 ·rcases aW h1 with⟨_,z,_⟩ | ⟨_,e1⟩
  ·cases z
  ·rcases aW h2 with⟨_,z,_⟩ | ⟨_,e2⟩
   ·cases z
   ·exact s.inj j k b x y e1 e2
end
end DL
namespace DL
open PySem PySem.Spec PyProof.Rows L2
variable {x d:D} {k:List D→Prop} {o:Option Sl} {G:Gf} {A:Addr→Prop} {P:List (D×V)} {σ:L2.St} {H:Hp} {i n:Nat} {es:List Expr} {v:V} {p:Pos}
inductive W where
 | d (x:D) | o (i:Nat)
abbrev En:=List Sl
abbrev FQ:=En->(W->En->Prop)->Prop
abbrev TDA:=En->(List D->En->Prop)->Prop
abbrev TDT:=En->(Bool->En->Prop)->Prop
structure a4 where
 nx:En->Prop
 rt:D->En->Prop
 bk:En->Prop:=λ_=>False
 ct:En->Prop:=λ_=>False
 ro:D->Prop:=λ_=>False
 tp:Prop:=False
 ex:Str->Str->D->Prop:=λ_ _ _=>False
abbrev TDS:=a4->En->Prop
abbrev TDG:=D->En->(En->Prop)->Prop
abbrev ya:=List D->En->(En->Prop)->Prop
def wd(R:D->En->Prop):W->En->Prop
 | .d x,δ=>R x δ
 | .o _,_=>False
def qB:D->(Bool->Prop)->Prop
 | .bl b,k=>k b
 | _,_=>False
def qI:D->(Int->Prop)->Prop
 | .int b,k=>k b
 | _,_=>False
def qX:D->(Str->Prop)->Prop
 | .str b,k=>k b
 | _,_=>False
def qT:D->(List D->Prop)->Prop
 | .tup b,k=>k b
 | _,_=>False
def qL:D->(List D->Prop)->Prop
 | .lst b,k=>k b
 | _,_=>False
def qW:Option Sl->(Addr->D->Prop)->Prop
 | some (.own a d),k=>k a d
 | _,_=>False
def qD:Option Sl->(D->Prop)->Prop
 | some (.dat d),k=>k d
 | _,_=>False
def qWL(o:Option Sl)(k:Addr->List D->Prop):Prop:=qW o λa d=>qL d λxs=>k a xs
def qG:D->(List Str->List D->Prop)->Prop
 | .dct ks ds,k=>k ks ds
 | _,_=>False
def qWD(o:Option Sl)(k:Addr->List Str->List D->Prop):Prop:=qW o λa d=>qG d λks ds=>k a ks ds
def qF:D->(List Str->List D->Prop)->Prop
 | .fd ks ds,k=>k ks ds
 | _,_=>False
def qV{α:Type}:Option α->(α->Prop)->Prop
 | some a,k=>k a
 | none,_=>False
def qN:List D->Prop->Prop
 | [],k=>k
 | _::_,_=>False
def qC:List D->(D->List D->Prop)->Prop
 | x::r,k=>k x r
 | [],_=>False
def q9:List D->Prop->Prop
 | [],k=>k
 | [_],k=>k
 | [_,_],k=>k
 | [_,_,_],k=>k
 | [_,_,_,_],k=>k
 | xs,k=>xs.length<=9000/\k
def qWe(o:Option Sl)(k:D->Prop):Prop:=qW o λ_ d=>k d
def zw(o:Option Sl)(k:List D->Prop):Prop:=qW o λ_ d=>qL d λxs=>k xs
def At(o:Option Sl)(k:List Str->List D->Prop):Prop:=qW o λ_ d=>qG d λks ds=>k ks ds
def lH(δ:En)(i:Nat)(x:Sl)(k:En->Prop):Prop:=k (δ.set i x)
def rY:List D->Nat->Prop->Prop
 | [],0,k=>k
 | _::r,n+1,k=>rY r n k
 | _,_,_=>False
def rY.ex{k:Prop}:∀ {xs:List D} {n:Nat},rY xs n k->xs.length=n/\k
 | [],0,h=>⟨rfl,h⟩
 | _::r,n+1,h=>let ⟨a,b⟩:=rY.ex (xs:=r) (n:=n) h;⟨by rw[F8,a],b⟩
 | [],_+1,h=>False.elim h
 | _::_,0,h=>False.elim h
def kD(R:W->En->Prop)(δ:En)(d:D):Prop:=R (.d d) δ
def qB.ex{k:Bool->Prop}(h:qB x k):∃b,x=.bl b/\k b:=by cases x<;>first | exact False.elim h | exact⟨_,rfl,h⟩
def qI.ex{k:Int->Prop}(h:qI x k):∃b,x=.int b/\k b:=by cases x<;>first | exact False.elim h | exact⟨_,rfl,h⟩
def qX.ex{k:Str->Prop}(h:qX x k):∃b,x=.str b/\k b:=by cases x<;>first | exact False.elim h | exact⟨_,rfl,h⟩
def qT.ex(h:qT x k):∃b,x=.tup b/\k b:=by cases x<;>first | exact False.elim h | exact⟨_,rfl,h⟩
def qL.ex(h:qL x k):∃b,x=.lst b/\k b:=by cases x<;>first | exact False.elim h | exact⟨_,rfl,h⟩
def qG.ex{k:List Str->List D->Prop}(h:qG x k):∃ks ds,x=.dct ks ds/\k ks ds:=by cases x<;>first | exact False.elim h | exact⟨_,_,rfl,h⟩
def qW.ex{k:Addr->D->Prop}(h:qW o k):∃a d,o=some (.own a d)/\k a d:=by
 cases o with
 | none=>exact False.elim h
 | some x=>cases x<;>first | exact False.elim h | exact⟨_,_,rfl,h⟩
def qD.ex{k:D->Prop}(h:qD o k):∃d,o=some (.dat d)/\k d:=by
 cases o with
 | none=>exact False.elim h
 | some x=>cases x<;>first | exact False.elim h | exact⟨_,rfl,h⟩
def qWL.ex{k:Addr->List D->Prop}(h:qWL o k):∃a d,o=some (.own a (.lst d))/\k a d:=by
 replace h:=qW.ex h;obtain⟨a,d,rfl,h⟩:=h;replace h:=qL.ex h;obtain⟨xs,rfl,h⟩:=h;exact⟨_,_,rfl,h⟩
def qWD.ex{k:Addr->List Str->List D->Prop}(h:qWD o k):∃a ks ds,o=some (.own a (.dct ks ds))/\k a ks ds:=by
 replace h:=qW.ex h;obtain⟨a,d,rfl,h⟩:=h;replace h:=qG.ex h;obtain⟨ks,ds,rfl,h⟩:=h;exact⟨_,_,_,rfl,h⟩
def qWe.ex{K:PySem.W.Frag}{δ:En}{a:Addr}{k:D->Prop}(x:Sx K G A δ P σ H)(e:σ[i]?=some (some (.ref a)))(h:qWe δ[i]? k):∃d,δ[i]?=some (.own a d)/\k d:=by
 obtain⟨b,d,hi,h⟩:=qW.ex h;have q:=(x.own i b d hi).1;rw[e] at q
 cases q
 exact⟨_,hi,h⟩
def zw.ex{K:PySem.W.Frag}{δ:En}{a:Addr}(x:Sx K G A δ P σ H)(e:σ[i]?=some (some (.ref a)))(h:zw δ[i]? k):∃d,δ[i]?=some (.own a (.lst d))/\k d:=by
 obtain⟨d,hi,h⟩:=qWe.ex (k:=λd=>qL d k) x e h;obtain⟨xs,rfl,h⟩:=qL.ex h;exact⟨_,hi,h⟩
def At.ex{K:PySem.W.Frag}{δ:En}{a:Addr}{k:List Str->List D->Prop}(x:Sx K G A δ P σ H)(e:σ[i]?=some (some (.ref a)))(h:At δ[i]? k):∃ks ds,δ[i]?=some (.own a (.dct ks ds))/\k ks ds:=by
 obtain⟨d,hi,h⟩:=qWe.ex (k:=λd=>qG d k) x e h;obtain⟨ks,ds,rfl,h⟩:=qG.ex h;exact⟨_,_,hi,h⟩
def qV.ex{α:Type}{o:Option α}{k:α->Prop}(h:qV o k):∃a,o=some a/\k a:=by
 cases o with
 | none=>exact False.elim h
 | some x=>exact⟨_,rfl,h⟩
def qV.of{α:Type}{o:Option α}{k:α->Prop}{a:α}(e:o=some a)(h:k a):qV o k:=by rw[e];exact h
def qN.ex{x:List D}{k:Prop}(h:qN x k):x=[]/\k:=by
 cases x with
 | nil=>exact⟨rfl,h⟩
 | cons _ _=>exact False.elim h
def qC.ex{x:List D}{k:D->List D->Prop}(h:qC x k):∃a r,x=a::r/\k a r:=by
 cases x with
 | nil=>exact False.elim h
 | cons _ _=>exact⟨_,_,rfl,h⟩
def q9.ex{x:List D}{k:Prop}(h:q9 x k):x.length<=9000/\k:=by
 rcases x with _ | ⟨a,_ | ⟨b,_ | ⟨c,_ | ⟨d,_ | ⟨e,l⟩⟩⟩⟩⟩
 ·exact⟨G5 _,h⟩
 ·exact⟨(by simp only[List.length_cons,List.length_nil];omega),h⟩
 ·exact⟨(by simp only[List.length_cons,List.length_nil];omega),h⟩
 ·exact⟨(by simp only[List.length_cons,List.length_nil];omega),h⟩
 ·exact⟨(by simp only[List.length_cons,List.length_nil];omega),h⟩
 ·exact h
inductive Up(K:PySem.W.Frag)(t:FQ)(σ:L2.St)(H:Hp)(Q:VK):Prop
 | mk (G:Gf) (δ:En) (P:List (D×V)) (R:W->En->Prop) (s:S K G δ P σ H) (h:t δ R) (k:(∀x δ',R (.d x) δ'->∀v H',S K G δ' ((x,v)::P) σ H'->Q v H')/\(∀i δ',R (.o i) δ'->∀a d H',S K G δ' P σ H'->δ'[i]?=some (.own a d)->Q (.ref a) H'))
def up(K:PySem.W.Frag)(t:FQ):TE:=Up K t
inductive UpA(K:PySem.W.Frag)(t:TDA)(σ:L2.St)(H:Hp)(Q:List V->Hp->Prop):Prop
 | mk (G:Gf) (δ:En) (P:List (D×V)) (R:List D->En->Prop) (s:S K G δ P σ H) (h:t δ R) (k:∀ds δ',R ds δ'->∀vs H',ds.length=vs.length->S K G δ' (ds.zip vs++P) σ H'->Q vs H')
def upA(K:PySem.W.Frag)(t:TDA):TA:=UpA K t
inductive UpT(K:PySem.W.Frag)(t:TDT)(σ:L2.St)(H:Hp)(Q:Bool->Hp->Prop):Prop
 | mk (G:Gf) (δ:En) (P:List (D×V)) (R:Bool->En->Prop) (s:S K G δ P σ H) (h:t δ R) (k:∀b δ',R b δ'->∀H',S K G δ' P σ H'->Q b H')
def upT(K:PySem.W.Frag)(t:TDT):TT:=UpT K t
inductive UpG(K:PySem.W.Frag)(t:TDG)(v:V)(σ:L2.St)(H:Hp)(Q:L2.St->Hp->Prop):Prop
 | mk (G:Gf) (δ:En) (P:List (D×V)) (d:D) (R:En->Prop) (s:S K G δ ((d,v)::P) σ H) (h:t d δ R) (k:∀δ',R δ'->∀σ' H',S K G δ' P σ' H'->Q σ' H')
def upG(K:PySem.W.Frag)(t:TDG):TG:=UpG K t
inductive UpGs(K:PySem.W.Frag)(t:ya)(vs:List V)(σ:L2.St)(H:Hp)(Q:L2.St->Hp->Prop):Prop
 | mk (G:Gf) (δ:En) (P:List (D×V)) (ds:List D) (R:En->Prop) (hl:ds.length=vs.length) (s:S K G δ (ds.zip vs++P) σ H) (h:t ds δ R) (k:∀δ',R δ'->∀σ' H',S K G δ' P σ' H'->Q σ' H')
def upGs(K:PySem.W.Frag)(t:ya):TGs:=UpGs K t
def xO(K:PySem.W.Frag)(G:Gf)(H':Hp)(a:Addr)(d:D):Prop:=(∀b o,G.H0 b=some o->¬ G.Pm b->H' b=some o)/\(G.H0 a=none\/G.Pm a)/\¬ G.M0 a/\bm K (λb=>G.M0 b\/b=a) H' a d
inductive UpS(K:PySem.W.Frag)(W:XK)(t:TDS)(E:yz)(σ:L2.St)(H:Hp):Prop
 | mk (G:Gf) (δ:En) (P:List (D×V)) (R:a4) (s:S K G δ P σ H) (h:t R δ) (k:(∀δ',R.nx δ'->∀σ' H',S K G δ' P σ' H'->E.nx σ' H')/\((∀d δ',R.rt d δ'->∀v σ' H',S K G δ' ((d,v)::P) σ' H'->E.rt v H')/\(∀d,R.ro d->∀a H',xO K G H' a d->E.rt (.ref a) H')/\∀c f d,R.ex c f d->∀e C dx δ' σ' H',S K G δ' ((.exn c f d,.ref e)::P) σ' H'->H' e=some (XAt e C dx)->W (.ref e) (some dx) H') /\
 (∀δ',R.bk δ'->∀σ' H',S K G δ' P σ' H'->E.bk σ' H')/\(∀δ',R.ct δ'->∀σ' H',S K G δ' P σ' H'->E.ct σ' H')/\(R.tp->P=[]/\∀b o,G.H0 b=some o->∃ob xs,o=.frz ob (.lst xs)))
def exs{K:PySem.W.Frag}{W:XK}{R:Str->Str->D->Prop}{q:D×V}(k:∀c f d,R c f d->∀e C dx δ' σ' H',S K G δ' ((.exn c f d,.ref e)::P) σ' H'->H' e=some (XAt e C dx)->W (.ref e) (some dx) H') :
  ∀c f d,R c f d->∀e C dx δ' σ' H',S K G δ' ((.exn c f d,.ref e)::q::P) σ' H'->H' e=some (XAt e C dx)->W (.ref e) (some dx) H':=λc f d r e C dx δ' σ' H' s=>k c f d r e C dx δ' σ' H' (s.sub λp hp=>by
 rcases F7.mp hp with rfl | hp
 ·simp
 ·simp[hp])
def TbOk(h:Heap)(e:Addr)(t:Value):Prop:=t=.none\/∃T oT ts,t=.ref T/\T≠e/\h.get? T=some oT/\oT.data=.fields ts/\ts[3]?=some .none
structure zr(X:Cx)(pins:List (Addr×Obj))(H':Hp)(e C dx:Addr)(s':Shared):Prop where
 ex:∃(σ:L2.St) (a t:Value),L2.Inv X pins σ H' s'/\s'.heap.get? e=some (xob C (some dx) a t)/\TbOk s'.heap e t /\
  (∀T,t=.ref T->H' T=none/\X.s₀.heap.objs.size<=T/\T≠X.env.locals/\(∀x c,X.env.cells.lookup x=some c->c≠T)/\∀p∈X.pn++pins,p.1≠T)/\H' e=some (XAt e C dx)
def XEs(X:Cx):XK:=λev dxo H'=>∀e C dx pins s',ev=.ref e->dxo=some dx->zr X pins H' e C dx s'->X.xe (.ref e) s'
def upS(X:Cx)(t:TDS):TS:=UpS X.K (XEs X) t
def DE(X:Cx)(e:Expr)(t:FQ):Prop:=PE X e (up X.K t)
def DA(X:Cx)(es:List Expr)(t:TDA):Prop:=PA X es (upA X.K t)
def DT(X:Cx)(e:Expr)(t:TDT):Prop:=PT X e (upT X.K t)
def DW(X:Cx)(e:Expr)(t:TDT):Prop:=PW X e (upT X.K t)
def DG(X:Cx)(e:Expr)(t:TDG):Prop:=PG X e (upG X.K t)
def DGs(X:Cx)(e:List Expr)(t:ya):Prop:=PGs X e (upGs X.K t)
def DS(X:Cx)(st:Stmt)(t:TDS):Prop:=PS X st (upS X t)
def DSs(X:Cx)(st:List Stmt)(t:TDS):Prop:=PSs X st (upS X t)
section
variable {X:Cx} {e:Expr} {pos:Pos}
def PE.imp{t t':TE}(h:PE X e t)(i:∀σ H Q,t' σ H Q->t σ H Q):PE X e t':=λpins s σ H Q I q=>h pins s σ H Q I (i σ H Q q)
def PT.imp{t t':TT}(h:PT X e t)(i:∀σ H Q,t' σ H Q->t σ H Q):PT X e t':=λpins s σ H Q I q=>h pins s σ H Q I (i σ H Q q)
def PW.imp{t t':TT}(h:PW X e t)(i:∀σ H Q,t' σ H Q->t σ H Q):PW X e t':=λwh pins s σ H Q I q=>h wh pins s σ H Q I (i σ H Q q)
def PA.imp{t t':TA}(h:PA X es t)(i:∀σ H Q,t' σ H Q->t σ H Q):PA X es t':=λp pins s σ H Q I q=>h p pins s σ H Q I (i σ H Q q)
def PS.imp{st:Stmt}{t t':TS}(h:PS X st t)(i:∀E σ H,t' E σ H->t E σ H):PS X st t':=λpins s σ H D I q=>h pins s σ H D I (i D σ H q)
def PSs.imp{st:List Stmt}{t t':TS}(h:PSs X st t)(i:∀E σ H,t' E σ H->t E σ H):PSs X st t':=λpins s σ H D I q=>h pins s σ H D I (i D σ H q)
def PG.imp{t t':TG}(h:PG X e t)(i:∀v σ H Q,t' v σ H Q->t v σ H Q):PG X e t':=λpins s σ H v u Q I r q=>h pins s σ H v u Q I r (i v σ H Q q)
def PGs.imp{t t':TGs}(h:PGs X es t)(i:∀v σ H Q,t' v σ H Q->t v σ H Q):PGs X es t':=λpins s σ H v u Q I r q=>h pins s σ H v u Q I r (i v σ H Q q)
def FH.imp{f:Value->Value->Sem Value}{r r':R2}(h:FH X f r)(i:∀x y H Q,r' x y H Q->r x y H Q):FH X f r':=λpins s σ H x y v u Q I rx ry q=>h pins s σ H x y v u Q I rx ry (i x y H Q q)
def UnR.imp{f:Value->Sem Value}{r r':V->Hp->VK->Prop}(h:UnR X f r)(i:∀x H Q,r' x H Q->r x H Q):UnR X f r':=λpins s σ H x v Q I rx q=>h pins s σ H x v Q I rx (i x H Q q)
def bP.imp{f:Value}{r r':List V->Hp->VK->Prop}(h:bP X f r)(i:∀xs H Q,r' xs H Q->r xs H Q):bP X f r':=λpins s σ H x v Q I rx q=>h pins s σ H x v Q I rx (i x H Q q)
def IxR.imp{r r':R2}(h:IxR X r)(i:∀x y H Q,r' x y H Q->r x y H Q):IxR X r':=λvalue slice pins s σ H x y v u Q I rx ry q hs=>h value slice pins s σ H x y v u Q I rx ry (i x y H Q q) hs
end
section
variable {K:PySem.W.Frag} {G:Gf} {δ:En} {P:List (D×V)} {σ:L2.St} {H:Hp}
def up.mk{t:FQ}{R:D->En->Prop}{Q:VK}(s:S K G δ P σ H)(h:t δ (wd R))(k:∀x δ',R x δ'->∀v H',S K G δ' ((x,v)::P) σ H'->Q v H'):up K t σ H Q:=⟨G,δ,P,wd R,s,h,k,λ_ _ z=>z.elim⟩
def S.dat(s:S K G δ P σ H)(e:δ[i]?=some (.dat d)):∃v,σ[i]?=some (some v)/\S K G δ ((d,v)::P) σ H:=by
 obtain⟨A,x⟩:=s;obtain⟨v,q,r⟩:=x.dat i d e;exact⟨v,q,A,x.push r⟩
def S.own{a:Addr}(s:S K G δ P σ H)(e:δ[i]?=some (.own a d)):σ[i]?=some (some (.ref a)):=let ⟨_,x⟩:=s;(x.own i a d e).1
def sc:D->Option V
 | .non=>some .non
 | .bl b=>some (.bl b)
 | .int i=>some (.int i)
 | .str x=>some (.str x)
 | _=>none
def Fr.sc{M:Addr->Prop}(h:sc d=some v):Fr K M H d v:=by
 cases d<;>simp only[DL.sc,Option.some.injEq,reduceCtorEq] at h<;>subst h<;>unfold Fr<;>rfl
def S.sc(s:S K G δ P σ H)(h:sc d=some v):S K G δ ((d,v)::P) σ H:=let ⟨A,x⟩:=s;⟨A,x.push (Fr.sc h)⟩
end
def dV(i:Nat)(δ:En)(R:W->En->Prop):Prop:=qD δ[i]? λd=>R (.d d) δ
def dC(d:D)(δ:En)(R:W->En->Prop):Prop:=R (.d d) δ
def kOb(f:List D->(D->Prop)->Prop)(x:D)(R:W->En->Prop):W->En->Prop:=wd λy δ2=>f [x,y] (kD R δ2)
def kOa(f:List D->(D->Prop)->Prop)(tb:FQ)(R:W->En->Prop):W->En->Prop:=wd λx δ1=>tb δ1 (kOb f x R)
def dOp(f:List D->(D->Prop)->Prop)(ta tb:FQ)(δ:En)(R:W->En->Prop):Prop:=ta δ (kOa f tb R)
def kUn(f:List D->(D->Prop)->Prop)(R:W->En->Prop):W->En->Prop:=wd λx δ1=>f [x] (kD R δ1)
def dUn(f:List D->(D->Prop)->Prop)(ta:FQ)(δ:En)(R:W->En->Prop):Prop:=ta δ (kUn f R)
def Bq(δ:En)(R:List D->En->Prop):Prop:=R [] δ
def kAd(x:D)(R:List D->En->Prop)(ds:List D)(δ:En):Prop:=R (x::ds) δ
def kAc(t:TDA)(R:List D->En->Prop):W->En->Prop:=wd λx δ1=>t δ1 (kAd x R)
def xC(te:FQ)(t:TDA)(δ:En)(R:List D->En->Prop):Prop:=te δ (kAc t R)
def kCa(f:List D->(D->Prop)->Prop)(R:W->En->Prop)(ds:List D)(δ:En):Prop:=f ds (kD R δ)
def rR(f:List D->(D->Prop)->Prop)(t:TDA)(δ:En)(R:W->En->Prop):Prop:=t δ (kCa f R)
def kTu(R:W->En->Prop)(ds:List D)(δ:En):Prop:=q9 ds (R (.d (.tup ds)) δ)
def dTup(t:TDA)(δ:En)(R:W->En->Prop):Prop:=t δ (kTu R)
def kLs(R:W->En->Prop)(ds:List D)(δ:En):Prop:=q9 ds (R (.d (.lst ds)) δ)
def dLst(t:TDA)(δ:En)(R:W->En->Prop):Prop:=t δ (kLs R)
def kTs(R:Bool->En->Prop):W->En->Prop:=wd λx δ1=>qB x λb=>R b δ1
def dTst(t:FQ)(δ:En)(R:Bool->En->Prop):Prop:=t δ (kTs R)
def kAn(u:TDT)(R:Bool->En->Prop)(b:Bool)(δ:En):Prop:=if b=true then u δ R else R false δ
def dAnd(t u:TDT)(δ:En)(R:Bool->En->Prop):Prop:=t δ (kAn u R)
def kOr(u:TDT)(R:Bool->En->Prop)(b:Bool)(δ:En):Prop:=if b=true then R true δ else u δ R
def dOr(t u:TDT)(δ:En)(R:Bool->En->Prop):Prop:=t δ (kOr u R)
def kNo(R:Bool->En->Prop)(b:Bool)(δ:En):Prop:=R (!b) δ
def dNot(t:TDT)(δ:En)(R:Bool->En->Prop):Prop:=t δ (kNo R)
def kAV(u:FQ)(R:W->En->Prop):W->En->Prop:=wd λx δ1=>qB x λb=>if b=true then u δ1 R else R (.d (.bl false)) δ1
def CY(t u:FQ)(δ:En)(R:W->En->Prop):Prop:=t δ (kAV u R)
def kOV(u:FQ)(R:W->En->Prop):W->En->Prop:=wd λx δ1=>qB x λb=>if b=true then R (.d (.bl true)) δ1 else u δ1 R
def dOrV(t u:FQ)(δ:En)(R:W->En->Prop):Prop:=t δ (kOV u R)
def kNV(R:W->En->Prop):W->En->Prop:=wd λx δ1=>qB x λb=>R (.d (.bl (!b))) δ1
def BL(t:FQ)(δ:En)(R:W->En->Prop):Prop:=t δ (kNV R)
def kIE(t u:FQ)(R:W->En->Prop)(b:Bool)(δ:En):Prop:=if b=true then t δ R else u δ R
def dIfE(c:TDT)(t u:FQ)(δ:En)(R:W->En->Prop):Prop:=c δ (kIE t u R)
section
variable {X:Cx} {pos:Pos} {a b c:Expr} {ta tb:FQ} {t:TDA} {f:List D→(D→Prop)→Prop} {es:List Expr}
def ak(i:Nat){x:Str}(hN:X.N[i]?=some x:=by rfl)(hv:Vis X.env.scope x:=by walk_at "v3")(hd:(x==("__debug__":Str))=false:=by decide)
  (hcd:(x==("__classdict__":Str))=false:=by decide):DE X (.Name x pos) (dV i):=PE.imp (dJ hN hv hd hcd) λσ H Q ⟨G,δ,P,R,s,h,k,_⟩=>by
 replace h:=qD.ex h;obtain⟨d,e,h⟩:=h;obtain⟨v,q,s'⟩:=s.dat e;exact⟨v,q,k d δ h v H s'⟩
def de_c(h:PE X a (tC v))(hs:sc d=some v):DE X a (dC d):=PE.imp h λσ H Q ⟨G,δ,P,R,s,r,k,_⟩=>k d δ r v H (s.sc hs)
def am{i j pos}:DE X (.Constant (.int i) j pos) (dC (.int i)):=de_c xK rfl
def rq{i j pos}:DE X (.Constant (.bool i) j pos) (dC (.bl i)):=de_c D6 rfl
def gA{j pos}:DE X (.Constant .none j pos) (dC .non):=de_c CB rfl
def au{x j pos}:DE X (.Constant (.str x) j pos) (dC (.str x)):=de_c uQ rfl
def ax{op:Operator}(ho:FH X (binaryOp op) λx y=>aU X.K f [x,y])(ha:DE X a ta)(hb:DE X b tb):DE X (.BinOp a op b pos) (dOp f ta tb) :=
 PE.imp (Ed ho ha hb) λσ H Q ⟨G,δ,P,R,s,h,k,_⟩=>up.mk s h λx δ1 h1 v H1 s1=>up.mk s1 h1 λy δ2 h2 u H2 s2 =>
  S.pure (P':=P) (ds:=[x,y]) (vs:=[v,u]) s2 rfl (by simp) (λp hp=>by simp[hp]) h2 λd r v' H' s'=>k d δ2 r v' H' s'
def cK{op:CmpOp}(ho:FH X (compareOp op) λx y=>aU X.K f [x,y])(ha:DE X a ta)(hb:DE X b tb)(hm:behindInMarks op b=false):DE X (.Compare a [op] [b] pos) (dOp f ta tb) :=
 PE.imp (Ar ho ha hb hm) λσ H Q ⟨G,δ,P,R,s,h,k,_⟩=>up.mk s h λx δ1 h1 v H1 s1=>up.mk s1 h1 λy δ2 h2 u H2 s2 =>
  S.pure (P':=P) (ds:=[x,y]) (vs:=[v,u]) s2 rfl (by simp) (λp hp=>by simp[hp]) h2 λd r v' H' s'=>k d δ2 r v' H' s'
def aC{op:CmpOp}(ho:FH X (compareOp op) λx y=>aU X.K f [x,y])(ha:DE X a ta)(hb:DE X b tb)(hm:behindInMarks op b=false):DT X (.Compare a [op] [b] pos) (dTst (dOp f ta tb)) :=
 PT.imp (y6 ho ha hb hm) λσ H Q ⟨G,δ,P,R,s,h,k⟩=>up.mk s h λx δ1 h1 v H1 s1=>up.mk s1 h1 λy δ2 h2 u H2 s2 =>
  S.pure (P':=P) (ds:=[x,y]) (vs:=[v,u]) s2 rfl (by simp) (λp hp=>by simp[hp]) h2 λd r v' H' s'=>by
   replace r:=qB.ex r;obtain⟨b,e,r⟩:=r;subst e;have q:=s';obtain⟨A,q⟩:=q;have q2:=q.pnd (.bl b,v') (by simp);simp only[Fr] at q2;exact⟨b,q2,k b δ2 r H' (s'.sub λp hp=>by simp[hp])⟩
def wy{op:UnaryOp}(ho:UnR X (unaryOp op) λx=>aU X.K f [x])(ha:DE X a ta):DE X (.UnaryOp op a pos) (dUn f ta) :=
 PE.imp (ER ho ha) λσ H Q ⟨G,δ,P,R,s,h,k,_⟩=>up.mk s h λx δ1 h1 v H1 s1 =>
  S.pure (P':=P) (ds:=[x]) (vs:=[v]) s1 rfl (by simp) (λp hp=>by simp[hp]) h1 λd r v' H' s'=>k d δ1 r v' H' s'
def bQ(h:DE X a ta)(he:∀whole,isTrue a X.env whole=(do let v<-whole;standAt a.pos;holding [v] (truthy v)):=by intro _;rfl):DT X a (dTst ta) :=
 PT.imp (CP h he) λσ H Q ⟨G,δ,P,R,s,h,k⟩=>up.mk s h λx δ1 h1 v H1 s1=>by
  replace h1:=qB.ex h1;obtain⟨b,e,r⟩:=h1;subst e;obtain⟨A,q⟩:=id s1;have q2:=q.pnd (.bl b,v) (by simp);simp only[Fr] at q2;exact⟨b,q2,k b δ1 r H1 (s1.sub λp hp=>by simp[hp])⟩
variable {tA tB':TDT} {du:List Expr}
def DW.dt(h:DW X a tA):DT X a tA:=PW.pt h
def eE(ha:DT X a tA):DW X (.BoolOp .And [a] pos) tA:=zG ha
def gB(ha:DT X a tA):DW X (.BoolOp .Or [a] pos) tA:=CZ ha
def fi(ha:DT X a tA)(hb:DW X (.BoolOp .And (b::du) pos) tB'):DW X (.BoolOp .And (a::b::du) pos) (dAnd tA tB') :=
 PW.imp (C3 ha hb) λσ H Q ⟨G,δ,P,R,s,h,k⟩=>⟨G,δ,P,_,s,h,λb δ1 h1 H1 s1=>by
  cases b with
  | true=>exact⟨G,δ1,P,R,s1,h1,k⟩
  | false=>exact k false δ1 h1 H1 s1⟩
def jv(ha:DT X a tA)(hb:DW X (.BoolOp .Or (b::du) pos) tB'):DW X (.BoolOp .Or (a::b::du) pos) (dOr tA tB') :=
 PW.imp (DJ ha hb) λσ H Q ⟨G,δ,P,R,s,h,k⟩=>⟨G,δ,P,_,s,h,λb δ1 h1 H1 s1=>by
  cases b with
  | true=>exact k true δ1 h1 H1 s1
  | false=>exact⟨G,δ1,P,R,s1,h1,k⟩⟩
def jA(ha:DT X a tA):DT X (.UnaryOp .Not a pos) (dNot tA) :=
 PT.imp (Dh ha) λσ H Q ⟨G,δ,P,R,s,h,k⟩=>⟨G,δ,P,_,s,h,λb δ1 h1 H1 s1=>k _ δ1 h1 H1 s1⟩
def sI{K:PySem.W.Frag}{δ:En}{b:Bool}(s:S K G δ ((.bl b,v)::P) σ H):v=.bl b:=by
 obtain⟨A,q⟩:=s;have q2:=q.pnd (.bl b,v) (by simp);simpa only[Fr] using q2
def d9{op}(h:DE X a ta):DE X (.BoolOp op [a] pos) ta:=Ds h
def j8(ha:DE X a ta)(hb:DE X (.BoolOp .And (b::du) pos) tb):DE X (.BoolOp .And (a::b::du) pos) (CY ta tb) :=
 PE.imp (C6 ha hb) λσ H Q ⟨G,δ,P,R,s,h,k,k2⟩=>up.mk s h λx δ1 h1 v H1 s1=>by
  replace h1:=qB.ex h1;obtain⟨b,e,r⟩:=h1;subst e;refine⟨b,sI s1,?_⟩
  cases b with
  | true=>exact⟨G,δ1,P,R,s1.sub λp hp=>by simp[hp],r,k,k2⟩
  | false=>exact k (.bl false) δ1 r _ H1 (by rw[<- sI s1];exact s1)
def vx(ha:DE X a ta)(hb:DE X (.BoolOp .Or (b::du) pos) tb):DE X (.BoolOp .Or (a::b::du) pos) (dOrV ta tb) :=
 PE.imp (Ex ha hb) λσ H Q ⟨G,δ,P,R,s,h,k,k2⟩=>up.mk s h λx δ1 h1 v H1 s1=>by
  replace h1:=qB.ex h1;obtain⟨b,e,r⟩:=h1;subst e;refine⟨b,sI s1,?_⟩
  cases b with
  | false=>exact⟨G,δ1,P,R,s1.sub λp hp=>by simp[hp],r,k,k2⟩
  | true=>exact k (.bl true) δ1 r _ H1 (by rw[<- sI s1];exact s1)
def o8(ha:DE X a ta):DE X (.UnaryOp .Not a pos) (BL ta) :=
 PE.imp (Co ha) λσ H Q ⟨G,δ,P,R,s,h,k,k2⟩=>up.mk s h λx δ1 h1 v H1 s1=>by
  replace h1:=qB.ex h1;obtain⟨b,e,r⟩:=h1;subst e;exact⟨b,sI s1,k _ δ1 r _ H1 ((s1.sub λp hp=>by simp[hp]).sc rfl)⟩
def uT(hc:DT X c tA)(ha:DE X a ta)(hb:DE X b tb):DE X (.IfExp c a b pos) (dIfE tA ta tb) :=
 PE.imp (vt hc ha hb) λσ H Q ⟨G,δ,P,R,s,h,k,k2⟩=>⟨G,δ,P,_,s,h,λb δ1 h1 H1 s1=>by
  cases b with
  | true=>exact⟨G,δ1,P,R,s1,h1,k,k2⟩
  | false=>exact⟨G,δ1,P,R,s1,h1,k,k2⟩⟩
def ae:DA X [] Bq:=PA.imp eB λσ H Q ⟨G,δ,P,R,s,h,k⟩=>k [] δ h [] H rfl s
def ac(ha:DE X a ta)(hr:DA X es t)(hs:starEach (a::es) X.env=(false,eval a X.env)::starEach es X.env:=by rfl):DA X (a::es) (xC ta t) :=
 PA.imp (bC ha hr hs) λσ H Q ⟨G,δ,P,R,s,h,k⟩=>up.mk s h λx δ1 h1 v H1 s1=>⟨G,δ1,(x,v)::P,_,s1,h1,λds δ2 h2 vs H2 hl s2 =>
  k (x::ds) δ2 h2 (v::vs) H2 (by simp[hl]) (s2.sub λp hp=>by
   simp only[List.zip_cons_cons,List.cons_append,List.mem_cons,List.mem_append] at hp ⊢
   rcases hp with h | h | h
   ·exact .inr (.inl h)
   ·exact .inl h
   ·exact .inr (.inr h))⟩
def aG{p:Addr}(h:H p=none)(o:HO):bY H (FI H p o):=λb u q=>by rw[aI (cy q h)];exact q
def jt(h:n<=9000):n<sizeLine:=Ia h (by decide)
def dY(h:n<=9000):n<=sizeLine:=HA (jt h)
def aH{x1}(h:DA X es t):DE X (.Tuple es x1 pos) (dTup t) :=
 PE.imp (Dg h) λσ H Q ⟨G,δ,P,R,s,h,k,_⟩=>⟨G,δ,P,_,s,h,λds δ1 h9 vs H1 hl s1=>⟨by rw[<- hl];exact dY (q9.ex h9).1,λp hp=>by
  have h1:=(q9.ex h9).2
  obtain⟨A,x⟩:=s1;have r:=x.reps ds vs hl (λq hq=>FZ _ hq);have x2:=x.same (aG hp (.tup vs));refine k (.tup ds) δ1 h1 (.ref p) _ ⟨A,(x2.sub λq hq=>F5 _ hq).push ?_⟩;unfold Fr
  exact⟨p,vs,rfl,Fv.of aF,Reps.kp (Kp.of_same (aG hp _)) _ _ r⟩⟩⟩
def a6(h:DA X es t):DE X (.List es pos) (dLst t) :=
 PE.imp (ul h) λσ H Q ⟨G,δ,P,R,s,h,k,_⟩=>⟨G,δ,P,_,s,h,λds δ1 h9 vs H1 hl s1=>⟨by rw[<- hl];exact dY (q9.ex h9).1,λp hp=>by
  have h1:=(q9.ex h9).2
  obtain⟨A,x⟩:=s1;have r:=x.reps ds vs hl (λq hq=>FZ _ hq);have x2:=x.same (aG hp (.lst vs));refine k (.lst ds) δ1 h1 (.ref p) _ ⟨A,(x2.sub λq hq=>F5 _ hq).push ?_⟩;unfold Fr
  exact⟨p,vs,rfl,λz=>x.mem p z hp,aF,Reps.kp (Kp.of_same (aG hp _)) _ _ r⟩⟩⟩
def dW(hr:IxR X λx y=>aU X.K f [x,y])(ha:DE X a ta)(hb:DE X b tb)(hs:uN b):DE X (.Subscript a b pos) (dOp f ta tb) :=
 PE.imp (Ev hr ha hb hs) λσ H Q ⟨G,δ,P,R,s,h,k,_⟩=>up.mk s h λx δ1 h1 v H1 s1=>up.mk s1 h1 λy δ2 h2 u H2 s2 =>
  S.pure (P':=P) (ds:=[x,y]) (vs:=[v,u]) s2 rfl (by simp) (λp hp=>by simp[hp]) h2 λd r v' H' s'=>k d δ2 r v' H' s'
def Fh(K:PySem.W.Frag)(f:List D->(D->Prop)->Prop):Sp:=λvs H Q _=>aU K f vs H Q
def kt{K:PySem.W.Frag}{Q:VK}{f:List D->(D->Prop)->Prop}(h:up K (rR f t) σ H Q):upA K t σ H λvs H1=>aU K f vs H1 Q:=by
 obtain⟨G,δ,P,R,s,h,k,_⟩:=h;exact⟨G,δ,P,_,s,h,λds δ1 h1 vs H1 hl s1=>S.pure (P':=P) s1 hl (λp hp=>FZ _ hp) (λp hp=>F5 _ hp) h1 λd r v' H' s'=>k d δ1 r v' H' s'⟩
def AM{x:Str}{k:Nat}{g:Addr}{fd:FuncData}{ps:List Str}(F:kF X.prog X.w X.K X.mg X.base CX0 k g fd ps (Fh X.K f))(hr:fQ k X.A)(hg:Gl X x)(hm:X.mg x=some (.ref g))(hk:PySem.W.keepIn X.K (.ref g)=true)
  (hb:mj X.K fd ps []) (ha:DA X (a::es) t) (hdb:(x==("__debug__":Str))=false:=by decide) (he:starEach (a::es) X.env=(false,eval a X.env)::starEach es X.env:=by rfl) (hpl:(backTo pos (starEach es X.env)).any (·.1)=false:=by rfl) :
  DE X (.Call (.Name x p) (a::es) [] pos) (rR f t) :=
 PE.imp (kU F hr hg hm hk hb .nil wa ha hdb he hpl) λσ H Q h=>by
  show upA X.K t σ H λvs H1=>aU X.K f (vs++[]) H1 Q
  have q:=kt h
  simpa only[List.append_nil] using q
def aJ{x:Str}{id:String}(hc:bP X (.builtin id) (aU X.K f))(hg:Gl X x)(hm:X.mg x=none)(hv:bootBuiltins x=some (.builtin id))(ha:DA X (a::es) t)(hn:x≠"__name__":=by decide)(hdb:(x==("__debug__":Str))=false:=by decide)
  (he:starEach (a::es) X.env=(false,eval a X.env)::starEach es X.env:=by rfl) (hpl:(backTo pos (starEach es X.env)).any (·.1)=false:=by rfl):DE X (.Call (.Name x p) (a::es) [] pos) (rR f t) :=
 PE.imp (kT hc hg hm hv ha hn hdb he hpl) λσ H Q h=>kt h
def cX{x:Str}{T:String}(hc:bP X (.type T) (aU X.K f))(hg:Gl X x)(hm:X.mg x=none)(hv:bootBuiltins x=some (.type T))(ha:DA X (a::es) t)(hn:x≠"__name__":=by decide)(hdb:(x==("__debug__":Str))=false:=by decide)
  (he:starEach (a::es) X.env=(false,eval a X.env)::starEach es X.env:=by rfl) (hpl:(backTo pos (starEach es X.env)).any (·.1)=false:=by rfl):DE X (.Call (.Name x p) (a::es) [] pos) (rR f t) :=
 PE.imp (jg hc hg hm hv ha hn hdb he hpl) λσ H Q h=>kt h
end
def BC(R:a4)(δ:En):Prop:=R.nx δ
def dSeq(t u:TDS)(R:a4)(δ:En):Prop:=t { R with nx:=u R } δ
def Dn(t:FQ)(R:a4)(δ:En):Prop:=t δ λ_ δ1=>R.nx δ1
def kRe(R:a4):W->En->Prop:=wd λx δ1=>R.rt x δ1
def dRet(t:FQ)(R:a4)(δ:En):Prop:=t δ (kRe R)
def kIf(t u:En->Prop)(b:Bool)(δ:En):Prop:=if b=true then t δ else u δ
def dIf(c:TDT)(t u:TDS)(R:a4)(δ:En):Prop:=c δ (kIf (t R) (u R))
def sE(_:a4)(_:En):Prop:=False
def kSe(i:Nat)(R:a4):W->En->Prop:=wd λx δ1=>lH δ1 i (.dat x) R.nx
def dSet(i:Nat)(t:FQ)(R:a4)(δ:En):Prop:=t δ (kSe i R)
def kAs(g:TDG)(R:a4):W->En->Prop:=wd λx δ1=>g x δ1 R.nx
def dAsg(t:FQ)(g:TDG)(R:a4)(δ:En):Prop:=t δ (kAs g R)
def dL(i:Nat)(x:D)(δ:En)(R:En->Prop):Prop:=lH δ i (.dat x) R
def Ae(ds:List D)(δ:En)(R:En->Prop):Prop:=qN ds (R δ)
def r8(t:TDG)(u:ya)(ds:List D)(δ:En)(R:En->Prop):Prop:=qC ds λx r=>t x δ λδ1=>u r δ1 R
def ln(n:Nat)(t:ya)(d:D)(δ:En)(R:En->Prop):Prop:=qT d λxs=>rY xs n (t xs δ R)
def Bn(c:TDT)(tb:TDS)(R:a4)(δ:En):Prop:=∃(I:En->Prop) (μ:En->Nat),I δ/\∀δ,I δ->c δ (kIf (tb { R with nx:=λδ'=>I δ'/\μ δ'<μ δ,ct:=λδ'=>I δ'/\μ δ'<μ δ,bk:=R.nx,tp:=False }) R.nx)
def rD(t:FQ)(g:TDG)(tb:TDS)(R:a4)(δ:En):Prop:=t δ (wd λd δ1=>qL d λxs=>∃I:Nat->En->Prop,I 0 δ1 /\
 (∀i x δ',xs[i]?=some x->I i δ'->g x δ' (tb { R with nx:=I (i+1),ct:=I (i+1),bk:=R.nx,tp:=False }))/\∀δ',I xs.length δ'->R.nx δ')
def nY(t:FQ)(g:TDG)(tb:TDS)(R:a4)(δ:En):Prop:=t δ (wd λd δ1=>qT d λxs=>∃I:Nat->En->Prop,I 0 δ1 /\
 (∀i x δ',xs[i]?=some x->I i δ'->g x δ' (tb { R with nx:=I (i+1),ct:=I (i+1),bk:=R.nx,tp:=False }))/\∀δ',I xs.length δ'->R.nx δ')
def zI(t:TDA)(g:TDG)(tb:TDS)(R:a4)(δ:En):Prop:=t δ λds δ1=>qC ds λx r=>qN r <| qI x λj=>-(2 ^ 62)<=j/\j<2 ^ 62/\∃I:Nat->En->Prop,I 0 δ1 /\
 (∀i δ',i<j.toNat->I i δ'->g (.int i) δ' (tb { R with nx:=I (i+1),ct:=I (i+1),bk:=R.nx,tp:=False }))/\∀δ',I j.toNat δ'->R.nx δ'
section
variable {X:Cx} {pos:Pos} {a b c e tg:Expr} {ta:FQ} {tA:TDT} {t u:TDS} {st:Stmt} {du body:List Stmt} {g:TDG} {gs:ya} {tda:TDA}
def aD:DSs X [] BC:=PSs.imp yY λE σ H ⟨G,δ,P,R,s,h,k,_⟩=>k δ h σ H s
def ad(h1:DS X st t)(h2:DSs X du u):DSs X (st::du) (dSeq t u) :=
 PSs.imp (wc h1 h2) λE σ H ⟨G,δ,P,R,s,h,k1,k2,k3,k4⟩=>⟨G,δ,P,{ R with nx:=u R },s,h,λδ' h' σ' H' s'=>⟨G,δ',P,R,s',h',k1,k2,k3,k4⟩,k2,k3,k4⟩
def af(h1:DS X st t):DSs X [st] t:=zy h1
def tU(he:DE X e ta)(hs:swapsWith e none pos.line X.env=pure false:=by rfl):DS X (.Expr e pos) (Dn ta) :=
 PS.imp (nM he hs) λE σ H ⟨G,δ,P,R,s,h,k,_⟩=>⟨G,δ,P,_,s,h,λx δ1 h1 v H1 s1=>k δ1 h1 σ H1 (s1.sub λp hp=>by simp[hp]),λi δ1 h1 a d H1 s1 _=>k δ1 h1 σ H1 s1⟩
def av(he:DE X e ta):DS X (.Return (some e) pos) (dRet ta) :=
 PS.imp (se he) λE σ H ⟨G,δ,P,R,s,h,_,k,_⟩=>up.mk s h λx δ1 h1 v H1 s1=>k.1 x δ1 h1 v σ H1 s1
def aR{aa bb:List Stmt}(hc:DT X c tA)(ha:DSs X aa t)(hb:DSs X bb u):DS X (.If c aa bb pos) (dIf tA t u) :=
 PS.imp (D9 hc ha hb) λE σ H ⟨G,δ,P,R,s,h,k1,k2,k3,k4⟩=>⟨G,δ,P,_,s,h,λb δ1 h1 H1 s1=>by
  cases b with
  | true=>exact⟨G,δ1,P,R,s1,h1,k1,k2,k3,k4⟩
  | false=>exact⟨G,δ1,P,R,s1,h1,k1,k2,k3,k4⟩⟩
def ds_never:DS X st sE:=PS.imp wV λE σ H ⟨G,δ,P,R,s,h,_⟩=>h
def iE:DSs X du sE:=PSs.imp uC λE σ H ⟨G,δ,P,R,s,h,_⟩=>h
def ay(i:Nat){x:Str}{pos':Pos}(hN:X.N.Nodup)(he:DE X e ta)(hi:X.N[i]?=some x:=by rfl)(hx:Loc X.env.scope x:=by walk_at "v2")(hs:swapsWith e (some (.Name x pos')) pos.line X.env=pure false:=by rfl)
  (hf:X.fn x=true\/X.env.scope.names.lookup x=some .local :=by walk_at "v1"):DS X (.Assign [.Name x pos'] e pos) (dSet i ta) :=
 PS.imp (mD hN hi hx he hs hf) λE σ H ⟨G,δ,P,R,s,h,k,_⟩=>up.mk s h λx δ1 h1 v H1 s1=>k _ h1 _ H1 (s1.set (by simp) λp hp=>by simp[hp])
def xy(he:DE X e ta)(hg:DG X tg g)(hs:swapsWithSole [tg] e pos.line X.env=pure false:=by rfl)(hw:swappedStores [tg] e X.env=pure none:=by rfl)
  (h1:(assignEach [tg] X.env).map (·.2)=[assign tg X.env]:=by rfl):DS X (.Assign [tg] e pos) (dAsg ta g) :=
 PS.imp (Bu he hg hs hw h1) λE σ H ⟨G,δ,P,R,s,h,k,_⟩=>up.mk s h λx δ1 h1 v H1 s1=>⟨G,δ1,P,x,R.nx,s1,h1,k⟩
def ar(i:Nat){x:Str}(hN:X.N.Nodup)(hi:X.N[i]?=some x:=by rfl)(hx:Loc X.env.scope x:=by walk_at "v2")(hf:X.fn x=true\/X.env.scope.names.lookup x=some .local :=by walk_at "v1") :
  DG X (.Name x pos) (dL i):=PG.imp (Ba hN hi hx hf) λv σ H Q ⟨G,δ,P,d,R,s,h,k⟩=>k _ h _ H (s.set (by simp) λp hp=>by simp[hp])
def bf:DGs X [] Ae:=PGs.imp Bf λvs σ H Q ⟨G,δ,P,ds,R,hl,s,h,k⟩=>by
 replace h:=qN.ex h;obtain⟨e,h⟩:=h;subst e;have:vs=[]:=Hb.mp hl.symm;subst this;exact⟨rfl,k δ h σ H s⟩
def aB(h1:DG X e g)(h2:DGs X es gs)(hs:(assignEach (e::es) X.env).map (·.2)=assign e X.env::(assignEach es X.env).map (·.2):=by rfl):DGs X (e::es) (r8 g gs) :=
 PGs.imp (wH h1 h2 hs) λvs σ H Q ⟨G,δ,P,ds,R,hl,s,h,k⟩=>by
  replace h:=qC.ex h;obtain⟨x,r,e,h⟩:=h;subst e
  cases vs with
  | nil=>cases hl
  | cons v vs =>
   refine⟨v,vs,rfl,G,δ,r.zip vs++P,x,_,s.sub λp hp=>by simpa using hp,h,λδ1 h1 σ1 H1 s1=>⟨G,δ1,P,r,R,HD hl,s1,h1,k⟩⟩
def cj{kk:Nat}(hc:X.calm=true)(h:DGs X es gs)(hn:(assignEach es X.env).length=n:=by rfl)(hst:(assignEach es X.env).findIdx? (·.1)=none:=by rfl):DG X (.Tuple es kk pos) (ln n gs) :=
 PG.imp (Bz hc h hn hst) λv σ H Q ⟨G,δ,P,d,R,s,h,k⟩=>by
  replace h:=qT.ex h;obtain⟨xs,e,h⟩:=h;replace h:=rY.ex h;obtain⟨hl,h⟩:=h;subst e;obtain⟨A,x⟩:=s;have q:=x.pnd (.tup xs,v) (by simp);simp only[Fr] at q;obtain⟨a,vs,e,sq,r⟩:=q;subst e;refine⟨a,vs,rfl,sq,by rw[<- Reps.length _ _ r];exact hl,G,δ,P,xs,R,Reps.length _ _ r,⟨A,?_⟩,h,k⟩
  exact⟨x.old,x.stay,x.m0,x.pm,x.new,x.thr,x.len,x.dat,x.own,x.inj,λp hp=>by
   rcases F9.mp hp with hp | hp
   ·obtain⟨i,hi,e⟩:=List.mem_iff_getElem.mp hp;have h1:i<xs.length:=by rw[G7] at hi;omega
    have h2:i<vs.length:=by rw[G7] at hi;omega
    obtain⟨v',e',r'⟩:=Reps.get _ _ r i xs[i] (by simp[h1]);have:p=(xs[i],vs[i]):=by rw[<- e,List.getElem_zip]
    rw[this];rw[List.getElem?_eq_getElem h2] at e'
    cases e'
    exact r'
   ·exact x.pnd p (by simp[hp])⟩
def wY(hp:PassesOwn (model X.prog X.w) X.A X.env X.xe)(hc:DT X c tA)(hb:DSs X body t):DS X (.While c body [] pos) (Bn tA t) :=
 PS.imp (wO hp hc hb) λE σ H ⟨G,δ,P,R,s,⟨I,μ,i0,turn⟩,k1,k2,k3,k4⟩=>by
  refine⟨λm σ H=>∃δ,m=μ δ/\I δ/\S X.K G δ P σ H,⟨_,δ,rfl,i0,s⟩,?_⟩;rintro m σ H ⟨δ,rfl,i,s⟩;refine⟨G,δ,P,_,s,turn δ i,λb δ1 h1 H1 s1=>?_⟩
  cases b with
  | false=>exact k1 δ1 h1 σ H1 s1
  | true =>
   refine⟨λσ' H'=>∃δ',(I δ'/\μ δ'<μ δ)/\S X.K G δ' P σ' H',λσ' H' ⟨δ',⟨i',l⟩,s'⟩=>⟨_,l,δ',rfl,i',s'⟩,?_⟩;exact⟨G,δ1,P,_,s1,h1,λδ' h' σ' H' s'=>⟨δ',h',s'⟩,k2,k1,λδ' h' σ' H' s'=>⟨δ',h',s'⟩,λz=>z.elim⟩
def bH(hp:PassesOwn (model X.prog X.w) X.A X.env X.xe)(hc:X.calm=true)(hi:DE X e ta)(hg:DG X tg g)(hb:DSs X body t)(hs:∀x,foldedSetIterable e X.env x=pure x:=by intro _;rfl):DS X (.For tg e body [] pos) (rD ta g t) :=
 PS.imp (pv hp hc (uK hi) hg hb hs) λE σ H ⟨G,δ,P,R,s,h,k1,k2,k3,k4⟩=>up.mk s h λd δ1 h1 v H1 s1=>by
  replace h1:=qL.ex h1;obtain⟨xs,e,I,i0,turn,fin⟩:=h1;subst e;have hat:∀δ σ H,S X.K G δ ((.lst xs,v)::P) σ H->∃a vs,v=.ref a/\FA X.K H a vs/\vs.length=xs.length:=λδ σ H ⟨A,x⟩=>by
   have q:=x.pnd (.lst xs,v) (by simp)
   simp only[Fr] at q;obtain⟨a,vs,e,_,l,r⟩:=q;exact⟨a,vs,e,FA.of l,(Reps.length _ _ r).symm⟩
  have hev:∃a vs,v=.ref a/\FA X.K H1 a vs/\vs.length=xs.length:=hat _ _ _ s1
  obtain⟨a,vs0,rfl,hsq,hl0⟩:=hev;refine⟨a,rfl,⟨vs0,hsq⟩,λi m σ H=>m=xs.length-i/\i<=xs.length/\∃δ,I i δ/\S X.K G δ ((.lst xs,.ref a)::P) σ H,⟨xs.length,by simp,G5 _,δ1,i0,s1⟩,?_⟩;rintro i m σ H ⟨rfl,hi,δ',ii,s'⟩;obtain⟨A,x⟩:=id s';have q:=x.pnd (.lst xs,.ref a) (by simp);simp only[Fr] at q;obtain⟨a',vs,e,_,l,r⟩:=q
  cases e
  have l:FA X.K H a vs:=FA.of l
  have hl:xs.length=vs.length:=Reps.length _ _ r
  by_cases hlt:i<xs.length
  ·obtain⟨v',e',r'⟩:=Reps.get _ _ r i xs[i] (by simp[hlt]);refine .inr ⟨⟨vs,v',l,e'⟩,λσ' H'=>∃δ',I (i+1) δ'/\S X.K G δ' ((.lst xs,.ref a)::P) σ' H',λσ' H' ⟨δ',p',s'⟩=>⟨xs.length-(i+1),by omega,rfl,hlt,δ',p',s'⟩,λy H' hy=>?_⟩;obtain⟨e,hy⟩:=hy;subst e;have:some y=some v':=(hy vs l).symm.trans e'
   cases this
   refine⟨G,δ',(.lst xs,.ref a)::P,xs[i],_,⟨A,x.push r'⟩,turn i xs[i] δ' (by simp[hlt]) ii,λδ2 h2 σ2 H2 s2=>?_⟩
   refine⟨G,δ2,(.lst xs,.ref a)::P,_,s2,h2,λδ3 h3 σ3 H3 s3=>⟨δ3,h3,s3⟩,⟨λd δ3 h3 v3 σ3 H3 s3=>k2.1 d δ3 h3 v3 σ3 H3 (s3.sub λp hp=>by
    rcases F7.mp hp with rfl | hp
    ·simp
    ·simp[hp]),k2.2.1,exs k2.2.2⟩,λδ3 h3 σ3 H3 s3=>k1 δ3 h3 σ3 H3 (s3.sub λp hp=>by simp[hp]),λδ3 h3 σ3 H3 s3=>⟨δ3,h3,s3⟩,λz=>z.elim⟩
  ·have e:i=xs.length:=by omega
   subst e;exact .inl ⟨⟨vs,l,by omega⟩,k1 δ' (fin δ' ii) σ H (s'.sub λp hp=>by simp[hp])⟩
def gm(hp:PassesOwn (model X.prog X.w) X.A X.env X.xe)(hc:X.calm=true)(hi:DE X e ta)(hg:DG X tg g)(hb:DSs X body t)(hs:∀x,foldedSetIterable e X.env x=pure x:=by intro _;rfl):DS X (.For tg e body [] pos) (nY ta g t) :=
 PS.imp (pv hp hc (yb hi) hg hb hs) λE σ H ⟨G,δ,P,R,s,h,k1,k2,k3,k4⟩=>up.mk s h λd δ1 h1 v H1 s1=>by
  replace h1:=qT.ex h1;obtain⟨xs,e,I,i0,turn,fin⟩:=h1;subst e;have hat:∀δ σ H,S X.K G δ ((.tup xs,v)::P) σ H->∃a vs,v=.ref a/\Fv X.K H a vs/\vs.length=xs.length:=λδ σ H ⟨A,x⟩=>by
   have q:=x.pnd (.tup xs,v) (by simp)
   simp only[Fr] at q;obtain⟨a,vs,e,l,r⟩:=q;exact⟨a,vs,e,l,(Reps.length _ _ r).symm⟩
  have hev:∃a vs,v=.ref a/\Fv X.K H1 a vs/\vs.length=xs.length:=hat _ _ _ s1
  obtain⟨a,vs0,rfl,hsq,hl0⟩:=hev;refine⟨a,rfl,⟨vs0,hsq⟩,λi m σ H=>m=xs.length-i/\i<=xs.length/\∃δ,I i δ/\S X.K G δ ((.tup xs,.ref a)::P) σ H,⟨xs.length,by simp,G5 _,δ1,i0,s1⟩,?_⟩;rintro i m σ H ⟨rfl,hi,δ',ii,s'⟩;obtain⟨A,x⟩:=id s';have q:=x.pnd (.tup xs,.ref a) (by simp);simp only[Fr] at q;obtain⟨a',vs,e,l,r⟩:=q
  cases e
  have hl:xs.length=vs.length:=Reps.length _ _ r
  by_cases hlt:i<xs.length
  ·obtain⟨v',e',r'⟩:=Reps.get _ _ r i xs[i] (by simp[hlt]);refine .inr ⟨⟨vs,v',l,e'⟩,λσ' H'=>∃δ',I (i+1) δ'/\S X.K G δ' ((.tup xs,.ref a)::P) σ' H',λσ' H' ⟨δ',p',s'⟩=>⟨xs.length-(i+1),by omega,rfl,hlt,δ',p',s'⟩,λy H' hy=>?_⟩;obtain⟨e,hy⟩:=hy;subst e;have:some y=some v':=(hy vs l).symm.trans e'
   cases this
   refine⟨G,δ',(.tup xs,.ref a)::P,xs[i],_,⟨A,x.push r'⟩,turn i xs[i] δ' (by simp[hlt]) ii,λδ2 h2 σ2 H2 s2=>?_⟩
   refine⟨G,δ2,(.tup xs,.ref a)::P,_,s2,h2,λδ3 h3 σ3 H3 s3=>⟨δ3,h3,s3⟩,⟨λd δ3 h3 v3 σ3 H3 s3=>k2.1 d δ3 h3 v3 σ3 H3 (s3.sub λp hp=>by
    rcases F7.mp hp with rfl | hp
    ·simp
    ·simp[hp]),k2.2.1,exs k2.2.2⟩,λδ3 h3 σ3 H3 s3=>k1 δ3 h3 σ3 H3 (s3.sub λp hp=>by simp[hp]),λδ3 h3 σ3 H3 s3=>⟨δ3,h3,s3⟩,λz=>z.elim⟩
  ·have e:i=xs.length:=by omega
   subst e;exact .inl ⟨⟨vs,l,by omega⟩,k1 δ' (fin δ' ii) σ H (s'.sub λp hp=>by simp[hp])⟩
def kn{pos':Pos}(hp:PassesOwn (model X.prog X.w) X.A X.env X.xe)(hc:X.calm=true)(hgl:Gl X "range")(hm:X.mg "range"=none)(ha:DA X [a] tda)(hg:DG X tg g)(hb:DSs X body t)
  (hse:starEach [a] X.env=[(false,eval a X.env)]:=by rfl) (hs:∀x,foldedSetIterable (.Call (.Name "range" p) [a] [] pos') X.env x=pure x:=by intro _;rfl) :
  DS X (.For tg (.Call (.Name "range" p) [a] [] pos') body [] pos) (zI tda g t) :=
 PS.imp (pv hp hc (mf hgl hm ha hse) hg hb hs) λE σ H ⟨G,δ,P,R,s,h,k1,k2,k3,k4⟩=>⟨G,δ,P,_,s,h,λds δ1 h1 vs H1 hl s1=>by
  replace h1:=qC.ex h1;obtain⟨x,r,e,h1⟩:=h1;replace h1:=qN.ex h1;obtain⟨e',h1⟩:=h1;replace h1:=qI.ex h1;obtain⟨j,e2,h1,h2,I,i0,turn,fin⟩:=h1;subst e2 e' e
  match vs,hl with
  | [v],_ =>
   have q:v=.int j:=by
    obtain⟨A,x⟩:=s1;have q:=x.pnd (.int j,v) (by simp);simpa only[Fr] using q
   subst q;have s2:S X.K G δ1 P σ H1:=s1.sub λp hp=>by simp[hp]
   refine⟨j,rfl,h1,h2,uE (lo:=0) (n:=j.toNat) (λi σ H=>∃δ,I i δ/\S X.K G δ P σ H) ⟨δ1,i0,s2⟩ (λi σ H hi ⟨δ',ii,s'⟩=>?_) λσ H ⟨δ',ii,s'⟩=>k1 δ' (fin δ' ii) σ H s'⟩;refine⟨G,δ',P,.int (0+i),_,s'.sc rfl,(by have q:=turn i δ' hi ii;rw[HE];exact q),λδ2 h2 σ2 H2 s2=>?_⟩
   exact⟨G,δ2,P,_,s2,h2,λδ3 h3 σ3 H3 s3=>⟨δ3,h3,s3⟩,k2,k1,λδ3 h3 σ3 H3 s3=>⟨δ3,h3,s3⟩,λz=>z.elim⟩⟩
end
end DL
namespace DL
open PySem PySem.Spec PyProof.Rows L2
variable {a:D} {vs:List V} {i:Int} {v:V} {g:Int→Int→D} {R:D→Prop} {C:Int→Int→Prop} {ds:List D}
section
variable {K:PySem.W.Frag} {M:Addr→Prop} {H:Hp}
def Bt{x:V}(h:Reps K M H [a] [x]):Fr K M H a x:=by
 unfold Reps at h;obtain⟨v,r,e,q,_⟩:=h
 cases e
 exact q
def cc{b:D}{x y:V}(h:Reps K M H [a,b] [x,y]):Fr K M H a x/\Fr K M H b y:=by
 unfold Reps at h;obtain⟨v,r,e,q,h⟩:=h
 cases e
 exact⟨q,Bt h⟩
def a9(h:Reps K M H [a] vs):∃x,vs=[x]/\Fr K M H a x:=by
 unfold Reps at h;obtain⟨v,r,e,q,h⟩:=h;unfold Reps at h;subst h;exact⟨v,e,q⟩
def k7{b:D}(h:Reps K M H [a,b] vs):∃x y,vs=[x,y]/\Fr K M H a x/\Fr K M H b y:=by
 unfold Reps at h;obtain⟨v,r,e,q,h⟩:=h;obtain⟨y,e2,q2⟩:=a9 h;subst e2;exact⟨v,y,e,q,q2⟩
def aM(h:Fr K M H (.int i) v):v=.int i:=by unfold Fr at h;exact h
def gG{i:Bool}(h:Fr K M H (.bl i) v):v=.bl i:=by unfold Fr at h;exact h
def bD{i:Str}(h:Fr K M H (.str i) v):v=.str i:=by unfold Fr at h;exact h
end
def fI0(g:Int->Int->D):List D->(D->Prop)->Prop
 | [.int i,.int j],R=>R (g i j)
 | _,_=>False
def fI(C:Int->Int->Prop)(g:Int->Int->D):List D->(D->Prop)->Prop
 | [.int i,.int j],R=>C i j/\R (g i j)
 | _,_=>False
def fU(g:Int->D):List D->(D->Prop)->Prop
 | [.int i],R=>R (g i)
 | _,_=>False
def Dv{a b:Int}:fI0 g [.int a,.int b] R=R (g a b):=rfl
def Ee{a b:Int}:fI C g [.int a,.int b] R=(C a b/\R (g a b)):=rfl
def E5{g:Int->D}{a:Int}:fU g [.int a] R=R (g a):=rfl
def Ce(h:fI0 g ds R):∃i j,ds=[.int i,.int j]/\R (g i j):=by
 unfold fI0 at h
 split at h
 ·exact⟨_,_,rfl,h⟩
 ·exact h.elim
def ES(h:fI C g ds R):∃i j,ds=[.int i,.int j]/\C i j/\R (g i j):=by
 unfold fI at h
 split at h
 ·exact⟨_,_,rfl,h⟩
 ·exact h.elim
def BJ{g:Int->D}(h:fU g ds R):∃i,ds=[.int i]/\R (g i):=by
 unfold fU at h
 split at h
 ·exact⟨_,rfl,h⟩
 ·exact h.elim
def CFd(_ j:Int):Prop:=j≠0/\j.natAbs.log2<9000
def CNz(_ j:Int):Prop:=j≠0
section
variable {X:Cx}
def wD{f:Value->Value->Sem Value}{g':Int->Int->V}(h:FH X f (rI0 g'))(hs:∀i j,sc (g i j)=some (g' i j)):FH X f λx y=>aU X.K (fI0 g) [x,y] :=
 FH.imp h λx y H Q ⟨M,ds,R,m,rs,hf,k⟩=>by
  obtain⟨i,j,e,r⟩:=Ce hf;subst e;obtain⟨h1,h2⟩:=cc rs;exact⟨i,j,aM h1,aM h2,k _ r _ H (bY.refl H) (Fr.sc (hs i j))⟩
def opI{f:Value->Value->Sem Value}{C':Int->Int->Prop}{g':Int->Int->V}(h:FH X f (rI C' g'))(hs:∀i j,sc (g i j)=some (g' i j))(hc:∀i j,C i j->C' i j):FH X f λx y=>aU X.K (fI C g) [x,y] :=
 FH.imp h λx y H Q ⟨M,ds,R,m,rs,hf,k⟩=>by
  obtain⟨i,j,e,c,r⟩:=ES hf;subst e;obtain⟨h1,h2⟩:=cc rs;exact⟨i,j,aM h1,aM h2,hc i j c,k _ r _ H (bY.refl H) (Fr.sc (hs i j))⟩
def Eo:FH X (binaryOp .Add) λx y=>aU X.K (fI0 λi j=>.int (i+j)) [x,y]:=wD Db λ_ _=>rfl
def gQ:FH X (binaryOp .Sub) λx y=>aU X.K (fI0 λi j=>.int (i-j)) [x,y]:=wD Dt λ_ _=>rfl
def zA:FH X (binaryOp .Mult) (rI IntMulOk λi j=>.int (i*j)):=L2.opI λ_ _ _ _ _ _ _ hc q=>mul_int q hc
def a5:FH X (binaryOp .Mult) λx y=>aU X.K (fI IntMulOk λi j=>.int (i*j)) [x,y]:=opI zA (λ_ _=>rfl) λ_ _ h=>h
def xk:FH X (binaryOp .FloorDiv) (rI CFd λi j=>.int (i.fdiv j)):=L2.opI λ_ _ _ _ _ _ _ hc q=>floordiv_int hc.1 q (.inl (PyProof.noPylong_of_log2 hc.2))
def dA:FH X (binaryOp .FloorDiv) λx y=>aU X.K (fI CFd λi j=>.int (i.fdiv j)) [x,y]:=opI xk (λ_ _=>rfl) λ_ _ h=>h
def eQ:FH X (binaryOp .Mod) λx y=>aU X.K (fI CNz λi j=>.int (i.fmod j)) [x,y]:=opI Ai (λ_ _=>rfl) λ_ _ h=>h
def wu:FH X (binaryOp .Pow) λx y=>aU X.K (fI CPow λi j=>.int (i ^ j.toNat)) [x,y]:=opI C2 (λ_ _=>rfl) λ_ _ h=>h
def zT:FH X (compareOp .Lt) λx y=>aU X.K (fI0 λi j=>.bl (decide (i<j))) [x,y]:=wD E1 λ_ _=>rfl
def o_le:FH X (compareOp .LtE) λx y=>aU X.K (fI0 λi j=>.bl (decide (i<=j))) [x,y]:=wD Eb λ_ _=>rfl
def vk:FH X (compareOp .Gt) λx y=>aU X.K (fI0 λi j=>.bl (decide (j<i))) [x,y]:=wD DH λ_ _=>rfl
def o_ge:FH X (compareOp .GtE) λx y=>aU X.K (fI0 λi j=>.bl (decide (j<=i))) [x,y]:=wD DZ λ_ _=>rfl
def v9:UnR X (unaryOp .USub) λx=>aU X.K (fU λi=>.int (-i)) [x] :=
 UnR.imp BF λx H Q ⟨M,ds,R,m,rs,hf,k⟩=>by
  obtain⟨i,e,r⟩:=BJ hf;subst e;exact⟨i,aM (Bt rs),k _ r _ H (bY.refl H) (Fr.sc rfl)⟩
def Es:bP X (.builtin "abs") (aU X.K (fU λi=>.int (if i<0 then -i else i))) :=
 bP.imp vJ λxs H Q ⟨M,ds,R,m,rs,hf,k⟩=>by
  obtain⟨i,e,r⟩:=BJ hf;subst e;obtain⟨x,e,q⟩:=a9 rs;subst e;exact⟨i,by rw[aM q],k _ r _ H (bY.refl H) (Fr.sc rfl)⟩
def Bg:List D->(D->Prop)->Prop
 | [.lst xs],R=>R (.int xs.length)
 | [.fz xs],R=>R (.int xs.length)
 | [.tup xs],R=>R (.int xs.length)
 | _,_=>False
def zv:∀ {d0:List D} {R:D->Prop},Bg d0 R->((∃(xs:List D),d0=[.lst xs]/\R (.int xs.length))\/(∃(xs:List D),d0=[.fz xs]/\R (.int xs.length))\/(∃(xs:List D),d0=[.tup xs]/\R (.int xs.length))):=by walk_at "or"
def fu:bP X (.builtin "len") (aU X.K Bg) :=
 bP.imp gI λxs H Q ⟨M,ds,R,m,rs,h,k⟩=>by
  have fin:∀n:Nat,R (.int n)->Q (.int n) H:=λn r=>k _ r _ H (bY.refl H) (Fr.sc rfl)
  replace h:=zv h
  rcases h with⟨_,rfl,h⟩ | ⟨_,rfl,h⟩ | ⟨_,rfl,h⟩
  ·obtain⟨x,e,q⟩:=a9 rs;unfold Fr at q;obtain⟨a,vs,e2,_,l,r⟩:=q;subst e e2;exact⟨a,vs,rfl,.inl (FA.of l),fin _ (by rw[<- Reps.length _ _ r];exact h)⟩
  ·obtain⟨x,e,q⟩:=a9 rs;unfold Fr at q;obtain⟨a,vs,e2,l,r⟩:=q;subst e e2;exact⟨a,vs,rfl,.inl l.seq,fin _ (by rw[<- Reps.length _ _ r];exact h)⟩
  ·obtain⟨x,e,q⟩:=a9 rs;unfold Fr at q;obtain⟨a,vs,e2,l,r⟩:=q;subst e e2;exact⟨a,vs,rfl,.inr l,fin _ (by rw[<- Reps.length _ _ r];exact h)⟩
def fInt:List D->(D->Prop)->Prop
 | [.int i],R=>R (.int i)
 | [.bl b],R=>R (.int (if b then 1 else 0))
 | _,_=>False
def AT:∀ {d0:List D} {R:D->Prop},fInt d0 R->((∃(i:Int),d0=[.int i]/\R (.int i))\/(∃(b:Bool),d0=[.bl b]/\R (.int (if b then 1 else 0)))):=by walk_at "or"
def EX:bP X (.type "int") (aU X.K fInt) :=
 bP.imp sC λxs H Q ⟨M,ds,R,m,rs,h,k⟩=>by
  replace h:=AT h
  rcases h with⟨_,rfl,h⟩ | ⟨_,rfl,h⟩
  ·obtain⟨x,e,q⟩:=a9 rs;subst e;exact .inl ⟨_,by rw[aM q],k _ h _ H (bY.refl H) (Fr.sc rfl)⟩
  ·obtain⟨x,e,q⟩:=a9 rs;subst e;exact .inr ⟨_,by rw[gG q],k _ h _ H (bY.refl H) (Fr.sc rfl)⟩
def FB(xs:List D):Int->(D->Prop)->Prop
 | .ofNat n,k=>qV xs[n]? k
 | .negSucc n,k=>qV (Fp xs (.negSucc n)) k
def sD{α:Type}{xs:List α}{n:Nat}:Fp xs (.ofNat n)=xs[n]?:=by
 have h0:(0:Int)<=Int.ofNat n:=Int.natCast_nonneg n
 unfold Fp ixN;rw[Gd h0]
 by_cases h:n<xs.length
 ·rw[Gd (show Int.ofNat n<(xs.length:Int) from Int.ofNat_lt.mpr h)];rfl
 ·rw[Gb (show ¬ Int.ofNat n<(xs.length:Int) from λz=>h (Int.ofNat_lt.mp z)),List.getElem?_eq_none (Nat.le_of_not_lt h)];rfl
def FB.ex{xs:List D}{k:D->Prop}(h:FB xs i k):∃v,Fp xs i=some v/\k v:=by
 cases i with
 | ofNat n=>rw[sD];exact qV.ex h
 | negSucc n=>exact qV.ex h
def FB.of{xs:List D}{k:D->Prop}{v:D}(e:Fp xs i=some v)(h:k v):FB xs i k:=by
 cases i with
 | ofNat n=>rw[sD] at e;exact qV.of e h
 | negSucc n=>exact qV.of e h
def fIx:List D->(D->Prop)->Prop
 | [.tup xs,.int i],R=>FB xs i R
 | [.lst xs,.int i],R=>FB xs i R
 | [.fz xs,.int i],R=>FB xs i R
 | [.str z,.int i],R=>z.length<=9000/\∃c,Fp z.cps.toList i=some c/\R (.str ⟨#[c]⟩)
 | _,_=>False
def CO{d0:List D}(h:fIx d0 R):(∃(xs:List D) (i:Int),d0=[.tup xs,.int i]/\∃v,Fp xs i=some v/\R v)\/(∃(xs:List D) (i:Int),d0=[.lst xs,.int i]/\∃v,Fp xs i=some v/\R v)\/(∃(xs:List D) (i:Int),d0=[.fz xs,.int i]/\∃v,Fp xs i=some v/\R v)\/(∃(z:Str) (i:Int),d0=[.str z,.int i]/\z.length<=9000/\∃c,Fp z.cps.toList i=some c/\R (.str ⟨#[c]⟩)):=by
 rcases d0 with _ | ⟨a,_ | ⟨b,_ | ⟨c,l⟩⟩⟩
 ·exact False.elim h
 ·cases a<;>exact False.elim h
 ·cases a<;>first | exact False.elim h | (cases b<;>first | exact False.elim h | exact .inl ⟨_,_,rfl,FB.ex h⟩ | exact .inr (.inl ⟨_,_,rfl,FB.ex h⟩) | exact .inr (.inr (.inl ⟨_,_,rfl,FB.ex h⟩)) | exact .inr (.inr (.inr ⟨_,_,rfl,h⟩)))
 ·cases a<;>first | exact False.elim h | (cases b<;>exact False.elim h)
def zg{α β:Type}{xs:List α}{ys:List β}(h:xs.length=ys.length){v:α}(e:Fp xs i=some v):∃j:Nat,xs[j]?=some v/\∀w,ys[j]?=some w->Fp ys i=some w:=by
 unfold Fp at e ⊢;rw[h] at e
 cases q:ixN ys.length i with
 | none=>rw[q] at e;cases e
 | some j=>rw[q] at e;exact⟨j,e,λw z=>z⟩
def dX:IxR X λx y=>aU X.K fIx [x,y] :=
 IxR.imp Bm λx y H Q ⟨M,ds,R,m,rs,h,k⟩=>by
  have fin:∀(xs:List D) (vs:List V) (i:Int) (d:D),Reps X.K M H xs vs->Fp xs i=some d->R d->∃v,Fp vs i=some v/\Q v H:=λxs vs i d r e q=>by
   obtain⟨j,h1,h2⟩:=zg (Reps.length _ _ r) e;obtain⟨v,e',r'⟩:=Reps.get _ _ r j d h1;exact⟨v,h2 v e',k d q v H (bY.refl H) r'⟩
  replace h:=CO h
  rcases h with⟨_,_,rfl,h⟩ | ⟨_,_,rfl,h⟩ | ⟨_,_,rfl,h⟩ | ⟨_,_,rfl,h⟩
  ·obtain⟨d,e,q⟩:=h;obtain⟨h1,h2⟩:=cc rs;unfold Fr at h1;obtain⟨a,vs,e2,l,r⟩:=h1;obtain⟨v,e3,q3⟩:=fin _ _ _ _ r e q;exact .inr (.inl ⟨a,vs,_,v,e2,aM h2,l,e3,q3⟩)
  ·obtain⟨d,e,q⟩:=h;obtain⟨h1,h2⟩:=cc rs;unfold Fr at h1;obtain⟨a,vs,e2,_,l,r⟩:=h1;obtain⟨v,e3,q3⟩:=fin _ _ _ _ r e q;exact .inl ⟨a,vs,_,v,e2,aM h2,FA.of l,e3,q3⟩
  ·obtain⟨d,e,q⟩:=h;obtain⟨h1,h2⟩:=cc rs;unfold Fr at h1;obtain⟨a,vs,e2,l,r⟩:=h1;obtain⟨v,e3,q3⟩:=fin _ _ _ _ r e q;exact .inl ⟨a,vs,_,v,e2,aM h2,l.seq,e3,q3⟩
  ·obtain⟨hz,c,e,q⟩:=h;obtain⟨h1,h2⟩:=cc rs;exact .inr (.inr ⟨_,_,c,bD h1,aM h2,dY hz,e,k _ q _ H (bY.refl H) (Fr.sc rfl)⟩)
def fCat:List D->(D->Prop)->Prop
 | [.lst xs,.lst ys],R=>xs.length+ys.length<=9000/\R (.lst (xs++ys))
 | _,_=>False
def zt:∀ {d0:List D} {R:D->Prop},fCat d0 R->∃(xs:List D) (ys:List D),d0=[.lst xs,.lst ys]/\xs.length+ys.length<=9000/\R (.lst (xs++ys)):=by walk_at "or"
def DQ:FH X (binaryOp .Add) λx y=>aU X.K fCat [x,y] :=
 FH.imp CF λx y H Q ⟨M,ds,R,m,rs,h,k⟩=>by
  replace h:=zt h;obtain⟨_,_,rfl,h⟩:=h
  ·obtain⟨hz,q⟩:=h;obtain⟨h1,h2⟩:=cc rs;unfold Fr at h1 h2;obtain⟨a,vs,e,_,l,r⟩:=h1;obtain⟨b,ws,e',_,l',r'⟩:=h2;refine⟨a,b,vs,ws,e,e',l,l',dY (by rw[<- Reps.length _ _ r,<- Reps.length _ _ r'];exact hz),λp hp=>k _ q _ _ (aG hp _) ?_⟩;unfold Fr;exact⟨p,vs++ws,rfl,λz=>m p z hp,aF,Reps.kp (Kp.of_same (aG hp _)) _ _ (Reps.append _ _ _ _ r r')⟩
def cut{α:Type}(xs:List α)(lo hi:Option Int):List α:=(xs.drop (HT.sIx xs.length 0 lo)).take (HT.sIx xs.length xs.length hi-HT.sIx xs.length 0 lo)
abbrev TDO:=En->(Option Int->En->Prop)->Prop
inductive UpO(K:PySem.W.Frag)(t:TDO)(σ:L2.St)(H:Hp)(Q:Option Int->Hp->Prop):Prop
 | mk (G:Gf) (δ:En) (P:List (D×V)) (R:Option Int->En->Prop) (s:S K G δ P σ H) (h:t δ R) (k:∀o δ',R o δ'->∀H',S K G δ' P σ H'->Q o H')
def upO(K:PySem.W.Frag)(t:TDO):TO:=UpO K t
def DO(X:Cx)(e:Option Expr)(t:TDO):Prop:=PO X e (upO X.K t)
def tG(δ:En)(R:Option Int->En->Prop):Prop:=R none δ
def Di(t:FQ)(δ:En)(R:Option Int->En->Prop):Prop:=t δ (wd λx δ1=>qI x λi=>R (some i) δ1)
def PO.imp{e:Option Expr}{t t':TO}(h:PO X e t)(i:∀σ H Q,t' σ H Q->t σ H Q):PO X e t':=λpins s σ H Q I q=>h pins s σ H Q I (i σ H Q q)
def iF:DO X none tG:=PO.imp yE λσ H Q ⟨G,δ,P,R,s,h,k⟩=>k none δ h H s
def dh{e:Expr}{te:FQ}(h:DE X e te):DO X (some e) (Di te):=PO.imp (AL h) λσ H Q ⟨G,δ,P,R,s,h,k⟩=>up.mk s h λx δ1 h1 v H1 s1=>by
 replace h1:=qI.ex h1;obtain⟨i,e,r⟩:=h1;subst e;obtain⟨A,q⟩:=id s1;exact⟨i,aM (q.pnd (.int i,v) (by simp)),k _ δ1 r H1 (s1.sub λp hp=>by simp[hp])⟩
def fSl:D->Option Int->Option Int->(D->Prop)->Prop
 | .lst xs,lo,hi,R=>R (.lst (cut xs lo hi))
 | .fz xs,lo,hi,R=>R (.lst (cut xs lo hi))
 | .tup xs,lo,hi,R=>¬ (HT.sIx xs.length 0 lo=0/\HT.sIx xs.length xs.length hi=xs.length)/\R (.tup (cut xs lo hi))
 | _,_,_,_=>False
def dSl(te:FQ)(tl th:TDO)(δ:En)(R:W->En->Prop):Prop:=te δ (wd λx δ1=>tl δ1 λl δ2=>th δ2 λu δ3=>fSl x l u λd=>R (.d d) δ3)
def Reps.cut{K:PySem.W.Frag}{M:Addr->Prop}{H:Hp}(lo hi:Option Int)(r:Reps K M H ds vs):Reps K M H (DL.cut ds lo hi) (sB vs lo hi):=by
 unfold DL.cut sB;rw[Reps.length _ _ r];exact Reps.take _ _ _ (Reps.drop _ _ _ r)
def iI{e:Expr}{te:FQ}{lo hi:Option Expr}{tl th:TDO}{p2 pos:Pos}(he:DE X e te)(hl:DO X lo tl)(hu:DO X hi th):DE X (.Subscript e (.Slice lo hi none p2) pos) (dSl te tl th) :=
 PE.imp (w9 (zq.or C1) he hl hu) λσ H Q ⟨G,δ,P,R,s,h,k,_⟩=>up.mk s h λx δ1 h1 v H1 s1=>⟨G,δ1,(x,v)::P,_,s1,h1,λl δ2 h2 H2 s2=>⟨G,δ2,(x,v)::P,_,s2,h2,λu δ3 h3 H3 s3=>by
  obtain⟨A,q⟩:=id s3;have r:=q.pnd (x,v) (by simp)
  cases x with
  | lst xs =>
   have h3:R (.d (.lst (cut xs l u))) δ3:=h3
   simp only[Fr] at r;obtain⟨a,vs,e,_,sq,r⟩:=r;refine .inl ⟨a,vs,e,FA.of sq,λp hp=>?_⟩;have x2:=(q.same (aG hp (.lst (sB vs l u))));refine k _ δ3 h3 (.ref p) _ ⟨A,(x2.sub (P':=P) λp hp=>FU _ hp).push ?_⟩;unfold Fr;exact⟨p,_,rfl,λz=>q.mem p z hp,aF,Reps.kp (Kp.of_same (aG hp _)) _ _ (Reps.cut l u r)⟩
  | fz xs =>
   have h3:R (.d (.lst (cut xs l u))) δ3:=h3
   simp only[Fr] at r;obtain⟨a,vs,e,sq,r⟩:=r;refine .inl ⟨a,vs,e,sq.seq,λp hp=>?_⟩;have x2:=(q.same (aG hp (.lst (sB vs l u))));refine k _ δ3 h3 (.ref p) _ ⟨A,(x2.sub (P':=P) λp hp=>FU _ hp).push ?_⟩;unfold Fr;exact⟨p,_,rfl,λz=>q.mem p z hp,aF,Reps.kp (Kp.of_same (aG hp _)) _ _ (Reps.cut l u r)⟩
  | tup xs =>
   have h3:¬ (HT.sIx xs.length 0 l=0/\HT.sIx xs.length xs.length u=xs.length)/\R (.d (.tup (cut xs l u))) δ3:=h3
   simp only[Fr] at r;obtain⟨a,vs,e,sq,r⟩:=r;obtain⟨nf,h3⟩:=h3;refine .inr ⟨a,vs,e,sq,by rw[<- Reps.length _ _ r];exact nf,λp hp=>?_⟩;have x2:=(q.same (aG hp (.tup (sB vs l u))));refine k _ δ3 h3 (.ref p) _ ⟨A,(x2.sub (P':=P) λp hp=>FU _ hp).push ?_⟩;unfold Fr;exact⟨p,_,rfl,Fv.of aF,Reps.kp (Kp.of_same (aG hp _)) _ _ (Reps.cut l u r)⟩
  | _=>exact(show False from h3).elim⟩⟩
end
end DL
namespace DL
open PySem PySem.Spec PyProof.Rows L2
variable {f:List D→(D→Prop)→Prop} {k:Nat} {x:Str} {ps:List Str}
def gC(N:List Str)(ds:List D):En:=ds.map Sl.dat++List.replicate (N.length-ds.length) Sl.no
def uw{K:PySem.W.Frag}{vs:List V}{H:Hp}{Q:VK}{n:Nat}(h:aU K f vs H Q)(len:∀ds R,f ds R->ds.length=n):vs.length=n:=by
 obtain⟨M,ds,R,m,rs,hf,k⟩:=h;rw[<- Reps.length _ _ rs];exact len ds R hf
theorem zc{K:PySem.W.Frag}{M:Addr->Prop}{ds:List D}{vs:List V}{H:Hp}(N:List Str)(m:∀b,M b->H b≠none)(rs:Reps K M H ds vs):S K ⟨M,H,λ_=>False⟩ (gC N ds) [] (L2.start N vs) H:=by
 have hl:=Reps.length _ _ rs
 refine⟨λ_=>False,λb o e _=>e,λb e=>e,m,λb h=>h.elim,λb h=>h.elim,λb h=>h.elim,?_,λi d e=>?_,λi a d e=>?_,λi j a d e h1 h2=>?_,λp hp=>(nomatch hp)⟩
 ·unfold gC L2.start;rw[F1,F1,FR,FR,Gm,Gm,hl]
 ·unfold gC at e;unfold L2.start
  by_cases hi:i<ds.length
  ·rw[List.getElem?_append_left (by rw[FR];exact hi),List.getElem?_map] at e
   cases hd:ds[i]? with
   | none=>rw[hd] at e;cases e
   | some d' =>
    rw[hd] at e
    cases e
    obtain⟨v,ev,rv⟩:=Reps.get _ _ rs i d hd;refine⟨v,?_,Fr.more (λb z=>.inl (z.elim id λq=>q.elim)) _ _ rv⟩;rw[List.getElem?_append_left (by rw[FR];omega),List.getElem?_map,ev];rfl
  ·rw[List.getElem?_append_right (by rw[FR];omega),List.getElem?_replicate] at e
   split at e<;>cases e
 all_goals
  unfold gC at *;exfalso
 ·by_cases hi:i<ds.length
  ·rw[List.getElem?_append_left (by rw[FR];exact hi),List.getElem?_map] at e
   cases hd:ds[i]? with
   | none=>rw[hd] at e;cases e
   | some d'=>rw[hd] at e;cases e
  ·rw[List.getElem?_append_right (by rw[FR];omega),List.getElem?_replicate] at e
   split at e<;>cases e
 ·by_cases hi:i<ds.length
  ·rw[List.getElem?_append_left (by rw[FR];exact hi),List.getElem?_map] at h1
   cases hd:ds[i]? with
   | none=>rw[hd] at h1;cases h1
   | some d'=>rw[hd] at h1;cases h1
  ·rw[List.getElem?_append_right (by rw[FR];omega),List.getElem?_replicate] at h1
   split at h1<;>cases h1
structure Fd(K:PySem.W.Frag)(mg:Str->Option Value)(x:Str)(st:Stmt)(ps:List Str):Prop where
 ex:∃(a:Addr) (fd:FuncData),Fun K x x st a fd/\mj K fd ps []/\mg x=some (.ref a)
structure Cal(P:Program)(w:World)(K:PySem.W.Frag)(mg:Str->Option Value)(base:Heap)(k:Nat)(x:Str)(ps:List Str)(sp:Sp):Prop where
 ex:∃(a:Addr) (fd:FuncData),kF P w K mg base CX0 k a fd ps sp/\mj K fd ps []/\PySem.W.keepIn K (.ref a)=true/\mg x=some (.ref a)
section
variable {P:Program} {w:World} {K:PySem.W.Frag} {mg:Str→Option Value} {base:Heap}
def Cal.mono{j:Nat}{sp:Sp}(C:Cal P w K mg base j x ps sp)(h:j<=k):Cal P w K mg base k x ps sp:=by
 obtain⟨a,fd,F,b,kp,m⟩:=C.ex;exact⟨a,fd,F.mono h,b,kp,m⟩
def Br{st:Stmt}{N:List Str}{a:Addr}{fd:FuncData}(Fu:Fun K x x st a fd)(Sc:aw N ps (ap st))(len:∀ds R,f ds R->ds.length=ps.length)
    (hbody:∀(cdv:Value) (A:Around) (outer:List Env) (s:Shared) (H:Hp) (E:XK) (ds:List D) (R:D->Prop),fQ k (A.deeper (envOfC x (ap st) s.heap.objs.size a cdv))->f ds R ->
      ∃t,DSs (vi CX0 P w K mg base N x (ap st) a cdv A outer s H E).nox (bG st) t/\t { nx:=λ_=>R .non,rt:=λd _=>R d,ro:=R } (gC N ds)) :
    kF P w K mg base CX0 (k+1) a fd ps (Fh K f):=by
  refine Fu.ok Sc (λvs H Q E h=>uw h len) (λcdv A outer s H vs Q E hr h=>?_);obtain⟨M,ds,R,hm,rs,hf,hk⟩:=h;obtain⟨t,ht,hq⟩:=hbody cdv A outer s H E ds R hr hf;refine⟨_,ht,⟨M,H,λ_=>False⟩,gC N ds,[],_,zc N hm rs,hq,λδ' r σ' H' ⟨A',x⟩=>?_,⟨λd δ' r v σ' H' ⟨A',x⟩=>?_,λd r a H' ⟨o1,o2,o3,o4⟩=>hk d r (.ref a) H' (λb o e=>o1 b o e id) (o4.rep o3 λb z=>.inl z),λ_ _ _ z=>z.elim⟩,λ_ h=>h.elim,λ_ h=>h.elim,λz=>z.elim⟩
  · exact hk .non r .non H' (λb o e=>x.old b o e id) (by unfold Fr;rfl)
  · exact hk d r v H' (λb o e=>x.old b o e id) (Fr.more (λb z=>.inl (.inl z)) _ _ (x.pnd (d,v) (by simp)))
def cq{st:Stmt}{N:List Str}(F:Fd K mg x st ps)(Sc:aw N ps (ap st))(len:∀ds R,f ds R->ds.length=ps.length)
    (hbody:∀(a:Addr) (cdv:Value) (A:Around) (outer:List Env) (s:Shared) (H:Hp) (E:XK) (ds:List D) (R:D->Prop),fQ k (A.deeper (envOfC x (ap st) s.heap.objs.size a cdv))->f ds R ->
      ∃t,DSs (vi CX0 P w K mg base N x (ap st) a cdv A outer s H E).nox (bG st) t/\t { nx:=λ_=>R .non,rt:=λd _=>R d,ro:=R } (gC N ds)) :
    Cal P w K mg base (k+1) x ps (Fh K f):=by
  obtain⟨a,fd,Fu,b,m⟩:=F.ex;exact⟨a,fd,Br Fu Sc len (hbody a),b,Fu.kp,m⟩
def aq{X:Cx}{a:Expr}{es:List Expr}{t:TDA}{p pos:Pos}(C:Cal X.prog X.w X.K X.mg X.base k x ps (Fh X.K f))(hr:fQ k X.A)(hg:Gl X x)(ha:DA X (a::es) t)
  (hdb:(x==("__debug__":Str))=false:=by decide) (he:starEach (a::es) X.env=(false,eval a X.env)::starEach es X.env:=by rfl) (hpl:(backTo pos (starEach es X.env)).any (·.1)=false:=by rfl) :
  DE X (.Call (.Name x p) (a::es) [] pos) (rR f t):=by
 obtain⟨g,fd,F,b,kp,m⟩:=C.ex;exact AM F hr hg m kp b ha hdb he hpl
def Am(K:PySem.W.Frag):Sp:=λvs H Q _=>∃(a:Addr) (ns:List Int),vs=[.ref a]/\FA K H a (ns.map V.int)/\Only H/\ns.length<=63/\(∀n∈ns,Builtin.Int.intBits n<=1048576)/\∀H',Q (.bl true) H'
def fLaw:List D->(D->Prop)->Prop:=λds R=>∃ns:List Int,ds=[.fz (ns.map D.int)]/\ns.length<=63/\(∀n∈ns,Builtin.Int.intBits n<=1048576)/\R (.bl true)
def CW{a:Addr}{fd:FuncData}(F:kF P w K mg base CX0 k a fd ps (Fh K fLaw)):kF P w K mg base CX0 k a fd ps (Am K) :=
 F.imp λvs H Q E ⟨l,ns,e,sq,on,h63,hb,q⟩=>by
  subst e;refine⟨λ_=>False,[.fz (ns.map D.int)],λd=>d=.bl true,λ_ h=>h.elim,Reps.one ?_,⟨ns,rfl,h63,hb,rfl⟩,λd e v H' _ r=>?_⟩
  ·unfold Fr;refine⟨l,ns.map V.int,rfl,?_,Reps.ints ns⟩
   rcases sq with(h | ⟨o,h⟩) | h
   ·rcases on l with z | ⟨o,xs,z⟩
    ·rw[z] at h;cases h
    ·rw[z] at h;cases h
   ·exact .inl ⟨o,h⟩
   ·exact .inr (.inr h)
  ·subst e;rw[gG r];exact q H'
end
end DL
namespace DLH
open PySem PySem.W PySem.Calls PyProof.Rows
def iC{ns:List Int}(h:WData.layableAll [.list (ns.map .int)]=true):∀n∈ns,Builtin.Int.intBits n<=1048576:=λn hn=>by
 have h1:=layableW_arg h _ (F6.mpr rfl)
 have h2:=layableW_item h1 (.int n) (FV.mpr ⟨n,hn,rfl⟩)
 have h3:=(layableW_iff.mp h2).2.2
 simpa only[WData.weight,Builtin.Int.intBits] using h3
def attach_callB{l:OpenLaw}{n:Nat}{q:Program}{loose:List Str}{XP:(Str->Option Value)->Heap->Prop}{YP:World->Heap->Prop}{d:DefRec}
    (hn:l.most=some n) (hdf:d.params.defaults=[])
    (call:∀(w:World) (s₀ s₁:Shared) (mg mb:Str->Option Value) (fa:Addr) (o:Obj) (pm cd doc:Value) (a:Addr) (vs:List Value) (ns:List Int),
      Ground q loose [] XP w s₀ mg mb s₁.heap->YP w s₁.heap ->
      s₁.heap.get? fa=some o->o.data=.func (docDef d.name d.params d.body d.scope pm cd doc)->s₁.heap.CodeRec cd d.name->mg d.name=some (.ref fa) ->
      s₁.heap.get? a=some { cls:=.type "list",data:=.seq vs.toArray }->IntsAre vs ns->ns.length<=n->(∀i∈ns,Builtin.Int.intBits i<=1048576)->s₁.gens=#[] ->
      codeAny (model l.prog w) callerA (.call (.ref fa) ⟨[.ref a],[]⟩) (λr s'=>r=.ok (.ret (.bool true))/\OldK s₁.heap s'.heap/\s'.os=s₁.os/\AllBare s'.gens) s₁) :
    WalkO q loose XP YP l.row.toRowW d [] (λf vs=>PySem.call f vs):=by
  intro w s₀ s₁ mg mb G Y fa o pm cd doc dV kV ho hd hcd hD hmg hg args vals as hpre hlay hrd hwl hlo;obtain rfl:dV=.none:=Dflts.none hD hdf;obtain rfl:kV=.none:=Dflts.noKw hD;obtain⟨a,vs,ns,rfl,rfl,hobj,hints,hlen⟩:=Att.script_of hn hpre hwl;refine enter_call (Iu (call w s₀ s₁ mg mb fa o pm cd doc a vs ns G Y ho (fd_plain hd) hcd hmg hobj hints hlen (iC hlay) hg) λr s' hq=>?_);obtain⟨rfl,h2,h3,h4⟩:=hq;exact⟨.inl ⟨.bool true,.bool true,[],rfl,λ_=>rfl,.bool true,Att.post_true l _,λ_=>⟨List.Pairwise.nil,λ_ hm=>(nomatch hm)⟩⟩,h2,h3,h4⟩
end DLH
namespace DL
open PySem PySem.Spec PyProof.Rows L2
def walkB{l:PySem.W.OpenLaw}{k:Nat}{q:Program}{loose:List Str}{XP:(Str->Option Value)->Heap->Prop}{YP:World->Heap->Prop}{d:DefRec}{K:Params->PySem.W.Frag}{x:Str}
    (hn:l.most=some 63) (hdf:d.params.defaults=[]) (hr:fQ k PySem.callerA) (hY:∀(w:World) (h:Heap),YP w h->(K w.params).In h)
    (F:∀(w:World) (mg:Str->Option Value) (fa:Addr) (h:Heap),(K w.params).In h->h.Ns mainGlobals mg->mg d.name=some (.ref fa) ->
      ∃fd:FuncData,(∀(s:Shared) (u:Value),BindsTo s fd ⟨[u],[]⟩ [(x,u)])/\∀base:Heap,(K w.params).In base->base.Ns mainGlobals mg->kF l.prog w (K w.params) mg base CX0 k fa fd [x] (Am (K w.params))) :
    PySem.W.WalkO q loose XP YP l.row.toRowW d [] (λf vs=>PySem.call f vs):=by
  refine DLH.attach_callB hn hdf λw s₀ s₁ mg mb fa o pm cd doc a vs ns G Y ho hd hcd hmg hobj hints hlen hbits hg=>?_;have KX:=hY w _ Y;obtain⟨fd,hb,hF⟩:=F w mg fa _ KX G.T.g hmg;exact vH KX G.T.g G.T.b G.T.builtins G.T.nolimit hg hobj hints (FX hlen (by decide)) hr hF hb (λH hO hS=>⟨a,ns,rfl,hS,hO,hlen,hbits,λ_=>rfl⟩) λH e s' z=>z
end DL
namespace DL
open PySem PySem.Spec PyProof.Rows L2
variable {X:Cx} {elt iter:Expr} {ifs:List Expr} {scope:Scope} {pos:Pos} {wi:TI} {cl:List (Str×Addr)} {g:TG} {tc:TT} {te:TE}
def tM(ifs:List Expr)(env:Env):Sem Bool:=forIn ifs true λc r=>if r=true then do let ok<-isTrue c env (eval c env);pure (ForInStep.yield ok) else pure (ForInStep.yield r)
def PF(X:Cx)(ifs:List Expr)(t:TT):Prop :=
 ∀(pins:List (Addr×Obj)) (s:Shared) (σ:L2.St) (H:Hp) (Q:Bool->Hp->Prop),Inv X pins σ H s->t σ H Q->wpAny (model X.prog X.w) X.A (tM ifs X.env) (TP X pins σ Q) X.xe s
def CJ:PF X [] (λ_ H Q=>Q true H):=λ_ _ _ H _ I h=>wpAny_tests_nil ⟨H,I,h⟩
def BK{c:Expr}{t:TT}(h:PT X c t):PF X [c] t:=λpins s σ H Q I q=>wpAny_tests_one (h pins s σ H Q I q)
def d4{prog:Program}{w:World}{A:Around}{R:Result->Shared->Prop}{s:Shared}{target:Expr}{it acc:Value}{env:Env}(I:Nat->Shared->Prop)
    (turn:∀n s,I n s->wpAny (model prog w) A (pyNext it) (λr s₁=>match r with
      | none=>R (.ok .next) s₁
      | some v=>wpAny (model prog w) A (letOwnedTupleGo target it v) (λ_ s₁'=>wpAny (model prog w) A (assign target env v) (λ_ s₂ =>
          wpAny (model prog w) A (tM ifs env) (λok s₃ =>
            if ok=true then wpAny (model prog w) A (eval elt env) (λx s₄ =>
              wpAny (model prog w) A (call (.builtin "list.append") [acc,x]) (λ_ s₅=>∃m,m<n/\I m s₅) (λ_ _=>False) s₄) (λ_ _=>False) s₃
            else ∃m,m<n/\I m s₃) (λ_ _=>False) s₂) (λ_ _=>False) s₁') (λ_ _=>False) s₁) (λ_ _=>False) s)
    (n:Nat) (h:I n s) :
    codeAny (model prog w) A (.compLoop (.ListComp elt [⟨target,iter,ifs,0⟩] scope pos) 0 it acc env) R s:=by
  refine codeAny_loop rfl I (λn s hI=>?_) n h;show wpAny _ A ((compTurn (.ListComp elt [⟨target,iter,ifs,0⟩] scope pos) 0 it acc env).onRaise (λx=>do noteFrame x env;theTreesLotGoes x)) _ _ s;refine wpAny_noted ?_;rw[compTurn_list];refine FT (wpAny_standAt (FT (G9 (turn n s hI) (λr s₁ h₁=>?_) λ_ _ h'=>h'.elim)))
  cases r with
  | none=>exact FY h₁
  | some v =>
    refine FT (G9 h₁ (λ_ s₁' h₁'=>?_) λ_ _ h'=>h'.elim);refine FT (G9 h₁' (λ_ s₂ h₂=>FT (G9 h₂ (λok s₃ h₃=>?_) λ_ _ h'=>h'.elim)) λ_ _ h'=>h'.elim)
    cases ok with
    | false=>exact FY ⟨rfl,h₃⟩
    | true =>
      exact FT (FT (G9 h₃ (λx s₄ h₄=>FT (G9 h₄ (λ_ s₅ h₅=>FY (FY ⟨rfl,h₅⟩)) λ_ _ h'=>h'.elim)) λ_ _ h'=>h'.elim))
def de(X:Cx)(N':List Str)(scope:Scope)(cl:List (Str×Addr))(s2:Shared)(H2:Hp)(C:Addr)(fp:List Addr)(pn:List (Addr×Obj)):Cx where
 prog:=X.prog
 w:=X.w
 K:=X.K
 mg:=X.mg
 base:=X.base
 A:=X.A
 N:=N'
 s₀:=s2
 H₀:=H2
 env:=compEnvC scope cl C X.env
 outer:=X.stack
 stack:=X.stack
 ex:=fp
 fn:=λ_=>false
 calm:=X.calm
 pn:=pn
 xe:=λ_ _=>False
def vn(nt:Nat)(caps:List (Nat×Str))(σ:L2.St):L2.St:=List.replicate nt none++caps.map λp=>(σ[p.1]?).join
def Aa(wi:TI)(nt:Nat)(caps:List (Nat×Str))(g:TG)(tc:TT)(te:TE):TE:=λσ H Q=>wi σ H λJ H1=>∀p,H1 p=none ->
 ∃W:Nat->Nat->List V->L2.St->Hp->Prop,(∃m,W 0 m [] (vn nt caps σ) (FI H1 p (.lst [])))/\∀i m xs σ' H',W i m xs σ' H'->(J.stop i H'/\Q (.ref p) H')\/(J.go i H'/\∀x H2,J.yld i H' x H2 ->
  g x σ' H2 λσ2 H3=>tc σ2 H3 λb H4=>if b=true then te σ2 H4 λy H5=>H5 p=some (.lst xs)/\xs.length<sizeLine/\∃m',m'<m/\W (i+1) m' (xs++[y]) σ2 (FI H5 p (.lst (xs++[y]))) else ∃m',m'<m/\W (i+1) m' xs σ2 H4)
def pN{tgt:Expr}(tn:List Str)(caps:List (Nat×Str))
    (hcalm:X.calm=true) (hclos:closureFor scope X.env=pure cl) (hcell:∀y∈scope.names,y.2≠.cell) (hkind:scope.kind=.function) (hnames:∀y∈scope.names,y.2=.local->scope.names.lookup y.1=some .local)
    (hcl:∀x c,cl.lookup x=some c->X.env.cells.lookup x=some c) (hhas:∀x,((relabel scope X.env).names.lookup x=some .cell\/(relabel scope X.env).names.lookup x=some .free)->∃c,cl.lookup x=some c)
    (hcap:∀p∈caps,X.N[p.1]?=some p.2/\X.env.scope.names.lookup p.2=some .cell/\((relabel scope X.env).names.lookup p.2=some .cell\/(relabel scope X.env).names.lookup p.2=some .free))
    (hi:PI X.nox tgt iter wi)
    (hb:∀s2 H2 C fp pn,PG (de X (tn++caps.map (·.2)) scope cl s2 H2 C fp pn) tgt g/\PF (de X (tn++caps.map (·.2)) scope cl s2 H2 C fp pn) ifs tc/\PE (de X (tn++caps.map (·.2)) scope cl s2 H2 C fp pn) elt te)
    (hs:∀x,foldedSetIterable iter X.env x=pure x:=by intro _;rfl)
    {posF:Pos} {use:Option (Value->Sem Unit)} {Qf:Value->Shared->Prop} (pins:List (Addr×Obj)) (s:Shared) (σ:L2.St) (H:Hp) (Q:VK) (I:Inv X.nox pins σ H s) (h:Aa wi tn.length caps g tc te σ H Q)
    (fin:∀p C m4 H3 s4,Inv X.nox pins σ H3 s4->s4.heap.Ns C m4->vC X.nox pins H3 C->Q (.ref p) H3->compPost (model X.prog X.w) X.A (λ_ _=>False) use Qf (.ref p) C (.ok .next) s4) :
    wpAny (model X.prog X.w) X.A (comprehension (.ListComp elt [⟨tgt,iter,ifs,0⟩] scope pos) scope X.env posF (newList []) false (eval iter X.env) use) Qf (λ_ _=>False) s:=by
  refine wpAny_comprehension_free (use:=use) rfl hs hclos hkind hnames (G9 (hi pins s σ H _ I h) (λx s₁ h₁=>G9 h₁ (λitv s₂ h₂=>?_) λ_ _ e=>e) λ_ _ e=>e);obtain⟨it,fp,tnr,J,H1,rfl,I1,T,st,hfp,q⟩:=h₂;refine GR (wpAny_newFunctionEnv hcell (by intro y hy;simp at hy) (λh₁ hns₁ hsb₁=>?_) hkind)
  dsimp only at hns₁ hsb₁ ⊢
  generalize hH2:s₂.heap.push { cls:=.type "list",dict:=none,data:=.seq ([]:List Value).toArray }=Hq at hns₁ hsb₁ ⊢
  have hC:Hq.objs.size=s₂.heap.objs.size+1:=by rw[<- hH2,G2]
  generalize hCe:Hq.objs.size=C at hns₁ hsb₁ hC ⊢
  generalize hpe:s₂.heap.objs.size=p at hC ⊢
  obtain⟨m1,hns₁⟩:∃m,h₁.Ns C m:=⟨_,hns₁⟩;have hpC:p≠C:=Gw (by rw[hC];exact Iz _);have hbs:∀b,b<s₂.heap.objs.size->b≠C/\b≠p:=λb hb=>⟨Gw (by rw[hC,<- hpe];exact Hr hb),Gw (by rw[<- hpe];exact hb)⟩;have hple:s₂.heap.objs.size<=p:=Nat.le_of_eq hpe;have hCle:s₂.heap.objs.size<=C:=by rw[hC,<- hpe];exact IG _
  have old:∀b o,s₂.heap.get? b=some o->h₁.get? b=some o:=λb o e =>
    hsb₁.extBut b o (hbs b (Gg e)).1 (Heap.get?_push_of_some _ (hH2 ▸ Heap.get?_push_of_some _ e))
  have hacc:h₁.get? p=some { cls:=.type "list",data:=.seq ([]:List Value).toArray 0 }:=by
    refine hsb₁.extBut p _ hpC ?_;rw[<- hpe];exact Heap.get?_push_of_some _ (hH2 ▸ Heap.get?_push_size _ rfl)
  have hfree:H1 p=none:=I1.hok.fresh hple
  have hfreeC:H1 C=none:=I1.hok.fresh hCle
  obtain⟨W,⟨m0,w0⟩,turn⟩:=q p hfree;have X'def:∃X',X'=de X (tn++caps.map (·.2)) scope cl s₂ H1 C fp (X.pn++pins):=⟨_,rfl⟩;obtain⟨X',hX'⟩:=X'def;have hstk:∀b∈frs X.stack,b=X.env.locals\/b∈X.fs:=λb hb=>F7.mp (I1.stkSub b hb);have hfpl:∀b∈fp,b<s₂.heap.objs.size:=λb hb=>let ⟨_,e,_⟩:=T.obj _ _ st b hb;Gg e;have hfps:∀b∈fp,b∉frs X.stack:=λb hb z=>(hstk b z).elim (λe=>(hfp b hb).2.1 e) λe=>(hfp b hb).2.2.1 e;have hcells:∀x c,cl.lookup x=some c->c<s₂.heap.objs.size/\H1 c=none:=λx c e=>by
    obtain⟨v,hv⟩:=I1.cell x c (hcl x c e);exact⟨hv.lt,I1.freeC x c (hcl x c e)⟩
  have ok:X'.Ok:=by
    subst hX';have o:=I1.ok
    exact { mod:=o.mod
            kind:=by show (relabel scope X.env).kind=.function;exact hkind
            glob:=o.glob
            blt:=o.blt
            above:=hCle
            inj:=λx y c h1 h2=>o.inj x y c (hcl x c h1) (hcl y c h2)
            has:=λx hx=>hhas x hx
            cab:=λx c h1 _=>nomatch h1
            hd:=o.hd
            frames:=o.frames
            stk:=.inl rfl
            exf:=λb hb=>⟨(hbs b (hfpl b hb)).1,λx c e=>λz=>(hfp b hb).2.2.2.2.1 x c (hcl x c e) z⟩
            bs:=λb ob e=>I1.bs b ob e
            bsz:=FX o.bsz I1.sz
            noex:=λb ob e hb=>by
              obtain⟨_,_,_,hh,_⟩:=hfp b hb
              rcases hh with hh | hh
              · exact o.noex b ob e hh
              · exact absurd (Gg (I1.ok.bs b ob e).1) (Nat.not_lt.mpr hh)
            exfs:=hfps
            funs:=I1.stack
            frf:=I1.stkFree }
  have capOk:∀(m:Str->Option Value) (i:Nat) (x:Str) (v:V),X'.N[i]?=some x->(vn tn.length caps σ)[i]?=some (some v)->Vis X'.env.scope x->∃u,bB v u/\Look X'.env h₁ m x u:=by
    subst hX';intro m i x v hN hσ hv;have hN:(tn++caps.map (·.2))[i]?=some x:=hN;unfold vn at hσ
    by_cases hi:i<tn.length
    · rw[List.getElem?_append_left (by rw[Gm];exact hi),List.getElem?_replicate,Gd hi] at hσ
      cases hσ
    · rw[List.getElem?_append_right (by rw[Gm];omega),Gm] at hσ;rw[List.getElem?_append_right (by omega)] at hN;rw[List.getElem?_map] at hσ hN
      cases hc:caps[i-tn.length]? with
      | none=>rw[hc] at hN;cases hN
      | some pr =>
        rw[hc] at hN hσ;have hN:pr.2=x:=Gc hN;have hσ:(σ[pr.1]?).join=some v:=Gc hσ;obtain⟨c1,c2,c3⟩:=hcap pr (Ge hc);subst hN;have hσ':σ[pr.1]?=some (some v):=by
          cases z:σ[pr.1]? with
          | none=>rw[z] at hσ;cases hσ
          | some o=>rw[z] at hσ;exact Hf some hσ
        obtain⟨m1,hm1,hl1⟩:=I1.loc;obtain⟨u,ru,lk⟩:=hl1 pr.1 pr.2 v c1 hσ' (.inr (.inl c2));refine⟨u,ru,.inr ⟨c3,?_⟩⟩
        rcases lk with⟨k,_⟩ | ⟨_,c,ec,ic⟩
        · have k:X.env.scope.names.lookup pr.2=some .local :=k
          rw[c2] at k
          cases k
        · obtain⟨c',ec'⟩:=hhas pr.2 c3;have e1:=hcl _ _ ec';have ec:X.env.cells.lookup pr.2=some c:=ec;rw[ec] at e1
          cases e1
          exact⟨c,ec',ic.keeps old⟩
  have un0:Un (frs X.stack) fp H1 (FI H1 p (.lst [])) s₂.heap h₁:=Un.laid old hple hfree
  have I4:∀tk,Inv X' [] (vn tn.length caps σ) (FI H1 p (.lst [])) { s₂ with heap:=h₁,toks:=tk }:=λtk=>by
    have hN:X'.N=tn++caps.map (·.2):=by rw[hX'];rfl
    refine⟨ok,?_,I1.bare,?_,⟨m1,?_,λi x v e1 e2 e3=>?_⟩,λx c e=>?_,?_,λx c e=>?_,λpr hp=>?_,?_,?_⟩
    · rw[hX'];rfl
    · rw[hX'];exact un0
    · rw[hX'];exact hns₁
    · exact capOk _ i x v e1 e2 e3
    · rw[hX'] at e;obtain⟨v,hv⟩:=I1.cell x c (hcl x c e);exact⟨v,hv.keeps old⟩
    · rw[hX'];show FI H1 p (.lst []) C=none;rw[aI (IN hpC)];exact hfreeC
    · rw[hX'] at e;have hc:=hcells x c e;show FI H1 p (.lst []) c=none;rw[aI (hbs c hc.1).2];exact hc.2
    · rw[hX'] at hp;have hp:pr∈(X.pn++pins)++[]:=hp;rw[GH] at hp;obtain⟨e,n,nl,nf,d⟩:=I1.pin pr hp;have hlt:=Gg e;refine⟨old _ _ e,?_,?_,λz=>?_,d⟩
      · rw[aI (hbs _ hlt).2];exact n
      · rw[hX'];exact(hbs _ hlt).1
      · rw[hX'] at z;exact(hstk _ z).elim nl nf
    · have e1:X'.prog=X.prog:=by rw[hX'];rfl
      have e2:X'.w=X.w:=by rw[hX'];rfl
      rw[e1,e2];exact I1.hok.laid old hple ⟨G5 _,[],0,.nil,hacc⟩
    · rw[hN];unfold vn;rw[F1,F1,Gm,FR,FR]
  have fpk:∀H',(∀b∈fp,H' b=none)->∀b∈fp,vC X' [] H' b:=λH' hn b hb=>by
    rw[hX'];refine⟨hn b hb,(hbs b (hfpl b hb)).1,hfps b hb,.inl hb,λx c e=>λz=>(hfp b hb).2.2.2.2.1 x c (hcl x c e) z,λpr hp=>?_⟩;have hp:pr∈(X.pn++pins)++[]:=hp;rw[GH] at hp;exact(hfp b hb).2.2.2.2.2 pr hp
  obtain⟨hg,hf,he⟩:=hb s₂ H1 C fp (X.pn++pins);rw[<- hX'] at hg hf he;have p1:X'.prog=X.prog:=by rw[hX'];rfl
  have p2:X'.w=X.w:=by rw[hX'];rfl
  have p3:X'.K=X.K:=by rw[hX'];rfl
  have p4:X'.calm=true:=by rw[hX'];exact hcalm
  have p5:X'.env=compEnvC scope cl C X.env:=by rw[hX'];rfl
  have p6:X'.A=X.A:=by rw[hX'];rfl
  have p7:X'.xe=λ_ _=>False:=by rw[hX'];rfl
  have st1:tnr 0 h₁:=T.keep _ _ _ st λb hb o e=>old b o e
  have loop:∀tk,codeAny (model X.prog X.w) X.A (.compLoop (.ListComp elt [⟨tgt,iter,ifs,0⟩] scope pos) 0 (.ref it) (.ref p) (compEnvC scope cl C X.env))
      (compPost (model X.prog X.w) X.A (λ_ _=>False) use Qf (.ref p) C) { s₂ with heap:=h₁,toks:=tk }:=λtk=>by
    refine d4 (λn s'=>∃i xs σ' H',Inv X' [] σ' H' s'/\tnr i s'.heap/\(∀b∈fp,H' b=none)/\W i n xs σ' H') ?_ m0 ⟨0,[],_,_,I4 tk,st1,λb hb=>?_,w0⟩
    · rintro n s3 ⟨i,xs,σ3,H3,I3,st3,fr3,w3⟩
      rcases turn i n xs σ3 H3 w3 with⟨stop,qn⟩ | ⟨go,step⟩
      · have q1:=T.done X' p1 p2 p3 p4 i [] s3 _ H3 (λ_ _=>False) I3 (fpk H3 fr3) st3 stop
        rw[p6] at q1;refine FG q1 λr s4 ⟨hr,I4'⟩=>?_;subst hr;obtain⟨m4,hm4,_⟩:=I4'.loc;rw[p5] at hm4;have hb4:=I4'.base;rw[hX'] at hb4;have hb4:Un (frs X.stack) fp H1 H3 s₂.heap s4.heap:=hb4;have hfc:H3 C=none:=by
          have z:=I4'.free
          rw[p5] at z;exact z
        have hok4:FN X.prog X.w H3 s4.heap:=by
          have hk:=I4'.hok
          rw[p1,p2] at hk;exact hk
        have hos:s4.os=s₂.os:=by
          have z:=I4'.os
          rw[hX'] at z;exact z
        have I9:=I1.call' (s':=s4) (ch:=fp) hos hb4 hok4 I4'.bare (λb hb=>by
          obtain⟨_,f1,f2,f3,f4,f5⟩:=hfp b hb
          exact⟨f3,f1,f4,f5⟩)
        exact fin p C m4 H3 s4 I9 hm4 ⟨hfc,(I1.fpOk hCle hfreeC).2⟩ qn
      · have q1:=T.item X' p1 p2 p3 p4 i [] s3 _ H3 (λ_ _=>False) I3 (fpk H3 fr3) st3 go
        rw[p6] at q1;refine FG q1 λr s4 ⟨u,hr,h4⟩=>?_;subst hr;refine FG h4 λ_ s5 ⟨x,H5,I5,r5,y5,st5,fr5⟩=>?_;have I5':=I5.pinned (fpk H5 fr5) (T.obj _ _ st5);have q5:=hg _ s5 _ H5 x u _ I5' r5 (step x H5 y5);rw[p1,p2,p5,p6,p7] at q5;refine FG q5 λ_ s6 ⟨σ6,H6,I6,q6⟩=>?_;have q6:=hf _ s6 σ6 H6 _ I6 q6;rw[p1,p2,p5,p6,p7] at q6;refine FG q6 λb s7 ⟨H7,I7,q7⟩=>?_;have again:∀ {s8:Shared} {H8:Hp},Inv X' ([]++l5 fp s5.heap) σ6 H8 s8->Inv X' [] σ6 H8 s8/\tnr (i+1) s8.heap/\(∀b∈fp,H8 b=none):=λ{s8 H8} I8=>by
          refine⟨I8.unpinned,T.keep _ _ _ st5 λb hb o e=>(I8.pin (b,o) (F5 _ (F5 _ (dR hb e)))).1,λb hb=>?_⟩;obtain⟨o,e,d⟩:=T.obj _ _ st5 b hb;exact(I8.pin (b,o) (F5 _ (F5 _ (dR hb e)))).2.1
        cases b with
        | false =>
          obtain⟨m',hm,w7⟩:=q7;obtain⟨a1,a2,a3⟩:=again I7;exact⟨m',hm,i+1,xs,σ6,H7,a1,a2,a3,w7⟩
        | true =>
          rw[Gd rfl];have q8:=he _ s7 σ6 H7 _ I7 q7;rw[p1,p2,p5,p6,p7] at q8;refine FG q8 λy s8 ⟨yv,H8,I8,ry,hac,hsz,m',hm,w8⟩=>?_;have q9:=mI (X:=X') _ s8 σ6 H8 (.ref p) [yv] (.ref p) [y] (λ_ H9=>H9=FI H8 p (.lst (xs++[yv]))) I8 rfl (.cons ry .nil) ⟨p,xs,yv,rfl,rfl,hac,hsz,rfl⟩;rw[p1,p2,p6,p7] at q9;refine FG q9 λ_ s9 ⟨_,H9,I9,_,e9⟩=>?_;subst e9;obtain⟨a1,a2,a3⟩:=again I9;exact⟨m',hm,i+1,xs++[yv],σ6,_,a1,a2,a3,w8⟩
    · rw[aI (hbs b (hfpl b hb)).2];exact(hfp b hb).1
  have L0:=loop (s₂.toks+([]:List (Str×Value)).length)
  exact codeAny_compStart_list L0 (T.self _ _ _ _ _ st1 L0)
def yK{tgt:Expr}(tn:List Str)(caps:List (Nat×Str))
  (hcalm:X.calm=true) (hclos:closureFor scope X.env=pure cl) (hcell:∀y∈scope.names,y.2≠.cell) (hkind:scope.kind=.function) (hnames:∀y∈scope.names,y.2=.local->scope.names.lookup y.1=some .local)
  (hcl:∀x c,cl.lookup x=some c->X.env.cells.lookup x=some c) (hhas:∀x,((relabel scope X.env).names.lookup x=some .cell\/(relabel scope X.env).names.lookup x=some .free)->∃c,cl.lookup x=some c)
  (hcap:∀p∈caps,X.N[p.1]?=some p.2/\X.env.scope.names.lookup p.2=some .cell/\((relabel scope X.env).names.lookup p.2=some .cell\/(relabel scope X.env).names.lookup p.2=some .free))
  (hi:PI X.nox tgt iter wi)
  (hb:∀s2 H2 C fp pn,PG (de X (tn++caps.map (·.2)) scope cl s2 H2 C fp pn) tgt g/\PF (de X (tn++caps.map (·.2)) scope cl s2 H2 C fp pn) ifs tc/\PE (de X (tn++caps.map (·.2)) scope cl s2 H2 C fp pn) elt te)
  (hs:∀x,foldedSetIterable iter X.env x=pure x:=by intro _;rfl) :
  PE X.nox (.ListComp elt [⟨tgt,iter,ifs,0⟩] scope pos) (Aa wi tn.length caps g tc te):=by
 intro pins s σ H Q I h;rw[eval_ListComp];refine pN tn caps hcalm hclos hcell hkind hnames hcl hhas hcap hi hb hs (use:=none) pins s σ H Q I h λp C m4 H3 s4 I9 hm4 hf q=>?_;obtain⟨f0,f1,f2,f3,f4,f5⟩:=hf;exact⟨m4,hm4,λh' hs'=>⟨.ref p,H3,I9.turned (t':=s4.toks) (λb o hb e=>hs'.extBut b o hb e) f0 f1 f3 f4 f5,rfl,q⟩⟩
def qj{tgt:Expr}(tn:List Str)(caps:List (Nat×Str))
  (hcalm:X.calm=true) (hclos:closureFor scope X.env=pure cl) (hcell:∀y∈scope.names,y.2≠.cell) (hkind:scope.kind=.function) (hnames:∀y∈scope.names,y.2=.local->scope.names.lookup y.1=some .local)
  (hcl:∀x c,cl.lookup x=some c->X.env.cells.lookup x=some c) (hhas:∀x,((relabel scope X.env).names.lookup x=some .cell\/(relabel scope X.env).names.lookup x=some .free)->∃c,cl.lookup x=some c)
  (hcap:∀p∈caps,X.N[p.1]?=some p.2/\X.env.scope.names.lookup p.2=some .cell/\((relabel scope X.env).names.lookup p.2=some .cell\/(relabel scope X.env).names.lookup p.2=some .free))
  (hi:PI X.nox tgt iter wi)
  (hb:∀s2 H2 C fp pn,PG (de X (tn++caps.map (·.2)) scope cl s2 H2 C fp pn) tgt g/\PF (de X (tn++caps.map (·.2)) scope cl s2 H2 C fp pn) ifs tc/\PE (de X (tn++caps.map (·.2)) scope cl s2 H2 C fp pn) elt te)
  (hs:∀x,foldedSetIterable iter X.env x=pure x:=by intro _;rfl) {i:Nat} {y:Str} {pos' pos2:Pos} (hN:X.N.Nodup) (hi':X.N[i]?=some y) (hx:Loc X.env.scope y) (hsw:swapsWith (.ListComp elt [⟨tgt,iter,ifs,0⟩] scope pos) (some (.Name y pos')) pos2.line X.env=pure true) (hf:X.fn y=true\/X.env.scope.names.lookup y=some .local) :
  PS X.nox (.Assign [.Name y pos'] (.ListComp elt [⟨tgt,iter,ifs,0⟩] scope pos) pos2) (tAsg (Aa wi tn.length caps g tc te) (sj i)):=by
 intro pins s σ H D I h;show wpAny (model X.prog X.w) X.A (exec (.Assign [.Name y pos'] (.ListComp elt [⟨tgt,iter,ifs,0⟩] scope pos) pos2) X.env) _ _ s;rw[exec_Assign_Name_used _ _ _ _ hsw];refine FT (wpAny_standAt (FT ?_));show wpAny _ _ (do let _<-comprehension (.ListComp elt [⟨tgt,iter,ifs,0⟩] scope pos) scope X.env _ (newList []) false (eval iter X.env) (some (assign (.Name y pos') X.env))) _ _ s;refine FT (G9 (pN tn caps hcalm hclos hcell hkind hnames hcl hhas hcap hi hb hs (use:=some (assign (.Name y pos') X.env)) (Qf:=λ_ s'=>SP X.nox pins D .next s') pins s σ H _ I h λp C m4 H3 s4 I9 hm4 hfp q=>?_) (λ_ s' hq=>FY (FY hq)) λ_ _ e=>e);obtain⟨f0,f1,f2,f3,f4,f5⟩:=hfp;show wpAny _ _ (assign (.Name y pos') X.env (.ref p)) _ _ s4;refine wpAny_assign_Name (mo (X:=X.nox) I9 hN hi' hx (v:=.ref p) rfl (λs5 I5 ⟨a,sb,ha⟩=>?_) hf);have hac:C≠a:=by
  rcases ha with rfl | ha
  ·exact f1
  ·exact λz=>f4 y a ha z.symm
 refine⟨m4,hm4.sameBut sb hac,λh' hs'=>⟨_,H3,I5.turned (t':=s5.toks) (λb o hb e=>hs'.extBut b o hb e) f0 f1 f3 f4 f5,q⟩⟩
end DL
namespace DL
open PySem PySem.Spec PyProof.Rows L2
variable {i j:Bool} {T:String}
def eU:bootBuiltins "len"=some (.builtin "len"):=by decide +kernel
def Ew:bootBuiltins "abs"=some (.builtin "abs"):=by decide +kernel
def l9:bootBuiltins "isinstance"=some (.builtin "isinstance"):=by decide +kernel
def Dc:bootBuiltins "max"=some (.builtin "max"):=by decide +kernel
def iq:bootBuiltins "sorted"=some (.builtin "sorted"):=by decide +kernel
def Bv:bootBuiltins "int"=some (.type "int"):=by decide +kernel
def Dd:bootBuiltins "bool"=some (.type "bool"):=by decide +kernel
def cD:bootBuiltins "tuple"=some (.type "tuple"):=by decide +kernel
def sX:bootBuiltins "dict"=some (.type "dict"):=by decide +kernel
def EY:bootBuiltins "set"=some (.type "set"):=by decide +kernel
section
variable {X:Cx}
def BI:List D->(D->Prop)->Prop
 | [.tup xs,.tup ys],R=>xs≠[]/\ys≠[]/\xs.length+ys.length<=9000/\R (.tup (xs++ys))
 | _,_=>False
def vR:∀ {d0:List D} {R:D->Prop},BI d0 R->∃(xs:List D) (ys:List D),d0=[.tup xs,.tup ys]/\xs≠[]/\ys≠[]/\xs.length+ys.length<=9000/\R (.tup (xs++ys)):=by walk_at "or"
def BM:FH X (binaryOp .Add) λx y=>aU X.K BI [x,y] :=
 FH.imp AH λx y H Q ⟨M,ds,R,m,rs,h,k⟩=>by
  replace h:=vR h;obtain⟨_,_,rfl,h⟩:=h
  ·obtain⟨n1,n2,hz,q⟩:=h;obtain⟨h1,h2⟩:=cc rs;unfold Fr at h1 h2;obtain⟨a,vs,e,l,r⟩:=h1;obtain⟨b,ws,e',l',r'⟩:=h2;have l1:=Reps.length _ _ r;have l2:=Reps.length _ _ r';refine⟨a,b,vs,ws,e,e',l,l',λz=>n1 (Hv (by rw[l1,z];rfl)),dY (by rw[<- l1,<- l2];exact hz),λz=>absurd (Hv (by rw[l2,z];rfl)) n2,λ_ p hp=>k _ q _ _ (aG hp _) ?_⟩;unfold Fr;exact⟨p,vs++ws,rfl,Fv.of aF,Reps.kp (Kp.of_same (aG hp _)) _ _ (Reps.append _ _ _ _ r r')⟩
def sW:List D->(D->Prop)->Prop
 | [.int i,.int j],R=>R (.int (i+j))
 | [.lst xs,.lst ys],R=>xs.length+ys.length<=9000/\R (.lst (xs++ys))
 | [.tup xs,.tup ys],R=>xs≠[]/\ys≠[]/\xs.length+ys.length<=9000/\R (.tup (xs++ys))
 | _,_=>False
def xl:∀ {d0:List D} {R:D->Prop},sW d0 R->((∃(i:Int) (j:Int),d0=[.int i,.int j]/\R (.int (i+j)))\/(∃(xs:List D) (ys:List D),d0=[.lst xs,.lst ys]/\xs.length+ys.length<=9000/\R (.lst (xs++ys)))\/(∃(xs:List D) (ys:List D),d0=[.tup xs,.tup ys]/\xs≠[]/\ys≠[]/\xs.length+ys.length<=9000/\R (.tup (xs++ys)))):=by walk_at "or"
def aP:FH X (binaryOp .Add) λx y=>aU X.K sW [x,y] :=
 FH.imp (FH.or (FH.or Eo DQ) BM) λx y H Q ⟨M,ds,R,m,rs,h,k⟩=>by
  replace h:=xl h
  rcases h with⟨_,_,rfl,h⟩ | ⟨_,_,rfl,h⟩ | ⟨_,_,rfl,h⟩
  ·exact .inl (.inl ⟨M,_,R,m,rs,h,k⟩)
  ·exact .inl (.inr ⟨M,_,R,m,rs,h,k⟩)
  ·exact .inr ⟨M,_,R,m,rs,h,k⟩
mutual
def D.dp:D->Nat
 | .tup xs=>D.dps xs+1
 | .lst xs=>D.dps xs+1
 | .fz xs=>D.dps xs+1
 | .dct _ _=>0
 | .fd _ _=>0
 | .fo _ _ _=>0
 | .exn _ _ _=>0
 | .non=>0
 | .bl _=>0
 | .int _=>0
 | .str _=>0
def D.dps:List D->Nat
 | []=>0
 | x::r=>max (D.dp x) (D.dps r)
end
mutual
def D.nd:D->Bool
 | .tup xs=>D.nds xs
 | .lst xs=>D.nds xs
 | .fz xs=>D.nds xs
 | .dct _ _=>false
 | .fd _ _=>false
 | .fo _ _ _=>false
 | .exn _ _ _=>false
 | .non=>true
 | .bl _=>true
 | .int _=>true
 | .str _=>true
def D.nds:List D->Bool
 | []=>true
 | x::r=>D.nd x&&D.nds r
end
def cC(A:Around):A.in1.units=A.units+1:=rfl
def iu(n:Nat):((List.range n).all λ_=>true)=true:=by simp
section
variable {pins:List (Addr×Obj)} {σ:L2.St} {H:Hp} {s:Shared} {M:Addr→Prop}
mutual
def CD(I:Inv X pins σ H s):∀(d:D) (A:Around) (v v':V) (u u':Value),d.nd=true->A.units+d.dp<cLine->Fr X.K M H d v->Fr X.K M H d v'->bB v u->bB v' u'->SeqAt.EqAt A s u u' true
 | .non,A,v,v',u,u',_,_,r,r',q,q'=>by
  unfold Fr at r r';subst r r';have:=p9 (A:=A) (s:=s) q q' rfl rfl;exact this
 | .bl b,A,v,v',u,u',_,_,r,r',q,q'=>by
  unfold Fr at r r';subst r r';have:=p9 (A:=A) (s:=s) q q' rfl rfl;simpa [eqV] using this
 | .int b,A,v,v',u,u',_,_,r,r',q,q'=>by
  unfold Fr at r r';subst r r';have:=p9 (A:=A) (s:=s) q q' rfl rfl;simpa [eqV] using this
 | .str b,A,v,v',u,u',_,_,r,r',q,q'=>by
  unfold Fr at r r';subst r r';have:=p9 (A:=A) (s:=s) q q' rfl rfl;simpa [eqV] using this
 | .tup ds,A,v,v',u,u',hn,hd,r,r',q,q'=>by
  unfold Fr at r r';obtain⟨a,vs,rfl,sq,rs⟩:=r;obtain⟨b,ws,rfl,sq',rs'⟩:=r'
  cases q
  cases q'
  unfold D.dp at hd
  by_cases e:a=b
  ·subst e;exact IF _
  ·obtain⟨its,r1,t1,_⟩:=I.tuple sq;obtain⟨its',r2,t2,_⟩:=I.tuple sq';have hs:its.length=its'.length:=by rw[<- r1.length,<- r2.length,<- Reps.length _ _ rs,<- Reps.length _ _ rs']
   have k:=SeqAt.RcAt.tuples (A:=A) (e:=λ_=>true) t1 t2 (by omega) (eqAt_Ds I ds A.in1 vs ws its its' hn (by rw[cC];omega) rs rs' r1 r2)
   have z:((List.range (min its.toArray.size its'.toArray.size)).all (λ_=>true)&&its.toArray.size==its'.toArray.size)=true:=by simp[hs]
   rw[z] at k;exact SeqAt.EqAt.of_refs e k
 | .lst ds,A,v,v',u,u',hn,hd,r,r',q,q'=>by
  unfold Fr at r r';obtain⟨a,vs,rfl,_,sq,rs⟩:=r;obtain⟨b,ws,rfl,_,sq',rs'⟩:=r'
  cases q
  cases q'
  unfold D.dp at hd
  by_cases e:a=b
  ·subst e;exact IF _
  ·obtain⟨its,r1,t1,_⟩:=I.list (FA.of sq);obtain⟨its',r2,t2,_⟩:=I.list (FA.of sq');have hs:its.length=its'.length:=by rw[<- r1.length,<- r2.length,<- Reps.length _ _ rs,<- Reps.length _ _ rs']
   have k:=SeqAt.RcAt.lists (A:=A) (e:=λ_=>true) t1.isList t2.isList (by simp[hs]) (by omega) (eqAt_Ds I ds A.in1 vs ws its its' hn (by rw[cC];omega) rs rs' r1 r2)
   rw[iu] at k;exact SeqAt.EqAt.of_refs e k
 | .fz ds,A,v,v',u,u',hn,hd,r,r',q,q'=>by
  unfold Fr at r r';obtain⟨a,vs,rfl,sq,rs⟩:=r;obtain⟨b,ws,rfl,sq',rs'⟩:=r'
  cases q
  cases q'
  unfold D.dp at hd
  by_cases e:a=b
  ·subst e;exact IF _
  ·obtain⟨its,r1,t1,_⟩:=I.list sq.seq;obtain⟨its',r2,t2,_⟩:=I.list sq'.seq;have hs:its.length=its'.length:=by rw[<- r1.length,<- r2.length,<- Reps.length _ _ rs,<- Reps.length _ _ rs']
   have k:=SeqAt.RcAt.lists (A:=A) (e:=λ_=>true) t1.isList t2.isList (by simp[hs]) (by omega) (eqAt_Ds I ds A.in1 vs ws its its' hn (by rw[cC];omega) rs rs' r1 r2)
   rw[iu] at k;exact SeqAt.EqAt.of_refs e k
 | .dct ks ds,A,v,v',u,u',hn,_,_,_,_,_=>by unfold D.nd at hn;cases hn
 | .fd ks ds,A,v,v',u,u',hn,_,_,_,_,_=>by unfold D.nd at hn;cases hn
 | .fo o ks ds,A,v,v',u,u',hn,_,_,_,_,_=>by unfold D.nd at hn;cases hn
 | .exn _ _ _,A,v,v',u,u',hn,_,_,_,_,_=>by unfold D.nd at hn;cases hn
def eqAt_Ds(I:Inv X pins σ H s):∀(ds:List D) (A:Around) (vs ws:List V) (us us':List Value),D.nds ds=true->A.units+D.dps ds<cLine->Reps X.K M H ds vs->Reps X.K M H ds ws->bF vs us->bF ws us' ->
  ∀j (h1:j<us.toArray.size) (h2:j<us'.toArray.size),SeqAt.EqAt A s us.toArray[j] us'.toArray[j] true
 | [],A,vs,ws,us,us',_,_,r,r',q,q',j,h1,h2=>by
  unfold Reps at r;subst r
  cases q
  exact absurd h1 (by simp)
 | d::ds,A,vs,ws,us,us',hn,hd,r,r',q,q',j,h1,h2=>by
  unfold Reps at r r';obtain⟨v,vr,rfl,rv,rs⟩:=r;obtain⟨w',wr,rfl,rw',rs'⟩:=r';unfold D.nds at hn;obtain⟨n1,n2⟩:=Gq.mp hn;unfold D.dps at hd
  cases q with
  | @cons _ u0 _ ur qa qb =>
   cases q' with
   | @cons _ u1 _ ur' qa' qb' =>
    cases j with
    | zero=>exact CD I d A v w' _ _ n1 (by omega) rv rw' qa qa'
    | succ j =>
     have z:=eqAt_Ds I ds A vr wr ur ur' n2 (by omega) rs rs' qb qb' j (by simpa using h1) (by simpa using h2)
     simpa using z
end
end
def ye{i j:Int}:decide (V.int i=V.int j)=decide (i=j):=by rw[n9];exact Iw _ _
def Cl:decide (V.bl i=V.bl j)=decide (i=j):=by rw[t7];exact Iw _ _
def xV{i j:Str}:decide (V.str i=V.str j)=decide (i=j):=by rw[nW];exact Iw _ _
def fEq:List D->(D->Prop)->Prop
 | [.int i,.int j],R=>R (.bl (decide (i=j)))
 | [.str x,.str y],R=>R (.bl (decide (x=y)))
 | [.bl a,.bl b],R=>R (.bl (decide (a=b)))
 | [.tup xs,.tup ys],R=>(xs=ys/\D.nds xs=true/\D.dps xs<=60)/\R (.bl true)
 | [.lst xs,.lst ys],R=>((xs=ys/\D.nds xs=true/\D.dps xs<=60)/\R (.bl true))\/(xs.length≠ys.length/\R (.bl false))
 | _,_=>False
def By:∀ {d0:List D} {R:D->Prop},fEq d0 R->((∃(i:Int) (j:Int),d0=[.int i,.int j]/\R (.bl (decide (i=j))))\/(∃(x:Str) (y:Str),d0=[.str x,.str y]/\R (.bl (decide (x=y))))\/(∃(a:Bool) (b:Bool),d0=[.bl a,.bl b]/\R (.bl (decide (a=b))))\/(∃(xs:List D) (ys:List D),d0=[.tup xs,.tup ys]/\(xs=ys/\D.nds xs=true/\D.dps xs<=60)/\R (.bl true))\/(∃(xs:List D) (ys:List D),d0=[.lst xs,.lst ys]/\(((xs=ys/\D.nds xs=true/\D.dps xs<=60)/\R (.bl true))\/(xs.length≠ys.length/\R (.bl false))))):=by walk_at "or"
def AZ{i j:Int}{R:D->Prop}:fEq [.int i,.int j] R=(R (.bl (decide (i=j)))):=rfl
def zB{i j:Str}{R:D->Prop}:fEq [.str i,.str j] R=(R (.bl (decide (i=j)))):=rfl
def Dl{R:D->Prop}:fEq [.bl i,.bl j] R=(R (.bl (decide (i=j)))):=rfl
def yU{i j:List D}{R:D->Prop}:fEq [.tup i,.tup j] R=((i=j/\D.nds i=true/\D.dps i<=60)/\R (.bl true)):=rfl
def dw(hu:X.A.units+64<cLine):FH X (compareOp .Eq) λx y=>aU X.K fEq [x,y]:=by
 intro pins s σ H x y v u Q I rx ry h;obtain⟨M,ds,R,m,rs,h,k⟩:=h;replace h:=By h
 rcases h with⟨_,_,rfl,h⟩ | ⟨_,_,rfl,h⟩ | ⟨_,_,rfl,h⟩ | ⟨_,_,rfl,h⟩ | ⟨_,_,rfl,h⟩
 ·obtain⟨h1,h2⟩:=cc rs
  cases aM h1
  cases aM h2
  refine zH pins s σ H _ _ v u Q I rx ry ⟨rfl,?_⟩;rw[ye];exact k _ h _ H (bY.refl H) (Fr.sc rfl)
 ·obtain⟨h1,h2⟩:=cc rs
  cases bD h1
  cases bD h2
  refine zH pins s σ H _ _ v u Q I rx ry ⟨rfl,?_⟩;rw[xV];exact k _ h _ H (bY.refl H) (Fr.sc rfl)
 ·obtain⟨h1,h2⟩:=cc rs
  cases gG h1
  cases gG h2
  refine zH pins s σ H _ _ v u Q I rx ry ⟨rfl,?_⟩;rw[Cl];exact k _ h _ H (bY.refl H) (Fr.sc rfl)
 ·obtain⟨⟨e,hn,hd⟩,h⟩:=h;subst e;obtain⟨h1,h2⟩:=cc rs;unfold Fr at h1 h2;obtain⟨a,vs,rfl,sq,rs1⟩:=h1;obtain⟨b,ws,rfl,sq',rs2⟩:=h2
  cases rx
  cases ry
  obtain⟨its,r1,t1,_⟩:=I.tuple sq;obtain⟨its',r2,t2,_⟩:=I.tuple sq';have hs:its.length=its'.length:=by rw[<- r1.length,<- r2.length,<- Reps.length _ _ rs1,<- Reps.length _ _ rs2]
  refine SeqAt.eq_tupleAt (e:=λ_=>true) t1 t2 (by omega) (eqAt_Ds I _ X.A.in1 vs ws its its' hn (by rw[cC];omega) rs1 rs2 r1 r2) ?_;have z:((List.range (min its.toArray.size its'.toArray.size)).all (λ_=>true)&&its.toArray.size==its'.toArray.size)=true:=by simp[hs]
  rw[z];exact⟨.bl true,H,I,rfl,k _ h _ H (bY.refl H) (Fr.sc rfl)⟩
 ·obtain⟨h1,h2⟩:=cc rs;unfold Fr at h1 h2;obtain⟨a,vs,rfl,_,sq,rs1⟩:=h1;obtain⟨b,ws,rfl,_,sq',rs2⟩:=h2
  cases rx
  cases ry
  obtain⟨its,r1,t1,_⟩:=I.list (FA.of sq);obtain⟨its',r2,t2,_⟩:=I.list (FA.of sq')
  rcases h with⟨⟨e,hn,hd⟩,h⟩ | ⟨ne,h⟩
  ·subst e;have hs:its.length=its'.length:=by rw[<- r1.length,<- r2.length,<- Reps.length _ _ rs1,<- Reps.length _ _ rs2]
   refine SeqAt.eq_listAt (e:=λ_=>true) t1.isList t2.isList (by simp[hs]) (by omega) (eqAt_Ds I _ X.A.in1 vs ws its its' hn (by rw[cC];omega) rs1 rs2 r1 r2) ?_;rw[iu];exact⟨.bl true,H,I,rfl,k _ h _ H (bY.refl H) (Fr.sc rfl)⟩
  ·refine SeqAt.eq_list_lengthsAt t1.isList t2.isList ?_ (by omega) ⟨.bl false,H,I,rfl,k _ h _ H (bY.refl H) (Fr.sc rfl)⟩;have l1:=r1.length;have l2:=r2.length;have l3:=Reps.length _ _ rs1;have l4:=Reps.length _ _ rs2;simp only[List.size_toArray,bne_iff_ne,ne_eq];omega
def fNe:List D->(D->Prop)->Prop
 | [.int i,.int j],R=>R (.bl (!decide (i=j)))
 | [.str x,.str y],R=>R (.bl (!decide (x=y)))
 | [.bl a,.bl b],R=>R (.bl (!decide (a=b)))
 | _,_=>False
def CM:∀ {d0:List D} {R:D->Prop},fNe d0 R->((∃(i:Int) (j:Int),d0=[.int i,.int j]/\R (.bl (!decide (i=j))))\/(∃(x:Str) (y:Str),d0=[.str x,.str y]/\R (.bl (!decide (x=y))))\/(∃(a:Bool) (b:Bool),d0=[.bl a,.bl b]/\R (.bl (!decide (a=b))))):=by walk_at "or"
def o_ne(_:X.A.units+64<cLine):FH X (compareOp .NotEq) λx y=>aU X.K fNe [x,y]:=by
 intro pins s σ H x y v u Q I rx ry h;obtain⟨M,ds,R,m,rs,h,k⟩:=h;replace h:=CM h
 rcases h with⟨_,_,rfl,h⟩ | ⟨_,_,rfl,h⟩ | ⟨_,_,rfl,h⟩
 ·obtain⟨h1,h2⟩:=cc rs
  cases aM h1
  cases aM h2
  refine Ay pins s σ H _ _ v u Q I rx ry ⟨rfl,?_⟩;rw[ye];exact k _ h _ H (bY.refl H) (Fr.sc rfl)
 ·obtain⟨h1,h2⟩:=cc rs
  cases bD h1
  cases bD h2
  refine Ay pins s σ H _ _ v u Q I rx ry ⟨rfl,?_⟩;rw[xV];exact k _ h _ H (bY.refl H) (Fr.sc rfl)
 ·obtain⟨h1,h2⟩:=cc rs
  cases gG h1
  cases gG h2
  refine Ay pins s σ H _ _ v u Q I rx ry ⟨rfl,?_⟩;rw[Cl];exact k _ h _ H (bY.refl H) (Fr.sc rfl)
def fIs:List D->(D->Prop)->Prop
 | [.bl a,.bl b],R=>R (.bl (decide (a=b)))
 | [.non,.non],R=>R (.bl true)
 | [.tup _,.non],R=>R (.bl false)
 | [.exn _ _ _,.non],R=>R (.bl false)
 | _,_=>False
def CS{d0:List D}{R:D->Prop}(h:fIs d0 R):(∃(a:Bool) (b:Bool),d0=[.bl a,.bl b]/\R (.bl (decide (a=b))))\/(d0=[.non,.non]/\R (.bl true))\/(∃(z1:List D),d0=[.tup z1,.non]/\R (.bl false))\/(∃(c f:Str) (z1:D),d0=[.exn c f z1,.non]/\R (.bl false)):=by
 rcases d0 with _ | ⟨a,_ | ⟨b,_ | ⟨c,l⟩⟩⟩
 ·exact False.elim h
 ·cases a<;>exact False.elim h
 ·cases a<;>first | exact False.elim h | (cases b<;>first | exact False.elim h | exact .inl ⟨_,_,rfl,h⟩ | exact .inr (.inl ⟨rfl,h⟩) | exact .inr (.inr (.inl ⟨_,rfl,h⟩)) | exact .inr (.inr (.inr ⟨_,_,_,rfl,h⟩)))
 ·cases a<;>first | exact False.elim h | (cases b<;>exact False.elim h)
def Cs{R:D->Prop}:fIs [.bl i,.bl j] R=(R (.bl (decide (i=j)))):=rfl
def Ci:FH X (compareOp .Is) (λx y H Q=>∃a b,x=.bl a/\y=.bl b/\Q (.bl (decide (a=b))) H):=by
 intro pins s σ H x y v u Q I rx ry h;obtain⟨a,b,rfl,rfl,q⟩:=h
 cases rx
 cases ry
 refine wpAny_is_plain rfl ⟨.bl _,H,I,rfl,?_⟩;have e:(Value.bool a==Value.bool b)=decide (a=b):=by cases a<;>cases b<;>rfl
 rw[e];exact q
def Aj:FH X (compareOp .Is) λx y=>aU X.K fIs [x,y] :=
  FH.imp (FH.or Ci BO) λx y H Q ⟨M,ds,R,m,rs,h,k⟩=>by
    have fin:∀b,R (.bl b)->Q (.bl b) H:=λb r=>k _ r _ H (bY.refl H) (Fr.sc rfl)
    replace h:=CS h
    rcases h with⟨_,_,rfl,h⟩ | ⟨rfl,h⟩ | ⟨_,rfl,h⟩ | ⟨_,_,_,rfl,h⟩
    · obtain⟨h1,h2⟩:=cc rs;exact .inl ⟨_,_,gG h1,gG h2,fin _ h⟩
    all_goals first
      | exact h.elim
      | (obtain⟨h1,h2⟩:=cc rs
         unfold Fr at h1 h2
         first
           | (subst h1;exact .inr ⟨h2,fin _ h⟩)
           | (obtain⟨a,vs,e,_⟩:=h1;subst e;exact .inr ⟨h2,fin _ h⟩)
           | (obtain⟨y,⟨e,C,dx,e1,_⟩,_⟩:=h1;subst e1;exact .inr ⟨h2,fin _ h⟩))
def tyN:D->String
 | .non=>"NoneType"
 | .bl _=>"bool"
 | .int _=>"int"
 | .str _=>"str"
 | .tup _=>"tuple"
 | .lst _=>"list"
 | .fz _=>"list"
 | .dct _ _=>"dict"
 | .fd _ _=>"dict"
 | .fo _ _ _=>"dict"
 | .exn _ _ _=>"NoneType"
def D.noX:D->Prop
 | .exn _ _ _=>False
 | _=>True
def isT(T n:String):Bool:=n==T||(n=="bool"&&T=="int")
def mW(T:String):Prop:=∀(K:PySem.W.Frag) (n:String),n∈["NoneType","bool","int","str","tuple","list","dict"]->PySem.W.kitOne K (.type n) (.type T)=some (isT T n)
def AA(d:D):tyN d∈["NoneType","bool","int","str","tuple","list","dict"]:=by cases d<;>simp[tyN]
def EJ{pins:List (Addr×Obj)}{σ:L2.St}{H:Hp}{s:Shared}{A:Around}{E:Value->Shared->Prop}{M:Addr->Prop}{d:D}{v:V}{u:Value}{Q:Value->Shared->Prop}(I:L2.Inv X pins σ H s)(r:Fr X.K M H d v)(nx:d.noX)(ru:bB v u)(ht:mW T)
  (h:∀tk,Q (.bool (isT T (tyN d))) { s with toks:=tk }):wpAny (model X.prog X.w) A (call (.builtin "isinstance") [u,.type T]) Q E s:=by
 have e:=ht X.K (tyN d) (AA d)
 cases d with
 | non=>unfold Fr at r;subst r;exact c6 I ru (.non) e h
 | bl b=>unfold Fr at r;subst r;exact c6 I ru (.bl b) e h
 | int b=>unfold Fr at r;subst r;exact c6 I ru (.int b) e h
 | str b=>unfold Fr at r;subst r;exact c6 I ru (.str b) e h
 | tup xs =>
  unfold Fr at r;obtain⟨a,vs,rfl,sq,_⟩:=r
  cases ru
  obtain⟨its,_,⟨o,h1,h2,_⟩,_⟩:=I.tuple sq;exact GI PySem.W.kitx_tuple I.kIn ⟨o,h1,h2⟩ e (λz=>nomatch z) h
 | lst xs=>unfold Fr at r;obtain⟨a,vs,rfl,_,sq,_⟩:=r;exact c6 I ru (.lst sq) e h
 | fz xs =>
  unfold Fr at r;obtain⟨a,vs,rfl,sq,_⟩:=r
  cases ru
  obtain⟨its,_,⟨o,n,h1,h2,_⟩,_⟩:=I.list sq.seq;exact GI PySem.W.kitx_list I.kIn ⟨o,h1,h2⟩ e (λz=>nomatch z) h
 | dct ks xs=>unfold Fr at r;obtain⟨a,vs,rfl,_,sq,_⟩:=r;exact c6 I ru (.dK sq) e h
 | fd ks xs =>
  unfold Fr at r;obtain⟨a,vs,o,rfl,sq,_⟩:=r
  cases ru
  obtain⟨_,_,va,_,da⟩:=iH I.hok (.inr ⟨o,sq⟩);obtain⟨o2,h1,h2⟩:=da.typeIs;exact GI Ii I.kIn ⟨o2,h1,h2⟩ e (λz=>nomatch z) h
 | fo o ks xs =>
  unfold Fr at r;obtain⟨a,vs,rfl,sq,_⟩:=r
  cases ru
  obtain⟨_,_,va,_,da⟩:=iH I.hok (.inr ⟨o,sq⟩);obtain⟨o2,h1,h2⟩:=da.typeIs;exact GI Ii I.kIn ⟨o2,h1,h2⟩ e (λz=>nomatch z) h
 | exn c f x=>exact nx.elim
def Fq(T:String):D->(Bool->Prop)->Prop
 | .exn _ _ _,_=>False
 | x,k=>k (isT T (tyN x))
def Fq.ex{x:D}{k:Bool->Prop}(h:Fq T x k):x.noX/\k (isT T (tyN x)):=by cases x<;>first | exact False.elim h | exact⟨trivial,h⟩
def kIs(T:String)(R:W->En->Prop):W->En->Prop:=wd λx δ1=>Fq T x λb=>R (.d (.bl b)) δ1
def dIsi(T:String)(t:FQ)(δ:En)(R:W->En->Prop):Prop:=t δ (kIs T R)
def rIsi(K:PySem.W.Frag)(T:String):List V->Hp->VK->Prop:=λxs H Q=>∃x M d,xs=[x,.ty T]/\Fr K M H d x/\d.noX/\Q (.bl (isT T (tyN d))) H
def vF(ht:mW T):bP X (.builtin "isinstance") (rIsi X.K T):=by
 intro pins s σ H xs us Q I r h;obtain⟨x,M,d,rfl,rx,nx,q⟩:=h;obtain⟨u,w',rfl,ru,rw'⟩:=BS r
 cases rw'
 exact EJ I rx nx ru ht λtk=>⟨.bl _,H,I.tok _,rfl,q⟩
def iT{T:Str}{n:String}{a:Expr}{ta:FQ}{p p2 pos:Pos}(ht:mW n)(hg:Gl X "isinstance")(hm:X.mg "isinstance"=none)(hgT:Gl X T)(hmT:X.mg T=none)(hvT:bootBuiltins T=some (.type n))(ha:DE X a ta)
  (hnT:T≠"__name__":=by decide) (hdT:(T==("__debug__":Str))=false:=by decide)
  (he:starEach [a,.Name T p2] X.env=(false,eval a X.env)::starEach [.Name T p2] X.env:=by rfl) (he2:starEach [.Name T p2] X.env=(false,eval (.Name T p2) X.env)::starEach [] X.env:=by rfl) (hpl:(backTo pos (starEach [.Name T p2] X.env)).any (·.1)=false:=by rfl) :
  DE X (.Call (.Name "isinstance" p) [a,.Name T p2] [] pos) (dIsi n ta) :=
 PE.imp (kT (vF ht) hg hm l9 (bC ha (bC (AB (v:=.ty n) hgT hmT hvT rfl hnT hdT) eB he2) he) (by decide) (by decide) he hpl) λσ H Q ⟨G,δ,P,R,s,h,k,_⟩=>up.mk s h λd δ1 h1 v H1 s1=>by
  obtain⟨A,q⟩:=id s1;replace h1:=Fq.ex h1;exact⟨v,_,d,rfl,q.pnd (d,v) (by simp),h1.1,k _ δ1 h1.2 _ H1 ((s1.sub (P':=P) λp hp=>FU _ hp).sc rfl)⟩
def C7:mW "int":=λK n hn=>by
 simp only[List.mem_cons,List.not_mem_nil,or_false] at hn
 rcases hn with rfl | rfl | rfl | rfl | rfl | rfl | rfl<;>with_unfolding_all rfl
def y8:mW "bool":=λK n hn=>by
 simp only[List.mem_cons,List.not_mem_nil,or_false] at hn
 rcases hn with rfl | rfl | rfl | rfl | rfl | rfl | rfl<;>with_unfolding_all rfl
def kP:mW "tuple":=λK n hn=>by
 simp only[List.mem_cons,List.not_mem_nil,or_false] at hn
 rcases hn with rfl | rfl | rfl | rfl | rfl | rfl | rfl<;>with_unfolding_all rfl
def ud:mW "dict":=λK n hn=>by
 simp only[List.mem_cons,List.not_mem_nil,or_false] at hn
 rcases hn with rfl | rfl | rfl | rfl | rfl | rfl | rfl<;>with_unfolding_all rfl
end
end DL
namespace DL
open PySem PySem.Spec PyProof.Rows L2
variable {caps:List (Nat×Str)} {i nt:Nat} {d:D} {xs:List D} {f:D→Option D} {g:TDG} {tc:TDT}
section
variable {K:PySem.W.Frag} {G:Gf} {A A':Addr→Prop} {δ:List Sl} {P P':List (D×V)} {σ:L2.St} {H H':Hp}
def Sx.addA{p:Addr}(s:Sx K G A δ P σ H)(hn:H p=none)(hs:bY H H')(hp:H' p≠none):Sx K G (λb=>A b\/b=p) δ P σ H':=by
 have x:=s.same hs
 have hM:∀b,(G.M0 b\/(A b\/b=p))->(G.M0 b\/A b)\/H b=none:=λb h=>by
  rcases h with h | h | h
  ·exact .inl (.inl h)
  ·exact .inl (.inr h)
  ·subst h;exact .inr hn
 have up:∀d v,Fr K (λb=>G.M0 b\/A b) H d v->Fr K (λb=>G.M0 b\/(A b\/b=p)) H' d v:=λd v r=>Fr.kp (Kp.of_same hs) _ _ (Fr.more hM _ _ r)
 have h0:G.H0 p=none:=by
  cases q:G.H0 p with
  | none=>rfl
  | some o=>exact absurd hn (s.stay p (by rw[q];exact λz=>nomatch z))
 refine⟨x.old,x.stay,x.m0,x.pm,λb h=>h.elim (s.new b) λe=>.inl (by rw[e];exact h0),λb h=>h.elim (x.thr b) λe=>by rw[e];exact hp,s.len,λj d' e=>?_,λj b d' e=>?_,s.inj,λq hq=>up _ _ (s.pnd q hq)⟩
 ·obtain⟨v,q,r⟩:=s.dat j d' e;exact⟨v,q,up _ _ r⟩
 ·obtain⟨q,r,o⟩:=s.own j b d' e;refine⟨q,.inl r,bm.kp (Kp.of_same hs) ?_ (bm.more hM o)⟩
  cases z:H b with
  | none=>exact absurd z (s.thr b r)
  | some o'=>exact hs b o' z
def Sx.subA(s:Sx K G A δ P σ H)(hA:∀b,A' b->A b)(ho:∀(i:Nat) a d,δ[i]?=some (.own a d)->A' a):Sx K G A' δ P σ H:=by
 have hM:∀b,(G.M0 b\/A' b)->(G.M0 b\/A b)\/H b=none:=λb h=>.inl (h.elim .inl λz=>.inr (hA b z))
 exact⟨s.old,s.stay,s.m0,s.pm,λb h=>s.new b (hA b h),λb h=>s.thr b (hA b h),s.len,λi d e=>let ⟨v,q,r⟩:=s.dat i d e;⟨v,q,Fr.more hM _ _ r⟩,λi a d e=>let ⟨q,_,o⟩:=s.own i a d e;⟨q,ho i a d e,bm.more hM o⟩,s.inj,
  λp hp=>Fr.more hM _ _ (s.pnd p hp)⟩
def Sx.poke{p:Addr}{vs ws:List V}(s:Sx K G A δ P σ H)(hp:A p)(hv:H p=some (.lst vs))(hno:∀(i:Nat) d,δ[i]?≠some (.own p d)):Sx K G A δ P σ (FI H p (.lst ws)):=by
 have hk:∀b o,b≠p->H b=some o->FI H p (.lst ws) b=some o:=λb o n e=>by rw[aI n];exact e
 have kp:Kp (λb=>G.M0 b\/A b) H (FI H p (.lst ws)):=⟨λb o e n=>hk b o (λz=>n (.inr (by rw[z];exact hp))) e,λb xs e=>hk b _ (λz=>by rw[z,hv] at e;cases e) e,λb o u e=>hk b _ (λz=>by rw[z,hv] at e;cases e) e⟩
 have stay:∀b,H b≠none->FI H p (.lst ws) b≠none:=λb e=>by
  by_cases z:b=p
  ·rw[z,aF];exact λz=>nomatch z
  ·rw[aI z];exact e
 have na:∀b o,G.H0 b=some o->¬ G.Pm b->b≠p:=λb o e n z=>(s.new p hp).elim (λq=>by rw[z] at e;rw[e] at q;cases q) λq=>n (by rw[z];exact q)
 refine⟨λb o e n=>hk b o (na b o e n) (s.old b o e n),λb e=>stay b (s.stay b e),s.m0,s.pm,s.new,λb e=>stay b (s.thr b e),s.len,λi d e=>let ⟨v,q,r⟩:=s.dat i d e;⟨v,q,Fr.kp kp _ _ r⟩,λi a d e=>?_,s.inj,λq hq=>Fr.kp kp _ _ (s.pnd q hq)⟩;obtain⟨q,r,o⟩:=s.own i a d e;have ne:a≠p:=λz=>by subst z;exact hno i d e
 exact⟨q,r,bm.kp kp (by rw[aI ne]) o⟩
end
def sP:Option Sl->Sl
 | some (.dat d)=>.dat d
 | _=>.no
def ig(caps:List (Nat×Str))(δ:En):En:=caps.map λp=>sP δ[p.1]?
def oS:Option D->Sl
 | none=>.no
 | some d=>.dat d
def wB:Nat->(List Sl->Prop)->Prop
 | 0,p=>p []
 | n+1,p=>∀t:Option D,wB n λts=>p (oS t::ts)
def okT:Nat->En->En->Prop
 | 0,δ,c=>δ=c
 | n+1,.dat _::r,c=>okT n r c
 | _+1,_,_=>False
abbrev TDC:=En->(List D->En->Prop)->Prop
def AQ(src:TDC)(nt:Nat)(caps:List (Nat×Str))(g:TDG)(tc:TDT)(te:FQ)(δ:En)(R:W->En->Prop):Prop:=src δ λxs δ1=>xs.length<=9000/\∃f:D->Option D,
 (∀x∈xs,wB nt λts=>g x (ts++ig caps δ1) λδ2=>tc δ2 λb δ3=>if b=true then te δ3 (wd λy δ4=>okT nt δ4 (ig caps δ1)/\f x=some y) else okT nt δ3 (ig caps δ1)/\f x=none)/\R (.d (.lst (xs.filterMap f))) δ1
def pH:∀ {n:Nat} {p:List Sl->Prop},wB n p->∀ts:List (Option D),ts.length=n->p (ts.map oS)
 | 0,p,h,ts,e=>by rw[Hb.mp e];exact h
 | n+1,p,h,[],e=>by cases e
 | n+1,p,h,t::ts,e=>pH (h t) ts (HD e)
def nC:∀ {n:Nat} {δ c:En},okT n δ c->∃ts:List (Option D),ts.length=n/\δ=ts.map oS++c
 | 0,δ,c,h=>⟨[],rfl,h⟩
 | n+1,[],c,h=>h.elim
 | n+1,.dat d::r,c,h=>by
  obtain⟨ts,e,q⟩:=nC (n:=n) (δ:=r) h;exact⟨some d::ts,by rw[F8,e],by rw[q];rfl⟩
 | n+1,.no::r,c,h=>h.elim
 | n+1,.own _ _::r,c,h=>h.elim
section
variable {K:PySem.W.Frag} {G:Gf} {δ:List Sl} {P:List (D×V)} {σ:L2.St}
def wJ(e:(ig caps δ)[i]?=some (.dat d)):∃p,caps[i]?=some p/\δ[p.1]?=some (.dat d):=by
 unfold ig at e;rw[List.getElem?_map] at e
 cases hc:caps[i]? with
 | none=>rw[hc] at e;cases e
 | some p =>
  rw[hc] at e;refine⟨p,rfl,?_⟩;have e:=Gc e
  cases q:δ[p.1]? with
  | none=>simp[q,sP] at e
  | some z =>
   cases z with
   | dat d'=>simp only[q,sP] at e;cases e;rfl
   | no=>simp[q,sP] at e
   | own _ _=>simp[q,sP] at e
def kG{a:Addr}(e:(ig caps δ)[i]?=some (.own a d)):False:=by
 unfold ig at e;rw[List.getElem?_map] at e
 cases hc:caps[i]? with
 | none=>rw[hc] at e;cases e
 | some p =>
  rw[hc] at e;have e:=Gc e
  cases q:δ[p.1]? with
  | none=>simp[q,sP] at e
  | some z=>cases z<;>simp[q,sP] at e
def EK{A:Addr->Prop}{H:Hp}(s:Sx K G A δ P σ H):Sx K ⟨λb=>G.M0 b\/A b,H,λ_=>False⟩ (λ_=>False) ((List.replicate nt none).map oS++ig caps δ) [] (vn nt caps σ) H:=by
 have hM:∀b,((G.M0 b\/A b)\/False)->(G.M0 b\/A b)\/H b=none:=λb h=>h.elim .inl λz=>z.elim
 have hr:(List.replicate nt none).map oS=List.replicate nt Sl.no:=by rw[List.map_replicate];rfl
 rw[hr];refine⟨λb o e _=>e,λb e=>e,s.mem,λb h=>h.elim,λb h=>h.elim,λb h=>h.elim,?_,λi d e=>?_,λi a d e=>?_,λi j a d e h1 _=>?_,λp hp=>(nomatch hp)⟩
 ·unfold ig vn;rw[F1,F1,Gm,Gm,FR,FR]
 ·by_cases hi:i<nt
  ·rw[List.getElem?_append_left (by rw[Gm];exact hi),List.getElem?_replicate,Gd hi] at e
   cases e
  ·rw[List.getElem?_append_right (by rw[Gm];omega),Gm] at e;obtain⟨p,hp,hd⟩:=wJ e;obtain⟨v,q,r⟩:=s.dat _ _ hd;refine⟨v,?_,Fr.more hM _ _ r⟩;unfold vn;rw[List.getElem?_append_right (by rw[Gm];omega),Gm,List.getElem?_map,hp];show some ((σ[p.1]?).join)=_;rw[q];rfl
 all_goals
  exfalso
 ·by_cases hi:i<nt
  ·rw[List.getElem?_append_left (by rw[Gm];exact hi),List.getElem?_replicate,Gd hi] at e
   cases e
  ·rw[List.getElem?_append_right (by rw[Gm];omega)] at e;exact kG e
 ·by_cases hi:i<nt
  ·rw[List.getElem?_append_left (by rw[Gm];exact hi),List.getElem?_replicate,Gd hi] at h1
   cases h1
  ·rw[List.getElem?_append_right (by rw[Gm];omega)] at h1;exact kG h1
def xG{ts:List (Option D)}{a:Addr}(e:(ts.map oS++ig caps δ)[i]?=some (.own a d)):False:=by
 by_cases hi:i<ts.length
 ·rw[List.getElem?_append_left (by rw[FR];exact hi),List.getElem?_map] at e
  cases hc:ts[i]? with
  | none=>rw[hc] at e;cases e
  | some o =>
   rw[hc] at e
   cases o<;>cases e
 ·rw[List.getElem?_append_right (by rw[FR];omega)] at e;exact kG e
def re_S{M:Addr->Prop}{A2:Addr->Prop}{ts:List (Option D)}{H H5 H6:Hp}{P2:List (D×V)}{σ2:L2.St}(s:Sx K ⟨M,H,λ_=>False⟩ A2 (ts.map oS++ig caps δ) P2 σ2 H5)(k:Kp M H5 H6)(hm:∀b,M b->H6 b≠none) :
  Sx K ⟨M,H6,λ_=>False⟩ (λ_=>False) (ts.map oS++ig caps δ) [] σ2 H6:=by
 have hM:∀b,(M b\/False)->(M b\/A2 b)\/H5 b=none:=λb h=>.inl (h.elim .inl λz=>z.elim)
 have k':Kp (λb=>M b\/False) H5 H6:=⟨λb o e n=>k.un b o e λz=>n (.inl z),k.tu,k.fr⟩
 exact⟨λb o e _=>e,λb e=>e,hm,λb h=>h.elim,λb h=>h.elim,λb h=>h.elim,s.len,λi d e=>let ⟨v,q,r⟩:=s.dat i d e;⟨v,q,Fr.kp k' _ _ (Fr.more hM _ _ r)⟩,λi a d e=>(xG e).elim,
  λi j a d e h1 _=>(xG h1).elim,λp hp=>(nomatch hp)⟩
def jG{x:D}(h:xs[i]?=some x):(xs.take (i+1)).filterMap f=(xs.take i).filterMap f++(match f x with | some y=>[y] | none=>[]):=by
 rw[List.take_add_one,h,List.filterMap_append]
 cases e:f x<;>simp[e]
def j6{J:It}{te:FQ}{H1:Hp}{Q:VK}(s:S K G δ P σ H1)(hz:xs.length<=9000)
  (hgo:∀A i H,Sx K G A δ P σ H->i<xs.length->J.go i H) (hst:∀A H,Sx K G A δ P σ H->J.stop xs.length H)
  (hyl:∀A i x H H2,Sx K G A δ P σ H->i<xs.length->J.yld i H x H2->bY H H2/\∃d,xs[i]?=some d/\Fr K (λb=>G.M0 b\/A b) H2 d x)
  (hf:∀x∈xs,wB nt λts=>g x (ts++ig caps δ) λδ2=>tc δ2 λb δ3=>if b=true then te δ3 (wd λy δ4=>okT nt δ4 (ig caps δ)/\f x=some y) else okT nt δ3 (ig caps δ)/\f x=none)
  (p:Addr) (hp:H1 p=none) (k:∀(A:Addr->Prop) acc H',¬ (G.M0 p\/A p)->(∀(i:Nat) a d,δ[i]?=some (.own a d)->A a)->Sx K G (λb=>A b\/b=p) δ P σ H'->H' p=some (.lst acc)->Reps K (λb=>G.M0 b\/(A b\/b=p)) H' (xs.filterMap f) acc->Q (.ref p) H') :
  ∃W:Nat->Nat->List V->L2.St->Hp->Prop,(∃m,W 0 m [] (vn nt caps σ) (FI H1 p (.lst [])))/\∀i m acc σ' H',W i m acc σ' H'->(J.stop i H'/\Q (.ref p) H')\/(J.go i H'/\∀x H2,J.yld i H' x H2 ->
   upG K g x σ' H2 λσ2 H3=>upT K tc σ2 H3 λb H4=>if b=true then up K te σ2 H4 λy H5=>H5 p=some (.lst acc)/\acc.length<sizeLine/\∃m',m'<m/\W (i+1) m' (acc++[y]) σ2 (FI H5 p (.lst (acc++[y]))) else ∃m',m'<m/\W (i+1) m' acc σ2 H4):=by
 obtain⟨A0,x0⟩:=s;have hA0:¬ (G.M0 p\/A0 p):=λz=>x0.mem p z hp;have hno:∀(i:Nat) d,δ[i]?≠some (.own p d):=λi d e=>hA0 (.inr (x0.own i p d e).2.1);have x1:=x0.addA hp (aG hp (.lst [])) (by rw[aF];exact λz=>nomatch z)
 refine⟨λi m acc σ' H'=>i<=xs.length/\m=xs.length-i/\acc.length<=i/\H' p=some (.lst acc)/\Sx K G (λb=>A0 b\/b=p) δ P σ H'/\Reps K (λb=>G.M0 b\/(A0 b\/b=p)) H' ((xs.take i).filterMap f) acc /\
  ∃ts:List (Option D),ts.length=nt/\Sx K ⟨λb=>G.M0 b\/(A0 b\/b=p),H',λ_=>False⟩ (λ_=>False) (ts.map oS++ig caps δ) [] σ' H',⟨xs.length,G5 _,rfl,F3 _,aF,x1,by rw[Iq];exact Reps.nil,List.replicate nt none,Gm,EK x1⟩,?_⟩
 rintro i m acc σ' H' ⟨hi,rfl,hal,hac,x,rs,ts,hts,sx⟩
 by_cases hlt:i<xs.length
 ·refine .inr ⟨hgo _ i H' x hlt,λv H2 hy=>?_⟩;obtain⟨sm0,d,hd,rd⟩:=hyl _ i v H' H2 x hlt hy;replace sx:=re_S sx (Kp.of_same sm0) (x.same sm0).mem;replace x:=x.same sm0;replace hac:=sm0 _ _ hac;replace rs:=Reps.kp (Kp.of_same sm0) _ _ rs;clear sm0 hy;have hmem:d∈xs:=Ge hd;refine⟨_,ts.map oS++ig caps δ,[],d,_,⟨_,sx.push (Fr.more (λb z=>.inl (z.elim id λq=>q.elim)) _ _ rd)⟩,pH (hf d hmem) ts hts,λδ2 h2 σ2 H3 s2=>?_⟩;refine⟨_,_,[],_,s2,h2,λb δ3 h3 H4 s3=>?_⟩;have fmS:=jG (f:=f) hd;have hM1:∀b,(G.M0 b\/(A0 b\/b=p))->H2 b≠none:=x.mem
  cases b with
  | false =>
   obtain⟨ok3,hn⟩:=h3;rw[hn,GH] at fmS;obtain⟨ts3,hts3,e3⟩:=nC ok3;subst e3;obtain⟨A3,y3⟩:=s3;have sm:bY H2 H4:=λb o e=>y3.old b o e id;have x4:=x.same sm;exact⟨xs.length-(i+1),by omega,hlt,rfl,by omega,sm _ _ hac,x4,by rw[fmS];exact Reps.kp (Kp.of_same sm) _ _ rs,ts3,hts3,re_S y3 Kp.refl x4.mem⟩
  | true =>
   refine up.mk (P:=[]) s3 h3 λy δ4 h4 yv H5 s4=>?_;obtain⟨ok4,hy⟩:=h4;rw[hy] at fmS;obtain⟨ts4,hts4,e4⟩:=nC ok4;subst e4;obtain⟨A4,y4⟩:=s4;have sm:bY H2 H5:=λb o e=>y4.old b o e id;have x5:=x.same sm;have hac5:=sm _ _ hac;have ry:Fr K (λb=>G.M0 b\/(A0 b\/b=p)) H5 y yv:=Fr.more (λb z=>.inl (.inl z)) _ _ (y4.pnd (y,yv) (by simp));have x6:=x5.poke (p:=p) (ws:=acc++[yv]) (.inr rfl) hac5 hno;have kp:Kp (λb=>G.M0 b\/(A0 b\/b=p)) H5 (FI H5 p (.lst (acc++[yv]))):=by
    have hk:∀b o,b≠p->H5 b=some o->FI H5 p (.lst (acc++[yv])) b=some o:=λb o n e=>by rw[aI n];exact e
    exact⟨λb o e n=>hk b o (λz=>n (.inr (.inr z))) e,λb xs e=>hk b _ (λz=>by rw[z,hac5] at e;cases e) e,λb o u e=>hk b _ (λz=>by rw[z,hac5] at e;cases e) e⟩
   refine⟨hac5,Ia (FX hal hi) (jt hz),xs.length-(i+1),by omega,hlt,rfl,by rw[F1,HC];omega,aF,x6,?_,ts4,hts4,re_S y4 kp x6.mem⟩;rw[fmS];exact Reps.kp kp _ _ (Reps.append _ _ _ _ (Reps.kp (Kp.of_same sm) _ _ rs) (Reps.one ry))
 ·have e:i=xs.length:=by omega
  subst e;rw[Gp] at rs;exact .inl ⟨hst _ H' x,k A0 acc H' hA0 (λi a d e=>(x0.own i a d e).2.1) x hac rs⟩
def lR{J:It}{te:FQ}{H1:Hp}{Q:VK}(s:S K G δ P σ H1)(hz:xs.length<=9000)
  (hgo:∀A i H,Sx K G A δ P σ H->i<xs.length->J.go i H) (hst:∀A H,Sx K G A δ P σ H->J.stop xs.length H)
  (hyl:∀A i x H H2,Sx K G A δ P σ H->i<xs.length->J.yld i H x H2->bY H H2/\∃d,xs[i]?=some d/\Fr K (λb=>G.M0 b\/A b) H2 d x)
  (hf:∀x∈xs,wB nt λts=>g x (ts++ig caps δ) λδ2=>tc δ2 λb δ3=>if b=true then te δ3 (wd λy δ4=>okT nt δ4 (ig caps δ)/\f x=some y) else okT nt δ3 (ig caps δ)/\f x=none)
  (k:∀v H',S K G δ ((.lst (xs.filterMap f),v)::P) σ H'->Q v H') (p:Addr) (hp:H1 p=none) :
  ∃W:Nat->Nat->List V->L2.St->Hp->Prop,(∃m,W 0 m [] (vn nt caps σ) (FI H1 p (.lst [])))/\∀i m acc σ' H',W i m acc σ' H'->(J.stop i H'/\Q (.ref p) H')\/(J.go i H'/\∀x H2,J.yld i H' x H2 ->
   upG K g x σ' H2 λσ2 H3=>upT K tc σ2 H3 λb H4=>if b=true then up K te σ2 H4 λy H5=>H5 p=some (.lst acc)/\acc.length<sizeLine/\∃m',m'<m/\W (i+1) m' (acc++[y]) σ2 (FI H5 p (.lst (acc++[y]))) else ∃m',m'<m/\W (i+1) m' acc σ2 H4) :=
 j6 s hz hgo hst hyl hf p hp λA acc H' hA ho x hac rs=>k (.ref p) H' ⟨A,(x.subA (λb z=>.inl z) ho).push (by
  unfold Fr
  exact⟨p,acc,rfl,hA,hac,Reps.more (λb z=>.inl (z.elim .inl λq=>.inr (.inl q))) _ _ rs⟩)⟩
end
def CL(t:FQ)(δ:En)(R:List D->En->Prop):Prop:=t δ (wd λd δ1=>qL d λxs=>R xs δ1)
def BG(t:FQ)(δ:En)(R:List D->En->Prop):Prop:=t δ (wd λd δ1=>qT d λxs=>R xs δ1)
def Cw(t:TDA)(δ:En)(R:List D->En->Prop):Prop:=t δ λds δ1=>qC ds λx r=>qN r <| qI x λj=>-(2 ^ 62)<=j/\j<2 ^ 62/\R ((List.range j.toNat).map λ(i:Nat)=>D.int (i:Int)) δ1
def CI(X:Cx)(tg it:Expr)(src:TDC):Prop:=∃wi,PI X tg it wi/\∀(G:Gf) (δ:En) (P:List (D×V)) (σ:L2.St) (H:Hp) (R:List D->En->Prop) (Q:It->Hp->Prop),S X.K G δ P σ H->src δ R ->
  (∀xs δ1,R xs δ1->∀(J:It) (P1:List (D×V)) (H1:Hp),(∀q∈P,q∈P1)->S X.K G δ1 P1 σ H1->(∀A δ σ i H,Sx X.K G A δ P1 σ H->i<xs.length->J.go i H)->(∀A δ σ H,Sx X.K G A δ P1 σ H->J.stop xs.length H) ->
    (∀A δ σ i x H H2,Sx X.K G A δ P1 σ H->i<xs.length->J.yld i H x H2->bY H H2/\∃d,xs[i]?=some d/\Fr X.K (λb=>G.M0 b\/A b) H2 d x)->Q J H1)->wi σ H Q
section
variable {X:Cx} {tg e:Expr} {te:FQ} {ta:TDA}
def dk(h:DE X e te):CI X tg e (CL te):=⟨_,uK h,λG δ P σ H R Q s hs k=>up.mk s hs λd δ1 h1 v H1 s1=>by
 replace h1:=qL.ex h1;obtain⟨xs,e,r⟩:=h1;subst e;have hat:∀A δ σ H,Sx X.K G A δ ((.lst xs,v)::P) σ H->∃a vs,v=.ref a/\H a=some (.lst vs)/\Reps X.K (λb=>G.M0 b\/A b) H xs vs:=λA δ σ H x=>by
  have q:=x.pnd (.lst xs,v) (by simp)
  unfold Fr at q;obtain⟨a,vs,e,_,l,r⟩:=q;exact⟨a,vs,e,l,r⟩
 obtain⟨A1,x1⟩:=id s1;obtain⟨a,vs0,rfl,l0,_⟩:=hat _ _ _ _ x1;refine⟨a,rfl,⟨vs0,FA.of l0⟩,k xs δ1 r _ _ H1 (λq hq=>by simp[hq]) s1 (λA δ σ i H x hi=>?_) (λA δ σ H x=>?_) λA δ σ i y H H2 x hi hy=>?_⟩
 ·obtain⟨b,vs,e,l,r⟩:=hat _ _ _ _ x
  cases e
  obtain⟨w',hw,_⟩:=Reps.get _ _ r i xs[i] (by simp[hi]);exact⟨vs,w',FA.of l,hw⟩
 ·obtain⟨b,vs,e,l,r⟩:=hat _ _ _ _ x
  cases e
  exact⟨vs,FA.of l,by rw[Reps.length _ _ r];exact F3 _⟩
 ·obtain⟨b,vs,e,l,r⟩:=hat _ _ _ _ x
  cases e
  obtain⟨e,hy⟩:=hy;obtain⟨w',hw,rw'⟩:=Reps.get _ _ r i xs[i] (by simp[hi]);have z:=hy vs (FA.of l);rw[hw] at z
  cases z
  subst e
  exact⟨bY.refl _,xs[i],by simp[hi],rw'⟩⟩
def kg(h:DE X e te):CI X tg e (BG te):=⟨_,yb h,λG δ P σ H R Q s hs k=>up.mk s hs λd δ1 h1 v H1 s1=>by
 replace h1:=qT.ex h1;obtain⟨xs,e,r⟩:=h1;subst e;have hat:∀A δ σ H,Sx X.K G A δ ((.tup xs,v)::P) σ H->∃a vs,v=.ref a/\Fv X.K H a vs/\Reps X.K (λb=>G.M0 b\/A b) H xs vs:=λA δ σ H x=>by
  have q:=x.pnd (.tup xs,v) (by simp)
  unfold Fr at q;exact q
 obtain⟨A1,x1⟩:=id s1;obtain⟨a,vs0,rfl,l0,_⟩:=hat _ _ _ _ x1;refine⟨a,rfl,⟨vs0,l0⟩,k xs δ1 r _ _ H1 (λq hq=>by simp[hq]) s1 (λA δ σ i H x hi=>?_) (λA δ σ H x=>?_) λA δ σ i y H H2 x hi hy=>?_⟩
 ·obtain⟨b,vs,e,l,r⟩:=hat _ _ _ _ x
  cases e
  obtain⟨w',hw,_⟩:=Reps.get _ _ r i xs[i] (by simp[hi]);exact⟨vs,w',l,hw⟩
 ·obtain⟨b,vs,e,l,r⟩:=hat _ _ _ _ x
  cases e
  exact⟨vs,l,by rw[Reps.length _ _ r];exact F3 _⟩
 ·obtain⟨b,vs,e,l,r⟩:=hat _ _ _ _ x
  cases e
  obtain⟨e,hy⟩:=hy;obtain⟨w',hw,rw'⟩:=Reps.get _ _ r i xs[i] (by simp[hi]);have z:=hy vs l;rw[hw] at z
  cases z
  subst e
  exact⟨bY.refl _,xs[i],by simp[hi],rw'⟩⟩
def kK{a:Expr}{p pos:Pos}(hg:Gl X "range")(hm:X.mg "range"=none)(ha:DA X [a] ta)(hs:starEach [a] X.env=[(false,eval a X.env)]:=by rfl):CI X tg (.Call (.Name "range" p) [a] [] pos) (Cw ta) :=
 ⟨_,mf hg hm ha hs,λG δ P σ H R Q s hs k=>⟨G,δ,P,_,s,hs,λds δ1 h1 vs H1 hl s1=>by
  replace h1:=qC.ex h1;obtain⟨x,r,e,h1⟩:=h1;replace h1:=qN.ex h1;obtain⟨e',h1⟩:=h1;replace h1:=qI.ex h1;obtain⟨j,e2,h1,h2,r⟩:=h1;subst e2 e' e
  match vs,hl with
  | [v],_ =>
   have q:v=.int j:=by
    obtain⟨A,x⟩:=s1;exact aM (x.pnd (.int j,v) (by simp))
   subst q;refine⟨j,rfl,h1,h2,k _ δ1 r _ P H1 (λq hq=>hq) (s1.sub λp hp=>by simp[hp]) (λA δ σ i H x hi=>?_) (λA δ σ H x=>?_) λA δ σ i y H H2 x hi hy=>?_⟩
   ·rw[FR,GN] at hi;exact hi
   ·rw[FR,GN];exact F3 _
   ·rw[FR,GN] at hi;obtain⟨e,hy⟩:=hy;subst e;refine⟨bY.refl _,.int i,by rw[List.getElem?_map,List.getElem?_range hi];rfl,?_⟩;unfold Fr
    rw[hy,HE]⟩⟩
def DF(X:Cx)(ifs:List Expr)(t:TDT):Prop:=PF X ifs (upT X.K t)
def cM:DF X [] (λδ R=>R true δ):=λpins s σ H Q I ⟨G,δ,P,R,s',h,k⟩=>CJ pins s σ H Q I (k true δ h H s')
def fF{c:Expr}{t:TDT}(h:DT X c t):DF X [c] t:=BK h
def bT{elt tgt iter:Expr}{ifs:List Expr}{scope:Scope}{pos:Pos}{src:TDC}{cl:List (Str×Addr)}(tn:List Str)(caps:List (Nat×Str))
  (hcalm:X.calm=true) (hclos:closureFor scope X.env=pure cl) (hcell:∀y∈scope.names,y.2≠.cell) (hkind:scope.kind=.function) (hnames:∀y∈scope.names,y.2=.local->scope.names.lookup y.1=some .local)
  (hcl:∀x c,cl.lookup x=some c->X.env.cells.lookup x=some c) (hhas:∀x,((relabel scope X.env).names.lookup x=some .cell\/(relabel scope X.env).names.lookup x=some .free)->∃c,cl.lookup x=some c)
  (hcap:∀p∈caps,X.N[p.1]?=some p.2/\X.env.scope.names.lookup p.2=some .cell/\((relabel scope X.env).names.lookup p.2=some .cell\/(relabel scope X.env).names.lookup p.2=some .free))
  (hi:CI X.nox tgt iter src)
  (hb:∀s2 H2 C fp pn,DG (de X (tn++caps.map (·.2)) scope cl s2 H2 C fp pn) tgt g/\DF (de X (tn++caps.map (·.2)) scope cl s2 H2 C fp pn) ifs tc/\DE (de X (tn++caps.map (·.2)) scope cl s2 H2 C fp pn) elt te)
  (hs:∀x,foldedSetIterable iter X.env x=pure x:=by intro _;rfl):DE X.nox (.ListComp elt [⟨tgt,iter,ifs,0⟩] scope pos) (AQ src tn.length caps g tc te):=by
 obtain⟨wi,hi,hw⟩:=hi;refine PE.imp (yK (g:=upG X.K g) (tc:=upT X.K tc) (te:=up X.K te) tn caps hcalm hclos hcell hkind hnames hcl hhas hcap hi hb hs) λσ H Q ⟨G,δ,P,R,s,h,k,_⟩=>?_;refine hw G δ P σ H _ _ s h λxs δ1 ⟨hz,f,hf,r⟩ J P1 H1 hP s1 hgo hst hyl p hp=>?_
 exact lR s1 hz (λA i H x hi=>hgo A _ _ i H x hi) (λA H x=>hst A _ _ H x) (λA i x H H2 s hi hy=>hyl A _ _ i x H H2 s hi hy) hf (λv H' s'=>k _ δ1 r v H' (s'.sub λq hq=>by
  rcases F7.mp hq with rfl | hq
  ·simp
  ·exact FU _ (hP q hq))) p hp
end
def BB(cells:List (Str×Addr)):List (Str×Addr)->Prop
 | []=>True
 | y::r=>cells.lookup y.1=some y.2/\BB cells r
def bh{cells:List (Str×Addr)}:∀ {cl:List (Str×Addr)},BB cells cl->∀x c,cl.lookup x=some c->cells.lookup x=some c
 | [],_,x,c,h=>by cases h
 | y::r,⟨h1,h2⟩,x,c,h=>by
  rw[List.lookup_cons] at h
  cases e:x==y.1 with
  | true =>
   rw[e] at h;have e:=eq_of_beq e
   cases h
   rw[e];exact h1
  | false =>
   rw[e] at h;exact bh h2 x c h
def bn{names:List (Str×NameKind)}{cl:List (Str×Addr)}(h:(names.all λy=>!(y.2 == .cell||y.2 == .free)||(cl.lookup y.1).isSome)=true):∀x,(names.lookup x=some .cell\/names.lookup x=some .free)->∃c,cl.lookup x=some c:=λx hx=>by
 have key:∀(ns:List (Str×NameKind)) k,ns.lookup x=some k->(x,k)∈ns:=λns=>by
  induction ns with
  | nil=>intro k h;cases h
  | cons y r ih =>
   intro k h;rw[List.lookup_cons] at h
   cases e:x==y.1 with
   | true =>
    rw[e] at h;have e:=eq_of_beq e
    cases h
    rw[e];exact FW ..
   | false =>
    rw[e] at h;exact FU _ (ih k h)
 have go:∀k,(k=.cell\/k=.free)->names.lookup x=some k->∃c,cl.lookup x=some c:=λk hk e=>by
  have m:=key _ _ e
  have q:=List.all_eq_true.mp h _ m
  have hb:((k==NameKind.cell||k == .free))=true:=by rcases hk with rfl | rfl<;>rfl
  simp only[hb,Bool.not_true,Bool.false_or] at q;exact Option.isSome_iff_exists.mp q
 rcases hx with e | e
 ·exact go _ (.inl rfl) e
 ·exact go _ (.inr rfl) e
def xM(p:Nat×Str->Prop):List (Nat×Str)->Prop
 | []=>True
 | y::r=>p y/\xM p r
def aL{p:Nat×Str->Prop}:∀ {l:List (Nat×Str)},xM p l->∀y∈l,p y
 | [],_,y,h=>by cases h
 | z::r,⟨h1,h2⟩,y,h=>by
  rcases F7.mp h with rfl | h
  ·exact h1
  ·exact aL h2 y h
end DL
namespace DL
open PySem PySem.Spec PyProof.Rows L2
variable {x y:Str} {st:Stmt} {ps:List Str} {p:Pos}
abbrev FO:=D->List D->(D->D->Prop)->Prop
def spO(K:PySem.W.Frag)(f:FO):Sp:=λvs H Q _=>∃(M:Addr->Prop) (a:Addr) (d0:D) (vs':List V) (ds:List D) (R:D->D->Prop),vs=.ref a::vs'/\(∀b,M b->H b≠none)/\¬ M a/\bm K (λb=>M b\/b=a) H a d0/\Reps K (λb=>M b\/b=a) H ds vs'/\f d0 ds R /\
 ∀r d1,R r d1->∀v H',(∀b o,b≠a->H b=some o->H' b=some o)->bm K (λb=>M b\/b=a) H' a d1->Fr K (λb=>M b\/b=a) H' r v->Q v H'
def vS(K:PySem.W.Frag)(f:FO):Sp:=λvs H Q E=>∃v0 v1,vs=[v0,v1]/\spO K f [v1,v0] H Q E
section
variable {P:Program} {w:World} {K:PySem.W.Frag} {mg:Str→Option Value} {base:Heap}
def dS{f:List D->(D->Prop)->Prop}(F:Fd K mg x st ps)(k:Nat)(h:∀ds R,¬ f ds R):Cal P w K mg base k x ps (Fh K f):=by
 obtain⟨a,fd,Fu,b,m⟩:=F.ex;have no:∀vs H Q E,¬ Fh K f vs H Q E:=λvs H Q E ⟨_,ds,R,_,_,hf,_⟩=>h ds R hf;exact⟨a,fd,⟨λvs H Q E h=>absurd h (no vs H Q E),λA outer s H args us vs Q E _ _ _ _ h=>absurd h (no vs H Q E)⟩,b,Fu.kp,m⟩
def vg{f:FO}(F:Fd K mg x st ps)(k:Nat)(h:∀d ds R,¬ f d ds R):Cal P w K mg base k x ps (vS K f):=by
 obtain⟨a,fd,Fu,b,m⟩:=F.ex;have no:∀vs H Q E,¬ vS K f vs H Q E:=λvs H Q E ⟨_,_,_,_,_,d0,_,ds,R,_,_,_,_,_,hf,_⟩=>h d0 ds R hf;exact⟨a,fd,⟨λvs H Q E h=>absurd h (no vs H Q E),λA outer s H args us vs Q E _ _ _ _ h=>absurd h (no vs H Q E)⟩,b,Fu.kp,m⟩
def qo{M:Addr->Prop}{a:Addr}{d0:D}{ds1 ds2:List D}{vs1 vs2:List V}{H:Hp}(N:List Str)(m:∀b,M b->H b≠none)(na:¬ M a)(ow:bm K (λb=>M b\/b=a) H a d0)(r1:Reps K (λb=>M b\/b=a) H ds1 vs1)(r2:Reps K (λb=>M b\/b=a) H ds2 vs2) :
  S K ⟨M,H,λb=>b=a⟩ (ds1.map Sl.dat++Sl.own a d0::(ds2.map Sl.dat++List.replicate (N.length-(ds1.length+1+ds2.length)) Sl.no)) [] (L2.start N (vs1++.ref a::vs2)) H:=by
 have hl1:=Reps.length _ _ r1
 have hl2:=Reps.length _ _ r2
 have hHa:H a≠none:=by
  cases d0 with
  | lst ds=>obtain⟨vs,q,_⟩:=ow;rw[q];exact λz=>nomatch z
  | dct ks ds=>obtain⟨vs,q,_⟩:=ow;rw[q];exact λz=>nomatch z
  | _=>exact ow.elim
 have place:∀(i:Nat) z,(ds1.map Sl.dat++Sl.own a d0::(ds2.map Sl.dat++List.replicate (N.length-(ds1.length+1+ds2.length)) Sl.no))[i]?=some z ->
   (∃d,ds1[i]?=some d/\z=.dat d)\/(i=ds1.length/\z=.own a d0)\/(∃d,ds1.length+1<=i/\ds2[i-(ds1.length+1)]?=some d/\z=.dat d)\/z=.no:=λi z e=>by
  by_cases h1:i<ds1.length
  ·rw[List.getElem?_append_left (by rw[FR];exact h1),List.getElem?_map] at e
   cases hd:ds1[i]? with
   | none=>rw[hd] at e;cases e
   | some d=>rw[hd] at e;exact .inl ⟨d,rfl,(Gc e).symm⟩
  ·rw[List.getElem?_append_right (by rw[FR];omega),FR] at e
   by_cases h2:i=ds1.length
   ·subst h2;rw[Nat.sub_self,List.getElem?_cons_zero] at e;exact .inr (.inl ⟨rfl,(Gc e).symm⟩)
   ·have e3:i-ds1.length=(i-(ds1.length+1))+1:=by omega
    rw[e3,List.getElem?_cons_succ] at e
    by_cases h3:i-(ds1.length+1)<ds2.length
    ·rw[List.getElem?_append_left (by rw[FR];exact h3),List.getElem?_map] at e
     cases hd:ds2[i-(ds1.length+1)]? with
     | none=>rw[hd] at e;cases e
     | some d=>rw[hd] at e;exact .inr (.inr (.inl ⟨d,by omega,rfl,(Gc e).symm⟩))
    ·rw[List.getElem?_append_right (by rw[FR];omega),List.getElem?_replicate] at e
     split at e
     ·exact .inr (.inr (.inr (Gc e).symm))
     ·cases e
 have st:∀i,i<(vs1++V.ref a::vs2).length->(L2.start N (vs1++.ref a::vs2))[i]?=(vs1++V.ref a::vs2)[i]?.map some:=λi hi=>by
  unfold L2.start;rw[List.getElem?_append_left (by rw[FR];exact hi),List.getElem?_map]
 have hM:∀b,(M b\/b=a)->(M b\/b=a)\/H b=none:=λb h=>.inl h
 refine⟨λb=>b=a,λb o e _=>e,λb e=>e,m,λb h=>⟨by rw[h];exact hHa,by rw[h];exact na⟩,λb h=>.inr h,λb h=>by rw[h];exact hHa,?_,λi d e=>?_,λi a' d e=>?_,λi j a' d e h1 h2=>?_,λp hp=>(nomatch hp)⟩
 ·unfold L2.start;simp only[List.length_append,List.length_map,List.length_cons,List.length_replicate];omega
 ·rcases place i _ e with⟨d',hd,z⟩ | ⟨_,z⟩ | ⟨d',hi,hd,z⟩ | z
  ·cases z
   obtain⟨v,ev,rv⟩:=Reps.get _ _ r1 i d hd;have hi:i<vs1.length:=(List.getElem?_eq_some_iff.mp ev).1;exact⟨v,by rw[st i (by rw[F1];omega),List.getElem?_append_left hi,ev];rfl,rv⟩
  ·cases z
  ·cases z
   obtain⟨v,ev,rv⟩:=Reps.get _ _ r2 _ d hd;have hi2:i-(ds1.length+1)<vs2.length:=(List.getElem?_eq_some_iff.mp ev).1;refine⟨v,?_,rv⟩;rw[st i (by rw[F1,F8];omega),List.getElem?_append_right (by omega),<- hl1];have e3:i-ds1.length=(i-(ds1.length+1))+1:=by omega
   rw[e3,List.getElem?_cons_succ,ev];rfl
  ·cases z
 ·rcases place i _ e with⟨d',hd,z⟩ | ⟨hi,z⟩ | ⟨d',hi,hd,z⟩ | z
  ·cases z
  ·cases z
   subst hi;refine⟨?_,rfl,ow⟩;rw[st _ (by rw[F1,F8];omega),List.getElem?_append_right (by omega),hl1,Nat.sub_self];rfl
  ·cases z
  ·cases z
 ·have u:∀i a' d,(ds1.map Sl.dat++Sl.own a d0::(ds2.map Sl.dat++List.replicate (N.length-(ds1.length+1+ds2.length)) Sl.no))[i]?=some (.own a' d)->i=ds1.length:=λi a' d e=>by
   rcases place i _ e with⟨d',hd,z⟩ | ⟨hi,z⟩ | ⟨d',hi,hd,z⟩ | z
   ·cases z
   ·exact hi
   ·cases z
   ·cases z
  rw[u i _ _ h1,u j _ _ h2]
def iM{M A':Addr->Prop}{a:Addr}{d:D}{H':Hp}(ha:A' a)(o:bm K (λb=>M b\/A' b) H' a d):bm K (λb=>M b\/b=a) H' a d:=bm.more (λb z=>.inl (z.elim .inl λe=>.inr (by rw[e];exact ha))) o
def fn_O{N:List Str}{k:Nat}{f:FO}(F:Fd K mg x st ps)(Sc:aw N ps (ap st))(len:∀d ds R,f d ds R->ds.length+1=ps.length)
    (hbody:∀(fa:Addr) (cdv:Value) (A:Around) (outer:List Env) (s:Shared) (H:Hp) (E:XK) (a:Addr) (d0:D) (ds:List D) (R:D->D->Prop),fQ k (A.deeper (envOfC x (ap st) s.heap.objs.size fa cdv))->f d0 ds R ->
      ∃t,DSs (vi CX0 P w K mg base N x (ap st) fa cdv A outer s H E).nox (bG st) t /\
        t { nx:=λδ=>∃d1,δ[0]?=some (.own a d1)/\R .non d1,rt:=λd δ=>∃d1,δ[0]?=some (.own a d1)/\R d d1 } (Sl.own a d0::(ds.map Sl.dat++List.replicate (N.length-(1+ds.length)) Sl.no))) :
    Cal P w K mg base (k+1) x ps (spO K f):=by
  obtain⟨fa,fd,Fu,b,mm⟩:=F.ex;refine⟨fa,fd,Fu.ok Sc (λvs H Q E h=>?_) (λcdv A outer s H vs Q E hr h=>?_),b,Fu.kp,mm⟩
  · obtain⟨M,a,d0,vs',ds,R,rfl,m,na,ow,rs,hf,hk⟩:=h;rw[F8,<- Reps.length _ _ rs];exact len _ _ _ hf
  · obtain⟨M,a,d0,vs',ds,R,rfl,m,na,ow,rs,hf,hk⟩:=h;obtain⟨t,ht,hq⟩:=hbody fa cdv A outer s H E a d0 ds R hr hf;have ss:=qo (ds1:=[]) (vs1:=[]) N m na ow Reps.nil rs;rw[show ([]:List D).length+1+ds.length=1+ds.length by simp] at ss;refine⟨_,ht,_,_,[],_,ss,hq,λδ' ⟨d1,e,r⟩ σ' H' ⟨A',x⟩=>?_,⟨λd δ' ⟨d1,e,r⟩ v σ' H' ⟨A',x⟩=>?_,λ_ h=>h.elim,λ_ _ _ z=>z.elim⟩,λ_ h=>h.elim,λ_ h=>h.elim,λz=>z.elim⟩
    · obtain⟨_,aa,oo⟩:=x.own 0 a d1 e;exact hk _ _ r .non H' (λb o n e=>x.old b o e n) (iM aa oo) (by unfold Fr;rfl)
    · obtain⟨_,aa,oo⟩:=x.own 0 a d1 e;exact hk _ _ r v H' (λb o n e=>x.old b o e n) (iM aa oo) (Fr.more (λb z=>.inl (z.elim .inl λe=>.inr (by rw[e];exact aa))) _ _ (x.pnd (d,v) (by simp)))
def DU{N:List Str}{k:Nat}{f:FO}(F:Fd K mg x st ps)(Sc:aw N ps (ap st))(hp:ps.length=2)(len:∀d ds R,f d ds R->ds.length=1)
    (hbody:∀(fa:Addr) (cdv:Value) (A:Around) (outer:List Env) (s:Shared) (H:Hp) (E:XK) (a:Addr) (d0 d:D) (R:D->D->Prop),fQ k (A.deeper (envOfC x (ap st) s.heap.objs.size fa cdv))->f d0 [d] R ->
      ∃t,DSs (vi CX0 P w K mg base N x (ap st) fa cdv A outer s H E).nox (bG st) t /\
        t { nx:=λδ=>∃d1,δ[1]?=some (.own a d1)/\R .non d1,rt:=λd δ=>∃d1,δ[1]?=some (.own a d1)/\R d d1 } (Sl.dat d::Sl.own a d0::List.replicate (N.length-2) Sl.no)) :
    Cal P w K mg base (k+1) x ps (vS K f):=by
  obtain⟨fa,fd,Fu,b,mm⟩:=F.ex;refine⟨fa,fd,Fu.ok Sc (λvs H Q E h=>?_) (λcdv A outer s H vs Q E hr h=>?_),b,Fu.kp,mm⟩
  · obtain⟨v0,v1,rfl,_⟩:=h;exact hp.symm
  · obtain⟨v0,v1,rfl,M,a,d0,vs',ds,R,e,m,na,ow,rs,hf,hk⟩:=h
    cases e
    have hl:=len _ _ _ hf
    match ds,hl with
    | [d],_ =>
      obtain⟨t,ht,hq⟩:=hbody fa cdv A outer s H E a d0 d R hr hf;have ss:=qo (ds2:=[]) (vs2:=[]) N m na ow rs Reps.nil;refine⟨_,ht,_,_,[],_,ss,hq,λδ' ⟨d1,e,r⟩ σ' H' ⟨A',x⟩=>?_,⟨λd δ' ⟨d1,e,r⟩ v σ' H' ⟨A',x⟩=>?_,λ_ h=>h.elim,λ_ _ _ z=>z.elim⟩,λ_ h=>h.elim,λ_ h=>h.elim,λz=>z.elim⟩
      · obtain⟨_,aa,oo⟩:=x.own 1 a d1 e;exact hk _ _ r .non H' (λb o n e=>x.old b o e n) (iM aa oo) (by unfold Fr;rfl)
      · obtain⟨_,aa,oo⟩:=x.own 1 a d1 e;exact hk _ _ r v H' (λb o n e=>x.old b o e n) (iM aa oo) (Fr.more (λb z=>.inl (z.elim .inl λe=>.inr (by rw[e];exact aa))) _ _ (x.pnd (d,v) (by simp)))
end
def kN(i:Nat)(R:a4)(δ:En)(d:D):Prop:=∀a,lH δ i (.own a d) R.nx
def kO(i:Nat)(a:Addr)(R:W->En->Prop)(δ:En)(r d:D):Prop:=lH δ i (.own a d) (R (.d r))
def Cp(i:Nat)(t:TDA)(R:a4)(δ:En):Prop:=t δ λds δ1=>q9 ds (∀a,lH δ1 i (.own a (.lst ds)) R.nx)
def B3(i:Nat)(R:a4)(δ:En):Prop:=∀a,lH δ i (.own a (.dct [] [])) R.nx
def Bx(i:Nat)(R:a4)(δ:En):Prop:=qW δ[i]? λ_ d=>R.ro d
def CG(t:TDA)(R:a4)(δ:En):Prop:=t δ λds _=>q9 ds (R.ro (.lst ds))
def Dj(i:Nat)(δ:En)(R:W->En->Prop):Prop:=qWL δ[i]? λ_ ds=>R (.d (.int ds.length)) δ
def tE(i:Nat)(δ:En)(R:W->En->Prop):Prop:=qWL δ[i]? λ_ ds=>R (.d (.tup ds)) δ
def nH(i:Nat)(t:TDS)(R:a4)(δ:En):Prop:=qW δ[i]? λ_ d=>lH δ i (.dat d) (t R)
def ve(i:Nat)(f:FO)(ta:FQ)(δ:En)(R:W->En->Prop):Prop:=ta δ (wd λz δ1=>qW δ1[i]? λa d0=>f d0 [z] (kO i a R δ1))
def C5(i:Nat)(ta:FQ)(R:a4)(δ:En):Prop:=qWL δ[i]? λa _=>ta δ (wd λx δ1=>zw δ1[i]? λds=>ds.length<9000/\lH δ1 i (.own a (.lst (ds++[x]))) R.nx)
section
variable {X:Cx} {pos:Pos} {a b e:Expr} {es:List Expr} {ta tb:FQ} {t:TDA} {f:List D→(D→Prop)→Prop}
def S.ret{K:PySem.W.Frag}{G:Gf}{δ:En}{P:List (D×V)}{σ:L2.St}{H:Hp}{i:Nat}{a:Addr}{d:D}(s:S K G δ P σ H)(e:δ[i]?=some (.own a d)):xO K G H a d:=by
 obtain⟨A,x⟩:=s;obtain⟨_,aa,oo⟩:=x.own i a d e;exact⟨x.old,x.new a aa,λz=>(x.new a aa).elim (λq=>x.m0 a z q) λq=>(x.pm a q).2 z,iM aa oo⟩
def ku(i:Nat)(hN:X.N[i]?=some x:=by rfl)(hv:Vis X.env.scope x:=by walk_at "v3")(hd:(x==("__debug__":Str))=false:=by decide)
  (hcd:(x==("__classdict__":Str))=false:=by decide):DS X (.Return (some (.Name x p)) pos) (Bx i) :=
 PS.imp (se (dJ hN hv hd hcd)) λE σ H ⟨G,δ,P,R,s,h,_,k,_⟩=>let ⟨a,d,e,r⟩:=qW.ex h;⟨.ref a,s.own e,k.2.1 d r a H (s.ret e)⟩
def ds_retL(h:DA X es t):DS X (.Return (some (.List es p)) pos) (CG t) :=
 PS.imp (se (ul h)) λE σ H ⟨G,δ,P,R,s,h,_,k,_⟩=>⟨G,δ,P,_,s,h,λds δ1 h9 vs H1 hl ⟨A,x⟩=>⟨by rw[<- hl];exact dY (q9.ex h9).1,λp hp=>k.2.1 _ (q9.ex h9).2 p _ (by
  have rs:=x.reps ds vs hl (λq hq=>FZ _ hq)
  have sm:=aG hp (.lst vs)
  have nm:¬ (G.M0 p\/A p):=λz=>x.mem p z hp
  refine⟨λb o e n=>sm b o (x.old b o e n),.inl ?_,λz=>nm (.inl z),vs,aF,Reps.kp (Kp.of_same sm) _ _ (Reps.more (λb z=>?_) _ _ rs)⟩
  ·cases q:G.H0 p with
   | none=>rfl
   | some o=>exact absurd hp (x.stay p (by rw[q];exact λz=>nomatch z))
  ·rcases z with z | z
   ·exact .inl (.inl z)
   ·exact .inr (by rw[z];exact hp))⟩⟩
def cE(i:Nat){pos':Pos}(hN:X.N.Nodup)(h:DA X es t)(hi:X.N[i]?=some x:=by rfl)(hx:Loc X.env.scope x:=by walk_at "v2")(hs:swapsWith (.List es p) (some (.Name x pos')) pos.line X.env=pure false:=by rfl)
  (hf:X.fn x=true\/X.env.scope.names.lookup x=some .local :=by walk_at "v1"):DS X (.Assign [.Name x pos'] (.List es p) pos) (Cp i t) :=
 PS.imp (mD hN hi hx (ul h) hs hf) λE σ H ⟨G,δ,P,R,s,h,k,_⟩=>⟨G,δ,P,_,s,h,λds δ1 h9 vs H1 hl ⟨A,x⟩=>⟨by rw[<- hl];exact dY (q9.ex h9).1,λp hp=>by
  have r:=(q9.ex h9).2
  have rs:=x.reps ds vs hl (λq hq=>FZ _ hq)
  have sm:=aG hp (.lst vs)
  refine k _ (r p) _ _ ⟨_,x.claim (P':=P) hp sm ⟨vs,aF,Reps.kp (Kp.of_same sm) _ _ (Reps.more (λb z=>?_) _ _ rs)⟩ λq hq=>F5 _ hq⟩
  rcases z with z | z
  ·exact .inl z
  ·exact .inr (by rw[z];exact hp)⟩⟩
def iB(i:Nat){pos':Pos}(hN:X.N.Nodup)(hi:X.N[i]?=some x:=by rfl)(hx:Loc X.env.scope x:=by walk_at "v2")(hs:swapsWith (.Dict [] [] p) (some (.Name x pos')) pos.line X.env=pure false:=by rfl)
  (hf:X.fn x=true\/X.env.scope.names.lookup x=some .local :=by walk_at "v1"):DS X (.Assign [.Name x pos'] (.Dict [] [] p) pos) (B3 i) :=
 PS.imp (mD hN hi hx qA hs hf) λE σ H ⟨G,δ,P,R,⟨A,x⟩,h,k,_⟩=>λp hp=>by
  have sm:=aG hp (.dK [])
  exact k _ (h p) _ _ ⟨_,x.claim (P':=P) hp sm ⟨[],by rw[aF];rfl,rfl,Reps.nil⟩ λq hq=>hq⟩
def Bd{K:PySem.W.Frag}{G:Gf}{A:Addr->Prop}{δ:En}{P P':List (D×V)}{σ:L2.St}{H:Hp}{i:Nat}{a:Addr}{d0:D}{ds:List D}{vs:List V}{f:FO}{R:D->D->Prop}{Q:VK}{E:XK}(x:Sx K G A δ P σ H)(hi:δ[i]?=some (.own a d0))(hl:ds.length=vs.length)(hp:∀p∈ds.zip vs,p∈P)
  (hP:∀p∈P',p∈P) (hf:f d0 ds R) (k:∀r d1,R r d1->∀v H',S K G (δ.set i (.own a d1)) ((r,v)::P') σ H'->Q v H'):spO K f (.ref a::vs) H Q E:=by
 obtain⟨_,aa,oo⟩:=x.own i a d0 hi;have e1:∀b,(((G.M0 b\/A b)/\b≠a)\/b=a)->(G.M0 b\/A b):=λb h=>h.elim (λz=>z.1) λz=>.inr (by rw[z];exact aa);have e2:∀b,(G.M0 b\/A b)->(((G.M0 b\/A b)/\b≠a)\/b=a):=λb h=>by
  by_cases z:b=a
  ·exact .inr z
  ·exact .inl ⟨h,z⟩
 refine⟨λb=>(G.M0 b\/A b)/\b≠a,a,d0,vs,ds,R,rfl,λb z=>x.mem b z.1,λz=>z.2 rfl,bm.more (λb z=>.inl (e1 b z)) oo,Reps.more (λb z=>.inl (e1 b z)) _ _ (x.reps ds vs hl hp),hf,λr d1 hr v H' hk ow rp=>k r d1 hr v H' ⟨A,?_⟩⟩;exact((x.change hi hk (bm.more (λb z=>.inl (e2 b z)) ow)).sub hP).push (Fr.more (λb z=>.inl (e2 b z)) _ _ rp)
def mQ(i:Nat){f:FO}{x y:Str}{k:Nat}{ps:List Str}{p p2 pos:Pos}(C:Cal X.prog X.w X.K X.mg X.base k x ps (vS X.K f))(hr:fQ k X.A)(hg:Gl X x)(ha:DE X a ta)(hN:X.N[i]?=some y:=by rfl)
  (hv:Vis X.env.scope y:=by walk_at "v3") (hd:(y==("__debug__":Str))=false:=by decide) (hcd:(y==("__classdict__":Str))=false:=by decide) (hdb:(x==("__debug__":Str))=false:=by decide)
  (he:starEach [a,.Name y p2] X.env=(false,eval a X.env)::starEach [.Name y p2] X.env:=by rfl) (he2:starEach [.Name y p2] X.env=(false,eval (.Name y p2) X.env)::starEach [] X.env:=by rfl) (hpl:(backTo pos (starEach [.Name y p2] X.env)).any (·.1)=false:=by rfl) :
  DE X (.Call (.Name x p) [a,.Name y p2] [] pos) (ve i f ta):=by
 obtain⟨g,fd,F,b,kp,m⟩:=C.ex;refine PE.imp (kU F hr hg m kp b .nil wa (bC ha (bC (dJ hN hv hd hcd) eB he2) he) hdb he hpl) λσ H Q ⟨G,δ,P,R,s,h,k,_⟩=>up.mk s h λz δ1 h1 v H1 s1=>?_;replace h1:=qW.ex h1;obtain⟨a,d0,hi,hf⟩:=h1;refine⟨.ref a,s1.own hi,?_⟩;show vS X.K f [v,.ref a] H1 Q _;obtain⟨A,x⟩:=s1;exact⟨v,.ref a,rfl,Bd (ds:=[z]) x hi rfl (by simp) (P':=P) (λq hq=>FU _ hq) hf λr d1 hr v H' s'=>k r _ hr v H' s'⟩
def fX{K:PySem.W.Frag}{G:Gf}{A:Addr->Prop}{δ:En}{P:List (D×V)}{σ:L2.St}{H:Hp}{i:Nat}{a:Addr}{ds:List D}(x:Sx K G A δ P σ H)(hi:δ[i]?=some (.own a (.lst ds))):σ[i]?=some (some (.ref a))/\A a/\∃vs,H a=some (.lst vs)/\Reps K (λb=>G.M0 b\/A b) H ds vs:=by
 obtain⟨h1,h2,vs,h3,h4⟩:=x.own i a _ hi;exact⟨h1,h2,vs,h3,h4⟩
def Ac(i:Nat){p2 pos:Pos}(hg:Gl X "len")(hm:X.mg "len"=none)(hv':bootBuiltins "len"=some (.builtin "len"))(hN:X.N[i]?=some y:=by rfl)(hv:Vis X.env.scope y:=by walk_at "v3")
  (hd:(y==("__debug__":Str))=false:=by decide) (hcd:(y==("__classdict__":Str))=false:=by decide) (he:starEach [.Name y p2] X.env=(false,eval (.Name y p2) X.env)::starEach [] X.env:=by rfl) (hpl:(backTo pos (starEach [] X.env)).any (·.1)=false:=by rfl) :
  DE X (.Call (.Name "len" p) [.Name y p2] [] pos) (Dj i) :=
 PE.imp (kT gI hg hm hv' (bC (dJ hN hv hd hcd) eB he) (by decide) (by decide) he hpl) λσ H Q ⟨G,δ,P,R,s,h,k,_⟩=>by
  replace h:=qWL.ex h;obtain⟨a,ds,e,h⟩:=h;obtain⟨A,x⟩:=id s;obtain⟨h1,aa,vs,hvs,rs⟩:=fX x e;exact⟨.ref a,h1,a,vs,rfl,.inl (FA.of hvs),k _ δ h _ H (s.sc (by rw[Reps.length _ _ rs];rfl))⟩
def jD(i:Nat){p2 pos:Pos}(hg:Gl X "tuple")(hm:X.mg "tuple"=none)(hv':bootBuiltins "tuple"=some (.type "tuple"))(hN:X.N[i]?=some y:=by rfl)(hv:Vis X.env.scope y:=by walk_at "v3")
  (hd:(y==("__debug__":Str))=false:=by decide) (hcd:(y==("__classdict__":Str))=false:=by decide) (he:starEach [.Name y p2] X.env=(false,eval (.Name y p2) X.env)::starEach [] X.env:=by rfl) (hpl:(backTo pos (starEach [] X.env)).any (·.1)=false:=by rfl) :
  DE X (.Call (.Name "tuple" p) [.Name y p2] [] pos) (tE i) :=
 PE.imp (jg fP hg hm hv' (bC (dJ hN hv hd hcd) eB he) (by decide) (by decide) he hpl) λσ H Q ⟨G,δ,P,R,s,h,k,_⟩=>by
  replace h:=qWL.ex h;obtain⟨a,ds,e,h⟩:=h;obtain⟨A,x⟩:=id s;obtain⟨h1,aa,vs,hvs,rs⟩:=fX x e;refine⟨.ref a,h1,a,vs,rfl,.inl ⟨FA.of hvs,λl hl=>k _ δ h _ _ ⟨A,(x.same (aG hl _)).push ?_⟩⟩⟩;unfold Fr;exact⟨l,vs,rfl,Fv.of aF,Reps.kp (Kp.of_same (aG hl _)) _ _ rs⟩
def aQ(i:Nat){apos cpos:Pos}(he:DE X e ta)(hN:X.N[i]?=some y:=by rfl)(hv:Vis X.env.scope y:=by walk_at "v3")
  (hd:(y==("__debug__":Str))=false:=by decide) (hcd:(y==("__classdict__":Str))=false:=by decide)
  (hbase:attributeBase (.Name y p) "append" X.env (eval (.Name y p) X.env)=eval (.Name y p) X.env:=by rfl)
  (hfew:((backTo cpos (starEach [e] X.env)).all (λx=>!x.1)&&(backToKw cpos (keywordEach [] X.env)).all (λx=>x.1.isSome)&&decide ([e].length+([]:List Keyword).length+(if ([]:List Keyword).isEmpty then 0 else 1)<30))=true:=by rfl)
  (hline:(apos.endLine==cpos.line)=true:=by rfl) (hs:starEach [e] X.env=(false,eval e X.env)::starEach [] X.env:=by rfl) (hplain:(backTo cpos (starEach [] X.env)).any (·.1)=false:=by rfl)
  (hsw:swapsWith (.Call (.Attribute (.Name y p) "append" apos) [e] [] cpos) none pos.line X.env=pure false:=by rfl) :
  DS X (.Expr (.Call (.Attribute (.Name y p) "append" apos) [e] [] cpos) pos) (C5 i ta) :=
 PS.imp (nM (Dr PySem.F.plainAttrs_list PySem.F.slot_list_append PySem.F.type_list_append mI (dJ hN hv hd hcd) (bC he eB hs) hbase hfew hline hs hplain) hsw) λE σ H ⟨G,δ,P,R,s,h,k,_⟩=>by
  replace h:=qWL.ex h;obtain⟨a,ds0,hi0,h⟩:=h;obtain⟨A0,x0⟩:=id s;obtain⟨h0,_,vs0,hvs0,_⟩:=fX x0 hi0;refine⟨.ref a,h0,.inl ⟨rfl,vs0,FA.of hvs0⟩,up.mk s h λx δ1 h1 v H1 ⟨A,q⟩=>?_⟩;replace h1:=zw.ex q h0 h1;obtain⟨ds,hi,hz,r⟩:=h1;obtain⟨_,aa,vs,hvs,rs⟩:=fX q hi;refine⟨a,vs,v,rfl,rfl,hvs,by rw[<- Reps.length _ _ rs];exact jt (HA hz),k _ r _ _ ⟨A,(q.change (d':=.lst (ds++[x])) hi (λb o n e=>by rw[aI n];exact e) ⟨vs++[v],aF,?_⟩).sub (P':=P) λq hq=>FU _ hq⟩⟩;have kp:Kp (λb=>G.M0 b\/A b) H1 (FI H1 a (.lst (vs++[v]))):=by
   have hk:∀b o,b≠a->H1 b=some o->FI H1 a (.lst (vs++[v])) b=some o:=λb o n e=>by rw[aI n];exact e
   exact⟨λb o e n=>hk b o (λz=>n (.inr (by rw[z];exact aa))) e,λb xs e=>hk b _ (λz=>by rw[z,hvs] at e;cases e) e,λb o u e=>hk b _ (λz=>by rw[z,hvs] at e;cases e) e⟩
  exact Reps.kp kp _ _ (Reps.append _ _ _ _ rs (Reps.one (q.pnd (x,v) (by simp))))
def bL(i:Nat){st:List Stmt}{u:TDS}(h:DSs X st u):DSs X st (nH i u) :=
 PSs.imp h λE σ H ⟨G,δ,P,R,⟨A,x⟩,h,k⟩=>let ⟨a,d,e,h⟩:=qW.ex h;⟨G,_,P,R,⟨_,x.freeze e λz=>(x.new a (x.own i a d e).2.1).elim (λq=>x.m0 a z q) λq=>(x.pm a q).2 z⟩,h,k⟩
end
end DL
namespace DL
open PySem PySem.Spec PyProof.Rows L2
variable {ks:List Str} {x:Str} {vs:List V} {v:V} {ds:List D} {R:D→Prop} {g:Bool→Bool}
def dAt{α:Type}:List Str->List α->Str->Option α
 | k::ks,d::ds,x=>if k=x then some d else dAt ks ds x
 | _,_,_=>none
def mT{α:Type}:List Str->List α->Str->α->List α
 | k::ks,d::ds,x,y=>(if k=x then y else d)::mT ks ds x y
 | _,ds,_,_=>ds
def jF(ks:List Str)(x:Str):List Str:=if x∈ks then ks else ks++[x]
def lG{α:Type}(ks:List Str)(ds:List α)(x:Str)(y:α):List α:=if x∈ks then mT ks ds x y else ds++[y]
def pE{α:Type}:∀(ks:List Str) (ds:List α) (x:Str) (y:α),(mT ks ds x y).length=ds.length
 | [],ds,_,_=>by cases ds<;>rfl
 | k::ks,[],_,_=>rfl
 | k::ks,d::ds,x,y=>by unfold mT;rw[F8,F8,pE ks ds x y]
def yM{α:Type}{ds:List α}{y:α}(h:ks.length=ds.length):(jF ks x).length=(lG ks ds x y).length:=by
 unfold jF lG
 by_cases e:x∈ks
 ·rw[Gd e,Gd e,pE];exact h
 ·rw[Gb e,Gb e,F1,F1,h];rfl
def vN(x:Str)(h:ks.length=vs.length):((bg ks vs).any λkv=>decide (kv.1=Sum.inr x))=decide (x∈ks):=by
 induction ks generalizing vs with
 | nil=>rfl
 | cons k ks ih =>
  cases vs with
  | nil=>cases h
  | cons v vs =>
   show ((Sum.inr k,v)::bg ks vs).any _=_
   rw[IC,ih (HD h)]
   by_cases e:k=x
   ·subst e;simp
   ·have e2:¬ x=k:=λz=>e z.symm
    simp[e,e2]
def vA(x:Str)(y:V):(bg ks vs).map (λkv=>if kv.1=Sum.inr x then (kv.1,y) else kv)=bg ks (mT ks vs x y):=by
 induction ks generalizing vs with
 | nil=>rfl
 | cons k ks ih =>
  cases vs with
  | nil=>rfl
  | cons v vs =>
   show ((Sum.inr k,v)::bg ks vs).map _=(Sum.inr k,if k=x then y else v)::bg ks (mT ks vs x y)
   rw[Go,ih]
   by_cases e:k=x
   ·subst e;simp
   ·have:¬ (Sum.inr k:Fo)=Sum.inr x:=λz=>e (Sum.inr.inj z)
    simp[e]
def zK(x:Str)(y:V)(h:ks.length=vs.length):j9 (bg ks vs) (Sum.inr x) y=bg (jF ks x) (lG ks vs x y):=by
 unfold j9;rw[vN x h];unfold jF lG
 by_cases e:x∈ks
 ·rw[Gz e,Gd rfl,Gd e,Gd e,vA]
 ·rw[Gx e,Gb F0,Gb e,Gb e];unfold bg;rw[Gj,List.zip_append (by rw[FR];exact h)];rfl
def dU(x:Str):nP (bg ks vs) (Sum.inr x)=dAt ks vs x:=by
 induction ks generalizing vs with
 | nil=>rfl
 | cons k ks ih =>
  cases vs with
  | nil=>rfl
  | cons v vs =>
   show nP ((Sum.inr k,v)::bg ks vs) _=if k=x then some v else dAt ks vs x
   by_cases e:k=x
   ·subst e;rw[io rfl,Gd rfl]
   ·rw[hX (λz=>e (Sum.inr.inj z)),Gb e,ih]
section
variable {K:PySem.W.Frag} {M:Addr→Prop} {H:Hp}
def Reps.rep{d:D}(r:Fr K M H d v)(x:Str):∀(ks:List Str) (ds:List D) (vs:List V),Reps K M H ds vs->Reps K M H (mT ks ds x d) (mT ks vs x v)
 | [],ds,vs,h=>by
  have e1:mT [] ds x d=ds:=by cases ds<;>rfl
  have e2:mT [] vs x v=vs:=by cases vs<;>rfl
  rw[e1,e2];exact h
 | k::ks,[],vs,h=>by unfold Reps at h;subst h;exact Reps.nil
 | k::ks,e::ds,vs,h=>by
  unfold Reps at h;obtain⟨w,rs,rfl,q,s⟩:=h;show Reps K M H ((if k=x then d else e)::mT ks ds x d) ((if k=x then v else w)::mT ks rs x v);refine Reps.cons ?_ (Reps.rep r x ks ds rs s)
  by_cases z:k=x
  ·rw[Gd z,Gd z];exact r
  ·rw[Gb z,Gb z];exact q
def Reps.put{d:D}(x:Str)(h:Reps K M H ds vs)(r:Fr K M H d v):Reps K M H (lG ks ds x d) (lG ks vs x v):=by
 unfold lG
 by_cases e:x∈ks
 ·rw[Gd e,Gd e];exact Reps.rep r x ks ds vs h
 ·rw[Gb e,Gb e];exact Reps.append _ _ _ _ h (Reps.one r)
def Reps.dAt(x:Str):∀(ks:List Str) (ds:List D) (vs:List V),Reps K M H ds vs->(∀d,DL.dAt ks ds x=some d->∃v,DL.dAt ks vs x=some v/\Fr K M H d v)/\(DL.dAt ks ds x=none->DL.dAt ks vs x=none)
 | [],ds,vs,h=>⟨λd e=>(nomatch e),λ_=>rfl⟩
 | k::ks,[],vs,h=>by unfold Reps at h;subst h;exact⟨λd e=>(nomatch e),λ_=>rfl⟩
 | k::ks,e::ds,vs,h=>by
  unfold Reps at h;obtain⟨w,rs,rfl,q,s⟩:=h;obtain⟨h1,h2⟩:=Reps.dAt x ks ds rs s;show (∀d,(if k=x then some e else DL.dAt ks ds x)=some d->∃v,(if k=x then some w else DL.dAt ks rs x)=some v/\_)/\((if k=x then some e else DL.dAt ks ds x)=none->(if k=x then some w else DL.dAt ks rs x)=none)
  by_cases z:k=x
  ·simp only[if_pos z];exact⟨λd e=>by cases e;exact⟨w,rfl,q⟩,λe=>(nomatch e)⟩
  ·simp only[if_neg z];exact⟨h1,h2⟩
def fD{α:Type}{ds:List α}(h:ks.length=ds.length):(dAt ks ds x).isSome=decide (x∈ks):=by
 induction ks generalizing ds with
 | nil=>rfl
 | cons k ks ih =>
  cases ds with
  | nil=>cases h
  | cons v vs =>
   show (if k=x then some v else dAt ks vs x).isSome=_
   by_cases e:k=x
   ·subst e;simp
   ·have e2:¬ x=k:=λz=>e z.symm
    rw[Gb e,ih (HD h)];simp[e2]
end
def wA:List D->(D->Prop)->Prop
 | [.dct ks ds,.str x],R=>∃d,dAt ks ds x=some d/\R d
 | [.fd ks ds,.str x],R=>∃d,dAt ks ds x=some d/\R d
 | _,_=>False
def wX:∀ {d0:List D} {R:D->Prop},wA d0 R->((∃(ks:List Str) (ds:List D) (x:Str),d0=[.dct ks ds,.str x]/\∃d,dAt ks ds x=some d/\R d)\/(∃(ks:List Str) (ds:List D) (x:Str),d0=[.fd ks ds,.str x]/\∃d,dAt ks ds x=some d/\R d)):=by walk_at "or"
def wP:wA [.fd ks ds,.str x] R=(∃d,dAt ks ds x=some d/\R d):=rfl
def xn:wA [.dct ks ds,.str x] R=(∃d,dAt ks ds x=some d/\R d):=rfl
def fIn(g:Bool->Bool):List D->(D->Prop)->Prop
 | [.str x,.dct ks _],R=>R (.bl (g (decide (x∈ks))))
 | [.str x,.lst ds],R=>∃ss:List Str,ds=ss.map D.str/\R (.bl (g (decide (x∈ss))))
 | _,_=>False
def xz{d0:List D}(h:fIn g d0 R):(∃(x:Str) (ks:List Str) (z1:List D),d0=[.str x,.dct ks z1]/\R (.bl (g (decide (x∈ks)))))\/(∃(x:Str) (ds:List D),d0=[.str x,.lst ds]/\∃ss:List Str,ds=ss.map D.str/\R (.bl (g (decide (x∈ss))))):=by
 rcases d0 with _ | ⟨a,_ | ⟨b,_ | ⟨c,l⟩⟩⟩
 ·exact False.elim h
 ·cases a<;>exact False.elim h
 ·cases a<;>first | exact False.elim h | (cases b<;>first | exact False.elim h | exact .inl ⟨_,_,_,rfl,h⟩ | exact .inr ⟨_,_,rfl,h⟩)
 ·cases a<;>first | exact False.elim h | (cases b<;>exact False.elim h)
def Af:fIn g [.str x,.dct ks ds] R=(R (.bl (g (decide (x∈ks))))):=rfl
def yA:fIn g [.str x,.lst ds] R=(∃ss:List Str,ds=ss.map D.str/\R (.bl (g (decide (x∈ss))))):=rfl
def dD{K:PySem.W.Frag}{M:Addr->Prop}{H:Hp}:∀ {ss:List Str} {vs:List V},Reps K M H (ss.map D.str) vs->vs=ss.map V.str
 | [],vs,h=>by unfold Reps at h;exact h
 | s::ss,vs,h=>by
  rw[Go] at h;unfold Reps at h;obtain⟨v,r,rfl,q,t⟩:=h;rw[bD q,dD t];rfl
def b9{K:PySem.W.Frag}{M:Addr->Prop}{H:Hp}:∀(ss:List Str),Reps K M H (ss.map D.str) (ss.map V.str)
 | []=>Reps.nil
 | s::ss=>Reps.cons (by unfold Fr;rfl) (b9 ss)
def cS:∀ {ss:List Str} {us:List Value},bF (ss.map V.str) us->StrsAre us ss
 | [],_,r=>by rw[HV] at r;cases r;exact .nil
 | s::ss,_,r=>by
  rw[Go] at r
  cases r with
  | @cons _ u _ us h t =>
   obtain⟨t',e⟩:=(show ∃t,u=Value.str s t from h);subst e;exact .cons _ _ (cS t)
def b7:∀ {ss:List Str} {us:List Value},StrsAre us ss->bF (ss.map V.str) us
 | _,_,.nil=>.nil
 | _,_,.cons _ _ h=>.cons ⟨_,rfl⟩ (b7 h)
def lc(x:Str):∀ {us:List Value} {ss:List Str},StrsAre us ss->us.any (λy=>match y with | .str z _=>z==x | _=>false)=decide (x∈ss)
 | _,_,.nil=>rfl
 | _,_,.cons y t (vs:=us) (ys:=ss) h=>by
  rw[IC,lc x h]
  by_cases e:y=x
  ·subst e;simp
  ·have e2:¬ x=y:=λz=>e z.symm
   simp[e,e2]
def pY{us:List Value}{ss:List Str}(h:StrsAre us ss):∀y∈us,∃z t,y=Value.str z t:=by
 induction h with
 | nil=>intro y hy;cases hy
 | cons z t h ih =>
  intro y hy
  rcases F7.mp hy with rfl | hy
  ·exact⟨z,t,rfl⟩
  ·exact ih y hy
section
variable {X:Cx}
def o_in(hu:X.A.units+64<cLine):FH X (compareOp .In) λx y=>aU X.K (fIn id) [x,y]:=by
 intro pins s σ H x y v u Q I rx ry h;obtain⟨M,ds,R,m,rs,h,k⟩:=h;have fin:∀b s',Inv X pins σ H s'->R (.bl b)->EP X pins σ Q (.bool b) s':=λb s' I' r=>⟨.bl b,H,I',rfl,k _ r _ H (bY.refl H) (Fr.sc rfl)⟩;replace h:=xz h
 rcases h with⟨_,_,_,rfl,h⟩ | ⟨x0,_,rfl,h⟩
 ·obtain⟨h1,h2⟩:=cc rs
  cases bD h1
  unfold Fr at h2;obtain⟨a,vs,rfl,_,e,l,r⟩:=h2
  cases ry
  refine d_in (by omega) I (oR.k (k:=Sum.inr _) e) rx λs' I'=>?_;rw[dU,fD (by rw[l,Reps.length _ _ r])];exact fin _ _ I' h
 ·obtain⟨ss,rfl,h⟩:=h;obtain⟨h1,h2⟩:=cc rs
  cases bD h1
  unfold Fr at h2;obtain⟨a,vs,rfl,_,e,r⟩:=h2
  cases ry
  cases dD r
  obtain⟨t,rfl⟩:=rx;obtain⟨its,rv,pl,_⟩:=I.list (FA.of e);have hs:=cS rv;refine SeqAt.in_listAt (λy=>match y with | .str z _=>z==x0 | _=>false) pl.isList (λy hy=>?_) ?_
  ·obtain⟨z,t',rfl⟩:=pY hs y (by simpa using hy);exact SeqAt.EqAt.str_str z t' x0 t
  ·rw[List.any_toArray,lc x0 hs];exact fin _ _ I h
def tV(hu:X.A.units+64<cLine):FH X (compareOp .NotIn) λx y=>aU X.K (fIn Bool.not) [x,y]:=by
 intro pins s σ H x y v u Q I rx ry h;obtain⟨M,ds,R,m,rs,h,k⟩:=h;have fin:∀b s',Inv X pins σ H s'->R (.bl b)->EP X pins σ Q (.bool b) s':=λb s' I' r=>⟨.bl b,H,I',rfl,k _ r _ H (bY.refl H) (Fr.sc rfl)⟩;replace h:=xz h
 rcases h with⟨_,_,_,rfl,h⟩ | ⟨x0,_,rfl,h⟩
 ·obtain⟨h1,h2⟩:=cc rs
  cases bD h1
  unfold Fr at h2;obtain⟨a,vs,rfl,_,e,l,r⟩:=h2
  cases ry
  refine A8 (by omega) I (oR.k (k:=Sum.inr _) e) rx λs' I'=>?_;rw[dU,fD (by rw[l,Reps.length _ _ r])];exact fin _ _ I' h
 ·obtain⟨ss,rfl,h⟩:=h;obtain⟨h1,h2⟩:=cc rs
  cases bD h1
  unfold Fr at h2;obtain⟨a,vs,rfl,_,e,r⟩:=h2
  cases ry
  cases dD r
  obtain⟨t,rfl⟩:=rx;obtain⟨its,rv,pl,_⟩:=I.list (FA.of e);have hs:=cS rv;refine SeqAt.notIn_listAt (λy=>match y with | .str z _=>z==x0 | _=>false) pl.isList (λy hy=>?_) ?_
  ·obtain⟨z,t',rfl⟩:=pY hs y (by simpa using hy);exact SeqAt.EqAt.str_str z t' x0 t
  ·rw[List.any_toArray,lc x0 hs];exact fin _ _ I h
def yp:List D->(D->Prop)->Prop
 | [.int i,.int j],R=>R (.bl (!decide (i=j)))
 | [.str x,.str y],R=>R (.bl (!decide (x=y)))
 | [.bl a,.bl b],R=>R (.bl (!decide (a=b)))
 | [.tup xs,.tup ys],R=>(xs=ys/\D.nds xs=true/\D.dps xs<=60)/\R (.bl false)
 | [.lst xs,.lst ys],R=>(xs=ys/\D.nds xs=true/\D.dps xs<=60)/\R (.bl false)
 | _,_=>False
def yq:∀ {d0:List D} {R:D->Prop},yp d0 R->((∃(i:Int) (j:Int),d0=[.int i,.int j]/\R (.bl (!decide (i=j))))\/(∃(x:Str) (y:Str),d0=[.str x,.str y]/\R (.bl (!decide (x=y))))\/(∃(a:Bool) (b:Bool),d0=[.bl a,.bl b]/\R (.bl (!decide (a=b))))\/(∃(xs:List D) (ys:List D),d0=[.tup xs,.tup ys]/\(xs=ys/\D.nds xs=true/\D.dps xs<=60)/\R (.bl false))\/(∃(xs:List D) (ys:List D),d0=[.lst xs,.lst ys]/\(xs=ys/\D.nds xs=true/\D.dps xs<=60)/\R (.bl false))):=by walk_at "or"
def wj{i j:Int}:yp [.int i,.int j] R=(R (.bl (!decide (i=j)))):=rfl
def wZ{i j:Str}:yp [.str i,.str j] R=(R (.bl (!decide (i=j)))):=rfl
def AD{i j:Bool}:yp [.bl i,.bl j] R=(R (.bl (!decide (i=j)))):=rfl
def v7{xs ys:List D}:yp [.tup xs,.tup ys] R=((xs=ys/\D.nds xs=true/\D.dps xs<=60)/\R (.bl false)):=rfl
def vO{xs ys:List D}:yp [.lst xs,.lst ys] R=((xs=ys/\D.nds xs=true/\D.dps xs<=60)/\R (.bl false)):=rfl
def oQ{α β:Type}{F:α->β->Prop}:∀ {l₁:List α} {l₂:List β} {j:Nat} {b:β},Paired F l₁ l₂->l₂[j]?=some b->∃a,l₁[j]?=some a/\F a b
 | _,_,_,_,.nil,e=>by simp at e
 | _,_,0,_,.cons h t,e=>by simp at e;subst e;exact⟨_,rfl,h⟩
 | _,_,j+1,_,.cons h t,e=>by
  obtain⟨a,q,f⟩:=oQ (j:=j) t (by simpa using e);exact⟨a,by simpa using q,f⟩
def uy{j:Nat}{k:Fo}(e:(bg ks vs)[j]?=some (k,v)):∃x,k=Sum.inr x/\ks[j]?=some x/\vs[j]?=some v:=by
 unfold bg at e;rw[List.getElem?_zip_eq_some] at e;obtain⟨e1,e2⟩:=e;rw[List.getElem?_map] at e1
 cases h:ks[j]? with
 | none=>rw[h] at e1;cases e1
 | some x=>rw[h] at e1;exact⟨x,(Gc e1).symm,rfl,e2⟩
def kl(hu:X.A.units+64<cLine):FH X (compareOp .NotEq) λx y=>aU X.K yp [x,y]:=by
 intro pins s σ H x y v u Q I rx ry h;obtain⟨M,ds,R,m,rs,h,k⟩:=h;have fin:∀b,R (.bl b)->EP X pins σ Q (.bool b) s:=λb r=>⟨.bl b,H,I,rfl,k _ r _ H (bY.refl H) (Fr.sc rfl)⟩;replace h:=yq h
 rcases h with⟨_,_,rfl,h⟩ | ⟨_,_,rfl,h⟩ | ⟨_,_,rfl,h⟩ | ⟨_,_,rfl,h⟩ | ⟨_,_,rfl,h⟩
 ·exact o_ne hu pins s σ H x y v u Q I rx ry ⟨M,_,R,m,rs,h,k⟩
 ·exact o_ne hu pins s σ H x y v u Q I rx ry ⟨M,_,R,m,rs,h,k⟩
 ·exact o_ne hu pins s σ H x y v u Q I rx ry ⟨M,_,R,m,rs,h,k⟩
 ·obtain⟨⟨e,hn,hd⟩,h⟩:=h;subst e;obtain⟨h1,h2⟩:=cc rs;unfold Fr at h1 h2;obtain⟨a,vs,rfl,sq,rs1⟩:=h1;obtain⟨b,ws,rfl,sq',rs2⟩:=h2
  cases rx
  cases ry
  obtain⟨its,r1,t1,_⟩:=I.tuple sq;obtain⟨its',r2,t2,_⟩:=I.tuple sq';have hs:its.length=its'.length:=by rw[<- r1.length,<- r2.length,<- Reps.length _ _ rs1,<- Reps.length _ _ rs2]
  refine SeqAt.RcNeAt.tuples (e:=λ_=>true) t1 t2 (by omega) (eqAt_Ds I _ X.A.in1 vs ws its its' hn (by rw[cC];omega) rs1 rs2 r1 r2) _ _ _ _ ?_;have z:((List.range (min its.toArray.size its'.toArray.size)).all (λ_=>true)&&its.toArray.size==its'.toArray.size)=true:=by simp[hs]
  rw[z];exact fin _ h
 ·obtain⟨⟨e,hn,hd⟩,h⟩:=h;subst e;obtain⟨h1,h2⟩:=cc rs;unfold Fr at h1 h2;obtain⟨a,vs,rfl,_,sq,rs1⟩:=h1;obtain⟨b,ws,rfl,_,sq',rs2⟩:=h2
  cases rx
  cases ry
  obtain⟨its,r1,t1,_⟩:=I.list (FA.of sq);obtain⟨its',r2,t2,_⟩:=I.list (FA.of sq');have hs:its.length=its'.length:=by rw[<- r1.length,<- r2.length,<- Reps.length _ _ rs1,<- Reps.length _ _ rs2]
  refine SeqAt.RcNeAt.lists (e:=λ_=>true) t1.isList t2.isList (by simp[hs]) (by omega) (eqAt_Ds I _ X.A.in1 vs ws its its' hn (by rw[cC];omega) rs1 rs2 r1 r2) _ _ _ _ ?_;rw[iu];exact fin _ h
end
end DL
namespace DL
open PySem PySem.Spec PyProof.Rows L2
variable {ds:List D} {R:D→Prop}
section
variable {prog:Program} {w:World} {A:Around} {E:Value→Shared→Prop} {s:Shared}
def fS{a:Addr}{vs:List Value}{ss:List Str}{n:Nat}{Q:Value->Shared->Prop}(ho:s.heap.get? a=some (seqObj "list" vs.toArray n))(hS:StrsAre vs ss)(h64:vs.length<64)
  (h:∀(out:Array Value) (ss':List Str),StrsAre out.toList ss'->ss'.Perm ss->sortedS ss'=true->Q .none { s with heap:=sortedHeap s.heap a vs out }) :
  wpAny (model prog w) A (call (.builtin "list.sort") [.ref a]) Q E s:=by
 refine GY slot_list_sort ⟨_,ho,rfl⟩ entry_list_sort (list_sort_treeK strKind_oneLt ho hS.keysOf (λv₁ v₂ du e=>keyKind_strs (by rw[<- e];exact hS)) h64 λst' hp hs=>?_) (args_list_sort _);obtain⟨ss',h1,h2,h3⟩:=sorted_out_str hS hp hs;exact⟨_,rfl,h _ ss' h1 h2 h3⟩
end
abbrev Srt(ss:List Str):Prop:=sortedS ss=true
def jd:List D->(D->Prop)->Prop
 | [.lst ds],R=>∃ss:List Str,ds=ss.map D.str/\ss.length<64/\∀ss',ss'.Perm ss->Srt ss'->R (.lst (ss'.map D.str))
 | [.dct ks _],R=>ks.length<64/\∀ss',ss'.Perm ks->Srt ss'->R (.lst (ss'.map D.str))
 | [.fd ks _],R=>ks.length<64/\∀ss',ss'.Perm ks->Srt ss'->R (.lst (ss'.map D.str))
 | _,_=>False
def rM:∀ {d0:List D} {R:D->Prop},jd d0 R->((∃(ds:List D),d0=[.lst ds]/\∃ss:List Str,ds=ss.map D.str/\ss.length<64/\∀ss',ss'.Perm ss->Srt ss'->R (.lst (ss'.map D.str)))\/(∃(ks:List Str) (z1:List D),d0=[.dct ks z1]/\ks.length<64/\∀ss',ss'.Perm ks->Srt ss'->R (.lst (ss'.map D.str)))\/(∃(ks:List Str) (z1:List D),d0=[.fd ks z1]/\ks.length<64/\∀ss',ss'.Perm ks->Srt ss'->R (.lst (ss'.map D.str)))):=by walk_at "or"
def nL:jd [.lst ds] R=(∃ss:List Str,ds=ss.map D.str/\ss.length<64/\∀ss',ss'.Perm ss->Srt ss'->R (.lst (ss'.map D.str))):=rfl
def rV{ks:List Str}:jd [.fd ks ds] R=(ks.length<64/\∀ss',ss'.Perm ks->Srt ss'->R (.lst (ss'.map D.str))):=rfl
def ot{ks:List Str}:jd [.dct ks ds] R=(ks.length<64/\∀ss',ss'.Perm ks->Srt ss'->R (.lst (ss'.map D.str))):=rfl
def i7{P:Program}{w:World}:∀ {ks:List Str} {us:List Value},ks.length=us.length->(∀(j:Nat) v k,us[j]?=some v->ks[j]?=some k->(aZ P w).is (Sum.inr k) v=true)->StrsAre us ks
 | [],[],_,_=>.nil
 | [],_::_,l,_=>by cases l
 | _::_,[],l,_=>by cases l
 | k::ks,u::us,l,h=>by
  have h0:=h 0 u k rfl rfl
  obtain⟨t,rfl⟩:∃t,u=Value.str k t:=by
   have:nR (Sum.inr k) u=true:=h0
   rcases aY this with⟨i,t,e,_⟩ | ⟨x,t,e,e2⟩
   ·cases e
   ·cases e;exact⟨t,e2⟩
  exact .cons _ _ (i7 (HD l) λj v k' e1 e2=>h (j+1) v k' (by simpa using e1) (by simpa using e2))
section
variable {X:Cx}
def kY(hc:X.calm=true):bP X (.builtin "sorted") (aU X.K jd):=by
 intro pins s σ H xs us Q I rv h;obtain⟨M,ds,R,m,rs,h,k⟩:=h;replace h:=rM h
 rcases h with⟨_,rfl,h⟩ | ⟨_,_,rfl,h⟩ | ⟨_,_,rfl,h⟩
 ·obtain⟨ss,rfl,h64,h⟩:=h;obtain⟨x,rfl,q⟩:=a9 rs;unfold Fr at q;obtain⟨a,vs,rfl,_,e,r⟩:=q;obtain⟨u,rfl,ru⟩:=fL rv
  cases ru
  cases dD r
  obtain⟨its,rv2,pl,_⟩:=I.list (FA.of e);have hs:=cS rv2;have hl:its.length=ss.length:=by rw[<- rv2.length,FR]
  refine sorted_strs pl.isList hs (by omega) λout ss' h1 h2 h3=>?_;obtain⟨ep,he⟩:=sortedAll_at s.heap its out;have hz:(ss'.map V.str).length<=sizeLine:=by rw[FR,h2.length_eq];exact dY (by omega)
  have I2:L2.Inv X pins σ (FI H (s.heap.objs.size+1) (.lst (ss'.map V.str))) { s with heap:=sortedAll s.heap its out } :=
   I.laid (t':=s.toks) (λb o=>sortedAll_old) (IG _) (show bO X.prog X.w _ _ _ (.lst (ss'.map V.str)) from⟨hz,out.toList,ep,b7 h1,he⟩)
  have fr:H (s.heap.objs.size+1)=none:=I.hok.fresh (IG _)
  refine⟨.ref _,_,I2,rfl,k _ (h ss' h2 h3) _ _ (aG fr _) ?_⟩;unfold Fr;exact⟨_,_,rfl,λz=>m _ z fr,aF,b9 ss'⟩
 ·obtain⟨h64,h⟩:=h
  rename_i ks ds
  obtain⟨x,rfl,q⟩:=a9 rs;unfold Fr at q;obtain⟨a,vs,rfl,_,e,l,r⟩:=q;obtain⟨u,rfl,ru⟩:=fL rv
  cases ru
  obtain⟨hz,lo,va,ra,da⟩:=vI I.hok e;obtain⟨ep,hat⟩:=da.dictAt;have lv:=Reps.length _ _ r;have hlen:va.length=ks.length:=by
   rw[<- ra.length];unfold bg;rw[G7,FR];omega
  refine HM kind_sorted plain_sorted entry_sorted (args_sorted1 _) ?_;unfold Builtin.«sorted»;refine FT (m:=checkCount "sorted" 1 1 _) (FY ?_);refine FT (PySem.W.kdu_collect (A:=X.A.in1) (PySem.W.kdl_dict (knd:=aZ X.prog X.w) (kvs:=va) (ep:=ep) lo) (I.ok.hd hc) hat (by rw[hlen];exact dY (by omega)) λh' tk acc hk hacc=>?_);have hl:acc.toList.length=ks.length:=by rw[GE,<- hlen];exact hacc.1
  have hS:StrsAre acc.toList ks:=i7 hl.symm λj v k' e1 e2=>by
   obtain⟨k2,x2,h1,h2⟩:=hacc.2 j v (by rw[<- Array.getElem?_toList];exact e1);obtain⟨⟨k3,v3⟩,q1,z1,_⟩:=oQ ra h1;obtain⟨x,rfl,kx,_⟩:=uy q1;simp only at z1;rw[kx] at e2
   cases e2
   rw[z1];exact h2
  refine FT (wpAny_newList ?_ (by rw[hl];exact dY (by omega)));have hoL:(h'.push { cls:=.type "list",data:=.seq acc.toList.toArray }).get? h'.objs.size=some (seqObj "list" acc.toList.toArray 0):=Heap.get?_push_size _ rfl;refine FT (GX (fS hoL hS (by omega) λout ss' h1 h2 h3=>?_));refine FY ⟨_,rfl,?_⟩;obtain⟨ep2,he⟩:=sortedHeap_at (out:=out) hoL;have I1:L2.Inv X pins σ H { s with heap:=h',toks:=tk }:=I.kept (t':=tk) hk;have kp:∀b o,h'.get? b=some o->(sortedHeap (h'.push { cls:=.type "list",data:=.seq acc.toList.toArray }) h'.objs.size acc.toList out).get? b=some o:=λb o e=>by
   have hb:=Gg e
   rw[sortedHeap_old (Gw hb) (by rw[G2];exact Hr hb)];exact Heap.get?_push_of_some _ e
  have hz2:(ss'.map V.str).length<=sizeLine:=by rw[FR,h2.length_eq];exact dY (by omega)
  have I2:L2.Inv X pins σ (FI H h'.objs.size (.lst (ss'.map V.str))) { s with heap:=sortedHeap (h'.push { cls:=.type "list",data:=.seq acc.toList.toArray }) h'.objs.size acc.toList out,toks:=tk } :=
   I1.laid (t':=tk) kp (F3 _) (show bO X.prog X.w _ _ _ (.lst (ss'.map V.str)) from⟨hz2,out.toList,ep2,b7 h1,he⟩)
  have fr:H h'.objs.size=none:=I1.hok.fresh (F3 _)
  refine⟨.ref _,_,I2,rfl,k _ (h ss' h2 h3) _ _ (aG fr _) ?_⟩;unfold Fr;exact⟨_,_,rfl,λz=>m _ z fr,aF,b9 ss'⟩
 ·obtain⟨h64,h⟩:=h
  rename_i ks ds
  obtain⟨x,rfl,q⟩:=a9 rs;unfold Fr at q;obtain⟨a,vs,o9,rfl,e,l,r⟩:=q;obtain⟨u,rfl,ru⟩:=fL rv
  cases ru
  obtain⟨hz,lo,va,ra,da⟩:=iH I.hok (.inr ⟨o9,e⟩);obtain⟨ep,hat⟩:=da.dictAt;have lv:=Reps.length _ _ r;have hlen:va.length=ks.length:=by
   rw[<- ra.length];unfold bg;rw[G7,FR];omega
  refine HM kind_sorted plain_sorted entry_sorted (args_sorted1 _) ?_;unfold Builtin.«sorted»;refine FT (m:=checkCount "sorted" 1 1 _) (FY ?_);refine FT (PySem.W.kdu_collect (A:=X.A.in1) (PySem.W.kdl_dict (knd:=aZ X.prog X.w) (kvs:=va) (ep:=ep) lo) (I.ok.hd hc) hat (by rw[hlen];exact dY (by omega)) λh' tk acc hk hacc=>?_);have hl:acc.toList.length=ks.length:=by rw[GE,<- hlen];exact hacc.1
  have hS:StrsAre acc.toList ks:=i7 hl.symm λj v k' e1 e2=>by
   obtain⟨k2,x2,h1,h2⟩:=hacc.2 j v (by rw[<- Array.getElem?_toList];exact e1);obtain⟨⟨k3,v3⟩,q1,z1,_⟩:=oQ ra h1;obtain⟨x,rfl,kx,_⟩:=uy q1;simp only at z1;rw[kx] at e2
   cases e2
   rw[z1];exact h2
  refine FT (wpAny_newList ?_ (by rw[hl];exact dY (by omega)));have hoL:(h'.push { cls:=.type "list",data:=.seq acc.toList.toArray }).get? h'.objs.size=some (seqObj "list" acc.toList.toArray 0):=Heap.get?_push_size _ rfl;refine FT (GX (fS hoL hS (by omega) λout ss' h1 h2 h3=>?_));refine FY ⟨_,rfl,?_⟩;obtain⟨ep2,he⟩:=sortedHeap_at (out:=out) hoL;have I1:L2.Inv X pins σ H { s with heap:=h',toks:=tk }:=I.kept (t':=tk) hk;have kp:∀b o,h'.get? b=some o->(sortedHeap (h'.push { cls:=.type "list",data:=.seq acc.toList.toArray }) h'.objs.size acc.toList out).get? b=some o:=λb o e=>by
   have hb:=Gg e
   rw[sortedHeap_old (Gw hb) (by rw[G2];exact Hr hb)];exact Heap.get?_push_of_some _ e
  have hz2:(ss'.map V.str).length<=sizeLine:=by rw[FR,h2.length_eq];exact dY (by omega)
  have I2:L2.Inv X pins σ (FI H h'.objs.size (.lst (ss'.map V.str))) { s with heap:=sortedHeap (h'.push { cls:=.type "list",data:=.seq acc.toList.toArray }) h'.objs.size acc.toList out,toks:=tk } :=
   I1.laid (t':=tk) kp (F3 _) (show bO X.prog X.w _ _ _ (.lst (ss'.map V.str)) from⟨hz2,out.toList,ep2,b7 h1,he⟩)
  have fr:H h'.objs.size=none:=I1.hok.fresh (F3 _)
  refine⟨.ref _,_,I2,rfl,k _ (h ss' h2 h3) _ _ (aG fr _) ?_⟩;unfold Fr;exact⟨_,_,rfl,λz=>m _ z fr,aF,b9 ss'⟩
def qe:List D->(D->Prop)->Prop
 | [.lst xs],R=>R (.tup xs)
 | [.fz xs],R=>R (.tup xs)
 | [.tup xs],R=>R (.tup xs)
 | _,_=>False
def tq:∀ {d0:List D} {R:D->Prop},qe d0 R->((∃(xs:List D),d0=[.lst xs]/\R (.tup xs))\/(∃(xs:List D),d0=[.fz xs]/\R (.tup xs))\/(∃(xs:List D),d0=[.tup xs]/\R (.tup xs))):=by walk_at "or"
def rP{xs:List D}:qe [.lst xs] R=(R (.tup xs)):=rfl
def qQ{xs:List D}:qe [.tup xs] R=(R (.tup xs)):=rfl
def iX:bP X (.type "tuple") (aU X.K qe) :=
 bP.imp fP λxs H Q ⟨M,ds,R,m,rs,h,k⟩=>by
  replace h:=tq h
  rcases h with⟨_,rfl,h⟩ | ⟨_,rfl,h⟩ | ⟨_,rfl,h⟩
  ·obtain⟨x,rfl,q⟩:=a9 rs;unfold Fr at q;obtain⟨a,vs,rfl,_,e,r⟩:=q;refine⟨a,vs,rfl,.inl ⟨FA.of e,λl hl=>k _ h _ _ (aG hl _) ?_⟩⟩;unfold Fr;exact⟨l,vs,rfl,Fv.of aF,Reps.kp (Kp.of_same (aG hl _)) _ _ r⟩
  ·obtain⟨x,rfl,q⟩:=a9 rs;unfold Fr at q;obtain⟨a,vs,rfl,e,r⟩:=q;refine⟨a,vs,rfl,.inl ⟨e.seq,λl hl=>k _ h _ _ (aG hl _) ?_⟩⟩;unfold Fr;exact⟨l,vs,rfl,Fv.of aF,Reps.kp (Kp.of_same (aG hl _)) _ _ r⟩
  ·obtain⟨x,rfl,q⟩:=a9 rs;have q0:=q;unfold Fr at q;obtain⟨a,vs,rfl,e,r⟩:=q;exact⟨a,vs,rfl,.inr ⟨e,k _ h _ _ (bY.refl H) q0⟩⟩
def il{pos:Pos}:DE X (.Dict [] [] pos) (dC (.dct [] [])) :=
 PE.imp qA λσ H Q ⟨G,δ,P,R,⟨A,x⟩,r,k,_⟩=>λp hp=>by
  refine k _ δ r (.ref p) _ ⟨A,(x.same (aG hp (.dK []))).push ?_⟩;unfold Fr;exact⟨p,[],rfl,λz=>x.mem p z hp,aF,rfl,Reps.nil⟩
variable {a b e:Expr} {ta tb:FQ} {pos:Pos}
def dO(hu:X.A.units+64<cLine)(ha:DE X a ta)(hb:DE X b tb)(hs:NoSl b):DE X (.Subscript a b pos) (dOp wA ta tb) :=
 PE.imp (yw (by omega) ha hb hs) λσ H Q ⟨G,δ,P,R,s,h,k,_⟩=>up.mk s h λx δ1 h1 v H1 s1=>up.mk s1 h1 λy δ2 h2 u H2 s2=>by
  replace h2:=wX h2
  rcases h2 with⟨ks,ds,z,eq,h2⟩ | ⟨ks,ds,z,eq,h2⟩
  ·skip
   cases eq
   obtain⟨d,ed,r⟩:=h2;obtain⟨A,q⟩:=id s2;have p1:=q.pnd (.dct ks ds,v) (by simp);have p2:u=.str z:=bD (q.pnd (.str z,u) (by simp));unfold Fr at p1;obtain⟨a,vs,rfl,_,he,l,rs⟩:=p1;obtain⟨w',hw,rw'⟩:=(Reps.dAt z ks ds vs rs).1 d ed;refine⟨a,w',rfl,?_,k d δ2 r w' H2 ⟨A,(q.sub (P':=P) λp hp=>by simp[hp]).push rw'⟩⟩;have g:=oR.k (k:=Sum.inr z) he;rw[dU,hw] at g;rw[p2];exact g
  ·skip
   cases eq
   obtain⟨d,ed,r⟩:=h2;obtain⟨A,q⟩:=id s2;have p1:=q.pnd (.fd ks ds,v) (by simp);have p2:u=.str z:=bD (q.pnd (.str z,u) (by simp));unfold Fr at p1;obtain⟨a,vs,o,rfl,he,l,rs⟩:=p1;obtain⟨w',hw,rw'⟩:=(Reps.dAt z ks ds vs rs).1 d ed;refine⟨a,w',rfl,?_,k d δ2 r w' H2 ⟨A,(q.sub (P':=P) λp hp=>by simp[hp]).push rw'⟩⟩;have g:oR H2 a (kV (Sum.inr z)) (nP (bg ks vs) (Sum.inr z)):=.inl ⟨_,_,.inr ⟨o,he⟩,rfl,rfl⟩;rw[dU,hw] at g;rw[p2];exact g
def Bs(i:Nat)(tv tk:FQ)(R:a4)(δ:En):Prop:=tv δ (wd λx δ1=>qW δ1[i]? λa _=>tk δ1 (wd λz δ2=>At δ2[i]? λks ds=>qX z λy=>ks.length<9000/\lH δ2 i (.own a (.dct (jF ks y) (lG ks ds y x))) R.nx))
def eR(i:Nat){y:Str}{p pos':Pos}(hu:X.A.units+64<cLine)(he:DE X e ta)(hb:DE X b tb)(hN:X.N[i]?=some y:=by rfl)(hv:Vis X.env.scope y:=by walk_at "v3")
  (hd:(y==("__debug__":Str))=false:=by decide) (hcd:(y==("__classdict__":Str))=false:=by decide) (hs:swapsWith e (some (.Subscript (.Name y p) b pos')) pos.line X.env=pure false:=by rfl) :
  DS X (.Assign [.Subscript (.Name y p) b pos'] e pos) (Bs i ta tb) :=
 PS.imp (Ax (by omega) (dJ hN hv hd hcd) hb he hs) λE σ H ⟨G,δ,P,R,s,h,k,_⟩=>up.mk s h λx δ1 h1 v H1 s1=>let ⟨a,ds0,hi0,h1⟩:=qW.ex h1;⟨.ref a,s1.own hi0,up.mk s1 h1 λz δ2 h2 u H2 ⟨A,q⟩=>by
  replace h2:=At.ex q (s1.own hi0) h2;obtain⟨ks,ds,hi,h2⟩:=h2;replace h2:=qX.ex h2;obtain⟨y,ez,hz,r⟩:=h2;subst ez;obtain⟨_,aa,vs,hvs,l,rs⟩:=q.own i a _ hi;have lv:=Reps.length _ _ rs;have p2:u=.str y:=bD (q.pnd (.str y,u) (by simp));have hlen:(bg ks vs).length<sizeLine:=by
   unfold bg;rw[G7,FR];exact jt (by omega)
  have g:=DPut.k (k:=Sum.inr y) (v:=v) hvs hlen
  rw[zK y v (by omega)] at g;refine⟨a,_,rfl,by rw[p2];exact g,k _ r _ _ ⟨A,(q.change (d':=.dct (jF ks y) (lG ks ds y x)) hi (λb o n e=>by rw[aI n];exact e) ⟨lG ks vs y v,aF,yM l,?_⟩).sub (P':=P) λq hq=>FU _ (FU _ hq)⟩⟩;have kp:Kp (λb=>G.M0 b\/A b) H2 (FI H2 a (.dK (bg (jF ks y) (lG ks vs y v)))):=by
   have hk:∀b o,b≠a->H2 b=some o->FI H2 a (.dK (bg (jF ks y) (lG ks vs y v))) b=some o:=λb o n e=>by rw[aI n];exact e
   exact⟨λb o e n=>hk b o (λz=>n (.inr (by rw[z];exact aa))) e,λb xs e=>hk b _ (λz=>by rw[z,hvs] at e;cases e) e,λb o u e=>hk b _ (λz=>by rw[z,hvs] at e;cases e) e⟩
  exact Reps.kp kp _ _ (Reps.put y rs (q.pnd (x,v) (by simp)))⟩
def Cb(R:a4)(δ:En):Prop:=R.rt .non δ
def yL{pos:Pos}:DS X (.Return none pos) Cb:=PS.imp yR λE σ H ⟨G,δ,P,R,s,h,_,k,_⟩=>k.1 .non δ h .non σ H (s.sc rfl)
end
end DL
namespace DL
open PySem PySem.Spec PyProof.Rows L2
section
variable {prog:Program} {w:World} {A:Around} {E:Value→Shared→Prop}
def j7{it l:Addr}{us:List Value}(ne:l≠it):∀(du:List Value) (i:Nat) (s:Shared) (Q:List Value->Shared->Prop),us.drop i=du->s.heap.IsListIter it l i->s.heap.IsList l us.toArray ->
  (∀h',h'.IsListIter it l (i+du.length)->Heap.SameBut it s.heap h'->Q du { s with heap:=h' })->wpAny (model prog w) A (draw (.ref it) du.length) Q E s
 | [],i,s,Q,_,si,_,k=>FY (k s.heap si (Heap.SameBut.refl ..))
 | u::du,i,s,Q,e,si,sl,k=>by
  have hu:us[i]?=some u:=by
   have:=Hf (λz=>z[0]?) e
   simpa using this
  have hr:us.drop (i+1)=du:=by
   have:=Hf List.tail e
   rw[List.tail_drop] at this;simpa using this
  refine FT (wpAny_pyNext_list_item si sl (x:=u) (by simpa using hu) λh1 s1 b1=>FT (GX ?_));have sl1:h1.IsList l us.toArray:=by
   obtain⟨o,ho,r⟩:=sl;exact⟨o,(b1.2 l ne).trans ho,r⟩
  refine j7 ne du (i+1) { s with heap:=h1 } _ hr s1 sl1 λh2 s2 b2=>FY ?_;refine k h2 ?_ (b1.trans b2);rw[F8,Nat.add_comm du.length 1,<- Nat.add_assoc];exact s2
def kH{l:Addr}{us:List Value}{s:Shared}{Q:List Value->Shared->Prop}(hh:A.handled=none)(sl:s.heap.IsList l us.toArray)
  (k:∀h',(∀b o,s.heap.get? b=some o->h'.get? b=some o)->Q us { s with heap:=h' }):wpAny (model prog w) A (unpackItems (.ref l) us.length none) Q E s:=by
 have hlt:l<s.heap.objs.size:=let ⟨_,ho,_⟩:=sl;Gg ho
 have ty:s.TypeIs (.ref l) "list":=let ⟨o,ho,hc,_⟩:=sl;⟨o,ho,hc⟩
 unfold unpackItems notIterableAtAll;refine FT (FT (wpAny_specialOf ty F.slot_list_iter.lookup (FY ?_)));rw[Gb F0];refine FT (GX (HI sl (FT (GX ?_))));have sl0:∀o:Obj,(s.heap.push o).IsList l us.toArray:=λo=>let ⟨q,ho,r⟩:=sl;⟨q,Heap.get?_push_of_some _ ho,r⟩;refine j7 (us:=us) (Gw hlt) us 0 _ _ (List.drop_zero ..) ⟨_,Heap.get?_push_size _ rfl,rfl,rfl⟩ (sl0 _) λh1 s1 b1=>?_;rw[Gb (GQ _)];have sl1:h1.IsList l us.toArray:=by
  obtain⟨o,ho,r⟩:=sl;exact⟨o,(b1.2 l (Gw hlt)).trans (Heap.get?_push_of_some _ ho),r⟩
 refine FT (GX (wpAny_pyNext_list_end hh s1 sl1 (by simp) λh2 b2=>?_));rw[Gb (show ¬ ((none:Option Value).isSome=true) from F0)];refine FY (k h2 λb o e=>?_);have nb:b≠s.heap.objs.size:=Gw (Gg e);exact b2 b o nb ((b1.2 b nb).trans (Heap.get?_push_of_some _ e))
end
section
variable {X:Cx} {pos:Pos}
def gLst(K:PySem.W.Frag)(n:Nat)(t:TGs):TG:=λv σ H Q=>∃a xs,v=.ref a/\FA K H a xs/\xs.length=n/\t xs σ H Q
def CV{es:List Expr}{k:Nat}{t:TGs}{n:Nat}(hc:X.calm=true)(h:PGs X es t)(hn:(assignEach es X.env).length=n:=by rfl)(hst:(assignEach es X.env).findIdx? (·.1)=none:=by rfl):PG X (.Tuple es k pos) (gLst X.K n t):=by
 intro pins s σ H v u Q I r ⟨a,xs,e,hq,hl,hw⟩;subst e
 cases r
 obtain⟨us,rv,pl,_⟩:=I.list hq;rw[arm_assign_Tuple];refine FT (wpAny_standAt ?_);unfold unpack;rw[hst,hn,<- hl,rv.length];exact FT (GX (kH (I.ok.hd hc) pl.isList λh' kp=>h pins _ σ H xs _ Q (I.kept (t':=s.toks) kp) rv hw))
def zz(n:Nat)(t:ya)(d:D)(δ:En)(R:En->Prop):Prop:=qL d λxs=>rY xs n (t xs δ R)
def xR{es:List Expr}{kk n:Nat}{gs:ya}(hc:X.calm=true)(h:DGs X es gs)(hn:(assignEach es X.env).length=n:=by rfl)(hst:(assignEach es X.env).findIdx? (·.1)=none:=by rfl):DG X (.Tuple es kk pos) (zz n gs) :=
 PG.imp (CV hc h hn hst) λv σ H Q ⟨G,δ,P,d,R,⟨A,x⟩,h,k⟩=>by
  replace h:=qL.ex h;obtain⟨xs,e,h⟩:=h;replace h:=rY.ex h;obtain⟨hl,h⟩:=h;subst e;have q:=x.pnd (.lst xs,v) (by simp);unfold Fr at q;obtain⟨a,vs,e,_,sq,r⟩:=q;subst e;have lv:=Reps.length _ _ r;refine⟨a,vs,rfl,FA.of sq,by rw[<- lv];exact hl,G,δ,P,xs,R,lv,⟨A,?_⟩,h,k⟩;have each:∀(ds:List D) (ws:List V),Reps X.K (λb=>G.M0 b\/A b) H ds ws->∀p∈ds.zip ws,Fr X.K (λb=>G.M0 b\/A b) H p.1 p.2:=by
   intro ds
   induction ds with
   | nil=>intro ws _ p hp;cases hp
   | cons d ds ih =>
    intro ws hr p hp;unfold Reps at hr;obtain⟨w',du,rfl,q1,q2⟩:=hr
    rcases F7.mp hp with rfl | hp
    ·exact q1
    ·exact ih du q2 p hp
  have y:=x.sub (P':=P) λp hp=>FU _ hp
  exact⟨y.old,y.stay,y.m0,y.pm,y.new,y.thr,y.len,y.dat,y.own,y.inj,λp hp=>(F9.mp hp).elim (each xs vs r p) (y.pnd p)⟩
end
end DL
namespace DL
open PySem PySem.Spec PyProof.Rows L2
variable {x:Str}
structure GInt(mg:Str->Option Value)(x:Str)(i:Int):Prop where
 ex:∃t,mg x=some (.int i t)
structure GTab(K:PySem.W.Frag)(mg:Str->Option Value)(x:Str)(D:List (Str×Str)):Prop where
 ex:∃a,mg x=some (.ref a)/\KTD.tabLook (KTD.datLooks λb=>K.lookup b) (λb=>K.lookup b) a (txt D)=true
def yn(k:Str):∀D:List (Str×Str),KTD.datumAt k (txt D)=(KTD.datumAt k D).map λv=>KTD.Dat.flat (.str v)
 | []=>rfl
 | (x,d)::D=>by
  show (if decide (k=x)=true then some (KTD.Dat.flat (.str d)) else KTD.datumAt k (txt D))=(if decide (k=x)=true then some d else KTD.datumAt k D).map _
  rw[yn k D]
  by_cases h:decide (k=x)=true
  ·rw[Gd h,Gd h];rfl
  ·rw[Gb h,Gb h]
def qE{h:Heap}{k:Str}{P:Value->Prop}:∀(D:List (Str×Str)),(∀v,KTD.datumAt k D=some v->∀t,P (.str v t))->KTD.EachL h k P (txt D)
 | [],_=>trivial
 | (x,d)::D,hq=>by
  show KTD.EachL h k P ((x,KTD.Dat.flat (.str d))::txt D)
  by_cases e:k=x
  ·exact KTD.eachL_hit e (KTD.opened_str λt=>hq d (by show (if decide (k=x)=true then some d else _)=_;rw[Gd (Gz e)]) t)
  ·exact KTD.eachL_miss e (qE D λv hv=>hq v (by show (if decide (k=x)=true then some d else _)=_;rw[Gb (by simp[e])];exact hv))
section
variable {X:Cx} {b:Expr} {tb:FQ} {pos p:Pos}
def sV{i:Int}(hg:Gl X x)(h:GInt X.mg x i)(hd:(x==("__debug__":Str))=false:=by decide):DE X (.Name x pos) (dC (.int i)):=by
 obtain⟨t,e⟩:=h.ex;exact de_c (og (v:=.int i) hg e ⟨t,rfl⟩ hd) rfl
def Cg(D:List (Str×Str))(ty:TE):TE:=λσ H Q=>ty σ H λy H1=>∃k v,y=.str k/\KTD.datumAt k D=some v/\Q (.str v) H1
def AE{D:List (Str×Str)}{ty:TE}(hg:Gl X x)(T:GTab X.K X.mg x D)(hb:PE X b ty)(hs:NoSl b)(hd:(x==("__debug__":Str))=false:=by decide):PE X (.Subscript (.Name x p) b pos) (Cg D ty):=by
 obtain⟨a,hm,hl⟩:=T.ex;intro pins s σ H Q I h;refine Subscript_ (FG (og (v:=.ref a) hg hm rfl hd pins s σ H (λy0 H0=>y0=.ref a/\Cg D ty σ H0 Q) I ⟨rfl,h⟩) λu s1 ⟨y0,H0,I0,r0,e0,q0⟩=>?_);subst e0
 cases r0
 refine FG (hb pins s1 σ H0 _ I0 q0) λiv s2 ⟨y,H1,I1,ry,k,v,ey,ev,q⟩=>?_;subst ey;obtain⟨t,rfl⟩:=ry;have T2:KTD.TextTab s2.heap a (txt D):=PySem.W.kt_text_in I1.kIn hl;refine KTD.item_text (h₀:=s2.heap) (D:=txt D) ⟨T2,λ_ _ e=>e⟩ ?_ (qE D λv' hv t'=>?_) (hs _ _)
 ·rw[<- KTD.isSome_datumAt,yn,ev];rfl
 ·rw[ev] at hv
  cases hv
  exact⟨.str v,H1,I1.tok _,⟨t',rfl⟩,q⟩
def C0(D:List (Str×Str))(t:FQ)(δ:En)(R:W->En->Prop):Prop:=t δ (wd λz δ1=>qX z λk=>∃v,KTD.datumAt k D=some v/\R (.d (.str v)) δ1)
def sU{D:List (Str×Str)}(hg:Gl X x)(T:GTab X.K X.mg x D)(hb:DE X b tb)(hs:NoSl b)(hd:(x==("__debug__":Str))=false:=by decide):DE X (.Subscript (.Name x p) b pos) (C0 D tb) :=
 PE.imp (AE hg T hb hs hd) λσ H Q ⟨G,δ,P,R,s,h,k,_⟩=>up.mk s h λz δ1 h1 u H1 s1=>by
  replace h1:=qX.ex h1;obtain⟨y,ez,h1⟩:=h1;obtain⟨v,ev,r⟩:=h1;subst ez;obtain⟨A,q⟩:=id s1;exact⟨y,v,bD (q.pnd (.str y,u) (by simp)),ev,k _ δ1 r _ H1 ((s1.sub (P':=P) λp hp=>by simp[hp]).sc rfl)⟩
end
end DL
namespace DL
open PySem PySem.Spec PyProof.Rows L2
def fMax:List D->(D->Prop)->Prop
 | [.int i,.int j],R=>R (.int (max i j))
 | [.lst ds],R=>∃ns:List Int,ds=ns.map D.int/\0<ns.length/\∀M∈ns,(∀a∈ns,a<=M)->R (.int M)
 | _,_=>False
def AY:∀ {d0:List D} {R:D->Prop},fMax d0 R->((∃(i:Int) (j:Int),d0=[.int i,.int j]/\R (.int (max i j)))\/(∃(ds:List D),d0=[.lst ds]/\∃ns:List Int,ds=ns.map D.int/\0<ns.length/\∀M∈ns,(∀a∈ns,a<=M)->R (.int M))):=by walk_at "or"
def w4{i j:Int}{R:D->Prop}:fMax [.int i,.int j] R=(R (.int (max i j))):=rfl
def wF{ds:List D}{R:D->Prop}:fMax [.lst ds] R=(∃ns:List Int,ds=ns.map D.int/\0<ns.length/\∀M∈ns,(∀a∈ns,a<=M)->R (.int M)):=rfl
def ji{K:PySem.W.Frag}{M:Addr->Prop}{H:Hp}:∀ {ns:List Int} {vs:List V},Reps K M H (ns.map D.int) vs->vs=ns.map V.int
 | [],vs,h=>by unfold Reps at h;exact h
 | s::ss,vs,h=>by
  rw[Go] at h;unfold Reps at h;obtain⟨v,r,rfl,q,t⟩:=h;rw[aM q,ji t];rfl
def fR:∀ {ns:List Int} {us:List Value},bF (ns.map V.int) us->IntsAre us ns
 | [],_,r=>by rw[HV] at r;cases r;exact .nil
 | n::ns,_,r=>by
  rw[Go] at r
  cases r with
  | @cons _ u _ us h t =>
   obtain⟨t',e⟩:=(show ∃t,u=Value.int n t from h);subst e;exact .cons _ _ (fR t)
def BY{X:Cx}(hc:X.calm=true):bP X (.builtin "max") (aU X.K fMax):=by
 intro pins s σ H xs us Q I rv h;obtain⟨M,ds,R,m,rs,h,k⟩:=h;replace h:=AY h
 rcases h with⟨i,j,rfl,h⟩ | ⟨_,rfl,h⟩
 ·skip
  refine tP hc pins s σ H xs us Q I rv ?_;obtain⟨x,y,rfl,h1,h2⟩:=k7 rs;refine⟨i,j,by rw[aM h1,aM h2],k _ h _ H (bY.refl H) ?_⟩;unfold Fr
  congr 1
  by_cases z:j>i
  ·rw[Gd z];omega
  ·rw[Gb z];omega
 ·obtain⟨ns,rfl,hpos,h⟩:=h;obtain⟨x,rfl,q⟩:=a9 rs;unfold Fr at q;obtain⟨a,vs,rfl,_,e,r⟩:=q;obtain⟨u,rfl,ru⟩:=fL rv
  cases ru
  cases ji r
  obtain⟨its,rv2,pl,_⟩:=I.list (FA.of e);have hi:=fR rv2;obtain⟨ys,ey⟩:=hi.allInts.items;have hn:ys.toList.map (·.1)=ns:=by
   have e1:=nums_intItems ys
   rw[<- ey] at e1;exact e1.symm.trans hi.numsOf
  have hz:ys.size=ns.length:=by rw[<- hn,FR,GE]
  have hl:=pl.isList
  rw[ey] at hl;refine max_intList (I.ok.hd hc) hl (by omega) λv h' tk hv hk=>?_;obtain⟨t,rfl⟩:=intItems_at hv;obtain⟨h1,h2⟩:=argBest_gt (numAt ys) (ys.size-1);refine⟨.int _,H,I.kept (t':=tk) hk,⟨t,rfl⟩,k _ (h _ ?_ λb hb=>?_) _ H (bY.refl H) (Fr.sc rfl)⟩
  ·rw[numAt_eq,hn];have hlt:argBest (λi j=>decide (numAt ys i>numAt ys j)) (ys.size-1)<ns.length:=by omega
   rw[List.getD_eq_getElem?_getD,List.getElem?_eq_getElem hlt];exact GZ hlt
  ·obtain⟨j,hj,ej⟩:=List.getElem_of_mem hb;have:=h2 j (by omega);rw[numAt_eq ys j,hn] at this;have ej2:ns.getD j 0=b:=by rw[List.getD_eq_getElem?_getD,List.getElem?_eq_getElem hj];exact ej
   rw[ej2] at this;exact this
end DL
namespace Mf
variable {b p q:Int}
def gc(a b:Int):Int:=(Int.gcd a b:Nat)
def zN(a b:Int):gc b (a.fmod b)=gc a b:=by
 unfold gc;rw[Int.fmod_def,Int.gcd_sub_mul_left_right,Int.gcd_comm]
def jJ(a b:Int)(hb:b≠0):(a.fmod b).natAbs<b.natAbs:=by
 rcases Int.lt_or_gt_of_ne hb with h | h
 ·have e:a.fmod b=-((-a).fmod (-b)):=by
   have h1:(-a).fdiv (-b)=a.fdiv b:=Int.neg_fdiv_neg a b
   rw[Int.fmod_def,Int.fmod_def,h1,Int.neg_mul];omega
  have h1:=Gu (-a) (b:=-b) (by omega)
  have h2:=GB (-a) (b:=-b) (by omega)
  rw[e];omega
 ·have h1:=Gu a h
  have h2:=GB a h
  omega
def As(a:Int):gc a 0=if a<0 then -a else a:=by
 unfold gc;rw[Int.gcd_zero_right]
 split<;>omega
def sL(a b:Int):0<=gc a b:=by unfold gc;omega
def yf(a:Int)(h:b≠0):0<gc a b:=by
 unfold gc;have:=Int.gcd_pos_of_ne_zero_right a h;omega
def eI(a b:Int):gc a b ∣ a:=Int.gcd_dvd_left a b
def dF(a b:Int):gc a b ∣ b:=Int.gcd_dvd_right a b
structure Fi(p q:Int):Prop where
 pos:0<q
 cop:gc p q=1
def Fi.cop'(h:Fi p q):Int.gcd p q=1:=by have:=h.cop;unfold gc at this;omega
def Fi.ne(h:Fi p q):q≠0:=by have:=h.pos;omega
def Fi.uniq{p' q':Int}(h:Fi p q)(h':Fi p' q')(e:p*q'=p'*q):p=p'/\q=q':=by
 have d1:q ∣ q':=by
  have:q ∣ p*q':=⟨p',by rw[e,GL]⟩
  have g:Int.gcd q p=1:=by rw[Int.gcd_comm];exact h.cop'
  have k:=(HF (k:=q) (n:=p) (m:=q')).mpr this
  rw[g] at k;simpa using k
 have d2:q' ∣ q:=by
  have:q' ∣ p'*q:=⟨p,by rw[<- e,GL]⟩
  have g:Int.gcd q' p'=1:=by rw[Int.gcd_comm];exact h'.cop'
  have k:=(HF (k:=q') (n:=p') (m:=q)).mpr this
  rw[g] at k;simpa using k
 have eq:q=q':=by
  have a1:=Int.le_of_dvd h'.pos d1
  have a2:=Int.le_of_dvd h.pos d2
  omega
 subst eq;exact⟨Int.eq_of_mul_eq_mul_right h.ne e,rfl⟩
def dv(t b:Int):Int:=if b<0 then -(gc t b) else gc t b
def Fj(t b:Int):Int:=t.fdiv (dv t b)
def FC(t b:Int):Int:=b.fdiv (dv t b)
def BN(t:Int)(h:b≠0):dv t b≠0:=by
 have:=yf t h
 unfold dv
 split<;>omega
def nq(t b:Int):dv t b ∣ t:=by
 unfold dv
 split
 ·exact(Int.neg_dvd).mpr (eI t b)
 ·exact eI t b
def lM(t b:Int):dv t b ∣ b:=by
 unfold dv
 split
 ·exact(Int.neg_dvd).mpr (dF t b)
 ·exact dF t b
def uh(t b:Int):Fj t b*dv t b=t:=Hu (nq t b)
def uz(t b:Int):FC t b*dv t b=b:=Hu (lM t b)
def mM(t b:Int):(dv t b).natAbs=Int.gcd t b:=by
 unfold dv gc
 split<;>omega
def et(t:Int)(h:b≠0):Fi (Fj t b) (FC t b):=by
 have e1:=uh t b
 have e2:=uz t b
 have hd:=BN t h
 constructor
 ·unfold dv at e2 hd;have gp:=yf t h
  by_cases hb:b<0
  ·rw[Gd hb] at e2;have:FC t b*gc t b=-b:=by rw[Int.mul_neg] at e2;omega
   exact Int.pos_of_mul_pos_left (by omega) gp |> λz=>z
  ·rw[Gb hb] at e2;exact Int.pos_of_mul_pos_left (by omega) gp |> λz=>z
 ·have g:Int.gcd (Fj t b*dv t b) (FC t b*dv t b)=Int.gcd (Fj t b) (FC t b)*(dv t b).natAbs:=Int.gcd_mul_right _ _ _
  rw[e1,e2,mM] at g;have gp:=Int.gcd_pos_of_ne_zero_right t h;unfold gc;have:Int.gcd (Fj t b) (FC t b)=1:=by
   have g2:1*Int.gcd t b=Int.gcd (Fj t b) (FC t b)*Int.gcd t b:=by rw[Nat.one_mul];exact g
   exact(Nat.eq_of_mul_eq_mul_right gp g2).symm
  omega
def pM(t b:Int):Fj t b*b=t*FC t b:=by
 have e1:=uh t b
 have e2:=uz t b
 calc Fj t b*b=Fj t b*(FC t b*dv t b):=by rw[e2]
  _=(Fj t b*dv t b)*FC t b:=by rw[GV,GL (FC t b)]
  _=t*FC t b:=by rw[e1]
def zZ{t:Int}(hb:b≠0)(h:Fi p q)(e:p*b=t*q):Fj t b=p/\FC t b=q:=by
 refine(et t hb).uniq h ?_;have c:=pM t b;refine Int.eq_of_mul_eq_mul_right hb ?_
 calc Fj t b*q*b=Fj t b*b*q:=by rw[GV,GL q,<- GV]
  _=t*FC t b*q:=by rw[c]
  _=(t*q)*FC t b:=by rw[GV,GL (FC t b),<- GV]
  _=p*b*FC t b:=by rw[e]
  _=p*FC t b*b:=by rw[GV,GL b,<- GV]
def Fi.self(h:Fi p q):Fj p q=p/\FC p q=q:=zZ h.ne h rfl
end Mf
namespace Mf
open PySem L2 DL
variable {q p:Str→Int} {B C:Int}
def Fy(q:Str->Int):List Str->Int
 | []=>1
 | n::r=>q n*Fy q r
def fZ(q:Str->Int)(l r:List Str):Fy q (l++r)=Fy q l*Fy q r:=by
 induction l with
 | nil=>show Fy q r=1*Fy q r;rw[Int.one_mul]
 | cons x l ih=>show q x*Fy q (l++r)=q x*Fy q l*Fy q r;rw[ih,GV]
def nu(q:Str->Int)(n:Str):Fy q [n]=q n:=by show q n*1=q n;rw[Int.mul_one]
def ce:∀ {l:List Str},(∀n∈l,0<q n)->0<Fy q l
 | [],_=>(by decide:(0:Int)<1)
 | n::r,h=>Int.mul_pos (h n (FW ..)) (ce λm hm=>h m (FU _ hm))
def dg:∀ {l:List Str} {n:Str},n∈l->q n ∣ Fy q l
 | x::r,n,h=>by
  rcases F7.mp h with rfl | h
  ·exact Int.dvd_mul_right _ _
  ·exact Int.dvd_trans (dg h) (Int.dvd_mul_left _ _)
def wS{l r:List Str}(h:l.Perm r):Fy q l=Fy q r:=by
 induction h with
 | nil=>rfl
 | cons x _ ih=>show q x*_=q x*_;rw[ih]
 | swap x y l=>show q y*(q x*Fy q l)=q x*(q y*Fy q l);rw[<- GV,<- GV,GL (q y)]
 | trans _ _ h1 h2=>rw[h1,h2]
def cF(f:Str->Int):List (Str×Int)->Int
 | []=>0
 | t::r=>t.2*f t.1+cF f r
def iN(f:Str->Int)(l r:List (Str×Int)):cF f (l++r)=cF f l+cF f r:=by
 induction l with
 | nil=>show cF f r=0+cF f r;rw[HE]
 | cons x l ih=>show x.2*f x.1+cF f (l++r)=x.2*f x.1+cF f l+cF f r;rw[ih,Int.add_assoc]
def qH(f:Str->Int)(t:Str×Int):cF f [t]=t.2*f t.1:=by show t.2*f t.1+0=_;rw[HW]
def fV{f g:Str->Int}:∀ {l:List (Str×Int)},(∀t∈l,f t.1=g t.1)->cF f l=cF g l
 | [],_=>rfl
 | t::r,h=>by show t.2*f t.1+_=t.2*g t.1+_;rw[h t (FW ..),fV λu hu=>h u (FU _ hu)]
def ie(f:Str->Int)(k:Int):∀l:List (Str×Int),k*cF f l=cF (λn=>k*f n) l
 | []=>Int.mul_zero k
 | t::r=>by
  show k*(t.2*f t.1+cF f r)=t.2*(k*f t.1)+_
  rw[Int.mul_add,ie f k r,GO]
def tH(ts:List (Str×Int)):List (Str×Int):=ts.map λt=>(t.1,-t.2)
def ov(p q:Str->Int)(B:Int)(n:Str):Int:=p n*B.fdiv (q n)
def wg{n:Str}(h0:q n≠0)(h:q n ∣ B)(h':q n ∣ C):C*ov p q B n=B*ov p q C n:=by
 obtain⟨x,rfl⟩:=h;obtain⟨y,rfl⟩:=h';unfold ov;rw[G0 _ h0,G0 _ h0];rw[GO,GO (q n*x),GV,GV,GL y x]
def tf{ts:List (Str×Int)}(h:∀t∈ts,q t.1≠0/\q t.1 ∣ B/\q t.1 ∣ C):C*cF (ov p q B) ts=B*cF (ov p q C) ts:=by
 rw[ie,ie];exact fV λt ht=>wg (h t ht).1 (h t ht).2.1 (h t ht).2.2
def vZ{ts:List (Str×Int)}{t:Str×Int}(h:∀u∈ts,q u.1≠0/\q u.1 ∣ B)(ht:q t.1≠0) :
  cF (ov p q B) ts*q t.1+t.2*p t.1*B=cF (ov p q (B*q t.1)) (ts++[t]):=by
 rw[iN,qH];have e1:cF (ov p q (B*q t.1)) ts=cF (ov p q B) ts*q t.1:=by
  rw[GL (cF (ov p q B) ts),ie];refine fV λu hu=>?_;obtain⟨h0,x,rfl⟩:=h u hu;unfold ov;rw[GV,G0 _ h0,G0 _ h0,GL x,GO]
 have e2:ov p q (B*q t.1) t.1=p t.1*B:=by
  unfold ov;rw[GL B,G0 _ ht]
 rw[e1,e2,GV]
def wo{a b s t:Int}(hB:0<B)(hC:0<C)(e:C*s=B*t):(b*B<=s↔b*C<=t):=by
 constructor
 ·intro h;have h1:=Int.mul_le_mul_of_nonneg_left h (HX hC);rw[e] at h1;have h2:B*(b*C)<=B*t:=by rw[GO B,GL B C,GO b];exact h1
  exact Int.le_of_mul_le_mul_left h2 hB
 ·intro h;have h1:=Int.mul_le_mul_of_nonneg_left h (HX hB);rw[<- e] at h1;have h2:C*(b*B)<=C*s:=by rw[GO C,GL C B,GO b];exact h1
  exact Int.le_of_mul_le_mul_left h2 hC
def xg{b s t:Int}(hB:0<B)(hC:0<C)(e:C*s=B*t):(b*B<s↔b*C<t):=by
 constructor
 ·intro h;have h1:=Int.mul_lt_mul_of_pos_left h hC;rw[e] at h1;have h2:B*(b*C)<B*t:=by rw[GO B,GL B C,GO b];exact h1
  exact Int.lt_of_mul_lt_mul_left h2 (HX hB)
 ·intro h;have h1:=Int.mul_lt_mul_of_pos_left h hB;rw[<- e] at h1;have h2:C*(b*B)<C*s:=by rw[GO C,GL C B,GO b];exact h1
  exact Int.lt_of_mul_lt_mul_left h2 (HX hC)
end Mf
namespace DL
open PySem PySem.Spec PyProof.Rows L2
def tz{x y:Nat}{r t:List Nat}:ltCps (x::r) (y::t)=if x<y then true else if y<x then false else ltCps r t:=by
 show (decide (x<y)||(x==y&&ltCps r t))=_
 rcases HJ x y with h | h | h
 ·rw[Gd h,Gz h];rfl
 ·subst h;rw[Gb (GQ x),Gb (GQ x)];simp
 ·rw[Gb (Ix h),Gd h,Gx (Ix h)];have:(x==y)=false:=by simp;omega
  rw[this];rfl
def o6:∀ {a b:List Nat},ltCps a b=false->ltCps b a=false->a=b
 | [],[],_,_=>rfl
 | [],y::s,h,_=>by simp[ltCps] at h
 | x::r,[],_,h=>by simp[ltCps] at h
 | x::r,y::s,h1,h2=>by
  rw[tz] at h1 h2
  rcases HJ x y with h | h | h
  ·rw[Gd h] at h1;cases h1
  ·subst h;rw[Gb (GQ x),Gb (GQ x)] at h1 h2;rw[o6 h1 h2]
  ·rw[Gd h] at h2;cases h2
def iV:∀ {a b c:List Nat},ltCps b a=false->ltCps c b=false->ltCps c a=false
 | [],b,c,_,_=>by cases c<;>rfl
 | x::r,[],c,h,_=>by simp[ltCps] at h
 | x::r,y::s,[],_,h=>by simp[ltCps] at h
 | x::r,y::s,z::t,h1,h2=>by
  rw[tz] at h1 h2 ⊢
  rcases HJ y x with h | h | h
  ·rw[Gd h] at h1;cases h1
  ·subst h;rw[Gb (GQ y),Gb (GQ y)] at h1
   rcases HJ z y with g | g | g
   ·rw[Gd g] at h2;cases h2
   ·subst g;rw[Gb (GQ z),Gb (GQ z)] at h2 ⊢;exact iV h1 h2
   ·rw[Gb (Ix g),Gd g]
  ·rcases HJ z y with g | g | g
   ·rw[Gd g] at h2;cases h2
   ·subst g;rw[Gb (Ix h),Gd h]
   ·have:x<z:=Nat.lt_trans h g
    rw[Gb (Ix this),Gd this]
def leS(a b:Str):Prop:=ltCps b.cps.toList a.cps.toList=false
theorem Cj{a b:Str}(h1:leS a b)(h2:leS b a):a=b:=by
 have:=o6 h2 h1
 cases a;cases b
 simp only[Str.mk.injEq] at *;exact Array.toList_inj.mp this
def l6:∀ {ss:List Str},Srt ss->ss.Pairwise leS
 | [],_=>.nil
 | x::r,h=>by
  have h:risingS x r=true:=h
  have key:∀(r:List Str) (x:Str),risingS x r=true->(∀y∈r,leS x y)/\r.Pairwise leS:=by
   intro r
   induction r with
   | nil=>intro x _;exact⟨λy hy=>(nomatch hy),.nil⟩
   | cons y r ih =>
    intro x h;unfold risingS at h;obtain⟨h1,h2⟩:=Gq.mp h;have h1:leS x y:=by unfold leS;cases q:ltCps y.cps.toList x.cps.toList with
     | false=>rfl
     | true=>rw[q] at h1;cases h1
    obtain⟨i1,i2⟩:=ih y h2;refine⟨λz hz=>?_,.cons i1 i2⟩
    rcases F7.mp hz with rfl | hz
    ·exact h1
    ·exact iV h1 (i1 z hz)
  obtain⟨k1,k2⟩:=key r x h;exact .cons k1 k2
def lF:∀ {as bs:List Str},as.Pairwise leS->bs.Pairwise leS->as.Nodup->bs.Nodup->(∀x,x∈as↔x∈bs)->as=bs
 | [],[],_,_,_,_,_=>rfl
 | [],b::bs,_,_,_,_,h=>by have:=(h b).mpr (FW ..);cases this
 | a::as,[],_,_,_,_,h=>by have:=(h a).mp (FW ..);cases this
 | a::as,b::bs,pa,pb,na,nb,h=>by
  cases pa with
  | cons pa1 pa2 =>
   cases pb with
   | cons pb1 pb2 =>
    have e:a=b:=by
     rcases F7.mp ((h a).mp (FW ..)) with e | ha
     ·exact e
     ·rcases F7.mp ((h b).mpr (FW ..)) with e | hb
      ·exact e.symm
      ·exact Cj (pa1 b hb) (pb1 a ha)
    subst e;obtain⟨n1,n2⟩:=GU.mp na;obtain⟨n3,n4⟩:=GU.mp nb;rw[lF pa2 pb2 n2 n4 λx=>⟨λhx=>?_,λhx=>?_⟩]
    ·rcases F7.mp ((h x).mp (FU _ hx)) with e | hx'
     ·exact absurd (e ▸ hx) n1
     ·exact hx'
    ·rcases F7.mp ((h x).mpr (FU _ hx)) with e | hx'
     ·exact absurd (e ▸ hx) n3
     ·exact hx'
end DL
namespace DL
open PySem PySem.Spec PyProof.Rows L2
variable {k l:Bool} {h h':Heap} {it a z p o j b:Addr} {i m:Nat} {xs ys:Array Value} {x:Value} {Q:Value→Shared→Prop} {elts:List Expr} {pos:Pos} {X:Cx} {pins:List (Addr×Obj)} {σ:L2.St} {H:Hp} {s:Shared}
def ItA(k:Bool)(h:Heap)(it a:Addr)(i:Nat):Prop:=match k with | true=>h.IsListIter it a i | false=>h.IsTupleIter it a i
def SqA(k:Bool)(h:Heap)(a:Addr)(xs:Array Value):Prop:=match k with | true=>h.IsList a xs | false=>h.IsTuple a xs
def ItA.keep(x:ItA k h it a i)(f:∀o,h.get? it=some o->h'.get? it=some o):ItA k h' it a i:=by
 cases k
 ·exact Heap.IsTupleIter.at x f
 ·exact Heap.IsListIter.at x f
def SqA.keep(x:SqA k h a xs)(f:∀o,h.get? a=some o->h'.get? a=some o):SqA k h' a xs:=by
 cases k
 ·exact Heap.IsTuple.at x f
 ·exact Heap.IsList.at x f
def ItA.obj(x:ItA k h it a i):∃o,h.get? it=some o/\o.cls=.type (if k then "list_iterator" else "tuple_iterator")/\o.data=.fields #[.ref a,.int i 0]:=by
 cases k
 ·exact x
 ·exact x
def SqA.there(x:SqA k h a xs):∃o,h.get? a=some o/\∃n,o.data=.seq xs n:=by
 cases k
 ·obtain⟨o,e,_,d⟩:=x;exact⟨o,e,d⟩
 ·obtain⟨o,e,_,d⟩:=x;exact⟨o,e,d⟩
section
variable {prog:Program} {w:World} {A:Around} {E:Value→Shared→Prop} {s:Shared}
def EC{t:Addr}(a1:s.heap.IsTupleIter it t i)(a2:s.heap.IsTuple t xs)(a3:xs[i]?=some x)
  (q:∀h',h'.IsTupleIter it t (i+1)->Heap.SameBut it s.heap h'->Q x { s with heap:=h' }):wpAny (model prog w) A (Builtin.SmallTypes.nextOf (.ref it)) Q E s:=by
 obtain⟨u,e1,e2,e3⟩:=id a1;obtain⟨ut,f1,_,nn,f2⟩:=a2;unfold Builtin.SmallTypes.nextOf;refine FT (wpAny_callSpecial?_slot (name:=Str.ofString "__next__") a1.typeIs Hi (GY Hi a1.typeIs F.entry_tuple_iterator_next ?_ (F.args_tuple_iterator_next_1 _)));refine FT (m:=field (.ref it) 0) (G3 e1 e3 (x:=.ref t) rfl ?_);rw[Gb (c:=(Value.ref t==Value.none)=true) F0];refine FT (m:=field (.ref it) 1) (G3 e1 e3 (x:=.int i 0) rfl ?_);refine FT (m:=seqItems? (.ref t)) (G6 f1 f2 ?_);simp only[Int.toNat_natCast,a3];refine FT (wpAny_setField e1 e3 (by simp) (FY ⟨x,rfl,FY (q _ ?_ (HQ ..))⟩));refine⟨_,Heap.get?_update_self _ e1 (Obj.isFreed_of_fields (Obj.data_mapFields e3 _)),(Obj.cls_mapFields ..).trans e2,?_⟩;rw[Obj.data_mapFields e3];simp[rawInt]
def uY{t:Addr}(a0:A.handled=none)(a1:s.heap.IsTupleIter it t i)(a2:s.heap.IsTuple t xs)(a3:xs[i]?=none)
  (q:∀h' e,Heap.ExtBut it s.heap h'->(∃o,h'.get? e=some o/\o.cls=.type "StopIteration")->E (.ref e) { s with heap:=h' }):wpAny (model prog w) A (Builtin.SmallTypes.nextOf (.ref it)) Q E s:=by
 obtain⟨u,e1,e2,e3⟩:=id a1;obtain⟨ut,f1,_,nn,f2⟩:=a2;unfold Builtin.SmallTypes.nextOf;refine FT (wpAny_callSpecial?_slot (name:=Str.ofString "__next__") a1.typeIs Hi (GY Hi a1.typeIs F.entry_tuple_iterator_next ?_ (F.args_tuple_iterator_next_1 _)));refine FT (m:=field (.ref it) 0) (G3 e1 e3 (x:=.ref t) rfl ?_);rw[Gb (c:=(Value.ref t==Value.none)=true) F0];refine FT (m:=field (.ref it) 1) (G3 e1 e3 (x:=.int i 0) rfl ?_);refine FT (m:=seqItems? (.ref t)) (G6 f1 f2 ?_);simp only[Int.toNat_natCast,a3];refine FT (IM (FT (wpAny_setField e1 e3 (by simp) ?_)));refine FT (m:=newExc (.type "StopIteration") []) ?_;simp only[newExc,newTuple];refine FT (GR ?_ (by size_fits));refine FT (m:=firstArgMember _ _) (wpAny_of_eq (a:=Value.none) (by first | rfl | (simp only[firstArgMember];rfl)) ?_);refine GR ?_ (by size_fits);simp only[raiseNew];refine FT (wpAny_handled ?_)
 first | rw[show A.in1.handled=none from a0] | rw[a0]
 exact FT (FY (wpAny_throw (q _ _ (((HQ ..).extBut.push _).push _) ⟨_,Heap.get?_push_size _ rfl,rfl⟩)))
def zX(a1:ItA k s.heap it a i)(a2:SqA k s.heap a xs)(a3:xs[i]?=some x)
  (q:∀h',ItA k h' it a (i+1)->Heap.SameBut it s.heap h'->Q x { s with heap:=h' }):wpAny (model prog w) A (Builtin.SmallTypes.nextOf (.ref it)) Q E s:=by
 cases k
 ·exact EC a1 a2 a3 q
 ·exact wpAny_nextOf_list_item a1 a2 a3 q
def l8(a0:A.handled=none)(a1:ItA k s.heap it a i)(a2:SqA k s.heap a xs)(a3:xs[i]?=none)
  (q:∀h' e,Heap.ExtBut it s.heap h'->(∃o,h'.get? e=some o/\o.cls=.type "StopIteration")->E (.ref e) { s with heap:=h' }):wpAny (model prog w) A (Builtin.SmallTypes.nextOf (.ref it)) Q E s:=by
 cases k
 ·exact uY a0 a1 a2 a3 q
 ·exact wpAny_nextOf_list_end a0 a1 a2 a3 q
def xw(a1:SqA k s.heap a xs)
  (q:Q (.ref s.heap.objs.size) { s with heap:=s.heap.push { cls:=.type (if k then "list_iterator" else "tuple_iterator"),data:=.fields #[.ref a,.int 0 0] } }):wpAny (model prog w) A (pyIter (.ref a)) Q E s:=by
 cases k
 ·exact wpAny_pyIter_tuple a1 q
 ·exact HI a1 q
structure ZAp(z p o i j a b:Addr):Prop where
 zp:p≠z
 zo:o≠z
 zi:i≠z
 zj:j≠z
 po:p≠o
 pi:p≠i
 pj:p≠j
 oi:o≠i
 oj:o≠j
 ij:i≠j
 az:a≠z
 ao:a≠o
 ai:a≠i
 aj:a≠j
 bz:b≠z
 bo:b≠o
 bi:b≠i
 bj:b≠j
structure ZAt(k l:Bool)(h:Heap)(z p o i j a b:Addr)(m:Nat)(xs ys:Array Value):Prop where
 hz:IsZip h z p o .none
 hp:IsPair h p (.ref i) (.ref j)
 ho:∃u v,IsPair h o u v
 hi:ItA k h i a m
 hj:ItA l h j b m
 ha:SqA k h a xs
 hb:SqA l h b ys
def D3{i:Addr}{y:Value}{x1}{Q:Unit->Shared->Prop}(D:ZAp z p o i j a b)(Z:ZAt k l s.heap z p o i j a b m xs ys)(hx:xs[m]?=some x)(hy:ys[m]?=some y)
  (q:∀h',ZAt k l h' z p o i j a b (m+1) xs ys->IsPair h' s.heap.objs.size x y->h'.objs.size=s.heap.objs.size+1->(∀c u,c≠z->c≠o->c≠i->c≠j->s.heap.get? c=some u->h'.get? c=some u)->Q () { s with heap:=h' }) :
  wpAny (model prog w) A (pyNext (.ref z)) (λr s1=>∃u,r=some u/\u=.ref s.heap.objs.size/\wpAny (model prog w) A (letOwnedTupleGo (.Tuple elts x1 pos) (.ref z) u) Q E s1) E s:=by
 obtain⟨hz,hp,⟨u,v,ho⟩,hi,hj,ha,hb⟩:=Z;have hT:s.TypeIs (.ref z) "zip":=⟨_,hz,rfl⟩;unfold pyNext;refine FT (wpAny_attempt (wpAny_callSpecial?_slot (name:=Str.ofString "__next__") hT IH (GY IH hT F.entry_zip_next ?_ (F.args_zip_next_1 _))));refine FT (m:=field (.ref z) 2) (G3 hz rfl (x:=.bool false) rfl ?_);refine FT (m:=field (.ref z) 3) (G3 hz rfl (x:=.ref p) rfl ?_);refine FT (G6 hp rfl ?_);refine FT (m:=Builtin.SmallTypes.ownedTupleIsFree (.ref z)) ?_;unfold Builtin.SmallTypes.ownedTupleIsFree;refine FT (G3 hz rfl (x:=.none) rfl (FY ?_));simp only[if_true];refine FT (IM (FT (G3 hz rfl (x:=.ref o) rfl (FT (GC hz (by simp) λg1 z1 s1=>?_)))));replace z1:IsZip g1 z p o .ellipsis:=z1;refine FT ?_;simp only[List.zipIdx_cons,List.zipIdx_nil,List.forIn_cons,List.forIn_nil];refine FT (FT (wpAny_onRaise ?_));have k1:∀c u,c≠z->s.heap.get? c=some u->g1.get? c=some u:=λc u n e=>s1.extBut _ _ n e;refine FT (m:=Builtin.SmallTypes.nextOf (.ref i)) (zX (hi.keep λu e=>k1 _ u D.zi e) (ha.keep λu e=>k1 _ u D.az e) hx λg2 i2 s2=>FY ?_);have k2:∀c u,c≠i->g1.get? c=some u->g2.get? c=some u:=λc u n e=>s2.extBut _ _ n e;have o2:IsPair g2 o u v:=k2 _ _ D.oi (k1 _ _ D.zo ho);refine FT (G6 o2 rfl (FT (IB o2 λg3 o3 s3=>FT (wpAny_letGo (FY ?_)))));replace o3:IsPair g3 o x v:=o3;have k3:∀c u,c≠o->g2.get? c=some u->g3.get? c=some u:=λc u n e=>s3.extBut _ _ n e;refine FT (FT (wpAny_onRaise ?_));refine FT (m:=Builtin.SmallTypes.nextOf (.ref j)) (zX (hj.keep λu e=>k3 _ u D.oj.symm (k2 _ u D.ij.symm (k1 _ u D.zj e))) (hb.keep λu e=>k3 _ u D.bo (k2 _ u D.bi (k1 _ u D.bz e))) hy λg4 j4 s4=>FY ?_)
 have k4:∀c u,c≠j->g3.get? c=some u->g4.get? c=some u:=λc u n e=>s4.extBut _ _ n e
 have o4:IsPair g4 o x v:=k4 _ _ D.oj o3
 refine FT (G6 o4 rfl (FT (IB o4 λg5 o5 s5=>FT (wpAny_letGo (FY (FY ?_))))));replace o5:IsPair g5 o x y:=o5;have k5:∀c u,c≠o->g4.get? c=some u->g5.get? c=some u:=λc u n e=>s5.extBut _ _ n e;refine FT (G6 o5 rfl (FT (wpAny_newTuple ?_)));have hsz:g5.objs.size=s.heap.objs.size:=by rw[s5.1,s4.1,s3.1,s2.1,s1.1]
 have z5:IsZip g5 z p o .ellipsis:=k5 _ _ D.zo.symm (k4 _ _ D.zj.symm (k3 _ _ D.zo.symm (k2 _ _ D.zi.symm z1)))
 have kk:∀c u,c≠z->c≠o->c≠i->c≠j->s.heap.get? c=some u->g5.get? c=some u:=λc u n1 n2 n3 n4 e=>k5 _ _ n2 (k4 _ _ n4 (k3 _ _ n2 (k2 _ _ n3 (k1 _ _ n1 e))))
 have i5:ItA k g5 i a (m+1):=i2.keep λu e=>k5 _ u D.oi.symm (k4 _ u D.ij (k3 _ u D.oi.symm e))
 have j5:ItA l g5 j b (m+1):=j4.keep λu e=>k5 _ u D.oj.symm e
 have lz:=Gg z5
 refine FT (m:=Builtin.SmallTypes.ownedTupleHandOut (.ref z) (.ref g5.objs.size)) ?_;unfold Builtin.SmallTypes.ownedTupleHandOut;have z6:IsZip (g5.push { cls:=.type "tuple",data:=.seq #[x,y] }) z p o .ellipsis:=Heap.get?_push_of_some _ z5;refine FT (GC z6 (by simp) λg7 z7 s7=>?_);replace z7:IsZip g7 z p o (rawInt g5.objs.size):=z7;refine GC z7 (by simp) λg8 z8 s8=>?_;replace z8:IsZip g8 z p o (rawInt g5.objs.size):=z8;have k8:∀c u,c≠z->g5.get? c=some u->g8.get? c=some u:=λc u n e=>s8.extBut _ _ n (s7.extBut _ _ n (Heap.get?_push_of_some _ e));have t8:IsPair g8 g5.objs.size x y:=s8.extBut _ _ (HB lz) (s7.extBut _ _ (HB lz) (Heap.get?_push_size _ rfl));have n8:g8.objs.size=g5.objs.size+1:=by rw[s8.1,s7.1,G2]
 rw[hsz] at z8 t8 n8;refine FY ⟨_,rfl,FY ⟨_,rfl,Hf Value.ref hsz,?_⟩⟩;show wpAny (model prog w) A (letOwnedTupleGo (.Tuple elts x1 pos) (.ref z) (.ref g5.objs.size)) Q E _;rw[hsz];refine wpAny_letOwnedTupleGo_zip z8 λg9 z9 s9=>?_;have k9:∀c u,c≠z->g8.get? c=some u->g9.get? c=some u:=λc u n e=>s9.extBut _ _ n e;have up:∀c u,c≠z->g5.get? c=some u->g9.get? c=some u:=λc u n e=>k9 _ _ n (k8 _ _ n e);refine q g9 ⟨z9,up _ _ D.zp (kk _ _ D.zp D.po D.pi D.pj hp),⟨x,y,up _ _ D.zo o5⟩,i5.keep λu e=>up _ u D.zi e,j5.keep λu e=>up _ u D.zj e,ha.keep λu e=>up _ u D.az (kk _ _ D.az D.ao D.ai D.aj e),hb.keep λu e=>up _ u D.bz (kk _ _ D.bz D.bo D.bi D.bj e)⟩ ?_ ?_ λc u n1 n2 n3 n4 e=>up c u n1 (kk c u n1 n2 n3 n4 e)
 ·exact k9 _ _ (by rw[<- hsz];exact HB lz) t8
 ·rw[s9.1,n8]
def Fc{i:Addr}{Q:Option Value->Shared->Prop}(a0:A.handled=none)(D:ZAp z p o i j a b)(Z:ZAt k l s.heap z p o i j a b m xs ys)(hend:xs[m]?=none\/ys[m]?=none)
  (q:∀h',(∀c u,c≠z->c≠o->c≠i->c≠j->s.heap.get? c=some u->h'.get? c=some u)->Q none { s with heap:=h' }):wpAny (model prog w) A (pyNext (.ref z)) Q E s:=by
 obtain⟨hz,hp,⟨u,v,ho⟩,hi,hj,ha,hb⟩:=Z;have hT:s.TypeIs (.ref z) "zip":=⟨_,hz,rfl⟩;unfold pyNext;have fin:∀(g:Heap) (e:Addr),(∀c u,c≠z->c≠o->c≠i->c≠j->s.heap.get? c=some u->g.get? c=some u)->(∃o,g.get? e=some o/\o.cls=.type "StopIteration") ->
   wpAny (model prog w) A (do if<-isInstance (.ref e) (.type "StopIteration") then pure (none:Option Value) else throw (.ref e)) Q E { s with heap:=g }:=λg e kk ⟨oe,h1,h2⟩ =>
  FT (wpAny_isInstance (T:="StopIteration") (b:=true) ⟨oe,h1,h2⟩ isSubtype_stop (FY (q _ kk)))
 refine FT (wpAny_attempt (wpAny_callSpecial?_slot (name:=Str.ofString "__next__") hT IH (GY IH hT F.entry_zip_next ?_ (F.args_zip_next_1 _))));refine FT (m:=field (.ref z) 2) (G3 hz rfl (x:=.bool false) rfl ?_);refine FT (m:=field (.ref z) 3) (G3 hz rfl (x:=.ref p) rfl ?_);refine FT (G6 hp rfl ?_);refine FT (m:=Builtin.SmallTypes.ownedTupleIsFree (.ref z)) ?_;unfold Builtin.SmallTypes.ownedTupleIsFree;refine FT (G3 hz rfl (x:=.none) rfl (FY ?_));simp only[if_true];refine FT (IM (FT (G3 hz rfl (x:=.ref o) rfl (FT (GC hz (by simp) λg1 z1 s1=>?_)))));replace z1:IsZip g1 z p o .ellipsis:=z1;refine FT ?_;simp only[List.zipIdx_cons,List.zipIdx_nil,List.forIn_cons,List.forIn_nil];refine FT (FT (wpAny_onRaise ?_));have k1:∀c u,c≠z->s.heap.get? c=some u->g1.get? c=some u:=λc u n e=>s1.extBut _ _ n e;have i1:=hi.keep λu e=>k1 _ u D.zi e;have a1:=ha.keep λu e=>k1 _ u D.az e
 cases hx:xs[m]? with
 | none =>
  refine FT (m:=Builtin.SmallTypes.nextOf (.ref i)) (l8 a0 i1 a1 hx λg2 e s2 he=>?_);obtain⟨oe,hoe,hce⟩:=he;have z2:IsZip g2 z p o .ellipsis:=s2 _ _ D.zi.symm z1;have hez:e≠z:=λx=>by subst x;rw[z2] at hoe;cases hoe;simp at hce
  exact GC z2 (by simp) λg3 _ s3=>fin g3 e (λc u n1 _ n3 _ x=>s3.extBut _ _ n1 (s2 _ _ n3 (k1 _ _ n1 x))) ⟨oe,s3.extBut _ _ hez hoe,hce⟩
 | some x =>
  have hy:ys[m]?=none:=by rcases hend with h | h;rw[hx] at h;cases h;exact h
  refine FT (m:=Builtin.SmallTypes.nextOf (.ref i)) (zX i1 a1 hx λg2 i2 s2=>FY ?_);have k2:∀c u,c≠i->g1.get? c=some u->g2.get? c=some u:=λc u n e=>s2.extBut _ _ n e;have o2:IsPair g2 o u v:=k2 _ _ D.oi (k1 _ _ D.zo ho);refine FT (G6 o2 rfl (FT (IB o2 λg3 o3 s3=>FT (wpAny_letGo (FY ?_)))));have k3:∀c u,c≠o->g2.get? c=some u->g3.get? c=some u:=λc u n e=>s3.extBut _ _ n e;refine FT (FT (wpAny_onRaise ?_));refine FT (m:=Builtin.SmallTypes.nextOf (.ref j)) (l8 a0 (hj.keep λu e=>k3 _ u D.oj.symm (k2 _ u D.ij.symm (k1 _ u D.zj e))) (hb.keep λu e=>k3 _ u D.bo (k2 _ u D.bi (k1 _ u D.bz e))) hy λg4 e s4 he=>?_);obtain⟨oe,hoe,hce⟩:=he;have z4:IsZip g4 z p o .ellipsis:=s4 _ _ D.zj.symm (k3 _ _ D.zo.symm (k2 _ _ D.zi.symm z1));have hez:e≠z:=λx=>by subst x;rw[z4] at hoe;cases hoe;simp at hce
  exact GC z4 (by simp) λg5 _ s5=>fin g5 e (λc u n1 n2 n3 n4 x=>s5.extBut _ _ n1 (s4 _ _ n4 (k3 _ _ n2 (k2 _ _ n3 (k1 _ _ n1 x))))) ⟨oe,s5.extBut _ _ hez hoe,hce⟩
abbrev zh(k l:Bool)(h:Heap)(a b:Addr):Heap:=((((h.push { cls:=.type (if k then "list_iterator" else "tuple_iterator"),data:=.fields #[.ref a,.int 0 0] }).push { cls:=.type (if l then "list_iterator" else "tuple_iterator"),data:=.fields #[.ref b,.int 0 0] }).push
 { cls:=.type "tuple",data:=.seq #[.ref h.objs.size,.ref (h.objs.size+1)] }).push { cls:=.type "tuple",data:=.seq #[.none,.none] }).push { cls:=.type "zip",data:=.fields #[.none,.bool false,.bool false,.ref (h.objs.size+2),.ref (h.objs.size+3)] }
def BQ(k l:Bool)(a b:Addr)(xs ys:Array Value):Meets (Builtin.«zip.__new__» ⟨[.type "zip",.ref a,.ref b],[]⟩) (λ_ R s=>SqA k s.heap a xs/\SqA l s.heap b ys/\R (.ok (.ret (.ref (s.heap.objs.size+4)))) { s with heap:=zh k l s.heap a b }) :=
 .of_wp λprog w A R s h=>by
  obtain⟨hp,g,d,tk,os⟩:=s;obtain⟨a1,a2,h⟩:=h;have hsub:=sub_zip;have b1:SqA k (Shared.heap ⟨hp,g,d,tk,os⟩) a xs:=a1;have b2:SqA l (Shared.heap ⟨hp.push { cls:=.type (if k then "list_iterator" else "tuple_iterator"),data:=.fields #[.ref a,.int 0 0] },g,d,tk,os⟩) b ys:=SqA.keep a2 λo e=>Heap.get?_push_of_some _ e
  wp_walk using xw b1,xw b2
  refine⟨_,rfl,?_⟩;simp only[Heap.size_push];exact h
def E9(a1:SqA k s.heap a xs)(a2:SqA l s.heap b ys)
  (h:ZAt k l (zh k l s.heap a b) (s.heap.objs.size+4) (s.heap.objs.size+2) (s.heap.objs.size+3) s.heap.objs.size (s.heap.objs.size+1) a b 0 xs ys->(∀c o,s.heap.get? c=some o->(zh k l s.heap a b).get? c=some o)->Q (.ref (s.heap.objs.size+4)) { s with heap:=zh k l s.heap a b }) :
  wpAny (model prog w) A (call (.type "zip") [.ref a,.ref b]) Q E s:=by
 refine callType_new F.called_zip (by decide) (F.typeCall_zip_2 _ _) (F.newCall_zip_2 _ _) (λobj=>F.args_object_init_3 obj _ _) F.entry_zip_new (BQ k l a b xs ys) ⟨a1,a2,?_⟩;have up:∀c o,s.heap.get? c=some o->(zh k l s.heap a b).get? c=some o:=λc o e=>Heap.get?_push_of_some _ (Heap.get?_push_of_some _ (Heap.get?_push_of_some _ (Heap.get?_push_of_some _ (Heap.get?_push_of_some _ e))));have sz:∀(h:Heap) (o:Obj) (n:Nat),h.objs.size=n->o.isFreed=false->(h.push o).get? n=some o:=λh o n e f=>by rw[<- e];exact Heap.get?_push_size _ f
 have e4:(zh k l s.heap a b).get? (s.heap.objs.size+4)=some _:=sz _ _ _ (by simp only[Heap.size_push]) rfl
 have e3:(zh k l s.heap a b).get? (s.heap.objs.size+3)=some _:=Heap.get?_push_of_some _ (sz _ _ _ (by simp only[Heap.size_push]) rfl)
 have e2:(zh k l s.heap a b).get? (s.heap.objs.size+2)=some _:=Heap.get?_push_of_some _ (Heap.get?_push_of_some _ (sz _ _ _ (by simp only[Heap.size_push]) rfl))
 have e1:(zh k l s.heap a b).get? (s.heap.objs.size+1)=some _:=Heap.get?_push_of_some _ (Heap.get?_push_of_some _ (Heap.get?_push_of_some _ (sz _ _ _ (by simp only[Heap.size_push]) rfl)))
 have e0:(zh k l s.heap a b).get? s.heap.objs.size=some _:=Heap.get?_push_of_some _ (Heap.get?_push_of_some _ (Heap.get?_push_of_some _ (Heap.get?_push_of_some _ (Heap.get?_push_size _ rfl))))
 have i0:ItA k (zh k l s.heap a b) s.heap.objs.size a 0:=by
  cases k
  ·exact⟨_,e0,rfl,rfl⟩
  ·exact⟨_,e0,rfl,rfl⟩
 have i1:ItA l (zh k l s.heap a b) (s.heap.objs.size+1) b 0:=by
  cases l
  ·exact⟨_,e1,rfl,rfl⟩
  ·exact⟨_,e1,rfl,rfl⟩
 exact⟨⟨_,e4,rfl⟩,h ⟨e4,e2,⟨_,_,e3⟩,i0,i1,a1.keep λo e=>up _ o e,a2.keep λo e=>up _ o e⟩ up⟩
def ZAp.new{n a b:Nat}(h1:a<n)(h2:b<n):ZAp (n+4) (n+2) (n+3) n (n+1) a b:=by
 constructor<;>(intro e;have e:(_:Nat)=_:=e;omega)
end
def lx{t':Nat}{fp:List Addr}(I:Inv X pins σ H s)(k:∀b o,b∉fp->s.heap.get? b=some o->h'.get? b=some o)(hf:∀b∈fp,vC X pins H b) :
  Inv X pins σ H { s with heap:=h',toks:=t' }:=by
 have nit:∀b u,H b=some u->b∉fp:=λb u e z=>by rw[(hf b z).1] at e;cases e
 refine I.step (g':=s.gens) (d':=s.drawn) (ch:=fp) (λb hb=>?_) (λb o _ _ hc e _=>k b o hc e) (λb o _ _ hc e _=>⟨o.slots,k b o hc e⟩) (λ_ _ _ _ n=>n)
  (λb o hc e=>⟨o,k b o hc e⟩) (λ_ _ e=>e) (λ_ _ _ e=>e) (λb ps e=>⟨#[],by rw[e];simp⟩) (λm hm=>?_) (λb u e=>?_) I.bare
 ·obtain⟨f0,f1,f2,f3,f4,f5⟩:=hf b hb;exact⟨f3,f1,f4,f5⟩
 ·obtain⟨o,es,ep,ho,r⟩:=hm;exact⟨o,es,ep,k _ o (λz=>(hf _ z).2.1 rfl) ho,r⟩
 ·refine(I.hok b u e).stay (λc v hc q=>k c v ?_ q) (λ_ q=>q) λ_ _ q=>q
  rcases hc with z | z
  ·rw[z];exact nit b u e
  ·exact nit c _ z
def SqV(k:Bool)(K:PySem.W.Frag)(H:Hp)(a:Addr)(xs:List V):Prop:=match k with | true=>FA K H a xs | false=>Fv K H a xs
def SqV.at{xs:List V}(I:Inv X pins σ H s)(h:SqV k X.K H a xs):∃its:List Value,bF xs its/\SqA k s.heap a its.toArray:=by
 cases k
 ·obtain⟨its,r,p,_⟩:=I.tuple h;exact⟨its,r,p⟩
 ·obtain⟨its,r,p,_⟩:=I.list h;exact⟨its,r,p.isList⟩
def SqV.inj{xs ys:List V}(I:Inv X pins σ H s)(h:SqV k X.K H a xs)(h':SqV k X.K H a ys):xs=ys:=by
 cases k
 ·exact I.tuple_inj h h'
 ·exact I.list_inj h h'
def Itz(K:PySem.W.Frag)(k l:Bool)(a b:Addr):It :=
  ⟨λi H=>∃xs ys x y,SqV k K H a xs/\SqV l K H b ys/\xs[i]?=some x/\ys[i]?=some y,
   λi H v H'=>∃T x y,H T=none/\H'=FI H T (.tup [x,y])/\v=.ref T/\(∀xs,SqV k K H a xs->xs[i]?=some x)/\∀ys,SqV l K H b ys->ys[i]?=some y,
   λi H=>∃xs ys,SqV k K H a xs/\SqV l K H b ys/\(xs.length<=i\/ys.length<=i)⟩
structure ZI(k l:Bool)(h:Heap)(z p o i j a b:Addr)(m:Nat):Prop where
 hz:IsZip h z p o .none
 hp:IsPair h p (.ref i) (.ref j)
 ho:∃u v,IsPair h o u v
 hi:ItA k h i a m
 hj:ItA l h j b m
def ZAt.zi{i:Addr}(Z:ZAt k l h z p o i j a b m xs ys):ZI k l h z p o i j a b m:=⟨Z.hz,Z.hp,Z.ho,Z.hi,Z.hj⟩
def xh{P:Program}{w:World}{K:PySem.W.Frag}{x1}{i:Addr}(D:ZAp z p o i j a b) :
  Av P w K (.Tuple elts x1 pos) (Itz K k l a b) [z,p,o,i,j] z (λm h=>ZI k l h z p o i j a b m) where
 mem:=by simp
 obj:=λm h Z c hc=>by
  simp only[List.mem_cons,List.not_mem_nil,or_false] at hc
  rcases hc with rfl | rfl | rfl | rfl | rfl
  ·exact⟨_,Z.hz,λv=>nofun⟩
  ·exact⟨_,Z.hp,λv=>nofun⟩
  ·obtain⟨u,v,e⟩:=Z.ho;exact⟨_,e,λv=>nofun⟩
  ·obtain⟨q,e,_,d⟩:=Z.hi.obj;exact⟨q,e,λv=>by rw[d];nofun⟩
  ·obtain⟨q,e,_,d⟩:=Z.hj.obj;exact⟨q,e,λv=>by rw[d];nofun⟩
 keep:=λm h h' Z kk=>⟨kk _ (by simp) _ Z.hz,kk _ (by simp) _ Z.hp,(by obtain⟨u,v,e⟩:=Z.ho;exact⟨u,v,kk _ (by simp) _ e⟩),Z.hi.keep λq e=>kk _ (by simp) q e,Z.hj.keep λq e=>kk _ (by simp) q e⟩
 item:=by
  intro X hP hw hK hc m pins s σ H E I hf Z hg;subst hP hw hK;obtain⟨xs,ys,x,y,h1,h2,hx,hy⟩:=hg;obtain⟨is,r1,p1⟩:=SqV.at I h1;obtain⟨js,r2,p2⟩:=SqV.at I h2;obtain⟨u,hu,ru⟩:=r1.get hx;obtain⟨v,hv,rv⟩:=r2.get hy;refine FG (D3 (E:=E) (Q:=λ_ s2=>∃x H',Inv X pins σ H' s2/\bB x (.ref s.heap.objs.size)/\(Itz X.K k l a b).yld m H x H'/\ZI k l s2.heap z p o i j a b (m+1)/\∀b∈[z,p,o,i,j],H' b=none) (elts:=elts) (x1:=x1) (pos:=pos) D ⟨Z.hz,Z.hp,Z.ho,Z.hi,Z.hj,p1,p2⟩ (x:=u) (y:=v) (by simpa using hu) (by simpa using hv) λh' Z' t' n' kk=>?_) λr s1 ⟨u',e1,e2,q⟩=>⟨u',e1,by subst e2;exact q⟩;have hfr:H s.heap.objs.size=none:=I.hok.fresh (F3 _);have I1:Inv X pins σ (FI H s.heap.objs.size (.tup [x,y])) { s with heap:=s.heap.push { cls:=.type "tuple",data:=.seq #[u,v] } }:=I.laid (t':=s.toks) (λb u e=>Heap.get?_push_of_some _ e) (F3 _) ⟨by show 2<=sizeLine;decide,[u,v],.cons ru (.cons rv .nil),⟨_,Heap.get?_push_size _ rfl,rfl,_,rfl⟩⟩;have lt:∀c∈[z,p,o,i,j],c≠s.heap.objs.size:=λc hc=>by
   have:∃q,s.heap.get? c=some q:=by
    simp only[List.mem_cons,List.not_mem_nil,or_false] at hc
    rcases hc with rfl | rfl | rfl | rfl | rfl
    ·exact⟨_,Z.hz⟩
    ·exact⟨_,Z.hp⟩
    ·obtain⟨u,v,e⟩:=Z.ho;exact⟨_,e⟩
    ·obtain⟨q,e,_⟩:=Z.hi.obj;exact⟨q,e⟩
    ·obtain⟨q,e,_⟩:=Z.hj.obj;exact⟨q,e⟩
   obtain⟨q,e⟩:=this;exact Gw (Gg e)
  have fr:∀c∈[z,p,o,i,j],FI H s.heap.objs.size (.tup [x,y]) c=none:=λc hc=>by rw[aI (lt c hc)];exact(hf c hc).1
  have I2:Inv X pins σ (FI H s.heap.objs.size (.tup [x,y])) { s with heap:=h' }:=lx (s:={ s with heap:=s.heap.push { cls:=.type "tuple",data:=.seq #[u,v] } }) (t':=s.toks) (fp:=[z,p,o,i,j]) I1 (λc q hc e=>?_) λc hc=>⟨fr c hc,(hf c hc).2⟩
  ·exact⟨.ref s.heap.objs.size,_,I2,rfl,⟨_,x,y,hfr,rfl,rfl,λzs hz=>by rw[SqV.inj I hz h1];exact hx,λzs hz=>by rw[SqV.inj I hz h2];exact hy⟩,Z'.zi,fr⟩
  ·rcases Heap.get?_push_cases e with⟨rfl,rfl⟩ | e
   ·exact t'
   ·exact kk c q (λz=>hc (by simp[z])) (λz=>hc (by simp[z])) (λz=>hc (by simp[z])) (λz=>hc (by simp[z])) e
 done:=by
  intro X hP hw hK hc m pins s σ H E I hf Z hg;subst hP hw hK;obtain⟨xs,ys,h1,h2,hl⟩:=hg;obtain⟨is,r1,p1⟩:=SqV.at I h1;obtain⟨js,r2,p2⟩:=SqV.at I h2;have l1:=r1.length;have l2:=r2.length;refine Fc (I.ok.hd hc) D ⟨Z.hz,Z.hp,Z.ho,Z.hi,Z.hj,p1,p2⟩ (hl.imp (λh=>by simp;omega) λh=>by simp;omega) λh' kk=>⟨rfl,lx (t':=s.toks) (fp:=[z,p,o,i,j]) I (λc q hc e=>?_) hf⟩;exact kk c q (λz=>hc (by simp[z])) (λz=>hc (by simp[z])) (λz=>hc (by simp[z])) (λz=>hc (by simp[z])) e
 self:=λ_ _ _ _ _ Z h=>wpAny_pyIter_zip Z.hz h
section
variable {X:Cx}
def iZip(K:PySem.W.Frag)(k l:Bool)(ta:TA):TI:=λσ H R=>ta σ H λvs H1=>∃a b,vs=[.ref a,.ref b]/\(∃xs,SqV k K H1 a xs)/\(∃ys,SqV l K H1 b ys)/\R (Itz K k l a b) H1
def B0{a b:Expr}{ta:TA}{p:Pos}{x1}{pos':Pos}(hg:Gl X "zip")(hm:X.mg "zip"=none)(ha:PA X [a,b] ta)(hs:starEach [a,b] X.env=[(false,eval a X.env),(false,eval b X.env)]:=by rfl)(hs2:starEach [b] X.env=[(false,eval b X.env)]:=by rfl) :
  PI X (.Tuple elts x1 pos') (.Call (.Name "zip" p) [a,b] [] pos) (iZip X.K k l ta):=by
 intro pins s σ H R I h;refine Call_ (fH I hg hm boot_zip (GT (FG (ha pos pins s σ H _ I h) λus s1 ⟨vs,H1,I1,r1,q1⟩=>?_) (by rw[hs,hs2]) (by rw[hs2];rfl)));obtain⟨c,d,e,⟨xs,hx⟩,⟨ys,hy⟩,q⟩:=q1;subst e
 cases r1 with
 | cons r rr =>
  cases rr with
  | cons r' rr =>
   cases rr
   cases r
   cases r'
   obtain⟨is,_,p1⟩:=SqV.at I1 hx;obtain⟨js,_,p2⟩:=SqV.at I1 hy;refine E9 p1 p2 λZ up=>wpAny_pyIter_zip Z.hz ?_;have lt:∀ {k:Bool} {c:Addr} {zs:Array Value},SqA k s1.heap c zs->c<s1.heap.objs.size:=λh=>let ⟨_,e,_⟩:=h.there;Gg e;refine⟨_,_,_,_,H1,rfl,I1.kept (t':=s1.toks) up,xh (ZAp.new (lt p1) (lt p2)),Z.zi,λb hb=>?_,q⟩;have hb:s1.heap.objs.size<=b:=by
    simp only[List.mem_cons,List.not_mem_nil,or_false] at hb
    rcases hb with rfl | rfl | rfl | rfl | rfl
    ·exact HP ..
    ·exact HP ..
    ·exact HP ..
    ·exact F3 _
    ·exact HP ..
   exact I1.fpOk hb (I1.hok.fresh hb)
end
def sq(k:Bool)(xs:List D):D:=match k with | true=>.lst xs | false=>.tup xs
def oC(xs ys:List D):List D:=List.zipWith (λx y=>D.tup [x,y]) xs ys
def qS:Bool->D->(List D->Prop)->Prop
 | true,d,k=>qL d k
 | false,d,k=>qT d k
def qS.ex{b:Bool}{d:D}{k:List D->Prop}(h:qS b d k):∃xs,d=sq b xs/\k xs:=by
 cases b
 ·exact qT.ex h
 ·exact qL.ex h
def Cy(k l:Bool)(t:TDA)(δ:En)(R:List D->En->Prop):Prop:=t δ λds δ1=>qC ds λx r=>qC r λy r=>qN r <| qS k x λxs=>qS l y λys=>R (oC xs ys) δ1
section
variable {X:Cx} {ta:TDA}
def u6{K:PySem.W.Frag}{M:Addr->Prop}{xs:List D}{v:V}(h:Fr K M H (sq k xs) v):∃a vs,v=.ref a/\SqV k K H a vs/\Reps K M H xs vs:=by
 cases k
 ·unfold sq Fr at h;exact h
 ·unfold sq Fr at h;obtain⟨a,vs,e,_,l,r⟩:=h;exact⟨a,vs,e,FA.of l,r⟩
def ma(k l:Bool){a b:Expr}{p:Pos}{x1}{pos':Pos}(hg:Gl X "zip")(hm:X.mg "zip"=none)(ha:DA X [a,b] ta)(hs:starEach [a,b] X.env=[(false,eval a X.env),(false,eval b X.env)]:=by rfl)(hs2:starEach [b] X.env=[(false,eval b X.env)]:=by rfl) :
  CI X (.Tuple elts x1 pos') (.Call (.Name "zip" p) [a,b] [] pos) (Cy k l ta) :=
 ⟨_,B0 (k:=k) (l:=l) hg hm ha hs hs2,λG δ P σ H R Q s hs kk=>⟨G,δ,P,_,s,hs,λds δ1 h1 vs H1 hl s1=>by
  replace h1:=qC.ex h1;obtain⟨x,r,e,h1⟩:=h1;replace h1:=qC.ex h1;obtain⟨y,r',e',h1⟩:=h1;replace h1:=qN.ex h1;obtain⟨e2,h1⟩:=h1;replace h1:=qS.ex h1;obtain⟨xs,e3,h1⟩:=h1;replace h1:=qS.ex h1;obtain⟨ys,e4,r⟩:=h1;subst e4 e3 e2 e' e
  match vs,hl with
  | [v,w],_ =>
   have s2:S X.K G δ1 ((sq k xs,v)::(sq l ys,w)::P) σ H1:=s1
   have at1:∀A δ σ H,Sx X.K G A δ ((sq k xs,v)::(sq l ys,w)::P) σ H->∃a vs,v=.ref a/\SqV k X.K H a vs/\Reps X.K (λb=>G.M0 b\/A b) H xs vs:=λA δ σ H x=>u6 (x.pnd (sq k xs,v) (by simp))
   have at2:∀A δ σ H,Sx X.K G A δ ((sq k xs,v)::(sq l ys,w)::P) σ H->∃a vs,w=.ref a/\SqV l X.K H a vs/\Reps X.K (λb=>G.M0 b\/A b) H ys vs:=λA δ σ H x=>u6 (x.pnd (sq l ys,w) (by simp))
   obtain⟨A1,x1⟩:=id s2;obtain⟨a,vs0,rfl,l0,_⟩:=at1 _ _ _ _ x1;obtain⟨b,ws0,rfl,m0,_⟩:=at2 _ _ _ _ x1;have hlen:(oC xs ys).length=min xs.length ys.length:=by unfold oC;rw[List.length_zipWith]
   refine⟨a,b,rfl,⟨vs0,l0⟩,⟨ws0,m0⟩,kk _ δ1 r _ _ H1 (λq hq=>by simp[hq]) s2 (λA δ σ i H x hi=>?_) (λA δ σ H x=>?_) λA δ σ i y H H2 x hi hy=>?_⟩
   ·obtain⟨_,vs,e,l,r⟩:=at1 _ _ _ _ x
    cases e
    obtain⟨_,ws,e,l2,r2⟩:=at2 _ _ _ _ x
    cases e
    obtain⟨v',hv,_⟩:=Reps.get _ _ r i (xs[i]'(by omega)) (by simp);obtain⟨w',hw,_⟩:=Reps.get _ _ r2 i (ys[i]'(by omega)) (by simp);exact⟨vs,ws,v',w',l,l2,hv,hw⟩
   ·obtain⟨_,vs,e,l,r⟩:=at1 _ _ _ _ x
    cases e
    obtain⟨_,ws,e,l2,r2⟩:=at2 _ _ _ _ x
    cases e
    have:=Reps.length _ _ r
    have:=Reps.length _ _ r2
    exact⟨vs,ws,l,l2,by omega⟩
   ·obtain⟨_,vs,e,l,r⟩:=at1 _ _ _ _ x
    cases e
    obtain⟨_,ws,e,l2,r2⟩:=at2 _ _ _ _ x
    cases e
    obtain⟨T,x',y',hT,rfl,rfl,hx,hy⟩:=hy;have hi1:i<xs.length:=by omega
    have hi2:i<ys.length:=by omega
    obtain⟨v',hv,rv⟩:=Reps.get _ _ r i xs[i] (by simp[hi1]);obtain⟨w',hw,rw'⟩:=Reps.get _ _ r2 i ys[i] (by simp[hi2]);have e1:=hx vs l;have e2:=hy ws l2;rw[hv] at e1;rw[hw] at e2;have e1:=Gc e1;have e2:=Gc e2;rw[e1] at rv;rw[e2] at rw';have sm:bY H (FI H T (.tup [x',y'])):=aG hT _;refine⟨sm,.tup [xs[i],ys[i]],?_,?_⟩
    ·unfold oC;rw[List.getElem?_zipWith,List.getElem?_eq_getElem hi1,List.getElem?_eq_getElem hi2]
    ·unfold Fr
     exact⟨T,[x',y'],rfl,.inl (.inl aF),Reps.cons (Fr.kp (Kp.of_same sm) _ _ rv) (Reps.one (Fr.kp (Kp.of_same sm) _ _ rw'))⟩⟩⟩
end
def dFor(src:TDC)(g:TDG)(tb:TDS)(R:a4)(δ:En):Prop:=src δ λxs δ1=>∃I:Nat->En->Prop,I 0 δ1 /\
 (∀i x δ',xs[i]?=some x->I i δ'->g x δ' (tb { R with nx:=I (i+1),ct:=I (i+1),bk:=R.nx,tp:=False }))/\∀δ',I xs.length δ'->R.nx δ'
def exsP{K:PySem.W.Frag}{G:Gf}{P P1:List (D×V)}{W:XK}{R:Str->Str->D->Prop}(hP:∀p∈P,p∈P1)(k:∀c f d,R c f d->∀e C dx δ' σ' H',S K G δ' ((.exn c f d,.ref e)::P) σ' H'->H' e=some (XAt e C dx)->W (.ref e) (some dx) H') :
  ∀c f d,R c f d->∀e C dx δ' σ' H',S K G δ' ((.exn c f d,.ref e)::P1) σ' H'->H' e=some (XAt e C dx)->W (.ref e) (some dx) H':=λc f d r e C dx δ' σ' H' s=>k c f d r e C dx δ' σ' H' (s.sub λp hp=>by
 rcases F7.mp hp with rfl | hp
 ·simp
 ·simp[hP p hp])
def i9{tg e:Expr}{src:TDC}{g:TDG}{t:TDS}{body:List Stmt}(hp:PassesOwn (model X.prog X.w) X.A X.env X.xe)(hc:X.calm=true)(hi:CI X tg e src)(hg:DG X tg g)(hb:DSs X body t)(hs:∀x,foldedSetIterable e X.env x=pure x:=by intro _;rfl) :
  DS X (.For tg e body [] pos) (dFor src g t):=by
 obtain⟨wi,hi,hw⟩:=hi;refine PS.imp (pv hp hc hi hg hb hs) λE σ H ⟨G,δ,P,R,s,h,k1,k2,k3,k4⟩=>?_;refine hw G δ P σ H _ _ s h λxs δ1 ⟨I,i0,turn,fin⟩ J P1 H1 hP s1 hgo hst hyl=>?_;refine⟨λi m σ H=>m=xs.length-i/\i<=xs.length/\∃δ,I i δ/\S X.K G δ P1 σ H,⟨xs.length,by simp,G5 _,δ1,i0,s1⟩,?_⟩;rintro i m σ H ⟨rfl,hi,δ',ii,s'⟩;obtain⟨A,x⟩:=id s'
 by_cases hlt:i<xs.length
 ·refine .inr ⟨hgo A _ _ i H x hlt,λσ' H'=>∃δ',I (i+1) δ'/\S X.K G δ' P1 σ' H',λσ' H' ⟨δ',p',s'⟩=>⟨xs.length-(i+1),by omega,rfl,hlt,δ',p',s'⟩,λy H' hy=>?_⟩;obtain⟨sm,d,hd,rd⟩:=hyl A _ _ i y H H' x hlt hy;refine⟨G,δ',P1,d,_,⟨A,(x.same sm).push rd⟩,turn i d δ' hd ii,λδ2 h2 σ2 H2 s2=>?_⟩;refine⟨G,δ2,P1,_,s2,h2,λδ3 h3 σ3 H3 s3=>⟨δ3,h3,s3⟩,⟨λd δ3 h3 v3 σ3 H3 s3=>k2.1 d δ3 h3 v3 σ3 H3 (s3.sub λp hp=>?_),k2.2.1,exsP hP k2.2.2⟩,λδ3 h3 σ3 H3 s3=>k1 δ3 h3 σ3 H3 (s3.sub λp hp=>hP p hp),λδ3 h3 σ3 H3 s3=>⟨δ3,h3,s3⟩,λz=>z.elim⟩
  rcases F7.mp hp with rfl | hp
  ·simp
  ·simp[hP p hp]
 ·have e:i=xs.length:=by omega
  subst e;exact .inl ⟨hst A _ _ H x,k1 δ' (fin δ' ii) σ H (s'.sub λp hp=>hP p hp)⟩
end DL
namespace DL
open PySem PySem.Spec PyProof.Rows L2
section
variable {X:Cx}
def fSum:List D->(D->Prop)->Prop
 | [.lst ds],R=>∃ns:List Int,ds=ns.map D.int/\R (.int ns.sum)
 | _,_=>False
def yX:∀ {d0:List D} {R:D->Prop},fSum d0 R->∃(ds:List D),d0=[.lst ds]/\∃ns:List Int,ds=ns.map D.int/\R (.int ns.sum):=by walk_at "or"
def w6{ds:List D}{R:D->Prop}:fSum [.lst ds] R=(∃ns:List Int,ds=ns.map D.int/\R (.int ns.sum)):=rfl
def EG(hc:X.calm=true):bP X (.builtin "sum") (aU X.K fSum):=by
 intro pins s σ H xs us Q I rv h;obtain⟨M,ds,R,m,rs,h,k⟩:=h;replace h:=yX h;obtain⟨_,rfl,h⟩:=h
 ·obtain⟨ns,rfl,h⟩:=h;obtain⟨x,rfl,q⟩:=a9 rs;unfold Fr at q;obtain⟨a,vs,rfl,_,e,r⟩:=q;obtain⟨u,rfl,ru⟩:=fL rv
  cases ru
  cases ji r
  obtain⟨its,rv2,pl,_⟩:=I.list (FA.of e);have hi:=fR rv2;obtain⟨ys,ey⟩:=hi.allInts.items;have hn:ys.toList.map (·.1)=ns:=by
   have e1:=nums_intItems ys
   rw[<- ey] at e1;exact e1.symm.trans hi.numsOf
  have hl:=pl.isList
  rw[ey] at hl;refine sum_intListG (I.ok.hd hc) hl λh' tk t' hk=>?_;refine⟨.int ns.sum,H,I.kept (t':=tk) hk,⟨t',?_⟩,k _ h _ H (bY.refl H) (Fr.sc rfl)⟩;rw[preSum_eq,Hg (by simp),hn]
def CT(i:Nat)(tk tx:FQ)(δ:En)(R:W->En->Prop):Prop:=qWD δ[i]? λ_ _ _=>tk δ (wd λz δ1=>tx δ1 (wd λx δ2=>At δ2[i]? λks ds=>qX z λy=>R (.d ((dAt ks ds y).getD x)) δ2))
variable {e f:Expr} {ta tb:FQ} {pos:Pos}
def AO(i:Nat){y:Str}{p apos cpos:Pos}(hu:X.A.units+64<cLine)(he:DE X e ta)(hf:DE X f tb)(hN:X.N[i]?=some y:=by rfl)(hv:Vis X.env.scope y:=by walk_at "v3")
  (hd:(y==("__debug__":Str))=false:=by decide) (hcd:(y==("__classdict__":Str))=false:=by decide) (m:M2 X (.Name y p) "get" apos e f cpos:=by exact⟨rfl,rfl,rfl,rfl⟩) :
  DE X (.Call (.Attribute (.Name y p) "get" apos) [e,f] [] cpos) (CT i ta tb) :=
 PE.imp (pk (by omega) (dJ hN hv hd hcd) he hf m) λσ H Q ⟨G,δ,P,R,s,h1,k,_⟩=>let ⟨a,ks0,ds0,hi0,h1⟩:=qWD.ex h1;⟨.ref a,s.own hi0,a,rfl,by
  obtain⟨A,q⟩:=id s;obtain⟨_,aa,vs,hvs,l,rs⟩:=q.own i a _ hi0;exact .inl ⟨_,.inl hvs⟩,up.mk s h1 λz δ1 h2 v H1 s1=>up.mk s1 h2 λx δ2 h3 w H2 ⟨A,q⟩=>by
   replace h3:=At.ex q (s.own hi0) h3;obtain⟨ks,ds,hi,h3⟩:=h3;replace h3:=qX.ex h3;obtain⟨y,ez,r⟩:=h3;subst ez;obtain⟨_,aa,vs,hvs,l,rs⟩:=q.own i a _ hi;have p2:v=.str y:=bD (q.pnd (.str y,v) (by simp));have g:=oR.k (k:=Sum.inr y) hvs;rw[dU] at g;refine⟨_,by rw[p2];exact g,?_⟩
   cases ed:dAt ks ds y with
   | some d =>
    obtain⟨w',hw,rw'⟩:=(Reps.dAt y ks ds vs rs).1 d ed;rw[ed] at r;rw[hw];exact k d δ2 r w' H2 ⟨A,(q.sub (P':=P) λp hp=>by simp[hp]).push rw'⟩
   | none =>
    have hw:=(Reps.dAt y ks ds vs rs).2 ed
    rw[ed] at r;rw[hw]
    exact k x δ2 r w H2 ⟨A,q.sub λp hp=>by
     rcases F7.mp hp with rfl | hp
     ·simp
     ·simp[hp]⟩⟩
end
end DL
namespace DL
open PySem PyProof.Rows
def D4:bootBuiltins "sum"=some (.builtin "sum"):=by decide +kernel
open PySem PySem.Spec PyProof.Rows L2
end DL
namespace Mf
open PySem L2 DL
variable {ts:List (Str×Int)} {i X:Nat} {ks:List Str} {x n:Str} {F:Str→Int} {ps:List (Int×Int)}
def Fk(t:Str×Int):D:=.tup [.str t.1,.int t.2]
structure jR(names:List Str)(ts:List (Str×Int)):Prop where
 sub:(ts.map (·.1)).Sublist names
 nz:∀t∈ts,t.2≠0
 bits:∀t∈ts,Builtin.Int.intBits t.2<=10000
def cU{d:D}(h:(ts.map Fk)[i]?=some d):∃t,ts[i]?=some t/\d=.tup [.str t.1,.int t.2]:=by
 rw[List.getElem?_map] at h
 cases e:ts[i]? with
 | none=>rw[e] at h;cases h
 | some n=>rw[e] at h;exact⟨n,rfl,(Gc h).symm⟩
def aE{α:Type}{l:List α}{x:α}(h:l[i]?=some x):l.take (i+1)=l.take i++[x]:=by rw[List.take_add_one,h];rfl
inductive Kd where
 | least | more
def kdS:Kd->Str
 | .least=>"least"
 | .more=>"more"
def eY(k:Kd)(ts:List (Str×Int))(b:Int):D:=.tup [.str (kdS k),.tup (ts.map Fk),.int b]
def u7:∀ts:List (Str×Int),D.nds (ts.map Fk)=true
 | []=>rfl
 | t::r=>by rw[Go];unfold D.nds;rw[u7 r];rfl
def sZ:∀ts:List (Str×Int),D.dps (ts.map Fk)<=1
 | []=>G5 _
 | t::r=>by
  rw[Go];unfold D.dps;exact Nat.max_le.mpr ⟨by show 1<=1;decide,sZ r⟩
def Ff(p:Int×Int):D:=.tup [.int p.1,.int p.2]
def mS(ks:List Str)(ps:List (Int×Int))(n:Str):Int×Int:=(dAt ks ps n).getD (0,1)
def pT(ks:List Str)(ps:List (Int×Int))(n:Str):Int:=(mS ks ps n).1
def pB(ks:List Str)(ps:List (Int×Int))(n:Str):Int:=(mS ks ps n).2
def nN{α β:Type}(f:α->β):∀(ks:List Str) (ps:List α) (n:Str),dAt ks (ps.map f) n=(dAt ks ps n).map f
 | [],ps,n=>by cases ps<;>rfl
 | k::ks,[],n=>rfl
 | k::ks,p::ps,n=>by
  show (if k=n then some (f p) else dAt ks (ps.map f) n)=(if k=n then some p else dAt ks ps n).map f
  by_cases e:k=n
  ·rw[Gd e,Gd e];rfl
  ·rw[Gb e,Gb e];exact nN f ks ps n
def nS{α:Type}:∀ {ks:List Str} {ps:List α} {n:Str} {p:α},dAt ks ps n=some p->p∈ps
 | [],ps,n,p,h=>by cases ps<;>cases h
 | k::ks,[],n,p,h=>by cases h
 | k::ks,x::ps,n,p,h=>by
  have h:(if k=n then some x else dAt ks ps n)=some p:=h
  by_cases e:k=n
  ·rw[Gd e] at h;cases h;exact FW ..
  ·rw[Gb e] at h;exact FU _ (nS h)
def iw{names:List Str}{d:D}(h:(names.map D.str)[i]?=some d):∃n,names[i]?=some n/\d=.str n:=by
 rw[List.getElem?_map] at h
 cases e:names[i]? with
 | none=>rw[e] at h;cases h
 | some n=>rw[e] at h;exact⟨n,rfl,(Gc h).symm⟩
def ik(h:x∉ks):jF ks x=ks++[x]:=by unfold jF;rw[Gb h]
def ip{ds:List D}{y:D}(h:x∉ks):lG ks ds x y=ds++[y]:=by unfold lG;rw[Gb h]
def lE{l:List Str}(nd:l.Nodup)(h:l[i]?=some x):x∉l.take i:=by
 intro hm;obtain⟨j,hj,e⟩:=List.getElem_of_mem hm;rw[Gv] at hj;rw[List.getElem_take] at e;obtain⟨hi,e2⟩:=List.getElem?_eq_some_iff.mp h;have:=(List.getElem_inj (h₀:=by omega) (h₁:=hi) nd).mp (e.trans e2.symm);omega
def sA{l:List Str}(h:l[i]?=some x):x∈l:=Ge h
def cJ{α:Type}(f:Str->α):∀ {names:List Str} {n:Str},n∈names->dAt names (names.map f) n=some (f n)
 | x::r,n,h=>by
  show (if x=n then some (f x) else dAt r (r.map f) n)=_
  by_cases e:x=n
  ·rw[Gd e,e]
  ·rw[Gb e];exact cJ f ((F7.mp h).resolve_left λz=>e z.symm)
abbrev Rw:=Kd×List (Str×Int)×Int
def Fx(r:Rw):D:=eY r.1 r.2.1 r.2.2
def cf:List (Str×Int)->Str->Int
 | [],_=>0
 | t::r,n=>(if t.1=n then t.2 else 0)+cf r n
def cfs:List (Rw×Int)->Str->Int
 | [],_=>0
 | p::r,n=>p.2*cf p.1.2.1 n+cfs r n
def bds:List (Rw×Int)->Int
 | []=>0
 | p::r=>p.2*p.1.2.2+bds r
def isM:Kd->Bool
 | .least=>false
 | .more=>true
def FM(l:List (Rw×Int)):Bool:=l.any λp=>isM p.1.1&&decide (0<p.2)
def kOf:Bool->Kd
 | true=>.more
 | false=>.least
def sT:∀ {a b:List (Str×Int)},cf (a++b) n=cf a n+cf b n
 | [],b=>(HE _).symm
 | t::a,b=>by show _+cf (a++b) n=_+cf a n+_;rw[sT];omega
def oN:∀ {a b:List (Rw×Int)},cfs (a++b) n=cfs a n+cfs b n
 | [],b=>(HE _).symm
 | t::a,b=>by show _+cfs (a++b) n=_+cfs a n+_;rw[oN];omega
def ua:∀ {a b:List (Rw×Int)},bds (a++b)=bds a+bds b
 | [],b=>(HE _).symm
 | t::a,b=>by show _+bds (a++b)=_+bds a+_;rw[ua];omega
def oE{a b:List (Rw×Int)}:FM (a++b)=(FM a||FM b):=List.any_append
def uH{p:Rw×Int}:FM [p]=(isM p.1.1&&decide (0<p.2)):=by unfold FM;simp
def jy:∀ {ts:List (Str×Int)},n∉ts.map (·.1)->cf ts n=0
 | [],_=>rfl
 | t::r,h=>by
  rw[Go,F7,not_or] at h;show (if t.1=n then t.2 else 0)+cf r n=0;rw[Gb (λz=>h.1 z.symm),jy h.2];rfl
structure eL(F:Str->Int)(ts:List (Str×Int)):Prop where
 pw:(ts.map (·.1)).Pairwise leS
 nd:(ts.map (·.1)).Nodup
 val:∀t∈ts,t.2=F t.1/\t.2≠0
 all:∀n,F n≠0->n∈ts.map (·.1)
def eL.ext{us:List (Str×Int)}(h1:∀t∈ts,t.2=F t.1)(h2:∀t∈us,t.2=F t.1)(h:ts.map (·.1)=us.map (·.1)):ts=us:=by
 have e:∀ {l:List (Str×Int)},(∀t∈l,t.2=F t.1)->l=(l.map (·.1)).map λn=>(n,F n):=λ{l} hl=>by
  rw[GG]
  conv=>lhs;rw[<- II l]
  refine HR λt ht=>?_;show t=(t.1,F t.1);rw[<- hl t ht]
 rw[e h1,e h2,h]
def eL.uniq{us:List (Str×Int)}(a:eL F ts)(b:eL F us):ts=us:=by
 refine eL.ext (λt h=>(a.val t h).1) (λt h=>(b.val t h).1) (lF a.pw b.pw a.nd b.nd λn=>⟨λh=>b.all n ?_,λh=>a.all n ?_⟩)
 ·obtain⟨t,ht,rfl⟩:=FV.mp h;rw[<- (a.val t ht).1];exact(a.val t ht).2
 ·obtain⟨t,ht,rfl⟩:=FV.mp h;rw[<- (b.val t ht).1];exact(b.val t ht).2
def eL.mk'{ns:List Str}(pw:ns.Pairwise leS)(nd:ns.Nodup)(all:∀n,F n≠0->n∈ns):eL F ((ns.filter λn=>decide (F n≠0)).map λn=>(n,F n)):=by
 have e:((ns.filter λn=>decide (F n≠0)).map λn=>(n,F n)).map (·.1)=ns.filter λn=>decide (F n≠0):=by rw[GG];exact II _
 refine⟨by rw[e];exact pw.filter _,by rw[e];exact nd.filter _,λt ht=>?_,λn hn=>?_⟩
 ·obtain⟨n,h1,rfl⟩:=FV.mp ht;exact⟨rfl,by simpa using (Ga.mp h1).2⟩
 ·rw[e,Ga];exact⟨all n hn,by simpa using hn⟩
def pP{f g:Str->D}(h:∀n,n≠x->g n=f n):∀ks:List Str,mT ks (ks.map f) x (g x)=ks.map g
 | []=>rfl
 | k::ks=>by
  show (if k=x then g x else f k)::mT ks (ks.map f) x (g x)=g k::ks.map g
  rw[pP h ks]
  by_cases e:k=x
  ·rw[Gd e,e]
  ·rw[Gb e,h k e]
def yF{f g:Str->D}(h:∀n,n≠x->g n=f n):lG ks (ks.map f) x (g x)=(jF ks x).map g:=by
 unfold lG jF
 by_cases e:x∈ks
 ·rw[Gd e,Gd e,pP h]
 ·rw[Gb e,Gb e,Gj]
  congr 1
  exact HR λn hn=>(h n λz=>e (z ▸ hn)).symm
def uc(h:ks.Nodup):(jF ks x).Nodup:=by
 unfold jF
 by_cases e:x∈ks
 ·rw[Gd e];exact h
 ·rw[Gb e,HK];exact⟨h,by simp,λa ha b hb z=>by rw[F6.mp hb] at z;exact e (z ▸ ha)⟩
def qv:n∈jF ks x↔n∈ks\/n=x:=by
 unfold jF
 by_cases e:x∈ks
 ·rw[Gd e];exact⟨.inl,λh=>h.elim id λz=>z ▸ e⟩
 ·rw[Gb e,F9,F6]
def eT:∀ {ks nm:List Str},ks.Nodup->(∀n∈ks,n∈nm)->ks.length<=nm.length
 | [],_,_,_=>G5 _
 | k::ks,nm,h,hs=>by
  obtain⟨h1,h2⟩:=GU.mp h;have hk:=hs k (FW ..);have:=eT (ks:=ks) (nm:=nm.erase k) h2 λn hn=>(List.mem_erase_of_ne (λz=>h1 (by rw[<- z];exact hn))).mpr (hs n (FU _ hn));rw[List.length_erase_of_mem hk] at this;have:0<nm.length:=List.length_pos_of_mem hk;rw[F8];omega
def ou{α:Type}:∀ {ks:List Str} {ds:List α},x∉ks->dAt ks ds x=none
 | [],ds,_=>by cases ds<;>rfl
 | k::ks,[],_=>rfl
 | k::ks,d::ds,h=>by
  rw[F7,not_or] at h;show (if k=x then some d else dAt ks ds x)=none;rw[Gb (λz=>h.1 z.symm)];exact ou h.2
def xi(h:x∉ks->F x=0):(dAt ks (ks.map λn=>D.int (F n)) x).getD (.int 0)=.int (F x):=by
 by_cases e:x∈ks
 ·rw[cJ (λn=>D.int (F n)) e];rfl
 ·rw[ou e,h e];rfl
def v8{rows:List Rw}{ws:List Int}:oC (rows.map Fx) (ws.map D.int)=(rows.zip ws).map λp=>D.tup [Fx p.1,.int p.2]:=by
 unfold oC;rw[List.zipWith_map,List.zip,IA]
def kL{nm:List Str}:∀ {l:List (Rw×Int)},(∀p∈l,∀t∈p.1.2.1,t.1∈nm)->cfs l n≠0->n∈nm
 | [],_,h=>absurd rfl h
 | p::r,hp,h=>by
  refine F4 λz=>?_;have h1:cfs r n=0:=F4 λy=>z (kL (λp h=>hp p (FU _ h)) y);have h2:cf p.1.2.1 n=0:=jy λhm=>by
   obtain⟨t,ht,e⟩:=FV.mp hm;exact z (e ▸ hp p (FW ..) t ht)
  refine h ?_;show p.2*cf p.1.2.1 n+cfs r n=0;rw[h1,h2,Int.mul_zero,HE]
structure RwOk(nm:List Str)(B:Nat)(r:Rw):Prop where
 sub:∀t∈r.2.1,t.1∈nm
 bw:∀t∈r.2.1,Builtin.Int.intBits t.2<=B
 bb:Builtin.Int.intBits r.2.2<=B
structure Pt(ks:List Str)(ps:List (Int×Int))(X:Nat):Prop where
 len:ps.length=ks.length
 low:∀p∈ps,Fi p.1 p.2
 b1:∀p∈ps,Builtin.Int.intBits p.1<=X
 b2:∀p∈ps,Builtin.Int.intBits p.2<=X
def Pt.at(hp:Pt ks ps X)(h:n∈ks):dAt ks ps n=some (mS ks ps n)/\mS ks ps n∈ps:=by
 have e:=fD (ks:=ks) (ds:=ps) (x:=n) hp.len.symm
 rw[Gz h] at e
 cases q:dAt ks ps n with
 | none=>rw[q] at e;cases e
 | some p =>
  have:mS ks ps n=p:=by unfold mS;rw[q];rfl
  rw[this];exact⟨rfl,nS q⟩
def Pt.D(hp:Pt ks ps X)(h:n∈ks):dAt ks (ps.map Ff) n=some (.tup [.int (pT ks ps n),.int (pB ks ps n)]):=by
 rw[nN,(hp.at h).1];rfl
def Pt.pos(hp:Pt ks ps X)(h:n∈ks):0<pB ks ps n:=(hp.low _ (hp.at h).2).pos
def Pt.Bb(hp:Pt ks ps X)(h:n∈ks):Builtin.Int.intBits (pB ks ps n)<=X:=hp.b2 _ (hp.at h).2
def Pt.Tb(hp:Pt ks ps X)(h:n∈ks):Builtin.Int.intBits (pT ks ps n)<=X:=hp.b1 _ (hp.at h).2
def Pt.mono{Y:Nat}(hp:Pt ks ps X)(h:X<=Y):Pt ks ps Y:=⟨hp.len,hp.low,λp hq=>FX (hp.b1 p hq) h,λp hq=>FX (hp.b2 p hq) h⟩
end Mf
namespace DL
open PySem PySem.Spec PyProof.Rows L2
section
variable {X:Cx} {pos:Pos} {a b e:Expr} {es:List Expr} {ta tb:FQ} {t:TDA}
def rb:bP X (.type "dict") (λxs H Q=>∃a kvs,xs=[.ref a]/\Rd H a (.dK kvs)/\∀l,H l=none->Q (.ref l) (FI H l (.dK kvs))):=by
 intro pins s σ H xs us Q I rv h;obtain⟨a,kvs,rfl,e,k⟩:=h;obtain⟨u,rfl,ru⟩:=fL rv
 cases ru
 obtain⟨hz,lo,va,ra,da⟩:=iH I.hok e;have fr:H s.heap.objs.size=none:=I.hok.fresh (F3 _);refine kt_call_dict lo da (by rw[<- ra.length];exact hz) λh' dd sb=>?_;have kp:∀b o,s.heap.get? b=some o->h'.get? b=some o:=λb o e=>sb.extBut b o (Gw (Gg e)) (Heap.get?_push_of_some _ e);have lo2:(s.heap.objs.size==sysModules)=false:=ID.mpr (HB I.big);exact⟨.ref _,_,I.laid (t':=s.toks) kp (F3 _) (tF hz lo2 ra dd),rfl,k _ fr⟩
def qZ:D->(List Str->List D->Prop)->Prop
 | .dct ks ds,k=>k ks ds
 | .fd ks ds,k=>k ks ds
 | _,_=>False
def qZ.ex{d:D}{k:List Str->List D->Prop}(h:qZ d k):∃ks ds,(d=.dct ks ds\/d=.fd ks ds)/\k ks ds:=by
 cases d<;>first | exact False.elim h | exact⟨_,_,.inl rfl,h⟩ | exact⟨_,_,.inr rfl,h⟩
def xW(i:Nat)(te:FQ)(R:a4)(δ:En):Prop:=te δ (wd λd δ1=>qZ d λks ds=>∀a,lH δ1 i (.own a (.dct ks ds)) R.nx)
def vM(i:Nat){y:Str}{p pos' pos2:Pos}(hN:X.N.Nodup)(hg:Gl X "dict")(hm:X.mg "dict"=none)(he:DE X e ta)(hi:X.N[i]?=some y:=by rfl)(hx:Loc X.env.scope y:=by walk_at "v2")
  (h2:starEach [e] X.env=(false,eval e X.env)::starEach [] X.env:=by rfl) (hpl:(backTo pos2 (starEach [] X.env)).any (·.1)=false:=by rfl)
  (hs:swapsWith (.Call (.Name "dict" p) [e] [] pos2) (some (.Name y pos')) pos.line X.env=pure false:=by rfl) (hf:X.fn y=true\/X.env.scope.names.lookup y=some .local :=by walk_at "v1") :
  DS X (.Assign [.Name y pos'] (.Call (.Name "dict" p) [e] [] pos2) pos) (xW i ta) :=
 PS.imp (mD hN hi hx (jg rb hg hm sX (bC he eB h2) (by decide) (by decide) h2 hpl) hs hf) λE σ H ⟨G,δ,P,R,s,h,k,_⟩=>up.mk s h λd δ1 h1 v H1 ⟨A,q⟩=>by
  replace h1:=qZ.ex h1;obtain⟨ks,ds,ed,r⟩:=h1;have r0:∃a0 vs,v=.ref a0/\Rd H1 a0 (.dK (bg ks vs))/\ks.length=ds.length/\Reps X.K (λb=>G.M0 b\/A b) H1 ds vs:=by
   rcases ed with ed | ed
   ·subst ed;have r0:=q.pnd (.dct ks ds,v) (by simp);unfold Fr at r0;obtain⟨a0,vs,e,n0,e0,l0,rs⟩:=r0;exact⟨a0,vs,e,.inl e0,l0,rs⟩
   ·subst ed;have r0:=q.pnd (.fd ks ds,v) (by simp);unfold Fr at r0;obtain⟨a0,vs,o,e,e0,l0,rs⟩:=r0;exact⟨a0,vs,e,.inr ⟨o,e0⟩,l0,rs⟩
  obtain⟨a0,vs,rfl,e0,l0,rs⟩:=r0;refine⟨a0,_,rfl,e0,λl hl=>?_⟩;have sm:=aG hl (.dK (bg ks vs));refine k _ (r l) _ _ ⟨_,q.claim (P':=P) hl sm ⟨vs,aF,l0,Reps.kp (Kp.of_same sm) _ _ (Reps.more (λb z=>?_) _ _ rs)⟩ λq hq=>FU _ hq⟩
  rcases z with z | z
  ·exact .inl z
  ·exact .inr (by rw[z];exact hl)
def Et:V->List V->Hp->VK->Prop:=λx vs H Q=>∃l xs y,x=.ref l/\vs=[.int 0,y]/\H l=some (.lst xs)/\xs.length<sizeLine/\Q .non (FI H l (.lst (y::xs)))
def AF:MtM X "list.insert" Et:=by
 intro pins s σ H x vs v us Q I rx rv h;obtain⟨l,xs,y,rfl,rfl,hH,hz,q⟩:=h
 cases rx
 cases rv with
 | cons r0 rv =>
  obtain⟨t,rfl⟩:=r0;obtain⟨u,rfl,ru⟩:=fL rv;obtain⟨z,its,n,r,hl,e⟩:=I.lstM hH;refine call_meets PySem.F.slot_list_insert ⟨_,e,rfl⟩ PySem.F.entry_list_insert (PySem.F.args_list_insert_3 _ _ _) (PySem.AutoSeq1.list_insert_list_int_val_1 l its.toArray n 0 t u (by decide) (by rw[Gs];omega)) ⟨e,?_⟩;refine⟨.non,_,I.lset (its':=u::its) hH e ?_ (.cons ru r) ?_,rfl,q⟩
  ·apply Array.toList_inj.mp;simp
  ·rw[F8];omega
def B9(i:Nat)(te:FQ)(R:a4)(δ:En):Prop:=qWL δ[i]? λa _=>te δ (wd λx δ1=>zw δ1[i]? λds=>ds.length<9000/\lH δ1 i (.own a (.lst (x::ds))) R.nx)
def v5(i:Nat){y:Str}{j0}{p p0 apos cpos:Pos}(he:DE X e ta)(hN:X.N[i]?=some y:=by rfl)(hv:Vis X.env.scope y:=by walk_at "v3")
  (hd:(y==("__debug__":Str))=false:=by decide) (hcd:(y==("__classdict__":Str))=false:=by decide)
  (hbase:attributeBase (.Name y p) "insert" X.env (eval (.Name y p) X.env)=eval (.Name y p) X.env:=by rfl)
  (hfew:((backTo cpos (starEach [.Constant (.int 0) j0 p0,e] X.env)).all (λx=>!x.1)&&(backToKw cpos (keywordEach [] X.env)).all (λx=>x.1.isSome)&&decide ([Expr.Constant (.int 0) j0 p0,e].length+([]:List Keyword).length+(if ([]:List Keyword).isEmpty then 0 else 1)<30))=true:=by rfl)
  (hline:(apos.endLine==cpos.line)=true:=by rfl) (hs:starEach [.Constant (.int 0) j0 p0,e] X.env=(false,eval (.Constant (.int 0) j0 p0) X.env)::starEach [e] X.env:=by rfl) (hs2:starEach [e] X.env=(false,eval e X.env)::starEach [] X.env:=by rfl) (hplain:(backTo cpos (starEach [e] X.env)).any (·.1)=false:=by rfl)
  (hsw:swapsWith (.Call (.Attribute (.Name y p) "insert" apos) [.Constant (.int 0) j0 p0,e] [] cpos) none pos.line X.env=pure false:=by rfl) :
  DS X (.Expr (.Call (.Attribute (.Name y p) "insert" apos) [.Constant (.int 0) j0 p0,e] [] cpos) pos) (B9 i ta) :=
 PS.imp (nM (Dr PySem.F.plainAttrs_list PySem.F.slot_list_insert PySem.F.type_list_insert AF (dJ hN hv hd hcd) (bC xK (bC he eB hs2) hs) hbase hfew hline hs hplain) hsw) λE σ H ⟨G,δ,P,R,s,h,k,_⟩=>by
  replace h:=qWL.ex h;obtain⟨a,ds0,hi0,h⟩:=h;obtain⟨A0,x0⟩:=id s;obtain⟨h0,_,vs0,hvs0,_⟩:=fX x0 hi0;refine⟨.ref a,h0,.inl ⟨rfl,vs0,FA.of hvs0⟩,up.mk s h λx δ1 h1 v H1 ⟨A,q⟩=>?_⟩;replace h1:=zw.ex q h0 h1;obtain⟨ds,hi,hz,r⟩:=h1;obtain⟨_,aa,vs,hvs,rs⟩:=fX q hi;refine⟨a,vs,v,rfl,rfl,hvs,by rw[<- Reps.length _ _ rs];exact jt (HA hz),k _ r _ _ ⟨A,(q.change (d':=.lst (x::ds)) hi (λb o n e=>by rw[aI n];exact e) ⟨v::vs,aF,?_⟩).sub (P':=P) λq hq=>FU _ hq⟩⟩;have kp:Kp (λb=>G.M0 b\/A b) H1 (FI H1 a (.lst (v::vs))):=by
   have hk:∀b o,b≠a->H1 b=some o->FI H1 a (.lst (v::vs)) b=some o:=λb o n e=>by rw[aI n];exact e
   exact⟨λb o e n=>hk b o (λz=>n (.inr (by rw[z];exact aa))) e,λb xs e=>hk b _ (λz=>by rw[z,hvs] at e;cases e) e,λb o u e=>hk b _ (λz=>by rw[z,hvs] at e;cases e) e⟩
  exact Reps.kp kp _ _ (Reps.cons (q.pnd (x,v) (by simp)) rs)
structure GEnd(K:PySem.W.Frag)(mg:Str->Option Value)(x:Str):Prop where
 ex:∃a o n,mg x=some (.ref a)/\K.lookup a=some o/\o.cls=.type "tuple"/\o.data=.seq #[.none,.bool false] n
def uB{x:Str}(hg:Gl X x)(h:GEnd X.K X.mg x)(hd:(x==("__debug__":Str))=false:=by decide):DE X (.Name x pos) (dC (.tup [.non,.bl false])):=by
 obtain⟨a,o,n,e,h1,h2,h3⟩:=h.ex;refine PE.imp (og (v:=.ref a) hg e rfl hd) λσ H Q ⟨G,δ,P,R,⟨A,s⟩,h,k,_⟩=>k _ δ h _ H ⟨A,s.push ?_⟩;unfold Fr;exact⟨a,[.non,.bl false],rfl,.inr ⟨o,_,n,h1,h2,h3,by show 2<=sizeLine;decide,.cons rfl (.cons rfl .nil)⟩,Reps.cons (by unfold Fr;rfl) (Reps.one (by unfold Fr;rfl))⟩
end
end DL
namespace DL
open PySem PySem.Spec PyProof.Rows L2
variable {elts:List Expr} {pos p:Pos} {a:Expr}
def Ite(K:PySem.W.Frag)(a:Addr):It :=
  ⟨λi H=>∃xs x,FA K H a xs/\xs[i]?=some x,
   λi H v H'=>∃T x,H T=none/\H'=FI H T (.tup [.int (i:Nat),x])/\v=.ref T/\∀xs,FA K H a xs->xs[i]?=some x,
   λi H=>∃xs,FA K H a xs/\xs.length<=i⟩
def EI(h:Heap)(e it a:Addr)(m:Nat):Prop:=(∃old,IsEnum h e it ((m:Nat):Int) old)/\h.IsListIter it a m
def sY{P:Program}{w:World}{K:PySem.W.Frag}{x1}{e it a:Addr}(hne:e≠it):Av P w K (.Tuple elts x1 pos) (Ite K a) [e,it] e (λm h=>EI h e it a m) where
 mem:=by simp
 obj:=λm h Z c hc=>by
  obtain⟨⟨old,z⟩,zi⟩:=Z;simp only[List.mem_cons,List.not_mem_nil,or_false] at hc
  rcases hc with rfl | rfl
  ·exact⟨_,z,λv=>nofun⟩
  ·obtain⟨q,x,_,d⟩:=zi;exact⟨q,x,λv=>by rw[d];nofun⟩
 keep:=λm h h' Z kk=>by
  obtain⟨⟨old,z⟩,zi⟩:=Z;exact⟨⟨old,kk _ (by simp) _ z⟩,zi.at λo x=>kk _ (by simp) o x⟩
 item:=by
  intro X hP hw hK hc m pins s σ H E I hf Z hg;subst hP hw hK;obtain⟨xs,x,h1,hx⟩:=hg;obtain⟨⟨old,z⟩,zi⟩:=Z;obtain⟨is,r1,p1,_⟩:=I.list h1;obtain⟨u,hu,ru⟩:=r1.get hx;refine wpAny_pyNext_enum_item z zi p1.isList (by simpa using hu) hne λh' e1 i1 t1 n1 kk=>⟨_,rfl,?_⟩;refine wpAny_letOwnedTupleGo_enum (s:={ s with heap:=h',toks:=s.toks+1 }) e1 λh2 e2 s2=>?_;have s2:Heap.SameBut e h' h2:=s2;have hfr:H s.heap.objs.size=none:=I.hok.fresh (F3 _);have I1:Inv X pins σ (FI H s.heap.objs.size (.tup [.int (m:Nat),x])) { s with heap:=s.heap.push { cls:=.type "tuple",data:=.seq #[.int (m:Nat) s.toks,u] },toks:=s.toks+1 }:=I.laid (t':=s.toks+1) (λb u e=>Heap.get?_push_of_some _ e) (F3 _) ⟨by show 2<=sizeLine;decide,[.int (m:Nat) s.toks,u],.cons ⟨_,rfl⟩ (.cons ru .nil),⟨_,Heap.get?_push_size _ rfl,rfl,_,rfl⟩⟩;have ne:∀ {c o},s.heap.get? c=some o->c≠s.heap.objs.size:=λe=>Gw (Gg e);have le:e≠s.heap.objs.size:=ne z;have li:it≠s.heap.objs.size:=by obtain⟨q,y,_⟩:=zi;exact ne y
  have fr:∀c∈[e,it],FI H s.heap.objs.size (.tup [.int (m:Nat),x]) c=none:=λc hc'=>by
   rw[aI (by simp only[List.mem_cons,List.not_mem_nil,or_false] at hc';rcases hc' with rfl | rfl;exact le;exact li)];exact(hf c hc').1
  have I2:Inv X pins σ (FI H s.heap.objs.size (.tup [.int (m:Nat),x])) { s with heap:=h2,toks:=s.toks+1 }:=lx (s:={ s with heap:=s.heap.push { cls:=.type "tuple",data:=.seq #[.int (m:Nat) s.toks,u] },toks:=s.toks+1 }) (t':=s.toks+1) (fp:=[e,it]) I1 (λc q hc ec=>?_) λc hc=>⟨fr c hc,(hf c hc).2⟩
  ·exact⟨.ref s.heap.objs.size,_,I2,rfl,⟨_,x,hfr,rfl,rfl,λzs hz=>by rw[I.list_inj hz h1];exact hx⟩,⟨⟨_,e2⟩,i1.at λo y=>s2.extBut _ _ (IN hne) y⟩,fr⟩
  ·have n1:c≠e:=λz=>hc (by rw[z];simp)
   have n2:c≠it:=λz=>hc (by rw[z];simp)
   rcases Heap.get?_push_cases ec with⟨rfl,rfl⟩ | ec
   ·exact s2.extBut _ _ n1 t1
   ·exact s2.extBut _ _ n1 (kk c q n1 n2 ec)
 done:=by
  intro X hP hw hK hc m pins s σ H E I hf Z hg;subst hP hw hK;obtain⟨xs,h1,hl⟩:=hg;obtain⟨⟨old,z⟩,zi⟩:=Z;obtain⟨is,r1,p1,_⟩:=I.list h1;have l1:=r1.length;refine wpAny_pyNext_enum_end (I.ok.hd hc) z zi p1.isList (by simp;omega) λh' kk=>⟨rfl,lx (t':=s.toks) (fp:=[e,it]) I (λc q hc e=>kk c q (λz=>hc (by rw[z];simp)) e) hf⟩
 self:=λ_ _ _ _ _ Z h=>wpAny_pyIter_enum Z.1.choose_spec h
section
variable {X:Cx}
def DB(K:PySem.W.Frag)(ta:TA):TI:=λσ H R=>ta σ H λvs H1=>∃a,vs=[.ref a]/\(∃xs,FA K H1 a xs)/\R (Ite K a) H1
def zR{ta:TA}{x1}{pos':Pos}(hg:Gl X "enumerate")(hm:X.mg "enumerate"=none)(ha:PA X [a] ta)(hs:starEach [a] X.env=[(false,eval a X.env)]:=by rfl) :
  PI X (.Tuple elts x1 pos') (.Call (.Name "enumerate" p) [a] [] pos) (DB X.K ta):=by
 intro pins s σ H R I h;refine Call_ (fH I hg hm boot_enumerate (GT (FG (ha pos pins s σ H _ I h) λus s1 ⟨vs,H1,I1,r1,q1⟩=>?_) (by rw[hs];rfl) rfl));obtain⟨c,e,⟨xs,hx⟩,q⟩:=q1;subst e;obtain⟨u,rfl,ru⟩:=fL r1
 cases ru
 obtain⟨is,_,p1,_⟩:=I1.list hx;refine call_enumerate_list p1.isList λh' e1 i1 n1 up=>wpAny_pyIter_enum (s:={ s1 with heap:=h' }) e1 ?_;have n1:s1.heap.objs.size+1≠s1.heap.objs.size:=λz=>by have z:(_:Nat)=_:=z;omega
 refine⟨_,[s1.heap.objs.size+1,s1.heap.objs.size],_,_,H1,rfl,I1.kept (t':=s1.toks) up,sY n1,⟨⟨_,e1⟩,i1⟩,λb hb=>?_,q⟩;have hb:s1.heap.objs.size<=b:=by
  simp only[List.mem_cons,List.not_mem_nil,or_false] at hb
  rcases hb with rfl | rfl
  ·exact HP ..
  ·exact F3 _
 exact I1.fpOk hb (I1.hok.fresh hb)
def enD(xs:List D):List D:=xs.mapIdx λi x=>.tup [.int (i:Nat),x]
def xA(t:TDA)(δ:En)(R:List D->En->Prop):Prop:=t δ λds δ1=>qC ds λx r=>qN r <| qL x λxs=>R (enD xs) δ1
def sf{ta:TDA}{x1}{pos':Pos}(hg:Gl X "enumerate")(hm:X.mg "enumerate"=none)(ha:DA X [a] ta)(hs:starEach [a] X.env=[(false,eval a X.env)]:=by rfl) :
  CI X (.Tuple elts x1 pos') (.Call (.Name "enumerate" p) [a] [] pos) (xA ta) :=
 ⟨_,zR hg hm ha hs,λG δ P σ H R Q s hs kk=>⟨G,δ,P,_,s,hs,λds δ1 h1 vs H1 hl s1=>by
  replace h1:=qC.ex h1;obtain⟨x,r,e,h1⟩:=h1;replace h1:=qN.ex h1;obtain⟨e',h1⟩:=h1;replace h1:=qL.ex h1;obtain⟨xs,e2,r⟩:=h1;subst e2 e' e
  match vs,hl with
  | [v],_ =>
   have s2:S X.K G δ1 ((.lst xs,v)::P) σ H1:=s1
   have at1:∀A δ σ H,Sx X.K G A δ ((.lst xs,v)::P) σ H->∃a vs,v=.ref a/\FA X.K H a vs/\Reps X.K (λb=>G.M0 b\/A b) H xs vs:=λA δ σ H x=>by
    have q:=x.pnd (.lst xs,v) (by simp)
    unfold Fr at q;obtain⟨a,vs,e,_,l,r⟩:=q;exact⟨a,vs,e,FA.of l,r⟩
   obtain⟨A1,x1⟩:=id s2;obtain⟨a,vs0,rfl,l0,_⟩:=at1 _ _ _ _ x1;have hlen:(enD xs).length=xs.length:=by unfold enD;rw[List.length_mapIdx]
   refine⟨a,rfl,⟨vs0,l0⟩,kk _ δ1 r _ _ H1 (λq hq=>by simp[hq]) s2 (λA δ σ i H x hi=>?_) (λA δ σ H x=>?_) λA δ σ i y H H2 x hi hy=>?_⟩
   ·obtain⟨_,vs,e,l,r⟩:=at1 _ _ _ _ x
    cases e
    obtain⟨v',hv,_⟩:=Reps.get _ _ r i (xs[i]'(by omega)) (by simp);exact⟨vs,v',l,hv⟩
   ·obtain⟨_,vs,e,l,r⟩:=at1 _ _ _ _ x
    cases e
    have:=Reps.length _ _ r
    exact⟨vs,l,by omega⟩
   ·obtain⟨_,vs,e,l,r⟩:=at1 _ _ _ _ x
    cases e
    obtain⟨T,x',hT,rfl,rfl,hx⟩:=hy;have hi1:i<xs.length:=by omega
    obtain⟨v',hv,rv⟩:=Reps.get _ _ r i xs[i] (by simp[hi1]);have e1:=hx vs l;rw[hv] at e1;have e1:=Gc e1;rw[e1] at rv;have sm:bY H (FI H T (.tup [.int (i:Nat),x'])):=aG hT _;refine⟨sm,.tup [.int (i:Nat),xs[i]],?_,?_⟩
    ·unfold enD;rw[List.getElem?_mapIdx,List.getElem?_eq_getElem hi1];rfl
    ·unfold Fr
     exact⟨T,[.int (i:Nat),x'],rfl,.inl (.inl aF),Reps.cons (by unfold Fr;rfl) (Reps.one (Fr.kp (Kp.of_same sm) _ _ rv))⟩⟩⟩
end
def Itv(K:PySem.W.Frag)(a:Addr)(n:Nat):It :=
  ⟨λi H=>i<n/\∃xs x,FA K H a xs/\xs.length=n/\xs[n-1-i]?=some x,
   λi H v H'=>H'=H/\∀xs,FA K H a xs->xs[n-1-i]?=some v,
   λi _=>i=n⟩
def xm{P:Program}{w:World}{K:PySem.W.Frag}{tg:Expr}{a it:Addr}{n:Nat}:Av P w K tg (Itv K a n) [it] it (λi h=>h.IsRevIter it a ((n:Int)-1-(i:Nat))) where
 mem:=by simp
 obj:=λi h st b hb=>by
  have e:b=it:=by simpa using hb
  subst e;obtain⟨o,ho,_,d⟩:=st;exact⟨o,ho,λv=>by rw[d];nofun⟩
 keep:=λi h h' st k=>st.at λo e=>k it (by simp) o e
 item:=by
  intro X hP hw hK hc i pins s σ H E I hf st hg;subst hP hw hK;obtain⟨f0,f1,f2,f3,f4,f5⟩:=hf it (by simp);obtain⟨hi,xs,x,h1,hn,hx⟩:=hg;obtain⟨is,r1,p1,_⟩:=I.list h1;obtain⟨u,hu,ru⟩:=r1.get hx;have e:(n:Int)-1-(i:Nat)=((n-1-i:Nat):Int):=by omega
  rw[e] at st;refine wpAny_pyNext_rev_item st p1.isList (by simpa using hu) λh' st' sb=>⟨_,rfl,?_⟩;have e2:((n-1-i:Nat):Int)-1=(n:Int)-1-((i+1:Nat):Int):=by omega
  rw[e2] at st';obtain⟨o,ho,hoc,hod⟩:=id st';have I1:Inv X pins σ H { s with heap:=h' }:=I.turned (t':=s.toks) (λb o hb e=>sb.extBut b o hb e) f0 f1 f3 f4 f5;exact vL (s:={ s with heap:=h' }) (n:="list_reverseiterator") ho hoc hod (by decide) ⟨x,H,I1,ru,⟨rfl,λzs hz=>by rw[I.list_inj hz h1];exact hx⟩,st',λb hb=>(hf b hb).1⟩
 done:=by
  intro X hP hw hK hc i pins s σ H E I hf st hg;subst hP hw hK;obtain⟨f0,f1,f2,f3,f4,f5⟩:=hf it (by simp);have hg:i=n:=hg;subst hg;have e:(i:Int)-1-(i:Nat)=-1:=by omega
  rw[e] at st;exact wpAny_pyNext_rev_end (I.ok.hd hc) st λh' eb=>⟨rfl,I.turned (t':=s.toks) (λb o hb e=>eb b o hb e) f0 f1 f3 f4 f5⟩
 self:=λ_ _ _ _ _ st h=>wpAny_pyIter_revIter st h
section
variable {X:Cx} {tg:Expr}
def iRev(K:PySem.W.Frag)(ta:TA):TI:=λσ H R=>ta σ H λvs H1=>∃a xs,vs=[.ref a]/\FA K H1 a xs/\R (Itv K a xs.length) H1
def BR{ta:TA}(hg:Gl X "reversed")(hm:X.mg "reversed"=none)(ha:PA X [a] ta)(hs:starEach [a] X.env=[(false,eval a X.env)]:=by rfl) :
  PI X tg (.Call (.Name "reversed" p) [a] [] pos) (iRev X.K ta):=by
 intro pins s σ H R I h;refine Call_ (fH I hg hm boot_reversed (GT (FG (ha pos pins s σ H _ I h) λus s1 ⟨vs,H1,I1,r1,q1⟩=>?_) (by rw[hs];rfl) rfl));obtain⟨c,xs,e,hx,q⟩:=q1;subst e;obtain⟨u,rfl,ru⟩:=fL r1
 cases ru
 obtain⟨is,rv,p1,_⟩:=I1.list hx;have hl:is.toArray.size=xs.length:=by rw[Gs,rv.length]
 refine call_reversed_list p1.isList ?_;have st:(s1.heap.push (revObj c ((is.toArray.size:Int)-1))).IsRevIter s1.heap.objs.size c ((xs.length:Int)-1-((0:Nat):Int)):=⟨_,Heap.get?_push_size _ rfl,rfl,by show Data.fields #[.ref c,rawInt ((is.toArray.size:Int)-1)]=_;rw[hl,show ((0:Nat):Int)=0 from rfl,Int.sub_zero]⟩;refine wpAny_pyIter_revIter (s:={ s1 with heap:=s1.heap.push (revObj c ((is.toArray.size:Int)-1)) }) st ?_;refine⟨_,[s1.heap.objs.size],_,_,H1,rfl,I1.kept (t':=s1.toks) λb o e=>Heap.get?_push_of_some _ e,xm,st,λb hb=>?_,q⟩;have e:b=s1.heap.objs.size:=by simpa using hb
 subst e;exact I1.fpOk (F3 _) (I1.hok.fresh (F3 _))
def B8(t:TDA)(δ:En)(R:List D->En->Prop):Prop:=t δ λds δ1=>qC ds λx r=>qN r <| qL x λxs=>R xs.reverse δ1
def B5{ta:TDA}(hg:Gl X "reversed")(hm:X.mg "reversed"=none)(ha:DA X [a] ta)(hs:starEach [a] X.env=[(false,eval a X.env)]:=by rfl) :
  CI X tg (.Call (.Name "reversed" p) [a] [] pos) (B8 ta) :=
 ⟨_,BR hg hm ha hs,λG δ P σ H R Q s hs kk=>⟨G,δ,P,_,s,hs,λds δ1 h1 vs H1 hl s1=>by
  replace h1:=qC.ex h1;obtain⟨x,r,e,h1⟩:=h1;replace h1:=qN.ex h1;obtain⟨e',h1⟩:=h1;replace h1:=qL.ex h1;obtain⟨xs,e2,r⟩:=h1;subst e2 e' e
  match vs,hl with
  | [v],_ =>
   have s2:S X.K G δ1 ((.lst xs,v)::P) σ H1:=s1
   have at1:∀A δ σ H,Sx X.K G A δ ((.lst xs,v)::P) σ H->∃a vs,v=.ref a/\FA X.K H a vs/\Reps X.K (λb=>G.M0 b\/A b) H xs vs:=λA δ σ H x=>by
    have q:=x.pnd (.lst xs,v) (by simp)
    unfold Fr at q;obtain⟨a,vs,e,_,l,r⟩:=q;exact⟨a,vs,e,FA.of l,r⟩
   obtain⟨A1,x1⟩:=id s2;obtain⟨a,vs0,rfl,l0,r0⟩:=at1 _ _ _ _ x1;have hl0:=Reps.length _ _ r0;refine⟨a,vs0,rfl,l0,kk _ δ1 r _ _ H1 (λq hq=>by simp[hq]) s2 (λA δ σ i H x hi=>?_) (λA δ σ H x=>by show xs.reverse.length=vs0.length;rw[HS,hl0]) λA δ σ i y H H2 x hi hy=>?_⟩
   ·rw[HS] at hi;obtain⟨_,vs,e,l,r⟩:=at1 _ _ _ _ x
    cases e
    have hl1:=Reps.length _ _ r
    obtain⟨v',hv,_⟩:=Reps.get _ _ r (vs0.length-1-i) (xs[vs0.length-1-i]'(by omega)) (by simp);exact⟨by omega,vs,v',l,by omega,hv⟩
   ·rw[HS] at hi;obtain⟨_,vs,e,l,r⟩:=at1 _ _ _ _ x
    cases e
    have hl1:=Reps.length _ _ r
    obtain⟨e,hy⟩:=hy;subst e;obtain⟨v',hv,rv⟩:=Reps.get _ _ r (vs0.length-1-i) (xs[vs0.length-1-i]'(by omega)) (by simp);have z:=hy vs l;rw[hv] at z
    cases z
    refine⟨bY.refl _,_,?_,rv⟩;have e9:xs.length-1-i=vs0.length-1-i:=by omega
    rw[List.getElem?_reverse (by omega),e9]
    exact List.getElem?_eq_getElem _⟩⟩
end
end DL
namespace DL
open PySem PySem.Spec PyProof.Rows L2
variable {k:Str} {t:SetTable} {n:Nat} {a:Addr}
def vm(w:World):Bool:=w.params.followText "set-order"
def sOf:Value->Str
 | .str x _=>x
 | _=>⟨#[]⟩
structure TxS(P:Program)(w:World)(h:Heap)(a:Addr)(es:Array (Int×Value))(ep:Nat)(t:SetTable):Prop where
 ob:∃o,h.get? a=some o/\o.ExactSet/\o.data=.set es ep t
 el:ElemsOf (PySem.strKind P w) es.toList
 nd:(es.toList.map λe=>sOf e.2).Nodup
 few:es.size<scanBound
 fit:t.fits es.size=true
 led:t.led=!vm w
 pl:es.size≠0->t.plain=false
section
variable {P:Program} {w:World} {h h':Heap} {a:Addr} {es:Array (Int×Value)} {ep:Nat} {t:SetTable}
def TxS.keep(x:TxS P w h a es ep t)(k:∀o,h.get? a=some o->h'.get? a=some o):TxS P w h' a es ep t:=by
 obtain⟨o,e,r⟩:=x.ob;exact⟨⟨o,k o e,r⟩,x.el,x.nd,x.few,x.fit,x.led,x.pl⟩
def yh{v:Value}(h:(PySem.strKind P w).is k v=true):∃t,v=.str k t:=Value.isStrOf_shape h
def x9(he:ElemsOf (PySem.strKind P w) es.toList){e:Int×Value}(h:e∈es.toList):∃t,e.2=.str (sOf e.2) t:=by
 obtain⟨⟨k,hk,_⟩,_⟩:=he e h;obtain⟨t,q⟩:=yh hk;exact⟨t,by rw[q];rfl⟩
def CN(he:ElemsOf (PySem.strKind P w) es.toList){e:Int×Value}(h:e∈es.toList):(PySem.strKind P w).is k e.2=true↔sOf e.2=k:=by
 obtain⟨t,q⟩:=x9 he h
 constructor
 ·intro z;obtain⟨u,z⟩:=yh z;rw[z];rfl
 ·intro z;rw[q,z];exact PySem.strKind_is P w k t
def oB:(t.orStandIn n).led=t.led:=by
 unfold SetTable.orStandIn
 split<;>rfl
def rf{x:Value}{n:Int}:(layNew t es n x).2.1.led=t.led:=by
 unfold layNew
 split
 ·exact oB
 ·rfl
def ug:(relayAll t es n).2.1.led=t.led:=by
 unfold relayAll
 split
 ·rename_i t' order e
  unfold SetTable.relaid SetTable.laid at e;simp only[Option.bind_eq_bind,Option.bind_eq_some_iff] at e;obtain⟨ow,_,e⟩:=e;have e:=Gc e;simp only[Prod.mk.injEq] at e;simp only
  split
  ·rw[<- e.1]
  ·rfl
 ·rfl
def nT(h:t.plain=false):(relayAll t es n).2.1.plain=false:=by
 unfold relayAll
 split
 ·rename_i t' order e
  unfold SetTable.relaid SetTable.laid at e;simp only[Option.bind_eq_bind,Option.bind_eq_some_iff] at e;obtain⟨ow,_,e⟩:=e;have e:=Gc e;simp only[Prod.mk.injEq] at e;simp only
  split
  ·rw[<- e.1];exact h
  ·rfl
 ·rfl
end
section
variable {prog:Program} {w:World} {A:Around} {E:Value→Shared→Prop} {s:Shared}
def pI{h:Heap}{o:Obj}{es es':Array (Int×Value)}{ep:Nat}{t':SetTable}(ho:h.get? a=some o)(hd:o.data=.set es ep t):(h.update a (Obj.putSet es' t')).get? a=some { o with data:=.set es' (ep+1) t' }:=by
 have:=Heap.get?_update_self (Obj.putSet es' t') ho (by rw[putSet_of es' t' hd];rfl)
 rw[putSet_of es' t' hd] at this;exact this
def yJ{es:Array (Int×Value)}{ep:Nat}{tk:Tok}{Q:Bool->Shared->Prop}(hS:TxS prog w s.heap a es ep t)(hroom:es.size+1<scanBound)
  (h:∀b h' es' ep' t',Heap.SameBut a s.heap h'->TxS prog w h' a es' ep' t'->(∀y,y∈es'.toList.map (λe=>sOf e.2)↔y∈es.toList.map (λe=>sOf e.2)\/y=k)->es'.size<=es.size+1->Q b { s with heap:=h' }) :
  wpAny (model prog w) A (setAddHashed a (.str k tk) ((PySem.strKind prog w).hash k)) Q E s:=by
 obtain⟨⟨o,ho,hex,hd⟩,hel,nd,hb,hf,led,pl⟩:=id hS;have hkey:=PySem.strKind_is prog w k tk;have hsc:(Value.str k tk).scannable=true:=rfl;unfold setAddHashed setAddHashedIn;refine GX (FT (G1 ho hd hf ?_))
 dsimp only
 rw[byScan_of hsc hb hel];simp only[↓reduceIte];unfold setAddByScan;refine FT (FT (IM (FT (wpAny_setScan_of hkey ho hd hf hel ?_))))
 cases hr:List.findIdx? (λe=>(PySem.strKind prog w).is k e.2) es.toList with
 | some j =>
  dsimp only
  obtain⟨hj,hpj,_⟩:=List.findIdx?_eq_some_iff_getElem.mp hr;refine FY (FY (h false s.heap es ep t (Heap.SameBut.refl a s.heap) hS (λy=>⟨.inl,λz=>z.elim id λe=>?_⟩) (by omega)));rw[e];exact FV.mpr ⟨_,GZ hj,(CN hel (GZ hj)).mp hpj⟩
 | none =>
  dsimp only
  have hno:k∉es.toList.map λe=>sOf e.2:=λhm=>by
   obtain⟨e,he,ek⟩:=FV.mp hm;have:=List.findIdx?_eq_none_iff.mp hr e he;rw[(CN hel he).mpr ek] at this
   cases this
  have hperm:=layNew_perm t es ((PySem.strKind prog w).hash k) (.str k tk)
  have hfits:=layNew_fits t es ((PySem.strKind prog w).hash k) (.str k tk)
  have hled:=rf (t:=t) (es:=es) (n:=(PySem.strKind prog w).hash k) (x:=.str k tk)
  generalize layNew t es ((PySem.strKind prog w).hash k) (.str k tk)=L at hperm hfits hled ⊢
  obtain⟨es1,t1,wasDummy,gave⟩:=L
  dsimp only at hperm hfits hled ⊢
  rw[Array.toList_push] at hperm;have hel1:ElemsOf (PySem.strKind prog w) es1.toList:=λe he=>by
   rcases F9.mp (hperm.mem_iff.mp he) with he | he
   ·exact hel e he
   ·rw[F6.mp he];exact⟨⟨k,hkey,rfl⟩,hsc⟩
  have hm1:(es1.toList.map λe=>sOf e.2).Perm ((es.toList.map λe=>sOf e.2)++[k]):=(hperm.map _).trans (by rw[Gj];exact Ir _)
  have hn1:(es1.toList.map λe=>sOf e.2).Nodup:=hm1.nodup_iff.mpr (by
   rw[HK]
   exact⟨nd,by simp,λx hx y hy e=>by rw[F6.mp hy] at e;exact hno (e ▸ hx)⟩)
  have hsz:es1.size=es.size+1:=by rw[<- GE,hperm.length_eq,F1,GE];rfl
  have hmem:∀ {es2:Array (Int×Value)},es2.toList.Perm es1.toList->∀y,y∈es2.toList.map (λe=>sOf e.2)↔y∈es.toList.map (λe=>sOf e.2)\/y=k:=λhp y=>by
   rw[((hp.map λe=>sOf e.2).trans hm1).mem_iff,F9,F6]
  have gw:∀(b:Bool) {s₁:Shared} {Q':Unit->Shared->Prop},Q' () s₁->wpAny (model prog w) A (match b with | true=>rule "set.scan.the-table-gave-way" | false=>pure ()) Q' E s₁:=λb s₁ Q' q=>by
   cases b
   ·exact FY q
   ·exact IM q
  refine FT (gw _ ?_)
  have tail:∀t2:SetTable,t2.fits es1.size=true->t2.led=t.led->t2.plain=false->wpAny (model prog w) A (do
    storeSet a es1 t2
    if (!wasDummy&&t2.tooFull)=true then do
      (match (relayAll t2 es1 (SetTable.grown es1.size)).2.2 with | true=>rule "set.scan.the-table-gave-way" | false=>pure ())
      storeSet a (relayAll t2 es1 (SetTable.grown es1.size)).1 (relayAll t2 es1 (SetTable.grown es1.size)).2.1
      pure (some true)
     else pure (some true)) (λr s'=>wpAny (model prog w) A (match r with | some added=>pure added | none=>setAddHashedIn a (.str k tk) ((PySem.strKind prog w).hash k) 99999) Q E s') E s:=λt2 f2 l2 p2=>by
   refine FT (wpAny_storeSet_of ho hd ?_ (fits_of_scanBound (by omega)));have ho1:=pI (es':=es1) (t':=t2) ho hd;have sb1:=HQ s.heap a (Obj.putSet es1 t2)
   split
   ·have hp:=relayAll_perm t2 es1 (SetTable.grown es1.size)
    have hfr:=relayAll_fits t2 es1 (SetTable.grown es1.size)
    have hl2:=ug (t:=t2) (es:=es1) (n:=SetTable.grown es1.size)
    have hp2:=nT (t:=t2) (es:=es1) (n:=SetTable.grown es1.size) p2
    generalize relayAll t2 es1 (SetTable.grown es1.size)=Rl at hp hfr hl2 hp2 ⊢
    obtain⟨es2,t3,g2⟩:=Rl
    dsimp only at hp hfr hl2 hp2 ⊢
    have hsz2:es2.size=es1.size:=by rw[<- GE,hp.length_eq,GE]
    refine FT (gw _ ?_);refine FT (wpAny_storeSet_of ho1 rfl ?_ (fits_of_scanBound (by omega)));refine FY (FY (h true _ es2 (ep+1+1) t3 (sb1.trans (HQ _ a _)) ⟨⟨_,pI ho1 rfl,hex,rfl⟩,λe he=>hel1 e (hp.mem_iff.mp he),((hp.map λe=>sOf e.2).nodup_iff).mpr hn1,by omega,hfr,by rw[hl2,l2,led],λ_=>hp2⟩ (hmem hp) (by omega)))
   ·exact FY (FY (h true _ es1 (ep+1) t2 sb1 ⟨⟨_,ho1,hex,rfl⟩,hel1,hn1,by omega,f2,by rw[l2,led],λ_=>p2⟩ (hmem (Ir _)) (by omega)))
  split
  ·rename_i hpl
   refine FT ?_;rw[hashByValue_scannable 8 hsc];refine FY ?_;exact tail { t1 with plain:=false } (SetTable.fits_plain_off hfits) hled rfl
  ·rename_i hpl
   refine FT (FY ?_);simp only[↓reduceIte];exact tail t1 hfits hled (by simpa using hpl)
end
section
variable {prog:Program} {w:World} {A:Around} {R:Result→Shared→Prop} {I:Addr} {fp wr:List Addr} {G:Array GenState→Array GenState→Prop} {n:Nat} {P:Nat→Value→Prop} {St:Nat→Shared→Prop}
def wf(W:WalksS prog w A.in1 I fp wr G n P St)(S:Addr)(hSf:S∉fp)(val:Nat->Str)(hval:∀i v,P i v->∃t,v=.str (val i) t)(hb:n+1<scanBound) :
  ∀(k i:Nat) (s:Shared) (es:Array (Int×Value)) (ep:Nat) (t:SetTable),n-i=k->i<=n->St i s->TxS prog w s.heap S es ep t->(∀y,y∈es.toList.map (λe=>sOf e.2)↔∃j,j<i/\y=val j)->es.size<=i ->
   (∀s' es' ep' t',Moved (S::wr) G s s'->TxS prog w s'.heap S es' ep' t'->(∀y,y∈es'.toList.map (λe=>sOf e.2)↔∃j,j<n/\y=val j)->es'.size<=n->R (.ok (.ret .none)) s') ->
   codeAny (model prog w) A (.builtin "set.update.loop" ⟨[.ref S,.ref I],[]⟩) R s:=by
 have hSw:S∉wr:=λh=>hSf (W.sub _ h)
 have hsub:∀b∈wr,b∈S::wr:=λb hb=>FU _ hb
 intro k
 induction k with
 | zero =>
  intro i s es ep t hk hi hst hS hy hz hR;obtain rfl:i=n:=by omega
  refine HG F.entry_set_update_loop ?_;rw[Hm F.plain_set_update_loop _];refine FT (m:=pyNext (.ref I)) (W.done s _ _ hst λs' hm=>?_);exact FY (hR s' es ep t (hm.mono hsub) (hS.keep λo e=>hm.heap S o hSw e) hy hz)
 | succ k ih =>
  intro i s es ep t hk hi hst hS hy hz hR;have hlt:i<n:=by omega
  refine HG F.entry_set_update_loop ?_;rw[Hm F.plain_set_update_loop _];refine FT (m:=pyNext (.ref I)) (W.item i s _ _ hlt hst λv s' hP hst' hm=>?_);obtain⟨u,rfl⟩:=hval i v hP;have hS':TxS prog w s'.heap S es ep t:=hS.keep λo e=>hm.heap S o hSw e;refine FT (m:=holding [Value.str (val i) u] (setAdd S (.str (val i) u))) (GX ?_);unfold setAdd;refine GX (FT ((PySem.strKind prog w).pyHash (k:=val i) (PySem.strKind_is _ _ _ _) ?_));refine yJ (s:={ s' with toks:=s'.toks+1 }) hS' (by omega) λb h' es' ep' t' hsb hS2 hy2 hz2=>?_;refine FY ⟨plainId_quiet F.plain_set_update_loop _,ih (i+1) _ es' ep' t' (by omega) hlt (W.frame _ s' _ _ hst' (IG _) λb hb o e=>?_) hS2 (λy=>?_) (by omega) λs'' es3 ep3 t3 hm3 hS3 hy3 hz3=>?_⟩
  ·rw[hsb.2 b (λh:b=S=>hSf (by rw[<- h];exact hb))];exact e
  ·rw[hy2 y,hy y]
   constructor
   ·rintro(⟨j,hj,e⟩ | e)
    ·exact⟨j,by omega,e⟩
    ·exact⟨i,by omega,e⟩
   ·rintro⟨j,hj,e⟩
    by_cases hji:j<i
    ·exact .inl ⟨j,hji,e⟩
    ·have:j=i:=by omega
     exact .inr (this ▸ e)
  ·refine hR s'' es3 ep3 t3 (Moved.trans W.gtrans ((hm.mono hsub).then_heap (IG _) λb o hb e=>?_) hm3) hS3 hy3 hz3;rw[hsb.2 b (λh:b=S=>hb (by rw[h];exact FW))];exact e
end
section
variable {prog:Program} {w:World} {A:Around} {E:Value→Shared→Prop} {s:Shared}
abbrev tD(w:World):Obj:={ cls:=.type "set",dict:=none,data:=.set #[] 0 (.fresh 0 0 (!vm w)) }
def B1(x:Value){Q:Value->Shared->Prop}(h:Q (.ref s.heap.objs.size) { s with heap:=s.heap.push (tD w) }):codeAny (model prog w) A (.call (.builtin "set.__new__") ⟨[.type "set",x],[]⟩) (wants Q E) s:=by
 refine codeAny_of_tree ?_;refine FT (m:=checkBuiltinCall "set.__new__" ⟨[.type "set",x],[]⟩) (wpAny_of_eq (F.newCall_set_1 x) (FY ⟨plainId_quiet F.plain_set_new _,HG F.entry_set_new ?_⟩));rw[Hm F.plain_set_new _];unfold Builtin.«set.__new__» Builtin.Frozenset.newClass;have hsub:=sub_set_self;obtain⟨hp,g,d,tk,os⟩:=s
 dsimp only
 wp_walk
 refine wpAny_askSetting (FY ?_)
 dsimp only
 simp only[newObj];exact FT (wpAny_alloc (FY (FY h)))
def vK{h:Heap}(e:h.get? a=some (tD w)):TxS prog w h a #[] 0 (.fresh 0 0 (!vm w)) :=
 ⟨⟨_,e,⟨rfl,rfl,rfl⟩,rfl⟩,λ_ h=>(nomatch h),List.nodup_nil,by decide,rfl,rfl,λh=>absurd rfl h⟩
set_option maxRecDepth 100000 in
set_option maxHeartbeats 3200000 in
def vX{l:Addr}{items:Array Value}{ss:List Str}{Q:Value->Shared->Prop}(hh:A.handled=none)(hl:s.heap.IsList l items)(hi:StrsAre items.toList ss)(hb:items.size+1<scanBound)
  (h:∀h' tk es ep t,TxS prog w h' s.heap.objs.size es ep t->(∀y,y∈es.toList.map (λe=>sOf e.2)↔y∈ss)->es.size<=ss.length->(∀b o,s.heap.get? b=some o->h'.get? b=some o)->Q (.ref s.heap.objs.size) { s with heap:=h',toks:=tk }) :
  wpAny (model prog w) A (call (.type "set") [.ref l]) Q E s:=by
 have hlen:items.size=ss.length:=by rw[<- GE];exact hi.length
 obtain⟨c,tl,hmro⟩:=F.called_set.mro;have hmade:=F.called_set.made;have hsub:=F.called_set.sub;refine wpAny_call (codeAny_of_tree ?_);show wpAny _ _ (callAny (.type "set") ⟨[.ref l],[]⟩) _ _ _;refine FY ⟨Code.quiet_builtin _ (by decide +kernel),HG F.entry_type_call ?_⟩;rw[Around.under_plain (weight_type_call_type "set" [.ref l] []) rfl];have h1:=F.called_set.notType;have h2:=F.called_set.canCreate;have hct:=F.typeCall_set_1 (.ref l)
 repeat (any_goals (first | assumption | wp_step))
 refine Iu (B1 (.ref l) (E:=E) (Q:=λobj s₁=>obj=.ref s.heap.objs.size/\s₁={ s with heap:=s.heap.push (tD w) }) ⟨rfl,rfl⟩) λr s₁ hr=>?_
 cases r with
 | error e=>exact hr
 | ok fl =>
  cases fl with
  | ret obj =>
   obtain⟨rfl,rfl⟩:=hr;have hS:(s.heap.push (tD w)).get? s.heap.objs.size=some (tD w):=Heap.get?_push_size _ rfl;have hT:Shared.TypeIs { s with heap:=s.heap.push (tD w) } (.ref s.heap.objs.size) "set":=⟨_,hS,rfl⟩;have hli:=F.called_set.init.lookup;have hbi:=F.called_set.init.bind (.ref s.heap.objs.size)
   repeat (any_goals (first | assumption | wp_step))
   refine Iu (codeAny_call_builtin (R:=wants (λr s₂=>r=.none/\∃h' tk es ep t,s₂={ s with heap:=h',toks:=tk }/\TxS prog w h' s.heap.objs.size es ep t/\(∀y,y∈es.toList.map (λe=>sOf e.2)↔y∈ss)/\es.size<=ss.length/\(∀b o,s.heap.get? b=some o->h'.get? b=some o)) E) F.called_set.init.plain F.entry_set_init (check_set_init_1 hT ?_)) λr₂ s₂ hr₂=>?_
   ·obtain⟨ol,hol,hcl,nl,hdl⟩:=hl;obtain⟨ocls,odict,odata,oslots⟩:=ol;simp only at hcl hdl;subst hcl;subst hdl;have hol':(s.heap.push (tD w)).get? l=some { cls:=.type "list",dict:=odict,data:=.seq items nl,slots:=oslots }:=Heap.get?_push_of_some _ hol;have hsls:=F.sub_list_set;have hslf:=F.sub_list_frozenset;have hne:(Value.type "list"==Value.type "dict")=false:=by decide
    have hl1:(s.heap.push (tD w)).IsList l items:=⟨_,hol',rfl,nl,rfl⟩
    unfold Builtin.«set.__init__» noKeywords Builtin.Frozenset.updateFrom;generalize hPI:pyIter=PI
    wp_walk
    subst hPI;refine HI hl1 (FT (wpAny_runValue ?_));have hlS:l<s.heap.objs.size:=Gg hol;have hh3:A.in1.in1.in1.handled=none:=by simp[hh]
    have hneI:l≠(s.heap.push (tD w)).objs.size:=by rw[G2];exact Gw (Hr hlS)
    have hSf:s.heap.objs.size∉[(s.heap.push (tD w)).objs.size,l]:=by
     rw[G2];simp only[List.mem_cons,List.not_mem_nil,or_false,not_or];exact⟨Gw (Iz _),HB hlS⟩
    have hval:∀(i:Nat) (v:Value),items[i]?=some v->∃t,v=.str ((λi=>ss.getD i ⟨#[]⟩) i) t:=λi v hv=>by
     have hv:items.toList[i]?=some v:=by rw[Array.getElem?_toList];exact hv
     have:∀ {us:List Value} {ss:List Str},StrsAre us ss->∀(i:Nat) (v:Value),us[i]?=some v->∃t,v=.str (ss.getD i ⟨#[]⟩) t:=by
      intro us ss hu
      induction hu with
      | nil=>intro i v e;cases e
      | cons x t _ ih =>
       intro i v e
       cases i with
       | zero=>cases e;exact⟨t,rfl⟩
       | succ i=>exact ih i v (by simpa using e)
     exact this hi i v hv
    refine wf ((Walks.list hh3 _ l hneI items).toS) s.heap.objs.size hSf (λi=>ss.getD i ⟨#[]⟩) hval hb (items.size-0) 0 _ #[] 0 _ (by omega) (G5 _)
     ⟨⟨_,Heap.get?_push_size _ rfl,rfl,rfl⟩,(hl1.push _)⟩ (vK (Heap.get?_push_of_some _ hS)) (λy=>⟨λh=>(nomatch h),λ⟨j,hj,_⟩=>absurd hj (Nat.not_lt_zero _)⟩) (F3 _) ?_
    intro s' es' ep' t' hm hS' hy hz;obtain⟨h',g',d',tk',os'⟩:=s';have eg:g'=s.gens:=hm.gens;have ed:d'=s.drawn:=hm.drawn;have eo:os'=s.os:=hm.os;subst eg;subst ed;subst eo;show wpAny _ _ _ _ _ _;refine FY (FY ⟨rfl,h',tk',es',ep',t',rfl,hS',λy=>?_,by omega,λb o e=>?_⟩)
    ·rw[hy y]
     constructor
     ·rintro⟨j,hj,rfl⟩;have:j<ss.length:=by omega
      rw[List.getD_eq_getElem?_getD,List.getElem?_eq_getElem this];exact GZ this
     ·intro hy;obtain⟨j,hj,e⟩:=List.getElem_of_mem hy;exact⟨j,by omega,by rw[List.getD_eq_getElem?_getD,List.getElem?_eq_getElem hj];exact e.symm⟩
    ·have hb:=Gg e
     have hb1:b≠s.heap.objs.size:=Gw hb
     have hb2:b≠(s.heap.push (tD w)).objs.size:=by rw[G2];exact Gw (Hr hb)
     exact hm.heap b o (by simp only[List.mem_cons,List.not_mem_nil,or_false,not_or];exact⟨hb1,hb2⟩) (Heap.get?_push_of_some _ (Heap.get?_push_of_some _ e))
   ·cases r₂ with
    | error e=>exact hr₂
    | ok fl₂ =>
     cases fl₂ with
     | ret r =>
      obtain⟨rfl,h',tk,es,ep,t,rfl,hS',hy,hz,hk'⟩:=hr₂
      repeat (any_goals (first | assumption | wp_step))
      exact h _ _ _ _ _ hS' hy hz hk'
     | _=>exact hr₂.elim
  | _=>exact hr.elim
end
end DL
namespace DL
open PySem PySem.Spec PyProof.Rows L2
namespace FS
def slot_next:Slot "set_iterator" "__next__" "set_iterator.__next__" :=
 .of (owner:="set_iterator") (n:="__next__") (by rw[typeLookup_type,builtinLookup_eq_fast];kernel_rfl) (by decide +kernel) (by decide +kernel) (by decide +kernel) (by first | exact .inl (by decide +kernel) | exact .inr (by decide +kernel)) (by rw[isSubtype_type];kernel_rfl)
def entry_next:entryFor table "set_iterator.__next__"=some Builtin.«set_iterator.__next__»:=entryFor_of_tree (by kernel_rfl)
def pD:Manifest.owners.lookup (String.ofList ['r','o','t','a','r','e','t','i','_','t','e','s'].reverse)=some Manifest.sig_set_iterator:=by kernel_rfl
def args_next(a:Value):argsOk "set_iterator.__next__" ⟨[a],[]⟩:=by
 unfold argsOk;rw[signature?_of (id:="set_iterator.__next__") (n:=['_','_','t','x','e','n','_','_']) (o:=['r','o','t','a','r','e','t','i','_','t','e','s']) (by kernel_rfl) pD]
 kernel_rfl
def slot_self:Slot "set_iterator" "__iter__" "set_iterator.__iter__" :=
 .of (owner:="set_iterator") (n:="__iter__") (by rw[typeLookup_type,builtinLookup_eq_fast];kernel_rfl) (by decide +kernel) (by decide +kernel) (by decide +kernel) (by first | exact .inl (by decide +kernel) | exact .inr (by decide +kernel)) (by rw[isSubtype_type];kernel_rfl)
def entry_self:entryFor table "set_iterator.__iter__"=some Builtin.«dict_keyiterator.__iter__» :=
 entryFor_alias (id':="dict_keyiterator.__iter__") (by kernel_rfl) (by first | rfl | decide +kernel | (unfold String.splitOn;simp +decide [String.splitOnAux])) (by decide +kernel) (by kernel_rfl)
def args_self(a:Value):argsOk "set_iterator.__iter__" ⟨[a],[]⟩:=by
 unfold argsOk;rw[signature?_of (id:="set_iterator.__iter__") (n:=['_','_','r','e','t','i','_','_']) (o:=['r','o','t','a','r','e','t','i','_','t','e','s']) (by kernel_rfl) pD]
 kernel_rfl
def entry_iter:entryFor table "set.__iter__"=some Builtin.«frozenset.__iter__» :=
 entryFor_alias (id':="frozenset.__iter__") (by kernel_rfl) (by first | rfl | decide +kernel | (unfold String.splitOn;simp +decide [String.splitOnAux])) (by decide +kernel) (by kernel_rfl)
end FS
def gi{α:Type}:∀ {l:List α} {i:Nat} (h:i<l.length),(l[i]::l.eraseIdx i).Perm l
 | x::l,0,h=>Ir _
 | x::l,i+1,h=>by
  have h':i<l.length:=Nat.lt_of_succ_lt_succ h
  show (l[i]::x::l.eraseIdx i).Perm (x::l)
  exact(List.Perm.swap _ _ _).trans (List.Perm.cons _ (gi h'))
section
variable {prog:Program} {w:World} {A:Around} {E:Value→Shared→Prop} {s:Shared}
def mw{n:Nat}{Q:Nat->Shared->Prop}(hn:n≠0)(h:∀i d,i<n->Q i { s with drawn:=d }):wpAny (model prog w) A (choose .order n) Q E s:=λΓ p hΓ=>by
 show Sem.wp (model prog w) Γ (.choose .order n _) _ _ p s
 rw[Sem.wp_choose];exact⟨hn,h _ _ (Nat.mod_lt _ (Nat.pos_of_ne_zero hn))⟩
def gu{α:Type}:∀(n:Nat) (xs:List α) {s:Shared} {Q:List α->Shared->Prop},n=xs.length->(∀ys d,ys.Perm xs->Q ys { s with drawn:=d })->wpAny (model prog w) A (drawOrder n xs) Q E s
 | 0,xs,s,Q,e,h=>by
  have:xs=[]:=Hb.mp e.symm
  subst this;unfold drawOrder;exact FY (h [] s.drawn (Ir _))
 | n+1,[],s,Q,e,h=>by cases e
 | n+1,x::xs,s,Q,e,h=>by
  unfold drawOrder;refine FT (mw (by simp) λi d hi=>?_);have hi':i<(x::xs).length:=hi;rw[List.getElem?_eq_getElem hi']
  dsimp only
  refine FT (gu n ((x::xs).eraseIdx i) (by rw[List.length_eraseIdx_of_lt hi'];omega) λys d' hp=>FY (h _ d' ?_));exact(List.Perm.cons _ hp).trans (gi hi')
end
def iZ{α:Type}(next:Nat->Nat):∀(fuel k:Nat) (left:List α) (out:Array α),fuel=left.length->(pickOrder.go next fuel k left out).toList.Perm (out.toList++left)
 | 0,k,left,out,e=>by
  have:left=[]:=Hb.mp e.symm
  subst this;unfold pickOrder.go;rw[GH]
 | n+1,k,[],out,e=>by cases e
 | n+1,k,x::left,out,e=>by
  unfold pickOrder.go;have hi:next k % (x::left).length<(x::left).length:=Nat.mod_lt _ (HY _);rw[List.getElem?_eq_getElem hi]
  dsimp only
  refine(iZ next n (k+1) _ _ (by rw[List.length_eraseIdx_of_lt hi];omega)).trans ?_;rw[Array.toList_push,Il];exact List.Perm.append_left _ (gi hi)
def Bi(h:Heap)(I S:Addr)(fst:Value)(i n ep:Nat):Prop:=h.get? I=some { cls:=.type "set_iterator",dict:=none,data:=.fields #[fst,rawInt i,.ref S,rawInt n,rawInt ep],slots:=#[] }
inductive Rd3(w:World)(S:Addr)(es:Array (Int×Value))(ep:Nat)(t:SetTable):(Heap->Nat->Value->Prop)->List Value->Prop
 | text (hb:vm w=true):Rd3 w S es ep t (λ_ _ f=>f=rawInt 0) ((pickOrder (w.params.setOrder S ep) es).toList.map (·.2))
 | drawn (hb:vm w=false) (hs:es.size≠0) (T:Addr) (ps:List Nat) (hp:ps.Perm (List.range es.size)):Rd3 w S es ep t (λh _ f=>f=.ref T/\h.get? T=some { cls:=.type "tuple",data:=.seq (ps.map λ(i:Nat)=>rawInt i).toArray }) (ps.filterMap λi=>(es[i]?).map (·.2))
 | one (hb:vm w=false) (hs:es.size<=1):Rd3 w S es ep t (λ_ i f=>f=rawInt (if i=0 then 0 else ((t.place[0]?).getD 0+1:Nat))) (es.toList.map (·.2))
def fO{α β:Type}{f:Nat->Option β}{ps:List Nat}(h:∀p∈ps,(f p).isSome=true)(i:Nat):(ps.filterMap f)[i]?=(ps[i]?).bind f:=by
 induction ps generalizing i with
 | nil=>simp
 | cons p ps ih =>
  have hp:=h p (FW ..)
  cases e:f p with
  | none=>rw[e] at hp;cases hp
  | some x =>
   rw[GK,e]
   cases i with
   | zero=>simp[e]
   | succ i=>simpa using ih (λq hq=>h q (FU _ hq)) i
def kd(xs:Array Nat):SetTable.below xs 0=0:=by
 unfold SetTable.below;have:∀fuel hi,SetTable.below.go xs 0 fuel 0 hi=0:=by
  intro fuel
  induction fuel with
  | zero=>intro hi;rfl
  | succ n ih =>
   intro hi;unfold SetTable.below.go
   split
   ·rw[Gb (Nat.not_lt_zero _)];exact ih _
   ·rfl
 exact this _ _
def uu{xs:Array Nat}{j:Nat}(h:xs.size=1)(e:xs[0]?=some j):SetTable.below xs (j+1)=1:=by
 unfold SetTable.below;rw[h];unfold SetTable.below.go;have:xs.getD ((0+1) / 2) (j+1)=j:=by
  show xs.getD 0 (j+1)=j
  rw[Array.getD_eq_getD_getElem?,e];rfl
 rw[Gd (by decide)];simp only;rw[this,Gd (Iz _)];rfl
section
variable {prog:Program} {w:World} {A:Around} {E:Value→Shared→Prop} {s:Shared} {I S:Addr} {es:Array (Int×Value)} {ep:Nat} {t:SetTable} {F:Heap→Nat→Value→Prop} {vs:List Value}
def lg(R:Rd3 w S es ep t F vs):vs.length=es.size:=by
 cases R with
 | text hb =>
  rw[FR];have:=(iZ (w.params.setOrder S ep) es.size 0 es.toList #[] (by simp)).length_eq;unfold pickOrder;simpa using this
 | drawn hb hs T ps hp =>
  have h:∀p∈ps,((es[p]?).map (·.2)).isSome=true:=λp h=>by
   have:=GW.mp (hp.mem_iff.mp h)
   rw[Array.getElem?_eq_getElem this];rfl
  have e:=hp.length_eq
  rw[GN] at e;rw[<- e];clear e hp
  induction ps with
  | nil=>rfl
  | cons p ps ih =>
   have hp:=h p (FW ..)
   cases e:(es[p]?).map (·.2) with
   | none=>rw[e] at hp;cases hp
   | some x=>rw[GK,e,F8,F8,ih λq hq=>h q (FU _ hq)]
 | one hb hs=>rw[FR,GE]
def wL(R:Rd3 w S es ep t F vs):vs.Perm (es.toList.map (·.2)):=by
 cases R with
 | text hb =>
  refine List.Perm.map _ ?_;have:=iZ (w.params.setOrder S ep) es.size 0 es.toList #[] (by simp);unfold pickOrder;simpa using this
 | drawn hb hs T ps hp =>
  refine(hp.filterMap _).trans ?_;have:(List.range es.size).filterMap (λi=>(es[i]?).map (·.2))=es.toList.map (·.2):=by
   apply List.ext_getElem?;intro i;rw[fO (α:=Nat) (λp h=>by rw[Array.getElem?_eq_getElem (GW.mp h)];rfl)];rw[List.getElem?_map]
   by_cases hi:i<es.size
   ·rw[List.getElem?_range hi,Array.getElem?_toList];rfl
   ·rw[List.getElem?_eq_none (l:=List.range es.size) (by rw[GN];omega),List.getElem?_eq_none (l:=es.toList) (by rw[GE];omega)];rfl
  rw[this]
 | one hb hs=>exact Ir _
def kf(h:t.fits es.size=true):t.place.size=es.size:=by
 unfold SetTable.fits at h;simp only[Bool.and_eq_true,beq_iff_eq] at h;exact h.1
def fg{Q:Bool->Shared->Prop}(h:Q (vm w) s):wpAny (model prog w) A setsByText Q E s:=by
 unfold setsByText;exact FT (wpAny_askSetting (FY h))
def mr(X:TxS prog w s.heap S es ep t)(hb:vm w=true){sl g:Nat}{Q:Option (Value×Nat)->Shared->Prop}(h:Q (((pickOrder (w.params.setOrder S ep) es)[g]?).map λe=>(e.2,sl)) s):wpAny (model prog w) A (setNext S sl g ep) Q E s:=by
 obtain⟨o,ho,hex,hd⟩:=X.ob;unfold setNext;refine FT (G1 ho hd X.fit (FT (fg ?_)));rw[hb,Gd rfl,Gb (by simp)];unfold setWalk;refine FT (FT (G1 ho hd X.fit (FT (fg ?_))));rw[hb,Gd rfl];exact FT (wpAny_askSetting (FY (FY h)))
def pJ(X:TxS prog w s.heap S es ep t)(hb:vm w=false)(hs:es.size<=1){sl g:Nat}{Q:Option (Value×Nat)->Shared->Prop}
  (h:Q (match es[SetTable.below t.place sl]?,t.place[SetTable.below t.place sl]? with | some (_,x),some j=>some (x,j+1) | _,_=>none) s):wpAny (model prog w) A (setNext S sl g ep) Q E s:=by
 obtain⟨o,ho,hex,hd⟩:=X.ob;have hl:t.led=true:=by rw[X.led,hb];rfl
 unfold setNext;refine FT (G1 ho hd X.fit (FT (fg ?_)));rw[hb,Gb F0]
 dsimp only
 have hdr:¬ (!t.plain&&decide (es.size>1))=true:=by rw[Gx (by omega),Bool.and_false];exact F0
 refine Hs (λz=>absurd z hdr) λ_=>FT ?_;show wpAny _ _ (if (!t.led && !es.isEmpty)=true then unsupported "set:maker-not-led" else pure ()) _ _ _;rw[hl,Gb (by simp)];exact FY (FY h)
set_option maxHeartbeats 1000000 in
def DX(R:Rd3 w S es ep t F vs)(X:TxS prog w s.heap S es ep t){i:Nat}{f v:Value}(hI:Bi s.heap I S f i es.size ep)(hF:F s.heap i f)(hv:vs[i]?=some v){Q:Option Value->Shared->Prop}
  (q:∀h' f',Bi h' I S f' (i+1) es.size ep->(∀h'':Heap,(∀b o,b≠I->s.heap.get? b=some o->h''.get? b=some o)->F h'' (i+1) f')->Heap.SameBut I s.heap h'->Q (some v) { s with heap:=h' }) :
  wpAny (model prog w) A (pyNext (.ref I)) Q E s:=by
 obtain⟨o,ho,hex,hd⟩:=X.ob;have hT:s.TypeIs (.ref I) "set_iterator":=⟨_,hI,rfl⟩;have hIS:S≠I:=λe=>by rw[e,hI] at ho;cases ho;cases hd
 have hlen:=lg R
 have hi:i<es.size:=by rw[<- hlen];exact(List.getElem?_eq_some_iff.mp hv).1
 unfold pyNext;refine FT (wpAny_attempt (wpAny_callSpecial?_slot (name:=Str.ofString "__next__") hT FS.slot_next (GY FS.slot_next hT FS.entry_next ?_ (FS.args_next _))));unfold Builtin.«set_iterator.__next__»;refine FT (m:=slotArgs "__next__" 0 _) (FY ?_);refine FT (wpAny_fieldsOf hI rfl ?_)
 dsimp only
 refine FT (m:=setEntries S) (FT (G1 ho hd X.fit (FY ?_)));rw[Gb (by simp)]
 cases R with
 | text hb =>
  subst hF;refine FT (m:=setNext S (0:Int).toNat (i:Int).toNat (ep:Int).toNat) (mr X hb ?_);have e:(pickOrder (w.params.setOrder S ep) es)[(i:Int).toNat]?=(pickOrder (w.params.setOrder S ep) es).toList[i]?:=by rw[Array.getElem?_toList];rfl
  rw[List.getElem?_map] at hv;rw[e]
  cases z:(pickOrder (w.params.setOrder S ep) es).toList[i]? with
  | none=>rw[z] at hv;cases hv
  | some p =>
   rw[z] at hv;obtain rfl:p.2=v:=Gc hv;refine FT (GC hI (by simp) λh1 e1 s1=>FT (GC e1 (by simp) λh2 e2 s2=>FY ⟨_,rfl,FY (q h2 (rawInt 0) e2 (λ_ _=>rfl) (s1.trans s2))⟩))
 | drawn hb hs T ps hp =>
  obtain⟨rfl,hT'⟩:=hF;have hTI:T≠I:=λe=>by rw[e,hI] at hT';have h9:=Hf Obj.cls (Gc hT');simp at h9
  refine FT (m:=seqItems? (.ref T)) (G6 hT' rfl ?_)
  dsimp only
  have hpl:ps.length=es.size:=by rw[hp.length_eq,GN]
  have hpi:i<ps.length:=by omega
  have e:((ps.map λ(i:Nat)=>rawInt i).toArray)[(i:Int).toNat]?=some (rawInt (ps[i]:Nat)):=by
   show ((ps.map λ(i:Nat)=>rawInt i).toArray)[i]?=_
   rw[List.getElem?_toArray,List.getElem?_map,List.getElem?_eq_getElem hpi];rfl
  rw[e];have hin:ps[i]<es.size:=GW.mp (hp.mem_iff.mp (GZ hpi));have hvv:v=es[ps[i]].2:=by
   rw[fO (α:=Nat) (λp h=>by rw[Array.getElem?_eq_getElem (GW.mp (hp.mem_iff.mp h))];rfl),List.getElem?_eq_getElem hpi] at hv;have hv:(es[ps[i]]?).map (·.2)=some v:=hv;rw[Array.getElem?_eq_getElem hin] at hv;exact(Gc hv).symm
  refine FT (m:=setNextDrawn S ((ps[i]:Nat):Int).toNat (ep:Int).toNat) ?_;unfold setNextDrawn;refine FT (G1 ho hd X.fit ?_)
  dsimp only
  rw[Gb (by simp)];rw[show es[((ps[i]:Nat):Int).toNat]?=some es[ps[i]] from Array.getElem?_eq_getElem hin];refine FY ?_;refine FT (GC hI (by simp) λh1 e1 s1=>FY ⟨_,rfl,FY ?_⟩);show Q (some es[ps[i]].2) _;rw[<- hvv];exact q h1 (.ref T) e1 (λh'' k=>⟨rfl,k _ _ hTI hT'⟩) s1
 | one hb hs =>
  have hz:i=0:=by omega
  subst hz;subst hF;refine FT (m:=setNext S (0:Int).toNat (0:Int).toNat (ep:Int).toNat) (pJ X hb hs ?_);rw[show (0:Int).toNat=0 from rfl,kd];have hps:=kf X.fit;rw[Array.getElem?_eq_getElem (show 0<es.size by omega),Array.getElem?_eq_getElem (show 0<t.place.size by omega)];rw[List.getElem?_map,Array.getElem?_toList,Array.getElem?_eq_getElem (show 0<es.size by omega)] at hv;obtain rfl:es[0].2=v:=Gc hv;refine FT (GC hI (by simp) λh1 e1 s1=>FT (GC e1 (by simp) λh2 e2 s2=>FY ⟨_,rfl,FY (q h2 (rawInt ((t.place[0]?).getD 0+1:Nat)) ?_ (λ_ _=>rfl) (s1.trans s2))⟩));rw[Array.getElem?_eq_getElem (show 0<t.place.size by omega)];exact e2
def eO{α:Type}{Q:α->Shared->Prop}(a0:A.handled=none)(q:∀h' e,(∀b o,s.heap.get? b=some o->h'.get? b=some o)->(∃o,h'.get? e=some o/\o.cls=.type "StopIteration")->E (.ref e) { s with heap:=h' }) :
  wpAny (model prog w) A (do raiseNew (α:=α) (<- newExc (.type "StopIteration") [])) Q E s:=by
 refine FT ?_;simp only[newExc,newTuple];refine FT (GR ?_ (by size_fits));refine FT (m:=firstArgMember _ _) (wpAny_of_eq (a:=Value.none) (by first | rfl | (simp only[firstArgMember];rfl)) ?_);refine GR ?_ (by size_fits);simp only[raiseNew];refine FT (wpAny_handled ?_);rw[a0];exact FT (FY (wpAny_throw (q _ _ (λb o e=>Heap.get?_push_of_some _ (Heap.get?_push_of_some _ e)) ⟨_,Heap.get?_push_size _ rfl,rfl⟩)))
set_option maxHeartbeats 1000000 in
def E7(a0:A.handled=none)(R:Rd3 w S es ep t F vs)(X:TxS prog w s.heap S es ep t){f:Value}(hI:Bi s.heap I S f es.size es.size ep)(hF:F s.heap es.size f){Q:Option Value->Shared->Prop}
  (q:∀h',(∀b o,b≠I->s.heap.get? b=some o->h'.get? b=some o)->Q none { s with heap:=h' }) :
  wpAny (model prog w) A (pyNext (.ref I)) Q E s:=by
 obtain⟨o,ho,hex,hd⟩:=X.ob;have hT:s.TypeIs (.ref I) "set_iterator":=⟨_,hI,rfl⟩;have hlen:=lg R;have a1:A.in1.handled=none:=a0;unfold pyNext;have fin:∀(g:Heap) (e:Addr),(∀b o,b≠I->s.heap.get? b=some o->g.get? b=some o)->(∃o,g.get? e=some o/\o.cls=.type "StopIteration") ->
   wpAny (model prog w) A (do if<-isInstance (.ref e) (.type "StopIteration") then pure (none:Option Value) else throw (.ref e)) Q E { s with heap:=g }:=λg e kk ⟨oe,h1,h2⟩ =>
  FT (wpAny_isInstance (T:="StopIteration") (b:=true) ⟨oe,h1,h2⟩ isSubtype_stop (FY (q _ kk)))
 refine FT (wpAny_attempt (wpAny_callSpecial?_slot (name:=Str.ofString "__next__") hT FS.slot_next (GY FS.slot_next hT FS.entry_next ?_ (FS.args_next _))));unfold Builtin.«set_iterator.__next__»;refine FT (m:=slotArgs "__next__" 0 _) (FY ?_);refine FT (wpAny_fieldsOf hI rfl ?_)
 dsimp only
 refine FT (m:=setEntries S) (FT (G1 ho hd X.fit (FY ?_)));rw[Gb (by simp)]
 cases R with
 | text hb =>
  subst hF;rw[FR] at hlen;refine FT (m:=setNext S (0:Int).toNat (es.size:Int).toNat (ep:Int).toNat) (mr X hb ?_);rw[show (pickOrder (w.params.setOrder S ep) es)[(es.size:Int).toNat]?=none from Array.getElem?_eq_none (by rw[<- GE,hlen];exact F3 _)];refine FT (GC hI (by simp) λh1 e1 s1=>eO (s:={ s with heap:=h1 }) a1 λh' e k he=>fin h' e (λb o n x=>k _ _ (s1.extBut _ _ n x)) he)
 | drawn hb hs T ps hp =>
  obtain⟨rfl,hT'⟩:=hF;refine FT (m:=seqItems? (.ref T)) (G6 hT' rfl ?_)
  dsimp only
  have hpl:ps.length=es.size:=by rw[hp.length_eq,GN]
  rw[show ((ps.map λ(i:Nat)=>rawInt i).toArray)[(es.size:Int).toNat]?=none from Array.getElem?_eq_none (by rw[Gs,FR,hpl];exact F3 _)];refine FT (GC hI (by simp) λh1 e1 s1=>FT (GC e1 (by simp) λh2 e2 s2=>eO (s:={ s with heap:=h2 }) a1 λh' e k he=>fin h' e (λb o n x=>k _ _ (s2.extBut _ _ n (s1.extBut _ _ n x))) he))
 | one hb hs =>
  subst hF;have hps:=kf X.fit;have hn:es[SetTable.below t.place (if es.size=0 then 0 else ((t.place[0]?).getD 0+1:Nat))]?=none:=by
   by_cases hz:es.size=0
   ·rw[Gd hz,kd];exact Array.getElem?_eq_none (by omega)
   ·rw[Gb hz];have h1:t.place.size=1:=by omega
    rw[Array.getElem?_eq_getElem (show 0<t.place.size by omega)];show es[SetTable.below t.place (t.place[0]+1)]?=none;rw[uu h1 (Array.getElem?_eq_getElem (by omega))];exact Array.getElem?_eq_none (by omega)
  have ec:rawInt ((if es.size=0 then 0 else ((t.place[0]?).getD 0+1:Nat)):Int)=rawInt ((if es.size=0 then 0 else ((t.place[0]?).getD 0+1:Nat):Nat):Int):=by
   by_cases hz:es.size=0
   ·rw[Gd hz,Gd hz];rfl
   ·rw[Gb hz,Gb hz]
  rw[ec] at hI ⊢;generalize (if es.size=0 then 0 else ((t.place[0]?).getD 0+1:Nat):Nat)=sl at hn hI ⊢;refine FT (m:=setNext S (sl:Int).toNat (es.size:Int).toNat (ep:Int).toNat) (pJ X hb hs ?_);rw[Ik,hn];refine FT (GC hI (by simp) λh1 e1 s1=>eO (s:={ s with heap:=h1 }) a1 λh' e k he=>fin h' e (λb o n x=>k _ _ (s1.extBut _ _ n x)) he)
def DC(X:TxS prog w s.heap S es ep t){Q:Value->Shared->Prop}
  (q:∀h' d I f F vs,Rd3 w S es ep t F vs->Bi h' I S f 0 es.size ep->F h' 0 f->s.heap.objs.size<=I->(∀b o,s.heap.get? b=some o->h'.get? b=some o)->(∀b,s.heap.objs.size<=b->∀o,h'.get? b=some o->b<=I)->Q (.ref I) { s with heap:=h',drawn:=d }) :
  wpAny (model prog w) A (pyIter (.ref S)) Q E s:=by
 obtain⟨o,ho,hex,hd⟩:=X.ob;have hT:s.TypeIs (.ref S) "set":=⟨o,ho,hex.1⟩;refine wpAny_pyIter_slot hT PySem.F.slot_set_iter (GY PySem.F.slot_set_iter hT FS.entry_iter ?_ (PySem.F.args_set_iter_1 _));unfold Builtin.«frozenset.__iter__»;refine FT (m:=Builtin.Frozenset.slot0 "__iter__" _) (FY ?_);refine FT (m:=Builtin.Frozenset.sizeOf S) (FT (m:=setEntries S) (FT (G1 ho hd X.fit (FY (FY ?_)))));refine FT (m:=setDrawn S) (FT (G1 ho hd X.fit (FT (fg (FY ?_)))))
 dsimp only
 have tail:∀(h1:Heap) (d:Drawn) (f:Value) (F:Heap->Nat->Value->Prop) (vs:List Value),Rd3 w S es ep t F vs->(∀o:Obj,F (h1.push o) 0 f)->s.heap.objs.size<=h1.objs.size->(∀b o,s.heap.get? b=some o->h1.get? b=some o) ->
   wpAny (model prog w) A.in1 (do ret (<- newFields "set_iterator" [f,rawInt 0,.ref S,rawInt es.size,rawInt (<- setEpoch S)]))
    (λfin s'=>∃v,fin=Fin.done (Flow.ret v)/\∃T' r,s'.TypeIs v T'/\typeLookup (.type T') "__next__"=pure (some r)/\Q v s') E { s with heap:=h1,drawn:=d }:=λh1 d f F vs R hF hz hk=>by
  refine FT (wpAny_setEpoch_of (s:={ s with heap:=h1,drawn:=d }) (hk _ _ ho) hd X.fit ?_);refine FT (GR ?_);refine FY ⟨_,rfl,"set_iterator",_,⟨_,Heap.get?_push_size _ rfl,rfl⟩,FS.slot_next.lookup,?_⟩;exact q _ d h1.objs.size f F vs R (Heap.get?_push_size _ rfl) (hF _) hz (λb o e=>Heap.get?_push_of_some _ (hk b o e)) λb _ o e=>by
   have:=Gg e
   rw[G2] at this;exact Nat.le_of_lt_succ this
 cases hb:vm w with
 | true =>
  refine Hs (λz=>by simp at z) λ_=>?_;exact FT (FY (tail s.heap s.drawn _ _ _ (.text hb) (λ_=>rfl) (F3 _) λb o e=>e))
 | false =>
  by_cases hs:es.size<=1
  ·have hdr:¬ (!t.plain&&decide (es.size>1))=true:=by rw[Gx (by omega),Bool.and_false];exact F0
   refine Hs (λz=>absurd (Gq.mp z).2 hdr) λ_=>?_;exact FT (FY (tail s.heap s.drawn _ _ _ (.one hb hs) (λ_=>rfl) (F3 _) λb o e=>e))
  ·have hdr:(!t.plain&&decide (es.size>1))=true:=by rw[X.pl (by omega),Gz (show es.size>1 by omega)];rfl
   refine Hs (λ_=>?_) λz=>absurd (show (!false&&_)=true from hdr) z;refine FT (gu _ _ (by rw[GN]) λys d hp=>?_);refine FT (wpAny_newTuple ?_ (by rw[FR,hp.length_eq,GN];exact FX (HA X.few) (by decide)))
   ·exact tail _ d _ _ _ (.drawn hb (by omega) s.heap.objs.size ys hp) (λ_=>⟨rfl,Heap.get?_push_of_some _ (Heap.get?_push_size _ rfl)⟩) (by rw[G2];exact IG _) λb o e=>Heap.get?_push_of_some _ e
end
end DL
namespace DL
open PySem PySem.Spec PyProof.Rows L2
section
variable {prog:Program} {w:World} {A:Around} {E:Value→Shared→Prop} {s:Shared} {I S:Addr} {es:Array (Int×Value)} {ep:Nat} {t:SetTable} {F:Heap→Nat→Value→Prop} {vs:List Value}
def Da(R:Rd3 w S es ep t F vs):∃fx:List Addr,(∀h h' i f,(∀b∈fx,∀o,h.get? b=some o->h'.get? b=some o)->F h i f->F h' i f)/\∀h i f,F h i f->∀b∈fx,∃o,h.get? b=some o/\o.cls=.type "tuple":=by
 cases R with
 | text hb=>exact⟨[],λ_ _ _ _ _ h=>h,λ_ _ _ _ _ h=>(nomatch h)⟩
 | drawn hb hs T ps hp=>exact⟨[T],λh h' i f k x=>⟨x.1,k T (by simp) _ x.2⟩,λh i f x b hb=>by rw[F6.mp hb];exact⟨_,x.2,rfl⟩⟩
 | one hb hs=>exact⟨[],λ_ _ _ _ _ h=>h,λ_ _ _ _ _ h=>(nomatch h)⟩
def uv{f:Value}{i n:Nat}(hI:Bi s.heap I S f i n ep){Q:Value->Shared->Prop}(q:Q (.ref I) s):wpAny (model prog w) A (pyIter (.ref I)) Q E s:=by
 have hT:s.TypeIs (.ref I) "set_iterator":=⟨_,hI,rfl⟩
 refine wpAny_pyIter_slot hT FS.slot_self (GY FS.slot_self hT FS.entry_self ?_ (FS.args_self _));show wpAny _ _ (ret (.ref I)) _ _ s;exact FY ⟨_,rfl,"set_iterator",_,hT,FS.slot_next.lookup,q⟩
def CU(a0:A.handled=none)(R:Rd3 w S es ep t F vs){fx:List Addr}(k1:∀h h' i f,(∀b∈fx,∀o,h.get? b=some o->h'.get? b=some o)->F h i f->F h' i f)
  (k2:∀h i f,F h i f->∀b∈fx,∃o,h.get? b=some o/\o.cls=.type "tuple") :
  Walks prog w A I (I::S::fx) [I] es.size (λi v=>vs[i]?=some v) (λi h=>TxS prog w h S es ep t/\∃f,Bi h I S f i es.size ep/\F h i f) where
 sub:=λb hb=>by rw[F6.mp hb];exact FW ..
 frame:=λi h h' ⟨X,f,hI,hF⟩ k=>⟨X.keep λo e=>k S (by simp) o e,f,k I (by simp) _ hI,k1 h h' i f (λb hb o e=>k b (by simp[hb]) o e) hF⟩
 item:=λi s Q E hi ⟨X,f,hI,hF⟩ hQ=>by
  have hlen:=lg R
  have hv:vs[i]?=some vs[i]:=List.getElem?_eq_getElem (by omega)
  obtain⟨o,ho,hex,hd⟩:=X.ob;have hIS:S≠I:=λe=>by rw[e,hI] at ho;cases ho;cases hd
  refine DX R X hI hF hv λh' f' e1 e2 sb=>hQ vs[i] h' s.toks hv ⟨X.keep λo e=>sb.extBut _ _ hIS e,f',e1,e2 h' λb o n e=>sb.extBut _ _ n e⟩ λb o hb e=>sb.extBut _ _ (λz=>hb (by simp[z])) e
 done:=λs Q E ⟨X,f,hI,hF⟩ hQ=>E7 a0 R X hI hF λh' k=>hQ h' s.toks λb o hb e=>k b o (λz=>hb (by simp[z])) e
 self:=λi s Q E ⟨X,f,hI,hF⟩ hQ=>uv hI hQ
def EH(hT:s.TypeIs (.ref S) "set"){Q:Bool->Shared->Prop}(h:Q false s):wpAny (model prog w) A (Builtin.List.listLengthHint (.ref S)) Q E s:=by
 unfold Builtin.List.listLengthHint;refine FT (wpAny_specialOf hT PySem.F.slot_set_len.lookup ?_);generalize hid:("set.__len__":String)=id0
 wp_delta
 rw[show splitId id0=some ("set","__len__") from by subst hid;decide +kernel];subst hid;refine FT (wpAny_isInstance (T:="set") (b:=true) hT (by rw[isSubtype_type];kernel_rfl) ?_);refine Hs (λz=>absurd z (by decide)) λ_=>Hs (λ_=>?_) λz=>absurd (by decide +kernel) z;exact FT (wpAny_typeOf hT (FY h))
set_option maxHeartbeats 2000000 in
def vG(a0:A.handled=none)(X:TxS prog w s.heap S es ep t){Q:List Value->Shared->Prop}
  (q:∀h' d tk (ys:List Value),ys.Perm (es.toList.map (·.2))->(∀b o,s.heap.get? b=some o->h'.get? b=some o)->Q ys { s with heap:=h',drawn:=d,toks:=tk }):wpAny (model prog w) A (collect (.ref S)) Q E s:=by
 obtain⟨o,ho,hex,hd⟩:=X.ob;have hSL:S≠s.heap.objs.size:=Gw (Gg ho);have hn:es.size<=sizeLine:=FX (HA X.few) (by decide);unfold collect;refine FT (wpAny_runValue (HG entry_proto_collect' ?_));rw[Hm PySem.F.plain_proto_collect _];show wpAny _ A.in1 (newList [] >>= λl=>again (.builtin "list.__iadd__" ⟨[l,.ref S],[]⟩)) _ _ s;refine FT (GR (FY ⟨plainId_quiet PySem.F.plain_list_iadd _,HG entry_list_iadd' ?_⟩));rw[Hm PySem.F.plain_list_iadd _];have hL:(s.heap.push { cls:=.type "list",data:=.seq ([]:List Value).toArray }).get? s.heap.objs.size=some { cls:=.type "list",data:=.seq #[] }:=Heap.get?_push_size _ rfl;have X1:TxS prog w (s.heap.push { cls:=.type "list",data:=.seq ([]:List Value).toArray }) S es ep t:=X.keep λo e=>Heap.get?_push_of_some _ e;have hT:Shared.TypeIs { s with heap:=s.heap.push { cls:=.type "list",data:=.seq ([]:List Value).toArray } } (.ref S) "set":=⟨o,Heap.get?_push_of_some _ ho,hex.1⟩;show wpAny _ A.in1 (Builtin.List.listExtendWith (.ref s.heap.objs.size) (.ref S) (.ref s.heap.objs.size)) _ _ _;unfold Builtin.List.listExtendWith;refine FT (wpAny_typeOf hT ?_);have h1:Builtin.List.listSameRef (.ref s.heap.objs.size) (.ref S)=false:=by simp[Builtin.List.listSameRef,Ne.symm hSL]
 have n1:(Value.type "set"==Value.type "list")=false:=by decide
 have n2:(Value.type "set"==Value.type "tuple")=false:=by decide
 simp only[h1,n1,n2,Bool.or_false,Bool.false_eq_true,if_false];refine FT (DC (s:={ s with heap:=s.heap.push { cls:=.type "list",data:=.seq ([]:List Value).toArray } }) X1 λh' d I f F vs R hI hF hge hk hle=>?_);obtain⟨fx,k1,k2⟩:=Da R;have hL':=hk _ _ hL;have X2:TxS prog w h' S es ep t:=X1.keep λo e=>hk _ _ e;refine FT (GX (EH (s:={ s with heap:=h',drawn:=d }) ⟨o,hk _ _ (Heap.get?_push_of_some _ ho),hex.1⟩ ?_));have hge:s.heap.objs.size<I:=by rw[G2] at hge;exact hge
 have hLf:s.heap.objs.size∉I::S::fx:=λhm=>by
  rcases F7.mp hm with e | hm
  ·exact GQ _ (e ▸ hge)
  ·rcases F7.mp hm with e | hm
   ·exact hSL e.symm
   ·obtain⟨oo,e1,e2⟩:=k2 _ _ _ hF _ hm;rw[hL'] at e1
    cases e1
    simp at e2
 have a2:A.in1.handled=none:=a0
 have key:∀(h2:Heap) (c:Nat),(∀b o,b≠s.heap.objs.size->h'.get? b=some o->h2.get? b=some o)->h2.get? s.heap.objs.size=some { cls:=.type "list",data:=.seq #[] c } ->
   codeAny (model prog w) A (.builtin "list.extend.loop" ⟨[.ref s.heap.objs.size,.ref I,.ref s.heap.objs.size],[]⟩) (λr s'=>match r with
    | .ok (.ret v)=>wpAny (model prog w) A (match v with | .ref a=>(do match (<- load a).data with | .seq xs _=>pure xs.toList | _=>unsupported "internal:collect") | _=>unsupported "internal:collect") Q E s'
    | .ok _=>False
    | .error e=>E e s') { s with heap:=h2,drawn:=d }:=λh2 c hk2 hL2=>by
  refine codeAny_extend_loopS ((CU a2 R k1 k2).toS) hn s.heap.objs.size hLf (.ref s.heap.objs.size) es.size 0 _ #[] c rfl (G5 _) ⟨X2.keep λo e=>hk2 _ _ hSL e,f,hk2 _ _ (HB hge) hI,k1 _ _ _ _ (λb hb o e=>hk2 b o (λz=>hLf (by rw[<- z];simp[hb])) e) hF⟩ hL2 (ItemsOf.nil _) λs' acc c' hm hS' hacc=>?_;refine FT (wpAny_load hS' (FY ?_));rw[Moved.eq_with hm];have hv:acc.toList=vs:=by
   apply List.ext_getElem?;intro j;have hl:=lg R
   by_cases hj:j<es.size
   ·have hja:j<acc.size:=by rw[hacc.1];exact hj
    have e1:acc.toList[j]?=some acc[j]:=by rw[Array.getElem?_toList];exact Array.getElem?_eq_getElem hja
    rw[e1,hacc.2 j acc[j] (by rw[<- Array.getElem?_toList];exact e1)]
   ·rw[List.getElem?_eq_none (by rw[GE,hacc.1];omega),List.getElem?_eq_none (by omega)]
  rw[hv];refine q s'.heap d s'.toks vs (wL R) λb o e=>hm.heap b o (λz=>?_) (hk2 b o (Gw (Gg e)) (hk b o (Heap.get?_push_of_some _ e)));have hb:=Gg e
  rcases F7.mp z with z | z
  ·exact GQ _ (z ▸ hb)
  ·have z:=F6.mp z
   rw[z] at hb;exact Ix hb hge
 refine Hs (λ_=>?_) λz=>absurd (by decide) z;refine FT (IM (FT ?_));show wpAny _ _ (updateSeq s.heap.objs.size (·.push .none) >>= λ_=>updateSeq s.heap.objs.size (·.pop)) _ _ _;refine FT (wpAny_updateSeq hL' rfl ?_);have hL2:=Heap.get?_update_self (Obj.mapSeq (·.push Value.none)) hL' rfl;refine wpAny_updateSeq (hz:=by seq_fits) hL2 rfl ?_;have hL3:=Heap.get?_update_self (Obj.mapSeq (·.pop)) hL2 rfl;refine FY ⟨plainId_quiet PySem.F.plain_extend_loop _,Iu (key _ _ (λb o n e=>?_) hL3) λr s' h=>?_⟩
 ·exact(Heap.get?_update_other _ _ (IN n)).trans ((Heap.get?_update_other _ _ (IN n)).trans e)
 ·cases r with
  | error e=>exact h
  | ok fl =>
   cases fl with
   | ret v=>exact h
   | _=>exact h.elim
end
def lL{es:Array (Int×Value)}{ys:List Value}(he:∀e∈es.toList,∃t,e.2=.str (sOf e.2) t)(hp:ys.Perm (es.toList.map (·.2))):StrsAre ys (ys.map sOf):=by
 have:∀ys:List Value,(∀y∈ys,∃t,y=.str (sOf y) t)->StrsAre ys (ys.map sOf):=by
  intro ys
  induction ys with
  | nil=>intro _;exact .nil
  | cons y ys ih =>
   intro h;obtain⟨t,e⟩:=h y (FW ..);rw[Go];have:=ih λz hz=>h z (FU _ hz);rw[e];exact .cons _ _ this
 refine this ys λy hy=>?_;obtain⟨e,h1,rfl⟩:=FV.mp (hp.mem_iff.mp hy);exact he e h1
section
variable {X:Cx} {e:Expr} {p p2 pos pos2:Pos} {te:TE}
def uG{pins:List (Addr×Obj)}{σ:L2.St}{H:Hp}{s:Shared}(I:L2.Inv X pins σ H s)(d:Drawn):L2.Inv X pins σ H { s with drawn:=d }:=⟨I.ok,I.os,I.bare,I.base,I.loc,I.cell,I.free,I.freeC,I.pin,I.hok,I.len⟩
def tSS(te:TE):TE:=λσ H Q=>te σ H λx H1=>∃(a:Addr) (ss:List Str),x=.ref a/\H1 a=some (.lst (ss.map V.str))/\ss.length<64/\∀(ss':List Str) (b:Addr),ss'.Nodup->(∀y,y∈ss'↔y∈ss)->Srt ss'->H1 b=none->Q (.ref b) (FI H1 b (.lst (ss'.map V.str)))
def E2(hc:X.calm=true)(hg:Gl X "sorted")(hm:X.mg "sorted"=none)(hg2:Gl X "set")(hm2:X.mg "set"=none)(he:PE X e te)
  (hs:starEach [e] X.env=[(false,eval e X.env)]:=by rfl) (hs1:starEach [.Call (.Name "set" p2) [e] [] pos2] X.env=[(false,eval (.Call (.Name "set" p2) [e] [] pos2) X.env)]:=by rfl) :
  PE X (.Call (.Name "sorted" p) [.Call (.Name "set" p2) [e] [] pos2] [] pos) (tSS te):=by
 have hin:PE X (.Call (.Name "set" p2) [e] [] pos2) (λ_ _ _=>False):=λ_ _ _ _ _ _ h=>h.elim
 intro pins s σ H Q I h;refine Hy (fH I hg hm iq ?_);refine PyProof.Rows.callWith_builtin1 ?_ hs1 rfl;rw[hs1];refine Hx ?_;show wpAny _ _ (eval (.Call (.Name "set" p2) [e] [] pos2) X.env) _ _ _;refine Hy (fH I hg2 hm2 EY ?_);refine GT ?_ hs rfl;rw[hs];refine Hx (FG (he pins s σ H _ I h) λu s1 ⟨x,H1,I1,rx,a,ss,ex,ha,hl,q⟩=>Ij ?_);subst ex
 cases rx
 obtain⟨its,rv,pl,_⟩:=I1.list (FA.of ha);have hs2:=cS rv;have hz:its.length=ss.length:=by rw[<- rv.length,FR]
 refine vX (I1.ok.hd hc) pl.isList (by simpa using hs2) (by rw[Gs,hz];exact Nat.lt_trans (Nat.succ_lt_succ hl) (by decide)) λh' tk es ep t X1 hy hn hk=>Ij ?_;have I2:L2.Inv X pins σ H1 { s1 with heap:=h',toks:=tk }:=I1.kept (t':=tk) hk;refine HM kind_sorted plain_sorted entry_sorted (args_sorted1 _) ?_;unfold Builtin.«sorted»;refine FT (m:=checkCount "sorted" 1 1 _) (FY ?_);refine FT (vG (A:=X.A.in1) (s:={ s1 with heap:=h',toks:=tk }) (I1.ok.hd hc) X1 λh2 d tk2 ys hp hk2=>?_);have hS:=lL (λe h=>x9 X1.el h) hp;have hm:(ys.map sOf).Perm (es.toList.map λe=>sOf e.2):=by
  have:=hp.map sOf
  rwa [GG] at this
 have hyl:ys.length<64:=by
  have e0:=hp.length_eq
  rw[FR] at e0;have e1:es.toList.length=es.size:=GE;omega
 refine FT (wpAny_newList ?_ (dY (by omega)));have hoL:(h2.push { cls:=.type "list",data:=.seq ys.toArray }).get? h2.objs.size=some (seqObj "list" ys.toArray 0):=Heap.get?_push_size _ rfl;refine FT (GX (fS (s:={ s1 with heap:=h2.push { cls:=.type "list",data:=.seq ys.toArray },drawn:=d,toks:=tk2 }) hoL hS hyl λout ss' h1 h2' h3=>?_));refine FY ⟨_,rfl,?_⟩;obtain⟨ep2,he2⟩:=sortedHeap_at (out:=out) hoL;have I3:L2.Inv X pins σ H1 { s1 with heap:=h2,drawn:=d,toks:=tk2 }:=uG (I2.kept (t':=tk2) hk2) d;have kp:∀b o,h2.get? b=some o->(sortedHeap (h2.push { cls:=.type "list",data:=.seq ys.toArray }) h2.objs.size ys out).get? b=some o:=λb o e=>by
  have hb:=Gg e
  rw[sortedHeap_old (Gw hb) (by rw[G2];exact Hr hb)];exact Heap.get?_push_of_some _ e
 have hz2:(ss'.map V.str).length<=sizeLine:=by rw[FR,h2'.length_eq,FR];exact dY (by omega)
 have I4:L2.Inv X pins σ (FI H1 h2.objs.size (.lst (ss'.map V.str))) { s1 with heap:=sortedHeap (h2.push { cls:=.type "list",data:=.seq ys.toArray }) h2.objs.size ys out,drawn:=d,toks:=tk2 } :=
  I3.laid (t':=tk2) kp (F3 _) (show bO X.prog X.w _ _ _ (.lst (ss'.map V.str)) from⟨hz2,out.toList,ep2,b7 h1,he2⟩)
 have fr:H1 h2.objs.size=none:=I3.hok.fresh (F3 _)
 exact⟨.ref _,_,I4,rfl,q ss' _ ((h2'.trans hm).nodup_iff.mpr X1.nd) (λy=>((h2'.trans hm).mem_iff).trans (hy y)) h3 fr⟩
end
def dSS(te:FQ)(δ:En)(R:W->En->Prop):Prop:=te δ (wd λd δ1=>∃ss:List Str,d=.lst (ss.map D.str)/\ss.length<64/\∀ss',ss'.Nodup->(∀y,y∈ss'↔y∈ss)->Srt ss'->R (.d (.lst (ss'.map D.str))) δ1)
def Cc{X:Cx}{e:Expr}{p p2 pos pos2:Pos}{te:FQ}(hc:X.calm=true)(hg:Gl X "sorted")(hm:X.mg "sorted"=none)(hg2:Gl X "set")(hm2:X.mg "set"=none)(he:DE X e te)
  (hs:starEach [e] X.env=[(false,eval e X.env)]:=by rfl) (hs1:starEach [.Call (.Name "set" p2) [e] [] pos2] X.env=[(false,eval (.Call (.Name "set" p2) [e] [] pos2) X.env)]:=by rfl) :
  DE X (.Call (.Name "sorted" p) [.Call (.Name "set" p2) [e] [] pos2] [] pos) (dSS te) :=
 PE.imp (E2 hc hg hm hg2 hm2 he hs hs1) λσ H Q ⟨G,δ,P,R,s,h,k,_⟩=>up.mk s h λd δ1 ⟨ss,e,hl,r⟩ v H1 s1=>by
  subst e;obtain⟨A,x⟩:=id s1;have q:=x.pnd (.lst (ss.map D.str),v) (by simp);unfold Fr at q;obtain⟨a,vs,rfl,_,ha,rs⟩:=q
  cases dD rs
  refine⟨a,ss,rfl,ha,hl,λss' b nd hy st hb=>k _ δ1 (r ss' nd hy st) _ _ ⟨A,((x.same (aG hb _)).sub (P':=P) λp hp=>by simp[hp]).push ?_⟩⟩;unfold Fr;exact⟨b,_,rfl,λz=>x.mem b z hb,aF,b9 ss'⟩
end DL
namespace DL
open PySem PySem.Spec PyProof.Rows L2
section
variable {K:PySem.W.Frag} {G:Gf} {A:Addr→Prop} {δ:List Sl} {P:List (D×V)} {σ:L2.St} {H:Hp}
def Sx.freezeF{i:Nat}{a:Addr}{ks:List Str}{ds:List D}{o:Obj}(s:Sx K G A δ P σ H)(hi:δ[i]?=some (.own a (.dct ks ds)))(hp:¬ G.M0 a) :
  ∃kvs,H a=some (.dK kvs)/\Sx K G (λb=>A b/\b≠a) (δ.set i (.dat (.fd ks ds))) P σ (FI H a (.frz o (.dK kvs))):=by
 obtain⟨si,ai,vs,hH,l,rs⟩:=s.own i a _ hi;refine⟨_,hH,?_⟩;have hk:∀b u,b≠a->H b=some u->FI H a (.frz o (.dK (bg ks vs))) b=some u:=λb u n e=>by rw[aI n];exact e
 have kp:Kp (λb=>G.M0 b\/A b) H (FI H a (.frz o (.dK (bg ks vs)))) :=
  ⟨λb u e n=>hk b u (λz=>n (.inr (by rw[z];exact ai))) e,λb xs e=>hk b _ (λz=>by rw[z,hH] at e;cases e) e,λb u v e=>hk b _ (λz=>by rw[z,hH] at e;cases e) e⟩
 have hM:∀b,(G.M0 b\/(A b/\b≠a))->(G.M0 b\/A b):=λb h=>h.elim .inl λz=>.inr z.1
 have dn:∀d v,Fr K (λb=>G.M0 b\/A b) H d v->Fr K (λb=>G.M0 b\/(A b/\b≠a)) (FI H a (.frz o (.dK (bg ks vs)))) d v:=λd v r=>Fr.more (λb z=>.inl (hM b z)) _ _ (Fr.kp kp _ _ r)
 have stay:∀b,H b≠none->FI H a (.frz o (.dK (bg ks vs))) b≠none:=λb e=>by
  by_cases z:b=a
  ·rw[z,aF];exact λq=>nomatch q
  ·rw[aI z];exact e
 refine⟨λb u e n=>hk b u (λz=>?_) (s.old b u e n),λb e=>stay b (s.stay b e),s.m0,s.pm,λb h=>s.new b h.1,λb h=>stay b (s.thr b h.1),by rw[GM,s.len],λj x e=>?_,λj b x e=>?_,λj k b x y h1 h2=>?_,λp hp=>dn _ _ (s.pnd p hp)⟩
 ·subst z;exact(s.new b ai).elim (λq=>by rw[q] at e;cases e) λq=>n q
 ·rcases aW e with⟨hij,z,_⟩ | ⟨hij,e⟩
  ·cases z;subst hij
   refine⟨.ref a,si,?_⟩;unfold Fr;exact⟨a,vs,o,rfl,aF,l,Reps.more (λb z=>.inl (hM b z)) _ _ (Reps.kp kp _ _ rs)⟩
  ·obtain⟨v,q,r⟩:=s.dat j x e;exact⟨v,q,dn _ _ r⟩
 ·rcases aW e with⟨_,z,_⟩ | ⟨hij,e9⟩
  ·cases z
  ·clear e;obtain⟨q,r,w⟩:=s.own j b x e9;have hb:b≠a:=λz=>by rw[z] at e9;exact hij (s.inj _ _ _ _ _ hi e9)
   exact⟨q,⟨r,hb⟩,bm.more (λb z=>.inl (hM b z)) (bm.kp kp (by rw[aI hb]) w)⟩
 ·rcases aW h1 with⟨_,z,_⟩ | ⟨_,e1⟩
  ·cases z
  ·rcases aW h2 with⟨_,z,_⟩ | ⟨_,e2⟩
   ·cases z
   ·exact s.inj j k b x y e1 e2
end
def kz(i:Nat)(t:TDS)(R:a4)(δ:En):Prop:=qWD δ[i]? λ_ ks ds=>lH δ i (.dat (.fd ks ds)) (t R)
def eJ{X:Cx}(i:Nat){st:List Stmt}{u:TDS}(h:DSs X st u):DSs X st (kz i u):=by
 rintro pins s σ H D I ⟨G,δ,P,R,⟨A,x⟩,hu,k⟩;replace hu:=qWD.ex hu;obtain⟨a,ks,ds,e,hu⟩:=hu;have hp:¬ G.M0 a:=λz=>(x.new a (x.own i a _ e).2.1).elim (λq=>x.m0 a z q) λq=>(x.pm a q).2 z;obtain⟨si,ai,vs,hH,l,rs⟩:=x.own i a _ e;obtain⟨hz,lo,va,ra,da⟩:=vI I.hok hH;obtain⟨o,es,ep,ho,r9⟩:=id da;obtain⟨kvs,hH2,y⟩:=x.freezeF (o:=o) e hp;rw[hH] at hH2
 cases hH2
 have I2:L2.Inv X pins σ (FI H a (.frz o (.dK (bg ks vs)))) s:=I.write (x:=a) (e:=a) (t':=s.toks) (h':=s.heap) (by rw[hH];trivial) (.inl rfl) (λb u _ q=>q) ⟨o,ho⟩ ⟨ho,hz,lo,va,ra,da⟩
 exact h pins s σ _ D I2 ⟨G,_,P,R,⟨_,y⟩,hu,k⟩
section
variable {X:Cx} {tg e:Expr} {te:FQ}
end
end DL
namespace DL
open PySem PySem.Spec PyProof.Rows L2
variable {R:D→Prop}
section
variable {X:Cx} {pos:Pos} {e:Expr}
end
section
variable {X:Cx} {pos:Pos} {e:Expr} {ta:FQ}
end
section
variable {P:Program} {w:World} {K:PySem.W.Frag} {mg:Str→Option Value} {base:Heap}
end
def Bl:List D->(D->Prop)->Prop
 | [.int i,.int j],R=>R (.bl (decide (i=j)))
 | [.str x,.str y],R=>R (.bl (decide (x=y)))
 | [.bl x,.bl y],R=>R (.bl (decide (x=y)))
 | [.tup xs,.tup ys],R=>∃a b c d,xs=[.int a,.int b]/\ys=[.int c,.int d]/\R (.bl (decide ((a,b)=(c,d))))
 | _,_=>False
def yQ:∀ {d0:List D} {R:D->Prop},Bl d0 R->((∃(i:Int) (j:Int),d0=[.int i,.int j]/\R (.bl (decide (i=j))))\/(∃(x:Str) (y:Str),d0=[.str x,.str y]/\R (.bl (decide (x=y))))\/(∃(x:Bool) (y:Bool),d0=[.bl x,.bl y]/\R (.bl (decide (x=y))))\/(∃(xs:List D) (ys:List D),d0=[.tup xs,.tup ys]/\∃a b c d,xs=[.int a,.int b]/\ys=[.int c,.int d]/\R (.bl (decide ((a,b)=(c,d)))))):=by walk_at "or"
def y9{a b c d:Int}:Bl [.tup [.int a,.int b],.tup [.int c,.int d]] R↔R (.bl (decide ((a,b)=(c,d)))):=by
 constructor
 ·intro h;obtain⟨_,_,_,_,e,e',h⟩:=h
  cases e
  cases e'
  exact h
 ·exact λh=>⟨_,_,_,_,rfl,rfl,h⟩
def wG{i j:Int}:Bl [.int i,.int j] R=(R (.bl (decide (i=j)))):=rfl
def zW{i j:Bool}:Bl [.bl i,.bl j] R=(R (.bl (decide (i=j)))):=rfl
def wK{i j:Str}:Bl [.str i,.str j] R=(R (.bl (decide (i=j)))):=rfl
section
variable {X:Cx}
def zJ(hu:X.A.units+64<cLine):FH X (compareOp .Eq) λx y=>aU X.K Bl [x,y]:=by
 intro pins s σ H x y v u Q I rx ry h;obtain⟨M,ds,R,m,rs,h,k⟩:=h;replace h:=yQ h
 rcases h with⟨_,_,rfl,h⟩ | ⟨_,_,rfl,h⟩ | ⟨_,_,rfl,h⟩ | ⟨_,_,rfl,h⟩
 ·exact dw hu pins s σ H x y v u Q I rx ry ⟨M,_,R,m,rs,h,k⟩
 ·exact dw hu pins s σ H x y v u Q I rx ry ⟨M,_,R,m,rs,h,k⟩
 ·exact dw hu pins s σ H x y v u Q I rx ry ⟨M,_,R,m,rs,h,k⟩
 ·obtain⟨i1,i2,j1,j2,rfl,rfl,h⟩:=h;obtain⟨h1,h2⟩:=cc rs;unfold Fr at h1 h2;obtain⟨a,vs,rfl,sq,rs1⟩:=h1;obtain⟨b,ws,rfl,sq',rs2⟩:=h2
  cases rx
  cases ry
  obtain⟨v1,v2,rfl,p1,p2⟩:=k7 rs1;obtain⟨w1,w2,rfl,p3,p4⟩:=k7 rs2
  cases aM p1
  cases aM p2
  cases aM p3
  cases aM p4
  obtain⟨its,r1,t1,_⟩:=I.tuple sq;obtain⟨its',r2,t2,_⟩:=I.tuple sq'
  cases r1 with
  | cons q1 r1 =>
   cases r1 with
   | cons q2 r1 =>
    cases r1
    obtain⟨s1,rfl⟩:=q1;obtain⟨s2,rfl⟩:=q2
    cases r2 with
    | cons q3 r2 =>
     cases r2 with
     | cons q4 r2 =>
      cases r2
      obtain⟨s3,rfl⟩:=q3;obtain⟨s4,rfl⟩:=q4;refine SeqAt.eq_tupleAt (e:=λn=>if n=0 then i1==j1 else i2==j2) t1 t2 (by omega) (λn h1 h2=>?_) ?_
      ·match n,h1 with
       | 0,_=>exact SeqAt.EqAt.int_int i1 s1 j1 s3
       | 1,_=>exact SeqAt.EqAt.int_int i2 s2 j2 s4
      ·refine⟨.bl _,H,I,rfl,?_⟩;have e1:((List.range (min [Value.int i1 s1,Value.int i2 s2].toArray.size [Value.int j1 s3,Value.int j2 s4].toArray.size)).all (λn=>if n=0 then i1==j1 else i2==j2)&&[Value.int i1 s1,Value.int i2 s2].toArray.size==[Value.int j1 s3,Value.int j2 s4].toArray.size)=decide ((i1,i2)=(j1,j2)):=by
        show ((i1==j1)&&((i2==j2)&&true)&&true)=_
        rw[HZ];simp
       rw[e1];exact k _ h _ H (bY.refl H) (Fr.sc rfl)
end
end DL
namespace DL
open PySem PySem.Spec PyProof.Rows L2
section
variable {X:Cx}
end
end DL
namespace DL
open PySem PySem.Spec PyProof.Rows L2
variable {X:Cx} {y:Str} {pos:Pos}
def kI(R:W->En->Prop)(δ:En)(r:D):Prop:=r.im=true/\R (.d r) δ
def yi(i:Nat)(f:List D->(D->Prop)->Prop)(ta tb:FQ)(δ:En)(R:W->En->Prop):Prop:=ta δ (wd λx δ1=>tb δ1 (wd λy δ2=>qW δ2[i]? λ_ d=>f [x,y,d] (kI R δ2)))
def w5{a b:Expr}{ta tb:FQ}{f:List D->(D->Prop)->Prop}{x:Str}{k:Nat}{ps:List Str}{p p2:Pos}(i:Nat)(C:Cal X.prog X.w X.K X.mg X.base k x ps (Fh X.K f))(hr:fQ k X.A)(hg:Gl X x)(ha:DE X a ta)(hb:DE X b tb)(hN:X.N[i]?=some y:=by rfl)
  (hv:Vis X.env.scope y:=by walk_at "v3") (hd:(y==("__debug__":Str))=false:=by decide) (hcd:(y==("__classdict__":Str))=false:=by decide)
  (hdb:(x==("__debug__":Str))=false:=by decide) (he:starEach [a,b,.Name y p2] X.env=(false,eval a X.env)::starEach [b,.Name y p2] X.env:=by rfl) (he1:starEach [b,.Name y p2] X.env=(false,eval b X.env)::starEach [.Name y p2] X.env:=by rfl)
  (he2:starEach [.Name y p2] X.env=(false,eval (.Name y p2) X.env)::starEach [] X.env:=by rfl) (hpl:(backTo pos (starEach [b,.Name y p2] X.env)).any (·.1)=false:=by rfl) :
  DE X (.Call (.Name x p) [a,b,.Name y p2] [] pos) (yi i f ta tb):=by
 obtain⟨g,fd,F,b',kp,m⟩:=C.ex;refine PE.imp (kU F hr hg m kp b' .nil wa (bC ha (bC hb (bC (dJ hN hv hd hcd) eB he2) he1) he) hdb he hpl) λσ H Q ⟨G,δ,P,R,s,h,k,_⟩=>up.mk s h λz δ1 h1 v H1 s1=>up.mk s1 h1 λz2 δ2 h2 v2 H2 s2=>?_;replace h2:=qW.ex h2;obtain⟨a0,d0,hi,hf⟩:=h2;refine⟨.ref a0,s2.own hi,?_⟩;show aU X.K f ([v,v2,.ref a0]++[]) H2 Q;rw[GH];obtain⟨A,q⟩:=s2;obtain⟨_,aa,oo⟩:=q.own i a0 d0 hi;have hM:∀b,((G.M0 b\/A b)/\b≠a0)->(G.M0 b\/A b)\/H2 b=none:=λb h=>.inl h.1;refine⟨λb=>(G.M0 b\/A b)/\b≠a0,[z,z2,d0],λr=>r.im=true/\R (.d r) δ2,λb h=>q.mem b h.1,Reps.cons (Fr.more hM _ _ (q.pnd (z,v) (by simp))) (Reps.cons (Fr.more hM _ _ (q.pnd (z2,v2) (by simp))) (Reps.one (oo.rep (λz=>z.2 rfl) λb z=>z.1))),hf,λr ⟨im,hr⟩ u H' sm rp=>?_⟩;exact k r δ2 hr u H' ⟨A,((q.same sm).sub (P':=P) λp hp=>by simp[hp]).push (Fr.im _ _ im rp)⟩
def Sx.slot{K:PySem.W.Frag}{G:Gf}{A:Addr->Prop}{δ:List Sl}{P P':List (D×V)}{σ:L2.St}{H:Hp}{i:Nat}{p:Addr}{d:D}(s:Sx K G A δ P σ H)(aa:A p)(oo:bm K (λb=>G.M0 b\/A b) H p d)(hno:∀(j:Nat) e,δ[j]?≠some (.own p e))(hP:∀q∈P',q∈P) :
  Sx K G A (δ.set i (.own p d)) P' (σ.set i (some (.ref p))) H:=by
 refine⟨s.old,s.stay,s.m0,s.pm,s.new,s.thr,by rw[GM,GM,s.len],λj d' e=>?_,λj b d' e=>?_,λj k b d' e' h1 h2=>?_,λq hq=>s.pnd q (hP q hq)⟩
 ·rcases aW e with⟨_,z,_⟩ | ⟨hij,e⟩
  ·cases z
  ·obtain⟨v,q,r⟩:=s.dat j d' e;exact⟨v,by rw[List.getElem?_set_ne hij];exact q,r⟩
 ·rcases aW e with⟨hij,z,hl⟩ | ⟨hij,e⟩
  ·cases z
   subst hij;exact⟨by rw[List.getElem?_set_self (by rw[<- s.len];exact hl)],aa,oo⟩
  ·obtain⟨q,r,o⟩:=s.own j b d' e;exact⟨by rw[List.getElem?_set_ne hij];exact q,r,o⟩
 ·rcases aW h1 with⟨hij,z,hl⟩ | ⟨hij,e⟩
  ·cases z
   rcases aW h2 with⟨hik,_,_⟩ | ⟨hik,e2⟩
   ·rw[<- hij,<- hik]
   ·exact absurd e2 (hno k _)
  ·rcases aW h2 with⟨hik,z,_⟩ | ⟨hik,e2⟩
   ·cases z
    exact absurd e (hno j _)
   ·exact s.inj j k b d' e' e e2
def yk(i:Nat)(src:TDC)(nt:Nat)(caps:List (Nat×Str))(g:TDG)(tc:TDT)(te:FQ)(R:a4)(δ:En):Prop:=src δ λxs δ1=>xs.length<=9000/\∃f:D->Option D,
 (∀x∈xs,wB nt λts=>g x (ts++ig caps δ1) λδ2=>tc δ2 λb δ3=>if b=true then te δ3 (wd λy δ4=>okT nt δ4 (ig caps δ1)/\f x=some y) else okT nt δ3 (ig caps δ1)/\f x=none)/\∀a,lH δ1 i (.own a (.lst (xs.filterMap f))) R.nx
def xf{elt tgt iter:Expr}{ifs:List Expr}{scope:Scope}{pos2 pos':Pos}{src:TDC}{cl:List (Str×Addr)}{te:FQ}(i:Nat)(hN:X.N.Nodup)(tn:List Str)(caps:List (Nat×Str)){g:TDG}{tc:TDT}
  (hcalm:X.calm=true) (hclos:closureFor scope X.env=pure cl) (hcell:∀y∈scope.names,y.2≠.cell) (hkind:scope.kind=.function) (hnames:∀y∈scope.names,y.2=.local->scope.names.lookup y.1=some .local)
  (hcl:∀x c,cl.lookup x=some c->X.env.cells.lookup x=some c) (hhas:∀x,((relabel scope X.env).names.lookup x=some .cell\/(relabel scope X.env).names.lookup x=some .free)->∃c,cl.lookup x=some c)
  (hcap:∀p∈caps,X.N[p.1]?=some p.2/\X.env.scope.names.lookup p.2=some .cell/\((relabel scope X.env).names.lookup p.2=some .cell\/(relabel scope X.env).names.lookup p.2=some .free))
  (hi:CI X.nox tgt iter src)
  (hb:∀s2 H2 C fp pn,DG (de X (tn++caps.map (·.2)) scope cl s2 H2 C fp pn) tgt g/\DF (de X (tn++caps.map (·.2)) scope cl s2 H2 C fp pn) ifs tc/\DE (de X (tn++caps.map (·.2)) scope cl s2 H2 C fp pn) elt te)
  (hs:∀x,foldedSetIterable iter X.env x=pure x:=by intro _;rfl) (hi':X.N[i]?=some y:=by rfl) (hx:Loc X.env.scope y:=by walk_at "v2")
  (hsw:swapsWith (.ListComp elt [⟨tgt,iter,ifs,0⟩] scope pos) (some (.Name y pos')) pos2.line X.env=pure true:=by rfl) (hf:X.fn y=true\/X.env.scope.names.lookup y=some .local :=by walk_at "v1") :
  DS X.nox (.Assign [.Name y pos'] (.ListComp elt [⟨tgt,iter,ifs,0⟩] scope pos) pos2) (yk i src tn.length caps g tc te):=by
 obtain⟨wi,hi,hw⟩:=hi;refine PS.imp (qj (g:=upG X.K g) (tc:=upT X.K tc) (te:=up X.K te) tn caps hcalm hclos hcell hkind hnames hcl hhas hcap hi hb hs hN hi' hx hsw hf) λE σ H ⟨G,δ,P,R,s,h,k,_⟩=>?_;refine hw G δ P σ H _ _ s h λxs δ1 ⟨hz,f,hf,r⟩ J P1 H1 hP s1 hgo hst hyl p hp=>?_;refine j6 (Q:=λx H1=>sj i x σ H1 E.nx) s1 hz (λA i H x hi=>hgo A _ _ i H x hi) (λA H x=>hst A _ _ H x) (λA i x H H2 s hi hy=>hyl A _ _ i x H H2 s hi hy) hf p hp λA acc H' hA ho x hac rs=>?_;exact k _ (r p) _ H' ⟨_,x.slot (P':=P) (.inr rfl) ⟨acc,hac,rs⟩ (λj e z=>hA (.inr (ho j p e z))) hP⟩
def cN{elt tgt iter:Expr}{ifs:List Expr}{scope:Scope}{pos2 pos':Pos}{src:TDC}{cl:List (Str×Addr)}{te:FQ}(i:Nat)(hN:X.N.Nodup)(tn:List Str)(caps:List (Nat×Str)){g:TDG}{tc:TDT}
  (hcalm:X.calm=true) (hclos:closureFor scope X.env=pure cl) (hcell:∀y∈scope.names,y.2≠.cell) (hkind:scope.kind=.function) (hnames:∀y∈scope.names,y.2=.local->scope.names.lookup y.1=some .local)
  (hcl:∀x c,cl.lookup x=some c->X.env.cells.lookup x=some c) (hhas:∀x,((relabel scope X.env).names.lookup x=some .cell\/(relabel scope X.env).names.lookup x=some .free)->∃c,cl.lookup x=some c)
  (hcap:∀p∈caps,X.N[p.1]?=some p.2/\X.env.scope.names.lookup p.2=some .cell/\((relabel scope X.env).names.lookup p.2=some .cell\/(relabel scope X.env).names.lookup p.2=some .free))
  (hi:CI X.nox tgt iter src)
  (hb:∀s2 H2 C fp pn,DG (de X (tn++caps.map (·.2)) scope cl s2 H2 C fp pn) tgt g/\DF (de X (tn++caps.map (·.2)) scope cl s2 H2 C fp pn) ifs tc/\DE (de X (tn++caps.map (·.2)) scope cl s2 H2 C fp pn) elt te)
  (hs:∀x,foldedSetIterable iter X.env x=pure x:=by intro _;rfl) (hi':X.N[i]?=some y:=by rfl) (hx:Loc X.env.scope y:=by walk_at "v2")
  (hsw:swapsWith (.ListComp elt [⟨tgt,iter,ifs,0⟩] scope pos) (some (.Name y pos')) pos2.line X.env=pure true:=by rfl) (hf:X.fn y=true\/X.env.scope.names.lookup y=some .local :=by walk_at "v1") :
  DS X.nox (.Assign [.Name y pos'] (.ListComp elt [⟨tgt,iter,ifs,0⟩] scope pos) pos2) (dSet i (AQ src tn.length caps g tc te)):=by
 obtain⟨wi,hi,hw⟩:=hi;refine PS.imp (qj (g:=upG X.K g) (tc:=upT X.K tc) (te:=up X.K te) tn caps hcalm hclos hcell hkind hnames hcl hhas hcap hi hb hs hN hi' hx hsw hf) λE σ H ⟨G,δ,P,R,s,h,k,_⟩=>?_;refine hw G δ P σ H _ _ s h λxs δ1 ⟨hz,f,hf,r⟩ J P1 H1 hP s1 hgo hst hyl p hp=>?_
 exact lR (Q:=λx H1=>sj i x σ H1 E.nx) s1 hz (λA i H x hi=>hgo A _ _ i H x hi) (λA H x=>hst A _ _ H x) (λA i x H H2 s hi hy=>hyl A _ _ i x H H2 s hi hy) hf (λv H' s'=>k _ r _ H' ((s'.sub (P':=(.lst (xs.filterMap f),v)::P) λq hq=>by
  rcases F7.mp hq with rfl | hq
  ·simp
  ·exact FU _ (hP q hq)).set (by simp) λp hp=>by simp[hp])) p hp
section
variable {X:Cx} {tg e:Expr} {te:FQ}
def iSeq(K:PySem.W.Frag)(tl:TE):TI:=λσ H R=>tl σ H λx H1=>(∃a,x=.ref a/\(∃xs,FA K H1 a xs)/\R (Itl K a) H1)\/∃a,x=.ref a/\(∃xs,Fv K H1 a xs)/\R (Itt K a) H1
def C9{l:Expr}{tl:TE}(hl:PE X l tl):PI X tg l (iSeq X.K tl):=by
 intro pins s σ H R I h;refine FG (hl pins s σ H _ I h) λv s1 ⟨x,H1,I1,r1,q1⟩=>?_
 rcases q1 with⟨a,e,⟨xs,hq⟩,q⟩ | ⟨a,e,⟨xs,hq⟩,q⟩
 ·subst e
  cases r1
  obtain⟨its,rv,p,hz⟩:=I1.list hq;refine HI p.isList ?_;refine⟨s1.heap.objs.size,[s1.heap.objs.size],_,_,H1,rfl,I1.kept (t':=s1.toks) λb o e=>Heap.get?_push_of_some _ e,lS a _,⟨_,Heap.get?_push_size _ rfl,rfl,rfl⟩,λb hb=>?_,q⟩;have e:b=s1.heap.objs.size:=by simpa using hb
  subst e;exact I1.fpOk (F3 _) (I1.hok.fresh (F3 _))
 ·subst e
  cases r1
  obtain⟨its,rv,p,hz⟩:=I1.tuple hq;refine wpAny_pyIter_tuple p ?_;refine⟨s1.heap.objs.size,[s1.heap.objs.size],_,_,H1,rfl,I1.kept (t':=s1.toks) λb o e=>Heap.get?_push_of_some _ e,j3 a _,⟨_,Heap.get?_push_size _ rfl,rfl,rfl⟩,λb hb=>?_,q⟩;have e:b=s1.heap.objs.size:=by simpa using hb
  subst e;exact I1.fpOk (F3 _) (I1.hok.fresh (F3 _))
def qY:D->(List D->Prop)->Prop
 | .lst xs,k=>k xs
 | .tup xs,k=>k xs
 | _,_=>False
def qY.ex{d:D}{k:List D->Prop}(h:qY d k):∃b xs,d=sq b xs/\k xs:=by
 cases d<;>first | exact False.elim h | exact⟨true,_,rfl,h⟩ | exact⟨false,_,rfl,h⟩
def dcSq(t:FQ)(δ:En)(R:List D->En->Prop):Prop:=t δ (wd λd δ1=>qY d λxs=>R xs δ1)
def ED(h:DE X e te):CI X tg e (dcSq te):=⟨_,C9 h,λG δ P σ H R Q s hs k=>up.mk s hs λd δ1 h1 v H1 s1=>by
 replace h1:=qY.ex h1;obtain⟨kk,xs,e,r⟩:=h1;subst e;have hat:∀A δ σ H,Sx X.K G A δ ((sq kk xs,v)::P) σ H->∃a vs,v=.ref a/\SqV kk X.K H a vs/\Reps X.K (λb=>G.M0 b\/A b) H xs vs:=λA δ σ H x=>u6 (x.pnd (sq kk xs,v) (by simp));obtain⟨A1,x1⟩:=id s1;obtain⟨a,vs0,rfl,l0,_⟩:=hat _ _ _ _ x1
 cases kk
 ·refine .inr ⟨a,rfl,⟨vs0,l0⟩,k xs δ1 r _ _ H1 (λq hq=>by simp[hq]) s1 (λA δ σ i H x hi=>?_) (λA δ σ H x=>?_) λA δ σ i y H H2 x hi hy=>?_⟩
  ·obtain⟨b,vs,e,l,r⟩:=hat _ _ _ _ x
   cases e
   obtain⟨w',hw,_⟩:=Reps.get _ _ r i xs[i] (by simp[hi]);exact⟨vs,w',l,hw⟩
  ·obtain⟨b,vs,e,l,r⟩:=hat _ _ _ _ x
   cases e
   exact⟨vs,l,by rw[Reps.length _ _ r];exact F3 _⟩
  ·obtain⟨b,vs,e,l,r⟩:=hat _ _ _ _ x
   cases e
   obtain⟨e,hy⟩:=hy;obtain⟨w',hw,rw'⟩:=Reps.get _ _ r i xs[i] (by simp[hi]);have z:=hy vs l;rw[hw] at z
   cases z
   subst e;exact⟨bY.refl _,xs[i],by simp[hi],rw'⟩
 ·refine .inl ⟨a,rfl,⟨vs0,l0⟩,k xs δ1 r _ _ H1 (λq hq=>by simp[hq]) s1 (λA δ σ i H x hi=>?_) (λA δ σ H x=>?_) λA δ σ i y H H2 x hi hy=>?_⟩
  ·obtain⟨b,vs,e,l,r⟩:=hat _ _ _ _ x
   cases e
   obtain⟨w',hw,_⟩:=Reps.get _ _ r i xs[i] (by simp[hi]);exact⟨vs,w',l,hw⟩
  ·obtain⟨b,vs,e,l,r⟩:=hat _ _ _ _ x
   cases e
   exact⟨vs,l,by rw[Reps.length _ _ r];exact F3 _⟩
  ·obtain⟨b,vs,e,l,r⟩:=hat _ _ _ _ x
   cases e
   obtain⟨e,hy⟩:=hy;obtain⟨w',hw,rw'⟩:=Reps.get _ _ r i xs[i] (by simp[hi]);have z:=hy vs l;rw[hw] at z
   cases z
   subst e
   exact⟨bY.refl _,xs[i],by simp[hi],rw'⟩⟩
end
end DL
namespace DL
open PySem PySem.Spec PyProof.Rows L2
def Dw(i:Nat)(f:List D->(D->Prop)->Prop)(ta:FQ)(δ:En)(R:W->En->Prop):Prop:=qW δ[i]? λa _=>ta δ (wd λz δ1=>qWe δ1[i]? λd=>f [d,z] (kI R δ1))
def yx{X:Cx}{b:Expr}{tb:FQ}{f:List D->(D->Prop)->Prop}{x y:Str}{k:Nat}{ps:List Str}{p p2 pos:Pos}(i:Nat)(C:Cal X.prog X.w X.K X.mg X.base k x ps (Fh X.K f))(hr:fQ k X.A)(hg:Gl X x)(hb:DE X b tb)(hN:X.N[i]?=some y:=by rfl)
  (hv:Vis X.env.scope y:=by walk_at "v3") (hd:(y==("__debug__":Str))=false:=by decide) (hcd:(y==("__classdict__":Str))=false:=by decide)
  (hdb:(x==("__debug__":Str))=false:=by decide) (he:starEach [.Name y p2,b] X.env=(false,eval (.Name y p2) X.env)::starEach [b] X.env:=by rfl) (he1:starEach [b] X.env=(false,eval b X.env)::starEach [] X.env:=by rfl)
  (hpl:(backTo pos (starEach [b] X.env)).any (·.1)=false:=by rfl) :
  DE X (.Call (.Name x p) [.Name y p2,b] [] pos) (Dw i f tb):=by
 obtain⟨g,fd,F,b',kp,m⟩:=C.ex;refine PE.imp (kU F hr hg m kp b' .nil wa (bC (dJ hN hv hd hcd) (bC hb eB he1) he) hdb he hpl) λσ H Q ⟨G,δ,P,R,s,h,k,_⟩=>?_;replace h:=qW.ex h;obtain⟨a0,d00,hi0,h⟩:=h;refine⟨.ref a0,s.own hi0,up.mk s h λz δ1 h1 v H1 s1=>?_⟩;obtain⟨A,q⟩:=s1;replace h1:=qWe.ex q (s.own hi0) h1;obtain⟨d0,hi,hf⟩:=h1;show aU X.K f ([.ref a0,v]++[]) H1 Q;rw[GH];obtain⟨_,aa,oo⟩:=q.own i a0 d0 hi;have hM:∀b,((G.M0 b\/A b)/\b≠a0)->(G.M0 b\/A b)\/H1 b=none:=λb h=>.inl h.1;refine⟨λb=>(G.M0 b\/A b)/\b≠a0,[d0,z],λr=>r.im=true/\R (.d r) δ1,λb h=>q.mem b h.1,Reps.cons (oo.rep (λz=>z.2 rfl) λb z=>z.1) (Reps.one (Fr.more hM _ _ (q.pnd (z,v) (by simp)))),hf,λr ⟨im,hr⟩ u H' sm rp=>?_⟩;exact k r δ1 hr u H' ⟨A,((q.same sm).sub (P':=P) λp hp=>by simp[hp]).push (Fr.im _ _ im rp)⟩
end DL
namespace DL
open PySem PySem.Spec PyProof.Rows L2
section
variable {X:Cx} {pos:Pos} {a b e:Expr} {ta tb:FQ}
def Ei:FH X (binaryOp .LShift) λx y=>aU X.K (fI CPow λi j=>.int (i*2 ^ j.toNat)) [x,y]:=opI Cu (λ_ _=>rfl) λ_ _ h=>h
end
section
variable {K:PySem.W.Frag} {G:Gf} {A A':Addr→Prop} {δ δ':List Sl} {P P':List (D×V)} {σ σ':L2.St} {H H':Hp} {p:Addr}
def Sx.inner(s:Sx K G (λb=>A b\/b=p) δ P σ H)(hp:¬ A p)(ho:∀(i:Nat) a d,δ[i]?=some (.own a d)->A a):Sx K ⟨λb=>G.M0 b\/b=p,H,A⟩ A δ P σ H:=by
 have hM:∀b,((G.M0 b\/b=p)\/A b)->(G.M0 b\/(A b\/b=p))\/H b=none:=λb h=>.inl (by
  rcases h with(h | h) | h
  ·exact .inl h
  ·exact .inr (.inr h)
  ·exact .inr (.inl h))
 refine⟨λb o h _=>h,λb h=>h,λb h=>?_,λb h=>⟨s.thr b (.inl h),?_⟩,λb h=>.inr h,λb h=>s.thr b (.inl h),s.len,λi d e=>let ⟨v,q,r⟩:=s.dat i d e;⟨v,q,Fr.more hM _ _ r⟩,λi a d e=>let ⟨q,_,o⟩:=s.own i a d e;⟨q,ho i a d e,bm.more hM o⟩,s.inj,λq hq=>Fr.more hM _ _ (s.pnd q hq)⟩
 ·rcases h with h | h
  ·exact s.stay b (s.m0 b h)
  ·exact s.thr b (.inr h)
 ·rintro(z | z)
  ·rcases s.new b (.inl h) with q | q
   ·exact s.m0 b z q
   ·exact(s.pm b q).2 z
  ·exact hp (by rw[<- z];exact h)
def Sx.outer(s:Sx K G (λb=>A b\/b=p) δ P σ H)(h0:G.H0 p=none)(t:Sx K ⟨λb=>G.M0 b\/b=p,H,A⟩ A' δ' P' σ' H'):Sx K G (λb=>A' b\/b=p) δ' P' σ' H':=by
 have hM:∀b,(G.M0 b\/(A' b\/b=p))->((G.M0 b\/b=p)\/A' b)\/H' b=none:=λb h=>.inl (by
  rcases h with h | h | h
  ·exact .inl (.inl h)
  ·exact .inr h
  ·exact .inl (.inr h))
 refine⟨λb o h hn=>t.old b o (s.old b o h hn) (λz=>?_),λb h=>t.stay b (s.stay b h),s.m0,s.pm,λb h=>?_,λb h=>?_,t.len,λi d e=>let ⟨v,q,r⟩:=t.dat i d e;⟨v,q,Fr.more hM _ _ r⟩,λi a d e=>let ⟨q,r,o⟩:=t.own i a d e;⟨q,.inl r,bm.more hM o⟩,t.inj,λq hq=>Fr.more hM _ _ (t.pnd q hq)⟩
 ·rcases s.new b (.inl z) with q | q
  ·rw[q] at h;cases h
  ·exact hn q
 ·rcases h with h | h
  ·rcases t.new b h with q | q
   ·refine .inl ?_
    cases e:G.H0 b with
    | none=>rfl
    | some o=>exact absurd q (s.stay b (by rw[e];exact λz=>nomatch z))
   ·exact s.new b (.inl q)
  ·exact .inl (by rw[h];exact h0)
 ·rcases h with h | h
  ·exact t.thr b h
  ·exact t.stay b (s.thr b (.inr h))
def Sx.pokeD{kvs kvs':List (Fo×V)}(s:Sx K G A δ P σ H)(hp:A p)(hv:H p=some (.dK kvs))(hno:∀(i:Nat) d,δ[i]?≠some (.own p d)):Sx K G A δ P σ (FI H p (.dK kvs')):=by
 have hk:∀b o,b≠p->H b=some o->FI H p (.dK kvs') b=some o:=λb o n e=>by rw[aI n];exact e
 have kp:Kp (λb=>G.M0 b\/A b) H (FI H p (.dK kvs')):=⟨λb o e n=>hk b o (λz=>n (.inr (by rw[z];exact hp))) e,λb xs e=>hk b _ (λz=>by rw[z,hv] at e;cases e) e,λb o u e=>hk b _ (λz=>by rw[z,hv] at e;cases e) e⟩
 have stay:∀b,H b≠none->FI H p (.dK kvs') b≠none:=λb e=>by
  by_cases z:b=p
  ·rw[z,aF];exact λz=>nomatch z
  ·rw[aI z];exact e
 have na:∀b o,G.H0 b=some o->¬ G.Pm b->b≠p:=λb o e n z=>(s.new p hp).elim (λq=>by rw[z] at e;rw[e] at q;cases q) λq=>n (by rw[z];exact q)
 refine⟨λb o e n=>hk b o (na b o e n) (s.old b o e n),λb e=>stay b (s.stay b e),s.m0,s.pm,s.new,λb e=>stay b (s.thr b e),s.len,λi d e=>let ⟨v,q,r⟩:=s.dat i d e;⟨v,q,Fr.kp kp _ _ r⟩,λi a d e=>?_,s.inj,λq hq=>Fr.kp kp _ _ (s.pnd q hq)⟩;obtain⟨q,r,o⟩:=s.own i a d e;have ne:a≠p:=λz=>by subst z;exact hno i d e
 exact⟨q,r,bm.kp kp (by rw[aI ne]) o⟩
end
section
variable {X:Cx} {pos:Pos} {a b e:Expr} {ta tb:FQ}
def xQ(i:Nat)(k l:Str)(ta tb:FQ)(R:a4)(δ:En):Prop:=ta δ (wd λx δ1=>tb δ1 (wd λy δ2=>k≠l/\∀a,lH δ2 i (.own a (.dct [k,l] [x,y])) R.nx))
def wW(i:Nat){x k l:Str}{j1 j2}{p p1 p2 pos':Pos}(hN:X.N.Nodup)(ha:DE X a ta)(hb:DE X b tb)(hi:X.N[i]?=some x:=by rfl)(hx:Loc X.env.scope x:=by walk_at "v2")
  (hs:swapsWith (.Dict [some (.Constant (.str k) j1 p1),some (.Constant (.str l) j2 p2)] [a,b] p) (some (.Name x pos')) pos.line X.env=pure false:=by rfl)
  (hf:X.fn x=true\/X.env.scope.names.lookup x=some .local :=by walk_at "v1") :
  DS X (.Assign [.Name x pos'] (.Dict [some (.Constant (.str k) j1 p1),some (.Constant (.str l) j2 p2)] [a,b] p) pos) (xQ i k l ta tb) :=
 PS.imp (mD hN hi hx (yN (qx uQ ha (qx uQ hb Aw)) rfl rfl (λz=>nomatch z) (by show 2<=15;decide)) hs hf) λE σ H ⟨G,δ,P,R,⟨A,s⟩,h,kk,_⟩=>λp hp=>by
  have nA:¬ A p:=λz=>s.thr p z hp
  have h0:G.H0 p=none:=by
   cases q:G.H0 p with
   | none=>rfl
   | some o=>exact absurd hp (s.stay p (by rw[q];exact λz=>nomatch z))
  have hg:FI H p (.dK []) p=some (.dK []):=aF
  have s1:=s.addA hp (aG hp (.dK [])) (by rw[hg];exact λz=>nomatch z)
  have sin:=s1.inner nA (λi a d e=>(s.own i a d e).2.1)
  refine⟨_,δ,P,_,⟨A,sin⟩,h,λxv δ1 r1 v H2 s2=>?_,λi δ' r=>r.elim⟩;refine⟨_,δ1,(xv,v)::P,_,s2,r1,λyv δ2 r2 u H3 s3=>?_,λi δ' r=>r.elim⟩;obtain⟨ne,r2⟩:=r2;obtain⟨A3,x3⟩:=s3;have e3:H3 p=some (.dK []):=x3.old p _ hg nA;have n3:¬ A3 p:=λz=>by
   rcases x3.new p z with q | q
   ·have q:FI H p (.dK []) p=none:=q
    rw[hg] at q;cases q
   ·exact nA q
  have hno:∀(j:Nat) d,δ2[j]?≠some (.own p d):=λj d e=>n3 (x3.own j p d e).2.1
  have x4:=s1.outer h0 x3
  have x5:=x4.pokeD (kvs':=bg [k,l] [v,u]) (.inr rfl) e3 hno
  refine⟨e3,bg [k,l] [v,u],rfl,by show 2<=15;decide,?_⟩;have em:ke [] (bg [k,l] [v,u])=bg [k,l] [v,u]:=by
   show j9 (j9 [] (Sum.inr k) v) (Sum.inr l) u=[(Sum.inr k,v),(Sum.inr l,u)]
   unfold j9;simp[ne]
  rw[em];refine kk _ (r2 p) _ _ ⟨_,x5.slot (P':=P) (.inr rfl) ⟨[v,u],aF,rfl,?_⟩ hno λq hq=>FU _ (FU _ hq)⟩
  exact x5.reps [xv,yv] [v,u] rfl (λq hq=>by
   rcases F7.mp hq with rfl | hq
   ·exact FU _ (FW ..)
   ·rw[F6.mp hq];exact FW ..)
end
end DL
namespace DL
open PySem PySem.Spec PyProof.Rows L2
variable {K:PySem.W.Frag} {x x1 x2:Str} {st:Stmt} {h:Heap} {mg:Str→Option Value}
def FdK.fd{ps:List Str}(q:FdK K x st)(X:K.In h)(G:h.Ns mainGlobals mg)
  (b:∀(kV doc pm:Value) (an:Option Addr) (cdv ct:Value) (us:List Value),us.length=ps.length->bindArgs (PySem.W.fnOf x x (cP st) (bG st) (ap st) .none kV doc pm an cdv ct) ⟨us,[]⟩=pure (ps.zip us)):Fd K mg x st ps:=by
 obtain⟨f,oc,od,an,sl,kV,dc,pm,cd,ct,a,l,c,k⟩:=q.ex;have F:=xZ (st:=st) l c k;exact⟨_,_,F,F.binds (ps:=ps) b,Ib X G a⟩
def ir{α:Type}{l:List α}{n:Nat}(h:l.length=n+1):∃a r,l=a::r/\r.length=n:=by
 cases l with
 | nil=>cases h
 | cons a r=>exact⟨a,r,rfl,HD h⟩
def len1{α:Type}{l:List α}(h:l.length=1):∃a,l=[a]:=by
 obtain⟨a,r,rfl,h1⟩:=ir h;rw[Hv h1];exact⟨a,rfl⟩
def len2{α:Type}{l:List α}(h:l.length=2):∃a b,l=[a,b]:=by
 obtain⟨a,r,rfl,h1⟩:=ir h;obtain⟨b,rfl⟩:=len1 h1;exact⟨a,b,rfl⟩
def len3{α:Type}{l:List α}(h:l.length=3):∃a b c,l=[a,b,c]:=by
 obtain⟨a,r,rfl,h1⟩:=ir h;obtain⟨b,c,rfl⟩:=len2 h1;exact⟨a,b,c,rfl⟩
def len4{α:Type}{l:List α}(h:l.length=4):∃a b c d,l=[a,b,c,d]:=by
 obtain⟨a,r,rfl,h1⟩:=ir h;obtain⟨b,c,d,rfl⟩:=len3 h1;exact⟨a,b,c,d,rfl⟩
def FdK.fd1(q:FdK K x st)(X:K.In h)(G:h.Ns mainGlobals mg)
  (b:∀(kV doc pm:Value) (an:Option Addr) (cdv ct u1:Value),bindArgs (PySem.W.fnOf x x (cP st) (bG st) (ap st) .none kV doc pm an cdv ct) ⟨[u1],[]⟩=pure [(x1,u1)]):Fd K mg x st [x1] :=
 q.fd X G λkV doc pm an cdv ct us hl=>by
  obtain⟨u1,rfl⟩:=len1 hl;exact b kV doc pm an cdv ct u1
def FdK.fd2(q:FdK K x st)(X:K.In h)(G:h.Ns mainGlobals mg)
  (b:∀(kV doc pm:Value) (an:Option Addr) (cdv ct u1 u2:Value),bindArgs (PySem.W.fnOf x x (cP st) (bG st) (ap st) .none kV doc pm an cdv ct) ⟨[u1,u2],[]⟩=pure [(x1,u1),(x2,u2)]):Fd K mg x st [x1,x2] :=
 q.fd X G λkV doc pm an cdv ct us hl=>by
  obtain⟨u1,u2,rfl⟩:=len2 hl;exact b kV doc pm an cdv ct u1 u2
def FdK.fd3{x3:Str}(q:FdK K x st)(X:K.In h)(G:h.Ns mainGlobals mg)
  (b:∀(kV doc pm:Value) (an:Option Addr) (cdv ct u1 u2 u3:Value),bindArgs (PySem.W.fnOf x x (cP st) (bG st) (ap st) .none kV doc pm an cdv ct) ⟨[u1,u2,u3],[]⟩=pure [(x1,u1),(x2,u2),(x3,u3)]):Fd K mg x st [x1,x2,x3] :=
 q.fd X G λkV doc pm an cdv ct us hl=>by
  obtain⟨u1,u2,u3,rfl⟩:=len3 hl;exact b kV doc pm an cdv ct u1 u2 u3
def FdK.fd4{x3 x4:Str}(q:FdK K x st)(X:K.In h)(G:h.Ns mainGlobals mg)
  (b:∀(kV doc pm:Value) (an:Option Addr) (cdv ct u1 u2 u3 u4:Value),bindArgs (PySem.W.fnOf x x (cP st) (bG st) (ap st) .none kV doc pm an cdv ct) ⟨[u1,u2,u3,u4],[]⟩=pure [(x1,u1),(x2,u2),(x3,u3),(x4,u4)]):Fd K mg x st [x1,x2,x3,x4] :=
 q.fd X G λkV doc pm an cdv ct us hl=>by
  obtain⟨u1,u2,u3,u4,rfl⟩:=len4 hl;exact b kV doc pm an cdv ct u1 u2 u3 u4
def rm{j k:Nat}{A:Around}(h:fQ k A)(e:j<=k:=by decide):fQ j A:=h.mono e
end DL
namespace DL
open PySem PySem.Spec PyProof.Rows L2
def EM(td tk tx:FQ)(δ:En)(R:W->En->Prop):Prop:=td δ (wd λd δ0=>qZ d λks ds=>tk δ0 (wd λz δ1=>qX z λy=>tx δ1 (wd λx δ2=>R (.d ((dAt ks ds y).getD x)) δ2)))
def sK{X:Cx}{o e f:Expr}{td ta tb:FQ}{apos cpos:Pos}(hu:X.A.units+64<cLine)(ho:DE X o td)(he:DE X e ta)(hf:DE X f tb)(m:M2 X o "get" apos e f cpos:=by exact⟨rfl,rfl,rfl,rfl⟩) :
  DE X (.Call (.Attribute o "get" apos) [e,f] [] cpos) (EM td ta tb) :=
 PE.imp (pk (by omega) ho he hf m) λσ H Q ⟨G,δ,P,R,s,h0,k,_⟩=>up.mk s h0 λd δ0 h1 v H0 s0=>by
  replace h1:=qZ.ex h1;obtain⟨ks,ds,ed,h1⟩:=h1;have rd:∀H':Hp,∀M:Addr->Prop,Fr X.K M H' d v->∃a vs,v=.ref a/\Rd H' a (.dK (bg ks vs))/\Reps X.K M H' ds vs:=λH' M r=>by
   rcases ed with rfl | rfl
   ·unfold Fr at r;obtain⟨a,vs,e,_,he,l,rs⟩:=r;exact⟨a,vs,e,.inl he,rs⟩
   ·unfold Fr at r;obtain⟨a,vs,o,e,he,l,rs⟩:=r;exact⟨a,vs,e,.inr ⟨o,he⟩,rs⟩
  obtain⟨A0,q0⟩:=id s0;obtain⟨a,vs0,rfl,e0,_⟩:=rd _ _ (q0.pnd (d,v) (by simp));refine⟨a,rfl,.inl ⟨_,e0⟩,up.mk s0 h1 λz δ1 h2 u H1 s1=>?_⟩;replace h2:=qX.ex h2;obtain⟨y,ez,h2⟩:=h2;subst ez;refine up.mk s1 h2 λx δ2 h3 w H2 ⟨A,q⟩=>?_;have p2:u=.str y:=bD (q.pnd (.str y,u) (by simp));obtain⟨a',vs,ea,e2,rs⟩:=rd _ _ (q.pnd (d,.ref a) (by simp))
  cases ea
  have g:oR H2 a (kV (Sum.inr y)) (nP (bg ks vs) (Sum.inr y)):=.inl ⟨_,_,e2,rfl,rfl⟩
  rw[dU] at g;refine⟨_,by rw[p2];exact g,?_⟩
  cases ed:dAt ks ds y with
  | some d' =>
   obtain⟨w',hw,rw'⟩:=(Reps.dAt y ks ds vs rs).1 d' ed;rw[ed] at h3;rw[hw];exact k d' δ2 h3 w' H2 ⟨A,(q.sub (P':=P) λp hp=>by simp[hp]).push rw'⟩
  | none =>
   have hw:=(Reps.dAt y ks ds vs rs).2 ed
   rw[ed] at h3;rw[hw]
   exact k x δ2 h3 w H2 ⟨A,q.sub λp hp=>by
    rcases F7.mp hp with rfl | hp
    ·simp
    ·simp[hp]⟩
end DL
namespace DL
open PySem PySem.Spec PyProof.Rows L2
section
variable {X:Cx} {a:Expr} {ta:FQ} {apos cpos p1:Pos}
end
end DL
namespace Mf
abbrev V:=Nat->Rat
def Fg:Nat->V->V->Rat
 | 0,_,_=>0
 | m+1,c,w=>Fg m c w+c m*w m
def c7(c u v:V)(a b:Rat):∀m,Fg m c (λi=>a*u i+b*v i)=a*Fg m c u+b*Fg m c v
 | 0=>by show (0:Rat)=a*0+b*0;grind
 | m+1=>by show Fg m c _+_=a*(Fg m c u+_)+b*(Fg m c v+_);rw[c7 c u v a b m];grind
def qz(e c w:V)(a b:Rat):∀m,Fg m (λi=>a*e i+b*c i) w=a*Fg m e w+b*Fg m c w
 | 0=>by show (0:Rat)=a*0+b*0;grind
 | m+1=>by show Fg m _ w+_=a*(Fg m e w+_)+b*(Fg m c w+_);rw[qz e c w a b m];grind
def ix{c w w':V}:∀ {m},(∀i,i<m->w i=w' i)->Fg m c w=Fg m c w'
 | 0,_=>rfl
 | m+1,h=>by show Fg m c w+_=Fg m c w'+_;rw[ix λi hi=>h i (by omega),h m (by omega)]
def sz(m:Nat)(w:V):Nat:=((List.range m).filter λi=>decide (w i≠0)).length
def eK(m:Nat)(w:V):sz (m+1) w=sz m w+if w m=0 then 0 else 1:=by
 unfold sz;rw[List.range_succ,List.filter_append,F1]
 by_cases h:w m=0<;>simp[h]
def wn{w w':V}:∀(m:Nat),(∀i,i<m->w' i≠0->w i≠0)->sz m w'<=sz m w
 | 0,_=>F3 _
 | m+1,h=>by
  rw[eK,eK];have:=wn m λi hi=>h i (by omega);have:=h m (by omega)
  grind
def AG{w w':V}{q:Nat}:∀(m:Nat),(∀i,i<m->w' i≠0->w i≠0)->q<m->w q≠0->w' q=0->sz m w'<sz m w
 | 0,_,hq,_,_=>by omega
 | m+1,h,hq,h1,h2=>by
  rw[eK,eK];have h3:=wn m λi hi=>h i (by omega);have h4:=h m (by omega)
  by_cases e:q=m
  ·subst e;grind
  ·have:=AG m (λi hi=>h i (by omega)) (by omega) h1 h2
   grind
variable {m:Nat} {st:Nat→Bool}
def sat(m:Nat)(st:Nat->Bool)(e w:V):Prop:=0<Fg m e w\/(Fg m e w=0/\∀i,i<m->0<w i->st i=false)
def km{e u v:V}{a b:Rat}(hu:sat m st e u)(hv:sat m st e v)(ha:0<=a)(hb:0<=b):sat m st e (λi=>a*u i+b*v i):=by
 unfold sat;rw[c7];have hu0:0<=Fg m e u:=by rcases hu with h | h<;>grind
 have hv0:0<=Fg m e v:=by rcases hv with h | h<;>grind
 have h1:=GF ha hu0
 have h2:=GF hb hv0
 by_cases z:0<a*Fg m e u+b*Fg m e v
 ·exact .inl z
 ·refine .inr ⟨by grind,λi hi hw=>?_⟩;have e1:a*Fg m e u=0:=by grind
  have e2:b*Fg m e v=0:=by grind
  have pos:0<a*u i\/0<b*v i:=by grind
  rcases pos with p | p
  ·have ha':0<a:=by
    refine F4 λz=>?_;have:a=0:=by grind
    rw[this] at p;grind
   have hu':0<u i:=by
    refine F4 λz=>?_;have:=GF ha (b:=- u i) (by grind)
    grind
   rcases hu with h | h
   ·have:=G4 ha' h;grind
   ·exact h.2 i hi hu'
  ·have hb':0<b:=by
    refine F4 λz=>?_;have:b=0:=by grind
    rw[this] at p;grind
   have hv':0<v i:=by
    refine F4 λz=>?_;have:=GF hb (b:=- v i) (by grind)
    grind
   rcases hv with h | h
   ·have:=G4 hb' h;grind
   ·exact h.2 i hi hv'
def dN{e w w':V}(h:∀i,i<m->w i=w' i)(s:sat m st e w):sat m st e w':=by
 unfold sat at s ⊢;rw[<- ix h];exact s.imp id λ⟨h1,h2⟩=>⟨h1,λi hi hp=>h2 i hi (by rw[h i hi];exact hp)⟩
theorem oG:∀(cs:List V) (J:List Nat),J.Nodup->cs.length<J.length->∃d:V,(∀i,d i≠0->i∈J)/\(∃i,d i≠0)/\∀c∈cs,Fg m c d=0
 | [],J,nd,h=>by
  cases J with
  | nil=>simp at h
  | cons j J=>exact⟨λi=>if i=j then 1 else 0,λi hi=>by by_cases e:i=j<;>simp_all,⟨j,by simp⟩,λc hc=>nomatch hc⟩
 | c::cs,J,nd,h=>by
  cases J with
  | nil=>simp at h
  | cons j J =>
   have h:cs.length+1<J.length+1:=h
   obtain⟨nj,ndJ⟩:=GU.mp nd;obtain⟨d1,a1,⟨i,hi⟩,b1⟩:=oG cs J ndJ (by omega);have him:=a1 i hi;obtain⟨d2,a2,⟨k,hk⟩,b2⟩:=oG cs ((j::J).erase i) (nd.erase i) (by rw[List.length_erase_of_mem (FU _ him)];simpa using by omega);have hd2i:d2 i=0:=F4 λz=>((nd.mem_erase_iff).mp (a2 i z)).1 rfl
   by_cases e:Fg m c d2=0
   ·refine⟨d2,λi hi=>List.mem_of_mem_erase (a2 i hi),⟨k,hk⟩,λc' hc'=>?_⟩
    rcases F7.mp hc' with rfl | hc'
    ·exact e
    ·exact b2 c' hc'
   ·refine⟨λi=>Fg m c d2*d1 i+(- Fg m c d1)*d2 i,λx hx=>?_,⟨i,?_⟩,λc' hc'=>?_⟩
    ·by_cases z1:d1 x=0
     ·by_cases z2:d2 x=0
      ·refine absurd ?_ hx;show _*d1 x+_*d2 x=0;rw[z1,z2];grind
      ·exact List.mem_of_mem_erase (a2 x z2)
     ·exact FU _ (a1 x z1)
    ·show _*d1 i+_*d2 i≠0
     rw[hd2i];intro z;have:Fg m c d2*d1 i=0:=by grind
     rcases Ic.mp this with q | q
     ·exact e q
     ·exact hi q
    ·rw[c7]
     rcases F7.mp hc' with rfl | hc'
     ·grind
     ·rw[b1 c' hc',b2 c' hc'];grind
def yS{w d:V}(hw:∀i,0<=w i)(hd:∀i,d i≠0->0<w i):∀(J:List Nat),(∃i∈J,0<d i)->∃t,0<t/\(∀i∈J,0<=w i-t*d i)/\∃q∈J,0<d q/\w q-t*d q=0
 | [],⟨i,hi,_⟩=>nomatch hi
 | j::J,h=>by
  have one:∀i,0<d i->0<w i / d i/\w i-(w i / d i)*d i=0:=λi hi=>by
   have hwi:=hd i (by grind)
   exact⟨by rw[Rat.lt_div_iff hi];grind,by grind⟩
  by_cases hJ:∃i∈J,0<d i
  ·obtain⟨t,t0,h1,q,hq,dq,eq⟩:=yS hw hd J hJ
   by_cases hj:0<=w j-t*d j
   ·refine⟨t,t0,λi hi=>?_,q,FU _ hq,dq,eq⟩
    rcases F7.mp hi with rfl | hi
    ·exact hj
    ·exact h1 i hi
   ·have dj:0<d j:=by
     refine F4 λz=>hj ?_;have:=GF (a:=t) (b:=- d j) (by grind) (by grind);have:=hw j
     grind
    obtain⟨o1,o2⟩:=one j dj;have lt:w j / d j<t:=by
     refine F4 λz=>hj ?_;have:=GF (a:=w j / d j-t) (b:=d j) (by grind) (by grind)
     grind
    refine⟨w j / d j,o1,λi hi=>?_,j,FW ..,dj,o2⟩
    rcases F7.mp hi with rfl | hi
    ·grind
    ·by_cases di:0<d i
     ·have:=h1 i hi
      have:=GF (a:=t-w j / d j) (b:=d i) (by grind) (by grind)
      grind
     ·have:=GF (a:=w j / d j) (b:=- d i) (by grind) (by grind)
      have:=hw i
      grind
  ·have dj:0<d j:=by
    obtain⟨i,hi,p⟩:=h
    rcases F7.mp hi with rfl | hi
    ·exact p
    ·exact absurd ⟨i,hi,p⟩ hJ
   obtain⟨o1,o2⟩:=one j dj;refine⟨w j / d j,o1,λi hi=>?_,j,FW ..,dj,o2⟩
   rcases F7.mp hi with rfl | hi
   ·grind
   ·have di:¬ 0<d i:=λp=>hJ ⟨i,hi,p⟩
    have:=GF (a:=w j / d j) (b:=- d i) (by grind) (by grind)
    have:=hw i
    grind
structure Nn(m:Nat)(w:V):Prop where
 pos:∀i,0<=w i
 top:∀i,m<=i->w i=0
structure Sub(m:Nat)(cs:List V)(w u:V):Prop where
 nn:Nn m u
 an:∀c∈cs,Fg m c u=0
 su:∀i,u i≠0->w i≠0
 lt:sz m u<sz m w
def Bp{cs:List V}{w d:V}{p:Nat}(hw:Nn m w)(ha:∀c∈cs,Fg m c w=0)(hd:∀i,d i≠0->w i≠0)(da:∀c∈cs,Fg m c d=0)(hp:w p≠0)(dp:d p=0)(h:∃i,0<d i) :
  ∃u v a b,0<=a/\0<=b/\(∀i,w i=a*u i+b*v i)/\Sub m cs w u/\Sub m cs w v:=by
 have lt:∀ {i},w i≠0->i<m:=λ{i} h=>F4 λz=>h (hw.top i (by omega))
 have pos:∀ {i},w i≠0->0<w i:=λ{i} h=>by have:=hw.pos i;grind
 have mk:∀ {x:V} {a b:Rat},0<=a->(∀i,x i=a*w i+b*d i)->(∀i,i<m->0<=x i)->(∃q,w q≠0/\x q=0)->Sub m cs w x:=λ{x a b} ha0 hx h0 ⟨q,hq,xq⟩=>by
  have su:∀i,x i≠0->w i≠0:=λi hi z=>hi (by
   have:d i=0:=F4 λy=>hd i y z
   rw[hx i,z,this];grind)
  refine⟨⟨λi=>?_,λi hi=>F4 λz=>su i z (hw.top i hi)⟩,λc hc=>?_,su,AG m (λi _=>su i) (lt hq) hq xq⟩
  ·by_cases hi:i<m
   ·exact h0 i hi
   ·have:x i=0:=F4 λz=>su i z (hw.top i (by omega))
    rw[this];exact Rat.le_refl
  ·have:x=λi=>a*w i+b*d i:=funext hx
   rw[this,c7,ha c hc,da c hc];grind
 have hr:∀ {i},d i≠0->i∈List.range m:=λ{i} h=>GW.mpr (lt (hd i h))
 obtain⟨i,hi⟩:=h;obtain⟨t,t0,h1,q,hq,dq,eq⟩:=yS hw.pos (λi h=>pos (hd i h)) (List.range m) ⟨i,hr (by grind),hi⟩;have s1:Sub m cs w (λi=>w i-t*d i):=mk (a:=1) (b:=-t) (by grind) (λi=>by grind) (λi hi=>h1 i (GW.mpr hi)) ⟨q,hd q (by grind),eq⟩
 by_cases hn:∃i,0 < - d i
 ·obtain⟨k,hk⟩:=hn;obtain⟨t',t0',h1',q',hq',dq',eq'⟩:=yS (d:=λi=>- d i) hw.pos (λi h=>pos (hd i (by grind))) (List.range m) ⟨k,hr (by grind),hk⟩;have s2:Sub m cs w (λi=>w i-t' * - d i):=mk (a:=1) (b:=t') (by grind) (λi=>by grind) (λi hi=>h1' i (GW.mpr hi)) ⟨q',hd q' (by grind),eq'⟩;have tt:t+t'≠0:=by grind
  have e1:0<t' / (t+t'):=by rw[Rat.lt_div_iff (by grind)];grind
  have e2:0<t / (t+t'):=by rw[Rat.lt_div_iff (by grind)];grind
  refine⟨_,_,t' / (t+t'),t / (t+t'),by grind,by grind,λi=>?_,s1,s2⟩;have e3:t' / (t+t')+t / (t+t')=1:=by grind
  have e4:t' / (t+t')*t=t / (t+t')*t':=by grind
  grind
 ·have s2:Sub m cs w d:=mk (a:=0) (b:=1) (by grind) (λi=>by grind) (λi hi=>F4 λz=>hn ⟨i,by grind⟩) ⟨p,hp,dp⟩
  exact⟨_,_,1,t,by grind,by grind,λi=>by grind,s1,s2⟩
def split{cs:List V}{w:V}(hw:Nn m w)(ha:∀c∈cs,Fg m c w=0)(hz:cs.length+1<sz m w) :
  ∃u v a b,0<=a/\0<=b/\(∀i,w i=a*u i+b*v i)/\Sub m cs w u/\Sub m cs w v:=by
 have mem:∀ {i},i∈(List.range m).filter (λi=>decide (w i≠0))↔i<m/\w i≠0:=by simp
 have nd:((List.range m).filter (λi=>decide (w i≠0))).Nodup:=List.nodup_range.filter _
 unfold sz at hz;generalize hJ:(List.range m).filter (λi=>decide (w i≠0))=J at mem nd hz
 cases J with
 | nil=>simp at hz
 | cons p J =>
  obtain⟨np,ndJ⟩:=GU.mp nd;obtain⟨d,h1,⟨i,hi⟩,h3⟩:=oG (m:=m) cs J ndJ (by simpa using hz);have hd:∀i,d i≠0->w i≠0:=λi h=>(mem.mp (FU _ (h1 i h))).2;have dp:d p=0:=F4 λz=>np (h1 p z);have hp:=(mem.mp (FW ..:p∈p::J)).2
  by_cases s:0<d i
  ·exact Bp hw ha hd h3 hp dp ⟨i,s⟩
  ·have e:(λi=>- d i)=λi=>(-1)*d i+0*d i:=by funext i;grind
   exact Bp (d:=λi=>- d i) hw ha (λi h=>hd i (by grind)) (λc hc=>by rw[e,c7,h3 c hc];grind) hp (by rw[dp];grind) ⟨i,by grind⟩
def sy(v:Rat)(x:Rat×Rat×Bool):Prop:=0<x.1+v*x.2.1\/(x.1+v*x.2.1=0/\x.2.2=false)
def maxL:∀(l:List (Rat×Bool)),l≠[]->∃x∈l,∀y∈l,y.1<x.1\/(y.1=x.1/\(y.2=true->x.2=true))
 | [],h=>absurd rfl h
 | z::l,_=>by
  by_cases hl:l=[]
  ·subst hl;exact⟨z,FW ..,λy hy=>by rcases F7.mp hy with rfl | h;exact .inr ⟨rfl,id⟩;cases h⟩
  ·obtain⟨x,hx,h⟩:=maxL l hl
   by_cases c:z.1<x.1\/(z.1=x.1/\(z.2=true->x.2=true))
   ·refine⟨x,FU _ hx,λy hy=>?_⟩
    rcases F7.mp hy with rfl | hy
    ·exact c
    ·exact h y hy
   ·refine⟨z,FW ..,λy hy=>?_⟩
    rcases F7.mp hy with rfl | hy
    ·exact .inr ⟨rfl,id⟩
    ·have:=h y hy
     cases hz2:z.2<;>cases hx2:x.2<;>grind
theorem CH(L:List (Rat×Rat×Bool))(hz:∀x∈L,x.2.1=0->sy 0 x)
  (hp:∀l∈L,∀h∈L,0<l.2.1->h.2.1<0->0<l.1*(- h.2.1)+h.1*l.2.1\/(l.1*(- h.2.1)+h.1*l.2.1=0/\l.2.2=false/\h.2.2=false)):∃v,∀x∈L,sy v x:=by
 have low:(∀x∈L,¬ 0<x.2.1)\/∃l∈L,0<l.2.1/\∀x∈L,0<x.2.1->-x.1 / x.2.1 < -l.1 / l.2.1\/(-x.1 / x.2.1=-l.1 / l.2.1/\(x.2.2=true->l.2.2=true)):=by
  by_cases h:(L.filter λx=>decide (0<x.2.1)).map (λx=>(-x.1 / x.2.1,x.2.2))=[]
  ·refine .inl λx hx hp=>?_;rw[List.map_eq_nil_iff,List.filter_eq_nil_iff] at h;exact h x hx (by simpa using hp)
  ·obtain⟨y,hy,h⟩:=maxL _ h;obtain⟨l,hl,rfl⟩:=FV.mp hy;obtain⟨hl,hl2⟩:=Ga.mp hl;exact .inr ⟨l,hl,by simpa using hl2,λx hx hp=>h _ (FV.mpr ⟨x,Ga.mpr ⟨hx,by simpa using hp⟩,rfl⟩)⟩
 have high:(∀x∈L,¬ x.2.1<0)\/∃l∈L,l.2.1<0/\∀x∈L,x.2.1<0->x.1 / x.2.1<l.1 / l.2.1\/(x.1 / x.2.1=l.1 / l.2.1/\(x.2.2=true->l.2.2=true)):=by
  by_cases h:(L.filter λx=>decide (x.2.1<0)).map (λx=>(x.1 / x.2.1,x.2.2))=[]
  ·refine .inl λx hx hp=>?_;rw[List.map_eq_nil_iff,List.filter_eq_nil_iff] at h;exact h x hx (by simpa using hp)
  ·obtain⟨y,hy,h⟩:=maxL _ h;obtain⟨l,hl,rfl⟩:=FV.mp hy;obtain⟨hl,hl2⟩:=Ga.mp hl;exact .inr ⟨l,hl,by simpa using hl2,λx hx hp=>h _ (FV.mpr ⟨x,Ga.mpr ⟨hx,by simpa using hp⟩,rfl⟩)⟩
 have lo:∀(x:Rat×Rat×Bool) (v:Rat),0<x.2.1->(-x.1 / x.2.1<v\/(-x.1 / x.2.1=v/\x.2.2=false))->sy v x:=λx v hc h=>by
  have e:x.1=-((-x.1 / x.2.1)*x.2.1):=by grind
  rcases h with h | h
  ·have:=G4 (a:=v-(-x.1 / x.2.1)) (b:=x.2.1) (by grind) hc
   exact .inl (by grind)
  ·exact .inr ⟨by grind,h.2⟩
 have hi:∀(x:Rat×Rat×Bool) (v:Rat),x.2.1<0->(x.1 / x.2.1 < -v\/(x.1 / x.2.1=-v/\x.2.2=false))->sy v x:=λx v hc h=>by
  have e:x.1=(x.1 / x.2.1)*x.2.1:=by grind
  rcases h with h | h
  ·have:=G4 (a:=-v-(x.1 / x.2.1)) (b:=-x.2.1) (by grind) (by grind)
   exact .inl (by grind)
  ·exact .inr ⟨by grind,h.2⟩
 have ze:∀(x:Rat×Rat×Bool) (v:Rat),x∈L->x.2.1=0->sy v x:=λx v hx h=>by
  have:=hz x hx h
  unfold sy at this ⊢;rw[h] at this ⊢
  grind
 have done:∀v,(∀x∈L,0<x.2.1->sy v x)->(∀x∈L,x.2.1<0->sy v x)->∃v,∀x∈L,sy v x:=λv h1 h2=>⟨v,λx hx=>by
  rcases(by grind:x.2.1<0\/x.2.1=0\/0<x.2.1) with c | c | c
  ·exact h2 x hx c
  ·exact ze x v hx c
  ·exact h1 x hx c⟩
 rcases low with nl | ⟨l,hl,cl,tl⟩
 ·rcases high with nh | ⟨k,hk,ck,tk⟩
  ·exact done 0 (λx hx h=>absurd h (nl x hx)) λx hx h=>absurd h (nh x hx)
  ·exact done (-(k.1 / k.2.1)-1) (λx hx h=>absurd h (nl x hx)) λx hx h=>hi x _ h (.inl (by have:=tk x hx h;grind))
 ·rcases high with nh | ⟨k,hk,ck,tk⟩
  ·exact done (-l.1 / l.2.1+1) (λx hx h=>lo x _ h (.inl (by have:=tl x hx h;grind))) λx hx h=>absurd h (nh x hx)
  ·have pr:=hp l hl k hk cl ck
   have e1:l.1=-((-l.1 / l.2.1)*l.2.1):=by grind
   have e2:k.1=(k.1 / k.2.1)*k.2.1:=by grind
   generalize hA:-l.1 / l.2.1=A at *
   generalize hB:k.1 / k.2.1=B at *
   have pr2:A < -B\/(A=-B/\l.2.2=false/\k.2.2=false):=by
    have e3:l.1*(-k.2.1)+k.1*l.2.1=(-B-A)*(l.2.1*(-k.2.1)):=by grind
    have pp:=G4 (a:=l.2.1) (b:=-k.2.1) cl (by grind)
    rw[e3] at pr
    rcases pr with p | p
    ·refine .inl (F4 λz=>?_);have:=GF (a:=A+B) (b:=l.2.1 * -k.2.1) (by grind) (by grind)
     grind
    ·rcases Ic.mp p.1 with q | q
     ·exact .inr ⟨by grind,p.2⟩
     ·grind
   refine done ((A-B) / 2) (λx hx h=>lo x _ h ?_) λx hx h=>hi x _ h ?_
   ·have:=tl x hx h
    cases hx2:x.2.2<;>cases hl2:l.2.2<;>grind
   ·have:=tk x hx h
    cases hx2:x.2.2<;>cases hk2:k.2.2<;>grind
def Comp(m:Nat)(st:Nat->Bool)(cs:List V)(S:List V):Prop:=∀(I:Nat->Prop) (e:V),(∀s∈S,(∀i,s i≠0->I i)->sat m st e s)->∀w,Nn m w->(∀c∈cs,Fg m c w=0)->(∀i,w i≠0->I i)->sat m st e w
def Bh(j:Nat):V:=λi=>if i=j then 1 else 0
def oV{e w:V}(h:∀i,i<m->w i=0):sat m st e w:=by
 have:Fg m e w=0:=by
  rw[ix (w':=λi=>0*w i+0*w i) λi hi=>by rw[h i hi];grind,c7];grind
 exact .inr ⟨this,λi hi hp=>by rw[h i hi] at hp;grind⟩
def t4(S:List V)(h:∀j,j<m->Bh j∈S):Comp m st [] S:=by
 intro I e hs w hw _ hI;have go:∀k,k<=m->sat m st e (λi=>if i<k then w i else 0):=λk=>by
  induction k with
  | zero=>intro _;exact oV λi _=>by simp
  | succ k ih =>
   intro hk;have h1:=ih (by omega)
   by_cases z:w k=0
   ·refine dN (λi hi=>?_) h1
    by_cases e1:i<k
    ·simp[e1,Nat.lt_succ_of_lt e1]
    ·by_cases e2:i=k
     ·subst e2;simp[z]
     ·simp[e1,show ¬ i<k+1 by omega]
   ·have h2:=hs (Bh k) (h k (by omega)) λi hi=>by
     have:i=k:=F4 λy=>hi (by simp[Bh,y])
     subst this;exact hI i z
    refine dN (λi hi=>?_) (km h1 h2 (a:=1) (b:=w k) (by grind) (hw.pos k));unfold Bh
    by_cases e1:i<k
    ·simp[e1,Nat.lt_succ_of_lt e1,show i≠k by omega];grind
    ·by_cases e2:i=k
     ·subst e2;simp;grind
     ·simp[e1,e2,show ¬ i<k+1 by omega];grind
 exact dN (λi hi=>by simp[hi]) (go m (F3 m))
structure Kept(m:Nat)(c:V)(most:Nat)(S S':List V):Prop where
 nn:∀s∈S,Nn m s
 zero:∀s∈S,Fg m c s=0->s∈S'
 cross:∀l∈S,∀h∈S,0<Fg m c l->Fg m c h<0->sz m (λi=>(- Fg m c h)*l i+Fg m c l*h i)<=most->∃u∈S',∃g,0<g/\∀i,g*u i=(- Fg m c h)*l i+Fg m c l*h i
def uj(e c w:V)(v:Rat):sat m st (λi=>1*e i+v*c i) w↔(0<Fg m e w+v*Fg m c w\/(Fg m e w+v*Fg m c w=0/\∀i,i<m->0<w i->st i=false)):=by
 unfold sat;rw[qz];have:1*Fg m e w+v*Fg m c w=Fg m e w+v*Fg m c w:=by grind
 rw[this]
open Classical in
def sS{cs S S':List V}{c:V}(k:Comp m st cs S)(h:Kept m c (cs.length+2) S S'):Comp m st (c::cs) S':=by
 intro I e hs w hw ha hI;have main:∀n w,sz m w<=n->Nn m w->(∀c'∈c::cs,Fg m c' w=0)->(∀i,w i≠0->I i)->sat m st e w:=λn=>by
  induction n with
  | zero =>
   intro w hz hw _ _;refine oV λi hi=>byContradiction λz=>?_;have:=AG (w:=w) (w':=λ_=>0) m (λi _ h=>absurd rfl h) hi z rfl;omega
  | succ n ih =>
   intro w hz hw ha hI
   by_cases big:(c::cs).length+1<sz m w
   ·obtain⟨u,v,a,b,a0,b0,hwe,su,sv⟩:=split hw ha big;have h1:=ih u (by have:=su.lt;omega) su.nn su.an λi hi=>hI i (su.su i hi);have h2:=ih v (by have:=sv.lt;omega) sv.nn sv.an λi hi=>hI i (sv.su i hi);exact dN (λi _=>(hwe i).symm) (km h1 h2 a0 b0)
   ·have big:sz m w<=cs.length+2:=by simp at big;omega
    have pr:∀l∈S,∀k∈S,(∀i,l i≠0->w i≠0)->(∀i,k i≠0->w i≠0)->0<Fg m c l->Fg m c k<0->sat m st e (λi=>(- Fg m c k)*l i+Fg m c l*k i):=λl hl k hk sl sk cl ck=>by
     have su:∀i,(- Fg m c k)*l i+Fg m c l*k i≠0->w i≠0:=λi hi=>by
      by_cases z:l i=0
      ·by_cases y:k i=0
       ·refine absurd ?_ hi;rw[z,y];grind
       ·exact sk i y
      ·exact sl i z
     obtain⟨u,hu,g,g0,eu⟩:=h.cross l hl k hk cl ck (FX (wn m λi _=>su i) big);have hu2:=hs u hu λi hi=>hI i (su i (by rw[<- eu i];intro z;rcases Ic.mp z with q | q;grind;exact hi q));exact dN (λi _=>by rw[<- eu i];grind) (km hu2 hu2 (a:=g) (b:=0) (by grind) (by grind))
    have od:=CH ((S.filter λs=>decide (∀i,s i≠0->w i≠0)).map λs=>(Fg m e s,Fg m c s,!decide (∀i,i<m->0<s i->st i=false)))
    have od1:=od λx hx h0=>by
     obtain⟨s,hs',rfl⟩:=FV.mp hx;obtain⟨hs',hsu⟩:=Ga.mp hs';have:=hs s (h.zero s hs' h0) λi hi=>hI i ((by simpa using hsu:∀i,¬ s i=0->¬ w i=0) i hi);unfold sat at this;unfold sy;have e0:Fg m e s+0*Fg m c s=Fg m e s:=by grind
     simp only[e0];simpa using this
    have od2:=od1 λl hl k hk cl ck=>by
     obtain⟨l,hl',rfl⟩:=FV.mp hl;obtain⟨k',hk',rfl⟩:=FV.mp hk;obtain⟨hl',hlu⟩:=Ga.mp hl';obtain⟨hk',hku⟩:=Ga.mp hk';have:=pr l hl' k' hk' (by simpa using hlu) (by simpa using hku) cl ck;unfold sat at this;rw[c7] at this;have e0:(- Fg m c k')*Fg m e l+Fg m c l*Fg m e k'=Fg m e l*(- Fg m c k')+Fg m e k'*Fg m c l:=by grind
     rw[e0] at this;refine this.imp id λ⟨h1,h2⟩=>⟨h1,?_,?_⟩
     ·simp only[Bool.not_eq_false',decide_eq_true_eq];intro i hi hp;refine h2 i hi ?_;have p1:=G4 (a:=- Fg m c k') (b:=l i) (by grind) hp;have p2:=GF (a:=Fg m c l) (b:=k' i) (by grind) ((h.nn k' hk').pos i)
      grind
     ·simp only[Bool.not_eq_false',decide_eq_true_eq];intro i hi hp;refine h2 i hi ?_;have p1:=G4 (a:=Fg m c l) (b:=k' i) cl hp;have p2:=GF (a:=- Fg m c k') (b:=l i) (by grind) ((h.nn l hl').pos i)
      grind
    obtain⟨v,hv⟩:=od2;have all:∀s∈S,(∀i,s i≠0->w i≠0)->sat m st (λi=>1*e i+v*c i) s:=λs hs' hsu=>by
     have:=hv _ (FV.mpr ⟨s,Ga.mpr ⟨hs',by simpa using hsu⟩,rfl⟩)
     rw[uj];unfold sy at this;simpa using this
    have:=k (λi=>w i≠0) _ all w hw (λc' hc'=>ha c' (FU _ hc')) λi hi=>hi
    rw[uj,ha c (FW ..)] at this;unfold sat;have e0:Fg m e w+v*0=Fg m e w:=by grind
    rw[e0] at this;exact this
 exact main _ w (F3 _) hw ha hI
end Mf
namespace Mf
open PySem L2 DL
variable {x:Str→Rat} {n:Str} {F:Str→Int} {nm:List Str} {rows:List Rw} {w:List Int}
def cT(x:Str->Rat):List (Str×Int)->Rat
 | []=>0
 | t::r=>(t.2:Rat)*x t.1+cT x r
def Fn(x:Str->Rat)(r:Rw):Prop:=match r.1 with
 | .least=>(r.2.2:Rat)<=cT x r.2.1
 | .more=>(r.2.2:Rat)<cT x r.2.1
def vh(x:Str->Rat)(n:Str)(v:Rat):Str->Rat:=λk=>if k=n then v else x k
def qy{v:Rat}(h:x n=0):∀ts,cT (vh x n v) ts=cT x ts+v*(cf ts n:Int)
 | []=>by show (0:Rat)=0+v*((0:Int):Rat);rw[show ((0:Int):Rat)=0 from rfl];grind
 | t::r=>by
  show (t.2:Rat)*vh x n v t.1+cT (vh x n v) r=(t.2:Rat)*x t.1+cT x r+v*(((if t.1=n then t.2 else 0)+cf r n:Int):Rat)
  rw[qy h r,G8];unfold vh
  by_cases e:t.1=n
  ·rw[Gd e,Gd e,e,h];grind
  ·rw[Gb e,Gb e,show ((0:Int):Rat)=0 from rfl];grind
def nE(x:Str->Rat)(F:Str->Int):List Str->Rat
 | []=>0
 | n::r=>(F n:Rat)*x n+nE x F r
def lj{G:Str->Int}:∀nm:List Str,nE x (λn=>F n+G n) nm=nE x F nm+nE x G nm
 | []=>by show (0:Rat)=0+0;grind
 | n::r=>by show ((F n+G n:Int):Rat)*x n+_=(F n:Rat)*x n+_+((G n:Rat)*x n+_);rw[lj r,G8];grind
def qi{a:Int}:∀nm:List Str,nE x (λn=>a*F n) nm=a*nE x F nm
 | []=>by show (0:Rat)=a*0;grind
 | n::r=>by show ((a*F n:Int):Rat)*x n+_=a*((F n:Rat)*x n+_);rw[qi r,Gk];grind
def cV:∀ {nm:List Str},(∀n∈nm,F n=0)->nE x F nm=0
 | [],_=>rfl
 | n::r,h=>by show (F n:Rat)*x n+_=0;rw[cV λk hk=>h k (FU _ hk),h n (FW ..),show ((0:Int):Rat)=0 from rfl];grind
def pX{k:Str}{a:Int}:∀ {nm:List Str},nm.Nodup->k∈nm->nE x (λn=>if k=n then a else 0) nm=a*x k
 | n::r,nd,h=>by
  obtain⟨h1,h2⟩:=GU.mp nd;show ((if k=n then a else 0:Int):Rat)*x n+nE x _ r=_
  by_cases e:k=n
  ·subst e;rw[Gd rfl,cV (F:=λn=>if k=n then a else 0) λm hm=>Gb λ(z:k=m)=>h1 (z ▸ hm)];grind
  ·rw[Gb e,pX h2 ((F7.mp h).resolve_left e),show ((0:Int):Rat)=0 from rfl];grind
def qc(nd:nm.Nodup):∀ {ts:List (Str×Int)},(∀t∈ts,t.1∈nm)->cT x ts=nE x (cf ts) nm
 | [],_=>(cV λ_ _=>rfl).symm
 | t::r,h=>by
  show _+cT x r=nE x (λn=>(if t.1=n then t.2 else 0)+cf r n) nm
  rw[lj,pX nd (h t (FW ..)),qc nd λu hu=>h u (FU _ hu)]
def lT:∀ {ts:List (Str×Int)} {t:Str×Int},(ts.map (·.1)).Nodup->t∈ts->cf ts t.1=t.2
 | u::r,t,nd,h=>by
  obtain⟨h1,h2⟩:=GU.mp nd;show (if u.1=t.1 then u.2 else 0)+cf r t.1=t.2
  rcases F7.mp h with rfl | h
  ·rw[Gd rfl,jy h1,HW]
  ·rw[Gb λe=>h1 (FV.mpr ⟨t,h,e.symm⟩),lT h2 h,HE]
def eL.cf{us:List (Str×Int)}(h:eL F us)(n:Str):cf us n=F n:=by
 by_cases e:n∈us.map (·.1)
 ·obtain⟨t,ht,rfl⟩:=FV.mp e;rw[lT h.nd ht,(h.val t ht).1]
 ·rw[jy e];exact(F4 λz=>e (h.all n λy=>z y.symm))
def FP(x:Str->Rat):List (Rw×Int)->Rat
 | []=>0
 | p::r=>(p.2:Rat)*(cT x p.1.2.1-(p.1.2.2:Int))+FP x r
def mH(nd:nm.Nodup):∀ {l:List (Rw×Int)},(∀p∈l,∀t∈p.1.2.1,t.1∈nm)->FP x l=nE x (cfs l) nm-(bds l:Int)
 | [],_=>by
  show (0:Rat)=_-((0:Int):Rat)
  rw[cV (F:=cfs []) λ_ _=>rfl,show ((0:Int):Rat)=0 from rfl];grind
 | p::r,h=>by
  show (p.2:Rat)*_+FP x r=nE x (λn=>p.2*cf p.1.2.1 n+cfs r n) nm-((p.2*p.1.2.2+bds r:Int):Rat)
  rw[lj,qi,mH nd λq hq=>h q (FU _ hq),qc nd (h p (FW ..)),G8,Gk]
  grind
def smT(nm:List Str)(F:Str->Int):List (Str×Int):=(nm.filter λn=>decide (F n≠0)).map λn=>(n,F n)
def Ft(nm:List Str)(rows:List Rw)(w:List Int):Rw:=(kOf (FM (rows.zip w)),smT nm (cfs (rows.zip w)),bds (rows.zip w))
structure Fz(nm:List Str)(rows:List Rw):Prop where
 pw:nm.Pairwise leS
 nd:nm.Nodup
 sum:∀r∈rows,eL (cf r.2.1) r.2.1
 sub:∀r∈rows,∀t∈r.2.1,t.1∈nm
def Fz.cfs(h:Fz nm rows)(e:cfs (rows.zip w) n≠0):n∈nm :=
 kL (λp hp=>h.sub p.1 (Gr hp).1) e
def Fz.smT(h:Fz nm rows)(w:List Int):eL (Mf.cfs (rows.zip w)) (Mf.smT nm (Mf.cfs (rows.zip w))):=eL.mk' h.pw h.nd λ_ e=>h.cfs e
def pQ(h:Fz nm rows):Fn x (Ft nm rows w)↔(0<FP x (rows.zip w)\/(FP x (rows.zip w)=0/\FM (rows.zip w)=false)):=by
 have e:=mH (x:=x) h.nd (l:=rows.zip w) λp hp=>h.sub p.1 (Gr hp).1
 have e2:cT x (Mf.smT nm (Mf.cfs (rows.zip w)))=nE x (Mf.cfs (rows.zip w)) nm:=by
  rw[qc h.nd λt ht=>?_]
  ·congr 1;exact funext λn=>(h.smT w).cf n
  ·obtain⟨n,hn,rfl⟩:=FV.mp ht;exact(Ga.mp hn).1
 rw[e];unfold Fn Ft
 cases FM (rows.zip w)
 ·show ((bds _:Int):Rat)<=cT x _↔_
  rw[e2];grind
 ·show ((bds _:Int):Rat)<cT x _↔_
  rw[e2];grind
def Fs(w:List Int):V:=λi=>((w.getD i 0:Int):Rat)
def eV(x:Str->Rat)(rows:List Rw):V:=λi=>match rows[i]? with | some r=>cT x r.2.1-(r.2.2:Int) | none=>0
def colV(rows:List Rw)(n:Str):V:=λi=>match rows[i]? with | some r=>((cf r.2.1 n:Int):Rat) | none=>0
def stV(rows:List Rw):Nat->Bool:=λi=>match rows[i]? with | some r=>isM r.1 | none=>false
def iy(c w:V):∀m,Fg (m+1) c w=c 0*w 0+Fg m (λi=>c (i+1)) (λi=>w (i+1))
 | 0=>by show (0:Rat)+c 0*w 0=c 0*w 0+0;grind
 | m+1=>by show Fg (m+1) c w+c (m+1)*w (m+1)=_+(Fg m _ _+c (m+1)*w (m+1));rw[iy c w m];grind
def ly:∀ {rows:List Rw} {w:List Int},w.length=rows.length->FP x (rows.zip w)=Fg rows.length (eV x rows) (Fs w)
 | [],[],_=>rfl
 | r::rows,a::w,h=>by
  rw[F8,iy];show (a:Rat)*(cT x r.2.1-_)+FP x (rows.zip w)=(cT x r.2.1-_)*(a:Rat)+Fg rows.length (eV x rows) (Fs w);rw[ly (by simpa using h)];grind
def ls:∀ {rows:List Rw} {w:List Int},w.length=rows.length->((cfs (rows.zip w) n:Int):Rat)=Fg rows.length (colV rows n) (Fs w)
 | [],[],_=>rfl
 | r::rows,a::w,h=>by
  rw[F8,iy];show ((a*cf r.2.1 n+cfs (rows.zip w) n:Int):Rat)=((cf r.2.1 n:Int):Rat)*(a:Rat)+Fg rows.length (colV rows n) (Fs w);rw[G8,Gk,ls (by simpa using h)];grind
def uO{i:Nat}:0<Fs w i↔0<w.getD i 0:=Rat.intCast_pos
def pd:∀ {rows:List Rw} {w:List Int},w.length=rows.length->(FM (rows.zip w)=false↔∀i,i<rows.length->0<Fs w i->stV rows i=false)
 | [],[],_=>⟨λ_ i hi=>absurd hi (Nat.not_lt_zero i),λ_=>rfl⟩
 | r::rows,a::w,h=>by
  have ih:=pd (rows:=rows) (w:=w) (by simpa using h)
  have e:FM ((r::rows).zip (a::w))=((isM r.1&&decide (0<a))||FM (rows.zip w)):=rfl
  rw[e,Bool.or_eq_false_iff,ih]
  constructor
  ·rintro⟨h1,h2⟩ i hi hp
   cases i with
   | zero =>
    have:0<a:=uO.mp hp
    rw[Gz this,Bool.and_true] at h1;exact h1
   | succ i=>exact h2 i (by simpa using hi) hp
  ·intro hh;refine⟨?_,λi hi hp=>hh (i+1) (by simpa using hi) hp⟩
   by_cases ha:0<a
   ·have:isM r.1=false:=hh 0 (HY _) (uO.mpr ha)
    rw[this,Bool.false_and]
   ·rw[Gx ha,Bool.and_false]
def Bo(h:Fz nm rows)(hl:w.length=rows.length):Fn x (Ft nm rows w)↔sat rows.length (stV rows) (eV x rows) (Fs w):=by
 rw[pQ h,ly hl,pd hl];rfl
def qw(w:V):∀m,sz (m+1) w=(if w 0=0 then 0 else 1)+sz m λi=>w (i+1)
 | 0=>by rw[eK];show sz 0 w+_=_+sz 0 _;unfold sz;simp
 | m+1=>by rw[eK,qw w m,eK m];omega
def usd(w:List Int):Nat:=(w.filter λa=>decide (0<a)).length
def yc:∀ {w:List Int},(∀a∈w,0<=a)->sz w.length (Fs w)=usd w
 | [],_=>rfl
 | a::w,h=>by
  rw[F8,qw];show (if ((a:Int):Rat)=0 then 0 else 1)+sz w.length (Fs w)=usd (a::w);rw[yc λb hb=>h b (FU _ hb)];have h0:=h a (FW ..);unfold usd
  by_cases e:0<a
  ·rw[Gy (by simpa using e),Gb (λz=>by have:a=0:=IJ.mp z;omega),F8];omega
  ·have:a=0:=by omega
   rw[Gn (by simpa using e),Gd (by rw[this];rfl)];omega
def uS{m:Nat}(hl:w.length=m)(h:∀a∈w,0<=a):Nn m (Fs w):=by
 refine⟨λi=>?_,λi hi=>?_⟩
 ·show (0:Rat)<=((w.getD i 0:Int):Rat)
  refine Rat.intCast_nonneg.mpr ?_;rw[List.getD_eq_getElem?_getD]
  cases e:w[i]? with
  | none=>exact Int.le_refl 0
  | some a=>exact h a (Ge e)
 ·show ((w.getD i 0:Int):Rat)=0
  rw[List.getD_eq_getElem?_getD,List.getElem?_eq_none (by omega)];rfl
end Mf
namespace Mf
open PySem L2 DL
variable {ws:List Int} {n:Str} {a b:Int} {rows:List Rw} {m:Nat}
def gW(ws:List Int):Int:=ws.foldl gc 0
def DI(a b:Int):0<=gc a b/\gc a b ∣ a/\gc a b ∣ b/\(a≠0\/b≠0->gc a b≠0):=by
 refine⟨sL a b,eI a b,dF a b,λh z=>?_⟩;unfold gc at z;have:=Int.gcd_eq_zero_iff.mp (by omega:Int.gcd a b=0)
 rcases h with h | h
 ·exact h this.1
 ·exact h this.2
def oK:∀(ws:List Int) (a:Int),ws.foldl gc a ∣ a/\(∀w∈ws,ws.foldl gc a ∣ w)/\((a≠0\/∃w∈ws,w≠0)->ws.foldl gc a≠0)/\(0<=a->0<=ws.foldl gc a)
 | [],a=>⟨Int.dvd_refl a,λ_ h=>(nomatch h),λh=>h.elim id λ⟨_,h,_⟩=>(nomatch h),id⟩
 | w::ws,a=>by
  obtain⟨h1,h2,h3,h4⟩:=oK ws (gc a w);obtain⟨g0,g1,g2,g3⟩:=DI a w;refine⟨Int.dvd_trans h1 g1,λv hv=>?_,λh=>h3 ?_,λ_=>h4 g0⟩
  ·rcases F7.mp hv with rfl | hv
   ·exact Int.dvd_trans h1 g2
   ·exact h2 v hv
  ·rcases h with h | ⟨v,hv,hn⟩
   ·exact .inl (g3 (.inl h))
   ·rcases F7.mp hv with rfl | hv
    ·exact .inl (g3 (.inr hn))
    ·exact .inr ⟨v,hv,hn⟩
def oZ(h:∃w∈ws,w≠0):0<gW ws:=by
 obtain⟨_,_,h3,h4⟩:=oK ws 0;have:=h3 (.inr h);have:=h4 (Int.le_refl 0);unfold gW;omega
def lU{w:Int}(h:w∈ws):gW ws ∣ w:=(oK ws 0).2.1 w h
def crS(rows:List Rw)(n:Str)(l h:List Int):List Int:=List.zipWith (λa b=>a * -(cfs (rows.zip h) n)+b*cfs (rows.zip l) n) l h
def shW(ws:List Int):List Int:=ws.map λa=>a.fdiv (gW ws)
def crW(rows:List Rw)(n:Str)(l h:List Int):List Int:=shW (crS rows n l h)
def woW(rows:List Rw)(n:Str)(most:Nat)(W:List (List Int)):List (List Int) :=
 (W.filter λw=>decide (cfs (rows.zip w) n=0))++(W.filter λw=>decide (0<cfs (rows.zip w) n)).flatMap λl =>
  ((W.filter λw=>decide (cfs (rows.zip w) n<0)).map (crW rows n l)).filter λu=>decide (usd u<=most)
def unW(m j:Nat):List Int:=(List.range m).map λi=>if i=j then 1 else 0
def vo(m:Nat):List (List Int):=(List.range m).map (unW m)
def Fw(rows:List Rw):List Str->List (List Int)
 | []=>vo rows.length
 | n::ns=>woW rows n (ns.length+2) (Fw rows ns)
structure Wt(m:Nat)(w:List Int):Prop where
 len:w.length=m
 nn:∀a∈w,0<=a
 nz:∃a∈w,a≠0
def nO{f:Int->Int->Int}(hf:f 0 0=0):∀ {l h:List Int},l.length=h.length->∀i,Fs (List.zipWith f l h) i=((f (l.getD i 0) (h.getD i 0):Int):Rat)
 | [],[],_,i=>by show (0:Rat)=((f 0 0:Int):Rat);rw[hf];rfl
 | a::l,b::h,e,0=>rfl
 | a::l,b::h,e,i+1=>nO hf (by simpa using e) i
def oy:∀ {rows:List Rw} {l h:List Int},l.length=rows.length->h.length=rows.length->cfs (rows.zip (List.zipWith (λx y=>x*a+y*b) l h)) n=a*cfs (rows.zip l) n+b*cfs (rows.zip h) n
 | [],[],[],_,_=>by show (0:Int)=a*0+b*0;omega
 | r::rows,x::l,y::h,h1,h2=>by
  show (x*a+y*b)*cf r.2.1 n+cfs (rows.zip (List.zipWith _ l h)) n=a*(x*cf r.2.1 n+cfs (rows.zip l) n)+b*(y*cf r.2.1 n+cfs (rows.zip h) n)
  rw[oy (rows:=rows) (l:=l) (h:=h) (by simpa using h1) (by simpa using h2)];grind
def uk(hz:∃w∈ws,w≠0):List.zipWith (λx y=>x*gW ws+y*0) (shW ws) (shW ws)=ws:=by
 unfold shW;have:∀(l:List Int),(∀a∈l,gW ws ∣ a)->List.zipWith (λx y=>x*gW ws+y*0) (l.map λa=>a.fdiv (gW ws)) (l.map λa=>a.fdiv (gW ws))=l:=λl=>by
  induction l with
  | nil=>intro _;rfl
  | cons a l ih =>
   intro h;show (a.fdiv (gW ws)*gW ws+_*0)::_=a::l;rw[ih λb hb=>h b (FU _ hb),Hu (h a (FW ..)),Int.mul_zero,HW]
 exact this ws λa ha=>lU ha
def mZ:(shW ws).length=ws.length:=FR ..
def BD(hl:ws.length=rows.length)(hz:∃w∈ws,w≠0):gW ws*cfs (rows.zip (shW ws)) n=cfs (rows.zip ws) n:=by
 have e:=oy (rows:=rows) (n:=n) (a:=gW ws) (b:=0) (l:=shW ws) (h:=shW ws) (by rw[mZ,hl]) (by rw[mZ,hl])
 rw[uk hz] at e;rw[e];omega
def CK(hz:∃w∈ws,w≠0)(i:Nat):((gW ws:Int):Rat)*Fs (shW ws) i=Fs ws i:=by
 have e:=nO (f:=λx y=>x*gW ws+y*0) (by omega) (l:=shW ws) (h:=shW ws) rfl i
 rw[uk hz] at e;rw[e];show _*((_:Int):Rat)=_;simp only[Int.mul_zero,Int.add_zero];rw[Gk];grind
def D0(hz:∃w∈ws,w≠0)(h:∀a∈ws,0<=a):∀a∈shW ws,0<=a:=λa ha=>by
 obtain⟨b,hb,rfl⟩:=FV.mp ha;obtain⟨c,hc⟩:=lU hb;have g:=oZ hz;have hb0:=h b hb;have e:b.fdiv (gW ws)*gW ws=b:=Hu (lU hb);refine F4 λz=>?_;have:=Int.mul_lt_mul_of_pos_right (show b.fdiv (gW ws)<0 by omega) g;omega
def Ep(hz:∃w∈ws,w≠0):∃a∈shW ws,a≠0:=by
 obtain⟨w,hw,hn⟩:=hz;refine⟨_,FV.mpr ⟨w,hw,rfl⟩,λz=>hn ?_⟩;have e:w.fdiv (gW ws)*gW ws=w:=Hu (lU hw);rw[z] at e;omega
def oI{l h:List Int}(hl:l.length=m)(hh:h.length=m):(crS rows n l h).length=m:=by unfold crS;rw[List.length_zipWith];omega
def BP(ha:0<a)(hb:0<b):∀ {l h:List Int},(∀x∈l,0<=x)->(∀x∈h,0<=x)->∀x∈List.zipWith (λx y=>x*a+y*b) l h,0<=x
 | [],_,_,_,x,hx=>by simp at hx
 | _::_,[],_,_,x,hx=>by simp at hx
 | u::l,v::h,h1,h2,x,hx=>by
  rw[Ih] at hx
  rcases F7.mp hx with rfl | hx
  ·have:=Int.mul_nonneg (h1 u (FW ..)) (HX ha)
   have:=Int.mul_nonneg (h2 v (FW ..)) (HX hb)
   omega
  ·exact BP ha hb (λx hx=>h1 x (FU _ hx)) (λx hx=>h2 x (FU _ hx)) x hx
def Cq(ha:0<a)(hb:0<b):∀ {l h:List Int},l.length=h.length->(∀x∈l,0<=x)->(∀x∈h,0<=x)->(∃x∈l,x≠0)->∃x∈List.zipWith (λx y=>x*a+y*b) l h,x≠0
 | [],_,_,_,_,⟨x,hx,_⟩=>by simp at hx
 | _::_,[],e,_,_,_=>by simp at e
 | u::l,v::h,e,h1,h2,⟨x,hx,hn⟩=>by
  rw[Ih]
  rcases F7.mp hx with rfl | hx
  ·refine⟨_,FW ..,λz=>?_⟩;have:=Int.mul_pos (a:=x) (b:=a) (by have:=h1 x (FW ..);omega) ha;have:=Int.mul_nonneg (h2 v (FW ..)) (HX hb);omega
  ·obtain⟨y,hy,hy0⟩:=Cq ha hb (by simpa using e) (λx hx=>h1 x (FU _ hx)) (λx hx=>h2 x (FU _ hx)) ⟨x,hx,hn⟩;exact⟨y,FU _ hy,hy0⟩
section
variable {rows:List Rw} {n:Str} {l h:List Int}
def jY(wl:Wt rows.length l)(wh:Wt rows.length h)(cl:0<cfs (rows.zip l) n)(ch:cfs (rows.zip h) n<0):(∀a∈crS rows n l h,0<=a)/\∃a∈crS rows n l h,a≠0 :=
 ⟨BP (by omega) cl wl.nn wh.nn,Cq (by omega) cl (by rw[wl.len,wh.len]) wl.nn wh.nn wl.nz⟩
def sr(wl:Wt rows.length l)(wh:Wt rows.length h)(cl:0<cfs (rows.zip l) n)(ch:cfs (rows.zip h) n<0):Wt rows.length (crW rows n l h):=by
 obtain⟨h1,h2⟩:=jY wl wh cl ch;exact⟨by unfold crW;rw[mZ];exact oI wl.len wh.len,D0 h2 h1,Ep h2⟩
def zO{k:Str}(wl:Wt rows.length l)(wh:Wt rows.length h)(cl:0<cfs (rows.zip l) n)(ch:cfs (rows.zip h) n<0):gW (crS rows n l h)*cfs (rows.zip (crW rows n l h)) k=-(cfs (rows.zip h) n)*cfs (rows.zip l) k+cfs (rows.zip l) n*cfs (rows.zip h) k:=by
 obtain⟨h1,h2⟩:=jY wl wh cl ch;unfold crW;rw[BD (oI wl.len wh.len) h2];exact oy (rows:=rows) wl.len wh.len
def ti(wl:Wt rows.length l)(wh:Wt rows.length h)(cl:0<cfs (rows.zip l) n)(ch:cfs (rows.zip h) n<0)(i:Nat):((gW (crS rows n l h):Int):Rat)*Fs (crW rows n l h) i=-((cfs (rows.zip h) n:Int):Rat)*Fs l i+((cfs (rows.zip l) n:Int):Rat)*Fs h i:=by
 obtain⟨h1,h2⟩:=jY wl wh cl ch;unfold crW;rw[CK h2];unfold crS;rw[nO (by omega) (by rw[wl.len,wh.len])];rw[G8,Gk,Gk,IK];unfold Fs
 grind
end
def iA{most:Nat}{W:List (List Int)}{w:List Int}:w∈woW rows n most W↔(w∈W/\cfs (rows.zip w) n=0)\/∃l∈W,0<cfs (rows.zip l) n/\∃h∈W,cfs (rows.zip h) n<0/\w=crW rows n l h/\usd w<=most:=by
 unfold woW;rw[F9,Ga,Ha];refine or_congr (by simp) ?_
 constructor
 ·rintro⟨l,hl,hm⟩;obtain⟨hl1,hl2⟩:=Ga.mp hl;obtain⟨hm1,hm2⟩:=Ga.mp hm;obtain⟨h,hh,rfl⟩:=FV.mp hm1;obtain⟨hh1,hh2⟩:=Ga.mp hh;exact⟨l,hl1,by simpa using hl2,h,hh1,by simpa using hh2,rfl,by simpa using hm2⟩
 ·rintro⟨l,hl,cl,h,hh,ch,rfl,hu⟩;exact⟨l,Ga.mpr ⟨hl,by simpa using cl⟩,Ga.mpr ⟨FV.mpr ⟨h,Ga.mpr ⟨hh,by simpa using ch⟩,rfl⟩,by simpa using hu⟩⟩
def BH{j:Nat}(h:j<m):Wt m (unW m j):=by
 refine⟨by unfold unW;simp,λa ha=>?_,1,?_,by decide⟩
 ·obtain⟨i,_,rfl⟩:=FV.mp ha
  split<;>decide
 ·exact FV.mpr ⟨j,GW.mpr h,by simp⟩
def yW{j:Nat}(h:j<m):Fs (unW m j)=Bh j:=by
 funext i
 unfold Fs unW Bh;rw[List.getD_eq_getElem?_getD,List.getElem?_map]
 by_cases hi:i<m
 ·rw[List.getElem?_range hi];show (((if i=j then 1 else 0:Int)):Rat)=_
  by_cases e:i=j<;>simp[e]
 ·rw[List.getElem?_eq_none (by simpa using Nat.le_of_not_lt hi)];have:i≠j:=by omega
  simp[this]
def ci:∀ {ns:List Str} {w:List Int},w∈Fw rows ns->Wt rows.length w/\∀n∈ns,cfs (rows.zip w) n=0
 | [],w,h=>by
  obtain⟨j,hj,rfl⟩:=FV.mp h;exact⟨BH (GW.mp hj),λ_ h=>(nomatch h)⟩
 | n::ns,w,h=>by
  rcases iA.mp h with⟨h1,h2⟩ | ⟨l,hl,cl,k,hk,ck,rfl,_⟩
  ·obtain⟨a,b⟩:=ci h1;exact⟨a,λx hx=>(F7.mp hx).elim (λe=>e ▸ h2) (b x)⟩
  ·obtain⟨a,b⟩:=ci hl;obtain⟨a',b'⟩:=ci hk;refine⟨sr a a' cl ck,λx hx=>?_⟩;have e:=zO (k:=x) a a' cl ck;have g:=oZ (jY a a' cl ck).2;have:-(cfs (rows.zip k) n)*cfs (rows.zip l) x+cfs (rows.zip l) n*cfs (rows.zip k) x=0:=by
    rcases F7.mp hx with rfl | hx
    ·grind
    ·rw[b x hx,b' x hx];omega
   rw[this] at e
   rcases Int.mul_eq_zero.mp e with z | z
   ·omega
   ·exact z
def we{ns:List Str}:Kept rows.length (colV rows n) (ns.length+2) ((Fw rows ns).map Fs) ((Fw rows (n::ns)).map Fs):=by
 have dt:∀ {w},w∈Fw rows ns->Fg rows.length (colV rows n) (Fs w)=((cfs (rows.zip w) n:Int):Rat):=λh=>(ls (ci h).1.len).symm
 constructor
 ·intro s hs;obtain⟨w,hw,rfl⟩:=FV.mp hs;exact uS (ci hw).1.len (ci hw).1.nn
 ·intro s hs h0;obtain⟨w,hw,rfl⟩:=FV.mp hs;rw[dt hw] at h0;exact FV.mpr ⟨w,iA.mpr (.inl ⟨hw,IJ.mp h0⟩),rfl⟩
 ·intro l hl h hh cl ch hz;obtain⟨l,hl2,rfl⟩:=FV.mp hl;obtain⟨h,hh2,rfl⟩:=FV.mp hh;clear hl hh;have hl:=hl2;have hh:=hh2;rw[dt hl] at cl hz ⊢;rw[dt hh] at ch hz ⊢;have cl:0<cfs (rows.zip l) n:=Rat.intCast_pos.mp cl;have ch:cfs (rows.zip h) n<0:=Rat.intCast_neg_iff.mp ch;have wl:=(ci hl).1;have wh:=(ci hh).1;have ww:=sr wl wh cl ch;have g:=oZ (jY wl wh cl ch).2;have gr:(0:Rat)<((gW (crS rows n l h):Int):Rat):=Rat.intCast_pos.mpr g;refine⟨_,FV.mpr ⟨crW rows n l h,iA.mpr (.inr ⟨l,hl,cl,h,hh,ch,rfl,?_⟩),rfl⟩,_,gr,λi=>ti wl wh cl ch i⟩;rw[<- yc ww.nn,ww.len];refine FX (wn _ λi _ hi=>?_) hz;rw[<- ti wl wh cl ch i];intro z
  rcases Ic.mp z with q | q
  ·grind
  ·exact hi q
def pF:∀ns:List Str,Comp rows.length (stV rows) (ns.map (colV rows)) ((Fw rows ns).map Fs)
 | []=>t4 _ λj hj=>FV.mpr ⟨unW rows.length j,FV.mpr ⟨j,GW.mpr hj,rfl⟩,yW hj⟩
 | n::ns=>sS (pF ns) (by rw[FR];exact we)
end Mf
namespace Mf
open PySem L2 DL
variable {p:Int×Int} {ks:List Str} {ps:List (Int×Int)} {n:Str}
def FJ(p:Int×Int):Rat:=(p.1:Rat) / (p.2:Rat)
def fM{a:Int}(h:a≠0):((a:Int):Rat)≠0:=λz=>h (IJ.mp z)
def e8{a:Int}(h:0<a):(0:Rat)<((a:Int):Rat):=Rat.intCast_pos.mpr h
def iW(t:Int){b:Int}(h:b≠0):FJ (Fj t b,FC t b)=(t:Rat) / (b:Rat):=by
 have c:=pM t b
 have hB:=(et t h).ne
 have c2:((Fj t b:Int):Rat)*(b:Rat)=(t:Rat)*((FC t b:Int):Rat):=by rw[<- Gk,<- Gk,c]
 have h1:=fM h
 have h2:=fM hB
 show ((Fj t b:Int):Rat) / ((FC t b:Int):Rat)=_
 grind
def jw{q:Int×Int}(hp:0<p.2)(hq:0<q.2):FJ p<FJ q↔p.1*q.2<q.1*p.2:=by
 have h1:=e8 hp
 have h2:=e8 hq
 have h3:=G4 h1 h2
 have e1:FJ p*((p.2:Rat)*(q.2:Rat))=((p.1*q.2:Int):Rat):=by rw[Gk];unfold FJ;grind
 have e2:FJ q*((p.2:Rat)*(q.2:Rat))=((q.1*p.2:Int):Rat):=by rw[Gk];unfold FJ;grind
 rw[<- Hh,<- e1,<- e2]
 constructor
 ·intro h;have:=G4 (a:=FJ q-FJ p) (by grind) h3
  grind
 ·intro h;refine F4 λz=>?_;have:=GF (a:=FJ p-FJ q) (b:=(p.2:Rat)*(q.2:Rat)) (by grind) (by grind)
  grind
def tj{q:Int×Int}(hp:Fi p.1 p.2)(hq:Fi q.1 q.2)(e:FJ p=FJ q):p=q:=by
 have h1:¬ p.1*q.2<q.1*p.2:=λz=>by have:=(jw hp.pos hq.pos).mpr z;grind
 have h2:¬ q.1*p.2<p.1*q.2:=λz=>by have:=(jw hq.pos hp.pos).mpr z;grind
 have:=hp.uniq hq (by omega)
 exact Prod.ext this.1 this.2
def oF(a:Int):FJ (Fj a 1,FC a 1)=(a:Rat):=by
 rw[iW a (by decide)];show (a:Rat) / ((1:Int):Rat)=a;rw[show ((1:Int):Rat)=1 from rfl];grind
def pU(a:Int):Fj a 1=a/\FC a 1=1:=Fi.self ⟨by decide,by unfold gc;simp⟩
theorem B4(h:0<p.2):((p.1.fdiv p.2:Int):Rat)<=FJ p/\FJ p<((p.1.fdiv p.2+1:Int):Rat):=by
 have m0:=Gu p.1 h
 have m1:=GB p.1 h
 have e:p.2*p.1.fdiv p.2+p.1.fmod p.2=p.1:=by rw[Int.fmod_def];omega
 have hr:=e8 h
 generalize hf:p.1.fdiv p.2=f at *
 have e1:((f:Int):Rat)=FJ (f,1):=by unfold FJ;show _=((f:Int):Rat) / ((1:Int):Rat);rw[show ((1:Int):Rat)=1 from rfl];grind
 have e2:((f+1:Int):Rat)=FJ (f+1,1):=by unfold FJ;show _=((f+1:Int):Rat) / ((1:Int):Rat);rw[show ((1:Int):Rat)=1 from rfl];grind
 rw[e1,e2]
 constructor
 ·refine F4 λz=>?_;have:=(jw (p:=p) (q:=(f,1)) h Int.one_pos).mp (by grind);simp only at this;have:p.2*f=f*p.2:=GL ..;omega
 ·refine(jw (p:=p) (q:=(f+1,1)) h Int.one_pos).mpr ?_;simp only;rw[Int.add_mul];have:p.2*f=f*p.2:=GL ..;omega
def Fm(ks:List Str)(ps:List (Int×Int)):Str->Rat:=λn=>FJ (mS ks ps n)
def ov_R{K:Int}(h0:0<pB ks ps n)(hd:pB ks ps n ∣ K):((ov (pT ks ps) (pB ks ps) K n:Int):Rat)=(K:Rat)*Fm ks ps n:=by
 obtain⟨y,rfl⟩:=hd;have hn:pB ks ps n≠0:=by omega
 unfold ov Fm FJ;rw[G0 _ hn,Gk,Gk];have:=fM hn;show ((pT ks ps n:Int):Rat)*_=((pB ks ps n:Int):Rat)*_*(((pT ks ps n:Int):Rat) / ((pB ks ps n:Int):Rat))
 grind
def lN{K:Int}:∀ {ts:List (Str×Int)},(∀t∈ts,0<pB ks ps t.1/\pB ks ps t.1 ∣ K)->((cF (ov (pT ks ps) (pB ks ps) K) ts:Int):Rat)=(K:Rat)*cT (Fm ks ps) ts
 | [],_=>by show ((0:Int):Rat)=_*0;rw[show ((0:Int):Rat)=0 from rfl];grind
 | t::r,h=>by
  show ((t.2*ov _ _ K t.1+cF _ r:Int):Rat)=_*((t.2:Rat)*_+cT _ r)
  obtain⟨h1,h2⟩:=h t (FW ..);rw[G8,Gk,ov_R h1 h2,lN λu hu=>h u (FU _ hu)];grind
def bnd(ks:List Str)(ps:List (Int×Int))(n:Str)(r:Rw):Int×Int :=
 let o:=r.2.1.filter λt=>decide (t.1≠n)
 let K:=Fy (pB ks ps) (o.map (·.1))
 (Fj (r.2.2*K-cF (ov (pT ks ps) (pB ks ps) K) o) (cf r.2.1 n*K),FC (r.2.2*K-cF (ov (pT ks ps) (pB ks ps) K) o) (cf r.2.1 n*K))
def eG{x:Str->Rat}(h:x n=0):∀ts:List (Str×Int),cT x (ts.filter λt=>decide (t.1≠n))=cT x ts
 | []=>rfl
 | t::r=>by
  by_cases e:t.1=n
  ·rw[Gn (by simp[e]),eG h r];show _=(t.2:Rat)*x t.1+_;rw[e,h];grind
  ·rw[Gy (by simp[e])];show _+_=_+cT x r;rw[eG h r]
theorem Dq{r:Rw}(hp:∀t∈r.2.1,t.1≠n->0<pB ks ps t.1)(h0:Fm ks ps n=0)(hc:cf r.2.1 n≠0) :
  Fi (bnd ks ps n r).1 (bnd ks ps n r).2/\FJ (bnd ks ps n r)=-(cT (Fm ks ps) r.2.1-(r.2.2:Int)) / ((cf r.2.1 n:Int):Rat):=by
 unfold bnd;have ho:∀t∈r.2.1.filter (λt=>decide (t.1≠n)),0<pB ks ps t.1:=λt ht=>by
  obtain⟨h1,h2⟩:=Ga.mp ht;exact hp t h1 (by simpa using h2)
 have hs:=eG h0 r.2.1
 generalize ho':r.2.1.filter (λt=>decide (t.1≠n))=o at *
 have hK:0<Fy (pB ks ps) (o.map (·.1)):=ce λk hk=>by
  obtain⟨t,ht,rfl⟩:=FV.mp hk;exact ho t ht
 have e:=lN (ks:=ks) (ps:=ps) (K:=Fy (pB ks ps) (o.map (·.1))) (ts:=o) λt ht=>⟨ho t ht,dg (FV.mpr ⟨t,ht,rfl⟩)⟩
 simp only;generalize Fy (pB ks ps) (o.map (·.1))=K at *;have hcK:cf r.2.1 n*K≠0:=GJ hc (by omega);refine⟨et _ hcK,?_⟩;rw[iW _ hcK,Gk,Rat.intCast_sub,Gk,e,hs];have h1:=fM hc;have h2:=fM (show K≠0 by omega)
 grind
abbrev En2:=Option (Int×Int)×Bool
def tgt(lo:Bool)(a b:En2):En2:=match a.1,b.1 with
 | none,_=>b
 | some _,none=>a
 | some p,some q=>if p=q then (some p,a.2&&b.2) else if decide (q.1*p.2<p.1*q.2)=lo then a else b
structure Tgt(lo:Bool)(cs:List ((Int×Int)×Bool))(e:En2):Prop where
 nn:e.1=none->cs=[]
 so:∀p,e.1=some p->Fi p.1 p.2/\(∃c∈cs,c.1=p/\c.2=e.2)/\∀c∈cs,(c.1=p/\(e.2=true->c.2=true))\/(c.1≠p/\(if lo then FJ c.1<FJ p else FJ p<FJ c.1))
def Tgt.nil{lo:Bool}:Tgt lo [] (none,false):=⟨λ_=>rfl,λ_ h=>(nomatch h)⟩
def Tgt.step{lo:Bool}{cs:List ((Int×Int)×Bool)}{e:En2}{c:(Int×Int)×Bool}(h:Tgt lo cs e)(hc:Fi c.1.1 c.1.2):Tgt lo (cs++[c]) (tgt lo e (some c.1,c.2)):=by
 obtain⟨e1,e2⟩:=e;obtain⟨q,b⟩:=c
 cases e1 with
 | none =>
  have:cs=[]:=h.nn rfl
  subst this;refine⟨λz=>(nomatch z),λp hp=>?_⟩
  cases hp
  exact⟨hc,⟨(q,b),by simp,rfl,rfl⟩,λc hc=>by
   have:c=(q,b):=by simpa using hc
   subst this;exact .inl ⟨rfl,id⟩⟩
 | some p =>
  obtain⟨lp,⟨w,hw,w1,w2⟩,all⟩:=h.so p rfl;show Tgt lo _ (if p=q then (some p,e2&&b) else if decide (q.1*p.2<p.1*q.2)=lo then (some p,e2) else (some q,b));have lt:=jw (p:=q) (q:=p) hc.pos lp.pos;have gt:=jw (p:=p) (q:=q) lp.pos hc.pos
  by_cases e:p=q
  ·rw[Gd e];subst e;refine⟨λz=>(nomatch z),λp' hp=>?_⟩
   cases hp
   refine⟨lp,?_,λc hc'=>?_⟩
   ·cases b
    ·exact⟨(p,false),by simp,rfl,by simp⟩
    ·exact⟨w,FZ _ hw,w1,by simpa using w2⟩
   ·rcases F9.mp hc' with hc' | hc'
    ·rcases all c hc' with⟨a1,a2⟩ | a
     ·exact .inl ⟨a1,λz=>a2 (by simpa using (by simpa using z:e2=true/\b=true).1)⟩
     ·exact .inr a
    ·have:c=(p,b):=by simpa using hc'
     subst this;exact .inl ⟨rfl,λz=>(by simpa using z:e2=true/\b=true).2⟩
  ·rw[Gb e];have ne:FJ p≠FJ q:=λz=>e (tj lp hc z)
   by_cases k:decide (q.1*p.2<p.1*q.2)=lo
   ·rw[Gd k];refine⟨λz=>(nomatch z),λp' hp=>?_⟩
    cases hp
    refine⟨lp,⟨w,FZ _ hw,w1,w2⟩,λc hc'=>?_⟩
    rcases F9.mp hc' with hc' | hc'
    ·exact all c hc'
    ·have:c=(q,b):=by simpa using hc'
     subst this;refine .inr ⟨λz=>e z.symm,?_⟩
     cases lo
     ·have:=(decide_eq_false_iff_not.mp k)
      simp only[Bool.false_eq_true,if_false];have:¬ FJ q<FJ p:=λz=>this (lt.mp z)
      grind
     ·simp only[if_true];exact lt.mpr (HL.mp k)
   ·rw[Gb k];refine⟨λz=>(nomatch z),λp' hp=>?_⟩
    cases hp
    have pq:if lo then FJ p<FJ q else FJ q<FJ p:=by
     cases lo
     ·simp only[Bool.false_eq_true,if_false];simp only[Bool.not_eq_false,decide_eq_true_eq] at k;exact lt.mpr k
     ·simp only[if_true];simp only[decide_eq_true_eq] at k;have:¬ FJ q<FJ p:=λz=>k (lt.mp z)
      grind
    refine⟨hc,⟨(q,b),by simp,rfl,rfl⟩,λc hc'=>?_⟩
    rcases F9.mp hc' with hc' | hc'
    ·have x:=all c hc'
     refine .inr ?_
     cases lo
     ·simp only[Bool.false_eq_true,if_false] at x pq ⊢;have:FJ q<FJ c.1:=by rcases x with x | x;rw[x.1];exact pq;grind
      exact⟨λz=>by rw[z] at this;grind,this⟩
     ·simp only[if_true] at x pq ⊢;have:FJ c.1<FJ q:=by rcases x with x | x;rw[x.1];exact pq;grind
      exact⟨λz=>by rw[z] at this;grind,this⟩
    ·have:c=(q,b):=by simpa using hc'
     subst this;exact .inl ⟨rfl,id⟩
def nmb(lo hi:Option (Int×Int)):Int×Int:=match lo,hi with
 | none,none=>(0,1)
 | none,some h=>(Fj (h.1.fdiv h.2-1) 1,FC (h.1.fdiv h.2-1) 1)
 | some l,none=>(Fj (l.1.fdiv l.2+1) 1,FC (l.1.fdiv l.2+1) 1)
 | some l,some h =>
  if Fj (l.1.fdiv l.2+1) 1*h.2<h.1*FC (l.1.fdiv l.2+1) 1 then (Fj (l.1.fdiv l.2+1) 1,FC (l.1.fdiv l.2+1) 1)
  else if l=h then l
  else
   let s:Int×Int:=(Fj (l.1*h.2+h.1*l.2) (l.2*h.2),FC (l.1*h.2+h.1*l.2) (l.2*h.2))
   (Fj (s.1*1) (s.2*2),FC (s.1*1) (s.2*2))
theorem BW{lo hi:En2}(h1:∀p,lo.1=some p->Fi p.1 p.2)(h2:∀p,hi.1=some p->Fi p.1 p.2)(hh:∀p q,lo.1=some p->hi.1=some q->FJ p<FJ q\/(FJ p=FJ q/\lo.2=true/\hi.2=true)) :
  Fi (nmb lo.1 hi.1).1 (nmb lo.1 hi.1).2/\(∀p,lo.1=some p->FJ p<FJ (nmb lo.1 hi.1)\/(FJ p=FJ (nmb lo.1 hi.1)/\lo.2=true))/\∀q,hi.1=some q->FJ (nmb lo.1 hi.1)<FJ q\/(FJ (nmb lo.1 hi.1)=FJ q/\hi.2=true):=by
 obtain⟨l,lb⟩:=lo;obtain⟨h,hb⟩:=hi;have L1:∀a,Fi (Fj a 1) (FC a 1):=λa=>et a (by decide)
 cases l with
 | none =>
  cases h with
  | none=>exact⟨(⟨by decide,by unfold gc;decide⟩:Fi 0 1),λp z=>(nomatch z),λp z=>(nomatch z)⟩
  | some h =>
   refine⟨L1 _,λp z=>(nomatch z),λp z=>?_⟩
   cases z
   have:=B4 (h2 _ rfl).pos
   refine .inl ?_;show FJ (Fj _ 1,FC _ 1)<_;rw[oF,Rat.intCast_sub,show ((1:Int):Rat)=1 from rfl];grind
 | some l =>
  have hl:=h1 _ rfl
  have fl:=B4 hl.pos
  cases h with
  | none =>
   refine⟨L1 _,λp z=>?_,λp z=>(nomatch z)⟩
   cases z
   refine .inl ?_;show _<FJ (Fj _ 1,FC _ 1);rw[oF];exact fl.2
  | some h =>
   have hH:=h2 _ rfl
   have c:=hh _ _ rfl rfl
   show Fi (nmb (some l) (some h)).1 (nmb (some l) (some h)).2/\(∀p,some l=some p->FJ p<FJ (nmb (some l) (some h))\/_/\lb=true)/\(∀q,some h=some q->FJ (nmb (some l) (some h))<FJ q\/_/\hb=true)
   unfold nmb;simp only
   by_cases k:Fj (l.1.fdiv l.2+1) 1*h.2<h.1*FC (l.1.fdiv l.2+1) 1
   ·rw[Gd k];refine⟨L1 _,λp z=>?_,λp z=>?_⟩
    ·cases z;rw[oF];exact .inl fl.2
    ·cases z;exact .inl ((jw (L1 _).pos hH.pos).mpr k)
   ·rw[Gb k]
    by_cases e:l=h
    ·rw[Gd e];subst e;have:lb=true/\hb=true:=by rcases c with c | c;grind;exact c.2
     exact⟨hl,λp z=>by cases z;exact .inr ⟨rfl,this.1⟩,λp z=>by cases z;exact .inr ⟨rfl,this.2⟩⟩
    ·rw[Gb e];have lt:FJ l<FJ h:=by
      rcases c with c | c
      ·exact c
      ·exact absurd (tj hl hH c.1) e
     have nz:l.2*h.2≠0:=GJ hl.ne hH.ne
     have sl:=et (l.1*h.2+h.1*l.2) nz
     have nz2:FC (l.1*h.2+h.1*l.2) (l.2*h.2)*2≠0:=GJ sl.ne (by decide)
     have e1:FJ (Fj (l.1*h.2+h.1*l.2) (l.2*h.2),FC (l.1*h.2+h.1*l.2) (l.2*h.2))=FJ l+FJ h:=by
      rw[iW _ nz,G8,Gk,Gk,Gk];have a1:=fM hl.ne;have a2:=fM hH.ne;unfold FJ
      grind
     have e2:FJ (Fj (Fj (l.1*h.2+h.1*l.2) (l.2*h.2)*1) (FC (l.1*h.2+h.1*l.2) (l.2*h.2)*2),FC (Fj (l.1*h.2+h.1*l.2) (l.2*h.2)*1) (FC (l.1*h.2+h.1*l.2) (l.2*h.2)*2))=(FJ l+FJ h) / 2:=by
      rw[iW _ nz2,<- e1,Gk,Gk,show ((1:Int):Rat)=1 from rfl,show ((2:Int):Rat)=2 from rfl];have a1:=fM sl.ne;unfold FJ
      grind
     refine⟨et _ nz2,λp z=>?_,λp z=>?_⟩
     ·cases z;rw[e2];exact .inl (by grind)
     ·cases z;rw[e2];exact .inl (by grind)
end Mf
namespace Mf
open PySem L2 DL
variable {nm ks:List Str} {rows:List Rw} {ps:List (Int×Int)} {n:Str}
def cnd(nm:List Str)(rows:List Rw)(ks:List Str)(ps:List (Int×Int))(n:Str)(w:List Int):(Int×Int)×Bool:=(bnd ks ps n (Ft nm rows w),!FM (rows.zip w))
def FL(nm:List Str)(rows:List Rw)(ks:List Str)(ps:List (Int×Int))(n:Str)(W:List (List Int)):En2×En2 :=
  W.foldl (λe w =>
    (if 0<cfs (rows.zip w) n then tgt true e.1 (some (cnd nm rows ks ps n w).1,(cnd nm rows ks ps n w).2) else e.1,
     if cfs (rows.zip w) n<0 then tgt false e.2 (some (cnd nm rows ks ps n w).1,(cnd nm rows ks ps n w).2) else e.2)) ((none,false),(none,false))
def zP:∀(W:List (List Int)),(∀w∈W,cfs (rows.zip w) n≠0->Fi (cnd nm rows ks ps n w).1.1 (cnd nm rows ks ps n w).1.2) ->
    Tgt true ((W.filter λw=>decide (0<cfs (rows.zip w) n)).map (cnd nm rows ks ps n)) (FL nm rows ks ps n W).1/\Tgt false ((W.filter λw=>decide (cfs (rows.zip w) n<0)).map (cnd nm rows ks ps n)) (FL nm rows ks ps n W).2:=by
  intro W;unfold FL;have:∀(W:List (List Int)) (c1 c2:List ((Int×Int)×Bool)) (e:En2×En2),(∀w∈W,cfs (rows.zip w) n≠0->Fi (cnd nm rows ks ps n w).1.1 (cnd nm rows ks ps n w).1.2)->Tgt true c1 e.1->Tgt false c2 e.2 ->
      Tgt true (c1++(W.filter λw=>decide (0<cfs (rows.zip w) n)).map (cnd nm rows ks ps n)) (W.foldl (λe w =>
    (if 0<cfs (rows.zip w) n then tgt true e.1 (some (cnd nm rows ks ps n w).1,(cnd nm rows ks ps n w).2) else e.1,
     if cfs (rows.zip w) n<0 then tgt false e.2 (some (cnd nm rows ks ps n w).1,(cnd nm rows ks ps n w).2) else e.2)) e).1 /\
      Tgt false (c2++(W.filter λw=>decide (cfs (rows.zip w) n<0)).map (cnd nm rows ks ps n)) (W.foldl (λe w =>
    (if 0<cfs (rows.zip w) n then tgt true e.1 (some (cnd nm rows ks ps n w).1,(cnd nm rows ks ps n w).2) else e.1,
     if cfs (rows.zip w) n<0 then tgt false e.2 (some (cnd nm rows ks ps n w).1,(cnd nm rows ks ps n w).2) else e.2)) e).2:=λW=>by
    induction W with
    | nil=>intro c1 c2 e _ h1 h2;simpa using ⟨h1,h2⟩
    | cons w W ih =>
      intro c1 c2 e hl h1 h2;have hl':=λw h=>hl w (FU _ h);rw[IL]
      by_cases p:0<cfs (rows.zip w) n
      · have q:¬ cfs (rows.zip w) n<0:=by omega
        rw[Gd p,Gb q,Gy (by simpa using p),Gn (by simpa using q),Go,List.append_cons];exact ih (c1++[cnd nm rows ks ps n w]) c2 (tgt true e.1 (some (cnd nm rows ks ps n w).1,(cnd nm rows ks ps n w).2),e.2) hl' (h1.step (hl w (FW ..) (by omega))) h2
      · by_cases q:cfs (rows.zip w) n<0
        · rw[Gb p,Gd q,Gn (by simpa using p),Gy (by simpa using q),Go,List.append_cons];exact ih c1 (c2++[cnd nm rows ks ps n w]) (e.1,tgt false e.2 (some (cnd nm rows ks ps n w).1,(cnd nm rows ks ps n w).2)) hl' h1 (h2.step (hl w (FW ..) (by omega)))
        · rw[Gb p,Gb q,Gn (by simpa using p),Gn (by simpa using q)];exact ih c1 c2 e hl' h1 h2
  intro h;simpa using this W [] [] ((none,false),(none,false)) h .nil .nil
def sF{x:Str->Rat}{v:Rat}(h:x n=0):∀l:List (Rw×Int),FP (vh x n v) l=FP x l+v*((cfs l n:Int):Rat)
 | []=>by show (0:Rat)=0+v*((0:Int):Rat);rw[show ((0:Int):Rat)=0 from rfl];grind
 | p::r=>by
  show _*(cT (vh x n v) p.1.2.1-_)+FP (vh x n v) r=_*(cT x p.1.2.1-_)+FP x r+v*((p.2*cf p.1.2.1 n+cfs r n:Int):Rat)
  rw[qy h,sF h r,G8,Gk];grind
def Dp(h:Fz nm rows)(x:Str->Rat)(w:List Int):cT x (Ft nm rows w).2.1-((Ft nm rows w).2.2:Int)=FP x (rows.zip w):=by
 rw[mH (x:=x) h.nd (l:=rows.zip w) λp hp=>h.sub p.1 (Gr hp).1];have e2:cT x (Mf.smT nm (Mf.cfs (rows.zip w)))=nE x (Mf.cfs (rows.zip w)) nm:=by
  rw[qc h.nd λt ht=>?_]
  ·congr 1;exact funext λn=>(h.smT w).cf n
  ·obtain⟨n,hn,rfl⟩:=FV.mp ht;exact(Ga.mp hn).1
 show cT x (Mf.smT nm (Mf.cfs (rows.zip w)))-_=_
 rw[e2];rfl
def dm(h:Fz nm rows)(w:List Int)(n:Str):cf (Ft nm rows w).2.1 n=cfs (rows.zip w) n:=(h.smT w).cf n
def eN{w:List Int}{t:Str×Int}(ht:t∈(Ft nm rows w).2.1):t.1∈nm/\cfs (rows.zip w) t.1≠0/\t.2=cfs (rows.zip w) t.1:=by
 obtain⟨n,hn,rfl⟩:=FV.mp ht;obtain⟨h1,h2⟩:=Ga.mp hn;exact⟨h1,by simpa using h2,rfl⟩
theorem zM(H:Fz nm rows){ns:List Str}{x:Str->Rat}(hso:∀w∈Fw rows (n::ns),Fn x (Ft nm rows w)){l h:List Int}(hl:l∈Fw rows ns)(hh:h∈Fw rows ns)
    (cl:0<cfs (rows.zip l) n) (ch:cfs (rows.zip h) n<0) :
    -(FP x (rows.zip l)) / ((cfs (rows.zip l) n:Int):Rat) < -(FP x (rows.zip h)) / ((cfs (rows.zip h) n:Int):Rat) \/
      (-(FP x (rows.zip l)) / ((cfs (rows.zip l) n:Int):Rat)=-(FP x (rows.zip h)) / ((cfs (rows.zip h) n:Int):Rat)/\FM (rows.zip l)=false/\FM (rows.zip h)=false):=by
  obtain⟨wl,al⟩:=ci hl;obtain⟨wh,ah⟩:=ci hh;have nl:=uS wl.len wl.nn;have nh:=uS wh.len wh.nn;have c1:(0:Rat)<((cfs (rows.zip l) n:Int):Rat):=e8 cl;have c2:((cfs (rows.zip h) n:Int):Rat)<0:=by have:=Hh.mpr ch;simpa using this
  have key:=pF (rows:=rows) (n::ns) (λ_=>True) (eV x rows) (λs hs _=>by
    obtain⟨w,hw,rfl⟩:=FV.mp hs
    exact(Bo H (ci hw).1.len).mp (hso w hw)) (λi=>-((cfs (rows.zip h) n:Int):Rat)*Fs l i+((cfs (rows.zip l) n:Int):Rat)*Fs h i)
    ⟨λi=>by
      have a1:=GF (a:=-((cfs (rows.zip h) n:Int):Rat)) (b:=Fs l i) (by grind) (nl.pos i)
      have a2:=GF (a:=((cfs (rows.zip l) n:Int):Rat)) (b:=Fs h i) (by grind) (nh.pos i)
      grind,λi hi=>by rw[nl.top i hi,nh.top i hi];grind⟩
    (λc hc=>by
      obtain⟨k,hk,rfl⟩:=FV.mp hc;rw[c7,<- ls wl.len,<- ls wh.len]
      rcases F7.mp hk with rfl | hk
      · grind
      · rw[al k hk,ah k hk,show ((0:Int):Rat)=0 from rfl];grind) (λ_ _=>trivial)
  unfold sat at key;rw[c7,<- ly wl.len,<- ly wh.len] at key;generalize FP x (rows.zip l)=L at *;generalize FP x (rows.zip h)=R at *;generalize hcl:((cfs (rows.zip l) n:Int):Rat)=a at *;generalize hch:((cfs (rows.zip h) n:Int):Rat)=b at *;have e1:-b*L+a*R=((-R / b)-(-L / a))*(a*(-b)):=by grind
  have pp:=G4 (a:=a) (b:=-b) c1 (by grind)
  rw[e1] at key
  rcases key with k | ⟨k,st⟩
  · refine .inl (F4 λz=>?_);have:=GF (a:=(-L / a)-(-R / b)) (b:=a * -b) (by grind) (by grind)
    grind
  · refine .inr ⟨by rcases Ic.mp k with q | q<;>grind,(pd wl.len).mpr λi hi hp=>st i hi ?_,(pd wh.len).mpr λi hi hp=>st i hi ?_⟩
    · have a1:=G4 (a:=-b) (b:=Fs l i) (by grind) hp
      have a2:=GF (a:=a) (b:=Fs h i) (by grind) (nh.pos i)
      grind
    · have a1:=GF (a:=-b) (b:=Fs l i) (by grind) (nl.pos i)
      have a2:=G4 (a:=a) (b:=Fs h i) c1 hp
      grind
theorem back(H:Fz nm rows){ns:List Str}(hso:∀w∈Fw rows (n::ns),Fn (Fm ks ps) (Ft nm rows w))(h0:Fm ks ps n=0)
  (hp:∀w∈Fw rows ns,∀t∈(Ft nm rows w).2.1,t.1≠n->0<pB ks ps t.1) :
  Fi (nmb (FL nm rows ks ps n (Fw rows ns)).1.1 (FL nm rows ks ps n (Fw rows ns)).2.1).1 (nmb (FL nm rows ks ps n (Fw rows ns)).1.1 (FL nm rows ks ps n (Fw rows ns)).2.1).2 /\
   ∀w∈Fw rows ns,Fn (vh (Fm ks ps) n (FJ (nmb (FL nm rows ks ps n (Fw rows ns)).1.1 (FL nm rows ks ps n (Fw rows ns)).2.1))) (Ft nm rows w):=by
 have bo:∀w∈Fw rows ns,cfs (rows.zip w) n≠0->Fi (cnd nm rows ks ps n w).1.1 (cnd nm rows ks ps n w).1.2/\FJ (cnd nm rows ks ps n w).1=-(FP (Fm ks ps) (rows.zip w)) / ((cfs (rows.zip w) n:Int):Rat):=λw hw hc=>by
  have:=Dq (hp w hw) h0 (by rw[dm H];exact hc)
  rw[Dp H,dm H] at this;exact this
 obtain⟨T1,T2⟩:=zP (nm:=nm) (rows:=rows) (ks:=ks) (ps:=ps) (n:=n) (Fw rows ns) λw hw hc=>(bo w hw hc).1;generalize FL nm rows ks ps n (Fw rows ns)=e at *;obtain⟨lo,hi⟩:=e;simp only at *;have at1:∀p,lo.1=some p->∃l∈Fw rows ns,0<cfs (rows.zip l) n/\p=(cnd nm rows ks ps n l).1/\lo.2=!FM (rows.zip l):=λp hp=>by
  obtain⟨_,⟨c,hc,e1,e2⟩,_⟩:=T1.so p hp;obtain⟨l,hl,rfl⟩:=FV.mp hc;obtain⟨hl1,hl2⟩:=Ga.mp hl;exact⟨l,hl1,by simpa using hl2,e1.symm,e2.symm⟩
 have at2:∀p,hi.1=some p->∃l∈Fw rows ns,cfs (rows.zip l) n<0/\p=(cnd nm rows ks ps n l).1/\hi.2=!FM (rows.zip l):=λp hp=>by
  obtain⟨_,⟨c,hc,e1,e2⟩,_⟩:=T2.so p hp;obtain⟨l,hl,rfl⟩:=FV.mp hc;obtain⟨hl1,hl2⟩:=Ga.mp hl;exact⟨l,hl1,by simpa using hl2,e1.symm,e2.symm⟩
 obtain⟨low,v1,v2⟩:=BW (lo:=lo) (hi:=hi) (λp h=>(T1.so p h).1) (λp h=>(T2.so p h).1) λp q hp hq=>by
  obtain⟨l,hl,cl,rfl,sl⟩:=at1 p hp;obtain⟨h,hh,ch,rfl,sh⟩:=at2 q hq;rw[(bo l hl (by omega)).2,(bo h hh (by omega)).2]
  rcases zM H hso hl hh cl ch with k | ⟨k1,k2,k3⟩
  ·exact .inl k
  ·exact .inr ⟨k1,by rw[sl,k2];rfl,by rw[sh,k3];rfl⟩
 refine⟨low,λw hw=>?_⟩;rw[pQ H,sF h0];generalize FJ (nmb lo.1 hi.1)=v at *
 rcases Int.lt_trichotomy (cfs (rows.zip w) n) 0 with c | c | c
 ·obtain⟨_,b2⟩:=bo w hw (by omega);have cr:((cfs (rows.zip w) n:Int):Rat)<0:=by have:=Hh.mpr c;simpa using this
  have hm:cnd nm rows ks ps n w∈((Fw rows ns).filter λw=>decide (cfs (rows.zip w) n<0)).map (cnd nm rows ks ps n):=FV.mpr ⟨w,Ga.mpr ⟨hw,by simpa using c⟩,rfl⟩
  cases hlo:hi.1 with
  | none=>rw[T2.nn hlo] at hm;cases hm
  | some p =>
   have vv:=v2 p hlo
   have key:v<FJ (cnd nm rows ks ps n w).1\/(v=FJ (cnd nm rows ks ps n w).1/\FM (rows.zip w)=false):=by
    rcases(T2.so p hlo).2.2 _ hm with⟨z1,z2⟩ | ⟨_,z⟩
    ·rw[z1];refine vv.imp id λ⟨y1,y2⟩=>⟨y1,?_⟩;have:(!FM (rows.zip w))=true:=z2 y2;simpa using this
    ·simp only[Bool.false_eq_true,if_false] at z;exact .inl (by grind)
   rw[b2] at key;generalize FP (Fm ks ps) (rows.zip w)=L at *;generalize ((cfs (rows.zip w) n:Int):Rat)=a at *;have e1:L+v*a=((-L / a)-v)*(-a):=by grind
   rw[e1]
   rcases key with k | k
   ·exact .inl (G4 (by grind) (by grind))
   ·exact .inr ⟨by rw[<- k.1];grind,k.2⟩
 ·have:=hso w (iA.mpr (.inl ⟨hw,c⟩))
  rw[pQ H] at this;rw[c,show ((0:Int):Rat)=0 from rfl];have e:FP (Fm ks ps) (rows.zip w)+v*0=FP (Fm ks ps) (rows.zip w):=by grind
  rw[e];exact this
 ·obtain⟨_,b2⟩:=bo w hw (by omega);have cr:(0:Rat)<((cfs (rows.zip w) n:Int):Rat):=e8 c;have hm:cnd nm rows ks ps n w∈((Fw rows ns).filter λw=>decide (0<cfs (rows.zip w) n)).map (cnd nm rows ks ps n):=FV.mpr ⟨w,Ga.mpr ⟨hw,by simpa using c⟩,rfl⟩
  cases hlo:lo.1 with
  | none=>rw[T1.nn hlo] at hm;cases hm
  | some p =>
   have vv:=v1 p hlo
   have key:FJ (cnd nm rows ks ps n w).1<v\/(FJ (cnd nm rows ks ps n w).1=v/\FM (rows.zip w)=false):=by
    rcases(T1.so p hlo).2.2 _ hm with⟨z1,z2⟩ | ⟨_,z⟩
    ·rw[z1];refine vv.imp id λ⟨y1,y2⟩=>⟨y1,?_⟩;have:(!FM (rows.zip w))=true:=z2 y2;simpa using this
    ·simp only[if_true] at z;exact .inl (by grind)
   rw[b2] at key;generalize FP (Fm ks ps) (rows.zip w)=L at *;generalize ((cfs (rows.zip w) n:Int):Rat)=a at *;have e1:L+v*a=(v-(-L / a))*a:=by grind
   rw[e1]
   rcases key with k | k
   ·exact .inl (G4 (by grind) (by grind))
   ·exact .inr ⟨by rw[<- k.1];grind,k.2⟩
def fbk(nm:List Str)(rows:List Rw):List Str->List Str->List (Int×Int)->List (Int×Int)
 | [],_,ps=>ps
 | n::ns,ks,ps=>fbk nm rows ns (ks++[n]) (ps++[nmb (FL nm rows ks ps n (Fw rows ns)).1.1 (FL nm rows ks ps n (Fw rows ns)).2.1])
def pA{α:Type}{k:Str}{v:α}:∀ {ks:List Str} {ps:List α},ps.length=ks.length->n∉ks->dAt (ks++[n]) (ps++[v]) k=if k=n then some v else dAt ks ps k
 | [],[],_,_=>by
  show (if n=k then some v else dAt [] [] k)=if k=n then some v else none
  by_cases e:n=k
  ·rw[Gd e,Gd e.symm]
  ·rw[Gb e,Gb λz=>e z.symm];rfl
 | x::ks,p::ps,h,hn=>by
  rw[F7,not_or] at hn;show (if x=k then some p else dAt (ks++[n]) (ps++[v]) k)=_;rw[pA (by simpa using h) hn.2]
  by_cases e:x=k
  ·rw[Gd e,Gb λz=>hn.1 (z.symm.trans e.symm)];show _=if x=k then some p else dAt ks ps k;rw[Gd e]
  ·rw[Gb e];show _=if k=n then some v else if x=k then some p else dAt ks ps k;rw[Gb e]
def fJ{k:Str}{v:Int×Int}(h:ps.length=ks.length)(hn:n∉ks):mS (ks++[n]) (ps++[v]) k=if k=n then v else mS ks ps k:=by
 unfold mS;rw[pA h hn]
 by_cases e:k=n
 ·rw[Gd e,Gd e];rfl
 ·rw[Gb e,Gb e]
def qf{v:Int×Int}(h:ps.length=ks.length)(hn:n∉ks):Fm (ks++[n]) (ps++[v])=vh (Fm ks ps) n (FJ v):=by
 funext k
 unfold Fm vh;rw[fJ h hn]
 by_cases e:k=n
 ·rw[Gd e,Gd e]
 ·rw[Gb e,Gb e]
def wT(h:n∉ks):mS ks ps n=(0,1):=by
 unfold mS;rw[ou h];rfl
def rZ(h:n∉ks):Fm ks ps n=0:=by
 unfold Fm FJ;rw[wT h,show ((((0,1):Int×Int).1:Int):Rat)=0 from rfl];grind
def xI(H:Fz nm rows):∀(ns ks:List Str) (ps:List (Int×Int)),ps.length=ks.length->(∀p∈ps,Fi p.1 p.2)->(ks++ns).Nodup->(∀n∈nm,n∈ks\/n∈ns)->(∀w∈Fw rows ns,Fn (Fm ks ps) (Ft nm rows w)) ->
  (fbk nm rows ns ks ps).length=(ks++ns).length/\(∀p∈fbk nm rows ns ks ps,Fi p.1 p.2)/\ps <+: fbk nm rows ns ks ps/\∀w∈Fw rows [],Fn (Fm (ks++ns) (fbk nm rows ns ks ps)) (Ft nm rows w)
 | [],ks,ps,hl,lo,nd,hm,hs=>by
  rw[GH];exact⟨hl,lo,List.prefix_refl _,hs⟩
 | n::ns,ks,ps,hl,lo,nd,hm,hs=>by
  have nd':(ks++[n]++ns).Nodup:=by simpa using nd
  have hn:n∉ks:=λz=>by
   have:=(HK.mp nd).2.2 n z n (FW ..)
   exact this rfl
  have hp:∀w∈Fw rows ns,∀t∈(Ft nm rows w).2.1,t.1≠n->0<pB ks ps t.1:=λw hw t ht hne=>by
   obtain⟨h1,h2,_⟩:=eN ht;have:t.1∈ks:=by
    rcases hm t.1 h1 with z | z
    ·exact z
    ·rcases F7.mp z with z | z
     ·exact absurd z hne
     ·exact absurd ((ci hw).2 _ z) h2
   have P:Pt ks ps (ps.foldl (λa p=>a+Builtin.Int.intBits p.1+Builtin.Int.intBits p.2) 0):=⟨hl,lo,λp hp=>?_,λp hp=>?_⟩
   ·exact P.pos this
   ·exact(bits_fold ps 0 p hp).1
   ·exact(bits_fold ps 0 p hp).2
  obtain⟨b1,b2⟩:=back H hs (rZ hn) hp
  obtain⟨c1,c2,c3,c4⟩:=xI H ns (ks++[n]) (ps++[_]) (by simp[hl]) (λp hp=>(F9.mp hp).elim (lo p) λz=>by rw[F6.mp z];exact b1) nd' (λk hk=>by
   rcases hm k hk with z | z
   ·exact .inl (FZ _ z)
   ·rcases F7.mp z with z | z
    ·exact .inl (F5 _ (F6.mpr z))
    ·exact .inr z) (λw hw=>by rw[qf hl hn];exact b2 w hw)
  have e:ks++n::ns=ks++[n]++ns:=by simp
  rw[e];exact⟨c1,c2,(List.prefix_append ..).trans c3,c4⟩
where
 bits_fold:∀(l:List (Int×Int)) (a:Nat),∀p∈l,Builtin.Int.intBits p.1<=l.foldl (λa p=>a+Builtin.Int.intBits p.1+Builtin.Int.intBits p.2) a/\Builtin.Int.intBits p.2<=l.foldl (λa p=>a+Builtin.Int.intBits p.1+Builtin.Int.intBits p.2) a
  | q::l,a,p,h=>by
   rw[IL];have mono:∀(l:List (Int×Int)) (a:Nat),a<=l.foldl (λa p=>a+Builtin.Int.intBits p.1+Builtin.Int.intBits p.2) a:=λl=>by
    induction l with
    | nil=>intro a;exact F3 a
    | cons q l ih=>intro a;rw[IL];exact FX (by omega) (ih _)
   rcases F7.mp h with rfl | h
   ·have:=mono l (a+Builtin.Int.intBits p.1+Builtin.Int.intBits p.2)
    omega
   ·exact bits_fold l _ p h
def py(H:Fz nm rows){j:Nat}{r:Rw}(hj:rows[j]?=some r):Ft nm rows (unW rows.length j)=r:=by
 have hr:=Ge hj
 have hlt:j<rows.length:=(List.getElem?_eq_some_iff.mp hj).1
 have z:∀ {i:Nat} {rs:List Rw} (k:Nat),k+rs.length<=i->∀n,cfs (rs.zip ((List.range' k rs.length).map λx=>if x=i then (1:Int) else 0)) n=0/\bds (rs.zip ((List.range' k rs.length).map λx=>if x=i then (1:Int) else 0))=0/\FM (rs.zip ((List.range' k rs.length).map λx=>if x=i then (1:Int) else 0))=false:=λ{i rs}=>by
  induction rs with
  | nil=>intro k _ n;exact⟨rfl,rfl,rfl⟩
  | cons a rs ih =>
   intro k hk n;rw[F8] at hk;obtain⟨i1,i2,i3⟩:=ih (k+1) (by omega) n;rw[F8,List.range'_succ,Go,Gb (by omega)];refine⟨?_,?_,?_⟩
   ·show 0*cf a.2.1 n+cfs (rs.zip _) n=0
    rw[i1];omega
   ·show 0*a.2.2+bds (rs.zip _)=0
    rw[i2];omega
   ·show ((isM a.1&&decide ((0:Int)<0))||FM (rs.zip _))=false
    rw[i3];simp
 have z2:∀ {i:Nat} {rs:List Rw} (k:Nat),i<k->∀n,cfs (rs.zip ((List.range' k rs.length).map λx=>if x=i then (1:Int) else 0)) n=0/\bds (rs.zip ((List.range' k rs.length).map λx=>if x=i then (1:Int) else 0))=0/\FM (rs.zip ((List.range' k rs.length).map λx=>if x=i then (1:Int) else 0))=false:=λ{i rs}=>by
  induction rs with
  | nil=>intro k _ n;exact⟨rfl,rfl,rfl⟩
  | cons a rs ih =>
   intro k hk n;obtain⟨i1,i2,i3⟩:=ih (k+1) (by omega) n;rw[F8,List.range'_succ,Go,Gb (by omega)];refine⟨?_,?_,?_⟩
   ·show 0*cf a.2.1 n+cfs (rs.zip _) n=0
    rw[i1];omega
   ·show 0*a.2.2+bds (rs.zip _)=0
    rw[i2];omega
   ·show ((isM a.1&&decide ((0:Int)<0))||FM (rs.zip _))=false
    rw[i3];simp
 have key:∀ {rs:List Rw} (k i:Nat),rs[i]?=some r->∀n,cfs (rs.zip ((List.range' k rs.length).map λx=>if x=k+i then (1:Int) else 0)) n=cf r.2.1 n/\bds (rs.zip ((List.range' k rs.length).map λx=>if x=k+i then (1:Int) else 0))=r.2.2/\FM (rs.zip ((List.range' k rs.length).map λx=>if x=k+i then (1:Int) else 0))=isM r.1:=λ{rs}=>by
  induction rs with
  | nil=>intro k i h;cases h
  | cons a rs ih =>
   intro k i h n;rw[F8,List.range'_succ,Go]
   cases i with
   | zero =>
    cases h
    obtain⟨i1,i2,i3⟩:=z2 (i:=k) (rs:=rs) (k+1) (by omega) n;rw[Gd (by omega)];refine⟨?_,?_,?_⟩
    ·show 1*cf r.2.1 n+cfs (rs.zip _) n=_
     rw[Nat.add_zero,i1];omega
    ·show 1*r.2.2+bds (rs.zip _)=_
     rw[Nat.add_zero,i2];omega
    ·show ((isM r.1&&decide ((0:Int)<1))||FM (rs.zip _))=_
     rw[Nat.add_zero,i3];simp
   | succ i =>
    obtain⟨i1,i2,i3⟩:=ih (k+1) i h n;rw[Gb (by omega),show k+(i+1)=k+1+i by omega];refine⟨?_,?_,?_⟩
    ·show 0*cf a.2.1 n+cfs (rs.zip _) n=_
     rw[i1];omega
    ·show 0*a.2.2+bds (rs.zip _)=_
     rw[i2];omega
    ·show ((isM a.1&&decide ((0:Int)<0))||FM (rs.zip _))=_
     rw[i3];simp
 have k0:=key (rs:=rows) 0 j hj
 have e:unW rows.length j=(List.range' 0 rows.length).map λx=>if x=0+j then (1:Int) else 0:=by unfold unW;rw[List.range_eq_range',Nat.zero_add]
 rw[<- e] at k0;have f1:(λn=>cfs (rows.zip (unW rows.length j)) n)=cf r.2.1:=funext λn=>(k0 n).1;have s1:=H.smT (unW rows.length j);unfold Ft;have t1:Mf.smT nm (Mf.cfs (rows.zip (unW rows.length j)))=r.2.1:=by
  have f2:Mf.cfs (rows.zip (unW rows.length j))=cf r.2.1:=f1
  rw[f2] at s1 ⊢;exact s1.uniq (H.sum r hr)
 rw[t1,(k0 "").2.1,(k0 "").2.2];obtain⟨k,ts,b⟩:=r
 cases k<;>rfl
end Mf
namespace Mf
open PySem L2 DL
variable {n:Str} {c:Nat} {rows:List Rw}
abbrev ib(x:Int):Nat:=Builtin.Int.intBits x
def wb(B m:Nat):Nat->Nat
 | 0=>1
 | k+1=>2*wb B m k+B+m+1
def cb(B m k:Nat):Nat:=wb B m k+B+m
structure RwB(B:Nat)(rows:List Rw):Prop where
 tm:∀r∈rows,∀t∈r.2.1,ib t.2<=B
 bd:∀r∈rows,ib r.2.2<=B
def ib0:ib 0=0:=by decide
def Ap{ts:List (Str×Int)}{B:Nat}(nd:(ts.map (·.1)).Nodup)(h:∀t∈ts,ib t.2<=B):ib (cf ts n)<=B:=by
 by_cases e:n∈ts.map (·.1)
 ·obtain⟨t,ht,rfl⟩:=FV.mp e;rw[lT nd ht];exact h t ht
 ·rw[jy e,ib0];exact G5 _
def pL{B W:Nat}{n:Str}:∀ {l:List (Rw×Int)},(∀p∈l,ib (cf p.1.2.1 n)<=B/\ib p.2<=W)->ib (cfs l n)<=W+B+l.length
 | [],_=>by show ib 0<=_;rw[ib0];omega
 | p::r,h=>by
  have h1:=h p (FW ..)
  have:=He (Gi h1.2 h1.1) (pL (B:=B) (W:=W) (n:=n) λq hq=>h q (FU _ hq))
  show ib (p.2*cf p.1.2.1 n+cfs r n)<=_
  rw[F8];unfold ib;omega
def pZ{B W:Nat}:∀ {l:List (Rw×Int)},(∀p∈l,ib p.1.2.2<=B/\ib p.2<=W)->ib (bds l)<=W+B+l.length
 | [],_=>by show ib 0<=_;rw[ib0];omega
 | p::r,h=>by
  have h1:=h p (FW ..)
  have:=He (Gi h1.2 h1.1) (pZ (B:=B) (W:=W) λq hq=>h q (FU _ hq))
  show ib (p.2*p.1.2.2+bds r)<=_
  rw[F8];unfold ib;omega
section
variable {nm:List Str} {rows:List Rw} {B:Nat}
def Fz.cfb(H:Fz nm rows)(hb:RwB B rows){w:List Int}{W:Nat}(hw:∀a∈w,ib a<=W)(n:Str):ib (Mf.cfs (rows.zip w) n)<=W+B+rows.length:=by
 refine FX (pL (B:=B) (W:=W) λp hp=>⟨Ap (H.sum _ (Gr hp).1).nd (hb.tm _ (Gr hp).1),hw _ (Gr hp).2⟩) ?_;rw[G7];omega
def Fz.bdb(hb:RwB B rows){w:List Int}{W:Nat}(hw:∀a∈w,ib a<=W):ib (Mf.bds (rows.zip w))<=W+B+rows.length:=by
 refine FX (pZ (B:=B) (W:=W) λp hp=>⟨hb.bd _ (Gr hp).1,hw _ (Gr hp).2⟩) ?_;rw[G7];omega
def vf{a b:Int}{W C:Nat}(ha:ib a<=C)(hb:ib b<=C):∀ {l h:List Int},(∀x∈l,ib x<=W)->(∀x∈h,ib x<=W)->∀x∈List.zipWith (λx y=>x*a+y*b) l h,ib x<=W+C+1
 | [],_,_,_,x,hx=>by simp at hx
 | _::_,[],_,_,x,hx=>by simp at hx
 | u::l,v::h,h1,h2,x,hx=>by
  rw[Ih] at hx
  rcases F7.mp hx with rfl | hx
  ·have:=He (Gi (h1 u (FW ..)) ha) (Gi (h2 v (FW ..)) hb)
   unfold ib;omega
  ·exact vf ha hb (λx hx=>h1 x (FU _ hx)) (λx hx=>h2 x (FU _ hx)) x hx
def tI{B m k:Nat}:wb B m k<=wb B m (k+1):=by
 show wb B m k<=2*wb B m k+B+m+1
 omega
def kR(H:Fz nm rows)(hb:RwB B rows){l h:List Int}{k:Nat}(hl:∀a∈l,ib a<=wb B rows.length k)(hh:∀a∈h,ib a<=wb B rows.length k):∀a∈crS rows n l h,ib a<=wb B rows.length (k+1):=λa ha=>by
 have:=vf (C:=cb B rows.length k) (HN (H.cfb hb hh n)) (H.cfb hb hl n) hl hh a ha
 show ib a<=2*wb B rows.length k+B+rows.length+1
 unfold cb at this;omega
def cO(H:Fz nm rows)(hb:RwB B rows):∀ {ns:List Str} {w:List Int},w∈Fw rows ns->∀a∈w,ib a<=wb B rows.length ns.length
 | [],w,h,a,ha=>by
  obtain⟨j,hj,rfl⟩:=FV.mp h;obtain⟨i,_,rfl⟩:=FV.mp ha;show ib _<=1
  split<;>decide
 | n::ns,w,h,a,ha=>by
  rw[F8]
  rcases iA.mp h with⟨h1,h2⟩ | ⟨l,hl,cl,k,hk,ck,rfl,_⟩
  ·exact FX (cO H hb h1 a ha) tI
  ·obtain⟨b,hb',rfl⟩:=FV.mp ha;exact GP (kR H hb (cO H hb hl) (cO H hb hk) b hb')
end
theorem zab{z a b:Nat}(h1:z+a+b<=c)(h4:4<=c):z+a*b<=c*c / 4:=by
 refine(Iy (by decide)).mpr ?_;have e1:4*(a*b)<=(a+b)*(a+b):=by
  have:(a+b)*(a+b)=a*a+2*(a*b)+b*b:=by rw[Nat.add_mul,Im,Im,Nat.mul_comm b a];omega
  rcases Nat.le_total a b with q | q
  ·obtain⟨d,rfl⟩:=Ie q;have e:(a+d)*(a+d)=a*a+2*(a*d)+d*d:=by rw[Nat.add_mul,Im,Im,Nat.mul_comm d a];omega
   have e':a*(a+d)=a*a+a*d:=Im ..
   omega
  ·obtain⟨d,rfl⟩:=Ie q;have e:(b+d)*(b+d)=b*b+2*(b*d)+d*d:=by rw[Nat.add_mul,Im,Im,Nat.mul_comm d b];omega
   have e':(b+d)*b=b*b+b*d:=by rw[Nat.add_mul,Nat.mul_comm d b]
   omega
 have e2:(a+b)*(a+b)+4*z<=c*c:=by
  obtain⟨t,ht⟩:=Ie (show a+b+z<=c by omega);have hs:c*c=(a+b)*(a+b)+(z+t)*(a+b+c):=by
   have:c=(a+b)+(z+t):=by omega
   generalize hx:a+b=x at *
   generalize hy:z+t=y at *
   subst this
   grind
  rw[hs];have:(z+t)*(a+b+c) ≥ z*4:=Nat.mul_le_mul (by omega) (by omega);omega
 omega
def cnt3{rows:List Rw}{n:Str}:∀W:List (List Int),(W.filter λw=>decide (cfs (rows.zip w) n=0)).length+(W.filter λw=>decide (0<cfs (rows.zip w) n)).length+(W.filter λw=>decide (cfs (rows.zip w) n<0)).length=W.length
 | []=>rfl
 | w::W=>by
  have ih:=cnt3 (rows:=rows) (n:=n) W
  rcases Int.lt_trichotomy (cfs (rows.zip w) n) 0 with q | q | q
  ·rw[Gn (by simp;omega),Gn (by simp;omega),Gy (by simpa using q),F8,F8];omega
  ·rw[Gy (by simpa using q),Gn (by simp;omega),Gn (by simp;omega),F8,F8];omega
  ·rw[Gn (by simp;omega),Gy (by simpa using q),Gn (by simp;omega),F8,F8];omega
def kM{rows:List Rw}{n:Str}{most:Nat}(R:List (List Int)):∀L:List (List Int),(L.flatMap λl=>(R.map (crW rows n l)).filter λu=>decide (usd u<=most)).length<=L.length*R.length
 | []=>by simp
 | l::L=>by
  have ih:=kM (rows:=rows) (n:=n) (most:=most) R L
  rw[List.flatMap_cons,F1,F8,Nat.succ_mul];have:=HH (λu=>decide (usd u<=most)) (R.map (crW rows n l));rw[FR] at this;omega
def vU{most:Nat}{W:List (List Int)}(h:W.length<=c)(h4:4<=c):(woW rows n most W).length<=c*c / 4:=by
 unfold woW;rw[F1];have h1:=cnt3 (rows:=rows) (n:=n) W;have h2:=kM (rows:=rows) (n:=n) (most:=most) (W.filter λw=>decide (cfs (rows.zip w) n<0)) (W.filter λw=>decide (0<cfs (rows.zip w) n));exact FX (Nat.add_le_add_left h2 _) (zab (by omega) h4)
def cnt:Nat->Nat->Nat
 | c,0=>c
 | c,k+1=>cnt c k*cnt c k / 4
def uP(h:rows.length<=c)(h4:4<=c):∀ns:List Str,(Fw rows ns).length<=cnt c ns.length/\4<=cnt c ns.length
 | []=>⟨by show (vo rows.length).length<=c;unfold vo;rw[FR,GN];exact h,h4⟩
 | n::ns=>by
  obtain⟨h1,h2⟩:=uP h h4 ns;refine⟨vU h1 h2,?_⟩;show 4<=cnt c ns.length*cnt c ns.length / 4;refine(Iy (by decide)).mpr ?_;exact Nat.mul_le_mul h2 h2
def mV{p q N z:Int}(h:Fi p q)(e:((N:Int):Rat)*FJ (p,q)=(z:Int)):q ∣ N:=by
 have hq:=fM h.ne
 have e2:((N*p:Int):Rat)=((z*q:Int):Rat):=by
  rw[Gk,Gk,<- e];show _=((N:Int):Rat)*(((p:Int):Rat) / ((q:Int):Rat))*_
  grind
 have e3:N*p=z*q:=IJ.mp e2
 have d:q ∣ p*N:=⟨z,by rw[GL p,e3,GL]⟩
 have g:Int.gcd q p=1:=by rw[Int.gcd_comm];exact h.cop'
 have k:=(HF (k:=q) (n:=p) (m:=N)).mpr d
 rw[g] at k;simpa using k
def df{a b:Int}{n:Nat}(h:a ∣ b)(h0:b≠0)(hb:ib b<=n):ib a<=n:=intBits_le_of_natAbs (Nat.le_of_dvd (by omega) (Int.natAbs_dvd_natAbs.mpr h)) hb
def nQ{q:Str->Int}:∀ {l ks:List Str},l.Nodup->(∀n∈l,n∈ks)->Fy q l ∣ Fy q ks
 | [],ks,_,_=>⟨Fy q ks,(Int.one_mul _).symm⟩
 | n::l,ks,nd,h=>by
  obtain⟨h1,h2⟩:=GU.mp nd;have hn:=h n (FW ..);have e:Fy q ks=q n*Fy q (ks.erase n):=wS (List.perm_cons_erase hn);have:=nQ (q:=q) (l:=l) (ks:=ks.erase n) h2 λk hk=>(List.mem_erase_of_ne (λ(z:k=n)=>h1 (z ▸ hk))).mpr (h k (FU _ hk));rw[e];exact Int.mul_dvd_mul (Int.dvd_refl _) this
def lP{q q':Str->Int}:∀ {l:List Str},(∀n∈l,q n=q' n)->Fy q l=Fy q' l
 | [],_=>rfl
 | n::l,h=>by show q n*_=q' n*_;rw[h n (FW ..),lP λk hk=>h k (FU _ hk)]
def gg{f:Str->Int}{c m:Nat}:∀ {ts:List (Str×Int)},(∀t∈ts,ib t.2<=c/\ib (f t.1)<=m)->ib (cF f ts)<=c+m+ts.length
 | [],_=>by show ib 0<=_;rw[ib0];omega
 | t::r,h=>by
  have h1:=h t (FW ..)
  have h2:=He (Gi h1.1 h1.2) (gg (c:=c) (m:=m) λu hu=>h u (FU _ hu))
  show ib (t.2*f t.1+cF f r)<=_
  rw[F8];unfold ib;omega
structure nK(L:Int)(c g κ T:Nat)(p:Int×Int):Prop where
 low:Fi p.1 p.2
 bb:ib p.2<=c+g
 tb:ib p.1<=c+T+κ+70
 wh:∃N z:Int,N≠0/\ib N<=c/\((N*L:Int):Rat)*FJ p=(z:Int)
theorem vV{ks:List Str}{ps:List (Int×Int)}{r:Rw}{κ g T:Nat}{L:Int}(P:Pt ks ps T)(hκ:ib (Fy (pB ks ps) ks)<=κ)(L0:L≠0)(hL:∀k∈ks,pB ks ps k ∣ L)(hg:ib L<=g)(nd:(r.2.1.map (·.1)).Nodup)(hk:ks.length<=60)
  (hp:∀t∈r.2.1,t.1≠n->t.1∈ks) (hc:cf r.2.1 n≠0) (hcb:ib (cf r.2.1 n)<=c) (htb:∀t∈r.2.1,ib t.2<=c) (hbb:ib r.2.2<=c):nK L c g κ T (bnd ks ps n r):=by
 unfold bnd;have ho:∀t∈r.2.1.filter (λt=>decide (t.1≠n)),t.1∈ks/\ib t.2<=c:=λt ht=>by
  obtain⟨h1,h2⟩:=Ga.mp ht;exact⟨hp t h1 (by simpa using h2),htb t h1⟩
 have ndo:((r.2.1.filter (λt=>decide (t.1≠n))).map (·.1)).Nodup:=nd.sublist (List.filter_sublist.map _)
 generalize ho':r.2.1.filter (λt=>decide (t.1≠n))=o at *
 have hon:∀k∈o.map (·.1),k∈ks:=λk hk=>by
  obtain⟨t,ht,rfl⟩:=FV.mp hk;exact(ho t ht).1
 have hlen:o.length<=60:=by
  have:=eT ndo hon
  rw[FR] at this;omega
 have hK:0<Fy (pB ks ps) (o.map (·.1)):=ce λk hk=>P.pos (hon k hk)
 have hKa:0<Fy (pB ks ps) ks:=ce λk hk=>P.pos hk
 have hd:=nQ (q:=pB ks ps) ndo hon
 have hKb:ib (Fy (pB ks ps) (o.map (·.1)))<=κ:=df hd (by omega) hκ
 have hsb:ib (cF (ov (pT ks ps) (pB ks ps) (Fy (pB ks ps) (o.map (·.1)))) o)<=c+(T+κ)+o.length:=gg λt ht=>⟨(ho t ht).2,Gi (P.Tb (ho t ht).1) (GP hKb)⟩
 have r1:=lN (ks:=ks) (ps:=ps) (K:=Fy (pB ks ps) (o.map (·.1))) (ts:=o) λt ht=>⟨P.pos (ho t ht).1,dg (FV.mpr ⟨t,ht,rfl⟩)⟩
 have r2:=lN (ks:=ks) (ps:=ps) (K:=L) (ts:=o) λt ht=>⟨P.pos (ho t ht).1,hL _ (ho t ht).1⟩
 simp only;generalize Fy (pB ks ps) (o.map (·.1))=K at *;have hcK:cf r.2.1 n*K≠0:=GJ hc (by omega);have lw:=et (r.2.2*K-cF (ov (pT ks ps) (pB ks ps) K) o) hcK;have wh:((cf r.2.1 n*L:Int):Rat)*FJ (Fj (r.2.2*K-cF (ov (pT ks ps) (pB ks ps) K) o) (cf r.2.1 n*K),FC (r.2.2*K-cF (ov (pT ks ps) (pB ks ps) K) o) (cf r.2.1 n*K))=((r.2.2*L-cF (ov (pT ks ps) (pB ks ps) L) o:Int):Rat):=by
  rw[iW _ hcK];have h1:=fM hc;have h2:=fM (show K≠0 by omega);simp only[Rat.intCast_mul,Rat.intCast_sub,r1,r2];generalize cT (Fm ks ps) o=x at *;generalize ((cf r.2.1 n:Int):Rat)=a at *;generalize ((K:Int):Rat)=b at *;generalize ((L:Int):Rat)=d at *;generalize ((r.2.2:Int):Rat)=e at *
  grind
 refine⟨lw,df (mV lw wh) (GJ hc L0) (Gi hcb hg),?_,?_⟩
 ·have:=intBits_sub_le (Gi hbb hKb) hsb
  exact FX (GP this) (by omega)
 ·exact⟨cf r.2.1 n,_,hc,hcb,wh⟩
def yl{lo:Bool}{Pr:Int×Int->Prop}{a b:En2}(ha:∀p,a.1=some p->Pr p)(hb:∀p,b.1=some p->Pr p):∀p,(tgt lo a b).1=some p->Pr p:=by
 obtain⟨a1,a2⟩:=a;obtain⟨b1,b2⟩:=b;intro p h
 cases a1 with
 | none=>exact hb p h
 | some x =>
  cases b1 with
  | none=>exact ha p h
  | some y =>
   have h:(if x=y then ((some x,a2&&b2):En2) else if decide (y.1*x.2<x.1*y.2)=lo then (some x,a2) else (some y,b2)).1=some p:=h
   split at h
   ·exact ha p h
   ·split at h
    ·exact ha p h
    ·exact hb p h
def xF{nm:List Str}{ks:List Str}{ps:List (Int×Int)}{Pr:Int×Int->Prop}:∀ {W:List (List Int)},(∀w∈W,cfs (rows.zip w) n≠0->Pr (cnd nm rows ks ps n w).1)->(∀p,(FL nm rows ks ps n W).1.1=some p->Pr p)/\∀p,(FL nm rows ks ps n W).2.1=some p->Pr p:=by
  intro W;unfold FL
  have:∀(W:List (List Int)) (e:En2×En2),(∀w∈W,cfs (rows.zip w) n≠0->Pr (cnd nm rows ks ps n w).1)->(∀p,e.1.1=some p->Pr p)->(∀p,e.2.1=some p->Pr p)->(∀p,(W.foldl (λe w =>
    (if 0<cfs (rows.zip w) n then tgt true e.1 (some (cnd nm rows ks ps n w).1,(cnd nm rows ks ps n w).2) else e.1,
     if cfs (rows.zip w) n<0 then tgt false e.2 (some (cnd nm rows ks ps n w).1,(cnd nm rows ks ps n w).2) else e.2)) e).1.1=some p->Pr p)/\∀p,(W.foldl (λe w =>
    (if 0<cfs (rows.zip w) n then tgt true e.1 (some (cnd nm rows ks ps n w).1,(cnd nm rows ks ps n w).2) else e.1,
     if cfs (rows.zip w) n<0 then tgt false e.2 (some (cnd nm rows ks ps n w).1,(cnd nm rows ks ps n w).2) else e.2)) e).2.1=some p->Pr p:=λW=>by
    induction W with
    | nil=>intro e _ h1 h2;exact⟨h1,h2⟩
    | cons w W ih =>
      intro e h h1 h2;rw[IL];refine ih _ (λw hw=>h w (FU _ hw)) ?_ ?_
      · show ∀p,(if 0<cfs (rows.zip w) n then tgt true e.1 (some (cnd nm rows ks ps n w).1,(cnd nm rows ks ps n w).2) else e.1).1=some p->Pr p
        by_cases q:0<cfs (rows.zip w) n
        · rw[Gd q];exact yl h1 λp hp=>by cases hp;exact h w (FW ..) (by omega)
        · rw[Gb q];exact h1
      · show ∀p,(if cfs (rows.zip w) n<0 then tgt false e.2 (some (cnd nm rows ks ps n w).1,(cnd nm rows ks ps n w).2) else e.2).1=some p->Pr p
        by_cases q:cfs (rows.zip w) n<0
        · rw[Gd q];exact yl h2 λp hp=>by cases hp;exact h w (FW ..) (by omega)
        · rw[Gb q];exact h2
  exact λh=>this W _ h (λp hp=>nomatch hp) λp hp=>nomatch hp
def vT{L:Int}{g κ T:Nat}{lo hi:Option (Int×Int)}(h0:L≠0)(hg:ib L<=g)(hgκ:g<=κ)(h1:∀p,lo=some p->nK L c g κ T p)(h2:∀p,hi=some p->nK L c g κ T p) :
  ib (nmb lo hi).1<=2*(c+T+κ+72)+2/\ib (nmb lo hi).2<=2*c+g+2/\∃M:Int,M≠0/\ib M<=2*c+2/\(nmb lo hi).2 ∣ M*L:=by
 have key:ib (nmb lo hi).1<=2*(c+T+κ+72)+2/\∃M:Int,M≠0/\ib M<=2*c+2/\(nmb lo hi).2 ∣ M*L:=?_
 ·obtain⟨k1,M,m0,mb,md⟩:=key;refine⟨k1,df md (GJ m0 h0) ?_,M,m0,mb,md⟩;have:=Gi mb hg;unfold ib;omega
 have i1:ib 1=1:=by decide
 have o1:∀a,∃M:Int,M≠0/\ib M<=2*c+2/\FC a 1 ∣ M*L:=λa=>⟨1,by decide,by omega,by rw[(pU a).2];exact Int.one_dvd _⟩
 have o2:∀ {p:Int×Int} {z:Int},ib p.1<=c+T+κ+70->ib z<=1->ib (Fj (p.1.fdiv p.2+z) 1)<=2*(c+T+κ+72)+2:=λ{p z} h hz=>by
  rw[(pU _).1];have:=He (GP (y:=p.2) h) hz;unfold ib;omega
 unfold nmb
 cases lo with
 | none =>
  cases hi with
  | none=>exact⟨by show ib 0<=_;rw[ib0];omega,1,by decide,by omega,Int.one_dvd _⟩
  | some h=>exact⟨o2 (p:=h) (z:=-1) (h2 h rfl).tb (by decide),o1 _⟩
 | some l =>
  cases hi with
  | none=>exact⟨o2 (p:=l) (z:=1) (h1 l rfl).tb (by decide),o1 _⟩
  | some h =>
   have cl:=h1 l rfl
   have ch:=h2 h rfl
   simp only
   by_cases k:Fj (l.1.fdiv l.2+1) 1*h.2<h.1*FC (l.1.fdiv l.2+1) 1
   ·rw[Gd k];exact⟨o2 (p:=l) (z:=1) cl.tb (by decide),o1 _⟩
   ·rw[Gb k];obtain⟨N1,z1,n1,b1,w1⟩:=cl.wh;obtain⟨N2,z2,n2,b2,w2⟩:=ch.wh
    by_cases e:l=h
    ·rw[Gd e];have b:=cl.tb;exact⟨by omega,N1,n1,by omega,mV (p:=l.1) cl.low w1⟩
    ·rw[Gb e];have nz:l.2*h.2≠0:=GJ cl.low.ne ch.low.ne;have sl:=et (l.1*h.2+h.1*l.2) nz;have nz2:FC (l.1*h.2+h.1*l.2) (l.2*h.2)*2≠0:=GJ sl.ne (by decide);have e1:FJ (Fj (l.1*h.2+h.1*l.2) (l.2*h.2),FC (l.1*h.2+h.1*l.2) (l.2*h.2))=FJ l+FJ h:=by
      rw[iW _ nz,G8,Gk,Gk,Gk];have a1:=fM cl.low.ne;have a2:=fM ch.low.ne;unfold FJ
      grind
     have e2:FJ (Fj (Fj (l.1*h.2+h.1*l.2) (l.2*h.2)*1) (FC (l.1*h.2+h.1*l.2) (l.2*h.2)*2),FC (Fj (l.1*h.2+h.1*l.2) (l.2*h.2)*1) (FC (l.1*h.2+h.1*l.2) (l.2*h.2)*2))=(FJ l+FJ h) / 2:=by
      rw[iW _ nz2,<- e1,Gk,Gk,show ((1:Int):Rat)=1 from rfl,show ((2:Int):Rat)=2 from rfl];have a1:=fM sl.ne;unfold FJ
      grind
     have dv:FC (Fj (l.1*h.2+h.1*l.2) (l.2*h.2)*1) (FC (l.1*h.2+h.1*l.2) (l.2*h.2)*2) ∣ 2*(N1*N2)*L:=by
      refine mV (z:=N2*z1+N1*z2) (et _ nz2) ?_;rw[e2];simp only[Rat.intCast_mul,Rat.intCast_add] at w1 w2 ⊢;rw[show ((2:Int):Rat)=2 from rfl]
      grind
     refine⟨?_,2*(N1*N2),GJ (by decide) (GJ n1 n2),?_,dv⟩
     ·have s1:=He (Gi cl.tb ch.bb) (Gi ch.tb cl.bb)
      have s2:ib (Fj (l.1*h.2+h.1*l.2) (l.2*h.2)*1)<=2*(c+T+κ+72)+2:=by
       rw[Int.mul_one];exact FX (GP s1) (by omega)
      exact GP s2
     ·have:=Gi (show ib 2<=2 by decide) (Gi b1 b2)
      unfold ib;omega
end Mf
namespace Lw
open PySem L2 DL
variable {t u:TDS} {R:a4} {δ:En} {g:TDG} {i j L:Int} {b:Bool} {l names ks nm ns:List Str} {x:Str→Rat} {q:Str→Int} {ts:List (Str×Int)} {rows c d:List Rw} {ps:List (Int×Int)} {n:Str} {A B:List (List Rw)}
variable {P:Program} {w:World} {K:PySem.W.Frag} {mg:Str→Option Value} {base:Heap}
structure Zz where
 P:Program
 w:World
 K:PySem.W.Frag
 mg:Str->Option Value
 base:Heap
 d_common_divisor:Fd K mg "common_divisor" s_common_divisor ["one","other"]
 d_made:Fd K mg "made" s_made ["top","bottom"]
 d_plus:Fd K mg "plus" s_plus ["one","other"]
 d_times:Fd K mg "times" s_times ["one","other"]
 d_less:Fd K mg "less" s_less ["one","other"]
 d_is_row:Fd K mg "is_row" s_is_row ["saying"]
 d_mark_names:Fd K mg "mark_names" s_mark_names ["saying","found"]
 d_names_of:Fd K mg "names_of" s_names_of ["saying"]
 d_tops_of:Fd K mg "tops_of" s_tops_of ["names","point"]
 d_top_of_sum:Fd K mg "top_of_sum" s_top_of_sum ["terms","tops"]
 d_row_is_so:Fd K mg "row_is_so" s_row_is_so ["row","tops","bottom"]
 d_part_is_so:Fd K mg "part_is_so" s_part_is_so ["saying","tops","bottom"]
 d_is_so:Fd K mg "is_so" s_is_so ["saying","point"]
 d_contrary:Fd K mg "contrary" s_contrary ["row"]
 d_plain_part:Fd K mg "plain_part" s_plain_part ["saying","turned"]
 d_plain:Fd K mg "plain" s_plain ["saying"]
 d__law_cell:Fd K mg "_law_cell" s__law_cell ["_law_script","_law_k"]
 d_put_together:Fd K mg "put_together" s_put_together ["one","other"]
 d_cases_within:Fd K mg "cases_within" s_cases_within ["part","whole"]
 d_cases:Fd K mg "cases" s_cases ["saying"]
 d_added:Fd K mg "added" s_added ["rows","weights"]
 d_weight_of:Fd K mg "weight_of" s_weight_of ["name","row"]
 d_alone:Fd K mg "alone" s_alone ["rows"]
 d_shortened:Fd K mg "shortened" s_shortened ["weights"]
 d_crossed:Fd K mg "crossed" s_crossed ["low","high","name"]
 d_without:Fd K mg "without" s_without ["rows","sums","name","most"]
 d_taken_out:Fd K mg "taken_out" s_taken_out ["rows","names"]
 d_bound_on:Fd K mg "bound_on" s_bound_on ["name","row","point"]
 d_tighter:Fd K mg "tighter" s_tighter ["one","other","is_low"]
 d_number_in:Fd K mg "number_in" s_number_in ["piece"]
 d_piece_for:Fd K mg "piece_for" s_piece_for ["name","sums","point"]
 d_found_back:Fd K mg "found_back" s_found_back ["steps","names","point"]
 d_solved:Fd K mg "solved" s_solved ["rows","names"]
 d_both_so:Fd K mg "both_so" s_both_so ["one","other"]
 d_joined:Fd K mg "joined" s_joined ["word","sayings"]
 d_between:Fd K mg "between" s_between ["one","other"]
 d__law_whole:Fd K mg "_law_whole" s__law_whole ["_law_found"]
 d__law_over:Fd K mg "_law_over" s__law_over ["_law_one","_law_other"]
 d__law_total:Fd K mg "_law_total" s__law_total ["_law_terms","_law_point"]
 d__law_row_so:Fd K mg "_law_row_so" s__law_row_so ["_law_row","_law_point"]
 d__law_number:Fd K mg "_law_number" s__law_number ["_law_cell_here"]
 d__law_line:Fd K mg "_law_line" s__law_line ["_law_cells","_law_names_here"]
 d__law_fence:Fd K mg "_law_fence" s__law_fence ["_law_cells","_law_fence_here","_law_side"]
 d__law_shaped:Fd K mg "_law_shaped" s__law_shaped ["_law_rows","_law_cell_here"]
 d__law_sayings:Fd K mg "_law_sayings" s__law_sayings ["_law_script"]
 d__law_so:Fd K mg "_law_so" s__law_so ["_law_saying","_law_point"]
 d__law_names:Fd K mg "_law_names" s__law_names ["_law_saying"]
 d__law_formed:Fd K mg "_law_formed" s__law_formed ["_law_saying","_law_names_here"]
 d__law_mixed:Fd K mg "_law_mixed" s__law_mixed ["_law_one","_law_other","_law_cell_here"]
 d__law_drawn:Fd K mg "_law_drawn" s__law_drawn ["_law_cells"]
 d__law_points:Fd K mg "_law_points" s__law_points ["_law_one","_law_other","_law_cells"]
 z_abs:mg "abs"=none
 z_sorted:mg "sorted"=none
 z_tuple:mg "tuple"=none
 z_len:mg "len"=none
 z_max:mg "max"=none
 z_zip:mg "zip"=none
 z_enumerate:mg "enumerate"=none
 z_range:mg "range"=none
 z_reversed:mg "reversed"=none
 z_dict:mg "dict"=none
 z_isinstance:mg "isinstance"=none
 z_bool:mg "bool"=none
 z_int:mg "int"=none
 z_set:mg "set"=none
 z_sum:mg "sum"=none
 g_OPPOSITES:GTab K mg "OPPOSITES" [("least","more"),("more","least"),("both","either"),("either","both")]
 g_MOST_ROWS:GInt mg "MOST_ROWS" 3
 g_MOST_CASES:GInt mg "MOST_CASES" 4
 g_ENDLESS:GEnd K mg "ENDLESS"
abbrev Zz.C(Z:Zz)(k:Nat)(x:Str)(ps:List Str)(sp:Sp):Prop:=Cal Z.P Z.w Z.K Z.mg Z.base k x ps sp
local macro_rules | `(tactic| walk_at "sc") => `(tactic| exact ⟨rfl, rfl, rfl, by decide +kernel, rfl, by decide +kernel, by decide +kernel⟩)
open Mf
def ag(h:∀K:En->Prop,K=u R->t { R with nx:=K } δ):dSeq t u R δ:=h _ rfl
def mv(src:TDC)(F:D->a4->En->Prop):TDS:=λR δ=>src δ λxs δ1=>∃I:Nat->En->Prop,I 0 δ1 /\
 (∀i x δ',xs[i]?=some x->I i δ'->F x { R with nx:=I (i+1),ct:=I (i+1),bk:=R.nx,tp:=False } δ')/\∀δ',I xs.length δ'->R.nx δ'
def eP{src:TDC}{tb:TDS}(h:∀(F:D->a4->En->Prop) (N:En->Prop),F=(λx R δ=>g x δ λδ2=>tb R δ2)->N=R.nx->mv src F { R with nx:=N } δ):dFor src g tb R δ:=h _ _ rfl rfl
def dB(t:FQ)(F:D->a4->En->Prop):TDS:=λR δ=>t δ (wd λd δ1=>qL d λxs=>∃I:Nat->En->Prop,I 0 δ1 /\
 (∀i x δ',xs[i]?=some x->I i δ'->F x { R with nx:=I (i+1),ct:=I (i+1),bk:=R.nx,tp:=False } δ')/\∀δ',I xs.length δ'->R.nx δ')
def bZ{t:FQ}{tb:TDS}(h:∀(F:D->a4->En->Prop) (N:En->Prop),F=(λx R δ=>g x δ λδ2=>tb R δ2)->N=R.nx->dB t F { R with nx:=N } δ):rD t g tb R δ:=h _ _ rfl rfl
def xx(t:FQ)(F:D->a4->En->Prop):TDS:=λR δ=>t δ (wd λd δ1=>qT d λxs=>∃I:Nat->En->Prop,I 0 δ1 /\
 (∀i x δ',xs[i]?=some x->I i δ'->F x { R with nx:=I (i+1),ct:=I (i+1),bk:=R.nx,tp:=False } δ')/\∀δ',I xs.length δ'->R.nx δ')
def vE{t:FQ}{tb:TDS}(h:∀(F:D->a4->En->Prop) (N:En->Prop),F=(λx R δ=>g x δ λδ2=>tb R δ2)->N=R.nx->xx t F { R with nx:=N } δ):nY t g tb R δ:=h _ _ rfl rfl
def qg(t:TDA)(F:D->a4->En->Prop):TDS:=λR δ=>t δ λds δ1=>qC ds λx r=>qN r <| qI x λj=>-(2 ^ 62)<=j/\j<2 ^ 62/\∃I:Nat->En->Prop,I 0 δ1 /\
 (∀i δ',i<j.toNat->I i δ'->F (.int i) { R with nx:=I (i+1),ct:=I (i+1),bk:=R.nx,tp:=False } δ')/\∀δ',I j.toNat δ'->R.nx δ'
def kQ{t:TDA}{tb:TDS}(h:∀(F:D->a4->En->Prop) (N:En->Prop),F=(λx R δ=>g x δ λδ2=>tb R δ2)->N=R.nx->qg t F { R with nx:=N } δ):zI t g tb R δ:=h _ _ rfl rfl
def b6{x:D}(h:∀K:En->Prop,K=u R->g x δ λδ2=>t { R with nx:=K } δ2):g x δ λδ2=>dSeq t u R δ2:=h _ rfl
def aN{α β γ:Type}(f:β->Option γ)(g:α->β)(h:α->γ):∀(l:List α),(∀x∈l,f (g x)=some (h x))->(l.map g).filterMap f=l.map h
 | [],_=>rfl
 | x::l,e=>by rw[Go,Go,GK,e x (FW ..),aN f g h l λy hy=>e y (FU _ hy)]
def FK{c A B:Prop}[Decidable c](hc:¬ c)(h:B):if c then A else B:=by rw[Gb hc];exact h
def ifp{c A B:Prop}[Decidable c](hc:c)(h:A):if c then A else B:=by rw[Gd hc];exact h
def at0{α:Type}{x:α}{xs:List α}:Fp (x::xs) 0=some x:=by
 unfold Fp ixN;simp only[List.length_cons];rw[Gd (by omega),Gd (by omega)];rfl
def at1{α:Type}{x y:α}{xs:List α}:Fp (x::y::xs) 1=some y:=by
 unfold Fp ixN;simp only[List.length_cons];rw[Gd (by omega),Gd (by omega)];rfl
def at2{α:Type}{x y z:α}{xs:List α}:Fp (x::y::z::xs) 2=some z:=by
 unfold Fp ixN;simp only[List.length_cons];rw[Gd (by omega),Gd (by omega)];rfl
def atm1{α:Type}{x:α}{xs:List α}:Fp (xs++[x]) (-1)=some x:=wC xs x
def uW{R:D->Prop}:sW [.int i,.int j] R=(R (.int (i+j))):=rfl
def tR{xs ys:List D}{R:D->Prop}:sW [.lst xs,.lst ys] R=(xs.length+ys.length<=9000/\R (.lst (xs++ys))):=rfl
def wI{xs:List D}{R:D->Prop}:Bg [.lst xs] R=(R (.int xs.length)):=rfl
def AX{xs:List D}{R:D->Prop}:Bg [.fz xs] R=(R (.int xs.length)):=rfl
def wQ{xs:List D}{R:D->Prop}:Bg [.tup xs] R=(R (.int xs.length)):=rfl
def vY{R:D->Prop}:fInt [.int i] R=(R (.int i)):=rfl
def zF{R:D->Prop}:fInt [.bl b] R=(R (.int (if b then 1 else 0))):=rfl
def AK{xs:List D}{R:D->Prop}:fIx [.tup xs,.int i] R=FB xs i R:=rfl
def yV{xs:List D}{R:D->Prop}:fIx [.lst xs,.int i] R=FB xs i R:=rfl
def CA{xs:List D}{R:D->Prop}:fIx [.fz xs,.int i] R=FB xs i R:=rfl
def yZ{z:Str}{R:D->Prop}:fIx [.str z,.int i] R=(z.length<=9000/\∃c,Fp z.cps.toList i=some c/\R (.str ⟨#[c]⟩)):=rfl
def zd{xs:List D}{l u:Option Int}{R:D->Prop}:fSl (.lst xs) l u R=(R (.lst (cut xs l u))):=rfl
def Du{xs:List D}{l u:Option Int}{R:D->Prop}:fSl (.fz xs) l u R=(R (.lst (cut xs l u))):=rfl
def Nat.cast_ofNat_Int{n:Nat}:((OfNat.ofNat n:Nat):Int)=OfNat.ofNat n:=rfl
def tN{xs ys:List D}{R:D->Prop}:sW [.tup xs,.tup ys] R=(xs≠[]/\ys≠[]/\xs.length+ys.length<=9000/\R (.tup (xs++ys))):=rfl
def uA{xs:List D}{l u:Option Int}{R:D->Prop}:fSl (.tup xs) l u R=(¬ (HT.sIx xs.length 0 l=0/\HT.sIx xs.length xs.length u=xs.length)/\R (.tup (cut xs l u))):=rfl
def Ag{R:D->Prop}:fIs [.non,.non] R=(R (.bl true)):=rfl
def yO{c f:Str}{d:D}{R:D->Prop}:fIs [.exn c f d,.non] R=(R (.bl false)):=rfl
def zf{xs:List D}{R:D->Prop}:fIs [.tup xs,.non] R=(R (.bl false)):=rfl
def wd_e{R:D->En->Prop}{x:D}:wd R (.d x) δ=R x δ:=rfl
def qB_e{k:Bool->Prop}:qB (.bl b) k=k b:=rfl
def qI_e{b:Int}{k:Int->Prop}:qI (.int b) k=k b:=rfl
def qX_e{b:Str}{k:Str->Prop}:qX (.str b) k=k b:=rfl
def qT_e{b:List D}{k:List D->Prop}:qT (.tup b) k=k b:=rfl
def qL_e{b:List D}{k:List D->Prop}:qL (.lst b) k=k b:=rfl
def qY_l{b:List D}{k:List D->Prop}:qY (.lst b) k=k b:=rfl
def qY_t{b:List D}{k:List D->Prop}:qY (.tup b) k=k b:=rfl
def E6{l:List D}{k:List D->Prop}:qY (sq b l) k=k l:=by cases b<;>rfl
def qG_e{b:List Str}{c:List D}{k:List Str->List D->Prop}:qG (.dct b c) k=k b c:=rfl
def qF_e{b:List Str}{c:List D}{k:List Str->List D->Prop}:qF (.fd b c) k=k b c:=rfl
def qZ_d{b:List Str}{c:List D}{k:List Str->List D->Prop}:qZ (.dct b c) k=k b c:=rfl
def qZ_f{b:List Str}{c:List D}{k:List Str->List D->Prop}:qZ (.fd b c) k=k b c:=rfl
def qV_e{α:Type}{a:α}{k:α->Prop}:qV (some a) k=k a:=rfl
def qN_e{k:Prop}:qN [] k=k:=rfl
def qC_e{x:D}{r:List D}{k:D->List D->Prop}:qC (x::r) k=k x r:=rfl
def xu{k:Prop}:rY [] 0 k=k:=rfl
def xJ{x:D}{r:List D}{n:Nat}{k:Prop}:rY (x::r) (n+1) k=rY r n k:=rfl
def q9_0{k:Prop}:q9 [] k=k:=rfl
def q9_1{a:D}{k:Prop}:q9 [a] k=k:=rfl
def q9_2{a b:D}{k:Prop}:q9 [a,b] k=k:=rfl
def q9_3{a b c:D}{k:Prop}:q9 [a,b,c] k=k:=rfl
def q9_4{a b c d:D}{k:Prop}:q9 [a,b,c,d] k=k:=rfl
def qW_s{x:Sl}{i:Nat}{k:Addr->D->Prop}:qW (x::δ)[i+1]? k=qW δ[i]? k:=rfl
def qW_z{a:Addr}{d:D}{k:Addr->D->Prop}:qW (.own a d::δ)[0]? k=k a d:=rfl
def qD_s{x:Sl}{i:Nat}{k:D->Prop}:qD (x::δ)[i+1]? k=qD δ[i]? k:=rfl
def qD_z{d:D}{k:D->Prop}:qD (.dat d::δ)[0]? k=k d:=rfl
def yo{x y:Sl}{i:Nat}{k:En->Prop}:lH (x::δ) (i+1) y k=lH δ i y λδ'=>k (x::δ'):=rfl
def xP{x y:Sl}{k:En->Prop}:lH (x::δ) 0 y k=k (y::δ):=rfl
def Em{x:D}{l:List D}{k:D->Prop}:FB (x::l) 0 k=k x:=rfl
def DN{x y:D}{l:List D}{k:D->Prop}:FB (x::y::l) 1 k=k y:=rfl
def Dy{x y z:D}{l:List D}{k:D->Prop}:FB (x::y::z::l) 2 k=k z:=rfl
def DD{x y z u:D}{l:List D}{k:D->Prop}:FB (x::y::z::u::l) 3 k=k u:=rfl
def qS_t{d:D}{k:List D->Prop}:qS true d k=qL d k:=rfl
def qS_f{d:D}{k:List D->Prop}:qS false d k=qT d k:=rfl
def EN{A B:Prop}:(if true=true then A else B)=A:=rfl
def EU{A B:Prop}:(if false=true then A else B)=B:=rfl
def D8{A B:Prop}:(if (!true)=true then A else B)=B:=rfl
def Fa{A B:Prop}:(if (!false)=true then A else B)=A:=rfl
def Dm{p:List Sl->Prop}:wB 0 p=p []:=rfl
def Ch{n:Nat}{p:List Sl->Prop}:wB (n+1) p=(∀t:Option D,wB n λts=>p (oS t::ts)):=rfl
def DY{c:En}:okT 0 δ c=(δ=c):=rfl
def E4{n:Nat}{d:D}{c:En}:okT (n+1) (.dat d::δ) c=okT n δ c:=rfl
def CC{d:D}:sP (some (.dat d))=.dat d:=rfl
def qD_e{d:D}{k:D->Prop}:qD (some (.dat d)) k=k d:=rfl
def qW_e{a:Addr}{d:D}{k:Addr->D->Prop}:qW (some (.own a d)) k=k a d:=rfl
def BA{x:Sl}{i:Nat}:sP (x::δ)[i+1]?=sP δ[i]?:=rfl
def C4{d:D}:sP (.dat d::δ)[0]?=.dat d:=rfl
def rF{k:Bool->Prop}:Fq "int" .non k=k false:=rfl
def sJ{k:Bool->Prop}:Fq "int" (.bl b) k=k true:=rfl
def rg{b:Int}{k:Bool->Prop}:Fq "int" (.int b) k=k true:=rfl
def qJ{b:Str}{k:Bool->Prop}:Fq "int" (.str b) k=k false:=rfl
def qU{b:List D}{k:Bool->Prop}:Fq "int" (.tup b) k=k false:=rfl
def rK{b:List D}{k:Bool->Prop}:Fq "int" (.lst b) k=k false:=rfl
def t5{b:List D}{k:Bool->Prop}:Fq "int" (.fz b) k=k false:=rfl
def rG{b:List Str}{c:List D}{k:Bool->Prop}:Fq "int" (.dct b c) k=k false:=rfl
def tX{b:List Str}{c:List D}{k:Bool->Prop}:Fq "int" (.fd b c) k=k false:=rfl
def nJ{k:Bool->Prop}:Fq "bool" .non k=k false:=rfl
def qO{k:Bool->Prop}:Fq "bool" (.bl b) k=k true:=rfl
def oJ{b:Int}{k:Bool->Prop}:Fq "bool" (.int b) k=k false:=rfl
def m7{b:Str}{k:Bool->Prop}:Fq "bool" (.str b) k=k false:=rfl
def mY{b:List D}{k:Bool->Prop}:Fq "bool" (.tup b) k=k false:=rfl
def oU{b:List D}{k:Bool->Prop}:Fq "bool" (.lst b) k=k false:=rfl
def ri{b:List D}{k:Bool->Prop}:Fq "bool" (.fz b) k=k false:=rfl
def n5{b:List Str}{c:List D}{k:Bool->Prop}:Fq "bool" (.dct b c) k=k false:=rfl
def rT{b:List Str}{c:List D}{k:Bool->Prop}:Fq "bool" (.fd b c) k=k false:=rfl
def mB{k:Bool->Prop}:Fq "tuple" .non k=k false:=rfl
def nI{k:Bool->Prop}:Fq "tuple" (.bl b) k=k false:=rfl
def lX{b:Int}{k:Bool->Prop}:Fq "tuple" (.int b) k=k false:=rfl
def l7{b:Str}{k:Bool->Prop}:Fq "tuple" (.str b) k=k false:=rfl
def mz{b:List D}{k:Bool->Prop}:Fq "tuple" (.tup b) k=k true:=rfl
def lJ{b:List D}{k:Bool->Prop}:Fq "tuple" (.lst b) k=k false:=rfl
def nZ{b:List D}{k:Bool->Prop}:Fq "tuple" (.fz b) k=k false:=rfl
def mN{b:List Str}{c:List D}{k:Bool->Prop}:Fq "tuple" (.dct b c) k=k false:=rfl
def mX{b:List Str}{c:List D}{k:Bool->Prop}:Fq "tuple" (.fd b c) k=k false:=rfl
def oH{k:Bool->Prop}:Fq "dict" .non k=k false:=rfl
def qM{k:Bool->Prop}:Fq "dict" (.bl b) k=k false:=rfl
def m8{b:Int}{k:Bool->Prop}:Fq "dict" (.int b) k=k false:=rfl
def oM{b:Str}{k:Bool->Prop}:Fq "dict" (.str b) k=k false:=rfl
def nU{b:List D}{k:Bool->Prop}:Fq "dict" (.tup b) k=k false:=rfl
def oq{b:List D}{k:Bool->Prop}:Fq "dict" (.lst b) k=k false:=rfl
def rA{b:List D}{k:Bool->Prop}:Fq "dict" (.fz b) k=k false:=rfl
def m5{b:List Str}{c:List D}{k:Bool->Prop}:Fq "dict" (.dct b c) k=k true:=rfl
def rO{b:List Str}{c:List D}{k:Bool->Prop}:Fq "dict" (.fd b c) k=k true:=rfl
def EZ{f:List D->(D->Prop)->Prop}{x y:D}{R:W->En->Prop}:kOb f x R (.d y) δ=f [x,y] (kD R δ):=rfl
def EB{f:List D->(D->Prop)->Prop}{tb:FQ}{x:D}{R:W->En->Prop}:kOa f tb R (.d x) δ=tb δ (kOb f x R):=rfl
def Fe{f:List D->(D->Prop)->Prop}{x:D}{R:W->En->Prop}:kUn f R (.d x) δ=f [x] (kD R δ):=rfl
def D5{t:TDA}{x:D}{R:List D->En->Prop}:kAc t R (.d x) δ=t δ (kAd x R):=rfl
def Ef{R:Bool->En->Prop}:kTs R (.d (.bl b)) δ=R b δ:=rfl
def Eg{u:FQ}{R:W->En->Prop}:kAV u R (.d (.bl b)) δ=(if b=true then u δ R else R (.d (.bl false)) δ):=rfl
def Eh{u:FQ}{R:W->En->Prop}:kOV u R (.d (.bl b)) δ=(if b=true then R (.d (.bl true)) δ else u δ R):=rfl
def DK{R:W->En->Prop}:kNV R (.d (.bl b)) δ=R (.d (.bl (!b))) δ:=rfl
def EW{x:D}:kRe R (.d x) δ=R.rt x δ:=rfl
def Dx{i:Nat}{x:D}:kSe i R (.d x) δ=lH δ i (.dat x) R.nx:=rfl
def Ct{x:D}:kAs g R (.d x) δ=g x δ R.nx:=rfl
def Ez{T:String}{x:D}{R:W->En->Prop}:kIs T R (.d x) δ=(Fq T x λb=>R (.d (.bl b)) δ):=rfl
def Fl(i:Nat){X:Cx}{x:Str}{j}{k:Int}{p p2 pos:Pos}(hN:X.N[i]?=some x:=by rfl)(hv:Vis X.env.scope x:=by walk_at "v3")(hd:(x==("__debug__":Str))=false:=by decide)(hcd:(x==("__classdict__":Str))=false:=by decide):DE X (.Subscript (.Name x p) (.Constant (.int k) j p2) pos) (dOp fIx (dV i) (dC (.int k))):=dW dX (ak i hN hv hd hcd) am (λ_ _=>rfl)
local macro_rules | `(tactic| walk_at "rh") => `(tactic| try simp only [↓kD, ↓kN, ↓kO, ↓kI, ↓wd_e, ↓Dx, ↓Ct, ↓yo, ↓xP, ↓xJ, ↓xu, ↓qC_e, ↓qN_e, ↓qT_e, ↓qL_e, ↓ln, ↓zz, ↓r8, ↓Ae, ↓dL, ↓kz, ↓nH, ↓qWD, ↓qW_s, ↓qW_z, ↓qG_e])
local macro_rules | `(tactic| walk_at "rd") => `(tactic| ((try simp only [gC, List.map_cons, List.map_nil, List.cons_append, List.nil_append, List.append_nil, List.length_cons, List.length_nil, Nat.reduceAdd, Nat.reduceSub, List.replicate]); try simp only [↓EZ, ↓EB, ↓Fe, ↓D5, ↓Ef, ↓Eg, ↓Eh, ↓DK, ↓EW, ↓Dx, ↓Ct, ↓Ez, ↓kAd, ↓kCa, ↓kTu, ↓kLs, ↓kAn, ↓kOr, ↓kNo, ↓kIE, ↓xA, ↓B8, ↓dcSq, ↓xW, ↓B9, ↓kz, ↓yi, ↓Dw, ↓yk, ↓xQ, ↓wP, ↓rV, ↓wG, ↓wK, ↓zW, ↓tN, ↓uA, ↓Ag, ↓zf, ↓yO, ↓dSS, ↓CT, ↓Cy, ↓w6, ↓Cp, ↓B3, ↓Bx, ↓CG, ↓ve, ↓C5, ↓Dj, ↓tE, ↓nH, ↓dSeq, ↓dIf, ↓kIf, ↓dRet, ↓dSet, ↓dV, ↓dC, ↓dOp, ↓dUn, ↓dTst, ↓dAnd, ↓dOr, ↓dNot, ↓CY, ↓dOrV, ↓BL, ↓dIfE, ↓xC, ↓Bq, ↓rR, ↓kD, ↓kN, ↓kO, ↓kI, ↓dTup, ↓dLst, ↓BC, ↓sE, ↓Dn, ↓dAsg, ↓dL, ↓Ae, ↓r8, ↓ln, ↓zz, ↓C0, ↓w4, ↓wF, ↓dSl, ↓tG, ↓Di, ↓dIsi, ↓Dv, ↓Ee, ↓E5, ↓AZ, ↓zB, ↓Dl, ↓yU, ↓wj, ↓Cs, ↓uW, ↓tR, ↓wI, ↓AX, ↓wQ, ↓vY, ↓zF, ↓AK, ↓yV, ↓CA, ↓yZ, ↓zd, ↓Du, ↓wZ, ↓AD, ↓v7, ↓vO, ↓Bs, ↓xn, ↓Af, ↓yA, ↓nL, ↓ot, ↓Cb, ↓rP, ↓qQ, ↓AQ, ↓CL, ↓BG, ↓Cw, ↓qWL, ↓qWD, ↓qWe, ↓zw, ↓At, ↓ig, ↓oS, ↓wd_e, ↓qB_e, ↓qI_e, ↓qX_e, ↓qT_e, ↓qL_e, ↓qY_l, ↓qY_t, ↓qG_e, ↓qF_e, ↓qZ_d, ↓qZ_f, ↓qV_e, ↓qN_e, ↓qC_e, ↓xu, ↓xJ, ↓q9_0, ↓q9_1, ↓q9_2, ↓q9_3, ↓q9_4, ↓qW_s, ↓qW_z, ↓qD_s, ↓qD_z, ↓yo, ↓xP, ↓Em, ↓DN, ↓Dy, ↓DD, ↓qS_t, ↓qS_f, ↓EN, ↓EU, ↓D8, ↓Fa, ↓Dm, ↓Ch, ↓DY, ↓E4, ↓CC, ↓qD_e, ↓qW_e, ↓BA, ↓C4, ↓rF, ↓sJ, ↓rg, ↓qJ, ↓qU, ↓rK, ↓t5, ↓rG, ↓tX, ↓nJ, ↓qO, ↓oJ, ↓m7, ↓mY, ↓oU, ↓ri, ↓n5, ↓rT, ↓mB, ↓nI, ↓lX, ↓l7, ↓mz, ↓lJ, ↓nZ, ↓mN, ↓mX, ↓oH, ↓qM, ↓m8, ↓oM, ↓nU, ↓oq, ↓rA, ↓m5, ↓rO, ↓List.map_cons, ↓List.map_nil, ↓List.cons_append, ↓List.nil_append, ↓List.replicate, E6, D.exn.injEq, y9, ne_eq, List.cons_ne_nil, Sl.own.injEq, exists_const, exists_eq, D.lst.injEq, D.dct.injEq, D.str.injEq, List.length_cons, List.length_nil, List.append_nil, List.getElem?_cons_zero, List.getElem?_cons_succ, List.set_cons_zero, List.set_cons_succ, Option.some.injEq, Sl.dat.injEq, D.int.injEq, D.bl.injEq, D.tup.injEq, List.cons.injEq, and_assoc, and_true, true_and, exists_eq_left', exists_eq_left, exists_eq_right', exists_and_left, Nat.zero_add, Nat.reduceAdd, Nat.reduceSub, Nat.add_zero, Nat.reduceLeDiff, Nat.sub_self, at0, at1, at2, atm1, if_true, if_false, ite_true, ite_false, Int.reduceEq, Int.reduceLT, Nat.cast_ofNat_Int, not_true_eq_false, not_false_eq_true, Bool.false_eq_true, reduceCtorEq, Bool.not_false, Bool.not_true, List.forall_mem_cons, List.mem_cons, List.not_mem_nil, forall_const, false_implies, implies_true, Nat.reduceLT, if_pos, List.filterMap_cons, List.filterMap_nil, decide_eq_true_eq, Bool.not_eq_true', decide_eq_false_iff_not]))
def mo2{x y:Int}{m n:Nat}(h1:Builtin.Int.intBits x<=m)(h2:Builtin.Int.intBits y<=n)(h:m+n<=134217728:=by decide):IntMulOk x y:=IntMulOk.of_le h1 h2 h
def rl{b:Int}{n:Nat}(h:Builtin.Int.intBits b<=n)(hn:n<=8000):b.natAbs.log2<9000:=by
 have h1:=intBits_le_iff.mp h
 rcases Nat.eq_zero_or_pos b.natAbs with h0 | hp
 ·rw[h0];decide
 ·have h2:b.natAbs.log2<n:=(Nat.log2_lt (HB hp)).mpr h1
  omega
inductive dl(ds:List D)(R:D->Prop):Prop
 | mk (a b:_) (hh:ds=[.int a,.int b]/\R (.int (gc a b)))
def dZ:∀ds R,dl ds R->ds.length=2:=λ_ _ ⟨_,_,e,_⟩=>by rw[e];rfl
def bq:aw ["one","other","rest"] ["one","other"] (ap s_common_divisor):=by walk_at "sc"
def cI(Z:Zz):Z.C 1 "common_divisor" ["one","other"] (Fh Z.K dl):=by
 refine cq Z.d_common_divisor bq dZ λfa cdv A outer s H E ds R hr h=>?_;have hU:=hr.units;refine⟨_,(ad (wY Gh (aC (kl hU) (ak 1) am (aA _)) (ad (ay 2 bq.nd (ax eQ (ak 0) (ak 1))) (ad (ay 0 bq.nd (ak 1)) (af (ay 1 bq.nd (ak 2)))))) (af (av (aJ Es rfl Z.z_abs Ew (ac (ak 0) ae))))),?_⟩;obtain⟨x,y,rfl,q⟩:=h;refine⟨λδ=>∃a b t,δ=[.dat (.int a),.dat (.int b),t]/\gc a b=gc x y,λδ=>match δ with | [_,.dat (.int b),_]=>b.natAbs | _=>0,⟨x,y,.no,rfl,rfl⟩,?_⟩;rintro δ ⟨a,b,t,rfl,e⟩;walk_at "rd";refine f6 (λc=>⟨c,(zN a b).trans e,jJ a b c⟩) (λc=>?_);have c:=Decidable.not_not.mp c;subst c;rw[<- As,e];exact q
def y7{t b:Int}{n:Nat}(hb:b≠0)(h:Builtin.Int.intBits b<=n):Builtin.Int.intBits (dv t b)<=n:=by
 refine intBits_le_of_natAbs ?_ h;rw[mM];exact Int.gcd_le_natAbs_right t hb
inductive yj(ds:List D)(R:D->Prop):Prop
 | mk (t b:_) (hh:ds=[.int t,.int b]/\b≠0/\Builtin.Int.intBits b<=8000/\R (.tup [.int (Fj t b),.int (FC t b)]))
def rC:∀ds R,yj ds R->ds.length=2:=λ_ _ ⟨_,_,e,_⟩=>by rw[e];rfl
def ox:aw ["top","bottom","divisor"] ["top","bottom"] (ap s_made):=by walk_at "sc"
def fe(Z:Zz):Z.C 2 "made" ["top","bottom"] (Fh Z.K yj):=by
 refine cq Z.d_made ox rC λfa cdv A outer s H E ds R hr h=>?_;have hU:=hr.units;refine⟨_,(ad (aR (aC (dw hU) (ak 1) am (aA _)) iE aD) (ad (ay 2 ox.nd (aq (cI Z) (rm hr) rfl (ac (ak 0) (ac (ak 1) ae)))) (ad (aR (aC zT (ak 1) am (aA _)) (af (ay 2 ox.nd (wy v9 (ak 2)))) aD) (af (av (aH (ac (ax dA (ak 0) (ak 2)) (ac (ax dA (ak 1) (ak 2)) ae)))))))),?_⟩;obtain⟨x,y,rfl,hy,hb,q⟩:=h;walk_at "rd";rw[Gb hy];refine⟨x,y,rfl,?_⟩;walk_at "rd";have hd:=BN x hy;have hl:=rl (y7 (t:=x) hy hb) (F3 _);unfold Fj FC at q;unfold dv at hd hl q;refine f6 (λc=>?_) (λc=>?_)
 ·simp only[if_pos c] at hd hl q;exact⟨⟨hd,hl⟩,⟨hd,hl⟩,q⟩
 ·simp only[if_neg c] at hd hl q;exact⟨⟨hd,hl⟩,⟨hd,hl⟩,q⟩
inductive yg(ds:List D)(R:D->Prop):Prop
 | mk (p q:Int×Int) (hh:ds=[Ff p,Ff q]/\p.2*q.2≠0/\ib p.1<=1000000/\ib q.1<=1000000/\ib p.2<=4000/\ib q.2<=4000/\R (Ff (Fj (p.1*q.2+q.1*p.2) (p.2*q.2),FC (p.1*q.2+q.1*p.2) (p.2*q.2))))
def rJ:∀ds R,yg ds R->ds.length=2:=λ_ _ ⟨_,_,e,_⟩=>by rw[e];rfl
def zk:aw ["one","other"] ["one","other"] (ap s_plus):=by walk_at "sc"
def wx(Z:Zz):Z.C 3 "plus" ["one","other"] (Fh Z.K yg):=by
 refine cq Z.d_plus zk rJ λfa cdv A outer s H E ds R hr h=>?_;have hU:=hr.units;refine⟨_,(af (av (aq (fe Z) (rm hr) rfl (ac (ax aP (ax a5 (Fl 0) (Fl 1)) (ax a5 (Fl 1) (Fl 0))) (ac (ax a5 (Fl 0) (Fl 1)) ae))))),?_⟩;obtain⟨p,q,rfl,nz,b1,b2,b3,b4,k⟩:=h;unfold Ff at k ⊢;walk_at "rd";exact⟨mo2 b1 b4,mo2 b2 b3,mo2 b3 b4,_,_,rfl,nz,FX (Gi b3 b4) (by decide),k⟩
inductive sN(ds:List D)(R:D->Prop):Prop
 | mk (p q:Int×Int) (hh:ds=[Ff p,Ff q]/\p.2*q.2≠0/\ib p.1<=2000000/\ib q.1<=1000000/\ib p.2<=7990/\ib q.2<=10/\R (Ff (Fj (p.1*q.1) (p.2*q.2),FC (p.1*q.1) (p.2*q.2))))
def nD:∀ds R,sN ds R->ds.length=2:=λ_ _ ⟨_,_,e,_⟩=>by rw[e];rfl
def wR:aw ["one","other"] ["one","other"] (ap s_times):=by walk_at "sc"
def uF(Z:Zz):Z.C 3 "times" ["one","other"] (Fh Z.K sN):=by
 refine cq Z.d_times wR nD λfa cdv A outer s H E ds R hr h=>?_;have hU:=hr.units;refine⟨_,(af (av (aq (fe Z) (rm hr) rfl (ac (ax a5 (Fl 0) (Fl 1)) (ac (ax a5 (Fl 0) (Fl 1)) ae))))),?_⟩;obtain⟨p,q,rfl,nz,b1,b2,b3,b4,k⟩:=h;unfold Ff at k ⊢;walk_at "rd";exact⟨mo2 b1 b2,mo2 b3 b4,_,_,rfl,nz,FX (Gi b3 b4) (by decide),k⟩
inductive xT(ds:List D)(R:D->Prop):Prop
 | mk (p q:Int×Int) (hh:ds=[Ff p,Ff q]/\ib p.1<=2000000/\ib q.1<=2000000/\ib p.2<=8000/\ib q.2<=8000/\R (.bl (decide (p.1*q.2<q.1*p.2))))
def qR:∀ds R,xT ds R->ds.length=2:=λ_ _ ⟨_,_,e,_⟩=>by rw[e];rfl
def yB:aw ["one","other"] ["one","other"] (ap s_less):=by walk_at "sc"
def pO(Z:Zz):Z.C 1 "less" ["one","other"] (Fh Z.K xT):=by
 refine cq Z.d_less yB qR λfa cdv A outer s H E ds R hr h=>?_;have hU:=hr.units;refine⟨_,(af (av (cK zT (ax a5 (Fl 0) (Fl 1)) (ax a5 (Fl 1) (Fl 0)) (aA _)))),?_⟩;obtain⟨p,q,rfl,b1,b2,b3,b4,k⟩:=h;unfold Ff;walk_at "rd";exact⟨mo2 b1 b4,mo2 b2 b3,k⟩
inductive FE where
 | row (k:Kd) (ts:List (Str×Int)) (b:Int)
 | nt (s:FE)
 | bo (s t:FE)
 | ei (s t:FE)
def FE.D:FE->D
 | .row k ts b=>eY k ts b
 | .nt s=>.tup [.str "not",s.D]
 | .bo s t=>.tup [.str "both",s.D,t.D]
 | .ei s t=>.tup [.str "either",s.D,t.D]
def FE.dep:FE->Nat
 | .row _ _ _=>1
 | .nt s=>s.dep+1
 | .bo s t=>max s.dep t.dep+1
 | .ei s t=>max s.dep t.dep+1
def FE.nms:FE->List Str
 | .row _ ts _=>ts.map (·.1)
 | .nt s=>s.nms
 | .bo s t=>s.nms++t.nms
 | .ei s t=>s.nms++t.nms
def FE.ok(names:List Str):FE->Prop
 | .row _ ts b=>jR names ts/\Builtin.Int.intBits b<=10000
 | .nt s=>s.ok names
 | .bo s t=>s.ok names/\t.ok names
 | .ei s t=>s.ok names/\t.ok names
def FE.dep_pos:∀s:FE,0<s.dep
 | .row _ _ _=>Nat.one_pos
 | .nt s=>HY _
 | .bo s t=>HY _
 | .ei s t=>HY _
def FE.nms_sub:∀ {s:FE},s.ok names->∀n∈s.nms,n∈names
 | .row _ ts _,h,n,hn=>h.1.sub.subset hn
 | .nt s,h,n,hn=>FE.nms_sub (s:=s) h n hn
 | .bo s t,h,n,hn=>(F9.mp hn).elim (FE.nms_sub h.1 n) (FE.nms_sub h.2 n)
 | .ei s t,h,n,hn=>(F9.mp hn).elim (FE.nms_sub h.1 n) (FE.nms_sub h.2 n)
def FE.isRow:FE->Bool
 | .row _ _ _=>true
 | _=>false
inductive qh(ds:List D)(R:D->Prop):Prop
 | mk (s:FE) (hh:ds=[s.D]/\R (.bl s.isRow))
def my:∀ds R,qh ds R->ds.length=1:=λ_ _ ⟨_,e,_⟩=>by rw[e];rfl
def tY:aw ["saying"] ["saying"] (ap s_is_row):=by walk_at "sc"
def dP(Z:Zz):Z.C 1 "is_row" ["saying"] (Fh Z.K qh):=by
 refine cq Z.d_is_row tY my λfa cdv A outer s H E ds R hr h=>?_;have hU:=hr.units;refine⟨_,(af (av (vx (cK (dw hU) (Fl 0) au (aA _)) (d9 (cK (dw hU) (Fl 0) au (aA _)))))),?_⟩;obtain⟨s,rfl,q⟩:=h;walk_at "rd"
 cases s with
 | row k ts b =>
  cases k
  ·unfold FE.D eY kdS;walk_at "rd";exact q
  ·unfold FE.D eY kdS;walk_at "rd";exact FK (by decide) q
 | nt s=>unfold FE.D;walk_at "rd";exact FK (by decide) q
 | bo s t=>unfold FE.D;walk_at "rd";exact FK (by decide) q
 | ei s t=>unfold FE.D;walk_at "rd";exact FK (by decide) q
def cm(ks:List Str)(l:List Str):List Str:=l.foldl jF ks
def jP(n:Nat):List D:=List.replicate n (.bl true)
def wU{x y:Str}:y∈jF ks x↔y∈ks\/y=x:=by
 unfold jF
 by_cases e:x∈ks
 ·rw[Gd e];exact⟨.inl,λh=>h.elim id λz=>z ▸ e⟩
 ·rw[Gb e,F9,F6]
def fB:∀ {l ks:List Str},ks.Nodup->(cm ks l).Nodup
 | [],_,h=>h
 | _::l,_,h=>fB (l:=l) (uc h)
def cY:∀ {l ks:List Str} {y:Str},y∈cm ks l↔y∈ks\/y∈l
 | [],ks,y=>by show y∈ks↔_;simp
 | x::l,ks,y=>by
  show y∈cm (jF ks x) l↔_
  rw[cY,wU,F7,or_assoc]
def fC{r:List Str}:cm ks (l++r)=cm (cm ks l) r:=Io ..
def lV:∀(ks:List Str) (n:Nat) (x:Str),mT ks (jP n) x (D.bl true)=jP n
 | [],n,x=>by cases n<;>rfl
 | k::ks,0,x=>rfl
 | k::ks,n+1,x=>by
  show (if k=x then D.bl true else D.bl true)::mT ks (jP n) x (D.bl true)=D.bl true::jP n
  rw[lV ks n x];split<;>rfl
def tL{x:Str}:lG ks (jP ks.length) x (D.bl true)=jP (jF ks x).length:=by
 unfold lG jF
 by_cases e:x∈ks
 ·rw[Gd e,Gd e,lV]
 ·rw[Gb e,Gb e,F1];show List.replicate _ _++List.replicate 1 _=List.replicate _ _;rw[List.replicate_append_replicate];rfl
def FE.subs:FE->List FE
 | .row _ _ _=>[]
 | .nt s=>[s]
 | .bo s t=>[s,t]
 | .ei s t=>[s,t]
def FE.subs_dep{s u:FE}(h:u∈s.subs):u.dep<s.dep:=by
 cases s with
 | row k ts b=>cases h
 | nt s=>rw[F6.mp h];exact Iz _
 | bo s t =>
  have h:u∈[s,t]:=h
  simp only[List.mem_cons,List.not_mem_nil,or_false] at h;show u.dep<max s.dep t.dep+1
  rcases h with rfl | rfl<;>omega
 | ei s t =>
  have h:u∈[s,t]:=h
  simp only[List.mem_cons,List.not_mem_nil,or_false] at h;show u.dep<max s.dep t.dep+1
  rcases h with rfl | rfl<;>omega
def FE.subs_ok{s u:FE}(h:u∈s.subs)(o:s.ok names):u.ok names:=by
 cases s with
 | row k ts b=>cases h
 | nt s=>rw[F6.mp h];exact o
 | bo s t =>
  have h:u∈[s,t]:=h
  simp only[List.mem_cons,List.not_mem_nil,or_false] at h
  rcases h with rfl | rfl
  ·exact o.1
  ·exact o.2
 | ei s t =>
  have h:u∈[s,t]:=h
  simp only[List.mem_cons,List.not_mem_nil,or_false] at h
  rcases h with rfl | rfl
  ·exact o.1
  ·exact o.2
def FE.word:FE->Str
 | .row k _ _=>kdS k
 | .nt _=>"not"
 | .bo _ _=>"both"
 | .ei _ _=>"either"
def FE.D_subs{s:FE}(h:s.isRow=false):s.D=.tup (.str s.word::s.subs.map FE.D):=by
 cases s with
 | row=>cases h
 | nt=>rfl
 | bo=>rfl
 | ei=>rfl
def FE.nms_subs{s:FE}(h:s.isRow=false):s.nms=s.subs.flatMap FE.nms:=by
 cases s with
 | row=>cases h
 | nt s=>show s.nms=s.nms++[];rw[GH]
 | bo s t=>show s.nms++t.nms=s.nms++(t.nms++[]);rw[GH]
 | ei s t=>show s.nms++t.nms=s.nms++(t.nms++[]);rw[GH]
def hZ{α:Type}{x:α}{xs:List α}:cut (x::xs) (some 1) none=xs:=by
 unfold cut;have e1:HT.sIx (x::xs).length 0 (some 1)=1:=by
  have:=HT.sIx_nat (x::xs).length 0 1
  rw[F8] at this ⊢;rw[show (some (1:Int))=some ((1:Nat):Int) from rfl,this];omega
 rw[e1,HT.sIx_none,F8,List.drop_one,List.tail_cons,Nat.add_sub_cancel,Gp]
inductive bI(n:Nat)(d:D)(ds:List D)(R:D->D->Prop):Prop
 | mk (names s ks:_) (hh:ds=[FE.D s]/\s.dep<=n/\s.ok names/\names.length<=100/\ks.Nodup/\(∀k∈ks,k∈names)/\d=.dct ks (jP ks.length)/\R .non (.dct (cm ks s.nms) (jP (cm ks s.nms).length)))
def hG(n:Nat):∀d ds R,bI n d ds R->ds.length=1:=λ_ _ _ ⟨_,_,_,e,_⟩=>by rw[e];rfl
def gk:∀d ds R,¬ bI 0 d ds R:=λ_ _ _ ⟨_,s,_,_,h,_⟩=>by have:=s.dep_pos;omega
def cu:aw ["saying","found","name","weight","part"] ["saying","found"] (ap s_mark_names):=by walk_at "sc"
def iQ(Z:Zz){n:Nat}(ms:Z.C (2+n) "mark_names" ["saying","found"] (vS Z.K (bI n))):Z.C (2+n+1) "mark_names" ["saying","found"] (vS Z.K (bI (n+1))):=by
 refine DU (k:=2+n) Z.d_mark_names cu rfl (hG (n+1)) λfa cdv A outer s H E oa d0 d R hr h=>?_;have hU:=hr.units;refine⟨_,(ad (aR (bQ (aq (dP Z) (hr.mono (by omega)) rfl (ac (ak 0) ae))) (ad (gm Gh rfl (Fl 0) (cj (n:=2) rfl (aB (ar 2 cu.nd) (aB (ar 3 cu.nd) bf))) (af (eR 1 hU rq (ak 2)))) (af yL)) aD) (af (gm Gh rfl (iI (ak 0) (dh am) iF) (ar 4 cu.nd) (af (tU (mQ 1 ms (hr.mono (by omega)) rfl (ak 4))))))),?_⟩;obtain⟨names,s,ks,e,hd,ok,hl,nd,sub,rfl,q⟩:=h
 cases e
 walk_at "rd";refine⟨s,rfl,?_⟩;walk_at "rd"
 cases hrow:s.isRow with
 | true =>
  cases s with
  | row k ts b =>
   refine ifp rfl ?_;walk_at "rd";simp only[nY];unfold FE.D eY;walk_at "rd";have tsub:∀t∈ts,t.1∈names:=λt h=>ok.1.sub.subset (FV.mpr ⟨t,h,rfl⟩);have sub2:∀i,∀x∈cm ks ((ts.take i).map (·.1)),x∈names:=λi x hx=>(cY.mp hx).elim (sub x) λh=>by
    obtain⟨t,h1,rfl⟩:=FV.mp h;exact tsub t (GS h1)
   refine⟨λi δ=>∃x y z,δ=[.dat (.tup [.str (kdS k),.tup (ts.map Fk),.int b]),.own oa (.dct (cm ks ((ts.take i).map (·.1))) (jP (cm ks ((ts.take i).map (·.1))).length)),x,y,z],⟨_,_,_,rfl⟩,?_,?_⟩
   ·rintro i d δ hd ⟨x,y,z,rfl⟩;obtain⟨t,hn,rfl⟩:=cU hd;walk_at "rd";have l1:=eT (fB (l:=(ts.take i).map (·.1)) nd) (sub2 i);refine⟨by omega,?_⟩;rw[tL,aE hn,Gj,fC];exact⟨rfl,rfl⟩
   ·rintro δ ⟨x,y,z,rfl⟩;rw[FR,Gp];exact⟨_,rfl,q⟩
  | nt s=>cases hrow
  | bo s t=>cases hrow
  | ei s t=>cases hrow
 | false =>
  refine FK F0 ?_;walk_at "rd";simp only[nY];rw[FE.D_subs hrow];walk_at "rd";refine⟨λ⟨h,_⟩=>?_,?_⟩
  ·rw[show (some (1:Int))=some ((1:Nat):Int) from rfl,HT.sIx_nat] at h;omega
  rw[hZ];have sub2:∀i,∀x∈cm ks ((s.subs.take i).flatMap FE.nms),x∈names:=λi x hx=>(cY.mp hx).elim (sub x) λh=>by
   obtain⟨u,h1,h2⟩:=Ha.mp h;exact FE.nms_sub (FE.subs_ok (GS h1) ok) x h2
  refine⟨λi δ=>∃x y z,δ=[.dat (.tup (.str s.word::s.subs.map FE.D)),.own oa (.dct (cm ks ((s.subs.take i).flatMap FE.nms)) (jP (cm ks ((s.subs.take i).flatMap FE.nms)).length)),x,y,z],⟨_,_,_,rfl⟩,?_,?_⟩
  ·rintro i d δ hd2 ⟨x,y,z,rfl⟩;rw[List.getElem?_map] at hd2
   cases hu:s.subs[i]? with
   | none=>rw[hu] at hd2;cases hd2
   | some u =>
    rw[hu] at hd2
    cases hd2
    have hm:=Ge hu
    have dp:=FE.subs_dep hm
    walk_at "rd";refine⟨names,u,_,rfl,by omega,FE.subs_ok hm ok,hl,fB nd,sub2 i,rfl,?_⟩;walk_at "rd";rw[aE hu,HU,List.flatMap_singleton,fC];exact⟨rfl,rfl⟩
  ·rintro δ ⟨x,y,z,rfl⟩;rw[FR,Gp,<- FE.nms_subs hrow];exact⟨_,rfl,q⟩
def jI(Z:Zz):Z.C 62 "mark_names" ["saying","found"] (vS Z.K (bI 60)):=Nat.rec (motive:=λn=>Z.C (2+n) "mark_names" ["saying","found"] (vS Z.K (bI n))) (vg Z.d_mark_names _ gk) (λ_=>iQ Z) 60
inductive ki(ds:List D)(R:D->Prop):Prop
 | mk (names s:_) (hh:ds=[FE.D s]/\s.dep<=60/\s.ok names/\names.length<=60/\∀ss:List Str,ss.Nodup->(∀x,x∈ss↔x∈s.nms)->Srt ss->R (.lst (ss.map D.str)))
def jL:∀ds R,ki ds R->ds.length=1:=λ_ _ ⟨_,_,e,_⟩=>by rw[e];rfl
def jB:aw ["saying","found"] ["saying"] (ap s_names_of):=by walk_at "sc"
def gx(Z:Zz):Z.C 63 "names_of" ["saying"] (Fh Z.K ki):=by
 refine cq Z.d_names_of jB jL λfa cdv A outer s H E ds R hr h=>?_;have hU:=hr.units;refine⟨_,(ad (iB 1 jB.nd) (ad (tU (mQ 1 (jI Z) (rm hr) rfl (ak 0))) (bL 1 (af (av (aJ (kY rfl) rfl Z.z_sorted iq (ac (ak 1) ae))))))),?_⟩;obtain⟨names,s,rfl,hd,ok,hl,q⟩:=h;walk_at "rd";intro a;refine⟨names,s,[],rfl,hd,ok,by omega,List.nodup_nil,λk h=>(nomatch h),rfl,?_⟩;walk_at "rd";have nd:(cm [] s.nms).Nodup:=fB List.nodup_nil;have sub:∀x∈cm [] s.nms,x∈names:=λx hx=>(cY.mp hx).elim (λh=>(nomatch h)) (FE.nms_sub ok x);refine⟨by have:=eT nd sub;omega,λss hp hs=>q ss (hp.nodup_iff.mpr nd) (λx=>?_) hs⟩;rw[hp.mem_iff,cY];simp
inductive mx(ds:List D)(R:D->Prop):Prop
 | mk (names ks ps T κ:_) (hh:ds=[.lst (names.map D.str),.dct ks (ps.map Ff)]/\names.Nodup/\names.length<=60/\(∀n∈names,n∈ks)/\Pt ks ps T/\T<=1000000/\ib (Fy (pB ks ps) ks)<=κ/\κ<=7990 /\
 R (.tup [.dct names (names.map λn=>.int (ov (pT ks ps) (pB ks ps) (Fy (pB ks ps) names) n)),.int (Fy (pB ks ps) names)]))
def kE:∀ds R,mx ds R->ds.length=2:=λ_ _ ⟨_,_,_,_,_,e,_⟩=>by rw[e];rfl
def lI{κ:Nat}(nd:l.Nodup)(h:∀n∈l,n∈ks)(hp:∀n∈ks,0<q n)(hb:ib (Fy q ks)<=κ):ib (Fy q l)<=κ:=df (nQ nd h) (by have:=ce hp;omega) hb
def bX:aw ["names","point","bottom","name","tops","value"] ["names","point"] (ap s_tops_of):=by walk_at "sc"
def jo(Z:Zz):Z.C 1 "tops_of" ["names","point"] (Fh Z.K mx):=by
 refine cq Z.d_tops_of bX kE λfa cdv A outer s H E ds R hr h=>?_;have hU:=hr.units;refine⟨_,(ad (ay 2 bX.nd am) (ad (bH Gh rfl (ak 0) (ar 3 bX.nd) (ad (aR (aC (tV hU) (ak 3) (ak 1) rfl) iE aD) (af (ay 2 bX.nd (ax a5 (ak 2) (dW dX (dO hU (ak 1) (ak 3) (λ_ _=>rfl)) am (λ_ _=>rfl))))))) (ad (iB 4 bX.nd) (ad (bH Gh rfl (ak 0) (ar 3 bX.nd) (ad (ay 5 bX.nd (dO hU (ak 1) (ak 3) (λ_ _=>rfl))) (af (eR 4 hU (ax a5 (Fl 5) (ax dA (ak 2) (Fl 5))) (ak 3))))) (bL 4 (af (av (aH (ac (ak 4) (ac (ak 2) ae)))))))))),?_⟩;obtain⟨names,ks,ps,T,κ,rfl,nd,hl,hin,hp,hT,hb,hκ,q⟩:=h;have pos:∀n∈ks,0<pB ks ps n:=λn hn=>hp.pos hn;have bb:ib (Fy (pB ks ps) names)<=κ:=lI nd hin pos hb;have bt:∀i,ib (Fy (pB ks ps) (names.take i))<=κ:=λi=>lI (nd.sublist (List.take_sublist ..)) (λn hn=>hin n (GS hn)) pos hb;have b1:∀n∈ks,ib (pB ks ps n)<=κ:=λn hn=>df (dg hn) (by have:=ce pos;omega) hb;walk_at "rd";simp only[rD];walk_at "rd";refine⟨λi δ=>∃x y z,δ=[.dat (.lst (names.map D.str)),.dat (.dct ks (ps.map Ff)),.dat (.int (Fy (pB ks ps) (names.take i))),x,y,z],⟨_,_,_,rfl⟩,?_,?_⟩
 ·rintro i d δ hd ⟨x,y,z,rfl⟩;obtain⟨n,hn,rfl⟩:=iw hd;have hk:=hin n (sA hn);walk_at "rd";refine FK (λz=>z hk) ?_;refine⟨_,hp.D hk,?_⟩;walk_at "rd";refine⟨mo2 (bt i) (b1 n hk) (by omega),?_⟩;rw[aE hn,fZ,nu]
 ·rintro δ ⟨x,y,z,rfl⟩;intro a;rw[FR,Gp];walk_at "rd";simp only[rD];walk_at "rd";refine⟨λi δ=>∃x z,δ=[.dat (.lst (names.map D.str)),.dat (.dct ks (ps.map Ff)),.dat (.int (Fy (pB ks ps) names)),x,.own a (.dct (names.take i) ((names.take i).map λn=>.int (ov (pT ks ps) (pB ks ps) (Fy (pB ks ps) names) n))),z],⟨_,_,rfl⟩,?_,?_⟩
  ·rintro i d δ hd ⟨x,z,rfl⟩;obtain⟨n,hn,rfl⟩:=iw hd;have hk:=hin n (sA hn);have hnt:=lE nd hn;walk_at "rd";refine⟨_,hp.D hk,?_⟩;walk_at "rd";have qn:pB ks ps n≠0:=by have:=hp.pos hk;omega
   refine⟨⟨qn,rl (b1 n hk) (by omega)⟩,mo2 (hp.Tb hk) (GP bb) (by omega),?_⟩;refine⟨by rw[Gv];omega,?_⟩;rw[ik hnt,ip hnt,aE hn,Gj];exact⟨rfl,rfl⟩
  ·rintro δ ⟨x,z,rfl⟩;rw[FR,Gp];walk_at "rd";exact q
inductive gy(ds:List D)(R:D->Prop):Prop
 | mk (k:Bool) (ts:List (Str×Int)) (ks:List Str) (vs:List D) (f:Str->Int) (hh:ds=[sq k (ts.map Fk),.dct ks vs]/\(∀t∈ts,dAt ks vs t.1=some (.int (f t.1))/\ib t.2<=60000/\ib (f t.1)<=2000000)/\R (.int (cF f ts)))
def gY:∀ds R,gy ds R->ds.length=2:=λ_ _ ⟨_,_,_,_,_,e,_⟩=>by rw[e];rfl
def bV:aw ["terms","tops","top","name","weight"] ["terms","tops"] (ap s_top_of_sum):=by walk_at "sc"
def d6(Z:Zz):Z.C 1 "top_of_sum" ["terms","tops"] (Fh Z.K gy):=by
 refine cq Z.d_top_of_sum bV gY λfa cdv A outer s H E ds R hr h=>?_;have hU:=hr.units;refine⟨_,(ad (ay 2 bV.nd am) (ad (i9 Gh rfl (ED (ak 0)) (cj (n:=2) rfl (aB (ar 3 bV.nd) (aB (ar 4 bV.nd) bf))) (af (ay 2 bV.nd (ax aP (ak 2) (ax a5 (ak 4) (dO hU (ak 1) (ak 3) (λ_ _=>rfl))))))) (af (av (ak 2))))),?_⟩;obtain⟨k,ts,ks,vs,f,rfl,ht,q⟩:=h;walk_at "rd";refine eP λF N hF hN=>?_;walk_at "rd";simp only[mv];walk_at "rd";refine⟨λi δ=>∃x y,δ=[.dat (sq k (ts.map Fk)),.dat (.dct ks vs),.dat (.int (cF f (ts.take i))),x,y],⟨_,_,rfl⟩,?_,?_⟩
 ·rintro i d δ hd ⟨x,y,rfl⟩;obtain⟨t,hn,rfl⟩:=cU hd;obtain⟨h1,h2,h3⟩:=ht t (Ge hn);rw[hF];walk_at "rd";refine⟨_,h1,?_⟩;walk_at "rd";refine⟨mo2 h2 h3,?_⟩;rw[aE hn,iN,qH]
 ·rintro δ ⟨x,y,rfl⟩;rw[FR,Gp,hN];walk_at "rd";exact q
def m9(k:Kd)(s b:Int):Bool:=match k with
 | .least=>decide (b<=s)
 | .more=>decide (b<s)
def FE.so(f:Str->Int)(B:Int):FE->Bool
 | .row k ts b=>m9 k (cF f ts) (b*B)
 | .nt s=>!s.so f B
 | .bo s t=>s.so f B&&t.so f B
 | .ei s t=>s.so f B||t.so f B
def rQ(p q:Str->Int)(k:Kd)(ts:List (Str×Int))(b:Int):Bool:=m9 k (cF (ov p q (Fy q (ts.map (·.1)))) ts) (b*Fy q (ts.map (·.1)))
def FE.tv(p q:Str->Int):FE->Bool
 | .row k ts b=>rQ p q k ts b
 | .nt s=>!s.tv p q
 | .bo s t=>s.tv p q&&t.tv p q
 | .ei s t=>s.tv p q||t.tv p q
def Df{p:Str->Int}{B:Int}{k:Kd}{b:Int}(hB:0<B)(h:∀t∈ts,0<q t.1/\q t.1 ∣ B):m9 k (cF (ov p q B) ts) (b*B)=rQ p q k ts b:=by
 have hC:0<Fy q (ts.map (·.1)):=ce λn hn=>by
  obtain⟨t,h1,rfl⟩:=FV.mp hn;exact(h t h1).1
 have e:=tf (p:=p) (q:=q) (B:=B) (C:=Fy q (ts.map (·.1))) (ts:=ts) λt h1=>⟨by have:=(h t h1).1;omega,(h t h1).2,dg (FV.mpr ⟨t,h1,rfl⟩)⟩
 unfold rQ
 cases k with
 | least=>exact decide_eq_decide.mpr (wo (a:=0) hB hC e)
 | more=>exact decide_eq_decide.mpr (xg hB hC e)
def FE.so_tv{p:Str->Int}{B:Int}(hB:0<B):∀ {s:FE},(∀n∈s.nms,0<q n/\q n ∣ B)->s.so (ov p q B) B=s.tv p q
 | .row k ts b,h=>Df hB λt h1=>h t.1 (FV.mpr ⟨t,h1,rfl⟩)
 | .nt s,h=>by show (!s.so _ _)=!s.tv p q;rw[FE.so_tv (s:=s) hB h]
 | .bo s t,h=>by
  show (s.so _ _&&t.so _ _)=(s.tv p q&&t.tv p q)
  rw[FE.so_tv (s:=s) hB λn hn=>h n (FZ _ hn),FE.so_tv (s:=t) hB λn hn=>h n (F5 _ hn)]
 | .ei s t,h=>by
  show (s.so _ _||t.so _ _)=(s.tv p q||t.tv p q)
  rw[FE.so_tv (s:=s) hB λn hn=>h n (FZ _ hn),FE.so_tv (s:=t) hB λn hn=>h n (F5 _ hn)]
inductive jp(ds:List D)(R:D->Prop):Prop
 | mk (k:Kd) (ts:List (Str×Int)) (b:Int) (ks:List Str) (vs:List D) (f:Str->Int) (B:Int) (hh:ds=[eY k ts b,.dct ks vs,.int B]/\(∀t∈ts,dAt ks vs t.1=some (.int (f t.1))/\ib t.2<=60000/\ib (f t.1)<=2000000)/\ib b<=60000/\ib B<=8000/\R (.bl (m9 k (cF f ts) (b*B))))
def jC:∀ds R,jp ds R->ds.length=3:=λ_ _ ⟨_,_,_,_,_,_,_,e,_⟩=>by rw[e];rfl
def dH:aw ["row","tops","bottom","top","bound"] ["row","tops","bottom"] (ap s_row_is_so):=by walk_at "sc"
def kj(Z:Zz):Z.C 2 "row_is_so" ["row","tops","bottom"] (Fh Z.K jp):=by
 refine cq Z.d_row_is_so dH jC λfa cdv A outer s H E ds R hr h=>?_;have hU:=hr.units;refine⟨_,(ad (ay 3 dH.nd (aq (d6 Z) (rm hr) rfl (ac (Fl 0) (ac (ak 1) ae)))) (ad (ay 4 dH.nd (ax a5 (Fl 0) (ak 2))) (ad (aR (aC (dw hU) (Fl 0) au (aA _)) (af (av (cK o_ge (ak 3) (ak 4) (aA _)))) aD) (af (av (cK vk (ak 3) (ak 4) (aA _))))))),?_⟩;obtain⟨k,ts,b,ks,vs,f,B,rfl,ht,hb,hB,q⟩:=h;unfold eY;walk_at "rd";refine⟨false,ts,ks,vs,f,rfl,ht,?_⟩;walk_at "rd";refine⟨mo2 hb hB,?_⟩
 cases k with
 | least=>exact ifp rfl q
 | more=>exact FK (by decide) q
inductive bN(n:Nat)(ds:List D)(R:D->Prop):Prop
 | mk (s:FE) (ks:List Str) (vs:List D) (f:Str->Int) (B:Int) (names:List Str) (hh:ds=[s.D,.dct ks vs,.int B]/\s.dep<=n/\s.ok names/\(∀x∈s.nms,dAt ks vs x=some (.int (f x))/\Builtin.Int.intBits (f x)<=2000000)/\Builtin.Int.intBits B<=8000/\R (.bl (s.so f B)))
def gL(n:Nat):∀ds R,bN n ds R->ds.length=3:=λ_ _ ⟨_,_,_,_,_,_,e,_⟩=>by rw[e];rfl
def gj:∀ds R,¬ bN 0 ds R:=λ_ _ ⟨s,_,_,_,_,_,_,h,_⟩=>by have:=s.dep_pos;omega
def eW:aw ["saying","tops","bottom","first"] ["saying","tops","bottom"] (ap s_part_is_so):=by walk_at "sc"
def iz(Z:Zz){n:Nat}(dy:Z.C (3+n) "part_is_so" ["saying","tops","bottom"] (Fh Z.K (bN n))):Z.C (3+n+1) "part_is_so" ["saying","tops","bottom"] (Fh Z.K (bN (n+1))):=by
 refine cq (k:=3+n) Z.d_part_is_so eW (gL (n+1)) λfa cdv A outer s H E ds R hr h=>?_;have hU:=hr.units;refine⟨_,(ad (aR (bQ (aq (dP Z) (hr.mono (by omega)) rfl (ac (ak 0) ae))) (af (av (aq (kj Z) (hr.mono (by omega)) rfl (ac (ak 0) (ac (ak 1) (ac (ak 2) ae)))))) aD) (ad (ay 3 eW.nd (aq dy (hr.mono (by omega)) rfl (ac (Fl 0) (ac (ak 1) (ac (ak 2) ae))))) (ad (aR (aC (dw hU) (Fl 0) au (aA _)) (af (av (o8 (ak 3)))) aD) (ad (aR (aC (dw hU) (Fl 0) au (aA _)) (af (av (j8 (ak 3) (d9 (aq dy (hr.mono (by omega)) rfl (ac (Fl 0) (ac (ak 1) (ac (ak 2) ae)))))))) aD) (af (av (vx (ak 3) (d9 (aq dy (hr.mono (by omega)) rfl (ac (Fl 0) (ac (ak 1) (ac (ak 2) ae)))))))))))),?_⟩;obtain⟨s,ks,vs,f,B,names,rfl,hd,ok,hf,hB,q⟩:=h;refine ag λK1 h1=>?_;walk_at "rd";refine⟨s,rfl,?_⟩;walk_at "rd"
 cases s with
 | row k ts b =>
  refine ifp rfl ⟨k,ts,b,ks,vs,f,B,rfl,λt h1=>?_,FX ok.2 (by decide),hB,q⟩;obtain⟨h2,h3⟩:=hf t.1 (FV.mpr ⟨t,h1,rfl⟩);exact⟨h2,FX (ok.1.bits t h1) (by decide),h3⟩
 | nt s =>
  refine FK F0 ?_;unfold FE.D;rw[h1];refine ag λK2 h2=>?_;walk_at "rd";have hd:s.dep+1<=n+1:=hd;refine⟨s,ks,vs,f,B,names,rfl,by omega,ok,hf,hB,?_⟩;walk_at "rd";rw[h2];refine ag λK3 h3=>?_;walk_at "rd";exact q
 | bo s t =>
  refine FK F0 ?_;unfold FE.D;rw[h1];refine ag λK2 h2=>?_;walk_at "rd";have hd:max s.dep t.dep+1<=n+1:=hd;refine⟨s,ks,vs,f,B,names,rfl,by omega,ok.1,λx h=>hf x (FZ _ h),hB,?_⟩;walk_at "rd";rw[h2];refine ag λK3 h3=>?_;walk_at "rd";refine FK (by decide) ?_;rw[h3];refine ag λK4 h4=>?_;walk_at "rd";have q:R (.bl (s.so f B&&t.so f B)):=q
  cases e:s.so f B with
  | true =>
   rw[e,Bool.true_and] at q;exact ifp rfl ⟨t,ks,vs,f,B,names,rfl,by omega,ok.2,λx h=>hf x (F5 _ h),hB,q⟩
  | false =>
   rw[e,Bool.false_and] at q;exact FK F0 q
 | ei s t =>
  refine FK F0 ?_;unfold FE.D;rw[h1];refine ag λK2 h2=>?_;walk_at "rd";have hd:max s.dep t.dep+1<=n+1:=hd;refine⟨s,ks,vs,f,B,names,rfl,by omega,ok.1,λx h=>hf x (FZ _ h),hB,?_⟩;walk_at "rd";rw[h2];refine ag λK3 h3=>?_;walk_at "rd";refine FK (by decide) ?_;rw[h3];refine ag λK4 h4=>?_;walk_at "rd";refine FK (by decide) ?_;rw[h4];walk_at "rd";have q:R (.bl (s.so f B||t.so f B)):=q
  cases e:s.so f B with
  | true =>
   rw[e,Bool.true_or] at q;exact ifp rfl q
  | false =>
   rw[e,Bool.false_or] at q;exact FK F0 ⟨t,ks,vs,f,B,names,rfl,by omega,ok.2,λx h=>hf x (F5 _ h),hB,q⟩
def jV(Z:Zz):Z.C 63 "part_is_so" ["saying","tops","bottom"] (Fh Z.K (bN 60)):=Nat.rec (motive:=λn=>Z.C (3+n) "part_is_so" ["saying","tops","bottom"] (Fh Z.K (bN n))) (dS Z.d_part_is_so _ gj) (λ_=>iz Z) 60
inductive ue(ds:List D)(R:D->Prop):Prop
 | mk (s:FE) (ks:List Str) (ps:List (Int×Int)) (names:List Str) (T κ:Nat) (hh:ds=[s.D,.dct ks (ps.map Ff)]/\s.dep<=60/\s.ok names/\names.length<=60/\(∀x∈s.nms,x∈ks)/\Pt ks ps T/\T<=1000000/\ib (Fy (pB ks ps) ks)<=κ/\κ<=7990/\R (.bl (s.tv (pT ks ps) (pB ks ps))))
def ng:∀ds R,ue ds R->ds.length=2:=λ_ _ ⟨_,_,_,_,_,_,e,_⟩=>by rw[e];rfl
def pe:aw ["saying","point","known"] ["saying","point"] (ap s_is_so):=by walk_at "sc"
def ux(Z:Zz):Z.C 64 "is_so" ["saying","point"] (Fh Z.K ue):=by
 refine cq Z.d_is_so pe ng λfa cdv A outer s H E ds R hr h=>?_;have hU:=hr.units;refine⟨_,(ad (ay 2 pe.nd (aq (jo Z) (rm hr) rfl (ac (aq (gx Z) (rm hr) rfl (ac (ak 0) ae)) (ac (ak 1) ae)))) (af (av (aq (jV Z) (rm hr) rfl (ac (ak 0) (ac (Fl 2) (ac (Fl 2) ae))))))),?_⟩;obtain⟨s,ks,ps,names,T,κ,rfl,hd,ok,hl,hin,hp,hT,hb,hκ,q⟩:=h;walk_at "rd";refine⟨names,s,rfl,hd,ok,hl,λss nd hm hs=>?_⟩;have hs2:∀n∈ss,n∈ks:=λn hn=>hin n ((hm n).mp hn);have l60:ss.length<=60:=FX (eT nd λk hk=>FE.nms_sub ok k ((hm k).mp hk)) hl;refine⟨ss,ks,ps,T,κ,rfl,nd,by omega,hs2,hp,hT,hb,hκ,?_⟩;walk_at "rd";have bp:=ce (q:=pB ks ps) (l:=ss) λn hn=>hp.pos (hs2 n hn);have bb:=lI (q:=pB ks ps) nd hs2 (λn hn=>hp.pos hn) hb;refine⟨s,ss,_,_,_,names,rfl,hd,ok,λx hx=>⟨cJ (λn=>D.int (ov (pT ks ps) (pB ks ps) (Fy (pB ks ps) ss) n)) ((hm x).mpr hx),FX (Gi (hp.Tb (hin x hx)) (GP bb)) (by omega)⟩,FX bb (by omega),?_⟩;rw[FE.so_tv bp λn hn=>⟨hp.pos (hin n hn),dg ((hm n).mpr hn)⟩];exact q
def _root_.Mf.Kd.op:Kd->Kd
 | .least=>.more
 | .more=>.least
def opps:List (Str×Str):=[("least","more"),("more","least"),("both","either"),("either","both")]
def BV(k:Kd):PyProof.Rows.KTD.datumAt (kdS k) opps=some (kdS k.op):=by cases k<;>decide
def conD(k:Kd)(ts:List (Str×Int))(b:Int):D:=eY k.op (tH ts) (-b)
inductive kb(ds:List D)(R:D->Prop):Prop
 | mk (k:Kd) (ts:List (Str×Int)) (b:Int) (hh:ds=[eY k ts b]/\ts.length<=100/\R (conD k ts b))
def jQ:∀ds R,kb ds R->ds.length=1:=λ_ _ ⟨_,_,_,e,_⟩=>by rw[e];rfl
def i4:aw ["row","terms"] ["row"] (ap s_contrary):=by walk_at "sc"
def mR(Z:Zz):Z.C 1 "contrary" ["row"] (Fh Z.K kb):=by
 refine cq Z.d_contrary i4 jQ λfa cdv A outer s H E ds R hr h=>?_;have hU:=hr.units;refine⟨_,(ad (ay 1 i4.nd (cX iX rfl Z.z_tuple cD (ac (bT ["name","weight"] [] rfl rfl (by decide +kernel) rfl (by decide +kernel) (bh trivial) (bn rfl) (aL trivial) (kg (Fl 0)) λ_ _ _ _ _=>⟨(cj (n:=2) rfl (aB (ar 0 (show List.Nodup (["name","weight"]:List Str) by decide +kernel)) (aB (ar 1 (show List.Nodup (["name","weight"]:List Str) by decide +kernel)) bf))),cM,(aH (ac (ak 0) (ac (wy v9 (ak 1)) ae)))⟩) ae))) (af (av (aH (ac (sU rfl Z.g_OPPOSITES (Fl 0) (λ_ _=>rfl)) (ac (ak 1) (ac (wy v9 (Fl 0)) ae))))))),?_⟩;obtain⟨k,ts,b,rfl,hl,q⟩:=h;unfold eY;walk_at "rd";refine⟨by rw[FR];omega,λd=>match d with | .tup [.str n,.int w]=>some (.tup [.str n,.int (-w)]) | _=>none,λx hx=>?_,?_⟩
 ·obtain⟨t,_,rfl⟩:=FV.mp hx;unfold Fk;walk_at "rd"
 ·rw[aN _ Fk (λt=>D.tup [.str t.1,.int (-t.2)]) _ (by intro _ _;rfl)];refine⟨_,BV k,?_⟩;unfold conD eY tH at q;rw[GG] at q;exact q
def FE.pl:FE->Bool->FE
 | .row k ts b,t=>if t=true then .row k.op (tH ts) (-b) else .row k ts b
 | .nt s,t=>s.pl (!t)
 | .bo s u,t=>if t=true then .ei (s.pl t) (u.pl t) else .bo (s.pl t) (u.pl t)
 | .ei s u,t=>if t=true then .bo (s.pl t) (u.pl t) else .ei (s.pl t) (u.pl t)
inductive bM(n:Nat)(ds:List D)(R:D->Prop):Prop
 | mk (s:FE) (t:Bool) (names:List Str) (hh:ds=[s.D,.bl t]/\s.dep<=n/\s.ok names/\names.length<=100/\R (s.pl t).D)
def gS(n:Nat):∀ds R,bM n ds R->ds.length=2:=λ_ _ ⟨_,_,_,e,_⟩=>by rw[e];rfl
def f7:∀ds R,¬ bM 0 ds R:=λ_ _ ⟨s,_,_,_,h,_⟩=>by have:=s.dep_pos;omega
def tW(h:jR names ts):ts.length<=names.length:=by have:=h.sub.length_le;rw[FR] at this;exact this
def eX:aw ["saying","turned","word"] ["saying","turned"] (ap s_plain_part):=by walk_at "sc"
def jk(Z:Zz){n:Nat}(dM:Z.C (2+n) "plain_part" ["saying","turned"] (Fh Z.K (bM n))):Z.C (2+n+1) "plain_part" ["saying","turned"] (Fh Z.K (bM (n+1))):=by
 refine cq (k:=2+n) Z.d_plain_part eX (gS (n+1)) λfa cdv A outer s H E ds R hr h=>?_;have hU:=hr.units;refine⟨_,(ad (aR (aC (dw hU) (Fl 0) au (aA _)) (af (av (aq dM (hr.mono (by omega)) rfl (ac (Fl 0) (ac (o8 (ak 1)) ae))))) aD) (ad (aR (bQ (aq (dP Z) (hr.mono (by omega)) rfl (ac (ak 0) ae))) (af (av (uT (bQ (ak 1)) (aq (mR Z) (hr.mono (by omega)) rfl (ac (ak 0) ae)) (ak 0)))) aD) (ad (ay 2 eX.nd (uT (bQ (ak 1)) (sU rfl Z.g_OPPOSITES (Fl 0) (λ_ _=>rfl)) (Fl 0))) (af (av (aH (ac (ak 2) (ac (aq dM (hr.mono (by omega)) rfl (ac (Fl 0) (ac (ak 1) ae))) (ac (aq dM (hr.mono (by omega)) rfl (ac (Fl 0) (ac (ak 1) ae))) ae))))))))),?_⟩;obtain⟨s,t,names,rfl,hd,ok,hl,q⟩:=h;refine ag λK1 h1=>?_
 cases s with
 | row k ts b =>
  have hts:=tW ok.1
  have hnot:¬ kdS k=Str.ofString "not":=by cases k<;>decide
  unfold FE.D eY;walk_at "rd";refine FK hnot ?_;rw[h1];refine ag λK2 h2=>?_;walk_at "rd";refine⟨.row k ts b,rfl,?_⟩;walk_at "rd";refine ifp rfl ?_
  cases t with
  | true=>exact ifp rfl ⟨k,ts,b,rfl,by omega,q⟩
  | false=>exact FK F0 q
 | nt s =>
  unfold FE.D;walk_at "rd";have hd:s.dep+1<=n+1:=hd;exact⟨s,!t,names,rfl,by omega,ok,hl,q⟩
 | bo s u =>
  unfold FE.D;walk_at "rd";have hd:max s.dep u.dep+1<=n+1:=hd;refine FK (by decide) ?_;rw[h1];refine ag λK2 h2=>?_;walk_at "rd";refine⟨.bo s u,rfl,?_⟩;walk_at "rd";refine FK F0 ?_;walk_at "rd";rw[h2];refine ag λK3 h3=>?_;walk_at "rd"
  cases t with
  | true =>
   refine ifp rfl ⟨"either",by decide,?_⟩;rw[h3];walk_at "rd";refine⟨s,true,names,rfl,by omega,ok.1,hl,?_⟩;refine⟨u,true,names,rfl,by omega,ok.2,hl,?_⟩;exact q
  | false =>
   refine FK F0 ?_;rw[h3];walk_at "rd";refine⟨s,false,names,rfl,by omega,ok.1,hl,?_⟩;refine⟨u,false,names,rfl,by omega,ok.2,hl,?_⟩;exact q
 | ei s u =>
  unfold FE.D;walk_at "rd";have hd:max s.dep u.dep+1<=n+1:=hd;refine FK (by decide) ?_;rw[h1];refine ag λK2 h2=>?_;walk_at "rd";refine⟨.ei s u,rfl,?_⟩;walk_at "rd";refine FK F0 ?_;walk_at "rd";rw[h2];refine ag λK3 h3=>?_;walk_at "rd"
  cases t with
  | true =>
   refine ifp rfl ⟨"both",by decide,?_⟩;rw[h3];walk_at "rd";refine⟨s,true,names,rfl,by omega,ok.1,hl,?_⟩;refine⟨u,true,names,rfl,by omega,ok.2,hl,?_⟩;exact q
  | false =>
   refine FK F0 ?_;rw[h3];walk_at "rd";refine⟨s,false,names,rfl,by omega,ok.1,hl,?_⟩;refine⟨u,false,names,rfl,by omega,ok.2,hl,?_⟩;exact q
def jT(Z:Zz):Z.C 62 "plain_part" ["saying","turned"] (Fh Z.K (bM 60)):=Nat.rec (motive:=λn=>Z.C (2+n) "plain_part" ["saying","turned"] (Fh Z.K (bM n))) (dS Z.d_plain_part _ f7) (λ_=>jk Z) 60
inductive uM(ds:List D)(R:D->Prop):Prop
 | mk (s:FE) (names:List Str) (hh:ds=[s.D]/\s.dep<=60/\s.ok names/\names.length<=100/\R (s.pl false).D)
def ni:∀ds R,uM ds R->ds.length=1:=λ_ _ ⟨_,_,e,_⟩=>by rw[e];rfl
def vz:aw ["saying"] ["saying"] (ap s_plain):=by walk_at "sc"
def uZ(Z:Zz):Z.C 63 "plain" ["saying"] (Fh Z.K uM):=by
 refine cq Z.d_plain vz ni λfa cdv A outer s H E ds R hr h=>?_;have hU:=hr.units;refine⟨_,(af (av (aq (jT Z) (rm hr) rfl (ac (ak 0) (ac rq ae))))),?_⟩;obtain⟨s,names,rfl,hd,ok,hl,q⟩:=h;walk_at "rd";exact⟨s,false,names,rfl,hd,ok,hl,q⟩
def rS(ts:List (Str×Int)):(tH ts).map (·.1)=ts.map (·.1):=by unfold tH;rw[GG];rfl
def qK(h:jR names ts):jR names (tH ts):=by
 refine⟨by rw[rS];exact h.sub,λt ht=>?_,λt ht=>?_⟩
 ·obtain⟨u,hu,rfl⟩:=FV.mp ht;have:=h.nz u hu;show -u.2≠0;omega
 ·obtain⟨u,hu,rfl⟩:=FV.mp ht;exact HN (h.bits u hu)
def FE.pl_ok:∀ {s:FE} {t:Bool},s.ok names->(s.pl t).ok names
 | .row k ts b,true,h=>⟨qK h.1,HN h.2⟩
 | .row k ts b,false,h=>h
 | .nt s,t,h=>FE.pl_ok (s:=s) h
 | .bo s u,true,h=>⟨FE.pl_ok h.1,FE.pl_ok h.2⟩
 | .bo s u,false,h=>⟨FE.pl_ok h.1,FE.pl_ok h.2⟩
 | .ei s u,true,h=>⟨FE.pl_ok h.1,FE.pl_ok h.2⟩
 | .ei s u,false,h=>⟨FE.pl_ok h.1,FE.pl_ok h.2⟩
def FE.pl_dep:∀ {s:FE} {t:Bool},(s.pl t).dep<=s.dep
 | .row k ts b,true=>F3 _
 | .row k ts b,false=>F3 _
 | .nt s,t=>Nat.le_succ_of_le (FE.pl_dep (s:=s))
 | .bo s u,true=>by have:=FE.pl_dep (s:=s) (t:=true);have:=FE.pl_dep (s:=u) (t:=true);show max _ _+1<=max _ _+1;omega
 | .bo s u,false=>by have:=FE.pl_dep (s:=s) (t:=false);have:=FE.pl_dep (s:=u) (t:=false);show max _ _+1<=max _ _+1;omega
 | .ei s u,true=>by have:=FE.pl_dep (s:=s) (t:=true);have:=FE.pl_dep (s:=u) (t:=true);show max _ _+1<=max _ _+1;omega
 | .ei s u,false=>by have:=FE.pl_dep (s:=s) (t:=false);have:=FE.pl_dep (s:=u) (t:=false);show max _ _+1<=max _ _+1;omega
def FE.args:FE->List DL.D
 | .row k ts b=>[.str (kdS k),.tup (ts.map Fk),.int b]
 | .nt s=>[.str "not",s.D]
 | .bo s t=>[.str "both",s.D,t.D]
 | .ei s t=>[.str "either",s.D,t.D]
def FE.D_args(s:FE):s.D=.tup s.args:=by cases s<;>rfl
def FE.nds:∀s:FE,DL.D.nds s.args=true
 | .row k ts b=>by
  show (true&&(DL.D.nds (ts.map Fk)&&(true&&true)))=true
  rw[u7];rfl
 | .nt s=>by
  show (true&&(DL.D.nd s.D&&true))=true
  rw[s.D_args];show (true&&(DL.D.nds s.args&&true))=true;rw[FE.nds s];rfl
 | .bo s t=>by
  show (true&&(DL.D.nd s.D&&(DL.D.nd t.D&&true)))=true
  rw[s.D_args,t.D_args];show (true&&(DL.D.nds s.args&&(DL.D.nds t.args&&true)))=true;rw[FE.nds s,FE.nds t];rfl
 | .ei s t=>by
  show (true&&(DL.D.nd s.D&&(DL.D.nd t.D&&true)))=true
  rw[s.D_args,t.D_args];show (true&&(DL.D.nds s.args&&(DL.D.nds t.args&&true)))=true;rw[FE.nds s,FE.nds t];rfl
def FE.dps:∀s:FE,DL.D.dps s.args<=s.dep+1
 | .row k ts b=>by
  have:=sZ ts
  show max 0 (max (DL.D.dps (ts.map Fk)+1) (max 0 0))<=1+1
  omega
 | .nt s=>by
  have:=FE.dps s
  show max 0 (max (DL.D.dp s.D) 0)<=s.dep+1+1
  rw[s.D_args];show max 0 (max (DL.D.dps s.args+1) 0)<=s.dep+1+1;omega
 | .bo s t=>by
  have:=FE.dps s
  have:=FE.dps t
  show max 0 (max (DL.D.dp s.D) (max (DL.D.dp t.D) 0))<=max s.dep t.dep+1+1
  rw[s.D_args,t.D_args];show max 0 (max (DL.D.dps s.args+1) (max (DL.D.dps t.args+1) 0))<=max s.dep t.dep+1+1;omega
 | .ei s t=>by
  have:=FE.dps s
  have:=FE.dps t
  show max 0 (max (DL.D.dp s.D) (max (DL.D.dp t.D) 0))<=max s.dep t.dep+1+1
  rw[s.D_args,t.D_args];show max 0 (max (DL.D.dps s.args+1) (max (DL.D.dps t.args+1) 0))<=max s.dep t.dep+1+1;omega
def Cv{s t:FE}{R:D->Prop}(e:s=t)(hd:s.dep<=59)(h:R (.bl true)):fEq [s.D,t.D] R:=by
 subst e;rw[s.D_args];exact⟨⟨rfl,s.nds,by have:=s.dps;omega⟩,h⟩
def cW(ns:List Int)(k:Int):Int:=ns.getD k.toNat 0
inductive jm(ds:List D)(R:D->Prop):Prop
 | mk (ns:List Int) (k:Int) (hh:ds=[.fz (ns.map D.int),.int k]/\0<=k/\R (.int (cW ns k)))
def jn:∀ds R,jm ds R->ds.length=2:=λ_ _ ⟨_,_,e,_⟩=>by rw[e];rfl
def xH{α:Type}{xs:List α}{k:Int}(h0:0<=k)(h:k<xs.length):Fp xs k=xs[k.toNat]?:=by
 unfold Fp ixN;rw[Gd h0,Gd h];rfl
def mi:aw ["_law_script","_law_k"] ["_law_script","_law_k"] (ap s__law_cell):=by walk_at "sc"
def cv(Z:Zz):Z.C 1 "_law_cell" ["_law_script","_law_k"] (Fh Z.K jm):=by
 refine cq Z.d__law_cell mi jn λfa cdv A outer s H E ds R hr h=>?_;have hU:=hr.units;refine⟨_,(ad (aR (aC zT (ak 1) (aJ fu rfl Z.z_len eU (ac (ak 0) ae)) (aA _)) (af (av (dW dX (ak 0) (ak 1) (λ_ _=>rfl)))) aD) (af (av am))),?_⟩;obtain⟨ns,k,rfl,h0,q⟩:=h;walk_at "rd";refine f6 (λc=>?_) (λc=>?_)
 ·rw[FR] at c;refine FB.of (v:=.int (cW ns k)) ?_ q;rw[xH h0 (by rw[FR];exact c),List.getElem?_map];have:k.toNat<ns.length:=by omega
  unfold cW;rw[List.getD_eq_getElem?_getD,List.getElem?_eq_getElem this];rfl
 ·rw[FR] at c;have:ns.length<=k.toNat:=by omega
  unfold cW at q;rw[List.getD_eq_getElem?_getD,List.getElem?_eq_none this] at q;exact q
def Ck{α:Type}{xs:List α}{k:Nat}:cut xs none (some (k:Int))=xs.take k:=by
 unfold cut;rw[HT.sIx_none,HT.sIx_nat,List.drop_zero,Nat.sub_zero]
 by_cases h:k<=xs.length
 ·rw[Nat.min_eq_left h]
 ·rw[Nat.min_eq_right (by omega),Gp,Hg (by omega)]
def FE.cs:FE->List (List FE)
 | .row k ts b=>[[.row k ts b]]
 | .nt _=>[]
 | .bo s t=>s.cs.flatMap λc=>t.cs.map λd=>c++d
 | .ei s t=>s.cs++t.cs
def FE.pn:FE->Bool
 | .row _ _ _=>true
 | .nt _=>false
 | .bo s t=>s.pn&&t.pn
 | .ei s t=>s.pn&&t.pn
def FE.num:FE->Nat
 | .bo s t=>s.num*t.num
 | .ei s t=>s.num+t.num
 | _=>1
def FE.long:FE->Nat
 | .bo s t=>s.long+t.long
 | .ei s t=>max s.long t.long
 | _=>1
def FE.num_pos:∀s:FE,0<s.num
 | .row _ _ _=>Nat.one_pos
 | .nt _=>Nat.one_pos
 | .bo s t=>Nat.mul_pos s.num_pos t.num_pos
 | .ei s t=>Nat.add_pos_left s.num_pos _
def Az{α β γ:Type}(f:α->β->γ)(m:List β):∀l:List α,(l.flatMap λc=>m.map λd=>f c d).length=l.length*m.length
 | []=>(Nat.zero_mul _).symm
 | c::l=>by rw[List.flatMap_cons,F1,FR,Az f m l,F8,Nat.succ_mul,Nat.add_comm]
def FE.cs_num:∀ {s:FE},s.pn=true->s.cs.length=s.num
 | .row _ _ _,_=>rfl
 | .bo s t,h=>by
  obtain⟨h1,h2⟩:=Gq.mp h;show (s.cs.flatMap λc=>t.cs.map λd=>c++d).length=s.num*t.num;rw[Az,FE.cs_num h1,FE.cs_num h2]
 | .ei s t,h=>by
  obtain⟨h1,h2⟩:=Gq.mp h;show (s.cs++t.cs).length=s.num+t.num;rw[F1,FE.cs_num h1,FE.cs_num h2]
def FE.cs_long:∀ {s:FE},s.pn=true->∀c∈s.cs,c.length<=s.long
 | .row _ _ _,_,c,h=>by rw[F6.mp h];exact F3 1
 | .bo s t,h,c,hc=>by
  obtain⟨h1,h2⟩:=Gq.mp h;obtain⟨x,hx,hy⟩:=Ha.mp hc;obtain⟨y,hz,rfl⟩:=FV.mp hy;have:=FE.cs_long h1 x hx;have:=FE.cs_long h2 y hz;rw[F1];show _<=s.long+t.long;omega
 | .ei s t,h,c,hc=>by
  obtain⟨h1,h2⟩:=Gq.mp h;show _<=max s.long t.long
  rcases F9.mp hc with hc | hc
  ·have:=FE.cs_long h1 c hc;omega
  ·have:=FE.cs_long h2 c hc;omega
def FE.pl_pn:∀ {s:FE} {t:Bool},(s.pl t).pn=true
 | .row k ts b,true=>rfl
 | .row k ts b,false=>rfl
 | .nt s,t=>FE.pl_pn (s:=s)
 | .bo s u,true=>by show ((s.pl true).pn&&(u.pl true).pn)=true;rw[FE.pl_pn,FE.pl_pn];rfl
 | .bo s u,false=>by show ((s.pl false).pn&&(u.pl false).pn)=true;rw[FE.pl_pn,FE.pl_pn];rfl
 | .ei s u,true=>by show ((s.pl true).pn&&(u.pl true).pn)=true;rw[FE.pl_pn,FE.pl_pn];rfl
 | .ei s u,false=>by show ((s.pl false).pn&&(u.pl false).pn)=true;rw[FE.pl_pn,FE.pl_pn];rfl
def dr(c:List FE):D:=.lst (c.map FE.D)
def csD(cs:List (List FE)):D:=.lst (cs.map dr)
inductive eA(ds:List D)(R:D->Prop):Prop
 | mk (A B:List (List FE)) (hh:ds=[csD A,csD B]/\A.length<=20/\B.length<=20/\(∀c∈A,c.length<=20)/\(∀c∈B,c.length<=20)/\R (csD (A.flatMap λc=>B.map λd=>c++d)))
def fk:∀ds R,eA ds R->ds.length=2:=λ_ _ ⟨_,_,e,_⟩=>by rw[e];rfl
def yd{cs:List (List FE)}{i:Nat}{d:D}(h:(cs.map dr)[i]?=some d):∃c,cs[i]?=some c/\d=.lst (c.map FE.D):=by
 rw[List.getElem?_map] at h
 cases e:cs[i]? with
 | none=>rw[e] at h;cases h
 | some n=>rw[e] at h;exact⟨n,rfl,(Gc h).symm⟩
def bS:aw ["one","other","told","first","second"] ["one","other"] (ap s_put_together):=by walk_at "sc"
def gX(Z:Zz):Z.C 1 "put_together" ["one","other"] (Fh Z.K eA):=by
 refine cq Z.d_put_together bS fk λfa cdv A outer s H E ds R hr h=>?_;have hU:=hr.units;refine⟨_,(ad (cE 2 bS.nd ae) (ad (bH Gh rfl (ak 0) (ar 3 bS.nd) (af (bH Gh rfl (ak 1) (ar 4 bS.nd) (af (aQ 2 (ax aP (ak 3) (ak 4))))))) (af (ku 2)))),?_⟩;obtain⟨A,B,rfl,hA,hB,lA,lB,q⟩:=h;unfold csD at q ⊢;walk_at "rd";intro a;walk_at "rd";simp only[rD];walk_at "rd";have fl:∀i,((A.take i).flatMap λc=>B.map λd=>c++d).length<=400:=λi=>by
  rw[Az,Gv];exact Nat.mul_le_mul (show min i A.length<=20 by omega) hB
 refine⟨λi δ=>∃x y,δ=[.dat (.lst (A.map dr)),.dat (.lst (B.map dr)),.own a (.lst (((A.take i).flatMap λc=>B.map λd=>c++d).map dr)),x,y],⟨_,_,rfl⟩,?_,?_⟩
 ·rintro i d δ hd ⟨x,y,rfl⟩;obtain⟨c,hc,rfl⟩:=yd hd;have hcl:=lA c (Ge hc);have hfl:=fl i;walk_at "rd";refine⟨λj δ=>∃x,δ=[.dat (.lst (A.map dr)),.dat (.lst (B.map dr)),.own a (.lst (((A.take i).flatMap (λc=>B.map λd=>c++d)++(B.take j).map λd=>c++d).map dr)),.dat (.lst (c.map FE.D)),x],⟨_,by rw[Iq,HV,GH]⟩,?_,?_⟩
  ·rintro j d δ hd ⟨x,rfl⟩;obtain⟨e,he,rfl⟩:=yd hd;have hel:=lB e (Ge he);walk_at "rd";refine⟨by simp only[List.length_map];omega,by simp only[List.length_map,List.length_append,List.length_take];omega,?_⟩;rw[aE he,Gj,Gj,Gj];simp only[dr,List.map_append,List.map_cons,List.map_nil,List.append_assoc]
  ·rintro δ ⟨x,rfl⟩;rw[FR,Gp];rw[aE hc,HU,List.flatMap_singleton];exact⟨_,_,rfl⟩
 ·rintro δ ⟨x,y,rfl⟩;rw[FR,Gp];walk_at "rd";exact q
inductive be(n:Nat)(ds:List D)(R:D->Prop):Prop
 | mk (s:FE) (w:D) (hh:ds=[s.D,w]/\s.dep<=n/\s.pn=true/\s.num<=4/\s.long<=3/\R (csD s.cs))
def fG(n:Nat):∀ds R,be n ds R->ds.length=2:=λ_ _ ⟨_,_,e,_⟩=>by rw[e];rfl
def eC:∀ds R,¬ be 0 ds R:=λ_ _ ⟨s,_,_,h,_⟩=>by have:=s.dep_pos;omega
def um{cs:List (List FE)}{P:Prop}(h4:cs.length<=4)(h3:∀c∈cs,c.length<=3)(h0:0<cs.length)(q:P):¬ (4:Int)<(cs.map dr).length/\(cs.map dr).length<=9000/\∃f:D->Option D,(∀x∈cs.map dr,Bg [x] (kD (wd λy δ4=>okT 1 δ4 []/\f x=some y) [.dat x]))/\∃ns:List Int,(cs.map dr).filterMap f=ns.map D.int/\0<ns.length/\∀M∈ns,(∀a∈ns,a<=M)->if 3<M then False else P:=by
 refine⟨by rw[FR];omega,by rw[FR];omega,λd=>match d with | .lst l=>some (.int l.length) | _=>none,λx hx=>?_,cs.map λc=>(c.length:Int),?_,by rw[FR];exact h0,λM hM _=>?_⟩
 ·obtain⟨c,_,rfl⟩:=FV.mp hx;exact⟨rfl,rfl⟩
 ·rw[aN _ dr (λc=>D.int (c.length:Int)) _ (by intro c _;show some (D.int ((c.map FE.D).length:Int))=_;rw[FR]),GG];rfl
 ·obtain⟨c,hc,rfl⟩:=FV.mp hM;have:=h3 c hc;exact FK (by omega) q
def FE.cs_pos{s:FE}(h:s.pn=true):0<s.cs.length:=by rw[FE.cs_num h];exact s.num_pos
def bR:aw ["part","whole","one","other","told"] ["part","whole"] (ap s_cases_within):=by walk_at "sc"
def fY(Z:Zz){n:Nat}(er:Z.C (2+n) "cases_within" ["part","whole"] (Fh Z.K (be n))):Z.C (2+n+1) "cases_within" ["part","whole"] (Fh Z.K (be (n+1))):=by
 refine cq (k:=2+n) Z.d_cases_within bR (fG (n+1)) λfa cdv A outer s H E ds R hr h=>?_;have hU:=hr.units;refine⟨_,(ad (aR (bQ (aq (dP Z) (hr.mono (by omega)) rfl (ac (ak 0) ae))) (af (av (a6 (ac (a6 (ac (ak 0) ae)) ae)))) aD) (ad (ay 2 bR.nd (aq er (hr.mono (by omega)) rfl (ac (Fl 0) (ac (ak 1) ae)))) (ad (ay 3 bR.nd (aq er (hr.mono (by omega)) rfl (ac (Fl 0) (ac (ak 1) ae)))) (ad (ay 4 bR.nd (uT (aC (dw hU) (Fl 0) au (aA _)) (aq (gX Z) (hr.mono (by omega)) rfl (ac (ak 2) (ac (ak 3) ae))) (ax aP (ak 2) (ak 3)))) (ad (aR (DW.dt (jv (aC vk (aJ fu rfl Z.z_len eU (ac (ak 4) ae)) (sV rfl Z.g_MOST_CASES) (aA _)) (gB (aC vk (aJ (BY rfl) rfl Z.z_max Dc (ac (bT ["case"] [] rfl rfl (by decide +kernel) rfl (by decide +kernel) (bh trivial) (bn rfl) (aL trivial) (dk (ak 4)) λ_ _ _ _ _=>⟨(ar 0 (show List.Nodup (["case"]:List Str) by decide +kernel)),cM,(aJ fu rfl Z.z_len eU (ac (ak 0) ae))⟩) ae)) (sV rfl Z.g_MOST_ROWS) (aA _))))) iE aD) (af (av (ak 4)))))))),?_⟩;obtain⟨s,w,rfl,hd,hp,hn,hl,q⟩:=h;walk_at "rd";refine⟨s,rfl,?_⟩;walk_at "rd"
 cases s with
 | nt s=>cases hp
 | row k ts b=>exact ifp rfl q
 | bo s t =>
  refine FK F0 ?_;unfold FE.D;walk_at "rd";obtain⟨p1,p2⟩:=Gq.mp hp;have hd:max s.dep t.dep+1<=n+1:=hd;have hn2:s.num*t.num<=4:=hn;have hl2:s.long+t.long<=3:=hl;have ns1:s.num<=4:=FX (Nat.le_mul_of_pos_right _ t.num_pos) hn2;have ns2:t.num<=4:=FX (Nat.le_mul_of_pos_left _ s.num_pos) hn2;refine⟨s,w,rfl,by omega,p1,ns1,by omega,?_⟩;refine⟨t,w,rfl,by omega,p2,ns2,by omega,?_⟩;refine⟨s.cs,t.cs,rfl,by rw[FE.cs_num p1];omega,by rw[FE.cs_num p2];omega,λc hc=>by have:=FE.cs_long p1 c hc;omega,λc hc=>by have:=FE.cs_long p2 c hc;omega,?_⟩;have h4:(FE.bo s t).cs.length<=4:=by rw[FE.cs_num hp];exact hn
  have h3:∀c∈(FE.bo s t).cs,c.length<=3:=λc hc=>FX (FE.cs_long hp c hc) hl
  obtain⟨e1,e2⟩:=um h4 h3 (FE.cs_pos hp) q;show kD _ _ (csD (FE.bo s t).cs);unfold csD;walk_at "rd";exact FK e1 e2
 | ei s t =>
  refine FK F0 ?_;unfold FE.D;walk_at "rd";obtain⟨p1,p2⟩:=Gq.mp hp;have hd:max s.dep t.dep+1<=n+1:=hd;have hn2:s.num+t.num<=4:=hn;have hl2:max s.long t.long<=3:=hl;refine⟨s,w,rfl,by omega,p1,by omega,by omega,?_⟩;refine⟨t,w,rfl,by omega,p2,by omega,by omega,?_⟩;have h4:(FE.ei s t).cs.length<=4:=by rw[FE.cs_num hp];exact hn
  have h3:∀c∈(FE.ei s t).cs,c.length<=3:=λc hc=>FX (FE.cs_long hp c hc) hl
  obtain⟨e1,e2⟩:=um h4 h3 (FE.cs_pos hp) q;unfold csD;walk_at "rd";refine FK (by decide) ?_;have e0:s.cs.map dr++t.cs.map dr=(FE.ei s t).cs.map dr:=(Gj ..).symm;rw[e0];have h5:s.cs.length+t.cs.length<=4:=by rw[<- F1];exact h4
  refine⟨by rw[FR,FR];omega,?_⟩;exact FK e1 e2
def gU(Z:Zz):Z.C 62 "cases_within" ["part","whole"] (Fh Z.K (be 60)):=Nat.rec (motive:=λn=>Z.C (2+n) "cases_within" ["part","whole"] (Fh Z.K (be n))) (dS Z.d_cases_within _ eC) (λ_=>fY Z) 60
inductive nF(ds:List D)(R:D->Prop):Prop
 | mk (s:FE) (names:List Str) (hh:ds=[s.D]/\s.dep<=60/\s.ok names/\names.length<=100/\(s.pl false).num<=4/\(s.pl false).long<=3/\R (csD (s.pl false).cs))
def nr:∀ds R,nF ds R->ds.length=1:=λ_ _ ⟨_,_,e,_⟩=>by rw[e];rfl
def wm:aw ["saying"] ["saying"] (ap s_cases):=by walk_at "sc"
def jx(Z:Zz):Z.C 64 "cases" ["saying"] (Fh Z.K nF):=by
 refine cq Z.d_cases wm nr λfa cdv A outer s H E ds R hr h=>?_;have hU:=hr.units;refine⟨_,(af (av (aq (gU Z) (rm hr) rfl (ac (aq (uZ Z) (rm hr) rfl (ac (ak 0) ae)) (ac (ak 0) ae))))),?_⟩;obtain⟨s,names,rfl,hd,ok,hl,hn,hg,q⟩:=h;walk_at "rd";refine⟨s,names,rfl,hd,ok,hl,?_⟩;exact⟨s.pl false,s.D,rfl,FX FE.pl_dep hd,FE.pl_pn,hn,hg,q⟩
inductive uI(ds:List D)(R:D->Prop):Prop
 | mk (rows:List Rw) (ws:List Int) (nm:List Str) (hh:ds=[.lst (rows.map Fx),.tup (ws.map D.int)]/\nm.length<=60/\(∀r∈rows,RwOk nm 60000000 r)/\(∀w∈ws,Builtin.Int.intBits w<=60000000) /\
 ∀ts,eL (cfs (rows.zip ws)) ts->R (eY (kOf (FM (rows.zip ws))) ts (bds (rows.zip ws))))
def oz:∀ds R,uI ds R->ds.length=2:=λ_ _ ⟨_,_,_,e,_⟩=>by rw[e];rfl
def bU:aw ["rows","weights","word","sums","bound","row","often","name","weight","terms"] ["rows","weights"] (ap s_added):=by walk_at "sc"
def ml(Z:Zz):Z.C 1 "added" ["rows","weights"] (Fh Z.K uI):=by
 refine cq Z.d_added bU oz λfa cdv A outer s H E ds R hr h=>?_;have hU:=hr.units;refine⟨_,(ad (ay 2 bU.nd au) (ad (iB 3 bU.nd) (ad (ay 4 bU.nd am) (ad (i9 Gh rfl (ma true false rfl Z.z_zip (ac (ak 0) (ac (ak 1) ae))) (cj (n:=2) rfl (aB (ar 5 bU.nd) (aB (ar 6 bU.nd) bf))) (ad (aR (DW.dt (fi (aC (dw hU) (Fl 5) au (aA _)) (eE (aC vk (ak 6) am (aA _))))) (af (ay 2 bU.nd au)) aD) (ad (gm Gh rfl (Fl 5) (cj (n:=2) rfl (aB (ar 7 bU.nd) (aB (ar 8 bU.nd) bf))) (af (eR 3 hU (ax aP (AO 3 hU (ak 7) am) (ax a5 (ak 6) (ak 8))) (ak 7)))) (af (ay 4 bU.nd (ax aP (ak 4) (ax a5 (ak 6) (Fl 5)))))))) (bL 3 (ad (ay 9 bU.nd (cX iX rfl Z.z_tuple cD (ac (bT ["name"] [(3,"sums")] rfl rfl (by decide +kernel) rfl (by decide +kernel) (bh ⟨rfl,trivial⟩) (bn rfl) (aL ⟨⟨rfl,rfl,.inl rfl⟩,trivial⟩) (dk (aJ (kY rfl) rfl Z.z_sorted iq (ac (ak 3) ae))) λ_ _ _ _ _=>⟨(ar 0 (show List.Nodup (["name","sums"]:List Str) by decide +kernel)),(fF (aC (kl hU) (dO hU (ak 1) (ak 0) (λ_ _=>rfl)) am (aA _))),(aH (ac (ak 0) (ac (dO hU (ak 1) (ak 0) (λ_ _=>rfl)) ae)))⟩) ae))) (af (av (aH (ac (ak 2) (ac (ak 9) (ac (ak 4) ae)))))))))))),?_⟩;obtain⟨rows,ws,nm,rfl,hnm,hr,hw,q⟩:=h;refine ag λK1 h1=>?_;walk_at "rd";rw[h1];refine ag λK3 h3=>?_;walk_at "rd";intro da;rw[h3];refine ag λK4 h4=>?_;walk_at "rd";rw[h4];refine ag λK5 h5=>?_;refine eP λB N hB hN=>?_;walk_at "rd";simp only[mv];walk_at "rd";rw[v8];generalize hl:rows.zip ws=l at q ⊢;have hl1:∀p∈l,RwOk nm 60000000 p.1/\Builtin.Int.intBits p.2<=60000000:=λp hp=>by
  rw[<- hl] at hp;exact⟨hr _ (Gr hp).1,hw _ (Gr hp).2⟩
 clear hl hr hw
 refine⟨λi δ=>∃ks u v w z y,δ=[.dat (.lst (rows.map Fx)),.dat (.tup (ws.map D.int)),.dat (.str (kdS (kOf (FM (l.take i))))),.own da (.dct ks (ks.map λn=>.int (cfs (l.take i) n))),.dat (.int (bds (l.take i))),u,v,w,z,y]/\ks.Nodup/\(∀n∈ks,n∈nm)/\∀n,n∉ks->cfs (l.take i) n=0,
  ⟨[],_,_,_,_,_,rfl,List.nodup_nil,λn h=>(nomatch h),λn h=>rfl⟩,?_,?_⟩
 ·rintro i d δ hd ⟨ks,u,v,w,z,y,rfl,nd,hs,h0⟩;rw[List.getElem?_map] at hd
  cases hn:l[i]? with
  | none=>rw[hn] at hd;cases hd
  | some p =>
   rw[hn] at hd
   cases hd
   obtain⟨⟨k,ts,b⟩,c⟩:=p;obtain⟨ok,bc⟩:=hl1 _ (Ge hn);have htk:=aE hn;rw[hB];show ln _ _ (.tup [.tup [.str (kdS k),.tup (ts.map Fk),.int b],.int c]) _ _;refine b6 λK hK=>?_;walk_at "rd";have go:∀wd,wd=kdS (kOf (FM (l.take (i+1))))->K [.dat (.lst (rows.map Fx)),.dat (.tup (ws.map D.int)),.dat (.str wd),.own da (.dct ks (ks.map λn=>.int (cfs (l.take i) n))),.dat (.int (bds (l.take i))),.dat (.tup [.str (kdS k),.tup (ts.map Fk),.int b]),.dat (.int c),w,z,y]:=?_
   ·have e:FM (l.take (i+1))=(FM (l.take i)||(isM k&&decide (0<c))):=by rw[htk,oE,uH]
    cases k with
    | least =>
     refine FK (by decide) (go _ ?_);rw[e];simp only[isM,Bool.false_and,Bool.or_false]
    | more =>
     refine ifp rfl (f6 (λhc=>go _ ?_) λhc=>go _ ?_)
     ·rw[e,Gz hc];simp only[isM,Bool.and_true,Bool.or_true];rfl
     ·rw[e,Gx hc];simp only[isM,Bool.and_false,Bool.or_false]
   intro wd hwd;rw[hK];refine ag λK2 hK2=>?_;walk_at "rd";simp only[nY];walk_at "rd"
   refine⟨λj δ=>∃ks w z y,δ=[.dat (.lst (rows.map Fx)),.dat (.tup (ws.map D.int)),.dat (.str wd),.own da (.dct ks (ks.map λn=>.int (cfs (l.take i) n+c*cf (ts.take j) n))),.dat (.int (bds (l.take i))),.dat (.tup [.str (kdS k),.tup (ts.map Fk),.int b]),.dat (.int c),w,z,y]/\ks.Nodup/\(∀n∈ks,n∈nm)/\∀n,n∉ks->cfs (l.take i) n+c*cf (ts.take j) n=0,
    ⟨ks,w,z,y,by simp only[List.take_zero,cf,Int.mul_zero,Int.add_zero],nd,hs,λn hn=>by rw[h0 n hn,Iq];show 0+c*0=0;omega⟩,?_,?_⟩
   ·rintro j d δ hd ⟨ks,w,z,y,rfl,nd,hs,h0⟩;obtain⟨t,ht,rfl⟩:=cU hd;have htm:=Ge ht;have hj:=aE ht;walk_at "rd";rw[xi (h0 t.1)];walk_at "rd";refine⟨mo2 bc (ok.bw t htm),by have:=eT nd hs;omega,?_,uc nd,λn hn=>?_,λn hn=>?_⟩
    ·have e:∀n,cfs (l.take i) n+c*cf (ts.take (j+1)) n=(cfs (l.take i) n+c*cf (ts.take j) n)+c*(if t.1=n then t.2 else 0):=λn=>by
      rw[hj,sT,Int.mul_add];show _+(_+c*((if t.1=n then t.2 else 0)+0))=_;rw[HW,Int.add_assoc]
     have:=yF (ks:=ks) (x:=t.1) (f:=λn=>D.int (cfs (l.take i) n+c*cf (ts.take j) n)) (g:=λn=>D.int (cfs (l.take i) n+c*cf (ts.take (j+1)) n)) (λn hn=>by rw[e,Gb (λz=>hn z.symm),Int.mul_zero,HW])
     rw[<- this,e,Gd rfl]
    ·rcases qv.mp hn with h | h
     ·exact hs n h
     ·rw[h];exact ok.sub t htm
    ·rw[qv,not_or] at hn;rw[hj,sT,Int.mul_add,<- Int.add_assoc,h0 n hn.1];show 0+c*((if t.1=n then t.2 else 0)+0)=0;rw[Gb (λz=>hn.2 z.symm)];omega
   ·rintro δ ⟨ks,w,z,y,rfl,nd,hs,h0⟩;have e1:ts.take (ts.map Fk).length=ts:=by rw[FR,Gp]
    rw[e1] at h0 ⊢;rw[hK2];walk_at "rd";have e2:∀n,cfs (l.take (i+1)) n=cfs (l.take i) n+c*cf ts n:=λn=>by
     rw[htk,oN];show _+(c*cf ts n+0)=_;rw[HW]
    simp only[e2];rw[htk,ua];exact⟨mo2 bc ok.bb,by rw[<- htk];exact hwd,trivial,(by show _=_+(c*b+0);rw[HW]),nd,hs,λn hn=>h0 n hn⟩
 ·rintro δ ⟨ks,u,v,w,z,y,rfl,nd,hs,h0⟩;rw[FR,Gp] at h0 ⊢;rw[hN];show K5 _;rw[h5];walk_at "rd";have hk:=eT nd hs;refine⟨by omega,λss' pm st=>?_⟩;have hl':=pm.length_eq;refine⟨by rw[FR];omega,λd=>match d with | .str n=>if cfs l n≠0 then some (.tup [.str n,.int (cfs l n)]) else none | _=>none,λx hx=>?_,?_⟩
  ·obtain⟨n,hn,rfl⟩:=FV.mp hx;have hnk:n∈ks:=pm.mem_iff.mp hn;walk_at "rd";refine⟨_,cJ (λn=>D.int (cfs l n)) hnk,?_⟩;walk_at "rd";refine f6 (λhz=>?_) λhz=>?_
   ·exact⟨_,cJ (λn=>D.int (cfs l n)) hnk,by rw[Gd hz]⟩
   ·rw[Gb hz]
  ·have e:(ss'.map D.str).filterMap (λd=>match d with | .str n=>if cfs l n≠0 then some (D.tup [.str n,.int (cfs l n)]) else none | _=>none)=((ss'.filter λn=>decide (cfs l n≠0)).map λn=>(n,cfs l n)).map Fk:=by
    clear hl' pm st
    induction ss' with
    | nil=>rfl
    | cons n r ih =>
     rw[Go,GK];simp only
     by_cases hz:cfs l n≠0
     ·rw[Gd hz,Gy (by simpa using hz)];simp only[List.map_cons];rw[ih];rfl
     ·rw[Gb hz,Gn (by simpa using hz)];exact ih
   rw[e];exact q _ (eL.mk' (l6 st) (pm.nodup_iff.mpr nd) λn hn=>pm.mem_iff.mpr (F4 λz=>hn (h0 n z)))
def smD(nm:List Str)(rows:List Rw)(w:List Int):D:=.tup [Fx (Ft nm rows w),.tup (w.map D.int)]
inductive iK(ds:List D)(R:D->Prop):Prop
 | mk (n:Str) (r:Rw) (hh:ds=[.str n,Fx r]/\(r.2.1.map (·.1)).Nodup/\R (.int (cf r.2.1 n)))
def jE:∀ds R,iK ds R->ds.length=2:=λ_ _ ⟨_,_,e,_⟩=>by rw[e];rfl
def dG:aw ["name","row","found","weight"] ["name","row"] (ap s_weight_of):=by walk_at "sc"
def ba(Z:Zz):Z.C 1 "weight_of" ["name","row"] (Fh Z.K iK):=by
 refine cq Z.d_weight_of dG jE λfa cdv A outer s H E ds R hr h=>?_;have hU:=hr.units;refine⟨_,(ad (gm Gh rfl (Fl 1) (cj (n:=2) rfl (aB (ar 2 dG.nd) (aB (ar 3 dG.nd) bf))) (af (aR (aC (dw hU) (ak 2) (ak 0) (aA _)) (af (av (ak 3))) aD))) (af (av am))),?_⟩;obtain⟨n,⟨k,ts,b⟩,rfl,nd,q⟩:=h;unfold Fx eY;walk_at "rd";simp only[nY];walk_at "rd";refine⟨λi δ=>∃x y,δ=[.dat (.str n),.dat (.tup [.str (kdS k),.tup (ts.map Fk),.int b]),x,y]/\n∉(ts.take i).map (·.1),⟨_,_,rfl,by simp⟩,?_,?_⟩
 ·rintro i d δ hd ⟨x,y,rfl,hn⟩;obtain⟨t,ht,rfl⟩:=cU hd;walk_at "rd";refine f6 (λe=>?_) (λe=>?_)
  ·subst e;have:=lT nd (Ge ht);simp only at q this;rw[this] at q;exact q
  ·rw[aE ht,Gj,F9,not_or];exact⟨hn,λz=>e (F6.mp z).symm⟩
 ·rintro δ ⟨x,y,rfl,hn⟩;rw[FR,Gp] at hn;have:=jy hn;simp only at q;rw[this] at q;exact q
def xL{α:Type}{f:α->D}{l:List α}{i:Nat}{d:D}(h:(enD (l.map f))[i]?=some d):∃r,l[i]?=some r/\d=.tup [.int (i:Nat),f r]:=by
 unfold enD at h;rw[List.getElem?_mapIdx,List.getElem?_map] at h
 cases e:l[i]? with
 | none=>rw[e] at h;cases h
 | some r=>rw[e] at h;exact⟨r,rfl,(Gc h).symm⟩
def xN{xs:List D}:(enD xs).length=xs.length:=by unfold enD;rw[List.length_mapIdx]
inductive u5(ds:List D)(R:D->Prop):Prop
 | mk (rows:List Rw) (nm:List Str) (hh:ds=[.lst (rows.map Fx)]/\Fz nm rows/\rows.length<=60/\R (.lst ((vo rows.length).map (smD nm rows))))
def nV:∀ds R,u5 ds R->ds.length=1:=λ_ _ ⟨_,_,e,_⟩=>by rw[e];rfl
def ia:aw ["rows","told","place","row"] ["rows"] (ap s_alone):=by walk_at "sc"
def t9(Z:Zz):Z.C 1 "alone" ["rows"] (Fh Z.K u5):=by
 refine cq Z.d_alone ia nV λfa cdv A outer s H E ds R hr h=>?_;have hU:=hr.units;refine⟨_,(ad (cE 1 ia.nd ae) (ad (i9 Gh rfl (sf rfl Z.z_enumerate (ac (ak 0) ae)) (cj (n:=2) rfl (aB (ar 2 ia.nd) (aB (ar 3 ia.nd) bf))) (af (aQ 1 (aH (ac (ak 3) (ac (cX iX rfl Z.z_tuple cD (ac (bT ["other"] [(2,"place")] rfl rfl (by decide +kernel) rfl (by decide +kernel) (bh ⟨rfl,trivial⟩) (bn rfl) (aL ⟨⟨rfl,rfl,.inl rfl⟩,trivial⟩) (kK rfl Z.z_range (ac (aJ fu rfl Z.z_len eU (ac (ak 0) ae)) ae)) λ_ _ _ _ _=>⟨(ar 0 (show List.Nodup (["other","place"]:List Str) by decide +kernel)),cM,(uT (aC (dw hU) (ak 0) (ak 1) (aA _)) am am)⟩) ae)) ae)))))) (af (ku 1)))),?_⟩;obtain⟨rows,nm,rfl,H,hl,q⟩:=h;walk_at "rd";intro ta;refine eP λB N hB hN=>?_;walk_at "rd";simp only[mv];walk_at "rd";refine⟨λi δ=>∃x y,δ=[.dat (.lst (rows.map Fx)),.own ta (.lst (((vo rows.length).take i).map (smD nm rows))),x,y],⟨_,_,rfl⟩,?_,?_⟩
 ·rintro i d δ hd ⟨x,y,rfl⟩;obtain⟨r,hr,rfl⟩:=xL hd;rw[hB];walk_at "rd";have hil:i<rows.length:=(List.getElem?_eq_some_iff.mp hr).1;rw[FR];refine⟨by omega,by omega,by simp;omega,λd=>match d with | .int o=>some (.int (if o=(i:Int) then 1 else 0)) | _=>none,λx hx=>?_,?_⟩
  ·obtain⟨o,ho,rfl⟩:=FV.mp hx;walk_at "rd";refine f6 (λe=>?_) (λe=>?_)
   ·rw[Gd e]
   ·rw[Gb e]
  ·have e1:((List.range (rows.length:Int).toNat).map λ(k:Nat)=>D.int (k:Int)).filterMap (λd=>match d with | .int o=>some (D.int (if o=(i:Int) then 1 else 0)) | _=>none)=(unW rows.length i).map D.int:=by
    unfold unW;rw[GG,Ik];rw[aN _ (λ(k:Nat)=>D.int (k:Int)) (λk=>D.int (if k=i then 1 else 0)) _ λk _=>?_]
    ·rfl
    ·show some (D.int (if (k:Int)=(i:Int) then 1 else 0))=_
     by_cases e:k=i
     ·rw[Gd e,Gd (by omega)]
     ·rw[Gb e,Gb (by omega)]
   have hu:(vo rows.length)[i]?=some (unW rows.length i):=by unfold vo;rw[List.getElem?_map,List.getElem?_range hil];rfl
   rw[e1,aE hu,Gj];refine⟨by rw[FR,Gv];omega,?_⟩;show _++[D.tup [Fx r,_]]=_++[smD nm rows (unW rows.length i)];unfold smD;rw[py H hr]
 ·rintro δ ⟨x,y,rfl⟩;rw[xN,FR,hN];walk_at "rd";have e:(vo rows.length).take rows.length=vo rows.length:=Hg (by unfold vo;simp);rw[e];exact q
def vW{ws:List Int}{i:Nat}{d:D}(h:(ws.map D.int)[i]?=some d):∃a,ws[i]?=some a/\d=.int a:=by
 rw[List.getElem?_map] at h
 cases e:ws[i]? with
 | none=>rw[e] at h;cases h
 | some n=>rw[e] at h;exact⟨n,rfl,(Gc h).symm⟩
def Bc{ws:List Int}{n:Nat}(hz:∃w∈ws,w≠0)(hb:∀w∈ws,ib w<=n):ib (gW ws)<=n:=by
 obtain⟨w,hw,hn⟩:=hz;exact df (lU hw) hn (hb w hw)
inductive iP(ds:List D)(R:D->Prop):Prop
 | mk (ws:List Int) (hh:ds=[.lst (ws.map D.int)]/\ws.length<=60/\(∃w∈ws,w≠0)/\(∀w∈ws,ib w<=8000)/\R (.tup ((shW ws).map D.int)))
def i8:∀ds R,iP ds R->ds.length=1:=λ_ _ ⟨_,e,_⟩=>by rw[e];rfl
def cG:aw ["weights","divisor","weight"] ["weights"] (ap s_shortened):=by walk_at "sc"
def kJ(Z:Zz):Z.C 2 "shortened" ["weights"] (Fh Z.K iP):=by
 refine cq Z.d_shortened cG i8 λfa cdv A outer s H E ds R hr h=>?_;have hU:=hr.units;refine⟨_,(ad (ay 1 cG.nd am) (ad (bH Gh rfl (ak 0) (ar 2 cG.nd) (af (ay 1 cG.nd (aq (cI Z) (rm hr) rfl (ac (ak 1) (ac (ak 2) ae)))))) (af (av (cX iX rfl Z.z_tuple cD (ac (bT ["weight"] [(1,"divisor")] rfl rfl (by decide +kernel) rfl (by decide +kernel) (bh ⟨rfl,trivial⟩) (bn rfl) (aL ⟨⟨rfl,rfl,.inl rfl⟩,trivial⟩) (dk (ak 0)) λ_ _ _ _ _=>⟨(ar 0 (show List.Nodup (["weight","divisor"]:List Str) by decide +kernel)),cM,(ax dA (ak 0) (ak 1))⟩) ae)))))),?_⟩;obtain⟨ws,rfl,hl,hz,hb,q⟩:=h;walk_at "rd";simp only[rD];walk_at "rd";refine⟨λi δ=>∃x,δ=[.dat (.lst (ws.map D.int)),.dat (.int ((ws.take i).foldl gc 0)),x],⟨_,rfl⟩,?_,?_⟩
 ·rintro i d δ hd ⟨x,rfl⟩;obtain⟨a,ha,rfl⟩:=vW hd;walk_at "rd";refine⟨_,_,rfl,?_⟩;walk_at "rd";rw[aE ha,Io];rfl
 ·rintro δ ⟨x,rfl⟩;rw[FR,Gp];walk_at "rd";have g:=oZ hz;refine⟨by rw[FR];omega,λd=>match d with | .int a=>some (.int (a.fdiv (gW ws))) | _=>none,λx hx=>?_,?_⟩
  ·obtain⟨a,_,rfl⟩:=FV.mp hx;walk_at "rd";exact⟨⟨by show gW ws≠0;omega,rl (Bc hz hb) (F3 _)⟩,rfl⟩
  ·rw[aN _ D.int (λa=>D.int (a.fdiv (gW ws))) _ λk _=>rfl];unfold shW at q;rw[GG] at q;exact q
def oX{w:List Int}:smD nm rows w=.tup [Fx (Ft nm rows w),.tup (w.map D.int)]:=rfl
def gE(H:Fz nm rows)(w:List Int):((Ft nm rows w).2.1.map (·.1)).Nodup:=(H.smT w).nd
def wE{l h:List Int}:oC (l.map D.int) (h.map D.int)=(l.zip h).map λp=>D.tup [.int p.1,.int p.2]:=by
 unfold oC;rw[List.zipWith_map,List.zip,IA]
inductive mK(ds:List D)(R:D->Prop):Prop
 | mk (nm:List Str) (rows:List Rw) (n:Str) (l h:List Int) (hh:ds=[smD nm rows l,smD nm rows h,.str n]/\Fz nm rows/\rows.length<=60/\Wt rows.length l/\Wt rows.length h/\0<cfs (rows.zip l) n/\cfs (rows.zip h) n<0 /\
 ib (cfs (rows.zip l) n)<=8000/\ib (cfs (rows.zip h) n)<=8000/\(∀a∈l,ib a<=8000)/\(∀a∈h,ib a<=8000)/\(∀a∈crS rows n l h,ib a<=8000)/\R (.tup ((crW rows n l h).map D.int)))
def lr:∀ds R,mK ds R->ds.length=3:=λ_ _ ⟨_,_,_,_,_,e,_⟩=>by rw[e];rfl
def gd:aw ["low","high","name","low_times","high_times"] ["low","high","name"] (ap s_crossed):=by walk_at "sc"
def oh(Z:Zz):Z.C 3 "crossed" ["low","high","name"] (Fh Z.K mK):=by
 refine cq Z.d_crossed gd lr λfa cdv A outer s H E ds R hr h=>?_;have hU:=hr.units;refine⟨_,(ad (ay 3 gd.nd (wy v9 (aq (ba Z) (rm hr) rfl (ac (ak 2) (ac (Fl 1) ae))))) (ad (ay 4 gd.nd (aq (ba Z) (rm hr) rfl (ac (ak 2) (ac (Fl 0) ae)))) (af (av (aq (kJ Z) (rm hr) rfl (ac (bT ["one","other"] [(3,"low_times"),(4,"high_times")] rfl rfl (by decide +kernel) rfl (by decide +kernel) (bh ⟨rfl,rfl,trivial⟩) (bn rfl) (aL ⟨⟨rfl,rfl,.inl rfl⟩,⟨rfl,rfl,.inl rfl⟩,trivial⟩) (ma false false rfl Z.z_zip (ac (Fl 0) (ac (Fl 1) ae))) λ_ _ _ _ _=>⟨(cj (n:=2) rfl (aB (ar 0 (show List.Nodup (["one","other","low_times","high_times"]:List Str) by decide +kernel)) (aB (ar 1 (show List.Nodup (["one","other","low_times","high_times"]:List Str) by decide +kernel)) bf))),cM,(ax aP (ax a5 (ak 0) (ak 2)) (ax a5 (ak 1) (ak 3)))⟩) ae)))))),?_⟩;obtain⟨nm,rows,n,l,h,rfl,H,hm,wl,wh,cl,ch,b1,b2,b3,b4,b5,q⟩:=h;simp only[oX];walk_at "rd";refine⟨n,Ft nm rows h,rfl,gE H h,?_⟩;walk_at "rd";refine⟨n,Ft nm rows l,rfl,gE H l,?_⟩;walk_at "rd";rw[dm H,dm H,wE];have ll:=wl.len;have lh:=wh.len;refine⟨by rw[FR,G7];omega,λd=>match d with | .tup [.int a,.int b]=>some (.int (a * -(cfs (rows.zip h) n)+b*cfs (rows.zip l) n)) | _=>none,λx hx=>?_,?_⟩
 ·obtain⟨⟨a,b⟩,hp,rfl⟩:=FV.mp hx;walk_at "rd";exact⟨mo2 (b3 a (Gr hp).1) (HN b2),mo2 (b4 b (Gr hp).2) b1⟩
 ·obtain⟨_,nz⟩:=jY wl wh cl ch;refine⟨crS rows n l h,?_,by rw[oI ll lh];omega,nz,b5,q⟩;rw[aN _ (λp:Int×Int=>D.tup [.int p.1,.int p.2]) (λp=>D.int (p.1 * -(cfs (rows.zip h) n)+p.2*cfs (rows.zip l) n)) _ λk _=>rfl];unfold crS;rw[IA,show l.zip h=List.zipWith Prod.mk l h from rfl,IA]
def sG:D->List Int
 | .tup [_,.tup xs]=>xs.map λx=>match x with | .int a=>a | _=>0
 | _=>[]
def qd{w:List Int}:sG (smD nm rows w)=w:=by
 show (w.map D.int).map _=w
 rw[GG];exact II _
def dI(p:List Int->Bool):∀W:List (List Int),(W.map (smD nm rows)).filterMap (λd=>if p (sG d)=true then some d else none)=(W.filter p).map (smD nm rows)
 | []=>rfl
 | w::W=>by
  rw[Go,GK,qd]
  by_cases h:p w=true
  ·rw[Gd h,Gy h,dI p W];rfl
  ·rw[Gb h,Gn h,dI p W]
def pG{W:List (List Int)}{i:Nat}{d:D}(h:(W.map (smD nm rows))[i]?=some d):∃w,W[i]?=some w/\d=smD nm rows w:=by
 rw[List.getElem?_map] at h
 cases e:W[i]? with
 | none=>rw[e] at h;cases h
 | some n=>rw[e] at h;exact⟨n,rfl,(Gc h).symm⟩
def Al(u:List Int):((u.map D.int).filterMap (λd=>match d with | .int a=>if 0<a then some (D.int a) else none | _=>none)).length=usd u:=by
 unfold usd
 induction u with
 | nil=>rfl
 | cons a u ih =>
  rw[Go,GK];simp only
  by_cases h:0<a
  ·rw[Gd h,Gy (by simpa using h),F8,F8,ih]
  ·rw[Gb h,Gn (by simpa using h),ih]
structure xB(nm:List Str)(rows:List Rw)(B k:Nat)(W:List (List Int)):Prop where
 H:Fz nm rows
 hB:RwB B rows
 m6:rows.length<=60
 n6:nm.length<=60
 wt:∀w∈W,Wt rows.length w
 bits:∀w∈W,∀a∈w,ib a<=wb B rows.length k
 fit:cb B rows.length k<=8000/\wb B rows.length (k+1)<=8000
def xB.w8{B k:Nat}{W:List (List Int)}(S:xB nm rows B k W){w:List Int}(hw:w∈W):∀a∈w,ib a<=8000:=λa ha=>by
 have:=S.bits w hw a ha
 have:=S.fit.1
 unfold cb at this;omega
def xB.c8{B k:Nat}{W:List (List Int)}(S:xB nm rows B k W){w:List Int}(hw:w∈W)(n:Str):ib (cfs (rows.zip w) n)<=8000:=FX (S.H.cfb S.hB (S.bits w hw) n) S.fit.1
def xB.rw{B k:Nat}{W:List (List Int)}(S:xB nm rows B k W):∀r∈rows,RwOk nm 60000000 r:=λr hr=>by
 have h8:B<=8000:=by have:=S.fit.1;unfold cb at this;omega
 exact⟨S.H.sub r hr,λt ht=>FX (S.hB.tm r hr t ht) (by omega),FX (S.hB.bd r hr) (by omega)⟩
inductive mL(ds:List D)(R:D->Prop):Prop
 | mk (nm:List Str) (rows:List Rw) (n:Str) (W:List (List Int)) (most B k c:Nat) (hh:ds=[.lst (rows.map Fx),.lst (W.map (smD nm rows)),.str n,.int (most:Nat)]/\xB nm rows B k W/\W.length<=c/\4<=c/\c*c / 4<9000/\R (.lst ((woW rows n most W).map (smD nm rows))))
def lm:∀ds R,mL ds R->ds.length=4:=λ_ _ ⟨_,_,_,_,_,_,_,_,e,_⟩=>by rw[e];rfl
def bW:aw ["rows","sums","name","most","told","lows","highs","low","high","weights"] ["rows","sums","name","most"] (ap s_without):=by walk_at "sc"
theorem om(Z:Zz):Z.C 4 "without" ["rows","sums","name","most"] (Fh Z.K mL):=by
 refine cq Z.d_without bW lm λfa cdv A outer s H E ds R hr h=>?_;have hU:=hr.units;refine⟨_,(ad (xf 4 bW.nd ["held"] [(2,"name")] rfl rfl (by decide +kernel) rfl (by decide +kernel) (bh ⟨rfl,trivial⟩) (bn rfl) (aL ⟨⟨rfl,rfl,.inl rfl⟩,trivial⟩) (dk (ak 1)) λ_ _ _ _ _=>⟨(ar 0 (show List.Nodup (["held","name"]:List Str) by decide +kernel)),(fF (aC (dw hU) (aq (ba Z) (rm hr) rfl (ac (ak 1) (ac (Fl 0) ae))) am (aA _))),(ak 0)⟩) (ad (cN 5 bW.nd ["held"] [(2,"name")] rfl rfl (by decide +kernel) rfl (by decide +kernel) (bh ⟨rfl,trivial⟩) (bn rfl) (aL ⟨⟨rfl,rfl,.inl rfl⟩,trivial⟩) (dk (ak 1)) λ_ _ _ _ _=>⟨(ar 0 (show List.Nodup (["held","name"]:List Str) by decide +kernel)),(fF (aC vk (aq (ba Z) (rm hr) rfl (ac (ak 1) (ac (Fl 0) ae))) am (aA _))),(ak 0)⟩) (ad (cN 6 bW.nd ["held"] [(2,"name")] rfl rfl (by decide +kernel) rfl (by decide +kernel) (bh ⟨rfl,trivial⟩) (bn rfl) (aL ⟨⟨rfl,rfl,.inl rfl⟩,trivial⟩) (dk (ak 1)) λ_ _ _ _ _=>⟨(ar 0 (show List.Nodup (["held","name"]:List Str) by decide +kernel)),(fF (aC zT (aq (ba Z) (rm hr) rfl (ac (ak 1) (ac (Fl 0) ae))) am (aA _))),(ak 0)⟩) (ad (bH Gh rfl (ak 5) (ar 7 bW.nd) (af (bH Gh rfl (ak 6) (ar 8 bW.nd) (ad (ay 9 bW.nd (aq (oh Z) (rm hr) rfl (ac (ak 7) (ac (ak 8) (ac (ak 2) ae))))) (af (aR (aC o_le (aJ fu rfl Z.z_len eU (ac (bT ["often"] [] rfl rfl (by decide +kernel) rfl (by decide +kernel) (bh trivial) (bn rfl) (aL trivial) (kg (ak 9)) λ_ _ _ _ _=>⟨(ar 0 (show List.Nodup (["often"]:List Str) by decide +kernel)),(fF (aC vk (ak 0) am (aA _))),(ak 0)⟩) ae)) (ak 3) (aA _)) (af (aQ 4 (aH (ac (aq (ml Z) (rm hr) rfl (ac (ak 0) (ac (ak 9) ae))) (ac (ak 9) ae))))) aD)))))) (af (ku 4)))))),?_⟩
 obtain⟨nm,rows,n,W,most,B,k,c,rfl,S,hc,h4,hc9,q⟩:=h;have c9:c<9000:=by
  have:c<=c*c / 4:=(Iy (by decide)).mpr (Nat.mul_le_mul_left c h4)
  omega
 have sf0:=dI (nm:=nm) (rows:=rows) (λw=>decide (cfs (rows.zip w) n=0)) W
 have sf1:=dI (nm:=nm) (rows:=rows) (λw=>decide (0<cfs (rows.zip w) n)) W
 have sf2:=dI (nm:=nm) (rows:=rows) (λw=>decide (cfs (rows.zip w) n<0)) W
 refine ag λK1 hK1=>?_;walk_at "rd";refine⟨by rw[FR];omega,λd=>if decide (cfs (rows.zip (sG d)) n=0)=true then some d else none,λx hx=>?_,?_⟩
 ·obtain⟨w,hw,rfl⟩:=FV.mp hx;simp only[qd];simp only[oX];walk_at "rd";refine⟨n,Ft nm rows w,rfl,gE S.H w,?_⟩;rw[dm S.H];walk_at "rd";refine f6 (λe=>?_) λe=>?_
  ·rw[Gd e]
  ·rw[Gb e]
 ·rw[sf0];intro ta;rw[hK1];refine ag λK2 hK2=>?_;walk_at "rd";refine⟨by rw[FR];omega,λd=>if decide (0<cfs (rows.zip (sG d)) n)=true then some d else none,λx hx=>?_,?_⟩
  ·obtain⟨w,hw,rfl⟩:=FV.mp hx;simp only[qd];simp only[oX];walk_at "rd";refine⟨n,Ft nm rows w,rfl,gE S.H w,?_⟩;rw[dm S.H];walk_at "rd";refine f6 (λe=>?_) λe=>?_
   ·rw[Gd e]
   ·rw[Gb e]
  ·rw[sf1,hK2];refine ag λK3 hK3=>?_;walk_at "rd";refine⟨by rw[FR];omega,λd=>if decide (cfs (rows.zip (sG d)) n<0)=true then some d else none,λx hx=>?_,?_⟩
   ·obtain⟨w,hw,rfl⟩:=FV.mp hx;simp only[qd];simp only[oX];walk_at "rd";refine⟨n,Ft nm rows w,rfl,gE S.H w,?_⟩;rw[dm S.H];walk_at "rd";refine f6 (λe=>?_) λe=>?_
    ·rw[Gd e]
    ·rw[Gb e]
   ·rw[sf2,hK3];clear sf0 sf1 sf2;have c3:=cnt3 (rows:=rows) (n:=n) W;unfold woW at q;have hL:∀l∈W.filter (λw=>decide (0<cfs (rows.zip w) n)),l∈W/\0<cfs (rows.zip l) n:=λl hl=>⟨(Ga.mp hl).1,by simpa using (Ga.mp hl).2⟩;have hR:∀l∈W.filter (λw=>decide (cfs (rows.zip w) n<0)),l∈W/\cfs (rows.zip l) n<0:=λl hl=>⟨(Ga.mp hl).1,by simpa using (Ga.mp hl).2⟩;generalize W.filter (λw=>decide (cfs (rows.zip w) n=0))=Z at *;generalize W.filter (λw=>decide (0<cfs (rows.zip w) n))=Ls at *;generalize W.filter (λw=>decide (cfs (rows.zip w) n<0))=Rs at *;have zb:Z.length+Ls.length*Rs.length<9000:=Ia (zab (by omega) h4) hc9;refine ag λK4 hK4=>?_;refine bZ λF N hF hN=>?_;walk_at "rd";simp only[dB];walk_at "rd";refine⟨λi δ=>∃x y z,δ=[.dat (.lst (rows.map Fx)),.dat (.lst (W.map (smD nm rows))),.dat (.str n),.dat (.int (most:Nat)),.own ta (.lst ((Z++(Ls.take i).flatMap λl=>(Rs.map (crW rows n l)).filter λu=>decide (usd u<=most)).map (smD nm rows))),.dat (.lst (Ls.map (smD nm rows))),.dat (.lst (Rs.map (smD nm rows))),x,y,z],⟨_,_,_,by rw[Iq,List.flatMap_nil,GH]⟩,?_,?_⟩
    ·rintro i d δ hd ⟨x,y,z,rfl⟩;obtain⟨l,hl,rfl⟩:=pG hd;obtain⟨lW,cl⟩:=hL l (Ge hl);have hil:i<Ls.length:=(List.getElem?_eq_some_iff.mp hl).1;rw[hF];walk_at "rd";refine bZ λF2 N2 hF2 hN2=>?_;walk_at "rd";simp only[dB];walk_at "rd";refine⟨λj δ=>∃y z,δ=[.dat (.lst (rows.map Fx)),.dat (.lst (W.map (smD nm rows))),.dat (.str n),.dat (.int (most:Nat)),.own ta (.lst ((Z++(Ls.take i).flatMap (λl=>(Rs.map (crW rows n l)).filter λu=>decide (usd u<=most))++((Rs.take j).map (crW rows n l)).filter λu=>decide (usd u<=most)).map (smD nm rows))),.dat (.lst (Ls.map (smD nm rows))),.dat (.lst (Rs.map (smD nm rows))),.dat (smD nm rows l),y,z],⟨_,_,by rw[Iq,HV,List.filter_nil,GH]⟩,?_,?_⟩
     ·rintro j d δ hd ⟨y,z,rfl⟩;obtain⟨h,hh,rfl⟩:=pG hd;obtain⟨hW,ch⟩:=hR h (Ge hh);have hjl:j<Rs.length:=(List.getElem?_eq_some_iff.mp hh).1;rw[hF2];show dL _ _ _ _;refine b6 λK5 hK5=>?_;walk_at "rd";refine⟨nm,rows,n,l,h,rfl,S.H,S.m6,S.wt l lW,S.wt h hW,cl,ch,S.c8 lW n,S.c8 hW n,S.w8 lW,S.w8 hW,λa ha=>FX (kR S.H S.hB (S.bits l lW) (S.bits h hW) a ha) S.fit.2,?_⟩;walk_at "rd";rw[hK5];have ww:=sr (S.wt l lW) (S.wt h hW) cl ch;have wbt:∀a∈crW rows n l h,ib a<=60000000:=λa ha=>by
       obtain⟨b,hb',rfl⟩:=FV.mp ha;exact GP (FX (kR S.H S.hB (S.bits l lW) (S.bits h hW) b hb') (FX S.fit.2 (by decide)))
      have tk:(((Rs.take (j+1)).map (crW rows n l)).filter λu=>decide (usd u<=most))=(((Rs.take j).map (crW rows n l)).filter λu=>decide (usd u<=most))++if usd (crW rows n l h)<=most then [crW rows n l h] else []:=by
       rw[aE hh,Gj,List.filter_append]
       congr 1
       by_cases e:usd (crW rows n l h)<=most
       ·rw[Gd e];simp[e]
       ·rw[Gb e];simp[e]
      simp only[tk];generalize crW rows n l h=u at *;walk_at "rd";refine⟨by rw[FR,ww.len];have:=S.m6;omega,λd=>match d with | .int a=>if 0<a then some (.int a) else none | _=>none,λx hx=>?_,?_⟩
      ·obtain⟨a,_,rfl⟩:=FV.mp hx;walk_at "rd";refine f6 (λe=>?_) λe=>?_
       ·rw[Gd e]
       ·rw[Gb e]
      ·rw[Al];refine f6 (λe=>?_) λe=>?_
       ·have e:usd u<=most:=by omega
        rw[Gd e];refine⟨rows,u,nm,rfl,S.n6,S.rw,wbt,λts hts=>?_⟩;have:=hts.uniq (S.H.smT u);subst this;walk_at "rd";refine⟨?_,?_⟩
        ·rw[FR,F1,F1];have f1:=kM (rows:=rows) (n:=n) (most:=most) Rs (Ls.take i);have f2:=HH (λu=>decide (usd u<=most)) ((Rs.take j).map (crW rows n l));rw[FR,Gv] at f2;rw[Gv,show min i Ls.length=i by omega] at f1;have f3:=Nat.mul_le_mul_right Rs.length (show i+1<=Ls.length from hil);rw[Nat.succ_mul] at f3;omega
        ·rw[<- Il,Gj (l₂:=[u])];rfl
       ·have e:¬ usd u<=most:=by omega
        rw[Gb e,GH]
     ·rintro δ ⟨y,z,rfl⟩;rw[FR,Gp,hN2];walk_at "rd";rw[aE hl,HU,<- Il];simp only[List.flatMap_cons,List.flatMap_nil,List.append_nil]
      try exact⟨_,_,_,rfl⟩
    ·rintro δ ⟨x,y,z,rfl⟩;rw[FR,Gp,hN,hK4];walk_at "rd";exact q
def rX(rows:List Rw):List Str->List (List (List Int))
 | []=>[Fw rows []]
 | n::ns=>Fw rows (n::ns)::rX rows ns
def nv(nm:List Str)(rows:List Rw)(W:List (List Int)):D:=.lst (W.map (smD nm rows))
def fN:∀ns:List Str,(rX rows ns).length=ns.length+1
 | []=>rfl
 | n::ns=>by show (rX rows ns).length+1=_;rw[fN ns];rfl
def pC:∀(ns:List Str) (j:Nat),j<=ns.length->(rX rows ns)[j]?=some (Fw rows (ns.drop j))
 | [],0,_=>rfl
 | n::ns,0,_=>rfl
 | n::ns,j+1,h=>pC ns j (by simpa using h)
def wq{B B' m m':Nat}(h1:B<=B')(h2:m<=m'):∀k,wb B m k<=wb B' m' k
 | 0=>F3 1
 | k+1=>by have:=wq h1 h2 k;show 2*wb B m k+B+m+1<=2*wb B' m' k+B'+m'+1;omega
def xj{B m a:Nat}:∀ {b:Nat},a<=b->wb B m a<=wb B m b
 | 0,h=>by rw[Nat.le_zero.mp h];exact F3 _
 | b+1,h=>by
  by_cases e:a=b+1
  ·rw[e];exact F3 _
  ·exact FX (xj (b:=b) (by omega)) tI
structure Fit(nm:List Str)(rows:List Rw)(B N:Nat):Prop where
 H:Fz nm rows
 hB:RwB B rows
 m6:rows.length<=6
 n6:nm.length<=60
 n4:N<=4
 wN:wb B 6 (N+1)<=7990
def Fit.wk{B N k:Nat}(F:Fit nm rows B N)(h:k<=N+1):wb B rows.length k<=7990:=FX (wq (F3 B) F.m6 k) (FX (xj h) F.wN)
def Fit.ck{B N k:Nat}(F:Fit nm rows B N)(h:k<=N):cb B rows.length k<=7990:=by
 have:2*wb B rows.length k+B+rows.length+1<=7990:=F.wk (k:=k+1) (by omega)
 unfold cb;omega
def DM{B m:Nat}(h2:m<=6)(k:Nat):cb B m k<=cb B 6 k:=by have:=wq (F3 B) h2 k;unfold cb;omega
def Fit.sums{B N:Nat}(F:Fit nm rows B N)(h:ns.length<=N):xB nm rows B ns.length (Fw rows ns):=by
 have w1:=F.ck h
 have w2:=F.wk (k:=ns.length+1) (by omega)
 have:=F.m6
 exact⟨F.H,F.hB,by omega,F.n6,λw hw=>(ci hw).1,λw hw=>cO F.H F.hB hw,by omega,by omega⟩
inductive iU(ds:List D)(R:D->Prop):Prop
 | mk (nm:List Str) (rows:List Rw) (B N:Nat) (ns:List Str) (hh:ds=[.lst (rows.map Fx),.lst (ns.map D.str)]/\Fit nm rows B N/\ns.length<=N/\R (.lst ((rX rows ns).map (nv nm rows))))
def jf:∀ds R,iU ds R->ds.length=2:=λ_ _ ⟨_,_,_,_,_,e,_⟩=>by rw[e];rfl
def cnt6:∀ {k:Nat},k<=3->cnt 6 k*cnt 6 k / 4<9000
 | 0,_=>by decide
 | 1,_=>by decide
 | 2,_=>by decide
 | 3,_=>by decide
 | k+4,h=>by omega
def zm{i:Nat}{d:D}(h:(ns.map D.str).reverse[i]?=some d):∃n,d=.str n/\i<ns.length/\ns.drop (ns.length-(i+1))=n::ns.drop (ns.length-i):=by
 have hi:i<ns.length:=by
  have:=(List.getElem?_eq_some_iff.mp h).1
  simpa using this
 rw[List.getElem?_reverse (by simpa using hi),FR,List.getElem?_map] at h;have e:ns.length-(i+1)<ns.length:=by omega
 have e1:ns.length-1-i=ns.length-(i+1):=by omega
 rw[e1,List.getElem?_eq_getElem e] at h;refine⟨ns[ns.length-(i+1)],(Gc h).symm,hi,?_⟩;rw[Hl e]
 congr 2
 omega
def b8:aw ["rows","names","sums","told","name"] ["rows","names"] (ap s_taken_out):=by walk_at "sc"
theorem kX(Z:Zz):Z.C 5 "taken_out" ["rows","names"] (Fh Z.K iU):=by
 refine cq Z.d_taken_out b8 jf λfa cdv A outer s H E ds R hr h=>?_;have hU:=hr.units;refine⟨_,(ad (ay 2 b8.nd (aq (t9 Z) (rm hr) rfl (ac (ak 0) ae))) (ad (cE 3 b8.nd (ac (ak 2) ae)) (ad (i9 Gh rfl (B5 rfl Z.z_reversed (ac (ak 1) ae)) (ar 4 b8.nd) (ad (ay 2 b8.nd (aq (om Z) (rm hr) rfl (ac (ak 0) (ac (ak 2) (ac (ak 4) (ac (ax aP (Ac 3 rfl Z.z_len eU) am) ae)))))) (af (v5 3 (ak 2))))) (af (ku 3))))),?_⟩;obtain⟨nm,rows,B,N0,ns,rfl,F,h4,q⟩:=h;have n4:=F.n4;walk_at "rd";refine⟨rows,nm,rfl,F.H,by have:=F.m6;omega,?_⟩;walk_at "rd";intro ta;refine eP λFb N hF hN=>?_;walk_at "rd";simp only[mv];walk_at "rd";refine⟨λi δ=>∃x,δ=[.dat (.lst (rows.map Fx)),.dat (.lst (ns.map D.str)),.dat (nv nm rows (Fw rows (ns.drop (ns.length-i)))),.own ta (.lst ((rX rows (ns.drop (ns.length-i))).map (nv nm rows))),x],⟨_,by rw[Nat.sub_zero,List.drop_length];rfl⟩,?_,?_⟩
 ·rintro i d δ hd ⟨x,rfl⟩;obtain⟨n,rfl,hi,hdr⟩:=zm hd;simp only[hdr];have hl:(ns.drop (ns.length-i)).length=i:=by rw[Hj];omega
  generalize ns.drop (ns.length-i)=l at *
  rw[hF];show dL _ _ _ _;refine b6 λK1 hK1=>?_;walk_at "rd";obtain⟨c1,c2⟩:=uP (rows:=rows) F.m6 (by decide) l;rw[hl] at c1 c2;refine⟨nm,rows,n,Fw rows l,l.length+2,B,l.length,cnt 6 i,?_,F.sums (by omega),c1,c2,cnt6 (by omega),?_⟩
  ·rw[FR,fN];show [_,nv nm rows (Fw rows l),_,_]=_;unfold nv
   congr 4
  ·walk_at "rd";rw[hK1];walk_at "rd";refine⟨by rw[FR,fN];omega,rfl,rfl⟩
 ·rintro δ ⟨x,rfl⟩;rw[HS,FR,Nat.sub_self,hN];walk_at "rd";exact q
inductive gf(ds:List D)(R:D->Prop):Prop
 | mk (n:Str) (r:Rw) (ks:List Str) (ps:List (Int×Int)) (c κ T:Nat) (hh:ds=[.str n,Fx r,.dct ks (ps.map Ff)]/\(r.2.1.map (·.1)).Nodup/\ks.length<=60/\(∀t∈r.2.1,t.1≠n->t.1∈ks)/\cf r.2.1 n≠0/\Pt ks ps T/\T<=1000000/\ib (Fy (pB ks ps) ks)<=κ/\c+κ<=7990 /\
 ib (cf r.2.1 n)<=c/\(∀t∈r.2.1,ib t.2<=c)/\ib r.2.2<=c/\R (Ff (bnd ks ps n r)))
def jH:∀ds R,gf ds R->ds.length=3:=λ_ _ ⟨_,_,_,_,_,_,_,e,_⟩=>by rw[e];rfl
def iD(p:Str×Int->Bool)(g:D->Option D)(h1:∀t,p t=true->g (Fk t)=some (Fk t))(h2:∀t,p t=false->g (Fk t)=none):∀ts:List (Str×Int),(ts.map Fk).filterMap g=(ts.filter p).map Fk
 | []=>rfl
 | t::ts=>by
  rw[Go,GK]
  cases e:p t with
  | true=>rw[h1 t e,Gy e,iD p g h1 h2 ts];rfl
  | false=>rw[h2 t e,Gn (by rw[e];decide),iD p g h1 h2 ts]
def eM:aw ["name","row","point","others","known"] ["name","row","point"] (ap s_bound_on):=by walk_at "sc"
theorem gq(Z:Zz):Z.C 3 "bound_on" ["name","row","point"] (Fh Z.K gf):=by
 refine cq Z.d_bound_on eM jH λfa cdv A outer s H E ds R hr h=>?_;have hU:=hr.units;refine⟨_,(ad (cN 3 eM.nd ["term"] [(0,"name")] rfl rfl (by decide +kernel) rfl (by decide +kernel) (bh ⟨rfl,trivial⟩) (bn rfl) (aL ⟨⟨rfl,rfl,.inl rfl⟩,trivial⟩) (kg (Fl 1)) λ_ _ _ _ _=>⟨(ar 0 (show List.Nodup (["term","name"]:List Str) by decide +kernel)),(fF (aC (kl hU) (Fl 0) (ak 1) (aA _))),(ak 0)⟩) (ad (ay 4 eM.nd (aq (jo Z) (rm hr) rfl (ac (bT ["term"] [] rfl rfl (by decide +kernel) rfl (by decide +kernel) (bh trivial) (bn rfl) (aL trivial) (dk (ak 3)) λ_ _ _ _ _=>⟨(ar 0 (show List.Nodup (["term"]:List Str) by decide +kernel)),cM,(Fl 0)⟩) (ac (ak 2) ae)))) (af (av (aq (fe Z) (rm hr) rfl (ac (ax gQ (ax a5 (Fl 1) (Fl 4)) (aq (d6 Z) (rm hr) rfl (ac (ak 3) (ac (Fl 4) ae)))) (ac (ax a5 (aq (ba Z) (rm hr) rfl (ac (ak 0) (ac (ak 1) ae))) (Fl 4)) ae))))))),?_⟩;obtain⟨n,⟨k,ts,b⟩,ks,ps,c,κ,T,rfl,nd,hk,hp,hc,P,hT,hκ,hcκ,b1,b2,b3,q⟩:=h;simp only at nd hp hc b1 b2 b3 q;have lt:ts.length<=61:=by
  have h1:(ts.map (·.1)).length<=(n::ks).length:=eT nd λx hx=>by
   obtain⟨t,ht,rfl⟩:=FV.mp hx
   by_cases e:t.1=n
   ·exact F7.mpr (.inl e)
   ·exact FU _ (hp t ht e)
  rw[FR,F8] at h1;omega
 unfold Fx eY;refine ag λK1 hK1=>?_;walk_at "rd";refine⟨by rw[FR];omega,λd=>match d with | .tup [.str x,w]=>if x≠n then some (.tup [.str x,w]) else none | _=>none,λx hx=>?_,?_⟩
 ·obtain⟨t,_,rfl⟩:=FV.mp hx;unfold Fk;walk_at "rd";refine f6 (λe=>?_) λe=>?_
  ·simp[e]
  ·simp[e]
 ·rw[iD (λt=>decide (t.1≠n)) _ (λt ht=>by unfold Fk;simp only;rw[Gd (by simpa using ht)]) (λt ht=>by unfold Fk;simp only;rw[Gb (by simpa using ht)])];unfold bnd at q;simp only at q;have ho:∀t∈ts.filter (λt=>decide (t.1≠n)),t.1∈ks/\ib t.2<=c:=λt ht=>by
   obtain⟨h1,h2⟩:=Ga.mp ht;exact⟨hp t h1 (by simpa using h2),b2 t h1⟩
  have ndo:((ts.filter (λt=>decide (t.1≠n))).map (·.1)).Nodup:=nd.sublist (List.filter_sublist.map _)
  have hlo:=HH (λt:Str×Int=>decide (t.1≠n)) ts
  generalize ts.filter (λt=>decide (t.1≠n))=o at *
  have hon:∀x∈o.map (·.1),x∈ks:=λx hx=>by
   obtain⟨t,ht,rfl⟩:=FV.mp hx;exact(ho t ht).1
  have pos:∀x∈ks,0<pB ks ps x:=λx hx=>P.pos hx
  have bK:=lI ndo hon pos hκ
  have pK:=ce (q:=pB ks ps) (l:=o.map (·.1)) λx hx=>pos x (hon x hx)
  rw[hK1];walk_at "rd";refine⟨by rw[FR];omega,λd=>match d with | .tup (x::_)=>some x | _=>none,λx hx=>?_,?_⟩
  ·obtain⟨t,_,rfl⟩:=FV.mp hx;unfold Fk;walk_at "rd"
  ·refine⟨o.map (·.1),ks,ps,T,κ,?_,ndo,?_,hon,P,hT,hκ,by omega,?_⟩
   ·rw[aN _ Fk (λt=>D.str t.1) _ (by intro _ _;rfl),GG];rfl
   ·have:=eT ndo hon
    omega
   ·walk_at "rd";refine⟨mo2 b3 bK (by omega),true,o,_,_,_,rfl,λt ht=>⟨cJ (λx=>D.int (ov (pT ks ps) (pB ks ps) (Fy (pB ks ps) (o.map (·.1))) x)) (FV.mpr ⟨t,ht,rfl⟩),FX (ho t ht).2 (by omega),FX (Gi (P.Tb (ho t ht).1) (GP bK)) (by omega)⟩,?_⟩;walk_at "rd";refine⟨n,(k,ts,b),rfl,nd,?_⟩;walk_at "rd";refine⟨mo2 b1 bK (by omega),_,_,rfl,GJ hc (by omega),FX (Gi b1 bK) (by omega),?_⟩;exact q
def oD:Option (Int×Int)->D
 | none=>.non
 | some p=>Ff p
def Au(e:En2):D:=.tup [oD e.1,.bl e.2]
inductive lQ(ds:List D)(R:D->Prop):Prop
 | mk (a b:En2) (lo:Bool) (hh:ds=[Au a,Au b,.bl lo]/\(∀p,a.1=some p->ib p.1<=1000000/\ib p.2<=8000)/\(∀p,b.1=some p->ib p.1<=1000000/\ib p.2<=8000)/\R (Au (tgt lo a b)))
def kw:∀ds R,lQ ds R->ds.length=3:=λ_ _ ⟨_,_,_,e,_⟩=>by rw[e];rfl
def rB:aw ["one","other","is_low"] ["one","other","is_low"] (ap s_tighter):=by walk_at "sc"
def iJ(Z:Zz):Z.C 2 "tighter" ["one","other","is_low"] (Fh Z.K lQ):=by
 refine cq Z.d_tighter rB kw λfa cdv A outer s H E ds R hr h=>?_;have hU:=hr.units;refine⟨_,(ad (aR (aC Aj (Fl 0) gA (aA _)) (af (av (ak 1))) aD) (ad (aR (aC Aj (Fl 1) gA (aA _)) (af (av (ak 0))) aD) (ad (aR (aC (zJ hU) (Fl 0) (Fl 1) (aA _)) (af (av (aH (ac (Fl 0) (ac (j8 (Fl 0) (d9 (Fl 1))) ae))))) aD) (af (av (uT (aC (zJ hU) (aq (pO Z) (rm hr) rfl (ac (Fl 1) (ac (Fl 0) ae))) (ak 2) (aA _)) (ak 0) (ak 1))))))),?_⟩;obtain⟨⟨a,ab⟩,⟨b,bb⟩,lo,rfl,ha,hb,q⟩:=h;unfold Au at q ⊢;refine ag λK1 h1=>?_
 cases a with
 | none =>
  unfold oD;walk_at "rd";exact q
 | some p =>
  rw[show oD (some p)=.tup [.int p.1,.int p.2] from rfl];walk_at "rd";rw[h1];refine ag λK2 h2=>?_
  cases b with
  | none =>
   unfold oD;walk_at "rd";exact q
  | some r =>
   obtain⟨p1,p2⟩:=ha p rfl;obtain⟨r1,r2⟩:=hb r rfl;unfold tgt at q;simp only at q;rw[show oD (some r)=.tup [.int r.1,.int r.2] from rfl];walk_at "rd";rw[h2];refine ag λK3 h3=>?_;walk_at "rd";refine f6 (λe=>?_) λe=>?_
   ·have e:p=r:=Prod.ext (by simpa using Hf Prod.fst e) (by simpa using Hf Prod.snd e)
    rw[Gd e] at q
    cases ab with
    | true=>exact ifp rfl q
    | false=>exact FK F0 q
   ·rw[Gb (λz=>e (by rw[z]))] at q;rw[h3];walk_at "rd";refine⟨r,p,rfl,FX r1 (by decide),FX p1 (by decide),r2,p2,?_⟩;walk_at "rd";refine f6 (λe=>?_) λe=>?_
    ·rw[Gd e] at q;exact q
    ·rw[Gb e] at q;exact q
inductive iL(ds:List D)(R:D->Prop):Prop
 | mk (lo hi:Option (Int×Int)) (x y:Bool) (hh:ds=[.tup [oD lo,.bl x,oD hi,.bl y]]/\(∀p,lo=some p->p.2≠0/\ib p.1<=1000000/\ib p.2<=3990)/\(∀p,hi=some p->p.2≠0/\ib p.1<=1000000/\ib p.2<=3990)/\R (Ff (nmb lo hi)))
def jr:∀ds R,iL ds R->ds.length=1:=λ_ _ ⟨_,_,_,_,e,_⟩=>by rw[e];rfl
def cL:aw ["piece","low","high","whole"] ["piece"] (ap s_number_in):=by walk_at "sc"
def kS(Z:Zz):Z.C 4 "number_in" ["piece"] (Fh Z.K iL):=by
 refine cq Z.d_number_in cL jr λfa cdv A outer s H E ds R hr h=>?_;have hU:=hr.units;refine⟨_,(ad (ay 1 cL.nd (Fl 0)) (ad (ay 2 cL.nd (Fl 0)) (ad (aR (DW.dt (fi (aC Aj (ak 1) gA (aA _)) (eE (aC Aj (ak 2) gA (aA _))))) (af (av (aH (ac am (ac am ae))))) aD) (ad (aR (aC Aj (ak 1) gA (aA _)) (af (av (aq (fe Z) (rm hr) rfl (ac (ax gQ (ax dA (Fl 2) (Fl 2)) am) (ac am ae))))) aD) (ad (ay 3 cL.nd (aq (fe Z) (rm hr) rfl (ac (ax aP (ax dA (Fl 1) (Fl 1)) am) (ac am ae)))) (ad (aR (DW.dt (jv (aC Aj (ak 2) gA (aA _)) (gB (bQ (aq (pO Z) (rm hr) rfl (ac (ak 3) (ac (ak 2) ae))))))) (af (av (ak 3))) aD) (ad (aR (aC (zJ hU) (ak 1) (ak 2) (aA _)) (af (av (ak 1))) aD) (af (av (aq (uF Z) (rm hr) rfl (ac (aq (wx Z) (rm hr) rfl (ac (ak 1) (ac (ak 2) ae))) (ac (aH (ac am (ac am ae))) ae)))))))))))),?_⟩;obtain⟨lo,hi,x,y,rfl,hl,hh,q⟩:=h;have m1:∀a:Int,ib (FC a 1)<=1:=λa=>by rw[(pU a).2];decide
 refine ag λK1 hK1=>?_;walk_at "rd";rw[hK1];refine ag λK2 hK2=>?_;walk_at "rd";rw[hK2];refine ag λK3 hK3=>?_
 cases lo with
 | none =>
  cases hi with
  | none =>
   unfold oD;walk_at "rd";exact q
  | some h =>
   obtain⟨h0,h1,h2⟩:=hh h rfl;unfold oD Ff;walk_at "rd";rw[hK3];refine ag λK4 hK4=>?_;walk_at "rd";exact⟨⟨h0,rl h2 (by decide)⟩,_,_,rfl,by decide,by decide,q⟩
 | some l =>
  obtain⟨l0,l1,l2⟩:=hl l rfl;have bt:ib (Fj (l.1.fdiv l.2+1) 1)<=1000000+1:=by
   rw[(pU _).1];have:=He (GP (y:=l.2) l1) (show ib 1<=1 by decide);unfold ib;omega
  cases hi with
  | none =>
   unfold oD Ff;walk_at "rd";rw[hK3];refine ag λK4 hK4=>?_;walk_at "rd";rw[hK4];refine ag λK5 hK5=>?_;walk_at "rd";refine⟨⟨l0,rl l2 (by decide)⟩,_,_,rfl,by decide,by decide,?_⟩;walk_at "rd";rw[hK5];refine ag λK6 hK6=>?_;walk_at "rd";exact q
  | some h =>
   obtain⟨h0,h1,h2⟩:=hh h rfl;unfold nmb at q;simp only at q;unfold oD Ff;walk_at "rd";rw[hK3];refine ag λK4 hK4=>?_;walk_at "rd";rw[hK4];refine ag λK5 hK5=>?_;walk_at "rd";refine⟨⟨l0,rl l2 (by decide)⟩,_,_,rfl,by decide,by decide,?_⟩;walk_at "rd";rw[hK5];refine ag λK6 hK6=>?_;walk_at "rd";refine⟨(Fj (l.1.fdiv l.2+1) 1,FC (l.1.fdiv l.2+1) 1),h,rfl,FX bt (by decide),FX h1 (by decide),FX (m1 _) (by decide),FX h2 (by decide),?_⟩;walk_at "rd";refine f6 (λe=>?_) λe=>?_
   ·rw[Gd e] at q;exact q
   ·rw[Gb e] at q;rw[hK6];refine ag λK7 hK7=>?_;walk_at "rd";refine f6 (λe=>?_) λe=>?_
    ·have e:l=h:=Prod.ext (by simpa using Hf Prod.fst e) (by simpa using Hf Prod.snd e)
     rw[Gd e] at q;exact q
    ·rw[Gb (λz=>e (by rw[z]))] at q;rw[hK7];walk_at "rd";refine⟨l,h,rfl,GJ l0 h0,l1,h1,FX l2 (by decide),FX h2 (by decide),?_⟩;have sb:=Gi l2 h2;have st:=He (Gi l1 h2) (Gi h1 l2);have sl:=et (l.1*h.2+h.1*l.2) (GJ l0 h0);refine⟨(Fj (l.1*h.2+h.1*l.2) (l.2*h.2),FC (l.1*h.2+h.1*l.2) (l.2*h.2)),(1,2),rfl,GJ sl.ne (by decide),FX (GP st) (by decide),by decide,FX (GP sb) (by decide),by decide,?_⟩;exact q
def v6{l:List (Rw×Int)}:(decide (kdS (kOf (FM l))=("least":Str)):Bool)=!FM l:=by cases FM l<;>rfl
structure Pcs(nm:List Str)(rows:List Rw)(ks:List Str)(ps:List (Int×Int))(n:Str)(W:List (List Int))(c κ g T:Nat)(L:Int):Prop where
 H:Fz nm rows
 k6:ks.length<=60
 nms:∀w∈W,∀t∈(Ft nm rows w).2.1,t.1≠n->t.1∈ks
 P:Pt ks ps T
 hT:c+T+κ+80<=1000000
 hκ:ib (Fy (pB ks ps) ks)<=κ
 L0:L≠0
 hL:∀k∈ks,pB ks ps k ∣ L
 hg:ib L<=g
 gκ:g<=κ
 cg:c+g<=3990
 cκ:c+κ<=7990
 cb:∀w∈W,∀x,ib (cfs (rows.zip w) x)<=c
 bb:∀w∈W,ib (bds (rows.zip w))<=c
def Pcs.tb{W:List (List Int)}{c κ g T:Nat}(h:Pcs nm rows ks ps n W c κ g T L){w:List Int}(hw:w∈W):∀t∈(Ft nm rows w).2.1,ib t.2<=c:=λt ht=>by
 rw[(eN ht).2.2];exact h.cb w hw _
def Pcs.cnd{W:List (List Int)}{c κ g T:Nat}(h:Pcs nm rows ks ps n W c κ g T L){w:List Int}(hw:w∈W)(hc:cfs (rows.zip w) n≠0):nK L c g κ T (cnd nm rows ks ps n w).1 :=
 vV h.P h.hκ h.L0 h.hL h.hg (gE h.H w) h.k6 (h.nms w hw) (by rw[dm h.H];exact hc) (by rw[dm h.H];exact h.cb w hw n) (h.tb hw) (h.bb w hw)
inductive iS(ds:List D)(R:D->Prop):Prop
 | mk (nm:List Str) (rows:List Rw) (ks:List Str) (ps:List (Int×Int)) (n:Str) (W:List (List Int)) (c κ g T:Nat) (L:Int) (hh:ds=[.str n,nv nm rows W,.dct ks (ps.map Ff)]/\Pcs nm rows ks ps n W c κ g T L /\
 R (.tup [oD (FL nm rows ks ps n W).1.1,.bl (FL nm rows ks ps n W).1.2,oD (FL nm rows ks ps n W).2.1,.bl (FL nm rows ks ps n W).2.2]))
def i6:∀ds R,iS ds R->ds.length=3:=λ_ _ ⟨_,_,_,_,_,_,_,_,_,_,_,e,_⟩=>by rw[e];rfl
def vD{W:List (List Int)}{i:Nat}{w:List Int}(h:W[i]?=some w):FL nm rows ks ps n (W.take (i+1)) =
    (if 0<cfs (rows.zip w) n then tgt true (FL nm rows ks ps n (W.take i)).1 (some (cnd nm rows ks ps n w).1,(cnd nm rows ks ps n w).2) else (FL nm rows ks ps n (W.take i)).1,
     if cfs (rows.zip w) n<0 then tgt false (FL nm rows ks ps n (W.take i)).2 (some (cnd nm rows ks ps n w).1,(cnd nm rows ks ps n w).2) else (FL nm rows ks ps n (W.take i)).2):=by
  unfold FL;rw[aE h,Io];rfl
def a7:aw ["name","sums","point","low","high","row","weights","weight"] ["name","sums","point"] (ap s_piece_for):=by walk_at "sc"
theorem kW(Z:Zz):Z.C 4 "piece_for" ["name","sums","point"] (Fh Z.K iS):=by
 refine cq Z.d_piece_for a7 i6 λfa cdv A outer s H E ds R hr h=>?_;have hU:=hr.units;refine⟨_,(ad (ay 3 a7.nd (uB rfl Z.g_ENDLESS)) (ad (ay 4 a7.nd (uB rfl Z.g_ENDLESS)) (ad (bH Gh rfl (ak 1) (cj (n:=2) rfl (aB (ar 5 a7.nd) (aB (ar 6 a7.nd) bf))) (ad (ay 7 a7.nd (aq (ba Z) (rm hr) rfl (ac (ak 0) (ac (ak 5) ae)))) (ad (aR (aC vk (ak 7) am (aA _)) (af (ay 3 a7.nd (aq (iJ Z) (rm hr) rfl (ac (ak 3) (ac (aH (ac (aq (gq Z) (rm hr) rfl (ac (ak 0) (ac (ak 5) (ac (ak 2) ae)))) (ac (cK (dw hU) (Fl 5) au (aA _)) ae))) (ac rq ae)))))) aD) (af (aR (aC zT (ak 7) am (aA _)) (af (ay 4 a7.nd (aq (iJ Z) (rm hr) rfl (ac (ak 4) (ac (aH (ac (aq (gq Z) (rm hr) rfl (ac (ak 0) (ac (ak 5) (ac (ak 2) ae)))) (ac (cK (dw hU) (Fl 5) au (aA _)) ae))) (ac rq ae)))))) aD))))) (af (av (ax aP (ak 3) (ak 4))))))),?_⟩;obtain⟨nm,rows,ks,ps,n,W,c,κ,g,T,L,rfl,S,q⟩:=h;unfold nv;refine ag λK1 hK1=>?_;walk_at "rd";rw[hK1];refine ag λK2 hK2=>?_;walk_at "rd";rw[hK2];refine ag λK3 hK3=>?_;refine bZ λF N hF hN=>?_;walk_at "rd";simp only[dB];walk_at "rd";refine⟨λi δ=>∃x y z,δ=[.dat (.str n),.dat (.lst (W.map (smD nm rows))),.dat (.dct ks (ps.map Ff)),.dat (Au (FL nm rows ks ps n (W.take i)).1),.dat (Au (FL nm rows ks ps n (W.take i)).2),x,y,z],⟨_,_,_,rfl⟩,?_,?_⟩
 ·rintro i d δ hd ⟨x,y,z,rfl⟩;obtain⟨w,hw,rfl⟩:=pG hd;have hm:=Ge hw;have pre:=xF (nm:=nm) (rows:=rows) (ks:=ks) (ps:=ps) (n:=n) (Pr:=λp=>ib p.1<=1000000/\ib p.2<=8000) (W:=W.take i) λw hw hc=>by
   have k:=S.cnd (GS hw) hc
   have k1:=k.bb
   have k2:=k.tb
   have k3:=S.cg
   have k4:=S.hT
   exact⟨by omega,by omega⟩
  rw[hF];simp only[vD hw];generalize FL nm rows ks ps n (W.take i)=e at *;obtain⟨lo,hi⟩:=e;show ln _ _ (.tup [Fx (Ft nm rows w),.tup (w.map D.int)]) _ _;refine b6 λK4 hK4=>?_;walk_at "rd";refine⟨n,Ft nm rows w,rfl,gE S.H w,?_⟩;walk_at "rd";rw[dm S.H,hK4];have k6:=S.k6;have bnd:cfs (rows.zip w) n≠0->∀R:D->Prop,R (Ff (cnd nm rows ks ps n w).1)->gf [.str n,Fx (Ft nm rows w),.dct ks (ps.map Ff)] R:=λhc R r =>
   ⟨n,Ft nm rows w,ks,ps,c,κ,T,rfl,gE S.H w,k6,S.nms w hm,by rw[dm S.H];exact hc,S.P,by have:=S.hT;omega,S.hκ,by have:=S.cκ;omega,by rw[dm S.H];exact S.cb w hm n,S.tb hm,S.bb w hm,r⟩
  have cb:cfs (rows.zip w) n≠0->∀p,some (cnd nm rows ks ps n w).1=some p->ib p.1<=1000000/\ib p.2<=8000:=λhc p hp=>by
   cases hp
   have k:=S.cnd hm hc
   have k1:=k.bb
   have k2:=k.tb
   have k3:=S.cg
   have k4:=S.hT
   exact⟨by omega,by omega⟩
  have word:∀R:D->Prop,R (.bl (cnd nm rows ks ps n w).2)->fIx [Fx (Ft nm rows w),.int 0] λd=>fEq [d,.str "least"] R:=λR r=>by
   unfold Fx eY Ft;walk_at "rd";rw[v6];exact r
  generalize cnd nm rows ks ps n w=cn at *
  obtain⟨cp,cs⟩:=cn
  rcases Int.lt_trichotomy (cfs (rows.zip w) n) 0 with hc | hc | hc
  ·refine ag λK5 hK5=>?_;walk_at "rd";refine FK (by omega) ?_;rw[hK5];walk_at "rd";refine ifp hc (bnd (by omega) _ ?_);walk_at "rd";refine word _ ?_;refine⟨hi,(some cp,cs),false,rfl,pre.2,cb (by omega),?_⟩;simp only[if_neg (show ¬ 0<cfs (rows.zip w) n by omega),if_pos hc]
   first | exact⟨_,_,_,rfl⟩ | trivial | rfl
  ·refine ag λK5 hK5=>?_;walk_at "rd";refine FK (by omega) ?_;rw[hK5];walk_at "rd";refine FK (by omega) ?_;simp only[if_neg (show ¬ 0<cfs (rows.zip w) n by omega),if_neg (show ¬ cfs (rows.zip w) n<0 by omega)]
   first | exact⟨_,_,_,rfl⟩ | trivial | rfl
  ·refine ag λK5 hK5=>?_;walk_at "rd";refine ifp hc (bnd (by omega) _ ?_);walk_at "rd";refine word _ ?_;refine⟨lo,(some cp,cs),true,rfl,pre.1,cb (by omega),?_⟩;rw[hK5];walk_at "rd";refine FK (by omega) ?_;simp only[if_pos hc,if_neg (show ¬ cfs (rows.zip w) n<0 by omega)]
   first | exact⟨_,_,_,rfl⟩ | trivial | rfl
 ·rintro δ ⟨x,y,z,rfl⟩;rw[FR,Gp,hN,hK3];unfold Au;walk_at "rd";exact q
def vj(c:Nat->Nat):Nat->Nat->Nat->Nat->Bool
 | 0,κ,_,T=>decide (κ<=7990)&&decide (T<=1000000)
 | k+1,κ,g,T=>(decide (c k+g<=3990)&&decide (c k+κ<=7990))&&(decide (g<=κ)&&decide (c k+T+κ+80<=1000000))&&vj c k (κ+(2*c k+g+2)) (2*c k+2+g) (2*(c k+T+κ+72)+2)
structure St(B:Nat)(nm:List Str)(rows:List Rw)(l ks:List Str)(ps:List (Int×Int))(κ g T:Nat)(L:Int):Prop where
 P:Pt ks ps T
 hκ:ib (Fy (pB ks ps) ks)<=κ
 L0:L≠0
 hL:∀k∈ks,pB ks ps k ∣ L
 hg:ib L<=g
 fq:vj (cb B 6) l.length κ g T=true
 so:∀w∈Fw rows l,Fn (Fm ks ps) (Ft nm rows w)
def yT{v:Int×Int}{T T':Nat}(P:Pt ks ps T)(hv:Fi v.1 v.2)(hT:T<=T')(h1:ib v.1<=T')(h2:ib v.2<=T'):Pt (ks++[n]) (ps++[v]) T' :=
  ⟨by simp[P.len],λp hp=>(F9.mp hp).elim (P.low p) λz=>by rw[F6.mp z];exact hv,λp hp=>(F9.mp hp).elim (λz=>FX (P.b1 p z) hT) λz=>by rw[F6.mp z];exact h1,
   λp hp=>(F9.mp hp).elim (λz=>FX (P.b2 p z) hT) λz=>by rw[F6.mp z];exact h2⟩
def wM{v:Int×Int}(hl:ps.length=ks.length)(hn:n∉ks):Fy (pB (ks++[n]) (ps++[v])) (ks++[n])=Fy (pB ks ps) ks*v.2:=by
 rw[fZ,nu];have e1:pB (ks++[n]) (ps++[v]) n=v.2:=by unfold pB;rw[fJ hl hn,Gd rfl]
 rw[e1]
 congr 1
 refine lP λk hk=>?_;unfold pB;rw[fJ hl hn,Gb (λ(z:k=n)=>hn (z ▸ hk))]
def St.step{B N:Nat}{κ g T:Nat}(F:Fit nm rows B N)(h:St B nm rows (n::l) ks ps κ g T L)(hnk:n∉ks)(hkl:ks.length<=60)(hcov:∀k∈nm,k∈ks\/k=n\/k∈l) :
  Pcs nm rows ks ps n (Fw rows l) (cb B 6 l.length) κ g T L/\(∀p,(FL nm rows ks ps n (Fw rows l)).1.1=some p->nK L (cb B 6 l.length) g κ T p)/\(∀p,(FL nm rows ks ps n (Fw rows l)).2.1=some p->nK L (cb B 6 l.length) g κ T p) /\
  ∃κ' g' T' L',St B nm rows l (ks++[n]) (ps++[nmb (FL nm rows ks ps n (Fw rows l)).1.1 (FL nm rows ks ps n (Fw rows l)).2.1]) κ' g' T' L':=by
 obtain⟨P,hκ,L0,hL,hg,fq,so⟩:=h;have hfq:((cb B 6 l.length+g<=3990/\cb B 6 l.length+κ<=7990)/\(g<=κ/\cb B 6 l.length+T+κ+80<=1000000))/\vj (cb B 6) l.length (κ+(2*cb B 6 l.length+g+2)) (2*cb B 6 l.length+2+g) (2*(cb B 6 l.length+T+κ+72)+2)=true:=by
  have:((decide (cb B 6 l.length+g<=3990)&&decide (cb B 6 l.length+κ<=7990))&&(decide (g<=κ)&&decide (cb B 6 l.length+T+κ+80<=1000000))&&vj (cb B 6) l.length (κ+(2*cb B 6 l.length+g+2)) (2*cb B 6 l.length+2+g) (2*(cb B 6 l.length+T+κ+72)+2))=true:=fq
  simpa only[Bool.and_eq_true,decide_eq_true_eq] using this
 obtain⟨⟨⟨f1,f1'⟩,f2,f2'⟩,f3⟩:=hfq;have hcb:=DM (B:=B) F.m6 l.length;have S:Pcs nm rows ks ps n (Fw rows l) (cb B 6 l.length) κ g T L:=by
  refine⟨F.H,hkl,λw hw t ht hne=>?_,P,f2',hκ,L0,hL,hg,f2,f1,f1',λw hw x=>FX (F.H.cfb F.hB (cO F.H F.hB hw) x) hcb,λw hw=>FX (Fz.bdb F.hB (cO F.H F.hB hw)) hcb⟩;obtain⟨m1,m2,_⟩:=eN ht
  rcases hcov t.1 m1 with z | z | z
  ·exact z
  ·exact absurd z hne
  ·exact absurd ((ci hw).2 _ z) m2
 have pof:=xF (nm:=nm) (rows:=rows) (ks:=ks) (ps:=ps) (n:=n) (Pr:=nK L (cb B 6 l.length) g κ T) (W:=Fw rows l) λw hw hc=>S.cnd hw hc
 have bk:=back F.H so (rZ hnk) (λw hw t ht hne=>P.pos (S.nms w hw t ht hne))
 obtain⟨s1,s2,M,m0,mb,md⟩:=vT L0 hg f2 pof.1 pof.2;refine⟨S,pof.1,pof.2,_,_,_,M*L,yT P bk.1 (by omega) s1 (by omega),?_,GJ m0 L0,λk hk=>?_,Gi mb hg,f3,λw hw=>?_⟩
 ·rw[wM P.len hnk];exact Gi hκ s2
 ·unfold pB;rw[fJ P.len hnk]
  by_cases e:k=n
  ·rw[Gd e];exact md
  ·rw[Gb e]
   rcases F9.mp hk with z | z
   ·exact Int.dvd_trans (hL k z) (Int.dvd_mul_left ..)
   ·exact absurd (F6.mp z) e
 ·rw[qf P.len hnk];exact bk.2 w hw
inductive gD(ds:List D)(R:D->Prop):Prop
 | mk (nm:List Str) (rows:List Rw) (B N:Nat) (ns ks:List Str) (ps:List (Int×Int)) (κ g T:Nat) (L:Int) (hh:ds=[.lst ((rX rows ns).map (nv nm rows)),.lst (ns.map D.str),.dct ks (ps.map Ff)]/\Fit nm rows B N/\ns.length<=N/\ks.length<=20/\(ks++ns).Nodup/\(∀n∈nm,n∈ks\/n∈ns)/\St B nm rows ns ks ps κ g T L/\R (.fd (ks++ns) ((fbk nm rows ns ks ps).map Ff)))
def gO:∀ds R,gD ds R->ds.length=3:=λ_ _ ⟨_,_,_,_,_,_,_,_,_,_,_,e,_⟩=>by rw[e];rfl
def E3(o:Option (Int×Int)):D.im (oD o)=true:=by cases o<;>rfl
def Cm{L:List D}{i:Nat}{d:D}(h:(oC (ns.map D.str) L)[i]?=some d):∃n e,ns[i]?=some n/\L[i]?=some e/\d=.tup [.str n,e]:=by
 unfold oC at h;rw[List.getElem?_zipWith] at h;rw[List.getElem?_map] at h
 cases e1:ns[i]? with
 | none=>rw[e1] at h;cases h
 | some n =>
  rw[e1] at h
  cases e2:L[i]? with
  | none=>rw[e2] at h;cases h
  | some e=>rw[e2] at h;exact⟨n,e,rfl,rfl,(Gc h).symm⟩
def cut1{α:Type}(xs:List α)(h:0<xs.length):cut xs (some 1) none=xs.drop 1:=by
 unfold cut;have e1:HT.sIx xs.length 0 (some 1)=1:=by unfold HT.sIx;simp;omega
 have e2:HT.sIx xs.length xs.length none=xs.length:=rfl
 rw[e1,e2];exact Hg (by rw[Hj];omega)
def cw:aw ["steps","names","point","told","name","sums"] ["steps","names","point"] (ap s_found_back):=by walk_at "sc"
theorem jM(Z:Zz):Z.C 5 "found_back" ["steps","names","point"] (Fh Z.K gD):=by
 refine cq Z.d_found_back cw gO λfa cdv A outer s H E ds R hr h=>?_;have hU:=hr.units;refine⟨_,(ad (vM 3 cw.nd rfl Z.z_dict (ak 2)) (ad (i9 Gh rfl (ma true true rfl Z.z_zip (ac (ak 1) (ac (iI (ak 0) (dh am) iF) ae))) (cj (n:=2) rfl (aB (ar 4 cw.nd) (aB (ar 5 cw.nd) bf))) (af (eR 3 hU (aq (kS Z) (rm hr) rfl (ac (w5 3 (kW Z) (rm hr) rfl (ak 4) (ak 5)) ae)) (ak 4)))) (eJ 3 (af (av (ak 3)))))),?_⟩;obtain⟨nm,rows,B,N0,ns,ks,ps,κ,g,T,L,rfl,F,h4,k20,nd,cov,St0,q⟩:=h;have n4:=F.n4;refine ag λK1 hK1=>?_;walk_at "rd";intro da;rw[hK1];refine ag λK2 hK2=>?_;refine eP λFb N hF hN=>?_;walk_at "rd";simp only[mv];walk_at "rd";rw[cut1 _ (by rw[FR,fN];omega),<- List.map_drop];have zl:(oC (ns.map D.str) (((rX rows ns).drop 1).map (nv nm rows))).length=ns.length:=by
  unfold oC;rw[List.length_zipWith,FR,FR,Hj,fN];omega
 refine⟨λi δ=>∃(ks':List Str) (ps':List (Int×Int)) (x y:Sl),δ=[.dat (.lst ((rX rows ns).map (nv nm rows))),.dat (.lst (ns.map D.str)),.dat (.dct ks (ps.map Ff)),.own da (.dct ks' (ps'.map Ff)),x,y]/\ks'=ks++ns.take i/\fbk nm rows (ns.drop i) ks' ps'=fbk nm rows ns ks ps/\∃κ g T L,St B nm rows (ns.drop i) ks' ps' κ g T L,⟨ks,ps,_,_,rfl,by simp,rfl,κ,g,T,L,St0⟩,?_,?_⟩
 ·rintro i d δ hd ⟨ks',ps',x,y,rfl,rfl,hfb,κ',g',T',L',S'⟩;obtain⟨n,e,hn,he,rfl⟩:=Cm hd;have hil:i<ns.length:=(List.getElem?_eq_some_iff.mp hn).1;rw[List.getElem?_map,List.getElem?_drop,pC ns (1+i) (by omega)] at he;have he:=(Gc he).symm;subst he;have edr:ns.drop i=n::ns.drop (i+1):=by
   rw[Hl hil]
   congr 1
   exact(List.getElem?_eq_some_iff.mp hn).2
  rw[Nat.add_comm 1 i];rw[edr] at hfb S';have nd3:(ks++ns.take i++n::ns.drop (i+1)).Nodup:=by
   rw[<- edr,Il,Hk];exact nd
  have hnk:n∉ks++ns.take i:=λz=>(HK.mp nd3).2.2 n z n (FW ..) rfl
  have hcov:∀k∈nm,k∈ks++ns.take i\/k=n\/k∈ns.drop (i+1):=λk hk=>by
   rcases cov k hk with z | z
   ·exact .inl (FZ _ z)
   ·rw[<- Hk i ns,edr] at z
    rcases F9.mp z with z | z
    ·exact .inl (F5 _ z)
    ·rcases F7.mp z with z | z
     ·exact .inr (.inl z)
     ·exact .inr (.inr z)
  have hkl:(ks++ns.take i).length<=60:=by rw[F1,Gv];omega
  have tk1:ns.take (i+1)=ns.take i++[n]:=aE hn
  simp only[tk1,<- List.append_assoc];generalize ks++ns.take i=k0 at *;generalize ns.drop (i+1)=l at *;obtain⟨S,pf1,pf2,nxt⟩:=S'.step F hnk hkl hcov;rw[hF];show ln _ _ (.tup [.str n,nv nm rows (Fw rows l)]) _ _;walk_at "rd";refine⟨nm,rows,k0,ps',n,Fw rows l,_,κ',g',T',L',rfl,S,?_⟩;refine⟨by simp only[D.im,D.ims,E3];rfl,?_⟩;have hfb':fbk nm rows l (k0++[n]) (ps'++[nmb (FL nm rows k0 ps' n (Fw rows l)).1.1 (FL nm rows k0 ps' n (Fw rows l)).2.1])=fbk nm rows ns ks ps:=hfb;clear hfb;have cg:=S.cg;have hT:=S.hT;generalize FL nm rows k0 ps' n (Fw rows l)=e at *;obtain⟨lo,hi⟩:=e;simp only at pf1 pf2 nxt hfb' ⊢;refine⟨lo.1,hi.1,lo.2,hi.2,rfl,λp hp=>?_,λp hp=>?_,?_⟩
  ·have k:=pf1 p hp
   have k1:=k.bb
   have k2:=k.tb
   exact⟨k.low.ne,by omega,by omega⟩
  ·have k:=pf2 p hp
   have k1:=k.bb
   have k2:=k.tb
   exact⟨k.low.ne,by omega,by omega⟩
  ·generalize nmb lo.1 hi.1=v at *
   have lk:k0.length<9000:=by omega
   refine⟨lk,?_⟩;rw[ik hnk,ip hnk];walk_at "rd";exact⟨ps'++[v],by rw[Gj];rfl,hfb',nxt⟩
 ·rintro δ ⟨ks',ps',x,y,rfl,rfl,hfb,_⟩;rw[zl] at hfb ⊢;rw[List.drop_length] at hfb;rw[Gp,hN,hK2];have hfb:ps'=fbk nm rows ns ks ps:=hfb;rw[hfb];walk_at "rd";exact q
def so0(l:List (Rw×Int)):Bool:=m9 (kOf (FM l)) 0 (bds l)
def FD(nm:List Str)(rows:List Rw)(ns:List Str):D:=match (Fw rows ns).find? (λw=>!so0 (rows.zip w)) with
 | some w=>.tup [.str "weights",.tup (w.map D.int)]
 | none=>.tup [.str "point",.fd ns ((fbk nm rows ns [] []).map Ff)]
def None(rows:List Rw):Prop:=∀x:Str->Rat,∃r∈rows,¬ Fn x r
inductive pW(ds:List D)(R:D->Prop):Prop
 | mk (nm:List Str) (rows:List Rw) (B N:Nat) (ns:List Str) (hh:ds=[.lst (rows.map Fx),.lst (ns.map D.str)]/\Fit nm rows B N/\ns.length<=N/\ns.Nodup/\(∀n∈nm,n∈ns)/\(vj (cb B 6) ns.length 1 1 0=true\/None rows)/\R (FD nm rows ns))
def mO:∀ds R,pW ds R->ds.length=2:=λ_ _ ⟨_,_,_,_,_,e,_⟩=>by rw[e];rfl
def ui(hin:∀n∈nm,n∈ns){w:List Int}(hw:w∈Fw rows ns):(Ft nm rows w).2.1=[]:=by
 cases e:(Ft nm rows w).2.1 with
 | nil=>rfl
 | cons t r =>
  have ht:t∈(Ft nm rows w).2.1:=by rw[e];exact FW ..
  obtain⟨h1,h2,_⟩:=eN ht;exact absurd ((ci hw).2 _ (hin _ h1)) h2
def zL(hin:∀n∈nm,n∈ns){w:List Int}(hw:w∈Fw rows ns):Fx (Ft nm rows w)=(FE.row (kOf (FM (rows.zip w))) [] (bds (rows.zip w))).D:=by
 have e:=ui hin hw
 show eY _ (Ft nm rows w).2.1 _=_
 rw[e];rfl
def BT(hin:∀n∈nm,n∈ns){w:List Int}(hw:w∈Fw rows ns)(x:Str->Rat):so0 (rows.zip w)=true↔Fn x (Ft nm rows w):=by
 have e:=ui hin hw
 unfold Fn so0;rw[e];show _↔(match kOf (FM (rows.zip w)) with | .least=>((bds (rows.zip w):Int):Rat)<=0 | .more=>((bds (rows.zip w):Int):Rat)<0)
 cases FM (rows.zip w)
 ·show decide (bds (rows.zip w)<=0)=true↔_
  rw[HL];exact(Rat.intCast_le_intCast (a:=bds (rows.zip w)) (b:=0)).symm
 ·show decide (bds (rows.zip w)<0)=true↔_
  rw[HL];exact(Hh (a:=bds (rows.zip w)) (b:=0)).symm
def lK{α:Type}{p:α->Bool}{l:List α}{i:Nat}{x:α}(h:l[i]?=some x)(hn:∀y∈l.take i,p y=false)(hp:p x=true):l.find? p=some x:=by
 rw[<- Hk i l,List.find?_append];have e1:(l.take i).find? p=none:=List.find?_eq_none.mpr λy hy=>by rw[hn y hy];decide
 have hi:i<l.length:=(List.getElem?_eq_some_iff.mp h).1
 rw[e1,Hl hi,(List.getElem?_eq_some_iff.mp h).2,List.find?_cons_of_pos hp];rfl
def E8:∀ {k:Nat},k<=4->vj (cb 64 6) k 1 1 0=true
 | 0,_=>by decide
 | 1,_=>by decide
 | 2,_=>by decide
 | 3,_=>by decide
 | 4,_=>by decide
 | k+5,h=>by omega
def xr(H:Fz nm rows)(nd:ns.Nodup)(hin:∀n∈nm,n∈ns)(so:∀w∈Fw rows ns,Fn (Fm [] []) (Ft nm rows w)):∀r∈rows,Fn (Fm ns (fbk nm rows ns [] [])) r:=λr hr=>by
 obtain⟨_,_,_,d⟩:=xI H ns [] [] rfl (λ_ h=>nomatch h) (by simpa using nd) (λn hn=>.inr (hin n hn)) so;rw[List.nil_append] at d;obtain⟨j,hj⟩:=List.getElem?_of_mem hr;have:=d (unW rows.length j) (FV.mpr ⟨j,GW.mpr (List.getElem?_eq_some_iff.mp hj).1,rfl⟩);rw[py H hj] at this;exact this
def St.start{B N:Nat}(F:Fit nm rows B N)(nd:ns.Nodup)(hin:∀n∈nm,n∈ns)(fq:vj (cb B 6) ns.length 1 1 0=true\/None rows)(so:∀w∈Fw rows ns,Fn (Fm [] []) (Ft nm rows w)):St B nm rows ns [] [] 1 1 0 1:=by
 refine⟨⟨rfl,(λ_ h=>nomatch h),(λ_ h=>nomatch h),(λ_ h=>nomatch h)⟩,by show ib 1<=1;decide,by decide,(λ_ h=>nomatch h),by decide,?_,so⟩
 rcases fq with h | h
 ·exact h
 ·obtain⟨r,hr,no⟩:=h (Fm ns (fbk nm rows ns [] []));exact absurd (xr F.H nd hin so r hr) no
def fK:aw ["rows","names","steps","row","weights"] ["rows","names"] (ap s_solved):=by walk_at "sc"
def rH(Z:Zz):Z.C 65 "solved" ["rows","names"] (Fh Z.K pW):=by
 refine cq Z.d_solved fK mO λfa cdv A outer s H E ds R hr h=>?_;have hU:=hr.units;refine⟨_,(ad (ay 2 fK.nd (aq (kX Z) (rm hr) rfl (ac (ak 0) (ac (ak 1) ae)))) (ad (bH Gh rfl (Fl 2) (cj (n:=2) rfl (aB (ar 3 fK.nd) (aB (ar 4 fK.nd) bf))) (af (aR (jA (bQ (aq (ux Z) (rm hr) rfl (ac (ak 3) (ac il ae))))) (af (av (aH (ac au (ac (ak 4) ae))))) aD))) (af (av (aH (ac au (ac (aq (jM Z) (rm hr) rfl (ac (ak 2) (ac (ak 1) (ac il ae)))) ae))))))),?_⟩;obtain⟨nm,rows,B,N0,ns,rfl,F,h4,nd,hin,fq,q⟩:=h;refine ag λK1 hK1=>?_;walk_at "rd";refine⟨nm,rows,B,N0,ns,rfl,F,h4,?_⟩;walk_at "rd";rw[hK1];have e0:(rX rows ns).map (nv nm rows)=nv nm rows (Fw rows ns)::((rX rows ns).drop 1).map (nv nm rows):=by
  cases ns<;>rfl
 refine ag λK2 hK2=>?_;refine bZ λFb N hF hN=>?_;walk_at "rd";simp only[dB];rw[e0];walk_at "rd";rw[<- e0];refine⟨λi δ=>∃x y,δ=[.dat (.lst (rows.map Fx)),.dat (.lst (ns.map D.str)),.dat (.lst ((rX rows ns).map (nv nm rows))),x,y]/\∀w∈(Fw rows ns).take i,so0 (rows.zip w)=true,⟨_,_,rfl,λw hw=>by simp at hw⟩,?_,?_⟩
 ·rintro i d δ hd ⟨x,y,rfl,ho⟩;obtain⟨w,hw,rfl⟩:=pG hd;have hm:=Ge hw;rw[hF];show ln _ _ (.tup [Fx (Ft nm rows w),.tup (w.map D.int)]) _ _;walk_at "rd";have bb:ib (bds (rows.zip w))<=10000:=by
   have h1:=Fz.bdb F.hB (cO F.H F.hB hm)
   have h2:=F.ck h4
   unfold cb at h2;omega
  refine⟨FE.row (kOf (FM (rows.zip w))) [] (bds (rows.zip w)),[],[],[],0,1,?_,by show 1<=60;decide,⟨⟨by simp,(λ_ h=>nomatch h),(λ_ h=>nomatch h)⟩,bb⟩,by decide,(λ_ h=>nomatch h),⟨rfl,(λ_ h=>nomatch h),(λ_ h=>nomatch h),(λ_ h=>nomatch h)⟩,by decide,by show ib 1<=1;decide,by decide,?_⟩
  ·rw[zL hin hm];rfl
  ·have e1:(FE.row (kOf (FM (rows.zip w))) [] (bds (rows.zip w))).tv (pT [] []) (pB [] [])=so0 (rows.zip w):=by
    show m9 _ 0 (bds (rows.zip w)*1)=_
    rw[Int.mul_one];rfl
   rw[e1]
   cases e:so0 (rows.zip w) with
   | false =>
    have:=lK (p:=λw=>!so0 (rows.zip w)) hw (λy hy=>by rw[ho y hy];rfl) (by rw[e];rfl)
    unfold FD at q;rw[this] at q;exact q
   | true =>
    walk_at "rd";rw[aE hw];intro u hu
    rcases F9.mp hu with hu | hu
    ·exact ho u hu
    ·rw[F6.mp hu];exact e
 ·rintro δ ⟨x,y,rfl,ho⟩;rw[FR,Gp] at ho;rw[hN,hK2];have en:(Fw rows ns).find? (λw=>!so0 (rows.zip w))=none:=List.find?_eq_none.mpr λw hw=>by rw[ho w hw];decide
  unfold FD at q;rw[en] at q;walk_at "rd";refine⟨nm,rows,B,N0,ns,[],[],1,1,0,1,rfl,F,h4,by decide,by simpa using nd,λn hn=>.inr (hin n hn),St.start F nd hin fq λw hw=>(BT hin hw _).mp (ho w hw),?_⟩;walk_at "rd";exact q
def xY{ss:List Str}(h1:Srt ss)(n1:ss.Nodup)(h2:nm.Pairwise leS)(n2:nm.Nodup)(h:∀n,n∈ss↔n∈nm):ss=nm:=lF (l6 h1) h2 n1 n2 h
def kh(h1:l.Pairwise leS)(n1:l.Nodup)(h2:nm.Pairwise leS)(n2:nm.Nodup)(h:∀n∈l,n∈nm):l.Sublist nm:=by
 have e:l=nm.filter λn=>decide (n∈l):=lF h1 (h2.filter _) n1 (n2.filter _) λn=>by
  rw[Ga];exact⟨λz=>⟨h n z,by simpa using z⟩,λz=>by simpa using z.2⟩
 rw[e];exact List.filter_sublist
def xp{B N:Nat}(F:Fit nm rows B N):∀(ns ks:List Str) (ps:List (Int×Int)) (κ g T:Nat) (L:Int),St B nm rows ns ks ps κ g T L->(ks++ns).Nodup->(ks++ns).length<=60->(∀n∈nm,n∈ks\/n∈ns) ->
  ∃κ g T L,St B nm rows [] (ks++ns) (fbk nm rows ns ks ps) κ g T L
 | [],ks,ps,κ,g,T,L,S,nd,hl,cov=>by
  rw[GH];exact⟨κ,g,T,L,S⟩
 | n::l,ks,ps,κ,g,T,L,S,nd,hl,cov=>by
  have hnk:n∉ks:=λz=>(HK.mp nd).2.2 n z n (FW ..) rfl
  obtain⟨_,_,_,κ',g',T',L',S'⟩:=S.step F hnk (by rw[F1] at hl;omega) λk hk=>by
   rcases cov k hk with z | z
   ·exact .inl z
   ·exact .inr (F7.mp z)
  have e:ks++n::l=ks++[n]++l:=by simp
  rw[e] at nd hl ⊢;exact xp F l (ks++[n]) _ κ' g' T' L' S' nd hl λk hk=>by
   rcases cov k hk with z | z
   ·exact .inl (FZ _ z)
   ·rcases F7.mp z with z | z
    ·exact .inl (F5 _ (F6.mpr z))
    ·exact .inr z
structure jN(rows:List Rw)(w:List Int):Prop where
 wt:Wt rows.length w
 no:∀n,cfs (rows.zip w) n=0
 bd:0<bds (rows.zip w)\/(bds (rows.zip w)=0/\FM (rows.zip w)=true)
structure Meets(nm:List Str)(rows:List Rw)(ps:List (Int×Int)):Prop where
 P:Pt nm ps 1000000
 κ:ib (Fy (pB nm ps) nm)<=7990
 so:∀r∈rows,Fn (Fm nm ps) r
def Cf{B N:Nat}(F:Fit nm rows B N)(h4:ns.length<=N)(nd:ns.Nodup)(hin:∀n∈nm,n∈ns)(fq:vj (cb B 6) ns.length 1 1 0=true\/None rows) :
  (∃w,FD nm rows ns=.tup [.str "weights",.tup (w.map D.int)]/\jN rows w/\∀a∈w,ib a<=wb B 6 ns.length)\/∃ps,FD nm rows ns=.tup [.str "point",.fd ns (ps.map Ff)]/\Meets ns rows ps:=by
 unfold FD
 cases e:(Fw rows ns).find? (λw=>!so0 (rows.zip w)) with
 | some w =>
  have hw:=List.mem_of_find?_eq_some e
  have hp:(!so0 (rows.zip w))=true:=by have:=List.find?_some e;exact this
  obtain⟨wt,an⟩:=ci hw;refine .inl ⟨w,rfl,⟨wt,λn=>?_,?_⟩,λa ha=>?_⟩
  ·refine F4 λz=>z (an n (hin n (F.H.cfs z)))
  ·unfold so0 at hp
   cases h:FM (rows.zip w)
   ·rw[h] at hp;have:¬ bds (rows.zip w)<=0:=by
     have hp:(!decide (bds (rows.zip w)<=0))=true:=hp
     simpa using hp
    exact .inl (by omega)
   ·rw[h] at hp;have:¬ bds (rows.zip w)<0:=by
     have hp:(!decide (bds (rows.zip w)<0))=true:=hp
     simpa using hp
    by_cases z:bds (rows.zip w)=0
    ·exact .inr ⟨z,rfl⟩
    ·exact .inl (by omega)
  ·exact FX (cO F.H F.hB hw a ha) (wq (F3 B) F.m6 _)
 | none =>
  have all:∀w∈Fw rows ns,so0 (rows.zip w)=true:=λw hw=>by
   have:=List.find?_eq_none.mp e w hw
   simpa using this
  have so:∀w∈Fw rows ns,Fn (Fm [] []) (Ft nm rows w):=λw hw=>(BT hin hw _).mp (all w hw)
  have n4:=F.n4
  obtain⟨κ,g,T,L,S⟩:=xp F ns [] [] 1 1 0 1 (St.start F nd hin fq so) (by simpa using nd) (by simp;omega) (λn hn=>.inr (hin n hn));rw[List.nil_append] at S;have hf:κ<=7990/\T<=1000000:=by
   have:(decide (κ<=7990)&&decide (T<=1000000))=true:=S.fq
   simpa only[Bool.and_eq_true,decide_eq_true_eq] using this
  exact .inr ⟨_,rfl,S.P.mono hf.2,FX S.hκ hf.1,xr F.H nd hin so⟩
def zS{a b c:Rat}(h:0<c):c*a<=c*b↔a<=b :=
 ⟨λz=>Rat.not_lt.mp λy=>absurd (Rat.mul_lt_mul_of_pos_left y h) (Rat.not_lt.mpr z),λz=>Rat.mul_le_mul_of_nonneg_left z (Rat.le_of_lt h)⟩
theorem zx{k:Kd}{b:Int}(h:∀t∈ts,0<pB ks ps t.1):rQ (pT ks ps) (pB ks ps) k ts b=true↔Fn (Fm ks ps) (k,ts,b):=by
 have hK:0<Fy (pB ks ps) (ts.map (·.1)):=ce λn hn=>by
  obtain⟨t,h1,rfl⟩:=FV.mp hn;exact h t h1
 have e:=lN (ks:=ks) (ps:=ps) (K:=Fy (pB ks ps) (ts.map (·.1))) (ts:=ts) λt ht=>⟨h t ht,dg (FV.mpr ⟨t,ht,rfl⟩)⟩
 unfold rQ;generalize Fy (pB ks ps) (ts.map (·.1))=K at *;have k0:=e8 hK;generalize cF (ov (pT ks ps) (pB ks ps) K) ts=S at *;have key:∀x:Rat,(S:Rat)=(K:Rat)*x->(((b:Rat)<=x↔b*K<=S)/\((b:Rat)<x↔b*K<S)):=λx hx=>by
  have e1:((b*K:Int):Rat)=(b:Rat)*(K:Rat):=Gk ..
  constructor
  ·rw[<- Rat.intCast_le_intCast,e1,hx,Rat.mul_comm (b:Rat)];exact(zS k0).symm
  ·rw[<- Hh,e1,hx,Rat.mul_comm (b:Rat)];exact(Rat.mul_lt_mul_left k0).symm
 obtain⟨k1,k2⟩:=key _ e
 cases k with
 | least=>show decide (b*K<=S)=true↔_;rw[HL];exact k1.symm
 | more=>show decide (b*K<S)=true↔_;rw[HL];exact k2.symm
def sH{ns:List Int}{n:Nat}(hb:∀c∈ns,Builtin.Int.intBits c<=n)(k:Int):Builtin.Int.intBits (cW ns k)<=n:=by
 unfold cW;rw[List.getD_eq_getElem?_getD]
 cases e:ns[k.toNat]? with
 | none=>exact FX (by decide:Builtin.Int.intBits 0<=0) (G5 _)
 | some c=>exact hb c (Ge e)
def uV{α β:Type}(f:α->β)(l:List α)(lo hi:Option Int):cut (l.map f) lo hi=(cut l lo hi).map f:=by
 unfold cut;rw[FR,List.map_take,List.map_drop]
def uf{α:Type}{l:List α}{lo hi:Option Int}{x:α}(h:x∈cut l lo hi):x∈l:=List.mem_of_mem_drop (GS h)
def Ak{α:Type}{l:List α}(a b:Nat):(cut l (some (a:Int)) (some (b:Int))).length<=b-a:=by
 unfold cut;rw[Gv,Hj,HT.sIx_nat,HT.sIx_nat];omega
def FE.kr:FE->List (List Rw)
 | .row k ts b=>[[(k,ts,b)]]
 | .nt _=>[]
 | .bo s t=>s.kr.flatMap λc=>t.kr.map λd=>c++d
 | .ei s t=>s.kr++t.kr
def nX(r:Rw):FE:=.row r.1 r.2.1 r.2.2
def FE.cs_kr:∀ {s:FE},s.cs=s.kr.map λc=>c.map nX
 | .row _ _ _=>rfl
 | .nt _=>rfl
 | .bo s t=>by
  show (s.cs.flatMap λc=>t.cs.map λd=>c++d)=(s.kr.flatMap λc=>t.kr.map λd=>c++d).map _
  rw[FE.cs_kr (s:=s),FE.cs_kr (s:=t),List.flatMap_map,List.map_flatMap]
  congr 1
  funext c
  rw[GG,GG]
  congr 1
  funext d
  show _=List.map nX (c++d)
  rw[Gj];rfl
 | .ei s t=>by
  show s.cs++t.cs=(s.kr++t.kr).map _
  rw[FE.cs_kr (s:=s),FE.cs_kr (s:=t),Gj]
def krD(K:List (List Rw)):D:=.lst (K.map λc=>.lst (c.map Fx))
def uq{s:FE}:csD s.cs=krD s.kr:=by
 unfold csD krD dr;rw[FE.cs_kr,GG]
 congr 2
 funext c
 show DL.D.lst ((c.map nX).map FE.D)=_
 rw[GG];rfl
def FE.kr_num{s:FE}(h:s.pn=true):s.kr.length=s.num:=by rw[<- FE.cs_num h,FE.cs_kr,FR]
def FE.kr_long{s:FE}(h:s.pn=true)(hc:c∈s.kr):c.length<=s.long:=by
 have:=FE.cs_long h (c.map nX) (by rw[FE.cs_kr];exact FV.mpr ⟨c,hc,rfl⟩)
 rwa [FR] at this
def FE.bt(B:Nat):FE->Prop
 | .row _ ts b=>(∀t∈ts,ib t.2<=B)/\ib b<=B
 | .nt s=>s.bt B
 | .bo s t=>s.bt B/\t.bt B
 | .ei s t=>s.bt B/\t.bt B
def FE.pl_bt{B:Nat}:∀ {s:FE} {t:Bool},s.bt B->(s.pl t).bt B
 | .row k ts b,true,h=>⟨λt ht=>by
   obtain⟨u,hu,rfl⟩:=FV.mp ht
   exact HN (h.1 u hu),HN h.2⟩
 | .row k ts b,false,h=>h
 | .nt s,t,h=>FE.pl_bt (s:=s) h
 | .bo s u,true,h=>⟨FE.pl_bt h.1,FE.pl_bt h.2⟩
 | .bo s u,false,h=>⟨FE.pl_bt h.1,FE.pl_bt h.2⟩
 | .ei s u,true,h=>⟨FE.pl_bt h.1,FE.pl_bt h.2⟩
 | .ei s u,false,h=>⟨FE.pl_bt h.1,FE.pl_bt h.2⟩
def FE.kr_row{B:Nat}:∀ {s:FE},s.ok names->s.bt B->∀c∈s.kr,∀r∈c,jR names r.2.1/\(∀t∈r.2.1,ib t.2<=B)/\ib r.2.2<=B/\∀n∈r.2.1.map (·.1),n∈s.nms
 | .row k ts b,o,h,c,hc,r,hr=>by
  rw[F6.mp hc] at hr;rw[F6.mp hr];exact⟨o.1,h.1,h.2,λn hn=>hn⟩
 | .bo s t,o,h,c,hc,r,hr=>by
  obtain⟨x,hx,hy⟩:=Ha.mp hc;obtain⟨y,hz,rfl⟩:=FV.mp hy
  rcases F9.mp hr with hr | hr
  ·obtain⟨a,b,d,e⟩:=FE.kr_row o.1 h.1 x hx r hr;exact⟨a,b,d,λn hn=>FZ _ (e n hn)⟩
  ·obtain⟨a,b,d,e⟩:=FE.kr_row o.2 h.2 y hz r hr;exact⟨a,b,d,λn hn=>F5 _ (e n hn)⟩
 | .ei s t,o,h,c,hc,r,hr=>by
  rcases F9.mp hc with hc | hc
  ·obtain⟨a,b,d,e⟩:=FE.kr_row o.1 h.1 c hc r hr;exact⟨a,b,d,λn hn=>FZ _ (e n hn)⟩
  ·obtain⟨a,b,d,e⟩:=FE.kr_row o.2 h.2 c hc r hr;exact⟨a,b,d,λn hn=>F5 _ (e n hn)⟩
def FE.sx(x:Str->Rat):FE->Prop
 | .row k ts b=>Fn x (k,ts,b)
 | .nt s=>¬ s.sx x
 | .bo s t=>s.sx x/\t.sx x
 | .ei s t=>s.sx x\/t.sx x
def qp:∀ {ts:List (Str×Int)},cT x (tH ts)=-cT x ts
 | []=>by show (0:Rat)=-0;grind
 | t::ts=>by
  show ((-t.2:Int):Rat)*x t.1+cT x (tH ts)=-((t.2:Rat)*x t.1+cT x ts)
  rw[qp,IK];grind
def A9{k:Kd}{b:Int}:Fn x (k.op,tH ts,-b)↔¬ Fn x (k,ts,b):=by
 have e:=qp (x:=x) (ts:=ts)
 cases k with
 | least =>
  show (((-b:Int):Rat)<cT x (tH ts))↔¬ ((b:Rat)<=cT x ts)
  rw[e,IK];grind
 | more =>
  show (((-b:Int):Rat)<=cT x (tH ts))↔¬ ((b:Rat)<cT x ts)
  rw[e,IK];grind
def FE.pl_sx:∀ {s:FE} {t:Bool},(s.pl t).sx x↔(if t=true then ¬ s.sx x else s.sx x)
 | .row k ts b,true=>by rw[Gd rfl];exact A9
 | .row k ts b,false=>Iff.rfl
 | .nt s,true=>by show (s.pl false).sx x↔_;rw[FE.pl_sx,Gd rfl];show (if false=true then _ else s.sx x)↔¬ ¬ s.sx x;simp
 | .nt s,false=>by show (s.pl true).sx x↔_;rw[FE.pl_sx];simp[FE.sx]
 | .bo s u,true=>by show ((s.pl true).sx x\/(u.pl true).sx x)↔_;rw[FE.pl_sx,FE.pl_sx];simp only[if_true,FE.sx];exact Classical.not_and_iff_not_or_not.symm
 | .bo s u,false=>by show ((s.pl false).sx x/\(u.pl false).sx x)↔_;rw[FE.pl_sx,FE.pl_sx];simp[FE.sx]
 | .ei s u,true=>by show ((s.pl true).sx x/\(u.pl true).sx x)↔_;rw[FE.pl_sx,FE.pl_sx];simp[FE.sx]
 | .ei s u,false=>by show ((s.pl false).sx x\/(u.pl false).sx x)↔_;rw[FE.pl_sx,FE.pl_sx];simp[FE.sx]
def FE.kr_sx:∀ {s:FE},s.pn=true->(s.sx x↔∃c∈s.kr,∀r∈c,Fn x r)
 | .row k ts b,_=>by
  constructor
  ·exact λh=>⟨[(k,ts,b)],F6.mpr rfl,λr hr=>by rw[F6.mp hr];exact h⟩
  ·rintro⟨c,hc,h⟩;rw[F6.mp hc] at h;exact h _ (F6.mpr rfl)
 | .bo s t,h=>by
  obtain⟨h1,h2⟩:=Gq.mp h;show (s.sx x/\t.sx x)↔_;rw[FE.kr_sx h1,FE.kr_sx h2]
  constructor
  ·rintro⟨⟨c,hc,a⟩,d,hd,b⟩;refine⟨c++d,Ha.mpr ⟨c,hc,FV.mpr ⟨d,hd,rfl⟩⟩,λr hr=>?_⟩
   rcases F9.mp hr with hr | hr
   ·exact a r hr
   ·exact b r hr
  ·rintro⟨e,he,a⟩;obtain⟨c,hc,hy⟩:=Ha.mp he;obtain⟨d,hd,rfl⟩:=FV.mp hy;exact⟨⟨c,hc,λr hr=>a r (FZ _ hr)⟩,d,hd,λr hr=>a r (F5 _ hr)⟩
 | .ei s t,h=>by
  obtain⟨h1,h2⟩:=Gq.mp h;show (s.sx x\/t.sx x)↔_;rw[FE.kr_sx h1,FE.kr_sx h2]
  constructor
  ·rintro(⟨c,hc,a⟩ | ⟨c,hc,a⟩)
   ·exact⟨c,FZ _ hc,a⟩
   ·exact⟨c,F5 _ hc,a⟩
  ·rintro⟨c,hc,a⟩
   rcases F9.mp hc with hc | hc
   ·exact .inl ⟨c,hc,a⟩
   ·exact .inr ⟨c,hc,a⟩
def FE.tv_sx:∀ {s:FE},(∀n∈s.nms,0<pB ks ps n)->(s.tv (pT ks ps) (pB ks ps)=true↔s.sx (Fm ks ps))
 | .row k ts b,h=>zx λt ht=>h _ (FV.mpr ⟨t,ht,rfl⟩)
 | .nt s,h=>by show (!s.tv _ _)=true↔¬ s.sx _;rw[<- FE.tv_sx (s:=s) h];simp
 | .bo s t,h=>by show (s.tv _ _&&t.tv _ _)=true↔_;rw[Gq,FE.tv_sx (s:=s) λn hn=>h n (FZ _ hn),FE.tv_sx (s:=t) λn hn=>h n (F5 _ hn)];rfl
 | .ei s t,h=>by show (s.tv _ _||t.tv _ _)=true↔_;rw[Bool.or_eq_true_iff,FE.tv_sx (s:=s) λn hn=>h n (FZ _ hn),FE.tv_sx (s:=t) λn hn=>h n (F5 _ hn)];rfl
def jl:∀ {w v:List Int},v.map D.int=w.map D.int->v=w
 | [],[],_=>rfl
 | [],_::_,h=>by cases h
 | _::_,[],h=>by cases h
 | a::w,b::v,h=>by
  simp only[List.map_cons,List.cons.injEq,D.int.injEq] at h;rw[h.1,jl h.2]
def qu{x:Str->Rat}:∀ {l:List (Rw×Int)},(∀p∈l,Fn x p.1/\0<=p.2)->0<=FP x l/\(FM l=true->0<FP x l)
 | [],_=>⟨by show (0:Rat)<=0;grind,λh=>by cases h⟩
 | (⟨k,ts,b⟩,c)::r,h=>by
  obtain⟨i1,i2⟩:=qu (x:=x) (l:=r) λq hq=>h q (FU _ hq);obtain⟨h1,h2⟩:=h _ (FW ..);have h2:(0:Rat)<=((c:Int):Rat):=Rat.intCast_nonneg.mpr h2;have e:FP x ((⟨k,ts,b⟩,c)::r)=((c:Int):Rat)*(cT x ts-((b:Int):Rat))+FP x r:=rfl;have s:FM ((⟨k,ts,b⟩,c)::r)=((isM k&&decide (0<c))||FM r):=by rw[<- uH (p:=(⟨k,ts,b⟩,c)),<- oE];rfl
  have ge:((b:Int):Rat)<=cT x ts:=by
   cases k with
   | least=>exact h1
   | more=>exact Rat.le_of_lt h1
  have m1:0<=((c:Int):Rat)*(cT x ts-((b:Int):Rat)):=GF h2 (by grind)
  rw[e,s];refine⟨by grind,λhs=>?_⟩
  rcases Bool.or_eq_true_iff.mp hs with z | z
  ·obtain⟨z1,z2⟩:=Gq.mp z;have c0:=e8 (Ip z2)
   cases k with
   | least=>cases z1
   | more =>
    have h1:((b:Int):Rat)<cT x ts:=h1
    have:=G4 c0 (show 0<cT x ts-((b:Int):Rat) by grind)
    grind
  ·have:=i2 z
   grind
def re{w:List Int}(H:Fz nm rows)(S:jN rows w)(h:∀r∈rows,Fn x r):False:=by
 have e:=mH (x:=x) H.nd (l:=rows.zip w) λp hp=>H.sub _ (Gr hp).1
 rw[cV λn _=>S.no n] at e;obtain⟨i1,i2⟩:=qu (x:=x) (l:=rows.zip w) λp hp=>⟨h _ (Gr hp).1,S.wt.nn _ (Gr hp).2⟩
 rcases S.bd with z | ⟨z,z2⟩
 ·have:=e8 z
  grind
 ·have:=i2 z2
  rw[e,z] at this;have:(0:Rat)<0-((0:Int):Rat):=this;rw[show ((0:Int):Rat)=0 from rfl] at this
  grind
def nk:D->Bool
 | .tup [.str w,_]=>decide (w="point")
 | _=>false
def Ah:D->D
 | .tup [_,d]=>d
 | d=>d
def prs(A B:List (List Rw)):List (List Rw):=A.flatMap λc=>B.map λd=>c++d
def bth(nm:List Str)(A B:List (List Rw)):D:=match (prs A B).find? (λrows=>nk (FD nm rows nm)) with
 | some rows=>FD nm rows nm
 | none=>.tup [.str "paper",.tup (A.map λc=>.tup (B.map λd=>Ah (FD nm (c++d) nm)))]
structure Two(a b:FE)(nm:List Str)(B N:Nat):Prop where
 da:a.dep<=50
 db:b.dep<=50
 oa:a.ok nm
 ob:b.ok nm
 ta:a.bt B
 tb:b.bt B
 na:(a.pl false).num<=4/\(a.pl false).long<=3
 nb:(b.pl false).num<=4/\(b.pl false).long<=3
 pw:nm.Pairwise leS
 nd:nm.Nodup
 mem:∀n,n∈nm↔n∈a.nms\/n∈b.nms
 len:nm.length<=N
 n4:N<=4
 wN:wb B 6 (N+1)<=7990
 fq:vj (cb B 6) nm.length 1 1 0=true\/∀x,¬ (a.sx x/\b.sx x)
def wv(pw:nm.Pairwise leS)(nd:nm.Nodup)(h:jR nm ts):eL (cf ts) ts:=by
 have n1:=nd.sublist h.sub
 exact⟨pw.sublist h.sub,n1,λt ht=>⟨(lT n1 ht).symm,h.nz t ht⟩,λn hn=>F4 λz=>hn (jy z)⟩
def Two.row{a b:FE}{B N:Nat}(T:Two a b nm B N)(hc:c∈(a.pl false).kr)(hd:d∈(b.pl false).kr):∀r∈c++d,jR nm r.2.1/\(∀t∈r.2.1,ib t.2<=B)/\ib r.2.2<=B:=λr hr=>by
 rcases F9.mp hr with hr | hr
 ·obtain⟨h1,h2,h3,_⟩:=FE.kr_row (FE.pl_ok T.oa) (FE.pl_bt T.ta) c hc r hr;exact⟨h1,h2,h3⟩
 ·obtain⟨h1,h2,h3,_⟩:=FE.kr_row (FE.pl_ok T.ob) (FE.pl_bt T.tb) d hd r hr;exact⟨h1,h2,h3⟩
def Two.lens{a b:FE}{B N:Nat}(T:Two a b nm B N)(hc:c∈(a.pl false).kr)(hd:d∈(b.pl false).kr):c.length<=3/\d.length<=3:=by
 have h1:=FE.kr_long FE.pl_pn hc
 have h2:=FE.kr_long FE.pl_pn hd
 have:=T.na.2
 have:=T.nb.2
 exact⟨by omega,by omega⟩
def Two.fit{a b:FE}{B N:Nat}(T:Two a b nm B N)(hc:c∈(a.pl false).kr)(hd:d∈(b.pl false).kr):Fit nm (c++d) B N/\(vj (cb B 6) nm.length 1 1 0=true\/None (c++d)):=by
 have hr:=T.row hc hd
 obtain⟨l1,l2⟩:=T.lens hc hd;have:=T.len;have:=T.n4;refine⟨⟨⟨T.pw,T.nd,λr h=>wv T.pw T.nd (hr r h).1,λr h t ht=>(hr r h).1.sub.subset (FV.mpr ⟨t,ht,rfl⟩)⟩,⟨λr h=>(hr r h).2.1,λr h=>(hr r h).2.2⟩,by rw[F1];omega,by omega,T.n4,T.wN⟩,?_⟩
 rcases T.fq with h | h
 ·exact .inl h
 ·refine .inr λx=>F4 λz=>h x ?_;have all:∀r∈c++d,Fn x r:=λr hr=>F4 λy=>z ⟨r,hr,y⟩;have e1:(a.pl false).sx x:=(FE.kr_sx FE.pl_pn).mpr ⟨c,hc,λr hr=>all r (FZ _ hr)⟩;have e2:(b.pl false).sx x:=(FE.kr_sx FE.pl_pn).mpr ⟨d,hd,λr hr=>all r (F5 _ hr)⟩;rw[FE.pl_sx] at e1 e2;exact⟨by simpa using e1,by simpa using e2⟩
def Two.or{a b:FE}{B N:Nat}(T:Two a b nm B N)(hc:c∈(a.pl false).kr)(hd:d∈(b.pl false).kr) :
  (∃w,FD nm (c++d) nm=.tup [.str "weights",.tup (w.map D.int)]/\jN (c++d) w/\∀z∈w,ib z<=wb B 6 nm.length)\/∃ps,FD nm (c++d) nm=.tup [.str "point",.fd nm (ps.map Ff)]/\Meets nm (c++d) ps :=
 Cf (T.fit hc hd).1 T.len T.nd (λ_ h=>h) (T.fit hc hd).2
def kZ{r:List Rw}:r∈prs A B↔∃c∈A,∃d∈B,r=c++d:=by
 unfold prs;rw[Ha]
 constructor
 ·rintro⟨c,hc,h⟩;obtain⟨d,hd,rfl⟩:=FV.mp h;exact⟨c,hc,d,hd,rfl⟩
 ·rintro⟨c,hc,d,hd,rfl⟩;exact⟨c,hc,FV.mpr ⟨d,hd,rfl⟩⟩
def wOf(nm:List Str)(rows:List Rw):List Int:=match (Fw rows nm).find? (λw=>!so0 (rows.zip w)) with
 | some w=>w
 | none=>[]
def pS{a b:FE}{B N:Nat}(T:Two a b nm B N) :
  (∃ps,bth nm (a.pl false).kr (b.pl false).kr=.tup [.str "point",.fd nm (ps.map Ff)]/\Pt nm ps 1000000/\ib (Fy (pB nm ps) nm)<=7990/\a.sx (Fm nm ps)/\b.sx (Fm nm ps)) \/
  (bth nm (a.pl false).kr (b.pl false).kr=.tup [.str "paper",.tup ((a.pl false).kr.map λc=>.tup ((b.pl false).kr.map λd=>.tup ((wOf nm (c++d)).map D.int)))]/\(∀x,¬ (a.sx x/\b.sx x))/\∀c∈(a.pl false).kr,∀d∈(b.pl false).kr,jN (c++d) (wOf nm (c++d))/\∀z∈wOf nm (c++d),ib z<=wb B 6 nm.length):=by
 unfold bth
 cases e:(prs (a.pl false).kr (b.pl false).kr).find? (λrows=>nk (FD nm rows nm)) with
 | some rows =>
  have hm:=List.mem_of_find?_eq_some e
  have hp:nk (FD nm rows nm)=true:=by have:=List.find?_some e;exact this
  obtain⟨c,hc,d,hd,rfl⟩:=kZ.mp hm
  rcases T.or hc hd with⟨w,ew,_⟩ | ⟨ps,ep,M⟩
  ·rw[ew] at hp;exact absurd hp (by show ¬ decide (("weights":Str)="point")=true;decide)
  ·refine .inl ⟨ps,ep,M.P,M.κ,?_,?_⟩
   ·have:(a.pl false).sx (Fm nm ps):=(FE.kr_sx FE.pl_pn).mpr ⟨c,hc,λr hr=>M.so r (FZ _ hr)⟩
    rw[FE.pl_sx] at this;simpa using this
   ·have:(b.pl false).sx (Fm nm ps):=(FE.kr_sx FE.pl_pn).mpr ⟨d,hd,λr hr=>M.so r (F5 _ hr)⟩
    rw[FE.pl_sx] at this;simpa using this
 | none =>
  have hn:=List.find?_eq_none.mp e
  have all:∀c∈(a.pl false).kr,∀d∈(b.pl false).kr,FD nm (c++d) nm=.tup [.str "weights",.tup ((wOf nm (c++d)).map D.int)]/\jN (c++d) (wOf nm (c++d))/\∀z∈wOf nm (c++d),ib z<=wb B 6 nm.length:=λc hc d hd=>by
   rcases T.or hc hd with⟨w,ew,sw,bw⟩ | ⟨ps,ep,M⟩
   ·have:wOf nm (c++d)=w:=by
     unfold FD at ew;unfold wOf
     cases e2:(Fw (c++d) nm).find? (λw=>!so0 ((c++d).zip w)) with
     | none=>rw[e2] at ew;cases ew
     | some v =>
      rw[e2] at ew;simp only[D.tup.injEq,List.cons.injEq,and_true,true_and] at ew;exact jl ew
    rw[this];exact⟨ew,sw,bw⟩
   ·refine absurd ?_ (hn (c++d) (kZ.mpr ⟨c,hc,d,hd,rfl⟩));rw[ep];rfl
  refine .inr ⟨?_,λx hx=>?_,λc hc d hd=>(all c hc d hd).2⟩
  ·simp only
   congr 4
   refine HR λc hc=>?_
   congr 1
   refine HR λd hd=>?_;rw[(all c hc d hd).1];rfl
  ·have e1:(a.pl false).sx x:=by rw[FE.pl_sx];simpa using hx.1
   have e2:(b.pl false).sx x:=by rw[FE.pl_sx];simpa using hx.2
   obtain⟨c,hc,a1⟩:=(FE.kr_sx FE.pl_pn).mp e1;obtain⟨d,hd,a2⟩:=(FE.kr_sx FE.pl_pn).mp e2;exact re (T.fit hc hd).1.H (all c hc d hd).2.1 λr hr=>(F9.mp hr).elim (a1 r) (a2 r)
def vq{i j:Nat}(hc:A[i]?=some c)(hd:B[j]?=some d)(h1:∀c∈A.take i,∀d∈B,nk (FD nm (c++d) nm)=false)(h2:∀d∈B.take j,nk (FD nm (c++d) nm)=false)(hp:nk (FD nm (c++d) nm)=true):bth nm A B=FD nm (c++d) nm:=by
 have e:(prs A B).find? (λrows=>nk (FD nm rows nm))=some (c++d):=by
  have e1:prs A B=prs (A.take i) B++((B.map λd=>c++d)++prs (A.drop (i+1)) B):=by
   obtain⟨hi,e2⟩:=List.getElem?_eq_some_iff.mp hc
   conv=>lhs;rw[<- Hk i A,Hl hi,e2]
   unfold prs;rw[HU,List.flatMap_cons]
  have n1:(prs (A.take i) B).find? (λrows=>nk (FD nm rows nm))=none:=List.find?_eq_none.mpr λr hr=>by
   obtain⟨c',hc',d',hd',rfl⟩:=kZ.mp hr;rw[h1 c' hc' d' hd'];decide
  have n2:(B.map λd=>c++d).find? (λrows=>nk (FD nm rows nm))=some (c++d):=lK (i:=j) (by rw[List.getElem?_map,hd];rfl) (λy hy=>by
   rw[<- List.map_take] at hy;obtain⟨d',hd',rfl⟩:=FV.mp hy
   exact h2 d' hd') hp
  rw[e1,List.find?_append,n1,List.find?_append,n2];rfl
 unfold bth;rw[e]
def v4(h1:∀c∈A,∀d∈B,nk (FD nm (c++d) nm)=false):bth nm A B=.tup [.str "paper",.tup (A.map λc=>.tup (B.map λd=>Ah (FD nm (c++d) nm)))]:=by
 have e:(prs A B).find? (λrows=>nk (FD nm rows nm))=none:=List.find?_eq_none.mpr λr hr=>by
  obtain⟨c',hc',d',hd',rfl⟩:=kZ.mp hr;rw[h1 c' hc' d' hd'];decide
 unfold bth;rw[e]
def xo{K:List (List Rw)}{i:Nat}{d:D}(h:(K.map λc=>D.lst (c.map Fx))[i]?=some d):∃c,K[i]?=some c/\d=.lst (c.map Fx):=by
 rw[List.getElem?_map] at h
 cases e:K[i]? with
 | none=>rw[e] at h;cases h
 | some n=>rw[e] at h;exact⟨n,rfl,(Gc h).symm⟩
inductive mq(ds:List D)(R:D->Prop):Prop
 | mk (a b:FE) (nm:List Str) (B N:Nat) (hh:ds=[a.D,b.D]/\Two a b nm B N/\R (bth nm (a.pl false).kr (b.pl false).kr))
def lC:∀ds R,mq ds R->ds.length=2:=λ_ _ ⟨_,_,_,_,_,e,_⟩=>by rw[e];rfl
def bx:aw ["one","other","firsts","seconds","names","paper","first","line","second","answer"] ["one","other"] (ap s_both_so):=by walk_at "sc"
theorem cA(Z:Zz):Z.C 66 "both_so" ["one","other"] (Fh Z.K mq):=by
 refine cq Z.d_both_so bx lC λfa cdv A outer s H E ds R hr h=>?_;have hU:=hr.units;refine⟨_,(ad (ay 2 bx.nd (aq (jx Z) (rm hr) rfl (ac (ak 0) ae))) (ad (ay 3 bx.nd (aq (jx Z) (rm hr) rfl (ac (ak 1) ae))) (ad (ay 4 bx.nd (aq (gx Z) (rm hr) rfl (ac (aH (ac au (ac (ak 0) (ac (ak 1) ae)))) ae))) (ad (cE 5 bx.nd ae) (ad (bH Gh rfl (ak 2) (ar 6 bx.nd) (ad (cE 7 bx.nd ae) (ad (bH Gh rfl (ak 3) (ar 8 bx.nd) (ad (ay 9 bx.nd (aq (rH Z) (rm hr) rfl (ac (ax aP (ak 6) (ak 8)) (ac (ak 4) ae)))) (ad (aR (aC (dw hU) (Fl 9) au (aA _)) (af (av (ak 9))) aD) (af (aQ 7 (Fl 9)))))) (af (aQ 5 (jD 7 rfl Z.z_tuple cD)))))) (af (av (aH (ac au (ac (jD 5 rfl Z.z_tuple cD) ae)))))))))),?_⟩;obtain⟨a,b,nm,B,N0,rfl,T,q⟩:=h;have n4:=T.n4;have nl:=T.len;refine ag λK1 hK1=>?_;walk_at "rd";refine⟨a,nm,rfl,by have:=T.da;omega,T.oa,by omega,T.na.1,T.na.2,?_⟩;walk_at "rd";rw[uq,hK1];refine ag λK2 hK2=>?_;walk_at "rd";refine⟨b,nm,rfl,by have:=T.db;omega,T.ob,by omega,T.nb.1,T.nb.2,?_⟩;walk_at "rd";rw[uq,hK2];refine ag λK3 hK3=>?_;walk_at "rd";refine⟨nm,.bo a b,rfl,by have:=T.da;have:=T.db;show max _ _+1<=60;omega,⟨T.oa,T.ob⟩,by omega,λss nds hms hs=>?_⟩;have es:=xY hs nds T.pw T.nd λn=>by rw[hms n,T.mem n];exact F9
 subst es;walk_at "rd";rw[hK3];refine ag λK4 hK4=>?_;walk_at "rd";intro pa;rw[hK4];have na:=T.na;have nb:=T.nb;have kA:(a.pl false).kr.length<=4:=by rw[FE.kr_num FE.pl_pn];omega
 have kB:(b.pl false).kr.length<=4:=by rw[FE.kr_num FE.pl_pn];omega
 have or:=λ{c d} hc hd=>T.or (c:=c) (d:=d) hc hd
 have fit:=λ{c d} hc hd=>T.fit (c:=c) (d:=d) hc hd
 have lens:=λ{c d} hc hd=>T.lens (c:=c) (d:=d) hc hd
 generalize (a.pl false).kr=A at *
 generalize (b.pl false).kr=Bk at *
 refine ag λK5 hK5=>?_;refine bZ λF N hF hN=>?_;unfold krD;walk_at "rd";simp only[dB];walk_at "rd";refine⟨λi δ=>∃x y z u,δ=[.dat a.D,.dat b.D,.dat (.lst (A.map λc=>.lst (c.map Fx))),.dat (.lst (Bk.map λc=>.lst (c.map Fx))),.dat (.lst (ss.map D.str)),.own pa (.lst ((A.take i).map λc=>.tup (Bk.map λd=>Ah (FD ss (c++d) ss)))),x,y,z,u]/\∀c∈A.take i,∀d∈Bk,nk (FD ss (c++d) ss)=false,⟨_,_,_,_,rfl,λc hc=>by simp at hc⟩,?_,?_⟩
 ·rintro i d δ hd ⟨x,y,z,u,rfl,no⟩;obtain⟨c,hc,rfl⟩:=xo hd;have hcm:=Ge hc;have hil:=(List.getElem?_eq_some_iff.mp hc).1;rw[hF];show dL _ _ _ _;refine b6 λK6 hK6=>?_;walk_at "rd";intro la;rw[hK6];refine ag λK7 hK7=>?_;refine bZ λF2 N2 hF2 hN2=>?_;walk_at "rd";simp only[dB];walk_at "rd";refine⟨λj δ=>∃z u,δ=[.dat a.D,.dat b.D,.dat (.lst (A.map λc=>.lst (c.map Fx))),.dat (.lst (Bk.map λc=>.lst (c.map Fx))),.dat (.lst (ss.map D.str)),.own pa (.lst ((A.take i).map λc=>.tup (Bk.map λd=>Ah (FD ss (c++d) ss)))),.dat (.lst (c.map Fx)),.own la (.lst ((Bk.take j).map λd=>Ah (FD ss (c++d) ss))),z,u]/\∀d∈Bk.take j,nk (FD ss (c++d) ss)=false,⟨_,_,rfl,λc hc=>by simp at hc⟩,?_,?_⟩
  ·rintro j e δ he ⟨z,u,rfl,no2⟩;obtain⟨d,hd,rfl⟩:=xo he;have hdm:=Ge hd;have hjl:=(List.getElem?_eq_some_iff.mp hd).1;obtain⟨l1,l2⟩:=lens hcm hdm;obtain⟨ft,fq⟩:=fit hcm hdm;rw[hF2];show dL _ _ _ _;refine b6 λK8 hK8=>?_;walk_at "rd";rw[<- Gj];refine⟨by simp only[List.length_map];omega,ss,c++d,B,N0,ss,rfl,ft,nl,T.nd,λ_ h=>h,fq,?_⟩;rw[hK8];have pf:=λhp=>vq (nm:=ss) hc hd no no2 hp
   rcases or hcm hdm with⟨w,ew,_,_⟩ | ⟨ps,ep,M⟩
   ·have n1:nk (FD ss (c++d) ss)=false:=by rw[ew];show decide (("weights":Str)="point")=false;decide
    have e1:(Bk.take (j+1)).map (λd=>Ah (FD ss (c++d) ss))=(Bk.take j).map (λd=>Ah (FD ss (c++d) ss))++[.tup (w.map D.int)]:=by
     rw[aE hd,Gj,List.map_singleton,ew];rfl
    simp only[e1];rw[ew];walk_at "rd";refine FK (by decide) ⟨by rw[FR,Gv];omega,λd' hd'=>?_⟩;rw[aE hd] at hd'
    rcases F9.mp hd' with z | z
    ·exact no2 d' z
    ·rw[F6.mp z];exact n1
   ·have p1:nk (FD ss (c++d) ss)=true:=by rw[ep];rfl
    rw[pf p1] at q;rw[ep] at q ⊢;walk_at "rd";exact q
  ·rintro δ ⟨z,u,rfl,no2⟩;rw[FR,Gp] at no2 ⊢;rw[hN2,hK7];walk_at "rd";refine⟨by rw[FR,Gv];omega,by rw[aE hc,Gj];rfl,λc' hc' d' hd'=>?_⟩;rw[aE hc] at hc'
   rcases F9.mp hc' with z | z
   ·exact no c' z d' hd'
   ·rw[F6.mp z];exact no2 d' hd'
 ·rintro δ ⟨x,y,z,u,rfl,no⟩;rw[FR,Gp] at no ⊢;rw[v4 no] at q;rw[hN,hK5];walk_at "rd";exact q
def mdR(nm:List Str)(c d:List Rw):Rw:=Ft nm c ((wOf nm (c++d)).take c.length)
def join(f:FE->FE->FE):List FE->FE
 | []=>.row .least [] 0
 | s::l=>l.foldl f s
def mdC(nm:List Str)(c:List Rw)(B:List (List Rw)):FE:=join .bo (B.map λd=>nX (mdR nm c d))
def mdl(nm:List Str)(A B:List (List Rw)):FE:=join .ei (A.map λc=>mdC nm c B)
def tT:∀(l:List FE) (s:FE),(l.foldl FE.bo s).sx x↔s.sx x/\∀t∈l,t.sx x
 | [],s=>by simp
 | t::l,s=>by
  show (l.foldl FE.bo (.bo s t)).sx x↔_
  rw[tT l (.bo s t)];show ((s.sx x/\t.sx x)/\_)↔_;simp only[List.mem_cons,forall_eq_or_imp,and_assoc]
def tO:∀(l:List FE) (s:FE),(l.foldl FE.ei s).sx x↔s.sx x\/∃t∈l,t.sx x
 | [],s=>by simp
 | t::l,s=>by
  show (l.foldl FE.ei (.ei s t)).sx x↔_
  rw[tO l (.ei s t)];show ((s.sx x\/t.sx x)\/_)↔_;simp only[List.mem_cons,exists_eq_or_imp,or_assoc]
def A7{l:List FE}(h:l≠[]):(join .bo l).sx x↔∀t∈l,t.sx x:=by
 cases l with
 | nil=>exact absurd rfl h
 | cons s l=>show (l.foldl FE.bo s).sx x↔_;rw[tT];simp only[List.mem_cons,forall_eq_or_imp]
def AJ{l:List FE}(h:l≠[]):(join .ei l).sx x↔∃t∈l,t.sx x:=by
 cases l with
 | nil=>exact absurd rfl h
 | cons s l=>show (l.foldl FE.ei s).sx x↔_;rw[tO];simp only[List.mem_cons,exists_eq_or_imp]
def uX{w:List Int}(h:w.length=(c++d).length):(c++d).zip w=c.zip (w.take c.length)++d.zip (w.drop c.length):=by
 have hl:c.length=(w.take c.length).length:=by rw[Gv];rw[F1] at h;omega
 conv=>lhs;rw[<- Hk c.length w]
 exact List.zip_append hl
def t6:∀ {a b:List (Rw×Int)},FP x (a++b)=FP x a+FP x b
 | [],b=>by show FP x b=0+FP x b;grind
 | p::a,b=>by
  show (p.2:Rat)*_+FP x (a++b)=((p.2:Rat)*_+FP x a)+FP x b
  rw[t6];grind
theorem x8{w:List Int}(H:Fz nm (c++d))(S:jN (c++d) w) :
  ((∀r∈c,Fn x r)->Fn x (Ft nm c (w.take c.length)))/\(Fn x (Ft nm c (w.take c.length))->(∀r∈d,Fn x r)->False):=by
 have Hc:Fz nm c:=⟨H.pw,H.nd,λr hr=>H.sum r (FZ _ hr),λr hr=>H.sub r (FZ _ hr)⟩
 have hz:=uX S.wt.len
 have e:=mH (x:=x) H.nd (l:=(c++d).zip w) λp hp=>H.sub _ (Gr hp).1
 rw[cV λn _=>S.no n] at e;rw[pQ Hc];have nc:∀p∈c.zip (w.take c.length),p.1∈c/\0<=p.2:=λp hp=>⟨(Gr hp).1,S.wt.nn _ (GS (Gr hp).2)⟩;have ndd:∀p∈d.zip (w.drop c.length),p.1∈d/\0<=p.2:=λp hp=>⟨(Gr hp).1,S.wt.nn _ (List.mem_of_mem_drop (Gr hp).2)⟩
 constructor
 ·intro h;obtain⟨i1,i2⟩:=qu (x:=x) (l:=c.zip (w.take c.length)) λp hp=>⟨h _ (nc p hp).1,(nc p hp).2⟩
  cases es:FM (c.zip (w.take c.length)) with
  | true=>exact .inl (i2 es)
  | false =>
   by_cases z:FP x (c.zip (w.take c.length))=0
   ·exact .inr ⟨z,rfl⟩
   ·exact .inl (by grind)
 ·intro hm h;obtain⟨i1,i2⟩:=qu (x:=x) (l:=d.zip (w.drop c.length)) λp hp=>⟨h _ (ndd p hp).1,(ndd p hp).2⟩;have b:=S.bd;have hst:FM ((c++d).zip w)=(FM (c.zip (w.take c.length))||FM (d.zip (w.drop c.length))):=by rw[hz,oE]
  rw[hz,t6] at e;rw[hst,hz] at b;generalize bds (c.zip (w.take c.length)++d.zip (w.drop c.length))=bb at *
  rcases b with b | ⟨b,s⟩
  ·have:=e8 b
   rcases hm with m | ⟨m,_⟩<;>grind
  ·subst b;rw[show ((0:Int):Rat)=0 from rfl] at e
   rcases hm with m | ⟨m,m2⟩
   ·grind
   ·rw[m2,Bool.false_or] at s;have:=i2 s
    grind
theorem Dk{a b:FE}{B N:Nat}(T:Two a b nm B N)(no:∀x,¬ (a.sx x/\b.sx x))(sh:∀c∈(a.pl false).kr,∀d∈(b.pl false).kr,jN (c++d) (wOf nm (c++d)))(x:Str->Rat) :
  (a.sx x->(mdl nm (a.pl false).kr (b.pl false).kr).sx x)/\((mdl nm (a.pl false).kr (b.pl false).kr).sx x->¬ b.sx x):=by
 have nA:(a.pl false).kr≠[]:=λz=>by have:=FE.kr_num (s:=a.pl false) FE.pl_pn;rw[z] at this;have:=(a.pl false).num_pos;simp at *;omega
 have nB:(b.pl false).kr≠[]:=λz=>by have:=FE.kr_num (s:=b.pl false) FE.pl_pn;rw[z] at this;have:=(b.pl false).num_pos;simp at *;omega
 have hx:(mdl nm (a.pl false).kr (b.pl false).kr).sx x↔∃c∈(a.pl false).kr,∀d∈(b.pl false).kr,Fn x (mdR nm c d):=by
  unfold mdl;rw[AJ (by simpa using nA)];have inner:∀c,(mdC nm c (b.pl false).kr).sx x↔∀d∈(b.pl false).kr,Fn x (mdR nm c d):=λc=>by
   unfold mdC;rw[A7 (by simpa using nB)]
   constructor
   ·exact λh d hd=>h _ (FV.mpr ⟨d,hd,rfl⟩)
   ·intro h t ht;obtain⟨d,hd,rfl⟩:=FV.mp ht;exact h d hd
  constructor
  ·rintro⟨t,ht,h⟩;obtain⟨c,hc,rfl⟩:=FV.mp ht;exact⟨c,hc,(inner c).mp h⟩
  ·rintro⟨c,hc,h⟩;exact⟨_,FV.mpr ⟨c,hc,rfl⟩,(inner c).mpr h⟩
 rw[hx]
 constructor
 ·intro ha;have e1:(a.pl false).sx x:=by rw[FE.pl_sx];simpa using ha
  obtain⟨c,hc,h⟩:=(FE.kr_sx FE.pl_pn).mp e1;exact⟨c,hc,λd hd=>(x8 (T.fit hc hd).1.H (sh c hc d hd)).1 h⟩
 ·rintro⟨c,hc,h⟩ hb;have e2:(b.pl false).sx x:=by rw[FE.pl_sx];simpa using hb
  obtain⟨d,hd,h2⟩:=(FE.kr_sx FE.pl_pn).mp e2;exact(x8 (T.fit hc hd).1.H (sh c hc d hd)).2 (h d hd) h2
def FE.kr_ne:∀ {s:FE},s.pn=true->∀c∈s.kr,0<c.length
 | .row _ _ _,_,c,h=>by rw[F6.mp h];exact Nat.one_pos
 | .bo s t,h,c,hc=>by
  obtain⟨h1,h2⟩:=Gq.mp h;obtain⟨x,hx,hy⟩:=Ha.mp hc;obtain⟨y,hz,rfl⟩:=FV.mp hy;have:=FE.kr_ne h1 x hx;rw[F1];omega
 | .ei s t,h,c,hc=>by
  obtain⟨h1,h2⟩:=Gq.mp h
  rcases F9.mp hc with hc | hc
  ·exact FE.kr_ne h1 c hc
  ·exact FE.kr_ne h2 c hc
inductive ql(ds:List D)(R:D->Prop):Prop
 | mk (k:Bool) (l:List FE) (hh:ds=[.str (if k=true then "both" else "either"),.lst (l.map FE.D)]/\l≠[]/\R (join (if k=true then .bo else .ei) l).D)
def me:∀ds R,ql ds R->ds.length=2:=λ_ _ ⟨_,_,e,_⟩=>by rw[e];rfl
def fm:aw ["word","sayings","told","saying"] ["word","sayings"] (ap s_joined):=by walk_at "sc"
def ka(Z:Zz):Z.C 1 "joined" ["word","sayings"] (Fh Z.K ql):=by
 refine cq Z.d_joined fm me λfa cdv A outer s H E ds R hr h=>?_;have hU:=hr.units;refine⟨_,(ad (ay 2 fm.nd (Fl 1)) (ad (bH Gh rfl (iI (ak 1) (dh am) iF) (ar 3 fm.nd) (af (ay 2 fm.nd (aH (ac (ak 0) (ac (ak 2) (ac (ak 3) ae))))))) (af (av (ak 2))))),?_⟩;obtain⟨k,l,rfl,hl,q⟩:=h
 match l,hl with
 | s::l,_=>?_
 refine ag λK1 hK1=>?_;walk_at "rd";rw[hK1];refine ag λK2 hK2=>?_;refine bZ λF N hF hN=>?_;walk_at "rd";simp only[dB];walk_at "rd";rw[hZ];refine⟨λi δ=>∃x,δ=[.dat (.str (if k=true then "both" else "either")),.dat (.lst (s.D::l.map FE.D)),.dat ((l.take i).foldl (if k=true then FE.bo else FE.ei) s).D,x],⟨_,rfl⟩,?_,?_⟩
 ·rintro i d δ hd ⟨x,rfl⟩;rw[List.getElem?_map] at hd
  cases hn:l[i]? with
  | none=>rw[hn] at hd;cases hd
  | some t =>
   rw[hn] at hd
   cases hd
   rw[hF];walk_at "rd";rw[aE hn,Io]
   cases k<;>rfl
 ·rintro δ ⟨x,rfl⟩;rw[FR,Gp,hN,hK2];walk_at "rd";exact q
inductive iY(ds:List D)(R:D->Prop):Prop
 | mk (a b:FE) (nm:List Str) (B N:Nat) (hh:ds=[a.D,b.D]/\Two a b nm B N /\
 ((∃x,a.sx x/\b.sx x)->R .non)/\((∀x,¬ (a.sx x/\b.sx x))->R (mdl nm (a.pl false).kr (b.pl false).kr).D))
def kC:∀ds R,iY ds R->ds.length=2:=λ_ _ ⟨_,_,_,_,_,e,_⟩=>by rw[e];rfl
def cZ:aw ["one","other","answer","told","first","line"] ["one","other"] (ap s_between):=by walk_at "sc"
theorem jb(Z:Zz):Z.C 67 "between" ["one","other"] (Fh Z.K iY):=by
 refine cq Z.d_between cZ kC λfa cdv A outer s H E ds R hr h=>?_;have hU:=hr.units;refine⟨_,(ad (ay 2 cZ.nd (aq (cA Z) (rm hr) rfl (ac (ak 0) (ac (ak 1) ae)))) (ad (aR (aC (dw hU) (Fl 2) au (aA _)) (af (av gA)) aD) (ad (cE 3 cZ.nd ae) (ad (i9 Gh rfl (ma true false rfl Z.z_zip (ac (aq (jx Z) (rm hr) rfl (ac (ak 0) ae)) (ac (Fl 2) ae))) (cj (n:=2) rfl (aB (ar 4 cZ.nd) (aB (ar 5 cZ.nd) bf))) (af (aQ 3 (aq (ka Z) (rm hr) rfl (ac au (ac (bT ["weights"] [(4,"first")] rfl rfl (by decide +kernel) rfl (by decide +kernel) (bh ⟨rfl,trivial⟩) (bn rfl) (aL ⟨⟨rfl,rfl,.inl rfl⟩,trivial⟩) (kg (ak 5)) λ_ _ _ _ _=>⟨(ar 0 (show List.Nodup (["weights","first"]:List Str) by decide +kernel)),cM,(aq (ml Z) (rm hr) rfl (ac (ak 1) (ac (iI (ak 0) iF (dh (aJ fu rfl Z.z_len eU (ac (ak 1) ae)))) ae)))⟩) ae)))))) (bL 3 (af (av (aq (ka Z) (rm hr) rfl (ac au (ac (ak 3) ae)))))))))),?_⟩;obtain⟨a,b,nm,B,N0,rfl,T,q1,q2⟩:=h;refine ag λK1 hK1=>?_;walk_at "rd";refine⟨a,b,nm,B,N0,rfl,T,?_⟩
 rcases pS T with⟨ps,ep,P,κ,sa,sb⟩ | ⟨ew,no,sh⟩
 ·rw[ep];walk_at "rd";rw[hK1];refine ag λK2 hK2=>?_;walk_at "rd";exact q1 ⟨_,sa,sb⟩
 ·rw[ew];walk_at "rd";rw[hK1];refine ag λK2 hK2=>?_;walk_at "rd";refine FK (by decide) ?_;rw[hK2];have q2:=q2 no;have nl:=T.len;have n4:=T.n4;have na:=T.na;have nb:=T.nb;have wN:=T.wN;have nA:(a.pl false).kr≠[]:=λz=>by have:=FE.kr_num (s:=a.pl false) FE.pl_pn;rw[z] at this;have:=(a.pl false).num_pos;simp at *;omega
  have nB:(b.pl false).kr≠[]:=λz=>by have:=FE.kr_num (s:=b.pl false) FE.pl_pn;rw[z] at this;have:=(b.pl false).num_pos;simp at *;omega
  have kA:(a.pl false).kr.length<=4:=by rw[FE.kr_num FE.pl_pn];omega
  have kB:(b.pl false).kr.length<=4:=by rw[FE.kr_num FE.pl_pn];omega
  have fit:=λ{c d} hc hd=>T.fit (c:=c) (d:=d) hc hd
  have lens:=λ{c d} hc hd=>T.lens (c:=c) (d:=d) hc hd
  have pos:∀d∈(b.pl false).kr,0<d.length:=λd hd=>FE.kr_ne FE.pl_pn d hd
  have hbw:wb B 6 nm.length<=7990:=FX (xj (by omega)) wN
  have cases_a:∀R:D->Prop,R (krD (a.pl false).kr)->nF [a.D] R:=λR r=>⟨a,nm,rfl,by have:=T.da;omega,T.oa,by omega,T.na.1,T.na.2,by rw[uq];exact r⟩
  generalize (a.pl false).kr=A at *
  generalize (b.pl false).kr=Bk at *
  refine ag λK3 hK3=>?_;walk_at "rd";intro ta;walk_at "rd";rw[hK3];refine ag λK4 hK4=>?_;refine eP λF N hF hN=>?_;walk_at "rd";simp only[mv];walk_at "rd";refine cases_a _ ?_;unfold krD;walk_at "rd";have ez:oC (A.map λc=>D.lst (c.map Fx)) (A.map λc=>D.tup (Bk.map λd=>D.tup ((wOf nm (c++d)).map D.int)))=A.map λc=>D.tup [.lst (c.map Fx),.tup (Bk.map λd=>.tup ((wOf nm (c++d)).map D.int))]:=by
   unfold oC;rw[List.zipWith_map,List.zipWith_self]
  rw[ez];refine⟨λi δ=>∃x y,δ=[.dat a.D,.dat b.D,.dat (.tup [.str "paper",.tup (A.map λc=>.tup (Bk.map λd=>.tup ((wOf nm (c++d)).map D.int)))]),.own ta (.lst ((A.take i).map λc=>(mdC nm c Bk).D)),x,y],⟨_,_,rfl⟩,?_,?_⟩
  ·rintro i d δ hd ⟨x,y,rfl⟩;rw[List.getElem?_map] at hd
   cases hn:A[i]? with
   | none=>rw[hn] at hd;cases hd
   | some c =>
    rw[hn] at hd
    cases hd
    have hcm:=Ge hn
    have hil:=(List.getElem?_eq_some_iff.mp hn).1
    rw[hF];show ln _ _ (.tup [.lst (c.map Fx),.tup (Bk.map λd=>.tup ((wOf nm (c++d)).map D.int))]) _ _;walk_at "rd";refine⟨by rw[FR];omega,λd=>match d with | .tup ws=>some (Fx (Ft nm c ((ws.map λx=>match x with | .int z=>z | _=>0).take c.length))) | _=>none,λx hx=>?_,?_⟩
    ·obtain⟨d,hd,rfl⟩:=FV.mp hx;have S:=(sh c hcm d hd).1;have hl:=S.wt.len;rw[F1] at hl;have:=pos d hd;have ft:=(fit hcm hd).1;have l3:=(lens hcm hd).1;have Hc:Fz nm c:=⟨ft.H.pw,ft.H.nd,λr hr=>ft.H.sum r (FZ _ hr),λr hr=>ft.H.sub r (FZ _ hr)⟩;have hB:B<=7990:=by have:=ft.ck (k:=0) (by omega);unfold cb at this;omega
     rw[uA,FR,FR,Ck,<- List.map_take];refine⟨λz=>?_,c,(wOf nm (c++d)).take c.length,nm,rfl,by omega,λr hr=>⟨Hc.sub r hr,λt ht=>FX (ft.hB.tm r (FZ _ hr) t ht) (by omega),FX (ft.hB.bd r (FZ _ hr)) (by omega)⟩,λw hw=>FX ((sh c hcm d hd).2 w (GS hw)) (by omega),λts hts=>?_⟩
     ·rw[HT.sIx_nat] at z;omega
     ·rw[hts.uniq (Hc.smT _)];simp only[List.map_map];have em:(wOf nm (c++d)).map ((λx=>match x with | D.int z=>z | _=>0) ∘ D.int)=wOf nm (c++d):=II _;rw[em];exact⟨rfl,rfl⟩
    ·have ef:(Bk.map λd=>D.tup ((wOf nm (c++d)).map D.int)).filterMap (λd=>match d with | .tup ws=>some (Fx (Ft nm c ((ws.map λx=>match x with | .int z=>z | _=>0).take c.length))) | _=>none)=(Bk.map λd=>nX (mdR nm c d)).map FE.D:=by
      rw[GG];refine aN _ _ _ _ λd _=>?_;show some (Fx (Ft nm c ((((wOf nm (c++d)).map D.int).map _).take c.length)))=_;rw[GG,show (wOf nm (c++d)).map ((λx=>match x with | D.int z=>z | _=>0) ∘ D.int)=wOf nm (c++d) from II _];rfl
     rw[ef];refine⟨true,_,rfl,by simpa using nB,?_⟩;walk_at "rd";exact⟨by rw[FR,Gv];omega,by rw[aE hn,Gj];rfl⟩
  ·rintro δ ⟨x,y,rfl⟩;rw[FR,Gp,hN,hK4];walk_at "rd";refine⟨false,A.map λc=>mdC nm c Bk,?_,by simpa using nA,q2⟩;rw[GG];rfl
def cnz(h:j≠0):CNz i j:=h
def sR(h0:j≠0)(h:j.natAbs.log2<9000):CFd i j:=⟨h0,h⟩
inductive gH(ds:List D)(R:D->Prop):Prop
 | mk (i:Int) (hh:ds=[.int i]/\R (.bl true))
def gK:∀ds R,gH ds R->ds.length=1:=λ_ _ ⟨_,e,_⟩=>by rw[e];rfl
def ld:aw ["_law_found"] ["_law_found"] (ap s__law_whole):=by walk_at "sc"
def d7(Z:Zz):Z.C 1 "_law_whole" ["_law_found"] (Fh Z.K gH):=by
 refine cq Z.d__law_whole ld gK λfa cdv A outer s H E ds R hr h=>?_;have hU:=hr.units;refine⟨_,(af (av (j8 (iT C7 rfl Z.z_isinstance rfl Z.z_int Bv (ak 0)) (d9 (o8 (iT y8 rfl Z.z_isinstance rfl Z.z_bool Dd (ak 0))))))),?_⟩;obtain⟨i,rfl,q⟩:=h;walk_at "rd";exact q
inductive jh(ds:List D)(R:D->Prop):Prop
 | mk (a b c d:Int) (hh:ds=[.tup [.int a,.int b],.tup [.int c,.int d]]/\IntMulOk a d/\IntMulOk c b/\R (.int (a*d-c*b)))
def iR:∀ds R,jh ds R->ds.length=2:=λ_ _ ⟨_,_,_,_,e,_⟩=>by rw[e];rfl
def lO:aw ["_law_one","_law_other"] ["_law_one","_law_other"] (ap s__law_over):=by walk_at "sc"
def lq(Z:Zz):Z.C 1 "_law_over" ["_law_one","_law_other"] (Fh Z.K jh):=by
 refine cq Z.d__law_over lO iR λfa cdv A outer s H E ds R hr h=>?_;have hU:=hr.units;refine⟨_,(af (av (ax gQ (ax a5 (Fl 0) (Fl 1)) (ax a5 (Fl 1) (Fl 0))))),?_⟩;obtain⟨a,b,c,d,rfl,h1,h2,q⟩:=h;walk_at "rd";exact⟨h1,h2,q⟩
structure Pk(ks:List Str)(ps:List (Int×Int)):Prop where
 len:ps.length=ks.length
 low:∀p∈ps,0<p.2
 b1:∀p∈ps,ib p.1<=3000000
 b2:∀p∈ps,ib p.2<=3000000
 κ:ib (Fy (pB ks ps) ks)<=70000
def Pk.at(hp:Pk ks ps)(h:n∈ks):dAt ks ps n=some (mS ks ps n)/\mS ks ps n∈ps:=by
 have e:=fD (ks:=ks) (ds:=ps) (x:=n) hp.len.symm
 rw[Gz h] at e
 cases q:dAt ks ps n with
 | none=>rw[q] at e;cases e
 | some p =>
  have:mS ks ps n=p:=by unfold mS;rw[q];rfl
  rw[this];exact⟨rfl,nS q⟩
def Pk.D(hp:Pk ks ps)(h:n∈ks):dAt ks (ps.map Ff) n=some (.tup [.int (pT ks ps n),.int (pB ks ps n)]):=by
 rw[nN,(hp.at h).1];rfl
def Pk.pos(hp:Pk ks ps)(h:n∈ks):0<pB ks ps n:=hp.low _ (hp.at h).2
def Pk.Bb(hp:Pk ks ps)(h:n∈ks):ib (pB ks ps n)<=3000000:=hp.b2 _ (hp.at h).2
def Pk.Tb(hp:Pk ks ps)(h:n∈ks):ib (pT ks ps n)<=3000000:=hp.b1 _ (hp.at h).2
inductive gn(ds:List D)(R:D->Prop):Prop
  | mk (ts:List (Str×Int)) (ks:List Str) (ps:List (Int×Int)) (hh:ds=[.tup (ts.map Fk),.fd ks (ps.map Ff)]/\(ts.map (·.1)).Nodup/\ts.length<=60/\(∀t∈ts,t.1∈ks/\ib t.2<=10000)/\Pk ks ps /\
  (ib (Fy (pB ks ps) (ts.map (·.1)))<=70000->ib (cF (ov (pT ks ps) (pB ks ps) (Fy (pB ks ps) (ts.map (·.1)))) ts)<=3100000->0<Fy (pB ks ps) (ts.map (·.1)) ->
  R (.tup [.int (cF (ov (pT ks ps) (pB ks ps) (Fy (pB ks ps) (ts.map (·.1)))) ts),.int (Fy (pB ks ps) (ts.map (·.1)))])))
def gR:∀ds R,gn ds R->ds.length=2:=λ_ _ ⟨_,_,_,e,_⟩=>by rw[e];rfl
def aX:aw ["_law_terms","_law_point","_law_top","_law_low","_law_name","_law_weight","_law_value"] ["_law_terms","_law_point"] (ap s__law_total):=by walk_at "sc"
def jO(Z:Zz):Z.C 1 "_law_total" ["_law_terms","_law_point"] (Fh Z.K gn):=by
 refine cq Z.d__law_total aX gR λfa cdv A outer s H E ds R hr h=>?_;have hU:=hr.units;refine⟨_,(ad (ay 2 aX.nd am) (ad (ay 3 aX.nd am) (ad (gm Gh rfl (ak 0) (cj (n:=2) rfl (aB (ar 4 aX.nd) (aB (ar 5 aX.nd) bf))) (ad (ay 6 aX.nd (dO hU (ak 1) (ak 4) (λ_ _=>rfl))) (ad (ay 2 aX.nd (ax aP (ax a5 (ak 2) (Fl 6)) (ax a5 (ax a5 (ak 5) (Fl 6)) (ak 3)))) (af (ay 3 aX.nd (ax a5 (ak 3) (Fl 6))))))) (af (av (aH (ac (ak 2) (ac (ak 3) ae)))))))),?_⟩;obtain⟨ts,ks,ps,rfl,nd,hl,ht,P,q⟩:=h;walk_at "rd";simp only[nY];walk_at "rd";have tk:∀i,∀t∈ts.take i,t∈ts:=λi t h=>GS h
 have tb:∀i,ib (Fy (pB ks ps) ((ts.take i).map (·.1)))<=70000:=λi=>lI (nd.sublist ((List.take_sublist i ts).map _)) (λn hn=>by
  obtain⟨t,h1,rfl⟩:=FV.mp hn
  exact(ht t (tk i t h1)).1) (λn hn=>P.pos hn) P.κ
 have ts':∀i,ib (cF (ov (pT ks ps) (pB ks ps) (Fy (pB ks ps) ((ts.take i).map (·.1)))) (ts.take i))<=3100000:=λi =>
  FX (gg (c:=10000) (m:=3070000) λt h1=>⟨(ht t (tk i t h1)).2,Gi (P.Tb (ht t (tk i t h1)).1) (GP (tb i))⟩) (by rw[Gv];omega)
 refine⟨λi δ=>∃x y z,δ=[.dat (.tup (ts.map Fk)),.dat (.fd ks (ps.map Ff)),.dat (.int (cF (ov (pT ks ps) (pB ks ps) (Fy (pB ks ps) ((ts.take i).map (·.1)))) (ts.take i))),.dat (.int (Fy (pB ks ps) ((ts.take i).map (·.1)))),x,y,z],⟨_,_,_,rfl⟩,?_,?_⟩
 ·rintro i d δ hd ⟨x,y,z,rfl⟩;obtain⟨t,hn,rfl⟩:=cU hd;have htm:=Ge hn;have hk:=(ht t htm).1;walk_at "rd";refine⟨_,P.D hk,?_⟩;walk_at "rd";refine⟨mo2 (ts' i) (P.Bb hk),mo2 (ht t htm).2 (P.Tb hk),mo2 (Gi (ht t htm).2 (P.Tb hk)) (tb i),mo2 (tb i) (P.Bb hk),?_⟩;rw[aE hn,Gj,fZ,List.map_singleton,nu];refine⟨vZ (λw hw=>⟨?_,dg (FV.mpr ⟨w,hw,rfl⟩)⟩) ?_,rfl⟩
  ·have:=P.pos (ht w (tk i w hw)).1;omega
  ·have:=P.pos hk;omega
 ·rintro δ ⟨x,y,z,rfl⟩;have e1:ts.take (ts.map Fk).length=ts:=by rw[FR,Gp]
  have b1:=tb (ts.map Fk).length
  have b2:=ts' (ts.map Fk).length
  rw[e1] at b1 b2 ⊢;walk_at "rd"
  exact q b1 b2 (ce λn hn=>by
   obtain⟨t,h1,rfl⟩:=FV.mp hn
   exact P.pos (ht t h1).1)
inductive fA(ds:List D)(R:D->Prop):Prop
 | mk (r:Rw) (ks:List Str) (ps:List (Int×Int)) (hh:ds=[Fx r,.fd ks (ps.map Ff)]/\(r.2.1.map (·.1)).Nodup/\r.2.1.length<=60/\ib r.2.2<=10000/\(∀t∈r.2.1,t.1∈ks/\ib t.2<=10000)/\Pk ks ps/\R (.bl (rQ (pT ks ps) (pB ks ps) r.1 r.2.1 r.2.2)))
def fW:∀ds R,fA ds R->ds.length=2:=λ_ _ ⟨_,_,_,e,_⟩=>by rw[e];rfl
def d5:aw ["_law_row","_law_point","_law_found"] ["_law_row","_law_point"] (ap s__law_row_so):=by walk_at "sc"
theorem jz(Z:Zz):Z.C 2 "_law_row_so" ["_law_row","_law_point"] (Fh Z.K fA):=by
 refine cq Z.d__law_row_so d5 fW λfa cdv A outer s H E ds R hr h=>?_;have hU:=hr.units;refine⟨_,(ad (ay 2 d5.nd (aq (lq Z) (rm hr) rfl (ac (aq (jO Z) (rm hr) rfl (ac (Fl 0) (ac (ak 1) ae))) (ac (aH (ac (Fl 0) (ac am ae))) ae)))) (af (av (vx (cK vk (ak 2) am (aA _)) (d9 (j8 (cK (dw hU) (ak 2) am (aA _)) (d9 (cK (dw hU) (Fl 0) au (aA _))))))))),?_⟩;obtain⟨⟨k,ts,b⟩,ks,ps,rfl,nd,hl,bb,ht,Pk,q⟩:=h;unfold Fx eY;walk_at "rd";refine⟨ts,ks,ps,rfl,nd,hl,ht,Pk,λb1 b2 bp=>?_⟩;walk_at "rd";refine⟨_,_,_,_,rfl,IntMulOk.of_right (by decide),mo2 bb b1,?_⟩;walk_at "rd";have q:R (.bl (m9 k (cF (ov (pT ks ps) (pB ks ps) (Fy (pB ks ps) (ts.map (·.1)))) ts) (b*Fy (pB ks ps) (ts.map (·.1))))):=q;generalize cF (ov (pT ks ps) (pB ks ps) (Fy (pB ks ps) (ts.map (·.1)))) ts=T at *;generalize Fy (pB ks ps) (ts.map (·.1))=B at *;generalize b*B=C at *;rw[Int.mul_one];refine f6 (λh1=>?_) λh1=>f6 (λh2=>?_) λh2=>?_
 ·cases k with
  | least=>have q:R (.bl (decide (C<=T))):=q;rw[Gz (by omega)] at q;exact q
  | more=>have q:R (.bl (decide (C<T))):=q;rw[Gz (by omega)] at q;exact q
 ·cases k with
  | least=>have q:R (.bl (decide (C<=T))):=q;rw[Gz (by omega)] at q;exact q
  | more=>have q:R (.bl (decide (C<T))):=q;rw[Gx (by omega)] at q;exact q
 ·cases k with
  | least=>have q:R (.bl (decide (C<=T))):=q;rw[Gx (by omega)] at q;exact q
  | more=>have q:R (.bl (decide (C<T))):=q;rw[Gx (by omega)] at q;exact q
def lg64{x:Int}(h0:0<x)(h1:x<64):x.natAbs.log2<9000:=by
 refine GA ((Nat.log2_lt (by omega)).mpr (show x.natAbs<2 ^ 6 by omega)) (by decide)
def xD(c:Int):Int:=if c.fmod 5=0 then 0 else if c.fmod 5<4 then (c.fdiv 5).fmod 7-3 else (c.fdiv 5).fmod (2*1000000000+1)-1000000000
def eZ(c:Int):ib (xD c)<=30:=by
 have bb:∀ {x:Int},-1000000000<=x->x<=1000000000->ib x<=30:=λh0 h1=>intBits_le_iff.mpr (by rw[show (2:Nat) ^ 30=1073741824 by decide +kernel];omega)
 have a0:=Gu (c.fdiv 5) (b:=7) (by decide)
 have a1:=GB (c.fdiv 5) (b:=7) (by decide)
 have a2:=Gu (c.fdiv 5) (b:=2*1000000000+1) (by decide)
 have a3:=GB (c.fdiv 5) (b:=2*1000000000+1) (by decide)
 unfold xD
 by_cases h1:c.fmod 5=0
 ·rw[Gd h1];decide
 ·rw[Gb h1]
  by_cases h2:c.fmod 5<4
  ·rw[Gd h2];exact bb (by omega) (by omega)
  ·rw[Gb h2];exact bb (by omega) (by omega)
inductive e7(ds:List D)(R:D->Prop):Prop
 | mk (c:_) (hh:ds=[.int c]/\ib c<=1048600/\R (.int (xD c)))
def f9:∀ds R,e7 ds R->ds.length=1:=λ_ _ ⟨_,e,_⟩=>by rw[e];rfl
def cR:aw ["_law_cell_here","_law_kind"] ["_law_cell_here"] (ap s__law_number):=by walk_at "sc"
def cB(Z:Zz):Z.C 1 "_law_number" ["_law_cell_here"] (Fh Z.K e7):=by
 refine cq Z.d__law_number cR f9 λfa cdv A outer s H E ds R hr h=>?_;have hU:=hr.units;refine⟨_,(ad (ay 1 cR.nd (ax eQ (ak 0) am)) (ad (ay 0 cR.nd (ax dA (ak 0) am)) (ad (aR (aC (dw hU) (ak 1) am (aA _)) (af (av am)) aD) (ad (aR (aC zT (ak 1) am (aA _)) (af (av (ax gQ (ax eQ (ak 0) am) am))) aD) (af (av (ax gQ (ax eQ (ak 0) (ax aP (ax a5 am (ax wu am am)) am)) (ax wu am am)))))))),?_⟩;obtain⟨c,rfl,hc,q⟩:=h;walk_at "rd";have e9:(10:Int) ^ Int.toNat 9=1000000000:=by decide +kernel
 rw[e9];unfold xD at q;refine⟨cnz (by decide),sR (by decide) (by decide +kernel),f6 (λh1=>?_) λh1=>f6 (λh2=>⟨cnz (by decide),?_⟩) λh2=>⟨⟨by decide,by decide,by decide⟩,Hw (by decide),cnz (by decide),⟨by decide,by decide,by decide⟩,?_⟩⟩
 ·rw[Gd h1] at q;exact q
 ·rw[Gb h1,Gd h2] at q;exact q
 ·rw[Gb h1,Gb h2] at q;exact q
def atL{α β:Type}{f:α->β}{xs:List α}{k:Nat}(h:k<xs.length):Fp (xs.map f) (k:Int)=some (f xs[k]):=by
 rw[xH (by omega) (by rw[FR];omega),List.getElem?_map,Ik,List.getElem?_eq_getElem h];rfl
def xU:∀ts:List (Str×Int),D.ims (ts.map Fk)=true
 | []=>rfl
 | t::ts=>by rw[Go];simp only[D.ims,xU ts];rfl
def Ej(r:Rw):D.im (Fx r)=true:=by
 unfold Fx eY;simp only[D.im,D.ims,xU];rfl
def S4:List Str:=["a","b","c","d"]
def mh:S4.Nodup:=by decide +kernel
def rE:S4.Pairwise leS:=by unfold S4 leS;decide +kernel
structure Rg(r:Rw):Prop where
 tm:jR S4 r.2.1
 tb:∀t∈r.2.1,ib t.2<=34
 bb:ib r.2.2<=34
structure Sg(s:FE):Prop where
 dep:s.dep<=10
 ok:s.ok S4
 bt:s.bt 34
 few:(s.pl false).num<=4/\(s.pl false).long<=3
inductive jj(ds:List D)(R:D->Prop):Prop
 | mk (cs:List Int) (nms:List Str) (hh:ds=[.lst (cs.map D.int),.lst (nms.map D.str)]/\∃h5:cs.length=5,(∀c∈cs,ib c<=1048600)/\nms.length=3/\nms.Sublist S4/\∀r:Rw,Rg r->R (Fx r))
def iG:∀ds R,jj ds R->ds.length=2:=λ_ _ ⟨_,_,e,_⟩=>by rw[e];rfl
def cH:aw ["_law_cells","_law_names_here","_law_terms","_law_k","_law_weight"] ["_law_cells","_law_names_here"] (ap s__law_line):=by walk_at "sc"
def kq(Z:Zz):Z.C 2 "_law_line" ["_law_cells","_law_names_here"] (Fh Z.K jj):=by
 refine cq Z.d__law_line cH iG λfa cdv A outer s H E ds R hr h=>?_;have hU:=hr.units;refine⟨_,(ad (cE 2 cH.nd ae) (ad (kn Gh rfl rfl Z.z_range (ac am ae) (ar 3 cH.nd) (ad (ay 4 cH.nd (aq (cB Z) (rm hr) rfl (ac (dW dX (ak 0) (ax aP am (ak 3)) (λ_ _=>rfl)) ae))) (af (aR (aC (kl hU) (ak 4) am (aA _)) (af (aQ 2 (aH (ac (dW dX (ak 1) (ak 3) (λ_ _=>rfl)) (ac (ak 4) ae))))) aD)))) (af (av (aH (ac (dW dX (a6 (ac au (ac au ae))) (ax eQ (Fl 0) am) (λ_ _=>rfl)) (ac (jD 2 rfl Z.z_tuple cD) (ac (aq (cB Z) (rm hr) rfl (ac (Fl 0) ae)) ae)))))))),?_⟩;obtain⟨cs,nms,rfl,hl,hb,n3,hS,q⟩:=h;have ca:∀k:Nat,(h:k<5)->Fp (cs.map D.int) (k:Int)=some (.int (cs[k]'(by omega))):=λk h=>atL (by omega);have cb:∀k:Nat,(h:k<5)->ib (cs[k]'(by omega))<=1048600:=λk h=>hb _ (GZ _);refine ag λK2 hK2=>?_;walk_at "rd";intro ta;rw[hK2];refine ag λK3 hK3=>?_;walk_at "rd";simp only[zI];walk_at "rd";refine⟨by decide,by decide,λi δ=>∃ts x y,δ=[.dat (.lst (cs.map D.int)),.dat (.lst (nms.map D.str)),.own ta (.lst (ts.map Fk)),x,y]/\(ts.map (·.1)).Sublist (nms.take i)/\(∀t∈ts,t.2≠0/\ib t.2<=30),⟨[],_,_,rfl,by simp,λ_ h=>(nomatch h)⟩,?_,?_⟩
 ·rintro i δ hi ⟨ts,x,y,rfl,hsb,hts⟩;have hi:i<3:=hi;have hlt:ts.length<=i:=by
   have:=hsb.length_le
   rw[FR,Gv] at this;omega
  have hni:nms[i]?=some (nms[i]'(by omega)):=List.getElem?_eq_getElem (by omega)
  walk_at "rd";refine FB.of (by rw[show (1:Int)+(i:Int)=((i+1:Nat):Int) by omega];exact ca (i+1) (by omega)) ⟨_,rfl,cb (i+1) (by omega),?_⟩;have br:=eZ (cs[i+1]'(by omega));generalize xD (cs[i+1]'(by omega))=r at br ⊢;walk_at "rd";refine f6 (λhz=>?_) λhz=>?_
  ·refine FB.of (atL (by omega)) ?_;walk_at "rd";refine⟨by rw[FR];omega,ts++[(nms[i]'(by omega),r)],by rw[Gj];rfl,?_,λt ht=>?_⟩
   ·rw[aE hni,Gj];exact hsb.append (List.Sublist.refl _)
   ·rcases F9.mp ht with ht | ht
    ·exact hts t ht
    ·rw[F6.mp ht];exact⟨hz,br⟩
  ·exact⟨ts,rfl,by rw[aE hni];exact hsb.trans (List.sublist_append_left ..),hts⟩
 ·rintro δ ⟨ts,x,y,rfl,hsb,hts⟩;have hsb:(ts.map (·.1)).Sublist (nms.take 3):=hsb;rw[Hg (by omega)] at hsb;have hlt:ts.length<=3:=by
   have:=hsb.length_le
   rw[FR] at this;omega
  rw[hK3];walk_at "rd";refine FB.of (ca 0 (by decide)) ?_;walk_at "rd";have m0:=Gu (cs[0]'(by omega)) (b:=2) (by decide);have m1:=GB (cs[0]'(by omega)) (b:=2) (by decide);have h2:(cs[0]'(by omega)).fmod 2=0\/(cs[0]'(by omega)).fmod 2=1:=by omega
  have fin:∀k r,ib r<=30->R (Fx (k,ts,r)):=λk r br=>q (k,ts,r) ⟨⟨hsb.trans hS,λt h=>(hts t h).1,λt h=>FX (hts t h).2 (by decide)⟩,λt h=>FX (hts t h).2 (by decide),FX br (by decide)⟩
  refine⟨cnz (by decide),?_⟩
  rcases h2 with h2 | h2<;>rw[h2]
  ·walk_at "rd";exact FB.of (ca 4 (by decide)) ⟨_,rfl,cb 4 (by decide),fin .least _ (eZ _)⟩
  ·walk_at "rd";exact FB.of (ca 4 (by decide)) ⟨_,rfl,cb 4 (by decide),fin .more _ (eZ _)⟩
inductive gF(ds:List D)(R:D->Prop):Prop
 | mk (cs fs:List Int) (sd:Int) (hh:ds=[.lst (cs.map D.int),.lst (fs.map D.int),.int sd]/\cs.length=5/\fs.length=3/\(∀f∈fs,ib f<=30)/\(sd=0\/sd=1)/\∀r:Rw,Rg r->R (Fx r))
def gM:∀ds R,gF ds R->ds.length=3:=λ_ _ ⟨_,_,_,e,_⟩=>by rw[e];rfl
def bu:aw ["_law_cells","_law_fence_here","_law_side","_law_often","_law_free","_law_sign","_law_sums","_law_terms"] ["_law_cells","_law_fence_here","_law_side"] (ap s__law_fence):=by walk_at "sc"
theorem jS(Z:Zz):Z.C 1 "_law_fence" ["_law_cells","_law_fence_here","_law_side"] (Fh Z.K gF):=by
 refine cq Z.d__law_fence bu gM λfa cdv A outer s H E ds R hr h=>?_;have hU:=hr.units;refine⟨_,(ad (ay 3 bu.nd (ax aP am (ax eQ (Fl 0) am))) (ad (ay 4 bu.nd (ax gQ (ax eQ (Fl 0) am) am)) (ad (ay 5 bu.nd (ax gQ am (ax a5 am (ak 2)))) (ad (wW 6 bu.nd (ax a5 (ax a5 (ak 5) (ak 3)) (Fl 1)) (ax a5 (ax a5 (ak 5) (ak 3)) (Fl 1))) (ad (eR 6 hU (ak 4) (dW dX (a6 (ac au (ac au ae))) (ak 2) (λ_ _=>rfl))) (bL 6 (ad (cN 7 bu.nd ["_law_name"] [(6,"_law_sums")] rfl rfl (by decide +kernel) rfl (by decide +kernel) (bh ⟨rfl,trivial⟩) (bn rfl) (aL ⟨⟨rfl,rfl,.inl rfl⟩,trivial⟩) (dk (aJ (kY rfl) rfl Z.z_sorted iq (ac (ak 6) ae))) λ_ _ _ _ _=>⟨(ar 0 (show List.Nodup (["_law_name","_law_sums"]:List Str) by decide +kernel)),(fF (aC (kl hU) (dO hU (ak 1) (ak 0) (λ_ _=>rfl)) am (aA _))),(aH (ac (ak 0) (ac (dO hU (ak 1) (ak 0) (λ_ _=>rfl)) ae)))⟩) (af (av (aH (ac (dW dX (a6 (ac au (ac au ae))) (ax eQ (Fl 0) am) (λ_ _=>rfl)) (ac (cX iX rfl Z.z_tuple cD (ac (ak 7) ae)) (ac (ax aP (ax gQ (ax aP (ax a5 (ax a5 (ak 5) (ak 3)) (Fl 1)) (ax eQ (Fl 0) am)) am) (ak 2)) ae))))))))))))),?_⟩;obtain⟨cs,fs,sd,rfl,h5,h3,hf,hs,q⟩:=h;have ca:∀k:Nat,(h:k<5)->Fp (cs.map D.int) (k:Int)=some (.int (cs[k]'(by omega))):=λk h=>atL (by omega);have fa:∀k:Nat,(h:k<3)->Fp (fs.map D.int) (k:Int)=some (.int (fs[k]'(by omega))):=λk h=>atL (by omega);have bd3:∀ {x y:Int} {m:Nat},ib x<=m->(y=1\/y=-1)->∀ {o:Int},1<=o->o<=3->x.natAbs<=1073741823->(y*o*x).natAbs<=3221225469:=λ{x y m} _ hy {o} o1 o3 hx=>by
  rw[Int.natAbs_mul];have h1:(y*o).natAbs<=3:=by rcases hy with rfl | rfl<;>omega
  exact FX (Nat.mul_le_mul h1 hx) (by decide)
 have f30:∀k:Nat,(h:k<3)->(fs[k]'(by omega)).natAbs<=1073741823:=λk h=>by
  have:=intBits_le_iff.mp (hf (fs[k]'(by omega)) (GZ _))
  rw[show (2:Nat) ^ 30=1073741824 by decide +kernel] at this;omega
 refine ag λK1 hK1=>?_;walk_at "rd";refine FB.of (ca 1 (by decide)) ?_;walk_at "rd";have o0:=Gu (cs[1]'(by omega)) (b:=3) (by decide);have o1:=GB (cs[1]'(by omega)) (b:=3) (by decide);refine⟨cnz (by decide),?_⟩;rw[hK1];generalize hof:1+(cs[1]'(by omega)).fmod 3=of;have of1:1<=of:=by omega
 have of3:of<=3:=by omega
 clear hof o0 o1;refine ag λK2 hK2=>?_;walk_at "rd";refine FB.of (ca 2 (by decide)) ?_;walk_at "rd";have o0:=Gu (cs[2]'(by omega)) (b:=5) (by decide);have o1:=GB (cs[2]'(by omega)) (b:=5) (by decide);refine⟨cnz (by decide),?_⟩;rw[hK2];generalize hfr:(cs[2]'(by omega)).fmod 5-2=fr;have fr1:fr.natAbs<=2:=by omega
 clear hfr o0 o1;refine ag λK3 hK3=>?_;walk_at "rd";refine⟨Hw (by decide),?_⟩;rw[hK3];generalize hsg:1-2*sd=sg;have sg1:sg=1\/sg=-1:=by omega
 clear hsg
 have mu:∀ {x:Int},IntMulOk (sg*of) x:=λ{x}=>Hw (by
  rcases sg1 with rfl | rfl<;>exact intBits_le_64 (by omega) (by omega))
 have msg:IntMulOk sg of:=Hw (by rcases sg1 with rfl | rfl<;>decide)
 refine ag λK4 hK4=>?_;walk_at "rd";have va:=bd3 (hf (fs[0]'(by omega)) (GZ _)) sg1 of1 of3 (f30 0 (by decide));have vb:=bd3 (hf (fs[1]'(by omega)) (GZ _)) sg1 of1 of3 (f30 1 (by decide));have vc:=bd3 (hf (fs[2]'(by omega)) (GZ _)) sg1 of1 of3 (f30 2 (by decide));refine⟨msg,FB.of (fa 0 (by decide)) ?_⟩;walk_at "rd";refine⟨mu,msg,FB.of (fa 1 (by decide)) ?_⟩;walk_at "rd";refine⟨mu,by decide,λsa=>?_⟩;rw[hK4];generalize sg*of*fs[0]'(by omega)=v0 at *;generalize sg*of*fs[1]'(by omega)=v1 at *;have b34:∀ {x:Int},x.natAbs<=3300000000->ib x<=34:=λ{x} h=>intBits_le_iff.mpr (by rw[show (2:Nat) ^ 34=17179869184 by decide +kernel];omega);refine ag λK5 hK5=>?_;have key:∀x:Str,x∈S4->x≠"b"->x≠"c"->K5 [.dat (.lst (cs.map D.int)),.dat (.lst (fs.map D.int)),.dat (.int sd),.dat (.int of),.dat (.int fr),.dat (.int sg),.own sa (.dct ["b","c",x] [.int v0,.int v1,.int fr]),.no]:=?_
 ·walk_at "rd"
  rcases hs with rfl | rfl
  ·walk_at "rd";exact key "a" (by decide +kernel) (by decide) (by decide)
  ·walk_at "rd";exact key "d" (by decide +kernel) (by decide) (by decide)
 intro x xS xb xc;have ev:([.int v0,.int v1,.int fr]:List D)=(["b","c",x]:List Str).map λn=>.int (if n="b" then v0 else if n="c" then v1 else fr):=by
  simp only[List.map_cons,List.map_nil,if_neg xb,if_neg xc,if_true];rfl
 have nd:(["b","c",x]:List Str).Nodup:=by
  simp only[List.nodup_cons,List.mem_cons,List.not_mem_nil,or_false,not_or,not_false_eq_true,List.nodup_nil,and_true];exact⟨⟨by decide,λz=>xb z.symm⟩,λz=>xc z.symm⟩
 have hs4:∀n∈(["b","c",x]:List Str),n∈S4:=λn hn=>by
  simp only[List.mem_cons,List.not_mem_nil,or_false] at hn
  rcases hn with rfl | rfl | rfl
  ·decide +kernel
  ·decide +kernel
  ·exact xS
 have fbt:∀n:Str,(if n="b" then v0 else if n="c" then v1 else fr).natAbs<=3221225469:=λn=>by
  by_cases h1:n="b"
  ·rw[Gd h1];exact va
  ·rw[Gb h1]
   by_cases h2:n="c"
   ·rw[Gd h2];exact vb
   ·rw[Gb h2];omega
 rw[ev,hK5];generalize (["b","c",x]:List Str)=ks at *;generalize hFF:(λn:Str=>if n="b" then v0 else if n="c" then v1 else fr)=FF;have eF:∀n,(if n=("b":Str) then v0 else if n="c" then v1 else fr)=FF n:=λn=>by rw[<- hFF]
 simp only[eF] at fbt ⊢;clear ev eF hFF;have k4:=eT nd hs4;have k4:ks.length<=4:=k4;walk_at "rh";refine ag λK6 hK6=>?_;walk_at "rd";refine⟨by omega,λss' pm st=>?_⟩;have hl':=pm.length_eq;refine⟨by rw[FR];omega,λd=>match d with | .str n=>if FF n≠0 then some (.tup [.str n,.int (FF n)]) else none | _=>none,λx hx=>?_,?_⟩
 ·obtain⟨n,hn,rfl⟩:=FV.mp hx;have hnk:n∈ks:=pm.mem_iff.mp hn;walk_at "rd";refine⟨_,cJ (λn=>D.int (FF n)) hnk,?_⟩;walk_at "rd";refine f6 (λhz=>?_) λhz=>?_
  ·exact⟨_,cJ (λn=>D.int (FF n)) hnk,by rw[Gd hz]⟩
  ·rw[Gb hz]
 have e:(ss'.map D.str).filterMap (λd=>match d with | .str n=>if FF n≠0 then some (D.tup [.str n,.int (FF n)]) else none | _=>none)=((ss'.filter λn=>decide (FF n≠0)).map λn=>(n,FF n)).map Fk:=by
  clear hl' pm st
  induction ss' with
  | nil=>rfl
  | cons n r ih =>
   rw[Go,GK];simp only
   by_cases hz:FF n≠0
   ·rw[Gd hz,Gy (by simpa using hz)];simp only[List.map_cons];rw[ih];rfl
   ·rw[Gb hz,Gn (by simpa using hz)];exact ih
 rw[e,hK6];have tm:jR S4 ((ss'.filter λn=>decide (FF n≠0)).map λn=>(n,FF n))/\∀t∈(ss'.filter λn=>decide (FF n≠0)).map λn=>(n,FF n),ib t.2<=34:=by
  have en:((ss'.filter λn=>decide (FF n≠0)).map λn=>(n,FF n)).map (·.1)=ss'.filter λn=>decide (FF n≠0):=by
   rw[GG];exact II _
  have bb:∀t∈(ss'.filter λn=>decide (FF n≠0)).map λn=>(n,FF n),ib t.2<=34:=λt ht=>by
   obtain⟨n,_,rfl⟩:=FV.mp ht;exact b34 (by have:=fbt n;show (FF n).natAbs<=_;omega)
  refine⟨⟨?_,λt ht=>?_,λt ht=>FX (bb t ht) (by decide)⟩,bb⟩
  ·rw[en];exact kh ((l6 st).filter _) ((pm.nodup_iff.mpr nd).filter _) rE mh λn hn=>hs4 n (pm.mem_iff.mp (Ga.mp hn).1)
  ·obtain⟨n,hn,rfl⟩:=FV.mp ht;simpa using (Ga.mp hn).2
 generalize (ss'.filter λn=>decide (FF n≠0)).map (λn=>(n,FF n))=ts at *
 walk_at "rd";refine FB.of (ca 0 (by decide)) ?_;walk_at "rd";have o0:=Gu (cs[0]'(by omega)) (b:=2) (by decide);have o1:=GB (cs[0]'(by omega)) (b:=2) (by decide);have p0:=Gu (cs[4]'(by omega)) (b:=3) (by decide);have p1:=GB (cs[4]'(by omega)) (b:=3) (by decide);have fin:∀k,R (.tup [.str (kdS k),.tup (ts.map Fk),.int (sg*of*(fs[2]'(by omega))+(cs[4]'(by omega)).fmod 3-1+sd)]):=λk=>q (k,ts,_) ⟨tm.1,tm.2,b34 (by show (sg*of*(fs[2]'(by omega))+(cs[4]'(by omega)).fmod 3-1+sd).natAbs<=_;omega)⟩;refine⟨cnz (by decide),?_⟩;have h2:(cs[0]'(by omega)).fmod 2=0\/(cs[0]'(by omega)).fmod 2=1:=by omega
 rcases h2 with h2 | h2<;>rw[h2]
 ·walk_at "rd";exact⟨msg,FB.of (fa 2 (by decide)) ⟨mu,FB.of (ca 4 (by decide)) ⟨cnz (by decide),fin .least⟩⟩⟩
 ·walk_at "rd";exact⟨msg,FB.of (fa 2 (by decide)) ⟨mu,FB.of (ca 4 (by decide)) ⟨cnz (by decide),fin .more⟩⟩⟩
def lf(b:Bool)(r:Rw):FE:=if b=true then .nt (nX r) else nX r
def ym(b:Bool)(r:Rw)(t:Bool):((lf b r).pl t).num=1/\((lf b r).pl t).long=1:=by
 unfold lf nX
 cases b<;>cases t<;>exact⟨rfl,rfl⟩
def qr(b:Bool)(r:Rw):(lf b r).dep<=2:=by
 cases b
 ·exact(by decide:(1:Nat)<=2)
 ·exact(by decide:(2:Nat)<=2)
def vy{r:Rw}(h:Rg r):(lf b r).ok S4:=by
 unfold lf nX;have:jR S4 r.2.1/\ib r.2.2<=10000:=⟨h.tm,FX h.bb (by decide)⟩
 cases b<;>exact this
def vP{r:Rw}(h:Rg r):(lf b r).bt 34:=by
 unfold lf nX
 cases b<;>exact⟨h.tb,h.bb⟩
inductive fb(ds:List D)(R:D->Prop):Prop
 | mk (rows:List Rw) (c:Int) (hh:ds=[.lst (rows.map Fx),.int c]/\rows.length=4/\(∀r∈rows,Rg r)/\∀s:FE,Sg s->R s.D)
def f8:∀ds R,fb ds R->ds.length=2:=λ_ _ ⟨_,_,e,_⟩=>by rw[e];rfl
def lf_D(x:Int)(r:Rw):(if x=0 then Fx r else .tup [.str "not",Fx r])=(lf (decide (x≠0)) r).D:=by
 unfold lf
 by_cases h:x=0
 ·rw[Gd h,Gx (λz=>z h)];rfl
 ·rw[Gb h,Gz h];rfl
def bA(b:Bool)(r:Rw)(t:Bool):((lf b r).pl t).num=1:=(ym b r t).1
def aV(b:Bool)(r:Rw)(t:Bool):((lf b r).pl t).long=1:=(ym b r t).2
def Dz{x y:D}{m:Int}(h0:0<=m)(h1:m<2):Fp [x,y] m=some (if m=0 then x else y):=by
 have:m=0\/m=1:=by omega
 rcases this with rfl | rfl
 ·rw[Gd rfl];exact at0
 ·rw[Gb (by decide)];exact at1
def aK:aw ["_law_rows","_law_cell_here","_law_r","_law_s","_law_t","_law_u","_law_some"] ["_law_rows","_law_cell_here"] (ap s__law_shaped):=by walk_at "sc"
theorem jq(Z:Zz):Z.C 1 "_law_shaped" ["_law_rows","_law_cell_here"] (Fh Z.K fb):=by
 refine cq Z.d__law_shaped aK f8 λfa cdv A outer s H E ds R hr h=>?_;have hU:=hr.units;refine⟨_,(ad (xy (bT ["_law_k","_law_row"] [(1,"_law_cell_here")] rfl rfl (by decide +kernel) rfl (by decide +kernel) (bh ⟨rfl,trivial⟩) (bn rfl) (aL ⟨⟨rfl,rfl,.inl rfl⟩,trivial⟩) (sf rfl Z.z_enumerate (ac (ak 0) ae)) λ_ _ _ _ _=>⟨(cj (n:=2) rfl (aB (ar 0 (show List.Nodup (["_law_k","_law_row","_law_cell_here"]:List Str) by decide +kernel)) (aB (ar 1 (show List.Nodup (["_law_k","_law_row","_law_cell_here"]:List Str) by decide +kernel)) bf))),cM,(dW dX (a6 (ac (ak 1) (ac (aH (ac au (ac (ak 1) ae))) ae))) (ax eQ (ax dA (ax dA (ak 2) am) (ax Ei am (ak 0))) am) (λ_ _=>rfl))⟩) (xR (n:=4) rfl (aB (ar 2 aK.nd) (aB (ar 3 aK.nd) (aB (ar 4 aK.nd) (aB (ar 5 aK.nd) bf)))))) (ad (ay 6 aK.nd (a6 (ac (ak 2) (ac (aH (ac au (ac (ak 2) (ac (ak 3) ae)))) (ac (aH (ac au (ac (ak 2) (ac (ak 3) ae)))) (ac (aH (ac au (ac (ak 2) (ac (aH (ac au (ac (ak 3) (ac (ak 4) ae)))) ae)))) (ac (aH (ac au (ac (aH (ac au (ac (ak 2) (ac (ak 3) ae)))) (ac (ak 4) ae)))) ae))))))) (ad (ay 6 aK.nd (ax aP (ak 6) (a6 (ac (aH (ac au (ac (aH (ac au (ac (ak 2) (ac (ak 3) ae)))) (ac (ak 4) ae)))) (ac (aH (ac au (ac (aH (ac au (ac (ak 2) (ac (ak 3) ae)))) (ac (aH (ac au (ac (ak 4) (ac (ak 5) ae)))) ae)))) ae))))) (ad (ay 6 aK.nd (ax aP (ak 6) (a6 (ac (aH (ac au (ac (aH (ac au (ac (ak 2) (ac (ak 3) ae)))) (ac (aH (ac au (ac (ak 4) (ac (ak 5) ae)))) ae)))) (ac (aH (ac au (ac (aH (ac au (ac (ak 2) (ac (aH (ac au (ac (ak 3) ae))) ae)))) ae))) ae))))) (ad (ay 6 aK.nd (ax aP (ak 6) (a6 (ac (aH (ac au (ac (aH (ac au (ac (ak 2) (ac (aH (ac au (ac (ak 3) (ac (ak 4) ae)))) ae)))) ae))) (ac (aH (ac au (ac (aH (ac au (ac (aH (ac au (ac (ak 2) (ac (ak 3) ae)))) (ac (aH (ac au (ac (ak 4) (ac (ak 5) ae)))) ae)))) ae))) ae))))) (af (av (dW dX (ak 6) (ax eQ (ak 1) am) (λ_ _=>rfl))))))))),?_⟩
 obtain⟨rows,c,rfl,h4,hr,q⟩:=h
 match rows,h4 with
 | [r0,r1,r2,r3],_=>?_
 refine ag λK1 hK1=>?_;walk_at "rd";refine⟨by rw[xN];exact(by decide:4<=9000),λd=>match d with | .tup [.int k,r]=>some (if ((c.fdiv 32).fdiv (1*2 ^ k.toNat)).fmod 2=0 then r else .tup [.str "not",r]) | _=>none,λx hx=>?_,?_⟩
 ·have hx:∃(k:Nat) (r:Rw),k<4/\x=.tup [.int (k:Nat),Fx r]:=by
   obtain⟨k,hk⟩:=List.getElem?_of_mem hx;obtain⟨r,h1,h2⟩:=xL (l:=[r0,r1,r2,r3]) (f:=Fx) hk;exact⟨k,r,(List.getElem?_eq_some_iff.mp h1).1,h2⟩
  obtain⟨k,r,k4,rfl⟩:=hx;have p0:(0:Int)<1*2 ^ (k:Int).toNat:=by rw[Int.one_mul];exact Int.pow_pos (by decide)
  have p1:(1*2 ^ (k:Int).toNat:Int)<64:=by
   have:k=0\/k=1\/k=2\/k=3:=by omega
   rcases this with rfl | rfl | rfl | rfl<;>decide
  have m0:=Gu ((c.fdiv 32).fdiv (1*2 ^ (k:Int).toNat)) (b:=2) (by decide)
  have m1:=GB ((c.fdiv 32).fdiv (1*2 ^ (k:Int).toNat)) (b:=2) (by decide)
  refine⟨sR (by decide) (by decide +kernel),⟨by omega,by omega,by decide⟩,sR (by omega) (lg64 p0 p1),cnz (by decide),FB.of (Dz m0 m1) ?_⟩;walk_at "rd"
 ·have el:(enD [Fx r0,Fx r1,Fx r2,Fx r3]).filterMap (λd=>match d with | .tup [.int k,r]=>some (if ((c.fdiv 32).fdiv (1*2 ^ k.toNat)).fmod 2=0 then r else .tup [.str "not",r]) | _=>none)=[if ((c.fdiv 32).fdiv (1*2 ^ (0:Nat))).fmod 2=0 then Fx r0 else .tup [.str "not",Fx r0],if ((c.fdiv 32).fdiv (1*2 ^ (1:Nat))).fmod 2=0 then Fx r1 else .tup [.str "not",Fx r1],if ((c.fdiv 32).fdiv (1*2 ^ (2:Nat))).fmod 2=0 then Fx r2 else .tup [.str "not",Fx r2],if ((c.fdiv 32).fdiv (1*2 ^ (3:Nat))).fmod 2=0 then Fx r3 else .tup [.str "not",Fx r3]]:=rfl
  rw[el,lf_D,lf_D,lf_D,lf_D];have g0:=hr r0 (by simp);have g1:=hr r1 (by simp);have g2:=hr r2 (by simp);have g3:=hr r3 (by simp);generalize decide (((c.fdiv 32).fdiv (1*2 ^ (0:Nat))).fmod 2≠0)=b0;generalize decide (((c.fdiv 32).fdiv (1*2 ^ (1:Nat))).fmod 2≠0)=b1;generalize decide (((c.fdiv 32).fdiv (1*2 ^ (2:Nat))).fmod 2≠0)=b2;generalize decide (((c.fdiv 32).fdiv (1*2 ^ (3:Nat))).fmod 2≠0)=b3;walk_at "rd";rw[hK1];have d0:=qr b0 r0;have d1:=qr b1 r1;have d2:=qr b2 r2;have d3:=qr b3 r3;have o0:=vy (b:=b0) g0;have o1:=vy (b:=b1) g1;have o2:=vy (b:=b2) g2;have o3:=vy (b:=b3) g3;have t0:=vP (b:=b0) g0;have t1:=vP (b:=b1) g1;have t2:=vP (b:=b2) g2;have t3:=vP (b:=b3) g3;refine ag λK2 hK2=>?_;walk_at "rd";refine⟨by show 5<=9000;decide,?_⟩;rw[hK2];refine ag λK3 hK3=>?_;walk_at "rd";rw[hK3];refine ag λK4 hK4=>?_;walk_at "rd";rw[hK4];refine ag λK5 hK5=>?_;walk_at "rd";rw[hK5];walk_at "rd";have m0:=Gu c (b:=11) (by decide);have m1:=GB c (b:=11) (by decide);refine⟨cnz (by decide),?_⟩;generalize c.fmod 11=m at *;have fw:∀s:FE,s.dep<=10->s.ok S4->s.bt 34->(s.pl false).num<=4->(s.pl false).long<=3->R s.D:=λs a b c d e=>q s ⟨a,b,c,d,e⟩;have hm:m=0\/m=1\/m=2\/m=3\/m=4\/m=5\/m=6\/m=7\/m=8\/m=9\/m=10:=by omega
  have few:∀s:FE,(s.pl false).num<=4->(s.pl false).long<=3->(s.pl false).num<=4/\(s.pl false).long<=3:=λs a b=>⟨a,b⟩
  clear few
  rcases hm with rfl | rfl | rfl | rfl | rfl | rfl | rfl | rfl | rfl | rfl | rfl
  ·refine fw (lf b0 r0) ?_ o0 t0 ?_ ?_
   ·first | omega | (simp only[FE.dep];omega)
   ·simp[FE.pl,FE.num,FE.long,bA,aV]
   ·simp[FE.pl,FE.num,FE.long,bA,aV]
  ·refine fw (.bo (lf b0 r0) (lf b1 r1)) ?_ ⟨o0,o1⟩ ⟨t0,t1⟩ ?_ ?_
   ·first | omega | (simp only[FE.dep];omega)
   ·simp[FE.pl,FE.num,FE.long,bA,aV]
   ·simp[FE.pl,FE.num,FE.long,bA,aV]
  ·refine fw (.ei (lf b0 r0) (lf b1 r1)) ?_ ⟨o0,o1⟩ ⟨t0,t1⟩ ?_ ?_
   ·first | omega | (simp only[FE.dep];omega)
   ·simp[FE.pl,FE.num,FE.long,bA,aV]
   ·simp[FE.pl,FE.num,FE.long,bA,aV]
  ·refine fw (.bo (lf b0 r0) (.ei (lf b1 r1) (lf b2 r2))) ?_ ⟨o0,⟨o1,o2⟩⟩ ⟨t0,⟨t1,t2⟩⟩ ?_ ?_
   ·first | omega | (simp only[FE.dep];omega)
   ·simp[FE.pl,FE.num,FE.long,bA,aV]
   ·simp[FE.pl,FE.num,FE.long,bA,aV]
  ·refine fw (.ei (.bo (lf b0 r0) (lf b1 r1)) (lf b2 r2)) ?_ ⟨⟨o0,o1⟩,o2⟩ ⟨⟨t0,t1⟩,t2⟩ ?_ ?_
   ·first | omega | (simp only[FE.dep];omega)
   ·simp[FE.pl,FE.num,FE.long,bA,aV]
   ·simp[FE.pl,FE.num,FE.long,bA,aV]
  ·refine fw (.bo (.bo (lf b0 r0) (lf b1 r1)) (lf b2 r2)) ?_ ⟨⟨o0,o1⟩,o2⟩ ⟨⟨t0,t1⟩,t2⟩ ?_ ?_
   ·first | omega | (simp only[FE.dep];omega)
   ·simp[FE.pl,FE.num,FE.long,bA,aV]
   ·simp[FE.pl,FE.num,FE.long,bA,aV]
  ·refine fw (.ei (.ei (lf b0 r0) (lf b1 r1)) (.ei (lf b2 r2) (lf b3 r3))) ?_ ⟨⟨o0,o1⟩,⟨o2,o3⟩⟩ ⟨⟨t0,t1⟩,⟨t2,t3⟩⟩ ?_ ?_
   ·first | omega | (simp only[FE.dep];omega)
   ·simp[FE.pl,FE.num,FE.long,bA,aV]
   ·simp[FE.pl,FE.num,FE.long,bA,aV]
  ·refine fw (.bo (.ei (lf b0 r0) (lf b1 r1)) (.ei (lf b2 r2) (lf b3 r3))) ?_ ⟨⟨o0,o1⟩,⟨o2,o3⟩⟩ ⟨⟨t0,t1⟩,⟨t2,t3⟩⟩ ?_ ?_
   ·first | omega | (simp only[FE.dep];omega)
   ·simp[FE.pl,FE.num,FE.long,bA,aV]
   ·simp[FE.pl,FE.num,FE.long,bA,aV]
  ·refine fw (.nt (.bo (lf b0 r0) (.nt (lf b1 r1)))) ?_ ⟨o0,o1⟩ ⟨t0,t1⟩ ?_ ?_
   ·first | omega | (simp only[FE.dep];omega)
   ·simp[FE.pl,FE.num,FE.long,bA,aV]
   ·simp[FE.pl,FE.num,FE.long,bA,aV]
  ·refine fw (.nt (.ei (lf b0 r0) (.ei (lf b1 r1) (lf b2 r2)))) ?_ ⟨o0,⟨o1,o2⟩⟩ ⟨t0,⟨t1,t2⟩⟩ ?_ ?_
   ·first | omega | (simp only[FE.dep];omega)
   ·simp[FE.pl,FE.num,FE.long,bA,aV]
   ·simp[FE.pl,FE.num,FE.long,bA,aV]
  ·refine fw (.nt (.bo (.ei (lf b0 r0) (lf b1 r1)) (.ei (lf b2 r2) (lf b3 r3)))) ?_ ⟨⟨o0,o1⟩,⟨o2,o3⟩⟩ ⟨⟨t0,t1⟩,⟨t2,t3⟩⟩ ?_ ?_
   ·first | omega | (simp only[FE.dep];omega)
   ·simp[FE.pl,FE.num,FE.long,bA,aV]
   ·simp[FE.pl,FE.num,FE.long,bA,aV]
inductive eh(ds:List D)(R:D->Prop):Prop
 | mk (ns:List Int) (hh:ds=[.fz (ns.map D.int)]/\ns.length<=63/\(∀n∈ns,ib n<=1048576)/\∀a b:FE,Sg a->Sg b->R (.lst [a.D,b.D]))
def fE:∀ds R,eh ds R->ds.length=1:=λ_ _ ⟨_,e,_⟩=>by rw[e];rfl
def pz{ns:List Int}{g:Int->Int}{m:Nat}:((List.range m).map λ(i:Nat)=>D.int (i:Int)).filterMap (λd=>match d with | .int k=>some (D.int (g k)) | _=>none)=((List.range m).map λ(i:Nat)=>g i).map D.int:=by
 rw[GG];exact aN _ _ _ _ λx _=>rfl
def kc:∀s:FE,DL.D.im s.D=true
 | .row k ts b=>Ej (k,ts,b)
 | .nt s=>by show D.im (.tup [.str "not",s.D])=true;simp only[D.im,D.ims,kc s];rfl
 | .bo s t=>by show D.im (.tup [.str "both",s.D,t.D])=true;simp only[D.im,D.ims,kc s,kc t];rfl
 | .ei s t=>by show D.im (.tup [.str "either",s.D,t.D])=true;simp only[D.im,D.ims,kc s,kc t];rfl
def aS:aw ["_law_script","_law_fence_here","_law_found","_law_side","_law_rows","_law_k","_law_cells"] ["_law_script"] (ap s__law_sayings):=by walk_at "sc"
def gN(Z:Zz):Z.C 3 "_law_sayings" ["_law_script"] (Fh Z.K eh):=by
 refine cq Z.d__law_sayings aS fE λfa cdv A outer s H E ds R hr h=>?_;have hU:=hr.units;refine⟨_,(ad (cN 1 aS.nd ["_law_k"] [(0,"_law_script")] rfl rfl (by decide +kernel) rfl (by decide +kernel) (bh ⟨rfl,trivial⟩) (bn rfl) (aL ⟨⟨rfl,rfl,.inl rfl⟩,trivial⟩) (kK rfl Z.z_range (ac am ae)) λ_ _ _ _ _=>⟨(ar 0 (show List.Nodup (["_law_k","_law_script"]:List Str) by decide +kernel)),cM,(aq (cB Z) (rm hr) rfl (ac (aq (cv Z) (rm hr) rfl (ac (ak 1) (ac (ax aP am (ak 0)) ae))) ae))⟩) (ad (cE 2 aS.nd ae) (ad (kn Gh rfl rfl Z.z_range (ac am ae) (ar 3 aS.nd) (ad (cE 4 aS.nd ae) (ad (kn Gh rfl rfl Z.z_range (ac am ae) (ar 5 aS.nd) (ad (cN 6 aS.nd ["_law_j"] [(0,"_law_script"),(3,"_law_side"),(5,"_law_k")] rfl rfl (by decide +kernel) rfl (by decide +kernel) (bh ⟨rfl,rfl,rfl,trivial⟩) (bn rfl) (aL ⟨⟨rfl,rfl,.inl rfl⟩,⟨rfl,rfl,.inl rfl⟩,⟨rfl,rfl,.inl rfl⟩,trivial⟩) (kK rfl Z.z_range (ac am ae)) λ_ _ _ _ _=>⟨(ar 0 (show List.Nodup (["_law_j","_law_script","_law_side","_law_k"]:List Str) by decide +kernel)),cM,(aq (cv Z) (rm hr) rfl (ac (ak 1) (ac (ax aP (ax aP (ax aP am (ax a5 am (ak 2))) (ax a5 am (ak 3))) (ak 0)) ae)))⟩) (af (aR (aC (dw hU) (ax eQ (ax dA (aq (cv Z) (rm hr) rfl (ac (ak 0) (ac am ae))) am) am) am (aA _)) (af (aQ 4 (aq (jS Z) (rm hr) rfl (ac (ak 6) (ac (ak 1) (ac (ak 3) ae)))))) (af (aQ 4 (aq (kq Z) (rm hr) rfl (ac (ak 6) (ac (dW dX (a6 (ac (a6 (ac au (ac au (ac au ae)))) (ac (a6 (ac au (ac au (ac au ae)))) ae))) (ak 3) (λ_ _=>rfl)) ae))))))))) (af (aQ 2 (yx 4 (jq Z) (rm hr) rfl (aq (cv Z) (rm hr) rfl (ac (ak 0) (ac (ak 3) ae))))))))) (bL 2 (af (av (ak 2))))))),?_⟩
 obtain⟨ns,rfl,h63,hb,q⟩:=h;have cbt:∀k,ib (cW ns k)<=1048576:=λk=>sH hb k;refine ag λK1 hK1=>?_;walk_at "rd";refine⟨by decide,by decide,by decide,λd=>match d with | .int k=>some (.int (xD (cW ns (2+k)))) | _=>none,λx hx=>?_,?_⟩
 ·obtain⟨k,hk,rfl⟩:=FV.mp hx;exact⟨ns,_,rfl,by omega,_,rfl,FX (cbt _) (by decide),rfl,rfl⟩
 rw[show Int.toNat 3=3 from rfl,pz (ns:=ns) (g:=λk=>xD (cW ns (2+k))),hK1];generalize hfs:(List.range 3).map (λ(i:Nat)=>xD (cW ns (2+(i:Int))))=fs;have f3:fs.length=3:=by rw[<- hfs,FR,GN]
 have f30:∀f∈fs,ib f<=30:=λf hf=>by
  rw[<- hfs] at hf;obtain⟨i,_,rfl⟩:=FV.mp hf;exact eZ _
 clear hfs;refine ag λK2 hK2=>?_;walk_at "rd";intro oa;rw[hK2];refine ag λK3 hK3=>?_;refine kQ λF N hF hN=>?_;walk_at "rd";simp only[qg];walk_at "rd";refine⟨by decide,by decide,λi δ=>∃(ss:List FE) (x y z u:Sl),δ=[.dat (.fz (ns.map D.int)),.dat (.lst (fs.map D.int)),.own oa (.lst (ss.map FE.D)),x,y,z,u]/\ss.length=i/\∀s∈ss,Sg s,⟨[],_,_,_,_,rfl,rfl,λ_ h=>(nomatch h)⟩,?_,?_⟩
 ·rintro i δ hi ⟨ss,x,y,z,u,rfl,hl,hss⟩;have hi:i<2:=hi;rw[hF];show dL _ _ _ _;refine b6 λK4 hK4=>?_;walk_at "rd";intro ra;rw[hK4];refine ag λK5 hK5=>?_;refine kQ λF2 N2 hF2 hN2=>?_;walk_at "rd";simp only[qg];walk_at "rd";refine⟨by decide,by decide,λj δ=>∃(rows:List Rw) (z u:Sl),δ=[.dat (.fz (ns.map D.int)),.dat (.lst (fs.map D.int)),.own oa (.lst (ss.map FE.D)),.dat (.int (i:Int)),.own ra (.lst (rows.map Fx)),z,u]/\rows.length=j/\∀r∈rows,Rg r,⟨[],_,_,rfl,rfl,λ_ h=>(nomatch h)⟩,?_,?_⟩
  ·rintro j δ hj ⟨rows,z,u,rfl,hlr,hrs⟩;have hj:j<4:=hj;rw[hF2];show dL _ _ _ _;refine b6 λK6 hK6=>?_;walk_at "rd";refine⟨by decide,by decide,by decide,λd=>match d with | .int k=>some (.int (cW ns (5+20*(i:Int)+5*(j:Int)+k))) | _=>none,λx hx=>?_,?_⟩
   ·obtain⟨k,hk,rfl⟩:=FV.mp hx;exact⟨Hw (by decide),Hw (by decide),ns,_,rfl,by omega,rfl,rfl⟩
   rw[show Int.toNat 5=5 from rfl,pz (ns:=ns) (g:=λk=>cW ns (5+20*(i:Int)+5*(j:Int)+k)),hK6];generalize hcs:(List.range 5).map (λ(k:Nat)=>cW ns (5+20*(i:Int)+5*(j:Int)+(k:Int)))=cs;have c5:cs.length=5:=by rw[<- hcs,FR,GN]
   have cb:∀c∈cs,ib c<=1048600:=λf hf=>by
    rw[<- hcs] at hf;obtain⟨k,_,rfl⟩:=FV.mp hf;exact FX (cbt _) (by decide)
   clear hcs;have app:∀r:Rw,Rg r->∃rows':List Rw,rows.map Fx++[Fx r]=rows'.map Fx/\rows'.length=j+1/\∀r∈rows',Rg r:=λr hr=>⟨rows++[r],by rw[Gj];rfl,by rw[F1,HC,hlr],λr' hr'=>(F9.mp hr').elim (hrs r') λz=>by rw[F6.mp z];exact hr⟩;walk_at "rd";refine⟨ns,0,rfl,by decide,?_⟩;walk_at "rd";have hii:i=0\/i=1:=by omega
   refine⟨sR (by decide) (by decide +kernel),cnz (by decide),f6 (λ_=>?_) λ_=>?_⟩
   ·refine⟨cs,fs,_,rfl,c5,f3,f30,by omega,λr hr=>?_⟩;walk_at "rd";exact⟨by rw[FR];omega,app r hr⟩
   ·rcases hii with rfl | rfl
    ·refine⟨cs,["a","b","c"],rfl,c5,cb,rfl,by decide +kernel,λr hr=>?_⟩;walk_at "rd";exact⟨by rw[FR];omega,app r hr⟩
    ·refine⟨cs,["b","c","d"],rfl,c5,cb,rfl,by decide +kernel,λr hr=>?_⟩;walk_at "rd";exact⟨by rw[FR];omega,app r hr⟩
  ·rintro δ ⟨rows,z,u,rfl,hlr,hrs⟩;have hlr:rows.length=4:=hlr;rw[hN2,hK5];walk_at "rd";refine⟨ns,_,rfl,by omega,rows,_,rfl,hlr,hrs,λs hs=>?_⟩;walk_at "rd";exact⟨kc s,by rw[FR];omega,ss++[s],by rw[Gj];rfl,by rw[F1,HC,hl],λs' hs'=>(F9.mp hs').elim (hss s') λz=>by rw[F6.mp z];exact hs⟩
 ·rintro δ ⟨ss,x,y,z,u,rfl,hl,hss⟩;have hl:ss.length=2:=hl;rw[hN,hK3];walk_at "rd"
  match ss,hl with
  | [a,b],_=>exact q a b (hss a (by simp)) (hss b (by simp))
inductive cz(n:Nat)(ds:List D)(R:D->Prop):Prop
 | mk (s:FE) (ks:List Str) (ps:List (Int×Int)) (names:List Str) (hh:ds=[s.D,.fd ks (ps.map Ff)]/\s.dep<=n/\s.ok names/\names.Nodup/\names.length<=60/\(∀x∈s.nms,x∈ks)/\Pk ks ps/\R (.bl (s.tv (pT ks ps) (pB ks ps))))
def lD(n:Nat):∀ds R,cz n ds R->ds.length=2:=λ_ _ ⟨_,_,_,_,e,_⟩=>by rw[e];rfl
def jU:∀ds R,¬ cz 0 ds R:=λ_ _ ⟨s,_,_,_,_,h,_⟩=>by have:=s.dep_pos;omega
def rc:aw ["_law_saying","_law_point"] ["_law_saying","_law_point"] (ap s__law_so):=by walk_at "sc"
def mC(Z:Zz){n:Nat}(dz:Z.C (3+n) "_law_so" ["_law_saying","_law_point"] (Fh Z.K (cz n))):Z.C (3+n+1) "_law_so" ["_law_saying","_law_point"] (Fh Z.K (cz (n+1))):=by
 refine cq (k:=3+n) Z.d__law_so rc (lD (n+1)) λfa cdv A outer s H E ds R hr h=>?_;have hU:=hr.units;refine⟨_,(ad (aR (aC (dw hU) (Fl 0) au (aA _)) (af (av (o8 (aq dz (hr.mono (by omega)) rfl (ac (Fl 0) (ac (ak 1) ae)))))) aD) (ad (aR (aC (dw hU) (Fl 0) au (aA _)) (af (av (j8 (aq dz (hr.mono (by omega)) rfl (ac (Fl 0) (ac (ak 1) ae))) (d9 (aq dz (hr.mono (by omega)) rfl (ac (Fl 0) (ac (ak 1) ae))))))) aD) (ad (aR (aC (dw hU) (Fl 0) au (aA _)) (af (av (vx (aq dz (hr.mono (by omega)) rfl (ac (Fl 0) (ac (ak 1) ae))) (d9 (aq dz (hr.mono (by omega)) rfl (ac (Fl 0) (ac (ak 1) ae))))))) aD) (af (av (aq (jz Z) (hr.mono (by omega)) rfl (ac (ak 0) (ac (ak 1) ae)))))))),?_⟩;obtain⟨s,ks,ps,names,rfl,hd,ok,nnd,nl,hin,P,q⟩:=h;refine ag λK1 hK1=>?_
 cases s with
 | row k ts b =>
  unfold FE.D eY;have k1:kdS k≠"not":=by cases k<;>decide
  have k2:kdS k≠"both":=by cases k<;>decide
  have k3:kdS k≠"either":=by cases k<;>decide
  walk_at "rd";refine FK k1 ?_;rw[hK1];refine ag λK2 hK2=>?_;walk_at "rd";refine FK k2 ?_;rw[hK2];refine ag λK3 hK3=>?_;walk_at "rd";refine FK k3 ?_;rw[hK3];walk_at "rd";refine⟨(k,ts,b),ks,ps,rfl,nnd.sublist ok.1.sub,?_,ok.2,λt ht=>⟨hin _ (FV.mpr ⟨t,ht,rfl⟩),ok.1.bits t ht⟩,P,q⟩;have:=ok.1.sub.length_le;rw[FR] at this;show ts.length<=60;omega
 | nt s =>
  unfold FE.D;walk_at "rd";have hd:s.dep+1<=n+1:=hd;exact⟨s,ks,ps,names,rfl,by omega,ok,nnd,nl,hin,P,q⟩
 | bo s t =>
  unfold FE.D;have hd:max s.dep t.dep+1<=n+1:=hd;have q:R (.bl (s.tv (pT ks ps) (pB ks ps)&&t.tv (pT ks ps) (pB ks ps))):=q;walk_at "rd";refine FK (by decide) ?_;rw[hK1];refine ag λK2 hK2=>?_;walk_at "rd";refine⟨s,ks,ps,names,rfl,by omega,ok.1,nnd,nl,λx hx=>hin x (FZ _ hx),P,?_⟩
  cases e:s.tv (pT ks ps) (pB ks ps) with
  | true =>
   rw[e] at q;exact⟨t,ks,ps,names,rfl,by omega,ok.2,nnd,nl,λx hx=>hin x (F5 _ hx),P,q⟩
  | false =>
   rw[e] at q;exact q
 | ei s t =>
  unfold FE.D;have hd:max s.dep t.dep+1<=n+1:=hd;have q:R (.bl (s.tv (pT ks ps) (pB ks ps)||t.tv (pT ks ps) (pB ks ps))):=q;walk_at "rd";refine FK (by decide) ?_;rw[hK1];refine ag λK2 hK2=>?_;walk_at "rd";refine FK (by decide) ?_;rw[hK2];refine ag λK3 hK3=>?_;walk_at "rd";refine⟨s,ks,ps,names,rfl,by omega,ok.1,nnd,nl,λx hx=>hin x (FZ _ hx),P,?_⟩
  cases e:s.tv (pT ks ps) (pB ks ps) with
  | true =>
   rw[e] at q;exact q
  | false =>
   rw[e] at q;exact⟨t,ks,ps,names,rfl,by omega,ok.2,nnd,nl,λx hx=>hin x (F5 _ hx),P,q⟩
def eS(Z:Zz):Z.C 63 "_law_so" ["_law_saying","_law_point"] (Fh Z.K (cz 60)):=Nat.rec (motive:=λn=>Z.C (3+n) "_law_so" ["_law_saying","_law_point"] (Fh Z.K (cz n))) (dS Z.d__law_so _ jU) (λ_=>mC Z) 60
def sQ{c:TDT}(h:∀A B:En->Prop,A=t R->B=u R->c δ λb δ1=>if b=true then A δ1 else B δ1):dIf c t u R δ:=h _ _ rfl rfl
inductive bJ(n:Nat)(ds:List D)(R:D->Prop):Prop
 | mk (s:FE) (S:List Str) (hh:ds=[s.D]/\s.dep<=n/\s.ok S/\S.Pairwise leS/\S.Nodup/\S.length<=4/\∀ss:List Str,ss.Nodup->(∀y,y∈ss↔y∈s.nms)->ss.Pairwise leS->R (.lst (ss.map D.str)))
def hE(n:Nat):∀ds R,bJ n ds R->ds.length=1:=λ_ _ ⟨_,_,e,_⟩=>by rw[e];rfl
def fT:∀ds R,¬ bJ 0 ds R:=λ_ _ ⟨s,_,_,h,_⟩=>by have:=s.dep_pos;omega
def ko:aw ["_law_saying"] ["_law_saying"] (ap s__law_names):=by walk_at "sc"
def je(Z:Zz){n:Nat}(dE:Z.C (1+n) "_law_names" ["_law_saying"] (Fh Z.K (bJ n))):Z.C (1+n+1) "_law_names" ["_law_saying"] (Fh Z.K (bJ (n+1))):=by
 refine cq (k:=1+n) Z.d__law_names ko (hE (n+1)) λfa cdv A outer s H E ds R hr h=>?_;have hU:=hr.units;refine⟨_,(ad (aR (aC (dw hU) (Fl 0) au (aA _)) (af (av (aq dE (hr.mono (by omega)) rfl (ac (Fl 0) ae)))) aD) (ad (aR (DW.dt (jv (aC (dw hU) (Fl 0) au (aA _)) (gB (aC (dw hU) (Fl 0) au (aA _))))) (af (av (Cc rfl rfl Z.z_sorted rfl Z.z_set (ax aP (aq dE (hr.mono (by omega)) rfl (ac (Fl 0) ae)) (aq dE (hr.mono (by omega)) rfl (ac (Fl 0) ae)))))) aD) (af (av (bT ["_law_name","_law_weight"] [] rfl rfl (by decide +kernel) rfl (by decide +kernel) (bh trivial) (bn rfl) (aL trivial) (kg (Fl 0)) λ_ _ _ _ _=>⟨(cj (n:=2) rfl (aB (ar 0 (show List.Nodup (["_law_name","_law_weight"]:List Str) by decide +kernel)) (aB (ar 1 (show List.Nodup (["_law_name","_law_weight"]:List Str) by decide +kernel)) bf))),cM,(ak 0)⟩))))),?_⟩;obtain⟨s,S,rfl,hd,ok,pw,nd,hl,q⟩:=h;refine ag λK1 h1=>?_
 cases s with
 | row k ts b =>
  unfold FE.D eY;walk_at "rd";refine FK (by cases k<;>decide) ?_
  rw[h1];refine ag λK2 h2=>?_;walk_at "rd";refine FK (by cases k<;>decide) (FK (by cases k<;>decide) ?_)
  rw[h2];walk_at "rd";have tl:=ok.1.sub.length_le;rw[FR] at tl;refine⟨by rw[FR];omega,λd=>match d with | .tup (x::_)=>some x | _=>none,λx hx=>?_,?_⟩
  ·obtain⟨t,ht,rfl⟩:=FV.mp hx;rfl
  ·rw[aN _ Fk (λt=>D.str t.1) _ (by intro _ _;rfl)];have:=q (ts.map (·.1)) (nd.sublist ok.1.sub) (λy=>Iff.rfl) (pw.sublist ok.1.sub);rw[GG] at this;exact this
 | nt s =>
  have hd:s.dep+1<=n+1:=hd
  unfold FE.D;walk_at "rd";exact⟨s,S,rfl,by omega,ok,pw,nd,hl,q⟩
 | bo s u =>
  have hd:max s.dep u.dep+1<=n+1:=hd
  unfold FE.D;walk_at "rd";refine FK (by decide) ?_;rw[h1];refine ag λK2 h2=>?_;walk_at "rd";refine⟨s,S,rfl,by omega,ok.1,pw,nd,hl,λs1 n1 m1 p1=>⟨u,S,rfl,by omega,ok.2,pw,nd,hl,λs2 n2 m2 p2=>?_⟩⟩;have k1:s1.length<=4:=FX (eT n1 λx hx=>FE.nms_sub ok.1 x ((m1 x).mp hx)) hl;have k2:s2.length<=4:=FX (eT n2 λx hx=>FE.nms_sub ok.2 x ((m2 x).mp hx)) hl;walk_at "rd";exact⟨by rw[FR,FR];omega,s1++s2,by rw[Gj],by rw[F1];omega,λs3 n3 m3 st=>q s3 n3 (λy=>by rw[m3 y,F9,m1,m2];exact F9.symm) (l6 st)⟩
 | ei s u =>
  have hd:max s.dep u.dep+1<=n+1:=hd
  unfold FE.D;walk_at "rd";refine FK (by decide) ?_;rw[h1];refine ag λK2 h2=>?_;walk_at "rd";refine FK (by decide) ?_;refine⟨s,S,rfl,by omega,ok.1,pw,nd,hl,λs1 n1 m1 p1=>⟨u,S,rfl,by omega,ok.2,pw,nd,hl,λs2 n2 m2 p2=>?_⟩⟩;have k1:s1.length<=4:=FX (eT n1 λx hx=>FE.nms_sub ok.1 x ((m1 x).mp hx)) hl;have k2:s2.length<=4:=FX (eT n2 λx hx=>FE.nms_sub ok.2 x ((m2 x).mp hx)) hl;walk_at "rd";exact⟨by rw[FR,FR];omega,s1++s2,by rw[Gj],by rw[F1];omega,λs3 n3 m3 st=>q s3 n3 (λy=>by rw[m3 y,F9,m1,m2];exact F9.symm) (l6 st)⟩
def d8(Z:Zz):Z.C 61 "_law_names" ["_law_saying"] (Fh Z.K (bJ 60)):=Nat.rec (motive:=λn=>Z.C (1+n) "_law_names" ["_law_saying"] (Fh Z.K (bJ n))) (dS Z.d__law_names _ fT) (λ_=>je Z) 60
def FE.bt_mono{B C:Nat}(h:B<=C):∀ {s:FE},s.bt B->s.bt C
 | .row _ _ _,o=>⟨λt ht=>FX (o.1 t ht) h,FX o.2 h⟩
 | .nt s,o=>FE.bt_mono (s:=s) h o
 | .bo s t,o=>⟨FE.bt_mono h o.1,FE.bt_mono h o.2⟩
 | .ei s t,o=>⟨FE.bt_mono h o.1,FE.bt_mono h o.2⟩
structure Sz(S:List Str)(s:FE):Prop where
 dep:s.dep<=20
 ok:s.ok S
 bt:s.bt 64
 few:(s.pl false).num<=4/\(s.pl false).long<=3
def fh{S:List Str}{p:Str->Bool}:∀ {s:FE},s.ok S->(∀n∈s.nms,p n=true)->s.ok (S.filter p)
 | .row k ts b,h,hn=>⟨⟨by
   have e:(ts.map (·.1)).filter p=ts.map (·.1):=List.filter_eq_self.mpr hn
   rw[<- e];exact h.1.sub.filter p,h.1.nz,h.1.bits⟩,h.2⟩
 | .nt s,h,hn=>fh (s:=s) h hn
 | .bo s t,h,hn=>⟨fh h.1 λn z=>hn n (FZ _ z),fh h.2 λn z=>hn n (F5 _ z)⟩
 | .ei s t,h,hn=>⟨fh h.1 λn z=>hn n (FZ _ z),fh h.2 λn z=>hn n (F5 _ z)⟩
def Sz.two{S:List Str}{a b:FE}(ha:Sz S a)(hb:Sz S b)(pw:S.Pairwise leS)(nd:S.Nodup)(h4:S.length=4):∃nm,Two a b nm 64 4:=by
 have mem:∀n,n∈S.filter (λn=>decide (n∈a.nms\/n∈b.nms))↔n∈a.nms\/n∈b.nms:=λn=>by
  rw[Ga,decide_eq_true_iff];exact⟨λh=>h.2,λh=>⟨h.elim (FE.nms_sub ha.ok n) (FE.nms_sub hb.ok n),h⟩⟩
 have l4:(S.filter (λn=>decide (n∈a.nms\/n∈b.nms))).length<=4:=by rw[<- h4];exact HH ..
 exact⟨_,by have:=ha.dep;omega,by have:=hb.dep;omega,fh ha.ok λn h=>Gz (.inl h),fh hb.ok λn h=>Gz (.inr h),ha.bt,hb.bt,ha.few,hb.few,pw.filter _,nd.filter _,mem,l4,by decide,by decide,.inl (E8 l4)⟩
def oW{P:FE->Prop}{f:FE->FE->FE}(hf:∀s t,P s->P t->P (f s t)):∀ {l:List FE},l≠[]->(∀s∈l,P s)->P (join f l)
 | [],hl,_=>absurd rfl hl
 | s::l,_,h=>by
  have go:∀(l:List FE) (s:FE),P s->(∀t∈l,P t)->P (l.foldl f s):=λl=>by
   induction l with
   | nil=>exact λs h _=>h
   | cons t l ih=>exact λs h h2=>ih (f s t) (hf s t h (h2 t (FW ..))) λu hu=>h2 u (FU _ hu)
  exact go l s (h s (FW ..)) λt ht=>h t (FU _ ht)
def xX{w:List Int}{S:List Str}(Sh:jN (c++d) w)(h:(∀r∈c,∀t∈r.2.1,t.1∈S)\/∀r∈d,∀t∈r.2.1,t.1∈S):∀t∈(Ft nm c (w.take c.length)).2.1,t.1∈S:=λt ht=>by
 obtain⟨_,hz,_⟩:=eN ht;have e:=Sh.no t.1;rw[uX Sh.wt.len,oN] at e
 rcases h with h | h
 ·exact kL (λp hp=>h p.1 (Gr hp).1) hz
 ·exact kL (l:=d.zip (w.drop c.length)) (λp hp=>h p.1 (Gr hp).1) λz=>hz (by omega)
def DV{a b:FE}(T:Two a b nm 64 4)(hc:c∈(a.pl false).kr)(hd:d∈(b.pl false).kr)(Sh:jN (c++d) (wOf nm (c++d)))(hw:∀z∈wOf nm (c++d),ib z<=wb 64 6 nm.length) :
  (nX (mdR nm c d)).ok nm/\∀n∈(nX (mdR nm c d)).nms,n∈a.nms/\n∈b.nms:=by
 have F:=(T.fit hc hd).1
 have Hc:Fz nm c:=⟨F.H.pw,F.H.nd,λr hr=>F.H.sum r (FZ _ hr),λr hr=>F.H.sub r (FZ _ hr)⟩
 have hB:RwB 64 c:=⟨λr hr=>F.hB.tm r (FZ _ hr),λr hr=>F.hB.bd r (FZ _ hr)⟩
 have l3:=(T.lens hc hd).1
 have hw2:∀z∈(wOf nm (c++d)).take c.length,ib z<=7990:=λz hz=>FX (hw z (GS hz)) (FX (xj (FX T.len (by decide))) T.wN)
 have inn:∀n∈(nX (mdR nm c d)).nms,n∈a.nms/\n∈b.nms:=λn hn=>by
  obtain⟨t,ht,rfl⟩:=FV.mp hn;refine⟨xX (S:=a.nms) Sh (.inl λr hr t ht=>?_) t ht,xX (S:=b.nms) Sh (.inr λr hr t ht=>?_) t ht⟩
  ·have:=(FE.kr_row (FE.pl_ok (fh (p:=λn=>decide (n∈a.nms)) T.oa λn h=>Gz h)) (FE.pl_bt T.ta) c hc r hr).1.sub.subset (FV.mpr ⟨t,ht,rfl⟩)
   exact Ip (Ga.mp this).2
  ·have:=(FE.kr_row (FE.pl_ok (fh (p:=λn=>decide (n∈b.nms)) T.ob λn h=>Gz h)) (FE.pl_bt T.tb) d hd r hr).1.sub.subset (FV.mpr ⟨t,ht,rfl⟩)
   exact Ip (Ga.mp this).2
 have sm:=Hc.smT ((wOf nm (c++d)).take c.length)
 refine⟨⟨⟨kh sm.pw sm.nd T.pw T.nd λn hn=>(T.mem n).mpr (.inl (inn n hn).1),λt ht=>?_,λt ht=>?_⟩,FX (Fz.bdb hB hw2) (by omega)⟩,inn⟩
 ·obtain⟨_,z,e⟩:=eN ht;rw[e];exact z
 ·obtain⟨_,_,e⟩:=eN ht;rw[e];exact FX (Hc.cfb hB hw2 _) (by omega)
def FE.pts:FE->Nat
 | .row _ _ _=>1
 | .nt s=>s.pts+1
 | .bo s t=>s.pts+t.pts+1
 | .ei s t=>s.pts+t.pts+1
def FE.dep_pts:∀s:FE,s.dep<=s.pts
 | .row _ _ _=>F3 1
 | .nt s=>Nat.succ_le_succ s.dep_pts
 | .bo s t=>by have:=s.dep_pts;have:=t.dep_pts;show max s.dep t.dep+1<=s.pts+t.pts+1;omega
 | .ei s t=>by have:=s.dep_pts;have:=t.dep_pts;show max s.dep t.dep+1<=s.pts+t.pts+1;omega
def px{f:FE->FE->FE}(hf:∀s t,(f s t).pts=s.pts+t.pts+1){n:Nat}:∀ {l:List FE},l≠[]->(∀s∈l,s.pts<=n)->(join f l).pts<=(n+1)*l.length
 | [],hl,_=>absurd rfl hl
 | s::l,_,h=>by
  have go:∀(l:List FE) (s:FE) (m:Nat),s.pts<=m->(∀t∈l,t.pts<=n)->(l.foldl f s).pts<=m+(n+1)*l.length:=λl=>by
   induction l with
   | nil=>exact λs m h _=>h
   | cons t l ih =>
    intro s m h h2;have:=h2 t (FW ..);have:=ih (f s t) (m+(n+1)) (by rw[hf];omega) λu hu=>h2 u (FU _ hu);rw[F8,Nat.mul_succ];show (l.foldl f (f s t)).pts<=_;omega
  have:=go l s n (h s (FW ..)) λt ht=>h t (FU _ ht)
  rw[F8,Nat.mul_succ];show (l.foldl f s).pts<=_;omega
theorem EV{a b:FE}(T:Two a b nm 64 4)(sh:∀c∈(a.pl false).kr,∀d∈(b.pl false).kr,jN (c++d) (wOf nm (c++d))/\∀z∈wOf nm (c++d),ib z<=wb 64 6 nm.length) :
  ((mdl nm (a.pl false).kr (b.pl false).kr).ok nm/\∀n∈(mdl nm (a.pl false).kr (b.pl false).kr).nms,n∈a.nms/\n∈b.nms)/\(mdl nm (a.pl false).kr (b.pl false).kr).pts<=36:=by
 have nA:(a.pl false).kr≠[]:=λz=>by have:=FE.kr_num (s:=a.pl false) FE.pl_pn;rw[z] at this;have:=(a.pl false).num_pos;simp at *;omega
 have nB:(b.pl false).kr≠[]:=λz=>by have:=FE.kr_num (s:=b.pl false) FE.pl_pn;rw[z] at this;have:=(b.pl false).num_pos;simp at *;omega
 have kA:(a.pl false).kr.length<=4:=by rw[FE.kr_num FE.pl_pn];exact T.na.1
 have kB:(b.pl false).kr.length<=4:=by rw[FE.kr_num FE.pl_pn];exact T.nb.1
 constructor
 ·refine oW (f:=.ei) (P:=λs=>s.ok nm/\∀n∈s.nms,n∈a.nms/\n∈b.nms) (λs t hs ht=>⟨⟨hs.1,ht.1⟩,λn hn=>(F9.mp hn).elim (hs.2 n) (ht.2 n)⟩) (by simpa using nA) λs hs=>?_;obtain⟨c,hc,rfl⟩:=FV.mp hs;refine oW (f:=.bo) (P:=λs=>s.ok nm/\∀n∈s.nms,n∈a.nms/\n∈b.nms) (λs t hs ht=>⟨⟨hs.1,ht.1⟩,λn hn=>(F9.mp hn).elim (hs.2 n) (ht.2 n)⟩) (by simpa using nB) λs hs=>?_;obtain⟨d,hd,rfl⟩:=FV.mp hs;exact DV T hc hd (sh c hc d hd).1 (sh c hc d hd).2
 ·have:=px (f:=.ei) (λ_ _=>rfl) (n:=8) (l:=(a.pl false).kr.map λc=>mdC nm c (b.pl false).kr) (by simpa using nA) λs hs=>by
   obtain⟨c,hc,rfl⟩:=FV.mp hs;have:=px (f:=.bo) (λ_ _=>rfl) (n:=1) (l:=(b.pl false).kr.map λd=>nX (mdR nm c d)) (by simpa using nB) λs hs=>by
    obtain⟨d,hd,rfl⟩:=FV.mp hs;exact F3 1
   rw[FR] at this;show (join .bo _).pts<=8;omega
  rw[FR] at this;show (join .ei _).pts<=36;omega
def pc:∀w:List Str,D.nds (w.map D.str)=true
 | []=>rfl
 | a::w=>by rw[Go];simp only[D.nds,pc w];rfl
def oY:∀w:List Str,D.dps (w.map D.str)<=60
 | []=>by decide
 | a::w=>by rw[Go];have:=oY w;simp only[D.dps,D.dp];omega
def zE{xs ys:List D}{R:D->Prop}:fEq [.lst xs,.lst ys] R=(((xs=ys/\D.nds xs=true/\D.dps xs<=60)/\R (.bl true))\/(xs.length≠ys.length/\R (.bl false))):=rfl
def yy{k l:Kd}(h:kdS k=kdS l):k=l:=by cases k<;>cases l<;>first | rfl | exact absurd h (by decide)
def tK:∀ {a b:List (Str×Int)},a.map Fk=b.map Fk->a=b
 | [],[],_=>rfl
 | [],_::_,h=>by simp at h
 | _::_,[],h=>by simp at h
 | x::a,y::b,h=>by
  rw[Go,Go] at h
  injection h with h1 h2
  unfold Fk at h1;simp only[D.tup.injEq,List.cons.injEq,D.str.injEq,D.int.injEq,and_true] at h1;rw[tK h2,show x=y from Prod.ext h1.1 h1.2]
def FE.D_inj:∀ {s t:FE},s.D=t.D->s=t
 | .row k ts b,.row l us c,h=>by
  unfold FE.D eY at h;simp only[DL.D.tup.injEq,List.cons.injEq,DL.D.str.injEq,DL.D.int.injEq,and_true] at h;rw[yy h.1,tK h.2.1,h.2.2]
 | .nt s,.nt t,h=>by
  unfold FE.D at h;simp only[DL.D.tup.injEq,List.cons.injEq,and_true,true_and] at h;rw[FE.D_inj h]
 | .bo s u,.bo t v,h=>by
  unfold FE.D at h;simp only[DL.D.tup.injEq,List.cons.injEq,and_true,true_and] at h;rw[FE.D_inj h.1,FE.D_inj h.2]
 | .ei s u,.ei t v,h=>by
  unfold FE.D at h;simp only[DL.D.tup.injEq,List.cons.injEq,and_true,true_and] at h;rw[FE.D_inj h.1,FE.D_inj h.2]
 | .row k ts b,.nt t,h=>by unfold FE.D eY at h;simp at h
 | .row k ts b,.bo t v,h=>by unfold FE.D eY at h;simp at h;exact absurd h.1 (by cases k<;>decide)
 | .row k ts b,.ei t v,h=>by unfold FE.D eY at h;simp at h;exact absurd h.1 (by cases k<;>decide)
 | .nt t,.row k ts b,h=>by unfold FE.D eY at h;simp at h
 | .bo t v,.row k ts b,h=>by unfold FE.D eY at h;simp at h;exact absurd h.1 (by cases k<;>decide)
 | .ei t v,.row k ts b,h=>by unfold FE.D eY at h;simp at h;exact absurd h.1 (by cases k<;>decide)
 | .nt s,.bo t v,h=>by unfold FE.D at h;simp at h
 | .nt s,.ei t v,h=>by unfold FE.D at h;simp at h
 | .bo t v,.nt s,h=>by unfold FE.D at h;simp at h
 | .ei t v,.nt s,h=>by unfold FE.D at h;simp at h
 | .bo s u,.ei t v,h=>by unfold FE.D at h;simp at h;exact absurd h.1 (by decide)
 | .ei s u,.bo t v,h=>by unfold FE.D at h;simp at h;exact absurd h.1 (by decide)
noncomputable def FE.un (d:DL.D):FE:=@Classical.epsilon _ ⟨.row .least [] 0⟩ λs:FE=>s.D=d
def FE.un_D(s:FE):FE.un s.D=s:=FE.D_inj (Classical.epsilon_spec (p:=λt:FE=>t.D=s.D) ⟨s,rfl⟩)
def FE.two{s:FE}:(∃k ts b,s=.row k ts b)\/(∃u,s=.nt u)\/∃(w:Str) (u t:FE),(w="both"\/w="either")/\s.D=.tup [.str w,u.D,t.D]/\s.dep=max u.dep t.dep+1/\s.pts=u.pts+t.pts+1/\s.nms=u.nms++t.nms/\∀S,s.ok S->u.ok S/\t.ok S:=by
 cases s with
 | row k ts b=>exact .inl ⟨k,ts,b,rfl⟩
 | nt u=>exact .inr (.inl ⟨u,rfl⟩)
 | bo u t=>exact .inr (.inr ⟨_,u,t,.inl rfl,rfl,rfl,rfl,rfl,λ_ h=>h⟩)
 | ei u t=>exact .inr (.inr ⟨_,u,t,.inr rfl,rfl,rfl,rfl,rfl,λ_ h=>h⟩)
inductive bv(n:Nat)(ds:List D)(R:D->Prop):Prop
 | mk (s:FE) (S tw:List Str) (hh:ds=[s.D,.lst (tw.map D.str)]/\s.dep<=n/\s.ok S/\S.Pairwise leS/\S.Nodup/\S.length<=4/\(∀x∈s.nms,x∈tw)/\R (.lst [.int s.pts,.int s.dep]))
def gh(n:Nat):∀ds R,bv n ds R->ds.length=2:=λ_ _ ⟨_,_,_,e,_⟩=>by rw[e];rfl
def fc:∀ds R,¬ bv 0 ds R:=λ_ _ ⟨s,_,_,_,h,_⟩=>by have:=s.dep_pos;omega
def bE:aw ["_law_saying","_law_names_here","_law_told","_law_term","_law_good","_law_within"] ["_law_saying","_law_names_here"] (ap s__law_formed):=by walk_at "sc"
def gZ(Z:Zz){n:Nat}(ky:Z.C (2+n) "_law_formed" ["_law_saying","_law_names_here"] (Fh Z.K (bv n))):Z.C (2+n+1) "_law_formed" ["_law_saying","_law_names_here"] (Fh Z.K (bv (n+1))):=by
 refine cq (k:=2+n) Z.d__law_formed bE (gh (n+1)) λfa cdv A outer s H E ds R hr h=>?_;have hU:=hr.units;refine⟨_,(ad (aR (DW.dt (jv (jA (bQ (iT kP rfl Z.z_isinstance rfl Z.z_tuple cD (ak 0)))) (gB (aC zT (aJ fu rfl Z.z_len eU (ac (ak 0) ae)) am (aA _))))) (af (av (a6 (ac am (ac am ae))))) aD) (ad (aR (DW.dt (fi (aC (o_in hU) (Fl 0) (a6 (ac au (ac au ae))) rfl) (fi (aC (dw hU) (aJ fu rfl Z.z_len eU (ac (ak 0) ae)) am (aA _)) (fi (bQ (iT kP rfl Z.z_isinstance rfl Z.z_tuple cD (Fl 0))) (eE (bQ (aq (d7 Z) (hr.mono (by omega)) rfl (ac (Fl 0) ae)))))))) (ad (cE 2 bE.nd ae) (ad (gm Gh rfl (Fl 0) (ar 3 bE.nd) (ad (aR (DW.dt (jv (jA (bQ (iT kP rfl Z.z_isinstance rfl Z.z_tuple cD (ak 3)))) (jv (aC (kl hU) (aJ fu rfl Z.z_len eU (ac (ak 3) ae)) am (aA _)) (jv (jA (bQ (aq (d7 Z) (hr.mono (by omega)) rfl (ac (Fl 3) ae)))) (gB (aC (dw hU) (Fl 3) am (aA _))))))) (af (av (a6 (ac am (ac am ae))))) aD) (af (aQ 2 (Fl 3))))) (bL 2 (ad (ay 4 bE.nd (cK (dw hU) (aJ fu rfl Z.z_len eU (ac (bT ["_law_name"] [(1,"_law_names_here")] rfl rfl (by decide +kernel) rfl (by decide +kernel) (bh ⟨rfl,trivial⟩) (bn rfl) (aL ⟨⟨rfl,rfl,.inl rfl⟩,trivial⟩) (dk (ak 2)) λ_ _ _ _ _=>⟨(ar 0 (show List.Nodup (["_law_name","_law_names_here"]:List Str) by decide +kernel)),(fF (aC (o_in hU) (ak 0) (ak 1) rfl)),(ak 0)⟩) ae)) (aJ fu rfl Z.z_len eU (ac (ak 2) ae)) (aA _))) (af (av (a6 (ac (dW dX (a6 (ac am (ac am ae))) (cX EX rfl Z.z_int Bv (ac (j8 (ak 4) (d9 (cK (dw hU) (ak 2) (Cc rfl rfl Z.z_sorted rfl Z.z_set (ak 2)) (aA _)))) ae)) (λ_ _=>rfl)) (ac am ae))))))))) aD) (ad (aR (DW.dt (jv (DW.dt (fi (aC (dw hU) (Fl 0) au (aA _)) (eE (aC (kl hU) (aJ fu rfl Z.z_len eU (ac (ak 0) ae)) am (aA _))))) (gB (DW.dt (fi (aC (o_in hU) (Fl 0) (a6 (ac au (ac au ae))) rfl) (eE (aC (kl hU) (aJ fu rfl Z.z_len eU (ac (ak 0) ae)) am (aA _)))))))) (af (av (a6 (ac am (ac am ae))))) aD) (ad (aR (aC (tV hU) (Fl 0) (a6 (ac au (ac au (ac au ae)))) rfl) (af (av (a6 (ac am (ac am ae))))) aD) (ad (cN 5 bE.nd ["_law_part"] [(1,"_law_names_here")] rfl rfl (by decide +kernel) rfl (by decide +kernel) (bh ⟨rfl,trivial⟩) (bn rfl) (aL ⟨⟨rfl,rfl,.inl rfl⟩,trivial⟩) (kg (iI (ak 0) (dh am) iF)) λ_ _ _ _ _=>⟨(ar 0 (show List.Nodup (["_law_part","_law_names_here"]:List Str) by decide +kernel)),cM,(aq ky (hr.mono (by omega)) rfl (ac (ak 0) (ac (ak 1) ae)))⟩) (af (av (a6 (ac (ax aP am (aJ (EG rfl) rfl Z.z_sum D4 (ac (bT ["_law_row"] [] rfl rfl (by decide +kernel) rfl (by decide +kernel) (bh trivial) (bn rfl) (aL trivial) (dk (ak 5)) λ_ _ _ _ _=>⟨(ar 0 (show List.Nodup (["_law_row"]:List Str) by decide +kernel)),cM,(Fl 0)⟩) ae))) (ac (ax aP am (aJ (BY rfl) rfl Z.z_max Dc (ac (bT ["_law_row"] [] rfl rfl (by decide +kernel) rfl (by decide +kernel) (bh trivial) (bn rfl) (aL trivial) (dk (ak 5)) λ_ _ _ _ _=>⟨(ar 0 (show List.Nodup (["_law_row"]:List Str) by decide +kernel)),cM,(Fl 0)⟩) ae))) ae)))))))))),?_⟩
 obtain⟨s,S,tw,rfl,hd,ok,pw,nd,hl,hin,q⟩:=h;refine ag λK1 h1=>?_
 rcases s.two with⟨k,ts,b,rfl⟩ | ⟨s,rfl⟩ | ⟨w,u,t,hw,e,e1,e2,e3,e4⟩
 ·have tl:=ok.1.sub.length_le
  rw[FR] at tl;unfold FE.D eY;walk_at "rd";refine FK (by decide) ?_;rw[h1];refine ag λK2 h2=>?_;refine sQ λI1 I2 hI1 hI2=>?_;walk_at "rd";refine⟨["least","more"],rfl,ifp (by cases k<;>decide) (ifp rfl ⟨b,rfl,?_⟩)⟩
  walk_at "rd";rw[hI1];refine ag λK3 h3=>?_;walk_at "rd";intro ta;rw[h3];refine ag λK4 h4=>?_;refine vE λF N hF hN=>?_;walk_at "rd";simp only[xx];walk_at "rd";refine⟨λi δ=>∃x,δ=[.dat (.tup [.str (kdS k),.tup (ts.map Fk),.int b]),.dat (.lst (tw.map D.str)),.own ta (.lst ((ts.take i).map λt=>.str t.1)),x,.no,.no],⟨_,rfl⟩,?_,?_⟩
  ·rintro i d δ hd ⟨x,rfl⟩;obtain⟨t,ht,rfl⟩:=cU hd;have htm:=Ge ht;rw[hF];walk_at "rd";refine FK (λz=>z rfl) ⟨t.2,rfl,?_⟩;walk_at "rd";refine FK (ok.1.nz t htm) ⟨by rw[FR,Gv];omega,?_⟩;rw[aE ht,Gj];rfl
  ·rintro δ ⟨x,rfl⟩;rw[FR,Gp,hN,h4];walk_at "rd";refine⟨by rw[FR];omega,some,λx hx=>?_,?_⟩
   ·obtain⟨t,ht,rfl⟩:=FV.mp hx;walk_at "rd";exact⟨tw,rfl,ifp (Gz (hin _ (FV.mpr ⟨t,ht,rfl⟩))) trivial⟩
   ·refine ifp (by rw[List.filterMap_some]) ⟨ts.map (·.1),by rw[GG];rfl,by rw[FR];omega,λss' n' m' st=>?_⟩;have es:=xY st n' (pw.sublist ok.1.sub) (nd.sublist ok.1.sub) m';subst es;rw[zE,List.filterMap_some,Gz rfl,show ts.map (λt=>D.str t.1)=(ts.map (·.1)).map D.str by rw[GG];rfl];refine .inl ⟨⟨rfl,pc _,oY _⟩,?_⟩;walk_at "rd";exact q
 ·unfold FE.D;walk_at "rd";refine FK (by decide) ?_;rw[h1];refine ag λK2 h2=>?_;refine sQ λI1 I2 hI1 hI2=>?_;walk_at "rd";refine⟨["least","more"],rfl,FK (by decide) ?_⟩;rw[hI2];walk_at "rd";rw[h2];refine ag λK3 h3=>?_;walk_at "rd";refine FK (λz=>z rfl) ⟨["both","either"],rfl,FK (by decide) ?_⟩;rw[h3];refine ag λK4 h4=>?_;walk_at "rd";refine⟨["not","both","either"],rfl,FK (by decide) ?_⟩;rw[h4];refine ag λK5 h5=>?_;walk_at "rd";rw[hZ];refine⟨λz=>absurd z.1 (by decide),by show 1<=9000;decide,λd=>some (.lst [.int (FE.un d).pts,.int (FE.un d).dep]),λx hx=>?_,?_⟩
  ·rw[F6.mp hx];refine⟨s,S,tw,rfl,Nat.le_of_succ_le_succ hd,ok,pw,nd,hl,hin,rfl,by simp only[FE.un_D]⟩
  rw[h5];simp only[List.filterMap_cons,List.filterMap_nil,FE.un_D];walk_at "rd";refine⟨λd=>match d with | .lst (x::_)=>some x | _=>none,λx hx=>?_,[(s.pts:Int)],rfl,λd=>match d with | .lst [_,y]=>some y | _=>none,λx hx=>?_,[(s.dep:Int)],rfl,HY _,λM hM hM2=>?_⟩
  ·rcases hx with rfl | hx
   ·walk_at "rd"
   ·exact hx.elim
  ·rcases hx with rfl | hx
   ·walk_at "rd"
   ·exact hx.elim
  have:M=s.dep:=by simpa using hM
  have e1:1+[(s.pts:Int)].sum=((s.pts+1:Nat):Int):=by simp;omega
  have e2:1+M=((s.dep+1:Nat):Int):=by omega
  rw[e1,e2];exact q
 ·rw[e];have w1:w≠"least"/\w≠"more"/\w≠"not":=by rcases hw with rfl | rfl<;>decide
  walk_at "rd";refine FK (by decide) ?_;rw[h1];refine ag λK2 h2=>?_;refine sQ λI1 I2 hI1 hI2=>?_;walk_at "rd";refine⟨["least","more"],rfl,FK (λz=>by simp[w1] at z) ?_⟩;rw[hI2];walk_at "rd";rw[h2];refine ag λK3 h3=>?_;walk_at "rd";refine FK w1.2.2 ⟨["both","either"],rfl,ifp (by simpa using hw) (FK (λz=>z rfl) ?_)⟩;rw[h3];refine ag λK4 h4=>?_;walk_at "rd";refine⟨["not","both","either"],rfl,FK (by rcases hw with rfl | rfl<;>decide) ?_⟩
  rw[h4];refine ag λK5 h5=>?_;walk_at "rd";rw[hZ];refine⟨λz=>absurd z.1 (by decide),by show 2<=9000;decide,λd=>some (.lst [.int (FE.un d).pts,.int (FE.un d).dep]),λx hx=>?_,?_⟩
  ·have:=e4 _ ok
   rw[e3] at hin
   rcases F7.mp hx with rfl | hx
   ·refine⟨u,S,tw,rfl,by omega,this.1,pw,nd,hl,λx hx=>hin x (FZ _ hx),rfl,by simp only[FE.un_D]⟩
   ·rw[F6.mp hx];refine⟨t,S,tw,rfl,by omega,this.2,pw,nd,hl,λx hx=>hin x (F5 _ hx),rfl,by simp only[FE.un_D]⟩
  rw[h5];simp only[List.filterMap_cons,List.filterMap_nil,FE.un_D];walk_at "rd";refine⟨λd=>match d with | .lst (x::_)=>some x | _=>none,λx hx=>?_,[(u.pts:Int),(t.pts:Int)],rfl,λd=>match d with | .lst [_,y]=>some y | _=>none,λx hx=>?_,[(u.dep:Int),(t.dep:Int)],rfl,HY _,λM hM hM2=>?_⟩
  ·rcases hx with rfl | rfl | hx
   ·walk_at "rd"
   ·walk_at "rd"
   ·exact hx.elim
  ·rcases hx with rfl | rfl | hx
   ·walk_at "rd"
   ·walk_at "rd"
   ·exact hx.elim
  have h1:=hM2 u.dep (by simp)
  have h2:=hM2 t.dep (by simp)
  have:M=u.dep\/M=t.dep:=by simpa using hM
  have e5:1+[(u.pts:Int),(t.pts:Int)].sum=((s.pts:Nat):Int):=by rw[e2];simp;omega
  have e6:1+M=((s.dep:Nat):Int):=by rw[e1];omega
  rw[e5,e6];exact q
def ju(Z:Zz):Z.C 62 "_law_formed" ["_law_saying","_law_names_here"] (Fh Z.K (bv 60)):=Nat.rec (motive:=λn=>Z.C (2+n) "_law_formed" ["_law_saying","_law_names_here"] (Fh Z.K (bv n))) (dS Z.d__law_formed _ fc) (λ_=>gZ Z) 60
structure P4(i:Nat)(ps:List (Int×Int)):Prop where
 len:ps.length=i
 ok:∀p∈ps,0<p.2/\ib p.1<=3000000/\ib p.2<=16000
def P4.snoc{i:Nat}(h:P4 i ps){p:Int×Int}(hp:0<p.2/\ib p.1<=3000000/\ib p.2<=16000):P4 (i+1) (ps++[p]) :=
 ⟨by rw[F1,h.len];rfl,λq hq=>(F9.mp hq).elim (h.ok q) λz=>by rw[F6.mp z];exact hp⟩
def P4.k(h:P4 4 ps):Pk S4 ps:=by
 obtain⟨hl,ho⟩:=h;refine⟨hl,λp hp=>(ho p hp).1,λp hp=>(ho p hp).2.1,λp hp=>FX (ho p hp).2.2 (by decide),?_⟩
 match ps,hl with
 | [p,q,r,t],_ =>
  have:=λx hx=>(ho x hx).2.2
  simp only[List.forall_mem_cons] at this;exact FX (Gi this.1 (Gi this.2.1 (Gi this.2.2.1 (Gi this.2.2.2.1 (F3 (ib 1)))))) (by decide)
def Pd(d:D):Prop:=∃(ks:List Str) (ps:List (Int×Int)),(d=.fd ks (ps.map Ff)\/d=.dct ks (ps.map Ff))/\Pt ks ps 1000000/\ib (Fy (pB ks ps) ks)<=7990
def Pd.get{d:D}(h:Pd d)(n:Str):∃(ks:List Str) (ds:List D) (x y:Int),(d=.fd ks ds\/d=.dct ks ds)/\(dAt ks ds n).getD (.tup [.int 0,.int 1])=.tup [.int x,.int y]/\0<y/\ib x<=1000000/\ib y<=7990:=by
 obtain⟨ks,ps,e,P,κ⟩:=h
 by_cases hn:n∈ks
 ·refine⟨ks,_,pT ks ps n,pB ks ps n,e,by rw[P.D hn];rfl,P.pos hn,P.Tb hn,df (dg hn) ?_ κ⟩;have:=ce (q:=pB ks ps) (l:=ks) λn hn=>P.pos hn;omega
 ·refine⟨ks,_,0,1,e,?_,by decide,by decide,by decide⟩;have:=fD (ks:=ks) (ds:=ps.map Ff) (x:=n) (by rw[FR,P.len]);rw[Gx hn] at this
  cases q:dAt ks (ps.map Ff) n with
  | none=>rfl
  | some z=>rw[q] at this;cases this
def qZ.of{d:D}{ds:List D}{k:List Str->List D->Prop}(e:d=.fd ks ds\/d=.dct ks ds)(h:k ks ds):qZ d k:=by
 rcases e with rfl | rfl<;>exact h
inductive gv(ds:List D)(R:D->Prop):Prop
 | mk (d e:D) (c:Int) (hh:ds=[d,e,.int c]/\Pd d/\Pd e/\∀ps,P4 4 ps->R (.fd S4 (ps.map Ff)))
def g6:∀ds R,gv ds R->ds.length=3:=λ_ _ ⟨_,_,_,e,_⟩=>by rw[e];rfl
def a8:aw ["_law_one","_law_other","_law_cell_here","_law_share","_law_point","_law_name","_law_here","_law_there","_law_top"] ["_law_one","_law_other","_law_cell_here"] (ap s__law_mixed):=by walk_at "sc"
def cQ(Z:Zz):Z.C 1 "_law_mixed" ["_law_one","_law_other","_law_cell_here"] (Fh Z.K gv):=by
 refine cq Z.d__law_mixed a8 g6 λfa cdv A outer s H E ds R hr h=>?_;have hU:=hr.units;refine⟨_,(ad (ay 3 a8.nd (ax gQ (ax eQ (ak 2) am) am)) (ad (iB 4 a8.nd) (ad (bH Gh rfl (a6 (ac au (ac au (ac au (ac au ae))))) (ar 5 a8.nd) (ad (ay 6 a8.nd (sK hU (ak 0) (ak 5) (aH (ac am (ac am ae))))) (ad (ay 7 a8.nd (sK hU (ak 1) (ak 5) (aH (ac am (ac am ae))))) (ad (ay 8 a8.nd (ax aP (ax a5 (ax a5 (Fl 6) (Fl 7)) (ax gQ am (ak 3))) (ax a5 (ax a5 (Fl 7) (Fl 6)) (ak 3)))) (af (eR 4 hU (aH (ac (ak 8) (ac (ax a5 (ax a5 am (Fl 6)) (Fl 7)) ae))) (ak 5))))))) (eJ 4 (af (av (ak 4))))))),?_⟩;obtain⟨d,e,c,rfl,hd,he,q⟩:=h;refine ag λK1 h1=>?_;walk_at "rd";refine⟨cnz (by decide),?_⟩;rw[h1];obtain⟨g,hg,g0,g1⟩:∃g,c.fmod 41-10=g/\-10<=g/\g<=30:=by
  have s0:=Gu c (b:=41) (by decide)
  have s1:=GB c (b:=41) (by decide)
  exact⟨_,rfl,by omega,by omega⟩
 rw[hg];refine ag λK2 h2=>?_;walk_at "rd";intro pa;rw[h2];refine ag λK3 h3=>?_;refine bZ λF N hF hN=>?_;walk_at "rd";simp only[dB];walk_at "rd";refine⟨λi δ=>∃ps x y z u,δ=[.dat d,.dat e,.dat (.int c),.dat (.int g),.own pa (.dct (S4.take i) (ps.map Ff)),x,y,z,u]/\P4 i ps,⟨[],_,_,_,_,rfl,rfl,λ_ h=>(nomatch h)⟩,?_,?_⟩
 ·rintro i v δ hv ⟨ps,x,y,z,u,rfl,hp⟩;obtain⟨n,hn,rfl⟩:=iw (names:=S4) hv;obtain⟨k1,d1,x1,y1,ed,e1,y10,bx1,by1⟩:=hd.get n;obtain⟨k2,d2,x2,y2,ee,e2,y20,bx2,by2⟩:=he.get n;rw[hF];show dL _ _ _ _;refine b6 λK4 h4=>?_;walk_at "rd";refine qZ.of ed ?_;walk_at "rd";rw[e1,h4];refine ag λK5 h5=>?_;walk_at "rd";refine qZ.of ee ?_;walk_at "rd";rw[e2,h5];refine ag λK6 h6=>?_;walk_at "rd";rw[h6];walk_at "rd";have hnt:=lE mh hn;have sm:∀ {x:Int},-63<=x->x<=63->ib x<=6:=λh0 h1=>intBits_le_iff.mpr (by omega);have b1:=Gi bx1 by2;have b2:=Gi bx2 by1;have b3:ib (20-g)<=6:=sm (by omega) (by omega);have b4:ib g<=6:=sm (by omega) (by omega);have b5:ib (20*y1)<=5+7990:=Gi (by decide) by1;refine⟨mo2 bx1 by2,mo2 b1 b3,mo2 bx2 by1,mo2 b2 b4,mo2 (m:=5) (by decide) by1,mo2 b5 by2,by rw[Gv];have:S4.length=4:=rfl;omega,by rw[ik hnt,aE hn],ps++[(x1*y2*(20-g)+x2*y1*g,20*y1*y2)],by rw[ip hnt,Gj];rfl,hp.snoc ⟨Int.mul_pos (Int.mul_pos (by decide) y10) y20,FX (He (Gi b1 b3) (Gi b2 b4)) (by decide),FX (Gi b5 by2) (by decide)⟩⟩
 ·rintro δ ⟨ps,x,y,z,u,rfl,hp⟩;rw[hN,h3];walk_at "rd";exact q ps hp
inductive gJ(ds:List D)(R:D->Prop):Prop
 | mk (cs:List Int) (hh:ds=[.lst (cs.map D.int)]/\cs.length=4/\(∀c∈cs,ib c<=1048600)/\∀ps,P4 4 ps->R (.fd S4 (ps.map Ff)))
def gP:∀ds R,gJ ds R->ds.length=1:=λ_ _ ⟨_,e,_⟩=>by rw[e];rfl
def cx:aw ["_law_cells","_law_point","_law_name","_law_cell_here"] ["_law_cells"] (ap s__law_drawn):=by walk_at "sc"
def jK(Z:Zz):Z.C 1 "_law_drawn" ["_law_cells"] (Fh Z.K gJ):=by
 refine cq Z.d__law_drawn cx gP λfa cdv A outer s H E ds R hr h=>?_;have hU:=hr.units;refine⟨_,(ad (iB 1 cx.nd) (ad (i9 Gh rfl (ma true true rfl Z.z_zip (ac (a6 (ac au (ac au (ac au (ac au ae))))) (ac (ak 0) ae))) (cj (n:=2) rfl (aB (ar 2 cx.nd) (aB (ar 3 cx.nd) bf))) (af (eR 1 hU (aH (ac (ax gQ (ax eQ (ak 3) (ax aP (ax a5 am (ax wu am am)) am)) (ax wu am am)) (ac (ax aP am (ax eQ (ax dA (ak 3) am) am)) ae))) (ak 2)))) (eJ 1 (af (av (ak 1)))))),?_⟩;obtain⟨cs,rfl,h4,hc,q⟩:=h;refine ag λK1 h1=>?_;walk_at "rd";intro pa;rw[h1];refine ag λK2 h2=>?_;refine eP λF N hF hN=>?_;walk_at "rd";simp only[mv];walk_at "rd";have hz:oC [.str "a",.str "b",.str "c",.str "d"] (cs.map D.int)=(S4.zip cs).map λp=>.tup [.str p.1,.int p.2]:=by
  match cs,h4 with
  | [_,_,_,_],_=>rfl
 rw[hz];refine⟨λi δ=>∃ps x y,δ=[.dat (.lst (cs.map D.int)),.own pa (.dct (S4.take i) (ps.map Ff)),x,y]/\P4 i ps,⟨[],_,_,rfl,rfl,λ_ h=>(nomatch h)⟩,?_,?_⟩
 ·rintro i v δ hv ⟨ps,x,y,rfl,hp⟩;rw[List.getElem?_map] at hv
  cases hn:(S4.zip cs)[i]? with
  | none=>rw[hn] at hv;cases hv
  | some p =>
   rw[hn] at hv
   cases hv
   obtain⟨n,c⟩:=p;obtain⟨hn,hcc⟩:=List.getElem?_zip_eq_some.mp hn;have bc:=hc c (Ge hcc);have hnt:=lE mh hn;rw[hF];show ln _ _ (.tup [.str n,.int c]) _ _;walk_at "rd";have e30:(10:Int) ^ Int.toNat 30=1000000000000000000000000000000:=by decide +kernel
   rw[e30];have a0:=Gu c (b:=2*1000000000000000000000000000000+1) (by decide);have a1:=GB c (b:=2*1000000000000000000000000000000+1) (by decide);have a2:=Gu (c.fdiv 7) (b:=1000) (by decide);have a3:=GB (c.fdiv 7) (b:=1000) (by decide);refine⟨⟨by decide,by decide,by decide⟩,mo2 (m:=200) (n:=200) (by decide) (by decide +kernel),cnz (by decide),⟨by decide,by decide,by decide⟩,sR (by decide) (by decide +kernel),cnz (by decide),by rw[Gv];have:S4.length=4:=rfl;omega,by rw[ik hnt,aE hn],ps++[(_,_)],by rw[ip hnt,Gj];rfl,hp.snoc ⟨?_,?_,?_⟩⟩
   ·show 0<1+(c.fdiv 7).fmod 1000
    omega
   ·exact FX ((intBits_le_iff (m:=110)).mpr (Ia (m:=1000000000000000000000000000000) (by show (c.fmod (2*1000000000000000000000000000000+1)-1000000000000000000000000000000).natAbs<=_;omega) (by decide +kernel))) (by decide)
   ·exact FX ((intBits_le_iff (m:=10)).mpr (by show (1+(c.fdiv 7).fmod 1000).natAbs<1024;omega)) (by decide)
 ·rintro δ ⟨ps,x,y,rfl,hp⟩;have e4:((S4.zip cs).map λp=>D.tup [.str p.1,.int p.2]).length=4:=by rw[FR,G7,h4];rfl
  rw[e4] at hp ⊢;rw[hN,h2];walk_at "rd";exact q ps hp
inductive fj(ds:List D)(R:D->Prop):Prop
 | mk (a b:FE) (cs:List Int) (hh:ds=[a.D,b.D,.lst (cs.map D.int)]/\Sz S4 a/\Sz S4 b/\cs.length<=30/\(∀c∈cs,ib c<=1048600)/\∀pp:List (List (Int×Int)),(∀ps∈pp,P4 4 ps)->R (.lst (pp.map λps=>.fd S4 (ps.map Ff))))
def gl:∀ds R,fj ds R->ds.length=3:=λ_ _ ⟨_,_,_,e,_⟩=>by rw[e];rfl
def aO:aw ["_law_one","_law_other","_law_cells","_law_here","_law_there","_law_points_here","_law_cell_here","_law_k"] ["_law_one","_law_other","_law_cells"] (ap s__law_points):=by walk_at "sc"
def ja(Z:Zz):Z.C 67 "_law_points" ["_law_one","_law_other","_law_cells"] (Fh Z.K fj):=by
 refine cq Z.d__law_points aO gl λfa cdv A outer s H E ds R hr h=>?_;have hU:=hr.units;refine⟨_,(ad (ay 3 aO.nd (dW dX (aq (cA Z) (rm hr) rfl (ac (ak 0) (ac (ak 0) ae))) am (λ_ _=>rfl))) (ad (ay 4 aO.nd (dW dX (aq (cA Z) (rm hr) rfl (ac (ak 1) (ac (ak 1) ae))) am (λ_ _=>rfl))) (ad (aR (jA (bQ (iT ud rfl Z.z_isinstance rfl Z.z_dict sX (ak 3)))) (af (ay 3 aO.nd il)) aD) (ad (aR (jA (bQ (iT ud rfl Z.z_isinstance rfl Z.z_dict sX (ak 4)))) (af (ay 4 aO.nd il)) aD) (ad (cE 5 aO.nd (ac (aq (cQ Z) (rm hr) rfl (ac (ak 3) (ac (ak 4) (ac am ae)))) (ac (aq (cQ Z) (rm hr) rfl (ac (ak 3) (ac (ak 4) (ac am ae)))) ae))) (ad (bH Gh rfl (ak 2) (ar 6 aO.nd) (af (aQ 5 (aq (cQ Z) (rm hr) rfl (ac (ak 3) (ac (ak 4) (ac (ak 6) ae))))))) (ad (kn Gh rfl rfl Z.z_range (ac (ax gQ (aJ fu rfl Z.z_len eU (ac (ak 2) ae)) am) ae) (ar 7 aO.nd) (af (aQ 5 (aq (jK Z) (rm hr) rfl (ac (iI (ak 2) (dh (ak 7)) (dh (ax aP (ak 7) am))) ae))))) (bL 5 (af (av (ak 5))))))))))),?_⟩;obtain⟨a,b,cs,rfl,za,zb,hl,hc,q⟩:=h;obtain⟨na,Ta⟩:=za.two za rE mh rfl;obtain⟨nb,Tb⟩:=zb.two zb rE mh rfl;refine ag λK1 h1=>?_;walk_at "rd";have got:∀ {s:FE} {nm:List Str},Two s s nm 64 4->∃w d,bth nm (s.pl false).kr (s.pl false).kr=.tup [.str w,d]/\((∃l,d=.fd nm l/\Pd d)\/∃l,d=.tup l):=λ{s nm} T=>by
  rcases pS T with⟨ps,ep,P,κ,_⟩ | ⟨ew,_⟩
  ·exact⟨_,_,ep,.inl ⟨_,rfl,nm,ps,.inl rfl,P,κ⟩⟩
  ·exact⟨_,_,ew,.inr ⟨_,rfl⟩⟩
 have pd0:Pd (.dct [] []):=⟨[],[],.inr rfl,⟨rfl,λ_ h=>(nomatch h),λ_ h=>(nomatch h),λ_ h=>(nomatch h)⟩,by decide⟩
 obtain⟨w1,d1,e1,g1⟩:=got Ta;obtain⟨w2,d2,e2,g2⟩:=got Tb;refine⟨a,a,na,64,4,rfl,Ta,?_⟩;rw[e1];walk_at "rd";rw[h1];refine ag λK2 h2=>?_;walk_at "rd";refine⟨b,b,nb,64,4,rfl,Tb,?_⟩;rw[e2];walk_at "rd";rw[h2];refine ag λK3 h3=>?_;have go:∀d1,Pd d1->K3 [.dat a.D,.dat b.D,.dat (.lst (cs.map D.int)),.dat d1,.dat d2,.no,.no,.no]:=λd1 p1=>by
  rw[h3];refine ag λK4 h4=>?_;have go:∀d2,Pd d2->K4 [.dat a.D,.dat b.D,.dat (.lst (cs.map D.int)),.dat d1,.dat d2,.no,.no,.no]:=λd2 p2=>by
   rw[h4];refine ag λK5 h5=>?_;walk_at "rd";refine⟨d1,d2,10,rfl,p1,p2,λq1 hq1=>?_⟩;walk_at "rd";refine⟨d1,d2,30,rfl,p1,p2,λq2 hq2=>?_⟩;walk_at "rd";intro pa;rw[h5];refine ag λK6 h6=>?_;refine bZ λF N hF hN=>?_;walk_at "rd";simp only[dB];walk_at "rd";refine⟨λi δ=>∃(pp:List (List (Int×Int))) (x y:Sl),δ=[.dat a.D,.dat b.D,.dat (.lst (cs.map D.int)),.dat d1,.dat d2,.own pa (.lst (pp.map λps=>.fd S4 (ps.map Ff))),x,y]/\pp.length=i+2/\∀ps∈pp,P4 4 ps,⟨[q1,q2],_,_,rfl,rfl,by simp[hq1,hq2]⟩,?_,?_⟩
   ·rintro i v δ hv ⟨pp,x,y,rfl,hpl,hpp⟩;rw[List.getElem?_map] at hv;have hil:i<cs.length:=by
     refine F4 λz=>?_;rw[List.getElem?_eq_none (by omega)] at hv
     cases hv
    rw[List.getElem?_eq_getElem hil] at hv
    cases hv
    rw[hF];walk_at "rd";refine⟨d1,d2,_,rfl,p1,p2,λq3 hq3=>?_⟩;walk_at "rd";refine⟨by rw[FR];omega,pp++[q3],by rw[Gj];rfl,by rw[F1,hpl];rfl,λps h=>(F9.mp h).elim (hpp ps) λz=>by rw[F6.mp z];exact hq3⟩
   ·rintro δ ⟨pp,x,y,rfl,hpl,hpp⟩;rw[FR] at hpl;rw[hN];show K6 _;rw[h6];refine ag λK7 h7=>?_;refine kQ λF N hF hN=>?_;walk_at "rd";simp only[qg];walk_at "rd";rw[FR];refine⟨by omega,by omega,λi δ=>∃(pp:List (List (Int×Int))) (x y:Sl),δ=[.dat a.D,.dat b.D,.dat (.lst (cs.map D.int)),.dat d1,.dat d2,.own pa (.lst (pp.map λps=>.fd S4 (ps.map Ff))),x,y]/\pp.length<=i+32/\∀ps∈pp,P4 4 ps,⟨pp,_,_,rfl,by omega,hpp⟩,?_,?_⟩
    ·rintro i δ hi ⟨pp,x,y,rfl,hpl,hpp⟩;rw[hF];walk_at "rd";rw[uV];have l4:(cut cs (some (i:Int)) (some ((i:Int)+4))).length=4:=by
      have e:(i:Int)+4=((i+4:Nat):Int):=rfl
      unfold cut;rw[e,HT.sIx_nat,HT.sIx_nat,Gv,Hj];omega
     refine⟨_,rfl,l4,λc hc'=>hc c (uf hc'),λq3 hq3=>?_⟩;walk_at "rd";refine⟨by rw[FR];omega,pp++[q3],by rw[Gj];rfl,by rw[F1];show _+1<=_;omega,λps h=>(F9.mp h).elim (hpp ps) λz=>by rw[F6.mp z];exact hq3⟩
    ·rintro δ ⟨pp,x,y,rfl,hpl,hpp⟩;rw[hN,h7];walk_at "rd";exact q pp hpp
  rcases g2 with⟨ps,rfl,p2⟩ | ⟨l,rfl⟩
  ·walk_at "rd";exact go _ p2
  ·walk_at "rd";exact go _ pd0
 rcases g1 with⟨ps,rfl,p1⟩ | ⟨l,rfl⟩
 ·walk_at "rd";exact go _ p1
 ·walk_at "rd";exact go _ pd0
def tQ(q:Str->Prop)[DecidablePred q]:∀l:List Str,(l.map D.str).filterMap (λd=>match d with | .str n=>if q n then some (.str n) else none | _=>none)=(l.filter λn=>decide (q n)).map D.str
 | []=>rfl
 | n::l=>by simp only[List.map_cons,List.filterMap_cons,List.filter_cons,tQ q l];by_cases h:q n<;>simp[h]
def FE.D_is{s:FE}{R:DL.D->Prop}:fIs [s.D,.non] R↔R (.bl false):=by cases s<;>exact Iff.rfl
def gz:aw ["_law_script","_law_one","_law_other","_law_found","_law_twice","_law_size","_law_point","_law_so_here"] ["_law_script"] (ap s_law):=by walk_at "sc"
theorem yu(Z:Zz){fa:Addr}{fd:FuncData}(F:Fun Z.K "law" "law" s_law fa fd):kF Z.P Z.w Z.K Z.mg Z.base CX0 68 fa fd ["_law_script"] (Fh Z.K fLaw):=by
 refine Br F gz (λds R ⟨ns,e,_⟩=>by rw[e];rfl) λcdv A outer s H E ds R hr h=>?_;have hU:=hr.units;refine⟨_,(ad (xy (aq (gN Z) (rm hr) rfl (ac (ak 0) ae)) (xR (n:=2) rfl (aB (ar 1 gz.nd) (aB (ar 2 gz.nd) bf)))) (ad (ay 3 gz.nd (aq (jb Z) (rm hr) rfl (ac (ak 1) (ac (ak 2) ae)))) (ad (aR (aC Aj (ak 3) gA (aA _)) (af (av (cK (dw hU) (dW dX (aq (cA Z) (rm hr) rfl (ac (ak 1) (ac (ak 2) ae))) am (λ_ _=>rfl)) au (aA _)))) aD) (ad (cN 4 gz.nd ["_law_name"] [(2,"_law_other")] rfl rfl (by decide +kernel) rfl (by decide +kernel) (bh ⟨rfl,trivial⟩) (bn rfl) (aL ⟨⟨rfl,rfl,.inl rfl⟩,trivial⟩) (dk (aq (d8 Z) (rm hr) rfl (ac (ak 1) ae))) λ_ _ _ _ _=>⟨(ar 0 (show List.Nodup (["_law_name","_law_other"]:List Str) by decide +kernel)),(fF (aC (o_in hU) (ak 0) (aq (d8 Z) (rm hr) rfl (ac (ak 1) ae)) rfl)),(ak 0)⟩) (ad (ay 5 gz.nd (aq (ju Z) (rm hr) rfl (ac (ak 3) (ac (ak 4) ae)))) (ad (aR (DW.dt (jv (aC (kl hU) (dW dX (aq (cA Z) (rm hr) rfl (ac (ak 1) (ac (ak 2) ae))) am (λ_ _=>rfl)) au (aA _)) (jv (aC vk (Fl 5) am (aA _)) (gB (aC vk (Fl 5) am (aA _)))))) (af (av rq)) aD) (ad (bH Gh rfl (aq (ja Z) (rm hr) rfl (ac (ak 1) (ac (ak 2) (ac (ax aP (a6 (ac am (ac am (ac am (ac am ae))))) (iI (ak 0) (dh am) (dh am))) ae)))) (ar 6 gz.nd) (ad (ay 7 gz.nd (aq (eS Z) (rm hr) rfl (ac (ak 3) (ac (ak 6) ae)))) (af (aR (DW.dt (jv (DW.dt (fi (bQ (aq (eS Z) (rm hr) rfl (ac (ak 1) (ac (ak 6) ae)))) (eE (jA (bQ (ak 7)))))) (gB (DW.dt (fi (bQ (ak 7)) (eE (bQ (aq (eS Z) (rm hr) rfl (ac (ak 2) (ac (ak 6) ae)))))))))) (af (av rq)) aD)))) (af (av (cK (dw hU) (aq (jb Z) (rm hr) rfl (ac (ak 1) (ac (ak 2) ae))) (ak 3) (aA _))))))))))),?_⟩
 obtain⟨ns,rfl,h63,hb,q⟩:=h;refine ag λK1 hK1=>?_;walk_at "rd";refine⟨ns,rfl,h63,hb,λa b ga gb=>?_⟩;walk_at "rd";rw[hK1];have za:Sz S4 a:=⟨by have:=ga.dep;omega,ga.ok,FE.bt_mono (by decide) ga.bt,ga.few⟩;have zb:Sz S4 b:=⟨by have:=gb.dep;omega,gb.ok,FE.bt_mono (by decide) gb.bt,gb.few⟩;obtain⟨nm,T⟩:=za.two zb rE mh rfl;refine ag λK2 hK2=>?_;walk_at "rd";refine⟨a,b,nm,64,4,rfl,T,λhx=>?_,λno=>?_⟩
 ·walk_at "rd";rw[hK2];refine ag λK3 hK3=>?_;walk_at "rd";refine⟨a,b,nm,64,4,rfl,T,?_⟩
  rcases pS T with⟨ps,ep,_⟩ | ⟨_,no,_⟩
  ·rw[ep];walk_at "rd";exact q
  ·obtain⟨x,hx⟩:=hx;exact absurd hx (no x)
 ·rcases pS T with⟨ps,ep,_,_,sa,sb⟩ | ⟨ew,_,sh⟩
  ·exact absurd ⟨sa,sb⟩ (no _)
  have so:=Dk T no λc hc d hd=>(sh c hc d hd).1
  obtain⟨⟨mk,mn⟩,mp⟩:=EV T sh;have bt:∀R:D->Prop,R (mdl nm (a.pl false).kr (b.pl false).kr).D->iY [a.D,b.D] R:=λR r=>⟨a,b,nm,64,4,rfl,T,λ⟨x,hx⟩=>absurd hx (no x),λ_=>r⟩;walk_at "rd";rw[hK2];generalize mdl nm (a.pl false).kr (b.pl false).kr=M at *;refine ag λK3 hK3=>?_;walk_at "rd";rw[FE.D_is];walk_at "rd";rw[hK3];refine ag λK4 hK4=>?_;walk_at "rd";refine⟨a,S4,rfl,by have:=ga.dep;omega,ga.ok,rE,mh,by decide,λs1 n1 m1 p1=>?_⟩;walk_at "rd";have k1:s1.length<=4:=eT n1 λx hx=>FE.nms_sub ga.ok x ((m1 x).mp hx);refine⟨by rw[FR];omega,λd=>match d with | .str n=>if n∈b.nms then some (.str n) else none | _=>none,λx hx=>?_,?_⟩
  ·obtain⟨n,hn,rfl⟩:=FV.mp hx;walk_at "rd";refine⟨b,S4,rfl,by have:=gb.dep;omega,gb.ok,rE,mh,by decide,λs2 n2 m2 p2=>?_⟩;walk_at "rd";refine⟨s2,rfl,f6 (λz=>?_) λz=>?_⟩
   ·rw[Gd ((m2 n).mp (Ip z))]
   ·rw[Gb λy=>z (Gz ((m2 n).mpr y))]
  rw[hK4,tQ];refine ag λK5 hK5=>?_;walk_at "rd";have md:=M.dep_pts;refine⟨M,nm,_,rfl,by omega,mk,T.pw,T.nd,T.len,λx hx=>Ga.mpr ⟨(m1 x).mpr (mn x hx).1,Gz (mn x hx).2⟩,?_⟩;walk_at "rd";rw[hK5];refine ag λK6 hK6=>?_;walk_at "rd";refine⟨a,b,nm,64,4,rfl,T,?_⟩;obtain⟨w,d,ew,hw⟩:∃(w:Str) (d:D),bth nm (a.pl false).kr (b.pl false).kr=.tup [.str w,d]/\w="paper":=⟨_,_,ew,rfl⟩;rw[ew];walk_at "rd";refine FK (λz=>z hw) (FK (by omega) (FK (by omega) ?_));rw[hK6];refine ag λK7 hK7=>?_;refine bZ λF N hF hN=>?_;walk_at "rd";simp only[dB];walk_at "rd";rw[uV];have cl:(cut ns (some 45) (some 63)).length<=63-45:=Ak 45 63;refine⟨by rw[FR];omega,a,b,0::1::7::22::cut ns (some 45) (some 63),rfl,za,zb,by simp only[List.length_cons];omega,λc hc=>?_,λpp hpp=>?_⟩
  ·simp only[List.mem_cons] at hc
   rcases hc with rfl | rfl | rfl | rfl | hc
   iterate 4 decide
   exact FX (hb _ (uf hc)) (by decide)
  walk_at "rd";refine⟨λi δ=>∃x y,δ=[.dat (.fz (ns.map D.int)),.dat a.D,.dat b.D,.dat M.D,.dat (.lst ((s1.filter λn=>decide (n∈b.nms)).map D.str)),.dat (.lst [.int M.pts,.int M.dep]),x,y],⟨_,_,rfl⟩,?_,?_⟩
  ·rintro i d δ hd ⟨x,y,rfl⟩;rw[List.getElem?_map] at hd
   cases hn:pp[i]? with
   | none=>rw[hn] at hd;cases hd
   | some ps =>
    rw[hn] at hd
    cases hd
    have P:=(hpp ps (Ge hn)).k
    have inS:∀n∈nm,n∈S4:=λn h=>((T.mem n).mp h).elim (FE.nms_sub ga.ok n) (FE.nms_sub gb.ok n)
    have tvx:∀ {s:FE},s.ok nm->(s.tv (pT S4 ps) (pB S4 ps)=true↔s.sx (Fm S4 ps)):=λh=>FE.tv_sx λn hn=>P.pos (inS n (FE.nms_sub h n hn))
    have call:∀ {s:FE} {R:D->Prop},s.ok nm->s.dep<=60->R (.bl (s.tv (pT S4 ps) (pB S4 ps)))->cz 60 [s.D,.fd S4 (ps.map Ff)] R:=λh hd r=>⟨_,S4,ps,nm,rfl,hd,h,T.nd,by have:=T.len;omega,λn hn=>inS n (FE.nms_sub h n hn),P,r⟩
    have s0:=so (Fm S4 ps)
    rw[<- tvx T.oa,<- tvx T.ob,<- tvx mk] at s0;rw[hF];show dL _ _ _ _;refine b6 λK8 hK8=>?_;walk_at "rd";refine call mk (by omega) ?_;walk_at "rd";rw[hK8];walk_at "rd";refine call T.oa (by have:=ga.dep;omega) ?_;walk_at "rd";refine f6 (λha=>FK (by rw[s0.1 ha];decide) (ifp (s0.1 ha) (call T.ob (by have:=gb.dep;omega) ?_))) λha=>f6 (λhm=>call T.ob (by have:=gb.dep;omega) ?_) λhm=>?_
    ·rw[Bool.eq_false_iff.mpr (s0.2 (s0.1 ha))];walk_at "rd";exact⟨_,rfl⟩
    ·rw[Bool.eq_false_iff.mpr (s0.2 hm)];walk_at "rd";exact⟨_,rfl⟩
    ·exact⟨_,rfl⟩
  ·rintro δ ⟨x,y,rfl⟩;rw[hN,hK7];walk_at "rd";refine bt _ ?_;walk_at "rd";exact Cv rfl (by omega) q
end Lw
namespace Lw
open PySem L2 DL
def all_mk{l:PySem.W.OpenLaw}{w:World}{K:PySem.W.Frag}{h:Heap}{mg:Str->Option Value}{fa:Addr}(X:K.In h)(G:h.Ns mainGlobals mg)(hfa:mg "law"=some (.ref fa))(f:Hd.Facts K):∃fd:FuncData,(∀(s:Shared) (v:Value),BindsTo s fd ⟨[v],[]⟩ [("_law_script",v)])/\∀base:Heap,K.In base->base.Ns mainGlobals mg->kF l.prog w K mg base CX0 68 fa fd ["_law_script"] (Am K):=by
 obtain⟨⟨_,_,_,_,_,_,_,_,_,_,a,l1,c,k⟩⟩:=f.q51;obtain⟨_,gi_OPPOSITES,gl_OPPOSITES⟩:=f.g_OPPOSITES;obtain⟨_,gi_MOST_ROWS⟩:=f.g_MOST_ROWS;obtain⟨_,gi_MOST_CASES⟩:=f.g_MOST_CASES;obtain⟨_,_,_,_,gi_ENDLESS,gl_ENDLESS⟩:=f.g_ENDLESS;have e:=hfa.symm.trans (Ib X G a)
 cases e
 have F:=xZ (st:=s_law) l1 c k
 refine⟨_,?_,λbase _ _=>by exact CW (yu ⟨l.prog,w,K,mg,base,f.q0.fd2 X G λ_ _ _ _ _ _ _ _=>rfl,f.q1.fd2 X G λ_ _ _ _ _ _ _ _=>rfl,f.q2.fd2 X G λ_ _ _ _ _ _ _ _=>rfl,f.q3.fd2 X G λ_ _ _ _ _ _ _ _=>rfl,f.q4.fd2 X G λ_ _ _ _ _ _ _ _=>rfl,f.q5.fd1 X G λ_ _ _ _ _ _ _=>rfl,f.q6.fd2 X G λ_ _ _ _ _ _ _ _=>rfl,f.q7.fd1 X G λ_ _ _ _ _ _ _=>rfl,f.q8.fd2 X G λ_ _ _ _ _ _ _ _=>rfl,f.q9.fd2 X G λ_ _ _ _ _ _ _ _=>rfl,f.q10.fd3 X G λ_ _ _ _ _ _ _ _ _=>rfl,f.q11.fd3 X G λ_ _ _ _ _ _ _ _ _=>rfl,f.q12.fd2 X G λ_ _ _ _ _ _ _ _=>rfl,f.q13.fd1 X G λ_ _ _ _ _ _ _=>rfl,f.q14.fd2 X G λ_ _ _ _ _ _ _ _=>rfl,f.q15.fd1 X G λ_ _ _ _ _ _ _=>rfl,f.q16.fd2 X G λ_ _ _ _ _ _ _ _=>rfl,f.q17.fd2 X G λ_ _ _ _ _ _ _ _=>rfl,f.q18.fd2 X G λ_ _ _ _ _ _ _ _=>rfl,f.q19.fd1 X G λ_ _ _ _ _ _ _=>rfl,f.q20.fd2 X G λ_ _ _ _ _ _ _ _=>rfl,f.q21.fd2 X G λ_ _ _ _ _ _ _ _=>rfl,f.q22.fd1 X G λ_ _ _ _ _ _ _=>rfl,f.q23.fd1 X G λ_ _ _ _ _ _ _=>rfl,f.q24.fd3 X G λ_ _ _ _ _ _ _ _ _=>rfl,f.q25.fd4 X G λ_ _ _ _ _ _ _ _ _ _=>rfl,f.q26.fd2 X G λ_ _ _ _ _ _ _ _=>rfl,f.q27.fd3 X G λ_ _ _ _ _ _ _ _ _=>rfl,f.q28.fd3 X G λ_ _ _ _ _ _ _ _ _=>rfl,f.q29.fd1 X G λ_ _ _ _ _ _ _=>rfl,f.q30.fd3 X G λ_ _ _ _ _ _ _ _ _=>rfl,f.q31.fd3 X G λ_ _ _ _ _ _ _ _ _=>rfl,f.q32.fd2 X G λ_ _ _ _ _ _ _ _=>rfl,f.q33.fd2 X G λ_ _ _ _ _ _ _ _=>rfl,f.q34.fd2 X G λ_ _ _ _ _ _ _ _=>rfl,f.q35.fd2 X G λ_ _ _ _ _ _ _ _=>rfl,f.q36.fd1 X G λ_ _ _ _ _ _ _=>rfl,f.q37.fd2 X G λ_ _ _ _ _ _ _ _=>rfl,f.q38.fd2 X G λ_ _ _ _ _ _ _ _=>rfl,f.q39.fd2 X G λ_ _ _ _ _ _ _ _=>rfl,f.q40.fd1 X G λ_ _ _ _ _ _ _=>rfl,f.q41.fd2 X G λ_ _ _ _ _ _ _ _=>rfl,f.q42.fd3 X G λ_ _ _ _ _ _ _ _ _=>rfl,f.q43.fd2 X G λ_ _ _ _ _ _ _ _=>rfl,f.q44.fd1 X G λ_ _ _ _ _ _ _=>rfl,f.q45.fd2 X G λ_ _ _ _ _ _ _ _=>rfl,f.q46.fd1 X G λ_ _ _ _ _ _ _=>rfl,f.q47.fd2 X G λ_ _ _ _ _ _ _ _=>rfl,f.q48.fd3 X G λ_ _ _ _ _ _ _ _ _=>rfl,f.q49.fd1 X G λ_ _ _ _ _ _ _=>rfl,f.q50.fd3 X G λ_ _ _ _ _ _ _ _ _=>rfl,GD X G f.z0,GD X G f.z1,GD X G f.z2,GD X G f.z3,GD X G f.z4,GD X G f.z5,GD X G f.z6,GD X G f.z7,GD X G f.z8,GD X G f.z9,GD X G f.z10,GD X G f.z11,GD X G f.z12,GD X G f.z13,GD X G f.z14,⟨⟨_,Ib X G gi_OPPOSITES,gl_OPPOSITES⟩⟩,⟨⟨_,Ib X G gi_MOST_ROWS⟩⟩,⟨⟨_,Ib X G gi_MOST_CASES⟩⟩,⟨⟨_,_,_,Ib X G gi_ENDLESS,gl_ENDLESS,rfl,rfl⟩⟩⟩ F)⟩
 exact λs v=>.of_eq rfl
end Lw
open PySem PySem.W PyProof.Rows
theorem PySem.Challenge.cw_rowbetween_k33_between_holds : PySem.Challenge.rw_rowbetween_k33_between.Holds := by
 refine Hd.half λYP d K hY hdf hdn f=>?_;refine DL.walkB (l:=PySem.Challenge.rw_rowbetween_k33_between) (k:=68) (x:="_law_script") rfl hdf ⟨rfl,by decide,by decide⟩ hY λw mg fa h KX G hmg=>?_;rw[hdn] at hmg;exact Lw.all_mk KX G hmg (f w)
#print axioms PySem.Challenge.cw_rowbetween_k33_between_holds
