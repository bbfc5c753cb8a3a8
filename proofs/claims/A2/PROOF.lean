import PyProof.Rows.All
import Wide.All
import OpenK.AllK
import Wide.FinOn
import PyProof.EqAt
import PyProof.EqKinds
import PyProof.TupleCall
import Open.SpecLaws
import KE.OsHead
import KE.OsGo
import PySem.Challenge.RW_hallends_s01_answers
import TfLines
import KE.BitLaws
import PyProof.ExcBaseAll.Exception
import PyProof.ExcAttrAll.Exception
import PyProof.RulesAs
import PyProof.NsDelKeeps
import PyProof.Draws
import PyProof.EnumMake
import PyProof.ListStr
import PyProof.WalkInts
import PyWqacdc
import TaflEndsSpec
set_option Elab.async false
set_option linter.all false
set_option maxRecDepth 100000
set_option maxHeartbeats 4000000
section
open PySem PySem.W PyProof.Rows PySem.Calls
section
local macro_rules
  | `($f:ident $_*) => do
    if f.getId == `PySem.W.holds_os then `(False.elim (by assumption)) else Lean.Macro.throwUnsupported
set_option maxRecDepth 1000000 in set_option maxHeartbeats 0 in theorem Hd(_:False):PySem.Challenge.rw_hallends_s01_answers.Holds:=by w_on;k_headS
end
namespace He
noncomputable def kY(st:SharedT->Thread->Option (SharedT×Thread))(ok:Thread->Bool):Nat->SharedT->Thread->Option SharedT|0,_,_=>none|n+1,s,t=>match through t with|true=>some s|false=>match ok t with|false=>none|true=>match st s t with|some (s',t')=>kY st ok n s' t'|none=>none
theorem Zo{p:Program}{w:World}{m:Nat}{a:Option Value}:∀{n:Nat}{s s':SharedT}{t:Thread},kY (stepT (denote treeTable) p w) (stepOk m a) n s t=some s'->topRun treeTable p w m a n s.abs t=some s'.abs
|0,_,_,_,h=>by cases h
|n+1,s,s',t,h=>by
 unfold kY at h;unfold topRun;cases he:through t<;>simp only[he]at h|-
 ·cases hk:stepOk m a t<;>simp only[hk]at h|-;·cases h
  ·cases hs:stepT (denote treeTable) p w s t<;>simp only[hs]at h;·cases h
   ·rw[stepT_spec hs];exact Zo h
 ·cases h;rfl
noncomputable def t0(P:Params):BT:=((((((((((BT.nil.ins 0 (boot_o_0 P)).ins 1 (boot_o_1 P)).ins 2 (boot_o_2 P)).ins 3 (boot_o_3 P)).ins 4 (boot_o_4 P)).ins 5 (boot_o_5 P)).ins 6 (boot_o_6 P)).ins 7 (boot_o_7 P)).ins 8 (boot_o_8 P)).ins 9 (boot_o_9 P)).ins 10 (boot_o_10 P)
noncomputable def s0(w:World)(os:OsState):SharedT:=⟨t0 w.params,11,(boot_heap w.params).life,#[],boot_drawn,boot_toks,os⟩
theorem jv(w:World)(os:OsState):(s0 w os).abs=⟨boot_heap w.params,#[],boot_drawn,boot_toks,os⟩:=by kernel_rfl
noncomputable abbrev pg:Program:=OpenSpec.prog PySem.Challenge.rw_hallends_s01_answers
noncomputable def rn(w:World)(os:OsState):Option SharedT:=kY (PySem.W.Fast.tw10156331382660048174 (PySem.W.Fast.tw11892475500146522536 PySem.W.Fast.tw14364793385576792824) pg w) (PySem.W.Fast.tw6613529449190102663 11 (some (.ref 6))) 12274 (s0 w os) (topStub pg)
theorem mv(w:World)(os:OsState):kY (stepT (denote treeTable) pg w) (stepOk 11 (some (.ref 6))) 12274 (s0 w os) (topStub pg)=rn w os:=by rw[PySem.W.Fast.te10156331382660048174,PySem.W.Fast.te11892475500146522536,PySem.W.Fast.te14364793385576792824,PySem.W.Fast.te6613529449190102663];rfl
noncomputable abbrev mods:=importedModules pg.main.body
def gt(s:SharedT)(a:Addr):Option Obj:=match Nat.blt a s.n with
|true=>match s.tree.get a with|some o=>alive o|none=>none
|false=>none
theorem mO{s:SharedT}{a:Addr}{o:Obj}(h:gt s a=some o):s.abs.heap.get? a=some o:=by
 unfold gt at h;cases e:Nat.blt a s.n<;>simp only[e]at h;·cases h
 ·cases g:s.tree.get a<;>simp only[g]at h;·cases h
  ·exact(abs_get (Nat.blt_eq.mp e) g).trans h
theorem cq{s:SharedT}:∀{as:List Addr}{l:List (Addr×Obj)},as.map (gt s)=l.map (fun p=>some p.2)->as.map s.abs.heap.get?=l.map fun p=>some p.2|[],[],_=>rfl|[],_::_,h=>by cases h|_::_,[],h=>by cases h|a::as,p::l,h=>by simp only[List.map_cons,List.cons.injEq]at h|-;exact⟨mO h.1,cq h.2⟩
noncomputable abbrev lo:List Str:=["CHOICES"]
noncomputable abbrev Xt(s:Shared):Bool:=xlAt Hd.view_1 [] s&&recOk [] s
noncomputable def sn(s:SharedT):=PySem.W.Fast.tw4187177175401517315 Hd.view_1 lo (PySem.W.Fast.tw5923862056798008813 pg.main.body) Xt true s.abs
section
variable(w:World)(o:OsState)
theorem l0:(rn w o).map (fun s=>staticsOk (PySem.W.Fast.tw5923862056798008813 pg.main.body) (boot_heap w.params) s.abs.heap&&namesBound pg s.abs.heap&&gensDone s.abs&&laidKept (boot_heap w.params) s.abs.heap)=some true:=by kernel_rfl
theorem l1:(rn w o).map (fun s=>(fun(a,_)=>a) (sn s))=some (expectedOf Hd.view_1):=by kernel_rfl
theorem l2:(rn w o).map (fun s=>(fun(_,b,c,d,_)=>(b,c,d)) (sn s))=some (bltViewBooted,true,true):=by kernel_rfl
theorem l3:(rn w o).map (fun s=>(fun(_,_,_,_,e,f,_)=>(e,f)) (sn s))=some (pinGoodD (drecsOf Hd.view_1),plainGoodE Hd.view_1 (looseW Hd.view_1 lo)):=by kernel_rfl
theorem l4:(rn w o).map (fun s=>(fun(_,_,_,_,_,_,g,h,i)=>(g,h,i)) (sn s))=some (plainGoodD Hd.view_1 lo,wideGood Hd.view_1,clsGoodW Hd.view_1 lo):=by kernel_rfl
theorem l5:(rn w o).map (fun s=>((Hd.heap_1 w.params).map (·.1)).map (gt s))=some ((Hd.heap_1 w.params).map fun p=>some p.2):=by kernel_rfl
end
end He
open PySem PySem.W PyProof.Rows PySem.Calls
namespace He
theorem bM{p q:Program}{j:List Str}{y:Shared->Bool}{K:Params->Frag}{v:List Addr}{e:∀P,v=(K P).map (·.1)}{N:Nat}{R:World->OsState->Option SharedT}{S:SharedT->_}(V:opening p=plainProg p.main.scope.names)(hN:Nat.ble 600 N=true)(W:∀s,fenceModules? p s=some s)(Z:∀w os,kY (stepT (denote treeTable) p w) (stepOk 11 (some (.ref 6))) N (s0 w os) (topStub p)=R w os)(X:∀s:SharedT,openSeen q j (importedModules p.main.body) y true s.abs=S s)(U:∀w o,(R w o).map (fun s=>staticsOk (PySem.W.Fast.tw5923862056798008813 p.main.body) (boot_heap w.params) s.abs.heap&&namesBound p s.abs.heap&&gensDone s.abs&&laidKept (boot_heap w.params) s.abs.heap)=some true)(T:∀w o,(R w o).map (fun s=>(fun(a,_)=>a) (S s))=some (expectedOf q))(Q:∀w o,(R w o).map (fun s=>(fun(_,b,c,d,_)=>(b,c,d)) (S s))=some (bltViewBooted,true,true))(O:∀w o,(R w o).map (fun s=>(fun(_,_,_,_,e,f,_)=>(e,f)) (S s))=some (pinGoodD (drecsOf q),plainGoodE q (looseW q j)))(M:∀w o,(R w o).map (fun s=>(fun(_,_,_,_,_,_,g,h,i)=>(g,h,i)) (S s))=some (plainGoodD q j,wideGood q,clsGoodW q j))(L:∀w o,(R w o).map (fun s=>((K w.params).map (·.1)).map (gt s))=some ((K w.params).map fun p=>some p.2)):LeftO p q j y (kHook K v e).obs (kHook K v e).val N:=fun w=>by
 obtain⟨⟨h0,gs,d,k,os⟩,e1,e'⟩:=Option.map_eq_some_iff.mp (boot_open V hN W w);obtain⟨rfl,rfl,rfl,rfl⟩:h0=boot_heap w.params/\gs=#[]/\d=boot_drawn/\k=boot_toks:=by simpa using e'
 obtain⟨s,z,B⟩:=Option.map_eq_some_iff.mp (U w os);have u:=T w os;have n:=Q w os;have m:=O w os;have l:=M w os;have A:=L w os;rw[z]at u n m l A;rw[<-PySem.W.Fast.te5923862056798008813]at B;have r:=Zo ((Z w os).trans z);rw[jv]at r;have t:topFrom treeTable p w N ⟨boot_heap w.params,#[],boot_drawn,boot_toks,os⟩=some s.abs:=by unfold topFrom;dsimp only;rw[show((boot_heap w.params).isNs mainGlobals&&(#[]:Array GenState).size==0)=true by kernel_rfl,show(boot_heap w.params).objs.size=11 by kernel_rfl,show(boot_heap w.params).nsMap mainGlobals "__annotations__"=some (.ref 6) by kernel_rfl,r];show(match staticsOk (importedModules p.main.body) (boot_heap w.params) s.abs.heap&&namesBound p s.abs.heap&&gensDone s.abs&&laidKept (boot_heap w.params) s.abs.heap with|true=>_|false=>_)=_;rw[B]
 have q:openSeen q j (importedModules p.main.body) y true s.abs=openGood q j:=by
  rw[X];simp only[Option.map_some,Option.some.injEq]at u n m l;generalize S s=x at u n m l|-;obtain⟨x1,J,I,H,G,F,E,D,C⟩:=x;cases u;obtain⟨rfl,rfl,rfl⟩:J=_/\I=_/\H=_:=by simpa only[Prod.mk.injEq]using n
  obtain⟨rfl,rfl⟩:G=_/\F=_:=by simpa only[Prod.mk.injEq]using m
  obtain⟨rfl,rfl,rfl⟩:E=_/\D=_/\C=_:=by simpa only[Prod.mk.injEq]using l
  rfl
 unfold openEnds;rw[e1];show(topFrom treeTable p w N _).map _=_;rw[t];refine congrArg some (Prod.ext q ?_);show v.map s.abs.heap.get?=(K w.params).map fun p=>some p.2;rw[e w.params];exact cq (Option.some.inj A)
theorem lK(s:SharedT):openSeen Hd.view_1 lo (importedModules pg.main.body) Xt true s.abs=sn s:=by unfold sn;rw[PySem.W.Fast.te4187177175401517315,<-PySem.W.Fast.te5923862056798008813]
theorem left(a:List Addr)(e:∀P,a=(Hd.heap_1 P).map (·.1)):LeftO pg Hd.view_1 lo Xt (kHook Hd.heap_1 a e).obs (kHook Hd.heap_1 a e).val 12274:=bM (by kernel_rfl) (by decide+kernel) (fun s=>by kernel_rfl) mv lK l0 l1 l2 l3 l4 l5
end He
end
section
open PySem.W(Frag InitBack Looks WRecords WalkOS clsIn codeIn emptyDict findCls findIn fnOf handedIn hasDictIn instIn instObj isFn keepIn lookIn makesIn methodObj mroIn notCls nsIn osa_eq plainGet plainOver readsIn specialIn subIn takerIn typeIn)
open Tafl(Answer Bytes Cur LF Piece Rules STRIDE TAKEN addNew asInts at_ begins digitsOf fault firstOf good grammar isDigit isLetter judge kindSign lit many mayStand nameIn nat? number numberFrom pieceByte readRows row? rowLine rowsIn runIn says setFrom some_ sooner sureFor tells word wrongs)
open TaflEnds(Call Held graphOf growTo howMany ofHeld ofLine toldMove)
open Lean in
local macro_rules (kind:=Lean.Parser.Command.declaration)|s=>do
 if[``Parser.Command.definition,``Parser.Command.abbrev,``Parser.Command.instance].contains s[1].getKind&&s[0][1].isNone&&s[0][4].isNone then return s.setArg 0 (s[0].setArg 4 (mkNullNode #[mkNode ``Parser.Command.noncomputable #[mkAtom "noncomputable"]]))
 Macro.throwUnsupported
local macro_rules|`(tactic|exists $a,$b,*)=>`(tactic|refine⟨$a,$b,*, ?_⟩)
local macro_rules|`(∅)=>`(by omega)
local macro_rules|`(⋯)=>`(by decide)
local macro_rules|`(∎)=>`(by decide+kernel)
local macro_rules|`(‹$h›)=>`(by simpa using $h)
local macro_rules|`(tactic|lia)=>`(tactic|omega)
local macro_rules|`(tactic|cbv)=>`(tactic|dsimp only)
local macro_rules|`(#v[])=>`(by with_unfolding_all rfl)
def z3:=@List.length_map
def z4:=@List.getElem?_eq_getElem
def z5:=@List.getD_eq_getElem?_getD
def z7:=@List.getElem?_map
def z8:=@List.getElem?_eq_some_iff
def za:=@PySem.wpAny_bind
def zb:=@if_neg
def zc:=@if_pos
def zd:=@List.length_append
def ze:=@Nat.le_refl
def zf:=@List.mem_of_getElem?
def zg:=@List.mem_cons_of_mem
def zh:=@List.mem_cons_self
def zi:=@PySem.Heap.get?_push_of_some
def zj:=@decide_eq_true
def zk:=@List.mem_map
def zm:=@List.length_cons
def zo:=@decide_eq_false
def zp:=@Bool.and_eq_true
def zq:=@decide_eq_true_iff
def zr:=@PySem.wpAny_pure
def zt:=@Option.some.inj
def zu:=@List.map_append
def zw:=@List.mem_cons
def zx:=@Nat.zero_le
def zy:=@Option.map_eq_some_iff
def zA:=@PySem.Heap.lt_size
def zB:=@List.mem_singleton
def zC:=@List.mem_range
def zD:=@List.mem_append
def zE:=@PySem.Paired.length
def zF:=@Nat.lt_of_lt_of_le
def zG:=@List.map_map
def zH:=@List.map_cons
def zI:=@List.size_toArray
def zJ:=@decide_eq_true_eq
def zK:=@PySem.F.plainAttrs_list
def zL:=@beq_eq_false_iff_ne
def zM:=@PySem.Heap.get?_push_size
def zN:=@Ne.symm
def zO:=@List.length_take
def zP:=@beq_iff_eq
def zQ:=@Bool.false_ne_true
def zR:=@List.append_nil
def zS:=@List.mem_filter
def zT:=@congrArg
def zU:=@PySem.mem_of_lookup
def zV:=@Nat.ne_of_lt
def zW:=@PySem.F.slot_list_append
def zX:=@List.append_assoc
def zY:=@PySem.F.type_list_append
def zZ:=@Bool.eq_iff_iff
def z_:=@Nat.le_trans
def y0:=@PySem.PassesOwn.never
def y1:=@List.take_length
def y2:=@Nat.lt_of_le_of_lt
def y3:=@decide_eq_decide
def y4:=@Bool.not_eq_true
def y6:=@List.map_congr_left
def y8:=@PySem.boot_len
def y9:=@List.getElem?_eq_none_iff
def ya:=@List.map_eq_nil_iff
def yb:=@List.flatMap_singleton
def yc:=@PySem.F.plainAttrs_str
def yd:=@List.flatMap_append
def ye:=@PySem.Heap.get?_update_self
def yf:=@List.drop_eq_getElem_cons
def yg:=@List.range_succ
def yh:=@Nat.mul_comm
def yi:=@List.take_succ
def yj:=@List.length_range
def yk:=@PySem.Heap.size_push
def ym:=@List.foldl_cons
def yn:=@List.find?_cons
def yp:=@List.lookup_cons
def yq:=@List.all_eq_true
def yr:=@List.getElem?_append_left
def yt:=@Bool.or_eq_true
def yu:=@List.filterMap_cons
def yw:=@Nat.div_lt_iff_lt_mul
def yx:=@List.mem_append_right
def yz:=@Array.getElem?_setIfInBounds_ne
def yA:=@List.mem_filterMap
def yB:=@List.mem_append_left
def yC:=@List.getElem?_append_right
def yD:=@Bool.false_eq_true
def yE:=@Option.map_some
def yF:=@List.length_replicate
def yG:=@PySem.wpAny_mono
def yH:=@List.mem_flatMap
def yI:=@List.length_drop
def yJ:=@List.getElem?_of_mem
def yK:=@PyProof.Rows.callWith_type1
def yL:=@List.findIdx?_eq_some_iff_getElem
def yM:=@Nat.lt_succ_of_lt
def yN:=@List.drop_eq_nil_of_le
def yO:=@List.replicate_succ
def yP:=@List.length_set
def yQ:=@List.length_nil
def yR:=@PySem.wpAny_holding
def yS:=@if_false
def yT:=@PySem.wpAny_truthy_bool
def yU:=@PySem.Heap.get?_update_other
def yV:=@Nat.lt_succ_self
def yW:=@Nat.lt_irrefl
def yX:=@PySem.wpAny_Call_Name_kw
def yY:=@decide_eq_false_iff_not
def yZ:=@List.nodup_append
def y_:=@List.flatten_cons
def xa:=@List.flatMap_cons
def xb:=@PySem.wpAny_standAt
def xc:=@Nat.not_lt_zero
def xf:=@Nat.min_eq_left
def xg:=@PySem.wpAny_field
def xh:=@List.getElem?_range
def xi:=@Array.length_toList
def xj:=@if_true
def xl:=@Nat.ne_of_gt
def xm:=@List.filter_eq_nil_iff
def xn:=@Nat.mod_eq_of_lt
def xp:=@List.getElem_map
def xq:=@List.any_eq_true
def xr:=@List.drop_drop
def xt:=@PySem.F.type_str_join
def xw:=@PySem.F.slot_str_join
def xy:=@List.length_filter_le
def xA:=@PySem.wpAny_setField
def xB:=@PySem.W.looks_findIn
def xC:=@PySem.F.slot_tuple_iterator_next
def xD:=@Bool.not_eq_true'
def xE:=@List.take_succ_cons
def xF:=@List.length_pos_iff
def xG:=@beq_self_eq_true
def xH:=@Nat.min_le_right
def xI:=@List.nil_sublist
def xJ:=@List.ext_getElem
def xK:=@List.drop_zero
def xM:=@Bool.false_and
def xN:=@PySem.F.slot_list_extend
def xO:=@PySem.W.callWith_K
def xP:=@Option.toList_some
def xQ:=@Nat.zero_add
def xR:=@Nat.mul_succ
def xS:=@List.find?_eq_none
def xT:=@UInt8.toNat_inj
def xU:=@PySem.F.plain_min_loop
def xV:=@List.nodup_cons
def xW:=@List.lookup_cons_self
def xX:=@List.getElem?_eq_none
def xY:=@List.contains_iff_mem
def xZ:=@PySem.Obj.data_mapFields
def x_:=@PySem.wpAny_passesOwn
def w9:=@List.perm_ext_iff_of_nodup
def wa:=@List.nodup_nil
def wc:=@List.mem_of_mem_take
def we:=@trivial
def wg:=@Nat.succ_mul
def wj:=@Nat.le_of_lt
def wk:=@List.map_nil
def wo:=@List.getElem_mem
def wq:=@PySem.wpAny_pyIter_enum
def wu:=@PySem.wpAny_newObj_type
def wx:=@List.findIdx?_eq_none_iff
def wy:=@Nat.mul_le_mul_left
def wz:=@List.findSome?_cons
def wA:=@PySem.F.type_list_extend
def wB:=@Bool.true_and
def wC:=@Bool.or_false
def wD:=@List.getElem?_take
def wF:=@List.findIdx?_cons
def wG:=@Nat.le_succ
def wH:=@List.length_eq_zero_iff
def wI:=@List.take_zero
def wJ:=@List.range_succ_eq_map
def wK:=@List.map_set
def wL:=@List.getElem?_set_self
def wM:=@List.flatten_replicate_singleton
def wN:=@List.count_append
def wO:=@Int.toNat_natCast
def wQ:=@PySem.wpAny_loadPart'
def wR:=@PySem.W.methodCall_KW
def wU:=@Option.bind_some
def wV:=@Nat.mod_lt
def wW:=@List.nodup_range
def wX:=@List.filter_cons
def wY:=@List.all_cons
def wZ:=@PySem.codeAny_mono
def w_:=@List.mem_iff_getElem
def va:=@List.getElem?_set_ne
def vb:=@PySem.W.looks_clsIn
def vc:=@PySem.Obj.isFreed_of_fields
def vd:=@PySem.wpAny_call
def ve:=@List.pairwise_cons
def vf:=@List.map_replicate
def vg:=@List.getElem_range
def vj:=@List.exists_cons_of_ne_nil
def vk:=@List.count_pos_iff
def vm:=@Bool.and_false
def vn:=@PySem.wpAny_execs_nil
def vo:=@PySem.F.excBase_Exception
def vp:=@Classical.byContradiction
def vt:=@of_decide_eq_true
def vv:=@Nat.le_of_succ_le
def vy:=@List.take_add_one
def vz:=@List.mem_of_head?
def vA:=@List.filter_congr
def vB:=@List.ext_getElem?
def vC:=@Bool.eq_false_iff
def vD:=@PySem.F.type_str_isdigit
def vF:=@PySem.F.slot_str_isdigit
def vI:=@List.sum_cons
def vJ:=@List.map_take
def vK:=@List.map_drop
def vM:=@List.getElem?_take_of_lt
def vN:=@List.find?_range_eq_some
def vO:=@List.any_cons
def vQ:=@PySem.wpAny_seqItems
def vR:=@PySem.wpAny_pyIter_tuple
def vT:=@PySem.wpAny_letOwnedTupleGo_enum
def vU:=@PySem.tupleKind_room_in1
def vV:=@PySem.F.slot_list_index
def vX:=@PySem.Calls.spliced_cons
def vY:=@Option.getD_some
def vZ:=@Nat.succ_ne_self
def v_:=@Nat.div_eq_of_lt
def u9:=@List.isEmpty_iff
def ua:=@List.getElem?_replicate
def ub:=@PySem.W.cellsFrom_some
def uc:=@Nat.pow_succ
def ud:=@Nat.mul_zero
def ue:=@Nat.lt_trans
def uf:=@Nat.add_zero
def ug:=@Option.map_none
def uh:=@Nat.one_ne_zero
def ui:=@Nat.mul_add_mod
def uj:=@Nat.mul_add_div
def uk:=@List.of_mem_zip
def um:=@List.idxOf_cons
def uo:=@List.forIn_cons
def ur:=@List.count_cons
def uu:=@PySem.F.slot_dict_get
def uv:=@Nat.mul_le_mul_right
def uw:=@Nat.mul_le_mul
def ux:=@Bool.or_eq_false_iff
def uy:=@PySem.W.plainGet_of
def uA:=@PySem.W.looks_mroIn
def uB:=@PySem.W.callWith_K0
def uC:=@PySem.Calls.callWith_builtin
def uD:=@List.drop_succ_cons
def uE:=@Int.toNat_of_nonneg
def uF:=@PySem.pushCells_keeps
def uG:=@PySem.codeAny_builtin
def uH:=@Bool.false_or
def uI:=@PySem.W.check_slot
def uJ:=@PySem.F.args_tuple_iterator_next_1
def uK:=@PySem.F.entry_tuple_iterator_next
def uL:=@bne_self_eq_false
def uM:=@PySem.wpAny_tryCatch
def uN:=@PySem.wpAny_letGo
def uO:=@PySem.sizeLine_eq
def uP:=@PySem.codeAny_call_builtin
def uQ:=@PySem.Around.under_plainId
def uR:=@Nat.sub_zero
def uS:=@Nat.sub_self
def uT:=@Nat.le_of_lt_succ
def uU:=@Nat.le_of_eq
def uV:=@List.getElem?_set
def uW:=@List.foldl_append
def uX:=@PySem.W.any_some
def uY:=@PySem.W.Looks.ld
def uZ:=@Option.getD_none
def u_:=@Nat.le_add_right
def tf:=@List.getElem_set
def tm:=@List.getElem_inj
def tq:=@Int.natCast_emod
def tz:=@Int.natCast_ediv
def tD:=@PySem.plainId_quiet
def tE:=@Nat.pow_pos
def tF:=@PySem.call_meets
def tG:=@PySem.W.length_le_weightAllW
def tH:=@Nat.div_add_mod
def tI:=@List.head?_drop
def tJ:=@List.filter_map
def tK:=@Int.natCast_mul
def tL:=@PySem.W.Looks.of_pure
def tM:=@PySem.F.type_str_startswith
def tN:=@PySem.F.slot_str_startswith
def tO:=@PySem.wpAny_pyIter_list
def tP:=@PySem.seqIndex_neg
def tQ:=@PySem.Calls.spliced_nil
def tR:=@List.forIn_nil
def tS:=@Array.getElem?_eq_some_iff
def tT:=@PySem.plainObj_wpAny_Assign_Attribute
def tU:=@List.mem_of_find?_eq_some
def tV:=@Array.getElem?_eq_getElem
def tW:=@PySem.W.mg_of
def tX:=@PySem.F.entry_min_loop
def tY:=@Prod.mk.injEq
def tZ:=@Option.isSome_iff_exists
def t_:=@PySem.wpAny_throw
def sf:=@PySem.wpAny_alloc
def si:=@PySem.seqIndex_of
def sk:=@PySem.StrLaws.found_one
def so:=@PySem.F.type_list_index
def sr:=@PySem.F.args_dict_get_3
def su:=@PySem.wpAny_updateSeq
def sv:=@PySem.F.entry_dict_get
def sy:=@PyProof.noPylong_small
def sE:=@List.pairwise_lt_range
def sG:=@List.length_pos_of_mem
def sH:=@Classical.epsilon_spec
def sI:=@List.take_append_drop
def sJ:=@List.getElem?_toArray
def sL:=@List.eq_replicate_iff
def sM:=@true_and
def sO:=@PySem.wpAny_newFunctionEnv_cells
def sP:=@PySem.wpAny_loadPart
def sQ:=@PySem.typeIs_str
def sR:=@PySem.arm_exec_Raise
def sS:=@PySem.W.handedOut_of
def sU:=@PySem.Calls.Name_function_global
def sV:=@Nat.pow_le_pow_right
def sW:=@Nat.eq_of_testBit_eq
def sX:=@List.prefix_cons_inj
def sY:=@List.map_id
def sZ:=@List.count_singleton
def s_:=@List.count_replicate
def r8:=@List.count_le_length
def r9:=@List.Pairwise.filter
def ra:=@Bool.and_eq_true_iff
def rb:=@PySem.wpAt_of_wpAny
def rg:=@PySem.W.looks_subIn
def rh:=@PySem.W.findObj_own
def rj:=@List.toList_toArray
def rk:=@eq_iff_iff
def rm:=@cond_false
def rp:=@UInt8.toNat_ofNat'
def rq:=@PySem.wpAny_handled
def rA:=@PySem.W.looks_hook
def rB:=@PySem.W.codeRec_of
def rC:=@Option.isSome_some
def rD:=@List.zip_cons_cons
def rE:=@List.filter_append
def rF:=@List.contains_cons
def rG:=@UInt8.ofNat_toNat
def rH:=@PySem.wpAny_pyNext_enum_itemD
def rJ:=@PySem.wpAny_callSpecial?_slot
def rK:=@PySem.Within.cons
def rL:=@PySem.W.set_plain
def rM:=@Option.isSome_map
def rN:=@Nat.lt_of_succ_lt
def rO:=@List.take_sublist
def rP:=@List.any_eq_false
def rQ:=@Iff.rfl
def rR:=@Classical.not_not
def rS:=@false_and
def rT:=@PySem.wpAny_pyNext_range_end
def rV:=@PySem.wpAny_pyNext_enum_endD
def rW:=@PySem.wpAny_pyIter_rangeiter
def rX:=@PySem.wpAny_getItem_list_neg
def rY:=@Nat.min_eq_right
def rZ:=@List.map_flatMap
def r_:=@List.flatMap_def
def q0:=@List.countP_cons
def qa:=@List.cons_append
def qb:=@PySem.wpAt_bind
def qc:=@PySem.wpAny_isTrue_Compare1
def qd:=@PySem.codeAny_call_function
def qe:=@PySem.W.bind_fn
def qf:=@Nat.le_antisymm
def qg:=@List.nil_prefix
def qh:=@List.nil_append
def qk:=@List.head?_cons
def qm:=@List.find?_some
def qo:=@List.filter_nil
def qp:=@or_assoc
def qr:=@PySem.wpAny_loadName_local
def qt:=@PySem.Calls.evalArgs_plain
def qu:=@PySem.Around.frames_deeper
def qv:=@Prod.ext
def qw:=@List.range_add
def qx:=@Bool.and_assoc
namespace HM
open Tafl
variable{d n c:Nat}{b sides:List Nat}{r:Rules}{es:List (List Nat)}{ends f:List Value}
def shl:Bytes->Bytes->Nat|[],_=>0|_::_,[]=>0|x::w,y::r=>if x=y then shl w r+1 else 0
theorem U5:∀(w r:Bytes),shl w r<=w.length
|[],_=>zx _
|_::_,[]=>zx _
|x::w,y::r=>by
 unfold shl;split;·have:=U5 w r;simp only[zm];lia
 ·exact zx _
theorem Hm(w:Bytes):shl w []=0:=by cases w<;>rfl
theorem JS:∀(w:Bytes)(c:Cur),lit w c=if shl w c.rest=w.length then .ok ⟨c.rest.drop w.length,c.at_+w.length⟩else .error (c.at_+shl w c.rest)
|[],⟨r,a⟩=>by simp[lit,shl]
|x::w,⟨[],a⟩=>by simp[lit,shl,Cur.next]
|x::w,⟨y::r,a⟩=>by
 unfold lit;by_cases h:y=x
 ·subst h;simp only[Cur.next,qk,xj];rw[JS w];simp only[Cur.on,shl,xj,uD,xK,zm];by_cases q:shl w r=w.length;·simp only[q,xj];congr 2;lia
  ·simp only[q,yS,Nat.add_right_cancel_iff];congr 1;lia
 ·have b:¬x=y:=fun q=>h q.symm;simp[Cur.next,h,shl,b]
def Apart(l:List (Nat×Bytes)):Prop:=l.Pairwise fun a b=>¬a.2<+:b.2/\¬b.2<+:a.2
def most(l:List Nat):Nat:=l.foldl max 0
theorem G0:∀(l:List Nat)(a b:Nat),l.foldl max (max a b)=max a (l.foldl max b) |[],a,b=>rfl|x::l,a,b=>by rw[ym,ym,Nat.max_assoc,G0 l a (max b x)]
theorem Dk(x:Nat)(l:List Nat):most (x::l)=max x (most l):=by unfold most;rw[ym,Nat.max_comm 0 x,G0]
theorem JN:∀(l:List Nat),(∀x∈l,x=0)->most l=0|[],_=>rfl|x::l,h=>by rw[Dk,h x (by simp),JN l fun y a=>h y (by simp[a])];rfl
abbrev D8(x:UInt8)(w:Nat×Bytes):Option (Nat×Bytes):=if w.2.head?=some x then some (w.1,w.2.drop 1)else none
abbrev fits(r:Bytes)(w:Nat×Bytes):Bool:=decide (shl w.2 r=w.2.length)
theorem N6(x:UInt8):∀(l:List (Nat×Bytes)),Apart l->Apart (l.filterMap (D8 x))
|[],_=>List.Pairwise.nil
|w::l,h=>by
 unfold Apart at h|-;rw[ve]at h;have d:=N6 x l h.2;rw[yu];unfold D8;split
 ·rename_i e;split at e;·cases e
  ·exact d
 ·rename_i v e;split at e
  ·rename_i f;cases e;rw[ve];refine⟨fun b j=>?_,d⟩;obtain⟨u,i,e⟩:=yA.mp j;split at e
   ·rename_i a;cases e;obtain⟨n,c⟩:=w;obtain⟨m,g⟩:=u;have q:=h.1 _ i;dsimp only at*;cases c with
    |nil=>cases f
    |cons y c=>
     cases g with
     |nil=>cases a
     |cons k g=>
      cases f;cases a;refine⟨fun z=>q.1 ?_,fun z=>q.2 ?_⟩;·exact(sX _).mpr z
      ·exact(sX _).mpr z
   ·cases e
  ·cases e
theorem Kd(x:UInt8)(r:Bytes):∀(l:List (Nat×Bytes)),(∀w∈l,w.2≠[])->l.find? (fits (x::r))=none/\(l.filterMap (D8 x)).find? (fits r)=none\/∃n c,l.find? (fits (x::r))=some (n,x::c)/\(l.filterMap (D8 x)).find? (fits r)=some (n,c)
|[],_=> .inl ⟨rfl,rfl⟩
|(n,c)::l,h=>by
 have d:=Kd x r l fun w f=>h w (zg _ f);cases c with
 |nil=>exact absurd rfl (h _ zh)
 |cons y c=>
  by_cases e:y=x
  ·subst e;have a:D8 y (n,y::c)=some (n,c):=by simp[D8]
   rw[yu,a];by_cases q:shl c r=c.length
   ·right;exists n,c,?_
    ·rw[yn];have:fits (y::r) (n,y::c)=true:=by simp[fits,shl,q]
     rw[this]
    ·cbv;rw[yn];have:fits r (n,c)=true:=by simp[fits,q]
     rw[this]
   ·have b:fits (y::r) (n,y::c)=false:=by simp[fits,shl,q]
    have g:fits r (n,c)=false:=by simp[fits,q]
    cbv;rw[yn,b,yn,g];exact d
  ·have a:D8 x (n,y::c)=none:=by simp[D8,e]
   have b:fits (x::r) (n,y::c)=false:=by simp[fits,shl,e]
   rw[yu,a,yn,b];exact d
theorem Pe(x:UInt8)(r:Bytes):∀(l:List (Nat×Bytes)),(∀w∈l,w.2≠[])->(l.filterMap (D8 x)=[]/\most (l.map fun w=>shl w.2 (x::r))=0)\/(l.filterMap (D8 x)≠[]/\most (l.map fun w=>shl w.2 (x::r))=most ((l.filterMap (D8 x)).map fun w=>shl w.2 r)+1)
|[],_=> .inl ⟨rfl,rfl⟩
|(n,c)::l,h=>by
 have f:=Pe x r l fun w i=>h w (zg _ i);cases c with
 |nil=>exact absurd rfl (h _ zh)
 |cons y c=>
  by_cases e:y=x
  ·subst e;have d:D8 y (n,y::c)=some (n,c):=by simp[D8]
   have b:shl (y::c) (y::r)=shl c r+1:=by simp[shl]
   right;rw[yu,d];refine⟨by simp,?_⟩;rw[zH,Dk,zH,Dk,b];rcases f with⟨g,a⟩ |⟨g,a⟩;·rw[a,g];simp[most]
   ·rw[a];cbv;lia
  ·have d:D8 x (n,y::c)=none:=by simp[D8,e]
   have b:shl (y::c) (x::r)=0:=by simp[shl,e]
   rw[yu,d,zH,Dk,b,Nat.zero_max];exact f
theorem Sn:∀(f:Nat)(l:List (Nat×Bytes))(c:Cur),(∀w∈l,w.2.length<f)->Apart l->l≠[]->oneOf f l c=match l.find? (fits c.rest)with|some w=> .ok (w.1,⟨c.rest.drop w.2.length,c.at_+w.2.length⟩) |none=> .error (c.at_+most (l.map fun w=>shl w.2 c.rest))
|0,l,c,y,_,k=>by cases l with|nil=>exact absurd rfl k|cons w l=>exact absurd (y w zh) (xc _)
|f+1,l,⟨d,F⟩,y,m,k=>by
 unfold oneOf;split
 ·rename_i w o;have t:=tU o;have p:w.2=[]:=by have:=qm o;simpa using this
  have j:l=[w]:=by
   cases l with
   |nil=>cases t
   |cons u l=>
    cases l with
    |nil=>
     rcases zw.mp t with rfl|z;·rfl
     ·cases z
    |cons v l=>
     exfalso;unfold Apart at m;rw[ve]at m;rcases zw.mp t with rfl|z;·exact(m.1 v zh).1 (by rw[p];exact qg)
     ·exact(m.1 w z).2 (by rw[p];exact qg)
  rw[j];have:fits d w=true:=by simp[fits,p,shl]
  rw[yn,this];simp[p]
 ·rename_i o;have a:∀w∈l,w.2≠[]:=fun w b e=>by have:=xS.mp o w b;simp[e]at this
  cases d with
  |nil=>
   have E:l.find? (fits [])=none:=by rw[xS];intro w b;have:=a w b;simp only[fits,Hm,zJ];intro q;exact this (wH.mp q.symm)
   have D:most (l.map fun w=>shl w.2 [])=0:=JN _ fun x B=>by obtain⟨w,Y,rfl⟩:=zk.mp B;exact Hm _
   simp only[Cur.next,List.head?_nil];rw[E];cbv;rw[D];rfl
  |cons x r=>
   simp only[Cur.next,qk];rcases Pe x r l a with⟨i,s⟩ |⟨i,s⟩
   ·rw[zc (by rw[u9];exact i)];rcases Kd x r l a with⟨h,Y⟩ |⟨n,c,h,g⟩;·rw[h];cbv;rw[s];rfl
    ·rw[i]at g;cases g
   ·rw[zb (by rw[u9];exact i)];rw[Sn f (l.filterMap (D8 x)) _ ?_ (N6 x l m) i]
    ·simp only[Cur.on,uD,xK];rcases Kd x r l a with⟨h,g⟩ |⟨n,c,h,g⟩;·rw[h,g];cbv;rw[s];congr 1;lia
     ·rw[h,g];simp only[zm,uD];congr 3;lia
    ·intro w b;obtain⟨u,A,e⟩:=yA.mp b;have C:=y u A;unfold D8 at e;split at e;·cases e;rename_i G;have:u.2≠[]:=a u A;have H:0<u.2.length:=xF.mpr this;show(u.2.drop 1).length<f;rw[yI];lia
     ·cases e
def flat{b:Type}(a:UInt8->Option b)(w:Nat):Nat->Nat->Cur->Except Nat (List b×Cur) |0,_,c=> .ok ([],c) |m+1,k,c=>match c.next.bind a with|none=> .error c.at_|some s=>match(if k%w=w-1 then lit [LF] c.on else .ok c.on)with| .error e=> .error e| .ok d=>(flat a w m (k+1) d).map fun r=>(s::r.1,r.2)
theorem Tt{b:Type}(a:UInt8->Option b)(w m:Nat):∀(n k:Nat)(c:Cur),k%w+(n+1)=w->flat a w (n+1+m) k c=match rowIn a (n+1) c with| .error e=> .error e| .ok (r,d)=>(flat a w m (k+(n+1)) d).map fun q=>(r++q.1,q.2)
|0,k,c,h=>by rw[show 0+1+m=m+1 by lia,flat,rowIn];cases c.next.bind a with|none=>rfl|some s=>cbv;rw[zc ∅,rowIn];cases lit [LF] c.on with|error e=>rfl|ok d=>rfl
|n+1,k,c,h=>by
 rw[show n+1+1+m=(n+1+m)+1 by lia,flat,rowIn];cases c.next.bind a with
 |none=>rfl
 |some s=>
  cbv;have f:(k+1)%w+(n+1)=w:=by
   have g:k%w+1<w:=∅;have:=Nat.mod_add_div k w;have e:(k+1)%w=k%w+1:=by rw[Nat.add_mod,xn (show 1<w by lia),xn g]
   lia
  rw[zb ∅];cbv;rw[Tt a w m n (k+1) c.on f];cases rowIn a (n+1) c.on with|error e=>rfl|ok q=>obtain⟨r,d⟩:=q;show Except.map _ (Except.map _ _)=Except.map _ _;rw[show k+1+(n+1)=k+(n+1+1) by lia];cases flat a w m (k+(n+1+1)) d<;>rfl
theorem Pz{b:Type}(a:UInt8->Option b)(w:Nat)(f:0<w):∀(h k:Nat)(c:Cur),flat a w (w*h) (w*k) c=(rowsIn a w h c).map fun r=>(r.1.flatten,r.2.2)
|0,k,c=>by rw[ud,flat,rowsIn];rfl
|h+1,k,c=>by
 have e:w*(h+1)=(w-1)+1+w*h:=by rw[xR];lia
 rw[e,Tt a w (w*h) (w-1) (w*k) c (by rw[Nat.mul_mod_right];lia),rowsIn,show w-1+1=w by lia];cases rowIn a w c with|error e=>rfl|ok q=>obtain⟨r,d⟩:=q;show Except.map _ (flat a w (w*h) (w*k+w) d)=_;rw[show w*k+w=w*(k+1) by rw[xR],Pz a w f h (k+1) d];show Except.map _ (Except.map _ _)=Except.map _ ((rowsIn a w h d).bind fun x=>_);cases rowsIn a w h d with|error e=>rfl|ok q=>rfl
theorem RZ{f:Type}(a:UInt8->Option f):∀(n:Nat)(c d:Cur)(r:List f),rowIn a n c= .ok (r,d)->r.length=n/\d.at_=c.at_+n+1/\d.rest=c.rest.drop (n+1)
|0,c,d,r,h=>by
 rw[rowIn,JS]at h;split at h;·cases h;exact⟨rfl,rfl,rfl⟩
 ·cases h
|n+1,c,d,r,h=>by
 rw[rowIn]at h;cases g:c.next.bind a with
 |none=>rw[g]at h;cases h
 |some k=>
  rw[g]at h;dsimp only at h;cases b:rowIn a n c.on with
  |error e=>rw[b]at h;cases h
  |ok q=>
   rw[b]at h;obtain⟨i,o⟩:=q;cases h;obtain⟨m,l,j⟩:=RZ a n c.on _ i b;exists by rw[zm,m],?_;·rw[l];show c.at_+1+n+1=_;lia
   ·rw[j];show(c.rest.drop 1).drop (n+1)=_;rw[xr];congr 1;lia
theorem JF{j:Type}(a:UInt8->Option j)(w:Nat):∀(h:Nat)(c e:Cur)(l:List (List j))(b:List Nat),rowsIn a w h c= .ok (l,b,e)->l.length=h/\(∀r∈l,r.length=w)/\b=(List.range h).map (fun i=>c.at_+i*(w+1))/\e.at_=c.at_+h*(w+1)/\e.rest=c.rest.drop (h*(w+1))
|0,c,e,l,b,h=>by rw[rowsIn]at h;cases h;exact⟨rfl,fun r g=>(by cases g),rfl,∅,by simp⟩
|h+1,c,e,l,b,q=>by
 rw[rowsIn]at q;cases g:rowIn a w c with
 |error z=>rw[g]at q;cases q
 |ok x=>
  obtain⟨r,d⟩:=x;rw[g]at q;cases n:rowsIn a w h d with
  |error z=>
   have k:(.error z:Except Nat (List (List j)×List Nat×Cur))= .ok (l,b,e):=by rw[<-q];show _=Except.bind (rowsIn a w h d) _;rw[n];rfl
   cases k
  |ok x=>
   obtain⟨o,f,s⟩:=x;have k:(.ok (r::o,c.at_::f,s):Except Nat (List (List j)×List Nat×Cur))= .ok (l,b,e):=by rw[<-q];show _=Except.bind (rowsIn a w h d) _;rw[n];rfl
   cases k;obtain⟨D,p,C⟩:=RZ a w c d r g;obtain⟨B,A,v,u,t⟩:=JF a w h d e o f n;exists by rw[zm,B],fun y m=>?_,?_,?_
   ·rcases zw.mp m with rfl|m;·exact D
    ·exact A y m
   ·rw[wJ,zH,zG,v];congr 1;·lia
    ·apply y6;intro i Y;show d.at_+i*(w+1)=c.at_+(i+1)*(w+1);rw[p,wg];lia
   ·rw[u,p,wg];lia
   ·rw[t,C,xr];congr 1;rw[wg];lia
def Res{b:Type}(r:Except Nat b)(G:b->Prop)(B:Nat->Prop):Prop:=match r with| .ok a=>G a| .error e=>B e
theorem Res.bind{c b:Type}{r:Except Nat c}{f:c->Except Nat b}{G:b->Prop}{B:Nat->Prop}(h:Res (r.bind f) G B):Res r (fun a=>Res (f a) G B) B:=by cases r<;>exact h
theorem Res.imp{b:Type}{r:Except Nat b}{G c:b->Prop}{B d:Nat->Prop}(h:Res r G B)(f:∀a,r= .ok a->G a->c a)(g:∀e,B e->d e):Res r c d:=by cases r with|error e=>exact g e h|ok a=>exact f a rfl h
theorem P1{b f:Type}(a:UInt8->Option b)(g:b->f)(w:Nat):∀(m k:Nat)(c:Cur),flat (fun u=>(a u).map g) w m k c=(flat a w m k c).map fun r=>(r.1.map g,r.2)
|0,k,c=>rfl
|m+1,k,c=>by
 rw[flat,flat];have e:c.next.bind (fun u=>(a u).map g)=(c.next.bind a).map g:=by cases c.next<;>rfl
 rw[e];cases c.next.bind a with|none=>rfl|some s=>dsimp only[yE];cases(if k%w=w-1 then lit [LF] c.on else .ok c.on)with|error e=>rfl|ok d=>cbv;rw[P1 a g w m (k+1) d];cases flat a w m (k+1) d<;>rfl
theorem Dq{b a:Nat}(h:begins b a d=true):d<=a:=by unfold begins at h;rw[xq]at h;obtain⟨k,Y,q⟩:=h;rw[zp,zq,zq]at q;have:d*1<=d*10^k:=wy _ (tE ⋯);lia
theorem Ht{i a:Nat}(m:a<=60000):∀(f r d:Nat)(c e:Cur)(n:Nat),f+r=6->(r=0\/(d<=a/\10^r<=10*d))->numberFrom i a f d c= .ok (n,e)->i<=n/\n<=a
|0,r,d,c,e,n,o,b,h=>by
 rcases b with z|⟨k,g⟩;·lia
 ·rw[show r=6 by lia]at g;have:(10:Nat)^6=1000000:=⋯;lia
|f+1,r,d,c,e,n,o,b,h=>by
 rw[numberFrom]at h;cases j:c.next with
 |none=>
  rw[j]at h;dsimp only at h;split at h;·cases h;assumption
  ·cases h
 |some x=>
  rw[j]at h;dsimp only at h;split at h
  ·rename_i q;have l:=Dq q.2.2;refine Ht m f (r+1) _ c.on e n ∅ (.inr ⟨l,?_⟩) h;rcases b with z|⟨k,g⟩;·rw[z];have:=q.2.1;lia
   ·rw[uc];lia
  ·split at h;·cases h;assumption
   ·cases h
theorem JL{b a:Nat}{c e:Cur}(d:a<=60000)(h:number b a c= .ok (n,e)):b<=n/\n<=a:=Ht d 6 0 0 c e n rfl (.inl rfl) h
theorem N5(a:List String)(i:Nat):ascii (a.getD i "")=(a.map ascii).getD i []:=by rw[z5,z5,z7];cases a[i]? with|none=>exact(∎:ascii ""=[]) |some w=>rfl
theorem UP{c:Type}(p:c->Bool)(d:c)(l:List c):(List.range l.length).find? (fun i=>p (l.getD i d))=l.findIdx? p:=by
 cases h:l.findIdx? p with
 |none=>
  rw[wx]at h;rw[xS];intro i b;have a:=zC.mp b;have:l.getD i d=l[i]:=by simp[z5,z4 a]
  rw[this,h _ (wo a)];decide
 |some i=>rw[yL]at h;obtain⟨b,k,g⟩:=h;rw[vN];refine⟨by simpa[z5,z4 b]using k,zC.mpr b,fun j f=>?_⟩;have e:j<l.length:=ue f b;have:=g j f;simpa[z5,z4 e]using this
structure Words(ws:List String):Prop where
 short:∀w∈(List.range ws.length).map fun(i:Nat)=>(i,ascii (ws.getD i "")),w.2.length<16
 apart:Apart ((List.range ws.length).map fun(i:Nat)=>(i,ascii (ws.getD i "")))
 ne:ws≠[]
theorem VU{a:List String}(W:Words a)(c:Cur):word a c=match(a.map ascii).findIdx? (fun b=>decide (shl b c.rest=b.length))with|some i=> .ok (i,⟨c.rest.drop ((a.map ascii).getD i []).length,c.at_+((a.map ascii).getD i []).length⟩) |none=> .error (c.at_+most ((a.map ascii).map fun b=>shl b c.rest)):=by
 unfold word;rw[Sn 16 _ c W.short W.apart (by intro z;have:=zT List.length z;rw[z3,yj]at this;exact W.ne (wH.mp this))];rw[List.find?_map];have e:(fits c.rest∘fun(i:Nat)=>(i,ascii (a.getD i "")))=fun i=>(fun b=>decide (shl b c.rest=b.length)) ((a.map ascii).getD i []):=by funext i;show decide (shl (ascii (a.getD i "")) c.rest=(ascii (a.getD i "")).length)=_;rw[N5]
 rw[e];have d:=UP (fun b:Bytes=>decide (shl b c.rest=b.length)) [] (a.map ascii);rw[z3]at d;rw[d];cases(a.map ascii).findIdx? (fun b=>decide (shl b c.rest=b.length))with
 |some i=>show Except.ok (i,(⟨c.rest.drop (ascii (a.getD i "")).length,c.at_+(ascii (a.getD i "")).length⟩:Cur))=_;rw[N5]
 |none=>
  show Except.error _=Except.error _;congr 2;rw[zG,zG];congr 1;apply vB;intro i;rw[z7,z7];by_cases hi:i<a.length;·rw[xh hi,z4 hi];show some (shl (ascii (a.getD i "")) c.rest)=some (shl (ascii a[i]) c.rest);rw[z5,z4 hi];rfl
  ·rw[xX ‹hi›,xX ‹hi›];rfl
theorem dP{a:List String}(W:Words a){c d:Cur}{i:Nat}(h:word a c= .ok (i,d)):i<a.length:=by rw[VU W]at h;cases q:(a.map ascii).findIdx? (fun b=>decide (shl b c.rest=b.length))with|none=>rw[q]at h;cases h|some j=>rw[q]at h;cases h;rw[yL]at q;obtain⟨e,Y⟩:=q;rw[z3]at e;exact e
def Um:List (Bytes×List String)->Cur->Except Nat (List (Nat×Nat)×Cur) |[],c=> .ok ([],c) |x::r,c=>(lit x.1 c).bind fun c=>(word x.2 c).bind fun n=>(Um r n.2).bind fun q=> .ok ((c.at_,n.1)::q.1,q.2)
def CH:List (Bytes×List String):=[(ascii "first ",["hunters","king"]),(ascii "\nking ",["steps","slides"]),([32],["bare","armed"]),([32],["two","four"]),(ascii "\nseat ",["barred","passed"]),([32],ENMITY),(ascii "\nexits ",ENMITY),(ascii "\ngoal ",["edge","exits"]),(ascii "\nthrice ",["drawn","hunters","king"])]
def dI(q:List (Nat×Nat))(i:Nat):Nat:=(q.getD i (0,0)).2
def q_(q:List (Nat×Nat))(i:Nat):Nat:=(q.getD i (0,0)).1
def mQ(n:Bytes)(w h:Nat)(g:List (List Kind))(b:List Nat)(s:List (List Piece))(a:List Nat)(q:List (Nat×Nat))(l:Nat):Rules:=⟨n,w,h,g,b,s,a,dI q 0,dI q 1==1,dI q 2==1,dI q 3==1,dI q 4==1,dI q 5,dI q 6,dI q 7,q_ q 7,dI q 8,l⟩
def kb(b:Bytes):Except Nat Rules:=(lit (ascii "tafl ") ⟨b,0⟩).bind fun c=>(nameIn c).bind fun n=>(lit [32] n.2).bind fun c=>(number 5 13 c).bind fun w=>(lit [32] w.2).bind fun c=>(number 5 13 c).bind fun h=>(lit (ascii "\nground\n") h.2).bind fun c=>(rowsIn kindSign w.1 h.1 c).bind fun g=>(lit (ascii "start\n") g.2.2).bind fun c=>(rowsIn pieceSign w.1 h.1 c).bind fun s=>(Um CH s.2.2).bind fun q=>(lit (ascii "\nlimit ") q.2).bind fun c=>(number 1 60000 c).bind fun l=>(lit [LF] l.2).bind fun c=>if c.rest=[]then .ok (mQ n.1 w.1 h.1 g.1 g.2.1 s.1 s.2.1 q.1 l.1)else .error c.at_
theorem bind_assoc{c b d:Type}(r:Except Nat c)(f:c->Except Nat b)(g:b->Except Nat d):(r.bind f).bind g=r.bind fun a=>(f a).bind g:=by cases r<;>rfl
theorem gc(b:Bytes):grammar b=kb b:=by unfold kb CH;simp only[Um,bind_assoc];rfl
theorem cY:∀(l:List (Bytes×List String))(_:∀x∈l,Words x.2)(c d:Cur)(q:List (Nat×Nat)),Um l c= .ok (q,d)->∀i,i<l.length->dI q i<(l.getD i ([],[])).2.length|[],_,c,d,q,h,i,b=>by cases b|x::r,j,c,d,q,h,i,b=>by rw[Um]at h;cases k:lit x.1 c with|error e=>rw[k]at h;cases h|ok a=>rw[k]at h;replace h:((word x.2 a).bind fun n=>(Um r n.2).bind fun q=> .ok ((a.at_,n.1)::q.1,q.2))= .ok (q,d):=h;cases g:word x.2 a with|error e=>rw[g]at h;cases h|ok n=>rw[g]at h;replace h:((Um r n.2).bind fun q=> .ok ((a.at_,n.1)::q.1,q.2))= .ok (q,d):=h;cases f:Um r n.2 with|error e=>rw[f]at h;cases h|ok z=>rw[f]at h;cases h;cases i with|zero=>exact dP (j x zh) (i:=n.1) (d:=n.2) g|succ i=>exact cY r (fun y m=>j y (zg _ m)) n.2 z.2 z.1 f i ‹b›
theorem Rn:∀x∈CH,Words x.2:=by have i:Words ["hunters","king"]:=⟨∎,by unfold Apart;decide+kernel,⋯⟩;have h:Words ["steps","slides"]:=⟨∎,by unfold Apart;decide+kernel,⋯⟩;have g:Words ["bare","armed"]:=⟨∎,by unfold Apart;decide+kernel,⋯⟩;have f:Words ["two","four"]:=⟨∎,by unfold Apart;decide+kernel,⋯⟩;have e:Words ["barred","passed"]:=⟨∎,by unfold Apart;decide+kernel,⋯⟩;have d:Words ENMITY:=⟨∎,by unfold Apart;decide+kernel,⋯⟩;have c:Words ["edge","exits"]:=⟨∎,by unfold Apart;decide+kernel,⋯⟩;have b:Words ["drawn","hunters","king"]:=⟨∎,by unfold Apart;decide+kernel,⋯⟩;intro x a;simp only[CH,zw,List.not_mem_nil,or_false]at a;rcases a with rfl|rfl|rfl|rfl|rfl|rfl|rfl|rfl|rfl<;>assumption
theorem DE:∀(l:List Nat)(a c:Nat),(l.foldl (fun(n c:Nat)=>n|||2^c) a).testBit c=(a.testBit c||decide (c∈l))
|[],a,c=>by simp
|x::l,a,c=>by
 rw[ym,DE l,Nat.testBit_or,Nat.testBit_two_pow];by_cases h:x=c;·subst h;simp
 ·have b:¬c=x:=fun q=>h q.symm;simp[h,b]
theorem BD(l:List Nat)(c:Nat):(setFrom l).testBit c=decide (c∈l):=by unfold setFrom;rw[DE];simp
def D5(c:Nat):Piece:=if c=104 then .hunter else if c=109 then .man else if c=75 then .king else .none
def Bl(s:Nat)(b:List Nat):List Nat:=(List.range b.length).filter fun i=>b.getD i 0==s
theorem BW{s:Nat}:c∈Bl s b↔c<b.length/\b.getD c 0=s:=by unfold Bl;rw[zS,zC,zP]
structure A_(b:List Nat):Prop where
 len:b.length=169
 sign:∀c,c<169->b.getD c 0=46\/b.getD c 0=104\/b.getD c 0=109\/b.getD c 0=75
 one:∀c d,c<169->d<169->b.getD c 0=75->b.getD d 0=75->c=d
def Bw(b:List Nat):Nat:=((Bl 75 b).head?).getD TAKEN
def Aq(b:List Nat)(turn:Nat):Pos:=⟨setFrom (Bl 104 b),setFrom (Bl 109 b),Bw b,turn⟩
theorem A_.Bh(B:A_ b)(g:c<169):Bw b=c↔b.getD c 0=75:=by
 unfold Bw;constructor;·intro h;cases e:(Bl 75 b).head? with|none=>rw[e]at h;have:(255:Nat)=c:=h;lia|some d=>rw[e]at h;have:d=c:=h;subst this;exact(BW.mp (vz e)).2
 ·intro h;have f:c∈Bl 75 b:=BW.mpr ⟨by rw[B.len];exact g,h⟩;cases e:(Bl 75 b).head? with|none=>rw[List.head?_eq_none_iff]at e;rw[e]at f;cases f|some d=>have a:=BW.mp (vz e);rw[B.len]at a;exact B.one d c a.1 g a.2 h
theorem A_.CI(B:A_ b):Bw b=TAKEN↔∀c,c<169->b.getD c 0≠75:=by
 constructor;·intro h c f e;have:=(B.Bh f).mpr e;rw[h]at this;have:(255:Nat)=c:=this;lia
 ·intro h;unfold Bw;cases e:(Bl 75 b).head? with|none=>rfl|some d=>have a:=BW.mp (vz e);rw[B.len]at a;exact absurd a.2 (h d a.1)
theorem A_.LA(B:A_ b):Bw b=TAKEN\/Bw b<169:=by unfold Bw;cases e:(Bl 75 b).head? with|none=>exact .inl rfl|some d=>have a:=BW.mp (vz e);rw[B.len]at a;exact .inr a.1
theorem A_.on(B:A_ b)(t:Nat)(a:c<169):(Aq b t).on c=D5 (b.getD c 0):=by
 have m:∀s,(setFrom (Bl s b)).testBit c=decide (b.getD c 0=s):=fun s=>by rw[BD];congr 1;rw[BW,B.len];simp[a]
 unfold Pos.on Aq;cbv;rw[m,m];rcases B.sign c a with h|h|h|h;·rw[zb (fun q=>by have:=(B.Bh a).mp q;lia)];rw[h];rfl
 ·rw[zb (fun q=>by have:=(B.Bh a).mp q;lia)];rw[h];rfl
 ·rw[zb (fun q=>by have:=(B.Bh a).mp q;lia)];rw[h];rfl
 ·rw[zc ((B.Bh a).mpr h)];rw[h];rfl
theorem A_.bit(B:A_ b)(s:Nat)(c:Nat):(setFrom (Bl s b)).testBit c=decide (c<169/\b.getD c 0=s):=by rw[BD];congr 1;rw[BW,B.len]
theorem XM{d:List Nat}{t u:Nat}(B:A_ b)(D:A_ d)(h:Aq b t=Aq d u):b=d/\t=u:=by
 unfold Aq at h;injection h with h1 h2 h3 h4;refine⟨?_,h4⟩;apply xJ;·rw[B.len,D.len]
 ·intro c e f;have a:c<169:=by rw[<-B.len];exact e
  have j:b.getD c 0=b[c]:=by rw[z5,z4 e];rfl
  have i:d.getD c 0=d[c]:=by rw[z5,z4 f];rfl
  rw[<-j,<-i];have m:(b.getD c 0=104)↔(d.getD c 0=104):=by have:=zT (fun n=>n.testBit c) h1;simp only[B.bit,D.bit,a,sM]at this;simpa using this
  have l:(b.getD c 0=109)↔(d.getD c 0=109):=by have:=zT (fun n=>n.testBit c) h2;simp only[B.bit,D.bit,a,sM]at this;simpa using this
  have k:(b.getD c 0=75)↔(d.getD c 0=75):=by rw[<-B.Bh a,<-D.Bh a,h3]
  rcases B.sign c a with h|h|h|h<;>rcases D.sign c a with g|g|g|g<;>lia
theorem FZ{t:Nat}{p:Pos}(B:A_ b)(h:∀c,p.hunters.testBit c=decide (c<169/\b.getD c 0=104))(g:∀c,p.men.testBit c=decide (c<169/\b.getD c 0=109))(d:p.king=Bw b)(a:p.side=t):p=Aq b t:=by
 obtain⟨f,e,l,k⟩:=p;unfold Aq;have j:f=setFrom (Bl 104 b):=sW fun c=>by rw[B.bit];exact h c
 have i:e=setFrom (Bl 109 b):=sW fun c=>by rw[B.bit];exact g c
 rw[j,i];dsimp only at d a;rw[d,a]
def Dz(d:Nat):Int:=if d=1 then 1 else if d=3 then-1 else 0
def Dy(d:Nat):Int:=if d=0 then 1 else if d=2 then-1 else 0
def Va(a b:Nat)(c d:Nat):Int:=if 0<=((c%13:Nat):Int)+Dz d/\((c%13:Nat):Int)+Dz d<a/\0<=((c/13:Nat):Int)+Dy d/\((c/13:Nat):Int)+Dy d<b then 13*(((c/13:Nat):Int)+Dy d)+(((c%13:Nat):Int)+Dz d)else-1
structure B1(r:Rules):Prop where
 w5:5<=r.wide
 KU:r.wide<=13
 h5:5<=r.high
 Vv:r.high<=13
theorem BI:r.isCell c=true↔c%13<r.wide/\c/13<r.high:=by show(decide (c%13<r.wide)&&decide (c/13<r.high))=true↔_;rw[zp,zq,zq]
theorem IT(r:Rules)(d c:Nat):r.next d c=if d=0 then(if c/13+1<r.high then some (13*(c/13+1)+c%13)else none)else if d=1 then(if c%13+1<r.wide then some (13*(c/13)+(c%13+1))else none)else if d=2 then(if 0<c/13 then some (13*(c/13-1)+c%13)else none)else if 0<c%13 then some (13*(c/13)+(c%13-1))else none:=rfl
theorem B1.lt(Z:B1 r)(h:r.isCell c=true):c<169:=by have:=BI.mp h;have:=Z.Vv;lia
theorem BE(Z:B1 r)(h:r.isCell c=true)(e:r.next d c=some n):r.isCell n=true:=by
 obtain⟨b,a⟩:=BI.mp h;have:=Z.KU;rw[IT]at e;rw[BI];split at e
 ·split at e;·cases e;constructor<;>lia
  ·cases e
 ·split at e
  ·split at e;·cases e;constructor<;>lia
   ·cases e
  ·split at e
   ·split at e;·cases e;constructor<;>lia
    ·cases e
   ·split at e;·cases e;constructor<;>lia
    ·cases e
theorem fB(Z:B1 r)(a:d<4)(h:r.isCell c=true):Va r.wide r.high c d=match r.next d c with|some n=>(n:Int) |none=> -1:=by
 obtain⟨f,e⟩:=BI.mp h;have:=Z.KU;unfold Va;rw[IT];have b:c%13<13:=wV _ ⋯;match d,a with
 |0,_=>
  simp only[Dz,Dy,xj];by_cases q:c/13+1<r.high;·rw[zc (by simp;lia),zc q];cbv;simp
  ·rw[zb (by simp;lia),zb q]
 |1,_=>
  simp only[Dz,Dy,xj];by_cases q:c%13+1<r.wide;·rw[zc (by simp;lia)];simp only[uh,yS,zc q];simp
  ·rw[zb (by simp;lia)];simp only[uh,yS,zb q]
 |2,_=>
  simp only[Dz,Dy];by_cases q:0<c/13;·rw[zc (by simp;lia)];simp[q];lia
  ·rw[zb (by simp;lia)];simp[q]
 |3,_=>
  simp only[Dz,Dy];by_cases q:0<c%13;·rw[zc (by simp;lia)];simp[q];lia
  ·rw[zb (by simp;lia)];simp[q]
def room(r:Rules)(d c:Nat):Nat:=if d=0 then r.high-1-c/13 else if d=1 then r.wide-1-c%13 else if d=2 then c/13 else c%13
theorem OP(Z:B1 r)(h:r.isCell c=true)(e:r.next d c=some n):room r d n+1=room r d c:=by
 obtain⟨j,i⟩:=BI.mp h;have:=Z.KU;rw[IT]at e;unfold room;split at e
 ·rename_i a;split at e;·cases e;simp only[a,xj];lia
  ·cases e
 ·rename_i g;split at e
  ·rename_i a;split at e;·cases e;simp only[a,uh,yS,xj];lia
   ·cases e
  ·rename_i f;split at e
   ·rename_i a;split at e;·cases e;subst a;simp;lia
    ·cases e
   ·rename_i b;split at e;·cases e;simp only[g,f,b,yS];lia
    ·cases e
theorem W3(Z:B1 r)(h:r.isCell c=true):room r d c<13:=by
 obtain⟨b,a⟩:=BI.mp h;have:=Z.KU;have:=Z.Vv;unfold room;split;·lia
 ·split;·lia
  ·split<;>lia
def Zd(r:Rules)(d:Nat):Nat->Nat->List Nat|0,_=>[] |f+1,c=>match r.next d c with|none=>[] |some n=>n::Zd r d f n
def Dir(d c n:Nat):Prop:=if d=0 then n%13=c%13/\c/13<n/13 else if d=1 then n/13=c/13/\c%13<n%13 else if d=2 then n%13=c%13/\n/13<c/13 else n/13=c/13/\n%13<c%13
theorem Dir.trans{a b:Nat}(h:Dir d a b)(g:Dir d b c):Dir d a c:=by
 unfold Dir at*;split at h;·simp_all;lia
 ·split at h;·simp_all;lia
  ·split at h;·simp_all;lia
   ·simp_all;lia
theorem Dir.ne{a b:Nat}(h:Dir d a b):a≠b:=by
 intro e;subst e;unfold Dir at h;split at h;·lia
 ·split at h;·lia
  ·split at h<;>lia
theorem Dir.apart{e a b:Nat}(f:d<4)(c:e<4)(h:Dir d a b)(g:Dir e a b):d=e:=by unfold Dir at h g;match d,f,e,c with|0,_,0,_=>rfl|1,_,1,_=>rfl|2,_,2,_=>rfl|3,_,3,_=>rfl|0,_,1,_=>simp at h g;lia|0,_,2,_=>simp at h g;lia|0,_,3,_=>simp at h g;lia|1,_,0,_=>simp at h g;lia|1,_,2,_=>simp at h g;lia|1,_,3,_=>simp at h g;lia|2,_,0,_=>simp at h g;lia|2,_,1,_=>simp at h g;lia|2,_,3,_=>simp at h g;lia|3,_,0,_=>simp at h g;lia|3,_,1,_=>simp at h g;lia|3,_,2,_=>simp at h g;lia
theorem MJ(Z:B1 r)(a:d<4)(h:r.isCell c=true)(e:r.next d c=some n):Dir d c n:=by obtain⟨f,b⟩:=BI.mp h;have:=Z.KU;rw[IT]at e;unfold Dir;match d,a with|0,_=>simp at e|-;lia|1,_=>simp at e|-;lia|2,_=>simp at e|-;lia|3,_=>simp at e|-;lia
theorem IG(Z:B1 r)(i:d<4):∀(f c n:Nat),r.isCell c=true->n∈Zd r d f c->r.isCell n=true/\Dir d c n
|0,c,n,_,h=>by cases h
|f+1,c,n,j,h=>by
 unfold Zd at h;split at h;·cases h
 ·rename_i m e;have g:=BE Z j e;have k:=MJ Z i j e;rcases zw.mp h with rfl|h;·exact⟨g,k⟩
  ·obtain⟨a,b⟩:=IG Z i f m n g h;exact⟨a,k.trans b⟩
theorem OR(Z:B1 r)(b:d<4):∀(f c:Nat),r.isCell c=true->(Zd r d f c).Nodup
|0,_,_=>wa
|f+1,c,g=>by
 unfold Zd;split;·exact wa
 ·rename_i m e;have a:=BE Z g e;refine xV.mpr ⟨fun h=>(IG Z b f m m a h).2.ne rfl,OR Z b f m a⟩
theorem W5(Z:B1 r){d:Nat}:∀(f c:Nat),r.isCell c=true->(Zd r d f c).length<=room r d c
|0,_,_=>zx _
|f+1,c,a=>by
 unfold Zd;split;·exact zx _
 ·rename_i m e;have b:=BE Z a e;have h:=W5 Z (d:=d) f m b;have g:=OP Z a e;simp only[zm];lia
theorem Qw{p:Pos}:∀(f c:Nat),(r.manWay p d f c).Sublist (Zd r d f c)
|0,_=>List.Sublist.slnil
|f+1,c=>by
 unfold Rules.manWay Zd;cases e:r.next d c with
 |none=>exact xI _
 |some m=>
  cbv;split;·exact xI _
  ·split;·exact xI _
   ·split;·exact(Qw f m).cons _
    ·exact xI _
   ·exact(Qw f m).cons_cons _
theorem SI{p:Pos}:∀(f c:Nat),(r.kingWay p d f c).Sublist (Zd r d f c)
|0,_=>List.Sublist.slnil
|f+1,c=>by
 unfold Rules.kingWay Zd;cases e:r.next d c with
 |none=>exact xI _
 |some m=>
  cbv;split;·exact xI _
  ·split;·exact(SI f m).cons_cons _
   ·exact(xI _).cons_cons _
abbrev DW(r:Rules)(p:Pos)(c d:Nat):List Nat:=if p.king=c then r.kingWay p d STRIDE c else r.manWay p d STRIDE c
theorem Ih{p:Pos}:(DW r p c d).Sublist (Zd r d 13 c):=by
 unfold DW;split;·exact SI 13 c
 ·exact Qw 13 c
theorem M7(r:Rules)(p:Pos)(c:Nat):r.reach p c=DW r p c 0++(DW r p c 1++(DW r p c 2++DW r p c 3)):=by unfold Rules.reach WAYS;simp only[xa,List.flatMap_nil,zR]
theorem HK(Z:B1 r){p:Pos}(b:r.isCell c=true)(h:n∈r.reach p c):r.isCell n=true/\c≠n:=by
 have g:∀d,d<4->n∈DW r p c d->r.isCell n=true/\c≠n:=fun d a h=>by have:=IG Z a 13 c n b (Ih.subset h);exact⟨this.1,this.2.ne⟩
 rw[M7]at h;rcases zD.mp h with h|h;·exact g 0 ⋯ h
 rcases zD.mp h with h|h;·exact g 1 ⋯ h
 rcases zD.mp h with h|h;·exact g 2 ⋯ h
 ·exact g 3 ⋯ h
theorem K6(Z:B1 r){p:Pos}(j:r.isCell c=true):(r.reach p c).Nodup:=by
 have g:∀d,d<4->(DW r p c d).Nodup:=fun d h=>Ih.nodup (OR Z h 13 c j);have f:∀d e,d<4->e<4->d≠e->∀x,x∈DW r p c d->∀y,y∈DW r p c e->x≠y:=fun d e h k i x b y a q=>by subst q;exact i ((IG Z h 13 c x j (Ih.subset b)).2.apart h k (IG Z k 13 c x j (Ih.subset a)).2)
 rw[M7,yZ,yZ,yZ];refine⟨g 0 ⋯,⟨g 1 ⋯,⟨g 2 ⋯,g 3 ⋯,f 2 3 ⋯ ⋯ ⋯⟩,fun x b y a=>?_⟩,fun x b y a=>?_⟩
 ·rcases zD.mp a with a|a;·exact f 1 2 ⋯ ⋯ ⋯ x b y a
  ·exact f 1 3 ⋯ ⋯ ⋯ x b y a
 ·rcases zD.mp a with a|a;·exact f 0 1 ⋯ ⋯ ⋯ x b y a
  rcases zD.mp a with a|a;·exact f 0 2 ⋯ ⋯ ⋯ x b y a
  ·exact f 0 3 ⋯ ⋯ ⋯ x b y a
theorem OQ(Z:B1 r){p:Pos}(a:r.isCell c=true):(r.reach p c).length<=52:=by
 have g:∀d,(DW r p c d).length<=13:=fun d=>by have f:=(Ih (r:=r) (p:=p) (c:=c) (d:=d)).length_le;have e:=W5 Z (d:=d) 13 c a;have b:=W3 Z (d:=d) a;lia
 rw[M7,zd,zd,zd];have:=g 0;have:=g 1;have:=g 2;have:=g 3;lia
theorem Hj{l:List Nat}{c:List Int}(g:c.Perm (l.map fun(x:Nat)=>(x:Int)))(f:c.Pairwise (· <=·))(j:l.Nodup)(i:∀x∈l,x<n):c=((List.range n).filter fun t=>l.contains t).map fun(x:Nat)=>(x:Int):=by
 have d:(((List.range n).filter fun t=>l.contains t).map fun(x:Nat)=>(x:Int)).Pairwise (· <=·):=by rw[List.pairwise_map];refine(r9 _ (sE (n:=n))).imp fun{a b} h=>?_;lia
 have e:c.Perm (((List.range n).filter fun t=>l.contains t).map fun(x:Nat)=>(x:Int)):=by
  refine g.trans (List.Perm.map _ ?_);rw[w9 j (wW.filter _)];intro x;rw[zS,zC];constructor;·intro h;exact⟨i x h,‹h›⟩
  ·rintro⟨Y,h⟩;simpa using h
 exact List.Perm.eq_of_pairwise (fun a b Y Y m k=>Int.le_antisymm m k) f d e
def cM(r:Rules)(b:List Nat)(c:Nat):Nat:=match r.kindAt c with| .exit=>r.exits| .seat=>if b.getD c 0=46 then r.seat else 0|_=>0
def stH(r:Rules)(b:List Nat):Option Nat->Bool|none=>false|some c=>b.getD c 0==109||(b.getD c 0==75&&r.armed) ||cM r b c%2==1
def stM(r:Rules)(b:List Nat):Option Nat->Bool|none=>false|some c=>b.getD c 0==104||cM r b c/2%2==1
def Nc(r:Rules)(b:List Nat)(a d c:Nat):Bool:=if a≠104 then b.getD c 0==104&&stH r b (r.next d c)else if b.getD c 0=75/\r.four=true then(stM r b (r.next 0 c)&&stM r b (r.next 1 c)&&stM r b (r.next 2 c)&&stM r b (r.next 3 c))else(b.getD c 0==109||b.getD c 0==75)&&stM r b (r.next d c)
def DB(r:Rules)(b:List Nat)(t:Nat):List Nat:=if b.getD t 0=75/\r.armed=false then[]else WAYS.filterMap fun d=>match r.next d t with|none=>none|some c=>if Nc r b (b.getD t 0) d c=true then some c else none
structure Oh(r:Rules):Prop where
 s:r.seat<=3
 x:r.exits<=3
theorem WV{e:Nat}(h:e<=3):hates e false=(e%2==1):=by match e,h with|0,_=>rfl|1,_=>rfl|2,_=>rfl|3,_=>rfl
theorem WU{e:Nat}(h:e<=3):hates e true=(e/2%2==1):=by match e,h with|0,_=>rfl|1,_=>rfl|2,_=>rfl|3,_=>rfl
theorem L5(B:A_ b)(a:c<169):(D5 (b.getD c 0)==Piece.none)=(b.getD c 0==46):=by rcases B.sign c a with h|h|h|h<;>rw[h]<;>rfl
theorem OV(B:A_ b)(a:c<169):(D5 (b.getD c 0)==Piece.hunter)=(b.getD c 0==104):=by rcases B.sign c a with h|h|h|h<;>rw[h]<;>rfl
theorem aV(B:A_ b)(a:c<169):(D5 (b.getD c 0)==Piece.man)=(b.getD c 0==109):=by rcases B.sign c a with h|h|h|h<;>rw[h]<;>rfl
theorem fm(B:A_ b)(a:c<169):(D5 (b.getD c 0)==Piece.king)=(b.getD c 0==75):=by rcases B.sign c a with h|h|h|h<;>rw[h]<;>rfl
theorem YU(N:Oh r)(B:A_ b){t:Nat}(a:c<169):r.against (Aq b t) false c=(cM r b c%2==1):=by
 unfold Rules.against cM;cases r.kindAt c with
 |plain=>rfl
 |wall=>rfl
 |exit=>exact WV N.x
 |seat=>
  cbv;rw[B.on t a,L5 B a,WV N.s];by_cases h:b.getD c 0=46;·rw[zc h,h];simp
  ·rw[zb h];have:(b.getD c 0==46)=false:=by rw[zL];exact h
   rw[this];rfl
theorem YT(N:Oh r)(B:A_ b){t:Nat}(a:c<169):r.against (Aq b t) true c=(cM r b c/2%2==1):=by
 unfold Rules.against cM;cases r.kindAt c with
 |plain=>simp
 |wall=>simp
 |exit=>exact WU N.x
 |seat=>
  cbv;rw[B.on t a,L5 B a,WU N.s];by_cases h:b.getD c 0=46;·rw[zc h,h];simp
  ·rw[zb h];have:(b.getD c 0==46)=false:=by rw[zL];exact h
   rw[this];rfl
theorem Z0(N:Oh r)(B:A_ b)(t:Nat)(a:c<169):stH r b (some c)=decide (r.helps false ((Aq b t).on c)=true\/r.against (Aq b t) false c=true):=by rw[YU N B a,B.on t a];unfold stH Rules.helps;simp only[yD,yS];rw[aV B a,fm B a];cases(b.getD c 0==109)<;>cases(b.getD c 0==75)<;>cases r.armed<;>cases(cM r b c%2==1)<;>rfl
theorem stM_eq(N:Oh r)(B:A_ b)(t:Nat)(a:c<169):stM r b (some c)=((Aq b t).on c== .hunter||r.against (Aq b t) true c):=by rw[YT N B a,B.on t a,OV B a];rfl
theorem Ox(N:Oh r)(B:A_ b)(t:Nat)(a:c<169):stM r b (some c)=decide (r.helps true ((Aq b t).on c)=true\/r.against (Aq b t) true c=true):=by rw[stM_eq N B t a];unfold Rules.helps;simp only[xj];cases((Aq b t).on c==Piece.hunter)<;>cases r.against (Aq b t) true c<;>rfl
theorem DK(Z:B1 r)(h:r.isCell c=true)(e:r.next d c=some n):n<169:=Z.lt (BE Z h e)
theorem BP:(d,n)∈r.neighbours c↔d<4/\r.next d c=some n:=by
 unfold Rules.neighbours;rw[yA];constructor;·rintro⟨e,a,h⟩;cases q:r.next e c with|none=>rw[q]at h;cases h|some m=>rw[q]at h;cases h;refine⟨?_,q⟩;simp[WAYS]at a;lia
 ·rintro⟨b,h⟩;refine⟨d,?_,by rw[h];rfl⟩;simp[WAYS];lia
theorem SE{t:Nat}:n∈DB r b t↔¬(b.getD t 0=75/\r.armed=false)/\∃d,d<4/\r.next d t=some n/\Nc r b (b.getD t 0) d n=true:=by
 unfold DB;split
 ·rename_i h;constructor;·intro q;cases q
  ·rintro⟨q,Y⟩;exact absurd h q
 ·rename_i h;rw[yA];constructor
  ·rintro⟨d,a,e⟩;refine⟨h,d,by simp[WAYS]at a;lia,?_⟩;cases q:r.next d t with
   |none=>rw[q]at e;cases e
   |some m=>
    rw[q]at e;dsimp only at e;split at e;·cases e;exact⟨rfl,by assumption⟩
    ·cases e
  ·rintro⟨Y,d,a,f,c⟩;refine⟨d,by simp[WAYS];lia,?_⟩;rw[f];cbv;rw[zc c]
theorem WX(Z:B1 r)(N:Oh r)(B:A_ b)(t:Nat)(o:r.isCell c=true):((r.neighbours c).length==4&&(r.neighbours c).all fun(m:Nat×Nat)=>(Aq b t).on m.2== .hunter||r.against (Aq b t) true m.2)=(stM r b (r.next 0 c)&&stM r b (r.next 1 c)&&stM r b (r.next 2 c)&&stM r b (r.next 3 c)):=by have g:∀d n,r.next d c=some n->stM r b (some n)=((Aq b t).on n== .hunter||r.against (Aq b t) true n):=fun d n e=>stM_eq N B t (DK Z o e);unfold Rules.neighbours WAYS;simp only[yu,List.filterMap_nil];cases p:r.next 0 c with|none=>simp only[ug,stM,xM];cases h:r.next 1 c<;>cases f:r.next 2 c<;>cases a:r.next 3 c<;>simp|some l=>cases h:r.next 1 c with|none=>simp only[ug,yE,stM,vm,xM];cases f:r.next 2 c<;>cases a:r.next 3 c<;>simp|some k=>cases f:r.next 2 c with|none=>simp only[ug,yE,stM,vm,xM];cases a:r.next 3 c<;>simp|some j=>cases a:r.next 3 c with|none=>simp[stM] |some i=>simp only[yE];rw[g 0 l p,g 1 k h,g 2 j f,g 3 i a];simp[qx]
theorem X0(Z:B1 r)(N:Oh r)(B:A_ b)(u:Nat){t:Nat}(x:r.isCell t=true)(F:b.getD t 0=104\/b.getD t 0=109\/b.getD t 0=75)(n:Nat):n∈DB r b t↔(n∈r.menTaken (Aq b u) (b.getD t 0==104) t\/((b.getD t 0==104)=true/\r.kingTaken (Aq b u) t=true/\n=(Aq b u).king)):=by
 have y:=Z.lt x;rw[SE];by_cases hh:b.getD t 0=104
 ·have A:(b.getD t 0==104)=true:=by rw[hh];rfl
  rw[A];unfold Rules.menTaken;rw[zb (by simp),yA];constructor
  ·rintro⟨Y,d,l,g,a⟩;have w:=BE Z x g;have o:=Z.lt w;unfold Nc at a;rw[zb (by rw[hh];simp)]at a;by_cases p:b.getD n 0=75
   ·right;have D:(Aq b u).king=n:=(B.Bh o).mpr p;refine⟨rfl,?_,D.symm⟩;unfold Rules.kingTaken;rw[xq];exists(d,n),BP.mpr ⟨l,g⟩;cbv;rw[D,xG,wB];by_cases hf:r.four=true;·rw[zc hf,WX Z N B u w];rw[zc ⟨p,hf⟩]at a;exact a
    ·rw[zb hf];rw[zb (fun q=>hf q.2),p]at a;simp only[zp]at a;have i:=a.2;cases q:r.next d n with|none=>rw[q]at i;cases i|some m=>rw[q]at i;cbv;rw[<-stM_eq N B u (DK Z w q)];exact i
   ·left;rw[zb (fun q=>p q.1)]at a;simp only[zp,yt,zP]at a;have h:b.getD n 0=109:=a.1.resolve_right p;exists(d,n),BP.mpr ⟨l,g⟩;cbv;rw[zc (by rw[B.on u o,h];rfl)];have i:=a.2;cases q:r.next d n with|none=>rw[q]at i;cases i|some m=>rw[q,Ox N B u (DK Z w q)]at i;cbv;rw[zc (vt i)]
  ·rintro(⟨⟨d,c⟩,k,e⟩ |⟨Y,p,rfl⟩)
   ·obtain⟨l,g⟩:=BP.mp k;dsimp only at e;rw[zc (show true=true from rfl)]at e;split at e
    ·rename_i j;have s:=BE Z x g;have f:=Z.lt s;cases q:r.next d c with
     |none=>rw[q]at e;cases e
     |some m=>
      rw[q]at e;dsimp only at e;split at e;·rename_i z;cases e;exists∅,d,l,g;rw[B.on u f,aV B f]at j;have h:b.getD n 0=109:=‹j›;unfold Nc;rw[zb (by rw[hh];simp),zb (by rw[h];simp),q,Ox N B u (DK Z s q),h];simp only[xG,Bool.true_or,wB];exact zj z
      ·cases e
    ·cases e
   ·unfold Rules.kingTaken at p;rw[xq]at p;obtain⟨⟨d,c⟩,k,e⟩:=p;obtain⟨l,g⟩:=BP.mp k;dsimp only at e;rw[zp,zP]at e;obtain⟨E,e⟩:=e;have s:=BE Z x g;have f:=Z.lt s;have v:b.getD c 0=75:=(B.Bh f).mp E.symm;rw[<-E]at e|-;exists∅,d,l,g;unfold Nc;rw[zb (by rw[hh];simp)];by_cases hf:r.four=true;·rw[zc hf,WX Z N B u s]at e;rw[zc ⟨v,hf⟩];exact e
    ·rw[zb hf]at e;rw[zb (fun q=>hf q.2),v];cases q:r.next d c with|none=>rw[q]at e;cases e|some m=>rw[q]at e;dsimp only at e;rw[stM_eq N B u (DK Z s q)];simpa using e
 ·have A:(b.getD t 0==104)=false:=by rw[zL];exact hh
  rw[A];unfold Rules.menTaken;have C:(Aq b u).king=t↔b.getD t 0=75:=B.Bh y;by_cases ha:b.getD t 0=75/\r.armed=false
  ·rw[zc ⟨rfl,C.mpr ha.1,ha.2⟩];constructor;·rintro⟨q,Y⟩;exact absurd ha q
   ·rintro(q|⟨q,Y⟩);·cases q
    ·cases q
  ·rw[zb (fun q=>ha ⟨C.mp q.2.1,q.2.2⟩),yA];constructor;·rintro⟨Y,d,l,g,a⟩;have w:=BE Z x g;have o:=Z.lt w;unfold Nc at a;rw[zc hh,zp,zP]at a;left;exists(d,n),BP.mpr ⟨l,g⟩;cbv;rw[zc (by rw[B.on u o,a.1];rfl)];have i:=a.2;cases q:r.next d n with|none=>rw[q]at i;cases i|some m=>rw[q,Z0 N B u (DK Z w q)]at i;cbv;rw[zc (vt i)]
   ·rintro(⟨⟨d,c⟩,k,e⟩ |⟨q,Y⟩)
    ·obtain⟨l,g⟩:=BP.mp k;dsimp only at e;rw[zb (show¬(false=true) by decide)]at e;split at e
     ·rename_i j;have s:=BE Z x g;have f:=Z.lt s;cases q:r.next d c with
      |none=>rw[q]at e;cases e
      |some m=>
       rw[q]at e;dsimp only at e;split at e;·rename_i z;cases e;exists ha,d,l,g;rw[B.on u f,OV B f]at j;unfold Nc;rw[zc hh,j,q,Z0 N B u (DK Z s q),wB];exact zj z
       ·cases e
     ·cases e
    ·cases q
def DS(b:List Nat)(a c:Nat):List Nat:=(b.set c (b.getD a 0)).set a 46
def TY(b:List Nat)(l:List Nat):List Nat:=l.foldl (fun b c=>b.set c 46) b
theorem J_(l:List Nat)(i j x:Nat):(l.set i x).getD j 0=if i=j/\i<l.length then x else l.getD j 0:=by
 rw[z5,z5,uV];by_cases h:i=j
 ·subst h;by_cases q:i<l.length;·simp[q]
  ·simp[q]
 ·simp[h]
theorem LD:∀(l b:List Nat),(TY b l).length=b.length|[],b=>rfl|c::l,b=>by show(TY (b.set c 46) l).length=_;rw[LD l,yP]
theorem E9:∀(l b:List Nat)(j:Nat),(TY b l).getD j 0=if j∈l/\j<b.length then 46 else b.getD j 0
|[],b,j=>by simp[TY]
|c::l,b,j=>by
 show(TY (b.set c 46) l).getD j 0=_;rw[E9 l,yP,J_];by_cases h1:j<b.length
 ·by_cases h2:j∈l;·rw[zc ⟨h2,h1⟩,zc ⟨zg _ h2,h1⟩]
  ·rw[zb (fun q=>h2 q.1)];by_cases h3:c=j;·subst h3;rw[zc ⟨rfl,h1⟩,zc ⟨zh,h1⟩]
   ·rw[zb (fun q=>h3 q.1),zb];rintro⟨q,Y⟩;rcases zw.mp q with q|q;·exact h3 q.symm
    ·exact h2 q
 ·have e:¬(j∈l/\j<b.length):=fun q=>h1 q.2;have d:¬(j∈c::l/\j<b.length):=fun q=>h1 q.2;have a:¬(c=j/\c<b.length):=fun q=>h1 (q.1▸q.2);rw[zb e,zb d,zb a]
structure YX(b:List Nat)(t m1 m2:Nat):Prop where
 tt:t<=1
 l1:m1<169
 l2:m2<169
 ne:m1≠m2
 own:(t=0/\b.getD m1 0=104)\/(t=1/\(b.getD m1 0=109\/b.getD m1 0=75))
 qA:b.getD m2 0=46
theorem Dv(B:A_ b){t a c:Nat}(M:YX b t a c)(j:Nat):(DS b a c).getD j 0=if j=a then 46 else if j=c then b.getD a 0 else b.getD j 0:=by
 unfold DS;rw[J_,J_,yP,B.len];have:=M.l1;have:=M.l2;by_cases h1:a=j;·subst h1;have e:a=a/\a<169:=⟨rfl,by assumption⟩;rw[zc e,zc rfl]
 ·have e:¬(a=j/\a<169):=fun q=>h1 q.1;have g:¬j=a:=fun q=>h1 q.symm;rw[zb e,zb g];by_cases h2:c=j;·subst h2;have d:c=c/\c<169:=⟨rfl,by assumption⟩;rw[zc d,zc rfl]
  ·have d:¬(c=j/\c<169):=fun q=>h2 q.1;have f:¬j=c:=fun q=>h2 q.symm;rw[zb d,zb f]
theorem GN(B:A_ b){t f h:Nat}(M:YX b t f h):A_ (DS b f h):=by
 refine⟨by unfold DS;rw[yP,yP,B.len],fun c g=>?_,fun c d g i e a=>?_⟩
 ·rw[Dv B M];split;·exact .inl rfl
  ·split;·exact B.sign f M.l1
   ·exact B.sign c g
 ·rw[Dv B M]at e a;split at e;·cases e
  ·split at a;·cases a
   ·split at e
    ·split at a;·lia
     ·have:=B.one f d M.l1 i e a;lia
    ·split at a;·have:=B.one c f g M.l1 e a;lia
     ·exact B.one c d g i e a
theorem PB(B:A_ b)(l:List Nat):A_ (TY b l):=by
 refine⟨by rw[LD,B.len],fun c f=>?_,fun c d f g e a=>?_⟩
 ·rw[E9];split;·exact .inl rfl
  ·exact B.sign c f
 ·rw[E9]at e a;split at e;·cases e
  ·split at a;·cases a
   ·exact B.one c d f g e a
theorem Ge:c∈cellsIn n↔c<192/\n.testBit c=true:=by unfold cellsIn;rw[zS,zC];rfl
theorem Mp(B:A_ b){t d f:Nat}(M:YX b t d f):(Aq b t).shifted (d,f)=Aq (DS b d f) (1-t):=by
 have l:=GN B M;have F:=M.l1;have A:=M.l2;have u:Bw (DS b d f)=if b.getD d 0=75 then f else Bw b:=by
  split;·rename_i h;rw[l.Bh A,Dv B M,zb (fun q=>M.ne q.symm),zc rfl,h]
  ·rename_i h;rcases B.LA with q|q
   ·rw[q,l.CI];intro c D e;rw[Dv B M]at e;split at e;·cases e
    ·split at e;·exact h e
     ·exact(B.CI.mp q) c D e
   ·obtain⟨k,i⟩:∃k,k=Bw b:=⟨_,rfl⟩;rw[<-i]at q|-;have v:b.getD k 0=75:=(B.Bh q).mp i.symm;rw[l.Bh q,Dv B M,zb (fun z=>h (by rw[<-z];exact v)),zb (fun z=>by have:=M.qA;rw[<-z,v]at this;cases this),v]
 have m:∀s,s≠46->∀c,(setFrom (f::(cellsIn (setFrom (Bl s b))).filter fun(c:Nat)=>c !=d)).testBit c=decide (c<169/\(if c=d then 46 else if c=f then s else b.getD c 0)=s):=fun s p c=>by
  rw[BD];congr 1;simp only[zw,zS,Ge,B.bit,zJ,bne_iff_ne,rk];constructor
  ·rintro(rfl|⟨⟨Y,x,j⟩,w⟩);·exact⟨A,by rw[zb (fun q=>M.ne q.symm),zc rfl]⟩
   ·refine⟨x,?_⟩;rw[zb w];split;·rfl
    ·exact j
  ·rintro⟨x,j⟩;split at j;·exact absurd j.symm p
   ·rename_i w;split at j;·rename_i E;exact .inl E
    ·exact .inr ⟨⟨∅,x,j⟩,w⟩
 have a:∀s,s≠46->b.getD d 0≠s->∀c,(setFrom (Bl s b)).testBit c=decide (c<169/\(DS b d f).getD c 0=s):=fun s p o c=>by
  rw[B.bit];congr 1;rw[Dv B M,rk];constructor;·rintro⟨r,g⟩;refine⟨r,?_⟩;rw[zb (fun q=>o (by rw[<-q];exact g)),zb (fun q=>by have:=M.qA;rw[<-q,g]at this;exact p this)];exact g
  ·rintro⟨r,g⟩;refine⟨r,?_⟩;split at g;·exact absurd g.symm p
   ·split at g;·exact absurd g o
    ·exact g
 have y:(Aq b t).king=d↔b.getD d 0=75:=B.Bh F;unfold Pos.shifted;by_cases i:b.getD d 0=75
 ·have n:t=1:=by
   rcases M.own with⟨Y,q⟩ |⟨q,Y⟩;·lia
   ·exact q
  subst n;rw[zc (y.mpr i)];refine FZ l (a 104 ⋯ ∅) (a 109 ⋯ ∅) ?_ rfl;rw[u,zc i]
 ·rw[zb (fun q=>i (y.mp q))];rcases M.own with⟨n,q⟩ |⟨n,q⟩
  ·subst n;rw[zc (show(Aq b 0).side=0 from rfl)];refine FZ l (fun c=>?_) (a 109 ⋯ ∅) ?_ rfl;·show(setFrom (f::(cellsIn (setFrom (Bl 104 b))).filter fun(c:Nat)=>c !=d)).testBit c=_;rw[m 104 ⋯ c,Dv B M,q]
   ·show Bw b=_;rw[u,zb i]
  ·have C:b.getD d 0=109:=q.resolve_right i;subst n;rw[zb (show¬(Aq b 1).side=0 from(⋯:¬(1:Nat)=0))];refine FZ l (a 104 ⋯ ∅) (fun c=>?_) ?_ rfl;·show(setFrom (f::(cellsIn (setFrom (Bl 109 b))).filter fun(c:Nat)=>c !=d)).testBit c=_;rw[m 109 ⋯ c,Dv B M,C]
   ·show Bw b=_;rw[u,zb i]
theorem PU(Z:B1 r){t:Nat}(a:r.isCell t=true)(h:n∈DB r b t):n<169:=by obtain⟨Y,d,Y,e,Y⟩:=SE.mp h;exact DK Z a e
theorem LS(Z:B1 r)(N:Oh r)(B:A_ b){t d a:Nat}(M:YX b t d a)(l:r.isCell a=true):r.takes (Aq b t) (d,a)=(List.range 192).filter fun c=>(DB r (DS b d a) a).contains c:=by
 have m:=GN B M;have j:(DS b d a).getD a 0=b.getD d 0:=by rw[Dv B M,zb (fun q=>M.ne q.symm),zc rfl]
 have i:((Aq b t).side==0)=((DS b d a).getD a 0==104):=by
  rw[j];rcases M.own with⟨h,q⟩ |⟨h,q⟩;·rw[h,q];rfl
  ·rw[h];rcases q with q|q<;>rw[q]<;>rfl
 have k:(DS b d a).getD a 0=104\/(DS b d a).getD a 0=109\/(DS b d a).getD a 0=75:=by
  rw[j];rcases M.own with⟨Y,q⟩ |⟨Y,q⟩;·exact .inl q
  ·exact .inr q
 unfold Rules.takes;simp only;rw[Mp B M];show List.filter _ (List.range 192)=_;apply vA;intro c Y;have:=X0 Z N m (1-t) l k c;rw[i];rw[zZ];simp only[yt,zp,zP,xY];rw[this];constructor
 ·rintro(q|⟨⟨g,f⟩,e⟩);·exact .inl q
  ·exact .inr ⟨‹g›,f,e⟩
 ·rintro(q|⟨g,f,e⟩);·exact .inl q
  ·exact .inr ⟨⟨‹g›,f⟩,e⟩
theorem cW(Z:B1 r)(N:Oh r)(B:A_ b){t d a:Nat}(M:YX b t d a)(u:r.isCell a=true):r.comes (Aq b t) (d,a)=Aq (TY (DS b d a) (DB r (DS b d a) a)) (1-t):=by
 have f:=GN B M;have n:=PB f (DB r (DS b d a) a);have l:∀c,(r.takes (Aq b t) (d,a)).contains c=decide (c∈DB r (DS b d a) a):=fun c=>by
  rw[LS Z N B M u,zZ,xY,zS,zC,xY,zq];constructor;·exact fun q=>q.2
  ·intro q;have:=PU Z u q;exact⟨∅,q⟩
 unfold Rules.comes;simp only;rw[Mp B M];have i:∀s,s≠46->∀c,(setFrom ((cellsIn (setFrom (Bl s (DS b d a)))).filter fun(c:Nat)=>!(r.takes (Aq b t) (d,a)).contains c)).testBit c=decide (c<169/\(TY (DS b d a) (DB r (DS b d a) a)).getD c 0=s):=fun s w c=>by
  rw[BD];congr 1;rw[zS,Ge,f.bit,l,E9,f.len,rk];simp only[zJ,xD,yY];constructor;·rintro⟨⟨Y,m,j⟩,o⟩;exact⟨m,by rw[zb (fun q=>o q.1)];exact j⟩
  ·rintro⟨m,j⟩;split at j;·exact absurd j.symm w
   ·rename_i o;exact⟨⟨∅,m,j⟩,fun q=>o ⟨q,m⟩⟩
 refine FZ n (i 104 ⋯) (i 109 ⋯) ?_ rfl;show(if(r.takes (Aq b t) (d,a)).contains (Bw (DS b d a))=true then TAKEN else Bw (DS b d a))=_;rw[l];rcases f.LA with q|q
 ·rw[q];have:Bw (TY (DS b d a) (DB r (DS b d a) a))=TAKEN:=by
   rw[n.CI];intro c g e;rw[E9]at e;split at e;·cases e
   ·exact(f.CI.mp q) c g e
  rw[this];split<;>rfl
 ·obtain⟨k,p⟩:∃k,k=Bw (DS b d a):=⟨_,rfl⟩;rw[<-p]at q|-;have v:(DS b d a).getD k 0=75:=(f.Bh q).mp p.symm;by_cases hmem:k∈DB r (DS b d a) a
  ·rw[zc (zj hmem)];symm;rw[n.CI];intro c g e;rw[E9,f.len]at e;split at e;·cases e
   ·rename_i h;have:=f.one c k g q e v;rw[this]at h;exact h ⟨hmem,q⟩
  ·rw[zb (by rw[zq];exact hmem)];symm;rw[n.Bh q,E9,zb (fun z=>hmem z.1),v]
def Right(r:Rules)(b:List Nat):Prop:=∀c,c<169->b.getD c 0≠46->r.isCell c=true/\mayStand (D5 (b.getD c 0)) (r.kindAt c)=true
def NN(t s:Nat):Bool:=if t=0 then s==104 else s==109||s==75
def CJ(r:Rules)(p:Pos)(c:Nat):List Nat:=(List.range 192).filter fun t=>(r.reach p c).contains t
def hZ(r:Rules)(b:List Nat)(t:Nat):List (Nat×Nat):=(List.range 169).flatMap fun c=>if NN t (b.getD c 0)=true then(CJ r (Aq b t) c).map fun e=>(c,e)else[]
theorem Ej{a b:Type}(p:a->Bool)(f:a->List b):∀l:List a,(l.filter p).flatMap f=l.flatMap fun x=>if p x=true then f x else[]
|[]=>rfl
|x::l=>by
 rw[wX,xa];split;·rw[xa,Ej p f l]
 ·rw[Ej p f l];rfl
theorem Sa(f:Nat->List (Nat×Nat))(h:∀c,169<=c->f c=[]):(List.range 192).flatMap f=(List.range 169).flatMap f:=by
 rw[show(192:Nat)=169+23 from rfl,qw,yd];have:((List.range 23).map fun x=>169+x).flatMap f=[]:=by rw[List.flatMap_eq_nil_iff];intro x a;obtain⟨y,Y,rfl⟩:=zk.mp a;exact h _ ∅
 rw[this,zR]
theorem jE(B:A_ b){t:Nat}(g:t<=1)(c:Nat)(e:c<192):(c∈(Aq b t).own↔c<169/\NN t (b.getD c 0)=true):=by
 unfold Pos.own;by_cases h:t=0;·subst h;rw[zc (show(Aq b 0).side=0 from rfl),Ge];show c<192/\(setFrom (Bl 104 b)).testBit c=true↔_;rw[B.bit,zq];unfold NN;simp[e]
 ·have f:t=1:=∅;subst f;rw[zb (show¬(Aq b 1).side=0 from(⋯:¬(1:Nat)=0)),zS,zC];show c<192/\((setFrom (Bl 109 b)).testBit c||c==Bw b)=true↔_;rw[B.bit,yt,zq,zP];unfold NN;simp only[uh,yS,yt,zP];constructor
  ·rintro⟨Y,⟨d,a⟩ |q⟩;·exact⟨d,.inl a⟩
   ·rcases B.LA with k|k;·rw[k]at q;have:(255:Nat)=c:=q.symm;lia
    ·rw[<-q]at k;exact⟨k,.inr ((B.Bh k).mp q.symm)⟩
  ·rintro⟨d,a|a⟩;·exact⟨e,.inl ⟨d,a⟩⟩
   ·exact⟨e,.inr ((B.Bh d).mpr a).symm⟩
theorem aY(B:A_ b){t:Nat}(d:t<=1):(Aq b t).own=(List.range 192).filter fun c=>decide (c<169)&&NN t (b.getD c 0):=by
 have e:∃p:Nat->Bool,(Aq b t).own=(List.range 192).filter p:=by
  unfold Pos.own cellsIn;split;·exact⟨_,rfl⟩
  ·exact⟨_,rfl⟩
 obtain⟨p,e⟩:=e;rw[e];apply vA;intro c f;have a:=zC.mp f;have:=jE B d c a;rw[e,zS]at this;rw[zZ,zp,zq,<-this];simp[a]
theorem MN(B:A_ b){t:Nat}(a:t<=1):r.moves (Aq b t)=if r.ended (Aq b t)≠0 then[]else hZ r b t:=by
 unfold Rules.moves;split;·rfl
 ·rw[aY B a,Ej,Sa _ fun c d=>by rw[zb (by intro q;rw[zp,zq]at q;lia)]];unfold hZ;rw[r_,r_];congr 1
theorem MQ{p:Pos}{e:Nat}:e∈CJ r p c↔e<192/\e∈r.reach p c:=by unfold CJ;rw[zS,zC,xY]
theorem IU{p:Pos}:∀(f c n:Nat),n∈r.manWay p d f c->r.free p n=true/\r.kindAt n= .plain
|0,c,n,h=>by cases h
|f+1,c,n,h=>by
 unfold Rules.manWay at h;cases e:r.next d c with
 |none=>rw[e]at h;cases h
 |some m=>
  rw[e]at h;dsimp only at h;split at h;·cases h
  ·rename_i b;have a:r.free p m=true:=‹b›;cases k:r.kindAt m with
   |exit=>rw[k]at h;cases h
   |seat=>
    rw[k]at h;dsimp only at h;split at h;·exact IU f m n h
    ·cases h
   |wall=>unfold Rules.free at a;rw[k]at a;cases a
   |plain=>
    rw[k]at h;dsimp only at h;rcases zw.mp h with rfl|h;·exact⟨a,k⟩
    ·exact IU f m n h
theorem Pj{p:Pos}:∀(f c n:Nat),n∈r.kingWay p d f c->r.free p n=true
|0,c,n,h=>by cases h
|f+1,c,n,h=>by
 unfold Rules.kingWay at h;cases e:r.next d c with
 |none=>rw[e]at h;cases h
 |some m=>
  rw[e]at h;dsimp only at h;split at h;·cases h
  ·rename_i b;have a:r.free p m=true:=‹b›;rcases zw.mp h with rfl|h;·exact a
   ·split at h;·exact Pj f m n h
    ·cases h
theorem UL{p:Pos}(h:n∈r.reach p c):r.free p n=true/\(p.king≠c->r.kindAt n= .plain):=by
 unfold Rules.reach at h;rw[yH]at h;obtain⟨d,Y,h⟩:=h;split at h;·rename_i a;exact⟨Pj _ _ _ h,fun q=>absurd a q⟩
 ·exact⟨(IU _ _ _ h).1,fun Y=>(IU _ _ _ h).2⟩
theorem JK{t s:Nat}(a:t<=1)(h:NN t s=true):(t=0/\s=104)\/(t=1/\(s=109\/s=75)):=by
 unfold NN at h;split at h;·exact .inl ⟨by assumption,‹h›⟩
 ·refine .inr ⟨∅,‹h›⟩
theorem Qu(Z:B1 r)(B:A_ b)(R:Right r b){t:Nat}(k:t<=1){m1 m2:Nat}(h:(m1,m2)∈hZ r b t):YX b t m1 m2/\r.isCell m1=true/\r.isCell m2=true/\mayStand (D5 (b.getD m1 0)) (r.kindAt m2)=true:=by
 unfold hZ at h;rw[yH]at h;obtain⟨c,v,h⟩:=h;have d:=zC.mp v;split at h
 ·rename_i s;obtain⟨e,u,q⟩:=zk.mp h;cases q;obtain⟨Y,m⟩:=MQ.mp u;have l:=JK k s;have i:b.getD m1 0≠46:=∅;obtain⟨o,y⟩:=R m1 d i;obtain⟨n,x⟩:=HK Z o m;obtain⟨f,w⟩:=UL m;have j:=Z.lt n;have a:b.getD m2 0=46:=by unfold Rules.free at f;rw[B.on t j,L5 B j,zp,zP]at f;exact f.2
  have g:r.kindAt m2≠ .wall:=by unfold Rules.free at f;rw[zp]at f;simpa using f.1
  exists⟨k,d,j,x,l,a⟩,o,n;by_cases hk:b.getD m1 0=75;·rw[hk];show mayStand .king _=true;cases e:r.kindAt m2<;>first|rfl|exact absurd e g
  ·have p:(Aq b t).king≠m1:=fun q=>hk ((B.Bh d).mp q);rw[w p];rcases l with⟨Y,q⟩ |⟨Y,q|q⟩;·rw[q];rfl
   ·rw[q];rfl
   ·exact absurd q hk
 ·cases h
theorem TV(Z:B1 r)(B:A_ b)(R:Right r b){t:Nat}(i:t<=1){f e:Nat}(h:(f,e)∈hZ r b t)(l:List Nat):Right r (TY (DS b f e) l):=by
 obtain⟨M,Y,m,k⟩:=Qu Z B R i h;intro c j a;rw[E9]at a|-;split at a;·exact absurd rfl a
 ·rename_i q;rw[zb q];rw[Dv B M]at a|-;split at a;·exact absurd rfl a
  ·rename_i g;rw[zb g];split at a;·rename_i d;rw[zc d,d];exact⟨m,k⟩
   ·rename_i d;rw[zb d];exact R c j a
def ND(r:Rules)(b:List Nat)(m:Nat×Nat):List Nat:=TY (DS b m.1 m.2) (DB r (DS b m.1 m.2) m.2)
theorem dj(Z:B1 r)(N:Oh r)(B:A_ b)(R:Right r b){t:Nat}(a:t<=1){m:Nat×Nat}(h:m∈hZ r b t):A_ (ND r b m)/\Right r (ND r b m)/\r.comes (Aq b t) m=Aq (ND r b m) (1-t):=by obtain⟨e,d⟩:=m;obtain⟨M,Y,c,Y⟩:=Qu Z B R a h;exact⟨PB (GN B M) _,TV Z B R a h _,cW Z N B M c⟩
theorem Xk{a:Nat}(b:1<=d):begins 1 a d=true↔d<=a:=by
 constructor;·exact Dq
 ·intro h;unfold begins;rw[xq];exact⟨0,⋯,by simp;lia⟩
theorem T9{x:UInt8}(h:isDigit x=true):x.toNat-48<=9:=by unfold isDigit at h;simp only[zp,zJ]at h;lia
theorem UH{a:Nat}(m:a<=13)(c:Cur):number 1 a c=runIn a c:=by
 unfold number runIn;rw[numberFrom];cases r:c.next with
 |none=>simp
 |some x=>
  cbv;by_cases q:isDigit x=true/\1<=x.toNat-48/\x.toNat-48<=a
  ·rw[zc ⟨q.1,∅,by rw[ud,xQ];exact(Xk q.2.1).mpr q.2.2⟩,zc q,ud,xQ,numberFrom];have h:=T9 q.1;generalize x.toNat-48=d at q h;cases p:c.on.next with
   |none=>simp[q.2.1,q.2.2]
   |some y=>
    cbv;by_cases z:isDigit y=true/\d=1/\10+(y.toNat-48)<=a;·have l:=T9 z.1;rw[zc ⟨z.1,∅,(Xk ∅).mpr ∅⟩,zc z];rw[show 10*d+(y.toNat-48)=10+(y.toNat-48) by lia,numberFrom];obtain⟨n,k⟩:∃n,n=10+(y.toNat-48):=⟨_,rfl⟩;rw[<-k]at z|-;have f:(1:Nat)<=n/\n<=a:=⟨∅,z.2.2⟩;have i:10<=n:=∅;cases o:c.on.on.next with|none=>simp[f] |some u=>cbv;rw[zb,zc f];rintro⟨Y,Y,g⟩;have:=Dq g;lia
    ·rw[zb,zb z,zc ⟨q.2.1,q.2.2⟩];rintro⟨e,j,b⟩;have:=Dq b;exact z ⟨e,∅,∅⟩
  ·rw[zb q,zb,zb ∅];rintro⟨e,j,b⟩;have:=Dq b;exact q ⟨e,∅,∅⟩
def CQ(a:Nat)(f b:Bool)(c:Cur):Except Nat (List (Nat×Nat)×Cur):=match c.next with|none=> .error c.at_|some x=>if x=104 then .ok ([(104,c.at_)],c.on)else if x=109 then .ok ([(109,c.at_)],c.on)else if x=75/\b=false then .ok ([(75,c.at_)],c.on)else if f=true then .error c.at_ else match runIn a c with| .error e=> .error e| .ok (n,d)=> .ok (List.replicate n (46,c.at_),d)
def fo(w h o:Nat)(z:Nat×Nat):List (Piece×Nat×Nat):=if z.1=46 then[]else[(D5 z.1,13*(h-1-o/w)+o%w,z.2)]
def Jv(w h:Nat):Nat->List (Nat×Nat)->List (Piece×Nat×Nat) |_,[]=>[] |o,z::r=>fo w h o z++Jv w h (o+1) r
theorem WE(w h:Nat):∀(a b:List (Nat×Nat))(o:Nat),Jv w h o (a++b)=Jv w h o a++Jv w h (o+a.length) b|[],b,o=>rfl|z::a,b,o=>by rw[qa,Jv,Jv,WE w h a b (o+1),zX,zm];congr 3;lia
theorem Sm(w h p:Nat):∀(n o:Nat),Jv w h o (List.replicate n (46,p))=[] |0,_=>rfl|n+1,o=>by rw[yO,Jv,Sm w h p n];rfl
def BK(b:Bytes):Nat->Bool|0=>false|q+1=>match b[q]? with|some u=>isDigit u|none=>false
def AI(b:Bytes)(p:Nat):Bool:=decide ((75:UInt8)∈b.take p)
theorem DX{b:Bytes}{p:Nat}{x:UInt8}(h:b[p]?=some x):BK b (p+1)=isDigit x:=by show(match b[p]? with|some u=>isDigit u|none=>false)=_;rw[h]
theorem iI{b:Bytes}{p:Nat}(h:BK b p=true):p<=b.length:=by cases p with|zero=>exact zx _|succ q=>replace h:(match b[q]? with|some u=>isDigit u|none=>false)=true:=h;cases e:b[q]? with|none=>rw[e]at h;cases h|some u=>exact(z8.mp e).1
theorem Cr{b:Bytes}{p:Nat}{x:UInt8}(h:b[p]?=some x):AI b (p+1)=(AI b p||(x==75)):=by
 unfold AI;rw[vy,h,zZ];simp only[xP,zD,zB,yt,zJ,zP];constructor
 ·rintro(z|z);·exact .inl z
  ·exact .inr z.symm
 ·rintro(z|z);·exact .inl z
  ·exact .inr z.symm
theorem C_{b:Bytes}{p:Nat}:(⟨b.drop p,p⟩:Cur).next=b[p]?:=by unfold Cur.next;simp
theorem Ef{b:Bytes}{p:Nat}:(⟨b.drop p,p⟩:Cur).on=⟨b.drop (p+1),p+1⟩:=by unfold Cur.on;simp
theorem T8{x:UInt8}(h:isDigit x=true):(x==75)=false:=by unfold isDigit at h;simp only[zp,zJ]at h;rw[zL];intro e;subst e;have:(75:UInt8).toNat=75:=rfl;lia
theorem RX{a p:Nat}{b:Bytes}{d:Cur}(h:runIn a ⟨b.drop p,p⟩= .ok (n,d)):d.rest=b.drop d.at_/\p<d.at_/\1<=n/\n<=a/\BK b d.at_=true/\AI b d.at_=AI b p:=by
 unfold runIn at h;rw[C_,Ef,C_]at h;cases f:b[p]? with
 |none=>rw[f]at h;cases h
 |some x=>
  rw[f]at h;dsimp only at h;split at h
  ·rename_i q;have c:(⟨b.drop (p+1),p+1⟩:Cur).rest=b.drop (p+1)/\p<p+1/\1<=x.toNat-48/\x.toNat-48<=a/\BK b (p+1)=true/\AI b (p+1)=AI b p:=⟨rfl,∅,q.2.1,q.2.2,by rw[DX f];exact q.1,by rw[Cr f,T8 q.1,wC]⟩;cases e:b[p+1]? with
   |none=>rw[e]at h;cases h;exact c
   |some y=>
    rw[e]at h;dsimp only at h;split at h;·rename_i z;cases h;rw[Ef];exact⟨rfl,by show p<p+1+1;lia,∅,z.2.2,by show BK b (p+1+1)=true;rw[DX e];exact z.1,by show AI b (p+1+1)=_;rw[Cr e,T8 z.1,wC];exact c.2.2.2.2.2⟩
    ·cases h;exact c
  ·cases h
structure dn(b:Bytes)(p left:Nat)(z:List (Nat×Nat)×Cur):Prop where
 rest:z.2.rest=b.drop z.2.at_
 on:p<z.2.at_
 pb:1<=z.1.length
 pa:z.1.length<=left
 sign:∀q∈z.1,q.1=46\/q.1=104\/q.1=109\/q.1=75
 le:z.2.at_<=b.length
 king:(z.1.map (·.1)).count 75<=1/\((z.1.map (·.1)).count 75=1->AI b p=false/\AI b z.2.at_=true)/\(AI b z.2.at_=false->(z.1.map (·.1)).count 75=0/\AI b p=false)
theorem X5{b:Bytes}{p a:Nat}{z:List (Nat×Nat)×Cur}(i:1<=a)(h:CQ a (BK b p) (AI b p) ⟨b.drop p,p⟩= .ok z):dn b p a z:=by
 unfold CQ at h;rw[C_,Ef]at h;cases c:b[p]? with
 |none=>rw[c]at h;cases h
 |some x=>
  rw[c]at h;dsimp only at h;have g:p+1<=b.length:=(z8.mp c).1;split at h;·rename_i e;cases h;exact⟨rfl,yV p,ze _,i,by simp,g,by simp,by simp,fun k=>by refine⟨rfl,?_⟩;rw[Cr c,ux]at k;exact k.1⟩
  ·split at h;·rename_i e;cases h;exact⟨rfl,yV p,ze _,i,by simp,g,by simp,by simp,fun k=>by refine⟨rfl,?_⟩;rw[Cr c,ux]at k;exact k.1⟩
   ·split at h
    ·rename_i e;cases h;have l:AI b (p+1)=true:=by rw[Cr c,e.1];simp
     refine⟨rfl,yV p,ze _,i,by simp,g,by simp,fun Y=>⟨e.2,l⟩,fun k=>?_⟩;replace k:AI b (p+1)=false:=k;rw[l]at k;cases k
    ·split at h;·cases h
     ·cases f:runIn a ⟨b.drop p,p⟩with
      |error e=>rw[f]at h;cases h
      |ok q=>
       obtain⟨n,d⟩:=q;rw[f]at h;cases h;obtain⟨u,t,s,r,o,m⟩:=RX f;have j:((List.replicate n (46,p)).map (·.1)).count 75=0:=by rw[vf,s_];rfl
       refine⟨u,t,by rw[yF];exact s,by rw[yF];exact r,fun q v=>?_,?_,?_,fun k=>?_,fun k=>?_⟩;·rw[List.eq_of_mem_replicate v];exact .inl rfl
       ·exact iI o
       ·show((List.replicate n (46,p)).map (·.1)).count 75<=1;rw[j];lia
       ·replace k:((List.replicate n (46,p)).map (·.1)).count 75=1:=k;rw[j]at k;cases k
       ·refine⟨j,?_⟩;replace k:AI b d.at_=false:=k;rw[m]at k;exact k
theorem XE{w h f a c o p:Nat}{b:Bytes}{l:List (Piece×Nat×Nat)}(B:1<=a)(t:h-1-o/w=c)(s:o%w=w-a):readRows w (f+1) a c (BK b p) (AI b p) l ⟨b.drop p,p⟩=(CQ a (BK b p) (AI b p) ⟨b.drop p,p⟩).bind fun z=>readRows w f (a-z.1.length) c (BK b z.2.at_) (AI b z.2.at_) (l++Jv w h o z.1) z.2:=by
 rw[readRows,zb ∅];unfold CQ;rw[C_,Ef];cases i:b[p]? with
 |none=>rfl
 |some x=>
  cbv;have g:cellOf (w-a) c=13*(h-1-o/w)+o%w:=by rw[t,s];rfl
  by_cases c1:x=104
  ·rw[zc c1,zc c1,g];subst c1;show _=readRows w f (a-1) c (BK b (p+1)) (AI b (p+1)) _ ⟨b.drop (p+1),p+1⟩;rw[DX i,Cr i];have:(AI b p||((104:UInt8)==75))=AI b p:=by cases AI b p<;>rfl
   rw[this];rfl
  ·rw[zb c1,zb c1];by_cases c2:x=109
   ·rw[zc c2,zc c2,g];subst c2;show _=readRows w f (a-1) c (BK b (p+1)) (AI b (p+1)) _ ⟨b.drop (p+1),p+1⟩;rw[DX i,Cr i];have:(AI b p||((109:UInt8)==75))=AI b p:=by cases AI b p<;>rfl
    rw[this];rfl
   ·rw[zb c2,zb c2];by_cases j:x=75/\AI b p=false
    ·rw[zc j,zc j,g];obtain⟨rfl,j⟩:=j;show _=readRows w f (a-1) c (BK b (p+1)) (AI b (p+1)) _ ⟨b.drop (p+1),p+1⟩;rw[DX i,Cr i];have:(AI b p||((75:UInt8)==75))=true:=by cases AI b p<;>rfl
     rw[this];rfl
    ·rw[zb j,zb j];by_cases c4:BK b p=true;·rw[zc c4,zc c4];rfl
     ·rw[zb c4,zb c4];cases r:runIn a ⟨b.drop p,p⟩with|error e=>rfl|ok q=>obtain⟨n,d⟩:=q;obtain⟨A,y,v,u,m,k⟩:=RX r;dsimp only[Except.bind];rw[m,k,Sm,zR,yF]
theorem XF{w f a p:Nat}{b:Bytes}{l:List (Piece×Nat×Nat)}(e:1<=a):readRows w (f+1) 0 a (BK b p) (AI b p) l ⟨b.drop p,p⟩=(lit [47] ⟨b.drop p,p⟩).bind fun c=>readRows w f w (a-1) (BK b c.at_) (AI b c.at_) l c:=by
 rw[readRows,zc rfl,zb ∅];show(lit [47] ⟨b.drop p,p⟩).bind _=_;rw[lit,lit,C_,Ef];split
 ·rename_i d;show readRows w f w (a-1) false (AI b p) l ⟨b.drop (p+1),p+1⟩=readRows w f w (a-1) (BK b (p+1)) (AI b (p+1)) l ⟨b.drop (p+1),p+1⟩;rw[DX d,Cr d];have:(AI b p||((47:UInt8)==75))=AI b p:=by cases AI b p<;>rfl
  rw[this];rfl
 ·rfl
def JA(c:Cur):Except Nat (Nat×Cur):=if c.next=some 104 then .ok (0,c.on)else if c.next=some 107 then .ok (1,c.on)else .error c.at_
theorem ak{w f p:Nat}{b:Bytes}{l:List (Piece×Nat×Nat)}:readRows w (f+1) 0 0 (BK b p) (AI b p) l ⟨b.drop p,p⟩=(lit [32] ⟨b.drop p,p⟩).bind fun c=>(JA c).bind fun s=> .ok (l,s.1,s.2):=by
 rw[readRows,zc rfl,zc rfl];show(lit [32] ⟨b.drop p,p⟩).bind _=_;cases lit [32] ⟨b.drop p,p⟩with
 |error e=>rfl
 |ok c=>
  show(if c.next=some 104 then _ else if c.next=some 107 then _ else _)=(JA c).bind _;unfold JA;split;·rfl
  ·split;·rfl
   ·rfl
def tr(k:Nat)(v:Value):Value:=match v with|some x=>if x.2<=k then some x else none|none=>none
theorem lB{w k:Nat}(h:n<=k):tr k (some (w,n))=some (w,n):=by simp[tr,h]
theorem Zn{w k:Nat}(h:¬n<=k):tr k (some (w,n))=none:=by simp[tr,h]
theorem Lu{v:Value}{a k:Nat}:sureFor (tr k v) a=(sureFor v a&&decide (many v<=k)):=by
 cases v with
 |none=>rfl
 |some x=>
  unfold tr;by_cases h:x.2<=k;·simp[h,sureFor,many]
  ·simp[h,sureFor,many]
theorem LR{v:Value}{k:Nat}(h:many v<=k):tr k v=v:=by cases v with|none=>rfl|some x=>have:x.2<=k:=h;simp[tr,this]
theorem BQ{v:Value}{c:Nat}(h:sureFor v c=true):v=some (c,many v):=by
 cases v with
 |none=>cases h
 |some x=>
  obtain⟨a,b⟩:=x;have:a=c:=by simpa[sureFor]using h
  subst this;rfl
def least(l:List Nat)(d:Nat):Nat:=l.foldl (fun a b=>min a b) d
theorem MX:∀(l:List Nat)(d:Nat),least l d<=d|[],d=>ze _|x::l,d=>by have:=MX l (min d x);unfold least at this|-;rw[ym];lia
theorem least_le:∀(l:List Nat)(d x:Nat),x∈l->least l d<=x
|y::l,d,x,h=>by
 unfold least;rw[ym];rcases zw.mp h with rfl|h;·have:=MX l (min d x);unfold least at this;lia
 ·exact least_le l _ x h
theorem JT:∀(l:List Nat)(d:Nat),least l d=d\/least l d∈l
|[],d=> .inl rfl
|y::l,d=>by
 unfold least;rw[ym];rcases JT l (min d y)with h|h
 ·unfold least at h;rw[h];by_cases q:d<=y;·left;lia
  ·right;have:min d y=y:=∅;rw[this];exact zh
 ·right;exact zg _ h
theorem Eg{l:List Nat}(h:l≠[]):least l (l.headD 0)∈l:=by
 cases l with
 |nil=>exact absurd rfl h
 |cons x l=>
  rcases JT (x::l) x with q|q;·show least (x::l) x∈x::l;rw[q];exact zh
  ·exact q
theorem Qz{l:List Nat}{m:Nat}(e:d∈l)(g:m∈l)(f:∀x∈l,m<=x):least l d=m:=by
 have a:=least_le l d m g;have b:least l d∈l:=by
  rcases JT l d with q|q;·rw[q];exact e
  ·exact q
 have c:=f _ b;lia
def greatest(l:List Nat):Nat:=l.foldl (fun a b=>max a b) 0
theorem W_:∀(l:List Nat)(d:Nat),d<=l.foldl (fun a b=>max a b) d|[],d=>ze _|x::l,d=>by rw[ym];have:=W_ l (max d x);lia
theorem Co:∀(l:List Nat)(d x:Nat),x∈l->x<=l.foldl (fun a b=>max a b) d
|y::l,d,x,h=>by
 rw[ym];rcases zw.mp h with rfl|h;·have:=W_ l (max d x);lia
 ·exact Co l _ x h
theorem QG:∀(l:List Nat)(d k:Nat),d<=k->(∀x∈l,x<=k)->l.foldl (fun a b=>max a b) d<=k|[],d,k,h,_=>h|y::l,d,k,h,c=>by rw[ym];exact QG l _ k (by have:=c y zh;lia) fun x q=>c x (zg _ q)
abbrev CZ(a:Nat)(b:List Value):List Value:=b.filter fun v=>sureFor v a
abbrev GW(a:Nat)(b:List Value):Bool:=b.all fun v=>sureFor v (1-a)
theorem Er{a:Nat}{b:List Value}(h:CZ a b≠[]):valueBy a b=some (a,least ((CZ a b).map many) (many ((CZ a b).headD none))+1):=by unfold valueBy;simp only;rw[zc h];rfl
theorem C2{a:Nat}{b:List Value}(h:CZ a b=[])(d:b≠[])(c:GW a b=true):valueBy a b=some (1-a,greatest (b.map many)+1):=by unfold valueBy;simp only;rw[zb (fun q=>q h),zc ⟨d,c⟩];rfl
theorem BS{a:Nat}{b:List Value}(h:CZ a b=[])(c:¬(b≠[]/\GW a b=true)):valueBy a b=none:=by unfold valueBy;simp only;rw[zb (fun q=>q h),zb c]
theorem Hi{a m:Nat}{b:List Value}(k:some (a,m)∈b)(j:∀n,some (a,n)∈b->m<=n):valueBy a b=some (a,m+1):=by
 have c:some (a,m)∈CZ a b:=zS.mpr ⟨k,by simp[sureFor]⟩;have d:CZ a b≠[]:=by intro q;rw[q]at c;cases c
 rw[Er d];have:least ((CZ a b).map many) (many ((CZ a b).headD none))=m:=by
  refine Qz ?_ ?_ ?_;·cases e:CZ a b with|nil=>exact absurd e d|cons x l=>simp
  ·exact zk.mpr ⟨_,c,rfl⟩
  ·intro x h;obtain⟨v,i,rfl⟩:=zk.mp h;obtain⟨g,f⟩:=zS.mp i;have:=BQ f;exact j _ (by rw[<-this];exact g)
 rw[this]
theorem Us(a k:Nat)(b:List Value):valueBy a (b.map (tr k))=tr (k+1) (valueBy a b):=by
 by_cases ho:CZ a b=[]
 ·have o:CZ a (b.map (tr k))=[]:=by rw[xm]at ho|-;intro v c;obtain⟨u,j,rfl⟩:=zk.mp c;have:=ho u j;rw[Lu];simp at this;simp[this]
  by_cases ha:b≠[]/\GW a b=true
  ·rw[C2 ho ha.1 ha.2];have w:=yq.mp ha.2;by_cases hg:greatest (b.map many)<=k
   ·have d:∀v∈b,many v<=k:=fun v c=>z_ (Co _ 0 _ (zk.mpr ⟨v,c,rfl⟩)) hg;have e:b.map (tr k)=b:=by rw[List.map_eq_iff];intro i;cases q:b[i]? with|none=>rfl|some v=>simp[LR (d v (zf q))]
    rw[e,C2 ho ha.1 ha.2,LR];show greatest (b.map many)+1<=k+1;lia
   ·rw[BS o ?_];·rw[Zn ∅]
    ·rintro⟨Y,q⟩;apply hg;refine QG _ 0 k (zx _) fun x C=>?_;obtain⟨v,c,rfl⟩:=zk.mp C;have:=yq.mp q _ (zk.mpr ⟨v,c,rfl⟩);rw[Lu]at this;simp at this;exact this.2
  ·rw[BS ho ha,BS o ?_];·rfl
   ·rintro⟨A,y⟩;refine ha ⟨fun e=>A (by rw[e];rfl),?_⟩;refine yq.mpr fun v c=>?_;have:=yq.mp y _ (zk.mpr ⟨v,c,rfl⟩);rw[Lu]at this;simp at this;exact this.1
 ·have t:=Eg (l:=(CZ a b).map many) ‹ho›;have D:((CZ a b).map many).headD 0=many ((CZ a b).headD none):=by cases e:CZ a b with|nil=>exact absurd e ho|cons x l=>rfl
  rw[D]at t;obtain⟨m,g⟩:∃m,m=least ((CZ a b).map many) (many ((CZ a b).headD none)):=⟨_,rfl⟩;rw[<-g]at t;obtain⟨v,c,p⟩:=zk.mp t;obtain⟨h,r⟩:=zS.mp c;have f:=BQ r;rw[p]at f;have d:∀n,some (a,n)∈b->m<=n:=fun n s=>by rw[g];exact least_le _ _ _ (zk.mpr ⟨_,zS.mpr ⟨s,by simp[sureFor]⟩,rfl⟩)
  rw[Er ho,<-g];by_cases hk:m<=k
  ·rw[Hi (m:=m)];·rw[lB ∅]
   ·refine zk.mpr ⟨v,h,?_⟩;rw[f];exact LR hk
   ·intro n s;obtain⟨u,j,e⟩:=zk.mp s;refine d n ?_;cases u with
    |none=>cases e
    |some x=>
     unfold tr at e;dsimp only at e;split at e;·rw[<-e];exact j
     ·cases e
  ·rw[BS];·rw[Zn ∅]
   ·rw[xm];intro u j;obtain⟨z,B,rfl⟩:=zk.mp j;rw[Lu];intro q;simp at q;have:=d (many z) (by rw[<-BQ q.1];exact B);lia
   ·rintro⟨Y,q⟩;have:=yq.mp q _ (zk.mpr ⟨v,h,rfl⟩);rw[f,Zn hk]at this;cases this
structure Xp(AQ:List Nat)(es:List (List Nat))(ends f:List Value):Prop where
 len:ends.length=f.length
 eq:∀i,i<f.length->f.getD i none=match ends.getD i none with|some x=>some x|none=>valueBy (AQ.getD i 0) ((es.getD i []).map fun j=>f.getD j none)
 zero:∀i x,ends.getD i none=some x->x.2=0
theorem Gy(k:Nat)(f:List Value)(j:Nat):(f.map (tr k)).getD j none=tr k (f.getD j none):=by rw[z5,z5,z7];cases f[j]?<;>rfl
theorem aq(F:Xp AQ es ends f)(k:Nat):round AQ es (f.map (tr k))=f.map (tr (k+1)):=by
 unfold round;apply vB;intro i;rw[z3,z7,z7];by_cases hi:i<f.length
 ·rw[xh hi,z4 hi];simp only[yE];congr 1;rw[Gy];have l:f.getD i none=f[i]:=by rw[z5,z4 hi];rfl
  have a:=F.eq i hi;rw[l]at a|-;cases e:ends.getD i none with
  |some x=>
   rw[e]at a;dsimp only at a;have g:=F.zero i x e;have d:∀k,tr k f[i]=some x:=fun k=>by rw[a];simp[tr,g]
   rw[d,d]
  |none=>
   rw[e]at a;dsimp only at a;have b:valueBy (AQ.getD i 0) ((es.getD i []).map fun j=>(f.map (tr k)).getD j none)=tr (k+1) f[i]:=by rw[a,<-Us,zG];congr 1;apply y6;intro j Y;exact Gy k f j
   cases q:tr k f[i]with
   |some x=>
    cbv;rw[<-q];cases c:f[i]with
    |none=>rw[c]at q;cases q
    |some y=>
     rw[c]at q;unfold tr at q|-;dsimp only at q|-;split at q;·rename_i h;rw[zc h,zc ∅]
     ·cases q
   |none=>exact b
 ·have n:(List.range f.length)[i]?=none:=by rw[y9,yj];lia
  have m:f[i]?=none:=by rw[y9];lia
  rw[n,m];rfl
theorem Xp.below(F:Xp AQ es ends f):∀(n i w:Nat),f.getD i none=some (w,n+1)->∃j A,f.getD j none=some (A,n):=by
 intro n i w h;have H:i<f.length:=by
  by_cases q:i<f.length;·exact q
  ·rw[z5,y9.mpr ∅]at h;cases h
 have e:=F.eq i H;rw[h]at e;cases q:ends.getD i none with
 |some x=>rw[q]at e;dsimp only at e;have:=F.zero i x q;cases e;cases this
 |none=>
  rw[q]at e;dsimp only at e;obtain⟨k,m⟩:∃k,k=(es.getD i []).map fun j=>f.getD j none:=⟨_,rfl⟩;rw[<-m]at e;have fin:some (w,n)∈k\/∃A,some (A,n)∈k->True:= .inr ⟨0,fun Y=>we⟩;by_cases ho:CZ (AQ.getD i 0) k=[]
  ·by_cases ha:k≠[]/\GW (AQ.getD i 0) k=true
   ·rw[C2 ho ha.1 ha.2]at e;have C:n+1=greatest (k.map many)+1:=zT Prod.snd (zt e);have s:∀(l:List Nat)(d:Nat),l.foldl (fun a b=>max a b) d=d\/l.foldl (fun a b=>max a b) d∈l:=by
     intro l;induction l with
     |nil=>exact fun d=> .inl rfl
     |cons y l E=>
      intro d;rw[ym];rcases E (max d y)with z|z
      ·rw[z];by_cases c:y<=d;·left;lia
       ·right;have:max d y=y:=∅;rw[this];exact zh
      ·exact .inr (zg _ z)
    have o:=yq.mp ha.2;rcases s (k.map many) 0 with z|z
    ·cases r:k with
     |nil=>exact absurd r ha.1
     |cons v l=>
      have g:v∈k:=by rw[r];exact zh
      have u:=BQ (o v g);have K:many v<=0:=by have:=Co (k.map many) 0 _ (zk.mpr ⟨v,g,rfl⟩);lia
      have J:n=0:=by unfold greatest at C;lia
      rw[m]at g;obtain⟨j,Y,t⟩:=zk.mp g;exact⟨j,_,by rw[t,u,J];congr 2;lia⟩
    ·obtain⟨v,g,r⟩:=zk.mp z;have u:=BQ (o v g);rw[m]at g;obtain⟨j,Y,t⟩:=zk.mp g;refine⟨j,_,by rw[t,u];congr 2;unfold greatest at C;lia⟩
   ·rw[BS ho ha]at e;cases e
  ·rw[Er ho]at e;have C:n+1=_+1:=zT Prod.snd (zt e);have D:=Eg (l:=(CZ (AQ.getD i 0) k).map many) ‹ho›;have I:((CZ (AQ.getD i 0) k).map many).headD 0=many ((CZ (AQ.getD i 0) k).headD none):=by cases e:CZ (AQ.getD i 0) k with|nil=>exact absurd e ho|cons x l=>rfl
   rw[I]at D;obtain⟨v,r,G⟩:=zk.mp D;obtain⟨p,B⟩:=zS.mp r;have u:=BQ B;rw[m]at p;obtain⟨j,Y,t⟩:=zk.mp p;exact⟨j,_,by rw[t,u];congr 2;lia⟩
theorem Xp.down(F:Xp AQ es ends f):∀(d n i w:Nat),f.getD i none=some (w,n+d)->∃j a,f.getD j none=some (a,n) |0,n,i,w,h=>⟨i,w,h⟩ |d+1,n,i,w,h=>by obtain⟨j,a,b⟩:=F.below (n+d) i w h;exact F.down d n j a b
theorem PL:∀(n:Nat)(l:List Nat),(∀k,k<=n->k∈l)->n+1<=l.length
|0,l,h=>by have:=h 0 (ze _);exact sG this
|n+1,l,h=>by
 have a:=h (n+1) (ze _);have b:=PL n (l.erase (n+1)) fun k c=>by rw[List.mem_erase_of_ne ∅];exact h k ∅
 rw[List.length_erase_of_mem a]at b;have:0<l.length:=sG a;lia
theorem Xp.lt(F:Xp AQ es ends f){i w:Nat}(h:f.getD i none=some (w,n)):n<f.length:=by
 have:=PL n (f.map many) fun k c=>by obtain⟨j,b,a⟩:=F.down (n-k) k i w (by rw[h];congr 2;lia);refine zk.mpr ⟨some (b,k),?_,rfl⟩;rw[z5]at a;cases q:f[j]? with|none=>rw[q]at a;cases a|some v=>rw[q]at a;have:v=some (b,k):=a;rw[<-this];exact zf q
 rw[z3]at this;lia
theorem Pg{k:Nat}(h:∀(i w n:Nat),f.getD i none=some (w,n)->n<=k):f.map (tr k)=f:=by apply vB;intro i;rw[z7];cases q:f[i]? with|none=>rfl|some v=>simp only[yE];congr 1;cases v with|none=>rfl|some x=>have:=h i x.1 x.2 (by rw[z5,q];rfl);simp[tr,this]
theorem OO(F:Xp AQ es ends f):∀(n k:Nat),f.length<=k+n->rounds AQ es n (f.map (tr k))=f
|0,k,h=>by unfold rounds;exact Pg fun i w n a=>by have:=F.lt a;lia
|n+1,k,h=>by
 unfold rounds;simp only;rw[aq F k];split
 ·rename_i e;refine Pg fun i w m b=>?_;by_cases hk:m<=k;·exact hk
  ·exfalso;obtain⟨j,d,c⟩:=F.down (m-(k+1)) (k+1) i w (by rw[b];congr 2;lia);have:=zT (fun l=>l.getD j none) e;simp only[Gy,c]at this;simp[tr]at this
 ·exact OO F n (k+1) ∅
theorem UJ(F:Xp AQ es ends f):rounds AQ es ends.length ends=f:=by
 have e:ends=f.map (tr 0):=by
  apply vB;intro i;rw[z7];by_cases hi:i<f.length
  ·have a:=F.eq i hi;have j:f.getD i none=f[i]:=by rw[z5,z4 hi];rfl
   have b:i<ends.length:=by rw[F.len];exact hi
   have c:ends.getD i none=ends[i]:=by rw[z5,z4 b];rfl
   rw[z4 hi,z4 b];simp only[yE];congr 1;rw[j]at a;cases q:ends[i]with
   |some x=>rw[c,q]at a;dsimp only at a;rw[a];have:=F.zero i x (by rw[c,q]);simp[tr,this]
   |none=>
    rw[c,q]at a;dsimp only at a;cases d:f[i]with
    |none=>rfl
    |some y=>
     obtain⟨w,n⟩:=y;cases n with
     |succ n=>simp[tr]
     |zero=>
      exfalso;rw[d]at a;unfold valueBy at a;simp only at a;split at a;·cases a
      ·split at a;·cases a
       ·cases a
  ·have h:ends[i]?=none:=by rw[y9,F.len];lia
   have g:f[i]?=none:=by rw[y9];lia
   rw[h,g];rfl
 rw[F.len];conv=>lhs;rw[e]
 exact OO F f.length 0 ∅
structure B where
 vals:List Value
 EC:List Int
 queue:List Nat
def GD(AQ:List Nat)(w m:Nat)(b:B)(i:Nat):B:=if b.vals.getD i none=none/\(AQ.getD i 0=w\/b.EC.getD i 0-1=0)then⟨b.vals.set i (some (w,m+1)),b.EC.set i (b.EC.getD i 0-1),b.queue++[i]⟩else⟨b.vals,b.EC.set i (b.EC.getD i 0-1),b.queue⟩
theorem Jf{a:Type}(l:List a)(i j:Nat)(x d:a):(l.set i x).getD j d=if i=j/\i<l.length then x else l.getD j d:=by
 rw[z5,z5,uV];by_cases h:i=j
 ·subst h;by_cases q:i<l.length;·simp[q]
  ·simp[q]
 ·simp[h]
structure Gr(n:Nat)(AQ:List Nat)(es pr:List (List Nat))(ends:List Value):Prop where
 x8:es.length=n
 x6:pr.length=n
 q3:ends.length=n
 lg:∀i j,j∈es.getD i []->j<n
 pin:∀i j,i∈pr.getD j []->i<n
 cnt:∀i j,i<n->j<n->(pr.getD j []).count i=(es.getD i []).count j
 nJ:∀i,AQ.getD i 0<=1
 zero:∀i x,ends.getD i none=some x->x.2=0/\x.1<=1
 qB:∀i,i<n->(es.getD i []=[]↔ends.getD i none≠none)
def EU(es:List (List Nat))(P:List Nat)(i:Nat):Nat:=(es.getD i []).countP fun j=>decide (j∉P)
structure Lp(n:Nat)(AQ:List Nat)(es:List (List Nat))(ends:List Value)(b:B)(d:Nat):Prop where
 vl:b.vals.length=n
 ul:b.EC.length=n
 nd:b.queue.Nodup
 lt:∀i,i∈b.queue->i<n
 dl:d<=b.queue.length
 NQ:∀i,i<n->(b.vals.getD i none≠none↔i∈b.queue)
 EC:∀i,i<n->b.EC.getD i 0=(EU es (b.queue.take d) i:Nat)
 up:∀(i j x y:Nat),i<=j->b.queue[i]?=some x->b.queue[j]?=some y->many (b.vals.getD x none)<=many (b.vals.getD y none)
 near:∀(x y:Nat),b.queue[d]?=some x->y∈b.queue->many (b.vals.getD y none)<=many (b.vals.getD x none)+1
 who:∀i x,b.vals.getD i none=some x->x.1<=1
 il:∀i,i<n->ends.getD i none≠none->b.vals.getD i none=ends.getD i none
 own:∀i m,i∈b.queue->ends.getD i none=none->b.vals.getD i none=some (AQ.getD i 0,m)->∃k,m=k+1/\(∃j,j∈es.getD i []/\b.vals.getD j none=some (AQ.getD i 0,k))/\∀j k',j∈es.getD i []->b.vals.getD j none=some (AQ.getD i 0,k')->k<=k'
 qz:∀i w m,i∈b.queue->ends.getD i none=none->b.vals.getD i none=some (w,m)->w≠AQ.getD i 0->∃k,m=k+1/\(∃j,j∈es.getD i []/\b.vals.getD j none=some (w,k))/\∀j,j∈es.getD i []->∃k',k'<=k/\b.vals.getD j none=some (w,k')
 out:∀i,i<n->i∉b.queue->(∀j,j∈es.getD i []->j∈b.queue.take d->∀m,b.vals.getD j none≠some (AQ.getD i 0,m))/\0<EU es (b.queue.take d) i
theorem UT{w s:Nat}(b:w<=1)(a:s<=1)(h:w≠s):w=1-s:=∅
theorem Lp.fix{H:List (List Nat)}{b:B}(G:Gr n AQ es H ends)(I:Lp n AQ es ends b b.queue.length):Xp AQ es ends b.vals:=by
 have F:b.queue.take b.queue.length=b.queue:=y1;refine⟨by rw[G.q3,I.vl],fun i o=>?_,fun i x h=>(G.zero i x h).1⟩;rw[I.vl]at o;cases e:ends.getD i none with
 |some x=>rw[I.il i o (by rw[e];exact fun q=>nomatch q),e]
 |none=>
  cbv;by_cases hq:i∈b.queue
  ·cases v:b.vals.getD i none with
   |none=>exact absurd v ((I.NQ i o).mpr hq)
   |some y=>
    obtain⟨w,m⟩:=y;by_cases hw:w=AQ.getD i 0;·subst hw;obtain⟨k,rfl,⟨j,c,l⟩,s⟩:=I.own i m hq e v;symm;refine Hi (zk.mpr ⟨j,c,l⟩) fun J L=>?_;obtain⟨f,a,r⟩:=zk.mp L;exact s f J a r
    ·obtain⟨k,rfl,⟨j,c,l⟩,d⟩:=I.qz i w m hq e v hw;have E:w=1-AQ.getD i 0:=UT (I.who i _ v) (G.nJ i) hw;have Q:CZ (AQ.getD i 0) ((es.getD i []).map fun j=>b.vals.getD j none)=[]:=by rw[xm];intro u g;obtain⟨f,a,rfl⟩:=zk.mp g;obtain⟨D,Y,q⟩:=d f a;rw[q];show¬(w==AQ.getD i 0)=true;rw[zP];exact hw
     have P:((es.getD i []).map fun j=>b.vals.getD j none)≠[]:=by intro q;rw[ya]at q;rw[q]at c;cases c
     have O:GW (AQ.getD i 0) ((es.getD i []).map fun j=>b.vals.getD j none)=true:=by refine yq.mpr fun u g=>?_;obtain⟨f,a,rfl⟩:=zk.mp g;obtain⟨D,Y,q⟩:=d f a;rw[q];simp[sureFor,E]
     rw[C2 Q P O,<-E];congr 2;have S:greatest (((es.getD i []).map fun j=>b.vals.getD j none).map many)<=k:=by refine QG _ 0 k (zx _) fun x K=>?_;obtain⟨u,g,rfl⟩:=zk.mp K;obtain⟨f,a,rfl⟩:=zk.mp g;obtain⟨D,t,q⟩:=d f a;rw[q];exact t
     have R:k<=greatest (((es.getD i []).map fun j=>b.vals.getD j none).map many):=Co _ 0 k (zk.mpr ⟨_,zk.mpr ⟨j,c,rfl⟩,by rw[l];rfl⟩);lia
  ·have l:b.vals.getD i none=none:=by cases v:b.vals.getD i none with|none=>rfl|some y=>exact absurd ((I.NQ i o).mp (by rw[v];exact fun q=>nomatch q)) hq
   rw[l];symm;obtain⟨C,p⟩:=I.out i o hq;rw[F]at C p;refine BS ?_ ?_;·rw[xm];intro u g;obtain⟨j,c,rfl⟩:=zk.mp g;intro q;have:=BQ q;have z:j∈b.queue:=(I.NQ j (G.lg i j c)).mp (by rw[this];exact fun q=>nomatch q);exact C j c z _ this
   ·rintro⟨Y,q⟩;unfold EU at p;obtain⟨j,c,a⟩:=List.countP_pos_iff.mp p;have A:j∉b.queue:=‹a›;have N:=yq.mp q _ (zk.mpr ⟨j,c,rfl⟩);have M:=BQ N;exact A ((I.NQ j (G.lg i j c)).mp (by rw[M];exact fun q=>nomatch q))
structure dy(n:Nat)(AQ:List Nat)(w m:Nat)(b0:B)(D:List Nat)(b:B)(new:List Nat):Prop where
 vl:b.vals.length=n
 ul:b.EC.length=n
 q:b.queue=b0.queue++new
 nd:new.Nodup
 lt:∀i,i∈new->i<n
 EC:∀i,i<n->b.EC.getD i 0=b0.EC.getD i 0-(D.count i:Nat)
 KW:∀i,i∈new->b.vals.getD i none=some (w,m+1)
 Rp:∀i,i∉new->b.vals.getD i none=b0.vals.getD i none
 iJ:∀i,i∈new->b0.vals.getD i none=none/\i∈D/\(AQ.getD i 0=w\/b0.EC.getD i 0-(D.count i:Nat)<=0)
 pj:∀i,i<n->i∉new->b0.vals.getD i none=none->i∈D->AQ.getD i 0≠w/\b0.EC.getD i 0-(D.count i:Nat)≠0
theorem dy.step{w m:Nat}{I:B}{D:List Nat}{b:B}{f:List Nat}(M:dy n AQ w m I D b f){i:Nat}(y:i<n)(J:I.EC.getD i 0-((D++[i]).count i:Nat)>=0):∃s,dy n AQ w m I (D++[i]) (GD AQ w m b i) s:=by
 have r:∀k,(D++[i]).count k=D.count k+if i=k then 1 else 0:=fun k=>by rw[wN,sZ];simp only[zP]
 have A:(D++[i]).count i=D.count i+1:=by rw[r,zc rfl]
 have C:=M.EC i y;unfold GD;split
 ·rename_i h;obtain⟨t,u⟩:=h;have x:i∉f:=fun q=>by rw[M.KW i q]at t;cases t
  refine⟨f++[i],⟨by simp[M.vl],by simp[M.ul],by rw[M.q,zX],?_,?_,?_,?_,?_,?_,?_⟩⟩;·rw[yZ];refine⟨M.nd,by simp,fun a K c G=>?_⟩;have:c=i:=‹G›;subst this;exact fun q=>x (q▸K)
  ·intro k d;rcases zD.mp d with z|z;·exact M.lt k z
   ·have:k=i:=‹z›;rw[this];exact y
  ·intro k d;show(b.EC.set i _).getD k 0=_;rw[Jf,r];by_cases e:i=k;·subst e;rw[zc ⟨rfl,by rw[M.ul];exact y⟩,zc rfl,C];lia
   ·rw[zb (fun q=>e q.1),zb e,M.EC k d];rfl
  ·intro k d;show(b.vals.set i _).getD k none=_;rw[Jf];by_cases e:i=k;·rw[zc ⟨e,by rw[M.vl];exact y⟩]
   ·rw[zb (fun q=>e q.1)];rcases zD.mp d with z|z;·exact M.KW k z
    ·exact absurd (‹z›:k=i).symm e
  ·intro k d;show(b.vals.set i _).getD k none=_;rw[Jf];have e:¬i=k:=fun e=>d (by rw[<-e];simp);rw[zb (fun q=>e q.1)];exact M.Rp k fun z=>d (yB _ z)
  ·intro k d;rcases zD.mp d with z|z
   ·obtain⟨F,E,l⟩:=M.iJ k z;exists F,yB _ E;rcases l with l|l;·exact .inl l
    ·right;rw[r];split<;>lia
   ·have e:k=i:=‹z›;subst e;refine⟨by rw[<-M.Rp k x];exact t,by simp,?_⟩;rcases u with u|u;·exact .inl u
    ·right;rw[A];rw[C]at u;lia
  ·intro k d g o p;have e:¬i=k:=fun e=>g (by rw[<-e];simp);have v:k∉f:=fun z=>g (yB _ z);have j:k∈D:=by
    rcases zD.mp p with z|z;·exact z
    ·exact absurd (‹z›:k=i).symm e
   have:=M.pj k d v o j;rw[r,zb e];exact this
 ·rename_i h;refine⟨f,⟨M.vl,by simp[M.ul],M.q,M.nd,M.lt,?_,M.KW,M.Rp,?_,?_⟩⟩
  ·intro k d;show(b.EC.set i _).getD k 0=_;rw[Jf,r];by_cases e:i=k;·subst e;rw[zc ⟨rfl,by rw[M.ul];exact y⟩,zc rfl,C];lia
   ·rw[zb (fun q=>e q.1),zb e,M.EC k d];rfl
  ·intro k d;obtain⟨F,E,l⟩:=M.iJ k d;exists F,yB _ E;rcases l with l|l;·exact .inl l
   ·right;rw[r];split<;>lia
  ·intro k d g o p;by_cases e:i=k
   ·subst e;have t:b.vals.getD i none=none:=by rw[M.Rp i g];exact o
    have H:¬(AQ.getD i 0=w\/b.EC.getD i 0-1=0):=fun q=>h ⟨t,q⟩;rw[C]at H;rw[A];refine⟨fun q=>H (.inl q),fun q=>H (.inr ∅)⟩
   ·have j:k∈D:=by
     rcases zD.mp p with z|z;·exact z
     ·exact absurd (‹z›:k=i).symm e
    have:=M.pj k d g o j;rw[r,zb e];exact this
theorem dy.start{w m:Nat}{a:B}(b:a.vals.length=n)(c:a.EC.length=n):dy n AQ w m a [] a []:=⟨b,c,by simp,wa,fun Y h=>(nomatch h),fun i Y=>by simp,fun Y h=>(nomatch h),fun Y Y=>rfl,fun Y h=>(nomatch h),fun Y Y Y Y h=>(nomatch h)⟩
theorem dy.pos{e:List (List Nat)}{b:B}{x:Nat}(G:Gr n AQ es e ends)(I:Lp n AQ es ends b d)(g:b.queue[d]?=some x){D R:List Nat}{i:Nat}(k:e.getD x []=D++i::R):i<n/\b.EC.getD i 0-((D++[i]).count i:Nat)>=0:=by
 have h:i<n:=G.pin i x (by rw[k];simp);have f:x<n:=I.lt x (zf g);refine⟨h,?_⟩;rw[I.EC i h];have w:(D++[i]).count i<=(e.getD x []).count i:=by rw[k,show D++i::R=(D++[i])++R by simp,wN (l₁:=D++[i])];lia
 have v:=G.cnt i x h f;have u:(es.getD i []).count x<=EU es (b.queue.take d) i:=by
  unfold EU List.count;refine List.countP_mono_left fun j Y m=>?_;have:j=x:=‹m›;subst this;have:j∉b.queue.take d:=fun q=>by
   obtain⟨a,c⟩:=yJ q;rw[wD]at c;split at c;·rename_i l;have t:d<b.queue.length:=(z8.mp g).1;obtain⟨s,p⟩:=z8.mp c;obtain⟨r,o⟩:=z8.mp g;have:=(tm I.nd).mp (p.trans o.symm);lia
   ·cases c
  simpa using this
 lia
theorem OY{P:List Nat}{x i:Nat}(c:x∉P):EU es (P++[x]) i+(es.getD i []).count x=EU es P i:=by
 unfold EU;generalize es.getD i []=l;induction l with
 |nil=>rfl
 |cons j l d=>
  rw[q0,q0,ur];by_cases e:j=x
  ·subst e;simp only[xG,xj];have b:(decide (j∉P++[j])=true)=False:=by simp
   have a:(decide (j∉P)=true)=True:=by simp[c]
   simp only[b,a,xj,yS];lia
  ·have b:(j==x)=false:=‹e›;have a:(decide (j∉P++[x])=true)=(decide (j∉P)=true):=by simp[e]
   simp only[b,a,yD,yS];lia
theorem dy.inv{pr:List (List Nat)}{g b:B}{x w m:Nat}{t:List Nat}(G:Gr n AQ es pr ends)(I:Lp n AQ es ends g d)(T:g.queue[d]?=some x)(hv:g.vals.getD x none=some (w,m))(M:dy n AQ w m g (pr.getD x []) b t):Lp n AQ es ends b (d+1):=by
 have hd:d<g.queue.length:=(z8.mp T).1;have a4:x∈g.queue:=zf T;have a0:x<n:=I.lt x a4;have a1:x∉g.queue.take d:=fun q=>by
  obtain⟨a,D⟩:=yJ q;rw[wD]at D;split at D;·obtain⟨p1,e1⟩:=z8.mp D;obtain⟨p2,e2⟩:=z8.mp T;have:=(tm I.nd).mp (e1.trans e2.symm);lia
  ·cases D
 have tk:b.queue.take (d+1)=g.queue.take d++[x]:=by rw[M.q,List.take_append_of_le_length ∅,vy,T];rfl
 have p:∀i,i∈t->i∉g.queue:=fun i l q=>absurd (M.iJ i l).1 ((I.NQ i (M.lt i l)).mpr q);have Q:∀i,i∈g.queue->b.vals.getD i none=g.vals.getD i none:=fun i l=>M.Rp i fun q=>p i q l;have V:∀i,i<n->(i∈pr.getD x []↔x∈es.getD i []):=fun i l=>by rw[<-vk,<-vk,G.cnt i x l a0]
 have a6:w<=1:=I.who x _ hv;have mx:many (g.vals.getD x none)=m:=by rw[hv];rfl
 have C:∀i,i<n->((EU es (g.queue.take d++[x]) i:Nat):Int)=g.EC.getD i 0-((pr.getD x []).count i:Nat):=fun i l=>by rw[I.EC i l,G.cnt i x l a0];have:=OY (es:=es) (i:=i) a1;lia
 have s:∀j,b.vals.getD j none=g.vals.getD j none\/(j∈t/\b.vals.getD j none=some (w,m+1)/\g.vals.getD j none=none):=fun j=>by
  by_cases H:j∈t;·exact .inr ⟨H,M.KW j H,(M.iJ j H).1⟩
  ·exact .inl (M.Rp j H)
 have f:∀j y,g.vals.getD j none=some y->b.vals.getD j none=some y:=fun j y h=>by
  rcases s j with q|⟨Y,Y,q⟩;·rw[q,h]
  ·rw[q]at h;cases h
 have v:∀y,y∈g.queue->many (g.vals.getD y none)<=m+1:=fun y E=>by have:=I.near x y T E;rw[mx]at this;exact this
 exists M.vl,M.ul,?_,?_,?_,?_,?_,?_,?_,?_,?_,?_,?_;·rw[M.q,yZ];exact⟨I.nd,M.nd,fun a D c hc e=>p c hc (e▸D)⟩
 ·intro i l;rw[M.q]at l;rcases zD.mp l with z|z;·exact I.lt i z
  ·exact M.lt i z
 ·rw[M.q,zd];lia
 ·intro i l;rw[M.q,zD];by_cases hn:i∈t;·rw[M.KW i hn];exact⟨fun Y=> .inr hn,fun Y q=>nomatch q⟩
  ·rw[M.Rp i hn,I.NQ i l];exact⟨.inl,fun q=>q.resolve_right hn⟩
 ·intro i l;rw[tk,M.EC i l,C i l]
 ·intro i j y z a8 E Z;rw[M.q]at E Z;have U:∀(k u:Nat),k<g.queue.length->(g.queue++t)[k]?=some u->g.queue[k]?=some u:=fun k u hk e=>by rw[yr hk]at e;exact e
  have K:∀(k u:Nat),¬k<g.queue.length->(g.queue++t)[k]?=some u->u∈t:=fun k u hk e=>by rw[yC ∅]at e;exact zf e
  by_cases h1:j<g.queue.length;·have R:=U j z h1 Z;have L:=U i y ∅ E;rw[Q y (zf L),Q z (zf R)];exact I.up i j y z a8 L R
  ·have R:=K j z h1 Z;rw[M.KW z R];by_cases A:i<g.queue.length;·have L:=U i y A E;rw[Q y (zf L)];exact v y (zf L)
   ·rw[M.KW y (K i y A E)];exact ze _
 ·intro y z E Z;rw[M.q]at E Z;have b1:m<=many (b.vals.getD y none):=by
   by_cases A:d+1<g.queue.length;·rw[yr A]at E;rw[Q y (zf E),<-mx];exact I.up d (d+1) x y ∅ T E
   ·rw[yC ∅]at E;rw[M.KW y (zf E)];exact wG _
  rcases zD.mp Z with q|q;·rw[Q z q];have:=v z q;lia
  ·rw[M.KW z q];show m+1<=_;lia
 ·intro i y h;rcases s i with q|⟨Y,q,Y⟩;·exact I.who i y (by rw[<-q];exact h)
  ·rw[q]at h;cases h;exact a6
 ·intro i l h;cases e:ends.getD i none with|none=>exact absurd e h|some y=>refine f i y ?_;rw[I.il i l h,e]
 ·intro i k l he h;rw[M.q]at l;rcases zD.mp l with z|z
  ·rw[Q i z]at h;obtain⟨k',rfl,⟨j,H,W⟩,a7⟩:=I.own i k z he h;refine⟨k',rfl,⟨j,H,f j _ W⟩,fun o S r A=>?_⟩;rcases s o with q|⟨Y,q,Y⟩;·exact a7 o S r (by rw[<-q];exact A)
   ·rw[q]at A;cases A;have:=v i z;rw[h]at this;have:k'+1<=m+1:=this;lia
  ·have hm:=M.KW i z;rw[hm]at h;have e1:w=AQ.getD i 0:=zT Prod.fst (zt h);have e2:m+1=k:=zT Prod.snd (zt h);have J:=M.lt i z;have F:x∈es.getD i []:=(V i J).mp (M.iJ i z).2.1;refine⟨m,e2.symm,⟨x,F,by rw[<-e1];exact f x _ hv⟩,fun o S r A=>?_⟩;rcases s o with q|⟨Y,q,Y⟩
   ·rw[q]at A;have X:o∈g.queue:=(I.NQ o (G.lg i o r)).mp (by rw[A];exact fun q=>nomatch q);obtain⟨a,D⟩:=yJ X;by_cases had:a<d
    ·exfalso;have:o∈g.queue.take d:=by refine zf (i:=a) ?_;rw[vM had];exact D
     exact(I.out i J (p i z)).1 o r this S A
    ·have:=I.up d a x o ∅ T D;rw[mx,A]at this;exact this
   ·rw[q]at A;cases A;lia
 ·intro i w' k l he h a2;rw[M.q]at l;rcases zD.mp l with z|z;·rw[Q i z]at h;obtain⟨k',rfl,⟨j,H,W⟩,a3⟩:=I.qz i w' k z he h a2;refine⟨k',rfl,⟨j,H,f j _ W⟩,fun o r=>?_⟩;obtain⟨S,h1,A⟩:=a3 o r;exact⟨S,h1,f o _ A⟩
  ·have hm:=M.KW i z;rw[hm]at h;have e1:w=w':=zT Prod.fst (zt h);have e2:m+1=k:=zT Prod.snd (zt h);subst e1;have J:=M.lt i z;have F:x∈es.getD i []:=(V i J).mp (M.iJ i z).2.1;refine⟨m,e2.symm,⟨x,F,f x _ hv⟩,fun o r=>?_⟩;have h0:EU es (g.queue.take d++[x]) i=0:=by
    rcases(M.iJ i z).2.2 with q|q;·exact absurd q.symm a2
    ·have:=C i J;lia
   have P:o∈g.queue.take d++[x]:=by unfold EU at h0;rw[List.countP_eq_zero]at h0;have:=h0 o r;rw[zq]at this;exact rR.mp this
   rcases zD.mp P with q|q
   ·have X:o∈g.queue:=wc q;cases N:g.vals.getD o none with
    |none=>exact absurd N ((I.NQ o (G.lg i o r)).mpr X)
    |some y=>
     obtain⟨w2,S⟩:=y;have a9:w2≠AQ.getD i 0:=fun e=>(I.out i J (p i z)).1 o r q S (by rw[N,e]);have a5:w2=w:=by have a:=I.who o _ N;have a':w2<=1:=a;have c:=G.nJ i;lia
     subst a5;obtain⟨a,D⟩:=yJ q;rw[wD]at D;split at D;·have:=I.up a d o x ∅ D T;rw[N,mx]at this;exact⟨S,this,f o _ N⟩
     ·cases D
   ·have:o=x:=‹q›;subst this;exact⟨m,ze _,f o _ hv⟩
 ·intro i l O;rw[M.q,zD]at O;have hq:i∉g.queue:=fun q=>O (.inl q);have hn:i∉t:=fun q=>O (.inr q);obtain⟨o1,o2⟩:=I.out i l hq;have v0:g.vals.getD i none=none:=by cases e:g.vals.getD i none with|none=>rfl|some y=>exact absurd ((I.NQ i l).mp (by rw[e];exact fun q=>nomatch q)) hq
  rw[tk];by_cases hD:i∈pr.getD x []
  ·obtain⟨n1,n2⟩:=M.pj i l hn v0 hD;refine⟨fun j H P k=>?_,?_⟩
   ·rcases zD.mp P with q|q;·rw[Q j (wc q)];exact o1 j H q k
    ·have:j=x:=‹q›;subst this;rw[f j _ hv];intro e;exact n1 (zT Prod.fst (zt e)).symm
   ·have:=C i l;lia
  ·have F:x∉es.getD i []:=fun q=>hD ((V i l).mpr q);refine⟨fun j H P k=>?_,?_⟩
   ·rcases zD.mp P with q|q;·rw[Q j (wc q)];exact o1 j H q k
    ·have:j=x:=‹q›;subst this;exact absurd H F
   ·have:=OY (es:=es) (i:=i) a1;rw[List.count_eq_zero.mpr F]at this;lia
theorem Lp.start{p:List (List Nat)}{b:B}(G:Gr n AQ es p ends)(c:b.vals=ends)(d:b.EC.length=n)(r:∀i,i<n->b.EC.getD i 0=((es.getD i []).length:Nat))(l:b.queue=(List.range n).filter fun i=>(es.getD i []).isEmpty):Lp n AQ es ends b 0:=by
 have mem:∀i,i∈b.queue↔i<n/\es.getD i []=[]:=fun i=>by rw[l,zS,zC,u9]
 have z:∀i,many (b.vals.getD i none)=0:=fun i=>by rw[c];cases e:ends.getD i none with|none=>rfl|some x=>exact(G.zero i x e).1
 have k:∀i,EU es (b.queue.take 0) i=(es.getD i []).length:=fun i=>by unfold EU;rw[List.countP_eq_length];intro j Y;simp
 refine⟨by rw[c];exact G.q3,d,?_,fun i a=>((mem i).mp a).1,zx _,fun i a=>?_,fun i a=>by rw[k,r i a],fun i j x y Y Y Y=>by rw[z,z];exact ze _,fun x y Y Y=>by rw[z,z];lia,fun i x h=>(G.zero i x (by rw[<-c];exact h)).2,fun i Y Y=>by rw[c],fun i m a g h=>?_,fun i w m a g h Y=>?_,fun i a f=>⟨fun j Y o=>?_,?_⟩⟩;·rw[l];exact wW.filter _
 ·rw[mem,c,G.qB i a];exact⟨fun h=>⟨a,h⟩,fun h=>h.2⟩
 ·rw[c,g]at h;cases h
 ·rw[c,g]at h;cases h
 ·rw[wI]at o;cases o
 ·rw[k];have:es.getD i []≠[]:=fun q=>f ((mem i).mpr ⟨a,q⟩);exact xF.mpr this
end HM
section
variable{us:List PySem.Value}{u:PySem.Value}{a b C:PySem.Addr}{t' i:Nat}{N ps:List PySem.Str}{x qual:PySem.Str}{A:PySem.Around}{E Q xe:PySem.Value->PySem.Shared->Prop}{e tg:PySem.Expr}{s:PySem.Shared}{f:PySem.Value->PySem.Value->PySem.Sem PySem.Value}{pl:PySem.Sem Bool}{prog:PySem.Program}{fd:PySem.FuncData}{scope:PySem.Scope}{elts:List PySem.Expr}{d:Option PySem.Addr}
namespace L2
open PySem PySem.Spec PyProof.Rows
abbrev Key:=Sum Int Str
def Pk:Key->Value->Bool| .inl k,v=>Value.isInt k v| .inr x,v=>Value.isStrOf x v
def ph(w:World):Key->Int| .inl k=>hashInt k| .inr x=>hashStr w x
theorem BH:∀{k:Key}{v:Value},Pk k v=true->(∃i t,k=Sum.inl i/\v=Value.int i t)\/(∃x t,k=Sum.inr x/\v=Value.str x t) | .inl i,v,h=>by obtain⟨t,e⟩:=Value.isInt_shape (k:=i) (v:=v) h;exact .inl ⟨i,t,rfl,e⟩ | .inr x,v,h=>by obtain⟨t,e⟩:=Value.isStrOf_shape (x:=x) (v:=v) h;exact .inr ⟨x,t,rfl,e⟩
theorem Yl(i:Int)(t:Tok):Pk (.inl i) (.int i t)=true:=by simp[Pk,Value.isInt]
theorem Yk(x:Str)(t:Tok):Pk (.inr x) (.str x t)=true:=by simp[Pk,Value.isStrOf]
theorem jQ(a b:Int):decide ((Sum.inl a:Key)=Sum.inl b)=(a==b):=by
 by_cases e:a=b;·subst e;simp
 ·have h:¬(Sum.inl a:Key)=Sum.inl b:=fun q=>e (Sum.inl.inj q);rw[zo h];exact(zL.mpr e).symm
theorem jN(a b:Str):decide ((Sum.inr a:Key)=Sum.inr b)=decide (a=b):=by
 by_cases e:a=b;·subst e;simp
 ·have h:¬(Sum.inr a:Key)=Sum.inr b:=fun q=>e (Sum.inr.inj q);rw[zo h,zo e]
theorem jP(a:Int)(b:Str):decide ((Sum.inl a:Key)=Sum.inr b)=false:=zo (fun q=>nomatch q)
theorem jO(a:Str)(b:Int):decide ((Sum.inr a:Key)=Sum.inl b)=false:=zo (fun q=>nomatch q)
def BN(prog:Program)(w:World):PySem.KeyKind prog w Key where
 is:=Pk
 hash:=ph w
 inj:=fun v a b g d=>by
  rcases BH g with⟨i,t,rfl,rfl⟩ |⟨x,t,rfl,rfl⟩
  ·rcases BH d with⟨j,u,rfl,e⟩ |⟨y,u,rfl,e⟩;·injection e with e1 _;rw[e1]
   ·exact nomatch e
  ·rcases BH d with⟨j,u,rfl,e⟩ |⟨y,u,rfl,e⟩;·exact nomatch e
   ·injection e with e1 _;rw[e1]
 byValue:=fun k v h=>by rcases BH h with⟨i,t,rfl,rfl⟩ |⟨x,t,rfl,rfl⟩<;>rfl
 pyHash:=fun c h=>by
  rcases BH c with⟨i,t,rfl,rfl⟩ |⟨x,t,rfl,rfl⟩;·exact wpAny_pyHash_int h
  ·exact wpAny_pyHash_str h
 eqBool:=fun f c h=>by
  rcases BH f with⟨i,t,rfl,rfl⟩ |⟨x,t,rfl,rfl⟩
  ·rcases BH c with⟨j,u,rfl,rfl⟩ |⟨y,u,rfl,rfl⟩;·rw[jQ]at h;exact wpAny_eqBool_int h
   ·rw[jP]at h;exact SeqAt.EqAt.int_str i t y u _ _ _ _ h
  ·rcases BH c with⟨j,u,rfl,rfl⟩ |⟨y,u,rfl,rfl⟩;·rw[jO]at h;exact SeqAt.EqAt.str_int x t j u _ _ _ _ h
   ·rw[jN]at h;exact wpAny_eqBool_str h
 «strs»:=fun k x t v h=>by
  rcases BH h with⟨i,u,rfl,e⟩ |⟨y,u,rfl,e⟩;·exact nomatch e
  ·injection e with e1 _;subst e1;cases v<;>rfl
theorem SD(prog:Program)(w:World)(i:Int)(t:Tok):(BN prog w).is (.inl i) (.int i t)=true:=Yl i t
theorem SA(prog:Program)(w:World)(x:Str)(t:Tok):(BN prog w).is (.inr x) (.str x t)=true:=Yk x t
inductive V where|B0|bl(b:Bool) |int(i:Int) |str(x:Str) |Rj(b:Array UInt8) |nU(b:UInt64) |ref(a:Addr) |ty(n:String)deriving DecidableEq
def AX:V->Value->Prop| .B0,u=>u=Value.none| .bl b,u=>u=Value.bool b| .int i,u=>∃t,u=Value.int i t| .str x,u=>∃t,u=Value.str x t| .Rj b,u=>∃t,u=Value.bytes b t| .nU b,u=>∃t,u=Value.float b t| .ref a,u=>u=Value.ref a| .ty n,u=>u=Value.type n
abbrev AG:List V->List Value->Prop:=Paired AX
theorem AG.length{xs:List V}(r:AG xs us):xs.length=us.length:=zE r
theorem AG.get:∀{xs:List V}{us:List Value}{i:Nat}{x:V},AG xs us->xs[i]?=some x->∃u,us[i]?=some u/\AX x u|_,_,_,_,.nil,e=>by simp at e|_,_,0,_,.cons r _,e=>by simp at e;subst e;exact⟨_,rfl,r⟩ |_,_,i+1,x,.cons _ t,e=>by obtain⟨u,b,a⟩:=AG.get (i:=i) (x:=x) t ‹e›;exact⟨u,‹b›,a⟩
theorem AG.set{x:V}(r:AX x u):∀{xs:List V}{us:List Value}(i:Nat),AG xs us->AG (xs.set i x) (us.set i u) |_,_,_,.nil=> .nil|_,_,0,.cons _ t=> .cons r t|_,_,i+1,.cons q t=> .cons q (AG.set r i t)
theorem AG.append:∀{xs a:List V}{us b:List Value},AG xs us->AG a b->AG (xs++a) (us++b) |_,_,_,_,.nil,s=>s|_,_,_,_,.cons r t,s=> .cons r (AG.append t s)
theorem AG.take:∀{xs:List V}{us:List Value}(n:Nat),AG xs us->AG (xs.take n) (us.take n) |_,_,0,_=> .nil|_,_,_+1,.nil=> .nil|_,_,n+1,.cons r t=> .cons r (AG.take n t)
theorem AG.drop:∀{xs:List V}{us:List Value}(n:Nat),AG xs us->AG (xs.drop n) (us.drop n) |_,_,0,r=>r|_,_,_+1,.nil=> .nil|_,_,n+1,.cons _ t=>AG.drop n t
def FL:Option V->Option Value->Prop|some v,some u=>AX v u|none,none=>True|_,_=>False
def KV{a:Type}:List (a×V)->List (a×Value)->Prop:=Paired fun(p:a×V) (q:a×Value)=>p.1=q.1/\AX p.2 q.2
def kV:Key->V| .inl i=> .int i| .inr x=> .str x
inductive HO where|lst(xs:List V) |tup(xs:List V) |dK(kvs:List (Key×V)) |dT(kvs:List (List Key×V)) |set(S:Int->Bool)(n:Nat) |ins(C dx:Addr)(fs:List (Str×V)) |own(x:Addr) |xd(fs:List (Str×V)) |met(f x:Addr) |oM(lo hi:Int) |Hy(o:Obj)(u:HO) |iP(ps:Array Value) |ext(φ:Heap->Prop)
abbrev Hp:=Addr->Option HO
def Av(H:Hp)(a:Addr)(o:HO):Hp:=fun b=>if b=a then some o else H b
theorem Aa{H:Hp}{o:HO}:Av H a o a=some o:=by unfold Av;rw[zc rfl]
theorem Ac{H:Hp}{o:HO}(h:b≠a):Av H a o b=H b:=by unfold Av;rw[zb h]
theorem DH{H:Hp}{o u:HO}:Av (Av H a o) a u=Av H a u:=by funext b;unfold Av;split<;>rfl
theorem Sv{H:Hp}{o u:HO}(h:H a=some o)(c:H b=some u)(d:o≠u):a≠b:=by intro e;subst e;rw[h]at c;exact d (zt c)
theorem Ab{H:Hp}{o:HO}(h:H a=some o)(c:H b=none):a≠b:=by intro e;subst e;rw[h]at c;cases c
section
variable(P:Program)(w:World)
def B7(H:Hp)(h:Heap)(a:Addr):HO->Prop| .lst xs=>xs.length<=sizeLine/\∃(c:List Value)(n:Nat),AG xs c/\h.get? a=some {cls:= .type "list",data:= .seq c.toArray n} | .tup xs=>xs.length<=sizeLine/\∃c:List Value,AG xs c/\IsTup h a c.toArray| .dK b=>b.length<=sizeLine/\(a==sysModules)=false/\∃j,KV b j/\h.DictOf (BN P w) a j| .dT b=>b.length<=sizeLine/\(a==sysModules)=false/\∃xs:List (List Key×Addr×Value),Paired (fun(p:List Key×V) (q:List Key×Addr×Value)=>p.1=q.1/\H q.2.1=some (.tup (p.1.map kV))/\AX p.2 q.2.2) b xs/\∃o m y,h.get? a=some o/\o.ExactDict/\o.data= .dict m y/\m.toList=xs.map (entryOfKey (tupleKind (BN P w)))/\(xs.map (·.1)).Nodup| .set S n=>h.SetOf (intKind P w) a S n| .ins C g e=>H g=some (.own a)/\e.length<=1000/\g≠a/\h.get? a=some (instObj C g)/\∃d,h.Ns1 g d/\(∀f,FL (e.lookup f) (d f))/\PySem.Within d (e.map (·.1)) | .own _=>∃o,h.get? a=some o| .xd e=>∃d,h.Ns1 a d/\∀f,FL (e.lookup f) (d f) | .oM r s=>∃t u v,h.get? a=some {cls:= .type "range",data:= .fields #[.int r t,.int s u,.int 1 v]} | .Hy o u=>h.get? a=some o/\B7 H h a u| .iP ps=>h.get? a=some {cls:= .none,data:= .fields ps} | .met f x=>h.get? a=some (methodObj (.ref f) (.ref x)) | .ext i=>i h/\(∃o,h.get? a=some o)/\∀l k:Heap,i l->(∀o,l.get? a=some o->k.get? a=some o)->i k
def FN(H:Hp)(h:Heap):Prop:=∀a o,H a=some o->B7 P w H h a o
end
section
variable{P:Program}{w:World}{H H':Hp}{h h':Heap}{a:Addr}{o:HO}
theorem B7.lt(x:B7 P w H h a o):a<h.objs.size:=by cases o with|lst xs=>obtain⟨Y,Y,Y,Y,e⟩:=x;exact zA e|tup xs=>obtain⟨Y,Y,Y,p⟩:=x;exact p.lt|dK b=>obtain⟨Y,Y,Y,Y,o,Y,Y,e,Y⟩:=x;exact zA e|dT b=>obtain⟨Y,Y,Y,Y,o,Y,Y,e,Y⟩:=x;exact zA e|set S n=>obtain⟨o,Y,Y,Y,e,Y⟩:=x;exact zA e|ins C k c=>obtain⟨Y,Y,Y,e,Y⟩:=x;exact zA e|own y=>obtain⟨Y,e⟩:=x;exact zA e|xd c=>obtain⟨Y,⟨Y,Y,Y,e,Y⟩,Y⟩:=x;exact zA e|oM i j=>obtain⟨Y,Y,Y,e⟩:=x;exact zA e|Hy g u=>obtain⟨e,Y⟩:=x;exact zA e|iP ps=>exact zA (show h.get? a=some _ from x) |met f y=>exact zA (show h.get? a=some _ from x) |ext d=>obtain⟨Y,⟨Y,e⟩,Y⟩:=x;exact zA e
theorem Paired.fP{g e:Type}{F G:g->e->Prop}:∀{d:List g}{c:List e},Paired F d c->(∀a b,F a b->G a b)->Paired G d c|_,_,.nil,_=> .nil|_,_,.cons r t,f=> .cons (f _ _ r) (Paired.fP t f)
theorem B7.Ip(x:B7 P w H h a o)(k:∀b u,(b=a\/H b=some (.own a))->h.get? b=some u->h'.get? b=some u)(I:∀b,H b=some (.own a)->H' b=some (.own a))(G:∀b xs,H b=some (.tup xs)->H' b=some (.tup xs)):B7 P w H' h' a o:=by induction o with|lst xs=>obtain⟨z,l,n,r,e⟩:=x;exact⟨z,l,n,r,k _ _ (.inl rfl) e⟩ |tup xs=>obtain⟨z,l,r,g,e,c⟩:=x;exact⟨z,l,r,g,k _ _ (.inl rfl) e,c⟩ |dK A=>obtain⟨z,y,D,r,g,i,j,e,c⟩:=x;exact⟨z,y,D,r,g,i,j,k _ _ (.inl rfl) e,c⟩ |dT A=>obtain⟨z,y,xs,r,g,i,j,e,c⟩:=x;exact⟨z,y,xs,Paired.fP r fun p q z=>⟨z.1,G _ _ z.2.1,z.2.2⟩,g,i,j,k _ _ (.inl rfl) e,c⟩ |set S n=>obtain⟨g,i,j,t,e,c⟩:=x;exact⟨g,i,j,t,k _ _ (.inl rfl) e,c⟩ |ins C O J=>obtain⟨d,z,E,e,s,⟨m,i,j,K,c⟩,r⟩:=x;exact⟨I _ d,z,E,k _ _ (.inl rfl) e,s,⟨m,i,j,k _ _ (.inr d) K,c⟩,r⟩ |own y=>obtain⟨g,e⟩:=x;exact⟨g,k _ _ (.inl rfl) e⟩ |xd J=>obtain⟨s,⟨m,i,j,e,c⟩,r⟩:=x;exact⟨s,⟨m,i,j,k _ _ (.inl rfl) e,c⟩,r⟩ |oM M N=>obtain⟨t,u,v,e⟩:=x;exact⟨t,u,v,k _ _ (.inl rfl) e⟩ |Hy g u F=>obtain⟨e,q⟩:=x;exact⟨k _ _ (.inl rfl) e,F q⟩ |iP ps=>have e:h.get? a=some {cls:= .none,data:= .fields ps}:=x;show h'.get? a=some {cls:= .none,data:= .fields ps};exact k a _ (.inl rfl) e|met f y=>have e:h.get? a=some (methodObj (.ref f) (.ref y)):=x;show h'.get? a=some (methodObj (.ref f) (.ref y));exact k a _ (.inl rfl) e|ext L=>obtain⟨p,⟨o,e⟩,B⟩:=x;exact⟨B _ _ p fun o q=>k _ _ (.inl rfl) q,⟨o,k _ _ (.inl rfl) e⟩,B⟩
theorem FN.lt(x:FN P w H h)(e:H a=some o):a<h.objs.size:=(x a o e).lt
theorem FN.fresh(x:FN P w H h)(e:h.objs.size<=a):H a=none:=by cases q:H a with|none=>rfl|some u=>exact absurd (zF (x.lt q) e) (yW _)
theorem FN.kept(x:FN P w H h)(k:∀b u,h.get? b=some u->h'.get? b=some u):FN P w H h':=fun a o e=>(x a o e).Ip (fun b u Y q=>k b u q) (fun Y q=>q) fun Y Y q=>q
theorem FN.laid(x:FN P w H h)(k:∀b u,h.get? b=some u->h'.get? b=some u)(g:h.objs.size<=a)(d:B7 P w (Av H a o) h' a o):FN P w (Av H a o) h':=fun b u e=>by
 have f:=x.fresh g;by_cases hb:b=a;·subst hb;rw[Aa]at e;cases e;exact d
 ·rw[Ac hb]at e;exact(x b u e).Ip (fun c v Y q=>k c v q) (fun c q=>by rw[Ac (Ab q f)];exact q) fun c xs q=>by rw[Ac (Ab q f)];exact q
end
def Rd(H:Hp)(a:Addr)(u:HO):Prop:=H a=some u\/∃o,H a=some (.Hy o u)
theorem Rd.ok{P:Program}{w:World}{H:Hp}{h:Heap}{u:HO}(r:Rd H a u)(x:FN P w H h):B7 P w H h a u:=by
 rcases r with r|⟨o,r⟩;·exact x a u r
 ·obtain⟨Y,q⟩:=x a _ r;exact q
def iC:Option HO->Prop|some (.lst _)=>True|some (.dK _)=>True|some (.dT _)=>True|some (.set _ _)=>True|some (.ins _ _ _)=>True|some (.ext _)=>True|_=>False
section
variable{P:Program}{w:World}{H:Hp}{h h':Heap}{x e:Addr}{o':HO}
theorem FN.write(n:FN P w H h)(f:iC (H x))(m:e=x\/H e=some (.own x))(k:∀b u,b≠e->h.get? b=some u->h'.get? b=some u)(j:∃u,h'.get? e=some u)(i:B7 P w (Av H x o') h' x o'):FN P w (Av H x o') h':=fun b u q=>by
 have a:∀c y,H c=some (.own y)->c≠x:=fun c y r z=>by subst z;rw[r]at f;exact f
 have d:∀c xs,H c=some (.tup xs)->c≠x:=fun c xs r z=>by subst z;rw[r]at f;exact f
 by_cases hb:b=x;·subst hb;rw[Aa]at q;cases q;exact i
 ·rw[Ac hb]at q;by_cases hbe:b=e
  ·have l:H b=some (.own x):=by
    rcases m with z|z;·exact absurd (hbe.trans z) hb
    ·rw[hbe];exact z
   rw[q]at l;cases l;obtain⟨v,o⟩:=j;exact⟨v,by rw[hbe];exact o⟩
  ·refine(n b u q).Ip (fun c v g r=>k c v ?_ r) (fun c r=>by rw[Ac (a c b r)];exact r) fun c xs r=>by rw[Ac (d c xs r)];exact r
   rcases g with rfl|g;·exact hbe
   ·rintro rfl;rcases m with z|z;·exact a c b g z
    ·rw[g]at z;cases z;exact hb rfl
end
structure Un(fs ex:List Addr)(H H':Hp)(h h':Heap):Prop where
 keep:∀b o,h.get? b=some o->H b=none->b∉fs->b∉ex->h'.get? b=some o
 slot:∀b o,h.get? b=some o->H b=none->b∈fs->b∉ex->∃sl,h'.get? b=some {o with slots:=sl}
 free:∀b o,h.get? b=some o->H b=none->b∉ex->H' b=none
 there:∀b o,h.get? b=some o->b∉ex->∃o',h'.get? b=some o'
 tups:∀b xs,H b=some (.tup xs)->H' b=some (.tup xs)
 frzs:∀b o u,H b=some (.Hy o u)->H' b=some (.Hy o u)
 tbls:∀b ps,H b=some (.iP ps)->∃more,H' b=some (.iP (ps++more))
section
variable{fs fs' ex ex':List Addr}{H H1 H2:Hp}{h h1 h2 h':Heap}{a x e:Addr}{o:HO}
theorem Un.any(u:Un fs ex H H1 h h1){a:Obj}(q:h.get? b=some a)(n:H b=none)(c:b∉ex):∃d,h1.get? b=some {a with slots:=d}:=by
 by_cases hb:b∈fs;·exact u.slot b a q n hb c
 ·exact⟨a.slots,u.keep b a q n hb c⟩
theorem Un.kept(k:∀b u,h.get? b=some u->h'.get? b=some u):Un fs ex H H h h':=⟨fun b a q Y Y Y=>k b a q,fun b a q Y Y Y=>⟨a.slots,k b a q⟩,fun Y Y Y n Y=>n,fun b a q Y=>⟨a,k b a q⟩,fun Y Y q=>q,fun Y Y Y q=>q,fun Y ps q=>⟨#[],by rw[q];simp⟩⟩
theorem Un.refl:Un fs ex H H h h:=Un.kept fun Y Y q=>q
theorem Un.laid(k:∀b u,h.get? b=some u->h'.get? b=some u)(d:h.objs.size<=a)(c:H a=none):Un fs ex H (Av H a o) h h' where
 keep:=fun b u q Y Y Y=>k b u q
 slot:=fun b u q Y Y Y=>⟨u.slots,k b u q⟩
 free:=fun b u q n Y=>by rw[Ac (zV (zF (zA q) d))];exact n
 there:=fun b u q Y=>⟨u,k b u q⟩
 tups:=fun b xs q=>by rw[Ac (Ab q c)];exact q
 frzs:=fun b u xs q=>by rw[Ac (Ab q c)];exact q
 tbls:=fun b ps q=>⟨#[],by rw[Ac (Ab q c),q];simp⟩
theorem Un.write(a:iC (H x))(j:e=x\/H e=some (.own x))(k:∀b u,b≠e->h.get? b=some u->h'.get? b=some u)(d:∃u,h'.get? e=some u):Un fs ex H (Av H x o) h h':=by
 have f:∀b,H b=none->b≠x:=fun b n z=>by subst z;rw[n]at a;exact a
 have g:∀b,H b=none->b≠e:=fun b n z=>by
  subst z;rcases j with r|r;·exact f b n r
  ·rw[n]at r;cases r
 have c:∀b u,H b=some u->¬iC (some u)->b≠x:=fun b u q i z=>by subst z;rw[q]at a;exact i a
 refine⟨fun b u q n Y Y=>k b u (g b n) q,fun b u q n Y Y=>⟨u.slots,k b u (g b n) q⟩,fun b u q n Y=>by rw[Ac (f b n)];exact n,fun b u q Y=>?_,fun b xs q=>by rw[Ac (c b _ q fun z=>z)];exact q,fun b u xs q=>by rw[Ac (c b _ q fun z=>z)];exact q,fun b ps q=>⟨#[],by rw[Ac (c b _ q fun z=>z),q];simp⟩⟩;by_cases hbe:b=e;·subst hbe;exact d
 ·exact⟨u,k b u hbe q⟩
end
def nG(h:Heap)(H:Hp):List Addr:=(List.range h.objs.size).filter fun a=>(H a).isSome
def Q4(h:Heap)(H:Hp):Heap:=PySem.W.hideAll h (nG h H)
theorem Yp(h:Heap)(H:Hp):(Q4 h H).objs.size=h.objs.size:=PySem.W.hideAll_size _ _
theorem cb{h:Heap}{H:Hp}{o:Obj}(e:h.get? b=some o)(n:H b=none):(Q4 h H).get? b=some o:=PySem.W.hideAll_get _ e fun a=>by have q:(H b).isSome=true:=(zS.mp a).2;rw[n]at q;simp at q
theorem fy{h:Heap}{H:Hp}{o:Obj}(e:(Q4 h H).get? b=some o):h.get? b=some o/\H b=none:=by have a:h.get? b=some o:=PySem.W.of_hideAll (nG h H) e;refine⟨a,?_⟩;cases q:H b with|none=>rfl|some x=>have c:b∈nG h H:=zS.mpr ⟨zC.mpr (zA a),by simp[q]⟩;have z:(Q4 h H).get? b=none:=PySem.W.hideAll_none (nG h H) c;rw[z]at e;cases e
structure Mod(K:Frag)(mg:Str->Option Value)(base:Heap):Prop where
 dF:K.In base
 glob:base.Ns mainGlobals mg
 blt:∃mb,base.Ns builtinsNs mb/\∀x:Str,x≠"__name__"->mb x=bootBuiltins x
 nolimit:base.NoLimit
structure Cx where
 prog:Program
 w:World
 K:Frag
 mg:Str->Option Value
 base:Heap
 A:Around
 N:List Str
 s_0:Shared
 H_0:Hp
 env:Env
 outer:List Env
 stack:List Env
 ex:List Addr
 fn:Str->Bool
 calm:Bool
 pn:List (Addr×Obj)
 xe:Value->Shared->Prop
abbrev wpX(X:Cx){a}(c:Sem a):=wpAny (model X.prog X.w) X.A c
def Np(l:List Env):List Addr:=l.filterMap (·.frame)
abbrev Cx.fs(X:Cx):List Addr:=Np X.outer
def lp(a:Scope)(x:Str):Prop:=a.names.lookup x=some .local\/a.names.lookup x=some .cell\/a.names.lookup x=some .free
def Loc(a:Scope)(x:Str):Prop:=a.names.lookup x=some .local\/a.names.lookup x=some .cell
def Look(env:Env)(h:Heap)(m:Str->Option Value)(x:Str)(u:Value):Prop:=(env.kindOf x=some .local/\m x=some u)\/((env.kindOf x=some .cell\/env.kindOf x=some .free)/\∃c,env.cells.lookup x=some c/\h.IsCell c (some u))
structure Cx.Ok(X:Cx):Prop where
 mod:Mod X.K X.mg X.base
 kind:X.env.scope.kind= .function
 glob:X.env.globals=mainGlobals
 blt:X.env.builtins=builtinsNs
 above:X.s_0.heap.objs.size<=X.env.locals
 inj:∀x y c,X.env.cells.lookup x=some c->X.env.cells.lookup y=some c->x=y
 has:∀x,(X.env.kindOf x=some .cell\/X.env.kindOf x=some .free)->∃c,X.env.cells.lookup x=some c
 kG:∀x c,X.fn x=true->X.env.cells.lookup x=some c->X.s_0.heap.objs.size<=c
 hd:X.calm=true->X.A.handled=none
 frames:X.A.frames=some X.stack
 Zy:X.stack=X.outer\/(X.stack=X.env::X.outer/\X.env.frame=some X.env.locals)
 k_:∀b∈X.ex,b≠X.env.locals/\∀x c,X.env.cells.lookup x=some c->c≠b
 bs:∀b o,X.base.get? b=some o->X.s_0.heap.get? b=some o/\X.H_0 b=none
 Zi:X.base.objs.size<=X.s_0.heap.objs.size
 UZ:∀b o,X.base.get? b=some o->b∉X.ex
 V0:∀b∈X.ex,b∉X.fs
 HV:X.s_0.heap.FunFrames X.base X.outer
 dG:∀b∈X.fs,X.H_0 b=none
structure As(X:Cx)(pins:List (Addr×Obj))(σ:List (Option V))(H:Hp)(s:Shared):Prop where
 ok:X.Ok
 os:s.os=X.s_0.os
 bare:AllBare s.gens
 base:Un X.fs X.ex X.H_0 H X.s_0.heap s.heap
 loc:∃m,s.heap.Ns X.env.locals m/\∀(i:Nat)(x:Str)(v:V),X.N[i]?=some x->σ[i]?=some (some v)->lp X.env.scope x->∃u,AX v u/\Look X.env s.heap m x u
 cell:∀x c,X.env.cells.lookup x=some c->∃v,s.heap.IsCell c v
 free:H X.env.locals=none
 CN:∀x c,X.env.cells.lookup x=some c->H c=none
 pin:∀p∈X.pn++pins,s.heap.get? p.1=some p.2/\H p.1=none/\p.1≠X.env.locals/\p.1∉X.fs/\∀v,p.2.data≠ .cell v
 Bx:FN X.prog X.w H s.heap
 len:σ.length=X.N.length
section
variable{X:Cx}{pins:List (Addr×Obj)}{σ:List (Option V)}{H H':Hp}{s:Shared}{h':Heap}
theorem Cx.Ok.oZ(a:X.Ok){o:Obj}(e:X.base.get? b=some o):b∉X.fs:=fun c=>by have:=(a.HV.mem c).1;rw[e]at this;cases this
theorem As.bs(I:As X pins σ H s):∀b o,X.base.get? b=some o->s.heap.get? b=some o/\H b=none:=fun b o e=>⟨I.base.keep b o (I.ok.bs b o e).1 (I.ok.bs b o e).2 (I.ok.oZ e) (I.ok.UZ b o e),I.base.free b o (I.ok.bs b o e).1 (I.ok.bs b o e).2 (I.ok.UZ b o e)⟩
theorem As.bk(I:As X pins σ H s):∀b o,X.base.get? b=some o->s.heap.get? b=some o:=fun b o e=>(I.bs b o e).1
theorem As.mod(I:As X pins σ H s):Mod X.K X.mg X.base:=I.ok.mod
theorem As.Gq(I:As X pins σ H s):X.K.In s.heap:=I.ok.mod.dF.keeps I.bk
theorem As.lt(I:As X pins σ H s):X.env.locals<s.heap.objs.size:=let⟨_,hn,_⟩:=I.loc;hn.lt
theorem As.sz(I:As X pins σ H s):X.s_0.heap.objs.size<=s.heap.objs.size:=z_ I.ok.above (wj I.lt)
theorem As.oY(I:As X pins σ H s)(h:s.heap.objs.size<=a):a∉X.fs:=fun c=>by obtain⟨Y,o,b,Y⟩:=I.ok.HV.mem c;exact absurd (zF (zA b) (z_ I.sz h)) (yW _)
theorem As.nX(I:As X pins σ H s):∀x c,X.env.cells.lookup x=some c->c≠X.env.locals:=fun x c e z=>by obtain⟨v,o,d,f⟩:=I.cell x c e;obtain⟨m,⟨g,h,i,a,b,Y⟩,Y⟩:=I.loc;rw[z,a]at d;cases d;rw[b]at f;cases f
theorem As.HV(I:As X pins σ H s):s.heap.FunFrames X.base X.outer:=by
 have f:∀(l:List Env),(∀b∈Np l,b∈X.fs)->X.s_0.heap.FunFrames X.base l->s.heap.FunFrames X.base l:=by intro l;induction l with|nil=>intro Y Y;trivial|cons env r h=>intro g m;obtain⟨n,⟨L,o,a,k,j,p⟩,i⟩:=m;have d:L∈X.fs:=g L (by unfold Np;rw[yu,a];exact zh);obtain⟨q,e⟩:=I.base.slot L o j (I.ok.dG L d) d fun z=>I.ok.V0 L z d;exact⟨n,⟨L,_,a,k,e,p⟩,h (fun b c=>g b (by unfold Np;rw[yu,a];exact zg _ c)) i⟩
 exact f X.outer (fun Y c=>c) I.ok.HV
theorem As.stack(I:As X pins σ H s):s.heap.FunFrames X.base X.stack:=by
 rcases I.ok.Zy with e|⟨e,b⟩;·rw[e];exact I.HV
 ·rw[e];obtain⟨m,a,Y⟩:=I.loc;refine .cons (by rw[I.ok.kind];decide) b a ?_ I.HV;exact Heap.get?_none_of_le (z_ I.ok.Zi I.ok.above)
theorem As.J3(I:As X pins σ H s):∀b∈Np X.stack,b∈X.env.locals::X.fs:=fun b a=>by
 rcases I.ok.Zy with e|⟨e,c⟩;·rw[e]at a;exact zg _ a
 ·rw[e]at a;unfold Np at a;rw[yu,c]at a;exact a
theorem As.PY(I:As X pins σ H s):∀b∈Np X.stack,H b=none:=fun b a=>by
 rcases zw.mp (I.J3 b a)with e|a;·rw[e];exact I.free
 ·obtain⟨Y,o,c,Y⟩:=I.ok.HV.mem a;exact I.base.free b o c (I.ok.dG b a) fun z=>I.ok.V0 b z a
theorem As.step{g':Array GenState}{d':Drawn}{ch:List Addr}(I:As X pins σ H s)(g:∀b∈ch,(b∈X.ex\/X.s_0.heap.objs.size<=b)/\b≠X.env.locals/\(∀x c,X.env.cells.lookup x=some c->c≠b)/\∀p∈X.pn++pins,p.1≠b)(keep:∀b o,b≠X.env.locals->b∉X.fs->b∉ch->s.heap.get? b=some o->H b=none->h'.get? b=some o)(slot:∀b o,b≠X.env.locals->b∈X.fs->b∉ch->s.heap.get? b=some o->H b=none->∃F,h'.get? b=some {o with slots:=F})(free:∀b o,b∉ch->s.heap.get? b=some o->H b=none->H' b=none)(there:∀b o,b∉ch->s.heap.get? b=some o->∃A,h'.get? b=some A)(tups:∀b xs,H b=some (.tup xs)->H' b=some (.tup xs))(frzs:∀b o u,H b=some (.Hy o u)->H' b=some (.Hy o u))(tbls:∀b ps,H b=some (.iP ps)->∃C,H' b=some (.iP (ps++C)))(N:∀m,s.heap.Ns X.env.locals m->h'.Ns X.env.locals m)(G:FN X.prog X.w H' h')(S:AllBare g'):As X pins σ H' {s with heap:=h',gens:=g',drawn:=d',toks:=t'}:=by
 have B:∀b o,X.s_0.heap.get? b=some o->b≠X.env.locals:=fun b o e=>zV (zF (zA e) I.ok.above);have j:∀b o,X.s_0.heap.get? b=some o->b∉X.ex->b∉ch:=fun b o e a w=>by
  rcases(g b w).1 with z|z;·exact a z
  ·exact absurd (zF (zA e) z) (yW _)
 have h:∀x c,X.env.cells.lookup x=some c->∀v,s.heap.IsCell c v->h'.IsCell c v:=fun x c e v ⟨o,y,J⟩=>by
  have f:c∉ch:=fun z=>(g c z).2.2.1 x c e rfl;by_cases hc:c∈X.fs;·obtain⟨F,q⟩:=slot c o (I.nX x c e) hc f y (I.CN x c e);exact⟨_,q,J⟩
  ·exact⟨o,keep c o (I.nX x c e) hc f y (I.CN x c e),J⟩
 refine⟨I.ok,I.os,S,⟨fun b o e n w a=>?_,fun b o e n w a=>?_,fun b o e n a=>?_,fun b o e a=>?_,fun b xs e=>tups b xs (I.base.tups b xs e),fun b o xs e=>frzs b o xs (I.base.frzs b o xs e),fun b ps e=>?_⟩,?_,fun x c e=>?_,?_,fun x c e=>?_,fun p M=>?_,G,I.len⟩;·exact keep b o (B b o e) w (j b o e a) (I.base.keep b o e n w a) (I.base.free b o e n a)
 ·obtain⟨F,t⟩:=I.base.slot b o e n w a;obtain⟨E,D⟩:=slot b _ (B b o e) w (j b o e a) t (I.base.free b o e n a);exact⟨E,D⟩
 ·obtain⟨A,t⟩:=I.base.there b o e a;exact free b A (j b o e a) t (I.base.free b o e n a)
 ·obtain⟨A,t⟩:=I.base.there b o e a;exact there b A (j b o e a) t
 ·obtain⟨P,t⟩:=I.base.tbls b ps e;obtain⟨O,D⟩:=tbls b _ t;exact⟨P++O,by rw[D,Array.append_assoc]⟩
 ·obtain⟨m,Q,R⟩:=I.loc;refine⟨m,N m Q,fun i x v t D T=>?_⟩;obtain⟨u,r,l⟩:=R i x v t D T;exists u,r;rcases l with l|⟨k,c,e,z⟩;·exact .inl l
  ·exact .inr ⟨k,c,e,h x c e _ z⟩
 ·obtain⟨v,z⟩:=I.cell x c e;exact⟨v,h x c e v z⟩
 ·obtain⟨m,⟨o,Y,Y,y,Y⟩,Y⟩:=I.loc;exact free _ o (fun z=>(g _ z).2.1 rfl) y I.free
 ·obtain⟨v,o,y,J⟩:=I.cell x c e;exact free c o (fun z=>(g c z).2.2.1 x c e rfl) y (I.CN x c e)
 ·obtain⟨e,n,L,K,d⟩:=I.pin p M;have f:p.1∉ch:=fun z=>(g p.1 z).2.2.2 p M rfl;exact⟨keep p.1 p.2 L K f e n,free p.1 p.2 f e n,L,K,d⟩
theorem As.un(I:As X pins σ H s)(u:Un X.fs [] H H' s.heap h')(c:FN X.prog X.w H' h'):As X pins σ H' {s with heap:=h',toks:=t'}:=by obtain⟨m,⟨o,t,v,h,r⟩,Y⟩:=id I.loc;obtain⟨l,k⟩:=u.any h I.free (by simp);exact I.step (g':=s.gens) (d':=s.drawn) (ch:=[]) (fun Y z=>nomatch z) (fun b o Y d Y e n=>u.keep b o e n d (by simp)) (fun b o Y d Y e n=>u.slot b o e n d (by simp)) (fun b o Y e n=>u.free b o e n (by simp)) (fun b o Y e=>u.there b o e (by simp)) u.tups u.frzs u.tbls (fun q j=>by obtain⟨p,f,g,a,i⟩:=j;rw[h]at a;cases a;exact⟨_,f,g,k,i⟩) c I.bare
theorem As.call{g':Array GenState}{d':Drawn}{ch:List Addr}(I:As X pins σ H s)(u:Un (Np X.stack) ch H H' s.heap h')(g:FN X.prog X.w H' h')(t:AllBare g')(f:∀b∈ch,(b∈X.ex\/X.s_0.heap.objs.size<=b)/\b≠X.env.locals/\(∀x c,X.env.cells.lookup x=some c->c≠b)/\∀p∈X.pn++pins,p.1≠b):As X pins σ H' {s with heap:=h',gens:=g',drawn:=d',toks:=t'}:=by obtain⟨m,⟨o,B,C,k,r⟩,Y⟩:=id I.loc;obtain⟨w,h⟩:=u.any k I.free fun z=>(f _ z).2.1 rfl;exact I.step (ch:=ch) f (fun b o h v a e n=>u.keep b o e n (fun z=>(zw.mp (I.J3 b z)).elim h v) a) (fun b o Y Y a e n=>u.any e n a) (fun b o a e n=>u.free b o e n a) (fun b o a e=>u.there b o e a) u.tups u.frzs u.tbls (fun A q=>by obtain⟨y,i,j,d,l⟩:=q;rw[k]at d;cases d;exact⟨_,i,j,h,l⟩) g t
theorem As.turned{a:Addr}(I:As X pins σ H s)(k:∀b o,b≠a->s.heap.get? b=some o->h'.get? b=some o)(i:H a=none)(g:a≠X.env.locals)(y:a∈X.ex\/X.s_0.heap.objs.size<=a)(w:∀x c,X.env.cells.lookup x=some c->c≠a)(t:∀p∈X.pn++pins,p.1≠a):As X pins σ H {s with heap:=h',toks:=t'}:=by
 have f:∀b u,H b=some u->b≠a:=fun b u e z=>by rw[z,i]at e;cases e
 refine I.step (g':=s.gens) (d':=s.drawn) (ch:=[a]) (fun b l=>?_) (fun b o Y Y d e Y=>k b o (fun z=>d (by simp[z])) e) (fun b o Y Y d e Y=>⟨o.slots,k b o (fun z=>d (by simp[z])) e⟩) (fun Y Y Y Y n=>n) (fun b o d e=>⟨o,k b o (fun z=>d (by simp[z])) e⟩) (fun Y Y e=>e) (fun Y Y Y e=>e) (fun b ps e=>⟨#[],by rw[e];simp⟩) (fun m j=>?_) (fun b u e=>?_) I.bare;·have e:b=a:=‹l›;subst e;exact⟨y,g,w,t⟩
 ·obtain⟨o,A,B,h,r⟩:=j;exact⟨o,A,B,k _ o (zN g) h,r⟩
 ·refine(I.Bx b u e).Ip (fun c v d q=>k c v ?_ q) (fun Y q=>q) fun Y Y q=>q;rcases d with z|z;·rw[z];exact f b u e
  ·exact f c _ z
theorem As.tok(I:As X pins σ H s)(t:Nat):As X pins σ H {s with toks:=t}:=I.un (h':=s.heap) (t':=t) Un.refl I.Bx
theorem As.kept(I:As X pins σ H s)(k:∀b u,s.heap.get? b=some u->h'.get? b=some u):As X pins σ H {s with heap:=h',toks:=t'}:=I.un (Un.kept k) (I.Bx.kept k)
theorem As.laid{o:HO}(I:As X pins σ H s)(k:∀b u,s.heap.get? b=some u->h'.get? b=some u)(d:s.heap.objs.size<=a)(c:B7 X.prog X.w (Av H a o) h' a o):As X pins σ (Av H a o) {s with heap:=h',toks:=t'}:=I.un (Un.laid k d (I.Bx.fresh d)) (I.Bx.laid k d c)
theorem As.write{x e:Addr}{o:HO}(I:As X pins σ H s)(d:iC (H x))(f:e=x\/H e=some (.own x))(k:∀b u,b≠e->s.heap.get? b=some u->h'.get? b=some u)(a:∃u,h'.get? e=some u)(c:B7 X.prog X.w (Av H x o) h' x o):As X pins σ (Av H x o) {s with heap:=h',toks:=t'}:=I.un (Un.write d f k a) (I.Bx.write d f k a c)
theorem As.weak{a:List (Option V)}(I:As X pins σ H s)(b:a.length=σ.length)(w:∀(i:Nat) v,a[i]?=some (some v)->σ[i]?=some (some v)):As X pins a H s:=⟨I.ok,I.os,I.bare,I.base,let⟨m,hn,hl'⟩:=I.loc;⟨m,hn,fun i x v e d c=>hl' i x v e (w i v d) c⟩,I.cell,I.free,I.CN,I.pin,I.Bx,b.trans I.len⟩
theorem As.WD{a:List (Addr×Obj)}(I:As X pins σ H s)(h:∀p∈a,s.heap.get? p.1=some p.2/\H p.1=none/\p.1≠X.env.locals/\p.1∉X.fs/\∀v,p.2.data≠ .cell v):As X a σ H s:=⟨I.ok,I.os,I.bare,I.base,I.loc,I.cell,I.free,I.CN,fun p b=>(zD.mp b).elim (fun z=>I.pin p (yB _ z)) (h p),I.Bx,I.len⟩
theorem IS(c:N.Nodup){j:Nat}(a:N[i]?=some x)(b:N[j]?=some x):i=j:=by obtain⟨g,e⟩:=z8.mp a;obtain⟨f,d⟩:=z8.mp b;exact(tm c).mp (e.trans d.symm)
theorem Ov{M:Model}{v:V}{Q:Unit->Shared->Prop}(I:As X pins σ H s)(hN:X.N.Nodup)(P:X.N[i]?=some x)(w:Loc X.env.scope x)(r:AX v u)(h:∀s',As X pins (σ.set i (some v)) H s'->(∃a,Heap.SameBut a s.heap s'.heap/\(a=X.env.locals\/X.env.cells.lookup x=some a))->Q () s')(hf:X.fn x=true\/X.env.scope.names.lookup x=some .local:=by first|exact .inl rfl|exact .inr rfl|assumption):wpAny M A (storeName X.env x u) Q E s:=by
 obtain⟨m,hn,hl⟩:=id I.loc;have R:(X.env.scope.kind== .class||(X.env.scope.kind== .module&&X.env.locals !=X.env.globals))=false:=by rw[I.ok.kind];rfl
 have F:i<σ.length:=by rw[I.len];exact(z8.mp P).1
 have K:=I.nX;have g:∀{a:Addr}{L:Heap},(∃o,s.heap.get? a=some o/\H a=none)->Heap.SameBut a s.heap L->FN X.prog X.w H L:=fun{a L} ha f b ob e=>by
  obtain⟨Y,Y,B⟩:=ha;refine(I.Bx b ob e).Ip (fun c T t q=>(f.2 c ?_).trans q) (fun Y q=>q) fun Y Y q=>q;rintro rfl;rcases t with rfl|t;·rw[B]at e;cases e
  ·rw[B]at t;cases t
 rcases w with D|D
 ·refine wpAny_storeName_local D hn (fun L a1 f=>?_) R;obtain⟨oL,Y,Y,a0,Y⟩:=id hn;refine h _ ⟨I.ok,I.os,I.bare,⟨fun b o e n J w=>?_,fun b o e n J w=>?_,I.base.free,fun b o e w=>?_,I.base.tups,I.base.frzs,I.base.tbls⟩,⟨_,a1,fun j y Z l C e3=>?_⟩,fun y c e=>?_,I.free,I.CN,fun p hp=>?_,g ⟨oL,a0,I.free⟩ f,‹I.len›⟩ ⟨_,f,.inl rfl⟩;·exact(f.2 b (zV (zF (zA e) I.ok.above))).trans (I.base.keep b o e n J w)
  ·obtain⟨sl,l⟩:=I.base.slot b o e n J w;exact⟨sl,(f.2 b (zV (zF (zA e) I.ok.above))).trans l⟩
  ·obtain⟨o',l⟩:=I.base.there b o e w;exact⟨o',(f.2 b (zV (zF (zA e) I.ok.above))).trans l⟩
  ·by_cases hj:j=i;·subst hj;rw[P]at l;cases l;rw[wL F]at C;cases C;exact⟨u,r,.inl ⟨D,by simp⟩⟩
   ·rw[va (zN hj)]at C;obtain⟨u',r',q⟩:=hl j y Z l C e3;exists u',r';rcases q with⟨k,e⟩ |⟨k,c,e,z⟩;·refine .inl ⟨k,?_⟩;have:y≠x:=fun e=>hj (IS hN l (e▸P));simp[this,e]
    ·exact .inr ⟨k,c,e,z.sameBut f (K y c e)⟩
  ·obtain⟨T,z⟩:=I.cell y c e;exact⟨T,z.sameBut f (K y c e)⟩
  ·obtain⟨e,n,U,nf,d⟩:=I.pin p hp;exact⟨(f.2 p.1 U).trans e,n,U,nf,d⟩
 ·have G:X.fn x=true:=by
   rcases hf with z|z;·exact z
   ·rw[z]at D;cases D
  obtain⟨c,t⟩:=I.ok.has x (.inl D);obtain⟨T,z⟩:=I.cell x c t;refine wpAny_storeName_cell I.ok.kind D t z (fun L S f=>?_);obtain⟨oc,O,N⟩:=id z;refine h {s with heap:=L} ⟨I.ok,I.os,I.bare,⟨fun b o e n J w=>?_,fun b o e n J w=>?_,I.base.free,fun b o e w=>?_,I.base.tups,I.base.frzs,I.base.tbls⟩,⟨m,hn.sameBut f (zN (K x c t)),fun j y Z l C e3=>?_⟩,fun y W e=>?_,I.free,I.CN,fun p hp=>?_,g ⟨oc,O,I.CN x c t⟩ f,‹I.len›⟩ ⟨c,f,.inr t⟩;·exact(f.2 b (zV (zF (zA e) (I.ok.kG x c G t)))).trans (I.base.keep b o e n J w)
  ·obtain⟨sl,l⟩:=I.base.slot b o e n J w;exact⟨sl,(f.2 b (zV (zF (zA e) (I.ok.kG x c G t)))).trans l⟩
  ·obtain⟨o',l⟩:=I.base.there b o e w;exact⟨o',(f.2 b (zV (zF (zA e) (I.ok.kG x c G t)))).trans l⟩
  ·by_cases hj:j=i;·subst hj;rw[P]at l;cases l;rw[wL F]at C;cases C;exact⟨u,r,.inr ⟨.inl D,c,t,S⟩⟩
   ·rw[va (zN hj)]at C;obtain⟨u',r',q⟩:=hl j y Z l C e3;exists u',r';rcases q with q|⟨k,W,e,z'⟩;·exact .inl q
    ·refine .inr ⟨k,W,e,z'.sameBut f ?_⟩;rintro rfl;exact hj (IS hN l (I.ok.inj _ _ _ e t▸P))
  ·by_cases hcc:W=c;·subst hcc;exact⟨_,S⟩
   ·obtain⟨w2,z2⟩:=I.cell y W e;exact⟨w2,z2.sameBut f hcc⟩
  ·obtain⟨e,n,U,nf,d⟩:=I.pin p hp;refine⟨(f.2 p.1 ?_).trans e,n,U,nf,d⟩;intro q;rw[q,O]at e;have q':oc=p.2:=zt e;exact d T (by rw[<-q'];exact N)
theorem Io{M:Model}{v:V}{Q:Unit->Shared->Prop}(I:As X pins σ H s)(e:X.N.Nodup)(c:X.N[i]?=some x)(b:Loc X.env.scope x)(r:AX v u)(h:∀a,As X pins (σ.set i (some v)) H a->Q () a)(d:X.fn x=true\/X.env.scope.names.lookup x=some .local:=by first|exact .inl rfl|exact .inr rfl|assumption):wpAny M A (storeName X.env x u) Q E s:=Ov I e c b r (fun a f Y=>h a f) d
theorem As.iu{a:Shared}{ch:List Addr}(I:As X pins σ H s)(j:a.os=s.os)(u:Un (Np X.stack) ch H H' s.heap a.heap)(d:FN X.prog X.w H' a.heap)(k:AllBare a.gens)(f:∀b∈ch,(b∈X.ex\/X.s_0.heap.objs.size<=b)/\b≠X.env.locals/\(∀x c,X.env.cells.lookup x=some c->c≠b)/\∀p∈X.pn++pins,p.1≠b):As X pins σ H' a:=by obtain⟨l,g,h,t',i⟩:=a;have e:i=s.os:=j;subst e;exact I.call (g':=g) (t':=t') (d':=h) u d k f
end
abbrev XK:=Value->Option Addr->Hp->Prop
abbrev St:=List (Option V)
variable{pins:List (Addr×Obj)}{X:Cx}{es:List Expr}{o:Expr}{apos:Pos}{ta:TE}
abbrev VK:=V->Hp->Prop
abbrev TE:=St->Hp->VK->Prop
abbrev TT:=St->Hp->(Bool->Hp->Prop)->Prop
abbrev TA:=St->Hp->(List V->Hp->Prop)->Prop
structure Ends where
 nx:St->Hp->Prop
 rt:VK
 bk:St->Hp->Prop:=fun _ _=>False
 ct:St->Hp->Prop:=fun _ _=>False
abbrev TS:=Ends->St->Hp->Prop
inductive EP(X:Cx)(pins:List (Addr×Obj))(σ:St)(Q:VK)(u:Value)(s':Shared):Prop|mk(v H':_):As X pins σ H' s'->AX v u->Q v H'->EP X pins σ Q u s'
def TP(X:Cx)(a:List (Addr×Obj))(σ:St)(Q:Bool->Hp->Prop)(b:Bool)(d:Shared):Prop:=∃c,As X a σ c d/\Q b c
inductive AP(X:Cx)(pins:List (Addr×Obj))(σ:St)(Q:List V->Hp->Prop)(us:List Value)(s':Shared):Prop|mk(vs H':_):As X pins σ H' s'->AG vs us->Q vs H'->AP X pins σ Q us s'
def SP(X:Cx)(b:List (Addr×Obj))(D:Ends)(f:Flow)(d:Shared):Prop:=match f with| .next=>∃a c,As X b a c d/\D.nx a c| .brk=>∃a c,As X b a c d/\D.bk a c| .cont=>∃a c,As X b a c d/\D.ct a c| .ret u=>∃v a c,As X b a c d/\AX v u/\D.rt v c
def PE(X:Cx)(e:Expr)(t:TE):Prop:=∀(a:List (Addr×Obj))(s:Shared)(σ:St)(H:Hp)(Q:VK),As X a σ H s->t σ H Q->wpX X (eval e X.env) (EP X a σ Q) X.xe s
def PT(X:Cx)(e:Expr)(t:TT):Prop:=∀(a:List (Addr×Obj))(s:Shared)(σ:St)(H:Hp)(Q:Bool->Hp->Prop),As X a σ H s->t σ H Q->wpX X (isTrue e X.env (eval e X.env)) (TP X a σ Q) X.xe s
def PW(X:Cx)(e:Expr)(t:TT):Prop:=∀(b:Sem Value)(a:List (Addr×Obj))(s:Shared)(σ:St)(H:Hp)(Q:Bool->Hp->Prop),As X a σ H s->t σ H Q->wpX X (isTrue e X.env b) (TP X a σ Q) X.xe s
theorem PW.pt{X:Cx}{t:TT}(h:PW X e t):PT X e t:=h _
def PA(X:Cx)(c:List Expr)(t:TA):Prop:=∀(b:Pos)(a:List (Addr×Obj))(s:Shared)(σ:St)(H:Hp)(Q:List V->Hp->Prop),As X a σ H s->t σ H Q->wpX X (spliced (backTo b (starEach c X.env))) (AP X a σ Q) X.xe s
def PS(X:Cx)(b:Stmt)(t:TS):Prop:=∀(a:List (Addr×Obj))(s:Shared)(σ:St)(H:Hp)(D:Ends),As X a σ H s->t D σ H->wpX X (exec b X.env) (SP X a D) X.xe s
def Rk(X:Cx)(b:List Stmt)(t:TS):Prop:=∀(a:List (Addr×Obj))(s:Shared)(σ:St)(H:Hp)(D:Ends),As X a σ H s->t D σ H->wpX X (execs b X.env) (SP X a D) X.xe s
theorem Br{b:Type}{t:Sem b}{Q c:b->Shared->Prop}{M:Model}(h:wpAny M A t Q E s)(d:∀a s,Q a s->c a s):wpAny M A t c E s:=yG h d fun Y Y x=>x
section
inductive Bj(i:Nat)(σ:St)(H:Hp)(Q:VK):Prop|mk(v:_):σ[i]?=some (some v)->Q v H->Bj i σ H Q
def tC(v:V):TE:=fun Y H Q=>Q v H
theorem jC{f:Pos}(t:X.N[i]?=some x)(n:lp X.env.scope x)(g:(x==("__debug__":Str))=false:=by decide)(j:(x==("__classdict__":Str))=false:=by decide):PE X (.Name x f) (Bj i):=by
 intro d s σ H Q I h;obtain⟨v,e,h⟩:=h;obtain⟨m,o,q⟩:=I.loc;obtain⟨u,r,l⟩:=q i x v t e n;have fin:EP X d σ Q u s:=⟨v,H,I,r,h⟩;rcases l with⟨b,p⟩ |⟨b,c,k,a⟩;·exact wpAny_Name (qr I.ok.kind b o p fin) g
 ·rcases b with b|b;·exact wpAny_Name (wpAny_loadName_cell I.ok.kind b k a fin) g
  ·exact wpAny_Name (wpAny_loadName_free I.ok.kind b k a fin j) g
theorem Ae{i j a}:PE X (.Constant (.int i) j a) (tC (.int i)):=fun Y Y Y H Y I h=>wpAny_Constant_int ⟨.int i,H,I.tok _,⟨_,rfl⟩,h⟩
theorem K7{b j a}:PE X (.Constant (.bool b) j a) (tC (.bl b)):=fun Y Y Y H Y I h=>Constant_bool ⟨.bl b,H,I,rfl,h⟩
theorem MD{j a}:PE X (.Constant .none j a) (tC .B0):=fun Y Y Y H Y I h=>Constant_none ⟨.B0,H,I,rfl,h⟩
theorem Ai{x j a}:PE X (.Constant (.str x) j a) (tC (.str x)):=fun Y Y Y H Y I h=>Calls.Constant_str ⟨.str x,H,I.tok _,⟨_,rfl⟩,h⟩
def Gl(X:Cx)(x:Str):Prop:=X.env.kindOf x=some .globalImplicit
theorem DL{a:List (Addr×Obj)}{σ:St}{H:Hp}{b:Pos}(I:As X a σ H s)(d:Gl X x)(c:X.mg x=some u)(h:Q u s)(e:(x==("__debug__":Str))=false:=by decide):wpX X (eval (.Name x b) X.env) Q E s:=sU I.ok.kind d (Calls.loadGlobal_global (by rw[I.ok.glob];exact I.mod.glob.keeps I.bk) c h) e
theorem Gn{a:List (Addr×Obj)}{σ:St}{H:Hp}{b:Pos}(I:As X a σ H s)(f:Gl X x)(e:X.mg x=none)(c:bootBuiltins x=some u)(h:Q u s)(d:x≠"__name__":=by decide)(g:(x==("__debug__":Str))=false:=by decide):wpX X (eval (.Name x b) X.env) Q E s:=by obtain⟨k,j,i⟩:=I.mod.blt;exact sU I.ok.kind f (Calls.loadGlobal_builtin (by rw[I.ok.glob];exact I.mod.glob.keeps I.bk) e (by rw[I.ok.blt];exact j.keeps I.bk) ((i x d).trans c) h) g
theorem AD{v:V}{a:Pos}(c:Gl X x)(b:X.mg x=some u)(r:AX v u)(d:(x==("__debug__":Str))=false:=by decide):PE X (.Name x a) (tC v):=fun Y Y Y H Y I h=>DL I c b ⟨v,H,I,r,h⟩ d
variable{a b:Expr}{tb:TE}{pos:Pos}
def PC(X:Cx)(f:CmpOp)(a b:Expr)(t:TE):Prop:=∀(c:List (Addr×Obj))(s:Shared)(σ:St)(H:Hp)(Q:VK),As X c σ H s->t σ H Q->wpX X (eval a X.env) (fun v e=>wpX X (eval b X.env) (fun u d=>wpX X (compareOp f v u) (EP X c σ Q) X.xe d) X.xe e) X.xe s
inductive qs(Q:Bool->Hp->Prop)(x:V)(H1:Hp):Prop|mk(c:_):x= .bl c->Q c H1->qs Q x H1
def tB(t:TE):TT:=fun σ H Q=>t σ H (qs Q)
theorem aG{f:CmpOp}{t:TE}(h:PC X f a b t)(i:behindInMarks f b=false:=by first|exact m3 _ ⋯ ⋯|rfl):PT X (.Compare a [f] [b] pos) (tB t):=by intro e s σ H Q I l;refine qc (Br (h e s σ H _ I l) fun v w i=>Br i fun u r m=>Br m fun c p g=>?_) i;obtain⟨x,o,n,j,k⟩:=g;obtain⟨d,rfl,q⟩:=k;cases j;exact yT ⟨o,n,q⟩
theorem BU{t:TE}(h:PE X e t)(j:∀a,isTrue e X.env a=(do
 let v<-a
 standAt e.pos
 holding [v] (truthy v)):=by intro Y;rfl):PT X e (tB t):=by intro b s σ H Q I i;refine isTrue_plain (Br (h b s σ H _ I i) fun v m c=>?_) (j _);obtain⟨x,l,k,f,g⟩:=c;obtain⟨d,rfl,q⟩:=g;cases f;exact yT ⟨l,k,q⟩
variable{tA tB':TT}{rest:List Expr}
def lI(t u:TT):TT:=fun σ H Q=>t σ H fun c a=>if c=true then u σ a Q else Q false a
def pY(t u:TT):TT:=fun σ H Q=>t σ H fun c a=>if c=true then Q true a else u σ a Q
def lF(t:TT):TT:=fun σ H Q=>t σ H fun c a=>Q (!c) a
theorem BL(d:PT X a tA):PW X (.BoolOp .And [a] pos) tA:=by intro f b s σ H Q I h;refine isTrue_and (Br (d b s σ H Q I h) fun c g e=>?_);cases c with|true=>exact isTrue_and_nil e|false=>exact e
theorem aB(d:PT X a tA):PW X (.BoolOp .Or [a] pos) tA:=by intro f b s σ H Q I h;refine isTrue_or (Br (d b s σ H Q I h) fun c g e=>?_);cases c with|false=>exact isTrue_or_nil e|true=>exact e
theorem Cm(l:PT X a tA)(k:PW X (.BoolOp .And (b::rest) pos) tB'):PW X (.BoolOp .And (a::b::rest) pos) (lI tA tB'):=by intro i d s σ H Q I h;refine isTrue_and (Br (l d s σ H _ I h) fun c j ⟨g,f,e⟩=>?_);cases c with|true=>exact k i d j σ g Q f e|false=>exact⟨g,f,e⟩
theorem hR(l:PT X a tA)(k:PW X (.BoolOp .Or (b::rest) pos) tB'):PW X (.BoolOp .Or (a::b::rest) pos) (pY tA tB'):=by intro i d s σ H Q I h;refine isTrue_or (Br (l d s σ H _ I h) fun c j ⟨g,f,e⟩=>?_);cases c with|true=>exact⟨g,f,e⟩ |false=>exact k i d j σ g Q f e
theorem FW(d:PT X a tA):PT X (.UnaryOp .Not a pos) (lF tA):=by intro b s σ H Q I h;exact isTrue_not (d b s σ H (fun c e=>Q (!c) e) I h)
inductive Zw(tb:TE)(σ:St)(Q:VK)(x:V)(H1:Hp):Prop|mk(c:_):x= .bl c->(if c=true then tb σ H1 Q else Q (.bl false) H1)->Zw tb σ Q x H1
def Zx(b a:TE):TE:=fun σ H Q=>b σ H (Zw a σ Q)
inductive gR(tb:TE)(σ:St)(Q:VK)(x:V)(H1:Hp):Prop|mk(c:_):x= .bl c->(if c=true then Q (.bl true) H1 else tb σ H1 Q)->gR tb σ Q x H1
def lE(b a:TE):TE:=fun σ H Q=>b σ H (gR a σ Q)
theorem EE{c}{t:TE}(h:PE X a t):PE X (.BoolOp c [a] pos) t:=fun b s σ H Q I d=>BoolOp_one (h b s σ H Q I d)
theorem ME(m:PE X a ta)(l:PE X (.BoolOp .And (b::rest) pos) tb):PE X (.BoolOp .And (a::b::rest) pos) (Zx ta tb):=by intro d s σ H Q I h;refine BoolOp_and (Br (m d s σ H _ I h) fun v j f=>?_);obtain⟨x,i,g,k,e⟩:=f;obtain⟨c,rfl,e⟩:=e;cases k;refine yT ?_;cases c with|true=>exact l d j σ i Q g e|false=>exact⟨.bl false,i,g,rfl,e⟩
theorem OU(m:PE X a ta)(l:PE X (.BoolOp .Or (b::rest) pos) tb):PE X (.BoolOp .Or (a::b::rest) pos) (lE ta tb):=by intro d s σ H Q I h;refine BoolOp_or (Br (m d s σ H _ I h) fun v j f=>?_);obtain⟨x,i,g,k,e⟩:=f;obtain⟨c,rfl,e⟩:=e;cases k;refine yT ?_;cases c with|false=>exact l d j σ i Q g e|true=>exact⟨.bl true,i,g,rfl,e⟩
def pZ(t:TT)(d b:TE):TE:=fun σ H Q=>t σ H fun c a=>if c=true then d σ a Q else b σ a Q
theorem D4{c:Expr}(k:PT X c tA)(m:PE X a ta)(l:PE X b tb):PE X (.IfExp c a b pos) (pZ tA ta tb):=by intro e s σ H Q I h;refine wpAny_IfExp (Br (k e s σ H _ I h) fun d f ⟨j,i,g⟩=>?_);cases d with|true=>exact m e f σ j Q i g|false=>exact l e f σ j Q i g
end
def AJ(K:Frag)(H:Hp)(a:Addr)(xs:List V):Prop:=Rd H a (.lst xs)\/∃(o:Obj)(b:Array Value)(n:Nat),K.lookup a=some o/\o.cls= .type "list"/\o.dict=none/\o.data= .seq b n/\b.size<=sizeLine/\AG xs b.toList
def Em(K:Frag)(H:Hp)(a:Addr)(xs:List V):Prop:=Rd H a (.tup xs)\/∃(o:Obj)(b:Array Value)(n:Nat),K.lookup a=some o/\o.cls= .type "tuple"/\o.data= .seq b n/\b.size<=sizeLine/\AG xs b.toList
def pI:Value->Option V| .none=>some .B0| .bool b=>some (.bl b) | .int i _=>some (.int i) | .str x _=>some (.str x) | .bytes b _=>some (.Rj b) | .float b _=>some (.nU b) | .ref a=>some (.ref a) | .type n=>some (.ty n) |_=>none
theorem AX.abs{x:V}(r:AX x u):pI u=some x:=by cases x with|B0=>cases r;rfl|bl _=>cases r;rfl|int _=>obtain⟨t,rfl⟩:=r;rfl|str _=>obtain⟨t,rfl⟩:=r;rfl|Rj _=>obtain⟨t,rfl⟩:=r;rfl|nU _=>obtain⟨t,rfl⟩:=r;rfl|ref _=>cases r;rfl|ty _=>cases r;rfl
theorem AX.inj{x y:V}(r:AX x u)(q:AX y u):x=y:=zt (r.abs.symm.trans q.abs)
theorem AG.inj:∀{xs a:List V}{us:List Value},AG xs us->AG a us->xs=a|_,_,_,.nil,.nil=>rfl|_,_,_,.cons r t,.cons b t'=>by rw[r.inj b,AG.inj t t']
section
variable{σ:St}{H:Hp}{xs ys:List V}
theorem AJ.of{K:Frag}(h:H a=some (.lst xs)):AJ K H a xs:= .inl (.inl h)
theorem Em.of{K:Frag}(h:H a=some (.tup xs)):Em K H a xs:= .inl (.inl h)
theorem As.list(I:As X pins σ H s)(h:AJ X.K H a xs):∃b:List Value,AG xs b/\PlainL s.heap a b.toArray/\xs.length<=sizeLine:=by
 rcases h with h|⟨o,b,n,d,g,f,c,i,r⟩;·obtain⟨z,b,n,r,e⟩:=h.ok I.Bx;exact⟨b,r,⟨_,n,e,rfl,rfl,rfl⟩,z⟩
 ·exists b.toList,r,⟨o,n,I.Gq a o d,g,f,‹c›⟩;have e:=r.length;simp only[xi]at e;lia
theorem As.tuple(I:As X pins σ H s)(h:Em X.K H a xs):∃b:List Value,AG xs b/\IsTup s.heap a b.toArray/\xs.length<=sizeLine:=by
 rcases h with h|⟨o,b,n,d,f,c,g,r⟩;·obtain⟨z,b,r,p⟩:=h.ok I.Bx;exact⟨b,r,p,z⟩
 ·exists b.toList,r,⟨o,I.Gq a o d,f,n,‹c›⟩;have e:=r.length;simp only[xi]at e;lia
theorem As.SG(I:As X pins σ H s)(h:AJ X.K H a xs)(j:AJ X.K H a ys):xs=ys:=by obtain⟨c,r,⟨o,n,e,Y,Y,d⟩,Y⟩:=I.list h;obtain⟨b,i,⟨k,l,f,Y,Y,g⟩,Y⟩:=I.list j;rw[e]at f;cases f;rw[d]at g;injection g with d1 _;have:c=b:=‹zT Array.toList d1›;subst this;exact r.inj i
theorem As.Oq(I:As X pins σ H s)(h:Em X.K H a xs)(j:Em X.K H a ys):xs=ys:=by obtain⟨c,r,⟨o,e,Y,n,d⟩,Y⟩:=I.tuple h;obtain⟨b,i,⟨k,f,Y,l,g⟩,Y⟩:=I.tuple j;rw[e]at f;cases f;rw[d]at g;injection g with d1 _;have:c=b:=‹zT Array.toList d1›;subst this;exact r.inj i
end
abbrev Cx.NH(X:Cx)(E:Value->Shared->Prop):Cx:={X with xe:=E}
abbrev Cx.nQ(X:Cx):Cx:=X.NH fun Y Y=>False
theorem Cx.Ok.NH{X:Cx}(a:X.Ok)(E:Value->Shared->Prop):(X.NH E).Ok:=⟨a.mod,a.kind,a.glob,a.blt,a.above,a.inj,a.has,a.kG,a.hd,a.frames,a.Zy,a.k_,a.bs,a.Zi,a.UZ,a.V0,a.HV,a.dG⟩
theorem Cx.Ok.FQ{X:Cx}(a:(X.NH E).Ok):X.Ok:=⟨a.mod,a.kind,a.glob,a.blt,a.above,a.inj,a.has,a.kG,a.hd,a.frames,a.Zy,a.k_,a.bs,a.Zi,a.UZ,a.V0,a.HV,a.dG⟩
section
variable{σ:St}{H:Hp}
theorem As.NH(I:As X pins σ H s)(E:Value->Shared->Prop):As (X.NH E) pins σ H s:=⟨I.ok.NH E,I.os,I.bare,I.base,I.loc,I.cell,I.free,I.CN,I.pin,I.Bx,I.len⟩
theorem As.FQ(I:As (X.NH E) pins σ H s):As X pins σ H s:=⟨I.ok.FQ,I.os,I.bare,I.base,I.loc,I.cell,I.free,I.CN,I.pin,I.Bx,I.len⟩
theorem SP.FQ{D:Ends}{f:Flow}{c:Shared}(h:SP (X.NH E) pins D f c):SP X pins D f c:=by cases f with|next=>obtain⟨a,b,I,q⟩:=h;exact⟨a,b,I.FQ,q⟩ |brk=>obtain⟨a,b,I,q⟩:=h;exact⟨a,b,I.FQ,q⟩ |cont=>obtain⟨a,b,I,q⟩:=h;exact⟨a,b,I.FQ,q⟩ |ret u=>obtain⟨v,a,b,I,r,q⟩:=h;exact⟨v,a,b,I.FQ,r,q⟩
theorem Rk.nQ{b:List Stmt}{t:TS}(h:Rk X.nQ b t):Rk X b t:=fun a s σ H D I c=>yG (h a s σ H D (I.NH _) c) (fun Y Y q=>q.FQ) fun Y Y z=>False.elim z
end
section
variable{st:Stmt}{rest:List Stmt}{t u:TS}{te:TE}{pos:Pos}
def VW:TS:=fun D σ H=>D.nx σ H
def LU(t u:TS):TS:=fun D σ H=>t {D with nx:=u D} σ H
theorem Au:Rk X [] VW:=fun Y Y σ H Y I h=>vn ⟨σ,H,I,h⟩
theorem my(e:PS X st t)(d:Rk X rest u):Rk X (st::rest) (LU t u):=by intro a s σ H D I h;refine wpAny_execs_cons (Br (e a s σ H {D with nx:=u D} I h) fun f c q=>?_);cases f with|next=>obtain⟨b,i,g,q⟩:=q;exact d a c b i D g q|ret v=>exact q|brk=>exact q|cont=>exact q
theorem Ag(b:PS X st t):Rk X [st] t:=by intro a s σ H D I h;refine wpAny_execs_cons (Br (b a s σ H D I h) fun f c q=>?_);cases f with|next=>exact vn q|ret v=>exact q|brk=>exact q|cont=>exact q
def iZ:TS:=fun D σ H=>D.bk σ H
theorem Sg:PS X (.Break pos) iZ:=fun Y Y σ H Y I h=>wpAny_Break ⟨σ,H,I,h⟩
theorem As.quiet{a:List (Addr×Obj)}{σ:St}{H:Hp}(I:As X a σ H s):interactive X.env=false:=by simp[interactive,I.ok.kind]
def Rz(te:TE):TS:=fun D σ H=>te σ H fun Y a=>D.nx σ a
theorem A2(d:PE X e te)(c:swapsWith e none pos.line X.env=pure false:=by rfl):PS X (.Expr e pos) (Rz te):=by intro a s σ H D I h;exact wpAny_Expr_any (Br (d a s σ H _ I h) fun v i ⟨x,g,f,j,b⟩=>⟨σ,g,f,b⟩) I.quiet c
def PV(te:TE):TS:=fun D σ H=>te σ H D.rt
theorem Aj(d:PE X e te):PS X (.Return (some e) pos) (PV te):=by intro a s σ H D I h;exact wpAny_Return_some (Br (d a s σ H _ I h) fun v i ⟨x,g,f,b,c⟩=>⟨x,σ,g,f,b,c⟩)
def Zs(c:TT)(t u:TS):TS:=fun D σ H=>c σ H fun b a=>if b=true then t D σ a else u D σ a
theorem AM{c:Expr}{a b:List Stmt}{f:TT}(l:PT X c f)(n:Rk X a t)(m:Rk X b u):PS X (.If c a b pos) (Zs f t u):=by intro e s σ H D I h;refine wpAny_If (Br (l e s σ H _ I h) fun d g ⟨k,j,i⟩=>?_);cases d with|true=>exact n e g σ k D j i|false=>exact m e g σ k D j i
def iU:TS:=fun Y Y Y=>False
theorem aI:PS X st iU:=fun Y Y Y Y Y Y h=>h.elim
end
abbrev TG:=V->St->Hp->(St->Hp->Prop)->Prop
abbrev lu:=List V->St->Hp->(St->Hp->Prop)->Prop
def PG(X:Cx)(a:Expr)(t:TG):Prop:=∀(b:List (Addr×Obj))(s:Shared)(σ:St)(H:Hp)(v:V)(u:Value)(Q:St->Hp->Prop),As X b σ H s->AX v u->t v σ H Q->wpX X (assign a X.env u) (fun Y e=>∃c d,As X b c d e/\Q c d) X.xe s
def oa(X:Cx)(e:List Expr)(t:lu):Prop:=∀(a:List (Addr×Obj))(s:Shared)(σ:St)(H:Hp)(c:List V)(us:List Value)(Q:St->Hp->Prop),As X a σ H s->AG c us->t c σ H Q->wpX X (assignInOrder ((assignEach e X.env).map (·.2)) us) (fun Y f=>∃b d,As X a b d f/\Q b d) X.xe s
abbrev dm:=V->V->V->Hp->(Hp->Prop)->Prop
def kU(X:Cx)(t:dm):Prop:=∀(a:List (Addr×Obj))(s:Shared)(σ:St)(H:Hp)(o i v:V)(b c u:Value)(Q:Hp->Prop),As X a σ H s->AX o b->AX i c->AX v u->t o i v H Q->wpX X (setItem b c u) (fun Y e=>∃d,As X a σ d e/\Q d) X.xe s
abbrev lr:=V->V->Hp->VK->Prop
def n_(X:Cx)(b:Operator)(t:lr):Prop:=∀(a:List (Addr×Obj))(s:Shared)(σ:St)(H:Hp)(x y:V)(v u:Value)(Q:VK),As X a σ H s->AX x v->AX y u->t x y H Q->wpX X (inplaceOp b v u) (EP X a σ Q) X.xe s
section
variable{pos:Pos}
def E7(i:Nat):TG:=fun v σ H Q=>Q (σ.set i (some v)) H
theorem Aw(e:X.N.Nodup)(c:X.N[i]?=some x:=by rfl)(b:Loc X.env.scope x:=by first|exact .inl rfl|exact .inr rfl)(d:X.fn x=true\/X.env.scope.names.lookup x=some .local:=by first|exact .inl rfl|exact .inr rfl|assumption):PG X (.Name x pos) (E7 i):=by intro a s σ H v u Q I r h;exact wpAny_assign_Name (Io I e c b r (fun g f=>⟨_,H,f,h⟩) d)
def gg:lu:=fun a σ H Q=>a=[]/\Q σ H
inductive KO(t:TG)(u:lu)(vs:List V)(σ:St)(H:Hp)(Q:St->Hp->Prop):Prop|mk(v r:_):vs=v::r->(t v σ H fun σ' H'=>u r σ' H' Q)->KO t u vs σ H Q
theorem Cq:oa X [] gg:=by intro a s σ H b us Q I r h;obtain⟨e,h⟩:=h;subst e;cases r;exact assignInOrder_nil ⟨σ,H,I,h⟩
theorem AS{b:List Expr}{t:TG}{u:lu}(l:PG X e t)(k:oa X b u)(j:(assignEach (e::b) X.env).map (·.2)=assign e X.env::(assignEach b X.env).map (·.2):=by rfl):oa X (e::b) (KO t u):=by intro a s σ H p us Q I r h;obtain⟨v,q,m,h⟩:=h;subst m;cases r with|cons r g=>rw[j];refine assignInOrder_cons (Br (l a s σ H _ _ _ I r h) fun Y f d=>?_);obtain⟨c,o,n,i⟩:=d;exact k a f c o _ _ Q n g i
inductive cy(K:Frag)(n:Nat)(t:lu)(v:V)(σ:St)(H:Hp)(Q:St->Hp->Prop):Prop|mk(a xs:_):v= .ref a->Em K H a xs->xs.length=n->t xs σ H Q->cy K n t v σ H Q
theorem Dj{d:List Expr}{k:Nat}{t:lu}{n:Nat}(x:X.calm=true)(h:oa X d t)(q:(assignEach d X.env).length=n:=by rfl)(g:(assignEach d X.env).findIdx? (·.1)=none:=by rfl):PG X (.Tuple d k pos) (cy X.K n t):=by intro c s σ H v u Q I r f;obtain⟨a,xs,z,p,w,f⟩:=f;subst z;cases r;obtain⟨j,i,m,B⟩:=I.tuple p;refine assign_Tuple_tuple (I.ok.hd x) m (by simp[q,<-w,i.length]) g fun y l=>?_;have A:As X c σ H {s with heap:=y}:=I.kept (t':=s.toks) fun b o e=>l b o (zV (zA e)) e;exact h c _ σ H xs _ Q A ‹i› f
def p9(a b:TE)(t:dm):TG:=fun v σ H Q=>a σ H fun o e=>b σ e fun i d=>t o i v d fun c=>Q σ c
theorem HP{o i:Expr}{e f:TE}{t:dm}(w:PE X o e)(z:PE X i f)(q:kU X t)(A:∀v,assign (.Subscript o i pos) X.env v=(do
 let c<-holding [v] (eval o X.env)
 let d<-holding [v,c] (eval i X.env)
 standAt pos
 holding [v,c,d] (setItem c d v)
 release [v,c,d] []):=by intro Y;rfl):PG X (.Subscript o i pos) (p9 e f t):=by intro a s σ H v u Q I r h;rw[A];refine za (yR (Br (w a s σ H _ I h) fun c j b=>?_));obtain⟨x,G,D,l,p⟩:=b;refine za (yR (Br (z a j σ G _ D p) fun d g b=>?_));obtain⟨y,F,C,k,n⟩:=b;refine za (xb (za (yR (Br (q a g σ F x y v c d u _ C l k r n) fun Y J ⟨E,B,m⟩=>?_))));exact wpAny_release ⟨σ,E,B,m⟩
def R0(te:TE)(g:TG):TS:=fun D σ H=>te σ H fun x a=>g x σ a D.nx
theorem HN{te:TE}{g:TG}(l:PE X e te)(k:PG X tg g)(j:swapsWithSole [tg] e pos.line X.env=pure false:=by rfl)(i:swappedStores [tg] e X.env=pure none:=by rfl)(m:(assignEach [tg] X.env).map (·.2)=[assign tg X.env]:=by rfl):PS X (.Assign [tg] e pos) (R0 te g):=by intro a s σ H D I h;refine wpAny_Assign_stores (Br (l a s σ H _ I h) fun v c b=>?_) j i;obtain⟨x,o,n,d,f⟩:=b;rw[m];exact Br (k a c σ o x v _ n d f) fun Y p q=>q
theorem An{te:TE}{a:Pos}(n:X.N.Nodup)(m:PE X e te)(k:X.N[i]?=some x:=by rfl)(g:Loc X.env.scope x:=by first|exact .inl rfl|exact .inr rfl)(j:swapsWith e (some (.Name x a)) pos.line X.env=pure false:=by rfl)(l:X.fn x=true\/X.env.scope.names.lookup x=some .local:=by first|exact .inl rfl|exact .inr rfl|assumption):PS X (.Assign [.Name x a] e pos) (R0 te (E7 i)):=by intro b s σ H D I h;refine wpAny_Assign_Name (Br (m b s σ H _ I h) fun v t c=>?_) j;obtain⟨y,q,p,d,f⟩:=c;exact Io p n k g d (fun r o=>⟨_,q,o,f⟩) l
inductive lH(i:Nat)(te:TE)(ti:lr)(D:Ends)(σ:St)(H:Hp):Prop|mk(x:_):σ[i]?=some (some x)->(te σ H fun y H1=>ti x y H1 fun z H2=>D.nx (σ.set i (some z)) H2)->lH i te ti D σ H
theorem Qm{te:TE}{p:Operator}{t:lr}{n:Pos}(R:X.N.Nodup)(P:PE X e te)(K:n_ X p t)(A:X.N[i]?=some x:=by rfl)(q:Loc X.env.scope x:=by first|exact .inl rfl|exact .inr rfl)(O:X.fn x=true\/X.env.scope.names.lookup x=some .local:=by first|exact .inl rfl|exact .inr rfl|assumption):PS X (.AugAssign (.Name x n) p e pos) (lH i te t):=by
 intro a s σ H D I h;obtain⟨v,S,h⟩:=h;obtain⟨m,L,N⟩:=I.loc;have o:lp X.env.scope x:=by rcases q with k|k;exact .inl k;exact .inr (.inl k)
 obtain⟨u,r,l⟩:=N i x v A S o;refine wpAny_AugAssign_Name ?_;have B:wpX X (eval e X.env) (fun w j=>wpX X (inplaceOp p u w) (fun r g=>wpX X (storeName X.env x r) (fun Y=>SP X a D .next) X.xe g) X.xe j) X.xe s:=by refine Br (P a s σ H _ I h) fun w C d=>?_;obtain⟨y,Z,V,F,J⟩:=d;refine Br (K a C σ Z v y u w _ V r F J) fun z s2 d=>?_;obtain⟨zv,W,U,E,G⟩:=d;exact Io U R A q E (fun s3 T=>⟨_,W,T,G⟩) O
 rcases l with⟨b,M⟩ |⟨b,c,Q,f⟩;·exact qr I.ok.kind b L M B
 ·rcases b with b|b;·exact wpAny_loadName_cell I.ok.kind b Q f B
  ·rcases q with k|k;·have:X.env.scope.names.lookup x=some .free:=b;rw[k]at this;cases this
   ·have:X.env.scope.names.lookup x=some .free:=b;rw[k]at this;cases this
def lG(d e te:TE)(b:V->V->Hp->VK->Prop)(c:lr)(a:dm):TS:=fun D σ H=>d σ H fun o l=>e σ l fun i k=>b o i k fun x j=>te σ j fun y h=>c x y h fun z g=>a o i z g fun f=>D.nx σ f
def ni(X:Cx)(t:V->V->Hp->VK->Prop):Prop:=∀(a:List (Addr×Obj))(s:Shared)(σ:St)(H:Hp)(o i:V)(b c:Value)(Q:VK),As X a σ H s->AX o b->AX i c->t o i H Q->wpX X (getItem b c) (EP X a σ Q) X.xe s
theorem ff{o i:Expr}{q r te:TE}{f:V->V->Hp->VK->Prop}{l:lr}{d:dm}{w:Operator}{k:Pos}(T:PE X o q)(U:PE X i r)(W:ni X f)(Z:PE X e te)(S:n_ X w l)(R:kU X d)(ha:∀g j c,augStore i g j c=(do
 holding [c,g,j] (setItem g j c)
 release [c,g,j] []
 pure .next):=by intros;rfl):PS X (.AugAssign (.Subscript o i k) w e pos) (lG q r te f l d):=by intro a s σ H D I h;refine wpAny_AugAssign_SubscriptAny (Br (T a s σ H _ I h) fun g F b=>?_) ha;obtain⟨p,H1,I1,u,Q⟩:=b;refine Br (U a F σ H1 _ I1 Q) fun j E b=>?_;obtain⟨n,H2,I2,t,P⟩:=b;refine Br (W a E σ H2 p n g j _ I2 u t P) fun m C b=>?_;obtain⟨z,H3,I3,K,O⟩:=b;refine Br (Z a C σ H3 _ I3 O) fun v B b=>?_;obtain⟨y,H4,I4,J,N⟩:=b;refine Br (S a B σ H4 z y m v _ I4 K J N) fun c A b=>?_;obtain⟨x,H5,I5,G,M⟩:=b;exact Br (R a A σ H5 p n x g j c _ I5 u t G M) fun Y s6 ⟨H6,I6,L⟩=>⟨σ,H6,I6,L⟩
def q7(f:Int->Int->Int):lr:=fun x y H Q=>∃i j,x= .int i/\y= .int j/\Q (.int (f i j)) H
theorem Vl:n_ X .Add (q7 fun i j=>i+j):=by intro a s σ H x y v u Q I c b h;obtain⟨i,j,e,d,q⟩:=h;subst e;subst d;obtain⟨t,rfl⟩:=c;obtain⟨t',rfl⟩:=b;exact iadd_int ⟨.int _,H,I.tok _,⟨_,rfl⟩,q⟩
theorem jS:n_ X .Sub (q7 fun i j=>i-j):=by intro a s σ H x y v u Q I c b h;obtain⟨i,j,e,d,q⟩:=h;subst e;subst d;obtain⟨t,rfl⟩:=c;obtain⟨t',rfl⟩:=b;exact isub_int ⟨.int _,H,I.tok _,⟨_,rfl⟩,q⟩
def iS(c:TT)(g:TS):TS:=fun D σ H=>∃W:Nat->St->Hp->Prop,(∃m,W m σ H)/\∀m σ H,W m σ H->c σ H fun b e=>if b=true then∃N:St->Hp->Prop,(∀a f,N a f->∃d,d<m/\W d a f)/\g {D with nx:=N,ct:=N,bk:=D.nx} σ e else D.nx σ e
theorem CV{c:Expr}{g:List Stmt}{t:TT}{u:TS}(w:PassesOwn (model X.prog X.w) X.A X.env X.xe)(L:PT X c t)(M:Rk X g u):PS X (.While c g [] pos) (iS t u):=by
 intro d s σ H D I h;obtain⟨W,⟨K,E⟩,turn⟩:=h;refine wpAny_While (codeAny_whileLoop (fun n J=>∃i B,As X d i B J/\W n i B) ?_ K ⟨σ,H,I,E⟩);rintro n G ⟨e,A,O,C⟩;refine x_ w (Br (L d G e A _ O (turn n e A C)) fun b F ⟨z,y,l⟩=>?_);cases b with
 |true=>obtain⟨N,x,l⟩:=l;rw[zc rfl];refine x_ w (Br (M d F e z _ y l) fun f P k=>?_);cases f with|next=>obtain⟨a,j,r,o⟩:=k;obtain⟨p,q,m⟩:=x a j o;exact⟨p,q,a,j,r,m⟩ |cont=>obtain⟨a,j,r,o⟩:=k;obtain⟨p,q,m⟩:=x a j o;exact⟨p,q,a,j,r,m⟩ |brk=>exact k|ret v=>exact k
 |false=>rw[zb zQ];exact vn ⟨e,z,y,l⟩
end
structure It where
 go:Nat->Hp->Prop
 Ul:Nat->Hp->V->Hp->Prop
 stop:Nat->Hp->Prop
def Cg(X:Cx)(a:List (Addr×Obj))(H:Hp)(b:Addr):Prop:=H b=none/\b≠X.env.locals/\b∉X.fs/\(b∈X.ex\/X.s_0.heap.objs.size<=b)/\(∀x c,X.env.cells.lookup x=some c->c≠b)/\∀p∈X.pn++a,p.1≠b
theorem As.Ka{X:Cx}{a:List (Addr×Obj)}{σ:St}{H f:Hp}(I:As X a σ H s)(d:s.heap.objs.size<=b)(h:f b=none):Cg X a f b:=by
 refine⟨h,xl (zF I.lt d),I.oY d,.inr (z_ I.sz d),fun x c e z=>?_,fun p g z=>?_⟩;·obtain⟨v,q⟩:=I.cell x c e;exact absurd (zF q.lt (by rw[z];exact d)) (yW _)
 ·exact absurd (zF (zA (I.pin p g).1) (by rw[z];exact d)) (yW _)
structure Turn(P:Program)(w:World)(K:Frag)(tg:Expr)(J:It)(fp:List Addr)(it:Addr)(tn:Nat->Heap->Prop):Prop where
 mem:it∈fp
 obj:∀i h,tn i h->∀b∈fp,∃o,h.get? b=some o/\∀v,o.data≠ .cell v
 keep:∀i h h',tn i h->(∀b∈fp,∀o,h.get? b=some o->h'.get? b=some o)->tn i h'
 item:∀(X:Cx),X.prog=P->X.w=w->X.K=K->X.calm=true->∀(i:Nat)(pins:List (Addr×Obj))(s:Shared)(σ:St)(H:Hp)(E:Value->Shared->Prop),As X pins σ H s->(∀b∈fp,Cg X pins H b)->tn i s.heap->J.go i H->wpAny (model P w) X.A (pyNext (.ref it)) (fun r s1=>∃u,r=some u/\wpAny (model P w) X.A (letOwnedTupleGo tg (.ref it) u) (fun _ s2=>∃x H',As X pins σ H' s2/\AX x u/\J.Ul i H x H'/\tn (i+1) s2.heap/\∀b∈fp,H' b=none) E s1) E s
 done:∀(X:Cx),X.prog=P->X.w=w->X.K=K->X.calm=true->∀(i:Nat)(pins:List (Addr×Obj))(s:Shared)(σ:St)(H:Hp)(E:Value->Shared->Prop),As X pins σ H s->(∀b∈fp,Cg X pins H b)->tn i s.heap->J.stop i H->wpAny (model P w) X.A (pyNext (.ref it)) (fun r s1=>r=none/\As X pins σ H s1) E s
 self:∀(A:Around)(i:Nat)(s:Shared)(Q:Value->Shared->Prop)(E:Value->Shared->Prop),tn i s.heap->Q (.ref it) s->wpAny (model P w) A (pyIter (.ref it)) Q E s
abbrev TI:=St->Hp->(It->Hp->Prop)->Prop
def pN(X:Cx)(a:List (Addr×Obj))(σ:St)(tg:Expr)(R:It->Hp->Prop)(c:Value)(f:Shared):Prop:=∃(g:Addr)(h:List Addr)(e:Nat->Heap->Prop)(J:It)(d:Hp),c= .ref g/\As X a σ d f/\Turn X.prog X.w X.K tg J h g e/\e 0 f.heap/\(∀b∈h,Cg X a d b)/\R J d
def PI(X:Cx)(tg b:Expr)(c:TI):Prop:=∀(a:List (Addr×Obj))(s:Shared)(σ:St)(H:Hp)(R:It->Hp->Prop),As X a σ H s->c σ H R->wpX X (eval b X.env) (fun v d=>wpX X (pyIter v) (pN X a σ tg R) X.xe d) X.xe s
theorem Tp{M:Model}{c:Addr}{o:Obj}{n:String}{b:Array Value}{Q:Unit->Shared->Prop}(d:s.heap.get? c=some o)(g:o.cls= .type n)(f:o.data= .fields b)(e:["enumerate","zip","dict_itemiterator","dict_reverseitemiterator","odict_iterator","itertools.zip_longest","itertools.pairwise"].contains n=false)(a:Q () s):wpAny M A (letOwnedTupleGo tg (.ref c) u) Q E s:=by unfold letOwnedTupleGo;cases tg<;>first|exact zr a|(cases u<;>first|exact zr a|(refine za (wpAny_load d ?_);rw[g,f];show wpAny M A (if(["enumerate","zip","dict_itemiterator","dict_reverseitemiterator","odict_iterator","itertools.zip_longest","itertools.pairwise"].contains n&&b[0]?==some (rawInt _))=true then _ else _) Q E s;rw[zb (by intro h;rw[e,xM]at h;cases h)];exact zr a))
def iF(K:Frag)(a:Addr):It:=⟨fun i H=>∃xs x,AJ K H a xs/\xs[i]?=some x,fun i H x b=>b=H/\∀xs,AJ K H a xs->xs[i]?=some x,fun i H=>∃xs,AJ K H a xs/\xs.length<=i⟩
def iD(K:Frag)(a:Addr):It:=⟨fun i H=>∃xs x,Em K H a xs/\xs[i]?=some x,fun i H x b=>b=H/\∀xs,Em K H a xs->xs[i]?=some x,fun i H=>∃xs,Em K H a xs/\xs.length<=i⟩
def gI(a:Int)(n:Nat):It:=⟨fun i Y=>i<n,fun i H x b=>b=H/\x= .int (a+i),fun i Y=>n<=i⟩
theorem Xx{P:Program}{w:World}{K:Frag}(a j:Addr):Turn P w K tg (iF K a) [j] j (fun i h=>h.IsListIter j a i)where
 mem:=by simp
 obj:=fun i h f b l=>by have e:b=j:=‹l›;subst e;obtain⟨o,e,c,d⟩:=f;exact⟨o,e,fun v z=>by rw[d]at z;cases z⟩
 keep:=fun i h r f k=>f.at fun o e=>k j (by simp) o e
 item:=by intro X D B F O i g s σ H E I q f C;subst D B F;obtain⟨xs,x,n,A⟩:=C;obtain⟨y,t,p,S⟩:=I.list n;obtain⟨u,U,R⟩:=t.get A;obtain⟨N,M,V,L,J,G⟩:=q j (by simp);refine wpAny_pyNext_list_item f p.isList (x:=u) ‹U› fun r m Q=>?_;have Z:As X g σ H {s with heap:=r}:=I.turned (t':=s.toks) (fun b o l e=>(Q.2 b l).trans e) N M L J G;obtain⟨o,e,c,d⟩:=id m;exact⟨u,rfl,Tp (s:={s with heap:=r}) e c d ⋯ ⟨x,H,Z,R,⟨rfl,fun ys T=>by rw[I.SG T n];exact A⟩,m,fun b l=>(q b l).1⟩⟩
 done:=by intro X D B F O i g s σ H E I q f C;subst D B F;obtain⟨xs,n,A⟩:=C;obtain⟨y,t,p,S⟩:=I.list n;obtain⟨N,M,V,L,J,G⟩:=q j (by simp);have hl:=t.length;exact wpAny_pyNext_list_end (I.ok.hd O) f p.isList (by simp;lia) fun r W=>⟨rfl,I.turned (t':=s.toks) (fun b o l e=>W b o l e) N M L J G⟩
 self:=fun Y Y Y Y Y f h=>wpAny_pyIter_listiter f h
theorem Uv{P:Program}{w:World}{K:Frag}(a l:Addr):Turn P w K tg (iD K a) [l] l (fun i h=>h.IsTupleIter l a i)where
 mem:=by simp
 obj:=fun i h f b m=>by have e:b=l:=‹m›;subst e;obtain⟨o,e,c,d⟩:=f;exact⟨o,e,fun v z=>by rw[d]at z;cases z⟩
 keep:=fun i h t f k=>f.at fun o e=>k l (by simp) o e
 item:=by intro X D B F O i g s σ H E I r f C;subst D B F;obtain⟨xs,x,q,A⟩:=C;obtain⟨j,y,p,S⟩:=I.tuple q;obtain⟨u,U,R⟩:=y.get A;obtain⟨N,M,V,L,J,G⟩:=r l (by simp);refine wpAny_pyNext_tuple_item f (show s.heap.IsTuple a j.toArray from p) (x:=u) ‹U› fun t n Q=>?_;have Z:As X g σ H {s with heap:=t}:=I.turned (t':=s.toks) (fun b o m e=>(Q.2 b m).trans e) N M L J G;obtain⟨o,e,c,d⟩:=id n;exact⟨u,rfl,Tp (s:={s with heap:=t}) e c d ⋯ ⟨x,H,Z,R,⟨rfl,fun ys T=>by rw[I.Oq T q];exact A⟩,n,fun b m=>(r b m).1⟩⟩
 done:=by intro X D B F O i g s σ H E I r f C;subst D B F;obtain⟨xs,q,A⟩:=C;obtain⟨j,y,p,S⟩:=I.tuple q;obtain⟨N,M,V,L,J,G⟩:=r l (by simp);have hl:=y.length;exact wpAny_pyNext_tuple_end (I.ok.hd O) f (show s.heap.IsTuple a j.toArray from p) (by simp;lia) fun t W=>⟨rfl,I.turned (t':=s.toks) (fun b o m e=>W b o m e) N M L J G⟩
 self:=fun Y Y Y Y Y f h=>wpAny_pyIter_tupleiter f h
theorem Uw{P:Program}{w:World}{K:Frag}(d:Addr)(j:Int)(n:Nat):Turn P w K tg (gI j n) [d] d (fun i h=>IsRangeIter h d (j+(i:Nat)*1) ((n:Int)-(i:Nat)) 1)where
 mem:=by simp
 obj:=fun i h a b f=>by have e:b=d:=‹f›;subst e;exact⟨_,a,fun v z=>by have G:Data.fields _=Data.cell v:=z;cases G⟩
 keep:=fun i h m a k=>k d (by simp) _ a
 item:=by intro X u p x r i c s σ H E I l a q;subst u p x;obtain⟨D,C,M,B,A,y⟩:=l d (by simp);have W:=Walks.range (prog:=X.prog) (w:=X.w) (I.ok.hd r) d j 1 n;refine W.item i s _ _ q a fun v m F L g J=>?_;obtain⟨t,rfl⟩:=L;have O:As X c σ H {s with heap:=m,toks:=F}:=I.turned (fun b o f e=>J b o ‹f› e) D C B A y;refine⟨_,rfl,Tp (s:={s with heap:=m,toks:=F}) (n:="range_iterator") g rfl rfl ⋯ ⟨.int (j+i),H,O,⟨t,?_⟩,⟨rfl,rfl⟩,g,fun b f=>(l b f).1⟩⟩;rw[Int.mul_one]
 done:=by intro X u p x r i c s σ H E I l a q;subst u p x;obtain⟨D,C,M,B,A,y⟩:=l d (by simp);exact rT (I.ok.hd r) a (by have:n<=i:=q;lia) fun m N=>⟨rfl,I.turned (t':=s.toks) (fun b o f e=>N b o f e) D C B A y⟩
 self:=fun Y Y Y Y Y a h=>rW a h
inductive bZ(K:Frag)(R:It->Hp->Prop)(x:V)(H1:Hp):Prop|mk(a:_):x= .ref a->(∃xs,AJ K H1 a xs)->R (iF K a) H1->bZ K R x H1
def mK(K:Frag)(a:TE):TI:=fun σ H R=>a σ H (bZ K R)
inductive ic(K:Frag)(R:It->Hp->Prop)(x:V)(H1:Hp):Prop|mk(a:_):x= .ref a->(∃xs,Em K H1 a xs)->R (iD K a) H1->ic K R x H1
def pq(K:Frag)(a:TE):TI:=fun σ H R=>a σ H (ic K R)
theorem BM{l:Expr}{i:TE}(r:PE X l i):PI X tg l (mK X.K i):=by intro c s σ H R I h;refine Br (r c s σ H _ I h) fun v d g=>?_;obtain⟨x,u,f,j,k⟩:=g;obtain⟨a,e,⟨xs,n⟩,q⟩:=k;subst e;cases j;obtain⟨m,w,p,y⟩:=f.list n;refine tO p.isList ?_;refine⟨d.heap.objs.size,[d.heap.objs.size],_,_,u,rfl,f.kept (t':=d.toks) fun b o e=>zi _ e,Xx a _,⟨_,zM _ rfl,rfl,rfl⟩,fun b t=>?_,q⟩;have e:b=d.heap.objs.size:=‹t›;subst e;exact f.Ka (ze _) (f.Bx.fresh (ze _))
theorem Qn{l:Expr}{j:TE}(r:PE X l j):PI X tg l (pq X.K j):=by intro d s σ H R I h;refine Br (r d s σ H _ I h) fun v c i=>?_;obtain⟨x,u,f,k,m⟩:=i;obtain⟨a,e,⟨xs,n⟩,q⟩:=m;subst e;cases k;obtain⟨g,w,p,y⟩:=f.tuple n;refine vR (show c.heap.IsTuple a g.toArray from p) ?_;refine⟨c.heap.objs.size,[c.heap.objs.size],_,_,u,rfl,f.kept (t':=c.toks) fun b o e=>zi _ e,Uv a _,⟨_,zM _ rfl,rfl,rfl⟩,fun b t=>?_,q⟩;have e:b=c.heap.objs.size:=‹t›;subst e;exact f.Ka (ze _) (f.Bx.fresh (ze _))
theorem ax{d:List (Addr×Obj)}{σ:St}{H:Hp}{R:It->Hp->Prop}{a c:Int}{t u v:Tok}{f:Nat}(I:As X d σ H s)(l: -(2^62)<=a)(k:a<2^62)(j: -(2^62)<=c)(i:c<2^62)(q:R (gI a (c-a).toNat) H):wpX X (pyIter (.ref s.heap.objs.size)) (pN X d σ tg R) E {s with heap:=s.heap.push {cls:= .type "range",data:= .fields #[.int a t,.int c u,.int 1 v]},toks:=f}:=by
 refine wpAny_pyIter_range (IsRange.new ..) (small_one l k j i) ?_;have g:As X d σ H {s with heap:=s.heap.push {cls:= .type "range",data:= .fields #[.int a t,.int c u,.int 1 v]},toks:=f}:=I.kept fun b o e=>zi _ e;refine⟨(s.heap.push {cls:= .type "range",data:= .fields #[.int a t,.int c u,.int 1 v]}).objs.size,[(s.heap.push {cls:= .type "range",data:= .fields #[.int a t,.int c u,.int 1 v]}).objs.size],_,_,H,rfl,g.kept (t':=f) fun b o e=>zi _ e,Uw _ a (c-a).toNat,?_,fun b h=>?_,q⟩
 ·have n:a+((0:Nat):Int)*1=a:=by simp
  have m:(((c-a).toNat:Nat):Int)-((0:Nat):Int)=Builtin.Range.rangeSize a c 1:=by rw[rangeSize_one];split<;>lia
  show IsRangeIter _ _ (a+((0:Nat):Int)*1) ((((c-a).toNat:Nat):Int)-((0:Nat):Int)) 1;rw[n,m];exact zM _ rfl
 ·have e:b=(s.heap.push {cls:= .type "range",data:= .fields #[.int a t,.int c u,.int 1 v]}).objs.size:=‹h›;subst e;exact g.Ka (ze _) (g.Bx.fresh (ze _))
def mJ(b:TA):TI:=fun σ H R=>b σ H fun a c=>∃j:Int,a=[.int j]/\ -(2^62)<=j/\j<2^62/\R (gI 0 j.toNat) c
theorem ES{a:Expr}{g:TA}{p b:Pos}(o:Gl X "range")(n:X.mg "range"=none)(u:PA X [a] g)(m:starEach [a] X.env=[(false,eval a X.env)]:=by rfl):PI X tg (.Call (.Name "range" p) [a] [] b) (mJ g):=by intro c s σ H R I h;refine Call_ (Gn I o n boot_range (yK (Br (u b c s σ H _ I h) fun us x f=>?_) m rfl));obtain⟨w,y,v,k,d⟩:=f;obtain⟨j,e,d,l,q⟩:=d;subst e;cases k with|cons r i=>cases i;obtain⟨t,rfl⟩:=r;exact call_range_1 (ax v ∅ ∅ d l ‹q›)
def oj(e:TI)(g:TG)(f:TS):TS:=fun D σ H=>e σ H fun J j=>∃W:Nat->Nat->St->Hp->Prop,(∃m,W 0 m σ j)/\∀i m σ H,W i m σ H->(J.stop i H/\D.nx σ H)\/(J.go i H/\∃N:St->Hp->Prop,(∀a b,N a b->∃d,d<m/\W (i+1) d a b)/\∀x b,J.Ul i H x b->g x σ b fun c h=>f {D with nx:=N,ct:=N,bk:=D.nx} c h)
def MC(a:List Addr)(h:Heap):List (Addr×Obj):=a.filterMap fun b=>(h.get? b).map fun o=>(b,o)
theorem HU{a:List Addr}{h:Heap}{o:Obj}(c:b∈a)(e:h.get? b=some o):(b,o)∈MC a h:=yA.mpr ⟨b,c,by rw[e];rfl⟩
theorem Yb{a:List Addr}{h:Heap}{p:Addr×Obj}(c:p∈MC a h):p.1∈a/\h.get? p.1=some p.2:=by obtain⟨b,d,e⟩:=yA.mp c;cases q:h.get? b with|none=>rw[q]at e;cases e|some o=>rw[q]at e;have f:(b,o)=p:=zt e;subst f;exact⟨d,q⟩
theorem As.pinned{a:List (Addr×Obj)}{σ:St}{H:Hp}{c:List Addr}(I:As X a σ H s)(j:∀b∈c,Cg X a H b)(i:∀b∈c,∃o,s.heap.get? b=some o/\∀v,o.data≠ .cell v):As X (a++MC c s.heap) σ H s:=I.WD fun p h=>(zD.mp h).elim (fun z=>I.pin p (yx _ z)) fun z=>by obtain⟨f,e⟩:=Yb z;obtain⟨m,l,k,Y⟩:=j p.1 f;obtain⟨o,g,d⟩:=i p.1 f;rw[e]at g;cases g;exact⟨e,m,l,k,d⟩
theorem As.Ik{pins pl:List (Addr×Obj)}{σ:St}{H:Hp}(I:As X (pins++pl) σ H s):As X pins σ H s:=I.WD fun p a=>I.pin p (yx _ (yB _ a))
theorem BC{p:Expr}{B:List Stmt}{wi:TI}{g:TG}{tb:TS}{V:Pos}(M:PassesOwn (model X.prog X.w) X.A X.env X.xe)(hc:X.calm=true)(hi:PI X tg p wi)(hg:PG X tg g)(q:Rk X B tb)(hs:∀x,foldedSetIterable p X.env x=pure x:=by intro Y;rfl):PS X (.For tg p B [] V) (oj wi g tb):=by
 intro c s σ H D I h;refine wpAny_For (Br (hi c s σ H _ I h) fun v s1 h1=>Br h1 fun a2 s2 h2=>?_) hs;obtain⟨it,P,tn,J,H2,e,I2,T,S,f2,W,⟨m0,w0⟩,turn⟩:=h2;subst e;have l:∀{z:Hp},(∀b∈P,z b=none)->∀b∈P,Cg X c z b:=fun hn b q=>⟨hn b q,(f2 b q).2⟩;refine codeAny_forLoop_any (fun n s'=>∃i k z,As X c k z s'/\tn i s'.heap/\(∀b∈P,z b=none)/\W i n k z) ?_ m0 ⟨0,σ,H2,I2,S,fun b q=>(f2 b q).1,w0⟩;rintro n s3 ⟨i,j,Q,I3,K,O,w3⟩;rcases turn i n j Q w3 with⟨F,qn⟩ |⟨go,N,hN,G⟩;·refine x_ M (Br (T.done X rfl rfl rfl hc i c s3 j Q X.xe I3 (l O) K F) fun r s4 ⟨Z,I4⟩=>?_);subst Z;exact vn ⟨j,Q,I4,qn⟩
 ·refine x_ M (Br (T.item X rfl rfl rfl hc i c s3 j Q X.xe I3 (l O) K go) fun r s4 ⟨u,Z,h4⟩=>?_);subst Z;refine x_ M (Br h4 fun Y s5 E=>?_);obtain⟨x,H5,I5,r5,y5,C,a0⟩:=E;have a1:=I5.pinned (l a0) (T.obj _ _ C);refine x_ M (Br (hg _ s5 j H5 x u _ a1 r5 (G x H5 y5)) fun Y s6 E=>?_);obtain⟨R,H6,I6,q6⟩:=E;refine x_ M (Br (q _ s6 R H6 _ I6 q6) fun f U A=>?_);have t:∀{a:St}{y:Hp},As X (c++MC P s5.heap) a y U->N a y->∃m,m<n/\∃i k z,As X c k z U/\tn i U.heap/\(∀b∈P,z b=none)/\W i m k z:=fun{a y} w L=>by obtain⟨m',hm,w7⟩:=hN a y L;refine⟨m',hm,i+1,a,y,w.Ik,T.keep _ _ _ C fun b q o e=>(w.pin (b,o) (yx _ (yx _ (HU q e)))).1,fun b q=>?_,w7⟩;obtain⟨o,e,d⟩:=T.obj _ _ C b q;exact(w.pin (b,o) (yx _ (yx _ (HU q e)))).2.1
  cases f with|next=>obtain⟨a,y,w,L⟩:=A;exact t w L|cont=>obtain⟨a,y,w,L⟩:=A;exact t w L|brk=>obtain⟨a,y,w,A⟩:=A;exact⟨a,y,w.Ik,A⟩ |ret v=>obtain⟨x7,a,y,w,r7,A⟩:=A;exact⟨x7,a,y,w.Ik,r7,A⟩
theorem Gz{K:Frag}{xs:List V}{g:TG}{j:TS}{D:Ends}{σ:St}{H:Hp}(b:Nat->St->Hp->Prop)(t:b 0 σ H)(o:∀i σ H,i<=xs.length->b i σ H->AJ K H a xs)(n:∀i x σ H,xs[i]?=some x->b i σ H->g x σ H fun c h=>j {D with nx:=b (i+1),ct:=b (i+1),bk:=D.nx} c h)(s:∀σ H,b xs.length σ H->D.nx σ H):∃W:Nat->Nat->St->Hp->Prop,(∃m,W 0 m σ H)/\∀i m σ H,W i m σ H->((iF K a).stop i H/\D.nx σ H)\/((iF K a).go i H/\∃N:St->Hp->Prop,(∀d f,N d f->∃k,k<m/\W (i+1) k d f)/\∀x f,(iF K a).Ul i H x f->g x σ f fun c h=>j {D with nx:=N,ct:=N,bk:=D.nx} c h):=by
 exists fun i m σ H=>m=xs.length-i/\i<=xs.length/\b i σ H,⟨xs.length,by simp,zx _,t⟩;rintro i m σ H ⟨rfl,r,p⟩;have q:=o i σ H r p;by_cases hlt:i<xs.length;·refine .inr ⟨⟨xs,xs[i],q,by simp[hlt]⟩,b (i+1),fun d f l=>⟨xs.length-(i+1),∅,rfl,hlt,l⟩,fun x f y=>?_⟩;obtain⟨e,y⟩:=y;subst e;exact n i x σ _ (y xs q) p
 ·have e:i=xs.length:=∅;subst e;exact .inl ⟨⟨xs,q,ze _⟩,s σ H p⟩
theorem WY{K:Frag}{xs:List V}{g:TG}{j:TS}{D:Ends}{σ:St}{H:Hp}(b:Nat->St->Hp->Prop)(t:b 0 σ H)(o:∀i σ H,i<=xs.length->b i σ H->Em K H a xs)(n:∀i x σ H,xs[i]?=some x->b i σ H->g x σ H fun c h=>j {D with nx:=b (i+1),ct:=b (i+1),bk:=D.nx} c h)(s:∀σ H,b xs.length σ H->D.nx σ H):∃W:Nat->Nat->St->Hp->Prop,(∃m,W 0 m σ H)/\∀i m σ H,W i m σ H->((iD K a).stop i H/\D.nx σ H)\/((iD K a).go i H/\∃N:St->Hp->Prop,(∀d f,N d f->∃k,k<m/\W (i+1) k d f)/\∀x f,(iD K a).Ul i H x f->g x σ f fun c h=>j {D with nx:=N,ct:=N,bk:=D.nx} c h):=by
 exists fun i m σ H=>m=xs.length-i/\i<=xs.length/\b i σ H,⟨xs.length,by simp,zx _,t⟩;rintro i m σ H ⟨rfl,r,p⟩;have q:=o i σ H r p;by_cases hlt:i<xs.length;·refine .inr ⟨⟨xs,xs[i],q,by simp[hlt]⟩,b (i+1),fun d f l=>⟨xs.length-(i+1),∅,rfl,hlt,l⟩,fun x f y=>?_⟩;obtain⟨e,y⟩:=y;subst e;exact n i x σ _ (y xs q) p
 ·have e:i=xs.length:=∅;subst e;exact .inl ⟨⟨xs,q,ze _⟩,s σ H p⟩
theorem GY{f:Int}{n:Nat}{g:TG}{j:TS}{D:Ends}{σ:St}{H:Hp}(c:Nat->St->Hp->Prop)(r:c 0 σ H)(o:∀i σ H,i<n->c i σ H->g (.int (f+i)) σ H fun a h=>j {D with nx:=c (i+1),ct:=c (i+1),bk:=D.nx} a h)(q:∀σ H,c n σ H->D.nx σ H):∃W:Nat->Nat->St->Hp->Prop,(∃m,W 0 m σ H)/\∀i m σ H,W i m σ H->((gI f n).stop i H/\D.nx σ H)\/((gI f n).go i H/\∃N:St->Hp->Prop,(∀b d,N b d->∃k,k<m/\W (i+1) k b d)/\∀x d,(gI f n).Ul i H x d->g x σ d fun a h=>j {D with nx:=N,ct:=N,bk:=D.nx} a h):=by
 exists fun i m σ H=>m=n-i/\i<=n/\c i σ H,⟨n,by simp,zx _,r⟩;rintro i m σ H ⟨rfl,s,p⟩;by_cases hlt:i<n;·refine .inr ⟨hlt,c (i+1),fun b d l=>⟨n-(i+1),∅,rfl,hlt,l⟩,fun x d y=>?_⟩;obtain⟨e,y⟩:=y;subst e y;exact o i σ _ hlt p
 ·have e:i=n:=∅;subst e;exact .inl ⟨ze _,q σ H p⟩
abbrev R2:=V->V->Hp->VK->Prop
def Ib(X:Cx)(f:Value->Value->Sem Value)(r:R2):Prop:=∀(a:List (Addr×Obj))(s:Shared)(σ:St)(H:Hp)(x y:V)(v u:Value)(Q:VK),As X a σ H s->AX x v->AX y u->r x y H Q->wpX X (f v u) (EP X a σ Q) X.xe s
def pJ(X:Cx)(f:Value->Sem Value)(r:V->Hp->VK->Prop):Prop:=∀(a:List (Addr×Obj))(s:Shared)(σ:St)(H:Hp)(x:V)(v:Value)(Q:VK),As X a σ H s->AX x v->r x H Q->wpX X (f v) (EP X a σ Q) X.xe s
def FH(X:Cx)(f:Value)(r:List V->Hp->VK->Prop):Prop:=∀(a:List (Addr×Obj))(s:Shared)(σ:St)(H:Hp)(xs:List V)(us:List Value)(Q:VK),As X a σ H s->AG xs us->r xs H Q->wpX X (call f us) (EP X a σ Q) X.xe s
def pK(X:Cx)(r:V->Hp->(Bool->Hp->Prop)->Prop):Prop:=∀(a:List (Addr×Obj))(s:Shared)(σ:St)(H:Hp)(x:V)(v:Value)(Q:Bool->Hp->Prop),As X a σ H s->AX x v->r x H Q->wpX X (truthy v) (TP X a σ Q) X.xe s
def Ry(r:R2)(b a:TE):TE:=fun σ H Q=>b σ H fun x d=>a σ d fun y c=>r x y c Q
def qQ(r:V->Hp->VK->Prop)(a:TE):TE:=fun σ H Q=>a σ H fun x b=>r x b Q
inductive rI(C:Int->Int->Prop)(g:Int->Int->V)(x:V)(y:V)(H:Hp)(Q:VK):Prop|mk(i j:_):x= .int i->y= .int j->C i j->Q (g i j) H->rI C g x y H Q
inductive W6(g:Int->Int->V)(x:V)(y:V)(H:Hp)(Q:VK):Prop|mk(i j:_):x= .int i->y= .int j->Q (g i j) H->W6 g x y H Q
def rU(g:Int->V):V->Hp->VK->Prop:=fun x H Q=>∃i,x= .int i/\Q (g i) H
section
variable{a b c:Expr}{tb tc:TE}{pos:Pos}
theorem kI(t:PE X a ta)(r:PE X b tb){c:List (Addr×Obj)}{σ:St}{H:Hp}{R:V->V->Hp->Prop}(I:As X c σ H s)(h:ta σ H fun x k=>tb σ k fun y e=>R x y e)(q:∀v u j x y e,As X c σ e j->AX x v->AX y u->R x y e->wpX X (f v u) Q X.xe j):wpX X (eval a X.env) (fun v i=>wpX X (eval b X.env) (fun u g=>wpX X (f v u) Q X.xe g) X.xe i) X.xe s:=by refine Br (t c s σ H _ I h) fun v l d=>?_;obtain⟨x,k,z,n,p⟩:=d;refine Br (r c l σ k _ z p) fun u j d=>?_;obtain⟨y,e,w,m,o⟩:=d;exact q v u j x y e w n m o
theorem AA{d:Operator}{r:R2}(i:Ib X (binaryOp d) r)(k:PE X a ta)(j:PE X b tb):PE X (.BinOp a d b pos) (Ry r ta tb):=by intro c s σ H Q I h;exact wpAny_BinOp (kI k j I h fun v u e x y m l g f q=>i c e σ m x y v u Q l g f q)
theorem Hr{c:UnaryOp}{r:V->Hp->VK->Prop}(g:pJ X (unaryOp c) r)(i:PE X a ta):PE X (.UnaryOp c a pos) (qQ r ta):=by intro b s σ H Q I h;exact UnaryOp_ (Br (i b s σ H _ I h) fun v d ⟨x,k,j,e,f⟩=>g b d σ k x v Q j e f)
theorem oX{C:Int->Int->Prop}{g:Int->Int->Int}(a:∀(i j:Int)(t u:Tok)(s:Shared)(Q:Value->Shared->Prop)(E:Value->Shared->Prop),C i j->Q (.int (g i j) s.toks) {s with toks:=s.toks+1}->wpX X (f (.int i t) (.int j u)) Q E s):Ib X f (rI C fun i j=> .int (g i j)):=by intro b s σ H x y v u Q I d c h;obtain⟨i,j,rfl,rfl,e,q⟩:=h;obtain⟨t,rfl⟩:=d;obtain⟨t',rfl⟩:=c;exact a i j t t' s _ _ e ⟨.int (g i j),H,I.tok _,⟨_,rfl⟩,q⟩
theorem jG{g:Int->Int->Int}(a:∀(i j:Int)(t u:Tok)(s:Shared)(Q:Value->Shared->Prop)(E:Value->Shared->Prop),Q (.int (g i j) s.toks) {s with toks:=s.toks+1}->wpX X (f (.int i t) (.int j u)) Q E s):Ib X f (W6 fun i j=> .int (g i j)):=by intro b s σ H x y v u Q I d c h;obtain⟨i,j,rfl,rfl,q⟩:=h;obtain⟨t,rfl⟩:=d;obtain⟨t',rfl⟩:=c;exact a i j t t' s _ _ ⟨.int (g i j),H,I.tok _,⟨_,rfl⟩,q⟩
theorem fq{g:Int->Int->Bool}(a:∀(i j:Int)(t u:Tok)(s:Shared)(Q:Value->Shared->Prop)(E:Value->Shared->Prop),Q (.bool (g i j)) s->wpX X (f (.int i t) (.int j u)) Q E s):Ib X f (W6 fun i j=> .bl (g i j)):=by intro b s σ H x y v u Q I d c h;obtain⟨i,j,rfl,rfl,q⟩:=h;obtain⟨t,rfl⟩:=d;obtain⟨t',rfl⟩:=c;exact a i j t t' s _ _ ⟨.bl (g i j),H,I,rfl,q⟩
def pT(i j:Int):Prop:=0<j/\j<1073741824
def kX(i j:Int):Prop:=(-(2^64)<i/\i<2^64)\/(-(2^64)<j/\j<2^64)
theorem kX.ok{i j:Int}(h:kX i j):IntMulOk i j:=by
 rcases h with⟨b,a⟩ |⟨b,a⟩;·exact .of_left (intBits_le_64 b a)
 ·exact .of_right (intBits_le_64 b a)
theorem Cf:Ib X (binaryOp .Add) (W6 fun i j=> .int (i+j)):=jG fun Y Y Y Y Y Y Y q=>add_int q
theorem Eb:Ib X (binaryOp .Sub) (W6 fun i j=> .int (i-j)):=jG fun Y Y Y Y Y Y Y q=>sub_int q
theorem Ec:Ib X (binaryOp .Mult) (rI kX fun i j=> .int (i*j)):=oX fun Y Y Y Y Y Y Y a q=>mul_int q a.ok
theorem IM:Ib X (binaryOp .FloorDiv) (rI pT fun i j=> .int (i/j)):=oX fun i j Y Y Y Y Y a q=>by have c:(0:Int)<j:=a.1;have b:j<1073741824:=a.2;exact floordiv_int ∅ (by rw[Int.fdiv_eq_ediv_of_nonneg i ∅];exact q) (.inl (sy ∅))
theorem MH:Ib X (binaryOp .Mod) (rI (fun Y j=>0<j) fun i j=> .int (i%j)):=oX fun i j Y Y Y Y Y a q=>by have b:(0:Int)<j:=a;exact mod_int' ∅ (by rw[Int.fmod_eq_emod_of_nonneg i ∅];exact q)
theorem bg:Ib X (binaryOp .BitAnd) (W6 fun i j=> .int (Builtin.bitAnd i j)):=jG fun Y Y Y Y Y Y Y q=>and_int q
theorem qP{f:Value->Sem Value}{g:Int->Int}(a:∀(i:Int)(t:Tok)(s:Shared)(Q:Value->Shared->Prop)(E:Value->Shared->Prop),Q (.int (g i) s.toks) {s with toks:=s.toks+1}->wpX X (f (.int i t)) Q E s):pJ X f (rU fun i=> .int (g i)):=by intro b s σ H x v Q I c h;obtain⟨i,rfl,q⟩:=h;obtain⟨t,rfl⟩:=c;exact a i t s _ _ ⟨.int (g i),H,I.tok _,⟨_,rfl⟩,q⟩
theorem ED:pJ X (unaryOp .USub) (rU fun i=> .int (-i)):=qP fun Y Y Y Y Y q=>neg_int q
end
def lN:V->V->Bool| .B0,.B0=>true| .B0,.int _=>true| .int _,.B0=>true| .B0,.bl _=>true| .bl _,.B0=>true| .B0,.str _=>true| .str _,.B0=>true| .int _,.int _=>true| .bl _,.bl _=>true| .str _,.str _=>true| .Rj _,.Rj _=>true| .int _,.str _=>true| .str _,.int _=>true| .bl _,.str _=>true| .str _,.bl _=>true|_,_=>false
def nM:R2:=fun x y H Q=>lN x y=true/\Q (.bl (decide (x=y))) H
def qy:R2:=fun x y H Q=>lN x y=true/\Q (.bl (!decide (x=y))) H
theorem Xi{i j:Int}:decide (V.int i=V.int j)=(i==j):=by rw[zZ];simp
theorem cR{i j:Bool}:decide (V.bl i=V.bl j)=(i==j):=by rw[zZ];simp
theorem Xh{i j:Str}:decide (V.str i=V.str j)=(i==j):=by rw[zZ];simp
theorem Xj{i j:Array UInt8}:decide (V.Rj i=V.Rj j)=(i.toList==j.toList):=by rw[zZ];cases i;cases j;simp
section
variable{a b c:Expr}{tb tc:TE}{pos:Pos}
theorem Bi{a:List (Addr×Obj)}{σ:St}{H:Hp}{Q:VK}{k b:Bool}(I:As X a σ H s)(q:Q (.bl k) H)(e:k=b):EP X a σ Q (.bool b) s:=by subst e;exact⟨.bl k,H,I,rfl,q⟩
theorem AZ:Ib X (compareOp .Eq) nM:=by
 intro d s σ H x y v u Q I c a h;obtain⟨b,q⟩:=h;cases x with
 |B0=>cases c;cases y with|B0=>cases a;exact PySem.EqNone.eq_none_none (Bi I q (by simp)) |bl j=>cases a;exact PySem.EqNone.eq_none_bool (Bi I q (by simp)) |int j=>obtain⟨t',rfl⟩:=a;exact PySem.EqNone.eq_none_int (Bi I q (by simp)) |str j=>obtain⟨t',rfl⟩:=a;exact PySem.EqNone.eq_none_str (Bi I q (by simp)) |_=>exact absurd (show false=true from b) zQ
 |bl i=>cases c;cases y with|B0=>cases a;exact PySem.EqNone.eq_bool_none (Bi I q (by simp)) |bl j=>cases a;exact eq_bool (Bi I q cR) |str j=>obtain⟨t',rfl⟩:=a;exact PySem.EqMixed.eq_bool_str (Bi I q (by simp)) |_=>exact absurd (show false=true from b) zQ
 |int i=>obtain⟨t,rfl⟩:=c;cases y with|B0=>cases a;exact PySem.EqNone.eq_int_none (Bi I q (by simp)) |int j=>obtain⟨t',rfl⟩:=a;exact eq_int (Bi I q Xi) |str j=>obtain⟨t',rfl⟩:=a;exact PySem.EqMixed.eq_int_str (Bi I q (by simp)) |_=>exact absurd (show false=true from b) zQ
 |str i=>obtain⟨t,rfl⟩:=c;cases y with|B0=>cases a;exact PySem.EqNone.eq_str_none (Bi I q (by simp)) |bl j=>cases a;exact PySem.EqMixed.eq_str_bool (Bi I q (by simp)) |int j=>obtain⟨t',rfl⟩:=a;exact PySem.EqMixed.eq_str_int (Bi I q (by simp)) |str j=>obtain⟨t',rfl⟩:=a;exact eq_str (Bi I q Xh) |_=>exact absurd (show false=true from b) zQ
 |Rj i=>obtain⟨t,rfl⟩:=c;cases y with|Rj j=>obtain⟨t',rfl⟩:=a;exact PySem.W.eq_bytes (Bi I q Xj) |_=>exact absurd (show false=true from b) zQ
 |_=>cases y<;>exact absurd (show false=true from b) zQ
theorem Hs:Ib X (compareOp .NotEq) qy:=by
 intro d s σ H x y v u Q I c a h;obtain⟨b,q⟩:=h;cases x with
 |B0=>cases c;cases y with|B0=>cases a;exact PySem.EqNone.ne_none_none (Bi I q (by simp)) |bl j=>cases a;exact PySem.EqNone.ne_none_bool (Bi I q (by simp)) |int j=>obtain⟨t',rfl⟩:=a;exact PySem.EqNone.ne_none_int (Bi I q (by simp)) |str j=>obtain⟨t',rfl⟩:=a;exact PySem.EqNone.ne_none_str (Bi I q (by simp)) |_=>exact absurd (show false=true from b) zQ
 |bl i=>cases c;cases y with|B0=>cases a;exact PySem.EqNone.ne_bool_none (Bi I q (by simp)) |bl j=>cases a;exact ne_bool (Bi I q (zT not cR)) |str j=>obtain⟨t',rfl⟩:=a;exact PySem.EqMixed.ne_bool_str (Bi I q (by simp)) |_=>exact absurd (show false=true from b) zQ
 |int i=>obtain⟨t,rfl⟩:=c;cases y with|B0=>cases a;exact PySem.EqNone.ne_int_none (Bi I q (by simp)) |int j=>obtain⟨t',rfl⟩:=a;exact ne_int (Bi I q (zT not Xi)) |str j=>obtain⟨t',rfl⟩:=a;exact PySem.EqMixed.ne_int_str (Bi I q (by simp)) |_=>exact absurd (show false=true from b) zQ
 |str i=>obtain⟨t,rfl⟩:=c;cases y with|B0=>cases a;exact PySem.EqNone.ne_str_none (Bi I q (by simp)) |bl j=>cases a;exact PySem.EqMixed.ne_str_bool (Bi I q (by simp)) |int j=>obtain⟨t',rfl⟩:=a;exact PySem.EqMixed.ne_str_int (Bi I q (by simp)) |str j=>obtain⟨t',rfl⟩:=a;exact ne_str (Bi I q (zT not Xh)) |_=>exact absurd (show false=true from b) zQ
 |Rj i=>obtain⟨t,rfl⟩:=c;cases y with|Rj j=>obtain⟨t',rfl⟩:=a;exact PySem.W.ne_bytes (Bi I q (zT not Xj)) |_=>exact absurd (show false=true from b) zQ
 |_=>cases y<;>exact absurd (show false=true from b) zQ
theorem FC:Ib X (compareOp .Lt) (W6 fun i j=> .bl (decide (i<j))):=fq fun Y Y Y Y Y Y Y q=>lt_int q
theorem a_:Ib X (compareOp .LtE) (W6 fun i j=> .bl (decide (i<=j))):=fq fun Y Y Y Y Y Y Y q=>le_int q
theorem be:Ib X (compareOp .Gt) (W6 fun i j=> .bl (decide (j<i))):=fq fun Y Y Y Y Y Y Y q=>gt_int q
theorem bf:Ib X (compareOp .GtE) (W6 fun i j=> .bl (decide (j<=i))):=fq fun Y Y Y Y Y Y Y q=>ge_int q
theorem bb:Ib X (compareOp .Is) (fun x y H Q=>y= .B0/\Q (.bl (decide (x= .B0))) H):=by intro b s σ H x y v u Q I a c h;obtain⟨rfl,q⟩:=h;cases c;refine is_none_gen (Bi I q ?_);cases x<;>first|(cases a;rfl) |(obtain⟨t,rfl⟩:=a;rfl)
theorem br(b:Expr){a:CmpOp}(h:a≠ .In:=by decide)(c:a≠ .NotIn:=by decide):behindInMarks a b=false:=by
 have e:(a==CmpOp.In)=false:=by cases a<;>first|rfl|exact absurd rfl h
 have d:(a==CmpOp.NotIn)=false:=by cases a<;>first|rfl|exact absurd rfl c
 cases b<;>simp[behindInMarks,e,d]
theorem Bo{d:CmpOp}{r:R2}(i:Ib X (compareOp d) r)(l:PE X a ta)(k:PE X b tb)(j:behindInMarks d b=false:=by exact br _):PE X (.Compare a [d] [b] pos) (Ry r ta tb):=by intro c s σ H Q I h;exact wpAny_Compare1 (kI l k I h fun v u e x y n m g f q=>i c e σ n x y v u Q m g f q) j
inductive Zq(Q:Bool->Hp->Prop)(x:V)(H':Hp):Prop|mk(k:_):x= .bl k->Q k H'->Zq Q x H'
def Ou(t:TE):TT:=fun σ H Q=>t σ H (Zq Q)
theorem Ao{f:CmpOp}{r:R2}(t:Ib X (compareOp f) r)(B:PE X a ta)(A:PE X b tb)(w:behindInMarks f b=false:=by exact br _):PT X (.Compare a [f] [b] pos) (Ou (Ry r ta tb)):=by intro d s σ H Q I h;refine qc (Br (B d s σ H _ I h) fun v j ⟨x,J,E,n,q⟩=>Br (A d j σ J _ E q) fun u i ⟨y,G,D,m,p⟩=>Br (t d i σ G x y v u _ D n m p) fun c K g=>?_) w;obtain⟨z,F,C,l,k,e,o⟩:=g;subst e;cases l;exact yT ⟨F,C,o⟩
def Zv(r f:R2)(e d c:TE):TE:=fun σ H Q=>e σ H fun x i=>d σ i fun y h=>r x y h fun z a=>∃k,z= .bl k/\(if k=true then c σ a fun b g=>f y b g Q else Q (.bl false) a)
theorem Sl{i g:CmpOp}{r n:R2}(M:Ib X (compareOp i) r)(l:Ib X (compareOp g) n)(R:PE X a ta)(P:PE X b tb)(O:PE X c tc)(N:lastMarks [i,g] [b,c]=false:=by with_unfolding_all rfl):PE X (.Compare a [i,g] [b,c] pos) (Zv r n ta tb tc):=by intro f s σ H Q I h;refine Compare_chain (Br (R f s σ H _ I h) fun v D ⟨x,Z,U,G,L⟩=>chain_link (Br (P f D σ Z _ U L) fun u C ⟨y,W,T,m,K⟩=>Br (M f C σ W x y v u _ T G m K) fun d B j=>?_)) N;obtain⟨z,q,p,F,k,e,o⟩:=j;subst e;cases F;refine yT ?_;cases k with|false=>exact ite_ff ⟨.bl false,q,p,rfl,o⟩ |true=>exact ite_tt (chain_last (Br (O f B σ q _ p o) fun w A ⟨t,V,S,E,J⟩=>l f A σ V y t u w Q S m E J))
def kQ(K:Frag)(x:V)(H:Hp)(k:Bool):Prop:=match x with| .B0=>k=false| .bl b=>k=b| .int i=>k=(i !=0) | .str y=>y.length<=sizeLine/\k=((y.length:Int) !=0) | .Rj y=>y.size<=sizeLine/\k=((y.size:Int) !=0) | .ref p=>(∃xs,AJ K H p xs/\k=!xs.isEmpty)\/(∃xs,Em K H p xs/\k=!xs.isEmpty)\/∃a,H p=some (.dK a)/\k=!a.isEmpty|_=>False
theorem Vk{b:Type}{a:List (b×V)}{c:List (b×Value)}(r:KV a c):(!c.isEmpty)=!a.isEmpty:=by cases r<;>rfl
theorem Nd{xs:List V}{a:List Value}(r:AG xs a):(!a.toArray.isEmpty)=!xs.isEmpty:=by cases r<;>simp
theorem Gj:(sizeLine:Nat)<2^63:=by rw[uO];decide
theorem iO:pK X (fun x H Q=>∃k,kQ X.K x H k/\Q k H):=by
 intro n s σ H x v Q I f h;obtain⟨k,e,q⟩:=h;have A:=Gj;have z:sizeLine=16777216:=uO;cases x with
 |B0=>cases f;have a:k=false:=e;subst a;exact truthy_none ⟨H,I,q⟩
 |bl b=>cases f;have a:k=b:=e;subst a;exact yT ⟨H,I,q⟩
 |int i=>obtain⟨t,rfl⟩:=f;have a:k=(i !=0):=e;subst a;exact PySem.P.truthy_int ⟨H,I,q⟩
 |str y=>obtain⟨t,rfl⟩:=f;obtain⟨u,a⟩:y.length<=sizeLine/\k=((y.length:Int) !=0):=e;subst a;exact PySem.P.truthy_str ∅ ⟨H,I.tok _,q⟩
 |Rj y=>obtain⟨t,rfl⟩:=f;obtain⟨u,a⟩:y.size<=sizeLine/\k=((y.size:Int) !=0):=e;subst a;exact PySem.W.truthy_bytes ∅ ⟨H,I.tok _,q⟩
 |ref p=>
  cases f;have a:(∃xs,AJ X.K H p xs/\k=!xs.isEmpty)\/(∃xs,Em X.K H p xs/\k=!xs.isEmpty)\/∃c,H p=some (.dK c)/\k=!c.isEmpty:=e;rcases a with⟨xs,g,a⟩ |⟨xs,g,a⟩ |⟨c,g,a⟩;·subst a;obtain⟨l,r,pl,o⟩:=I.list g;have d:=r.length;exact wpAny_truthy_list pl.isList (by simp only[zI];lia) ⟨H,I.tok _,by rw[Nd r];exact q⟩
  ·subst a;obtain⟨l,r,pl,o⟩:=I.tuple g;have d:=r.length;exact truthy_tuple pl (by simp only[zI];lia) ⟨H,I.tok _,by rw[Nd r];exact q⟩
  ·subst a;obtain⟨o,w,j,r,m⟩:c.length<=sizeLine/\(p==sysModules)=false/\∃j,KV c j/\s.heap.DictOf (BN X.prog X.w) p j:=I.Bx p _ g;have d:c.length=j.length:=zE r;exact wpAny_truthy_dict w m ∅ ⟨H,I.tok _,by rw[Vk r];exact q⟩
 |_=>exact(show False from e).elim
theorem IH(j:PE X a ta)(i:∀b,isTrue a X.env b=(do
 let v<-b
 standAt a.pos
 holding [v] (truthy v))):PT X a (fun σ H Q=>ta σ H fun x d=>∃k,kQ X.K x d k/\Q k d):=by intro c s σ H Q I h;exact isTrue_plain (Br (j c s σ H _ I h) fun v e ⟨x,m,l,f,g⟩=>iO c e σ m x v Q l f g) (i _)
theorem Ee:Ib X (binaryOp .Add) (fun x y H Q=>∃i j,x= .str i/\y= .str j/\i.length+j.length<=sizeLine/\Q (.str (i++j)) H):=by intro a s σ H x y v u Q I c b h;obtain⟨i,j,rfl,rfl,d,q⟩:=h;obtain⟨t,rfl⟩:=c;obtain⟨t',rfl⟩:=b;exact add_str (fun t' e=>⟨.str (i++j),H,I.tok _,⟨_,rfl⟩,q⟩) d
theorem SO:Ib X (inplaceOp .Add) (fun x y H Q=>∃i j,x= .str i/\y= .str j/\i.length+j.length<=sizeLine/\Q (.str (i++j)) H):=by intro a s σ H x y v u Q I c b h;obtain⟨i,j,rfl,rfl,d,q⟩:=h;obtain⟨t,rfl⟩:=c;obtain⟨t',rfl⟩:=b;exact iadd_str (fun t' e=>⟨.str (i++j),H,I.tok _,⟨_,rfl⟩,q⟩) d
theorem vals1{x:V}(r:AG [x] us):∃u,us=[u]/\AX x u:=by cases r with|cons b a=>cases a;exact⟨_,rfl,b⟩
theorem QU:FH X (.type "str") (fun xs H Q=>∃i,xs=[.int i]/\i.natAbs.log2<1920/\Q (.str (toString i)) H):=by intro a s σ H xs us Q I r h;obtain⟨i,rfl,b,q⟩:=h;obtain⟨u,rfl,t,rfl⟩:=vals1 r;exact PySem.P.str_of_int b ⟨.str _,H,I.tok _,⟨_,rfl⟩,q⟩
theorem Ub:FH X (.builtin "ord") (fun xs H Q=>∃x,xs=[.str x]/\x.length=1/\Q (.int (x.cps.getD 0 0:Nat)) H):=by intro a s σ H xs us Q I r h;obtain⟨x,rfl,b,q⟩:=h;obtain⟨u,rfl,t,rfl⟩:=vals1 r;exact ord_of_one b ⟨.int _,H,I.tok _,⟨_,rfl⟩,q⟩
end
structure VO(h:Heap)(x dx C:Addr)(mA:Str->Option Value):Prop where
 obj:h.get? x=some (instObj C dx)
 ns:h.Ns1 dx mA
 ne:dx≠x
theorem Ph{h:Heap}{i:Addr}{f:Str->Option Value}(n:h.Ns1 i f):∃d,h.get? i=some d/\∀b,lookIn b d=some (f b):=by
 obtain⟨o,g,s,k,p,m,Y,l⟩:=n;refine⟨o,k,fun b=>?_⟩;have e:=l b;unfold nsFind findBy at e;rw[<-Array.find?_toList]at e;unfold lookIn;rw[p];cbv;split;·rename_i y q;rw[q]at e;exact zT some e
 ·rename_i q;rw[q]at e;have a:g.toList.any (·.refKey)=false:=by rw[rP];intro y j;obtain⟨z,t,c⟩:=m y (Array.mem_toList_iff.mp j);simp[DictEntry.refKey,c]
  have r:¬g.toList.any (·.refKey)=true:=by rw[a];exact zQ
  rw[zb r];exact zT some e
theorem VO.look{h:Heap}{x d:Addr}{c:Str->Option Value}(I:VO h x d C c):∃b,PySem.W.InstAt h x (instObj C d) C (some b)/\∀a,lookIn a b=some (c a):=let⟨b,ho,hl⟩:=Ph I.ns;⟨b,⟨I.obj,rfl,rfl,ho⟩,hl⟩
section
variable{w:World}{K:Frag}{x dx f:Addr}{mA:Str->Option Value}{name:Str}{v:Value}
theorem get_map{a:Bool}(X:K.In s.heap)(I:VO s.heap x dx C mA)(f:plainGet K C name=true)(e:hasDictIn K C=true)(g:findIn K (.ref C) name=some none)(c:mA name=some v)(b:handedIn v=true)(h:Q v {s with toks:=s.toks+1}):wpAny (model prog w) A (getAttr (.ref x) name a) Q E s:=by obtain⟨i,J,d⟩:=I.look;exact PySem.W.get_value X J (uy f).1 (rh e g rfl (by rw[d,c])) b h
theorem cv{Q:Value×List Value->Shared->Prop}(X:K.In s.heap)(I:VO s.heap x dx C mA)(a:plainGet K C name=true)(g:findIn K (.ref C) name=some (some (.ref f)))(d:isFn K (.ref f)=true)(c:mA name=none)(h:Q (.ref f,[.ref x]) s):wpAny (model prog w) A (getMethod (.ref x) name pl) Q E s:=by obtain⟨b,J,e⟩:=I.look;exact PySem.W.method_fn X J (uy a).1 (uy a).2 g (zP.mp d) (by show(lookIn name b).map (·.isSome)=some false;rw[e,c];rfl) h
theorem eE{k:List Str}{Q:Unit->Shared->Prop}(X:K.In s.heap)(I:VO s.heap x dx C mA)(p:findIn K (.ref C) "__setattr__"=some (some (.builtin "object.__setattr__")))(q:plainOver K C=true)(n:takerIn K C name=some none)(t:hasDictIn K C=true)(m:PySem.Within mA k)(o:k.length<=sizeLine)(h:∀e,VO e x dx C (fun y=>if y=name then some v else mA y)->Heap.SameBut dx s.heap e->Q () {s with heap:=e,toks:=s.toks+2}):wpAny (model prog w) A (setAttr (.ref x) name v) Q E s:=by obtain⟨D,J,G⟩:=I.look;refine rL X J p (PySem.W.osa_open (s:={s with toks:=s.toks+1}) (r:=none) X J q n fun b=>?_);obtain⟨H,u,i⟩:=uX t;have l:s.heap.get? x=some ⟨.ref C,some dx,.plain,#[]⟩:=I.obj;refine za (zr (za (za (sP l (za (Looks.here (s:={s with toks:=s.toks+1}) (vb X u) ?_))))));rw[i];refine zr (a:=some dx) (za (zr (za ?_)));refine wpAny_nsSet1 (s:={s with toks:=s.toks+1}) I.ns fun e d c=>?_;obtain⟨F,z,B,f,g,j⟩:=d.count (rK name v m);refine za (wpAny_lookBehind f (by rw[g];exact pastItsLine_dict (z_ j (by rw[zm];lia))) ?_);exact zr (h _ ⟨(c.2 _ (zN I.ne)).trans I.obj,d,I.ne⟩ c)
theorem bJ{R:Result->Shared->Prop}{a:List Value}{b:List (Str×Value)}(X:K.In s.heap)(c:makesIn K C=true)(e:findIn K (.ref C) "__init__"=some (some (.ref f)))(i:typeIn K (.ref f)=some (.type "function"))(h:codeAny (model prog w) (A.under (.builtin "type.__call__" ⟨.ref C::a,b⟩)) (.call (.ref f) ⟨.ref (s.heap.objs.size+1)::a,b⟩) (InitBack (s.heap.objs.size+1) R) {s with heap:=(s.heap.push emptyDict).push (instObj C s.heap.objs.size)}):codeAny (model prog w) A (.call (.ref C) ⟨a,b⟩) R s:=by obtain⟨j,g,d,t,os⟩:=s;exact PySem.W.make_core (PySem.W.makes_of X c) (xB X e) (fun self=>qe X self i) (.inl rfl) h
end
def By(f:Str)(v:V):List (Str×V)->List (Str×V) |[]=>[(f,v)] |(g,x)::r=>if g=f then(g,v)::r else(g,x)::By f v r
theorem Gi(f g:Str)(v:V):∀b:List (Str×V),(By f v b).lookup g=if g=f then some v else b.lookup g
|[]=>by
 show List.lookup g [(f,v)]=_;by_cases h:g=f;·have a:(g==f)=true:=zP.mpr h;simp only[List.lookup,a,zc h]
 ·have a:(g==f)=false:=zL.mpr h;simp only[List.lookup,a,zb h]
|(k,x)::r=>by
 have c:=Gi f g v r;rw[show By f v ((k,x)::r)=(if k=f then(k,v)::r else(k,x)::By f v r)from rfl];by_cases hk:k=f
 ·rw[zc hk];by_cases h:g=k;·have a:(g==k)=true:=zP.mpr h;simp only[List.lookup,a,zc (h.trans hk)]
  ·have a:(g==k)=false:=zL.mpr h;simp only[List.lookup,a,zb (fun e:g=f=>h (e.trans hk.symm))]
 ·rw[zb hk];by_cases h:g=k;·have a:(g==k)=true:=zP.mpr h;simp only[List.lookup,a,zb (fun e:g=f=>hk (h.symm.trans e))]
  ·have a:(g==k)=false:=zL.mpr h;simp only[List.lookup,a];exact c
theorem JU(f:Str)(v:V):∀a:List (Str×V),f∈(By f v a).map (·.1)/\∀g,g∈a.map (·.1)->g∈(By f v a).map (·.1)
|[]=>⟨by simp[By],fun g h=>by simp at h⟩
|(k,x)::r=>by
 obtain⟨c,b⟩:=JU f v r;rw[show By f v ((k,x)::r)=(if k=f then(k,v)::r else(k,x)::By f v r)from rfl];by_cases hk:k=f;·rw[zc hk];subst hk;exact⟨by simp,fun g h=>‹h›⟩
 ·rw[zb hk];refine⟨?_,fun g h=>?_⟩;·rw[zH];exact zg _ c
  ·rw[zH]at h|-;rcases zw.mp h with e|e;·exact zw.mpr (.inl e)
   ·exact zg _ (b g e)
theorem Gm(f:Str)(v:V):∀a:List (Str×V),(By f v a).length<=a.length+1
|[]=>by simp[By]
|(k,x)::r=>by
 have b:=Gm f v r;rw[show By f v ((k,x)::r)=(if k=f then(k,v)::r else(k,x)::By f v r)from rfl];by_cases hk:k=f;·rw[zc hk,zm,zm];lia
 ·rw[zb hk,zm,zm];lia
theorem FL.some_of{v:V}{o:Option Value}(r:FL (some v) o):∃u,o=some u/\AX v u:=by cases o with|none=>exact(show False from r).elim|some u=>exact⟨u,rfl,r⟩
theorem FL.none_of{o:Option Value}(r:FL none o):o=none:=by cases o with|none=>rfl|some u=>exact(show False from r).elim
theorem Px{v:V}(r:AX v u):handedIn u=true:=by cases v with|B0=>cases(show u=Value.none from r);rfl|bl b=>cases(show u=Value.bool b from r);rfl|int i=>obtain⟨t,e⟩:=(show∃t,u=Value.int i t from r);cases e;rfl|str x=>obtain⟨t,e⟩:=(show∃t,u=Value.str x t from r);cases e;rfl|Rj b=>obtain⟨t,e⟩:=(show∃t,u=Value.bytes b t from r);cases e;rfl|nU b=>obtain⟨t,e⟩:=(show∃t,u=Value.float b t from r);cases e;rfl|ref a=>cases(show u=Value.ref a from r);rfl|ty n=>cases(show u=Value.type n from r);rfl
section
variable{P:Program}{w:World}{H H':Hp}{h h':Heap}{dx:Addr}{fs fs':List (Str×V)}
theorem Q3(c:FN P w H h)(e:H a=some (.ins C dx fs)):∃b,VO h a dx C b/\(∀f,FL (fs.lookup f) (b f))/\PySem.Within b (fs.map (·.1))/\fs.length<=1000/\H dx=some (.own a):=by obtain⟨d,z,i,g,b,n,r,q⟩:=(show B7 P w H h a (.ins C dx fs)from c a _ e);exact⟨b,⟨g,n,i⟩,r,q,z,d⟩
end
structure Rl(K:Frag)(C:Addr):Prop where
 pg:plainGet K C Str.empty=true
 hd:hasDictIn K C=true
 po:plainOver K C=true
 sa:findIn K (.ref C) "__setattr__"=some (some (.builtin "object.__setattr__"))
theorem Rl.get{K:Frag}(c:Rl K C)(f:Str):plainGet K C f=true:=c.pg
def Bm(K:Frag)(C:Addr)(f:Str):Prop:=findIn K (.ref C) f=some none
theorem Bm.lC{K:Frag}{f:Str}(n:Bm K C f):takerIn K C f=some none:=by unfold takerIn;rw[show findIn K (.ref C) f=some none from n];rfl
structure N8(K:Frag)(C:Addr)(m:Str)(f:Addr):Prop where
 at_:findIn K (.ref C) m=some (some (.ref f))
 fn:isFn K (.ref f)=true
 kp:keepIn K (.ref f)=true
section
variable{σ:St}{H:Hp}{dx:Addr}{fs:List (Str×V)}{f:Str}{v:V}
theorem Nn{b:Bool}(I:As X pins σ H s)(e:H a=some (.ins C dx fs))(c:Rl X.K C)(n:Bm X.K C f)(l:fs.lookup f=some v)(h:∀u d,As X pins σ H d->AX v u->Q u d):wpAny (model X.prog X.w) A (getAttr (.ref a) f b) Q E s:=by obtain⟨i,O,r,Y,Y,Y⟩:=Q3 I.Bx e;obtain⟨u,j,g⟩:=FL.some_of (v:=v) (o:=i f) (by rw[<-l];exact r f);exact get_map I.Gq O (c.get f) c.hd n j (Px g) (h u _ (I.tok _) g)
theorem Nm{m:Str}{g:Addr}{Q:Value×List Value->Shared->Prop}(I:As X pins σ H s)(e:H a=some (.ins C dx fs))(c:Rl X.K C)(k:N8 X.K C m g)(l:fs.lookup m=none)(h:Q (.ref g,[.ref a]) s):wpAny (model X.prog X.w) A (getMethod (.ref a) m pl) Q E s:=by obtain⟨b,O,r,Y,Y,Y⟩:=Q3 I.Bx e;have d:b m=none:=FL.none_of (by rw[<-l];exact r m);exact cv I.Gq O (c.get m) k.at_ k.fn d h
theorem Mq{y:V}{Q:Unit->Shared->Prop}(I:As X pins σ H s)(e:H a=some (.ins C dx fs))(c:Rl X.K C)(n:Bm X.K C f)(F:fs.length<1000)(p:AX y u)(h:∀j,As X pins σ (Av H a (.ins C dx (By f y fs))) j->Q () j):wpAny (model X.prog X.w) A (setAttr (.ref a) f u) Q E s:=by
 obtain⟨k,O,r,i,Y,l⟩:=Q3 I.Bx e;have t:(fs.map (·.1)).length<=sizeLine:=by rw[z3,uO];lia
 refine eE I.Gq O c.sa c.po n.lC c.hd i t fun D d m=>h _ ?_;have w:∃o,D.get? dx=some o:=let⟨o,_,_,e',_⟩:=d.ns;⟨o,e'⟩;refine I.write (x:=a) (e:=dx) (by rw[e];exact True.intro) (.inr l) (fun b q B z=>(m.2 b B).trans z) w ?_;refine⟨by rw[Ac O.ne];exact l,?_,O.ne,d.obj,_,d.ns,fun g=>?_,fun g v=>?_⟩;·have:=Gm f y fs;lia
 ·show FL ((By f y fs).lookup g) (if g=f then some u else k g);rw[Gi];by_cases q:g=f;·rw[zc q,zc q];exact p
  ·rw[zb q,zb q];exact r g
 ·by_cases q:g=f;·rw[q];exact(JU f y fs).1
  ·refine(JU f y fs).2 g (i g fun z=>v ?_);show(if g=f then some u else k g)=none;rw[zb q];exact z
theorem As.made(I:As X pins σ H s):As X pins σ (Av (Av H s.heap.objs.size (.own (s.heap.objs.size+1))) (s.heap.objs.size+1) (.ins C s.heap.objs.size [])) {s with heap:=(s.heap.push emptyDict).push (instObj C s.heap.objs.size)}:=by
 have d:(s.heap.push emptyDict).get? s.heap.objs.size=some emptyDict:=zM s.heap rfl;have i:((s.heap.push emptyDict).push (instObj C s.heap.objs.size)).get? (s.heap.objs.size+1)=some (instObj C s.heap.objs.size):=by have:=zM (s.heap.push emptyDict) (o:=instObj C s.heap.objs.size) rfl;rwa[yk]at this
 have h:(s.heap.push emptyDict).Ns s.heap.objs.size (fun Y=>none):=⟨emptyDict,#[],_,d,rfl,(fun e g=>absurd g (by simp)),fun Y=>rfl⟩;have j:=I.laid (a:=s.heap.objs.size) (o:= .own (s.heap.objs.size+1)) (h':=s.heap.push emptyDict) (t':=s.toks) (fun b u q=>zi _ q) (ze _) ⟨_,d⟩;refine j.laid (a:=s.heap.objs.size+1) (o:= .ins C s.heap.objs.size []) (t':=s.toks) (fun b u q=>zi _ q) (uU (yk _ _)) ?_;have c:s.heap.objs.size≠s.heap.objs.size+1:=zV (yV _);refine⟨by rw[Ac c,Aa],zx _,c,i,fun Y=>none,(Heap.Ns1.of_empty h).at fun o q=>zi _ q,fun Y=>True.intro,fun y f=>absurd rfl f⟩
theorem Xm{w:World}{env:Env}{f:Str}{b:Pos}{s:Shared}(c:attributeBase e f env (eval e env)=eval e env)(h:wpAny (model prog w) A (eval e env) (fun o a=>wpAny (model prog w) A (getAttr o f true) Q E a) E s):wpAny (model prog w) A (eval (.Attribute e f b) env) Q E s:=Attribute_any_ h (by rw[arm_eval_Attribute,c])
end
inductive gT(K:Frag)(f:Str)(Q:VK)(x:V)(H1:Hp):Prop|mk(a C dx fs v:_):x= .ref a->H1 a=some (.ins C dx fs)->Rl K C->Bm K C f->fs.lookup f=some v->Q v H1->gT K f Q x H1
def U1(K:Frag)(a:TE)(f:Str):TE:=fun σ H Q=>a σ H (gT K f Q)
inductive g_(K:Frag)(f:Str)(D:Ends)(σ:St)(y:V)(x:V)(H2:Hp):Prop|mk(a C dx fs:_):x= .ref a->H2 a=some (.ins C dx fs)->Rl K C->Bm K C f->fs.length<1000->D.nx σ (Av H2 a (.ins C dx (By f y fs)))->g_ K f D σ y x H2
def oK(K:Frag)(b a:TE)(f:Str):TS:=fun D σ H=>a σ H fun y c=>b σ c (g_ K f D σ y)
def nv(X:Cx)(c:Operator)(b:V->V->Hp->VK->Prop):Prop:=∀(a:List (Addr×Obj))(s:Shared)(σ:St)(H:Hp)(x y:V)(u v:Value)(Q:VK),As X a σ H s->AX x u->AX y v->b x y H Q->wpX X (inplaceOp c u v) (EP X a σ Q) X.xe s
def eP(K:Frag)(i h:TE)(j:V->V->Hp->VK->Prop)(f:Str):TS:=fun D σ H=>i σ H fun x g=>∃a C k d v,x= .ref a/\g a=some (.ins C k d)/\Rl K C/\Bm K C f/\d.lookup f=some v/\h σ g fun y l=>j v y l fun z e=>∃c b,e a=some (.ins C c b)/\b.length<1000/\D.nx σ (Av e a (.ins C c (By f z b)))
section
variable{value:Expr}{f:Str}{pos pos' tpos:Pos}{tv:TE}
theorem Al(j:PE X e ta)(k:attributeBase e f X.env (eval e X.env)=eval e X.env:=by rfl):PE X (.Attribute e f pos) (U1 X.K ta f):=by intro b s σ H Q I h;refine Xm k (Br (j b s σ H _ I h) fun u y d=>?_);obtain⟨x,r,p,g,a,C,A,z,v,ex,m,c,n,l,q⟩:=d;subst ex;obtain rfl:u=Value.ref a:=g;exact Nn p m c n l fun t w o i=>⟨v,r,o,i,q⟩
theorem B2(r:PE X o ta)(m:PE X value tv)(p:swapsWith value (some (.Attribute o f pos')) pos.line X.env=pure false:=by rfl):PS X (.Assign [.Attribute o f pos'] value pos) (oK X.K ta tv f):=by intro b s σ H D I h;refine tT (Br (m b s σ H _ I h) fun u e ⟨y,A,z,g,q⟩=>Br (r b e σ A _ z q) fun k E d=>?_) p;obtain⟨x,J,w,i,a,C,G,F,ex,t,c,n,l,j⟩:=d;subst ex;obtain rfl:k=Value.ref a:=i;exact Mq w t c n l g fun B v=>⟨σ,_,v,j⟩
theorem DR{j:Operator}{i:V->V->Hp->VK->Prop}(K:PE X o ta)(J:PE X value tv)(e:nv X j i):PS X (.AugAssign (.Attribute o f tpos) j value pos) (eP X.K ta tv i f):=by intro b s σ H D I h;refine wpAny_AugAssign_AttributeAny (Br (K b s σ H _ I h) fun F s1 d=>?_);obtain⟨x,U,S,w,a,C,dx,fs,v,ex,M,c,n,l,q⟩:=d;subst ex;obtain rfl:F=Value.ref a:=w;refine Nn S M c n l fun u p R A=>Br (J b p σ U _ R q) fun k m ⟨y,T,Q,t,E⟩=>Br (e b m σ T v y u k _ Q A t E) fun W s4 d=>?_;obtain⟨z,H3,P,r,N,L,g,G,B⟩:=d;exact Mq P g c n G r fun Z O=>⟨σ,_,O,B⟩
def oW:V->V->Hp->VK->Prop:=fun x y H Q=>∃i j,x= .int i/\y= .int j/\Q (.int (i+j)) H
theorem JX:nv X .Add oW:=by rintro a s σ H x y u v Q I c b ⟨i,j,rfl,rfl,q⟩;obtain⟨t,rfl⟩:=(show∃t,u=Value.int i t from c);obtain⟨t',rfl⟩:=(show∃t',v=Value.int j t' from b);exact PyProof.Rows.iadd_int ⟨.int (i+j),H,I.tok _,⟨_,rfl⟩,q⟩
end
section
variable{σ:St}{H:Hp}{c:Value}{b:Bool}
end
structure AW(k:Nat)(A:Around):Prop where
 hd:A.handled=none
 dp:A.depth+3*k+5<recursionLimit
 un:A.units+16*k+200<cLine
theorem AW.mono{j k:Nat}(r:AW k A)(h:j<=k):AW j A:=⟨r.hd,by have:=r.dp;lia,by have:=r.un;lia⟩
theorem AW.deeper{k:Nat}(r:AW (k+1) A)(env:Env):AW k (A.deeper env):=⟨r.hd,by have:=r.dp;show A.depth+1+3*k+5<_;lia,by have:=r.un;show A.units+3+16*k+200<_;lia⟩
theorem AW.in1{k:Nat}(r:AW (k+1) A):AW k A.in1:=⟨r.hd,by have:=r.dp;show A.depth+3*k+5<_;lia,by have:=r.un;show A.units+1+16*k+200<_;lia⟩
theorem MS{a:List (Str×Value)}:(A.under (.builtin "type.__call__" ⟨.ref C::us,a⟩)).depth=A.depth+1:=by first|rfl|simp[Around.under,Code.weight,Code.isCreation,Code.isGuard,Code.isCaller,Code.frames,Code.isFrame,guardIds]
theorem MR{a:List (Str×Value)}:(A.under (.builtin "type.__call__" ⟨.ref C::us,a⟩)).units=A.units+1:=by first|rfl|simp[Around.under,Code.cUnits,Code.frames,Code.isFrame]
theorem AW.make{k:Nat}(r:AW (k+1) A)(C:Addr)(us:List Value)(a:List (Str×Value)):AW k (A.under (.builtin "type.__call__" ⟨.ref C::us,a⟩)):=⟨r.hd,by have:=r.dp;rw[MS];lia,by have:=r.un;rw[MR];lia⟩
theorem AW.depth{k:Nat}(r:AW k A):A.depth<recursionLimit:=by have:=r.dp;lia
theorem AW.units{k:Nat}(r:AW k A):A.units+64<cLine:=by have:=r.un;lia
def Ca:TA:=fun Y H Q=>Q [] H
def Be(b:TE)(a:TA):TA:=fun σ H Q=>b σ H fun x d=>a σ d fun xs c=>Q (x::xs) c
section
variable{te:TE}{t:TA}{pos:Pos}
theorem Ce:PA X [] Ca:=fun Y Y Y Y H Q I h=>tQ ⟨[],H,I,.nil,h⟩
theorem nO(m:PE X e te)(l:PA X es t)(k:starEach (e::es) X.env=(false,eval e X.env)::starEach es X.env:=by rfl):PA X (e::es) (Be te t):=by intro b a s σ H Q I h;rw[k];show wpAny _ _ (spliced ((false,eval e X.env)::backTo b (starEach es X.env))) _ _ s;refine vX (Br (m a s σ H _ I h) fun u d c=>?_);obtain⟨x,q,o,g,j⟩:=c;exact Br (l b a d σ q _ o j) fun us r ⟨xs,p,n,f,i⟩=>⟨x::xs,p,n,.cons g f,i⟩
def X1(t:TA):TE:=fun σ H Q=>t σ H fun xs a=>xs.length<=sizeLine/\∀p,a p=none->Q (.ref p) (Av a p (.tup xs))
def iV(t:TA):TE:=fun σ H Q=>t σ H fun xs a=>xs.length<=sizeLine/\∀p,a p=none->Q (.ref p) (Av a p (.lst xs))
theorem B3{g}(h:PA X es t):PE X (.Tuple es g pos) (X1 t):=by intro a s σ H Q I i;refine wpAny_Tuple_spliced (Br (h pos a s σ H _ I i) fun us c ⟨xs,f,d,r,z,q⟩=>⟨by rw[<-r.length];exact z,?_⟩);have j:f c.heap.objs.size=none:=d.Bx.fresh (ze _);refine⟨.ref c.heap.objs.size,Av f c.heap.objs.size (.tup xs),d.laid (t':=c.toks) (fun b u e=>zi _ e) (ze _) ?_,rfl,q _ j⟩;exact⟨z,us,r,⟨_,zM _ rfl,rfl,_,rfl⟩⟩
theorem AF(h:PA X es t):PE X (.List es pos) (iV t):=by intro a s σ H Q I g;refine wpAny_List_spliced (Br (h pos a s σ H _ I g) fun us c ⟨xs,f,d,r,z,q⟩=>⟨by rw[<-r.length];exact z,?_⟩);have i:f c.heap.objs.size=none:=d.Bx.fresh (ze _);refine⟨.ref c.heap.objs.size,Av f c.heap.objs.size (.lst xs),d.laid (t':=c.toks) (fun b u e=>zi _ e) (ze _) ?_,rfl,q _ i⟩;exact⟨z,us,0,r,zM _ rfl⟩
end
abbrev Sp:=List V->Hp->VK->XK->Prop
abbrev Ic:=List Env->Hp->Shared->XK->Value->Shared->Prop
structure Rf(P:Program)(w:World)(K:Frag)(mg:Str->Option Value)(base:Heap)(A:Around)(outer:List Env)(s:Shared)(H:Hp):Prop where
 frames:A.frames=some outer
 mod:Mod K mg base
 bs:∀b o,base.get? b=some o->s.heap.get? b=some o/\H b=none
 Zi:base.objs.size<=s.heap.objs.size
 HV:s.heap.FunFrames base outer
 dG:∀b∈Np outer,H b=none
 Bx:FN P w H s.heap
 bare:AllBare s.gens
def CE(outer:List Env)(P:Program)(w:World)(H:Hp)(s:Shared)(Q:VK)(u:Value)(a:Shared):Prop:=∃v b,a.os=s.os/\AllBare a.gens/\Un (Np outer) [] H b s.heap a.heap/\FN P w b a.heap/\AX v u/\Q v b
def CR(b:Ic)(outer:List Env)(P:Program)(w:World)(H:Hp)(s:Shared)(Q:VK)(E:XK)(r:Result)(a:Shared):Prop:=match r with| .ok (.ret u)=>CE outer P w H s Q u a| .ok _=>False| .error e=>b outer H s E e a
structure D9(P:Program)(w:World)(K:Frag)(mg:Str->Option Value)(base:Heap)(CX:Ic)(k:Nat)(f:Addr)(fd:FuncData)(ps:List Str)(sp:Sp):Prop where
 len:∀vs H Q E,sp vs H Q E->vs.length=ps.length
 run:∀(A:Around)(outer:List Env)(s:Shared)(H:Hp)(args:Args)(us:List Value)(vs:List V)(Q:VK)(E:XK),AW k A->Rf P w K mg base A outer s H->BindsTo s fd args (ps.zip us)->AG vs us->sp vs H Q E->codeAny (model P w) A (.call (.ref f) args) (CR CX outer P w H s Q E) s
theorem D9.mono{P:Program}{w:World}{K:Frag}{mg:Str->Option Value}{base:Heap}{b:Ic}{j k:Nat}{f:Addr}{a:Sp}(F:D9 P w K mg base b j f fd ps a)(h:j<=k):D9 P w K mg base b k f fd ps a:=⟨F.len,fun A outer s H args us c Q E d=>F.run A outer s H args us c Q E (d.mono h)⟩
theorem Rf.make{P:Program}{w:World}{K:Frag}{mg:Str->Option Value}{base:Heap}{outer:List Env}{H:Hp}(e:Rf P w K mg base A outer s H)(C:Addr)(us:List Value)(a:List (Str×Value)):Rf P w K mg base (A.under (.builtin "type.__call__" ⟨.ref C::us,a⟩)) outer s H:=⟨by first|exact e.frames|(simpa[Around.under,Code.envs,Code.isFrame,pushEnvs]using e.frames),e.mod,e.bs,e.Zi,e.HV,e.dG,e.Bx,e.bare⟩
section
variable{σ:St}{H:Hp}{s':Shared}
theorem As.gk(I:As X pins σ H s):Rf X.prog X.w X.K X.mg X.base X.A X.stack s H:=⟨I.ok.frames,I.ok.mod,I.bs,z_ I.ok.Zi I.sz,I.stack,I.PY,I.Bx,I.bare⟩
theorem As.after{Q:VK}(I:As X pins σ H s)(h:CE X.stack X.prog X.w H s Q u s'):EP X pins σ Q u s':=by obtain⟨v,j,os,a,f,e,r,q⟩:=h;obtain⟨i,g,d,t,c⟩:=s';obtain rfl:c=s.os:=os;exact⟨v,j,I.call (h':=i) (g':=g) (d':=d) (t':=t) (ch:=[]) f e a (fun b z=>absurd z (by simp)),r,q⟩
end
def Kt(c:Sp)(a:List V)(E:XK)(t:TA):TE:=fun σ H Q=>t σ H fun b d=>c (b++a) d Q E
inductive Zr(C:Addr)(m:Str)(sp:Sp)(dvs:List V)(E:XK)(t:TA)(σ:St)(Q:VK)(x:V)(H1:Hp):Prop|mk(a dx fs:_):x= .ref a->H1 a=some (.ins C dx fs)->fs.lookup m=none->(t σ H1 fun vs H2=>sp (x::(vs++dvs)) H2 Q E)->Zr C m sp dvs E t σ Q x H1
def DF(C:Addr)(m:Str)(c:Sp)(a:List V)(E:XK)(b:TE)(t:TA):TE:=fun σ H Q=>b σ H (Zr C m c a E t σ Q)
def VX(C:Addr)(e:Sp)(b:List V)(E:XK)(t:TA):TE:=fun σ H Q=>t σ H fun d c=>∀x a,c x=none->c a=none->a≠x->e (.ref x::(d++b)) (Av (Av c a (.own x)) x (.ins C a [])) (fun v f=>v= .B0/\Q (.ref x) f) E
def Bn(K:Frag)(fd:FuncData)(ps:List Str)(a:List Value):Prop:=∀(s:Shared)(us:List Value),K.In s.heap->(us++a).length=ps.length->BindsTo s fd ⟨us,[]⟩ (ps.zip (us++a))
theorem Bn.all{K:Frag}(h:∀us:List Value,us.length=ps.length->bindArgs fd ⟨us,[]⟩=pure (ps.zip us)):Bn K fd ps []:=fun s us Y a=>by rw[zR]at a|-;exact .of_eq (h us a)
def Cz(c:Ic)(X:Cx)(E:XK):Prop:=∀(a:List (Addr×Obj))(σ:St)(H:Hp)(s:Shared)(e:Value)(b:Shared),As X a σ H s->c X.stack H s E e b->X.xe e b
section
variable{CX:Ic}{k:Nat}{f:Addr}{sp:Sp}{dvs:List V}{ds:List Value}{E:XK}{m:Str}{p pos:Pos}{t:TA}
theorem UI{a:List (Addr×Obj)}{σ:St}{H:Hp}{Q:VK}{vs:List V}(F:D9 X.prog X.w X.K X.mg X.base CX k f fd ps sp)(i:AW k X.A)(m:Bn X.K fd ps ds)(l:AG dvs ds)(g:Cz CX X E)(I:As X a σ H s)(r:AG vs us)(h:sp (vs++dvs) H Q E):wpX X (call (.ref f) us) (EP X a σ Q) X.xe s:=by
 have c:AG (vs++dvs) (us++ds):=r.append l;have j:(us++ds).length=ps.length:=by rw[<-c.length];exact F.len _ _ _ _ h
 refine vd (wZ (F.run X.A X.stack s H ⟨us,[]⟩ (us++ds) (vs++dvs) Q E i I.gk (m s us I.Gq j) c h) fun r d b=>?_);cases r with|error e=>exact g a σ H s e d I b|ok n=>cases n with|ret u=>exact I.after b|next=>exact False.elim b|brk=>exact False.elim b|cont=>exact False.elim b
theorem Qp(F:D9 X.prog X.w X.K X.mg X.base CX k f fd ps sp)(i:AW k X.A)(m:Gl X x)(j:X.mg x=some (.ref f))(l:keepIn X.K (.ref f)=true)(u:Bn X.K fd ps ds)(o:AG dvs ds)(g:Cz CX X E)(v:PA X (e::es) t)(c:(x==("__debug__":Str))=false:=by decide)(n:starEach (e::es) X.env=(false,eval e X.env)::starEach es X.env:=by rfl)(b:(backTo pos (starEach es X.env)).any (·.1)=false:=by rfl):PE X (.Call (.Name x p) (e::es) [] pos) (Kt sp dvs E t):=by intro a s σ H Q I h;refine yX (DL I m j ?_ c);refine xO (h₀:=X.base) I.ok.mod.dF l (Br (v pos a s σ H _ I h) fun us y ⟨w,z,d,r,q⟩=>⟨d.Gq,?_⟩) n b;exact UI F i u o g d r q
theorem IK(G:PE X o ta)(c:Rl X.K C)(n:N8 X.K C m f)(F:D9 X.prog X.w X.K X.mg X.base CX k f fd ps sp)(D:AW k X.A)(K:Bn X.K fd ps ds)(J:AG dvs ds)(A:Cz CX X E)(L:PA X (e::es) t)(d:starEach (e::es) X.env=(false,eval e X.env)::starEach es X.env:=by rfl)(i:(backTo pos (starEach es X.env)).any (·.1)=false:=by rfl)(B:eval (.Call (.Attribute o m apos) (e::es) [] pos) X.env=(do
 let ov<-eval o X.env
 standAt apos.atName
 let(f,first)<-holding [ov] (getMethod ov m pl)
 callWith pos f first (backTo pos (starEach (e::es) X.env)) (backToKw pos (keywordEach [] X.env))):=by rfl):PE X (.Call (.Attribute o m apos) (e::es) [] pos) (DF C m sp dvs E ta t):=by intro b s σ H Q I h;refine wR (pl:=pl) (Br (G b s σ H _ I h) fun u w g=>?_) B;obtain⟨x,N,v,y,a,R,P,ex,M,l,q⟩:=g;subst ex;obtain rfl:u=Value.ref a:=y;refine Nm v M c n l ?_;refine xO (first:=[.ref a]) (h₀:=X.base) I.ok.mod.dF n.kp (Br (L pos b w σ N _ v q) fun us O ⟨j,S,p,r,z⟩=>⟨p.Gq,?_⟩) d i;exact UI (us:= .ref a::us) (vs:= .ref a::j) F D K J A p (.cons rfl r) z
theorem ET(r:PE X o ta)(c:Rl X.K C)(g:N8 X.K C m f)(F:D9 X.prog X.w X.K X.mg X.base CX k f fd ps sp)(p:AW k X.A)(v:Bn X.K fd ps ds)(t:AG dvs ds)(j:Cz CX X E)(n:eval (.Call (.Attribute o m apos) [] [] pos) X.env=(do
 let ov<-eval o X.env
 standAt apos.atName
 let(f,first)<-holding [ov] (getMethod ov m pl)
 callWith pos f first (backTo pos (starEach [] X.env)) (backToKw pos (keywordEach [] X.env))):=by rfl):PE X (.Call (.Attribute o m apos) [] [] pos) (DF C m sp dvs E ta Ca):=by intro b s σ H Q I h;refine wR (pl:=pl) (Br (r b s σ H _ I h) fun u y d=>?_) n;obtain⟨x,B,e,i,a,A,z,ex,w,l,q⟩:=d;subst ex;obtain rfl:u=Value.ref a:=i;refine Nm e w c g l ?_;exact uB (first:=[.ref a]) e.Gq g.kp (UI (us:=[.ref a]) (vs:=[.ref a]) F p v t j e (.cons rfl .nil) q)
structure Mk(K:Frag)(C f:Addr):Prop where
 makes:makesIn K C=true
 init:findIn K (.ref C) "__init__"=some (some (.ref f))
 fn:isFn K (.ref f)=true
 kp:keepIn K (.ref C)=true
theorem RW{a:List (Addr×Obj)}{σ:St}{H:Hp}{Q:VK}{g:List V}(M:Mk X.K C f)(F:D9 X.prog X.w X.K X.mg X.base CX k f fd ps sp)(p:AW (k+1) X.A)(w:Bn X.K fd ps ds)(t:AG dvs ds)(o:Cz CX X E)(I:As X a σ H s)(r:AG g us)(h:∀x c,H x=none->H c=none->c≠x->sp (.ref x::(g++dvs)) (Av (Av H c (.own x)) x (.ins C c [])) (fun v B=>v= .B0/\Q (.ref x) B) E):wpX X (call (.ref C) us) (EP X a σ Q) X.xe s:=by
 have j:=h (s.heap.objs.size+1) s.heap.objs.size (I.Bx.fresh (wG _)) (I.Bx.fresh (ze _)) (zV (yV _));have d:=As.made (C:=C) I;have i:AG (V.ref (s.heap.objs.size+1)::(g++dvs)) (Value.ref (s.heap.objs.size+1)::(us++ds)):= .cons rfl (r.append t);have q:(Value.ref (s.heap.objs.size+1)::us++ds).length=ps.length:=by have e:=i.length;rw[F.len _ _ _ _ j]at e;exact e.symm
 refine vd (bJ (f:=f) I.Gq M.makes M.init (zP.mp M.fn) (wZ (F.run _ X.stack _ _ ⟨Value.ref (s.heap.objs.size+1)::us,[]⟩ (Value.ref (s.heap.objs.size+1)::(us++ds)) _ _ E (p.make C us []) (d.gk.make C us []) (w _ (Value.ref (s.heap.objs.size+1)::us) d.Gq q) i j) fun r l b=>?_));cases r with|error e=>exact o a σ _ _ e l d b|ok y=>cases y with|ret u=>obtain⟨v,D,A,m,z,n⟩:=d.after b;subst z;exact⟨m,⟨V.ref (s.heap.objs.size+1),D,A,rfl,n⟩⟩ |next=>exact False.elim b|brk=>exact False.elim b|cont=>exact False.elim b
theorem fi(M:Mk X.K C f)(F:D9 X.prog X.w X.K X.mg X.base CX k f fd ps sp)(i:AW (k+1) X.A)(l:Gl X x)(j:X.mg x=some (.ref C))(o:Bn X.K fd ps ds)(n:AG dvs ds)(g:Cz CX X E)(u:PA X (e::es) t)(c:(x==("__debug__":Str))=false:=by decide)(m:starEach (e::es) X.env=(false,eval e X.env)::starEach es X.env:=by rfl)(b:(backTo pos (starEach es X.env)).any (·.1)=false:=by rfl):PE X (.Call (.Name x p) (e::es) [] pos) (VX C sp dvs E t):=by intro a s σ H Q I h;refine yX (DL I l j ?_ c);refine xO (h₀:=X.base) I.ok.mod.dF M.kp (Br (u pos a s σ H _ I h) fun us w ⟨v,y,d,r,q⟩=>⟨d.Gq,?_⟩) m b;exact RW M F i o n g d r q
theorem aM(M:Mk X.K C f)(F:D9 X.prog X.w X.K X.mg X.base CX k f fd ps sp)(d:AW (k+1) X.A)(g:Gl X x)(e:X.mg x=some (.ref C))(j:Bn X.K fd ps ds)(i:AG dvs ds)(c:Cz CX X E)(a:(x==("__debug__":Str))=false:=by decide):PE X (.Call (.Name x p) [] [] pos) (VX C sp dvs E Ca):=by intro b s σ H Q I h;refine yX (DL I g e ?_ a);exact uB I.Gq M.kp (RW (us:=[]) M F d j i c I .nil h)
end
section
variable{CX:Ic}{k:Nat}{f:Addr}{ks:List Str}{sp:Sp}{E:XK}{m:Str}{p pos kpos:Pos}{kws:List Keyword}{te:TE}{t tk:TA}{nm:Option Str}
variable{g:List Value->List Value->List Value}{gV:List V->List V->List V}
end
structure Ah(N P:List Str)(sc:Scope):Prop where
 kind:sc.kind= .function:=by rfl
 co:sc.isCoroutine=false:=by rfl
 gen:sc.isGenerator=false:=by rfl
 nd:N.Nodup:=by decide+kernel
 pre:N.take P.length=P:=by rfl
 par:∀x∈P,sc.names.lookup x=some .local\/sc.names.lookup x=some .cell:=by decide+kernel
 bu:∀y∈sc.names,y.2≠ .free:=by decide+kernel
theorem PD{b:Str->Option NameKind}:∀{a:List (Str×Value)}{m:Str->Option Value},(∀v,(x,v)∉a)->bindL b a m x=m x
|[],_,_=>rfl
|(n,v)::r,m,h=>by
 unfold bindL;rw[PD fun w c=>h w (zg _ c)];split
 ·have:x≠n:=by rintro rfl;exact h v zh
  simp[this]
 ·rfl
theorem PF{b:Str->Option NameKind}:∀{a:List (Str×Value)}{m:Str->Option Value},(∀v,(x,v)∉a)->bindC b a m x=m x
|[],_,_=>rfl
|(n,v)::r,m,h=>by
 unfold bindC;rw[PF fun w c=>h w (zg _ c)];split;·rfl
 ·have:x≠n:=by rintro rfl;exact h v zh
  simp[this]
theorem Kq{a:Str->Option NameKind}{v:Value}:∀{P:List Str}{b:List Value}{i:Nat}{m:Str->Option Value},P.Nodup->P[i]?=some x->b[i]?=some v->a x=some .local->bindL a (P.zip b) m x=some v|[],_,_,_,_,h,_,_=>by simp at h|_::_,[],_,_,_,_,h,_=>by simp at h|p::P,w::b,0,m,e,d,c,f=>by simp at d c;subst d;subst c;show bindL a ((p,w)::P.zip b) m p=_;unfold bindL;rw[PD fun v g=>(xV.mp e).1 (uk g).1,zc f];simp|p::P,w::b,i+1,m,e,d,c,f=>by show bindL a ((p,w)::P.zip b) m x=_;unfold bindL;exact Kq (i:=i) (xV.mp e).2 ‹d› ‹c› f
theorem Kr{a:Str->Option NameKind}{v:Value}:∀{P:List Str}{b:List Value}{i:Nat}{m:Str->Option Value},P.Nodup->P[i]?=some x->b[i]?=some v->a x≠some .local->bindC a (P.zip b) m x=some v|[],_,_,_,_,h,_,_=>by simp at h|_::_,[],_,_,_,_,h,_=>by simp at h|p::P,w::b,0,m,e,d,c,f=>by simp at d c;subst d;subst c;show bindC a ((p,w)::P.zip b) m p=_;unfold bindC;rw[PF fun v g=>(xV.mp e).1 (uk g).1,zb f];simp|p::P,w::b,i+1,m,e,d,c,f=>by show bindC a ((p,w)::P.zip b) m x=_;unfold bindC;exact Kr (i:=i) (xV.mp e).2 ‹d› ‹c› f
def start(N:List Str)(a:List V):St:=a.map some++List.replicate (N.length-a.length) none
def Jj(c:Ic)(P:Program)(w:World)(K:Frag)(mg:Str->Option Value)(base:Heap)(N:List Str)(qual:Str)(scope:Scope)(f:Addr)(b:Value)(A:Around)(outer:List Env)(s:Shared)(H:Hp)(E:XK):Cx where
 prog:=P
 w:=w
 K:=K
 mg:=mg
 base:=base
 A:=A.deeper (envOfC qual scope s.heap.objs.size f b)
 N:=N
 s_0:=s
 H_0:=H
 env:=envOfC qual scope s.heap.objs.size f b
 outer:=outer
 stack:=envOfC qual scope s.heap.objs.size f b::outer
 ex:=[]
 calm:=true
 fn:=fun Y=>true
 pn:=[]
 xe:=fun e d=>wpAny (model P w) (A.deeper (envOfC qual scope s.heap.objs.size f b)) (leaving (envOfC qual scope s.heap.objs.size f b) e) (fun Y a=>c outer H s E e a) (fun g a=>c outer H s E g a) d
theorem Jl{a:Scope}{n:Nat}(h:a.names.lookup x=some .cell):∃c,(cellsFrom n a.names []).lookup x=some c:=by have q:=ub a.names n [] (.inl h);exact tZ.mp q
theorem Yn{J:Ic}{P:Program}{w:World}{K:Frag}{mg:Str->Option Value}{base:Heap}{f:Addr}{D:Value}{outer:List Env}{F:Shared}{H:Hp}{E:XK}{j:List V}(S:Ah N ps scope)(O:A.handled=none)(g:Rf P w K mg base A outer s H)(T:j.length=ps.length)(r:AG j us)(x:InCallC s s.heap.objs.size (bindL (envOfC qual scope s.heap.objs.size f D).kindOf (ps.zip us) fun Y=>none) (cellsFrom (s.heap.objs.size+1) scope.names []) (bindC (envOfC qual scope s.heap.objs.size f D).kindOf (ps.zip us) fun Y=>none) F):As (Jj J P w K mg base N qual scope f D A outer s H E) [] (start N j) H F:=by
 have M:ps.length<=N.length:=by have:=zT List.length S.pre;rw[zO]at this;lia
 obtain⟨C,R,rfl,I⟩:=x.done;have l:∀b:Addr,b∉(Jj J P w K mg base N qual scope f D A outer s H E).ex:=fun b z=>absurd (show b∈([]:List Addr)from z) (by simp);exists⟨g.mod,S.kind,rfl,rfl,ze _,fun y z c C d=>?_,fun y m=>?_,fun y c Y h=>?_,fun Y=>O,qu g.frames,.inr ⟨rfl,rfl⟩,fun b z=>absurd z (l b),g.bs,g.Zi,fun b Y Y=>l b,fun b z=>absurd z (l b),g.HV,g.dG⟩,rfl,g.bare,Un.kept I,⟨_,x.toInCall.ns,fun i y v C d U=>?_⟩,fun y c h=>⟨_,x.cell y c h⟩,g.Bx.fresh (ze _),fun y c h=>?_,fun p t=>absurd (show p∈([]:List (Addr×Obj))from t) (by simp),g.Bx.kept I;·exact name_of_addr x.apart (zU C) (zU d)
 ·have m:scope.names.lookup y=some .cell\/scope.names.lookup y=some .free:=m;rcases m with m|m;·exact Jl m
  ·exact absurd rfl (S.bu _ (zU m))
 ·exact wj (x.above y c (zU h))
 ·have B:i<j.length:=by
   unfold start at d;by_cases B:i<j.length;·exact B
   ·rw[yC ‹B›]at d;rw[ua]at d;split at d<;>cases d
  have Q:j[i]?=some v:=by unfold start at d;rw[yr ‹B›,z7]at d;cases e:j[i]? with|none=>rw[e]at d;cases d|some a=>rw[e]at d;cases d;rfl
  obtain⟨u,G,L⟩:=r.get Q;have t:ps[i]?=some y:=by rw[<-S.pre,vM ∅];exact C
  have o:ps.Nodup:=by rw[<-S.pre];exact S.nd.sublist (rO _ _)
  exists u,L;rcases S.par y (zf t)with k|k;·exact .inl ⟨k,Kq o t G k⟩
  ·obtain⟨c,e⟩:=Jl (n:=s.heap.objs.size+1) k;refine .inr ⟨.inl k,c,e,?_⟩;have q:=x.cell y c e;rw[Kr o t G (by show scope.names.lookup y≠_;rw[k];decide)]at q;exact q
 ·exact g.Bx.fresh (wj (x.above y c (zU h)))
 ·unfold start;show _=N.length;rw[zd,z3,yF];lia
theorem ij{F:Ic}{P:Program}{w:World}{K:Frag}{mg:Str->Option Value}{base:Heap}{k:Nat}{f:Addr}{i:Str}{c:Arguments}{d:List Stmt}{dV Z D X a ct oc:Value}{an od:Option Addr}{O:Array (Option Value)}{G:Sp}(lk:K.lookup f=some ⟨oc,od,.func (fnOf i qual c d scope dV Z D X an a ct),O⟩)(U:codeIn K a qual=true)(S:Ah N ps scope)(z:∀h H Q E,G h H Q E->h.length=ps.length)(m:∀(A:Around)(outer:List Env)(s:Shared)(H:Hp)(h:List V)(Q:VK)(E:XK),AW k (A.deeper (envOfC qual scope s.heap.objs.size f a))->G h H Q E->∃t,Rk (Jj F P w K mg base N qual scope f a A outer s H E) d t/\t {nx:=fun Y j=>Q .B0 j,rt:=Q} (start N h) H):D9 P w K mg base F (k+1) f (fnOf i qual c d scope dV Z D X an a ct) ps G:=by
 refine⟨z,fun A outer s H args us h Q E T C hb r B=>?_⟩;have hl:=z _ _ _ _ B;have KX:K.In s.heap:=C.mod.dF.keeps fun b o e=>(C.bs b o e).1;have R:s.heap.NoLimit:=C.mod.nolimit.keeps fun b o e=>(C.bs b o e).1;have l:∀y∈ps.zip us,scope.names.lookup y.1=some .local\/(scope.names.lookup y.1=some .cell/\((cellsFrom (s.heap.objs.size+1) scope.names []).lookup y.1).isSome=true):=fun⟨n,v⟩ hy=>by
  rcases S.par n (uk hy).1 with q|q;·exact .inl q
  ·exact .inr ⟨q,ub _ _ _ (.inl q)⟩
 refine qd T.depth (KX _ _ lk) rfl S.co S.gen rfl (rB KX U) (hb _ _ _ _ ?_);refine sO S.kind l fun env he W x=>?_;subst he;refine⟨R.keeps x.toInCall.keep,codeAny_func ?_⟩;obtain⟨t,ht,hq⟩:=m A outer s H h Q E (T.deeper _) B;have I:As (Jj F P w K mg base N qual scope f a A outer s H E) [] (start N h) H W:=Yn S T.hd C hl r x;refine yG (ht [] W (start N h) H _ I hq) (fun fl L p=>?_) fun e L p=>p;have fin:∀{g:St}{j:Hp}{v:V}{u:Value},As (Jj F P w K mg base N qual scope f a A outer s H E) [] g j L->AX v u->Q v j->CE outer P w H s Q u L:=fun{g j v u} J M q=>⟨v,j,J.os,J.bare,J.base,J.Bx,M,q⟩;cases fl with|ret u=>obtain⟨v,g,j,J,M,q⟩:=p;exact fin J M q|next=>obtain⟨g,j,J,q⟩:=p;exact fin (v:=V.B0) (u:=Value.none) J rfl q|brk=>obtain⟨Y,Y,Y,q⟩:=p;exact False.elim q|cont=>obtain⟨Y,Y,Y,q⟩:=p;exact False.elim q
section
variable{p pos:Pos}{t:TA}{id T:String}{r:List V->Hp->VK->Prop}
def om(r:List V->Hp->VK->Prop)(t:TA):TE:=fun σ H Q=>t σ H fun a b=>r a b Q
theorem AO(o:FH X (.builtin id) r)(l:X.mg x=none)(j:bootBuiltins x=some (.builtin id))(q:PA X (e::es) t)(m:Gl X x:=by rfl)(k:x≠"__name__":=by decide)(c:(x==("__debug__":Str))=false:=by decide)(n:starEach (e::es) X.env=(false,eval e X.env)::starEach es X.env:=by rfl)(b:(backTo pos (starEach es X.env)).any (·.1)=false:=by rfl):PE X (.Call (.Name x p) (e::es) [] pos) (om r t):=by intro a s σ H Q I h;refine yX (Gn I m l j ?_ k c);exact PyProof.Rows.callWith_builtin1 (Br (q pos a s σ H _ I h) fun us f ⟨d,v,u,g,i⟩=>o a f σ v d us Q u g i) n b
theorem JI(o:FH X (.type T) r)(m:Gl X x)(l:X.mg x=none)(j:bootBuiltins x=some (.type T))(q:PA X (e::es) t)(k:x≠"__name__":=by decide)(c:(x==("__debug__":Str))=false:=by decide)(n:starEach (e::es) X.env=(false,eval e X.env)::starEach es X.env:=by rfl)(b:(backTo pos (starEach es X.env)).any (·.1)=false:=by rfl):PE X (.Call (.Name x p) (e::es) [] pos) (om r t):=by intro a s σ H Q I h;refine yX (Gn I m l j ?_ k c);exact yK (Br (q pos a s σ H _ I h) fun us f ⟨d,v,u,g,i⟩=>o a f σ v d us Q u g i) n b
end
end L2
variable{pins:List (PySem.Addr×PySem.Obj)}{X:L2.Cx}{es:List PySem.Expr}{o:PySem.Expr}{apos:PySem.Pos}{ta:L2.TE}
namespace HT
open PySem PyProof.Rows
def lexLt:List Int->List Int->Bool|[],[]=>false|[],_::_=>true|_::_,[]=>false|x::xs,y::a=>if x=y then lexLt xs a else decide (x<y)
theorem lexLt_cons(x y:Int)(xs a:List Int):lexLt (x::xs) (y::a)=if x=y then lexLt xs a else decide (x<y):=rfl
theorem lexLt_nil_nil:lexLt [] []=false:=rfl
theorem lexLt_nil_cons(y:Int)(a:List Int):lexLt [] (y::a)=true:=rfl
theorem lexLt_cons_nil(x:Int)(xs:List Int):lexLt (x::xs) []=false:=rfl
theorem eqAt_int(A:Around)(s:Shared)(a:Int)(t:Tok)(c:Int)(u:Tok):∃e,SeqAt.EqAt A s (.int a t) (.int c u) e/\(e=true↔a=c):=⟨(a==c),SeqAt.EqAt.int_int a t c u,by simp⟩
theorem rcLt_int(A:Around)(s:Shared)(a:Int)(t:Tok)(c:Int)(u:Tok)(prog:Program)(w:World)(E:Value->Shared->Prop)(Q:Value->Shared->Prop)(h:Q (.bool (decide (a<c))) s):wpAny (model prog w) A (richCompare .Lt (.int a t) (.int c u)) Q E s:=(PyProof.Rows.lt_int h:wpAny (model prog w) A (compareOp .Lt (.int a t) (.int c u)) Q E s)
section
open PySem.SeqAt
open PySem.AutoSeq1 (wpAny_loadPart')
open PySem.MeetsSeq PySem.MeetsSeq2 PySem.MeetsSeq3
theorem NJ(l b:Addr)(i f:Array Value)(n U:Nat)(dd O:Option Addr)(T L:Array (Option Value))(I J:List Int)(S:IntsAre i.toList I)(Q:IntsAre f.toList J):Meets (Builtin.«tuple.__lt__» ⟨[.ref l,.ref b],[]⟩) (fun Y R s=>s.heap.get? l=some {cls:= .type "tuple",dict:=dd,data:= .seq i n,slots:=T}/\s.heap.get? b=some {cls:= .type "tuple",dict:=O,data:= .seq f U,slots:=L}/\R (.ok (.ret (.bool (lexLt I J)))) s):= .of_wp fun prog w A R s h=>by
 obtain⟨K,g,d,H,os⟩:=s;obtain⟨W,Z,h⟩:=h;have f2:=AutoSeq1.sub_tuple_tuple;have z1:i.size=I.length:=by rw[<-S.length];simp
 have z2:f.size=J.length:=by rw[<-Q.length];simp
 wp_walk using wQ W,wQ Z,wpAny_forIn_list _ (fun r b M=>b.1=none/\M=⟨K,g,d,H,os⟩/\∃(G F:List Value)(k m:List Int),r=G.zip F/\IntsAre G k/\IntsAre F m/\k.length+f.size=m.length+i.size/\R (.ok (.ret (.bool (lexLt k m)))) ⟨K,g,d,H,os⟩) _;case turn=>rintro⟨y,x⟩ r b M ⟨C,rfl,G,F,k,m,o,B,p,j,z⟩;cases B with|nil=>rw[List.zip_nil_left]at o;cases o|cons a t E=>cases p with|nil=>rw[List.zip_nil_right]at o;cases o|cons c u D=>rw[rD]at o;injection o with hyx hrest;injection hyx with hy hx;subst hy hx;rw[lexLt_cons]at z;simp only[zm]at j;obtain⟨e,X,v⟩:=eqAt_int A.in1 ⟨K,g,d,H,os⟩ a t c u;refine za (X prog w _ _ ?_);cases e with|true=>rw[zc (v.mp rfl)]at z;wp_walk;exact⟨rfl,rfl,_,_,_,_,hrest,E,D,∅,z⟩ |false=>rw[zb (fun q=>absurd (v.mpr q) zQ)]at z;have N:=rcLt_int A.in1 ⟨K,g,d,H,os⟩ a t c u prog w;wp_walk using N;exact⟨_,rfl,‹z›⟩
 case fin=>
  rintro⟨b1,b2⟩ M ⟨C,rfl,G,F,k,m,o,B,p,j,z⟩;simp only at C;subst C;have P:lexLt k m=decide (i.size<f.size):=by
   cases B with
   |nil=>cases p with|nil=>simp only[yQ]at j;rw[lexLt_nil_nil];exact(zo ∅).symm|cons c u V=>simp only[yQ,zm]at j;rw[lexLt_nil_cons];exact(zj ∅).symm
   |cons a t P=>cases p with|nil=>simp only[yQ,zm]at j;rw[lexLt_cons_nil];exact(zo ∅).symm|cons c u V=>rw[rD]at o;cases o
  rw[P]at z;wp_walk;exact⟨_,rfl,by simpa[Builtin.Tuple.tupleCompareSizes]using z⟩
 case h=>exact⟨rfl,rfl,i.toList,f.toList,I,J,rfl,S,Q,∅,h⟩
end
section
variable{w:World}
theorem Vg{l:Addr}{c a:Array Value}{d e:List Int}(y:IsTup s.heap l c)(C:IsTup s.heap b a)(B:IntsAre c.toList d)(z:IntsAre a.toList e)(v:A.units<cLine)(h:Q (.bool (lexLt d e)) s):wpAny (model prog w) A (compareOp .Lt (.ref l) (.ref b)) Q E s:=by obtain⟨⟨cls,D,data,t⟩,o,q,n,p⟩:=id y;obtain⟨⟨r,k,m,j⟩,f,i,u,g⟩:=id C;simp only at q p i g;subst q p i g;exact richCompare_meets_room (op:= .Lt) ⟨_,o,rfl⟩ ⟨_,f,rfl⟩ PySem.F.slot_tuple_lt PySem.F.entry_tuple_lt (PySem.F.args_tuple_lt_2 _ _) (NJ l b c a n u D k t j d e B z) ⟨o,f,show Value.bool (lexLt d e)≠Value.notImplemented/\Q (.bool (lexLt d e)) s from⟨(fun x=>nomatch x),h⟩⟩ v
def CS(n d:Nat):Option Int->Nat|none=>d|some v=>if v<0 then(v+(n:Int)).toNat else min v.toNat n
theorem IB(n d:Nat):CS n d none=d:=rfl
theorem Fo(n d k:Nat):CS n d (some (k:Int))=min k n:=by show(if(k:Int)<0 then((k:Int)+(n:Int)).toNat else min (k:Int).toNat n)=min k n;rw[zb ∅,wO]
theorem ZW(n d:Nat)(a:d<=n)(o:Option Int):CS n d o<=n:=by
 cases o with
 |none=>exact a
 |some v=>
  show(if v<0 then(v+(n:Int)).toNat else min v.toNat n)<=n;by_cases hv:v<0;·rw[zc hv];lia
  ·rw[zb hv];exact xH _ _
end
end HT
namespace L2
open PySem PySem.Spec PyProof.Rows
abbrev TO:=St->Hp->(Option Int->Hp->Prop)->Prop
def PO(X:Cx)(e:Option Expr)(t:TO):Prop:=∀(a:List (Addr×Obj))(s:Shared)(σ:St)(H:Hp)(Q:Option Int->Hp->Prop),As X a σ H s->t σ H Q->wpX X (evalPart e X.env) (fun u c=>∃o b,As X a σ b c/\IsPart u o/\Q o b) X.xe s
def dU:TO:=fun Y H Q=>Q none H
def lD(t:TE):TO:=fun σ H Q=>t σ H fun x a=>∃i,x= .int i/\Q (some i) a
theorem intsAre_of{a:List Int}:∀{us:List Value},AG (a.map V.int) us->IntsAre us a:=by induction a with|nil=>intro us r;rw[wk]at r;cases r;exact .nil|cons n a d=>intro us r;rw[zH]at r;cases r with|cons c b=>obtain⟨t,e⟩:=c;subst e;exact .cons n t (d b)
section
variable{te:TE}{lo hi:Option Expr}{tl th:TO}{pos p2:Pos}
theorem II:PO X none dU:=by intro a s σ H Q I h;rw[evalPart_none];exact zr ⟨none,H,I,.none,h⟩
theorem CY(h:PE X e te):PO X (some e) (lD te):=by intro a s σ H Q I f;rw[evalPart_some];refine Br (h a s σ H _ I f) fun u k b=>?_;obtain⟨x,j,g,c,d⟩:=b;obtain⟨i,rfl,q⟩:=d;obtain⟨t,rfl⟩:=c;exact⟨some i,j,g,.int i t,q⟩
def pL(X:Cx)(r:V->Option Int->Option Int->Hp->VK->Prop):Prop:=∀(a:List (Addr×Obj))(s:Shared)(σ:St)(H:Hp)(x:V)(v c b:Value)(e f:Option Int)(d:Addr)(Q:VK),As X a σ H s->AX x v->s.heap.IsSliceOf d c b .none->IsPart c e->IsPart b f->r x e f H Q->∃T g,typeLookup (.type T) "__getitem__"=pure (some (.builtin g))/\s.TypeIs v T/\wpX X (getItem v (.ref d)) (EP X a σ Q) X.xe s
def qR(r:V->Option Int->Option Int->Hp->VK->Prop)(te:TE)(a b:TO):TE:=fun σ H Q=>te σ H fun x e=>a σ e fun l d=>b σ d fun u c=>r x l u c Q
theorem D3{r:V->Option Int->Option Int->Hp->VK->Prop}(z:pL X r)(C:PE X e te)(A:PO X lo tl)(w:PO X hi th):PE X (.Subscript e (.Slice lo hi none p2) pos) (qR r te tl th):=by intro a s σ H Q I h;refine Subscript_ (Br (C a s σ H _ I h) fun v k d=>?_);obtain⟨x,L,J,m,p⟩:=d;refine wpAny_Slice (Br (A a k σ L _ J p) fun g j ⟨l,K,G,pl,o⟩=>Br (w a j σ K _ G o) fun f c d=>?_);obtain⟨u,i,F,t,n⟩:=d;rw[evalPart_none];refine zr ?_;have E:As X a σ i {c with heap:=c.heap.push {cls:= .type "slice",data:= .fields #[g,f,.none]}}:=F.kept (t':=c.toks) fun b M q=>zi _ q;obtain⟨T,N,D,y,B⟩:=z a {c with heap:=c.heap.push {cls:= .type "slice",data:= .fields #[g,f,.none]}} σ i x v g f l u c.heap.objs.size Q E m (Heap.IsSliceOf.new ..) pl t n;show wpX X (subscriptTail e (.Slice lo hi none p2) v (.ref c.heap.objs.size)) (EP X a σ Q) X.xe {c with heap:=c.heap.push {cls:= .type "slice",data:= .fields #[g,f,.none]}};exact tail_any (ops:=[.ref c.heap.objs.size,v]) y D B #v[]
def QR(xs:List V)(a b:Option Int):List V:=(xs.drop (HT.CS xs.length 0 a)).take (HT.CS xs.length xs.length b-HT.CS xs.length 0 a)
theorem TU(xs:List V)(a b:Option Int):(QR xs a b).length<=xs.length:=by unfold QR;rw[zO,yI];lia
end
def fW(n:Nat)(i:Int):Option Nat:=if 0<=i then(if i<n then some i.toNat else none)else if-(n:Int)<=i then some (i+n).toNat else none
def YN{a:Type}(xs:List a)(i:Int):Option a:=(fW xs.length i).bind fun j=>xs[j]?
theorem WR{n:Nat}{i:Int}{j:Nat}(h:fW n i=some j):seqIndex? i n=some j/\j<n/\ -(n:Int)<=i/\i<n:=by
 unfold fW at h;by_cases h0:0<=i
 ·rw[zc h0]at h;by_cases h1:i<n;·rw[zc h1]at h;have e:i.toNat=j:=zt h;exact⟨by rw[si h0 h1,e],∅,∅,h1⟩
  ·rw[zb h1]at h;cases h
 ·rw[zb h0]at h;by_cases h1: -(n:Int)<=i;·rw[zc h1]at h;have e:(i+n).toNat=j:=zt h;exact⟨by rw[tP ∅ h1,e],∅,h1,∅⟩
  ·rw[zb h1]at h;cases h
theorem LG{a:Type}{xs:List a}{i:Int}{v:a}(h:YN xs i=some v):∃j,seqIndex? i xs.length=some j/\xs[j]?=some v/\j<xs.length/\ -(xs.length:Int)<=i/\i<xs.length:=by unfold YN at h;cases e:fW xs.length i with|none=>rw[e]at h;cases h|some j=>rw[e]at h;obtain⟨f,d,c,b⟩:=WR e;exact⟨j,f,h,d,c,b⟩
theorem AN{a:Type}{xs:List a}{j:Nat}{v:a}(h:xs[j]?=some v):YN xs (j:Int)=some v:=by
 have b:j<xs.length:=(z8.mp h).1;have e:fW xs.length (j:Int)=some j:=by unfold fW;rw[zc ∅,zc ∅];simp
 unfold YN;rw[e];exact h
def gH(b:Expr):Prop:=∀o i,subscripted b false o i=operate [o,i] (getItem o i)
def og(X:Cx)(r:R2):Prop:=∀(c a:Expr)(b:List (Addr×Obj))(s:Shared)(σ:St)(H:Hp)(x y:V)(v u:Value)(Q:VK),As X b σ H s->AX x v->AX y u->r x y H Q->subscripted a false v u=operate [v,u] (getItem v u)->wpX X (subscriptTail c a v u) (EP X b σ Q) X.xe s
def YY(X:Cx)(b:String)(r:V->List V->Hp->VK->Prop):Prop:=∀(a:List (Addr×Obj))(s:Shared)(σ:St)(H:Hp)(x:V)(xs:List V)(v:Value)(us:List Value)(Q:VK),As X a σ H s->AX x v->AG xs us->r x xs H Q->wpX X (call (.builtin b) (v::us)) (EP X a σ Q) X.xe s
section
variable{a b:Expr}{tb:TE}{pos:Pos}
theorem Az{r:R2}(i:og X r)(k:PE X a ta)(j:PE X b tb)(g:gH b:=by exact fun Y Y=>rfl):PE X (.Subscript a b pos) (Ry r ta tb):=by intro c s σ H Q I h;exact Subscript_ (kI k j I h fun v u d x y m l f e q=>i a b c d σ m x y v u Q l f e q (g _ _))
inductive az(K:Frag)(x:V)(y:V)(H:Hp)(Q:VK):Prop|mk(p xs i v:_):x= .ref p->y= .int i->AJ K H p xs->YN xs i=some v->Q v H->az K x y H Q
inductive ay(K:Frag)(x:V)(y:V)(H:Hp)(Q:VK):Prop|mk(p xs i v:_):x= .ref p->y= .int i->Em K H p xs->YN xs i=some v->Q v H->ay K x y H Q
inductive mw(x:V)(y:V)(H:Hp)(Q:VK):Prop|mk(z i c:_):x= .str z->y= .int i->z.length<=sizeLine->YN z.cps.toList i=some c->Q (.str ⟨#[c]⟩) H->mw x y H Q
theorem AE:og X (az X.K):=by
 intro c d a s σ H x y v u Q I o n h k;obtain⟨p,xs,i,z,rfl,rfl,A,C,q⟩:=h;cases o;obtain⟨t,rfl⟩:=n;obtain⟨f,r,pl,G⟩:=I.list A;obtain⟨j,b,F,K,E,D⟩:=LG C;obtain⟨w,l,e⟩:=r.get F;have B:=r.length;have J:=Gj;have fin:EP X a σ Q w s:=⟨z,H,I,e,q⟩;by_cases h0:0<=i
 ·have g:i.toNat=j:=by rw[si h0 D]at b;exact zt b
  exact item_listR pl.isList h0 ∅ (by rw[g];simpa using l) fin k
 ·have g:(i+(f.toArray.size:Int)).toNat=j:=by rw[tP ∅ E]at b;rw[zI,<-B];exact zt b
  exact subscriptTail_builtinR (x:=w) pl.isList.typeIs slot_list_getitem.lookup (rX (Q:=fun r m=>r=w/\EP X a σ Q r m) pl.isList ∅ (by rw[zI]<;>lia) ∅ (by rw[g];simpa using l) ⟨rfl,fin⟩) k
theorem Bf:og X (ay X.K):=by intro b c a s σ H x y v u Q I g f h l;obtain⟨p,xs,i,z,rfl,rfl,m,o,q⟩:=h;cases g;obtain⟨t,rfl⟩:=f;obtain⟨k,r,pl,D⟩:=I.tuple m;obtain⟨j,B,A,J,G,F⟩:=LG o;obtain⟨w,C,d⟩:=r.get A;have n:=r.length;have E:=Gj;have fin:EP X a σ Q w s:=⟨z,H,I,d,q⟩;exact subscriptTail_builtinR (x:=w) pl.typeIs slot_tuple_getitem.lookup (getItem_tuple (j:=j) (Q:=fun r e=>r=w/\EP X a σ Q r e) pl ∅ ∅ (by rw[zI,<-n];exact B) ‹C› ⟨rfl,fin⟩) l
theorem Eh:og X mw:=by
 intro a b d s σ H x y v u Q I g f h k;obtain⟨z,i,c,rfl,rfl,A,m,q⟩:=h;obtain⟨t,rfl⟩:=g;obtain⟨t',rfl⟩:=f;obtain⟨j,e,p,C,o,n⟩:=LG m;have l:z.cps.toList.length=z.length:=by simp[Str.length]
 rw[l]at e o n;have B:=Gj;exact tail_any (sQ s z t) slot_str_getitem.lookup (getItem_str (c:=c) (by have w:decide (i< -(2^63:Int))=false:=zo ∅;have r:decide (i>=2^63)=false:=zo ∅;rw[w,r,wC]) (by rw[e];simpa using p) ⟨.str ⟨#[c]⟩,H,I.tok _,⟨_,rfl⟩,q⟩) k
theorem Ve(a:List Value)(n j:Nat)(u:Value):Obj.mapSeq (·.setIfInBounds j u) {cls:= .type "list",data:= .seq a.toArray n}={cls:= .type "list",data:= .seq (a.set j u).toArray n}:=by simp[Obj.mapSeq]
theorem As.lst{b:List (Addr×Obj)}{σ:St}{H:Hp}{p:Addr}{xs:List V}(I:As X b σ H s)(h:H p=some (.lst xs)):∃(a:List Value)(n:Nat),AG xs a/\s.heap.get? p=some {cls:= .type "list",data:= .seq a.toArray n}/\xs.length<=sizeLine:=by obtain⟨z,a,n,r,e⟩:=I.Bx p _ h;exact⟨a,n,r,e,z⟩
theorem As.jL{c:List (Addr×Obj)}{σ:St}{H:Hp}{p:Addr}{xs g:List V}{d a:List Value}{n i:Nat}{f:Obj->Obj}(I:As X c σ H s)(h:H p=some (.lst xs))(l:s.heap.get? p=some {cls:= .type "list",data:= .seq d.toArray n})(j:f {cls:= .type "list",data:= .seq d.toArray n}={cls:= .type "list",data:= .seq a.toArray i})(r:AG g a)(k:g.length<=sizeLine)(t:Nat):As X c σ (Av H p (.lst g)) {s with heap:=s.heap.update p f,toks:=t}:=by
 have e:(s.heap.update p f).get? p=some {cls:= .type "list",data:= .seq a.toArray i}:=by rw[ye f l (by rw[j]<;>rfl),j]
 refine I.write (x:=p) (e:=p) (by rw[h];trivial) (.inl rfl) (fun b u m q=>(yU _ _ (zN m)).trans q) ⟨_,e⟩ ?_;exact⟨k,a,i,r,e⟩
inductive hJ(o:V)(i:V)(v:V)(H:Hp)(Q:Hp->Prop):Prop|mk(p xs k j:_):o= .ref p->i= .int k->H p=some (.lst xs)->fW xs.length k=some j->Q (Av H p (.lst (xs.set j v)))->hJ o i v H Q
theorem set_list:kU X hJ:=by
 intro a s σ H o i v C D u Q I y z x h;obtain⟨p,xs,k,j,rfl,rfl,g,B,q⟩:=h;cases y;obtain⟨t,rfl⟩:=z;obtain⟨b,n,r,d,A⟩:=I.lst g;obtain⟨c,F,m,l⟩:=WR B;have e:=r.length;have E:=Gj;have w:As X a σ (Av H p (.lst (xs.set j v))) {s with heap:=s.heap.update p (Obj.mapSeq (·.setIfInBounds j u))}:=I.jL g d (Ve b n j u) (r.set x j) (by rw[yP];exact A) s.toks;by_cases h0:0<=k
 ·have f:k.toNat=j:=by rw[si h0 l]at c;exact zt c
  exact PySem.W.ki_setAt d h0 ∅ (by rw[zI,<-e];exact l) (by rw[f];exact⟨_,w,q⟩)
 ·have f:(k+(b.toArray.size:Int)).toNat=j:=by rw[tP ∅ m]at c;rw[zI,<-e];exact zt c
  exact PySem.W.ki_setBack d ∅ (by rw[zI,<-e];exact m) ∅ (by rw[f];exact⟨_,w,q⟩)
theorem Qc(a b:Option Int)(n:Nat):(sliceBounds a b none n).1=((HT.CS n 0 a:Nat):Int)/\(sliceBounds a b none n).2.1=((HT.CS n n b:Nat):Int)/\(sliceBounds a b none n).2.2=1:=by
 refine⟨?_,?_,rfl⟩
 ·cases a with
  |none=>simp[sliceBounds,HT.CS]
  |some i=>
   simp only[sliceBounds,HT.CS,uZ,show(1:Int)>0 by decide,xj];by_cases h:i<0;·simp only[h,xj]<;>lia
   ·simp only[h,yS]<;>lia
 ·cases b with
  |none=>simp[sliceBounds,HT.CS]
  |some i=>
   simp only[sliceBounds,HT.CS,uZ,show(1:Int)>0 by decide,xj];by_cases h:i<0;·simp only[h,xj]<;>lia
   ·simp only[h,yS]<;>lia
theorem NL(a:List Value)(b c:Option Int):slicePick a.toArray b c none=((a.drop (HT.CS a.length 0 b)).take (HT.CS a.length a.length c-HT.CS a.length 0 b)).toArray:=by obtain⟨f,e,d⟩:=Qc b c a.toArray.size;unfold slicePick;rw[f,e,d];simp only[sliceRange_one,pick_run,zI]<;>rfl
def oP(K:Frag):V->Option Int->Option Int->Hp->VK->Prop:=fun x b c H Q=>∃a xs,x= .ref a/\AJ K H a xs/\∀p,H p=none->Q (.ref p) (Av H p (.lst (QR xs b c)))
theorem ea:pL X (oP X.K):=by intro f s σ H x v t p d e u Q I i n pl j h;obtain⟨a,xs,rfl,m,q⟩:=h;cases i;obtain⟨k,r,g,l⟩:=I.list m;have c:=r.length;exists"list",_,slot_list_getitem.lookup,g.isList.typeIs;refine wpAny_getItem_list_slice g.isList n pl j .none (by simp) ?_ (by rw[zI]<;>lia);rw[NL,<-c];refine⟨.ref s.heap.objs.size,_,I.laid (t':=s.toks) (o:= .lst (QR xs d e)) (fun b w q=>zi _ q) (ze _) ?_,rfl,q _ (I.Bx.fresh (ze _))⟩;exact⟨z_ (TU xs d e) l,_,0,(r.drop (HT.CS xs.length 0 d)).take (HT.CS xs.length xs.length e-HT.CS xs.length 0 d),zM _ rfl⟩
def Hz:V->Bool| .B0=>true| .bl _=>true| .int _=>true| .str _=>true|_=>false
def ik:V->V->Bool| .B0,.B0=>true| .bl a,.bl b=>a==b| .bl a,.int b=>(if a then 1 else 0)==b| .int a,.bl b=>a==(if b then 1 else 0) | .int a,.int b=>a==b| .str a,.str b=>a==b|_,_=>false
theorem ko{y x:V}{v:Value}(d:AX y u)(c:AX x v)(f:Hz y=true)(e:Hz x=true):SeqAt.EqAt A s u v (ik y x):=by
 cases y with
 |B0=>cases d;cases x with|B0=>cases c;exact SeqAt.EqAt.same _|bl b=>cases c;exact SeqAt.EqAt.none_bool b|int b=>obtain⟨t,rfl⟩:=c;exact SeqAt.EqAt.none_int b t|str b=>obtain⟨t,rfl⟩:=c;exact SeqAt.EqAt.none_str b t|_=>exact absurd (show false=true from e) zQ
 |bl a=>cases d;cases x with|B0=>cases c;exact SeqAt.EqAt.bool_none a|bl b=>cases c;exact SeqAt.EqAt.bool_bool a b|int b=>obtain⟨t,rfl⟩:=c;exact SeqAt.EqAt.bool_int a b t|str b=>obtain⟨t,rfl⟩:=c;exact SeqAt.EqAt.bool_str a b t|_=>exact absurd (show false=true from e) zQ
 |int a=>obtain⟨t',rfl⟩:=d;cases x with|B0=>cases c;exact SeqAt.EqAt.int_none a t'|bl b=>cases c;exact SeqAt.EqAt.int_bool a t' b|int b=>obtain⟨t,rfl⟩:=c;exact SeqAt.EqAt.int_int a t' b t|str b=>obtain⟨t,rfl⟩:=c;exact SeqAt.EqAt.int_str a t' b t|_=>exact absurd (show false=true from e) zQ
 |str a=>obtain⟨t',rfl⟩:=d;cases x with|B0=>cases c;exact SeqAt.EqAt.str_none a t'|bl b=>cases c;exact SeqAt.EqAt.str_bool a t' b|int b=>obtain⟨t,rfl⟩:=c;exact SeqAt.EqAt.str_int a t' b t|str b=>obtain⟨t,rfl⟩:=c;exact SeqAt.EqAt.str_str a t' b t|_=>exact absurd (show false=true from e) zQ
 |_=>exact absurd (show false=true from f) zQ
def V2(x:V)(u:Value):Bool:=match u with| .none=>ik .B0 x| .bool b=>ik (.bl b) x| .int i _=>ik (.int i) x| .str z _=>ik (.str z) x|_=>false
theorem cJ{x y:V}(r:AX y u)(f:Hz y=true):V2 x u=ik y x:=by cases y with|B0=>cases r;rfl|bl b=>cases r;rfl|int i=>obtain⟨t,rfl⟩:=r;rfl|str z=>obtain⟨t,rfl⟩:=r;rfl|_=>exact absurd (show false=true from f) zQ
theorem Jq{x:V}:∀{xs:List V}{us:List Value},AG xs us->xs.all Hz=true->us.any (V2 x)=xs.any fun y=>ik y x|_,_,.nil,_=>rfl|y::xs,u::us,.cons r t,f=>by rw[wY,zp]at f;rw[vO,vO,cJ r f.1,Jq t f.2]
theorem Gd{x:V}{v:Value}(b:AX x v)(c:Hz x=true):∀{xs:List V}{us:List Value},AG xs us->xs.all Hz=true->∀u∈us,SeqAt.EqAt A s u v (V2 x u)
|_,_,.nil,_=>fun u a=>by cases a
|y::xs,u::us,.cons r t,f=>fun d a=>by
 rw[wY,zp]at f;rcases zw.mp a with rfl|a;·rw[cJ r f.1];exact ko r b f.1 c
 ·exact Gd b c t f.2 d a
def NC(x:V)(xs:List V):Bool:=xs.any fun y=>ik y x
def oS(K:Frag)(a:Bool):R2:=fun x y H Q=>∃p xs,y= .ref p/\(AJ K H p xs\/Em K H p xs)/\Hz x=true/\xs.all Hz=true/\Q (.bl (if a then !NC x xs else NC x xs)) H
theorem EV:Ib X (compareOp .In) (oS X.K false):=by
 intro f s σ H x y v u Q I e i h;obtain⟨p,xs,rfl,b,g,c,q⟩:=h;cases i;rcases b with b|b;·obtain⟨a,r,pl,j⟩:=I.list b;refine SeqAt.in_listAt (V2 x) pl.isList (fun w d=>Gd e g r c w ‹d›) ⟨.bl _,H,I,rfl,?_⟩;rw[show a.toArray.any (V2 x)=a.any (V2 x) by simp,Jq r c];exact q
 ·obtain⟨a,r,pl,j⟩:=I.tuple b;refine SeqAt.in_tupleAt (V2 x) pl (fun w d=>Gd e g r c w ‹d›) ⟨.bl _,H,I,rfl,?_⟩;rw[show a.toArray.any (V2 x)=a.any (V2 x) by simp,Jq r c];exact q
theorem Qr:Ib X (compareOp .NotIn) (oS X.K true):=by
 intro f s σ H x y v u Q I e i h;obtain⟨p,xs,rfl,b,g,c,q⟩:=h;cases i;rcases b with b|b;·obtain⟨a,r,pl,j⟩:=I.list b;refine SeqAt.notIn_listAt (V2 x) pl.isList (fun w d=>Gd e g r c w ‹d›) ⟨.bl _,H,I,rfl,?_⟩;rw[show a.toArray.any (V2 x)=a.any (V2 x) by simp,Jq r c];exact q
 ·obtain⟨a,r,pl,j⟩:=I.tuple b;refine SeqAt.notIn_tupleAt (V2 x) pl (fun w d=>Gd e g r c w ‹d›) ⟨.bl _,H,I,rfl,?_⟩;rw[show a.toArray.any (V2 x)=a.any (V2 x) by simp,Jq r c];exact q
theorem AV:FH X (.builtin "len") (fun xs H Q=>∃p b,xs=[.ref p]/\(AJ X.K H p b\/Em X.K H p b)/\Q (.int b.length) H):=by
 intro f s σ H xs us Q I r h;obtain⟨p,b,rfl,c,q⟩:=h;obtain⟨u,rfl,g⟩:=vals1 r;cases g;have j:=Gj;rcases c with c|c;·obtain⟨e,d,pl,i⟩:=I.list c;have a:=d.length;exact Calls.call_len_list pl.isList (by simp only[zI]<;>lia) ⟨.int b.length,H,I.tok _,⟨s.toks+1,by rw[zI,a]⟩,q⟩
 ·obtain⟨e,d,pl,i⟩:=I.tuple c;have a:=d.length;exact len_tuple pl (by simp only[zI]<;>lia) ⟨.int b.length,H,I.tok _,⟨s.toks+1,by rw[zI,a]⟩,q⟩
theorem DP:FH X (.builtin "len") (fun xs H Q=>∃z,xs=[.str z]/\z.length<=sizeLine/\Q (.int z.length) H):=by intro a s σ H xs us Q I r h;obtain⟨z,rfl,b,q⟩:=h;obtain⟨u,rfl,t,rfl⟩:=vals1 r;have c:=Gj;exact len_str ∅ ⟨.int z.length,H,I.tok _,⟨_,rfl⟩,q⟩
def pW(K:Frag)(T:String)(x:V)(H:Hp):Prop:=match x with| .str _=>T="str"| .int _=>T="int"| .ref p=>(T="list"/\∃xs,AJ K H p xs)\/(T="tuple"/\∃o,K.lookup p=some o/\o.cls= .type "tuple"/\o.dict=none)\/(T="dict"/\((∃a,H p=some (.dK a))\/∃a,H p=some (.dT a)))\/(T="set"/\∃S n,H p=some (.set S n)) |_=>False
theorem iN{d:List (Addr×Obj)}{σ:St}{H:Hp}{T:String}{x:V}{v:Value}(I:As X d σ H s)(r:AX x v)(f:pW X.K T x H):s.TypeIs v T/\∀a,v= .ref a->∃k,s.heap.get? a=some k/\k.dict=none:=by
 cases x with
 |str z=>obtain⟨t,rfl⟩:=r;cases(show T="str"from f);exact⟨sQ s z t,fun Y e=>nomatch e⟩
 |int i=>obtain⟨t,rfl⟩:=r;cases(show T="int"from f);exact⟨typeIs_int s i t,fun Y e=>nomatch e⟩
 |ref p=>
  cases r;rcases f with⟨rfl,xs,m⟩ |⟨rfl,o,b,q,h⟩ |⟨rfl,b⟩ |⟨rfl,S,n,b⟩;·obtain⟨l,Y,pl,Y⟩:=I.list m;refine⟨pl.isList.typeIs,fun a e=>?_⟩;cases e;obtain⟨o,n,e,c,h,Y⟩:=pl;exact⟨o,e,h⟩
  ·refine⟨⟨o,I.Gq p o b,q⟩,fun a e=>?_⟩;cases e;exact⟨o,I.Gq _ o b,h⟩
  ·have z:∃o,s.heap.get? p=some o/\o.ExactDict:=by
    rcases b with⟨g,b⟩ |⟨g,b⟩;·obtain⟨Y,Y,Y,Y,o,Y,Y,e,ex,Y⟩:=I.Bx p _ b;exact⟨o,e,ex⟩
    ·obtain⟨Y,Y,Y,Y,o,Y,Y,e,ex,Y⟩:=I.Bx p _ b;exact⟨o,e,ex⟩
   obtain⟨o,e,ex⟩:=z;refine⟨⟨o,e,ex.1⟩,fun a j=>?_⟩;cases j;exact⟨o,e,ex.2.1⟩
  ·obtain⟨o,Y,Y,Y,e,ex,Y⟩:=I.Bx p _ b;refine⟨⟨o,e,ex.1⟩,fun a j=>?_⟩;cases j;exact⟨o,e,ex.2.1⟩
 |_=>exact False.elim f
def p_(K:Frag)(T:String)(r:V->List V->Hp->VK->Prop)(b:TE)(t:TA):TE:=fun σ H Q=>b σ H fun x a=>pW K T x a/\t σ a fun xs c=>r x xs c Q
variable{to:TE}{t:TA}{name:Str}{cpos:Pos}{T id:String}{r:V->List V->Hp->VK->Prop}
theorem B5(z:PlainAttrs T)(slot:Slot T name id)(g:typeOf (.builtin id)=pure (.type "method_descriptor"))(C:YY X id r)(B:PE X o to)(D:PA X (e::es) t)(d:attributeBase o name X.env (eval o X.env)=eval o X.env:=by rfl)(f:((backTo cpos (starEach (e::es) X.env)).all (fun x=>!x.1)&&(backToKw cpos (keywordEach [] X.env)).all (fun x=>x.1.isSome)&&decide ((e::es).length+([]:List Keyword).length+(if([]:List Keyword).isEmpty then 0 else 1)<30))=true:=by rfl)(c:(apos.endLine==cpos.line)=true:=by rfl)(A:starEach (e::es) X.env=(false,eval e X.env)::starEach es X.env:=by rfl)(b:(backTo cpos (starEach es X.env)).any (·.1)=false:=by rfl):PE X (.Call (.Attribute o name apos) (e::es) [] cpos) (p_ X.K T r to t):=by intro a s σ H Q I h;refine wpAny_Call_method_late d f c rfl (Br (B a s σ H _ I h) fun v q i=>?_);obtain⟨x,K,l,j,n,y⟩:=i;obtain⟨F,E⟩:=iN l j n;exists T,id,z,slot,g,F,E;have k:=D cpos a q σ K _ l y;rw[A]at k|-;refine uC (by show(false||(backTo cpos (starEach es X.env)).any (·.1))=false;rw[b]<;>rfl) (qt ?_);exact Br k fun us p ⟨m,J,G,u,w⟩=>C a p σ J x m v us Q G j u w
end
def qM(X:Cx)(b:String)(r:V->List V->Hp->VK->Prop):Prop:=∀(a:List (Addr×Obj))(s:Shared)(σ:St)(H:Hp)(x:V)(xs:List V)(v:Value)(us:List Value)(Q:VK),As X a σ H s->AX x v->AG xs us->r x xs H Q->wpX X (call (.builtin b) (v::us)) (EP X a σ Q) X.xe s
theorem AG.one:∀{x:V}{us:List Value},AG [x] us->∃u,us=[u]/\AX x u|_,_,.cons r .nil=>⟨_,rfl,r⟩
theorem AG.rep{xs:List V}(h:AG xs us):∀k:Nat,AG (List.replicate k xs).flatten (List.replicate k us).flatten|0=> .nil|k+1=>by rw[yO,yO,y_,y_];exact AG.append h (AG.rep h k)
theorem foldl_rep(a:List Value):∀(k:Nat)(b:List Value),List.foldl (fun d c=>d++c) b.toArray (List.replicate k a.toArray)=(b++(List.replicate k a).flatten).toArray
|0,b=>by simp
|k+1,b=>by
 have e:b.toArray++a.toArray=(b++a).toArray:=by simp
 have f:(b++a)++(List.replicate k a).flatten=b++(List.replicate (k+1) a).flatten:=by rw[yO,y_,zX]
 rw[<-f,<-foldl_rep a k (b++a),<-e,yO,ym]
section
variable{σ:St}{H:Hp}{l:Addr}{xs ys zs:List V}
theorem As.mD{a its':List Value}{n:Nat}{f:Array Value->Array Value}(I:As X pins σ H s)(i:H l=some (.lst xs))(e:s.heap.get? l=some {cls:= .type "list",data:= .seq a.toArray n})(g:f a.toArray=its'.toArray)(c:AG ys its')(b:ys.length<=sizeLine):As X pins σ (Av H l (.lst ys)) {s with heap:=s.heap.update l (Obj.mapSeq f),toks:=t'}:=by have q:=PySem.IsL.update e f;rw[g]at q;refine I.write (x:=l) (e:=l) (by rw[i];exact we) (.inl rfl) (fun j u h d=>(yU s.heap (Obj.mapSeq f) (zN h)).trans d) ⟨_,q⟩ ?_;exact⟨b,its',_,c,q⟩
theorem As.mG{a:List Value}(I:As X pins σ H s)(c:AG ys a)(b:ys.length<=sizeLine):As X pins σ (Av H s.heap.objs.size (.lst ys)) {s with heap:=s.heap.push {cls:= .type "list",data:= .seq a.toArray},toks:=t'}:=I.laid (fun Y Y q=>zi _ q) (ze _) ⟨b,a,0,c,zM _ rfl⟩
theorem As.fresh(I:As X pins σ H s):H s.heap.objs.size=none:=I.Bx.fresh (ze _)
theorem As.Yi(I:As X pins σ H s)(b:H l=some (.lst xs)):xs.length<=sizeLine/\∃(a:List Value)(n:Nat),AG xs a/\xs.length=a.length/\s.heap.get? l=some {cls:= .type "list",data:= .seq a.toArray n}:=by obtain⟨z,a,n,r,e⟩:=I.Bx l _ b;exact⟨z,a,n,r,r.length,e⟩
theorem Ss{n:Nat}(h:n<=sizeLine):Builtin.List.listTooLong n=false:=by unfold Builtin.List.listTooLong;exact zo ∅
end
inductive W8(x:V)(vs:List V)(H:Hp)(Q:VK):Prop|mk(l xs y:_):x= .ref l->vs=[y]->H l=some (.lst xs)->xs.length<sizeLine->Q .B0 (Av H l (.lst (xs++[y])))->W8 x vs H Q
theorem Bz:qM X "list.append" W8:=by intro b s σ H x i v us Q I d f h;obtain⟨l,xs,y,rfl,rfl,c,j,q⟩:=h;cases d;obtain⟨u,rfl,g⟩:=f.one;obtain⟨z,a,n,r,k,e⟩:=I.Yi c;refine tF zW ⟨_,e,rfl⟩ F.entry_list_append (F.args_list_append_2 _ _) (PySem.list_append l a.toArray n u (by rw[zI];lia)) ⟨e,?_⟩;refine⟨.B0,_,I.mD (its':=a++[u]) c e (by simp) (r.append (.cons g .nil)) ?_,rfl,q⟩;rw[zd,List.length_singleton];lia
def fb:V->List V->Hp->VK->Prop:=fun x c H Q=>∃l b xs a,x= .ref l/\c=[.ref b]/\H l=some (.lst xs)/\H b=some (.lst a)/\xs.length+a.length<=sizeLine/\Q .B0 (Av H l (.lst (xs++a)))
theorem GP:qM X "list.extend" fb:=by
 intro g s σ H x C v us Q I j k h;obtain⟨l,b,xs,A,rfl,rfl,i,w,D,q⟩:=h;cases j;obtain⟨u,rfl,m⟩:=k.one;cases m;obtain⟨z,c,n,r,E,e⟩:=I.Yi i;obtain⟨B,a,p,o,t,y⟩:=I.Yi w;have f:c.toArray.size+a.toArray.size<=sizeLine:=by rw[zI,zI];lia
 have d:¬(!c.toArray.isEmpty&&Builtin.List.listTooLong (c.toArray.size+a.toArray.size))=true:=by rw[Ss f,vm];exact zQ
 refine tF xN ⟨_,e,rfl⟩ F.entry_list_extend (F.args_list_extend_2 _ _) (AutoSeq1.list_extend_list_list_0 l c.toArray n b a.toArray p d (by rw[zI];lia) ∅) ⟨e,y,?_⟩;refine⟨.B0,_,I.mD (its':=c++a) i e (by simp) (r.append o) ?_,rfl,q⟩;rw[zd];lia
def jz:R2:=fun x y H Q=>∃l b xs a,x= .ref l/\y= .ref b/\H l=some (.lst xs)/\H b=some (.lst a)/\xs.length+a.length<=sizeLine/\∀p,H p=none->Q (.ref p) (Av H p (.lst (xs++a)))
theorem Ed:Ib X (binaryOp .Add) jz:=by
 intro d s σ H x y v u Q I g f h;obtain⟨l,b,xs,t,rfl,rfl,k,m,B,q⟩:=h;cases g;cases f;obtain⟨z,c,n,r,C,e⟩:=I.Yi k;obtain⟨w,a,A,i,j,p⟩:=I.Yi m;refine PySem.P.add_list e p ?_ (by rw[zI,zI];lia);have o:c.toArray++a.toArray=(c++a).toArray:=by simp
 rw[o];exact⟨.ref _,_,I.mG (t':=s.toks) (r.append i) (by rw[zd];lia),rfl,q _ I.fresh⟩
def oQ:R2:=fun x y H Q=>∃l k xs,x= .ref l/\y= .int k/\H l=some (.lst xs)/\ -(2^63)<=k/\k<2^63/\xs.length*k.toNat<=sizeLine/\∀p,H p=none->Q (.ref p) (Av H p (.lst (List.replicate k.toNat xs).flatten))
theorem len_rep{a:Type}(xs:List a)(k:Nat):(List.replicate k xs).flatten.length=k*xs.length:=by induction k with|zero=>simp|succ k b=>rw[yO,y_,zd,b,wg,Nat.add_comm]
theorem Qq:Ib X (binaryOp .Mult) oQ:=by
 intro p s σ H x y v u Q I C B h;obtain⟨l,k,xs,rfl,rfl,E,J,G,w,q⟩:=h;cases C;obtain⟨t,rfl⟩:=B;obtain⟨z,b,n,r,D,e⟩:=I.Yi E;have f:b.toArray.size*k.toNat<=sizeLine:=by rw[zI,<-D];exact w
 have i:¬b.toArray.size*k.toNat>(2^63-1)/8:=by have:(sizeLine:Nat)<=(2^63-1)/8:=⋯;lia
 have g:¬(!Builtin.List.listFitsIndex k)=true:=by rw[fitsIndex_both J G];exact zQ
 have c:¬Builtin.List.listTooLong (b.toArray.size*k.toNat)=true:=by rw[Ss f];exact zQ
 have d:List.foldl (fun o j=>o++j) #[] (List.replicate (if b.toArray.isEmpty=true then 0 else k.toNat) b.toArray)=(List.replicate k.toNat b).flatten.toArray:=by
  have K:∀m:Nat,List.foldl (fun o j=>o++j) #[] (List.replicate m b.toArray)=(List.replicate m b).flatten.toArray:=fun m=>by have:=foldl_rep b m [];rw[qh]at this;exact this
  rw[K];cases b with|nil=>simp|cons a L=>rw[zb (by simp)]
 refine wpAny_binaryOp_repeat_ref (T:="list") (U:="int") ⋯ ⟨_,e,rfl⟩ (fun A=>typeIs_int A k t) noFill_list_mul F.fills_int_mul F.slot_int_rmul repeat_list F.slot_int_index.lookup (tF F.slot_int_rmul (typeIs_int s k t) F.entry_int_rmul (F.args_int_rmul_2 _ _) (int___rmul___int_list k t l b.toArray n) ⟨e,rfl,⟨_,e,rfl⟩,tF F.slot_list_mul ⟨_,e,rfl⟩ F.entry_list_mul (F.args_list_mul_2 _ _) (AutoListH.list___mul___list_int_3 l b.toArray n k t g i c) ⟨e,?_⟩⟩);rw[d];exact⟨.ref _,_,I.mG (t':=s.toks) (r.rep k.toNat) (by rw[len_rep,yh];exact w),rfl,q _ I.fresh⟩
section
variable{w:World}
end
theorem AG.ints:∀{a:List Int}{us:List Value},AG (a.map V.int) us->IntsAre us a|[],us,h=>by rw[wk]at h;cases h;exact IntsAre.nil|n::a,us,h=>by rw[zH]at h;cases h with|cons r t=>obtain⟨k,rfl⟩:=r;exact IntsAre.cons n k (AG.ints t)
theorem Ii:∀{us:List Value}{a:List Int},IntsAre us a->AG (a.map V.int) us|_,_,.nil=>by rw[wk];exact Paired.nil|_,_,.cons n t h=>by rw[zH];exact Paired.cons (show AX (V.int n) (Value.int n t)from⟨t,rfl⟩) (Ii h)
theorem AG.qC:∀{a:List Bool}{us:List Value},AG (a.map V.bl) us->us=a.map Value.bool|[],us,h=>by rw[wk]at h;cases h;rfl|b::a,us,h=>by rw[zH]at h;cases h with|cons r t=>cases r;rw[AG.qC t,zH]
theorem AG.jy(r:AG [V.ref a] us):us=[Value.ref a]:=by cases r with|cons r t=>cases t;cases r;rfl
section
variable{w:World}{l:Addr}{its:List Value}{ns:List Int}
theorem fM(r:A.handled=none)(k:s.heap.IsList l its.toArray)(m:IntsAre its ns)(g:0<ns.length)(h:∀c d M t',(∀b o,s.heap.get? b=some o->c.get? b=some o)->M∈ns->(∀a,a∈ns->a<=M)->Q (.int M t') {s with heap:=c,toks:=d}):wpAny (model prog w) A (call (.builtin "max") [.ref l]) Q E s:=by
 obtain⟨xs,e⟩:=m.allInts.items;have i:numsOf (intItems xs).toList=ns:=by rw[<-e];exact m.numsOf
 rw[nums_intItems]at i;subst i;rw[e]at k;have f:0<xs.size:=‹g›;refine PySem.max_intList r k f fun v c d n p=>?_;obtain⟨t,rfl⟩:=intItems_at n;obtain⟨y,x⟩:=argBest_gt (numAt xs) (xs.size-1);refine h c d _ t p ?_ fun a u=>?_;·rw[numAt_eq];exact PySem.getD_mem (by rw[z3,xi];lia)
 ·obtain⟨j,q,rfl⟩:=mem_getD u;rw[z3,xi]at q;rw[<-numAt_eq];exact x j ∅
end
def oR(K:Frag):List V->Hp->VK->Prop:=fun c H Q=>∃(a:Addr)(b:List Int),c=[V.ref a]/\AJ K H a (b.map V.int)/\0<b.length/\∀m,m∈b->(∀y,y∈b->y<=m)->Q (.int m) H
theorem VC(j:X.calm=true):FH X (.builtin "max") (oR X.K):=by intro c s σ H n us Q I r h;obtain⟨a,p,rfl,f,b,q⟩:=h;obtain⟨e,d,g,Y⟩:=I.list f;rw[AG.jy r];exact fM (I.ok.hd j) g.isList d.ints b fun t o m t' i l k=>⟨.int _,H,I.kept i,⟨_,rfl⟩,q m l k⟩
def eZ(K:Frag):List V->Hp->VK->Prop:=fun d H Q=>∃(a:Addr)(c:List Int),d=[V.ref a]/\AJ K H a (c.map V.int)/\c.length<64/\∀(b:List Int)(p:Addr),b.Perm c->b.Pairwise (· <=·)->H p=none->Q (.ref p) (Av H p (.lst (b.map V.int)))
theorem d_{n:Nat}(h:n<64):n<=sizeLine:=by rw[uO];lia
theorem P9:FH X (.builtin "sorted") (eZ X.K):=by
 intro i s σ H u us Q I r h;obtain⟨a,v,rfl,m,e,q⟩:=h;obtain⟨f,l,n,Y⟩:=I.list m;rw[AG.jy r];have j:=l.ints;refine PyProof.Rows.sorted_ints n.isList j (by rw[j.length];exact e) fun c b p k o=>?_;obtain⟨t,g⟩:=PyProof.Rows.sortedAll_at s.heap f c;have d:(b.map V.int).length<=sizeLine:=by rw[z3,k.length_eq];exact d_ e
 exact⟨.ref _,Av H (s.heap.objs.size+1) (.lst (b.map V.int)),I.laid (t':=s.toks) (fun Y Y=>PyProof.Rows.sortedAll_old) (wG _) ⟨d,c.toList,t,Ii p,g⟩,rfl,q b _ k o (I.Bx.fresh (wG _))⟩
theorem bV{w:World}{l:Addr}{b:Array Value}(d:s.heap.IsList l b)(h:∀a:Shared,a={s with heap:=s.heap.push {cls:= .type "list_iterator",data:= .fields #[.ref l,.int 0 0]}}->(a.heap.IsListIter s.heap.objs.size l 0/\a.heap.IsList l b)->l≠s.heap.objs.size->Q (.ref s.heap.objs.size) a):wpAny (model prog w) A (pyIter (.ref l)) Q E s:=by
 have c:l<s.heap.objs.size:=by obtain⟨Y,e,Y⟩:=d;exact zA e
 exact tO d (h _ rfl ⟨⟨_,zM _ rfl,rfl,rfl⟩,d.push _⟩ (zV c))
theorem Rw{w:World}{f:List Bool}{a:List Value}(e:a=f.map Value.bool):TruthOf prog w A (fun i v=>a.toArray[i]?=some v) (fun i=>f.getD i false):=fun i v s Q E g h=>by
 have c:a[i]?=some v:=‹g›;rw[e,z7]at c;obtain⟨b,k,rfl⟩:=zy.mp c;have j:f.getD i false=b:=by rw[z5,k]<;>rfl
 have d:Q (f.getD i false) s:=h;rw[j]at d;exact yT d
theorem all_range:∀a:List Bool,(List.range a.length).all (fun i=>a.getD i false)=a.all id|[]=>rfl|b::a=>by rw[zm,wJ,wY,List.all_map,wY,<-all_range a];all_goals rfl
def oV(K:Frag):List V->Hp->VK->Prop:=fun c H Q=>∃(a:Addr)(b:List Bool),c=[V.ref a]/\AJ K H a (b.map V.bl)/\Q (.bl (b.all id)) H
theorem kD(t:X.calm=true):FH X (.builtin "all") (oV X.K):=by
 intro g s σ H w us Q I r h;obtain⟨a,z,rfl,m,q⟩:=h;obtain⟨d,l,n,Y⟩:=I.list m;rw[AG.jy r];have i:=l.qC;refine call_all_walk (bV n.isList fun f u k e=>?_);subst u;refine⟨_,_,_,_,_,_,_,rfl,Walks.list (A:=X.A.in1) (I.ok.hd t) _ a e d.toArray,k,Rw i,fun y x p=>?_⟩;refine⟨.bl _,H,I.kept fun b o j=>p b o (fun c=>?_) (zi _ j),?_,q⟩
 ·rcases zw.mp c with v|c;·exact absurd (v▸zA j) (yW _)
  ·cases c
 ·show Value.bool _=Value.bool _;rw[<-all_range,i,zI,z3]
mutual
inductive Dp(K:Frag)(H:Hp):V->PyData->Prop|B0:Dp K H .B0 .none|bl(b:Bool):Dp K H (.bl b) (.bool b) |int(i:Int):Dp K H (.int i) (.int i) |str(x:Str):Dp K H (.str x) (.str x) |lst{a:Addr}{xs:List V}{ds:List PyData}:AJ K H a xs->NB K H xs ds->Dp K H (.ref a) (.list ds) |tup{a:Addr}{xs:List V}{ds:List PyData}:Em K H a xs->NB K H xs ds->Dp K H (.ref a) (.tuple ds)
inductive NB(K:Frag)(H:Hp):List V->List PyData->Prop|nil:NB K H [] [] |cons{v:V}{vs:List V}{d:PyData}{ds:List PyData}:Dp K H v d->NB K H vs ds->NB K H (v::vs) (d::ds)
end
section
variable{σ:St}{H:Hp}
mutual
theorem Dp.reads(I:As X pins σ H s):∀(d:PyData)(v:V)(u:Value),Dp X.K H v d->AX v u->∃as,Reads s.heap u d as
| .none,_,_,h,r=>by cases h;cases r;exact⟨_,Reads.none⟩
| .bool b,_,_,h,r=>by cases h;cases r;exact⟨_,Reads.bool b⟩
| .int i,_,_,h,r=>by cases h;obtain⟨t,rfl⟩:=r;exact⟨_,Reads.int i t⟩
| .str x,_,_,h,r=>by cases h;obtain⟨t,rfl⟩:=r;exact⟨_,Reads.str x t⟩
| .list ds,_,_,h,r=>by cases h with|lst hs ha=>cases r;obtain⟨its,rv,⟨o,n,ho,hc,_,hd⟩,_⟩:=I.list hs;obtain⟨as,hr⟩:=Dp.readsAll I ds _ its ha rv;exact⟨_,Reads.list ho hc hd hr⟩
| .tuple ds,_,_,h,r=>by cases h with|tup hs ha=>cases r;obtain⟨its,rv,⟨o,ho,hc,n,hd⟩,_⟩:=I.tuple hs;obtain⟨as,hr⟩:=Dp.readsAll I ds _ its ha rv;exact⟨_,Reads.tuple ho hc hd hr⟩
| .dict _,_,_,h,_=>by cases h
theorem Dp.readsAll(I:As X pins σ H s):∀(ds:List PyData)(vs:List V)(us:List Value),NB X.K H vs ds->AG vs us->∃as,ReadsAll s.heap us ds as|[],_,_,h,r=>by cases h;cases r;exact⟨_,ReadsAll.nil⟩ |d::ds,_,_,h,r=>by cases h with|cons h1 h2=>cases r with|cons r1 r2=>obtain⟨as,q1⟩:=Dp.reads I d _ _ h1 r1;obtain⟨bs,q2⟩:=Dp.readsAll I ds _ _ h2 r2;exact⟨_,ReadsAll.cons q1 q2⟩
end
end
def oU(K:Frag):R2:=fun x y H Q=>∃d e,Dp K H x d/\Dp K H y e/\SeqAt.shaped d=true/\SeqAt.shaped e=true/\Q (.bl (PyData.eqv d e)) H
theorem jF(k:X.A.units+64<cLine):Ib X (compareOp .Eq) (oU X.K):=by intro a s σ H x y v u Q I g f h;obtain⟨d,e,m,l,c,b,q⟩:=h;obtain⟨o,j⟩:=Dp.reads I d x v m g;obtain⟨n,i⟩:=Dp.reads I e y u l f;exact SeqAt.compareEq_shaped j i c b k ⟨.bl _,H,I,rfl,q⟩
abbrev dC(h:Heap)(c:Addr)(v:Option Value):Prop:=h.IsCell c v
def oN(scope a:Scope):Scope:={scope with names:=scope.names.map fun(n,k)=>if(k== .free&&a.kind== .function&&a.names.lookup n==some .cell)then(n,.cell)else(n,k)}
def Bu(a:List (Str×Addr)):List (Str×NameKind)->List (Str×Addr)->List (Str×Addr) |[],b=>b|(n,k)::r,b=>if k== .free then Bu a r ((n,(a.lookup n).getD 0)::b)else Bu a r b
theorem Jk(env:Env)(f:Str×NameKind->List (Str×Addr)->Sem (ForInStep (List (Str×Addr))))(g:∀n k c,f (n,k) c=if k== .free then(do
 let a<-cellOf env n
 pure (.yield ((n,a)::c)))else pure (.yield c)):∀(names:List (Str×NameKind))(b:List (Str×Addr)),(∀y∈names,y.2= .free->∃c,env.cells.lookup y.1=some c)->forIn names b f=pure (Bu env.cells names b)
|[],b,_=>by rw[tR];rfl
|(n,k)::r,b,h=>by
 rw[uo,g];have d:=fun b=>Jk env f g r b fun y j=>h y (zg _ j);unfold Bu;by_cases hk:(k==NameKind.free)=true
 ·rw[zc hk,zc hk];obtain⟨c,i⟩:=h (n,k) zh ‹hk›;have e:cellOf env n=pure c:=by unfold cellOf;rw[i]
  rw[e];have l:(env.cells.lookup n).getD 0=c:=by rw[i];rfl
  rw[l];exact d _
 ·rw[zb hk,zb hk];exact d _
theorem VD{env:Env}(h:∀y∈scope.names,y.2= .free->∃c,env.cells.lookup y.1=some c):closureFor scope env=pure (Bu env.cells scope.names []):=by simp only[closureFor];rw[Jk env _ (fun n k c=>rfl) scope.names [] h];rfl
theorem mem_lookup{a:Type}:∀{l:List (Str×a)}{n:Str}{c:a},(n,c)∈l->∃d,l.lookup n=some d
|(k,v)::r,n,c,h=>by
 rw[yp];cases b:n==k with
 |true=>exact⟨_,rfl⟩
 |false=>
  rcases zw.mp h with e|h;·cases e;simp at b
  ·exact mem_lookup h
theorem EA{a:List (Str×Addr)}:∀{names:List (Str×NameKind)}{b:List (Str×Addr)}{n:Str}{c:Addr},(n,c)∈Bu a names b->(n,c)∈b\/((n,.free)∈names/\c=(a.lookup n).getD 0)
|[],_,_,_,h=> .inl h
|(m,k)::r,b,n,c,h=>by
 unfold Bu at h;split at h
 ·rename_i d;have d:k= .free:=‹d›;rcases EA h with h|⟨g,f⟩
  ·rcases zw.mp h with e|h;·cases e;exact .inr ⟨d▸zh,rfl⟩
   ·exact .inl h
  ·exact .inr ⟨zg _ g,f⟩
 ·rcases EA h with h|⟨g,f⟩;·exact .inl h
  ·exact .inr ⟨zg _ g,f⟩
theorem G5{a:List (Str×Addr)}:∀{names:List (Str×NameKind)}{b:List (Str×Addr)}{p:Str×Addr},p∈b->p∈Bu a names b
|[],_,_,h=>h
|(m,k)::r,b,p,h=>by
 unfold Bu;split;·exact G5 (zg _ h)
 ·exact G5 h
theorem G4{cells:List (Str×Addr)}:∀{names:List (Str×NameKind)}{acc:List (Str×Addr)}{n:Str},(n,.free)∈names->(n,(cells.lookup n).getD 0)∈Bu cells names acc
|(m,k)::r,acc,n,h=>by
 unfold Bu;rcases zw.mp h with e|h;·cases e;exact G5 zh
 ·split;·exact G4 h
  ·exact G4 h
theorem Fc:∀{names:List (Str×NameKind)}{h:Heap}{b:List (Str×Addr)}{x:Str}{c:Addr},(x,c)∈cellsFrom h.objs.size names b->(x,c)∈b\/((x,.cell)∈names/\h.objs.size<=c/\dC (pushCells h names) c none)
|[],_,_,_,_,h=> .inl h
|(n,k)::r,h,b,x,c,a=>by
 unfold cellsFrom at a;unfold pushCells;split at a
 ·rename_i d;rw[zc d];have d:k= .cell:=‹d›;rw[<-yk h {cls:= .type "cell",data:= .cell none}]at a;rcases Fc a with a|⟨i,f,g⟩
  ·rcases zw.mp a with e|a;·cases e;exact .inr ⟨d▸zh,ze _,_,uF r _ _ _ (zM _ rfl),rfl⟩
   ·exact .inl a
  ·rw[yk]at f;exact .inr ⟨zg _ i,vv f,g⟩
 ·rename_i d;rw[zb d];rcases Fc a with a|⟨i,f,g⟩;·exact .inl a
  ·exact .inr ⟨zg _ i,f,g⟩
theorem Ha:∀{names:List (Str×NameKind)}{n:Nat}{a:List (Str×Addr)}{p:Str×Addr},p∈a->p∈cellsFrom n names a
|[],_,_,_,h=>h
|(m,k)::r,n,a,p,h=>by
 unfold cellsFrom;split;·exact Ha (zg _ h)
 ·exact Ha h
theorem Km:∀{names:List (Str×NameKind)}{n:Nat}{acc:List (Str×Addr)}{x:Str},(x,.cell)∈names->∃c,(x,c)∈cellsFrom n names acc
|(m,k)::r,n,acc,x,h=>by
 unfold cellsFrom;rcases zw.mp h with e|h;·cases e;exact⟨n,Ha zh⟩
 ·split;·exact Km h
  ·exact Km h
theorem Kl:∀{names:List (Str×NameKind)}{h:Heap}{d:List (Str×Addr)}{x y:Str}{c:Addr},(∀p∈d,p.2<h.objs.size)->(∀x y c,(x,c)∈d->(y,c)∈d->x=y)->(x,c)∈cellsFrom h.objs.size names d->(y,c)∈cellsFrom h.objs.size names d->x=y
|[],_,_,_,_,_,_,j,g,f=>j _ _ _ g f
|(n,k)::r,h,d,x,y,c,i,j,g,f=>by
 unfold cellsFrom at g f;split at g
 ·rename_i m;rw[zc m]at f;rw[<-yk h {cls:= .type "cell",data:= .cell none}]at g f;refine Kl (h:=h.push _) (fun p l=>?_) (fun x y c a b=>?_) g f
  ·rw[yk];rcases zw.mp l with rfl|l;·exact yV _
   ·exact yM (i p l)
  ·rcases zw.mp a with e|a<;>rcases zw.mp b with o|b;·cases e;cases o;rfl
   ·cases e;exact absurd (i _ b) (yW _)
   ·cases o;exact absurd (i _ a) (yW _)
   ·exact j _ _ _ a b
 ·rename_i m;rw[zb m]at f;exact Kl i j g f
theorem Su{M:Model}{d:Addr}{a:List (Str×Addr)}{f:Option Addr}{g:Value}{e:Env}{b:Addr}{Q:Env->Shared->Prop}(h:Q (newEnv scope s.heap.objs.size d (cellsFrom (s.heap.objs.size+1) scope.names a) qual f g (some e) b) {s with heap:=pushCells (s.heap.push {cls:= .type "dict",data:= .dict #[]}) scope.names}):wpAny M A (newFunctionEnv scope d a [] qual f g (some e) b) Q E s:=by simp only[newFunctionEnv,rC,xj];refine za (sf ?_);refine za (wpAny_layCells _ (fun n k c=>rfl) scope.names a _ _ ?_);rw[show({s with heap:=s.heap.push {cls:= .type "dict",data:= .dict #[]}}:Shared).heap.objs.size=s.heap.objs.size+1 from yk ..];rw[tR];exact za (zr (zr h))
theorem Gh{c:Scope}:∀{names:List (Str×NameKind)}{x:Str}{k:NameKind},(names.map fun(n,k)=>if(k==NameKind.free&&c.kind== .function&&c.names.lookup n==some .cell)then(n,NameKind.cell)else(n,k)).lookup x=some k->∃e,names.lookup x=some e/\(k=e\/(e= .free/\k= .cell))
|[],_,_,h=>by simp at h
|(n,a)::r,x,k,h=>by
 have f:=@Gh c r x k;have b:List.lookup x ((if(a==NameKind.free&&c.kind== .function&&c.names.lookup n==some .cell)=true then(n,NameKind.cell)else(n,a))::(r.map _))=some k:=h;cases d:x==n with
 |true=>
  simp only[yp,d];by_cases hc:(a==NameKind.free&&c.kind== .function&&c.names.lookup n==some .cell)=true;·rw[zc hc]at b;simp only[yp,d]at b;cases b;simp only[zp,zP]at hc;exact⟨a,rfl,.inr ⟨hc.1.1,rfl⟩⟩
  ·rw[zb hc]at b;simp only[yp,d]at b;cases b;exact⟨_,rfl,.inl rfl⟩
 |false=>
  simp only[yp,d];by_cases hc:(a==NameKind.free&&c.kind== .function&&c.names.lookup n==some .cell)=true;·rw[zc hc]at b;simp only[yp,d]at b;exact f b
  ·rw[zb hc]at b;simp only[yp,d]at b;exact f b
structure Jt(N:List Str)(sc scope:Scope)(own:List (Str×Nat)):Prop where
 kind:scope.kind= .function
 uniq:∀y∈scope.names,scope.names.lookup y.1=some y.2
 ix:∀p∈own,N[p.2]?=some p.1
 free:∀y∈scope.names,y.2= .free->sc.names.lookup y.1=some .cell\/sc.names.lookup y.1=some .free
 own:∀y∈scope.names,y.2= .local\/y.2= .cell->y.1∈own.map (·.1)\/y.1∉N
def wipe(σ:St):List Nat->St|[]=>σ|v::a=>(wipe σ a).set v none
theorem FP(σ:St):∀a:List Nat,(wipe σ a).length=σ.length|[]=>rfl|v::a=>by unfold wipe;rw[yP,FP σ a]
theorem Jz{σ:St}{x:V}:∀{a:List Nat},(wipe σ a)[i]?=some (some x)->σ[i]?=some (some x)/\i∉a
|[],h=>⟨h,by simp⟩
|v::a,h=>by
 unfold wipe at h;by_cases hi:v=i
 ·subst hi;by_cases hv:v<(wipe σ a).length;·rw[wL hv]at h;cases h
  ·rw[xX ‹hv›]at h;cases h
 ·rw[va hi]at h;obtain⟨c,b⟩:=Jz h;exact⟨c,by simp only[zw,not_or];exact⟨fun e=>hi e.symm,b⟩⟩
abbrev Cx.QX(X:Cx)(s:Shared)(H:Hp)(scope:Scope)(a:Env)(b:List Addr):Cx:={X with s_0:=s,H_0:=H,env:=a,outer:=X.stack,ex:=b,fn:=fun x=>scope.names.lookup x==some .cell,pn:=[],xe:=fun Y Y=>False}
section
variable{σ:St}{H:Hp}
theorem Uc{P:List (Str×Nat)}{fp:List Addr}(I:As X pins σ H s)(C:Jt X.N X.env.scope scope P)(hN:X.N.Nodup)(t:∀b∈fp,Cg X pins H b/\b<s.heap.objs.size):As (X.QX s H scope (compEnvC scope (cellsFrom (s.heap.objs.size+1) scope.names (Bu X.env.cells scope.names [])) s.heap.objs.size X.env) fp) [] (wipe σ (P.map (·.2))) H {s with heap:=pushCells (s.heap.push {cls:= .type "dict",data:= .dict #[]}) scope.names}:=by
 have N:∀y∈scope.names,y.2= .free->∃c,X.env.cells.lookup y.1=some c:=fun y x e=>by
  rcases C.free y x e with k|k;·exact I.ok.has _ (.inl k)
  ·exact I.ok.has _ (.inr k)
 generalize f:compEnvC scope (cellsFrom (s.heap.objs.size+1) scope.names (Bu X.env.cells scope.names [])) s.heap.objs.size X.env=d;have T:∀b o,s.heap.get? b=some o->(pushCells (s.heap.push {cls:= .type "dict",data:= .dict #[]}) scope.names).get? b=some o:=fun b o e=>uF _ _ _ _ (zi _ e);have V:d.locals=s.heap.objs.size:=by rw[<-f];rfl
 have h:d.cells=cellsFrom (s.heap.objs.size+1) scope.names (Bu X.env.cells scope.names []):=by rw[<-f];rfl
 have K:d.scope=oN scope X.env.scope:=by rw[<-f];rfl
 rw[<-yk s.heap {cls:= .type "dict",data:= .dict #[]}]at h;have S:∀{y c},(y,c)∈Bu X.env.cells scope.names []->X.env.cells.lookup y=some c/\c<s.heap.objs.size:=fun{y c} l=>by
  rcases EA l with l|⟨g,rfl⟩;·cases l
  ·obtain⟨c,hc⟩:=N _ g rfl;rw[hc];obtain⟨w,z⟩:=I.cell _ _ hc;exact⟨rfl,z.lt⟩
 have mem:∀{y c},d.cells.lookup y=some c->(X.env.cells.lookup y=some c/\c<s.heap.objs.size)\/(s.heap.objs.size+1<=c/\dC (pushCells (s.heap.push {cls:= .type "dict",data:= .dict #[]}) scope.names) c none):=fun{y c} e=>by
  rw[h]at e;rcases Fc (zU e)with l|⟨Y,B,h3⟩;·exact .inl (S l)
  ·rw[yk]at B;exact .inr ⟨B,h3⟩
 have D:∀{y},scope.names.lookup y=some .free->∃c,d.cells.lookup y=some c/\X.env.cells.lookup y=some c:=fun{y} U=>by
  have x:(y,NameKind.free)∈scope.names:=zU U;obtain⟨W,u⟩:=mem_lookup (Ha (names:=scope.names) (n:=(s.heap.push {cls:= .type "dict",data:= .dict #[]}).objs.size) (G4 (cells:=X.env.cells) (acc:=[]) x));rw[<-h]at u;exists W,u;rw[h]at u;rcases Fc (zU u)with l|⟨g,Y,Y⟩;·exact(S l).1
  ·have:=C.uniq _ g;rw[U]at this;cases this
 have Z:(X.QX s H scope d fp).Ok:=by
  refine⟨I.ok.mod,by show d.scope.kind=_;rw[K];exact C.kind,by show d.globals=_;rw[<-f];exact I.ok.glob,by show d.builtins=_;rw[<-f];exact I.ok.blt,by show s.heap.objs.size<=d.locals;rw[V];exact ze _,fun y z c J G=>?_,fun y x=>?_,fun y c z e=>?_,I.ok.hd,I.ok.frames,.inl rfl,fun b F=>⟨?_,fun y c e z=>?_⟩,I.bs,z_ I.ok.Zi I.sz,fun b o e F=>?_,fun b F z=>?_,I.stack,I.PY⟩;·have J:d.cells.lookup y=some c:=J;have G:d.cells.lookup z=some c:=G;rw[h]at J G;refine Kl (fun p O=>?_) (fun y z c a b=>I.ok.inj y z c (S a).1 (S b).1) (zU J) (zU G);rw[yk];exact yM (S (y:=p.1) (c:=p.2) O).2
  ·show∃c,d.cells.lookup y=some c;have j:∀k,d.kindOf y=some k->(k= .cell\/k= .free)->∃c,d.cells.lookup y=some c:=fun k M L=>by
    unfold Env.kindOf at M;rw[K]at M;obtain⟨E,e,r⟩:=Gh M;have:E= .cell\/E= .free:=by
     rcases r with rfl|⟨rfl,Y⟩;·exact L
     ·exact .inr rfl
    rcases this with rfl|rfl;·obtain⟨c,l⟩:=Km (n:=(s.heap.push {cls:= .type "dict",data:= .dict #[]}).objs.size) (acc:=Bu X.env.cells scope.names []) (zU e);obtain⟨W,u⟩:=mem_lookup l;exact⟨W,by rw[h];exact u⟩
    ·obtain⟨c,g,Y⟩:=D e;exact⟨c,g⟩
   rcases x with x|x;·exact j _ x (.inl rfl)
   ·exact j _ x (.inr rfl)
  ·have z:(scope.names.lookup y==some NameKind.cell)=true:=z;have z:scope.names.lookup y=some .cell:=‹z›;have e:d.cells.lookup y=some c:=e;rw[h]at e;rcases Fc (zU e)with l|⟨Y,B,Y⟩
   ·rcases EA l with l|⟨g,Y⟩;·cases l
    ·have q:=C.uniq _ g;rw[z]at q;cases q
   ·rw[yk]at B;exact vv B
  ·show b≠d.locals;rw[V];exact zV (t b F).2
  ·have e:d.cells.lookup y=some c:=e;rcases mem e with⟨g,Y⟩ |⟨g,Y⟩;·exact(t b F).1.2.2.2.2.1 y c g z
   ·have B:s.heap.objs.size+1<=b:=by rw[<-z];exact g
    exact absurd (zF (t b F).2 (vv B)) (yW _)
  ·rcases(t b F).1.2.2.2.1 with z|z;·exact I.ok.UZ b o e z
   ·exact absurd (zF (zA e) (z_ I.ok.Zi z)) (yW _)
  ·rcases zw.mp (I.J3 b z)with z|z;·exact(t b F).1.2.1 z
   ·exact(t b F).1.2.2.1 z
 refine⟨Z,rfl,I.bare,Un.kept T,⟨fun Y=>none,?_,fun i y av J G v=>?_⟩,fun y c e=>?_,?_,fun y c e=>?_,fun p O=>?_,I.Bx.kept T,by rw[FP];exact I.len⟩;·show Heap.Ns _ d.locals _;rw[V];exact Heap.Ns.keeps (Heap.Ns.new ..) fun b o e=>uF _ _ _ _ e
 ·obtain⟨G,a1⟩:=Jz G;have A:scope.names.lookup y=some .free/\(d.kindOf y=some .cell\/d.kindOf y=some .free):=by
   have j:∀k,d.scope.names.lookup y=some k->k= .local\/k= .cell\/k= .free->scope.names.lookup y=some .free/\(d.kindOf y=some .cell\/d.kindOf y=some .free):=fun k M L=>by
    have R:=M;rw[K]at M;obtain⟨E,e,r⟩:=Gh M;have no:¬(E= .local\/E= .cell):=fun hh=>by
     rcases C.own _ (zU e) hh with u|u;·obtain⟨p,O,a0⟩:=zk.mp u;have v:=C.ix p O;have:p.1=y:=a0;rw[this]at v;exact a1 (zk.mpr ⟨p,O,IS hN v J⟩)
     ·exact u (zf J)
    rcases r with rfl|⟨rfl,rfl⟩
    ·rcases L with rfl|rfl|rfl;·exact absurd (.inl rfl) no
     ·exact absurd (.inr rfl) no
     ·exact⟨e,.inr R⟩
    ·exact⟨e,.inl R⟩
   have v:lp d.scope y:=v;rcases v with v|v|v;·exact j _ v (.inl rfl)
   ·exact j _ v (.inr (.inl rfl))
   ·exact j _ v (.inr (.inr rfl))
  obtain⟨m,hn,U⟩:=I.loc;have Q:lp X.env.scope y:=(C.free _ (zU A.1) rfl).elim (fun k=> .inr (.inl k)) (fun k=> .inr (.inr k));obtain⟨w,r,q⟩:=U i y av J G Q;refine⟨w,r,.inr ⟨A.2,?_⟩⟩;obtain⟨c,g,B⟩:=D A.1;rcases q with⟨k,Y⟩ |⟨Y,W,u,z⟩;·have k:X.env.scope.names.lookup y=some .local:=k;rcases C.free _ (zU A.1) rfl with E|E<;>rw[show X.env.scope.names.lookup y=_ from E]at k<;>cases k
  ·rw[B]at u;cases u;exact⟨c,g,z.keeps T⟩
 ·have e:d.cells.lookup y=some c:=e;rcases mem e with⟨g,Y⟩ |⟨Y,z⟩;·obtain⟨w,z⟩:=I.cell y c g;exact⟨w,z.keeps T⟩
  ·exact⟨_,z⟩
 ·show H d.locals=none;rw[V];exact I.Bx.fresh (ze _)
 ·have e:d.cells.lookup y=some c:=e;rcases mem e with⟨g,Y⟩ |⟨g,Y⟩;·exact I.CN y c g
  ·exact I.Bx.fresh (vv g)
 ·exact absurd (show p∈([]:List (Addr×Obj))++[]from O) (by simp)
theorem kN{D:Addr}{xs:List V}{y:V}{v:Value}(I:As X pins σ H s)(g:H D=some (.lst xs))(k:xs.length<sizeLine)(r:AX y v)(h:∀d,As X pins σ (Av H D (.lst (xs++[y]))) d->Q .none d):wpX X (call (.builtin "list.append") [.ref D,v]) Q E s:=by obtain⟨j,c,n,f,e⟩:=I.Bx D _ g;have o:=f.length;refine append_at (hsz:=by rw[zI];lia) e fun m i a=>?_;refine h {s with heap:=m} (I.write (t':=s.toks) (by rw[g];trivial) (.inl rfl) (fun b u l q=>(i.2 b l).trans q) ⟨_,a⟩ ⟨by rw[zd];exact k,c++[v],n+1,f.append (.cons r .nil),?_⟩);rw[a];simp
def nc(X:Cx)(b:List Expr)(t:TT):Prop:=∀(a:List (Addr×Obj))(s:Shared)(σ:St)(H:Hp)(Q:Bool->Hp->Prop),As X a σ H s->t σ H Q->wpX X (forIn b true fun c r=>if r=true then do
 let ok<-isTrue c X.env (eval c X.env)
 pure (ForInStep.yield ok)else pure (ForInStep.yield r)) (TP X a σ Q) X.xe s
def HG:TT:=fun Y H Q=>Q true H
theorem Ci:nc X [] HG:=fun Y Y Y H Y I h=>wpAny_tests_nil ⟨H,I,h⟩
theorem WA{c:Expr}{t:TT}(h:PT X c t):nc X [c] t:=fun a s σ H Q I b=>wpAny_tests_one (h a s σ H Q I b)
end
theorem Xz{b:Type}{t:Sem b}{Q c:b->Shared->Prop}{M:Model}(h:wpAny M A t Q (fun Y Y=>False) s)(d:∀a s,Q a s->c a s):wpAny M A t c E s:=yG h d fun Y Y z=>False.elim z
theorem QS{w:World}{R:Result->Shared->Prop}{y a o:Expr}{t:List Expr}{B:Pos}{G z:Value}{env:Env}(I:Nat->Shared->Prop)(turn:∀n s,I n s->wpAny (model prog w) A (pyNext G) (fun r f=>match r with
|none=>R (.ok .next) f
|some v=>wpAny (model prog w) A (letOwnedTupleGo a G v) (fun Y d=>wpAny (model prog w) A (assign a env v) (fun Y l=>wpAny (model prog w) A (forIn t true fun c r=>if r=true then do
 let C<-isTrue c env (eval c env)
 pure (ForInStep.yield C)else pure (ForInStep.yield r)) (fun C b=>if C=true then wpAny (model prog w) A (eval y env) (fun x k=>wpAny (model prog w) A (call (.builtin "list.append") [z,x]) (fun Y j=>∃m,m<n/\I m j) (notedBy (model prog w) A env fun e g=>R (.error e) g) k) (notedBy (model prog w) A env fun e g=>R (.error e) g) b else∃m,m<n/\I m b) (notedBy (model prog w) A env fun e g=>R (.error e) g) l) (notedBy (model prog w) A env fun e g=>R (.error e) g) d) (notedBy (model prog w) A env fun e g=>R (.error e) g) f) (notedBy (model prog w) A env fun e g=>R (.error e) g) s)(n:Nat)(h:I n s):codeAny (model prog w) A (.compLoop (.ListComp y [⟨a,o,t,0⟩] scope B) 0 G z env) R s:=by
 refine codeAny_loop rfl I (fun n s H=>?_) n h;show wpAny _ A ((compTurn (.ListComp y [⟨a,o,t,0⟩] scope B) 0 G z env).onRaise (fun x=>do
  noteFrame x env
  theTreesLotGoes x)) _ _ s;refine wpAny_noted ?_;rw[compTurn_list];refine za (xb (za (yG (turn n s H) (fun r f q=>?_) fun Y Y i=>i)));cases r with|none=>exact zr q|some v=>refine za (yG q (fun Y d u=>?_) fun Y Y i=>i);refine za (yG u (fun Y l F=>za (yG F (fun C b p=>?_) fun Y Y i=>i)) fun Y Y i=>i);cases C with|false=>exact zr ⟨rfl,p⟩ |true=>exact za (za (yG p (fun x k E=>za (yG E (fun Y j D=>zr (zr ⟨rfl,D⟩)) fun Y Y i=>i)) fun Y Y i=>i))
def nI(n:TI)(g:TG)(o:TT)(te:TE)(e:List Nat):TE:=fun σ H Q=>n σ H fun J l=>∀D,l D=none->∃W:Nat->Nat->Hp->Prop,(∃m,W 0 m (Av l D (.lst [])))/\∀i m H,W i m H->(J.stop i H/\Q (.ref D) H)\/(J.go i H/\∃f:Hp->Prop,(∀d,f d->∃h,h<m/\W (i+1) h d)/\∀x d,J.Ul i H x d->g x (wipe σ e) d fun a p=>wipe a e=wipe σ e/\o a p fun b k=>if b=true then te a k fun y j=>∃c,j D=some (.lst c)/\c.length<sizeLine/\f (Av j D (.lst (c++[y])))else f k)
theorem WQ{f:List (Addr×Obj)}{σ:St}{H:Hp}{Q:VK}{N w:Expr}{M:List Expr}{G:List (Str×Nat)}{V a6:Pos}{wi:TI}{g:TG}{tt:TT}{te:TE}{B:Option (Value->Sem Unit)}{Qf:Value->Shared->Prop}(hc:X.calm=true)(hN:X.N.Nodup)(I:As X f σ H s)(hi:PI X tg w wi)(ok:Jt X.N X.env.scope scope G)(hg:∀(s:Shared)(H:Hp)(C:Addr)(cl:List (Str×Addr))(d:List Addr),PG (X.QX s H scope (compEnvC scope cl C X.env) d) tg g)(ht:∀(s:Shared)(H:Hp)(C:Addr)(cl:List (Str×Addr))(d:List Addr),nc (X.QX s H scope (compEnvC scope cl C X.env) d) M tt)(he:∀(s:Shared)(H:Hp)(C:Addr)(cl:List (Str×Addr))(d:List Addr),PE (X.QX s H scope (compEnvC scope cl C X.env) d) N te)(hs:∀x,foldedSetIterable w X.env x=pure x)(h:nI wi g tt te (G.map (·.2)) σ H Q)(b7:∀D C A m t,As X f σ t A->Q (.ref D) t->A.heap.Ns C m->Cg X f t C->compPost (model X.prog X.w) X.A X.xe B Qf (.ref D) C (.ok .next) A):wpX X (comprehension (.ListComp N [⟨tg,w,M,0⟩] scope V) scope X.env a6 (newList []) false (eval w X.env) B) Qf X.xe s:=by
 have Z:∀y∈scope.names,y.2= .free->∃c,X.env.cells.lookup y.1=some c:=fun y hy e=>by
  rcases ok.free y hy e with k|k;·exact I.ok.has _ (.inl k)
  ·exact I.ok.has _ (.inr k)
 refine wpAny_comprehension_free (use:=B) rfl hs (VD Z) ok.kind (fun y hy e=>by rw[ok.uniq y hy,e]) (Br (hi f s σ H _ I h) fun xv s1 hx=>Br hx fun c5 s2 h2=>?_);obtain⟨it,d,tn,J,S,e,I2,T,a5,f2,q⟩:=h2;subst e;refine wu (Su ?_) (by show 0<=sizeLine;decide);generalize hD:s2.heap.objs.size=D;have b9:S D=none:=I2.Bx.fresh (uU hD);obtain⟨W,⟨m0,w0⟩,turn⟩:=q D b9;generalize b0:({s2 with heap:=s2.heap.push {cls:= .type "list",data:= .seq ([]:List Value).toArray}}:Shared)=a;have I3:As X f σ (Av S D (.lst [])) a:=by rw[<-b0];refine I2.laid (t':=s2.toks) (fun b o e=>zi _ e) (uU hD) ⟨zx _,[],0,.nil,?_⟩;rw[<-hD];exact zM _ rfl
 have h3:a.heap=s2.heap.push {cls:= .type "list",data:= .seq ([]:List Value).toArray}:=by rw[<-b0]
 have sz:∀b∈d,b<s2.heap.objs.size:=fun b l=>by obtain⟨o,e,Y⟩:=T.obj _ _ a5 b l;exact zA e
 have f3:∀b∈d,Cg X f (Av S D (.lst [])) b/\b<a.heap.objs.size:=fun b l=>by have b1:=sz b l;refine⟨⟨?_,(f2 b l).2⟩,by rw[h3,yk];exact yM b1⟩;rw[Ac (by rw[<-hD];exact zV b1)];exact(f2 b l).1
 have b3:tn 0 a.heap:=T.keep _ _ _ a5 fun b Y o e=>by rw[h3];exact zi _ e
 have I4:=Uc I3 ok hN f3;have pg:=hg a (Av S D (.lst [])) a.heap.objs.size (cellsFrom (a.heap.objs.size+1) scope.names (Bu X.env.cells scope.names [])) d;have pt:=ht a (Av S D (.lst [])) a.heap.objs.size (cellsFrom (a.heap.objs.size+1) scope.names (Bu X.env.cells scope.names [])) d;have pe:=he a (Av S D (.lst [])) a.heap.objs.size (cellsFrom (a.heap.objs.size+1) scope.names (Bu X.env.cells scope.names [])) d;show codeAny _ _ (.compStart (.ListComp N [⟨tg,w,M,0⟩] scope V) 0 (.ref it) (.ref D) (compEnvC scope (cellsFrom (a.heap.objs.size+1) scope.names (Bu X.env.cells scope.names [])) a.heap.objs.size X.env)) (compPost (model X.prog X.w) X.A X.xe B Qf (.ref D) a.heap.objs.size) {a with heap:=pushCells (a.heap.push {cls:= .type "dict",data:= .dict #[]}) scope.names};have a7:∀b∈d,(Av S D (.lst [])) b=none:=fun b l=>(f3 b l).1.1;generalize b6:compEnvC scope (cellsFrom (a.heap.objs.size+1) scope.names (Bu X.env.cells scope.names [])) a.heap.objs.size X.env=E at I4 pg pt pe|-;have cL:E.locals=a.heap.objs.size:=by subst b6;rfl
 generalize c6:Av S D (.lst [])=O at I3 I4 pg pt pe w0 a7 f3;generalize b5:({a with heap:=pushCells (a.heap.push {cls:= .type "dict",data:= .dict #[]}) scope.names}:Shared)=s4 at I4|-;have a4:tn 0 s4.heap:=T.keep _ _ _ b3 fun b Y o e=>by rw[<-b5];exact uF _ _ _ _ (zi _ e)
 have F:∀{a0:St}{t:Hp}{A:Shared},As (X.QX a O scope E d) [] a0 t A->(∀b∈d,t b=none)->∀b∈d,Cg (X.QX a O scope E d) [] t b:=fun{a0 t A} I' hn b l=>⟨hn b l,(I'.ok.k_ b l).1,I'.ok.V0 b l,.inl l,fun x c e=>(I'.ok.k_ b l).2 x c e,fun p hp=>absurd (show p∈([]:List (Addr×Obj))++[]from hp) (by simp)⟩;have R:codeAny (model X.prog X.w) X.A (.compLoop (.ListComp N [⟨tg,w,M,0⟩] scope V) 0 (.ref it) (.ref D) E) (compPost (model X.prog X.w) X.A X.xe B Qf (.ref D) a.heap.objs.size) s4:=by
  refine QS (fun n A=>∃i t,As (X.QX a O scope E d) [] (wipe σ (G.map (·.2))) t A/\tn i A.heap/\(∀b∈d,t b=none)/\W i n t) ?_ m0 ⟨0,O,I4,a4,a7,w0⟩;rintro n s5 ⟨i,H5,I5,a3,n5,w5⟩;rcases turn i n H5 w5 with⟨a1,qq⟩ |⟨go,Nx,b8,a2⟩
  ·have td:=T.done (X.QX a O scope E d) rfl rfl rfl hc i [] s5 _ H5 (fun Y Y=>False) I5 (F I5 n5) a3 a1;refine Xz td fun r s6 ⟨hr,I6⟩=>?_;subst hr;have I7:As X f σ H5 s6:=I3.iu (ch:=d) I6.os I6.base I6.Bx I6.bare fun b l=>⟨(f3 b l).1.2.2.2.1,(f3 b l).1.2.1,(f3 b l).1.2.2.2.2.1,(f3 b l).1.2.2.2.2.2⟩;have nC:H5 a.heap.objs.size=none:=by have z:H5 E.locals=none:=I6.free;rw[cL]at z;exact z
   obtain⟨m,hn,Y⟩:=I6.loc;have hn:s6.heap.Ns E.locals m:=hn;rw[cL]at hn;exact b7 D a.heap.objs.size s6 m H5 I7 qq hn (I3.Ka (ze _) nC)
  ·have ti:=T.item (X.QX a O scope E d) rfl rfl rfl hc i [] s5 _ H5 (fun Y Y=>False) I5 (F I5 n5) a3 go;refine Xz ti fun r s6 ⟨u,hr,h6⟩=>?_;subst hr;refine Xz h6 fun Y s7 K=>?_;obtain⟨x,H7,I7,r7,y7,U,n7⟩:=K;have c0:=I7.pinned (F I7 n7) (T.obj _ _ U);refine Xz (pg _ s7 _ H7 x u _ c0 r7 (a2 x H7 y7)) fun Y s8 K=>?_;obtain⟨L,H8,I8,a9,q8⟩:=K;refine Xz (pt _ s8 L H8 _ I8 q8) fun b s9 ⟨H9,I9,q9⟩=>?_;have fin:∀{A:Shared}{t:Hp},As (X.QX a O scope E d) ([]++MC d s7.heap) L t A->Nx t->∃m,m<n/\∃i t,As (X.QX a O scope E d) [] (wipe σ (G.map (·.2))) t A/\tn i A.heap/\(∀b∈d,t b=none)/\W i m t:=fun{A t} I' nx=>by
    obtain⟨m',hm,w'⟩:=b8 t nx;have P:∀b∈d,∀o,s7.heap.get? b=some o->A.heap.get? b=some o/\t b=none:=fun b l o e=>let z:=I'.pin (b,o) (yx _ (yx _ (HU l e)));⟨z.1,z.2.1⟩;have hl:(wipe σ (G.map (·.2))).length=L.length:=by rw[<-a9,FP]
    refine⟨m',hm,i+1,t,(I'.Ik (pins:=[])).weak hl (fun j v e=>?_),T.keep _ _ _ U fun b l o e=>(P b l o e).1,fun b l=>?_,w'⟩;·rw[<-a9]at e;exact(Jz e).1
    ·obtain⟨o,e,Y⟩:=T.obj _ _ U b l;exact(P b l o e).2
   cases b with|false=>simp only[yD,yS]at q9|-;exact fin I9 q9|true=>simp only[xj]at q9|-;refine Xz (pe _ s9 L H9 _ I9 q9) fun z c4 K=>?_;obtain⟨yv,c8,c2,b4,c7,b2,a8,nx⟩:=K;exact kN (X:=X.QX a O scope E d) c2 b2 a8 b4 fun c3 c1=>fin c1 nx
 exact codeAny_compStart_list R (T.self X.A 0 _ _ _ a4 R)
theorem Ga{i a:Expr}{c:List Expr}{own:List (Str×Nat)}{k:Pos}{l:TI}{g:TG}{n:TT}{te:TE}(E:X.calm=true)(G:X.N.Nodup)(z:PI X tg a l)(u:Jt X.N X.env.scope scope own)(A:∀(s:Shared)(H:Hp)(C:Addr)(j:List (Str×Addr))(d:List Addr),PG (X.QX s H scope (compEnvC scope j C X.env) d) tg g)(v:∀(s:Shared)(H:Hp)(C:Addr)(j:List (Str×Addr))(d:List Addr),nc (X.QX s H scope (compEnvC scope j C X.env) d) c n)(B:∀(s:Shared)(H:Hp)(C:Addr)(j:List (Str×Addr))(d:List Addr),PE (X.QX s H scope (compEnvC scope j C X.env) d) i te)(w:∀x,foldedSetIterable a X.env x=pure x:=by intro Y;rfl):PE X (.ListComp i [⟨tg,a,c,0⟩] scope k) (nI l g n te (own.map (·.2))):=by intro p s σ H Q I h;rw[eval_ListComp];refine WQ E G I z u A v B w h fun D C t m R P q y f=>⟨m,y,fun J r=>?_⟩;obtain⟨O,N,S,M,L,K⟩:=f;exact⟨.ref D,R,P.turned (t':=t.toks) (fun b o F e=>(r.2 b F).trans e) O N M L K,rfl,q⟩
theorem FX{y:Str}{u:Pos}{k c:Expr}{d:List Expr}{own:List (Str×Nat)}{j l:Pos}{w:TI}{g:TG}{tt:TT}{te:TE}(hc:X.calm=true)(G:X.N.Nodup)(P:X.N[i]?=some y)(p:X.env.scope.names.lookup y=some .local)(E:swapsWith (.ListComp k [⟨tg,c,d,0⟩] scope j) (some (.Name y u)) l.line X.env=pure true)(U:PI X tg c w)(O:Jt X.N X.env.scope scope own)(W:∀(s:Shared)(H:Hp)(C:Addr)(t:List (Str×Addr))(r:List Addr),PG (X.QX s H scope (compEnvC scope t C X.env) r) tg g)(Q:∀(s:Shared)(H:Hp)(C:Addr)(t:List (Str×Addr))(r:List Addr),nc (X.QX s H scope (compEnvC scope t C X.env) r) d tt)(Z:∀(s:Shared)(H:Hp)(C:Addr)(t:List (Str×Addr))(r:List Addr),PE (X.QX s H scope (compEnvC scope t C X.env) r) k te)(R:∀x,foldedSetIterable c X.env x=pure x:=by intro Y;rfl):PS X (.Assign [.Name y u] (.ListComp k [⟨tg,c,d,0⟩] scope j) l) (R0 (nI w g tt te (own.map (·.2))) (E7 i)):=by
 intro n s σ H D I h;rw[exec_Assign_Name_used _ _ _ _ E];refine za (xb (za ?_));show wpAny _ X.A (do
  let _<-comprehension (.ListComp k [⟨tg,c,d,0⟩] scope j) scope X.env (firstIterPos [⟨tg,c,d,0⟩] j) (newList []) false (eval c X.env) (some (assign (.Name y u) X.env))) _ _ s;have h:nI w g tt te (own.map (·.2)) σ H (fun x H1=>E7 i x σ H1 D.nx):=h;refine za (Br (WQ (Qf:=fun Y B=>SP X n D .next B) hc G I U O W Q Z R h fun L C B m H' I' q T f=>?_) fun Y B S=>zr (zr S));show wpAny _ _ (assign (.Name y u) X.env (.ref L)) _ _ _;refine wpAny_assign_Name (Ov (v:=V.ref L) I' G P (.inl p) rfl (fun N I2 ⟨a,M,ha⟩=>?_) (.inr p));obtain⟨f0,K,f2,f3,J,f5⟩:=f;have F:C≠a:=by
  rcases ha with z|z;·rw[z];exact K
  ·exact fun e=>J y a z e.symm
 refine⟨m,T.sameBut M F,fun h3 A=>?_⟩;exact⟨_,H',I2.turned (t':=N.toks) (fun b o hb e=>(A.2 b hb).trans e) f0 K f3 J f5,q⟩
theorem Il{b:Expr}{j:List Comprehension}{a c:Pos}{y:Str}{l:Nat}{env:Env}(g:env.scope.kind= .function)(e:env.scope.names.lookup y=some .local)(f:(c.line==a.line)=true)(i:(scope.names.any fun(n,k)=>n==y&&(k== .local||k== .cell))=false):swapsWith (.ListComp b j scope a) (some (.Name y c)) l env=pure true:=by
 have d:env.kindOf y=some .local:=e;have h:env.blockKind= .function:=by unfold Env.blockKind;rw[g];rfl
 unfold swapsWith;simp only[h,d,i,Expr.pos,f];rfl
theorem bP{l:Int}{n:Nat}{g:TG}{r:TT}{te:TE}{h:List Nat}{σ:St}{u:Hp}{D:Addr}{t:Hp->Prop}(d:Nat->Hp->Prop)(A:d 0 (Av u D (.lst [])))(w:∀i H,i<n->d i H->g (.int (l+i)) (wipe σ h) H fun a q=>wipe a h=wipe σ h/\r a q fun b k=>if b=true then te a k fun y j=>∃c,j D=some (.lst c)/\c.length<sizeLine/\d (i+1) (Av j D (.lst (c++[y])))else d (i+1) k)(z:∀H,d n H->t H):∃W:Nat->Nat->Hp->Prop,(∃m,W 0 m (Av u D (.lst [])))/\∀i m H,W i m H->((gI l n).stop i H/\t H)\/((gI l n).go i H/\∃o:Hp->Prop,(∀f,o f->∃s,s<m/\W (i+1) s f)/\∀x f,(gI l n).Ul i H x f->g x (wipe σ h) f fun a q=>wipe a h=wipe σ h/\r a q fun b k=>if b=true then te a k fun y j=>∃c,j D=some (.lst c)/\c.length<sizeLine/\o (Av j D (.lst (c++[y])))else o k):=by
 exists fun i m H=>m=n-i/\i<=n/\d i H,⟨n,by simp,zx _,A⟩;rintro i m H ⟨rfl,B,p⟩;by_cases hlt:i<n;·refine .inr ⟨hlt,d (i+1),fun f v=>⟨n-(i+1),∅,rfl,hlt,v⟩,fun x f y=>?_⟩;obtain⟨e,y⟩:=y;subst e y;exact w i _ hlt p
 ·have e:i=n:=∅;subst e;exact .inl ⟨ze _,z H p⟩
theorem Dc{K:Frag}{xs:List V}{g:TG}{r:TT}{te:TE}{j:List Nat}{σ:St}{u:Hp}{D:Addr}{t:Hp->Prop}(f:Nat->Hp->Prop)(C:f 0 (Av u D (.lst [])))(z:∀i H,i<=xs.length->f i H->AJ K H a xs)(w:∀i x H,xs[i]?=some x->f i H->g x (wipe σ j) H fun c o=>wipe c j=wipe σ j/\r c o fun b l=>if b=true then te c l fun y k=>∃d,k D=some (.lst d)/\d.length<sizeLine/\f (i+1) (Av k D (.lst (d++[y])))else f (i+1) l)(B:∀H,f xs.length H->t H):∃W:Nat->Nat->Hp->Prop,(∃m,W 0 m (Av u D (.lst [])))/\∀i m H,W i m H->((iF K a).stop i H/\t H)\/((iF K a).go i H/\∃n:Hp->Prop,(∀h,n h->∃s,s<m/\W (i+1) s h)/\∀x h,(iF K a).Ul i H x h->g x (wipe σ j) h fun c o=>wipe c j=wipe σ j/\r c o fun b l=>if b=true then te c l fun y k=>∃d,k D=some (.lst d)/\d.length<sizeLine/\n (Av k D (.lst (d++[y])))else n l):=by
 exists fun i m H=>m=xs.length-i/\i<=xs.length/\f i H,⟨xs.length,by simp,zx _,C⟩;rintro i m H ⟨rfl,A,p⟩;have q:=z i H A p;by_cases hlt:i<xs.length;·refine .inr ⟨⟨xs,xs[i],q,by simp[hlt]⟩,f (i+1),fun h v=>⟨xs.length-(i+1),∅,rfl,hlt,v⟩,fun x h y=>?_⟩;obtain⟨e,y⟩:=y;subst e;exact w i x _ (y xs q) p
 ·have e:i=xs.length:=∅;subst e;exact .inl ⟨⟨xs,q,ze _⟩,B H p⟩
theorem bO{K:Frag}{xs:List V}{g:TG}{r:TT}{te:TE}{j:List Nat}{σ:St}{u:Hp}{D:Addr}{t:Hp->Prop}(f:Nat->Hp->Prop)(C:f 0 (Av u D (.lst [])))(z:∀i H,i<=xs.length->f i H->Em K H a xs)(w:∀i x H,xs[i]?=some x->f i H->g x (wipe σ j) H fun c o=>wipe c j=wipe σ j/\r c o fun b l=>if b=true then te c l fun y k=>∃d,k D=some (.lst d)/\d.length<sizeLine/\f (i+1) (Av k D (.lst (d++[y])))else f (i+1) l)(B:∀H,f xs.length H->t H):∃W:Nat->Nat->Hp->Prop,(∃m,W 0 m (Av u D (.lst [])))/\∀i m H,W i m H->((iD K a).stop i H/\t H)\/((iD K a).go i H/\∃n:Hp->Prop,(∀h,n h->∃s,s<m/\W (i+1) s h)/\∀x h,(iD K a).Ul i H x h->g x (wipe σ j) h fun c o=>wipe c j=wipe σ j/\r c o fun b l=>if b=true then te c l fun y k=>∃d,k D=some (.lst d)/\d.length<sizeLine/\n (Av k D (.lst (d++[y])))else n l):=by
 exists fun i m H=>m=xs.length-i/\i<=xs.length/\f i H,⟨xs.length,by simp,zx _,C⟩;rintro i m H ⟨rfl,A,p⟩;have q:=z i H A p;by_cases hlt:i<xs.length;·refine .inr ⟨⟨xs,xs[i],q,by simp[hlt]⟩,f (i+1),fun h v=>⟨xs.length-(i+1),∅,rfl,hlt,v⟩,fun x h y=>?_⟩;obtain⟨e,y⟩:=y;subst e;exact w i x _ (y xs q) p
 ·have e:i=xs.length:=∅;subst e;exact .inl ⟨⟨xs,q,ze _⟩,B H p⟩
def kH(N:List Str)(b scope:Scope)(a:List (Str×Nat)):Bool:=(match scope.kind with| .function=>true|_=>false)&&(scope.names.all fun y=>decide (scope.names.lookup y.1=some y.2))&&(a.all fun p=>decide (N[p.2]?=some p.1))&&(scope.names.all fun y=>match y.2 with
| .free=>(match b.names.lookup y.1 with|some .cell=>true|some .free=>true|_=>false)
| .local=>decide (y.1∈a.map (·.1)) ||decide (y.1∉N)
| .cell=>decide (y.1∈a.map (·.1)) ||decide (y.1∉N)
|_=>true)
theorem Jo{c:Scope}{a:List (Str×Nat)}(h:kH N c scope a=true):Jt N c scope a:=by
 unfold kH at h;simp only[zp,yq,zJ]at h;obtain⟨⟨⟨f,i⟩,g⟩,d⟩:=h;refine⟨?_,i,g,fun y b e=>?_,fun y b e=>?_⟩
 ·split at f;·assumption
  ·cases f
 ·have q:=d y b;simp only[e]at q;split at q<;>first|exact .inl (by assumption) |exact .inr (by assumption) |cases q
 ·have q:=d y b;rcases e with e|e<;>(simp only[e,yt,zJ]at q;exact q)
section
variable{w:World}{R:Result->Shared->Prop}{elt t0 i0 t1 i1:Expr}{ifs0 ifs1:List Expr}{pos:Pos}{it acc:Value}{env:Env}
end
section
variable{κ:Type}[DecidableEq κ]
def Bb(a:List (κ×V))(k:κ):Option V:=(a.find? fun b=>decide (b.1=k)).map (·.2)
def putK(a:List (κ×V))(k:κ)(v:V):List (κ×V):=if(a.any fun b=>decide (b.1=k))=true then a.map (fun b=>if b.1=k then(b.1,v)else b)else a++[(k,v)]
theorem Zl{k:κ}:Bb ([]:List (κ×V)) k=none:=rfl
theorem BZ{p:κ×V}{r:List (κ×V)}{k:κ}(e:p.1=k):Bb (p::r) k=some p.2:=by simp[Bb,yn,e]
theorem B_{p:κ×V}{r:List (κ×V)}{k:κ}(e:¬p.1=k):Bb (p::r) k=Bb r k:=by simp[Bb,yn,e]
theorem Ij(k:κ):∀a:List (κ×V),(a.any fun b=>decide (b.1=k))=(Bb a k).isSome
|[]=>rfl
|p::r=>by
 rw[vO];by_cases e:p.1=k;·simp only[BZ e,zj e,Bool.true_or,rC]
 ·rw[B_ e,zo e,uH];exact Ij k r
theorem Rr(k j:κ)(y:V):∀a:List (κ×V),Bb (a.map fun b=>if b.1=k then(b.1,y)else b) j=(Bb a j).map fun x=>if j=k then y else x
|[]=>rfl
|p::r=>by
 have c:=Rr k j y r;rw[zH];by_cases h:p.1=k
 ·rw[zc h];by_cases e:p.1=j;·rw[BZ (p:=(p.1,y)) e,BZ e,yE,zc (e.symm.trans h)]
  ·rw[B_ (p:=(p.1,y)) e,B_ e,c]
 ·rw[zb h];by_cases e:p.1=j;·rw[BZ (p:=p) e,BZ e,yE,zb (fun z=>h (e.trans z))]
  ·rw[B_ (p:=p) e,B_ e,c]
theorem Om(k j:κ)(y:V):∀a:List (κ×V),Bb a k=none->Bb (a++[(k,y)]) j=if j=k then some y else Bb a j
|[],_=>by
 by_cases e:k=j;·rw[zc e.symm];exact BZ (p:=(k,y)) e
 ·rw[zb (fun z=>e z.symm)];exact B_ (p:=(k,y)) e
|p::r,b=>by
 rw[qa];have c:¬p.1=k:=fun z=>by rw[BZ z]at b;cases b
 rw[B_ c]at b;have d:=Om k j y r b;by_cases e:p.1=j;·rw[BZ e,BZ e,zb (fun z=>c (e.trans z))]
 ·rw[B_ e,B_ e,d]
theorem Rq(b:List (κ×V))(k j:κ)(y:V):Bb (putK b k y) j=if j=k then some y else Bb b j:=by
 unfold putK;by_cases a:(b.any fun c=>decide (c.1=k))=true
 ·rw[zc a,Rr];rw[Ij]at a;by_cases e:j=k;·obtain⟨x,d⟩:=tZ.mp a;rw[zc e,e,d,yE,zc rfl]
  ·rw[zb e];cases Bb b j with|none=>rfl|some x=>rw[yE,zb e]
 ·rw[zb a];refine Om k j y b ?_;rw[Ij]at a;cases q:Bb b k with|none=>rfl|some x=>rw[q]at a;exact(a rfl).elim
theorem Gk(a:List (κ×V))(k:κ)(v:V):(putK a k v).length<=a.length+1:=by
 unfold putK;split;·rw[z3];lia
 ·rw[zd,zm,yQ];lia
theorem FL.JW{o:Option V}{u:Option Value}(r:FL o u):o.isSome=u.isSome:=by
 cases o with
 |none=>cases u with|none=>rfl|some _=>exact(show False from r).elim
 |some _=>cases u with|none=>exact(show False from r).elim|some _=>rfl
theorem FL.getD{o:Option V}{u:Option Value}{d:V}{a:Value}(r:FL o u)(b:AX d a):AX (o.getD d) (u.getD a):=by
 cases o with
 |none=>cases u with|none=>exact b|some _=>exact(show False from r).elim
 |some _=>cases u with|none=>exact(show False from r).elim|some _=>exact r
theorem KV.val{a:List (κ×V)}{f:List (κ×Value)}(r:KV a f)(k:κ):FL (Bb a k) (valueAt f k):=by
 unfold KV at r;induction r with
 |nil=>exact True.intro
 |@cons p q ps c h t i=>
  obtain⟨g,j⟩:=h;by_cases e:p.1=k
  ·have d:q.1=k:=g.symm.trans e;have b:valueAt (q::c) k=some q.2:=by simp[valueAt,yn,d]
   rw[BZ e,b];exact j
  ·have d:¬q.1=k:=fun z=>e (g.trans z);have b:valueAt (q::c) k=valueAt c k:=by simp[valueAt,yn,d]
   rw[B_ e,b];exact i
theorem KV.any{a:List (κ×V)}{c:List (κ×Value)}(r:KV a c)(k:κ):(a.any fun b=>decide (b.1=k))=c.any fun b=>decide (b.1=k):=by unfold KV at r;induction r with|nil=>rfl|cons h t d=>rw[vO,vO,d,h.1]
theorem KV.jx{b:List (κ×V)}{d:List (κ×Value)}(r:KV b d)(k:κ){y:V}(f:AX y u):KV (b.map fun a=>if a.1=k then(a.1,y)else a) (d.map fun a=>if a.1=k then(a.1,u)else a):=by
 unfold KV at r|-;induction r with
 |nil=>exact .nil
 |@cons p q ps j h t g=>
  rw[zH,zH];refine .cons ?_ g;obtain⟨c,i⟩:=h;by_cases e:p.1=k;·rw[zc e,zc (c.symm.trans e)];exact⟨c,f⟩
  ·rw[zb e,zb (fun z=>e (c.trans z))];exact⟨c,i⟩
theorem KV.put{a:List (κ×V)}{b:List (κ×Value)}(r:KV a b)(k:κ){y:V}(c:AX y u):KV (putK a k y) (stored b k u):=by
 unfold putK stored;rw[r.any k];by_cases e:(b.any fun d=>decide (d.1=k))=true;·rw[zc e,zc e];exact r.jx k c
 ·rw[zb e,zb e];exact Paired.snoc r ⟨rfl,c⟩
theorem KV.length{a:List (κ×V)}{b:List (κ×Value)}(r:KV a b):a.length=b.length:=zE r
end
theorem SN{P:Program}{w:World}{k:Key}(r:AX (kV k) u):(BN P w).is k u=true:=by cases k with|inl i=>obtain⟨t,e⟩:=(show∃t,u=Value.int i t from r);subst e;exact SD P w i t|inr x=>obtain⟨t,e⟩:=(show∃t,u=Value.str x t from r);subst e;exact SA P w x t
theorem Po{P:Program}{w:World}:∀{a:List Key}{us:List Value},AG (a.map kV) us->ItemsAre (BN P w) a us|[],_,r=>by rw[wk]at r;cases r;exact .nil|k::a,_,r=>by rw[zH]at r;cases r with|cons h t=>exact .cons (SN h) (Po t)
abbrev KT(H:Hp):List (List Key×V)->List (List Key×Addr×Value)->Prop:=Paired fun p q=>p.1=q.1/\H q.2.1=some (.tup (p.1.map kV))/\AX p.2 q.2.2
theorem KT.val{H:Hp}{a:List (List Key×V)}{xs:List (List Key×Addr×Value)}(r:KT H a xs)(k:List Key):FL (Bb a k) ((atKey xs k).map (·.2)):=by
 induction r with
 |nil=>exact True.intro
 |@cons p q ps c h t g=>
  obtain⟨f,Y,i⟩:=h;by_cases e:p.1=k
  ·have d:q.1=k:=f.symm.trans e;have b:atKey (q::c) k=some q.2:=by simp[atKey,yn,d]
   rw[BZ e,b];exact i
  ·have d:¬q.1=k:=fun z=>e (f.trans z);have b:atKey (q::c) k=atKey c k:=by simp[atKey,yn,d]
   rw[B_ e,b];exact g
theorem KT.jx{H:Hp}{a:List (List Key×V)}{xs:List (List Key×Addr×Value)}(r:KT H a xs)(k:List Key){y:V}(f:AX y u):KT H (a.map fun c=>if c.1=k then(c.1,y)else c) (xs.map (putAt k u)):=by
 induction r with
 |nil=>exact .nil
 |@cons p q ps j h t g=>
  rw[zH,zH];refine .cons ?_ g;obtain⟨b,d,i⟩:=h;unfold putAt;by_cases e:p.1=k;·rw[zc e,zc (b.symm.trans e)];exact⟨b,d,f⟩
  ·rw[zb e,zb (fun z=>e (b.trans z))];exact⟨b,d,i⟩
theorem KT.put{H:Hp}{a:List (List Key×V)}{xs:List (List Key×Addr×Value)}(r:KT H a xs)(k:List Key){y:V}(f:H b=some (.tup (k.map kV)))(c:AX y u):KT H (putK a k y) (storedH xs k b u):=by
 have e:(a.any fun d=>decide (d.1=k))=(atKey xs k).isSome:=by rw[Ij,(r.val k).JW,rM]
 unfold putK storedH;rw[e];by_cases q:(atKey xs k).isSome=true;·rw[zc q,zc q];exact r.jx k c
 ·rw[zb q,zb q];exact Paired.snoc r ⟨rfl,f,c⟩
theorem KT.keeps{H d:Hp}{a:List (List Key×V)}{xs:List (List Key×Addr×Value)}(r:KT H a xs)(e:∀b c,H b=some (.tup c)->d b=some (.tup c)):KT d a xs:=Paired.fP r fun Y Y z=>⟨z.1,e _ _ z.2.1,z.2.2⟩
section
variable{P:Program}{w:World}{H:Hp}{h:Heap}
theorem hI{u:HO}(b:FN P w H h)(e:Rd H a u):B7 P w H h a u:=e.ok b
theorem P8{b:List (Key×V)}(d:FN P w H h)(e:Rd H a (.dK b)):b.length<=sizeLine/\(a==sysModules)=false/\∃c,KV b c/\h.DictOf (BN P w) a c:=show B7 P w H h a (.dK b)from hI d e
theorem mY{b:List (Key×V)}(d:FN P w H h)(e:H a=some (.dK b)):b.length<=sizeLine/\(a==sysModules)=false/\∃c,KV b c/\h.DictOf (BN P w) a c:=P8 d (.inl e)
theorem JV{b:List Key}(d:FN P w H h)(e:H a=some (.tup (b.map kV))):(tupleKind (BN P w)).is h b a:=by obtain⟨Y,c,r,o,i,g,n,f⟩:=(show B7 P w H h a (.tup (b.map kV))from d a _ e);exact⟨o,c.toArray,n,i,g,f,‹Po r›⟩
theorem P7{b:List (List Key×V)}(f:FN P w H h)(e:Rd H a (.dT b)):b.length<=sizeLine/\(a==sysModules)=false/\∃xs,KT H b xs/\h.DictOfH (tupleKind (BN P w)) a xs:=by
 obtain⟨z,y,xs,r,o,v,A,u,s,n,k,j⟩:=(show B7 P w H h a (.dT b)from hI f e);refine⟨z,y,xs,r,o,v,A,u,s,n,k,fun x c=>?_,j⟩;have d:∀{l:List (List Key×V)}{m:List (List Key×Addr×Value)},KT H l m->∀x∈m,(tupleKind (BN P w)).is h x.1 x.2.1:=by
  intro l m q;induction q with
  |nil=>intro x c;exact nomatch c
  |@cons p q ps B g t i=>
   intro x c;rcases zw.mp c with e|c;·subst e;exact JV f (by rw[<-g.1];exact g.2.1)
   ·exact i x c
 exact d r x c
theorem iq{b:List (List Key×V)}(c:FN P w H h)(e:H a=some (.dT b)):b.length<=sizeLine/\(a==sysModules)=false/\∃xs,KT H b xs/\h.DictOfH (tupleKind (BN P w)) a xs:=P7 c (.inl e)
end
def CP(H:Hp)(a:Addr)(y:V)(r:Option V):Prop:=(∃c k,Rd H a (.dK c)/\y=kV k/\r=Bb c k)\/∃c k b,Rd H a (.dT c)/\y= .ref b/\H b=some (.tup (k.map kV))/\r=Bb c k
def Rh(H:Hp)(a:Addr)(y v:V)(d:Hp):Prop:=(∃c k,H a=some (.dK c)/\y=kV k/\c.length<sizeLine/\d=Av H a (.dK (putK c k v)))\/∃c k b,H a=some (.dT c)/\y= .ref b/\H b=some (.tup (k.map kV))/\c.length<sizeLine/\d=Av H a (.dT (putK c k v))
theorem CP.k{H:Hp}{b:List (Key×V)}{k:Key}(e:H a=some (.dK b)):CP H a (kV k) (Bb b k):= .inl ⟨b,k,.inl e,rfl,rfl⟩
theorem CP.t{H:Hp}{c:List (List Key×V)}{k:List Key}(e:H a=some (.dT c))(d:H b=some (.tup (k.map kV))):CP H a (.ref b) (Bb c k):= .inr ⟨c,k,b,.inl e,rfl,d,rfl⟩
theorem Rh.k{H:Hp}{b:List (Key×V)}{k:Key}{v:V}(e:H a=some (.dK b))(c:b.length<sizeLine):Rh H a (kV k) v (Av H a (.dK (putK b k v))):= .inl ⟨b,k,e,rfl,c,rfl⟩
theorem Rh.t{H:Hp}{c:List (List Key×V)}{k:List Key}{v:V}(e:H a=some (.dT c))(f:H b=some (.tup (k.map kV)))(d:c.length<sizeLine):Rh H a (.ref b) v (Av H a (.dT (putK c k v))):= .inr ⟨c,k,b,e,rfl,f,d,rfl⟩
section
variable{σ:St}{H:Hp}{y v:V}{r:Value}{o:Option V}
theorem As.nY(I:As X pins σ H s):sysModules<s.heap.objs.size:=by have h:mainGlobals<s.heap.objs.size:=(I.mod.glob.keeps I.bk).lt;exact ue ⋯ h
theorem YI(x:A.units+1<cLine)(I:As X pins σ H s)(g:CP H a y (some v))(t:AX y u)(h:∀f r,As X pins σ H r->AX v f->Q f r):wpAny (model X.prog X.w) A (getItem (.ref a) u) Q E s:=by
 rcases g with⟨i,k,e,n,l⟩ |⟨i,k,b,e,n,D,l⟩;·subst n;obtain⟨z,C,w,d,q⟩:=P8 I.Bx e;obtain⟨f,j,c⟩:=FL.some_of (v:=v) (o:=valueAt w k) (by rw[l];exact d.val k);exact wpAny_getItem_of (SN t) q.mapOf j (h f _ (I.tok _) c)
 ·subst n;cases(show u=Value.ref b from t);obtain⟨z,C,xs,d,q⟩:=P7 I.Bx e;obtain⟨f,j,c⟩:=FL.some_of (v:=v) (o:=(atKey xs k).map (·.2)) (by rw[l];exact d.val k);obtain⟨p,B,m⟩:=zy.mp j;refine wpAny_getItem_heap (vU x) (JV I.Bx D) q B ?_;rw[m];exact h f _ (I.tok _) c
theorem gx(p:A.units+1<cLine)(I:As X pins σ H s)(g:CP H a y o)(n:AX y u)(h:∀m,As X pins σ H m->Q (.bool (!o.isSome)) m):wpAny (model X.prog X.w) A (compareOp .NotIn u (.ref a)) Q E s:=by
 rcases g with⟨d,k,e,i,l⟩ |⟨d,k,b,e,i,r,l⟩;·subst i;obtain⟨z,f,t,c,j⟩:=P8 I.Bx e;refine wpAny_notIn_of (SN n) f j.mapOf ?_;rw[<-(c.val k).JW,<-l];exact h _ (I.tok _)
 ·subst i;cases(show u=Value.ref b from n);obtain⟨z,f,xs,c,j⟩:=P7 I.Bx e;refine wpAny_notIn_heap (vU p) (JV I.Bx r) f j ?_;have q:=(c.val k).JW;rw[rM]at q;rw[<-q,<-l];exact h _ (I.tok _)
theorem QM{c:Heap}{ob:HO}(I:As X pins σ H s)(f:iC (H a))(g:Heap.SameBut a s.heap c)(h:∃q,c.get? a=some q)(d:B7 X.prog X.w (Av H a ob) c a ob):As X pins σ (Av H a ob) {s with heap:=c,toks:=t'}:=I.write (x:=a) (e:=a) f (.inl rfl) (fun b q i z=>(g.2 b i).trans z) h d
theorem kv{P:Program}{w:World}{h:Hp}{e:Heap}{b:List (Key×V)}{c:List (Key×Value)}(z:b.length<=sizeLine)(f:(a==sysModules)=false)(d:KV b c)(g:e.DictOf (BN P w) a c):B7 P w h e a (.dK b):=⟨z,f,c,d,g⟩
theorem YE{K:Hp}{Q:Unit->Shared->Prop}(M:A.units+1<cLine)(I:As X pins σ H s)(g:Rh H a y v K)(C:AX y u)(D:AX v r)(h:∀B,As X pins σ K B->Q () B):wpAny (model X.prog X.w) A (setItem (.ref a) u r) Q E s:=by
 rcases g with⟨f,k,e,t,l,w⟩ |⟨f,k,b,e,t,J,l,w⟩
 ·subst t w;obtain⟨z,p,L,d,x⟩:=mY I.Bx e;have m:L.length<=sizeLine:=by rw[<-d.length];exact z
  have o:(putK f k v).length<=sizeLine:=by have:=Gk f k v;lia
  refine wpAny_setItem_pairs (hsz:=m) (SN C) x fun F i n=>h _ ?_;have N:∃q,F.get? a=some q:=let⟨q,_,_,j,_⟩:=i;⟨q,j⟩;exact QM I (by rw[e];exact True.intro) n N (kv o p (d.put k D) i)
 ·subst t w;cases(show u=Value.ref b from C);obtain⟨z,p,xs,d,x⟩:=iq I.Bx e;have m:xs.length<=sizeLine:=by rw[<-zE d];exact z
  have o:(putK f k v).length<=sizeLine:=by have:=Gk f k v;lia
  refine wpAny_setItem_heap (hsz:=m) (vU M) (JV I.Bx J) x fun F i n=>h _ ?_;obtain⟨q,T,U,j,S,R,P,Y,O⟩:=i;refine QM I (by rw[e];exact True.intro) n ⟨q,j⟩ ⟨o,p,_,(d.put k J D).keeps fun c V G=>?_,q,T,U,j,S,R,P,O⟩;rw[Ac (Sv G e (fun z=>nomatch z))];exact G
end
section
variable{σ:St}{H:Hp}{kvs:List (Key×V)}{k:Key}
end
def nq(i:Expr):Prop:=∀a b,subscripted i false a b=operate [a,b] (getItem a b)
theorem dY{w:World}{env:Env}{b a:Expr}{k:Pos}{T m:String}(p:typeLookup (.type T) "__getitem__"=pure (some (.builtin m)))(n:nq a)(h:wpAny (model prog w) A (eval b env) (fun o f=>wpAny (model prog w) A (eval a env) (fun i c=>c.TypeIs o T/\wpAny (model prog w) A (getItem o i) Q E c) E f) E s):wpAny (model prog w) A (eval (.Subscript b a k) env) Q E s:=by
 refine Subscript_ (yG h (fun o f j=>yG j (fun i c d=>?_) fun Y Y x=>x) fun Y Y x=>x);obtain⟨l,d⟩:=d;unfold subscriptTail;refine za ?_;rw[getitemInPython_of_ne l.not_modules];refine za (wpAny_specialOf l p ?_);have fin:wpAny (model prog w) A (subscripted a false o i) (fun r e=>wpAny (model prog w) A (letTemporaryGo b o r>>=fun Y=>pure r) Q E e) E c:=by rw[n o i];exact wpAny_operating (yG d (fun r e g=>za (wpAny_letTemporaryGo (zr g))) fun Y Y x=>x)
 first|exact zr (za fin) |exact za (zr (za fin)) |exact za fin
theorem TB{X:Cx}{c:List (Addr×Obj)}{σ:St}{H:Hp}{y:V}{o:Option V}(I:As X c σ H s)(g:CP H a y o):s.TypeIs (.ref a) "dict":=by
 rcases g with⟨d,k,e,Y,Y⟩ |⟨d,k,b,e,Y,Y,Y⟩;·obtain⟨Y,Y,h,Y,f⟩:=P8 I.Bx e;exact f.typeIs
 ·obtain⟨Y,Y,xs,Y,f⟩:=P7 I.Bx e;exact f.typeIs
inductive Zt(Q:VK)(x:V)(y:V)(H2:Hp):Prop|mk(a v:_):x= .ref a->CP H2 a y (some v)->Q v H2->Zt Q x y H2
def Zu(b a:TE):TE:=fun σ H Q=>b σ H fun x c=>a σ c (Zt Q x)
def dX(c d:TE):TE:=fun σ H Q=>c σ H fun y e=>d σ e fun x b=>∃a o,x= .ref a/\CP b a y o/\Q (.bl (!o.isSome)) b
def RT(e c d:TE):TS:=fun D σ H=>d σ H fun v h=>e σ h fun x g=>c σ g fun y f=>∃a b,x= .ref a/\Rh f a y v b/\D.nx σ b
section
variable{i value:Expr}{pos pos' tpos:Pos}{td ty tv:TE}
theorem A8(n:X.A.units+1<cLine)(q:PE X o td)(r:PE X i ty)(p:nq i:=by exact fun Y Y=>rfl):PE X (.Subscript o i pos) (Zu td ty):=by intro b s σ H Q I h;refine dY PySem.F.slot_dict_getitem.lookup p (Br (q b s σ H _ I h) fun u f ⟨x,A,w,k,m⟩=>Br (r b f σ A _ w m) fun E D d=>?_);obtain⟨y,z,e,j,a,v,ex,g,l⟩:=d;subst ex;obtain rfl:u=Value.ref a:=k;exact⟨TB e g,YI n e g j fun B C t c=>⟨v,z,t,c,l⟩⟩
theorem OW(m:X.A.units+1<cLine)(p:PE X i ty)(n:PE X o td):PC X .NotIn i o (dX ty td):=by intro b s σ H Q I h;refine Br (p b s σ H _ I h) fun B d ⟨y,w,t,e,k⟩=>Br (n b d σ w _ t k) fun u A c=>?_;obtain⟨x,v,r,f,a,l,ex,g,j⟩:=c;subst ex;obtain rfl:u=Value.ref a:=f;exact gx m r g e fun z q=>⟨.bl (!l.isSome),v,q,rfl,j⟩
theorem CW(q:X.A.units+1<cLine)(w:PE X o td)(z:PE X i ty)(p:PE X value tv)(t:swapsWith value (some (.Subscript o i pos')) pos.line X.env=pure false):PS X (.Assign [.Subscript o i pos'] value pos) (RT td ty tv):=by intro b s σ H D I h;refine wpAny_Assign_Subscript (Br (p b s σ H _ I h) fun r e ⟨v,J,E,k,n⟩=>Br (w b e σ J _ E n) fun u d ⟨x,G,C,j,m⟩=>Br (z b d σ G _ C m) fun M L c=>?_) t;obtain⟨y,N,B,f,a,F,ex,g,l⟩:=c;subst ex;obtain rfl:u=Value.ref a:=j;exact YE q B g f k fun K A=>⟨σ,F,A,l⟩
end
theorem cP{P:Program}{w:World}{H:Hp}(h:Heap)(a:sysModules<h.objs.size):B7 P w H (h.push {cls:= .type "dict",data:= .dict #[]}) h.objs.size (.dK []):=⟨zx _,zL.mpr (zN (zV a)),[],.nil,Heap.DictOf.new h⟩
theorem cO{P:Program}{w:World}{H:Hp}(h:Heap)(a:sysModules<h.objs.size):B7 P w H (h.push {cls:= .type "dict",data:= .dict #[]}) h.objs.size (.dT []):=⟨zx _,zL.mpr (zN (zV a)),[],.nil,_,#[],0,zM _ rfl,⟨rfl,rfl,rfl⟩,rfl,rfl,wa⟩
def iX:TE:=fun Y H Q=>∀p,H p=none->Q (.ref p) (Av H p (.dK []))
section
variable{pos:Pos}
theorem Sk:PE X (.Dict [] [] pos) iX:=fun b s σ H Q I h=>wpAny_Dict_empty ⟨.ref s.heap.objs.size,_,I.laid (a:=s.heap.objs.size) (o:= .dK []) (t':=s.toks) (fun Y Y q=>zi _ q) (ze _) (cP s.heap I.nY),rfl,h _ (I.Bx.fresh (ze _))⟩
end
structure M2(X:Cx)(o:Expr)(m:Str)(apos:Pos)(e f:Expr)(cpos:Pos):Prop where
 base:attributeBase o m X.env (eval o X.env)=eval o X.env
 qZ:((backTo cpos (starEach [e,f] X.env)).all (fun x=>!x.1)&&(backToKw cpos (keywordEach [] X.env)).all (fun x=>x.1.isSome)&&decide (([e,f]:List Expr).length+([]:List Keyword).length+(if([]:List Keyword).isEmpty then 0 else 1)<30))=true
 line:(apos.endLine==cpos.line)=true
 trees:backTo cpos (starEach [e,f] X.env)=[(false,eval e X.env),(false,eval f X.env)]
def qN(H:Hp)(a:Addr):Prop:=(∃b,Rd H a (.dK b))\/∃b,Rd H a (.dT b)
theorem jR{X:Cx}{f:List (Addr×Obj)}{σ:St}{H:Hp}(I:As X f σ H s)(d:qN H a):s.TypeIs (.ref a) "dict"/\(∀b,Value.ref a= .ref b->∃c,s.heap.get? b=some c/\c.dict=none)/\(a==sysModules)=false:=by
 rcases d with⟨h,e⟩ |⟨h,e⟩;·obtain⟨Y,i,l,Y,g⟩:=P8 I.Bx e;refine⟨g.typeIs,fun b q=>?_,i⟩;cases q;obtain⟨c,Y,Y,k,j,Y⟩:=g;exact⟨c,k,j.2.1⟩
 ·obtain⟨Y,i,xs,Y,g⟩:=P7 I.Bx e;refine⟨g.typeIs,fun b q=>?_,i⟩;cases q;obtain⟨c,Y,Y,k,j,Y⟩:=g;exact⟨c,k,j.2.1⟩
section
variable{σ:St}{H:Hp}{y d:V}{r:Value}{o:Option V}
theorem ky(v:A.units+1<cLine)(I:As X pins σ H s)(g:CP H a y o)(q:AX y u)(t:AX d r)(h:∀n p,As X pins σ H p->AX (o.getD d) n->Q n p):wpAny (model X.prog X.w) A (call (.builtin "dict.get") [.ref a,u,r]) Q E s:=by
 rcases g with⟨i,k,e,m,l⟩ |⟨i,k,b,e,m,w,l⟩;·subst m;obtain⟨z,j,x,c,f⟩:=P8 I.Bx e;refine call_meetsIn uu f.typeIs sv (sr _ _ _) (meets_dict_get_default (BN X.prog X.w) a (SN q) j r) ⟨_,f.mapOf,h _ _ (I.tok _) ?_⟩;rw[l];exact(c.val k).getD t
 ·subst m;cases(show u=Value.ref b from q);obtain⟨z,j,xs,c,f⟩:=P7 I.Bx e;refine call_meetsIn uu f.typeIs sv (sr _ _ _) (meetsH_dict_get_default (tupleKind (BN X.prog X.w)) a b j r) ⟨vU v,k,xs,JV I.Bx w,f,h _ _ (I.tok _) ?_⟩;rw[l];exact(c.val k).getD t
end
def iY(f d e:TE):TE:=fun σ H Q=>f σ H fun x c=>∃a,x= .ref a/\qN c a/\d σ c fun y g=>e σ g fun z b=>∃o,CP b a y o/\Q (o.getD z) b
section
variable{f:Expr}{cpos:Pos}{td ty tx:TE}
theorem aU(B:X.A.units+1<cLine)(C:PE X o td)(E:PE X e ty)(D:PE X f tx)(m:M2 X o "get" apos e f cpos):PE X (.Call (.Attribute o "get" apos) [e,f] [] cpos) (iY td ty tx):=by intro b s σ H Q I h;refine wpAny_Call_method m.base m.qZ m.line PySem.F.plainAttrs_dict uu PySem.F.type_dict_get (Br (C b s σ H _ I h) fun u p i=>?_);obtain⟨x,M,j,t,a,ex,d,A⟩:=i;subst ex;obtain rfl:u=Value.ref a:=t;obtain⟨l,k,Y⟩:=jR j d;exists l,k;rw[m.trees];refine uC rfl (qt (vX (Br (E b p σ M _ j A) fun S n ⟨y,L,J,r,w⟩=>vX (Br (D b n σ L _ J w) fun T P ⟨z,K,G,q,R,g,v⟩=>tQ ?_))));exact ky B G g r q fun N O F c=>⟨_,K,F,c,v⟩
end
section
variable{σ:St}{H:Hp}{kvs:List (Key×V)}
end
section
variable{σ:St}{H:Hp}{y:V}
end
section
variable{w:World}
end
section
variable{σ:St}{H:Hp}{h':Heap}
theorem As.Lr{ch:List Addr}(I:As X pins σ H s)(k:∀b o,b∉ch->s.heap.get? b=some o->h'.get? b=some o)(d:∀b∈ch,Cg X pins H b):As X pins σ H {s with heap:=h',toks:=t'}:=by
 have f:∀b u,H b=some u->b∉ch:=fun b u e z=>by have q:=(d b z).1;rw[q]at e;cases e
 refine I.step (g':=s.gens) (d':=s.drawn) (ch:=ch) (fun b g=>⟨(d b g).2.2.2.1,(d b g).2.1,(d b g).2.2.2.2.1,(d b g).2.2.2.2.2⟩) (fun b o Y Y a e Y=>k b o a e) (fun b o Y Y a e Y=>⟨o.slots,k b o a e⟩) (fun Y Y Y Y n=>n) (fun b o a e=>⟨o,k b o a e⟩) (fun Y Y e=>e) (fun Y Y Y e=>e) (fun b ps e=>⟨#[],by rw[e];simp⟩) (fun m i=>?_) (fun b u e=>?_) I.bare;·obtain⟨o,j,l,h,r⟩:=i;exact⟨o,j,l,k _ o (fun z=>(d _ z).2.1 rfl) h,r⟩
 ·refine(I.Bx b u e).Ip (fun c v a q=>k c v ?_ q) (fun Y q=>q) fun Y Y q=>q;rcases a with z|z;·rw[z];exact f b u e
  ·exact f c _ z
theorem As.J0{ch:List Addr}{T:Addr}{i:HO}(I:As X pins σ H s)(k:∀b o,b∉ch->s.heap.get? b=some o->h'.get? b=some o)(f:∀b∈ch,Cg X pins H b)(l:s.heap.objs.size<=T)(j:B7 X.prog X.w (Av H T i) h' T i):As X pins σ (Av H T i) {s with heap:=h',toks:=t'}:=by
 have h:H T=none:=I.Bx.fresh l;have g:∀b u,H b=some u->b∉ch:=fun b u e z=>by have q:=(f b z).1;rw[q]at e;cases e
 refine I.step (g':=s.gens) (d':=s.drawn) (ch:=ch) (fun b d=>⟨(f b d).2.2.2.1,(f b d).2.1,(f b d).2.2.2.2.1,(f b d).2.2.2.2.2⟩) (fun b o Y Y a e Y=>k b o a e) (fun b o Y Y a e Y=>⟨o.slots,k b o a e⟩) (fun b o Y e n=>?_) (fun b o a e=>⟨o,k b o a e⟩) (fun b xs e=>?_) (fun b o u e=>?_) (fun b ps e=>⟨#[],?_⟩) (fun m t=>?_) (fun b u e=>?_) I.bare;·rw[Ac (zV (zF (zA e) l))];exact n
 ·rw[Ac (Ab e h)];exact e
 ·rw[Ac (Ab e h)];exact e
 ·rw[Ac (Ab e h),e];simp
 ·obtain⟨o,w,x,p,r⟩:=t;exact⟨o,w,x,k _ o (fun z=>(f _ z).2.1 rfl) p,r⟩
 ·by_cases d:b=T;·subst d;rw[Aa]at e;cases e;exact j
  ·rw[Ac d]at e;refine(I.Bx b u e).Ip (fun c v a q=>k c v ?_ q) (fun c q=>by rw[Ac (Ab q h)];exact q) fun c xs q=>by rw[Ac (Ab q h)];exact q
   rcases a with z|z;·rw[z];exact g b u e
   ·exact g c _ z
theorem As.lock{d:Addr}{u:HO}(I:As X pins σ H s)(h:H d=some u)(c:iC (some u)):∃a,As X pins σ (Av H d (.Hy a u)) s:=by
 have x:=I.Bx d u h;have ex:∃a,s.heap.get? d=some a:=by cases u with|lst xs=>obtain⟨Y,Y,Y,Y,e⟩:=x;exact⟨_,e⟩ |dK g=>obtain⟨Y,Y,Y,Y,o,Y,Y,e,Y⟩:=x;exact⟨o,e⟩ |dT g=>obtain⟨Y,Y,Y,Y,o,Y,Y,e,Y⟩:=x;exact⟨o,e⟩ |set S n=>obtain⟨o,Y,Y,Y,e,Y⟩:=x;exact⟨o,e⟩ |ins C k j=>obtain⟨Y,Y,Y,e,Y⟩:=x;exact⟨_,e⟩ |ext i=>obtain⟨Y,⟨Y,e⟩,Y⟩:=x;exact⟨_,e⟩ |_=>exact False.elim c
 obtain⟨a,e⟩:=ex;have f:B7 X.prog X.w (Av H d (.Hy a u)) s.heap d (.Hy a u):=by
  refine⟨e,x.Ip (fun b v Y q=>q) (fun b q=>?_) fun b xs q=>?_⟩;·rw[Ac (fun z=>by rw[z,h]at q;cases q;exact c)];exact q
  ·rw[Ac (fun z=>by rw[z,h]at q;cases q;exact c)];exact q
 exact⟨a,I.write (x:=d) (e:=d) (t':=s.toks) (h':=s.heap) (by rw[h];exact c) (.inl rfl) (fun b v Y q=>q) ⟨a,e⟩ f⟩
theorem As.mz{d:Addr}{u:HO}(I:As X pins σ H s)(h:H d=some u)(c:iC (some u)):∀b a,X.H_0 d≠some (.Hy b a):=fun b a e=>by have q:=I.base.frzs d b a e;rw[h]at q;cases q;exact c
theorem As.unlock{d:Addr}{l:Obj}{u:HO}(I:As X pins σ H s)(h:H d=some (.Hy l u))(w:∀i g,X.H_0 d≠some (.Hy i g)):As X pins σ (Av H d u) s:=by
 have a:∀b o,H b=some o->(∀i g,o≠ .Hy i g)->b≠d:=fun b o e j z=>by rw[z,h]at e;cases e;exact j _ _ rfl
 have f:∀b,H b=none->b≠d:=fun b e z=>by rw[z,h]at e;cases e
 refine⟨I.ok,I.os,I.bare,⟨I.base.keep,I.base.slot,fun b o e n k=>?_,I.base.there,fun b xs e=>?_,fun b o x e=>?_,fun b ps e=>?_⟩,I.loc,I.cell,?_,fun x c e=>?_,fun p t=>?_,fun b o e=>?_,I.len⟩;·rw[Ac (f b (I.base.free b o e n k))];exact I.base.free b o e n k
 ·have q:=I.base.tups b xs e;rw[Ac (a b _ q (fun Y Y z=>nomatch z))];exact q
 ·have q:=I.base.frzs b o x e;rw[Ac (fun z=>by rw[z]at e;exact w _ _ e)];exact q
 ·obtain⟨m,q⟩:=I.base.tbls b ps e;exact⟨m,by rw[Ac (a b _ q (fun Y Y z=>nomatch z))];exact q⟩
 ·rw[Ac (f _ I.free)];exact I.free
 ·rw[Ac (f c (I.CN x c e))];exact I.CN x c e
 ·obtain⟨e,n,r⟩:=I.pin p t;exact⟨e,by rw[Ac (f _ n)];exact n,r⟩
 ·by_cases hb:b=d;·rw[hb,Aa]at e;cases e;rw[hb];obtain⟨Y,x⟩:=I.Bx d _ h;exact x.Ip (fun c v Y q=>q) (fun c q=>by rw[Ac (a c _ q (fun Y Y z=>nomatch z))];exact q) fun c xs q=>by rw[Ac (a c _ q (fun Y Y z=>nomatch z))];exact q
  ·rw[Ac hb]at e;exact(I.Bx b o e).Ip (fun c v Y q=>q) (fun c q=>by rw[Ac (a c _ q (fun Y Y z=>nomatch z))];exact q) fun c xs q=>by rw[Ac (a c _ q (fun Y Y z=>nomatch z))];exact q
end
def iW(t:TE):TE:=fun σ H Q=>∃d u,H d=some u/\iC (some u)/\∀a,t σ (Av H d (.Hy a u)) fun v b=>b d=some (.Hy a u)/\Q v (Av b d u)
theorem fk{t:TE}(h:PE X e t):PE X e (iW t):=by intro a s σ H Q I b;obtain⟨d,u,g,f,b⟩:=b;obtain⟨i,l⟩:=I.lock g f;refine Br (h a s σ _ _ l (b i)) fun v m c=>?_;obtain⟨x,n,k,r,j,q⟩:=c;exact⟨x,_,k.unlock j (I.mz g f),r,q⟩
theorem US{a:List (Addr×Obj)}{σ:St}{H:Hp}{R:It->Hp->Prop}{J:It}{c:Nat->Heap->Prop}{tk:Nat}(I:As X a σ H s)(o:Obj)(T:Turn X.prog X.w X.K tg J [s.heap.objs.size] s.heap.objs.size c)(d:c 0 (s.heap.push o))(q:R J H):pN X a σ tg R (.ref s.heap.objs.size) {s with heap:=s.heap.push o,toks:=tk}:=by refine⟨s.heap.objs.size,[s.heap.objs.size],c,J,H,rfl,I.kept fun b g e=>zi _ e,T,d,fun b f=>?_,q⟩;have e:b=s.heap.objs.size:=‹f›;subst e;exact I.Ka (ze _) (I.Bx.fresh (ze _))
def nu(a c:Int)(n:Nat):It:=⟨fun i Y=>i<n,fun i H x b=>b=H/\x= .int (a+(i:Nat)*c),fun i Y=>n<=i⟩
theorem Rv{P:Program}{w:World}{K:Frag}(f:Addr)(l c:Int)(n:Nat):Turn P w K tg (nu l c n) [f] f (fun i h=>IsRangeIter h f (l+(i:Nat)*c) ((n:Int)-(i:Nat)) c)where
 mem:=by simp
 obj:=fun i h a b g=>by have e:b=f:=‹g›;subst e;exact⟨_,a,fun v z=>nomatch z⟩
 keep:=fun i h p a k=>k f (by simp) _ a
 item:=by intro X x q y u i d s σ H E I m a r;subst x q y;obtain⟨G,F,N,D,C,B⟩:=m f (by simp);have W:=Walks.range (prog:=X.prog) (w:=X.w) (I.ok.hd u) f l c n;refine W.item i s _ _ r a fun v p J M j L=>?_;obtain⟨t,rfl⟩:=M;have R:As X d σ H {s with heap:=p,toks:=J}:=I.turned (fun b o g e=>L b o ‹g› e) G F D C B;exact⟨_,rfl,Tp (s:={s with heap:=p,toks:=J}) (n:="range_iterator") j rfl rfl ⋯ ⟨.int (l+(i:Nat)*c),H,R,⟨t,rfl⟩,⟨rfl,rfl⟩,j,fun b g=>(m b g).1⟩⟩
 done:=by intro X x q y u i d s σ H E I m a r;subst x q y;obtain⟨G,F,N,D,C,B⟩:=m f (by simp);exact rT (I.ok.hd u) a (by have:n<=i:=r;lia) fun p O=>⟨rfl,I.turned (t':=s.toks) (fun b o g e=>O b o g e) G F D C B⟩
 self:=fun A i s Q E a h=>rW a h
def nZ(i j c:Int)(n:Nat):Prop:=c≠0/\c.natAbs<1073741824/\Builtin.Range.small i j c=true/\Builtin.Range.rangeSize i j c=n
theorem nZ.neg{i j:Int}(d: -(2^62)<=i)(b:i<2^62)(c: -(2^62)<=j)(a:j<2^62):nZ i j (-1) (i-j).toNat:=⟨⋯,⋯,PySem.W.small_down d b c a,PySem.W.rangeSize_downNat i j⟩
def mH(b:TA):TI:=fun σ H R=>b σ H fun a d=>∃(i j c:Int)(n:Nat),a=[.int i,.int j,.int c]/\nZ i j c n/\R (nu i c n) d
theorem XQ{a b c:Expr}{x:TA}{p f:Pos}(D:Gl X "range")(C:X.mg "range"=none)(E:PA X [a,b,c] x)(B:starEach [a,b,c] X.env=(false,eval a X.env)::starEach [b,c] X.env:=by rfl)(w:(backTo f (starEach [b,c] X.env)).any (·.1)=false:=by rfl):PI X tg (.Call (.Name "range" p) [a,b,c] [] f) (mH x):=by
 intro d s σ H R I h;refine Call_ (Gn I D C boot_range (yK (Br (E f d s σ H _ I h) fun us l v=>?_) B w));obtain⟨Q,P,O,y,A⟩:=v;obtain⟨i,j,k,n,e,⟨M,L,K,J⟩,q⟩:=A;subst e;cases y with
 |cons r g=>
  cases g with
  |cons z g=>
   cases g with
   |cons u g=>
    cases g;obtain⟨t,rfl⟩:=r;obtain⟨t',rfl⟩:=z;obtain⟨m,rfl⟩:=u;refine call_range_3 M ?_ (.inl (sy L));refine wpAny_pyIter_range (IsRange.new ..) K ?_;have N:As X d σ P {l with heap:=l.heap.push {cls:= .type "range",data:= .fields #[.int i t,.int j t',.int k m]}}:=O.kept (t':=l.toks) fun b o e=>zi _ e;refine US (tk:=l.toks) N _ (Rv _ i k n) ?_ q;have G:i+((0:Nat):Int)*k=i:=by simp
    have F:(n:Int)-((0:Nat):Int)=Builtin.Range.rangeSize i j k:=by rw[J];simp
    show IsRangeIter _ _ (i+((0:Nat):Int)*k) ((n:Int)-((0:Nat):Int)) k;rw[G,F];exact zM _ rfl
theorem Vw{h c:Int}{n:Nat}{g:TG}{k:TS}{D:Ends}{σ:St}{H:Hp}(d:Nat->St->Hp->Prop)(s:d 0 σ H)(q:∀i σ H,i<n->d i σ H->g (.int (h+(i:Nat)*c)) σ H fun a j=>k {D with nx:=d (i+1),ct:=d (i+1),bk:=D.nx} a j)(r:∀σ H,d n σ H->D.nx σ H):∃W:Nat->Nat->St->Hp->Prop,(∃m,W 0 m σ H)/\∀i m σ H,W i m σ H->((nu h c n).stop i H/\D.nx σ H)\/((nu h c n).go i H/\∃N:St->Hp->Prop,(∀b f,N b f->∃l,l<m/\W (i+1) l b f)/\∀x f,(nu h c n).Ul i H x f->g x σ f fun a j=>k {D with nx:=N,ct:=N,bk:=D.nx} a j):=by
 exists fun i m σ H=>m=n-i/\i<=n/\d i σ H,⟨n,by simp,zx _,s⟩;rintro i m σ H ⟨rfl,t,p⟩;by_cases hlt:i<n;·refine .inr ⟨hlt,d (i+1),fun b f o=>⟨n-(i+1),∅,rfl,hlt,o⟩,fun x f y=>?_⟩;obtain⟨e,y⟩:=y;subst e y;exact q i σ _ hlt p
 ·have e:i=n:=∅;subst e;exact .inl ⟨ze _,r σ H p⟩
def iE(x:Str):It:=⟨fun i Y=>i<x.cps.size,fun i H v a=>a=H/\∃c,x.cps[i]?=some c/\v= .str ⟨#[c]⟩,fun i Y=>x.cps.size<=i⟩
theorem Ru{P:Program}{w:World}{K:Frag}(f:Addr)(x:Str)(t:Tok)(m:String)(g:m="str_ascii_iterator"\/m="str_iterator"):Turn P w K tg (iE x) [f] f (fun i h=>h.IsStrIter f m x t i)where
 mem:=by simp
 obj:=fun i h a b j=>by have e:b=f:=‹j›;subst e;obtain⟨o,e,c,d⟩:=a;exact⟨o,e,fun v z=>by rw[d]at z;cases z⟩
 keep:=fun i h q a k=>let⟨o,ho,r⟩:=a;⟨o,k f (by simp) o ho,r⟩
 item:=by
  intro X O J R p i l s σ H E I y a M;subst O J R;obtain⟨G,F,f2,D,C,B⟩:=y f (by simp);have W:Walks X.prog X.w X.A f [f] [f] x.cps.size (SignAt x) (fun i h=>h.IsStrIter f m x t i):=by
   rcases g with e|e;·rw[e];exact Walks.strAscii (I.ok.hd p) f x t
   ·rw[e];exact Walks.strWide (I.ok.hd p) f x t
  have L:["enumerate","zip","dict_itemiterator","dict_reverseitemiterator","odict_iterator","itertools.zip_longest","itertools.pairwise"].contains m=false:=by
   rcases g with e|e;·rw[e];decide
   ·rw[e];decide
  refine W.item i s _ _ M a fun v q T Z n V=>?_;obtain⟨c,u,N,rfl⟩:=Z;have I1:As X l σ H {s with heap:=q,toks:=T}:=I.turned (fun b o j e=>V b o ‹j› e) G F D C B;obtain⟨oi,e,cc,dd⟩:=id n;exact⟨_,rfl,Tp (s:={s with heap:=q,toks:=T}) e cc dd L ⟨.str ⟨#[c]⟩,H,I1,⟨u,rfl⟩,⟨rfl,c,N,rfl⟩,n,fun b j=>(y b j).1⟩⟩
 done:=by
  intro X O J R p i l s σ H E I y a M;subst O J R;obtain⟨G,F,f2,D,C,B⟩:=y f (by simp);have U:x.cps[i]?=none:=Array.getElem?_eq_none M;rcases g with e|e;·rw[e]at a;exact wpAny_pyNext_ascii_end (I.ok.hd p) a U fun q S=>⟨rfl,I.turned (t':=s.toks) (fun b o j e=>S b o j e) G F D C B⟩
  ·rw[e]at a;exact wpAny_pyNext_wide_end (I.ok.hd p) a U fun q S=>⟨rfl,I.turned (t':=s.toks) (fun b o j e=>S b o j e) G F D C B⟩
 self:=fun A i s Q E a h=>by
  rcases g with e|e;·rw[e]at a;exact wpAny_pyIter_striter_ascii a h
  ·rw[e]at a;exact wpAny_pyIter_striter_wide a h
def px(te:TE):TI:=fun σ H R=>te σ H fun v a=>∃x,v= .str x/\R (iE x) a
theorem UR{X:Cx}{te:TE}(i:PE X e te):PI X tg e (px te):=by
 intro a s σ H R I h;refine Br (i a s σ H _ I h) fun v c b=>?_;obtain⟨y,j,f,g,x,ex,q⟩:=b;subst ex;obtain⟨t,rfl⟩:=g;cases d:x.cps.all (· <128);·exact wpAny_pyIter_wide d (US (tk:=c.toks) f _ (Ru _ x t "str_iterator" (.inr rfl)) ⟨_,zM _ rfl,rfl,rfl⟩ q)
 ·exact wpAny_pyIter_ascii d (US (tk:=c.toks) f _ (Ru _ x t "str_ascii_iterator" (.inl rfl)) ⟨_,zM _ rfl,rfl,rfl⟩ q)
section
variable{w:World}
end
section
variable{σ:St}{H:Hp}{d:Addr}{o:Obj}
end
section
variable{P:Program}{w:World}{K:Frag}{d:Addr}{o:Obj}{es:Array DictEntry}{ep:Nat}
end
section
variable{td:TE}{cpos:Pos}
end
def iG(K:Frag)(a:Addr):It:=⟨fun i H=>∃(xs:List V)(x:V),AJ K H a xs/\xs[i]?=some x,fun i H v b=>∃T x,v= .ref T/\H T=none/\b=Av H T (.tup [.int (i:Nat),x])/\∀xs,AJ K H a xs->xs[i]?=some x,fun i H=>∃xs:List V,AJ K H a xs/\xs.length<=i⟩
theorem Xy{P:Program}{w:World}{K:Frag}{kk:Nat}{t:Pos}(a e f:Addr):Turn P w K (.Tuple elts kk t) (iG K a) [e,f] e (fun i h=>(∃c,IsEnum h e f ((i:Nat):Int) c)/\h.IsListIter f a i/\e≠f)where
 mem:=by simp
 obj:=fun i h l b j=>by
  obtain⟨⟨c,g⟩,⟨o,O,U,hd⟩,Y⟩:=l;have e':b=e\/b=f:=‹j›;rcases e' with z|z;·rw[z];exact⟨_,g,fun v q=>nomatch q⟩
  ·rw[z];exact⟨o,O,fun v q=>by rw[hd]at q;cases q⟩
 keep:=fun i h h' l k=>let⟨⟨c,g⟩,hi,d⟩:=l;⟨⟨c,k e (by simp) _ g⟩,hi.at fun o q=>k f (by simp) o q,d⟩
 item:=by
  intro X Z N hK U i n s σ H E I D l S;subst Z N hK;obtain⟨⟨c,g⟩,m,d⟩:=l;obtain⟨xs,x,C,M⟩:=S;obtain⟨L,G,p,hz⟩:=I.list C;obtain⟨u,hu,ru⟩:=G.get M;have B:e<s.heap.objs.size:=zA g;have R:f<s.heap.objs.size:=by obtain⟨Y,q,Y⟩:=m;exact zA q
  refine wpAny_pyNext_enum_item g m p.isList (x:=u) ‹hu› d fun h' O y hT a0 hk=>?_;refine⟨_,rfl,vT (s:={s with heap:=h',toks:=s.toks+1}) O fun r T F=>?_⟩;have W:r.get? s.heap.objs.size=some {cls:= .type "tuple",data:= .seq #[.int i s.toks,u]}:=(F.2 _ (xl B)).trans hT;have J:B7 X.prog X.w (Av H s.heap.objs.size (.tup [.int (i:Nat),x])) r s.heap.objs.size (.tup [.int (i:Nat),x]):=⟨by show 2<=sizeLine;decide,[.int i s.toks,u],.cons ⟨_,rfl⟩ (.cons ru .nil),⟨_,W,rfl,_,rfl⟩⟩;have I1:As X n σ (Av H s.heap.objs.size (.tup [.int (i:Nat),x])) {s with heap:=r,toks:=s.toks+1}:=I.J0 (ch:=[e,f]) (fun b ob j q=>(F.2 b (fun z=>j (by simp[z]))).trans (hk b ob (fun z=>j (by simp[z])) (fun z=>j (by simp[z])) q)) D (ze _) J;refine⟨.ref s.heap.objs.size,_,I1,rfl,⟨_,x,rfl,I.Bx.fresh (ze _),rfl,fun ys hy=>by rw[I.SG hy C];exact M⟩,⟨⟨u,?_⟩,y.at fun o q=>(F.2 f (zN d)).trans q,d⟩,fun b j=>?_⟩;·have e1:((i+1:Nat):Int)=(i:Int)+1:=∅;rw[e1];exact T
  ·have V:b<s.heap.objs.size:=by
    have e':b=e\/b=f:=‹j›;rcases e' with z|z;·rw[z];exact B
    ·rw[z];exact R
   rw[Ac (zV V)];exact(D b j).1
 done:=by intro X Z N hK U i n s σ H E I D l S;subst Z N hK;obtain⟨⟨c,g⟩,m,d⟩:=l;obtain⟨xs,C,M⟩:=S;obtain⟨L,G,p,hz⟩:=I.list C;obtain⟨f0,f1,f2,f3,f4,f5⟩:=D f (by simp);have hl:=G.length;exact wpAny_pyNext_enum_end (I.ok.hd U) g m p.isList (by simp;lia) fun h' eb=>⟨rfl,I.turned (t':=s.toks) (fun b o j q=>eb b o j q) f0 f1 f3 f4 f5⟩
 self:=fun A i s Q E l h=>let⟨⟨_,g⟩,_⟩:=l;wq g h
def mL(K:Frag)(d:TA):TI:=fun σ H R=>d σ H fun c b=>∃a xs,c=[.ref a]/\AJ K b a xs/\R (iG K a) b
theorem L4{X:Cx}{m:TA}{p g f:Pos}{x:Nat}(F:Gl X "enumerate")(D:X.mg "enumerate"=none)(J:PA X [e] m)(B:starEach [e] X.env=[(false,eval e X.env)]:=by rfl):PI X (.Tuple elts x f) (.Call (.Name "enumerate" p) [e] [] g) (mL X.K m):=by
 intro d s σ H R I h;refine Call_ (Gn I F D boot_enumerate (yK (Br (J g d s σ H _ I h) fun us c k=>?_) B rfl));obtain⟨N,o,j,u,v⟩:=k;obtain⟨a,xs,ex,C,q⟩:=v;subst ex;cases u with
 |cons r t=>
  cases t;cases r;obtain⟨y,O,w,P⟩:=j.list C;refine call_enumerate_list w.isList fun K n l A E=>wq n ?_;have M:As X d σ o {c with heap:=K}:=j.kept (t':=c.toks) E;refine⟨c.heap.objs.size+1,[c.heap.objs.size+1,c.heap.objs.size],_,_,o,rfl,M,Xy a (c.heap.objs.size+1) c.heap.objs.size,⟨⟨.none,n⟩,l,vZ _⟩,fun b G=>?_,q⟩;have L:b=c.heap.objs.size+1\/b=c.heap.objs.size:=‹G›;have i:c.heap.objs.size<=b:=by
   rcases L with z|z;·rw[z];exact u_ _ _
   ·rw[z];exact ze _
  exact j.Ka i (j.Bx.fresh i)
end L2
namespace pU
open PySem PyProof.Rows
end pU
namespace TL
open PySem PySem.Builtin PySem.Builtin.Str PySem.StrLaws
abbrev tl(x:Str):List Nat:=x.cps.toList
theorem bL(x:Str):x.length=(tl x).length:=by simp[tl,Str.length]
theorem cG{y:Str}(h:tl x=tl y):x=y:=Str.ext' (Array.toList_inj.mp h)
theorem Ot(x y:Str):tl (x++y)=tl x++tl y:=by show(x++y).cps.toList=_;rw[Str.cps_append,Array.toList_append]
def pre(S l:List Nat):Bool:=l.take S.length==S
theorem kL{y:Str}(c:tl y≠[])(i:Nat):At x y x.length i↔pre (tl y) ((tl x).drop i)=true:=by
 have f:=bL x;have a:=bL y;constructor;·intro h;have b:=h.2;rw[subAt_eq,a]at b;exact b
 ·intro h;have e:((tl x).drop i).take (tl y).length=tl y:=eq_of_beq h;have d:=zT List.length e;rw[zO,yI]at d;have g:0<(tl y).length:=xF.mpr c;refine⟨∅,?_⟩;rw[subAt_eq,a];exact h
def EY(S:List Nat):List (List Nat)->List Nat|[]=>[] |[p]=>p|p::q::r=>p++(S++EY S (q::r))
theorem Es(y:Str):∀a:List Str,tl (Str.join y a)=EY (tl y) (a.map tl) |[]=>rfl|[_]=>rfl|x::z::r=>by show tl (x++y++Str.join y (z::r))=tl x++(tl y++EY (tl y) ((z::r).map tl));rw[Ot,Ot,Es y (z::r),zX]
theorem join_eq(y:Str)(a:List Str):Txt.join y a=Str.join y a:=glued_eq_join y a
end TL
namespace L2
open PySem PySem.Spec PyProof.Rows
theorem Fk:∀{a:List Str}{us:List Value},AG (a.map V.str) us->StrsAre us a|[],_,.nil=> .nil|y::a,_,.cons r t=>by obtain⟨k,rfl⟩:=r;exact .cons y k (Fk t)
section
variable{σ:St}{H:Hp}{Q:VK}
end
theorem GO:YY X "str.join" (fun x xs H Q=>∃a p,∃c:List Str,x= .str a/\xs=[.ref p]/\(AJ X.K H p (c.map V.str)\/Em X.K H p (c.map V.str))/\(c.map (·.length)).sum+c.length*a.length<=16777216/\Q (.str (Txt.join a c)) H):=by
 intro f s σ H x xs v us Q I i e h;obtain⟨a,p,c,rfl,rfl,d,g,h⟩:=h;obtain⟨t,rfl⟩:=i;cases e with
 |cons j e=>
  cases e;cases j;rcases d with d|d;·obtain⟨b,r,⟨o,n,m,u,Y,q⟩,Y⟩:=I.list d;exact PyProof.Rows.join_list (items:=b.toArray) ⟨o,m,u,n,q⟩ (by rw[rj];exact Fk r) g fun t' k=>⟨.str _,H,I.tok k,⟨t',rfl⟩,h⟩
  ·obtain⟨b,r,l,Y⟩:=I.tuple d;exact PyProof.Rows.join_tuple (items:=b.toArray) l (by rw[rj];exact Fk r) g fun t' k=>⟨.str _,H,I.tok k,⟨t',rfl⟩,h⟩
theorem o_{d:String}{C:Str->Prop}{g:Str->V}(b:∀(a:Str)(t:Tok)(s:Shared)(Q:Value->Shared->Prop),C a->(∀(u:Value)(k:Nat),AX (g a) u->Q u {s with toks:=k})->wpX X (call (.builtin d) [.str a t]) Q X.xe s):YY X d (fun x xs H Q=>∃a,x= .str a/\xs=[]/\C a/\Q (g a) H):=by intro c s σ H x xs v us Q I e f h;obtain⟨a,rfl,rfl,i,h⟩:=h;obtain⟨t,rfl⟩:=e;cases f;exact b a t s _ i fun u k r=>⟨g a,H,I.tok k,r,h⟩
theorem HS:YY X "str.isdigit" (fun x xs H Q=>∃a,x= .str a/\xs=[]/\True/\Q (.bl (Txt.isdigit a)) H):=o_ (C:=fun Y=>True) (g:=fun a=> .bl (Txt.isdigit a)) fun Y Y s Y Y h=>PySem.SC.isdigit (h _ s.toks rfl)
theorem Vc:YY X "str.isalpha" (fun x xs H Q=>∃a,x= .str a/\xs=[]/\True/\Q (.bl (Txt.isalpha a)) H):=o_ (C:=fun Y=>True) (g:=fun a=> .bl (Txt.isalpha a)) fun Y Y s Y Y h=>PySem.SC.isalpha (h _ s.toks rfl)
theorem Vd:YY X "str.isalnum" (fun x xs H Q=>∃a,x= .str a/\xs=[]/\True/\Q (.bl (Txt.isalnum a)) H):=o_ (C:=fun Y=>True) (g:=fun a=> .bl (Txt.isalnum a)) fun Y Y s Y Y h=>PySem.SC.isalnum (h _ s.toks rfl)
theorem qU{f:String}{g:Str->Str->V}(c:∀(a b:Str)(t u:Tok)(s:Shared)(Q:Value->Shared->Prop),(∀(v:Value)(k:Nat),AX (g a b) v->Q v {s with toks:=k})->wpX X (call (.builtin f) [.str a t,.str b u]) Q X.xe s):YY X f (fun x xs H Q=>∃a b,x= .str a/\xs=[.str b]/\Q (g a b) H):=by intro e s σ H x xs v us Q I i d h;obtain⟨a,b,rfl,rfl,h⟩:=h;obtain⟨t,rfl⟩:=i;cases d with|cons j d=>cases d;obtain⟨u,rfl⟩:=j;exact c a b t u s _ fun v k r=>⟨g a b,H,I.tok k,r,h⟩
theorem fG:YY X "str.find" (fun x xs H Q=>∃a b,x= .str a/\xs=[.str b]/\Q (.int (Txt.find a b)) H):=qU (g:=fun a b=> .int (Txt.find a b)) fun Y Y Y Y s Y h=>PySem.SC.find (h _ (s.toks+1) ⟨_,rfl⟩)
theorem QV:FH X (.type "int") (fun xs H Q=>∃a n,xs=[.str a]/\PySem.intText? a=some n/\a.length<=640/\Q (.int n) H):=by intro c s σ H xs us Q I b h;obtain⟨a,n,rfl,e,f,h⟩:=h;cases b with|cons d b=>cases b;obtain⟨t,rfl⟩:=d;exact PySem.W.KIN.call_text e f ⟨.int n,H,I.tok _,⟨_,rfl⟩,h⟩
section
variable{to te:TE}
def qS(r:V->List V->Hp->VK->Prop)(b:TE):TE:=fun σ H Q=>b σ H fun x c=>(∃a,x= .str a)/\r x [] c Q
theorem Sj{l:String}{b:Str}{d j:Pos}{r:V->List V->Hp->VK->Prop}(slot:Slot "str" b l)(p:typeOf (.builtin l)=pure (.type "method_descriptor"))(i:YY X l r)(u:PE X o to)(g:attributeBase o b X.env (eval o X.env)=eval o X.env:=by rfl)(f:(d.endLine==j.line)=true:=by rfl):PE X (.Call (.Attribute o b d) [] [] j) (qS r to):=by intro c s σ H Q I h;refine PySem.Call_method0 g f (Br (u c s σ H _ I h) fun v q m=>?_);obtain⟨x,y,w,n,k⟩:=m;obtain⟨⟨a,rfl⟩,k⟩:=k;obtain⟨t,rfl⟩:=_root_.id n;exact⟨"str",_,yc,slot,p,sQ _ _ _,(fun Y e=>nomatch e),uC rfl (PySem.evalArgs_none (i c q σ y _ [] _ [] Q w n .nil k))⟩
end
theorem Fv:Ib X (compareOp .In) (fun x y H Q=>∃(c:Nat)(z:Str),x= .str ⟨#[c]⟩/\y= .str z/\Q (.bl (decide (c∈z.cps.toList))) H):=by intro a s σ H x y v u Q I d b h;obtain⟨c,z,rfl,rfl,q⟩:=h;obtain⟨t,rfl⟩:=d;obtain⟨t',rfl⟩:=b;exact PyProof.Rows.in_str (Bi I q (sk z c).symm)
theorem Du:Ib X (compareOp .NotIn) (fun x y H Q=>∃(c:Nat)(z:Str),x= .str ⟨#[c]⟩/\y= .str z/\Q (.bl (!decide (c∈z.cps.toList))) H):=by intro a s σ H x y v u Q I d b h;obtain⟨c,z,rfl,rfl,q⟩:=h;obtain⟨t,rfl⟩:=d;obtain⟨t',rfl⟩:=b;exact PyProof.Rows.notIn_str (Bi I q (zT Bool.not (sk z c).symm))
theorem IsPart.raw{v:Value}{o:Option Int}(p:IsPart v o):∃l:Option (Int×Tok),v=partValue l/\l.map (·.1)=o:=by cases p with|none=>exact⟨none,rfl,rfl⟩ |int i t=>exact⟨some (i,t),rfl,rfl⟩
def T_(n d:Nat):Option Int->Int|none=>(d:Int) |some i=>max 0 (min (if i<0 then i+(n:Int)else i) (n:Int))
theorem TZ(n d:Nat)(o:Option Int):T_ n d o=((HT.CS n d o:Nat):Int):=by
 cases o with
 |none=>rfl
 |some v=>
  show max (0:Int) (min (if v<0 then v+(n:Int)else v) (n:Int))=(((if v<0 then(v+(n:Int)).toNat else min v.toNat n):Nat):Int);by_cases hv:v<0;·simp only[zc hv];lia
  ·simp only[zb hv];lia
theorem X7(a b:Option Int)(n:Nat):Builtin.Str.strSliceIndices a b 1 n=sliceRange (T_ n 0 a) (T_ n n b) 1:=by
 have c:((1:Int)>0)=True:=by simp
 cases a<;>cases b<;>first|rfl|(simp only[Builtin.Str.strSliceIndices,T_,c,xj];rfl) |simp[Builtin.Str.strSliceIndices,T_]
theorem oo(a b:Option Int)(n:Nat):Builtin.Str.strSliceIndices a b 1 n=(List.range (HT.CS n n b-HT.CS n 0 a)).map (fun k=>HT.CS n 0 a+k):=by
 rw[X7,TZ,TZ];generalize HT.CS n 0 a=p;generalize HT.CS n n b=q;simp only[sliceRange,show((1:Int)>0)=True from by simp,xj];by_cases hlt:(p:Int)<q
 ·have c:(((q:Int)-p+1-1)/1).toNat=q-p:=by first|lia|(simp;done) |(simp;lia)
  simp only[hlt,xj,c];refine y6 fun k Y=>?_;lia
 ·have:q-p=0:=∅;simp[hlt,this]
def DO(z:Str)(a b:Option Int):Str:=⟨((z.cps.toList.drop (HT.CS z.length 0 a)).take (HT.CS z.length z.length b-HT.CS z.length 0 a)).toArray⟩
theorem Hk(z:Str)(a b:Option Int):PySem.StrLaws.sliceText z a b=DO z a b:=by
 have h:HT.CS z.length 0 a<=z.length:=HT.ZW _ _ (zx _) _;have g:HT.CS z.length z.length b<=z.length:=HT.ZW _ _ (ze _) _;have d:HT.CS z.length 0 a<=max (HT.CS z.length 0 a) (HT.CS z.length z.length b):=Nat.le_max_left _ _;have c:max (HT.CS z.length 0 a) (HT.CS z.length z.length b)<=z.length:=Nat.max_le.mpr ⟨h,g⟩;have f:max (HT.CS z.length 0 a) (HT.CS z.length z.length b)-HT.CS z.length 0 a=HT.CS z.length z.length b-HT.CS z.length 0 a:=∅;have e:Builtin.Str.strSliceIndices a b 1 z.length=Builtin.Str.strSliceIndices (some ((HT.CS z.length 0 a:Nat):Int)) (some ((max (HT.CS z.length 0 a) (HT.CS z.length z.length b):Nat):Int)) 1 z.length:=by rw[PySem.StrLaws.strSliceIndices_plain d c,f,oo]
 have i:PySem.StrLaws.sliceText z a b=PySem.StrLaws.sliceText z (some ((HT.CS z.length 0 a:Nat):Int)) (some ((max (HT.CS z.length 0 a) (HT.CS z.length z.length b):Nat):Int)):=by unfold PySem.StrLaws.sliceText;rw[e]
 rw[i,PySem.StrLaws.sliceText_nat z d c,f];rfl
theorem KQ(z:Str)(a b:Option Int):(DO z a b).length<=z.length:=by show(((z.cps.toList.drop (HT.CS z.length 0 a)).take (HT.CS z.length z.length b-HT.CS z.length 0 a)).toArray).size<=z.cps.size;rw[zI,zO,yI,xi];lia
def oO:V->Option Int->Option Int->Hp->VK->Prop:=fun x a b H Q=>∃z,x= .str z/\z.length<=sizeLine/\Q (.str (DO z a b)) H
theorem HI{X:Cx}:pL X oO:=by
 intro a s σ H x v n m p r o Q I g k pl i h;obtain⟨z,rfl,j,q⟩:=h;obtain⟨t,rfl⟩:=g;obtain⟨os,b,f,e⟩:=k;obtain⟨l,rfl,rfl⟩:=IsPart.raw pl;obtain⟨u,rfl,rfl⟩:=IsPart.raw i;exists"str",_,F.slot_str_getitem.lookup,sQ _ _ _;refine wpAny_getItem_str_slice (l:=l) (u:=u) (st:=none) ⟨os,b,f,e⟩ rfl ?_;have d:(PySem.StrLaws.sliceText z (l.map (·.1)) (u.map (·.1))).length<=sizeLine:=by rw[Hk];exact z_ (KQ z _ _) j
 rw[<-Hk]at q;unfold PySem.StrLaws.sliceText at q d;show Made.post (if((1:Int)==1&&(Builtin.Str.strSliceIndices (l.map (·.1)) (u.map (·.1)) 1 z.length).length==z.length)=true then Made.val (.str z t)else Made.str ⟨((Builtin.Str.strSliceIndices (l.map (·.1)) (u.map (·.1)) 1 z.length).filterMap (z.cps[·]?)).toArray⟩) (EP X a σ Q) s;by_cases c:((1:Int)==1&&(Builtin.Str.strSliceIndices (l.map (·.1)) (u.map (·.1)) 1 z.length).length==z.length)=true;·rw[zc c]at q|-;exact⟨.str z,H,I,⟨t,rfl⟩,q⟩
 ·rw[zb c]at q d|-;exact⟨d,.str _,H,I.tok _,⟨_,rfl⟩,q⟩
end L2
namespace xu
open PySem PySem.W PySem.Calls PyProof.Rows
section
variable{w:World}{K:Frag}
end
end xu
namespace L2
open PySem PySem.Spec PyProof.Rows
def A0(s:Stmt)(j:Nat):Stmt:=match s with| .ClassDef _ _ _ a _ _ _ _ _ _ _=>a.getD j (.Pass ⟨0,0,0,0⟩) |_=> .Pass ⟨0,0,0,0⟩
def G_(s:Stmt):Arguments:=match s with| .FunctionDef _ a _ _ _ _ _ _ _ _=>a|_=>{posonlyargs:=[],args:=[],vararg:=none,kwonlyargs:=[],kw_defaults:=[],kwarg:=none,defaults:=[]}
def DN(s:Stmt):List Stmt:=match s with| .FunctionDef _ _ b _ _ _ _ _ _ _=>b|_=>[]
def Ad(s:Stmt):Scope:=match s with| .FunctionDef _ _ _ _ _ _ a _ _ _=>a|_=>{kind:= .function,names:=[],isGenerator:=false,isCoroutine:=false}
abbrev PQ:Ic:=fun Y Y Y Y Y Y=>False
abbrev E0:XK:=fun Y Y Y=>False
theorem Ar{X:Cx}:Cz PQ X E0:=fun Y Y Y Y Y Y Y h=>h.elim
structure En(K:Frag)(x qual:Str)(st:Stmt)(f:Addr)(fd:FuncData):Prop where
 ex:∃(oc:Value)(od:Option Addr)(kV doc pm:Value)(an:Option Addr)(cdv ct:Value)(osl:Array (Option Value)),fd=fnOf x qual (G_ st) (DN st) (Ad st) .none kV doc pm an cdv ct/\K.lookup f=some ⟨oc,od,.func fd,osl⟩/\codeIn K cdv qual=true
 kp:keepIn K (.ref f)=true
section
variable{P:Program}{w:World}{K:Frag}{mg:Str->Option Value}{base:Heap}
theorem En.ok{d:Stmt}{f:Addr}{k:Nat}{e:Sp}(F:En K x qual d f fd)(S:Ah N ps (Ad d))(a:∀{b:Value}{A:Around}{outer:List Env}{s:Shared}{c:List V}(H:Hp)(Q:VK)(E:XK),AW k (A.deeper (envOfC qual (Ad d) s.heap.objs.size f b))->e c H Q E->∃t,Rk (Jj PQ P w K mg base N qual (Ad d) f b A outer s H E).nQ (DN d) t/\t {nx:=fun Y p=>Q .B0 p,rt:=Q} (start N c) H)(g:∀c H Q E,e c H Q E->c.length=ps.length:=by intro Y Y Y Y h;cases h;subst_vars;rfl):D9 P w K mg base PQ (k+1) f fd ps e:=by obtain⟨v,u,y,o,r,z,b,ct,l,rfl,m,j⟩:=F.ex;refine ij m j S g fun A outer s H c Q E n i=>?_;obtain⟨t,h,q⟩:=a H Q E n i;exact⟨t,h.nQ,q⟩
theorem En.binds{c:Stmt}{f:Addr}(F:En K x qual c f fd)(h:∀(e a d:Value)(g:Option Addr)(b ct:Value)(us:List Value),us.length=ps.length->bindArgs (fnOf x qual (G_ c) (DN c) (Ad c) .none e a d g b ct) ⟨us,[]⟩=pure (ps.zip us)):Bn K fd ps []:=by obtain⟨l,k,e,a,d,g,b,ct,i,rfl,m,j⟩:=F.ex;exact .all (h e a d g b ct)
theorem cA{st:Stmt}{f:Addr}{j:Value}{i h:Option Addr}{d:Array (Option Value)}{g b e a ct:Value}(l:K.lookup f=some ⟨j,i,.func (fnOf x qual (G_ st) (DN st) (Ad st) .none g b e h a ct),d⟩)(c:codeIn K a qual=true)(k:keepIn K (.ref f)=true):En K x qual st f (fnOf x qual (G_ st) (DN st) (Ad st) .none g b e h a ct):=⟨⟨j,i,g,b,e,h,a,ct,d,rfl,l,c⟩,k⟩
end
theorem Gu{k:Nat}(a:AW k A):A.units+1<cLine:=y2 (Nat.add_le_add_left (⋯:1<=64) _) a.units
theorem pv(i:Nat){a:Pos}(e:X.N[i]?=some x:=by rfl)(c:lp X.env.scope x:=by first|exact Or.inl rfl|exact Or.inr (Or.inl rfl) |exact Or.inr (Or.inr rfl))(d:(x==("__debug__":Str))=false:=by decide)(b:(x==("__classdict__":Str))=false:=by decide):PE X (.Name x a) (Bj i):=jC e c d b
theorem Vj{A B:Prop}(h:B):if false=true then A else B:=by rw[zb zQ];exact h
theorem Ym{A B:Prop}(h:A):if true=true then A else B:=by rw[zc rfl];exact h
def Ap(H a:Hp):Prop:=∀b o,H b=some o->a b=some o
theorem Ap.refl(H:Hp):Ap H H:=fun Y Y h=>h
theorem Ap.trans{H e d:Hp}(a:Ap H e)(b:Ap e d):Ap H d:=fun c o h=>b c o (a c o h)
theorem Ap.free{H a:Hp}(e:Ap H a){l:Addr}(h:a l=Option.none):H l=Option.none:=by cases q:H l with|none=>rfl|some o=>rw[e l o q]at h;cases h
theorem Ap.seq{K:Frag}{H b:Hp}{xs:List V}(e:Ap H b)(h:AJ K H a xs):AJ K b a xs:=by
 rcases h with(h|⟨o,h⟩) |h;·exact .inl (.inl (e _ _ h))
 ·exact .inl (.inr ⟨o,e _ _ h⟩)
 ·exact .inr h
section
variable{κ:Type}[DecidableEq κ]
end
theorem at_of{xs:List V}{z:Int}{j:Nat}{v:V}(e:z=(j:Int))(h:xs[j]?=some v):YN xs z=some v:=by rw[e];exact AN h
end L2
namespace L2
open PySem PySem.Spec PyProof.Rows
open PySem.W (WData Codec OpenSpec Well WellAll ReadsW ReadsAllW)
mutual
inductive Dw(K:Frag)(H:Hp):V->WData->Prop|B0:Dw K H .B0 .none|bl(b:Bool):Dw K H (.bl b) (.bool b) |int(i:Int):Dw K H (.int i) (.int i) |str(x:Str):Dw K H (.str x) (.str x) |Rj(b:Array UInt8):Dw K H (.Rj b) (.bytes b.toList) |lst{a:Addr}{xs:List V}{ds:List WData}:AJ K H a xs->FG K H xs ds->Dw K H (.ref a) (.list ds) |tup{a:Addr}{xs:List V}{ds:List WData}:Em K H a xs->FG K H xs ds->Dw K H (.ref a) (.tuple ds)
inductive FG(K:Frag)(H:Hp):List V->List WData->Prop|nil:FG K H [] [] |cons{v:V}{vs:List V}{d:WData}{ds:List WData}:Dw K H v d->FG K H vs ds->FG K H (v::vs) (d::ds)
end
theorem Xf{K:Frag}{H:Hp}:∀a:List Int,FG K H (a.map V.int) (a.map WData.int) |[]=> .nil|n::r=> .cons (.int n) (Xf r)
theorem WS{K:Frag}{H:Hp}:∀(a:List Int)(xs:List V),FG K H xs (a.map WData.int)->xs=a.map V.int|[],xs,h=>by cases h;rfl|n::r,xs,h=>by cases h with|cons c b=>cases c;rw[WS r _ b]<;>rfl
section
variable{P:Program}{w:World}{K:Frag}{H:Hp}{h:Heap}{R:WRecords}{cl:Str->Option Addr}
theorem jb{xs:List V}(d:FN P w H h)(i:K.In h)(q:AJ K H a xs):∃(b:List Value)(o:Obj)(n:Nat),AG xs b/\h.get? a=some o/\o.cls= .type "list"/\o.data= .seq b.toArray n:=by
 rcases q with q|⟨o,b,n,e,g,Y,f,Y,c⟩;·obtain⟨Y,b,n,c,e⟩:=(show B7 P w H h a (.lst xs)from q.ok d);exact⟨b,_,n,c,e,rfl,rfl⟩
 ·exact⟨b.toList,o,n,c,i _ _ e,g,by simp[f]⟩
theorem ja{xs:List V}(d:FN P w H h)(i:K.In h)(q:Em K H a xs):∃(b:List Value)(o:Obj)(n:Nat),AG xs b/\h.get? a=some o/\o.cls= .type "tuple"/\o.data= .seq b.toArray n:=by
 rcases q with q|⟨o,b,n,e,g,f,Y,c⟩;·obtain⟨Y,b,c,o,e,g,n,f⟩:=(show B7 P w H h a (.tup xs)from q.ok d);exact⟨b,o,n,c,e,g,f⟩
 ·exact⟨b.toList,o,n,c,i _ _ e,g,by simp[f]⟩
mutual
theorem Dw.reads(Bx:FN P w H h)(KX:K.In h):∀(d:WData)(v:V)(u:Value),Dw K H v d->AX v u->∃as,ReadsW R cl h u d as
| .none,_,_,x,r=>by cases x;cases r;exact⟨_,ReadsW.none⟩
| .bool b,_,_,x,r=>by cases x;cases r;exact⟨_,ReadsW.bool b⟩
| .int i,_,_,x,r=>by cases x;obtain⟨t,rfl⟩:=r;exact⟨_,ReadsW.int i t⟩
| .str s,_,_,x,r=>by cases x;obtain⟨t,rfl⟩:=r;exact⟨_,ReadsW.str s t⟩
| .bytes b,_,_,x,r=>by cases x;obtain⟨t,rfl⟩:=r;exact⟨_,ReadsW.bytes _ t⟩
| .list ds,_,_,x,r=>by cases x with|lst hs ha=>cases r;obtain⟨its,o,n,rv,ho,hc,hd⟩:=jb Bx KX hs;obtain⟨as,hr⟩:=Dw.readsAll Bx KX ds _ its ha rv;exact⟨_,ReadsW.list ho hc hd hr⟩
| .tuple ds,_,_,x,r=>by cases x with|tup hs ha=>cases r;obtain⟨its,o,n,rv,ho,hc,hd⟩:=ja Bx KX hs;obtain⟨as,hr⟩:=Dw.readsAll Bx KX ds _ its ha rv;exact⟨_,ReadsW.tuple ho hc hd hr⟩
| .float _,_,_,x,_=>by cases x
| .dict _,_,_,x,_=>by cases x
| .bytearray _,_,_,x,_=>by cases x
| .set _,_,_,x,_=>by cases x
| .frozenset _,_,_,x,_=>by cases x
| .obj _ _,_,_,x,_=>by cases x
theorem Dw.readsAll(Bx:FN P w H h)(KX:K.In h):∀(ds:List WData)(vs:List V)(us:List Value),FG K H vs ds->AG vs us->∃as,ReadsAllW R cl h us ds as|[],_,_,x,r=>by cases x;cases r;exact⟨_,ReadsAllW.nil⟩ |d::ds,_,_,x,r=>by cases x with|cons h1 h2=>cases r with|cons r1 r2=>obtain⟨as,q1⟩:=Dw.reads Bx KX d _ _ h1 r1;obtain⟨bs,q2⟩:=Dw.readsAll Bx KX ds _ _ h2 r2;exact⟨_,ReadsAllW.cons q1 q2⟩
end
end
mutual
def WC:WData->Bool| .none=>true| .bool _=>true| .int _=>true| .str _=>true| .bytes _=>true| .list xs=>La xs| .tuple xs=>La xs|_=>false
def La:List WData->Bool|[]=>true|x::r=>WC x&&La r
end
theorem Si{b:Type}{f:b->WData}(h:∀a,WC (f a)=true):∀l:List b,La (l.map f)=true|[]=>rfl|x::r=>by show(WC (f x)&&La (r.map f))=true;rw[h x,Si h r]<;>rfl
theorem F_:∀(c:Codec)(a:c.denote),WC (c.enc a)=true| .unit,_=>rfl| .bool,_=>rfl| .int _ _,_=>rfl| .nat _ _,_=>rfl| .u8,_=>rfl| .bytes _ _,_=>rfl| .text _ _ _ _,_=>rfl| .list _ _ c,a=>Si (fun x=>F_ c x) a| .pair c d,a=>by show(WC (c.enc a.1)&&(WC (d.enc a.2)&&true))=true;rw[F_ c a.1,F_ d a.2]<;>rfl| .triple c d e,a=>by show(WC (c.enc a.1)&&(WC (d.enc a.2.1)&&(WC (e.enc a.2.2)&&true)))=true;rw[F_ c a.1,F_ d a.2.1,F_ e a.2.2]<;>rfl| .option c,none=>rfl| .option c,some x=>F_ c x
theorem OT:∀(b:List Codec)(a:Codec.denoteAll b),La (Codec.encAll b a)=true|[],_=>rfl|c::b,a=>by show(WC (c.enc a.1)&&La (Codec.encAll b a.2))=true;rw[F_ c a.1,OT b a.2]<;>rfl
theorem HF:∀{xs:List WData}{d:WData},d∈xs->d.weight<=WData.weightAll xs
|[],d,h=>absurd h (by simp)
|x::r,d,h=>by
 show d.weight<=x.weight+1+WData.weightAll r;rcases zw.mp h with e|m;·rw[e];lia
 ·have z:=HF m;lia
def toV:Value->V| .none=> .B0| .bool b=> .bl b| .int i _=> .int i| .str x _=> .str x| .bytes b _=> .Rj b| .ref a=> .ref a|_=> .B0
def YW(A:List Addr):Value->Prop| .none=>True| .bool _=>True| .int _ _=>True| .str _ _=>True| .bytes _ _=>True| .ref a=>a∈A|_=>False
theorem YW.mono{A B:List Addr}(h:∀a∈A,a∈B):∀{u:Value},YW A u->YW B u:=fun{u} x=>by cases u with|ref a=>exact h a x|none=>trivial|bool b=>trivial|int i t=>trivial|str s t=>trivial|bytes b t=>trivial|_=>exact False.elim x
theorem au{A:List Addr}(x:YW A u):AX (toV u) u:=by cases u with|ref a=>rfl|none=>rfl|bool b=>rfl|int i t=>exact⟨t,rfl⟩ |str s t=>exact⟨t,rfl⟩ |bytes b t=>exact⟨t,rfl⟩ |_=>exact False.elim x
theorem EG{A:List Addr}:∀{a:List Value},(∀u∈a,YW A u)->AG (a.map toV) a|[],_=> .nil|u::r,h=> .cons (au (h u (zh ..))) (EG fun x b=>h x (zg _ b))
def FI(h:Heap)(A:List Addr)(a:Addr):Prop:=∃b:List Value,b.length<=sizeLine/\(∀u∈b,YW A u)/\(h.get? a=some {cls:= .type "list",data:= .seq b.toArray}\/h.get? a=some {cls:= .type "tuple",data:= .seq b.toArray})
theorem FI.mono{h:Heap}{A B:List Addr}(k:∀a∈A,a∈B)(x:FI h A a):FI h B a:=by obtain⟨b,f,e,d⟩:=x;exact⟨b,f,fun u c=>(e u c).mono k,d⟩
theorem Ep{P:Params}{h:Heap}:∀{a:List Value}{c:List WData},WellAll P h a c->a.length=c.length|_,_,.nil=>rfl|_,_,.cons _ b=>by show _+1=_+1;rw[Ep b]
theorem Oj{P:Params}{h:Heap}{v:Value}{d:List WData}(x:Well P h v (.list d)):∃(a:Addr)(c:List Value),v= .ref a/\h.get? a=some {cls:= .type "list",data:= .seq c.toArray}/\WellAll P h c d:=by cases x with|list e b=>exact⟨_,_,rfl,e,b⟩
theorem LN{P:Params}{h:Heap}{v:Value}{d:List WData}(x:Well P h v (.tuple d)):∃(a:Addr)(c:List Value),v= .ref a/\h.get? a=some {cls:= .type "tuple",data:= .seq c.toArray}/\WellAll P h c d:=by cases x with|tuple e b=>exact⟨_,_,rfl,e,b⟩
theorem Ol{P:Params}{h:Heap}{d:WData}{e:List WData}(x:WellAll P h us (d::e)):∃(v:Value)(c:List Value),us=v::c/\Well P h v d/\WellAll P h c e:=by cases x with|cons a b=>exact⟨_,_,rfl,a,b⟩
theorem WN{n:Nat}(h:n<=1048576):n<=sizeLine:=z_ h ⋯
section
variable{P:Params}{h:Heap}
mutual
theorem dg:∀(d:WData)(v:Value),Well P h v d->WC d=true->d.weight<=1048576->∃A:List Addr,YW A v/\∀a∈A,FI h A a
| .none,_,x,_,_=>by cases x;exact⟨[],we,fun a m=>absurd m (by simp)⟩
| .bool b,_,x,_,_=>by cases x;exact⟨[],we,fun a m=>absurd m (by simp)⟩
| .int i,_,x,_,_=>by cases x;exact⟨[],we,fun a m=>absurd m (by simp)⟩
| .str s,_,x,_,_=>by cases x;exact⟨[],we,fun a m=>absurd m (by simp)⟩
| .bytes b,_,x,_,_=>by cases x;exact⟨[],we,fun a m=>absurd m (by simp)⟩
| .list ds,_,x,p,z=>by
 obtain⟨a,vs,rfl,ho,hall⟩:=Oj x;have z2:WData.weightAll ds<=1048576:=z;obtain⟨A,h1,h2⟩:=Jp ds _ hall p fun d hd=>z_ (HF hd) z2;have k:∀b∈A,b∈a::A:=fun b hb=>zg _ hb;refine⟨a::A,zh ..,fun b hb=>?_⟩;rcases zw.mp hb with e|m;·rw[e];exact⟨vs,WN (by rw[Ep hall];exact z_ (tG ds) z2),fun u hu=>(h1 u hu).mono k,.inl ho⟩
 ·exact(h2 b m).mono k
| .tuple ds,_,x,p,z=>by
 obtain⟨a,vs,rfl,ho,hall⟩:=LN x;have z2:WData.weightAll ds<=1048576:=z;obtain⟨A,h1,h2⟩:=Jp ds _ hall p fun d hd=>z_ (HF hd) z2;have k:∀b∈A,b∈a::A:=fun b hb=>zg _ hb;refine⟨a::A,zh ..,fun b hb=>?_⟩;rcases zw.mp hb with e|m;·rw[e];exact⟨vs,WN (by rw[Ep hall];exact z_ (tG ds) z2),fun u hu=>(h1 u hu).mono k,.inr ho⟩
 ·exact(h2 b m).mono k
| .float _,_,_,p,_=>Bool.noConfusion (show false=true from p)
| .dict _,_,_,p,_=>Bool.noConfusion (show false=true from p)
| .bytearray _,_,_,p,_=>Bool.noConfusion (show false=true from p)
| .set _,_,_,p,_=>Bool.noConfusion (show false=true from p)
| .frozenset _,_,_,p,_=>Bool.noConfusion (show false=true from p)
| .obj _ _,_,_,p,_=>Bool.noConfusion (show false=true from p)
theorem Jp:∀(ds:List WData)(vs:List Value),WellAll P h vs ds->La ds=true->(∀d∈ds,d.weight<=1048576)->∃A:List Addr,(∀u∈vs,YW A u)/\∀a∈A,FI h A a
|[],_,x,_,_=>by cases x;exact⟨[],fun u m=>absurd m (by simp),fun a m=>absurd m (by simp)⟩
|d::ds,_,x,p,z=>by
 obtain⟨v,vs,rfl,x1,x2⟩:=Ol x;have q:WC d=true/\La ds=true:=ra.mp p;obtain⟨A,a1,a2⟩:=dg d v x1 q.1 (z d (zh ..));obtain⟨B,b1,b2⟩:=Jp ds vs x2 q.2 fun e he=>z e (zg _ he);have kA:∀b∈A,b∈A++B:=fun b hb=>zD.mpr (.inl hb);have kB:∀b∈B,b∈A++B:=fun b hb=>zD.mpr (.inr hb);refine⟨A++B,fun u hu=>?_,fun b hb=>?_⟩
 ·rcases zw.mp hu with e|m;·rw[e];exact a1.mono kA
  ·exact(b1 u m).mono kB
 ·rcases zD.mp hb with m|m;·exact(a2 b m).mono kA
  ·exact(b2 b m).mono kB
end
end
def fY(o:Obj):Option HO:=match o.data with| .seq a _=>if(o.cls==Value.type "list")=true then some (.Hy o (.lst (a.toList.map toV)))else some (.Hy o (.tup (a.toList.map toV))) |_=>none
def F9(K:Frag)(h:Heap)(A:List Addr):Hp:=fun b=>if b∈A then(if(K.lookup b).isNone=true then(h.get? b).bind fY else none)else none
def Ui(H:Hp):Prop:=∀b,H b=none\/∃o u,H b=some (.Hy o u)
theorem SS(a:List Value):fY {cls:= .type "list",data:= .seq a.toArray}=some (.Hy {cls:= .type "list",data:= .seq a.toArray} (.lst (a.map toV))):=by show(if(Value.type "list"==Value.type "list")=true then some (HO.Hy {cls:= .type "list",data:= .seq a.toArray} (.lst (a.toArray.toList.map toV)))else some (HO.Hy {cls:= .type "list",data:= .seq a.toArray} (.tup (a.toArray.toList.map toV))))=_;rw[zc (xG _)]
theorem SR(a:List Value):fY {cls:= .type "tuple",data:= .seq a.toArray}=some (.Hy {cls:= .type "tuple",data:= .seq a.toArray} (.tup (a.map toV))):=by show(if(Value.type "tuple"==Value.type "list")=true then some (HO.Hy {cls:= .type "tuple",data:= .seq a.toArray} (.lst (a.toArray.toList.map toV)))else some (HO.Hy {cls:= .type "tuple",data:= .seq a.toArray} (.tup (a.toArray.toList.map toV))))=_;rw[zb ⋯]
section
variable{P:Program}{w:World}{K:Frag}{h:Heap}{A:List Addr}
theorem LJ{o:Obj}(c:b∈A)(a:K.lookup b=none)(e:h.get? b=some o):F9 K h A b=fY o:=by unfold F9;rw[zc c,a,zc (show(none:Option Obj).isNone=true from rfl),e]<;>rfl
theorem fz{u:HO}(q:F9 K h A b=some u):b∈A/\K.lookup b=none:=by
 unfold F9 at q;by_cases hb:b∈A;·rw[zc hb]at q;cases a:K.lookup b with|none=>exact⟨hb,rfl⟩ |some o=>rw[a,zb (by simp)]at q;cases q
 ·rw[zb hb]at q;cases q
theorem LI(k:∀a∈A,FI h A a){u:HO}(q:F9 K h A b=some u):K.lookup b=none/\∃c:List Value,c.length<=sizeLine/\(∀u∈c,YW A u)/\((h.get? b=some {cls:= .type "list",data:= .seq c.toArray}/\u= .Hy {cls:= .type "list",data:= .seq c.toArray} (.lst (c.map toV)))\/(h.get? b=some {cls:= .type "tuple",data:= .seq c.toArray}/\u= .Hy {cls:= .type "tuple",data:= .seq c.toArray} (.tup (c.map toV)))):=by
 obtain⟨f,d⟩:=fz q;obtain⟨c,j,i,g⟩:=k b f;exists d,c,j,i;rcases g with e|e;·rw[LJ f d e,SS]at q;exact .inl ⟨e,(zt q).symm⟩
 ·rw[LJ f d e,SR]at q;exact .inr ⟨e,(zt q).symm⟩
theorem YQ(c:∀a∈A,FI h A a):Ui (F9 K h A):=fun b=>by
 cases q:F9 K h A b with
 |none=>exact .inl rfl
 |some u=>
  obtain⟨Y,d,Y,Y,⟨Y,e⟩ |⟨Y,e⟩⟩:=LI c q;·exact .inr ⟨_,_,by rw[e]⟩
  ·exact .inr ⟨_,_,by rw[e]⟩
theorem gE(g:∀a∈A,FI h A a):FN P w (F9 K h A) h:=fun b u q=>by
 obtain⟨Y,c,f,d,⟨e,rfl⟩ |⟨e,rfl⟩⟩:=LI g q;·exact⟨e,by rw[z3];exact f,c,_,EG d,e⟩
 ·exact⟨e,by rw[z3];exact f,c,EG d,_,e,rfl,_,rfl⟩
theorem Lx{c b:Value}{a:List Value}(e:(some {cls:=c,data:= .seq a.toArray}:Option Obj)=some {cls:=b,data:= .seq us.toArray}):c=b/\a=us:=by have d:=zt e;have h:c=b:=zT Obj.cls d;have g:Data.seq a.toArray=Data.seq us.toArray:=zT Obj.data d;injection g with e4;refine⟨h,?_⟩;have f:=zT Array.toList e4;simpa using f
theorem pF(m:K.In h)(l:∀a∈A,FI h A a){b:List Value}(d:a∈A)(e:h.get? a=some {cls:= .type "list",data:= .seq b.toArray}):(∀u∈b,YW A u)/\AJ K (F9 K h A) a (b.map toV):=by
 obtain⟨us,k,f,j⟩:=l a d;have i:us=b:=by
  rcases j with q|q;·rw[e]at q;exact(Lx q).2.symm
  ·rw[e]at q;exact absurd (Value.type.inj (Lx q).1) ⋯
 subst i;refine⟨f,?_⟩;cases c:K.lookup a with|none=>exact .inl (.inr ⟨_,by rw[LJ d c e,SS]⟩) |some o=>have g:=m a o c;rw[e]at g;obtain rfl:=zt g;exact .inr ⟨_,us.toArray,_,c,rfl,rfl,rfl,by rw[zI];exact k,‹EG f›⟩
theorem pE(m:K.In h)(l:∀a∈A,FI h A a){b:List Value}(d:a∈A)(e:h.get? a=some {cls:= .type "tuple",data:= .seq b.toArray}):(∀u∈b,YW A u)/\Em K (F9 K h A) a (b.map toV):=by
 obtain⟨us,k,f,j⟩:=l a d;have i:us=b:=by
  rcases j with q|q;·rw[e]at q;exact absurd (Value.type.inj (Lx q).1) ⋯
  ·rw[e]at q;exact(Lx q).2.symm
 subst i;refine⟨f,?_⟩;cases c:K.lookup a with|none=>exact .inl (.inr ⟨_,by rw[LJ d c e,SR]⟩) |some o=>have g:=m a o c;rw[e]at g;obtain rfl:=zt g;exact .inr ⟨_,us.toArray,_,c,rfl,rfl,by rw[zI];exact k,‹EG f›⟩
mutual
theorem kr{Pm:Params}(KX:K.In h)(ar:∀a∈A,FI h A a):∀(d:WData)(v:Value),Well Pm h v d->WC d=true->YW A v->Dw K (F9 K h A) (toV v) d| .none,_,x,_,_=>by cases x;exact .B0| .bool b,_,x,_,_=>by cases x;exact .bl b| .int i,_,x,_,_=>by cases x;exact .int i| .str s,_,x,_,_=>by cases x;exact .str s| .bytes b,_,x,_,_=>by cases x;have z:=Dw.Rj (K:=K) (H:=F9 K h A) b.toArray;exact z| .list ds,_,x,p,hu=>by obtain⟨a,vs,rfl,ho,hall⟩:=Oj x;obtain⟨h2,hs⟩:=pF KX ar hu ho;exact .lst hs (QK KX ar ds _ hall p h2) | .tuple ds,_,x,p,hu=>by obtain⟨a,vs,rfl,ho,hall⟩:=LN x;obtain⟨h2,hs⟩:=pE KX ar hu ho;exact .tup hs (QK KX ar ds _ hall p h2) | .float _,_,_,p,_=>Bool.noConfusion (show false=true from p) | .dict _,_,_,p,_=>Bool.noConfusion (show false=true from p) | .bytearray _,_,_,p,_=>Bool.noConfusion (show false=true from p) | .set _,_,_,p,_=>Bool.noConfusion (show false=true from p) | .frozenset _,_,_,p,_=>Bool.noConfusion (show false=true from p) | .obj _ _,_,_,p,_=>Bool.noConfusion (show false=true from p)
theorem QK{Pm:Params}(KX:K.In h)(ar:∀a∈A,FI h A a):∀(ds:List WData)(vs:List Value),WellAll Pm h vs ds->La ds=true->(∀u∈vs,YW A u)->FG K (F9 K h A) (vs.map toV) ds|[],_,x,_,_=>by cases x;exact .nil|d::ds,_,x,p,hu=>by obtain⟨v,vs,rfl,x1,x2⟩:=Ol x;have q:WC d=true/\La ds=true:=ra.mp p;exact .cons (kr KX ar d v x1 q.1 (hu _ (zh ..))) (QK KX ar ds vs x2 q.2 fun u m=>hu u (zg _ m))
end
end
theorem X3{P:Program}{w:World}{K:Frag}{mg Q:Str->Option Value}{CX:Ic}{k:Nat}{fa:Addr}{sp:Sp}{a:Shared}{c:List Value}{y:List WData}{R:WRecords}{cl:Str->Option Addr}{d0:WData}(KX:K.In a.heap)(G:a.heap.Ns mainGlobals mg)(X:a.heap.Ns builtinsNs Q)(W:∀x:Str,x≠"__name__"->Q x=bootBuiltins x)(I:a.heap.NoLimit)(hg:a.gens=#[])(l:WellAll w.params a.heap c y)(E:La y=true)(S:∀d∈y,d.weight<=1048576)(hr:AW k callerA)(F:∀base:Heap,K.In base->base.Ns mainGlobals mg->D9 P w K mg base CX k fa fd ps sp)(t:∀(s:Shared)(us:List Value),us.length=ps.length->BindsTo s fd ⟨us,[]⟩ (ps.zip us))(J:y.length=ps.length)(T:∀(H:Hp)(xs:List V),Ui H->FG K H xs y->sp xs H (fun v H'=>Dw K H' v d0) fun Y Y Y=>False)(a0:∀H e g,CX [] H a (fun Y Y Y=>False) e g->False):codeAny (model P w) callerA (.call (.ref fa) ⟨c,[]⟩) (fun r g=>∃u as,r= .ok (.ret u)/\ReadsW R cl g.heap u d0 as/\OldK a.heap g.heap/\g.os=a.os/\AllBare g.gens) a:=by
 obtain⟨A,ho,O⟩:=Jp y c l E S;have Z:Ui (F9 K a.heap A):=YQ O;have p:FN P w (F9 K a.heap A) a.heap:=gE O;have hS:=QK KX O y c l E ho;have hV:=EG ho;have hK:∀b u,F9 K a.heap A b=some u->K.lookup b=none:=fun b u q=>(LI O q).1;have D:∀{b:Addr}{o:Obj}{B:Array DictEntry}{C:Nat},a.heap.get? b=some o->o.data= .dict B C->F9 K a.heap A b=none:=fun{b o B C} e d=>by
  cases q:F9 K a.heap A b with
  |none=>rfl
  |some u=>
   obtain⟨Y,vs,Y,Y,⟨M,Y⟩ |⟨M,Y⟩⟩:=LI O q;·rw[M]at e;cases e;have d':Data.seq vs.toArray _=Data.dict B C:=d;cases d'
   ·rw[M]at e;cases e;have d':Data.seq vs.toArray _=Data.dict B C:=d;cases d'
 generalize F9 K a.heap A=H at Z p hS hK D;have f:∀{b:Addr}{o:Obj},a.heap.get? b=some o->H b=none->(Q4 a.heap H).get? b=some o:=fun e n=>cb e n;have h:∀{b:Addr}{m:Str->Option Value},a.heap.Ns b m->(Q4 a.heap H).Ns b m:=fun{b m} ⟨o,B,C,e,d,r⟩=>⟨o,B,C,f e (D e d),d,r⟩;have nK:∀b o,K.lookup b=some o->H b=none:=fun b o e=>by cases q:H b with|none=>rfl|some u=>rw[hK b u q]at e;cases e
 have L:K.In (Q4 a.heap H):=fun b o e=>f (KX b o e) (nK b o e);have hM:Mod K mg (Q4 a.heap H):=⟨L,h G,⟨Q,h X,W⟩,let⟨mc,h1,h2⟩:=I;⟨mc,h h1,h2⟩⟩;have e0:Rf P w K mg (Q4 a.heap H) callerA [] a H:=⟨rfl,hM,fun b o e=>fy e,uU (Yp _ _),we,fun b X=>absurd (show b∈([]:List Addr)from X) (by simp),p,.of_eq hg⟩;have hl:c.length=ps.length:=by rw[Ep l];exact J
 refine wZ ((F _ L (h G)).run callerA [] a H ⟨c,[]⟩ c (c.map toV) _ _ hr e0 (t a c hl) hV (T H _ Z hS)) fun r g x=>?_;cases r with
 |error e=>exact(a0 H e g x).elim
 |ok fl=>
  cases fl with
  |next=>exact False.elim x
  |brk=>exact False.elim x
  |cont=>exact False.elim x
  |ret u=>
   obtain⟨v,H',os,N,un,j,r',q⟩:=x;have i:∀b o,a.heap.get? b=some o->g.heap.get? b=some o:=fun b o e=>by
    cases q2:H b with
    |none=>exact un.keep b o e q2 (by intro z;exact absurd (show b∈([]:List Addr)from z) (by simp)) (by simp)
    |some u2=>
     rcases Z b with z|⟨ob,u3,z⟩;·rw[q2]at z;cases z
     ·have z2:=un.frzs b ob _ z;obtain⟨e1,Y⟩:=p b _ z;obtain⟨M,Y⟩:=j b _ z2;rw[e]at e1;cases e1;exact M
   have a1:K.In g.heap:=fun b o e=>i b o (KX b o e);obtain⟨as,U⟩:=Dw.reads (R:=R) (cl:=cl) j a1 d0 v u q r';exact⟨u,as,rfl,U,OldK.of_keep i,os,N⟩
theorem MY{a:List WData}(h:WData.layableAll a=true):∀d∈a,d.weight<=1048576:=fun d b=>(PySem.W.layableW_iff.mp (yq.mp h d b)).2.2
theorem Nu:∀(b:List Codec)(a:Codec.denoteAll b),(Codec.encAll b a).length=b.length|[],_=>rfl|c::b,a=>by show(Codec.encAll b a.2).length+1=b.length+1;rw[Nu b a.2]
theorem Xr{r:OpenSpec}{k:Nat}{q:Program}{b:List Str}{XP:(Str->Option Value)->Heap->Prop}{C:World->Heap->Prop}{d:DefRec}{K:Params->Frag}{CX:World->Ic}{sp:World->Sp}(c:r.wellSaid=true)(P:d.params.defaults=[])(l:r.args.length=ps.length)(L:AW k callerA)(T:∀(w:World)(h:Heap),C w h->(K w.params).In h)(F:∀(w:World)(mg:Str->Option Value)(p:Addr)(h:Heap),C w h->(K w.params).In h->h.Ns mainGlobals mg->mg d.name=some (.ref p)->∃fd:FuncData,(∀(s:Shared)(us:List Value),us.length=ps.length->BindsTo s fd ⟨us,[]⟩ (ps.zip us))/\∀base:Heap,(K w.params).In base->base.Ns mainGlobals mg->D9 r.prog w (K w.params) mg base (CX w) k p fd ps (sp w))(x:∀(w:World)(H:Hp)(xs:List V)(a:Codec.denoteAll r.args),Ui H->Codec.withinAll r.args a=true->Codec.app r.args r.asked a=true->FG (K w.params) H xs (Codec.encAll r.args a)->sp w xs H (fun v H'=>Dw (K w.params) H' v (r.ret.enc (Codec.app r.args r.f a))) fun _ _ _=>False)(A:∀(w:World)(H:Hp)(s:Shared)(e:Value)(n:Shared),CX w [] H s (fun _ _ _=>False) e n->False):WalkOS q b XP C r d [] (fun f I=>PySem.call f I):=by intro w s_0 g mg mb G Y p o pm cd a0 dV kV ho hd Q hD y O args D as j m J t N;obtain⟨a,e1,e2⟩:=PySem.W.os_pre_some j;obtain⟨e3,i⟩:=Codec.encAll_of_decAll r.args args a e1;subst e3;have E:=T w _ Y;obtain⟨fd,S,X⟩:=F w mg p _ Y E G.T.g y;refine PySem.W.enter_call (wZ (X3 (R:=[]) (cl:=classAt s_0.heap) (d0:=r.ret.enc (Codec.app r.args r.f a)) E G.T.g G.T.b G.T.builtins G.T.nolimit O t (OT _ _) (MY m) L X S (by rw[Nu];exact l) (fun H xs W U=>x w H xs a W i e2 U) fun H e n=>A w H g e n) fun r' n M=>?_);obtain⟨u,B,rfl,h1,h2,h3,Z⟩:=M;exact⟨.inl ⟨u,_,B,rfl,fun _=>rfl,h1,(OpenSpec.post_iff c i _ _).mpr rfl,fun z=>Bool.noConfusion (show false=true from z)⟩,h2,h3,Z⟩
theorem Uq{r:OpenSpec}{k:Nat}{q:Program}{b:List Str}{B:(Str->Option Value)->Heap->Prop}{n:World->Heap->Prop}{d:DefRec}{K:Params->Frag}{CX:Ic}{sp:Frag->Sp}(c:r.wellSaid=true)(l:d.params.defaults=[])(g:r.args.length=ps.length)(t:AW k callerA)(u:∀(w:World)(h:Heap),n w h->(K w.params).In h)(F:∀(w:World)(mg:Str->Option Value)(o:Addr)(h:Heap),n w h->(K w.params).In h->h.Ns mainGlobals mg->mg d.name=some (.ref o)->∃fd:FuncData,(∀(s:Shared)(us:List Value),us.length=ps.length->BindsTo s fd ⟨us,[]⟩ (ps.zip us))/\∀base:Heap,(K w.params).In base->base.Ns mainGlobals mg->D9 r.prog w (K w.params) mg base CX k o fd ps (sp (K w.params)))(j:∀(K:Frag)(H:Hp)(xs:List V)(a:Codec.denoteAll r.args),Ui H->Codec.withinAll r.args a=true->Codec.app r.args r.asked a=true->FG K H xs (Codec.encAll r.args a)->sp K xs H (fun v C=>Dw K C v (r.ret.enc (Codec.app r.args r.f a))) fun Y Y Y=>False)(m:∀(H:Hp)(s:Shared)(e:Value)(i:Shared),CX [] H s (fun Y Y Y=>False) e i->False):WalkOS q b B n r d [] (fun f p=>PySem.call f p):=Xr (K:=K) (CX:=fun Y=>CX) (sp:=fun w=>sp (K w.params)) c l g t u F (fun w H xs a A z y x=>j (K w.params) H xs a A z y x) fun Y H s e i=>m H s e i
end L2
variable{H:L2.Hp}{σ:L2.St}{te:L2.TE}{xs:List L2.V}{g:L2.TG}
namespace L2
open PySem PySem.Spec PyProof.Rows PySem.Calls
open PySem.W (Frag Looks)
abbrev Ek(C t:Addr):Obj:={cls:= .ref C,data:= .fields #[.ref t,.none,.none,.none,.bool false,.none]}
abbrev Dh(l:List Value):Obj:={cls:= .type "tuple",data:= .seq l.toArray}
structure N9(M:Model)(h:Heap)(C:Addr):Prop where
 obj:∃od cd sl,h.get? C=some ⟨.type "type",od,.cls cd,sl⟩/\cd.hasDel=false/\cd.mro.isEmpty=false
 made:Looks M h (Bind.madeBy (.ref C)) (some "Exception.__new__")
 base:Looks M h (Bind.staticBase (.ref C)) (.ref C)
 self:Looks M h (isSubtype (.ref C) (.ref C)) true
 exc:Looks M h (isSubtype (.ref C) (.type "Exception")) true
 ri:Looks M h (isSubtype (.ref C) (.type "BaseException")) true
 nA:Looks M h (isSubtype (.ref C) (.type "AttributeError")) false
 nN:Looks M h (isSubtype (.ref C) (.type "NameError")) false
 call:Looks M h (specialOf (.ref C) "__call__") (some (.builtin "type.__call__"))
 typ:Looks M h (isInstance (.ref C) (.type "type")) true
def D7(K:Frag)(C:Addr):Bool:=match K.lookup C with|some ⟨.type "type",_,.cls a,b⟩=>!a.hasDel&&(b.toList[4]?).join==some (.builtin "Exception.__new__")&&!a.mro.isEmpty&&a.mro.contains (.ref C)&&a.mro.contains (.type "Exception")&&a.mro.contains (.type "BaseException")&&!a.mro.contains (.type "AttributeError")&&!a.mro.contains (.type "NameError")&&specialIn K (.ref C) "__call__"==some (some (.builtin "type.__call__"))&&instIn K (.ref C) (.type "type")==some true|_=>false
theorem GR{K:Frag}{M:Model}{h:Heap}(X:K.In h)(e:D7 K C=true):N9 M h C:=by
 unfold D7 at e;split at e
 ·rename_i t d r i;simp only[zp,xD,zP]at e;obtain⟨⟨⟨⟨⟨⟨⟨⟨⟨F,D⟩,g⟩,B⟩,z⟩,y⟩,x⟩,w⟩,m⟩,j⟩:=e;have p:clsIn K C=some d:=by unfold clsIn;rw[i]
  have n:Looks M h (mroOf (.ref C)) d.mro:=(vb X p).andThen .now;obtain⟨c,l,o⟩:∃c l,d.mro=c::l:=by cases q:d.mro with|nil=>rw[q]at g;cases g|cons c l=>exact⟨c,l,rfl⟩
  have a:Looks M h (Bind.madeBy (.ref C)) (some "Exception.__new__"):=by intro A Q E s k q;unfold Bind.madeBy;refine za (n A _ E s k ?_);rw[o,uo];refine za (za (za (za (sP (k _ _ (X _ _ i)) (zr ?_)))));cbv;rw[<-Array.getElem?_toList,D];exact zr (zr (zr q))
  have f:∀(v:Value)(b:Bool),d.mro.contains v=b->Looks M h (isSubtype (.ref C) v) b:=fun v b u=>uA X (by unfold mroIn;rw[p,wU,zb (by rw[g];decide),u]);refine⟨⟨t,d,r,X _ _ i,F,g⟩,a,?_,f _ _ B,f _ _ z,f _ _ y,f _ _ x,f _ _ w,PySem.W.looks_specialIn X m,PySem.W.looks_instIn X j⟩;intro A Q E s k q;unfold Bind.staticBase;refine za (n A _ E s k ?_);rw[o,uo];exact za (za (za (a A _ E s k (zr (zr (zr q))))))
 ·cases e
section
variable{w:World}{K:Frag}{R:Result->Shared->Prop}{h:Heap}{g:Array GenState}{d:Drawn}{t:Nat}{os:OsState}
theorem newX{a:List Value}(Y:N9 (model prog w) h C)(e:a.length<=sizeLine)(m:R (.ok (.ret (.ref (h.objs.size+1)))) ⟨(h.push (Dh a)).push (Ek C h.objs.size),g,d,t,os⟩):codeAny (model prog w) A (.call (.builtin "Exception.__new__") ⟨.ref C::a,[]⟩) R ⟨h,g,d,t,os⟩:=by
 have F:=vo;obtain⟨⟨v,B,u,o,r,z⟩,b,base,self,q,s,y,x,k,l⟩:=Y;have j:Looks (model prog w) h (Bind.madeHere "BaseException.__new__" (.ref C)) ():=base.andThen (b.andThen (tL (by simp only[yE,F.canon,uL,yD,yS])));refine codeAny_call_builtin_code (Code.quiet_builtin _ F.quiet) ?_;have c:=F.noStar;simp only[checkBuiltinCall,F.newKind,F.newSplit,F.newRow];repeat(first|simp only[uL,yD,yS] |lk)
 refine codeAny_builtinAt F.entry ?_;unfold Builtin.«BaseException.__new__»;refine qb ?_;show PySem.wpAt _ _ _ (stack>>=_) _ _ _;refine qb (PySem.wpAt_stack fun p i=>rb ?_);cbv;rw[zc F.ends];refine zr (rb ?_);rw[F.owner];repeat(first|simp only[uL,yD,yS,Bool.not_true] |lk)
 rw[zb (by rw[zI];lia)];have f:=zi (Dh a) o;have n:=zi (Ek C h.objs.size) f;refine za (sf ?_);repeat lk
 rw[r];refine zr (zr ?_);show R _ _;rw[yk];exact m
theorem mC{c:List Value}{f:Value}(Y:N9 (model prog w) h C)(i:c.length<=sizeLine)(s:Looks (model prog w) h (typeLookup (.ref C) "__init__") (some f))(u:∀self,Looks (model prog w) h (bindSpecial f self) (f,[self]))(q:codeAny (model prog w) (A.under (.builtin "type.__call__" ⟨.ref C::c,[]⟩)) (.call f ⟨.ref (h.objs.size+1)::c,[]⟩) (InitBack (h.objs.size+1) R) ⟨(h.push (Dh c)).push (Ek C h.objs.size),g,d,t,os⟩):codeAny (model prog w) A (.call (.ref C) ⟨c,[]⟩) R ⟨h,g,d,t,os⟩:=by
 have E:=Y;obtain⟨⟨J,B,G,n,O,y⟩,m,base,self,x,D,L,K,j,l⟩:=Y;refine codeAny_of_tree ?_;show wpAny _ _ (callAny (.ref C) _) _ _ _;refine PySem.W.nd_load n ?_;show wpAny _ _ (callAny.viaDunder (.ref C) _) _ _ _;unfold callAny.viaDunder;refine za (j.at ?_);cbv;rw[tc_bind];refine za (zr (za (zr (zr (a:=Fin.again (.call (.builtin "type.__call__") ⟨.ref C::c,[]⟩)) (And.intro rfl (codeAny_call_builtin_at (Code.quiet_builtin _ ∎) entry_typeCall (uI tc_kind tc_split l (PySem.W.tc_args _ _ _) ?_)))))));unfold Builtin.«type.__call__»;have N:Looks (model prog w) h (mroOf (.ref C)) B.mro:=((uY (part:=none) n).andThen .now).andThen .now;repeat(first|simp only[y,yD,yS] |with_reducible refine vd ?_|lk)
 refine newX E i ?_;have k:∀b o,h.get? b=some o->((h.push (Dh c)).push (Ek C h.objs.size)).get? b=some o:=fun b o e=>zi _ (zi _ e);have p:((h.push (Dh c)).push (Ek C h.objs.size)).get? (h.objs.size+1)=some (Ek C h.objs.size):=by heap_get
 have F:Looks (model prog w) ((h.push (Dh c)).push (Ek C h.objs.size)) (typeOf (.ref (h.objs.size+1))) (.ref C):=(uY p).andThen .now;have H:=self.keeps k;have M:=s.keeps k;have P:=(u (.ref (h.objs.size+1))).keeps k;unfold isInstance callSpecial? specialOf;repeat(first|with_reducible refine vd ?_|lk)
 refine wZ q fun r I z=>?_;rcases r with e|(v|Q|Q|Q)<;>first|exact z|exact z.elim|skip
 obtain⟨rfl,z⟩:=z;exact zr (zr z)
end
end L2
namespace L2
open PySem PySem.Spec PyProof.Rows
structure ExcAt(h:Heap)(c:Bool)(a C:Addr)(d tb:Option Addr):Prop where
 obj:∃vs sl,h.get? a=some {cls:= .ref C,dict:=d,data:= .fields vs,slots:=sl}/\vs.size=6/\vs[1]?=some (tb.elim .none .ref)/\(c=true->vs[2]?=some .none)
 x5:∀t,tb=some t->t≠a/\∃o ts,h.get? t=some o/\o.data= .fields ts/\3<ts.size
theorem ExcAt.weak{h:Heap}{c:Bool}{b:Option Addr}(x:ExcAt h c a C d b):ExcAt h false a C d b:=by obtain⟨⟨e,f,j,i,g,Y⟩,r⟩:=x;exact⟨⟨e,f,j,i,g,fun z=>nomatch z⟩,r⟩
theorem ExcAt.keeps{h g:Heap}{c:Bool}{e:Option Addr}(x:ExcAt h c a C d e)(k:∀b o,b=a\/some b=e->h.get? b=some o->g.get? b=some o):ExcAt g c a C d e:=by obtain⟨⟨i,l,s,q,p,m⟩,r⟩:=x;refine⟨⟨i,l,k a _ (.inl rfl) s,q,p,m⟩,fun t f=>?_⟩;obtain⟨n,o,j,w,v,u⟩:=r t f;exact⟨n,o,j,k t o (.inr f.symm) w,v,u⟩
theorem DD{h:Heap}{f:Obj->Obj}{o:Obj}(n:a≠b)(e:h.get? b=some o):(h.update a f).get? b=some o:=by rw[yU _ _ n];exact e
section
variable{h':Heap}
theorem As.mV{ch:List Addr}(I:As X pins σ H s)(l:∀b o,b∈Np X.stack->s.heap.get? b=some o->∃h,h'.get? b=some {o with slots:=h})(k:∀b o,b∉Np X.stack->b∉ch->s.heap.get? b=some o->h'.get? b=some o)(g:∀b∈ch,Cg X pins H b):As X pins σ H {s with heap:=h',toks:=t'}:=by
 have f:∀b o,b∉ch->s.heap.get? b=some o->∃h,h'.get? b=some {o with slots:=h}:=fun b o a e=>by
  by_cases hs:b∈Np X.stack;·exact l b o hs e
  ·exact⟨o.slots,k b o hs a e⟩
 have j:∀b u,H b=some u->b∉ch:=fun b u e z=>by have q:=(g b z).1;rw[q]at e;cases e
 have i:∀b u,H b=some u->b∉Np X.stack:=fun b u e z=>by have q:=I.PY b z;rw[q]at e;cases e
 refine I.step (g':=s.gens) (d':=s.drawn) (ch:=ch) (fun b a=>⟨(g b a).2.2.2.1,(g b a).2.1,(g b a).2.2.2.2.1,(g b a).2.2.2.2.2⟩) (fun b o w a d e Y=>k b o (fun z=>(zw.mp (I.J3 b z)).elim w a) d e) (fun b o Y Y d e Y=>f b o d e) (fun Y Y Y Y n=>n) (fun b o d e=>let⟨h,q⟩:=f b o d e;⟨_,q⟩) (fun Y Y e=>e) (fun Y Y Y e=>e) (fun b ps e=>⟨#[],by rw[e];simp⟩) (fun m t=>?_) (fun b u e=>?_) I.bare;·obtain⟨o,x,y,p,r⟩:=t;obtain⟨h,q⟩:=f _ o (fun z=>(g _ z).2.1 rfl) p;exact⟨_,x,y,q,r⟩
 ·refine(I.Bx b u e).Ip (fun c v d q=>?_) (fun Y q=>q) fun Y Y q=>q;rcases d with z|z;·rw[z]at q|-;exact k b v (i b u e) (j b u e) q
  ·exact k c v (i c _ z) (j c _ z) q
end
section
variable{tb:Option Addr}{c:Bool}
structure kW(X:Cx):Prop where
 Zy:X.stack=X.env::X.outer
 pC:X.env.frame=some X.env.locals
theorem K8{i:Value}{F:Bool}{Q:Unit->Shared->Prop}(W:kW X)(I:As X pins σ H s)(B:Cg X pins H a){o:Obj}{v:Array Value}(D:s.heap.get? a=some o)(A:o.data= .fields v)(C:1<v.size)(h:∀k T,s.heap.objs.size<=T->(∀b o,b∈Np X.stack->s.heap.get? b=some o->∃l,k.get? b=some {o with slots:=l})->(∀b o,b∉Np X.stack->b≠a->s.heap.get? b=some o->k.get? b=some o)->k.get? a=some (o.mapFields (·.setIfInBounds 1 (.ref T)))->(∃y w,k.get? T=some y/\y.data= .fields w/\3<w.size)->Q () {s with heap:=k}):wpX X (do
 let a'<-frameOf X.env
 let pl<-entryPlaceOf X.env.locals F
 let b<-EntryCells.newEntry i a' .none (rawInt X.env.locals) .none pl
 setField (.ref a) 1 b) Q E s:=by
 have n:X.A.frames=some (X.env::X.outer):=by rw[I.ok.frames,W.Zy]
 have G:s.heap.FunFrames X.base (X.env::X.outer):=by have:=I.stack;rw[W.Zy]at this;exact this
 have u:(X.env::X.outer).filterMap (·.frame)=Np X.stack:=by rw[W.Zy];rfl
 have j:a∉Np X.stack:=fun z=>by
  rcases zw.mp (I.J3 a z)with q|q;·exact B.2.1 q
  ·exact B.2.2.1 q
 refine za (wpAny_frameOf_fun n G W.pC fun d c=>?_);rw[u]at c;refine za (wpAny_entryPlaceOf fun pl m=>?_);unfold EntryCells.newEntry newFields;refine za (wu ?_ (m.sizeOk5 _ _ _ _ _));have g:d.get? a=some o:=(c.2.1 a j).trans D;have f:=zi (h:=d) {cls:= .type "traceback",dict:=none,data:= .fields ([i,.ref X.env.locals,.none,rawInt X.env.locals,.none]++(if pl.isEmpty then List.replicate 6 Value.none else pl)).toArray} g;refine xA f A C (h _ d.objs.size ?_ ?_ ?_ ?_ ?_);·rw[c.1];exact ze _
 ·intro b x r e;obtain⟨l,q⟩:=c.2.2 b x e;exact⟨l,DD (fun z=>j (by rw[z];exact r)) (zi _ q)⟩
 ·intro b x r p e;exact DD (zN p) (zi _ ((c.2.1 b r).trans e))
 ·exact ye _ f (vc (xZ A _))
 ·have t:d.objs.size≠a:=xl (zA g);exists _,_,(yU _ _ (zN t)).trans (zM d rfl),rfl;simp only[zI,zd,zm,yQ];lia
theorem L6{Q:Unit->Shared->Prop}(W:kW X)(I:As X pins σ H s)(M:Cg X pins H a)(ft:∀t,tb=some t->Cg X pins H t)(x:ExcAt s.heap c a C d tb)(h:∀N t,As X pins σ H N->Cg X pins H t->ExcAt N.heap c a C d (some t)->Q () N):wpX X (noteFrame (.ref a) X.env) Q E s:=by
 obtain⟨⟨r,j,n,P,h1,k⟩,u⟩:=x;have V:({cls:= .ref C,dict:=d,data:= .fields r,slots:=j}:Obj).data= .fields r:=rfl;have fin:∀(s0:Shared)(p:List Addr)(g:Heap)(T:Addr),s.heap.objs.size<=T->(∀b o,b∈Np X.stack->s.heap.get? b=some o->∃j,g.get? b=some {o with slots:=j})->(∀b o,b∉Np X.stack->b∉p->s.heap.get? b=some o->g.get? b=some o)->(∀b∈p,Cg X pins H b)->g.get? a=some ({cls:= .ref C,dict:=d,data:= .fields (r.setIfInBounds 1 (.ref T)),slots:=j}:Obj)->(∃oT L,g.get? T=some oT/\oT.data= .fields L/\3<L.size)->T≠a->Q () {s with heap:=g}:=by
  intro s0 p g T m B A y w k5 k6;have J:As X pins σ H {s with heap:=g}:=I.mV (t':=s.toks) (ch:=p) B A y;refine h _ T J (I.Ka m (I.Bx.fresh m)) ⟨⟨_,j,w,by simp[P],?_,fun z=>?_⟩,fun t ht=>?_⟩;·rw[Array.getElem?_setIfInBounds];simp[P]
  ·rw[yz ⋯];exact k z
  ·cases ht;exact⟨k6,k5⟩
 unfold noteFrame;simp only[W.pC];refine za (xg n V h1 ?_);cases tb with
 |none=>rw[zb ⋯];refine K8 W I M n V ∅ fun g T m B A y w=>?_;have l:T≠a:=xl (zF (zA n) m);exact fin s [a] g T m B (fun b o f k e=>A b o f (fun z=>k (by simp[z])) e) (fun b f=>by rw[zB.mp f];exact M) y w l
 |some t=>
  obtain⟨O,ot,L,F,G,D⟩:=u t rfl;have i:=ft t rfl;have U:t∉Np X.stack:=fun z=>by
   rcases zw.mp (I.J3 t z)with q|q;·exact i.2.1 q
   ·exact i.2.2.1 q
  rw[zc (show((Option.some t).elim Value.none Value.ref !=Value.none)=true from by simp)];obtain⟨Z,R⟩:∃v,L[3]?=some v:=⟨_,tV D⟩;refine za (xg (x:=Z) F G R ?_);by_cases hq:(Z==rawInt X.env.locals)=true;·rw[zc hq];exact zr (h s t I i ⟨⟨r,j,n,P,h1,k⟩,u⟩)
  ·rw[zb hq];refine za (xA F G D ?_);have I2:As X pins σ H {s with heap:=s.heap.update t (Obj.mapFields (·.setIfInBounds 3 .none))}:=I.Lr (t':=s.toks) (ch:=[t]) (fun b o f e=>DD (fun z=>f (by simp[z])) e) (fun b f=>by rw[zB.mp f];exact i);have S:(s.heap.update t (Obj.mapFields (·.setIfInBounds 3 .none))).get? a=some {cls:= .ref C,dict:=d,data:= .fields r,slots:=j}:=DD O n;refine K8 W I2 M S V ∅ fun g T m B A y w=>?_;have K:s.heap.objs.size<=T:=by have e:(s.heap.update t (Obj.mapFields (·.setIfInBounds 3 .none))).objs.size=s.heap.objs.size:=Heap.size_after_update ..;have a0:(s.heap.update t (Obj.mapFields (·.setIfInBounds 3 .none))).objs.size<=T:=m;lia
   have l:T≠a:=xl (zF (zA n) K);refine fin s [a,t] g T K (fun b o f e=>?_) (fun b o f k e=>?_) (fun b f=>?_) y w l;·exact B b o f (DD (fun z=>U (by rw[z];exact f)) e)
   ·exact A b o f (fun z=>k (by simp[z])) (DD (fun z=>k (by simp[z])) e)
   ·rcases zw.mp f with z|z;·rw[z];exact M
    ·rw[zB.mp z];exact i
theorem GU{Q:Unit->Shared->Prop}(I:As X pins σ H s)(F:Cg X pins H a)(w:∀t,tb=some t->Cg X pins H t)(x:ExcAt s.heap c a C d tb)(y:Option Addr)(h:∀k,As X pins σ H k->ExcAt k.heap c a C d tb->Q () k):wpAny (model X.prog X.w) A (setFlight (.ref a) y) Q E s:=by
 obtain⟨⟨q,r,n,u,p,v⟩,l⟩:=id x;unfold setFlight;refine za (xg n rfl p ?_);cases tb with
 |none=>rw[zb ⋯];exact zr (h s I x)
 |some t=>
  obtain⟨g,D,B,j,f,i⟩:=l t rfl;rw[zc (show((Option.some t).elim Value.none Value.ref !=Value.none)=true from by simp)];refine xA j f i (h _ ?_ ?_);·exact I.Lr (t':=s.toks) (ch:=[t]) (fun b o m e=>DD (fun z=>m (by simp[z])) e) (fun b m=>by rw[zB.mp m];exact w t rfl)
  ·refine⟨⟨q,r,DD g n,u,p,v⟩,fun t' e=>?_⟩;cases e;exact⟨g,_,_,ye _ j (vc (xZ f _)),xZ f _,‹i›⟩
theorem bN{Q:Unit->Shared->Prop}(W:kW X)(I:As X pins σ H s)(f:Cg X pins H a)(l:∀t,tb=some t->Cg X pins H t)(x:ExcAt s.heap c a C d tb)(h:∀b t,As X pins σ H b->Cg X pins H t->ExcAt b.heap c a C d (some t)->Q () b):wpX X (leaving X.env (.ref a)) Q E s:=by unfold leaving;refine za (L6 W I f l x fun o t n g j=>?_);exact GU n f (fun t' e=>by cases e;exact g) j none fun k m i=>h k t m g i
end
def Y_(c:Bool)(P:Program)(w:World):Ic:=fun outer H s E e f=>∃a C d h g,e= .ref a/\f.os=s.os/\AllBare f.gens/\Un (Np outer) [] H g s.heap f.heap/\FN P w g f.heap/\ExcAt f.heap c a C d h/\(∀b,b=a\/h=some b->s.heap.objs.size<=b/\g b=none)/\E (.ref C) d g
def C7(c:Bool)(X:Cx)(E:XK):Prop:=∀(b:List (Addr×Obj))(σ:St)(H:Hp)(s:Shared)(a C:Addr)(d e:Option Addr),As X b σ H s->Cg X b H a->(∀t,e=some t->Cg X b H t)->ExcAt s.heap c a C d e->E (.ref C) d H->X.xe (.ref a) s
theorem C7.weak{c:Bool}{X:Cx}{E:XK}(h:C7 false X E):C7 c X E:=fun b σ H s a C d e I g f x q=>h b σ H s a C d e I g f x.weak q
theorem C7.passes{c:Bool}{X:Cx}{E:XK}(h:C7 c X E):Cz (Y_ c X.prog X.w) X E:=by rintro b σ H s e i I ⟨a,C,d,m,k,o,n,p,l,g,x,f,q⟩;subst o;have J:As X b σ k i:=I.iu (ch:=[]) n l g p (fun Y z=>nomatch z);exact h b σ k i a C d m J (I.Ka (f a (.inl rfl)).1 (f a (.inl rfl)).2) (fun t j=>I.Ka (f t (.inr j)).1 (f t (.inr j)).2) x q
section
variable{c:Bool}{P:Program}{w:World}{K:Frag}{mg:Str->Option Value}{base:Heap}{f:Addr}{cd:Value}{outer:List Env}{E:XK}
theorem jD{a:Ic}:kW (Jj a P w K mg base N qual scope f cd A outer s H E):=⟨rfl,rfl⟩
theorem Zp:C7 c (Jj (Y_ c P w) P w K mg base N qual scope f cd A outer s H E) E:=by
 intro e σ h o a C d m I g k x q;refine bN (X:=Jj (Y_ c P w) P w K mg base N qual scope f cd A outer s H E) jD I g k x fun n t J l i=>?_;refine⟨a,C,d,some t,h,rfl,J.os,J.bare,J.base,J.Bx,i,fun b j=>?_,q⟩;have:Cg (Jj (Y_ c P w) P w K mg base N qual scope f cd A outer s H E) e h b:=by
  rcases j with rfl|z;·exact g
  ·cases z;exact l
 refine⟨?_,this.1⟩;rcases this.2.2.2.1 with z|z;·exact absurd (show b∈([]:List Addr)from z) (by simp)
 ·exact z
theorem Bt{a:Ic}:PassesOwn (model P w) (A.deeper (envOfC qual scope s.heap.objs.size f cd)) (envOfC qual scope s.heap.objs.size f cd) (Jj a P w K mg base N qual scope f cd A outer s H E).xe:=PassesOwn.leaving
end
structure Ck(k:Nat)(A:Around):Prop where
 dp:A.depth+3*k+5<recursionLimit
 un:A.units+16*k+200<cLine
theorem AW.h{k:Nat}(r:AW k A):Ck k A:=⟨r.dp,r.un⟩
theorem Ck.deeper{k:Nat}(r:Ck (k+1) A)(env:Env):Ck k (A.deeper env):=⟨by have:=r.dp;show A.depth+1+3*k+5<_;lia,by have:=r.un;show A.units+3+16*k+200<_;lia⟩
theorem Ck.make{k:Nat}(r:Ck (k+1) A)(C:Addr)(us:List Value)(a:List (Str×Value)):Ck k (A.under (.builtin "type.__call__" ⟨.ref C::us,a⟩)):=⟨by have:=r.dp;rw[MS];lia,by have:=r.un;rw[MR];lia⟩
theorem Ck.depth{k:Nat}(r:Ck k A):A.depth<recursionLimit:=by have:=r.dp;lia
theorem Ck.mark{k:Nat}(r:Ck k A)(h:Option Value):Ck k (A.mark h):=⟨r.dp,r.un⟩
structure FF(P:Program)(w:World)(K:Frag)(mg:Str->Option Value)(base:Heap)(CX:Ic)(k:Nat)(f:Addr)(fd:FuncData)(ps:List Str)(sp:Sp):Prop where
 len:∀vs H Q E,sp vs H Q E->vs.length=ps.length
 run:∀(A:Around)(outer:List Env)(s:Shared)(H:Hp)(args:Args)(us:List Value)(vs:List V)(Q:VK)(E:XK),Ck k A->Rf P w K mg base A outer s H->BindsTo s fd args (ps.zip us)->AG vs us->sp vs H Q E->codeAny (model P w) A (.call (.ref f) args) (CR CX outer P w H s Q E) s
abbrev lh(b:Ic)(P:Program)(w:World)(K:Frag)(mg:Str->Option Value)(base:Heap)(N:List Str)(qual:Str)(scope:Scope)(f:Addr)(a:Value)(A:Around)(outer:List Env)(s:Shared)(H:Hp)(E:XK):Cx:={Jj b P w K mg base N qual scope f a A outer s H E with calm:=false}
theorem Vm{J:Ic}{P:Program}{w:World}{K:Frag}{mg:Str->Option Value}{base:Heap}{f:Addr}{D:Value}{outer:List Env}{F:Shared}{E:XK}{j:List V}(S:Ah N ps scope)(g:Rf P w K mg base A outer s H)(R:j.length=ps.length)(r:AG j us)(x:InCallC s s.heap.objs.size (bindL (envOfC qual scope s.heap.objs.size f D).kindOf (ps.zip us) fun Y=>none) (cellsFrom (s.heap.objs.size+1) scope.names []) (bindC (envOfC qual scope s.heap.objs.size f D).kindOf (ps.zip us) fun Y=>none) F):As (lh J P w K mg base N qual scope f D A outer s H E) [] (start N j) H F:=by
 have M:ps.length<=N.length:=by have:=zT List.length S.pre;rw[zO]at this;lia
 obtain⟨C,Q,rfl,I⟩:=x.done;have l:∀b:Addr,b∉(lh J P w K mg base N qual scope f D A outer s H E).ex:=fun b z=>absurd (show b∈([]:List Addr)from z) (by simp);exists⟨g.mod,S.kind,rfl,rfl,ze _,fun y z c C d=>?_,fun y m=>?_,fun y c Y h=>?_,(fun z=>nomatch z),qu g.frames,.inr ⟨rfl,rfl⟩,fun b z=>absurd z (l b),g.bs,g.Zi,fun b Y Y=>l b,fun b z=>absurd z (l b),g.HV,g.dG⟩,rfl,g.bare,Un.kept I,⟨_,x.toInCall.ns,fun i y v C d T=>?_⟩,fun y c h=>⟨_,x.cell y c h⟩,g.Bx.fresh (ze _),fun y c h=>?_,fun p t=>absurd (show p∈([]:List (Addr×Obj))from t) (by simp),g.Bx.kept I;·exact name_of_addr x.apart (zU C) (zU d)
 ·have m:scope.names.lookup y=some .cell\/scope.names.lookup y=some .free:=m;rcases m with m|m;·exact Jl m
  ·exact absurd rfl (S.bu _ (zU m))
 ·exact wj (x.above y c (zU h))
 ·have B:i<j.length:=by
   unfold start at d;by_cases B:i<j.length;·exact B
   ·rw[yC ‹B›]at d;rw[ua]at d;split at d<;>cases d
  have O:j[i]?=some v:=by unfold start at d;rw[yr ‹B›,z7]at d;cases e:j[i]? with|none=>rw[e]at d;cases d|some a=>rw[e]at d;cases d;rfl
  obtain⟨u,G,L⟩:=r.get O;have t:ps[i]?=some y:=by rw[<-S.pre,vM ∅];exact C
  have o:ps.Nodup:=by rw[<-S.pre];exact S.nd.sublist (rO _ _)
  exists u,L;rcases S.par y (zf t)with k|k;·exact .inl ⟨k,Kq o t G k⟩
  ·obtain⟨c,e⟩:=Jl (n:=s.heap.objs.size+1) k;refine .inr ⟨.inl k,c,e,?_⟩;have q:=x.cell y c e;rw[Kr o t G (by show scope.names.lookup y≠_;rw[k];decide)]at q;exact q
 ·exact g.Bx.fresh (wj (x.above y c (zU h)))
 ·unfold start;show _=N.length;rw[zd,z3,yF];lia
theorem kl{F:Ic}{P:Program}{w:World}{K:Frag}{mg:Str->Option Value}{base:Heap}{k:Nat}{f:Addr}{i:Str}{c:Arguments}{d:List Stmt}{dV X D W a ct oc:Value}{an od:Option Addr}{O:Array (Option Value)}{G:Sp}(lk:K.lookup f=some ⟨oc,od,.func (fnOf i qual c d scope dV X D W an a ct),O⟩)(T:codeIn K a qual=true)(S:Ah N ps scope)(z:∀h H Q E,G h H Q E->h.length=ps.length)(m:∀(A:Around)(outer:List Env)(s:Shared)(H:Hp)(h:List V)(Q:VK)(E:XK),Ck k (A.deeper (envOfC qual scope s.heap.objs.size f a))->G h H Q E->∃t,Rk (lh F P w K mg base N qual scope f a A outer s H E) d t/\t {nx:=fun Y j=>Q .B0 j,rt:=Q} (start N h) H):FF P w K mg base F (k+1) f (fnOf i qual c d scope dV X D W an a ct) ps G:=by
 refine⟨z,fun A outer s H args us h Q E Z C hb r B=>?_⟩;have hl:=z _ _ _ _ B;have KX:K.In s.heap:=C.mod.dF.keeps fun b o e=>(C.bs b o e).1;have R:s.heap.NoLimit:=C.mod.nolimit.keeps fun b o e=>(C.bs b o e).1;have l:∀y∈ps.zip us,scope.names.lookup y.1=some .local\/(scope.names.lookup y.1=some .cell/\((cellsFrom (s.heap.objs.size+1) scope.names []).lookup y.1).isSome=true):=fun⟨n,v⟩ hy=>by
  rcases S.par n (uk hy).1 with q|q;·exact .inl q
  ·exact .inr ⟨q,ub _ _ _ (.inl q)⟩
 refine qd Z.depth (KX _ _ lk) rfl S.co S.gen rfl (rB KX T) (hb _ _ _ _ (sO S.kind l fun env he U x=>?_));subst he;refine⟨R.keeps x.toInCall.keep,codeAny_func ?_⟩;obtain⟨t,ht,hq⟩:=m A outer s H h Q E (Z.deeper _) B;have I:As (lh F P w K mg base N qual scope f a A outer s H E) [] (start N h) H U:=Vm S C hl r x;refine yG (ht [] U (start N h) H _ I hq) (fun fl L p=>?_) fun e L p=>p;have fin:∀{g:St}{j:Hp}{v:V}{u:Value},As (lh F P w K mg base N qual scope f a A outer s H E) [] g j L->AX v u->Q v j->CE outer P w H s Q u L:=fun{g j v u} J M q=>⟨v,j,J.os,J.bare,J.base,J.Bx,M,q⟩;cases fl with|ret u=>obtain⟨v,g,j,J,M,q⟩:=p;exact fin J M q|next=>obtain⟨g,j,J,q⟩:=p;exact fin (v:=V.B0) (u:=Value.none) J rfl q|brk=>obtain⟨Y,Y,Y,q⟩:=p;exact False.elim q|cont=>obtain⟨Y,Y,Y,q⟩:=p;exact False.elim q
section
variable{CX:Ic}{k:Nat}{f:Addr}{sp:Sp}{E:XK}{m:Str}{p pos:Pos}{t:TA}
theorem eQ{a:List (Addr×Obj)}{Q:VK}{d:List V}(F:FF X.prog X.w X.K X.mg X.base CX k f fd ps sp)(j:Ck k X.A)(m:Bn X.K fd ps [])(i:Cz CX X E)(I:As X a σ H s)(r:AG d us)(h:sp d H Q E):wpX X (call (.ref f) us) (EP X a σ Q) X.xe s:=by
 have l:(us++[]).length=ps.length:=by rw[zR,<-r.length];exact F.len _ _ _ _ h
 have c:=m s us I.Gq l;rw[zR]at c;refine vd (wZ (F.run X.A X.stack s H ⟨us,[]⟩ us d Q E j I.gk c r h) fun r g b=>?_);cases r with|error e=>exact i a σ H s e g I b|ok n=>cases n with|ret u=>exact I.after b|next=>exact False.elim b|brk=>exact False.elim b|cont=>exact False.elim b
def XO(a C:Addr)(d:Option Addr):HO:= .ext fun h=>∃b c,h.get? a=some {cls:= .ref C,dict:=d,data:= .fields b,slots:=c}/\b.size=6/\b[1]?=some .none/\b[2]?=some .none
theorem XO.bj{P:Program}{w:World}{h:Heap}{C:Addr}{vs:Array Value}{sl:Array (Option Value)}(e:h.get? a=some {cls:= .ref C,dict:=d,data:= .fields vs,slots:=sl})(b:vs.size=6)(f:vs[1]?=some .none)(c:vs[2]?=some .none):B7 P w H h a (XO a C d):=⟨⟨vs,sl,e,b,f,c⟩,⟨_,e⟩,fun Y Y ⟨vs,sl,e,r⟩ k=>⟨vs,sl,k _ e,r⟩⟩
theorem As.xo{b:List (Addr×Obj)}{C:Addr}(I:As X b σ H s)(h:H a=some (XO a C d)):∃c e,s.heap.get? a=some {cls:= .ref C,dict:=d,data:= .fields c,slots:=e}/\c.size=6/\c[1]?=some .none/\c[2]?=some .none:=(I.Bx a _ h).1
def Lk(H:Hp)(a:Addr):Hp:=fun b=>if b=a then none else H b
theorem E_:Lk H a a=none:=by unfold Lk;rw[zc rfl]
theorem BY(h:b≠a):Lk H a b=H b:=by unfold Lk;rw[zb h]
theorem T7{o:HO}(h:Lk H a b=some o):b≠a/\H b=some o:=by
 unfold Lk at h;split at h;·cases h
 ·exact⟨by assumption,h⟩
theorem As.ir{f:List (Addr×Obj)}{C:Addr}(I:As X f σ H s)(h:H a=some (XO a C d)):As X f σ (Lk H a) s:=by
 have g:∀b u,H b=some u->u≠XO a C d->Lk H a b=some u:=fun b u e n=>by
  by_cases q:b=a;·subst q;rw[h]at e;exact absurd (zt e).symm n
  ·rw[BY q];exact e
 refine⟨I.ok,I.os,I.bare,⟨I.base.keep,I.base.slot,fun b o e n i=>?_,I.base.there,fun b xs e=>?_,fun b o u e=>?_,fun b ps e=>?_⟩,I.loc,I.cell,?_,fun x c e=>?_,fun p j=>?_,fun b u e=>?_,I.len⟩
 ·by_cases q:b=a;·subst q;exact E_
  ·rw[BY q];exact I.base.free b o e n i
 ·exact g _ _ (I.base.tups b xs e) (by unfold XO;intro z;cases z)
 ·exact g _ _ (I.base.frzs b o u e) (by unfold XO;intro z;cases z)
 ·obtain⟨m,q⟩:=I.base.tbls b ps e;exact⟨m,g _ _ q (by unfold XO;intro z;cases z)⟩
 ·by_cases q:X.env.locals=a;·rw[q];exact E_
  ·rw[BY q];exact I.free
 ·by_cases q:c=a;·rw[q];exact E_
  ·rw[BY q];exact I.CN x c e
 ·obtain⟨e,n,r⟩:=I.pin p j;refine⟨e,?_,r⟩;by_cases q:p.1=a;·rw[q];exact E_
  ·rw[BY q];exact n
 ·obtain⟨q,e⟩:=T7 e;have x:=I.Bx b u e;exact x.Ip (fun Y Y Y z=>z) (fun c z=>g c _ z (by unfold XO;intro z;cases z)) fun c xs z=>g c _ z (by unfold XO;intro z;cases z)
structure PM(K:Frag)(C f:Addr):Prop where
 makes:D7 K C=true
 init:findIn K (.ref C) "__init__"=some (some (.ref f))
 fn:isFn K (.ref f)=true
 kp:keepIn K (.ref C)=true
 nT:subIn K (.ref C) (.type "type")=some false
theorem ON{c:List (Addr×Obj)}{Q:Hp->Prop}{m:List V}(M:PM X.K C f)(F:FF X.prog X.w X.K X.mg X.base PQ k f fd ps sp)(z:Ck (k+1) X.A)(B:Bn X.K fd ps [])(I:As X c σ H s)(r:AG m us)(y:m.length<=sizeLine)(h:sp (.ref (s.heap.objs.size+1)::m) (Av H (s.heap.objs.size+1) (XO (s.heap.objs.size+1) C none)) (fun v K=>v= .B0/\Q K) E0):wpX X (call (.ref C) us) (fun u q=>u= .ref (s.heap.objs.size+1)/\∃n,As X c σ n q/\Q n) X.xe s:=by
 have J:As X c σ H {s with heap:=s.heap.push (Dh us)}:=I.kept (t':=s.toks) fun b u e=>zi _ e;have j:((s.heap.push (Dh us)).push (Ek C s.heap.objs.size)).get? (s.heap.objs.size+1)=some (Ek C s.heap.objs.size):=by heap_get
 have p:As X c σ (Av H (s.heap.objs.size+1) (XO (s.heap.objs.size+1) C none)) {s with heap:=(s.heap.push (Dh us)).push (Ek C s.heap.objs.size)}:=J.laid (t':=s.toks) (a:=s.heap.objs.size+1) (fun b u e=>zi _ e) (by show(s.heap.push _).objs.size<=_;rw[yk];exact ze _) (XO.bj j rfl rfl rfl);have t:AG (V.ref (s.heap.objs.size+1)::m) (Value.ref (s.heap.objs.size+1)::us):= .cons rfl r;have A:((Value.ref (s.heap.objs.size+1)::us)++[]).length=ps.length:=by rw[zR,<-t.length];exact F.len _ _ _ _ h
 have l:=B {s with heap:=(s.heap.push (Dh us)).push (Ek C s.heap.objs.size)} (Value.ref (s.heap.objs.size+1)::us) p.Gq A;rw[zR]at l;have o:=F.run _ X.stack _ _ ⟨Value.ref (s.heap.objs.size+1)::us,[]⟩ (Value.ref (s.heap.objs.size+1)::us) _ _ E0 (z.make C us []) (p.gk.make C us []) l t h;obtain⟨N,g,d,L,os⟩:=s;refine vd (mC (GR I.Gq M.makes) (by rw[<-r.length];exact y) (xB I.Gq M.init) (fun self=>qe I.Gq self (zP.mp M.fn)) (wZ o fun r q i=>?_));cases r with|error e=>exact False.elim i|ok D=>cases D with|ret u=>obtain⟨v,n,G,w,E,x⟩:=p.after i;subst E;exact⟨w,rfl,n,G,x⟩ |next=>exact False.elim i|brk=>exact False.elim i|cont=>exact False.elim i
end
end L2
namespace L2
open PySem PySem.Spec PyProof.Rows
open PySem.W (Frag Looks)
section
variable{f:Addr}
structure Uh(M:Model)(h:Heap)(a C:Addr):Prop where
 ty:Looks M h (typeOf (.ref a)) (.ref C)
 mt:Looks M h (typeOf (.ref C)) (.type "type")
 nT:Looks M h (isSubtype (.ref C) (.type "type")) false
 ri:Looks M h (isSubtype (.ref C) (.type "BaseException")) true
theorem ZD{K:Frag}{M:Model}{h:Heap}{o:Obj}(j:K.In h)(i:PM K C f)(e:h.get? a=some o)(n:o.cls= .ref C):Uh M h a C:=by obtain⟨⟨q,v,p,l,u,t⟩,d,base,self,m,c,s,r,g,k⟩:=GR (M:=M) j i.makes;refine⟨?_,(uY l).andThen .now,rg j i.nT,c⟩;have:=(uY (M:=M) (part:=some headPart) e).andThen (f:=fun o=>pure o.cls) (b:= .ref C) (by rw[<-n];exact .now);exact this
theorem Sb{env:Env}{Q:Flow->Shared->Prop}{x:Sem Value}{s:Shared}(r:A.handled=none)(o:wpAny (model X.prog X.w) A x (fun v f=>∃a e j d,v= .ref a/\Uh (model X.prog X.w) f.heap a C/\f.heap.get? a=some {cls:= .ref C,dict:=d,data:= .fields e,slots:=j}/\e[1]?=some .none/\E (.ref a) f) E s):wpAny (model X.prog X.w) A (raiseStmt env (some x) none) Q E s:=by
 unfold raiseStmt;refine za (yG o (fun v b c=>?_) fun Y Y z=>z);obtain⟨a,e,j,d,rfl,⟨l,n,m,i⟩,p,u,t⟩:=c;obtain⟨h,g,B,w,os⟩:=b;have y:Looks (model X.prog X.w) h (field (.ref a) 1) .none:=by intro A Q E s k q;exact xg (k _ _ p) rfl u q
 dsimp only at l n m i;repeat lk
 refine rq ?_;rw[r];exact t_ t
def HH(C:Addr)(f:Sp)(E:XK)(t:TA):TS:=fun Y σ H=>t σ H fun b e=>b.length<=sizeLine/\∀a,e a=none->f (.ref a::b) (Av e a (XO a C none)) (fun v c=>v= .B0/\∃d,c a=some (XO a C d)/\E (.ref C) d (Lk c a)) E0
variable{k:Nat}{sp:Sp}{E:XK}{p pos rpos:Pos}{t:TA}{c:Bool}
theorem M9{b:List V}(M:PM X.K C f)(F:FF X.prog X.w X.K X.mg X.base PQ k f fd ps sp)(x:Ck (k+1) X.A)(y:Bn X.K fd ps [])(u:C7 true X E)(I:As X pins σ H s)(r:AG b us)(t:b.length<=sizeLine)(h:∀a,H a=none->sp (.ref a::b) (Av H a (XO a C none)) (fun v m=>v= .B0/\∃d,m a=some (XO a C d)/\E (.ref C) d (Lk m a)) E0):wpX X (call (.ref C) us) (fun v e=>∃a b g d,v= .ref a/\Uh (model X.prog X.w) e.heap a C/\e.heap.get? a=some {cls:= .ref C,dict:=d,data:= .fields b,slots:=g}/\b[1]?=some .none/\X.xe (.ref a) e) X.xe s:=by have j:H (s.heap.objs.size+1)=none:=I.Bx.fresh (wG _);refine Br (ON M F x y I r t (h _ j)) fun v e w=>?_;obtain⟨rfl,m,l,d,o,q⟩:=w;obtain⟨c,g,i,p,n,A⟩:=l.xo o;have B:=l.ir o;exact⟨_,c,g,d,rfl,ZD l.Gq M i rfl,i,n,u pins σ _ e _ C d none B (I.Ka (wG _) E_) (fun Y z=>nomatch z) ⟨⟨c,g,i,p,n,fun Y=>A⟩,fun Y z=>nomatch z⟩ q⟩
theorem EO(M:PM X.K C f)(F:FF X.prog X.w X.K X.mg X.base PQ k f fd ps sp)(y:Ck (k+1) X.A)(B:Gl X x)(z:X.mg x=some (.ref C))(K:Bn X.K fd ps [])(J:X.calm=true)(u:C7 true X E)(L:PA X (e::es) t)(l:(x==("__debug__":Str))=false:=by decide)(G:starEach (e::es) X.env=(false,eval e X.env)::starEach es X.env:=by rfl)(j:(backTo pos (starEach es X.env)).any (·.1)=false:=by rfl):PS X (.Raise (some (.Call (.Name x p) (e::es) [] pos)) none rpos) (HH C sp E t):=by
 intro b s σ H D I h;rw[sR];refine za (xb ?_);have A:=I.ok.hd J;have c:wpX X (eval (.Call (.Name x p) (e::es) [] pos) X.env) (fun v g=>∃a i n d,v= .ref a/\Uh (model X.prog X.w) g.heap a C/\g.heap.get? a=some {cls:= .ref C,dict:=d,data:= .fields i,slots:=n}/\i[1]?=some .none/\X.xe (.ref a) g) X.xe s:=by refine yX (DL I B z ?_ l);refine xO (h₀:=X.base) I.ok.mod.dF M.kp (Br (L pos b s σ H _ I h) fun us N ⟨i,O,m,r,q,o⟩=>⟨m.Gq,?_⟩) G j;exact M9 M F y K u m r q o
 show wpAny _ _ (raiseStmt X.env (some (do
  let v<-eval (.Call (.Name x p) (e::es) [] pos) X.env
  standAt rpos
  pure v)) none) _ _ _;exact Sb A (za (Br c fun v g w=>za (xb (zr w))))
theorem XJ(M:PM X.K C f)(F:FF X.prog X.w X.K X.mg X.base PQ k f fd ps sp)(n:Ck (k+1) X.A)(r:Gl X x)(o:X.mg x=some (.ref C))(u:Bn X.K fd ps [])(t:X.calm=true)(l:C7 true X E)(e:(x==("__debug__":Str))=false:=by decide):PS X (.Raise (some (.Call (.Name x p) [] [] pos)) none rpos) (HH C sp E Ca):=by
 intro i s σ H D I h;rw[sR];refine za (xb ?_);have q:=I.ok.hd t;have b:wpX X (eval (.Call (.Name x p) [] [] pos) X.env) (fun v c=>∃a g j d,v= .ref a/\Uh (model X.prog X.w) c.heap a C/\c.heap.get? a=some {cls:= .ref C,dict:=d,data:= .fields g,slots:=j}/\g[1]?=some .none/\X.xe (.ref a) c) X.xe s:=by refine yX (DL I r o ?_ e);exact uB I.Gq M.kp (M9 (us:=[]) M F n u l I .nil h.1 h.2)
 show wpAny _ _ (raiseStmt X.env (some (do
  let v<-eval (.Call (.Name x p) [] [] pos) X.env
  standAt rpos
  pure v)) none) _ _ _;exact Sb q (za (Br b fun v c m=>za (xb (zr m))))
end
theorem Qv{w:World}{K:Frag}{v:Value}{a:Str}{T:String}{Q:Value×List Value->Shared->Prop}(X:K.In s.heap)(f:typeOf (.type T)=pure (.type "type"))(g:Manifest.isStub T=false)(e:findCls K (.type T) (.type "type") a=some (.val v))(i:handedIn v=true)(h:Q (v,[]) {s with toks:=s.toks+1}):wpAny (model prog w) A (getMethod (.type T) a pl) Q E s:=by
 have b:opaqueClassAbove (.type T)=pure none:=by unfold opaqueClassAbove;cbv;rw[g];rfl
 have d:Looks (model prog w) s.heap (typeOf (.type T)) (.type "type"):=tL f;have c:findIn K (.type "type") "__getattribute__"=some (some (.builtin "type.__getattribute__")):=PySem.W.type_tga;unfold getMethod specialOf;refine za (za (d.here ((xB X c).here ?_)));cbv;rw[zc PySem.W.canon_tga];refine za (yG (Q:=fun v=>Q (v,[])) (E:=E) ?_ (fun Y Y z=>zr z) fun Y Y z=>z);have j:Looks (model prog w) s.heap (opaqueClassAbove (.type T)) none:=tL b;refine PySem.W.cls_open X j d c (rA X (r:=none) (by rfl)) (by show subIn K _ _=_;rfl) e (zr (by show wpAny _ _ (handedOut v) _ _ _;rw[sS i];exact zr h))
theorem N2:bootBuiltins "Exception"=some (.type "Exception"):=∎
theorem gj:typeOf (.type "Exception")=pure (.type "type"):=by kernel_rfl
theorem cH:Manifest.isStub "Exception"=false:=∎
theorem cI(K:Frag):findCls K (.type "Exception") (.type "type") "__init__"=some (.val (.builtin "Exception.__init__")):=by kernel_rfl
theorem Ua{M:Model}{Q:Unit->Shared->Prop}{h:Heap}{g:Array GenState}{d:Drawn}{t:Nat}{os:OsState}{o:Obj}{c:List Value}(Y:N9 M h C)(n:h.get? a=some o)(r:o.cls= .ref C)(q:Q () ⟨h,g,d,t,os⟩):wpAny M A (checkBuiltinCall "Exception.__init__" ⟨.ref a::c,[]⟩) Q E ⟨h,g,d,t,os⟩:=by
 have F:=vo;obtain⟨⟨v,D,u,y,B,z⟩,j,base,self,i,s,x,w,k,l⟩:=Y;have m:Looks M h (typeOf (.ref a)) (.ref C):=by have:=(uY (M:=M) (part:=some headPart) n).andThen (f:=fun o=>pure o.cls) (b:= .ref C) (by rw[<-r];exact .now);exact this
 have p:Looks M h (isInstance (.ref a) (.type "Exception")) true:=m.andThen i;have e:=F.noStar;simp only[checkBuiltinCall,F.initKind,F.initSplit,F.initRow];refine za (p.at ?_);simp only[Bool.not_true,yD,yS];unfold Bind.checkArgs;cbv;simp only[wk,check_star_args];refine za ?_;unfold Bind.printed;repeat lk
 exact q
theorem iM{o:HO}(h:H a=some o):Av H a o=H:=by
 funext b;unfold Av;split;·rename_i e;rw[e,h]
 ·rfl
section
variable{f:Addr}
theorem V1(I:As X pins σ H s)(M:PM X.K C f)(h:H a=some (XO a C d))(w:∀m,As X pins σ H m->Q .none m):wpX X (call (.builtin "Exception.__init__") [.ref a]) Q E s:=by
 have F:=vo;obtain⟨j,l,n,p,z,y⟩:=I.xo h;have Y:=GR (M:=model X.prog X.w) I.Gq M.makes;obtain⟨r,k⟩:∃v,j[0]?=some v:=⟨_,tV ∅⟩;have A:As X pins σ H {s with heap:=s.heap.push (Dh [])}:=I.kept (t':=s.toks) fun b u e=>zi _ e;have c:=zi (h:=s.heap) (Dh []) n;have o:As X pins σ (Av H a (XO a C d)) {s with heap:=(s.heap.push (Dh [])).update a (Obj.mapFields (·.setIfInBounds 0 (.ref s.heap.objs.size)))}:=by
  have i:=ye (Obj.mapFields (·.setIfInBounds 0 (Value.ref s.heap.objs.size))) c (vc (xZ rfl _));refine A.write (t':=s.toks) (x:=a) (e:=a) (by rw[h];trivial) (.inl rfl) (fun b u t e=>DD (zN t) e) ⟨_,i⟩ (XO.bj (vs:=j.setIfInBounds 0 (.ref s.heap.objs.size)) (sl:=l) i (by simp[p]) ?_ ?_);·rw[yz ⋯];exact z
  ·rw[yz ⋯];exact y
 rw[iM h]at o;obtain⟨D,g,G,B,os⟩:=s;refine vd (uP F.init.plain F.initEntry (Ua Y n rfl ?_));unfold Builtin.«BaseException.__init__»;cbv;rw[zb (by simp)];unfold newTuple Builtin.BaseException.bexcPut;refine za (wu (za (za (xg c rfl k (za (xA c rfl ∅ ?_))))) (by show([]:List Value).toArray.size<=sizeLine;simp));have fin:=w _ o;cases r with|ref q=>exact uN (zr fin) |_=>exact zr (zr fin)
def iR(K:Frag)(te:TE):TS:=fun D σ H=>te σ H fun x b=>∃a C f d,x= .ref a/\PM K C f/\b a=some (XO a C d)/\D.nx σ b
theorem Se{o:Expr}{i c b e:Pos}(v:Gl X "Exception")(t:X.mg "Exception"=none)(r:PE X o te)(k:starEach [o] X.env=[(false,eval o X.env)]:=by rfl)(n:eval (.Call (.Attribute (.Name "Exception" i) "__init__" c) [o] [] b) X.env=(do
 let ov<-eval (.Name "Exception" i) X.env
 standAt c.atName
 let(f,first)<-holding [ov] (getMethod ov "__init__" pl)
 callWith b f first (backTo b (starEach [o] X.env)) (backToKw b (keywordEach [] X.env))):=by rfl)(p:swapsWith (.Call (.Attribute (.Name "Exception" i) "__init__" c) [o] [] b) none e.line X.env=pure false:=by rfl):PS X (.Expr (.Call (.Attribute (.Name "Exception" i) "__init__" c) [o] [] b) e) (iR X.K te):=by
 have m:PE X (.Call (.Attribute (.Name "Exception" i) "__init__" c) [o] [] b) (fun σ H Q=>te σ H fun x j=>∃a C f d,x= .ref a/\PM X.K C f/\j a=some (XO a C d)/\Q .B0 j):=by intro g s σ H Q I h;refine wR (pl:=pl) (Gn I v t N2 ?_) n;refine Qv I.Gq gj cH (cI X.K) ∎ (callWith_builtin1 ?_ k rfl);rw[k];refine vX (Br (r g _ σ H _ (I.tok _) h) fun u A ⟨x,j,y,l,a,C,f,d,ex,M,w,q⟩=>tQ ?_);subst ex;obtain rfl:u=Value.ref a:=l;exact V1 y M w fun B z=>⟨.B0,j,z,rfl,q⟩
 exact A2 m p
end
end L2
namespace L2
open PySem PySem.Spec PyProof.Rows PySem.Calls
open PySem.W (Frag Looks)
open Builtin Builtin.ObjectAttr
def Dt:List Value->Bool|[.type a,.type b,.type c]=>a=="Exception"&&b=="BaseException"&&c=="object"| .ref _::r=>Dt r|_=>false
theorem R_(self:Value):refuseLoop self "__setattr__" [.type "Exception",.type "BaseException",.type "object"]=pure ():=by kernel_rfl
theorem M6(self:Value):∀{l:List Value},Dt l=true->refuseLoop self "__setattr__" l=pure () |[.type a,.type b,.type c],e=>by simp only[Dt,zp,zP]at e;obtain⟨⟨rfl,rfl⟩,rfl⟩:=e;exact R_ self| .ref c::r,e=>by rw[refuseLoop_ref];refine M6 self (l:=r) ?_;cases r with|nil=>cases e|cons x r=>exact e
theorem Xc:∀{l:List Value},Dt l=true->l.contains (.type "object")=true
|[.type a,.type b,.type c],e=>by simp only[Dt,zp,zP]at e;obtain⟨⟨rfl,rfl⟩,rfl⟩:=e;decide
| .ref c::r,e=>by
 have:Dt r=true:=by cases r with|nil=>cases e|cons x r=>exact e
 rw[rF,Xc this,Bool.or_true]
theorem Tz:∀{l:List Value},Dt l=true->l.contains (.type "BaseException")=true
|[.type a,.type b,.type c],e=>by simp only[Dt,zp,zP]at e;obtain⟨⟨rfl,rfl⟩,rfl⟩:=e;decide
| .ref c::r,e=>by
 have:Dt r=true:=by cases r with|nil=>cases e|cons x r=>exact e
 rw[rF,Tz this,Bool.or_true]
theorem Tq{h:Heap}{o u:Obj}(e:(h.push o).get? b=some u)(n:b≠h.objs.size):h.get? b=some u:=by obtain⟨d,c⟩:=Heap.get?_some_iff.mp e;refine Heap.get?_some_iff.mpr ⟨?_,c⟩;have a:(h.objs.push o)[b]?=some u:=d;rw[Array.getElem?_push,zb n]at a;exact a
structure VT(K:Frag)(C:Addr)(name:Str):Prop where
 over:(clsIn K C).any (fun cd=>Dt cd.mro&&cd.hasDict)=true
 sa:findIn K (.ref C) "__setattr__"=some (some (.builtin "object.__setattr__"))
 ga:findIn K (.ref C) "__getattribute__"=some (some (.builtin "BaseException.__getattribute__"))
 gh:findIn K (.ref C) "__getattr__"=some none
 no:findIn K (.ref C) name=some none
section
variable{f:Addr}{name:Str}
theorem eD{Q:Unit->Shared->Prop}{v:V}(I:As X pins σ H s)(T:VT X.K C name)(h:H a=some (XO a C none))(r:AX v u)(hQ:∀R G,H G=none->G≠a->As X pins σ (Av (Av H G (.xd [(name,v)])) a (XO a C (some G))) R->Q () R):wpX X (setAttr (.ref a) name u) Q E s:=by
 obtain⟨k,l,F,W,h1,h2⟩:=I.xo h;obtain⟨P,O,c⟩:=uX T.over;rw[zp]at c;have J:PySem.W.InstAt s.heap a {cls:= .ref C,dict:=none,data:= .fields k,slots:=l} C none:=⟨F,rfl,rfl,we⟩;have B:=I.Gq;refine rL B J T.sa ?_;have A:=PySem.F.store_object;have ne:P.mro.isEmpty=false:=by cases q:P.mro with|nil=>rw[q]at c;cases c.1|cons _ _=>rfl
 have U:PySem.W.InstAt ({s with toks:=s.toks+1}:Shared).heap a {cls:= .ref C,dict:=none,data:= .fields k,slots:=l} C none:=J;have K:Looks (model X.prog X.w) s.heap (isInstance (.ref a) (.type "object")) true:=J.type.andThen (uA B (by unfold mroIn;rw[O,wU,zb (by rw[ne];decide),Xc c.1]));refine uP A.slot.plain A.entry (@uI (model X.prog X.w) _ _ {s with toks:=s.toks+1} "object.__setattr__" "object" "__setattr__" (.ref a) [.str name s.toks,u] [] _ A.kind A.split K (A.args (.ref a) (.str name s.toks) u) ?_);have hm:Looks (model X.prog X.w) s.heap (mroOf (.ref C)) P.mro:=(vb B O).andThen .now;rw[osa_eq,refuse_eq];refine za (za (U.type.here (za (hm.here (s:={s with toks:=s.toks+1}) ?_))));rw[M6 _ c.1];refine zr (za (U.type.here (za ((xB B T.no).here (s:={s with toks:=s.toks+1}) (za (zr ?_))))));have z:=vb (M:=model X.prog X.w) B O;unfold storeInOwnDict;refine za (zr ?_);show wpAny _ _ (ownDictForStores (.ref a)>>=_) _ _ _;refine za ?_;show wpAny _ _ (instanceDict a true) _ _ _;unfold instanceDict;refine za (sP F ?_);cbv;refine za (z.here (s:={s with toks:=s.toks+1}) ?_);rw[c.2,zb ⋯,zb (show¬((!true||!typeHasDict (Value.ref C))=true) by show¬((!true||!true)=true);decide)];have e1:(s.heap.push emptyDict).get? s.heap.objs.size=some emptyDict:=zM s.heap rfl;have e3:(s.heap.push emptyDict).Ns s.heap.objs.size (fun Y=>none):=⟨emptyDict,#[],_,e1,rfl,(fun e he=>absurd he (by simp)),fun Y=>rfl⟩;have n1:(s.heap.push emptyDict).Ns1 s.heap.objs.size (fun Y=>none):=Heap.Ns1.of_empty e3;have n:=zi emptyDict F;have d:s.heap.objs.size≠a:=xl (zA F);refine za (sf (za (wpAny_update n ?_)));show wpAny _ _ (pure (some s.heap.objs.size)) _ _ _;refine zr ?_;cbv;unfold storeInDict;refine za (zr (za ?_));have L:({cls:= .ref C,dict:=some s.heap.objs.size,data:= .fields k,slots:=l}:Obj).isFreed=false:=rfl;have f:((s.heap.push emptyDict).update a fun o=>{o with dict:=some s.heap.objs.size}).get? a=some {cls:= .ref C,dict:=some s.heap.objs.size,data:= .fields k,slots:=l}:=ye _ n L;have n2:((s.heap.push emptyDict).update a fun o=>{o with dict:=some s.heap.objs.size}).Ns1 s.heap.objs.size (fun Y=>none):=n1.at fun o q=>DD (zN d) q;refine wpAny_nsSet1 n2 fun h' p m=>?_;obtain⟨D,a0,a1,g,i,N⟩:=p.count (rK name u (ns:=[]) fun y hy=>absurd rfl hy);refine za (wpAny_lookBehind g (by rw[i];exact pastItsLine_dict (z_ N (by show 1<=sizeLine+1;lia))) (zr ?_));show Q () _;have w:D.isFreed=false:=by obtain⟨Y,Y,dt,Y⟩:=D;dsimp only at i;subst i;rfl
 have j:H s.heap.objs.size=none:=I.Bx.fresh (ze _);have IA:As X pins σ (Av H s.heap.objs.size (.xd [(name,v)])) {s with heap:=s.heap.push D}:=by
  refine I.laid (t':=s.toks) (fun b u e=>zi _ e) (ze _) ⟨_,p.at fun o q=>?_,fun y=>?_⟩;·rw[g]at q;cases q;exact zM _ w
  ·rw[show([(name,v)]:List (Str×V))=By name v []from rfl,Gi];by_cases e:y=name;·rw[zc e,zc e];exact r
   ·rw[zb e,zb e];trivial
 refine hQ _ s.heap.objs.size j d ?_;have t:h'.get? a=some {cls:= .ref C,dict:=some s.heap.objs.size,data:= .fields k,slots:=l}:=(m.2 a (zN d)).trans f;refine IA.write (t':=_) (x:=a) (e:=a) (by rw[Ac (zN d),h];trivial) (.inl rfl) (fun b Z hb e=>?_) ⟨_,t⟩ (XO.bj t W h1 h2);by_cases eb:b=s.heap.objs.size;·subst eb;have S:(s.heap.push D).get? s.heap.objs.size=some Z:=e;rw[zM _ w]at S;cases S;exact g
 ·exact(m.2 b eb).trans (DD (zN hb) (zi _ (Tq e eb)))
theorem gd{v:V}{p:Addr}{B:List (Str×V)}{c:Obj}{b:Bool}(I:As X pins σ H s)(T:VT X.K C name)(O:s.heap.get? a=some c)(o:c.cls= .ref C)(P:notCls c=true)(n:c.dict=some p)(W:H p=some (.xd B))(R:B.lookup name=some v)(Z:∀u w,AX v u->As X pins σ H w->Q u w):wpX X (getAttr (.ref a) name b) Q E s:=by
 obtain⟨mA,L,k⟩:=I.Bx p _ W;obtain⟨z,m,e⟩:=Ph L;obtain⟨D,A,f⟩:=uX T.over;rw[zp]at f;have J:PySem.W.InstAt s.heap a c C (some z):=⟨O,o,P,by rw[n];exact m⟩;have j:=I.Gq;have y:=k name;rw[R]at y;obtain⟨u,eu,x⟩:=y.some_of;have i:hasDictIn X.K C=true:=by unfold hasDictIn;rw[A];exact f.2
 have U:PySem.W.findObj X.K C (some z) name=some (.value u):=rh i T.no rfl (by rw[e,eu]);have fin:=Z u {s with toks:=s.toks+1} x (I.tok _);have N:=Px x;obtain⟨h,g,d,t,os⟩:=s;have F:=J.type (M:=model X.prog X.w);have L1:=xB (M:=model X.prog X.w) j T.ga;have L2:=xB (M:=model X.prog X.w) j T.gh;have L3:=PySem.W.looks_find (M:=model X.prog X.w) j J U;have K:D.mro.isEmpty=false:=by cases q:D.mro with|nil=>rw[q]at f;cases f.1|cons _ _=>rfl
 have r:Looks (model X.prog X.w) h (isSubtype (.ref C) (.type "BaseException")) true:=uA j (by unfold mroIn;rw[A,wU,zb (by rw[K];decide),Tz f.1]);have G:=PySem.F.attrBase_Exception;have S:Looks (model X.prog X.w) h (isInstance (.ref a) (.type "BaseException")) true:=F.andThen r;unfold getAttr getAttrBy;refine za (wpAny_mkText (yR (za (F.at (za (L1.at ?_))))));cbv;have l:(Value.builtin "BaseException.__getattribute__"==Value.builtin "object.__getattribute__")=false:=∎;rw[l,vm,zb ⋯];unfold getAttrByItsOwn;have LH:Looks (model X.prog X.w) h (hookBefore (.ref C)) none:=rA j (by show findIn X.K (.ref C) "__getattr__"=_;exact T.gh);refine za (LH.at (za (wpAny_attempt (yR ?_))));unfold callGetattribute;rw[show(b&&onTheHeap (Value.builtin "BaseException.__getattribute__"))=false from by cases b<;>rfl,zb ⋯];unfold boundAndCalled;rw[G.ga.bind];refine za (zr ?_);show wpAny _ _ (call (.builtin "BaseException.__getattribute__") [.ref a,.str name t]) _ _ _;refine vd (uP G.ga.plain PySem.F.entry_bexc_ga (@uI (model X.prog X.w) _ _ _ "BaseException.__getattribute__" "BaseException" "__getattribute__" (.ref a) [.str name t] [] _ ∎ ∎ S (PySem.F.args_bexc_ga _ _) ?_));unfold Builtin.«object.__getattribute__»;repeat lk
 show wpAny _ _ (handedOut u) _ _ _;rw[sS N];exact zr fin
def YO(c:Bool)(a C:Addr)(d:Option Addr):HO:= .ext fun h=>∃b e,h.get? a=some {cls:= .ref C,dict:=d,data:= .fields b,slots:=e}/\b.size=6/\(c=true->b[2]?=some .none)
theorem As.yo{c:Bool}(I:As X pins σ H s)(h:H a=some (YO c a C d)):∃b e,s.heap.get? a=some {cls:= .ref C,dict:=d,data:= .fields b,slots:=e}/\b.size=6/\(c=true->b[2]?=some .none):=(I.Bx a _ h).1
theorem As.lA{o:HO}(I:As X pins σ H s)(j:Cg X pins H a)(g:B7 X.prog X.w (Av H a o) s.heap a o):As X pins σ (Av H a o) s:=by
 obtain⟨y,w,A,v,t,k⟩:=j;have d:∀b u,H b=some u->b≠a:=fun b u e z=>by rw[z,y]at e;cases e
 refine⟨I.ok,I.os,I.bare,⟨I.base.keep,I.base.slot,fun b f e n h=>?_,I.base.there,fun b xs e=>?_,fun b f u e=>?_,fun b ps e=>?_⟩,I.loc,I.cell,?_,fun x c e=>?_,fun p i=>?_,fun b u e=>?_,I.len⟩
 ·have:b≠a:=fun z=>by
   rcases v with q|q;·exact h (z▸q)
   ·have l:=zA e;rw[z]at l;exact yW _ (zF l q)
  rw[Ac this];exact I.base.free b f e n h
 ·have q:=I.base.tups b xs e;rw[Ac (d _ _ q)];exact q
 ·have q:=I.base.frzs b f u e;rw[Ac (d _ _ q)];exact q
 ·obtain⟨m,q⟩:=I.base.tbls b ps e;exact⟨m,by rw[Ac (d _ _ q)];exact q⟩
 ·rw[Ac (zN w)];exact I.free
 ·rw[Ac (t x c e)];exact I.CN x c e
 ·obtain⟨e,n,r⟩:=I.pin p i;exact⟨e,by rw[Ac (k p i)];exact n,r⟩
 ·by_cases q:b=a;·subst q;rw[Aa]at e;cases e;exact g
  ·rw[Ac q]at e;exact(I.Bx b u e).Ip (fun Y Y Y z=>z) (fun c z=>by rw[Ac (d _ _ z)];exact z) fun c xs z=>by rw[Ac (d _ _ z)];exact z
def VV(K:Frag)(g:TE)(f:Str):TE:=fun σ H Q=>g σ H fun x b=>∃c a C e d v,x= .ref a/\b a=some (YO c a C (some e))/\VT K C f/\b e=some (.xd d)/\d.lookup f=some v/\Q v b
theorem Qo{i:TE}{d:Pos}{f:Str}(o:PE X e i)(r:attributeBase e f X.env (eval e X.env)=eval e X.env):PE X (.Attribute e f d) (VV X.K i f):=by intro b s σ H Q I h;refine Xm r (Br (o b s σ H _ I h) fun u B g=>?_);obtain⟨x,y,j,k,c,a,C,F,E,v,ex,t,T,p,n,q⟩:=g;subst ex;obtain rfl:u=Value.ref a:=k;obtain⟨z,A,m,Y,Y⟩:=j.yo t;exact gd j T m rfl rfl rfl p n fun u D l w=>⟨v,y,w,l,q⟩
def ml(K:Frag)(e d:TE)(f:Str):TS:=fun D σ H=>d σ H fun y g=>e σ g fun x c=>∃a C,x= .ref a/\c a=some (XO a C none)/\VT K C f/\∀b,c b=none->b≠a->D.nx σ (Av (Av c b (.xd [(f,y)])) a (XO a C (some b)))
theorem WB{o b:Expr}{j i:TE}{f:Str}{e c:Pos}(z:PE X o j)(v:PE X b i)(w:swapsWith b (some (.Attribute o f c)) e.line X.env=pure false):PS X (.Assign [.Attribute o f c] b e) (ml X.K j i f):=by intro d s σ H D I h;refine tT (Br (v d s σ H _ I h) fun u k ⟨y,J,G,l,q⟩=>Br (z d k σ J _ G q) fun p L g=>?_) w;obtain⟨x,M,F,m,a,C,ex,A,T,n⟩:=g;subst ex;obtain rfl:p=Value.ref a:=m;exact eD F T A l fun K B t r E=>⟨σ,_,E,n B t r⟩
structure gM(K:Frag)(C0:Addr)(m:Str)(f:Addr):Prop where
 rd:readsIn K C0 (.type "type")=true
 qY:specialIn K (.ref C0) "__getattribute__"=some (some (.builtin "type.__getattribute__"))
 kp:keepIn K (.ref f)=true
 get:(match findCls K (.ref C0) (.type "type") m with|some (.val v)=>v== .ref f|_=>false)=true
theorem gM.val{K:Frag}{a:Addr}{m:Str}{f:Addr}(c:gM K a m f):findCls K (.ref a) (.type "type") m=some (.val (.ref f)):=by
 have g:=c.get;split at g;·rename_i v e;rw[e,zP.mp g]
 ·cases g
theorem Ft{u:Ic}{k:Nat}{v:Addr}{i:Sp}{E:XK}{m:Str}{j b a:Pos}{c:List Expr}{t:TA}(F:FF X.prog X.w X.K X.mg X.base u k f fd ps i)(A:Ck k X.A)(C:Gl X x)(B:X.mg x=some (.ref v))(g:gM X.K v m f)(G:Bn X.K fd ps [])(y:Cz u X E)(J:PA X (e::c) t)(n:(x==("__debug__":Str))=false:=by decide)(D:starEach (e::c) X.env=(false,eval e X.env)::starEach c X.env:=by rfl)(l:(backTo a (starEach c X.env)).any (·.1)=false:=by rfl)(z:eval (.Call (.Attribute (.Name x j) m b) (e::c) [] a) X.env=(do
 let ov<-eval (.Name x j) X.env
 standAt b.atName
 let(f,first)<-holding [ov] (getMethod ov m pl)
 callWith a f first (backTo a (starEach (e::c) X.env)) (backToKw a (keywordEach [] X.env))):=by rfl):PE X (.Call (.Attribute (.Name x j) m b) (e::c) [] a) (Kt i [] E t):=by intro d s σ H Q I h;refine wR (pl:=pl) (DL I C B ?_ n) z;refine PySem.W.method_cls I.Gq g.qY (PySem.W.cls_value I.Gq g.rd g.val rfl (xO (h₀:=X.base) I.ok.mod.dF g.kp (Br (J a d _ σ H _ (I.tok _) h) fun us L ⟨w,K,p,r,q⟩=>⟨p.Gq,?_⟩) D l));have o:i (w++[]) K Q E:=q;rw[zR]at o;exact eQ F A G y p r o
end
end L2
namespace L2
open PySem PySem.Spec PyProof.Rows PySem.Calls
open PySem.W (Frag Looks)
section
variable{f:Addr}
theorem Je{M:Model}{Q:Unit->Shared->Prop}{n:Str}{C:Pos}(I:As X pins σ H s)(hN:X.N.Nodup)(Z:X.N[i]?=some n)(W:X.env.kindOf n=some .local)(h:∀B,As X pins (σ.set i none) H B->(∀b o,b≠X.env.locals->s.heap.get? b=some o->B.heap.get? b=some o)->Q () B):wpAny M A (do
 bindName X.env n .none
 unbindBehindTheSuite X.env n C) Q E s:=by
 obtain⟨m,J,V⟩:=id I.loc;have t:(X.env.scope.kind== .class||(X.env.scope.kind== .module&&X.env.locals !=X.env.globals))=false:=by rw[I.ok.kind];rfl
 have w:=I.nX;refine wpAny_nameGoes_keeps W J t fun h' v D f=>?_;obtain⟨oL,Y,Y,U,Y⟩:=id J;have a:FN X.prog X.w H h':=fun b P e=>by
  refine(I.Bx b P e).Ip (fun c F g q=>(f.2 c ?_).trans q) (fun Y q=>q) fun Y Y q=>q;rintro rfl;rcases g with g|g;·rw[<-g,I.free]at e;cases e
  ·rw[I.free]at g;cases g
 refine h _ ⟨I.ok,I.os,I.bare,⟨fun b o e n u r=>?_,fun b o e n u r=>?_,I.base.free,fun b o e r=>?_,I.base.tups,I.base.frzs,I.base.tbls⟩,⟨_,D,fun j y K l x e3=>?_⟩,fun y c e=>?_,I.free,I.CN,fun p T=>?_,a,‹I.len›⟩ fun b o u e=>(f.2 b u).trans e;·exact(f.2 b (zV (zF (zA e) I.ok.above))).trans (I.base.keep b o e n u r)
 ·obtain⟨N,l⟩:=I.base.slot b o e n u r;exact⟨N,(f.2 b (zV (zF (zA e) I.ok.above))).trans l⟩
 ·obtain⟨R,l⟩:=I.base.there b o e r;exact⟨R,(f.2 b (zV (zF (zA e) I.ok.above))).trans l⟩
 ·by_cases hj:j=i;·subst hj;rw[uV]at x;simp at x
  ·rw[va (zN hj)]at x;obtain⟨L,O,q⟩:=V j y K l x e3;exists L,O;rcases q with⟨k,e⟩ |⟨k,c,e,z⟩;·refine .inl ⟨k,?_⟩;have:y≠n:=fun e=>hj (IS hN l (e▸Z));simp[this,e]
   ·exact .inr ⟨k,c,e,z.sameBut f (w y c e)⟩
 ·obtain⟨F,z⟩:=I.cell y c e;exact⟨F,z.sameBut f (w y c e)⟩
 ·obtain⟨e,n,G,S,d⟩:=I.pin p T;exact⟨(f.2 p.1 G).trans e,n,G,S,d⟩
abbrev Cx.NR(X:Cx)(a:Addr)(xe:Value->Shared->Prop):Cx:={X with A:=X.A.mark (some (.ref a)),calm:=false,xe:=xe}
theorem As.NR(I:As X pins σ H s)(a:Addr)(xe:Value->Shared->Prop):As (X.NR a xe) pins σ H s:=⟨⟨I.ok.mod,I.ok.kind,I.ok.glob,I.ok.blt,I.ok.above,I.ok.inj,I.ok.has,I.ok.kG,(fun z=>nomatch z),I.ok.frames,I.ok.Zy,I.ok.k_,I.ok.bs,I.ok.Zi,I.ok.UZ,I.ok.V0,I.ok.HV,I.ok.dG⟩,I.os,I.bare,I.base,I.loc,I.cell,I.free,I.CN,I.pin,I.Bx,I.len⟩
theorem As.LP(b:X.Ok)(I:As (X.NR a xe) pins σ H s):As X pins σ H s:=⟨b,I.os,I.bare,I.base,I.loc,I.cell,I.free,I.CN,I.pin,I.Bx,I.len⟩
abbrev Cx.dS(X:Cx)(pn:List (Addr×Obj))(xe:Value->Shared->Prop):Cx:={X with pn:=pn,xe:=xe}
theorem As.dS(I:As X pins σ H s)(xe:Value->Shared->Prop):As (X.dS (X.pn++pins) xe) [] σ H s:=⟨⟨I.ok.mod,I.ok.kind,I.ok.glob,I.ok.blt,I.ok.above,I.ok.inj,I.ok.has,I.ok.kG,I.ok.hd,I.ok.frames,I.ok.Zy,I.ok.k_,I.ok.bs,I.ok.Zi,I.ok.UZ,I.ok.V0,I.ok.HV,I.ok.dG⟩,I.os,I.bare,I.base,I.loc,I.cell,I.free,I.CN,fun p a=>I.pin p (by rw[zR]at a;exact a),I.Bx,I.len⟩
theorem As.EH{a:List (Addr×Obj)}(b:X.Ok)(I:As (X.dS (X.pn++pins) xe) a σ H s):As X pins σ H s:=⟨b,I.os,I.bare,I.base,I.loc,I.cell,I.free,I.CN,fun p c=>I.pin p (yB _ c),I.Bx,I.len⟩
theorem SP.EH{D:Ends}{d:Flow}{e:Shared}(c:X.Ok)(h:SP (X.dS (X.pn++pins) xe) [] D d e):SP X pins D d e:=by cases d with|next=>obtain⟨a,b,I,q⟩:=h;exact⟨a,b,I.EH c,q⟩ |brk=>obtain⟨a,b,I,q⟩:=h;exact⟨a,b,I.EH c,q⟩ |cont=>obtain⟨a,b,I,q⟩:=h;exact⟨a,b,I.EH c,q⟩ |ret u=>obtain⟨v,a,b,I,r,q⟩:=h;exact⟨v,a,b,I.EH c,r,q⟩
theorem fN{c:Bool}{t:Addr}{Q:Unit->Shared->Prop}{b:String}{g:Option Addr}(I:As X pins σ H s)(j:Cg X pins H a)(i:Cg X pins H t)(x:ExcAt s.heap c a C d (some t))(h:∀f,As X pins σ H f->ExcAt f.heap c a C d (some t)->Q () f):wpAny (model X.prog X.w) A (do
 if(<-field (.ref a) 1)== .none then
  unsupported b
 setFlight (.ref a) g) Q E s:=by obtain⟨⟨n,o,l,p,m,q⟩,k⟩:=id x;refine za (xg l rfl m ?_);rw[zb (show¬(((Option.some t).elim Value.none Value.ref==Value.none)=true) by simp)];first|exact za (zr (GU I j (fun t' e=>by cases e;exact i) x g h)) |exact GU I j (fun t' e=>by cases e;exact i) x g h
theorem Rx{c:Bool}{E:XK}{n:Str}{pos:Pos}(W:kW X)(w:X.Ok)(S:X.N.Nodup)(Q:X.N[i]?=some n)(P:X.env.kindOf n=some .local)(T:C7 c X E)(a:Addr):C7 c (X.NR a fun x m=>wpAny (model X.prog X.w) (X.A.mark (some (.ref a))) (noteFrame x X.env) (fun Y h=>wpAny (model X.prog X.w) (X.A.mark (some (.ref a))) (do
 bindName X.env n .none
 unbindBehindTheSuite X.env n pos) (fun Y f=>wpAny (model X.prog X.w) (X.A.mark (some (.ref a))) (PySem.passOn "try.except-as" x X.env:Sem Flow) (fun Y Y=>False) (notedBy (model X.prog X.w) (X.A.mark (some (.ref a))) X.env (cameBackBy (model X.prog X.w) X.A X.env X.xe)) f) (fun y f=>wpAny (model X.prog X.w) (X.A.mark (some (.ref a))) (setFlight x none) (fun Y l=>(notedBy (model X.prog X.w) (X.A.mark (some (.ref a))) X.env (cameBackBy (model X.prog X.w) X.A X.env X.xe)) y l) (notedBy (model X.prog X.w) (X.A.mark (some (.ref a))) X.env (cameBackBy (model X.prog X.w) X.A X.env X.xe)) f) h) (notedBy (model X.prog X.w) (X.A.mark (some (.ref a))) X.env (cameBackBy (model X.prog X.w) X.A X.env X.xe)) m) E:=by
 intro g σ H s b C d tb I k V x q;have B:kW (X.NR a X.xe):=⟨W.Zy,W.pC⟩;have I':As (X.NR a X.xe) g σ H s:=(I.LP w).NR a X.xe;refine L6 (X:=X.NR a X.xe) B I' k V x fun s1 r I1 t G=>?_;refine Je (X:=X.NR a X.xe) I1 S Q P fun L I2 N=>?_;have v:ExcAt L.heap c b C d (some r):=G.keeps fun Z o R e=>N Z o (by
  rcases R with rfl|z;·exact k.2.1
  ·cases z;exact t.2.1) e;obtain⟨⟨vs,sl,O,hz,U,hc⟩,M⟩:=id v;unfold PySem.passOn;refine za (xg O rfl U ?_);rw[zb (show¬(((Option.some r).elim Value.none Value.ref==Value.none)=true) by simp)];have fin:∀j,As (X.NR a X.xe) g (σ.set i none) H j->ExcAt j.heap c b C d (some r)->notedBy (model X.prog X.w) (X.A.mark (some (.ref a))) X.env (cameBackBy (model X.prog X.w) X.A X.env X.xe) (.ref b) j:=fun j u p=>by refine L6 (X:=X.NR a X.xe) B u k (fun t' e=>by cases e;exact t) p fun s4 J I4 A F=>?_;refine fN (X:=X) (I4.LP w) k A F fun K I5 D=>?_;exact T g _ H K b C d (some J) I5 k (fun t' e=>by cases e;exact A) D q
 refine za (GU (X:=X.NR a X.xe) I2 k (fun t' e=>by cases e;exact t) v X.env.frame fun j u p=>?_);exact t_ (fin j u p)
end
theorem T1{M:Model}{Q:Bool->Shared->Prop}{h:Heap}{g:Array GenState}{d:Drawn}{t:Nat}{os:OsState}{b:Addr}(Y:N9 M h b)(n:Looks M h (typeOf (.ref a)) (.ref C))(p:Looks M h (isSubtype (.ref C) (.ref b)) true)(q:Q true ⟨h,g,d,t,os⟩):wpAny M A (excMatches (.ref a) (.ref b)) Q E ⟨h,g,d,t,os⟩:=by
 obtain⟨⟨r,x,o,k,w,v⟩,c,base,self,l,m,u,s,e,i⟩:=Y;have j:Looks M h (typeOf (.ref b)) (.type "type"):=(uY k).andThen .now;have f:Looks M h (isInstance (.ref b) (.type "tuple")) false:=j.andThen (tL tc_notTuple);unfold excMatches;repeat lk
 exact q
section
variable{C0 f:Addr}
def oh(K:Frag)(N i:Nat)(j:Addr)(c:Bool)(E:XK)(h:TS)(g:Addr->TS):TS:=fun D σ H=>h D σ H/\∀a C d f,E (.ref C) d f->f a=none->subIn K (.ref C) (.ref j)=some true/\g a {nx:=fun b e=>D.nx (b.set i none) e,rt:=D.rt,bk:=fun b e=>D.bk (b.set i none) e,ct:=fun b e=>D.ct (b.set i none) e} ((List.replicate N none).set i (some (.ref a))) (Av f a (YO c a C d))
theorem Cg.EH{pn:List (Addr×Obj)}{a:List (Addr×Obj)}(h:Cg (X.dS (X.pn++pins) xe) a H b):Cg X pins H b:=⟨h.1,h.2.1,h.2.2.1,h.2.2.2.1,h.2.2.2.2.1,fun p c=>h.2.2.2.2.2 p (yB _ c)⟩
theorem UQ{c c':Bool}{A:List Stmt}{o:Stmt}{h:List Stmt}{n:Str}{np j O:Pos}{tb:TS}{ts:Addr->TS}{E E':XK}(W:kW X)(L:X.N.Nodup)(K:X.N[i]?=some n)(B:X.env.kindOf n=some .local)(hg:Gl X x)(hm:X.mg x=some (.ref C0))(M0:D7 X.K C0=true)(hb:∀pn xe,C7 c (X.dS pn xe) E->Rk (X.dS pn xe) A tb)(T:C7 c' X E')(hs:∀a xe,C7 c' (X.NR a xe) E'->Rk (X.NR a xe) (o::h) (ts a))(a5:(x==("__debug__":Str))=false:=by decide):PS X (.Try A [.ExceptHandler (some (.Name x np)) (some n) (o::h) j] [] [] O) (oh X.K X.N.length i C0 c E tb ts):=by
 rintro b s σ H D I ⟨h1,h2⟩;refine wpAny_Try_except ?_;have Tk:C7 c (X.dS (X.pn++b) fun e N=>wpX X (noteFrame e X.env) (fun _ m=>wpX X (setFlight e none) (fun _ p=>wpX X (handleBy e X.env [.ExceptHandler (some (.Name x np)) (some n) (o::h) j]) (SP X b D) X.xe p) X.xe m) X.xe N) E:=by
  intro a2 Z S s1 a C d a7 I1 fa ft ex q;have J1:As X b Z S s1:=I1.EH I.ok;have w:Cg X b S a:=Cg.EH (pn:=[]) fa;refine L6 W J1 w (fun t e=>Cg.EH (pn:=[]) (ft t e)) ex fun s2 t J2 f2 x2=>?_;refine GU J2 w (fun t' e=>by cases e;exact f2) x2 none fun U V x3=>?_;obtain⟨Q,a4⟩:=h2 a C d S q w.1;refine wpAny_handleBy_cons (codeAny_handlers_test ?_) (by intro q;cases q);refine DL (X:=X.NR a X.xe) (V.NR a X.xe) hg hm ?_ a5;have Y:=GR (M:=model X.prog X.w) V.Gq M0;obtain⟨⟨vs,sl,ho,hz,a9,hc⟩,a8⟩:=id x3;have ty:Looks (model X.prog X.w) U.heap (typeOf (.ref a)) (.ref C):=(uY (part:=some headPart) ho).andThen .now;have sb:Looks (model X.prog X.w) U.heap (isSubtype (.ref C) (.ref C0)) true:=rg V.Gq Q;have P:codeAny (model X.prog X.w) (X.A.mark (some (.ref a))) (.handlers (.ref a) [.ExceptHandler none (some n) (o::h) j] X.env) (fun r m=>match r with
  | .ok f=>wpX X (do
   bindName X.env n .none
   unbindBehindTheSuite X.env n j) (fun _ p=>SP X b D f p) X.xe m
  | .error x=>cameBackBy (model X.prog X.w) X.A X.env X.xe x m) U:=by refine codeAny_handlers_suite_as (GU V w (fun t' e=>by cases e;exact f2) x3 none fun s4 J4 x4=>?_);have J5:As (X.NR a X.xe) b (List.replicate X.N.length none) S s4:=(J4.weak (by rw[yF,J4.len]) fun i v e=>by rw[ua]at e;split at e<;>cases e).NR a X.xe;obtain⟨⟨a0,a1,R,a3,_,a6⟩,_⟩:=id x4;have J6:As (X.NR a X.xe) b (List.replicate X.N.length none) (Av S a (YO c a C d)) s4:=J5.lA w ⟨⟨a0,a1,R,a3,a6⟩,⟨_,R⟩,fun _ _ ⟨vs,sl,e,r⟩ k=>⟨vs,sl,k _ e,r⟩⟩;refine Io (X:=X.NR a X.xe) (v:= .ref a) J6 L K (.inl B) rfl (fun s5 J7=>?_) (.inr B);have TH:=Rx (pos:=j) W I.ok L K B T a;refine yG (hs a _ TH b s5 _ _ _ ((J7.LP I.ok).NR a _) a4) (fun fl s6 y=>?_) fun e s' z=>z;cases fl with|next=>obtain⟨l,J,G,q⟩:=y;exact Je (X:=X) (G.LP I.ok) L K B fun s7 F _=>⟨l.set i none,J,F,q⟩ |brk=>obtain⟨l,J,G,q⟩:=y;exact Je (X:=X) (G.LP I.ok) L K B fun s7 F _=>⟨l.set i none,J,F,q⟩ |cont=>obtain⟨l,J,G,q⟩:=y;exact Je (X:=X) (G.LP I.ok) L K B fun s7 F _=>⟨l.set i none,J,F,q⟩ |ret u=>obtain⟨v,l,J,G,r,q⟩:=y;exact Je (X:=X) (G.LP I.ok) L K B fun s7 F _=>⟨v,l.set i none,J,F,r,q⟩
  obtain⟨hh,g,dr,tk,os⟩:=U;exact T1 Y ty sb P
 refine yG (hb _ _ Tk [] s σ H D (I.dS _) h1) (fun fl s' y=>?_) fun e s' z=>z;cases fl with|next=>exact vn (SP.EH I.ok y) |brk=>exact SP.EH I.ok y|cont=>exact SP.EH I.ok y|ret u=>exact SP.EH I.ok y
end
theorem NI:entryFor table "proto.unchain"=some Builtin.«proto.unchain»:=entryFor_of_tree (by kernel_rfl)
theorem Uu{w:World}{a:Addr}{o:Obj}{b:Array Value}{e:Value}(c:s.heap.get? a=some o)(d:o.data= .fields b)(f:b[2]?=some .none)(q:Q .none s):wpAny (model prog w) A (runValue (.builtin "proto.unchain" ⟨[e,.ref a,.ref a,.bool false],[]⟩)) Q E s:=by refine wpAny_runValue (uG NI ?_);unfold Builtin.«proto.unchain»;cbv;exact za (xg c d f (zr q))
section
variable{a0 f:Addr}{k:Nat}{sp:Sp}{E:XK}{p pos rpos cp:Pos}{t:TA}
def PX(b C:Addr)(g:Sp)(E:XK)(t:TA):TS:=fun Y σ H=>t σ H fun e f=>e.length<=sizeLine/\∀a,f a=none->g (.ref a::e) (Av f a (XO a C none)) (fun v c=>v= .B0/\∃d i h,c a=some (XO a C d)/\c b=some (YO true b i h)/\b≠a/\E (.ref C) d (Lk c a)) E0
theorem XH{Q:Flow->Shared->Prop}{xs Z:Sem Value}{V:Shared}(hh:X.A.handled=some (.ref a0))(M:PM X.K C f)(hx:C7 false X E)(h:wpX X xs (fun v W=>∃a d n U S,v= .ref a/\As X pins σ n W/\Cg X pins n a/\a0≠a/\n a0=some (YO true a0 U S)/\E (.ref C) d n/\∃i r,W.heap.get? a=some {cls:= .ref C,dict:=d,data:= .fields i,slots:=r}/\i.size=6/\i[1]?=some .none) X.xe V)(hc:∀s Q,Q Value.none s->wpX X Z Q X.xe s):wpX X (raiseStmt X.env (some xs) (some Z)) Q X.xe V:=by
 unfold raiseStmt;refine za (Br h fun v s1 hv=>?_);obtain⟨a,d,n,U,S,rfl,I,P,F,O,q,i,r,N,J,h1⟩:=hv;obtain⟨ty,mt,nT,T⟩:=ZD (M:=model X.prog X.w) I.Gq M N rfl;refine za (yR (hc _ _ (za (zr ?_))));obtain⟨y,D,L,a1,m⟩:=I.yo O;have m:=m rfl;obtain⟨j,g,R,p,os⟩:=s1;dsimp only at ty mt nT T;have ef:∀(A:Around)(Q:Value->Shared->Prop)(E:Value->Shared->Prop),Q (.ref a) ⟨j,g,R,p,os⟩->wpAny (model X.prog X.w) A (excFromValue (.ref a) "exceptions must derive from BaseException") Q E ⟨j,g,R,p,os⟩:=by
  intro A Q E q;unfold excFromValue;repeat lk
  exact q
 refine za (yR (ef _ _ _ ?_));cbv;rw[zc ⋯];refine za (zr (za (xA N rfl ∅ ?_)));have t:(j.update a (Obj.mapFields (·.setIfInBounds 3 .none))).get? a=some {cls:= .ref C,dict:=d,data:= .fields (i.setIfInBounds 3 .none),slots:=r}:=ye _ N rfl;refine za (xA t rfl (by simp[J]) ?_);have c:((j.update a (Obj.mapFields (·.setIfInBounds 3 .none))).update a (Obj.mapFields (·.setIfInBounds 4 (.bool true)))).get? a=some {cls:= .ref C,dict:=d,data:= .fields ((i.setIfInBounds 3 .none).setIfInBounds 4 (.bool true)),slots:=r}:=ye _ t rfl;have w:((i.setIfInBounds 3 .none).setIfInBounds 4 (.bool true))[1]?=some Value.none:=by rw[yz ⋯,yz ⋯];exact h1
 have I2:As X pins σ n {heap:=(j.update a (Obj.mapFields (·.setIfInBounds 3 .none))).update a (Obj.mapFields (·.setIfInBounds 4 (.bool true))),gens:=g,drawn:=R,toks:=p,os:=os}:=I.Lr (t':=p) (ch:=[a]) (fun b o l e=>DD (fun z=>l (by simp[z])) (DD (fun z=>l (by simp[z])) e)) (fun b l=>by rw[zB.mp l];exact P);obtain⟨B,H,G,x⟩:=ZD (M:=model X.prog X.w) I2.Gq M c rfl;dsimp only at B H G x;have hf:Looks (model X.prog X.w) ((j.update a (Obj.mapFields (·.setIfInBounds 3 .none))).update a (Obj.mapFields (·.setIfInBounds 4 (.bool true)))) (field (.ref a) 1) .none:=by intro A Q E s k q;exact xg (k _ _ c) rfl w q
 repeat lk
 refine rq ?_;rw[hh];cbv;rw[zc (show(Value.ref a0 !=Value.ref a)=true by simp[F])];have u:((j.update a (Obj.mapFields (·.setIfInBounds 3 .none))).update a (Obj.mapFields (·.setIfInBounds 4 (.bool true)))).get? a0=some {cls:= .ref U,dict:=S,data:= .fields y,slots:=D}:=DD (zN F) (DD (zN F) L);refine za (yR (Uu u rfl m (za (show wpAny _ _ (setField (.ref a) 2 (.ref a0)) _ _ _ from xA c rfl (by simp[J]) ?_))));have K:=ye (Obj.mapFields (·.setIfInBounds 2 (Value.ref a0))) c rfl;have I3:=I2.Lr (t':=p) (ch:=[a]) (h':=((j.update a (Obj.mapFields (·.setIfInBounds 3 .none))).update a (Obj.mapFields (·.setIfInBounds 4 (.bool true)))).update a (Obj.mapFields (·.setIfInBounds 2 (Value.ref a0)))) (fun b o l e=>DD (fun z=>l (by simp[z])) e) (fun b l=>by rw[zB.mp l];exact P);refine t_ (hx pins σ n _ a C d none I3 P (fun Y z=>nomatch z) ⟨⟨((i.setIfInBounds 3 .none).setIfInBounds 4 (.bool true)).setIfInBounds 2 (.ref a0),r,K,by simp[J],?_,fun z=>nomatch z⟩,fun Y z=>nomatch z⟩ q);rw[yz ⋯];exact w
theorem OS{j:Nat}(M:PM X.K C f)(F:FF X.prog X.w X.K X.mg X.base PQ k f fd ps sp)(O:Ck (k+1) X.A)(T:Gl X x)(R:X.mg x=some (.ref C))(V:Bn X.K fd ps [])(S:X.A.handled=some (.ref a0))(N:C7 false X E)(W:PA X (e::es) t)(w:(x==("__debug__":Str))=false:=by decide)(U:starEach (e::es) X.env=(false,eval e X.env)::starEach es X.env:=by rfl)(u:(backTo pos (starEach es X.env)).any (·.1)=false:=by rfl):PS X (.Raise (some (.Call (.Name x p) (e::es) [] pos)) (some (.Constant .none j cp)) rpos) (PX a0 C sp E t):=by
 intro b s σ H D I h;rw[sR];refine za (xb ?_);show wpAny _ _ (raiseStmt X.env (some (do
  let v<-eval (.Call (.Name x p) (e::es) [] pos) X.env
  standAt rpos
  pure v)) (some (do
  let v<-eval (.Constant .none j cp) X.env
  standAt rpos
  pure v))) _ _ _;refine XH (pins:=b) (σ:=σ) S M N (za ?_) (fun s Q q=>za (Constant_none (za (xb (zr q)))));refine Br (Q:=fun v g=>∃a d l z y,v= .ref a/\As X b σ l g/\Cg X b l a/\a0≠a/\l a0=some (YO true a0 z y)/\E (.ref C) d l/\∃c n,g.heap.get? a=some {cls:= .ref C,dict:=d,data:= .fields c,slots:=n}/\c.size=6/\c[1]?=some .none) ?_ fun v g o=>za (xb (zr o));refine yX (DL I T R ?_ w);refine xO (h₀:=X.base) I.ok.mod.dF M.kp (Br (W pos b s σ H _ I h) fun us s1 ⟨c,H1,i,r,L,K⟩=>⟨i.Gq,?_⟩) U u;refine Br (ON M F O V i r L (K _ (i.Bx.fresh (wG _)))) fun v g o=>?_;obtain⟨rfl,H2,G,d,z,y,B,e3,A,q⟩:=o;obtain⟨m,n,P,J,Z,h2⟩:=G.xo B;exact⟨_,d,_,z,y,rfl,G.ir B,i.Ka (wG _) E_,A,by rw[BY A];exact e3,q,m,n,P,J,Z⟩
end
end L2
namespace L2
open PySem PySem.Spec PyProof.Rows
section
variable{P:Program}{w:World}{K:Frag}{mg:Str->Option Value}{base:Heap}
theorem En.Jw{c:Bool}{e:Stmt}{f:Addr}{k:Nat}{g:Sp}(F:En K x qual e f fd)(S:Ah N ps (Ad e))(b:∀{a:Value}{A:Around}{outer:List Env}{s:Shared}{d:List V}(H:Hp)(Q:VK)(E:XK),AW k (A.deeper (envOfC qual (Ad e) s.heap.objs.size f a))->g d H Q E->C7 c (Jj (Y_ c P w) P w K mg base N qual (Ad e) f a A outer s H E) E->∃t,Rk (Jj (Y_ c P w) P w K mg base N qual (Ad e) f a A outer s H E) (DN e) t/\t {nx:=fun Y q=>Q .B0 q,rt:=Q} (start N d) H)(i:∀d H Q E,g d H Q E->d.length=ps.length:=by intro Y Y Y Y h;cases h;subst_vars;rfl):D9 P w K mg base (Y_ c P w) (k+1) f fd ps g:=by obtain⟨v,u,y,p,r,z,a,ct,m,rfl,n,l⟩:=F.ex;exact ij n l S i fun A outer s H d Q E o j=>b H Q E o j Zp
theorem En.fw{d:Stmt}{f:Addr}{k:Nat}{e:Sp}(F:En K x qual d f fd)(S:Ah N ps (Ad d))(a:∀{b:Value}{A:Around}{outer:List Env}{s:Shared}{c:List V}(H:Hp)(Q:VK)(E:XK),Ck k (A.deeper (envOfC qual (Ad d) s.heap.objs.size f b))->e c H Q E->∃t,Rk (lh PQ P w K mg base N qual (Ad d) f b A outer s H E) (DN d) t/\t {nx:=fun Y p=>Q .B0 p,rt:=Q} (start N c) H)(g:∀c H Q E,e c H Q E->c.length=ps.length:=by intro Y Y Y Y h;cases h;subst_vars;rfl):FF P w K mg base PQ (k+1) f fd ps e:=by obtain⟨u,r,v,o,q,y,b,ct,l,rfl,m,j⟩:=F.ex;exact kl m j S g fun A outer s H c Q E n i=>a H Q E n i
end
section
variable{w:World}
theorem U_{e d:Addr}{f:Array Value}{x:Value}(c:s.heap.IsTupleIter e d i)(m:s.heap.IsTuple d f)(l:f[i]?=some x)(n:∀k,k.IsTupleIter e d (i+1)->Heap.SameBut e s.heap k->Q x {s with heap:=k}):wpAny (model prog w) A (Builtin.SmallTypes.nextOf (.ref e)) Q E s:=by obtain⟨p,b,j,a⟩:=id c;obtain⟨o,g,Y,r,h⟩:=m;unfold Builtin.SmallTypes.nextOf;refine za (rJ (name:=Str.ofString "__next__") c.typeIs xC (wpAny_call_entry xC c.typeIs uK ?_ (uJ _)));refine(show wpAny _ _ (field (.ref e) 0>>=_) _ _ s from za (xg b a (x:= .ref d) rfl ?_));refine(show wpAny _ _ (if(Value.ref d==Value.none)=true then _ else _) _ _ s from ?_);rw[zb (by intro q;cases q)];refine(show wpAny _ _ (field (.ref e) 1>>=_) _ _ s from za (xg b a (x:= .int i 0) rfl ?_));refine(show wpAny _ _ (seqItems? (.ref d)>>=_) _ _ s from za (vQ g h ?_));simp only[wO,l];refine za (xA b a (by simp) (zr ⟨x,rfl,zr (n _ ⟨_,ye _ b (vc (xZ a _)),(Obj.cls_mapFields ..).trans j,?_⟩ (Heap.SameBut.update ..))⟩));rw[xZ a];simp[rawInt]
theorem Gb{h f:Addr}{g:Array Value}(n:A.handled=none)(c:s.heap.IsTupleIter h f i)(r:s.heap.IsTuple f g)(p:g[i]?=none)(u:∀l e,Heap.ExtBut h s.heap l->(∃o,l.get? e=some o/\o.cls= .type "StopIteration")->E (.ref e) {s with heap:=l}):wpAny (model prog w) A (Builtin.SmallTypes.nextOf (.ref h)) Q E s:=by
 obtain⟨y,b,t,d⟩:=id c;obtain⟨v,j,Y,z,k⟩:=r;unfold Builtin.SmallTypes.nextOf;refine za (rJ (name:=Str.ofString "__next__") c.typeIs xC (wpAny_call_entry xC c.typeIs uK ?_ (uJ _)));refine(show wpAny _ _ (field (.ref h) 0>>=_) _ _ s from za (xg b d (x:= .ref f) rfl ?_));refine(show wpAny _ _ (if(Value.ref f==Value.none)=true then _ else _) _ _ s from ?_);rw[zb (by intro q;cases q)];refine(show wpAny _ _ (field (.ref h) 1>>=_) _ _ s from za (xg b d (x:= .int i 0) rfl ?_));refine(show wpAny _ _ (seqItems? (.ref f)>>=_) _ _ s from za (vQ j k ?_));simp only[wO,p];refine za (wpAny_rule (za (xA b d (by simp) (show wpAny _ _ (newExc (.type "StopIteration") []>>=_) _ _ _ from za ?_))));simp only[newExc,newTuple];refine za (wu (za (m:=firstArgMember _ _) (wpAny_of_eq (a:=Value.none) (by first|rfl|(simp only[firstArgMember];rfl)) (wu ?_ (by size_fits)))) (by size_fits));simp only[raiseNew];refine za (rq ?_);first|rw[show A.in1.handled=none from n] |rw[n]
 exact za (zr (t_ (u _ _ (((Heap.SameBut.update ..).extBut.push _).push _) ⟨_,zM _ rfl,rfl⟩)))
end
theorem YC{w:World}(l:A.handled=none)(d c:Addr)(f:c≠d)(b:Array Value):Draws prog w A d [d,c] b.size (fun i v=>b[i]?=some v) (fun i h=>h.IsTupleIter d c i/\h.IsTuple c b)where
 live:=fun Y Y a=>let⟨o,ho,_⟩:=a.1;⟨o,ho⟩
 frame:=fun Y Y Y a g=>⟨a.1.at fun o e=>g d (by simp) o e,let⟨o,ho,r⟩:=a.2;⟨o,g c (by simp) o ho,r⟩⟩
 item:=fun i s Q E j a m=>U_ a.1 a.2 (x:=b[i]) (by simp[j]) fun q p k=>m _ q s.toks (by simp[j]) ⟨p,let⟨o,ho,r⟩:=a.2;⟨o,(k.2 c f).trans ho,r⟩⟩ k
 done:=fun s Q E a n=>Gb l a.1 a.2 (by simp) n
def dA(x:Str):It:=⟨fun i Y=>i<x.cps.size,fun i H v a=>∃T c,v= .ref T/\H T=none/\x.cps[i]?=some c/\a=Av H T (.tup [.int (i:Nat),.str ⟨#[c]⟩]),fun i Y=>x.cps.size<=i⟩
def dz(K:Frag)(a:Addr):It:=⟨fun i H=>∃(xs:List V)(x:V),Em K H a xs/\xs[i]?=some x,fun i H v b=>∃T x,v= .ref T/\H T=none/\b=Av H T (.tup [.int (i:Nat),x])/\∀xs,Em K H a xs->xs[i]?=some x,fun i H=>∃xs:List V,Em K H a xs/\xs.length<=i⟩
theorem Uy{P:Program}{w:World}{K:Frag}{kk:Nat}{C:Pos}(x:Str)(t:Tok)(e a:Addr)(B:String)(F:B="str_ascii_iterator"\/B="str_iterator"):Turn P w K (.Tuple elts kk C) (dA x) [e,a] e (fun i h=>(∃f,IsEnum h e a ((i:Nat):Int) f)/\h.IsStrIter a B x t i/\e≠a/\i<=x.cps.size)where
 mem:=by simp
 obj:=fun i h l b j=>by
  obtain⟨⟨f,g⟩,⟨o,G,y,hd⟩,Y,Y⟩:=l;have e':b=e\/b=a:=‹j›;rcases e' with z|z;·rw[z];exact⟨_,g,fun v q=>nomatch q⟩
  ·rw[z];exact⟨o,G,fun v q=>by rw[hd]at q;cases q⟩
 keep:=fun i h h' l k=>let⟨⟨f,g⟩,⟨o,G,r⟩,d,hl⟩:=l;⟨⟨f,k e (by simp) _ g⟩,⟨o,k a (by simp) o G,r⟩,d,hl⟩
 item:=by
  intro X hP U hK y i n s σ H E I R l W;subst hP U hK;obtain⟨⟨f,g⟩,m,d,J⟩:=l;have M:i<x.cps.size:=W;have N:e<s.heap.objs.size:=zA g;have V:a<s.heap.objs.size:=by obtain⟨Y,q,Y⟩:=m;exact zA q
  have D:Draws X.prog X.w X.A.in1 a [a] x.cps.size (fun i v=>∃c u,x.cps[i]?=some c/\v= .str ⟨#[c]⟩ u) (fun i h=>h.IsStrIter a B x t i):=by
   rcases F with rfl|rfl;·exact Draws.strAscii (show X.A.in1.handled=none from I.ok.hd y) a x t
   ·exact Draws.strWide (show X.A.in1.handled=none from I.ok.hd y) a x t
  refine rH D g m M d ‹d› fun v h' O hv G L hT a3 hk=>?_;obtain⟨c,u,a0,rfl⟩:=hv;refine⟨_,rfl,vT (s:={s with heap:=h',toks:=O+1}) G fun p Z S=>?_⟩;have a2:p.get? s.heap.objs.size=some {cls:= .type "tuple",data:= .seq #[.int i O,.str ⟨#[c]⟩ u]}:=(S.2 _ (xl N)).trans hT;have T:B7 X.prog X.w (Av H s.heap.objs.size (.tup [.int (i:Nat),.str ⟨#[c]⟩])) p s.heap.objs.size (.tup [.int (i:Nat),.str ⟨#[c]⟩]):=⟨by show 2<=sizeLine;decide,[.int i O,.str ⟨#[c]⟩ u],.cons ⟨_,rfl⟩ (.cons ⟨_,rfl⟩ .nil),⟨_,a2,rfl,_,rfl⟩⟩;have I1:As X n σ (Av H s.heap.objs.size (.tup [.int (i:Nat),.str ⟨#[c]⟩])) {s with heap:=p,toks:=O+1}:=I.J0 (ch:=[e,a]) (fun b ob j q=>(S.2 b (fun z=>j (by simp[z]))).trans (hk b ob (fun z=>j (by simp[z])) (fun z=>j (by simp[z])) q)) R (ze _) T;refine⟨.ref s.heap.objs.size,_,I1,rfl,⟨_,c,rfl,I.Bx.fresh (ze _),a0,rfl⟩,⟨⟨.str ⟨#[c]⟩ u,?_⟩,let⟨o,ho',r⟩:=L;⟨o,(S.2 a (zN d)).trans ho',r⟩,d,M⟩,fun b j=>?_⟩;·have e1:((i+1:Nat):Int)=(i:Int)+1:=∅;rw[e1];exact Z
  ·have a1:b<s.heap.objs.size:=by
    have e':b=e\/b=a:=‹j›;rcases e' with z|z;·rw[z];exact N
    ·rw[z];exact V
   rw[Ac (zV a1)];exact(R b j).1
 done:=by
  intro X hP U hK y i n s σ H E I R l W;subst hP U hK;obtain⟨⟨f,g⟩,m,d,J⟩:=l;have hi:i=x.cps.size:=qf J W;subst hi;obtain⟨f0,f1,f2,f3,f4,f5⟩:=R a (by simp);have D:Draws X.prog X.w X.A.in1 a [a] x.cps.size (fun i v=>∃c u,x.cps[i]?=some c/\v= .str ⟨#[c]⟩ u) (fun i h=>h.IsStrIter a B x t i):=by
   rcases F with rfl|rfl;·exact Draws.strAscii (show X.A.in1.handled=none from I.ok.hd y) a x t
   ·exact Draws.strWide (show X.A.in1.handled=none from I.ok.hd y) a x t
  exact rV D g m fun h' eb=>⟨rfl,I.turned (t':=s.toks) (fun b o j q=>eb b o j q) f0 f1 f3 f4 f5⟩
 self:=fun A i s Q E l h=>let⟨⟨_,g⟩,_⟩:=l;wq g h
def jZ(b:TA):TI:=fun σ H R=>b σ H fun a c=>∃x,a=[.str x]/\R (dA x) c
theorem IJ{X:Cx}{m:TA}{p f d:Pos}{y:Nat}(E:Gl X "enumerate")(C:X.mg "enumerate"=none)(G:PA X [e] m)(B:starEach [e] X.env=[(false,eval e X.env)]:=by rfl):PI X (.Tuple elts y d) (.Call (.Name "enumerate" p) [e] [] f) (jZ m):=by
 intro c s σ H R I h;refine Call_ (Gn I E C boot_enumerate (yK (Br (G f c s σ H _ I h) fun us a j=>?_) B rfl));obtain⟨M,o,l,v,w⟩:=j;obtain⟨x,ex,q⟩:=w;subst ex;cases v with
 |cons r u=>
  cases u;obtain⟨t,rfl⟩:=r;refine call_enumerate_str fun J n k A D=>wq n ?_;have L:As X c σ o {a with heap:=J}:=l.kept (t':=a.toks) D;have i:strIterType x="str_ascii_iterator"\/strIterType x="str_iterator":=by unfold strIterType;split<;>simp
  refine⟨a.heap.objs.size+1,[a.heap.objs.size+1,a.heap.objs.size],_,_,o,rfl,L,Uy x t (a.heap.objs.size+1) a.heap.objs.size _ i,⟨⟨.none,n⟩,k,vZ _,zx _⟩,fun b F=>?_,q⟩;have K:b=a.heap.objs.size+1\/b=a.heap.objs.size:=‹F›;have g:a.heap.objs.size<=b:=by
   rcases K with z|z;·rw[z];exact u_ _ _
   ·rw[z];exact ze _
  exact l.Ka g (l.Bx.fresh g)
theorem NX{w:World}(k:A.handled=none)(d c:Addr)(i:Nat)(b:Array Value)(g:b[i]?=none):Draws prog w A d [d,c] 0 (fun Y Y=>True) (fun Y h=>h.IsTupleIter d c i/\h.IsTuple c b)where
 live:=fun Y Y a=>let⟨o,ho,_⟩:=a.1;⟨o,ho⟩
 frame:=fun Y Y Y a f=>⟨a.1.at fun o e=>f d (by simp) o e,let⟨o,ho,r⟩:=a.2;⟨o,f c (by simp) o ho,r⟩⟩
 item:=fun i s Q E j a m=>absurd j (xc _)
 done:=fun s Q E a l=>Gb k a.1 a.2 g l
theorem Ux{P:Program}{w:World}{K:Frag}{kk:Nat}{y:Pos}(a e d:Addr)(a0:e≠a)(W:d≠a):Turn P w K (.Tuple elts kk y) (dz K a) [e,d] e (fun i h=>(∃f,IsEnum h e d ((i:Nat):Int) f)/\h.IsTupleIter d a i/\e≠d)where
 mem:=by simp
 obj:=fun i h m b l=>by
  obtain⟨⟨f,j⟩,⟨o,T,L,hd⟩,Y⟩:=m;have e':b=e\/b=d:=‹l›;rcases e' with z|z;·rw[z];exact⟨_,j,fun v q=>nomatch q⟩
  ·rw[z];exact⟨o,T,fun v q=>by rw[hd]at q;cases q⟩
 keep:=fun i h h' m k=>let⟨⟨f,j⟩,hi,c⟩:=m;⟨⟨f,k e (by simp) _ j⟩,hi.at fun o q=>k d (by simp) o q,c⟩
 item:=by
  intro X hP S hK L i r s σ H E I J m Z;subst hP S hK;obtain⟨⟨f,j⟩,n,c⟩:=m;obtain⟨xs,x,G,R⟩:=Z;obtain⟨g,N,p,hz⟩:=I.tuple G;obtain⟨u,hu,ru⟩:=N.get R;have C:e<s.heap.objs.size:=zA j;have V:d<s.heap.objs.size:=by obtain⟨Y,q,Y⟩:=n;exact zA q
  have U:i<g.toArray.size:=by have:=(z8.mp hu).1;simpa using this
  have D:=YC (prog:=X.prog) (w:=X.w) (show X.A.in1.handled=none from I.ok.hd L) d a (zN W) g.toArray;refine rH D j ⟨n,p⟩ U c (by simp[c,a0]) fun v h' F hv T B hT a4 hk=>?_;obtain rfl:v=u:=by have:g.toArray[i]?=some u:=‹hu›;exact zt (hv.symm.trans this)
  refine⟨_,rfl,vT (s:={s with heap:=h',toks:=F+1}) T fun t a1 M=>?_⟩;have a3:t.get? s.heap.objs.size=some {cls:= .type "tuple",data:= .seq #[.int i F,v]}:=(M.2 _ (xl C)).trans hT;have O:B7 X.prog X.w (Av H s.heap.objs.size (.tup [.int (i:Nat),x])) t s.heap.objs.size (.tup [.int (i:Nat),x]):=⟨by show 2<=sizeLine;decide,[.int i F,v],.cons ⟨_,rfl⟩ (.cons ru .nil),⟨_,a3,rfl,_,rfl⟩⟩;have I1:As X r σ (Av H s.heap.objs.size (.tup [.int (i:Nat),x])) {s with heap:=t,toks:=F+1}:=I.J0 (ch:=[e,d]) (fun b ob l q=>(M.2 b (fun z=>l (by simp[z]))).trans (hk b ob (fun z=>l (by simp[z])) (fun z=>l (by simp[z])) q)) J (ze _) O;refine⟨.ref s.heap.objs.size,_,I1,rfl,⟨_,x,rfl,I.Bx.fresh (ze _),rfl,fun ys hy=>by rw[I.Oq hy G];exact R⟩,⟨⟨v,?_⟩,B.1.at fun o q=>(M.2 d (zN c)).trans q,c⟩,fun b l=>?_⟩;·have e1:((i+1:Nat):Int)=(i:Int)+1:=∅;rw[e1];exact a1
  ·have a2:b<s.heap.objs.size:=by
    have e':b=e\/b=d:=‹l›;rcases e' with z|z;·rw[z];exact C
    ·rw[z];exact V
   rw[Ac (zV a2)];exact(J b l).1
 done:=by intro X hP S hK L i r s σ H E I J m Z;subst hP S hK;obtain⟨⟨f,j⟩,n,c⟩:=m;obtain⟨xs,G,R⟩:=Z;obtain⟨g,N,p,hz⟩:=I.tuple G;obtain⟨f0,f1,f2,f3,f4,f5⟩:=J d (by simp);have hl:=N.length;exact rV (NX (show X.A.in1.handled=none from I.ok.hd L) d a i g.toArray (by simp;lia)) j ⟨n,p⟩ fun h' eb=>⟨rfl,I.turned (t':=s.toks) (fun b o l q=>eb b o l q) f0 f1 f3 f4 f5⟩
 self:=fun A i s Q E m h=>let⟨⟨_,j⟩,_⟩:=m;wq j h
open AutoSeq1 (wpAny_loadPart') in theorem Y9(t0:Addr)(its:Array Value)(n:Nat)(dc:Option Addr)(ss:Array (Option Value)):Meets (Builtin.«enumerate.__new__» ⟨[.type "enumerate",.ref t0],[]⟩) (fun _ R s=>s.heap.get? t0=some {cls:= .type "tuple",dict:=dc,data:= .seq its n,slots:=ss}/\R (.ok (.ret (.ref (s.heap.push {cls:= .type "tuple_iterator",data:= .fields #[.ref t0,.int 0 0]}).objs.size))) {s with heap:=(s.heap.push {cls:= .type "tuple_iterator",data:= .fields #[.ref t0,.int 0 0]}).push {cls:= .type "enumerate",data:= .fields #[.none,.bool false,.ref s.heap.objs.size,rawInt 0,.none,.none]}}):= .of_wp fun prog w A R s h=>by
 obtain⟨hp,g,d,tk,os⟩:=s;obtain⟨ht,h⟩:=h;have hsub:=sub_enumerate;have hT:Heap.IsTuple (Shared.heap ⟨hp,g,d,tk,os⟩) t0 its:=⟨_,ht,rfl,n,rfl⟩;wp_walk using wQ ht;refine wpAny_stack_any fun st=>zr ?_;split
 ·rename_i c _ _ _ _ _;cases(c==Value.type "enumerate");·wp_walk using wQ ht,vR hT;exact⟨_,rfl,h⟩
  ·wp_walk using wQ ht,vR hT;exact⟨_,rfl,h⟩
 ·wp_walk using wQ ht,vR hT;exact⟨_,rfl,h⟩
theorem VG{w:World}{d:Addr}{a:Array Value}(l:s.heap.IsTuple d a)(h:∀e,IsEnum e (s.heap.objs.size+1) s.heap.objs.size 0 .none->e.IsTupleIter s.heap.objs.size d 0->(∀b o,s.heap.get? b=some o->e.get? b=some o)->Q (.ref (s.heap.objs.size+1)) {s with heap:=e}):wpAny (model prog w) A (call (.type "enumerate") [.ref d]) Q E s:=by obtain⟨⟨c,q,p,k⟩,m,i,n,g⟩:=l;replace i:c= .type "tuple":=i;replace g:p= .seq a n:=g;subst i g;refine callType_new F.called_enumerate ⋯ (F.typeCall_enumerate_1 _) (F.newCall_enumerate_1 _) (fun obj=>F.args_object_init_2 obj _) F.entry_enumerate_new (Y9 d a n q k) ⟨m,?_⟩;have j:(s.heap.push {cls:= .type "tuple_iterator",data:= .fields #[.ref d,.int 0 0]}).objs.size=s.heap.objs.size+1:=yk ..;show _/\_;rw[j];have f:=zM (s.heap.push {cls:= .type "tuple_iterator",data:= .fields #[.ref d,.int 0 0]}) (o:={cls:= .type "enumerate",data:= .fields #[.none,.bool false,.ref s.heap.objs.size,rawInt 0,.none,.none]}) rfl;rw[j]at f;exact⟨⟨_,f,rfl⟩,h _ f ⟨_,zi _ (zM _ rfl),rfl,rfl⟩ fun b o x=>zi _ (zi _ x)⟩
def jY(K:Frag)(d:TA):TI:=fun σ H R=>d σ H fun c b=>∃a xs,c=[.ref a]/\Em K b a xs/\R (dz K a) b
theorem aK{X:Cx}{n:TA}{p g f:Pos}{y:Nat}(F:Gl X "enumerate")(D:X.mg "enumerate"=none)(J:PA X [e] n)(B:starEach [e] X.env=[(false,eval e X.env)]:=by rfl):PI X (.Tuple elts y f) (.Call (.Name "enumerate" p) [e] [] g) (jY X.K n):=by
 intro d s σ H R I h;refine Call_ (Gn I F D boot_enumerate (yK (Br (J g d s σ H _ I h) fun us c l=>?_) B rfl));obtain⟨N,u,k,w,x⟩:=l;obtain⟨a,xs,ex,C,q⟩:=x;subst ex;cases w with
 |cons r v=>
  cases v;cases r;obtain⟨A,O,o,P⟩:=k.tuple C;have j:a<c.heap.objs.size:=by obtain⟨Y,q,Y⟩:=o;exact zA q
  refine VG o fun K t m E=>wq t ?_;have M:As X d σ u {c with heap:=K}:=k.kept (t':=c.toks) E;refine⟨c.heap.objs.size+1,[c.heap.objs.size+1,c.heap.objs.size],_,_,u,rfl,M,Ux a (c.heap.objs.size+1) c.heap.objs.size (xl (yM j)) (xl j),⟨⟨.none,t⟩,m,vZ _⟩,fun b G=>?_,q⟩;have L:b=c.heap.objs.size+1\/b=c.heap.objs.size:=‹G›;have i:c.heap.objs.size<=b:=by
   rcases L with z|z;·rw[z];exact u_ _ _
   ·rw[z];exact ze _
  exact k.Ka i (k.Bx.fresh i)
def signs(x:Str):List V:=x.cps.toList.map fun c=>V.str ⟨#[c]⟩
theorem LO{x:Str}:∀(l:List Value)(a:List Nat),l.length=a.length->(∀(j:Nat)(v:Value),l[j]?=some v->∃c u,a[j]?=some c/\v=Value.str ⟨#[c]⟩ u)->AG (a.map fun c=>V.str ⟨#[c]⟩) l|[],[],_,_=> .nil|v::l,c::a,b,h=>by obtain⟨f,u,e,d⟩:=h 0 v rfl;cases e;exact .cons ⟨u,d⟩ (LO (x:=x) l a ‹b› fun j v q=>h (j+1) v q)
theorem VF(n:X.calm=true):FH X (.type "list") (fun xs H Q=>∃x,xs=[.str x]/\x.cps.size<=sizeLine/\∀l,H l=none->Q (.ref l) (Av H l (.lst (signs x)))):=by intro b s σ H xs us Q I r h;obtain⟨x,rfl,d,q⟩:=h;obtain⟨u,rfl,t,rfl⟩:=vals1 r;refine call_list_str (I.ok.hd n) x t (fun o i a c k e f=>?_) d;refine⟨.ref s.heap.objs.size,_,I.laid (t':=i) k (ze _) (show B7 X.prog X.w _ o _ (.lst (signs x))from⟨by simpa[signs]using d,a.toList,c,?_,‹e›⟩),rfl,q _ (I.Bx.fresh (ze _))⟩;refine LO (x:=x) a.toList x.cps.toList ‹f.1› fun j v m=>?_;obtain⟨y,g,w,p⟩:=f.2 j v ‹m›;exact⟨y,g,‹w›,p⟩
theorem Yd:YY X "str.index" (fun x xs H Q=>∃a b i c,x= .str a/\xs=[.str b]/\PySem.Builtin.Str.occurrences a b 0 a.length 1=i::c/\Q (.int (i:Nat)) H):=by intro e s σ H x xs v us Q I f d h;obtain⟨a,b,i,c,rfl,rfl,j,h⟩:=h;obtain⟨t,rfl⟩:=f;cases d with|cons g d=>cases d;obtain⟨u,rfl⟩:=g;exact PySem.SC.index j ⟨.int (i:Nat),H,I.tok _,⟨_,rfl⟩,h⟩
def bestAt(xs:List (List Int)):Nat->Nat|0=>0|k+1=>if HT.lexLt (xs.getD (k+1) []) (xs.getD (bestAt xs k) [])then k+1 else bestAt xs k
section
variable{w:World}{R:Result->Shared->Prop}{I l S:Addr}{its:Array Value}{ts:List Addr}{xs:List (List Int)}
def El(h:Heap)(b:List Addr)(xs:List (List Int)):Prop:=Paired (fun t c=>∃a:Array Value,IsTup h t a/\IntsAre a.toList c) b xs
theorem El.get{h:Heap}:∀{b:List Addr}{xs:List (List Int)},El h b xs->∀{i t},b[i]?=some t->∃a:Array Value,IsTup h t a/\IntsAre a.toList (xs.getD i []) |_,_,.cons r c,0,t,e=>by cases e;exact r|_,_,.cons r c,i+1,t,e=>‹El.get c (i:=i) ‹e››
theorem El.kept{h c:Heap}:∀{a:List Addr}{xs:List (List Int)},El h a xs->(∀b∈a,∀o,h.get? b=some o->c.get? b=some o)->El c a xs|_,_,.nil,_=> .nil|_,_,.cons r e,k=>by obtain⟨d,⟨o,f,q⟩,g⟩:=r;exact .cons ⟨d,⟨o,k _ (by simp) o f,q⟩,g⟩ (El.kept e fun b i=>k b (by simp[i]))
theorem Yg(hh:A.handled=none)(hu:A.in1.units<cLine)(L:l≠I)(n:S≠I)(K:S≠l)(u:∀t∈ts,t≠I/\t≠S)(y:its=(ts.map Value.ref).toArray):∀(k j:Nat)(s:Shared)(t:Addr)(c:Nat),ts.length-(j+1)=k->j+1<=ts.length->s.heap.IsListIter I l (j+1)->s.heap.IsList l its->El s.heap ts xs->ts[bestAt xs j]?=some t->s.heap.get? S=some {cls:= .type "list",dict:=none,data:= .seq #[.ref t,.ref t] c,slots:=#[]}->(∀t V r,ts[bestAt xs (ts.length-1)]?=some t->(∀b o,b≠I->b≠S->s.heap.get? b=some o->V.get? b=some o)->R (.ok (.ret (.ref t))) {s with heap:=V,toks:=r})->codeAny (model prog w) A (.builtin "min.loop" ⟨[.ref I,.none,.ref S],[]⟩) R s:=by
 have Q:(toString "min"++toString ".loop":String)="min.loop":=⋯;have W:=Walks.list (prog:=prog) (w:=w) (A:=A.in1) hh I l L its;have hn:its.size=ts.length:=by rw[y];simp
 intro k;induction k with
 |zero=>intro j s t c hk hj N M U D B E;have z:j+1=ts.length:=∅;refine uG tX ?_;rw[uQ xU _];refine(show wpAny _ A.in1 (seqItems? (.ref S)>>=_) _ _ s from za (vQ B rfl ?_));refine(show wpAny _ A.in1 (tryCatch (pyNext (.ref I)) _>>=_) _ _ s from za (uM (W.done s _ _ (by rw[hn,<-z];exact⟨N,M⟩) fun g r m=>?_)));have d:=m S _ ‹n› B;refine(show wpAny _ A.in1 (updateSeq S (fun Y=>#[])>>=_) _ _ _ from za ?_);exact su d rfl (za (uN (zr (E t _ r (by rw[<-z];exact D) fun b o p h e=>(yU _ _ (zN h)).trans (m b o ‹p› e)))))
 |succ k T=>
  intro j s t c hk hj N M U D B E;have J:j+1<its.size:=∅;refine uG tX ?_;rw[uQ xU _];refine(show wpAny _ A.in1 (seqItems? (.ref S)>>=_) _ _ s from za (vQ B rfl ?_));refine(show wpAny _ A.in1 (tryCatch (pyNext (.ref I)) _>>=_) _ _ s from za (uM (W.item (j+1) s _ _ J ⟨N,M⟩ fun v g r H C m=>?_)));have d:=m S _ ‹n› B;obtain⟨a,x,rfl⟩:∃a,ts[j+1]?=some a/\v= .ref a:=by rw[y]at H;simp only[sJ,z7,zy]at H;obtain⟨a,e,rfl⟩:=H;exact⟨a,e,rfl⟩
  have f:El g ts xs:=U.kept fun b q o e=>m b o ‹(u b q).1› e;obtain⟨X,p2,i2⟩:=f.get x;obtain⟨Z,p1,i1⟩:=f.get D;refine(show wpAny _ A.in1 (tryCatch (holding [.ref a,.ref a] (richCompare .Lt (.ref a) (.ref t)>>=_)) _>>=_) _ _ _ from ?_);refine za (uM (yR (za (HT.Vg (s:={s with heap:=g,toks:=r}) p2 p1 i2 i1 hu (za (yR (yT (za (uN (zr ?_))))))))));cases q:HT.lexLt (xs.getD (j+1) []) (xs.getD (bestAt xs j) [])with|true=>simp only[xj];refine za (su d rfl (za (uN ?_)));rw[Q];have F:∀b o,b≠S->g.get? b=some o->(g.update S (Obj.mapSeq (fun Y=>(#[.ref a,.ref a]:Array Value)))).get? b=some o:=fun b o h e=>(yU _ _ (zN h)).trans e;refine zr ⟨tD xU _,T (j+1) _ a _ ∅ ∅ (C.1.at fun o e=>F _ o (zN n) e) (C.2.at fun o e=>F _ o (zN K) e) (f.kept fun b q o e=>F b o (u b q).2 e) (by simp only[bestAt,q,xj];exact x) (ye _ d rfl) fun t' O i P G=>?_⟩;exact E t' O i P fun b o p h e=>G b o p h (F b o h (m b o ‹p› e)) |false=>simp only[yD,yS];refine za (uN ?_);rw[Q];refine zr ⟨tD xU _,T (j+1) _ t c ∅ ∅ C.1 C.2 f (by simp only[bestAt,q,yD,yS];exact D) d fun t' O i P G=>?_⟩;exact E t' O i P fun b o p h e=>G b o p h (m b o ‹p› e)
theorem YM(G:A.handled=none)(M:A.in1.units<cLine)(r:s.heap.IsList l (ts.map Value.ref).toArray)(I:El s.heap ts xs)(p:ts≠[])(h:∀t K y,ts[bestAt xs (ts.length-1)]?=some t->(∀b o,s.heap.get? b=some o->K.get? b=some o)->Q (.ref t) {s with heap:=K,toks:=y}):wpAny (model prog w) A (call (.builtin "min") [.ref l]) Q E s:=by
 have B:(toString "min"++toString ".loop":String)="min.loop":=⋯;have a:l<s.heap.objs.size:=by obtain⟨Y,q,Y⟩:=r;exact zA q
 have k:∀t∈ts,t<s.heap.objs.size:=fun t c=>by obtain⟨i,e⟩:=yJ c;obtain⟨S,⟨o,N,Y⟩,Y⟩:=I.get e;exact zA N
 refine call_function_tree F.kind_min F.plain_min F.entry_min (F.args_min1 _) (show wpAny _ A.in1 (Builtin.Builtins.bindParams "min" ["key","default"] 0 ⟨[],[]⟩>>=_) _ _ s from za (wpAny_of_eq (show Builtin.Builtins.bindParams "min" ["key","default"] 0 ⟨[],[]⟩=pure [none,none]from rfl) ?_));refine za (zr (za (tO r (za (wu ?_)))));rw[B];have d:(s.heap.push {cls:= .type "list_iterator",data:= .fields #[.ref l,.int 0 0]}).objs.size=s.heap.objs.size+1:=yk ..;have x:∀b o,s.heap.get? b=some o->((s.heap.push {cls:= .type "list_iterator",data:= .fields #[.ref l,.int 0 0]}).push {cls:= .type "list",data:= .seq #[]}).get? b=some o:=fun b o e=>zi _ (zi _ e);have W:=Walks.list (prog:=prog) (w:=w) (A:=A.in1) G s.heap.objs.size l (zV a) (ts.map Value.ref).toArray;have f:0<ts.length:=xF.mpr p;have C:s.heap.objs.size+1≠s.heap.objs.size:=vZ _;have J:((s.heap.push {cls:= .type "list_iterator",data:= .fields #[.ref l,.int 0 0]}).push {cls:= .type "list",data:= .seq #[]}).get? (s.heap.objs.size+1)=some {cls:= .type "list",data:= .seq #[]}:=by rw[<-d];exact zM _ rfl
 rw[d];refine zr ⟨tD xU _,uG tX ?_⟩;rw[uQ xU _];refine(show wpAny _ A.in1 (seqItems? (.ref (s.heap.objs.size+1))>>=_) _ _ _ from za (vQ J rfl ?_));refine(show wpAny _ A.in1 (tryCatch (pyNext (.ref s.heap.objs.size)) _>>=_) _ _ _ from za (uM (W.item 0 _ _ _ ‹f› ⟨⟨_,zi _ (zM _ rfl),rfl,rfl⟩,r.at fun o e=>x l o e⟩ fun v g y D z H=>?_)));obtain⟨t,c,rfl⟩:∃t,ts[0]?=some t/\v= .ref t:=by simp only[sJ,z7,zy]at D;obtain⟨t,e,rfl⟩:=D;exact⟨t,e,rfl⟩
 have m:=H (s.heap.objs.size+1) _ (by simp) J;refine(show wpAny _ A.in1 (updateSeq (s.heap.objs.size+1) (fun Y=>#[.ref t,.ref t])>>=_) _ _ _ from za (su m rfl ?_));rw[B];have u:∀b o,b≠s.heap.objs.size+1->g.get? b=some o->(g.update (s.heap.objs.size+1) (Obj.mapSeq (fun Y=>(#[.ref t,.ref t]:Array Value)))).get? b=some o:=fun b o R e=>(yU _ _ (zN R)).trans e;have j:∀b o,s.heap.get? b=some o->(g.update (s.heap.objs.size+1) (Obj.mapSeq (fun Y=>(#[.ref t,.ref t]:Array Value)))).get? b=some o:=fun b o e=>u b o (zV (yM (zA e))) (H b o ‹zV (zA e)› (x b o e));refine zr ⟨tD xU _,Yg (xs:=xs) (l:=l) G M (zV a) C (xl (yM a)) (fun t c=>⟨zV (k t c),zV (yM (k t c))⟩) rfl _ 0 _ t _ rfl f (z.1.at fun o e=>u _ o (zN C) e) (z.2.at fun o e=>u _ o (zV (yM a)) e) (I.kept fun b T o e=>j b o e) c (ye _ m rfl) fun t' O n P L=>?_⟩;exact h t' O n P fun b o e=>L b o (zV (zA e)) (zV (yM (zA e))) (j b o e)
end
theorem Od{X:Cx}(D:X.calm=true)(C:X.A.in1.units<cLine):FH X (.builtin "min") (fun v H Q=>∃a b g,v=[.ref a]/\AJ X.K H a (b.map V.ref)/\Paired (fun t n=>Em X.K H t (n.map V.int)) b g/\b≠[]/\∀t,b[bestAt g (b.length-1)]?=some t->Q (.ref t) H):=by
 intro k s σ H xs us Q I r h;obtain⟨a,b,g,rfl,j,m,c,q⟩:=h;obtain⟨u,rfl,y⟩:=vals1 r;cases y;obtain⟨f,d,pl,l⟩:=I.list j;have o:f=b.map Value.ref:=by clear j m c q pl l;induction b generalizing f with|nil=>cases d;rfl|cons t b i=>cases d with|cons A z=>cases A;rw[i _ z];rfl
 have E:El s.heap b g:=by clear j c q d pl l o;induction m with|nil=>exact .nil|cons F G i=>obtain⟨w,d,p,Y⟩:=I.tuple F;exact .cons ⟨w.toArray,p,intsAre_of d⟩ i
 subst o;exact YM (I.ok.hd D) C pl.isList E c fun t J x e B=>⟨.ref t,H,I.kept (t':=x) B,rfl,q t e⟩
def dW(d c:TE):TE:=fun σ H Q=>∀p,H p=none->d σ (Av H p (.dT [])) fun x e=>c σ e fun v a=>a p=some (.dT [])/\∃b k,x= .ref b/\a b=some (.tup (k.map kV))/\Q (.ref p) (Av a p (.dT [(k,v)]))
theorem XS{X:Cx}{d:Pos}{k v:Expr}{m l:TE}(F:X.A.units<cLine)(K:PE X k m)(E:PE X v l):PE X (.Dict [some k] [v] d) (dW m l):=by
 intro c s σ H Q I q;have J:=I.Bx.fresh (ze s.heap.objs.size);have V:=I.laid (a:=s.heap.objs.size) (o:= .dT []) (h':=s.heap.push {cls:= .type "dict",data:= .dict #[]}) (t':=s.toks) (fun Y Y q=>zi _ q) (ze _) (cO s.heap I.nY);have r:=zip_pairTrees [some k] [v] X.env d rfl rfl;rw[arm_eval_Dict,r,dictDisplay_pairs (pairTrees [some k] [v] X.env d) (by intro z;cases z) (by show 1<17;decide)];refine za (xb (za ?_));unfold subDict;refine za (sf (za (yR ?_)));rw[zc (by show 1<=15;decide)];refine za (pairTrees_cons_walk (Br (K c _ σ _ _ V (q _ J)) fun u t ⟨x,Z,j,A,C⟩=>Br (E c t σ Z _ j C) fun w2 s2 ⟨y,W,i,w,e,b,D,ex,g,B⟩=>pairTrees_nil_walk ?_));subst ex;obtain rfl:u=Value.ref b:=A;refine yR (za ?_);rw[uo];obtain⟨z,L,xs,f,U⟩:=iq i.Bx e;cases f;refine za (za (wpAny_dictSet_heap (hsz:=zx _) F (JV i.Bx g) U fun R h G=>zr ?_));simp only[tR];refine zr (zr (zr (zr ?_)));obtain⟨n,S,T,p,P,O,N,Y,M⟩:=h;refine⟨.ref s.heap.objs.size,_,QM (ob:= .dT [(D,y)]) i (by rw[e];exact True.intro) G ⟨n,p⟩ ⟨?_,L,_,?_,n,S,T,p,P,O,N,M⟩,rfl,B⟩;·show 1<=sizeLine;decide
 ·refine .cons ⟨rfl,?_,w⟩ .nil;show Av W s.heap.objs.size _ b=_;rw[Ac (Sv g e (fun z=>nomatch z))];exact g
theorem Y7{K:Frag}{j:TS}{D:Ends}(b:Nat->St->Hp->Prop)(v:b 0 σ H)(r:∀i σ H,i<=xs.length->b i σ H->Em K H a xs)(o:∀i x σ H T,xs[i]?=some x->b i σ H->H T=none->g (.ref T) σ (Av H T (.tup [.int (i:Nat),x])) fun c h=>j {D with nx:=b (i+1),ct:=b (i+1),bk:=D.nx} c h)(t:∀σ H,b xs.length σ H->D.nx σ H):∃W:Nat->Nat->St->Hp->Prop,(∃m,W 0 m σ H)/\∀i m σ H,W i m σ H->((dz K a).stop i H/\D.nx σ H)\/((dz K a).go i H/\∃N:St->Hp->Prop,(∀d f,N d f->∃k,k<m/\W (i+1) k d f)/\∀x f,(dz K a).Ul i H x f->g x σ f fun c h=>j {D with nx:=N,ct:=N,bk:=D.nx} c h):=by
 exists fun i m σ H=>m=xs.length-i/\i<=xs.length/\b i σ H,⟨xs.length,by simp,zx _,v⟩;rintro i m σ H ⟨rfl,s,p⟩;have q:=r i σ H s p;by_cases hlt:i<xs.length;·refine .inr ⟨⟨xs,xs[i],q,by simp[hlt]⟩,b (i+1),fun d f n=>⟨xs.length-(i+1),∅,rfl,hlt,n⟩,fun x f y=>?_⟩;obtain⟨T,l,rfl,u,rfl,y⟩:=y;exact o i l σ _ T (y xs q) p u
 ·have e:i=xs.length:=∅;subst e;exact .inl ⟨⟨xs,q,ze _⟩,t σ H p⟩
theorem GZ{j:TS}{D:Ends}(d:Nat->St->Hp->Prop)(t:d 0 σ H)(n:∀i c σ H T,x.cps[i]?=some c->d i σ H->H T=none->g (.ref T) σ (Av H T (.tup [.int (i:Nat),.str ⟨#[c]⟩])) fun a h=>j {D with nx:=d (i+1),ct:=d (i+1),bk:=D.nx} a h)(o:∀σ H,d x.cps.size σ H->D.nx σ H):∃W:Nat->Nat->St->Hp->Prop,(∃m,W 0 m σ H)/\∀i m σ H,W i m σ H->((dA x).stop i H/\D.nx σ H)\/((dA x).go i H/\∃N:St->Hp->Prop,(∀b f,N b f->∃k,k<m/\W (i+1) k b f)/\∀y f,(dA x).Ul i H y f->g y σ f fun a h=>j {D with nx:=N,ct:=N,bk:=D.nx} a h):=by
 exists fun i m σ H=>m=x.cps.size-i/\i<=x.cps.size/\d i σ H,⟨x.cps.size,by simp,zx _,t⟩;rintro i m σ H ⟨rfl,u,p⟩;by_cases hlt:i<x.cps.size;·refine .inr ⟨hlt,d (i+1),fun b f l=>⟨x.cps.size-(i+1),∅,rfl,hlt,l⟩,fun y f q=>?_⟩;obtain⟨T,c,rfl,s,r,rfl⟩:=q;exact n i c σ _ T r p s
 ·have e:i=x.cps.size:=∅;subst e;exact .inl ⟨ze _,o σ H p⟩
theorem WZ{j:TS}{D:Ends}(d:Nat->St->Hp->Prop)(s:d 0 σ H)(n:∀i c σ H,x.cps[i]?=some c->d i σ H->g (.str ⟨#[c]⟩) σ H fun a h=>j {D with nx:=d (i+1),ct:=d (i+1),bk:=D.nx} a h)(o:∀σ H,d x.cps.size σ H->D.nx σ H):∃W:Nat->Nat->St->Hp->Prop,(∃m,W 0 m σ H)/\∀i m σ H,W i m σ H->((iE x).stop i H/\D.nx σ H)\/((iE x).go i H/\∃N:St->Hp->Prop,(∀b f,N b f->∃k,k<m/\W (i+1) k b f)/\∀y f,(iE x).Ul i H y f->g y σ f fun a h=>j {D with nx:=N,ct:=N,bk:=D.nx} a h):=by
 exists fun i m σ H=>m=x.cps.size-i/\i<=x.cps.size/\d i σ H,⟨x.cps.size,by simp,zx _,s⟩;rintro i m σ H ⟨rfl,t,p⟩;by_cases hlt:i<x.cps.size;·refine .inr ⟨hlt,d (i+1),fun b f l=>⟨x.cps.size-(i+1),∅,rfl,hlt,l⟩,fun y f q=>?_⟩;obtain⟨rfl,c,r,rfl⟩:=q;exact n i c σ _ r p
 ·have e:i=x.cps.size:=∅;subst e;exact .inl ⟨ze _,o σ H p⟩
theorem jM{r:TT}{j:List Nat}{u:Hp}{D:Addr}{t:Hp->Prop}(f:Nat->Hp->Prop)(B:f 0 (Av u D (.lst [])))(w:∀i c H,x.cps[i]?=some c->f i H->g (.str ⟨#[c]⟩) (wipe σ j) H fun a o=>wipe a j=wipe σ j/\r a o fun b l=>if b=true then te a l fun y k=>∃d,k D=some (.lst d)/\d.length<sizeLine/\f (i+1) (Av k D (.lst (d++[y])))else f (i+1) l)(z:∀H,f x.cps.size H->t H):∃W:Nat->Nat->Hp->Prop,(∃m,W 0 m (Av u D (.lst [])))/\∀i m H,W i m H->((iE x).stop i H/\t H)\/((iE x).go i H/\∃n:Hp->Prop,(∀h,n h->∃s,s<m/\W (i+1) s h)/\∀y h,(iE x).Ul i H y h->g y (wipe σ j) h fun a o=>wipe a j=wipe σ j/\r a o fun b l=>if b=true then te a l fun y k=>∃d,k D=some (.lst d)/\d.length<sizeLine/\n (Av k D (.lst (d++[y])))else n l):=by
 exists fun i m H=>m=x.cps.size-i/\i<=x.cps.size/\f i H,⟨x.cps.size,by simp,zx _,B⟩;rintro i m H ⟨rfl,C,p⟩;by_cases hlt:i<x.cps.size;·refine .inr ⟨hlt,f (i+1),fun h v=>⟨x.cps.size-(i+1),∅,rfl,hlt,v⟩,fun y h q=>?_⟩;obtain⟨rfl,c,A,rfl⟩:=q;exact w i c _ A p
 ·have e:i=x.cps.size:=∅;subst e;exact .inl ⟨ze _,z H p⟩
theorem cw:ni X (az X.K):=by
 intro a s σ H x y v u Q I k g h;obtain⟨p,xs,i,z,rfl,rfl,l,n,q⟩:=h;cases k;obtain⟨t,rfl⟩:=g;obtain⟨d,r,pl,C⟩:=I.list l;obtain⟨j,b,B,E,A,o⟩:=LG n;obtain⟨w,f,c⟩:=r.get B;have m:=r.length;have D:=Gj;have fin:EP X a σ Q w s:=⟨z,H,I,c,q⟩;by_cases h0:0<=i
 ·have e:i.toNat=j:=by rw[si h0 o]at b;exact zt b
  exact wpAny_getItem_list pl.isList h0 ∅ (by rw[e];simpa using f) fin
 ·have e:(i+(d.toArray.size:Int)).toNat=j:=by rw[tP ∅ A]at b;rw[zI,<-m];exact zt b
  exact rX pl.isList ∅ (by rw[zI]<;>lia) ∅ (by rw[e];simpa using f) fin
theorem Kb{K:Frag}{j:TS}{D:Ends}{σ:L2.St}(b:Nat->L2.St->Hp->Prop)(v:b 0 σ H)(r:∀i σ H,i<=xs.length->b i σ H->AJ K H a xs)(o:∀i x σ H T,xs[i]?=some x->b i σ H->H T=none->g (.ref T) σ (Av H T (.tup [.int (i:Nat),x])) fun c h=>j {D with nx:=b (i+1),ct:=b (i+1),bk:=D.nx} c h)(t:∀σ H,b xs.length σ H->D.nx σ H):∃W:Nat->Nat->L2.St->Hp->Prop,(∃m,W 0 m σ H)/\∀i m σ H,W i m σ H->((iG K a).stop i H/\D.nx σ H)\/((iG K a).go i H/\∃N:L2.St->Hp->Prop,(∀d f,N d f->∃k,k<m/\W (i+1) k d f)/\∀x f,(iG K a).Ul i H x f->g x σ f fun c h=>j {D with nx:=N,ct:=N,bk:=D.nx} c h):=by
 exists fun i m σ H=>m=xs.length-i/\i<=xs.length/\b i σ H,⟨xs.length,by simp,zx _,v⟩;rintro i m σ H ⟨rfl,s,p⟩;have q:=r i σ H s p;by_cases hlt:i<xs.length;·refine .inr ⟨⟨xs,xs[i],q,by simp[hlt]⟩,b (i+1),fun d f n=>⟨xs.length-(i+1),∅,rfl,hlt,n⟩,fun x f y=>?_⟩;obtain⟨T,l,rfl,u,rfl,y⟩:=y;exact o i l σ _ T (y xs q) p u
 ·have e:i=xs.length:=∅;subst e;exact .inl ⟨⟨xs,q,ze _⟩,t σ H p⟩
theorem bQ{K:Frag}{r:TT}{j:List Nat}{σ:L2.St}{u:Hp}{D:Addr}{t:Hp->Prop}(f:Nat->Hp->Prop)(F:f 0 (Av u D (.lst [])))(A:∀i H,i<=xs.length->f i H->AJ K H a xs)(z:∀i x H T,xs[i]?=some x->f i H->H T=none->g (.ref T) (wipe σ j) (Av H T (.tup [.int (i:Nat),x])) fun c o=>wipe c j=wipe σ j/\r c o fun b l=>if b=true then te c l fun y k=>∃d,k D=some (.lst d)/\d.length<sizeLine/\f (i+1) (Av k D (.lst (d++[y])))else f (i+1) l)(C:∀H,f xs.length H->t H):∃W:Nat->Nat->Hp->Prop,(∃m,W 0 m (Av u D (.lst [])))/\∀i m H,W i m H->((iG K a).stop i H/\t H)\/((iG K a).go i H/\∃n:Hp->Prop,(∀h,n h->∃s,s<m/\W (i+1) s h)/\∀x h,(iG K a).Ul i H x h->g x (wipe σ j) h fun c o=>wipe c j=wipe σ j/\r c o fun b l=>if b=true then te c l fun y k=>∃d,k D=some (.lst d)/\d.length<sizeLine/\n (Av k D (.lst (d++[y])))else n l):=by
 exists fun i m H=>m=xs.length-i/\i<=xs.length/\f i H,⟨xs.length,by simp,zx _,F⟩;rintro i m H ⟨rfl,B,p⟩;have q:=A i H B p;by_cases hlt:i<xs.length;·refine .inr ⟨⟨xs,xs[i],q,by simp[hlt]⟩,f (i+1),fun h w=>⟨xs.length-(i+1),∅,rfl,hlt,w⟩,fun x h y=>?_⟩;obtain⟨T,v,rfl,E,rfl,y⟩:=y;exact z i v _ T (y xs q) p E
 ·have e:i=xs.length:=∅;subst e;exact .inl ⟨⟨xs,q,ze _⟩,C H p⟩
def Cj(H:Hp)(a:Addr)(p:Int×Int):Prop:=H a=some (.tup [.int p.1,.int p.2])
def e_(K:Frag):V->List V->Hp->VK->Prop:=fun x xs H Q=>∃(a t:Addr)(c:List Addr)(b:List (Int×Int))(p:Int×Int)(j:Nat),x=V.ref a/\xs=[V.ref t]/\AJ K H a (c.map V.ref)/\Paired (Cj H) c b/\Cj H t p/\b[j]?=some p/\(∀m:Nat,m<j->¬b[m]?=some p)/\Q (.int (j:Nat)) H
theorem Zm{K:Frag}{p:Int×Int}(h:Cj H a p):Dp K H (.ref a) (.tuple [.int p.1,.int p.2]):= .tup (Em.of h) (.cons (.int _) (.cons (.int _) .nil))
theorem dR(p q:Int×Int):PyData.eqv (.tuple [.int p.1,.int p.2]) (.tuple [.int q.1,.int q.2])=decide (p=q):=by obtain⟨a,b⟩:=p;obtain⟨c,d⟩:=q;show((a==c)&&((b==d)&&true))=_;rw[zZ];simp
theorem Pd(U:X.A.units+64<cLine):YY X "list.index" (e_ X.K):=by
 intro T s σ H x xs v us Q I rx D h;obtain⟨a,t,d,g,p,j,rfl,rfl,hs,C,ht,Z,L,q⟩:=h;cases rx;cases D with
 |cons ry rt=>
  cases rt;cases ry;obtain⟨c,S,⟨⟨cls,dd,data,sl⟩,n,W,hc,a2,hd⟩,y⟩:=I.list hs;simp only at hc hd;subst hc hd;have E:=S.length;have a1:=zE C;rw[z3]at E y;have f:∀m(w:m<c.length),∃b q,c[m]=Value.ref b/\Cj H b q/\g[m]?=some q:=fun m w=>by
   have o:m<d.length:=∅;obtain⟨u,U,ru⟩:=S.get (i:=m) (x:=V.ref d[m]) (by rw[z7,z4 o];rfl);obtain⟨Y,F⟩:=z8.mp U;have K:∃q,g[m]?=some q/\Cj H d[m] q:=by
    have P:∀{d:List Addr}{g:List (Int×Int)},Paired (Cj H) d g->∀(m:Nat)(b:Addr),d[m]?=some b->∃q,g[m]?=some q/\Cj H b q:=by intro d g C;induction C with|nil=>intro m b e;cases e|cons r rr ih=>intro m b e;cases m with|zero=>cases e;exact⟨_,rfl,r⟩ |succ m=>exact ih m b ‹e›
    exact P C m _ (z4 o)
   obtain⟨q,h1,h2⟩:=K;exact⟨d[m],q,by rw[F];exact ru,h2,h1⟩
  let e:Value->Bool:=fun u=>match u with
  | .ref b=>(match H b with|some (.tup xs)=>decide (xs=[V.int p.1,V.int p.2]) |_=>false)
  |_=>false;have R:∀b q,Cj H b q->e (.ref b)=decide (q=p):=fun b q K=>by show(match H b with|some (.tup xs)=>decide (xs=[V.int p.1,V.int p.2]) |_=>false)=_;rw[show H b=some (.tup [.int q.1,.int q.2])from K];obtain⟨q1,q2⟩:=q;obtain⟨p1,p2⟩:=p;simp
  have A:j<c.length:=by have:=(z8.mp Z).1;lia
  have O:j<c.toArray.size:=‹A›;have a0:=uO;refine tF vV ⟨_,W,rfl⟩ PySem.F.entry_list_index (PySem.F.args_list_index_2 _ _) (SeqAt.list_indexAt a c.toArray n dd sl (.ref t) e j O ∅ ?_ ?_) ⟨W,fun u' J=>?_,?_⟩;·obtain⟨b,q,l,k,B⟩:=f j A;have:c.toArray[j]=Value.ref b:=‹l›;rw[this,R b q k];rw[Z]at B;cases B;exact zj rfl
  ·intro m w N;have M:m<c.length:=‹w›;obtain⟨b,q,l,k,B⟩:=f m M;have:c.toArray[m]=Value.ref b:=‹l›;rw[this,R b q k];exact zo fun z=>L m N (by rw[B,z])
  ·have G:u'∈c:=‹J›;obtain⟨m,w,e0⟩:=w_.mp G;obtain⟨b,q,l,k,B⟩:=f m w;rw[e0]at l;subst l;obtain⟨Y,r1⟩:=Dp.reads I _ _ _ (Zm k) rfl;obtain⟨Y,r2⟩:=Dp.reads I _ _ _ (Zm ht) rfl;rw[R b q k,<-dR];exact SeqAt.eqAt_reads _ _ _ s _ _ _ _ r1 r2 rfl rfl (by
    have d1:(PyData.tuple [.int q.1,.int q.2]).depth<=2:=by show(1+(max 0 (max 0 0)):Nat)<=2;decide
    have:(X.A.in1).units=X.A.units+1:=rfl;rw[this];lia)
  ·exact⟨.int (j:Nat),H,I.tok _,⟨_,rfl⟩,q⟩
def W7(K:Frag):V->List V->Hp->VK->Prop:=fun x xs H Q=>∃(a:Addr)(b:List Int)(k:Int),x=V.ref a/\xs=[V.int k]/\AJ K H a (b.map V.int)/\Q (.int (b.count k:Nat)) H
theorem Ye:YY X "list.count" (W7 X.K):=by intro c s σ H x xs v us Q I e b h;obtain⟨a,g,k,rfl,rfl,j,q⟩:=h;cases e;cases b with|cons d rt=>cases rt;obtain⟨t,rfl⟩:=d;obtain⟨i,f,pl,l⟩:=I.list j;exact count_list_ints pl.isList (f.ints) ⟨.int (g.count k:Nat),H,I.tok _,⟨_,rfl⟩,q⟩
end L2
end
variable{x:PySem.Str}{H H':L2.Hp}{f C CA a:PySem.Addr}{fd fdA fdH:PySem.FuncData}{p c n i:Nat}{xs:List L2.V}{b:List Nat}{ns:List Int}
open Lean in
local macro_rules (kind:=Lean.Parser.Command.declaration)|s=>do
 let u:=s[1][2]
 if u[1][0][1].getKind != ``Parser.Term.hole then Macro.throwUnsupported
 let b<-[(`vs,<-`(List L2.V)),(`H,<-`(L2.Hp)),(`Q,<-`(L2.VK)),(`E,<-`(L2.XK))].mapM fun(x,t)=>`(bracketedBinder|($(mkIdent x):ident :$t))
 return s.setArg 1 (s[1].setArg 2 ((u.setArg 0 (u[0].setArgs (u[0].getArgs++b.toArray))).setArg 1 (u[1].setArg 0 (u[1][0].setArg 1 (<-`(Prop))))))
local macro_rules|`(tactic|exists $d)=>`(tactic|(refine⟨_,$d,?_⟩;try dsimp only[L2.Jj,L2.Cx.nQ,L2.lh]))
local macro_rules|`(#v[$x])=>`(L2.nO $x L2.Ce)|`(#v[$x,$a,*])=>do `(L2.nO $x $(<-a.getElems.foldrM (β:=Lean.Term) (fun x r=>`(L2.nO $x $r)) (<-`(L2.Ce))))
local macro_rules|`(%[$a,*|$b])=>do return(<-a.getElems.foldrM (β:=Lean.Term) (fun x r=>`(L2.my $x $r)) (<-`(L2.Ag $b)))
open HM(AI A_ Aq B B1 BD BE BI BK BQ Bw CH CJ CQ CZ C_ Co D5 DB DS DW Dk Dy Dz Ef GD HK Hj JA JF JK JL JS Jv K6 LD LS Lp MJ MN ND NN Nc OQ Oh PU Qu Right Rn TY U5 Um Va Words Xp cM dj dy flat fo hZ most shl)
namespace He
open PySem PySem.Spec PyProof.Rows L2
open PySem.W (Frag)
def top(i:Nat):Stmt:=PySem.Challenge.pw_hallends_s01_answers.main.body.getD i (.Pass ⟨0,0,0,0⟩)
abbrev FU:Stmt:=A0 (top 28) 0
abbrev Fp:Stmt:=A0 (top 49) 0
abbrev ZQ:Stmt:=A0 (top 50) 0
abbrev Qj:Stmt:=A0 (top 50) 1
abbrev Mw:Stmt:=A0 (top 50) 5
abbrev My:Stmt:=A0 (top 50) 8
structure dw(K:Frag)(C:Addr):Prop where
 cl:Rl K C
 nT:Bm K C "text"
 nP:Bm K C "place"
abbrev L0:Stmt:=top 51
def known:List Nat:=[10,32,35,46,47]++(List.range 10).map (· +48)++(List.range 26).map (· +65)++(List.range 26).map (· +97)
abbrev Mx:Stmt:=A0 (top 50) 7
abbrev Iz:Stmt:=A0 (top 50) 4
abbrev ID:Stmt:=A0 (top 50) 3
abbrev ZP:Stmt:=A0 (top 50) 2
abbrev JB:Stmt:=A0 (top 50) 6
abbrev Iy:Stmt:=top 52
abbrev IC:Stmt:=top 53
abbrev JD:Stmt:=top 70
abbrev Qi:Stmt:=top 6
abbrev Lz:Stmt:=top 7
abbrev Qh:Stmt:=top 8
inductive Def(K:Frag)(mg:Str->Option Value)(x:Str)(st:Stmt)(ps:List Str):Prop|mk(f fd:_):En K x x st f fd->Bn K fd ps []->mg x=some (.ref f)->Def K mg x st ps
inductive Met(K:Frag)(C:Addr)(x qual:Str)(st:Stmt)(ps:List Str):Prop|mk(f fd:_):En K x qual st f fd->Bn K fd ps []->N8 K C x f->Met K C x qual st ps
inductive gJ(K:Frag)(C:Addr)(qual:Str)(st:Stmt)(ps:List Str):Prop|mk(f fd:_):En K "__init__" qual st f fd->Bn K fd ps []->Mk K C f->gJ K C qual st ps
structure ny(K:Frag)(C:Addr):Prop where
 cl:Rl K C
 Pb:Bm K C "wide"
 Pc:Bm K C "high"
 Fw:Bm K C "ground"
 GL:Bm K C "beside"
 WI:Bm K C "slides"
 Vb:Bm K C "armed"
 hY:Bm K C "four"
 WJ:Bm K C "passed"
 hW:Bm K C "seat"
 bD:Bm K C "exits"
 hX:Bm K C "goal"
abbrev Wz:Stmt:=top 26
abbrev ah:Stmt:=top 25
abbrev OM:Stmt:=top 24
abbrev M4:Stmt:=top 23
abbrev RI:Stmt:=top 22
abbrev ZT:Stmt:=top 21
abbrev RH:Stmt:=top 20
abbrev ai:Stmt:=top 19
abbrev OI:Stmt:=A0 (top 5) 1
abbrev OJ:Stmt:=A0 (top 5) 2
abbrev Wv:Stmt:=A0 (top 5) 3
abbrev RS:Stmt:=top 14
abbrev ag:Stmt:=top 18
abbrev hH:Stmt:=top 17
abbrev UG:Stmt:=top 16
abbrev Wt:Stmt:=top 15
def BR(K:Frag)(a:Addr)(xs:List V):Prop:=∃(o:Obj)(b:Array Value)(n:Nat),K.lookup a=some o/\o.cls= .type "tuple"/\o.data= .seq b n/\b.size<=sizeLine/\AG xs b.toList
inductive iA(K:Frag)(mg:Str->Option Value):Prop|mk(aS s0 s1:_):mg "SIDES"=some (.ref aS)->BR K aS [.ref s0,.ref s1]->BR K s0 [.str "h"]->BR K s1 [.str "m",.str "K"]->iA K mg
inductive kR(K:Frag)(mg:Str->Option Value):Prop|mk(f0 fd0 C0:_):En K "__init__" "Refusal.__init__" FU f0 fd0->Bn K fd0 ["self","told"] []->mg "Exception"=none->mg "Refusal"=some (.ref C0)->gM K C0 "__init__" f0->kR K mg
inductive Rg(K:Frag)(mg:Str->Option Value)(C:Addr)(name qual:Str)(st:Stmt)(ps:List Str):Prop|mk(f fd:_):En K "__init__" qual st f fd->Bn K fd ps []->PM K C f->VT K C "told"->mg name=some (.ref C)->Rg K mg C name qual st ps
abbrev K3:Stmt:=A0 (top 29) 0
abbrev EL:Stmt:=A0 (top 30) 0
abbrev FT:Stmt:=A0 (top 31) 0
abbrev Ho:Stmt:=A0 (top 32) 0
abbrev OC:Stmt:=A0 (top 35) 0
abbrev Hn:Stmt:=A0 (top 33) 0
abbrev FR:Stmt:=A0 (top 34) 0
abbrev ZR:Stmt:=top 71
abbrev OH:Stmt:=top 74
abbrev RN:Stmt:=top 72
abbrev Ws:Stmt:=top 73
abbrev RK:Stmt:=top 76
abbrev ZS:Stmt:=top 9
abbrev JE:Stmt:=A0 (top 5) 0
inductive iy(K:Frag)(mg:Str->Option Value):Prop|mk(aT p0 p1 p2 p3:_):mg "STEPS"=some (.ref aT)->BR K aT [.ref p0,.ref p1,.ref p2,.ref p3]->BR K p0 [.int 0,.int 1]->BR K p1 [.int 1,.int 0]->BR K p2 [.int 0,.int (-1)]->BR K p3 [.int (-1),.int 0]->iy K mg
abbrev ZX:Stmt:=top 75
abbrev Ww:Stmt:=A0 (top 40) 1
structure pR(K:Frag)(C:Addr):Prop where
 cl:Rl K C
 nP:Bm K C "positions"
 nN:Bm K C "numbers"
 nF:Bm K C "follows"
 nW:Bm K C "worth"
abbrev Wp:Stmt:=top 45
abbrev JC:Stmt:=top 44
abbrev Ly:Stmt:=top 43
abbrev ZU:Stmt:=top 77
abbrev RO:Stmt:=top 69
def dN:List (Str×Str×List Str):=[("first","first ",["hunters","king"]),("slides","\nking ",["steps","slides"]),("armed"," ",["bare","armed"]),("four"," ",["two","four"]),("passed","\nseat ",["barred","passed"]),("seat"," ",["quiet","hunters","men","all"]),("exits","\nexits ",["quiet","hunters","men","all"]),("goal","\ngoal ",["edge","exits"]),("thrice","\nthrice ",["drawn","hunters","king"])]
inductive Ri(K:Frag)(mg:Str->Option Value):Prop|mk(aC:Addr)(ts us:List Addr):mg "CHOICES"=some (.ref aC)->BR K aC (ts.map V.ref)->ts.length=9->us.length=9->(∀(i:Nat)(t u:Addr)(y:Str×Str×List Str),ts[i]?=some t->us[i]?=some u->dN[i]?=some y->BR K t [.str y.1,.str y.2.1,.ref u]/\BR K u (y.2.2.map V.str))->Ri K mg
inductive iz(K:Frag)(mg:Str->Option Value):Prop|mk(g1 g2:_):mg "GROUND_SIGNS"=some (.ref g1)->mg "START_SIGNS"=some (.ref g2)->BR K g1 (([46,83,88,35]:List Nat).map fun c=>V.str ⟨#[c]⟩)/\BR K g2 (([46,104,109,75]:List Nat).map fun c=>V.str ⟨#[c]⟩)->iz K mg
abbrev Mz:Stmt:=top 68
abbrev M1:Stmt:=top 57
abbrev gY:Stmt:=top 59
abbrev ae:Stmt:=top 58
abbrev RL:Stmt:=top 62
abbrev RJ:Stmt:=top 61
abbrev Wu:Stmt:=top 60
inductive iw(K:Frag)(mg:Str->Option Value):Prop|mk(aT:_):mg "TURNS"=some (.ref aT)->BR K aT [.str "h",.str "k"]->iw K mg
abbrev GG:Stmt:=top 56
abbrev Z_:Stmt:=A0 (top 80) 0
abbrev ZZ:Stmt:=A0 (top 80) 1
abbrev Wy:Stmt:=A0 (top 80) 2
abbrev hB:Stmt:=A0 (top 80) 3
abbrev ZY:Stmt:=A0 (top 80) 4
abbrev RU:Stmt:=top 82
structure w8(K:Frag)(C:Addr):Prop where
 cl:Rl K C
 nH:Bm K C "handed"
 nA:Bm K C "at"
abbrev RQ:Stmt:=A0 (top 40) 0
abbrev aa:Stmt:=top 41
abbrev M3:Stmt:=top 42
abbrev af:Stmt:=A0 (top 40) 2
abbrev UE:Stmt:=A0 (top 40) 3
abbrev Wq:Stmt:=A0 (top 40) 4
abbrev ab:Stmt:=A0 (top 81) 0
abbrev OG:Stmt:=A0 (top 81) 1
abbrev RP:Stmt:=A0 (top 81) 2
abbrev RV:Stmt:=A0 (top 81) 3
abbrev gZ:Stmt:=A0 (top 81) 4
abbrev OK:Stmt:=A0 (top 81) 5
abbrev OE:Stmt:=A0 (top 81) 6
abbrev K4:Stmt:=A0 (top 81) 7
abbrev Mu:Stmt:=A0 (top 81) 8
abbrev OF:Stmt:=A0 (top 81) 9
abbrev OD:Stmt:=A0 (top 81) 10
abbrev Mv:Stmt:=A0 (top 81) 11
abbrev ZV:Stmt:=A0 (top 81) 12
structure xk(K:Frag)(C:Addr):Prop where
 cl:Rl K C
 nH:Bm K C "hall"
 nE:Bm K C "ending"
structure dJ(K:Frag)(C0 C:Addr):Prop where
 at_:VT K C "told"
 sub:subIn K (.ref C) (.ref C0)=some true
abbrev EM:Stmt:=top 83
abbrev K5:Stmt:=top 84
abbrev OL:Stmt:=top 85
inductive EJ(K:Frag):_|mk(la:Addr)(ns:List Int):vs=[.ref la]->AJ K H la (ns.map V.int)->ns.length<=30000->PyWqacdc.answers_asked ns=true->(∀H' l,H' l=some (.lst ((PyWqacdc.answers ns).map V.int))->Q (.ref l) H')->EJ K vs H Q E
structure pV(K:Frag)(mg:Str->Option Value)(CH CR CF CE CD CA C0 XW XP XN XO XL XR XT:Addr):Prop where
 Tr:mg "Reader"=some (.ref CR)
 kf:mg "Hall"=some (.ref CH)
 ki:mg "Feed"=some (.ref CF)
 cx:mg "Ending"=some (.ref CE)
 kj:mg "Desk"=some (.ref CD)
 fL:mg "Astray"=some (.ref CA)
 qW:mg "Refusal"=some (.ref C0)
 Oc:Def K mg "answer_call" K5 ["desk","feed"]
 HZ:Def K mg "answer_or_refuse" OL ["desk","feed"]
 Ln:Def K mg "begins_number" L0 ["digits","least","greatest"]
 FE:Def K mg "cell_in_order" Lz ["order","wide","high"]
 Ob:Def K mg "cells_moved" ZT ["position","move"]
 VB:Def K mg "codes_of" IC ["text"]
 YK:Def K mg "counted" RU ["row"]
 YJ:Def K mg "decided" RS ["hall","position"]
 QQ:Def K mg "ends_along" ag ["hall","cells","begin","direction"]
 TR:Def K mg "ends_from" hH ["hall","cells","begin"]
 cT:Def K mg "enmity" Wz ["hall","cells","cell"]
 Oa:Def K mg "goal_faults" ZX ["said"]
 Lm:Def K mg "ground_faults" RN ["said"]
 VA:Def K mg "is_taken" M4 ["hall","cells","cell","direction","mover"]
 YH:Def K mg "line_of" Wu ["hall","position"]
 N_:Def K mg "longest_for" M3 ["worth","who"]
 TQ:Def K mg "may_start" OH ["piece","sign"]
 Kk:Def K mg "missing_faults" ZU ["said","length"]
 V9:Def K mg "moves_of" UG ["hall","position"]
 QP:Def K mg "neighbours" ZS ["cell","wide","high"]
 NZ:Def K mg "number_text" RL ["empty"]
 YG:Def K mg "on_edge" Qi ["x","y","wide","high"]
 YF:Def K mg "over_by" Wt ["hall","position"]
 Ll:Def K mg "place_in_rows" ZR ["first","order","wide"]
 Kj:Def K mg "position_after" ai ["hall","position","move"]
 QO:Def K mg "read_board" ae ["reader","wide","high"]
 Nz:Def K mg "read_grammar" RO ["reader"]
 TN:Def K mg "read_line" GG ["hall","line"]
 TM:Def K mg "read_rows" JD ["reader","signs","wide","high"]
 QN:Def K mg "read_rules" Mz ["text"]
 TK:Def K mg "read_some" gY ["reader","left"]
 HY:Def K mg "refuse_misplaced" M1 ["hall","cells","places"]
 HX:Def K mg "reversed_follows" JC ["follows"]
 V8:Def K mg "row_text" RJ ["cells"]
 TJ:Def K mg "spread" Qh ["written","wide","high","outside"]
 Fb:Def K mg "stands_against_hunter" OM ["hall","cells","cell"]
 G3:Def K mg "stands_against_man" ah ["hall","cells","cell"]
 Ny:Def K mg "start_faults" Ws ["said"]
 Ki:Def K mg "starts_on_edge" RK ["said"]
 NY:Def K mg "table_entry" aa ["value"]
 V7:Def K mg "taken_at" RI ["hall","cells","end"]
 V6:Def K mg "taken_by" RH ["hall","position","move"]
 YD:Def K mg "text_of" Iy ["codes"]
 TC:Def K mg "values_of" Ly ["hall","positions","follows"]
 cS:Def K mg "winner" Wp ["hall","position"]
 Hu:Met K CR "ahead" "Reader.ahead" Qj ["self"]
 Qx:Met K CR "take" "Reader.take" ZP ["self","word"]
 Gf:Met K CR "choose" "Reader.choose" ID ["self","words"]
 FJ:Met K CR "shared_length" "Reader.shared_length" Iz ["self","word"]
 Hc:Met K CR "take_one_of" "Reader.take_one_of" Mw ["self","signs"]
 IV:Met K CR "take_name" "Reader.take_name" JB ["self","longest"]
 Hg:Met K CR "take_number" "Reader.take_number" Mx ["self","least","greatest"]
 JO:Met K CR "take_end" "Reader.take_end" My ["self"]
 Lb:Met K CH "may_stand" "Hall.may_stand" OI ["self","piece","cell"]
 Lc:Met K CH "may_cross" "Hall.may_cross" OJ ["self","piece","cell"]
 NO:Met K CH "is_goal" "Hall.is_goal" Wv ["self","cell"]
 MU:Met K CF "has_more" "Feed.has_more" ZZ ["self"]
 JP:Met K CF "take_whole" "Feed.take_whole" Wy ["self"]
 MT:Met K CF "take_row" "Feed.take_row" hB ["self"]
 Ld:Met K CF "take_text" "Feed.take_text" ZY ["self"]
 MV:Met K CE "follow" "Ending.follow" Ww ["self","hall","position","most"]
 Hh:Met K CE "best_follow" "Ending.best_follow" af ["self","number"]
 NP:Met K CE "table" "Ending.table" UE ["self"]
 Qy:Met K CE "sums" "Ending.sums" Wq ["self"]
 Lh:Met K CD "set_rules" "Desk.set_rules" OG ["self","text"]
 MW:Met K CD "find_all" "Desk.find_all" RP ["self","most","line"]
 Gg:Met K CD "all_that_comes" "Desk.all_that_comes" RV ["self","most","line"]
 Vf:Met K CD "held" "Desk.held" gZ ["self"]
 Li:Met K CD "held_with" "Desk.held_with" OK ["self","number"]
 Lf:Met K CD "tell_line" "Desk.tell_line" OE ["self","number"]
 IW:Met K CD "tell_number" "Desk.tell_number" K4 ["self","line"]
 JQ:Met K CD "tell_value" "Desk.tell_value" Mu ["self","number"]
 Lg:Met K CD "tell_best" "Desk.tell_best" OF ["self","number"]
 Le:Met K CD "tell_sums" "Desk.tell_sums" OD ["self"]
 JR:Met K CD "tell_table" "Desk.tell_table" Mv ["self"]
 SF:Met K CD "judge" "Desk.judge" ZV ["self","most","line","table"]
 bX:gJ K CR "Reader.__init__" ZQ ["self","text"]
 jV:gJ K CH "Hall.__init__" JE ["self","said"]
 jW:gJ K CF "Feed.__init__" Z_ ["self","numbers"]
 bY:gJ K CE "Ending.__init__" RQ ["self","hall","first","most"]
 jX:gJ K CD "Desk.__init__" ab ["self"]
 Rm:Rg K mg XW "WrongMost" "WrongMost.__init__" K3 ["self"]
 Sd:dJ K C0 XW
 Jy:Rg K mg XP "NoSuchPosition" "NoSuchPosition.__init__" EL ["self"]
 EN:dJ K C0 XP
 LM:Rg K mg XN "NothingThere" "NothingThere.__init__" FT ["self"]
 FV:dJ K C0 XN
 NG:Rg K mg XO "AlreadyOver" "AlreadyOver.__init__" Ho ["self"]
 NM:dJ K C0 XO
 NF:Rg K mg XL "LineAtFault" "LineAtFault.__init__" Hn ["self","kind","place"]
 Hq:dJ K C0 XL
 LK:Rg K mg XR "RulesAtFault" "RulesAtFault.__init__" FR ["self","kind","place"]
 MA:dJ K C0 XR
 Xq:Rg K mg XT "TooMany" "TooMany.__init__" OC ["self"]
 XI:dJ K C0 XT
 ref:kR K mg
 qV:D7 K C0=true
 ast:∃fA fdA,En K "__init__" "Astray.__init__" Fp fA fdA/\Bn K fdA ["self","place"] []/\PM K CA fA
 pD:VT K CA "place"
 lJ:subIn K (.ref CA) (.ref CA)=some true
 hc:ny K CH
 rt:dw K CR
 fc:w8 K CF
 ec:pR K CE
 dc:xk K CD
 Dd:∃t,mg "STRIDE"=some (.int 13 t)
 QW:∃t,mg "CELLS"=some (.int 169 t)
 Fe:∃t,mg "NOWHERE"=some (.int (-1) t)
 Jm:∃t,mg "AGAINST_HUNTERS"=some (.int 1 t)
 Oe:∃t,mg "AGAINST_MEN"=some (.int 2 t)
 Ko:∃t,mg "HUNTERS"=some (.int 0 t)
 F0:∃t,mg "KINGS_SIDE"=some (.int 1 t)
 Ff:∃t,mg "NOBODY"=some (.int 2 t)
 Lo:∃t,mg "GREATEST_MOST"=some (.int 200 t)
 D6:mg "len"=none
 GK:mg "range"=none
 BG:mg "enumerate"=none
 bC:mg "max"=none
 m6:mg "min"=none
 hU:mg "ord"=none
 m7:mg "int"=none
 m5:mg "str"=none
 jH:mg "list"=none
 Sw:mg "sorted"=none
 m8:mg "all"=none
 Sy:mg "Exception"=none
 known:∃x t,mg "KNOWN"=some (.str x t)/\x.cps.toList=known
 unknown:∃x t,mg "UNKNOWN"=some (.str x t)/\x=⟨#[63]⟩
 AQ:iA K mg
 steps:iy K mg
 turns:iw K mg
 signs:iz K mg
 gA:Ri K mg
structure Ev where
 P:Program
 w:World
 K:Frag
 mg:Str->Option Value
 base:Heap
 aH:Addr
 aR:Addr
 aF:Addr
 aE:Addr
 aD:Addr
 aA:Addr
 aZ:Addr
 aW:Addr
 aP:Addr
 aN:Addr
 aO:Addr
 aL:Addr
 aS:Addr
 aT:Addr
def Sx(Y:Ev):Prop:=pV Y.K Y.mg Y.aH Y.aR Y.aF Y.aE Y.aD Y.aA Y.aZ Y.aW Y.aP Y.aN Y.aO Y.aL Y.aS Y.aT->∀{f fd},En Y.K "answers" "answers" EM f fd->D9 Y.P Y.w Y.K Y.mg Y.base PQ 13 f fd ["calls"] (EJ Y.K)
def pm:Params:={strHash:=fun Y=>0,shareClass:=fun Y=>0,mergeTok:=id,idOf:=fun Y=>0,idOfShared:=fun Y Y=>0,followText:=fun Y=>false,idOfImm:=fun Y=>0}
theorem mX:Nonempty Ev:=⟨⟨PySem.Challenge.pw_hallends_s01_answers,⟨fun Y Y=>0,pm⟩,[],fun Y=>none,default,0,0,0,0,0,0,0,0,0,0,0,0,0,0⟩⟩
def Y:Ev:=@Classical.epsilon _ mX fun Y=>¬Sx Y
def P:Program:=Y.P
def w:World:=Y.w
def K:Frag:=Y.K
def mg:Str->Option Value:=Y.mg
def base:Heap:=Y.base
def aH:Addr:=Y.aH
def aR:Addr:=Y.aR
def aF:Addr:=Y.aF
def aE:Addr:=Y.aE
def aD:Addr:=Y.aD
def aA:Addr:=Y.aA
def aZ:Addr:=Y.aZ
def aW:Addr:=Y.aW
def aP:Addr:=Y.aP
def aN:Addr:=Y.aN
def aO:Addr:=Y.aO
def aL:Addr:=Y.aL
def aS:Addr:=Y.aS
def aT:Addr:=Y.aT
abbrev AY:Prop:=pV K mg aH aR aF aE aD aA aZ aW aP aN aO aL aS aT
theorem ly(h:Sx Y)(y:Ev):Sx y:=vp fun z=>@sH _ (fun Y=>¬Sx Y) ⟨y,z⟩ h
def tok(x:Str)(n:Int):Tok:=@Classical.epsilon _ ⟨default⟩ fun t=>mg x=some (.int n t)
theorem m_(Z:AY):D7 K aA=true:=by obtain⟨Y,Y,Y,Y,M⟩:=Z.ast;exact M.makes
theorem C3{n:Int}(h:∃t,mg x=some (.int n t)):mg x=some (.int n (tok x n)):=sH h
abbrev Vx(k:Nat)(f:Addr)(fd:FuncData)(b:List Str)(a:Sp):Prop:=D9 P w K mg base PQ k f fd b a
abbrev dH(k:Nat)(f:Addr)(fd:FuncData)(b:List Str)(a:Sp):Prop:=D9 P w K mg base (Y_ true P w) k f fd b a
abbrev Xa(k:Nat)(f:Addr)(fd:FuncData)(b:List Str)(a:Sp):Prop:=FF P w K mg base PQ k f fd b a
theorem Ju:1<=sizeLine:=⋯
theorem K2:2<=sizeLine:=⋯
theorem kZ:3<=sizeLine:=⋯
theorem Af{l:Addr}{o:HO}(h:H l=none):Ap H (Av H l o):=fun b a e=>by rw[Ac (Ab e h)];exact e
theorem Bv{l:Addr}{o:HO}(s:Ap H H')(h:H l=none):Ap H (Av H' l o):=fun b a e=>by rw[Ac (Ab e h)];exact s _ _ e
inductive A3(a b c:Prop):Prop|mk:a->b->c->A3 a b c
inductive A4(a b c d:Prop):Prop|mk:a->b->c->d->A4 a b c d
inductive A5(a b c d e:Prop):Prop|mk:a->b->c->d->e->A5 a b c d e
inductive A6(a b c d e f:Prop):Prop|mk:a->b->c->d->e->f->A6 a b c d e f
inductive A7(a b c d e f g:Prop):Prop|mk:a->b->c->d->e->f->g->A7 a b c d e f g
inductive A9(a b c d e f g h i:Prop):Prop|mk:a->b->c->d->e->f->g->h->i->A9 a b c d e f g h i
inductive E2{A B:Type}(p:A->B->Prop):Prop|mk(a:A)(b:B):p a b->E2 p
inductive E3{A B C:Type}(p:A->B->C->Prop):Prop|mk(a:A)(b:B)(c:C):p a b c->E3 p
inductive E4{A B C D:Type}(p:A->B->C->D->Prop):Prop|mk(a:A)(b:B)(c:C)(d:D):p a b c d->E4 p
inductive E5{A B C D E:Type}(p:A->B->C->D->E->Prop):Prop|mk(a:A)(b:B)(c:C)(d:D)(e:E):p a b c d e->E5 p
inductive E6{A B C D E F:Type}(p:A->B->C->D->E->F->Prop):Prop|mk(a:A)(b:B)(c:C)(d:D)(e:E)(f:F):p a b c d e f->E6 p
def qE(K:Frag)(c:Str)(a:Addr)(v:V)(H:Hp)(Q:VK):Prop:=∃C f,PM K C f/\VT K C c/\H a=some (XO a C none)/\∀H' d,H' a=some (XO a C (some d))->H' d=some (.xd [(c,v)])->H d=none->d≠a->(∀b o,H b=some o->b≠a->H' b=some o)->Q .B0 H'
inductive Cp(K:Frag):_|mk(a v:_):vs=[.ref a,v]->qE K "told" a v H Q->Cp K vs H Q E
inductive C4(K:Frag):_|mk(a v:_):vs=[.ref a,v]->qE K "place" a v H Q->C4 K vs H Q E
theorem lS:Ah ["self","told"] ["self","told"] (Ad FU):={}
theorem CG(F:En K "__init__" "Refusal.__init__" FU f fd)(l:mg "Exception"=none):Xa 1 f fd ["self","told"] (Cp K):=by refine F.fw lS fun H Q E n h=>?_;obtain⟨a,v,rfl,C,g,M,T,i,k⟩:=h;exists%[Se rfl l (pv 0) |WB (pv 0) (pv 1) rfl];refine⟨_,rfl,a,C,g,none,rfl,M,i,_,rfl,_,rfl,a,C,rfl,i,T,fun m d c=>?_⟩;refine k _ m Aa (by rw[Ac c,Aa]) d c fun b o e j=>?_;rw[Ac j,Ac (Ab e d)];exact e
inductive Lv(K:Frag)(ns:List Int):_|mk(a:_):vs=[.ref a]->(∃C f,PM K C f/\VT K C "told"/\H a=some (XO a C none)/\∀H' dx l,H' a=some (XO a C (some dx))->H' dx=some (.xd [("told",.ref l)])->H' l=some (.lst (ns.map V.int))->H dx=none->H l=none->dx≠a->l≠a->(∀b o,H b=some o->b≠a->H' b=some o)->Q .B0 H')->Lv K ns vs H Q E
def rf(x:Str)(p:Nat):List (Str×V):=[("text",.str x),("place",.int p)]
theorem IE(x:Str)(p:Nat):(rf x p).lookup ("text":Str)=some (.str x):=by unfold rf;rw[xW]
theorem Bq(x:Str)(p:Nat):(rf x p).lookup ("place":Str)=some (.int p):=by unfold rf;rw[yp,show(("place":Str)==("text":Str))=false by decide+kernel,xW]
theorem C5{m:Str}(x:Str)(p:Nat)(b:¬m="text":=by decide+kernel)(a:¬m="place":=by decide+kernel):(rf x p).lookup m=none:=by unfold rf;rw[yp,zL.mpr b,yp,zL.mpr a];rfl
theorem UK(x:Str)(p q:Nat):By "place" (.int q) (rf x p)=rf x q:=by show(if("text":Str)="place"then _ else(("text":Str),V.str x)::(if("place":Str)="place"then[(("place":Str),V.int q)]else _))=_;rw[zb ∎,zc rfl];rfl
def Cy(C:Addr)(H:Hp)(a:Addr)(x:Str)(p:Nat):Prop:=∃b,H a=some (.ins C b (rf x p))
def sg(x:Str)(p:Nat):Str:=DO x (some (p:Int)) (some ((p:Int)+1))
def DA(a:Addr)(H H':Hp):Prop:=∀b o,H b=some o->b≠a->H' b=some o
inductive G9(C:Addr):_|mk(a x p:_):vs=[.ref a]->Cy C H a x p->x.length<=sizeLine->Q (.str (sg x p)) H->G9 C vs H Q E
def gO(CA:Addr)(p:Nat)(H:Hp)(E:XK):Prop:=∀H' a,H' a=some (.xd [("place",.int p)])->Ap H H'->E (.ref CA) (some a) H'
inductive DQ(K:Frag)(C CA:Addr):_|mk(a g x p:_)(ss:List Str):vs=[.ref a,.ref g]->Cy C H a x p->x.length<=sizeLine->Em K H g (ss.map V.str)->(if sg x p∈ss then∀H',Cy C H' a x (p+1)->DA a H H'->Q (.str (sg x p)) H' else gO CA p H E)->DQ K C CA vs H Q E
inductive G8(C CA:Addr):_|mk(a x p:_):vs=[.ref a]->Cy C H a x p->x.length<=sizeLine->(if p<x.length then gO CA p H E else Q .B0 H)->G8 C CA vs H Q E
theorem mi:Ah ["self","place"] ["self","place"] (Ad Fp):={}
theorem EW(F:En K "__init__" "Astray.__init__" Fp f fd)(l:mg "Exception"=none):Xa 1 f fd ["self","place"] (C4 K):=by refine F.fw mi fun H Q E n h=>?_;obtain⟨a,v,rfl,C,g,M,T,i,k⟩:=h;exists%[Se rfl l (pv 0) |WB (pv 0) (pv 1) rfl];refine⟨_,rfl,a,C,g,none,rfl,M,i,_,rfl,_,rfl,a,C,rfl,i,T,fun m d c=>?_⟩;refine k _ m Aa (by rw[Ac c,Aa]) d c fun b o e j=>?_;rw[Ac j,Ac (Ab e d)];exact e
theorem eO:Ah ["self"] ["self"] (Ad Qj):={}
theorem IP(F:En K "ahead" "Reader.ahead" Qj f fd)(T:dw K C):Vx 1 f fd ["self"] (G9 C):=by refine F.ok eO fun H Q E e h=>?_;obtain⟨a,x,p,rfl,⟨c,b⟩,d,k⟩:=h;exists Ag (Aj (D3 HI (Al (pv 0)) (CY (Al (pv 0))) (CY (AA Cf (Al (pv 0)) Ae))));exact⟨_,rfl,a,C,c,_,_,rfl,b,T.cl,T.nT,IE x p,_,rfl,a,C,c,_,_,rfl,b,T.cl,T.nP,Bq x p,p,rfl,_,rfl,a,C,c,_,_,rfl,b,T.cl,T.nP,Bq x p,_,_,rfl,rfl,_,rfl,x,rfl,d,k⟩
theorem Fg{f:Addr}(M:PM K CA f)(T:VT K CA "place"){E:XK}(h:gO CA p H E):∀a,H a=none->C4 K [.ref a,.int p] (Av H a (XO a CA none)) (fun v i=>v= .B0/\∃d,i a=some (XO a CA d)/\E (.ref CA) d (Lk i a)) E0:=fun a j=>⟨a,.int p,rfl,CA,f,M,T,Aa,fun H' g n m q k l=>⟨rfl,some g,n,h (Lk H' a) g (by rw[BY k];exact m) fun b o e=>by have c:b≠a:=Ab e j;rw[BY c];exact l b o (by rw[Ac c];exact e) c⟩⟩
structure VM(K:Frag)(mg:Str->Option Value)(C CA fA:Addr)(fdA:FuncData)(fH:Addr)(fdH:FuncData):Prop where
 t:dw K C
 dE:PM K CA fA
 at_:VT K CA "place"
 fL:mg "Astray"=some (.ref CA)
 m4:mg "Exception"=none
 ln:mg "len"=none
 fa:En K "__init__" "Astray.__init__" Fp fA fdA
 ba:Bn K fdA ["self","place"] []
 fh:En K "ahead" "Reader.ahead" Qj fH fdH
 bh:Bn K fdH ["self"] []
 mh:N8 K C "ahead" fH
theorem gX:Ah ["self","signs","sign"] ["self","signs"] (Ad Mw):={}
theorem SQ(x:Str):∀a:List Str,NC (.str x) (a.map V.str)=decide (x∈a)
|[]=>rfl
|y::a=>by
 show((y==x) ||NC (.str x) (a.map V.str))=_;rw[SQ x a];by_cases h:y=x;·subst h;simp
 ·have b:¬x=y:=fun q=>h q.symm;simp[h,b]
theorem Y8(a:List Str):(a.map V.str).all Hz=true:=by rw[yq];intro v b;obtain⟨x,Y,rfl⟩:=zk.mp b;rfl
theorem UU{n m:Addr}(F:En K "take_one_of" "Reader.take_one_of" Mw f fd)(R:VM K mg C CA n fdA m fdH):dH 3 f fd ["self","signs"] (DQ K C CA):=by
 have w:Xa 1 n fdA ["self","place"] (C4 K):=EW R.fa R.m4;have v:Vx 1 m fdH ["self"] (G9 C):=IP R.fh R.t;refine F.Jw gX fun H Q E l h r=>?_;obtain⟨a,g,x,p,j,rfl,⟨c,d⟩,q,s,k⟩:=h;exists%[An (i:=2) gX.nd (ET (pv 0) R.t.cl R.mh v (l.mono ⋯) R.bh .nil Ar),AM (Ao Qr (pv 2) (pv 1) #v[]) (Ag (EO R.dE w l.h rfl R.fL R.ba rfl r (#v[Al (pv 0)]))) Au,DR (pv 0) Ae JX|Aj (pv 2)];exists _,rfl,a,c,_,rfl,d,C5 _ _,a,x,p,rfl,⟨c,d⟩,q,_,rfl,_,rfl,g,_,rfl,.inr s,rfl,Y8 j,_,rfl;rw[zc rfl,SQ];by_cases hm:sg x p∈j;·rw[zc hm]at k;rw[zj hm];refine Vj ⟨_,rfl,a,C,c,_,_,rfl,d,R.t.cl,R.t.nP,Bq x p,p,1,rfl,rfl,c,_,d,(by show 2<1000;decide),_,rfl,?_⟩;have e:By "place" (V.int ((p:Int)+1)) (rf x p)=rf x (p+1):=UK x p (p+1);exact k _ ⟨c,by rw[e];exact Aa⟩ fun b o u t=>by rw[Ac t];exact u
 ·rw[zb hm]at k;rw[zo hm];exact Ym ⟨_,rfl,a,C,c,_,_,rfl,d,R.t.cl,R.t.nP,Bq x p,Ju,Fg R.dE R.at_ k⟩
theorem md:Ah ["self"] ["self"] (Ad My):={}
theorem UX{d j:Addr}(F:En K "take_end" "Reader.take_end" My f fd)(R:VM K mg C CA d fdA j fdH):dH 3 f fd ["self"] (G8 C CA):=by
 have l:Xa 1 d fdA ["self","place"] (C4 K):=EW R.fa R.m4;refine F.Jw md fun H Q E i h g=>?_;obtain⟨a,x,p,rfl,⟨c,b⟩,e,k⟩:=h;exists Ag (AM (Ao FC (Al (pv 0)) (AO DP R.ln y8 (#v[Al (pv 0)]))) (Ag (EO R.dE l i.h rfl R.fL R.ba rfl g (#v[Al (pv 0)]))) Au);exists _,rfl,a,C,c,_,_,rfl,b,R.t.cl,R.t.nP,Bq x p,_,rfl,a,C,c,_,_,rfl,b,R.t.cl,R.t.nT,IE x p,x,rfl,e,_,_,rfl,rfl,_,rfl;by_cases hp:p<x.length;·rw[zc hp]at k;rw[zj (show(p:Int)<(x.length:Int) by lia)];exact Ym ⟨_,rfl,a,C,c,_,_,rfl,b,R.t.cl,R.t.nP,Bq x p,Ju,Fg R.dE R.at_ k⟩
 ·rw[zb hp]at k;rw[zo (show¬(p:Int)<(x.length:Int) by lia)];exact Vj k
theorem jA(k:Nat)(h:5<=k):60000<10^k:=by have:=sV (show 0<10 by decide) h;have e:(10:Nat)^5=100000:=⋯;lia
theorem Ue{b a d k:Nat}(c:0<d)(g:a<=60000)(f:d*10^k<=a)(e:b<=d*10^k+(10^k-1)):begins b a d=true:=by
 unfold begins;rw[xq];refine⟨k,?_,by rw[zj f,zj e];rfl⟩;rw[zC];by_cases q:k<6;·exact q
 ·have:=jA k ∅;have:1*10^k<=d*10^k:=uv _ c;lia
theorem QZ{a b d k:Nat}(e:0<d)(c:∀j,j<k->¬a<=d*10^j+(10^j-1))(f:b<d*10^k):begins a b d=false:=by
 unfold begins;rw[rP];intro j Y q;rw[zp,zq,zq]at q;by_cases hj:j<k;·exact c j hj q.2
 ·have:d*10^k<=d*10^j:=wy _ (sV ⋯ ∅);lia
inductive Mm:_|mk(d lo hi:Nat):vs=[.int d,.int lo,.int hi]->hi<=60000->Q (.bl (decide (0<d)&&begins lo hi d)) H->Mm vs H Q E
theorem RG:Ah ["digits","least","greatest","low","high"] ["digits","least","greatest"] (Ad L0):={}
theorem X_(F:En K "begins_number" "begins_number" L0 f fd):Vx 1 f fd ["digits","least","greatest"] Mm:=by
 refine F.ok RG fun H Q E x h=>?_;obtain⟨d,c,b,rfl,s,k⟩:=h;exists%[AM (Ao AZ (pv 0) Ae) (Ag (Aj K7)) Au,An (i:=3) RG.nd (pv 0),An (i:=4) RG.nd (pv 0),CV y0 (Ao a_ (pv 3) (pv 2)) (%[AM (Ao bf (pv 4) (pv 1)) (Ag (Aj K7)) Au,An (i:=3) RG.nd (AA Ec Ae (pv 3)) |An (i:=4) RG.nd (AA Cf (AA Ec Ae (pv 4)) Ae)]) |Aj K7];exists _,rfl,rfl,_,rfl;by_cases hd:d=0;·subst hd;rw[zj (show V.int ((0:Nat):Int)=V.int 0 from rfl)];exact Ym k
 ·have a:0<d:=Nat.pos_of_ne_zero hd;rw[zo (show¬V.int (d:Int)=V.int 0 from fun q=>by injection q with q;lia)];refine Vj ⟨_,rfl,_,rfl,?_⟩;rw[zj a,wB]at k;exists fun m o H'=>H'=H/\∃j:Nat,o=[some (.int d),some (.int c),some (.int b),some (.int ((d*10^j:Nat):Int)),some (.int ((d*10^j+(10^j-1):Nat):Int))]/\m=b+1-d*10^j/\∀i,i<j->¬c<=d*10^i+(10^i-1),⟨_,rfl,0,?_,rfl,fun i b=>absurd b (xc _)⟩;·simp[L2.start]
  ·rintro m o H' ⟨rfl,j,rfl,rfl,r⟩;exists _,rfl,_,rfl,_,_,rfl,rfl,_,rfl;by_cases hl:d*10^j<=b
   ·rw[zj ∅];refine Ym ⟨fun g n=>n=H'/\∃i:Nat,g=[some (.int d),some (.int c),some (.int b),some (.int ((d*10^i:Nat):Int)),some (.int ((d*10^i+(10^i-1):Nat):Int))]/\i=j+1/\∀e,e<i->¬c<=d*10^e+(10^e-1),?_,?_⟩
    ·rintro g n ⟨rfl,i,rfl,rfl,l⟩;refine⟨_,?_,rfl,j+1,rfl,rfl,l⟩;have:d*10^(j+1)=10*(d*10^j):=by rw[uc,<-Nat.mul_assoc];lia
     have p:0<d*10^j:=Nat.mul_pos a (tE ⋯);lia
    ·exists _,rfl,_,rfl,_,_,rfl,rfl,_,rfl;by_cases hg:c<=d*10^j+(10^j-1);·rw[zj ∅];refine Ym ?_;rw[Ue a s hl hg]at k;exact k
     ·rw[zo ∅];refine Vj ⟨_,rfl,_,_,rfl,rfl,.inl ⟨⋯,⋯⟩,?_⟩;refine⟨_,rfl,_,_,rfl,rfl,.inl ⟨⋯,⋯⟩,_,_,rfl,rfl,rfl,j+1,?_,rfl,fun e l=>?_⟩
      ·have p:0<10^j:=tE ⋯;have u:d*10^(j+1)=10*(d*10^j):=by rw[uc,<-Nat.mul_assoc];lia
       have t:10^(j+1)=10*10^j:=by rw[uc];lia
       show[some (V.int d),some (V.int c),some (V.int b),some (V.int (10*((d*10^j:Nat):Int))),some (V.int (10*((d*10^j+(10^j-1):Nat):Int)+9))]=_;rw[u,t];have w:(10*((d*10^j:Nat):Int))=((10*(d*10^j):Nat):Int):=∅;have v:(10*((d*10^j+(10^j-1):Nat):Int)+9)=((10*(d*10^j)+(10*10^j-1):Nat):Int):=∅;rw[w,v]
      ·by_cases q:e=j;·rw[q];exact hg
       ·exact r e ∅
   ·rw[zo ∅];refine Vj ?_;rw[QZ a r ∅]at k;exact k
def kc(u:UInt8):Nat:=if u.toNat∈known then u.toNat else 63
theorem bR:∀c∈known,c<128:=∎
theorem bT(u:UInt8):kc u<128:=by
 unfold kc;split;·exact bR _ (by assumption)
 ·decide
theorem Hv{u:UInt8}(a:c∈known):kc u=c↔u.toNat=c:=by
 unfold kc;split;·exact rQ
 ·rename_i h;constructor;·intro e;subst e;exact absurd a ∎
  ·intro e;exact absurd (e▸a) h
theorem KA:∀c,48<=c->c<=57->c∈known:=fun c a b=>by have:∀c,c<58->48<=c->c∈known:=∎;exact this c ∅ a
theorem Q2:∀c,(65<=c/\c<=90)\/(97<=c/\c<=122)->c∈known:=fun c h=>by have:∀c,c<123->(65<=c/\c<=90)\/(97<=c/\c<=122)->c∈known:=∎;exact this c ∅ h
theorem SM(u:UInt8):(decide (48<=kc u)&&decide (kc u<=57))=isDigit u:=by
 unfold isDigit kc;by_cases h:u.toNat∈known;·rw[zc h]
 ·rw[zb h];have:¬(48<=u.toNat/\u.toNat<=57):=fun q=>h (KA _ q.1 q.2);by_cases q1:48<=u.toNat;·have:¬u.toNat<=57:=fun a=>this ⟨q1,a⟩;simp[this]
  ·simp[q1]
theorem SK{u:UInt8}(h:isDigit u=true):kc u=u.toNat:=by unfold isDigit at h;rw[zp,zq,zq]at h;exact(Hv (KA _ h.1 h.2)).mpr rfl
theorem Xu:∀c:Nat,c<128->Unicode.isDigit c=(decide (48<=c)&&decide (c<=57)):=∎
structure Tx(x:Str)(b:Bytes):Prop where
 cs:x.cps.toList=b.map kc
 le:b.length<=30000
theorem Tx.len{b:Bytes}(t:Tx x b):x.length=b.length:=by have:=zT List.length t.cs;rw[z3]at this;rw[<-this];simp[Str.length]
theorem Tx.line{b:Bytes}(t:Tx x b):x.length<=sizeLine:=by rw[t.len];have:=t.le;have e:(30000:Nat)<=sizeLine:=⋯;lia
theorem ZA{b:Bytes}(t:Tx x b)(p:Nat):(sg x p).cps.toList=((b.drop p).take 1).map kc:=by
 show((x.cps.toList.drop (HT.CS x.length 0 (some (p:Int)))).take (HT.CS x.length x.length (some ((p:Int)+1))-HT.CS x.length 0 (some (p:Int))))=_;rw[show((p:Int)+1)=((p+1:Nat):Int) by lia,HT.Fo,HT.Fo,t.len,t.cs,<-vK,<-vJ];congr 1;by_cases h:p<b.length;·rw[xf ∅,xf ∅];congr 1;lia
 ·rw[rY ∅,rY ∅,yN (ze _),yN ∅];simp
theorem Iu{b:Bytes}(t:Tx x b)(h:b[p]?=none):sg x p=Str.empty:=by apply TL.cG;show(sg x p).cps.toList=_;rw[ZA t,yN (y9.mp h)];rfl
theorem Ds{b:Bytes}(t:Tx x b){u:UInt8}(h:b[p]?=some u):sg x p=⟨#[kc u]⟩:=by apply TL.cG;show(sg x p).cps.toList=_;obtain⟨a,e⟩:=z8.mp h;rw[ZA t,yf a,e];rfl
theorem HJ{b:Bytes}(t:Tx x b)(p:Nat):Txt.isdigit (sg x p)=match b[p]? with|some u=>isDigit u|none=>false:=by cases h:b[p]? with|none=>rw[Iu t h];rfl|some u=>cbv;rw[Ds t h,<-SM,<-Xu _ (bT u)];unfold Txt.isdigit;simp[Str.length]
theorem Yo:∀d:Nat,d<10->PySem.intText? ⟨#[48+d]⟩=some (d:Int):=∎
theorem EX{b:Bytes}:(⟨b.drop p,p⟩:Cur).next=b[p]?:=by show(b.drop p).head?=_;rw[tI]
theorem Qs{b:Bytes}:(⟨b.drop p,p⟩:Cur).on=⟨b.drop (p+1),p+1⟩:=by unfold Cur.on;simp
theorem Dq{b a d:Nat}(h:begins b a d=true):d<=a:=by unfold begins at h;rw[xq]at h;obtain⟨k,Y,q⟩:=h;rw[zp,zq,zq]at q;have:d*1<=d*10^k:=wy _ (tE ⋯);lia
structure Js(b:Bytes)(lo hi p n r q:Nat):Prop where
 eq:numberFrom lo hi (6-r) n ⟨b.drop q,q⟩=number lo hi ⟨b.drop p,p⟩
 le:n<=hi
 r5:r<=5
 nY:10^r<=10*n\/r=0
theorem Js.start(b:Bytes)(a c p:Nat):Js b a c p 0 0 p:=⟨rfl,zx _,⋯,.inr rfl⟩
theorem Js.turn{b:Bytes}{c a r q:Nat}{u:UInt8}(N:Js b c a p n r q)(l:a<=60000)(i:b[q]?=some u)(j:isDigit u=true)(k:0<10*n+(u.toNat-48))(f:begins c a (10*n+(u.toNat-48))=true):Js b c a p (10*n+(u.toNat-48)) (r+1) (q+1):=by
 have h:=Dq f;have d:10^r<=10*n+(u.toNat-48):=by
  rcases N.nY with z|z;·lia
  ·rw[z];simp;lia
 have g:r+1<=5:=by
  have:=N.r5;by_cases q5:r=5;·rw[q5]at d;have:(10:Nat)^5=100000:=⋯;lia
  ·lia
 refine⟨?_,h,g,.inl (by rw[uc];lia)⟩;have e:=N.eq;rw[show 6-r=(6-(r+1))+1 by lia]at e;rw[<-e,numberFrom,EX,i];cbv;rw[zc ⟨j,k,f⟩,Qs]
theorem Js.stop{b:Bytes}{a c r q:Nat}(N:Js b a c p n r q)(h:∀u,b[q]?=some u->¬(isDigit u=true/\0<10*n+(u.toNat-48)/\begins a c (10*n+(u.toNat-48))=true)):number a c ⟨b.drop p,p⟩=if a<=n then .ok (n,⟨b.drop q,q⟩)else .error q:=by
 have e:=N.eq;have:=N.r5;rw[show 6-r=(5-r)+1 by lia]at e;rw[<-e,numberFrom,EX];have fin:(if a<=n/\n<=c then(Except.ok (n,(⟨b.drop q,q⟩:Cur)):Except Nat (Nat×Cur))else .error q)=if a<=n then .ok (n,⟨b.drop q,q⟩)else .error q:=by
  by_cases z:a<=n;·rw[zc ⟨z,N.le⟩,zc z]
  ·rw[zb (fun y=>z y.1),zb z]
 cases d:b[q]? with|none=>exact fin|some u=>cbv;rw[zb (h u d)];exact fin
theorem BJ{c:Bool}{A B:Prop}(e:c=true)(h:A):if c=true then A else B:=by rw[zc e];exact h
theorem B9{c:Bool}{A B:Prop}(e:c=false)(h:B):if c=true then A else B:=by rw[zb (by rw[e];decide)];exact h
theorem SX:bootBuiltins "int"=some (.type "int"):=∎
def FO(a CA:Addr)(p:Nat)(H:Hp)(E:XK):Prop:=∀H' b,H' b=some (.xd [("place",.int p)])->DA a H H'->E (.ref CA) (some b) H'
theorem FO.ast{c:Hp}{E:XK}(h:FO a CA p H E)(k:DA a H c):gO CA p c E:=fun H' i e d=>h H' i e fun b o g f=>d b o (k b o g f)
inductive G7(C CA:Addr):_|mk(a:Addr)(x:Str)(b:Bytes)(p lo hi:Nat):vs=[.ref a,.int lo,.int hi]->Cy C H a x p->Tx x b->1<=lo->hi<=60000->(match number lo hi ⟨b.drop p,p⟩with| .ok (n,c)=>∀H',Cy C H' a x c.at_->c.rest=b.drop c.at_->DA a H H'->Q (.int n) H'| .error e=>FO a CA e H E)->G7 C CA vs H Q E
theorem Wo:Ah ["self","least","greatest","number","longer"] ["self","least","greatest"] (Ad Mx):={}
theorem UW{X W P:Addr}{w:FuncData}(F:En K "take_number" "Reader.take_number" Mx f fd)(R:VM K mg C CA X fdA W fdH)(FB:En K "begins_number" "begins_number" L0 P w)(bB:Bn K w ["digits","least","greatest"] [])(mB:mg "begins_number"=some (.ref P))(mI:mg "int"=none):dH 3 f fd ["self","least","greatest"] (G7 C CA):=by
 have GA:Xa 1 X fdA ["self","place"] (C4 K):=EW R.fa R.m4;have GH:Vx 1 W fdH ["self"] (G9 C):=IP R.fh R.t;have GB:Vx 1 P w ["digits","least","greatest"] Mm:=X_ FB;refine F.Jw Wo fun H Q E T h hx=>?_;obtain⟨a,x,b,p,g,s,rfl,⟨dx,ha⟩,D,h1,U,k⟩:=h;have v:AW 1 _:=T.mono ⋯;exists%[An (i:=3) Wo.nd Ae,CV Bt (BU (Sj vF vD HS (ET (pv 0) R.t.cl R.mh GH v R.bh .nil Ar))) (%[An (i:=4) Wo.nd (AA Cf (AA Ec Ae (pv 3)) (JI QV (by rfl) mI SX (#v[ET (pv 0) R.t.cl R.mh GH v R.bh .nil Ar]))),AM (FW (BU (Qp GB v rfl mB FB.kp bB .nil Ar (#v[pv 4,pv 1,pv 2])))) (Ag Sg) Au,An (i:=3) Wo.nd (pv 4) |DR (pv 0) Ae JX]),AM (Ao FC (pv 3) (pv 1)) (Ag (EO R.dE GA T.h rfl R.fL R.ba rfl hx (#v[Al (pv 0)]))) Au|Aj (pv 3)];have fin:∀(H':Hp)(n q:Nat)(l:Option V),Cy C H' a x q->DA a H H'->number g s ⟨b.drop p,p⟩=(if g<=n then .ok (n,⟨b.drop q,q⟩)else .error q)->LU (Zs (Ou (Ry (W6 fun i j=>V.bl (decide (i<j))) (Bj 3) (Bj 1))) (HH CA (C4 K) E (Be (U1 K (Bj 0) "place") Ca)) VW) (PV (Bj 3)) {nx:=fun Y H'=>Q .B0 H',rt:=Q} [some (.ref a),some (.int g),some (.int s),some (.int n),l] H':=by
  rintro H' n q l ⟨c,d⟩ t e;rw[e]at k;exists _,rfl,_,rfl,_,_,rfl,rfl,_,rfl;by_cases hl:g<=n;·rw[zc hl]at k;rw[zo ∅];refine Vj ⟨_,rfl,?_⟩;exact k H' ⟨c,d⟩ rfl t
  ·rw[zb hl]at k;rw[zj ∅];exact Ym ⟨_,rfl,a,C,c,_,_,rfl,d,R.t.cl,R.t.nP,Bq x q,Ju,Fg R.dE R.at_ (k.ast t)⟩
 exists fun m S H'=>E4 fun(n r q:Nat) (l:Option V)=>A5 (S=[some (.ref a),some (.int g),some (.int s),some (.int n),l]) (Cy C H' a x q) (DA a H H') (Js b g s p n r q) (m=6-r),⟨_,0,0,p,none,rfl,⟨dx,ha⟩,fun Y Y e Y=>e,.start b g s p,rfl⟩;rintro m S H' ⟨n,r,q,l,rfl,⟨c,d⟩,t,N,rfl⟩;exists _,rfl,a,c,_,rfl,d,C5 _ _,a,x,q,rfl,⟨c,d⟩,D.line,⟨_,rfl⟩,_,rfl,rfl,we,_,rfl;rw[HJ D];cases A:b[q]? with
 |none=>refine Vj (fin H' n q l ⟨c,d⟩ t (N.stop fun u e=>by rw[A]at e;cases e))
 |some u=>
  cbv;by_cases hd:isDigit u=true
  ·refine BJ hd ⟨fun B y=>E2 fun(L:Nat) (l:Option V)=>A4 (B=[some (.ref a),some (.int g),some (.int s),some (.int L),l]) (Cy C y a x (q+1)) (DA a H y) (Js b g s p L (r+1) (q+1)),?_,?_⟩;·rintro B y ⟨L,M,rfl,rd,O,Z⟩;have:=Z.r5;exact⟨_,∅,L,r+1,q+1,M,rfl,rd,O,Z,rfl⟩
   ·have a0:48<=u.toNat/\u.toNat<=57:=by unfold isDigit at hd;rw[zp,zq,zq]at hd;exact hd
    have I:PySem.intText? (sg x q)=some ((u.toNat-48:Nat):Int):=by rw[Ds D A,SK hd,show u.toNat=48+(u.toNat-48) by lia];have:=Yo (u.toNat-48) ∅;rw[this];congr 1;lia
    have G:(sg x q).length<=640:=by rw[Ds D A];show 1<=640;decide
    exists _,rfl,_,_,rfl,rfl,.inl ⟨⋯,⋯⟩,_,rfl,a,c,_,rfl,d,C5 _ _,a,x,q,rfl,⟨c,d⟩,D.line,_,_,rfl,I,G,_,_,rfl,rfl;have en:(10:Int)*(n:Int)+((u.toNat-48:Nat):Int)=((10*n+(u.toNat-48):Nat):Int):=∅;cbv;rw[en];exists _,rfl,_,rfl,_,rfl,10*n+(u.toNat-48),g,s,rfl,U,_,rfl;by_cases hb:(decide (0<10*n+(u.toNat-48))&&begins g s (10*n+(u.toNat-48)))=true
    ·refine B9 (show(!_)=false by rw[hb];rfl) ?_;rw[zp,zq]at hb;refine⟨_,rfl,_,rfl,a,C,c,_,_,rfl,d,R.t.cl,R.t.nP,Bq x q,q,1,rfl,rfl,c,_,d,(by show 2<1000;decide),_,_,rfl,?_,?_,N.turn U A hd hb.1 hb.2⟩;·exact⟨c,by rw[show By "place" (V.int ((q:Int)+1)) (rf x q)=rf x (q+1)from UK x q (q+1)];exact Aa⟩
     ·exact fun b' o eb J=>by rw[Ac J];exact t b' o eb J
    ·rw[y4]at hb;refine BJ (show(!_)=true by rw[hb];rfl) (fin H' n q _ ⟨c,d⟩ t (N.stop fun u' e=>?_));rw[A]at e;cases e;rintro⟨Y,z1,z2⟩;rw[zj z1,z2]at hb;cases hb
  ·rw[y4]at hd;refine B9 hd (fin H' n q l ⟨c,d⟩ t (N.stop fun u' e=>?_));rw[A]at e;cases e;rintro⟨z,Y⟩;rw[hd]at z;cases z
theorem Gc{X:Cx}:YY X "str.startswith" (fun x xs H Q=>∃a b i,x= .str a/\xs=[.str b,.int i]/\Q (.bl (Txt.startswith3 a b i)) H):=by intro d s j H x xs v k Q I e c h;obtain⟨a,b,i,rfl,rfl,h⟩:=h;obtain⟨t,rfl⟩:=e;cases c with|cons g c=>cases c with|cons f c=>cases c;obtain⟨u,rfl⟩:=g;obtain⟨l,rfl⟩:=f;exact SC.startswith3 ⟨.bl _,H,I,rfl,h⟩
structure Wd(y:Str)(wb:Bytes):Prop where
 cs:y.cps.toList=wb.map UInt8.toNat
 kn:∀u∈wb,u.toNat∈known
theorem Wd.len{y:Str}{a:Bytes}(h:Wd y a):y.length=a.length:=by have:=zT List.length h.cs;rw[z3]at this;rw[<-this];simp[Str.length]
theorem RE:∀(a l:Bytes)(_:∀u∈a,u.toNat∈known),((l.map kc).take a.length=a.map UInt8.toNat)↔shl a l=a.length
|[],l,_=>by simp[shl]
|x::a,[],_=>by simp[shl]
|x::a,y::l,b=>by
 have c:=RE a l fun u d=>b u (zg _ d);rw[zH,zm,xE,zH,List.cons.injEq,c,show shl (x::a) (y::l)=if x=y then shl a l+1 else 0 from rfl];by_cases e:x=y;·subst e;rw[zc rfl];have:kc x=x.toNat:=(Hv (b x zh)).mpr rfl;simp[this]
 ·rw[zb e];constructor;·rintro⟨q,Y⟩;have:=(Hv (b x zh)).mp q;exact absurd (xT.mp this).symm e
  ·intro q;lia
theorem Ow{y:Str}{b a:Bytes}(t:Tx x b)(h:Wd y a)(c:a≠[])(p:Nat):Txt.startswith3 x y (p:Int)=decide (shl a (b.drop p)=a.length):=by
 have d:TL.tl y≠[]:=by show y.cps.toList≠[];rw[h.cs];simpa using c
 have g:fromIndex x.length (p:Int)=p:=by unfold fromIndex;rw[zb ∅];lia
 have f:Txt.startswith3 x y (p:Int)=true↔TL.pre (TL.tl y) ((TL.tl x).drop p)=true:=by rw[<-TL.kL d];unfold Txt.startswith3;rw[g,zp,zq];exact rQ
 have e:TL.pre (TL.tl y) ((TL.tl x).drop p)=true↔shl a (b.drop p)=a.length:=by rw[<-RE a (b.drop p) h.kn];unfold TL.pre;show((x.cps.toList.drop p).take y.cps.toList.length==y.cps.toList)=true↔_;rw[zP,t.cs,h.cs,z3,vK]
 rw[zZ,f,e,zq]
theorem Wn:∀(a l:Bytes)(j:Nat),j<=a.length->(shl (a.take j) l=j↔j<=shl a l)
|a,l,0,_=>by simp[shl]
|[],l,j+1,h=>by simp at h
|x::a,[],j+1,h=>by simp[shl]
|x::a,y::l,j+1,h=>by
 rw[xE,show shl (x::a.take j) (y::l)=if x=y then shl (a.take j) l+1 else 0 from rfl,show shl (x::a) (y::l)=if x=y then shl a l+1 else 0 from rfl];by_cases e:x=y;·rw[zc e,zc e];have:=Wn a l j ‹h›;lia
 ·rw[zb e,zb e];lia
theorem Wd.cut{y:Str}{a:Bytes}(h:Wd y a)(j:Nat):Wd (DO y none (some ((j:Int)+1))) (a.take (j+1)):=by refine⟨?_,fun u b=>h.kn u (wc b)⟩;show((y.cps.toList.drop (HT.CS y.length 0 none)).take (HT.CS y.length y.length (some ((j:Int)+1))-HT.CS y.length 0 none))=_;rw[show((j:Int)+1)=((j+1:Nat):Int) by lia,HT.Fo,HT.IB,xK,uR,h.cs,<-vJ,h.len];congr 1;rw[List.take_eq_take_iff];lia
inductive Mb(C:Addr):_|mk(a:Addr)(x y:Str)(b wb:Bytes)(p:Nat):vs=[.ref a,.str y]->Cy C H a x p->Tx x b->Wd y wb->wb.length<=1000->Q (.int (shl wb (b.drop p):Nat)) H->Mb C vs H Q E
theorem jj:Ah ["self","word","length"] ["self","word"] (Ad Iz):={}
theorem XY(F:En K "shared_length" "Reader.shared_length" Iz f fd)(T:dw K C)(t:mg "len"=none):Vx 1 f fd ["self","word"] (Mb C):=by
 refine F.ok jj fun H Q E v h=>?_;obtain⟨a,x,y,b,c,p,rfl,⟨r,q⟩,s,l,w,k⟩:=h;have o:y.length<=sizeLine:=by rw[l.len];have:(1000:Nat)<=sizeLine:=⋯;lia
 exists%[An (i:=2) jj.nd Ae,CV y0 (Cm (Ao FC (pv 2) (AO DP t y8 (#v[pv 1]))) (BL (BU (B5 yc tN tM Gc (Al (pv 0)) (#v[D3 HI (pv 1) II (CY (AA Cf (pv 2) Ae)),Al (pv 0)]))))).pt (Ag (Qm (i:=2) jj.nd Ae Vl)) |Aj (pv 2)];exists fun m n H'=>H'=H/\∃j:Nat,n=[some (.ref a),some (.str y),some (.int j)]/\j<=shl c (b.drop p)/\m=c.length-j,⟨_,rfl,0,rfl,zx _,rfl⟩;rintro m n H' ⟨rfl,j,rfl,A,rfl⟩;have u:=U5 c (b.drop p);exists _,rfl,_,rfl,y,rfl,o,_,_,rfl,rfl,_,rfl;rw[l.len];by_cases h1:j<c.length
 ·refine BJ (zj ∅) ⟨_,rfl,a,C,r,_,_,rfl,q,T.cl,T.nT,IE x p,rfl,_,rfl,_,rfl,_,_,rfl,rfl,_,rfl,y,rfl,o,_,rfl,a,C,r,_,_,rfl,q,T.cl,T.nP,Bq x p,x,_,p,rfl,rfl,_,rfl,?_⟩;have e:Txt.startswith3 x (DO y none (some ((j:Int)+1))) (p:Int)=decide (j+1<=shl c (b.drop p)):=by rw[Ow s (l.cut j) (by intro z;have:=zT List.length z;rw[zO,yQ]at this;lia),zO,xf ∅];have:=Wn c (b.drop p) (j+1) ∅;rw[zZ,zq,zq];exact this
  by_cases h2:j+1<=shl c (b.drop p)
  ·refine BJ (e.trans (zj h2)) ⟨fun d g=>g=H'/\d=[some (.ref a),some (.str y),some (.int ((j+1:Nat):Int))],?_,?_⟩;·rintro d g ⟨rfl,rfl⟩;exact⟨_,∅,rfl,j+1,rfl,h2,rfl⟩
   ·exact⟨_,rfl,_,_,rfl,rfl,rfl,rfl⟩
  ·refine B9 (e.trans (zo h2)) ⟨_,rfl,?_⟩;have:shl c (b.drop p)=j:=∅;rw[this]at k;exact k
 ·refine B9 (zo ∅) (B9 rfl ⟨_,rfl,?_⟩);have:shl c (b.drop p)=j:=∅;rw[this]at k;exact k
def E8(l a:Bytes):Bool:=decide (shl a l=a.length)
inductive EI(K:Frag)(C CA:Addr):_|mk(a g:Addr)(x:Str)(ys:List Str)(b:Bytes)(ws:List Bytes)(p:Nat):vs=[.ref a,.ref g]->Cy C H a x p->Tx x b->Em K H g (ys.map V.str)->a≠g->Paired Wd ys ws->(∀wb∈ws,wb≠[]/\wb.length<=1000)->ws≠[]->ws.length<=1000->(match ws.findIdx? (E8 (b.drop p))with|some i=>∀H',Cy C H' a x (p+(ws.getD i []).length)->DA a H H'->Q (.int i) H'|none=>gO CA (p+most (ws.map fun wb=>shl wb (b.drop p))) H E)->EI K C CA vs H Q E
theorem Gw:bootBuiltins "max"=some (.builtin "max"):=∎
theorem LW(e:Ap H H')(h:Em K H a xs):Em K H' a xs:=by
 rcases h with(h|⟨o,h⟩) |h;·exact .inl (.inl (e _ _ h))
 ·exact .inl (.inr ⟨o,e _ _ h⟩)
 ·exact .inr h
theorem AB{c d:Type}{R:c->d->Prop}:∀{h:List c}{g:List d},Paired R h g->∀{i:Nat}{a:c},h[i]?=some a->∃b,g[i]?=some b/\R a b|_,_,.cons r f,0,a,e=>by cases e;exact⟨_,rfl,r⟩ |_,_,.cons r f,i+1,a,e=>AB f (i:=i) ‹e›
theorem fI{l:List Nat}{m:Nat}(h:m∈l)(e:∀z∈l,z<=m):most l=m:=by
 have d:∀{l:List Nat}{m:Nat},m∈l->m<=most l:=by
  intro l;induction l with
  |nil=>intro m q;cases q
  |cons x l a=>
   intro m q;rw[Dk];rcases zw.mp q with rfl|q;·lia
   ·have:=a q;lia
 have c:∀{l:List Nat}{m:Nat},(∀z∈l,z<=m)->most l<=m:=by intro l;induction l with|nil=>intro m Y;exact zx _|cons x l a=>intro m q;rw[Dk];have:=a (m:=m) fun z b=>q z (zg _ b);have:=q x zh;lia
 exact qf (c e) (d h)
theorem ZI:Ah ["self","words","number","word"] ["self","words"] (Ad ID):={}
theorem mZ:Jt ["self","words","number","word"] (Ad ID) {kind:= .function,names:=[(".0",.local),("word",.local),("self",.free)],isGenerator:=false,isCoroutine:=false} [("word",3)]:=Jo ∎
theorem OZ{fA fH fS:Addr}{N:FuncData}(F:En K "choose" "Reader.choose" ID f fd)(R:VM K mg C CA fA fdA fH fdH)(FS:En K "shared_length" "Reader.shared_length" Iz fS N)(bS:Bn K N ["self","word"] [])(mS:N8 K C "shared_length" fS)(mE:mg "enumerate"=none)(mM:mg "max"=none):dH 3 f fd ["self","words"] (EI K C CA):=by
 have GA:Xa 1 fA fdA ["self","place"] (C4 K):=EW R.fa R.m4;have GS:Vx 1 fS N ["self","word"] (Mb C):=XY FS R.t R.ln;refine F.Jw ZI fun H Q E hr h hx=>?_;obtain⟨a,g,x,O,b,r,p,rfl,⟨A,ha⟩,tx,hg,a5,hw,hl,a1,a4,k⟩:=h;have a0:AW 1 _:=hr.mono ⋯;exists%[BC Bt rfl (aK (by rfl) mE (#v[pv 1])) (Dj rfl (AS (Aw (i:=2) ZI.nd) (AS (Aw (i:=3) ZI.nd) Cq))) (Ag (AM (BU (B5 yc tN tM Gc (Al (pv 0)) (#v[pv 3,Al (pv 0)]))) (%[DR (pv 0) (AO DP R.ln y8 (#v[pv 3])) JX|Aj (pv 2)]) Au)) |EO R.dE GA hr.h rfl R.fL R.ba rfl hx (#v[AA Cf (Al (pv 0)) (AO (VC rfl) mM Gw (#v[Ga (own:=[("word",3)]) rfl ZI.nd (Qn (pv 1)) mZ (fun Y Y Y Y Y=>Aw (i:=3) ZI.nd) (fun Y Y Y Y Y=>Ci) (fun Y Y Y Y Y=>IK (pv 0) R.t.cl mS GS a0 bS .nil Ar (#v[pv 3]))]))])];have W:O.length=r.length:=zE hw;have w:∀{i:Nat}{y:Str},O[i]?=some y->∃c,r[i]?=some c/\Wd y c:=fun{i y} e=>AB hw e;refine⟨_,rfl,g,_,rfl,hg,Y7 (xs:=O.map V.str) (fun i σ H'=>E2 fun v2 v3=>A3 (σ=[some (.ref a),some (.ref g),v2,v3]) (Ap H H') (∀j c,j<i->r[j]?=some c->E8 (b.drop p) c=false)) ⟨none,none,rfl,.refl H,fun j c P Y=>absurd P (xc _)⟩ (fun i σ H' Y ⟨_,_,_,u,_⟩=>LW u hg) ?_ ?_⟩
 ·rintro i v σ H' T Z ⟨v2,v3,rfl,u,P⟩ hT;obtain⟨y,hy,rfl⟩:∃y,O[i]?=some y/\v= .str y:=by rw[z7,zy]at Z;obtain⟨y,e,rfl⟩:=Z;exact⟨y,e,rfl⟩
  obtain⟨c,n,U⟩:=w hy;obtain⟨hn,X⟩:=hl c (zf n);have G:Ap H (Av H' T (.tup [.int (i:Nat),.str y])):=fun S o e=>by rw[Ac (Ab (u S o e) hT)];exact u S o e
  have q:=G a _ ha;have lw:y.length<=sizeLine:=by rw[U.len];have:(1000:Nat)<=sizeLine:=⋯;lia
  exists T,_,rfl,.of Aa,rfl,_,_,rfl,_,_,rfl,rfl,_,rfl,a,C,A,_,_,rfl,q,R.t.cl,R.t.nT,IE x p,rfl,_,rfl,_,rfl,a,C,A,_,_,rfl,q,R.t.cl,R.t.nP,Bq x p,x,y,p,rfl,rfl,_,rfl;have e:=Ow tx U hn p;by_cases hf:shl c (b.drop p)=c.length
  ·refine BJ (e.trans (zj hf)) ?_;have M:r.findIdx? (E8 (b.drop p))=some i:=by rw[yL];obtain⟨t,L⟩:=z8.mp n;refine⟨t,by rw[L];exact zj hf,fun j J=>?_⟩;have:=P j (r[j]'(ue J t)) J (z4 _);rw[this];decide
   rw[M]at k;have a3:r.getD i []=c:=by rw[z5,n];rfl
   replace k:∀(H':Hp),Cy C H' a x (p+(r.getD i []).length)->DA a H H'->Q (V.int i) H':=k;rw[a3]at k;refine⟨_,rfl,a,C,A,_,_,rfl,q,R.t.cl,R.t.nP,Bq x p,_,rfl,y,rfl,lw,p,y.length,rfl,rfl,A,_,q,(by show 2<1000;decide),_,rfl,k _ ⟨A,?_⟩ fun S o eb hb=>by rw[Ac hb];exact G S o eb⟩;rw[Aa,U.len,show(p:Int)+((c.length:Nat):Int)=((p+c.length:Nat):Int) by lia,UK]
  ·refine B9 (e.trans (zo hf)) ⟨_,_,rfl,G,fun j B J s=>?_⟩;by_cases hjj:j=i;·subst hjj;rw[n]at s;cases s;exact zo hf
   ·exact P j B ∅ s
 ·rintro σ H' ⟨v2,v3,rfl,u,P⟩;have M:r.findIdx? (E8 (b.drop p))=none:=by rw[wx];intro c hm;obtain⟨j,t,L⟩:=w_.mp hm;exact P j c (by rw[z3,W];exact t) (z8.mpr ⟨t,L⟩)
  rw[M]at k;replace k:gO CA (p+most (r.map fun c=>shl c (b.drop p))) H E:=k;have q:=u a _ ha;refine⟨_,rfl,a,C,A,_,_,rfl,q,R.t.cl,R.t.nP,Bq x p,_,rfl,g,rfl,⟨_,LW u hg⟩,fun D hD=>?_⟩;refine bO (xs:=O.map V.str) (fun i H2=>Ap H' H2/\H2 D=some (.lst ((r.take i).map fun c=>V.int (shl c (b.drop p):Nat)))) ⟨Af hD,Aa⟩ (fun i H2 Y ⟨I,_⟩=>LW (u.trans I) hg) ?_ ?_
  ·rintro i v H2 Z ⟨I,h2⟩;obtain⟨y,hy,rfl⟩:∃y,O[i]?=some y/\v= .str y:=by rw[z7,zy]at Z;obtain⟨y,e,rfl⟩:=Z;exact⟨y,e,rfl⟩
   obtain⟨c,n,U⟩:=w hy;obtain⟨hn,X⟩:=hl c (zf n);refine⟨rfl,?_⟩;unfold HG;cbv;rw[zc rfl];exists _,rfl,a,A,_,rfl,I a _ q,C5 _ _,_,rfl,a,x,y,b,c,p,rfl,⟨A,I a _ q⟩,tx,U,X,_,h2,?_,?_;·rw[z3,zO];have:(1000:Nat)<sizeLine:=⋯;lia
   ·intro S o e;rw[Ac (Ab e hD)];exact I S o e
   ·rw[Aa,yi,n,zu];rfl
  ·rintro H2 ⟨I,h2⟩;rw[z3,W,y1]at h2;refine⟨D,r.map fun c=>((shl c (b.drop p):Nat):Int),rfl,.of (by rw[h2,zG];rfl),?_,fun m hm a2=>?_⟩;·rw[z3];exact xF.mpr a1
   ·have em:m=((most (r.map fun c=>shl c (b.drop p)):Nat):Int):=by obtain⟨c,n,rfl⟩:=zk.mp hm;congr 1;refine(fI (l:=r.map fun c=>shl c (b.drop p)) (zk.mpr ⟨c,n,rfl⟩) fun z hz=>?_).symm;obtain⟨B,s,rfl⟩:=zk.mp hz;have:=a2 _ (zk.mpr ⟨B,s,rfl⟩);exact Int.ofNat_le.mp this
    subst em;exact⟨_,_,rfl,rfl,Ju,Fg (p:=p+most (r.map fun c=>shl c (b.drop p))) R.dE R.at_ fun H3 d e3 s3=>k H3 d e3 (u.trans (I.trans s3))⟩
def nD(C CA a:Addr)(x:Str)(b:Bytes)(H:Hp)(E:XK)(r:Except Nat Cur)(Q:Hp->Prop):Prop:=match r with| .ok c=>∀H',Cy C H' a x c.at_->c.rest=b.drop c.at_->DA a H H'->Q H'| .error e=>FO a CA e H E
inductive J8(C CA:Addr):_|mk(a:Addr)(x y:Str)(b wb:Bytes)(p:Nat):vs=[.ref a,.str y]->Cy C H a x p->Tx x b->Wd y wb->wb≠[]->wb.length<=1000->nD C CA a x b H E (lit wb ⟨b.drop p,p⟩) (Q .B0)->J8 C CA vs H Q E
inductive Fl(C CA:Addr):_|mk(a:Addr)(x:Str)(b:Bytes)(p:Nat):vs=[.ref a,.int 16]->Cy C H a x p->Tx x b->nD C CA a x b H E ((nameIn ⟨b.drop p,p⟩).map (·.2)) (Q .B0)->Fl C CA vs H Q E
theorem Pl(u:UInt8):((decide (65<=kc u)&&decide (kc u<=90)) ||(decide (97<=kc u)&&decide (kc u<=122)))=isLetter u:=by
 unfold isLetter kc;by_cases h:u.toNat∈known;·rw[zc h]
 ·rw[zb h];have:¬((65<=u.toNat/\u.toNat<=90)\/(97<=u.toNat/\u.toNat<=122)):=fun q=>h (Q2 _ q);symm;rw[show((decide (65<=63)&&decide (63<=90)) ||(decide (97<=63)&&decide (63<=122)))=false by decide,vC];intro q;simp only[yt,zp,zJ]at q;exact this q
theorem Xv:∀c:Nat,c<128->Unicode.isAlpha c=((decide (65<=c)&&decide (c<=90)) ||(decide (97<=c)&&decide (c<=122))):=∎
theorem Xw:∀c:Nat,c<128->Unicode.isAlnum c=(((decide (65<=c)&&decide (c<=90)) ||(decide (97<=c)&&decide (c<=122))) ||(decide (48<=c)&&decide (c<=57))):=∎
def Fh(u:UInt8):Bool:=isLetter u||isDigit u
theorem U6{b:Bytes}(t:Tx x b)(p:Nat):Txt.isalpha (sg x p)=match b[p]? with|some u=>isLetter u|none=>false:=by cases h:b[p]? with|none=>rw[Iu t h];rfl|some u=>cbv;rw[Ds t h,<-Pl,<-Xv _ (bT u)];unfold Txt.isalpha;simp[Str.length]
theorem U7{b:Bytes}(t:Tx x b)(p:Nat):Txt.isalnum (sg x p)=match b[p]? with|some u=>Fh u|none=>false:=by cases h:b[p]? with|none=>rw[Iu t h];rfl|some u=>cbv;unfold Fh;rw[Ds t h,<-Pl,<-SM,<-Xw _ (bT u)];unfold Txt.isalnum;simp[Str.length]
structure iB(K:Frag)(mg:Str->Option Value)(C fS:Addr)(fdS:FuncData)(fC:Addr)(fdC:FuncData):Prop where
 fs:En K "shared_length" "Reader.shared_length" Iz fS fdS
 bs:Bn K fdS ["self","word"] []
 ms:N8 K C "shared_length" fS
 en:mg "enumerate"=none
 mx:mg "max"=none
 fc:En K "choose" "Reader.choose" ID fC fdC
 bc:Bn K fdC ["self","words"] []
 mc:N8 K C "choose" fC
theorem ji:Ah ["self","word"] ["self","word"] (Ad ZP):={}
theorem fv{V U T w:Addr}{t l:FuncData}(F:En K "take" "Reader.take" ZP f fd)(R:VM K mg C CA V fdA U fdH)(i:iB K mg C T t w l):dH 4 f fd ["self","word"] (J8 C CA):=by
 have X:dH 3 w l ["self","words"] (EI K C CA):=OZ i.fc R i.fs i.bs i.ms i.en i.mx;refine F.Jw ji fun H Q E O h N=>?_;obtain⟨a,x,y,b,c,p,rfl,⟨A,s⟩,I,D,P,S,k⟩:=h;exists Ag (A2 (IK (pv 0) R.t.cl i.mc X O i.bc .nil N.passes (#v[B3 (#v[pv 1])])));refine⟨_,rfl,a,A,_,rfl,s,C5 _ _,_,rfl,Ju,fun g r=>?_⟩;have j:a≠g:=Ab s r;exists a,g,x,[y],b,[c],p,rfl,⟨A,by rw[Ac j];exact s⟩,I,.of Aa,j,.cons D .nil,fun G n=>by rw[zB.mp n];exact⟨P,S⟩,by simp,(by show 1<=1000;decide);have M:∀{B:Hp},DA a (Av H g (.tup [.str y])) B->DA a H B:=fun q u o e v=>q u o (by rw[Ac (Ab e r)];exact e) v;rw[JS]at k;by_cases hf:shl c (b.drop p)=c.length
 ·rw[zc hf]at k;have:[c].findIdx? (E8 (b.drop p))=some 0:=by rw[wF,show E8 (b.drop p) c=true from zj hf];rfl
  rw[this];intro H' L m;exact k H' L (by show(b.drop p).drop c.length=_;rw[xr]) (M m)
 ·rw[zb hf]at k;have:[c].findIdx? (E8 (b.drop p))=none:=by rw[wF,show E8 (b.drop p) c=false from zo hf];rfl
  rw[this];have e:p+most ([c].map fun c=>shl c (b.drop p))=p+shl c (b.drop p):=by rw[zH,wk,Dk];show p+max _ 0=_;rw[Nat.max_zero]
  show gO CA (p+most ([c].map fun c=>shl c (b.drop p))) _ E;rw[e];exact fun H' d W J=>k H' d W fun u o z v=>J u o (by rw[Ac (Ab z r)];exact z)
theorem ZG:Ah ["self","longest","begin"] ["self","longest"] (Ad JB):={}
theorem So{I G:Addr}(F:En K "take_name" "Reader.take_name" JB f fd)(R:VM K mg C CA I fdA G fdH):dH 3 f fd ["self","longest"] (Fl C CA):=by
 have U:Xa 1 I fdA ["self","place"] (C4 K):=EW R.fa R.m4;have L:Vx 1 G fdH ["self"] (G9 C):=IP R.fh R.t;refine F.Jw ZG fun H Q E A h N=>?_;obtain⟨a,x,b,p,rfl,⟨s,r⟩,t,k⟩:=h;have q:AW 1 _:=A.mono ⋯;exists%[An (i:=2) ZG.nd (Al (pv 0)),AM (FW (BU (Sj PySem.F.slot_str_isalpha PySem.F.type_str_isalpha Vc (ET (pv 0) R.t.cl R.mh L q R.bh .nil Ar)))) (Ag (EO R.dE U A.h rfl R.fL R.ba rfl N (#v[Al (pv 0)]))) Au|CV Bt (Cm (Ao FC (AA Eb (Al (pv 0)) (pv 2)) (pv 1)) (BL (BU (Sj PySem.F.slot_str_isalnum PySem.F.type_str_isalnum Vd (ET (pv 0) R.t.cl R.mh L q R.bh .nil Ar))))).pt (Ag (DR (pv 0) Ae JX))];exists _,rfl,a,C,s,_,_,rfl,r,R.t.cl,R.t.nP,Bq x p,_,rfl,a,s,_,rfl,r,C5 _ _,a,x,p,rfl,⟨s,r⟩,t.line,⟨_,rfl⟩,_,rfl,rfl,we,_,rfl;rw[U6 t];have d:FO a CA p H E->HH CA (C4 K) E (Be (U1 K (Bj 0) "place") Ca) {nx:=fun Y H'=>Q .B0 H',rt:=Q} [some (.ref a),some (.int 16),some (.int p)] H:=fun k=>⟨_,rfl,a,C,s,_,_,rfl,r,R.t.cl,R.t.nP,Bq x p,Ju,Fg R.dE R.at_ (k.ast fun Y Y e Y=>e)⟩;unfold nameIn at k;rw[EX]at k;cases z:b[p]? with
 |none=>rw[z]at k;exact BJ rfl (d k)
 |some u=>
  rw[z]at k;dsimp only at k|-;by_cases hlt:isLetter u=true
  ·rw[zc hlt]at k;refine B9 (by rw[hlt];rfl) ?_;replace k:∀H',Cy C H' a x (some_ Fh 16 ⟨b.drop p,p⟩).2.at_->(some_ Fh 16 ⟨b.drop p,p⟩).2.rest=b.drop (some_ Fh 16 ⟨b.drop p,p⟩).2.at_->DA a H H'->Q .B0 H':=k;exists fun m w H'=>w=[some (.ref a),some (.int 16),some (.int p)]/\m<=16/\Cy C H' a x (p+(16-m))/\DA a H H'/\(some_ Fh 16 ⟨b.drop p,p⟩).2=(some_ Fh m ⟨b.drop (p+(16-m)),p+(16-m)⟩).2,⟨16,rfl,ze _,⟨s,by rw[uS,uf];exact r⟩,fun Y Y e Y=>e,by rw[uS,uf]⟩;rintro m w H' ⟨rfl,V,⟨c,g⟩,y,e⟩;exists _,rfl,a,C,c,_,_,rfl,g,R.t.cl,R.t.nP,Bq x _,_,rfl,_,_,rfl,rfl,_,rfl,_,_,rfl,rfl,_,rfl;have j:(some_ Fh 16 ⟨b.drop p,p⟩).2=⟨b.drop (p+(16-m)),p+(16-m)⟩->Q .B0 H':=fun S=>by rw[S]at k;exact k H' ⟨c,g⟩ rfl y
   cases m with
   |zero=>exact B9 (zo ∅) (B9 rfl (j (by rw[e];rfl)))
   |succ m=>
    refine BJ (zj ∅) ⟨_,rfl,a,c,_,rfl,g,C5 _ _,a,x,_,rfl,⟨c,g⟩,t.line,⟨_,rfl⟩,_,rfl,rfl,we,_,rfl,?_⟩;rw[U7 t];have P:some_ Fh (m+1) ⟨b.drop (p+(16-(m+1))),p+(16-(m+1))⟩=match b[p+(16-(m+1))]? with|some u=>if Fh u=true then(u::(some_ Fh m ⟨b.drop (p+(16-(m+1))+1),p+(16-(m+1))+1⟩).1,(some_ Fh m ⟨b.drop (p+(16-(m+1))+1),p+(16-(m+1))+1⟩).2)else([],⟨b.drop (p+(16-(m+1))),p+(16-(m+1))⟩) |none=>([],⟨b.drop (p+(16-(m+1))),p+(16-(m+1))⟩):=by rw[some_,EX,Qs];cases b[p+(16-(m+1))]?<;>rfl
    rw[P]at e;cases B:b[p+(16-(m+1))]? with
    |none=>rw[B]at e;exact B9 rfl (j e)
    |some u=>
     rw[B]at e;dsimp only at e|-;by_cases ha2:Fh u=true
     ·rw[zc ha2]at e;have J:p+(16-(m+1))+1=p+(16-m):=∅;refine BJ ha2 ⟨fun n l=>n=[some (.ref a),some (.int 16),some (.int p)]/\Cy C l a x (p+(16-m))/\DA a H l,?_,?_⟩;·rintro n l ⟨rfl,M,v⟩;exact⟨m,yV m,rfl,∅,M,v,by rw[e,J]⟩
      ·refine⟨_,rfl,a,C,c,_,_,rfl,g,R.t.cl,R.t.nP,Bq x _,_,1,rfl,rfl,c,_,g,(by show 2<1000;decide),rfl,⟨c,?_⟩,fun T o O D=>by rw[Ac D];exact y T o O D⟩;rw[Aa,<-J];congr 2
     ·rw[y4]at ha2;rw[zb (by rw[ha2];decide)]at e;exact B9 ha2 (j e)
  ·rw[zb hlt]at k;rw[y4]at hlt;exact BJ (by rw[hlt];rfl) (d k)
def codes(b:Bytes):List V:=b.map fun u=>V.int (u.toNat:Nat)
inductive LX(K:Frag):_|mk(c:Addr)(b:Bytes):vs=[.ref c]->AJ K H c (codes b)->b.length<=30000->(∀H' x,Ap H H'->Tx x b->Q (.str x) H')->LX K vs H Q E
theorem Pn:∀b:Bytes,TL.EY [] (b.map (TL.tl∘fun u=>(⟨#[kc u]⟩:Str)))=b.map kc|[]=>rfl|[u]=>rfl|u::v::b=>by have a:=Pn (v::b);rw[zH]at a|-;rw[zH,zH (l:=v::b)];show[kc u]++([]++TL.EY [] _)=_;rw[zH]at a;rw[a];rfl
theorem Mt:Ah ["codes","signs","sign","code"] ["codes"] (Ad Iy):={}
theorem gC:Jt ["codes","signs","sign","code"] (Ad Iy) {kind:= .function,names:=[(".0",.local),("code",.local),("UNKNOWN",.globalImplicit),("signs",.free)],isGenerator:=false,isCoroutine:=false} [("code",3)]:=Jo ∎
theorem KC:bootBuiltins "ord"=some (.builtin "ord"):=∎
theorem XU{l G:Str}{T S:Tok}(F:En K "text_of" "text_of" Iy f fd)(hk:mg "KNOWN"=some (.str l T))(y:l.cps.toList=known)(hu:mg "UNKNOWN"=some (.str G S))(M:G=⟨#[63]⟩)(Z:mg "ord"=none):Vx 1 f fd ["codes"] (LX K):=by
 refine F.ok Mt fun H Q E hr h=>?_;rename_i P A _ s _;obtain⟨c,b,rfl,O,W,k⟩:=h;have w:(A.deeper (envOfC "text_of" (Ad Iy) s.heap.objs.size f P)).units+1<cLine:=by have:=hr.un;lia
 exists%[An (i:=1) Mt.nd Sk,BC y0 rfl (UR (AD (v:= .str l) rfl hk ⟨T,rfl⟩)) (Aw (i:=2) Mt.nd) (Ag (CW w (pv 1) (AO Ub Z KC (#v[pv 2])) (pv 2) rfl)) |Aj (B5 yc xw xt GO Ai (#v[Ga (own:=[("code",3)]) rfl Mt.nd (BM (pv 0)) gC (fun Y Y Y Y Y=>Aw (i:=3) Mt.nd) (fun Y Y Y Y Y=>Ci) (fun Y Y Y Y Y=>aU w (pv 1) (pv 3) (AD (v:= .str G) rfl hu ⟨S,rfl⟩) ⟨rfl,rfl,rfl,rfl⟩)]))];intro d U;refine⟨l,rfl,WZ (fun i J H'=>E2 fun L a=>A5 (J=[some (.ref c),some (.ref d),L,none]) (Ap H H') (H' d=some (.dK a)) (a.length<=i) (∀n:Nat,Bb a (.inl (n:Int))=if n∈known.take i then some (.str ⟨#[n]⟩)else none)) ⟨none,[],rfl,Af U,Aa,ze _,fun n=>by simp[Bb]⟩ ?_ ?_⟩
 ·rintro i p J H' B ⟨L,a,rfl,t,g,hl,I⟩;have z:known[i]?=some p:=by rw[<-y];simpa using B
  refine⟨_,rfl,_,rfl,_,rfl,_,rfl,rfl,d,_,rfl,.k (k:= .inl (p:Int)) g ?_,_,_,rfl,?_,Aa,?_,fun n=>?_⟩;·have h1:=(z8.mp z).1;have m:known.length=67:=∎;have:(67:Nat)<=sizeLine:=⋯;lia
  ·intro R o e;rw[Ac];·exact t R o e
   ·exact Ab e U
  ·have:=Gk a (.inl (p:Int)) (.str ⟨#[p]⟩);lia
  ·rw[Rq,I,yi,z];by_cases e:n=p;·subst e;simp
   ·have:¬(Sum.inl (n:Int):Key)= .inl (p:Int):=fun q=>by injection q with q;lia
    rw[zb this];simp[e]
 ·rintro J H' ⟨L,a,rfl,t,g,hl,I⟩;have C:known.take l.cps.size=known:=by
   have:l.cps.size=known.length:=by rw[<-y];simp
   rw[this,y1]
  rw[C]at I;refine⟨rfl,_,rfl,c,rfl,⟨_,t.seq O⟩,fun D X=>?_⟩;refine Dc (xs:=codes b) (fun i r=>Ap H' r/\r D=some (.lst ((b.take i).map fun u=>V.str ⟨#[kc u]⟩))) ⟨Af X,Aa⟩ (fun i r Y ⟨j,_⟩=>(t.trans j).seq O) ?_ ?_
  ·rintro i v r B ⟨j,m⟩;obtain⟨u,N,rfl⟩:∃u,b[i]?=some u/\v= .int (u.toNat:Nat):=by unfold codes at B;rw[z7,zy]at B;obtain⟨u,e,rfl⟩:=B;exact⟨u,e,rfl⟩
   refine⟨rfl,?_⟩;unfold HG;cbv;rw[zc rfl];exists _,rfl,d,rfl,.inl ⟨_,.inl (j d _ g)⟩,_,rfl,_,.k (k:= .inl (u.toNat:Int)) (j d _ g),_,m,?_,?_;·rw[z3,zO];have:(30000:Nat)<sizeLine:=⋯;lia
   ·intro R o e;rw[Ac (Ab e X)];exact j R o e
   ·rw[Aa,yi,N,zu,I];have:(if u.toNat∈known then some (V.str ⟨#[u.toNat]⟩)else none).getD (.str G)=V.str ⟨#[kc u]⟩:=by
     unfold kc;by_cases h:u.toNat∈known;·rw[zc h,zc h];rfl
     ·rw[zb h,zb h,M];rfl
    rw[this];rfl
  ·rintro r ⟨j,m⟩;have x:(codes b).length=b.length:=by unfold codes;rw[z3]
   rw[x,y1]at m;refine⟨_,D,b.map fun u=>(⟨#[kc u]⟩:Str),rfl,rfl,.inl (.of (by rw[m,zG];rfl)),?_,k r _ (t.trans j) ⟨?_,W⟩⟩
   ·rw[zG,z3];have e1:(b.map (Str.length∘fun u=>(⟨#[kc u]⟩:Str))).sum=b.length:=by clear W m x O k;induction b with|nil=>rfl|cons u b ih=>rw[zH,vI,ih,zm];show 1+_=_;lia
    rw[e1];show b.length+b.length*0<=_;lia
   ·rw[TL.join_eq];show TL.tl (Str.join _ _)=_;rw[TL.Es,zG];exact Pn b
theorem Qg:Ah ["text","sign"] ["text"] (Ad IC):={}
theorem cZ:Jt ["text","sign"] (Ad IC) {kind:= .function,names:=[(".0",.local),("sign",.local),("ord",.globalImplicit)],isGenerator:=false,isCoroutine:=false} [("sign",1)]:=Jo ∎
inductive J9:_|mk(x:Str):vs=[.str x]->x.cps.size<=30000->(∀H' l,Ap H H'->H l=none->H' l=some (.lst (x.cps.toList.map fun c=>V.int (c:Nat)))->Q (.ref l) H')->J9 vs H Q E
theorem UY(F:En K "codes_of" "codes_of" IC f fd)(j:mg "ord"=none):Vx 1 f fd ["text"] J9:=by
 refine F.ok Qg fun H Q E n h=>?_;obtain⟨x,rfl,p,k⟩:=h;exists Ag (Aj (Ga (own:=[("sign",1)]) rfl Qg.nd (UR (pv 0)) cZ (fun Y Y Y Y Y=>Aw (i:=1) Qg.nd) (fun Y Y Y Y Y=>Ci) (fun Y Y Y Y Y=>AO Ub j KC (#v[pv 1]))));refine⟨_,rfl,x,rfl,fun D d=>jM (fun i a=>Ap H a/\a D=some (.lst ((x.cps.toList.take i).map fun c=>V.int (c:Nat)))) ⟨Af d,Aa⟩ ?_ ?_⟩
 ·rintro i c a l ⟨b,g⟩;refine⟨rfl,?_⟩;unfold HG;cbv;rw[zc rfl];exists _,rfl,_,rfl,rfl,_,g,?_,?_;·rw[z3,zO];have:(30000:Nat)<sizeLine:=⋯;simp only[xi];lia
  ·intro m o e;rw[Ac (Ab e d)];exact b m o e
  ·rw[Aa,yi,show x.cps.toList[i]?=some c by simpa using l,zu];rfl
 ·rintro a ⟨b,g⟩;refine k a D b d ?_;rw[g];congr 3;rw[show x.cps.size=x.cps.toList.length by simp,y1]
def Bp(a:List Nat)(u:UInt8):Option UInt8:=if u.toNat∈a then some u else none
inductive Fm(K:Frag)(C CA:Addr):_|mk(a g:Addr)(x:Str)(b:Bytes)(p w h:Nat)(cs:List Nat):vs=[.ref a,.ref g,.int w,.int h]->Cy C H a x p->Tx x b->Em K H g (cs.map fun c=>V.str ⟨#[c]⟩)->a≠g->(∀c∈cs,c∈known)->1<=w->w<=13->h<=13->(match flat (Bp cs) w (w*h) 0 ⟨b.drop p,p⟩with| .ok (us,c)=>∀H' y,Cy C H' a x c.at_->c.rest=b.drop c.at_->DA a H H'->y.cps.toList=us.map UInt8.toNat->Q (.str y) H'| .error e=>FO a CA e H E)->Fm K C CA vs H Q E
theorem Na:∀b:Bytes,TL.EY [] (b.map (TL.tl∘fun u=>(⟨#[u.toNat]⟩:Str)))=b.map UInt8.toNat|[]=>rfl|[u]=>rfl|u::v::b=>by have a:=Na (v::b);rw[zH]at a|-;rw[zH,zH (l:=v::b)];show[u.toNat]++([]++TL.EY [] _)=_;rw[zH]at a;rw[a];rfl
theorem dZ{g:Addr}(e:DA a H H')(n:g≠a)(h:Em K H g xs):Em K H' g xs:=by
 rcases h with(h|⟨o,h⟩) |h;·exact .inl (.inl (e _ _ h n))
 ·exact .inl (.inr ⟨o,e _ _ h n⟩)
 ·exact .inr h
structure RM(C CA fO:Addr)(fdO:FuncData)(fT:Addr)(fdT:FuncData):Prop where
 cl:Rl K C
 one:dH 3 fO fdO ["self","signs"] (DQ K C CA)
 bo:Bn K fdO ["self","signs"] []
 mo:N8 K C "take_one_of" fO
 take:dH 4 fT fdT ["self","word"] (J8 C CA)
 bt:Bn K fdT ["self","word"] []
 mt:N8 K C "take" fT
theorem UB:Ah ["reader","signs","wide","high","found","count"] ["reader","signs","wide","high"] (Ad JD):={}
theorem lz:Wd "\n" [10]:=⟨∎,∎⟩
theorem Sq{fO fT:Addr}{b2 b1:FuncData}(F:En K "read_rows" "read_rows" JD f fd)(M:RM C CA fO b2 fT b1)(mr:mg "range"=none):dH 5 f fd ["reader","signs","wide","high"] (Fm K C CA):=by
 refine F.Jw UB fun H Q E hr h hx=>?_;obtain⟨a,g,x,b,p,W,T,m,rfl,⟨dx,ha⟩,R,hg,a9,L,b3,a6,hh,k⟩:=h;have Z:AW 3 _:=hr.mono ⋯;exists%[An (i:=4) UB.nd (AF Ce),BC Bt rfl (ES (by rfl) mr (#v[AA Ec (pv 2) (pv 3)])) (Aw (i:=5) UB.nd) (%[A2 (B5 zK zW zY Bz (pv 4) (#v[IK (pv 0) M.cl M.mo M.one Z M.bo .nil hx.passes (#v[pv 1])])) |AM (Ao AZ (AA MH (pv 5) (pv 2)) (AA Eb (pv 2) Ae)) (Ag (A2 (IK (pv 0) M.cl M.mt M.take hr M.bt .nil hx.passes (#v[Ai])))) Au]) |Aj (B5 yc xw xt GO Ai (#v[pv 4]))];refine⟨zx _,fun l hl=>?_⟩;have t:a≠l:=Ab ha hl;have b4:W*T<=169:=uw a6 hh;exists _,rfl,_,rfl,_,_,rfl,rfl,.inl ⟨∅,∅⟩,_,rfl,?_,?_;·have:(0:Int)<=(W:Int)*(T:Int):=Int.mul_nonneg ∅ ∅;lia
 ·have:(W:Int)*(T:Int)=((W*T:Nat):Int):=by rw[tK]
  rw[this];lia
 have eN:((W:Int)*(T:Int)).toNat=W*T:=by
  have:(W:Int)*(T:Int)=((W*T:Nat):Int):=by rw[tK]
  rw[this];rfl
 rw[eN];refine GY (fun i σ H'=>E3 fun(v5:Option V) (j:Bytes) (c:Cur)=>A7 (σ=[some (.ref a),some (.ref g),some (.int W),some (.int T),some (.ref l),v5]) (Cy C H' a x c.at_) (c.rest=b.drop c.at_) (DA a H H') (H' l=some (.lst (j.map fun u=>V.str ⟨#[u.toNat]⟩))) (j.length=i) (flat (Bp m) W (W*T) 0 ⟨b.drop p,p⟩=(flat (Bp m) W (W*T-i) i c).map fun r=>(j++r.1,r.2))) ⟨none,[],⟨b.drop p,p⟩,rfl,⟨dx,by rw[Ac t];exact ha⟩,rfl,fun B o e Y=>by rw[Ac (Ab e hl)];exact e,Aa,rfl,?_⟩ ?_ ?_;·rw[uR];cases flat (Bp m) W (W*T) 0 ⟨b.drop p,p⟩<;>rfl
 ·rintro i σ H' hi ⟨v5,j,c,rfl,⟨a2,a1⟩,I,O,w,hn,e⟩;have a8:Em K H' g (m.map fun c=>V.str ⟨#[c]⟩):=dZ O (zN a9) hg;obtain⟨S,q⟩:=c;replace I:S=b.drop q:=I;subst I;have a4:W*T-i=(W*T-(i+1))+1:=∅;rw[a4,flat,EX,Qs]at e;refine⟨_,rfl,.inl ⟨rfl,_,AJ.of w⟩,_,rfl,a,a2,_,rfl,a1,C5 _ _,_,rfl,a,g,x,q,m.map fun c=>(⟨#[c]⟩:Str),rfl,⟨a2,a1⟩,R.line,by rw[zG];exact a8,?_⟩;have n:sg x q∈(m.map fun c=>(⟨#[c]⟩:Str))↔∃u,b[q]?=some u/\u.toNat∈m:=by
   cases v:b[q]? with
   |none=>
    rw[Iu R v];constructor;·intro z;obtain⟨c,Y,z⟩:=zk.mp z;have:=zT (fun s:Str=>s.cps.size) z;cases this
    ·rintro⟨u,z,Y⟩;cases z
   |some u=>
    rw[Ds R v];constructor
    ·intro z;obtain⟨c,I,z⟩:=zk.mp z;have z2:c=kc u:=by have:=zT (fun s:Str=>s.cps.toList) z;simpa using this
     exists u,rfl;rw[(Hv (L c I)).mp z2.symm];exact I
    ·rintro⟨u',z,G⟩;cases z;exact zk.mpr ⟨u.toNat,G,by rw[(Hv (L _ G)).mpr rfl]⟩
  cases v:b[q]? with
  |none=>rw[zb (fun z=>by obtain⟨u,z,Y⟩:=n.mp z;rw[v]at z;cases z)];rw[v]at e;replace e:flat (Bp m) W (W*T) 0 ⟨b.drop p,p⟩= .error q:=e;rw[e]at k;exact FO.ast k O
  |some u=>
   rw[v]at e;by_cases G:u.toNat∈m
   ·rw[zc (n.mpr ⟨u,v,G⟩)];rintro H2 ⟨A,b0⟩ X;have a5:sg x q=⟨#[u.toNat]⟩:=by rw[Ds R v,(Hv (L _ G)).mpr rfl]
    have a7:=X _ _ w (zN t);have es:(some u).bind (Bp m)=some u:=by show Bp m u=_;unfold Bp;rw[zc G]
    rw[es]at e;dsimp only at e;have a0:j.length<sizeLine:=by have:(169:Nat)<sizeLine:=⋯;lia
    rw[a5];refine⟨l,_,_,rfl,rfl,a7,by rw[z3];exact a0,?_⟩;have N:(Av H2 l (.lst (j.map (fun u=>V.str ⟨#[u.toNat]⟩)++[.str ⟨#[u.toNat]⟩]))) a=some (.ins C A (rf x (q+1))):=by rw[Ac t];exact b0
    have J:DA a H (Av H2 l (.lst (j.map (fun u=>V.str ⟨#[u.toNat]⟩)++[.str ⟨#[u.toNat]⟩]))):=fun B o P D=>by rw[Ac (Ab P hl)];exact X B o (O B o P D) D
    have e5:j.map (fun u=>V.str ⟨#[u.toNat]⟩)++[.str ⟨#[u.toNat]⟩]=(j++[u]).map fun u=>V.str ⟨#[u.toNat]⟩:=by rw[zu];rfl
    exists _,rfl,_,rfl,_,_,rfl,rfl,∅,_,rfl,_,_,rfl,rfl,rfl,_,rfl;have ei:(0:Int)+(i:Int)=(i:Int):=∅;have em:(i:Int)%(W:Int)=((i%W:Nat):Int):=by first|exact(tq i W).symm|exact(Int.ofNat_emod i W).symm|exact(Int.natCast_mod i W).symm
    by_cases hlast:i%W=W-1
    ·rw[zc hlast,JS]at e;refine BJ (zj ?_) ?_;·rw[ei];rw[em];congr 1;lia
     ·exists _,rfl,a,A,_,rfl,N,C5 _ _,a,x,_,b,[10],q+1,rfl,⟨A,N⟩,R,lz,by simp,(by show 1<=1000;decide);rw[JS];by_cases hf:shl [10] (b.drop (q+1))=[(10:UInt8)].length
      ·rw[zc hf];rw[show(LF:UInt8)=10 from rfl,zc hf]at e;intro H3 a3 Z U;refine⟨_,j++[u],⟨b.drop (q+1+1),q+1+1⟩,rfl,a3,rfl,fun B o P D=>U B o (J B o P D) D,?_,by rw[zd,hn];rfl,?_⟩;·rw[<-e5];exact U l _ Aa (zN t)
       ·rw[e];show Except.map _ (Except.map _ (flat (Bp m) W (W*T-(i+1)) (i+1) ⟨(b.drop (q+1)).drop 1,q+1+1⟩))=_;rw[xr];cases flat (Bp m) W (W*T-(i+1)) (i+1) ⟨b.drop (q+1+1),q+1+1⟩with|error z=>rfl|ok r=>show Except.ok (j++u::r.1,r.2)=Except.ok (j++[u]++r.1,r.2);rw[zX];rfl
      ·rw[zb hf];rw[show(LF:UInt8)=10 from rfl,zb hf]at e;replace e:flat (Bp m) W (W*T) 0 ⟨b.drop p,p⟩= .error (q+1+shl [10] (b.drop (q+1))):=e;rw[e]at k;exact fun H3 d e3 k3=>k H3 d e3 fun B o P D=>k3 B o (J B o P D) D
    ·rw[zb hlast]at e;refine B9 (zo ?_) ?_;·rw[ei];rw[em];intro z;injection z with z;lia
     ·refine⟨_,j++[u],⟨b.drop (q+1),q+1⟩,rfl,⟨A,N⟩,rfl,J,by rw[<-e5];exact Aa,by rw[zd,hn];rfl,?_⟩;rw[e];cbv;cases flat (Bp m) W (W*T-(i+1)) (i+1) ⟨b.drop (q+1),q+1⟩with|error z=>rfl|ok r=>show Except.ok (j++u::r.1,r.2)=Except.ok (j++[u]++r.1,r.2);rw[zX];rfl
   ·rw[zb (fun z=>by obtain⟨u',z,z2⟩:=n.mp z;rw[v]at z;cases z;exact G z2)];have es:(some u).bind (Bp m)=none:=by show Bp m u=_;unfold Bp;rw[zb G]
    rw[es]at e;replace e:flat (Bp m) W (W*T) 0 ⟨b.drop p,p⟩= .error q:=e;rw[e]at k;exact FO.ast k O
 ·rintro σ H' ⟨v5,j,c,rfl,rd,I,O,w,hn,e⟩;rw[uS,flat]at e;rw[e]at k;replace k:∀H' y,Cy C H' a x c.at_->c.rest=b.drop c.at_->DA a H H'->y.cps.toList=(j++[]).map UInt8.toNat->Q (.str y) H':=k;refine⟨rfl,_,rfl,_,l,j.map fun u=>(⟨#[u.toNat]⟩:Str),rfl,rfl,.inl (.of (by rw[w,zG];rfl)),?_,k H' _ rd I O ?_⟩
  ·rw[zG,z3];have e1:∀j:Bytes,(j.map (Str.length∘fun u=>(⟨#[u.toNat]⟩:Str))).sum=j.length:=by intro j;induction j with|nil=>rfl|cons u b ih=>rw[zH,vI,ih,zm];show 1+_=_;lia
   rw[e1];show j.length+j.length*0<=_;lia
  ·rw[TL.join_eq];show TL.tl (Str.join _ _)=_;rw[TL.Es,zG,zR];exact Na j
inductive Mf:_|mk(x y w h:Nat):vs=[.int x,.int y,.int w,.int h]->(∀H',Ap H H'->Q (.bl (decide (x=0\/x+1=w\/y=0\/y+1=h))) H')->Mf vs H Q E
inductive Ir:_|mk(o w h:Nat):vs=[.int o,.int w,.int h]->0<w->w<=13->o/w<h->Q (.int (13*(h-1-o/w)+o%w:Nat)) H->Ir vs H Q E
theorem Xe(x w:Nat):(if false=true then !NC (V.int x) [V.int 0,V.int ((w:Int)-1)]else NC (V.int x) [V.int 0,V.int ((w:Int)-1)])=decide (x=0\/x+1=w):=by rw[zb ⋯];show((0:Int)==(x:Int) ||((((w:Int)-1)==(x:Int)) ||false))=_;rw[zZ];simp only[wC,yt,zP,zJ];lia
theorem jr:Ah ["x","y","wide","high"] ["x","y","wide","high"] (Ad Qi):={}
theorem XZ(F:En K "on_edge" "on_edge" Qi f fd):Vx 1 f fd ["x","y","wide","high"] Mf:=by
 refine F.ok jr fun H Q E m h=>?_;obtain⟨x,y,W,T,rfl,k⟩:=h;exists Ag (Aj (OU (Bo EV (pv 0) (B3 (#v[Ae,AA Eb (pv 2) Ae])) #v[]) (EE (Bo EV (pv 1) (B3 (#v[Ae,AA Eb (pv 3) Ae])) #v[]))));refine⟨_,rfl,_,rfl,_,_,rfl,rfl,K2,fun g j=>⟨g,_,rfl,.inr (.of Aa),rfl,rfl,_,rfl,?_⟩⟩;have i:(if false=true then !NC (V.int x) [V.int 0,V.int ((W:Int)-1)]else NC (V.int x) [V.int 0,V.int ((W:Int)-1)])=decide (x=0\/x+1=W):=Xe x W;have c:Ap H (Av H g (.tup [V.int 0,V.int ((W:Int)-1)])):=Af j;by_cases hx:x=0\/x+1=W;·refine BJ (i.trans (zj hx)) ?_;have:=k _ c;rw[zj (show x=0\/x+1=W\/y=0\/y+1=T by lia)]at this;exact this
 ·refine B9 (i.trans (zo hx)) ⟨_,rfl,_,rfl,_,_,rfl,rfl,K2,fun d a=>⟨d,_,rfl,.inr (.of Aa),rfl,rfl,?_⟩⟩;have l:(if false=true then !NC (V.int y) [V.int 0,V.int ((T:Int)-1)]else NC (V.int y) [V.int 0,V.int ((T:Int)-1)])=decide (y=0\/y+1=T):=Xe y T;show Q (.bl (if false=true then !NC (V.int y) [V.int 0,V.int ((T:Int)-1)]else NC (V.int y) [V.int 0,V.int ((T:Int)-1)])) _;rw[l];have:=k _ (c.trans (fun b o e=>by rw[Ac (Ab e a)];exact e:Ap _ (Av (Av H g (.tup [V.int 0,V.int ((W:Int)-1)])) d (.tup [V.int 0,V.int ((T:Int)-1)]))));rw[y3.mpr (show(x=0\/x+1=W\/y=0\/y+1=T)↔(y=0\/y+1=T) by lia)]at this;exact this
theorem ZJ:Ah ["order","wide","high"] ["order","wide","high"] (Ad Lz):={}
theorem O_{t:Tok}(F:En K "cell_in_order" "cell_in_order" Lz f fd)(b:mg "STRIDE"=some (.int 13 t)):Vx 1 f fd ["order","wide","high"] Ir:=by
 refine F.ok ZJ fun H Q E g h=>?_;obtain⟨o,W,T,rfl,e,a,i,k⟩:=h;exists Ag (Aj (AA Cf (AA Ec (AD (v:= .int 13) rfl b ⟨t,rfl⟩) (AA Eb (AA Eb (pv 2) Ae) (AA IM (pv 0) (pv 1)))) (AA MH (pv 0) (pv 1))));have d:(o:Int)/(W:Int)=((o/W:Nat):Int):=by first|exact(tz o W).symm|exact(Int.ofNat_ediv o W).symm
 have c:(o:Int)%(W:Int)=((o%W:Nat):Int):=by first|exact(tq o W).symm|exact(Int.ofNat_emod o W).symm
 exists _,rfl,_,_,rfl,rfl,_,rfl,_,rfl,_,_,rfl,rfl,?_,_,_,rfl,rfl,_,_,rfl,rfl,.inl ⟨⋯,⋯⟩,_,rfl,_,rfl,_,_,rfl,rfl,∅,_,_,rfl,rfl;·exact⟨∅,∅⟩
 ·cbv;rw[d,c];have:(13*((T:Int)-1-((o/W:Nat):Int))+((o%W:Nat):Int))=((13*(T-1-o/W)+o%W:Nat):Int):=∅;rw[this];exact k
def A1(a:List Nat)(w h o i:Nat):List Nat:=(List.range 169).map fun c=>if c%13<w/\c/13<h/\(h-1-c/13)*w+c%13<i then a.getD ((h-1-c/13)*w+c%13) o else o
inductive Ma:_|mk(y:Str)(w h o:Nat):vs=[.str y,.int w,.int h,.str ⟨#[o]⟩]->y.cps.size=w*h->1<=w->w<=13->1<=h->h<=13->(∀H' z,Ap H H'->z.cps.toList=A1 y.cps.toList w h o (w*h)->Q (.str z) H')->Ma vs H Q E
theorem Ku(a:List Nat)(w h o:Nat):A1 a w h o 0=List.replicate 169 o:=by unfold A1;rw[sL];refine⟨by simp,fun z b=>?_⟩;obtain⟨c,Y,rfl⟩:=zk.mp b;rw[zb ∅]
theorem HR{w h:Nat}(p:1<=w)(l:w<=13)(n:i<w*h):(c%13<w/\c/13<h/\(h-1-c/13)*w+c%13=i)↔c=13*(h-1-i/w)+i%w:=by
 have o:i/w<h:=(yw ∅).mpr (by rw[yh];exact n);have g:i%w<w:=wV _ ∅;have a:w*(i/w)+i%w=i:=tH i w;constructor
 ·rintro⟨k,q,j⟩;clear a;have f:i/w=h-1-c/13:=by rw[<-j,yh,uj ∅,v_ k,uf]
  have b:i%w=c%13:=by rw[<-j,yh,ui,xn k]
  rw[f,b];lia
 ·generalize i/w=d at o a|-;generalize i%w=m at g a|-;intro e;have f:c/13=h-1-d:=∅;have b:c%13=m:=∅;rw[f,b];exists g,∅;have:h-1-(h-1-d)=d:=∅;rw[this,yh];exact a
theorem Kv{a:List Nat}{w h o v:Nat}(m:1<=w)(f:w<=13)(r:i<w*h)(n:a[i]?=some v):(A1 a w h o i).set (13*(h-1-i/w)+i%w) v=A1 a w h o (i+1):=by
 apply xJ;·simp[A1]
 ·intro c t s;have l:∀j(p:c<(A1 a w h o j).length),(A1 a w h o j)[c]=if c%13<w/\c/13<h/\(h-1-c/13)*w+c%13<j then a.getD ((h-1-c/13)*w+c%13) o else o:=fun j p=>by simp only[A1,xp,vg]
  rw[tf,l,l];have k:=HR (c:=c) m f r;by_cases e:13*(h-1-i/w)+i%w=c;·rw[zc e];obtain⟨d,b,g⟩:=k.mpr e.symm;rw[zc ⟨d,b,∅⟩,g,z5,n];rfl
  ·rw[zb e];by_cases q:c%13<w/\c/13<h/\(h-1-c/13)*w+c%13<i;·rw[zc q,zc ⟨q.1,q.2.1,∅⟩]
   ·rw[zb q,zb];rintro⟨d,b,g⟩;by_cases q4:(h-1-c/13)*w+c%13=i;·exact e (k.mp ⟨d,b,q4⟩).symm
    ·exact q ⟨d,b,∅⟩
theorem GV:∀b:List Nat,TL.EY [] (b.map (TL.tl∘fun u=>(⟨#[u]⟩:Str)))=b|[]=>rfl|[u]=>rfl|u::v::b=>by have a:=GV (v::b);rw[zH]at a|-;rw[zH];show[u]++([]++TL.EY [] _)=_;rw[a];rfl
theorem Ex{j:Nat}(h:j<n):fW n (j:Int)=some j:=by unfold fW;rw[zc ∅,zc ∅];rfl
theorem D0:Ah ["written","wide","high","outside","signs","order","sign"] ["written","wide","high","outside"] (Ad Qh):={}
theorem XX{J:Addr}{j:FuncData}{t L:Tok}(F:En K "spread" "spread" Qh f fd)(S:En K "cell_in_order" "cell_in_order" Lz J j)(bI:Bn K j ["order","wide","high"] [])(X:mg "cell_in_order"=some (.ref J))(hs:mg "STRIDE"=some (.int 13 t))(hC:mg "CELLS"=some (.int 169 L))(en:mg "enumerate"=none):Vx 2 f fd ["written","wide","high","outside"] Ma:=by
 have GI:Vx 1 J j ["order","wide","high"] Ir:=O_ S hs;refine F.ok D0 fun H Q E hr h=>?_;obtain⟨y,W,T,o,rfl,M,hw,m,hh,a0,k⟩:=h;exists%[An (i:=4) D0.nd (AA Qq (AF (#v[pv 3])) (AD (v:= .int 169) rfl hC ⟨L,rfl⟩)),BC y0 rfl (IJ (by rfl) en (#v[pv 0])) (Dj rfl (AS (Aw (i:=5) D0.nd) (AS (Aw (i:=6) D0.nd) Cq))) (Ag (HN (pv 6) (HP (pv 4) (Qp GI hr rfl X S.kp bI .nil Ar (#v[pv 5,pv 1,pv 2])) set_list))) |Aj (B5 yc xw xt GO Ai (#v[pv 4]))];have nL:(169:Nat)<=sizeLine:=⋯;refine⟨_,rfl,Ju,fun G n=>⟨G,_,_,rfl,rfl,Aa,⋯,⋯,(by show 1*169<=sizeLine;decide),fun l N=>?_⟩⟩;have C:Ap H (Av (Av H G (.lst [.str ⟨#[o]⟩])) l (.lst ((A1 y.cps.toList W T o 0).map fun c=>V.str ⟨#[c]⟩))):=fun x s e=>by
  have w:(Av H G (.lst [.str ⟨#[o]⟩])) x=some s:=by rw[Ac (Ab e n)];exact e
  rw[Ac (Ab w N)];exact w
 have eL:(List.replicate (169:Int).toNat [V.str ⟨#[o]⟩]).flatten=(A1 y.cps.toList W T o 0).map fun c=>V.str ⟨#[c]⟩:=by rw[Ku,vf,wM];rfl
 rw[eL];have U:H l=none:=Ap.free (Af n) N;refine⟨_,rfl,y,rfl,GZ (fun i z H'=>E2 fun B A=>A3 (z=[some (.str y),some (.int W),some (.int T),some (.str ⟨#[o]⟩),some (.ref l),B,A]) (Ap H H') (H' l=some (.lst ((A1 y.cps.toList W T o i).map fun c=>V.str ⟨#[c]⟩)))) ⟨none,none,rfl,C,Aa⟩ ?_ ?_⟩
 ·rintro i c z H' D O ⟨B,A,rfl,r,a⟩ R;have p:i<W*T:=by rw[<-M];exact(tS.mp O).1
  have P:i/W<T:=(yw ∅).mpr (by rw[yh];exact p);have I:l≠D:=Ab a R;exists D,_,rfl,.of Aa,rfl,_,_,rfl,_,_,rfl,rfl,_,rfl,_,rfl,_,rfl,_,rfl,_,rfl,i,W,T,rfl,∅,m,P,l,_,_,13*(T-1-i/W)+i%W,rfl,rfl,by rw[Ac I];exact a,?_,_,_,rfl,?_;·have hm:i%W<W:=wV _ ∅;rw[z3,show(A1 y.cps.toList W T o i).length=169 by simp[A1]];exact Ex (by generalize i/W=d at P|-;lia)
  ·intro x s e;rw[Ac (Ab e U),Ac (Ab (r x s e) R)];exact r x s e
  ·rw[Aa,<-Kv hw m p (show y.cps.toList[i]?=some c by simpa using O),wK]
 ·rintro z H' ⟨B,A,rfl,r,a⟩;rw[M]at a;have g:(A1 y.cps.toList W T o (W*T)).length=169:=by simp[A1]
  refine⟨rfl,_,rfl,_,l,(A1 y.cps.toList W T o (W*T)).map fun c=>(⟨#[c]⟩:Str),rfl,rfl,.inl (.of (by rw[a,zG];rfl)),?_,k H' _ r ?_⟩
  ·rw[zG,z3,g];have w:∀q:List Nat,(q.map (Str.length∘fun u=>(⟨#[u]⟩:Str))).sum=q.length:=by intro q;induction q with|nil=>rfl|cons u b Z=>rw[zH,vI,Z,zm];show 1+_=_;lia
   rw[w,g];show 169+169*0<=_;lia
  ·refine(zT TL.tl (TL.join_eq _ _)).trans ?_;rw[TL.Es,zG];exact GV _
section
variable(P:Program)(w:World)(K:Frag)(mg:Str->Option Value)(base:Heap)
inductive dM(CX:Ic)(k:Nat)(x:Str)(ps:List Str)(sp:Sp):Prop|mk(f fd:_):mg x=some (.ref f)->keepIn K (.ref f)=true->Bn K fd ps []->D9 P w K mg base CX k f fd ps sp->dM CX k x ps sp
inductive VP(CX:Ic)(k:Nat)(C:Addr)(x:Str)(ps:List Str)(sp:Sp):Prop|mk(f fd:_):N8 K C x f->Bn K fd ps []->D9 P w K mg base CX k f fd ps sp->VP CX k C x ps sp
inductive YZ(CX:Ic)(k:Nat)(C:Addr)(ps:List Str)(sp:Sp):Prop|mk(f fd:_):Mk K C f->Bn K fd ps []->D9 P w K mg base CX k f fd ps sp->YZ CX k C ps sp
end
section
variable{P:Program}{w:World}{K:Frag}{mg:Str->Option Value}{base:Heap}
theorem Def.has{e:Ic}{k:Nat}{c:Stmt}{a:List Str}{d:Sp}(D:Def K mg x c a)(h:∀{f fd},En K x x c f fd->D9 P w K mg base e k f fd a d):dM P w K mg base e k x a d:=by obtain⟨f,fd,F,b,m⟩:=D;exact⟨f,fd,m,F.kp,b,h F⟩
theorem Met.has{g:Ic}{k:Nat}{a:Str}{d:Stmt}{c:List Str}{e:Sp}(D:Met K C x a d c)(h:∀{f fd},En K x a d f fd->D9 P w K mg base g k f fd c e):VP P w K mg base g k C x c e:=by obtain⟨f,fd,F,b,m⟩:=D;exact⟨f,fd,m,b,h F⟩
theorem gJ.has{g:Ic}{k:Nat}{a:Str}{d:Stmt}{c:List Str}{e:Sp}(D:gJ K C a d c)(h:∀{f fd},En K "__init__" a d f fd->D9 P w K mg base g k f fd c e):YZ P w K mg base g k C c e:=by obtain⟨f,fd,F,b,m⟩:=D;exact⟨f,fd,m,b,h F⟩
end
section
variable{X:Cx}{CX:Ic}{k:Nat}{C:Addr}{ps:List Str}{sp:Sp}{E:XK}{x m:Str}{p pos apos:PySem.Pos}{e o:Expr}{es:List Expr}{ta:TE}{t:TA}
theorem Ay(h:dM X.prog X.w X.K X.mg X.base CX k x ps sp)(i:AW k X.A)(j:Gl X x)(g:Cz CX X E)(n:PA X (e::es) t)(c:(x==("__debug__":Str))=false:=by decide)(l:starEach (e::es) X.env=(false,eval e X.env)::starEach es X.env:=by rfl)(a:(backTo pos (starEach es X.env)).any (·.1)=false:=by rfl):PE X (.Call (.Name x p) (e::es) [] pos) (Kt sp [] E t):=by obtain⟨f,fd,m,d,b,G⟩:=h;exact Qp G i j m d b .nil g n c l a
theorem AH{g:Sem Bool}(h:VP X.prog X.w X.K X.mg X.base CX k C m ps sp)(p:PE X o ta)(c:Rl X.K C)(l:AW k X.A)(i:Cz CX X E)(q:PA X (e::es) t)(a:starEach (e::es) X.env=(false,eval e X.env)::starEach es X.env:=by rfl)(d:(backTo pos (starEach es X.env)).any (·.1)=false:=by rfl)(j:eval (.Call (.Attribute o m apos) (e::es) [] pos) X.env=(do
 let ov<-eval o X.env
 standAt apos.atName
 let(f,first)<-holding [ov] (getMethod ov m g)
 callWith pos f first (backTo pos (starEach (e::es) X.env)) (backToKw pos (keywordEach [] X.env))):=by rfl):PE X (.Call (.Attribute o m apos) (e::es) [] pos) (DF C m sp [] E ta t):=by obtain⟨f,fd,n,b,G⟩:=h;exact IK p c n G l b .nil i q a d j
theorem AU{a:Sem Bool}(h:VP X.prog X.w X.K X.mg X.base CX k C m ps sp)(j:PE X o ta)(c:Rl X.K C)(g:AW k X.A)(d:Cz CX X E)(e:eval (.Call (.Attribute o m apos) [] [] pos) X.env=(do
 let ov<-eval o X.env
 standAt apos.atName
 let(f,first)<-holding [ov] (getMethod ov m a)
 callWith pos f first (backTo pos (starEach [] X.env)) (backToKw pos (keywordEach [] X.env))):=by rfl):PE X (.Call (.Attribute o m apos) [] [] pos) (DF C m sp [] E ta Ca):=by obtain⟨f,fd,i,b,G⟩:=h;exact ET j c i G g b .nil d e
theorem IL(h:YZ X.prog X.w X.K X.mg X.base CX k C ps sp)(g:AW (k+1) X.A)(j:Gl X x)(i:X.mg x=some (.ref C))(d:Cz CX X E)(m:PA X (e::es) t)(c:(x==("__debug__":Str))=false:=by decide)(l:starEach (e::es) X.env=(false,eval e X.env)::starEach es X.env:=by rfl)(a:(backTo pos (starEach es X.env)).any (·.1)=false:=by rfl):PE X (.Call (.Name x p) (e::es) [] pos) (VX C sp [] E t):=by obtain⟨f,fd,M,b,G⟩:=h;exact fi M G g j i b .nil d m c l a
theorem aQ(h:YZ X.prog X.w X.K X.mg X.base CX k C ps sp)(d:AW (k+1) X.A)(g:Gl X x)(e:X.mg x=some (.ref C))(c:Cz CX X E)(a:(x==("__debug__":Str))=false:=by decide):PE X (.Call (.Name x p) [] [] pos) (VX C sp [] E Ca):=by obtain⟨f,fd,M,b,G⟩:=h;exact aM M G d g e b .nil c a
end
section
variable{P:Program}{w:World}{K:Frag}{mg:Str->Option Value}{base:Heap}
theorem dM.mono{d:Ic}{j k:Nat}{c:List Str}{a:Sp}(h:dM P w K mg base d j x c a)(g:j<=k):dM P w K mg base d k x c a:=by obtain⟨f,fd,m,e,b,G⟩:=h;exact⟨f,fd,m,e,b,G.mono g⟩
end
abbrev FK(k:Nat)(x:Str)(b:List Str)(a:Sp):Prop:=dM P w K mg base PQ k x b a
abbrev b_(k:Nat)(C:Addr)(x:Str)(b:List Str)(a:Sp):Prop:=VP P w K mg base PQ k C x b a
abbrev mN(k:Nat)(x:Str)(b:List Str)(a:Sp):Prop:=dM P w K mg base (Y_ true P w) k x b a
abbrev j_(k:Nat)(C:Addr)(x:Str)(b:List Str)(a:Sp):Prop:=VP P w K mg base (Y_ true P w) k C x b a
abbrev pz(k:Nat)(x:Str)(b:List Str)(a:Sp):Prop:=dM P w K mg base (Y_ false P w) k x b a
abbrev Zg(k:Nat)(C:Addr)(x:Str)(b:List Str)(a:Sp):Prop:=VP P w K mg base (Y_ false P w) k C x b a
abbrev nS(k:Nat)(C:Addr)(b:List Str)(a:Sp):Prop:=YZ P w K mg base PQ k C b a
abbrev qX(k:Nat)(C:Addr)(b:List Str)(a:Sp):Prop:=YZ P w K mg base (Y_ true P w) k C b a
theorem Nh(a:AY):FK 1 "on_edge" ["x","y","wide","high"] Mf:=a.YG.has fun F=>XZ F
theorem Nk(a:AY):FK 1 "cell_in_order" ["order","wide","high"] Ir:=a.FE.has fun F=>O_ F (C3 a.Dd)
theorem Vr(a:AY):FK 2 "spread" ["written","wide","high","outside"] Ma:=by obtain⟨f,c,e,d,b⟩:=a.FE;exact a.TJ.has fun F=>XX F e d b (C3 a.Dd) (C3 a.QW) a.BG
theorem Ti(a:AY):FK 1 "codes_of" ["text"] J9:=a.VB.has fun F=>UY F a.hU
inductive qD:Prop|mk(fA fdA fH fdH fS fdS fC fdC:_):VM K mg aR aA fA fdA fH fdH->iB K mg aR fS fdS fC fdC->qD
theorem rr(a:AY):qD:=by obtain⟨s,fdA,o,j,k⟩:=a.ast;obtain⟨q,fdH,m,h,c⟩:=a.Hu;obtain⟨p,e,l,g,b⟩:=a.FJ;obtain⟨r,f,n,i,d⟩:=a.Gf;exact⟨_,_,_,_,_,_,_,_,⟨a.rt,k,a.pD,a.fL,a.Sy,a.D6,o,j,m,h,c⟩,⟨l,g,b,a.BG,a.bC,n,i,d⟩⟩
theorem Y3(a:AY):b_ 1 aR "ahead" ["self"] (G9 aR):=a.Hu.has fun F=>IP F a.rt
theorem KE(a:AY):j_ 3 aR "take_one_of" ["self","signs"] (DQ K aR aA):=by obtain⟨Y,Y,Y,Y,Y,Y,Y,Y,R,b⟩:=rr a;exact a.Hc.has fun F=>UU F R
theorem KG(a:AY):j_ 3 aR "take_end" ["self"] (G8 aR aA):=by obtain⟨Y,Y,Y,Y,Y,Y,Y,Y,R,b⟩:=rr a;exact a.JO.has fun F=>UX F R
theorem Q9(a:AY):j_ 3 aR "take_name" ["self","longest"] (Fl aR aA):=by obtain⟨Y,Y,Y,Y,Y,Y,Y,Y,R,b⟩:=rr a;exact a.IV.has fun F=>So F R
theorem Cn(a:AY):j_ 4 aR "take" ["self","word"] (J8 aR aA):=by obtain⟨Y,Y,Y,Y,Y,Y,Y,Y,R,b⟩:=rr a;exact a.Qx.has fun F=>fv F R b
theorem Nj(b:AY):j_ 3 aR "choose" ["self","words"] (EI K aR aA):=by obtain⟨Y,Y,Y,Y,Y,Y,Y,Y,R,a⟩:=rr b;exact b.Gf.has fun F=>OZ F R a.fs a.bs a.ms a.en a.mx
theorem Vp(a:AY):FK 2 "text_of" ["codes"] (LX K):=by obtain⟨g,i,e,c⟩:=a.known;obtain⟨f,h,d,b⟩:=a.unknown;exact dM.mono (k:=2) (a.YD.has fun F=>XU F e c d b a.hU) ⋯
theorem Ez(a:AY):j_ 3 aR "take_number" ["self","least","greatest"] (G7 aR aA):=by obtain⟨Y,Y,Y,Y,Y,Y,Y,Y,R,g⟩:=rr a;obtain⟨f,c,e,d,b⟩:=a.Ln;exact a.Hg.has fun F=>UW F R e d b a.m7
theorem Jb(a:AY):mN 5 "read_rows" ["reader","signs","wide","high"] (Fm K aR aA):=by obtain⟨k,g,c,i,e⟩:=KE a;obtain⟨j,f,b,h,d⟩:=Cn a;exact a.TM.has fun F=>Sq F ⟨a.rt.cl,e,i,c,d,h,b⟩ a.GK
def ZC(c:Nat):V:= .str ⟨#[c]⟩
def Ak(b:List Nat):Str:=⟨b.toArray⟩
def b2(x:Bool):Int:=if x=true then 1 else 0
def Cb:Tafl.Kind->Nat| .plain=>46| .seat=>83| .exit=>88| .wall=>35
def CC(r:Rules):List Nat:=(List.range 169).map fun c=>Cb (r.kindAt c)
def Ei(r:Rules)(a:Addr):List (Str×V):=[("wide",.int r.wide),("high",.int r.high),("ground",.str (Ak (CC r))),("beside",.ref a),("slides",.int (b2 r.slides)),("armed",.int (b2 r.armed)),("four",.int (b2 r.four)),("passed",.int (b2 r.passed)),("seat",.int r.seat),("exits",.int r.exits),("goal",.int r.goal)]
theorem IZ(r a):(Ei r a).lookup ("wide":Str)=some (.int r.wide):=#v[]
theorem I_(r a):(Ei r a).lookup ("high":Str)=some (.int r.high):=#v[]
theorem DT(r a):(Ei r a).lookup ("ground":Str)=some (.str (Ak (CC r))):=#v[]
theorem EZ(r a):(Ei r a).lookup ("beside":Str)=some (.ref a):=#v[]
theorem Yq(r a):(Ei r a).lookup ("slides":Str)=some (.int (b2 r.slides)):=#v[]
theorem SU(r a):(Ei r a).lookup ("armed":Str)=some (.int (b2 r.armed)):=#v[]
theorem gb(r a):(Ei r a).lookup ("four":Str)=some (.int (b2 r.four)):=#v[]
theorem Yr(r a):(Ei r a).lookup ("passed":Str)=some (.int (b2 r.passed)):=#v[]
theorem fZ(r a):(Ei r a).lookup ("seat":Str)=some (.int r.seat):=#v[]
theorem cf(r a):(Ei r a).lookup ("exits":Str)=some (.int r.exits):=#v[]
theorem f_(r a):(Ei r a).lookup ("goal":Str)=some (.int r.goal):=#v[]
theorem JY(r a):(Ei r a).lookup ("may_stand":Str)=none:=#v[]
theorem Ys(r a):(Ei r a).lookup ("may_cross":Str)=none:=#v[]
theorem Yt(r a):(Ei r a).lookup ("is_goal":Str)=none:=#v[]
def nR(r:Rules)(c:Nat):List V:=[V.int (Va r.wide r.high c 0),V.int (Va r.wide r.high c 1),V.int (Va r.wide r.high c 2),V.int (Va r.wide r.high c 3)]
structure Bg(C:Addr)(H:Hp)(a:Addr)(r:Rules):Prop where
 ex:∃dx lb,∃bs:List Addr,H a=some (.ins C dx (Ei r lb))/\H lb=some (.lst (bs.map V.ref))/\bs.length=169/\∀c b,bs[c]?=some b->H b=some (.lst (nR r c))
 Z:B1 r
 N:Oh r
theorem Bg.same{r:Rules}(h:Bg C H a r)(s:Ap H H'):Bg C H' a r:=by obtain⟨⟨k,d,l,j,i,g,f⟩,Z,N⟩:=h;exact⟨⟨k,d,l,s _ _ j,s _ _ i,g,fun c b e=>s _ _ (f c b e)⟩,Z,N⟩
def De(H:Hp)(t:Addr)(b:List Nat)(s:Nat):Prop:=H t=some (.tup [.str (Ak b),.int (s:Nat)])
def FA(H:Hp)(l:Addr)(b:List Nat):Prop:=H l=some (.lst (b.map ZC))
theorem Bc(b:List Nat):(Ak b).cps.toList=b:=by simp[Ak]
theorem B4(b:List Nat):(Ak b).length=b.length:=by simp[Ak,Str.length]
theorem Dx{z:Str}(h:z.cps.toList=b):z=Ak b:=by subst h;simp[Ak]
theorem Di(h:x=⟨#[n]⟩):decide (V.str ⟨#[c]⟩=V.str x)=decide (c=n):=by
 subst h;rw[y3];constructor;·intro e;have:=zT (fun v=>match v with|V.str s=>s.cps.toList|_=>[]) e;simpa using this
 ·intro e;rw[e]
theorem X9(h:c=n)(e:x=⟨#[n]⟩:=by rfl):decide (V.str ⟨#[c]⟩=V.str x)=true:=(Di e).trans (zj h)
theorem XA(h:¬c=n)(e:x=⟨#[n]⟩:=by rfl):decide (V.str ⟨#[c]⟩=V.str x)=false:=(Di e).trans (zo h)
theorem qT(h:¬c=n)(e:x=⟨#[n]⟩:=by rfl):(!decide (V.str ⟨#[c]⟩=V.str x))=true:=by rw[XA h e];rfl
theorem oq(h:c=n)(e:x=⟨#[n]⟩:=by rfl):(!decide (V.str ⟨#[c]⟩=V.str x))=false:=by rw[X9 h e];rfl
theorem ou(e:x=⟨#[n]⟩):(x==(⟨#[c]⟩:Str))=(c==n):=by
 subst e;rw[zZ,zP,zP];constructor;·intro z;have:=zT (fun s:Str=>s.cps.toList) z;simpa using this.symm
 ·intro z;rw[z]
theorem pk{m:Nat}{y:Str}(e:x=⟨#[n]⟩:=by rfl)(a:y=⟨#[m]⟩:=by rfl):(if false=true then !NC (V.str ⟨#[c]⟩) [V.str x,V.str y]else NC (V.str ⟨#[c]⟩) [V.str x,V.str y])=(c==n||c==m):=by rw[zb ⋯];show((x==(⟨#[c]⟩:Str)) ||((y==(⟨#[c]⟩:Str)) ||false))=_;rw[wC,ou e,ou a]
theorem Dn{N N0:List Str}{c sc0 a:Scope}{b:List (Str×Nat)}(e:N=N0)(d:c=sc0)(h:kH N0 sc0 a b=true):Jt N c a b:=by subst e d;exact Jo h
theorem jd(h:c<b.length):(b.map ZC)[c]?=some (V.str ⟨#[b.getD c 0]⟩):=by rw[z7,z4 h];simp[ZC,z5,z4 h]
theorem DJ(h:c<b.length):YN (b.map ZC) (c:Int)=some (V.str ⟨#[b.getD c 0]⟩):=AN (jd h)
theorem Qt{a:Type}{b:List a}{d:a}(h:c<b.length):b[c]?=some (b.getD c d):=by simp[z5,z4 h]
theorem Im(h:c<b.length):YN (Ak b).cps.toList (c:Int)=some (b.getD c 0):=by rw[Bc];exact AN (Qt h)
theorem Nl(r:Rules):(CC r).length=169:=by simp[CC]
theorem Y6(r:Rules)(h:c<169):(CC r).getD c 0=Cb (r.kindAt c):=by simp[CC,z5,xh h]
theorem Dm(r:Rules)(h:c<169):YN (Ak (CC r)).cps.toList (c:Int)=some (Cb (r.kindAt c)):=by rw[<-Y6 r h];exact Im (by rw[Nl];exact h)
theorem CM(r:Rules):(Ak (CC r)).length<=sizeLine:=by rw[B4,Nl];decide
theorem Qd{k:Tafl.Kind}:Cb k=88↔k= .exit:=by cases k<;>decide
theorem Lw{k:Tafl.Kind}:Cb k=83↔k= .seat:=by cases k<;>decide
theorem ej{k:Tafl.Kind}:Cb k=35↔k= .wall:=by cases k<;>decide
theorem ek{k:Tafl.Kind}:Cb k=46↔k= .plain:=by cases k<;>decide
def Xn(a:Hp)(D:Addr)(G:Nat->List V)(i:Nat)(H:Hp):Prop:=Ap a H/\H D=some (.lst (G i))
theorem IX{a:Hp}{D:Addr}{G:Nat->List V}(b:a D=none)(c:G 0=[]):Xn a D G 0 (Av a D (.lst [])):=⟨Af b,by rw[Aa,c]⟩
theorem Gp{c b:Hp}{D:Addr}{G:Nat->List V}{y:V}(k:c D=none)(h:Xn c D G i H)(g:(G i).length<sizeLine)(d:Ap H b)(e:G (i+1)=G i++[y]):∃a,b D=some (.lst a)/\a.length<sizeLine/\Xn c D G (i+1) (Av b D (.lst (a++[y]))):=by obtain⟨s,j⟩:=h;refine⟨G i,d _ _ j,g,fun l o f=>?_,by rw[Aa,e]⟩;rw[Ac (Ab f k)];exact d _ _ (s _ _ f)
theorem ib{c b:Hp}{D:Addr}{G:Nat->List V}(h:Xn c D G i H)(a:Ap H b)(e:G (i+1)=G i):Xn c D G (i+1) b:=⟨h.1.trans a,by rw[e];exact a _ _ h.2⟩
theorem AR(H:Hp):Ap H H:=fun Y Y e=>e
theorem DI{d c:TT}{b:L2.St}{Q:Bool->Hp->Prop}(x y:Bool)(f:∀a:Bool->Hp->Prop,a x H->d b H a)(e:x=true->∀a:Bool->Hp->Prop,a y H->c b H a)(q:Q (x&&y) H):lI d c b H Q:=by refine f _ ?_;cases x with|true=>exact BJ rfl (e rfl _ q) |false=>exact B9 rfl q
theorem iT{d c:TT}{b:L2.St}{Q:Bool->Hp->Prop}(x y:Bool)(f:∀a:Bool->Hp->Prop,a x H->d b H a)(e:x=false->∀a:Bool->Hp->Prop,a y H->c b H a)(q:Q (x||y) H):pY d c b H Q:=by refine f _ ?_;cases x with|true=>exact BJ rfl q|false=>exact B9 rfl (e rfl _ q)
theorem HL{Q:Bool->Hp->Prop}{x y:Bool}(q:Q x H)(e:y=x):Q y H:=e▸q
theorem Ax{v:V}{a:L2.St}{Q:L2.St->Hp->Prop}(h:Q (a.set i (some v)) H):E7 i v a H Q:=h
theorem CU{t u:TS}{D:Ends}{b:L2.St}(h:t {D with nx:=fun a H'=>u D a H'} b H):LU t u D b H:=h
theorem DG{c:TT}{t u:TS}{D:Ends}{a:L2.St}(h:c a H fun b d=>if b=true then t D a d else u D a d):Zs c t u D a H:=h
theorem BO:(169:Nat)<=sizeLine:=⋯
inductive Ml(C:Addr):_|mk(a l:Addr)(r:Rules)(b:List Nat)(c:Nat):vs=[.ref a,.ref l,.int c]->Bg C H a r->FA H l b->b.length=169->c<169->Q (.int (cM r b c:Nat)) H->Ml C vs H Q E
def HE:Option Nat->Int|none=> -1|some c=>(c:Nat)
inductive Qb(C:Addr):_|mk(a l:Addr)(r:Rules)(b:List Nat)(c:Option Nat):vs=[.ref a,.ref l,.int (HE c)]->Bg C H a r->FA H l b->b.length=169->(∀n,c=some n->n<169)->Q (.bl (HM.stM r b c)) H->Qb C vs H Q E
inductive Mn(C:Addr):_|mk(a l:Addr)(r:Rules)(b:List Nat)(c:Option Nat):vs=[.ref a,.ref l,.int (HE c)]->Bg C H a r->FA H l b->b.length=169->(∀n,c=some n->n<169)->Q (.bl (HM.stH r b c)) H->Mn C vs H Q E
theorem l_:Ah ["hall","cells","cell"] ["hall","cells","cell"] (Ad Wz):={}
theorem Ni(d:AY):FK 1 "enmity" ["hall","cells","cell"] (Ml aH):=by
 refine d.cT.has fun F=>F.ok l_ fun H Q E p h=>?_;obtain⟨a,l,r,b,c,rfl,⟨⟨i,e,s,g,Y,Y,Y⟩,Z,N⟩,m,o,j,k⟩:=h;exists%[AM (Ao AZ (Az Eh (Al (pv 0)) (pv 2)) Ai) (Ag (Aj (Al (pv 0)))) Au,AM (Cm (Ao AZ (Az Eh (Al (pv 0)) (pv 2)) Ai) (BL (Ao AZ (Az AE (pv 1) (pv 2)) Ai))).pt (Ag (Aj (Al (pv 0)))) Au|Aj Ae];exists _,rfl,a,aH,i,_,_,rfl,g,d.hc.cl,d.hc.Fw,DT r e,_,rfl,_,_,_,rfl,rfl,CM r,Dm r j,rfl,_,rfl;unfold cM at k;by_cases h1:r.kindAt c= .exit;·refine BJ (X9 (n:=88) (Qd.mpr h1)) ?_;rw[h1]at k;exact⟨_,rfl,a,aH,i,_,_,rfl,g,d.hc.cl,d.hc.bD,cf r e,k⟩
 ·refine B9 (XA (n:=88) fun q=>h1 (Qd.mp q)) ⟨_,rfl,a,aH,i,_,_,rfl,g,d.hc.cl,d.hc.Fw,DT r e,_,rfl,_,_,_,rfl,rfl,CM r,Dm r j,rfl,_,rfl,?_⟩;by_cases h2:r.kindAt c= .seat
  ·refine BJ (X9 (n:=83) (Lw.mpr h2)) ?_;rw[h2]at k;dsimp only at k;exists _,rfl,_,rfl,l,_,_,_,rfl,rfl,AJ.of m,DJ (by rw[o];exact j),rfl,_,rfl;by_cases h3:b.getD c 0=46;·rw[zc h3]at k;exact BJ (X9 (n:=46) h3) ⟨_,rfl,a,aH,i,_,_,rfl,g,d.hc.cl,d.hc.hW,fZ r e,k⟩
   ·rw[zb h3]at k;exact B9 (XA (n:=46) h3) k
  ·refine B9 (XA (n:=83) fun q=>h2 (Lw.mp q)) (B9 rfl ?_);cases f:r.kindAt c with|plain=>rw[f]at k;exact k|wall=>rw[f]at k;exact k|seat=>exact absurd f h2|exit=>exact absurd f h1
theorem lV:Ah ["hall","cells","cell"] ["hall","cells","cell"] (Ad ah):={}
theorem cK{r:Rules}(N:Oh r)(b:List Nat)(c:Nat):cM r b c<=3:=by
 unfold cM;have:=N.s;have:=N.x;split;·assumption
 ·split<;>lia
 ·lia
theorem pH:∀e:Nat,e<=3->(!decide (V.int (Builtin.bitAnd (e:Int) 1)=V.int 0))=(e%2==1):=by intro e h;match e,h with|0,_=>decide+kernel|1,_=>decide+kernel|2,_=>decide+kernel|3,_=>decide+kernel
theorem pG:∀e:Nat,e<=3->(!decide (V.int (Builtin.bitAnd (e:Int) 2)=V.int 0))=(e/2%2==1):=by intro e h;match e,h with|0,_=>decide+kernel|1,_=>decide+kernel|2,_=>decide+kernel|3,_=>decide+kernel
theorem Pw(e:AY):FK 2 "stands_against_man" ["hall","cells","cell"] (Qb aH):=by
 have o:=Ni e;refine e.G3.has fun F=>F.ok lV fun H Q E j h=>?_;obtain⟨a,l,r,b,c,rfl,i,f,g,m,k⟩:=h;exists%[AM (Ao AZ (pv 2) (AD (v:= .int (-1)) rfl (C3 e.Fe) ⟨_,rfl⟩)) (Ag (Aj K7)) Au|Aj (OU (Bo AZ (Az AE (pv 1) (pv 2)) Ai) (EE (Bo Hs (AA bg (Ay o j rfl Ar (#v[pv 0,pv 1,pv 2])) (AD (v:= .int 2) rfl (C3 e.Oe) ⟨_,rfl⟩)) Ae)))];exists _,rfl,rfl,_,rfl;cases c with
 |none=>exact BJ ⋯ k
 |some c=>
  have d:c<169:=m c rfl;refine B9 (zo (by intro q;injection q with q;change(c:Int)= -1 at q;lia)) ⟨_,rfl,_,rfl,l,_,_,_,rfl,rfl,AJ.of f,DJ (by rw[g];exact d),rfl,_,rfl,?_⟩;unfold HM.stM at k;dsimp only at k;by_cases h1:b.getD c 0=104;·refine BJ (X9 (n:=104) h1) ?_;rw[h1]at k;exact k
  ·refine B9 (XA (n:=104) h1) ⟨_,rfl,_,rfl,_,rfl,a,l,r,b,c,rfl,i,f,g,d,_,_,rfl,rfl,rfl,?_⟩;rw[zL.mpr h1,uH]at k;rw[<-pG _ (cK i.N b c)]at k;exact k
theorem lY:Ah ["hall","cells","cell"] ["hall","cells","cell"] (Ad OM):={}
theorem kJ{x:Bool}:decide (V.int (b2 x)=V.int 1)=x:=by cases x<;>decide
theorem kK{x:Bool}:decide (V.int (b2 x)=V.int 0)=!x:=by cases x<;>decide
theorem QF(f:AY):FK 2 "stands_against_hunter" ["hall","cells","cell"] (Mn aH):=by
 have A:=Ni f;refine f.Fb.has fun F=>F.ok lY fun H Q E w h=>?_;obtain⟨a,l,r,b,c,rfl,p,m,o,x,k⟩:=h;obtain⟨z,u,B,y,Y,Y,Y⟩:=p.ex;exists%[AM (Ao AZ (pv 2) (AD (v:= .int (-1)) rfl (C3 f.Fe) ⟨_,rfl⟩)) (Ag (Aj K7)) Au,AM (hR (Ao AZ (Az AE (pv 1) (pv 2)) Ai) (aB (Cm (Ao AZ (Az AE (pv 1) (pv 2)) Ai) (BL (Ao AZ (Al (pv 0)) Ae))).pt)).pt (Ag (Aj K7)) Au|Aj (Bo Hs (AA bg (Ay A w rfl Ar (#v[pv 0,pv 1,pv 2])) (AD (v:= .int 1) rfl (C3 f.Jm) ⟨_,rfl⟩)) Ae)];exists _,rfl,rfl,_,rfl;cases c with
 |none=>exact BJ ⋯ k
 |some c=>
  have e:c<169:=x c rfl;refine B9 (zo (by intro q;injection q with q;change(c:Int)= -1 at q;lia)) ?_;unfold HM.stH at k;dsimp only at k;have d:b.getD c 0≠109->(b.getD c 0==75&&r.armed)=false->PV (Ry qy (Ry (W6 fun i j=> .int (Builtin.bitAnd i j)) (Kt (Ml aH) [] E0 (Be (Bj 0) (Be (Bj 1) (Be (Bj 2) Ca)))) (tC (.int 1))) (tC (.int 0))) {nx:=fun Y H'=>Q .B0 H',rt:=Q} [some (.ref a),some (.ref l),some (.int (c:Nat))] H:=fun t s=>by exists _,rfl,_,rfl,_,rfl,a,l,r,b,c,rfl,p,m,o,e,_,_,rfl,rfl,rfl;rw[zL.mpr t,uH,s,uH]at k;rw[<-pH _ (cK p.N b c)]at k;exact k
  exists _,rfl,_,rfl,l,_,_,_,rfl,rfl,AJ.of m,DJ (by rw[o];exact e),rfl,_,rfl;by_cases h1:b.getD c 0=109;·refine BJ (X9 (n:=109) h1) (BJ rfl ?_);rw[h1]at k;exact k
  ·refine B9 (XA (n:=109) h1) ⟨_,rfl,_,rfl,l,_,_,_,rfl,rfl,AJ.of m,DJ (by rw[o];exact e),rfl,_,rfl,?_⟩;by_cases h3:b.getD c 0=75;·refine BJ (X9 (n:=75) h3) ⟨_,rfl,a,aH,z,_,_,rfl,y,f.hc.cl,f.hc.Vb,SU r u,rfl,_,rfl,?_⟩;cases g:r.armed with|true=>refine BJ rfl ?_;rw[h3,g]at k;exact k|false=>exact B9 rfl (d h1 (by rw[g,vm]))
   ·exact B9 (XA (n:=75) h3) (B9 rfl (d h1 (by rw[zL.mpr h3,xM])))
inductive O4(C:Addr):_|mk(a l:Addr)(r:Rules)(b:List Nat)(c d m:Nat):vs=[.ref a,.ref l,.int c,.int d,.str ⟨#[m]⟩]->Bg C H a r->FA H l b->b.length=169->r.isCell c=true->d<4->(∀H',Ap H H'->Q (.bl (Nc r b m d c)) H')->O4 C vs H Q E
theorem bx{r:Rules}(Z:B1 r){d:Nat}(a:d<4)(h:r.isCell c=true):Va r.wide r.high c d=HE (r.next d c):=by rw[HM.fB Z a h];cases r.next d c<;>rfl
theorem ML{r:Rules}(Z:B1 r){d:Nat}(a:d<4)(h:r.isCell c=true):(nR r c)[d]?=some (V.int (HE (r.next d c))):=by rw[<-bx Z a h];match d,a with|0,_=>rfl|1,_=>rfl|2,_=>rfl|3,_=>rfl
theorem MK{r:Rules}(Z:B1 r){d:Nat}(h:r.isCell c=true):∀n,r.next d c=some n->n<169:=fun n e=>HM.DK Z h e
abbrev qG:List Str:=["hall","cells","cell","direction","mover","behind","around"]
theorem eG:Ah qG ["hall","cells","cell","direction","mover"] (Ad M4):={}
theorem SY:bootBuiltins "all"=some (.builtin "all"):=∎
theorem Tc(j:AY):FK 3 "is_taken" ["hall","cells","cell","direction","mover"] (O4 aH):=by
 refine j.VA.has fun F=>F.ok eG fun H Q E J h=>?_;obtain⟨a,l,r,b,c,d,m,rfl,p,x,z,y,W,k⟩:=h;obtain⟨P,A,X,O,B,N,M⟩:=p.ex;have s:c<169:=p.Z.lt y;obtain⟨G,w⟩:∃G,X[c]?=some G:=⟨_,z4 (by rw[N];exact s)⟩;have f:=M c G w;exists%[An (i:=5) eG.nd (Az AE (Az AE (Al (pv 0)) (pv 2)) (pv 3)),AM (Ao Hs (pv 4) Ai) (Ag (Aj (ME (Bo AZ (Az AE (pv 1) (pv 2)) Ai) (EE (Ay (QF j) J rfl Ar (#v[pv 0,pv 1,pv 5])))))) Au,AM (Cm (Ao AZ (Az AE (pv 1) (pv 2)) Ai) (BL (Ao AZ (Al (pv 0)) Ae))).pt (Ag (Aj (AO (kD rfl) j.m8 SY (#v[Ga (own:=[("around",6)]) rfl eG.nd (BM (Az AE (Al (pv 0)) (pv 2))) (Dn (N0:=qG) (sc0:=Ad M4) rfl rfl ∎) (fun Y Y Y Y Y=>Aw (i:=6) eG.nd) (fun Y Y Y Y Y=>Ci) (fun Y Y Y Y Y=>Ay (Pw j) J rfl Ar (#v[pv 0,pv 1,pv 6]))])))) Au|Aj (ME (Bo EV (Az AE (pv 1) (pv 2)) (B3 (#v[Ai,Ai])) #v[]) (EE (Ay (Pw j) J rfl Ar (#v[pv 0,pv 1,pv 5]))))];exists _,rfl,a,aH,P,_,_,rfl,O,j.hc.cl,j.hc.GL,EZ r A,_,rfl,A,_,_,_,rfl,rfl,AJ.of B,AN (by rw[z7,w];rfl),_,rfl,G,_,_,_,rfl,rfl,AJ.of f,AN (ML p.Z W y),_,rfl,rfl,_,rfl;unfold Nc at k;by_cases hm:m=104
 ·refine B9 (oq (n:=104) hm) ?_;rw[zb (fun q=>q hm)]at k;have u:¬(b.getD c 0=75/\r.four=true)->PV (Zx (Ry (oS K false) (Ry (az K) (Bj 1) (Bj 2)) (X1 (Be (tC (.str "m")) (Be (tC (.str "K")) Ca)))) (Kt (Qb aH) [] E0 (Be (Bj 0) (Be (Bj 1) (Be (Bj 5) Ca))))) {nx:=fun Y H'=>Q .B0 H',rt:=Q} [some (.ref a),some (.ref l),some (.int (c:Nat)),some (.int (d:Nat)),some (.str ⟨#[m]⟩),some (.int (HE (r.next d c))),none] H:=fun q=>by
   rw[zb q]at k;refine⟨_,rfl,_,rfl,l,_,_,_,rfl,rfl,AJ.of x,DJ (by rw[z];exact s),K2,fun g U=>⟨g,_,rfl,.inr (.of Aa),rfl,rfl,_,rfl,?_⟩⟩;have T:(if false=true then !NC (V.str ⟨#[b.getD c 0]⟩) [V.str "m",V.str "K"]else NC (V.str ⟨#[b.getD c 0]⟩) [V.str "m",V.str "K"])=(b.getD c 0==109||b.getD c 0==75):=pk;have I:=Af (o:= .tup [V.str "m",V.str "K"]) U;by_cases h1:(b.getD c 0==109||b.getD c 0==75)=true;·refine BJ (T.trans h1) ⟨_,rfl,_,rfl,_,rfl,a,l,r,b,r.next d c,rfl,p.same I,I _ _ x,z,MK p.Z y,?_⟩;have:=k _ I;rw[h1,wB]at this;exact this
   ·rw[y4]at h1;refine B9 (T.trans h1) ?_;have:=k _ I;rw[h1,xM]at this;exact this
  exists _,rfl,_,rfl,l,_,_,_,rfl,rfl,AJ.of x,DJ (by rw[z];exact s),rfl,_,rfl;by_cases h3:b.getD c 0=75
  ·refine BJ (X9 (n:=75) h3) ⟨_,rfl,a,aH,P,_,_,rfl,O,j.hc.cl,j.hc.hY,gb r A,rfl,_,rfl,?_⟩;by_cases hf:r.four=true
   ·refine BJ (kJ.trans hf) ?_;rw[zc ⟨h3,hf⟩]at k;refine⟨_,rfl,a,aH,P,_,_,rfl,O,j.hc.cl,j.hc.GL,EZ r A,_,rfl,A,_,_,_,rfl,rfl,AJ.of B,AN (by rw[z7,w];rfl),G,rfl,⟨_,AJ.of f⟩,fun D S=>?_⟩;let t:List Bool:=[HM.stM r b (r.next 0 c),HM.stM r b (r.next 1 c),HM.stM r b (r.next 2 c),HM.stM r b (r.next 3 c)];refine Dc (xs:=nR r c) (Xn H D fun i=>(t.take i).map V.bl) (IX S rfl) (fun i R Y q=>q.1.seq (AJ.of f)) ?_ ?_;·rintro i v R L q;have C:i<4:=(z8.mp L).1;rw[ML p.Z C y]at L;cases L;refine⟨rfl,?_⟩;unfold HG;cbv;rw[zc rfl];refine⟨_,rfl,_,rfl,_,rfl,a,l,r,b,r.next i c,rfl,p.same q.1,q.1 _ _ x,z,MK p.Z y,Gp S q (by rw[z3,zO];exact y2 (xH _ _) (by show 4<sizeLine;decide)) (AR _) ?_⟩;match i,C with|0,_=>rfl|1,_=>rfl|2,_=>rfl|3,_=>rfl
    ·rintro R q;exists D,t,rfl,AJ.of q.2;have:=k R q.1;have e:t.all id=(HM.stM r b (r.next 0 c)&&HM.stM r b (r.next 1 c)&&HM.stM r b (r.next 2 c)&&HM.stM r b (r.next 3 c)):=by simp[t,qx]
     rw[e];exact this
   ·rw[y4]at hf;exact B9 (kJ.trans hf) (u (fun q=>by rw[hf]at q;exact absurd q.2 ⋯))
  ·exact B9 (XA (n:=75) h3) (B9 rfl (u (fun q=>h3 q.1)))
 ·refine BJ (qT (n:=104) hm) ?_;rw[zc hm]at k;exists _,rfl,_,rfl,l,_,_,_,rfl,rfl,AJ.of x,DJ (by rw[z];exact s),rfl,_,rfl;by_cases h1:b.getD c 0=104;·refine BJ (X9 (n:=104) h1) ⟨_,rfl,_,rfl,_,rfl,a,l,r,b,r.next d c,rfl,p,x,z,MK p.Z y,?_⟩;have:=k _ (AR _);rw[h1]at this;exact this
  ·refine B9 (XA (n:=104) h1) ?_;have:=k _ (AR _);rw[zL.mpr h1,xM]at this;exact this
def nV(l:List Nat):List V:=l.map fun c=>V.int (c:Nat)
def Ia(H:Hp)(m:Addr)(b a:Nat):Prop:=H m=some (.tup [.int (b:Nat),.int (a:Nat)])
inductive Oz(C:Addr):_|mk(a l:Addr)(r:Rules)(b:List Nat)(t:Nat):vs=[.ref a,.ref l,.int t]->Bg C H a r->FA H l b->b.length=169->r.isCell t=true->(∀H' q,Ap H H'->H q=none->H' q=some (.lst (nV (DB r b t)))->Q (.ref q) H')->Oz C vs H Q E
inductive Wc:_|mk(p m:Addr)(b:List Nat)(s m1 m2:Nat):vs=[.ref p,.ref m]->De H p b s->Ia H m m1 m2->b.length=169->m1<169->m2<169->(∀H' l,Ap H H'->H l=none->FA H' l (DS b m1 m2)->Q (.ref l) H')->Wc vs H Q E
def Zb(r:Rules)(b:List Nat)(t d:Nat):Option Nat:=match r.next d t with|none=>none|some c=>if Nc r b (b.getD t 0) d c=true then some c else none
theorem U0(r:Rules)(b:List Nat)(t:Nat):DB r b t=if b.getD t 0=75/\r.armed=false then[]else(List.range 4).filterMap (Zb r b t):=rfl
theorem cB{a b:Type}(f:a->Option b):∀l:List a,(l.filterMap f).length<=l.length:=fun l=>List.length_filterMap_le f l
theorem LB{a:Type}(f:Nat->Option a)(i:Nat):(List.range (i+1)).filterMap f=(List.range i).filterMap f++(f i).toList:=by rw[yg,List.filterMap_append];cases h:f i<;>simp[h]
abbrev r6:List Str:=["hall","cells","end","mover","taken","direction","cell"]
theorem ZE:Ah r6 ["hall","cells","end"] (Ad RI):={}
theorem KD(j:AY):FK 4 "taken_at" ["hall","cells","end"] (Oz aH):=by
 refine j.V7.has fun F=>F.ok ZE fun H Q E S h=>?_;obtain⟨a,l,r,b,e,rfl,w,L,M,I,k⟩:=h;obtain⟨R,C,W,N,D,K,J⟩:=w.ex;have s:e<169:=w.Z.lt I;obtain⟨x,u⟩:∃x,W[e]?=some x:=⟨_,z4 (by rw[K];exact s)⟩;have t:=J e x u;exists%[An (i:=3) ZE.nd (Az AE (pv 1) (pv 2)),AM (Cm (Ao AZ (pv 3) Ai) (BL (Ao AZ (Al (pv 0)) Ae))).pt (Ag (Aj (AF Ce))) Au,An (i:=4) ZE.nd (AF Ce),BC y0 rfl (ES (by rfl) j.GK (#v[Ae])) (Aw (i:=5) ZE.nd) (%[An (i:=6) ZE.nd (Az AE (Az AE (Al (pv 0)) (pv 2)) (pv 5)) |AM (Cm (Ao Hs (pv 6) (AD (v:= .int (-1)) (by rfl) (C3 j.Fe) ⟨_,rfl⟩)) (BL (BU (Ay (Tc j) S (by rfl) Ar (#v[pv 0,pv 1,pv 6,pv 5,pv 3]))))).pt (Ag (A2 (B5 zK zW zY Bz (pv 4) (#v[pv 6])))) Au]) |Aj (pv 4)];exists _,rfl,_,rfl,l,_,_,_,rfl,rfl,AJ.of L,DJ (by rw[M];exact s);rw[U0]at k;refine Ax ?_;cbv;refine CU (DG (DI (decide (b.getD e 0=75)) (!r.armed) (fun X q=>⟨_,rfl,rfl,_,rfl,HL q (Di rfl)⟩) (fun Y X q=>⟨_,rfl,a,aH,R,_,_,rfl,N,j.hc.cl,j.hc.Vb,SU r C,rfl,_,rfl,HL q kK⟩) ?_));by_cases h1:b.getD e 0=75/\r.armed=false;·refine BJ (by rw[h1.2,zj h1.1];rfl) ?_;rw[zc h1]at k;exact⟨zx _,fun q m=>k _ q (Af m) m Aa⟩
 ·refine B9 (by cases U:r.armed<;>simp_all) ?_;rw[zb h1]at k;refine⟨zx _,fun q m=>?_⟩;refine⟨4,rfl,⋯,⋯,GY (n:=4) (fun i y H'=>E2 fun B A=>A3 (y=[some (.ref a),some (.ref l),some (.int (e:Nat)),some (.str ⟨#[b.getD e 0]⟩),some (.ref q),B,A]) (Ap H H') (H' q=some (.lst (nV ((List.range i).filterMap (Zb r b e)))))) ⟨none,none,rfl,Af m,Aa⟩ ?_ ?_⟩
  ·rintro i y H' G ⟨B,A,rfl,f,d⟩;have O:(0:Int)+(i:Int)=(i:Int):=∅;exists _,rfl,a,aH,R,_,_,rfl,f _ _ N,j.hc.cl,j.hc.GL,EZ r C,_,rfl,C,_,_,_,rfl,rfl,AJ.of (f _ _ D),AN (by rw[z7,u];rfl),_,rfl,x,_,_,_,rfl,rfl,AJ.of (f _ _ t),at_of O (ML w.Z G I),_,rfl,rfl,_,rfl;cases g:r.next i e with
   |none=>refine B9 ⋯ (B9 rfl ⟨_,_,rfl,f,?_⟩);rw[LB,show Zb r b e i=none by unfold Zb;rw[g]];simpa using d
   |some c=>
    have T:r.isCell c=true:=BE w.Z I g;refine BJ (by
     have:¬V.int (HE (some c))=V.int (-1):=by intro z;injection z with z;change(c:Int)= -1 at z;lia
     rw[zo this];rfl) ⟨_,rfl,_,rfl,_,rfl,_,rfl,_,rfl,a,l,r,b,c,i,b.getD e 0,?_,w.same f,f _ _ L,M,T,G,fun H2 p=>⟨_,rfl,?_⟩⟩;·rw[O];rfl
    ·by_cases ht:Nc r b (b.getD e 0) i c=true
     ·refine BJ ht ⟨_,rfl,.inl ⟨rfl,_,AJ.of (p _ _ d)⟩,_,rfl,q,_,_,rfl,rfl,p _ _ d,?_,?_⟩;·unfold nV;rw[z3];exact y2 (cB _ _) (by rw[yj];exact ue G (by show 4<sizeLine;decide))
      ·exists _,_,rfl,fun Z o P=>?_;·rw[Ac (Ab P m)];exact p _ _ (f _ _ P)
       ·rw[Aa,LB,show Zb r b e i=some c by unfold Zb;rw[g];exact zc ht];unfold nV;rw[zu];rfl
     ·rw[y4]at ht;refine B9 ht ⟨_,_,rfl,f.trans p,?_⟩;rw[LB,show Zb r b e i=none by unfold Zb;rw[g];exact zb (by rw[ht];decide)];simpa using p _ _ d
  ·rintro y H' ⟨B,A,rfl,f,d⟩;exact⟨_,rfl,k H' q f m d⟩
abbrev t8:List Str:=["position","move","cells"]
theorem lU:Ah t8 ["position","move"] (Ad ZT):={}
theorem Q5:bootBuiltins "list"=some (.type "list"):=∎
theorem Pu(j:AY):FK 1 "cells_moved" ["position","move"] Wc:=by
 refine j.Ob.has fun F=>F.ok lU fun H Q E u h=>?_;obtain⟨p,m,b,t,o,n,rfl,q,a,d,g,r,k⟩:=h;exists%[An (i:=2) lU.nd (JI (VF rfl) (by rfl) j.jH Q5 (#v[Az Bf (pv 0) Ae])),HN (Az AE (pv 2) (Az Bf (pv 1) Ae)) (HP (pv 2) (Az Bf (pv 1) Ae) set_list),HN Ai (HP (pv 2) (Az Bf (pv 1) Ae) set_list) |Aj (pv 2)];refine⟨_,rfl,p,_,_,_,rfl,rfl,.of q,rfl,_,rfl,by rw[show(Ak b).cps.size=b.length by simp[Ak],d];decide,fun l c=>?_⟩;have f:Ap H (Av H l (.lst (b.map ZC))):=Af c;have s:L2.signs (Ak b)=b.map ZC:=by unfold L2.signs;rw[Bc];rfl
 rw[s];have e:m≠l:=Ab a c;refine⟨_,rfl,_,rfl,m,_,_,_,rfl,rfl,.of (f _ _ a),rfl,l,_,_,_,rfl,rfl,AJ.of Aa,DJ (by rw[d];exact g),_,rfl,_,rfl,m,_,_,_,rfl,rfl,.of (f _ _ a),rfl,l,_,_,_,rfl,rfl,Aa,by rw[z3,d];exact Ex r,?_⟩;rw[DH];refine⟨_,rfl,_,rfl,m,_,_,_,rfl,rfl,.of (by rw[Ac e];exact a),rfl,l,_,_,_,rfl,rfl,Aa,by rw[yP,z3,d];exact Ex g,?_⟩;rw[DH];refine⟨_,rfl,k _ l (Af c) c ?_⟩;show _=some (HO.lst ((DS b o n).map ZC));rw[Aa];unfold DS;rw[wK,wK];rfl
inductive Wl(C:Addr):_|mk(a p m:Addr)(r:Rules)(b:List Nat)(s m1 m2:Nat):vs=[.ref a,.ref p,.ref m]->Bg C H a r->De H p b s->Ia H m m1 m2->b.length=169->m1<169->r.isCell m2=true->s<=1->(∀H' t,Ap H H'->H t=none->De H' t (ND r b (m1,m2)) (1-s)->Q (.ref t) H')->Wl C vs H Q E
inductive Oy(C:Addr):_|mk(a p m:Addr)(r:Rules)(b:List Nat)(s m1 m2:Nat):vs=[.ref a,.ref p,.ref m]->Bg C H a r->De H p b s->Ia H m m1 m2->b.length=169->m1<169->r.isCell m2=true->(∀H' l,Ap H H'->H l=none->H' l=some (.lst (nV ((List.range 192).filter fun c=>(DB r (DS b m1 m2) m2).contains c)))->Q (.ref l) H')->Oy C vs H Q E
theorem Vi(b:List Nat):Txt.join ("":Str) (b.map fun c=>(⟨#[c]⟩:Str))=Ak b:=Dx (by rw[TL.join_eq];show TL.tl (Str.join _ _)=_;rw[TL.Es,zG];exact GV _)
theorem bU(b:List Nat)(h:b.length=169):((b.map fun c=>(⟨#[c]⟩:Str)).map Str.length).sum+(b.map fun c=>(⟨#[c]⟩:Str)).length*("":Str).length<=sizeLine:=by
 rw[zG,z3];have e:∀a:List Nat,(a.map (Str.length∘fun u=>(⟨#[u]⟩:Str))).sum=a.length:=by intro a;induction a with|nil=>rfl|cons u b d=>rw[zH,vI,d,zm];show 1+_=_;lia
 rw[e,h];show 169+169*0<=_;exact BO
theorem L8{c a:Nat}(h:b.length=169):(DS b c a).length=169:=by unfold DS;rw[yP,yP,h]
theorem cX(b l:List Nat)(c:Nat):TY b (l++[c])=(TY b l).set c 46:=by unfold TY;rw[uW];rfl
theorem Uz{r:Rules}(Z:B1 r){t:Nat}(g:r.isCell t=true):(DB r b t).Nodup:=by
 rw[U0];split;·exact wa
 ·have:∀i,i<=4->((List.range i).filterMap (Zb r b t)).Nodup:=by
   intro i;induction i with
   |zero=>intro Y;exact wa
   |succ i a=>
    intro o;rw[LB];cases h:Zb r b t i with
    |none=>rw[Option.toList_none,zR];exact a ∅
    |some c=>
     rw[xP,yZ];refine⟨a ∅,by simp,fun x k y f z=>?_⟩;subst z;rw[zB]at f;subst f;obtain⟨j,l,e⟩:=yA.mp k;rw[zC]at l;have nx:∀d,Zb r b t d=some x->r.next d t=some x:=fun d e=>by unfold Zb at e;cases q:r.next d t with|none=>rw[q]at e;cases e|some z=>rw[q]at e;dsimp only at e;split at e<;>simp_all
     have n:=MJ Z (d:=i) ∅ g (nx i h);have m:=MJ Z (d:=j) ∅ g (nx j e);have:=HM.Dir.apart ∅ ∅ n m;lia
  exact this 4 (ze _)
abbrev wh:List Str:=["hall","position","move","cells","cell"]
theorem ju:Ah wh ["hall","position","move"] (Ad ai):={}
theorem Y4(M:AY):FK 5 "position_after" ["hall","position","move"] (Wl aH):=by
 refine M.Kj.has fun F=>F.ok ju fun H Q E P h=>?_;obtain⟨a,p,m,r,b,B,f,d,rfl,J,R,S,y,V,L,Z,k⟩:=h;exists%[An (i:=3) ju.nd (Ay (Pu M) (P.mono ⋯) rfl Ar (#v[pv 1,pv 2])),BC y0 rfl (BM (Ay (KD M) P rfl Ar (#v[pv 0,pv 3,Az Bf (pv 2) Ae]))) (Aw (i:=4) ju.nd) (Ag (HN Ai (HP (pv 3) (pv 4) set_list))) |Aj (B3 (#v[B5 yc xw xt GO Ai (#v[pv 3]),AA Eb Ae (Az Bf (pv 1) Ae)]))];have K:d<169:=J.Z.lt L;refine⟨_,rfl,_,rfl,p,m,b,B,f,d,rfl,R,S,y,V,K,fun H1 l C U I=>?_⟩;refine⟨_,rfl,_,rfl,_,rfl,m,_,_,_,rfl,rfl,.of (C _ _ S),rfl,a,l,r,_,d,rfl,J.same C,I,L8 y,L,fun H2 q N T s=>?_⟩;have D:l≠q:=Ab I T;refine⟨q,rfl,⟨_,AJ.of s⟩,Gz (xs:=nV (DB r (DS b f d) d)) (fun i x H'=>∃A,A4 (x=[some (.ref a),some (.ref p),some (.ref m),some (.ref l),A]) (Ap H H') (H' q=some (.lst (nV (DB r (DS b f d) d)))) (FA H' l (TY (DS b f d) ((DB r (DS b f d) d).take i)))) ⟨none,rfl,C.trans N,s,N _ _ I⟩ (fun i x H' Y ⟨_,_,_,z,_⟩=>AJ.of z) ?_ ?_⟩
 ·rintro i v x H' G ⟨A,rfl,n,u,g⟩;obtain⟨c,w,rfl⟩:∃c,(DB r (DS b f d) d)[i]?=some c/\v= .int (c:Nat):=by unfold nV at G;rw[z7,zy]at G;obtain⟨c,e,rfl⟩:=G;exact⟨c,e,rfl⟩
  have j:c<169:=PU J.Z L (zf w);refine⟨_,rfl,_,rfl,l,_,_,c,rfl,rfl,g,by rw[z3,LD,L8 y];exact Ex j,_,rfl,fun b' o e=>?_,by rw[Ac (zN D)];exact u,?_⟩;·rw[Ac (Ab e U)];exact n _ _ e
  ·show _=some (HO.lst _);rw[Aa,yi,w,xP,cX,wK];rfl
 ·rintro x H' ⟨A,rfl,n,u,g⟩;have X:(nV (DB r (DS b f d) d)).length=(DB r (DS b f d) d).length:=by unfold nV;rw[z3]
  rw[X,y1]at g;have W:(TY (DS b f d) (DB r (DS b f d) d)).length=169:=by rw[LD,L8 y]
  refine⟨rfl,_,rfl,_,l,(TY (DS b f d) (DB r (DS b f d) d)).map fun c=>(⟨#[c]⟩:Str),rfl,rfl,.inl (.of (by rw[show H' l=_ from g,zG];rfl)),bU _ W,_,rfl,p,_,_,_,rfl,rfl,.of (n _ _ R),rfl,_,_,rfl,rfl,K2,fun t O=>?_⟩;refine k _ t (n.trans (Af O)) (n.free O) ?_;show Av _ t _ t=_;rw[Aa,Vi];rw[show(1:Int)-(B:Int)=((1-B:Nat):Int) by lia];rfl
abbrev r4:List Str:=["hall","position","move"]
theorem oz:Ah r4 ["hall","position","move"] (Ad RH):={}
theorem Gv:bootBuiltins "sorted"=some (.builtin "sorted"):=∎
theorem S_(t:AY):FK 5 "taken_by" ["hall","position","move"] (Oy aH):=by
 refine t.V6.has fun F=>F.ok oz fun H Q E z h=>?_;obtain⟨a,p,m,r,b,C,y,g,rfl,o,I,A,B,K,s,k⟩:=h;have v:g<169:=o.Z.lt s;exists Ag (Aj (AO P9 t.Sw Gv (#v[Ay (KD t) z rfl Ar (#v[pv 0,Ay (Pu t) (z.mono ⋯) rfl Ar (#v[pv 1,pv 2]),Az Bf (pv 2) Ae])])));refine⟨_,rfl,_,rfl,_,rfl,p,m,b,C,y,g,rfl,I,A,B,K,v,fun O l j M J=>?_⟩;refine⟨_,rfl,m,_,_,_,rfl,rfl,.of (j _ _ A),rfl,a,l,r,_,g,rfl,o.same j,J,L8 B,s,fun N q w L u=>?_⟩;refine⟨q,(DB r (DS b y g) g).map fun(c:Nat)=>(c:Int),rfl,AJ.of (by rw[u];unfold nV;rw[zG];rfl),?_,fun ns D f d i=>?_⟩
 ·rw[z3,U0];split;·decide
  ·exact y2 (cB _ _) (by rw[yj];decide)
 ·have e:=Hj (n:=192) f d (Uz o.Z s) fun x G=>by have:=PU o.Z s G;lia
  subst e;refine k _ D ((j.trans w).trans (Af i)) ((j.trans w).free i) ?_;rw[Aa,zG];rfl
theorem Q_:StrLaws.At (Ak b) ⟨#[c]⟩ (Ak b).length i↔b[i]?=some c:=by
 unfold StrLaws.At;rw[StrLaws.subAt_eq,B4,Bc];show i+1<=b.length/\((b.drop i).take 1==[c])=true↔_;constructor;·rintro⟨e,a⟩;have:i<b.length:=∅;rw[z4 this];rw[yf this,xE,wI]at a;have d:=eq_of_beq a;injection d with d;rw[d]
 ·intro h;obtain⟨e,a⟩:=z8.mp h;refine⟨∅,?_⟩;rw[yf e,a,xE,wI,xG]
theorem Sr(b:List Nat)(c:Nat):(Builtin.Str.occurrences (Ak b) ⟨#[c]⟩ 0 (Ak b).length 1=[]/\∀i:Nat,¬b[i]?=some c)\/∃(i:Nat)(r:List Nat),Builtin.Str.occurrences (Ak b) ⟨#[c]⟩ 0 (Ak b).length 1=i::r/\b[i]?=some c/\∀k:Nat,k<i->¬b[k]?=some c:=by
 rcases StrLaws.occ_head (Ak b) ⟨#[c]⟩ 1 (ze _)with⟨d,a⟩ |⟨i,r,d,a,f⟩;·exact .inl ⟨d,fun i q=>a i (Q_.mpr q)⟩
 ·exact .inr ⟨i,r,d,Q_.mp a,fun k e q=>f k e (Q_.mpr q)⟩
theorem Ke(B:A_ b):Txt.find (Ak b) "K"=if Bw b=TAKEN then-1 else((Bw b:Nat):Int):=by
 unfold Txt.find;rcases Sr b 75 with⟨g,a⟩ |⟨i,r,g,a,Y⟩;·rw[show(Builtin.Str.occurrences (Ak b) "K" 0 (Ak b).length 1)=[]from g,zc];rw[B.CI];intro c j e;refine a c ?_;rw[Qt (d:=0) (by rw[B.len];exact j),e]
 ·rw[show(Builtin.Str.occurrences (Ak b) "K" 0 (Ak b).length 1)=i::r from g];obtain⟨h,e⟩:=z8.mp a;have f:i<169:=by rw[<-B.len];exact h
  have:=(B.Bh f).mpr (by rw[z5,a];rfl);rw[this,zb];intro q;have:i=255:=q;lia
def WL(r:Rules)(p c:Nat):Bool:=if p=75 then !decide (r.kindAt c= .wall)else decide (r.kindAt c= .plain)
def h_(r:Rules)(p c:Nat):Bool:=(decide (r.kindAt c= .seat)&&r.passed) ||WL r p c
inductive Mh(C:Addr):_|mk(a:Addr)(r:Rules)(p c:Nat):vs=[.ref a,.str ⟨#[p]⟩,.int c]->Bg C H a r->c<169->Q (.bl (WL r p c)) H->Mh C vs H Q E
inductive Mi(C:Addr):_|mk(a:Addr)(r:Rules)(p c:Nat):vs=[.ref a,.str ⟨#[p]⟩,.int c]->Bg C H a r->c<169->Q (.bl (h_ r p c)) H->Mi C vs H Q E
inductive RA(C:Addr):_|mk(a:Addr)(r:Rules)(c:Nat):vs=[.ref a,.int c]->Bg C H a r->c<169->(∀H',Ap H H'->Q (.bl (r.onGoal c)) H')->RA C vs H Q E
inductive O8(C:Addr):_|mk(a p:Addr)(r:Rules)(b:List Nat)(s:Nat):vs=[.ref a,.ref p]->Bg C H a r->De H p b s->A_ b->(∀H',Ap H H'->Q (.int (r.ended (Aq b s):Nat)) H')->O8 C vs H Q E
abbrev oe:List Str:=["self","piece","cell"]
theorem o8:Ah oe ["self","piece","cell"] (Ad OI):={}
theorem Fy(b:AY):b_ 1 aH "may_stand" oe (Mh aH):=by
 refine b.Lb.has fun F=>F.ok o8 fun H Q E q h=>?_;obtain⟨a,r,p,c,rfl,o,f,k⟩:=h;obtain⟨i,d,s,g,j,m,l⟩:=o.ex;exists%[AM (Ao AZ (pv 1) Ai) (Ag (Aj (Bo Hs (Az Eh (Al (pv 0)) (pv 2)) Ai))) Au|Aj (Bo AZ (Az Eh (Al (pv 0)) (pv 2)) Ai)];exists _,rfl,rfl,_,rfl;unfold WL at k;by_cases hp:p=75;·rw[zc hp]at k;refine BJ (X9 (n:=75) hp) ⟨_,rfl,a,aH,i,_,_,rfl,g,b.hc.cl,b.hc.Fw,DT r d,_,rfl,_,_,_,rfl,rfl,CM r,Dm r f,rfl,?_⟩;have e:(!decide (V.str ⟨#[Cb (r.kindAt c)]⟩=V.str "#"))=!decide (r.kindAt c= .wall):=zT Bool.not ((Di (n:=35) rfl).trans (y3.mpr ej));rw[<-e]at k;exact k
 ·rw[zb hp]at k;refine B9 (XA (n:=75) hp) ⟨_,rfl,a,aH,i,_,_,rfl,g,b.hc.cl,b.hc.Fw,DT r d,_,rfl,_,_,_,rfl,rfl,CM r,Dm r f,rfl,?_⟩;have e:decide (V.str ⟨#[Cb (r.kindAt c)]⟩=V.str ".")=decide (r.kindAt c= .plain):=(Di (n:=46) rfl).trans (y3.mpr ek);rw[<-e]at k;exact k
theorem o9:Ah oe ["self","piece","cell"] (Ad OJ):={}
theorem QD(b:AY):b_ 2 aH "may_cross" oe (Mi aH):=by refine b.Lc.has fun F=>F.ok o9 fun H Q E l h=>?_;obtain⟨a,r,p,c,rfl,j,i,k⟩:=h;obtain⟨f,d,u,e,m,s,o⟩:=j.ex;exists%[AM (Cm (Ao AZ (Az Eh (Al (pv 0)) (pv 2)) Ai) (BL (Ao AZ (Al (pv 0)) Ae))).pt (Ag (Aj K7)) Au|Aj (AH (Fy b) (pv 0) b.hc.cl l Ar (#v[pv 1,pv 2]))];refine CU (DG (DI (decide (r.kindAt c= .seat)) r.passed (fun t q=>⟨_,rfl,a,aH,f,_,_,rfl,e,b.hc.cl,b.hc.Fw,DT r d,_,rfl,_,_,_,rfl,rfl,CM r,Dm r i,rfl,_,rfl,HL q ((Di (n:=83) rfl).trans (y3.mpr Lw))⟩) (fun Y t q=>⟨_,rfl,a,aH,f,_,_,rfl,e,b.hc.cl,b.hc.WJ,Yr r d,rfl,_,rfl,HL q kJ⟩) ?_));unfold h_ at k;cases g:(decide (r.kindAt c= .seat)&&r.passed)with|true=>rw[g]at k;exact BJ rfl k|false=>rw[g]at k;exact B9 rfl ⟨_,rfl,a,f,_,rfl,e,JY r d,_,rfl,_,rfl,a,r,p,c,rfl,j,i,k⟩
theorem oA:Ah ["self","cell"] ["self","cell"] (Ad Wv):={}
theorem Vt(b:AY):b_ 2 aH "is_goal" ["self","cell"] (RA aH):=by
 refine b.NO.has fun F=>F.ok oA fun H Q E j h=>?_;obtain⟨a,r,c,rfl,q,m,k⟩:=h;obtain⟨g,d,u,f,l,p,o⟩:=q.ex;exists%[AM (Ao AZ (Al (pv 0)) Ae) (Ag (Aj (Bo AZ (Az Eh (Al (pv 0)) (pv 1)) Ai))) Au|Aj (Ay (Nh b) j rfl Ar (#v[AA MH (pv 1) (AD (v:= .int 13) rfl (C3 b.Dd) ⟨_,rfl⟩),AA IM (pv 1) (AD (v:= .int 13) rfl (C3 b.Dd) ⟨_,rfl⟩),Al (pv 0),Al (pv 0)]))];exists _,rfl,a,aH,g,_,_,rfl,f,b.hc.cl,b.hc.hX,f_ r d,rfl,_,rfl;unfold Rules.onGoal at k;by_cases hg:r.goal=1;·rw[zc hg]at k;refine BJ (zj (by rw[hg];rfl)) ⟨_,rfl,a,aH,g,_,_,rfl,f,b.hc.cl,b.hc.Fw,DT r d,_,rfl,_,_,_,rfl,rfl,CM r,Dm r m,rfl,?_⟩;have:=k H (AR _);have e:decide (V.str ⟨#[Cb (r.kindAt c)]⟩=V.str "X")=(r.kindAt c== .exit):=((Di (n:=88) rfl).trans (y3.mpr Qd)).trans (by rw[zZ,zJ,zP]);rw[<-e]at this;exact this
 ·rw[zb hg]at k;refine B9 (zo (by intro z;injection z with z;exact hg ∅)) ?_;have t:(c:Int)/13=((c/13:Nat):Int):=∅;have s:(c:Int)%13=((c%13:Nat):Int):=∅;refine⟨_,rfl,_,_,rfl,rfl,(by show(0:Int)<13;decide),_,rfl,_,_,rfl,rfl,⟨⋯,⋯⟩,_,rfl,a,aH,g,_,_,rfl,f,b.hc.cl,b.hc.Pb,IZ r d,_,rfl,a,aH,g,_,_,rfl,f,b.hc.cl,b.hc.Pc,I_ r d,c%13,c/13,r.wide,r.high,?_,fun H' i=>?_⟩;·rw[t,s];rfl
  ·have:=k H' i;unfold Rules.onEdge at this;have e:decide (c%13=0\/c%13+1=r.wide\/c/13=0\/c/13+1=r.high)=(((c%STRIDE,c/STRIDE).1==0) ||((c%STRIDE,c/STRIDE).2==0) ||((c%STRIDE,c/STRIDE).1+1==r.wide) ||((c%STRIDE,c/STRIDE).2+1==r.high)):=by show _=((c%13==0) ||(c/13==0) ||(c%13+1==r.wide) ||(c/13+1==r.high));rw[zZ];simp only[yt,zP,zJ];lia
   rw[<-e]at this;exact this
theorem me:Ah ["hall","position","king"] ["hall","position"] (Ad RS):={}
theorem Gx(c:AY):FK 3 "decided" ["hall","position"] (O8 aH):=by
 refine c.YJ.has fun F=>F.ok me fun H Q E l h=>?_;obtain⟨a,p,r,b,f,rfl,e,m,B,k⟩:=h;obtain⟨v,j,w,t,n,s,q⟩:=e.ex;exists%[An (i:=2) me.nd (B5 yc PySem.F.slot_str_find PySem.F.type_str_find fG (Az Bf (pv 1) Ae) (#v[Ai])),AM (Ao FC (pv 2) Ae) (Ag (Aj Ae)) Au|Aj (D4 (BU (AH (Vt c) (pv 0) c.hc.cl l Ar (#v[pv 2]))) Ae Ae)];exists _,rfl,p,_,_,_,rfl,rfl,.of m,rfl,rfl,_,_,rfl,rfl,_,rfl,_,_,rfl,rfl,_,rfl;have u:(Aq b f).king=Bw b:=rfl;unfold Rules.ended at k;rw[u]at k;by_cases ht:Bw b=TAKEN;·rw[zc ht]at k;exact BJ (zj (by rw[Ke B,zc ht];decide)) (k H (AR _))
 ·rw[zb ht]at k;have o:Bw b<169:=by
   rcases B.LA with h|h;·exact absurd h ht
   ·exact h
  refine B9 (zo (by rw[Ke B,zb ht];lia)) ⟨_,rfl,a,v,_,rfl,t,Yt r j,_,rfl,a,r,Bw b,?_,e,o,fun H' g=>⟨_,rfl,?_⟩⟩;·rw[Ke B,zb ht];rfl
  ·have:=k H' g;cases d:r.onGoal (Bw b)with|true=>rw[d]at this;exact BJ rfl this|false=>rw[d]at this;exact B9 rfl this
def Dr(r:Rules)(b:List Nat)(p d:Nat):Nat->Nat->List Nat|0,_=>[] |f+1,c=>match r.next d c with|none=>[] |some n=>if b.getD n 0=46/\h_ r p n=true then(if WL r p n=true then[n]else[])++(if p=75/\r.slides=false then[]else Dr r b p d f n)else[]
theorem YS{r:Rules}(Z:B1 r)(B:A_ b)(s d g:Nat)(j:g<169):∀(f c:Nat),r.isCell c=true->Dr r b (b.getD g 0) d f c=if(Aq b s).king=g then r.kingWay (Aq b s) d f c else r.manWay (Aq b s) d f c:=by
 have k:(Aq b s).king=g↔b.getD g 0=75:=B.Bh j;intro f;induction f with
 |zero=>intro c Y;unfold Dr Rules.kingWay Rules.manWay;simp
 |succ f l=>
  intro c o;unfold Dr Rules.kingWay Rules.manWay;cases m:r.next d c with
  |none=>simp
  |some n=>
   have i:=BE Z o m;have h:n<169:=Z.lt i;have a:=l n i;cbv;have e:r.free (Aq b s) n=(!decide (r.kindAt n= .wall)&&decide (b.getD n 0=46)):=by unfold Rules.free;rw[B.on s h,HM.L5 B h];cases r.kindAt n<;>rfl
   rw[e];by_cases hp:b.getD g 0=75;·rw[zc (k.mpr hp)]at a|-;rw[hp]at a|-;unfold h_ WL;simp only[zc];rw[a];cases r.kindAt n<;>by_cases h46:b.getD n 0=46<;>cases r.slides<;>simp[h46]
   ·rw[zb (fun q=>hp (k.mp q))]at a|-;unfold h_ WL;simp only[zb hp];rw[a];simp only[hp,rS,yS];cases r.kindAt n<;>by_cases h46:b.getD n 0=46<;>cases r.passed<;>simp[h46]
inductive Wk(C:Addr):_|mk(a:Addr)(r:Rules)(b:List Nat)(c d:Nat):vs=[.ref a,.str (Ak b),.int c,.int d]->Bg C H a r->b.length=169->r.isCell c=true->d<4->(∀H' q,Ap H H'->H q=none->H' q=some (.lst (nV (Dr r b (b.getD c 0) d 13 c)))->Q (.ref q) H')->Wk C vs H Q E
inductive Z6(C:Addr):_|mk(a:Addr)(r:Rules)(b:List Nat)(c s:Nat):vs=[.ref a,.str (Ak b),.int c]->Bg C H a r->A_ b->r.isCell c=true->(∀H' q,Ap H H'->H q=none->H' q=some (.lst (nV (r.reach (Aq b s) c)))->Q (.ref q) H')->Z6 C vs H Q E
theorem PK{r:Rules}{b:List Nat}{p d:Nat}:∀(f c:Nat),(Dr r b p d f c).length<=f
|0,c=>ze _
|f+1,c=>by
 unfold Dr;cases r.next d c with
 |none=>exact zx _
 |some n=>
  cbv;have:=PK (r:=r) (b:=b) (p:=p) (d:=d) f n;split;·rw[zd];split<;>split<;>simp<;>lia
  ·exact zx _
theorem EK{t u:TS}{D:Ends}{b:L2.St}(J:L2.St->Hp->Prop)(c:∀a H',J a H'->u D a H')(d:(∀a H',J a H'->u D a H')->LU t u D b H):LU t u D b H:=d c
abbrev vL:List Str:=["hall","cells","begin","direction","piece","ends","cell"]
theorem ZN:Ah vL ["hall","cells","begin","direction"] (Ad ag):={}
theorem Y2(s:AY):FK 3 "ends_along" ["hall","cells","begin","direction"] (Wk aH):=by
 refine s.QQ.has fun F=>F.ok ZN fun H Q E hr h=>?_;obtain⟨a,r,b,x,d,rfl,w,hb,hc,hd,k⟩:=h;obtain⟨Z,L,bs,X,P,a2,T⟩:=w.ex;have S:x<169:=w.Z.lt hc;have I:∀c,c<169->∃bc,bs[c]?=some bc:=fun c h=>⟨_,z4 (by rw[a2];exact h)⟩;have u:(Ak b).length<=sizeLine:=by rw[B4,hb];exact BO
 exists%[An (i:=4) ZN.nd (Az Eh (pv 1) (pv 2)),An (i:=5) ZN.nd (AF Ce),An (i:=6) ZN.nd (Az AE (Az AE (Al (pv 0)) (pv 2)) (pv 3)),CV y0 (Cm (Ao Hs (pv 6) (AD (v:= .int (-1)) (by rfl) (C3 s.Fe) ⟨_,rfl⟩)) (Cm (Ao AZ (Az Eh (pv 1) (pv 6)) Ai) (BL (BU (AH (QD s) (pv 0) s.hc.cl hr Ar (#v[pv 4,pv 6])))))).pt (%[AM (BU (AH (Fy s) (pv 0) s.hc.cl (hr.mono ⋯) Ar (#v[pv 4,pv 6]))) (Ag (A2 (B5 zK zW zY Bz (pv 5) (#v[pv 6])))) Au,AM (Cm (Ao AZ (pv 4) Ai) (BL (Ao AZ (Al (pv 0)) Ae))).pt (Ag Sg) Au|An (i:=6) ZN.nd (Az AE (Az AE (Al (pv 0)) (pv 6)) (pv 3))]) |Aj (pv 5)];refine⟨_,rfl,_,rfl,_,_,_,rfl,rfl,u,Im (by rw[hb];exact S),zx _,fun q hq=>?_⟩;obtain⟨bc,W⟩:=I x S;have s0:Ap H (Av H q (.lst [])):=Af hq;exists _,rfl,a,aH,Z,_,_,rfl,s0 _ _ X,s.hc.cl,s.hc.GL,EZ r L,_,rfl,L,_,_,_,rfl,rfl,AJ.of (s0 _ _ P),AN (by rw[z7,W];rfl),_,rfl,bc,_,_,_,rfl,rfl,AJ.of (s0 _ _ (T x bc W)),AN (ML w.Z hd hc);generalize a1:b.getD x 0=p at k;generalize N:Dr r b p d 13 x=y at k;exists fun m σ H'=>E2 fun(j:List Nat) (c:Nat)=>A7 (σ=[some (.ref a),some (.str (Ak b)),some (.int (x:Nat)),some (.int (d:Nat)),some (.str ⟨#[p]⟩),some (.ref q),some (.int (HE (r.next d c)))]) (Ap H H') (H' q=some (.lst (nV j))) (r.isCell c=true) (HM.room r d c<m) (j.length+m<=13) (y=j++Dr r b p d m c),⟨13,[],x,by rw[<-a1];rfl,s0,Aa,hc,HM.W3 w.Z hc,ze _,N.symm⟩;rintro m σ H' ⟨j,c,rfl,J,A,R,a0,a3,f⟩;have l:y=j->PV (Bj 5) {nx:=fun Y H'=>Q .B0 H',rt:=Q} [some (.ref a),some (.str (Ak b)),some (.int (x:Nat)),some (.int (d:Nat)),some (.str ⟨#[p]⟩),some (.ref q),some (.int (HE (r.next d c)))] H':=fun e=>⟨_,rfl,k H' q J hq (by rw[e];exact A)⟩;obtain⟨m,rfl⟩:∃m',m=m'+1:=⟨m-1,∅⟩;rw[Dr]at f;exists _,rfl,rfl,_,rfl;cases B:r.next d c with
 |none=>rw[B]at f l;exact B9 ⋯ (B9 rfl (l (by rw[f];simp)))
 |some n=>
  rw[B]at f l;dsimp only at f;have M:r.isCell n=true:=BE w.Z R B;have C:n<169:=w.Z.lt M;have a5:=HM.OP w.Z R B;refine BJ (by
   have:¬V.int (HE (some n))=V.int (-1):=by intro z;injection z with z;change(n:Int)= -1 at z;lia
   rw[zo this];rfl) (DI (decide (b.getD n 0=46)) (h_ r p n) (fun Q' K=>⟨_,rfl,_,rfl,_,_,_,rfl,rfl,u,Im (by rw[hb];exact C),rfl,_,rfl,HL K (Di (n:=46) rfl)⟩) (fun Y Q' K=>⟨_,rfl,a,Z,_,rfl,J _ _ X,Ys r L,_,rfl,_,rfl,a,r,p,n,rfl,w.same J,C,_,rfl,K⟩) ?_);by_cases hgo:b.getD n 0=46/\h_ r p n=true
  ·rw[zc hgo]at f;refine BJ (by rw[zj hgo.1,hgo.2];rfl) ⟨fun t o=>∃g:List Nat,A5 (t=[some (.ref a),some (.str (Ak b)),some (.int (x:Nat)),some (.int (d:Nat)),some (.str ⟨#[p]⟩),some (.ref q),some (.int (HE (r.next d n)))]) (Ap H o) (o q=some (.lst (nV g))) (g.length<=j.length+1) (y=g++Dr r b p d m n),?_,?_⟩;·rintro t o ⟨g,rfl,D,h3,l3,O⟩;exact⟨m,yV m,g,n,rfl,D,h3,M,∅,∅,O⟩
   ·refine EK (fun t o=>∃g:List Nat,A5 (t=[some (.ref a),some (.str (Ak b)),some (.int (x:Nat)),some (.int (d:Nat)),some (.str ⟨#[p]⟩),some (.ref q),some (.int (n:Nat))]) (Ap H o) (o q=some (.lst (nV g))) (g.length<=j.length+1) (y=g++(if p=75/\r.slides=false then[]else Dr r b p d m n))) ?_ ?_
    ·rintro t H2 ⟨g,rfl,D,h3,l3,O⟩;refine CU (DG (DI (decide (p=75)) (!r.slides) (fun Q' K=>⟨_,rfl,rfl,_,rfl,HL K (Di (n:=75) rfl)⟩) (fun Y Q' K=>⟨_,rfl,a,aH,Z,_,_,rfl,D _ _ X,s.hc.cl,s.hc.WI,Yq r L,rfl,_,rfl,HL K kK⟩) ?_));by_cases hbr:p=75/\r.slides=false;·refine BJ (by rw[zj hbr.1,hbr.2];rfl) ?_;rw[zc hbr,zR]at O;exact⟨_,rfl,k H2 q D hq (by rw[O];exact h3)⟩
     ·refine B9 (by cases a4:r.slides<;>simp_all) ?_;rw[zb hbr]at O;obtain⟨bn,U⟩:=I n C;exact⟨_,rfl,a,aH,Z,_,_,rfl,D _ _ X,s.hc.cl,s.hc.GL,EZ r L,_,rfl,L,_,_,_,rfl,rfl,AJ.of (D _ _ P),AN (by rw[z7,U];rfl),_,rfl,bn,_,_,_,rfl,rfl,AJ.of (D _ _ (T n bn U)),AN (ML w.Z hd M),g,rfl,D,h3,l3,O⟩
    ·intro G;exists _,rfl,a,Z,_,rfl,J _ _ X,JY r L,_,rfl,_,rfl,a,r,p,n,rfl,w.same J,C,_,rfl;by_cases hst:WL r p n=true
     ·rw[zc hst]at f;refine BJ hst ⟨_,rfl,.inl ⟨rfl,_,AJ.of A⟩,_,rfl,q,_,_,rfl,rfl,A,?_,?_⟩;·unfold nV;rw[z3];exact zF (show j.length<169 by lia) BO
      ·refine G _ _ ⟨j++[n],rfl,Bv J hq,?_,by rw[zd];exact ze _,by rw[f,zX]⟩;rw[Aa];unfold nV;rw[zu];rfl
     ·rw[zb hst,qh]at f;rw[y4]at hst;exact B9 hst (G _ _ ⟨j,rfl,J,A,∅,f⟩)
  ·rw[zb hgo,zR]at f;exact B9 (by cases a6:h_ r p n<;>simp_all) (l f)
abbrev vr:List Str:=["hall","cells","begin","ends","direction"]
theorem jq:Ah vr ["hall","cells","begin"] (Ad hH):={}
theorem cm(t:AY):FK 4 "ends_from" ["hall","cells","begin"] (Z6 aH):=by
 refine t.TR.has fun F=>F.ok jq fun H Q E z h=>?_;obtain⟨a,r,b,c,f,rfl,s,B,p,k⟩:=h;have o:c<169:=s.Z.lt p;exists%[An (i:=3) jq.nd (AF Ce),BC y0 rfl (ES (by rfl) t.GK (#v[Ae])) (Aw (i:=4) jq.nd) (Ag (A2 (B5 zK xN wA GP (pv 3) (#v[Ay (Y2 t) z rfl Ar (#v[pv 0,pv 1,pv 2,pv 4])])))) |Aj (pv 3)];have x:∀d,Dr r b (b.getD c 0) d 13 c=DW r (Aq b f) c d:=fun d=>YS s.Z B f d c o 13 c p;refine⟨zx _,fun q m=>?_⟩;refine⟨4,rfl,⋯,⋯,GY (n:=4) (fun i j H'=>∃l,A3 (j=[some (.ref a),some (.str (Ak b)),some (.int (c:Nat)),some (.ref q),l]) (Ap H H') (H' q=some (.lst (nV ((List.range i).flatMap fun d=>DW r (Aq b f) c d)))/\((List.range i).flatMap fun d=>DW r (Aq b f) c d).length<=13*i)) ⟨none,rfl,Af m,Aa,zx _⟩ ?_ ?_⟩
 ·rintro i j H' D ⟨l,rfl,g,e,v⟩;have G:(0:Int)+(i:Int)=(i:Int):=∅;refine⟨_,rfl,.inl ⟨rfl,_,AJ.of e⟩,_,rfl,_,rfl,_,rfl,_,rfl,a,r,b,c,i,?_,s.same g,B.len,p,D,fun I y u A w=>?_⟩;·rw[G];rfl
  ·rw[x i]at w;have C:(DW r (Aq b f) c i).length<=13:=by rw[<-x i];exact PK 13 c
   exists q,y,_,_,rfl,rfl,u _ _ e,w,?_;·unfold nV;rw[z3,z3];have:=BO;lia
   ·exists _,rfl,Bv (g.trans u) m,?_;·rw[Aa,yg,yd];unfold nV;rw[zu,yb]
    ·rw[yg,yd,zd,yb];lia
 ·rintro j H' ⟨l,rfl,g,e,Y⟩;exact⟨_,rfl,k H' q g m e⟩
theorem BR.sq(h:BR K a xs)(H:Hp):Em K H a xs:= .inr h
def Rc(H:Hp)(q:Addr)(c:List (Nat×Nat)):Prop:=∃b:List Addr,H q=some (.lst (b.map V.ref))/\Paired (fun a (m:Nat×Nat)=>Ia H a m.1 m.2) b c
inductive Wb(C:Addr):_|mk(a p:Addr)(r:Rules)(b:List Nat)(s:Nat):vs=[.ref a,.ref p]->Bg C H a r->De H p b s->A_ b->Right r b->s<=1->(∀H' q,Ap H H'->H q=none->Rc H' q (r.moves (Aq b s))->Q (.ref q) H')->Wb C vs H Q E
inductive R8(C:Addr):_|mk(a p:Addr)(r:Rules)(b:List Nat)(s:Nat):vs=[.ref a,.ref p]->Bg C H a r->De H p b s->A_ b->Right r b->s<=1->(∀H',Ap H H'->Q (.int (r.over (Aq b s):Nat)) H')->R8 C vs H Q E
theorem Am{d c:Type}{R S:d->c->Prop}(h:∀a b,R a b->S a b){f:List d}{e:List c}(p:Paired R f e):Paired S f e:=Paired.fP p h
theorem BV{b a:Type}{R:b->a->Prop}:∀{f d:List b}{e c:List a},Paired R f e->Paired R d c->Paired R (f++d) (e++c) |_,_,_,_,.nil,q=>q|_,_,_,_,.cons h t,q=> .cons h (BV t q)
theorem in1(e:x=⟨#[n]⟩:=by rfl):(if false=true then !NC (V.str ⟨#[c]⟩) [V.str x]else NC (V.str ⟨#[c]⟩) [V.str x])=(c==n):=by rw[zb ⋯];show((x==(⟨#[c]⟩:Str)) ||false)=_;rw[wC,ou e]
def Ze(r:Rules)(b:List Nat)(t c:Nat):List (Nat×Nat):=if NN t (b.getD c 0)=true then(CJ r (Aq b t) c).map fun e=>(c,e)else[]
theorem m9(r:Rules)(b:List Nat)(t:Nat):hZ r b t=(List.range 169).flatMap (Ze r b t):=rfl
theorem Ji{r:Rules}(Z:B1 r){p:Tafl.Pos}(a:r.isCell c=true):(CJ r p c).length<=52:=by
 have d:(CJ r p c).Nodup:=by unfold CJ;exact wW.filter _
 have b:(CJ r p c).Perm (r.reach p c):=(w9 d (K6 Z a)).mpr fun x=>by rw[HM.MQ];exact⟨fun h=>h.2,fun h=>⟨by have:=Z.lt (HK Z a h).1;lia,h⟩⟩
 rw[b.length_eq];exact OQ Z a
abbrev qI:List Str:=["hall","position","cells","found","begin","piece","end"]
theorem UD:Ah qI ["hall","position"] (Ad UG):={}
theorem JZ(P:AY):FK 5 "moves_of" ["hall","position"] (Wb aH):=by
 obtain⟨aS,s0,s1,hS,kS,k0,k1⟩:=P.AQ;refine P.V9.has fun F=>F.ok UD fun H Q E hr h=>?_;obtain⟨a,p,r,b,f,rfl,A,hp,B,R,hs,k⟩:=h;exists%[AM (Ao Hs (Ay (Gx P) (hr.mono ⋯) rfl Ar (#v[pv 0,pv 1])) Ae) (Ag (Aj (AF Ce))) Au,An (i:=2) UD.nd (Az Bf (pv 1) Ae),An (i:=3) UD.nd (AF Ce),BC y0 rfl (IJ (by rfl) P.BG (#v[pv 2])) (Dj rfl (AS (Aw (i:=4) UD.nd) (AS (Aw (i:=5) UD.nd) Cq))) (Ag (AM (Ao EV (pv 5) (Az Bf (AD (v:= .ref aS) rfl hS rfl) (Az Bf (pv 1) Ae)) #v[]) (Ag (A2 (B5 zK xN wA GP (pv 3) (#v[Ga (own:=[("end",6)]) rfl UD.nd (BM (AO P9 P.Sw Gv (#v[Ay (cm P) hr rfl Ar (#v[pv 0,pv 2,pv 4])]))) (Dn (N0:=qI) (sc0:=Ad UG) rfl rfl ∎) (fun Y Y Y Y Y=>Aw (i:=6) UD.nd) (fun Y Y Y Y Y=>Ci) (fun Y Y Y Y Y=>B3 (#v[pv 4,pv 6]))])))) Au)) |Aj (pv 3)];refine⟨_,rfl,_,rfl,a,p,r,b,f,rfl,A,hp,B,fun H1 t=>⟨rfl,_,rfl,?_⟩⟩;rw[MN B hs]at k;by_cases he:r.ended (Aq b f)=0
 ·rw[zb (fun q=>q he),m9]at k;refine B9 (by rw[he];decide) ⟨_,rfl,p,_,_,_,rfl,rfl,.of (t _ _ hp),rfl,zx _,fun q O=>?_⟩;obtain⟨g,xs,eg,kg,fg,ig⟩:∃g xs,([V.ref s0,V.ref s1]:List V)[f]?=some (.ref g)/\BR K g xs/\xs.all Hz=true/\∀c,(if false=true then !NC (V.str ⟨#[c]⟩) xs else NC (V.str ⟨#[c]⟩) xs)=NN f c:=by match f,hs with|0,_=>exact⟨s0,_,rfl,k0,rfl,fun c=>in1⟩ |1,_=>exact⟨s1,_,rfl,k1,rfl,fun c=>pk⟩
  have a1:(Ak b).cps.size=169:=by rw[<-B.len];simp[Ak]
  refine⟨_,rfl,Ak b,rfl,GZ (fun i σ H'=>E2 fun v4 v5=>A4 (σ=[some (.ref a),some (.ref p),some (.str (Ak b)),some (.ref q),v4,v5,none]) (Ap H H') (Rc H' q ((List.range i).flatMap (Ze r b f))) (((List.range i).flatMap (Ze r b f)).length<=52*i)) ⟨none,none,rfl,t.trans (Af O),⟨[],Aa,.nil⟩,zx _⟩ ?_ ?_⟩
  ·rintro i c σ H' T hi ⟨v4,v5,rfl,U,⟨as,l,I⟩,Z⟩ hT;have a3:i<169:=by rw[<-a1];exact(tS.mp hi).1
   have a4:c=b.getD i 0:=by
    have:b[i]?=some c:=by simpa[Ak]using hi
    rw[z5,this];rfl
   subst a4;have s:Ap H' (Av H' T (.tup [.int (i:Nat),.str ⟨#[b.getD i 0]⟩])):=Af hT;exists T,_,rfl,.of Aa,rfl,_,_,rfl,_,_,rfl,rfl,_,rfl,_,rfl,p,_,_,_,rfl,rfl,.of (s _ _ (U _ _ hp)),rfl,aS,_,_,_,rfl,rfl,kS.sq _,AN eg,g,xs,rfl,.inr (kg.sq _),rfl,fg,_,rfl;have S:=U.trans s;by_cases how:NN f (b.getD i 0)=true
   ·refine BJ ((ig _).trans how) ?_;have d:r.isCell i=true:=(R i a3 (by intro z;rcases JK hs how with⟨Y,h⟩ |⟨Y,h|h⟩<;>rw[z]at h<;>cases h)).1;refine⟨_,rfl,.inl ⟨rfl,_,AJ.of (s _ _ l)⟩,_,rfl,_,rfl,_,rfl,a,r,b,i,f,rfl,A.same S,B,d,fun H2 q2 s2 a9 h2=>?_⟩;refine⟨q2,(r.reach (Aq b f) i).map fun(c:Nat)=>(c:Int),rfl,AJ.of (by rw[h2];unfold nV;rw[zG];rfl),?_,fun ns p' M L a2=>?_⟩;·rw[z3];have:=OQ A.Z (p:=Aq b f) d;lia
    ·have e:=Hj (n:=192) M L (K6 A.Z d) fun x hx=>by have:=A.Z.lt (HK A.Z d hx).1;lia
     have e':ns=(CJ r (Aq b f) i).map fun(x:Nat)=>(x:Int):=e;subst e';have s3:Ap H' (Av H2 p' (.lst (((CJ r (Aq b f) i).map fun(x:Nat)=>(x:Int)).map V.int))):=(s.trans s2).trans (Af a2);refine⟨p',rfl,⟨_,AJ.of Aa⟩,fun D hD=>?_⟩;refine Dc (xs:=((CJ r (Aq b f) i).map fun(x:Nat)=>(x:Int)).map V.int) (fun j w=>∃C:List Addr,Ap (Av H2 p' (.lst (((CJ r (Aq b f) i).map fun(x:Nat)=>(x:Int)).map V.int))) w/\w D=some (.lst (C.map V.ref))/\Paired (fun a (m:Nat×Nat)=>Ia w a m.1 m.2) C (((CJ r (Aq b f) i).take j).map fun e=>(i,e))) ⟨[],Af hD,Aa,.nil⟩ (fun j w Y ⟨_,z,_,_⟩=>AJ.of (z _ _ Aa)) ?_ ?_
     ·rintro j v w hj ⟨C,sj,u,N⟩;obtain⟨e2,a0,rfl⟩:∃e2,(CJ r (Aq b f) i)[j]?=some e2/\v= .int (e2:Nat):=by rw[zG,z7,zy]at hj;obtain⟨c,e,rfl⟩:=hj;exact⟨c,e,rfl⟩
      refine⟨rfl,?_⟩;unfold HG;cbv;rw[zc rfl];refine⟨_,rfl,_,rfl,K2,fun t2 J=>?_⟩;have X:D≠t2:=Ab u J;have a5:j<52:=zF (z8.mp a0).1 (Ji A.Z d);have dl:C.length<=j:=by rw[zE N,z3,zO];exact Nat.min_le_left _ _
      exists C.map V.ref,by rw[Ac X];exact u,?_,C++[t2],fun b' o e'=>?_,?_;·rw[z3];have:=BO;lia
      ·rw[Ac (Ab e' hD),Ac (Ab (sj _ _ e') J)];exact sj _ _ e'
      ·rw[Aa,zu];rfl
      ·rw[yi,a0,zu];refine BV (Am (fun G m' z=>?_) N) (.cons ?_ .nil);·show Av _ D _ G=_;have y:w G=_:=z;rw[Ac (Sv y u (by intro q;cases q)),Ac (Ab y J)];exact y
       ·show Av _ D _ t2=_;rw[Ac (zN X),Aa]
     ·rintro w ⟨C,sj,u,N⟩;rw[z3,z3,y1]at N;have W:Ap H' w:=s3.trans sj;have a6:q≠D:=fun z=>by rw[z,show H' D=none from(s3.free hD)]at l;cases l
      have a7:C.length<=52:=by rw[zE N,z3];exact Ji A.Z d
      have a8:as.length<=52*i:=by rw[zE I];exact Z
      exists q,D,_,_,rfl,rfl,W _ _ l,u,?_;·rw[z3,z3];have:(9000:Nat)<=sizeLine:=⋯;lia
      ·have eF:(List.range (i+1)).flatMap (Ze r b f)=(List.range i).flatMap (Ze r b f)++(CJ r (Aq b f) i).map fun e=>(i,e):=by rw[yg,yd,yb];unfold Ze;rw[zc how]
       exists _,_,rfl,Bv (U.trans W) (t.free O),⟨as++C,by rw[Aa,zu],?_⟩
       ·rw[eF];refine BV (Am (fun G m' z=>?_) I) (Am (fun G m' z=>?_) N);·show Av _ q _ G=_;have y:w G=_:=W _ _ z;rw[Ac (Sv y (W _ _ l) (by intro q;cases q))];exact y
        ·show Av _ q _ G=_;have y:w G=_:=z;rw[Ac (Sv y (W _ _ l) (by intro q;cases q))];exact y
       ·rw[eF,zd,z3];have:=Ji A.Z (p:=Aq b f) d;lia
   ·rw[y4]at how;refine B9 ((ig _).trans how) ?_;have eF:(List.range (i+1)).flatMap (Ze r b f)=(List.range i).flatMap (Ze r b f):=by rw[yg,yd,yb];unfold Ze;rw[zb (by rw[how];decide),zR]
    refine⟨_,_,rfl,S,⟨as,s _ _ l,?_⟩,by rw[eF];lia⟩;rw[eF];exact Am (fun Y Y=>s _ _) I
  ·rintro σ H' ⟨v4,v5,rfl,U,hm,Y⟩;rw[a1]at hm;exact⟨_,rfl,k H' q U (t.free O) hm⟩
 ·rw[zc he]at k;exact BJ (by
   have:¬V.int ((r.ended (Aq b f):Nat):Int)=V.int 0:=by intro z;injection z with z;exact he ∅
   rw[zo this];rfl) ⟨zx _,fun q O=>k _ q (t.trans (Af O)) (t.free O) ⟨[],Aa,.nil⟩⟩
abbrev t6:List Str:=["hall","position","state"]
theorem lT:Ah t6 ["hall","position"] (Ad Wt):={}
theorem Sz{q:Addr}{a:List (Nat×Nat)}(h:Rc H q a):∃xs,H q=some (.lst xs)/\(!xs.isEmpty)=!a.isEmpty:=by obtain⟨d,c,b⟩:=h;exists _,c;cases b<;>rfl
theorem Ng(f:AY):FK 6 "over_by" ["hall","position"] (R8 aH):=by
 refine f.YF.has fun F=>F.ok lT fun H Q E j h=>?_;obtain⟨a,p,r,b,e,rfl,n,l,B,R,t,k⟩:=h;exists%[An (i:=2) lT.nd (Ay (Gx f) (j.mono ⋯) rfl Ar (#v[pv 0,pv 1])),AM (Cm (Ao AZ (pv 2) Ae) (BL (FW (IH (Ay (JZ f) j (by rfl) Ar (#v[pv 0,pv 1])) (fun Y=>rfl))))).pt (Ag (Aj Ae)) Au|Aj (pv 2)];refine⟨_,rfl,_,rfl,a,p,r,b,e,rfl,n,l,B,fun v c=>?_⟩;exists _,rfl,rfl,_,rfl;unfold Rules.over at k;by_cases he:r.ended (Aq b e)=0;·rw[zb (fun q=>q he)]at k;refine BJ (zj (by rw[he];rfl)) ⟨_,rfl,_,rfl,a,p,r,b,e,rfl,n.same c,c _ _ l,B,R,t,fun o q g x u=>?_⟩;obtain⟨xs,s,ex⟩:=Sz u;exists _,.inl ⟨xs,AJ.of s,rfl⟩;cbv;rw[ex];cases d:r.moves (Aq b e)with|nil=>rw[d,zc rfl]at k;exact BJ rfl (k o (c.trans g)) |cons m w=>rw[d,zb (by intro z;cases z)]at k;refine B9 rfl ⟨_,rfl,?_⟩;rw[he];exact k o (c.trans g)
 ·rw[zc he]at k;refine B9 (zo (by intro z;injection z with z;exact he ∅)) (B9 rfl ⟨_,rfl,k v c⟩)
section
variable(P:Program)(w:World)(K:Frag)(mg:Str->Option Value)(base:Heap)
inductive VN(C:Addr)(name:Str)(ns:List Int):Prop|mk(f fd:_):PM K C f->VT K C "told"->mg name=some (.ref C)->Bn K fd ["self"] []->FF P w K mg base PQ 2 f fd ["self"] (Lv K ns)->VN C name ns
inductive Fn(K:Frag)(n:Int):_|mk(a kind place:_):vs=[.ref a,.int kind,.int place]->(∃C f,PM K C f/\VT K C "told"/\H a=some (XO a C none)/\∀H' dx l,H' a=some (XO a C (some dx))->H' dx=some (.xd [("told",.ref l)])->H' l=some (.lst (([n,kind,place]:List Int).map V.int))->H dx=none->H l=none->dx≠a->l≠a->(∀b o,H b=some o->b≠a->H' b=some o)->Q .B0 H')->Fn K n vs H Q E
inductive VQ(C:Addr)(name:Str)(n:Int):Prop|mk(f fd:_):PM K C f->VT K C "told"->mg name=some (.ref C)->Bn K fd ["self","kind","place"] []->FF P w K mg base PQ 2 f fd ["self","kind","place"] (Fn K n)->VQ C name n
end
abbrev pX(C:Addr)(x:Str)(ns:List Int):Prop:=VN P w K mg base C x ns
abbrev fX(C:Addr)(x:Str)(n:Int):Prop:=VQ P w K mg base C x n
def Ref(C:Addr)(ns:List Int)(H:Hp)(E:XK):Prop:=∀H' a l,H' a=some (.xd [("told",.ref l)])->H' l=some (.lst (ns.map V.int))->H l=none->Ap H H'->E (.ref C) (some a) H'
theorem Ref.same{a:Hp}{E:XK}(h:Ref C ns H E)(s:Ap H a):Ref C ns a E:=fun H' f l e d c b=>h H' f l e d (s.free c) (s.trans b)
section
variable{X:Cx}{C:Addr}{x:Str}{ns:List Int}{E:XK}{p pos rpos:PySem.Pos}{n:Int}{e:Expr}{es:List Expr}{t:TA}
theorem DZ(h:VN X.prog X.w X.K X.mg X.base C x ns)(d:Ck 3 X.A)(g:Gl X x)(i:X.calm=true)(c:C7 true X E)(a:(x==("__debug__":Str))=false:=by decide):PS X (.Raise (some (.Call (.Name x p) [] [] pos)) none rpos) (HH C (Lv X.K ns) E Ca):=by obtain⟨f,fd,M,T,e,b,G⟩:=h;exact XJ M G d g e b i c a
theorem Sf(h:VQ X.prog X.w X.K X.mg X.base C x n)(g:Ck 3 X.A)(j:Gl X x)(l:X.calm=true)(d:C7 true X E)(m:PA X (e::es) t)(c:(x==("__debug__":Str))=false:=by decide)(k:starEach (e::es) X.env=(false,eval e X.env)::starEach es X.env:=by rfl)(a:(backTo pos (starEach es X.env)).any (·.1)=false:=by rfl):PS X (.Raise (some (.Call (.Name x p) (e::es) [] pos)) none rpos) (HH C (Fn X.K n) E t):=by obtain⟨f,fd,M,T,i,b,G⟩:=h;exact EO M G g j i b l d m c k a
end
theorem D_{c:Str}(h:pX C c ns){E:XK}{D:Ends}{m:L2.St}(k:Ref C ns H E):HH C (Lv K ns) E Ca D m H:=by obtain⟨f,fd,M,T,v,b,G⟩:=h;refine⟨zx _,fun a n=>⟨a,rfl,C,f,M,T,Aa,fun H' j l t s r u i p g q=>⟨rfl,some j,t,k (Lk H' a) j l (by rw[BY p];exact s) (by rw[BY g];exact r) (by rw[Ac g]at i;exact i) fun b o e=>?_⟩⟩⟩;have d:b≠a:=Ab e n;rw[BY d];exact q b o (by rw[Ac d];exact e) d
theorem Tw{g:Str}{n kind c:Int}(h:fX C g n){E:XK}(k:Ref C [n,kind,c] H E):([V.int kind,V.int c]:List V).length<=sizeLine/\∀a,H a=none->Fn K n [.ref a,.int kind,.int c] (Av H a (XO a C none)) (fun v q=>v= .B0/\∃d,q a=some (XO a C d)/\E (.ref C) d (Lk q a)) E0:=by obtain⟨f,fd,M,T,z,b,G⟩:=h;refine⟨K2,fun a r=>⟨a,kind,c,rfl,C,f,M,T,Aa,fun H' p l x w u y m s j t=>⟨rfl,some p,x,k (Lk H' a) p l (by rw[BY s];exact w) (by rw[BY j];exact u) (by rw[Ac j]at m;exact m) fun b o e=>?_⟩⟩⟩;have i:b≠a:=Ab e r;rw[BY i];exact t b o (by rw[Ac i];exact e) i
theorem Qe:Ah ["self"] ["self"] (Ad K3):={}
theorem Hw(q:AY):pX aW "WrongMost" [-1]:=by
 obtain⟨f,fd,F,G,L,J,t⟩:=q.Rm;obtain⟨y,j,P,O,I,w,x,D⟩:=q.ref;exists f,fd,L,J,t,G;have N:Xa 1 y j ["self","told"] (Cp K):=CG O w;refine F.fw Qe fun H Q E u h=>?_;obtain⟨a,rfl,C,g,M,T,n,k⟩:=h;exists Ag (A2 (Ft N u rfl x D I Ar (#v[pv 0,AF (#v[Hr ED Ae])])));refine⟨_,rfl,1,rfl,Ju,fun l i=>?_⟩;have d:a≠l:=Ab n i;refine⟨a,.ref l,rfl,C,g,M,T,by rw[Ac d];exact n,fun H' p B A c s m=>?_⟩;have r:p≠l:=fun z=>by rw[z,Aa]at c;cases c
 refine k H' p l B A (m l _ Aa (zN d)) (by rw[Ac r]at c;exact c) i s (zN d) fun b o e v=>?_;exact m b o (by rw[Ac (Ab e i)];exact e) v
theorem Iv:Ah ["self"] ["self"] (Ad EL):={}
theorem BX(q:AY):pX aP "NoSuchPosition" [-2]:=by
 obtain⟨f,fd,F,G,L,J,t⟩:=q.Jy;obtain⟨y,j,P,O,I,w,x,D⟩:=q.ref;exists f,fd,L,J,t,G;have N:Xa 1 y j ["self","told"] (Cp K):=CG O w;refine F.fw Iv fun H Q E u h=>?_;obtain⟨a,rfl,C,g,M,T,n,k⟩:=h;exists Ag (A2 (Ft N u rfl x D I Ar (#v[pv 0,AF (#v[Hr ED Ae])])));refine⟨_,rfl,2,rfl,Ju,fun l i=>?_⟩;have d:a≠l:=Ab n i;refine⟨a,.ref l,rfl,C,g,M,T,by rw[Ac d];exact n,fun H' p B A c s m=>?_⟩;have r:p≠l:=fun z=>by rw[z,Aa]at c;cases c
 refine k H' p l B A (m l _ Aa (zN d)) (by rw[Ac r]at c;exact c) i s (zN d) fun b o e v=>?_;exact m b o (by rw[Ac (Ab e i)];exact e) v
theorem KZ:Ah ["self"] ["self"] (Ad FT):={}
theorem Ct(q:AY):pX aN "NothingThere" [-3]:=by
 obtain⟨f,fd,F,G,L,J,t⟩:=q.LM;obtain⟨y,j,P,O,I,w,x,D⟩:=q.ref;exists f,fd,L,J,t,G;have N:Xa 1 y j ["self","told"] (Cp K):=CG O w;refine F.fw KZ fun H Q E u h=>?_;obtain⟨a,rfl,C,g,M,T,n,k⟩:=h;exists Ag (A2 (Ft N u rfl x D I Ar (#v[pv 0,AF (#v[Hr ED Ae])])));refine⟨_,rfl,3,rfl,Ju,fun l i=>?_⟩;have d:a≠l:=Ab n i;refine⟨a,.ref l,rfl,C,g,M,T,by rw[Ac d];exact n,fun H' p B A c s m=>?_⟩;have r:p≠l:=fun z=>by rw[z,Aa]at c;cases c
 refine k H' p l B A (m l _ Aa (zN d)) (by rw[Ac r]at c;exact c) i s (zN d) fun b o e v=>?_;exact m b o (by rw[Ac (Ab e i)];exact e) v
theorem Ms:Ah ["self"] ["self"] (Ad Ho):={}
theorem FD(q:AY):pX aO "AlreadyOver" [-4]:=by
 obtain⟨f,fd,F,G,L,J,t⟩:=q.NG;obtain⟨y,j,P,O,I,w,x,D⟩:=q.ref;exists f,fd,L,J,t,G;have N:Xa 1 y j ["self","told"] (Cp K):=CG O w;refine F.fw Ms fun H Q E u h=>?_;obtain⟨a,rfl,C,g,M,T,n,k⟩:=h;exists Ag (A2 (Ft N u rfl x D I Ar (#v[pv 0,AF (#v[Hr ED Ae])])));refine⟨_,rfl,4,rfl,Ju,fun l i=>?_⟩;have d:a≠l:=Ab n i;refine⟨a,.ref l,rfl,C,g,M,T,by rw[Ac d];exact n,fun H' p B A c s m=>?_⟩;have r:p≠l:=fun z=>by rw[z,Aa]at c;cases c
 refine k H' p l B A (m l _ Aa (zN d)) (by rw[Ac r]at c;exact c) i s (zN d) fun b o e v=>?_;exact m b o (by rw[Ac (Ab e i)];exact e) v
theorem U8:Ah ["self"] ["self"] (Ad OC):={}
theorem KN(q:AY):pX aT "TooMany" [-9]:=by
 obtain⟨f,fd,F,G,L,J,t⟩:=q.Xq;obtain⟨y,j,P,O,I,w,x,D⟩:=q.ref;exists f,fd,L,J,t,G;have N:Xa 1 y j ["self","told"] (Cp K):=CG O w;refine F.fw U8 fun H Q E u h=>?_;obtain⟨a,rfl,C,g,M,T,n,k⟩:=h;exists Ag (A2 (Ft N u rfl x D I Ar (#v[pv 0,AF (#v[Hr ED Ae])])));refine⟨_,rfl,9,rfl,Ju,fun l i=>?_⟩;have d:a≠l:=Ab n i;refine⟨a,.ref l,rfl,C,g,M,T,by rw[Ac d];exact n,fun H' p B A c s m=>?_⟩;have r:p≠l:=fun z=>by rw[z,Aa]at c;cases c
 refine k H' p l B A (m l _ Aa (zN d)) (by rw[Ac r]at c;exact c) i s (zN d) fun b o e v=>?_;exact m b o (by rw[Ac (Ab e i)];exact e) v
theorem Mr:Ah ["self","kind","place"] ["self","kind","place"] (Ad Hn):={}
theorem CB(r:AY):fX aL "LineAtFault" (-5):=by
 obtain⟨f,fd,F,I,N,L,u⟩:=r.NF;obtain⟨A,m,R,P,J,x,y,G⟩:=r.ref;exists f,fd,N,L,u,I;have O:Xa 1 A m ["self","told"] (Cp K):=CG P x;refine F.fw Mr fun H Q E v h=>?_;obtain⟨a,kind,d,rfl,C,g,M,T,p,k⟩:=h;exists Ag (A2 (Ft O v rfl y G J Ar (#v[pv 0,AF (#v[Hr ED Ae,pv 1,pv 2])])));refine⟨_,rfl,5,rfl,_,rfl,_,rfl,kZ,fun l j=>?_⟩;have i:a≠l:=Ab p j;refine⟨a,.ref l,rfl,C,g,M,T,by rw[Ac i];exact p,fun H' q D B c t n=>?_⟩;have s:q≠l:=fun z=>by rw[z,Aa]at c;cases c
 refine k H' q l D B (n l _ Aa (zN i)) (by rw[Ac s]at c;exact c) j t (zN i) fun b o e w=>?_;exact n b o (by rw[Ac (Ab e j)];exact e) w
theorem KY:Ah ["self","kind","place"] ["self","kind","place"] (Ad FR):={}
theorem Cs(r:AY):fX aS "RulesAtFault" (-6):=by
 obtain⟨f,fd,F,I,N,L,u⟩:=r.LK;obtain⟨A,m,R,P,J,x,y,G⟩:=r.ref;exists f,fd,N,L,u,I;have O:Xa 1 A m ["self","told"] (Cp K):=CG P x;refine F.fw KY fun H Q E v h=>?_;obtain⟨a,kind,d,rfl,C,g,M,T,p,k⟩:=h;exists Ag (A2 (Ft O v rfl y G J Ar (#v[pv 0,AF (#v[Hr ED Ae,pv 1,pv 2])])));refine⟨_,rfl,6,rfl,_,rfl,_,rfl,kZ,fun l j=>?_⟩;have i:a≠l:=Ab p j;refine⟨a,.ref l,rfl,C,g,M,T,by rw[Ac i];exact p,fun H' q D B c t n=>?_⟩;have s:q≠l:=fun z=>by rw[z,Aa]at c;cases c
 refine k H' q l D B (n l _ Aa (zN i)) (by rw[Ac s]at c;exact c) j t (zN i) fun b o e w=>?_;exact n b o (by rw[Ac (Ab e j)];exact e) w
inductive V_:_|mk(f o w:Nat):vs=[.int f,.int o,.int w]->0<w->w<=13->Q (.int (f+o+o/w:Nat)) H->V_ vs H Q E
def Yh(p g:Nat):Bool:=if p=46 then true else if p=75 then(g==46||g==83)else g==46
inductive Mg:_|mk(p g:Nat):vs=[.str ⟨#[p]⟩,.str ⟨#[g]⟩]->(∀H',Ap H H'->Q (.bl (Yh p g)) H')->Mg vs H Q E
theorem o5:Ah ["first","order","wide"] ["first","order","wide"] (Ad ZR):={}
theorem Pr(f:AY):FK 1 "place_in_rows" ["first","order","wide"] V_:=by
 refine f.Ll.has fun F=>F.ok o5 fun H Q E g h=>?_;obtain⟨a,b,c,rfl,i,d,k⟩:=h;exists Ag (Aj (AA Cf (AA Cf (pv 0) (pv 1)) (AA IM (pv 1) (pv 2))));have e:(b:Int)/(c:Int)=((b/c:Nat):Int):=by first|exact(tz b c).symm|exact(Int.ofNat_ediv b c).symm
 exists _,rfl,_,rfl,_,_,rfl,rfl,_,rfl,_,rfl,_,_,rfl,rfl,⟨∅,∅⟩,_,_,rfl,rfl;cbv;rw[e];exact k
theorem o7:Ah ["piece","sign"] ["piece","sign"] (Ad OH):={}
theorem QC(b:AY):FK 1 "may_start" ["piece","sign"] Mg:=by
 refine b.TQ.has fun F=>F.ok o7 fun H Q E c h=>?_;obtain⟨p,g,rfl,k⟩:=h;exists%[AM (Ao AZ (pv 0) Ai) (Ag (Aj K7)) Au,AM (Ao AZ (pv 0) Ai) (Ag (Aj (Bo EV (pv 1) (B3 (#v[Ai,Ai])) #v[]))) Au|Aj (Bo AZ (pv 1) Ai)];exists _,rfl,rfl,_,rfl;unfold Yh at k;by_cases h1:p=46;·rw[zc h1]at k;exact BJ (X9 (n:=46) h1) (k H (AR _))
 ·rw[zb h1]at k;refine B9 (XA (n:=46) h1) ⟨_,rfl,rfl,_,rfl,?_⟩;by_cases h2:p=75;·rw[zc h2]at k;refine BJ (X9 (n:=75) h2) ⟨_,rfl,K2,fun t a=>⟨t,_,rfl,.inr (.of Aa),rfl,rfl,?_⟩⟩;have e:(if false=true then !NC (V.str ⟨#[g]⟩) [V.str ".",V.str "S"]else NC (V.str ⟨#[g]⟩) [V.str ".",V.str "S"])=(g==46||g==83):=pk;have:=k _ (Af (o:= .tup [V.str ".",V.str "S"]) a);rw[<-e]at this;exact this
  ·rw[zb h2]at k;refine B9 (XA (n:=75) h2) ⟨_,rfl,rfl,?_⟩;have e:decide (V.str ⟨#[g]⟩=V.str ".")=(g==46):=(Di (n:=46) rfl).trans (by rw[zZ,zJ,zP]);have:=k H (AR _);rw[<-e]at this;exact this
def B8(H:Hp)(l:Addr)(b:List (Int×Int)):Prop:=∃a:List Addr,H l=some (.lst (a.map V.ref))/\Paired (Cj H) a b
def cz(y:List Nat)(a w o:Nat):List (Int×Int):=if y.getD o 0=83/\83∈y.take o then[(((a+o+o/w:Nat):Int),2)]else[]
def gF(y:List Nat)(a w n:Nat):List (Int×Int):=(List.range n).flatMap (cz y a w)
inductive O5:_|mk(sd:Addr)(kvs:List (Key×V))(y:List Nat)(gp w:Nat):vs=[.ref sd]->H sd=some (.dK kvs)->Bb kvs (Sum.inr "ground")=some (.str (Ak y))->Bb kvs (Sum.inr "ground place")=some (.int gp)->Bb kvs (Sum.inr "wide")=some (.int w)->0<w->w<=13->y.length<=169->(∀H' l,Ap H H'->H l=none->B8 H' l (gF y gp w y.length)->Q (.ref l) H')->O5 vs H Q E
theorem cU{j:Nat}(c:j<=b.length):DO (Ak b) none (some (j:Int))=Ak (b.take j):=by have a:(Ak b).length=b.length:=B4 b;unfold DO;rw[a,Bc,HT.Fo,HT.IB,xf c,xK,uR];rfl
theorem HW{l t:Addr}{a:List Addr}{d:List (Int×Int)}{p:Int×Int}(s:Ap H H')(h:H' l=some (.lst (a.map V.ref)))(f:Paired (Cj H') a d)(g:Cj H' t p):B8 (Av H' l (.lst (a.map V.ref++[.ref t]))) l (d++[p]):=by
 have c:∀b xs,H' b=some (.tup xs)->Av H' l (.lst (a.map V.ref++[.ref t])) b=some (.tup xs):=fun b xs e=>by
  rw[Ac];·exact e
  ·intro z;rw[z,h]at e;cases e
 exact⟨a++[t],by rw[Aa,zu];rfl,BV (Am (fun Y Y=>c _ _) f) (.cons (c _ _ g) .nil)⟩
abbrev u6:List Str:=["said","faults","order","sign"]
theorem eK:Ah u6 ["said"] (Ad RN):={}
theorem Td(R:AY):FK 2 "ground_faults" ["said"] O5:=by
 refine R.Lm.has fun F=>F.ok eK fun H Q E Z h=>?_;obtain⟨g,I,y,b,W,rfl,M,U,vP,vW,K,J,hy,k⟩:=h;have t:=Gu Z;exists%[An (i:=1) eK.nd (AF Ce),BC y0 rfl (IJ (by rfl) R.BG (#v[A8 t (pv 0) Ai])) (Dj rfl (AS (Aw (i:=2) eK.nd) (AS (Aw (i:=3) eK.nd) Cq))) (Ag (AM (Cm (Ao AZ (pv 3) Ai) (BL (Ao Fv Ai (D3 HI (A8 t (pv 0) Ai) II (CY (pv 2))) #v[]))).pt (Ag (A2 (B5 zK zW zY Bz (pv 1) (#v[B3 (#v[Ay (Pr R) Z rfl Ar (#v[A8 t (pv 0) Ai,pv 2,A8 t (pv 0) Ai]),Ae])])))) Au)) |Aj (pv 1)];have w:∀{S:Hp}{x:Str}{v:V},Ap H S->Bb I (Sum.inr x)=some v->CP S g (.str x) (some v):=fun{S x v} sx hx=>hx▸CP.k (k:=Sum.inr x) (sx _ _ M);refine⟨zx _,fun l N=>?_⟩;have X:Ap H (Av H l (.lst [])):=Af N;have P:(Ak y).cps.size=y.length:=by simp[Ak]
 refine⟨_,rfl,g,_,rfl,w X U,Ak y,rfl,GZ (fun i A H'=>E2 fun C B=>A4 (A=[some (.ref g),some (.ref l),C,B]) (Ap H H') (B8 H' l (gF y b W i)) ((gF y b W i).length<=i)) ⟨none,none,rfl,X,⟨[],Aa,.nil⟩,ze _⟩ ?_ ?_⟩
 ·rintro i c A H' T hi ⟨C,B,rfl,s,⟨as,e,f⟩,m⟩ hT;have p:y[i]?=some c:=by simpa[Ak]using hi
  have O:i<y.length:=(z8.mp p).1;have q:y.getD i 0=c:=by rw[z5,p];rfl
  have a:Ap H' (Av H' T (.tup [.int (i:Nat),.str ⟨#[c]⟩])):=Af hT;have d:=s.trans a;have u:gF y b W (i+1)=gF y b W i++cz y b W i:=by unfold gF;rw[yg,yd,yb]
  refine⟨T,_,rfl,.of Aa,rfl,_,_,rfl,_,_,rfl,rfl,DG (DI (decide (c=83)) (decide (83∈y.take i)) (fun Q' D=>⟨_,rfl,rfl,_,rfl,HL D (Di (n:=83) rfl)⟩) (fun Y Q' D=>⟨_,rfl,g,_,rfl,w d U,_,rfl,_,rfl,Ak y,rfl,by rw[B4];exact z_ hy BO,83,Ak (y.take i),rfl,by rw[cU (wj O)],_,rfl,HL D (by rw[Bc])⟩) ?_)⟩;by_cases hc:c=83/\83∈y.take i
  ·refine BJ (by rw[zj hc.1,zj hc.2];rfl) ⟨_,rfl,.inl ⟨rfl,_,AJ.of (a _ _ e)⟩,_,rfl,g,_,rfl,w d vP,_,rfl,_,rfl,g,_,rfl,w d vW,b,i,W,rfl,K,J,K2,fun tn L=>?_⟩;have j:=a.trans (Af (o:= .tup [.int ((b+i+i/W:Nat):Int),.int 2]) L);have G:as.length<=i:=by rw[zE f];exact m
   exists l,_,_,rfl,rfl,j _ _ e,?_;·rw[z3];exact y2 G (zF (show i<169 by lia) BO)
   ·have r:cz y b W i=[(((b+i+i/W:Nat):Int),2)]:=by unfold cz;rw[q,zc hc]
    exists _,_,rfl,Bv (s.trans j) N,?_;·rw[u,r];exact HW j (j _ _ e) (Am (fun Y Y=>j _ _) f) Aa
    ·rw[u,r,zd];show _+1<=_;lia
  ·refine B9 (by rw[vC];intro z;rw[zp,zJ,zJ]at z;exact hc z) ?_;have r:cz y b W i=[]:=by unfold cz;rw[q,zb hc]
   exists _,_,rfl,d,?_;·rw[u,r,zR];exact⟨as,a _ _ e,Am (fun Y Y=>a _ _) f⟩
   ·rw[u,r,zR];lia
 ·rintro A H' ⟨C,B,rfl,s,hf,Y⟩;rw[P]at hf;exact⟨_,rfl,k H' l s N hf⟩
def Wx(y g:List Nat)(a w o:Nat):List (Int×Int):=if Yh (y.getD o 0) (g.getD o 0)=true then[]else[(((a+o+o/w:Nat):Int),3)]
def Zc(y:List Nat)(a w o:Nat):List (Int×Int):=if y.getD o 0=75/\75∈y.take o then[(((a+o+o/w:Nat):Int),4)]else[]
def sF(y g:List Nat)(a w n:Nat):List (Int×Int):=(List.range n).flatMap fun o=>Wx y g a w o++Zc y a w o
inductive R7:_|mk(sd:Addr)(kvs:List (Key×V))(y g:List Nat)(sp w:Nat):vs=[.ref sd]->H sd=some (.dK kvs)->Bb kvs (Sum.inr "start")=some (.str (Ak y))->Bb kvs (Sum.inr "ground")=some (.str (Ak g))->Bb kvs (Sum.inr "start place")=some (.int sp)->Bb kvs (Sum.inr "wide")=some (.int w)->0<w->w<=13->y.length<=169->g.length=y.length->(∀H' l,Ap H H'->H l=none->B8 H' l (sF y g sp w y.length)->Q (.ref l) H')->R7 vs H Q E
abbrev tp:List Str:=["said","faults","order","piece","place"]
theorem ZF:Ah tp ["said"] (Ad Ws):={}
theorem Vq(R:AY):FK 2 "start_faults" ["said"] R7:=by
 refine R.Ny.has fun F=>F.ok ZF fun H Q E hr h=>?_;obtain⟨s,a1,y,g,a,W,rfl,a4,vS,vG,vP,vW,a3,a2,hy,a6,k⟩:=h;have I:=Gu hr;exists%[An (i:=1) ZF.nd (AF Ce),BC y0 rfl (IJ (by rfl) R.BG (#v[A8 I (pv 0) Ai])) (Dj rfl (AS (Aw (i:=2) ZF.nd) (AS (Aw (i:=3) ZF.nd) Cq))) (%[An (i:=4) ZF.nd (Ay (Pr R) hr rfl Ar (#v[A8 I (pv 0) Ai,pv 2,A8 I (pv 0) Ai])),AM (FW (BU (Ay (QC R) hr rfl Ar (#v[pv 3,Az Eh (A8 I (pv 0) Ai) (pv 2)])))) (Ag (A2 (B5 zK zW zY Bz (pv 1) (#v[B3 (#v[pv 4,Ae])])))) Au|AM (Cm (Ao AZ (pv 3) Ai) (BL (Ao Fv Ai (D3 HI (A8 I (pv 0) Ai) II (CY (pv 2))) #v[]))).pt (Ag (A2 (B5 zK zW zY Bz (pv 1) (#v[B3 (#v[pv 4,Ae])])))) Au]) |Aj (pv 1)];have L:∀{Hx:Hp}{x:Str}{v:V},Ap H Hx->Bb a1 (Sum.inr x)=some v->CP Hx s (.str x) (some v):=fun{Hx x v} sx hx=>hx▸CP.k (k:=Sum.inr x) (sx _ _ a4);refine⟨zx _,fun l O=>?_⟩;have s1:Ap H (Av H l (.lst [])):=Af O;have a7:(Ak y).cps.size=y.length:=by simp[Ak]
 refine⟨_,rfl,s,_,rfl,L s1 vS,Ak y,rfl,GZ (fun i U H'=>E3 fun v2 Z X=>A4 (U=[some (.ref s),some (.ref l),v2,Z,X]) (Ap H H') (B8 H' l (sF y g a W i)) ((sF y g a W i).length<=2*i)) ⟨none,none,none,rfl,s1,⟨[],Aa,.nil⟩,ze _⟩ ?_ ?_⟩
 ·rintro i c U H' T hi ⟨v2,Z,X,rfl,N,⟨as,q,w⟩,J⟩ hT;have K:y[i]?=some c:=by simpa[Ak]using hi
  have a5:i<y.length:=(z8.mp K).1;have r:y.getD i 0=c:=by rw[z5,K];rfl
  have D:Ap H' (Av H' T (.tup [.int (i:Nat),.str ⟨#[c]⟩])):=Af hT;have j:=N.trans D;have P:sF y g a W (i+1)=sF y g a W i++(Wx y g a W i++Zc y a W i):=by unfold sF;rw[yg,yd,yb]
  have b:∀{n:Nat},n<=2*i+1->n<sizeLine:=fun{n} h=>by have:(400:Nat)<=sizeLine:=⋯;lia
  refine⟨T,_,rfl,.of Aa,rfl,_,_,rfl,_,_,rfl,rfl,_,rfl,s,_,rfl,L j vP,_,rfl,_,rfl,s,_,rfl,L j vW,a,i,W,rfl,a3,a2,Ax ?_⟩;cbv;refine EK (fun C S=>C=[some (.ref s),some (.ref l),some (.int (i:Nat)),some (.str ⟨#[c]⟩),some (.int ((a+i+i/W:Nat):Int))]/\Ap H S/\B8 S l (sF y g a W i++Wx y g a W i)/\(sF y g a W i++Wx y g a W i).length<=2*i+1) ?_ ?_
  ·rintro C S ⟨rfl,u,⟨M,p,e⟩,B⟩;refine DG (DI (decide (c=75)) (decide (75∈y.take i)) (fun Q' q'=>⟨_,rfl,rfl,_,rfl,HL q' (Di (n:=75) rfl)⟩) (fun Y Q' q'=>⟨_,rfl,s,_,rfl,L u vS,_,rfl,_,rfl,Ak y,rfl,by rw[B4];exact z_ hy BO,75,Ak (y.take i),rfl,by rw[cU (wj a5)],_,rfl,HL q' (by rw[Bc])⟩) ?_);by_cases hc:c=75/\75∈y.take i
   ·refine BJ (by rw[zj hc.1,zj hc.2];rfl) ⟨_,rfl,.inl ⟨rfl,_,AJ.of p⟩,_,rfl,K2,fun tn A=>?_⟩;have d:=Af (o:= .tup [.int ((a+i+i/W:Nat):Int),.int 4]) A;have G:M.length<=2*i+1:=by rw[zE e];exact B
    refine⟨l,_,_,rfl,rfl,d _ _ p,by rw[z3];exact b G,?_⟩;have f:Zc y a W i=[(((a+i+i/W:Nat):Int),4)]:=by unfold Zc;rw[r,zc hc]
    exists _,_,_,rfl,Bv (u.trans d) O,?_;·rw[P,<-zX,f];exact HW d (d _ _ p) (Am (fun Y Y=>d _ _) e) Aa
    ·rw[P,<-zX,f,zd];show _+1<=_;lia
   ·refine B9 (by rw[vC];intro z;rw[zp,zJ,zJ]at z;exact hc z) ?_;have f:Zc y a W i=[]:=by unfold Zc;rw[r,zb hc]
    exists _,_,_,rfl,u,?_;·rw[P,<-zX,f,zR];exact⟨M,p,e⟩
    ·rw[P,<-zX,f,zR];lia
  ·intro t;refine⟨_,rfl,_,rfl,s,_,rfl,L j vG,_,rfl,Ak g,_,g.getD i 0,rfl,rfl,by rw[B4,a6];exact z_ hy BO,Im ∅,c,g.getD i 0,rfl,fun S s2=>⟨_,rfl,?_⟩⟩;have a0:=j.trans s2;have m:=D.trans s2;by_cases hm:Yh c (g.getD i 0)=true
   ·have f:Wx y g a W i=[]:=by unfold Wx;rw[r,zc hm]
    refine B9 (by rw[hm];rfl) (t _ _ ⟨rfl,a0,?_,?_⟩);·rw[f,zR];exact⟨as,m _ _ q,Am (fun Y Y=>m _ _) w⟩
    ·rw[f,zR];lia
   ·have f:Wx y g a W i=[(((a+i+i/W:Nat):Int),3)]:=by unfold Wx;rw[r,zb hm]
    rw[y4]at hm;refine BJ (by rw[hm];rfl) ⟨_,rfl,.inl ⟨rfl,_,AJ.of (m _ _ q)⟩,_,rfl,K2,fun tn A=>?_⟩;have d:=m.trans (Af (o:= .tup [.int ((a+i+i/W:Nat):Int),.int 3]) A);have G:as.length<=2*i:=by rw[zE w];exact J
    refine⟨l,_,_,rfl,rfl,d _ _ q,by rw[z3];exact b ∅,t _ _ ⟨rfl,Bv (N.trans d) O,?_,?_⟩⟩;·rw[f];exact HW d (d _ _ q) (Am (fun Y Y=>d _ _) w) Aa
    ·rw[f,zd];show _+1<=_;lia
 ·rintro U H' ⟨v2,Z,X,rfl,N,hf,Y⟩;rw[a7]at hf;exact⟨_,rfl,k H' l N O hf⟩
inductive Ky:_|mk(sd:Addr)(kvs:List (Key×V))(y:List Nat)(w h o:Nat):vs=[.ref sd]->H sd=some (.dK kvs)->Bb kvs (Sum.inr "start")=some (.str (Ak y))->Bb kvs (Sum.inr "wide")=some (.int w)->Bb kvs (Sum.inr "high")=some (.int h)->0<w->w<=13->y[o]?=some 75->(∀k,k<o->¬y[k]?=some 75)->(∀H',Ap H H'->Q (.bl (decide (o%w=0\/o%w+1=w\/o/w=0\/o/w+1=h))) H')->Ky vs H Q E
theorem lR:Ah ["said","order"] ["said"] (Ad RK):={}
theorem NU(u:AY):FK 2 "starts_on_edge" ["said"] Ky:=by
 refine u.Ki.has fun F=>F.ok lR fun H Q E s h=>?_;obtain⟨b,l,y,W,T,o,rfl,m,w,j,z,G,D,t,f,k⟩:=h;have d:=Gu s;have g:∀{p:Hp}{x:Str}{v:V},Ap H p->Bb l (Sum.inr x)=some v->CP p b (.str x) (some v):=fun{p x v} A C=>C▸CP.k (k:=Sum.inr x) (A _ _ m);have c:=AR H;exists%[An (i:=1) lR.nd (B5 yc PySem.F.slot_str_index PySem.F.type_str_index Yd (A8 d (pv 0) Ai) (#v[Ai])) |Aj (Ay (Nh u) s rfl Ar (#v[AA MH (pv 1) (A8 d (pv 0) Ai),AA IM (pv 1) (A8 d (pv 0) Ai),A8 d (pv 0) Ai,A8 d (pv 0) Ai]))];obtain⟨a,e⟩:∃a,Builtin.Str.occurrences (Ak y) ("K":Str) 0 (Ak y).length 1=o::a:=by
  rcases Sr y 75 with⟨Y,n⟩ |⟨i,r,J,n,I⟩;·exact absurd t (n o)
  ·have:i=o:=by
    by_cases q:i<o;·exact absurd n (f i q)
    ·by_cases q2:o<i;·exact absurd t (I o q2)
     ·lia
   subst this;exact⟨r,J⟩
 exists _,rfl,b,V.str (Ak y),rfl,g c w,rfl,Ak y,"K",o,a,rfl,rfl,e;have L:(o:Int)/(W:Int)=((o/W:Nat):Int):=by first|exact(tz o W).symm|exact(Int.ofNat_ediv o W).symm
 have K:(o:Int)%(W:Int)=((o%W:Nat):Int):=by first|exact(tq o W).symm|exact(Int.ofNat_emod o W).symm
 refine⟨_,rfl,_,rfl,b,V.int W,rfl,g c j,_,_,rfl,rfl,∅,_,rfl,_,rfl,b,V.int W,rfl,g c j,_,_,rfl,rfl,⟨∅,∅⟩,_,rfl,b,V.int W,rfl,g c j,_,rfl,b,V.int T,rfl,g c z,o%W,o/W,W,T,?_,fun H' B=>k H' B⟩;rw[L,K];rfl
def fE(w h c:Nat):List V:=[V.int (Va w h c 0),V.int (Va w h c 1),V.int (Va w h c 2),V.int (Va w h c 3)]
inductive Wa:_|mk(c w h:Nat):vs=[.int c,.int w,.int h]->(∀H' l,Ap H H'->H l=none->H' l=some (.lst (fE w h c))->Q (.ref l) H')->Wa vs H Q E
theorem KR{k h g:TE}{f:L2.St}{Q:VK}{a b c:Int}(n:∀d:VK,d (.int a) H->k f H d)(m:∀d:VK,d (.int b) H->h f H d)(l:∀d:VK,d (.int c) H->g f H d)(q:Q (.bl (decide (a<=b)&&decide (b<c))) H):Zv (W6 fun i j=> .bl (decide (i<=j))) (W6 fun i j=> .bl (decide (i<j))) k h g f H Q:=by refine n _ (m _ ⟨a,b,rfl,rfl,_,rfl,?_⟩);cases e:decide (a<=b)with|true=>rw[e]at q;exact BJ rfl (l _ ⟨b,c,rfl,rfl,q⟩) |false=>rw[e]at q;exact B9 rfl q
theorem R1{d c:TE}{b:L2.St}{Q:VK}(x y:Bool)(f:∀a:VK,a (.bl x) H->d b H a)(e:x=true->∀a:VK,a (.bl y) H->c b H a)(q:Q (.bl (x&&y)) H):Zx d c b H Q:=by refine f _ ⟨x,rfl,?_⟩;cases x with|true=>exact BJ rfl (e rfl _ q) |false=>exact B9 rfl q
theorem eY{c:TE}{g:TG}{D:Ends}{b:L2.St}(h:c b H fun v d=>g v b d fun a H'=>D.nx a H'):R0 c g D b H:=h
theorem fD(W T c i:Nat):((fE W T c).take i).length<sizeLine:=by have h:(fE W T c).length=4:=rfl;rw[zO,h];exact y2 (xH _ _) ⋯
theorem bz(W T c:Nat):∀i,i<4->(fE W T c).take (i+1)=(fE W T c).take i++[V.int (Va W T c i)]:=by intro i h;unfold fE;have:i=0\/i=1\/i=2\/i=3:=∅;rcases this with rfl|rfl|rfl|rfl<;>simp
theorem bA(W T c i:Nat)(b:Bool)(a:((decide ((0:Int)<=((c%13:Nat):Int)+Dz i)&&decide (((c%13:Nat):Int)+Dz i<(W:Int)))&&(decide ((0:Int)<=((c/13:Nat):Int)+Dy i)&&decide (((c/13:Nat):Int)+Dy i<(T:Int))))=b):Va W T c i=if b=true then 13*(((c/13:Nat):Int)+Dy i)+(((c%13:Nat):Int)+Dz i)else-1:=by unfold Va;generalize((c/13:Nat):Int)+Dy i=h at a|-;generalize((c%13:Nat):Int)+Dz i=j at a|-;cases b with|true=>rw[zp,zp,zp,zJ,zJ,zJ,zJ]at a;rw[zc ⟨a.1.1,a.1.2,a.2.1,a.2.2⟩,zc rfl] |false=>rw[zb (c:=(false=true)) ⋯,zb];rintro⟨g,f,e,d⟩;rw[zj g,zj f,zj e,zj d]at a;cases a
abbrev t7:List Str:=["cell","wide","high","found","dx","dy","x","y","inside"]
theorem UC:Ah t7 ["cell","wide","high"] (Ad ZS):={}
theorem Yu(m:AY):FK 1 "neighbours" ["cell","wide","high"] Wa:=by
 obtain⟨N,L,J,I,G,hS,M,U,S,R,P⟩:=m.steps;refine m.QP.has fun F=>F.ok UC fun H Q E hr h=>?_;obtain⟨c,W,T,rfl,k⟩:=h;exists%[An (i:=3) UC.nd (AF Ce),BC y0 rfl (Qn (AD (v:= .ref N) rfl hS rfl)) (Dj rfl (AS (Aw (i:=4) UC.nd) (AS (Aw (i:=5) UC.nd) Cq))) (%[An (i:=6) UC.nd (AA Cf (AA MH (pv 0) (AD (v:= .int 13) rfl (C3 m.Dd) ⟨_,rfl⟩)) (pv 4)),An (i:=7) UC.nd (AA Cf (AA IM (pv 0) (AD (v:= .int 13) rfl (C3 m.Dd) ⟨_,rfl⟩)) (pv 5)),An (i:=8) UC.nd (ME (Sl a_ FC Ae (pv 6) (pv 1)) (EE (Sl a_ FC Ae (pv 7) (pv 2)))) |A2 (B5 zK zW zY Bz (pv 3) (#v[D4 (BU (pv 8)) (AA Cf (AA Ec (AD (v:= .int 13) rfl (C3 m.Dd) ⟨_,rfl⟩) (pv 7)) (pv 6)) (AD (v:= .int (-1)) rfl (C3 m.Fe) ⟨_,rfl⟩)]))]) |Aj (pv 3)];refine⟨zx _,fun l B=>?_⟩;refine⟨N,rfl,⟨_,M.sq _⟩,WY (xs:=[.ref L,.ref J,.ref I,.ref G]) (fun i o H'=>∃w u t s r,o=[some (.int (c:Nat)),some (.int (W:Nat)),some (.int (T:Nat)),some (.ref l),w,u,t,s,r]/\Ap H H'/\H' l=some (.lst ((fE W T c).take i))) ⟨none,none,none,none,none,rfl,Af B,Aa⟩ (fun i o H' Y Y=>M.sq _) ?_ ?_⟩
 ·rintro i v o H' d ⟨w,u,t,s,r,rfl,x,a⟩;have n:i<4:=(z8.mp d).1;obtain⟨p,Z,O⟩:∃p,v= .ref p/\BR K p [.int (Dz i),.int (Dy i)]:=by match i,n,d with|0,_,d=>cases d;exact⟨L,rfl,U⟩ |1,_,d=>cases d;exact⟨J,rfl,S⟩ |2,_,d=>cases d;exact⟨I,rfl,R⟩ |3,_,d=>cases d;exact⟨G,rfl,P⟩
  subst Z;have d1:(c:Int)/13=((c/13:Nat):Int):=∅;have d2:(c:Int)%13=((c%13:Nat):Int):=∅;refine⟨p,_,rfl,O.sq _,rfl,_,_,rfl,_,_,rfl,rfl,_,rfl,_,_,rfl,rfl,(by show(0:Int)<13;decide),_,rfl,_,_,rfl,rfl,_,rfl,_,_,rfl,rfl,⟨⋯,⋯⟩,_,rfl,_,_,rfl,rfl,Ax ?_⟩;cbv;rw[d1,d2];refine CU (eY (R1 (decide ((0:Int)<=((c%13:Nat):Int)+Dz i)&&decide (((c%13:Nat):Int)+Dz i<(W:Int))) (decide ((0:Int)<=((c/13:Nat):Int)+Dy i)&&decide (((c/13:Nat):Int)+Dy i<(T:Int))) (fun Q' y=>KR (fun Y q=>q) (fun Y q=>⟨_,rfl,q⟩) (fun Y q=>⟨_,rfl,q⟩) y) (fun Y Q' y=>KR (fun Y q=>q) (fun Y q=>⟨_,rfl,q⟩) (fun Y q=>⟨_,rfl,q⟩) y) ?_));generalize C:((decide ((0:Int)<=((c%13:Nat):Int)+Dz i)&&decide (((c%13:Nat):Int)+Dz i<(W:Int)))&&(decide ((0:Int)<=((c/13:Nat):Int)+Dy i)&&decide (((c/13:Nat):Int)+Dy i<(T:Int))))=D;have f:=fD W T c i;have g:=bz W T c i n;have b:=bA W T c i D C;generalize Va W T c i=A at g b;generalize((c/13:Nat):Int)+Dy i=yy at b|-;generalize((c%13:Nat):Int)+Dz i=xx at b|-;generalize(fE W T c).take (i+1)=j at g|-;generalize(fE W T c).take i=e at*;have fin:∀z,z=A->Ap H (Av H' l (.lst (e++[V.int z])))/\(Av H' l (.lst (e++[V.int z]))) l=some (.lst j):=fun z X=>by subst X;exact⟨Bv x B,by rw[Aa,g]⟩
  exists _,rfl,.inl ⟨rfl,_,AJ.of a⟩,_,rfl,D,rfl;cases D with|true=>exact BJ rfl ⟨_,rfl,_,_,rfl,rfl,.inl ⟨⋯,⋯⟩,_,rfl,_,_,rfl,rfl,l,_,_,rfl,rfl,a,f,_,_,_,_,_,rfl,fin _ b.symm⟩ |false=>refine B9 rfl ⟨l,_,_,rfl,rfl,a,f,?_⟩;exact⟨_,_,_,_,_,rfl,fin _ b.symm⟩
 ·rintro o H' ⟨w,u,t,s,r,rfl,x,a⟩;exact⟨_,rfl,k H' l x B a⟩
theorem GX(c:Nat):∀y:List Nat,c∈y->y[y.idxOf c]?=some c/\∀k,k<y.idxOf c->¬y[k]?=some c
|[],h=>by cases h
|x::y,h=>by
 rw[um];by_cases e:x=c;·subst e;rw[xG,cond_true];exact⟨rfl,fun k a=>absurd a (xc _)⟩
 ·rw[zL.mpr e,rm];have b:c∈y:=by
   rcases zw.mp h with z|z;·exact absurd z.symm e
   ·exact z
  obtain⟨f,d⟩:=GX c y b;refine⟨‹f›,fun k a q=>?_⟩;cases k with|zero=>exact e (zt q) |succ k=>exact d k ∅ ‹q›
def Cu(a:Nat)(y g:List Nat)(w h:Nat):Bool:=if a=1 then !decide (88∈g)else decide (75∈y)&&decide (y.idxOf 75%w=0\/y.idxOf 75%w+1=w\/y.idxOf 75/w=0\/y.idxOf 75/w+1=h)
inductive Wh:_|mk(sd:Addr)(kvs:List (Key×V))(y g:List Nat)(w h goal gp:Nat):vs=[.ref sd]->H sd=some (.dK kvs)->Bb kvs (Sum.inr "start")=some (.str (Ak y))->Bb kvs (Sum.inr "ground")=some (.str (Ak g))->Bb kvs (Sum.inr "wide")=some (.int w)->Bb kvs (Sum.inr "high")=some (.int h)->Bb kvs (Sum.inr "goal")=some (.int goal)->Bb kvs (Sum.inr "goal place")=some (.int gp)->0<w->w<=13->(∀H' l,Ap H H'->H l=none->B8 H' l (if Cu goal y g w h=true then[((gp:Int),5)]else[])->Q (.ref l) H')->Wh vs H Q E
theorem jn:Ah ["said","at_fault"] ["said"] (Ad ZX):={}
theorem Yx(I:AY):FK 3 "goal_faults" ["said"] Wh:=by
 refine I.Oa.has fun F=>F.ok jn fun H Q E C h=>?_;obtain⟨c,m,y,g,W,T,a,G,rfl,n,A,O,K,N,M,L,t,s,k⟩:=h;have q:=Gu C;have r:∀{w:Hp}{x:Str}{v:V},Ap H w->Bb m (Sum.inr x)=some v->CP w c (.str x) (some v):=fun{w x v} R Z=>Z▸CP.k (k:=Sum.inr x) (R _ _ n);have j:=AR H;exists%[AM (Ao AZ (A8 q (pv 0) Ai) Ae) (Ag (An (i:=1) jn.nd (Bo Du Ai (A8 q (pv 0) Ai) #v[]))) (Ag (An (i:=1) jn.nd (ME (Bo Fv Ai (A8 q (pv 0) Ai) #v[]) (EE (Ay (NU I) C rfl Ar (#v[pv 0])))))) |Aj (D4 (BU (pv 1)) (AF (#v[B3 (#v[A8 q (pv 0) Ai,Ae])])) (AF Ce))];refine EK (fun f J=>f=[some (.ref c),some (.bl (Cu a y g W T))]/\Ap H J) ?_ ?_;·rintro f J ⟨rfl,p⟩;exists _,rfl,_,rfl;cases D:Cu a y g W T with|true=>rw[D,zc rfl]at k;refine BJ rfl ⟨_,rfl,c,V.int G,rfl,r p L,K2,fun P u=>⟨Ju,fun l d=>?_⟩⟩;have B:=p.trans (Af (o:= .tup [.int G,.int 5]) u);refine k _ l (B.trans (Af d)) (B.free d) ⟨[P],Aa,.cons ?_ .nil⟩;exact Af d _ _ Aa|false=>rw[D,zb ⋯]at k;exact B9 rfl ⟨zx _,fun l d=>k _ l (p.trans (Af d)) (p.free d) ⟨[],Aa,.nil⟩⟩
 ·intro b;exists _,rfl,c,V.int a,rfl,r j M,rfl,_,rfl;by_cases hg:a=1
  ·refine BJ (zj (by rw[hg];rfl)) ⟨_,rfl,c,V.str (Ak g),rfl,r j O,88,Ak g,rfl,rfl,?_⟩;refine b _ _ ⟨?_,j⟩;have e:(!decide (88∈(Ak g).cps.toList))=Cu a y g W T:=by unfold Cu;rw[zc hg,Bc]
   rw[<-e];rfl
  ·refine B9 (zo (by intro z;injection z with z;exact hg ∅)) ⟨_,rfl,c,V.str (Ak y),rfl,r j A,75,Ak y,rfl,rfl,_,rfl,?_⟩;by_cases hK:75∈y
   ·refine BJ (by rw[Bc];exact zj hK) ?_;obtain⟨X,U⟩:=GX 75 y hK;refine⟨_,rfl,c,m,y,W,T,y.idxOf 75,rfl,n,A,K,N,t,s,X,U,fun H' S=>b _ _ ⟨?_,S⟩⟩;have e:Cu a y g W T=decide (y.idxOf 75%W=0\/y.idxOf 75%W+1=W\/y.idxOf 75/W=0\/y.idxOf 75/W+1=T):=by unfold Cu;rw[zb hg,zj hK,wB]
    rw[e];rfl
   ·refine B9 (by rw[Bc];exact zo hK) (b _ _ ⟨?_,j⟩);have e:Cu a y g W T=false:=by unfold Cu;rw[zb hg,zo hK,xM]
    rw[e];rfl
abbrev Bd:=List Nat×Nat
def pB(q:Bd):Tafl.Pos:=Aq q.1 q.2
def EF(q:Bd):List Key:=[.inr (Ak q.1),.inl (q.2:Int)]
structure Cv(r:Rules)(q:Bd):Prop where
 b:A_ q.1
 r:Right r q.1
 t:q.2<=1
theorem X2{a:List Nat}(h:Ak a=Ak b):a=b:=by have:=zT (fun s:Str=>s.cps.toList) h;simpa[Ak]using this
theorem SJ{p q:Bd}:EF p=EF q↔p=q:=by
 constructor;·intro h;unfold EF at h;injection h with h1 h2;injection h2 with h2 _;injection h1 with h1;injection h2 with h2;exact qv (X2 h1) ∅
 ·intro h;rw[h]
theorem aX{r:Rules}{p q:Bd}(b:Cv r p)(a:Cv r q):pB p=pB q↔p=q:=by
 constructor;·intro h;obtain⟨d,c⟩:=HM.XM b.b a.b h;exact qv d c
 ·intro h;rw[h]
def Bk(r:Rules)(q:Bd):List Bd:=(r.moves (pB q)).map fun m=>(ND r q.1 m,1-q.2)
theorem GQ{r:Rules}{q:Bd}(h:Cv r q){m:Nat×Nat}(a:m∈r.moves (pB q)):m∈hZ r q.1 q.2:=by
 unfold pB at a;rw[MN h.b h.t]at a;split at a;·cases a
 ·exact a
theorem N7{r:Rules}(Z:B1 r)(N:Oh r){q:Bd}(h:Cv r q){m:Nat×Nat}(a:m∈r.moves (pB q)):Cv r (ND r q.1 m,1-q.2)/\r.comes (pB q) m=pB (ND r q.1 m,1-q.2):=by obtain⟨d,c,b⟩:=dj Z N h.b h.r h.t (GQ h a);exact⟨⟨d,c,Nat.sub_le _ _⟩,b⟩
theorem Pa{r:Rules}(Z:B1 r)(N:Oh r){q:Bd}(h:Cv r q):∀p∈Bk r q,Cv r p:=by intro p a;obtain⟨m,b,rfl⟩:=zk.mp a;exact(N7 Z N h b).1
theorem N1{r:Rules}(Z:B1 r)(N:Oh r){q:Bd}(h:Cv r q):r.comesTo (pB q)=(Bk r q).map pB:=by unfold Rules.comesTo Bk;rw[zG];exact y6 fun m a=>(N7 Z N h a).2
def BA(a:List Bd)(l:List Bd):List Bd:=l.foldl (fun a q=>if q∈a then a else a++[q]) a
theorem Hb(a:List Bd)(q:Bd)(l:List Bd):BA a (q::l)=BA (if q∈a then a else a++[q]) l:=rfl
theorem YV(a l:List Bd)(q:Bd):BA a (l++[q])=if q∈BA a l then BA a l else BA a l++[q]:=by unfold BA;rw[uW];rfl
theorem Jr:∀(l a:List Bd),∃e,BA a l=a++e
|[],a=>⟨[],by simp[BA]⟩
|q::l,a=>by
 rw[Hb];split;·exact Jr l a
 ·obtain⟨e,b⟩:=Jr l (a++[q]);exact⟨q::e,by rw[b,zX];rfl⟩
theorem Fi:∀(l b:List Bd)(q:Bd),q∈BA b l↔q∈b\/q∈l
|[],b,q=>by simp[BA]
|x::l,b,q=>by
 rw[Hb,Fi l];split
 ·rename_i h;constructor
  ·rintro(a|a);·exact .inl a
   ·exact .inr (zg _ a)
  ·rintro(a|a);·exact .inl a
   ·rcases zw.mp a with rfl|a;·exact .inl h
    ·exact .inr a
 ·rw[zD,zB,zw,qp]
theorem H_:∀(l c:List Bd),c.Nodup->(BA c l).Nodup
|[],c,h=>h
|q::l,c,h=>by
 rw[Hb];split;·exact H_ l c h
 ·rename_i e;refine H_ l _ (yZ.mpr ⟨h,by simp,fun a d b f=>?_⟩);rw[zB.mp f];intro z;rw[z]at d;exact e d
theorem KS(l a:List Bd):a.length<=(BA a l).length:=by obtain⟨e,b⟩:=Jr l a;rw[b,zd];lia
theorem Ra(a l:List Bd)(i:Nat):(BA a (l.take i)).length<=(BA a l).length:=by
 have:BA a l=BA (BA a (l.take i)) (l.drop i):=by unfold BA;rw[<-uW,sI]
 rw[this];exact KS _ _
theorem Ks{r:Rules}:∀(l a:List Bd),(∀p∈a,Cv r p)->(∀p∈l,Cv r p)->addNew (a.map pB) (l.map pB)=(BA a l).map pB
|[],a,_,_=>rfl
|q::l,a,d,j=>by
 have i:=j q zh;have b:=fun p h=>j p (zg _ h);have e:((a.map pB).contains (pB q)=true)↔q∈a:=by
  rw[xY,zk];constructor;·rintro⟨p,f,k⟩;rw[(aX (d p f) i).mp k]at f;exact f
  ·intro h;exact⟨q,h,rfl⟩
 have m:addNew (a.map pB) ((q::l).map pB)=addNew (if(a.map pB).contains (pB q)=true then a.map pB else a.map pB++[pB q]) (l.map pB):=rfl;rw[m,Hb];by_cases h:q∈a;·rw[zc (e.mpr h),zc h];exact Ks l a d b
 ·rw[zb (fun z=>h (e.mp z)),zb h];rw[show a.map pB++[pB q]=(a++[q]).map pB by rw[zu];rfl];refine Ks l _ (fun p c=>?_) b;rcases zD.mp c with g|g;·exact d p g
  ·rw[zB.mp g];exact i
def IY(a:List Bd):List (List Key×V):=a.zipIdx.map fun x=>(EF x.1,V.int (x.2:Nat))
theorem K9(q:Bd):∀(a:List Bd)(n:Nat),Bb ((a.zipIdx n).map fun x=>(EF x.1,V.int (x.2:Nat))) (EF q)=if q∈a then some (V.int ((n+a.idxOf q:Nat):Int))else none
|[],n=>by simp[Zl]
|p::a,n=>by
 rw[List.zipIdx_cons,zH];by_cases h:p=q;·subst h;rw[BZ rfl];simp[List.idxOf_cons_self]
 ·rw[B_ (fun z=>h (SJ.mp z)),K9 q a (n+1)];by_cases h2:q∈a;·rw[zc h2,zc (zg _ h2),um,zL.mpr h,rm];congr 3;lia
  ·rw[zb h2,zb];intro z;rcases zw.mp z with z|z;·exact h z.symm
   ·exact h2 z
theorem Q1(a:List Bd)(q:Bd):Bb (IY a) (EF q)=if q∈a then some (V.int ((a.idxOf q:Nat):Int))else none:=by have:=K9 q a 0;rw[xQ]at this;exact this
theorem fU{b:List Bd}{q:Bd}(h:q∉b):putK (IY b) (EF q) (V.int (b.length:Nat))=IY (b++[q]):=by
 unfold putK;rw[zb];·unfold IY;rw[List.zipIdx_append,zu];simp
 ·intro z;rw[xq]at z;obtain⟨g,f,e⟩:=z;obtain⟨x,d,rfl⟩:=zk.mp f;have:=SJ.mp (vt e);obtain⟨a,i⟩:=x;have c:a∈b:=List.fst_mem_of_mem_zipIdx d;dsimp only at this;rw[this]at c;exact h c
theorem fV(a:List Bd):(IY a).length=a.length:=by simp[IY]
theorem WT{a:List Bd}{q:Bd}(h:q∈a)(e:List Bd):(a++e).idxOf q=a.idxOf q:=by rw[List.idxOf_append,zc h]
def T5(a b c:Addr):List (Str×V):=[("positions",.ref a),("numbers",.ref b),("follows",.ref c)]
theorem Kh(a b c):(T5 a b c).lookup ("positions":Str)=some (.ref a):=#v[]
theorem V3(b a c):(T5 b a c).lookup ("numbers":Str)=some (.ref a):=#v[]
theorem QJ(b c a):(T5 b c a).lookup ("follows":Str)=some (.ref a):=#v[]
theorem YB(a b c):(T5 a b c).lookup ("follow":Str)=none:=#v[]
def gG(H:Hp)(c:Addr)(b:List Bd):Prop:=∃a:List Addr,H c=some (.lst (a.map V.ref))/\Paired (fun t (q:Bd)=>De H t q.1 q.2) a b
def gK(H:Hp)(b c:Addr)(a:List Addr)(d:List (List Nat)):Prop:=H b=some (.lst (a.map V.ref))/\Paired (fun g e=>H g=some (.lst (nV e))) a d/\∀g∈a,g≠c/\g≠b
structure dB(C:Addr)(H:Hp)(e pl nd fl:Addr)(ps:List Bd)(fs:List (List Nat)):Prop where
 o:∃dx,H e=some (.ins C dx (T5 pl nd fl))
 p:gG H pl ps
 n:H nd=some (.dT (IY ps))
 f:∃gs,gK H fl pl gs fs
 pf:pl≠fl
inductive RB(C CE CT:Addr):_|mk(H0:Hp)(e a t pl nd fl:Addr)(r:Rules)(ps:List Bd)(fs:List (List Nat))(q:Bd)(most:Nat):vs=[.ref e,.ref a,.ref t,.int most]->Ap H0 H->H0 pl=none->H0 nd=none->H0 fl=none->Bg C H0 a r->dB CE H e pl nd fl ps fs->De H t q.1 q.2->Cv r q->ps.length<=most->most<=200->fs.length<=200->(if most<(BA ps (Bk r q)).length then Ref CT [-9] H0 E else∀H',dB CE H' e pl nd fl (BA ps (Bk r q)) (fs++[(Bk r q).map (BA ps (Bk r q)).idxOf])->Ap H0 H'->Q .B0 H')->RB C CE CT vs H Q E
theorem C8{l:Addr}{o o':HO}(h:H l=some o)(n:∀xs,o≠ .tup xs):∀b xs,H b=some (.tup xs)->Av H l o' b=some (.tup xs):=fun b xs e=>by
 rw[Ac];·exact e
 ·intro z;rw[z,h]at e;exact n xs (zt e)
theorem FY(h:∀b xs,H b=some (.tup xs)->H' b=some (.tup xs)){c:List Addr}{d:List Bd}(p:Paired (fun t (q:Bd)=>De H t q.1 q.2) c d):Paired (fun t (q:Bd)=>De H' t q.1 q.2) c d:=Am (fun a b z=>h a _ z) p
theorem bp{r:Rules}{q:Bd}:(Bk r q).length=(r.moves (pB q)).length:=by simp[Bk]
theorem WK{r:Rules}(Z:B1 r)(R:Right r b){s:Nat}(c:s<=1):∀n,n<=169->((List.range n).flatMap (Ze r b s)).length<=52*n
|0,_=>ze _
|n+1,h=>by
 rw[yg,yd,zd,yb];have d:=WK Z R c n ∅;have:(Ze r b s n).length<=52:=by
  unfold Ze;split;·rename_i a;rw[z3];exact Ji Z (R n ∅ (by intro z;rcases JK c a with⟨Y,h⟩ |⟨Y,h|h⟩<;>rw[z]at h<;>cases h)).1
  ·exact zx _
 lia
theorem MI{r:Rules}(Z:B1 r){q:Bd}(h:Cv r q):(Bk r q).length<=8788:=by
 rw[bp];unfold pB;rw[MN h.b h.t];split;·exact zx _
 ·exact WK Z h.r h.t 169 (ze _)
theorem OB:(8788:Nat)<sizeLine:=⋯
theorem Ea{e d:Type}{R:e->d->Prop}{c:List e}{f:List d}(p:Paired R c f):Paired (fun a b=>a∈c/\R a b) c f:=by induction p with|nil=>exact .nil|cons h _ g=>exact .cons ⟨zh,h⟩ (Am (fun a b z=>⟨zg _ z.1,z.2⟩) g)
abbrev u7:List Str:=["self","hall","position","most","reached","move","later"]
theorem eM:Ah u7 ["self","hall","position","most"] (Ad Ww):={}
theorem Vu(G:AY):j_ 6 aE "follow" ["self","hall","position","most"] (RB aH aE aT):=by
 refine G.MV.has fun F=>F.Jw eM fun H Q E hr h hx=>?_;obtain⟨H0,e,a,t,D,s,fl,r,O,fs,q,A,rfl,c5,f6,f7,f8,hA,hG,ht,hq,e5,hm,h0,k⟩:=h;obtain⟨⟨dx,he⟩,⟨ts,b1,f4⟩,K,⟨gs,b3,c6,d2⟩,pf⟩:=hG;have hu:=Gu hr;exists%[An (i:=4) eM.nd (AF Ce),BC Bt rfl (BM (Ay (JZ G) hr rfl Ar (#v[pv 1,pv 2]))) (Aw (i:=5) eM.nd) (%[An (i:=6) eM.nd (Ay (Y4 G) hr rfl Ar (#v[pv 1,pv 2,pv 5])),AM (aG (OW hu (pv 6) (Al (pv 0)))) (%[AM (Ao bf (AO AV G.D6 y8 (#v[Al (pv 0)])) (pv 3)) (Ag (DZ (KN G) (hr.mono ⋯:AW 3 _).h rfl rfl hx)) Au,CW hu (Al (pv 0)) (pv 6) (AO AV G.D6 y8 (#v[Al (pv 0)])) rfl|A2 (B5 zK zW zY Bz (Al (pv 0)) (#v[pv 6]))]) Au|A2 (B5 zK zW zY Bz (pv 4) (#v[A8 hu (Al (pv 0)) (pv 6)]))]) |A2 (B5 zK zW zY Bz (Al (pv 0)) (#v[pv 4]))];refine⟨zx _,fun Z B=>?_⟩;have s1:Ap H (Av H Z (.lst [])):=Af B;have f3:=c5.trans s1;refine⟨_,rfl,_,rfl,a,t,r,q.1,q.2,rfl,hA.same f3,s1 _ _ ht,hq.b,hq.r,hq.t,fun H2 mq s2 X g8=>?_⟩;obtain⟨as,c0,f5⟩:=g8;have N:=s1.trans s2;have w:Z≠D:=fun z=>by rw[z,b1]at B;cases B
 have y:Z≠fl:=fun z=>by rw[z,b3]at B;cases B
 have P:Z≠s:=fun z=>by rw[z,K]at B;cases B
 have a7:mq≠D:=fun z=>by rw[z,s1 _ _ b1]at X;cases X
 have d7:mq≠fl:=fun z=>by rw[z,s1 _ _ b3]at X;cases X
 have a8:mq≠s:=fun z=>by rw[z,s1 _ _ K]at X;cases X
 have a6:mq≠Z:=fun z=>by rw[z,Aa]at X;cases X
 have R:s≠D:=fun z=>by rw[z,b1]at K;cases K
 have S:s≠fl:=fun z=>by rw[z,b3]at K;cases K
 have c7:∀{l:Addr}{o:HO},H l=some o->(∀C dx fs,o≠ .ins C dx fs)->e≠l:=fun{l o} h n z=>by rw[<-z,he]at h;exact n _ _ _ (zt h).symm
 have b5:e≠D:=c7 b1 (by intro Y Y Y z;cases z);have a2:e≠s:=c7 K (by intro Y Y Y z;cases z);have b4:e≠Z:=fun z=>by rw[<-z,he]at B;cases B
 have h5:∀{l:Addr}{o:HO},H l=some o->(∀xs,o≠ .tup xs)->t≠l:=fun{l o} h n z=>by rw[<-z,show H t=_ from ht]at h;exact n _ (zt h).symm
 have e8:∀g∈gs,∃L,H g=some (.lst (nV L)):=by
  have h3:∀{gs:List Addr}{fs:List (List Nat)},Paired (fun g L=>H g=some (.lst (nV L))) gs fs->∀g∈gs,∃L,H g=some (.lst (nV L)):=by
   intro gs fs p;induction p with
   |nil=>intro g u;cases u
   |cons h _ ih=>
    intro g u;rcases zw.mp u with rfl|u;·exact⟨_,h⟩
    ·exact ih g u
  exact h3 c6
 have e9:∀g∈gs,g≠Z:=fun g u z=>by obtain⟨L,h⟩:=e8 g u;rw[z,B]at h;cases h
 have f0:∀g∈gs,g≠s:=fun g u z=>by obtain⟨L,h⟩:=e8 g u;rw[z,K]at h;cases h
 have d6:H0 Z=none:=c5.free B;let nx:=Bk r q;let f1:Nat->Hp->Prop:=fun i H'=>A9 (Ap H0 H') (H' e=some (.ins aE dx (T5 D s fl))) (gG H' D (BA O (nx.take i))) (H' s=some (.dT (IY (BA O (nx.take i))))) (H' fl=some (.lst (gs.map V.ref))) ((∀g L,g∈gs->H g=some (.lst (nV L))->H' g=some (.lst (nV L)))) (De H' t q.1 q.2) (H' mq=some (.lst (as.map V.ref))) (Paired (fun a (m:Nat×Nat)=>Ia H' a m.1 m.2) as (r.moves (pB q))/\(BA O (nx.take i)).length<=A);refine⟨mq,rfl,⟨_,AJ.of c0⟩,Gz (xs:=as.map V.ref) (fun i σ H'=>E2 fun v5 v6=>A3 (σ=[some (.ref e),some (.ref a),some (.ref t),some (.int (A:Nat)),some (.ref Z),v5,v6]) (f1 i H') (H' Z=some (.lst (nV ((nx.take i).map (BA O (nx.take i)).idxOf))))) ⟨none,none,rfl,⟨c5.trans N,N _ _ he,⟨ts,N _ _ b1,FY (fun b xs z=>N _ _ z) f4⟩,N _ _ K,N _ _ b3,fun g L Y z=>N _ _ z,N _ _ ht,c0,f5,e5⟩,s2 _ _ Aa⟩ (fun i σ H' Y ⟨_,_,_,⟨_,_,_,_,_,_,_,z,_⟩,_⟩=>AJ.of z) ?_ ?_⟩
 ·rintro i v σ H' hi ⟨v5,v6,rfl,⟨i0,ie,ip,a0,a4,ig,it,c8,T,J⟩,b0⟩;obtain⟨ma,g9,rfl⟩:∃ma,as[i]?=some ma/\v= .ref ma:=by rw[z7,zy]at hi;obtain⟨c,e,rfl⟩:=hi;exact⟨c,e,rfl⟩
  obtain⟨⟨m1,m2⟩,e4,d0⟩:=AB T g9;have c3:=zf e4;obtain⟨d1,Y⟩:=N7 hA.Z hA.N hq c3;obtain⟨MO,c1,c2,Y⟩:=Qu hA.Z hq.b hq.r hq.t (GQ hq c3);have b9:nx[i]?=some (ND r q.1 (m1,m2),1-q.2):=by show(Bk r q)[i]?=_;unfold Bk;rw[z7,e4];rfl
  refine⟨_,rfl,_,rfl,_,rfl,a,t,ma,r,q.1,q.2,m1,m2,rfl,hA.same i0,it,d0,hq.b.len,MO.l1,c2,hq.t,fun H3 t3 f e2 g6=>?_⟩;generalize g7:((ND r q.1 (m1,m2),1-q.2):Bd)=I at b9 d1;have W:De H3 t3 I.1 I.2:=by rw[<-g7];exact g6
  have b7:nx.take (i+1)=nx.take i++[I]:=by rw[yi,b9];rfl
  have d:BA O (nx.take (i+1))=if I∈BA O (nx.take i)then BA O (nx.take i)else BA O (nx.take i)++[I]:=by rw[b7,YV]
  have e6:=Ra O nx (i+1);generalize e3:BA O (nx.take i)=j at*;obtain⟨M,U,d5⟩:=ip;have h4:t3≠D:=fun z=>by rw[z,U]at e2;cases e2
  refine Ax ?_;cbv;refine EK (fun d4 d3=>d4=[some (.ref e),some (.ref a),some (.ref t),some (.int (A:Nat)),some (.ref Z),some (.ref ma),some (.ref t3)]/\f1 (i+1) d3/\d3 Z=some (.lst (nV ((nx.take i).map j.idxOf)))/\De d3 t3 I.1 I.2) ?_ ?_
  ·rintro d4 H4 ⟨rfl,⟨j0,je,jp,d9,g3,jg,jt,g2,d8,e0⟩,a9,g1⟩;have a1:I∈BA O (nx.take (i+1)):=by rw[Fi,b7];exact .inr (by simp)
   have hv:Bb (IY (BA O (nx.take (i+1)))) (EF I)=some (V.int ((BA O (nx.take (i+1))).idxOf I:Nat)):=by rw[Q1,zc a1]
   have e7:CP H4 s (.ref t3) (some (V.int ((BA O (nx.take (i+1))).idxOf I:Nat))):=hv▸CP.t (k:=EF I) d9 g1;exists _,rfl,.inl ⟨rfl,_,AJ.of a9⟩,_,rfl,e,aE,dx,_,_,rfl,je,G.ec.cl,G.ec.nN,V3 D s fl,_,rfl,s,_,rfl,e7,Z,_,_,rfl,rfl,a9,?_;·unfold nV;rw[z3,z3,zO];have:=MI hA.Z hq;exact y2 (z_ (xH _ _) this) OB
   ·exists _,_,rfl,⟨Bv j0 d6,by rw[Ac b4];exact je,?_,by rw[Ac (zN P)];exact d9,by rw[Ac (zN y)];exact g3,fun g L u z=>by rw[Ac (e9 g u)];exact jg g L u z,?_,by rw[Ac a6];exact g2,?_,e0⟩;·obtain⟨c4,h1,h2⟩:=jp;exact⟨c4,by rw[Ac (zN w)];exact h1,FY (C8 a9 (by intro xs z;cases z)) h2⟩
    ·exact C8 a9 (by intro xs z;cases z) _ _ jt
    ·exact Am (fun a' m' z=>C8 a9 (by intro xs z;cases z) _ _ z) d8
    ·rw[Aa,b7,zu];unfold nV;rw[zu];have:(nx.take i).map (BA O (nx.take i++[I])).idxOf=(nx.take i).map j.idxOf:=by
      refine y6 fun x g5=>?_;have g4:x∈j:=by rw[<-e3,Fi];exact .inr g5
      rw[<-b7,d];split;·rfl
      ·exact WT g4 _
     rw[this];rfl
  ·intro b8;exists _,rfl,_,rfl,e,aE,dx,_,_,rfl,f _ _ ie,G.ec.cl,G.ec.nN,V3 D s fl,s,_,rfl,CP.t (k:=EF I) (f _ _ a0) W,_,rfl;rw[Q1];have c9:=i0.trans f;have p3:Paired (fun t (q:Bd)=>De H3 t q.1 q.2) M j:=FY (fun b xs z=>f _ _ z) d5;have f9:M.length=j.length:=zE p3;by_cases a1:I∈j
   ·rw[zc a1]at d;refine B9 (by rw[zc a1];rfl) (b8 _ _ ⟨rfl,⟨c9,f _ _ ie,?_,?_,f _ _ a4,fun g L u z=>f _ _ (ig g L u z),f _ _ it,f _ _ c8,Am (fun Y Y=>f _ _) T,?_⟩,f _ _ b0,W⟩);·rw[d];exact⟨M,f _ _ U,p3⟩
    ·rw[d];exact f _ _ a0
    ·rw[d];exact J
   ·rw[zb a1]at d;refine BJ (by rw[zb a1];rfl) ⟨_,rfl,e,aE,dx,_,_,rfl,f _ _ ie,G.ec.cl,G.ec.nP,Kh D s fl,D,_,rfl,.inl (AJ.of (f _ _ U)),_,rfl,_,_,rfl,rfl,_,rfl,?_⟩;have e1:(M.map V.ref).length=j.length:=by rw[z3,f9]
    by_cases hfull:A<=j.length;·refine BJ (zj (by rw[e1];lia)) ?_;rw[d,zd]at e6;rw[zc (show A<(BA O (Bk r q)).length from zF (Nat.lt_succ_of_le hfull) e6)]at k;exact D_ (KN G) (k.same c9)
    ·refine B9 (zo (by rw[e1];lia)) ⟨_,rfl,e,aE,dx,_,_,rfl,f _ _ ie,G.ec.cl,G.ec.nP,Kh D s fl,D,_,rfl,.inl (AJ.of (f _ _ U)),_,rfl,e,aE,dx,_,_,rfl,f _ _ ie,G.ec.cl,G.ec.nN,V3 D s fl,_,rfl,s,_,rfl,Rh.t (k:=EF I) (f _ _ a0) W (by rw[fV];exact y2 J (y2 hm ⋯)),?_⟩;rw[e1,fU a1];have f2:∀b xs,H3 b=some (.tup xs)->Av H3 s (.dT (IY (j++[I]))) b=some (.tup xs):=C8 (f _ _ a0) (by intro xs z;cases z);have b2:Av H3 s (.dT (IY (j++[I]))) D=some (.lst (M.map V.ref)):=by rw[Ac (zN R)];exact f _ _ U
     refine⟨_,rfl,e,aE,dx,_,_,rfl,by rw[Ac a2];exact f _ _ ie,G.ec.cl,G.ec.nP,Kh D s fl,.inl ⟨rfl,_,AJ.of b2⟩,_,rfl,D,_,_,rfl,rfl,b2,by rw[e1];exact y2 J (y2 hm ⋯),?_⟩;have a5:∀b xs,H3 b=some (.tup xs)->Av (Av H3 s (.dT (IY (j++[I])))) D (.lst (M.map V.ref++[.ref t3])) b=some (.tup xs):=fun b xs z=>C8 b2 (by intro xs z;cases z) _ _ (f2 b xs z);have a3:∀b o,H3 b=some o->b≠s->b≠D->Av (Av H3 s (.dT (IY (j++[I])))) D (.lst (M.map V.ref++[.ref t3])) b=some o:=fun b o z n1 n2=>by rw[Ac n2,Ac n1];exact z
     refine b8 _ _ ⟨rfl,⟨fun b o z=>a3 b o (c9 _ _ z) (Ab z f7) (Ab z f6),a3 _ _ (f _ _ ie) a2 b5,?_,?_,a3 _ _ (f _ _ a4) (zN S) (zN pf),fun g L u z=>a3 _ _ (f _ _ (ig g L u z)) (f0 g u) (d2 g u).1,a5 _ _ (f _ _ it),a3 _ _ (f _ _ c8) a8 a7,Am (fun Y Y z=>a5 _ _ (f _ _ z)) T,?_⟩,a3 _ _ (f _ _ b0) P w,a5 _ _ W⟩;·rw[d];exact⟨M++[t3],by rw[Aa,zu];rfl,BV (FY a5 p3) (.cons (a5 _ _ W) .nil)⟩
     ·rw[d,Ac R,Aa]
     ·rw[d,zd];show j.length+1<=A;lia
 ·rintro σ H' ⟨v5,v6,rfl,⟨i0,ie,ip,a0,a4,ig,it,c8,T,J⟩,b0⟩;have el:nx.take (as.map V.ref).length=nx:=by rw[z3,zE T,show(r.moves (pB q)).length=nx.length from(bp).symm,y1]
  rw[el]at ip a0 b0 J;rw[zb (show¬A<(BA O (Bk r q)).length from Nat.not_lt.mpr J)]at k;have g0:gs.length=fs.length:=zE c6;refine⟨_,rfl,e,aE,dx,_,_,rfl,ie,G.ec.cl,G.ec.nF,QJ D s fl,.inl ⟨rfl,_,AJ.of a4⟩,_,rfl,fl,_,_,rfl,rfl,a4,by rw[z3,g0];exact y2 h0 ⋯,?_⟩;have b6:e≠fl:=c7 b3 (by intro Y Y Y z;cases z);have tk:∀b xs,H' b=some (.tup xs)->Av H' fl (.lst (gs.map V.ref++[.ref Z])) b=some (.tup xs):=C8 a4 (by intro xs z;cases z);refine k _ ⟨⟨dx,by rw[Ac b6];exact ie⟩,?_,by rw[Ac S];exact a0,⟨gs++[Z],by rw[Aa,zu];rfl,BV ?_ (.cons (by rw[Ac y];exact b0) .nil),fun g u=>?_⟩,pf⟩ (Bv i0 f8);·obtain⟨c4,h1,h2⟩:=ip;exact⟨c4,by rw[Ac pf];exact h1,FY tk h2⟩
  ·exact Am (fun g L z=>by rw[Ac (d2 g z.1).2];exact ig g L z.1 z.2) (Ea c6)
  ·rcases zD.mp u with u|u;·exact d2 g u
   ·rw[zB.mp u];exact⟨w,y⟩
def Ro(r:Rules)(q:Bd):Nat:=if r.ended (pB q)=1 then 0 else if r.ended (pB q)=2 then 1 else 1-q.2
inductive R5(C:Addr):_|mk(a p:Addr)(r:Rules)(q:Bd):vs=[.ref a,.ref p]->Bg C H a r->De H p q.1 q.2->Cv r q->(∀H',Ap H H'->Q (.int (Ro r q:Nat)) H')->R5 C vs H Q E
def JH(b:List (List Nat))(i j:Nat):List Nat:=(List.range i).flatMap fun a=>List.replicate ((b.getD a []).count j) a
def Fs(a:List (List Nat))(i:Nat):List (List Nat):=(List.range a.length).map (JH a i)
def LL(H:Hp)(c:Addr)(a:List Addr)(b:List (List Nat)):Prop:=H c=some (.lst (a.map V.ref))/\a.Nodup/\c∉a/\Paired (fun d e=>H d=some (.lst (nV e))) a b
inductive Md(K:Frag):_|mk(fl pl:Addr)(gs:List Addr)(fs:List (List Nat)):vs=[.ref fl]->gK H fl pl gs fs->fs.length<=200->(∀a,(fs.getD a []).length<=8788)->(∀a j,j∈fs.getD a []->j<fs.length)->(∀H' el ds,Ap H H'->H el=none->(∀d∈ds,H d=none)->LL H' el ds (Fs fs fs.length)->Q (.ref el) H')->Md K vs H Q E
theorem JG(a:List (List Nat))(i j:Nat):JH a (i+1) j=JH a i j++List.replicate ((a.getD i []).count j) i:=by unfold JH;rw[yg,yd,yb]
theorem Sh(b:List (List Nat))(h:∀a,(b.getD a []).length<=8788)(j:Nat):∀i,(JH b i j).length<=8788*i|0=>ze _|i+1=>by rw[JG,zd,yF];have:=Sh b h j i;have:=r8 (a:=j) (l:=b.getD i []);have:=h i;lia
theorem MB(c:List (List Nat))(j i:Nat):∀n,(JH c n j).count i=if i<n then(c.getD i []).count j else 0
|0=>by simp[JH]
|n+1=>by
 rw[JG,wN,MB c j i n,s_];by_cases h:i<n;·have a:¬n=i:=∅;have b:i<n+1:=∅;simp[h,a,b]
 ·by_cases a:n=i;·subst a;simp
  ·have b:¬i<n+1:=∅;simp[h,a,b]
theorem aJ(d:List (List Nat))(j i n:Nat)(h:i∈JH d n j):i<n:=by unfold JH at h;obtain⟨a,c,b⟩:=yH.mp h;rw[(List.mem_replicate.mp b).2];exact zC.mp c
theorem bK{l:Addr}{i:List Nat}:∀{g:List Addr}{c:List (List Nat)},g.Nodup->Paired (fun d k=>H d=some (.lst (nV k))) g c->∀{j:Nat},g[j]?=some l->Paired (fun d k=>(Av H l (.lst (nV i))) d=some (.lst (nV k))) g (c.set j i)
|_,_,_,.nil,j,e=>by cases e
|d::g,k::c,f,.cons h t,0,e=>by cases e;rw[xV]at f;exact .cons (by rw[Aa]) (Am (fun a b z=>by rw[Ac (fun q=>f.1 (by rw[<-q];exact z.1))];exact z.2) (Ea t))
|d::g,k::c,f,.cons h t,j+1,e=>by
 rw[xV]at f;have m:g[j]?=some l:=‹e›;refine .cons ?_ (bK f.2 t m);rw[Ac];·exact h
 ·intro q;rw[q]at f;exact f.1 (zf m)
def Fx(a:List (List Nat))(i k j:Nat):List Nat:=JH a i j++List.replicate (((a.getD i []).take k).count j) i
theorem bG(a:List (List Nat))(i j:Nat):Fx a i 0 j=JH a i j:=by simp[Fx]
theorem fK(a:List (List Nat))(i j:Nat):Fx a i (a.getD i []).length j=JH a (i+1) j:=by rw[JG,Fx,y1]
theorem bH{a:List (List Nat)}{k j:Nat}(h:(a.getD i [])[k]?=some j)(x:Nat):Fx a i (k+1) x=if x=j then Fx a i k x++[i]else Fx a i k x:=by
 unfold Fx;rw[yi,h,xP,wN,sZ];by_cases q:x=j;·subst q;rw[zc rfl,xG,zc rfl,List.replicate_succ',zX]
 ·rw[zb q,zb (by simp;exact fun z=>q z.symm),uf]
theorem fJ{b:List (List Nat)}(c:∀a,(b.getD a []).length<=8788)(d:b.length<=200)(e:i<b.length)(k j:Nat):(Fx b i k j).length<sizeLine:=by
 unfold Fx;rw[zd,yF];have m:=Sh b c j i;have h:=r8 (a:=j) (l:=(b.getD i []).take k);have g:((b.getD i []).take k).length<=(b.getD i []).length:=by rw[zO];exact xH _ _
 have f:=c i;have:(1800000:Nat)<sizeLine:=⋯;lia
theorem lO:Ah ["hall","position","state"] ["hall","position"] (Ad Wp):={}
theorem Vn(c:AY):FK 4 "winner" ["hall","position"] (R5 aH):=by
 refine c.cS.has fun F=>F.ok lO fun H Q E g h=>?_;obtain⟨a,p,r,q,rfl,j,f,e,k⟩:=h;exists%[An (i:=2) lO.nd (Ay (Gx c) g rfl Ar (#v[pv 0,pv 1])),AM (Ao AZ (pv 2) Ae) (Ag (Aj (AD (v:= .int 0) rfl (C3 c.Ko) ⟨_,rfl⟩))) Au,AM (Ao AZ (pv 2) Ae) (Ag (Aj (AD (v:= .int 1) rfl (C3 c.F0) ⟨_,rfl⟩))) Au|Aj (AA Eb Ae (Az Bf (pv 1) Ae))];refine⟨_,rfl,_,rfl,a,p,r,q.1,q.2,rfl,j,f,e.b,fun l d=>?_⟩;exists _,rfl,rfl,_,rfl;have b:=k l d;unfold Ro pB at b;by_cases e1:r.ended (Aq q.1 q.2)=1;·rw[zc e1]at b;exact BJ (zj (by rw[e1];rfl)) b
 ·rw[zb e1]at b;refine B9 (zo (by intro z;injection z with z;exact e1 ∅)) ⟨_,rfl,rfl,_,rfl,?_⟩;by_cases e2:r.ended (Aq q.1 q.2)=2;·rw[zc e2]at b;exact BJ (zj (by rw[e2];rfl)) b
  ·rw[zb e2]at b;refine B9 (zo (by intro z;injection z with z;exact e2 ∅)) ⟨_,rfl,p,_,_,_,rfl,rfl,.of (d _ _ f),rfl,_,_,rfl,rfl,?_⟩;cbv;rw[show(1:Int)-(q.2:Int)=((1-q.2:Nat):Int) by have:=e.t;lia];exact b
abbrev qH:List Str:=["follows","earlier","number","reached","later"]
theorem XC:Ah qH ["follows"] (Ad JC):={}
theorem QB(Zf:AY):FK 1 "reversed_follows" ["follows"] (Md K):=by
 refine Zf.HX.has fun F=>F.ok XC fun H Q E hr h=>?_;obtain⟨fl,pl,gs,f,rfl,⟨y,Z,b2⟩,hn,h8,hj,k⟩:=h;have S:gs.length=f.length:=zE Z;exists%[FX (i:=1) (own:=[("reached",3)]) rfl XC.nd rfl rfl (Il rfl rfl rfl rfl) (BM (pv 0)) (Dn (N0:=qH) (sc0:=Ad JC) rfl rfl ∎) (fun Y Y Y Y Y=>Aw (i:=3) XC.nd) (fun Y Y Y Y Y=>Ci) (fun Y Y Y Y Y=>AF Ce),BC y0 rfl (L4 (by rfl) Zf.BG (#v[pv 0])) (Dj rfl (AS (Aw (i:=2) XC.nd) (AS (Aw (i:=3) XC.nd) Cq))) (Ag (BC y0 rfl (BM (pv 3)) (Aw (i:=4) XC.nd) (Ag (A2 (B5 zK zW zY Bz (Az AE (pv 1) (pv 4)) (#v[pv 2])))))) |Aj (pv 1)];refine⟨_,rfl,fl,rfl,⟨_,AJ.of y⟩,fun t J=>?_⟩;refine Dc (xs:=gs.map V.ref) (fun i H'=>∃m:List Addr,A5 (Ap H H') (H' t=some (.lst (m.map V.ref))) (m.Nodup) (m.length=i) (∀d∈m,H d=none/\d≠t/\H' d=some (.lst []))) ⟨[],Af J,Aa,wa,rfl,fun d p=>nomatch p⟩ (fun i H' Y ⟨_,z,_,_,_,_⟩=>AJ.of (z _ _ y)) ?_ ?_
 ·rintro i v H' hi ⟨m,O,n,nd,W,s⟩;have a5:i<gs.length:=by have:=(z8.mp hi).1;rwa[z3]at this
  refine⟨rfl,?_⟩;unfold HG;cbv;rw[zc rfl];refine⟨zx _,fun d p=>?_⟩;have w:t≠d:=Ab n p;exists _,by rw[Ac w];exact n,by rw[z3,W];exact zF (show i<200 by lia) ⋯,m++[d],fun b o e=>?_,?_,?_,?_;·rw[Ac (Ab e J),Ac (Ab (O _ _ e) p)];exact O _ _ e
  ·rw[Aa,zu];rfl
  ·refine yZ.mpr ⟨nd,by simp,fun a ha b hb z=>?_⟩;rw[zB.mp hb]at z;rw[z]at ha;have:=(s d ha).2.2;rw[p]at this;cases this
  ·rw[zd,W];rfl
  ·intro x I;rcases zD.mp I with I|I;·obtain⟨h1,U,h3⟩:=s x I;exists h1,U;rw[Ac U,Ac (Ab h3 p)];exact h3
   ·rw[zB.mp I];exact⟨O.free p,zN w,by rw[Ac (zN w),Aa]⟩
 ·rintro H1 ⟨m,X,a7,a0,W,s⟩;rw[z3]at W;have P:t∉m:=fun z=>(s t z).2.1 rfl;have p0:Paired (fun d L=>H1 d=some (.lst (nV L))) m (Fs f 0):=by
   have b0:∀(m:List Addr)(l:List (List Nat)),m.length=l.length->(∀d∈m,H1 d=some (.lst []))->(∀x∈l,x=[])->Paired (fun d L=>H1 d=some (.lst (nV L))) m l:=by
    intro m;induction m with
    |nil=>intro l h Y Y;cases l with|nil=>exact .nil|cons=>cases h
    |cons d m ih=>intro l h h1 U;cases l with|nil=>cases h|cons x l=>refine .cons ?_ (ih l ‹h› (fun d p=>h1 d (zg _ p)) fun x I=>U x (zg _ I));rw[U x zh];exact h1 d zh
   refine b0 m _ (by rw[W,S];simp[Fs]) (fun d p=>(s d p).2.2) fun x I=>?_;obtain⟨j,Y,rfl⟩:=zk.mp I;rfl
  have B:∀d∈m,H d=none:=fun d p=>(s d p).1;have a1:fl≠t:=Ab y J;refine⟨_,rfl,fl,_,rfl,AJ.of (X _ _ y),Kb (xs:=gs.map V.ref) (fun i C H'=>E3 fun v2 v3 N=>A4 (C=[some (.ref fl),some (.ref t),v2,v3,N]) (Ap H H') (H' t=some (.lst (m.map V.ref))) (Paired (fun d L=>H' d=some (.lst (nV L))) m (Fs f i))) ⟨none,none,none,rfl,X,a7,p0⟩ (fun i C H' Y ⟨_,_,_,_,z,_,_⟩=>AJ.of (z _ _ y)) ?_ ?_⟩
  ·rintro i v C H' T hi ⟨v2,v3,N,rfl,O,n,pd⟩ hT;obtain⟨g,hg,rfl⟩:∃g,gs[i]?=some g/\v= .ref g:=by rw[z7,zy]at hi;obtain⟨c,e,rfl⟩:=hi;exact⟨c,e,rfl⟩
   obtain⟨u,R,a8⟩:=AB Z hg;have a5:i<f.length:=(z8.mp R).1;have A:f.getD i []=u:=by rw[z5,R];rfl
   have D:Ap H' (Av H' T (.tup [.int (i:Nat),.ref g])):=Af hT;refine⟨T,_,rfl,.of Aa,rfl,_,_,rfl,_,_,rfl,rfl,_,rfl,g,rfl,⟨_,AJ.of (D _ _ (O _ _ a8))⟩,Gz (xs:=nV u) (fun k C M=>∃N,A4 (C=[some (.ref fl),some (.ref t),some (.int (i:Nat)),some (.ref g),N]) (Ap H M) (M t=some (.lst (m.map V.ref))) (Paired (fun d L=>M d=some (.lst (nV L))) m ((List.range f.length).map (Fx f i k)))) ⟨N,rfl,O.trans D,D _ _ n,?_⟩ (fun k C M Y ⟨_,_,z,_,_⟩=>AJ.of (z _ _ a8)) ?_ ?_⟩;·have:(List.range f.length).map (Fx f i 0)=Fs f i:=y6 fun j Y=>bG f i j;rw[this];exact Am (fun Y Y=>D _ _) pd
   ·rintro k v C H2 hk ⟨N,rfl,s2,r,G⟩;obtain⟨j,a4,rfl⟩:∃j,u[k]?=some j/\v= .int (j:Nat):=by unfold nV at hk;rw[z7,zy]at hk;obtain⟨c,e,rfl⟩:=hk;exact⟨c,e,rfl⟩
    have a3:j<f.length:=hj i j (by rw[A];exact zf a4);have a2:m.length=f.length:=by rw[W,S]
    obtain⟨d,p⟩:∃d,m[j]?=some d:=⟨_,z4 (by rw[a2];exact a3)⟩;obtain⟨L,a6,a9⟩:=AB G p;have b1:L=Fx f i k j:=by rw[z7,xh a3]at a6;exact(zt a6).symm
    subst b1;have w:t≠d:=fun z=>P (by rw[z];exact zf p);exists _,rfl,_,rfl,t,_,_,V.ref d,rfl,rfl,AJ.of r,AN (by rw[z7,p];rfl),.inl ⟨rfl,_,AJ.of a9⟩,_,rfl,d,_,_,rfl,rfl,a9,?_;·unfold nV;rw[z3];exact fJ h8 hn a5 k j
    ·refine⟨_,rfl,fun b o e=>?_,by rw[Ac w];exact r,?_⟩;·rw[Ac (Ab e (B d (zf p)))];exact s2 _ _ e
     ·have e1:nV (Fx f i k j)++[V.int (i:Nat)]=nV (Fx f i k j++[i]):=by unfold nV;rw[zu];rfl
      rw[e1];have e2:(List.range f.length).map (Fx f i (k+1))=((List.range f.length).map (Fx f i k)).set j (Fx f i k j++[i]):=by
       apply xJ;·simp
       ·intro x h1 U;rw[xp,vg,bH (by rw[A];exact a4),tf];by_cases q:x=j;·subst q;simp
        ·rw[zb q,zb (fun z=>q z.symm),xp,vg]
      rw[e2];exact bK a0 G p
   ·rintro C H2 ⟨N,rfl,s2,r,G⟩;exists _,_,_,rfl,s2,r;have:(List.range f.length).map (Fx f i (nV u).length)=Fs f (i+1):=y6 fun j Y=>by rw[show(nV u).length=(f.getD i []).length by rw[A];simp[nV]];exact fK f i j
    rw[<-this];exact G
  ·rintro C H' ⟨v2,v3,N,rfl,O,n,pd⟩;rw[z3,S]at pd;exact⟨_,rfl,k H' t m O J B ⟨n,a0,P,pd⟩⟩
structure EB(r:Rules)(ps:List Bd)(fs:List (List Nat)):Prop where
 Z:B1 r
 N:Oh r
 good:∀q∈ps,Cv r q
 nd:ps.Nodup
 len:fs.length=ps.length
 small:ps.length<=200
 Zh:∀i q,ps[i]?=some q->fs.getD i []=(Bk r q).map ps.idxOf
 jT:∀q∈ps,∀p∈Bk r q,p∈ps
theorem LC{r:Rules}{p:Bd}(b:Cv r p):∀(a:List Bd),(∀q∈a,Cv r q)->(a.map pB).findIdx? (fun x=>x==pB p)=if p∈a then some (a.idxOf p)else none
|[],_=>by simp
|q::a,h=>by
 have f:=h q zh;have c:=LC b a fun x d=>h x (zg _ d);rw[zH,wF,c];by_cases e:q=p;·subst e;simp
 ·have:(pB q==pB p)=false:=zL.mpr fun z=>e ((aX f b).mp z);rw[this,um,zL.mpr e];by_cases h2:p∈a;·simp[h2]
  ·have:¬p=q:=fun z=>e z.symm;simp[h2,this]
theorem EB.edges{r:Rules}{a:List Bd}{c:List (List Nat)}(G:EB r a c):r.edges (a.map pB)=c:=by
 unfold Rules.edges;apply xJ;·simp[G.len]
 ·intro i o n;rw[xp,xp];have g:i<a.length:=‹o›;have m:=z4 g;have f:a[i]∈a:=wo g;rw[N1 G.Z G.N (G.good _ f)];have e:=G.Zh i _ m;rw[z5,z4 n]at e;have t:c[i]=(Bk r a[i]).map a.idxOf:=e;rw[t,List.filterMap_map];have b:∀l:List Bd,(∀p∈l,p∈a)->l.filterMap ((fun q=>(a.map pB).findIdx? fun x=>x==q)∘pB)=l.map a.idxOf:=by
   intro l;induction l with
   |nil=>intro Y;rfl
   |cons p l j=>
    intro h;have d:=h p zh;rw[yu];have s:((fun q=>(a.map pB).findIdx? fun x=>x==q)∘pB) p=some (a.idxOf p):=by show(a.map pB).findIdx? (fun x=>x==pB p)=_;rw[LC (G.good p d) a G.good,zc d]
    rw[s];cbv;rw[j fun x k=>h x (zg _ k)];rfl
  exact b _ (G.jT _ f)
def Cd(a:List Bd):List Nat:=a.map (·.2)
def BB(r:Rules)(a:List Bd):List Tafl.Value:=a.map fun q=>r.endValue (pB q)
theorem T4(r:Rules)(p:Tafl.Pos):r.ended p<=2:=by
 unfold Rules.ended;split;·decide
 ·split<;>decide
theorem Kg{r:Rules}{q:Bd}:(Bk r q=[]↔r.endValue (pB q)≠none):=by
 have b:Bk r q=[]↔r.moves (pB q)=[]:=by unfold Bk;rw[ya]
 rw[b];unfold Rules.endValue Rules.over;have a:r.ended (pB q)≠0->r.moves (pB q)=[]:=fun h=>by unfold Rules.moves;rw[zc h]
 have:=T4 r (pB q);by_cases he:r.ended (pB q)=0
 ·by_cases hmm:r.moves (pB q)=[];·simp[he,hmm]
  ·simp[he,hmm]
 ·have:r.ended (pB q)=1\/r.ended (pB q)=2:=∅;rcases this with h|h<;>simp[h,a he]
theorem Xd{r:Rules}{q:Bd}(h:Bk r q=[]):r.endValue (pB q)=some (Ro r q,0):=by
 have a:r.moves (pB q)=[]:=by unfold Bk at h;rwa[ya]at h
 unfold Rules.endValue Rules.over Ro;have:=T4 r (pB q);by_cases he:r.ended (pB q)=0;·simp[he,a];rfl
 ·have:r.ended (pB q)=1\/r.ended (pB q)=2:=∅;rcases this with h|h<;>simp[h]
theorem iH{r:Rules}{q:Bd}:Ro r q<=1:=by
 unfold Ro;split;·decide
 ·split;·decide
  ·lia
theorem getD_map'{a b:Type}(f:a->b)(l:List a)(i:Nat)(d:b)(x:a)(h:l[i]?=some x):(l.map f).getD i d=f x:=by rw[z5,z7,h];rfl
theorem getD_none{a:Type}(l:List a)(i:Nat)(d:a)(h:l[i]?=none):l.getD i d=d:=by rw[z5,h];rfl
theorem EB.Ts{r:Rules}{a:List Bd}{b:List (List Nat)}(G:EB r a b)(h:a[i]?=none):b.getD i []=[]:=by apply getD_none;rw[y9]at h|-;rw[G.len];exact h
theorem EB.gr{r:Rules}{a:List Bd}{b:List (List Nat)}(G:EB r a b):HM.Gr a.length (Cd a) b (Fs b b.length) (BB r a):=by
 have g:∀i j,j∈b.getD i []->j<a.length:=fun i j h=>by cases e:a[i]? with|none=>rw[G.Ts e]at h;cases h|some q=>rw[G.Zh i q e]at h;obtain⟨p,k,rfl⟩:=zk.mp h;exact List.idxOf_lt_length_of_mem (G.jT q (zf e) p k)
 have c:∀j,j<a.length->(Fs b b.length).getD j []=JH b b.length j:=fun j d=>by unfold Fs;exact getD_map' _ _ _ _ _ (xh (by rw[G.len];exact d))
 refine⟨G.len,by simp[Fs,G.len],by simp[BB],g,fun i j h=>?_,fun i j f d=>?_,fun i=>?_,fun i x h=>?_,fun i f=>?_⟩
 ·by_cases d:j<a.length;·rw[c j d]at h;have:=aJ b j i _ h;rw[<-G.len];exact this
  ·rw[getD_none _ _ _ (y9.mpr (by simp[Fs,G.len];lia))]at h;cases h
 ·rw[c j d,MB,zc (by rw[G.len];exact f)]
 ·cases e:a[i]? with|none=>rw[getD_none _ _ _ (by unfold Cd;rw[z7,e];rfl)];decide|some q=>unfold Cd;rw[getD_map' _ _ _ _ _ e];exact(G.good q (zf e)).t
 ·cases e:a[i]? with|none=>rw[getD_none _ _ _ (by unfold BB;rw[z7,e];rfl)]at h;cases h|some q=>unfold BB at h;rw[getD_map' _ _ _ _ _ e]at h;have l:Bk r q=[]:=Kg.mpr (by rw[h];exact fun z=>nomatch z);rw[Xd l]at h;cases h;exact⟨rfl,iH⟩
 ·obtain⟨q,e⟩:∃q,a[i]?=some q:=⟨_,z4 f⟩;unfold BB;rw[G.Zh i q e,getD_map' _ _ _ _ _ e,ya];exact Kg
theorem EB.values{r:Rules}{a:List Bd}{b:List (List Nat)}(G:EB r a b){f:List Tafl.Value}(F:Xp (Cd a) b (BB r a) f):r.values (a.map pB)=f:=by
 have h:=HM.UJ F;have e:(a.map pB).map (fun p=>p.side)=Cd a:=by rw[zG];rfl
 have d:(a.map pB).map r.endValue=BB r a:=by rw[zG];rfl
 have c:(BB r a).length=(a.map pB).length:=by simp[BB]
 unfold Rules.values;rw[e,d,G.edges,<-c];exact h
def Cw:Tafl.Value->Int×Int|some x=>((x.1:Nat),(x.2:Nat)) |none=>(2,0)
def kP(H:Hp)(b:Addr)(c:List Tafl.Value):Prop:=∃a:List Addr,H b=some (.lst (a.map V.ref))/\Paired (fun t v=>Cj H t (Cw v)) a c
theorem MG{d c:Type}{R:d->c->Prop}{a:d}{b:c}(h:R a b):∀{f:List d}{e:List c},Paired R f e->∀(j:Nat),Paired R (f.set j a) (e.set j b) |_,_,.nil,_=> .nil|_,_,.cons _ t,0=> .cons h t|_,_,.cons r t,j+1=> .cons r (MG h t j)
inductive R6(C:Addr):_|mk(a pl fl:Addr)(r:Rules)(ps:List Bd)(gs:List Addr)(fs:List (List Nat)):vs=[.ref a,.ref pl,.ref fl]->Bg C H a r->gG H pl ps->gK H fl pl gs fs->EB r ps fs->(∀H' wl,Ap H H'->H wl=none->kP H' wl (r.values (ps.map pB))->Xp (Cd ps) fs (BB r ps) (r.values (ps.map pB))->Q (.ref wl) H')->R6 C vs H Q E
structure Sep(H:Hp)(vl ul ql el:Addr)(ds:List Addr):Prop where
 hv:H vl=none
 hu:H ul=none
 hq:H ql=none
 vu:vl≠ul
 vq:vl≠ql
 uq:ul≠ql
 ev:el≠vl
 eu:el≠ul
 eq:el≠ql
 d:∀d∈ds,d≠vl/\d≠ul/\d≠ql
structure VS(H H':Hp)(vl ul ql el:Addr)(ds:List Addr)(prs:List (List Nat))(b:B):Prop where
 sm:Ap H H'
 v:∃tv:List Addr,H' vl=some (.lst (tv.map V.ref))/\Paired (fun t v=>Cj H' t (Cw v)) tv b.vals
 u:H' ul=some (.lst (b.EC.map V.int))
 q:H' ql=some (.lst (nV b.queue))
 e:H' el=some (.lst (ds.map V.ref))
 d:Paired (fun d es=>H' d=some (.lst (nV es))) ds prs
theorem VS.same{c:Hp}{f g i j:Addr}{k:List Addr}{a:List (List Nat)}{b:B}(h:VS H H' f g i j k a b)(s:Ap H' c):VS H c f g i j k a b:=by obtain⟨m,⟨l,o,n⟩,u,q,e,d⟩:=h;exact⟨m.trans s,⟨l,s _ _ o,Am (fun Y Y=>s _ _) n⟩,s _ _ u,s _ _ q,s _ _ e,Am (fun Y Y=>s _ _) d⟩
theorem VS.lM{a f i k:Addr}{l:List Addr}{c:List (List Nat)}{b:B}(S:Sep H a f i k l)(h:VS H H' a f i k l c b){t:Addr}{v:Tafl.Value}(j:Nat)(n:H' a=some (.lst xs))(w:Cj H' t (Cw v)):VS H (Av H' a (.lst (xs.set j (.ref t)))) a f i k l c ⟨b.vals.set j v,b.EC,b.queue⟩:=by obtain⟨s,⟨g,o,x⟩,u,q,e,d⟩:=h;rw[o]at n;cases n;have m:=C8 (o':= .lst ((g.map V.ref).set j (.ref t))) o (by intro xs z;cases z);exact⟨Bv s S.hv,⟨g.set j t,by rw[Aa,wK],MG (R:=fun r p=>Cj (Av H' a (.lst ((g.map V.ref).set j (.ref t)))) r (Cw p)) (m _ _ w) (Am (fun Y Y=>m _ _) x) j⟩,by rw[Ac (zN S.vu)];exact u,by rw[Ac (zN S.vq)];exact q,by rw[Ac S.ev];exact e,Am (fun y A z=>by rw[Ac (S.d y z.1).1];exact z.2) (Ea d)⟩
theorem VS.ow{f c g i:Addr}{k:List Addr}{a:List (List Nat)}{b:B}(S:Sep H f c g i k)(h:VS H H' f c g i k a b)(j:Nat)(z:Int):VS H (Av H' c (.lst ((b.EC.map V.int).set j (.int z)))) f c g i k a ⟨b.vals,b.EC.set j z,b.queue⟩:=by obtain⟨n,⟨l,p,o⟩,u,q,e,d⟩:=h;have m:=C8 (o':= .lst ((b.EC.map V.int).set j (.int z))) u (by intro xs z;cases z);exact⟨Bv n S.hu,⟨l,by rw[Ac S.vu];exact p,Am (fun Y Y=>m _ _) o⟩,by rw[Aa,wK],by rw[Ac (zN S.uq)];exact q,by rw[Ac S.eu];exact e,Am (fun r s z=>by rw[Ac (S.d r z.1).2.1];exact z.2) (Ea d)⟩
theorem VS.app{f g c j:Addr}{k:List Addr}{a:List (List Nat)}{b:B}(S:Sep H f g c j k)(h:VS H H' f g c j k a b)(i:Nat):VS H (Av H' c (.lst (nV b.queue++[.int (i:Nat)]))) f g c j k a ⟨b.vals,b.EC,b.queue++[i]⟩:=by obtain⟨n,⟨l,p,o⟩,u,q,e,d⟩:=h;have m:=C8 (o':= .lst (nV b.queue++[.int (i:Nat)])) q (by intro xs z;cases z);exact⟨Bv n S.hq,⟨l,by rw[Ac S.vq];exact p,Am (fun Y Y=>m _ _) o⟩,by rw[Ac S.uq];exact u,by rw[Aa];unfold nV;rw[zu];rfl,by rw[Ac S.eq];exact e,Am (fun r s z=>by rw[Ac (S.d r z.1).2.2];exact z.2) (Ea d)⟩
def Za(r:Rules)(a:List Bd)(b:List Nat):List Tafl.Value:=(List.range a.length).map fun i=>if i∈b then(BB r a).getD i none else none
theorem iK(r:Rules)(a:List Bd):Za r a []=List.replicate a.length none:=by unfold Za;rw[sL];refine⟨by simp,fun b c=>?_⟩;obtain⟨i,Y,rfl⟩:=zk.mp c;simp
theorem Ur{r:Rules}{a:List Bd}{b:List Nat}{x:Nat}(h:x<(Za r a b).length):(Za r a b)[x]=if x∈b then(BB r a).getD x none else none:=by simp[Za]
theorem PR(r:Rules)(a:List Bd)(b:List Nat):(Za r a b).length=a.length:=by simp[Za]
theorem dQ{r:Rules}{a:List Bd}{b:List Nat}(c:i<a.length):Za r a (b++[i])=(Za r a b).set i ((BB r a).getD i none):=by
 apply xJ;·simp[PR]
 ·intro x e d;rw[tf,Ur];by_cases q:i=x;·subst q;simp
  ·rw[zb q,Ur];have:x∈b++[i]↔x∈b:=by simp;intro z;exact absurd z.symm q
   simp only[this]
theorem iL{r:Rules}{a:List Bd}{b:List (List Nat)}(G:EB r a b):Za r a ((List.range a.length).filter fun i=>(b.getD i []).isEmpty)=BB r a:=by
 apply xJ;·simp[PR,BB]
 ·intro x g f;have d:x<a.length:=by rwa[PR]at g
  rw[Ur];have e:(BB r a).getD x none=(BB r a)[x]:=by rw[z5,z4 f];rfl
  by_cases q:x∈(List.range a.length).filter fun i=>(b.getD i []).isEmpty;·rw[zc q,e]
  ·rw[zb q];have c:¬b.getD x []=[]:=fun z=>q (by rw[zS,zC];exact⟨d,by rw[z];rfl⟩);have:=mt (G.gr.qB x d).mpr c;rw[rR]at this;rw[<-e,this]
theorem Yc{l:List Nat}(h:l.Nodup)(b:∀x∈l,x<n):l.length<=n:=by
 have e:((List.range n).filter fun x=>decide (x∈l)).length<=n:=by have:=xy (fun x=>decide (x∈l)) (List.range n);rwa[yj]at this
 have a:l.Perm ((List.range n).filter fun x=>decide (x∈l)):=(w9 h (wW.filter _)).mpr fun x=>by rw[zS,zC,zJ];exact⟨fun q=>⟨b x q,q⟩,fun q=>q.2⟩
 rw[a.length_eq];exact e
theorem Ls{d c:TE}{b:L2.St}{Q:VK}(x y:Bool)(f:∀a:VK,a (.bl x) H->d b H a)(e:x=false->∀a:VK,a (.bl y) H->c b H a)(q:Q (.bl (x||y)) H):lE d c b H Q:=by refine f _ ⟨x,rfl,?_⟩;cases x with|true=>exact BJ rfl q|false=>exact B9 rfl (e rfl _ q)
theorem UO{c:TE}{g:TG}{D:Ends}{b:L2.St}(h:c b H fun v d=>g v b d fun a H'=>D.nx a H'):R0 c g D b H:=h
theorem Ut{Q:VK}{x y:Bool}(q:Q (.bl x) H)(e:y=x):Q (.bl y) H:=e▸q
theorem Ey{x y:Int}:decide (V.int x=V.int y)=decide (x=y):=by rw[y3];exact⟨fun z=>by injection z,fun z=>by rw[z]⟩
abbrev pO:List Str:=["hall","positions","follows","values","unsettled","earlier","queue","number","done","value","settles","reached"]
theorem Iw:Ah pO ["hall","positions","follows"] (Ad Ly):={}
theorem Vo(Zf:AY):FK 5 "values_of" ["hall","positions","follows"] (R6 aH):=by
 refine Zf.TC.has fun F=>F.ok Iw fun H Q E hr h=>?_;obtain⟨a,pl,fl,r,f,gs,l,rfl,hA,⟨ts,e2,d6⟩,⟨b0,d7,k4⟩,G,k⟩:=h;exists%[An (i:=3) Iw.nd (AA Qq (AF (#v[B3 (#v[AD (v:= .int 2) rfl (C3 Zf.Ff) ⟨_,rfl⟩,Ae])])) (AO AV Zf.D6 y8 (#v[pv 1]))),FX (i:=4) (te:=om (fun xs H Q=>∃p ys,xs=[V.ref p]/\(AJ K H p ys\/Em K H p ys)/\Q (V.int ys.length) H) (Be (Bj 11) Ca)) (own:=[("reached",11)]) rfl Iw.nd rfl rfl (Il rfl rfl rfl rfl) (BM (pv 2)) (Dn (N0:=pO) (sc0:=Ad Ly) rfl rfl ∎) (fun Y Y Y Y Y=>Aw (i:=11) Iw.nd) (fun Y Y Y Y Y=>Ci) (fun Y Y Y Y Y=>AO AV Zf.D6 y8 (#v[pv 11])),An (i:=5) Iw.nd (Ay (QB Zf) (hr.mono ⋯) rfl Ar (#v[pv 2])),FX (i:=6) (g:=cy K 2 (KO (E7 7) (KO (E7 11) gg))) (tt:=lF (fun σ H Q=>(Bj 11) σ H fun x H'=>∃k,kQ K x H' k/\Q k H')) (own:=[("number",7),("reached",11)]) rfl Iw.nd rfl rfl (Il rfl rfl rfl rfl) (L4 (by rfl) Zf.BG (#v[pv 2])) (Dn (N0:=pO) (sc0:=Ad Ly) rfl rfl ∎) (fun Y Y Y Y Y=>Dj rfl (AS (Aw (i:=7) Iw.nd) (AS (Aw (i:=11) Iw.nd) Cq))) (fun Y Y Y Y Y=>WA (FW (IH (pv 11) (fun Y=>rfl)))) (fun Y Y Y Y Y=>pv 7),BC y0 rfl (BM (pv 6)) (Aw (i:=7) Iw.nd) (Ag (HN (B3 (#v[Ay (Vn Zf) hr rfl Ar (#v[pv 0,Az AE (pv 1) (pv 7)]),Ae])) (HP (pv 3) (pv 7) set_list))),An (i:=8) Iw.nd Ae,CV y0 (Ao FC (pv 8) (AO AV Zf.D6 y8 (#v[pv 6]))) (%[An (i:=9) Iw.nd (Az AE (pv 3) (Az AE (pv 6) (pv 8))),BC y0 rfl (BM (Az AE (pv 5) (Az AE (pv 6) (pv 8)))) (Aw (i:=7) Iw.nd) (%[ff (pv 4) (pv 7) cw Ae jS set_list,An (i:=10) Iw.nd (OU (Bo AZ (Az Bf (Az AE (pv 1) (pv 7)) Ae) (Az Bf (pv 9) Ae)) (EE (Bo AZ (Az AE (pv 4) (pv 7)) Ae))) |AM (Cm (Ao AZ (Az Bf (Az AE (pv 3) (pv 7)) Ae) (AD (v:= .int 2) (by rfl) (C3 Zf.Ff) ⟨_,rfl⟩)) (BL (BU (pv 10)))).pt (%[HN (B3 (#v[Az Bf (pv 9) Ae,AA Cf (Az Bf (pv 9) Ae) Ae])) (HP (pv 3) (pv 7) set_list) |A2 (B5 zK zW zY Bz (pv 6) (#v[pv 7]))]) Au]) |Qm (i:=8) Iw.nd Ae Vl]) |Aj (pv 3)];have a7:ts.length=f.length:=zE d6;have g1:gs.length=l.length:=zE d7;have i6:gs.length=f.length:=by rw[g1,G.len]
 have g0:=G.small;have k6:(200:Nat)<sizeLine:=⋯;have f8:∀a,(l.getD a []).length<=8788:=fun a=>by cases e:f[a]? with|none=>rw[G.Ts e];exact zx _|some q=>rw[G.Zh a q e,z3];exact MI G.Z (G.good q (zf e))
 have fj:∀a j,j∈l.getD a []->j<l.length:=fun a j h=>by rw[G.len];exact G.gr.lg a j h
 have h3:∀{i:Nat}{v:V},(gs.map V.ref)[i]?=some v->∃g,v= .ref g/\H g=some (.lst (nV (l.getD i [])))/\i<f.length:=fun{i v} Z=>by rw[z7,zy]at Z;obtain⟨g,hg,rfl⟩:=Z;obtain⟨i4,U,k0⟩:=AB d7 hg;refine⟨g,rfl,?_,by rw[<-G.len];exact(z8.mp U).1⟩;rw[z5,U];exact k0
 refine⟨K2,fun A j4=>⟨Ju,fun l0 h0=>?_⟩⟩;have s0:Ap H (Av H A (.tup [.int 2,.int 0])):=Af j4;have s1:Ap H (Av (Av H A (.tup [.int 2,.int 0])) l0 (.lst [.ref A])):=s0.trans (Af h0);have k3:(Av (Av H A (.tup [.int 2,.int 0])) l0 (.lst [.ref A])) A=some (.tup [.int 2,.int 0]):=by have:(Av H A (.tup [.int 2,.int 0])) A=some (.tup [.int 2,.int 0]):=Aa;rw[Ac (Ab this h0)];exact this
 refine⟨_,rfl,pl,_,rfl,.inl (AJ.of (s1 _ _ e2)),l0,_,_,rfl,rfl,Aa,?_,?_,?_,fun w e0=>?_⟩;·have:(0:Int)<=((ts.map V.ref).length:Nat):=∅;lia
 ·rw[z3,a7];lia
 ·rw[z3,a7];show 1*(f.length:Int).toNat<=sizeLine;lia
 ·have eV:(List.replicate ((((ts.map V.ref).length:Nat):Int)).toNat [V.ref A]).flatten=(List.replicate f.length A).map V.ref:=by rw[z3,a7,wM,vf];rfl
  rw[eV];have s2:Ap H (Av (Av (Av H A (.tup [.int 2,.int 0])) l0 (.lst [.ref A])) w (.lst ((List.replicate f.length A).map V.ref))):=s1.trans (Af e0);have f9:H w=none:=s1.free e0;have b2:(Av (Av (Av H A (.tup [.int 2,.int 0])) l0 (.lst [.ref A])) w (.lst ((List.replicate f.length A).map V.ref))) w=some (.lst ((List.replicate f.length A).map V.ref)):=Aa;have h5:=Af (o:= .lst ((List.replicate f.length A).map V.ref)) e0 _ _ k3;generalize k9:(Av (Av (Av H A (.tup [.int 2,.int 0])) l0 (.lst [.ref A])) w (.lst ((List.replicate f.length A).map V.ref)))=H2 at s2 b2 h5|-;refine⟨_,rfl,fl,rfl,⟨_,AJ.of (s2 _ _ b0)⟩,fun J b8=>Dc (xs:=gs.map V.ref) (Xn H2 J fun i=>(l.take i).map fun es=>V.int (es.length:Nat)) (IX b8 rfl) (fun i H' Y q=>AJ.of (q.1 _ _ (s2 _ _ b0))) ?_ ?_⟩
  ·rintro i v H' Z q;obtain⟨g,rfl,hg,s⟩:=h3 Z;refine⟨rfl,?_⟩;unfold HG;cbv;rw[zc rfl];refine⟨_,rfl,g,_,rfl,.inl (AJ.of (q.1 _ _ (s2 _ _ hg))),Gp b8 q ?_ (AR _) ?_⟩;·rw[z3,zO];lia
   ·have e:l[i]?=some (l.getD i []):=Qt (by rw[G.len];exact s);rw[yi,e,zu];unfold nV;rw[z3];rfl
  ·rintro H3 ⟨a6,R⟩;have s3:Ap H H3:=s2.trans a6;have i5:H J=none:=s2.free b8;have vu:w≠J:=Ab b2 b8;have eU:(l.take (gs.map V.ref).length).map (fun es=>V.int (es.length:Nat))=(l.map fun es=>(es.length:Int)).map V.int:=by rw[z3,g1,y1,zG];rfl
   dsimp only at R;rw[eU]at R;refine⟨_,rfl,fl,pl,gs,l,rfl,⟨s3 _ _ b0,Am (fun Y Y=>s3 _ _) d7,k4⟩,by rw[G.len];exact g0,f8,fj,fun H4 el ds f3 c1 j8 j9=>?_⟩;obtain⟨d2,k7,k5,f7⟩:=j9;have s4:Ap H H4:=s3.trans f3;refine⟨_,rfl,fl,_,rfl,AJ.of (s4 _ _ b0),fun P X=>bQ (xs:=gs.map V.ref) (Xn H4 P fun i=>nV ((List.range i).filter fun a=>(l.getD a []).isEmpty)) (IX X rfl) (fun i H' Y q=>AJ.of (q.1 _ _ (s4 _ _ b0))) ?_ ?_⟩
   ·rintro i v H' T Z q hT;obtain⟨g,rfl,hg,s⟩:=h3 Z;have sT:Ap H' (Av H' T (.tup [.int (i:Nat),.ref g])):=Af hT;exists T,_,rfl,.of Aa,rfl,_,_,rfl,_,_,rfl,rfl,rfl,_,rfl,_,.inl ⟨_,AJ.of (sT _ _ (q.1 _ _ (s4 _ _ hg))),rfl⟩;have eF:(List.range (i+1)).filter (fun a=>(l.getD a []).isEmpty)=(List.range i).filter (fun a=>(l.getD a []).isEmpty)++if(l.getD i []).isEmpty=true then[i]else[]:=by rw[yg,rE,wX,qo]
    have g9:(nV ((List.range i).filter fun a=>(l.getD a []).isEmpty)).length<sizeLine:=by unfold nV;rw[z3];have:=xy (fun a=>(l.getD a []).isEmpty) (List.range i);rw[yj]at this;lia
    cases U:l.getD i []with|nil=>rw[U]at eF;refine BJ rfl ⟨_,rfl,Gp X q g9 sT ?_⟩;rw[eF];unfold nV;rw[zu];rfl|cons x i4=>rw[U]at eF;refine B9 rfl (ib q sT ?_);rw[eF];show nV (_++[])=_;rw[zR]
   ·rintro H5 ⟨a4,W⟩;have s5:Ap H H5:=s4.trans a4;dsimp only at W;rw[z3,i6]at W;have e6:∀{b o},H3 b=some o->H4 b=some o:=fun z=>f3 _ _ z;have g3:=e6 (a6 _ _ b2);have g5:=e6 R;have h6:∀d∈ds,d≠w/\d≠J/\d≠P:=fun d hd=>by have c2:=j8 d hd;refine⟨(fun z=>by rw[z,a6 _ _ b2]at c2;cases c2),(fun z=>by rw[z,R]at c2;cases c2),fun z=>?_⟩;obtain⟨j,hj⟩:=yJ hd;obtain⟨es,Y,he⟩:=AB f7 hj;rw[z,X]at he;cases he
    have S:Sep H w J P el ds:=⟨f9,i5,s4.free X,vu,Ab g3 X,Ab g5 X,(fun z=>by rw[z,a6 _ _ b2]at c1;cases c1),(fun z=>by rw[z,R]at c1;cases c1),Ab d2 X,h6⟩;generalize c3:((List.range f.length).filter fun a=>(l.getD a []).isEmpty)=Q0 at W;have f6:∀i∈Q0,i<f.length/\l.getD i []=[]:=fun i Z=>by rw[<-c3,zS,zC,u9]at Z;exact Z
    have i0:VS H H5 w J P el ds (Fs l l.length) ⟨Za r f (Q0.take 0),l.map fun es=>(es.length:Int),Q0⟩:=by
     refine⟨s5,⟨List.replicate f.length A,a4 _ _ g3,?_⟩,a4 _ _ g5,W,a4 _ _ d2,Am (fun Y Y=>a4 _ _) f7⟩;rw[wI,iK];have k1:∀n,Paired (fun t v=>Cj H5 t (Cw v)) (List.replicate n A) (List.replicate n (none:Tafl.Value)):=by intro n;induction n with|zero=>exact .nil|succ n ih=>exact .cons (a4 _ _ (e6 (a6 _ _ h5))) ih
     exact k1 _
    refine⟨_,rfl,P,rfl,⟨_,AJ.of W⟩,Gz (xs:=nV Q0) (fun k σ H'=>∃O,σ=[some (.ref a),some (.ref pl),some (.ref fl),some (.ref w),some (.ref J),some (.ref el),some (.ref P),O,none,none,none,none]/\VS H H' w J P el ds (Fs l l.length) ⟨Za r f (Q0.take k),l.map fun es=>(es.length:Int),Q0⟩) ⟨none,rfl,i0⟩ (fun k σ H' Y ⟨_,_,z⟩=>AJ.of z.q) ?_ ?_⟩
    ·rintro k v σ H' hk ⟨O,rfl,N⟩;obtain⟨i,Z,rfl⟩:∃i,Q0[k]?=some i/\v= .int (i:Nat):=by unfold nV at hk;rw[z7,zy]at hk;obtain⟨c,e,rfl⟩:=hk;exact⟨c,e,rfl⟩
     obtain⟨s,d1⟩:=f6 i (zf Z);obtain⟨q,hq⟩:∃q,f[i]?=some q:=⟨_,z4 s⟩;obtain⟨t,ht⟩:∃t,ts[i]?=some t:=⟨_,z4 (by rw[a7];exact s)⟩;obtain⟨q',a8,a9⟩:=AB d6 ht;rw[hq]at a8;cases a8;have e3:=G.good q (zf hq);have j5:Bk r q=[]:=by rw[G.Zh i q hq,ya]at d1;exact d1
     refine⟨_,rfl,_,rfl,_,rfl,pl,_,_,V.ref t,rfl,rfl,AJ.of (N.sm _ _ e2),AN (by rw[z7,ht];rfl),a,t,r,q,rfl,hA.same N.sm,N.sm _ _ a9,e3,fun H6 s6=>?_⟩;refine⟨K2,fun tw j2=>?_⟩;have f1:=N.same (s6.trans (Af (o:= .tup [.int (Ro r q:Nat),.int 0]) j2));obtain⟨tv,b9,b6⟩:=f1.v;have d8:tv.length=f.length:=by rw[zE b6,PR]
     exists _,rfl,_,rfl,w,_,_,i,rfl,rfl,b9,by rw[z3,d8];exact Ex s,_,rfl;rw[yi,Z,xP,dQ s];have ee:(BB r f).getD i none=some (Ro r q,0):=by unfold BB;rw[getD_map' _ _ _ _ _ hq,Xd j5]
     rw[ee];exact f1.lM S i b9 Aa
    ·rintro σ H' ⟨O,rfl,N⟩;have e7:Q0.take (nV Q0).length=Q0:=by unfold nV;rw[z3,y1]
     rw[e7,<-c3,iL G,c3]at N;have I0:Lp f.length (Cd f) l (BB r f) ⟨BB r f,l.map fun es=>(es.length:Int),Q0⟩ 0:=Lp.start G.gr rfl (by simp[G.len]) (fun i Z=>by show(l.map fun es=>(es.length:Int)).getD i 0=_;have e:l[i]?=some (l.getD i []):=Qt (by rw[G.len];exact Z);rw[getD_map' _ _ _ _ _ e]) c3.symm;have f4:∀{b:B}{d:Nat},Lp f.length (Cd f) l (BB r f) b d->b.queue.length<=f.length:=fun{b d} I=>by
      have e:((List.range f.length).filter fun x=>decide (x∈b.queue)).length<=f.length:=by have:=xy (fun x=>decide (x∈b.queue)) (List.range f.length);rwa[yj]at this
      have pm:b.queue.Perm ((List.range f.length).filter fun x=>decide (x∈b.queue)):=(w9 I.nd (wW.filter _)).mpr fun x=>by rw[zS,zC,zJ];exact⟨fun h=>⟨I.lt x h,h⟩,fun h=>h.2⟩
      rw[pm.length_eq];exact e
     exists fun m σ H'=>E5 fun(b:B) (d:Nat) (O v9 u:Option V)=>A4 (σ=[some (.ref a),some (.ref pl),some (.ref fl),some (.ref w),some (.ref J),some (.ref el),some (.ref P),O,some (.int (d:Nat)),v9,u,none]) (m=f.length-d) (Lp f.length (Cd f) l (BB r f) b d) (VS H H' w J P el ds (Fs l l.length) b),⟨f.length,_,0,O,none,none,rfl,rfl,I0,N⟩;rintro m σ H' ⟨b,d,O,v9,u,rfl,rfl,I,N⟩;exists _,rfl,_,rfl,P,_,rfl,.inl (AJ.of N.q),_,_,rfl,rfl,_,rfl;have X:=f4 I;by_cases hd:d<b.queue.length
     ·refine BJ (zj (by unfold nV;rw[z3];lia)) ?_;obtain⟨x,hx⟩:∃x,b.queue[d]?=some x:=⟨_,z4 hd⟩;have g2:=zf hx;have d9:x<f.length:=I.lt x g2;have i8:=(I.NQ x d9).mpr g2;obtain⟨⟨L,mn⟩,hv⟩:∃wm:Nat×Nat,b.vals.getD x none=some wm:=by cases e:b.vals.getD x none with|none=>exact absurd e i8|some z=>exact⟨z,rfl⟩
      obtain⟨tv,b9,b6⟩:=N.v;have d8:tv.length=f.length:=by rw[zE b6,I.vl]
      obtain⟨tx,g6⟩:∃tx,tv[x]?=some tx:=⟨_,z4 (by rw[d8];exact d9)⟩;obtain⟨vx,i9,g7⟩:=AB b6 g6;have k2:vx=some (L,mn):=by rw[z5,i9]at hv;exact hv
      subst k2;have f5:YN (nV b.queue) ((d:Nat):Int)=some (.int (x:Nat)):=AN (by unfold nV;rw[z7,hx];rfl);exists fun e9 a5=>E4 fun(b':B) (O v9 u:Option V)=>A3 (e9=[some (.ref a),some (.ref pl),some (.ref fl),some (.ref w),some (.ref J),some (.ref el),some (.ref P),O,some (.int ((d+1:Nat):Int)),v9,u,none]) (Lp f.length (Cd f) l (BB r f) b' (d+1)) (VS H a5 w J P el ds (Fs l l.length) b'),?_;·rintro e9 a5 ⟨b',O,v9,u,rfl,I',i1⟩;exact⟨f.length-(d+1),∅,b',d+1,O,v9,u,rfl,rfl,I',i1⟩
      ·exists _,rfl,_,rfl,_,rfl,P,_,_,_,rfl,rfl,AJ.of N.q,f5,w,_,_,V.ref tx,rfl,rfl,AJ.of b9,AN (by rw[z7,g6];rfl);have i7:ds.length=l.length:=by rw[zE N.d];simp[Fs]
       obtain⟨c5,e4⟩:∃c5,ds[x]?=some c5:=⟨_,z4 (by rw[i7,G.len];exact d9)⟩;obtain⟨D,d0,h2⟩:=AB N.d e4;have d3:(Fs l l.length).getD x []=D:=by rw[z5,d0];rfl
       refine⟨_,rfl,_,rfl,_,rfl,P,_,_,_,rfl,rfl,AJ.of N.q,f5,el,_,_,V.ref c5,rfl,rfl,AJ.of N.e,AN (by rw[z7,e4];rfl),c5,rfl,⟨_,AJ.of h2⟩,Gz (xs:=nV D) (fun k σ a5=>E4 fun(b':B) (b7:List Nat) (O u:Option V)=>A4 (σ=[some (.ref a),some (.ref pl),some (.ref fl),some (.ref w),some (.ref J),some (.ref el),some (.ref P),O,some (.int (d:Nat)),some (.ref tx),u,none]) (dy f.length (Cd f) L mn b (D.take k) b' b7) (VS H a5 w J P el ds (Fs l l.length) b') (Cj a5 tx ((L:Nat),(mn:Nat)))) ⟨b,[],O,u,rfl,dy.start I.vl I.ul,N,g7⟩ (fun k σ a5 Y ⟨_,_,_,_,_,_,z,_⟩=>?_) ?_ ?_⟩;·obtain⟨es,h1,j7⟩:=AB z.d e4;rw[d0]at h1;cases h1;exact AJ.of j7
       ·rintro k v σ H1 hk ⟨C,b7,O,u,rfl,M,a2,c6⟩;obtain⟨i,Z,rfl⟩:∃i,D[k]?=some i/\v= .int (i:Nat):=by unfold nV at hk;rw[z7,zy]at hk;obtain⟨c,e,rfl⟩:=hk;exact⟨c,e,rfl⟩
        have c0:(Fs l l.length).getD x []=D.take k++i::D.drop (k+1):=by rw[d3];obtain⟨j6,e'⟩:=z8.mp Z;rw[<-e',<-yf j6,sI]
        obtain⟨s,a9⟩:=dy.pos G.gr I hx c0;obtain⟨c8,M'⟩:=M.step s a9;have d4:C.EC.length=f.length:=M.ul;obtain⟨uz,g4⟩:∃uz,C.EC[i]?=some uz:=⟨_,z4 (by rw[d4];exact s)⟩;have c4:C.EC.getD i 0=uz:=by rw[z5,g4];rfl
        refine⟨_,rfl,_,rfl,J,_,_,_,rfl,rfl,AJ.of a2.u,AN (by rw[z7,g4];rfl),uz,1,rfl,rfl,J,_,_,i,rfl,rfl,a2.u,by rw[z3,d4];exact Ex s,?_⟩;have a0:=a2.ow S i (uz-1);have a3:Cj (Av H1 J (.lst ((C.EC.map V.int).set i (.int (uz-1))))) tx ((L:Nat),(mn:Nat)):=C8 a2.u (by intro xs z;cases z) _ _ c6;generalize(Av H1 J (.lst ((C.EC.map V.int).set i (.int (uz-1)))))=e8 at a0 a3|-;obtain⟨q,hq⟩:∃q,f[i]?=some q:=⟨_,z4 s⟩;obtain⟨t,ht⟩:∃t,ts[i]?=some t:=⟨_,z4 (by rw[a7];exact s)⟩;obtain⟨q',a8,e1⟩:=AB d6 ht;rw[hq]at a8;cases a8;have b3:(Cd f).getD i 0=q.2:=getD_map' _ _ _ _ _ hq;cbv;refine CU (UO (Ls (decide (q.2=L)) (decide (uz-1=0)) (fun Q' q'=>⟨_,rfl,_,rfl,pl,_,_,V.ref t,rfl,rfl,AJ.of (a0.sm _ _ e2),AN (by rw[z7,ht];rfl),t,_,_,V.int (q.2:Nat),rfl,rfl,.of (a0.sm _ _ e1),rfl,_,rfl,tx,_,_,V.int (L:Nat),rfl,rfl,.of a3,rfl,rfl,Ut q' (Ey.trans (y3.mpr ⟨fun z=>∅,fun z=>∅⟩))⟩) (fun Y Q' q'=>⟨_,rfl,_,rfl,J,_,_,V.int (uz-1),rfl,rfl,AJ.of a0.u,AN (by rw[z7];cbv;rw[wL (by rw[d4];exact s)];rfl),rfl,Ut q' Ey⟩) (Ax ?_)));cbv;refine DG ?_;have h7:L<=1:=I.who x _ hv;obtain⟨d5,a1,c7⟩:=a0.v;have c9:d5.length=f.length:=by rw[zE c7];exact M.vl
        obtain⟨ti,g8⟩:∃ti,d5[i]?=some ti:=⟨_,z4 (by rw[c9];exact s)⟩;obtain⟨vi,j1,f2⟩:=AB c7 g8;have e5:C.vals.getD i none=vi:=by have:C.vals[i]?=some vi:=j1;rw[z5,this];rfl
        have f0:∀y,vi=some y->y.1<=1:=fun y hy=>by
         by_cases hnew:i∈b7;·have:=M.KW i hnew;rw[e5,hy]at this;cases this;exact h7
         ·have:=M.Rp i hnew;rw[e5,hy]at this;exact I.who i _ this.symm
        refine DI (decide (C.vals.getD i none=none)) (decide (q.2=L) ||decide (uz-1=0)) (fun Q' q'=>⟨_,rfl,_,rfl,w,_,_,V.ref ti,rfl,rfl,AJ.of a1,AN (by rw[z7,g8];rfl),ti,_,_,V.int (Cw vi).1,rfl,rfl,.of f2,rfl,rfl,_,rfl,HL q' (Ey.trans (y3.mpr (by
         rw[e5];cases j0:vi with
         |none=>exact⟨fun Y=>rfl,fun Y=>rfl⟩
         |some y=>
          have:=f0 y j0;constructor;·intro z;change((y.1:Nat):Int)=2 at z;lia
          ·intro z;cases z)))⟩) (fun Y Q' q'=>⟨_,rfl,_,rfl,q'⟩) ?_;have h4:D.take (k+1)=D.take k++[i]:=by rw[yi,Z];rfl
        by_cases hcond:C.vals.getD i none=none/\((Cd f).getD i 0=L\/C.EC.getD i 0-1=0)
        ·have b4:GD (Cd f) L mn C i=⟨C.vals.set i (some (L,mn+1)),C.EC.set i (uz-1),C.queue++[i]⟩:=by unfold GD;rw[zc hcond,c4]
         rw[b3,c4]at hcond;refine BJ (by rw[zj hcond.1,wB,yt,zJ,zJ];exact hcond.2) ⟨_,rfl,tx,_,_,V.int (L:Nat),rfl,rfl,.of a3,rfl,_,rfl,tx,_,_,V.int (mn:Nat),rfl,rfl,.of a3,rfl,_,_,rfl,rfl,K2,fun tn j3=>?_⟩;have sN:Ap e8 (Av e8 tn (.tup [.int (L:Nat),.int ((mn:Nat)+1:Int)])):=Af j3;have h9:=a0.same sN;refine⟨_,rfl,_,rfl,w,_,_,i,rfl,rfl,sN _ _ a1,by rw[z3,c9];exact Ex s,?_⟩;have b5:=h9.lM S (v:=some (L,mn+1)) (t:=tn) i (sN _ _ a1) Aa;have i3:Cj (Av (Av e8 tn (.tup [.int (L:Nat),.int ((mn:Nat)+1:Int)])) w (.lst ((d5.map V.ref).set i (.ref tn)))) tx ((L:Nat),(mn:Nat)):=C8 (sN _ _ a1) (by intro xs z;cases z) _ _ (sN _ _ a3);have lq:C.queue.length<sizeLine:=by rw[M.q,zd];have:=Yc M.nd M.lt;have:(400:Nat)<sizeLine:=⋯;lia
         refine⟨_,rfl,.inl ⟨rfl,_,AJ.of b5.q⟩,_,rfl,P,_,_,rfl,rfl,b5.q,by unfold nV;rw[z3];exact lq,?_⟩;have h8:=b5.app S i;have i2:Cj _ tx ((L:Nat),(mn:Nat)):=C8 (o':= .lst (nV C.queue++[.int (i:Nat)])) b5.q (by intro xs z;cases z) _ _ i3;exact⟨_,c8,_,_,rfl,by rw[h4];exact M',by rw[b4];exact h8,i2⟩
        ·have b4:GD (Cd f) L mn C i=⟨C.vals,C.EC.set i (uz-1),C.queue⟩:=by unfold GD;rw[zb hcond,c4]
         rw[b3,c4]at hcond;exact B9 (by rw[vC];intro z;rw[zp,yt,zJ,zJ,zJ]at z;exact hcond z) ⟨_,c8,_,_,rfl,by rw[h4];exact M',by rw[b4];exact a0,a3⟩
       ·rintro σ H1 ⟨C,b7,O,u,rfl,M,a2,c6⟩;have:(nV D).length=D.length:=by unfold nV;rw[z3]
        rw[this,y1,<-d3]at M;have I':=M.inv G.gr I hx hv;exact⟨_,rfl,_,_,rfl,rfl,C,O,_,u,rfl,I',a2⟩
     ·refine B9 (zo (by unfold nV;rw[z3];lia)) ?_;have k8:=I.dl;have:d=b.queue.length:=∅;subst this;have F:=I.fix G.gr;exact⟨_,rfl,k H' w N.sm f9 (by rw[G.values F];exact N.v) (by rw[G.values F];exact F)⟩
def Ew(a:Bool)(b:Nat)(y g:List Nat):Bool:=!decide (75∈y) ||(!decide (104∈y) ||((!a||!decide (b=0))&&!decide (83∈g)))
inductive We:_|mk(sd:Addr)(kvs:List (Key×V))(y g:List Nat)(passed:Bool)(seat len:Nat):vs=[.ref sd,.int len]->H sd=some (.dK kvs)->Bb kvs (Sum.inr "start")=some (.str (Ak y))->Bb kvs (Sum.inr "ground")=some (.str (Ak g))->Bb kvs (Sum.inr "passed")=some (.int (b2 passed))->Bb kvs (Sum.inr "seat")=some (.int seat)->(∀H' l,Ap H H'->H l=none->B8 H' l (if Ew passed seat y g=true then[((len:Int),6)]else[])->Q (.ref l) H')->We vs H Q E
theorem jk:Ah ["said","length","seat_needed","at_fault"] ["said","length"] (Ad ZU):={}
theorem Yv(O:AY):FK 1 "missing_faults" ["said","length"] We:=by
 refine O.Kk.has fun F=>F.ok jk fun H Q E N h=>?_;obtain⟨d,s,y,g,m,a,r,rfl,u,B,I,G,J,k⟩:=h;have n:=Gu N;have p:∀{A:Hp}{x:Str}{v:V},Ap H A->Bb s (Sum.inr x)=some v->CP A d (.str x) (some v):=fun{A x v} L M=>M▸CP.k (k:=Sum.inr x) (L _ _ u);have j:=AR H;exists%[An (i:=2) jk.nd (OU (Bo AZ (A8 n (pv 0) Ai) Ae) (EE (Bo Hs (A8 n (pv 0) Ai) Ae))),An (i:=3) jk.nd (OU (Bo Du Ai (A8 n (pv 0) Ai) #v[]) (OU (Bo Du Ai (A8 n (pv 0) Ai) #v[]) (EE (ME (pv 2) (EE (Bo Du Ai (A8 n (pv 0) Ai) #v[])))))) |Aj (D4 (BU (pv 3)) (AF (#v[B3 (#v[pv 1,Ae])])) (AF Ce))];refine CU (UO (Ls (!m) (!decide (a=0)) (fun c b=>⟨_,rfl,d,V.int (b2 m),rfl,p j G,rfl,Ut b kK⟩) (fun Y c b=>⟨_,rfl,d,V.int a,rfl,p j J,rfl,Ut b (zT Bool.not (Ey.trans (y3.mpr ⟨fun z=>∅,fun z=>∅⟩)))⟩) (Ax ?_)));cbv;refine CU (UO ?_);generalize w:(!m||!decide (a=0))=q;refine Ls (!decide (75∈y)) (!decide (104∈y) ||(q&&!decide (83∈g))) (fun c b=>⟨_,rfl,d,V.str (Ak y),rfl,p j B,75,Ak y,rfl,rfl,Ut b (by rw[Bc])⟩) (fun Y c b=>Ls (!decide (104∈y)) (q&&!decide (83∈g)) (fun c b=>⟨_,rfl,d,V.str (Ak y),rfl,p j B,104,Ak y,rfl,rfl,Ut b (by rw[Bc])⟩) (fun Y c b=>R1 q (!decide (83∈g)) (fun c b=>⟨_,rfl,b⟩) (fun Y c b=>⟨_,rfl,d,V.str (Ak g),rfl,p j I,83,Ak g,rfl,rfl,Ut b (by rw[Bc])⟩) b) b) (Ax ?_);cbv;have e:Ew m a y g=(!decide (75∈y) ||(!decide (104∈y) ||(q&&!decide (83∈g)))):=by unfold Ew;rw[w]
 rw[<-e];exists _,rfl,_,rfl;cases D:Ew m a y g with|true=>rw[D,zc rfl]at k;refine BJ rfl ⟨_,rfl,K2,fun K t=>⟨Ju,fun l f=>?_⟩⟩;have C:=Af (o:= .tup [.int r,.int 6]) t;exact k _ l (C.trans (Af f)) (C.free f) ⟨[K],Aa,.cons (Af f _ _ Aa) .nil⟩ |false=>rw[D,zb ⋯]at k;exact B9 rfl ⟨zx _,fun l f=>k _ l (Af f) f ⟨[],Aa,.nil⟩⟩
end He
namespace L2
open PySem PySem.Spec PyProof.Rows
def KH(K:Frag)(H:Hp):Prop:=∀b o,K.lookup b=some o->H b=none
def gS(K:Frag)(t:TS):TS:=fun D a H=>KH K H->t D a H
theorem Ql{X:Cx}{c:Stmt}{t:TS}(h:PS X c t):PS X c (gS X.K t):=fun a s d H D I f=>h a s d H D I (f fun b o e=>(I.bs b o (I.ok.mod.dF b o e)).2)
end L2
namespace He
open PySem PySem.Spec PyProof.Rows L2
open PySem.W (Frag)
def AL(a:List (Key×V))(b:List (Str×V)):Prop:=(∀j:Str,Bb a (Sum.inr j)=b.lookup j)/\a.length<=b.length
theorem AL.put{a:List (Key×V)}{b:List (Str×V)}(h:AL a b)(k:Str)(v:V):AL (putK a (Sum.inr k) v) ((k,v)::b):=by
 refine⟨fun j=>?_,?_⟩
 ·rw[Rq,yp];by_cases e:j=k;·subst e;simp
  ·rw[zb (fun z=>e (Sum.inr.inj z)),zL.mpr e];exact h.1 j
 ·have:=h.2;unfold putK;split;·rw[z3,zm];lia
  ·rw[zd,zm,zm];simp;lia
theorem DA.trans{d c:Hp}(h:DA a H d)(f:DA a d c):DA a H c:=fun b o e n=>f b o (h b o e n) n
structure Gs(C:Addr)(H0:Hp)(a:Addr)(x:Str)(b:Bytes)(sd:Addr)(ent:List (Str×V))(c:Cur)(H:Hp):Prop where
 rd:Cy C H a x c.at_
 rest:c.rest=b.drop c.at_
 but:DA a H0 H
 dict:∃kvs,H sd=some (.dK kvs)/\AL kvs ent
section
variable{C CA a sd:Addr}{x:Str}{b:Bytes}{H0 H:Hp}{ent:List (Str×V)}{c:Cur}{E:XK}{D:Ends}{σ:L2.St}
theorem Gs.on(S:Gs C H0 a x b sd ent c H)(k:H0 sd=none)(e:sd≠a){c':Cur}(h:Cy C H' a x c'.at_)(d:c'.rest=b.drop c'.at_)(g:DA a H H'):Gs C H0 a x b sd ent c' H':=by obtain⟨f,j,i⟩:=S.dict;exact⟨h,d,S.but.trans g,f,g _ _ j e,i⟩
theorem Gs.put(S:Gs C H0 a x b sd ent c H)(m:H0 sd=none)(g:sd≠a)(w:ent.length<1000){d:Str}{v:V}(k:∀H',Gs C H0 a x b sd ((d,v)::ent) c H'->D.nx σ H'):∃j l,V.ref sd= .ref j/\Rh H j (.str d) v l/\D.nx σ l:=by
 obtain⟨⟨s,q⟩,f,t,h,r,i⟩:=S;have p:h.length<sizeLine:=by have:=i.2;have:(1000:Nat)<sizeLine:=⋯;lia
 refine⟨sd,_,rfl,Rh.k (k:=Sum.inr d) r p,k _ ⟨⟨s,by rw[Ac (zN g)];exact q⟩,f,fun u o e n=>?_,_,Aa,i.put d v⟩⟩;rw[Ac (Ab e m)];exact t u o e n
theorem Eu{y:Str}{g:Bytes}{m:TE}(s:Tx x b)(u:H0 sd=none)(i:sd≠a)(S:Gs C H0 a x b sd ent c H)(v:σ[0]?=some (some (.ref a)))(j:∀Q:VK,Q (.str y) H->m σ H Q)(r:Wd y g)(z:g≠[])(A:g.length<=1000)(k:HM.Res (lit g c) (fun q=>∀H',Gs C H0 a x b sd ent q H'->D.nx σ H') fun e=>FO a CA e H0 E):Rz (DF C "take" (J8 C CA) [] E (Bj 0) (Be m Ca)) D σ H:=by obtain⟨f,p⟩:=c;obtain⟨o,n⟩:=S.rd;have w:f=b.drop p:=S.rest;subst w;refine⟨_,v,a,o,_,rfl,n,C5 _ _,j _ ⟨a,x,y,b,g,p,rfl,⟨o,n⟩,s,r,z,A,?_⟩⟩;cases h:lit g ⟨b.drop p,p⟩with|error e=>rw[h]at k;exact fun H' d B l=>k H' d B (S.but.trans l) |ok q=>rw[h]at k;exact fun H' t f l=>k H' (S.on u i t f l)
theorem aw(m:Tx x b)(q:H0 sd=none)(g:sd≠a)(S:Gs C H0 a x b sd ent c H)(r:σ[0]?=some (some (.ref a)))(k:HM.Res (nameIn c) (fun n=>∀H',Gs C H0 a x b sd ent n.2 H'->D.nx σ H') fun e=>FO a CA e H0 E):Rz (DF C "take_name" (Fl C CA) [] E (Bj 0) (Be (tC (.int 16)) Ca)) D σ H:=by obtain⟨f,p⟩:=c;obtain⟨l,j⟩:=S.rd;have s:f=b.drop p:=S.rest;subst s;exists _,r,a,l,_,rfl,j,C5 _ _,a,x,b,p,rfl,⟨l,j⟩,m;cases h:nameIn ⟨b.drop p,p⟩with|error e=>rw[h]at k;exact fun H' d t i=>k H' d t (S.but.trans i) |ok n=>rw[h]at k;exact fun H' o f i=>k H' (S.on q g o f i)
theorem UM{i:Str}{lo hi:Nat}(r:Tx x b)(m:H0 sd=none)(g:sd≠a)(S:Gs C H0 a x b sd ent c H)(t:σ[0]?=some (some (.ref a)))(j:σ[1]?=some (some (.ref sd)))(y:1<=lo)(w:hi<=60000)(v:ent.length<1000)(k:HM.Res (number lo hi c) (fun n=>∀H',Gs C H0 a x b sd ((i,.int (n.1:Nat))::ent) n.2 H'->D.nx σ H') fun e=>FO a CA e H0 E):RT (Bj 1) (tC (.str i)) (DF C "take_number" (G7 C CA) [] E (Bj 0) (Be (tC (.int (lo:Nat))) (Be (tC (.int (hi:Nat))) Ca))) D σ H:=by obtain⟨f,p⟩:=c;obtain⟨q,o⟩:=S.rd;have u:f=b.drop p:=S.rest;subst u;exists _,t,a,q,_,rfl,o,C5 _ _,a,x,b,p,lo,hi,rfl,⟨q,o⟩,r,y,w;cases h:number lo hi ⟨b.drop p,p⟩with|error e=>rw[h]at k;exact fun H' d z l=>k H' d z (S.but.trans l) |ok n=>rw[h]at k;obtain⟨n,A⟩:=n;exact fun H' s f l=>⟨_,j,(S.on m g s f l).put m g v k⟩
theorem M8{key:Str}{g:TE}(T:dw K C)(h:H0 sd=none)(d:sd≠a)(S:Gs C H0 a x b sd ent c H)(i:σ[0]?=some (some (.ref a)))(f:σ[1]?=some (some (.ref sd)))(e:∀Q:VK,Q (.str key) H->g σ H Q)(j:ent.length<1000)(k:∀H',Gs C H0 a x b sd ((key,.int (c.at_:Nat))::ent) c H'->D.nx σ H'):RT (Bj 1) g (U1 K (Bj 0) "place") D σ H:=by obtain⟨m,l⟩:=S.rd;exact⟨_,i,a,C,m,_,_,rfl,l,T.cl,T.nP,Bq _ _,_,f,e _ (S.put h d j k)⟩
theorem XG{key:Str}{ws:List String}{ys:List Str}{g:Addr}{t:TE}(z:Tx x b)(u:H0 sd=none)(l:sd≠a)(S:Gs C H0 a x b sd ent c H)(G:σ[0]?=some (some (.ref a)))(s:σ[1]?=some (some (.ref sd)))(r:σ[4]?=some (some (.ref g)))(q:∀(H:Hp)(Q:VK),Q (.str key) H->t σ H Q)(N:BR K g (ys.map V.str))(m:a≠g)(J:Paired Wd ys (ws.map Tafl.ascii))(F:∀f∈ws.map Tafl.ascii,f≠[]/\f.length<=1000)(L:ws.length<=1000)(W:Words ws)(M:ent.length<1000)(k:HM.Res (word ws c) (fun n=>∀H',Gs C H0 a x b sd ((key,.int (n.1:Nat))::ent) n.2 H'->D.nx σ H') fun e=>FO a CA e H0 E):RT (Bj 1) t (DF C "choose" (EI K C CA) [] E (Bj 0) (Be (Bj 4) Ca)) D σ H:=by obtain⟨j,p⟩:=c;obtain⟨w,v⟩:=S.rd;have I:j=b.drop p:=S.rest;subst I;refine⟨_,G,a,w,_,rfl,v,C5 _ _,_,r,a,g,x,ys,b,ws.map Tafl.ascii,p,rfl,⟨w,v⟩,z,N.sq _,m,J,F,(by rw[Ne,ya];exact W.ne),by rw[z3];exact L,?_⟩;rw[HM.VU W]at k;show(match(ws.map Tafl.ascii).findIdx? (fun f=>decide (shl f (b.drop p)=f.length))with|some i=>_|none=>_);dsimp only at k;cases h:(ws.map Tafl.ascii).findIdx? (fun f=>decide (shl f (b.drop p)=f.length))with|none=>rw[h]at k;exact fun H' d O A=>k H' d O fun y o e n=>A y o (S.but y o e n) |some i=>rw[h]at k;exact fun H' B P=>⟨_,s,q _ _ ((S.on u l (c':=⟨(b.drop p).drop ((ws.map Tafl.ascii).getD i []).length,p+((ws.map Tafl.ascii).getD i []).length⟩) B (by show(b.drop p).drop _=_;rw[xr]) P).put u l M k)⟩
end
theorem X6:Bp [46,83,88,35]=fun u=>(kindSign u).map fun k=>UInt8.ofNat (Cb k):=by funext u;have a:∀n:Nat,n<256->Bp [46,83,88,35] (UInt8.ofNat n)=(kindSign (UInt8.ofNat n)).map fun k=>UInt8.ofNat (Cb k):=∎;have:=a u.toNat u.toNat_lt;rwa[rG]at this
def Hl:Piece->Nat| .none=>46| .hunter=>104| .man=>109| .king=>75
theorem U4:Bp [46,104,109,75]=fun u=>(Tafl.pieceSign u).map fun k=>UInt8.ofNat (Hl k):=by funext u;have a:∀n:Nat,n<256->Bp [46,104,109,75] (UInt8.ofNat n)=(Tafl.pieceSign (UInt8.ofNat n)).map fun k=>UInt8.ofNat (Hl k):=∎;have:=a u.toNat u.toNat_lt;rwa[rG]at this
section
variable{C CA a sd:Addr}{x:Str}{b:Bytes}{H0 H:Hp}{ent:List (Str×V)}{c:Cur}{E:XK}{D:Ends}{σ:L2.St}
theorem W4{B:Type}{f:UInt8->Option B}{j:B->Nat}{q:List Nat}{o:Str}{g:Addr}{w h:Nat}(N:Tx x b)(F:H0 sd=none)(m:sd≠a)(S:Gs C H0 a x b sd ent c H)(U:σ[0]?=some (some (.ref a)))(l:σ[1]?=some (some (.ref sd)))(L:ent.lookup ("wide":Str)=some (.int (w:Nat)))(M:ent.lookup ("high":Str)=some (.int (h:Nat)))(hg:BR K g (q.map fun c=>V.str ⟨#[c]⟩))(s:a≠g)(Z:∀c∈q,c∈known)(G:1<=w)(t:w<=13)(hh:h<=13)(z:Bp q=fun u=>(f u).map fun k=>UInt8.ofNat (j k))(e2:∀k,j k<256)(X:ent.length<1000)(k:HM.Res (rowsIn f w h c) (fun n=>∀H',Gs C H0 a x b sd ((o,.str (Ak (n.1.flatten.map j)))::ent) n.2.2 H'->D.nx σ H') fun e=>FO a CA e H0 E):RT (Bj 1) (tC (.str o)) (Kt (Fm K C CA) [] E (Be (Bj 0) (Be (tC (.ref g)) (Be (Zu (Bj 1) (tC (.str "wide"))) (Be (Zu (Bj 1) (tC (.str "high"))) Ca))))) D σ H:=by
 obtain⟨i,p⟩:=c;obtain⟨dx,ha⟩:=S.rd;have W:i=b.drop p:=S.rest;subst W;obtain⟨Q,hd,al⟩:=S.dict;have J:∀{x:Str}{v:V},ent.lookup x=some v->CP H sd (.str x) (some v):=fun{x v} T=>by have:=CP.k (k:=Sum.inr x) hd;rw[al.1,T]at this;exact this
 exists _,U,_,l,sd,_,rfl,J L,_,l,sd,_,rfl,J M,a,g,x,b,p,w,h,q,rfl,⟨dx,ha⟩,N,hg.sq _,s,Z,G,t,hh;have ef:flat (Bp q) w (w*h) 0 ⟨b.drop p,p⟩=(rowsIn f w h ⟨b.drop p,p⟩).map fun r=>(r.1.flatten.map fun k=>UInt8.ofNat (j k),r.2.2):=by rw[z,HM.P1];have:=HM.Pz f w G h 0 ⟨b.drop p,p⟩;rw[ud]at this;rw[this];cases rowsIn f w h ⟨b.drop p,p⟩<;>rfl
 rw[ef];cases I:rowsIn f w h ⟨b.drop p,p⟩with|error e=>rw[I]at k;exact fun H' d z A=>k H' d z (S.but.trans A) |ok n=>rw[I]at k;obtain⟨O,ps,c'⟩:=n;refine fun H' y P i A R=>⟨_,l,(S.on F m P i A).put F m X ?_⟩;have:y=Ak (O.flatten.map j):=Dx (by rw[R,zG];apply y6;intro k Y;show(UInt8.ofNat (j k)).toNat=j k;rw[rp];exact xn (e2 k));rw[this];exact k
end
theorem Nr{d:Type}(w:Nat):∀(l:List (List d)),(∀a∈l,a.length=w)->∀(i x:Nat),x<w->l.flatten[i*w+x]?=(l[i]?).bind fun a=>a[x]?|[],_,i,x,_=>by simp|a::l,h,0,x,c=>by have b:=h a zh;rw[y_,Nat.zero_mul,xQ,yr ∅];rfl|a::l,h,i+1,x,c=>by have b:=h a zh;rw[y_,yC (by rw[b,wg];lia)];rw[show(i+1)*w+x-a.length=i*w+x by rw[b,wg];lia];exact Nr w l (fun r b=>h r (zg _ b)) i x c
theorem NK{r:Rules}(Z:B1 r)(g:r.ground.length=r.high)(e:∀b∈r.ground,b.length=r.wide):A1 (r.ground.flatten.map Cb) r.wide r.high 35 (r.wide*r.high)=CC r:=by
 unfold A1 CC;refine y6 fun c j=>?_;unfold Rules.kindAt;by_cases hcell:c%13<r.wide/\c/13<r.high
 ·have k:=Z.h5;have d:(r.high-1-c/13)*r.wide+c%13<r.wide*r.high:=by have i:(r.high-1-c/13)+1<=r.high:=∅;have h:=uv r.wide i;rw[wg,yh r.high]at h;lia
  rw[zc ⟨hcell.1,hcell.2,d⟩,zc (BI.mpr hcell),z5,z7,Nr r.wide r.ground e _ _ hcell.1];unfold Rules.kind at_;rw[show STRIDE=13 from rfl,z5,z5];have a:r.high-1-c/13<r.ground.length:=by rw[g];lia
  rw[z4 a];have f:c%13<(r.ground[r.high-1-c/13]).length:=by rw[e _ (wo a)];exact hcell.1
  show((some (r.ground[r.high-1-c/13])).bind _|>.map Cb).getD 35=_;simp only[wU,vY];rw[z4 f];rfl
 ·rw[zb (fun q=>hcell ⟨q.1,q.2.1⟩),zb (fun q=>hcell (BI.mp q))];rfl
structure dq(kvs:List (Key×V))(r:Rules):Prop where
 wide:Bb kvs (Sum.inr "wide")=some (.int r.wide)
 high:Bb kvs (Sum.inr "high")=some (.int r.high)
 ground:Bb kvs (Sum.inr "ground")=some (.str (Ak (r.ground.flatten.map Cb)))
 slides:Bb kvs (Sum.inr "slides")=some (.int (b2 r.slides))
 armed:Bb kvs (Sum.inr "armed")=some (.int (b2 r.armed))
 four:Bb kvs (Sum.inr "four")=some (.int (b2 r.four))
 passed:Bb kvs (Sum.inr "passed")=some (.int (b2 r.passed))
 seat:Bb kvs (Sum.inr "seat")=some (.int r.seat)
 exits:Bb kvs (Sum.inr "exits")=some (.int r.exits)
 goal:Bb kvs (Sum.inr "goal")=some (.int r.goal)
theorem Jh{b:Type}(w:Nat):∀(l:List (List b)),(∀a∈l,a.length=w)->l.flatten.length=w*l.length|[],_=>by simp|a::l,h=>by rw[y_,zd,h a zh,Jh w l fun r c=>h r (zg _ c),zm,xR];lia
inductive Mj(C:Addr):_|mk(H0:Hp)(e sd:Addr)(r:Rules)(kvs:List (Key×V)):vs=[.ref e,.ref sd]->(∃dx,H e=some (.ins C dx []))->Ap H0 H->H0 e=none->H0 sd=some (.dK kvs)->dq kvs r->B1 r->Oh r->r.ground.length=r.high->(∀row∈r.ground,row.length=r.wide)->(∀H',Bg C H' e r->Ap H0 H'->Q .B0 H')->Mj C vs H Q E
structure FS(C e:Addr)(dx:Addr)(H0 L:Hp)(fs:List (Str×V))(k:Nat)(H:Hp):Prop where
 sm:Ap H0 H
 at_:H e=some (.ins C dx fs)
 len:fs.length<=k
 ls:∀b l,L b=some (.lst l)->H b=some (.lst l)
section
variable{C e:Addr}{dx:Addr}{H0 L H:Hp}{fs:List (Str×V)}{k:Nat}(s:FS C e dx H0 L fs k H)
include s
theorem FS.put(a:H0 e=none)(n:Str)(v:V):FS C e dx H0 L (By n v fs) (k+1) (Av H e (.ins C dx (By n v fs))):=⟨Bv s.sm a,Aa,z_ (Gm ..) (Nat.succ_le_succ s.len),fun b l z=>by have z:=s.ls b l z;rw[Ac fun q=>by rw[q,s.at_]at z;cases z];exact z⟩
theorem FS.same(h:Ap H H'):FS C e dx H0 L fs k H':=⟨s.sm.trans h,h _ _ s.at_,s.len,fun Y Y z=>h _ _ (s.ls _ _ z)⟩
theorem FS.anew:FS C e dx H0 H fs k H:=⟨s.sm,s.at_,s.len,fun Y Y z=>z⟩
theorem FS.lt(h:k<1000):fs.length<1000:=y2 s.len h
end
abbrev qK:List Str:=["self","said","cell"]
theorem jm:Ah qK ["self","said"] (Ad JE):={}
theorem QE(a:AY):nS 3 aH ["self","said"] (Mj aH):=by
 refine a.jV.has fun F=>F.ok jm fun H Q E M h=>?_;obtain⟨H0,e,f,r,J,rfl,⟨l,he⟩,D,d,L,S,Z,N,B,A,k⟩:=h;have g:=Gu M;exists%[B2 (pv 0) (A8 g (pv 1) Ai),B2 (pv 0) (A8 g (pv 1) Ai),B2 (pv 0) (Ay (Vr a) M rfl Ar (#v[A8 g (pv 1) Ai,A8 g (pv 1) Ai,A8 g (pv 1) Ai,Ai])),B2 (pv 0) (Ga (own:=[("cell",2)]) rfl jm.nd (ES (by rfl) a.GK (#v[AD (v:= .int 169) rfl (C3 a.QW) ⟨_,rfl⟩])) (Dn (N0:=qK) (sc0:=Ad JE) rfl rfl ∎) (fun Y Y Y Y Y=>Aw (i:=2) jm.nd) (fun Y Y Y Y Y=>Ci) (fun Y Y Y Y Y=>Ay (Yu a) (M.mono ⋯) rfl Ar (#v[pv 2,A8 g (pv 1) Ai,A8 g (pv 1) Ai]))),B2 (pv 0) (A8 g (pv 1) Ai),B2 (pv 0) (A8 g (pv 1) Ai),B2 (pv 0) (A8 g (pv 1) Ai),B2 (pv 0) (A8 g (pv 1) Ai),B2 (pv 0) (A8 g (pv 1) Ai),B2 (pv 0) (A8 g (pv 1) Ai) |B2 (pv 0) (A8 g (pv 1) Ai)];have j:∀{T:Hp}{x:Str}{v:V},Ap H0 T->Bb J (Sum.inr x)=some v->CP T f (.str x) (some v):=fun{T x v} C hx=>hx▸CP.k (k:=Sum.inr x) (C _ _ L);have s:FS aH e l H0 H [] 0 H:=⟨D,he,ze _,fun Y Y z=>z⟩;exists _,rfl,f,_,rfl,j s.sm S.wide,_,rfl,e,aH,l,_,rfl,s.at_,a.hc.cl,a.hc.Pb,s.lt ⋯;have s:=s.put d "wide" (.int r.wide);generalize Av _ _ _=H at s|-;exists _,rfl,f,_,rfl,j s.sm S.high,_,rfl,e,aH,l,_,rfl,s.at_,a.hc.cl,a.hc.Pc,s.lt ⋯;have s:=s.put d "high" (.int r.high);generalize Av _ _ _=H at s|-;have p:=s.sm;have K:(Ak (r.ground.flatten.map Cb)).cps.size=r.wide*r.high:=by
  have:(Ak (r.ground.flatten.map Cb)).cps.size=(r.ground.flatten.map Cb).length:=by simp[Ak]
  rw[this,z3,Jh r.wide r.ground A,B]
 have w5:=Z.w5;have h5:=Z.h5;refine⟨_,rfl,f,_,rfl,j p S.ground,_,rfl,f,_,rfl,j p S.wide,_,rfl,f,_,rfl,j p S.high,Ak (r.ground.flatten.map Cb),r.wide,r.high,35,rfl,K,∅,Z.KU,∅,Z.Vv,fun a2 zs t hz=>?_⟩;have ez:zs=Ak (CC r):=Dx (by rw[hz,Bc];exact NK Z B A);subst ez;have a0:=p.trans t;have s:=s.same t;exists _,rfl,e,aH,l,_,rfl,s.at_,a.hc.cl,a.hc.Fw,s.lt ⋯;have s:=s.put d "ground" (.str (Ak (CC r)));generalize Av _ _ _=U at s|-;have s3:=s.sm;refine⟨169,rfl,⋯,⋯,fun u w=>bP (n:=169) (fun i H'=>∃m:List Addr,A4 (Ap U H') (H' u=some (.lst (m.map V.ref))) (m.length=i) (∀c b,m[c]?=some b->H' b=some (.lst (nR r c))/\b≠u)) ⟨[],Af w,Aa,rfl,fun c b z=>by cases z⟩ ?_ ?_⟩
 ·rintro i H' hi ⟨m,W,hj,lj,aj⟩;refine⟨rfl,?_⟩;unfold HG;cbv;rw[zc rfl];have C:=s3.trans W;refine⟨_,rfl,_,rfl,f,_,rfl,j C S.wide,_,rfl,f,_,rfl,j C S.high,i,r.wide,r.high,?_,fun H2 l2 p y h2=>?_⟩;·rw[show(0:Int)+(i:Int)=(i:Int) by lia];rfl
  ·have X:l2≠u:=fun z=>by rw[z,hj]at y;cases y
   refine⟨_,p _ _ hj,by rw[z3,lj];exact zF hi BO,m++[l2],fun b o z=>?_,?_,?_,fun c b q=>?_⟩;·rw[Ac (Ab z w)];exact p _ _ (W _ _ z)
   ·rw[Aa,zu];rfl
   ·rw[zd,lj];rfl
   ·by_cases hcl:c<m.length;·rw[yr hcl]at q;obtain⟨h1,h3⟩:=aj c b q;exact⟨by rw[Ac h3];exact p _ _ h1,h3⟩
    ·rw[yC ∅]at q;have O:c-m.length=0:=by have:=(z8.mp q).1;simp at this;lia
     rw[O]at q;cases q;have:c=i:=∅;subst this;exact⟨by rw[Ac X];exact h2,X⟩
 ·rintro a1 ⟨m,G,P,I,R⟩;have s:=(s.same G).anew;exists _,rfl,e,aH,l,_,rfl,s.at_,a.hc.cl,a.hc.GL,s.lt ⋯;have s:=s.put d "beside" (.ref u);generalize Av _ _ _=H at s|-;exists _,rfl,f,_,rfl,j s.sm S.slides,_,rfl,e,aH,l,_,rfl,s.at_,a.hc.cl,a.hc.WI,s.lt ⋯;have s:=s.put d "slides" (.int (b2 r.slides));generalize Av _ _ _=H at s|-;exists _,rfl,f,_,rfl,j s.sm S.armed,_,rfl,e,aH,l,_,rfl,s.at_,a.hc.cl,a.hc.Vb,s.lt ⋯;have s:=s.put d "armed" (.int (b2 r.armed));generalize Av _ _ _=H at s|-;exists _,rfl,f,_,rfl,j s.sm S.four,_,rfl,e,aH,l,_,rfl,s.at_,a.hc.cl,a.hc.hY,s.lt ⋯;have s:=s.put d "four" (.int (b2 r.four));generalize Av _ _ _=H at s|-;exists _,rfl,f,_,rfl,j s.sm S.passed,_,rfl,e,aH,l,_,rfl,s.at_,a.hc.cl,a.hc.WJ,s.lt ⋯;have s:=s.put d "passed" (.int (b2 r.passed));generalize Av _ _ _=H at s|-;exists _,rfl,f,_,rfl,j s.sm S.seat,_,rfl,e,aH,l,_,rfl,s.at_,a.hc.cl,a.hc.hW,s.lt ⋯;have s:=s.put d "seat" (.int r.seat);generalize Av _ _ _=H at s|-;exists _,rfl,f,_,rfl,j s.sm S.exits,_,rfl,e,aH,l,_,rfl,s.at_,a.hc.cl,a.hc.bD,s.lt ⋯;have s:=s.put d "exits" (.int r.exits);generalize Av _ _ _=H at s|-;exists _,rfl,f,_,rfl,j s.sm S.goal,_,rfl,e,aH,l,_,rfl,s.at_,a.hc.cl,a.hc.hX,s.lt ⋯;have s:=s.put d "goal" (.int r.goal);generalize Av _ _ _=H at s|-;exact k _ ⟨⟨l,u,m,s.at_.trans #v[],s.ls _ _ P,by rw[I],fun c b z=>s.ls _ _ (R c b z).1⟩,Z,N⟩ s.sm
structure pS(y:Str×Str×List Str)(z:Bytes×List String):Prop where
 wd:Wd y.2.1 z.1
 ne:z.1≠[]
 len:z.1.length<=1000
 ps:Paired Wd y.2.2 (z.2.map Tafl.ascii)
 hw:∀wb∈z.2.map Tafl.ascii,wb≠[]/\wb.length<=1000
 hn:z.2.length<=1000
 W:Words z.2
 short:y.1.length<=100
theorem Ig{y:Str}{a:Bytes}(c:y.cps.toList=a.map UInt8.toNat)(b:∀u∈a,u.toNat∈known):Wd y a:=⟨c,b⟩
theorem kF:Paired pS dN CH:=by have W:=Rn;unfold dN;unfold CH at W|-;repeat' first|exact .nil|refine .cons ⟨Ig ∎ ∎,∎,∎,?_,∎,⋯,W _ (by repeat first|exact .head _|apply List.Mem.tail),⋯⟩ ?_|refine .cons (Ig ∎ ∎) ?_
def YA:List Str->List (Nat×Nat)->List (Str×V)->List (Str×V) |n::ns,p::a,e=>YA ns a ((n,.int (p.2:Nat))::(n++(" place":Str),.int (p.1:Nat))::e) |_,_,e=>e
theorem P6(n:Str)(p:Nat×Nat):∀(ns:List Str)(q:List (Nat×Nat))(e:List (Str×V)),ns.length=q.length->YA (ns++[n]) (q++[p]) e=(n,.int (p.2:Nat))::(n++(" place":Str),.int (p.1:Nat))::YA ns q e|[],[],e,_=>rfl|m::ns,r::q,e,h=>P6 n p ns q _ ‹h›|[],r::q,e,h=>nomatch h|m::ns,[],e,h=>nomatch h
theorem T3:∀(ns:List Str)(q:List (Nat×Nat))(e:List (Str×V)),(YA ns q e).length<=e.length+2*q.length|[],q,e=>by show e.length<=_;lia|n::ns,[],e=>ze _|n::ns,p::q,e=>by have:=T3 ns q ((n,.int (p.2:Nat))::(n++(" place":Str),.int (p.1:Nat))::e);simp only[zm]at this|-;exact z_ this ∅
structure pM(kvs:List (Key×V))(r:Rules)(gp sp:Nat):Prop where
 ok:dq kvs r
 ke:Bb kvs (Sum.inr "ground place")=some (.int (gp:Nat))
 jc:Bb kvs (Sum.inr "start place")=some (.int (sp:Nat))
 start:Bb kvs (Sum.inr "start")=some (.str (Ak (r.start.flatten.map Hl)))
 mR:Bb kvs (Sum.inr "goal place")=some (.int (r.goalAt:Nat))
structure CK(r:Rules)(gp sp:Nat):Prop where
 Z:B1 r
 N:Oh r
 gl:r.ground.length=r.high
 gw:∀row∈r.ground,row.length=r.wide
 sl:r.start.length=r.high
 sw:∀row∈r.start,row.length=r.wide
 ga:r.groundAt=(List.range r.high).map fun i=>gp+i*(r.wide+1)
 sa:r.startAt=(List.range r.high).map fun i=>sp+i*(r.wide+1)
 goal:r.goal<=1
inductive nr{α:Type}(q:List α):Prop|mk(a b c d e f g h i:α):q=[a,b,c,d,e,f,g,h,i]->nr q
theorem nine{a:Type}:∀{q:List a},q.length=9->nr q|[_,_,_,_,_,_,_,_,_],_=>⟨_,_,_,_,_,_,_,_,_,rfl⟩
inductive O6(C CA:Addr):_|mk(a:Addr)(x:Str)(b:Bytes):vs=[.ref a]->Cy C H a x 0->Tx x b->(HM.Res (grammar b) (fun r=>∀H' sd kvs gp sp,DA a H H'->H sd=none->sd≠a->H' sd=some (.dK kvs)->pM kvs r gp sp->CK r gp sp->Q (.ref sd) H') fun e=>FO a CA e H E)->O6 C CA vs H Q E
theorem Res.gQ{c b:Type}{r:Except Nat c}{f:c->b}{G:b->Prop}{B:Nat->Prop}(h:HM.Res (r.map f) G B):HM.Res r (fun a=>G (f a)) B:=by cases r<;>exact h
theorem Xl(h:n<2):((n:Nat):Int)=b2 (n==1):=by match n,h with|0,_=>rfl|1,_=>rfl
abbrev u5:List Str:=["reader","said","called","before","words"]
theorem ZH:Ah u5 ["reader"] (Ad RO):={}
theorem Te(j:AY):mN 6 "read_grammar" ["reader"] (O6 aR aA):=by
 obtain⟨aC,ts,us,a6,kC,tl,ul,a7⟩:=j.gA;obtain⟨g1,g2,m1,m2,k1,k2⟩:=j.signs;refine j.Nz.has fun F=>F.Jw ZH fun H Q E hr h s=>?_;obtain⟨a,x,b,rfl,⟨dx,ha⟩,m,k⟩:=h;have B:=Gu hr;have p:AW 4 _:=hr.mono ⋯;have C:AW 3 _:=hr.mono ⋯;exists%[Ql (An (i:=1) ZH.nd Sk),A2 (AH (Cn j) (pv 0) j.rt.cl p s.passes (#v[Ai])),A2 (AH (Q9 j) (pv 0) j.rt.cl C s.passes (#v[Ae])),A2 (AH (Cn j) (pv 0) j.rt.cl p s.passes (#v[Ai])),CW B (pv 1) Ai (AH (Ez j) (pv 0) j.rt.cl C s.passes (#v[Ae,Ae])) rfl,A2 (AH (Cn j) (pv 0) j.rt.cl p s.passes (#v[Ai])),CW B (pv 1) Ai (AH (Ez j) (pv 0) j.rt.cl C s.passes (#v[Ae,Ae])) rfl,A2 (AH (Cn j) (pv 0) j.rt.cl p s.passes (#v[Ai])),CW B (pv 1) Ai (Al (pv 0)) rfl,CW B (pv 1) Ai (Ay (Jb j) hr rfl s.passes (#v[pv 0,AD (v:= .ref g1) rfl m1 rfl,A8 B (pv 1) Ai,A8 B (pv 1) Ai])) rfl,A2 (AH (Cn j) (pv 0) j.rt.cl p s.passes (#v[Ai])),CW B (pv 1) Ai (Al (pv 0)) rfl,CW B (pv 1) Ai (Ay (Jb j) hr rfl s.passes (#v[pv 0,AD (v:= .ref g2) rfl m2 rfl,A8 B (pv 1) Ai,A8 B (pv 1) Ai])) rfl,BC Bt rfl (Qn (AD (v:= .ref aC) rfl a6 rfl)) (Dj rfl (AS (Aw (i:=2) ZH.nd) (AS (Aw (i:=3) ZH.nd) (AS (Aw (i:=4) ZH.nd) Cq)))) (%[A2 (AH (Cn j) (pv 0) j.rt.cl p s.passes (#v[pv 3])),CW B (pv 1) (AA Ee (pv 2) Ai) (Al (pv 0)) rfl|CW B (pv 1) (pv 2) (AH (Nj j) (pv 0) j.rt.cl C s.passes (#v[pv 4])) rfl]),A2 (AH (Cn j) (pv 0) j.rt.cl p s.passes (#v[Ai])),CW B (pv 1) Ai (AH (Ez j) (pv 0) j.rt.cl C s.passes (#v[Ae,Ae])) rfl,A2 (AH (Cn j) (pv 0) j.rt.cl p s.passes (#v[Ai])),A2 (AU (KG j) (pv 0) j.rt.cl C s.passes) |Aj (pv 1)];intro kh;have ka:∀{g:Addr}{xs:List V},BR K g xs->a≠g:=fun{g xs} z e=>by obtain⟨o,Y,Y,hl,Y⟩:=z;have:=kh g o hl;rw[<-e,ha]at this;cases this
 rw[HM.gc]at k;unfold HM.kb at k;intro sd l;have f:sd≠a:=(Ab ha l).symm;have S0:Gs aR H a x b sd [] ⟨b,0⟩ (Av H sd (.dK [])):=⟨⟨dx,by rw[Ac (zN f)];exact ha⟩,rfl,fun b' o e Y=>by rw[Ac (Ab e l)];exact e,[],Aa,fun Y=>rfl,ze _⟩;refine Ax ?_;cbv;refine Eu m l f S0 rfl (fun Y q=>q) (Ig ∎ ∎) ∎ ∎ (k.bind.imp (fun c Y k H1 S1=>?_) fun Y z=>z);refine aw m l f S1 rfl (k.bind.imp (fun nm Y k H2 S2=>?_) fun Y z=>z);refine Eu m l f S2 rfl (fun Y q=>q) (Ig ∎ ∎) ∎ ∎ (k.bind.imp (fun c Y k H3 S3=>?_) fun Y z=>z);refine UM (lo:=5) (hi:=13) m l f S3 rfl rfl ⋯ ⋯ ⋯ (k.bind.imp (fun Z a8 k H4 S4=>?_) fun Y z=>z);obtain⟨Z,c4⟩:=Z;obtain⟨w5,P⟩:=JL ⋯ a8;refine Eu m l f S4 rfl (fun Y q=>q) (Ig ∎ ∎) ∎ ∎ (k.bind.imp (fun c Y k H5 S5=>?_) fun Y z=>z);refine UM (lo:=5) (hi:=13) m l f S5 rfl rfl ⋯ ⋯ (by show 1<1000;decide) (k.bind.imp (fun hg b5 k H6 S6=>?_) fun Y z=>z);obtain⟨hg,c6⟩:=hg;obtain⟨h5,T⟩:=JL ⋯ b5;refine Eu m l f S6 rfl (fun Y q=>q) (Ig ∎ ∎) ∎ ∎ (k.bind.imp (fun c7 Y k H7 S7=>?_) fun Y z=>z);refine M8 j.rt l f S7 rfl rfl (fun Y q=>q) (by show 2<1000;decide) fun H8 S8=>?_;refine W4 (w:=Z) (h:=hg) m l f S8 rfl rfl #v[] #v[] k1 (ka k1) ∎ ∅ P T X6 (fun k=>by cases k<;>decide) (by show 3<1000;decide) (k.bind.imp (fun gr b6 k H9 S9=>?_) fun Y z=>z);obtain⟨gr,gp,c9⟩:=gr;refine Eu m l f S9 rfl (fun Y q=>q) (Ig ∎ ∎) ∎ ∎ (k.bind.imp (fun U Y k d5 c2=>?_) fun Y z=>z);refine M8 j.rt l f c2 rfl rfl (fun Y q=>q) (by show 4<1000;decide) fun d4 c0=>?_;refine W4 (w:=Z) (h:=hg) m l f c0 rfl rfl #v[] #v[] k2 (ka k2) ∎ ∅ P T U4 (fun k=>by cases k<;>decide) (by show 5<1000;decide) (k.bind.imp (fun st b0 k d3 b9=>?_) fun Y z=>z);obtain⟨st,sp,I⟩:=st;replace k:=k.bind;refine⟨aC,rfl,⟨_,kC.sq _⟩,WY (xs:=ts.map V.ref) (fun i σ H'=>E5 fun v2 v3 v4 q c=>A4 (σ=[some (.ref a),some (.ref sd),v2,v3,v4]) (q.length=i) (Gs aR H a x b sd (YA ((dN.map (·.1)).take i) q _) c H') (Um CH I=(Um (CH.drop i) c).map fun z=>(q++z.1,z.2))) ⟨none,none,none,[],I,rfl,rfl,b9,?_⟩ (fun i σ H' Y Y=>kC.sq _) ?_ ?_⟩;·rw[xK];cases Um CH I<;>rfl
 ·rintro i v σ H' hi ⟨v2,v3,v4,q,c,rfl,ql,S,e⟩;obtain⟨t,ht,rfl⟩:∃t,ts[i]?=some t/\v= .ref t:=by rw[z7,zy]at hi;obtain⟨t,e,rfl⟩:=hi;exact⟨t,e,rfl⟩
  have G:i<9:=by rw[<-tl];exact(z8.mp ht).1
  have a4:CH.length=9:=rfl;obtain⟨y,hy⟩:∃y,dN[i]?=some y:=⟨_,z4 (show i<dN.length from G)⟩;obtain⟨z,hz,L⟩:=AB kF hy;obtain⟨u,a9⟩:∃u,us[i]?=some u:=⟨_,z4 (by rw[ul];exact G)⟩;obtain⟨kt,ku⟩:=a7 i t u y ht a9 hy;have ed:CH.drop i=z::CH.drop (i+1):=by rw[yf (by rw[a4];exact G)];congr 1;rw[z4 (by rw[a4];exact G)]at hz;exact zt hz
  rw[ed]at e;have el:=T3 ((dN.map (·.1)).take i) q [("start",.str (Ak (st.flatten.map Hl))),("start place",.int (U.at_:Nat)),("ground",.str (Ak (gr.flatten.map Cb))),("ground place",.int (c7.at_:Nat)),("high",.int (hg:Nat)),("wide",.int (Z:Nat))];replace el:(YA ((dN.map (·.1)).take i) q [("start",.str (Ak (st.flatten.map Hl))),("start place",.int (U.at_:Nat)),("ground",.str (Ak (gr.flatten.map Cb))),("ground place",.int (c7.at_:Nat)),("high",.int (hg:Nat)),("wide",.int (Z:Nat))]).length<100:=by refine y2 el ?_;show 6+2*q.length<100;lia
  have M:=k;rw[e]at M;replace M:=Res.gQ M;rw[Um]at M;refine⟨t,_,rfl,kt.sq _,rfl,_,_,rfl,_,_,rfl,_,_,rfl,rfl,Eu m l f S rfl (fun Y q=>⟨_,rfl,q⟩) L.wd L.ne L.len (M.bind.imp (fun c1 b7 M d2 b8=>?_) fun Y z=>z)⟩;refine M8 (key:=y.1++(" place":Str)) j.rt l f b8 rfl rfl (fun Y q=>⟨_,rfl,_,_,rfl,rfl,?_,q⟩) (ue el ⋯) fun c8 X=>?_;·have:=L.short;have h2:(200:Nat)<=sizeLine:=⋯;have h3:(" place":Str).length=6:=∎;rw[h3];lia
  refine XG (key:=y.1) (ws:=z.2) (ys:=y.2.2) (g:=u) m l f X rfl rfl rfl (fun Y Y q=>⟨_,rfl,q⟩) ku (ka ku) L.ps L.hw L.hn L.W (by simp only[zm];lia) (M.bind.imp (fun n hn M c5 W=>?_) fun Y z=>z);exists _,_,_,q++[(c1.at_,n.1)],n.2,rfl,by rw[zd,ql];rfl,?_
  ·have et:(dN.map (·.1)).take (i+1)=(dN.map (·.1)).take i++[y.1]:=by rw[yi,z7,hy];rfl
   rw[et,P6 _ _ _ _ _ (by rw[zO,ql];exact xf (wj G))];exact W
  ·rw[e,Um,b7];show Except.map _ ((word z.2 c1).bind _)=_;rw[hn];show Except.map _ ((Um (CH.drop (i+1)) n.2).bind _)=_;cases Um (CH.drop (i+1)) n.2 with|error e=>rfl|ok r=>show Except.ok (q++(c1.at_,n.1)::r.1,r.2)=Except.ok (q++[(c1.at_,n.1)]++r.1,r.2);rw[zX];rfl
 ·rintro σ H' ⟨v2,v3,v4,q,c,rfl,ql,S,e⟩;rw[z3,tl]at ql S e;replace e:Um CH I= .ok (q++[],c):=e;rw[zR]at e;rw[e]at k;replace k:=HM.Res.bind (r:=lit (Tafl.ascii "\nlimit ") c) k;have R:=HM.cY CH Rn I c q e;obtain⟨p0,p1,p2,p3,p4,p5,p6,p7,p8,rfl⟩:=nine ql;refine Eu m l f S rfl (fun Y q=>q) (Ig ∎ ∎) ∎ ∎ (k.imp (fun d1 Y k c8 X=>?_) fun Y z=>z);refine UM (lo:=1) (hi:=60000) m l f X rfl rfl ⋯ ⋯ (by show 24<1000;decide) (k.bind.imp (fun lm d0 k c5 W=>?_) fun Y z=>z);refine Eu m l f W rfl (fun Y q=>q) (Ig ∎ ∎) ∎ ∎ (k.bind.imp (fun a5 Y k c3 J=>?_) fun Y z=>z);obtain⟨O,N⟩:=J.rd;have a0:=J.rest;exists _,rfl,a,O,_,rfl,N,C5 _ _,a,x,a5.at_,rfl,⟨O,N⟩,m.line;rw[m.len];by_cases hend:a5.at_<b.length;·rw[zc hend];rw[zb (by rw[a0];intro z;have:=zT List.length z;rw[yI]at this;simp at this;lia)]at k;exact fun H' d e1 sm=>k H' d e1 fun b' o e n=>sm b' o (J.but b' o e n)
  ·rw[zb hend];rw[zc (by rw[a0];exact yN ∅)]at k;obtain⟨D,b4,al⟩:=J.dict;have A:=al.1;refine⟨_,rfl,k c3 sd D c7.at_ U.at_ J.but l f b4 ?_ ?_⟩;·have l1:p1.2<2:=R 1 ⋯;have l2:p2.2<2:=R 2 ⋯;have l3:p3.2<2:=R 3 ⋯;have l4:p4.2<2:=R 4 ⋯;have v1:Bb D (Sum.inr "slides")=some (.int (p1.2:Nat)):=(A _).trans #v[];have v2:Bb D (Sum.inr "armed")=some (.int (p2.2:Nat)):=(A _).trans #v[];have v3:Bb D (Sum.inr "four")=some (.int (p3.2:Nat)):=(A _).trans #v[];have v4:Bb D (Sum.inr "passed")=some (.int (p4.2:Nat)):=(A _).trans #v[];rw[Xl l1]at v1;rw[Xl l2]at v2;rw[Xl l3]at v3;rw[Xl l4]at v4;exact⟨⟨(A _).trans #v[],(A _).trans #v[],(A _).trans #v[],v1,v2,v3,v4,(A _).trans #v[],(A _).trans #v[],(A _).trans #v[]⟩,(A _).trans #v[],(A _).trans #v[],(A _).trans #v[],(A _).trans #v[]⟩
   ·have l5:p5.2<4:=R 5 ⋯;have l6:p6.2<4:=R 6 ⋯;have l7:p7.2<2:=R 7 ⋯;obtain⟨a1,a2,a3,Y,Y⟩:=JF _ _ _ _ _ _ _ b6;obtain⟨b1,b2,b3,Y,Y⟩:=JF _ _ _ _ _ _ _ b0;exact⟨⟨w5,P,h5,T⟩,⟨uT l5,uT l6⟩,a1,a2,b1,b2,a3,b3,uT l7⟩
theorem mP{c:Type}(w:Nat)(b:0<w)(f:Nat->Nat->c):∀h:Nat,((List.range h).flatMap fun i=>(List.range w).map (f i))=(List.range (w*h)).map fun o=>f (o/w) (o%w) |0=>by simp|h+1=>by rw[yg,yd,mP w b f h,yb,xR,qw,zu,zG];congr 1;apply y6;intro x d;have a:=zC.mp d;show f h x=f ((w*h+x)/w) ((w*h+x)%w);rw[uj b,v_ a,ui,xn a];rfl
theorem R3{h q:Nat}(a:q<h):h-1-(h-1-q)=q:=∅
def B6(r:Rules)(o:Nat):Nat×Nat:=(o%r.wide,r.high-1-o/r.wide)
theorem F8{r:Rules}(a:0<r.wide):r.asWritten=(List.range (r.wide*r.high)).map (B6 r):=mP r.wide a (fun i x=>(x,r.high-1-i)) r.high
theorem ao{f:Type}{a:List (List f)}{w h o:Nat}{d:f}{e:Nat}{g:f->Nat}(i:0<w)(p:a.length=h)(j:∀c∈a,c.length=w)(n:o<w*h):(a.flatten.map g).getD o e=g (at_ d a h (o%w) (h-1-o/w)):=by
 have l:o/w<h:=(yw i).mpr (by rw[yh];exact n);have k:o%w<w:=wV _ i;unfold at_;rw[R3 l];have q:o=o/w*w+o%w:=by rw[yh];exact(tH o w).symm
 rw[z5,z7];rw[show a.flatten[o]?=a.flatten[o/w*w+o%w]? by rw[<-q],Nr w a j _ _ k];have b:o/w<a.length:=by rw[p];exact l
 rw[z4 b,z5,z5,z4 b];have m:o%w<(a[o/w]).length:=by rw[j _ (wo b)];exact k
 show(((some a[o/w]).bind fun c=>c[o%w]?).map g).getD e=_;simp only[wU,vY];rw[z4 m];rfl
section
variable{r:Rules}{gp sp:Nat}
abbrev Jx(r:Rules):List Nat:=r.start.flatten.map Hl
abbrev Lj(r:Rules):List Nat:=r.ground.flatten.map Cb
theorem gf(G:CK r gp sp){o:Nat}(a:o<r.wide*r.high):(Lj r).getD o 0=Cb (r.kind (B6 r o).1 (B6 r o).2):=ao (by have:=G.Z.w5;lia) G.gl G.gw a
theorem dO(G:CK r gp sp){o:Nat}(a:o<r.wide*r.high):(Jx r).getD o 0=Hl (r.piece (B6 r o).1 (B6 r o).2):=ao (by have:=G.Z.w5;lia) G.sl G.sw a
theorem Py(G:CK r gp sp):(Lj r).length=r.wide*r.high:=by rw[z3,Jh r.wide r.ground G.gw,G.gl]
theorem Ie(G:CK r gp sp):(Jx r).length=r.wide*r.high:=by rw[z3,Jh r.wide r.start G.sw,G.sl]
theorem ER(G:CK r gp sp){o:Nat}(c:o<r.wide*r.high){q:Nat}{l:List Nat}(e:l=(List.range r.high).map fun i=>q+i*(r.wide+1)):l.getD (r.high-1-(B6 r o).2) 0+(B6 r o).1=q+o+o/r.wide:=by
 have b:0<r.wide:=by have:=G.Z.w5;lia
 have a:o/r.wide<r.high:=(yw b).mpr (by rw[yh];exact c);show l.getD (r.high-1-(r.high-1-o/r.wide)) 0+o%r.wide=_;rw[R3 a,e,z5,z7,xh a];show q+o/r.wide*(r.wide+1)+o%r.wide=_;have:=tH o r.wide;rw[xR,yh];lia
theorem eh{k:Piece}:Hl k=75↔k= .king:=by cases k<;>decide
theorem jI(p:Piece)(k:Tafl.Kind):(match p,k with| .none,_=>false|_,.wall=>true| .king,.exit=>true| .king,_=>false|_,.seat=>true|_,.exit=>true|_,.plain=>false)=!Yh (Hl p) (Cb k):=by cases p<;>cases k<;>decide
theorem C9(p:Nat->Bool)(n o:Nat):o∈((List.range n).filter p).drop 1↔o<n/\p o=true/\∃c,c<o/\p c=true:=by
 have b:((List.range n).filter p).Pairwise (· <·):=r9 _ sE;cases h:(List.range n).filter p with
 |nil=>
  constructor;·intro z;cases z
  ·rintro⟨f,d,Y⟩;have:o∈(List.range n).filter p:=zS.mpr ⟨zC.mpr f,d⟩;rw[h]at this;cases this
 |cons a t=>
  rw[h,ve]at b;have mem:∀x,x∈a::t↔x<n/\p x=true:=fun x=>by rw[<-h,zS,zC]
  show o∈t↔_;constructor;·intro z;obtain⟨f,d⟩:=(mem o).mp (zg _ z);exact⟨f,d,a,b.1 o z,((mem a).mp zh).2⟩
  ·rintro⟨f,d,c,j,i⟩;rcases zw.mp ((mem o).mpr ⟨f,d⟩)with e|e
   ·exfalso;rcases zw.mp ((mem c).mpr ⟨∅,i⟩)with g|g;·lia
    ·have:=b.1 c g;lia
   ·exact e
theorem C6{y:List Nat}{o:Nat}(d:o<=y.length):c∈y.take o↔∃b,b<o/\y.getD b 0=c:=by
 rw[List.mem_iff_getElem?];constructor
 ·rintro⟨i,a⟩;rw[wD]at a;split at a;·rename_i h;exact⟨i,h,by rw[z5,a];rfl⟩
  ·cases a
 ·rintro⟨i,a,e⟩;refine⟨i,?_⟩;rw[wD,zc a,z4 ∅];rw[z5,z4 ∅]at e;exact zT some e
theorem mem_getD{y:List Nat}:c∈y↔∃o,o<y.length/\y.getD o 0=c:=by have:=C6 (y:=y) (c:=c) (ze _);rwa[y1]at this
def W9(r:Rules)(c b a:Nat):List (Int×Int):=gF (Lj r) c r.wide (Lj r).length++sF (Jx r) (Lj r) b r.wide (Jx r).length++(if Cu r.goal (Jx r) (Lj r) r.wide r.high=true then[((r.goalAt:Int),5)]else[])++(if Ew r.passed r.seat (Jx r) (Lj r)=true then[((a:Int),6)]else[])
theorem PJ(G:CK r gp sp)(p:Nat×Nat->Bool):r.cells.any p=true↔∃o,o<r.wide*r.high/\p (B6 r o)=true:=by
 have c:0<r.wide:=by have:=G.Z.w5;lia
 rw[xq];unfold Rules.cells Tafl.cellsOf;constructor
 ·rintro⟨q,g,e⟩;obtain⟨y,f,a⟩:=yH.mp g;obtain⟨x,b,rfl⟩:=zk.mp a;clear a;have a:=zC.mp b;rw[zC]at f;exists(r.high-1-y)*r.wide+x,?_;·have k:(r.high-1-y)+1<=r.high:=∅;have j:=uv r.wide k;rw[wg,yh r.high]at j;lia
  ·have m:((r.high-1-y)*r.wide+x)%r.wide=x:=by rw[yh,ui,xn a]
   have l:((r.high-1-y)*r.wide+x)/r.wide=r.high-1-y:=by rw[yh,uj c,v_ a];rfl
   unfold B6;rw[m,l,show r.high-1-(r.high-1-y)=y by lia];exact e
 ·rintro⟨o,h,e⟩;have i:o/r.wide<r.high:=(yw c).mpr (by rw[yh];exact h);exact⟨B6 r o,yH.mpr ⟨r.high-1-o/r.wide,zC.mpr (by generalize o/r.wide=d at i;lia),zk.mpr ⟨o%r.wide,zC.mpr (wV _ c),rfl⟩⟩,e⟩
theorem di(G:CK r gp sp)(k:Tafl.Kind):(r.cells.any fun p=>r.kind p.1 p.2==k)=decide (Cb k∈Lj r):=by
 rw[zZ,PJ G,zq,mem_getD,Py G];constructor;·rintro⟨o,a,h⟩;exact⟨o,a,by rw[gf G a];rw[zP]at h;rw[h]⟩
 ·rintro⟨o,a,h⟩;exists o,a;rw[gf G a]at h;rw[zP];generalize r.kind (B6 r o).1 (B6 r o).2=z at h;revert h;cases k<;>cases z<;>decide
theorem YR(G:CK r gp sp)(k:Piece):(r.cells.any fun p=>r.piece p.1 p.2==k)=decide (Hl k∈Jx r):=by
 rw[zZ,PJ G,zq,mem_getD,Ie G];constructor;·rintro⟨o,a,h⟩;exact⟨o,a,by rw[dO G a];rw[zP]at h;rw[h]⟩
 ·rintro⟨o,a,h⟩;exists o,a;rw[dO G a]at h;rw[zP];generalize r.piece (B6 r o).1 (B6 r o).2=z at h;revert h;cases k<;>cases z<;>decide
theorem RF(G:CK r gp sp):r.seats=((List.range (r.wide*r.high)).filter fun o=>(Lj r).getD o 0==83).map (B6 r):=by unfold Rules.seats;rw[F8 (by have:=G.Z.w5;lia),tJ];congr 1;apply vA;intro o a;rw[zC]at a;show(r.kind (B6 r o).1 (B6 r o).2==Tafl.Kind.seat)=_;rw[gf G a,zZ,zP,zP,Lw]
theorem MZ(G:CK r gp sp):r.kings=((List.range (r.wide*r.high)).filter fun o=>(Jx r).getD o 0==75).map (B6 r):=by unfold Rules.kings;rw[F8 (by have:=G.Z.w5;lia),tJ];congr 1;apply vA;intro o a;rw[zC]at a;show(r.piece (B6 r o).1 (B6 r o).2==Piece.king)=_;rw[dO G a,zZ,zP,zP,eh]
theorem filter_nil{y:List Nat}(b:y.length=n):((List.range n).filter fun o=>y.getD o 0==c)=[]↔¬c∈y:=by
 rw[xm,mem_getD,b];constructor;·rintro h ⟨o,a,e⟩;exact h o (zC.mpr a) (by rw[zP];exact e)
 ·intro h o a z;exact h ⟨o,zC.mp a,‹z›⟩
theorem Tu{y:List Nat}(g:y.length=n)(k:c∈y):((List.range n).filter fun o=>y.getD o 0==c).take 1=[y.idxOf c]:=by
 obtain⟨e,l⟩:=GX c y k;have d:y.idxOf c<n:=by rw[<-g];exact(z8.mp e).1
 have f:(y.getD (y.idxOf c) 0==c)=true:=by rw[zP,z5,e];rfl
 have:(List.range n).find? (fun o=>y.getD o 0==c)=some (y.idxOf c):=by rw[vN];refine⟨f,zC.mpr d,fun j i=>?_⟩;have b:j<y.length:=∅;have:=l j i;rw[z4 b]at this;rw[z5,z4 b];simp only[vY,xD,zL];exact fun z=>this (zT some z)
 rw[<-List.head?_filter]at this;cases h:(List.range n).filter fun o=>y.getD o 0==c with|nil=>rw[h]at this;cases this|cons a t=>rw[h]at this;cases this;rfl
theorem cu(G:CK r gp sp):((r.goal=1/\(r.cells.any fun p=>r.kind p.1 p.2== .exit)=false)\/(r.goal=0/\(r.kings.take 1).any r.onEdge=true))↔Cu r.goal (Jx r) (Lj r) r.wide r.high=true:=by
 have c:0<r.wide:=by have:=G.Z.w5;lia
 rw[di G];unfold Cu;have g:=G.goal;by_cases b:r.goal=1;·rw[zc b];simp only[b,sM,xD,show¬(1:Nat)=0 by decide,rS,or_false];exact rQ
 ·have f:r.goal=0:=∅;rw[zb b];simp only[f,sM,show¬(0:Nat)=1 by decide,rS,false_or];rw[MZ G,<-vJ,zp,zq,zq];by_cases hk:75∈Jx r
  ·rw[Tu (Ie G) hk];have a:(Jx r).idxOf 75<r.wide*r.high:=by obtain⟨b,Y⟩:=GX 75 (Jx r) hk;rw[<-Ie G];exact(z8.mp b).1
   generalize(Jx r).idxOf 75=o at a|-;have e:o/r.wide<r.high:=(yw c).mpr (by rw[yh];exact a);show(r.onEdge (B6 r o) ||false)=true↔_;rw[wC];unfold Rules.onEdge B6;simp only[yt,zP];generalize o/r.wide=d at e|-;generalize o%r.wide=m;constructor
   ·rintro(((h|h) |h) |h);·exact⟨hk,.inl h⟩
    ·exact⟨hk,.inr (.inr (.inr ∅))⟩
    ·exact⟨hk,.inr (.inl h)⟩
    ·exact⟨hk,.inr (.inr (.inl ∅))⟩
   ·rintro⟨Y,h|h|h|h⟩;·exact .inl (.inl (.inl h))
    ·exact .inl (.inr h)
    ·exact .inr ∅
    ·exact .inl (.inl (.inr ∅))
  ·rw[(filter_nil (Ie G)).mpr hk];constructor;·intro z;cases z
   ·intro z;exact absurd z.1 hk
theorem bE(G:CK r gp sp):(r.kings=[]\/(r.cells.any fun p=>r.piece p.1 p.2== .hunter)=false\/(r.seats=[]/\¬(r.passed=true/\r.seat=0)))↔Ew r.passed r.seat (Jx r) (Lj r)=true:=by rw[YR G,MZ G,RF G,ya,ya,filter_nil (Ie G),filter_nil (Py G)];unfold Ew;show(¬75∈Jx r\/decide (104∈Jx r)=false\/_)↔_;generalize Jx r=y;generalize Lj r=g;by_cases h1:75∈y<;>by_cases h2:104∈y<;>by_cases h3:83∈g<;>cases r.passed<;>by_cases h4:r.seat=0<;>simp[h1,h2,h3,h4]
theorem Up(G:CK r gp sp)(n k p:Nat):(k,p)∈wrongs n r↔((p:Int),(k:Int))∈W9 r gp sp n:=by
 have C:0<r.wide:=by have:=G.Z.w5;lia
 unfold wrongs W9;simp only[zD];have B:(k,p)∈(r.seats.drop 1).map (fun q=>(2,r.groundPlace q))↔((p:Int),(k:Int))∈gF (Lj r) gp r.wide (Lj r).length:=by
  rw[RF G,<-vK,zG,zk,Py G];unfold gF;rw[yH];constructor;·rintro⟨o,g,e⟩;obtain⟨l,j,m,t,s⟩:=(C9 _ _ _).mp g;exists o,zC.mpr l;unfold cz;rw[zc ⟨‹j›,(C6 (by rw[Py G];lia)).mpr ⟨m,t,‹s›⟩⟩];injection e with e1 f;replace f:r.groundPlace (B6 r o)=p:=f;unfold Rules.groundPlace at f;rw[ER G l G.ga]at f;subst e1 f;simp
  ·rintro⟨o,g,e⟩;rw[zC]at g;unfold cz at e;split at e
   ·rename_i q;obtain⟨m,t,s⟩:=(C6 (by rw[Py G];lia)).mp q.2;exists o,(C9 _ _ _).mpr ⟨g,‹q.1›,m,t,‹s›⟩;have e:=zB.mp e;injection e with e1 f;show(2,r.groundPlace (B6 r o))=(k,p);unfold Rules.groundPlace;rw[ER G g G.ga];congr 1;·lia
    ·lia
   ·cases e
 have A:(k,p)∈(r.asWritten.filter r.misplaced).map (fun q=>(3,r.startPlace q))\/(k,p)∈(r.kings.drop 1).map (fun q=>(4,r.startPlace q))↔((p:Int),(k:Int))∈sF (Jx r) (Lj r) sp r.wide (Jx r).length:=by
  rw[MZ G,F8 C,<-vK,tJ,zG,zG,zk,zk,Ie G];unfold sF;rw[yH];have v:∀o,o<r.wide*r.high->r.misplaced (B6 r o)=!Yh ((Jx r).getD o 0) ((Lj r).getD o 0):=fun o g=>by rw[dO G g,gf G g];exact jI _ _
  constructor
  ·rintro(⟨o,g,e⟩ |⟨o,g,e⟩);·obtain⟨l,j⟩:=zS.mp g;have w:=zC.mp l;refine⟨o,l,yB _ ?_⟩;replace j:r.misplaced (B6 r o)=true:=j;rw[v o w,xD]at j;unfold Wx;rw[zb (by rw[j];decide)];injection e with e1 f;replace f:r.startPlace (B6 r o)=p:=f;unfold Rules.startPlace at f;rw[ER G w G.sa]at f;subst e1 f;simp
   ·obtain⟨l,j,m,t,s⟩:=(C9 _ _ _).mp g;refine⟨o,zC.mpr l,yx _ ?_⟩;unfold Zc;rw[zc ⟨‹j›,(C6 (by rw[Ie G];lia)).mpr ⟨m,t,‹s›⟩⟩];injection e with e1 f;replace f:r.startPlace (B6 r o)=p:=f;unfold Rules.startPlace at f;rw[ER G l G.sa]at f;subst e1 f;simp
  ·rintro⟨o,g,e⟩;have i:=zC.mp g;rcases zD.mp e with e|e
   ·left;unfold Wx at e;split at e;·cases e
    ·rename_i q;exists o,zS.mpr ⟨g,?_⟩;·show r.misplaced (B6 r o)=true;rw[v o i,xD,<-y4];exact q
     ·have e:=zB.mp e;injection e with e1 f;show(3,r.startPlace (B6 r o))=(k,p);unfold Rules.startPlace;rw[ER G i G.sa];congr 1;·lia
      ·lia
   ·right;unfold Zc at e;split at e
    ·rename_i q;obtain⟨m,t,s⟩:=(C6 (by rw[Ie G];lia)).mp q.2;exists o,(C9 _ _ _).mpr ⟨i,‹q.1›,m,t,‹s›⟩;have e:=zB.mp e;injection e with e1 f;show(4,r.startPlace (B6 r o))=(k,p);unfold Rules.startPlace;rw[ER G i G.sa];congr 1;·lia
     ·lia
    ·cases e
 have u:∀(c d:Prop)[Decidable c][Decidable d](a b:Nat),(c↔d)->((k,p)∈(if c then[(a,b)]else[])↔((p:Int),(k:Int))∈(if d then[((b:Int),(a:Int))]else[])):=by
  intro c d Y Y a b h;by_cases hc:c;·rw[zc hc,zc (h.mp hc),zB,zB,tY,tY];lia
  ·rw[zb hc,zb (fun z=>hc (h.mpr z))];simp
 have y:=u _ _ 5 r.goalAt (cu G);have x:=u _ _ 6 n (bE G);rw[B,y,x,<-qp (a:=(k,p)∈_),A];simp only[qp];exact rQ
end
def two(p:Int×Int):List Int:=[p.1,p.2]
def ia(a b:Int×Int):Prop:=a.1<b.1\/(a.1=b.1/\a.2<b.2)
theorem WO(a b:Int×Int):HT.lexLt (two a) (two b)=true↔ia a b:=by
 unfold two ia;rw[HT.lexLt_cons];by_cases h:a.1=b.1
 ·rw[zc h,HT.lexLt_cons];by_cases h2:a.2=b.2;·rw[zc h2,HT.lexLt_nil_nil];simp;lia
  ·rw[zb h2,zq];lia
 ·rw[zb h,zq];lia
theorem QY(xs:List (List Int)):∀k,bestAt xs k<=k
|0=>ze _
|k+1=>by
 rw[bestAt];split;·exact ze _
 ·exact Nat.le_succ_of_le (QY xs k)
theorem Rt(l:List (Int×Int)){j:Nat}(h:j<l.length):(l.map two).getD j []=two (l.getD j (0,0)):=by rw[z5,z5,z7,z4 h];rfl
theorem Ud(l:List (Int×Int)):∀k,k<l.length->∀j,j<=k->¬ia (l.getD j (0,0)) (l.getD (bestAt (l.map two) k) (0,0))
|0,b,j,c=>by have:j=0:=∅;subst this;show¬ia (l.getD 0 (0,0)) (l.getD 0 (0,0));unfold ia;lia
|k+1,b,j,c=>by
 have a:=Ud l k ∅;have d:=QY (l.map two) k;rw[bestAt,Rt l b,Rt l (show bestAt (l.map two) k<l.length by lia)];by_cases hlt:HT.lexLt (two (l.getD (k+1) (0,0))) (two (l.getD (bestAt (l.map two) k) (0,0)))=true
 ·rw[zc hlt];rw[WO]at hlt;by_cases e:j=k+1;·subst e;unfold ia;lia
  ·have:=a j ∅;unfold ia at*;lia
 ·rw[zb hlt];rw[WO]at hlt;by_cases e:j=k+1;·subst e;exact hlt
  ·exact a j ∅
abbrev Zz(m:Option (Nat×Nat))(x:Nat×Nat):Option (Nat×Nat):=match m with|some y=>if sooner y x=true then some y else some x|none=>some x
def fR(a b:Nat×Nat):Prop:=a.2<b.2\/(a.2=b.2/\a.1<=b.1)
theorem Mo(a b:Nat×Nat):sooner a b=true↔fR a b:=by unfold sooner fR;simp
theorem Kc:∀(l:List (Nat×Nat))(y:Nat×Nat),∃f,l.foldl Zz (some y)=some f/\(f=y\/f∈l)/\fR f y/\∀x∈l,fR f x
|[],y=>⟨y,rfl,.inl rfl,by unfold fR;lia,fun x b=>by cases b⟩
|z::l,y=>by
 rw[ym];by_cases h:sooner y z=true
 ·obtain⟨f,e,a,d,c⟩:=Kc l y;refine⟨f,by show List.foldl Zz (if sooner y z=true then some y else some z) l=_;rw[zc h];exact e,?_,d,fun x b=>?_⟩
  ·rcases a with a|a;·exact .inl a
   ·exact .inr (zg _ a)
  ·rcases zw.mp b with rfl|b;·have:=(Mo _ _).mp h;unfold fR at*;lia
   ·exact c x b
 ·obtain⟨f,e,a,d,c⟩:=Kc l z;refine⟨f,by show List.foldl Zz (if sooner y z=true then some y else some z) l=_;rw[zb h];exact e,?_,?_,fun x b=>?_⟩
  ·rcases a with a|a;·exact .inr (by rw[a];exact zh)
   ·exact .inr (zg _ a)
  ·rw[Mo]at h;unfold fR at*;lia
  ·rcases zw.mp b with rfl|b;·exact d
   ·exact c x b
theorem Vy(l:List (Nat×Nat))(c:l≠[]):∃f,firstOf l=some f/\f∈l/\∀x∈l,fR f x:=by
 cases l with
 |nil=>exact absurd rfl c
 |cons z l=>
  obtain⟨f,g,a,e,d⟩:=Kc l z;refine⟨f,g,?_,fun x b=>?_⟩
  ·rcases a with a|a;·rw[a];exact zh
   ·exact zg _ a
  ·rcases zw.mp b with rfl|b;·exact e
   ·exact d x b
theorem fe(r:Rules)(d c b:Nat):∀x∈W9 r d c b,∃k p:Nat,x=((p:Int),(k:Int)):=by
 intro x a;unfold W9 at a;rcases zD.mp a with a|a
 ·rcases zD.mp a with a|a
  ·rcases zD.mp a with a|a
   ·unfold gF at a;obtain⟨o,Y,a⟩:=yH.mp a;unfold cz at a;split at a;·exact⟨2,_,zB.mp a⟩
    ·cases a
   ·unfold sF at a;obtain⟨o,Y,a⟩:=yH.mp a;rcases zD.mp a with a|a
    ·unfold Wx at a;split at a;·cases a
     ·exact⟨3,_,zB.mp a⟩
    ·unfold Zc at a;split at a;·exact⟨4,_,zB.mp a⟩
     ·cases a
  ·split at a;·exact⟨5,_,zB.mp a⟩
   ·cases a
 ·split at a;·exact⟨6,_,zB.mp a⟩
  ·cases a
theorem cC{r:Rules}{d b:Nat}(G:CK r d b)(a:Nat):(W9 r d b a=[]->firstOf (wrongs a r)=none)/\(W9 r d b a≠[]->∃k p:Nat,firstOf (wrongs a r)=some (k,p)/\(W9 r d b a).getD (bestAt ((W9 r d b a).map two) ((W9 r d b a).length-1)) (0,0)=((p:Int),(k:Int))):=by
 have g:=Up G a;have o:=fe r d b a;generalize W9 r d b a=l at g o|-;generalize wrongs a r=w at g|-;constructor
 ·intro e;have:w=[]:=by cases w with|nil=>rfl|cons z t=>have:=(g z.1 z.2).mp zh;rw[e]at this;cases this
  rw[this];rfl
 ·intro m;have q:0<l.length:=xF.mpr m;have v:w≠[]:=by intro e;obtain⟨x,t,rfl⟩:=vj m;obtain⟨k,p,rfl⟩:=o x zh;have:=(g k p).mpr zh;rw[e]at this;cases this
  obtain⟨f,D,C,B⟩:=Vy w v;exists f.1,f.2,D;have A:=QY (l.map two) (l.length-1);have c:=Ud l (l.length-1) ∅;generalize bestAt (l.map two) (l.length-1)=j at A c|-;have s:j<l.length:=∅;have n:l.getD j (0,0)∈l:=by rw[z5,z4 s];exact wo s
  obtain⟨k,p,e⟩:=o _ n;have u:=B (k,p) ((g k p).mpr (e▸n));obtain⟨i,y,E⟩:=w_.mp ((g f.1 f.2).mp C);have h:=c i ∅;rw[z5,z4 y]at h;simp only[vY]at h;rw[E]at h;rw[e]at h|-;unfold ia at h;unfold fR at u;simp only[tY];simp only at u h;lia
inductive VZ(C:Addr):_|mk(H0:Hp)(e:Addr)(x:Str):vs=[.ref e,.str x]->(∃dx,H e=some (.ins C dx []))->Ap H0 H->H0 e=none->(∀H',Cy C H' e x 0->Ap H0 H'->Q .B0 H')->VZ C vs H Q E
theorem o4:Ah ["self","text"] ["self","text"] (Ad ZQ):={}
theorem Pq(a:AY):nS 1 aR ["self","text"] (VZ aR):=by refine a.bX.has fun F=>F.ok o4 fun H Q E i h=>?_;obtain⟨j,e,x,rfl,⟨d,f⟩,b,c,k⟩:=h;exists%[B2 (pv 0) (pv 1) |B2 (pv 0) Ae];exists _,rfl,_,rfl,e,aR,d,_,rfl,f,a.rt.cl,a.rt.nT,(by show 0<1000;decide),_,rfl,e,aR,d,_,rfl,Aa,a.rt.cl,a.rt.nP,(by show 1<1000;decide);rw[DH];have g:By "place" (V.int 0) (By "text" (V.str x) [])=rf x 0:=#v[];rw[g];exact k _ ⟨d,Aa⟩ (Bv b c)
theorem P5{i:Str}{n kind c:Int}(h:fX C i n){F m:Hp}{E:XK}{g p:Addr}{j:Option Addr}(k:Ref C [n,kind,c] F E)(s:Ap F m)(A:m g=none):([V.int kind,V.int c]:List V).length<=sizeLine/\∀a,Av m g (YO true g p j) a=none->Fn K n [.ref a,.int kind,.int c] (Av (Av m g (YO true g p j)) a (XO a C none)) (fun v x=>v= .B0/\∃d p j,x a=some (XO a C d)/\x g=some (YO true g p j)/\g≠a/\E (.ref C) d (Lk x a)) E0:=by
 obtain⟨f,fd,M,T,P,b,G⟩:=h;refine⟨K2,fun a q=>?_⟩;have r:g≠a:=fun z=>by rw[<-z,Aa]at q;cases q
 have I:m a=none:=by rw[Ac (zN r)]at q;exact q
 refine⟨a,kind,c,rfl,C,f,M,T,Aa,fun H' D l N L J O u H y B=>⟨rfl,some D,p,j,N,B g _ (by rw[Ac r,Aa]) r,r,?_⟩⟩;refine k (Lk H' a) D l (by rw[BY H];exact L) (by rw[BY y];exact J) (s.free (by
  rw[Ac y]at u;by_cases z:l=g;·rw[z];exact A
  ·rw[Ac z]at u;exact u)) fun b o e=>?_;have w:=s _ _ e;have t:b≠a:=Ab w I;rw[BY t];exact B b o (by rw[Ac t,Ac (Ab w A)];exact w) t
inductive K0(C CR:Addr):_|mk(x:Str)(b:Bytes):vs=[.str x]->Tx x b->(match judge b with| .ok r=>∀H' h,Ap H H'->H h=none->Bg C H' h r->Q (.ref h) H'| .error f=>Ref CR [-6,(f.1:Nat),(f.2:Nat)] H E)->K0 C CR vs H Q E
def w6(CA:Addr)(b:Bytes)(H:Hp):XK:=fun v d c=>v= .ref CA/\∃p a,grammar b= .error p/\d=some a/\c a=some (.xd [("place",.int (p:Nat))])/\Ap H c
theorem B8.same{l:Addr}{a:List (Int×Int)}(h:B8 H l a)(s:Ap H H'):B8 H' l a:=by obtain⟨d,c,b⟩:=h;exact⟨d,s _ _ c,Am (fun Y Y=>s _ _) b⟩
theorem UN{c b:Addr}{e d:List (Int×Int)}{Q:VK}(o:B8 H c e)(n:B8 H b d)(q:e.length+d.length<=1000)(k:∀H' l,Ap H H'->H l=none->B8 H' l (e++d)->Q (.ref l) H'):jz (.ref c) (.ref b) H Q:=by
 obtain⟨m,i,g⟩:=o;obtain⟨j,h,f⟩:=n;have s:=zE g;have r:=zE f;refine⟨c,b,_,_,rfl,rfl,i,h,?_,fun p a=>k _ p (Af a) a ⟨m++j,by rw[Aa,zu],?_⟩⟩;·rw[z3,z3];have:(1000:Nat)<=sizeLine:=⋯;lia
 ·exact BV (Am (fun Y Y z=>Af a _ _ z) g) (Am (fun Y Y z=>Af a _ _ z) f)
theorem QH{a:Type}(f:Nat->List a)(m:Nat)(h:∀o,(f o).length<=m):∀n,((List.range n).flatMap f).length<=m*n|0=>by simp|n+1=>by rw[yg,yd,yb,zd,xR];have:=QH f m h n;have:=h n;lia
theorem mU(y:List Nat)(a w n:Nat):(gF y a w n).length<=n:=by have:=QH (cz y a w) 1 (fun o=>by unfold cz;split<;>simp) n;unfold gF;lia
theorem mm(y g:List Nat)(a w n:Nat):(sF y g a w n).length<=2*n:=by
 refine QH (fun o=>Wx y g a w o++Zc y a w o) 2 (fun o=>?_) n;have c:(Wx y g a w o).length<=1:=by unfold Wx;split<;>simp
 have b:(Zc y a w o).length<=1:=by unfold Zc;split<;>simp
 rw[zd];lia
theorem SW:bootBuiltins "min"=some (.builtin "min"):=∎
abbrev t5:List Str:=["text","reader","said","e","faults","first"]
theorem XD:Ah t5 ["text"] (Ad Mz):={}
theorem NV(f:AY):pz 7 "read_rules" ["text"] (K0 aH aS):=by
 refine f.QN.has fun F=>F.Jw XD fun H Q E M h hx=>?_;obtain⟨x,b,rfl,V,k⟩:=h;obtain⟨fF,b9,MF,TF,mF,bF,a3⟩:=id (Cs f);have n:AW 3 _:=M.mono ⋯;have v:AW 2 _:=M.mono ⋯;have a7:AW 1 _:=M.mono ⋯;have a6:AW 4 _:=M.mono ⋯;exists%[An (i:=1) XD.nd (IL (Pq f) v rfl f.Tr Ar (#v[pv 0])),UQ (c:=true) (E:=w6 aA b H) (E':=E) (i:=3) (ts:=fun a=>PX a aS (Fn K (-6)) E (Be (tC (.int 1)) (Be (VV K (Bj 3) "place") Ca))) ⟨rfl,rfl⟩ XD.nd rfl rfl rfl f.fL (m_ f) (fun pn xe T=>Ag (An (i:=2) XD.nd (Ay (Te f) M rfl T.passes (#v[pv 1])))) hx (fun a xe T=>by exact Ag (OS MF a3 (n.h.mark _) rfl mF bF rfl T (#v[Ae,Qo (pv 3) rfl]))),An (i:=4) XD.nd (AA Ed (AA Ed (AA Ed (Ay (Td f) v rfl Ar (#v[pv 2])) (Ay (Vq f) v rfl Ar (#v[pv 2]))) (Ay (Yx f) n rfl Ar (#v[pv 2]))) (Ay (Yv f) a7 rfl Ar (#v[pv 2,AO DP f.D6 y8 (#v[pv 0])]))),AM (IH (pv 4) (fun Y=>rfl)) (%[An (i:=5) XD.nd (AO (Od rfl (rN (Gu n.in1))) f.m6 SW (#v[pv 4])) |Sf (Cs f) n.h rfl rfl hx.weak (#v[Az Bf (pv 5) Ae,Az Bf (pv 5) Ae])]) Au|Aj (IL (QE f) a6 rfl f.kf Ar (#v[pv 2]))];refine⟨_,rfl,fun e dx P a4 b6=>?_⟩;have s0:Ap H (Av (Av H dx (.own e)) e (.ins aR dx [])):=fun A o z=>by rw[Ac (Ab z P),Ac (Ab z a4)];exact z
 refine⟨H,e,x,rfl,⟨dx,Aa⟩,s0,P,fun H1 a2 s1=>⟨rfl,?_⟩⟩;refine Ax ?_;cbv;refine⟨⟨_,rfl,e,x,b,rfl,a2,V,?_⟩,?_⟩
 ·cases R:grammar b with
  |error p=>intro H' y q bt;exact⟨rfl,p,y,R,rfl,q,fun A o z=>bt A o (s1 A o z) (Ab z P)⟩
  |ok r=>
   intro H2 J j C B bt n1 b5 u g m;have s2:Ap H H2:=fun A o z=>bt A o (s1 A o z) (Ab z P);unfold judge at k;rw[R]at k;dsimp only at k;have w5:=m.Z.w5;have s:=m.Z.KU;have b8:r.wide*r.high<=169:=uw m.Z.KU m.Z.Vv;have gl:=Py m;have yl:=Ie m;refine Ax ?_;cbv;refine⟨_,rfl,J,j,Lj r,C,r.wide,rfl,u,g.ok.ground,g.ke,g.ok.wide,∅,s,∅,fun H3 l1 s3 n3 F1=>?_⟩;refine⟨_,rfl,J,j,Jx r,Lj r,B,r.wide,rfl,s3 _ _ u,g.start,g.ok.ground,g.jc,g.ok.wide,∅,s,∅,by rw[gl,yl],fun H4 l2 s4 n4 F2=>?_⟩;have b1:=mU (Lj r) C r.wide (Lj r).length;have b2:=mm (Jx r) (Lj r) B r.wide (Jx r).length;refine UN (F1.same s4) F2 ∅ fun H5 l3 s5 n5 F3=>?_;have I:=s5 _ _ (s4 _ _ (s3 _ _ u));refine⟨_,rfl,J,j,Jx r,Lj r,r.wide,r.high,r.goal,r.goalAt,rfl,I,g.start,g.ok.ground,g.ok.wide,g.ok.high,g.ok.goal,g.mR,∅,s,fun H6 l4 s6 n6 F4=>?_⟩;have b3:(if Cu r.goal (Jx r) (Lj r) r.wide r.high=true then[((r.goalAt:Int),(5:Int))]else[]).length<=1:=by split<;>simp
   have b4:(if Ew r.passed r.seat (Jx r) (Lj r)=true then[((b.length:Int),(6:Int))]else[]).length<=1:=by split<;>simp
   refine UN (F3.same s6) F4 (by rw[zd];lia) fun H7 l5 s7 n7 F5=>?_;have G:=s7 _ _ (s6 _ _ I);refine⟨_,rfl,_,rfl,x,rfl,V.line,J,j,Jx r,Lj r,r.passed,r.seat,b.length,by rw[V.len];rfl,G,g.start,g.ok.ground,g.ok.passed,g.ok.seat,fun H8 l6 Z n8 F6=>?_⟩;refine UN (F5.same Z) F6 (by rw[zd,zd];lia) fun N l7 s9 n9 F7=>?_;have X:=s9 _ _ (Z _ _ G);have W:Ap H N:=(((((s2.trans s3).trans s4).trans s5).trans s6).trans s7|>.trans Z).trans s9;replace F7:B8 N l7 (W9 r C B b.length):=F7;obtain⟨U,h7,O⟩:=F7;have D:=zE O;refine Ax ?_;cbv;obtain⟨q1,q2⟩:=cC m b.length;refine DG ⟨_,rfl,_,.inl ⟨_,AJ.of h7,rfl⟩,?_⟩;by_cases hE:W9 r C B b.length=[]
   ·rw[hE]at D;have:U=[]:=wH.mp D;subst this;refine B9 rfl ?_;rw[q1 hE]at k;dsimp only at k;refine⟨_,rfl,fun S dh nh a5 b7=>?_⟩;have sh:Ap N (Av (Av N dh (.own S)) S (.ins aH dh [])):=fun A o z=>by rw[Ac (Ab z nh),Ac (Ab z a5)];exact z
    exact⟨N,S,J,r,j,rfl,⟨dh,Aa⟩,sh,nh,X,g.ok,m.Z,m.N,m.gl,m.gw,fun b0 hA a1=>⟨rfl,k b0 S (W.trans a1) (W.free nh) hA⟩⟩
   ·obtain⟨kd,pl,e1,e2⟩:=q2 hE;have w:U≠[]:=fun z=>hE (by rw[z]at D;exact wH.mp D.symm);refine BJ (by cases U with|nil=>exact absurd rfl w|cons _ _=>rfl) ?_;rw[e1]at k;dsimp only at k;refine⟨_,rfl,l7,U,(W9 r C B b.length).map two,rfl,AJ.of h7,?_,w,fun t ht=>?_⟩;·clear D e2 q1 q2 e1 k hE h7 w;generalize W9 r C B b.length=l at O;induction O with|nil=>exact .nil|cons h1 h2 ih=>exact .cons (Em.of h1) ih
    ·refine Ax ?_;cbv;obtain⟨pp,a8,tw⟩:=AB O ht;have a9:pp=((pl:Int),(kd:Int)):=by rw[<-e2,z5,<-D,a8];rfl
     subst a9;refine⟨_,rfl,t,_,_,_,rfl,rfl,Em.of tw,rfl,_,rfl,t,_,_,_,rfl,rfl,Em.of tw,rfl,Tw (Cs f) (k.same W)⟩
 ·rintro a0 C1 d H2 ⟨ec,p,y,R,rfl,q,s2⟩ L;cases ec;exists f.lJ,_,rfl,true,a0,aA,y,[("place",.int (p:Nat))],_,rfl,Aa,f.pD,?_,xW;·rw[Ac (Ab q L)];exact q
  ·unfold judge at k;rw[R]at k;exact P5 (Cs f) k s2 L
def Fd(r:Rules)(o:Nat):Nat:=13*(r.high-1-o/r.wide)+o%r.wide
def MP(r:Rules)(b:List Nat)(o:Nat):Bool:=!decide (b.getD (Fd r o) 0=46)&&!WL r (b.getD (Fd r o) 0) (Fd r o)
inductive K1(C CL:Addr):_|mk(a pl:Addr)(r:Rules)(b places:List Nat):vs=[.ref a,.str (Ak b),.ref pl]->Bg C H a r->b.length=169->H pl=some (.lst (nV places))->places.length=r.wide*r.high->(match(List.range (r.wide*r.high)).find? (MP r b)with|none=>∀H',Ap H H'->Q .B0 H'|some o=>Ref CL [-5,2,(places.getD o 0:Nat)] H E)->K1 C CL vs H Q E
theorem Vz{p:Nat->Bool}(d:i<n)(a:p i=true)(b:∀j,j<i->p j=false):(List.range n).find? p=some i:=by rw[vN];exact⟨a,‹d›,fun j c=>by rw[b j c];rfl⟩
abbrev t9:List Str:=["hall","cells","places","order","place","cell"]
theorem eI:Ah t9 ["hall","cells","places"] (Ad M1):={}
theorem NW(m:AY):mN 4 "refuse_misplaced" ["hall","cells","places"] (K1 aH aL):=by
 refine m.HY.has fun F=>F.Jw eI fun H Q E W h C=>?_;obtain⟨a,V,r,b,d,rfl,S,hb,u,p,k⟩:=h;obtain⟨U,N,bs,P,a0,a2,a1⟩:=S.ex;have Z:=S.Z;have w5:=Z.w5;have D:=Z.KU;have a3:=Z.Vv;have t:AW 1 _:=W.mono ⋯;exists Ag (BC Bt rfl (L4 (by rfl) m.BG (#v[pv 2])) (Dj rfl (AS (Aw (i:=3) eI.nd) (AS (Aw (i:=4) eI.nd) Cq))) (%[An (i:=5) eI.nd (Ay (Nk m) t rfl Ar (#v[pv 3,Al (pv 0),Al (pv 0)])) |AM (Cm (Ao Hs (Az Eh (pv 1) (pv 5)) Ai) (BL (FW (BU (AH (Fy m) (pv 0) m.hc.cl t Ar (#v[Az Eh (pv 1) (pv 5),pv 5])))))).pt (Ag (Sf (CB m) W.h rfl rfl C (#v[Ae,pv 4]))) Au]));refine⟨_,rfl,V,_,rfl,AJ.of u,Kb (xs:=nV d) (fun i B H'=>E3 fun J I G=>A3 (B=[some (.ref a),some (.str (Ak b)),some (.ref V),J,I,G]) (Ap H H') (∀j,j<i->MP r b j=false)) ⟨none,none,none,rfl,AR _,fun j X=>absurd X (xc _)⟩ (fun i B H' Y ⟨_,_,_,_,z,_⟩=>AJ.of (z _ _ u)) ?_ ?_⟩
 ·rintro i v B H' D' O ⟨J,I,G,rfl,L,o⟩ R;obtain⟨s,w,rfl⟩:∃s,d[i]?=some s/\v= .int (s:Nat):=by unfold nV at O;rw[z7,zy]at O;obtain⟨c,e,rfl⟩:=O;exact⟨c,e,rfl⟩
  have y:i<r.wide*r.high:=by rw[<-p];exact(z8.mp w).1
  have hd:i/r.wide<r.high:=(yw ∅).mpr (by rw[yh];exact y);have hm:i%r.wide<r.wide:=wV _ ∅;have l:Fd r i<169:=by unfold Fd;generalize i/r.wide=q at hd|-;lia
  have K:Ap H' (Av H' D' (.tup [.int (i:Nat),.int (s:Nat)])):=Af R;have f:=L.trans K;have g:(Ak b).length<=sizeLine:=by rw[B4,hb];exact BO
  refine⟨D',_,rfl,.of Aa,rfl,_,_,rfl,_,_,rfl,rfl,_,rfl,_,rfl,a,aH,U,_,_,rfl,f _ _ P,m.hc.cl,m.hc.Pb,IZ r N,_,rfl,a,aH,U,_,_,rfl,f _ _ P,m.hc.cl,m.hc.Pc,I_ r N,i,r.wide,r.high,rfl,∅,D,hd,Ax ?_⟩;cbv;refine DG ?_;have A:YN (Ak b).cps.toList ((Fd r i:Nat):Int)=some (b.getD (Fd r i) 0):=Im (by rw[hb];exact l);refine DI (!decide (b.getD (Fd r i) 0=46)) (!WL r (b.getD (Fd r i) 0) (Fd r i)) (fun Q' M=>⟨_,rfl,_,rfl,Ak b,_,_,rfl,rfl,g,A,rfl,_,rfl,HL M (zT Bool.not (Di (n:=46) rfl))⟩) (fun Y Q' M=>⟨_,rfl,a,U,_,rfl,f _ _ P,JY r N,_,rfl,_,rfl,Ak b,_,_,rfl,rfl,g,A,_,rfl,a,r,_,Fd r i,rfl,S.same f,l,_,rfl,M⟩) ?_;by_cases hbad:MP r b i=true
  ·refine BJ hbad ?_;rw[Vz y hbad o]at k;have T:d.getD i 0=s:=by rw[z5,w];rfl
   dsimp only at k;rw[T]at k;exact⟨_,rfl,Tw (CB m) (k.same f)⟩
  ·rw[y4]at hbad;refine B9 hbad ⟨_,_,_,rfl,f,fun j X=>?_⟩;by_cases e:j=i;·rw[e];exact hbad
   ·exact o j ∅
 ·rintro B H' ⟨J,I,G,rfl,L,o⟩;have:(List.range (r.wide*r.high)).find? (MP r b)=none:=by rw[xS];intro x C;rw[zC]at C;rw[o x (by unfold nV;rw[z3,p];exact C)];decide
  rw[this]at k;exact k H' L
inductive O0:_|mk(wl:Addr)(ys:List Nat)(w h o:Nat):vs=[.ref wl,.int w,.int h,.str ⟨#[o]⟩]->H wl=some (.lst (ys.map ZC))->ys.length=w*h->1<=w->w<=13->1<=h->h<=13->(∀H' z,Ap H H'->z.cps.toList=A1 ys w h o (w*h)->Q (.str z) H')->O0 vs H Q E
theorem Ta(B:AY):FK 2 "spread" ["written","wide","high","outside"] O0:=by
 refine B.TJ.has fun F=>F.ok D0 fun H Q E X h=>?_;obtain⟨K,f,W,T,o,rfl,m,L,U,n,hh,Z,k⟩:=h;exists%[An (i:=4) D0.nd (AA Qq (AF (#v[pv 3])) (AD (v:= .int 169) rfl (C3 B.QW) ⟨_,rfl⟩)),BC y0 rfl (L4 (by rfl) B.BG (#v[pv 0])) (Dj rfl (AS (Aw (i:=5) D0.nd) (AS (Aw (i:=6) D0.nd) Cq))) (Ag (HN (pv 6) (HP (pv 4) (Ay (Nk B) X rfl Ar (#v[pv 5,pv 1,pv 2])) set_list))) |Aj (B5 yc xw xt GO Ai (#v[pv 4]))];have nL:(169:Nat)<=sizeLine:=⋯;refine⟨_,rfl,Ju,fun I p=>⟨I,_,_,rfl,rfl,Aa,⋯,⋯,(by show 1*169<=sizeLine;decide),fun l M=>?_⟩⟩;have j:Ap H (Av (Av H I (.lst [.str ⟨#[o]⟩])) l (.lst ((A1 f W T o 0).map fun c=>V.str ⟨#[c]⟩))):=fun A x e=>by
  have y:(Av H I (.lst [.str ⟨#[o]⟩])) A=some x:=by rw[Ac (Ab e p)];exact e
  rw[Ac (Ab y M)];exact y
 have eL:(List.replicate (169:Int).toNat [V.str ⟨#[o]⟩]).flatten=(A1 f W T o 0).map fun c=>V.str ⟨#[c]⟩:=by rw[Ku,vf,wM];rfl
 rw[eL];have R:H l=none:=Ap.free (Af p) M;refine⟨_,rfl,K,_,rfl,AJ.of (j _ _ m),Kb (xs:=f.map ZC) (fun i s H'=>E2 fun G C=>A3 (s=[some (.ref K),some (.int W),some (.int T),some (.str ⟨#[o]⟩),some (.ref l),G,C]) (Ap H H') (H' l=some (.lst ((A1 f W T o i).map fun c=>V.str ⟨#[c]⟩)))) ⟨none,none,rfl,j,Aa⟩ (fun i s H' Y ⟨_,_,_,z,_⟩=>AJ.of (z _ _ m)) ?_ ?_⟩
 ·rintro i v s H' D N ⟨G,C,rfl,w,a⟩ P;obtain⟨c,q,rfl⟩:∃c,f[i]?=some c/\v= .str ⟨#[c]⟩:=by rw[z7,zy]at N;obtain⟨c,e,rfl⟩:=N;exact⟨c,e,rfl⟩
  have r:i<W*T:=by rw[<-L];exact(z8.mp q).1
  have O:i/W<T:=(yw ∅).mpr (by rw[yh];exact r);have J:l≠D:=Ab a P;exists D,_,rfl,.of Aa,rfl,_,_,rfl,_,_,rfl,rfl,_,rfl,_,rfl,_,rfl,_,rfl,_,rfl,i,W,T,rfl,∅,n,O,l,_,_,13*(T-1-i/W)+i%W,rfl,rfl,by rw[Ac J];exact a,?_,_,_,rfl,?_;·have hm:i%W<W:=wV _ ∅;rw[z3,show(A1 f W T o i).length=169 by simp[A1]];exact Ex (by generalize i/W=d at O|-;lia)
  ·intro A x e;rw[Ac (Ab e R),Ac (Ab (w A x e) P)];exact w A x e
  ·rw[Aa,<-Kv U n r q,wK]
 ·rintro s H' ⟨G,C,rfl,w,a⟩;rw[z3,L]at a;have g:(A1 f W T o (W*T)).length=169:=by simp[A1]
  refine⟨rfl,_,rfl,_,l,(A1 f W T o (W*T)).map fun c=>(⟨#[c]⟩:Str),rfl,rfl,.inl (.of (by rw[a,zG];rfl)),?_,k H' _ w ?_⟩
  ·rw[zG,z3,g];have y:∀t:List Nat,(t.map (Str.length∘fun u=>(⟨#[u]⟩:Str))).sum=t.length:=by intro t;induction t with|nil=>rfl|cons u b S=>rw[zH,vI,S,zm];show 1+_=_;lia
   rw[y,g];show 169+169*0<=_;lia
  ·refine(zT TL.tl (TL.join_eq _ _)).trans ?_;rw[TL.Es,zG];exact GV _
def Rb(H:Hp)(t:Addr)(z:Nat×Nat):Prop:=H t=some (.tup [.str ⟨#[z.1]⟩,.int (z.2:Nat)])
inductive Z2(C CA:Addr):_|mk(a:Addr)(x:Str)(b:Bytes)(p left:Nat):vs=[.ref a,.int (left:Nat)]->Cy C H a x p->Tx x b->p<=b.length->1<=left->left<=13->(HM.Res (CQ left (BK b p) (AI b p) ⟨b.drop p,p⟩) (fun z=>∀H' l ts,Cy C H' a x z.2.at_->DA a H H'->H l=none->l≠a->H' l=some (.lst (ts.map V.ref))->Paired (Rb H') ts z.1->Q (.ref l) H') fun e=>FO a CA e H E)->Z2 C CA vs H Q E
theorem N3{b:Bytes}(t:Tx x b)(a:p<=b.length):(DO x none (some (p:Int))).cps.toList=(b.map kc).take p:=by unfold DO;have c:=t.len;rw[HT.IB,HT.Fo,c,xf a,xK,uR,t.cs]
theorem Ug{b:Bytes}(t:Tx x b)(c:p<=b.length):decide (75∈(DO x none (some (p:Int))).cps.toList)=AI b p:=by
 unfold AI;rw[N3 t c,<-vJ,y3,zk];constructor;·rintro⟨u,a,e⟩;have:=(Hv (∎:75∈known)).mp e;have:u=75:=xT.mp this;rw[<-this];exact a
 ·intro h;exact⟨75,h,∎⟩
theorem VH{b:Bytes}(t:Tx x b)(d:p<=b.length):Txt.isdigit (DO (DO x none (some (p:Int))) (some (-1)) none)=BK b p:=by
 have e:=N3 t d;have a:(DO x none (some (p:Int))).length=p:=by show(DO x none (some (p:Int))).cps.size=p;rw[<-xi,e,zO,z3,xf d]
 generalize DO x none (some (p:Int))=z at e a;have f:DO z (some (-1)) none=⟨(((b.map kc).take p).drop (p-1)).toArray⟩:=by
  unfold DO;rw[e,a];have h:HT.CS p 0 (some (-1))=p-1:=by show(if(-1:Int)<0 then((-1:Int)+(p:Int)).toNat else min (-1:Int).toNat p)=_;rw[zc ⋯];lia
  rw[h,HT.IB];congr 2;rw[List.take_of_length_le];rw[yI,zO];lia
 rw[f];cases p with
 |zero=>rfl
 |succ q=>
  have c:q<b.length:=d;have g:((b.map kc).take (q+1)).drop (q+1-1)=[kc b[q]]:=by rw[Nat.add_sub_cancel,List.drop_take,Nat.add_sub_cancel_left];rw[yf (by rw[z3];exact c),xE,wI,xp]
  rw[g];have:=HJ t q;rw[Ds t (z4 c)]at this;rw[HM.DX (z4 c)];rw[z4 c]at this;exact this
theorem X4{a:Nat}{b:Bytes}(h:b[p]?=none):CQ a (BK b p) (AI b p) ⟨b.drop p,p⟩= .error p:=by unfold CQ;rw[C_,h]
theorem U3{a:Nat}{b:Bytes}{u:UInt8}(h:b[p]?=some u)(c:u=104\/u=109\/(u=75/\AI b p=false)):CQ a (BK b p) (AI b p) ⟨b.drop p,p⟩= .ok ([(u.toNat,p)],⟨b.drop (p+1),p+1⟩):=by
 unfold CQ;rw[C_,Ef,h];cbv;rcases c with e|e|e;·rw[zc e];subst e;rfl
 ·rw[zb (by rw[e];decide),zc e];subst e;rfl
 ·rw[zb (by rw[e.1];decide),zb (by rw[e.1];decide),zc e,e.1];rfl
theorem Z9{a:Nat}{b:Bytes}{u:UInt8}(h:b[p]?=some u)(c:¬(u=104\/u=109\/(u=75/\AI b p=false)))(e:isDigit u=false\/BK b p=true):CQ a (BK b p) (AI b p) ⟨b.drop p,p⟩= .error p:=by
 unfold CQ;rw[C_,h];cbv;rw[zb (fun z=>c (.inl z)),zb (fun z=>c (.inr (.inl z))),zb (fun z=>c (.inr (.inr z)))];by_cases hw:BK b p=true;·rw[zc hw]
 ·rw[zb hw];have d:isDigit u=false:=e.resolve_right hw;unfold runIn;rw[C_,h];cbv;rw[zb (fun z=>by rw[d]at z;exact absurd z.1 ⋯)]
theorem Z8{a:Nat}{b:Bytes}{u:UInt8}(i:a<=13)(h:b[p]?=some u)(d:isDigit u=true)(f:BK b p=false):CQ a (BK b p) (AI b p) ⟨b.drop p,p⟩=(number 1 a ⟨b.drop p,p⟩).map fun n=>(List.replicate n.1 (46,p),n.2):=by
 have c:∀v:UInt8,isDigit v=false->¬u=v:=fun v g e=>by rw[e,g]at d;cases d
 unfold CQ;rw[C_,h,HM.UH i];cbv;rw[zb (c 104 ⋯),zb (c 109 ⋯),zb (fun z=>c 75 ⋯ z.1),zb (by rw[f];decide)];cases runIn a ⟨b.drop p,p⟩<;>rfl
theorem lL{b:Bytes}(t:Tx x b)(a:List Nat)(f:∀c∈a,c∈known):sg x p∈(a.map fun c=>(⟨#[c]⟩:Str))↔∃u,b[p]?=some u/\u.toNat∈a:=by
 cases d:b[p]? with
 |none=>
  rw[Iu t d];constructor;·intro z;obtain⟨c,Y,z⟩:=zk.mp z;have:=zT (fun s:Str=>s.cps.size) z;cases this
  ·rintro⟨u,z,Y⟩;cases z
 |some u=>
  rw[Ds t d];constructor
  ·intro z;obtain⟨c,g,z⟩:=zk.mp z;have h:c=kc u:=by have:=zT (fun s:Str=>s.cps.toList) z;simpa using this
   exists u,rfl;rw[(Hv (f c g)).mp h.symm];exact g
  ·rintro⟨i,z,e⟩;cases z;exact zk.mpr ⟨u.toNat,e,by rw[(Hv (f _ e)).mpr rfl]⟩
abbrev se:List Str:=["reader","left","place","before","pieces"]
theorem eH:Ah se ["reader","left"] (Ad gY):={}
theorem cj(m:AY):mN 4 "read_some" ["reader","left"] (Z2 aR aA):=by
 refine m.TK.has fun F=>F.Jw eH fun H Q E hr h hx=>?_;obtain⟨a,x,b,p,j,rfl,⟨I,v⟩,r,hp,b1,a8,k⟩:=h;have a7:AW 1 _:=hr.mono ⋯;exists%[An (i:=2) eH.nd (Al (pv 0)),An (i:=3) eH.nd (D3 HI (Al (pv 0)) II (CY (pv 2))),AM (Cm (BU (Sj vF vD HS (AU (Y3 m) (pv 0) m.rt.cl a7 Ar))) (BL (FW (BU (Sj vF vD HS (D3 HI (pv 3) (CY (Hr ED Ae)) II)))))).pt (Ag (Aj (AA Qq (AF (#v[B3 (#v[Ai,pv 2])])) (AH (Ez m) (pv 0) m.rt.cl hr hx.passes (#v[Ae,pv 1]))))) Au,An (i:=4) eH.nd (D4 (Ao Fv Ai (pv 3) #v[]) (B3 (#v[Ai,Ai])) (B3 (#v[Ai,Ai,Ai]))) |Aj (AF (#v[B3 (#v[AH (KE m) (pv 0) m.rt.cl hr hx.passes (#v[pv 4]),pv 2])]))];refine⟨_,rfl,a,aR,I,_,_,rfl,v,m.rt.cl,m.rt.nP,Bq x p,Ax ?_⟩;cbv;refine⟨_,rfl,a,aR,I,_,_,rfl,v,m.rt.cl,m.rt.nT,IE x p,_,rfl,_,rfl,x,rfl,r.line,Ax ?_⟩;cbv;refine DG ?_;have zl:(DO x none (some (p:Int))).length<=sizeLine:=z_ (KQ _ _ _) r.line;refine DI (match b[p]? with|some u=>isDigit u|none=>false) (!BK b p) (fun Q' q'=>⟨_,rfl,a,I,_,rfl,v,C5 _ _,a,x,p,rfl,⟨I,v⟩,r.line,⟨_,rfl⟩,_,rfl,rfl,we,_,rfl,HL q' (HJ r p)⟩) (fun Y Q' q'=>⟨_,rfl,1,rfl,_,rfl,_,rfl,zl,⟨_,rfl⟩,_,rfl,rfl,we,_,rfl,HL q' (zT Bool.not (VH r hp))⟩) ?_;have done:∀{cs:List Nat}{g:Addr}{H1:Hp}{N:L2.St},(∀c∈cs,c∈known)->H1 g=some (.tup (cs.map fun c=>V.str ⟨#[c]⟩))->Ap H H1->H g=none->(∀u,b[p]?=some u->(u.toNat∈cs↔(u=104\/u=109\/(u=75/\AI b p=false))))->(∀u,b[p]?=some u->isDigit u=false\/BK b p=true)->N[0]?=some (some (.ref a))->N[2]?=some (some (.int (p:Nat)))->N[4]?=some (some (.ref g))->PV (iV (Be (X1 (Be (DF aR "take_one_of" (DQ K aR aA) [] E (Bj 0) (Be (Bj 4) Ca)) (Be (Bj 2) Ca))) Ca)) {nx:=fun Y H'=>Q .B0 H',rt:=Q} N H1:=by
  intro cs g H1 N G M C ng U A e0 e2 e4;exists _,e0,a,I,_,rfl,C _ _ v,C5 _ _,_,e4,a,g,x,p,cs.map fun c=>(⟨#[c]⟩:Str),rfl,⟨I,C _ _ v⟩,r.line,.of (by rw[zG];exact M);have T:=lL r (p:=p) cs G;have no:b[p]?=none->FO a aA p H E:=fun f=>by rw[X4 f]at k;exact k
  by_cases hm:sg x p∈(cs.map fun c=>(⟨#[c]⟩:Str))
  ·rw[zc hm];obtain⟨u,f,hc⟩:=T.mp hm;rw[U3 f ((U u f).mp hc)]at k;intro H2 a2 Z;refine⟨_,e2,K2,fun t ht=>⟨Ju,fun l w=>?_⟩⟩;obtain⟨b0,X⟩:=a2;have a6:sg x p=⟨#[u.toNat]⟩:=by rw[Ds r f,(Hv (G _ hc)).mpr rfl]
   have s:=Af (o:= .tup [.str (sg x p),.int (p:Nat)]) ht;have s3:=Af (o:= .lst [.ref t]) w;have R:l≠a:=(Ab (s _ _ X) w).symm;have bt:DA a H (Av (Av H2 t (.tup [.str (sg x p),.int (p:Nat)])) l (.lst [.ref t])):=fun J o e n=>s3 _ _ (s _ _ (Z J o (C J o e) n));refine k _ l [t] ⟨b0,s3 _ _ (s _ _ X)⟩ bt ?_ R Aa (.cons ?_ .nil);·cases q:H l with|none=>rfl|some o=>have:=s _ _ (Z l o (C l o q) R);rw[w]at this;cases this
   ·unfold Rb;rw[s3 _ _ Aa,a6]
  ·rw[zb hm];have hb:FO a aA p H E:=by cases f:b[p]? with|none=>exact no f|some u=>rw[Z9 f (fun z=>hm (T.mpr ⟨u,f,(U u f).mpr z⟩)) (A u f)]at k;exact k
   exact hb.ast fun J o e Y=>C J o e
 have D:(∀u,b[p]?=some u->isDigit u=false\/BK b p=true)->LU (R0 (pZ (Ou (Ry (fun x y H Q=>∃(c:Nat)(z:Str),x= .str ⟨#[c]⟩/\y= .str z/\Q (.bl (decide (c∈z.cps.toList))) H) (tC (.str "K")) (Bj 3))) (X1 (Be (tC (.str "h")) (Be (tC (.str "m")) Ca))) (X1 (Be (tC (.str "h")) (Be (tC (.str "m")) (Be (tC (.str "K")) Ca))))) (E7 4)) (PV (iV (Be (X1 (Be (DF aR "take_one_of" (DQ K aR aA) [] E (Bj 0) (Be (Bj 4) Ca)) (Be (Bj 2) Ca))) Ca))) {nx:=fun Y H'=>Q .B0 H',rt:=Q} [some (.ref a),some (.int (j:Nat)),some (.int (p:Nat)),some (.str (DO x none (some (p:Int)))),none] H:=by
  intro A;exists _,rfl,75,_,rfl,rfl,_,rfl;cbv;rw[Ug r hp];by_cases G:AI b p=true
  ·refine BJ G ⟨K2,fun g M=>done (cs:=[104,109]) (g:=g) ∎ Aa (Af M) M (fun u f=>?_) A rfl rfl rfl⟩;rw[G];constructor
   ·intro z;rcases zw.mp z with z|z;·exact .inl (xT.mp z)
    ·exact .inr (.inl (xT.mp (zB.mp z)))
   ·rintro(rfl|rfl|⟨Y,z⟩);·decide
    ·decide
    ·cases z
  ·rw[y4]at G;refine B9 G ⟨kZ,fun g M=>done (cs:=[104,109,75]) (g:=g) ∎ Aa (Af M) M (fun u f=>?_) A rfl rfl rfl⟩;rw[G];constructor
   ·intro z;rcases zw.mp z with z|z;·exact .inl (xT.mp z)
    ·rcases zw.mp z with z|z;·exact .inr (.inl (xT.mp z))
     ·exact .inr (.inr ⟨xT.mp (zB.mp z),rfl⟩)
   ·rintro(rfl|rfl|⟨rfl,Y⟩)<;>decide
 cases f:b[p]? with
 |none=>exact B9 rfl (D fun u z=>by rw[f]at z;cases z)
 |some u=>
  by_cases hd:isDigit u=true/\BK b p=false
  ·refine BJ (by show(isDigit u&&!BK b p)=true;rw[hd.1,hd.2];rfl) ⟨_,rfl,K2,fun t ht=>⟨Ju,fun L hL=>?_⟩⟩;have C:=Af (o:= .tup [.str ".",.int (p:Nat)]) ht;have s:=C.trans (Af (o:= .lst [.ref t]) hL);have a3:t≠a:=(Ab v ht).symm;have a5:L≠a:=(Ab (C _ _ v) hL).symm;have a4:t≠L:=fun z=>by rw[<-z,Aa]at hL;cases hL
   rw[Z8 a8 f hd.1 hd.2]at k;replace k:=Res.gQ k;exists _,rfl,a,I,_,rfl,s _ _ v,C5 _ _,_,rfl,a,x,b,p,1,j,rfl,⟨I,s _ _ v⟩,r,⋯,∅;cases S:number 1 j ⟨b.drop p,p⟩with
   |error e=>rw[S]at k;exact fun H' d e1 bt=>k H' d e1 fun J o e n=>bt J o (s _ _ e) n
   |ok n=>
    rw[S]at k;obtain⟨n,c⟩:=n;obtain⟨n1,n2⟩:=JL ∅ S;intro H3 a1 a0 B;obtain⟨a9,W⟩:=a1;refine⟨L,(n:Nat),[.ref t],rfl,rfl,B _ _ Aa a5,∅,∅,?_,fun l w=>?_⟩;·show 1*(n:Int).toNat<=sizeLine;have:(13:Nat)<=sizeLine:=⋯;lia
    ·have P:l≠a:=(Ab W w).symm;have O:=Af (o:= .lst (List.replicate (n:Int).toNat [V.ref t]).flatten) w;have er:(List.replicate (n:Int).toNat [V.ref t]).flatten=(List.replicate n t).map V.ref:=by rw[wO];clear S k n1 n2 w O;induction n with|zero=>rfl|succ n ih=>rw[yO,yO,y_,ih];rfl
     refine k _ l (List.replicate n t) ⟨a9,O _ _ W⟩ (fun J o e ne=>O _ _ (B J o (s _ _ e) ne)) ?_ P (by rw[Aa,er]) ?_;·cases q:H l with|none=>rfl|some o=>have:=B l o (s _ _ q) P;rw[w]at this;cases this
     ·have wt:Rb (Av H3 l (.lst (List.replicate (n:Int).toNat [V.ref t]).flatten)) t (46,p):=O _ _ (B _ _ (by rw[Ac a4,Aa];rfl) a3);generalize Av H3 l (.lst (List.replicate (n:Int).toNat [V.ref t]).flatten)=Hf at wt;clear S k n1 n2 w O er;induction n with|zero=>exact .nil|succ n ih=>exact .cons wt ih
  ·refine B9 ?_ (D fun u' z=>?_);·show(isDigit u&&!BK b p)=false;cases h1:isDigit u with|false=>rfl|true=>cases h2:BK b p with|true=>rfl|false=>exact absurd ⟨h1,h2⟩ hd
   ·rw[f]at z;cases z;cases h1:isDigit u with|false=>exact .inl rfl|true=>cases h2:BK b p with|true=>exact .inr rfl|false=>exact absurd ⟨h1,h2⟩ hd
theorem Yj{b:Bytes}{q:Nat}(h:p<=q)(e:AI b q=false):AI b p=false:=by unfold AI at*;rw[yY]at*;exact fun z=>e ((List.take_sublist_take_left h).subset z)
structure Wr(b:Bytes)(p:Nat)(ws:List (Nat×Nat)):Prop where
 sign:∀q∈ws,q.1=46\/q.1=104\/q.1=109\/q.1=75
 one:(ws.map (·.1)).count 75<=1
 no:AI b p=false->(ws.map (·.1)).count 75=0
theorem Wr.on{b:Bytes}{a:Nat}{d:List (Nat×Nat)}{z:List (Nat×Nat)×Cur}(h:Wr b p d)(k:HM.dn b p a z):Wr b z.2.at_ (d++z.1):=by
 have l:=h.one;have e:((d++z.1).map (·.1)).count 75=(d.map (·.1)).count 75+(z.1.map (·.1)).count 75:=by rw[zu,wN]
 obtain⟨j,i,g⟩:=k.king;refine⟨fun q c=>?_,?_,fun f=>?_⟩
 ·rcases zD.mp c with c|c;·exact h.sign q c
  ·exact k.sign q c
 ·rw[e];by_cases z1:(z.1.map (·.1)).count 75=1;·have:=h.no (i z1).1;lia
  ·lia
 ·rw[e,(g f).1,h.no (g f).2]
theorem Wr.mono{b:Bytes}{q:Nat}{a:List (Nat×Nat)}(h:Wr b p a)(c:p<=q):Wr b q a:=⟨h.sign,h.one,fun z=>h.no (Yj c z)⟩
abbrev RR(w h:Nat)(b:Bytes):Except Nat (List (Piece×Nat×Nat)×Nat×Cur):=readRows w 1024 w (h-1) false false [] ⟨b,0⟩
inductive P_(C CA:Addr):_|mk(a:Addr)(x:Str)(b:Bytes)(w h:Nat):vs=[.ref a,.int (w:Nat),.int (h:Nat)]->Cy C H a x 0->Tx x b->1<=w->w<=13->1<=h->h<=13->(∀e,RR w h b= .error e->FO a CA e H E)->(∀H' l ts ws p f,Cy C H' a x p->p<=b.length->DA a H H'->H l=none->l≠a->H' l=some (.lst (ts.map V.ref))->Paired (Rb H') ts ws->ws.length=w*h->Wr b p ws->RR w h b=readRows w (f+1) 0 0 (BK b p) (AI b p) (Jv w h 0 ws) ⟨b.drop p,p⟩->Q (.ref l) H')->P_ C CA vs H Q E
structure Bs(C:Addr)(H0:Hp)(a l:Addr)(x:Str)(b:Bytes)(ws:List (Nat×Nat))(p:Nat)(H:Hp):Prop where
 rd:Cy C H a x p
 le:p<=b.length
 but:DA a H0 H
 wr:Wr b p ws
 lst:∃ts,H l=some (.lst (ts.map V.ref))/\Paired (Rb H) ts ws
theorem Bs.on{g:Hp}{l:Addr}{b:Bytes}{d:List (Nat×Nat)}{q:Nat}(S:Bs C g a l x b d p H)(k:l≠a)(i:Cy C H' a x q)(m:q<=b.length)(j:p<=q)(c:DA a H H'):Bs C g a l x b d q H':=by obtain⟨h,r,o⟩:=S.lst;obtain⟨s,n⟩:=S.rd;refine⟨i,m,S.but.trans c,S.wr.mono j,h,c _ _ r k,Am (fun t z e=>c _ _ e fun q=>?_) o⟩;have f:H t=some _:=e;rw[q,n]at f;cases f
abbrev v7:List Str:=["reader","wide","high","written","row"]
theorem js:Ah v7 ["reader","wide","high"] (Ad ae):={}
theorem Zj:Wd "/" [47]:=⟨∎,∎⟩
theorem Y0(A:AY):mN 5 "read_board" ["reader","wide","high"] (P_ aR aA):=by
 refine A.QO.has fun F=>F.Jw js fun H Q E hr h hx=>?_;obtain⟨a,x,b,W,N,rfl,⟨dx,ha⟩,tx,w1,X,n1,a3,kE,k⟩:=h;exists%[An (i:=3) js.nd (AF Ce),BC Bt rfl (ES (by rfl) A.GK (#v[pv 2])) (Aw (i:=4) js.nd) (%[AM (Ao be (pv 4) Ae) (Ag (A2 (AH (Cn A) (pv 0) A.rt.cl hr hx.passes (#v[Ai])))) Au|CV Bt (Ao FC (AO AV A.D6 y8 (#v[pv 3])) (AA Ec (pv 1) (AA Cf (pv 4) Ae))) (Ag (A2 (B5 zK xN wA GP (pv 3) (#v[Ay (cj A) hr rfl hx.passes (#v[pv 0,AA Eb (AA Ec (pv 1) (AA Cf (pv 4) Ae)) (AO AV A.D6 y8 (#v[pv 3]))])]))))]) |Aj (pv 3)];refine⟨zx _,fun l T=>?_⟩;have r:l≠a:=(Ab ha T).symm;have b2:W*N<=169:=uw X a3;refine Ax ?_;cbv;exists _,rfl,(N:Nat),rfl,∅,∅;rw[wO];refine GY (fun i B H'=>E4 fun Z c p f=>A5 (B=[some (.ref a),some (.int (W:Nat)),some (.int (N:Nat)),some (.ref l),Z]) (Bs aR H a l x b c p H') (c.length=W*i) (1024<=f+c.length+i) (RR W N b=readRows W f (if i=0 then W else 0) (N-1-(i-1)) (BK b p) (AI b p) (Jv W N 0 c) ⟨b.drop p,p⟩)) ⟨none,[],0,1024,rfl,⟨⟨dx,by rw[Ac (zN r)];exact ha⟩,zx _,fun b' o e Y=>by rw[Ac (Ab e T)];exact e,⟨fun q hq=>(by cases hq),zx _,fun Y=>rfl⟩,[],Aa,.nil⟩,rfl,by simp,rfl⟩ ?_ ?_
 ·rintro i B H' hi ⟨Z,c,p,f,rfl,S,hn,U,e⟩;refine Ax ?_;cbv;have ei:(0:Int)+(i:Int)=(i:Int):=∅;rw[ei];refine EK (fun j P=>E2 fun p f=>A4 (j=[some (.ref a),some (.int (W:Nat)),some (.int (N:Nat)),some (.ref l),some (.int (i:Nat))]) (Bs aR H a l x b c p P) (1024<=f+c.length+(i+1)) (RR W N b=readRows W f W (N-1-i) (BK b p) (AI b p) (Jv W N 0 c) ⟨b.drop p,p⟩)) ?_ ?_
  ·rintro j P ⟨p,f,rfl,S,U,e⟩;exists fun m B O=>E3 fun c p f=>A6 (B=[some (.ref a),some (.int (W:Nat)),some (.int (N:Nat)),some (.ref l),some (.int (i:Nat))]) (Bs aR H a l x b c p O) (c.length+m=W*(i+1)) (m<=W) (1024<=f+c.length+(i+1)) (RR W N b=readRows W f m (N-1-i) (BK b p) (AI b p) (Jv W N 0 c) ⟨b.drop p,p⟩),⟨W,c,p,f,rfl,S,by rw[hn,xR],ze _,U,e⟩;rintro m B O ⟨c,p,f,rfl,S,hm,b0,U,e⟩;obtain⟨D,s,G⟩:=S.lst;have el:=zE G;have b1:W*(i+1)<=W*N:=wy _ hi;have eW:(W:Int)*((i:Int)+1)=((W*(i+1):Nat):Int):=by rw[tK];rfl
   exists _,rfl,l,_,rfl,.inl (AJ.of s),_,rfl,_,rfl,_,_,rfl,rfl,_,_,rfl,rfl,.inl ⟨∅,∅⟩,_,_,rfl,rfl,_,rfl;cbv;rw[eW,z3];by_cases m0:m=0;·subst m0;refine B9 (zo ∅) ⟨_,c,p,f,rfl,S,∅,∅,?_⟩;rw[zb ∅];exact e
   ·refine BJ (zj ∅) ⟨fun j v=>∃R,R<m/\E3 fun c p f=>A6 (j=[some (.ref a),some (.int (W:Nat)),some (.int (N:Nat)),some (.ref l),some (.int (i:Nat))]) (Bs aR H a l x b c p v) (c.length+R=W*(i+1)) (R<=W) (1024<=f+c.length+(i+1)) (RR W N b=readRows W f R (N-1-i) (BK b p) (AI b p) (Jv W N 0 c) ⟨b.drop p,p⟩),fun j v z=>z,?_⟩;obtain⟨f,rfl⟩:∃g,f=g+1:=⟨f-1,∅⟩;have d1:c.length/W=i:=by rw[show c.length=W*i+(W-m) by rw[xR]at hm;lia,uj ∅,v_ ∅];rfl
    have d2:c.length%W=W-m:=by rw[show c.length=W*i+(W-m) by rw[xR]at hm;lia,ui,xn ∅]
    rw[HM.XE (h:=N) (o:=c.length) ∅ (by rw[d1]) d2]at e;have em:(W:Int)*((i:Int)+1)-(((D.map V.ref).length:Nat):Int)=(m:Int):=by rw[eW,z3];lia
    exists _,rfl,.inl ⟨rfl,_,AJ.of s⟩,_,rfl,_,rfl,_,rfl,_,_,rfl,rfl,_,_,rfl,rfl,.inl ⟨∅,∅⟩,_,rfl,l,_,rfl,.inl (AJ.of s),_,_,rfl,rfl,a,x,b,p,m,?_,S.rd,tx,S.le,∅,∅;·rw[em];rfl
    ·cases u:CQ m (BK b p) (AI b p) ⟨b.drop p,p⟩with
     |error e1=>rw[u]at e;have:=kE _ e;exact fun v d e2 bt=>this v d e2 (S.but.trans bt)
     |ok z=>
      rw[u]at e;have M:=HM.X5 ∅ u;have z1:=M.pb;have z2:=M.pa;intro v l4 t4 a1 w n4 a9 a4 p4;have e4:=zE p4;obtain⟨a7,a5⟩:=a1;have I:=w _ _ s r;exists l,l4,_,_,rfl,rfl,I,a4,?_;·rw[z3,z3];have:(1000:Nat)<=sizeLine:=⋯;lia
      ·have keep:∀t y,Rb v t y->Rb (Av v l (.lst (D.map V.ref++t4.map V.ref))) t y:=fun t y C=>by
        unfold Rb;rw[Ac];·exact C
        ·intro q;have n:v t=some _:=C;rw[q,I]at n;cases n
       obtain⟨b3,a6⟩:=S.rd;refine⟨m-z.1.length,∅,c++z.1,z.2.at_,f,rfl,⟨⟨a7,by rw[Ac (zN r)];exact a5⟩,M.le,fun b' o e ne=>?_,S.wr.on M,D++t4,by rw[Aa,zu],?_⟩,by rw[zd];lia,∅,by rw[zd];lia,?_⟩;·rw[Ac (Ab e T)];exact w b' o (S.but b' o e ne) ne
       ·refine BV (Am (fun t y C=>keep t y (w _ _ C fun q=>?_)) G) (Am keep p4);have n:O t=some _:=C;rw[q,a6]at n;cases n
       ·rw[e];show readRows W f (m-z.1.length) (N-1-i) (BK b z.2.at_) (AI b z.2.at_) (Jv W N 0 c++Jv W N c.length z.1) z.2=_;rw[HM.WE,xQ];congr 1;rw[<-M.rest]
  ·intro J;refine CU (DG ⟨_,rfl,_,_,rfl,rfl,_,rfl,?_⟩);by_cases h0:i=0;·subst h0;refine B9 ⋯ (J _ _ ⟨p,f,rfl,S,∅,?_⟩);exact e
   ·refine BJ (by rw[zq];lia) ?_;obtain⟨L,K⟩:=S.rd;rw[zb h0]at e;obtain⟨f,rfl⟩:∃g,f=g+1:=⟨f-1,by have:W*i<=W*N:=wy _ ∅;lia⟩;rw[HM.XF ∅]at e;exists _,rfl,a,L,_,rfl,K,C5 _ _,a,x,_,b,[47],p,rfl,⟨L,K⟩,tx,Zj,by simp,(by show 1<=1000;decide);rw[JS]at e|-;by_cases u:shl [47] (b.drop p)=[(47:UInt8)].length
    ·rw[zc u]at e|-;intro H2 a2 a0 a8;have hp:p<b.length:=by
      by_cases z:p<b.length;·exact z
      ·rw[yN ∅]at u;cases u
     refine J _ _ ⟨p+1,f,rfl,S.on r a2 ∅ ∅ a8,∅,?_⟩;rw[e];show readRows W f W (N-1-(i-1)-1) (BK b (p+1)) (AI b (p+1)) (Jv W N 0 c) ⟨(b.drop p).drop 1,p+1⟩=_;rw[xr,show N-1-(i-1)-1=N-1-i by lia]
    ·rw[zb u]at e|-;have:=kE _ e;exact fun O d e1 bt=>this O d e1 (S.but.trans bt)
 ·rintro B H' ⟨Z,c,p,f,rfl,S,hn,U,e⟩;rw[zb ∅,show N-1-(N-1)=0 by lia]at e;obtain⟨f,rfl⟩:∃g,f=g+1:=⟨f-1,∅⟩;obtain⟨D,h1,h2⟩:=S.lst;exact⟨_,rfl,k H' l D c p f S.rd S.le S.but T r h1 h2 hn S.wr e⟩
theorem JJ(w h:Nat):∀(a:List (Nat×Nat))(o:Nat),Jv w h o a=(List.range a.length).flatMap fun i=>fo w h (o+i) (a.getD i (0,0)) |[],o=>rfl|z::a,o=>by rw[Jv,JJ w h a (o+1),zm,wJ,xa,List.flatMap_map];congr 1;congr 1;funext i;show fo w h (o+1+i) (a.getD i (0,0))=fo w h (o+(i+1)) ((z::a).getD (i+1) (0,0));rw[show o+1+i=o+(i+1) by lia];rfl
theorem Wm{a b:Type}(q:a->Bool)(g:a->b):∀xs:List a,(xs.findSome? fun o=>if q o=true then some (g o)else none)=(xs.find? q).map g|[]=>rfl|x::xs=>by rw[wz,yn];cases h:q x with|true=>rfl|false=>exact Wm q g xs
def Uo(w h o:Nat):Nat:=13*(h-1-o/w)+o%w
section
variable{w h:Nat}{ys:List Nat}
theorem QT(g:1<=w)(a:w<=13)(f:h<=13){o:Nat}(b:o<w*h):Uo w h o<169/\Uo w h o%13<w/\Uo w h o/13<h:=by have e:o/w<h:=(yw ∅).mpr (by rw[yh];exact b);have c:o%w<w:=wV _ ∅;unfold Uo;generalize o/w=d at e|-;generalize o%w=m at c|-;lia
theorem da:(A1 ys w h 46 (w*h)).length=169:=by unfold A1;simp
theorem iv(a:c<169):(A1 ys w h 46 (w*h)).getD c 0=if c%13<w/\c/13<h/\(h-1-c/13)*w+c%13<w*h then ys.getD ((h-1-c/13)*w+c%13) 46 else 46:=by unfold A1;rw[z5,z7,xh a];rfl
theorem VI(f:1<=w)(a:w<=13)(d:h<=13){o:Nat}(b:o<w*h):(A1 ys w h 46 (w*h)).getD (Uo w h o) 0=ys.getD o 46:=by have e:=(HR (c:=Uo w h o) f a b).mpr rfl;rw[iv (QT f a d b).1,zc ⟨e.1,e.2.1,by rw[e.2.2];exact b⟩,e.2.2]
theorem PH(d:1<=w)(b:w<=13)(e:c<169)(a:(A1 ys w h 46 (w*h)).getD c 0≠46):∃o,o<w*h/\c=Uo w h o/\(A1 ys w h 46 (w*h)).getD c 0=ys.getD o 46:=by
 rw[iv e]at a|-;split at a;·rename_i q;rw[zc q];exact⟨_,q.2.2,(HR d b q.2.2).mp ⟨q.1,q.2.1,rfl⟩,rfl⟩
 ·exact absurd rfl a
end
section
variable{r:Rules}{b:Bytes}{p:Nat}{ws:List (Nat×Nat)}
abbrev VJ(r:Rules)(a:List (Nat×Nat)):List Nat:=A1 (a.map (·.1)) r.wide r.high 46 (r.wide*r.high)
theorem Oi{o:Nat}{d:Nat×Nat}(a:d.1=46\/o<ws.length):(ws.map (·.1)).getD o 46=(ws.getD o d).1:=by
 rw[z5,z5,z7];cases e:ws[o]? with
 |some z=>rfl
 |none=>
  rcases a with z|z;·exact z.symm
  ·rw[z4 z]at e;cases e
theorem sign_of(W:Wr b p ws){o:Nat}(a:o<ws.length):(ws.getD o (0,0)).1=46\/(ws.getD o (0,0)).1=104\/(ws.getD o (0,0)).1=109\/(ws.getD o (0,0)).1=75:=by refine W.sign _ ?_;rw[z5,z4 a];exact wo a
theorem YL{l:List Nat}(h:l.count c<=1){j:Nat}(a:l[i]?=some c)(b:l[j]?=some c):i=j:=by
 induction l generalizing i j with
 |nil=>cases a
 |cons x l d=>
  rw[ur]at h;cases i with
  |zero=>cases j with|zero=>rfl|succ j=>exfalso;have e:x=c:=zt a;have m:c∈l:=zf ‹b›;have:=vk.mpr m;rw[e]at h;simp at h;lia
  |succ i=>cases j with|zero=>exfalso;have e:x=c:=zt b;have m:c∈l:=zf ‹a›;have:=vk.mpr m;rw[e]at h;simp at h;lia|succ j=>have:=d (i:=i) (j:=j) ∅ ‹a› ‹b›;lia
theorem N4(Z:B1 r)(v:ws.length=r.wide*r.high)(W:Wr b p ws):A_ (VJ r ws):=by
 have u:=Z.w5;refine⟨da,fun c h=>?_,fun c d h q n m=>?_⟩
 ·by_cases hne:(VJ r ws).getD c 0=46;·exact .inl hne
  ·obtain⟨o,g,Y,e⟩:=PH ∅ Z.KU h hne;rw[e,Oi (d:=(0,0)) (.inr ∅)];exact sign_of W ∅
 ·obtain⟨o,g,t,s⟩:=PH ∅ Z.KU h (by rw[n];decide);obtain⟨k,f,j,i⟩:=PH ∅ Z.KU q (by rw[m];decide);have a:∀o,o<r.wide*r.high->(ws.map (·.1)).getD o 46=75->(ws.map (·.1))[o]?=some 75:=fun o g e=>by
   have l:o<(ws.map (·.1)).length:=by rw[z3];lia
   rw[z5,z4 l]at e;rw[z4 l];exact zT some e
  have:o=k:=YL W.one (a o g (by rw[<-s];exact n)) (a k f (by rw[<-i];exact m));rw[t,j,this]
theorem WM{s:Nat}(a:s=104\/s=109\/s=75)(c:Nat):mayStand (D5 s) (r.kindAt c)=WL r s c:=by unfold WL;generalize r.kindAt c=k;rcases a with rfl|rfl|rfl<;>cases k<;>decide
theorem Kn(o:Nat):Fd r o=Uo r.wide r.high o:=rfl
theorem jJ(Z:B1 r)(g:ws.length=r.wide*r.high)(W:Wr b p ws){o:Nat}(c:o<r.wide*r.high):(fo r.wide r.high o (ws.getD o (0,0))).find? (fun x=>!mayStand x.1 (r.kindAt x.2.1))=if MP r (VJ r ws) o=true then some (D5 (ws.getD o (0,0)).1,Uo r.wide r.high o,(ws.getD o (0,0)).2)else none:=by
 have f:=Z.w5;have e:(VJ r ws).getD (Fd r o) 0=(ws.getD o (0,0)).1:=by rw[Kn,VI ∅ Z.KU Z.Vv c,Oi (d:=(0,0)) (.inr ∅)]
 unfold MP;rw[e];unfold fo;have a:=sign_of W (o:=o) ∅;generalize ws.getD o (0,0)=z at a e|-;by_cases h46:z.1=46;·rw[zc h46,zj h46];rfl
 ·rw[zb h46,zo h46,yn];rw[WM (a.resolve_left h46)];show(match !WL r z.1 (Uo r.wide r.high o)with|true=>_|false=>_)=_;rw[Kn];cases WL r z.1 (Uo r.wide r.high o)<;>rfl
theorem cD(Z:B1 r)(d:ws.length=r.wide*r.high)(W:Wr b p ws):(Jv r.wide r.high 0 ws).find? (fun x=>!mayStand x.1 (r.kindAt x.2.1))=((List.range (r.wide*r.high)).find? (MP r (VJ r ws))).map fun o=>(D5 (ws.getD o (0,0)).1,Uo r.wide r.high o,(ws.getD o (0,0)).2):=by
 rw[JJ,List.find?_flatMap,<-Wm,d];have c:∀xs:List Nat,(∀o∈xs,o<r.wide*r.high)->(xs.findSome? fun i=>(fo r.wide r.high (0+i) (ws.getD i (0,0))).find? (fun x=>!mayStand x.1 (r.kindAt x.2.1)))=xs.findSome? fun o=>if MP r (VJ r ws) o=true then some (D5 (ws.getD o (0,0)).1,Uo r.wide r.high o,(ws.getD o (0,0)).2)else none:=by intro xs;induction xs with|nil=>intro Y;rfl|cons o xs e=>intro h;rw[wz,wz,e fun o a=>h o (zg _ a),xQ,jJ Z d W (h o zh)]
 exact c _ fun o a=>zC.mp a
theorem L9(c:ws.length=r.wide*r.high){x:Piece×Nat×Nat}:x∈Jv r.wide r.high 0 ws↔∃o,o<r.wide*r.high/\(ws.getD o (0,0)).1≠46/\x=(D5 (ws.getD o (0,0)).1,Uo r.wide r.high o,(ws.getD o (0,0)).2):=by
 rw[JJ,yH,c];constructor
 ·rintro⟨o,b,a⟩;rw[xQ]at a;unfold fo at a;split at a;·cases a
  ·rename_i q;exact⟨o,zC.mp b,q,zB.mp a⟩
 ·rintro⟨o,b,q,rfl⟩;exists o,zC.mpr b;rw[xQ];unfold fo;rw[zb q];exact zB.mpr rfl
theorem Pf(Z:B1 r)(i:ws.length=r.wide*r.high)(W:Wr b p ws){s:Nat}{k:Piece}(h:s=104\/s=109)(j:D5 s=k)(c:Nat):c∈(Jv r.wide r.high 0 ws).filterMap (fun x=>if x.1=k then some x.2.1 else none)↔c<169/\(VJ r ws).getD c 0=s:=by
 have v:=Z.w5;rw[yA];constructor
 ·rintro⟨x,m,e⟩;obtain⟨o,g,q,rfl⟩:=(L9 i).mp m;split at e;·rename_i f;have l:Uo r.wide r.high o=c:=zt e;refine⟨by rw[<-l];exact(QT ∅ Z.KU Z.Vv g).1,?_⟩;rw[<-l,VI ∅ Z.KU Z.Vv g,Oi (d:=(0,0)) (.inr ∅)];replace f:D5 (ws.getD o (0,0)).1=k:=f;have a:=sign_of W (o:=o) ∅;generalize(ws.getD o (0,0)).1=z at f a q|-;rw[<-j]at f;rcases a with rfl|rfl|rfl|rfl<;>rcases h with rfl|rfl<;>first|rfl|exact absurd rfl q|exact absurd f ⋯
  ·cases e
 ·rintro⟨n,e⟩;obtain⟨o,g,u,t⟩:=PH ∅ Z.KU n (by rw[e];rcases h with rfl|rfl<;>decide);rw[t,Oi (d:=(0,0)) (.inr ∅)]at e;exists _,(L9 i).mpr ⟨o,g,by rw[e];rcases h with rfl|rfl<;>decide,rfl⟩;rw[e,zc j,u]
theorem jB(Z:B1 r)(g:ws.length=r.wide*r.high)(W:Wr b p ws)(a:Nat):(⟨setFrom ((Jv r.wide r.high 0 ws).filterMap fun(x:Piece×Nat×Nat)=>if x.1= .hunter then some x.2.1 else none),setFrom ((Jv r.wide r.high 0 ws).filterMap fun(x:Piece×Nat×Nat)=>if x.1= .man then some x.2.1 else none),(((Jv r.wide r.high 0 ws).find? fun(x:Piece×Nat×Nat)=>x.1== .king).map fun(x:Piece×Nat×Nat)=>x.2.1).getD TAKEN,a⟩:Tafl.Pos)=Aq (VJ r ws) a:=by
 have n:=Z.w5;have B:=N4 Z g W;refine HM.FZ B (fun c=>?_) (fun c=>?_) ?_ rfl;·cbv;rw[BD,y3];exact Pf Z g W (.inl rfl) rfl c
 ·cbv;rw[BD,y3];exact Pf Z g W (.inr rfl) rfl c
 ·cbv;cases e:(Jv r.wide r.high 0 ws).find? (fun x=>x.1== .king)with
  |some x=>
   have k:=tU e;have h:=qm e;obtain⟨o,i,q,rfl⟩:=(L9 g).mp k;show Uo r.wide r.high o=_;symm;rw[B.Bh (QT ∅ Z.KU Z.Vv i).1,VI ∅ Z.KU Z.Vv i,Oi (d:=(0,0)) (.inr ∅)];replace h:(D5 (ws.getD o (0,0)).1==Piece.king)=true:=h;have f:=sign_of W (o:=o) ∅;generalize(ws.getD o (0,0)).1=z at h f q|-;rcases f with rfl|rfl|rfl|rfl;·exact absurd rfl q
   ·exact absurd h ⋯
   ·exact absurd h ⋯
   ·rfl
  |none=>symm;rw[ug,uZ,B.CI];intro c l j;obtain⟨o,i,s,m⟩:=PH ∅ Z.KU l (by rw[j];decide);rw[m,Oi (d:=(0,0)) (.inr ∅)]at j;have:=xS.mp e _ ((L9 g).mpr ⟨o,i,by rw[j];decide,rfl⟩);rw[j]at this;exact this rfl
theorem c_(Z:B1 r)(l:ws.length=r.wide*r.high)(W:Wr b p ws)(f:(List.range (r.wide*r.high)).find? (MP r (VJ r ws))=none):Right r (VJ r ws):=by have q:=Z.w5;intro c i a;obtain⟨o,g,j,t⟩:=PH ∅ Z.KU i a;obtain⟨s,n,m⟩:=QT (h:=r.high) ∅ Z.KU Z.Vv g;have d:=xS.mp f o (zC.mpr g);rw[y4]at d;unfold MP at d;rw[Kn,<-j,zo a]at d;have e:WL r ((VJ r ws).getD c 0) c=true:=‹d›;have k:=(N4 Z l W).sign c i;refine⟨BI.mpr (by rw[j];exact⟨n,m⟩),?_⟩;rw[WM (k.resolve_left a)];exact e
end
def Cc(b:Bytes):Str:=Ak (b.map UInt8.toNat)
def JM(n:Nat):Bytes:=if n=0 then[]else digitsOf n
inductive O2:_|mk(n:Nat):vs=[.int n]->n<=13->Q (.str (Cc (JM n))) H->O2 vs H Q E
inductive O1:_|mk(b:List Nat):vs=[.str (Ak b)]->b.length<=13->(∀c∈b,c=46\/c=104\/c=109\/c=75)->Q (.str (Cc (rowLine 0 (b.map D5)))) H->O1 vs H Q E
theorem cQ:∀n:Nat,n<=13->n≠0->(toString ((n:Nat):Int):Str)=Cc (digitsOf n):=∎
theorem SV:bootBuiltins "str"=some (.type "str"):=∎
theorem IQ:∀n:Nat,n<=13->(JM n).length<=2:=∎
theorem LV(a b:Bytes):Cc a++Cc b=Cc (a++b):=by
 have e:(Cc a++Cc b).cps.toList=(a++b).map UInt8.toNat:=by have h:(Cc a++Cc b).cps=(Cc a).cps++(Cc b).cps:=rfl;rw[h];simp[Cc,Ak]
 exact Dx e
theorem DY(a:Bytes):(Cc a).length=a.length:=by unfold Cc;rw[B4,z3]
theorem o6:Ah ["empty"] ["empty"] (Ad RL):={}
theorem KI(b:AY):FK 1 "number_text" ["empty"] O2:=by
 refine b.NZ.has fun F=>F.ok o6 fun H Q E c h=>?_;obtain⟨n,rfl,a,k⟩:=h;exists Ag (Aj (D4 (Ao be (pv 0) Ae) (JI QU (by rfl) b.m5 SV (#v[pv 0])) Ai));exists _,rfl,_,_,rfl,rfl,_,rfl;unfold JM at k;by_cases h0:n=0;·subst h0;rw[zc rfl]at k;exact B9 ⋯ k
 ·rw[zb h0]at k;refine BJ (zj ∅) ⟨_,rfl,_,rfl,?_,?_⟩;·have:∀m:Nat,m<=13->((m:Nat):Int).natAbs.log2<1920:=∎;exact this n a
  ·rw[cQ n a h0];exact k
abbrev tu:List Str:=["cells","text","empty","piece"]
theorem UA:Ah tu ["cells"] (Ad RJ):={}
theorem Tb(u:AY):FK 2 "row_text" ["cells"] O1:=by
 refine u.V8.has fun F=>F.ok UA fun H Q E v h=>?_;obtain⟨b,rfl,C,z,k⟩:=h;exists%[An (i:=1) UA.nd Ai,An (i:=2) UA.nd Ae,BC y0 rfl (UR (pv 0)) (Aw (i:=3) UA.nd) (Ag (AM (Ao AZ (pv 3) Ai) (Ag (Qm (i:=2) UA.nd Ae Vl)) (%[Qm (i:=1) UA.nd (AA Ee (Ay (KI u) v rfl Ar (#v[pv 2])) (pv 3)) SO|An (i:=2) UA.nd Ae]))) |Aj (AA Ee (pv 1) (Ay (KI u) v rfl Ar (#v[pv 2])))];generalize m:rowLine 0 (b.map D5)=f at k;refine⟨_,rfl,Ak b,rfl,WZ (fun i o H'=>E3 fun(p:Option V) (a:Bytes) (n:Nat)=>A5 (o=[some (.str (Ak b)),some (.str (Cc a)),some (.int (n:Nat)),p]) (H'=H) (n<=i) (a.length<=3*i) (f=a++rowLine n ((b.drop i).map D5))) ⟨none,[],0,rfl,rfl,ze _,ze _,by rw[<-m];rfl⟩ ?_ ?_⟩
 ·rintro i c o H' B ⟨p,a,n,rfl,rfl,w,g,d⟩;have l:b[i]?=some c:=by simpa[Ak]using B
  obtain⟨r,s⟩:=z8.mp l;rw[yf r,s,zH,rowLine]at d;exists _,rfl,rfl,_,rfl;by_cases h46:c=46;·subst h46;rw[zc (show D5 46=Piece.none from rfl)]at d;exact BJ (X9 (n:=46) rfl) ⟨_,rfl,_,_,rfl,rfl,_,a,n+1,rfl,rfl,∅,∅,d⟩
  ·have j:=z c (zf l);have A:¬D5 c=Piece.none:=by rcases j with h|h|h|h<;>subst h<;>first|exact absurd rfl h46|decide
   have e:(pieceByte (D5 c)).toNat=c:=by rcases j with h|h|h|h<;>subst h<;>first|exact absurd rfl h46|rfl
   rw[zb A]at d;refine B9 (XA (n:=46) h46) ?_;have q:=IQ n ∅;have y:=DY (JM n);have x:Cc (JM n)++(⟨#[c]⟩:Str)=Cc (JM n++[pieceByte (D5 c)]):=by rw[<-LV];congr 1;unfold Cc;rw[List.map_singleton,e];rfl
   exists _,rfl,_,rfl,n,rfl,∅,_,rfl,_,_,rfl,rfl,?_,_,_,rfl,rfl,?_;·rw[y];show(JM n).length+1<=sizeLine;have:=BO;lia
   ·rw[x,DY,DY,zd];show a.length+((JM n).length+1)<=sizeLine;have:=BO;lia
   ·exists some (.str ⟨#[c]⟩),a++(JM n++[pieceByte (D5 c)]),0,?_,rfl,zx _,?_;·rw[x,LV];rfl
    ·rw[zd,zd];show a.length+((JM n).length+1)<=3*(i+1);lia
    ·rw[d,zX,zX];rfl
 ·rintro o H' ⟨p,a,n,rfl,rfl,w,g,d⟩;have t:(Ak b).cps.size=b.length:=by simp[Ak]
  rw[t]at w g d;rw[List.drop_length,wk,rowLine]at d;have q:=IQ n ∅;exists _,rfl,_,rfl,n,rfl,∅,_,_,rfl,rfl,?_;·rw[DY,DY];have:=BO;lia
  ·rw[LV];have:f=a++JM n:=d;rw[<-this];exact k
inductive R9(C:Addr):_|mk(a p:Addr)(r:Rules)(b:List Nat)(s:Nat):vs=[.ref a,.ref p]->Bg C H a r->De H p b s->A_ b->s<=1->(∀H',Ap H H'->Q (.str (Cc (r.line (Aq b s)))) H')->R9 C vs H Q E
theorem Jg{a b:Type}{f g:a->List b}:∀{l:List a},(∀x∈l,f x=g x)->l.flatMap f=l.flatMap g|[],_=>rfl|x::l,h=>by rw[xa,xa,h x zh,Jg fun y c=>h y (zg _ c)]
theorem gy{j:Nat}(f:i<=b.length)(e:j<=b.length):DO (Ak b) (some (i:Int)) (some (j:Int))=Ak ((b.drop i).take (j-i)):=by
 have a:(Ak b).length=b.length:=B4 b;unfold DO;rw[a,Bc];have d:HT.CS b.length 0 (some (i:Int))=i:=by simp only[HT.CS];split<;>lia
 have c:HT.CS b.length b.length (some (j:Int))=j:=by simp only[HT.CS];split<;>lia
 rw[d,c];rfl
theorem jw{r:Rules}(Z:B1 r)(B:A_ b)(s:Nat){y:Nat}(f:y<r.high):((b.drop (13*y)).take r.wide).map D5=r.rowOf (Aq b s) y:=by
 have e:=Z.Vv;have a:=Z.KU;have h:=B.len;unfold Rules.rowOf;apply xJ;·rw[z3,zO,yI,z3,yj];lia
 ·intro x i d;have g:x<r.wide:=‹d›;rw[xp,List.getElem_take,List.getElem_drop,xp,vg];have c:Tafl.cellOf x y=13*y+x:=rfl;rw[c,B.on s ∅,z5,z4 ∅];rfl
theorem Nb(f:Nat->List Nat):∀n,TL.EY [47] ((List.range (n+1)).map f)=(List.range (n+1)).flatMap fun i=>(if i=0 then[]else[47])++f i:=by
 have a:∀(l:List Nat)(x:Nat),TL.EY [47] ((x::l).map f)=f x++l.flatMap fun i=>[47]++f i:=by intro l;induction l with|nil=>intro x;simp[TL.EY] |cons y l b=>intro x;have:=b y;rw[zH]at this;show f x++([47]++TL.EY [47] (f y::l.map f))=_;rw[this,xa,zX]
 intro n;rw[wJ,a,xa];congr 1;apply Jg;intro x c;obtain⟨z,Y,rfl⟩:=zk.mp c;rw[zb (Nat.succ_ne_zero z)]
theorem join_rows(n:Nat)(F:Nat->Bytes):Txt.join ("/":Str) ((List.range (n+1)).map fun i=>Cc (F i))=Ak (((List.range (n+1)).flatMap fun i=>(if i=0 then[]else[47])++F i).map UInt8.toNat):=by refine Dx ?_;rw[TL.join_eq];show TL.tl (Str.join _ _)=_;rw[TL.Es,zG];have a:(List.range (n+1)).map (TL.tl∘fun i=>Cc (F i))=(List.range (n+1)).map fun i=>(F i).map UInt8.toNat:=y6 fun i Y=>Bc _;rw[a,show TL.tl ("/":Str)=[47]from rfl,Nb,rZ];apply Jg;intro i Y;rw[zu];split<;>rfl
theorem M5(F:Nat->Bytes)(h:∀i,(F i).length<=41):∀n,((List.range n).flatMap fun i=>(if i=0 then[]else[(47:UInt8)])++F i).length<=42*n
|0=>ze _
|n+1=>by
 rw[yg,yd,zd,yb,zd];have:=M5 F h n;have:=h n;have:(if n=0 then[]else[(47:UInt8)]).length<=1:=by split<;>simp
 lia
theorem R4(x y:Str):(x++y).length=x.length+y.length:=by show(x.cps++y.cps).size=x.cps.size+y.cps.size;rw[Array.size_append]
theorem fQ{r:Rules}(Z:B1 r){s:Nat}(k:s<=1)(c:Str)(a:c=Ak [if s=0 then 104 else 107]):Txt.join ("/":Str) ((List.range r.high).map fun i=>Cc (rowLine 0 (r.rowOf (Aq b s) (r.high-1-i))))++(" ":Str)++c=Cc (r.line (Aq b s)):=by
 obtain⟨n,d⟩:∃n,r.high=n+1:=⟨r.high-1,by have:=Z.h5;lia⟩;have g:Txt.join ("/":Str) ((List.range r.high).map fun i=>Cc (rowLine 0 (r.rowOf (Aq b s) (r.high-1-i))))=Ak (((List.range r.high).flatMap fun i=>(if i=0 then[]else[47])++rowLine 0 (r.rowOf (Aq b s) (r.high-1-i))).map UInt8.toNat):=by
  refine Dx ?_;rw[TL.join_eq];show TL.tl (Str.join _ _)=_;rw[TL.Es,zG,d];have j:(List.range (n+1)).map (TL.tl∘fun i=>Cc (rowLine 0 (r.rowOf (Aq b s) (n+1-1-i))))=(List.range (n+1)).map fun i=>(rowLine 0 (r.rowOf (Aq b s) (n+1-1-i))).map UInt8.toNat:=by refine y6 fun i Y=>?_;exact Bc _
  rw[j,show TL.tl ("/":Str)=[47]from rfl,Nb,rZ];apply Jg;intro i Y;rw[zu];split<;>rfl
 rw[g];unfold Rules.line Cc;rw[a];refine Dx ?_;have h:∀x y:List Nat,(Ak x++(" ":Str)++Ak y).cps.toList=x++[32]++y:=fun x y=>by have f:(Ak x++(" ":Str)++Ak y).cps=(Ak x).cps++(" ":Str).cps++(Ak y).cps:=rfl;rw[f];have e:(" ":Str).cps=#[32]:=rfl;rw[e];simp[Ak]
 rw[h,zu,zX];congr 1;have:(Aq b s).side=s:=rfl;rw[this];by_cases h0:s=0;·rw[zc h0];simp[h0]
 ·rw[zb h0];simp[h0]
abbrev u0:List Str:=["hall","position","cells","rows","y"]
theorem eJ:Ah u0 ["hall","position"] (Ad Wu):={}
theorem Et:∀(l:List Piece)(n:Nat),n+l.length<=13->(rowLine n l).length<=3*l.length+2
|[],n,h=>by rw[rowLine];have:=IQ n ‹h›;unfold JM at this;simp only[yQ,ud,xQ];exact this
|x::l,n,h=>by
 rw[zm]at h;rw[rowLine];split;·have:=Et l (n+1) ∅;rw[zm];lia
 ·have b:=Et l 0 ∅;have a:=IQ n ∅;unfold JM at a;rw[zd,zm,zm];lia
theorem Vs(d:AY):FK 3 "line_of" ["hall","position"] (R9 aH):=by
 obtain⟨T,hT,W⟩:=d.turns;refine d.YH.has fun F=>F.ok eJ fun H Q E X h=>?_;obtain⟨a,p,r,b,f,rfl,N,K,B,t,k⟩:=h;obtain⟨S,G,bs,M,a0,a3,a2⟩:=N.ex;exists%[An (i:=2) eJ.nd (Az Bf (pv 1) Ae),An (i:=3) eJ.nd (AF Ce),BC y0 rfl (XQ (by rfl) d.GK (#v[AA Eb (Al (pv 0)) Ae,Hr ED Ae,Hr ED Ae])) (Aw (i:=4) eJ.nd) (Ag (A2 (B5 zK zW zY Bz (pv 3) (#v[Ay (Tb d) X rfl Ar (#v[D3 HI (pv 2) (CY (AA Ec (AD (v:= .int 13) rfl (C3 d.Dd) ⟨_,rfl⟩) (pv 4))) (CY (AA Cf (AA Ec (AD (v:= .int 13) rfl (C3 d.Dd) ⟨_,rfl⟩) (pv 4)) (Al (pv 0))))])])))) |Aj (AA Ee (AA Ee (B5 yc xw xt GO Ai (#v[pv 3])) Ai) (Az Bf (AD (v:= .ref T) rfl hT rfl) (Az Bf (pv 1) Ae)))];have Z:=N.Z;have a4:=Z.Vv;have U:=Z.KU;have h5:=Z.h5;have hb:=B.len;let R:Nat->Bytes:=fun j=>rowLine 0 (r.rowOf (Aq b f) (r.high-1-j));have m:∀j,(R j).length<=41:=fun j=>by
  have O:(r.rowOf (Aq b f) (r.high-1-j)).length=r.wide:=by unfold Rules.rowOf;simp
  have:=Et (r.rowOf (Aq b f) (r.high-1-j)) 0 ∅;show(rowLine 0 _).length<=41;lia
 refine⟨_,rfl,p,_,_,V.str (Ak b),rfl,rfl,.of K,rfl,zx _,fun l L=>?_⟩;have D:Ap H (Av H l (.lst [])):=Af L;refine⟨_,rfl,a,aH,S,_,_,rfl,D _ _ M,d.hc.cl,d.hc.Pc,I_ r G,_,_,rfl,rfl,1,rfl,1,rfl,_,_,_,r.high,rfl,?_,Vw (n:=r.high) (fun i x H'=>∃z,A3 (x=[some (.ref a),some (.ref p),some (.str (Ak b)),some (.ref l),z]) (Ap H H') (H' l=some (.lst ((List.range i).map fun j=>V.str (Cc (R j)))))) ⟨none,rfl,D,Aa⟩ ?_ ?_⟩;·have:=nZ.neg (i:=(r.high:Int)-1) (j:= -1) ∅ ∅ ⋯ ⋯;rwa[show((r.high:Int)-1-(-1)).toNat=r.high by lia]at this
 ·rintro i x H' hi ⟨z,rfl,s,g⟩;have P:(fun i j=>i-j) (r.high:Int) 1+((i:Nat):Int)*(-1)=((r.high-1-i:Nat):Int):=by show(r.high:Int)-1+((i:Nat):Int)*(-1)=_;lia
  have I:r.high-1-i<r.high:=∅;generalize A:r.high-1-i=y at I P;have u:DO (Ak b) (some (13*((y:Nat):Int))) (some (13*((y:Nat):Int)+(r.wide:Int)))=Ak ((b.drop (13*y)).take r.wide):=by have:=gy (b:=b) (i:=13*y) (j:=13*y+r.wide) ∅ ∅;rw[show 13*y+r.wide-13*y=r.wide by lia]at this;rw[<-this];congr 2
  exists _,rfl,.inl ⟨rfl,_,AJ.of g⟩,_,rfl,_,rfl,_,_,rfl,rfl,.inl ⟨⋯,⋯⟩,_,rfl,_,rfl,_,_,rfl,rfl,.inl ⟨⋯,⋯⟩,_,rfl,a,aH,S,_,_,rfl,s _ _ M,d.hc.cl,d.hc.Pb,IZ r G,_,_,rfl,rfl,_,rfl,Ak b,rfl,by rw[B4,hb];exact BO,(b.drop (13*y)).take r.wide,?_,?_,?_;·rw[<-u];have e2:((r.high:Int)-1+((i:Nat):Int)*(-1))=((y:Nat):Int):=P;show[V.str (DO (Ak b) (some (13*((r.high:Int)-1+((i:Nat):Int)*(-1)))) (some (13*((r.high:Int)-1+((i:Nat):Int)*(-1))+(r.wide:Int))))]=_;rw[e2]
  ·rw[zO];lia
  ·intro c hc;have hm:c∈b:=List.mem_of_mem_drop (wc hc);obtain⟨j,hj,e⟩:=w_.mp hm;have:=B.sign j ∅;rw[z5,z4 hj,e]at this;exact this
  ·have eR:rowLine 0 (((b.drop (13*y)).take r.wide).map D5)=R i:=by rw[jw Z B f I,<-A]
   rw[eR];exists l,_,_,rfl,rfl,g,?_;·rw[z3,yj];exact zF (show i<169 by lia) BO
   ·exists _,rfl,Bv s L;rw[Aa,yg,zu];rfl
 ·rintro x H' ⟨z,rfl,s,g⟩;have o:∀n,(((List.range n).map fun j=>Cc (R j)).map (·.length)).sum<=41*n:=by
   intro n;induction n with
   |zero=>simp
   |succ n ih=>
    rw[yg,zu,zu,List.sum_append];have:=m n;have O:(((([n]:List Nat).map fun j=>Cc (R j))).map (·.length)).sum=(R n).length:=by simp[DY]
    rw[O];lia
  have J:=o r.high;have a1:(Txt.join ("/":Str) ((List.range r.high).map fun j=>Cc (R j))).length<=41*13+13:=by obtain⟨n,hn⟩:∃n,r.high=n+1:=⟨r.high-1,∅⟩;rw[hn,join_rows n R,B4,z3];have:=M5 R m (n+1);lia
  obtain⟨q,C,w⟩:∃q:Str,([V.str "h",V.str "k"]:List V)[f]?=some (.str q)/\q=Ak [if f=0 then 104 else 107]:=by match f,t with|0,_=>exact⟨"h",rfl,rfl⟩ |1,_=>exact⟨"k",rfl,rfl⟩
  exists rfl,_,rfl,_,l,(List.range r.high).map fun j=>Cc (R j),rfl,rfl,.inl (.of (by rw[g,zG];rfl)),?_;·rw[z3,yj];show _+r.high*1<=_;lia
  ·exists _,_,rfl,rfl,?_,_,rfl,p,_,_,V.int (f:Nat),rfl,rfl,.of (s _ _ K),rfl,T,_,_,V.str q,rfl,rfl,W.sq _,AN C,_,_,rfl,rfl,?_;·show _+1<=sizeLine;have:(600:Nat)<=sizeLine:=⋯;lia
   ·rw[R4,w,B4];show _+1+1<=sizeLine;have:(600:Nat)<=sizeLine:=⋯;lia
   ·have:=fQ (r:=r) Z (b:=b) t q w;have e:Txt.join ("/":Str) ((List.range r.high).map fun j=>Cc (R j))++(" ":Str)++q=Cc (r.line (Aq b f)):=this;rw[e];exact k H' s
inductive Me(C CL:Addr):_|mk(a:Addr)(x:Str)(b:Bytes)(r:Rules):vs=[.ref a,.str x]->Bg C H a r->Tx x b->(match r.readLine b with| .ok p=>∀H' t q,Ap H H'->H t=none->De H' t q.1 q.2->Cv r q->pB q=p->Q (.ref t) H'| .error f=>Ref CL [-5,(f.1:Nat),(f.2:Nat)] H E)->Me C CL vs H Q E
def lx(CA:Addr)(r:Rules)(b:Bytes)(H:Hp):XK:=fun v d c=>v= .ref CA/\∃p a,r.readLine b= .error (1,p)/\d=some a/\c a=some (.xd [("place",.int (p:Nat))])/\Ap H c
theorem eC(v:UInt8):∀l:Bytes,shl [v] l=if l.head?=some v then 1 else 0
|[]=>rfl
|u::l=>by
 show(if v=u then shl [] l+1 else 0)=_;by_cases h:v=u;·rw[zc h,zc (by rw[h];rfl)];rfl
 ·rw[zb h,zb (fun z:(u::l).head?=some v=>h (zt z).symm)]
theorem ey{b:Bytes}{q:Nat}:JA ⟨b.drop q,q⟩=match([[104],[107]]:List Bytes).findIdx? (E8 (b.drop q))with|some i=> .ok (i,⟨b.drop (q+1),q+1⟩) |none=> .error q:=by
 have e:∀v:UInt8,E8 (b.drop q) [v]=decide (b[q]?=some v):=fun v=>by
  unfold E8;rw[eC,tI,y3];by_cases h:b[q]?=some v;·rw[zc h];simp[h]
  ·rw[zb h];simp[h]
 unfold JA;rw[C_,Ef,wF,wF,e,e];by_cases h1:b[q]?=some 104;·rw[zc h1,zj h1];rfl
 ·rw[zb h1,zo h1];by_cases h2:b[q]?=some 107;·rw[zc h2,zj h2];rfl
  ·rw[zb h2,zo h2];rfl
theorem X8{b:Bytes}{q:Nat}(h:([[104],[107]]:List Bytes).findIdx? (E8 (b.drop q))=none):most (([[104],[107]]:List Bytes).map fun a=>shl a (b.drop q))=0:=by
 rw[wx]at h;refine HM.JN _ fun x d=>?_;obtain⟨a,c,rfl⟩:=zk.mp d;have:=h a c;unfold E8 at this;rw[yY]at this;have e:a.length=1:=by
  rcases zw.mp c with rfl|c;·rfl
  ·rw[zB.mp c];rfl
 have:=U5 a (b.drop q);lia
abbrev pQ:List Str:=["hall","line","reader","written","turn","e","cells","piece","place"]
theorem K_:Ah pQ ["hall","line"] (Ad GG):={}
theorem Jc(f:AY):pz 6 "read_line" ["hall","line"] (Me aH aL):=by
 obtain⟨aT,mT,kT⟩:=f.turns;refine f.TN.has fun F=>F.Jw K_ fun H Q E hr h hx=>?_;obtain⟨a,x,b,r,rfl,hA,tx,k⟩:=h;obtain⟨dh,lb,bs,ha,d3,d5,d4⟩:=hA.ex;obtain⟨fF,d7,MF,TF,mF,bF,c5⟩:=id (CB f);have a5:AW 4 _:=hr.mono ⋯;have L:AW 3 _:=hr.mono ⋯;have a6:AW 2 _:=hr.mono ⋯;exists%[An (i:=2) K_.nd (IL (Pq f) a6 rfl f.Tr Ar (#v[pv 1])),UQ (c:=true) (E:=lx aA r b H) (E':=E) (i:=5) (tb:=LU (R0 (Kt (P_ aR aA) [] (lx aA r b H) (Be (Bj 2) (Be (U1 K (Bj 0) "wide") (Be (U1 K (Bj 0) "high") Ca)))) (E7 3)) (LU (Rz (DF aR "take" (J8 aR aA) [] (lx aA r b H) (Bj 2) (Be (tC (.str " ")) Ca))) (LU (gS K (R0 (DF aR "choose" (EI K aR aA) [] (lx aA r b H) (Bj 2) (Be (tC (.ref aT)) Ca)) (E7 4))) (Rz (DF aR "take_end" (G8 aR aA) [] (lx aA r b H) (Bj 2) Ca))))) (ts:=fun a=>PX a aL (Fn K (-5)) E (Be (tC (.int 1)) (Be (VV K (Bj 5) "place") Ca))) ⟨rfl,rfl⟩ K_.nd rfl rfl rfl f.fL (m_ f) (fun pn xe T'=>by exact(%[An (i:=3) K_.nd (Ay (Y0 f) hr rfl T'.passes (#v[pv 2,Al (pv 0),Al (pv 0)])),A2 (AH (Cn f) (pv 2) f.rt.cl a5 T'.passes (#v[Ai])),Ql (An (i:=4) K_.nd (AH (Nj f) (pv 2) f.rt.cl L T'.passes (#v[AD (v:= .ref aT) rfl mT rfl]))) |A2 (AU (KG f) (pv 2) f.rt.cl L T'.passes)])) hx (fun a xe T'=>by exact Ag (OS MF c5 (L.h.mark _) rfl mF bF rfl T' (#v[Ae,Qo (pv 5) rfl]))),An (i:=6) K_.nd (Ay (Ta f) a6 rfl Ar (#v[Ga (g:=cy K 2 (KO (E7 7) (KO (E7 8) gg))) (te:=Bj 7) (own:=[("piece",7),("place",8)]) rfl K_.nd (BM (pv 3)) (Dn (N0:=pQ) (sc0:=Ad GG) rfl rfl ∎) (fun Y Y Y Y Y=>Dj rfl (AS (Aw (i:=7) K_.nd) (AS (Aw (i:=8) K_.nd) Cq))) (fun Y Y Y Y Y=>Ci) (fun Y Y Y Y Y=>pv 7),Al (pv 0),Al (pv 0),Ai])),A2 (Ay (NW f) a5 rfl hx.weak.passes (#v[pv 0,pv 6,Ga (g:=cy K 2 (KO (E7 7) (KO (E7 8) gg))) (te:=Bj 8) (own:=[("piece",7),("place",8)]) rfl K_.nd (BM (pv 3)) (Dn (N0:=pQ) (sc0:=Ad GG) rfl rfl ∎) (fun Y Y Y Y Y=>Dj rfl (AS (Aw (i:=7) K_.nd) (AS (Aw (i:=8) K_.nd) Cq))) (fun Y Y Y Y Y=>Ci) (fun Y Y Y Y Y=>pv 8)])) |Aj (B3 (#v[pv 6,pv 4]))];have Z:=hA.Z;have w5:=Z.w5;have I:=Z.KU;have h5:=Z.h5;have O:=Z.Vv;refine⟨_,rfl,fun e dx ne c8 d2=>?_⟩;have s0:Ap H (Av (Av H dx (.own e)) e (.ins aR dx [])):=fun b' o z=>by rw[Ac (Ab z ne),Ac (Ab z c8)];exact z
 refine⟨H,e,x,rfl,⟨dx,Aa⟩,s0,ne,fun H1 c3 s1=>⟨rfl,?_⟩⟩;have sb:∀{H':Hp},DA e H1 H'->Ap H H':=fun P b' o z=>P b' o (s1 b' o z) (Ab z ne);have n:r.readLine b=match RR r.wide r.high b with| .error p=> .error (1,p) | .ok (l,a2,c)=>if c.rest≠[]then .error (1,c.at_)else match l.find? fun(x:Piece×Nat×Nat)=>!mayStand x.1 (r.kindAt x.2.1)with|some x=> .error (2,x.2.2) |none=> .ok ⟨setFrom (l.filterMap fun(x:Piece×Nat×Nat)=>if x.1= .hunter then some x.2.1 else none),setFrom (l.filterMap fun(x:Piece×Nat×Nat)=>if x.1= .man then some x.2.1 else none),((l.find? fun(x:Piece×Nat×Nat)=>x.1== .king).map fun(x:Piece×Nat×Nat)=>x.2.1).getD TAKEN,a2⟩:=rfl;have b8:∀{H':Hp}{p:Nat},r.readLine b= .error (1,p)->DA e H1 H'->gO aA p H' (lx aA r b H):=fun hl P H' d e1 sm=>⟨rfl,_,d,hl,rfl,e1,(sb P).trans sm⟩;refine Ax ?_;cbv;refine⟨⟨_,rfl,_,rfl,a,aH,dh,_,_,rfl,s1 _ _ ha,f.hc.cl,f.hc.Pb,IZ r lb,_,rfl,a,aH,dh,_,_,rfl,s1 _ _ ha,f.hc.cl,f.hc.Pc,I_ r lb,e,x,b,r.wide,r.high,rfl,c3,tx,∅,I,∅,O,fun p hp H' d e1 P=>?_,?_⟩,?_⟩;·exact⟨rfl,p,d,by rw[n,hp],rfl,e1,sb P⟩
 ·intro H2 l S m p fu c2 d1 b7 nl c6 hl c4 X W w;rw[HM.ak]at w;refine Ax ?_;cbv;obtain⟨b4,N⟩:=c2;exists _,rfl,e,b4,_,rfl,N,C5 _ _,e,x,_,b,[32],p,rfl,⟨b4,N⟩,tx,⟨∎,∎⟩,by simp,(by show 1<=1000;decide);cases hL:lit [32] ⟨b.drop p,p⟩with
  |error p1=>rw[hL]at w;exact fun H' d e1 P=>⟨rfl,p1,d,by rw[n,w];rfl,rfl,e1,sb (b7.trans P)⟩
  |ok c1=>
   rw[hL]at w;replace w:RR r.wide r.high b=(JA c1).bind fun s=> .ok (Jv r.wide r.high 0 m,s.1,s.2):=w;intro H3 c0 u b6;obtain⟨r1,q⟩:=c1;replace u:r1=b.drop q:=u;subst u;obtain⟨b3,M⟩:=c0;have D:=b7.trans b6;intro kh;have c7:e≠aT:=fun z=>by obtain⟨o,Y,Y,hk,Y⟩:=kT;have:=kh aT o hk;rw[<-z,M]at this;cases this
   exists _,rfl,e,b3,_,rfl,M,C5 _ _,e,aT,x,["h","k"],b,[[104],[107]],q,rfl,⟨b3,M⟩,tx,kT.sq _,c7,.cons ⟨∎,∎⟩ (.cons ⟨∎,∎⟩ .nil),⋯,⋯,⋯;rw[ey]at w;cases hS:([[104],[107]]:List Bytes).findIdx? (E8 (b.drop q))with
   |none=>rw[hS]at w;show gO aA (q+most _) H3 _;rw[X8 hS,uf];exact b8 (by rw[n,w];rfl) D
   |some i=>
    rw[hS]at w;replace w:RR r.wide r.high b= .ok (Jv r.wide r.high 0 m,i,⟨b.drop (q+1),q+1⟩):=w;have hi:i<=1:=by rw[yL]at hS;obtain⟨hi,Y⟩:=hS;have:i<2:=hi;lia
    intro H4 a3 b5;have el:(([[104],[107]]:List Bytes).getD i []).length=1:=by match i,hi with|0,_=>rfl|1,_=>rfl
    rw[el]at a3;obtain⟨b2,a7⟩:=a3;have C:=D.trans b5;rw[w]at n;dsimp only at n;refine Ax ?_;cbv;exists _,rfl,e,b2,_,rfl,a7,C5 _ _,e,x,q+1,rfl,⟨b2,a7⟩,tx.line;rw[tx.len];by_cases hend:q+1<b.length;·rw[zc hend];refine b8 ?_ C;rw[n,zc];intro z;have:=zT List.length z;rw[yI]at this;simp at this;lia
    ·rw[zb hend];rw[zb (by rw[yN ∅];exact fun z=>z rfl),cD Z X W]at n;have B:=b6.trans b5;have s4:=sb C;have A:=B _ _ hl c6;have G:Paired (Rb H4) S m:=Am (fun t z R=>B _ _ R fun q=>by have a1:H2 t=some _:=R;rw[q,N]at a1;cases a1) c4;have b1:=zE G;have d6:r.wide*r.high<=169:=uw I O;have b9:(169:Nat)<sizeLine:=⋯;refine⟨_,rfl,l,rfl,⟨_,AJ.of A⟩,fun D1 b0=>?_⟩;refine Dc (xs:=S.map V.ref) (Xn H4 D1 fun i=>((m.take i).map (·.1)).map ZC) (IX b0 rfl) (fun i H' Y q=>AJ.of (q.1 _ _ A)) ?_ ?_
     ·rintro j v H' hj qj;obtain⟨t,U,rfl⟩:∃t,S[j]?=some t/\v= .ref t:=by rw[z7,zy]at hj;obtain⟨c,e,rfl⟩:=hj;exact⟨c,e,rfl⟩
      obtain⟨z,hz,R⟩:=AB G U;exists t,_,rfl,.of (qj.1 _ _ R),rfl,_,_,rfl,_,_,rfl,rfl,rfl;unfold HG;cbv;rw[zc rfl];refine⟨_,rfl,Gp b0 qj ?_ (AR _) ?_⟩;·rw[z3,z3,zO];lia
      ·rw[vy,hz,zu,zu];rfl
     ·rintro H5 J;rw[z3,b1]at J;replace J:Ap H4 H5/\H5 D1=some (.lst ((m.map (·.1)).map ZC)):=⟨J.1,by have:=J.2;dsimp only at this;rw[y1]at this;exact this⟩;have s5:=s4.trans J.1;refine⟨_,rfl,a,aH,dh,_,_,rfl,s5 _ _ ha,f.hc.cl,f.hc.Pb,IZ r lb,_,rfl,a,aH,dh,_,_,rfl,s5 _ _ ha,f.hc.cl,f.hc.Pc,I_ r lb,D1,m.map (·.1),r.wide,r.high,46,rfl,J.2,by rw[z3];exact X,∅,I,∅,O,fun H6 zz s6 c9=>?_⟩;have ez:zz=Ak (VJ r m):=Dx c9;subst ez;refine Ax ?_;cbv;have y:=J.1.trans s6;refine⟨_,rfl,_,rfl,_,rfl,l,rfl,⟨_,AJ.of (y _ _ A)⟩,fun D2 a9=>?_⟩;refine Dc (xs:=S.map V.ref) (Xn H6 D2 fun i=>nV ((m.take i).map (·.2))) (IX a9 rfl) (fun i H' Y q=>AJ.of (q.1 _ _ (y _ _ A))) ?_ ?_
      ·rintro j v H' hj qj;obtain⟨t,U,rfl⟩:∃t,S[j]?=some t/\v= .ref t:=by rw[z7,zy]at hj;obtain⟨c,e,rfl⟩:=hj;exact⟨c,e,rfl⟩
       obtain⟨z,hz,R⟩:=AB G U;exists t,_,rfl,.of (qj.1 _ _ (y _ _ R)),rfl,_,_,rfl,_,_,rfl,rfl,rfl;unfold HG;cbv;rw[zc rfl];refine⟨_,rfl,Gp a9 qj ?_ (AR _) ?_⟩;·unfold nV;rw[z3,z3,zO];lia
       ·unfold nV;rw[vy,hz,zu,zu];rfl
      ·rintro H7 T;rw[z3,b1]at T;replace T:Ap H6 H7/\H7 D2=some (.lst (nV (m.map (·.2)))):=⟨T.1,by have:=T.2;dsimp only at this;rw[y1]at this;exact this⟩;have s7:Ap H H7:=(s4.trans y).trans T.1;refine⟨a,D2,r,VJ r m,m.map (·.2),rfl,hA.same s7,da,T.2,by rw[z3];exact X,?_⟩;rw[n]at k;cases hm:(List.range (r.wide*r.high)).find? (MP r (VJ r m))with
       |some o=>
        rw[hm]at k;replace k:Ref aL [-5,2,(((m.getD o (0,0)).2:Nat):Int)] H E:=k;have eo:(m.map (·.2)).getD o 0=(m.getD o (0,0)).2:=by rw[z5,z5,z7];cases m[o]?<;>rfl
        show Ref aL [-5,2,(((m.map (·.2)).getD o 0:Nat):Int)] H7 E;rw[eo];exact k.same s7
       |none=>rw[hm]at k;replace k:=k;intro H8 s8;refine⟨_,rfl,_,rfl,K2,fun t U=>?_⟩;have s9:=s7.trans s8;exact k _ t (VJ r m,i) (s9.trans (Af U)) (s9.free U) Aa ⟨N4 Z X W,c_ Z X W hm,hi⟩ (jB Z X W i).symm
 ·rintro a0 C1 d H2 ⟨ec,p,d0,hg,rfl,a8,s2⟩ a4;cases ec;exists f.lJ,_,rfl,true,a0,aA,d0,[("place",.int (p:Nat))],_,rfl,Aa,f.pD,?_,xW;·rw[Ac (Ab a8 a4)];exact a8
  ·rw[hg]at k;exact P5 (CB f) k s2 a4
def QI(a:Addr)(p:Nat):List (Str×V):=[("handed",.ref a),("at",.int (p:Nat))]
theorem Kf(a p):(QI a p).lookup ("handed":Str)=some (.ref a):=#v[]
theorem P4(a p):(QI a p).lookup ("at":Str)=some (.int (p:Nat)):=#v[]
theorem gi(a p):(QI a p).lookup ("has_more":Str)=none:=#v[]
theorem Tv(a p):(QI a p).lookup ("take_whole":Str)=none:=#v[]
theorem cE(a p):(QI a p).lookup ("take_row":Str)=none:=#v[]
theorem Xb(a p):(QI a p).lookup ("take_text":Str)=none:=#v[]
theorem cF(a p q):By "at" (V.int (q:Nat)) (QI a p)=QI a q:=#v[]
def Eo(K:Frag)(C:Addr)(H:Hp)(f a:Addr)(ns:List Int)(p:Nat):Prop:=(∃b,H f=some (.ins C b (QI a p)))/\AJ K H a (ns.map V.int)/\f≠a/\ns.length<=30000
inductive Z4(K:Frag)(C:Addr):_|mk(f la ns p:_):vs=[.ref f]->Eo K C H f la ns p->Q (.bl (decide (p<ns.length))) H->Z4 K C vs H Q E
inductive PZ(K:Frag)(C:Addr):_|mk(f la ns p z:_):vs=[.ref f]->Eo K C H f la ns p->ns[p]?=some z->(∀H',Eo K C H' f la ns (p+1)->DA f H H'->Q (.int z) H')->PZ K C vs H Q E
inductive Z3(K:Frag)(C:Addr):_|mk(f la ns p:_)(n:Nat):vs=[.ref f]->Eo K C H f la ns p->ns[p]?=some (n:Int)->p+1+n<=ns.length->(∀H' l,Eo K C H' f la ns (p+1+n)->DA f H H'->H l=none->H' l=some (.lst (((ns.drop (p+1)).take n).map V.int))->Q (.ref l) H')->Z3 K C vs H Q E
inductive U2(K:Frag)(C:Addr):_|mk(f la ns p:_)(b:Bytes):vs=[.ref f]->Eo K C H f la ns p->ns[p]?=some (b.length:Int)->p+1+b.length<=ns.length->((ns.drop (p+1)).take b.length=b.map (fun u=>(u.toNat:Int))/\∀H' x,Eo K C H' f la ns (p+1+b.length)->DA f H H'->Tx x b->Q (.str x) H')->U2 K C vs H Q E
inductive O9:_|mk(l:Addr)(ns:List Int):vs=[.ref l]->H l=some (.lst (ns.map V.int))->ns.length<=30000->(∀H' l',Ap H H'->H l'=none->H' l'=some (.lst (((ns.length:Int)::ns).map V.int))->Q (.ref l') H')->O9 vs H Q E
theorem AJ.but{g:Addr}(e:DA a H H')(n:g≠a)(h:AJ K H g xs):AJ K H' g xs:=by
 rcases h with(h|⟨o,h⟩) |h;·exact .inl (.inl (e _ _ h n))
 ·exact .inl (.inr ⟨o,e _ _ h n⟩)
 ·exact .inr h
theorem cV{j:Nat}(b:i<=xs.length)(a:j<=xs.length):QR xs (some (i:Int)) (some (j:Int))=(xs.drop i).take (j-i):=by unfold QR;rw[HT.Fo,HT.Fo,xf b,xf a]
theorem oD:Ah ["self"] ["self"] (Ad ZZ):={}
theorem ck(a:AY):b_ 1 aF "has_more" ["self"] (Z4 K aF):=by
 refine a.MU.has fun F=>F.ok oD fun H Q E j h=>?_;obtain⟨f,b,ns,p,rfl,⟨⟨g,d⟩,c,i,l⟩,k⟩:=h;exists Ag (Aj (Bo FC (Al (pv 0)) (AO AV a.D6 y8 (#v[Al (pv 0)]))));exists _,rfl,f,aF,g,_,_,rfl,d,a.fc.cl,a.fc.nA,P4 b p,_,rfl,f,aF,g,_,_,rfl,d,a.fc.cl,a.fc.nH,Kf b p,b,_,rfl,.inl c,_,_,rfl,rfl;have e:decide (((p:Nat):Int)<(((ns.map V.int).length:Nat):Int))=decide (p<ns.length):=by rw[z3,y3];lia
 cbv;rw[e];exact k
theorem lZ:Ah ["self","number"] ["self"] (Ad Wy):={}
theorem Dl(c:AY):b_ 1 aF "take_whole" ["self"] (PZ K aF):=by
 refine c.JP.has fun F=>F.ok lZ fun H Q E t h=>?_;obtain⟨f,a,ns,p,z,rfl,⟨⟨d,j⟩,g,l,r⟩,q,k⟩:=h;exists%[An (i:=1) lZ.nd (Az AE (Al (pv 0)) (Al (pv 0))),DR (pv 0) Ae JX|Aj (pv 1)];exists _,rfl,f,aF,d,_,_,rfl,j,c.fc.cl,c.fc.nH,Kf a p,_,rfl,f,aF,d,_,_,rfl,j,c.fc.cl,c.fc.nA,P4 a p,a,_,_,V.int z,rfl,rfl,g,AN (by rw[z7,q];rfl),_,rfl,f,aF,d,_,_,rfl,j,c.fc.cl,c.fc.nA,P4 a p,p,1,rfl,rfl,d,_,j,(by show 2<1000;decide),_,rfl;have e:By "at" (V.int ((p:Int)+1)) (QI a p)=QI a (p+1):=cF a p (p+1);have m:DA f H (Av H f (.ins aF d (By "at" (V.int ((p:Int)+1)) (QI a p)))):=fun b o s n=>by rw[Ac n];exact s
 exact k _ ⟨⟨d,by rw[Aa,e]⟩,AJ.but m (zN l) g,l,r⟩ m
theorem jo:Ah ["self","length","row"] ["self"] (Ad hB):={}
theorem WW(g:AY):b_ 2 aF "take_row" ["self"] (Z3 K aF):=by
 refine g.MT.has fun F=>F.ok jo fun H Q E D h=>?_;obtain⟨f,d,ns,p,n,rfl,B,C,J,k⟩:=h;obtain⟨⟨N,L⟩,v,z,I⟩:=id B;exists%[An (i:=1) jo.nd (AU (Dl g) (pv 0) g.fc.cl D Ar),An (i:=2) jo.nd (D3 ea (Al (pv 0)) (CY (Al (pv 0))) (CY (AA Cf (Al (pv 0)) (pv 1)))),DR (pv 0) (pv 1) JX|Aj (pv 2)];refine⟨_,rfl,f,N,_,rfl,L,Tv d p,f,d,ns,p,_,rfl,B,C,fun y x t=>?_⟩;obtain⟨⟨a,c⟩,q,Y,Y⟩:=id x;refine⟨_,rfl,f,aF,a,_,_,rfl,c,g.fc.cl,g.fc.nH,Kf d (p+1),_,rfl,f,aF,a,_,_,rfl,c,g.fc.cl,g.fc.nA,P4 d (p+1),_,rfl,_,rfl,f,aF,a,_,_,rfl,c,g.fc.cl,g.fc.nA,P4 d (p+1),_,rfl,_,_,rfl,rfl,_,rfl,d,_,rfl,q,fun l w=>?_⟩;have r:QR (ns.map V.int) (some (((p+1:Nat):Int))) (some (((p+1:Nat):Int)+((n:Nat):Int)))=((ns.drop (p+1)).take n).map V.int:=by have:=cV (xs:=ns.map V.int) (i:=p+1) (j:=p+1+n) (by rw[z3];lia) (by rw[z3];lia);rw[show p+1+n-(p+1)=n by lia]at this;rw[vJ,vK,<-this];rfl
 have u:Ap y (Av y l (.lst (QR (ns.map V.int) (some (((p+1:Nat):Int))) (some (((p+1:Nat):Int)+((n:Nat):Int)))))):=Af w;have m:f≠l:=Ab c w;exists _,rfl,f,aF,a,_,_,rfl,u _ _ c,g.fc.cl,g.fc.nA,P4 d (p+1),_,rfl,_,_,rfl,rfl,a,_,u _ _ c,(by show 2<1000;decide),_,rfl;have e:By "at" (V.int (((p+1:Nat):Int)+((n:Nat):Int))) (QI d (p+1))=QI d (p+1+n):=cF d (p+1) (p+1+n);have s:DA f H (Av (Av y l (.lst (QR (ns.map V.int) (some (((p+1:Nat):Int))) (some (((p+1:Nat):Int)+((n:Nat):Int)))))) f (.ins aF a (By "at" (V.int (((p+1:Nat):Int)+((n:Nat):Int))) (QI d (p+1))))):=fun b o M A=>by rw[Ac A];exact u _ _ (t b o M A)
 refine k _ l ⟨⟨a,by rw[Aa,e]⟩,AJ.but s (zN z) v,z,I⟩ s ?_ ?_;·cases G:H l with|none=>rfl|some o=>have:=t l o G (zN m);rw[w]at this;cases this
 ·rw[Ac (zN m),Aa,r]
theorem oC:Ah ["self"] ["self"] (Ad ZY):={}
theorem Ja(d:AY):b_ 3 aF "take_text" ["self"] (U2 K aF):=by refine d.Ld.has fun F=>F.ok oC fun H Q E s h=>?_;obtain⟨f,g,ns,p,b,rfl,t,w,i,m,k⟩:=h;obtain⟨⟨D,B⟩,A,u,z⟩:=id t;exists Ag (Aj (Ay (Vp d) s rfl Ar (#v[AU (WW d) (pv 0) d.fc.cl s Ar])));refine⟨_,rfl,f,D,_,rfl,B,Xb g p|>fun Y=>cE g p,f,g,ns,p,b.length,rfl,t,w,i,fun J l n r I c=>?_⟩;rw[m]at c;refine⟨l,b,rfl,AJ.of (by rw[c,zG];rfl),∅,fun G x e y=>?_⟩;obtain⟨⟨q,j⟩,a,Y,Y⟩:=n;exact k G x ⟨⟨q,e _ _ j⟩,e.seq a,u,z⟩ (fun b o C v=>e _ _ (r b o C v)) y
theorem oJ:Ah ["row"] ["row"] (Ad RU):={}
theorem E1(e:AY):FK 1 "counted" ["row"] O9:=by
 refine e.YK.has fun F=>F.ok oJ fun H Q E i h=>?_;obtain⟨l,ns,rfl,d,j,k⟩:=h;exists Ag (Aj (AA Ed (AF (#v[AO AV e.D6 y8 (#v[pv 0])])) (pv 0)));refine⟨_,rfl,l,_,rfl,.inl (AJ.of d),Ju,fun g c=>?_⟩;have b:=Af (o:= .lst [V.int ((ns.map V.int).length:Nat)]) c;refine⟨_,rfl,g,l,_,_,rfl,rfl,Aa,b _ _ d,?_,fun f a=>?_⟩;·rw[z3];show 1+ns.length<=sizeLine;have:(30001:Nat)<=sizeLine:=⋯;lia
 ·refine k _ f (b.trans (Af a)) (b.free a) ?_;rw[Aa,z3];rfl
theorem oE:Ah ["self","numbers"] ["self","numbers"] (Ad Z_):={}
def HD(b c d a:Addr):List (Str×V):=[("positions",.ref b),("numbers",.ref c),("follows",.ref d),("worth",.ref a)]
structure Dg(C:Addr)(H:Hp)(e:Addr)(r:Rules)(ps:List Bd)(fs:List (List Nat)):Prop where
 ex:∃dx pl nd fl wl,H e=some (.ins C dx (HD pl nd fl wl))/\gG H pl ps/\H nd=some (.dT (IY ps))/\(∃gs,gK H fl pl gs fs)/\kP H wl (r.values (ps.map pB))
 g:EB r ps fs
 fx:Xp (Cd ps) fs (BB r ps) (r.values (ps.map pB))
inductive RD(C CE CT:Addr):_|mk(H0:Hp)(e a t:Addr)(r:Rules)(q:Bd)(most:Nat):vs=[.ref e,.ref a,.ref t,.int most]->(∃dx,H e=some (.ins CE dx []))->Ap H0 H->H0 e=none->Bg C H0 a r->De H0 t q.1 q.2->Cv r q->1<=most->most<=200->(match graphOf r most (pB q)with|none=>Ref CT [-9] H0 E|some g=>∀H' ps fs,Dg CE H' e r ps fs->ps.map pB=g->Ap H0 H'->Q .B0 H')->RD C CE CT vs H Q E
structure Part(r:Rules)(most:Nat)(ps:List Bd)(fs:List (List Nat)):Prop where
 good:∀q∈ps,Cv r q
 nd:ps.Nodup
 len:fs.length<=ps.length
 small:ps.length<=most
 Zh:∀i q,i<fs.length->ps[i]?=some q->fs.getD i []=(Bk r q).map ps.idxOf
 jT:∀i q,i<fs.length->ps[i]?=some q->∀p∈Bk r q,p∈ps
theorem Part.step{r:Rules}(Z:B1 r)(N:Oh r){d:Nat}{b:List Bd}{f:List (List Nat)}(h:Part r d b f){q:Bd}(m:b[f.length]?=some q)(t:(BA b (Bk r q)).length<=d):Part r d (BA b (Bk r q)) (f++[(Bk r q).map (BA b (Bk r q)).idxOf]):=by
 obtain⟨e,s⟩:=Jr (Bk r q) b;have n:q∈b:=zf m;have g:∀i p,b[i]?=some p->(BA b (Bk r q))[i]?=some p:=fun i p a=>by rw[s,yr (z8.mp a).1];exact a
 have u:f.length<b.length:=(z8.mp m).1;refine⟨fun p a=>?_,H_ _ _ h.nd,?_,t,fun i p l a=>?_,fun i p l a=>?_⟩
 ·rcases(Fi _ _ _).mp a with a|a;·exact h.good p a
  ·exact Pa Z N (h.good q n) p a
 ·rw[zd];have:=KS (Bk r q) b;show f.length+1<=_;lia
 ·rw[zd]at l;have o:i<f.length+1:=l;by_cases hlt:i<f.length;·obtain⟨j,c⟩:∃j,b[i]?=some j:=⟨_,z4 ∅⟩;have:=g i j c;rw[a]at this;cases this;rw[z5,yr hlt,<-z5,h.Zh i p hlt c];refine y6 fun x k=>?_;rw[s];exact(WT (h.jT i p hlt c x k) e).symm
  ·have:i=f.length:=∅;subst this;have:=g _ q m;rw[a]at this;cases this;rw[z5,yC (ze _),uS];rfl
 ·rw[zd]at l;have o:i<f.length+1:=l;by_cases hlt:i<f.length;·obtain⟨j,c⟩:∃j,b[i]?=some j:=⟨_,z4 ∅⟩;have:=g i j c;rw[a]at this;cases this;intro x k;exact(Fi _ _ _).mpr (.inl (h.jT i p hlt c x k))
  ·have:i=f.length:=∅;subst this;have:=g _ q m;rw[a]at this;cases this;intro x k;exact(Fi _ _ _).mpr (.inr k)
theorem Part.graph{r:Rules}(Z:B1 r)(N:Oh r){a:Nat}(j:a<=200){c:List Bd}{e:List (List Nat)}(h:Part r a c e)(k:¬e.length<c.length):EB r c e:=by
 have b:e.length=c.length:=by have:=h.len;lia
 refine⟨Z,N,h.good,h.nd,b,z_ h.small j,fun i q d=>h.Zh i q (by rw[b];exact(z8.mp d).1) d,fun q d p g=>?_⟩;obtain⟨i,f⟩:=yJ d;exact h.jT i q (by rw[b];exact(z8.mp f).1) f p g
theorem Y5{r:Rules}(Z:B1 r)(N:Oh r){a f:Nat}{b:List Bd}{q:Bd}(e:∀q∈b,Cv r q)(d:b[i]?=some q):growTo r a (f+1) i (b.map pB)=if a<(BA b (Bk r q)).length then none else growTo r a f (i+1) ((BA b (Bk r q)).map pB):=by rw[growTo,z7,d];have c:=e q (zf d);show(if a<(addNew (b.map pB) (r.comesTo (pB q))).length then _ else _)=_;rw[N1 Z N c,Ks _ _ e (Pa Z N c),z3]
abbrev vw:List Str:=["self","hall","first","most"]
theorem oH:Ah vw ["self","hall","first","most"] (Ad RQ):={}
theorem Th(v:AY):qX 7 aE ["self","hall","first","most"] (RD aH aE aT):=by
 refine v.bY.has fun F=>F.Jw oH fun H Q E hr h hx=>?_;obtain⟨K,e,a,t,r,q,d,rfl,⟨w,he⟩,Z,N,W,ht,hq,c1,b4,k⟩:=h;have hu:=Gu hr;exists%[B2 (pv 0) (AF (#v[pv 2])),B2 (pv 0) (XS (rN hu) (pv 2) Ae),B2 (pv 0) (AF Ce),CV Bt (Ao FC (AO AV v.D6 y8 (#v[Al (pv 0)])) (AO AV v.D6 y8 (#v[Al (pv 0)]))) (Ag (A2 (AH (Vu v) (pv 0) v.ec.cl hr hx.passes (#v[pv 1,Az AE (Al (pv 0)) (AO AV v.D6 y8 (#v[Al (pv 0)])),pv 3])))) |B2 (pv 0) (Ay (Vo v) (hr.mono ⋯) rfl Ar (#v[pv 1,Al (pv 0),Al (pv 0)]))];refine⟨_,rfl,Ju,fun c a5=>?_⟩;have D:e≠c:=Ab he a5;exists _,rfl,e,aE,w,_,rfl,by rw[Ac D];exact he,v.ec.cl,v.ec.nP,(by show 0<1000;decide);have c5:∀{l:Addr}{Hx:Hp},Ap K Hx->Hx l=none->K l=none:=fun s h=>s.free h;have ep:By "positions" (V.ref c) []=[(("positions":Str),V.ref c)]:=rfl;have sA:Ap K (Av (Av H c (.lst [.ref t])) e (.ins aE w (By "positions" (V.ref c) []))):=fun b o z=>by rw[Ac (Ab z N),Ac (Ab (Z _ _ z) a5)];exact Z _ _ z
 have eA:(Av (Av H c (.lst [.ref t])) e (.ins aE w (By "positions" (V.ref c) []))) e=some (.ins aE w [("positions",.ref c)]):=by rw[Aa,ep]
 have pA:(Av (Av H c (.lst [.ref t])) e (.ins aE w (By "positions" (V.ref c) []))) c=some (.lst [.ref t]):=by rw[Ac (zN D),Aa]
 have b8:K c=none:=Z.free a5;generalize(Av (Av H c (.lst [.ref t])) e (.ins aE w (By "positions" (V.ref c) [])))=HA at sA eA pA|-;refine fun f R=>?_;have I:e≠f:=Ab eA R;have a8:K f=none:=sA.free R;have tB:(Av HA f (.dT [])) t=some (.tup ((EF q).map kV)):=by rw[Ac (Ab (sA _ _ ht) R)];exact sA _ _ ht
 exists _,rfl,Aa,t,EF q,rfl,tB,_,rfl,e,aE,w,_,rfl,by rw[Ac I,Ac I];exact eA,v.ec.cl,v.ec.nN,(by show 1<1000;decide);rw[DH];have en:By "numbers" (V.ref f) [(("positions":Str),V.ref c)]=[(("positions":Str),V.ref c),("numbers",V.ref f)]:=#v[];have sB:Ap K (Av (Av HA f (.dT [(EF q,.int 0)])) e (.ins aE w (By "numbers" (V.ref f) [(("positions":Str),V.ref c)]))):=fun b o z=>by rw[Ac (Ab z N),Ac (Ab z a8)];exact sA _ _ z
 have eB:(Av (Av HA f (.dT [(EF q,.int 0)])) e (.ins aE w (By "numbers" (V.ref f) [(("positions":Str),V.ref c)]))) e=some (.ins aE w [("positions",.ref c),("numbers",.ref f)]):=by rw[Aa,en]
 have a1:(Av (Av HA f (.dT [(EF q,.int 0)])) e (.ins aE w (By "numbers" (V.ref f) [(("positions":Str),V.ref c)]))) c=some (.lst [.ref t]):=by rw[Ac (zN D),Ac (Ab pA R)];exact pA
 have nB:(Av (Av HA f (.dT [(EF q,.int 0)])) e (.ins aE w (By "numbers" (V.ref f) [(("positions":Str),V.ref c)]))) f=some (.dT [(EF q,.int 0)]):=by rw[Ac (zN I),Aa]
 generalize(Av (Av HA f (.dT [(EF q,.int 0)])) e (.ins aE w (By "numbers" (V.ref f) [(("positions":Str),V.ref c)])))=HB at sB eB a1 nB|-;refine⟨zx _,fun u T=>?_⟩;have U:e≠u:=Ab eB T;have a9:K u=none:=sB.free T;have pf:c≠u:=Ab a1 T;exists _,rfl,e,aE,w,_,rfl,by rw[Ac U];exact eB,v.ec.cl,v.ec.nF,(by show 2<1000;decide);have ef:By "follows" (V.ref u) [(("positions":Str),V.ref c),("numbers",V.ref f)]=T5 c f u:=#v[];have sC:Ap K (Av (Av HB u (.lst [])) e (.ins aE w (By "follows" (V.ref u) [(("positions":Str),V.ref c),("numbers",V.ref f)]))):=fun b o z=>by rw[Ac (Ab z N),Ac (Ab z a9)];exact sB _ _ z
 have GC:dB aE (Av (Av HB u (.lst [])) e (.ins aE w (By "follows" (V.ref u) [(("positions":Str),V.ref c),("numbers",V.ref f)]))) e c f u [q] []:=by
  refine⟨⟨w,by rw[Aa,ef]⟩,⟨[t],?_,.cons (sC _ _ ht) .nil⟩,?_,⟨[],by rw[Ac (zN U),Aa];rfl,.nil,fun g hg=>nomatch hg⟩,pf⟩;·rw[Ac (zN D),Ac pf];exact a1
  ·rw[Ac (zN I),Ac (Ab nB T)];exact nB
 generalize(Av (Av HB u (.lst [])) e (.ins aE w (By "follows" (V.ref u) [(("positions":Str),V.ref c),("numbers",V.ref f)])))=HC at sC GC|-;have P0:Part r d [q] []:=⟨fun p hp=>by rw[zB.mp hp];exact hq,by simp,zx _,c1,fun i p hi Y=>absurd hi (xc _),fun i p hi Y=>absurd hi (xc _)⟩;exists fun m σ H'=>E2 fun(B:List Bd) (A:List (List Nat))=>A6 (σ=[some (.ref e),some (.ref a),some (.ref t),some (.int (d:Nat))]) (m+A.length=d+1) (Ap K H') (dB aE H' e c f u B A) (Part r d B A) (graphOf r d (pB q)=growTo r d m A.length (B.map pB)),⟨d+1,[q],[],rfl,rfl,sC,GC,P0,rfl⟩;rintro m σ H' ⟨B,A,rfl,c4,sm,GA,Pt,eg⟩;obtain⟨⟨x,y⟩,⟨ts,O,M⟩,b3,⟨gs,S,a0,b6⟩,Y⟩:=id GA;have a2:ts.length=B.length:=zE M;have a3:gs.length=A.length:=zE a0;exists _,rfl,e,aE,x,_,_,rfl,y,v.ec.cl,v.ec.nF,QJ c f u,u,_,rfl,.inl (AJ.of S),_,rfl,e,aE,x,_,_,rfl,y,v.ec.cl,v.ec.nP,Kh c f u,c,_,rfl,.inl (AJ.of O),_,_,rfl,rfl,_,rfl;have l1:=Pt.len;have l2:=Pt.small;by_cases hlt:A.length<B.length
 ·refine BJ (zj (by rw[z3,z3,a2,a3];lia)) ?_;obtain⟨m,rfl⟩:∃m',m=m'+1:=⟨m-1,∅⟩;obtain⟨qi,P⟩:∃qi,B[A.length]?=some qi:=⟨_,z4 hlt⟩;obtain⟨ti,b1⟩:∃ti,ts[A.length]?=some ti:=⟨_,z4 (by rw[a2];exact hlt)⟩;obtain⟨q',b2,a4⟩:=AB M b1;rw[P]at b2;cases b2;rw[Y5 W.Z W.N Pt.good P]at eg;exists fun a7 a6=>E2 fun(B:List Bd) (J:List (List Nat))=>A6 (a7=[some (.ref e),some (.ref a),some (.ref t),some (.int (d:Nat))]) (m+J.length=d+1) (Ap K a6) (dB aE a6 e c f u B J) (Part r d B J) (graphOf r d (pB q)=growTo r d m J.length (B.map pB)),?_;·rintro a7 a6 ⟨b7,J,rfl,h1,h2,h3,h4,h5⟩;exact⟨m,yV m,b7,J,rfl,h1,h2,h3,h4,h5⟩
  ·exists _,rfl,e,x,_,rfl,y,YB c f u,_,rfl,_,rfl,e,aE,x,_,_,rfl,y,v.ec.cl,v.ec.nP,Kh c f u,_,rfl,e,aE,x,_,_,rfl,y,v.ec.cl,v.ec.nF,QJ c f u,u,_,rfl,.inl (AJ.of S),c,_,_,V.ref ti,rfl,rfl,AJ.of O,at_of (j:=A.length) (by rw[z3,a3]) (by rw[z7,b1];rfl),_,rfl,K,e,a,ti,c,f,u,r,B,A,qi,d,rfl,sm,b8,a8,a9,W,GA,a4,Pt.good qi (zf P),l2,b4,∅;by_cases hover:d<(BA B (Bk r qi)).length;·rw[zc hover];rw[zc hover]at eg;rw[eg]at k;exact k
   ·rw[zb hover];rw[zb hover]at eg;intro H2 G2 L;exists _,_,rfl,?_,L,G2,Pt.step W.Z W.N P (Nat.not_lt.mp hover);·rw[zd];show m+(A.length+1)=_;lia
    ·rw[zd];exact eg
 ·refine B9 (zo (by rw[z3,z3,a2,a3];lia)) ?_;obtain⟨m,rfl⟩:∃m',m=m'+1:=⟨m-1,∅⟩;have G:=Pt.graph W.Z W.N b4 hlt;have c2:graphOf r d (pB q)=some (B.map pB):=by rw[eg,growTo,y9.mpr (by rw[z3];lia)]
  rw[c2]at k;refine⟨_,rfl,_,rfl,e,aE,x,_,_,rfl,y,v.ec.cl,v.ec.nP,Kh c f u,_,rfl,e,aE,x,_,_,rfl,y,v.ec.cl,v.ec.nF,QJ c f u,a,c,u,r,B,gs,A,rfl,W.same sm,⟨ts,O,M⟩,⟨S,a0,b6⟩,G,fun H2 wl L c3 b0 b5=>?_⟩;exists _,rfl,e,aE,x,_,rfl,L _ _ y,v.ec.cl,v.ec.nW,(by show 3<1000;decide);have ew:By "worth" (V.ref wl) (T5 c f u)=HD c f u wl:=#v[];rw[ew];have ne:∀{b:Addr}{o:HO},H2 b=some o->(∀C w A,o≠ .ins C w A)->b≠e:=fun{b o} h n z=>by rw[z,L _ _ y]at h;exact n _ _ _ (zt h).symm
  have X:∀{b:Addr}{o:HO},H2 b=some o->(∀C w A,o≠ .ins C w A)->(Av H2 e (.ins aE x (HD c f u wl))) b=some o:=fun h n=>by rw[Ac (ne h n)];exact h
  obtain⟨tw,c0,b9⟩:=b0;refine k _ B A ⟨⟨x,c,f,u,wl,Aa,⟨ts,X (L _ _ O) (by intro Y Y Y z;cases z),Am (fun Y Y z=>X (L _ _ z) (by intro Y Y Y z;cases z)) M⟩,X (L _ _ b3) (by intro Y Y Y z;cases z),⟨gs,X (L _ _ S) (by intro Y Y Y z;cases z),Am (fun Y Y z=>X (L _ _ z) (by intro Y Y Y z;cases z)) a0,b6⟩,⟨tw,X c0 (by intro Y Y Y z;cases z),Am (fun Y Y z=>X z (by intro Y Y Y z;cases z)) b9⟩⟩,G,b5⟩ rfl fun b o z=>?_;rw[Ac (Ab z N)];exact L _ _ (sm _ _ z)
end He
namespace He
open Tafl
theorem Nq:∀(l:List Nat)(d:Nat),l.foldl (fun a b=>max a b) d=d\/l.foldl (fun a b=>max a b) d∈l
|[],d=> .inl rfl
|x::l,d=>by
 rw[ym];rcases Nq l (max d x)with h|h
 ·rw[h];by_cases q:d<=x;·exact .inr (by rw[Nat.max_eq_right q];exact zh)
  ·exact .inl (Nat.max_eq_left ∅)
 ·exact .inr (zg _ h)
theorem To{side:Nat}{vs:List Value}(r:side<=1)(m:∀v∈vs,∀x,v=some x->x.1<=1)(i:vs≠[]):∃w∈vs,good (valueBy side vs) w=true:=by
 by_cases ho:CZ side vs=[]
 ·by_cases hall:HM.GW side vs=true
  ·rw[HM.C2 ho i hall];have n:HM.greatest (vs.map many)∈vs.map many\/HM.greatest (vs.map many)=0:=by
    rcases Nq (vs.map many) 0 with h|h;·exact .inr h
    ·exact .inl h
   have f:=yq.mp hall;have g:∃w∈vs,many w=HM.greatest (vs.map many):=by
    rcases n with h|h;·obtain⟨w,c,d⟩:=zk.mp h;exact⟨w,c,d⟩
    ·obtain⟨w,l,e⟩:=vj i;refine⟨w,by rw[e];exact zh,?_⟩;have:=Co (vs.map many) 0 (many w) (zk.mpr ⟨w,by rw[e];exact zh,rfl⟩);have s:(vs.map many).foldl (fun a b=>max a b) 0=0:=h;rw[h];lia
   obtain⟨w,c,d⟩:=g;exists w,c;rw[BQ (f w c),d];simp[good]
  ·rw[HM.BS ho (fun q=>hall q.2)];have:∃w∈vs,¬sureFor w (1-side)=true:=by rw[y4,List.all_eq_false]at hall;obtain⟨w,c,d⟩:=hall;exact⟨w,c,d⟩
   obtain⟨w,c,d⟩:=this;exists w,c;cases w with|none=>rfl|some x=>have k:=m _ c x rfl;have j:x.1≠1-side:=fun z=>d (by simp[sureFor,z]);have p:x.1=side:=∅;have:(some x:Value)∈CZ side vs:=zS.mpr ⟨c,by simp[sureFor,p]⟩;rw[ho]at this;cases this
 ·rw[HM.Er ho];have o:many ((CZ side vs).headD none)=((CZ side vs).map many).headD 0:=by obtain⟨w,l,e⟩:=vj ho;rw[e];rfl
  rw[o];have:=HM.Eg (l:=(CZ side vs).map many) (by intro z;exact ho (ya.mp z));obtain⟨w,c,d⟩:=zk.mp this;obtain⟨k,j⟩:=zS.mp c;exists w,k;rw[BQ j,<-d];simp[good,many]
def Zk(v:Value):Int×Int:=match v with|some x=>(((x.1:Nat):Int),((x.2:Nat):Int)-1) |none=>(2,0)
theorem Oo{v w:Value}(d:∀x,v=some x->x.1<=1)(c:∀x,w=some x->x.1<=1):Cw w=Zk v↔good v w=true:=by
 cases v with
 |none=>
  cases w with
  |none=>exact⟨fun Y=>rfl,fun Y=>rfl⟩
  |some y=>
   have:=c y rfl;constructor;·intro z;have a:=zT Prod.fst z;change((y.1:Nat):Int)=2 at a;lia
   ·intro z;cases z
 |some x=>
  have e:=d x rfl;cases w with
  |none=>
   constructor;·intro z;have a:=zT Prod.fst z;change(2:Int)=((x.1:Nat):Int)at a;lia
   ·intro z;cases z
  |some y=>
   have:good (some x) (some y)=(x.1==y.1&&x.2==y.2+1):=rfl;rw[this,zp,zP,zP];constructor;·intro z;have a:=zT Prod.fst z;have b:=zT Prod.snd z;change((y.1:Nat):Int)=((x.1:Nat):Int)at a;change((y.2:Nat):Int)=((x.2:Nat):Int)-1 at b;lia
   ·rintro⟨a,b⟩;show(((y.1:Nat):Int),((y.2:Nat):Int))=_;refine qv ?_ ?_;·show((y.1:Nat):Int)=((x.1:Nat):Int);lia
    ·show((y.2:Nat):Int)=((x.2:Nat):Int)-1;lia
theorem gL{b:List Bd}{c:List (List Nat)}{r:Rules}{f:List Value}(G:EB r b c)(F:Xp (Cd b) c (BB r b) f)(i:Nat)(x:Nat×Nat)(h:f.getD i none=some x):x.1<=1:=by
 have g:i<f.length:=by
  by_cases q:i<f.length;·exact q
  ·rw[z5,y9.mpr ∅]at h;cases h
 have a:=F.eq i g;rw[h]at a;cases e:(BB r b).getD i none with
 |some y=>rw[e]at a;cases a;exact(G.gr.zero i x e).2
 |none=>
  rw[e]at a;have d:=G.gr.nJ i;dsimp only at a;unfold valueBy at a;dsimp only at a;split at a;·cases a;exact d
  ·split at a;·cases a;show 1-_<=1;lia
   ·cases a
end He
namespace He
open PySem PySem.Spec PyProof.Rows L2
open PySem.W (Frag)
theorem Nv(a c d b):(HD a c d b).lookup ("positions":Str)=some (.ref a):=#v[]
theorem kq(c a d b):(HD c a d b).lookup ("numbers":Str)=some (.ref a):=#v[]
theorem cN(c d a b):(HD c d a b).lookup ("follows":Str)=some (.ref a):=#v[]
theorem G1(b c d a):(HD b c d a).lookup ("worth":Str)=some (.ref a):=#v[]
theorem gn(b c d a):(HD b c d a).lookup ("best_follow":Str)=none:=#v[]
theorem T6(b c d a):(HD b c d a).lookup ("table":Str)=none:=#v[]
theorem gm(b c d a):(HD b c d a).lookup ("sums":Str)=none:=#v[]
def Of(v:Tafl.Value):Prop:=∀x,v=some x->x.1<=1
inductive Wi:_|mk(t:Addr)(v:Tafl.Value):vs=[.ref t]->Cj H t (Cw v)->Of v->Q (.int (Tafl.code v:Nat)) H->Wi vs H Q E
inductive VY(CE:Addr):_|mk(e:Addr)(r:Rules)(ps:List Bd)(fs:List (List Nat)):vs=[.ref e]->Dg CE H e r ps fs->(∀H' l,Ap H H'->H l=none->H' l=some (.lst (nV ((r.values (ps.map pB)).map Tafl.code)))->Q (.ref l) H')->VY CE vs H Q E
inductive Z7(CE:Addr):_|mk(e:Addr)(r:Rules)(ps:List Bd)(fs:List (List Nat))(i:Nat)(q:Bd):vs=[.ref e,.int i]->Dg CE H e r ps fs->ps[i]?=some q->Bk r q≠[]->(∀H'(c j:Nat),Ap H H'->(fs.getD i [])[c]?=some j->good ((r.values (ps.map pB)).getD i none) ((r.values (ps.map pB)).getD j none)=true->(∀c' j':Nat,c'<c->(fs.getD i [])[c']?=some j'->¬good ((r.values (ps.map pB)).getD i none) ((r.values (ps.map pB)).getD j' none)=true)->Q (.int (c:Nat)) H')->Z7 CE vs H Q E
inductive O3(K:Frag):_|mk(wl:Addr)(vals:List Tafl.Value)(who:Nat):vs=[.ref wl,.int who]->kP H wl vals->(∀v∈vals,Of v)->vals.length<=200->who<=1->(∀H' l,Ap H H'->H l=none->H' l=some (.lst (nV (TaflEnds.greatest vals who)))->Q (.ref l) H')->O3 K vs H Q E
inductive Z1(CE:Addr):_|mk(e:Addr)(r:Rules)(ps:List Bd)(fs:List (List Nat)):vs=[.ref e]->Dg CE H e r ps fs->(∀H' l,Ap H H'->H l=none->H' l=some (.lst (nV ([howMany (r.values (ps.map pB)) 0,howMany (r.values (ps.map pB)) 1,((r.values (ps.map pB)).filter fun(v:Tafl.Value)=>v==none).length]++(TaflEnds.greatest (r.values (ps.map pB)) 0++TaflEnds.greatest (r.values (ps.map pB)) 1))))->Q (.ref l) H')->Z1 CE vs H Q E
theorem Dg.who{g:Addr}{e:Addr}{r:Rules}{a:List Bd}{f:List (List Nat)}(h:Dg g H e r a f):∀v∈r.values (a.map pB),Of v:=fun v c x b=>by obtain⟨i,d⟩:=yJ c;refine gL h.g h.fx i x ?_;rw[z5,d,b];rfl
theorem Dg.Xs{c:Addr}{e:Addr}{r:Rules}{a:List Bd}{b:List (List Nat)}(h:Dg c H e r a b):(r.values (a.map pB)).length=a.length:=by rw[<-h.fx.len];simp[BB]
theorem Lq{v:Tafl.Value}(h:Of v):decide (V.int (Cw v).1=V.int 2)=decide (v=none):=by
 rw[Ey,y3];cases v with
 |none=>exact⟨fun Y=>rfl,fun Y=>rfl⟩
 |some x=>
  have:=h x rfl;constructor;·intro z;change((x.1:Nat):Int)=2 at z;lia
  ·intro z;cases z
theorem LQ{v:Tafl.Value}{a:Nat}(h:Of v)(b:a<=1):decide (V.int (Cw v).1=V.int (a:Nat))=sureFor v a:=by rw[Ey];cases v with|none=>show decide ((2:Int)=_)=false;exact zo ∅|some x=>show decide (((x.1:Nat):Int)=_)=(x.1==a);rw[zZ,zJ,zP];lia
theorem oG:Ah ["value"] ["value"] (Ad aa):={}
theorem Yy(c:AY):FK 1 "table_entry" ["value"] Wi:=by
 refine c.NY.has fun F=>F.ok oG fun H Q E d h=>?_;obtain⟨t,v,rfl,a,b,k⟩:=h;exists%[AM (Ao AZ (Az Bf (pv 0) Ae) (AD (v:= .int 2) rfl (C3 c.Ff) ⟨_,rfl⟩)) (Ag (Aj Ae)) Au|Aj (AA Cf (AA Cf Ae (AA Ec Ae (Az Bf (pv 0) Ae))) (Az Bf (pv 0) Ae))];exists _,rfl,t,_,_,V.int (Cw v).1,rfl,rfl,.of a,rfl,rfl,_,rfl;cases v with
 |none=>exact BJ (Lq b) k
 |some x=>
  refine B9 (Lq b) ⟨_,rfl,t,_,_,V.int (x.2:Nat),rfl,rfl,.of a,rfl,_,_,rfl,rfl,.inl ⟨⋯,⋯⟩,_,_,rfl,rfl,_,rfl,t,_,_,V.int (x.1:Nat),rfl,rfl,.of a,rfl,_,_,rfl,rfl,?_⟩;have e:(1+2*((x.2:Nat):Int))+((x.1:Nat):Int)=((Tafl.code (some x):Nat):Int):=by show _=((1+2*x.2+x.1:Nat):Int);lia
  cbv;rw[e];exact k
abbrev qF:List Str:=["self","value"]
theorem jh:Ah qF ["self"] (Ad UE):={}
theorem Pp(b:AY):b_ 2 aE "table" ["self"] (VY aE):=by
 refine b.NP.has fun F=>F.ok jh fun H Q E y h=>?_;obtain⟨e,r,o,J,rfl,a,k⟩:=h;obtain⟨C,u,w,B,j,A,D,G,I,⟨m,p,n⟩⟩:=a.ex;exists Ag (Aj (Ga (own:=[("value",1)]) rfl jh.nd (BM (Al (pv 0))) (Dn (N0:=qF) (sc0:=Ad UE) rfl rfl ∎) (fun Y Y Y Y Y=>Aw (i:=1) jh.nd) (fun Y Y Y Y Y=>Ci) (fun Y Y Y Y Y=>Ay (Yy b) y rfl Ar (#v[pv 1]))));refine⟨_,rfl,e,aE,C,_,_,rfl,A,b.ec.cl,b.ec.nW,G1 u w B j,j,rfl,⟨_,AJ.of p⟩,fun l g=>?_⟩;refine Dc (xs:=m.map V.ref) (Xn H l fun i=>nV (((r.values (o.map pB)).take i).map Tafl.code)) (IX g rfl) (fun i H' Y q=>AJ.of (q.1 _ _ p)) ?_ ?_
 ·rintro i v H' s q;obtain⟨t,x,rfl⟩:∃t,m[i]?=some t/\v= .ref t:=by rw[z7,zy]at s;obtain⟨c,e,rfl⟩:=s;exact⟨c,e,rfl⟩
  obtain⟨v,f,d⟩:=AB n x;have z:i<o.length:=by rw[<-a.Xs];exact(z8.mp f).1
  refine⟨rfl,?_⟩;unfold HG;cbv;rw[zc rfl];refine⟨_,rfl,t,v,rfl,q.1 _ _ d,a.who v (zf f),Gp g q ?_ (AR _) ?_⟩;·unfold nV;rw[z3,z3,zO];have:=a.g.small;have:(200:Nat)<sizeLine:=⋯;lia
  ·rw[yi,f,zu];unfold nV;rw[zu];rfl
 ·rintro H' q;refine k H' l q.1 g ?_;rw[q.2];cbv;rw[z3,zE n,y1]
theorem HQ{e d c:Type}{R:e->c->Prop}(f:d->c):∀{i:List e}{g:List d},Paired (fun a b=>R a (f b)) i g->Paired R i (g.map f) |_,_,.nil=> .nil|_,_,.cons h t=> .cons h (HQ f t)
theorem Nt{f:Type}{p:f->Bool}:∀{l:List f},(∃x∈l,p x=true)->∃(c:Nat)(x:f),l[c]?=some x/\p x=true/\∀(a:Nat)(b:f),a<c->l[a]?=some b->¬p b=true
|[],h=>by obtain⟨x,d,Y⟩:=h;cases d
|y::l,h=>by
 by_cases hy:p y=true;·exact⟨0,y,rfl,hy,fun a b i Y=>absurd i (xc _)⟩
 ·obtain⟨x,d,g⟩:=h;rcases zw.mp d with rfl|d;·exact absurd g hy
  ·obtain⟨c,x,m,k,j⟩:=Nt (l:=l) ⟨x,d,g⟩;refine⟨c+1,x,‹m›,k,fun a b i e=>?_⟩;cases a with|zero=>cases e;exact hy|succ a=>exact j a b ∅ ‹e›
abbrev qL:List Str:=["self","number","who","wanted","later"]
theorem ZK:Ah qL ["self","number"] (Ad af):={}
theorem cn(J:AY):b_ 1 aE "best_follow" ["self","number"] (Z7 aE):=by
 refine J.Hh.has fun F=>F.ok ZK fun H Q E hr h=>?_;obtain⟨e,r,P,fs,i,q,rfl,I,hq,a7,k⟩:=h;obtain⟨dx,pl,nd,fl,S,he,hP,hN,⟨gs,b8,a4,c1⟩,⟨tw,hw,pw⟩⟩:=I.ex;have X:i<P.length:=(z8.mp hq).1;have lv:=I.Xs;have b2:tw.length=P.length:=by rw[zE pw,lv]
 have b3:gs.length=P.length:=by rw[zE a4,I.g.len]
 generalize B:r.values (P.map pB)=a at*;have a1:∀v∈a,Of v:=by rw[<-B];exact I.who
 have n:∀j,Of (a.getD j none):=fun j x hx=>by cases e:a[j]? with|none=>rw[z5,e]at hx;cases hx|some v=>rw[z5,e]at hx;exact a1 v (zf e) x hx
 have N:∀j,j<P.length->∃t,tw[j]?=some t/\Cj H t (Cw (a.getD j none)):=fun j hj=>by obtain⟨t,ht⟩:∃t,tw[j]?=some t:=⟨_,z4 (by rw[b2];exact hj)⟩;obtain⟨v,U,b1⟩:=AB pw ht;exists t,ht;rw[z5,U];exact b1
 exists%[An (i:=2) ZK.nd (Az Bf (Az AE (Al (pv 0)) (pv 1)) Ae),An (i:=3) ZK.nd (D4 (Ao AZ (pv 2) (AD (v:= .int 2) rfl (C3 J.Ff) ⟨_,rfl⟩)) (B3 (#v[AD (v:= .int 2) rfl (C3 J.Ff) ⟨_,rfl⟩,Ae])) (B3 (#v[pv 2,AA Eb (Az Bf (Az AE (Al (pv 0)) (pv 1)) Ae) Ae]))) |Aj (B5 zK vV so (Pd hr.units) (Ga (te:=Ry (az K) (U1 K (Bj 0) "worth") (Bj 4)) (own:=[("later",4)]) rfl ZK.nd (BM (Az AE (Al (pv 0)) (pv 1))) (Dn (N0:=qL) (sc0:=Ad af) rfl rfl ∎) (fun Y Y Y Y Y=>Aw (i:=4) ZK.nd) (fun Y Y Y Y Y=>Ci) (fun Y Y Y Y Y=>Az AE (Al (pv 0)) (pv 4))) (#v[pv 3]))];obtain⟨ti,a5,s⟩:=N i X;refine⟨_,rfl,e,aE,dx,_,_,rfl,he,J.ec.cl,J.ec.nW,G1 pl nd fl S,_,rfl,S,_,_,V.ref ti,rfl,rfl,AJ.of hw,AN (by rw[z7,a5];rfl),ti,_,_,V.int (Cw (a.getD i none)).1,rfl,rfl,.of s,rfl,Ax ?_⟩;cbv;refine EK (fun a0 H1=>∃O,a0=[some (.ref e),some (.int (i:Nat)),some (.int (Cw (a.getD i none)).1),some (.ref O),none]/\Ap H H1/\Cj H1 O (Zk (a.getD i none))) ?_ ?_
 ·rintro a0 H1 ⟨O,rfl,s1,C⟩;obtain⟨g,hg⟩:∃g,gs[i]?=some g:=⟨_,z4 (by rw[b3];exact X)⟩;obtain⟨f,a6,b0⟩:=AB a4 hg;have d:fs.getD i []=f:=by rw[z5,a6];rfl
  have T:∀j∈f,j<P.length:=fun j hj=>I.g.gr.lg i j (by rw[d];exact hj);have a3:f.length<=8788:=by rw[<-d,I.g.Zh i q hq,z3];exact MI I.g.Z (I.g.good q (zf hq))
  refine⟨_,rfl,e,aE,dx,_,_,rfl,s1 _ _ he,J.ec.cl,J.ec.nF,cN pl nd fl S,_,rfl,fl,_,_,V.ref g,rfl,rfl,AJ.of (s1 _ _ b8),AN (by rw[z7,hg];rfl),g,rfl,⟨_,AJ.of (s1 _ _ b0)⟩,fun D hD=>?_⟩;refine Dc (xs:=nV f) (fun k H'=>∃as:List Addr,Ap H1 H'/\H' D=some (.lst (as.map V.ref))/\Paired (fun t (j:Nat)=>Cj H t (Cw (a.getD j none))) as (f.take k)) ⟨[],Af hD,Aa,.nil⟩ (fun k H' Y ⟨_,z,_⟩=>AJ.of (z _ _ (s1 _ _ b0))) ?_ ?_
  ·rintro k v H' hk ⟨as,s2,M,A⟩;obtain⟨j,hj,rfl⟩:∃j,f[k]?=some j/\v= .int (j:Nat):=by unfold nV at hk;rw[z7,zy]at hk;obtain⟨c,e,rfl⟩:=hk;exact⟨c,e,rfl⟩
   obtain⟨tj,b6,a2⟩:=N j (T j (zf hj));refine⟨rfl,?_⟩;unfold HG;cbv;rw[zc rfl];have w:=s1.trans s2;exists _,rfl,e,aE,dx,_,_,rfl,w _ _ he,J.ec.cl,J.ec.nW,G1 pl nd fl S,_,rfl,S,_,_,V.ref tj,rfl,rfl,AJ.of (w _ _ hw),AN (by rw[z7,b6];rfl),_,M,?_,as++[tj],fun b o z=>?_,?_;·rw[z3,zE A,zO];exact y2 (z_ (xH _ _) a3) OB
   ·rw[Ac (Ab z hD)];exact s2 _ _ z
   ·rw[Aa,zu];rfl
   ·rw[yi,hj];exact BV A (.cons a2 .nil)
  ·rintro H' ⟨as,s2,M,A⟩;have el:f.take (nV f).length=f:=by unfold nV;rw[z3,y1]
   rw[el]at A;have w:=s1.trans s2;have Z:(BB r P).getD i none=none:=by unfold BB;rw[getD_map' _ _ _ _ _ hq];cases b9:r.endValue (pB q)with|none=>rfl|some z=>exact absurd (Kg.mpr (by rw[b9];exact fun z=>nomatch z)) a7
   have a9:=I.fx;rw[B]at a9;have L:=a9.eq i (by rw[lv];exact X);rw[Z]at L;dsimp only at L;rw[d]at L;obtain⟨wv,b5,G⟩:=To (side:=(Cd P).getD i 0) (vs:=f.map fun j=>a.getD j none) (I.g.gr.nJ i) (fun v U=>by obtain⟨j,Y,rfl⟩:=zk.mp U;exact n j) (by intro z;rw[ya]at z;rw[z]at d;rw[I.g.Zh i q hq,ya]at d;exact a7 d);rw[<-L]at G;obtain⟨j0,b7,rfl⟩:=zk.mp b5;obtain⟨c,j,hc,a8,R⟩:=Nt (p:=fun j=>good (a.getD i none) (a.getD j none)) (l:=f) ⟨j0,b7,G⟩;exists .inl ⟨rfl,_,AJ.of M⟩,_,rfl,D,O,as,f.map fun j=>Cw (a.getD j none),Zk (a.getD i none),c,rfl,rfl,AJ.of M,?_,s2 _ _ C,?_,?_;·exact HQ _ (Am (fun Y Y=>w _ _) A)
   ·rw[z7,hc];show some (Cw (a.getD j none))=_;rw[(Oo (n i) (n j)).mpr a8]
   ·intro m hm z;rw[z7,zy]at z;obtain⟨j',W,e'⟩:=z;exact R m j' hm W ((Oo (n i) (n j')).mp e')
   ·exact k H' c j w (by rw[d];exact hc) a8 fun c' j' c0 W=>R c' j' c0 (by rw[<-d];exact W)
 ·intro u;exists _,rfl,rfl,_,rfl;cases U:a.getD i none with|none=>rw[U]at u s;refine BJ rfl ⟨K2,fun O C=>u _ _ ⟨O,rfl,Af C,Aa⟩⟩ |some x=>have b4:=n i x U;rw[U]at u s;refine B9 (by have:=Lq (v:=some x) (fun y hy=>by cases hy;exact b4);exact this) ⟨_,rfl,_,rfl,e,aE,dx,_,_,rfl,he,J.ec.cl,J.ec.nW,G1 pl nd fl S,_,rfl,S,_,_,V.ref ti,rfl,rfl,AJ.of hw,AN (by rw[z7,a5];rfl),ti,_,_,V.int (x.2:Nat),rfl,rfl,.of s,rfl,_,_,rfl,rfl,K2,fun O C=>u _ _ ⟨O,rfl,Af C,Aa⟩⟩
abbrev qJ:List Str:=["worth","who","lengths","value"]
theorem jl:Ah qJ ["worth","who"] (Ad M3):={}
theorem KJ(Zf:AY):FK 1 "longest_for" ["worth","who"] (O3 K):=by
 refine Zf.N_.has fun F=>F.ok jl fun H Q E hr h=>?_;obtain⟨wl,d,f,rfl,⟨tw,hw,pw⟩,s,a5,B,k⟩:=h;exists%[FX (i:=2) (tt:=Ou (Ry nM (Ry (ay K) (Bj 3) (tC (.int 0))) (Bj 1))) (te:=Ry (ay K) (Bj 3) (tC (.int 1))) (own:=[("value",3)]) rfl jl.nd rfl rfl (Il rfl rfl rfl rfl) (BM (pv 0)) (Dn (N0:=qJ) (sc0:=Ad M3) rfl rfl ∎) (fun Y Y Y Y Y=>Aw (i:=3) jl.nd) (fun Y Y Y Y Y=>WA (Ao AZ (Az Bf (pv 3) Ae) (pv 1))) (fun Y Y Y Y Y=>Az Bf (pv 3) Ae),AM (FW (IH (pv 2) (fun Y=>rfl))) (Ag (Aj (AF (#v[Ae,Ae])))) Au|Aj (AF (#v[AO (VC rfl) Zf.bC Gw (#v[pv 2]),B5 zK vV so (Pd hr.units) (pv 0) (#v[B3 (#v[pv 1,AO (VC rfl) Zf.bC Gw (#v[pv 2])])])]))];refine⟨_,rfl,wl,rfl,⟨_,AJ.of hw⟩,fun ll X=>?_⟩;let L:Nat->List Nat:=fun i=>((d.take i).filter fun v=>sureFor v f).map many;refine Dc (xs:=tw.map V.ref) (Xn H ll fun i=>nV (L i)) (IX X rfl) (fun i H' Y q=>AJ.of (q.1 _ _ hw)) ?_ ?_
 ·rintro i v H' hi q;obtain⟨t,ht,rfl⟩:∃t,tw[i]?=some t/\v= .ref t:=by rw[z7,zy]at hi;obtain⟨c,e,rfl⟩:=hi;exact⟨c,e,rfl⟩
  obtain⟨v,C,M⟩:=AB pw ht;have T:=s v (zf C);have a6:i<d.length:=(z8.mp C).1;have hL:L (i+1)=L i++if sureFor v f=true then[many v]else[]:=by show((d.take (i+1)).filter _).map _=_;rw[yi,C,xP,rE,zu,wX,qo];split<;>rfl
  exists rfl,_,rfl,t,_,_,V.int (Cw v).1,rfl,rfl,.of (q.1 _ _ M),rfl,_,rfl,rfl,_,rfl;by_cases hs:sureFor v f=true
  ·rw[zc hs]at hL;refine BJ ((LQ T B).trans hs) ⟨_,rfl,t,_,_,V.int (Cw v).2,rfl,rfl,.of (q.1 _ _ M),rfl,Gp X q ?_ (AR _) ?_⟩;·show(nV (L i)).length<_;unfold nV;rw[z3,z3];have:=xy (fun v=>sureFor v f) (d.take i);rw[zO]at this;have:(200:Nat)<sizeLine:=⋯;lia
   ·show nV (L (i+1))=nV (L i)++_;rw[hL];unfold nV;rw[zu];rw[BQ hs];rfl
  ·rw[zb hs,zR]at hL;rw[y4]at hs;exact B9 ((LQ T B).trans hs) (ib q (AR _) (by show nV (L (i+1))=nV (L i);rw[hL]))
 ·rintro H1 ⟨G,u⟩;have eL:L (tw.map V.ref).length=(d.filter fun v=>sureFor v f).map many:=by show((d.take _).filter _).map _=_;rw[z3,zE pw,y1]
  dsimp only at u;rw[eL]at u;generalize A:(d.filter fun v=>sureFor v f).map many=r at u;unfold TaflEnds.greatest at k;dsimp only at k;rw[A]at k;exists _,rfl,_,.inl ⟨_,AJ.of u,rfl⟩;cases o:r with
  |nil=>
   rw[o]at k;have I:d.findIdx? (fun v=>sureFor v f&&many v==([]:List Nat).foldl (fun a b=>max a b) 0)=none:=by
    rw[wx];intro v C;have:d.filter (fun v=>sureFor v f)=[]:=by rw[o,ya]at A;exact A
    rw[xm]at this;have:=this v C;rw[y4]at this;rw[this];rfl
   rw[I]at k;refine BJ rfl ⟨K2,fun l hl=>k _ l (G.trans (Af hl)) (G.free hl) Aa⟩
  |cons n0 a4=>
   refine B9 rfl ?_;have hg:r.foldl (fun a b=>max a b) 0∈r:=by
    rcases Nq r 0 with h|h;·rw[o]at h|-;rw[h];have:=Co (n0::a4) 0 n0 zh;have:n0=0:=∅;rw[this];exact zh
    ·exact h
   have Z:∀y∈r,y<=r.foldl (fun a b=>max a b) 0:=fun y S=>Co r 0 y S;generalize a7:r.foldl (fun a b=>max a b) 0=g at k hg Z;have R:∀m,m∈r.map (fun(n:Nat)=>(n:Int))->(∀y,y∈r.map (fun(n:Nat)=>(n:Int))->y<=m)->m=(g:Int):=fun m W S=>by obtain⟨n,hn,rfl⟩:=zk.mp W;have h1:=Z n hn;have h2:=S (g:Int) (zk.mpr ⟨g,hg,rfl⟩);show((n:Nat):Int)=(g:Int);lia
   have N:∀{Hx:Hp},Ap H1 Hx->AJ K Hx ll ((r.map (fun(n:Nat)=>(n:Int))).map V.int):=fun{Hx} sx=>AJ.of (by rw[sx _ _ u];unfold nV;rw[zG];rfl);have O:0<(r.map (fun(n:Nat)=>(n:Int))).length:=by rw[z3,o];exact Nat.succ_pos _
   refine⟨_,rfl,ll,_,rfl,N (AR _),O,fun m W S=>?_⟩;obtain rfl:=R m W S;refine⟨_,rfl,.inl ⟨rfl,_,AJ.of (G _ _ hw)⟩,_,rfl,_,rfl,ll,_,rfl,N (AR _),O,fun m2 a2 a0=>?_⟩;obtain rfl:=R m2 a2 a0;refine⟨K2,fun tn a1=>?_⟩;have w:Ap H1 (Av H1 tn (.tup [.int (f:Nat),.int (g:Nat)])):=Af a1;have P:∀v,Of v->(Cw v=(((f:Nat):Int),((g:Nat):Int))↔(sureFor v f&&many v==g)=true):=fun v C=>by
    cases v with
    |none=>
     constructor;·intro z;have J:=zT Prod.fst z;change(2:Int)=((f:Nat):Int)at J;lia
     ·intro z;cases z
    |some x=>
     show _↔((x.1==f)&&(x.2==g))=true;rw[zp,zP,zP];constructor;·intro z;have J:=zT Prod.fst z;have z2:=zT Prod.snd z;change((x.1:Nat):Int)=((f:Nat):Int)at J;change((x.2:Nat):Int)=((g:Nat):Int)at z2;lia
     ·rintro⟨J,z2⟩;show(((x.1:Nat):Int),((x.2:Nat):Int))=_;rw[J,z2]
   obtain⟨c,v,hc,hp,D⟩:=Nt (p:=fun v=>sureFor v f&&many v==g) (l:=d) (by rw[<-A]at hg;obtain⟨v,C,e⟩:=zk.mp hg;obtain⟨h1,h2⟩:=zS.mp C;exact⟨v,h1,by rw[h2,e];simp⟩);have a3:d.findIdx? (fun v=>sureFor v f&&many v==g)=some c:=by rw[yL];obtain⟨h1,h2⟩:=z8.mp hc;exact⟨h1,by rw[h2];exact hp,fun j hj=>D j _ hj (z4 _)⟩
   exists wl,tn,tw,d.map Cw,(((f:Nat):Int),((g:Nat):Int)),c,rfl,rfl,AJ.of (w _ _ (G _ _ hw)),HQ _ (Am (fun Y Y z=>w _ _ (G _ _ z)) pw),Aa,?_,?_;·rw[z7,hc];show some (Cw v)=_;rw[(P v (s v (zf hc))).mpr hp]
   ·intro m W z;rw[z7,zy]at z;obtain⟨v',U,e'⟩:=z;exact D m v' W U ((P v' (s v' (zf U))).mp e')
   ·rw[a3]at k;refine⟨K2,fun l hl=>k _ l ((G.trans w).trans (Af hl)) ((G.trans w).free hl) Aa⟩
theorem TX{a:List Tafl.Value}(h:∀v∈a,Of v){who:Nat}(d:who<=1):(a.map fun v=>(Cw v).1).count (who:Int)=howMany a who:=by
 unfold howMany;induction a with
 |nil=>rfl
 |cons v l b=>
  rw[zH,ur,b fun x c=>h x (zg _ c),wX];have e:((Cw v).1==(who:Int))=sureFor v who:=by rw[<-LQ (h v zh) d,Ey];rfl
  rw[e];cases sureFor v who<;>simp
theorem gz{a:List Tafl.Value}(h:∀v∈a,Of v):(a.map fun v=>(Cw v).1).count 2=(a.filter fun(v:Tafl.Value)=>v==none).length:=by
 induction a with
 |nil=>rfl
 |cons v l b=>
  rw[zH,ur,b fun x c=>h x (zg _ c),wX];have e:((Cw v).1==2)=(v==none):=by have:=Lq (h v zh);rw[Ey]at this;rw[zZ,zP,zP];have:=y3.mp this;exact this
  rw[e];cases(v==none)<;>simp
abbrev pP:List Str:=["self","winners","counts","value","who"]
theorem XB:Ah pP ["self"] (Ad Wq):={}
theorem cg(d:AY):b_ 2 aE "sums" ["self"] (Z1 aE):=by
 refine d.Qy.has fun F=>F.ok XB fun H Q E hr h=>?_;obtain⟨e,r,ps,fs,rfl,G,k⟩:=h;obtain⟨dx,P,R,fl,w,he,hP,hN,hF,⟨B,D,C⟩⟩:=G.ex;have b:=G.who;have S:=G.Xs;have g:=G.g.small;exists%[An (i:=1) XB.nd (Ga (te:=Ry (ay K) (Bj 3) (tC (.int 0))) (own:=[("value",3)]) rfl XB.nd (BM (Al (pv 0))) (Dn (N0:=pP) (sc0:=Ad Wq) rfl rfl ∎) (fun Y Y Y Y Y=>Aw (i:=3) XB.nd) (fun Y Y Y Y Y=>Ci) (fun Y Y Y Y Y=>Az Bf (pv 3) Ae)),FX (i:=2) (te:=p_ K "list" (W7 K) (Bj 1) (Be (Bj 4) Ca)) (own:=[("who",4)]) rfl XB.nd rfl rfl (Il rfl rfl rfl rfl) (Qn (B3 (#v[AD (v:= .int 0) rfl (C3 d.Ko) ⟨_,rfl⟩,AD (v:= .int 1) rfl (C3 d.F0) ⟨_,rfl⟩,AD (v:= .int 2) rfl (C3 d.Ff) ⟨_,rfl⟩]))) (Dn (N0:=pP) (sc0:=Ad Wq) rfl rfl ∎) (fun Y Y Y Y Y=>Aw (i:=4) XB.nd) (fun Y Y Y Y Y=>Ci) (fun Y Y Y Y Y=>B5 zK PySem.F.slot_list_count PySem.F.type_list_count Ye (pv 1) (#v[pv 4])) |Aj (AA Ed (AA Ed (pv 2) (Ay (KJ d) hr rfl Ar (#v[Al (pv 0),AD (v:= .int 0) rfl (C3 d.Ko) ⟨_,rfl⟩]))) (Ay (KJ d) hr rfl Ar (#v[Al (pv 0),AD (v:= .int 1) rfl (C3 d.F0) ⟨_,rfl⟩])))];generalize U:r.values (ps.map pB)=a at*;refine⟨_,rfl,e,aE,dx,_,_,rfl,he,d.ec.cl,d.ec.nW,G1 P R fl w,w,rfl,⟨_,AJ.of D⟩,fun x y=>?_⟩;refine Dc (xs:=B.map V.ref) (Xn H x fun i=>(a.take i).map fun v=>V.int (Cw v).1) (IX y rfl) (fun i H' Y q=>AJ.of (q.1 _ _ D)) ?_ ?_
 ·rintro i v H' l q;obtain⟨t,ht,rfl⟩:∃t,B[i]?=some t/\v= .ref t:=by rw[z7,zy]at l;obtain⟨c,e,rfl⟩:=l;exact⟨c,e,rfl⟩
  obtain⟨v,hv,L⟩:=AB C ht;have a6:i<ps.length:=by rw[<-S];exact(z8.mp hv).1
  refine⟨rfl,?_⟩;unfold HG;cbv;rw[zc rfl];refine⟨_,rfl,t,_,_,V.int (Cw v).1,rfl,rfl,.of (q.1 _ _ L),rfl,Gp y q ?_ (AR _) ?_⟩;·rw[z3,zO];have:(200:Nat)<sizeLine:=⋯;lia
  ·rw[yi,hv,zu];rfl
 ·rintro H1 ⟨s1,s⟩;dsimp only at s;rw[z3,zE C,y1]at s;refine⟨kZ,fun M W=>⟨M,rfl,⟨_,.of Aa⟩,fun I m=>?_⟩⟩;have N:Ap H1 (Av H1 M (.tup [.int 0,.int 1,.int 2])):=Af W;let J:List Nat:=[howMany a 0,howMany a 1,(a.filter fun(v:Tafl.Value)=>v==none).length];refine bO (xs:=[V.int 0,V.int 1,V.int 2]) (Xn (Av H1 M (.tup [.int 0,.int 1,.int 2])) I fun i=>nV (J.take i)) (IX m rfl) (fun i H' Y q=> .of (q.1 _ _ Aa)) ?_ ?_
  ·rintro i v H' l q;have Z:i<3:=(z8.mp l).1;refine⟨rfl,?_⟩;unfold HG;cbv;rw[zc rfl];have f:H' x=some (.lst ((a.map fun v=>(Cw v).1).map V.int)):=by rw[q.1 _ _ (N _ _ s),zG];rfl
   have u:(nV (J.take i)).length<sizeLine:=by unfold nV;rw[z3,zO];exact y2 (xH _ _) (by show 3<sizeLine;decide)
   match i,Z,l with|0,_,l=>cases l;refine⟨_,rfl,.inl ⟨rfl,_,AJ.of f⟩,_,rfl,x,_,0,rfl,rfl,AJ.of f,Gp m q u (AR _) ?_⟩;rw[show(a.map fun v=>(Cw v).1).count (0:Int)=howMany a 0 from TX (who:=0) b ⋯];rfl|1,_,l=>cases l;refine⟨_,rfl,.inl ⟨rfl,_,AJ.of f⟩,_,rfl,x,_,1,rfl,rfl,AJ.of f,Gp m q u (AR _) ?_⟩;rw[show(a.map fun v=>(Cw v).1).count (1:Int)=howMany a 1 from TX (who:=1) b ⋯];rfl|2,_,l=>cases l;refine⟨_,rfl,.inl ⟨rfl,_,AJ.of f⟩,_,rfl,x,_,2,rfl,rfl,AJ.of f,Gp m q u (AR _) ?_⟩;rw[gz b];rfl
  ·rintro H2 ⟨s2,a0⟩;have p:Ap H H2:=(s1.trans N).trans s2;have A:H2 I=some (.lst (nV J)):=a0;have a3:H I=none:=(s1.trans N).free m;refine⟨_,rfl,_,rfl,e,aE,dx,_,_,rfl,p _ _ he,d.ec.cl,d.ec.nW,G1 P R fl w,w,a,0,rfl,⟨B,p _ _ D,Am (fun Y Y=>p _ _) C⟩,b,by rw[S];exact g,⋯,fun H3 l3 s3 a5 a2=>?_⟩;have T:∀n,(nV (TaflEnds.greatest a n)).length=2:=fun n=>rfl;refine⟨I,l3,_,_,rfl,rfl,s3 _ _ A,a2,(by rw[T];show 3+2<=sizeLine;decide),fun l4 X=>?_⟩;have s4:=Af (o:= .lst (nV J++nV (TaflEnds.greatest a 0))) X;have j:=(p.trans s3).trans s4;refine⟨_,rfl,e,aE,dx,_,_,rfl,j _ _ he,d.ec.cl,d.ec.nW,G1 P R fl w,w,a,1,rfl,⟨B,j _ _ D,Am (fun Y Y=>j _ _) C⟩,b,by rw[S];exact g,⋯,fun H5 l5 O a4 a1=>?_⟩;refine⟨l4,l5,_,_,rfl,rfl,O _ _ Aa,a1,(by rw[zd,T,T];show 3+2+2<=sizeLine;decide),fun l6 z=>?_⟩;refine k _ l6 ((j.trans O).trans (Af z)) ((j.trans O).free z) ?_;rw[Aa];unfold nV;rw[zu,zu,zX]
def V5(a b:V):List (Str×V):=[("hall",a),("ending",b)]
theorem DM(a b):(V5 a b).lookup ("hall":Str)=some a:=#v[]
theorem V4(b a):(V5 b a).lookup ("ending":Str)=some a:=#v[]
theorem Df{m:Str}(a d:V)(c:¬m="hall")(b:¬m="ending"):(V5 a d).lookup m=none:=by unfold V5;rw[yp,zL.mpr c,yp,zL.mpr b];rfl
theorem gu(b a v:V):By "hall" v (V5 b a)=V5 v a:=#v[]
theorem Xg(a b v:V):By "ending" v (V5 a b)=V5 a v:=#v[]
def Uj(C:Addr)(H:Hp)(v:V):Option Rules->Prop|none=>v= .B0|some r=>∃a,v= .ref a/\Bg C H a r
def Xo(d:Addr)(H:Hp)(v:V)(b:Option Rules):Option Held->Prop|none=>v= .B0|some h=>∃r e a c,b=some r/\v= .ref e/\Dg d H e r a c/\h=⟨a.map pB,r.values (a.map pB)⟩
inductive Ba(CD C CE:Addr)(H:Hp)(d:Addr)(s:TaflEnds.State):Prop|mk(dx hv ev:_):H d=some (.ins CD dx (V5 hv ev))->Uj C H hv s.rules->Xo CE H ev s.rules s.held->Ba CD C CE H d s
def nk(o:HO):Prop:=∀C b a,o= .ins C b a->a.length≠2
def Kp(H H':Hp):Prop:=∀b o,H b=some o->nk o->H' b=some o
theorem GF(s:Ap H H'):Kp H H':=fun b o e Y=>s b o e
theorem Vh{g:Addr}{a:List (Str×V)}(c:H f=some (.ins C g a))(d:a.length=2)(h:DA f H H'):Kp H H':=fun b o e n=>h b o e fun z=>by rw[z,c]at e;cases e;exact n _ _ _ rfl d
theorem Bg.kp{r:Rules}(h:Bg C H a r)(s:Kp H H'):Bg C H' a r:=by obtain⟨⟨l,d,m,j,i,g,f⟩,Z,N⟩:=h;exact⟨⟨l,d,m,s _ _ j (fun o k n e=>by cases e;exact fun z=>absurd z (by show¬(11:Nat)=2;decide)),s _ _ i (fun Y Y Y e=>nomatch e),g,fun c b e=>s _ _ (f c b e) fun Y Y Y e=>nomatch e⟩,Z,N⟩
theorem Dg.kp{c:Addr}{e:Addr}{r:Rules}{b:List Bd}{a:List (List Nat)}(h:Dg c H e r b a)(s:Kp H H'):Dg c H' e r b a:=by obtain⟨⟨B,l,o,v,d,q,⟨k,n,m⟩,p,⟨t,y,x,w⟩,⟨j,i,f⟩⟩,g,u⟩:=h;refine⟨⟨B,l,o,v,d,s _ _ q (fun C A a e=>by cases e;exact fun z=>absurd z (by show¬(4:Nat)=2;decide)),⟨k,s _ _ n (fun Y Y Y e=>nomatch e),Am (fun Y Y z=>s _ _ z fun Y Y Y e=>(by cases e)) m⟩,s _ _ p (fun Y Y Y e=>nomatch e),⟨t,s _ _ y (fun Y Y Y e=>nomatch e),Am (fun Y Y z=>s _ _ z fun Y Y Y e=>(by cases e)) x,w⟩,⟨j,s _ _ i (fun Y Y Y e=>nomatch e),Am (fun Y Y z=>s _ _ z fun Y Y Y e=>(by cases e)) f⟩⟩,g,u⟩
theorem Uj.kp{v:V}{b:Option Rules}(h:Uj C H v b)(s:Kp H H'):Uj C H' v b:=by cases b with|none=>exact h|some r=>obtain⟨a,e,h⟩:=h;exact⟨a,e,h.kp s⟩
theorem Xo.kp{c:Addr}{v:V}{b:Option Rules}{a:Option Held}(h:Xo c H v b a)(s:Kp H H'):Xo c H' v b a:=by cases a with|none=>exact h|some x=>obtain⟨r,e,d,k,j,i,g,f⟩:=h;exact⟨r,e,d,k,j,i,g.kp s,f⟩
theorem Ba.same{c b:Addr}{d:Addr}{s:TaflEnds.State}(h:Ba c C b H d s)(a:Ap H H'):Ba c C b H' d s:=by obtain⟨k,e,j,i,g,f⟩:=h;exact⟨k,e,j,a _ _ i,g.kp (GF a),f.kp (GF a)⟩
theorem Ba.feed{j i:Addr}{d r b k:Addr}{s:TaflEnds.State}(h:Ba j C i H d s)(e:H f=some (.ins r b (QI k p)))(g:DA f H H'):Ba j C i H' d s:=by obtain⟨q,l,o,a,n,m⟩:=h;have c:=Vh e rfl g;refine⟨q,l,o,g _ _ a fun z=>?_,n.kp c,m.kp c⟩;rw[z,e]at a;injection a with a;injection a with _ _ a;injection a with a _;injection a with a _;exact absurd a ∎
def DC(K:Frag)(a:Addr)(ns:List Int)(H:Hp)(E:XK):Prop:=∀C,dJ K a C->Ref C ns H E
theorem DC.same{b:Addr}{a:Hp}{E:XK}(h:DC K b ns H E)(s:Ap H a):DC K b ns a E:=fun C c=>(h C c).same s
structure Out(K:Frag)(C0 CD C CE d:Addr)(s:TaflEnds.State)(c:Call)(H:Hp)(Q:VK)(E:XK):Prop where
 ok:∀H' l,Ba CD C CE H' d (TaflEnds.step s c).1->DA d H H'->H l=none->H' l=some (.lst ((TaflEnds.step s c).2.nums.map V.int))->Q (.ref l) H'
 no:(TaflEnds.step s c).1=s->DC K C0 (TaflEnds.step s c).2.nums H E
inductive Wj(CD C CE:Addr):_|mk(H0:Hp)(e:Addr):vs=[.ref e]->(∃dx,H e=some (.ins CD dx []))->Ap H0 H->H0 e=none->(∀H',Ba CD C CE H' e TaflEnds.start->Ap H0 H'->Q .B0 H')->Wj CD C CE vs H Q E
theorem oI:Ah ["self"] ["self"] (Ad ab):={}
theorem Yz(a:AY):nS 1 aD ["self"] (Wj aD aH aE):=by refine a.jX.has fun F=>F.ok oI fun H Q E i h=>?_;obtain⟨j,e,rfl,⟨d,f⟩,b,c,k⟩:=h;exists%[B2 (pv 0) MD|B2 (pv 0) MD];exists _,rfl,e,aD,d,_,rfl,f,a.dc.cl,a.dc.nH,(by show 0<1000;decide),_,rfl,e,aD,d,_,rfl,Aa,a.dc.cl,a.dc.nE,(by show 1<1000;decide);rw[DH];have g:By "ending" V.B0 (By "hall" V.B0 [])=V5 .B0 .B0:=#v[];rw[g];exact k _ ⟨d,.B0,.B0,Aa,rfl,rfl⟩ (Bv b c)
inductive Mc(K:Frag)(C0 CD C CE:Addr):_|mk(d:Addr)(x:Str)(b:Bytes)(s:TaflEnds.State):vs=[.ref d,.str x]->Tx x b->Ba CD C CE H d s->Out K C0 CD C CE d s (.rules b) H Q E->Mc K C0 CD C CE vs H Q E
theorem o3:Ah ["self","text"] ["self","text"] (Ad OG):={}
theorem QA(a:AY):Zg 8 aD "set_rules" ["self","text"] (Mc K aZ aD aH aE):=by
 refine a.Lh.has fun F=>F.Jw o3 fun H Q E G h D=>?_;obtain⟨d,x,b,c,rfl,B,⟨q,N,P,I,O,R⟩,k⟩:=h;exists%[B2 (pv 0) (Ay (NV a) G rfl D.passes (#v[pv 1])),B2 (pv 0) MD|Aj (AF (#v[Ae]))];exists _,rfl,x,b,rfl,B;obtain⟨g,i⟩:=k;cases A:judge b with
 |error f=>
  have e:TaflEnds.step c (.rules b)=(c,fault (-6) f.1 f.2):=by show(match judge b with| .error (k,p)=>(c,fault (-6) k p) | .ok r=>(⟨some r,none⟩,says 0))=_;rw[A]
  rw[e]at i;exact i rfl _ a.MA
 |ok r=>
  have e:TaflEnds.step c (.rules b)=(⟨some r,none⟩,says 0):=by show(match judge b with| .error (k,p)=>(c,fault (-6) k p) | .ok r=>(⟨some r,none⟩,says 0))=_;rw[A]
  rw[e]at g;intro y s u M J;have m:=u _ _ I;exists _,rfl,d,aD,q,_,rfl,m,a.dc.cl,a.dc.nH,(by show 2<1000;decide);rw[gu];exists _,rfl,d,aD,q,_,rfl,Aa,a.dc.cl,a.dc.nE,(by show 2<1000;decide);rw[Xg,DH];refine⟨Ju,fun l j=>?_⟩;have L:DA d H (Av y d (.ins aD q (V5 (.ref s) .B0))):=fun w o e n=>by rw[Ac n];exact u _ _ e
  have t:=Af (o:= .lst [.int 0]) j;have C:Kp y (Av y d (.ins aD q (V5 (.ref s) .B0))):=Vh m rfl fun w o e n=>by rw[Ac n];exact e
  have v:l≠d:=fun z=>by rw[z,Aa]at j;cases j
  refine g _ l ⟨q,.ref s,.B0,t _ _ Aa,⟨s,rfl,(J.kp C).same t⟩,rfl⟩ (fun w o e n=>t _ _ (L w o e n)) (u.free (by rw[Ac v]at j;exact j)) Aa
def gP(K:Frag)(c i:Addr)(s:TaflEnds.State)(b:Bytes)(a:Nat)(H:Hp)(Q:VK)(E:XK):Prop:=match s.rules with|none=>DC K c [-3] H E|some r=>match r.readLine b with| .error f=>DC K c [-5,(f.1:Nat),(f.2:Nat)] H E| .ok p=>if a=0\/200<a then DC K c [-1] H E else match graphOf r a p with|none=>DC K c [-9] H E|some g=>∀H' e d h,Dg i H' e r d h->d.map pB=g->Ap H H'->H e=none->Q (.ref e) H'
inductive gW(K:Frag)(C0 CD C CE:Addr):_|mk(d:Addr)(x:Str)(b:Bytes)(most:Nat)(s:TaflEnds.State):vs=[.ref d,.int (most:Nat),.str x]->Tx x b->Ba CD C CE H d s->gP K C0 CE s b most H Q E->gW K C0 CD C CE vs H Q E
theorem bw(a:Addr):decide (V.ref a=V.B0)=false:=zo fun z=>nomatch z
abbrev v8:List Str:=["self","most","line","first"]
theorem mf:Ah v8 ["self","most","line"] (Ad RV):={}
theorem KL(j:AY):Zg 9 aD "all_that_comes" ["self","most","line"] (gW K aZ aD aH aE):=by
 refine j.Gg.has fun F=>F.Jw mf fun H Q E A h n=>?_;obtain⟨d,x,b,c,T,rfl,R,⟨G,L,D,B,s,eV⟩,k⟩:=h;have m:AW 3 _:=A.mono ⋯;have y:AW 6 _:=A.mono ⋯;exists%[AM (Ao bb (Al (pv 0)) MD) (Ag (DZ (Ct j) m.h rfl rfl n.weak)) Au,An (i:=3) mf.nd (Ay (Jc j) y rfl n.passes (#v[Al (pv 0),pv 2])),AM (hR (Ao FC (pv 1) Ae) (aB (Ao be (pv 1) (AD (v:= .int 200) (by rfl) (C3 j.Lo) ⟨_,rfl⟩)))).pt (Ag (DZ (Hw j) m.h rfl rfl n.weak)) Au|Aj (IL (Th j) A rfl j.cx n.weak.passes (#v[Al (pv 0),pv 3,pv 1]))];refine CU (DG ⟨_,rfl,d,aD,G,_,_,rfl,B,j.dc.cl,j.dc.nH,DM L D,rfl,_,rfl,?_⟩);unfold gP at k;cases N:T.rules with
 |none=>rw[N]at k s;have C:L= .B0:=s;subst C;exact BJ (zj rfl) (D_ (Ct j) (k _ j.FV))
 |some r=>
  rw[N]at k s;obtain⟨a,rfl,P⟩:=s;dsimp only at k;refine B9 (bw a) ⟨_,rfl,d,aD,G,_,_,rfl,B,j.dc.cl,j.dc.nH,DM _ D,_,rfl,a,x,b,r,rfl,P,R,?_⟩;cases O:r.readLine b with
  |error f=>rw[O]at k;exact k _ j.Hq
  |ok p=>
   rw[O]at k;dsimp only at k;intro J S q l nt Z GB ep;refine Ax ?_;cbv;refine CU (DG (iT (decide ((c:Int)<1)) (decide ((200:Int)<(c:Int))) (fun Q' t=>⟨_,rfl,_,_,rfl,rfl,_,rfl,t⟩) (fun Y Q' t=>⟨_,rfl,_,_,rfl,rfl,_,rfl,t⟩) ?_));by_cases hm:c=0\/200<c;·rw[zc hm]at k;refine BJ ?_ (D_ (Hw j) ((k _ j.Sd).same l));rw[yt,zq,zq];lia
   ·rw[zb hm]at k;refine B9 ?_ ?_;·rw[ux,yY,yY];lia
    ·refine⟨_,rfl,d,aD,G,_,_,rfl,l _ _ B,j.dc.cl,j.dc.nH,DM _ D,_,rfl,_,rfl,fun e I u w X=>?_⟩;have V:Ap J (Av (Av J I (.own e)) e (.ins aE I [])):=fun b' o z=>by rw[Ac (Ab z u),Ac (Ab z w)];exact z
     exists J,e,a,S,r,q,c,rfl,⟨I,Aa⟩,V,u,P.same l,Z,GB,∅,∅;rw[ep];cases M:graphOf r c p with|none=>rw[M]at k;exact(k _ j.XI).same l|some g=>rw[M]at k;exact fun H2 W fs hE e2 U=>⟨rfl,k H2 e W fs hE e2 (l.trans U) (l.free u)⟩
inductive O7(K:Frag)(C0 CD C CE:Addr):_|mk(d:Addr)(x:Str)(b:Bytes)(most:Nat)(s:TaflEnds.State):vs=[.ref d,.int (most:Nat),.str x]->Tx x b->Ba CD C CE H d s->Out K C0 CD C CE d s (.find b most) H Q E->O7 K C0 CD C CE vs H Q E
theorem P2(s:TaflEnds.State)(b:Bytes)(a:Nat):TaflEnds.step s (.find b a)=match s.rules with|none=>(s,says (-3)) |some r=>match r.readLine b with| .error f=>(s,fault (-5) f.1 f.2) | .ok p=>if a=0\/200<a then(s,says (-1))else match graphOf r a p with|none=>(s,says (-9)) |some g=>(⟨s.rules,some ⟨g,r.values g⟩⟩,says (g.length:Nat)):=by show ofLine s b _=_;unfold ofLine;cases c:s.rules with|none=>rfl|some r=>cbv;cases r.readLine b with|error f=>rfl|ok p=>rfl
theorem M_(s:TaflEnds.State)(b:Bytes)(a:Nat)(t:List Nat):TaflEnds.step s (.judge b a t)=match s.rules with|none=>(s,says (-3)) |some r=>match r.readLine b with| .error f=>(s,fault (-5) f.1 f.2) | .ok p=>if a=0\/200<a then(s,says (-1))else match graphOf r a p with|none=>(s,says (-9)) |some g=>(s,says (if(r.values g).map Tafl.code=t then 1 else 0)):=by
 show ofLine s b _=_;unfold ofLine;cases c:s.rules with
 |none=>rfl
 |some r=>
  cbv;cases r.readLine b with
  |error f=>rfl
  |ok p=>
   cbv;by_cases hm:a=0\/200<a;·rw[zc hm,zc (show a=0\/TaflEnds.MOST<a from hm)]
   ·rw[zb hm,zb (show¬(a=0\/TaflEnds.MOST<a)from hm)];cases graphOf r a p<;>rfl
abbrev vh:List Str:=["self","most","line"]
theorem oF:Ah vh ["self","most","line"] (Ad RP):={}
theorem Tf(j:AY):Zg 10 aD "find_all" ["self","most","line"] (O7 K aZ aD aH aE):=by
 refine j.MW.has fun F=>F.Jw oF fun H Q E Z h X=>?_;obtain⟨d,x,b,i,A,rfl,S,N,c,a⟩:=h;obtain⟨s,D,ev,I,J,eV⟩:=id N;exists%[B2 (pv 0) (AH (KL j) (pv 0) j.dc.cl Z X.passes (#v[pv 1,pv 2])) |Aj (AF (#v[AO AV j.D6 y8 (#v[Al (Al (pv 0))])]))];exists _,rfl,d,s,_,rfl,I,Df _ _ ∎ ∎,_,rfl,_,rfl,d,x,b,i,A,rfl,S,N;rw[P2]at c a;unfold gP;cases L:A.rules with
 |none=>rw[L]at a;exact a rfl
 |some r=>
  rw[L]at c a J;dsimp only at c a|-;cases M:r.readLine b with
  |error f=>rw[M]at a;exact a rfl
  |ok p=>
   rw[M]at c a;dsimp only at c a|-;by_cases hm:i=0\/200<i;·rw[zc hm]at a|-;exact a rfl
   ·rw[zb hm]at c a|-;cases G:graphOf r i p with
    |none=>rw[G]at a;exact a rfl
    |some g=>
     rw[G]at c;dsimp only at c;intro P e U fs hE O u ne;have m:=u _ _ I;exists _,rfl,d,aD,s,_,rfl,m,j.dc.cl,j.dc.nE,(by show 2<1000;decide);rw[Xg];have C:Kp P (Av P d (.ins aD s (V5 D (.ref e)))):=Vh m rfl fun b' o e n=>by rw[Ac n];exact e
     have q:=hE.kp C;obtain⟨de,B,W,fl,R,he,⟨T,y,w⟩,Y⟩:=q.ex;refine⟨_,rfl,d,aD,s,_,_,rfl,Aa,j.dc.cl,j.dc.nE,V4 _ _,e,aE,de,_,_,rfl,he,j.ec.cl,j.ec.nP,Nv B W fl R,B,_,rfl,.inl (AJ.of y),Ju,fun l k=>?_⟩;have t:=Af (o:= .lst [.int (((T.map V.ref).length:Nat):Int)]) k;have v:l≠d:=fun z=>by rw[z,Aa]at k;cases k
     refine c _ l ⟨s,D,.ref e,t _ _ Aa,(Uj.kp (J.kp (GF u)) C).kp (GF t),r,e,U,fs,rfl,rfl,q.kp (GF t),by rw[O]⟩ (fun b' o z n=>t _ _ (by rw[Ac n];exact u _ _ z)) (u.free (by rw[Ac v]at k;exact k)) ?_;rw[Aa,z3,zE w,<-O,z3];rfl
def PN(K:Frag)(d c:Addr)(s:TaflEnds.State)(H:Hp)(Q:VK)(E:XK):Prop:=match s.held with|none=>DC K d [-3] H E|some h=>∀e r a b,s.rules=some r->Dg c H e r a b->h=⟨a.map pB,r.values (a.map pB)⟩->Q (.ref e) H
inductive Z5(K:Frag)(C0 CD C CE:Addr):_|mk(d:Addr)(s:TaflEnds.State):vs=[.ref d]->Ba CD C CE H d s->PN K C0 CE s H Q E->Z5 K C0 CD C CE vs H Q E
theorem oB:Ah ["self"] ["self"] (Ad gZ):={}
theorem Jd(a:AY):Zg 4 aD "held" ["self"] (Z5 K aZ aD aH aE):=by refine a.Vf.has fun F=>F.Jw oB fun H Q E p h o=>?_;obtain⟨d,m,rfl,⟨l,f,j,i,v,b⟩,k⟩:=h;exists%[AM (Ao bb (Al (pv 0)) MD) (Ag (DZ (Ct a) p.h rfl rfl o.weak)) Au|Aj (Al (pv 0))];refine CU (DG ⟨_,rfl,d,aD,l,_,_,rfl,i,a.dc.cl,a.dc.nE,V4 f j,rfl,_,rfl,?_⟩);unfold PN at k;cases g:m.held with|none=>rw[g]at k b;have c:j= .B0:=b;subst c;exact BJ (zj rfl) (D_ (Ct a) (k _ a.FV)) |some h=>rw[g]at k b;obtain⟨r,e,n,u,t,rfl,s,q⟩:=b;exact B9 (bw e) ⟨_,rfl,d,aD,l,_,_,rfl,i,a.dc.cl,a.dc.nE,V4 f _,k e r n u t s q⟩
def NA(K:Frag)(b d:Addr)(s:TaflEnds.State)(i:Nat)(H:Hp)(Q:VK)(E:XK):Prop:=match s.held with|none=>DC K b [-3] H E|some h=>if h.graph.length<=i then DC K b [-2] H E else∀e r a c,s.rules=some r->Dg d H e r a c->h=⟨a.map pB,r.values (a.map pB)⟩->i<a.length->Q (.ref e) H
inductive Wg(K:Frag)(C0 CD C CE:Addr):_|mk(d:Addr)(i:Nat)(s:TaflEnds.State):vs=[.ref d,.int (i:Nat)]->Ba CD C CE H d s->NA K C0 CE s i H Q E->Wg K C0 CD C CE vs H Q E
abbrev u4:List Str:=["self","number","ending"]
theorem lX:Ah u4 ["self","number"] (Ad OK):={}
theorem Fz(a:AY):Zg 5 aD "held_with" ["self","number"] (Wg K aZ aD aH aE):=by
 refine a.Li.has fun F=>F.Jw lX fun H Q E n h m=>?_;obtain⟨d,i,j,rfl,q,k⟩:=h;obtain⟨A,D,I,w,G,L⟩:=id q;have c:AW 3 _:=n.mono ⋯;exists%[An (i:=2) lX.nd (AU (Jd a) (pv 0) a.dc.cl n m.passes),AM (Ao bf (pv 1) (AO AV a.D6 y8 (#v[Al (pv 2)]))) (Ag (DZ (BX a) c.h rfl rfl m.weak)) Au|Aj (pv 2)];exists _,rfl,d,A,_,rfl,w,Df _ _ ∎ ∎,d,j,rfl,q;unfold NA at k;unfold PN;cases o:j.held with
 |none=>rw[o]at k;exact k
 |some h=>
  rw[o]at k;dsimp only at k|-;intro e r b y x p s;refine Ax ?_;obtain⟨B,l,u,z,t,v,⟨C,g,f⟩,Y⟩:=p.ex;refine CU (DG ⟨_,rfl,_,rfl,e,aE,B,_,_,rfl,v,a.ec.cl,a.ec.nP,Nv l u z t,l,_,rfl,.inl (AJ.of g),_,_,rfl,rfl,_,rfl,?_⟩);cbv;rw[z3,zE f];have J:h.graph.length=b.length:=by rw[s,z3]
  by_cases hi:b.length<=i;·rw[zc ∅]at k;exact BJ (zj ∅) (D_ (BX a) (k _ a.EN))
  ·rw[zb ∅]at k;exact B9 (zo ∅) ⟨_,rfl,k e r b y x p s ∅⟩
theorem DV{s:TaflEnds.State}{f:Rules->Held->Answer}(h:s.held=none):ofHeld s f=(s,says (-3)):=by unfold ofHeld;rw[h];cases s.rules<;>rfl
theorem DU{s:TaflEnds.State}{f:Rules->Held->Answer}{r:Rules}{h:Held}(b:s.rules=some r)(a:s.held=some h):ofHeld s f=(s,f r h):=by unfold ofHeld;rw[b,a]
theorem SH{r:Rules}(Z:B1 r)(p:Tafl.Pos):(r.line p).length<=1000:=by
 unfold Rules.line;rw[zd];have a:=Z.KU;have b:=Z.Vv;have:=M5 (fun i=>rowLine 0 (r.rowOf p (r.high-1-i))) (fun i=>by
  have e:(r.rowOf p (r.high-1-i)).length=r.wide:=by unfold Rules.rowOf;rw[z3,yj]
  have:=Et (r.rowOf p (r.high-1-i)) 0 ∅;lia) r.high;simp only[zm,yQ];lia
theorem QL:∀ns:List Int,NB K H (ns.map V.int) (ns.map PyData.int) |[]=> .nil|n::ns=> .cons (.int n) (QL ns)
theorem lay_ints:∀ns:List Int,PyData.canLayAll0 (ns.map PyData.int)=true|[]=>rfl|n::ns=>by show(PyData.canLay0 (.int n)&&PyData.canLayAll0 (ns.map PyData.int))=true;rw[lay_ints ns];rfl
theorem Nw:∀ns:List Int,PyData.depthAll (ns.map PyData.int)=0|[]=>rfl|n::ns=>by show max 0 (PyData.depthAll (ns.map PyData.int))=0;rw[Nw ns];rfl
theorem shaped_ints(ns:List Int):SeqAt.shaped (.list (ns.map PyData.int))=true:=by unfold SeqAt.shaped;rw[zp];refine⟨lay_ints ns,?_⟩;rw[zq];show PyData.depthAll (ns.map PyData.int)+1<=64;rw[Nw];decide
theorem T2:∀a ns:List Int,PyData.eqvAll (a.map PyData.int) (ns.map PyData.int)=decide (a=ns) |[],[]=>rfl|[],n::ns=>rfl|m::a,[]=>rfl|m::a,n::ns=>by show((m==n)&&PyData.eqvAll (a.map PyData.int) (ns.map PyData.int))=_;rw[T2 a ns,zZ];simp
theorem Qk{H0 a:Hp}{b l:Addr}{Q:VK}(e:a b=some (.lst [.int 0]))(d:a l=some (.lst (ns.map V.int)))(f:ns.length<=30001)(k:∀p,a p=none->Q (.ref p) (Av a p (.lst ((0::ns).map V.int)))):jz (.ref b) (.ref l) a Q:=by refine⟨b,l,_,_,rfl,rfl,e,d,?_,fun p c=>k p c⟩;rw[z3];show 1+ns.length<=sizeLine;have:(40000:Nat)<=sizeLine:=⋯;lia
inductive LZ(K:Frag)(C0 CD C CE:Addr):_|mk(d:Addr)(i:Nat)(s:TaflEnds.State):vs=[.ref d,.int (i:Nat)]->Ba CD C CE H d s->Out K C0 CD C CE d s (.pos i) H Q E->LZ K C0 CD C CE vs H Q E
abbrev rz:List Str:=["self","number","position"]
theorem lQ:Ah rz ["self","number"] (Ad OE):={}
theorem Q7(j:AY):Zg 6 aD "tell_line" ["self","number"] (LZ K aZ aD aH aE):=by
 refine j.Lf.has fun F=>F.Jw lQ fun H Q E D h hx=>?_;obtain⟨d,i,k,rfl,O,g,b⟩:=h;obtain⟨dx,hv,ev,U,W,Z⟩:=id O;have C:AW 3 _:=D.mono ⋯;have t:AW 1 _:=D.mono ⋯;exists%[An (i:=2) lQ.nd (Az AE (Al (AH (Fz j) (pv 0) j.dc.cl D hx.passes (#v[pv 1]))) (pv 1)) |Aj (AA Ed (AF (#v[Ae])) (Ay (E1 j) t rfl Ar (#v[Ay (Ti j) t rfl Ar (#v[Ay (Vs j) C rfl Ar (#v[Al (pv 0),pv 2])])])))];exists _,rfl,d,dx,_,rfl,U,Df _ _ ∎ ∎,_,rfl,d,i,k,rfl,O;replace g:∀H' l,Ba aD aH aE H' d (ofHeld k fun r h=>match h.graph[i]? with|none=>says (-2) |some p=>tells 0 [.text (r.line p)]).1->DA d H H'->H l=none->H' l=some (.lst ((ofHeld k fun r h=>match h.graph[i]? with|none=>says (-2) |some p=>tells 0 [.text (r.line p)]).2.nums.map V.int))->Q (.ref l) H':=g;replace b:(ofHeld k fun r h=>match h.graph[i]? with|none=>says (-2) |some p=>tells 0 [.text (r.line p)]).1=k->DC K aZ (ofHeld k fun r h=>match h.graph[i]? with|none=>says (-2) |some p=>tells 0 [.text (r.line p)]).2.nums H E:=b;unfold NA;cases M:k.held with
 |none=>rw[DV M]at b;exact b rfl
 |some h=>
  cbv;rw[M]at Z;obtain⟨f,e0,a0,a1,A,Y,Y,Y⟩:=Z;rw[DU A M]at g b;by_cases hi:h.graph.length<=i;·rw[zc hi];rw[xX hi]at b;exact b rfl
  ·rw[zb hi];intro e r R fs X N h4 y;have:f=r:=zt (A.symm.trans X);subst this;rw[X]at W;obtain⟨a,rfl,hA⟩:=W;obtain⟨de,S,nd,fl,wl,he,⟨B,I,w⟩,Y⟩:=N.ex;obtain⟨q,G⟩:∃q,R[i]?=some q:=⟨_,z4 y⟩;have s:i<B.length:=by rw[zE w];exact y
   obtain⟨q',v,hP⟩:=AB w (z4 s);rw[G]at v;cases v;have GB:=N.g.good q (zf G);have eg:h.graph[i]?=some (pB q):=by rw[h4];show(R.map pB)[i]?=_;rw[z7,G];rfl
   rw[eg]at g;dsimp only at g;refine⟨e,aE,de,_,_,rfl,he,j.ec.cl,j.ec.nP,Nv S nd fl wl,_,rfl,S,_,_,.ref B[i],rfl,rfl,AJ.of I,AN (by rw[z7,z4 s];rfl),Ax ⟨Ju,fun l0 L=>?_⟩⟩;have n:=Af (o:= .lst [.int 0]) L;refine⟨_,rfl,d,aD,dx,_,_,rfl,n _ _ U,j.dc.cl,j.dc.nH,DM _ _,_,rfl,a,B[i],f,q.1,q.2,rfl,hA.same n,n _ _ hP,GB.b,GB.t,fun H2 s2=>?_⟩;have ll:=SH N.g.Z (Aq q.1 q.2);refine⟨Cc (f.line (Aq q.1 q.2)),rfl,?_,fun H3 l3 s3 n3 x=>?_⟩;·have:=DY (f.line (Aq q.1 q.2));unfold Str.length at this;lia
   ·have e3:(Cc (f.line (Aq q.1 q.2))).cps.toList.map (fun c=>V.int (c:Nat))=((f.line (Aq q.1 q.2)).map fun u=>((u.toNat:Nat):Int)).map V.int:=by unfold Cc;rw[Bc,zG,zG];rfl
    rw[e3]at x;refine⟨l3,_,rfl,x,by rw[z3];lia,fun H4 l4 s4 n4 J=>?_⟩;have m:=(s2.trans s3).trans s4;refine Qk (H0:=H) (m _ _ Aa) J (by simp only[zm,z3];lia) fun p T=>?_;have P:=m.trans (Af (o:= .lst ((0::(((f.line (Aq q.1 q.2)).map fun u=>((u.toNat:Nat):Int)).length:Int)::(f.line (Aq q.1 q.2)).map fun u=>((u.toNat:Nat):Int)).map V.int)) T);refine g _ p (O.same (n.trans P)) (fun b' o z Y=>P _ _ (n _ _ z)) ((n.trans m).free T) ?_;rw[Aa];show some (HO.lst _)=some (HO.lst ((tells 0 [.text (f.line (Aq q.1 q.2))]).nums.map V.int));have en:(tells 0 [.text (f.line (Aq q.1 q.2))]).nums=0::((f.line (Aq q.1 q.2)).length:Int)::(f.line (Aq q.1 q.2)).map fun u=>((u.toNat:Nat):Int):=by show 0::(((f.line (Aq q.1 q.2)).length:Int)::(f.line (Aq q.1 q.2)).map fun u=>((u.toNat:Nat):Int))++[]=_;rw[zR]
    rw[en,z3]
inductive Iq(K:Frag)(C0 CD C CE:Addr):_|mk(d:Addr)(x:Str)(b:Bytes)(s:TaflEnds.State):vs=[.ref d,.str x]->Tx x b->Ba CD C CE H d s->Out K C0 CD C CE d s (.no b) H Q E->Iq K C0 CD C CE vs H Q E
theorem WH{s:TaflEnds.State}{b:Bytes}(h:s.held=none):TaflEnds.step s (.no b)=(s,says (-3)):=by show(match s.rules,s.held with|some r,some h=>(s,_) |_,_=>(s,says (-3)))=_;rw[h];cases s.rules<;>rfl
theorem WG{s:TaflEnds.State}{b:Bytes}{r:Rules}{h:Held}(c:s.rules=some r)(a:s.held=some h):TaflEnds.step s (.no b)=(s,match r.readLine b with| .error f=>fault (-5) f.1 f.2| .ok p=>match h.graph.findIdx? fun(q:Tafl.Pos)=>q==p with|none=>says (-2) |some i=>says (i:Nat)):=by
 show(match s.rules,s.held with
 |some r,some h=>(s,match r.readLine b with| .error (k,p)=>fault (-5) k p| .ok p=>match h.graph.findIdx? fun(q:Tafl.Pos)=>q==p with|none=>says (-2) |some i=>says (i:Nat))
 |_,_=>(s,says (-3)))=_;rw[c,a];cbv;cases r.readLine b<;>rfl
abbrev ro:List Str:=["self","line","numbers","position"]
theorem jf:Ah ro ["self","line"] (Ad K4):={}
theorem Nf(g:AY):Zg 7 aD "tell_number" ["self","line"] (Iq K aZ aD aH aE):=by
 refine g.IW.has fun F=>F.Jw jf fun H Q E u h y=>?_;obtain⟨d,x,b,J,rfl,tx,G,j,c⟩:=h;obtain⟨W,hv,ev,O,P,U⟩:=id G;have A:AW 4 _:=u.mono ⋯;have B:AW 3 _:=u.mono ⋯;have M:=Gu u;exists%[An (i:=2) jf.nd (Al (AU (Jd g) (pv 0) g.dc.cl A y.passes)),An (i:=3) jf.nd (Ay (Jc g) u rfl y.passes (#v[Al (pv 0),pv 1])),AM (aG (OW M (pv 3) (pv 2))) (Ag (DZ (BX g) B.h rfl rfl y.weak)) Au|Aj (AF (#v[A8 M (pv 2) (pv 3)]))];exists _,rfl,d,W,_,rfl,O,Df _ _ ∎ ∎,d,J,rfl,G;unfold PN;cases D:J.held with
 |none=>rw[WH D]at c;exact c rfl
 |some h=>
  cbv;rw[D]at U;obtain⟨w,e0,a0,a1,m,Y,Y,Y⟩:=U;rw[WG m D]at j c;intro e r k fs T S h4;have:w=r:=zt (m.symm.trans T);subst this;rw[T]at P;obtain⟨a,rfl,hA⟩:=P;obtain⟨de,pl,s,fl,Z,he,Y,C,Y⟩:=S.ex;refine⟨e,aE,de,_,_,rfl,he,g.ec.cl,g.ec.nN,kq pl s fl Z,Ax ⟨_,rfl,d,aD,W,_,_,rfl,O,g.dc.cl,g.dc.nH,DM _ _,_,rfl,a,x,b,w,rfl,hA,tx,?_⟩⟩;cases R:w.readLine b with
  |error f=>rw[R]at c;exact c rfl _ g.Hq
  |ok p=>
   rw[R]at j c;dsimp only at j c;intro X t q n nt hP GB ep;refine Ax ?_;cbv;have v:h.graph.findIdx? (fun(z:Tafl.Pos)=>z==p)=if q∈k then some (k.idxOf q)else none:=by rw[h4,<-ep];exact LC GB k S.g.good
   have eb:X t=some (.tup ((EF q).map kV)):=hP;have I:CP X s (.ref t) (if q∈k then some (V.int ((k.idxOf q:Nat):Int))else none):=by have:=CP.t (n _ _ C) eb;rw[Q1]at this;exact this
   refine CU (DG ⟨_,rfl,_,rfl,s,_,rfl,I,_,rfl,?_⟩);by_cases hq:q∈k;·rw[zc hq]at v I;rw[v]at j;rw[zc hq];refine B9 rfl ⟨_,rfl,_,rfl,s,_,rfl,I,Ju,fun l N=>?_⟩;have L:=n.trans (Af (o:= .lst [V.int ((k.idxOf q:Nat):Int)]) N);exact j _ l (G.same L) (fun b' o z Y=>L _ _ z) (n.free N) Aa
   ·rw[zb hq]at v;rw[v]at c;rw[zb hq];exact BJ rfl (D_ (BX g) ((c rfl _ g.EN).same n))
inductive Kw(K:Frag)(C0 CD C CE:Addr):_|mk(d:Addr)(i:Nat)(s:TaflEnds.State):vs=[.ref d,.int (i:Nat)]->Ba CD C CE H d s->Out K C0 CD C CE d s (.value i) H Q E->Kw K C0 CD C CE vs H Q E
abbrev rl:List Str:=["self","number","value"]
theorem lP:Ah rl ["self","number"] (Ad Mu):={}
theorem NS(g:AY):Zg 6 aD "tell_value" ["self","number"] (Kw K aZ aD aH aE):=by
 refine g.JQ.has fun F=>F.Jw lP fun H Q E O h N=>?_;obtain⟨d,i,k,rfl,t,b,a⟩:=h;obtain⟨W,hv,ev,R,hV,D⟩:=id t;exists%[An (i:=2) lP.nd (Az AE (Al (AH (Fz g) (pv 0) g.dc.cl O N.passes (#v[pv 1]))) (pv 1)) |Aj (AF (#v[Ae,Az Bf (pv 2) Ae,Az Bf (pv 2) Ae]))];exists _,rfl,d,W,_,rfl,R,Df _ _ ∎ ∎,_,rfl,d,i,k,rfl,t;have V:TaflEnds.step k (.value i)=ofHeld k fun Y h=>if h.graph.length<=i then says (-2)else tells 0 ((TaflEnds.toldValue (h.values.getD i none)).map fun(n:Nat)=> .num n):=rfl;rw[V]at b a;unfold NA;cases s:k.held with
 |none=>rw[DV s]at a;exact a rfl
 |some h=>
  cbv;rw[s]at D;obtain⟨Z,e0,I,T,u,Y,Y,Y⟩:=D;rw[DU u s]at b a;by_cases hi:h.graph.length<=i;·rw[zc hi]at a|-;exact a rfl
  ·rw[zb hi]at b a|-;intro e r J fs h1 C S q;obtain⟨X,L,M,U,x,P,Y,Y,Y,⟨j,m,f⟩⟩:=C.ex;have G:=C.Xs;have c:i<j.length:=by rw[zE f,G];exact q
   obtain⟨v,p,y⟩:=AB f (z4 c);have w:h.values.getD i none=v:=by rw[S];show(r.values (J.map pB)).getD i none=v;rw[z5,p];rfl
   rw[w]at b;refine⟨e,aE,X,_,_,rfl,P,g.ec.cl,g.ec.nW,G1 L M U x,_,rfl,x,_,_,.ref j[i],rfl,rfl,AJ.of m,AN (by rw[z7,z4 c];rfl),Ax ⟨_,rfl,j[i],_,_,_,rfl,rfl,Em.of y,rfl,_,rfl,j[i],_,_,_,rfl,rfl,Em.of y,rfl,kZ,fun l B=>?_⟩⟩;have A:=Af (o:= .lst [.int 0,.int (Cw v).1,.int (Cw v).2]) B;refine b _ l (t.same A) (fun b' o z Y=>A _ _ z) B ?_;rw[Aa];cases v<;>rfl
inductive LY(K:Frag)(C0 CD C CE:Addr):_|mk(d:Addr)(s:TaflEnds.State):vs=[.ref d]->Ba CD C CE H d s->Out K C0 CD C CE d s .sums H Q E->LY K C0 CD C CE vs H Q E
inductive Kx(K:Frag)(C0 CD C CE:Addr):_|mk(d:Addr)(s:TaflEnds.State):vs=[.ref d]->Ba CD C CE H d s->Out K C0 CD C CE d s .table H Q E->Kx K C0 CD C CE vs H Q E
theorem L7(l:List Nat):nV l=(asInts l).map V.int:=by unfold nV asInts;rw[zG];rfl
theorem Fj(l:List Nat):(tells 0 [.list l]).nums=0::((asInts l).length:Int)::asInts l:=by show 0::(((l.length:Int)::asInts l)++[])=_;rw[zR];unfold asInts;rw[z3]
theorem oy:Ah ["self"] ["self"] (Ad OD):={}
theorem Q6(i:AY):Zg 5 aD "tell_sums" ["self"] (LY K aZ aD aH aE):=by
 refine i.Le.has fun F=>F.Jw oy fun H Q E q h P=>?_;obtain⟨d,l,rfl,w,a,f⟩:=h;obtain⟨dx,hv,ev,S,hV,C⟩:=id w;have m:AW 2 _:=q.mono ⋯;have n:AW 1 _:=q.mono ⋯;exists Ag (Aj (AA Ed (AF (#v[Ae])) (Ay (E1 i) n rfl Ar (#v[AU (cg i) (AU (Jd i) (pv 0) i.dc.cl q P.passes) i.ec.cl m Ar]))));refine⟨Ju,fun l0 t=>?_⟩;have j:=Af (o:= .lst [.int 0]) t;exists _,rfl,d,dx,_,rfl,j _ _ S,Df _ _ ∎ ∎,d,l,rfl,w.same j;have Z:TaflEnds.step l .sums=ofHeld l fun Y h=>tells 0 [.list ([howMany h.values 0,howMany h.values 1,(h.values.filter fun(v:Tafl.Value)=>v==none).length]++(TaflEnds.greatest h.values 0++TaflEnds.greatest h.values 1))]:=rfl;rw[Z]at a f;unfold PN;cases u:l.held with
 |none=>rw[DV u]at f;exact(f rfl).same j
 |some h=>
  cbv;rw[u]at C;obtain⟨r0,e0,J,U,x,Y,Y,Y⟩:=C;rw[DU x u]at a;intro e r b W h1 B T;obtain⟨de,M,N,X,D,R,Y⟩:=B.ex;refine⟨e,de,_,rfl,R,gm M N X D,e,r,b,W,rfl,B,fun H2 O I n2 g=>?_⟩;rw[L7]at g;have el:h.values=r.values (b.map pB):=by rw[T]
  rw[el]at a;have k:([howMany (r.values (b.map pB)) 0,howMany (r.values (b.map pB)) 1,((r.values (b.map pB)).filter fun(v:Tafl.Value)=>v==none).length]++(TaflEnds.greatest (r.values (b.map pB)) 0++TaflEnds.greatest (r.values (b.map pB)) 1)).length=7:=rfl;generalize([howMany (r.values (b.map pB)) 0,howMany (r.values (b.map pB)) 1,((r.values (b.map pB)).filter fun(v:Tafl.Value)=>v==none).length]++(TaflEnds.greatest (r.values (b.map pB)) 0++TaflEnds.greatest (r.values (b.map pB)) 1))=L at g a k;rw[Fj]at a;have eL:(asInts L).length<=30000:=by unfold asInts;rw[z3,k];decide
  refine⟨O,asInts L,rfl,g,eL,fun H3 l3 G n3 s=>?_⟩;have c:=I.trans G;refine Qk (H0:=H) (c _ _ Aa) s (by simp only[zm];lia) fun p A=>?_;have y:=(j.trans c).trans (Af (o:= .lst ((0::((asInts L).length:Int)::asInts L).map V.int)) A);exact a _ p (w.same y) (fun b' o z Y=>y _ _ z) ((j.trans c).free A) Aa
theorem ox:Ah ["self"] ["self"] (Ad Mv):={}
theorem NT(g:AY):Zg 5 aD "tell_table" ["self"] (Kx K aZ aD aH aE):=by
 refine g.JR.has fun F=>F.Jw ox fun H Q E q h O=>?_;obtain⟨d,j,rfl,v,a,c⟩:=h;obtain⟨dx,hv,ev,R,hV,B⟩:=id v;have m:AW 2 _:=q.mono ⋯;have n:AW 1 _:=q.mono ⋯;exists Ag (Aj (AA Ed (AF (#v[Ae])) (Ay (E1 g) n rfl Ar (#v[AU (Pp g) (AU (Jd g) (pv 0) g.dc.cl q O.passes) g.ec.cl m Ar]))));refine⟨Ju,fun l0 t=>?_⟩;have i:=Af (o:= .lst [.int 0]) t;exists _,rfl,d,dx,_,rfl,i _ _ R,Df _ _ ∎ ∎,d,j,rfl,v.same i;have X:TaflEnds.step j .table=ofHeld j fun Y h=>tells 0 [.list (h.values.map Tafl.code)]:=rfl;rw[X]at a c;unfold PN;cases u:j.held with
 |none=>rw[DV u]at c;exact(c rfl).same i
 |some h=>
  cbv;rw[u]at B;obtain⟨r0,e0,I,T,w,Y,Y,Y⟩:=B;rw[DU w u]at a;intro e r k U h1 l S;obtain⟨de,J,M,W,C,P,Y⟩:=l.ex;refine⟨e,de,_,rfl,P,T6 J M W C,e,r,k,U,rfl,l,fun H2 N G n2 f=>?_⟩;rw[L7]at f;have Z:h.values=r.values (k.map pB):=by rw[S]
  rw[Z]at a;have x:((r.values (k.map pB)).map Tafl.code).length<=200:=by rw[z3,l.Xs];exact l.g.small
  generalize(r.values (k.map pB)).map Tafl.code=L at f a x;rw[Fj]at a;have eL:(asInts L).length<=30000:=by unfold asInts;rw[z3];lia
  refine⟨N,asInts L,rfl,f,eL,fun H3 l3 D n3 s=>?_⟩;have b:=G.trans D;refine Qk (H0:=H) (b _ _ Aa) s (by simp only[zm];lia) fun p A=>?_;have y:=(i.trans b).trans (Af (o:= .lst ((0::((asInts L).length:Int)::asInts L).map V.int)) A);exact a _ p (v.same y) (fun b' o z Y=>y _ _ z) ((i.trans b).free A) Aa
inductive Wf(K:Frag)(C0 CD C CE:Addr):_|mk(d tl:Addr)(x:Str)(b:Bytes)(most:Nat)(tb:List Nat)(s:TaflEnds.State):vs=[.ref d,.int (most:Nat),.str x,.ref tl]->Tx x b->H tl=some (.lst ((asInts tb).map V.int))->Ba CD C CE H d s->Out K C0 CD C CE d s (.judge b most tb) H Q E->Wf K C0 CD C CE vs H Q E
abbrev u1:List Str:=["self","most","line","table","right"]
theorem lW:Ah u1 ["self","most","line","table"] (Ad ZV):={}
theorem VL{a:List Nat}:asInts a=asInts b↔a=b:=by
 constructor
 ·intro h;have:=zT (List.map Int.toNat) h;unfold asInts at this;rw[zG,zG]at this;have e:(Int.toNat∘fun(n:Nat)=>(n:Int))=id:=by funext n;rfl
  rw[e,sY,sY]at this;exact this
 ·intro h;rw[h]
theorem Yw(s:AY):Zg 10 aD "judge" ["self","most","line","table"] (Wf K aZ aD aH aE):=by
 refine s.SF.has fun F=>F.Jw lW fun H Q E y h R=>?_;obtain⟨d,tl,x,b,j,t,A,rfl,J,v,u,c,a⟩:=h;obtain⟨Z,hv,ev,T,hV,eV⟩:=id u;have w:AW 2 _:=y.mono ⋯;exists%[An (i:=4) lW.nd (AU (Pp s) (AH (KL s) (pv 0) s.dc.cl y R.passes (#v[pv 1,pv 2])) s.ec.cl w Ar) |Aj (D4 (Ao (jF y.units) (pv 3) (pv 4)) (AF (#v[Ae])) (AF (#v[Ae])))];exists _,rfl,d,Z,_,rfl,T,Df _ _ ∎ ∎,_,rfl,_,rfl,d,x,b,j,A,rfl,J,u;rw[M_]at c a;unfold gP;cases C:A.rules with
 |none=>rw[C]at a;exact a rfl
 |some r=>
  rw[C]at c a;dsimp only at c a|-;cases D:r.readLine b with
  |error f=>rw[D]at a;exact a rfl
  |ok p=>
   rw[D]at c a;dsimp only at c a|-;by_cases hm:j=0\/200<j;·rw[zc hm]at a|-;exact a rfl
   ·rw[zb hm]at c a|-;cases B:graphOf r j p with
    |none=>rw[B]at a;exact a rfl
    |some g=>
     rw[B]at c;dsimp only at c;intro H1 e N U G W M ne;obtain⟨de,O,P,V,I,S,Y⟩:=G.ex;refine⟨e,de,_,rfl,S,T6 O P V I,e,r,N,U,rfl,G,fun H2 l2 L n2 n=>?_⟩;refine Ax ?_;rw[L7,W]at n;have k:=M.trans L;exists _,rfl,_,rfl,.list ((asInts t).map PyData.int),.list ((asInts ((r.values g).map Tafl.code)).map PyData.int),.lst (AJ.of (k _ _ v)) (QL _),.lst (AJ.of n) (QL _),shaped_ints _,shaped_ints _,_,rfl;have X:PyData.eqv (.list ((asInts t).map PyData.int)) (.list ((asInts ((r.values g).map Tafl.code)).map PyData.int))=decide ((r.values g).map Tafl.code=t):=by show PyData.eqvAll _ _=_;rw[T2,y3,VL];exact⟨Eq.symm,Eq.symm⟩
     rw[X];by_cases hq:(r.values g).map Tafl.code=t;·rw[zc hq]at c;refine BJ (zj hq) ⟨Ju,fun l q=>?_⟩;have m:=k.trans (Af (o:= .lst [.int 1]) q);exact c _ l (u.same m) (fun b' o z Y=>m _ _ z) (k.free q) Aa
     ·rw[zb hq]at c;refine B9 (zo hq) ⟨Ju,fun l q=>?_⟩;have m:=k.trans (Af (o:= .lst [.int 0]) q);exact c _ l (u.same m) (fun b' o z Y=>m _ _ z) (k.free q) Aa
theorem OX{r:Rules}{p:Tafl.Pos}:r.over p=0↔r.moves p≠[]:=by
 unfold Rules.over;by_cases h:r.ended p≠0;·rw[zc h];unfold Rules.moves;rw[zc h];simp[h]
 ·rw[zb h];by_cases h2:r.moves p=[];·rw[zc h2];simp[h2]
  ·rw[zb h2];simp[h2]
theorem KP{f i:Type}(F:f->Option i):∀(a:List f)(c:Nat)(m:f)(y:i),a[c]?=some m->F m=some y->(∀e d,e<c->a[e]?=some d->F d=none)->a.findSome? F=some y|[],c,m,y,h,_,_=>by cases h|x::a,0,m,y,h,g,_=>by cases h;rw[wz,g] |x::a,c+1,m,y,h,g,b=>by rw[wz,b 0 x (Nat.succ_pos c) rfl];exact KP F a c m y ‹h› g fun e d k j=>b (e+1) d ∅ ‹j›
theorem bW{x:Bd}:∀{l:List Bd},x∈l->l[l.idxOf x]?=some x
|[],h=>by cases h
|y::l,h=>by
 rw[um];by_cases e:y=x;·rw[zP.mpr e,cond_true,e];rfl
 ·rw[zL.mpr e,rm];have a:x∈l:=by
   rcases zw.mp h with z|z;·exact absurd z.symm e
   ·exact z
  simpa using bW a
theorem gD{r:Rules}{a:List Bd}{l:List (List Nat)}(G:EB r a l){j:Nat}{q:Bd}(k:a[i]?=some q)(u:(l.getD i [])[c]?=some j)(C:good ((r.values (a.map pB)).getD i none) ((r.values (a.map pB)).getD j none)=true)(o:∀b t:Nat,b<c->(l.getD i [])[b]?=some t->¬good ((r.values (a.map pB)).getD i none) ((r.values (a.map pB)).getD t none)=true):∃m,(r.moves (pB q))[c]?=some m/\r.best (a.map pB) (r.values (a.map pB)) i=some (m,j)/\a[j]?=some (ND r q.1 m,1-q.2)/\r.comes (pB q) m=pB (ND r q.1 m,1-q.2)/\Cv r (ND r q.1 m,1-q.2):=by
 have f:q∈a:=zf k;have n:=G.good q f;have h:∀(b:Nat)(m:Nat×Nat),(r.moves (pB q))[b]?=some m->(l.getD i [])[b]?=some (a.idxOf (ND r q.1 m,1-q.2))/\(a.map pB).findIdx? (fun(x:Tafl.Pos)=>x==r.comes (pB q) m)=some (a.idxOf (ND r q.1 m,1-q.2))/\(ND r q.1 m,1-q.2)∈a/\r.comes (pB q) m=pB (ND r q.1 m,1-q.2)/\Cv r (ND r q.1 m,1-q.2):=fun b m e=>by
  have g:=zf e;have nx:(ND r q.1 m,1-q.2)∈Bk r q:=zk.mpr ⟨m,g,rfl⟩;have d:=G.jT q f _ nx;have v:=G.good _ d;have y:r.comes (pB q) m=pB (ND r q.1 m,1-q.2):=(dj G.Z G.N n.b n.r n.t (GQ n g)).2.2;refine⟨?_,?_,d,y,v⟩;·rw[G.Zh i q k];unfold Bk;rw[z7,z7,e];rfl
  ·rw[y,LC v a G.good,zc d]
 have B:c<(r.moves (pB q)).length:=by have:=(z8.mp u).1;rw[G.Zh i q k]at this;unfold Bk at this;rw[z3,z3]at this;exact this
 obtain⟨m,e⟩:∃m,(r.moves (pB q))[c]?=some m:=⟨_,z4 B⟩;obtain⟨z,J,I,H,F⟩:=h c m e;rw[u]at z;have w:j=a.idxOf (ND r q.1 m,1-q.2):=zt z;refine⟨m,e,?_,?_,H,F⟩
 ·unfold Rules.best;rw[z7,k];show(r.moves (pB q)).findSome? _=_;refine KP _ _ c m (m,j) e ?_ fun b A s p=>?_;·rw[J];cbv;rw[<-w,zc C]
  ·obtain⟨E,D,Y⟩:=h b A p;rw[D];cbv;rw[zb (o b _ s E)]
 ·rw[w];exact bW I
inductive L_(K:Frag)(C0 CD C CE:Addr):_|mk(d:Addr)(i:Nat)(s:TaflEnds.State):vs=[.ref d,.int (i:Nat)]->Ba CD C CE H d s->Out K C0 CD C CE d s (.best i) H Q E->L_ K C0 CD C CE vs H Q E
abbrev r3:List Str:=["self","number","ending","position","choice","move","later","over"]
theorem U9:Ah r3 ["self","number"] (Ad OF):={}
theorem Q8(g:AY):Zg 7 aD "tell_best" ["self","number"] (L_ K aZ aD aH aE):=by
 refine g.Lg.has fun F=>F.Jw U9 fun H Q E Z h hx=>?_;obtain⟨d,i,st,rfl,hD,n,k⟩:=h;obtain⟨dx,hv,ev,hd,hV,eV⟩:=id hD;have B:AW 5 _:=Z.mono ⋯;have a9:AW 3 _:=Z.mono ⋯;have X:AW 1 _:=Z.mono ⋯;exists%[An (i:=2) U9.nd (AH (Fz g) (pv 0) g.dc.cl B hx.passes (#v[pv 1])),An (i:=3) U9.nd (Az AE (Al (pv 2)) (pv 1)),AM (Ao Hs (Ay (Ng g) Z rfl Ar (#v[Al (pv 0),pv 3])) Ae) (Ag (DZ (FD g) a9.h rfl rfl hx.weak)) Au,An (i:=4) U9.nd (AH (cn g) (pv 2) g.ec.cl X Ar (#v[pv 1])),An (i:=5) U9.nd (Az AE (Ay (JZ g) B rfl Ar (#v[Al (pv 0),pv 3])) (pv 4)),An (i:=6) U9.nd (Az AE (Az AE (Al (pv 2)) (pv 1)) (pv 4)),An (i:=7) U9.nd (Ay (Ng g) Z rfl Ar (#v[Al (pv 0),Az AE (Al (pv 2)) (pv 6)])) |Aj (AA Ed (AF (#v[Ae,pv 6])) (Ay (E1 g) X rfl Ar (#v[AA Ed (AF (#v[Az Bf (pv 5) Ae,Az Bf (pv 5) Ae,pv 7])) (Ay (S_ g) B rfl Ar (#v[Al (pv 0),pv 3,pv 5]))])))];exists _,rfl,d,dx,_,rfl,hd,Df _ _ ∎ ∎,_,rfl,d,i,st,rfl,hD;have es:TaflEnds.step st (.best i)=ofHeld st fun r h=>match h.graph[i]? with|none=>says (-2) |some p=>match r.best h.graph h.values i with|none=>says (-4) |some (m,j)=>tells 0 [.num j,.list (toldMove r p m)]:=rfl;rw[es]at n k;unfold NA;cases hh:st.held with
 |none=>rw[DV hh]at k;exact k rfl
 |some h=>
  cbv;rw[hh]at eV;obtain⟨f,e0,c8,c9,a6,Y,Y,Y⟩:=eV;rw[DU a6 hh]at n k;by_cases hi:h.graph.length<=i;·rw[zc hi];rw[xX hi]at k;exact k rfl
  ·rw[zb hi];intro e r y fs h1 hE h4 D;have:f=r:=zt (a6.symm.trans h1);subst this;rw[h1]at hV;obtain⟨a,rfl,hA⟩:=hV;have G:=hE.g;obtain⟨de,I,nd,fl,wl,he,⟨x,a2,v⟩,Y,⟨gs,f1,f2,Y⟩,Y⟩:=hE.ex;obtain⟨q,J⟩:∃q,y[i]?=some q:=⟨_,z4 D⟩;have S:i<x.length:=by rw[zE v];exact D
   obtain⟨q',a1,hP⟩:=AB v (z4 S);rw[J]at a1;cases a1;have s:=G.good q (zf J);have eg:h.graph[i]?=some (pB q):=by rw[h4];show(y.map pB)[i]?=_;rw[z7,J];rfl
   have c6:h.graph=y.map pB:=by rw[h4]
   have c5:h.values=f.values (y.map pB):=by rw[h4]
   rw[eg,c6,c5]at n k;dsimp only at n k;refine Ax ⟨_,rfl,e,aE,de,_,_,rfl,he,g.ec.cl,g.ec.nP,Nv I nd fl wl,_,rfl,I,_,_,.ref x[i],rfl,rfl,AJ.of a2,AN (by rw[z7,z4 S];rfl),Ax ?_⟩;cbv;refine CU (DG ⟨_,rfl,d,aD,dx,_,_,rfl,hd,g.dc.cl,g.dc.nH,DM _ _,_,rfl,a,x[i],f,q.1,q.2,rfl,hA,hP,s.b,s.r,s.t,fun H1 s1=>⟨rfl,_,rfl,?_⟩⟩);by_cases ho:f.over (pB q)=0
   ·refine B9 (by rw[show Aq q.1 q.2=pB q from rfl,ho];decide) ?_;have C:=OX.mp ho;have b0:Bk f q≠[]:=by unfold Bk;rw[Ne,ya];exact C
    refine⟨_,rfl,e,de,_,rfl,s1 _ _ he,gn I nd fl wl,_,rfl,e,f,y,fs,i,q,rfl,hE.kp (GF s1),J,b0,fun H2 c j s2 hc hg b1=>?_⟩;refine Ax ?_;cbv;obtain⟨m,hm,hb,hj,b9,GJ⟩:=gD G J hc hg b1;rw[hb]at n;dsimp only at n;have u:=s1.trans s2;refine⟨_,rfl,d,aD,dx,_,_,rfl,u _ _ hd,g.dc.cl,g.dc.nH,DM _ _,_,rfl,a,x[i],f,q.1,q.2,rfl,hA.same u,u _ _ hP,s.b,s.r,s.t,fun H3 lm s3 n3 hM=>?_⟩;obtain⟨M,b2,a3⟩:=hM;have W:c<M.length:=by rw[zE a3];exact(z8.mp hm).1
    obtain⟨b,b3,c3⟩:=AB a3 (z4 W);have:b=m:=by have z:(f.moves (pB q))[c]?=some b:=b3;rw[hm]at z;exact(zt z).symm
    subst this;refine⟨_,rfl,lm,_,_,.ref M[c],rfl,rfl,AJ.of b2,AN (by rw[z7,z4 W];rfl),Ax ?_⟩;cbv;have l:=u.trans s3;have U:i<gs.length:=by rw[zE f2,G.len];exact D
    obtain⟨c4,b8,b7⟩:=AB f2 (z4 U);have c7:fs.getD i []=c4:=by rw[z5,b8];rfl
    rw[c7]at hc;refine⟨_,rfl,e,aE,de,_,_,rfl,l _ _ he,g.ec.cl,g.ec.nF,cN I nd fl wl,_,rfl,fl,_,_,.ref gs[i],rfl,rfl,AJ.of (l _ _ f1),AN (by rw[z7,z4 U];rfl),_,rfl,gs[i],_,_,.int (j:Nat),rfl,rfl,AJ.of (l _ _ b7),AN (by unfold nV;rw[z7,hc];rfl),Ax ?_⟩;cbv;have a8:j<y.length:=(z8.mp hj).1;have T:j<x.length:=by rw[zE v];exact a8
    obtain⟨qj,a0,c0⟩:=AB v (z4 T);rw[hj]at a0;have:=zt a0;subst this;refine⟨_,rfl,d,aD,dx,_,_,rfl,l _ _ hd,g.dc.cl,g.dc.nH,DM _ _,_,rfl,e,aE,de,_,_,rfl,l _ _ he,g.ec.cl,g.ec.nP,Nv I nd fl wl,_,rfl,I,_,_,.ref x[j],rfl,rfl,AJ.of (l _ _ a2),AN (by rw[z7,z4 T];rfl),a,x[j],f,_,_,rfl,hA.same l,l _ _ c0,GJ.b,GJ.r,GJ.t,fun H4 s4=>?_⟩;refine Ax ?_;cbv;have P:=l.trans s4;have t:Ia H4 M[c] b.1 b.2:=s4 _ _ c3;obtain⟨MO,c1,c2,Y⟩:=Qu (m1:=b.1) (m2:=b.2) G.Z s.b s.r s.t (GQ s (zf hm));refine⟨_,rfl,K2,fun l0 b6=>?_⟩;have s5:=Af (o:= .lst [.int 0,.int (j:Nat)]) b6;refine⟨_,rfl,M[c],_,_,.int (b.1:Nat),rfl,rfl,Em.of (s5 _ _ t),rfl,_,rfl,M[c],_,_,.int (b.2:Nat),rfl,rfl,Em.of (s5 _ _ t),rfl,_,rfl,kZ,fun l1 a5=>?_⟩;have s6:=s5.trans (Af (o:= .lst [.int (b.1:Nat),.int (b.2:Nat),.int (f.over (Aq (ND f q.1 b) (1-q.2)):Nat)]) a5);have A:=P.trans s6;refine⟨_,rfl,d,aD,dx,_,_,rfl,A _ _ hd,g.dc.cl,g.dc.nH,DM _ _,_,rfl,_,rfl,a,x[i],M[c],f,q.1,q.2,b.1,b.2,rfl,hA.same A,A _ _ hP,s6 _ _ t,s.b.len,MO.l1,c2,fun H7 l7 s7 n7 w=>?_⟩;rw[<-LS G.Z G.N s.b MO c2]at w;have a7:(f.takes (Aq q.1 q.2) (b.1,b.2)).length<=192:=by rw[LS G.Z G.N s.b MO c2];exact z_ (xy _ _) (by rw[yj];exact ze _)
    replace w:H7 l7=some (.lst (nV (f.takes (pB q) b))):=w;replace a7:(f.takes (pB q) b).length<=192:=a7;have a4:H7 l1=some (.lst (nV [b.1,b.2,f.over (f.comes (pB q) b)])):=by rw[b9];exact s7 _ _ Aa
    refine⟨l1,l7,_,_,rfl,rfl,a4,w,?_,fun l8 b5=>?_⟩;·unfold nV;rw[z3,z3];have:(1000:Nat)<=sizeLine:=⋯;show 3+_<=_;lia
    ·have e8:nV [b.1,b.2,f.over (f.comes (pB q) b)]++nV (f.takes (pB q) b)=(asInts (toldMove f (pB q) b)).map V.int:=by rw[<-L7];rfl
     rw[e8];have eL:(asInts (toldMove f (pB q) b)).length<=200:=by unfold asInts toldMove;rw[z3];simp only[zm];lia
     have en:(tells 0 [.num (j:Nat),.list (toldMove f (pB q) b)]).nums=[0,((j:Nat):Int)]++(((asInts (toldMove f (pB q) b)).length:Int)::asInts (toldMove f (pB q) b)):=by show 0::([((j:Nat):Int)]++((((toldMove f (pB q) b).length:Int)::asInts (toldMove f (pB q) b))++[]))=_;rw[zR];unfold asInts;rw[z3];rfl
     rw[en]at n;generalize asInts (toldMove f (pB q) b)=L at eL n|-;have s8:=Af (o:= .lst (L.map V.int)) b5;refine⟨l8,L,rfl,Aa,∅,fun H9 l9 s9 n9 b4=>?_⟩;have N:Ap (Av H4 l0 (.lst [.int 0,.int (j:Nat)])) H9:=(((Af (o:= .lst [.int (b.1:Nat),.int (b.2:Nat),.int (f.over (Aq (ND f q.1 b) (1-q.2)):Nat)]) a5).trans s7).trans s8).trans s9;refine⟨l0,l9,_,_,rfl,rfl,N _ _ Aa,b4,?_,fun p hp=>?_⟩;·rw[z3];have:(1000:Nat)<=sizeLine:=⋯;show 2+(L.length+1)<=_;lia
     ·have O:=(P.trans s5).trans N;have R:=O.trans (Af (o:= .lst ([.int 0,.int (j:Nat)]++((L.length:Int)::L).map V.int)) hp);exact n _ p (hD.same R) (fun b' o z Y=>R _ _ z) (O.free hp) Aa
   ·refine BJ (by rw[show Aq q.1 q.2=pB q from rfl,xD,yY];intro z;injection z with z;lia) ?_;have C:f.moves (pB q)=[]:=vp fun z=>ho (OX.mpr z);have hb:f.best (y.map pB) (f.values (y.map pB)) i=none:=by unfold Rules.best;rw[z7,J];show(f.moves (pB q)).findSome? _=_;rw[C];rfl
    rw[hb]at k;exact D_ (FD g) ((k rfl _ g.NM).same s1)
abbrev bInts(b:Bytes):List Int:=b.map fun u=>((u.toNat:Nat):Int)
def VR(ns:List Int)(p:Nat)(c:Call)(d:Nat):Prop:=match c with| .rules b=>ns[p]?=some 0/\ns[p+1]?=some (b.length:Int)/\p+1+1+b.length<=ns.length/\(ns.drop (p+1+1)).take b.length=bInts b/\d=p+1+1+b.length| .find b a=>ns[p]?=some 1/\ns[p+1]?=some (a:Int)/\ns[p+1+1]?=some (b.length:Int)/\p+1+1+1+b.length<=ns.length/\(ns.drop (p+1+1+1)).take b.length=bInts b/\d=p+1+1+1+b.length| .pos i=>ns[p]?=some 2/\ns[p+1]?=some (i:Int)/\d=p+1+1| .no b=>ns[p]?=some 3/\ns[p+1]?=some (b.length:Int)/\p+1+1+b.length<=ns.length/\(ns.drop (p+1+1)).take b.length=bInts b/\d=p+1+1+b.length| .value i=>ns[p]?=some 4/\ns[p+1]?=some (i:Int)/\d=p+1+1| .best i=>ns[p]?=some 5/\ns[p+1]?=some (i:Int)/\d=p+1+1| .sums=>ns[p]?=some 6/\d=p+1| .table=>ns[p]?=some 7/\d=p+1| .judge b a t=>ns[p]?=some 8/\ns[p+1]?=some (a:Int)/\ns[p+1+1]?=some (b.length:Int)/\p+1+1+1+b.length<=ns.length/\(ns.drop (p+1+1+1)).take b.length=bInts b/\ns[p+1+1+1+b.length]?=some (t.length:Int)/\p+1+1+1+b.length+1+t.length<=ns.length/\(ns.drop (p+1+1+1+b.length+1)).take t.length=asInts t/\d=p+1+1+1+b.length+1+t.length
theorem drop_cons{z:Int}{r:List Int}(h:ns.drop p=z::r):ns[p]?=some z/\r=ns.drop (p+1):=by
 refine⟨?_,?_⟩;·rw[<-tI,h];rfl
 ·rw[<-xr,h];rfl
inductive dv(ns:List Int)(q:Nat)(x l:List Int):Prop|mk(n:Nat):ns[q]?=some (n:Int)->q+1+n<=ns.length->x=(ns.drop (q+1)).take n->x.length=n->l=ns.drop (q+1+n)->dv ns q x l
inductive du(ns:List Int)(q:Nat)(xs:List (List Int))(l:List Int):Prop|mk(x y:List Int)(n m:Nat):xs=[x,y]->ns[q]?=some (n:Int)->q+1+n<=ns.length->x=(ns.drop (q+1)).take n->x.length=n->ns[q+1+n]?=some (m:Int)->q+1+n+1+m<=ns.length->y=(ns.drop (q+1+n+1)).take m->y.length=m->l=ns.drop (q+1+n+1+m)->du ns q xs l
inductive dD(ns:List Int)(p:Nat)(c:List (List Int))(t:List Int):Prop|mk(tc:Call)(p':Nat):TaflEndsNeutral.callOf (PyWqacdc.whole c)=some tc->VR ns p tc p'->t=ns.drop p'->p<p'->p'<=ns.length->dD ns p c t
theorem W2{x t:List Int}(h:PyFlat.row (ns.drop p)=some (x,t)):dv ns p x t:=by
 cases e:ns.drop p with
 |nil=>rw[e]at h;cases h
 |cons z r=>
  rw[e]at h;obtain⟨b,a⟩:=drop_cons e;replace h:(if 0<=z/\z.toNat<=r.length then some (r.take z.toNat,r.drop z.toNat)else none)=some (x,t):=h;split at h
  ·rename_i q;have d:p<ns.length:=(z8.mp b).1;have c:r.length=ns.length-(p+1):=by rw[a,yI]
   injection h with h;injection h with h3 h4;refine⟨z.toNat,by rw[b,uE q.1],∅,by rw[<-h3,a],by rw[<-h3,zO];lia,by rw[<-h4,a,xr]⟩
  ·cases h
theorem Jn{x:List Int}(h:x.all (fun(z:Int)=>decide (0<=z)&&decide (z<=255))=true):∃b:Bytes,Tafl.text? x=some b/\x=bInts b/\b.length=x.length:=by
 refine⟨x.map fun(n:Int)=>UInt8.ofNat n.toNat,?_,?_,by rw[z3]⟩;·unfold Tafl.text?;rw[zc (show NeutralIO.bytes x=true from h)]
 ·unfold bInts;rw[zG];symm;conv=>rhs;rw[<-sY x]
  apply y6;intro z a;rw[yq]at h;have:=h z a;rw[zp,zq,zq]at this;show(((UInt8.ofNat z.toNat).toNat:Nat):Int)=z;rw[rp];have:z.toNat%2^8=z.toNat:=xn ∅;rw[this];lia
theorem eS{x:List Int}(h:x.all (fun(z:Int)=>decide (0<=z))=true):∃t:List Nat,row? x=some t/\x=asInts t/\t.length=x.length:=by
 induction x with
 |nil=>exact⟨[],rfl,rfl,rfl⟩
 |cons z x b=>
  rw[wY,zp,zq]at h;obtain⟨t,a,d,c⟩:=b h.2;refine⟨z.toNat::t,?_,?_,by rw[zm,zm,c]⟩;·unfold row? at a|-;rw[List.mapM_cons,a];unfold nat?;rw[zc h.1];rfl
  ·show z::x=((z.toNat:Nat):Int)::asInts t;rw[<-d,uE h.1]
theorem MM{z:Int}(h:decide (0<=z)=true):nat? z=some z.toNat/\z=((z.toNat:Nat):Int):=by rw[zq]at h;unfold nat?;exact⟨zc h,(uE h).symm⟩
theorem W1{q:Nat}{l:List Int}{xs:List (List Int)}(h:PyFlat.rows 1 (ns.drop q)=some (xs,l)):∃x,xs=[x]/\dv ns q x l:=by replace h:(match PyFlat.row (ns.drop q)with|none=>none|some (x,s)=>some ([x],s))=some (xs,l):=h;cases a:PyFlat.row (ns.drop q)with|none=>rw[a]at h;cases h|some y=>rw[a]at h;obtain⟨x,s⟩:=y;cases h;exact⟨x,rfl,W2 a⟩
theorem mu{q:Nat}{l:List Int}{xs:List (List Int)}(h:PyFlat.rows 2 (ns.drop q)=some (xs,l)):du ns q xs l:=by replace h:(match PyFlat.row (ns.drop q)with|none=>none|some (x,s)=>match PyFlat.rows 1 s with|none=>none|some (xs,t)=>some (x::xs,t))=some (xs,l):=h;cases a:PyFlat.row (ns.drop q)with|none=>rw[a]at h;cases h|some y=>rw[a]at h;obtain⟨x,s⟩:=y;obtain⟨n,o,k,j,i,rfl⟩:=W2 a;dsimp only at h;cases b:PyFlat.rows 1 (ns.drop (q+1+n))with|none=>rw[b]at h;cases h|some v=>rw[b]at h;obtain⟨p,u⟩:=v;cases h;obtain⟨y,rfl,m,g,f,e,d,c⟩:=W1 b;exact⟨x,y,n,m,rfl,o,k,j,i,g,f,e,d,c⟩
theorem W0{k:Nat}{z:Int}{c:List (List Int)}{t:List Int}(h:(if(ns.drop (p+1)).length<0 then none else match PyFlat.rows k ((ns.drop (p+1)).drop 0)with|none=>none|some (xs,t)=>some ((z::(ns.drop (p+1)).take 0)::xs,t))=some (c,t)):∃xs,PyFlat.rows k (ns.drop (p+1))=some (xs,t)/\c=[z]::xs:=by rw[zb ∅,xK]at h;cases a:PyFlat.rows k (ns.drop (p+1))with|none=>rw[a]at h;cases h|some y=>rw[a]at h;obtain⟨xs,s⟩:=y;cases h;exact⟨xs,rfl,rfl⟩
theorem RY{k:Nat}{z:Int}{c:List (List Int)}{t:List Int}(h:(if(ns.drop (p+1)).length<1 then none else match PyFlat.rows k ((ns.drop (p+1)).drop 1)with|none=>none|some (xs,t)=>some ((z::(ns.drop (p+1)).take 1)::xs,t))=some (c,t)):∃y xs,ns[p+1]?=some y/\PyFlat.rows k (ns.drop (p+1+1))=some (xs,t)/\c=[z,y]::xs:=by
 split at h;·cases h
 ·rename_i a;rw[yI]at a;have d:ns[p+1]?=some ns[p+1]:=z4 ∅;rw[xr]at h;cases b:PyFlat.rows k (ns.drop (p+1+1))with|none=>rw[b]at h;cases h|some y=>rw[b]at h;obtain⟨xs,s⟩:=y;cases h;exists _,xs,d,rfl;rw[yf ∅,xE,wI]
theorem gB{c:List (List Int)}{t:List Int}(h:PyFlat.call PyWqacdc.shape (ns.drop p)=some (c,t))(d:TaflEndsNeutral.asked1 (PyWqacdc.whole c)=true):dD ns p c t:=by
 cases e:ns.drop p with
 |nil=>rw[e]at h;cases h
 |cons z r=>
  rw[e]at h;obtain⟨g,J⟩:=drop_cons e;have F:p<ns.length:=(z8.mp g).1;replace h:(match PyWqacdc.shape z with|none=>none|some (n,k)=>if r.length<n then none else match PyFlat.rows k (r.drop n)with|none=>none|some (xs,t)=>some ((z::r.take n)::xs,t))=some (c,t):=h;subst J;have C:z=0\/z=1\/z=2\/z=3\/z=4\/z=5\/z=6\/z=7\/z=8:=by
   apply vp;intro P;have:PyWqacdc.shape z=none:=by unfold PyWqacdc.shape;rw[zb ∅,zb ∅,zb ∅,zb ∅,zb ∅,zb ∅,zb ∅,zb ∅,zb ∅]
   rw[this]at h;cases h
  rcases C with rfl|rfl|rfl|rfl|rfl|rfl|rfl|rfl|rfl;·obtain⟨xs,a,rfl⟩:=W0 (k:=1) h;obtain⟨x,rfl,n,w,i,v,D,A⟩:=W1 a;obtain⟨b,q,o,B⟩:=Jn (show x.all _=true from d);have s:n=b.length:=∅;subst s;exact⟨.rules b,_,by show(Tafl.text? x).map _=_;rw[q];rfl,⟨g,w,i,by rw[<-v];exact o,rfl⟩,A,∅,i⟩
  ·obtain⟨y,xs,f,a,rfl⟩:=RY (k:=1) h;obtain⟨x,rfl,n,w,i,v,D,A⟩:=W1 a;replace d:(decide (0<=y)&&x.all (fun(z:Int)=>decide (0<=z)&&decide (z<=255)))=true:=d;rw[zp]at d;obtain⟨b,q,o,B⟩:=Jn d.2;obtain⟨l,j⟩:=MM d.1;have s:n=b.length:=∅;subst s;exact⟨.find b y.toNat,_,by
    show(do
     return Call.find (<-Tafl.text? x) (<-nat? y))=_;rw[q,l];rfl,⟨g,by rw[<-j];exact f,w,i,by rw[<-v];exact o,rfl⟩,A,∅,i⟩
  ·obtain⟨y,xs,f,a,rfl⟩:=RY (k:=0) h;cases a;obtain⟨l,j⟩:=MM (show decide (0<=y)=true from d);exact⟨.pos y.toNat,_,by show(nat? y).map _=_;rw[l];rfl,⟨g,by rw[<-j];exact f,rfl⟩,rfl,∅,(z8.mp f).1⟩
  ·obtain⟨xs,a,rfl⟩:=W0 (k:=1) h;obtain⟨x,rfl,n,w,i,v,D,A⟩:=W1 a;obtain⟨b,q,o,B⟩:=Jn (show x.all _=true from d);have s:n=b.length:=∅;subst s;exact⟨.no b,_,by show(Tafl.text? x).map _=_;rw[q];rfl,⟨g,w,i,by rw[<-v];exact o,rfl⟩,A,∅,i⟩
  ·obtain⟨y,xs,f,a,rfl⟩:=RY (k:=0) h;cases a;obtain⟨l,j⟩:=MM (show decide (0<=y)=true from d);exact⟨.value y.toNat,_,by show(nat? y).map _=_;rw[l];rfl,⟨g,by rw[<-j];exact f,rfl⟩,rfl,∅,(z8.mp f).1⟩
  ·obtain⟨y,xs,f,a,rfl⟩:=RY (k:=0) h;cases a;obtain⟨l,j⟩:=MM (show decide (0<=y)=true from d);exact⟨.best y.toNat,_,by show(nat? y).map _=_;rw[l];rfl,⟨g,by rw[<-j];exact f,rfl⟩,rfl,∅,(z8.mp f).1⟩
  ·obtain⟨xs,a,rfl⟩:=W0 (k:=0) h;cases a;exact⟨.sums,_,rfl,⟨g,rfl⟩,rfl,∅,F⟩
  ·obtain⟨xs,a,rfl⟩:=W0 (k:=0) h;cases a;exact⟨.table,_,rfl,⟨g,rfl⟩,rfl,∅,F⟩
  ·obtain⟨y,xs,f,a,rfl⟩:=RY (k:=2) h;obtain⟨x,u,n,m,rfl,w,i,v,D,N,G,M,Q,L⟩:=mu a;replace d:(decide (0<=y)&&(x.all (fun(z:Int)=>decide (0<=z)&&decide (z<=255))&&u.all (fun(z:Int)=>decide (0<=z))))=true:=d;rw[zp,zp]at d;obtain⟨b,q,o,B⟩:=Jn d.2.1;obtain⟨E,I,H,O⟩:=eS d.2.2;obtain⟨l,j⟩:=MM d.1;have s:n=b.length:=∅;have K:m=E.length:=∅;subst s K;exact⟨.judge b y.toNat E,_,by
    show(do
     return Call.judge (<-Tafl.text? x) (<-nat? y) (<-row? u))=_;rw[q,l,I];rfl,⟨g,by rw[<-j];exact f,w,i,by rw[<-v];exact o,N,G,by rw[<-M];exact H,rfl⟩,L,∅,G⟩
def gN(f d:Addr)(H H':Hp):Prop:=∀b o,H b=some o->b≠f->b≠d->H' b=some o
theorem mW{j k d i h b:Addr}{c g:V}(a:H f=some (.ins j i (QI b p)))(e:H d=some (.ins k h (V5 c g))):f≠d:=fun z=>by rw[z,e]at a;injection a with h1;injection h1 with _ _ h1;injection h1 with h1 _;injection h1 with h1 _;exact absurd h1 ∎
structure nj(K:Frag)(C0 CF CD C CE d f la:Addr)(ns:List Int)(s:TaflEnds.State)(c:Call)(p':Nat)(H:Hp)(Q:VK)(E:XK):Prop where
 ok:∀H' l,Eo K CF H' f la ns p'->Ba CD C CE H' d (TaflEnds.step s c).1->gN f d H H'->H l=none->H' l=some (.lst ((TaflEnds.step s c).2.nums.map V.int))->Q (.ref l) H'
 no:∀CX,dJ K C0 CX->∀H' dx l,H' dx=some (.xd [("told",.ref l)])->Eo K CF H' f la ns p'->Ba CD C CE H' d (TaflEnds.step s c).1->gN f d H H'->H l=none->H' l=some (.lst ((TaflEnds.step s c).2.nums.map V.int))->E (.ref CX) (some dx) H'
theorem Fu{M L A y d u:Addr}{s:TaflEnds.State}{c:Call}{B:Nat}{h:Hp}{Q:VK}{E:XK}(k:nj K M L A C y d f u ns s c B H Q E)(P:Eo K L h f u ns B)(I:Ba A C y h d s)(w:DA f H h)(r:d≠u):Out K M A C y d s c h Q E:=by
 obtain⟨⟨g,j⟩,a,F,G⟩:=P;obtain⟨J,W,X,O,Y,Y⟩:=id I;have p:=mW j O;have D:∀{l:Addr},h l=none->H l=none:=fun{l} z=>by
  cases q:H l with
  |none=>rfl
  |some o=>
   have:=w l o q fun e=>by rw[e,j]at z;cases z
   rw[z]at this;cases this
 refine⟨fun H' l v x t N=>?_,fun S V R H' J l U T t i=>?_⟩;·exact k.ok H' l ⟨⟨g,x _ _ j p⟩,AJ.but x (zN r) a,F,G⟩ v (fun b o e n m=>x b o (w b o e n) m) (D t) N
 ·exact k.no V R H' J l U ⟨⟨g,i _ _ j⟩,i.seq a,F,G⟩ (by rw[S];exact I.same i) (fun b o e n Y=>i b o (w b o e n)) (D t) T
inductive Qa(K:Frag)(C0 CF CD C CE:Addr):_|mk(d f la:Addr)(ns:List Int)(p p':Nat)(s:TaflEnds.State)(c:Call):vs=[.ref d,.ref f]->Eo K CF H f la ns p->d≠la->Ba CD C CE H d s->VR ns p c p'->nj K C0 CF CD C CE d f la ns s c p' H Q E->Qa K C0 CF CD C CE vs H Q E
theorem BF{b a:Addr}{z:Int}{c:L2.St}{Q:VK}(g:c[1]?=some (some (.ref f)))(d:Eo K b H f a ns p)(e:ns[p]?=some z)(k:∀H',Eo K b H' f a ns (p+1)->DA f H H'->Q (.int z) H'):DF b "take_whole" (PZ K b) [] E0 (Bj 1) Ca c H Q:=by obtain⟨⟨i,h⟩,Y⟩:=id d;exact⟨_,g,f,i,_,rfl,h,Tv a p,f,a,ns,p,z,rfl,d,e,k⟩
theorem IF{c a:Addr}{b:Bytes}{d:L2.St}{Q:VK}(h:d[1]?=some (some (.ref f)))(e:Eo K c H f a ns p)(g:ns[p]?=some (b.length:Int))(i:p+1+b.length<=ns.length)(l:(ns.drop (p+1)).take b.length=bInts b)(k:∀H' x,Eo K c H' f a ns (p+1+b.length)->DA f H H'->Tx x b->Q (.str x) H'):DF c "take_text" (U2 K c) [] E0 (Bj 1) Ca d H Q:=by obtain⟨⟨m,j⟩,Y⟩:=id e;exact⟨_,h,f,m,_,rfl,j,Xb a p,f,a,ns,p,b,rfl,e,g,i,l,k⟩
theorem eX{b a:Addr}{c:L2.St}{Q:VK}(g:c[1]?=some (some (.ref f)))(d:Eo K b H f a ns p)(e:ns[p]?=some (n:Int))(h:p+1+n<=ns.length)(k:∀H' l,Eo K b H' f a ns (p+1+n)->DA f H H'->H l=none->H' l=some (.lst (((ns.drop (p+1)).take n).map V.int))->Q (.ref l) H'):DF b "take_row" (Z3 K b) [] E0 (Bj 1) Ca c H Q:=by obtain⟨⟨j,i⟩,Y⟩:=id d;exact⟨_,g,f,j,_,rfl,i,cE a p,f,a,ns,p,n,rfl,d,e,h,k⟩
theorem AK{a:L2.St}{D:Ends}{z n:Int}{t u:TS}(c:a[2]?=some (some (.int z)))(b:decide (V.int z=V.int n)=false)(k:u D a H):LU (Zs (Ou (Ry nM (Bj 2) (tC (.int n)))) t VW) u D a H:=⟨_,c,rfl,_,rfl,B9 b k⟩
theorem Fq{b:L2.St}{D:Ends}{z n:Int}{t u:TS}(c:b[2]?=some (some (.int z)))(d:decide (V.int z=V.int n)=true)(k:t {D with nx:=fun a H'=>u D a H'} b H):LU (Zs (Ou (Ry nM (Bj 2) (tC (.int n)))) t VW) u D b H:=⟨_,c,rfl,_,rfl,BJ d k⟩
abbrev vE:List Str:=["desk","feed","call","most","line"]
theorem ZL:Ah vE ["desk","feed"] (Ad OL):={}
theorem Y1(j:AY):pz 11 "answer_or_refuse" ["desk","feed"] (Qa K aZ aF aD aH aE):=by
 refine j.HZ.has fun F=>F.Jw ZL fun H Q E J h G=>?_;obtain⟨d,f,la,ns,p,p',C,c,rfl,D,o,hD,L,k⟩:=h;have v:AW 1 _:=J.mono ⋯;have a0:AW 2 _:=J.mono ⋯;have I:AW 3 _:=J.mono ⋯;have W:AW 5 _:=J.mono ⋯;have V:AW 6 _:=J.mono ⋯;have U:AW 7 _:=J.mono ⋯;have Z:AW 8 _:=J.mono ⋯;exists%[An (i:=2) ZL.nd (AU (Dl j) (pv 1) j.fc.cl v Ar),AM (Ao AZ (pv 2) Ae) (Ag (Aj (AH (QA j) (pv 0) j.dc.cl Z G.passes (#v[AU (Ja j) (pv 1) j.fc.cl I Ar])))) Au,AM (Ao AZ (pv 2) Ae) (%[An (i:=3) ZL.nd (AU (Dl j) (pv 1) j.fc.cl v Ar) |Aj (AH (Tf j) (pv 0) j.dc.cl J G.passes (#v[pv 3,AU (Ja j) (pv 1) j.fc.cl I Ar]))]) Au,AM (Ao AZ (pv 2) Ae) (Ag (Aj (AH (Q7 j) (pv 0) j.dc.cl V G.passes (#v[AU (Dl j) (pv 1) j.fc.cl v Ar])))) Au,AM (Ao AZ (pv 2) Ae) (Ag (Aj (AH (Nf j) (pv 0) j.dc.cl U G.passes (#v[AU (Ja j) (pv 1) j.fc.cl I Ar])))) Au,AM (Ao AZ (pv 2) Ae) (Ag (Aj (AH (NS j) (pv 0) j.dc.cl V G.passes (#v[AU (Dl j) (pv 1) j.fc.cl v Ar])))) Au,AM (Ao AZ (pv 2) Ae) (Ag (Aj (AH (Q8 j) (pv 0) j.dc.cl U G.passes (#v[AU (Dl j) (pv 1) j.fc.cl v Ar])))) Au,AM (Ao AZ (pv 2) Ae) (Ag (Aj (AU (Q6 j) (pv 0) j.dc.cl W G.passes))) Au,AM (Ao AZ (pv 2) Ae) (Ag (Aj (AU (NT j) (pv 0) j.dc.cl W G.passes))) Au,AM (Ao AZ (pv 2) Ae) (%[An (i:=3) ZL.nd (AU (Dl j) (pv 1) j.fc.cl v Ar),An (i:=4) ZL.nd (AU (Ja j) (pv 1) j.fc.cl I Ar) |Aj (AH (Yw j) (pv 0) j.dc.cl J G.passes (#v[pv 3,pv 4,AU (WW j) (pv 1) j.fc.cl a0 Ar]))]) Au|aI];obtain⟨⟨a6,hf⟩,a5,a3,a4⟩:=id D;have e:∀{u:Hp},DA f H u->Ba aD aH aE u d C:=fun B=>hD.feed hf B;have q:∀{u:Hp},DA f H u->∃n y z,u d=some (.ins aD n (V5 y z)):=fun B=>by obtain⟨n,y,z,h,Y,Y⟩:=e B;exact⟨n,y,z,h⟩
 cases c with|rules b=>obtain⟨s,w,R,P,rfl⟩:=L;refine BF rfl D s fun u l a=>Ax ?_;cbv;refine Fq rfl ⋯ ?_;obtain⟨n,y,z,r⟩:=q a;refine⟨_,rfl,d,n,_,rfl,r,Df _ _ ∎ ∎,IF rfl l w R P fun T x m g N=>?_⟩;exact⟨d,x,b,C,rfl,N,e (a.trans g),Fu k m (e (a.trans g)) (a.trans g) o⟩ |find b A=>obtain⟨s,w,R,P,h4,rfl⟩:=L;refine BF rfl D s fun u l a=>Ax ?_;cbv;refine AK rfl ⋯ (Fq rfl ⋯ (BF rfl l w fun T m g=>Ax ?_));cbv;obtain⟨n,y,z,r⟩:=q (a.trans g);refine⟨_,rfl,d,n,_,rfl,r,Df _ _ ∎ ∎,_,rfl,IF rfl m R P h4 fun H3 x O S N=>?_⟩;have B:=(a.trans g).trans S;exact⟨d,x,b,A,C,rfl,N,e B,Fu k O (e B) B o⟩ |pos i=>obtain⟨s,w,rfl⟩:=L;refine BF rfl D s fun u l a=>Ax ?_;cbv;refine AK rfl ⋯ (AK rfl ⋯ (Fq rfl ⋯ ?_));obtain⟨n,y,z,r⟩:=q a;refine⟨_,rfl,d,n,_,rfl,r,Df _ _ ∎ ∎,BF rfl l w fun T m g=>?_⟩;exact⟨d,i,C,rfl,e (a.trans g),Fu k m (e (a.trans g)) (a.trans g) o⟩ |no b=>obtain⟨s,w,R,P,rfl⟩:=L;refine BF rfl D s fun u l a=>Ax ?_;cbv;refine AK rfl ⋯ (AK rfl ⋯ (AK rfl ⋯ (Fq rfl ⋯ ?_)));obtain⟨n,y,z,r⟩:=q a;refine⟨_,rfl,d,n,_,rfl,r,Df _ _ ∎ ∎,IF rfl l w R P fun T x m g N=>?_⟩;exact⟨d,x,b,C,rfl,N,e (a.trans g),Fu k m (e (a.trans g)) (a.trans g) o⟩ |value i=>obtain⟨s,w,rfl⟩:=L;refine BF rfl D s fun u l a=>Ax ?_;cbv;refine AK rfl ⋯ (AK rfl ⋯ (AK rfl ⋯ (AK rfl ⋯ (Fq rfl ⋯ ?_))));obtain⟨n,y,z,r⟩:=q a;refine⟨_,rfl,d,n,_,rfl,r,Df _ _ ∎ ∎,BF rfl l w fun T m g=>?_⟩;exact⟨d,i,C,rfl,e (a.trans g),Fu k m (e (a.trans g)) (a.trans g) o⟩ |best i=>obtain⟨s,w,rfl⟩:=L;refine BF rfl D s fun u l a=>Ax ?_;cbv;refine AK rfl ⋯ (AK rfl ⋯ (AK rfl ⋯ (AK rfl ⋯ (AK rfl ⋯ (Fq rfl ⋯ ?_)))));obtain⟨n,y,z,r⟩:=q a;refine⟨_,rfl,d,n,_,rfl,r,Df _ _ ∎ ∎,BF rfl l w fun T m g=>?_⟩;exact⟨d,i,C,rfl,e (a.trans g),Fu k m (e (a.trans g)) (a.trans g) o⟩ |sums=>obtain⟨s,rfl⟩:=L;refine BF rfl D s fun u l a=>Ax ?_;cbv;refine AK rfl ⋯ (AK rfl ⋯ (AK rfl ⋯ (AK rfl ⋯ (AK rfl ⋯ (AK rfl ⋯ (Fq rfl ⋯ ?_))))));obtain⟨n,y,z,r⟩:=q a;exact⟨_,rfl,d,n,_,rfl,r,Df _ _ ∎ ∎,d,C,rfl,e a,Fu k l (e a) a o⟩ |table=>obtain⟨s,rfl⟩:=L;refine BF rfl D s fun u l a=>Ax ?_;cbv;refine AK rfl ⋯ (AK rfl ⋯ (AK rfl ⋯ (AK rfl ⋯ (AK rfl ⋯ (AK rfl ⋯ (AK rfl ⋯ (Fq rfl ⋯ ?_)))))));obtain⟨n,y,z,r⟩:=q a;exact⟨_,rfl,d,n,_,rfl,r,Df _ _ ∎ ∎,d,C,rfl,e a,Fu k l (e a) a o⟩ |judge b A t=>obtain⟨s,w,R,P,h4,h5,h6,h7,rfl⟩:=L;refine BF rfl D s fun u l a=>Ax ?_;cbv;refine AK rfl ⋯ (AK rfl ⋯ (AK rfl ⋯ (AK rfl ⋯ (AK rfl ⋯ (AK rfl ⋯ (AK rfl ⋯ (AK rfl ⋯ (Fq rfl ⋯ (BF rfl l w fun T m g=>Ax ?_)))))))));cbv;refine IF rfl m R P h4 fun H3 x O S N=>Ax ?_;cbv;have M:=(a.trans g).trans S;obtain⟨n,y,z,r⟩:=q M;refine⟨_,rfl,d,n,_,rfl,r,Df _ _ ∎ ∎,_,rfl,_,rfl,eX rfl O h5 h6 fun H4 l4 a1 a2 n4 X=>?_⟩;have B:=M.trans a2;rw[h7]at X;exact⟨d,l4,x,b,A,t,C,rfl,N,X,e B,Fu k a1 (e B) B o⟩
theorem bq{I G:Addr}{d:Addr}{s:TaflEnds.State}(E:Ba I C G H d s)(c:Call):(TaflEnds.step s c).2.nums.length<=2000:=by
 obtain⟨O,J,N,Y,M,v⟩:=E;have a:∀z:Int,(says z).nums.length<=2000:=fun z=>by show 1<=2000;decide
 have g:∀(z:Int)(k p:Nat),(fault z k p).nums.length<=2000:=fun z k p=>by show 3<=2000;decide
 have l:∀(f:Rules->Held->Answer),(∀r h,B1 r->h.values.length<=200->(f r h).nums.length<=2000)->(ofHeld s f).2.nums.length<=2000:=fun f D=>by cases o:s.held with|none=>rw[DV o];exact a _|some h=>rw[o]at v;obtain⟨r,e,y,F,w,Y,u,A⟩:=v;rw[DU w o];exact D r h u.g.Z (by rw[A];show(r.values (y.map pB)).length<=200;rw[u.Xs];exact u.g.small)
 cases c with
 |rules b=>show(match judge b with| .error (k,p)=>(s,fault (-6) k p) | .ok r=>(⟨some r,none⟩,says 0)).2.nums.length<=2000;cases judge b with|error f=>exact g _ _ _|ok r=>exact a _
 |find b n=>
  rw[P2];cases s.rules with
  |none=>exact a _
  |some r=>
   cbv;cases r.readLine b with
   |error f=>exact g _ _ _
   |ok p=>
    cbv;split;·exact a _
    ·cases graphOf r n p<;>exact a _
 |pos i=>refine l _ fun r h Z Y=>?_;cases h.graph[i]? with|none=>exact a _|some p=>show(0::((((r.line p).length:Int)::(r.line p).map fun(c:UInt8)=>((c.toNat:Nat):Int))++[])).length<=2000;rw[zR,zm,zm,z3];have:=SH Z p;lia
 |no b=>cases o:s.held with|none=>rw[WH o];exact a _|some h=>rw[o]at v;obtain⟨r,e,y,F,w,Y,u,A⟩:=v;rw[WG w o];cbv;cases r.readLine b with|error f=>exact g _ _ _|ok p=>cbv;cases h.graph.findIdx? fun(q:Tafl.Pos)=>q==p<;>exact a _
 |value i=>
  refine l _ fun r h Z Y=>?_;split;·exact a _
  ·cases h.values.getD i none with|none=>show 3<=2000;decide|some x=>show 3<=2000;decide
 |best i=>
  refine l _ fun r h Z Y=>?_;cases h.graph[i]? with
  |none=>exact a _
  |some p=>
   cbv;cases r.best h.graph h.values i with
   |none=>exact a _
   |some B=>
    obtain⟨m,j⟩:=B;show(0::([((j:Nat):Int)]++((((toldMove r p m).length:Int)::asInts (toldMove r p m))++[]))).length<=2000;have K:(r.takes p m).length<=192:=by unfold Rules.takes;exact z_ (xy _ _) (by rw[yj];exact ze _)
    rw[zR];unfold asInts toldMove;simp only[zm,zd,z3,yQ];lia
 |sums=>refine l _ fun r h Z Y=>?_;rw[Fj];unfold asInts;simp only[zm,z3];show 7+1+1<=2000;decide
 |table=>refine l _ fun r h Z L=>?_;rw[Fj];unfold asInts;simp only[zm,z3];lia
 |judge b n t=>
  rw[M_];cases s.rules with
  |none=>exact a _
  |some r=>
   cbv;cases r.readLine b with
   |error f=>exact g _ _ _
   |ok p=>
    cbv;split;·exact a _
    ·cases graphOf r n p<;>exact a _
def Kz(H H':Hp):Prop:=∀b o,H b=some o->(∀x u,o≠ .Hy x u)->H' b=some o
theorem Bg.kz{r:Rules}(h:Bg C H a r)(s:Kz H H'):Bg C H' a r:=by obtain⟨⟨k,d,l,j,i,g,f⟩,Z,N⟩:=h;exact⟨⟨k,d,l,s _ _ j (fun Y Y e=>by cases e),s _ _ i (fun Y Y e=>by cases e),g,fun c b e=>s _ _ (f c b e) fun Y Y e=>by cases e⟩,Z,N⟩
theorem Dg.kz{c:Addr}{e:Addr}{r:Rules}{a:List Bd}{b:List (List Nat)}(h:Dg c H e r a b)(s:Kz H H'):Dg c H' e r a b:=by obtain⟨⟨A,l,o,v,d,q,⟨k,n,m⟩,p,⟨t,y,x,w⟩,⟨j,i,f⟩⟩,g,u⟩:=h;refine⟨⟨A,l,o,v,d,s _ _ q (fun Y Y e=>by cases e),⟨k,s _ _ n (fun Y Y e=>by cases e),Am (fun Y Y z=>s _ _ z fun Y Y e=>(by cases e)) m⟩,s _ _ p (fun Y Y e=>by cases e),⟨t,s _ _ y (fun Y Y e=>by cases e),Am (fun Y Y z=>s _ _ z fun Y Y e=>(by cases e)) x,w⟩,⟨j,s _ _ i (fun Y Y e=>by cases e),Am (fun Y Y z=>s _ _ z fun Y Y e=>(by cases e)) f⟩⟩,g,u⟩
theorem Ba.kz{j i:Addr}{d:Addr}{s:TaflEnds.State}(h:Ba j C i H d s)(k:Kz H H'):Ba j C i H' d s:=by
 obtain⟨w,q,v,t,c,b⟩:=h;exists w,q,v,k _ _ t (fun Y Y e=>by cases e),?_;·cases f:s.rules with|none=>rw[f]at c;exact c|some r=>rw[f]at c;obtain⟨a,e,h⟩:=c;exact⟨a,e,h.kz k⟩
 ·cases g:s.held with|none=>rw[g]at b;exact b|some x=>rw[g]at b;obtain⟨r,e,p,u,o,n,m,l⟩:=b;exact⟨r,e,p,u,o,n,m.kz k,l⟩
theorem ZO{T:Addr}{o:HO}:Ap (Lk H T) (Av H T o):=fun b x e=>by obtain⟨n,e⟩:=T7 e;rw[Ac n];exact e
theorem gq{T:Addr}{o:HO}:Lk (Av H T o) T=Lk H T:=by
 funext b;unfold Lk;split;·rfl
 ·rename_i h;rw[Ac h]
def qO(K:Frag)(n j m C k d f h:Addr)(ns:List Int)(s:TaflEnds.State)(c:Call)(g:Nat)(H:Hp):XK:=fun v i a=>∃e b l,v= .ref e/\dJ K n e/\i=some b/\a b=some (.xd [("told",.ref l)])/\Eo K j a f h ns g/\Ba m C k a d (TaflEnds.step s c).1/\gN f d H a/\H l=none/\a l=some (.lst ((TaflEnds.step s c).2.nums.map V.int))
inductive OA(K:Frag)(CF CD C CE:Addr):_|mk(d f la:Addr)(ns:List Int)(p p':Nat)(s:TaflEnds.State)(c:Call):vs=[.ref d,.ref f]->Eo K CF H f la ns p->d≠la->Ba CD C CE H d s->VR ns p c p'->(∀H' l,Eo K CF H' f la ns p'->Ba CD C CE H' d (TaflEnds.step s c).1->gN f d H H'->H l=none->H' l=some (.lst ((TaflEnds.step s c).2.nums.map V.int))->Q (.ref l) H')->OA K CF CD C CE vs H Q E
theorem iQ{c:Bool}{X:Cx}:C7 c X E0:=fun Y Y Y Y Y Y Y Y Y Y Y Y q=>q.elim
abbrev w4:List Str:=["desk","feed","e"]
theorem mj:Ah w4 ["desk","feed"] (Ad K5):={}
theorem Tn(w:AY):FK 12 "answer_call" ["desk","feed"] (OA K aF aD aH aE):=by refine w.Oc.has fun F=>F.ok mj fun H Q E P h=>?_;obtain⟨d,f,B,ns,p,y,x,c,rfl,U,z,V,T,k⟩:=h;exists Ag (UQ (c:=false) (c':=false) (E:=qO K aZ aF aD aH aE d f B ns x c y H) (E':=E0) (i:=2) (tb:=PV (Kt (Qa K aZ aF aD aH aE) [] (qO K aZ aF aD aH aE d f B ns x c y H) (Be (Bj 0) (Be (Bj 1) Ca)))) (ts:=fun a=>PV (VV K (Bj 2) "told")) ⟨rfl,rfl⟩ mj.nd rfl rfl rfl w.qW w.qV (fun pn xe J=>by exact(Ag (Aj (Ay (Y1 w) P rfl J.passes (#v[pv 0,pv 1]))))) iQ (fun a xe J=>by exact(Ag (Aj (Qo (pv 2) rfl)))));refine⟨⟨_,rfl,_,rfl,d,f,B,ns,p,y,x,c,rfl,U,z,V,T,⟨fun H' l t s r q j=>k H' l t s r q j,fun M u H' v l t s r q j D=>⟨M,v,l,rfl,u,rfl,t,s,r,q,j,D⟩⟩⟩,?_⟩;rintro I N X L ⟨M,v,l,W,u,rfl,t,s,r,q,j,D⟩ A;cases W;have g:Ap L (Av L I (YO false I N (some v))):=Af A;obtain⟨⟨G,S⟩,C,O,R⟩:=s;exact⟨u.sub,_,rfl,false,I,N,v,[("told",.ref l)],_,rfl,Aa,u.at_,g _ _ t,xW,k _ l ⟨⟨G,g _ _ S⟩,g.seq C,O,R⟩ (r.same g) (fun b o e n m=>g _ _ (q b o e n m)) j (g _ _ D)⟩
inductive RC(C:Addr):_|mk(H0:Hp)(f la:Addr):vs=[.ref f,.ref la]->(∃dx,H f=some (.ins C dx []))->Ap H0 H->H0 f=none->(∀H' dx,H' f=some (.ins C dx (QI la 0))->Ap H0 H'->Q .B0 H')->RC C vs H Q E
theorem Tg(a:AY):nS 1 aF ["self","numbers"] (RC aF):=by refine a.jW.has fun F=>F.ok oE fun H Q E j h=>?_;obtain⟨l,f,g,rfl,⟨d,i⟩,b,c,k⟩:=h;exists%[B2 (pv 0) (pv 1) |B2 (pv 0) Ae];exists _,rfl,_,rfl,f,aF,d,_,rfl,i,a.fc.cl,a.fc.nH,(by show 0<1000;decide);exists _,rfl,f,aF,d,_,rfl,Aa,a.fc.cl,a.fc.nA,(by show 1<1000;decide);rw[DH];have e:By "at" (V.int 0) (By "handed" (V.ref g) [])=QI g 0:=#v[];rw[e];exact k _ d Aa (Bv b c)
theorem gU{c:Addr}{f:Addr}{e:List (Str×V)}(d:KH K H)(h:AJ K H c xs)(b:H a=some (.ins C f e)):a≠c:=fun z=>by
 rw[z]at b;rcases h with(h|⟨o,h⟩) |⟨o,Y,Y,h,Y⟩;·rw[h]at b;cases b
 ·rw[h]at b;cases b
 ·rw[d c o h]at b;cases b
theorem i_{b:Addr}{o:HO}(d:KH K H')(h:AJ K H b xs)(n:H a=none)(c:H' a=some o):a≠b:=fun z=>by
 rw[z]at c n;rcases h with(h|⟨o,h⟩) |⟨o,Y,Y,h,Y⟩;·rw[h]at n;cases n
 ·rw[h]at n;cases n
 ·rw[d b o h]at c;cases c
abbrev vH:List Str:=["calls","feed","desk","told","answer"]
theorem ZM:Ah vH ["calls"] (Ad EM):={}
theorem Tj(L:AY){f0:Addr}{b5:FuncData}(F:En K "answers" "answers" EM f0 b5):Vx 13 f0 b5 ["calls"] (EJ K):=by
 refine F.ok ZM fun H Q E hr h=>?_;obtain⟨B,ns,rfl,c3,R,u,k⟩:=h;have c2:AW 1 _:=hr.mono ⋯;have a0:AW 2 _:=hr.mono ⋯;exists%[An (i:=1) ZM.nd (IL (Tg L) a0 rfl L.ki Ar (#v[pv 0])),An (i:=2) ZM.nd (aQ (Yz L) a0 rfl L.kj Ar),An (i:=3) ZM.nd (AF Ce),Ql (CV y0 (BU (AU (ck L) (pv 1) L.fc.cl c2 Ar)) (%[An (i:=4) ZM.nd (fk (Ay (Tn L) hr rfl Ar (#v[pv 2,pv 1]))),A2 (B5 zK zW zY Bz (pv 3) (#v[AO AV L.D6 y8 (#v[pv 4])])) |A2 (B5 zK xN wA GP (pv 3) (#v[pv 4]))])) |Aj (pv 3)];refine⟨_,rfl,fun f df nf b9 d3=>?_⟩;have s0:Ap H (Av (Av H df (.own f)) f (.ins aF df [])):=fun b' o z=>by rw[Ac (Ab z nf),Ac (Ab z b9)];exact z
 refine⟨H,f,B,rfl,⟨df,Aa⟩,s0,nf,fun W d1 a6 s1=>⟨rfl,?_⟩⟩;refine Ax ?_;cbv;refine fun d dd nd c0 d2=>?_;have s2:Ap W (Av (Av W dd (.own d)) d (.ins aD dd [])):=fun b' o z=>by rw[Ac (Ab z nd),Ac (Ab z c0)];exact z
 refine⟨W,d,rfl,⟨dd,Aa⟩,s2,nd,fun H2 b3 s3=>⟨rfl,?_⟩⟩;refine Ax ?_;cbv;refine⟨zx _,fun T hT=>?_⟩;refine Ax ?_;cbv;have sT:=Af (o:= .lst []) hT;intro kh;obtain⟨d8,d4,d7,a7,Y,Y⟩:=id b3;have I:AJ K H2 B (ns.map V.int):=s3.seq (s1.seq c3);have a4:=sT _ _ (s3 _ _ a6);have c4:=sT _ _ a7;have D:=sT.seq I;have C:f≠B:=gU kh D a4;have Z:d≠B:=gU kh D c4;have G:T≠B:=i_ kh I hT Aa;unfold PyWqacdc.answers_asked at u;unfold PyWqacdc.answers at k;cases x:PyWqacdc.calls ns with
 |none=>rw[x]at u;cases u
 |some cs=>
  rw[x]at u k;dsimp only at u k;rw[zp]at u;obtain⟨b4,w⟩:=u;have U:cs.length<=300:=vt b4;unfold PyWqacdc.calls at x;cases P:PyFlat.calls PyWqacdc.shape ns.length ns with
  |none=>rw[P]at x;cases x
  |some A=>
   rw[P]at x;obtain rfl:A.map PyWqacdc.whole=cs:=zt x;rw[z3]at U;have a9:(A.map PyWqacdc.whole).all TaflEndsNeutral.asked1=true:=by unfold TaflEndsNeutral.asked at w;rw[zp]at w;exact w.2
   have O:T≠f:=(Ab (s3 _ _ a6) hT).symm;have c1:T≠d:=(Ab a7 hT).symm;exists fun m σ H'=>E6 fun(v4:Option V) (s:TaflEnds.State) (p g:Nat) (j:List (List (List Int))) (a:List Int)=>A9 (σ=[some (.ref B),some (.ref f),some (.ref d),some (.ref T),v4]) (Eo K aF H' f B ns p) (Ba aD aH aE (Lk H' T) d s) (H' T=some (.lst (a.map V.int))) (PyFlat.calls PyWqacdc.shape g (ns.drop p)=some j) (j.length=m) ((j.map PyWqacdc.whole).all TaflEndsNeutral.asked1=true) (PyFlat.told (PyFlat.played TaflEndsNeutral.step TaflEndsNeutral.start (A.map PyWqacdc.whole))=a++PyFlat.told (PyFlat.played TaflEndsNeutral.step s (j.map PyWqacdc.whole))) (a.length+2001*m<=2001*300),⟨A.length,none,TaflEndsNeutral.start,0,ns.length,A,[],rfl,⟨⟨d1,a4⟩,D,C,R⟩,b3.same (fun b o e=>by rw[BY (Ab e hT)];exact sT _ _ e),Aa,by rw[xK];exact P,rfl,a9,rfl,by simp only[yQ];lia⟩;rintro m σ H' ⟨v4,s,p,g,j,a,rfl,hF,hD,b1,y,hm,ha,e,hl⟩;obtain⟨⟨b7,hf⟩,a2,Y,Y⟩:=id hF;exists _,rfl,f,b7,_,rfl,hf,gi B p,f,B,ns,p,rfl,hF,_,rfl;by_cases hp:p<ns.length
   ·refine BJ (zj hp) ⟨fun X H4=>∃m',m'<m/\E6 fun(v4:Option V) (s:TaflEnds.State) (p g:Nat) (j:List (List (List Int))) (a:List Int)=>A9 (X=[some (.ref B),some (.ref f),some (.ref d),some (.ref T),v4]) (Eo K aF H4 f B ns p) (Ba aD aH aE (Lk H4 T) d s) (H4 T=some (.lst (a.map V.int))) (PyFlat.calls PyWqacdc.shape g (ns.drop p)=some j) (j.length=m') ((j.map PyWqacdc.whole).all TaflEndsNeutral.asked1=true) (PyFlat.told (PyFlat.played TaflEndsNeutral.step TaflEndsNeutral.start (A.map PyWqacdc.whole))=a++PyFlat.told (PyFlat.played TaflEndsNeutral.step s (j.map PyWqacdc.whole))) (a.length+2001*m'<=2001*300),fun X H4 z=>z,?_⟩;obtain⟨z,r,e0⟩:∃z r,ns.drop p=z::r:=⟨_,_,yf hp⟩;have S:∃c t v g',PyFlat.call PyWqacdc.shape (ns.drop p)=some (c,t)/\PyFlat.calls PyWqacdc.shape g' t=some v/\j=c::v:=by rw[e0]at y|-;cases g with|zero=>cases y|succ g=>replace y:(match PyFlat.call PyWqacdc.shape (z::r)with|none=>none|some (c,t)=>match PyFlat.calls PyWqacdc.shape g t with|none=>none|some cs=>some (c::cs))=some j:=y;cases h1:PyFlat.call PyWqacdc.shape (z::r)with|none=>rw[h1]at y;cases y|some ct=>rw[h1]at y;obtain⟨c,t⟩:=ct;dsimp only at y;cases h2:PyFlat.calls PyWqacdc.shape g t with|none=>rw[h2]at y;cases y|some v=>rw[h2]at y;exact⟨c,t,v,g,rfl,h2,(zt y).symm⟩
    obtain⟨c,t,v,g',c6,a8,rfl⟩:=S;rw[zH,wY,zp]at ha;obtain⟨M,p',c5,c9,rfl,d5,d6⟩:=gB c6 ha.1;refine⟨T,.lst (a.map V.int),b1,we,fun od=>?_⟩;have sD:Ap (Lk H' T) (Av H' T (.Hy od (.lst (a.map V.int)))):=ZO;have b8:DA T H' (Av H' T (.Hy od (.lst (a.map V.int)))):=fun b o e n=>by rw[Ac n];exact e
    refine⟨_,rfl,_,rfl,d,f,B,ns,p,p',s,M,rfl,⟨⟨b7,b8 _ _ hf (zN O)⟩,AJ.but b8 (zN G) a2,C,R⟩,Z,hD.same sD,c9,fun W l c7 c8 b2 nl a3=>?_⟩;have b0:W T=some (.Hy od (.lst (a.map V.int))):=b2 _ _ Aa O c1;have N:l≠T:=fun q=>by rw[q,Aa]at nl;cases nl
    have nn:=bq hD M;refine⟨b0,Ax ?_⟩;cbv;exists _,rfl,.inl ⟨rfl,_,AJ.of Aa⟩,_,rfl,l,_,rfl,.inl (AJ.of (by rw[Ac N];exact a3)),T,_,_,rfl,rfl,Aa,?_;·rw[z3];have:(700000:Nat)<=sizeLine:=⋯;lia
    exists _,rfl,.inl ⟨rfl,_,AJ.of Aa⟩,_,rfl,T,l,_,_,rfl,rfl,Aa,(by rw[Ac N,Ac N];exact a3),?_;·rw[zd,z3,z3];show a.length+1+_<=sizeLine;have:(700000:Nat)<=sizeLine:=⋯;rw[zm]at hm;lia
    ·rw[DH,DH];obtain⟨⟨b6,a5⟩,a1,Y,Y⟩:=c7;have J:∀{o:HO},DA T W (Av W T o):=fun b o e n=>by rw[Ac n];exact e
     have d0:TaflEndsNeutral.step s (PyWqacdc.whole c)=((TaflEnds.step s M).1,(TaflEnds.step s M).2.nums):=by unfold TaflEndsNeutral.step;rw[c5]
     rw[zm]at hm;exists v.length,∅,_,(TaflEnds.step s M).1,p',g',v,a++(((TaflEnds.step s M).2.nums.length:Int)::(TaflEnds.step s M).2.nums),rfl,⟨⟨b6,J _ _ a5 (zN O)⟩,AJ.but J (zN G) a1,C,R⟩,?_,?_,a8,rfl,ha.2,?_
     ·rw[gq];refine c8.kz fun b o eb nz=>?_;rw[BY];·exact eb
      ·intro q;rw[q,b0]at eb;cases eb;exact nz _ _ rfl
     ·rw[Aa,z3,zu,zX];rfl
     ·rw[e];show a++PyFlat.told ((TaflEndsNeutral.step s (PyWqacdc.whole c)).2::PyFlat.played _ (TaflEndsNeutral.step s (PyWqacdc.whole c)).1 _)=_;rw[d0,zX];rfl
     ·rw[zd,zm];lia
   ·refine B9 (zo hp) ⟨_,rfl,?_⟩;have e0:ns.drop p=[]:=yN ∅;rw[e0]at y;have:j=[]:=by cases g<;>exact(zt y).symm
    subst this;refine k H' T ?_;rw[b1,e];show some (HO.lst (a.map V.int))=some (HO.lst ((a++[]).map V.int));rw[zR]
inductive Og(K:Frag)(f:Addr)(x qual:Str)(st:Stmt):Prop|mk(oc:Value)(od:Option Addr)(kV doc pm:Value)(an:Option Addr)(cdv ct:Value)(sl:Array (Option Value)):K.lookup f=some ⟨oc,od,.func (fnOf x qual (G_ st) (DN st) (Ad st) .none kV doc pm an cdv ct),sl⟩->codeIn K cdv qual=true->keepIn K (.ref f)=true->Og K f x qual st
def Uk:Nat->(List Value->Prop)->Prop|0,p=>p [] |n+1,p=>∀v,Uk n fun l=>p (v::l)
theorem Uk.of:∀{n:Nat}{p:List Value->Prop},Uk n p->∀a:List Value,a.length=n->p a|0,_,h,[],_=>h|_+1,_,h,v::l,e=>Uk.of (h v) l (Nat.succ.inj e)
def G6(x a:Str)(b:Stmt)(f:List Str):Prop:=∀(h c g:Value)(i:Option Addr)(d ct:Value),Uk f.length fun e=>bindArgs (fnOf x a (G_ b) (DN b) (Ad b) .none h c g i d ct) ⟨e,[]⟩=pure (f.zip e)
theorem Og.ok{K:Frag}{g:Str}{i:Stmt}{j:List Str}(h:Og K f x g i)(b:G6 x g i j):∃fd,En K x g i f fd/\Bn K fd j []:=by obtain⟨s,r,t,m,q,u,n,ct,p,l,c,k⟩:=h;have F:=cA (st:=i) l c k;exact⟨_,F,F.binds fun a o c d e f=>(b a o c d e f).of⟩
section
variable{K:Frag}{h:Heap}{mg:Str->Option Value}{f C:Addr}{x qual:Str}{st:Stmt}{ps:List Str}
theorem kx(X:K.In h)(G:h.Ns mainGlobals mg)(a:nsIn K mainGlobals x=some (some (.ref f)):=by k_is)(F:Og K f x x st:=by exact⟨_,_,_,_,_,_,_,_,_,by k_is,by k_is,by k_is⟩)(b:G6 x x st ps:=by(repeat intro);rfl):Def K mg x st ps:=by obtain⟨fd,F,b⟩:=F.ok b;exact⟨f,fd,F,b,tW X G a⟩
theorem jK(a:findIn K (.ref C) x=some (some (.ref f)):=by k_is)(i:isFn K (.ref f)=true:=by k_is)(F:Og K f x qual st:=by exact⟨_,_,_,_,_,_,_,_,_,by k_is,by k_is,by k_is⟩)(b:G6 x qual st ps:=by(repeat intro);rfl):Met K C x qual st ps:=by obtain⟨fd,F,b⟩:=F.ok b;exact⟨f,fd,F,b,a,i,F.kp⟩
theorem jU(a:findIn K (.ref C) "__init__"=some (some (.ref f)):=by k_is)(i:isFn K (.ref f)=true:=by k_is)(m:makesIn K C=true:=by k_is)(c:keepIn K (.ref C)=true:=by k_is)(F:Og K f "__init__" qual st:=by exact⟨_,_,_,_,_,_,_,_,_,by k_is,by k_is,by k_is⟩)(b:G6 "__init__" qual st ps:=by(repeat intro);rfl):gJ K C qual st ps:=by obtain⟨fd,F,b⟩:=F.ok b;exact⟨f,fd,F,b,m,a,i,c⟩
theorem gv(X:K.In h)(G:h.Ns mainGlobals mg)(a:nsIn K mainGlobals x=some (some (.ref C)):=by k_is)(i:findIn K (.ref C) "__init__"=some (some (.ref f)):=by k_is)(fn:isFn K (.ref f)=true:=by k_is)(mk:D7 K C=true:=by kernel_rfl)(d:keepIn K (.ref C)=true:=by k_is)(c:subIn K (.ref C) (.type "type")=some false:=by k_is)(F:Og K f "__init__" qual st:=by exact⟨_,_,_,_,_,_,_,_,_,by k_is,by k_is,by k_is⟩)(b:G6 "__init__" qual st ps:=by(repeat intro);rfl)(t:VT K C "told":=by exact⟨by kernel_rfl,by k_is,by k_is,by k_is,by k_is⟩):Rg K mg C x qual st ps:=by obtain⟨fd,F,b⟩:=F.ok b;exact⟨f,fd,F,b,⟨mk,i,fn,d,c⟩,t,tW X G a⟩
theorem eT(X:K.In h)(G:h.Ns mainGlobals mg)(g:nsIn K mainGlobals "Exception"=some none:=by k_is)(a:nsIn K mainGlobals "Refusal"=some (some (.ref C)):=by k_is)(i:findIn K (.ref C) "__init__"=some (some (.ref f)):=by k_is)(F:Og K f "__init__" "Refusal.__init__" FU:=by exact⟨_,_,_,_,_,_,_,_,_,by k_is,by k_is,by k_is⟩)(b:G6 "__init__" "Refusal.__init__" FU ["self","told"]:=by(repeat intro);rfl)(e:readsIn K C (.type "type")=true:=by k_is)(d:specialIn K (.ref C) "__getattribute__"=some (some (.builtin "type.__getattribute__")):=by k_is)(c:(match findCls K (.ref C) (.type "type") "__init__"with|some (.val v)=>v== .ref f|_=>false)=true:=by kernel_rfl):kR K mg:=by obtain⟨fd,F,b⟩:=F.ok b;exact⟨f,fd,C,F,b,PySem.W.mg_none_of X G g,tW X G a,e,d,F.kp,c⟩
theorem kM(i:findIn K (.ref C) "__init__"=some (some (.ref f)):=by k_is)(fn:isFn K (.ref f)=true:=by k_is)(mk:D7 K C=true:=by kernel_rfl)(d:keepIn K (.ref C)=true:=by k_is)(c:subIn K (.ref C) (.type "type")=some false:=by k_is)(F:Og K f "__init__" "Astray.__init__" Fp:=by exact⟨_,_,_,_,_,_,_,_,_,by k_is,by k_is,by k_is⟩)(b:G6 "__init__" "Astray.__init__" Fp ["self","place"]:=by(repeat intro);rfl):∃a fdA,En K "__init__" "Astray.__init__" Fp a fdA/\Bn K fdA ["self","place"] []/\PM K C a:=by obtain⟨fd,F,b⟩:=F.ok b;exact⟨f,fd,F,b,mk,i,fn,d,c⟩
theorem na{y:Str}(e:findIn K (.ref C) y=some none:=by k_is):Bm K C y:=e
theorem CO{o:Obj}{b:Array Value}(l:K.lookup a=some o:=by k_is)(c:o.cls= .type "tuple":=by rfl)(d:o.data= .seq b n:=by rfl)(z:b.size<=sizeLine:=by decide+kernel)(v:AG xs b.toList:=by repeat(first|exact .nil|refine .cons (by first|exact rfl|exact⟨_,rfl⟩) ?_)):BR K a xs:=⟨o,b,n,l,c,d,z,v⟩
theorem VE{C B A z x w v s r q p o l j h g f e d:Addr}(m:mg "CHOICES"=some (.ref C))(k:BR K C [.ref B,.ref A,.ref z,.ref x,.ref w,.ref v,.ref s,.ref r,.ref q]:=by exact He.CO)(V:BR K B [.str "first",.str "first ",.ref p]:=by exact He.CO)(M:BR K p [.str "hunters",.str "king"]:=by exact He.CO)(U:BR K A [.str "slides",.str "\nking ",.ref o]:=by exact He.CO)(L:BR K o [.str "steps",.str "slides"]:=by exact He.CO)(T:BR K z [.str "armed",.str " ",.ref l]:=by exact He.CO)(J:BR K l [.str "bare",.str "armed"]:=by exact He.CO)(S:BR K x [.str "four",.str " ",.ref j]:=by exact He.CO)(I:BR K j [.str "two",.str "four"]:=by exact He.CO)(R:BR K w [.str "passed",.str "\nseat ",.ref h]:=by exact He.CO)(H:BR K h [.str "barred",.str "passed"]:=by exact He.CO)(Q:BR K v [.str "seat",.str " ",.ref g]:=by exact He.CO)(G:BR K g [.str "quiet",.str "hunters",.str "men",.str "all"]:=by exact He.CO)(P:BR K s [.str "exits",.str "\nexits ",.ref f]:=by exact He.CO)(F:BR K f [.str "quiet",.str "hunters",.str "men",.str "all"]:=by exact He.CO)(O:BR K r [.str "goal",.str "\ngoal ",.ref e]:=by exact He.CO)(E:BR K e [.str "edge",.str "exits"]:=by exact He.CO)(N:BR K q [.str "thrice",.str "\nthrice ",.ref d]:=by exact He.CO)(D:BR K d [.str "drawn",.str "hunters",.str "king"]:=by exact He.CO):Ri K mg:=by refine⟨C,[B,A,z,x,w,v,s,r,q],[p,o,l,j,h,g,f,e,d],m,k,rfl,rfl,fun i t u y a c b=>?_⟩;match i,a,c,b with|0,a,c,b=>cases a;cases c;cases b;exact⟨V,M⟩ |1,a,c,b=>cases a;cases c;cases b;exact⟨U,L⟩ |2,a,c,b=>cases a;cases c;cases b;exact⟨T,J⟩ |3,a,c,b=>cases a;cases c;cases b;exact⟨S,I⟩ |4,a,c,b=>cases a;cases c;cases b;exact⟨R,H⟩ |5,a,c,b=>cases a;cases c;cases b;exact⟨Q,G⟩ |6,a,c,b=>cases a;cases c;cases b;exact⟨P,F⟩ |7,a,c,b=>cases a;cases c;cases b;exact⟨O,E⟩ |8,a,c,b=>cases a;cases c;cases b;exact⟨N,D⟩ |n+9,a,_,_=>cases a
end
theorem kO:Sx Y:=fun a b b F=>Tj a F
theorem km{P:Program}{w:World}{K:Frag}{mg:Str->Option Value}{g:Addr}(d:mg "answers"=some (.ref g))(m:mg "answers"=some (.ref f))(D:Og K f "answers" "answers" EM:=by exact⟨_,_,_,_,_,_,_,_,_,by k_is,by k_is,by k_is⟩)(b:G6 "answers" "answers" EM ["calls"]:=by(repeat intro);rfl){v u x y z A j p r q t o n:Addr}(Z:pV K mg v u x y z CA A j p r q t o n):∃fd:FuncData,(∀(s:Shared)(a:List Value),a.length=(["calls"]:List Str).length->BindsTo s fd ⟨a,[]⟩ ((["calls"]:List Str).zip a))/\∀base:Heap,K.In base->base.Ns mainGlobals mg->D9 P w K mg base PQ 13 g fd ["calls"] (EJ K):=by
 obtain⟨J,I,C,h,B,G,i,ct,H,l,c,k⟩:=D;have F:=cA (st:=EM) l c k;have e:g=f:=by rw[d]at m;injection m with m;injection m
 subst e;exact⟨_,fun s a E=> .of_eq ((b C h B G i ct).of a E),fun base Y Y=>ly kO ⟨P,w,K,mg,base,v,u,x,y,z,CA,A,j,p,r,q,t,o,n⟩ Z F⟩
end He
end
open PySem PySem.W PyProof.Rows
noncomputable def He.ad:List Addr:=(Hd.heap_1 He.pm).map (·.1)
set_option maxRecDepth 1000000 in theorem He.dk(P:Params):He.ad=(Hd.heap_1 P).map (·.1):=by kernel_rfl
set_option maxRecDepth 100000 in
set_option maxHeartbeats 0 in
theorem PySem.Challenge.cw_hallends_s01_answers_holds : PySem.Challenge.rw_hallends_s01_answers.Holds := by
 
 w_on;refine holds_os (q:=Hd.view_1) (loose:=He.lo) (Xt:=He.Xt) (XP:=XL Hd.view_1 []) (Yf:=(kHook Hd.heap_1 He.ad He.dk).obs) (Ya:=(kHook Hd.heap_1 He.ad He.dk).val) (YP:=(kHook Hd.heap_1 He.ad He.dk).says) (N:=12274) (He.left _ _) (Hook.of _) (Hook.keeps _) (fun s e=>xl_of s (Bool.and_eq_true_iff.mp e).1) XL.keeps (by rfl) (by rfl) (by rfl) (fun s e=>recFacts_of (Bool.and_eq_true_iff.mp e).2) os_shapes (by decide+kernel) (by decide+kernel) ⟨rfl,rfl,rfl,rfl,rfl,by decide+kernel⟩ ⟨[.list [.int 6]],by decide+kernel,by decide+kernel⟩ ?_;k_fillS;refine L2.Uq (r:=PySem.Challenge.rw_hallends_s01_answers) (k:=13) (CX:=L2.PQ) (ps:=["calls"]) (sp:=He.EJ) (by decide+kernel) rfl rfl ⟨rfl,by decide,by decide⟩ (fun w h Y=>kIn_of Y) ?F ?S (fun _ _ _ _ z=>z);case F=>intro w mg fa h Y KX G hmg;exact He.km hmg (mg_of KX G (by k_is)) (Z:=by constructor<;>first|exact mg_of KX G (by k_is) |exact mg_none_of KX G (by k_is) |exact He.kx KX G|exact He.jK|exact He.jU|exact He.gv KX G|exact⟨_,mg_of KX G (by k_is)⟩ |exact⟨⟨by kernel_rfl,by k_is,by k_is,by k_is,by k_is⟩,by k_is⟩ |exact He.eT KX G|exact He.kM|exact He.VE (mg_of KX G (by k_is)) |exact⟨by kernel_rfl,by k_is,by k_is,by k_is,by k_is⟩ |exact⟨⟨by k_is,by k_is,by k_is,by k_is⟩,He.na,He.na⟩ |exact⟨⟨by k_is,by k_is,by k_is,by k_is⟩,He.na,He.na,He.na,He.na⟩ |exact⟨⟨by k_is,by k_is,by k_is,by k_is⟩,He.na,He.na,He.na,He.na,He.na,He.na,He.na,He.na,He.na,He.na,He.na⟩ |exact⟨_,_,mg_of KX G (by k_is),by decide+kernel⟩ |exact⟨_,mg_of KX G (by k_is),He.CO⟩ |exact⟨_,_,mg_of KX G (by k_is),mg_of KX G (by k_is),He.CO,He.CO⟩ |exact⟨_,_,_,mg_of KX G (by k_is),He.CO,He.CO,He.CO⟩ |exact⟨_,_,_,_,_,mg_of KX G (by k_is),He.CO,He.CO,He.CO,He.CO,He.CO⟩ |k_is|kernel_rfl)
 case S=>intro K H xs a hO hwi hask hx;cases hx with|cons h1 h2=>cases h2;cases h1 with|lst hs ha=>have e:=L2.WS a.1 _ ha;subst e;have q:((Codec.inLen 0 30000 a.1&&a.1.all (Codec.inInt 0 2147483647))&&true)=true:=hwi;rw[Bool.and_eq_true,Bool.and_eq_true]at q;exact⟨_,a.1,rfl,hs,(Codec.inNat_iff.mp q.1.1).2,hask,fun H' p hp=> .lst (L2.AJ.of hp) (L2.Xf _)⟩
